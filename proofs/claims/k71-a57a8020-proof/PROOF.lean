import PyProof.Rows.All
import Wide.All
import OpenK.AllK
import Wide.FinOn
import Lean
import PyProof.EqAt
import PyProof.EqKinds
import PyProof.TupleCall
import PyProof.CompFree
import PyProof.P3In
import PyProof.RaisesMany
import PyProof.StationsW
import PyProof.ExcClass3
import PyProof.ExcBaseAll.ValueError
import PyProof.RulesTry
import PyProof.RulesAs
import PyProof.NsDelKeeps
import KE.KTryMore
import PyProof.ExcArgs
import KE.RegKIsAll
import PyProof.Rows.EqDataRows
import KE.KLam
import KE.KSortKey
import KE.KNestM
import PyProof.DictItemsLoops
import PyProof.DictValues
import PyProof.DictWalks
import KE.KMinBuiltin
import KE.KEqDict
import KE.KIntText
import KE.KDictOf
import PyProof.StrBlockH
import KE.KWords
import PyProof.CallStr
import PyProof.StrLawsTight
import PyProof.StrLawsChain
import PyProof.AttrMissHeap
import KE.KSortTup
import Wide.Seal
import PySem.Challenge.RW_twotimes_k71_forgotten
set_option Elab.async false
set_option linter.all false
set_option maxRecDepth 100000
set_option compiler.extract_closed false
set_option bootstrap.genMatcherCode false
noncomputable section
open Lean Parser Tactic in
def pT:Nat->Syntax->MacroM (Array (TSyntax `rcasesPat))
|n+1,s=>do
 let q:=match s with|`(($p,$q,*))=>#[p]++q.getElems|`(⟨$q,*⟩)=>q.getElems|_=>#[]
 if q.size>0 then pure #[<-`(rcasesPat|⟨$(<-q.mapM λx=>do`(rcasesPatLo|$[$(<-pT n x):rcasesPat]|*)),*⟩)]
 else match s with
 |`($x:ident)=>pure #[<-`(rcasesPat|$x:ident)]
 |`(⟨⟩)=>pure #[<-`(rcasesPat|⟨⟩)]
 |`(($p))=>pure #[<-`(rcasesPat|($[$(<-pT n p):rcasesPat]|*))]
 |`($p||$q)=>pure ((<-pT n p)++(<-pT n q))
 |_=>pure #[<-`(rcasesPat|_)]
|_,_=>pure #[]
local macro_rules|`(tactic|let $c:letConfig $d:letDecl)=>`(tactic|have $c:letConfig $d:letDecl)
local macro_rules|`(tactic|let $p:term:=$e)=>do`(tactic|obtain $[$(<-pT 40 p):rcasesPat]|*:=$e)
local macro_rules|`(tactic|show $t)=>`(tactic|refine $t)
local macro_rules|`(tactic|ext $p*)=>`(tactic|rintro $p*)
local macro_rules|`(tactic|cbv)=>`(tactic|omega)
local macro_rules|`(tactic|o_head $t)=>`(tactic|simpa using $t)
local macro_rules|`(($a,$b,*))=>if b.elemsAndSeps.size%2=1 then `(⟨$a,$b,*⟩)else Lean.Macro.throwUnsupported
local macro_rules|`(↑$a)=>`(by simpa using $a)
open List renaming length_map→aM,mem_append→aO,mem_map→aQ,mem_singleton→aR,length_cons→aS,mem_cons→aT,getElem?_map→aU,map_cons→aV,length_append→aW,map_map→aX,map_append→aY,getElem?_eq_getElem→bf,replicate→bg,getElem?_eq_some_iff→bh,length_take→bj,pairwise_map→bn,mem_of_getElem?→bp,map_nil→bt,pairwise_append→bu,filter_cons→bv,length→bz,append_assoc→bA,mem_filter→bC,filterMap_cons→bD,lookup_cons→bG,pairwise_cons→bI,size_toArray→bJ,mem_map_of_mem→bK,append_nil→bL,Perm→bM,Pairwise→bO,find?_cons→bP,mem_append_right→bQ,length_drop→bT,take_length→bY,mem_cons_of_mem→b3,take_add_one→b4,all_cons→b5,map_congr_left→b7,length_filterMap_le→b9,take_of_length_le→ca,nodup_append→cc,mem_cons_self→cf,nodup_cons→cg,of_mem_zip→ci,reverse_append→cu,mem_of_mem_take→cw,mem_filterMap→cy,nil_append→cA,all_eq_true→cB,reverse_singleton→cC,any_eq_true→cD,filter_sublist→cE,getElem?_append_left→cG,reverse_cons→cH,any_cons→cI,getElem_mem→cL,length_pos_iff→cM,map_id→cN,flatMap_cons→cP,range→cQ,getElem?_append_right→cS,flatten_cons→cT,cons→cV,take_append_drop→cZ,cons_append→c9,filter_eq_nil_iff→dg,filter_eq_self→dh,getElem?_set_ne→di,lookup→dq,replicate_succ→dr,length_singleton→du,drop_eq_getElem_cons→dy,pairwise_singleton→dz,drop_eq_nil_of_le→dA,mem_of_mem_drop→dB,extract_eq_take_drop→dC,getElem?_of_mem→dE,singleton_append→dG,take_append_of_le_length→dH,length_zip→dI,mem_of_find?_eq_some→dJ,filter_append→dL,find?_eq_none→dM,getElem?_set_self→dN,take_sublist→dP,filterMap_map→dQ,filterMap_append→dU,length_eq_zero_iff→dW,getElem_of_mem→dX,getElem?_drop→dY,pairwise_iff_getElem→d3,getElem?_take→d6,drop_append→d8,eraseIdx_cons_succ→d9,ext_getElem?→ed,dropLast_subset→ej,take_succ_cons→er,rel_of_pairwise_cons→et,map_eq_nil_iff→eu,length_filter_le→eD,find?_some→eE,getElem?_eq_none_iff→eI,mem_range→eK,mem_append_left→eM,foldl_cons→eR,getD_eq_getElem?_getD→eT,drop_sublist→eU,perm_middle→eV,perm_append_comm→eW,drop_append_of_le_length→eY,le_antisymm→fj,countP_cons→fm,getElem?_eq_none→fq,foldl_append→ft,append_inj'→fv,getElem_zip→fw,find?_append→fy,getLast?_eq_none_iff→fz,cons_lt_cons_iff→fA,mem_reverse→fB,filter_congr→fC,perm_ext_iff_of_nodup→fD,find?_isSome→fF,nil_perm→fG,mem_flatMap→fH,pairwise_flatMap→fI
open Nat renaming le_refl→aN,ne_of_lt→aZ,le_trans→be,zero_le→bo,lt_of_lt_of_le→bB,lt_of_le_of_lt→cj,lt_irrefl→cx,le_of_lt→cF,le_succ→cR,lt_succ_of_lt→cU,zero_add→cX,ne_of_gt→dk,le_of_eq→dO,lt_trans→dS,add_sub_cancel→d4,add_zero→d7,add_mul→eB,one_mul→eC,mul_le_mul_right→eF,lt_succ_self→eP,min_le_right→eQ,add_assoc→eZ,le_add_right→fu
open False renaming elim→aP
open Int renaming le_trans→bx,le_refl→bH,le_of_lt→bR,emod_nonneg→bZ,emod_lt_of_pos→b8,eq_ofNat_of_zero_le→cO,not_lt→dD,lt_irrefl→fi
open Bool renaming false_ne_true→bE,and_eq_true→bW,true_and→bX,false_eq_true→b6,eq_iff_iff→cz,and_true→de,and_false→dv,and_eq_true_iff→dw,false_and→ei,true→cp,false→js
open Option renaming some→bN,map_some→cJ,getD_none→dR,isSome_map→eS,isNone_none→fE,map_none→fJ,none→ce
open Array renaming toList_push→bS,length_toList→bU,getElem?_toList→cb,perm_iff_toList_perm→cW,Perm→cY,toArray_toList→eg,append_empty→eh,append_assoc→eJ,mem_toList_iff→eO,toList_extract→eX,getElem?_modify→fe,toList_map→fg,size_map→fh,forIn_toList→fx
open Or renaming inr→bV,inl→cq
open PySem renaming wpAny_bind→fK,sizeLine→fL,Program→fO,starEach→fP,compareOp→fR,wpAny_pure→fS,NameKind→fT,Builtin→fU,binaryOp→fV,sizeLine_eq→fW,mainGlobals→fX,wpAny_mono→fY,holding→fZ,FuncData→f6,wpAny_holding→gb,standAt→gc,sysModules→gj,tupleKind→gm,SetTable→gn,bootBuiltins→gq,assignEach→gv,PassesOwn→gy,wpAny_truthy_bool→gz,swapsWith→gA,getMethod→gC,codeAny→gG,backToKw→gH,keywordEach→gI,storedH→gJ,inplaceOp→gM,foldedSetIterable→gO,attributeBase→gQ,callWith→gR,behindInMarks→gS,sliceBounds→gU,callerA→gX,wpAny_rule→g6,BindsTo→g8,bindArgs→g9,typeIs_str→hG,call_meets→hU,valueAt→hZ,compEnvC→h7,wpAny_newList→ib,builtinsNs→ic,wpAny_passesOwn→ie,DictEntry→ig,codeAny_mono→ii,wpAny_Call_Name_kw→ij,Keyword→ik,wpAny_field→im,getItem→io,wpAny_call_entry→ip,Arguments→ir,tupleKind_room_in1→iu,closureFor→iw,notedBy→iy,setItem→iE,unaryOp→iF,lastMarks→iG,cellsFrom→iH,PlainAttrs→iI,call_meetsIn→iJ,wpAny_getItem_str_slice→iK,post_val_or_str→iM,GenState→iO,storeName→iW,wpAny_Name→iX,wpAny_execs_nil→iY,wpAny_standAt→iZ,swapsWithSole→i3,swappedStores→i5,letOwnedTupleGo→i6,wpAny_pyIter_list→i7,wpAny_call→i8,seqIndex_of→i9,seqIndex_neg→ja,typeIs_int→jd,compPost→je,unsupported→jf,wpAny_attempt→jk,defaultsOf→jr
open PyProof.Rows renaming wpS_bind→fM,wpS_pure→fN,pendingOf→fQ,wpS_forRange→f7,failedOf→f8,wpS_mono→f9,SortKind→ge,wpS_get→gg,wpS_modify→gi,AllBare→gr,pairsOf→gY,listUpdate_at→gZ,tuples'→g4,sortedS→g5,StrsAre→h9,IntsAre→iq,reverseSlice'→iz,setPending→iA,seqEpoch_at→iB,pairsOf_toList→iC,size_push'→iN,kind_sorted→iP,plain_sorted→iQ,entry_sorted→iR,slot_list_sort→iU,entry_list_sort→iV,subscriptTail_builtinR→jc,wpS_lift→jg,mergeAt'→jh,sortedHeap→ji,listItems_at→jj,args_sorted1→jl,args_list_sort→jm,sortedHeap_at→jo,sortedHeap_old→jp,collect_list→jq
abbrev Fg:=PySem.W.Frag
set_option tactic.hygienic false
namespace PySem.W.Fast
noncomputable def z:=0
def tw801696584562036096:=z
def tw10939080436764970229:=z
def tw652425088320414852:=z
def tw2766835149141930964:=z
def tw11834884342282964367:=z
def tw2178947642833429427:=z
def tw7886329505692183808:=z
def tw18053931635636713947:=z
def tw4965205538822095836:=z
def tw10803055398242979927:=z
def tw12417204165204171831:=z
def tw16582660668786319581:=z
def tw13051091521395884685:=z
def tw13496021875536183288:=z
def tw6567059027770706459:=z
def tw10522508871568423195:=z
def tw6277252476000202970:=z
def tw16152435100554810523:=z
def tw7154787587600810226:=z
def tw17624739137585116345:=z
def tw1270134776836514392:=z
def tw2182874413434768806:=z
def tw16364088966047565238:=z
def tw5954417712843992984:=z
def tw7528035856087929320:=z
def tw12796375765205857733:=z
def tw4455739114720944385:=z
def tw14571685793985797507:=z
def tw17232764153032643139:=z
def tw11384276868852621813:=z
def tw6413248236670218250:=z
def tw17741317190076661932:=z
def tw15844610126243746646:=z
def tw12173594495071553255:=z
def tw7944058358451761208:=z
def tw7285005049707568848:=z
def tw15358990329057787986:=z
def tw13371768403242011965:=z
def tw1248745612156347639:=z
def tw10963804674616141884:=z
def tw15309100327839399155:=z
def tw9559235104887569820:=z
def tw2625625882267777338:=z
def tw1510493383870568007:=z
def tw12107386416909290135:=z
def tw3240120744978119202:=z
def tw11109079739059747865:=z
def tw10206542359553381203:=z
def tw596950226894957098:=z
def tw7443325750850755300:=z
def tw14433282399676033983:=z
def tw6734011790221639461:=z
def tw10891005787853000665:=z
def tw16244009458325001245:=z
def tw10050770875699655652:=z
def tw8379414292625482572:=z
def tw14153308933918513108:=z
def tw13558257961534071910:=z
def tw18266137614363105216:=z
def tw3049299930120206629:=z
def tw7042109445981470088:=z
def tw7496576700594736290:=z
def tw5625234017241884273:=z
def tw8528856105667349272:=z
def tw12309688910640581236:=z
def tw11908064571041810523:=z
def tw2218680893751112912:=z
def tw4982873817443950145:=z
def tw1622185586505228990:=z
def tw619383171774657116:=z
def tw12380378008025239939:=z
def tw7315251622817503505:=z
def tw8944539042421300007:=z
def tw15335063058474779655:=z
def tw2925769359179777716:=z
def tw11021573592173720870:=z
def tw10211084316275198930:=z
def tw9676097538706154641:=z
def tw15926212218170131711:=z
def tw13421824494950659410:=z
def tw12450243332103795161:=z
def tw6788818818851799046:=z
def tw6324356595315385085:=z
def tw4225067064775629714:=z
def tw7392505817299548622:=z
def tw14364338790860123015:=z
def tw8152876719273357787:=z
def tw2276572600265128751:=z
def tw12285628561924311623:=z
def tw1492762515848865558:=z
def tw11884953900990539416:=z
def tw1561603553141488159:=z
def tw28003781801425209:=z
def tw11877435747188306762:=z
def tw674633095875465993:=z
def tw4269361989818049441:=z
def tw4763187427723989108:=z
def tw5366011100090116532:=z
def tw14524005847302887227:=z
def tw7169289708471121060:=z
def tw5659071291786859290:=z
def tw12080442899730159344:=z
def tw3182668091703154687:=z
def tw11551648264386151551:=z
def tw11039962230470636903:=z
def tw7964449793346561488:=z
def tw17316941379196054874:=z
def tw14866895898785819313:=z
def tw15584114715815574341:=z
def tw13513118360619904812:=z
def tw5367195944636706594:=z
def tw15685570525331786895:=z
def tw13269106429097507614:=z
def tw1226415275985918218:=z
def tw8089021392017807915:=z
def tw172546571725607861:=z
def tw11841698652922730537:=z
def tw2143120316825852480:=z
def tw18419334610988169910:=z
def tw16291484458507514898:=z
def tw264451914005056122:=z
def tw16083947341117570654:=z
def tw8907406996948998614:=z
def tw4420488830437408622:=z
def tw2011994922267672317:=z
def tw17133816182915000738:=z
def tw14247111918044062829:=z
def tw11977134040647614816:=z
def tw4555784118503719851:=z
def tw14310141440554312449:=z
def tw16454544188307955713:=z
def tw11031042091133844112:=z
def tw6224995865083032535:=z
def tw4042963103922991298:=z
def tw13124349010985305950:=z
def tw11262704439502835185:=z
def tw10709275909042282983:=z
def tw16566831850398433147:=z
def tw3107766543830694844:=z
def tw362329793132773404:=z
def tw8400173406955857195:=z
def tw16111443151309118206:=z
def tw4722556047939333198:=z
def tw18424686038111064777:=z
def tw12405679742315758097:=z
def tw14818245497632052847:=z
def tw12202522520860015647:=z
def tw11732212642513075114:=z
def tw8224054660560267402:=z
def tw7388915359353971801:=z
def tw11289384087708466887:=z
def tw3469139762162185446:=z
def tw17216457591001703264:=z
def tw16415835038199723200:=z
def tw5795037878951486790:=z
def tw12820330423631328358:=z
def tw8928098175855833134:=z
def tw2217977254768116876:=z
def tw9025621682166480047:=z
def tw5460894106695991389:=z
def tw4274956608779676143:=z
def tw13026888426327475119:=z
def tw2652654558579170465:=z
def tw17932499353849813950:=z
def tw2929830782245991856:=z
def tw2506717411153621852:=z
def tw10145235432884094901:=z
def tw6992872757330934579:=z
def tw1289013602066890006:=z
def tw12598533216857887382:=z
def tw1271130556598453173:=z
def tw3884561504550572814:=z
def tw6562519552357127388:=z
def tw17386863046848748529:=z
def tw4583944885401690427:=z
def tw13903568047630832707:=z
def tw2291864766234555800:=z
def tw15581796317113360392:=z
def tw10330066643817854629:=z
def tw16137262067278322026:=z
def tw15016586197505070375:=z
def tw11585135841926979323:=z
def tw7716486783924923193:=z
def tw3869699970698727446:=z
def tw3964328114535008049:=z
def tw11800571928654002778:=z
def tw14224772018943784134:=z
def tw4455762203428914824:=z
def tw14531349996088666394:=z
def tw18270684967740370727:=z
def tw3603492777852919511:=z
def tw7051040017875703452:=z
def tw15180196941577623748:=z
def tw14821372250625149869:=z
def tw17825756458932043246:=z
def tw16234698940579061265:=z
def tw16827100313060907214:=z
def tw6303507996233695367:=z
def tw15035776939055381147:=z
def tw2312425142096838988:=z
def tw5972475319803650674:=z
def tw5862781877687904839:=z
def tw10695243572602698342:=z
def tw5791845612440026519:=z
def tw1405735980194008100:=z
def tw3795674781561229149:=z
def tw3501389230823077430:=z
def tw6705891669223764814:=z
def tw14365814152147707369:=z
def tw7054533652319300923:=z
def tw3750569097795266701:=z
def tw13940266828346129179:=z
def tw16421888855731427423:=z
def tw13308359995464888444:=z
def tw6181253265795852248:=z
def tw3864425460701321453:=z
def tw12734587187753723621:=z
def tw15476625787358788703:=z
def tw11626828100836719151:=z
def tw16195544637370642181:=z
def tw6760336505572876073:=z
def tw2734794357066073628:=z
def tw11628063888738613989:=z
def tw12604987954789917191:=z
def tw17217966489202958135:=z
def tw2643242510871735674:=z
def tw11678998081544310337:=z
def tw16141878392049858782:=z
def tw14310918882554840232:=z
def tw17421620150358455651:=z
def tw4556915940143114177:=z
def tw4977150894188861917:=z
def tw18306447145865049738:=z
def tw704666734528584469:=z
def tw2123230132619780696:=z
def tw11994623546413996522:=z
def tw11685026456227429972:=z
def tw591941830885877249:=z
def tw11038319334769891644:=z
def tw13240506889919148499:=z
def tw10017609160984707641:=z
def tw2405664425253142101:=z
def tw13953112302127908385:=z
def tw1389530465287959087:=z
def tw17442338325552288769:=z
def tw1908317848001635603:=z
def tw5496962260250406196:=z
def tw5081840072570827902:=z
def tw16172154509683913822:=z
def tw14252446025631163770:=z
def tw4654218142043591726:=z
def tw6430358000513697537:=z
def tw2669174754765807297:=z
def tw14772024662289197339:=z
def tw16199134431251054836:=z
def tw10769635182419448976:=z
def tw6882839812153088871:=z
def tw9434751413206520666:=z
def tw16873020078972467040:=z
def tw17960326874843576478:=z
def tw1521306182902923651:=z
def tw3611837433874929954:=z
def tw17189087511392657138:=z
def tw14125423527873000528:=z
def tw9841835206670686287:=z
def tw2477167454005742372:=z
def tw15800533266436676994:=z
def tw1224602406369102336:=z
def tw5016028889608268443:=z
def tw5720796230108148866:=z
def tw282812126466487605:=z
def tw17927668444849532899:=z
def tw7084570119226359750:=z
def tw12102199149409512769:=z
def tw11467094029598289763:=z
def tw15921226529835618177:=z
def tw7823497848259610142:=z
def tw13801349987475975071:=z
def tw11422022336938457997:=z
def tw3766037883833890040:=z
def tw2575069262454440286:=z
def tw6198760260171091318:=z
def tw3647152919151192354:=z
def tw13498731950479122030:=z
def tw6943274419132945403:=z
def tw3781821109281758105:=z
def tw17326893241576630315:=z
def tw14550072277674460839:=z
def tw11176476817831128895:=z
def tw7034652048427845490:=z
def tw3898807930629929556:=z
def tw4234301275321037520:=z
def tw13446799083316299471:=z
def tw3718762485944349759:=z
def tw16697426526864763009:=z
def tw3118623611653336651:=z
def tw8758128029779461852:=z
def tw2564947145891768802:=z
def tw14194923227802149128:=z
def tw10295759739644012847:=z
def tw2590848053253925898:=z
def tw6448244121681401604:=z
def tw18018339618520797341:=z
def tw10626716101384272886:=z
def tw634939617801679911:=z
def tw9988050979477095724:=z
def tw18026796837197067524:=z
def tw3594517015560650817:=z
def tw4083578609926980856:=z
def tw5623204498644569394:=z
def tw5775739618468909942:=z
def tw916262227820811200:=z
def tw17988265565413253573:=z
def tw10840191385796706791:=z
def tw10531714874798506729:=z
def tw12912818009578069212:=z
def tw1294626686051010969:=z
def tw17276377838875695337:=z
def tw11418162998723326818:=z
def tw16621403174930652903:=z
def tw10468342544610066496:=z
def tw2523078147837483087:=z
def tw1754953950419883202:=z
def tw7185044936611714443:=z
def tw9718974072910411178:=z
def tw4899066906241451284:=z
def tw14406065565318878599:=z
def tw7053623185640152665:=z
def tw4235919254643234082:=z
def tw14702681718136163506:=z
def tw8651590022339336782:=z
def tw10998857901848405913:=z
def tw519941430275680007:=z
def tw10347832245196430107:=z
def tw7756685048494766815:=z
def tw7161542218392877248:=z
def tw18257634615191911327:=z
def tw9768397575857041958:=z
def tw17759914146498724678:=z
def tw9215122353025653169:=z
def tw2286051694454457127:=z
def tw15081169319529732103:=z
def tw13136542134168474981:=z
def tw9460438154989635067:=z
def tw14121108626018484675:=z
def tw7027598020726332699:=z
def tw11116417208707394729:=z
def tw10031206140951123563:=z
def tw16391348254540718671:=z
def tw1519502402343775228:=z
def tw8856112042539411571:=z
def tw8302661786936905912:=z
def tw7136828214847950117:=z
def tw10633827450878197034:=z
def tw2940877233552998094:=z
def tw9449672540945329587:=z
def tw15511081783358191868:=z
def tw3190013764810657591:=z
def tw11949667112911000666:=z
def tw10025547781190283571:=z
def tw5374294674727251224:=z
def tw7466557265732922553:=z
def tw5088477981493931916:=z
def tw12040891072414866625:=z
def tw15745329026042256298:=z
def tw18405231538591728309:=z
def tw17801925340762323327:=z
def tw17484156212800116324:=z
def tw14405808141605392528:=z
def tw14276451247929602108:=z
def tw2019307251733418027:=z
def tw17778856862835504915:=z
def tw8542003619914185863:=z
def tw5610043301639857070:=z
def tw9379482834473471877:=z
def tw1523019375346525063:=z
def tw3337032183710481509:=z
def tw1652710366235560517:=z
def tw16857089736588899413:=z
def tw2768050389667650498:=z
def tw16143332503621554066:=z
def tw12837562276548003640:=z
def tw18340130750858395350:=z
def tw4253482491224216220:=z
def tw10438867955478259738:=z
def tw14908180860054992465:=z
def tw8928622766210935545:=z
def tw11075399799319489106:=z
def tw10606939093245694158:=z
def tw17747673903620657435:=z
def tw4744290659290409100:=z
def tw3398524048003735565:=z
def tw3568646029535466672:=z
def tw9850220669245440050:=z
def tw4539219017768428535:=z
def tw12816399161869728158:=z
def tw13982183277671026784:=z
def tw9864398825778045133:=z
def tw11114708700866071183:=z
def tw7738842354839345980:=z
def tw2426013255882472142:=z
def tw10848870088877742743:=z
def tw3342461969702583363:=z
def tw3313603668155449965:=z
end PySem.W.Fast
set_option genInjectivity false in
inductive Ex2 {α0 α1:Type}(p:α0->α1->Prop):Prop
 |mk (a0:α0) (a1:α1) (h:p a0 a1):Ex2 p
set_option genInjectivity false in
inductive Ex4 {α0 α1 α2 α3:Type}(p:α0->α1->α2->α3->Prop):Prop
 |mk (a0:α0) (a1:α1) (a2:α2) (a3:α3) (h:p a0 a1 a2 a3):Ex4 p
set_option genInjectivity false in
inductive Ex5 {α0 α1 α2 α3 α4:Type}(p:α0->α1->α2->α3->α4->Prop):Prop
 |mk (a0:α0) (a1:α1) (a2:α2) (a3:α3) (a4:α4) (h:p a0 a1 a2 a3 a4):Ex5 p
set_option genInjectivity false in
inductive Ex6 {α0 α1 α2 α3 α4 α5:Type}(p:α0->α1->α2->α3->α4->α5->Prop):Prop
 |mk (a0:α0) (a1:α1) (a2:α2) (a3:α3) (a4:α4) (a5:α5) (h:p a0 a1 a2 a3 a4 a5):Ex6 p
set_option genInjectivity false in
inductive Ex7 {α0 α1 α2 α3 α4 α5 α6:Type}(p:α0->α1->α2->α3->α4->α5->α6->Prop):Prop
 |mk (a0:α0) (a1:α1) (a2:α2) (a3:α3) (a4:α4) (a5:α5) (a6:α6) (h:p a0 a1 a2 a3 a4 a5 a6):Ex7 p
set_option genInjectivity false in
inductive Ex8 {α0 α1 α2 α3 α4 α5 α6 α7:Type}(p:α0->α1->α2->α3->α4->α5->α6->α7->Prop):Prop
 |mk (a0:α0) (a1:α1) (a2:α2) (a3:α3) (a4:α4) (a5:α5) (a6:α6) (a7:α7) (h:p a0 a1 a2 a3 a4 a5 a6 a7):Ex8 p
set_option genInjectivity false in
inductive Ex10 {α0 α1 α2 α3 α4 α5 α6 α7 α8 α9:Type}(p:α0->α1->α2->α3->α4->α5->α6->α7->α8->α9->Prop):Prop
 |mk (a0:α0) (a1:α1) (a2:α2) (a3:α3) (a4:α4) (a5:α5) (a6:α6) (a7:α7) (a8:α8) (a9:α9) (h:p a0 a1 a2 a3 a4 a5 a6 a7 a8 a9):Ex10 p
inductive An3 (a0 a1 a2:Prop):Prop
 |mk (h0:a0) (h1:a1) (h2:a2):An3 a0 a1 a2
inductive An4 (a0 a1 a2 a3:Prop):Prop
 |mk (h0:a0) (h1:a1) (h2:a2) (h3:a3):An4 a0 a1 a2 a3
inductive An5 (a0 a1 a2 a3 a4:Prop):Prop
 |mk (h0:a0) (h1:a1) (h2:a2) (h3:a3) (h4:a4):An5 a0 a1 a2 a3 a4
inductive An6 (a0 a1 a2 a3 a4 a5:Prop):Prop
 |mk (h0:a0) (h1:a1) (h2:a2) (h3:a3) (h4:a4) (h5:a5):An6 a0 a1 a2 a3 a4 a5
set_option maxHeartbeats 4000000
namespace PySem
noncomputable def a0F(env:Env):List (Str×fT)->List (Str×Addr)->List (Str×Addr)
 |[],cs=>cs
 | (n,k,)::r,cs=>if (k==.free)=cp then a0F env r ((n,(env.cells.lookup n).getD 0,)::cs) else a0F env r cs
def a4d(h:∀x∈scope.names,x.2=.free->∃c,env.cells.lookup x.1=bN c):iw scope env=pure (a0F env scope.names []):=by
 simp only[iw]
 suffices H:∀l b,(∀x∈l,x.2=.free->∃c,env.cells.lookup x.1=bN c) ->
   forIn l b _=pure (a0F env l b) by
  rw[H scope.names [] h];rfl
 ext l
 induction l with
 |nil=>ext b _;rfl
 |cons x l ih=>
  ext b j;let(n,k):=x;let g:=λb=>ih b λy o=>j y (b3 _ o);rw[List.forIn_cons]
  by_cases hk:k=.free
  .subst hk;let(c,m):=j _ cf rfl;let f:cellOf env n=pure c:=by unfold cellOf;rw[m]
   rw[if_pos (show (fT.free==fT.free)=cp from rfl),f];let e:a0F env ((n,fT.free,)::l) b=a0F env l ((n,c,)::b):=by
    change (if (fT.free==fT.free)=cp then _ else _)=_
    rw[m];rfl
   rw[e,<- g ((n,c,)::b)]
   rfl
  .let i:(k==fT.free)=js:=↑hk
   let e:a0F env ((n,k,)::l) b=a0F env l b:=by
    change (if (k==fT.free)=cp then _ else _)=_
    rw[i];rfl
   rw[e,<- g b];rw[i,if_neg bE]
   rfl
def a4e:∀(l:List (Str×fT))(cs:List (Str×Addr)),(∀y∈l,y.2=.free->∃c,env.cells.lookup y.1=bN c)->(∀y c,cs.lookup y=bN c->env.cells.lookup y=bN c) ->
  ∀c,(a0F env l cs).lookup x=bN c->env.cells.lookup x=bN c:=by ext z0;induction z0 with
 |nil=>ext cs _ hc c h;show hc x c h
 |cons q0 r I0=>
  let(n,k):=q0;ext cs hx hc c h;let g:=λy m=>hx y (b3 _ m);unfold a0F at h
  split at h
  .rename_i hk
   let f:k=.free:=↑hk
   let(d,j):=hx (n,k,) cf f;show I0 _ g (λy i a=>?_) c h;rw[bG]at a;cases e:y==n with
   |true=>
    rw[e]at a;let o:y=n:=↑e
    subst o;rw[j]at a ⊢;show a
   |false=>rw[e]at a;show hc y i a
  .show I0 cs g hc c h
def a5N:∀(l:List (Str×fT))(cs:List (Str×Addr))(c:Addr),cs.lookup x=bN c->∃c',(a0F env l cs).lookup x=bN c':=by ext z0;induction z0 with
 |nil=>ext cs c h;show(c,h)
 |cons q0 r I0=>
  let(n,k):=q0;ext cs c h;unfold a0F
  split
  .cases e:x==n with
   |true=>show I0 _ _ (by rw[bG,e])
   |false=>show I0 _ c (by rw[bG,e];show h)
  .show I0 cs c h
def a3Q:∀(l:List (Str×fT))(cs:List (Str×Addr)),(x,fT.free,)∈l->∃c,(a0F env l cs).lookup x=bN c:=by ext z0;induction z0 with
 |nil=>ext cs h;cases h
 |cons _ r I0=>
  ext cs h;unfold a0F;let e||e:=aT.mp h
  .cases e;show a5N r _ ((env.cells.lookup x).getD 0) (by simp)
  .split
   .show I0 _ e
   .show I0 _ e
def a3t{env:Env}:∀(names:List (Str×fT)),
  (names.map λ(n,k,)=>if (k==fT.free&&env.scope.kind==.function&&env.kindOf n==bN .cell) then (n,fT.cell,) else (n,k,)).lookup x =
   (names.lookup x).map λk=>if (k==fT.free&&env.scope.kind==.function&&env.kindOf x==bN .cell)=cp then fT.cell else k:=by ext z0;induction z0 with
 |nil=>show rfl
 |cons q0 r I0=>
  let(n,k):=q0;let a:=I0
  change dq x ((if _=cp then _ else (n,k,))::_)=_
  cases hx:x==n with
  |true=>
   let e:x=n:=by grind
   subst e
   by_cases hc:(k==fT.free&&env.scope.kind==.function&&env.kindOf x==bN .cell)=cp
   simp only[bG,hx,cJ,if_pos hc];simp only[bG,hx,cJ,if_neg hc]
  |false=>
   by_cases hc:(k==fT.free&&env.scope.kind==.function&&env.kindOf n==bN .cell)=cp
   .rw[if_pos hc];simp only[bG,hx];show a
   .rw[if_neg hc];simp only[bG,hx];show a
def a1C(I:Nat->Shared->Prop)
  (turn:∀n s,I n s->wpAny (model prog w) A (pyNext it) (λr sj=>match r with
   |none=>R (.ok .next) sj
   |some v=>wpAny (model prog w) A (i6 target it v) (λ_ sj=>wpAny (model prog w) A (assign target env v) (λ_ sv=>
     wpAny (model prog w) A (forIn ifs cp λc r=>if r=cp then do let ok <- isTrue c env (eval c env);pure (ForInStep.yield ok) else pure (ForInStep.yield r)) (λok sw=>
      if ok=cp then wpAny (model prog w) A (eval elt env) (λx sx=>
       wpAny (model prog w) A (call (.builtin "list.append") [acc,x]) (λ_ sy=>∃m,m<n/\I m sy) (iy (model prog w) A env λe s'=>R (.error e) s') sx) (iy (model prog w) A env λe s'=>R (.error e) s') sw
      else ∃m,m<n/\I m sw) (iy (model prog w) A env λe s'=>R (.error e) s') sv) (iy (model prog w) A env λe s'=>R (.error e) s') sj) (λ_ _=>False) sj) (λ_ _=>False) s)
  (n:Nat) (h:I n s) :
  gG (model prog w) A (.compLoop (.ListComp elt [(target,iter,ifs,0)] scope pos) 0 it acc env) R s:=by
 show codeAny_loop rfl I (λn s k=>?_) n h;show wpAny_noted (fK (iZ (fK (fY (turn n s k) (λr d a=>?_) λ_ _ f=>f.elim))));cases r with
 |none=>show fS a
 |some v=>
  show fK (fY a (λ_ d a=>?_) λ_ _ f=>f.elim);show fK (fY a (λ_ p g=>fK (fY g (λl z b=>?_) λ_ _ f=>f)) λ_ _ f=>f);cases l with
  |false=>show fS (rfl,b)
  |true=>
   show fK (fK (fY b (λx o i=>fK (fY i (λ_ u j=>fS (fS (rfl,j))) λ_ _ f=>f)) λ_ _ f=>f))
end PySem
namespace L2
open PySem PySem.Spec PyProof.Rows
variable{P prog:fO}{w:World}{H H':Hp}{X:Cx}{pins:List (Addr×Obj)}{s:Shared}{pos apos:Pos}{E:Value->Shared->Prop}{A:Around}{dx:Addr}{es:List Expr}{sp:P3}{m:Str}{to:E3}{κ:KF}{a₀:Array Keyed}
abbrev Key:=Sum (Option Int) Str
noncomputable def b7s:Value->Bool
 |.none=>cp
 |_=>js
noncomputable def a7a:Key->Value->Bool
 |.inl (bN k),v=>Value.isInt k v
 |.inl ce,v=>b7s v
 |.inr x,v=>Value.isStrOf x v
noncomputable def keyH(w:World):Key->Int
 |.inl (bN k)=>hashInt k
 |.inl ce=>reduceHash 0xFCA86420
 |.inr x=>hashStr w x
theorem a0m:∀{k:Key}{v:Value},a7a k v=cp->(∃i t,k=Sum.inl (bN i)/\v=Value.int i t)\/(∃x t,k=Sum.inr x/\v=Value.str x t)\/(k=Sum.inl ce/\v=Value.none)
 |.inl (bN i),v,h=>by
  let(t,e):=Value.isInt_shape h;show .inl (i,t,rfl,e)
 |.inl ce,v,h=>by
  cases v<;>first |show .inr (.inr (rfl,rfl)) |cases h
 |.inr x,v,h=>by
  let(t,e):=Value.isStrOf_shape h;show .inr (.inl (x,t,rfl,e))
def a7P(i:Int)(t:Tok):a7a (.inl (bN i)) (.int i t)=cp:=by simp[a7a,Value.isInt]
def a7Q(x:Str)(t:Tok):a7a (.inr x) (.str x t)=cp:=by simp[a7a,Value.isStrOf]
def b4D(a b:Int):decide ((Sum.inl (bN a):Key)=Sum.inl (bN b))=(a==b):=by
 by_cases e:a=b
 .simp_all
 .simp_all
def b4E(a b:Str):decide ((Sum.inr a:Key)=Sum.inr b)=decide (a=b):=by simp
def a3I{a b:Key}(h:a≠b):decide (a=b)=js:=decide_eq_false h
noncomputable def a0n(prog:fO)(w:World):PySem.KeyKind prog w Key where
 is:=a7a
 hash:=keyH w
 inj:=λv a b ha hb=>by
  let(i,t,rfl,rfl)||(x,t,rfl,rfl)||(rfl,rfl):=a0m ha
  .let(j,u,rfl,e)||(y,u,rfl,e)||(rfl,e):=a0m hb
   .injection e with e1 _;rw[e1]
   .show nomatch e
   .show nomatch e
  .let(j,u,rfl,e)||(y,u,rfl,e)||(rfl,e):=a0m hb
   .show nomatch e
   .injection e with e1 _;rw[e1]
   .show nomatch e
  .let(j,u,rfl,e)||(y,u,rfl,e)||(rfl,e):=a0m hb
   .show nomatch e
   .show nomatch e
   .rfl
 byValue:=λk v h=>by
  let(i,t,rfl,rfl)||(x,t,rfl,rfl)||(rfl,rfl):=a0m h<;>rfl
 pyHash:=λhv h=>by
  let(i,t,rfl,rfl)||(x,t,rfl,rfl)||(rfl,rfl):=a0m hv
  .show wpAny_pyHash_int h
  .show wpAny_pyHash_str h
  .show PySem.W.pyHash_slot (T:="NoneType") rfl F.slot_NoneType_hash F.entry_NoneType_hash (F.args_NoneType_hash_1 _) (beq_builtin_none _) (.inl rfl) (fK (fS (fK (wpAny_mkInt (fS (_,_,rfl,h))))))
 eqBool:=λhu hv h=>by
  let(i,t,rfl,rfl)||(x,t,rfl,rfl)||(rfl,rfl):=a0m hu
  .let(j,u,rfl,rfl)||(y,u,rfl,rfl)||(rfl,rfl):=a0m hv
   .rw[b4D]at h;show wpAny_eqBool_int h
   .rw[show decide ((Sum.inl (bN i):Key)=Sum.inr y)=js from a3I (by simp)]at h;show SeqAt.EqAt.int_str i t y u _ _ _ _ h
   .rw[show decide ((Sum.inl (bN i):Key)=Sum.inl ce)=js from a3I (by simp)]at h;show SeqAt.EqAt.int_none i t _ _ _ _ h
  .let(j,u,rfl,rfl)||(y,u,rfl,rfl)||(rfl,rfl):=a0m hv
   .rw[show decide ((Sum.inr x:Key)=Sum.inl (bN j))=js from a3I (by simp)]at h;show SeqAt.EqAt.str_int x t j u _ _ _ _ h
   .rw[b4E]at h;show wpAny_eqBool_str h
   .rw[show decide ((Sum.inr x:Key)=Sum.inl ce)=js from a3I (by simp)]at h;show SeqAt.EqAt.str_none x t _ _ _ _ h
  .let(j,u,rfl,rfl)||(y,u,rfl,rfl)||(rfl,rfl):=a0m hv
   .rw[show decide ((Sum.inl ce:Key)=Sum.inl (bN j))=js from a3I (by simp)]at h;show SeqAt.EqAt.none_int j u _ _ _ _ h
   .rw[show decide ((Sum.inl ce:Key)=Sum.inr y)=js from a3I (by simp)]at h;show SeqAt.EqAt.none_str y u _ _ _ _ h
   .rw[decide_eq_true rfl]at h;unfold PySem.eqBool;show gb ?_;show wpAny_ite_split (λ_=>fK (g6 (fS h))) λhab=>absurd rfl hab
 «strs»:=λk x t v h=>by
  let(i,u,rfl,e)||(y,u,rfl,e)||(rfl,e):=a0m h
  .show nomatch e
  .injection e with e1 _
   subst e1;cases v<;>rfl
  .show nomatch e
def a5G(prog:fO)(w:World)(i:Int)(t:Tok):(a0n prog w).is (.inl (bN i)) (.int i t)=cp:=a7P i t
def a5H(prog:fO)(w:World)(x:Str)(t:Tok):(a0n prog w).is (.inr x) (.str x t)=cp:=a7Q x t
inductive V where
 |non |bl (b:Bool) |int (i:Int) |str (x:Str) |byt (b:Array UInt8) |flt (b:UInt64) |ref (a:Addr) |ty (n:String)
 deriving DecidableEq
def RelV:V->Value->Prop
 |.non,u=>u=Value.none
 |.bl b,u=>u=Value.bool b
 |.int i,u=>∃t,u=Value.int i t
 |.str x,u=>∃t,u=Value.str x t
 |.byt b,u=>∃t,u=Value.bytes b t
 |.flt b,u=>∃t,u=Value.float b t
 |.ref a,u=>u=Value.ref a
 |.ty n,u=>u=Value.type n
abbrev Vals:List V->List Value->Prop:=Paired RelV
def Vals.length(r:Vals xs us):xs.length=us.length:=Paired.length r
theorem Vals.get:∀{xs:List V}{us:List Value}{i:Nat}{x:V},Vals xs us->xs[i]?=bN x->∃u,us[i]?=bN u/\RelV x u
 |_,_,_,_,.nil,e=>by simp at e
 |_,_,0,_,.cons r _,e=>by simp at e;subst e;show(_,rfl,r)
 |_,_,i+1,x,.cons _ t,e=>by
  let(u,b,a):=Vals.get t ↑e;show(u,↑b,a)
theorem Vals.set(r:RelV x u):∀{xs:List V}{us:List Value}(i:Nat),Vals xs us->Vals (xs.set i x) (us.set i u)
 |_,_,_,.nil=>.nil
 |_,_,0,.cons _ t=>.cons r t
 |_,_,i+1,.cons q t=>.cons q (Vals.set r i t)
def Vals.append:∀{xs ys:List V}{us ws:List Value},Vals xs us->Vals ys ws->Vals (xs++ys) (us++ws):=by ext z0 y0 x0 w0 v0;induction v0 with
 |nil=>ext s;show s
 |cons r t I0=>ext s;show .cons r (I0 s)
theorem Vals.take:∀{xs:List V}{us:List Value}(n:Nat),Vals xs us->Vals (xs.take n) (us.take n)
 |_,_,0,_=>.nil
 |_,_,_+1,.nil=>.nil
 |_,_,n+1,.cons r t=>.cons r (Vals.take n t)
theorem Vals.drop:∀{xs:List V}{us:List Value}(n:Nat),Vals xs us->Vals (xs.drop n) (us.drop n)
 |_,_,0,r=>r
 |_,_,_+1,.nil=>.nil
 |_,_,n+1,.cons _ t=>Vals.drop n t
def Vals.none_of:∀{xs:List V}{us:List Value}{i:Nat},Vals xs us->xs[i]?=ce->us[i]?=ce:=λ{a d i} r e=>by
 let b:=r.length;let c:=eI.mp e;show eI.mpr (by lia)
def RelO:Option V->Option Value->Prop
 |some v,bN u=>RelV v u
 |none,ce=>True
 |_,_=>False
def KV{κ:Type}:List (κ×V)->List (κ×Value)->Prop:=Paired λ(p:κ×V) (q:κ×Value)=>p.1=q.1/\RelV p.2 q.2
noncomputable def kV:Key->V
 |.inl (bN i)=>.int i
 |.inl ce=>.non
 |.inr x=>.str x
inductive HO where
 |lst (xs:List V)
 |tup (xs:List V)
 |dK (kvs:List (Key×V)) |dT (kvs:List (List Key×V))
 |set (S:Int->Bool) (n:Nat)
 |ins (C dx:Addr) (fs:List (Str×V))
 |own (x:Addr)
 |xd (fs:List (Str×V))
 |met (f x:Addr)
 |rng (lo hi:Int)
 |frz (o:Obj) (u:HO)
 |tbl (ps:Array Value)
 |ext (φ:Heap->Prop)
abbrev Hp:=Addr->Option HO
noncomputable def upd(H:Hp)(a:Addr)(o:HO):Hp:=λb=>if b=a then bN o else H b
def a0c:upd H a o a=bN o:=by unfold upd;rw[if_pos rfl]
def a0b(h:b≠a):upd H a o b=H b:=by unfold upd;rw[if_neg h]
def b7t{H:Hp}(h:H a=bN o)(h':H b=bN u)(d:o≠u):a≠b:=by
 ext e;subst e;rw[h]at h';show d (bN.inj h')
def a0p{H:Hp}(h:H a=bN o)(h':H b=ce):a≠b:=by
 ext e;subst e;rw[h]at h';cases h'
section
variable(P:fO)(w:World)
def ObjOk(H:Hp)(h:Heap)(a:Addr):HO->Prop
 |.lst xs=>xs.length<=fL/\∃(its:List Value)(n:Nat),Vals xs its/\h.get? a=bN { cls:=.type "list",data:=.seq its.toArray n }
 |.tup xs=>xs.length<=fL/\∃its:List Value,Vals xs its/\IsTup h a its.toArray
 |.dK kvs=>kvs.length<=fL/\(a==gj)=js/\∃vs,KV kvs vs/\h.DictOf (a0n P w) a vs
 |.dT kvs=>kvs.length<=fL/\(a==gj)=js/\∃xs:List (List Key×Addr×Value),
   Paired (λ(p:List Key×V) (q:List Key×Addr×Value)=>p.1=q.1/\H q.2.1=bN (.tup (p.1.map kV))/\RelV p.2 q.2.2) kvs xs /\
   ∃o es ep,h.get? a=bN o/\o.ExactDict/\o.data=.dict es ep/\es.toList=xs.map (entryOfKey (gm (a0n P w)))/\(xs.map (·.1)).Nodup
 |.set S n=>h.SetOf (intKind P w) a S n
 |.ins C dx fs=>H dx=bN (.own a)/\fs.length<=1000/\dx≠a/\h.get? a=bN (PySem.W.instObj C dx) /\
   ∃mA,h.Ns1 dx mA/\(∀f,RelO (fs.lookup f) (mA f))/\PySem.Within mA (fs.map (·.1))
 |.own _=>∃o,h.get? a=bN o
 |.xd fs=>∃mA,h.Ns1 a mA/\∀f,RelO (fs.lookup f) (mA f)
 |.rng lo hi=>∃t u v,h.get? a=bN { cls:=.type "range",data:=.fields #[.int lo t,.int hi u,.int 1 v] }
 |.frz o u=>h.get? a=bN o/\ObjOk H h a u
 |.tbl ps=>h.get? a=bN { cls:=.none,data:=.fields ps }
 |.met f x=>h.get? a=bN (PySem.W.methodObj (.ref f) (.ref x))
 |.ext φ=>φ h/\(∃o,h.get? a=bN o)/\∀h1 h2:Heap,φ h1->(∀o,h1.get? a=bN o->h2.get? a=bN o)->φ h2
def HOk(H:Hp)(h:Heap):Prop:=∀a o,H a=bN o->ObjOk P w H h a o
end
section
variable{h h':Heap}{a:Addr}{o:HO}
def ObjOk.lt(x:ObjOk P w H h a o):a<h.objs.size:=by
 cases o with
 |lst xs=>let(_,_,_,_,e):=x;show Heap.lt_size e
 |tup xs=>let(_,_,_,p):=x;show p.lt
 |dK kvs=>let(_,_,_,_,o,_,_,e,_):=x;show Heap.lt_size e
 |dT kvs=>let(_,_,_,_,o,_,_,e,_):=x;show Heap.lt_size e
 |set S n=>let(o,_,_,_,e,_):=x;show Heap.lt_size e
 |ins C dx fs=>let(_,_,_,e,_):=x;show Heap.lt_size e
 |own y=>let(_,e):=x;show Heap.lt_size e
 |xd fs=>let(_,(_,_,_,e,_),_):=x;show Heap.lt_size e
 |rng lo hi=>let(_,_,_,e):=x;show Heap.lt_size e
 |frz ob u=>let(e,_):=x;show Heap.lt_size e
 |tbl ps=>show Heap.lt_size (x)
 |met f y=>show Heap.lt_size (x)
 |ext φ=>let(_,(_,e),_):=x;show Heap.lt_size e
def Paired.mapP{α β:Type}{F G:α->β->Prop}:∀{lj:List α}{lq:List β},Paired F lj lq->(∀a b,F a b->G a b)->Paired G lj lq:=by ext z0 y0 x0;induction x0 with
 |nil=>ext _;show .nil
 |cons r t I0=>ext f;show .cons (f _ _ r) (I0 f)
def ObjOk.stay(x:ObjOk P w H h a o)(k:∀b u,(b=a\/H b=bN (.own a))->h.get? b=bN u->h'.get? b=bN u)
  (ho:∀b,H b=bN (.own a)->H' b=bN (.own a)) (ht:∀b xs,H b=bN (.tup xs)->H' b=bN (.tup xs)):ObjOk P w H' h' a o:=by
 induction o with
 |lst s=>let(z,l,n,r,e):=x;show(z,l,n,r,k _ _ (.inl rfl) e)
 |tup s=>let(z,l,r,g,e,c):=x;show(z,l,r,g,k _ _ (.inl rfl) e,c)
 |dK kvs=>let(z,y,F,r,g,i,j,e,c):=x;show(z,y,F,r,g,i,j,k _ _ (.inl rfl) e,c)
 |dT kvs=>
  let(z,y,s,r,g,i,j,e,c):=x;show(z,y,s,Paired.mapP r λp q z=>(z.1,ht _ _ z.2.1,z.2.2),g,i,j,k _ _ (.inl rfl) e,c)
 |set S n=>let(g,i,j,t,e,c):=x;show(g,i,j,t,k _ _ (.inl rfl) e,c)
 |ins C dx fs=>
  let(d,z,D,e,A,(m,i,j,E,c),r):=x;show(ho _ d,z,D,k _ _ (.inl rfl) e,A,(m,i,j,k _ _ (.inr d) E,c),r)
 |own y=>let(g,e):=x;show(g,k _ _ (.inl rfl) e)
 |xd fs=>let(A,(m,i,j,e,c),r):=x;show(A,(m,i,j,k _ _ (.inl rfl) e,c),r)
 |rng lo hi=>let(t,u,v,e):=x;show(t,u,v,k _ _ (.inl rfl) e)
 |frz g u ih=>let(e,q):=x;show(k _ _ (.inl rfl) e,ih q)
 |tbl ps=>
  show k a _ (.inl rfl) x
 |met f y=>
  show k a _ (.inl rfl) x
 |ext φ=>let(p,(o,e),B):=x;show(B _ _ p λo q=>k _ _ (.inl rfl) q,(o,k _ _ (.inl rfl) e),B)
def HOk.lt(x:HOk P w H h)(e:H a=bN o):a<h.objs.size:=(x a o e).lt
def HOk.fresh(x:HOk P w H h)(e:h.objs.size<=a):H a=ce:=by
 cases q:H a with
 |none=>rfl
 |some u=>show absurd (bB (x.lt q) e) (cx _)
def HOk.kept(x:HOk P w H h)(k:∀b u,h.get? b=bN u->h'.get? b=bN u):HOk P w H h':=λa o e=>
 (x a o e).stay (λb u _ q=>k b u q) (λ_ q=>q) λ_ _ q=>q
def HOk.laid(x:HOk P w H h)(k:∀b u,h.get? b=bN u->h'.get? b=bN u)(hp:h.objs.size<=a)(new:ObjOk P w (upd H a o) h' a o):HOk P w (upd H a o) h':=λb u e=>by
 let d:=x.fresh hp
 by_cases hb:b=a
 .subst hb;rw[a0c]at e;cases e;show new
 .rw[a0b hb]at e;show (x b u e).stay (λc v _ q=>k c v q) (λc q=>by rw[a0b (a0p q d)];show q) λc f q=>by rw[a0b (a0p q d)];show q
end
def Rd(H:Hp)(a:Addr)(u:HO):Prop:=H a=bN u\/∃o,H a=bN (.frz o u)
def Rd.of(h:H a=bN u):Rd H a u:=.inl h
def Rd.ok(r:Rd H a u)(x:HOk P w H h):ObjOk P w H h a u:=by
 let r||(o,r):=r
 .show x a u r
 .let(_,q):=x a _ r;show q
def Mut:Option HO->Prop
 |some (.lst _)=>True
 |some (.dK _)=>True
 |some (.dT _)=>True
 |some (.set _ _)=>True
 |some (.ins _ _ _)=>True
 |some (.ext _)=>True
 |_=>False
section
variable{h h':Heap}{x e:Addr}{o':HO}
def HOk.write(ok:HOk P w H h)(mu:Mut (H x))(he:e=x\/H e=bN (.own x))(k:∀b u,b≠e->h.get? b=bN u->h'.get? b=bN u)(heo:∃u,h'.get? e=bN u)
  (new:ObjOk P w (upd H x o') h' x o'):HOk P w (upd H x o') h':=λb u q=>by
 let a:∀c y,H c=bN (.own y)->c≠x:=λc y r z=>by subst z;rw[r]at mu;show mu
 let g:∀c d,H c=bN (.tup d)->c≠x:=λc d r z=>by subst z;rw[r]at mu;show mu
 by_cases hb:b=x
 .subst hb;rw[a0c]at q;cases q;show new
 .rw[a0b hb]at q
  by_cases hbe:b=e
  .let i:H b=bN (.own x):=by
    let z||z:=he
    .show absurd (hbe.trans z) hb
    .rw[hbe];show z
   rw[q]at i;cases i;let(v,j):=heo;show(v,by rw[hbe];show j)
  .show (ok b u q).stay (λc v f r=>k c v ?_ r) (λc r=>by rw[a0b (a c b r)];show r) λc d r=>by rw[a0b (g c d r)];show r
   let rfl||f:=f
   .cbv
   .grind
end
structure Un (fs ex:List Addr) (H H':Hp) (h h':Heap):Prop where
 keep:∀b o,h.get? b=bN o->H b=ce->b∉fs->b∉ex->h'.get? b=bN o
 slot:∀b o,h.get? b=bN o->H b=ce->b∈fs->b∉ex->∃sl,h'.get? b=bN { o with slots:=sl }
 free:∀b o,h.get? b=bN o->H b=ce->b∉ex->H' b=ce
 there:∀b o,h.get? b=bN o->b∉ex->∃o',h'.get? b=bN o'
 tups:∀b xs,H b=bN (.tup xs)->H' b=bN (.tup xs)
 frzs:∀b o u,H b=bN (.frz o u)->H' b=bN (.frz o u)
 tbls:∀b ps,H b=bN (.tbl ps)->∃more,H' b=bN (.tbl (ps++more))
section
variable{fs fs' ex ex':List Addr}{H1 H2:Hp}{h h1 h2 h':Heap}{a x e:Addr}{o:HO}
noncomputable def Un.any(u:Un fs ex H H1 h h1)(q:h.get? b=bN ob)(n:H b=ce)(hx:b∉ex):∃sl,h1.get? b=bN { ob with slots:=sl }:=by
 by_cases hb:b∈fs
 .show u.slot b ob q n hb hx
 .show(ob.slots,u.keep b ob q n hb hx)
theorem Un.trans(a:Un fs ex H H1 h h1)(b:Un fs ex H1 H2 h1 h2):Un fs ex H H2 h h2 where
 keep:=λc ob q n hc hx=>b.keep c ob (a.keep c ob q n hc hx) (a.free c ob q n hx) hc hx
 slot:=λc ob q n hc hx=>by
  let(sl,e1):=a.slot c ob q n hc hx;let(sl',e2):=b.slot c _ e1 (a.free c ob q n hx) hc hx;show(sl',e2)
 free:=λc ob q n hx=>by
  let(o',e1):=a.there c ob q hx;show b.free c o' e1 (a.free c ob q n hx) hx
 there:=λc ob q hx=>by
  let(o',e1):=a.there c ob q hx;show b.there c o' e1 hx
 tups:=λc xs q=>b.tups c xs (a.tups c xs q)
 frzs:=λc ob xs q=>b.frzs c ob xs (a.frzs c ob xs q)
 tbls:=λc ps q=>by
  let(m1,e1):=a.tbls c ps q;let(m2,e2):=b.tbls c _ e1;show(m1++m2,by rw[e2,eJ])
def Un.kept(k:∀b u,h.get? b=bN u->h'.get? b=bN u):Un fs ex H H h h':=
 (λb a q _ _ _=>k b a q,λb a q _ _ _=>(a.slots,k b a q),λ_ _ _ n _=>n,λb a q _=>(a,k b a q),λ_ _ q=>q,λ_ _ _ q=>q,λ_ c q=>(#[],by rw[q];simp))
def Un.refl:Un fs ex H H h h:=Un.kept λ_ _ q=>q
theorem Un.laid(k:∀b u,h.get? b=bN u->h'.get? b=bN u)(hp:h.objs.size<=a)(hn:H a=ce):Un fs ex H (upd H a o) h h' where
 keep:=λb u q _ _ _=>k b u q
 slot:=λb u q _ _ _=>(u.slots,k b u q)
 free:=λb u q n _=>by rw[a0b (aZ (bB (Heap.lt_size q) hp))];show n
 there:=λb u q _=>(u,k b u q)
 tups:=λb xs q=>by rw[a0b (a0p q hn)];show q
 frzs:=λb u xs q=>by rw[a0b (a0p q hn)];show q
 tbls:=λb ps q=>(#[],by rw[a0b (a0p q hn),q];simp)
def Un.write(mu:Mut (H x))(he:e=x\/H e=bN (.own x))(k:∀b u,b≠e->h.get? b=bN u->h'.get? b=bN u)(heo:∃u,h'.get? e=bN u):Un fs ex H (upd H x o) h h':=by
 let d:∀b,H b=ce->b≠x:=λb n z=>by subst z;rw[n]at mu;show mu
 let c:∀b,H b=ce->b≠e:=λb n z=>by simp_all
 let a:∀b u,H b=bN u->¬ Mut (bN u)->b≠x:=λb u q g z=>by subst z;rw[q]at mu;show g mu
 show(λb u q n _ _=>k b u (c b n) q,λb u q n _ _=>(u.slots,k b u (c b n) q),λb u q n _=>by rw[a0b (d b n)];show n,λb u q _=>?_,
  λb f q=>by rw[a0b (a b _ q λz=>z)];show q,λb u f q=>by rw[a0b (a b _ q λz=>z)];show q,λb i q=>(#[],by rw[a0b (a b _ q λz=>z),q];simp))
 by_cases hbe:b=e
 .grind
 .show(u,k b u hbe q)
def Un.mono(u:Un fs ex H H1 h h1)(hs:∀b∈fs,b∈fs')(hx:∀b∈ex,b∈ex'):Un fs' ex' H H1 h h1:=
 (λb c q n d a=>u.keep b c q n (λz=>d (hs b z)) λz=>a (hx b z),λ_ _ q n _ a=>u.any q n λz=>a (hx _ z),λb c q n a=>u.free b c q n λz=>a (hx b z),λb c q a=>u.there b c q λz=>a (hx b z),u.tups,u.frzs,u.tbls)
end
noncomputable def trk(h:Heap)(H:Hp):List Addr:=(cQ h.objs.size).filter λa=>(H a).isSome
noncomputable def hidT(h:Heap)(H:Hp):Heap:=PySem.W.hideAll h (trk h H)
def a7R(h:Heap)(H:Hp):(hidT h H).objs.size=h.objs.size:=PySem.W.hideAll_size _ _
def a35(e:h.get? b=bN o)(n:H b=ce):(hidT h H).get? b=bN o:=
 PySem.W.hideAll_get _ e λa=>by
  let q:=(bC.mp a).2;rw[n]at q;simp at q
def b2G(e:(hidT h H).get? b=bN o):h.get? b=bN o/\H b=ce:=by
 let a:=PySem.W.of_hideAll _ e;show(a,?_);cases q:H b with
 |none=>rfl
 |some x=>
  let c:b∈trk h H:=bC.mpr (eK.mpr (Heap.lt_size a),by simp[q]);let z:(hidT h H).get? b=ce:=PySem.W.hideAll_none _ c;rw[z]at e;cases e
noncomputable def b2H(g h:Heap)(L:Addr):List (Addr×Obj):=(cQ h.objs.size).filterMap λa=>if a=L\/(g.get? a).isSome=cp then ce else (h.get? a).map λo=>(a,o,)
noncomputable def rest(g h:Heap)(L d:Addr):List (Addr×Obj):=(b2H g h L).filter λp=>decide (p.1≠d)
structure Mod (K:Fg) (mg:Str->Option Value) (base:Heap):Prop where
 kin:K.In base
 glob:base.Ns fX mg
 blt:∃mb,base.Ns ic mb/\∀x:Str,x≠"__name__"->mb x=gq x
 nolimit:base.NoLimit
structure Cx where
 prog:fO
 w:World
 K:Fg
 mg:Str->Option Value
 base:Heap
 A:Around
 N:List Str
 s₀:Shared
 H₀:Hp
 env:Env
 outer:List Env
 stack:List Env
 ex:List Addr
 fn:Str->Bool
 calm:Bool
 pn:List (Addr×Obj)
 xe:Value->Shared->Prop
noncomputable def frs(l:List Env):List Addr:=l.filterMap (·.frame)
abbrev Cx.fs(X:Cx):List Addr:=frs X.outer
def Vis(sc:Scope)(x:Str):Prop:=sc.names.lookup x=bN .local\/sc.names.lookup x=bN .cell\/sc.names.lookup x=bN .free
def Loc(sc:Scope)(x:Str):Prop:=sc.names.lookup x=bN .local\/sc.names.lookup x=bN .cell
def Look(env:Env)(h:Heap)(m:Str->Option Value)(x:Str)(u:Value):Prop:=
 (env.kindOf x=bN .local/\m x=bN u)\/((env.kindOf x=bN .cell\/env.kindOf x=bN .free)/\∃c,env.cells.lookup x=bN c/\h.IsCell c (bN u))
structure Cx.Ok (X:Cx):Prop where
 mod:Mod X.K X.mg X.base
 kind:X.env.scope.kind=.function
 glob:X.env.globals=fX
 blt:X.env.builtins=ic
 above:X.s₀.heap.objs.size<=X.env.locals
 inj:∀x y c,X.env.cells.lookup x=bN c->X.env.cells.lookup y=bN c->x=y
 has:∀x,(X.env.kindOf x=bN .cell\/X.env.kindOf x=bN .free)->∃c,X.env.cells.lookup x=bN c
 cab:∀x c,X.fn x=cp->X.env.cells.lookup x=bN c->X.s₀.heap.objs.size<=c
 hd:X.calm=cp->X.A.handled=ce
 frames:X.A.frames=bN X.stack
 stk:X.stack=X.outer\/(X.stack=X.env::X.outer/\X.env.frame=bN X.env.locals)
 exf:∀b∈X.ex,b≠X.env.locals/\∀x c,X.env.cells.lookup x=bN c->c≠b
 bs:∀b o,X.base.get? b=bN o->X.s₀.heap.get? b=bN o/\X.H₀ b=ce
 bsz:X.base.objs.size<=X.s₀.heap.objs.size
 noex:∀b o,X.base.get? b=bN o->b∉X.ex
 exfs:∀b∈X.ex,b∉X.fs
 funs:X.s₀.heap.FunFrames X.base X.outer
 frf:∀b∈X.fs,X.H₀ b=ce
structure Inv (X:Cx) (pins:List (Addr×Obj)) (σ:List (Option V)) (H:Hp) (s:Shared):Prop where
 ok:X.Ok
 os:s.os=X.s₀.os
 bare:gr s.gens
 base:Un X.fs X.ex X.H₀ H X.s₀.heap s.heap
 loc:∃m,s.heap.Ns X.env.locals m/\∀(i:Nat)(x:Str)(v:V),X.N[i]?=bN x->σ[i]?=bN (bN v)->Vis X.env.scope x->∃u,RelV v u/\Look X.env s.heap m x u
 cell:∀x c,X.env.cells.lookup x=bN c->∃v,s.heap.IsCell c v
 free:H X.env.locals=ce
 freeC:∀x c,X.env.cells.lookup x=bN c->H c=ce
 pin:∀p∈X.pn++pins,s.heap.get? p.1=bN p.2/\H p.1=ce/\p.1≠X.env.locals/\p.1∉X.fs/\∀v,p.2.data≠.cell v
 hok:HOk X.prog X.w H s.heap
 len:σ.length=X.N.length
section
variable{σ:List (Option V)}{h':Heap}
def Cx.Ok.nofr(ok:X.Ok)(e:X.base.get? b=bN o):b∉X.fs:=λa=>by
 let:=(ok.funs.mem a).1
 rw[e]at this;cases this
def Inv.bs(I:Inv X pins σ H s):∀b o,X.base.get? b=bN o->s.heap.get? b=bN o/\H b=ce:=λb o e=>
 (I.base.keep b o (I.ok.bs b o e).1 (I.ok.bs b o e).2 (I.ok.nofr e) (I.ok.noex b o e),I.base.free b o (I.ok.bs b o e).1 (I.ok.bs b o e).2 (I.ok.noex b o e))
def Inv.bk(I:Inv X pins σ H s):∀b o,X.base.get? b=bN o->s.heap.get? b=bN o:=λb o e=>(I.bs b o e).1
def Inv.mod(I:Inv X pins σ H s):Mod X.K X.mg X.base:=I.ok.mod
def Inv.kIn(I:Inv X pins σ H s):X.K.In s.heap:=I.ok.mod.kin.keeps I.bk
def Inv.nolimit(I:Inv X pins σ H s):s.heap.NoLimit:=I.ok.mod.nolimit.keeps I.bk
def Inv.fr(I:Inv X pins σ H s):∃m,Fr X.base X.env.locals s.heap m:=
 let (m,hn,_):=I.loc
 (m,hn,I.bk,be I.ok.bsz I.ok.above)
def Inv.lt(I:Inv X pins σ H s):X.env.locals<s.heap.objs.size:=let (_,hn,_):=I.loc;hn.lt
def Inv.sz(I:Inv X pins σ H s):X.s₀.heap.objs.size<=s.heap.objs.size:=be I.ok.above (cF I.lt)
def Inv.nofs(I:Inv X pins σ H s)(h:s.heap.objs.size<=a):a∉X.fs:=λc=>by
 let(_,o,b,_):=I.ok.funs.mem c;show absurd (bB (Heap.lt_size b) (be I.sz h)) (cx _)
def Inv.cne(I:Inv X pins σ H s):∀x c,X.env.cells.lookup x=bN c->c≠X.env.locals:=λx c e z=>by
 let(v,o,d,b):=I.cell x c e;let(m,(i,g,h,a,f,_),_):=I.loc;rw[z,a]at d;cases d;rw[f]at b;cases b
def Inv.funs(I:Inv X pins σ H s):s.heap.FunFrames X.base X.outer:=by
 let g:∀l,(∀b∈frs l,b∈X.fs)->X.s₀.heap.FunFrames X.base l->s.heap.FunFrames X.base l:=by
  ext l
  induction l with
  |nil=>ext _ _;trivial
  |cons env r ih=>
   ext f h;let(k,(L,o,c,n,m,j),i):=h;let d:=f L (by unfold frs;rw[bD,c];show cf);let(p,e):=I.base.slot L o m (I.ok.frf L d) d λz=>I.ok.exfs L z d;show(k,(L,_,c,n,e,j),ih (λb a=>f b (by unfold frs;rw[bD,c];show b3 _ a)) i)
 show g X.outer (λ_ a=>a) I.ok.funs
def Inv.stack(I:Inv X pins σ H s):s.heap.FunFrames X.base X.stack:=by
 let e||(e,hf):=I.ok.stk
 .rw[e];show I.funs
 .rw[e];let(m,a,_):=I.loc;show .cons (by rw[I.ok.kind];decide) hf a ?_ I.funs;show Heap.get?_none_of_le (be I.ok.bsz I.ok.above)
def Inv.stkSub(I:Inv X pins σ H s):∀b∈frs X.stack,b∈X.env.locals::X.fs:=λb a=>by
 let e||(e,hf):=I.ok.stk
 .rw[e]at a;show b3 _ a
 .rw[e]at a;unfold frs at a;rw[bD,hf]at a;show a
def Inv.stkFree(I:Inv X pins σ H s):∀b∈frs X.stack,H b=ce:=λb a=>by
 let e||a:=aT.mp (I.stkSub b a)
 .rw[e];show I.free
 .let(_,o,c,_):=I.ok.funs.mem a;show I.base.free b o c (I.ok.frf b a) λz=>I.ok.exfs b z a
def Inv.step{ch:List Addr}(I:Inv X pins σ H s)
  (hch:∀b∈ch,(b∈X.ex\/X.s₀.heap.objs.size<=b)/\b≠X.env.locals/\(∀x c,X.env.cells.lookup x=bN c->c≠b)/\∀p∈X.pn++pins,p.1≠b)
  (keep:∀b o,b≠X.env.locals->b∉X.fs->b∉ch->s.heap.get? b=bN o->H b=ce->h'.get? b=bN o)
  (slot:∀b o,b≠X.env.locals->b∈X.fs->b∉ch->s.heap.get? b=bN o->H b=ce->∃sl,h'.get? b=bN { o with slots:=sl }) (free:∀b o,b∉ch->s.heap.get? b=bN o->H b=ce->H' b=ce)
  (there:∀b o,b∉ch->s.heap.get? b=bN o->∃o',h'.get? b=bN o')
  (tups:∀b xs,H b=bN (.tup xs)->H' b=bN (.tup xs)) (frzs:∀b o u,H b=bN (.frz o u)->H' b=bN (.frz o u)) (tbls:∀b ps,H b=bN (.tbl ps)->∃more,H' b=bN (.tbl (ps++more)))
  (ns:∀m,s.heap.Ns X.env.locals m->h'.Ns X.env.locals m) (hok:HOk X.prog X.w H' h') (hg:gr g') :
  Inv X pins σ H' { s with heap:=h',gens:=g',drawn:=d',toks:=t' }:=by
 let C:∀b o,X.s₀.heap.get? b=bN o->b≠X.env.locals:=λb o e=>aZ (bB (Heap.lt_size e) I.ok.above);let j:∀b o,X.s₀.heap.get? b=bN o->b∉X.ex->b∉ch:=λb o e a h=>by
  let z||z:=(hch b h).1
  .grind
  .show absurd (bB (Heap.lt_size e) z) (cx _)
 let t:∀x c,X.env.cells.lookup x=bN c->∀v,s.heap.IsCell c v->h'.IsCell c v:=by
  ext x c e v ⟨o,y,E⟩;let g:=λz=>(hch c z).2.2.1 x c e rfl
  by_cases hc:c∈X.fs
  .let(S,q):=slot c o (I.cne x c e) hc g y (I.freeC x c e);show(_,q,E)
  .show(o,keep c o (I.cne x c e) hc g y (I.freeC x c e),E)
 show(I.ok,I.os,hg,(λb o e n h a=>(keep b o (C b o e) h (j b o e a) (I.base.keep b o e n h a) (I.base.free b o e n a)),λb o e n h a=>?_,λb o e n a=>?_,λb o e a=>?_,λb B e=>tups b B (I.base.tups b B e),λb o B e=>frzs b o B (I.base.frzs b o B e),λb Q e=>?_),?_,λx c e=>?_,?_,λx c e=>?_,λp L=>?_,hok,I.len)
 .let(S,f):=I.base.slot b o e n h a;let(F,A):=slot b _ (C b o e) h (j b o e a) f (I.base.free b o e n a);show(F,A)
 .let(D,f):=I.base.there b o e a;show free b D (j b o e a) f (I.base.free b o e n a)
 .let(D,f):=I.base.there b o e a;show there b D (j b o e a) f
 .let(N,f):=I.base.tbls b Q e;let(U,A):=tbls b _ f;show(N++U,by rw[A,eJ])
 .let(m,T,M):=I.loc;show(m,ns m T,λi x v f A R=>?_);let(u,r,l):=M i x v f A R;show(u,r,?_);let l||(k,c,e,z):=l
  .show .inl l
  .show .inr (k,c,e,t x c e _ z)
 .let(v,z):=I.cell x c e;show(v,t x c e v z)
 .let(m,(o,_,_,y,_),_):=I.loc;show free _ o (λz=>(hch _ z).2.1 rfl) y I.free
 .let(v,o,y,E):=I.cell x c e;show free c o (λz=>(hch c z).2.2.1 x c e rfl) y (I.freeC x c e)
 .let(e,n,G,J,d):=I.pin p L;let g:=λz=>(hch p.1 z).2.2.2 p L rfl;show(keep p.1 p.2 G J g e n,free p.1 p.2 g e n,G,J,d)
def Inv.un(I:Inv X pins σ H s)(u:Un X.fs [] H H' s.heap h')(hok:HOk X.prog X.w H' h'):Inv X pins σ H' { s with heap:=h',toks:=t' }:=by
 let(m,(o,k,q,g,r),_):=id I.loc;let(l,j):=u.any g I.free (by simp);show I.step (ch:=[]) (λ_ z=>nomatch z) (λb o _ c _ e n=>u.keep b o e n c (by simp)) (λb o _ c _ e n=>u.slot b o e n c (by simp)) (λb o _ e n=>u.free b o e n (by simp)) (λb o _ e=>u.there b o e (by simp)) u.tups u.frzs u.tbls (λt h=>by
  let(p,d,f,a,i):=h;rw[g]at a;cases a;show(_,d,f,j,i)) hok I.bare
def Inv.call(I:Inv X pins σ H s)(u:Un (frs X.stack) ch H H' s.heap h')(hok:HOk X.prog X.w H' h')(hg:gr g')
  (hch:∀b∈ch,(b∈X.ex\/X.s₀.heap.objs.size<=b)/\b≠X.env.locals/\(∀x c,X.env.cells.lookup x=bN c->c≠b)/\∀p∈X.pn++pins,p.1≠b) :
  Inv X pins σ H' { s with heap:=h',gens:=g',drawn:=d',toks:=t' }:=by
 let(m,(o,q,y,i,r),_):=id I.loc;let(t,f):=u.any i I.free λz=>(hch _ z).2.1 rfl;show I.step hch (λb o f l a e n=>u.keep b o e n (λz=>(aT.mp (I.stkSub b z)).elim f l) a) (λb o _ _ a e n=>u.any e n a) (λb o a e n=>u.free b o e n a) (λb o a e=>u.there b o e a) u.tups u.frzs u.tbls (λA j=>by
  let(v,g,h,d,k):=j;rw[i]at d;cases d;show(_,g,h,f,k)) hok hg
def Inv.turned(I:Inv X pins σ H s)(k:∀b o,b≠it->s.heap.get? b=bN o->h'.get? b=bN o)(hn:H it=ce)(hL:it≠X.env.locals)
  (h1:it∈X.ex\/X.s₀.heap.objs.size<=it) (h2:∀x c,X.env.cells.lookup x=bN c->c≠it) (h3:∀p∈X.pn++pins,p.1≠it):Inv X pins σ H { s with heap:=h',toks:=t' }:=by
 let d:∀b u,H b=bN u->b≠it:=λb u e z=>by rw[z,hn]at e;cases e
 show I.step (ch:=[it]) (λb i=>?_) (λb o _ _ a e _=>k b o (λz=>a (by simp[z])) e) (λb o _ _ a e _=>(o.slots,k b o (λz=>a (by simp[z])) e)) (λ_ _ _ _ n=>n)
  (λb o a e=>(o,k b o (λz=>a (by simp[z])) e)) (λ_ _ e=>e) (λ_ _ _ e=>e) (λb l e=>(#[],by rw[e];simp)) (λm h=>?_) (λb u e=>?_) I.bare
 .let e:b=it:=↑i
  subst e;show(h1,hL,h2,h3)
 .let(o,f,j,g,r):=h;show(o,f,j,k _ o (Ne.symm hL) g,r)
 .show (I.hok b u e).stay (λc v a q=>k c v ?_ q) (λ_ q=>q) λ_ _ q=>q;let z||z:=a
  .rw[z];show d b u e
  .show d c _ z
def Inv.tok(I:Inv X pins σ H s)(t:Nat):Inv X pins σ H { s with toks:=t }:=I.un Un.refl I.hok
def Inv.kept(I:Inv X pins σ H s)(k:∀b u,s.heap.get? b=bN u->h'.get? b=bN u):Inv X pins σ H { s with heap:=h',toks:=t' }:=I.un (Un.kept k) (I.hok.kept k)
def Inv.laid(I:Inv X pins σ H s)(k:∀b u,s.heap.get? b=bN u->h'.get? b=bN u)(hp:s.heap.objs.size<=a)(new:ObjOk X.prog X.w (upd H a o) h' a o) :
  Inv X pins σ (upd H a o) { s with heap:=h',toks:=t' }:=I.un (Un.laid k hp (I.hok.fresh hp)) (I.hok.laid k hp new)
def Inv.write(I:Inv X pins σ H s)(mu:Mut (H x))(he:e=x\/H e=bN (.own x))(k:∀b u,b≠e->s.heap.get? b=bN u->h'.get? b=bN u)(heo:∃u,h'.get? e=bN u)
  (new:ObjOk X.prog X.w (upd H x o) h' x o):Inv X pins σ (upd H x o) { s with heap:=h',toks:=t' }:=I.un (Un.write mu he k heo) (I.hok.write mu he k heo new)
def Inv.weak(I:Inv X pins σ H s)(hl:σ'.length=σ.length)(w:∀(i:Nat) v,σ'[i]?=bN (bN v)->σ[i]?=bN (bN v)):Inv X pins σ' H s:=
 (I.ok,I.os,I.bare,I.base,by let(m,hn,hl'):=I.loc;show(m,hn,λi x v b c a=>hl' i x v b (w i v c) a),I.cell,I.free,I.freeC,I.pin,I.hok,hl.trans I.len)
def Inv.pins_of(I:Inv X pins σ H s)(h:∀p∈pins',s.heap.get? p.1=bN p.2/\H p.1=ce/\p.1≠X.env.locals/\p.1∉X.fs/\∀v,p.2.data≠.cell v):Inv X pins' σ H s:=
 (I.ok,I.os,I.bare,I.base,I.loc,I.cell,I.free,I.freeC,λp a=>(aO.mp a).elim (λz=>I.pin p (eM _ z)) (h p),I.hok,I.len)
def a6l{N:List Str}(hN:N.Nodup){i j:Nat}(a:N[i]?=bN x)(b:N[j]?=bN x):i=j:=by
 let(f,c):=bh.mp a;let(e,d):=bh.mp b;show (List.getElem_inj hN).mp (c.trans d.symm)
def a4P(I:Inv X pins σ H s)(hN:X.N.Nodup)(hi:X.N[i]?=bN x)(hx:Loc X.env.scope x)(r:RelV v u)
  (h:∀s',Inv X pins (σ.set i (bN v)) H s'->(∃a,Heap.SameBut a s.heap s'.heap/\(a=X.env.locals\/X.env.cells.lookup x=bN a))->Q () s') (hf:X.fn x=cp\/X.env.scope.names.lookup x=bN .local):wpAny M A (iW X.env x u) Q E s:=by
 let(m,hn,hl):=id I.loc;let hcls:(X.env.scope.kind==.class||(X.env.scope.kind==.module&&X.env.locals != X.env.globals))=js:=by rw[I.ok.kind];rfl
 let U:i<σ.length:=I.len▸(bh.mp hi).1;let J:=I.cne;let B:∀{a:Addr}{G:Heap},(∃o,s.heap.get? a=bN o/\H a=ce)->Heap.SameBut a s.heap G->HOk X.prog X.w H G:=λ{a G} ha f b ob e=>by
  let(_,_,F):=ha;show (I.hok b ob e).stay (λc R l q=>(f.2 c ?_).trans q) (λ_ q=>q) λ_ _ q=>q;ext rfl;let rfl||l:=l
  .rw[F]at e;cases e
  .rw[F]at l;cases l
 let hk||hk:=hx
 .show wpAny_storeName_local hk hn (λG hn' f=>?_) hcls;let(oL,_,_,hoL,_):=id hn;show h _ (I.ok,I.os,I.bare,(λb o e n D hx=>((f.2 b (aZ (bB (Heap.lt_size e) I.ok.above))).trans (I.base.keep b o e n D hx)),λb o e n D hx=>?_,I.base.free,λb o e hx=>?_,I.base.tups,I.base.frzs,I.base.tbls),(_,hn',λj y v' g C e3=>?_),λy c e=>?_,I.free,I.freeC,λp hp=>?_,B (oL,hoL,I.free) f,↑I.len) (_,f,.inl rfl)
  .let(sl,g):=I.base.slot b o e n D hx;show(sl,(f.2 b (aZ (bB (Heap.lt_size e) I.ok.above))).trans g)
  .let(o',g):=I.base.there b o e hx;show(o',(f.2 b (aZ (bB (Heap.lt_size e) I.ok.above))).trans g)
  .by_cases hj:j=i
   .subst hj;rw[hi]at g;cases g;rw[dN U]at C;cases C;show(u,r,.inl (hk,by simp))
   .rw[di (Ne.symm hj)]at C;let(u',r',q):=hl j y v' g C e3;show(u',r',?_);let(k,e)||(k,c,e,z):=q
    .show .inl (k,?_)
     let:y≠x:=λe=>hj (a6l hN g (e▸hi))
     simp[this,e]
    .show .inr (k,c,e,z.sameBut f (J y c e))
  .let(R,z):=I.cell y c e;show(R,z.sameBut f (J y c e))
  .let(e,n,S,nf,d):=I.pin p hp;show((f.2 p.1 S).trans e,n,S,nf,d)
 .let L:X.fn x=cp:=by
   let z||z:=hf
   .show z
   .rw[z]at hk;cases hk
  let(c,l):=I.ok.has x (.inl hk);let(R,z):=I.cell x c l;show wpAny_storeName_cell I.ok.kind hk l z (λG Y f=>?_);let(oc,W,hocd):=id z;show h { s with heap:=G } (I.ok,I.os,I.bare,(λb o e n D hx=>((f.2 b (aZ (bB (Heap.lt_size e) (I.ok.cab x c L l)))).trans (I.base.keep b o e n D hx)),λb o e n D hx=>?_,I.base.free,λb o e hx=>?_,I.base.tups,I.base.frzs,I.base.tbls),(m,hn.sameBut f (Ne.symm (J x c l)),λj y v' g C e3=>?_),λy T e=>?_,I.free,I.freeC,λp hp=>?_,B (oc,W,I.freeC x c l) f,↑I.len) (c,f,.inr l)
  .let(sl,g):=I.base.slot b o e n D hx;show(sl,(f.2 b (aZ (bB (Heap.lt_size e) (I.ok.cab x c L l)))).trans g)
  .let(o',g):=I.base.there b o e hx;show(o',(f.2 b (aZ (bB (Heap.lt_size e) (I.ok.cab x c L l)))).trans g)
  .by_cases hj:j=i
   .subst hj;rw[hi]at g;cases g;rw[dN U]at C;cases C;show(u,r,.inr (.inl hk,c,l,Y))
   .rw[di (Ne.symm hj)]at C;let(u',r',q):=hl j y v' g C e3;show(u',r',?_);let q||(k,T,e,z'):=q
    .show .inl q
    .show .inr (k,T,e,z'.sameBut f ?_);ext rfl;show hj (a6l hN g (I.ok.inj _ _ _ e l▸hi))
  .by_cases hcc:T=c
   .subst hcc;show(_,Y)
   .let(w2,z2):=I.cell y T e;show(w2,z2.sameBut f hcc)
  .let(e,n,S,nf,d):=I.pin p hp;show((f.2 p.1 ?_).trans e,n,S,nf,d);ext q;rw[q,W]at e;show d R ((bN.inj e)▸hocd)
def a36(I:Inv X pins σ H s)(hN:X.N.Nodup)(hi:X.N[i]?=bN x)(hx:Loc X.env.scope x)(r:RelV v u)
  (h:∀s',Inv X pins (σ.set i (bN v)) H s'->Q () s') (hf:X.fn x=cp\/X.env.scope.names.lookup x=bN .local):wpAny M A (iW X.env x u) Q E s:=
 a4P I hN hi hx r (λa b _=>h a b) hf
def Inv.call'(I:Inv X pins σ H s)(ho:s'.os=s.os)(u:Un (frs X.stack) ch H H' s.heap s'.heap)(hok:HOk X.prog X.w H' s'.heap)(hg:gr s'.gens)
  (hch:∀b∈ch,(b∈X.ex\/X.s₀.heap.objs.size<=b)/\b≠X.env.locals/\(∀x c,X.env.cells.lookup x=bN c->c≠b)/\∀p∈X.pn++pins,p.1≠b):Inv X pins σ H' s':=by
 let(h',g',d',t',g):=s';let e:=ho;subst e;show I.call u hok hg hch
end
abbrev XK:=Value->Option Addr->Hp->Prop
abbrev St:=List (Option V)
abbrev VK:=V->Hp->Prop
abbrev TE:=St->Hp->VK->Prop
abbrev TT:=St->Hp->(Bool->Hp->Prop)->Prop
abbrev TA:=St->Hp->(List V->Hp->Prop)->Prop
structure Ends where
 nx:St->Hp->Prop
 rt:VK
 bk:St->Hp->Prop:=λ_ _=>False
 ct:St->Hp->Prop:=λ_ _=>False
abbrev TS:=Ends->St->Hp->Prop
def EP(X:Cx)(pins:List (Addr×Obj))(σ:St)(Q:VK)(u:Value)(s':Shared):Prop:=∃v H',Inv X pins σ H' s'/\RelV v u/\Q v H'
def TP(X:Cx)(pins:List (Addr×Obj))(σ:St)(Q:Bool->Hp->Prop)(b:Bool)(s':Shared):Prop:=∃H',Inv X pins σ H' s'/\Q b H'
def AP(X:Cx)(pins:List (Addr×Obj))(σ:St)(Q:List V->Hp->Prop)(us:List Value)(s':Shared):Prop:=∃vs H',Inv X pins σ H' s'/\Vals vs us/\Q vs H'
def SP(X:Cx)(pins:List (Addr×Obj))(D:Ends)(f:Flow)(s':Shared):Prop:=
 match f with
 |.next=>∃σ' H',Inv X pins σ' H' s'/\D.nx σ' H'
 |.brk=>∃σ' H',Inv X pins σ' H' s'/\D.bk σ' H'
 |.cont=>∃σ' H',Inv X pins σ' H' s'/\D.ct σ' H'
 |.ret u=>∃v σ' H',Inv X pins σ' H' s'/\RelV v u/\D.rt v H'
def PE(X:Cx)(e:Expr)(t:TE):Prop:=
 ∀(pins:List (Addr×Obj))(s:Shared)(σ:St)(H:Hp)(Q:VK),Inv X pins σ H s->t σ H Q->wpAny (model X.prog X.w) X.A (eval e X.env) (EP X pins σ Q) X.xe s
def PT(X:Cx)(e:Expr)(t:TT):Prop:=
 ∀(pins:List (Addr×Obj))(s:Shared)(σ:St)(H:Hp)(Q:Bool->Hp->Prop),Inv X pins σ H s->t σ H Q->wpAny (model X.prog X.w) X.A (isTrue e X.env (eval e X.env)) (TP X pins σ Q) X.xe s
def PW(X:Cx)(e:Expr)(t:TT):Prop:=
 ∀(whole:Sem Value)(pins:List (Addr×Obj))(s:Shared)(σ:St)(H:Hp)(Q:Bool->Hp->Prop),Inv X pins σ H s->t σ H Q->wpAny (model X.prog X.w) X.A (isTrue e X.env whole) (TP X pins σ Q) X.xe s
def PW.pt(h:PW X e t):PT X e t:=h _
def PA(X:Cx)(es:List Expr)(t:TA):Prop:=
 ∀(pos:Pos)(pins:List (Addr×Obj))(s:Shared)(σ:St)(H:Hp)(Q:List V->Hp->Prop),Inv X pins σ H s->t σ H Q->wpAny (model X.prog X.w) X.A (spliced (backTo pos (fP es X.env))) (AP X pins σ Q) X.xe s
def PS(X:Cx)(st:Stmt)(t:TS):Prop:=
 ∀(pins:List (Addr×Obj))(s:Shared)(σ:St)(H:Hp)(D:Ends),Inv X pins σ H s->t D σ H->wpAny (model X.prog X.w) X.A (exec st X.env) (SP X pins D) X.xe s
def PSs(X:Cx)(st:List Stmt)(t:TS):Prop:=
 ∀(pins:List (Addr×Obj))(s:Shared)(σ:St)(H:Hp)(D:Ends),Inv X pins σ H s->t D σ H->wpAny (model X.prog X.w) X.A (execs st X.env) (SP X pins D) X.xe s
def thn{α:Type}{t:Sem α}{Q Q':α->Shared->Prop}(h:wpAny M A t Q E s)(hQ:∀a s,Q a s->Q' a s):wpAny M A t Q' E s:=fY h hQ λ_ _ x=>x
section
def tVar(i:Nat):TE:=fun σ H Q=>∃v,σ[i]?=bN (bN v)/\Q v H
def tC(v:V):TE:=λ_ H Q=>Q v H
def a7S(hN:X.N[i]?=bN x)(hv:Vis X.env.scope x)(hd:(x==("__debug__":Str))=js:=by decide)(hcd:(x==("__classdict__":Str))=js:=by decide):PE X (.Name x pos) (tVar i):=by
 ext b s σ H Q I h;let(v,e,h):=h;let(m,f,d):=I.loc;let(u,r,l):=d i x v hN e hv;let a:EP X b σ Q u s:=(v,H,I,r,h);let(hk,hm)||(hk,c,hc,hcell):=l
 .show iX (wpAny_loadName_local I.ok.kind hk f hm a) hd
 .let hk||hk:=hk
  .show iX (wpAny_loadName_cell I.ok.kind hk hc hcell a) hd
  .show iX (wpAny_loadName_free I.ok.kind hk hc hcell a hcd) hd
def b4F:PE X (.Constant (.int i) j pos) (tC (.int i)):=λ_ _ _ H _ I h=>wpAny_Constant_int (.int i,H,I.tok _,(_,rfl),h)
def b7u:PE X (.Constant (.bool b) j pos) (tC (.bl b)):=λ_ _ _ H _ I h=>Constant_bool (.bl b,H,I,rfl,h)
def b4G:PE X (.Constant .none j pos) (tC .non):=λ_ _ _ H _ I h=>Constant_none (.non,H,I,rfl,h)
def b4H:PE X (.Constant (.str x) j pos) (tC (.str x)):=λ_ _ _ H _ I h=>Calls.Constant_str (.str x,H,I.tok _,(_,rfl),h)
def Gl(X:Cx)(x:Str):Prop:=X.env.kindOf x=bN .globalImplicit
def a37(I:Inv X pins σ H s)(hg:Gl X x)(hm:X.mg x=bN u)(h:Q u s)
  (hd:(x==("__debug__":Str))=js:=by decide):wpAny (model X.prog X.w) X.A (eval (.Name x pos) X.env) Q E s:=
 Calls.Name_function_global I.ok.kind hg (Calls.loadGlobal_global (I.ok.glob▸I.mod.glob.keeps I.bk) hm h) hd
def a3J(I:Inv X pins σ H s)(hg:Gl X x)(hm:X.mg x=ce)(hv:gq x=bN u)(h:Q u s)
  (hn:x≠"__name__":=by decide) (hd:(x==("__debug__":Str))=js:=by decide):wpAny (model X.prog X.w) X.A (eval (.Name x pos) X.env) Q E s:=by
 let(c,b,a):=I.mod.blt;show Calls.Name_function_global I.ok.kind hg (Calls.loadGlobal_builtin (I.ok.glob▸I.mod.glob.keeps I.bk) hm (I.ok.blt▸b.keeps I.bk) ((a x hn).trans hv) h) hd
def a7T(hg:Gl X x)(hm:X.mg x=bN u)(r:RelV v u)(hd:(x==("__debug__":Str))=js):PE X (.Name x pos) (tC v):=
 λ_ _ _ H _ I h=>a37 I hg hm (v,H,I,r,h) hd
def a2W(hg:Gl X x)(hm:X.mg x=ce)(hv:gq x=bN u)(r:RelV v u)(hn:x≠"__name__":=by decide)(hd:(x==("__debug__":Str))=js:=by decide):PE X (.Name x pos) (tC v):=
 λ_ _ _ H _ I h=>a3J I hg hm hv (v,H,I,r,h) hn hd
variable{a b:Expr}{ta tb:TE}
def PC(X:Cx)(op:CmpOp)(a b:Expr)(t:TE):Prop:=
 ∀(pins:List (Addr×Obj))(s:Shared)(σ:St)(H:Hp)(Q:VK),Inv X pins σ H s->t σ H Q ->
  wpAny (model X.prog X.w) X.A (eval a X.env) (λv sj=>wpAny (model X.prog X.w) X.A (eval b X.env) (λu sv=>wpAny (model X.prog X.w) X.A (fR op v u) (EP X pins σ Q) X.xe sv) X.xe sj) X.xe s
noncomputable def tB(t:TE):TT:=fun σ H Q=>t σ H λx H1=>∃c,x=.bl c/\Q c H1
def b4I(h:PE X e t)(he:∀whole,isTrue e X.env whole=(do let v <- whole;gc e.pos;fZ [v] (truthy v)):=by ext _;rfl):PT X e (tB t):=by
 ext a s σ H Q I f;show isTrue_plain (thn (h a s σ H _ I f) λv j (x,b,i,g,c)=>?_) (he _);let(d,rfl,q):=c;cases g;show gz (b,i,q)
variable{tA tB':TT}{rest:List Expr}
def tAnd(t u:TT):TT:=fun σ H Q=>t σ H λc H1=>if c=cp then u σ H1 Q else Q js H1
def tOr(t u:TT):TT:=fun σ H Q=>t σ H λc H1=>if c=cp then Q cp H1 else u σ H1 Q
def tNot(t:TT):TT:=fun σ H Q=>t σ H λc H1=>Q (!c) H1
def b2I(ha:PT X a tA):PW X (.BoolOp .And [a] pos) tA:=by
 ext f b s σ H Q I h;show isTrue_and (thn (ha b s σ H Q I h) λc d e=>?_);cases c with
 |true=>show isTrue_and_nil e
 |false=>show e
def b4J(ha:PT X a tA):PW X (.BoolOp .Or [a] pos) tA:=by
 ext f b s σ H Q I h;show isTrue_or (thn (ha b s σ H Q I h) λc d e=>?_);cases c with
 |false=>show isTrue_or_nil e
 |true=>show e
def b4K(ha:PT X a tA)(hb:PW X (.BoolOp .And (b::rest) pos) tB'):PW X (.BoolOp .And (a::b::rest) pos) (tAnd tA tB'):=by
 ext j d s σ H Q I h;show isTrue_and (thn (ha d s σ H _ I h) λc i Y=>Y.elim λe Y=>Y.elim λg f=>?_);cases c with
 |true=>show hb j d i σ e Q g f
 |false=>show(e,g,f)
def b7v(ha:PT X a tA)(hb:PW X (.BoolOp .Or (b::rest) pos) tB'):PW X (.BoolOp .Or (a::b::rest) pos) (tOr tA tB'):=by
 ext j d s σ H Q I h;show isTrue_or (thn (ha d s σ H _ I h) λc i Y=>Y.elim λg Y=>Y.elim λe f=>?_);cases c with
 |true=>show(g,e,f)
 |false=>show hb j d i σ g Q e f
def b4L(ha:PT X a tA):PT X (.UnaryOp .Not a pos) (tNot tA):=λb s σ H Q I h=>isTrue_not (ha b s σ H _ I h)
def b7w(ta tb:TE):TE:=fun σ H Q=>ta σ H λx H1=>∃c,x=.bl c/\if c=cp then tb σ H1 Q else Q (.bl js) H1
def tOrV(ta tb:TE):TE:=fun σ H Q=>ta σ H λx H1=>∃c,x=.bl c/\if c=cp then Q (.bl cp) H1 else tb σ H1 Q
def b7x(ta:TE):TE:=fun σ H Q=>ta σ H λx H1=>∃c,x=.bl c/\Q (.bl (!c)) H1
def b4M(h:PE X a t):PE X (.BoolOp op [a] pos) t:=λb s σ H Q I c=>BoolOp_one (h b s σ H Q I c)
def b4N(ha:PE X a ta)(hb:PE X (.BoolOp .And (b::rest) pos) tb):PE X (.BoolOp .And (a::b::rest) pos) (b7w ta tb):=by
 ext d s σ H Q I h;show BoolOp_and (thn (ha d s σ H _ I h) λv j (x,f,g,i,e)=>?_);let(c,rfl,e):=e;cases i;show gz ?_;cases c with
 |true=>show hb d j σ f Q g e
 |false=>show(.bl js,f,g,rfl,e)
def b7y(ha:PE X a ta)(hb:PE X (.BoolOp .Or (b::rest) pos) tb):PE X (.BoolOp .Or (a::b::rest) pos) (tOrV ta tb):=by
 ext d s σ H Q I h;show BoolOp_or (thn (ha d s σ H _ I h) λv i (x,g,f,j,e)=>?_);let(c,rfl,e):=e;cases j;show gz ?_;cases c with
 |false=>show hb d i σ g Q f e
 |true=>show(.bl cp,g,f,rfl,e)
def b4O(ha:PE X a ta):PE X (.UnaryOp .Not a pos) (b7x ta):=by
 ext b s σ H Q I h;show UnaryOp_ (thn (ha b s σ H _ I h) λv i (x,g,f,e,d)=>?_);let(c,rfl,d):=d;cases e;show not_of (gz (.bl (!c),g,f,rfl,d))
def tIf(t:TT)(ta tb:TE):TE:=fun σ H Q=>t σ H λc H1=>if c=cp then ta σ H1 Q else tb σ H1 Q
def a98(hc:PT X c tA)(ha:PE X a ta)(hb:PE X b tb):PE X (.IfExp c a b pos) (tIf tA ta tb):=by
 ext e s σ H Q I h;show wpAny_IfExp (thn (hc e s σ H _ I h) λd j Y=>Y.elim λi Y=>Y.elim λf g=>?_);cases d with
 |true=>show ha e j σ i Q f g
 |false=>show hb e j σ i Q f g
end
def SqL(K:Fg)(H:Hp)(a:Addr)(xs:List V):Prop:=
 Rd H a (.lst xs) \/
  ∃(o:Obj)(its:Array Value)(n:Nat),K.lookup a=bN o/\o.cls=.type "list"/\o.dict=ce/\o.data=.seq its n/\its.size<=fL/\Vals xs its.toList
def SqT(K:Fg)(H:Hp)(a:Addr)(xs:List V):Prop:=
 Rd H a (.tup xs) \/
  ∃(o:Obj)(its:Array Value)(n:Nat),K.lookup a=bN o/\o.cls=.type "tuple"/\o.data=.seq its n/\its.size<=fL/\Vals xs its.toList
noncomputable def absV:Value->Option V
 |.none=>bN .non
 |.bool b=>bN (.bl b)
 |.int i _=>bN (.int i)
 |.str x _=>bN (.str x)
 |.bytes b _=>bN (.byt b)
 |.float b _=>bN (.flt b)
 |.ref a=>bN (.ref a)
 |.type n=>bN (.ty n)
 |_=>ce
def RelV.abs(r:RelV x u):absV u=bN x:=by
 cases x with
 |non=>cases r;rfl
 |bl _=>cases r;rfl
 |int _=>let(t,rfl):=r;rfl
 |str _=>let(t,rfl):=r;rfl
 |byt _=>let(t,rfl):=r;rfl
 |flt _=>let(t,rfl):=r;rfl
 |ref _=>cases r;rfl
 |ty _=>cases r;rfl
def RelV.inj(r:RelV x u)(q:RelV y u):x=y:=bN.inj (r.abs.symm.trans q.abs)
def Vals.inj:∀{xs ys:List V}{us:List Value},Vals xs us->Vals ys us->xs=ys:=by
 ext xs ys us h
 induction h generalizing ys with
 |nil=>ext k;cases k;rfl
 |cons r t ih=>
  ext k;cases k with
  |cons r' t'=>rw[r.inj r',ih t']
section
variable{σ:St}{a:Addr}{xs ys:List V}
def SqL.of{K:Fg}(h:H a=bN (.lst xs)):SqL K H a xs:=.inl (.inl h)
def SqT.of{K:Fg}(h:H a=bN (.tup xs)):SqT K H a xs:=.inl (.inl h)
def Inv.list(I:Inv X pins σ H s)(h:SqL X.K H a xs):∃its:List Value,Vals xs its/\PlainL s.heap a its.toArray/\xs.length<=sizeLine:=by
 let h||(o,b,n,hk,hc,hd,hs,hz,r):=h
 .let(z,b,n,r,e):=h.ok I.hok;show(b,r,(_,n,e,rfl,rfl,rfl),z)
 .show(b.toList,r,(o,n,I.kIn a o hk,hc,hd,↑hs),?_);let e:=r.length;simp at e
  lia
def Inv.tuple(I:Inv X pins σ H s)(h:SqT X.K H a xs):∃its:List Value,Vals xs its/\IsTup s.heap a its.toArray/\xs.length<=sizeLine:=by
 let h||(o,b,n,hk,hc,hs,hz,r):=h
 .let(z,b,r,p):=h.ok I.hok;show(b,r,p,z)
 .show(b.toList,r,(o,I.kIn a o hk,hc,n,↑hs),?_);let e:=r.length;simp at e
  lia
def Inv.list_inj(I:Inv X pins σ H s)(h:SqL X.K H a xs)(h':SqL X.K H a ys):xs=ys:=by
 let(f,r,(o,n,e,_,_,d),_):=I.list h;let(b,i,(j,k,c,_,_,g),_):=I.list h'
 let:f=b:=by grind
 subst this;show r.inj i
def Inv.tuple_inj(I:Inv X pins σ H s)(h:SqT X.K H a xs)(h':SqT X.K H a ys):xs=ys:=by
 let(f,r,(o,e,_,n,d),_):=I.tuple h;let(b,i,(j,c,_,k,g),_):=I.tuple h'
 let:f=b:=by grind
 subst this;show r.inj i
end
abbrev Cx.wish(X:Cx)(E:Value->Shared->Prop):Cx:={ X with xe:=E }
abbrev Cx.nox(X:Cx):Cx:=X.wish λ_ _=>False
noncomputable def Cx.Ok.wish{X:Cx}(ok:X.Ok)(E:Value->Shared->Prop):(X.wish E).Ok:=
 (ok.mod,ok.kind,ok.glob,ok.blt,ok.above,ok.inj,ok.has,ok.cab,ok.hd,ok.frames,ok.stk,ok.exf,ok.bs,ok.bsz,ok.noex,ok.exfs,ok.funs,ok.frf)
def Cx.Ok.unwish{X:Cx}(ok:(X.wish E).Ok):X.Ok:=
 (ok.mod,ok.kind,ok.glob,ok.blt,ok.above,ok.inj,ok.has,ok.cab,ok.hd,ok.frames,ok.stk,ok.exf,ok.bs,ok.bsz,ok.noex,ok.exfs,ok.funs,ok.frf)
section
variable{σ:St}
noncomputable def Inv.wish(I:Inv X pins σ H s)(E:Value->Shared->Prop):Inv (X.wish E) pins σ H s:=(I.ok.wish E,I.os,I.bare,I.base,I.loc,I.cell,I.free,I.freeC,I.pin,I.hok,I.len)
def Inv.unwish(I:Inv (X.wish E) pins σ H s):Inv X pins σ H s:=(I.ok.unwish,I.os,I.bare,I.base,I.loc,I.cell,I.free,I.freeC,I.pin,I.hok,I.len)
def SP.unwish(h:SP (X.wish E) pins D f s'):SP X pins D f s':=by
 cases f with
 |next=>let(σ',H',I,q):=h;show(σ',H',I.unwish,q)
 |brk=>let(σ',H',I,q):=h;show(σ',H',I.unwish,q)
 |cont=>let(σ',H',I,q):=h;show(σ',H',I.unwish,q)
 |ret u=>let(v,σ',H',I,r,q):=h;show(v,σ',H',I.unwish,r,q)
noncomputable def PE.nox(h:PE X.nox e t):PE X e t:=λa s σ H Q I d=>
 fY (h a s σ H Q (I.wish _) d) (by ext _ _ ⟨v,b,c,r,q⟩;show(v,b,c.unwish,r,q)) λ_ _ z=>aP z
noncomputable def PT.nox(h:PT X.nox e t):PT X e t:=λa s σ H Q I d=>
 fY (h a s σ H Q (I.wish _) d) (by ext _ _ ⟨c,b,q⟩;show(c,b.unwish,q)) λ_ _ z=>aP z
noncomputable def PSs.nox{st:List Stmt}(h:PSs X.nox st t):PSs X st t:=λa s σ H D I b=>
 fY (h a s σ H D (I.wish _) b) (λ_ _ q=>q.unwish) λ_ _ z=>aP z
end
section
variable{st:Stmt}{rest:List Stmt}{t u:TS}{e:Expr}{te:TE}
def b4P:TS:=λD σ H=>D.nx σ H
def tSeq(t u:TS):TS:=λD σ H=>t { D with nx:=u D } σ H
def b2J:PSs X [] b4P:=λ_ _ σ H _ I h=>iY (σ,H,I,h)
def a6m(h1:PS X st t)(h2:PSs X rest u):PSs X (st::rest) (tSeq t u):=by
 ext a s σ H D I h;show wpAny_execs_cons (thn (h1 a s σ H { D with nx:=u D } I h) λf b q=>?_);cases f with
 |next=>
  let(σ',H',I',q):=q;show h2 a b σ' H' D I' q
 |ret v=>show q
 |brk=>show q
 |cont=>show q
def b2K(h1:PS X st t):PSs X [st] t:=by
 ext a s σ H D I h;show wpAny_execs_cons (thn (h1 a s σ H D I h) λf b q=>?_);cases f with
 |next=>show iY q
 |ret v=>show q
 |brk=>show q
 |cont=>show q
def b4Q:TS:=λD σ H=>D.bk σ H
def b7z:TS:=λD σ H=>D.ct σ H
def b2L:PS X (.Pass pos) b4P:=λ_ _ σ H _ I h=>wpAny_Pass (σ,H,I,h)
def a99:PS X (.Break pos) b4Q:=λ_ _ σ H _ I h=>wpAny_Break (σ,H,I,h)
def a5I:PS X (.Continue pos) b7z:=λ_ _ σ H _ I h=>wpAny_Continue (σ,H,I,h)
def Inv.quiet(I:Inv X pins σ H s):interactive X.env=js:=by simp[interactive,I.ok.kind]
def b7A(te:TE):TS:=λD σ H=>te σ H λ_ H1=>D.nx σ H1
def b2M(he:PE X e te)(hs:gA e ce pos.line X.env=pure js):PS X (.Expr e pos) (b7A te):=λa s σ H D I h=>wpAny_Expr_any (thn (he a s σ H _ I h) λv f (x,d,c,g,b)=>(σ,d,c,b)) I.quiet hs
def tRet(te:TE):TS:=λD σ H=>te σ H D.rt
def b4R(he:PE X e te):PS X (.Return (bN e) pos) (tRet te):=λa s σ H D I h=>wpAny_Return_some (thn (he a s σ H _ I h) λv g (x,c,b,f,d)=>(x,σ,c,b,f,d))
def b7B:TS:=λD _ H=>D.rt .non H
def b2N:PS X (.Return ce pos) b7B:=λ_ _ σ H _ I h=>wpAny_Return_none (.non,σ,H,I,rfl,h)
def tIfS(c:TT)(t u:TS):TS:=λD σ H=>c σ H λb H1=>if b=cp then t D σ H1 else u D σ H1
def b7C(hc:PT X c tc)(ha:PSs X a t)(hb:PSs X b u):PS X (.If c a b pos) (tIfS tc t u):=by
 ext e s σ H D I h;show wpAny_If (thn (hc e s σ H _ I h) λd f Y=>Y.elim λg Y=>Y.elim λi j=>?_);cases d with
 |true=>show ha e f σ g D i j
 |false=>show hb e f σ g D i j
end
abbrev TG:=V->St->Hp->(St->Hp->Prop)->Prop
abbrev TGs:=List V->St->Hp->(St->Hp->Prop)->Prop
def PG(X:Cx)(target:Expr)(t:TG):Prop:=
 ∀(pins:List (Addr×Obj))(s:Shared)(σ:St)(H:Hp)(v:V)(u:Value)(Q:St->Hp->Prop),Inv X pins σ H s->RelV v u->t v σ H Q ->
  wpAny (model X.prog X.w) X.A (assign target X.env u) (λ_ s'=>∃σ' H',Inv X pins σ' H' s'/\Q σ' H') X.xe s
def PGs(X:Cx)(ts:List Expr)(t:TGs):Prop:=
 ∀(pins:List (Addr×Obj))(s:Shared)(σ:St)(H:Hp)(vs:List V)(us:List Value)(Q:St->Hp->Prop),Inv X pins σ H s->Vals vs us->t vs σ H Q ->
  wpAny (model X.prog X.w) X.A (assignInOrder ((gv ts X.env).map (·.2)) us) (λ_ s'=>∃σ' H',Inv X pins σ' H' s'/\Q σ' H') X.xe s
abbrev TSet:=V->V->V->Hp->(Hp->Prop)->Prop
def PSet(X:Cx)(t:TSet):Prop:=
 ∀(pins:List (Addr×Obj))(s:Shared)(σ:St)(H:Hp)(o i v:V)(ov iv u:Value)(Q:Hp->Prop),Inv X pins σ H s->RelV o ov->RelV i iv->RelV v u->t o i v H Q ->
  wpAny (model X.prog X.w) X.A (iE ov iv u) (λ_ s'=>∃H',Inv X pins σ H' s'/\Q H') X.xe s
abbrev TIp:=V->V->Hp->VK->Prop
def PIp(X:Cx)(op:Operator)(t:TIp):Prop:=
 ∀(pins:List (Addr×Obj))(s:Shared)(σ:St)(H:Hp)(x y:V)(v u:Value)(Q:VK),Inv X pins σ H s->RelV x v->RelV y u->t x y H Q ->
  wpAny (model X.prog X.w) X.A (gM op v u) (EP X pins σ Q) X.xe s
def a7U(i:Nat):TG:=λv σ H Q=>Q (σ.set i (bN v)) H
def a7V(hN:X.N.Nodup)(hi:X.N[i]?=bN x)(hx:Loc X.env.scope x)(hf:X.fn x=cp\/X.env.scope.names.lookup x=bN .local):PG X (.Name x pos) (a7U i):=λb s σ H v u Q I r h=>wpAny_assign_Name (a36 I hN hi hx r (λc a=>(_,H,a,h)) hf)
def gNil:TGs:=λvs σ H Q=>vs=[]/\Q σ H
def b4S(t:TG)(u:TGs):TGs:=λvs σ H Q=>∃v r,vs=v::r/\t v σ H fun σ' H'=>u r σ' H' Q
def b2O:PGs X [] gNil:=by
 ext a s σ H b c Q I r h;let(e,h):=h;subst e;show assignInOrder_nil (σ,H,I,h)
def b0a(h1:PG X e t)(h2:PGs X es u)
  (hs:(gv (e::es) X.env).map (·.2)=assign e X.env::(gv es X.env).map (·.2):=by rfl):PGs X (e::es) (b4S t u):=by
 ext a s σ H k i Q I r h;let(v,j,g,h):=h;subst g;cases r with
 |cons r rr=>
  rw[hs];show assignInOrder_cons (thn (h1 a s σ H _ _ _ I r h) λ_ f (σ1,d,b,c)=>(h2 a f σ1 d _ _ Q b rr c))
def gTup(K:Fg)(n:Nat)(t:TGs):TG:=λv σ H Q=>∃a xs,v=.ref a/\SqT K H a xs/\xs.length=n/\t xs σ H Q
def b4T(hc:X.calm=cp)(h:PGs X es t)
  (hn:(gv es X.env).length=n) (hst:(gv es X.env).findIdx? (·.1)=ce):PG X (.Tuple es k pos) (gTup X.K n t):=by
 ext c s σ H v u Q I r d;let(a,i,q,m,l,d):=d;subst q;cases r;let(x,f,p,y):=I.tuple m;show assign_Tuple_tuple (I.ok.hd hc) p (by simp[hn,<- l,f.length]) hst λw j=>(h c _ σ H i _ Q (I.kept (t':=s.toks) λb o e=>j b o (aZ (Heap.lt_size e)) e) (by cbv) d)
def gSub(to ti:TE)(t:TSet):TG:=λv σ H Q=>to σ H λo H1=>ti σ H1 λi H2=>t o i v H2 λH3=>Q σ H3
def b4U(ho:PE X o jt)(hi:PE X i ti)(hs:PSet X t)
  (ha:∀v,assign (.Subscript o i pos) X.env v=(do
   let ov <- fZ [v] (eval o X.env)
   let iv <- fZ [v,ov] (eval i X.env)
   gc pos
   fZ [v,ov,iv] (iE ov iv v)
   release [v,ov,iv] []):=by ext _;rfl):PG X (.Subscript o i pos) (gSub jt ti t):=by
 ext a s σ H v u Q I r h;rw[ha];show fK (gb (thn (ho a s σ H _ I h) λl n (x,c,e,g,p)=>(fK (gb (thn (hi a n σ c _ e p) λm q (y,f,w,b,k)=>(fK (iZ (fK (gb (thn (hs a q σ f x y v l m u _ w g b r k) λ_ A Y=>Y.elim λj Y=>Y.elim λz d=>(wpAny_release (σ,j,z,d))))))))))))
def tAsg(te:TE)(g:TG):TS:=λD σ H=>te σ H λx H1=>g x σ H1 D.nx
def b1N(he:PE X e te)(hg:PG X tg g)(hs:i3 [tg] e pos.line X.env=pure js)(hw:i5 [tg] e X.env=pure ce)
  (h1:(gv [tg] X.env).map (·.2)=[assign tg X.env]):PS X (.Assign [tg] e pos) (tAsg te g):=by
 ext a s σ H D I h;show wpAny_Assign_stores (thn (he a s σ H _ I h) λv c (x,d,b,i,f)=>?_) hs hw;rw[h1];show thn (hg a c σ d x v _ b i f) λ_ j q=>q
def b4V(hN:X.N.Nodup)(hi:X.N[i]?=bN x)(hx:Loc X.env.scope x)(he:PE X e te)(hs:gA e (bN (.Name x pos')) pos.line X.env=pure js)(hf:X.fn x=cp\/X.env.scope.names.lookup x=bN .local) :
  PS X (.Assign [.Name x pos'] e pos) (tAsg te (a7U i)):=by
 ext a s σ H D I h;show wpAny_Assign_Name (thn (he a s σ H _ I h) λv j (y,f,d,c,g)=>?_) hs;show a36 d hN hi hx c (λk b=>(_,f,b,g)) hf
def tAug(i:Nat)(te:TE)(ti:TIp):TS:=λD σ H=>∃x,σ[i]?=bN (bN x)/\te σ H λy H1=>ti x y H1 λz H2=>D.nx (σ.set i (bN z)) H2
def b4W(hN:X.N.Nodup)(hi:X.N[i]?=bN x)(hx:Loc X.env.scope x)(he:PE X e te)(ho:PIp X op ti)(hf:X.fn x=cp\/X.env.scope.names.lookup x=bN .local) :
  PS X (.AugAssign (.Name x pos') op e pos) (tAug i te ti):=by
 ext a s σ H D I h;let(v,f,h):=h;let(m,g,j):=I.loc;let b:Vis X.env.scope x:=by let k||k:=hx;show .inl k;show .inr (.inl k)
 let(u,r,l):=j i x v hi f b;show wpAny_AugAssign_Name ?_;let d:wpAny (model X.prog X.w) X.A (eval e X.env) (λw B=>wpAny (model X.prog X.w) X.A (gM op u w) (λr G=>wpAny (model X.prog X.w) X.A (iW X.env x r) (λ_=>SP X a D .next) X.xe G) X.xe B) X.xe s:=by
  show thn (he a s σ H _ I h) λw C (y,n,p,F,t)=>(thn (ho a C σ n v y u w _ p r F t) λz Q (M,E,o,L,J)=>(a36 o hN hi hx L (λR q=>(_,E,q,J)) hf))
 let(hk,hm)||(hk,c,hc,hcell):=l
 .show wpAny_loadName_local I.ok.kind hk g hm d
 .let hk||hk:=hk
  .show wpAny_loadName_cell I.ok.kind hk hc hcell d
  .let k||k:=hx
   .let:X.env.scope.names.lookup x=bN .free:=hk
    rw[k]at this;cases this
   .let:X.env.scope.names.lookup x=bN .free:=hk
    rw[k]at this;cases this
structure It where
 go:Nat->Hp->Prop
 yld:Nat->Hp->V->Hp->Prop
 stop:Nat->Hp->Prop
def FpOk(X:Cx)(pins:List (Addr×Obj))(H:Hp)(b:Addr):Prop:=
 H b=ce/\b≠X.env.locals/\b∉X.fs/\(b∈X.ex\/X.s₀.heap.objs.size<=b)/\(∀x c,X.env.cells.lookup x=bN c->c≠b)/\∀p∈X.pn++pins,p.1≠b
def Inv.fpOk(I:Inv X pins σ H s)(hb:s.heap.objs.size<=b)(hn:H' b=ce):FpOk X pins H' b:=by
 show(hn,dk (bB I.lt hb),I.nofs hb,.inr (be I.sz hb),λx c e z=>?_,λp a z=>(absurd (bB (Heap.lt_size (I.pin p a).1) (by simp_all)) (cx _)))
 .let(v,q):=I.cell x c e;show absurd (bB q.lt (by simp_all)) (cx _)
structure Turn (P:fO) (w:World) (K:Fg) (tg:Expr) (J:It) (fp:List Addr) (it:Addr) (tn:Nat->Heap->Prop):Prop where
 mem:it∈fp
 obj:∀i h,tn i h->∀b∈fp,∃o,h.get? b=bN o/\∀v,o.data≠.cell v
 keep:∀i h h',tn i h->(∀b∈fp,∀o,h.get? b=bN o->h'.get? b=bN o)->tn i h'
 item:∀(X:Cx),X.prog=P->X.w=w->X.K=K->X.calm=cp->∀(i:Nat)(pins:List (Addr×Obj))(s:Shared)(σ:St)(H:Hp)(E:Value->Shared->Prop),Inv X pins σ H s->(∀b∈fp,FpOk X pins H b)->tn i s.heap->J.go i H ->
  wpAny (model P w) X.A (pyNext (.ref it)) (λr s1=>∃u,r=bN u /\
   wpAny (model P w) X.A (i6 tg (.ref it) u) (λ_ s2=>∃x H',Inv X pins σ H' s2/\RelV x u/\J.yld i H x H'/\tn (i+1) s2.heap/\∀b∈fp,H' b=ce) E s1) E s
 done:∀(X:Cx),X.prog=P->X.w=w->X.K=K->X.calm=cp->∀(i:Nat)(pins:List (Addr×Obj))(s:Shared)(σ:St)(H:Hp)(E:Value->Shared->Prop),Inv X pins σ H s->(∀b∈fp,FpOk X pins H b)->tn i s.heap->J.stop i H ->
  wpAny (model P w) X.A (pyNext (.ref it)) (λr s1=>r=ce/\Inv X pins σ H s1) E s
 self:∀(A:Around)(i:Nat)(s:Shared)(Q:Value->Shared->Prop)(E:Value->Shared->Prop),tn i s.heap->Q (.ref it) s->wpAny (model P w) A (pyIter (.ref it)) Q E s
abbrev TI:=St->Hp->(It->Hp->Prop)->Prop
def PIE(X:Cx)(pins:List (Addr×Obj))(σ:St)(tg:Expr)(R:It->Hp->Prop)(itv:Value)(s2:Shared):Prop:=
 ∃(it:Addr)(fp:List Addr)(tn:Nat->Heap->Prop)(J:It)(H':Hp),itv=.ref it/\Inv X pins σ H' s2/\Turn X.prog X.w X.K tg J fp it tn/\tn 0 s2.heap/\(∀b∈fp,FpOk X pins H' b)/\R J H'
def PI(X:Cx)(tg iter:Expr)(wi:TI):Prop:=
 ∀(pins:List (Addr×Obj))(s:Shared)(σ:St)(H:Hp)(R:It->Hp->Prop),Inv X pins σ H s->wi σ H R ->
  wpAny (model X.prog X.w) X.A (eval iter X.env) (λv s1=>wpAny (model X.prog X.w) X.A (pyIter v) (PIE X pins σ tg R) X.xe s1) X.xe s
def a7W(ho:s.heap.get? it=bN o)(hc:o.cls=.type n)(hd:o.data=.fields vs)
    (hn:["enumerate","zip","dict_itemiterator","dict_reverseitemiterator","odict_iterator","itertools.zip_longest","itertools.pairwise"].contains n=js) (hQ:Q () s):wpAny M A (i6 tg (.ref it) u) Q E s:=by
  cases tg<;>first
    |show fS hQ
    | (cases u<;>first
        |show fS hQ
        | (show fK (wpAny_load ho ?_)
           rw[hc,hd]
           change wpAny M A (if _=cp then _ else _) Q E s
           rw[if_neg (by grind)];show fS hQ))
noncomputable def Itl(K:Fg)(a:Addr):It:=
 (λi H=>∃xs x,SqL K H a xs/\xs[i]?=bN x,λi H x H'=>H'=H/\∀xs,SqL K H a xs->xs[i]?=bN x,λi H=>∃xs,SqL K H a xs/\xs.length<=i)
noncomputable def Itt(K:Fg)(a:Addr):It:=
 (λi H=>∃xs x,SqT K H a xs/\xs[i]?=bN x,λi H x H'=>H'=H/\∀xs,SqT K H a xs->xs[i]?=bN x,λi H=>∃xs,SqT K H a xs/\xs.length<=i)
noncomputable def Itr(lo:Int)(n:Nat):It:=(λi _=>i<n,λi H x H'=>H'=H/\x=.int (lo+i),λi _=>n<=i)
theorem a7X{P:fO}{w:World}{K:Fg}{tg:Expr}(a it:Addr):Turn P w K tg (Itl K a) [it] it (λi h=>h.IsListIter it a i) where
 mem:=by simp
 obj:=λi h st b hb=>by
  let e:b=it:=↑hb
  subst e;let(o,e,c,d):=st;show(o,e,λv z=>by rw[d]at z;cases z)
 keep:=λi h h' st k=>st.at λo e=>k it (by simp) o e
 item:=by
  ext X hP hw hK hc i pins s σ H E I hf st hg;subst hP hw hK;let(xs,x,hq,hx):=hg;let(its,rv,p,hz):=I.list hq;let(u,hu,ru):=rv.get hx;let(f0,f1,f2,f3,f4,f5):=hf it (by simp);show wpAny_pyNext_list_item st p.isList (x:=u) ↑hu λh' st' sb=>?_;let I1:Inv X pins σ H { s with heap:=h' }:=I.turned (t':=s.toks) (λb o hb e=>(sb.2 b hb).trans e) f0 f1 f3 f4 f5;let(o,e,c,d):=id st';show(u,rfl,a7W (s:={ s with heap:=h' }) e c d (by decide) (x,H,I1,ru,(rfl,λys hy=>by rw[I.list_inj hy hq];show hx),st',λb hb=>(hf b hb).1))
 done:=by
  ext X hP hw hK hc i pins s σ H E I hf st hg;subst hP hw hK;let(xs,hq,hx):=hg;let(its,rv,p,hz):=I.list hq;let(f0,f1,f2,f3,f4,f5):=hf it (by simp);let hl:=rv.length;show wpAny_pyNext_list_end (I.ok.hd hc) st p.isList (by simp;cbv) λh' eb=>(rfl,I.turned (t':=s.toks) (λb o hb e=>eb b o hb e) f0 f1 f3 f4 f5)
 self:=λ_ _ _ _ _ st h=>wpAny_pyIter_listiter st h
theorem a7b{P:fO}{w:World}{K:Fg}{tg:Expr}(a it:Addr):Turn P w K tg (Itt K a) [it] it (λi h=>h.IsTupleIter it a i) where
 mem:=by simp
 obj:=λi h st b hb=>by
  let e:b=it:=↑hb
  subst e;let(o,e,c,d):=st;show(o,e,λv z=>by rw[d]at z;cases z)
 keep:=λi h h' st k=>st.at λo e=>k it (by simp) o e
 item:=by
  ext X hP hw hK hc i pins s σ H E I hf st hg;subst hP hw hK;let(xs,x,hq,hx):=hg;let(its,rv,p,hz):=I.tuple hq;let(u,hu,ru):=rv.get hx;let(f0,f1,f2,f3,f4,f5):=hf it (by simp);show wpAny_pyNext_tuple_item st (show s.heap.IsTuple a its.toArray from p) (x:=u) ↑hu λh' st' sb=>?_;let I1:Inv X pins σ H { s with heap:=h' }:=I.turned (t':=s.toks) (λb o hb e=>(sb.2 b hb).trans e) f0 f1 f3 f4 f5;let(o,e,c,d):=id st';show(u,rfl,a7W (s:={ s with heap:=h' }) e c d (by decide) (x,H,I1,ru,(rfl,λys hy=>by rw[I.tuple_inj hy hq];show hx),st',λb hb=>(hf b hb).1))
 done:=by
  ext X hP hw hK hc i pins s σ H E I hf st hg;subst hP hw hK;let(xs,hq,hx):=hg;let(its,rv,p,hz):=I.tuple hq;let(f0,f1,f2,f3,f4,f5):=hf it (by simp);let hl:=rv.length;show wpAny_pyNext_tuple_end (I.ok.hd hc) st (show s.heap.IsTuple a its.toArray from p) (by simp;cbv) λh' eb=>(rfl,I.turned (t':=s.toks) (λb o hb e=>eb b o hb e) f0 f1 f3 f4 f5)
 self:=λ_ _ _ _ _ st h=>wpAny_pyIter_tupleiter st h
theorem a7c{P:fO}{w:World}{K:Fg}{tg:Expr}(it:Addr)(lo:Int)(n:Nat):Turn P w K tg (Itr lo n) [it] it (λi h=>IsRangeIter h it (lo+(i:Nat)*1) ((n:Int)-(i:Nat)) 1) where
 mem:=by simp
 obj:=λi h st b hb=>by
  let e:b=it:=↑hb
  subst e;show(_,st,λv z=>by
   let z':Data.fields _=Data.cell v:=z;cases z')
 keep:=λi h h' st k=>k it (by simp) _ st
 item:=by
  ext X hP hw hK hc i pins s σ H E I hf st hg;subst hP hw hK;let(f0,f1,f2,f3,f4,f5):=hf it (by simp);let W:=Walks.range (prog:=X.prog) (w:=X.w) (I.ok.hd hc) it lo 1 n;show W.item i s _ _ hg st λv h' tk hv st' kk=>?_;let(t,rfl):=hv;let I1:Inv X pins σ H { s with heap:=h',toks:=tk }:=I.turned (λb o hb e=>kk b o ↑hb e) f0 f1 f3 f4 f5;show(_,rfl,a7W (s:={ s with heap:=h',toks:=tk }) (n:="range_iterator") st' rfl rfl (by decide) (.int (lo+i),H,I1,(t,?_),(rfl,rfl),st',λb hb=>(hf b hb).1));rw[Int.mul_one]
 done:=by
  ext X hP hw hK hc i pins s σ H E I hf st hg;subst hP hw hK;let(f0,f1,f2,f3,f4,f5):=hf it (by simp);show wpAny_pyNext_range_end (I.ok.hd hc) st (by let:n<=i:=hg;cbv) λh' eb=>(rfl,I.turned (t':=s.toks) (λb o hb e=>eb b o hb e) f0 f1 f3 f4 f5)
 self:=λ_ _ _ _ _ st h=>wpAny_pyIter_rangeiter st h
section
variable{tg:Expr}
def b7D(K:Fg)(tl:TE):TI:=fun σ H R=>tl σ H λx H1=>∃a,x=.ref a/\(∃xs,SqL K H1 a xs)/\R (Itl K a) H1
def iTup(K:Fg)(tl:TE):TI:=fun σ H R=>tl σ H λx H1=>∃a,x=.ref a/\(∃xs,SqT K H1 a xs)/\R (Itt K a) H1
def b2P(hl:PE X l tl):PI X tg l (b7D X.K tl):=by
 ext f s σ H R I h;show thn (hl f s σ H _ I h) λv d (x,m,c,g,i)=>?_;let(a,e,(r,j),q):=i;subst e;cases g;let(n,u,p,t):=c.list j;show i7 p.isList (d.heap.objs.size,[d.heap.objs.size],_,_,m,rfl,c.kept λb o e=>Heap.get?_push_of_some _ e,a7X a _,(_,Heap.get?_push_size _ rfl,rfl,rfl),λb k=>?_,q);let e:b=d.heap.objs.size:=by simp_all
 subst e;show c.fpOk (aN _) (c.hok.fresh (aN _))
def b4X(hl:PE X l tl):PI X tg l (iTup X.K tl):=by
 ext f s σ H R I h;show thn (hl f s σ H _ I h) λv c (x,m,d,k,j)=>?_;let(a,e,(u,n),q):=j;subst e;cases k;let(g,t,p,r):=d.tuple n;show wpAny_pyIter_tuple (p) (c.heap.objs.size,[c.heap.objs.size],_,_,m,rfl,d.kept λb o e=>Heap.get?_push_of_some _ e,a7b a _,(_,Heap.get?_push_size _ rfl,rfl,rfl),λb i=>?_,q);let e:b=c.heap.objs.size:=by simp_all
 subst e;show d.fpOk (aN _) (d.hok.fresh (aN _))
def a6n{lo hi:Int}(I:Inv X pins σ H s)(h1:-(2 ^ 62)<=lo)(h2:lo<2 ^ 62)(h3:-(2 ^ 62)<=hi)(h4:hi<2 ^ 62)
  (q:R (Itr lo (hi-lo).toNat) H):wpAny (model X.prog X.w) X.A (pyIter (.ref s.heap.objs.size)) (PIE X pins σ tg R) E { s with heap:=s.heap.push { cls:=.type "range",data:=.fields #[.int lo t,.int hi u,.int 1 v] },toks:=tk }:=by
 show wpAny_pyIter_range (IsRange.new ..) (small_one h1 h2 h3 h4) ?_;let a:Inv X pins σ H { s with heap:=s.heap.push { cls:=.type "range",data:=.fields #[.int lo t,.int hi u,.int 1 v] },toks:=tk }:=I.kept λb o e=>Heap.get?_push_of_some _ e;show((s.heap.push { cls:=.type "range",data:=.fields #[.int lo t,.int hi u,.int 1 v] }).objs.size,[(s.heap.push { cls:=.type "range",data:=.fields #[.int lo t,.int hi u,.int 1 v] }).objs.size],_,_,H,rfl,
  a.kept λb o e=>Heap.get?_push_of_some _ e,a7c _ lo (hi-lo).toNat,?_,λb d=>?_,q)
 .let c:lo+((0:Nat))*1=lo:=by simp
  let f:(((hi-lo).toNat))-((0:Nat))=fU.Range.rangeSize lo hi 1:=by rw[rangeSize_one];split<;>lia
  rw[c,f];show Heap.get?_push_size _ rfl
 .let e:b=(s.heap.push { cls:=.type "range",data:=.fields #[.int lo t,.int hi u,.int 1 v] }).objs.size:=↑d
  subst e;show a.fpOk (aN _) (a.hok.fresh (aN _))
def b4Y(ta:TA):TI:=fun σ H R=>ta σ H λvs H1=>∃j:Int,vs=[.int j]/\-(2 ^ 62)<=j/\j<2 ^ 62/\R (Itr 0 j.toNat) H1
def b4Z(ta:TA):TI:=fun σ H R=>ta σ H λvs H1=>∃i j:Int,vs=[.int i,.int j]/\(-(2 ^ 62)<=i/\i<2 ^ 62/\-(2 ^ 62)<=j/\j<2 ^ 62)/\R (Itr i (j-i).toNat) H1
def a7Y(hg:Gl X "range")(hm:X.mg "range"=ce)(ha:PA X [a] ta)(hs:fP [a] X.env=[(js,eval a X.env,)]):PI X tg (.Call (.Name "range" p) [a] [] pos) (b4Y ta):=by
 ext b s σ H R I h;show Call_ (a3J I hg hm boot_range (PyProof.Rows.callWith_type1 (thn (ha pos b s σ H _ I h) λl k (i,m,d,f,c)=>?_) hs rfl));let(j,e,c,g,q):=c;subst e;cases f with
 |cons r rr=>
  cases rr;let(t,rfl):=r;show call_range_1 (a6n d (by simp) (by simp) c g (by grind))
def a7Z(hg:Gl X "range")(hm:X.mg "range"=ce)(ha:PA X [a,b] ta)(hs:fP [a,b] X.env=[(js,eval a X.env,),(js,eval b X.env,)])(hs2:fP [b] X.env=[(js,eval b X.env,)]) :
  PI X tg (.Call (.Name "range" p) [a,b] [] pos) (b4Z ta):=by
 ext d s σ H R I h;show Call_ (a3J I hg hm boot_range (PyProof.Rows.callWith_type1 (thn (ha pos d s σ H _ I h) λo v (w,u,l,f,c)=>?_) (by simp_all) (by rw[hs2];rfl)));let(i,j,e,(c,m,k,g),q):=c;subst e;cases f with
 |cons r rr=>
  cases rr with
  |cons r' rr=>
   cases rr;let(t,rfl):=r;let(n,rfl):=r';show call_range_2 (a6n l c m k g q)
def tFor(wi:TI)(g:TG)(tb:TS):TS:=λD σ H=>wi σ H λJ H1=>∃W:Nat->Nat->St->Hp->Prop,(∃m,W 0 m σ H1)/\∀i m σ H,W i m σ H ->
 (J.stop i H/\D.nx σ H)\/(J.go i H/\∃N:St->Hp->Prop,(∀σ' H',N σ' H'->∃m',m'<m/\W (i+1) m' σ' H')/\∀x H',J.yld i H x H'->g x σ H' fun σ2 H2=>tb { D with nx:=N,ct:=N,bk:=D.nx } σ2 H2)
noncomputable def a6o(fp:List Addr)(h:Heap):List (Addr×Obj):=fp.filterMap λb=>(h.get? b).map λo=>(b,o,)
def a1s(hb:b∈fp)(e:h.get? b=bN o):(b,o,)∈a6o fp h:=cy.mpr (b,hb,by rw[e];rfl)
def a70(hp:p∈a6o fp h):p.1∈fp/\h.get? p.1=bN p.2:=by
 let(b,a,e):=cy.mp hp;cases q:h.get? b with
 |none=>rw[q]at e;cases e
 |some o=>
  rw[q]at e;let c:=bN.inj e;subst c;show(a,q)
def Inv.pinned(I:Inv X pins σ H s)(hf:∀b∈fp,FpOk X pins H b)(ho:∀b∈fp,∃o,s.heap.get? b=bN o/\∀v,o.data≠.cell v):Inv X (pins++a6o fp s.heap) σ H s:=
 I.pins_of λp h=>(aO.mp h).elim (λz=>I.pin p (bQ _ z)) λz=>by
  let(a,e):=a70 z;let(g,f,i,_):=hf p.1 a;let(o,c,d):=ho p.1 a;rw[e]at c;cases c;show(e,g,f,i,d)
def Inv.unpinned(I:Inv X (pins++pl) σ H s):Inv X pins σ H s:=I.pins_of λp a=>I.pin p (bQ _ (eM _ a))
def b40(hp:gy (model X.prog X.w) X.A X.env X.xe)(hc:X.calm=cp)(hi:PI X tg iter wi)(hg:PG X tg g)(hb:PSs X body tb)
  (hs:∀x,gO iter X.env x=pure x:=by ext _;rfl):PS X (.For tg iter body [] pos) (tFor wi g tb):=by
 ext a s σ H D I h;show wpAny_For (thn (hi a s σ H _ I h) λv s1 h1=>thn h1 λitv s2 h2=>?_) hs;let(it,z,Q,J,H2,e,I2,T,st2,S,W,(m0,w0),F):=h2;subst e;let p:∀{H':Hp},(∀b∈z,H' b=ce)->∀b∈z,FpOk X a H' b:=λhn b hb=>(hn b hb,(S b hb).2);show codeAny_forLoop_any (λn Y=>∃i σ' H',Inv X a σ' H' Y/\Q i Y.heap/\(∀b∈z,H' b=ce)/\W i n σ' H') ?_ m0 (0,σ,H2,I2,st2,λb hb=>(S b hb).1,w0);ext n U ⟨i,σ3,B,R,E,C,w3⟩;let(stop,qn)||(go,N,hN,step):=F i n σ3 B w3
 .show ie hp (thn (T.done X rfl rfl rfl hc i a U σ3 B X.xe R (p C) E stop) λr s4 Y=>Y.elim λG I4=>?_);subst G;show iY (σ3,B,I4,qn)
 .show ie hp (thn (T.item X rfl rfl rfl hc i a U σ3 B X.xe R (p C) E go) λr s4 Y=>Y.elim λu Y=>Y.elim λG h4=>?_);subst G;show ie hp (thn h4 λ_ s5 (x,H5,I5,r5,y5,y,M)=>(ie hp (thn (hg _ s5 σ3 H5 x u _ (I5.pinned (p M) (T.obj _ _ y)) r5 (step x H5 y5)) λ_ s6 (σ6,H6,I6,q6)=>(ie hp (thn (hb _ s6 σ6 H6 _ I6 q6) λf L l=>?_)))));let q:∀{σ7:St}{j:Hp},Inv X _ σ7 j L->N σ7 j->∃m,m<n/\∃i σ' H',Inv X a σ' H' L/\Q i L.heap/\(∀b∈z,H' b=ce)/\W i m σ' H':=λ{σ7 j} c t=>by
   let(m',hm,w7):=hN σ7 j t;show(m',hm,i+1,σ7,j,c.unpinned,T.keep _ _ _ y λb hb o e=>(c.pin _ (bQ _ (bQ _ (a1s hb e)))).1,λb hb=>?_,w7);let(o,e,d):=T.obj _ _ y b hb;show (c.pin _ (bQ _ (bQ _ (a1s hb e)))).2.1
  cases f with
  |next=>let(σ7,j,c,t):=l;show q c t
  |cont=>let(σ7,j,c,t):=l;show q c t
  |brk=>let(σ7,j,c,l):=l;show(σ7,j,c.unpinned,l)
  |ret v=>let(x7,σ7,j,c,r7,l):=l;show(x7,σ7,j,c.unpinned,r7,l)
end
abbrev R2:=V->V->Hp->VK->Prop
def OpR(X:Cx)(f:Value->Value->Sem Value)(r:R2):Prop:=
 ∀(pins:List (Addr×Obj))(s:Shared)(σ:St)(H:Hp)(x y:V)(v u:Value)(Q:VK),Inv X pins σ H s->RelV x v->RelV y u->r x y H Q ->
  wpAny (model X.prog X.w) X.A (f v u) (EP X pins σ Q) X.xe s
def UnR(X:Cx)(f:Value->Sem Value)(r:V->Hp->VK->Prop):Prop:=
 ∀(pins:List (Addr×Obj))(s:Shared)(σ:St)(H:Hp)(x:V)(v:Value)(Q:VK),Inv X pins σ H s->RelV x v->r x H Q ->
  wpAny (model X.prog X.w) X.A (f v) (EP X pins σ Q) X.xe s
def CallR(X:Cx)(f:Value)(r:List V->Hp->VK->Prop):Prop:=
 ∀(pins:List (Addr×Obj))(s:Shared)(σ:St)(H:Hp)(xs:List V)(us:List Value)(Q:VK),Inv X pins σ H s->Vals xs us->r xs H Q ->
  wpAny (model X.prog X.w) X.A (call f us) (EP X pins σ Q) X.xe s
def TruR(X:Cx)(r:V->Hp->(Bool->Hp->Prop)->Prop):Prop:=
 ∀(pins:List (Addr×Obj))(s:Shared)(σ:St)(H:Hp)(x:V)(v:Value)(Q:Bool->Hp->Prop),Inv X pins σ H s->RelV x v->r x H Q ->
  wpAny (model X.prog X.w) X.A (truthy v) (TP X pins σ Q) X.xe s
def tOp(r:R2)(ta tb:TE):TE:=fun σ H Q=>ta σ H λx H1=>tb σ H1 λy H2=>r x y H2 Q
def tUn(r:V->Hp->VK->Prop)(ta:TE):TE:=fun σ H Q=>ta σ H λx H1=>r x H1 Q
def rI(C:Int->Int->Prop)(g:Int->Int->V):R2:=λx y H Q=>∃i j,x=.int i/\y=.int j/\C i j/\Q (g i j) H
def rI0(g:Int->Int->V):R2:=λx y H Q=>∃i j,x=.int i/\y=.int j/\Q (g i j) H
def rU(g:Int->V):V->Hp->VK->Prop:=λx H Q=>∃i,x=.int i/\Q (g i) H
section
variable{a b c:Expr}{ta tb:TE}
def binT(ha:PE X a ta)(hb:PE X b tb){R:V->V->Hp->Prop}(I:Inv X pins σ H s)
  (h:ta σ H λx H1=>tb σ H1 λy H2=>R x y H2) {f:Value->Value->Sem Value}
  (hf:∀v u s2 x y H2,Inv X pins σ H2 s2->RelV x v->RelV y u->R x y H2->wpAny (model X.prog X.w) X.A (f v u) Q X.xe s2) :
  wpAny (model X.prog X.w) X.A (eval a X.env) (λv sj=>wpAny (model X.prog X.w) X.A (eval b X.env) (λu sv=>wpAny (model X.prog X.w) X.A (f v u) Q X.xe sv) X.xe sj) X.xe s:=by
 show thn (ha pins s σ H _ I h) λv c (x,j,i,g,n)=>(thn (hb pins c σ j _ i n) λu e (y,m,d,k,l)=>(hf v u e x y m d g k l))
def b7E(ho:OpR X (fV op) r)(ha:PE X a ta)(hb:PE X b tb):PE X (.BinOp a op b pos) (tOp r ta tb):=λc s σ H Q I h=>wpAny_BinOp (binT ha hb I h λv u i x y f e d g q=>ho c i σ f x y v u Q e d g q)
def b7F(ho:UnR X (iF op) r)(ha:PE X a ta):PE X (.UnaryOp op a pos) (tUn r ta):=λb s σ H Q I h=>UnaryOp_ (thn (ha b s σ H _ I h) λv d (x,e,c,g,f)=>ho b d σ e x v Q c g f)
def opI{g:Int->Int->Int}
  (rule:∀(i j:Int)(t u:Tok)(s:Shared)(Q:Value->Shared->Prop)(E:Value->Shared->Prop),C i j->Q (.int (g i j) s.toks) { s with toks:=s.toks+1 }->wpAny (model X.prog X.w) X.A (f (.int i t) (.int j u)) Q E s) :
  OpR X f (rI C λi j=>.int (g i j)):=by
 ext b s σ H x y v u Q I a d h;let(i,j,rfl,rfl,e,q):=h;let(t,rfl):=a;let(c,rfl):=d;show rule i j t c s _ _ e (.int _,H,I.tok _,(_,rfl),q)
def opI0{g:Int->Int->Int}
  (rule:∀(i j:Int)(t u:Tok)(s:Shared)(Q:Value->Shared->Prop)(E:Value->Shared->Prop),Q (.int (g i j) s.toks) { s with toks:=s.toks+1 }->wpAny (model X.prog X.w) X.A (f (.int i t) (.int j u)) Q E s) :
  OpR X f (rI0 λi j=>.int (g i j)):=by
 ext a s σ H x y v u Q I d b h;let(i,j,rfl,rfl,q):=h;let(t,rfl):=d;let(c,rfl):=b;show rule i j t c s _ _ (.int _,H,I.tok _,(_,rfl),q)
def opB0{g:Int->Int->Bool}
  (rule:∀(i j:Int)(t u:Tok)(s:Shared)(Q:Value->Shared->Prop)(E:Value->Shared->Prop),Q (.bool (g i j)) s->wpAny (model X.prog X.w) X.A (f (.int i t) (.int j u)) Q E s) :
  OpR X f (rI0 λi j=>.bl (g i j)):=by
 ext d s σ H x y v u Q I c a h;let(i,j,rfl,rfl,q):=h;let(t,rfl):=c;let(b,rfl):=a;show rule i j t b s _ _ (.bl _,H,I,rfl,q)
def CPow(i j:Int):Prop:=0<=j/\j<=1000000/\i.natAbs<2 ^ 64
def CMul(i j:Int):Prop:=(-(2 ^ 64)<i/\i<2 ^ 64)\/(-(2 ^ 64)<j/\j<2 ^ 64)
def CMul.ok(h:CMul i j):IntMulOk i j:=by
 let(h1,h2)||(h1,h2):=h
 .show .of_left (intBits_le_64 h1 h2)
 .show .of_right (intBits_le_64 h1 h2)
def op_add:OpR X (fV .Add) (rI0 λi j=>.int (i+j)):=opI0 λ_ _ _ _ _ _ _ q=>add_int q
def b41:OpR X (fV .Sub) (rI0 λi j=>.int (i-j)):=opI0 λ_ _ _ _ _ _ _ q=>sub_int q
def b42:OpR X (fV .Mult) (rI CMul λi j=>.int (i*j)):=opI λ_ _ _ _ _ _ _ a q=>mul_int q a.ok
def b43:OpR X (fV .Mod) (rI (λ_ j=>0<j) λi j=>.int (i % j)):=opI λi j _ _ _ _ _ a q=>by
 let b:(0:Int)<j:=a;show mod_int' (by lia) (by rw[Int.fmod_eq_emod_of_nonneg i (by lia)];show q)
def b44:OpR X (fV .Pow) (rI CPow λi j=>.int (i ^ j.toNat)):=opI λ_ _ _ _ _ _ _ a q=>pow_int_small a.1 a.2.1 a.2.2 q
def b2Q:OpR X (gM .Add) (rI0 λi j=>.int (i+j)):=opI0 λ_ _ _ _ _ _ _ q=>iadd_int q
def unI{g:Int->Int}
  (rule:∀(i:Int)(t:Tok)(s:Shared)(Q:Value->Shared->Prop)(E:Value->Shared->Prop),Q (.int (g i) s.toks) { s with toks:=s.toks+1 }->wpAny (model X.prog X.w) X.A (f (.int i t)) Q E s) :
  UnR X f (rU λi=>.int (g i)):=by
 ext b s σ H x v Q I a h;let(i,rfl,q):=h;let(t,rfl):=a;show rule i t s _ _ (.int _,H,I.tok _,(_,rfl),q)
def b45:UnR X (iF .USub) (rU λi=>.int (-i)):=unI λ_ _ _ _ _ q=>neg_int q
end
noncomputable def scal:V->V->Bool
 |.non,.non=>cp |.non,.int _=>cp |.int _,.non=>cp |.non,.bl _=>cp |.bl _,.non=>cp |.non,.str _=>cp |.str _,.non=>cp
 |.int _,.int _=>cp |.bl _,.bl _=>cp |.str _,.str _=>cp |.byt _,.byt _=>cp
 |.int _,.str _=>cp |.str _,.int _=>cp |.bl _,.str _=>cp |.str _,.bl _=>cp
 |_,_=>js
def rEq:R2:=λx y H Q=>scal x y=cp/\Q (.bl (decide (x=y))) H
def rNe:R2:=λx y H Q=>scal x y=cp/\Q (.bl (!decide (x=y))) H
def a71:decide (V.int i=V.int j)=(i==j):=by
 rw[cz];simp
def a72:decide (V.bl i=V.bl j)=(i==j):=by
 rw[cz];simp
def a73:decide (V.str i=V.str j)=(i==j):=by
 rw[cz];simp
def a74:decide (V.byt i=V.byt j)=(i.toList==j.toList):=by
 rw[cz];cases i;cases j;simp
section
variable{a b c:Expr}{ta tb tc:TE}
def a0j(I:Inv X pins σ H s)(q:Q (.bl k) H)(e:k=k'):EP X pins σ Q (.bool k') s:=by
 subst e;show(.bl k,H,I,rfl,q)
def op_eq:OpR X (fR .Eq) rEq:=by
 ext pins s σ H x y v u Q I rx ry h;let(hs,q):=h;cases x with
 |non=>
  cases rx;cases y with
  |non=>cases ry;show PySem.EqNone.eq_none_none (a0j I q (by simp))
  |bl j=>cases ry;show PySem.EqNone.eq_none_bool (a0j I q (by simp))
  |int j=>let(t',rfl):=ry;show PySem.EqNone.eq_none_int (a0j I q (by simp))
  |str j=>let(t',rfl):=ry;show PySem.EqNone.eq_none_str (a0j I q (by simp))
  |_=>show absurd (show js=cp from hs) bE
 |bl i=>
  cases rx;cases y with
  |non=>cases ry;show PySem.EqNone.eq_bool_none (a0j I q (by simp))
  |bl j=>cases ry;show eq_bool (a0j I q a72)
  |str j=>let(t',rfl):=ry;show PySem.EqMixed.eq_bool_str (a0j I q (by simp))
  |_=>show absurd (show js=cp from hs) bE
 |int i=>
  let(t,rfl):=rx;cases y with
  |non=>cases ry;show PySem.EqNone.eq_int_none (a0j I q (by simp))
  |int j=>let(t',rfl):=ry;show eq_int (a0j I q a71)
  |str j=>let(t',rfl):=ry;show PySem.EqMixed.eq_int_str (a0j I q (by simp))
  |_=>show absurd (show js=cp from hs) bE
 |str i=>
  let(t,rfl):=rx;cases y with
  |non=>cases ry;show PySem.EqNone.eq_str_none (a0j I q (by simp))
  |bl j=>cases ry;show PySem.EqMixed.eq_str_bool (a0j I q (by simp))
  |int j=>let(t',rfl):=ry;show PySem.EqMixed.eq_str_int (a0j I q (by simp))
  |str j=>let(t',rfl):=ry;show eq_str (a0j I q a73)
  |_=>show absurd (show js=cp from hs) bE
 |byt i=>
  let(t,rfl):=rx;cases y with
  |byt j=>let(t',rfl):=ry;show PySem.W.eq_bytes (a0j I q a74)
  |_=>show absurd (show js=cp from hs) bE
 |_=>cases y<;>show absurd (show js=cp from hs) bE
def op_ne:OpR X (fR .NotEq) rNe:=by
 ext e s σ H x y v u Q I d a h;let(c,q):=h;cases x with
 |non=>
  cases d;cases y with
  |non=>cases a;show PySem.EqNone.ne_none_none (a0j I q (by simp))
  |bl j=>cases a;show PySem.EqNone.ne_none_bool (a0j I q (by simp))
  |int j=>let(b,rfl):=a;show PySem.EqNone.ne_none_int (a0j I q (by simp))
  |str j=>let(b,rfl):=a;show PySem.EqNone.ne_none_str (a0j I q (by simp))
  |_=>show absurd (show js=cp from c) bE
 |bl i=>
  cases d;cases y with
  |non=>cases a;show PySem.EqNone.ne_bool_none (a0j I q (by simp))
  |bl j=>cases a;show ne_bool (a0j I q (congrArg not a72))
  |str j=>let(b,rfl):=a;show PySem.EqMixed.ne_bool_str (a0j I q (by simp))
  |_=>show absurd (show js=cp from c) bE
 |int i=>
  let(t,rfl):=d;cases y with
  |non=>cases a;show PySem.EqNone.ne_int_none (a0j I q (by simp))
  |int j=>let(b,rfl):=a;show ne_int (a0j I q (congrArg not a71))
  |str j=>let(b,rfl):=a;show PySem.EqMixed.ne_int_str (a0j I q (by simp))
  |_=>show absurd (show js=cp from c) bE
 |str i=>
  let(t,rfl):=d;cases y with
  |non=>cases a;show PySem.EqNone.ne_str_none (a0j I q (by simp))
  |bl j=>cases a;show PySem.EqMixed.ne_str_bool (a0j I q (by simp))
  |int j=>let(b,rfl):=a;show PySem.EqMixed.ne_str_int (a0j I q (by simp))
  |str j=>let(b,rfl):=a;show ne_str (a0j I q (congrArg not a73))
  |_=>show absurd (show js=cp from c) bE
 |byt i=>
  let(t,rfl):=d;cases y with
  |byt j=>let(b,rfl):=a;show PySem.W.ne_bytes (a0j I q (congrArg not a74))
  |_=>show absurd (show js=cp from c) bE
 |_=>cases y<;>show absurd (show js=cp from c) bE
def b7G:OpR X (fR .Lt) (rI0 λi j=>.bl (decide (i<j))):=opB0 λ_ _ _ _ _ _ _ q=>lt_int q
def b7H:OpR X (fR .LtE) (rI0 λi j=>.bl (decide (i<=j))):=opB0 λ_ _ _ _ _ _ _ q=>le_int q
def b7I:OpR X (fR .Gt) (rI0 λi j=>.bl (decide (j<i))):=opB0 λ_ _ _ _ _ _ _ q=>gt_int q
def a75:OpR X (fR .Lt) (λx y H Q=>∃i j,x=.str i/\y=.str j/\Q (.bl (decide (i.cps.toList<j.cps.toList))) H):=by
 ext b s σ H x y v u Q I a c h;let(i,j,rfl,rfl,q):=h;let(t,rfl):=a;let(d,rfl):=c;show lt_str (a0j I q rfl)
def op_isN:OpR X (fR .Is) (λx y H Q=>y=.non/\Q (.bl (decide (x=.non))) H):=by
 ext b s σ H x y v u Q I a c h;let(rfl,q):=h;cases c;show is_none_gen (a0j I q ?_);cases x<;>first
  | (cases a;rfl)
  | (let(t,rfl):=a;rfl)
def b2R:OpR X (fR .IsNot) (λx y H Q=>y=.non/\Q (.bl (!decide (x=.non))) H):=by
 ext c s σ H x y v u Q I a b h;let(rfl,q):=h;cases b;show isnot_none_gen (a0j I q ?_);cases x<;>first
  | (cases a;rfl)
  | (let(t,rfl):=a;rfl)
def op_notin_str:OpR X (fR .NotIn) (λx y H Q=>∃i j,x=.str i/\y=.str j/\Q (.bl (!(!(fU.Str.occurrences j i 0 j.length 1).isEmpty))) H):=by
 ext c s σ H x y v u Q I b a h;let(i,j,rfl,rfl,q):=h;let(t,rfl):=b;let(d,rfl):=a;show notIn_str (a0j I q rfl)
def OpR.or(h:OpR X f r)(h':OpR X f r'):OpR X f (λx y H Q=>r x y H Q\/r' x y H Q):=by
 ext a s σ H x y v u Q I c b q;let q||q:=q
 .show h a s σ H x y v u Q I c b q
 .show h' a s σ H x y v u Q I c b q
def a2q(b:Expr)(h:op≠.In:=by decide)(h2:op≠.NotIn:=by decide):gS op b=js:=by
 let a:(op==CmpOp.In)=js:=by grind
 let c:(op==CmpOp.NotIn)=js:=by grind
 cases b<;>simp[gS,a,c]
def b2S(ho:OpR X (fR op) r)(ha:PE X a ta)(hb:PE X b tb)(hm:gS op b=js):PE X (.Compare a [op] [b] pos) (tOp r ta tb):=λc s σ H Q I h=>wpAny_Compare1 (binT ha hb I h λv u d x y f g i e q=>ho c d σ f x y v u Q g i e q) hm
def b46(t:TE):TT:=fun σ H Q=>t σ H λx H'=>∃k,x=.bl k/\Q k H'
def b2T(ho:OpR X (fR op) r)(ha:PE X a ta)(hb:PE X b tb)(hm:gS op b=js):PT X (.Compare a [op] [b] pos) (b46 (tOp r ta tb)):=by
 ext d s σ H Q I h;show wpAny_isTrue_Compare1 (thn (ha d s σ H _ I h) λv l (x,w,f,n,B)=>thn (hb d l σ w _ f B) λu t (y,m,i,j,A)=>
  thn (ho d t σ m x y v u _ i n j A) λc C (z,q,p,o,k,e,g)=>?_) hm
 subst e;cases o;show gz (q,p,g)
def a76(r r':R2)(ta tb tc:TE):TE:=fun σ H Q=>ta σ H λx H1=>tb σ H1 λy H2=>r x y H2 λz H3=>∃k,z=.bl k /\
 (if k=cp then tc σ H3 λw' H4=>r' y w' H4 Q else Q (.bl js) H3)
def b0b(ho:OpR X (fR op) r)(ho':OpR X (fR op') r')(ha:PE X a ta)(hb:PE X b tb)(hc:PE X c tc)
  (hm:iG [op,op'] [b,c]=js:=by with_unfolding_all rfl):PE X (.Compare a [op,op'] [b,c] pos) (a76 r r' ta tb tc):=by
 ext f s σ H Q I h;show Compare_chain (thn (ha f s σ H _ I h) λv m (x,t,J,p,N)=>chain_link (thn (hb f m σ t _ J N) λu o (y,C,F,j,L)=>
  thn (ho f o σ C x y v u _ F p j L) λd A (z,i,g,n,k,e,l)=>?_)) hm
 subst e;cases n;show gz ?_;cases k with
 |false=>show ite_ff (.bl js,i,g,rfl,l)
 |true=>show ite_tt (chain_last (thn (hc f A σ i _ g l) λM w (D,q,B,G,E)=>ho' f w σ q y D u M Q B j G E))
def b0c(ho:OpR X (fR op) r)(ho':OpR X (fR op') r')(ha:PE X a ta)(hb:PE X b tb)(hc:PE X c tc)
  (hm:iG [op,op'] [b,c]=js:=by with_unfolding_all rfl):PT X (.Compare a [op,op'] [b,c] pos) (b46 (a76 r r' ta tb tc)):=by
 ext f s σ H Q I h;show isTrue_chain (thn (ha f s σ H _ I h) λv B (x,G,p,D,R)=>test_link (thn (hb f B σ G _ p R) λu q (y,V,J,l,Y)=>
  thn (ho f q σ V x y v u _ J D l Y) λd S (z,j,i,T,k,e,g)=>?_)) hm
 subst e;cases T;show gz ?_;cases k with
 |false=>
  let(k',t,w):=g;cases t;show ite_ff (j,i,w)
 |true=>
  show ite_tt (test_last (thn (hc f S σ j _ i g) λN F (U,o,C,L,m)=>thn (ho' f F σ o y U u N _ C l L m) λd' s5 (z2,A,W,n,k2,M,E)=>?_));subst M;cases n;show gz (A,W,E)
def TruV(K:Fg)(x:V)(H:Hp)(k:Bool):Prop:=
 match x with
 |.non=>k=js
 |.bl b=>k=b
 |.int i=>k=(i != 0)
 |.str y=>y.length<=fL/\k=((y.length:Int) != 0)
 |.byt y=>y.size<=fL/\k=((y.size:Int) != 0)
 |.ref p=>(∃xs,SqL K H p xs/\k=!xs.isEmpty)\/(∃xs,SqT K H p xs/\k=!xs.isEmpty)\/∃kvs,H p=bN (.dK kvs)/\k=!kvs.isEmpty
 |_=>False
def a7d{κ:Type}{kvs:List (κ×V)}{vs:List (κ×Value)}(r:KV kvs vs):(!vs.isEmpty)=!kvs.isEmpty:=by
 cases r<;>rfl
def a3K(r:Vals xs its):(!its.toArray.isEmpty)=!xs.isEmpty:=by
 cases r<;>simp
def a4Q:(fL:Nat)<2 ^ 63:=by rw[fW];decide
def b47:TruR X (λx H Q=>∃k,TruV X.K x H k/\Q k H):=by
 ext u s σ H x v Q I c h;let(k,e,q):=h;let z:=a4Q;let A:fL=16777216:=fW;cases x with
 |non=>
  cases c;let a:k=js:=e;subst a;show truthy_none (H,I,q)
 |bl b=>
  cases c;let a:k=b:=e;subst a;show gz (H,I,q)
 |int i=>
  let(t,rfl):=c;let a:k=(i != 0):=e;subst a;show PySem.P.truthy_int (H,I,q)
 |str y=>
  let(t,rfl):=c;let(o,a):=e;subst a;show PySem.P.truthy_str (by lia) (H,I.tok _,q)
 |byt y=>
  let(t,rfl):=c;obtain⟨o,a⟩:y.size<=fL/\k=((y.size:Int) != 0):=e;subst a;show PySem.W.truthy_bytes (by lia) (H,I.tok _,q)
 |ref p=>
  cases c;let a:=e;let(xs,hx,a)||(xs,hx,a)||(kvs,hx,a):=a
  .subst a;let(l,r,g,j):=I.list hx;let d:=r.length;show wpAny_truthy_list g.isList (by simp only[bJ];lia) (H,I.tok _,by rw[a3K r];show q)
  .subst a;let(l,r,g,j):=I.tuple hx;let d:=r.length;show truthy_tuple g (by simp only[bJ];lia) (H,I.tok _,by rw[a3K r];show q)
  .subst a;let(j,n,f,r,m):=I.hok p _ hx;let d:kvs.length=f.length:=Paired.length r;show wpAny_truthy_dict n m (by lia) (H,I.tok _,by rw[a7d r];show q)
 |_=>show (show False from e).elim
def b0d(ha:PE X a ta)(he:∀whole,isTrue a X.env whole=(do let v <- whole;gc a.pos;fZ [v] (truthy v))) :
  PT X a (fun σ H Q=>ta σ H λx H'=>∃k,TruV X.K x H' k/\Q k H'):=λb s σ H Q I h=>isTrue_plain (thn (ha b s σ H _ I h) λv e (x,f,d,g,c)=>b47 b e σ f x v Q d g c) (he _)
def op_add_str:OpR X (fV .Add) (λx y H Q=>∃i j,x=.str i/\y=.str j/\i.length+j.length<=fL/\Q (.str (i++j)) H):=by
 ext b s σ H x y v u Q I a d h;let(i,j,rfl,rfl,e,q):=h;let(t,rfl):=a;let(c,rfl):=d;show add_str (λc f=>(.str (i++j),H,I.tok _,(_,rfl),q)) e
def a2X(r:Vals [x] us):∃u,us=[u]/\RelV x u:=by
 cases r with
 |cons r1 r2=>cases r2;show(_,rfl,r1)
def a77(r:Vals [x,y] us):∃u w',us=[u,w']/\RelV x u/\RelV y w':=by
 cases r with
 |cons r1 r2=>
  cases r2 with
  |cons r3 r4=>cases r4;show(_,_,rfl,r1,r3)
def a78(hc:X.calm=cp):CallR X (.builtin "max") (λxs H Q=>∃i j,xs=[.int i,.int j]/\Q (.int (if j > i then j else i)) H):=by
 ext a s σ H d e Q I r h;let(i,j,rfl,q):=h;let(u,f,rfl,(t,rfl),(b,rfl)):=a77 r;show max_two_ints (I.ok.hd hc) λg c k=>(_,H,I.kept k,?_,q)
 by_cases hj:j > i
 .rw[if_pos hj,if_pos hj];show(_,rfl)
 .rw[if_neg hj,if_neg hj];show(_,rfl)
def a79(hc:X.calm=cp):CallR X (.builtin "min") (λxs H Q=>∃i j,xs=[.int i,.int j]/\Q (.int (if j<i then j else i)) H):=by
 ext a s σ H d f Q I r h;let(i,j,rfl,q):=h;let(u,g,rfl,(t,rfl),(c,rfl)):=a77 r;show min_two_ints (I.ok.hd hc) λb e k=>(_,H,I.kept k,?_,q)
 by_cases hj:j<i
 .rw[if_pos hj,if_pos hj];show(_,rfl)
 .rw[if_neg hj,if_neg hj];show(_,rfl)
def LenV(K:Fg)(x:V)(H:Hp)(n:Nat):Prop:=
 match x with
 |.str y=>y.length<=fL/\n=y.length
 |.byt y=>y.size<=fL/\n=y.size
 |.ref p=>(∃xs,SqL K H p xs/\n=xs.length)\/∃xs,SqT K H p xs/\n=xs.length
 |_=>False
def b0e:CallR X (.builtin "len") (λxs H Q=>∃x n,xs=[x]/\LenV X.K x H n/\Q (.int n) H):=by
 ext j s σ H a v Q I r h;let(x,n,rfl,e,q):=h;let(u,rfl,d):=a2X r;let o:=fW;cases x with
 |str y=>
  let(t,rfl):=d;let(k,b):=e;subst b;show len_str (by lia) (.int _,H,I.tok _,(_,rfl),q)
 |byt y=>
  let(t,rfl):=d;let(k,b):=e;subst b;show PySem.W.len_bytes (by lia) (.int _,H,I.tok _,(_,rfl),q)
 |ref p=>
  cases d;let b:=e;let(a,hx,b)||(a,hx,b):=b
  .subst b;let(i,g,f,l):=I.list hx;let c:=g.length;show Calls.call_len_list f.isList (by grind) (.int a.length,H,I.tok _,(_,by simp only[bJ];rw[c]),q)
  .subst b;let(i,g,f,l):=I.tuple hx;let c:=g.length;show len_tuple f (by grind) (.int a.length,H,I.tok _,(_,by simp only[bJ];rw[c]),q)
 |_=>show (e).elim
end
structure ObjM (h:Heap) (x dx C:Addr) (mA:Str->Option Value):Prop where
 obj:h.get? x=bN (PySem.W.instObj C dx)
 ns:h.Ns1 dx mA
 ne:dx≠x
def a8a{h:Heap}(n:h.Ns1 dx mA):∃od,h.get? dx=bN od/\∀name,PySem.W.lookIn name od=bN (mA name):=by
 let(o,d,m,l,j,f,_,g):=n;show(o,l,λc=>?_);let e:=g c;unfold nsFind findBy at e;rw[<- Array.find?_toList]at e;unfold PySem.W.lookIn;rw[j];dsimp only
 split
 .simp_all
 .rename_i q
  rw[q]at e;let a:d.toList.any (·.refKey)=js:=by
   rw[List.any_eq_false];ext y k;let(z,t,b):=f y (eO.mp k);simp[ig.refKey,b]
  let i:¬ d.toList.any (·.refKey)=cp:=a▸bE;rw[if_neg i];show congrArg bN e
def ObjM.look(I:ObjM h x dx C mA):∃od,PySem.W.InstAt h x (PySem.W.instObj C dx) C (bN od)/\∀name,PySem.W.lookIn name od=bN (mA name):=
 let (od,ho,hl):=a8a I.ns
 (od,(I.obj,rfl,rfl,ho),hl)
section
variable{K:Fg}{x C f:Addr}{mA:Str->Option Value}{name:Str}{v:Value}
def b2U(X:K.In s.heap)(I:ObjM s.heap x dx C mA)(hg:PySem.W.plainGet K C name=cp)(hh:PySem.W.hasDictIn K C=cp)
  (ha:PySem.W.findIn K (.ref C) name=bN ce) (hv:mA name=bN v) (hv':PySem.W.handedIn v=cp) (h:Q v { s with toks:=s.toks+1 }) :
  wpAny (model prog w) A (getAttr (.ref x) name expr) Q E s:=by
 let(b,J,a):=I.look;show PySem.W.get_value X J (PySem.W.plainGet_of hg).1 (PySem.W.findObj_own hh ha rfl (by simp_all)) hv' h
def b0f(X:K.In s.heap)(I:ObjM s.heap x dx C mA)(hg:PySem.W.plainGet K C name=cp)
  (hf:PySem.W.findIn K (.ref C) name=bN (bN (.ref f))) (ht:PySem.W.isFn K (.ref f)=cp) (hv:mA name=ce) (h:Q (.ref f,[.ref x],) s) :
  wpAny (model prog w) A (gC (.ref x) name pl) Q E s:=by
 let(b,J,a):=I.look;show PySem.W.method_fn X J (PySem.W.plainGet_of hg).1 (PySem.W.plainGet_of hg).2 hf (beq_iff_eq.mp ht) (by change (PySem.W.lookIn name b).map _=bN js;rw[a,hv];rfl) h
def b2V(X:K.In s.heap)(I:ObjM s.heap x dx C mA)
  (hs:PySem.W.findIn K (.ref C) "__setattr__"=bN (bN (.builtin "object.__setattr__"))) (hp:PySem.W.plainOver K C=cp) (ht:PySem.W.takerIn K C name=bN ce) (hh:PySem.W.hasDictIn K C=cp)
  (hw:PySem.Within mA ns) (hsz:ns.length<=fL)
  (h:∀h',ObjM h' x dx C (λy=>if y=name then bN v else mA y)->Heap.SameBut dx s.heap h'->Q () { s with heap:=h',toks:=s.toks+2 }) :
  wpAny (model prog w) A (setAttr (.ref x) name v) Q E s:=by
 let(p,J,n):=I.look;show PySem.W.set_plain X J hs (PySem.W.osa_open X J hp ht λb=>?_);let(o,j,i):=PySem.W.any_some hh;show fK (fS (fK (fK (wpAny_loadPart I.obj (fK (PySem.W.Looks.here (PySem.W.looks_clsIn X j) ?_))))));rw[i];show fS (fK (fS (fK (wpAny_nsSet1 I.ns λt d c=>?_))));let(q,l,m,f,g,e):=d.count (PySem.Within.cons name v hw);show fK (wpAny_lookBehind f (g▸pastItsLine_dict (be e (by grind))) (fS (h _ ((c.2 _ (Ne.symm I.ne)).trans I.obj,d,I.ne) c)))
def b0g(X:K.In s.heap)(hm:PySem.W.makesIn K C=cp)
  (hi:PySem.W.findIn K (.ref C) "__init__"=bN (bN (.ref f))) (hf:PySem.W.typeIn K (.ref f)=bN (.type "function"))
  (h:gG (model prog w) (A.under (.builtin "type.__call__" (.ref C::vs,kw))) (.call (.ref f) (.ref (s.heap.objs.size+1)::vs,kw)) (PySem.W.InitBack (s.heap.objs.size+1) R)
   { s with heap:=(s.heap.push PySem.W.emptyDict).push (PySem.W.instObj C s.heap.objs.size) }) :
  gG (model prog w) A (.call (.ref C) (vs,kw)) R s:=PySem.W.make_core (PySem.W.makes_of X hm) (PySem.W.looks_findIn X hi) (λa=>PySem.W.bind_fn X a hf) (.inl rfl) h
end
noncomputable def putF(f:Str)(v:V):List (Str×V)->List (Str×V)
 |[]=>[(f,v,)]
 | (g,x,)::r=>if g=f then (g,v,)::r else (g,x,)::putF f v r
def a5J(f g:Str)(v:V):∀fs:List (Str×V),(putF f v fs).lookup g=if g=f then bN v else fs.lookup g:=by ext z0;induction z0 with
 |nil=>
  change dq g [_]=_
  by_cases h:g=f
  .simp_all
  .simp_all
 |cons q0 r I0=>
  let(k,x):=q0;rw[show putF f v _=(if k=f then _::r else (k,x,)::putF f v r) from rfl]
  by_cases hk:k=f
  .rw[if_pos hk]
   by_cases h:g=k
   .simp_all
   .let a:=beq_eq_false_iff_ne.mpr h;simp only[dq,a,if_neg (λe:g=f=>h (e.trans hk.symm))]
  .rw[if_neg hk]
   by_cases h:g=k
   .simp_all
   .let a:=beq_eq_false_iff_ne.mpr h;simp only[dq,a];show (I0)
def a4R(f:Str)(v:V):∀fs:List (Str×V),f∈(putF f v fs).map (·.1)/\∀g,g∈fs.map (·.1)->g∈(putF f v fs).map (·.1):=by ext z0;induction z0 with
 |nil=>show(by simp[putF],λg h=>by simp at h)
 |cons q0 r I0=>
  let(k,x):=q0;let(a,b):=I0;rw[show putF f v _=(if k=f then _::r else (k,x,)::putF f v r) from rfl]
  by_cases hk:k=f
  .grind
  .rw[if_neg hk];show(?_,λg h=>?_)
   .rw[aV];show b3 _ a
   .rw[aV]at h ⊢;let e||e:=aT.mp h
    .show aT.mpr (.inl e)
    .show b3 _ (b g e)
def a5K(f:Str)(v:V):∀fs:List (Str×V),(putF f v fs).length<=fs.length+1:=by ext z0;induction z0 with
 |nil=>simp[putF]
 |cons q0 r I0=>
  let(k,x):=q0;let a:=I0;rw[show putF f v _=(if k=f then _::r else (k,x,)::putF f v r) from rfl]
  by_cases hk:k=f
  .grind
  .grind
def RelO.some_of(r:RelO (bN v) o):∃u,o=bN u/\RelV v u:=by
 cases o with
 |none=>show (r).elim
 |some u=>show(u,rfl,r)
def RelO.none_of(r:RelO ce o):o=ce:=by
 cases o with
 |none=>rfl
 |some u=>show (r).elim
def a8b(r:RelV v u):PySem.W.handedIn u=cp:=by
 cases v with
 |non=>cases (r);rfl
 |bl b=>cases (r);rfl
 |int i=>let(t,e):=(r);cases e;rfl
 |str x=>let(t,e):=(r);cases e;rfl
 |byt b=>let(t,e):=(r);cases e;rfl
 |flt b=>let(t,e):=(r);cases e;rfl
 |ref a=>cases (r);rfl
 |ty n=>cases (r);rfl
section
variable{h:Heap}{a C:Addr}{fs:List (Str×V)}
def a38(hok:HOk P w H h)(e:H a=bN (.ins C dx fs)):∃mA,ObjM h a dx C mA/\(∀f,RelO (fs.lookup f) (mA f))/\PySem.Within mA (fs.map (·.1))/\fs.length<=1000/\H dx=bN (.own a):=by
 let(d,z,c,g,b,n,r,q):=(hok a _ e);show(b,(g,n,c),r,q,z,d)
end
structure Cls (K:Fg) (C:Addr):Prop where
 pg:PySem.W.plainGet K C Str.empty=cp
 hd:PySem.W.hasDictIn K C=cp
 po:PySem.W.plainOver K C=cp
 sa:PySem.W.findIn K (.ref C) "__setattr__"=bN (bN (.builtin "object.__setattr__"))
def Cls.get{K:Fg}(c:Cls K C)(f:Str):PySem.W.plainGet K C f=cp:=c.pg
def NoAttr(K:Fg)(C:Addr)(f:Str):Prop:=PySem.W.findIn K (.ref C) f=bN ce
def NoAttr.taker{K:Fg}(n:NoAttr K C f):PySem.W.takerIn K C f=bN ce:=by
 unfold PySem.W.takerIn;rw[n]
 rfl
structure Meth (K:Fg) (C:Addr) (m:Str) (f:Addr):Prop where
 at_:PySem.W.findIn K (.ref C) m=bN (bN (.ref f))
 fn:PySem.W.isFn K (.ref f)=cp
 kp:PySem.W.keepIn K (.ref f)=cp
section
variable{σ:St}{a C:Addr}{fs:List (Str×V)}{f:Str}{v:V}
def a3L(I:Inv X pins σ H s)(e:H a=bN (.ins C dx fs))(c:Cls X.K C)(n:NoAttr X.K C f)(l:fs.lookup f=bN v)
  (h:∀u s',Inv X pins σ H s'->RelV v u->Q u s'):wpAny (model X.prog X.w) A (getAttr (.ref a) f b) Q E s:=by
 let(i,O,r,_,_,_):=a38 I.hok e;let(u,g,d):=RelO.some_of (l▸r f);show b2U I.kIn O (c.get f) c.hd n g (a8b d) (h u _ (I.tok _) d)
def a3M(I:Inv X pins σ H s)(e:H a=bN (.ins C dx fs))(c:Cls X.K C)(k:Meth X.K C m g)(l:fs.lookup m=ce)
  (h:Q (.ref g,[.ref a],) s):wpAny (model X.prog X.w) A (gC (.ref a) m pl) Q E s:=by
 let(b,O,r,_,_,_):=a38 I.hok e;let d:=RelO.none_of (l▸r m);show b0f I.kIn O (c.get m) k.at_ k.fn d h
def a3N(I:Inv X pins σ H s)(e:H a=bN (.ins C dx fs))(c:Cls X.K C)(n:NoAttr X.K C f)(hl:fs.length<1000)(ry:RelV y u)
  (h:∀s',Inv X pins σ (upd H a (.ins C dx (putF f y fs))) s'->Q () s'):wpAny (model X.prog X.w) A (setAttr (.ref a) f u) Q E s:=by
 let(i,O,r,j,_,k):=a38 I.hok e;let v:(fs.map (·.1)).length<=sizeLine:=by rw[aM,fW];lia
 show b2V I.kIn O c.sa c.po n.taker c.hd j v λm d l=>h _ ?_;let t:∃o,m.get? dx=bN o:=by let(o,_,_,e',_):=d.ns;show(o,e')
 show I.write (e▸True.intro) (.inr k) (λb q p z=>(l.2 b p).trans z) t (by rw[a0b O.ne];show k,?_,O.ne,d.obj,_,d.ns,λg=>?_,λg B=>?_)
 .let:=a5K f y fs;lia
 .change RelO _ _
  rw[a5J]
  by_cases q:g=f
  .rw[if_pos q,if_pos q];show ry
  .simp_all
 .by_cases q:g=f
  .rw[q];show (a4R f y fs).1
  .show (a4R f y fs).2 g (j g λz=>B ?_)
   change (if g=f then bN u else i g)=ce
   rw[if_neg q];show z
def Inv.made(I:Inv X pins σ H s):Inv X pins σ (upd (upd H s.heap.objs.size (.own (s.heap.objs.size+1))) (s.heap.objs.size+1) (.ins C s.heap.objs.size []))
  { s with heap:=(s.heap.push PySem.W.emptyDict).push (PySem.W.instObj C s.heap.objs.size) }:=by
 let c:(s.heap.push PySem.W.emptyDict).get? s.heap.objs.size=bN PySem.W.emptyDict:=Heap.get?_push_size s.heap rfl;let i:((s.heap.push PySem.W.emptyDict).push (PySem.W.instObj C s.heap.objs.size)).get? (s.heap.objs.size+1)=bN (PySem.W.instObj C s.heap.objs.size):=by
  let:=Heap.get?_push_size (s.heap.push PySem.W.emptyDict) (o:=PySem.W.instObj C s.heap.objs.size) rfl
  rwa [Heap.size_push]at this
 let g:(s.heap.push PySem.W.emptyDict).Ns s.heap.objs.size _:=(PySem.W.emptyDict,#[],_,c,rfl,(λe h=>absurd h (by simp)),λ_=>rfl);show (I.laid (o:=.own (s.heap.objs.size+1)) (t':=s.toks) (λb u q=>Heap.get?_push_of_some _ q) (aN _) (_,c)).laid (t':=s.toks) (λb u q=>Heap.get?_push_of_some _ q) (dO (Heap.size_push _ _)) ?_;let d:s.heap.objs.size≠s.heap.objs.size+1:=aZ (eP _);show(by rw[a0b d,a0c],bo _,d,i,λ_=>ce,(Heap.Ns1.of_empty g).at λo q=>Heap.get?_push_of_some _ q,λ_=>True.intro,λy f=>absurd rfl f)
def b2W(hb:gQ e f env (eval e env)=eval e env)
  (h:wpAny (model prog w) A (eval e env) (λo sj=>wpAny (model prog w) A (getAttr o f cp) Q E sj) E s):wpAny (model prog w) A (eval (.Attribute e f pos) env) Q E s:=
 Attribute_any_ h (by rw[arm_eval_Attribute,hb])
end
def tFld(K:Fg)(ta:TE)(f:Str):TE:=fun σ H Q=>ta σ H λx H1=>∃a C dx fs v,x=.ref a/\H1 a=bN (.ins C dx fs)/\Cls K C/\NoAttr K C f/\fs.lookup f=bN v/\Q v H1
def sFld(K:Fg)(ta tv:TE)(f:Str):TS:=λD σ H=>tv σ H λy H1=>ta σ H1 λx H2=>∃a C dx fs,x=.ref a/\H2 a=bN (.ins C dx fs)/\Cls K C/\NoAttr K C f/\fs.length<1000 /\
 D.nx σ (upd H2 a (.ins C dx (putF f y fs)))
def InOp(X:Cx)(op:Operator)(rd:V->V->Hp->VK->Prop):Prop:=
 ∀(pins:List (Addr×Obj))(s:Shared)(σ:St)(H:Hp)(x y:V)(u v:Value)(Q:VK),Inv X pins σ H s->RelV x u->RelV y v->rd x y H Q->wpAny (model X.prog X.w) X.A (gM op u v) (EP X pins σ Q) X.xe s
def b2X(K:Fg)(ta tv:TE)(rd:V->V->Hp->VK->Prop)(f:Str):TS:=λD σ H=>ta σ H λx H1=>∃a C dx fs v,x=.ref a/\H1 a=bN (.ins C dx fs)/\Cls K C/\NoAttr K C f/\fs.lookup f=bN v /\
 tv σ H1 λy H2=>rd v y H2 λz H3=>∃dx' fs',H3 a=bN (.ins C dx' fs')/\fs'.length<1000/\D.nx σ (upd H3 a (.ins C dx' (putF f z fs')))
section
variable{o e value:Expr}{f:Str}{pos' tpos:Pos}{ta tv:TE}
def b48(he:PE X e ta)(hb:gQ e f X.env (eval e X.env)=eval e X.env):PE X (.Attribute e f pos) (tFld X.K ta f):=by
 ext b s σ H Q I h;show b2W hb (thn (he b s σ H _ I h) λu p (x,d,i,j,a,C,r,w,v,g,m,c,n,l,q)=>?_);subst g;obtain rfl:u=Value.ref a:=j;show a3L i m c n l λy t o k=>(v,d,o,k,q)
def b49(ha:PE X o ta)(hv:PE X value tv)(hs:gA value (bN (.Attribute o f pos')) pos.line X.env=pure js):PS X (.Assign [.Attribute o f pos'] value pos) (sFld X.K ta tv f):=by
 ext b s σ H D I h;show plainObj_wpAny_Assign_Attribute (thn (hv b s σ H _ I h) λu g (y,d,k,v,q)=>thn (ha b g σ d _ k q) λj A (x,B,r,p,a,C,z,E,i,t,c,n,l,m)=>?_) hs;subst i;obtain rfl:j=Value.ref a:=p;show a3N r t c n l v λw e=>(σ,_,e,m)
def a8c(ha:PE X o ta)(hv:PE X value tv)(hop:InOp X op rd):PS X (.AugAssign (.Attribute o f tpos) op value pos) (b2X X.K ta tv rd f):=by
 ext b s σ H D I h;show wpAny_AugAssign_AttributeAny (thn (ha b s σ H _ I h) λj T (x,e,k,M,a,C,dx,fs,v,B,p,c,n,l,q)=>?_);subst B;obtain rfl:j=Value.ref a:=M;show a3L k p c n l λu J r m=>thn (hv b J σ e _ r q) λi E (y,t,g,w,L)=>thn (hop b E σ t v y u i _ g m w L) λU Y (z,H3,N,A,R,S,d,Q,F)=>(a3N N d c n Q A λW G=>(σ,_,G,F))
end
section
variable{σ:St}{Q:Value->Shared->Prop}{c:Value}{b:Bool}
inductive TyOf (K:Fg) (H:Hp):V->Value->Prop where
 |non:TyOf K H .non (.type "NoneType")
 |bl (x:Bool):TyOf K H (.bl x) (.type "bool")
 |int (i:Int):TyOf K H (.int i) (.type "int")
 |str (x:Str):TyOf K H (.str x) (.type "str")
 |flt (x:UInt64):TyOf K H (.flt x) (.type "float")
 |lst {a:Addr} {xs:List V} (e:H a=bN (.lst xs)):TyOf K H (.ref a) (.type "list")
 |frz {a:Addr} {o:Obj} {xs:List V} (e:H a=bN (.frz o (.lst xs))):TyOf K H (.ref a) (.type "list")
 |tup {a:Addr} {xs:List V} (e:H a=bN (.tup xs)):TyOf K H (.ref a) (.type "tuple")
 |dK {a:Addr} {kvs:List (Key×V)} (e:H a=bN (.dK kvs)):TyOf K H (.ref a) (.type "dict")
 |dT {a:Addr} {kvs:List (List Key×V)} (e:H a=bN (.dT kvs)):TyOf K H (.ref a) (.type "dict")
 |ins {a C dx:Addr} {fs:List (Str×V)} (e:H a=bN (.ins C dx fs)) (cl:Cls K C) (ha:PySem.W.findIn K (.ref C) "__class__"=bN (bN (.builtin "object.__class__")))
   (hn:PySem.W.specialIn K (.builtin "object.__class__") "__get__"=bN (bN (.builtin "getset_descriptor.__get__"))) (htk:PySem.W.takesIn K (.builtin "object.__class__")=bN cp)
   (hm:PySem.W.mroIn K C (.type "object")=bN cp):TyOf K H (.ref a) (.ref C)
def a4S(I:Inv X pins σ H s)(rx:RelV x u)(ty:TyOf X.K H x t)(e:PySem.W.kitOne X.K t c=bN b)(h:∀tk,Q (.bool b) { s with toks:=tk }) :
  wpAny (model X.prog X.w) A (call (.builtin "isinstance") [u,c]) Q E s:=by
 cases ty with
 |non=>cases (rx);show PySem.W.kia_one PySem.W.kitx_none I.kIn True.intro e (λz=>nomatch z) h
 |bl y=>cases (rx);show PySem.W.kia_one PySem.W.kitx_bool I.kIn True.intro e (λz=>nomatch z) h
 |int i=>let(t,q):=(rx);cases q;show PySem.W.kia_one PySem.W.kitx_int I.kIn True.intro e (λz=>nomatch z) h
 |str y=>let(t,q):=(rx);cases q;show PySem.W.kia_one PySem.W.kitx_str I.kIn True.intro e (λz=>nomatch z) h
 |flt y=>let(t,q):=(rx);cases q;show PySem.W.kia_one PySem.W.kitx_float I.kIn True.intro e (λz=>nomatch z) h
 | @lst a f ea=>
  cases (rx);let(_,_,n,_,d):=(I.hok a _ ea);show PySem.W.kia_one PySem.W.kitx_list I.kIn (_,d,rfl) e (λz=>nomatch z) h
 | @frz a ob f ea=>
  cases (rx);let(_,_,_,n,_,d):=(I.hok a _ ea);show PySem.W.kia_one PySem.W.kitx_list I.kIn (_,d,rfl) e (λz=>nomatch z) h
 | @tup a f ea=>
  cases (rx);let(_,_,_,p):=(I.hok a _ ea);let(o,d,g,_):=p;show PySem.W.kia_one PySem.W.kitx_tuple I.kIn (o,d,g) e (λz=>nomatch z) h
 | @dK a kvs ea=>
  cases (rx);let(_,_,l,_,p):=(I.hok a _ ea);let(o,j,k,d,g,_):=p;show PySem.W.kia_one PySem.W.kitx_dict I.kIn (o,d,g.1) e (λz=>nomatch z) h
 | @dT a kvs ea=>
  cases (rx);let(_,_,f,_,o,j,k,d,g,_):=(I.hok a _ ea);show PySem.W.kia_one PySem.W.kitx_dict I.kIn (o,d,g.1) e (λz=>nomatch z) h
 | @ins a C dx fs ea cl ha hn htk hm=>
  cases (rx);let(r,O,_):=a38 I.hok ea;let(m,J,_):=O.look;show PySem.W.kia_one (PySem.W.kitx_own (cl.get _) cl.hd ha hn htk hm) I.kIn J e (λz=>nomatch z) h
end
structure Room (k:Nat) (A:Around):Prop where
 hd:A.handled=ce
 dp:A.depth+3*k+5<recursionLimit
 un:A.units+16*k+200<cLine
def Room.mono(r:Room k A)(h:j<=k):Room j A:=(r.hd,by let:=r.dp;lia,by let:=r.un;lia)
def Room.deeper(r:Room (k+1) A)(env:Env):Room k (A.deeper env):=
 (r.hd,by let:=r.dp;change A.depth+1+3*k+5<_;lia,by let:=r.un;change A.units+3+16*k+200<_;lia)
def Room.in1(r:Room (k+1) A):Room k A.in1:=
 (r.hd,by let:=r.dp;change A.depth+3*k+5<_;lia,by let:=r.un;change A.units+1+16*k+200<_;lia)
def a7e{A:Around}:(A.under (.builtin "type.__call__" (.ref C::us,kw))).depth=A.depth+1:=rfl
def a7f{A:Around}:(A.under (.builtin "type.__call__" (.ref C::us,kw))).units=A.units+1:=rfl
def Room.make(r:Room (k+1) A)(C:Addr)(us:List Value)(kw:List (Str×Value)):Room k (A.under (.builtin "type.__call__" (.ref C::us,kw))):=
 (r.hd,by let:=r.dp;rw[a7e];lia,by let:=r.un;rw[a7f];lia)
def Room.depth(r:Room k A):A.depth<recursionLimit:=by let:=r.dp;lia
def Room.units(r:Room k A):A.units+64<cLine:=by let:=r.un;lia
def tNil:TA:=λ_ H Q=>Q [] H
def b7J(ta:TE)(tr:TA):TA:=fun σ H Q=>ta σ H λx H1=>tr σ H1 λxs H2=>Q (x::xs) H2
section
variable{e:Expr}{te:TE}{t:TA}
def b1O:PA X [] tNil:=λ_ _ _ _ H Q I h=>Calls.spliced_nil ([],H,I,.nil,h)
def a8d(ha:PE X e te)(hr:PA X es t)(hs:fP (e::es) X.env=(js,eval e X.env,)::fP es X.env):PA X (e::es) (b7J te t):=by
 ext b a s σ H Q I h;rw[hs];show Calls.spliced_cons (thn (ha a s σ H _ I h) λu j (x,d,k,c,g)=>(thn (hr b a j σ d _ k g) λp o (i,f,l,m,n)=>(x::i,f,l,.cons c m,n)))
def tTup(t:TA):TE:=fun σ H Q=>t σ H λxs H1=>xs.length<=fL/\∀p,H1 p=ce->Q (.ref p) (upd H1 p (.tup xs))
def tLst(t:TA):TE:=fun σ H Q=>t σ H λxs H1=>xs.length<=fL/\∀p,H1 p=ce->Q (.ref p) (upd H1 p (.lst xs))
def b5a(h:PA X es t):PE X (.Tuple es x1 pos) (tTup t):=by
 ext c s σ H Q I i;show wpAny_Tuple_spliced (thn (h pos c s σ H _ I i) λk a (g,d,f,r,z,q)=>(by rw[<- r.length];show z,?_));let j:=f.hok.fresh (aN _);show(.ref a.heap.objs.size,upd d a.heap.objs.size _,f.laid (λb u e=>Heap.get?_push_of_some _ e) (aN _) ?_,rfl,q _ j);show(z,k,r,(_,Heap.get?_push_size _ rfl,rfl,_,rfl))
def b5b(h:PA X es t):PE X (.List es pos) (tLst t):=by
 ext c s σ H Q I j;show wpAny_List_spliced (thn (h pos c s σ H _ I j) λi a (k,d,f,r,z,q)=>(by rw[<- r.length];show z,?_));let g:=f.hok.fresh (aN _);show(.ref a.heap.objs.size,upd d a.heap.objs.size _,f.laid (λb u e=>Heap.get?_push_of_some _ e) (aN _) ?_,rfl,q _ g);show(z,i,0,r,Heap.get?_push_size _ rfl)
end
abbrev Sp:=List V->Hp->VK->XK->Prop
abbrev CXT:=List Env->Hp->Shared->XK->Value->Shared->Prop
structure Env0 (P:fO) (w:World) (K:Fg) (mg:Str->Option Value) (base:Heap) (A:Around) (outer:List Env) (s:Shared) (H:Hp):Prop where
 frames:A.frames=bN outer
 mod:Mod K mg base
 bs:∀b o,base.get? b=bN o->s.heap.get? b=bN o/\H b=ce
 bsz:base.objs.size<=s.heap.objs.size
 funs:s.heap.FunFrames base outer
 frf:∀b∈frs outer,H b=ce
 hok:HOk P w H s.heap
 bare:gr s.gens
def CE(outer:List Env)(P:fO)(w:World)(H:Hp)(s:Shared)(Q:VK)(u:Value)(s':Shared):Prop:=
 ∃v H',s'.os=s.os/\gr s'.gens/\Un (frs outer) [] H H' s.heap s'.heap/\HOk P w H' s'.heap/\RelV v u/\Q v H'
def CR(CX:CXT)(outer:List Env)(P:fO)(w:World)(H:Hp)(s:Shared)(Q:VK)(E:XK)(r:Result)(s':Shared):Prop:=
 match r with
 |.ok (.ret u)=>CE outer P w H s Q u s'
 |.ok _=>False
 |.error e=>CX outer H s E e s'
structure FnOk (P:fO) (w:World) (K:Fg) (mg:Str->Option Value) (base:Heap) (CX:CXT) (k:Nat) (f:Addr) (fd:f6) (ps:List Str) (sp:Sp):Prop where
 len:∀vs H Q E,sp vs H Q E->vs.length=ps.length
 run:∀(A:Around)(outer:List Env)(s:Shared)(H:Hp)(args:Args)(us:List Value)(vs:List V)(Q:VK)(E:XK),Room k A->Env0 P w K mg base A outer s H->g8 s fd args (ps.zip us)->Vals vs us->sp vs H Q E ->
  gG (model P w) A (.call (.ref f) args) (CR CX outer P w H s Q E) s
def FnOk.mono{K:Fg}(F:FnOk P w K mg base CX j f fd ps jt)(h:j<=k) :
  FnOk P w K mg base CX k f fd ps jt:=(F.len,λA a s H b c e Q E d=>F.run A a s H b c e Q E (d.mono h))
def FnOk.imp{K:Fg}(F:FnOk P w K mg base CX k f fd ps jt)
  (h:∀vs H Q E,sp' vs H Q E->jt vs H Q E):FnOk P w K mg base CX k f fd ps sp':=
 (λb H Q E q=>F.len b H Q E (h _ _ _ _ q),λA a s H c d b Q E j i g l e=>F.run A a s H c d b Q E j i g l (h _ _ _ _ e))
def Env0.make{K:Fg}(e:Env0 P w K mg base A outer s H)(C:Addr)(us:List Value)(kw:List (Str×Value)) :
  Env0 P w K mg base (A.under (.builtin "type.__call__" (.ref C::us,kw))) outer s H:=(by first |show e.frames | (o_head e.frames),e.mod,e.bs,e.bsz,e.funs,e.frf,e.hok,e.bare)
def Env0.in1{K:Fg}(e:Env0 P w K mg base A outer s H) :
  Env0 P w K mg base A.in1 outer s H:=(e.frames,e.mod,e.bs,e.bsz,e.funs,e.frf,e.hok,e.bare)
section
variable{σ:St}{s':Shared}
def Inv.env0(I:Inv X pins σ H s):Env0 X.prog X.w X.K X.mg X.base X.A X.stack s H:=
 (I.ok.frames,I.ok.mod,I.bs,be I.ok.bsz I.sz,I.stack,I.stkFree,I.hok,I.bare)
def Inv.after(I:Inv X pins σ H s)(h:CE X.stack X.prog X.w H s Q u s'):EP X pins σ Q u s':=by
 let(v,H',j,a,f,c,r,q):=h;let(i,g,d,t,e):=s';obtain rfl:e=s.os:=j;show(v,H',I.call f c a (λb z=>absurd z (by simp)),r,q)
end
def b5c(sp:Sp)(dvs:List V)(E:XK)(t:TA):TE:=fun σ H Q=>t σ H λvs H1=>sp (vs++dvs) H1 Q E
def b2Y(C:Addr)(m:Str)(sp:Sp)(dvs:List V)(E:XK)(ta:TE)(t:TA):TE:=fun σ H Q=>ta σ H λx H1=>∃a dx fs,x=.ref a/\H1 a=bN (.ins C dx fs)/\fs.lookup m=ce /\
 t σ H1 λvs H2=>sp (x::(vs++dvs)) H2 Q E
def b7K(C:Addr)(sp:Sp)(dvs:List V)(E:XK)(t:TA):TE:=fun σ H Q=>t σ H λvs H1=>∀x dx,H1 x=ce->H1 dx=ce->dx≠x ->
 sp (.ref x::(vs++dvs)) (upd (upd H1 dx (.own x)) x (.ins C dx [])) (λv H2=>v=.non/\Q (.ref x) H2) E
def Binds(K:Fg)(fd:f6)(ps:List Str)(ds:List Value):Prop:=
 ∀(s:Shared)(us:List Value),K.In s.heap->(us++ds).length=ps.length->g8 s fd (us,[]) (ps.zip (us++ds))
def Binds.all{K:Fg}(h:∀us:List Value,us.length=ps.length->g9 fd (us,[])=pure (ps.zip us)):Binds K fd ps []:=λs b _ a=>by
 rw[bL]at a ⊢;show .of_eq (h b a)
def a2r(CX:CXT)(X:Cx)(E:XK):Prop:=∀(pins:List (Addr×Obj))(σ:St)(H:Hp)(s:Shared)(e:Value)(s':Shared),Inv X pins σ H s->CX X.stack H s E e s'->X.xe e s'
section
variable{CX:CXT}{k:Nat}{f C:Addr}{fd:f6}{ps:List Str}{sp:Sp}{dvs:List V}{ds:List Value}{E:XK}{x:Str}{p:Pos}{e o:Expr}{ta:TE}{t:TA}
def a6p(F:FnOk X.prog X.w X.K X.mg X.base CX k f fd ps sp)(hr:Room k X.A)(hb:Binds X.K fd ps ds)(hd:Vals dvs ds)(hx:a2r CX X E)
  (I:Inv X pins σ H s) (r:Vals vs us) (h:sp (vs++dvs) H Q E):wpAny (model X.prog X.w) X.A (call (.ref f) us) (EP X pins σ Q) X.xe s:=by
 let b:=r.append hd;let d:(us++ds).length=ps.length:=b.length▸F.len _ _ _ _ h;show i8 (ii (F.run X.A X.stack s H (us,[]) (us++ds) _ Q E hr I.env0 (hb s us I.kIn d) b h) λr c a=>?_);cases r with
 |error e=>show hx pins σ H s e c I a
 |ok fl=>
  cases fl with
  |ret u=>show I.after a
  |next=>show aP a
  |brk=>show aP a
  |cont=>show aP a
def b2Z(F:FnOk X.prog X.w X.K X.mg X.base CX k f fd ps sp)(hr:Room k X.A)(hg:Gl X x)(hm:X.mg x=bN (.ref f))(hk:PySem.W.keepIn X.K (.ref f)=cp)(hb:Binds X.K fd ps ds)(hd:Vals dvs ds)(hx:a2r CX X E)
  (ha:PA X (e::es) t) (hdb:(x==("__debug__":Str))=js) (he:fP (e::es) X.env=(js,eval e X.env,)::fP es X.env) (hpl:(backTo pos (fP es X.env)).any (·.1)=js) :
  PE X (.Call (.Name x p) (e::es) [] pos) (b5c sp dvs E t):=by
 ext a s σ H Q I h;show ij (a37 I hg hm ?_ hdb);show PySem.W.callWith_K I.ok.mod.kin hk (thn (ha pos a s σ H _ I h) λi d (c,g,b,r,q)=>(b.kIn,?_)) he hpl;show a6p F hr hb hd hx b r q
def b20(he:PE X o ta)(c:Cls X.K C)(hm:Meth X.K C m f)(F:FnOk X.prog X.w X.K X.mg X.base CX k f fd ps sp)(hr:Room k X.A)(hb:Binds X.K fd ps ds)(hd:Vals dvs ds)(hx:a2r CX X E)(ha:PA X (e::es) t)
  (hst:fP (e::es) X.env=(js,eval e X.env,)::fP es X.env) (hpl:(backTo pos (fP es X.env)).any (·.1)=js)
  (ht:eval (.Call (.Attribute o m apos) (e::es) [] pos) X.env=(do
   let ov <- eval o X.env
   gc apos.atName
   let (f,first,) <- fZ [ov] (gC ov m pl)
   gR pos f first (backTo pos (fP (e::es) X.env)) (gH pos (gI [] X.env)))) :
  PE X (.Call (.Attribute o m apos) (e::es) [] pos) (b2Y C m sp dvs E ta t):=by
 ext b s σ H Q I h;show PySem.W.methodCall_KW (thn (he b s σ H _ I h) λu z (x,p,i,n,a,dx,fs,v,y,l,q)=>?_) ht;subst v;obtain rfl:u=Value.ref a:=n;show a3M i y c hm l (PySem.W.callWith_K I.ok.mod.kin hm.kp (thn (ha pos b z σ p _ i q) λus s2 (vs,H2,g,r,B)=>(g.kIn,?_)) hst hpl);show a6p (vs:=.ref a::vs) F hr hb hd hx g (.cons rfl r) B
def b0h(he:PE X o ta)(c:Cls X.K C)(hm:Meth X.K C m f)(F:FnOk X.prog X.w X.K X.mg X.base CX k f fd ps sp)(hr:Room k X.A)(hb:Binds X.K fd ps ds)(hd:Vals dvs ds)(hx:a2r CX X E)
  (ht:eval (.Call (.Attribute o m apos) [] [] pos) X.env=(do
   let ov <- eval o X.env
   gc apos.atName
   let (f,first,) <- fZ [ov] (gC ov m pl)
   gR pos f first (backTo pos (fP [] X.env)) (gH pos (gI [] X.env)))) :
  PE X (.Call (.Attribute o m apos) [] [] pos) (b2Y C m sp dvs E ta tNil):=by
 ext b s σ H Q I h;show PySem.W.methodCall_KW (thn (he b s σ H _ I h) λu j (x,r,d,i,a,p,n,g,e,l,q)=>?_) ht;subst g;obtain rfl:u=Value.ref a:=i;show a3M d e c hm l (PySem.W.callWith_K0 d.kIn hm.kp (a6p (vs:=[.ref a]) F hr hb hd hx d (.cons rfl .nil) q))
structure Mk (K:Fg) (C f:Addr):Prop where
 makes:PySem.W.makesIn K C=cp
 init:PySem.W.findIn K (.ref C) "__init__"=bN (bN (.ref f))
 fn:PySem.W.isFn K (.ref f)=cp
 kp:PySem.W.keepIn K (.ref C)=cp
def b0i(M:Mk X.K C f)(F:FnOk X.prog X.w X.K X.mg X.base CX k f fd ps sp)(hr:Room (k+1) X.A)(hb:Binds X.K fd ps ds)(hd:Vals dvs ds)
  (hx:a2r CX X E) (I:Inv X pins σ H s) (r:Vals vs us)
  (h:∀x dx,H x=ce->H dx=ce->dx≠x->sp (.ref x::(vs++dvs)) (upd (upd H dx (.own x)) x (.ins C dx [])) (λv H2=>v=.non/\Q (.ref x) H2) E) :
  wpAny (model X.prog X.w) X.A (call (.ref C) us) (EP X pins σ Q) X.xe s:=by
 let d:=h _ s.heap.objs.size (I.hok.fresh (cR _)) (I.hok.fresh (aN _)) (aZ (eP _));let b:=Inv.made (C:=C) I;let c:Vals (V.ref (s.heap.objs.size+1)::_) _:=.cons rfl (r.append hd);let g:(Value.ref (s.heap.objs.size+1)::us++ds).length=ps.length:=by
  let e:=c.length;rw[F.len _ _ _ _ d]at e;show e.symm
 show i8 (b0g I.kIn M.makes M.init (beq_iff_eq.mp M.fn) (ii (F.run _ X.stack _ _ (Value.ref (s.heap.objs.size+1)::us,[]) _ _ _ E (hr.make C us [])
  (b.env0.make C us []) (hb _ _ b.kIn g) c d) λr m a=>?_))
 cases r with
 |error e=>show hx pins σ _ _ e m b a
 |ok fl=>
  cases fl with
  |ret u=>
   let(v,H',I3,j,l,i):=b.after a;subst l;show(j,(V.ref (s.heap.objs.size+1),H',I3,rfl,i))
  |next=>show aP a
  |brk=>show aP a
  |cont=>show aP a
def b0j(M:Mk X.K C f)(F:FnOk X.prog X.w X.K X.mg X.base CX k f fd ps sp)(hr:Room (k+1) X.A)(hg:Gl X x)(hm:X.mg x=bN (.ref C))(hb:Binds X.K fd ps ds)(hd:Vals dvs ds)(hx:a2r CX X E)
  (hdb:(x==("__debug__":Str))=js):PE X (.Call (.Name x p) [] [] pos) (b7K C sp dvs E tNil):=by
 ext a s σ H Q I h;show ij (a37 I hg hm ?_ hdb);show PySem.W.callWith_K0 I.kIn M.kp (b0i M F hr hb hd hx I .nil h)
end
structure FnScope (N P:List Str) (sc:Scope):Prop where
 kind:sc.kind=.function
 co:sc.isCoroutine=js
 gen:sc.isGenerator=js
 nd:N.Nodup
 pre:N.take P.length=P
 par:∀x∈P,sc.names.lookup x=bN .local\/sc.names.lookup x=bN .cell
 nofree:∀y∈sc.names,y.2≠.free
def a8e{kindOf:Str->Option fT}:∀{binds:List (Str×Value)}{m:Str->Option Value},(∀v,(x,v,)∉binds)->bindL kindOf binds m x=m x:=by ext z0;induction z0 with
 |nil=>ext _ _;show rfl
 |cons q0 r I0=>
  let(n,v):=q0;ext m h;unfold bindL;rw[I0 λw a=>h w (b3 _ a)]
  split
  .let:x≠n:=by ext rfl;show h v cf
   simp[this]
  .rfl
def a8f{kindOf:Str->Option fT}:∀{binds:List (Str×Value)}{m:Str->Option Value},(∀v,(x,v,)∉binds)->bindC kindOf binds m x=m x:=by ext z0;induction z0 with
 |nil=>ext _ _;show rfl
 |cons q0 r I0=>
  let(n,v):=q0;ext m h;unfold bindC;rw[I0 λw a=>h w (b3 _ a)]
  split
  .rfl
  .let:x≠n:=by ext rfl;show h v cf
   simp[this]
theorem a4T{kindOf:Str->Option fT}:∀{P:List Str}{vs:List Value}{i:Nat}{m:Str->Option Value},P.Nodup->P[i]?=bN x->vs[i]?=bN v->kindOf x=bN .local ->
  bindL kindOf (P.zip vs) m x=bN v
 |[],_,_,_,_,h,_,_=>by simp at h
 |_::_,[],_,_,_,_,h,_=>by simp at h
 |p::P,w::vs,0,m,nd,h1,h2,hk=>by
  simp at h1 h2;subst h1;subst h2
  change bindL kindOf (_::P.zip vs) m p=_
  unfold bindL;rw[a8e λv a=>(cg.mp nd).1 (ci a).1,if_pos hk];simp
 |p::P,w::vs,i+1,m,nd,h1,h2,hk=>by
  unfold bindL;show a4T (cg.mp nd).2 ↑h1 (by simp_all) hk
theorem a4U{kindOf:Str->Option fT}:∀{P:List Str}{vs:List Value}{i:Nat}{m:Str->Option Value},P.Nodup->P[i]?=bN x->vs[i]?=bN v->kindOf x≠bN .local ->
  bindC kindOf (P.zip vs) m x=bN v
 |[],_,_,_,_,h,_,_=>by simp at h
 |_::_,[],_,_,_,_,h,_=>by simp at h
 |p::P,w::vs,0,m,nd,h1,h2,hk=>by
  simp at h1 h2;subst h1;subst h2
  change bindC kindOf (_::P.zip vs) m p=_
  unfold bindC;rw[a8f λv a=>(cg.mp nd).1 (ci a).1,if_neg hk];simp
 |p::P,w::vs,i+1,m,nd,h1,h2,hk=>by
  unfold bindC;show a4U (cg.mp nd).2 ↑h1 (by simp_all) hk
noncomputable def start(N:List Str)(vs:List V):St:=vs.map bN++bg (N.length-vs.length) ce
noncomputable def cxOf(CX:CXT)(P:fO)(w:World)(K:Fg)(mg:Str->Option Value)(base:Heap)(N:List Str)(qual:Str)(scope:Scope)(f:Addr)(cd:Value)(A:Around)(outer:List Env)(s:Shared)(H:Hp)(E:XK):Cx where
 prog:=P
 w:=w
 K:=K
 mg:=mg
 base:=base
 A:=A.deeper (envOfC qual scope s.heap.objs.size f cd)
 N:=N
 s₀:=s
 H₀:=H
 env:=envOfC qual scope s.heap.objs.size f cd
 outer:=outer
 stack:=envOfC qual scope s.heap.objs.size f cd::outer
 ex:=[]
 calm:=cp
 fn:=λ_=>cp
 pn:=[]
 xe:=λe s'=>wpAny (model P w) (A.deeper (envOfC qual scope s.heap.objs.size f cd)) (leaving (envOfC qual scope s.heap.objs.size f cd) e) (λ_ s''=>CX outer H s E e s'') (λe' s''=>CX outer H s E e' s'') s'
def a6q{sc:Scope}(h:sc.names.lookup x=bN .cell):∃c,(iH n sc.names []).lookup x=bN c:=by
 show Option.isSome_iff_exists.mp (PySem.W.cellsFrom_some sc.names n [] (.inl h))
def a4V{K:Fg}
  (S:FnScope N ps scope) (hd:A.handled=ce) (e0:Env0 P w K mg base A outer s H) (hl:vs.length=ps.length) (r:Vals vs us)
  (x:InCallC s s.heap.objs.size (bindL (envOfC qual scope s.heap.objs.size f cd).kindOf (ps.zip us) λ_=>ce) (iH (s.heap.objs.size+1) scope.names []) (bindC (envOfC qual scope s.heap.objs.size f cd).kindOf (ps.zip us) λ_=>ce) s1) :
  Inv (cxOf CX P w K mg base N qual scope f cd A outer s H jt) [] (start N vs) H s1:=by
 let G:ps.length<=N.length:=by let:=congrArg bz S.pre;rw[bj]at this;lia
 let(m,J,rfl,C):=x.done;let l:∀b:Addr,b∉(cxOf CX P w K mg base N qual scope f cd A outer s H jt).ex:=λb z=>absurd (show b∈([]) from z) (by simp);show((e0.mod,S.kind,rfl,rfl,aN _,λy z c m d=>?_,λy g=>?_,λy c _ h=>?_,λ_=>hd,Around.frames_deeper e0.frames,.inr (rfl,rfl),λb z=>absurd z (l b),e0.bs,e0.bsz,λb _ _=>l b,λb z=>absurd z (l b),e0.funs,e0.frf),
  rfl,e0.bare,Un.kept C,(_,x.toInCall.ns,λi y v m d I=>?_),λy c h=>(_,x.cell y c h),e0.hok.fresh (aN _),λy c h=>?_,λp j=>absurd (show p∈([]) from j) (by simp),e0.hok.kept C,?_)
 .show name_of_addr x.apart (PySem.mem_of_lookup m) (PySem.mem_of_lookup d)
 .let g:=g;let g||g:=g
  .show a6q g
  .show absurd rfl (S.nofree _ (PySem.mem_of_lookup g))
 .show cF (x.above y c (PySem.mem_of_lookup h))
 .let o:i<vs.length:=by
   unfold start at d
   by_cases o:i<vs.length
   .show o
   .rw[cS (by simp_all)]at d;rw[List.getElem?_replicate]at d
    split at d<;>cases d
  let F:vs[i]?=bN v:=by
   unfold start at d;rw[cG ↑o,aU]at d;cases e:vs[i]? with
   |none=>rw[e]at d;cases d
   |some a=>rw[e]at d;cases d;rfl
  let(u,B,D):=r.get F;let j:ps[i]?=bN y:=by
   rw[<- S.pre,List.getElem?_take_of_lt (by lia)];show m
  let t:ps.Nodup:=S.pre▸S.nd.sublist (dP _ _);show(u,D,?_);let k||k:=S.par y (bp j)
  .show .inl (k,a4T t j B k)
  .let(c,e):=a6q k;show .inr (.inl k,c,e,?_);let q:=x.cell y c e;rw[a4U t j B (by change scope.names.lookup y≠_;rw[k];decide)]at q;show q
 .show e0.hok.fresh (cF (x.above y c (PySem.mem_of_lookup h)))
 .unfold start
  change _=N.length
  rw[aW,aM,List.length_replicate]
  lia
def b5d{K:Fg}{dV kV doc pm cdv ct oc:Value}
 (lk:K.lookup f=bN (oc,od,.func (PySem.W.fnOf name qual params body scope dV kV doc pm an cdv ct),osl)) (hcd:PySem.W.codeIn K cdv qual=cp) (S:FnScope N ps scope)
    (len:∀vs H Q E,jt vs H Q E->vs.length=ps.length)
    (hbody:∀(A:Around)(outer:List Env)(s:Shared)(H:Hp)(vs:List V)(Q:VK)(E:XK),Room k (A.deeper (envOfC qual scope s.heap.objs.size f cdv))->jt vs H Q E ->
      ∃t,PSs (cxOf CX P w K mg base N qual scope f cdv A outer s H E) body t/\t { nx:=λ_ H'=>Q .non H',rt:=Q } (start N vs) H) :
    FnOk P w K mg base CX (k+1) f (PySem.W.fnOf name qual params body scope dV kV doc pm an cdv ct) ps jt:=by
  show(len,λA a s H L F m Q E z g R r i=>?_);let C:=g.mod.kin.keeps λb o e=>(g.bs b o e).1;let h:∀y∈ps.zip F,scope.names.lookup y.1=bN .local\/(scope.names.lookup y.1=bN .cell/\((iH (s.heap.objs.size+1) scope.names []).lookup y.1).isSome=cp):=by
    ext⟨n,v⟩ G;let q||q:=S.par n (ci G).1
    . show .inl q
    . show .inr (q,PySem.W.cellsFrom_some _ _ _ (.inl q))
  show codeAny_call_function z.depth (C _ _ lk) rfl S.co S.gen rfl (PySem.W.codeRec_of C hcd) (R _ _ _ _ (wpAny_newFunctionEnv_cells S.kind h λaa Y B x=>?_));subst Y;show((g.mod.nolimit.keeps λb o e=>(g.bs b o e).1).keeps x.toInCall.keep,codeAny_func ?_);let(t,T,U):=hbody A a s H m Q E (z.deeper _) i;let I:Inv (cxOf CX P w K mg base N qual scope f cdv A a s H E) [] _ H B:=a4V S z.hd g (len _ _ _ _ i) r x;show fY (T [] B _ H _ I U) (λX p c=>?_) λe p c=>c;let j:∀{σ':St}{d:Hp}{v:V}{u:Value},Inv (cxOf CX P w K mg base N qual scope f cdv A a s H E) [] σ' d p->RelV v u->Q v d->CE a P w H s Q u p:=
    λ{σ' d v u} J l q=>(v,d,J.os,J.bare,J.base,J.hok,l,q)
  cases X with
  |ret u=>
    let(v,σ',d,J,l,q):=c;show j J l q
  |next=>
    let(σ',d,J,q):=c;show j (v:=V.non) J rfl q
  |brk=>
    let(_,_,_,q):=c;show aP q
  |cont=>
    let(_,_,_,q):=c;show aP q
section
variable{x:Str}{p:Pos}{e:Expr}{t:TA}{id T:String}{r:List V->Hp->VK->Prop}
def tCB(r:List V->Hp->VK->Prop)(t:TA):TE:=fun σ H Q=>t σ H λvs H1=>r vs H1 Q
def b0k(hc:CallR X (.builtin id) r)(hg:Gl X x)(hm:X.mg x=ce)(hv:gq x=bN (.builtin id))(ha:PA X (e::es) t)(hn:x≠"__name__")(hdb:(x==("__debug__":Str))=js)
  (he:fP (e::es) X.env=(js,eval e X.env,)::fP es X.env) (hpl:(backTo pos (fP es X.env)).any (·.1)=js):PE X (.Call (.Name x p) (e::es) [] pos) (tCB r t):=by
 ext a s σ H Q I h;show ij (a3J I hg hm hv ?_ hn hdb);show PyProof.Rows.callWith_builtin1 (thn (ha pos a s σ H _ I h) λg c (b,f,i,d,j)=>hc a c σ f b g Q i d j) he hpl
def a8g(hc:CallR X (.type T) r)(hg:Gl X x)(hm:X.mg x=ce)(hv:gq x=bN (.type T))(ha:PA X (e::es) t)(hn:x≠"__name__")(hdb:(x==("__debug__":Str))=js)
  (he:fP (e::es) X.env=(js,eval e X.env,)::fP es X.env) (hpl:(backTo pos (fP es X.env)).any (·.1)=js):PE X (.Call (.Name x p) (e::es) [] pos) (tCB r t):=by
 ext a s σ H Q I h;show ij (a3J I hg hm hv ?_ hn hdb);show PyProof.Rows.callWith_type1 (thn (ha pos a s σ H _ I h) λj f (b,g,d,i,c)=>hc a f σ g b j Q d i c) he hpl
end
namespace HT
def cat_tup(ht:IsTup s.heap t vs.toArray)(hb:IsTup s.heap b ws.toArray)(hv:vs≠[])
  (h1:ws=[]->Q (.ref t) s) (h2:ws≠[]->Q (.ref s.heap.objs.size) { s with heap:=s.heap.push { cls:=.type "tuple",data:=.seq (vs++ws).toArray } })
  (hsz:vs.length+ws.length<=fL):wpAny (model prog w) A (fV .Add (.ref t) (.ref b)) Q E s:=by
 let((r,j,p,k),c,l,n,m):=id ht;let((q,f,o,h),a,g,i,d):=id hb;subst l m g d;let e:vs.toArray++ws.toArray=(vs++ws).toArray:=by simp
 by_cases hw:ws=[]
 .show concat_meets (_,c,rfl) (_,a,rfl) noFill_tuple_add seq_tuple_add PySem.F.slot_tuple_add PySem.F.entry_tuple_add (PySem.F.args_tuple_add_2 _ _)
   (tuple_addW1 t b vs.toArray ws.toArray n i j f k h (by simp_all) (by grind)) (c,a,h1 hw)
 .show concat_meets (_,c,rfl) (_,a,rfl) noFill_tuple_add seq_tuple_add PySem.F.slot_tuple_add PySem.F.entry_tuple_add (PySem.F.args_tuple_add_2 _ _)
   (tuple_addW2 t b vs.toArray ws.toArray n i j f k h (by simp_all) (by simp_all) (by cbv)) (c,a,?_)
  rw[e];show h2 hw
noncomputable def sIx(n d:Nat):Option Int->Nat
 |none=>d
 |some v=>if v<0 then (v+(n:Int)).toNat else min v.toNat n
def sIx_none(n d:Nat):sIx n d ce=d:=rfl
def sIx_nat(n d k:Nat):sIx n d (bN (k:Int))=min k n:=rfl
def b9i(n d:Nat)(hd:d<=n)(o:Option Int):sIx n d o<=n:=by
 cases o with
 |none=>show hd
 |some v=>
  change (if v<0 then (v+n).toNat else min v.toNat n)<=n
  by_cases hv:v<0
  .grind
  .rw[if_neg hv];show eQ _ _
def a8h(v:Int)(n d:Nat):(if v<0 then max (v+(n:Int)) 0 else min v (n:Int))=((sIx n d (bN v):Nat):Int):=by grind [sIx]
def a7g(lo hi:Option Int)(n:Nat):fU.Slice.sliceAdjust lo hi 1 (n:Int)=(((sIx n 0 lo:Nat):Int),((sIx n n hi:Nat):Int),):=by
 unfold fU.Slice.sliceAdjust;show Prod.ext ?_ ?_
 .cases lo with
  |none=>rfl
  |some v=>show a8h v n 0
 .cases hi with
  |none=>rfl
  |some v=>show a8h v n n
def a7h(i j:Nat):fU.Slice.slicePlaces (i:Int) (j:Int) 1=j-i:=by
 unfold fU.Slice.slicePlaces;simp
 split<;>lia
def a3O(p:IsPart v o)(h:Q o s):wpAny (model prog w) A (fU.Slice.slicePartIndex v) Q E s:=by
 cases p with
 |none=>show slicePart_none h
 |int i t=>show slicePart_int h
def a2w{lo hi:Option Int}{n:Nat}(hs:s.heap.IsSliceOf sl vl vu .none)(pl:IsPart vl lo)(pu:IsPart vu hi)
  (h:Q (((sIx n 0 lo:Nat):Int),1,sIx n n hi-sIx n 0 lo,) s):wpAny (model prog w) A (fU.Slice.sliceApplied (.ref sl) (pure (n:Int))) Q E s:=by
 let(d,a,c,b):=id hs;show fK (fK (im a b rfl (fK (im a b rfl (fK (im a b rfl (fS (fK (slicePart_none (fK (a3O pl (fK (a3O pu (fK (fS ?_)))))))))))))))
 change wpAny _ _ (match fU.Slice.sliceAdjust lo hi 1 n with | (lo,hi,)=>pure (lo,_,fU.Slice.slicePlaces lo hi 1,)) _ _ s
 rw[a7g lo hi n]
 change wpAny _ _ (pure _) _ _ s
 rw[a7h];show fS h
def b0l(xs:Array Value)(i k:Nat):((cQ k).filterMap λ(m:Nat)=>xs[((i:Int)+(m:Int)*1).toNat]?).toArray=((xs.toList.drop i).take k).toArray:=by
 let e:(λ(m:Nat)=>xs[(i+(m:Int)*1).toNat]?)=λm=>xs[i+m]?:=by
  funext m
  let:(i+(m:Int)*1).toNat=i+m:=by lia
  rw[this]
 rw[e]
 let:=pick_run xs i k
 rw[dQ]at this;let a:(_∘λx=>i+x)=λm=>xs[i+m]?:=rfl;rw[a]at this;rw[this]
def getItem_tuple_cut{lo hi:Option Int}(ht:IsTup s.heap t items)(hs:s.heap.IsSliceOf sl vl vu .none)(pl:IsPart vl lo)(pu:IsPart vu hi)
  (hw:¬ (sIx items.size 0 lo=0/\sIx items.size items.size hi=items.size))
  (h:Q (.ref s.heap.objs.size) { s with heap:=s.heap.push { cls:=.type "tuple",data:=.seq ((items.toList.drop (sIx items.size 0 lo)).take (sIx items.size items.size hi-sIx items.size 0 lo)).toArray } })
  (hsz:items.size<=fL):wpAny (model prog w) A (io (.ref t) (.ref sl)) Q E s:=by
 let a:sizeOk (.seq ((items.toList.drop (sIx items.size 0 lo)).take (sIx items.size items.size hi-sIx items.size 0 lo)).toArray):=by
  change ((items.toList.drop (sIx items.size 0 lo)).take (sIx items.size items.size hi-sIx items.size 0 lo)).toArray.size<=fL
  rw[bJ,bj,bT,bU];cbv
 let(f,d,e,g):=id hs;let b:s.TypeIs (.ref sl) "slice":=(f,d,e);unfold io
 try with_reducible show gb ?_
 show fK (wpAny_sequenceKey ht.typeIs (by decide) ?_);show fK (wpAny_callSpecial?_slot ht.typeIs PyProof.Rows.slot_tuple_getitem
  (ip PyProof.Rows.slot_tuple_getitem ht.typeIs entry_tuple_getitem ?_ (args_tuple_getitem _ _)))
 change wpAny _ _ (fU.Tuple.tupleItemsOf _ >>= _) _ _ s
 show fK (tupleItemsOf_ ht (fK (wpAny_typeOf b (fK (a2w hs pl pu ?_)))));let c:¬ ((((sIx items.size 0 lo):Int)==0&&(1:Int)==1&&(sIx items.size items.size hi-sIx items.size 0 lo)==items.size)=cp):=by grind
 change wpAny _ _ (if (((sIx items.size 0 lo):Int)==0&&(1:Int)==1&&(sIx items.size items.size hi-sIx items.size 0 lo)==items.size)=cp then _ else _) _ _ s
 rw[if_neg c,b0l]
 first
  |show fK (wpAny_newObj_type (fS (_,rfl,fS h)) a)
  |show fK _
  |show fK _
  |show fK _
end HT
abbrev TO:=St->Hp->(Option Int->Hp->Prop)->Prop
def PO(X:Cx)(e:Option Expr)(t:TO):Prop:=
 ∀(pins:List (Addr×Obj))(s:Shared)(σ:St)(H:Hp)(Q:Option Int->Hp->Prop),Inv X pins σ H s->t σ H Q ->
  wpAny (model X.prog X.w) X.A (evalPart e X.env) (λu s'=>∃o H',Inv X pins σ H' s'/\IsPart u o/\Q o H') X.xe s
def b21:TO:=λ_ H Q=>Q ce H
def b7L(t:TE):TO:=fun σ H Q=>t σ H λx H1=>∃i,x=.int i/\Q (bN i) H1
section
variable{e:Expr}{te:TE}{lo hi:Option Expr}{tl th:TO}{p2:Pos}
def b22:PO X ce b21:=λa s σ H Q I h=>fS (ce,H,I,.none,h)
def b23(h:PE X e te):PO X (bN e) (b7L te):=by
 ext a s σ H Q I b;show thn (h a s σ H _ I b) λu j (x,d,f,c,g)=>?_;let(i,rfl,q):=g;let(t,rfl):=c;show(bN i,d,f,.int i t,q)
def SlR(X:Cx)(r:V->Option Int->Option Int->Hp->VK->Prop):Prop:=
 ∀(pins:List (Addr×Obj))(s:Shared)(σ:St)(H:Hp)(x:V)(v vl vu:Value)(lo hi:Option Int)(sl:Addr)(Q:VK),Inv X pins σ H s->RelV x v->s.heap.IsSliceOf sl vl vu .none->IsPart vl lo->IsPart vu hi->r x lo hi H Q ->
  ∃T id,typeLookup (.type T) "__getitem__"=pure (bN (.builtin id))/\s.TypeIs v T/\wpAny (model X.prog X.w) X.A (io v (.ref sl)) (EP X pins σ Q) X.xe s
def SlR.or(h:SlR X r)(h':SlR X r'):SlR X (λx lo hi H Q=>r x lo hi H Q\/r' x lo hi H Q):=by
 ext a s σ H x v b k d j c Q I g i e f q;let q||q:=q
 .show h a s σ H x v b k d j c Q I g i e f q
 .show h' a s σ H x v b k d j c Q I g i e f q
def tSl(r:V->Option Int->Option Int->Hp->VK->Prop)(te:TE)(tl th:TO):TE:=fun σ H Q=>te σ H λx H1=>tl σ H1 λl H2=>th σ H2 λu H3=>r x l u H3 Q
def b0m(hr:SlR X r)(he:PE X e te)(hl:PO X lo tl)(hu:PO X hi th):PE X (.Subscript e (.Slice lo hi ce p2) pos) (tSl r te tl th):=by
 ext a s σ H Q I h;show Subscript_ (thn (he a s σ H _ I h) λv o (x,D,j,t,J)=>(wpAny_Slice (thn (hl a o σ D _ j J) λf B (l,p,m,n,G)=>thn (hu a B σ p _ m G) λd c (u,g,y,z,k)=>(fS ?_))));let C:Inv X a σ g { c with heap:=c.heap.push { cls:=.type "slice",data:=.fields #[f,d,.none] } }:=y.kept λb L q=>Heap.get?_push_of_some _ q;let(T,M,F,E,i):=hr a { c with heap:=c.heap.push { cls:=.type "slice",data:=.fields #[f,d,.none] } } σ g x v f d l u c.heap.objs.size Q C t (Heap.IsSliceOf.new ..) n z k;show tail_any E F i (by with_unfolding_all rfl)
noncomputable def cutV(xs:List V)(lo hi:Option Int):List V:=(xs.drop (HT.sIx xs.length 0 lo)).take (HT.sIx xs.length xs.length hi-HT.sIx xs.length 0 lo)
def a2Y(xs:List V)(lo hi:Option Int):(cutV xs lo hi).length<=xs.length:=by
 unfold cutV;rw[bj,bT]
 lia
def rSlT(K:Fg):V->Option Int->Option Int->Hp->VK->Prop:=λx lo hi H Q=>∃a xs,x=.ref a/\SqT K H a xs /\
 ¬ (HT.sIx xs.length 0 lo=0/\HT.sIx xs.length xs.length hi=xs.length)/\∀p,H p=ce->Q (.ref p) (upd H p (.tup (cutV xs lo hi)))
def sl_tup:SlR X (rSlT X.K):=by
 ext p s σ H x v A w e f z Q I k m l t h;let(a,d,rfl,n,u,q):=h;cases k;let(j,r,g,i):=I.tuple n;let c:j.toArray.size=d.length:=bJ▸r.length.symm;show("tuple",_,PyProof.Rows.slot_tuple_getitem.lookup,g.typeIs,?_);show HT.getItem_tuple_cut g m l t (c▸u) ?_ (by simp_all);rw[c];show(.ref s.heap.objs.size,_,I.laid (λb y q=>Heap.get?_push_of_some _ q) (aN _) ?_,rfl,q _ (I.hok.fresh (aN _)));show(be (a2Y d e f) i,_,(r.drop _).take _,IsTup.new _ _)
def b7M(K:Fg):R2:=λx y H Q=>∃a b xs ys,x=.ref a/\y=.ref b/\SqT K H a xs/\SqT K H b ys/\xs≠[]/\xs.length+ys.length<=fL /\
 (ys=[]->Q (.ref a) H)/\(ys≠[]->∀p,H p=ce->Q (.ref p) (upd H p (.tup (xs++ys))))
def Vals.nil_iff(r:Vals xs us):us=[]↔xs=[]:=by
 cases r with
 |nil=>simp
 |cons _ _=>simp
def op_catT:OpR X (fV .Add) (b7M X.K):=by
 ext r s σ H x y v u Q I p B h;let(a,b,k,j,rfl,rfl,t,g,f,e,m,n):=h;cases p;cases B;let(C,d,i,_):=I.tuple t;let(l,c,A,_):=I.tuple g;show HT.cat_tup i A (λz=>f (d.nil_iff.mp z)) (λz=>(.ref a,H,I,rfl,m (c.nil_iff.mp z))) (λz=>?_) (by rw[<- d.length,<- c.length];show e);show(.ref s.heap.objs.size,_,I.laid (λb D q=>Heap.get?_push_of_some _ q) (aN _) ?_,rfl,n (λw=>z (c.nil_iff.mpr w)) _ (I.hok.fresh (aN _)));show(by rw[aW];show e,_,d.append c,IsTup.new _ _)
end
noncomputable def ixN(n:Nat)(i:Int):Option Nat:=if 0<=i then (if i<n then bN i.toNat else ce) else if -(n:Int)<=i then bN (i+n).toNat else ce
noncomputable def atI{α:Type}(xs:List α)(i:Int):Option α:=(ixN xs.length i).bind λj=>xs[j]?
def a8i(h:ixN n i=bN j):seqIndex? i n=bN j/\j<n/\-(n:Int)<=i/\i<n:=by
 unfold ixN at h
 by_cases h0:0<=i
 .rw[if_pos h0]at h
  by_cases h1:i<n
  .rw[if_pos h1]at h;let e:=bN.inj h;show(by rw[i9 h0 h1,e],by lia,by lia,h1)
  .simp_all
 .rw[if_neg h0]at h
  by_cases h1:-n<=i
  .rw[if_pos h1]at h;let e:=bN.inj h;show(by rw[ja (by lia) h1,e],by lia,h1,by lia)
  .simp_all
def a5L{α:Type}{xs:List α}{v:α}(h:atI xs i=bN v):∃j,seqIndex? i xs.length=bN j/\xs[j]?=bN v/\j<xs.length/\-(xs.length:Int)<=i/\i<xs.length:=by
 unfold atI at h;cases e:ixN xs.length i with
 |none=>rw[e]at h;cases h
 |some j=>
  rw[e]at h;let(d,c,b,a):=a8i e;show(j,d,h,c,b,a)
def a1A{α:Type}{xs:List α}{j:Nat}{v:α}(h:xs[j]?=bN v):atI xs (j:Int)=bN v:=by
 let a:=(bh.mp h).1;let e:ixN xs.length j=bN j:=by
  unfold ixN;rw[if_pos (by simp),if_pos (by lia)];simp
 unfold atI;rw[e];show h
def a8j(b:Expr):Prop:=∀o i,subscripted b js o i=operate [o,i] (io o i)
def IxR(X:Cx)(r:R2):Prop:=
 ∀(value slice:Expr)(pins:List (Addr×Obj))(s:Shared)(σ:St)(H:Hp)(x y:V)(v u:Value)(Q:VK),Inv X pins σ H s->RelV x v->RelV y u->r x y H Q ->
  subscripted slice js v u=operate [v,u] (io v u)->wpAny (model X.prog X.w) X.A (subscriptTail value slice v u) (EP X pins σ Q) X.xe s
def MtR(X:Cx)(id:String)(r:V->List V->Hp->VK->Prop):Prop:=
 ∀(pins:List (Addr×Obj))(s:Shared)(σ:St)(H:Hp)(x:V)(xs:List V)(v:Value)(us:List Value)(Q:VK),Inv X pins σ H s->RelV x v->Vals xs us->r x xs H Q ->
  wpAny (model X.prog X.w) X.A (call (.builtin id) (v::us)) (EP X pins σ Q) X.xe s
section
variable{a b:Expr}{ta tb:TE}
def IxR.or(h:IxR X r)(h':IxR X r'):IxR X (λx y H Q=>r x y H Q\/r' x y H Q):=by
 ext b a c s σ H x y v u Q I e f q d;let q||q:=q
 .show h b a c s σ H x y v u Q I e f q d
 .show h' b a c s σ H x y v u Q I e f q d
def MtR.or{id:String}(h:MtR X id r)(h':MtR X id r'):MtR X id (λx xs H Q=>r x xs H Q\/r' x xs H Q):=by
 ext a s σ H x e v b Q I c d q;let q||q:=q
 .show h a s σ H x e v b Q I c d q
 .show h' a s σ H x e v b Q I c d q
def b7N(hr:IxR X r)(ha:PE X a ta)(hb:PE X b tb)(hs:a8j b):PE X (.Subscript a b pos) (tOp r ta tb):=λc s σ H Q I h=>Subscript_ (binT ha hb I h λv u d x y f g i e q=>hr a b c d σ f x y v u Q g i e q (hs _ _))
def rIxL(K:Fg):R2:=λx y H Q=>∃p xs i v,x=.ref p/\y=.int i/\SqL K H p xs/\atI xs i=bN v/\Q v H
def rIxT(K:Fg):R2:=λx y H Q=>∃p xs i v,x=.ref p/\y=.int i/\SqT K H p xs/\atI xs i=bN v/\Q v H
def rIxS:R2:=λx y H Q=>∃z i c,x=.str z/\y=.int i/\z.length<=fL/\atI z.cps.toList i=bN c/\Q (.str ⟨#[c]⟩) H
def ix_list:IxR X (rIxL X.K):=by
 ext n m a s σ H x y v u Q I F o h f;let(p,M,i,z,rfl,rfl,C,J,q):=h;cases F;let(t,rfl):=o;let(l,r,d,R):=I.list C;let(j,b,B,L,D,A):=a5L J;let(w,g,k):=r.get B;let G:=r.length;let N:=a4Q;let c:EP X a σ Q w s:=(z,H,I,k,q)
 by_cases h0:0<=i
 .let e:i.toNat=j:=by
   rw[i9 h0 A]at b;show bN.inj b
  show item_listR d.isList h0 (by lia) (by rw[e];o_head g) c f
 .let e:(i+(l.toArray.size:Int)).toNat=j:=by
   rw[ja (by lia) D]at b;rw[bJ,<- G];show bN.inj b
  show jc d.isList.typeIs slot_list_getitem.lookup
   (wpAny_getItem_list_neg d.isList (by lia) (by simp_all) (by lia) (by rw[e];o_head g) (rfl,c)) f
def ix_tup:IxR X (rIxT X.K):=by
 ext f e a s σ H x y v u Q I A D h k;let(p,J,i,z,rfl,rfl,B,C,q):=h;cases A;let(t,rfl):=D;let(E,r,d,M):=I.tuple B;let(j,l,g,G,F,L):=a5L C;let(w,m,c):=r.get g;let N:=a4Q;let b:EP X a σ Q w s:=(z,H,I,c,q);show jc d.typeIs slot_tuple_getitem.lookup
  (getItem_tuple d (by lia) (by lia) (by rw[bJ,<- r.length];show l) (by simp_all) (rfl,b)) k
def b5e:IxR X rIxS:=by
 ext b d r s σ H x y v u Q I o f h p;let(z,i,c,rfl,rfl,A,n,q):=h;let(t,rfl):=o;let(C,rfl):=f;let(j,a,l,D,g,w):=a5L n;let k:z.cps.toList.length=z.length:=by simp[Str.length]
 rw[k]at a g w;let B:=a4Q;show tail_any (hG s z t) slot_str_getitem.lookup (getItem_str (by grind) (by rw[a];o_head l) (.str ⟨#[c]⟩,H,I.tok _,(_,rfl),q)) p
def rIx(K:Fg):R2:=λx y H Q=>rIxL K x y H Q\/rIxT K x y H Q\/rIxS x y H Q
def b5f:IxR X (rIx X.K):=ix_list.or (ix_tup.or b5e)
def a7i(its:List Value)(n j:Nat)(u:Value):Obj.mapSeq (·.setIfInBounds j u) { cls:=.type "list",data:=.seq its.toArray n }={ cls:=.type "list",data:=.seq (its.set j u).toArray n }:=by
 simp[Obj.mapSeq]
def Inv.lst{pins:List (Addr×Obj)}{σ:St}{H:Hp}{s:Shared}{p:Addr}{xs:List V}(I:Inv X pins σ H s)(h:H p=bN (.lst xs)) :
  ∃(its:List Value)(n:Nat),Vals xs its/\s.heap.get? p=bN { cls:=.type "list",data:=.seq its.toArray n }/\xs.length<=sizeLine:=by
 let(z,a,n,r,e):=I.hok p _ h;show(a,n,r,e,z)
def Inv.lstUpd{its its':List Value}(I:Inv X pins σ H s)(h:H p=bN (.lst xs))
  (ho:s.heap.get? p=bN { cls:=.type "list",data:=.seq its.toArray n }) (hf:f { cls:=.type "list",data:=.seq its.toArray n }={ cls:=.type "list",data:=.seq its'.toArray n' }) (r:Vals ys its') (hz:ys.length<=fL) (t:Nat) :
  Inv X pins σ (upd H p (.lst ys)) { s with heap:=s.heap.update p f,toks:=t }:=by
 let e:(s.heap.update p f).get? p=bN { cls:=.type "list",data:=.seq its'.toArray n' }:=by
  rw[Heap.get?_update_self f ho (by rw[hf]<;>rfl),hf]
 show I.write (by rw[h];trivial) (.inl rfl) (λb u a q=>(Heap.get?_update_other _ _ (Ne.symm a)).trans q) (_,e) ?_;show(hz,its',n',r,e)
def b7O:V->V->V->Hp->(Hp->Prop)->Prop:=λo i v H Q=>∃p xs k j,o=.ref p/\i=.int k/\H p=bN (.lst xs)/\ixN xs.length k=bN j/\Q (upd H p (.lst (xs.set j v)))
def b0n:PSet X b7O:=by
 ext d s σ H o i v D F u Q I x z C h;let(p,y,k,j,rfl,rfl,g,B,q):=h;cases x;let(t,rfl):=z;let(b,n,r,f,A):=I.lst g;let(a,E,m,w):=a8i B;let e:=r.length;let G:=a4Q;let l:=
  I.lstUpd g f (a7i b n j u) (r.set C j) (by simp_all) s.toks
 by_cases h0:0<=k
 .let c:k.toNat=j:=by
   rw[i9 h0 w]at a;show bN.inj a
  show PySem.W.ki_setAt f h0 (by lia) (by simp_all) (c▸(_,l,q))
 .let c:(k+(b.toArray.size)).toNat=j:=by
   rw[ja (by lia) m]at a;rw[bJ,<- e];show bN.inj a
  show PySem.W.ki_setBack f (by lia) (by simp_all) (by lia) (c▸(_,l,q))
def a4W(lo hi:Option Int)(n:Nat):(gU lo hi ce n).1=((HT.sIx n 0 lo:Nat):Int)/\(gU lo hi ce n).2.1=((HT.sIx n n hi:Nat):Int)/\(gU lo hi ce n).2.2=1:=by
 show(?_,?_,rfl)
 .cases lo with
  |none=>simp[gU,HT.sIx]
  |some i=>
   simp only[gU,HT.sIx,dR]
   by_cases h:i<0
   .grind
   .grind
 .cases hi with
  |none=>simp[gU,HT.sIx]
  |some i=>
   simp only[gU,HT.sIx,dR]
   by_cases h:i<0
   .grind
   .grind
def a39(its:List Value)(lo hi:Option Int):slicePick its.toArray lo hi ce=((its.drop (HT.sIx its.length 0 lo)).take (HT.sIx its.length its.length hi-HT.sIx its.length 0 lo)).toArray:=by
 let(a,c,b):=a4W lo hi its.toArray.size;unfold slicePick;rw[a,c,b];simp only[sliceRange_one,pick_run]<;>rfl
def rSlL(K:Fg):V->Option Int->Option Int->Hp->VK->Prop:=λx lo hi H Q=>∃a xs,x=.ref a/\SqL K H a xs/\∀p,H p=ce->Q (.ref p) (upd H p (.lst (cutV xs lo hi)))
def sl_list:SlR X (rSlL X.K):=by
 ext p s σ H x v u w d e y Q I m i n j h;let(a,c,rfl,k,q):=h;cases m;let(t,r,g,l):=I.list k;let f:=r.length;show("list",_,slot_list_getitem.lookup,g.isList.typeIs,?_);show wpAny_getItem_list_slice g.isList i n j .none (by simp) ?_ (by grind);rw[a39,<- f];show(.ref s.heap.objs.size,_,I.laid (λb z q=>Heap.get?_push_of_some _ q) (aN _) ?_,rfl,q _ (I.hok.fresh (aN _)));show(be (a2Y c d e) l,_,0,(r.drop _).take _,Heap.get?_push_size _ rfl)
def CallR.or(h:CallR X f r)(h':CallR X f r'):CallR X f (λxs H Q=>r xs H Q\/r' xs H Q):=by
 ext a s σ H c d Q I b q;let q||q:=q
 .show h a s σ H c d Q I b q
 .show h' a s σ H c d Q I b q
def tyV(K:Fg)(T:String)(x:V)(H:Hp):Prop:=match x with
 |.str _=>T="str"
 |.int _=>T="int"
 |.ref p=>(T="list"/\∃xs,SqL K H p xs)\/(T="tuple"/\∃o,K.lookup p=bN o/\o.cls=.type "tuple"/\o.dict=ce) \/
   (T="dict"/\((∃kvs,H p=bN (.dK kvs))\/(∃kvs,H p=bN (.dT kvs))\/∃ob kvs,H p=bN (.frz ob (.dK kvs))))\/(T="set"/\∃S n,H p=bN (.set S n))
 |_=>False
def b1P(I:Inv X pins σ H s)(r:RelV x v)(ty:tyV X.K T x H) :
  s.TypeIs v T/\∀a,v=.ref a->∃ob,s.heap.get? a=bN ob/\ob.dict=ce:=by
 cases x with
 |str z=>
  let(t,rfl):=r;cases (ty);show(hG s z t,λ_ e=>nomatch e)
 |int i=>
  let(t,rfl):=r;cases (ty);show(jd s i t,λ_ e=>nomatch e)
 |ref p=>
  cases r;let(rfl,xs,hq)||(rfl,o,hk,hc,f)||(rfl,hk)||(rfl,S,n,hk):=ty
  .let(h,_,g,_):=I.list hq;show(g.isList.typeIs,λa e=>?_);cases e;let(o,n,e,c,f,_):=g;show(o,e,f)
  .show((o,I.kIn p o hk,hc),λa e=>?_);cases e;show(o,I.kIn _ o hk,f)
  .let z:∃o,s.heap.get? p=bN o/\o.ExactDict:=by
    let(kvs,hk)||(kvs,hk)||(ob,kvs,hk):=hk
    .let(_,_,_,_,o,_,_,e,b,_):=I.hok p _ hk;show(o,e,b)
    .let(_,_,_,_,o,_,_,e,b,_):=I.hok p _ hk;show(o,e,b)
    .let(_,_,_,_,_,o,_,_,e,b,_):=I.hok p _ hk;show(o,e,b)
   let(o,e,b):=z;show((o,e,b.1),λa d=>?_);cases d;show(o,e,b.2.1)
  .let(o,_,_,_,e,b,_):=I.hok p _ hk;show((o,e,b.1),λa d=>?_);cases d;show(o,e,b.2.1)
 |_=>show aP ty
def tBM0(K:Fg)(T:String)(r:V->List V->Hp->VK->Prop)(to:TE):TE:=fun σ H Q=>to σ H λx H1=>tyV K T x H1/\r x [] H1 Q
def tBM(K:Fg)(T:String)(r:V->List V->Hp->VK->Prop)(to:TE)(t:TA):TE:=fun σ H Q=>to σ H λx H1=>tyV K T x H1/\t σ H1 λxs H2=>r x xs H2 Q
variable{o e:Expr}{to:TE}{t:TA}{name:Str}{cpos:Pos}{T id:String}{r:V->List V->Hp->VK->Prop}
def b5g(pa:iI T)(slot:Slot T name id)(hty:typeOf (.builtin id)=pure (.type "method_descriptor"))(hm:MtR X id r)(ho:PE X o to)
  (hbase:gQ o name X.env (eval o X.env)=eval o X.env:=by rfl) (hline:(apos.endLine==cpos.line)=cp:=by rfl):PE X (.Call (.Attribute o name apos) [] [] cpos) (tBM0 X.K T r to):=by
 ext a s σ H Q I h;show wpAny_Call_method0_late hbase hline (thn (ho a s σ H _ I h) λv g (x,d,c,b,i,e)=>?_);let(j,f):=b1P c b i;show(T,id,pa,slot,hty,j,f,Calls.callWith_builtin rfl (PySem.evalArgs_none (hm a g σ d x [] v [] Q c b .nil e)))
def b7P(pa:iI T)(slot:Slot T name id)(hty:typeOf (.builtin id)=pure (.type "method_descriptor"))(hm:MtR X id r)(ho:PE X o to)(ha:PA X (e::es) t)
  (hbase:gQ o name X.env (eval o X.env)=eval o X.env)
  (hfew:((backTo cpos (fP (e::es) X.env)).all (λx=>!x.1)&&(gH cpos (gI [] X.env)).all (λx=>x.1.isSome)
   && decide ((e::es).length+([]:List ik).length+(if ([]:List ik).isEmpty then 0 else 1)<30))=cp)
  (hline:(apos.endLine==cpos.line)=cp) (hs:fP (e::es) X.env=(js,eval e X.env,)::fP es X.env) (hplain:(backTo cpos (fP es X.env)).any (·.1)=js) :
  PE X (.Call (.Attribute o name apos) (e::es) [] cpos) (tBM X.K T r to t):=by
 ext a s σ H Q I h;show wpAny_Call_method_late hbase hfew hline rfl (thn (ho a s σ H _ I h) λv k (x,w,b,c,u,j)=>?_);let(g,n):=b1P b c u;show(T,id,pa,slot,hty,g,n,?_);let d:=ha cpos a k σ w _ b j;rw[hs]at d ⊢;show Calls.callWith_builtin (by change (js||(backTo cpos _).any _)=js;rw[hplain]<;>rfl) (Calls.evalArgs_plain (thn d λi m (q,l,y,f,p)=>hm a m σ l x q v i Q y c f p))
end
def MtM(X:Cx)(id:String)(r:V->List V->Hp->VK->Prop):Prop:=
 ∀(pins:List (Addr×Obj))(s:Shared)(σ:St)(H:Hp)(x:V)(xs:List V)(v:Value)(us:List Value)(Q:VK),Inv X pins σ H s->RelV x v->Vals xs us->r x xs H Q ->
  wpAny (model X.prog X.w) X.A (call (.builtin id) (v::us)) (EP X pins σ Q) X.xe s
def Vals.one:∀{x:V}{us:List Value},Vals [x] us->∃u,us=[u]/\RelV x u:=by
 ext x us h;cases h with
 |cons r h=>cases h;show(_,rfl,r)
def Vals.two:∀{x y:V}{us:List Value},Vals [x,y] us->∃u v,us=[u,v]/\RelV x u/\RelV y v:=by
 ext x y a h;cases h with
 |cons r h=>cases h with
  |cons q h=>cases h;show(_,_,rfl,r,q)
def Vals.zero:∀{us:List Value},Vals [] us->us=[]:=by
 ext us h;cases h;rfl
def Vals.dropLast(h:Vals xs us):Vals xs.dropLast us.dropLast:=by
 induction h with
 |nil=>show .nil
 |cons r t ih=>
  cases t with
  |nil=>show .nil
  |cons q t'=>show .cons r ih
theorem Vals.eraseIdx:∀{xs:List V}{us:List Value}(i:Nat),Vals xs us->Vals (xs.eraseIdx i) (us.eraseIdx i)
 |_,_,_,.nil=>.nil
 |_,_,0,.cons _ t=>t
 |_,_,i+1,.cons r t=>.cons r (Vals.eraseIdx i t)
def Vals.reverse(h:Vals xs us):Vals xs.reverse us.reverse:=by
 induction h with
 |nil=>show .nil
 |cons r t ih=>rw[cH,cH];show Vals.append ih (.cons r .nil)
theorem Vals.rep(h:Vals xs us):∀k:Nat,Vals (bg k xs).flatten (bg k us).flatten
 |0=>.nil
 |k+1=>by
  show Vals.append h (Vals.rep h k)
theorem a4X(its:List Value):∀(k:Nat)(acc:List Value),
  List.foldl (λx1 x2=>x1++x2) acc.toArray (bg k its.toArray)=(acc++(bg k its).flatten).toArray
 |0,acc=>by simp
 |k+1,acc=>by
  let e:acc.toArray++its.toArray=(acc++its).toArray:=by simp
  let a:(acc++its)++(bg k its).flatten=acc++(bg (k+1) its).flatten:=by
   rw[dr,cT,bA]
  rw[<- a,<- a4X its k (acc++its),<- e,dr,eR]
section
variable{σ:St}{l b:Addr}{xs ys:List V}
def Inv.lset{its its':List Value}(I:Inv X pins σ H s)(hH:H l=bN (.lst xs))
  (e:s.heap.get? l=bN { cls:=.type "list",data:=.seq its.toArray n }) (hf:f its.toArray=its'.toArray) (hv:Vals ys its') (hz:ys.length<=fL) :
  Inv X pins σ (upd H l (.lst ys)) { s with heap:=s.heap.update l (Obj.mapSeq f),toks:=t' }:=by
 let q:=PySem.IsL.update e f;rw[hf]at q;show I.write (hH▸trivial) (.inl rfl) (λc u a b=>(Heap.get?_update_other s.heap _ (Ne.symm a)).trans b) (_,q) ?_;show(hz,its',_,hv,q)
def Inv.lnew(I:Inv X pins σ H s)(hv:Vals ys its)(hz:ys.length<=fL) :
  Inv X pins σ (upd H s.heap.objs.size (.lst ys)) { s with heap:=s.heap.push { cls:=.type "list",data:=.seq its.toArray },toks:=t' }:=
 I.laid (λ_ _ q=>Heap.get?_push_of_some _ q) (aN _) (hz,its,0,hv,Heap.get?_push_size _ rfl)
def Inv.fresh(I:Inv X pins σ H s):H s.heap.objs.size=ce:=I.hok.fresh (aN _)
def Inv.lstM(I:Inv X pins σ H s)(hH:H l=bN (.lst xs)):xs.length<=fL/\∃(its:List Value)(n:Nat),Vals xs its/\xs.length=its.length/\s.heap.get? l=bN { cls:=.type "list",data:=.seq its.toArray n }:=by
 let(z,a,n,r,e):=I.hok l _ hH;show(z,a,n,r,r.length,e)
def a6r(h:n<=fL):fU.List.listTooLong n=js:=decide_eq_false (by lia)
end
def b24:V->List V->Hp->VK->Prop:=λx vs H Q=>∃l xs y,x=.ref l/\vs=[y]/\H l=bN (.lst xs)/\xs.length<fL/\Q .non (upd H l (.lst (xs++[y])))
def a4Y:MtM X "list.append" b24:=by
 ext c s σ H x k v o Q I f d h;let(l,j,y,rfl,rfl,b,i,q):=h;cases f;let(u,rfl,g):=d.one;let(z,a,n,r,m,e):=I.lstM b;show hU F.slot_list_append (_,e,rfl) F.entry_list_append (F.args_list_append_2 _ _) (PySem.list_append l a.toArray n u (by grind)) (e,?_);show(.non,_,I.lset b e (by simp) (r.append (.cons g .nil)) ?_,rfl,q);rw[aW,du]
 lia
def b25:V->List V->Hp->VK->Prop:=λx vs H Q=>∃l b xs zs,x=.ref l/\vs=[.ref b]/\H l=bN (.lst xs)/\H b=bN (.lst zs)/\xs.length+zs.length<=fL/\Q .non (upd H l (.lst (xs++zs)))
def a8k:MtM X "list.extend" b25:=by
 ext k s σ H x A v C Q I i j h;let(l,b,B,E,rfl,rfl,f,t,G,q):=h;cases i;let(u,rfl,p):=j.one;cases p;let(z,c,n,r,D,e):=I.lstM f;let(J,a,w,m,y,o):=I.lstM t;let g:c.toArray.size+a.toArray.size<=sizeLine:=by grind
 let d:¬ (!c.toArray.isEmpty&&fU.List.listTooLong (c.toArray.size+a.toArray.size))=cp:=by
  rw[a6r g,dv];show bE
 show hU F.slot_list_extend (_,e,rfl) F.entry_list_extend (F.args_list_extend_2 _ _)
  (AutoSeq1.list_extend_list_list_0 l c.toArray n b a.toArray w d (by grind) (by lia)) (e,o,?_)
 show(.non,_,I.lset f e (by simp) (r.append m) ?_,rfl,q);rw[aW];cbv
def b5h:V->List V->Hp->VK->Prop:=λx vs H Q=>∃l xs,x=.ref l/\vs=[]/\H l=bN (.lst xs)/\Q .non (upd H l (.lst []))
def b0o:MtM X "list.clear" b5h:=by
 ext f s σ H x i v m Q I d g h;let(l,k,rfl,rfl,c,q):=h;cases d;let b:=g.zero;subst b;let(z,a,n,r,j,e):=I.lstM c;show hU F.slot_list_clear (_,e,rfl) F.entry_list_clear (F.args_list_clear_1 _) (AutoSeq1.list_clear_list_0 l a.toArray n (by grind)) (e,?_);show(.non,_,I.lset c e rfl .nil (bo _),rfl,q)
def rCat:R2:=λx y H Q=>∃l b xs zs,x=.ref l/\y=.ref b/\H l=bN (.lst xs)/\H b=bN (.lst zs)/\xs.length+zs.length<=fL/\∀p,H p=ce->Q (.ref p) (upd H p (.lst (xs++zs)))
def b5i:OpR X (fV .Add) rCat:=by
 ext i s σ H x y v u Q I f k h;let(l,b,C,w,rfl,rfl,m,d,A,q):=h;cases f;cases k;let(z,c,n,r,t,e):=I.lstM m;let(B,a,D,o,p,g):=I.lstM d;show PySem.P.add_list e g ?_ (by grind);let j:c.toArray++a.toArray=(c++a).toArray:=by simp
 rw[j];show(.ref _,_,I.lnew (r.append o) (by grind),rfl,q _ I.fresh)
def rRep:R2:=λx y H Q=>∃l k xs,x=.ref l/\y=.int k/\H l=bN (.lst xs)/\-(2 ^ 63)<=k/\k<2 ^ 63/\xs.length*k.toNat<=fL /\
 ∀p,H p=ce->Q (.ref p) (upd H p (.lst (bg k.toNat xs).flatten))
def b26{α:Type}(xs:List α)(k:Nat):(bg k xs).flatten.length=k*xs.length:=by simp
def b5j:OpR X (fV .Mult) rRep:=by
 ext A s σ H x y v u Q I G w h;let(l,k,M,rfl,rfl,L,D,C,p,q):=h;cases G;let(t,rfl):=w;let(z,b,n,r,J,e):=I.lstM L;let g:b.toArray.size*k.toNat<=sizeLine:=by simp_all
 let d:¬ b.toArray.size*k.toNat > (2 ^ 63-1) / 8:=by
  let:fL<=(2 ^ 63-1) / 8:=by decide
  cbv
 let j:¬ (!fU.List.listFitsIndex k)=cp:=by
  rw[fitsIndex_both D C];show bE
 let c:¬ fU.List.listTooLong (b.toArray.size*k.toNat)=cp:=by
  rw[a6r g];show bE
 let i:List.foldl (λf o=>f++o) #[] (bg (if b.toArray.isEmpty=cp then 0 else k.toNat) b.toArray)=(bg k.toNat b).flatten.toArray:=by
  let B:=λm=>by
   let:=a4X b m []
   rw[cA]at this;show this
  rw[B];cases b with
  |nil=>simp
  |cons a r'=>rw[if_neg (by simp)]
 show wpAny_binaryOp_repeat_ref (by simp) (_,e,rfl) (λE=>jd E k t) noFill_list_mul F.fills_int_mul F.slot_int_rmul repeat_list F.slot_int_index.lookup
  (hU F.slot_int_rmul (jd s k t) F.entry_int_rmul (F.args_int_rmul_2 _ _) (int___rmul___int_list k t l b.toArray n)
   (e,rfl,(_,e,rfl),hU F.slot_list_mul (_,e,rfl) F.entry_list_mul (F.args_list_mul_2 _ _) (AutoListH.list___mul___list_int_3 l b.toArray n k t j d c) (e,?_)))
 rw[i];show(.ref _,_,I.lnew (r.rep k.toNat) (by rw[b26,Nat.mul_comm];show p),rfl,q _ I.fresh)
namespace Att
open PySem PySem.W PySem.Calls PyProof.Rows
def a2Z:∀(ns:List Int)(vs:List Value),WellAll jt h vs (ns.map WData.int)->iq vs ns:=by
 ext c
 induction c with
 |nil=>
  ext d w;cases w;show .nil
 |cons n c ih=>
  ext d w;cases w with
  |cons a b=>
   cases a;show .cons _ _ (ih _ b)
def a8l{l:OpenLaw}(hn:l.most=bN n)
  (hpre:l.row.toRowW.claim.pre args=cp) (hwl:WellAll jt h vals args) :
  ∃a vs ns,vals=[Value.ref a]/\args=[WData.list (ns.map WData.int)]/\h.get? a=bN { cls:=.type "list",data:=.seq vs.toArray }/\iq vs ns/\ns.length<=n:=by
 let i:=(pre_splitW hpre).1;let g:l.pre.holds [] { args:=args }=cp:=(pre_splitW hpre).2;let(d,r,rfl,j,m):=hasAllW_cons i;obtain rfl:=hasAllW_nil m;let(p,rfl,o):=hasW_list j;let(b,rfl):=items_int o;let f:b.length<=n:=by
  let c:(WTm.not (.lt (.lit (.int n)) (.len (.arg 0)))).holds [] { args:=[.list (b.map .int)] }=cp:=by
   let c:=(holds_andW g).1;rw[hn]at c;show c
  let e:=condW_of c (w_not (w_lt w_lit (w_len_list (w_arg rfl))))
  first
   | (rw[decide_eq_true k]at e;show absurd e (by simp))
   | (simp at e;cbv)
 cases hwl with
 |cons w1 w2=>
  cases w2;cases w1 with
  |list ho hall=>show(_,_,b,rfl,rfl,ho,a2Z b _ hall,f)
def a8m(l:OpenLaw)(args:List WData):l.row.toRowW.claim.post args (.bool cp) args=cp:=
 postW_of
  (show WShape.has [] _ .bool=cp by first |rfl |decide |simp)
  (w_eq_bool (w_res rfl) w_lit) rfl
def attach_call{l:OpenLaw}
  (hn:l.most=bN n) (hdf:d.params.defaults=[])
  (call:∀(w:World)(s₀ sj:Shared)(mg mb:Str->Option Value)(fa:Addr)(o:Obj)(pm cd doc:Value)(a:Addr)(vs:List Value)(ns:List Int),
   Ground q loose [] XP w s₀ mg mb sj.heap->YP w sj.heap ->
   sj.heap.get? fa=bN o->o.data=.func (docDef d.name d.params d.body d.scope pm cd doc)->sj.heap.CodeRec cd d.name->mg d.name=bN (.ref fa) ->
   sj.heap.get? a=bN { cls:=.type "list",data:=.seq vs.toArray }->iq vs ns->ns.length<=n->sj.gens=#[] ->
   gG (model l.prog w) gX (.call (.ref fa) ([.ref a],[])) (λr s'=>r=.ok (.ret (.bool cp))/\OldK sj.heap s'.heap/\s'.os=sj.os/\gr s'.gens) sj) :
  WalkO q loose XP YP l.row.toRowW d [] (λf vs=>PySem.call f vs):=by
 ext w C s D y G Y x o F v i Q H L B k h j N u J U c A S m T;obtain rfl:Q=.none:=Dflts.none h hdf;obtain rfl:H=.none:=Dflts.noKw h;let(a,I,E,rfl,rfl,g,b,e):=a8l hn c m;show enter_call (ii (call w C s D y x o F v i a I E G Y L (fd_plain B) k j g b e N) λr V R=>?_);let(rfl,t,z,M):=R;show(.inl (.bool cp,.bool cp,[],rfl,λ_=>rfl,.bool cp,a8m l _,λ_=>(bO.nil,λ_ p=>(nomatch p))),t,z,M)
end Att
def a8n:∀{vs:List Value}{ns:List Int},iq vs ns->Vals (ns.map V.int) vs:=by ext z0 y0 x0;induction x0 with
 |nil=>show .nil
 |cons n t h I0=>show .cons (t,rfl) (I0)
def Only(H:Hp):Prop:=∀b,H b=ce\/∃o xs,H b=bN (.frz o (.lst xs))
abbrev KOf{K:Fg}{h:Heap}(_:K.In h):Fg:=K
noncomputable def a20(s:Stmt)(j:Nat):Stmt:=match s with
 |.ClassDef _ _ _ body _ _ _ _ _ _ _=>body.getD j (.Pass (0,0,0,0))
 |_=>.Pass (0,0,0,0)
noncomputable def a1B(s:Stmt):Arguments:=match s with
 |.FunctionDef _ a _ _ _ _ _ _ _ _=>a
 |_=>{ posonlyargs:=[],args:=[],vararg:=ce,kwonlyargs:=[],kw_defaults:=[],kwarg:=ce,defaults:=[] }
noncomputable def a0R(s:Stmt):List Stmt:=match s with
 |.FunctionDef _ _ b _ _ _ _ _ _ _=>b
 |_=>[]
noncomputable def a0i(s:Stmt):Scope:=match s with
 |.FunctionDef _ _ _ _ _ _ sc _ _ _=>sc
 |_=>{ kind:=.function,names:=[],isGenerator:=js,isCoroutine:=js }
abbrev CX0:CXT:=λ_ _ _ _ _ _=>False
abbrev E0:XK:=λ_ _ _=>False
def a8o:a2r CX0 X E0:=λ_ _ _ _ _ _ _ h=>h.elim
structure Fun (K:Fg) (x qual:Str) (st:Stmt) (f:Addr) (fd:f6):Prop where
 ex:∃(oc:Value)(od:Option Addr)(kV doc pm:Value)(an:Option Addr)(cdv ct:Value)(osl:Array (Option Value)),
  fd=PySem.W.fnOf x qual (a1B st) (a0R st) (a0i st) .none kV doc pm an cdv ct/\K.lookup f=bN (oc,od,.func fd,osl)/\PySem.W.codeIn K cdv qual=cp
 kp:PySem.W.keepIn K (.ref f)=cp
section
variable{K:Fg}{mg:Str->Option Value}{base:Heap}
def Fun.ok{st:Stmt}(F:Fun K x qual st f fd)(S:FnScope N ps (a0i st))(len:∀vs H Q E,jt vs H Q E->vs.length=ps.length)
  (hbody:∀(cdv:Value)(A:Around)(outer:List Env)(s:Shared)(H:Hp)(vs:List V)(Q:VK)(E:XK),Room k (A.deeper (envOfC qual (a0i st) s.heap.objs.size f cdv))->jt vs H Q E ->
   ∃t,PSs (cxOf CX0 P w K mg base N qual (a0i st) f cdv A outer s H E).nox (a0R st) t/\t { nx:=λ_ H'=>Q .non H',rt:=Q } (start N vs) H):FnOk P w K mg base CX0 (k+1) f fd ps jt:=by
 let(n,u,r,l,m,o,c,p,j,rfl,i,d):=F.ex;show b5d i d S len λA a s H g Q E e b=>?_;let(t,h,q):=hbody c A a s H g Q E e b;show(t,h.nox,q)
def Fun.binds{st:Stmt}(F:Fun K x qual st f fd)
  (h:∀(kV doc pm:Value)(an:Option Addr)(cdv ct:Value)(us:List Value),us.length=ps.length->g9 (PySem.W.fnOf x qual (a1B st) (a0R st) (a0i st) .none kV doc pm an cdv ct) (us,[])=pure (ps.zip us)):Binds K fd ps []:=by
 let(k,l,g,a,e,d,b,c,i,rfl,m,j):=F.ex;show .all (h g a e d b c)
def b1Q{st:Stmt}{kV doc pm cdv ct:Value}(l:K.lookup f=bN (oc,od,.func (PySem.W.fnOf x qual (a1B st) (a0R st) (a0i st) .none kV doc pm an cdv ct),osl))
  (c:PySem.W.codeIn K cdv qual=cp) (k:PySem.W.keepIn K (.ref f)=cp):Fun K x qual st f (PySem.W.fnOf x qual (a1B st) (a0R st) (a0i st) .none kV doc pm an cdv ct):=((oc,od,kV,doc,pm,an,cdv,ct,osl,rfl,l,c),k)
end
def a0q(h:n<=1000):n<sizeLine:=cj h (by decide)
def pv(i:Nat)(hN:X.N[i]?=bN x:=by rfl)(hv:Vis X.env.scope x:=by first |show cq rfl |show bV (cq rfl) |show bV (bV rfl))(hd:(x==("__debug__":Str))=js:=by decide)
  (hcd:(x==("__classdict__":Str))=js:=by decide):PE X (.Name x pos) (tVar i):=a7S hN hv hd hcd
def Same(H H':Hp):Prop:=∀b o,H b=bN o->H' b=bN o
def Same.refl(H:Hp):Same H H:=λ_ _ h=>h
def Same.trans(a:Same H H1)(b:Same H1 H2):Same H H2:=λc o h=>b c o (a c o h)
def Same.free(e:Same H H')(h:H' l=Option.none):H l=Option.none:=by
 cases q:H l with
 |none=>rfl
 |some o=>
  rw[e l o q]at h;cases h
def Same.seq{K:Fg}(e:Same H H')(h:SqL K H a xs):SqL K H' a xs:=by
 let(h||(o,h))||h:=h
 .show .inl (.inl (e _ _ h))
 .show .inl (.inr (o,e _ _ h))
 .show .inr h
section
variable{κ:Type}[DecidableEq κ]
noncomputable def valV(kvs:List (κ×V))(k:κ):Option V:=(kvs.find? λkv=>decide (kv.1=k)).map (·.2)
noncomputable def putK(kvs:List (κ×V))(k:κ)(v:V):List (κ×V):=
 if (kvs.any λkv=>decide (kv.1=k))=cp then kvs.map (λkv=>if kv.1=k then (kv.1,v,) else kv) else kvs++[(k,v,)]
noncomputable def b5k(kvs:List (κ×V))(k:κ):List (κ×V):=kvs.filter λkv=>decide (kv.1≠k)
def a4a{k:κ}(e:p.1=k):valV (p::r) k=bN p.2:=by simp[valV,bP,e]
def a4b{k:κ}(e:¬ p.1=k):valV (p::r) k=valV r k:=by simp[valV,bP,e]
def a6s(k:κ):∀kvs:List (κ×V),(kvs.any λkv=>decide (kv.1=k))=(valV kvs k).isSome:=by ext z0;induction z0 with
 |nil=>show rfl
 |cons p r I0=>
  rw[cI]
  by_cases e:p.1=k
  .simp only[a4a e,decide_eq_true e,Bool.true_or,Option.isSome_some]
  .rw[a4b e,decide_eq_false e,Bool.false_or];show I0
def a06(kvs:List (κ×V))(k:κ)(v:V):(putK kvs k v).length<=kvs.length+1:=by grind [putK]
def RelO.isSome_eq(r:RelO o u):o.isSome=u.isSome:=by
 cases o with
 |none=>cases u with
  |none=>rfl
  |some _=>show (r).elim
 |some _=>cases u with
  |none=>show (r).elim
  |some _=>rfl
def RelO.getD(r:RelO o u)(rd:RelV d d'):RelV (o.getD d) (u.getD d'):=by
 cases o with
 |none=>cases u with
  |none=>show rd
  |some _=>show (r).elim
 |some _=>cases u with
  |none=>show (r).elim
  |some _=>show r
noncomputable def KV.val(r:KV kvs vs)(k:κ):RelO (valV kvs k) (hZ vs k):=by
 induction r with
 |nil=>show True.intro
 | @cons p q ps qs h t ih=>
  let(c,d):=h
  by_cases e:p.1=k
  .let a:=c.symm.trans e;let b:hZ (q::qs) k=bN q.2:=by simp[hZ,a]
   rw[a4a e,b];show d
  .let a:¬ q.1=k:=λz=>e (c.trans z);let b:hZ (q::qs) k=hZ qs k:=by simp[hZ,a]
   rw[a4b e,b];show ih
noncomputable def KV.any(r:KV kvs vs)(k:κ):(kvs.any λkv=>decide (kv.1=k))=vs.any λkv=>decide (kv.1=k):=by
 induction r with
 |nil=>rfl
 |cons h t ih=>rw[cI,cI,ih,h.1]
def KV.repl(r:KV kvs vs)(k:κ)(ry:RelV y u) :
  KV (kvs.map λkv=>if kv.1=k then (kv.1,y,) else kv) (vs.map λkv=>if kv.1=k then (kv.1,u,) else kv):=by
 induction r with
 |nil=>show .nil
 | @cons p q ps qs h t ih=>
  rw[aV,aV];show .cons ?_ ih;let(a,b):=h
  by_cases e:p.1=k
  .rw[if_pos e,if_pos (a.symm.trans e)];show(a,ry)
  .rw[if_neg e,if_neg (λz=>e (a.trans z))];show(a,b)
noncomputable def KV.put(r:KV kvs vs)(k:κ)(ry:RelV y u):KV (putK kvs k y) (stored vs k u):=by
 unfold putK stored;rw[r.any k]
 by_cases e:(vs.any λkv=>decide (kv.1=k))=cp
 .rw[if_pos e,if_pos e];show r.repl k ry
 .rw[if_neg e,if_neg e];show Paired.snoc r (rfl,ry)
def KV.drop(r:KV kvs vs)(k:κ):KV (b5k kvs k) (without vs k):=by
 unfold b5k without
 induction r with
 |nil=>show .nil
 | @cons p q ps qs h t ih=>
  let(c,d):=h;rw[bv,bv]
  by_cases e:p.1=k
  .simp_all
  .let f:¬ q.1=k:=λz=>e (c.trans z);let a:decide (p.1≠k)=cp:=by simp[e]
   let b:decide (q.1≠k)=cp:=by simp[f]
   rw[if_pos a,if_pos b];show .cons (c,d) ih
theorem KV.keys{kvs:List (κ×V)}(r:KV kvs vs):kvs.map (·.1)=vs.map (·.1):=by
 induction r with
 |nil=>rfl
 |cons h t ih=>rw[aV,aV,ih,h.1]
def KV.length(r:KV kvs vs):kvs.length=vs.length:=Paired.length r
end
def a5M(r:RelV (kV k) u):(a0n P w).is k u=cp:=by
 match k,r with
 |.inl (bN i),r=>let(t,e):=(r);subst e;show a5G P w i t
 |.inl ce,r=>rw[r];rfl
 |.inr x,r=>let(t,e):=(r);subst e;show a5H P w x t
def a8p:∀{ks:List Key}{us:List Value},Vals (ks.map kV) us->ItemsAre (a0n P w) ks us:=by ext z0;induction z0 with
 |nil=>ext _ r;rw[bt]at r;cases r;show .nil
 |cons k ks I0=>
  ext _ r;cases r with
  |cons h t=>show .cons (a5M h) (I0 t)
abbrev KT(H:Hp):List (List Key×V)->List (List Key×Addr×Value)->Prop:=Paired λp q=>p.1=q.1/\H q.2.1=bN (.tup (p.1.map kV))/\RelV p.2 q.2.2
noncomputable def KT.val(r:KT H kvs xs)(k:List Key):RelO (valV kvs k) ((atKey xs k).map (·.2)):=by
 induction r with
 |nil=>show True.intro
 | @cons p q ps qs h t ih=>
  let(c,_,d):=h
  by_cases e:p.1=k
  .let a:=c.symm.trans e;let b:atKey (q::qs) k=bN q.2:=by simp[atKey,a]
   rw[a4a e,b];show d
  .let a:¬ q.1=k:=λz=>e (c.trans z);let b:atKey (q::qs) k=atKey qs k:=by simp[atKey,a]
   rw[a4b e,b];show ih
def KT.repl(r:KT H kvs xs)(k:List Key)(ry:RelV y u) :
  KT H (kvs.map λkv=>if kv.1=k then (kv.1,y,) else kv) (xs.map (putAt k u)):=by
 induction r with
 |nil=>show .nil
 | @cons p q ps qs h t ih=>
  rw[aV,aV];show .cons ?_ ih;let(a,b,c):=h;unfold putAt
  by_cases e:p.1=k
  .rw[if_pos e,if_pos (a.symm.trans e)];show(a,b,ry)
  .rw[if_neg e,if_neg (λz=>e (a.trans z))];show(a,b,c)
noncomputable def KT.put(r:KT H kvs xs)(k:List Key)(hb:H b=bN (.tup (k.map kV)))(ry:RelV y u) :
  KT H (putK kvs k y) (gJ xs k b u):=by
 let e:(kvs.any λa=>decide (a.1=k))=(atKey xs k).isSome:=by
  rw[a6s,(r.val k).isSome_eq,eS]
 unfold putK gJ;rw[e]
 by_cases q:(atKey xs k).isSome=cp
 .rw[if_pos q,if_pos q];show r.repl k ry
 .rw[if_neg q,if_neg q];show Paired.snoc r (rfl,hb,ry)
def KT.keeps(r:KT H kvs xs)(ht:∀b ys,H b=bN (.tup ys)->H' b=bN (.tup ys)):KT H' kvs xs:=
 Paired.mapP r λ_ _ z=>(z.1,ht _ _ z.2.1,z.2.2)
section
variable{h:Heap}{a:Addr}
def b5l(ok:HOk P w H h)(e:Rd H a u):ObjOk P w H h a u:=e.ok ok
def b0p(ok:HOk P w H h)(e:Rd H a (.dK kvs)):kvs.length<=fL/\(a==gj)=js/\∃vs,KV kvs vs/\h.DictOf (a0n P w) a vs:=
 b5l ok e
def b27(ok:HOk P w H h)(e:H a=bN (.dK kvs)):kvs.length<=fL/\(a==gj)=js/\∃vs,KV kvs vs/\h.DictOf (a0n P w) a vs:=b0p ok (.inl e)
def a3P(ok:HOk P w H h)(e:H a=bN (.tup (ks.map kV))):(gm (a0n P w)).is h ks a:=by
 let(_,b,r,o,d,c,n,f):=(ok a _ e);show(o,b.toArray,n,d,c,f,↑(a8p r))
def b0q(ok:HOk P w H h)(e:Rd H a (.dT kvs)):kvs.length<=fL/\(a==gj)=js /\
  ∃xs,KT H kvs xs/\h.DictOfH (gm (a0n P w)) a xs:=by
 let(z,y,g,r,o,d,s,j,k,f,n,i):=(b5l ok e);show(z,y,g,r,o,d,s,j,k,f,n,λx b=>?_,i);let c:∀{l:List _}{m:List _},KT H l m->∀x∈m,(gm (a0n P w)).is h x.1 x.2.1:=by
  ext l m q
  induction q with
  |nil=>ext x b;show nomatch b
  | @cons p q ps qs hq t ih=>
   ext x b;let e||b:=aT.mp b
   .subst e;show a3P ok (by simp_all)
   .show ih x b
 show c r x b
def b7Q(ok:HOk P w H h)(e:H a=bN (.dT kvs)):kvs.length<=fL/\(a==gj)=js /\
  ∃xs,KT H kvs xs/\h.DictOfH (gm (a0n P w)) a xs:=b0q ok (.inl e)
end
def DGet(H:Hp)(a:Addr)(y:V)(r:Option V):Prop:=
 (∃kvs k,Rd H a (.dK kvs)/\y=kV k/\r=valV kvs k)\/∃kvs k b,Rd H a (.dT kvs)/\y=.ref b/\H b=bN (.tup (k.map kV))/\r=valV kvs k
def DPut(H:Hp)(a:Addr)(y v:V)(H':Hp):Prop:=
 (∃kvs k,H a=bN (.dK kvs)/\y=kV k/\kvs.length<fL/\H'=upd H a (.dK (putK kvs k v))) \/
 ∃kvs k b,H a=bN (.dT kvs)/\y=.ref b/\H b=bN (.tup (k.map kV))/\kvs.length<fL/\H'=upd H a (.dT (putK kvs k v))
def DGet.k{k:Key}(e:H a=bN (.dK kvs)):DGet H a (kV k) (valV kvs k):=.inl (kvs,k,.inl e,rfl,rfl)
def DGet.t{k:List Key}(e:H a=bN (.dT kvs))(eb:H b=bN (.tup (k.map kV))):DGet H a (.ref b) (valV kvs k):=.inr (kvs,k,b,.inl e,rfl,eb,rfl)
def DPut.k{k:Key}(e:H a=bN (.dK kvs))(hl:kvs.length<fL):DPut H a (kV k) v (upd H a (.dK (putK kvs k v))):=.inl (kvs,k,e,rfl,hl,rfl)
def DPut.t{k:List Key}(e:H a=bN (.dT kvs))(eb:H b=bN (.tup (k.map kV)))(hl:kvs.length<fL) :
  DPut H a (.ref b) v (upd H a (.dT (putK kvs k v))):=.inr (kvs,k,b,e,rfl,eb,hl,rfl)
section
variable{σ:St}{a:Addr}{y v:V}{u r:Value}{o:Option V}
def Inv.big(I:Inv X pins σ H s):gj<s.heap.objs.size:=by
 let h:=(I.mod.glob.keeps I.bk).lt;show dS (by decide) h
def b28(hu:A.units+1<cLine)(I:Inv X pins σ H s)(g:DGet H a y o)(ry:RelV y u)(h:∀s',Inv X pins σ H s'->Q (.bool (!o.isSome)) s') :
  wpAny (model X.prog X.w) A (fR .NotIn u (.ref a)) Q E s:=by
 let(kvs,k,e,ey,l)||(kvs,k,b,e,ey,eb,l):=g
 .subst ey;let(z,f,i,c,d):=b0p I.hok e;show wpAny_notIn_of (a5M ry) f d.mapOf ?_;rw[<- (c.val k).isSome_eq,<- l];show h _ (I.tok _)
 .subst ey;cases (ry);let(z,f,j,c,d):=b0q I.hok e;show wpAny_notIn_heap (iu hu) (a3P I.hok eb) f d ?_;let q:=(c.val k).isSome_eq;rw[eS]at q;rw[<- q,<- l];show h _ (I.tok _)
def a8q(I:Inv X pins σ H s)(mu:Mut (H a))(hs:Heap.SameBut a s.heap h')(he:∃q,h'.get? a=bN q)(new:ObjOk X.prog X.w (upd H a ob) h' a ob) :
  Inv X pins σ (upd H a ob) { s with heap:=h',toks:=t' }:=
 I.write mu (.inl rfl) (λb q c z=>(hs.2 b c).trans z) he new
def b5m(z:kvs.length<=fL)(hd:(a==gj)=js)(rel:KV kvs vs)(dd:h'.DictOf (a0n P w) a vs) :
  ObjOk P w H' h' a (.dK kvs):=(z,hd,vs,rel,dd)
def a8r(hu:A.units+1<cLine)(I:Inv X pins σ H s)(g:DPut H a y v H')(ry:RelV y u)(rv:RelV v r)(h:∀s',Inv X pins σ H' s'->Q () s') :
  wpAny (model X.prog X.w) A (iE (.ref a) u r) Q E s:=by
 let(kvs,k,e,ey,l,eH)||(kvs,k,b,e,ey,eb,l,eH):=g
 .subst ey eH;let(z,m,F,d,p):=b27 I.hok e;let o:F.length<=sizeLine:=d.length▸z;let n:(putK kvs k v).length<=sizeLine:=by let:=a06 kvs k v;lia
  show wpAny_setItem_pairs (a5M ry) p λx f j=>h _ ?_;let L:∃q,x.get? a=bN q:=by let(q,_,_,i,_):=f;show(q,i)
  show a8q I (e▸True.intro) j L (b5m n m (d.put k rv) f)
 .subst ey eH;cases (ry);let(z,m,D,d,p):=b7Q I.hok e;let o:D.length<=sizeLine:=(Paired.length d)▸z;let n:(putK kvs k v).length<=sizeLine:=by let:=a06 kvs k v;lia
  show wpAny_setItem_heap (hsz:=o) (iu hu) (a3P I.hok eb) p λx f j=>h _ ?_;let(q,C,M,i,J,N,B,_,G):=f;show a8q I (e▸True.intro) j (q,i) (n,m,_,(d.put k eb rv).keeps λc R t=>?_,q,C,M,i,J,N,B,G);rw[a0b (b7t t e (λz=>nomatch z))];show t
end
def a4c(h:Heap)(hb:gj<h.objs.size):ObjOk P w H (h.push { cls:=.type "dict",data:=.dict #[] }) h.objs.size (.dK []):=
 (bo _,beq_eq_false_iff_ne.mpr (Ne.symm (aZ hb)),[],.nil,Heap.DictOf.new h)
def b5n:TE:=λ_ H Q=>∀p,H p=ce->Q (.ref p) (upd H p (.dK []))
def b0r:PE X (.Dict [] [] pos) b5n:=λb s σ H Q I h=>
 wpAny_Dict_empty (.ref s.heap.objs.size,_,I.laid (λ_ _ q=>Heap.get?_push_of_some _ q) (aN _) (a4c s.heap I.big),rfl,h _ (I.hok.fresh (aN _)))
noncomputable def b5o(kvs more:List (Key×V)):List (Key×V):=more.foldl (λacc kv=>putK acc kv.1 kv.2) kvs
def KV.merge:∀{more:List (Key×V)}{rs:List (Key×Value)}{kvs:List (Key×V)}{vs:List (Key×Value)},KV more rs->KV kvs vs->KV (b5o kvs more) (merged vs rs):=by
 ext d f a b r
 induction r generalizing a b with
 |nil=>ext q;show q
 | @cons p q ps qs h t ih=>
  ext c;let e:KV (putK a p.1 p.2) (stored b q.1 q.2):=by
   let:=c.put p.1 h.2
   rw[<- h.1];show this
  show ih e
section
variable{σ:St}{a:Addr}{y d:V}{u r:Value}{o:Option V}
def b5p(hu:A.units+1<cLine)(I:Inv X pins σ H s)(g:DGet H a y o)(ry:RelV y u)(h:∀w' s',Inv X pins σ H s'->RelV (o.getD .non) w'->Q w' s') :
  wpAny (model X.prog X.w) A (call (.builtin "dict.get") [.ref a,u]) Q E s:=by
 let(kvs,k,e,ey,l)||(kvs,k,b,e,ey,eb,l):=g
 .subst ey;let(z,f,j,d,c):=b0p I.hok e;show iJ PySem.F.slot_dict_get c.typeIs PySem.F.entry_dict_get (PySem.F.args_dict_get_2 _ _) (meets_dict_get _ a (a5M ry) f) (_,c.mapOf,h _ _ (I.tok _) ?_);rw[l];show (d.val k).getD rfl
 .subst ey;cases (ry);let(z,f,i,d,c):=b0q I.hok e;show iJ PySem.F.slot_dict_get c.typeIs PySem.F.entry_dict_get (PySem.F.args_dict_get_2 _ _) (meetsH_dict_get _ a b f) (iu hu,k,i,a3P I.hok eb,c,h _ _ (I.tok _) ?_);rw[l];show (d.val k).getD rfl
def b5q(hu:A.units+1<cLine)(I:Inv X pins σ H s)(g:DGet H a y o)(ry:RelV y u)(rd:RelV d r)(h:∀w' s',Inv X pins σ H s'->RelV (o.getD d) w'->Q w' s') :
  wpAny (model X.prog X.w) A (call (.builtin "dict.get") [.ref a,u,r]) Q E s:=by
 let(kvs,k,e,ey,l)||(kvs,k,b,e,ey,eb,l):=g
 .subst ey;let(z,i,m,f,c):=b0p I.hok e;show iJ PySem.F.slot_dict_get c.typeIs PySem.F.entry_dict_get (PySem.F.args_dict_get_3 _ _ _) (meets_dict_get_default _ a (a5M ry) i r) (_,c.mapOf,h _ _ (I.tok _) ?_);rw[l];show (f.val k).getD rd
 .subst ey;cases (ry);let(z,i,j,f,c):=b0q I.hok e;show iJ PySem.F.slot_dict_get c.typeIs PySem.F.entry_dict_get (PySem.F.args_dict_get_3 _ _ _) (meetsH_dict_get_default _ a b i r) (iu hu,k,j,a3P I.hok eb,c,h _ _ (I.tok _) ?_);rw[l];show (f.val k).getD rd
end
noncomputable def a2c(cap:List (Option Nat))(σ:St):St:=cap.map λo=>o.bind λj=>(σ[j]?).join
def a07:St->St->Prop
 |[],[]=>True
 |none::a,_::b=>a07 a b
 |some x::a,y::b=>y=bN x/\a07 a b
 |_,_=>False
theorem a2d:∀{a b:St},a07 a b->a.length=b.length/\∀(i:Nat) v,a[i]?=bN (bN v)->b[i]?=bN (bN v)
 |[],[],_=>(rfl,λi v h=>by simp at h)
 |none::a,y::b,h=>by
  let c:=a2d (b:=b) h;show(by simp[c.1],λi v e=>?_);cases i with
  |zero=>simp at e
  |succ i=>o_head c.2 i v (by simp_all)
 |some x::a,y::b,h=>by
  let(d,h):=(h);let c:=a2d (b:=b) h;show(by simp[c.1],λi v e=>?_);cases i with
  |zero=>rw[d];o_head e
  |succ i=>o_head c.2 i v ↑e
 |[],_::_,h=>aP h
 |none::_,[],h=>aP h
 |some _::_,[],h=>aP h
theorem a1l:∀a:St,a07 a a
 |[]=>True.intro
 |none::a=>a1l a
 |some _::a=>(rfl,a1l a)
noncomputable def capB(N:List Str)(so sc:Scope)(N':List Str)(cap:List (Option Nat)):Bool:=
 decide (sc.kind=.function)&&decide N'.Nodup&&decide (cap.length=N'.length)&&(sc.names.all λy=>decide (y.2≠.cell)) &&
 (sc.names.all λy=>decide (y.2=.local->sc.names.lookup y.1=bN .local)) &&
 (sc.names.all λy=>decide (y.2=.free->so.names.lookup y.1=bN .cell\/so.names.lookup y.1=bN .free)) &&
 ((N'.zip cap).all λy=>match y.2 with |none=>cp |some j=>decide (N[j]?=bN y.1)&&decide (sc.names.lookup y.1=bN .free))
structure CapOk (N:List Str) (so sc:Scope) (N':List Str) (cap:List (Option Nat)):Prop where
 kind:sc.kind=.function
 nd:N'.Nodup
 len:cap.length=N'.length
 nocell:∀y∈sc.names,y.2≠.cell
 nms:∀y∈sc.names,y.2=.local->sc.names.lookup y.1=bN .local
 fre:∀y∈sc.names,y.2=.free->so.names.lookup y.1=bN .cell\/so.names.lookup y.1=bN .free
 cap:∀(i:Nat) x j,N'[i]?=bN x->cap[i]?=bN (bN j)->N[j]?=bN x/\sc.names.lookup x=bN .free
def a8s(h:capB N so sc N' cap=cp):CapOk N so sc N' cap:=by
 unfold capB at h;simp only[bW,decide_eq_true_eq,cB]at h;let((((((f,k),d),g),b),l),e):=h;show(f,k,d,g,b,l,λi x j c a=>?_);let m:(N'.zip cap)[i]?=bN (x,bN j,):=by rw[List.getElem?_zip_eq_some];show(c,a)
 o_head (e (x,bN j,) (bp m))
structure Lk (fr:List Addr) (ex:Addr->Prop) (h h':Heap):Prop where
 keep:∀b o,h.get? b=bN o->b∉fr->¬ ex b->h'.get? b=bN o
 slot:∀b o,h.get? b=bN o->¬ ex b->∃sl,h'.get? b=bN { o with slots:=sl }
 size:h.objs.size<=h'.objs.size
def Lk.refl{fr:List Addr}{ex:Addr->Prop}{h:Heap}:Lk fr ex h h:=(λ_ _ q _ _=>q,λ_ o q _=>(o.slots,q),aN _)
def Lk.trans{fr:List Addr}{ex ex2:Addr->Prop}{h h1 h2:Heap}(a:Lk fr ex h h1)(b:Lk fr ex2 h1 h2)(i:∀x,ex2 x->ex x\/h.objs.size<=x):Lk fr ex h h2:=by
 let n:∀{x o},h.get? x=bN o->¬ ex x->¬ ex2 x:=λ{x o} q n z=>by
  let z||z:=i x z
  .show n z
  .show absurd (Heap.lt_size q) (Nat.not_lt.mpr z)
 show(λx o q f z=>b.keep x o (a.keep x o q f z) f (n q z),λx o q z=>?_,be a.size b.size);let(sl,e):=a.slot x o q z;let(sl2,e2):=b.slot x _ e (n q z);show(sl2,e2)
theorem Lk.funs(k:Lk fr ex h h'):∀{l:List Env},(∀b∈frs l,¬ ex b)->h.FunFrames base l->h'.FunFrames base l
 |[],_,_=>True.intro
 |env::rest,hx,(hk,(L,o,hf,hn,ho,hd),hr)=>by
  let a:L∈frs (env::rest):=by change L∈(env::rest).filterMap _;rw[bD,hf];show .head _
  let(d,e):=k.slot L o ho (hx L a);show(hk,(L,_,hf,hn,e,hd),k.funs (λb c=>hx b (by change b∈(env::rest).filterMap _;rw[bD,hf];show .tail _ c)) hr)
def FlyT(e:Addr)(cls:Value)(T:Addr)(fl:Value)(h:Heap):Prop:=∃oe vs oT ts,h.get? e=bN oe/\(oe.cls=cls/\oe.dict=ce)/\oe.data=.fields vs/\vs[1]?=bN (.ref T)/\T≠e/\h.get? T=bN oT/\oT.data=.fields ts/\ts[3]?=bN fl
section
variable{M:Model}{e T:Addr}{cls fl:Value}{Q:Unit->Shared->Prop}
def FlyT.field{Q:Value->Shared->Prop}(h:FlyT e cls T fl s.heap)(q:Q (.ref T) s):wpAny M A (field (.ref e) 1) Q E s:=by
 let(_,_,_,_,a,_,b,c,_):=h;show im a b c q
def FlyT.mark{Q:Value->Shared->Prop}(h:FlyT e cls T fl s.heap)(q:Q fl s):wpAny M A (PySem.field (.ref T) 3) Q E s:=by
 let(_,_,_,_,_,_,_,_,_,a,c,b):=h;show im a c b q
end
def Un.lk(u:Un fs ex0 H0 H h0 h)(v:Lk fr ex h h')(hf:∀b∈fr,b∈fs\/h0.get? b=ce)(hx:∀b,ex b->b∈ex0\/h0.get? b=ce):Un fs ex0 H0 H h0 h':=by
 let g:∀{b o},h0.get? b=bN o->b∉ex0->¬ ex b:=λ{b o} q n z=>by
  let z||z:=hx b z
  .grind
  .grind
 show(λb o q n c a=>?_,λb o q n c a=>?_,u.free,λb o q a=>?_,u.tups,u.frzs,u.tbls)
 .show v.keep b o (u.keep b o q n c a) (λz=>?_) (g q a);let z||z:=hf b z
  .grind
  .grind
 .let(j,f):=u.slot b o q n c a;let(d,e):=v.slot b _ f (g q a);show(d,e)
 .let(i,f):=u.there b o q a;let(d,e):=v.slot b _ f (g q a);show(_,e)
def Un.gone(u:Un fs ex H0 H h0 h)(n:h.get? b=ce):b∈ex\/h0.get? b=ce:=by
 cases q:h0.get? b with
 |none=>show .inr rfl
 |some o=>
  by_cases c:b∈ex
  .show .inl c
  .let(a,e):=u.there b o q c;rw[n]at e;cases e
def ObjOk.is(x:ObjOk P w H h a o):∃ob,h.get? a=bN ob:=by
 cases o with
 |lst xs=>let(_,_,_,_,e):=x;show(_,e)
 |tup xs=>let(_,_,_,b,e,_):=x;show(_,e)
 |dK kvs=>let(_,_,_,_,o,_,_,e,_):=x;show(_,e)
 |dT kvs=>let(_,_,_,_,o,_,_,e,_):=x;show(_,e)
 |set S n=>let(o,_,_,_,e,_):=x;show(_,e)
 |ins C dx fs=>let(_,_,_,e,_):=x;show(_,e)
 |own y=>let(_,e):=x;show(_,e)
 |xd fs=>let(_,(_,_,_,e,_),_):=x;show(_,e)
 |rng lo hi=>let(_,_,_,e):=x;show(_,e)
 |frz b u=>let(e,_):=x;show(_,e)
 |tbl ps=>show(_,x)
 |met f y=>show(_,x)
 |ext φ=>let(_,(_,e),_):=x;show(_,e)
def HOk.gone(x:HOk P w H h)(n:h.get? a=ce):H a=ce:=by
 cases q:H a with
 |none=>rfl
 |some u=>let(b,e):=(x a u q).is;rw[n]at e;cases e
def HOk.lk(x:HOk P w H h)(l:Lk fr ex h h')(hf:∀b∈fr,H b=ce)(he:∀b,ex b->H b=ce):HOk P w H h':=λa o q=>
 (x a o q).stay (λb u c r=>by
  let d:H b≠ce:=by
   let rfl||c:=c
   .simp_all
   .simp_all
  show l.keep b u r (λz=>d (hf b z)) λz=>d (he b z)) (λ_ q=>q) λ_ _ q=>q
structure Fly (N:Addr->Prop) (H:Hp) (fl:Value) (e:Addr) (cls:Value) (h:Heap):Prop where
 at_:∃T,FlyT e cls T fl h/\N T/\H T=ce
 old:N e
 free:H e=ce
def CXx(P:fO)(w:World):CXT:=λouter H s E ev s'=>∃e C H',ev=.ref e/\s'.os=s.os/\gr s'.gens/\Un (frs outer) [] H H' s.heap s'.heap/\HOk P w H' s'.heap/\Fly (λb=>s.heap.get? b=ce) H' .none e (.ref C) s'.heap/\E (.ref C) ce H'
structure TKs (H H':Hp):Prop where
 tup:∀b xs,H b=bN (.tup xs)->H' b=bN (.tup xs)
 frz:∀b o u,H b=bN (.frz o u)->H' b=bN (.frz o u)
def since(H:Hp)(E:XK):XK:=λc d H'=>TKs H H'->E c d H'
structure Outs (X:Cx) (E:XK):Prop where
 xe:∀ev s',wpAny (model X.prog X.w) X.A (leaving X.env ev) (λ_ s''=>CXx X.prog X.w X.outer X.H₀ X.s₀ E ev s'') (λe' s''=>CXx X.prog X.w X.outer X.H₀ X.s₀ E e' s'') s'->X.xe ev s'
 stk:X.stack=X.env::X.outer
 frm:X.env.frame=bN X.env.locals
 ex:X.ex=[]
def Outs.of{P:fO}{w:World}{K:Fg}{mg:Str->Option Value}{base:Heap}{N:List Str}{qual:Str}{scope:Scope}{f:Addr}{cd:Value}{A:Around}{outer:List Env}{s:Shared}{H:Hp}{E:XK}:Outs (cxOf (CXx P w) P w K mg base N qual scope f cd A outer s H E) E:=(λ_ _ h=>h,rfl,rfl,rfl)
section
variable{E:XK}{σ:St}
def Outs.frames(O:Outs X E)(I:Inv X pins σ H s):X.A.frames=bN (X.env::X.outer):=by rw[<- O.stk];show I.ok.frames
def Outs.sub(O:Outs X E)(I:Inv X pins σ H s):∀b∈frs (X.env::X.outer),b∈X.fs\/X.s₀.heap.get? b=ce:=λb a=>by
 rw[<- O.stk]at a;let z||z:=aT.mp (I.stkSub b a)
 .rw[z];show .inr (Heap.get?_none_of_le I.ok.above)
 .show .inl z
def Outs.funs(O:Outs X E)(I:Inv X pins σ H s):s.heap.FunFrames X.base (X.env::X.outer):=by rw[<- O.stk];show I.stack
def Outs.free(O:Outs X E)(I:Inv X pins σ H s):∀b∈frs (X.env::X.outer),H b=ce:=by rw[<- O.stk];show I.stkFree
def Outs.base(O:Outs X E)(I:Inv X pins σ H s):Un X.fs [] X.H₀ H X.s₀.heap s.heap:=by let:=I.base;rw[O.ex]at this;show this
def Outs.fin(O:Outs X E)(I:Inv X pins σ H s){e C T:Addr}{ex:Addr->Prop}{h':Heap}(k:Lk (frs (X.env::X.outer)) ex s.heap h')(f:FlyT e (.ref C) T .none h')(hx:∀b,ex b->X.s₀.heap.get? b=ce/\H b=ce)(he:ex e)(hT:ex T\/s.heap.objs.size<=T)(q:since X.H₀ E (.ref C) ce H) :
  CXx X.prog X.w X.outer X.H₀ X.s₀ E (.ref e) { s with heap:=h' }:=
 (e,C,H,rfl,I.os,I.bare,(O.base I).lk k (O.sub I) (λb hb=>.inr (hx b hb).1),I.hok.lk k (O.free I) λb hb=>(hx b hb).2,((T,f,by
  let z||z:=hT
  .show hx T z
  .show(Heap.get?_none_of_le (be I.sz z),I.hok.fresh z)),(hx e he).1,(hx e he).2),q (I.base.tups,I.base.frzs))
end
def ExC(X:Cx)(E:XK)(C:Addr)(s:Shared)(H:Hp)(fp:List Addr)(ev:Value)(s':Shared):Prop:=
 ∃e Cl H',ev=.ref e/\s'.os=s.os/\gr s'.gens/\Un (frs X.stack) fp H H' s.heap s'.heap/\HOk X.prog X.w H' s'.heap/\Fly (λb=>b∈fp\/s.heap.get? b=ce) H' .none e (.ref Cl) s'.heap/\(∃m,s'.heap.Ns C m)/\H' C=ce/\C≠e/\E (.ref Cl) ce H'
def a4f(X:Cx)(EW:XK)(sc:Scope):Prop:=∀(pins:List (Addr×Obj))(σ:St)(H:Hp)(s:Shared)(C:Addr)(fp:List Addr)(use:Option (Value->Sem Unit))(Fin:Value->Shared->Prop)(acc:Value),Inv X pins σ H s->(∀b∈fp,FpOk X pins H b)->C=s.heap.objs.size ->
 ∀ev s',ExC X EW C s H fp ev s'->iy (model X.prog X.w) X.A (h7 sc (a0F X.env sc.names []) C X.env) (λe s''=>je (model X.prog X.w) X.A X.xe use Fin acc C (.error e) s'') ev s'
def a6t:a4f X (λ_ _ _=>False) sc:=by
 ext a σ H s C g d c b _ _ _ e f ⟨_,_,_,_,_,_,_,_,_,_,_,_,q⟩;show q.elim
noncomputable def cxC(X:Cx)(EW:XK)(N':List Str)(sc:Scope)(C:Addr)(s:Shared)(H:Hp)(fp:List Addr):Cx:=
 { X with N:=N',s₀:=s,H₀:=H,env:=h7 sc (a0F X.env sc.names []) C X.env,outer:=X.stack,stack:=X.stack,ex:=fp,fn:=λ_=>js,pn:=[],xe:=ExC X EW C s H fp }
def PIfs(X:Cx)(ifs:List Expr)(t:TT):Prop:=
 ∀(pins:List (Addr×Obj))(s:Shared)(σ:St)(H:Hp)(Q:Bool->Hp->Prop),Inv X pins σ H s->t σ H Q ->
  wpAny (model X.prog X.w) X.A (forIn ifs cp λc r=>if r=cp then do let ok <- isTrue c X.env (eval c X.env);pure (ForInStep.yield ok) else pure (ForInStep.yield r)) (TP X pins σ Q) X.xe s
def tTT:TT:=λ_ H Q=>Q cp H
def b0s:PIfs X [] tTT:=λ_ _ _ H _ I h=>wpAny_tests_nil (H,I,h)
def b0t(h:PT X c t):PIfs X [c] t:=λa s σ H Q I q=>wpAny_tests_one (h a s σ H Q I q)
def LcB(J:It)(cap:List (Option Nat))(g:TG)(tt:TT)(te:TE)(σ:St)(Q:VK)(D:Addr)(H1:Hp):Prop:=
 ∃W:Nat->Nat->List V->Hp->Prop,(∃m,W 0 m [] (upd H1 D (.lst [])))/\∀i m ys H2,W i m ys H2 ->
  (J.stop i H2/\Q (.ref D) H2) \/
  (J.go i H2/\∃N:List V->Hp->Prop,(∀ys' H',N ys' H'->∃m',m'<m/\W (i+1) m' ys' H')/\∀x H',J.yld i H2 x H' ->
   g x (a2c cap σ) H' fun σ2 H3=>a07 (a2c cap σ) σ2/\tt σ2 H3 λb H4=>if b=cp then te σ2 H4 λy H5=>∃zs,H5 D=bN (.lst zs)/\zs.length<fL/\N (zs++[y]) (upd H5 D (.lst (zs++[y]))) else N ys H4)
def tLC(wi:TI)(cap:List (Option Nat))(g:TG)(tt:TT)(te:TE):TE:=fun σ H Q=>wi σ H λJ H1=>∀D,H1 D=ce->LcB J cap g tt te σ Q D H1
structure CFree (X:Cx) (pins:List (Addr×Obj)) (H:Hp) (C:Addr):Prop where
 free:H C=ce
 loc:C≠X.env.locals
 old:X.s₀.heap.objs.size<=C
 cell:∀x c,X.env.cells.lookup x=bN c->c≠C
 pin:∀p∈X.pn++pins,p.1≠C
section
variable{σ:St}{N':List Str}{sc:Scope}{cap:List (Option Nat)}{C:Addr}{fp:List Addr}{EW:XK}
def a8t(I:Inv X pins σ H s)(ck:CapOk X.N X.env.scope sc N' cap):∀x∈sc.names,x.2=.free->∃c,X.env.cells.lookup x.1=bN c:=λx a b=>
 I.ok.has x.1 (ck.fre x a b)
def a21(I:Inv X pins σ H s)(ck:CapOk X.N X.env.scope sc N' cap)(h:(a0F X.env sc.names []).lookup x=bN c):X.env.cells.lookup x=bN c:=
 a4e sc.names [] (a8t I ck) (λy c h=>by simp at h) c h
def a8u(env:Env)(x:Str):(h7 sc (a0F X.env sc.names []) C env).kindOf x=(sc.names.lookup x).map λk=>if (k==fT.free&&env.scope.kind==.function&&env.kindOf x==bN .cell)=cp then fT.cell else k:=
 a3t sc.names
def a0Y{l:List (Str×fT)}(h:l.lookup x=bN k):(x,k,)∈l:=PySem.mem_of_lookup h
def b7R(I:Inv X pins σ H s)(ck:CapOk X.N X.env.scope sc N' cap)(hf:∀b∈fp,FpOk X pins H b)(hlt:∀b∈fp,b<s.heap.objs.size)(hC:C=s.heap.objs.size):(cxC X EW N' sc C s H fp).Ok:=by
 let g:∀{x:Str}{c:Addr},(a0F X.env sc.names []).lookup x=bN c->X.env.cells.lookup x=bN c:=λh=>a21 I ck h;show(I.ok.mod,ck.kind,I.ok.glob,I.ok.blt,by rw[hC];show aN _,λx y c j m=>I.ok.inj x y c (g j) (g m),λx n=>?_,λx c h _=>(by cases h),I.ok.hd,I.ok.frames,.inl rfl,λb a=>(?_,λx c h=>?_),I.bs,be I.ok.bsz I.sz,λb o e a=>?_,λb a l=>?_,I.stack,I.stkFree)
 .let d:(sc.names.lookup x).map (λk=>if (k==fT.free&&X.env.scope.kind==.function&&X.env.kindOf x==bN .cell)=cp then fT.cell else k)=bN .cell \/
    (sc.names.lookup x).map (λk=>if (k==fT.free&&X.env.scope.kind==.function&&X.env.kindOf x==bN .cell)=cp then fT.cell else k)=bN .free:=by
   rw[<- a8u X.env x];show n
  cases e:sc.names.lookup x with
  |none=>rw[e]at d;let z||z:=d<;>cases z
  |some k=>
   let i:=a0Y e;let f:k=.free:=by
    rw[e]at d
    by_cases f:k=.free
    .grind
    .let a:(k==fT.free)=js:=↑f
     simp only[cJ,a,bN.injEq]at d;let z||z:=d
     .show absurd z (ck.nocell _ i)
     .simp_all
   subst f;show a3Q sc.names [] i
 .change b≠C
  rw[hC];show aZ (hlt b a)
 .show (hf b a).2.2.2.2.1 x c (g h)
 .let(_,_,_,z,_):=hf b a;let z||z:=z
  .show I.ok.noex b o e z
  .show absurd (bB (Heap.lt_size e) (be I.ok.bsz z)) (cx _)
 .let z||z:=aT.mp (I.stkSub b l)
  .show (hf b a).2.1 z
  .show (hf b a).2.2.1 z
def b5r(I:Inv X pins σ H s)(ck:CapOk X.N X.env.scope sc N' cap)(hf:∀b∈fp,FpOk X pins H b)(hlt:∀b∈fp,b<s.heap.objs.size)(hC:C=s.heap.objs.size)
  (hn:hjv.Ns C jt) (hk:∀b o,s.heap.get? b=bN o->hjv.get? b=bN o):Inv (cxC X EW N' sc C s H fp) [] (a2c cap σ) H { s with heap:=hjv,toks:=t' }:=by
 show(b7R I ck hf hlt hC,rfl,I.bare,Un.kept hk,(jt,hn,λi x v M a S=>?_),λx c h=>?_,?_,λx c h=>I.freeC x c (a21 I ck h),λp D=>absurd (show p∈([]) from D) (by simp),I.hok.kept hk,?_)
 .let A:=M;unfold a2c at a;rw[aU]at a;cases ec:cap[i]? with
  |none=>rw[ec]at a;cases a
  |some o=>
   rw[ec]at a;cases o with
   |none=>simp at a
   |some j=>
    let d:(σ[j]?).join=bN v:=by simp_all
    let l:σ[j]?=bN (bN v):=by
     cases q:σ[j]? with
     |none=>rw[q]at d;cases d
     |some w=>rw[q]at d;rw[show w=bN v from d]
    let(J,n):=ck.cap i x j A ec;let f:=ck.fre _ (a0Y n) rfl;let(R,_,L):=I.loc;let(u,Q,B):=L j x v J l (.inr f);show(u,Q,.inr (?_,?_))
    .change (h7 sc _ C X.env).kindOf x=bN .cell\/(h7 sc _ C X.env).kindOf x=bN .free
     rw[a8u,n];simp only[cJ,beq_self_eq_true,bX]
     by_cases hc:(X.env.scope.kind==ScopeKind.function&&X.env.kindOf x==bN fT.cell)=cp
     .simp_all
     .rw[if_neg hc];show .inr rfl
    .let(E,g):=a3Q sc.names [] (a0Y n);let G:=a21 I ck g;let(k,_)||(_,c,ec',z):=B
     .let F:X.env.scope.names.lookup x=bN .local:=k;let e:=f;rw[F]at e;let q||q:=e<;>cases q
     .rw[G]at ec';cases ec';let(y,r,t):=z;show(E,g,y,hk _ _ r,t)
 .let(v,y,r,t):=I.cell x c (a21 I ck h);show(v,y,hk _ _ r,t)
 .change H C=ce
  rw[hC];show I.hok.fresh (aN _)
 .change (a2c cap σ).length=N'.length
  unfold a2c;rw[aM];show ck.len
def b29(I:Inv X pins σ H s)(hf:∀b∈fp,FpOk X pins H b)(J:Inv (cxC X EW N' sc C s H fp) pins' σ' H' s'):Inv X pins σ H' s':=
 I.call' J.os J.base J.hok J.bare λb a=>((hf b a).2.2.2.1,(hf b a).2.1,(hf b a).2.2.2.2.1,(hf b a).2.2.2.2.2)
def b0u(I:Inv X pins σ H s)(hC:C=s.heap.objs.size)(J:Inv (cxC X EW N' sc C s H fp) pins' σ' H' s'):CFree X pins H' C:=by
 show(J.free,by rw[hC];show dk I.lt,by rw[hC];show I.sz,λx c e z=>?_,λp a z=>(absurd (Heap.lt_size (I.pin p a).1) (by simp_all)))
 .let(v,q):=I.cell x c e;show absurd q.lt (by simp_all)
def CFree.after(F:CFree X pins H C)(I:Inv X pins σ H s)(k:∀b o,b≠C->s.heap.get? b=bN o->h'.get? b=bN o):Inv X pins σ H { s with heap:=h',toks:=t' }:=
 I.turned k F.free F.loc (.inr F.old) F.cell F.pin
end
section
variable{elt tg iter:Expr}{ifs:List Expr}{sc:Scope}{wi:TI}{g:TG}{tt:TT}{te:TE}{N':List Str}{cap:List (Option Nat)}{EW:XK}
def a8v(hc:X.calm=cp)(hE:a4f X EW sc)(ck:CapOk X.N X.env.scope sc N' cap)(hi:PI X tg iter wi)
    (hg:∀C s H fp,PG (cxC X EW N' sc C s H fp) tg g) (ht:∀C s H fp,PIfs (cxC X EW N' sc C s H fp) ifs tt) (he:∀C s H fp,PE (cxC X EW N' sc C s H fp) elt te)
    (hs:∀x,gO iter X.env x=pure x) {Fin:Value->Shared->Prop}
 (I:Inv X pins σ H s) (h:tLC wi cap g tt te σ H Q)
    (fin:∀D s' C m H',Inv X pins σ H' s'->Q (.ref D) H'->s'.heap.Ns C m->CFree X pins H' C->je (model X.prog X.w) X.A X.xe use Fin (.ref D) C (.ok .next) s') :
    wpAny (model X.prog X.w) X.A (comprehension (.ListComp elt [(tg,iter,ifs,0)] sc pos) sc X.env pos' (newList []) js (eval iter X.env) use) Fin X.xe s:=by
  show wpAny_comprehension_free rfl hs (a4d (a8t I ck)) ck.kind ck.nms ?_;show thn (hi pins s σ H _ I h) λv s1 h1=>thn h1 λitv j h2=>?_;let(it,f,tn,J,H2,e,I2,T,st2,f2,h2):=h2;subst e;let hD:=I2.hok.fresh (aN _);let(W,(m0,w0),turn):=h2 j.heap.objs.size hD;show wpAny_newObj_type ?_;let t:=I2.lnew (t':=j.toks) .nil (bo _);generalize hs3:({ j with heap:=j.heap.push { cls:=.type "list",data:=.seq ([]:List Value).toArray } }:Shared)=s3 at t;generalize hH3:upd H2 j.heap.objs.size (.lst [])=H3 at t w0;let ac:∀b∈f,b<j.heap.objs.size:=λb a=>by
    let(o,e,_):=T.obj _ _ st2 b a;show Heap.lt_size e
  let sz3:s3.heap.objs.size=j.heap.objs.size+1:=by rw[<- hs3];show Heap.size_push _ _
  let Y:∀b∈f,b<s3.heap.objs.size:=λb a=>by rw[sz3];show cU (ac b a)
  let B:∀b∈f,FpOk X pins H3 b:=λb a=>by
    show(?_,(f2 b a).2);rw[<- hH3,a0b (aZ (ac b a))];show (f2 b a).1
  let st3:tn 0 s3.heap:=T.keep _ _ _ st2 λb _ o e=>by rw[<- hs3];show Heap.get?_push_of_some _ e
  show wpAny_newFunctionEnv ck.nocell (by ext y hy;simp at hy) (λhjv hjj hjq=>?_) ck.kind;let hk:=λb o e=>hjq.extBut b o (aZ (Heap.lt_size e)) (Heap.get?_push_of_some _ e);let I4:=b5r (EW:=EW) (t':=s3.toks+([]:List (Str×Value)).length) t ck B Y rfl hjj hk;generalize hs4:({ s3 with heap:=hjv,toks:=s3.toks+([]:List (Str×Value)).length }:Shared)=s4 at I4 ⊢;let st4:tn 0 s4.heap:=T.keep _ _ _ st3 λb _ o e=>by rw[<- hs4];show hk b o e
  let G:∀{k:Hp}{l:List (Addr×Obj)},(∀p∈l,p.1∉f)->(∀b∈f,k b=ce)->∀b∈f,FpOk (cxC X EW N' sc s3.heap.objs.size s3 H3 f) l k b:=λ{k l} E hn b a=>
    (hn b a,aZ (Y b a),λz=>by
      let z||z:=aT.mp (t.stkSub b z)
      . show (B b a).2.1 z
      . show (B b a).2.2.1 z,.inl a,λx c e=>(B b a).2.2.2.2.1 x c (a21 t ck e),λp hp' z=>E p hp' (by rw[z];show a))
  let hx:=hE pins σ H3 s3 s3.heap.objs.size f use Fin (.ref j.heap.objs.size) t B rfl;let ab:gG (model X.prog X.w) X.A (.compLoop (.ListComp elt [(tg,iter,ifs,0)] sc pos) 0 (.ref it) (.ref j.heap.objs.size) (h7 sc (a0F X.env sc.names []) s3.heap.objs.size X.env))
      (je (model X.prog X.w) X.A X.xe use Fin (.ref j.heap.objs.size) s3.heap.objs.size) s4:=by
    show a1C (λn s'=>∃i ys σ' k,Inv (cxC X EW N' sc s3.heap.objs.size s3 H3 f) [] σ' k s'/\a07 (a2c cap σ) σ'/\tn i s'.heap/\(∀b∈f,k b=ce)/\W i n ys k) ?_ m0
      (0,[],a2c cap σ,H3,I4,a1l _,st4,λb a=>(B b a).1,w0)
    ext n s5 ⟨i,ys,σ5,H5,I5,k5,st5,fr5,w5⟩;let kk:=a2d k5;let I5:=I5.weak kk.1 kk.2;let(stop,q)||(go,N,hN,step):=turn i n ys H5 w5
    . show thn (T.done (cxC X EW N' sc s3.heap.objs.size s3 H3 f) rfl rfl rfl hc i [] s5 _ H5 _ I5 (G (λp E=>by cases E) fr5) st5 stop) λr s6 Y=>Y.elim λhr I6=>?_
      subst hr;let(m6,n6,_):=I6.loc;show fin _ s6 _ m6 H5 (b29 t B I6) q n6 (b0u t rfl I6)
    . show thn (T.item (cxC X EW N' sc s3.heap.objs.size s3 H3 f) rfl rfl rfl hc i [] s5 _ H5 _ I5 (G (λp E=>by cases E) fr5) st5 go) λr s6 Y=>Y.elim λu Y=>Y.elim λhr h6=>?_
      subst hr;show thn h6 λ_ s7 (x,H7,I7,r7,y7,aa,fr7)=>?_;let I7':=I7.pinned (G (λp E=>by cases E) fr7) (T.obj _ _ aa);let M:∀{σ9:St}{F:Hp}{S:Shared}{L:List V},Inv (cxC X EW N' sc s3.heap.objs.size s3 H3 f) ([]++a6o f s7.heap) σ9 F S->a07 (a2c cap σ) σ9->N L F ->
          ∃m,m<n/\∃i ys σ' k,Inv (cxC X EW N' sc s3.heap.objs.size s3 H3 f) [] σ' k S/\a07 (a2c cap σ) σ'/\tn i S.heap/\(∀b∈f,k b=ce)/\W i m ys k:=λ{σ9 F S L} U k9 n9=>by
        let(m',hm,w9):=hN L F n9;show(m',hm,i+1,L,σ9,F,U.unpinned,k9,T.keep _ _ _ aa λb a o e=>(U.pin (b,o,) (bQ _ (bQ _ (a1s a e)))).1,λb a=>?_,w9);let(o,e,d):=T.obj _ _ aa b a;show (U.pin (b,o,) (bQ _ (bQ _ (a1s a e)))).2.1
      show fY (hg _ _ _ _ _ s7 _ H7 x u _ I7' r7 (step x H7 y7)) (λ_ s8 (σ8,H8,I8,k8,q8)=>?_) hx;show fY (ht _ _ _ _ _ s8 σ8 H8 _ I8 q8) (λb S Y=>Y.elim λF Y=>Y.elim λU q9=>?_) hx;cases b with
      |false=>
        show M U k8 q9
      |true=>
        rw[if_pos rfl]at q9 ⊢;show fY (he _ _ _ _ _ S σ8 F _ U q9) (λy s10 (vy,H10,I10,r10,zs,hacc,hsz,q10)=>?_) hx;show fY (a4Y (X:=cxC X EW N' sc s3.heap.objs.size s3 H3 f) _ s10 σ8 H10 (.ref j.heap.objs.size) [vy] (.ref j.heap.objs.size) [y] (λ_ k=>N (zs++[vy]) k) I10 rfl (.cons r10 .nil) (_,zs,vy,rfl,rfl,hacc,hsz,q10)) (λ_ s11 (_,H11,I11,_,q11)=>?_) hx;show M I11 k8 q11
  show codeAny_compStart_list ab (T.self _ 0 _ _ _ st4 ab)
def b7S(hc:X.calm=cp)(hE:a4f X EW sc)(hNN:X.N=Nj)(hso:X.env.scope=so)(ck:capB Nj so sc N' cap=cp)(hi:PI X tg iter wi)
  (hg:∀C s H fp,PG (cxC X EW N' sc C s H fp) tg g) (ht:∀C s H fp,PIfs (cxC X EW N' sc C s H fp) ifs tt) (he:∀C s H fp,PE (cxC X EW N' sc C s H fp) elt te)
  (hs:∀x,gO iter X.env x=pure x:=by ext _;rfl):PE X (.ListComp elt [(tg,iter,ifs,0)] sc pos) (tLC wi cap g tt te):=by
 ext f s σ H Q I h;subst hNN hso;show a8v hc hE (a8s ck) hi hg ht he hs I h λD d C m i c q k F=>(m,k,λl a=>(.ref D,i,F.after c (λb o j e=>a.extBut b o j e),rfl,q))
def b0v(hN:X.N.Nodup)(hx:X.N[i]?=bN x)(hl:X.env.scope.names.lookup x=bN .local)(hc:X.calm=cp)(hE:a4f X EW sc)(hNN:X.N=Nj)(hso:X.env.scope=so)(ck:capB Nj so sc N' cap=cp)(hi:PI X tg iter wi)
  (hg:∀C s H fp,PG (cxC X EW N' sc C s H fp) tg g) (ht:∀C s H fp,PIfs (cxC X EW N' sc C s H fp) ifs tt) (he:∀C s H fp,PE (cxC X EW N' sc C s H fp) elt te)
  (hsw:gA (.ListComp elt [(tg,iter,ifs,0)] sc pos) (bN (.Name x pos')) spos.line X.env=pure cp)
  (hs:∀x,gO iter X.env x=pure x):PS X (.Assign [.Name x pos'] (.ListComp elt [(tg,iter,ifs,0)] sc pos) spos) (tAsg (tLC wi cap g tt te) (a7U i)):=by
 subst hNN hso;ext f s σ H D I h;rw[exec_Assign_Name_used _ _ _ _ hsw];show fK (iZ (fK (fK (fY (a8v hc hE (a8s ck) hi hg ht he hs I h λd c C m w t q E F=>?_) (λ_ c u=>fS (fS u)) λ_ _ e=>e))));show wpAny_assign_Name (a4P t hN hx (.inl hl) (v:=.ref d) rfl (λj n y=>?_) (.inr hl));let(a,p,r):=y;let l:C≠a:=by
  let z||z:=r
  .rw[z];show F.loc
  .show Ne.symm (F.cell _ _ z)
 show(m,E.sameBut p l,λG k=>(_,w,F.after n (λb o B e=>k.extBut b o B e),q))
end
mutual
def DV(H:Hp):PyData->V->Prop
 |.none,x=>x=.non
 |.bool b,x=>x=.bl b
 |.int i,x=>x=.int i
 |.str s,x=>x=.str s
 |.list ds,x=>∃a vs,x=.ref a/\H a=bN (.lst vs)/\DVs H ds vs
 |.tuple ds,x=>∃a vs,x=.ref a/\H a=bN (.tup vs)/\DVs H ds vs
 |.dict _,_=>False
def DVs(H:Hp):List PyData->List V->Prop
 |[],vs=>vs=[]
 |d::ds,vs=>∃v r,vs=v::r/\DV H d v/\DVs H ds r
end
mutual
theorem DV.reads{P:fO}{w:World}{H:Hp}{h:Heap}(ok:HOk P w H h):∀{d:PyData}{x:V}{u:Value},DV H d x->RelV x u->∃as,Reads h u d as
 |.none,x,u,q,r=>by
  unfold DV at q;subst q;cases (show u=Value.none from r);show(_,.none)
 |.bool b,x,u,q,r=>by
  unfold DV at q;subst q;cases (show u=Value.bool b from r);show(_,.bool b)
 |.int i,x,u,q,r=>by
  unfold DV at q;subst q;let(t,e):=(show ∃t,u=Value.int i t from r);subst e;show(_,.int i t)
 |.str s,x,u,q,r=>by
  unfold DV at q;subst q;let(t,e):=(show ∃t,u=Value.str s t from r);subst e;show(_,.str s t)
 |.list ds,x,u,q,r=>by
  unfold DV at q;let(a,vs,e,ha,q):=q;subst e;cases (show u=Value.ref a from r);let(_,its,n,rv,e):=ok a _ ha;let(as,rd):=DVs.reads ok q rv;show(_,.list e rfl rfl ↑rd)
 |.tuple ds,x,u,q,r=>by
  unfold DV at q;let(a,vs,e,ha,q):=q;subst e;cases (show u=Value.ref a from r);let(_,its,rv,o,e,c,n,d):=ok a _ ha;let(as,rd):=DVs.reads ok q rv;show(_,.tuple e c d ↑rd)
 |.dict _,x,u,q,r=>by unfold DV at q;show q.elim
theorem DVs.reads{P:fO}{w:World}{H:Hp}{h:Heap}(ok:HOk P w H h):∀{ds:List PyData}{vs:List V}{us:List Value},DVs H ds vs->Vals vs us->∃as,ReadsAll h us ds as
 |[],vs,us,q,r=>by
  unfold DVs at q;subst q;cases r;show(_,.nil)
 |d::ds,vs,us,q,r=>by
  unfold DVs at q;let(v,rr,e,q1,q2):=q;subst e;cases r with
  |cons r1 r2=>
   let(as,h1):=DV.reads ok q1 r1;let(bs,h2):=DVs.reads ok q2 r2;show(_,.cons h1 h2)
end
def rEqD:R2:=λx y H Q=>∃d e,DV H d x/\DV H e y/\SeqAt.shaped d=cp/\SeqAt.shaped e=cp/\Q (.bl (PyData.eqv d e)) H
def rNeD:R2:=λx y H Q=>∃d e,DV H d x/\DV H e y/\SeqAt.shaped d=cp/\SeqAt.shaped e=cp/\Q (.bl (!PyData.eqv d e)) H
def b5s(hu:X.A.units+66<cLine):OpR X (fR .Eq) rEqD:=by
 ext i s σ H x y v u Q I g k h;let(d,e,b,f,l,a,q):=h;let(m,j):=b.reads I.hok g;let(n,c):=f.reads I.hok k;show eq_dataH j c l a (by lia) (.bl _,H,I,rfl,q)
def b5t(hu:X.A.units+66<cLine):OpR X (fR .NotEq) rNeD:=by
 ext b s σ H x y v u Q I j c h;let(d,e,a,g,l,i,q):=h;let(n,f):=a.reads I.hok j;let(m,k):=g.reads I.hok c;show ne_dataH f k l i (by lia) (.bl _,H,I,rfl,q)
def rInD(neg:Bool):R2:=λx y H Q=>∃d p ds vs,DV H d x/\y=.ref p/\(H p=bN (.lst vs)\/H p=bN (.tup vs))/\DVs H ds vs/\SeqAt.shaped d=cp/\SeqAt.shaped (.list ds)=cp /\
 Q (.bl (if neg then !(ds.any λy=>PyData.eqv y d) else ds.any λy=>PyData.eqv y d)) H
def a8w(hu:X.A.units+66<cLine):OpR X (fR .NotIn) (rInD cp):=by
 ext r s σ H x y v u Q I o g h;let(d,p,a,n,z,e,b,j,m,w,q):=h;subst e;let(C,f):=z.reads I.hok o;let i:PyData.canLayAll0 a=cp:=by let:=SeqAt.canLay_of_shaped w;simpa[PyData.canLay0]using this
 let l:=SeqAt.canLay_of_shaped m;let t:=SeqAt.depth_of_shaped m;let k:X.A.units+1+min (PyData.depthAll a) d.depth<cLine:=by let:=eQ (PyData.depthAll a) d.depth;lia
 let b||b:=b
 .let(B,c):=(show DV H (.list a) _ by unfold DV;show(p,n,rfl,b,j)).reads I.hok g;show SeqAt.notIn_list_reads c f i l k (.bl _,H,I,rfl,q)
 .let(B,c):=(show DV H (.tuple a) _ by unfold DV;show(p,n,rfl,b,j)).reads I.hok g;show SeqAt.notIn_tuple_reads c f i l k (.bl _,H,I,rfl,q)
def b5u(_ j:Int):Prop:=0<j/\j<2 ^ 64
def b0w:OpR X (fV .FloorDiv) (rI b5u λi j=>.int (i / j)):=opI λi j _ _ _ _ _ a q=>by
 let c:(0:Int)<j:=a.1;let d:j<2 ^ 64:=a.2;show floordiv_int (by lia) ?_ (.inl (PyProof.noPylong_of_log2 ?_))
 .rw[Int.fdiv_eq_ediv_of_nonneg i (by lia)];show q
 .let b:j.natAbs<2 ^ 64:=by cbv
  let e:=(Nat.log2_lt (by lia)).mpr b
  lia
def rIsT(K:Fg):List V->Hp->VK->Prop:=λxs H Q=>∃x T t b,xs=[x,.ty T]/\TyOf K H x t/\PySem.W.kitOne K t (.type T)=bN b/\Q (.bl b) H
def b0x:CallR X (.builtin "isinstance") (rIsT X.K):=by
 ext c s σ H j k Q I r h;let(x,T,t,b,rfl,i,e,q):=h;let(u,g,rfl,f,a):=a77 r;cases (a);show a4S I f i e λd=>(.bl b,H,I.tok d,rfl,q)
section
variable{σ σ':St}
def Inv.lk(I:Inv X pins σ H s)(k:Lk (frs X.stack) ex s.heap h')(hx:∀b,ex b->X.s₀.heap.get? b=ce/\H b=ce/\(∀x c,X.env.cells.lookup x=bN c->c≠b)/\∀p∈X.pn++pins,p.1≠b)
  (hl:∃m,h'.Ns X.env.locals m/\∀(i:Nat)(x:Str)(v:V),X.N[i]?=bN x->σ'[i]?=bN (bN v)->Vis X.env.scope x->∃u,RelV v u/\Look X.env h' m x u) (hn:σ'.length=σ.length):Inv X pins σ' H { s with heap:=h',toks:=t' }:=by
 show(I.ok,I.os,I.bare,I.base.lk k (λb a=>?_) (λb a=>.inr (hx b a).1),hl,λx c e=>?_,I.free,I.freeC,λp g=>?_,I.hok.lk k I.stkFree λb a=>(hx b a).2.1,hn.trans I.len)
 .let z||z:=aT.mp (I.stkSub b a)
  .rw[z];show .inr (Heap.get?_none_of_le I.ok.above)
  .simp_all
 .let(v,o,l,n):=I.cell x c e;let(r,d):=k.slot c o l λz=>(hx c z).2.2.1 x c e rfl;show(v,_,d,n)
 .let(d,q,f,h,j):=I.pin p g;show(k.keep _ _ d (λz=>?_) (λz=>(hx _ z).2.2.2 p g rfl),q,f,h,j);let z||z:=aT.mp (I.stkSub _ z)
  .show f z
  .show h z
abbrev Cx.hnd(X:Cx)(e:Addr)(oe:Obj):Cx:={ X with A:=X.A.mark (bN (.ref e)),calm:=js,pn:=(e,oe,)::X.pn,xe:=λ_ _=>False }
noncomputable def Inv.hnd(I:Inv X pins σ H s)(h1:s.heap.get? e=bN oe)(h2:H e=ce)(h3:e≠X.env.locals)(h4:e∉X.fs)(h5:∀v,oe.data≠.cell v):Inv (X.hnd e oe) pins σ H s:=
 ((I.ok.mod,I.ok.kind,I.ok.glob,I.ok.blt,I.ok.above,I.ok.inj,I.ok.has,I.ok.cab,(λz=>nomatch z),I.ok.frames,I.ok.stk,I.ok.exf,I.ok.bs,I.ok.bsz,I.ok.noex,I.ok.exfs,I.ok.funs,I.ok.frf),I.os,I.bare,I.base,I.loc,I.cell,I.free,I.freeC,(λp a=>by
  let rfl||a:=aT.mp (a)
  .show(h1,h2,h3,h4,h5)
  .show I.pin p a),I.hok,I.len)
end
abbrev a2e(c:Addr)(q:Str):HO:=.ext λh=>h.CodeRec (.ref c) q
def TabO(H:Hp)(p:Pos)(q:Str)(ps:Array Value):Prop:=ps=#[]\/∃c oc,ps=#[rawInt p.line,rawInt p.col,.ref c]/\H c=bN (.frz oc (a2e c q))
def Tab(H:Hp)(P:Addr)(p:Pos)(q:Str):Prop:=∃ps,H P=bN (.tbl ps)/\TabO H p q ps
def Tab.stay(f:∀b o c,H b=bN (.frz o (a2e c q))->H' b=bN (.frz o (a2e c q)))(e:H' jt=H jt)(h:Tab H jt p q):Tab H' jt p q:=by
 let(a,g,h):=h;show(a,e.trans g,?_);let h||(c,oc,h,k):=h
 .show .inl h
 .show .inr (c,oc,h,f _ _ _ k)
inductive Z where
 |non |bl (b:Bool) |int (i:Int) |str (x:Str) |ref (a:Addr) |ty (n:String) |scr (a:Addr) (ns:List Int)
 |tup (ws:List Z)
mutual
def eqZ:Z->Z->Bool
 |.non,.non=>cp
 |.bl a,.bl b=>a==b
 |.int a,.int b=>decide (a=b)
 |.str a,.str b=>decide (a=b)
 |.ref a,.ref b=>decide (a=b)
 |.ty a,.ty b=>decide (a=b)
 |.scr a ns,.scr b ms=>decide (a=b)&&decide (ns=ms)
 |.tup a,.tup b=>eqZs a b
 |_,_=>js
def eqZs:List Z->List Z->Bool
 |[],[]=>cp
 |a::as,b::bs=>eqZ a b&&eqZs as bs
 |_,_=>js
end
def a3u{p:Prop}(h:js=cp):p:=absurd h bE
mutual
theorem a5O:∀x y:Z,eqZ x y=cp↔x=y
 |.tup a,y=>by
  cases y with
  |tup b=>show(λh=>congrArg _ ((a2K a b).mp h),λh=>(a2K a b).mpr (by cases h;rfl))
  |_=>show(λh=>a3u h,λh=>by cases h)
 |.non,y=>by
  cases y with
  |non=>show(λ_=>rfl,λ_=>rfl)
  |_=>show(λh=>a3u h,λh=>by cases h)
 |.bl a,y=>by
  cases y with
  |bl b=>show(λh=>congrArg _ (eq_of_beq h),λh=>by cases h;show beq_self_eq_true a)
  |_=>show(λh=>a3u h,λh=>by cases h)
 |.int a,y=>by
  cases y with
  |int b=>show(λh=>congrArg _ (of_decide_eq_true h),λh=>by cases h;show decide_eq_true rfl)
  |_=>show(λh=>a3u h,λh=>by cases h)
 |.str a,y=>by
  cases y with
  |str b=>show(λh=>congrArg _ (of_decide_eq_true h),λh=>by cases h;show decide_eq_true rfl)
  |_=>show(λh=>a3u h,λh=>by cases h)
 |.ref a,y=>by
  cases y with
  |ref b=>show(λh=>congrArg _ (of_decide_eq_true h),λh=>by cases h;show decide_eq_true rfl)
  |_=>show(λh=>a3u h,λh=>by cases h)
 |.ty a,y=>by
  cases y with
  |ty b=>show(λh=>congrArg _ (of_decide_eq_true h),λh=>by cases h;show decide_eq_true rfl)
  |_=>show(λh=>a3u h,λh=>by cases h)
 |.scr a ns,y=>by
  cases y with
  |scr b ms=>show(λh=>by
    let h:=dw.mp h;rw[of_decide_eq_true h.1,of_decide_eq_true h.2],λh=>by cases h;show dw.mpr (decide_eq_true rfl,decide_eq_true rfl))
  |_=>show(λh=>a3u h,λh=>by cases h)
theorem a2K:∀x y:List Z,eqZs x y=cp↔x=y
 |[],y=>by
  cases y with
  |nil=>show(λ_=>rfl,λ_=>rfl)
  |cons b bs=>show(λh=>a3u h,λh=>by cases h)
 |a::as,y=>by
  cases y with
  |nil=>show(λh=>a3u h,λh=>by cases h)
  |cons b bs=>show(λh=>by
    let h:=dw.mp h;rw[(a5O a b).mp h.1,(a2K as bs).mp h.2],λh=>by cases h;show dw.mpr ((a5O a a).mpr rfl,(a2K as as).mpr rfl))
end
instance:DecidableEq Z:=λx y=>decidable_of_iff _ (a5O x y)
section
variable{K:Fg}{H1 H2:Hp}{a p:Addr}{xs:List V}
def Fz(K:Fg)(H:Hp)(a:Addr)(xs:List V):Prop:=
 (∃o,H a=bN (.frz o (.lst xs)))\/∃(o:Obj)(its:Array Value)(n:Nat),K.lookup a=bN o/\o.cls=.type "list"/\o.dict=ce/\o.data=.seq its n/\its.size<=fL/\Vals xs its.toList
def Fz.sq(h:Fz K H a xs):SqL K H a xs:=by
 let(o,h)||h:=h
 .show .inl (.inr (o,h))
 .show .inr h
def Fz.of(hO:Only H)(h:SqL K H a xs):Fz K H a xs:=by
 let(h||h)||h:=h
 .let z||(o,ys,z):=hO a
  .grind
  .simp_all
 .show .inl h
 .show .inr h
structure TW (K:Fg) (H H':Hp):Prop where
 tup:∀a xs,H a=bN (.tup xs)->H' a=bN (.tup xs)
 frz:∀a xs,Fz K H a xs->Fz K H' a xs
structure TK (K:Fg) (H H':Hp):Prop where
 tup:∀a xs,H a=bN (.tup xs)->H' a=bN (.tup xs)
 frz:∀a xs,Fz K H a xs->Fz K H' a xs
 frd:∀a o u,H a=bN (.frz o u)->H' a=bN (.frz o u)
def TK.refl(K:Fg)(H:Hp):TK K H H:=(λ_ _ h=>h,λ_ _ h=>h,λ_ _ _ h=>h)
def TK.trans(a:TK K H H1)(b:TK K H1 H2):TK K H H2:=(λc d h=>b.tup c d (a.tup c d h),λc d h=>b.frz c d (a.frz c d h),λc o u h=>b.frd c o u (a.frd c o u h))
noncomputable def TK.upd(h:∀xs,H p≠bN (.tup xs))(h2:∀o u,H p≠bN (.frz o u)):TK K H (L2.upd H p o):=by
 show(λc b e=>?_,λc b e=>?_,λc a u e=>by rw[a0b (by ext rfl;show h2 _ _ e)];show e)
 .rw[a0b (by ext rfl;show h _ e)];show e
 .let(a,e)||e:=e
  .show .inl (a,by rw[a0b (by ext rfl;show h2 _ _ e)];show e)
  .show .inr e
def TK.new(h:H p=ce):TK K H (L2.upd H p o):=.upd (λa e=>by rw[h]at e;cases e) (λo u e=>by rw[h]at e;cases e)
def TK.lst{o:HO}(h:H p=bN (.lst xs)):TK K H (L2.upd H p o):=by simp_all[upd]
def TK.dK{o:HO}{kvs:List (Key×V)}(h:H p=bN (.dK kvs)):TK K H (L2.upd H p o):=by simp_all[upd]
def TK.ins{o:HO}{C dx:Addr}{fs:List (Str×V)}(h:H p=bN (.ins C dx fs)):TK K H (L2.upd H p o):=by simp_all[upd]
end
mutual
def Rep(K:Fg)(H:Hp):Z->V->Prop
 |.non,v=>v=.non
 |.bl b,v=>v=.bl b
 |.int i,v=>v=.int i
 |.str x,v=>v=.str x
 |.ref a,v=>v=.ref a
 |.ty n,v=>v=.ty n
 |.scr a ns,v=>v=.ref a/\Fz K H a (ns.map V.int)
 |.tup ws,v=>∃a vs,v=.ref a/\H a=bN (.tup vs)/\Reps K H ws vs
def Reps(K:Fg)(H:Hp):List Z->List V->Prop
 |[],vs=>vs=[]
 |w::ws,vs=>∃v r,vs=v::r/\Rep K H w v/\Reps K H ws r
end
section
variable{K:Fg}
def a0v:Rep K H .non v=(v=.non):=by unfold Rep;rfl
def a0t:Rep K H (.bl b) v=(v=.bl b):=by unfold Rep;rfl
def a0g:Rep K H (.int i) v=(v=.int i):=by unfold Rep;rfl
def a0r:Rep K H (.str x) v=(v=.str x):=by unfold Rep;rfl
def a0l:Rep K H (.ref a) v=(v=.ref a):=by unfold Rep;rfl
def a8x:Rep K H (.ty n) v=(v=.ty n):=by unfold Rep;rfl
def a2f:Rep K H (.scr a ns) v=(v=.ref a/\Fz K H a (ns.map V.int)):=by unfold Rep;rfl
def a0S:Rep K H (.tup ws) v=(∃a vs,v=.ref a/\H a=bN (.tup vs)/\Reps K H ws vs):=by conv=>lhs;unfold Rep
def a0f:Reps K H [] vs=(vs=[]):=by unfold Reps;rfl
def a0H:Reps K H (jt::ws) vs=(∃v r,vs=v::r/\Rep K H jt v/\Reps K H ws r):=by conv=>lhs;unfold Reps
mutual
theorem Rep.monoW(t:TW K H H'):∀(w:Z)(v:V),Rep K H w v->Rep K H' w v
 |.tup ws,v,h=>by
  rw[a0S]at h ⊢;let(a,vs,e,h,r):=h;show(a,vs,e,t.tup _ _ h,Reps.monoW t ws vs r)
 |.scr a ns,v,h=>by
  rw[a2f]at h ⊢;show(h.1,t.frz _ _ h.2)
 |.non,v,h=>by rw[a0v]at h ⊢;show h
 |.bl _,v,h=>by rw[a0t]at h ⊢;show h
 |.int _,v,h=>by rw[a0g]at h ⊢;show h
 |.str _,v,h=>by rw[a0r]at h ⊢;show h
 |.ref _,v,h=>by rw[a0l]at h ⊢;show h
 |.ty _,v,h=>by rw[a8x]at h ⊢;show h
theorem Reps.monoW(t:TW K H H'):∀(ws:List Z)(vs:List V),Reps K H ws vs->Reps K H' ws vs
 |[],vs,h=>by rw[a0f]at h ⊢;show h
 |w::ws,vs,h=>by
  rw[a0H]at h ⊢;let(v,r,e,h1,h2):=h;show(v,r,e,Rep.monoW t w v h1,Reps.monoW t ws r h2)
end
def Rep.mono(t:TK K H H')(w:Z)(v:V)(h:Rep K H w v):Rep K H' w v:=Rep.monoW (t.tup,t.frz) w v h
def Reps.mono(t:TK K H H')(ws:List Z)(vs:List V)(h:Reps K H ws vs):Reps K H' ws vs:=Reps.monoW (t.tup,t.frz) ws vs h
def Reps.cons{w:Z}{v:V}{ws:List Z}{vs:List V}(a:Rep K H w v)(b:Reps K H ws vs):Reps K H (w::ws) (v::vs):=by rw[a0H];show(v,vs,rfl,a,b)
def Reps.nil:Reps K H [] []:=by rw[a0f]
def Reps.length:∀{ws:List Z}{vs:List V},Reps K H ws vs->ws.length=vs.length:=by ext z0;induction z0 with
 |nil=>ext vs h;rw[a0f]at h;rw[h];rfl
 |cons w ws I0=>
  ext vs h;let(v,r,e,_,a):=h;rw[e,aS,aS,I0 a]
def Reps.get:∀{ws:List Z}{vs:List V}{i:Nat}{w:Z},Reps K H ws vs->ws[i]?=bN w->∃v,vs[i]?=bN v/\Rep K H w v:=by ext z0;induction z0 with
 |nil=>ext _ _ _ _ e;simp at e
 |cons w ws I0=>
  ext vs i x h e;let(v,r,rfl,b,a):=h;cases i with
  |zero=>simp at e;subst e;show(v,rfl,b)
  |succ i=>o_head I0 a (by simp_all)
def Reps.tog{i:Nat}(h:Reps K H ws vs)(e:vs[i]?=bN v):∃w,ws[i]?=bN w/\Rep K H w v:=by
 let c:=h.length;let a:i<ws.length:=by grind
 let(d,b,r):=h.get (bf a);rw[e]at b;cases b;show(_,bf a,r)
def Reps.append:∀{ws ws':List Z}{vs vs':List V},Reps K H ws vs->Reps K H ws' vs'->Reps K H (ws++ws') (vs++vs'):=by ext z0;induction z0 with
 |nil=>ext _ vs _ h h';rw[a0f]at h;subst h;show h'
 |cons w ws I0=>
  ext _ vs _ h h';let(v,r,rfl,a,b):=h;show .cons a (I0 b h')
theorem Reps.drop:∀{ws:List Z}{vs:List V}(n:Nat),Reps K H ws vs->Reps K H (ws.drop n) (vs.drop n)
 |[],vs,n,h=>by rw[a0f]at h;subst h;o_head Reps.nil
 |w::ws,vs,0,h=>h
 |w::ws,vs,n+1,h=>by
  let(v,r,rfl,b,a):=h;show Reps.drop n a
theorem Reps.take:∀{ws:List Z}{vs:List V}(n:Nat),Reps K H ws vs->Reps K H (ws.take n) (vs.take n)
 |[],vs,n,h=>by rw[a0f]at h;subst h;o_head Reps.nil
 |w::ws,vs,0,h=>↑Reps.nil
 |w::ws,vs,n+1,h=>by
  let(v,r,rfl,a,b):=h;show .cons a (Reps.take n b)
def Reps.set(r:Rep K H jt v):∀{ws:List Z}{vs:List V}(i:Nat),Reps K H ws vs->Reps K H (ws.set i jt) (vs.set i v):=by ext z0;induction z0 with
 |nil=>ext vs i h;rw[a0f]at h;subst h;o_head Reps.nil
 |cons x ws I0=>
  ext vs i h;let(y,s,rfl,b,a):=h;cases i with
  |zero=>show .cons r a
  |succ i=>show .cons b (I0 i a)
def Reps.reverse:∀{ws:List Z}{vs:List V},Reps K H ws vs->Reps K H ws.reverse vs.reverse:=by ext z0;induction z0 with
 |nil=>ext vs h;rw[a0f]at h;subst h;show Reps.nil
 |cons x ws I0=>
  ext vs h;let(y,s,rfl,b,a):=h;rw[cH,cH];show (I0 a).append (.cons b .nil)
def a4Z:∀(ns:List Int),Reps K H (ns.map Z.int) (ns.map V.int):=by ext z0;induction z0 with
 |nil=>show Reps.nil
 |cons n ns I0=>show .cons (by rw[a0g]) (I0)
def Reps.one(h:Reps K H [jt] vs):∃v,vs=[v]/\Rep K H jt v:=by
 let(v,r,rfl,b,a):=h;show(v,by rw[a],b)
def Reps.two(h:Reps K H [jt,w'] vs):∃v v',vs=[v,v']/\Rep K H jt v/\Rep K H w' v':=by
 let(v,r,rfl,c,a):=h;let(d,rfl,b):=a.one;show(v,d,rfl,c,b)
end
inductive O where
 |lst (ws:List Z)
 |dK (kvs:List (Key×Z))
 |ins (C dx:Addr) (fs:List (Str×Z))
 |dF (kvs:List (Key×Z))
 |dT (ks:List (List Key))
 |tab (p:Pos) (q:Str)
abbrev Hq:=Addr->Option O
noncomputable def put(G:Hq)(a:Addr)(o:O):Hq:=λb=>if b=a then bN o else G b
def a0a:put G a o a=bN o:=by unfold put;rw[if_pos rfl]
def a0h(h:b≠a):put G a o b=G b:=by unfold put;rw[if_neg h]
def a0Z:put (put G a o) a u=put G a u:=by
 funext b;unfold put;split<;>rfl
def a0x{G:Hq}(h:G a=bN o)(h':G b=ce):a≠b:=by
 ext e;subst e;rw[h]at h';cases h'
def a0e(h:G b=bN u)(n:G a=ce):put G a o b=bN u:=(a0h (a0x h n))▸h
def ROb(K:Fg)(H:Hp)(a:Addr):O->Prop
 |.lst ws=>∃vs,H a=bN (.lst vs)/\Reps K H ws vs
 |.dK kvs=>∃us,H a=bN (.dK us)/\us.map (·.1)=kvs.map (·.1)/\Reps K H (kvs.map (·.2)) (us.map (·.2))
 |.ins C dx fs=>∃gs,H a=bN (.ins C dx gs)/\gs.map (·.1)=fs.map (·.1)/\Reps K H (fs.map (·.2)) (gs.map (·.2))
 |.dF kvs=>∃o us,H a=bN (.frz o (.dK us))/\us.map (·.1)=kvs.map (·.1)/\Reps K H (kvs.map (·.2)) (us.map (·.2))
 |.dT ks=>∃us,H a=bN (.dT us)/\us.map (·.1)=ks
 |.tab p q=>Tab H a p q
def RH(K:Fg)(G:Hq)(H:Hp):Prop:=∀a o,G a=bN o->ROb K H a o
section
variable{K:Fg}{G:Hq}{a p:Addr}{o:O}{u:HO}
def ROb.some(h:ROb K H a o):∃u,H a=bN u:=by
 cases o with
 |lst ws=>let(b,e,_):=h;show(_,e)
 |dK kvs=>let(b,e,_):=h;show(_,e)
 |ins C dx fs=>let(b,e,_):=h;show(_,e)
 |dF kvs=>let(d,b,e,_):=h;show(_,e)
 |dT ks=>let(b,e,_):=h;show(_,e)
 |tab p q=>let(c,e,_):=h;show(_,e)
def ROb.stay(t:TK K H H')(e:H' a=H a)(h:ROb K H a o):ROb K H' a o:=by
 cases o with
 |lst ws=>let(d,q,r):=h;show(d,e.trans q,r.mono t)
 |dK kvs=>let(d,q,n,r):=h;show(d,e.trans q,n,r.mono t)
 |ins C dx fs=>let(d,q,n,r):=h;show(d,e.trans q,n,r.mono t)
 |dF kvs=>let(f,d,q,n,r):=h;show(f,d,e.trans q,n,r.mono t)
 |dT ks=>let(d,q,n):=h;show(d,e.trans q,n)
 |tab p q=>show Tab.stay (λb o c k=>t.frd b o _ k) e h
def RH.out(h:RH K G H)(e:H a=ce):G a=ce:=by
 cases q:G a with
 |none=>rfl
 |some o=>let(u,z):=(h a o q).some;rw[e]at z;cases z
def RH.hid(h:RH K G H)(e:H p=ce):RH K G (upd H p u):=λb o q=>
 (h b o q).stay (.new e) (a0b (by ext rfl;let(u,z):=(h _ o q).some;rw[e]at z;cases z))
def RH.set(h:RH K G H)(t:TK K H (upd H p u))(n:ROb K (upd H p u) p o):RH K (put G p o) (upd H p u):=λb a q=>by
 by_cases hb:b=p
 .subst hb;rw[a0a]at q;cases q;show n
 .rw[a0h hb]at q;show (h b a q).stay t (a0b hb)
end
abbrev S3:=List (Option Z)
abbrev K3:=Z->Hq->Prop
abbrev C3:=S3->Hq->Prop
abbrev E3:=S3->Hq->K3->Prop
abbrev T3:=S3->Hq->(Bool->Hq->Prop)->Prop
abbrev A3:=S3->Hq->(List Z->Hq->Prop)->Prop
abbrev X3:=C3->K3->C3->C3->S3->Hq->Prop
def ROp(K:Fg)(H:Hp)(ow:Option Z)(ov:Option V):Prop:=∀w,ow=bN w->∃v,ov=bN v/\Rep K H w v
def RSt(K:Fg)(H:Hp):S3->L2.St->Prop:=Paired (ROp K H)
section
variable{K:Fg}
def RSt.mono(t:TK K H H'):∀{σ:S3}{τ:L2.St},RSt K H σ τ->RSt K H' σ τ:=by ext z0 y0 x0;induction x0 with
 |nil=>show .nil
 |cons r s I0=>show .cons (λw e=>by let(v,q,h):=r w e;show(v,q,h.mono t)) (I0)
theorem RSt.get:∀{σ:S3}{τ:L2.St}{i:Nat}{w:Z},RSt K H σ τ->σ[i]?=bN (bN w)->∃v,τ[i]?=bN (bN v)/\Rep K H w v
 |_,_,_,_,.nil,e=>by simp at e
 |_,_,0,w,.cons r _,e=>by
  let(v,q,h):=r w ↑e;show(v,by rw[q];rfl,h)
 |_,_,i+1,w,.cons _ s,e=>by
  let(v,q,h):=RSt.get s ↑e;show(v,↑q,h)
theorem RSt.set(r:Rep K H jt v):∀{σ:S3}{τ:L2.St}(i:Nat),RSt K H σ τ->RSt K H (σ.set i (bN jt)) (τ.set i (bN v))
 |_,_,_,.nil=>.nil
 |_,_,0,.cons _ s=>.cons (λ_ e=>by cases e;show(v,rfl,r)) s
 |_,_,i+1,.cons q s=>.cons q (RSt.set r i s)
def RSt.length(h:RSt K H σ τ):σ.length=τ.length:=Paired.length h
def RSt.nones:∀n:Nat,RSt K H (bg n ce) (bg n ce):=by ext z0;induction z0 with
 |zero=>show .nil
 |succ n I0=>show .cons (λ_ e=>nomatch e) (I0)
def RSt.app:∀{σ σ':S3}{τ τ':L2.St},RSt K H σ τ->RSt K H σ' τ'->RSt K H (σ++σ') (τ++τ'):=by ext z0 y0 x0 w0 v0;induction v0 with
 |nil=>ext h;show h
 |cons r s I0=>ext h;show .cons r (I0 h)
def RSt.ofVals:∀{ws:List Z}{vs:List V},Reps K H ws vs->RSt K H (ws.map bN) (vs.map bN):=by ext z0;induction z0 with
 |nil=>ext vs h;rw[a0f]at h;subst h;show .nil
 |cons w ws I0=>
  ext vs h;let(v,r,rfl,b,a):=h;show .cons (λ_ e=>by cases e;show(v,rfl,b)) (I0 a)
end
noncomputable def a04(N:List Str)(ws:List Z):S3:=ws.map bN++bg (N.length-ws.length) ce
noncomputable def RSt.start{K:Fg}(h:Reps K H ws vs):RSt K H (a04 N ws) (L2.start N vs):=by
 unfold a04 L2.start;rw[h.length];show (RSt.ofVals h).app (RSt.nones _)
def UpV(K:Fg)(H:Hp)(R:K3)(Q:VK):Prop:=∀w G v H',R w G->Rep K H' w v->RH K G H'->TK K H H'->Q v H'
def UpB(K:Fg)(H:Hp)(R:Bool->Hq->Prop)(Q:Bool->Hp->Prop):Prop:=∀b G H',R b G->RH K G H'->TK K H H'->Q b H'
def UpA(K:Fg)(H:Hp)(R:List Z->Hq->Prop)(Q:List V->Hp->Prop):Prop:=∀ws G vs H',R ws G->Reps K H' ws vs->RH K G H'->TK K H H'->Q vs H'
def UpS(K:Fg)(H:Hp)(R:C3)(Q:L2.St->Hp->Prop):Prop:=∀σ G τ H',R σ G->RSt K H' σ τ->RH K G H'->TK K H H'->Q τ H'
section
variable{K:Fg}
def UpV.mono(h:UpV K H R Q)(t:TK K H H'):UpV K H' R Q:=λw G v b q r g a=>h w G v b q r g (t.trans a)
def UpB.mono(h:UpB K H R Q)(t:TK K H H'):UpB K H' R Q:=λw G b q g a=>h w G b q g (t.trans a)
def UpA.mono(h:UpA K H R Q)(t:TK K H H'):UpA K H' R Q:=λw G v b q r g a=>h w G v b q r g (t.trans a)
def UpS.mono(h:UpS K H R Q)(t:TK K H H'):UpS K H' R Q:=λw G v b q r g a=>h w G v b q r g (t.trans a)
end
def low(K:Fg)(t:E3):TE:=fun τ H Q=>∃σ G R,RSt K H σ τ/\RH K G H/\t σ G R/\UpV K H R Q
def low.un{K:Fg}{C:Prop}(z:low K t τ H Q)(f:∀σ G R,(RSt K H σ τ)->(RH K G H)->(t σ G R)->(UpV K H R Q)->C):C:=by let(σ,G,R,d,b,c,a):=z;show f _ _ _ d b c a
def lowT(K:Fg)(t:T3):TT:=fun τ H Q=>∃σ G R,RSt K H σ τ/\RH K G H/\t σ G R/\UpB K H R Q
def lowT.un{K:Fg}{C:Prop}(z:lowT K t τ H Q)(f:∀σ G R,(RSt K H σ τ)->(RH K G H)->(t σ G R)->(UpB K H R Q)->C):C:=by let(σ,G,R,b,a,d,c):=z;show f _ _ _ b a d c
def lowA(K:Fg)(t:A3):TA:=fun τ H Q=>∃σ G R,RSt K H σ τ/\RH K G H/\t σ G R/\UpA K H R Q
def lowA.un{K:Fg}{C:Prop}(z:lowA K t τ H Q)(f:∀σ G R,(RSt K H σ τ)->(RH K G H)->(t σ G R)->(UpA K H R Q)->C):C:=by let(σ,G,R,d,b,c,a):=z;show f _ _ _ d b c a
def lowS(K:Fg)(t:X3):TS:=λD τ H=>∃σ G nx rt bk ct,RSt K H σ τ/\RH K G H/\t nx rt bk ct σ G/\UpS K H nx D.nx/\UpV K H rt D.rt/\UpS K H bk D.bk/\UpS K H ct D.ct
def lowS.un{K:Fg}{C:Prop}(z:lowS K t D τ H)(f:∀σ G nx rt bk ct,(RSt K H σ τ)->(RH K G H)->(t nx rt bk ct σ G)->(UpS K H nx D.nx)->(UpV K H rt D.rt)->(UpS K H bk D.bk)->(UpS K H ct D.ct)->C):C:=by let(σ,G,k,j,l,i,h,a,g,b,c,d,e):=z;show f _ _ _ _ _ _ h a g b c d e
structure QE (X:Cx) (e:Expr) (t:E3):Prop where
 p:PE X e (low X.K t)
structure QT (X:Cx) (e:Expr) (t:T3):Prop where
 p:PT X e (lowT X.K t)
structure QW (X:Cx) (e:Expr) (t:T3):Prop where
 p:PW X e (lowT X.K t)
structure QA (X:Cx) (es:List Expr) (t:A3):Prop where
 p:PA X es (lowA X.K t)
structure QS (X:Cx) (st:Stmt) (t:X3):Prop where
 p:PS X st (lowS X.K t)
structure QSs (X:Cx) (st:List Stmt) (t:X3):Prop where
 p:PSs X st (lowS X.K t)
def QW.qt(h:QW X e t):QT X e t:=⟨PW.pt h.p⟩
section
variable{e:Expr}{st:Stmt}{sts:List Stmt}
def a0M(h:PE X e t')(i:∀σ H Q,t σ H Q->t' σ H Q):PE X e t:=λa s σ H Q I q=>h a s σ H Q I (i σ H Q q)
def a8y(h:PT X e t')(i:∀σ H Q,t σ H Q->t' σ H Q):PT X e t:=λa s σ H Q I q=>h a s σ H Q I (i σ H Q q)
def b5v(h:PW X e t')(i:∀σ H Q,t σ H Q->t' σ H Q):PW X e t:=λw a s σ H Q I q=>h w a s σ H Q I (i σ H Q q)
def b5w(h:PA X es t')(i:∀σ H Q,t σ H Q->t' σ H Q):PA X es t:=λb a s σ H Q I q=>h b a s σ H Q I (i σ H Q q)
def a1D(h:PS X st t')(i:∀D σ H,t D σ H->t' D σ H):PS X st t:=λa s σ H D I q=>h a s σ H D I (i D σ H q)
def a8z(h:PSs X sts t')(i:∀D σ H,t D σ H->t' D σ H):PSs X sts t:=λa s σ H D I q=>h a s σ H D I (i D σ H q)
end
abbrev R3:=Z->Z->Hq->K3->Prop
def low2(K:Fg)(r:R3):R2:=λx y H Q=>∃a b G R,Rep K H a x/\Rep K H b y/\RH K G H/\r a b G R/\UpV K H R Q
def low2.un{K:Fg}{C:Prop}(z:low2 K r x y H Q)(f:∀a b G R,(Rep K H a x)->(Rep K H b y)->(RH K G H)->(r a b G R)->(UpV K H R Q)->C):C:=by let(a,b,G,R,e,h,g,c,d):=z;show f _ _ _ _ e h g c d
def low1(K:Fg)(r:Z->Hq->K3->Prop):V->Hp->VK->Prop:=λx H Q=>∃a G R,Rep K H a x/\RH K G H/\r a G R/\UpV K H R Q
def low1.un{K:Fg}{C:Prop}(z:low1 K r x H Q)(f:∀a G R,(Rep K H a x)->(RH K G H)->(r a G R)->(UpV K H R Q)->C):C:=by let(a,G,R,c,e,d,b):=z;show f _ _ _ c e d b
def lowC(K:Fg)(r:List Z->Hq->K3->Prop):List V->Hp->VK->Prop:=λxs H Q=>∃ws G R,Reps K H ws xs/\RH K G H/\r ws G R/\UpV K H R Q
def lowC.un{K:Fg}{C:Prop}(z:lowC K r xs H Q)(f:∀ws G R,(Reps K H ws xs)->(RH K G H)->(r ws G R)->(UpV K H R Q)->C):C:=by let(e,G,R,b,d,c,a):=z;show f _ _ _ b d c a
def lowM(K:Fg)(r:Z->List Z->Hq->K3->Prop):V->List V->Hp->VK->Prop:=λx xs H Q=>∃w ws G R,Rep K H w x/\Reps K H ws xs/\RH K G H/\r w ws G R/\UpV K H R Q
def lowM.un{K:Fg}{C:Prop}(z:lowM K r x xs H Q)(f:∀w ws G R,(Rep K H w x)->(Reps K H ws xs)->(RH K G H)->(r w ws G R)->(UpV K H R Q)->C):C:=by let(w,g,G,R,a,d,e,b,c):=z;show f _ _ _ _ a d e b c
def OpQ(X:Cx)(f:Value->Value->Sem Value)(r:R3):Prop:=OpR X f (low2 X.K r)
def UnQ(X:Cx)(f:Value->Sem Value)(r:Z->Hq->K3->Prop):Prop:=UnR X f (low1 X.K r)
def a1m(X:Cx)(f:Value)(r:List Z->Hq->K3->Prop):Prop:=CallR X f (lowC X.K r)
def IxQ(X:Cx)(r:R3):Prop:=IxR X (low2 X.K r)
def MtQ(X:Cx)(id:String)(r:Z->List Z->Hq->K3->Prop):Prop:=MtR X id (lowM X.K r)
def a22(h:OpR X f r')(i:∀x y H Q,r x y H Q->r' x y H Q):OpR X f r:=λa s σ H x y v u Q I c b q=>h a s σ H x y v u Q I c b (i x y H Q q)
def b7T(h:UnR X f r')(i:∀x H Q,r x H Q->r' x H Q):UnR X f r:=λa s σ H x v Q I b q=>h a s σ H x v Q I b (i x H Q q)
def a0W(h:CallR X f r')(i:∀xs H Q,r xs H Q->r' xs H Q):CallR X f r:=λa s σ H b d Q I c q=>h a s σ H b d Q I c (i b H Q q)
def b5x(h:IxR X r')(i:∀x y H Q,r x y H Q->r' x y H Q):IxR X r:=λa b c s σ H x y v u Q I e d q=>h a b c s σ H x y v u Q I e d (i x y H Q q)
def a7j{id:String}(h:MtR X id r')(i:∀x xs H Q,r x xs H Q->r' x xs H Q):MtR X id r:=λa s σ H x b v e Q I d c q=>h a s σ H x b v e Q I d c (i x b H Q q)
def uVar(i:Nat):E3:=fun σ G R=>∃w,σ[i]?=bN (bN w)/\R w G
def uC(w:Z):E3:=λ_ G R=>R w G
section
variable{e a b c:Expr}{ta tb tc:E3}
def b5y(h:PE X e (tVar i)):QE X e (uVar i):=⟨a0M h fun τ H Q (σ,G,R,c,b,(w,e,q),d)=>by
 let(v,a,r):=c.get e;show(v,a,d w G v H q r b (.refl _ _))⟩
def a5P(h:PE X e (tC v))(hr:∀H,Rep X.K H jt v):QE X e (uC jt):=⟨a0M h fun τ H Q b=>b.un fun σ G R d a q c=>c jt G v H q (hr H) a (.refl _ _)⟩
def a3v:QE X (.Constant (.int i) j pos) (uC (.int i)):=a5P b4F λ_=>by rw[a0g]
def q_bl{b j pos}:QE X (.Constant (.bool b) j pos) (uC (.bl b)):=a5P b7u λ_=>by rw[a0t]
def b7U:QE X (.Constant .none j pos) (uC .non):=a5P b4G λ_=>by rw[a0v]
def b5z:QE X (.Constant (.str x) j pos) (uC (.str x)):=a5P b4H λ_=>by rw[a0r]
def b1R(h:PE X e (tC (.int i))):QE X e (uC (.int i)):=a5P h λ_=>by rw[a0g]
def q_ty(h:PE X e (tC (.ty n))):QE X e (uC (.ty n)):=a5P h λ_=>by rw[a8x]
def uOp(r:R3)(ta tb:E3):E3:=fun σ G R=>ta σ G λx G1=>tb σ G1 λy G2=>r x y G2 R
def uUn(r:Z->Hq->K3->Prop)(ta:E3):E3:=fun σ G R=>ta σ G λx G1=>r x G1 R
def a6u{K:Fg}(h:low K (uOp r ta tb) τ H Q):tOp (low2 K r) (low K ta) (low K tb) τ H Q:=by
 let(σ,G,R,f,k,h,o):=h;show(σ,G,_,f,k,h,λw m v p l i b e=>?_);show(σ,m,_,f.mono e,b,l,λn g q s j d c a=>?_);show(w,n,g,R,i.mono a,d,c,j,o.mono (e.trans a))
def b5A{K:Fg}(h:low K (uUn r ta) τ H Q):tUn (low1 K r) (low K ta) τ H Q:=by
 let(σ,G,R,d,f,h,c):=h;show(σ,G,_,d,f,h,λw e v j g b a i=>(w,e,R,b,a,g,c.mono i))
def q_op(ho:OpQ X (fV op) r)(ha:QE X a ta)(hb:QE X b tb):QE X (.BinOp a op b pos) (uOp r ta tb):=⟨a0M (b7E ho ha.p hb.p) λ_ _ _=>a6u⟩
def q_un(ho:UnQ X (iF op) r)(ha:QE X a ta):QE X (.UnaryOp op a pos) (uUn r ta):=⟨a0M (b7F ho ha.p) λ_ _ _=>b5A⟩
def b0y(ho:OpQ X (fR op) r)(ha:QE X a ta)(hb:QE X b tb)(hm:gS op b=js):QE X (.Compare a [op] [b] pos) (uOp r ta tb):=⟨a0M (b2S ho ha.p hb.p hm) λ_ _ _=>a6u⟩
def a8A(t:E3):T3:=fun σ G R=>t σ G λx G1=>∃k,x=.bl k/\R k G1
def a4g{K:Fg}(h:lowT K (a8A ta) τ H Q):low K ta τ H λx H'=>∃k,x=.bl k/\Q k H':=by
 let(σ,G,R,g,f,h,i):=h;show(σ,G,_,g,f,h,λw l v j (k,e,c) a b d=>?_);subst e;show(k,a,i _ _ _ c b d)
def a23(ho:OpQ X (fR op) r)(ha:QE X a ta)(hb:QE X b tb)(hm:gS op b=js):QT X (.Compare a [op] [b] pos) (a8A (uOp r ta tb)):=⟨a8y (b2T ho ha.p hb.p hm) λ_ _ _ h=>a6u (a4g h)⟩
def a6v(r r':R3)(ta tb tc:E3):E3:=fun σ G R=>ta σ G λx G1=>tb σ G1 λy G2=>r x y G2 λz G3=>∃k,z=.bl k/\(if k=cp then tc σ G3 λw G4=>r' y w G4 R else R (.bl js) G3)
def a40{K:Fg}(h:low K (a6v r r' ta tb tc) τ H Q):a76 (low2 K r) (low2 K r') (low K ta) (low K tb) (low K tc) τ H Q:=by
 let(σ,G,R,g,F,h,p):=h;show(σ,G,_,g,F,h,λw A v N q B l a=>?_);show(σ,A,_,g.mono a,l,q,λm y T L s e j b=>?_);show(w,m,y,_,B.mono b,e,j,s,λz x M S (k,t,f) o d c=>?_);subst t;show(k,o,?_);cases k with
 |false=>show p _ _ _ _ ↑f (by rw[a0t]) d ((a.trans b).trans c)
 |true=>
  show(σ,x,_,g.mono ((a.trans b).trans c),d,f,λC E J I D u n i=>?_);show(m,C,E,R,e.mono (c.trans i),u,n,D,p.mono (((a.trans b).trans c).trans i))
def b3a(ho:OpQ X (fR op) r)(ho':OpQ X (fR op') r')(ha:QE X a ta)(hb:QE X b tb)(hc:QE X c tc)
  (hm:iG [op,op'] [b,c]=js:=by with_unfolding_all rfl):QE X (.Compare a [op,op'] [b,c] pos) (a6v r r' ta tb tc):=⟨a0M (b0b ho ho' ha.p hb.p hc.p hm) λ_ _ _=>a40⟩
def b0z(ho:OpQ X (fR op) r)(ho':OpQ X (fR op') r')(ha:QE X a ta)(hb:QE X b tb)(hc:QE X c tc)
  (hm:iG [op,op'] [b,c]=js:=by with_unfolding_all rfl):QT X (.Compare a [op,op'] [b,c] pos) (a8A (a6v r r' ta tb tc)):=⟨a8y (b0c ho ho' ha.p hb.p hc.p hm) λ_ _ _ h=>a40 (a4g h)⟩
def uAnd(t u:T3):T3:=fun σ G R=>t σ G λc G1=>if c=cp then u σ G1 R else R js G1
def uOr(t u:T3):T3:=fun σ G R=>t σ G λc G1=>if c=cp then R cp G1 else u σ G1 R
def uNot(t:T3):T3:=fun σ G R=>t σ G λc G1=>R (!c) G1
variable{t u:T3}{rest:List Expr}
def b1S(ha:QT X a t):QW X (.BoolOp .And [a] pos) t:=⟨b2I ha.p⟩
def b5B(ha:QT X a t):QW X (.BoolOp .Or [a] pos) t:=⟨b4J ha.p⟩
def b5C(ha:QT X a t)(hb:QW X (.BoolOp .And (b::rest) pos) u):QW X (.BoolOp .And (a::b::rest) pos) (uAnd t u):=⟨b5v (b4K ha.p hb.p) fun τ H Q l=>l.un fun σ G R f j h g=>by
 show(σ,G,_,f,j,h,λk i m d c e=>?_);cases k with
 |false=>show g _ _ _ (by simp_all) c e
 |true=>rw[if_pos rfl]at d ⊢;show(σ,i,R,f.mono e,c,d,g.mono e)⟩
def q_or(ha:QT X a t)(hb:QW X (.BoolOp .Or (b::rest) pos) u):QW X (.BoolOp .Or (a::b::rest) pos) (uOr t u):=⟨b5v (b7v ha.p hb.p) fun τ H Q l=>l.un fun σ G R f j h g=>by
 show(σ,G,_,f,j,h,λk i m e c d=>?_);cases k with
 |true=>show g _ _ _ (by simp_all) c d
 |false=>rw[if_neg (by simp)]at e ⊢;show(σ,i,R,f.mono d,c,e,g.mono d)⟩
def b1T(ha:QT X a t):QT X (.UnaryOp .Not a pos) (uNot t):=⟨a8y (b4L ha.p) fun τ H Q g=>g.un fun σ G R d f h i=>
 (σ,G,_,d,f,h,λk j l e b c=>i _ _ _ e b c)⟩
def b5D(ta tb:E3):E3:=fun σ G R=>ta σ G λx G1=>∃c,x=.bl c/\if c=cp then tb σ G1 R else R (.bl js) G1
def uOrV(ta tb:E3):E3:=fun σ G R=>ta σ G λx G1=>∃c,x=.bl c/\if c=cp then R (.bl cp) G1 else tb σ G1 R
def b5E(ta:E3):E3:=fun σ G R=>ta σ G λx G1=>∃c,x=.bl c/\R (.bl (!c)) G1
def b0A(h:QE X a ta):QE X (.BoolOp op [a] pos) ta:=⟨b4M h.p⟩
def a3R(ha:QE X a ta)(hb:QE X (.BoolOp .And (b::rest) pos) tb):QE X (.BoolOp .And (a::b::rest) pos) (b5D ta tb):=⟨a0M (b4N ha.p hb.p) fun τ H Q l=>l.un fun σ G R g j h i=>by
 show(σ,G,_,g,j,h,λx n v o (k,m,e) f c d=>?_);subst m;show(k,f,?_);cases k with
 |false=>show i _ _ _ _ ↑e (by rw[a0t]) c d
 |true=>rw[if_pos rfl]at e ⊢;show(σ,n,R,g.mono d,c,e,i.mono d)⟩
def b7V(ha:QE X a ta)(hb:QE X (.BoolOp .Or (b::rest) pos) tb):QE X (.BoolOp .Or (a::b::rest) pos) (uOrV ta tb):=⟨a0M (b7y ha.p hb.p) fun τ H Q m=>m.un fun σ G R g n h i=>by
 show(σ,G,_,g,n,h,λx j v o (k,l,d) f c e=>?_);subst l;show(k,f,?_);cases k with
 |true=>show i _ _ _ _ ↑d (by rw[a0t]) c e
 |false=>rw[if_neg (by simp)]at d ⊢;show(σ,j,R,g.mono e,c,d,i.mono e)⟩
def b7W(ha:QE X a ta):QE X (.UnaryOp .Not a pos) (b5E ta):=⟨a0M (b4O ha.p) fun τ H Q f=>f.un fun σ G R g d h j=>by
 show(σ,G,_,g,d,h,λx m v n (k,e,i) b c l=>?_);subst e;show(k,b,j _ _ _ _ i (by rw[a0t]) c l)⟩
def uIf(t:T3)(ta tb:E3):E3:=fun σ G R=>t σ G λc G1=>if c=cp then ta σ G1 R else tb σ G1 R
def q_if(hc:QT X c t)(ha:QE X a ta)(hb:QE X b tb):QE X (.IfExp c a b pos) (uIf t ta tb):=⟨a0M (a98 hc.p ha.p hb.p) fun τ H Q l=>l.un fun σ G R g m h j=>by
 show(σ,G,_,g,m,h,λk i n e f d=>?_);cases k with
 |true=>rw[if_pos rfl]at e ⊢;show(σ,i,R,g.mono d,f,e,j.mono d)
 |false=>rw[if_neg (by simp)]at e ⊢;show(σ,i,R,g.mono d,f,e,j.mono d)⟩
def tru:Z->Hq->(Bool->Hq->Prop)->Prop
 |.non,G,R=>R js G
 |.bl b,G,R=>R b G
 |.int i,G,R=>R (i != 0) G
 |.str y,G,R=>y.length<=fL/\R ((y.length:Int) != 0) G
 |.tup ws,G,R=>R (!ws.isEmpty) G
 |.scr _ ns,G,R=>R (!ns.isEmpty) G
 |.ref p,G,R=>(∃ws,G p=bN (.lst ws)/\R (!ws.isEmpty) G)\/∃kvs,G p=bN (.dK kvs)/\R (!kvs.isEmpty) G
 |.ty _,_,_=>False
def uTru(ta:E3):T3:=fun σ G R=>ta σ G λx G1=>tru x G1 R
def a08{α β:Type}{a:List α}{b:List β}(h:a.length=b.length):a.isEmpty=b.isEmpty:=by
 cases a<;>cases b<;>simp_all
def b3b{K:Fg}(h:tru jt G R)(r:Rep K H jt v)(hg:RH K G H)(up:UpB K H R Q):∃k,TruV K v H k/\Q k H:=by
 cases jt with
 |non=>rw[a0v]at r;subst r;show(_,rfl,up _ _ _ h hg (.refl _ _))
 |bl b=>rw[a0t]at r;subst r;show(_,rfl,up _ _ _ h hg (.refl _ _))
 |int i=>rw[a0g]at r;subst r;show(_,rfl,up _ _ _ h hg (.refl _ _))
 |str y=>rw[a0r]at r;subst r;show(_,(h.1,rfl),up _ _ _ h.2 hg (.refl _ _))
 |ty n=>show aP h
 |scr a ns=>rw[a2f]at r;let(rfl,f):=r;show(!ns.isEmpty,.inl (_,f.sq,by rw[a08 (aM ..).symm]),up _ _ _ h hg (.refl _ _))
 |tup ws=>
  let(a,d,rfl,e,c):=r;show(!ws.isEmpty,.inr (.inl (d,SqT.of e,by rw[a08 c.length])),up _ _ _ h hg (.refl _ _))
 |ref p=>
  subst r;let(ws,e,h)||(kvs,e,h):=h
  .let(d,g,c):=hg p _ e;show(_,.inl (d,SqL.of g,by rw[<- a08 c.length]),up _ _ _ h hg (.refl _ _))
  .let(j,g,l,c):=hg p _ e;show(_,.inr (.inr (j,g,by rw[a08 (show kvs.length=j.length by rw[<- aM,c.length,aM])])),up _ _ _ h hg (.refl _ _))
def b3c(ha:QE X a ta)(he:∀whole,isTrue a X.env whole=(do let v <- whole;gc a.pos;fZ [v] (truthy v))):QT X a (uTru ta):=⟨a8y (b0d ha.p he) fun τ H Q i=>i.un fun σ G R d f h j=>
 (σ,G,_,d,f,h,λw k v l e g b c=>b3b e g b (j.mono c))⟩
def b5F(ha:QE X a ta)(he:∀whole,isTrue a X.env whole=(do let v <- whole;gc a.pos;fZ [v] (truthy v)):=by ext _;rfl):QT X a (a8A ta):=⟨a8y (b4I ha.p he) λ_ _ _ h=>a4g h⟩
end
section
variable{env:Env}
def b5G:(backTo pos (fP [] env)).any (·.1)=js:=rfl
def b3d(h:fP (e::es) env=(js,eval e env,)::fP es env)(r:(backTo pos (fP es env)).any (·.1)=js):(backTo pos (fP (e::es) env)).any (·.1)=js:=by
 rw[h]
 change (js||(backTo pos _).any _)=js
 rw[r];rfl
end
section
variable{e a b:Expr}{p2:Pos}{te ta tb:E3}{t:A3}
def q_ix(hr:IxQ X r)(ha:QE X a ta)(hb:QE X b tb)(hs:a8j b):QE X (.Subscript a b pos) (uOp r ta tb):=⟨a0M (b7N hr ha.p hb.p hs) λ_ _ _=>a6u⟩
abbrev O3:=S3->Hq->(Option Int->Hq->Prop)->Prop
def a8B:O3:=λ_ G R=>R ce G
def b5H(t:E3):O3:=fun σ G R=>t σ G λx G1=>∃i,x=.int i/\R (bN i) G1
def lowO(K:Fg)(t:O3):TO:=fun τ H Q=>∃σ G R,RSt K H σ τ/\RH K G H/\t σ G R/\∀o G' H',R o G'->RH K G' H'->TK K H H'->Q o H'
def lowO.un{K:Fg}{t:O3}{C:Prop}(z:lowO K t τ H Q)(f:∀σ G R,(RSt K H σ τ)->(RH K G H)->(t σ G R)->(∀o G' H',R o G'->RH K G' H'->TK K H H'->Q o H')->C):C:=by let(σ,G,R,d,b,c,a):=z;show f _ _ _ d b c a
def QO(X:Cx)(e:Option Expr)(t:O3):Prop:=PO X e (lowO X.K t)
def b0B:QO X ce a8B:=by ext a s τ H Q I ⟨σ,G,R,d,c,h,b⟩;show b22 a s τ H Q I (b _ _ _ h c (.refl _ _))
def b5I(h:QE X e te):QO X (bN e) (b5H te):=by ext a s τ H Q I ⟨σ,G,R,f,k,q,l⟩;show b23 h.p a s τ H Q I (σ,G,_,f,k,q,by
 ext w n v m ⟨i,g,d⟩ b c j;subst g;show(i,b,l _ _ _ d c j))
abbrev L3r:=Z->Option Int->Option Int->Hq->K3->Prop
def lowL(K:Fg)(r:L3r):V->Option Int->Option Int->Hp->VK->Prop:=λx lo hi H Q=>∃w G R,Rep K H w x/\RH K G H/\r w lo hi G R/\UpV K H R Q
def lowL.un{K:Fg}{lo hi:Option Int}{C:Prop}(z:lowL K r x lo hi H Q)(f:∀w G R,(Rep K H w x)->(RH K G H)->(r w lo hi G R)->(UpV K H R Q)->C):C:=by let(w,G,R,a,d,b,c):=z;show f _ _ _ a d b c
def SlQ(X:Cx)(r:L3r):Prop:=SlR X (lowL X.K r)
def b7X(h:SlR X r')(i:∀x lo hi H Q,r x lo hi H Q->r' x lo hi H Q):SlR X r:=λa s σ H x v l b j f d Q I c e g k q=>h a s σ H x v l b j f d Q I c e g k (i _ _ _ _ _ q)
def uSl(r:L3r)(te:E3)(tl th:O3):E3:=fun σ G R=>te σ G λx G1=>tl σ G1 λl G2=>th σ G2 λu G3=>r x l u G3 R
def b3e{lo hi:Option Expr}(hr:SlQ X r)(he:QE X e te)(hl:QO X lo tl)(hu:QO X hi th):QE X (.Subscript e (.Slice lo hi ce p2) pos) (uSl r te tl th):=⟨a0M (b0m hr he.p hl hu) fun τ H Q q=>q.un fun σ G R c k h y=>
 (σ,G,_,c,k,h,λw m v z j t f b=>(σ,m,_,c.mono b,f,j,λl o A s d a=>(σ,o,_,c.mono (b.trans a),d,s,λu x B n i g=>
  (w,x,R,t.mono (a.trans g),i,n,y.mono ((b.trans a).trans g)))))⟩
def uNil:A3:=λ_ G R=>R [] G
def b3f(ta:E3)(tr:A3):A3:=fun σ G R=>ta σ G λx G1=>tr σ G1 λxs G2=>R (x::xs) G2
def a0z:QA X [] uNil:=⟨b5w b1O fun τ H Q b=>b.un fun σ G R d a h c=>c _ _ _ _ h .nil a (.refl _ _)⟩
def b5J(ha:QE X e te)(hr:QA X es t)(hs:fP (e::es) X.env=(js,eval e X.env,)::fP es X.env):QA X (e::es) (b3f te t):=⟨b5w (a8d ha.p hr.p hs) fun τ H Q i=>i.un fun σ G R hs l h o=>
 (σ,G,_,hs,l,h,λw j v H1 g m f d=>(σ,j,_,hs.mono d,f,g,λws G2 vs H2 n k c b=>o _ _ _ _ n (.cons (m.mono b) k) c (d.trans b)))⟩
def uTup(t:A3):E3:=fun σ G R=>t σ G λxs G1=>xs.length<=fL/\R (.tup xs) G1
def uLst(t:A3):E3:=fun σ G R=>t σ G λxs G1=>xs.length<=fL/\∀p,G1 p=ce->R (.ref p) (put G1 p (.lst xs))
def b7Y(h:QA X es t):QE X (.Tuple es x1 pos) (uTup t):=⟨a0M (b5a h.p) fun τ H Q k=>k.un fun σ G R f j h d=>
 (σ,G,_,f,j,h,by ext o m l n ⟨i,g⟩ b c e;show(by rw[<- b.length];show i,λp a=>d _ _ _ _ g (by rw[a0S];show(p,l,rfl,a0c,b.mono (.new a))) (c.hid a) (e.trans (.new a))))⟩
def a00{K:Fg}(r:Reps K H ws vs)(t:TK K H (upd H p (.lst vs))):ROb K (upd H p (.lst vs)) p (.lst ws):=(vs,a0c,r.mono t)
def b7Z(h:QA X es t):QE X (.List es pos) (uLst t):=⟨a0M (b5b h.p) fun τ H Q g=>g.un fun σ G R d k h i=>
 (σ,G,_,d,k,h,by ext m l o n ⟨f,e⟩ c b j;show(by rw[<- c.length];show f,λp a=>i _ _ _ _ (e p (b.out a)) (by rw[a0l]) (b.set (.new a) (a00 c (.new a))) (j.trans (.new a))))⟩
def uCB(r:List Z->Hq->K3->Prop)(t:A3):E3:=fun σ G R=>t σ G λws G1=>r ws G1 R
def b1U{K:Fg}(h:low K (uCB r t) τ H Q):tCB (lowC K r) (lowA K t) τ H Q:=by
 let(σ,G,R,e,j,h,i):=h;show(σ,G,_,e,j,h,λc g k l f b a d=>(c,g,R,b,a,f,i.mono d))
variable{x:Str}{p:Pos}{id T:String}{r:List Z->Hq->K3->Prop}
def b3g(hc:a1m X (.builtin id) r)(hg:Gl X x)(hm:X.mg x=ce)(hv:gq x=bN (.builtin id))(ha:QA X (e::es) t)(hn:x≠"__name__")(hdb:(x==("__debug__":Str))=js)
  (he:fP (e::es) X.env=(js,eval e X.env,)::fP es X.env) (hpl:(backTo pos (fP es X.env)).any (·.1)=js):QE X (.Call (.Name x p) (e::es) [] pos) (uCB r t):=⟨a0M (b0k hc hg hm hv ha.p hn hdb he hpl) λ_ _ _=>b1U⟩
def b0C(hc:a1m X (.type T) r)(hg:Gl X x)(hm:X.mg x=ce)(hv:gq x=bN (.type T))(ha:QA X (e::es) t)(hn:x≠"__name__")(hdb:(x==("__debug__":Str))=js)
  (he:fP (e::es) X.env=(js,eval e X.env,)::fP es X.env) (hpl:(backTo pos (fP es X.env)).any (·.1)=js):QE X (.Call (.Name x p) (e::es) [] pos) (uCB r t):=⟨a0M (a8g hc hg hm hv ha.p hn hdb he hpl) λ_ _ _=>b1U⟩
def tyZ(T:String)(x:Z)(G:Hq):Prop:=match x with
 |.str _=>T="str"
 |.int _=>T="int"
 |.ref p=>(T="list"/\∃ws,G p=bN (.lst ws))\/(T="dict"/\∃kvs,G p=bN (.dK kvs)\/G p=bN (.dF kvs))
 |.scr _ _=>T="list"
 |_=>False
def a8C{K:Fg}(h:tyZ T jt G)(r:Rep K H jt v)(hg:RH K G H):tyV K T v H:=by
 cases jt with
 |str y=>rw[a0r]at r;subst r;show h
 |int y=>rw[a0g]at r;subst r;show h
 |ref q=>
  subst r;let(e,ws,g)||(e,kvs,g):=h
  .let(b,a,_):=hg q _ g;show .inl (e,b,SqL.of a)
  .let g||g:=g
   .let(b,a,_):=hg q _ g;show .inr (.inr (.inl (e,.inl (b,a))))
   .let(c,b,a,_):=hg q _ g;show .inr (.inr (.inl (e,.inr (.inr (c,b,a)))))
 |scr q ns=>rw[a2f]at r;let(rfl,f):=r;show .inl (h,_,f.sq)
 |_=>show aP h
def uBM0(T:String)(r:Z->List Z->Hq->K3->Prop)(to:E3):E3:=fun σ G R=>to σ G λx G1=>tyZ T x G1/\r x [] G1 R
def uBM(T:String)(r:Z->List Z->Hq->K3->Prop)(to:E3)(t:A3):E3:=fun σ G R=>to σ G λx G1=>tyZ T x G1/\t σ G1 λxs G2=>r x xs G2 R
variable{o:Expr}{name:Str}{cpos:Pos}{rm:Z->List Z->Hq->K3->Prop}
def b70(pa:iI T)(slot:Slot T name id)(hty:typeOf (.builtin id)=pure (.type "method_descriptor"))(hm:MtQ X id rm)(ho:QE X o to)
  (hbase:gQ o name X.env (eval o X.env)=eval o X.env:=by rfl) (hline:(apos.endLine==cpos.line)=cp:=by rfl):QE X (.Call (.Attribute o name apos) [] [] cpos) (uBM0 T rm to):=⟨a0M (b5g pa slot hty hm ho.p hbase hline) fun τ H Q j=>j.un fun σ G R g e h k=>(σ,G,_,g,e,h,λw f v l (i,c) b a d=>(a8C i b a,w,[],f,R,b,.nil,a,c,k.mono d))⟩
def q_bm(pa:iI T)(slot:Slot T name id)(hty:typeOf (.builtin id)=pure (.type "method_descriptor"))(hm:MtQ X id rm)(ho:QE X o to)(ha:QA X (e::es) t)
  (hbase:gQ o name X.env (eval o X.env)=eval o X.env:=by rfl)
  (hfew:((backTo cpos (fP (e::es) X.env)).all (λx=>!x.1)&&(gH cpos (gI [] X.env)).all (λx=>x.1.isSome)
   && decide ((e::es).length+([]:List ik).length+(if ([]:List ik).isEmpty then 0 else 1)<30))=cp:=by rfl)
  (hline:(apos.endLine==cpos.line)=cp:=by rfl) (hs:fP (e::es) X.env=(js,eval e X.env,)::fP es X.env:=by rfl) (hplain:(backTo cpos (fP es X.env)).any (·.1)=js:=by rfl) :
  QE X (.Call (.Attribute o name apos) (e::es) [] cpos) (uBM T rm to t):=⟨a0M (b7P pa slot hty hm ho.p ha.p hbase hfew hline hs hplain) fun τ H Q q=>q.un fun σ G R hs r h u=>
  (σ,G,_,hs,r,h,by ext w j v H1 ⟨m,n⟩ d a g;show(a8C m d a,σ,j,_,hs.mono g,a,n,λs i vs H2 k l f c=>(w,s,i,R,d.mono c,l,f,k,u.mono (g.trans c))))⟩
abbrev P3:=List Z->Hq->K3->Prop
def lowP(K:Fg)(sp:P3):Sp:=λvs H Q _=>lowC K sp vs H Q
def b0D(sp:P3)(t:A3):E3:=fun σ G R=>t σ G λws G1=>sp ws G1 R
variable{k:Nat}{f:Addr}{fd:f6}{ps:List Str}
def b5K(F:FnOk X.prog X.w X.K X.mg X.base CX0 k f fd ps (lowP X.K sp))(hr:Room k X.A)(hg:Gl X x)(hm:X.mg x=bN (.ref f))(hk:PySem.W.keepIn X.K (.ref f)=cp)(hb:Binds X.K fd ps [])(ha:QA X (e::es) t)
  (hdb:(x==("__debug__":Str))=js) (he:fP (e::es) X.env=(js,eval e X.env,)::fP es X.env) (hpl:(backTo pos (fP es X.env)).any (·.1)=js) :
  QE X (.Call (.Name x p) (e::es) [] pos) (b0D sp t):=⟨a0M (b2Z F hr hg hm hk hb .nil a8o ha.p hdb he hpl) fun τ H Q d=>d.un fun σ G R i hg h m=>(σ,G,_,i,hg,h,λc j vs H1 l g b n=>(c,j,R,by rw[bL];show g,b,l,m.mono n))⟩
end
section
variable{e c tg:Expr}{st:Stmt}{rest sa sb:List Stmt}{te:E3}{t u:X3}{tc:T3}
def b3h:X3:=λnx _ _ _ σ G=>nx σ G
def uSeq(t u:X3):X3:=λnx rt bk ct σ G=>t (u nx rt bk ct) rt bk ct σ G
def a24:QSs X [] b3h:=⟨a8z b2J λD τ H a=>a.un fun σ G g e k f d b h c i j l=>c _ _ _ _ h d b (.refl _ _)⟩
def a0d(h1:QS X st t)(h2:QSs X rest u):QSs X (st::rest) (uSeq t u):=⟨a8z (a6m h1.p h2.p) λD τ H q=>q.un fun σ G k j c e l o h n d b g=>
 (σ,G,_,j,c,e,l,o,h,fun σ' r τ' s m f i a=>(σ',r,k,j,c,e,f,i,m,n.mono a,d.mono a,b.mono a,g.mono a),d,b,g)⟩
def a0y(h1:QS X st t):QSs X [st] t:=⟨b2K h1.p⟩
def uCut(t u:X3):X3:=λnx rt bk ct σ G=>∃M:C3,t M rt bk ct σ G/\∀σ' G',M σ' G'->u nx rt bk ct σ' G'
def b0E(h1:QS X st t)(h2:QSs X rest u):QSs X (st::rest) (uCut t u):=⟨a8z (a6m h1.p h2.p) λD τ H v=>v.un fun σ G n d j b q m l s g e i=>by
 let(M,h,k):=l;show(σ,G,M,d,j,b,q,m,h,fun σ' o τ' w r f c a=>(σ',o,n,d,j,b,f,c,k _ _ r,s.mono a,g.mono a,e.mono a,i.mono a),g,e,i)⟩
def b5L:X3:=λ_ _ bk _ σ G=>bk σ G
def b71:X3:=λ_ _ _ ct σ G=>ct σ G
def b5M:QS X (.Pass pos) b3h:=⟨a1D b2L λD τ H d=>d.un fun σ G e g i l a b h c k j f=>c _ _ _ _ h a b (.refl _ _)⟩
def b3i:QS X (.Break pos) b5L:=⟨a1D a99 λD τ H a=>a.un fun σ G f i e g b d h j l c k=>c _ _ _ _ h b d (.refl _ _)⟩
def b5N:QS X (.Continue pos) b71:=⟨a1D a5I λD τ H c=>c.un fun σ G e g i l a b h f k j d=>d _ _ _ _ h a b (.refl _ _)⟩
def b5O:X3:=λ_ _ _ _ _ _=>False
def a4h:QS X st b5O:=⟨by ext _ _ _ _ _ _ ⟨_,_,_,_,_,_,_,_,h,_⟩;show h.elim⟩
def b5P(te:E3):X3:=λnx _ _ _ σ G=>te σ G λ_ G1=>nx σ G1
def a2s(he:QE X e te)(hs:gA e ce pos.line X.env=pure js:=by rfl):QS X (.Expr e pos) (b5P te):=⟨a1D (b2M he.p hs) λD τ H i=>i.un fun σ G nx rt bk ct hs g h f u2 u3 u4=>
 (σ,G,_,hs,g,h,λw G1 v H1 d rv c b=>f _ _ _ _ d (hs.mono b) c b)⟩
def uRet(te:E3):X3:=λ_ rt _ _ σ G=>te σ G rt
def a1h(he:QE X e te):QS X (.Return (bN e) pos) (uRet te):=⟨a1D (b4R he.p) λD τ H c=>c.un fun σ G f j k m a b h g d l i=>(σ,G,_,a,b,h,d)⟩
def b72:X3:=λ_ rt _ _ _ G=>rt .non G
def b5Q:QS X (.Return ce pos) b72:=⟨a1D b2N λD τ H b=>b.un fun σ G e j d l g a h k c f i=>c _ _ _ _ h (by rw[a0v]) a (.refl _ _)⟩
def uIfS(c:T3)(t u:X3):X3:=λnx rt bk ct σ G=>c σ G λb G1=>if b=cp then t nx rt bk ct σ G1 else u nx rt bk ct σ G1
def z_if(hc:QT X c tc)(ha:QSs X sa t)(hb:QSs X sb u):QS X (.If c sa sb pos) (uIfS tc t u):=⟨a1D (b7C hc.p ha.p hb.p) λD τ H s=>s.un fun σ G l g k m f r h n q j i=>by
 show(σ,G,_,f,r,h,λb o v d e a=>?_);cases b with
 |true=>rw[if_pos rfl]at d ⊢;show(σ,o,l,g,k,m,f.mono a,e,d,n.mono a,q.mono a,j.mono a,i.mono a)
 |false=>rw[if_neg (by simp)]at d ⊢;show(σ,o,l,g,k,m,f.mono a,e,d,n.mono a,q.mono a,j.mono a,i.mono a)⟩
inductive Pt where
 |nm (i:Nat)
 |tp (is:List Nat)
def gsOf:List Nat->TGs
 |[]=>gNil
 |i::is=>b4S (a7U i) (gsOf is)
def gP(K:Fg):Pt->TG
 |.nm i=>a7U i
 |.tp is=>gTup K is.length (gsOf is)
noncomputable def sets:List Nat->List Z->S3->S3
 |i::is,w::ws,σ=>sets is ws (σ.set i (bN w))
 |_,_,σ=>σ
noncomputable def a25:Pt->Z->S3->Option S3
 |.nm i,w,σ=>bN (σ.set i (bN w))
 |.tp is,.tup ws,σ=>if ws.length=is.length then bN (sets is ws σ) else ce
 |_,_,_=>ce
noncomputable def Pt.slots:Pt->List Nat
 |.nm i=>[i]
 |.tp is=>is
noncomputable def a2x:List Nat->List V->L2.St->L2.St
 |i::is,w::ws,σ=>a2x is ws (σ.set i (bN w))
 |_,_,σ=>σ
theorem a8D:∀{is:List Nat}{vs:List V}{τ:L2.St},vs.length=is.length->Q (a2x is vs τ) H->gsOf is vs τ H Q
 |[],[],_,_,q=>(rfl,q)
 |i::is,v::vs,τ,h,q=>(v,vs,rfl,a8D ↑h q)
 |[],_::_,_,h,_=>by simp at h
 |_::_,[],_,h,_=>by simp at h
theorem a41{K:Fg}:∀{is:List Nat}{ws:List Z}{vs:List V}{σ:S3}{τ:L2.St},Reps K H ws vs->RSt K H σ τ->RSt K H (sets is ws σ) (a2x is vs τ)
 |[],ws,vs,σ,τ,_,h=>by unfold sets a2x;show h
 |i::is,[],vs,σ,τ,r,h=>by rw[a0f]at r;subst r;show h
 |i::is,w::ws,vs,σ,τ,r,h=>by
  let(v,c,rfl,a,b):=r;show a41 (is:=is) b (h.set a i)
theorem a3S:∀{is:List Nat}{vs:List V}{τ:L2.St}{j:Nat},j∉is->(a2x is vs τ)[j]?=τ[j]?
 |[],_,_,_,_=>by unfold a2x;rfl
 |i::is,[],_,_,_=>by unfold a2x;rfl
 |i::is,v::vs,τ,j,h=>by
  let b:j≠i:=λz=>h (z▸cf ..)
  change (a2x is vs _)[j]?=τ[j]?
  rw[a3S (λz=>h (b3 _ z)),di (Ne.symm b)]
theorem a2t:∀{is:List Nat}{vs:List V}{τ:L2.St},(a2x is vs τ).length=τ.length
 |[],_,_=>by unfold a2x;rfl
 |i::is,[],_=>by unfold a2x;rfl
 |i::is,v::vs,τ=>by
  change (a2x is vs _).length=τ.length
  rw[a2t,List.length_set]
def b3j{K:Fg}(r:Rep K H jt v)(hs:RSt K H σ τ)(hb:a25 pt jt σ=bN σ')
  (q:∀τ',RSt K H σ' τ'->τ'.length=τ.length->(∀j,j∉pt.slots->τ'[j]?=τ[j]?)->Q τ' H):gP K pt v τ H Q:=by
 cases pt with
 |nm i=>
  cases hb;show q _ (hs.set r i) (by simp) λj d=>by rw[di];ext z;show d (z▸cf ..)
 |tp is=>
  cases jt with
  |tup ws=>
   let(a,f,rfl,e,c):=r;let b:(if ws.length=is.length then bN _ else ce)=bN σ':=hb
   by_cases hl:ws.length=is.length
   .rw[if_pos hl]at b;cases b;show(a,f,rfl,SqT.of e,by rw[<- c.length];show hl,a8D (c.length▸hl) (q _ (a41 c hs) a2t λj d=>a3S d))
   .simp_all
  |_=>cases hb
def QP(X:Cx)(tg:Expr)(pt:Pt):Prop:=PG X tg (gP X.K pt)
def uAsg(te:E3)(pt:Pt):X3:=λnx _ _ _ σ G=>te σ G λx G1=>∃σ',a25 pt x σ=bN σ'/\nx σ' G1
def a5Q{K:Fg}(h:lowS K (uAsg te pt) D τ H):tAsg (low K te) (gP K pt) D τ H:=by
 let(σ,G,p,s,k,l,b,e,h,j,r,m,n):=h;show(σ,G,_,b,e,h,by ext w o v q ⟨σ',g,i⟩ f c d;show b3j f (b.mono d) g fun τ' a _ _=>j _ _ _ _ i a c d)
def b73(hN:X.N.Nodup)(hi:X.N[i]?=bN x)(hx:Loc X.env.scope x)(he:QE X e te)(hs:gA e (bN (.Name x pos')) pos.line X.env=pure js)(hf:X.fn x=cp\/X.env.scope.names.lookup x=bN .local) :
  QS X (.Assign [.Name x pos'] e pos) (uAsg te (.nm i)):=⟨a1D (b4V hN hi hx he.p hs hf) λ_ _ _=>a5Q⟩
def b5R(he:QE X e te)(hg:QP X tg pt)(hs:i3 [tg] e pos.line X.env=pure js:=by rfl)(hw:i5 [tg] e X.env=pure ce:=by rfl)
  (h1:(gv [tg] X.env).map (·.2)=[assign tg X.env]:=by rfl):QS X (.Assign [tg] e pos) (uAsg te pt):=⟨a1D (b1N he.p hg hs hw h1) λ_ _ _=>a5Q⟩
abbrev Z3:=Z->Z->Z->Hq->(Hq->Prop)->Prop
def lowZ(K:Fg)(r:Z3):TSet:=λo i v H Q=>∃a b w G R,Rep K H a o/\Rep K H b i/\Rep K H w v/\RH K G H/\r a b w G R/\∀G' H',R G'->RH K G' H'->TK K H H'->Q H'
def lowZ.un{K:Fg}{C:Prop}(z:lowZ K r o i v H Q)(f:∀a b w G R,(Rep K H a o)->(Rep K H b i)->(Rep K H w v)->(RH K G H)->(r a b w G R)->(∀G' H',R G'->RH K G' H'->TK K H H'->Q H')->C):C:=by let(a,b,w,G,R,d,j,e,g,c,h):=z;show f _ _ _ _ _ d j e g c h
def SetQ(X:Cx)(r:Z3):Prop:=PSet X (lowZ X.K r)
def b1V(h:PSet X r')(i:∀o j v H Q,r o j v H Q->r' o j v H Q):PSet X r:=λa s σ H o j v c f u Q I b d e q=>h a s σ H o j v c f u Q I b d e (i _ _ _ _ _ q)
def uPut(te to ti:E3)(r:Z3):X3:=λnx _ _ _ σ G=>te σ G λw G1=>to σ G1 λo G2=>ti σ G2 λi G3=>r o i w G3 λG4=>nx σ G4
def b74(h:PS X st (tAsg (low X.K te) (gSub (low X.K to) (low X.K ti) (lowZ X.K r)))):QS X st (uPut te to ti r):=⟨a1D h λD τ H z=>z.un fun σ G Q I J N a s h B T V C=>
 (σ,G,_,a,s,h,λw m v U o t e d=>(σ,m,_,a.mono d,e,o,λx u R S n i l c=>(σ,u,_,a.mono (d.trans c),l,n,λy A M F q g k b=>
  (x,y,w,A,_,i.mono b,g,t.mono (c.trans b),k,q,λE L p j f=>B _ _ _ _ p (a.mono (((d.trans c).trans b).trans f)) j (((d.trans c).trans b).trans f)))))⟩
def a42(he:QE X e te)(ho:QE X o to)(hi:QE X i ti)(hr:SetQ X r)(hs:i3 [.Subscript o i p'] e pos.line X.env=pure js:=by rfl)(hw:i5 [.Subscript o i p'] e X.env=pure ce:=by rfl)
  (h1:(gv [.Subscript o i p'] X.env).map (·.2)=[assign (.Subscript o i p') X.env]:=by rfl) (ha:∀v,assign (.Subscript o i p') X.env v=(do
   let ov <- fZ [v] (eval o X.env)
   let iv <- fZ [v,ov] (eval i X.env)
   gc p'
   fZ [v,ov,iv] (iE ov iv v)
   release [v,ov,iv] []):=by ext _;rfl):QS X (.Assign [.Subscript o i p'] e pos) (uPut te to ti r):=b74 (b1N he.p (b4U ho.p hi.p hr ha) hs hw h1)
def uAug(i:Nat)(te:E3)(r:R3):X3:=λnx _ _ _ σ G=>∃x,σ[i]?=bN (bN x)/\te σ G λy G1=>r x y G1 λz G2=>nx (σ.set i (bN z)) G2
def b75(h:PS X st (tAug i (low X.K te) (low2 X.K r))):QS X st (uAug i te r):=⟨a1D h λD τ H q=>q.un fun σ G y L C u a s k t A B M=>by
 let(x,p,h):=k;let(v,n,o):=a.get p;show(v,n,σ,G,_,a,s,h,λw m N z j c g b=>(x,w,m,_,o.mono b,c,g,j,λF I J E l d e f=>t _ _ _ _ l ((a.mono (b.trans f)).set d i) e (b.trans f)))⟩
def b5S(hN:X.N.Nodup)(hi:X.N[i]?=bN x)(hx:Loc X.env.scope x)(he:QE X e te)(ho:OpQ X (gM op) r)(hf:X.fn x=cp\/X.env.scope.names.lookup x=bN .local) :
  QS X (.AugAssign (.Name x pos') op e pos) (uAug i te r):=b75 (b4W hN hi hx he.p ho hf)
end
abbrev I3:=S3->Hq->(List Z->(Hq->Prop)->Hq->Prop)->Prop
def a3w(K:Fg)(ws:List Z)(ok:Hq->Prop)(J:It)(H0:Hp):Prop:=∀i G H,RH K G H->TK K H0 H->ok G->i<=ws.length ->
 (i=ws.length->J.stop i H)/\∀w,ws[i]?=bN w->J.go i H/\∀x H',J.yld i H x H'->Rep K H' w x/\RH K G H'/\TK K H H'
def lowI(K:Fg)(wi:I3):TI:=fun τ H R2=>∃σ G R,RSt K H σ τ/\RH K G H/\wi σ G R/\∀ws ok G' J H',R ws ok G'->a3w K ws ok J H'->RH K G' H'->TK K H H'->R2 J H'
def lowI.un{K:Fg}{R2:It->Hp->Prop}{C:Prop}(z:lowI K wi τ H R2)(f:∀σ G R,(RSt K H σ τ)->(RH K G H)->(wi σ G R)->(∀ws ok G' J H',R ws ok G'->a3w K ws ok J H'->RH K G' H'->TK K H H'->R2 J H')->C):C:=by let(σ,G,R,d,b,c,a):=z;show f _ _ _ d b c a
def QI(X:Cx)(tg iter:Expr)(wi:I3):Prop:=PI X tg iter (lowI X.K wi)
def a5R(h:PI X tg iter wi')(i:∀σ H R,wi σ H R->wi' σ H R):PI X tg iter wi:=λa s σ H R I q=>h a s σ H R I (i σ H R q)
def FORB(ws:List Z)(ok:Hq->Prop)(pt:Pt)(tb:X3)(nx:C3)(rt:K3)(σ:S3)(G1:Hq):Prop:=∃I:Nat->S3->Hq->Prop,I 0 σ G1/\(∀i σ G,i<=ws.length->I i σ G->ok G) /\
 (∀i x σ G,ws[i]?=bN x->I i σ G->∃σ',a25 pt x σ=bN σ'/\tb (I (i+1)) rt nx (I (i+1)) σ' G)/\∀σ G,I ws.length σ G->nx σ G
def uFor(wi:I3)(pt:Pt)(tb:X3):X3:=λnx rt _ _ σ G=>wi σ G λws ok G1=>FORB ws ok pt tb nx rt σ G1
def a1e(I:Nat->S3->Hq->Prop)(h0:I 0 σ G)(hok:∀i σ G,i<=ws.length->I i σ G->ok G)
  (step:∀i x σ G,ws[i]?=bN x->I i σ G->∃σ',a25 pt x σ=bN σ'/\tb (I (i+1)) rt nx (I (i+1)) σ' G) (fin:∀σ G,I ws.length σ G->nx σ G):FORB ws ok pt tb nx rt σ G:=(I,h0,hok,step,fin)
def a4i(hp:gy (model X.prog X.w) X.A X.env X.xe)(hc:X.calm=cp)(hi:QI X tg iter wi)(hg:QP X tg pt)(hb:QSs X sb t)
  (hs:∀x,gO iter X.env x=pure x:=by ext _;rfl):QS X (.For tg iter sb [] pos) (uFor wi pt t):=⟨a1D (b40 hp hc hi hg hb.p hs) λD τ H U=>U.un fun σ G nx rt bk ct hs hg h R u2 u3 u4=>by
 show(σ,G,_,hs,hg,h,?_);ext b ok G1 J L ⟨I,i0,S,u,E⟩ hJ M k;show(λi m τ' a=>m=b.length-i/\i<=b.length/\∃σ' G',RSt X.K a σ' τ'/\RH X.K G' a/\TK X.K L a/\I i σ' G',(b.length,by simp,bo _,σ,G1,hs.mono k,M,.refl _ _,i0),?_);ext i m τ2 H2 ⟨rfl,n,σ2,j,o,r,c,z⟩;let l:=hJ i j H2 r c (S i σ2 j n z) n
 by_cases hlt:i<b.length
 .let(Y,T):=l.2 _ (bf hlt);show .inr (Y,fun τ' a=>i+1<=b.length/\∃σ' G',RSt X.K a σ' τ'/\RH X.K G' a/\TK X.K L a/\I _ σ' G',fun σ' a q=>(b.length-_,by cbv,rfl,q.1,q.2),λx H3 V=>?_);let(rx,N,g):=T x H3 V;let(σ',F,h3):=u i _ σ2 j (bf hlt) z;show b3j rx (o.mono g) F fun τ' C _ _=>(σ',j,_,rt,nx,_,C,N,h3,(fun σ4 v τ4 W s d f y=>(hlt,σ4,v,d,f,(c.trans g).trans y,s)),u2.mono ((k.trans c).trans g),R.mono ((k.trans c).trans g),(fun σ4 v τ4 W s d f y=>(hlt,σ4,v,d,f,(c.trans g).trans y,s)))
 .let e:i=b.length:=by lia
  subst e;show .inl (l.1 rfl,R _ _ _ _ (E σ2 j z) o r (k.trans c))⟩
section
variable{tg l:Expr}{tl:E3}
def wkL(x:Z)(G:Hq)(R:List Z->(Hq->Prop)->Hq->Prop):Prop:=match x with
 |.ref a=>∃ws,G a=bN (.lst ws)/\R ws (λG=>G a=bN (.lst ws)) G
 |.scr _ ns=>R (ns.map Z.int) (λ_=>True) G
 |_=>False
def iL(tl:E3):I3:=fun σ G R=>tl σ G λx G1=>wkL x G1 R
def a7k{K:Fg}:a3w K ws (λG=>G a=bN (.lst ws)) (Itl K a) H:=λi G H c t g m=>by
 let(b,e,f):=c a _ g;show(λh=>(b,SqL.of e,by rw[<- f.length,h];show aN _),λw j=>?_);let(v,d,k):=f.get j;show((b,v,SqL.of e,d),?_);ext x l ⟨rfl,y⟩
 let:=y b (SqL.of e)
 rw[d]at this;cases this;show(k,c,.refl _ _)
def a8E{K:Fg}{ns:List Int}(f:Fz K H0 a (ns.map V.int)):a3w K (ns.map Z.int) (λ_=>True) (Itl K a) H0:=λi G H g t m l=>by
 let b:=(t.frz _ _ f).sq;let c:Reps K H _ _:=a4Z ns;show(λh=>(_,b,by rw[<- c.length,h];show aN _),λw j=>?_);let(v,d,e):=c.get j;show((_,v,b,d),?_);ext x k ⟨rfl,y⟩
 let:=y _ b
 rw[d]at this;cases this;show(e,g,.refl _ _)
def a1E(hl:QE X l tl):QI X tg l (iL tl):=a5R (b2P hl.p) fun τ H s k=>k.un fun σ G R i j h f=>by
 show(σ,G,_,i,j,h,λw q v o c b d g=>?_);cases w with
 |ref a=>
  let(r,e,c):=c;let(m,n,_):=d a _ e;show(a,b,(m,SqL.of n),f _ _ _ _ _ c a7k d g)
 |scr a ns=>
  show(a,b.1,(_,b.2.sq),f _ _ _ _ _ c (a8E b.2) d g)
 |_=>show aP c
def wkT(x:Z)(G:Hq)(R:List Z->(Hq->Prop)->Hq->Prop):Prop:=match x with
 |.tup ws=>R ws (λ_=>True) G
 |_=>False
def iT(tl:E3):I3:=fun σ G R=>tl σ G λx G1=>wkT x G1 R
def a8F{K:Fg}(e:H0 a=bN (.tup vs))(rs:Reps K H0 ws vs):a3w K ws (λ_=>True) (Itt K a) H0:=λi G H f t ok hi=>by
 let e:=t.tup _ _ e;let rs:=rs.mono t;show(λh=>(vs,SqT.of e,by rw[<- rs.length,h];show aN _),λw g=>?_);let(v,c,d):=rs.get g;show((vs,v,SqT.of e,c),?_);ext x H' ⟨rfl,y⟩
 let:=y vs (SqT.of e)
 rw[c]at this;cases this;show(d,f,.refl _ _)
def b5T(hl:QE X l tl):QI X tg l (iT tl):=a5R (b4X hl.p) fun τ H o j=>j.un fun σ G R m i h n=>by
 show(σ,G,_,m,i,h,λw r v q d c b k=>?_);cases w with
 |tup ws=>
  let(a,g,rfl,e,f):=c;show(a,rfl,(g,SqT.of e),n _ _ _ _ _ d (a8F e f) b k)
 |_=>show aP d
noncomputable def rng(lo:Int):Nat->List Z
 |0=>[]
 |n+1=>.int lo::rng (lo+1) n
def a0V:∀(lo:Int)(n:Nat),(rng lo n).length=n:=by ext z0 y0;induction y0 generalizing z0 with
 |zero=>show rfl
 |succ n I0=>rw[rng,aS,I0]
theorem a1F:∀{lo:Int}{n i:Nat}{w:Z},(rng lo n)[i]?=bN w->i<n/\w=.int (lo+i)
 |_,0,_,_,h=>by simp[rng]at h
 |lo,n+1,0,w,h=>by simp[rng]at h;show(by lia,by rw[<- h];simp)
 |lo,n+1,i+1,w,h=>by
  let:=a1F (by simpa[rng]using h)
  show(by lia,?_);rw[this.2]
  congr 1
  lia
def a43{K:Fg}{lo:Int}:a3w K (rng lo n) (λ_=>True) (Itr lo n) H0:=λi G H b t e g=>by
 rw[a0V];show(λh=>by rw[h];show aN _,λw d=>?_);let(a,c):=a1F d;show(a,?_);ext x f ⟨rfl,rfl⟩;show(by rw[c,a0g],b,.refl _ _)
variable{t:A3}
def iR1(t:A3):I3:=fun σ G R=>t σ G λws G1=>∃j:Int,ws=[.int j]/\-(2 ^ 62)<=j/\j<2 ^ 62/\R (rng 0 j.toNat) (λ_=>True) G1
def iR2(t:A3):I3:=fun σ G R=>t σ G λws G1=>∃i j:Int,ws=[.int i,.int j]/\(-(2 ^ 62)<=i/\i<2 ^ 62/\-(2 ^ 62)<=j/\j<2 ^ 62)/\R (rng i (j-i).toNat) (λ_=>True) G1
def a8G(h:PI X tg wi (b4Y (lowA X.K t))):QI X tg wi (iR1 t):=a5R h fun τ H p g=>g.un fun σ G R i d h l=>by
 show(σ,G,_,i,d,h,λq o n s (j,e,a,b,k) f c m=>?_);subst e;let(v,rfl,r):=f.one;subst r;show(j,rfl,a,b,l _ _ _ _ _ k a43 c m)
def a8H(h:PI X tg wi (b4Z (lowA X.K t))):QI X tg wi (iR2 t):=a5R h fun τ H q g=>g.un fun σ G R l f h n=>by
 show(σ,G,_,l,f,h,λo w p s (i,j,e,a,m) d b k=>?_);subst e;let(v,u,rfl,r,c):=d.two;subst r c;show(i,j,rfl,a,n _ _ _ _ _ m a43 b k)
end
section
variable{tg a b:Expr}{p:Pos}{t:A3}
def a7l(hg:Gl X "range")(hm:X.mg "range"=ce)(ha:QA X [a] t)(hs:fP [a] X.env=[(js,eval a X.env,)]:=by rfl):QI X tg (.Call (.Name "range" p) [a] [] pos) (iR1 t):=a8G (a7Y hg hm ha.p hs)
def a2g(hg:Gl X "range")(hm:X.mg "range"=ce)(ha:QA X [a,b] t)(hs:fP [a,b] X.env=[(js,eval a X.env,),(js,eval b X.env,)]:=by rfl)(hs2:fP [b] X.env=[(js,eval b X.env,)]:=by rfl):QI X tg (.Call (.Name "range" p) [a,b] [] pos) (iR2 t):=a8H (a7Z hg hm ha.p hs hs2)
end
noncomputable def cap3(cap:List (Option Nat))(σ:S3):S3:=cap.map λo=>o.bind λj=>(σ[j]?).join
theorem a5S{K:Fg}(h:RSt K H σ τ):∀cap:List (Option Nat),RSt K H (cap3 cap σ) (a2c cap τ)
 |[]=>.nil
 |none::cap=>.cons (λ_ e=>nomatch e) (a5S h cap)
 |some j::cap=>.cons (λw e=>by
   let a:(σ[j]?).join=bN w:=e;let b:σ[j]?=bN (bN w):=by
    cases q:σ[j]? with
    |none=>rw[q]at a;cases a
    |some o=>rw[q]at a;cases o with
     |none=>cases a
     |some z=>cases a;rfl
   let(v,c,r):=h.get b;show(v,by change (τ[j]?).join=bN v;rw[c];rfl,r)) (a5S h cap)
theorem a2h:∀{a b:L2.St},b.length=a.length->(∀(i:Nat) v,a[i]?=bN (bN v)->b[i]?=bN (bN v))->a07 a b
 |[],[],_,_=>True.intro
 |none::a,_::b,h,k=>a2h (b:=b) ↑h λi v e=>↑(k (i+1) v ↑e)
 |some x::a,y::b,h,k=>(↑(k 0 x rfl),a2h (b:=b) ↑h λi v e=>↑(k (i+1) v ↑e))
 |[],_::_,h,_=>by simp at h
 |_::_,[],h,_=>by simp at h
def LCB(ws:List Z)(ok:Hq->Prop)(cap:List (Option Nat))(pt:Pt)(tt:T3)(te:E3)(σ:S3)(R:K3)(D:Addr)(G1:Hq):Prop:=∃I:Nat->List Z->Hq->Prop,I 0 [] (put G1 D (.lst []))/\(∀i ys G,i<=ws.length->I i ys G->ok G) /\
 (∀i x ys G,ws[i]?=bN x->I i ys G->∃σ',a25 pt x (cap3 cap σ)=bN σ'/\tt σ' G λb G4=>if b=cp then te σ' G4 λy G5=>G5 D=bN (.lst ys)/\ys.length<fL/\I (i+1) (ys++[y]) (put G5 D (.lst (ys++[y]))) else I (i+1) ys G4) /\
 ∀ys G,I ws.length ys G->R (.ref D) G
def uLC(wi:I3)(cap:List (Option Nat))(pt:Pt)(tt:T3)(te:E3):E3:=fun σ G R=>wi σ G λws ok G1=>∀D,G1 D=ce->LCB ws ok cap pt tt te σ R D G1
def a7m(I:Nat->List Z->Hq->Prop)(h0:I 0 [] (put G1 D (.lst [])))(hok:∀i ys G,i<=ws.length->I i ys G->ok G)
  (step:∀i x ys G,ws[i]?=bN x->I i ys G->∃σ',a25 pt x (cap3 cap σ)=bN σ'/\tt σ' G λb G4=>if b=cp then te σ' G4 λy G5=>G5 D=bN (.lst ys)/\ys.length<fL/\I (i+1) (ys++[y]) (put G5 D (.lst (ys++[y]))) else I (i+1) ys G4)
  (fin:∀ys G,I ws.length ys G->R (.ref D) G):LCB ws ok cap pt tt te σ R D G1:=(I,h0,hok,step,fin)
def a0G{α β:Type}{f:α->Option β}{ws:List α}{x:α}(h:ws[i]?=bN x):(ws.take (i+1)).filterMap f=(ws.take i).filterMap f++(f x).toList:=by
 rw[b4,dU,h];cases e:f x<;>simp[e]
def b3k(f:Z->Option Z)(hok:∀ys,ok (put G1 D (.lst ys)))(hz:ws.length<=1000)
  (turn:∀x,x∈ws->∀(ys:List Z)(K1:K3)(K2:Hq->Prop),(∀y,f x=bN y->K1 y (put G1 D (.lst ys)))->(f x=ce->K2 (put G1 D (.lst ys)))->∃σ',a25 pt x (cap3 cap σ)=bN σ'/\tt σ' (put G1 D (.lst ys)) λb G4=>if b=cp then te σ' G4 K1 else K2 G4)
  (fin:R (.ref D) (put G1 D (.lst (ws.filterMap f)))):LCB ws ok cap pt tt te σ R D G1:=by
 show(λi a G=>a=(ws.take i).filterMap f/\G=put G1 D (.lst a),(by simp,rfl),?_,?_,?_)
 .simp_all
 .ext i x a G c ⟨e,rfl⟩;show turn x (bp c) a _ _ (λy g=>(a0a,?_,?_,?_)) λd=>(?_,rfl)
  .rw[e];show cj (be (b9 _ _) (by rw[bj];lia)) (a0q (aN 1000))
  .rw[a0G c,g,e];rfl
  .rw[a0Z]
  .rw[a0G c,d,e];simp
 .simp_all
def QIfs(X:Cx)(ifs:List Expr)(t:T3):Prop:=PIfs X ifs (lowT X.K t)
def uTT:T3:=λ_ G R=>R cp G
def b3l:QIfs X [] uTT:=by ext a s τ H Q I ⟨σ,G,R,d,b,h,c⟩;show b0s a s τ H Q I (c _ _ _ h b (.refl _ _))
def a4j(h:QT X c t):QIfs X [c] t:=b0t h.p
def b3m{pt:Pt}(hc:(pt.slots.all λj=>decide (cap[j]?=bN ce))=cp)(h:(a2c cap τ)[i]?=bN (bN v)):i∉pt.slots:=λa=>by
 let q:=of_decide_eq_true ((cB.mp hc) i a);unfold a2c at h;rw[aU,q]at h;cases h
def b1W{K:Fg}(hc:(pt.slots.all λj=>decide (cap[j]?=bN ce))=cp)(h:low K (uLC wi cap pt tt te) τ H Q) :
  tLC (lowI K wi) cap (gP K pt) (lowT K tt) (low K te) τ H Q:=by
 let(σ,G,R,hs,hg,h,up):=h;show(σ,G,_,hs,hg,h,λc ok G1 J H1 h1 hJ t U D B=>?_);let(I,i0,S,C,N):=h1 D (t.out B);show(λi m _ d=>m=c.length-i/\i<=c.length/\∃a G',RH K G' d/\TK K H1 d/\I i a G',(c.length,by simp,bo _,[],_,t.set (o:=.lst []) (.new B) ([],a0c,.nil),.new B,i0),?_);ext i m vs H2 ⟨rfl,w,a,f,p,g,E⟩;let n:=hJ i f H2 p g (S i a f w E) w
 by_cases hlt:i<c.length
 .let(go,yl):=n.2 _ (bf hlt);show .inr (go,λ_ d=>i+1<=c.length/\∃a G',RH K G' d/\TK K H1 d/\I _ a G',λvs' d q=>(c.length-_,by cbv,rfl,q.1,q.2),λx H3 y3=>?_);let(rx,aa,F):=yl x H3 y3;let(σ',Y,h3):=C i _ a f (bf hlt) E;show b3j rx (a5S (hs.mono ((U.trans g).trans F)) cap) Y fun τ' z M hk'=>(a2h M λj v T=>by rw[hk' j (b3m hc T)];show T,?_);show(σ',f,_,z,aa,h3,λb G4 H4 l u A=>?_);cases b with
  |false=>
   show(hlt,a,G4,u,(g.trans F).trans A,l)
  |true=>
   show(σ',G4,_,z.mono A,u,l,λy G5 v5 H5 (L,V,h5) r5 r t5=>?_);let(X,k,s):=r D _ L;show(X,k,by rw[<- s.length];show V,hlt,_,_,r.set (.lst k) (a00 (s.append (.cons r5 .nil)) (.lst k)),?_,h5);show (((g.trans F).trans A).trans t5).trans (.lst k)
 .let e:i=c.length:=by lia
  subst e;show .inl (n.1 rfl,up _ _ _ _ (N a f E) (by rw[a0l]) p (U.trans g))
section
variable{N':List Str}{sc:Scope}{cap:List (Option Nat)}{tg iter elt:Expr}{ifs:List Expr}{wi:I3}{pt:Pt}{tt:T3}{te:E3}
def q_lc(hc:X.calm=cp)(hNN:X.N=Nj)(hso:X.env.scope=so)(ck:capB Nj so sc N' cap=cp)(hp:(pt.slots.all λj=>decide (cap[j]?=bN ce))=cp)(hi:QI X tg iter wi)
  (hg:∀C s H fp,QP (cxC X E0 N' sc C s H fp) tg pt) (ht:∀C s H fp,QIfs (cxC X E0 N' sc C s H fp) ifs tt) (he:∀C s H fp,QE (cxC X E0 N' sc C s H fp) elt te)
  (hs:∀x,gO iter X.env x=pure x:=by ext _;rfl):QE X (.ListComp elt [(tg,iter,ifs,0)] sc pos) (uLC wi cap pt tt te):=⟨a0M (b7S (g:=gP X.K pt) (tt:=lowT X.K tt) hc a6t hNN hso ck hi hg ht (λC s H a=>(he C s H a).p) hs) λ_ _ _=>b1W hp⟩
def b3n(hN:X.N.Nodup)(hx:X.N[i]?=bN x)(hl:X.env.scope.names.lookup x=bN .local)(hc:X.calm=cp)(hNN:X.N=Nj)(hso:X.env.scope=so)(ck:capB Nj so sc N' cap=cp)
  (hp:(pt.slots.all λj=>decide (cap[j]?=bN ce))=cp) (hi:QI X tg iter wi)
  (hg:∀C s H fp,QP (cxC X E0 N' sc C s H fp) tg pt) (ht:∀C s H fp,QIfs (cxC X E0 N' sc C s H fp) ifs tt) (he:∀C s H fp,QE (cxC X E0 N' sc C s H fp) elt te)
  (hsw:gA (.ListComp elt [(tg,iter,ifs,0)] sc pos) (bN (.Name x pos')) spos.line X.env=pure cp:=by rfl)
  (hs:∀x,gO iter X.env x=pure x:=by ext _;rfl):QS X (.Assign [.Name x pos'] (.ListComp elt [(tg,iter,ifs,0)] sc pos) spos) (uAsg (uLC wi cap pt tt te) (.nm i)):=⟨a1D (b0v (g:=gP X.K pt) (tt:=lowT X.K tt) hN hx hl hc a6t hNN hso ck hi hg ht (λC s H a=>(he C s H a).p) hsw hs) λD τ H h=>b1W hp (a5Q h)⟩
end
section
variable{K:Fg}{mg:Str->Option Value}{base:Heap}
def fn3{st:Stmt}(F:Fun K x qual st f fd)(S:FnScope N ps (a0i st))(len:∀ws G R,sp ws G R->ws.length=ps.length)
  (hbody:∀(cdv:Value)(A:Around)(outer:List Env)(s:Shared)(H:Hp)(E:XK)(ws:List Z)(G:Hq)(R:K3),Room k (A.deeper (envOfC qual (a0i st) s.heap.objs.size f cdv))->sp ws G R ->
   ∃t,QSs (cxOf CX0 P w K mg base N qual (a0i st) f cdv A outer s H E).nox (a0R st) t/\t (λ_ G'=>R .non G') R (λ_ _=>False) (λ_ _=>False) (a04 N ws) G):FnOk P w K mg base CX0 (k+1) f fd ps (lowP K sp):=by
 show F.ok S (by ext n H Q E ⟨d,G,R,c,e,h,b⟩;rw[<- c.length];show len _ _ _ h) ?_;ext g A a s H n Q E j ⟨d,G,R,c,e,h,b⟩;let(t,l,q):=hbody g A a s H E d G R j h;show(_,l.p,a04 N d,G,_,R,_,_,.start c,e,q,fun σ' v τ' u m r i o=>b _ _ _ _ m (by rw[a0v]) i o,b,λ_ _ _ _ h _ _ _=>h.elim,λ_ _ _ _ h _ _ _=>h.elim)
end
def zAdd:R3:=λx y G R=>match x,y with
 |.int i,.int j=>R (.int (i+j)) G
 |.str a,.str b=>a.length+b.length<=fL/\R (.str (a++b)) G
 |.tup xs,.tup ys=>xs≠[]/\xs.length+ys.length<=fL/\R (.tup (xs++ys)) G
 |.ref p,.ref q=>∃xs ys,G p=bN (.lst xs)/\G q=bN (.lst ys)/\xs.length+ys.length<=fL/\∀t,G t=ce->R (.ref t) (put G t (.lst (xs++ys)))
 |_,_=>False
def a5T:OpQ X (fV .Add) zAdd:=a22 (op_add.or (op_add_str.or (op_catT.or b5i))) λx y H Q D=>D.un λa b G R c d f h m=>by
 cases a with
 |int i=>
  cases b with
  |int j=>rw[a0g]at c d;show .inl (_,_,c,d,m _ _ _ _ h (by rw[a0g]) f (.refl _ _))
  |_=>show aP h
 |str i=>
  cases b with
  |str j=>rw[a0r]at c d;show .inr (.inl (_,_,c,d,h.1,m _ _ _ _ h.2 (by rw[a0r]) f (.refl _ _)))
  |_=>show aP h
 |tup w=>
  cases b with
  |tup ws=>
   let(p,n,rfl,o,k):=c;let(q,r,rfl,u,l):=d;let(B,s,h):=h;show .inr (.inr (.inl (p,q,n,r,rfl,rfl,SqT.of o,SqT.of u,λz=>?_,by rw[<- k.length,<- l.length];show s,λz=>?_,λz t g=>?_)))
   .subst z;show B (dW.mp k.length)
   .subst z;let e:=dW.mp l.length;subst e;rw[bL]at h;show m _ _ _ _ h (by rw[a0S];show(p,n,rfl,o,k)) f (.refl _ _)
   .show m _ _ _ _ h (by rw[a0S];show(t,n++r,rfl,a0c,Reps.mono (.new g) _ _ (k.append l))) (f.hid g) (.new g)
  |_=>show aP h
 |ref p=>
  cases b with
  |ref q=>
   subst c d;let(n,r,o,u,s,h):=h;let(C,A,k):=f _ _ o;let(w,v,l):=f _ _ u;show .inr (.inr (.inr (_,_,C,w,rfl,rfl,A,v,by rw[<- k.length,<- l.length];show s,λt g=>m _ _ _ _ (h t (f.out g)) (by rw[a0l]) (f.set (.new g) (a00 (k.append l) (.new g))) (.new g))))
  |_=>show aP h
 |_=>show aP h
def zI(C:Int->Int->Prop)(g:Int->Int->Z):R3:=λx y G R=>match x,y with
 |.int i,.int j=>C i j/\R (g i j) G
 |_,_=>False
def zI0(g:Int->Int->Z):R3:=λx y G R=>match x,y with
 |.int i,.int j=>R (g i j) G
 |_,_=>False
def oI{g:Int->Int->Int}(h:OpR X f (rI C λi j=>.int (g i j))):OpQ X f (zI C λi j=>.int (g i j)):=a22 h λx y H Q l=>l.un λa b G R d c k h e=>by
 cases a<;>cases b<;>first
  |show aP h
  | (rw[a0g]at d c;show(_,_,d,c,h.1,e _ _ _ _ h.2 (by rw[a0g]) k (.refl _ _)))
def oI0{g:Int->Int->Int}(h:OpR X f (rI0 λi j=>.int (g i j))):OpQ X f (zI0 λi j=>.int (g i j)):=a22 h λx y H Q l=>l.un λa b G R d c k h e=>by
 cases a<;>cases b<;>first
  |show aP h
  | (rw[a0g]at d c;show(_,_,d,c,e _ _ _ _ h (by rw[a0g]) k (.refl _ _)))
def b5U:OpQ X (fV .Sub) (zI0 λi j=>.int (i-j)):=oI0 b41
def b76:OpQ X (fV .Mult) (zI CMul λi j=>.int (i*j)):=oI b42
def b5V:OpQ X (fV .FloorDiv) (zI b5u λi j=>.int (i / j)):=oI b0w
def b5W:OpQ X (fV .Mod) (zI (λ_ j=>0<j) λi j=>.int (i % j)):=oI b43
def b77:OpQ X (fV .Pow) (zI CPow λi j=>.int (i ^ j.toNat)):=oI b44
def b1X:OpQ X (gM .Add) (zI0 λi j=>.int (i+j)):=oI0 b2Q
def zNeg:Z->Hq->K3->Prop:=λx G R=>match x with
 |.int i=>R (.int (-i)) G
 |_=>False
def b78:UnQ X (iF .USub) zNeg:=b7T b45 λx H Q c=>c.un λa G R b d h e=>by
 cases a<;>first
  |show aP h
  | (rw[a0g]at b;show(_,b,e _ _ _ _ h (by rw[a0g]) d (.refl _ _)))
def a8I:OpR X (fR .LtE) (λx y H Q=>∃i j,x=.str i/\y=.str j/\Q (.bl (!decide (j.cps.toList<i.cps.toList))) H):=by
 ext b s σ H x y v u Q I a c h;let(i,j,rfl,rfl,q):=h;let(t,rfl):=a;let(d,rfl):=c;show PySem.P.le_str (a0j I q rfl)
def a8J:OpR X (fR .Gt) (λx y H Q=>∃i j,x=.str i/\y=.str j/\Q (.bl (decide (j.cps.toList<i.cps.toList))) H):=by
 ext b s σ H x y v u Q I a c h;let(i,j,rfl,rfl,q):=h;let(t,rfl):=a;let(d,rfl):=c;show PySem.P.gt_str (a0j I q rfl)
def zC(f:Int->Int->Bool)(g:Str->Str->Bool):R3:=λx y G R=>match x,y with
 |.int i,.int j=>R (.bl (f i j)) G
 |.str i,.str j=>R (.bl (g i j)) G
 |_,_=>False
def oC(h:OpR X (fR op) (rI0 λi j=>.bl (f i j)))(h':OpR X (fR op) (λx y H Q=>∃i j,x=.str i/\y=.str j/\Q (.bl (g i j)) H)) :
  OpQ X (fR op) (zC f g):=a22 (h.or h') λx y H Q l=>l.un λa b G R c d e h k=>by
 cases a<;>cases b<;>first
  |show aP h
  | (rw[a0g]at c d;show .inl (_,_,c,d,k _ _ _ _ h (by rw[a0t]) e (.refl _ _)))
  | (rw[a0r]at c d;show .inr (_,_,c,d,k _ _ _ _ h (by rw[a0t]) e (.refl _ _)))
abbrev ltS(x y:Str):Bool:=decide (x.cps.toList<y.cps.toList)
def o_lt:OpQ X (fR .Lt) (zC (λi j=>decide (i<j)) λx y=>ltS x y):=oC b7G a75
def o_le:OpQ X (fR .LtE) (zC (λi j=>decide (i<=j)) λx y=>!ltS y x):=oC b7H a8I
def o_gt:OpQ X (fR .Gt) (zC (λi j=>decide (j<i)) λx y=>ltS y x):=oC b7I a8J
def zIs(neg:Bool):R3:=λx y G R=>match y with
 |.non=>R (.bl (if neg then !decide (x=.non) else decide (x=.non))) G
 |.bl b=>match x with
  |.bl a=>neg=js/\R (.bl (a==b)) G
  |_=>False
 |_=>False
def a3T{K:Fg}(r:Rep K H jt v):decide (v=.non)=decide (jt=.non):=by
 cases jt with
 |non=>rw[a0v]at r;subst r;rfl
 |bl _=>rw[a0t]at r;subst r;simp
 |int _=>rw[a0g]at r;subst r;simp
 |str _=>rw[a0r]at r;subst r;simp
 |ref _=>rw[a0l]at r;subst r;simp
 |ty _=>rw[a8x]at r;subst r;simp
 |scr _ _=>rw[a2f]at r;let(rfl,_):=r;simp
 |tup _=>rw[a0S]at r;let(_,_,rfl,_):=r;simp
mutual
def dZ:Z->PyData
 |.bl b=>.bool b
 |.int i=>.int i
 |.str x=>.str x
 |.tup ws=>.tuple (dZs ws)
 |_=>.none
def dZs:List Z->List PyData
 |[]=>[]
 |w::ws=>dZ w::dZs ws
end
noncomputable def flat:Nat->Z->Bool
 |_,.non=>cp
 |_,.int _=>cp
 |_,.str x=>PyData.strOk x
 |n+1,.tup ws=>ws.all (flat n)
 |_,_=>js
def b1Y:∀(n:Nat)(d:Z),flat n d=cp->(dZ d).canLay0=cp/\(dZ d).depth<=n:=by
 let f:∀n,(∀d,flat n d=cp->(dZ d).canLay0=cp/\(dZ d).depth<=n)->∀a:List Z,(∀d∈a,flat n d=cp)->PyData.canLayAll0 (dZs a)=cp/\PyData.depthAll (dZs a)<=n:=by
  ext n b a
  induction a with
  |nil=>ext _;simp[dZs,PyData.canLayAll0,PyData.depthAll]
  |cons d a hi=>
   ext h;let g:=b d (h d (.head _));let c:=hi λe j=>h e (.tail _ j);simp only[dZs,PyData.canLayAll0,PyData.depthAll,g.1,c.1,Bool.and_self,true_and]
   lia
 ext n
 induction n with
 |zero=>
  ext d h;cases d<;>simp_all[flat,dZ,PyData.canLay0,PyData.depth]
 |succ n b=>
  ext d h;cases d with
  |non=>simp[dZ,PyData.canLay0,PyData.depth]
  |int i=>simp[dZ,PyData.canLay0,PyData.depth]
  |str x=>simp[flat]at h;simp[dZ,PyData.canLay0,PyData.depth,h]
  |tup a=>
   let q:=f n b a (by simpa[flat]using h);simp only[dZ,PyData.canLay0,PyData.depth,q.1,true_and]
   lia
  |_=>simp[flat]at h
def b3o(n:Nat)(ds:List Z)(h:ds.all (flat n)=cp):PyData.canLayAll0 (dZs ds)=cp/\PyData.depthAll (dZs ds)<=n:=by
 let q:=b1Y (n+1) (.tup ds) (by simpa[flat]using h);simp only[dZ,PyData.depth]at q;show(q.1,by lia)
def a8K:∀(n:Nat)(d e:Z)(k:Nat),flat n d=cp->flat k e=cp->(PyData.eqv (dZ d) (dZ e)=cp↔d=e):=by
 let all:∀(n:Nat),(∀d e k,flat n d=cp->flat k e=cp->(PyData.eqv (dZ d) (dZ e)=cp↔d=e))->∀(k:Nat)(ds es:List Z),(∀d∈ds,flat n d=cp)->(∀d∈es,flat k d=cp) ->
   (PyData.eqvAll (dZs ds) (dZs es)=cp↔ds=es):=by
  ext n ih k ds
  induction ds with
  |nil=>ext es _ _;cases es<;>simp[dZs,PyData.eqvAll]
  |cons d ds hi=>
   ext es h1 h2;cases es with
   |nil=>simp[dZs,PyData.eqvAll]
   |cons e es=>
    let q1:=ih d e k (h1 d (.head _)) (h2 e (.head _));let q2:=hi es (λx hx=>h1 x (.tail _ hx)) λx hx=>h2 x (.tail _ hx);simp only[dZs,PyData.eqvAll,bW,q1,q2,cV.injEq]
 ext n
 induction n with
 |zero=>
  ext d e k h1 h2;cases d<;>cases e<;>simp_all[flat,dZ,PyData.eqv]
 |succ n ih=>
  ext d e k h1 h2;cases d with
  |tup ds=>
   cases e with
   |tup es=>
    cases k with
    |zero=>simp[flat]at h2
    |succ k=>
     simp only[dZ,PyData.eqv,Z.tup.injEq];show all n ih k ds es (by simpa[flat]using h1) (by simpa[flat]using h2)
   |_=>simp_all[flat,dZ,PyData.eqv]
  |_=>cases e<;>simp_all[flat,dZ,PyData.eqv]
def b3p(n k:Nat)(ds es:List Z)(h:ds.all (flat n)=cp)(h':es.all (flat k)=cp):PyData.eqvAll (dZs ds) (dZs es)=cp↔ds=es:=by
 let q:=a8K (n+1) (.tup ds) (.tup es) (k+1) (by simpa[flat]using h) (by simpa[flat]using h');simpa only [dZ,PyData.eqv,Z.tup.injEq]using q
section
variable{K:Fg}
def b0F:∀(n:Nat)(w:Z)(v:V),flat n w=cp->Rep K H w v->DV H (dZ w) v:=by
 let g:∀n,(∀w v,flat n w=cp->Rep K H w v->DV H (dZ w) v)->∀b c,(∀d∈b,flat n d=cp)->Reps K H b c->DVs H (dZs b) c:=by
  ext n f b
  induction b with
  |nil=>ext c _ r;show r
  |cons w b hi=>
   ext c h r;let(v,j,e,o,l):=r;show(v,j,e,f w v (h w (.head _)) o,hi j (λd k=>h d (.tail _ k)) l)
 ext n
 induction n with
 |zero=>
  ext w v h r;cases w with
  |non=>rw[a0v]at r;show r
  |int i=>rw[a0g]at r;show r
  |str x=>rw[a0r]at r;show r
  |_=>simp[flat]at h
 |succ n f=>
  ext w v h r;cases w with
  |non=>rw[a0v]at r;show r
  |int i=>rw[a0g]at r;show r
  |str x=>rw[a0r]at r;show r
  |tup b=>
   let(a,c,e,p,m):=r;show(a,c,e,p,g n f b c (by simpa[flat]using h) m)
  |_=>simp[flat]at h
def a8L(n:Nat):∀(ws:List Z)(vs:List V),ws.all (flat n)=cp->Reps K H ws vs->DVs H (dZs ws) vs:=by ext z0;induction z0 with
 |nil=>ext vs _ r;rw[a0f]at r;simp only[dZs];unfold DVs;show r
 |cons w ws I0=>
  ext vs h r;let(v,a,e,b,c):=r;rw[b5,bW]at h;show(v,a,e,b0F n w v h.1 b,I0 a h.2 c)
end
def a1G(h:flat n jt=cp)(hn:n<=64):SeqAt.shaped (dZ jt)=cp:=by
 let q:=b1Y n jt h;unfold SeqAt.shaped;rw[q.1,bX];show decide_eq_true (by lia)
def a1H(h:ws.all (flat n)=cp)(hn:n<=63):SeqAt.shaped (.list (dZs ws))=cp:=by
 let q:=b3o n ws h;unfold SeqAt.shaped;simp only[PyData.canLay0,PyData.depth,q.1];show decide_eq_true (by lia)
def a5U{p:Prop}[Decidable p](h:a=cp↔p):a=decide p:=by
 cases a with
 |true=>show (decide_eq_true (h.mp rfl)).symm
 |false=>show (decide_eq_false λq=>by cases h.mpr q).symm
def a0Q{p q:Prop}[Decidable p][Decidable q](h:p=q):decide p=decide q:=by grind
def zEq(f:Bool->Bool):R3:=λx y G R=>match x,y with
 |.bl a,.bl b=>R (.bl (f (a==b))) G
 |.int a,.int b=>R (.bl (f (decide (a=b)))) G
 |.str a,.str b=>R (.bl (f (decide (a=b)))) G
 |.ref p,.ref q=>∃xs ys,G p=bN (.lst xs)/\G q=bN (.lst ys)/\xs.all (flat 8)=cp/\ys.all (flat 8)=cp/\R (.bl (f (decide (xs=ys)))) G
 |x,y=>flat 8 x=cp/\flat 8 y=cp/\R (.bl (f (decide (x=y)))) G
def b1Z{K:Fg}(h:low2 K (zEq f) x y H Q) :
    (scal x y=cp/\Q (.bl (f (decide (x=y)))) H)\/∃d e,DV H d x/\DV H e y/\SeqAt.shaped d=cp/\SeqAt.shaped e=cp/\Q (.bl (f (PyData.eqv d e))) H:=by
  let(a,b,G,R,g,c,i,h,j):=h;let p:flat 8 a=cp/\flat 8 b=cp/\R (.bl (f (decide (a=b)))) G->∃d e,DV H d x/\DV H e y/\SeqAt.shaped d=cp/\SeqAt.shaped e=cp/\Q (.bl (f (PyData.eqv d e))) H:=by
    ext⟨n,m,w⟩;show(dZ a,dZ b,b0F 8 _ _ n g,b0F 8 _ _ m c,a1G n (by simp),a1G m (by simp),?_);rw[a5U (a8K 8 a b 8 n m)];show j _ _ _ _ w (by rw[a0t]) i (.refl _ _)
  cases a<;>cases b<;>first
    |show .inr (p h)
    | (rw[a0t]at g c;subst g c;show .inl (rfl,by rw[a72];show j _ _ _ _ h (by rw[a0t]) i (.refl _ _)))
    | (rw[a0g]at g c;subst g c;show .inl (rfl,by rw[a0Q (V.int.injEq _ _)];show j _ _ _ _ h (by rw[a0t]) i (.refl _ _)))
    | (rw[a0r]at g c;subst g c;show .inl (rfl,by rw[a0Q (V.str.injEq _ _)];show j _ _ _ _ h (by rw[a0t]) i (.refl _ _)))
    | (rw[a0l]at g c
       subst g c;let(r,s,t,z,k,l,h):=h;let(u,q,v):=i _ _ t;let(B,o,A):=i _ _ z;show .inr (.list _,.list _,?_,?_,a1H k (by simp),a1H l (by simp),?_);show(_,u,rfl,q,a8L 8 _ _ k v);show(_,B,rfl,o,a8L 8 _ _ l A)
       . simp only[PyData.eqv]
         rw[a5U (b3p 8 8 r s k l)];show j _ _ _ _ h (by rw[a0t]) i (.refl _ _))
def o_eq(hu:X.A.units+66<cLine):OpQ X (fR .Eq) (zEq id):=a22 (op_eq.or (b5s hu)) λx y H Q h=>b1Z h
def o_ne(hu:X.A.units+66<cLine):OpQ X (fR .NotEq) (zEq not):=a22 (op_ne.or (b5t hu)) λx y H Q h=>b1Z h
def zIn(f:Bool->Bool):R3:=λx y G R=>match x,y with
 |.str a,.str b=>R (.bl (f (!(fU.Str.occurrences b a 0 b.length 1).isEmpty))) G
 |x,.ref q=>∃ws,G q=bN (.lst ws)/\flat 8 x=cp/\ws.all (flat 8)=cp/\R (.bl (f (decide (x∈ws)))) G
 |x,.tup ws=>flat 8 x=cp/\ws.all (flat 8)=cp/\R (.bl (f (decide (x∈ws)))) G
 |_,_=>False
def b3q(x:Z)(hx:flat 8 x=cp):∀ws:List Z,ws.all (flat 8)=cp->((dZs ws).any λy=>PyData.eqv y (dZ x))=decide (x∈ws):=by ext z0;induction z0 with
 |nil=>ext _;simp[dZs]
 |cons w ws I0=>
  ext h;rw[b5,bW]at h;simp only[dZs,cI];rw[I0 h.2,a5U (a8K 8 w x 8 h.1 hx)]
  by_cases e:w=x
  .simp_all
  .let:¬ x=w:=λz=>e z.symm
   simp[e,this]
def b5X(hf:∀b,f b=if neg=cp then !b else b){K:Fg}(h:low2 K (zIn f) x y H Q) :
  (∃i j,x=.str i/\y=.str j/\Q (.bl (f (!(fU.Str.occurrences j i 0 j.length 1).isEmpty))) H)\/rInD neg x y H Q:=by
 let(a,b,G,R,o,m,r,h,t):=h;let s:∀p c d,y=.ref p->_->Reps K H c d->flat 8 a=cp->c.all _=cp->R _ G->rInD neg x y H Q:=λp c d e w n k g h=>by
  show(dZ a,p,dZs c,d,b0F 8 _ _ k o,e,w,a8L 8 _ _ g n,a1G k (by simp),a1H g (by simp),?_);rw[b3q a k c g,<- hf];show t _ _ _ _ h (by rw[a0t]) r (.refl _ _)
 cases b with
 |str j=>
  cases a with
  |str i=>rw[a0r]at o m;show .inl (_,_,o,m,t _ _ _ _ h (by rw[a0t]) r (.refl _ _))
  |_=>show aP h
 |ref q=>
  let l:∃c,G q=bN (.lst c)/\flat 8 a=cp/\c.all (flat 8)=cp/\R (.bl (f (decide (a∈c)))) G:=by cases a<;>show h
  let(c,e,k,g,l):=l;let(d,u,n):=r q _ e;show .inr (s q c d m (.inl u) n k g l)
 |tup c=>
  let(q,d,e,v,n):=m;let l:flat 8 a=cp/\c.all (flat 8)=cp/\R (.bl (f (decide (a∈c)))) G:=by cases a<;>show h
  let(k,g,l):=l;show .inr (s q c d e (.inr v) n k g l)
 |_=>cases a<;>show aP h
def b3r(hu:X.A.units+66<cLine):OpQ X (fR .NotIn) (zIn not):=a22 (op_notin_str.or (a8w hu)) λx y H Q h=>b5X (λb=>by simp) h
noncomputable def Its(x:Str):It:=(λi _=>i<x.cps.size,λi H v H'=>H'=H/\∃c,x.cps[i]?=bN c/\v=.str ⟨#[c]⟩,λi _=>i=x.cps.size)
theorem a6w{P:fO}{w:World}{K:Fg}{tg:Expr}{it:Addr}{ty:String}{x:Str}{t:Tok}
  (hty:["enumerate","zip","dict_itemiterator","dict_reverseitemiterator","odict_iterator","itertools.zip_longest","itertools.pairwise"].contains ty=js)
  (W:∀A':Around,A'.handled=ce->Walks P w A' it [it] [it] x.cps.size (SignAt x) (λi h=>h.IsStrIter it ty x t i))
  (hself:∀(A:Around)(i:Nat)(s:Shared)(Q:Value->Shared->Prop)(E:Value->Shared->Prop),s.heap.IsStrIter it ty x t i->Q (.ref it) s->wpAny (model P w) A (pyIter (.ref it)) Q E s) :
  Turn P w K tg (Its x) [it] it (λi h=>h.IsStrIter it ty x t i) where
 mem:=by simp
 obj:=λi h st b hb=>by
  let e:b=it:=↑hb
  subst e;let(o,e,c,d):=st;show(o,e,λv z=>by rw[d]at z;cases z)
 keep:=λi h h' st k=>let (o,e,r):=st;(o,k it (by simp) o e,r)
 item:=by
  ext X hP hw hK hc i pins s σ H E I hf st hg;subst hP hw hK;let(f0,f1,f2,f3,f4,f5):=hf it (by simp);show (W X.A (I.ok.hd hc)).item i s _ _ hg st λv h' tk (c,u,hx,e) st' k=>?_;subst e;let I1:Inv X pins σ H { s with heap:=h',toks:=tk }:=I.turned (t':=tk) (λb o hb e=>k b o ↑hb e) f0 f1 f3 f4 f5;let(o,e,cl,d):=id st';show(_,rfl,a7W (s:={ s with heap:=h',toks:=tk }) e cl d hty (.str ⟨#[c]⟩,H,I1,(_,rfl),(rfl,c,hx,rfl),st',λb hb=>(hf b hb).1))
 done:=by
  ext X hP hw hK hc i pins s σ H E I hf st hg;subst hP hw hK;let(f0,f1,f2,f3,f4,f5):=hf it (by simp);let hg':i=x.cps.size:=hg;subst hg';show (W X.A (I.ok.hd hc)).done s _ _ st λh' tk k=>(rfl,I.turned (t':=tk) (λb o hb e=>k b o ↑hb e) f0 f1 f3 f4 f5)
 self:=hself
def iStr(tl:TE):TI:=fun σ H R=>tl σ H λv H1=>∃x,v=.str x/\R (Its x) H1
def b5Y(hl:PE X l tl):PI X tg l (iStr tl):=by
 ext c s σ H R I h;show thn (hl c s σ H _ I h) λv a (x,f,d,p,m)=>?_;let(y,e,q):=m;subst e;let(t,rfl):=p;let j:∀(o:Obj),∀b∈[a.heap.objs.size],FpOk X c f b:=λo b k=>by
  let e:b=a.heap.objs.size:=↑k
  subst e;show d.fpOk (aN _) (d.hok.fresh (aN _))
 cases ha:y.cps.all _
 .show wpAny_pyIter_wide ha ?_;show(a.heap.objs.size,[a.heap.objs.size],_,_,f,rfl,d.kept (λb o e=>Heap.get?_push_of_some _ e),a6w (by decide) (λn i=>Walks.strWide i _ y t) (λ_ _ _ _ _ g h=>wpAny_pyIter_striter_wide g h),
   (_,Heap.get?_push_size _ rfl,rfl,rfl),j default,q)
 .show wpAny_pyIter_ascii ha ?_;show(a.heap.objs.size,[a.heap.objs.size],_,_,f,rfl,d.kept (λb o e=>Heap.get?_push_of_some _ e),a6w (by decide) (λn i=>Walks.strAscii i _ y t) (λ_ _ _ _ _ g h=>wpAny_pyIter_striter_ascii g h),
   (_,Heap.get?_push_size _ rfl,rfl,rfl),j default,q)
theorem Vals.tog:∀{xs:List V}{us:List Value}{i:Nat}{u:Value},Vals xs us->us[i]?=bN u->∃x,xs[i]?=bN x/\RelV x u
 |_,_,_,_,.nil,e=>by simp at e
 |_,_,0,_,.cons r _,e=>by simp at e;subst e;show(_,rfl,r)
 |_,_,i+1,u,.cons _ t,e=>by
  let(x,a,b):=Vals.tog t ↑e;show(x,↑a,b)
def a7n:∀{ys:List Str}{us:List Value},Vals (ys.map V.str) us->h9 us ys:=by ext z0;induction z0 with
 |nil=>ext us r;rw[bt]at r;cases r;show .nil
 |cons y ys I0=>
  ext us r;cases r with
  |cons r1 r2=>
   let(t,e):=r1;subst e;show .cons y t (I0 r2)
def a8M(bs:List Bool):(cQ bs.length).all (λi=>bs.getD i js)=bs.all id:=by
 rw[cz];simp only[cB,eK,id]
 constructor
 .ext h b c;let(i,a,e):=dX c
  let:=h i a
  rw[eT,bf a]at this;rw[<- e];show this
 .ext h i a;rw[eT,bf a];show h _ (cL a)
def a8N(hc:X.calm=cp):CallR X (.builtin "all") (λxs H Q=>∃(p:Addr)(bs:List Bool),xs=[.ref p]/\SqL X.K H p (bs.map V.bl)/\Q (.bl (bs.all id)) H):=by
 ext n s σ H M R Q I r h;let(p,a,rfl,E,q):=h;let(u,rfl,y):=a2X r;cases y;let(d,l,g,_):=I.list E;let B:p<s.heap.objs.size:=by let(o,_,e,_):=g;show Heap.lt_size e
 show call_all_walk (i7 g.isList ?_);let D:X.A.in1.handled=ce:=I.ok.hd hc;let t:(s.heap.push { cls:=.type "list_iterator",data:=.fields #[.ref p,rawInt 0] }).IsList p d.toArray:=by
  let(o,e,c):=g.isList;show(o,Heap.get?_push_of_some _ e,c)
 show(_,_,_,_,_,_,λi=>a.getD i js,rfl,Walks.list D s.heap.objs.size p (aZ B) d.toArray,((_,Heap.get?_push_size _ rfl,rfl,rfl),t),?_,?_)
 .ext i v N L J C j;let(x,f,w):=Vals.tog l ↑C;rw[aU]at f;cases hb:a[i]? with
  |none=>rw[hb]at f;cases f
  |some b=>
   rw[hb]at f;cases f;cases w;show gz ?_
   let:a.getD i js=b:=by simp_all
   dsimp only at j;rw[this]at j;show j
 .ext G F k;let e:(cQ d.toArray.size).all (λi=>a.getD i js)=a.all id:=by
   let z:d.toArray.size=a.length:=by rw[bJ,<- l.length,aM]
   rw[z];show a8M a
  rw[e];show(.bl _,H,I.kept (λb o m=>k b o ↑(aZ (Heap.lt_size m)) (Heap.get?_push_of_some _ m)),rfl,q)
def b5Z:OpR X (fR .Is) (λx y H Q=>∃a b,x=.bl a/\y=.bl b/\Q (.bl (a==b)) H):=by
 ext d s σ H x y v u Q I c e h;let(a,b,rfl,rfl,q):=h;cases c;cases e;show wpAny_is_plain rfl (a0j I q (by cases a<;>cases b<;>rfl))
def b3s:MtR X "str.join" (λx vs H Q=>∃(z:Str)(p:Addr)(ys:List Str),x=.str z/\vs=[.ref p]/\SqL X.K H p (ys.map V.str)/\(ys.map (·.length)).sum+ys.length*z.length<=16777216/\Q (.str (Txt.join z ys)) H):=by
 ext c s σ H x m v n Q I a g h;let(z,p,o,rfl,rfl,d,i,q):=h;let(t,rfl):=a;let(u,rfl,f):=a2X g;cases f;let(j,b,e,_):=I.list d;show join_list e.isList ↑(a7n b) i λl k=>(.str _,H,I.tok k,(_,rfl),q)
def rSlS:V->Option Int->Option Int->Hp->VK->Prop:=λx lo hi H Q=>∃z,x=.str z/\z.length<=fL/\Q (.str (Txt.slice z lo hi)) H
def b50:SlR X rSlS:=by
 ext g s σ H x v A B f b C Q I w p y m h;let(z,rfl,r,q):=h;let(t,rfl):=w;let(o,e,c,d):=p;let a:∀f b,Q _ H->(Txt.slice z f b).length<=fL/\∀n k,EP X g σ Q (.str (Txt.slice z f b) n) { s with toks:=k }:=λf b q=>
  (be (Txt.slice_le z _ _) r,λn k=>(.str _,H,I.tok k,(_,rfl),q))
 cases y with
 |none=>
  cases m with
  |none=>show("str",_,F.slot_str_getitem.lookup,hG _ _ _,iK (l:=ce) (u:=ce) (st:=ce) (o,e,c,d) rfl (iM (a _ _ q)))
  |int j u=>show("str",_,F.slot_str_getitem.lookup,hG _ _ _,iK (l:=ce) (u:=bN (j,u,)) (st:=ce) (o,e,c,d) rfl (iM (a _ _ q)))
 |int i v=>
  cases m with
  |none=>show("str",_,F.slot_str_getitem.lookup,hG _ _ _,iK (l:=bN (i,v,)) (u:=ce) (st:=ce) (o,e,c,d) rfl (iM (a _ _ q)))
  |int j u=>show("str",_,F.slot_str_getitem.lookup,hG _ _ _,iK (l:=bN (i,v,)) (u:=bN (j,u,)) (st:=ce) (o,e,c,d) rfl (iM (a _ _ q)))
def o_is:OpQ X (fR .Is) (zIs js):=a22 (op_isN.or b5Z) λx y H Q g=>g.un λa b G R d c e h f=>by
 cases b with
 |non=>rw[a0v]at c;show .inl (c,by rw[a3T d];show f _ _ _ _ h (by rw[a0t];rfl) e (.refl _ _))
 |bl b=>
  cases a with
  |bl a=>rw[a0t]at d c;show .inr (_,_,d,c,f _ _ _ _ h.2 (by rw[a0t]) e (.refl _ _))
  |_=>show aP h
 |_=>show aP h
def b3t:OpQ X (fR .IsNot) (zIs cp):=a22 b2R λx y H Q d=>d.un λa b G R g c e h f=>by
 cases b with
 |non=>rw[a0v]at c;show(c,by rw[a3T g];show f _ _ _ _ h (by rw[a0t];rfl) e (.refl _ _))
 |bl b=>
  cases a with
  |bl a=>show nomatch h.1
  |_=>show aP h
 |_=>show aP h
def zIx:R3:=λx y G R=>match x,y with
 |.ref p,.int i=>∃ws w,G p=bN (.lst ws)/\atI ws i=bN w/\R w G
 |.scr _ ns,.int i=>∃n,atI ns i=bN n/\R (.int n) G
 |.tup ws,.int i=>∃w,atI ws i=bN w/\R w G
 |.str z,.int i=>∃c,z.length<=fL/\atI z.cps.toList i=bN c/\R (.str ⟨#[c]⟩) G
 |_,_=>False
def a8O{K:Fg}(r:Reps K H ws vs)(h:atI ws i=bN jt):∃v,atI vs i=bN v/\Rep K H jt v:=by
 unfold atI at h ⊢;rw[<- r.length];cases e:ixN ws.length i with
 |none=>rw[e]at h;cases h
 |some j=>
  rw[e]at h;show r.get h
def b3u{α β:Type}{f:α->β}{xs:List α}{x:α}(h:atI xs i=bN x):atI (xs.map f) i=bN (f x):=by
 unfold atI at h ⊢;rw[aM];cases e:ixN xs.length i with
 |none=>rw[e]at h;cases h
 |some j=>
  rw[e]at h;let a:xs[j]?=bN x:=h
  change _[j]?=bN _
  rw[aU,a];rfl
def x_ix:IxQ X zIx:=b5x b5f λx y H Q s=>s.un λa b G R d f g h i=>by
  cases a<;>cases b<;>first
    |show aP h
    | (rw[a0l]at d
       let(z,w,e,m,h):=h;let(q,k,j):=g _ _ e;let(v,o,l):=a8O j m;show .inl (_,_,_,v,d,f,SqL.of k,o,i _ _ _ _ h l g (.refl _ _)))
    | (rw[a2f]at d
       let(n,u,h):=h;show .inl (_,_,_,_,d.1,f,d.2.sq,b3u u,i _ _ _ _ h (by rw[a0g]) g (.refl _ _)))
    | (rw[a0S]at d
       let(p,q,e,k,j):=d;let(w,m,h):=h;let(v,o,l):=a8O j m;show .inr (.inl (p,q,_,v,e,f,SqT.of k,o,i _ _ _ _ h l g (.refl _ _))))
    | (rw[a0r]at d
       let(c,r,t,h):=h;show .inr (.inr (_,_,c,d,f,r,t,i _ _ _ _ h (by rw[a0r]) g (.refl _ _))))
noncomputable def cutZ{α:Type}(xs:List α)(lo hi:Option Int):List α:=(xs.drop (HT.sIx xs.length 0 lo)).take (HT.sIx xs.length xs.length hi-HT.sIx xs.length 0 lo)
def b3v(xs:List V)(lo hi:Option Int):cutV xs lo hi=cutZ xs lo hi:=rfl
def a5V{α:Type}(xs:List α)(lo hi:Option Int):(cutZ xs lo hi).length<=xs.length:=by
 unfold cutZ;rw[bj,bT];cbv
def Reps.cut{K:Fg}(r:Reps K H ws vs)(lo hi:Option Int):Reps K H (cutZ ws lo hi) (cutV vs lo hi):=by
 unfold cutZ cutV;rw[<- r.length];show (r.drop _).take _
def b0G{α β:Type}(f:α->β)(xs:List α)(lo hi:Option Int):cutZ (xs.map f) lo hi=(cutZ xs lo hi).map f:=by
 unfold cutZ;rw[aM,List.map_take,List.map_drop]
def zSl:L3r:=λx lo hi G R=>match x with
 |.ref p=>∃ws,G p=bN (.lst ws)/\∀t,G t=ce->R (.ref t) (put G t (.lst (cutZ ws lo hi)))
 |.scr _ ns=>∀t,G t=ce->R (.ref t) (put G t (.lst ((cutZ ns lo hi).map Z.int)))
 |.tup ws=>¬ (HT.sIx ws.length 0 lo=0/\HT.sIx ws.length ws.length hi=ws.length)/\R (.tup (cutZ ws lo hi)) G
 |.str z=>z.length<=fL/\R (.str (Txt.slice z lo hi)) G
 |_=>False
def x_sl:SlQ X zSl:=b7X (sl_list.or (sl_tup.or b50)) λx l k H Q m=>m.un λa G R c d h g=>by
 cases a with
 |ref p=>
  let(n,e,h):=h;let(j,i,f):=d _ _ e;show .inl (p,j,c,SqL.of i,λt b=>g _ _ _ _ (h t (d.out b)) (by rw[a0l]) (d.set (.new b) (a00 (f.cut l k) (.new b))) (.new b))
 |scr p ns=>
  show .inl (p,_,c.1,c.2.sq,λt b=>?_);rw[b3v,b0G];show g _ _ _ _ (h t (d.out b)) (by rw[a0l]) (d.set (.new b) (a00 (a4Z _) (.new b))) (.new b)
 |tup n=>
  let(p,j,e,i,f):=c;show .inr (.inl (p,j,e,SqT.of i,by rw[<- f.length];show h.1,λt b=>g _ _ _ _ h.2 (by rw[a0S];show(t,_,rfl,a0c,(f.cut l k).mono (.new b))) (d.hid b) (.new b)))
 |str z=>
  show .inr (.inr (z,c,h.1,g _ _ _ _ h.2 (by rw[a0r]) d (.refl _ _)))
 |_=>show aP h
def zSet:Z3:=λo i v G R=>match o,i with
 |.ref p,.int k=>∃ws j,G p=bN (.lst ws)/\ixN ws.length k=bN j/\R (put G p (.lst (ws.set j v)))
 |_,_=>False
def b3w:SetQ X zSet:=b1V b0n λo i v H Q p=>p.un λa b w G R f g l k h q=>by
  cases a<;>cases b<;>first
    |show aP h
    | (rw[a0l]at f
       let(r,j,e,m,h):=h;let(n,c,d):=k _ _ e;show(_,n,_,j,f,g,c,by rw[<- d.length];show m,q _ _ h (k.set (.lst c) (a00 (d.set l j) (.lst c))) (.lst c)))
def zLen:List Z->Hq->K3->Prop:=λxs G R=>match xs with
 |[.str z]=>z.length<=fL/\R (.int z.length) G
 |[.ref p]=>∃ws,G p=bN (.lst ws)/\R (.int ws.length) G
 |[.tup ws]=>R (.int ws.length) G
 |[.scr _ ns]=>R (.int ns.length) G
 |_=>False
def b3x:a1m X (.builtin "len") zLen:=a0W b0e λl H Q k=>k.un λj G R c a h d=>by
 match j,h with
 |[.str z],h=>
  let(v,rfl,r):=c.one;show(v,z.length,rfl,by rw[r];show(h.1,rfl),d _ _ _ _ h.2 (by rw[a0g]) a (.refl _ _))
 |[.ref p],h=>
  let(v,rfl,r):=c.one;let(i,e,h):=h;let(g,f,b):=a _ _ e;show(v,i.length,rfl,by rw[r];show .inl (g,SqL.of f,b.length),d _ _ _ _ h (by rw[a0g]) a (.refl _ _))
 |[.tup i],h=>
  let(v,rfl,r):=c.one;let(p,g,e,f,b):=r;show(v,i.length,rfl,by rw[e];show .inr (g,SqT.of f,b.length),d _ _ _ _ h (by rw[a0g]) a (.refl _ _))
 |[.scr p ns],h=>
  let(v,rfl,r):=c.one;show(v,ns.length,rfl,by rw[r.1];show .inl (_,r.2.sq,(aM ..).symm),d _ _ _ _ h (by rw[a0g]) a (.refl _ _))
def zMM(f:Int->Int->Int):List Z->Hq->K3->Prop:=λxs G R=>match xs with
 |[.int i,.int j]=>R (.int (f i j)) G
 |_=>False
def bMM{id:String}(hf:CallR X (.builtin id) (λxs H Q=>∃i j,xs=[.int i,.int j]/\Q (.int (f i j)) H)):a1m X (.builtin id) (zMM f):=a0W hf λl H Q d=>d.un λc G R e b h g=>by
 match c,h with
 |[.int i,.int j],h=>
  let(v,k,rfl,r,a):=e.two;show(i,j,by rw[r,a],g _ _ _ _ h (by rw[a0g]) b (.refl _ _))
def b79(hc:X.calm=cp):a1m X (.builtin "max") (zMM λi j=>if j > i then j else i):=bMM (a78 hc)
def b8a(hc:X.calm=cp):a1m X (.builtin "min") (zMM λi j=>if j<i then j else i):=bMM (a79 hc)
def zAll:List Z->Hq->K3->Prop:=λxs G R=>match xs with
 |[.ref p]=>∃bs:List Bool,G p=bN (.lst (bs.map Z.bl))/\R (.bl (bs.all id)) G
 |_=>False
def b0H{K:Fg}:∀{bs:List Bool}{vs:List V},Reps K H (bs.map Z.bl) vs->vs=bs.map V.bl:=by ext z0;induction z0 with
 |nil=>ext vs h;rw[bt,a0f]at h;subst h;rfl
 |cons n ns I0=>
  ext vs h;let(v,r,rfl,a,b):=h;rw[a,I0 b];rfl
def a8P{K:Fg}:∀{bs:List Str}{vs:List V},Reps K H (bs.map Z.str) vs->vs=bs.map V.str:=by ext z0;induction z0 with
 |nil=>ext vs h;rw[bt,a0f]at h;subst h;rfl
 |cons n ns I0=>
  ext vs h;let(v,r,rfl,a,b):=h;rw[a,I0 b];rfl
def b51(hc:X.calm=cp):a1m X (.builtin "all") zAll:=a0W (a8N hc) λl H Q f=>f.un λd G R c a h j=>by
 match d,h with
 |[.ref p],h=>
  let(v,rfl,r):=c.one;let(g,e,h):=h;let(k,i,b):=a _ _ e
  let:=b0H b
  subst this;show(p,g,by rw[r],SqL.of i,j _ _ _ _ h (by rw[a0t]) a (.refl _ _))
noncomputable def kit0(n T:String):Option Bool:=if (Value.type n==Value.type T)=cp then bN cp else if PySem.W.kitMeta T=cp then (PySem.fastBuiltinMro n).map (·.contains (.type T)) else ce
def b52{K:Fg}:PySem.W.kitOne K (.type n) (.type T)=kit0 n T:=rfl
noncomputable def tyN(G:Hq):Z->Option String
 |.non=>bN "NoneType"
 |.bl _=>bN "bool"
 |.int _=>bN "int"
 |.str _=>bN "str"
 |.tup _=>bN "tuple"
 |.ref p=>match G p with
  |some (.lst _)=>bN "list"
  |some (.dK _)=>bN "dict"
  |_=>ce
 |_=>ce
def zIsT:List Z->Hq->K3->Prop:=λxs G R=>match xs with
 |[x,.ty T]=>∃n b,tyN G x=bN n/\kit0 n T=bN b/\R (.bl b) G
 |_=>False
def b0I{K:Fg}(h:tyN G x=bN n)(r:Rep K H x v)(hg:RH K G H):TyOf K H v (.type n):=by
 cases x with
 |non=>rw[a0v]at r;subst r;cases h;show .non
 |bl _=>rw[a0t]at r;subst r;cases h;show .bl _
 |int _=>rw[a0g]at r;subst r;cases h;show .int _
 |str _=>rw[a0r]at r;subst r;cases h;show .str _
 |tup ws=>rw[a0S]at r;let(a,c,rfl,e,_):=r;cases h;show .tup e
 |ref p=>
  subst r;cases e:G p with
  |none=>simp[tyN,e]at h
  |some o=>
   cases o with
   |lst ws=>simp[tyN,e]at h;subst h;let(c,b,_):=hg _ _ e;show .lst b
   |dK kvs=>simp[tyN,e]at h;subst h;let(c,b,_):=hg _ _ e;show .dK b
   |ins C dx fs=>simp[tyN,e]at h
   |dF kvs=>simp[tyN,e]at h
   |dT ks=>simp[tyN,e]at h
   |tab _ _=>simp[tyN,e]at h
 |ty _=>cases h
 |scr _ _=>cases h
def b8b:a1m X (.builtin "isinstance") zIsT:=a0W b0x λl H Q g=>g.un λf G R d a h i=>by
 match f,h with
 |[x,.ty T],h=>
  let(v,j,rfl,r,c):=d.two;let(n,b,e,k,h):=h;show(v,T,.type n,b,by rw[c],b0I e r a,by rw[b52];show k,i _ _ _ _ h (by rw[a0t]) a (.refl _ _))
def a5W:Z->List Z->Hq->K3->Prop:=λx xs G R=>match x,xs with
 |.ref p,[y]=>∃ws,G p=bN (.lst ws)/\ws.length<fL/\R .non (put G p (.lst (ws++[y])))
 |_,_=>False
def b0J:MtQ X "list.append" a5W:=a7j a4Y λx n H Q j=>j.un λw k G R c f d h l=>by
 match w,k,h with
 |.ref p,[y],h=>
  let(v,rfl,r):=f.one;let(m,e,g,h):=h;let(i,a,b):=d _ _ e;show(p,i,v,c,rfl,a,by rw[<- b.length];show g,l _ _ _ _ h (by rw[a0v]) (d.set (.lst a) (a00 (b.append (.cons r .nil)) (.lst a))) (.lst a))
def a8Q:Z->List Z->Hq->K3->Prop:=λx xs G R=>match x,xs with
 |.ref p,[.ref q]=>∃ws ys,G p=bN (.lst ws)/\G q=bN (.lst ys)/\ws.length+ys.length<=fL/\R .non (put G p (.lst (ws++ys)))
 |_,_=>False
def b0K:MtQ X "list.extend" a8Q:=a7j a8k λx u H Q m=>m.un λw n G R d i f h s=>by
 match w,n,h with
 |.ref p,[.ref q],h=>
  let(v,rfl,r):=i.one;let(t,y,e,k,j,h):=h;let(l,a,c):=f _ _ e;let(o,g,b):=f _ _ k;show(p,q,l,o,d,by rw[r],a,g,by rw[<- c.length,<- b.length];show j,s _ _ _ _ h (by rw[a0v]) (f.set (.lst a) (a00 (c.append b) (.lst a))) (.lst a))
def b53:Z->List Z->Hq->K3->Prop:=λx xs G R=>match x,xs with
 |.ref p,[]=>∃ws,G p=bN (.lst ws)/\R .non (put G p (.lst []))
 |_,_=>False
def b3y:MtQ X "list.clear" b53:=a7j b0o λx m H Q i=>i.un λw f G R b c d h j=>by
 match w,f,h with
 |.ref p,[],h=>
  let(l,e,h):=h;let(g,a,k):=d _ _ e;show(p,g,b,c,a,j _ _ _ _ h (by rw[a0v]) (d.set (.lst a) (a00 .nil (.lst a))) (.lst a))
def b54:Z->List Z->Hq->K3->Prop:=λx xs G R=>match x,xs with
 |.str z,[.ref p]=>∃ys:List Str,G p=bN (.lst (ys.map Z.str))/\(ys.map (·.length)).sum+ys.length*z.length<=16777216/\R (.str (Txt.join z ys)) G
 |_,_=>False
def b10:MtQ X "str.join" b54:=a7j b3s λx n H Q i=>i.un λw f G R a j b h l=>by
 match w,f,h with
 |.str z,[.ref p],h=>
  let(v,rfl,r):=j.one;let(g,e,k,h):=h;let(m,d,c):=b _ _ e
  let:=a8P c
  subst this;show(z,p,g,a,by rw[r],SqL.of d,k,l _ _ _ _ h (by rw[a0r]) b (.refl _ _))
def b55:E3:=λ_ G R=>∀p,G p=ce->R (.ref p) (put G p (.dK []))
def b11:QE X (.Dict [] [] pos) b55:=⟨a0M b0r fun τ H Q (σ,G,R,d,b,h,c) p a=>c _ _ _ _ (h p (b.out a)) (by rw[a0l]) (b.set (.new a) ([],a0c,rfl,.nil)) (.new a)⟩
noncomputable def a2y(x:Str):List Z:=x.cps.toList.map λc=>.str ⟨#[c]⟩
def wkS(x:Z)(G:Hq)(R:List Z->(Hq->Prop)->Hq->Prop):Prop:=match x with
 |.str z=>R (a2y z) (λ_=>True) G
 |_=>False
def iS(tl:E3):I3:=fun σ G R=>tl σ G λx G1=>wkS x G1 R
def a8R{K:Fg}:a3w K (a2y x) (λ_=>True) (Its x) H0:=λi G H f t j k=>by
 let e:(a2y x).length=x.cps.size:=by unfold a2y;rw[aM,bU]
 show(λh=>by rw[h,e];rfl,λw a=>?_);unfold a2y at a;rw[aU]at a;cases hc:x.cps.toList[i]? with
 |none=>rw[hc]at a;cases a
 |some c=>
  rw[hc]at a;cases a;let b:x.cps[i]?=bN c:=by simp_all
  show((Array.getElem?_eq_some_iff.mp b).1,?_);ext v l ⟨rfl,g,d,rfl⟩;rw[b]at d;cases d;show(by rw[a0r],f,.refl _ _)
def b56(hl:QE X l tl):QI X tg l (iS tl):=a5R (b5Y hl.p) fun τ H j g=>g.un fun σ G R f e h i=>by
 show(σ,G,_,f,e,h,λw m v k a c b d=>?_);cases w with
 |str x=>
  show(x,c,i _ _ _ _ _ a a8R b d)
 |_=>show aP a
section
variable{σ:S3}{G:Hq}{R:K3}{Rb:Bool->Hq->Prop}{Ra:List Z->Hq->Prop}{nx bk ct:C3}{rt:K3}{t u:X3}{te ta tb tc ti:E3}{c d:T3}{al:A3}{r r':R3}{w x y:Z}{i:Nat}
def b8c(e:σ[i]?=bN (bN w))(h:R w G):uVar i σ G R:=(w,e,h)
def i_c(h:R w G):uC w σ G R:=h
def i_op(h:ta σ G λx G1=>tb σ G1 λy G2=>r x y G2 R):uOp r ta tb σ G R:=h
def i_un{r:Z->Hq->K3->Prop}(h:ta σ G λx G1=>r x G1 R):uUn r ta σ G R:=h
def b57(h:ta σ G λx G1=>∃k,x=.bl k/\Rb k G1):a8A ta σ G Rb:=h
def b3z(h:ta σ G λx G1=>tb σ G1 λy G2=>r x y G2 λz G3=>∃k,z=.bl k/\(if k=cp then tc σ G3 λw G4=>r' y w G4 R else R (.bl js) G3)):a6v r r' ta tb tc σ G R:=h
def b8d(h:c σ G λk G1=>if k=cp then d σ G1 Rb else Rb js G1):uAnd c d σ G Rb:=h
def i_or(h:c σ G λk G1=>if k=cp then Rb cp G1 else d σ G1 Rb):uOr c d σ G Rb:=h
def b8e(h:c σ G λk G1=>Rb (!k) G1):uNot c σ G Rb:=h
def b58(h:ta σ G λx G1=>∃c,x=.bl c/\if c=cp then tb σ G1 R else R (.bl js) G1):b5D ta tb σ G R:=h
def b8f(h:ta σ G λx G1=>∃c,x=.bl c/\if c=cp then R (.bl cp) G1 else tb σ G1 R):uOrV ta tb σ G R:=h
def b59(h:ta σ G λx G1=>∃c,x=.bl c/\R (.bl (!c)) G1):b5E ta σ G R:=h
def i_if(h:c σ G λk G1=>if k=cp then ta σ G1 R else tb σ G1 R):uIf c ta tb σ G R:=h
def b8g(h:ta σ G λx G1=>tru x G1 Rb):uTru ta σ G Rb:=h
def a8S(e:G p=bN (.lst ws))(h:Rb (!ws.isEmpty) G):tru (.ref p) G Rb:=.inl (ws,e,h)
def i_sl{r:L3r}(h:te σ G λx G1=>tl σ G1 λl G2=>th σ G2 λu G3=>r x l u G3 R):uSl r te tl th σ G R:=h
def b0L(h:Ro ce G):a8B σ G Ro:=h
def b6a(h:te σ G λx G1=>∃i,x=.int i/\Ro (bN i) G1):b5H te σ G Ro:=h
def b8h(h:Ra [] G):uNil σ G Ra:=h
def b6b(h:ta σ G λx G1=>al σ G1 λxs G2=>Ra (x::xs) G2):b3f ta al σ G Ra:=h
def b8i(h:al σ G λxs G1=>xs.length<=fL/\R (.tup xs) G1):uTup al σ G R:=h
def b8j(h:al σ G λxs G1=>xs.length<=fL/\∀p,G1 p=ce->R (.ref p) (put G1 p (.lst xs))):uLst al σ G R:=h
def i_cb{r:List Z->Hq->K3->Prop}(h:al σ G λws G1=>r ws G1 R):uCB r al σ G R:=h
def b8k{r:Z->List Z->Hq->K3->Prop}(h:to σ G λx G1=>tyZ T x G1/\r x [] G1 R):uBM0 T r to σ G R:=h
def i_bm{r:Z->List Z->Hq->K3->Prop}(h:to σ G λx G1=>tyZ T x G1/\al σ G1 λxs G2=>r x xs G2 R):uBM T r to al σ G R:=h
def b6c(h:al σ G λws G1=>sp ws G1 R):b0D sp al σ G R:=h
def b6d(h:nx σ G):b3h nx rt bk ct σ G:=h
def b6e(h:te σ G λ_ G1=>nx σ G1):b5P te nx rt bk ct σ G:=h
def b8l(h:te σ G rt):uRet te nx rt bk ct σ G:=h
def b8m(h:c σ G λb G1=>if b=cp then t nx rt bk ct σ G1 else u nx rt bk ct σ G1):uIfS c t u nx rt bk ct σ G:=h
def b8n(h:te σ G λx G1=>∃σ',a25 pt x σ=bN σ'/\nx σ' G1):uAsg te pt nx rt bk ct σ G:=h
def b8o{r:Z3}(h:te σ G λw G1=>to σ G1 λo G2=>ti σ G2 λi G3=>r o i w G3 λG4=>nx σ G4):uPut te to ti r nx rt bk ct σ G:=h
def b0M(M:C3)(h:t M rt bk ct σ G)(h':∀σ' G',M σ' G'->u nx rt bk ct σ' G'):uCut t u nx rt bk ct σ G:=(M,h,h')
def b6f(h:R (.int (a+b)) G):zAdd (.int a) (.int b) G R:=h
def a8T(z:a.length+b.length<=fL)(h:R (.str (a++b)) G):zAdd (.str a) (.str b) G R:=(z,h)
def a6x(e:xs≠[])(z:xs.length+ys.length<=fL)(h:R (.tup (xs++ys)) G):zAdd (.tup xs) (.tup ys) G R:=(e,z,h)
def a8U(e:G p=bN (.lst xs))(e':G q=bN (.lst ys))(z:xs.length+ys.length<=fL)(h:∀t,G t=ce->R (.ref t) (put G t (.lst (xs++ys)))):zAdd (.ref p) (.ref q) G R:=(xs,ys,e,e',z,h)
def i_I(k:C a b)(h:R (g a b) G):zI C g (.int a) (.int b) G R:=(k,h)
def i_I0(h:R (g a b) G):zI0 g (.int a) (.int b) G R:=h
def b8p(h:R (.int (-a)) G):zNeg (.int a) G R:=h
def i_CI(h:R (.bl (f a b)) G):zC f g (.int a) (.int b) G R:=h
def i_CS(h:R (.bl (g a b)) G):zC f g (.str a) (.str b) G R:=h
def b3A(h:R (.bl (decide (x=.non))) G):zIs js x .non G R:=h
def b6g(h:R (.bl (!decide (x=.non))) G):zIs cp x .non G R:=h
def b6h(h:R (.bl (f (decide (a=b)))) G):zEq f (.int a) (.int b) G R:=h
def b8q(h:R (.bl (f (decide (a=b)))) G):zEq f (.str a) (.str b) G R:=h
def b0N(e:G p=bN (.lst xs))(e':G q=bN (.lst ys))(f1:xs.all (flat 8)=cp)(f2:ys.all (flat 8)=cp)(h:R (.bl (f (decide (xs=ys)))) G):zEq f (.ref p) (.ref q) G R:=(xs,ys,e,e',f1,f2,h)
def a0B(e:G p=bN (.lst ws))(a:atI ws k=bN w)(h:R w G):zIx (.ref p) (.int k) G R:=(ws,w,e,a,h)
def b8r(a:atI ns k=bN n)(h:R (.int n) G):zIx (.scr p ns) (.int k) G R:=(n,a,h)
def a4k(a:atI ws k=bN w)(h:R w G):zIx (.tup ws) (.int k) G R:=(w,a,h)
def b3B(l:z.length<=fL)(a:atI z.cps.toList k=bN ch)(h:R (.str ⟨#[ch]⟩) G):zIx (.str z) (.int k) G R:=(ch,l,a,h)
def b3C{lo hi:Option Int}(l:z.length<=fL)(h:R (.str (Txt.slice z lo hi)) G):zSl (.str z) lo hi G R:=(l,h)
def b8s{lo hi:Option Int}(h:∀t,G t=ce->R (.ref t) (put G t (.lst ((cutZ ns lo hi).map Z.int)))):zSl (.scr p ns) lo hi G R:=h
def a7o{lo hi:Option Int}(n:¬ (HT.sIx ws.length 0 lo=0/\HT.sIx ws.length ws.length hi=ws.length))(h:R (.tup (cutZ ws lo hi)) G):zSl (.tup ws) lo hi G R:=(n,h)
def b3D(e:G p=bN (.lst ws))(a:ixN ws.length k=bN j)(h:Rg (put G p (.lst (ws.set j w)))):zSet (.ref p) (.int k) w G Rg:=(ws,j,e,a,h)
def b6i(h:∀p,G p=ce->R (.ref p) (put G p (.dK []))):b55 σ G R:=h
def a6y(l:z.length<=fL)(h:R (.int z.length) G):zLen [.str z] G R:=(l,h)
def a3U(e:G p=bN (.lst ws))(h:R (.int ws.length) G):zLen [.ref p] G R:=(ws,e,h)
def b6j(h:R (.int ns.length) G):zLen [.scr p ns] G R:=h
def i_mm(h:R (.int (f a b)) G):zMM f [.int a,.int b] G R:=h
def b8t{bs:List Bool}(e:G p=bN (.lst (bs.map Z.bl)))(h:R (.bl (bs.all id)) G):zAll [.ref p] G R:=(bs,e,h)
def a5X(e:tyN G x=bN n)(k:kit0 n T=bN b)(h:R (.bl b) G):zIsT [x,.ty T] G R:=(n,b,e,k,h)
def a09(e:G p=bN (.lst ws))(z:ws.length<fL)(h:R .non (put G p (.lst (ws++[y])))):a5W (.ref p) [y] G R:=(ws,e,z,h)
def a6z(e:G p=bN (.lst ws))(e':G q=bN (.lst ys))(z:ws.length+ys.length<=fL)(h:R .non (put G p (.lst (ws++ys)))):a8Q (.ref p) [.ref q] G R:=(ws,ys,e,e',z,h)
def b6k(e:G p=bN (.lst (ys.map Z.str)))(l:(ys.map (·.length)).sum+ys.length*z.length<=16777216)(h:R (.str (Txt.join z ys)) G):b54 (.str z) [.ref p] G R:=(ys,e,l,h)
def b8u{P:Prop}(h:P):tyZ "str" (.str z) G/\P:=(rfl,h)
def a2z{P:Prop}(e:G p=bN (.lst ws))(h:P):tyZ "list" (.ref p) G/\P:=(.inl (rfl,ws,e),h)
def i_nm(h:nx (σ.set j (bN w)) G):∃σ',a25 (.nm j) w σ=bN σ'/\nx σ' G:=(_,rfl,h)
def b6l{tb:X3}(h:wi σ G λws ok G1=>FORB ws ok pt tb nx rt σ G1):uFor wi pt tb nx rt bk ct σ G:=h
def b8v(h:wi σ G λws ok G1=>∀D,G1 D=ce->LCB ws ok cap pt tt te σ R D G1):uLC wi cap pt tt te σ G R:=h
variable{Ri:List Z->(Hq->Prop)->Hq->Prop}
def i_iL(h:te σ G λx G1=>wkL x G1 Ri):iL te σ G Ri:=h
def i_iT(h:te σ G λx G1=>wkT x G1 Ri):iT te σ G Ri:=h
def i_iS(h:te σ G λx G1=>wkS x G1 Ri):iS te σ G Ri:=h
def b8w(h:al σ G λws G1=>∃j:Int,ws=[.int j]/\-(2 ^ 62)<=j/\j<2 ^ 62/\Ri (rng 0 j.toNat) (λ_=>True) G1):iR1 al σ G Ri:=h
def b8x(h:al σ G λws G1=>∃i j:Int,ws=[.int i,.int j]/\(-(2 ^ 62)<=i/\i<2 ^ 62/\-(2 ^ 62)<=j/\j<2 ^ 62)/\Ri (rng i (j-i).toNat) (λ_=>True) G1):iR2 al σ G Ri:=h
def a1i(e:G p=bN (.lst ws))(h:Ri ws (λG=>G p=bN (.lst ws)) G):wkL (.ref p) G Ri:=(ws,e,h)
def b8y(h:Ri ws (λ_=>True) G):wkT (.tup ws) G Ri:=h
def b8z(h:Ri (a2y z) (λ_=>True) G):wkS (.str z) G Ri:=h
def i_tt(h:Rb cp G):uTT σ G Rb:=h
end
def ifD{p A B:Prop}[Decidable p](h1:p->A)(h2:¬ p->B):if decide p=cp then A else B:=by simp_all
def ifN{p A B:Prop}[Decidable p](h1:¬ p->A)(h2:p->B):if (!decide p)=cp then A else B:=by simp_all
def ifB{A B:Prop}(h1:b=cp->A)(h2:b=js->B):if b=cp then A else B:=by simp_all
def ifNB{A B:Prop}(h1:b=js->A)(h2:b=cp->B):if (!b)=cp then A else B:=by grind
def ifT{A B:Prop}(h:A):if cp=cp then A else B:=by rw[if_pos rfl];show h
def ifF{A B:Prop}(h:B):if js=cp then A else B:=by rw[if_neg (by decide)];show h
def ifNN{A B:Prop}(h:A):if decide (Z.non=Z.non)=cp then A else B:=by simp_all
def ifNI{A B:Prop}(h:B):if decide (Z.int i=Z.non)=cp then A else B:=by rw[if_neg (by simp)];show h
def ifMN{A B:Prop}(h:B):if (!decide (Z.non=Z.non))=cp then A else B:=by rw[if_neg (by simp)];show h
def ifMI{A B:Prop}(h:A):if (!decide (Z.int i=Z.non))=cp then A else B:=by rw[if_pos (by simp)];show h
def at0{α:Type}{a:α}{r:List α}:atI (a::r) 0=bN a:=a1A (j:=0) rfl
def at1{α:Type}{a b:α}{r:List α}:atI (a::b::r) 1=bN b:=a1A (j:=1) rfl
def Sm(G G':Hq):Prop:=∀b o,G b=bN o->G' b=bN o
def Sm.refl(G:Hq):Sm G G:=λ_ _ h=>h
def Sm.trans(a:Sm G G1)(b:Sm G1 G2):Sm G G2:=λc o h=>b c o (a c o h)
def Sm.get(s:Sm G G')(h:G b=bN o):G' b=bN o:=s b o h
def Sm.new(h:G p=ce):Sm G (put G p o):=λ_ _ e=>a0e e h
def Sm.free(s:Sm G G')(h:G' p=ce):G p=ce:=by
 cases e:G p with
 |none=>rfl
 |some o=>rw[s p o e]at h;cases h
def Kq(r:Addr)(G G':Hq):Prop:=∀b o,G b=bN o->b≠r->G' b=bN o
def Kq.refl(r:Addr)(G:Hq):Kq r G G:=λ_ _ h _=>h
def Kq.trans(a:Kq r G G1)(b:Kq r G1 G2):Kq r G G2:=λc o h n=>b c o (a c o h n) n
def Kq.new(h:G p=ce):Kq r G (put G p o):=λ_ _ e _=>a0e e h
def Kq.at:Kq r G (put G r o):=λ_ _ e n=>by rw[a0h n];show e
def Sm.kq(s:Sm G G'):Kq r G G':=λb o e _=>s b o e
noncomputable def Sm.put(s:Sm G G')(h:G p=ce):Sm G (put G' p o):=λb u e=>by rw[a0h (a0x e h)];show s b u e
namespace Tim
abbrev KF:=Keyed->Int
noncomputable def Kk(κ:KF)(xs:Array Keyed)(i:Nat):Int:=match xs[i]? with
 |some p=>κ p
 |none=>0
section
variable{xs ys:Array Keyed}{i j:Nat}{p:Keyed}
def a5Y(h:xs[i]?=bN p):Kk κ xs i=κ p:=by unfold Kk;rw[h]
def a26(h:xs[i]?=ys[j]?):Kk κ xs i=Kk κ ys j:=by unfold Kk;rw[h]
end
def LtOk(M:Model)(A:Around)(E:Value->Shared->Prop)(s:Shared)(κ:KF)(k0:ge)(a₀:Array Keyed):Prop:=
 ∀x y,x∈a₀.toList->y∈a₀.toList->∀(st:SortSt)(Q:Option Bool->SortSt->Prop),kindOf st=k0->Q (bN (decide (κ x<κ y))) st->wpS M A E s (lt' x y) Q st
structure TB (k0:ge) (a₀:Array Keyed) (st:SortSt):Prop where
 pm:(arrOf st).Perm a₀
 kd:kindOf st=k0
 fl:f8 st=ce
def TB.sz{st:SortSt}(h:TB k0 a₀ st):(arrOf st).size=a₀.size:=h.pm.size_eq
def TB.mem{st:SortSt}(h:TB k0 a₀ st){i:Nat}(e:(arrOf st)[i]?=bN p):p∈a₀.toList:=by
 let a:p∈(arrOf st).toList:=by rw[eO];show Array.mem_of_getElem? e
 show (cW.mp h.pm).mem_iff.mp a
def TB.arr{st:SortSt}(h:TB k0 a₀ st)(hp:xs.Perm (arrOf st)):TB k0 a₀ (setArr st xs):=(hp.trans h.pm,h.kd,h.fl)
section
variable{M:Model}{k0:ge}{st:SortSt}
def a0C(e:arr[i]?=bN p)(h:Q p st):wpS M A E s (elem' arr i) Q st:=by
 rw[elem'_eq,e];show fN h
def a44(L:LtOk M A E s κ k0 a₀)(B:TB k0 a₀ st)(hi:i<a₀.size)(hj:j<a₀.size)
  (h:Q (bN (decide (Kk κ (arrOf st) i<Kk κ (arrOf st) j))) st):wpS M A E s (ltAt' i j) Q st:=by
 let b:_[i]?=bN ((arrOf st)[i]'(B.sz▸hi)):=getElem?_pos ..;let a:(arrOf st)[j]?=bN ((arrOf st)[j]'(B.sz▸hj)):=getElem?_pos ..;show fM (gg (fM (a0C b (fM (a0C a (L _ _ (B.mem b) (B.mem a) st Q B.kd ?_))))));rw[a5Y b,a5Y a]at h;show h
end
noncomputable def a1n:Bool->Keyed->Array Keyed->Nat->Nat->Nat->StateT SortSt Sem (Option Nat):=sortPriv% PySem.Builtin.gallop
noncomputable def bey(lft:Bool)(ky:Keyed)(ar:Array Keyed)(bs:Nat)(q:Nat):StateT SortSt Sem (Option Bool):=do
  let z <- elem' ar (bs+q)
  if lft then lt' z ky else return (<- lt' ky z).map (!·)
def a7p(lft:Bool)(ky:Keyed)(ar:Array Keyed)(bs n hnt:Nat):a1n lft ky ar bs n hnt=(do
 let mut lst:=0
 let mut oo:=1
 let mut l:=0
 let mut h:=0
 let bN rgt <- bey lft ky ar bs hnt |return ce
 if rgt then
  let mx:=n-hnt
  for _ in [0:n] do
   if oo>=mx then break
   let bN mo <- bey lft ky ar bs (hnt+oo) |return ce
   if !mo then break
   lst:=oo
   oo:=2*oo+1
  l:=hnt+lst+1
  h:=hnt+min oo mx
 else
  let mx:=hnt+1
  for _ in [0:n] do
   if oo>=mx then break
   let bN fo <- bey lft ky ar bs (hnt-oo) |return ce
   if fo then break
   lst:=oo
   oo:=2*oo+1
  l:=hnt+1-min oo mx
  h:=hnt-lst
 for _ in [0:n] do
  if l>=h then break
  let m:=l+(h-l) / 2
  let bN mo <- bey lft ky ar bs m |return ce
  if mo then l:=m+1 else h:=m
 return bN h):=rfl
noncomputable def bq(lft:Bool)(k x:Int):Bool:=if lft then decide (x<k) else !decide (k<x)
section
variable{M:Model}{k0:ge}{st:SortSt}
def a8V(L:LtOk M A E s κ k0 a₀)(hk:kindOf st=k0)(hm:ky∈a₀.toList)(ha:∀p∈ar.toList,p∈a₀.toList)(hq:bs+q<ar.size)
  (h:Q (bN (bq lft (κ ky) (Kk κ ar (bs+q)))) st):wpS M A E s (bey lft ky ar bs q) Q st:=by
 let b:ar[bs+q]?=bN (ar[bs+q]'hq):=getElem?_pos ..;let a:ar[bs+q]∈a₀.toList:=ha _ (by simp);show fM (a0C b ?_);rw[a5Y b]at h;cases lft with
 |true=>
  show L _ _ a hm st Q hk h
 |false=>
  show fM (L _ _ hm a st _ hk (fN h))
def hvN{l r:Nat}(h:¬ l>=r):l<=l+(r-l) / 2/\l+(r-l) / 2<r:=by cbv
def hvM{p q:Nat}(h:¬ p>=q):p<=(p+q) / 2/\(p+q) / 2<q:=by cbv
def hvS{k x p q m:Nat}(h:x<k)(h2:q-p<=k-x)(h3:p<=m)(h4:m<q):m-p<=k-(x+1)/\q-(m+1)<=k-(x+1):=by cbv
def hvC{a b n:Nat}(m:a<b)(o:a<=n):n+1-min b (n+1)<=n-a:=by cbv
def hvD{a b h n:Nat}(m:a<b)(o:h+a<n):h+a+1<=h+min b (n-h):=by cbv
def a1t(L:LtOk M A E s κ k0 a₀)(hk:kindOf st=k0)(hm:ky∈a₀.toList)(ha:∀p∈ar.toList,p∈a₀.toList)
  (hn:bs+n<=ar.size) (hh:hnt<n) (mono:∀i j,i<=j->j<n->Kk κ ar (bs+i)<=Kk κ ar (bs+j))
  (h:∀h,h<=n->(∀i,i<h->bq lft (κ ky) (Kk κ ar (bs+i))=cp)->(∀i,h<=i->i<n->bq lft (κ ky) (Kk κ ar (bs+i))=js)->Q (bN h) st):wpS M A E s (a1n lft ky ar bs n hnt) Q st:=by
 let t:∀i j,i<=j->j<n->bq lft (κ ky) (Kk κ ar (bs+j))=cp->bq lft (κ ky) (Kk κ ar (bs+i))=cp:=λi j C F H=>by
  let:=mono i j C F
  unfold bq at *;cases lft<;>simp at *<;>lia
 let D:∀i j,i<=j->j<n->bq lft (κ ky) (Kk κ ar (bs+i))=js->bq lft (κ ky) (Kk κ ar (bs+j))=js:=λi j C F H=>by grind
 rw[a7p];show fM (a8V L hk hm ha (by lia) ?_);dsimp only;cases e0:bq lft (κ ky) (Kk κ ar (bs+hnt)) with
 |true=>
  rw[if_pos rfl];show fM (f9 (f7 (I:=λx c d=>d=st/\Ex2 λa b=>An5 (c=(ce,a,b,)) (a<b) (x+1<=b) (hnt+a<n) (bq lft (κ ky) (Kk κ ar (bs+(hnt+a)))=cp))
   (Q:=λc d=>d=st/\Ex2 λa b=>An5 (c=(ce,a,b,)) (a<b) (hnt+a<n) (bq lft (κ ky) (Kk κ ar (bs+(hnt+a)))=cp) (n-hnt<=b\/(hnt+b<n/\bq lft (κ ky) (Kk κ ar (bs+(hnt+b)))=js))) ?step ?fin ?init) ?post)
  case init=>show(rfl,0,1,rfl,by lia,by lia,by lia,e0)
  case fin=>
   ext c d ⟨rfl,a,b,rfl,m,k,o,f⟩;show(rfl,a,b,rfl,m,o,f,.inl (by lia))
  case step=>
   ext x c d _ G ⟨rfl,a,b,rfl,m,k,o,f⟩;dsimp only
   by_cases hge:b>=n-hnt
   .rw[if_pos hge];show fN (rfl,a,b,rfl,m,o,f,.inl hge)
   .rw[if_neg hge];show fM (a8V L hk hm ha (by lia) ?_);cases e:bq lft (κ ky) (Kk κ ar (bs+(hnt+b))) with
    |true=>
     dsimp only;rw[if_neg (by decide)];show fN (rfl,b,2*b+1,rfl,by lia,by lia,by lia,e)
    |false=>
     dsimp only;rw[if_pos (show (!false)=cp from rfl)];show fN (rfl,a,b,rfl,m,o,f,.inr (by lia,e))
  case post=>
   ext c d ⟨y,a,b,rfl,m,o,f,g⟩;let y:=y.symm;subst y;dsimp only;let q:=hvD m o;let w:hnt+min b (n-hnt)<=n:=by lia
   let v:∀i,i<hnt+a+1->bq lft (κ ky) (Kk κ ar (bs+i))=cp:=λi J=>t i _ (by lia) (by lia) f;let u:∀i,hnt+min b (n-hnt)<=i->i<n->bq lft (κ ky) (Kk κ ar (bs+i))=js:=λi B z=>by grind
   generalize hnt+a+1=l0 at q v ⊢;generalize hnt+min b (n-hnt)=h0 at q w u ⊢;show fM (f9 (f7 (I:=λx c d=>d=st/\Ex2 λl r=>An6 (c=(ce,l,r,)) (l<=r) (r<=n) (r-l<=n-x) (∀i,i<l->bq lft (κ ky) (Kk κ ar (bs+i))=cp) (∀i,r<=i->i<n->bq lft (κ ky) (Kk κ ar (bs+i))=js))
    (Q:=λc d=>d=st/\∃l,An4 (c=(ce,l,l,)) (l<=n) (∀i,i<l->bq lft (κ ky) (Kk κ ar (bs+i))=cp) (∀i,l<=i->i<n->bq lft (κ ky) (Kk κ ar (bs+i))=js)) ?st2 ?fi2 ?in2) ?po2)
   case in2=>show(rfl,l0,h0,rfl,q,w,by lia,v,u)
   case fi2=>
    ext c d ⟨rfl,l,r,rfl,m,k,o,f,g⟩
    let:l=r:=by lia
    subst this;show(rfl,l,rfl,k,f,g)
   case st2=>
    ext x c d _ G ⟨rfl,l,r,rfl,m,k,o,f,g⟩;dsimp only
    by_cases hge:l>=r
    .rw[if_pos hge]
     let:l=r:=by lia
     subst this;show fN (rfl,l,rfl,k,f,g)
    .rw[if_neg hge];show fM (a8V L hk hm ha (by lia) ?_);cases e:bq lft (κ ky) (Kk κ ar (bs+(l+(r-l) / 2))) with
     |true=>
      dsimp only;rw[if_pos rfl];show fN (rfl,_,r,rfl,(hvN hge).2,k,(hvS G o (hvN hge).1 (hvN hge).2).2,λi J=>t i _ (by lia) (by lia) e,g)
     |false=>
      dsimp only;rw[if_neg (by decide)];show fN (rfl,l,_,rfl,(hvN hge).1,by lia,(hvS G o (hvN hge).1 (hvN hge).2).1,f,λi B z=>D _ i B z e)
   case po2=>
    ext c d ⟨rfl,l,rfl,k,f,g⟩;show fN (h l k f g)
 |false=>
  rw[if_neg (by decide)];show fM (f9 (f7 (I:=λx c d=>d=st/\Ex2 λa b=>An5 (c=(ce,a,b,)) (a<b) (x+1<=b) (a<=hnt) (bq lft (κ ky) (Kk κ ar (bs+(hnt-a)))=js))
   (Q:=λc d=>d=st/\Ex2 λa b=>An5 (c=(ce,a,b,)) (a<b) (a<=hnt) (bq lft (κ ky) (Kk κ ar (bs+(hnt-a)))=js) (hnt+1<=b\/(b<=hnt/\bq lft (κ ky) (Kk κ ar (bs+(hnt-b)))=cp))) ?step ?fin ?init) ?post)
  case init=>show(rfl,0,1,rfl,by lia,by lia,by lia,e0)
  case fin=>
   ext c d ⟨rfl,a,b,rfl,m,k,o,f⟩;show(rfl,a,b,rfl,m,o,f,.inl (by lia))
  case step=>
   ext x c d _ G ⟨rfl,a,b,rfl,m,k,o,f⟩;dsimp only
   by_cases hge:b>=hnt+1
   .rw[if_pos hge];show fN (rfl,a,b,rfl,m,o,f,.inl hge)
   .rw[if_neg hge];show fM (a8V L hk hm ha (by lia) ?_);cases e:bq lft (κ ky) (Kk κ ar (bs+(hnt-b))) with
    |true=>
     dsimp only;rw[if_pos rfl];show fN (rfl,a,b,rfl,m,o,f,.inr (by lia,e))
    |false=>
     dsimp only;rw[if_neg (by decide)];show fN (rfl,b,2*b+1,rfl,by lia,by lia,by lia,e)
  case post=>
   ext c d ⟨y,a,b,rfl,m,o,f,g⟩;let y:=y.symm;subst y;dsimp only;let q:=hvC m o;let w:hnt-a<=n:=by lia
   let v:∀i,i<hnt+1-min b (hnt+1)->bq lft (κ ky) (Kk κ ar (bs+i))=cp:=λi J=>g.elim (λz=>by cbv) λz=>t i _ (by cbv) (by cbv) z.2;let u:=λi B z=>D _ i B z f;generalize hnt+1-min b (hnt+1)=l0 at q v ⊢;generalize hnt-a=h0 at q w u ⊢;show fM (f9 (f7 (I:=λx c d=>d=st/\Ex2 λl r=>An6 (c=(ce,l,r,)) (l<=r) (r<=n) (r-l<=n-x) (∀i,i<l->bq lft (κ ky) (Kk κ ar (bs+i))=cp) (∀i,r<=i->i<n->bq lft (κ ky) (Kk κ ar (bs+i))=js))
    (Q:=λc d=>d=st/\∃l,An4 (c=(ce,l,l,)) (l<=n) (∀i,i<l->bq lft (κ ky) (Kk κ ar (bs+i))=cp) (∀i,l<=i->i<n->bq lft (κ ky) (Kk κ ar (bs+i))=js)) ?st2 ?fi2 ?in2) ?po2)
   case in2=>show(rfl,l0,h0,rfl,q,w,by lia,v,u)
   case fi2=>
    ext c d ⟨rfl,l,r,rfl,m,k,o,f,g⟩
    let:l=r:=by lia
    subst this;show(rfl,l,rfl,k,f,g)
   case st2=>
    ext x c d _ G ⟨rfl,l,r,rfl,m,k,o,f,g⟩;dsimp only
    by_cases hge:l>=r
    .rw[if_pos hge]
     let:l=r:=by lia
     subst this;show fN (rfl,l,rfl,k,f,g)
    .rw[if_neg hge];show fM (a8V L hk hm ha (by lia) ?_);cases e:bq lft (κ ky) (Kk κ ar (bs+(l+(r-l) / 2))) with
     |true=>
      dsimp only;rw[if_pos rfl];show fN (rfl,_,r,rfl,(hvN hge).2,k,(hvS G o (hvN hge).1 (hvN hge).2).2,λi J=>t i _ (by lia) (by lia) e,g)
     |false=>
      dsimp only;rw[if_neg (by decide)];show fN (rfl,l,_,rfl,(hvN hge).1,by lia,(hvS G o (hvN hge).1 (hvN hge).2).1,f,λi B z=>D _ i B z e)
   case po2=>
    ext c d ⟨rfl,l,rfl,k,f,g⟩;show fN (h l k f g)
end
noncomputable def a8W:Nat->StateT SortSt Sem Unit:=sortPriv% PySem.Builtin.setMinGallop
def a4l(g:Nat):a8W g=modify λs=>SortSt.mk' (kindOf s) (arrOf s) (fQ s) g (f8 s):=rfl
noncomputable def a4m:Array Keyed->Array Keyed->StateT SortSt Sem (Array Keyed):=sortPriv% PySem.Builtin.mergeLo
abbrev dnA(a b o:Array Keyed)(i j:Nat):Array Keyed:=o++a.extract i a.size++b.extract j b.size
abbrev dnB(a b o:Array Keyed)(i j:Nat):Array Keyed:=o++b.extract j b.size++a.extract i a.size
section
variable{A B o:List Keyed}{i j:Nat}{p:Keyed}
abbrev Srt(κ:KF)(l:List Keyed):Prop:=l.Pairwise λx y=>κ x<=κ y
structure MW (κ:KF) (A B o:List Keyed) (i j:Nat):Prop where
 ia:i<=A.length
 jb:j<=B.length
 pm:(o++(A.drop i++B.drop j)).Perm (A++B)
 so:Srt κ o
 ba:∀x∈o,∀y∈A.drop i,κ x<=κ y
 bb:∀x∈o,∀y∈B.drop j,κ x<=κ y
theorem MW.size(W:MW κ A B o i j):o.length=i+j:=by
 let:=W.pm.length_eq
 let b:=W.ia;let a:=W.jb;simp at this
 lia
def drop_get{l:List Keyed}(h:l[n]?=bN p):l.drop n=p::l.drop (n+1):=by
 let(a,e):=bh.mp h;rw[dy a,e]
def a6A(h:Srt κ l)(hb:∀x∈l,κ x<=κ p):Srt κ (l++[p]):=by
 show bu.mpr (h,dz _ _,λx b y a=>?_);rw[aR.mp a];show hb x b
def a0U(h:Srt κ l)(n:Nat):Srt κ (l.drop n):=bO.sublist (eU n l) h
def MW.pushA(W:MW κ A B o i j)(sa:Srt κ A)(hp:A[i]?=bN p)(hb:∀y∈B.drop j,κ p<=κ y):MW κ A B (o++[p]) (i+1) j:=by
 let c:=drop_get hp;show(((bh.mp hp).1),W.jb,?_,a6A W.so λx b=>W.ba x b p (by simp_all),λx b y a=>?_,λx b y a=>?_)
 .let:=W.pm
  rw[c]at this;o_head this
 .let h||h:=aO.mp b
  .show W.ba x h y (by simp_all)
  .rw[aR.mp h];show (bI.mp (c▸a0U sa i)).1 y a
 .let h||h:=aO.mp b
  .show W.bb x h y a
  .rw[aR.mp h];show hb y a
def MW.pushB(W:MW κ A B o i j)(sb:Srt κ B)(hp:B[j]?=bN p)(hb:∀y∈A.drop i,κ p<=κ y):MW κ A B (o++[p]) i (j+1):=by
 let c:=drop_get hp;show(W.ia,((bh.mp hp).1),?_,a6A W.so λx b=>W.bb x b p (by simp_all),λx b y a=>?_,λx b y a=>?_)
 .let:=W.pm
  rw[c]at this;show bM.trans ?_ this;rw[bA];show bM.append_left o (show (p::(A.drop i++B.drop _)).Perm _ from eV.symm)
 .let h||h:=aO.mp b
  .show W.ba x h y a
  .rw[aR.mp h];show hb y a
 .let h||h:=aO.mp b
  .show W.bb x h y (by simp_all)
  .rw[aR.mp h];show (bI.mp (c▸a0U sb j)).1 y a
def take_snoc{l:List Keyed}(h:l[n+k]?=bN p):(l.drop n).take (k+1)=(l.drop n).take k++[p]:=by
 rw[b4,dY,h];rfl
def MW.runA(W:MW κ A B o i j)(sa:Srt κ A):∀k,i+k<=A.length->(∀q z,i<=q->q<i+k->A[q]?=bN z->∀y∈B.drop j,κ z<=κ y)->MW κ A B (o++(A.drop i).take k) (i+k) j:=by ext z0;induction z0 with
 |zero=>ext _ _;o_head W
 |succ k I0=>
  ext hk hz;let e:A[i+k]?=bN A[i+k]:=bf (by lia);rw[take_snoc e,<- bA];show (I0 (by lia) λq z a c=>hz q z a (by lia)).pushA sa e (hz _ _ (by lia) (by lia) e)
def MW.runB(W:MW κ A B o i j)(sb:Srt κ B):∀k,j+k<=B.length->(∀q z,j<=q->q<j+k->B[q]?=bN z->∀y∈A.drop i,κ z<=κ y)->MW κ A B (o++(B.drop j).take k) i (j+k):=by ext z0;induction z0 with
 |zero=>ext _ _;o_head W
 |succ k I0=>
  ext hk hz;let e:B[j+k]?=bN B[j+k]:=bf (by lia);rw[take_snoc e,<- bA];show (I0 (by lia) λq z a c=>hz q z a (by lia)).pushB sb e (hz _ _ (by lia) (by lia) e)
def Mgd(κ:KF)(A B r:List Keyed):Prop:=r.Perm (A++B)/\Srt κ r
def MW.doneA(W:MW κ A B o i j)(sa:Srt κ A)(sb:Srt κ B)(h:i=A.length\/j=B.length):Mgd κ A B (o++A.drop i++B.drop j):=by
 show(by rw[bA];show W.pm,?_);rw[bA];show bu.mpr (W.so,bu.mpr (a0U sa i,a0U sb j,λx a y b=>?_),λx a y b=>?_)
 .let rfl||rfl:=h
  .simp_all
  .simp_all
 .let h||h:=aO.mp b
  .show W.ba x a y h
  .show W.bb x a y h
theorem MW.doneB(W:MW κ A B o i j)(sa:Srt κ A)(sb:Srt κ B)(h:i+1=A.length)(hl:∀z,A[A.length-1]?=bN z->∀y∈B,κ y<=κ z):Mgd κ A B (o++B.drop j++A.drop i):=by
 show(?_,?_)
 .rw[bA];show bM.trans (bM.append_left o eW) W.pm
 .rw[bA];let e:A[i]?=bN A[i]:=bf (by cbv);let c:A.drop i=[A[i]]:=by rw[drop_get e,dA (by lia)]
  show bu.mpr (W.so,bu.mpr (a0U sb j,a0U sa i,λx b y a=>?_),λx b y a=>?_)
  .rw[c]at a;rw[aR.mp a];show hl _ (by rw[show A.length-1=i by lia];show e) x (dB b)
  .let h||h:=aO.mp a
   .show W.bb x b y h
   .show W.ba x b y h
def a1a(h:Srt κ l)(hp:l[n]?=bN p):∀y∈l.drop n,κ p<=κ y:=λy a=>by
 let b:=a0U h n;rw[drop_get hp]at b a;let rfl||a:=aT.mp a
 .show bH _
 .show (bI.mp b).1 y a
end
abbrev SM:=StateT SortSt Sem
abbrev T1:=Option (Array Keyed)×Array Keyed×Nat×Nat×Nat×Nat
abbrev T2:=Option (Array Keyed)×Array Keyed×Nat×Nat×Nat×Nat×Nat
noncomputable def lo1(a b:Array Keyed)(g:Nat)(o:Array Keyed)(i j ac bc:Nat):SM (ForInStep T1):=do
 let y <- elem' b j
 let x <- elem' a i
 let r <- lt' y x
 match r with
 |some bw=>
  if bw=cp then do
   let y <- elem' b j
   if (j+1==b.size)=cp then pure (.done (bN (dnA a b (o.push y) i (j+1)),o.push y,i,j+1,0,bc+1,))
   else if bc+1>=g then pure (.done (ce,o.push y,i,j+1,0,bc+1,)) else pure (.yield (ce,o.push y,i,j+1,0,bc+1,))
  else do
   let x <- elem' a i
   if (i+1+1==a.size)=cp then pure (.done (bN (dnB a b (o.push x) (i+1) j),o.push x,i+1,j,ac+1,0,))
   else if ac+1>=g then pure (.done (ce,o.push x,i+1,j,ac+1,0,)) else pure (.yield (ce,o.push x,i+1,j,ac+1,0,))
 |_=>pure (.done (bN (dnA a b o i j),o,i,j,ac,bc,))
noncomputable def lo5(a b:Array Keyed)(o:Array Keyed)(i j g ac bc:Nat):SM (ForInStep T2):=do
 let x <- elem' a i
 if (i+1+1==a.size)=cp then pure (.done (bN (dnB a b (o.push x) (i+1) j),o.push x,i+1,j,g,ac,bc,))
 else if (decide (ac<7)&&decide (bc<7))=cp then pure (.done (ce,o.push x,i+1,j,g,ac,bc,)) else pure (.yield (ce,o.push x,i+1,j,g,ac,bc,))
noncomputable def lo4(a b:Array Keyed)(o:Array Keyed)(i j g ac bc:Nat):SM (ForInStep T2):=do
 let y <- elem' b j
 if (j+1==b.size)=cp then pure (.done (bN (dnA a b (o.push y) i (j+1)),o.push y,i,j+1,g,ac,bc,))
 else do
  let x <- elem' a i
  let r <- a1n cp x b (j+1) (b.size-(j+1)) 0
  match r with
  |some k=>
   if k > 0 then
    if (j+1+k==b.size)=cp then pure (.done (bN (dnA a b (o.push y++b.extract (j+1) (j+1+k)) i (j+1+k)),o.push y++b.extract (j+1) (j+1+k),i,j+1+k,g,ac,k,))
    else lo5 a b (o.push y++b.extract (j+1) (j+1+k)) i (j+1+k) g ac k
   else lo5 a b (o.push y) i (j+1) g ac k
  |_=>pure (.done (bN (dnA a b (o.push y) i (j+1)),o.push y,i,j+1,g,ac,bc,))
noncomputable def lo3(a b:Array Keyed)(o:Array Keyed)(i j g ac bc:Nat):SM (ForInStep T2):=do
 a8W g
 let y <- elem' b j
 let r <- a1n js y a i (a.size-i) 0
 match r with
 |some k=>
  if k > 0 then
   if (i+k+1==a.size)=cp then pure (.done (bN (dnB a b (o++a.extract i (i+k)) (i+k) j),o++a.extract i (i+k),i+k,j,g,k,bc,))
   else if (i+k==a.size)=cp then pure (.done (bN (dnA a b (o++a.extract i (i+k)) (i+k) j),o++a.extract i (i+k),i+k,j,g,k,bc,))
   else lo4 a b (o++a.extract i (i+k)) (i+k) j g k bc
  else lo4 a b o i j g k bc
 |_=>pure (.done (bN (dnA a b o i j),o,i,j,g,ac,bc,))
noncomputable def lo2(a b:Array Keyed)(o:Array Keyed)(i j g ac bc:Nat):SM (ForInStep T2):=
 if g > 1 then lo3 a b o i j (g-1) ac bc else lo3 a b o i j g ac bc
def a45(a b:Array Keyed):a4m a b=(do
  liftM (rule "list.sort.merge-lo")
  let y <- elem' b 0
  if (1==b.size)=cp then pure (dnA a b #[y] 0 1)
  else if (0+1==a.size)=cp then pure (dnB a b #[y] 0 1)
  else do
   let st <- get
   let c <- forIn [0:a.size+b.size] ((ce,#[y],0,1,gallopOf st,):Option (Array Keyed)×Array Keyed×Nat×Nat×Nat) λ_ c=>do
    let c1 <- forIn [0:a.size+b.size] ((ce,c.2.1,c.2.2.1,c.2.2.2.1,0,0,):T1) λ_ c1=>lo1 a b c.2.2.2.2 c1.2.1 c1.2.2.1 c1.2.2.2.1 c1.2.2.2.2.1 c1.2.2.2.2.2
    match c1.1 with
    |some r=>pure (ForInStep.done (bN r,c1.2.1,c1.2.2.1,c1.2.2.2.1,c.2.2.2.2,))
    |none=>do
     liftM (rule "list.sort.gallop")
     let c2 <- forIn [0:a.size+b.size] ((ce,c1.2.1,c1.2.2.1,c1.2.2.2.1,c.2.2.2.2+1,c1.2.2.2.2.1,c1.2.2.2.2.2,):T2) λ_ c2=>lo2 a b c2.2.1 c2.2.2.1 c2.2.2.2.1 c2.2.2.2.2.1 c2.2.2.2.2.2.1 c2.2.2.2.2.2.2
     match c2.1 with
     |some r=>pure (ForInStep.done (bN r,c2.2.1,c2.2.2.1,c2.2.2.2.1,c2.2.2.2.2.1,))
     |none=>do
      a8W (c2.2.2.2.2.1+1)
      pure (ForInStep.yield (ce,c2.2.1,c2.2.2.1,c2.2.2.2.1,c2.2.2.2.2.1+1,))
   match c.1 with
   |some r=>pure r
   |none=>jf "internal:list.sort.merge-bound"):=by
 kernel_rfl
structure SG (st st':SortSt):Prop where
 kd:kindOf st'=kindOf st
 ar:arrOf st'=arrOf st
 pe:fQ st'=fQ st
 fl:f8 st'=f8 st
def SG.refl(st:SortSt):SG st st:=(rfl,rfl,rfl,rfl)
def SG.trans(p:SG x y)(q:SG y z):SG x z:=(q.kd.trans p.kd,q.ar.trans p.ar,q.pe.trans p.pe,q.fl.trans p.fl)
section
variable{a b o:Array Keyed}{i j:Nat}
def a1V:(dnA a b o i j).toList=o.toList++a.toList.drop i++b.toList.drop j:=by
 simp[ca]
def a2L:(dnB a b o i j).toList=o.toList++b.toList.drop j++a.toList.drop i:=by
 simp[ca]
def a6B:(o++a.extract i (i+k)).toList=o.toList++(a.toList.drop i).take k:=by
 simp[dC]
def a0I(h:i<a.size):a.toList[i]?=bN a[i]:=by simp[h]
def a0N(h:i<a.size):Kk κ a i=κ a[i]:=a5Y (getElem?_pos ..)
def a2M(h:Srt κ a.toList)(hn:i+n<=a.size):∀p q,p<=q->q<n->Kk κ a (i+p)<=Kk κ a (i+q):=λp q b c=>by
 rw[a0N (show i+p<a.size by lia),a0N (show i+q<a.size by lia)]
 by_cases e:p=q
 .simp_all
 .let:=d3.mp h (i+p) (i+q) (by simp;lia) (by simp;lia) (by lia)
  o_head this
end
structure MC (M:Model) (A:Around) (E:Value->Shared->Prop) (s:Shared) (κ:KF) (k0:ge) (a₀ a b:Array Keyed):Prop where
 L:LtOk M A E s κ k0 a₀
 ha:∀p∈a.toList,p∈a₀.toList
 hb:∀p∈b.toList,p∈a₀.toList
 sa:Srt κ a.toList
 sb:Srt κ b.toList
 h0:0<a.size
 h1:0<b.size
 hf:∀y∈a.toList,Kk κ b 0<=κ y
 hl:∀z,a.toList[a.toList.length-1]?=bN z->∀y∈b.toList,κ y<=κ z
structure Rdy (κ:KF) (a b o:Array Keyed) (i j:Nat):Prop where
 w:MW κ a.toList b.toList o.toList i j
 hi:i+1<a.size
 hj:j<b.size
section
variable{M:Model}{k0:ge}{a b o:Array Keyed}{st:SortSt}{i j g ac bc:Nat}
def a3V{α:Type}{f:Unit->SM α}{Q:α->SortSt->Prop}(h:wpS M A E s (f ()) Q st):wpS M A E s ((liftM (rule jt):SM Unit) >>= f) Q st:=
 fM (jg (g6 (rfl,h)))
def a0T(a:Array Keyed):a.toList.length=a.size:=by simp
def b8A(C:MC M A E s κ k0 a₀ a b)(hk:kindOf st=k0)(R:Rdy κ a b o i j)
  (dn:∀r c,Mgd κ a.toList b.toList r.toList->Q (.done (bN r,c,)) st)
  (br:∀o' i' j' x y,Rdy κ a b o' i' j'->i'+j'=i+j+1->Q (.done (ce,o',i',j',x,y,)) st)
  (go:∀o' i' j' x y,Rdy κ a b o' i' j'->i'+j'=i+j+1->Q (.yield (ce,o',i',j',x,y,)) st):wpS M A E s (lo1 a b g o i j ac bc) Q st:=by
 let q:=R.hi;let n:=R.hj;let p:b[j]?=bN b[j]:=getElem?_pos ..;let m:a[i]?=bN a[i]:=getElem?_pos ..;let h:=a0I n;let l:=a0I (a:=a) (i:=i) (by cbv);unfold lo1;show fM (a0C p (fM (a0C m (fM (C.L _ _ (C.hb _ (bp h)) (C.ha _ (bp l)) st _ hk ?_)))));dsimp only
 by_cases c:κ b[j]<κ a[i]
 .rw[if_pos (decide_eq_true c)];show fM (a0C p ?_);let d:=R.w.pushB C.sb h λy k=>bx (bR c) (a1a C.sa l y k);rw[<- bS]at d
  by_cases e:j+1=b.size
  .rw[if_pos ↑e];show fN (dn _ _ (by rw[a1V];show d.doneA C.sa C.sb (.inr (by rw[a0T];show e))))
  .rw[if_neg ↑e];let f:Rdy κ a b (o.push b[j]) i (j+1):=(d,q,by lia)
   split
   .show fN (br _ _ _ _ _ f (by lia))
   .show fN (go _ _ _ _ _ f (by lia))
 .rw[if_neg ↑c];show fM (a0C m ?_);let d:=R.w.pushA C.sa l λy k=>bx (dD.mp c) (a1a C.sb h y k);rw[<- bS]at d
  by_cases e:i+1+1=a.size
  .rw[if_pos ↑e];show fN (dn _ _ (by rw[a2L];show d.doneB C.sa C.sb (by rw[a0T];show e) C.hl))
  .rw[if_neg ↑e];let f:Rdy κ a b (o.push a[i]) (i+1) j:=(d,by lia,n)
   split
   .show fN (br _ _ _ _ _ f (by lia))
   .show fN (go _ _ _ _ _ f (by lia))
structure G2 (st:SortSt) (κ:KF) (a b:Array Keyed) (n:Nat) (Q:ForInStep T2->SortSt->Prop):Prop where
 dn:∀r c st',SG st st'->Mgd κ a.toList b.toList r.toList->Q (.done (bN r,c,)) st'
 br:∀o' i' j' x y z st',SG st st'->Rdy κ a b o' i' j'->n<i'+j'->Q (.done (ce,o',i',j',x,y,z,)) st'
 go:∀o' i' j' x y z st',SG st st'->Rdy κ a b o' i' j'->n<i'+j'->Q (.yield (ce,o',i',j',x,y,z,)) st'
def b6m(C:MC M A E s κ k0 a₀ a b)(R:Rdy κ a b o i j)(hle:∀y∈b.toList.drop j,Kk κ a i<=κ y)(H:G2 st κ a b n Q)(hn:n<=i+j):wpS M A E s (lo5 a b o i j g ac bc) Q st:=by
 let l:=R.hi;let h:a[i]?=bN a[i]:=getElem?_pos ..;rw[a0N (show i<a.size by lia)]at hle;unfold lo5;show fM (a0C h ?_);let c:=R.w.pushA C.sa (a0I (a:=a) (i:=i) (by lia)) hle;rw[<- bS]at c
 by_cases e:i+1+1=a.size
 .rw[if_pos ↑e];show fN (H.dn _ _ _ (SG.refl _) (a2L▸c.doneB C.sa C.sb (by rw[a0T];show e) C.hl))
 .rw[if_neg ↑e];let d:Rdy κ a b (o.push a[i]) (i+1) j:=(c,by lia,R.hj)
  split
  .show fN (H.br _ _ _ _ _ _ _ (SG.refl _) d (by lia))
  .show fN (H.go _ _ _ _ _ _ _ (SG.refl _) d (by lia))
def a1I{l:List Keyed}(h:y∈l.drop n):∃q,n<=q/\q<l.length/\l[q]?=bN y:=by
 let(m,a):=dE h;rw[dY]at a;show(n+m,by lia,(bh.mp a).1,a)
def a27(h:a.toList[q]?=bN z):Kk κ a q=κ z:=a5Y (by simp_all)
def b6n(C:MC M A E s κ k0 a₀ a b)(hk:kindOf st=k0)(R:Rdy κ a b o i j)(hle:∀y∈a.toList.drop i,Kk κ b j<=κ y)(H:G2 st κ a b n Q)(hn:n<=i+j):wpS M A E s (lo4 a b o i j g ac bc) Q st:=by
 let m:=R.hi;let t:=R.hj;let x:b[j]?=bN b[j]:=getElem?_pos ..;let F:a[i]?=bN a[i]:=getElem?_pos ..;let p:=a0I (a:=a) (i:=i) (by lia);rw[a0N t]at hle;unfold lo4;show fM (a0C x ?_);let d:=R.w.pushB C.sb (a0I t) hle;rw[<- bS]at d
 by_cases e:j+1=b.size
 .rw[if_pos ↑e];show fN (H.dn _ _ _ (SG.refl _) (a1V▸d.doneA C.sa C.sb (.inr (by rw[a0T];show e))))
 .rw[if_neg ↑e];show fM (a0C F (fM (a1t C.L hk (C.ha _ (bp p)) C.hb (by lia) (by lia) (a2M C.sb (by lia)) λk G v r=>?_)));dsimp only;let c:∀y∈b.toList.drop (j+1+k),Kk κ a i<=κ y:=λy h=>by
   let(q,B,u,l):=a1I h;rw[a0T]at u
   let:=r (q-(j+1)) (by lia) (by lia)
   rw[show j+1+(q-(j+1))=q by lia,a27 l]at this;simp[bq]at this;rw[a0N (show i<a.size by lia)];cbv
  split
  .let f:=d.runB C.sb k (by rw[a0T];lia) λq z B u l y h=>by
    let:=v (q-(j+1)) (by lia)
    rw[show j+1+(q-(j+1))=q by lia,a27 l]at this;simp[bq]at this;show bx (bR this) (a1a C.sa p y h)
   rw[<- a6B]at f
   by_cases e2:j+1+k=b.size
   .rw[if_pos ↑e2];show fN (H.dn _ _ _ (SG.refl _) (a1V▸f.doneA C.sa C.sb (.inr (by rw[a0T];show e2))))
   .rw[if_neg ↑e2];show b6m C (f,m,by lia) c H (by lia)
  .let:k=0:=by lia
   subst this;show b6m C (d,m,by lia) c H (by lia)
def b8B(C:MC M A E s κ k0 a₀ a b)(hk:kindOf st=k0)(R:Rdy κ a b o i j)(H:G2 st κ a b n Q)(hn:n<=i+j):wpS M A E s (lo3 a b o i j g ac bc) Q st:=by
 let I:=R.hi;let h:=R.hj;let G:b[j]?=bN b[j]:=getElem?_pos ..;let B:=a0I h;unfold lo3;rw[a4l];show fM (gi ?_);let m:SG st (SortSt.mk' _ (arrOf st) _ g _):=(rfl,rfl,rfl,rfl);let e:kindOf (SortSt.mk' _ (arrOf st) (fQ st) g (f8 st))=k0:=hk;generalize SortSt.mk' (kindOf st) (arrOf st) (fQ st) g (f8 st)=st1 at m e;let l:G2 st1 κ a b n Q:=(λr c d g=>H.dn r c d (m.trans g),λ_ _ _ _ _ _ d g=>H.br _ _ _ _ _ _ d (m.trans g),λ_ _ _ _ _ _ d g=>H.go _ _ _ _ _ _ d (m.trans g));show fM (a0C G (fM (a1t C.L e (C.hb _ (bp B)) C.ha (by lia) (by lia) (a2M C.sa (by lia)) λk J D x=>?_)));dsimp only;let f:∀y∈a.toList.drop (i+k),Kk κ b j<=κ y:=λy t=>by
  let(q,F,v,u):=a1I t;rw[a0T]at v
  let:=x (q-i) (by lia) (by lia)
  rw[show i+(q-i)=q by lia,a27 u]at this;simp[bq]at this;rw[a0N h]
  lia
 split
 .let p:=R.w.runA C.sa k (by rw[a0T];lia) λq z F v u y t=>by
   let:=D (q-i) (by lia)
   rw[show i+(q-i)=q by lia,a27 u]at this;simp[bq]at this;show bx this (a1a C.sb B y t)
  rw[<- a6B]at p
  by_cases e1:i+k+1=a.size
  .rw[if_pos ↑e1];show fN (l.dn _ _ _ (SG.refl _) (a2L▸p.doneB C.sa C.sb (by rw[a0T];show e1) C.hl))
  .rw[if_neg ↑e1]
   by_cases e2:i+k=a.size
   .rw[if_pos ↑e2];show fN (l.dn _ _ _ (SG.refl _) (a1V▸p.doneA C.sa C.sb (.inl (by rw[a0T];show e2))))
   .rw[if_neg ↑e2];show b6n C e (p,by lia,h) f l (by lia)
 .let:k=0:=by lia
  subst this;show b6n C e (R.w,I,h) f l (by lia)
def b8C(C:MC M A E s κ k0 a₀ a b)(hk:kindOf st=k0)(R:Rdy κ a b o i j)(H:G2 st κ a b n Q)(hn:n<=i+j):wpS M A E s (lo2 a b o i j g ac bc) Q st:=by
 unfold lo2
 split<;>show b8B C hk R H hn
def b0O(C:MC M A E s κ k0 a₀ a b):MW κ a.toList b.toList [b[0]'C.h1] 0 1:=by
 let e:MW κ a.toList b.toList [] 0 0:=(bo _,bo _,by simp,.nil,λx h=>by simp at h,λx h=>by simp at h);show e.pushB C.sb (a0I C.h1) λy d=>by rw[<- a0N (κ:=κ) C.h1];show C.hf y (by simp_all)
def a8X(C:MC M A E s κ k0 a₀ a b)(hk:kindOf st=k0)
  (h:∀r st',SG st st'->Mgd κ a.toList b.toList r.toList->Q r st'):wpS M A E s (a4m a b) Q st:=by
 let h0:=C.h0;let h1:=C.h1;rw[a45];show a3V (fM (a0C (getElem?_pos b 0 C.h1) ?_));let w0:=b0O C
 by_cases e1:1=b.size
 .rw[if_pos ↑e1];show fN (h _ _ (SG.refl _) (a1V▸w0.doneA C.sa C.sb (.inr (by grind))))
 rw[if_neg ↑e1]
 by_cases e2:0+1=a.size
 .rw[if_pos ↑e2];show fN (h _ _ (SG.refl _) (a2L▸w0.doneB C.sa C.sb (by rw[a0T];show e2) C.hl))
 rw[if_neg ↑e2];show fM (gg ?_);let R0:Rdy κ a b #[b[0]] 0 1:=(w0,by lia,by lia);show fM (f9 (f7 (I:=λx c e=>∃o i j g,c=(ce,o,i,j,g,)/\SG st e/\Rdy κ a b o i j/\x<i+j)
  (Q:=λc e=>Ex2 λr F=>An3 (c=(bN r,F,)) (SG st e) (Mgd κ a.toList b.toList r.toList)) ?step ?fin (_,_,_,_,rfl,SG.refl _,R0,by lia)) ?post)
 case post=>
  ext c e ⟨r,F,rfl,H,m⟩;show fN (h r e H m)
 case fin=>
  ext c e ⟨o,i,j,g,rfl,H,R,hx⟩
  let:=R.hi
  let:=R.hj
  lia
 case step=>
  ext x c e _ hx ⟨o,i,j,g,rfl,H,R,hxi⟩;dsimp only;show fM (f9 (f7 (I:=λy c f=>∃D l k J T,c=(ce,D,l,k,J,T,)/\f=e/\Rdy κ a b D l k/\i+j+y<=l+k)
   (Q:=λc f=>f=e/\((∃r F,c=(bN r,F,)/\Mgd κ a.toList b.toList r.toList)\/∃D l k J T,c=(ce,D,l,k,J,T,)/\Rdy κ a b D l k/\i+j<=l+k)) ?st1 ?fi1 (_,_,_,_,_,rfl,rfl,R,by lia)) ?po1)
  case fi1=>
   ext c f ⟨D,l,k,J,T,rfl,rfl,L,hy⟩
   let:=L.hi
   let:=L.hj
   lia
  case st1=>
   ext y c f _ hy ⟨D,l,k,J,T,rfl,rfl,L,hyi⟩;dsimp only;show b8A C (H.kd.trans hk) L (λr c m=>(rfl,.inl (r,c,rfl,m))) (λo2 i2 j2 u v X V=>(rfl,.inr (_,_,_,_,_,rfl,X,by lia))) λo2 i2 j2 u v X V=>(_,_,_,_,_,rfl,rfl,X,by lia)
  case po1=>
   ext c f ⟨rfl,⟨r,F,rfl,m⟩ |⟨D,l,k,J,T,rfl,L,hij⟩⟩
   .show fN (r,_,rfl,H,m)
   .dsimp only;show a3V ?_;show fM (f9 (f7 (I:=λy c B=>∃G q p S z t,c=(ce,G,q,p,S,z,t,)/\SG st B/\Rdy κ a b G q p/\l+k+y<=q+p)
     (Q:=λc B=>SG st B/\((∃r F,c=(bN r,F,)/\Mgd κ a.toList b.toList r.toList)\/∃G q p S z t,c=(ce,G,q,p,S,z,t,)/\Rdy κ a b G q p/\l+k<q+p)) ?f ?fi2 (_,_,_,_,_,_,rfl,H,L,by lia)) ?po2)
    case fi2=>
     ext c B ⟨G,q,p,S,z,t,rfl,d,N,hy⟩
     let:=N.hi
     let:=N.hj
     lia
    case f=>
     ext y c B _ hy ⟨G,q,p,S,z,t,rfl,d,N,hyi⟩;dsimp only;show b8C C (d.kd.trans hk) N (λr c W U m=>(d.trans U,.inl (r,c,rfl,m)),λo4 i4 j4 u v w W U Y V=>(d.trans U,.inr (_,_,_,_,_,_,rfl,Y,by lia)),λo4 i4 j4 u v w W U Y V=>(_,_,_,_,_,_,rfl,d.trans U,Y,by lia)) (aN _)
    case po2=>
     ext c B ⟨d,⟨r,F,rfl,m⟩ |⟨G,q,p,S,z,t,rfl,N,V⟩⟩
     .show fN (r,_,rfl,d,m)
     .dsimp only;show fM (gi (fN (_,_,_,_,rfl,(d.kd,d.ar,d.pe,d.fl),N,by lia)))
end
noncomputable def a4n:Array Keyed->Array Keyed->SM (Array Keyed):=sortPriv% PySem.Builtin.mergeHi
abbrev hnA(a b o:Array Keyed)(u v:Nat):Array Keyed:=a.extract 0 u++b.extract 0 v++o.reverse
abbrev hnB(a b o:Array Keyed)(u v:Nat):Array Keyed:=b.extract 0 v++a.extract 0 u++o.reverse
abbrev H1:=Option (Array Keyed)×Nat×Nat×Array Keyed×Nat×Nat
abbrev H2:=Option (Array Keyed)×Nat×Nat×Array Keyed×Nat×Nat×Nat
noncomputable def hi1(a b:Array Keyed)(g u v:Nat)(o:Array Keyed)(ac bc:Nat):SM (ForInStep H1):=do
 let y <- elem' b (v-1)
 let x <- elem' a (u-1)
 let r <- lt' y x
 match r with
 |some aw=>
  if aw=cp then do
   let x <- elem' a (u-1)
   if (u-1==0)=cp then pure (.done (bN (hnA a b (o.push x) (u-1) v),u-1,v,o.push x,ac+1,0,))
   else if ac+1>=g then pure (.done (ce,u-1,v,o.push x,ac+1,0,)) else pure (.yield (ce,u-1,v,o.push x,ac+1,0,))
  else do
   let y <- elem' b (v-1)
   if (v-1==1)=cp then pure (.done (bN (hnB a b (o.push y) u (v-1)),u,v-1,o.push y,0,bc+1,))
   else if bc+1>=g then pure (.done (ce,u,v-1,o.push y,0,bc+1,)) else pure (.yield (ce,u,v-1,o.push y,0,bc+1,))
 |_=>pure (.done (bN (hnA a b o u v),u,v,o,ac,bc,))
noncomputable def hi5(a b:Array Keyed)(u v:Nat)(o:Array Keyed)(g ac bc:Nat):SM (ForInStep H2):=do
 let x <- elem' a (u-1)
 if (u-1==0)=cp then pure (.done (bN (hnA a b (o.push x) (u-1) v),u-1,v,o.push x,g,ac,bc,))
 else if (decide (ac<7)&&decide (bc<7))=cp then pure (.done (ce,u-1,v,o.push x,g,ac,bc,)) else pure (.yield (ce,u-1,v,o.push x,g,ac,bc,))
noncomputable def hi4(a b:Array Keyed)(u v:Nat)(o:Array Keyed)(g ac bc:Nat):SM (ForInStep H2):=do
 let y <- elem' b (v-1)
 if (v-1==1)=cp then pure (.done (bN (hnB a b (o.push y) u (v-1)),u,v-1,o.push y,g,ac,bc,))
 else do
  let x <- elem' a (u-1)
  let r <- a1n cp x b 0 (v-1) (v-1-1)
  match r with
  |some p=>
   if v-1-p > 0 then
    if (p==1)=cp then pure (.done (bN (hnB a b (o.push y++(b.extract p (v-1)).reverse) u p),u,p,o.push y++(b.extract p (v-1)).reverse,g,ac,v-1-p,))
    else if (p==0)=cp then pure (.done (bN (hnA a b (o.push y++(b.extract p (v-1)).reverse) u p),u,p,o.push y++(b.extract p (v-1)).reverse,g,ac,v-1-p,))
    else hi5 a b u p (o.push y++(b.extract p (v-1)).reverse) g ac (v-1-p)
   else hi5 a b u (v-1) (o.push y) g ac (v-1-p)
  |_=>pure (.done (bN (hnA a b (o.push y) u (v-1)),u,v-1,o.push y,g,ac,bc,))
noncomputable def hi3(a b:Array Keyed)(u v:Nat)(o:Array Keyed)(g ac bc:Nat):SM (ForInStep H2):=do
 a8W g
 let y <- elem' b (v-1)
 let r <- a1n js y a 0 u (u-1)
 match r with
 |some p=>
  if u-p > 0 then
   if (p==0)=cp then pure (.done (bN (hnA a b (o++(a.extract p u).reverse) p v),p,v,o++(a.extract p u).reverse,g,u-p,bc,))
   else hi4 a b p v (o++(a.extract p u).reverse) g (u-p) bc
  else hi4 a b u v o g (u-p) bc
 |_=>pure (.done (bN (hnA a b o u v),u,v,o,g,ac,bc,))
noncomputable def hi2(a b:Array Keyed)(u v:Nat)(o:Array Keyed)(g ac bc:Nat):SM (ForInStep H2):=
 if g > 1 then hi3 a b u v o (g-1) ac bc else hi3 a b u v o g ac bc
def a46(a b:Array Keyed):a4n a b=(do
  liftM (rule "list.sort.merge-hi")
  let x <- elem' a (a.size-1)
  if (a.size-1==0)=cp then pure (hnA a b #[x] (a.size-1) b.size)
  else if (b.size==1)=cp then pure (hnB a b #[x] (a.size-1) b.size)
  else do
   let st <- get
   let c <- forIn [0:a.size+b.size] ((ce,a.size-1,b.size,#[x],gallopOf st,):Option (Array Keyed)×Nat×Nat×Array Keyed×Nat) λ_ c=>do
    let c1 <- forIn [0:a.size+b.size] ((ce,c.2.1,c.2.2.1,c.2.2.2.1,0,0,):H1) λ_ c1=>hi1 a b c.2.2.2.2 c1.2.1 c1.2.2.1 c1.2.2.2.1 c1.2.2.2.2.1 c1.2.2.2.2.2
    match c1.1 with
    |some r=>pure (ForInStep.done (bN r,c1.2.1,c1.2.2.1,c1.2.2.2.1,c.2.2.2.2,))
    |none=>do
     liftM (rule "list.sort.gallop")
     let c2 <- forIn [0:a.size+b.size] ((ce,c1.2.1,c1.2.2.1,c1.2.2.2.1,c.2.2.2.2+1,c1.2.2.2.2.1,c1.2.2.2.2.2,):H2) λ_ c2=>hi2 a b c2.2.1 c2.2.2.1 c2.2.2.2.1 c2.2.2.2.2.1 c2.2.2.2.2.2.1 c2.2.2.2.2.2.2
     match c2.1 with
     |some r=>pure (ForInStep.done (bN r,c2.2.1,c2.2.2.1,c2.2.2.2.1,c2.2.2.2.2.1,))
     |none=>do
      a8W (c2.2.2.2.2.1+1)
      pure (ForInStep.yield (ce,c2.2.1,c2.2.2.1,c2.2.2.2.1,c2.2.2.2.2.1+1,))
   match c.1 with
   |some r=>pure r
   |none=>jf "internal:list.sort.merge-bound"):=by
 kernel_rfl
section
variable{A B o:List Keyed}{u v:Nat}{p:Keyed}
structure MH (κ:KF) (A B o:List Keyed) (u v:Nat):Prop where
 ia:u<=A.length
 jb:v<=B.length
 pm:(A.take u++B.take v++o.reverse).Perm (A++B)
 so:Srt κ o.reverse
 ba:∀x∈o,∀y∈A.take u,κ y<=κ x
 bb:∀x∈o,∀y∈B.take v,κ y<=κ x
def a5Z{l:List Keyed}(h:l[n]?=bN p):l.take (n+1)=l.take n++[p]:=by
 rw[b4,h];rfl
def a1b(h:Srt κ l)(n:Nat):Srt κ (l.take n):=bO.sublist (dP n l) h
def a1u(h:Srt κ l)(e:l[n]?=bN p):∀y∈l.take (n+1),κ y<=κ p:=λy a=>by
 let b:=a1b h (n+1);rw[a5Z e]at b a;let a||a:=aO.mp a
 .show (bu.mp b).2.2 y a p (by simp)
 .simp_all
def MH.pushA(W:MH κ A B o (u+1) v)(sa:Srt κ A)(hp:A[u]?=bN p)(hb:∀y∈B.take v,κ y<=κ p):MH κ A B (o++[p]) u v:=by
 let c:=a5Z hp;let d:=(bh.mp hp).1;show(by lia,W.jb,?_,?_,λx b y a=>?_,λx b y a=>?_)
 .let:=W.pm
  rw[c]at this;show bM.trans ?_ this;rw[cu,cC];simp;show bM.append_left _ eV
 .rw[cu,cC,dG];show bI.mpr (λx b=>?_,W.so);show W.ba x ↑b p (by rw[c];simp)
 .let h||h:=aO.mp b
  .show W.ba x h y (by simp_all)
  .rw[aR.mp h];show a1u sa hp y (by simp_all)
 .let h||h:=aO.mp b
  .show W.bb x h y a
  .simp_all
def MH.pushB(W:MH κ A B o u (v+1))(sb:Srt κ B)(hp:B[v]?=bN p)(hb:∀y∈A.take u,κ y<=κ p):MH κ A B (o++[p]) u v:=by
 let c:=a5Z hp;let d:=(bh.mp hp).1;show(W.ia,by lia,?_,?_,λx b y a=>?_,λx b y a=>?_)
 .let:=W.pm
  rw[c]at this;show bM.trans ?_ this;rw[cu,cC];simp only[bA];show bM.refl _
 .rw[cu,cC,dG];show bI.mpr (λx b=>?_,W.so);show W.bb x (by simp_all) p (by simp_all)
 .let h||h:=aO.mp b
  .show W.ba x h y a
  .rw[aR.mp h];show hb y a
 .let h||h:=aO.mp b
  .show W.bb x h y (by simp_all)
  .rw[aR.mp h];show a1u sb hp y (by simp_all)
def MH.runA(sa:Srt κ A):∀(k:Nat){o:List Keyed},MH κ A B o (u+k) v->(∀q z,u<=q->q<u+k->A[q]?=bN z->∀y∈B.take v,κ y<=κ z)->MH κ A B (o++((A.drop u).take k).reverse) u v:=by ext z0;induction z0 with
 |zero=>ext o W _;o_head W
 |succ k I0=>
  ext o W hz;let a:u+k<A.length:=by let:=W.ia;lia
  let e:=bf a;rw[take_snoc e,cu,cC,<- bA];show (I0 (MH.pushA W sa e (hz _ _ (by simp) (by simp) e)) λq z c f=>hz q z c (by lia))
def MH.runB(sb:Srt κ B):∀(k:Nat){o:List Keyed},MH κ A B o u (v+k)->(∀q z,v<=q->q<v+k->B[q]?=bN z->∀y∈A.take u,κ y<=κ z)->MH κ A B (o++((B.drop v).take k).reverse) u v:=by ext z0;induction z0 with
 |zero=>ext o W _;o_head W
 |succ k I0=>
  ext o W hz;let a:v+k<B.length:=by let:=W.jb;lia
  let e:=bf a;rw[take_snoc e,cu,cC,<- bA];show (I0 (MH.pushB W sb e (hz _ _ (by simp) (by simp) e)) λq z c f=>hz q z c (by lia))
def MH.doneA(W:MH κ A B o u v)(sa:Srt κ A)(sb:Srt κ B)(h:u=0\/v=0):Mgd κ A B (A.take u++B.take v++o.reverse):=by
 show(W.pm,?_);show bu.mpr (bu.mpr (a1b sa u,a1b sb v,λx b y c=>?_),W.so,λx b y c=>?_)
 .let rfl||rfl:=h
  .simp_all
  .simp_all
 .let a:y∈o:=↑c
  let h||h:=aO.mp b
  .show W.ba y a x h
  .show W.bb y a x h
def MH.doneB(W:MH κ A B o u 1)(sa:Srt κ A)(sb:Srt κ B)(hf:∀z,B[0]?=bN z->∀y∈A,κ z<=κ y):Mgd κ A B (B.take 1++A.take u++o.reverse):=by
 show(?_,?_)
 .show bM.trans ?_ W.pm;show bM.append_right _ eW
 .show bu.mpr (bu.mpr (a1b sb 1,a1b sa u,λx a y c=>?_),W.so,λx a y c=>?_)
  .cases B with
   |nil=>simp at a
   |cons z B=>
    let:x=z:=↑a
    subst this;show hf x rfl y (cw c)
  .let b:y∈o:=↑c
   let h||h:=aO.mp a
   .show W.bb y b x h
   .show W.ba y b x h
end
section
variable{a b o:Array Keyed}{u v:Nat}
def a1W:(hnA a b o u v).toList=a.toList.take u++b.toList.take v++o.toList.reverse:=by
 simp
def a2N:(hnB a b o u v).toList=b.toList.take v++a.toList.take u++o.toList.reverse:=by
 simp
def a6C:(o++(a.extract p u).reverse).toList=o.toList++((a.toList.drop p).take (u-p)).reverse:=by
 simp[dC]
end
structure RdH (κ:KF) (a b o:Array Keyed) (u v:Nat):Prop where
 w:MH κ a.toList b.toList o.toList u v
 hu:1<=u
 hv:2<=v
section
variable{M:Model}{k0:ge}{a b o:Array Keyed}{st:SortSt}{u v g ac bc:Nat}
def RdH.ua(R:RdH κ a b o u v):u<=a.size:=by let:=R.w.ia;rwa [a0T]at this
def RdH.vb(R:RdH κ a b o u v):v<=b.size:=by let:=R.w.jb;rwa [a0T]at this
def MC.first(C:MC M A E s κ k0 a₀ a b):∀z,b.toList[0]?=bN z->∀y∈a.toList,κ z<=κ y:=λz c y d=>by
 let:=C.hf y d
 rwa [a27 c]at this
def b8D(C:MC M A E s κ k0 a₀ a b)(hk:kindOf st=k0)(R:RdH κ a b o (u+1) (v+1))
  (dn:∀r c,Mgd κ a.toList b.toList r.toList->Q (.done (bN r,c,)) st)
  (br:∀o' u' v' x y,RdH κ a b o' u' v'->u'+v'=u+v+1->Q (.done (ce,u',v',o',x,y,)) st)
  (go:∀o' u' v' x y,RdH κ a b o' u' v'->u'+v'=u+v+1->Q (.yield (ce,u',v',o',x,y,)) st):wpS M A E s (hi1 a b g (u+1) (v+1) o ac bc) Q st:=by
 let q:=R.ua;let t:=R.vb;let p:=R.hv;let l:b[v]?=bN b[v]:=getElem?_pos ..;let n:a[u]?=bN a[u]:=getElem?_pos ..;let j:=a0I (a:=b) (i:=v) (by lia);let k:=a0I (a:=a) (i:=u) (by lia);unfold hi1;simp only[d4];show fM (a0C l (fM (a0C n (fM (C.L _ _ (C.hb _ (bp j)) (C.ha _ (bp k)) st _ hk ?_)))));dsimp only
 by_cases c:κ b[v]<κ a[u]
 .rw[if_pos (decide_eq_true c)];show fM (a0C n ?_);let d:=R.w.pushA C.sa k λy h=>bx (a1u C.sb j y h) (bR c);rw[<- bS]at d
  by_cases e:u=0
  .rw[if_pos ↑e];show fN (dn _ _ (a1W▸d.doneA C.sa C.sb (.inl e)))
  .rw[if_neg ↑e];let f:RdH κ a b (o.push a[u]) u (v+1):=(d,by lia,p)
   split
   .show fN (br _ _ _ _ _ f (by lia))
   .show fN (go _ _ _ _ _ f (by lia))
 .rw[if_neg ↑c];show fM (a0C l ?_);let d:=R.w.pushB C.sb j λy h=>bx (a1u C.sa k y h) (dD.mp c);rw[<- bS]at d
  by_cases e:v=1
  .rw[if_pos ↑e];subst e;show fN (dn _ _ (a2N▸d.doneB C.sa C.sb C.first))
  .rw[if_neg ↑e];let f:RdH κ a b (o.push b[v]) (u+1) v:=(d,R.hu,by lia)
   split
   .show fN (br _ _ _ _ _ f (by lia))
   .show fN (go _ _ _ _ _ f (by lia))
structure HG (st:SortSt) (κ:KF) (a b:Array Keyed) (n:Nat) (Q:ForInStep H2->SortSt->Prop):Prop where
 dn:∀r c st',SG st st'->Mgd κ a.toList b.toList r.toList->Q (.done (bN r,c,)) st'
 br:∀o' u' v' x y z st',SG st st'->RdH κ a b o' u' v'->u'+v'<n->Q (.done (ce,u',v',o',x,y,z,)) st'
 go:∀o' u' v' x y z st',SG st st'->RdH κ a b o' u' v'->u'+v'<n->Q (.yield (ce,u',v',o',x,y,z,)) st'
def b6o(C:MC M A E s κ k0 a₀ a b)(R:RdH κ a b o (u+1) v)(hle:∀y∈b.toList.take v,κ y<=Kk κ a u)(H:HG st κ a b n Q)(hn:u+v<n):wpS M A E s (hi5 a b (u+1) v o g ac bc) Q st:=by
 let k:=R.ua;let j:a[u]?=bN a[u]:=getElem?_pos ..;rw[a0N (show u<a.size by lia)]at hle;unfold hi5;simp only[d4];show fM (a0C j ?_);let c:=R.w.pushA C.sa (a0I (a:=a) (i:=u) (by lia)) hle;rw[<- bS]at c
 by_cases e:u=0
 .rw[if_pos ↑e];show fN (H.dn _ _ _ (SG.refl _) (a1W▸c.doneA C.sa C.sb (.inl e)))
 .rw[if_neg ↑e];let d:RdH κ a b _ u v:=(c,by lia,R.hv)
  split
  .show fN (H.br _ _ _ _ _ _ _ (SG.refl _) d (by lia))
  .show fN (H.go _ _ _ _ _ _ _ (SG.refl _) d (by lia))
def a1J{l:List Keyed}(h:y∈l.take n):∃q,q<n/\l[q]?=bN y:=by
 let(m,a):=dE h;let b:=(bh.mp a).1;rw[d6]at a
 split at a
 .show(m,by cbv,a)
 .grind
def b6p(C:MC M A E s κ k0 a₀ a b)(hk:kindOf st=k0)(R:RdH κ a b o (u+1) (v+1))(hle:∀y∈a.toList.take (u+1),κ y<=Kk κ b v)(H:HG st κ a b n Q)(hn:u+v<n):wpS M A E s (hi4 a b (u+1) (v+1) o g ac bc) Q st:=by
 let I:=R.ua;let G:=R.vb;let F:=R.hv;let B:b[v]?=bN b[v]:=getElem?_pos ..;let t:a[u]?=bN a[u]:=getElem?_pos ..;let r:=a0I (a:=a) (i:=u) (by lia);rw[a0N (show v<b.size by lia)]at hle;unfold hi4;simp only[d4];show fM (a0C B ?_);let d:=R.w.pushB C.sb (a0I (a:=b) (i:=v) (by lia)) hle;rw[<- bS]at d
 by_cases e:v=1
 .rw[if_pos ↑e];subst e;show fN (H.dn _ _ _ (SG.refl _) (a2N▸d.doneB C.sa C.sb C.first))
 .rw[if_neg ↑e];show fM (a0C t (fM (a1t C.L hk (C.ha _ (bp r)) C.hb (by lia) (by lia) (a2M C.sb (by lia)) λp D j h=>?_)));dsimp only;simp only[cX]at j h;let c:∀y∈b.toList.take p,κ y<=Kk κ a u:=λy k=>by
   let(q,m,l):=a1J k
   let:=j q m
   rw[a27 l]at this;simp[bq]at this;rw[a0N (show u<a.size by lia)]
   lia
  split
  .let f:=MH.runB C.sb (v-p) (by rw[show p+(v-p)=v by lia];show d) λq z m J l y k=>by
    let:=h q m (by lia)
    rw[a27 l]at this;simp[bq]at this;show bx (a1u C.sa r y k) this
   rw[<- a6C]at f
   by_cases e1:p=1
   .rw[if_pos ↑e1];subst e1;show fN (H.dn _ _ _ (SG.refl _) (a2N▸f.doneB C.sa C.sb C.first))
   .rw[if_neg ↑e1]
    by_cases e2:p=0
    .rw[if_pos ↑e2];show fN (H.dn _ _ _ (SG.refl _) (a1W▸f.doneA C.sa C.sb (.inr e2)))
    .rw[if_neg ↑e2];show b6o C (f,by lia,by lia) c H (by lia)
  .let:p=v:=by lia
   subst this;show b6o C (d,by lia,by lia) c H (by cbv)
def b8E(C:MC M A E s κ k0 a₀ a b)(hk:kindOf st=k0)(R:RdH κ a b o (u+1) (v+1))(H:HG st κ a b n Q)(hn:u+v<n):wpS M A E s (hi3 a b (u+1) (v+1) o g ac bc) Q st:=by
 let S:=R.ua;let N:=R.vb;let I:b[v]?=bN b[v]:=getElem?_pos ..;let D:=a0I (a:=b) (i:=v) (by lia);unfold hi3;rw[a4l];show fM (gi ?_);let h:SG st (SortSt.mk' _ _ _ g _):=(rfl,rfl,rfl,rfl);let e:kindOf (SortSt.mk' _ (arrOf st) (fQ st) g (f8 st))=k0:=hk;generalize SortSt.mk' _ (arrOf st) (fQ st) g (f8 st)=st1 at h e;let l:HG st1 κ a b n Q:=(λr c d g=>H.dn r c d (h.trans g),λ_ _ _ _ _ _ d g=>H.br _ _ _ _ _ _ d (h.trans g),λ_ _ _ _ _ _ d g=>H.go _ _ _ _ _ _ d (h.trans g));show fM (a0C I (fM (a1t C.L e (C.hb _ (bp D)) C.ha (by lia) (by lia) (a2M C.sa (by lia)) λp J k j=>?_)));dsimp only;simp at k j;let f:∀y∈a.toList.take p,κ y<=Kk κ b v:=λy m=>by
  let(q,B,x):=a1J m
  let:=k q B
  rw[a27 x]at this;simp[bq]at this;rw[a0N _];cbv
 split
 .let t:=MH.runA C.sa _ (show p+(u+1-p)=u+1 by lia▸R.w) λq z B T x y m=>by
   let:=j q B (by lia)
   rw[a27 x]at this;simp[bq]at this;show bx (a1u C.sb D y m) (bR this)
  rw[<- a6C]at t
  by_cases e1:p=0
  .rw[if_pos ↑e1];show fN (l.dn _ _ _ (SG.refl _) (a1W▸t.doneA C.sa C.sb (.inl e1)))
  .rw[if_neg ↑e1];obtain⟨G,rfl⟩:∃G,p=G+1:=(p-1,by lia);show b6p C e (t,by lia,R.hv) f l (by lia)
 .let:p=u+1:=by lia
  subst this;show b6p C e R f l (by cbv)
def b8F(C:MC M A E s κ k0 a₀ a b)(hk:kindOf st=k0)(R:RdH κ a b o (u+1) (v+1))(H:HG st κ a b n Q)(hn:u+v<n):wpS M A E s (hi2 a b (u+1) (v+1) o g ac bc) Q st:=by
 unfold hi2
 split<;>show b8E C hk R H hn
def b0P(C:MC M A E s κ k0 a₀ a b):MH κ a.toList b.toList [a[a.size-1]'(by let:=C.h0;cbv)] (a.size-1) b.size:=by
 let f:=C.h0;let d:MH κ a.toList b.toList [] (a.size-1+1) b.size:=(by rw[a0T];lia,by rw[a0T];lia,by rw[ca (by rw[a0T];lia),ca (by rw[a0T];lia)];simp,.nil,λx h=>by simp at h,λx h=>by simp at h);show d.pushA C.sa (a0I (a:=a) (i:=a.size-1) (by cbv)) λy e=>C.hl _ (by simp) y (cw e)
def a8Y(C:MC M A E s κ k0 a₀ a b)(hk:kindOf st=k0)
  (h:∀r st',SG st st'->Mgd κ a.toList b.toList r.toList->Q r st'):wpS M A E s (a4n a b) Q st:=by
 let h0:=C.h0;let h1:=C.h1;rw[a46];show a3V (fM (a0C (getElem?_pos a (a.size-1) (by cbv)) ?_));let V:=b0P C
 by_cases e1:a.size-1=0
 .rw[if_pos ↑e1];show fN (h _ _ (SG.refl _) (a1W▸V.doneA C.sa C.sb (.inl e1)))
 rw[if_neg ↑e1]
 by_cases e2:b.size=1
 .rw[if_pos ↑e2];show fN (h _ _ (SG.refl _) ?_);rw[e2]at V;rw[a2N,e2];show V.doneB C.sa C.sb C.first
 rw[if_neg ↑e2];show fM (gg ?_);let R0:RdH κ a b #[a[a.size-1]] (a.size-1) b.size:=(V,by lia,by lia);show fM (f9 (f7 (I:=λx c e=>∃o u v g,c=(ce,u,v,o,g,)/\SG st e/\RdH κ a b o u v/\x+(u+v)<a.size+b.size)
  (Q:=λc e=>Ex2 λr G=>An3 (c=(bN r,G,)) (SG st e) (Mgd κ a.toList b.toList r.toList)) ?step ?fin (_,_,_,_,rfl,SG.refl _,R0,by lia)) ?post)
 case post=>
  ext c e ⟨r,G,rfl,L,m⟩;show fN (h r e L m)
 case fin=>
  ext c e ⟨o,u,v,g,rfl,L,R,hx⟩
  lia
 case step=>
  ext x c e _ hx ⟨o,u,v,g,rfl,L,R,hxi⟩;dsimp only;let hk1:kindOf e=k0:=L.kd.trans hk;show fM (f9 (f7 (I:=λy c l=>∃D f i S J,c=(ce,f,i,D,S,J,)/\l=e/\RdH κ a b D f i/\f+i+y<=u+v)
   (Q:=λc l=>l=e/\((∃r G,c=(bN r,G,)/\Mgd κ a.toList b.toList r.toList)\/∃D f i S J,c=(ce,f,i,D,S,J,)/\RdH κ a b D f i/\f+i<=u+v)) ?st1 ?fi1 (_,_,_,_,_,rfl,rfl,R,by lia)) ?po1)
  case fi1=>
   ext c l ⟨D,f,i,S,J,rfl,rfl,H,Y⟩;show(rfl,.inr (_,_,_,_,_,rfl,H,by lia))
  case st1=>
   ext y c l _ Y ⟨D,f,i,S,J,rfl,rfl,H,hyi⟩;dsimp only;let hu1:=H.hu;let hv1:=H.hv;obtain⟨f,rfl⟩:∃z,f=z+1:=(f-1,by lia);obtain⟨i,rfl⟩:∃z,i=z+1:=(i-1,by lia);show b8D C hk1 H (λr c m=>(rfl,.inl (r,c,rfl,m))) (λo2 i2 j2 u v R2 U=>(rfl,.inr (_,_,_,_,_,rfl,R2,by lia))) λo2 i2 j2 u v R2 U=>(_,_,_,_,_,rfl,rfl,R2,by lia)
  case po1=>
   ext c l ⟨rfl,⟨r,G,rfl,m⟩ |⟨D,f,i,S,J,rfl,H,hij⟩⟩
   .show fN (r,_,rfl,L,m)
   .dsimp only;show a3V ?_;show fM (f9 (f7 (I:=λy c p=>∃B k j N q t,c=(ce,k,j,B,N,q,t,)/\SG st p/\RdH κ a b B k j/\k+j+y<=f+i)
     (Q:=λc p=>SG st p/\((∃r G,c=(bN r,G,)/\Mgd κ a.toList b.toList r.toList)\/∃B k j N q t,c=(ce,k,j,B,N,q,t,)/\RdH κ a b B k j/\k+j<f+i)) ?l ?fi2 (_,_,_,_,_,_,rfl,L,H,by lia)) ?po2)
    case fi2=>
     ext c p ⟨B,k,j,N,q,t,rfl,d,F,Y⟩;show(d,.inr (_,_,_,_,_,_,rfl,F,by let:=F.hu;lia))
    case l=>
     ext y c p _ Y ⟨B,k,j,N,q,t,rfl,d,F,hyi⟩;dsimp only;let hu1:=F.hu;let hv1:=F.hv;obtain⟨k,rfl⟩:∃z,k=z+1:=(k-1,by lia);obtain⟨j,rfl⟩:∃z,j=z+1:=(j-1,by lia);show b8F (n:=k+1+(j+1)) C (d.kd.trans hk) F (λr c W T m=>(d.trans T,.inl (r,c,rfl,m)),λo4 i4 j4 u v w W T X U=>(d.trans T,.inr (_,_,_,_,_,_,rfl,X,by lia)),λo4 i4 j4 u v w W T X U=>(_,_,_,_,_,_,rfl,d.trans T,X,by lia)) (by lia)
    case po2=>
     ext c p ⟨d,⟨r,G,rfl,m⟩ |⟨B,k,j,N,q,t,rfl,F,U⟩⟩
     .show fN (r,_,rfl,d,m)
     .dsimp only;rw[a4l];show fM (gi (fN (_,_,_,_,rfl,(d.kd,d.ar,d.pe,d.fl),F,by lia)))
end
def SR(κ:KF)(xs:Array Keyed)(lo n:Nat):Prop:=∀i j,i<=j->j<n->Kk κ xs (lo+i)<=Kk κ xs (lo+j)
def NR(κ:KF)(xs:Array Keyed)(lo n:Nat):Prop:=∀i j,i<=j->j<n->Kk κ xs (lo+j)<=Kk κ xs (lo+i)
structure Ar (st st':SortSt) (lo:Nat):Prop where
 pm:(arrOf st').Perm (arrOf st)
 pre:∀i,i<lo->(arrOf st')[i]?=(arrOf st)[i]?
 kd:kindOf st'=kindOf st
 pe:fQ st'=fQ st
 fl:f8 st'=f8 st
section
variable{M:Model}{k0:ge}{st st':SortSt}{lo:Nat}
def Ar.refl(st:SortSt)(lo:Nat):Ar st st lo:=(cY.refl _,λ_ _=>rfl,rfl,rfl,rfl)
def Ar.trans(p:Ar x y lo)(q:Ar y z lo):Ar x z lo:=(q.pm.trans p.pm,λi h=>(q.pre i h).trans (p.pre i h),q.kd.trans p.kd,q.pe.trans p.pe,q.fl.trans p.fl)
def Ar.tb(q:Ar st st' lo)(B:TB k0 a₀ st):TB k0 a₀ st':=(q.pm.trans B.pm,q.kd.trans B.kd,q.fl.trans B.fl)
def b12(hs:src<xs.size)(hd:d<=src)(k:Nat) :
  Kk κ (bubble xs src d) k=if k=src-d then Kk κ xs src else if src-d<k/\k<=src then Kk κ xs (k-1) else Kk κ xs k:=by
 let q:=getElem?_bubble hs d hd k
 by_cases h1:k=src-d
 .rw[if_pos h1]at q ⊢;show a26 q
 .rw[if_neg h1]at q ⊢
  by_cases h2:src-d<k/\k<=src
  .rw[if_pos h2]at q ⊢;show a26 q
  .rw[if_neg h2]at q ⊢;show a26 q
def Ar.bub(hs:src<(arrOf st).size)(hd:d<=src)(h:lo<=src-d):Ar st (setArr st (bubble (arrOf st) src d)) lo:=
 (bubble_perm _ _ _,λi a=>by
  rw[getElem?_bubble hs d hd,if_neg (by lia),if_neg (by lia)],rfl,rfl,rfl)
def a8Z(hj:j<=xs.size)(k:Nat):Kk κ (mirror xs i j ((j-i) / 2)) k=if i<=k/\k<j then Kk κ xs (i+j-1-k) else Kk κ xs k:=by
 let q:=getElem?_mirror_all (i:=i) hj k
 by_cases h1:i<=k/\k<j
 .rw[if_pos h1]at q ⊢;show a26 q
 .rw[if_neg h1]at q ⊢;show a26 q
def a28(hj:j<=xs.size)(hq:∀k,i<=k->k<j->Kk κ xs k=Kk κ xs (j-1))(k:Nat):Kk κ (mirror xs i j ((j-i) / 2)) k=Kk κ xs k:=by
 rw[a8Z hj]
 split
 .grind
 .rfl
def Ar.mir(hj:j<=(arrOf st).size)(h:lo<=i):Ar st (setArr st (mirror (arrOf st) i j ((j-i) / 2))) lo:=
 (mirror_perm _ _ _ _,λk a=>by
  rw[getElem?_mirror_all hj,if_neg (by lia)],rfl,rfl,rfl)
def b0Q(L:LtOk M A E s κ k0 a₀)(B:TB k0 a₀ st)(hn:lo+n<=a₀.size)(hok:ok<=n)(hs:SR κ (arrOf st) lo ok)
  (h:∀st',Ar st st' lo->SR κ (arrOf st') lo n->Q cp st'):wpS M A E s (binarySort' lo n ok) Q st:=by
 rw[binarySort'_eq];show fM (f9 (f7 (I:=λk c z=>An3 (c=(ce,(),)) (Ar st z lo) (SR κ (arrOf z) lo (min k n))) (Q:=λc z=>An3 (c=(ce,(),)) (Ar st z lo) (SR κ (arrOf z) lo n)) ?step ?fin ?init) ?post)
 case post=>
  ext c z ⟨rfl,r1,r2⟩;show fN (h z r1 r2)
 case init=>
  show(rfl,Ar.refl _ _,λi j hij hj=>?_)
  by_cases h1:ok=0
  .let:i=j:=by lia
   rw[this];show bH _
  .show hs i j hij (by lia)
 case fin=>
  ext c z ⟨hc,r1,r2⟩;show(hc,r1,?_)
  rwa [show min (max (max ok 1) n) n=n by lia]at r2
 case step=>
  ext k c z hak hkn ⟨rfl,r1,r2⟩;rw[show min k n=k by lia]at r2;let B1:=r1.tb B;show fM (f9 (f7 (I:=λx c y=>y=z/\Ex2 λp q=>An6 (c=(ce,p,q,)) (p<=q) (q<=k) (q-p<=k-x) (∀i,i<p->Kk κ (arrOf z) (lo+i)<=Kk κ (arrOf z) (lo+k)) (∀i,q<=i->i<k->Kk κ (arrOf z) (lo+k)<Kk κ (arrOf z) (lo+i)))
   (Q:=λc y=>y=z/\Ex2 λp q=>An4 (c=(ce,p,q,)) (p<=k) (∀i,i<p->Kk κ (arrOf z) (lo+i)<=Kk κ (arrOf z) (lo+k)) (∀i,p<=i->i<k->Kk κ (arrOf z) (lo+k)<Kk κ (arrOf z) (lo+i))) ?istep ?ifin ?iinit) ?ipost)
  case iinit=>show(rfl,0,k,rfl,by lia,by lia,by lia,λi hi=>by lia,λi h1 h2=>by lia)
  case ifin=>
   ext c y ⟨rfl,p,q,rfl,u1,u2,u3,u4,u5⟩
   let:p=q:=by lia
   subst this;show(rfl,p,p,rfl,u2,u4,u5)
  case istep=>
   ext x c y _ hxk ⟨rfl,p,q,rfl,u1,u2,u3,u4,u5⟩;dsimp only
   by_cases hge:p>=q
   .rw[if_pos hge]
    let:p=q:=by lia
    subst this;show fN (rfl,p,p,rfl,u2,u4,u5)
   .rw[if_neg hge];show fM (a44 L B1 (by lia) (by lia) ?_)
    by_cases hless:Kk κ (arrOf y) (lo+k)<Kk κ (arrOf y) (lo+(p+q) / 2)
    .simp only[hless,decide_true,if_true];show fN (rfl,p,(p+q) / 2,rfl,(hvM hge).1,by lia,(hvS hxk u3 (hvM hge).1 (hvM hge).2).1,u4,λi h1 h2=>?_);show Int.lt_of_lt_of_le hless (r2 _ _ h1 h2)
    .simp only[hless,decide_false,b6,if_false];show fN (rfl,(p+q) / 2+1,q,rfl,(hvM hge).2,u2,(hvS hxk u3 (hvM hge).1 (hvM hge).2).2,λi h1=>?_,u5);show bx (r2 i ((p+q) / 2) (by lia) (by lia)) (dD.mp hless)
  case ipost=>
   ext c y ⟨rfl,p,q,rfl,u2,u4,u5⟩
   change wpS _ _ _ _ (do moveDown' (lo+k) (lo+p);pure (ForInStep.yield (ce,(),))) _ _
   rw[moveDown'_eq];let hks:lo+k<(arrOf y).size:=by rw[B1.sz];lia
   show fM (gi (fN (rfl,r1.trans (Ar.bub hks (by lia) (by lia)),?_)));rw[show min (k+1) n=k+1 by lia];ext i j hij hj
   change Kk κ (bubble (arrOf y) (lo+k) (lo+k-(lo+p))) (lo+i)<=Kk κ (bubble (arrOf y) (lo+k) (lo+k-(lo+p))) (lo+j)
   rw[b12 hks (by lia),b12 hks (by lia),show lo+k-(lo+k-(lo+p))=lo+p by lia];let ek:∀t,1<=t->lo+t-1=lo+(t-1):=λt ht=>by lia
   repeat' split
   all_goals first
    | (exfalso;lia)
    |show bH _
    |show u4 _ (by lia)
    | (rw[ek _ (by lia)];show u4 _ (by lia))
    |show bR (u5 _ (by lia) (by lia))
    | (rw[ek _ (by lia)];show bR (u5 _ (by lia) (by lia)))
    |show r2 _ _ (by lia) (by lia)
    | (rw[ek j (by lia)];show r2 _ _ (by lia) (by lia))
    | (rw[ek i (by lia)];show r2 _ _ (by lia) (by lia))
    | (rw[ek i (by lia),ek j (by lia)];show r2 _ _ (by lia) (by lia))
end
abbrev U1:=Option (Option Nat)×Nat
abbrev U2:=Option (Option Nat)×Nat×Nat
noncomputable def rise(lo p nr:Nat):SM U1:=forIn [p:nr] ((ce,p,):U1) λ_ c=>do
 let x <- ltAt' (lo+c.2) (lo+c.2-1)
 match x with
 |some sm=>if sm=cp then pure (.done (ce,c.2,)) else pure (.yield (ce,c.2+1,))
 |_=>pure (.done (bN ce,c.2,))
noncomputable def fin3(lo n nr:Nat):SM (Option Nat):=do
 iz lo (lo+n)
 let c <- rise lo n nr
 match c.1 with
 |some r=>pure r
 |none=>pure (bN c.2)
noncomputable def fall(lo n nr:Nat):SM U2:=forIn [n:nr] ((ce,n,0,):U2) λ_ c=>do
 let x <- ltAt' (lo+c.2.1) (lo+c.2.1-1)
 match x with
 |some sm=>
  if sm=cp then
   if c.2.2 > 0 then do
    iz (lo+c.2.1-(c.2.2+1)) (lo+c.2.1)
    pure (.yield (ce,c.2.1+1,0,))
   else pure (.yield (ce,c.2.1+1,0,))
  else do
   let x <- ltAt' (lo+c.2.1-1) (lo+c.2.1)
   match x with
   |some lg=>if lg=cp then pure (.done (ce,c.2.1,c.2.2,)) else pure (.yield (ce,c.2.1+1,c.2.2+1,))
   |_=>pure (.done (bN ce,c.2.1,c.2.2,))
 |_=>pure (.done (bN ce,c.2.1,c.2.2,))
noncomputable def part(lo n nr:Nat):SM (Option Nat):=do
 liftM (rule "list.sort.descending-run")
 let c <- fall lo (n+1) nr
 match c.1 with
 |some r=>pure r
 |none=>
  if c.2.2 > 0 then do
   iz (lo+c.2.1-(c.2.2+1)) (lo+c.2.1)
   fin3 lo c.2.1 nr
  else fin3 lo c.2.1 nr
def a4o(lo nr:Nat):countRun' lo nr=(do
  let c <- rise lo 1 nr
  match c.1 with
  |some r=>pure r
  |none=>
   if (c.2==nr)=cp then pure (bN c.2)
   else if c.2 > 1 then do
    let x <- ltAt' lo (lo+c.2-1)
    match x with
    |some up=>if up=cp then pure (bN c.2) else do
      iz lo (lo+c.2)
      part lo c.2 nr
    |_=>pure ce
   else part lo c.2 nr):=by
 kernel_rfl
section
variable{M:Model}{k0:ge}{st:SortSt}{lo nr:Nat}
def b0R{α:Type}{f:Unit->SM α}{Q:α->SortSt->Prop}(h:wpS M A E s (f ()) Q (setArr st (mirror (arrOf st) i j ((j-i) / 2)))):wpS M A E s (iz i j >>= f) Q st:=fM (gi h)
def SR.one:SR κ xs lo 1:=by grind [SR]
def SR.snoc(h:SR κ xs lo n)(h1:1<=n)(c:Kk κ xs (lo+n-1)<=Kk κ xs (lo+n)):SR κ xs lo (n+1):=λi j a b=>by
 by_cases hjn:j<n
 .show h i j a hjn
 .let e:j=n:=by lia
  subst e
  by_cases e2:i=j
  .rw[e2];show bH _
  .show bx (h i (j-1) (by lia) (by lia)) ?_;rw[show lo+(j-1)=lo+j-1 by lia];show c
def NR.snoc(h:NR κ xs lo n)(h1:1<=n)(c:Kk κ xs (lo+n)<=Kk κ xs (lo+n-1)):NR κ xs lo (n+1):=λi j a b=>by
 by_cases hjn:j<n
 .show h i j a hjn
 .let e:j=n:=by lia
  subst e
  by_cases e2:i=j
  .simp_all
  .show bx ?_ (h i (j-1) (by lia) (by lia));rw[show lo+(j-1)=lo+j-1 by lia];show c
def NR.congr(h:NR κ xs lo n)(e:∀k,Kk κ ys k=Kk κ xs k):NR κ ys lo n:=λi j b a=>by rw[e,e];show h i j b a
def b13(L:LtOk M A E s κ k0 a₀)(B:TB k0 a₀ st)(hn:lo+nr<=a₀.size)(hp:1<=p)(hpn:p<=nr)(hs:SR κ (arrOf st) lo p)
  (h:∀n,p<=n->n<=nr->SR κ (arrOf st) lo n->(n=nr\/Kk κ (arrOf st) (lo+n)<Kk κ (arrOf st) (lo+n-1))->Q (ce,n,) st):wpS M A E s (rise lo p nr) Q st:=by
 show f7 (I:=λx c z=>An3 (z=st) (c=(ce,x,)) (SR κ _ lo x)) ?step ?fin (rfl,rfl,hs)
 case fin=>
  ext c z ⟨rfl,rfl,a⟩;rw[show max p nr=nr by lia]at a ⊢;show h nr hpn (aN _) a (.inl rfl)
 case step=>
  ext x c z b d ⟨rfl,rfl,a⟩;show fM (a44 L B (by lia) (by lia) ?_)
  by_cases q:Kk κ (arrOf z) (lo+x)<Kk κ (arrOf z) (lo+x-1)
  .simp only[q];show fN (h x b (by lia) a (.inr q))
  .simp only[q];show fN (rfl,rfl,a.snoc (by lia) (dD.mp q))
def b14(L:LtOk M A E s κ k0 a₀)(B:TB k0 a₀ st)(hn:lo+nr<=a₀.size)(h1:1<=n)(hnn:n<=nr)(hs:NR κ (arrOf st) lo n)
  (h:∀m z,Ar st z lo->1<=m->m<=nr->SR κ (arrOf z) lo m->Q (bN m) z):wpS M A E s (fin3 lo n nr) Q st:=by
 let a:lo+n<=(arrOf st).size:=by rw[B.sz];lia
 show b0R ?_;let b:Ar st _ lo:=Ar.mir a (aN _);show fM (b13 L (b.tb B) hn h1 hnn ?_ λm g d c _=>fN (h m _ b (by lia) d c));ext i j e f;rw[a8Z a,a8Z a,if_pos (by lia),if_pos (by lia),show lo+_-1-_=lo+(n-1-i) by lia,show lo+_-1-_=lo+(n-1-j) by lia];show hs _ _ (by lia) (by lia)
def b6q(L:LtOk M A E s κ k0 a₀)(B:TB k0 a₀ st)(hn:lo+nr<=a₀.size)(h1:1<=n)(hnn:n<=nr)(hs:NR κ (arrOf st) lo n)
  (h:∀m e z,Ar st z lo->n<=m->m<=nr->NR κ (arrOf z) lo m->e+1<=m->(∀i,lo+m-(e+1)<=i->i<lo+m->Kk κ (arrOf z) i=Kk κ (arrOf z) (lo+m-1))->Q (ce,m,e,) z):wpS M A E s (fall lo n nr) Q st:=by
 unfold fall;show f7 (I:=λx c z=>∃e,An5 (c=(ce,x,e,)) (Ar st z lo) (NR κ (arrOf z) lo x) (e+1<=x) (∀i,lo+x-(e+1)<=i->i<lo+x->Kk κ (arrOf z) i=Kk κ (arrOf z) (lo+x-1))) ?step ?fin (0,rfl,Ar.refl _ _,hs,by lia,λi l a=>by congr 1;lia)
 case fin=>
  ext c z ⟨e,rfl,b,a,f,d⟩;rw[show max n nr=nr by lia]at a f d ⊢;show h nr e z b hnn (aN _) a f d
 case step=>
  ext x c z p r ⟨e,rfl,b,a,f,d⟩;dsimp only;let k:=b.tb B;let j:lo+x<=(arrOf z).size:=by rw[k.sz];lia
  show fM (a44 L k (by lia) (by lia) ?_)
  by_cases q:Kk κ (arrOf z) (lo+x)<Kk κ (arrOf z) (lo+x-1)
  .simp only[q,decide_true,if_true];let o:=a.snoc (by lia) (bR q)
   by_cases g:e > 0
   .rw[if_pos g];show b0R (fN (0,rfl,b.trans (Ar.mir j (by lia)),o.congr (a28 j d),by lia,λi l a=>by congr 1;lia))
   .rw[if_neg g];show fN (0,rfl,b,o,by lia,λi l a=>by congr 1;lia)
  .simp only[q,decide_false,if_false];show fM (a44 L k (by lia) (by lia) ?_)
   by_cases q2:Kk κ (arrOf z) (lo+x-1)<Kk κ (arrOf z) (lo+x)
   .simp only[q2,decide_true,if_true];show fN (h x e z b p (by lia) a f d)
   .simp only[q2,decide_false,if_false];let g:Kk κ (arrOf z) (lo+x)=Kk κ (arrOf z) (lo+x-1):=by lia
    show fN (e+1,rfl,b,a.snoc (by lia) (by lia),by lia,λi l a=>?_);rw[show lo+(x+1)-1=lo+x by lia]
    by_cases hix:i=lo+x
    .rw[hix]
    .grind
def b15(L:LtOk M A E s κ k0 a₀)(B:TB k0 a₀ st)(hn:lo+nr<=a₀.size)(hnn:n+1<=nr)(hs:NR κ (arrOf st) lo (n+1))
  (h:∀m z,Ar st z lo->1<=m->m<=nr->SR κ (arrOf z) lo m->Q (bN m) z):wpS M A E s (part lo n nr) Q st:=by
 show a3V (fM (b6q L B hn (by simp) hnn hs λm e z c l i g o j=>?_));dsimp only;let f:=c.tb B;let a:lo+m<=(arrOf z).size:=by rw[f.sz];lia
 by_cases he:e > 0
 .rw[if_pos he];let d:Ar st (setArr z (mirror (arrOf z) (lo+m-(e+1)) _ _)) lo:=c.trans (Ar.mir a (by lia));show b0R (b14 L (d.tb B) hn (by lia) i (g.congr (a28 a j)) λk w b=>h k w (d.trans b))
 .rw[if_neg he];show b14 L f hn (by lia) i g λk w b=>h k w (c.trans b)
def b3E(L:LtOk M A E s κ k0 a₀)(B:TB k0 a₀ st)(hn:lo+nr<=a₀.size)(h1:1<=nr)
  (h:∀m z,Ar st z lo->1<=m->m<=nr->SR κ (arrOf z) lo m->Q (bN m) z):wpS M A E s (countRun' lo nr) Q st:=by
 rw[a4o];show fM (b13 L B hn (aN 1) h1 SR.one λn e l b t=>?_);dsimp only
 by_cases hnn:n=nr
 .rw[if_pos ↑hnn];show fN (h n st (Ar.refl _ _) e l b)
 .rw[if_neg ↑hnn];let d:=t.resolve_left hnn;let c:lo+n<=(arrOf st).size:=by rw[B.sz];lia
  by_cases hgt:n > 1
  .rw[if_pos hgt];show fM (a44 L B (by lia) (by lia) ?_)
   by_cases q:Kk κ (arrOf st) lo<Kk κ (arrOf st) (lo+n-1)
   .simp only[q,decide_true,if_true];show fN (h n st (Ar.refl _ _) e l b)
   .simp only[q,if_false];let a:∀k,lo<=k->k<lo+n->Kk κ (arrOf st) k=Kk κ (arrOf st) (lo+n-1):=λk y x=>by
     let g:=b 0 (k-lo) (by lia) (by lia);let f:=b (k-lo) (n-1) (by lia) (by lia);rw[show lo+(k-lo)=k by lia]at g f;rw[show lo+(n-1)=lo+n-1 by lia]at f;rw[d7]at g
     lia
    let o:Ar st _ lo:=Ar.mir c (aN _);let u:NR κ (arrOf st) lo (n+1):=by
     show NR.snoc (λi j p r=>?_) (by cbv) (bR d);rw[a (lo+i) (by lia) (by lia),a (lo+j) (by lia) (by lia)];show bH _
    show b0R (b15 L (o.tb B) hn (by lia) (u.congr (a28 c a)) λk w v=>h k w (o.trans v))
  .rw[if_neg hgt]
   let:n=1:=by lia
   subst this;show b15 L B hn (by lia) ?_ h;show NR.snoc (λi j p r=>?_) (by cbv) (bR d)
   let:i=j:=by lia
   rw[this];show bH _
end
def a50(i:Nat):jh i=(do
 let z <- get
 let (bN (p,n,w,),bN (q,m,_,),):=((fQ z)[i]?,(fQ z)[i+1]?,) |jf "internal:list.sort.pending"
 set (iA z (((fQ z).setIfInBounds i (p,n+m,w,)).eraseIdxIfInBounds (i+1)))
 let bN k <- a1n js (<- elem' (arrOf z) q) (arrOf z) p n 0 |return js
 let (p,n,):=(p+k,n-k,)
 if n==0 then return cp
 let bN m <- a1n cp (<- elem' (arrOf z) (p+n-1)) (arrOf z) q m (m-1) |return js
 if m==0 then return cp
 let x:=(arrOf z).extract p q
 let y:=(arrOf z).extract q (q+m)
 let mg <- if n<=m then a4m x y else a4n x y
 modify λz=>setArr z (mg.toList.zipIdx.foldl (λa (v,j,)=>a.setIfInBounds (p+j) v) (arrOf z))
 return (f8 (<- get)).isNone):=rfl
def b0S(bs:Nat):∀(l:List Keyed)(k:Nat)(xs:Array Keyed),bs+k+l.length<=xs.size ->
  ((l.zipIdx k).foldl (λa (pj:Keyed×Nat)=>a.setIfInBounds (bs+pj.2) pj.1) xs).toList=xs.toList.take (bs+k)++(l++xs.toList.drop (bs+k+l.length)):=by ext z0;induction z0 with
 |nil=>ext k xs _;simp
 |cons x l I0=>
  ext k xs h;rw[aS]at h;rw[List.zipIdx_cons,eR,I0 _ _ (by grind)];let e:(xs.setIfInBounds (bs+k) x).toList=xs.toList.set (bs+k) x:=by simp
  rw[e,show bs+_=bs+k+1 by lia,List.drop_set_of_lt (by lia),aS,show bs+k+1+l.length=bs+k+(l.length+1) by lia]
  let:(xs.toList.set (bs+k) x).take (bs+k+1)=xs.toList.take (bs+k)++[x]:=by
   rw[b4,List.take_set_of_le (aN _),dN (by grind)]
   rfl
  rw[this];simp
section
variable{M:Model}{k0:ge}{st:SortSt}
def b8G(h:Q ⟨⟩ z):wpS M A E s (set z:SM PUnit) Q st:=fS (rfl,h)
def b16(e:xs.toList=jt++(ju++R))(hi:i<ju.length):Kk κ xs (jt.length+i)=κ ju[i]:=by
 show a27 ?_;rw[e,cS (by simp),cG (by lia),show jt.length+i-jt.length=i by lia];show bf hi
def a1X(h:Srt κ jt)(hij:i<=j)(hj:j<jt.length):κ (jt[i]'(by lia))<=κ jt[j]:=by
 by_cases e:i=j
 .subst e;show bH _
 .show d3.mp h i j (by lia) hj (by lia)
def a6D{X:List Keyed}(h:x∈X):∃i,∃(hi:i<X.length),X[i]=x:=List.mem_iff_getElem.mp h
def a47{X:List Keyed}(h:x∈X.take k):∃i,∃(hi:i<X.length),i<k/\X[i]=x:=by
 let(q,a,d):=a1J h;let(b,c):=bh.mp d;show(q,b,a,c)
def a6E{X:List Keyed}(h:x∈X.drop k):∃i,∃(hi:i<X.length),k<=i/\X[i]=x:=by
 let(q,b,e,d):=a1I h;let(c,a):=bh.mp d;show(q,c,b,a)
def a80(L:LtOk M A E s κ k0 a₀)(B:TB k0 a₀ st)(e1:(fQ st)[i]?=bN (sa,na,pw,))(e2:(fQ st)[i+1]?=bN (sb,nb,pw2,))
  (ea:(arrOf st).toList=jt++(ju++(Y++S))) (hP:jt.length=sa) (hX:ju.length=na) (hsb:sb=sa+na) (hY:Y.length=nb) (sX:Srt κ ju) (sY:Srt κ Y) (h1:0<na) (h2:0<nb)
  (h:∀st' Z,TB k0 a₀ st'->(arrOf st').toList=jt++(Z++S)->Z.length=na+nb->Srt κ Z->fQ st'=((fQ st).setIfInBounds i (sa,na+nb,pw,)).eraseIdxIfInBounds (i+1)->Q cp st'):wpS M A E s (jh i) Q st:=by
 let hsz:(arrOf st).size=sa+na+nb+S.length:=by
  rw[<- a0T,ea];simp;lia
 let hmem:∀p∈(arrOf st).toList,p∈a₀.toList:=λp hp=>(cW.mp B.pm).mem_iff.mp hp;let eb:(arrOf st).toList=(jt++ju)++(Y++S):=by rw[ea,bA]
 let kX:∀i,(hi:i<ju.length)->Kk κ (arrOf st) (sa+i)=κ ju[i]:=λi hi=>by rw[<- hP];show b16 ea hi
 let kY:∀i,(hi:i<Y.length)->Kk κ (arrOf st) (sb+i)=κ Y[i]:=λi hi=>by
  rw[hsb,<- hP,<- hX,<- aW];show b16 eb hi
 rw[a50];show fM (gg ?_);rw[e1,e2];dsimp only;show fM (b8G ?_);let B1:TB k0 a₀ (iA st (((fQ st).setIfInBounds i (sa,na+nb,pw,)).eraseIdxIfInBounds (i+1))):=(B.pm,B.kd,B.fl);let hs1:arrOf (iA st (((fQ st).setIfInBounds i (sa,na+nb,pw,)).eraseIdxIfInBounds (i+1)))=arrOf st:=rfl;let hp1:fQ (iA st (((fQ st).setIfInBounds i (sa,na+nb,pw,)).eraseIdxIfInBounds (i+1)))=((fQ st).setIfInBounds i (sa,na+nb,pw,)).eraseIdxIfInBounds (i+1):=rfl;generalize iA st (((fQ st).setIfInBounds i (sa,na+nb,pw,)).eraseIdxIfInBounds (i+1))=st1 at B1 hs1 hp1;let hy0:sb<(arrOf st).size:=by lia
 let ey:(arrOf st)[sb]?=bN (arrOf st)[sb]:=getElem?_pos ..;let hky:κ (arrOf st)[sb]=κ Y[0]:=by
  let:=kY 0 (by cbv)
  rw[d7,a5Y ey]at this;show this
 let hmy:(arrOf st)[sb]∈a₀.toList:=hmem _ (by simp);show fM (a0C ey (fM ?_));show a1t L B1.kd hmy hmem (by lia) (by cbv) (λp q hp hq=>by rw[kX p (by lia),kX q (by cbv)];show a1X sX hp (by cbv)) λk hkn hlt hge=>?_;dsimp only;let lo:∀q,(hq:q<ju.length)->q<k->κ ju[q]<=κ Y[0]:=λq hq hqk=>by
  let:=hlt q hqk
  rw[kX q hq,hky]at this;simpa[bq]using this
 let up:∀q,(hq:q<ju.length)->k<=q->κ Y[0]<κ ju[q]:=λq hq hqk=>by
  let:=hge q hqk (by lia)
  rw[kX q hq,hky]at this;simpa[bq]using this
 let whole:(∀x∈ju,∀y∈Y,κ x<=κ y)->Q cp st1:=λhxy=>by
  show h st1 (ju++Y) B1 (by rw[hs1,ea,bA]) (by rw[aW,hX,hY]) ?_ hp1;show bu.mpr (sX,sY,hxy)
 by_cases c1:na-k=0
 .rw[if_pos ↑c1];show fN (whole λx hx y hy=>?_);let(q,hq,rfl):=a6D hx;let(r,hr,rfl):=a6D hy;show bx (lo q hq (by lia)) (a1X sY (bo _) hr)
 rw[if_neg ↑c1];let hl:sa+k+(na-k)-1<(arrOf st).size:=by lia
 let ex:(arrOf st)[sa+k+(na-k)-1]?=bN (arrOf st)[sa+k+(na-k)-1]:=getElem?_pos ..;let hkx:κ (arrOf st)[sa+k+(na-k)-1]=κ ju[na-1]:=by
  let:=kX (na-1) (by cbv)
  rw[show sa+(na-1)=sa+k+(na-k)-1 by lia,a5Y ex]at this;show this
 let hmx:(arrOf st)[sa+k+(na-k)-1]∈a₀.toList:=hmem _ (by simp);show fM (a0C ex (fM ?_));show a1t L B1.kd hmx hmem (by lia) (by lia) (λp q hp hq=>by rw[kY p (by lia),kY q (by cbv)];show a1X sY hp (by cbv)) λm hmn hlt2 hge2=>?_;dsimp only;let lo2:∀q,(hq:q<Y.length)->q<m->κ Y[q]<κ ju[na-1]:=λq hq hqk=>by
  let:=hlt2 q hqk
  rw[kY q hq,hkx]at this;simpa[bq]using this
 let up2:∀q,(hq:q<Y.length)->m<=q->κ ju[na-1]<=κ Y[q]:=λq hq hqk=>by
  let:=hge2 q hqk (by lia)
  rw[kY q hq,hkx]at this;simpa[bq]using this
 by_cases c2:m=0
 .rw[if_pos ↑c2];show fN (whole λx hx y hy=>?_);let(q,hq,rfl):=a6D hx;let(r,hr,rfl):=a6D hy;show bx (a1X sX (by lia) (by lia)) (up2 r hr (by lia))
 rw[if_neg ↑c2];let lx:((arrOf st).extract (sa+k) sb).toList=ju.drop k:=by
  rw[eX,dC,ea,d8,<- hP,dA (by lia),cA,show jt.length+k-jt.length=k by lia,eY (by lia),dH (by rw[bT];lia),ca (by rw[bT];lia)]
 let ly:((arrOf st).extract sb (sb+m)).toList=Y.take m:=by
  rw[eX,dC,eb,d8,dA (by rw[aW];lia),cA,show sb-(jt++ju).length=0 by rw[aW];lia,List.drop_zero,dH (by lia),show sb+m-sb=m by lia]
 let C:MC M A E s κ k0 a₀ ((arrOf st).extract (sa+k) sb) ((arrOf st).extract sb (sb+m)):=by
  show(L,λp hp=>?_,λp hp=>?_,?_,?_,?_,?_,λy hy=>?_,λz hz y hy=>?_)
  .rw[lx]at hp;show hmem p (by rw[ea];simp[dB hp])
  .rw[ly]at hp;show hmem p (by rw[ea];simp[cw hp])
  .rw[lx];show a0U sX k
  .rw[ly];show a1b sY m
  .rw[<- a0T,lx,bT];lia
  .rw[<- a0T,ly,bj];lia
  .rw[lx]at hy;let(q,hq,hk,rfl):=a6E hy;rw[a27 (z:=Y[0]) (by rw[ly,d6,if_pos (by lia)];show bf _)];show bR (up q hq hk)
  .rw[ly]at hy;rw[lx,bT,dY,show k+(ju.length-k-1)=na-1 by lia,bf (show na-1<ju.length by cbv)]at hz;cases hz;let(q,hq,hk,rfl):=a47 hy;show bR (lo2 q hq hk)
 let fin:∀(r:Array Keyed)(st2:SortSt),SG st1 st2->Mgd κ ((arrOf st).extract (sa+k) sb).toList ((arrOf st).extract sb (sb+m)).toList r.toList ->
   wpS M A E s (do
    modify λz=>setArr z (r.toList.zipIdx.foldl (λa (pj:Keyed×Nat)=>a.setIfInBounds (sa+k+pj.2) pj.1) (arrOf z))
    return (f8 (<- get)).isNone) Q st2:=by
  ext r st2 g2 mg;rw[lx,ly]at mg;let hrl:r.toList.length=na-k+m:=by rw[mg.1.length_eq,aW,bT,bj];lia
  show fM (gi (fM (gg (fN ?_))));let ha2:arrOf st2=arrOf st:=g2.ar.trans hs1;let ef:=b0S (sa+k) r.toList 0 (arrOf st2) (by rw[ha2];lia);let el:(r.toList.zipIdx.foldl (λa (pj:Keyed×Nat)=>a.setIfInBounds (sa+k+pj.2) pj.1) (arrOf st2)).toList=jt++((ju.take k++r.toList++Y.drop m)++S):=by
   rw[ef,ha2,d7,hrl];let t1:(arrOf st).toList.take (sa+k)=jt++ju.take k:=by
    rw[ea,List.take_append,ca (by lia),<- hP,show jt.length+k-jt.length=k by lia,dH (by cbv)]
   let t2:(arrOf st).toList.drop (sa+k+(na-k+m))=Y.drop m++S:=by
    rw[eb,d8,dA (by rw[aW];cbv),cA,show sa+k+(na-k+m)-(jt++ju).length=m by rw[aW];cbv,eY (by cbv)]
   rw[t1,t2];simp
  generalize hgz:r.toList.zipIdx.foldl (λa (pj:Keyed×Nat)=>a.setIfInBounds (sa+k+pj.2) pj.1) (arrOf st2)=ar at el;let hperm:(ju.take k++r.toList++Y.drop m).Perm (ju++Y):=by
   let:(ju.take k++r.toList++Y.drop m).Perm (ju.take k++(ju.drop k++Y.take m)++Y.drop m):=(bM.append_left _ mg.1).append_right _
   show this.trans ?_;let e:ju.take k++(ju.drop k++Y.take m)++Y.drop m=ju++Y:=by
    rw[<- bA,cZ,bA,cZ]
   rw[e]
  let pm:ar.Perm (arrOf st):=by
   rw[cW,el,ea];show bM.append_left _ ?_;rw[<- bA (as:=ju)];show hperm.append_right _
  let hfl:f8 (setArr st2 ar)=ce:=g2.fl.trans B1.fl;let B2:TB k0 a₀ (setArr st2 ar):=(pm.trans B.pm,g2.kd.trans B1.kd,hfl);rw[hfl];show h _ _ B2 el (by rw[hperm.length_eq,aW,hX,hY]) ?_ (g2.pe.trans hp1);let hr:∀w∈r.toList,w∈ju.drop k\/w∈Y.take m:=λw hw=>aO.mp (mg.1.mem_iff.mp hw);show bu.mpr (bu.mpr (a1b sX k,mg.2,λx hx w hw=>?_),a0U sY m,λx hx y hy=>?_)
  .let(q,hq,hk,rfl):=a47 hx;let hw||hw:=hr w hw
   .let(p,hp,hk2,rfl):=a6E hw;show a1X sX (by cbv) hp
   .let(p,hp,hk2,rfl):=a47 hw;show bx (lo q hq hk) (a1X sY (bo _) hp)
  .let(p,hp,hk2,rfl):=a6E hy;let hx||hx:=aO.mp hx
   .let(q,hq,hk,rfl):=a47 hx;show bx (lo q hq hk) (a1X sY (bo _) hp)
   .let hx||hx:=hr x hx
    .let(q,hq,hk,rfl):=a6E hx;show bx (a1X sX (by cbv) (by cbv)) (up2 p hp hk2)
    .let(q,hq,hk,rfl):=a47 hx;show a1X sY (by cbv) hp
 split
 .show fM (a8X C B1.kd λr st2 g2 mg=>fin r st2 g2 mg)
 .show fM (a8Y C B1.kd λr st2 g2 mg=>fin r st2 g2 mg)
end
noncomputable def pr(p:Nat×Nat×Nat):Nat×Nat:=(p.1,p.2.1,)
noncomputable def offs:Nat->List (List Keyed)->List (Nat×Nat)
 |_,[]=>[]
 |o,R::Rs=>(o,R.length,)::offs (o+R.length) Rs
def a1K:∀(o:Nat)(U V:List (List Keyed)),offs o (U++V)=offs o U++offs (o+U.flatten.length) V:=by ext z0 y0;induction y0 generalizing z0 with
 |nil=>ext V;simp[offs]
 |cons R U I0=>
  ext V;rw[c9,offs,offs,I0,c9,cT,aW,eZ]
def a1c:∀(o:Nat)(U:List (List Keyed)),(offs o U).length=U.length:=by ext z0 y0;induction y0 generalizing z0 with
 |nil=>show rfl
 |cons R U I0=>rw[offs,aS,aS,I0]
def a81{α:Type}{q p1 p2:α}{pv:List α}:∀pu:List α,((pu++p1::p2::pv).set pu.length q).eraseIdx (pu.length+1)=pu++q::pv:=by ext z0;induction z0 with
 |nil=>show rfl
 |cons x pu I0=>rw[c9,aS,List.set_cons_succ,d9,I0,c9]
theorem a48{α β:Type}{f:α->β}:∀(l:List α)(k:Nat),(l.map f).eraseIdx k=(l.eraseIdx k).map f
 |[],_=>by simp
 |x::l,0=>by simp
 |x::l,k+1=>by rw[aV,d9,d9,aV,a48 l k]
def b0T:∀{Rs:List (List Keyed)},(∀R∈Rs,R≠[])->Rs.length<=Rs.flatten.length:=by ext z0;induction z0 with
 |nil=>ext _;simp
 |cons R Rs I0=>
  ext h
  let:=I0 λR a=>h R (.tail _ a)
  let b:=cM.mpr (h R (.head _));rw[cT,aW,aS]
  lia
def Runs(κ:KF)(st:SortSt)(lo:Nat)(rest:List Keyed):Prop:=∃Rs:List (List Keyed),(arrOf st).toList=Rs.flatten++rest/\(∀R∈Rs,Srt κ R/\R≠[])/\Rs.flatten.length=lo/\(fQ st).toList.map pr=offs 0 Rs
section
variable{M:Model}{k0:ge}{st:SortSt}
def a1L{i lo:Nat}(L:LtOk M A E s κ k0 a₀)(B:TB k0 a₀ st)(R:Runs κ st lo jt)(hi:i+1<(fQ st).size)
  (h:∀st',TB k0 a₀ st'->Runs κ st' lo jt->(fQ st').size+1=(fQ st).size->Q cp st'):wpS M A E s (jh i) Q st:=by
 let(Rs,t,f,r,b):=R;let m:(fQ st).size=Rs.length:=by
  let:=congrArg bz b
  rw[aM,a1c]at this;o_head this
 obtain⟨U,X,Y,V,rfl,D⟩:∃U X Y V,Rs=U++X::Y::V/\U.length=i:=by
  show(Rs.take i,Rs[i]'(by lia),Rs[i+1]'(by lia),Rs.drop (i+2),?_,by rw[bj];lia);rw[<- dy,<- dy,cZ]
 let n:=f X (by simp);let q:=f Y (by simp);rw[a1K]at b;simp only[offs,cX]at b;let k:∀(j:Nat)(x:Nat×Nat),(offs 0 U++_::_::offs _ V)[j]?=bN x->∃w,(fQ st)[j]?=bN (x.1,x.2,w,):=λj x d=>by
  rw[<- b,aU]at d;rw[<- cb];cases e:(fQ st).toList[j]? with
  |none=>rw[e]at d;cases d
  |some p=>
   rw[e]at d;cases d;show(p.2.2,rfl)
 let c:(offs 0 U).length=i:=by rw[a1c,D]
 let(J,G):=k i _ (by rw[cS (by lia),c,Nat.sub_self];rfl);let(I,y):=k (i+1) (U.flatten.length+X.length,Y.length,) (by simp_all);let C:(arrOf st).toList=U.flatten++(X++(Y++(V.flatten++jt))):=by rw[t];simp
 show a80 L B G y C rfl rfl rfl rfl n.1 q.1 (cM.mpr n.2) (cM.mpr q.2) λl Z H F o v u=>?_;let g:(fQ l).toList.map pr=offs 0 (U++Z::V):=by
  rw[u,Array.toList_eraseIdxIfInBounds,Array.toList_setIfInBounds,<- a48,List.map_set,b,<- c,a81,a1K];simp only[offs,cX,pr];rw[o,eZ]
 show h l H (U++Z::V,by rw[F];simp,λR a=>?_,?_,g) ?_
 .let a||a:=aO.mp a
  .show f R (by simp[a])
  .let rfl||a:=aT.mp a
   .show(v,λz=>by rw[z]at o;let:=cM.mpr n.2;simp at o;lia)
   .show f R (by simp[a])
 .rw[<- r];simp
  lia
 .grind
def Runs.ar{lo n:Nat}(R:Runs κ st lo jt)(q:Ar st st' lo)(hs:SR κ (arrOf st') lo n)(hn:lo+n<=(arrOf st').size)(h1:1<=n):∃X rest',Srt κ X/\X.length=n/\Runs κ st' lo (X++rest'):=by
 let(Rs,g,f,c,e):=R;let b:(arrOf st').toList.take lo=Rs.flatten:=by
  show ed λi=>?_
  by_cases a:i<lo
  .rw[d6,if_pos a,cb,q.pre i a,<- cb,g,cG (by lia)]
  .grind
 show(((arrOf st').toList.drop lo).take n,((arrOf st').toList.drop lo).drop n,?_,by rw[bj,bT,a0T];lia,Rs,?_,f,c,by rw[q.pe];show e)
 .show d3.mpr λi j a d k=>?_;rw[bj,bT,a0T]at a d
  let:=hs i j (by lia) (by lia)
  rw[a0N _,a0N _]at this;o_head this
 .rw[cZ,<- b,cZ]
def Runs.push{lo n:Nat}(R:Runs κ st lo (jt++ju))(sX:Srt κ jt)(hX:jt.length=n)(h1:1<=n)(ha:arrOf st'=arrOf st)(hp:(fQ st').toList.map pr=(fQ st).toList.map pr++[(lo,n,)]):Runs κ st' (lo+n) ju:=by
 let(Rs,e,d,b,c):=R;show(Rs++[jt],by rw[ha,e];simp,λR a=>?_,by simp[b,hX],?_)
 .let a||a:=aO.mp a
  .show d R a
  .rw[aR.mp a];show(sX,λz=>by rw[z]at hX;simp at hX;lia)
 .rw[hp,c,a1K,cX,b];simp[offs,hX]
def t_sortRuns(L:LtOk M A E s κ k0 a₀)(B:TB k0 a₀ st)(hp:fQ st=#[])
  (h:∀st',TB k0 a₀ st'->Srt κ (arrOf st').toList->Q () st'):wpS M A E s sortRuns' Q st:=by
 rw[sortRuns'_eq];show fM (gg ?_);dsimp only;rw[B.sz];generalize minRun' a₀.size a₀.size 0=mr;show fM (f9 (f7 (I:=λx c z=>Ex2 λd e=>An4 (c=(ce,d,)) (TB k0 a₀ z) (Runs κ z d e) (x<=d))
  (Q:=λc z=>Ex2 λd e=>An4 (c=(ce,d,)) (TB k0 a₀ z) (Runs κ z d e) (a₀.size<=d)) ?step ?fin (0,(arrOf st).toList,rfl,B,([],by simp,λR h=>by simp at h,rfl,by rw[hp];rfl),aN _)) ?post)
 case fin=>
  ext c z ⟨d,e,rfl,t,u,hx⟩;show(d,e,rfl,t,u,by lia)
 case step=>
  ext x c z _ hx ⟨d,e,rfl,t,u,hxl⟩;dsimp only
  by_cases c1:d>=a₀.size
  .rw[if_pos c1];show fN (d,e,rfl,t,u,c1)
  rw[if_neg c1];show fM (b3E L t (by lia) (by lia) λm z2 Y m1 m2 m3=>?_);dsimp only
  by_cases c2:m<mr
  .rw[if_pos c2];show a3V (fM (b0Q L (Y.tb t) (by lia) (by lia) m3 λS C D=>?_));rw[if_neg (by decide)];let C:=Y.trans C;let v:1<=min (a₀.size-d) mr:=by lia
   let V:d+min (a₀.size-d) mr<=a₀.size:=by lia
   generalize min (a₀.size-d) mr=n at v V D ⊢;let r:=C.tb t;let(X,f,J,G,R3):=u.ar C D (by rw[r.sz];lia) v;show fM (gg ?_);cases hb:(fQ S).back? with
   |none=>
    dsimp only;show fM (gi (fN (d+n,f,rfl,(r.pm,r.kd,r.fl),R3.push J G v rfl (by change (((fQ S).push (d,n,0,)).toList).map pr=_;rw[bS,aY];rfl),by lia)))
   |some p=>
    let(w,o,w1):=p;dsimp only;generalize power' a₀.size (2*w+o) (2*w+o+o+n) a₀.size=pw;show fM (f9 (f7 (I:=λ_ c y=>An3 (c=(ce,(),)) (TB k0 a₀ y) (Runs κ y d (X++f))) ?w (λ_ _ hh=>hh) (rfl,r,R3)) ?p1)
    case w=>
     ext x c y _ _ ⟨rfl,g,j⟩;show fM (gg ?_)
     by_cases hgt:(fQ y).size > 1
     .rw[if_pos hgt];let eo:(fQ y)[(fQ y).size-2]?=bN (fQ y)[(fQ y).size-2]:=getElem?_pos ..;rw[eo];dsimp only
      split
      .show fN (rfl,g,j)
      .show fM (a1L L g j (by lia) λy2 N H _=>?_);rw[if_neg (by decide)];show fN (rfl,N,H)
     .rw[if_neg hgt];show fN (rfl,g,j)
    case p1=>
     ext c y ⟨rfl,g,j⟩;dsimp only;show fM (gi (fM (gi (fN (d+n,f,rfl,(g.pm,g.kd,g.fl),j.push J G v rfl ?_,by lia)))));let em:∀(q:Array (Nat×Nat×Nat))(k:Nat),(q.modify k λ(a,b,_,)=>(a,b,pw,)).toList.map pr=q.toList.map pr:=λq k=>by
      show ed λi=>?_;rw[aU,aU,cb,cb,fe]
      split
      .cases q[i]? with
       |none=>rfl
       |some p=>rfl
      .rfl
     rw[bS,aY,em]
     rfl
  .rw[if_neg c2];let V:d+m<=a₀.size:=by lia
   let v:=m1;let D:=m3;let C:=Y;generalize m=n at v V D ⊢;generalize z2=S at C D ⊢;let r:=C.tb t;let(X,f,J,G,R3):=u.ar C D (by rw[r.sz];lia) v;show fM (gg ?_);cases hb:(fQ S).back? with
   |none=>
    dsimp only;show fM (gi (fN (d+n,f,rfl,(r.pm,r.kd,r.fl),R3.push J G v rfl (by change (((fQ S).push (d,n,0,)).toList).map pr=_;rw[bS,aY];rfl),by lia)))
   |some p=>
    let(w,o,w1):=p;dsimp only;generalize power' a₀.size (2*w+o) (2*w+o+o+n) a₀.size=pw;show fM (f9 (f7 (I:=λ_ c y=>An3 (c=(ce,(),)) (TB k0 a₀ y) (Runs κ y d (X++f))) ?w (λ_ _ hh=>hh) (rfl,r,R3)) ?p1)
    case w=>
     ext x c y _ _ ⟨rfl,g,j⟩;show fM (gg ?_)
     by_cases hgt:(fQ y).size > 1
     .rw[if_pos hgt];let eo:(fQ y)[(fQ y).size-2]?=bN (fQ y)[(fQ y).size-2]:=getElem?_pos ..;rw[eo];dsimp only
      split
      .show fN (rfl,g,j)
      .show fM (a1L L g j (by lia) λy2 N H _=>?_);rw[if_neg (by decide)];show fN (rfl,N,H)
     .rw[if_neg hgt];show fN (rfl,g,j)
    case p1=>
     ext c y ⟨rfl,g,j⟩;dsimp only;show fM (gi (fM (gi (fN (d+n,f,rfl,(g.pm,g.kd,g.fl),j.push J G v rfl ?_,by lia)))));let em:∀(q:Array (Nat×Nat×Nat))(k:Nat),(q.modify k λ(a,b,_,)=>(a,b,pw,)).toList.map pr=q.toList.map pr:=λq k=>by
      show ed λi=>?_;rw[aU,aU,cb,cb,fe]
      split
      .cases q[i]? with
       |none=>rfl
       |some p=>rfl
      .rfl
     rw[bS,aY,em]
     rfl
 case post=>
  ext c z ⟨d,e,rfl,t,u,hlo⟩;dsimp only;let hsz:∀y,Runs κ y d e->(fQ y).size<=d:=by
   ext y ⟨Rs,T,F,e3,U⟩;let l:=congrArg bz U;rw[aM,a1c]at l;let h2:=b0T λR hR=>(F R hR).2;simp at l
   lia
  let W:d=a₀.size:=by
   let(Rs,T,F,e3,U):=u
   let:=congrArg bz T
   rw[a0T,t.sz,aW]at this
   lia
  subst W;show fM (f9 (f7 (I:=λx c y=>An4 (c=(ce,(),)) (TB k0 a₀ y) (Runs κ y a₀.size e) ((fQ y).size<=1\/(fQ y).size+x<=a₀.size)) (Q:=λc y=>An4 (c=(ce,(),)) (TB k0 a₀ y) (Runs κ y a₀.size e) ((fQ y).size<=1)) ?s2 ?f2 (rfl,t,u,.inr (hsz z u))) ?p2)
  case f2=>
   ext c y ⟨rfl,g,j,hc⟩;show(rfl,g,j,by lia)
  case s2=>
   ext x c y _ hx ⟨rfl,g,j,hc⟩;show fM (gg ?_)
   by_cases l:(fQ y).size<=1
   .rw[if_pos l];show fN (rfl,g,j,l)
   .rw[if_neg l];show fM (a1L L g j ?_ λy2 N H hy2=>?_)
    .repeat' split
     all_goals lia
    .rw[if_neg (by decide)];show fN (rfl,N,H,.inr (by lia))
  case p2=>
   ext c y ⟨rfl,g,j,hc⟩;let(Rs,T,F,e3,U):=j;let l:=congrArg bz U;rw[aM,a1c]at l;let h2:=congrArg bz T;rw[a0T,g.sz,aW,e3]at h2;let hr:e=[]:=dW.mp (by lia);show fN (h y g ?_);rw[T,hr,bL]
   match Rs,F,l with
   |[],_,_=>show .nil
   |[R],F,_=>o_head (F R (by simp)).1
   |_::_::_,_,l=>simp at l;lia
end
section
variable{k0:ge}
noncomputable def a01(h:Heap)(a:Addr)(vs:List Value):Heap:=((h.update a (Obj.mapSeq λ_=>#[])).push (seqObj "tuple" vs.toArray 0)).push (seqObj "list" #[] 0)
def b17(hb:b≠a)(e:h.get? b=bN o):(a01 h a vs).get? b=bN o:=by
 show Heap.get?_push_of_some _ (Heap.get?_push_of_some _ ?_);rw[Heap.get?_update_ne _ _ _ _ hb];show e
def a82(ho:s.heap.get? a=bN (seqObj "list" vs.toArray n))(hz:vs.length<=100000)
  (hK:2<=vs.length->∀Q:ge->Shared->Prop,Q k0 { s with heap:=a01 s.heap a vs }->wpAny (model prog w) A (keyKind' vs.toArray) Q E { s with heap:=a01 s.heap a vs })
  (hL:2<=vs.length->LtOk (model prog w) A E { s with heap:=a01 s.heap a vs } κ k0 (gY vs))
  (h:∀ps:List Keyed,ps.Perm (gY vs).toList->Srt κ ps->jt (.done (.ret .none)) { s with heap:=ji s.heap a vs (ps.map (·.2)).toArray }):wpAny (model prog w) A (fU.«list.sort» ([.ref a],[])) jt E s:=by
 let i:vs.length<=sizeLine:=by rw[fW];lia
 let o:vs.toArray.size<=sizeLine:=↑i
 let t:=Heap.lt_size ho;rw[list_sort_plain];show fK (jj ho rfl (fK (gZ ho rfl ?_ o (by simp))));obtain⟨u,m⟩:∃u,(s.heap.update a (Obj.mapSeq λ_=>#[])).get? a=bN (seqObj "list" #[] u):=(_,get?_update_seq ho λ_=>#[]);show fK (iB m rfl (fK (wpAny_newTuple ?_ ↑i)));show fK (ib (gb ?_));let g:(((s.heap.update a (Obj.mapSeq λ_=>#[])).push (seqObj "tuple" vs.toArray 0)).push (seqObj "list" #[] 0)).get? a=bN (seqObj "list" #[] u):=by
  rw[Heap.get?_push_ne,Heap.get?_push_ne]
  .show m
  .rw[Heap.size_update];show aZ t
  .rw[iN,Heap.size_update];show aZ (cU t)
 dsimp only;let f:=λy p q=>by
  let:=h (arrOf y).toList (cW.mp p) q
  rw[<- fg,eg]at this;show this
 let b:∀y:SortSt,(arrOf y).Perm (gY vs)->((arrOf y).map (·.2)).size<=fL+1:=λy p=>by
  rw[fh,p.size_eq,pairsOf_size];lia
 by_cases c:vs.toArray.size<2
 .rw[if_pos c,if_pos c];show fK (fS ?_);rw[StateT.run_pure];show fK (fS ?_);dsimp only;let x:(arrOf (SortSt.mk' general' _ #[] 7 ce)).Perm (gY vs):=cY.refl _;show fK (iB g rfl (fK (gZ g rfl ?_ (by simp) (b _ x))));simp only[bne_self_eq_false,b6,if_false];show fS (f _ x ?_)
  change Srt κ (gY vs).toList
  rw[iC]
  let:vs.length<2:=↑c
  match vs,this with
  |[],_=>show .nil
  |[v],_=>show dz _ _
 .rw[if_neg c,if_neg c];let r:2<=vs.length:=↑c
  show fK (hK r _ ?_);show fK (fY (t_sortRuns
   (Q:=λ_ y=>An3 ((arrOf y).Perm (gY vs)) (f8 y=ce) (Srt κ (arrOf y).toList)) (hL r) (cY.refl _,rfl,rfl) rfl λy d j=>(d.pm,d.fl,j)) ?_ λ_ _ e=>e)
  ext⟨⟨⟩,y⟩ l ⟨rfl,d,j,q3⟩;dsimp only;show fK (iB g rfl (fK (gZ g rfl ?_ (by simp) (b y d))));rw[j];simp only[bne_self_eq_false,b6,if_false];show fS (f y d q3)
end
end Tim
namespace Tim
open PySem.W
abbrev Pz:=Sum (Option Int) Str
def PtIs:Pz->Value->Prop
 |.inl ce,v=>v=.none
 |.inl (bN i),v=>∃t,v=.int i t
 |.inr s,v=>∃t,v=.str s t
def PtsAre:List Pz->List Value->Prop
 |[],[]=>True
 |x::xs,v::vs=>PtIs x v/\PtsAre xs vs
 |_,_=>False
noncomputable def lt1:Pz->Pz->Bool
 |.inl (bN i),.inl (bN j)=>decide (i<j)
 |.inr a,.inr b=>decide (a.cps.toList<b.cps.toList)
 |_,_=>js
noncomputable def cmp1:Pz->Pz->Bool
 |.inl (bN _),.inl (bN _)=>cp
 |.inr _,.inr _=>cp
 |_,_=>js
noncomputable def ltT:List Pz->List Pz->Bool
 |x::xs,y::ys=>if x=y then ltT xs ys else lt1 x y
 |_,_=>js
noncomputable def cmpT:List Pz->List Pz->Bool
 |x::xs,y::ys=>if x=y then cmpT xs ys else cmp1 x y
 |[],[]=>cp
 |_,_=>js
def b3F:∀x:Pz,lt1 x x=js:=by
 ext x;let(_||i)||a:=x
 .rfl
 .show decide_eq_false (fi _)
 .show decide_eq_false (List.lt_irrefl _)
def a83:∀{x y z:Pz},lt1 x y=cp->lt1 y z=cp->lt1 x z=cp:=by
 ext x y z h k;let(_||i)||a:=x
 .cases h
 .let(_||j)||b:=y
  .cases h
  .let(_||l)||c:=z
   .cases k
   .show decide_eq_true (Int.lt_trans (of_decide_eq_true h) (of_decide_eq_true k))
   .cases k
  .cases h
 .let _||b:=y
  .cases h
  .let _||c:=z
   .cases k
   .show decide_eq_true (List.lt_trans (of_decide_eq_true h) (of_decide_eq_true k))
def b3G:∀xs:List Pz,ltT xs xs=js:=by ext z0;induction z0 with
 |nil=>show rfl
 |cons x xs I0=>unfold ltT;rw[if_pos rfl];show I0
theorem a29:∀{xs ys zs:List Pz},ltT xs ys=cp->ltT ys zs=cp->ltT xs zs=cp
 |[],_,_,h1,_=>by simp[ltT]at h1
 |_::_,[],_,h1,_=>by simp[ltT]at h1
 |_::_,_::_,[],_,h2=>by simp[ltT]at h2
 |x::xs,y::ys,z::zs,h1,h2=>by
  unfold ltT at *
  by_cases c1:x=y
  .subst c1;rw[if_pos rfl]at h1
   by_cases c2:x=z
   .subst c2;rw[if_pos rfl]at h2 ⊢;show a29 h1 h2
   .rw[if_neg c2]at h2 ⊢;show h2
  .rw[if_neg c1]at h1
   by_cases c2:y=z
   .simp_all
   .rw[if_neg c2]at h2;let a:=a83 h1 h2;rw[if_neg (λe=>by rw[e,b3F]at a;cases a)];show a
def b3H:∀{x y:Pz},cmp1 x y=cp->x≠y->lt1 x y=cp\/lt1 y x=cp:=by
 ext x y k h;let(_||i)||a:=x
 .cases k
 .let(_||j)||b:=y
  .cases k
  .let l||l||l:=Int.lt_trichotomy i j
   .show .inl (decide_eq_true l)
   .show absurd (by rw[l]) h
   .show .inr (decide_eq_true l)
  .cases k
 .let _||b:=y
  .cases k
  .by_cases c1:a.cps.toList<b.cps.toList
   .show .inl (decide_eq_true c1)
   .by_cases c2:b.cps.toList<a.cps.toList
    .show .inr (decide_eq_true c2)
    .show absurd (fj (List.not_lt.mp c2) (List.not_lt.mp c1)) λe=>h (by
      cases b;cases (Array.toList_inj.mp e);rfl)
theorem a84:∀{xs ys:List Pz},cmpT xs ys=cp->xs≠ys->ltT xs ys=cp\/ltT ys xs=cp
 |[],[],_,h=>absurd rfl h
 |[],_::_,h,_=>by simp[cmpT]at h
 |_::_,[],h,_=>by simp[cmpT]at h
 |x::xs,y::ys,h,hn=>by
  unfold cmpT at h;unfold ltT
  by_cases c:x=y
  .subst c;rw[if_pos rfl]at h;rw[if_pos rfl,if_pos rfl];show a84 h λe=>hn (by rw[e])
  .rw[if_neg c]at h;rw[if_neg c,if_neg (Ne.symm c)];show b3H h c
noncomputable def rk(rows:List (List Pz))(x:List Pz):Nat:=rows.countP λq=>ltT q x
theorem b18(h:ltT x y=cp):∀{l:List (List Pz)},x∈l->l.countP (λq=>ltT q x)<l.countP λq=>ltT q y
 |q::l,hm=>by
  let b:l.countP _<=l.countP λq=>ltT q y:=List.countP_mono_left λq _ e=>a29 e h;rw[fm,fm];let a:(if ltT q x=cp then 1 else 0)<=(if ltT q y=cp then 1 else 0):=by
   by_cases c:ltT q x=cp
   .rw[if_pos c,if_pos (a29 c h)];show aN _
   .rw[if_neg c];show bo _
  let e||hm:=aT.mp hm
  .subst e;rw[b3G,h];simp;lia
  .let:=b18 h hm
   lia
def a85(hx:x∈rows)(h:ltT x y=cp):rk rows x<rk rows y:=b18 h hx
def b19(hx:x∈rows)(hy:y∈rows)(hc:cmpT x y=cp):rk rows x<rk rows y↔ltT x y=cp:=by
 show(λh=>?_,a85 hx)
 by_cases e:x=y
 .grind
 .let q||q:=a84 hc e
  .grind
  .let:=a85 hy q;lia
def RowIn(h:Heap)(v:Value)(xs:List Pz):Prop:=∃a o its n,v=.ref a/\h.get? a=bN o/\o.cls=.type "tuple"/\o.data=.seq its n/\PtsAre xs its.toList
def PtIs.uniq:∀{x y:Pz}{v:Value},PtIs x v->PtIs y v->x=y:=by
 ext x y v h k;let(_||i)||a:=x
 .rw[h]at k;let(_||j)||b:=y
  .rfl
  .let(_,k):=k;cases k
  .let(_,k):=k;cases k
 .let(t,rfl):=h;let(_||j)||b:=y
  .cases k
  .let(_,k):=k;cases k;rfl
  .let(_,k):=k;cases k
 .let(t,rfl):=h;let(_||j)||b:=y
  .cases k
  .let(_,k):=k;cases k
  .let(_,k):=k;cases k;rfl
theorem PtsAre.uniq:∀{xs ys:List Pz}{vs:List Value},PtsAre xs vs->PtsAre ys vs->xs=ys
 |[],[],[],_,_=>rfl
 |x::xs,y::ys,v::vs,(a,b),(c,d)=>by rw[a.uniq c,PtsAre.uniq b d]
 |[],_::_,[],_,h=>h.elim
 |[],_,_::_,h,_=>h.elim
 |_::_,_,[],h,_=>h.elim
 |_::_,[],_::_,_,h=>h.elim
def RowIn.uniq(r:RowIn h v xs)(q:RowIn h v ys):xs=ys:=by
 let(a,o,k,n,rfl,j,_,g,d):=r;let(p,m,f,l,e,b,_,c,i):=q;cases e;rw[j]at b;cases b;rw[g]at c;cases c;show d.uniq i
open Classical in
noncomputable def a3x(h:Heap)(v:Value):List Pz:=if e:∃xs,RowIn h v xs then e.choose else []
def a0P(r:RowIn h v xs):a3x h v=xs:=by
 unfold a3x;let e:∃xs,RowIn h v xs:=(xs,r);rw[dif_pos e];show e.choose_spec.uniq r
noncomputable def kT(h:Heap)(rows:List (List Pz)):KF:=λp=>(rk rows (a3x h p.1):Int)
section
variable{b:Bool}{Q:Bool->Shared->Prop}
def a51(h:Q cp s):wpAny (model prog w) A (eqBool .none .none) Q E s:=fK (g6 (fS h))
def b2a:∀{x y:Pz}{p q:Value}{c:Bool},PtIs x p->PtIs y q->cmp1 x y=cp->Q (lt1 x y) s->wpAny (model prog w) A (oneLt' c p q) Q E s:=by
 ext x y p q c a b k h;let(_||i)||u:=x
 .cases k
 .let(_||j)||v:=y
  .cases k
  .let(t,rfl):=a;let(t',rfl):=b;cases c with
   |true=>show oneLt_int h
   |false=>show kat_one _ _ (PyProof.Rows.lt_int h)
  .cases k
 .let _||v:=y
  .cases k
  .let(t,rfl):=a;let(t',rfl):=b;cases c with
   |true=>show oneLt_str h
   |false=>show kat_one _ _ (PyProof.Rows.lt_str h)
def b0U:∀{x y:Pz}{p q:Value},PtIs x p->PtIs y q->(x=y\/cmp1 x y=cp)->Q (decide (x=y)) s->wpAny (model prog w) A (eqBool p q) Q E s:=by
 ext x y p q a b k h;let k:cmp1 x y=cp\/x=.inl ce/\y=.inl ce:=by
  let rfl||k:=k
  .let(_||i)||u:=x
   .show .inr (rfl,rfl)
   .show .inl rfl
   .show .inl rfl
  .show .inl k
 let k||(rfl,rfl):=k
 .let(_||i)||u:=x
  .cases k
  .let(_||j)||v:=y
   .cases k
   .let(t,rfl):=a;let(t',rfl):=b;show wpAny_eqBool_int ?_
    let:(i==j)=decide ((Sum.inl (bN i):Pz)=.inl (bN j)):=by grind
    rw[this];show h
   .cases k
  .let _||v:=y
   .cases k
   .let(t,rfl):=a;let(t',rfl):=b;show wpAny_eqBool_str (by simp_all)
 .rw[show p=Value.none from a,show q=Value.none from b];show a51 (by simp_all)
theorem b2b:∀{xs ys:List Pz}{vs us:List Value}{i:Nat},PtsAre xs vs->PtsAre ys us->cmpT xs ys=cp->Q (ltT xs ys) s->KatLex prog w A b js Q (vs.zip us) i s
 |[],[],[],[],_,_,_,_,h=>h
 |x::xs,y::ys,p::vs,q::us,i,(a,c),(d,e),hc,h=>by
  unfold cmpT at hc;unfold ltT at h
  by_cases exy:x=y
  .rw[if_pos exy]at hc h;show kat_cons (b0U a d (.inl exy) ?_);rw[decide_eq_true exy];show kat_yes (b2b c e hc h)
  .rw[if_neg exy]at hc h;show kat_cons (b0U a d (.inr hc) ?_);rw[decide_eq_false exy];show kat_no (b2a a d hc h)
 |[],_::_,_,_,_,_,_,hc,_=>by simp[cmpT]at hc
 |_::_,[],_,_,_,_,_,hc,_=>by simp[cmpT]at hc
 |[],[],_::_,_,_,h,_,_,_=>h.elim
 |[],[],[],_::_,_,_,h,_,_=>h.elim
 |_::_,_::_,[],_,_,h,_,_,_=>h.elim
 |_::_,_::_,_::_,[],_,_,h,_,_=>h.elim
theorem a3a:∀{xs:List Pz}{vs:List Value},PtsAre xs vs->vs.length=xs.length
 |[],[],_=>rfl
 |_::_,_::_,(_,h)=>by rw[aS,aS,a3a h]
 |[],_::_,h=>h.elim
 |_::_,[],h=>h.elim
def a86(h0:∀p∈jv.toList,∃x∈rows,RowIn jx.heap p.1 x)(hm:∀x∈rows,x.length=jw)(hc:∀x∈rows,∀y∈rows,cmpT x y=cp):LtOk (model prog jy) jt ju jx (kT jx.heap rows) (g4 b) jv:=λp q L I u Q J h=>by
 let(x,d,i):=h0 p L;let(y,c,g):=h0 q I;let B:Q (bN (ltT x y)) u:=by
  let e:decide (kT jx.heap rows p<kT jx.heap rows q)=ltT x y:=by
   unfold kT;rw[a0P i,a0P g]
   let:=b19 d c (hc x d y c)
   cases e:ltT x y
   .grind
   .grind
  rw[e]at h;show h
 let(a,o,j,n,D,H,M,C,t):=i;let(T,S,f,N,G,v,R,F,r):=g;rw[lt'_eq];show fM (gg ?_);rw[J,D,G];show fM (jg (jk (kat_lt H C v F ?_)));let k:=a3a t;let l:=a3a r;rw[hm x d]at k;rw[hm y c]at l;rw[bU]at k l;rw[decide_eq_false (by lia)];show b2b t r (hc x d y c) (rfl,fN B)
end
def a2O{α:Type}:∀vs:List α,vs.zip vs=vs.map λv=>(v,v,):=by ext z0;induction z0 with
 |nil=>show rfl
 |cons v vs I0=>rw[List.zip_cons_cons,aV,I0]
def RowsIn(h:Heap):List Value->List (List Pz)->Prop
 |[],[]=>True
 |v::vs,x::xs=>RowIn h v x/\RowsIn h vs xs
 |_,_=>False
theorem RowsIn.len:∀{vs:List Value}{rows:List (List Pz)},RowsIn h vs rows->vs.length=rows.length
 |[],[],_=>rfl
 |_::_,_::_,(_,r)=>by rw[aS,aS,RowsIn.len r]
 |[],_::_,r=>r.elim
 |_::_,[],r=>r.elim
theorem RowsIn.mem:∀{vs:List Value}{rows:List (List Pz)},RowsIn h vs rows->∀v∈vs,∃x∈rows,RowIn h v x
 |v::vs,x::xs,(r,q),u,hu=>by
  let rfl||hu:=aT.mp hu
  .show(x,.head _,r)
  .let(y,b,a):=q.mem u hu;show(y,.tail _ b,a)
 |[],[],_,u,hu=>by simp at hu
 |[],_::_,r,_,_=>r.elim
 |_::_,[],r,_,_=>r.elim
theorem RowsIn.map:∀{vs:List Value}{rows:List (List Pz)},RowsIn h vs rows->vs.map (a3x h)=rows
 |[],[],_=>rfl
 |v::vs,x::xs,(r,q)=>by rw[aV,a0P r,q.map]
 |[],_::_,r=>r.elim
 |_::_,[],r=>r.elim
def RowIn.mid{vs ws:List Value}(ho:h.get? a=bN (seqObj "list" ws.toArray n))(r:RowIn h v x):RowIn (a01 h a vs) v x:=by
 let(b,o,d,m,i,c,e,g,f):=r;show(b,o,d,m,i,b17 (λz=>?_) c,e,g,f);rw[z,ho]at c;cases c;simp at e
theorem RowsIn.mid{us ws:List Value}(ho:h.get? a=bN (seqObj "list" ws.toArray n)):∀{vs:List Value}{rows:List (List Pz)},RowsIn h vs rows->RowsIn (a01 h a us) vs rows
 |[],[],_=>trivial
 |_::_,_::_,(r,q)=>(r.mid ho,q.mid ho)
 |[],_::_,r=>r.elim
 |_::_,[],r=>r.elim
def a0X(rows:List (List Pz)):Prop:=∀x∈rows,∃(s:Str)(r:List Pz),x=.inr s::r
def a1Y(rows:List (List Pz)):Prop:=∀x∈rows,∃(i:Int)(r:List Pz),x=.inl (bN i)::r
theorem RowsIn.kat{T:Pz->Prop}:∀{vs:List Value}{rows:List (List Pz)},RowsIn h vs rows->(∀x∈rows,∃f r,x=f::r/\T f)->∃fs:List Value,KatTups h vs fs/\fs.length=vs.length/\∀v∈fs,∃f,T f/\PtIs f v
 |[],[],_,_=>([],trivial,rfl,λv a=>by simp at a)
 |v::vs,x::xs,(r,q),hf=>by
  let(j,k,p,g):=q.kat λy d=>hf y (.tail _ d);let(y,t,rfl,d):=hf x (.head _);let(b,o,e,m,rfl,s,l,n,c):=r;cases hi:e.toList with
  |nil=>rw[hi]at c;show c.elim
  |cons f fr=>
   rw[hi]at c;let(i,_):=c;show(f::j,KatTups.cons s l n (by rw[<- cb,hi];rfl) k,by rw[aS,aS,p],λv a=>?_);let rfl||a:=aT.mp a
   .show(y,d,i)
   .simp_all
 |[],_::_,r,_=>r.elim
 |_::_,[],r,_=>r.elim
def sort_tups(ho:s.heap.get? a=bN (seqObj "list" vs.toArray n))(hz:vs.length<=100000)(hr:RowsIn s.heap vs rows)(hf:a0X rows\/a1Y rows)
  (hm:∀x∈rows,x.length=ju) (hc:∀x∈rows,∀y∈rows,cmpT x y=cp)
  (h:∀(out:List Value)(os:List (List Pz)),out.Perm vs->os=out.map (a3x s.heap)->os.Perm rows->os.Pairwise (λx y=>ltT y x=js)->jt (.done (.ret .none)) { s with heap:=ji s.heap a vs out.toArray }):wpAny (model prog w) A (fU.«list.sort» ([.ref a],[])) jt E s:=by
 let k:RowsIn (a01 s.heap a vs) vs rows:=hr.mid ho;show a82 (k0:=g4 cp) ho hz (λW Q H=>?_) (λW=>a86 (λp i=>?_) hm hc) λB i Y=>?_
 .let hf||hf:=hf
  .let(R,o,N,u):=k.kat (T:=λf=>∃x,f=.inr x) λx C=>by let(y,r,e):=hf x C;show(_,r,e,y,rfl)
   show kat_kind (T:=.type "str") o (by lia) (λv d=>?_) (by rfl) H;let(_,(x,rfl),t,rfl):=u v d;show .now
  .let(R,o,N,u):=k.kat (T:=λf=>∃x,f=.inl (bN x)) λx C=>by let(y,r,e):=hf x C;show(_,r,e,y,rfl)
   show kat_kind (T:=.type "int") o (by lia) (λv d=>?_) (by rfl) H;let(_,(x,rfl),t,rfl):=u v d;show .now
 .rw[iC,a2O]at i;let(v,d,rfl):=aQ.mp i;show k.mem v d
 .rw[iC,a2O]at i;let G:(B.map (·.2)).Perm vs:=by
   let:=i.map (·.2)
   rw[aX,show (_∘λv:Value=>(v,v,))=id from rfl,cN]at this;show this
  let j:∀p∈B,p.1=p.2/\p.2∈vs:=λp l=>by
   let(v,d,rfl):=aQ.mp (i.mem_iff.mp l);show(rfl,d)
  let V:((B.map (·.2)).map (a3x s.heap)).Perm rows:=by
   rw[<- hr.map];show G.map _
  show h _ _ G rfl V ?_;rw[bn,bn];show bO.imp_of_mem (λ{p q} l D F=>?_) Y;let(U,S):=j p l;let(M,X):=j q D;let(x,x1,J):=hr.mem _ S;let(y,L,I):=hr.mem _ X;rw[a0P J,a0P I];unfold kT at F;rw[U,M,a0P (J.mid ho),a0P (I.mid ho)]at F;cases e:ltT y x with
  |false=>rfl
  |true=>let:=a85 L e;lia
end Tim
namespace SetW
def Up(xs:Array Nat):Prop:=xs.toList.Pairwise (·<·)
structure TOk (led:Bool) (t:gn):Prop where
 up:Up t.place
 dm:t.dummies=#[]
 ld:t.led=led
end SetW
namespace SetW
noncomputable def byT(w:World):Bool:=w.params.followText "set-order"
inductive KsAre {prog:fO}{w:World}{K:Type}[DecidableEq K] (kd:KeyKind prog w K):List Value->List K->Prop
 |nil:KsAre kd [] []
 |cons {v:Value} {k:K} {vs:List Value} {ks:List K} (h:kd.is k v=cp) (t:KsAre kd vs ks):KsAre kd (v::vs) (k::ks)
structure SO {prog:fO}{w:World}{K:Type}[DecidableEq K] (kd:KeyKind prog w K) (h:Heap) (a:Addr) (es:Array (Int×Value)) (ep:Nat) (t:gn) (ms:List K):Prop where
 at_:∃o,h.get? a=bN o/\o.ExactSet/\o.data=.set es ep t
 el:ElemsOf kd es.toList
 nums:KsAre kd (es.toList.map (·.2)) ms
 sc:es.size<scanBound
 fit:t.fits es.size=cp
 ok:TOk (!byT w) t
def SI{prog:fO}{w:World}{K:Type}[DecidableEq K](kd:KeyKind prog w K)(h:Heap)(a:Addr)(ms:List K):Prop:=∃es ep t,SO kd h a es ep t ms
section
variable{K:Type}[DecidableEq K]{kd:KeyKind prog w K}
def b6r(h:KsAre kd vs ns):vs.length=ns.length:=by
 induction h with
 |nil=>rfl
 |cons _ _ ih=>rw[aS,aS,ih]
def b6s(h:KsAre kd vs ns):(∃v∈vs,kd.is k v=cp)↔k∈ns:=by
 induction h with
 |nil=>simp
 | @cons v n vs ns h1 _ ih=>
  rw[aT,<- ih]
  constructor
  .ext⟨u,a,b⟩;let rfl||a:=aT.mp a
   .show .inl (kd.inj _ _ _ b h1)
   .show .inr (u,a,b)
  .ext (rfl |⟨u,a,b⟩)
   .show(v,.head _,h1)
   .show(u,.tail _ a,b)
end
section
variable{a:Addr}{es:Array (Int×Value)}{ep:Nat}{t:gn}{K:Type}[DecidableEq K]{kd:KeyKind prog w K}{ms:List K}{k:K}
def SO.mem(S:SO kd s.heap a es ep t ms):(∃e∈es.toList,kd.is k e.2=cp)↔k∈ms:=by
 rw[<- b6s S.nums]
 constructor
 .ext⟨e,c,b⟩;show(e.2,bK c,b)
 .ext⟨u,d,b⟩;let(e,c,rfl):=aQ.mp d;show(e,c,b)
def SO.stored{h:Heap}(ho:h.get? a=bN o)(hx:o.ExactSet)(hd:o.data=.set es ep t)(hel:ElemsOf kd es'.toList)(hi:KsAre kd (es'.toList.map (·.2)) ms')(hs:es'.size<scanBound)(hf:t'.fits es'.size=cp)(hk:TOk (!byT w) t') :
  (h.update a (Obj.putSet es' t')).get? a=bN { o with data:=.set es' (ep+1) t' }/\SO kd (h.update a (Obj.putSet es' t')) a es' (ep+1) t' ms':=by
 let b:(h.update a (Obj.putSet es' t')).get? a=bN { o with data:=.set es' (ep+1) t' }:=by
  let q:=Heap.get?_update_self (Obj.putSet es' t') ho (by rw[putSet_of es' t' hd];rfl);rw[putSet_of es' t' hd]at q;show q
 show(b,((_,b,hx,rfl),hel,hi,hs,hf,hk))
def TOk.plain(h:TOk led t):TOk led ({ t with plain:=b }:gn):=(h.up,h.dm,h.ld)
end
def SI.at{K:Type}[DecidableEq K]{kd:KeyKind prog w K}{ms:List K}(S:SI kd h a ms)(k:∀o,h.get? a=bN o->h'.get? a=bN o):SI kd h' a ms:=by
 let(l,i,t,(o,g,x,d),f,j,e,c,b):=S;show(l,i,t,(o,k o g,x,d),f,j,e,c,b)
def Met{K:Type}(val:Nat->K)(i:Nat)(ms:List K):Prop:=ms.Nodup/\ms.length<=i/\∀x,x∈ms↔∃j,j<i/\val j=x
def Met.step{K:Type}[DecidableEq K]{val:Nat->K}{ms ms':List K}(h:Met val i ms)(p:ms'.Perm (if val i∈ms then ms else ms++[val i])):Met val (i+1) ms':=by
 let(d,k,b):=h;let a:∀x,(∃j,j<i+1/\val j=x)↔(∃j,j<i/\val j=x)\/x=val i:=λx=>by grind
 by_cases c:val i∈ms
 .rw[if_pos c]at p;show(p.nodup_iff.mpr d,by rw[p.length_eq];lia,λx=>?_);rw[p.mem_iff,a,b];show(.inl,λz=>z.elim id λe=>(b x).mp (e▸c))
 .rw[if_neg c]at p;show(p.nodup_iff.mpr ?_,by rw[p.length_eq];simp;show k,λx=>?_)
  .rw[cc];show(d,by simp,λx g y f=>by rw[aR.mp f];ext rfl;show c g)
  .rw[p.mem_iff,a,aO,b,aR]
section
variable{K:Type}[DecidableEq K]{kd:KeyKind prog w K}
abbrev a6F(w:World):Obj:={ cls:=.type "set",dict:=ce,data:=.set #[] 0 (.fresh 0 0 (!byT w)) }
def SI.fresh(g:h.get? a=bN (a6F w)):SI kd h a []:=
 (#[],0,.fresh 0 0 _,(_,g,(rfl,rfl,rfl),rfl),λe b=>by simp at b,.nil,by decide,rfl,(.nil,rfl,rfl))
end
def SetIt(h:Heap)(it a:Addr)(first:Value)(i n ep:Nat):Prop:=∃o,h.get? it=bN o/\o.cls=.type "set_iterator"/\o.data=.fields #[first,.int i 0,.ref a,.int n 0,.int ep 0]
def SetIt.ty{s:Shared}(x:SetIt s.heap it a f i n ep):s.TypeIs (.ref it) "set_iterator":=let (o,g,c,_):=x;(o,g,c)
def SetIt.at(x:SetIt h it a f i n ep)(e:∀o,h.get? it=bN o->h'.get? it=bN o):SetIt h' it a f i n ep:=let (o,g,r):=x;(o,e _ g,r)
def SO.at{K:Type}[DecidableEq K]{kd:KeyKind prog w K}{ms:List K}(S:SO kd h a jt ep t ms)(k:∀o,h.get? a=bN o->h'.get? a=bN o):SO kd h' a jt ep t ms:=by
 let((o,g,x,d),i,f,e,b,c):=S;show((o,k o g,x,d),i,f,e,b,c)
section
variable{T:Addr}{i k:Nat}{o:Obj}{ps:List Nat}{a:Addr}{ep:Nat}{es:Array (Int×Value)}{t:gn}{K:Type}[DecidableEq K]{kd:KeyKind prog w K}{ms:List K}
def PlacesAt(h:Heap)(T:Addr)(ps:List Nat):Prop:=∃o c,h.get? T=bN o/\o.data=.seq (ps.map λ(i:Nat)=>rawInt i).toArray c
def PlacesAt.at(x:PlacesAt h T ps)(k:∀o,h.get? T=bN o->h'.get? T=bN o):PlacesAt h' T ps:=by let(o,c,g,d):=x;show(o,c,k _ g,d)
def SO.ty(S:SO kd s.heap a es ep t ms):s.TypeIs (.ref a) "set":=by let(o,g,x,_):=S.at_;show(o,g,x.1)
def SO.len(S:SO kd s.heap a es ep t ms):es.size=ms.length:=by
 let q:=b6r S.nums;o_head q
end
end SetW
def Inv.drew(I:Inv X pins σ H s)(d:Drawn):Inv X pins σ H { s with drawn:=d }:=
 I.step (ch:=[]) (λb a=>nomatch a) (λb o _ _ _ e _=>e) (λb o _ _ _ e _=>(o.slots,e)) (λ_ _ _ _ n=>n) (λb o _ e=>(o,e)) (λ_ _ e=>e) (λ_ _ _ e=>e) (λb f e=>(#[],by rw[e];simp)) (λm c=>c) I.hok I.bare
structure Zs where
 it:Addr
 tp:Bool
 l:Addr
def Zs.At(z:Zs)(k:Nat)(h:Heap):Prop:=if z.tp=cp then h.IsTupleIter z.it z.l k else h.IsListIter z.it z.l k
def Zs.Has(z:Zs)(h:Heap)(xs:Array Value):Prop:=if z.tp=cp then h.IsTuple z.l xs else h.IsList z.l xs
def Zs.At.keep{z:Zs}(a:z.At k h)(q:∀o,h.get? z.it=bN o->h'.get? z.it=bN o):z.At k h':=by
 unfold Zs.At at a ⊢
 split
 .next e=>rw[if_pos e]at a;show a.at q
 .next e=>rw[if_neg e]at a;show a.at q
def Zs.Has.keep{z:Zs}(a:z.Has h xs)(q:∀o,h.get? z.l=bN o->h'.get? z.l=bN o):z.Has h' xs:=by
 unfold Zs.Has at a ⊢
 split
 .next e=>rw[if_pos e]at a;show let (o,ho,r):=a;(o,q o ho,r)
 .next e=>rw[if_neg e]at a;show let (o,ho,r):=a;(o,q o ho,r)
def Zs.At.obj{z:Zs}(a:z.At k h):∃o,h.get? z.it=bN o/\∀v,o.data≠.cell v:=by
 unfold Zs.At at a
 split at a<;>(let(o,e,_,d):=a;show(o,e,λv q=>by rw[d]at q;cases q))
section
variable{σ:St}{h':Heap}
def Inv.turnedT{ch:List Addr}(I:Inv X pins σ H s)(hf:∀b∈ch,FpOk X pins H b)(k:∀b o,b∉ch->s.heap.get? b=bN o->h'.get? b=bN o)
  (hT:s.heap.objs.size<=T) (r:Vals vs us) (hz:vs.length<=fL) (ht:IsTup h' T us.toArray):Inv X pins σ (upd H T (.tup vs)) { s with heap:=h',toks:=t' }:=by
 let g:∀b u,H b=bN u->b∉ch:=λb u e z=>by rw[(hf b z).1]at e;cases e
 let d:=I.hok.fresh hT;let y:∀b o,s.heap.get? b=bN o->b≠T:=λb o e=>aZ (bB (Heap.lt_size e) hT);show I.step (λb f=>?_) (λb o _ _ a e _=>k b o a e) (λb o _ _ a e _=>(o.slots,k b o a e)) (λb o _ e n=>by rw[a0b (y b o e)];show n)
  (λb o a e=>(o,k b o a e)) (λb l e=>by rw[a0b (a0p e d)];show e) (λb _ _ e=>by rw[a0b (a0p e d)];show e) (λb B e=>(#[],by rw[a0b (a0p e d),e];simp)) (λm x=>?_) (λb u e=>?_) I.bare
 .let(_,j,_,p,A,t):=hf b f;show(p,j,A,t)
 .let(o,i,w,h,r):=x;show(o,i,w,k _ o (λz=>(hf _ z).2.1 rfl) h,r)
 .by_cases f:b=T
  .subst f;rw[a0c]at e;cases e;show(hz,us,r,ht)
  .rw[a0b f]at e;show (I.hok b u e).stay (λc v a q=>k c v ?_ q) (λc q=>by rw[a0b (a0p q d)];show q) λc l q=>by rw[a0b (a0p q d)];show q
   let z||z:=a
   .simp_all
   .simp_all
end
def SrcV(K:Fg)(H:Hp)(y:Zs)(xs:List V):Prop:=if y.tp=cp then SqT K H y.l xs else SqL K H y.l xs
noncomputable def SrcV.has(I:Inv X pins σ H s)(h:SrcV X.K H y xs):∃its:List Value,Vals xs its/\y.Has s.heap its.toArray:=by
 unfold SrcV at h;unfold Zs.Has
 split at h
 .next e=>let(a,r,p,_):=I.tuple h;show(a,r,by rw[if_pos e];show p)
 .next e=>let(a,r,p,_):=I.list h;show(a,r,by rw[if_neg e];show p.isList)
def SrcV.inj(I:Inv X pins σ H s)(h:SrcV X.K H y xs)(h':SrcV X.K H y xs'):xs=xs':=by
 unfold SrcV at h h'
 split at h
 .next e=>rw[if_pos e]at h';show I.tuple_inj h h'
 .next e=>rw[if_neg e]at h';show I.list_inj h h'
def SrcP(K:Fg)(H:Hp)(p:Bool×Addr)(xs:List V):Prop:=if p.1=cp then SqT K H p.2 xs else SqL K H p.2 xs
theorem Turn.imp{P:fO}{w:World}{K:Fg}{tg:Expr}{J J':It}{fp:List Addr}{it:Addr}{tn:Nat->Heap->Prop}(t:Turn P w K tg J fp it tn)(g:∀i H,J'.go i H->J.go i H)(y:∀i H x H',J'.go i H->J.yld i H x H'->J'.yld i H x H')(s:∀i H,J'.stop i H->J.stop i H):Turn P w K tg J' fp it tn where
 mem:=t.mem
 obj:=t.obj
 keep:=t.keep
 item:=λX h1 h2 h3 h4 i pins s σ H E I hf st hg=>fY (t.item X h1 h2 h3 h4 i pins s σ H E I hf st (g i H hg)) (λr s1 (u,e,q)=>(u,e,fY q (λ_ s2 (x,H',a,b,c,d,e)=>(x,H',a,b,y i H x H' hg c,d,e)) λ_ _ z=>z)) λ_ _ z=>z
 done:=λX h1 h2 h3 h4 i pins s' σ H E I hf st hg=>t.done X h1 h2 h3 h4 i pins s' σ H E I hf st (s i H hg)
 self:=t.self
noncomputable def putZ(kvs:List (Key×Z))(k:Key)(v:Z):List (Key×Z):=
 if (kvs.any λkv=>decide (kv.1=k))=cp then kvs.map (λkv=>if kv.1=k then (kv.1,v,) else kv) else kvs++[(k,v,)]
theorem a87{α β:Type}:∀{kvs:List (Key×α)}{us:List (Key×β)},us.map (·.1)=kvs.map (·.1)->(us.any λkv=>decide (kv.1=k))=kvs.any λkv=>decide (kv.1=k)
 |[],[],_=>rfl
 |[],_::_,h=>by simp at h
 |_::_,[],h=>by simp at h
 |p::ps,q::qs,h=>by
  rw[aV,aV]at h;injection h with h1 h2
  rw[cI,cI,a87 h2,h1]
def a6G{K:Fg}(rv:Rep K H jt v)(hk:us.map (·.1)=kvs.map (·.1))(hr:Reps K H (kvs.map (·.2)) (us.map (·.2))) :
  (putK us k v).map (·.1)=(putZ kvs k jt).map (·.1)/\Reps K H ((putZ kvs k jt).map (·.2)) ((putK us k v).map (·.2)):=by
 unfold putK putZ;rw[a87 hk]
 split
 .let l:∀{d:List _}{f:List _},f.map (·.1)=d.map (·.1)->Reps K H (d.map (·.2)) (f.map (·.2))->((f.map λc=>if c.1=k then (c.1,v,) else c).map (·.1)=(d.map λc=>if c.1=k then (c.1,jt,) else c).map (·.1)/\Reps K H ((d.map λc=>if c.1=k then (c.1,jt,) else c).map (·.2)) ((f.map λc=>if c.1=k then (c.1,v,) else c).map (·.2))):=by
   ext d
   induction d with
   |nil=>ext f g h;cases f with
    |nil=>show(rfl,.nil)
    |cons _ _=>simp at g
   |cons p ps ih=>
    ext f g h;cases f with
    |nil=>simp at g
    |cons q qs=>
     rw[aV,aV]at g h;injection g with h3 h4
     let(a,b,e,j,m):=h;injection e with e1 e2
     subst e1 e2;let i:=ih h4 m;simp only[aV]
     by_cases e:p.1=k
     .rw[if_pos e,if_pos (h3.trans e)];show(by rw[i.1,h3],.cons rv i.2)
     .rw[if_neg e,if_neg (λz=>e (h3.symm.trans z))];show(by rw[i.1,h3],.cons j i.2)
  show l hk hr
 .rw[aY,aY,hk,aY,aY];show(rfl,hr.append (.cons rv .nil))
noncomputable def keyZ:Z->Option Key
 |.non=>bN (.inl ce)
 |.int i=>bN (.inl (bN i))
 |.str x=>bN (.inr x)
 |_=>ce
def b6t:Z3:=λo i v G R=>match o with
 |.ref p=>∃kvs k,G p=bN (.dK kvs)/\keyZ i=bN k/\kvs.length<fL/\R (put G p (.dK (putZ kvs k v)))
 |_=>False
def a2P{K:Fg}(h:keyZ i=bN k)(r:Rep K H i v):v=kV k:=by
 cases i with
 |non=>rw[a0v]at r;cases h;show r
 |int j=>rw[a0g]at r;cases h;show r
 |str j=>rw[a0r]at r;cases h;show r
 |_=>cases h
def b0V(hu:X.A.units+66<cLine):PSet X (λo i v H Q=>∃a H',o=.ref a/\DPut H a i v H'/\Q H'):=by
 ext e s σ H o i v j l u Q I d f b h;let(a,H',rfl,g,q):=h;cases (d);show a8r (by lia) I g f b λk c=>(H',c,q)
def b3I{α β:Type}{kvs:List (Key×α)}{us:List (Key×β)}(h:us.map (·.1)=kvs.map (·.1)):us.length=kvs.length:=by
 rw[<- aM,h,aM]
def b2c(hu:X.A.units+66<cLine):SetQ X b6t:=b1V (b0V hu) λo i v H Q r=>r.un λa b w G R g q f d h u=>by
 cases a with
 |ref p=>
  let(j,k,e,n,t,h):=h;let(x,c,m,s):=d _ _ e;let l:=a6G (k:=k) f m s;show(p,_,g,?_,u _ _ h (d.set (.dK c) (_,a0c,l.1,l.2.mono (.dK c))) (.dK c));rw[a2P n q];show DPut.k c (b3I m▸t)
 |_=>show aP h
def b2d(e:G p=bN (.dK kvs))(a:keyZ i=bN k)(z:kvs.length<fL)(h:Rg (put G p (.dK (putZ kvs k jt)))):b6t (.ref p) i jt G Rg:=(kvs,k,e,a,z,h)
def SrcP.uniq{K:Fg}(h:SrcP K H p xs)(g:(if p.1=cp then H p.2=bN (.tup ys) else H p.2=bN (.lst ys))):SrcP K H p ys:=by
 unfold SrcP
 split
 .next e=>rw[if_pos e]at g;show SqT.of g
 .next e=>rw[if_neg e]at g;show SqL.of g
noncomputable def putQ(f:Str)(y:Z):List (Str×Z)->List (Str×Z)
 |[]=>[(f,y,)]
 | (g,x,)::r=>if g=f then (g,y,)::r else (g,x,)::putQ f y r
section
variable{K:Fg}
theorem a1Z:∀{fs:List (Str×Z)}{gs:List (Str×V)},gs.map (·.1)=fs.map (·.1)->Reps K H (fs.map (·.2)) (gs.map (·.2))->(fs.lookup f=ce->gs.lookup f=ce)/\∀z,fs.lookup f=bN z->∃v,gs.lookup f=bN v/\Rep K H z v
 |[],[],_,_=>(λ_=>rfl,λ_ h=>by cases h)
 |[],_::_,h,_=>by simp at h
 |_::_,[],h,_=>by simp at h
 | (k,x,)::fs,(k',v,)::gs,h,r=>by
  simp at h;let(rfl,h):=h;let(i,g,e,d,b):=r;let(rfl,rfl):=cV.inj e;rw[bG,bG];cases c:f==k' with
  |true=>
   show(λe=>?_,λz e=>?_)
   .cases e
   .simp_all
  |false=>show (a1Z (f:=f) h b)
theorem a52(ry:Rep K H y u):∀{fs:List (Str×Z)}{gs:List (Str×V)},gs.map (·.1)=fs.map (·.1)->Reps K H (fs.map (·.2)) (gs.map (·.2))->(putF f u gs).map (·.1)=(putQ f y fs).map (·.1)/\Reps K H ((putQ f y fs).map (·.2)) ((putF f u gs).map (·.2))
 |[],[],_,_=>(rfl,by change Reps K H [y] [u];rw[a0H];show(u,[],rfl,ry,by rw[a0f]))
 |[],_::_,h,_=>by simp at h
 |_::_,[],h,_=>by simp at h
 | (k,x,)::fs,(k',v,)::gs,h,r=>by
  simp at h;let(rfl,h):=h;let(i,g,e,d,b):=r;let(rfl,rfl):=cV.inj e;let a:=a52 (f:=f) ry h b;unfold putQ putF
  by_cases c:k'=f
  .rw[if_pos c,if_pos c];show(by simp[h],by change Reps K H (y::fs.map _) _;rw[a0H];show(u,_,rfl,ry,b))
  .rw[if_neg c,if_neg c];show(by simp[a.1],by change Reps K H (x::(putQ f y fs).map _) _;rw[a0H];show(v,_,rfl,d,a.2))
end
section
variable{C f:Addr}{fd:f6}{ps:List Str}{k:Nat}{a x:Str}{p pos' tpos:Pos}{e o value:Expr}{te:E3}{t:A3}
def uFld(C:Addr)(te:E3)(a:Str):E3:=fun σ G R=>te σ G λx G1=>∃q dx fs v,x=.ref q/\G1 q=bN (.ins C dx fs)/\fs.lookup a=bN v/\R v G1
def a1x(hc:Cls X.K C)(hn:NoAttr X.K C a)(he:QE X e te)(hb:gQ e a X.env (eval e X.env)=eval e X.env:=by rfl):QE X (.Attribute e a pos) (uFld C te a):=⟨a0M (b48 he.p hb) fun τ H Q x=>x.un fun σ G R s t h k=>
 (σ,G,_,s,t,h,by
  ext w D v B ⟨q,r,E,z,i,A,j,d⟩ c b l;subst i;let(u,m,g,y):=b _ _ A;let(o,f,n):=(a1Z g y).2 _ j;show(q,C,r,u,o,c,m,hc,hn,f,k _ _ _ _ d n b l))⟩
def a88(C:Addr)(to te:E3)(a:Str):X3:=λnx _ _ _ σ G=>te σ G λy G1=>to σ G1 λx G2=>∃q dx fs,x=.ref q/\G2 q=bN (.ins C dx fs)/\fs.length<1000/\nx σ (put G2 q (.ins C dx (putQ a y fs)))
def a89(hc:Cls X.K C)(hn:NoAttr X.K C a)(ho:QE X o to)(hv:QE X value te)(hs:gA value (bN (.Attribute o a pos')) pos.line X.env=pure js:=by rfl):QS X (.Assign [.Attribute o a pos'] value pos) (a88 C to te a):=⟨a1D (b49 ho.p hv.p hs) λD τ H J=>J.un fun σ G nx rt bk ct hs x h F u2 u3 u4=>
 (σ,G,_,hs,x,h,λy A u H1 E t r e=>(σ,A,_,hs.mono e,r,E,by
  ext w G2 v i ⟨q,j,fs,z,ea,hl,B⟩ k d g;subst z;let(n,l,m,I):=d _ _ ea;let b:TK X.K i (L2.upd i q (.ins C j (putF a u n))):=.ins l;let s:=a52 (f:=a) (t.mono g) m I;show(q,C,j,n,k,l,hc,hn,by let:=congrArg bz m;simp at this;lia,F _ _ _ _ B (hs.mono ((e.trans g).trans b)) (d.set b (_,a0c,s.1,s.2.mono b)) ((e.trans g).trans b))))⟩
def a9a(C:Addr)(to te:E3)(r:R3)(a:Str):X3:=λnx _ _ _ σ G=>to σ G λx G1=>∃q dx fs v,x=.ref q/\G1 q=bN (.ins C dx fs)/\fs.lookup a=bN v/\te σ G1 λy G2=>r v y G2 λz G3=>∃dx' fs',G3 q=bN (.ins C dx' fs')/\fs'.length<1000/\nx σ (put G3 q (.ins C dx' (putQ a z fs')))
def b0W(hc:Cls X.K C)(hn:NoAttr X.K C a)(ho:QE X o to)(hv:QE X value te)(hop:OpQ X (gM op) r):QS X (.AugAssign (.Attribute o a tpos) op value pos) (a9a C to te r a):=⟨a1D (a8c ho.p hv.p hop) λD τ H hx=>hx.un fun σ G nx rt bk ct j Q h u1 u2 u3 u4=>
 (σ,G,_,j,Q,h,by
  ext w R v H1 ⟨q,I,fs,z,ew,J,S,hq⟩ l e s;subst ew;let(Y,e1,e2,M):=e _ _ J;let(v',L,r'):=(a1Z e2 M).2 _ S;show(q,C,I,Y,v',l,e1,hc,hn,L,σ,R,_,j.mono s,e,hq,λy T u H2 U V t F=>(z,y,T,_,r'.mono F,V,t,U,λz2 G3 v3 n (g,fs',x,hl,B) N b W=>?_));let(c,d,i,m):=b _ _ x;let k:TK X.K n (L2.upd n q (.ins C g (putF a v3 c))):=.ins d;let A:=a52 (f:=a) N i m;let E:=((s.trans F).trans W).trans k;show(g,c,d,by let:=congrArg bz i;simp at this;lia,u1 _ _ _ _ B (j.mono E) (b.set k (_,a0c,A.1,A.2.mono k)) E))⟩
def a7q(C:Addr)(m:Str)(sp:P3)(to:E3)(t:A3):E3:=fun σ G R=>to σ G λx G1=>∃q dx fs,x=.ref q/\G1 q=bN (.ins C dx fs)/\fs.lookup m=ce/\t σ G1 λws G2=>sp (.ref q::ws) G2 R
def b0X(h:low X.K (a7q C m sp to t) τ H Q)(h1:o'=low X.K to)(h2:t'=lowA X.K t):b2Y C m (lowP X.K sp) [] jt o' t' τ H Q:=by
 subst h1 h2;let(σ,G,R,f,s,h,D):=h;show(σ,G,_,f,s,h,λw B v H1 (q,r,fs,y,n,A,x) b a e=>?_);subst y;let(u,g,z,p):=a _ _ n;show(q,r,u,b,g,(a1Z z p).1 A,σ,B,_,f.mono e,a,x,λj o k H2 h2 i c l=>?_);show(.ref q::j,o,R,by rw[bL,a0H];show(v,k,rfl,by rw[a0l];show b,i),c,h2,D.mono (e.trans l))
def b6u(ho:QE X o to)(c:Cls X.K C)(hm:Meth X.K C m f)(F:FnOk X.prog X.w X.K X.mg X.base CX0 k f fd ps (lowP X.K sp))(hr:Room k X.A)(hb:Binds X.K fd ps [])(ha:QA X (e::es) t)
  (hst:fP (e::es) X.env=(js,eval e X.env,)::fP es X.env) (hpl:(backTo pos (fP es X.env)).any (·.1)=js)
  (ht:eval (.Call (.Attribute o m apos) (e::es) [] pos) X.env=(do
   let ov <- eval o X.env
   gc apos.atName
   let (f,first,) <- fZ [ov] (gC ov m pl)
   gR pos f first (backTo pos (fP (e::es) X.env)) (gH pos (gI [] X.env)))):QE X (.Call (.Attribute o m apos) (e::es) [] pos) (a7q C m sp to t):=
 ⟨a0M (b20 ho.p c hm F hr hb .nil a8o ha.p hst hpl ht) λ_ _ _ h=>b0X h rfl rfl⟩
def b3J(ho:QE X o to)(c:Cls X.K C)(hm:Meth X.K C m f)(F:FnOk X.prog X.w X.K X.mg X.base CX0 k f fd ps (lowP X.K sp))(hr:Room k X.A)(hb:Binds X.K fd ps [])
  (ht:eval (.Call (.Attribute o m apos) [] [] pos) X.env=(do
   let ov <- eval o X.env
   gc apos.atName
   let (f,first,) <- fZ [ov] (gC ov m pl)
   gR pos f first (backTo pos (fP [] X.env)) (gH pos (gI [] X.env)))):QE X (.Call (.Attribute o m apos) [] [] pos) (a7q C m sp to uNil):=
 ⟨a0M (b0h ho.p c hm F hr hb .nil a8o ht) fun τ H Q z=>z.un fun σ G R r u h j=>by
  show(σ,G,_,r,u,h,λw s v D (q,e,E,i,x,y,l) b a n=>?_);subst i;let(t,d,B,g):=a _ _ x;show(q,e,t,b,d,(a1Z B g).1 y,[.ref q],s,R,by rw[bL,a0H];show(v,[],rfl,by rw[a0l];show b,by rw[a0f]),a,l,j.mono n)⟩
def b3K(C:Addr)(sp:P3)(t:A3):E3:=fun σ G R=>t σ G λws G1=>∀q dx,G1 q=ce->sp (.ref q::ws) (put G1 q (.ins C dx [])) λv G2=>v=.non/\R (.ref q) G2
def made(h1:∀q dx,G1 q=ce->sp (.ref q::ws) (put G1 q (.ins C dx [])) λv G2=>v=.non/\R (.ref q) G2)(rs:Reps X.K H1 ws vs)(hg1:RH X.K G1 H1)(up:UpV X.K H1 R Q)(q dx:Addr)(n1:H1 q=ce)(n2:H1 dx=ce)(ne:dx≠q) :
  lowP X.K sp (.ref q::(vs++[])) (L2.upd (L2.upd H1 dx (.own q)) q (.ins C dx [])) (λv H2=>v=.non/\Q (.ref q) H2) jt:=by
 let a:L2.upd H1 dx (.own q) q=ce:=(a0b (Ne.symm ne))▸n1;let d:TK X.K H1 (L2.upd _ q (.ins C dx [])):=(TK.new n2).trans (TK.new a);show(.ref q::ws,put G1 q (.ins C dx []),_,?_,?_,h1 q dx (hg1.out n1),?_)
 .rw[bL,a0H];show(_,vs,rfl,by rw[a0l],rs.mono d)
 .show (hg1.hid n2).set (TK.new a) ([],a0c,rfl,by rw[bt,a0f];rfl)
 .ext w h v i ⟨f,g⟩ b c e;subst f;show(b,up _ _ _ _ g (by rw[a0l]) c (d.trans e))
def b3L(M:Mk X.K C f)(F:FnOk X.prog X.w X.K X.mg X.base CX0 k f fd ps (lowP X.K sp))(hr:Room (k+1) X.A)(hg:Gl X x)(hm:X.mg x=bN (.ref C))(hb:Binds X.K fd ps [])
  (hdb:(x==("__debug__":Str))=js):QE X (.Call (.Name x p) [] [] pos) (b3K C sp uNil):=
 ⟨a0M (b0j M F hr hg hm hb .nil a8o hdb) fun τ H Q (σ,G,R,hs,hg,h,g) q c d e b=>made h (by rw[a0f]) hg g q c d e b⟩
variable{σ:S3}{G:Hq}{R:K3}{nx bk ct:C3}{rt:K3}{q:Addr}{fs:List (Str×Z)}{v:Z}
def b6v(h:te σ G λx G1=>∃q dx fs v,x=.ref q/\G1 q=bN (.ins C dx fs)/\fs.lookup a=bN v/\R v G1):uFld C te a σ G R:=h
def b6w(h:te σ G λy G1=>to σ G1 λx G2=>∃q dx fs,x=.ref q/\G2 q=bN (.ins C dx fs)/\fs.length<1000/\nx σ (put G2 q (.ins C dx (putQ a y fs)))):a88 C to te a nx rt bk ct σ G:=h
def b3M(h:to σ G λx G1=>∃q dx fs,x=.ref q/\G1 q=bN (.ins C dx fs)/\fs.lookup m=ce/\t σ G1 λws G2=>sp (.ref q::ws) G2 R):a7q C m sp to t σ G R:=h
def b3N(h:t σ G λws G1=>∀q dx,G1 q=ce->sp (.ref q::ws) (put G1 q (.ins C dx [])) λv G2=>v=.non/\R (.ref q) G2):b3K C sp t σ G R:=h
def b6x(h:to σ G λx G1=>∃q dx fs v,x=.ref q/\G1 q=bN (.ins C dx fs)/\fs.lookup a=bN v/\te σ G1 λy G2=>r v y G2 λz G3=>∃dx' fs',G3 q=bN (.ins C dx' fs')/\fs'.length<1000/\nx σ (put G3 q (.ins C dx' (putQ a z fs')))):a9a C to te r a nx rt bk ct σ G:=h
end
def b3O(hu:X.A.units+66<cLine):MtR X "dict.get" (λx vs H Q=>∃a y d o,x=.ref a/\vs=[y,d]/\DGet H a y o/\Q (o.getD d) H):=by
 intro f s σ H x m v t Q I c k (a,y,d,o,h,e,g,q);subst h e;cases c;let(u,r,rfl,j,l):=a77 k;show b5q (by lia) I g j l λn p i b=>(_,H,i,b,q)
def b0Y(hu:X.A.units+66<cLine):MtR X "dict.get" (λx vs H Q=>∃a y o,x=.ref a/\vs=[y]/\DGet H a y o/\Q (o.getD .non) H):=by
 intro i s σ H x m v n Q I f e (a,y,o,c,d,g,q);subst c d;cases f;let(u,rfl,h):=a2X e;show b5p (by lia) I g h λl k j b=>(_,H,j,b,q)
def b3P:IxR X (λx y H Q=>∃a kvs k v,x=.ref a/\y=kV k/\H a=bN (.dK kvs)/\valV kvs k=bN v/\Q v H):=by
 intro h i b s σ H x y v u Q I n B (a,D,k,w,p,m,e,l,q) t;subst p m;cases n;let(z,E,j,g,c):=b27 I.hok e;let(d,A,f):=RelO.some_of (l▸g.val k);show jc c.typeIs PySem.F.slot_dict_getitem.lookup (wpAny_getItem_of (a5M B) c.mapOf A (rfl,w,H,I.tok _,f,q)) t
def a9b(hu:X.A.units+66<cLine):OpR X (fR .NotIn) (λx y H Q=>∃a o,y=.ref a/\DGet H a x o/\Q (.bl (!o.isSome)) H):=by
 intro d s σ H x y u v Q I c f (a,o,b,g,q);subst b;cases f;show b28 (by lia) I g c λh e=>(.bl _,H,e,rfl,q)
noncomputable def valZ(kvs:List (Key×Z))(k:Key):Option Z:=(kvs.find? λkv=>decide (kv.1=k)).map (·.2)
theorem a1v{K:Fg}:∀{kvs:List (Key×Z)}{us:List (Key×V)},us.map (·.1)=kvs.map (·.1)->Reps K H (kvs.map (·.2)) (us.map (·.2))->(valZ kvs k=ce->valV us k=ce)/\∀z,valZ kvs k=bN z->∃v,valV us k=bN v/\Rep K H z v
 |[],[],_,_=>(λ_=>rfl,λ_ h=>by cases h)
 |[],_::_,h,_=>by simp at h
 |_::_,[],h,_=>by simp at h
 | (c,x,)::fs,(c',v,)::gs,h,r=>by
  simp at h;let(rfl,h):=h;let(g,f,e,d,a):=r;let(rfl,rfl):=cV.inj e;unfold valZ valV;rw[bP,bP];cases q:decide (c'=k) with
  |true=>
   show(λe=>?_,λz e=>?_)
   .cases e
   .cases e;show(v,rfl,d)
  |false=>show (a1v (k:=k) h a)
def b3Q:Z->List Z->Hq->K3->Prop:=λx xs G R=>match x,xs with
 |.ref p,[y,d]=>∃kvs k,(G p=bN (.dK kvs)\/G p=bN (.dF kvs))/\keyZ y=bN k/\R ((valZ kvs k).getD d) G
 |_,_=>False
def a9c(hu:X.A.units+66<cLine):MtQ X "dict.get" b3Q:=a7j (b3O hu) λx E H Q m=>m.un λw B G R j s i h l=>by
 match w,B,h with
 |.ref p,[y,d],h=>
  let(v,q,rfl,t,o):=s.two;let(g,k,e,D,h):=h;obtain⟨a,f,c,b⟩:∃a,Rd H p (.dK a)/\a.map _=g.map _/\Reps X.K H _ (a.map _):=by
   let e||e:=e
   .let(a,f,c,b):=i _ _ e;show(a,.inl f,c,b)
   .let(C,a,f,c,b):=i _ _ e;show(a,.inr (C,f),c,b)
  show(p,v,q,valV a k,j,rfl,by rw[a2P D t];show .inl (a,k,f,rfl,rfl),?_);cases hz:valZ g k with
  |none=>
   rw[hz]at h;rw[(a1v c b).1 hz];show l _ _ _ _ h o i (.refl _ _)
  |some z=>
   rw[hz]at h;let(u,r,n):=(a1v c b).2 z hz;rw[r];show l _ _ _ _ h n i (.refl _ _)
def b6y:Z->List Z->Hq->K3->Prop:=λx xs G R=>match x,xs with
 |.ref p,[y]=>∃kvs k,G p=bN (.dK kvs)/\keyZ y=bN k/\R ((valZ kvs k).getD .non) G
 |_,_=>False
def b3R(hu:X.A.units+66<cLine):MtQ X "dict.get" b6y:=a7j (b0Y hu) λx t H Q n=>n.un λw l G R a j b h g=>by
 match w,l,h with
 |.ref p,[y],h=>
  let(v,rfl,m):=j.one;let(c,k,e,q,h):=h;let(r,s,d,f):=b _ _ e;show(p,v,valV r k,a,rfl,by rw[a2P q m];show DGet.k s,?_);cases hz:valZ c k with
  |none=>
   rw[hz]at h;rw[(a1v d f).1 hz];show g _ _ _ _ h (by rw[dR,a0v];rfl) b (.refl _ _)
  |some z=>
   rw[hz]at h;let(u,i,o):=(a1v d f).2 z hz;rw[i];show g _ _ _ _ h o b (.refl _ _)
def zDIx:R3:=λx y G R=>match x with
 |.ref p=>∃kvs k z,G p=bN (.dK kvs)/\keyZ y=bN k/\valZ kvs k=bN z/\R z G
 |_=>False
def b8H:IxQ X zDIx:=b5x b3P λx y H Q f=>f.un λa b G R d q c h j=>by
 cases a with
 |ref p=>
  let(u,k,z,e,t,i,h):=h;let(n,r,m,l):=c _ _ e;let(s,o,g):=(a1v m l).2 z i;show(p,n,k,s,d,a2P t q,r,o,j _ _ _ _ h g c (.refl _ _))
 |_=>show aP h
def b6z(e:G p=bN (.dK kvs))(a:keyZ y=bN k)(h:R ((valZ kvs k).getD d) G):b3Q (.ref p) [y,d] G R:=(kvs,k,.inl e,a,h)
def b3S(e:G p=bN (.dK kvs)\/G p=bN (.dF kvs))(a:keyZ y=bN k)(h:R ((valZ kvs k).getD d) G):b3Q (.ref p) [y,d] G R:=(kvs,k,e,a,h)
def b8I(e:G p=bN (.dK kvs))(a:keyZ y=bN k)(v:valZ kvs k=bN jt)(h:R jt G):zDIx (.ref p) y G R:=(kvs,k,jt,e,a,v,h)
def b8J{P:Prop}(e:G p=bN (.dK kvs))(h:P):tyZ "dict" (.ref p) G/\P:=(.inr (rfl,kvs,.inl e),h)
def b8K{P:Prop}(e:G p=bN (.dK kvs)\/G p=bN (.dF kvs))(h:P):tyZ "dict" (.ref p) G/\P:=(.inr (rfl,kvs,e),h)
noncomputable def keysOf:List (Z×Z)->Option (List (Key×Z))
 |[]=>bN []
 | (x,y,)::r=>match keyZ x,keysOf r with
  |some k,bN kvs=>bN ((k,y,)::kvs)
  |_,_=>ce
noncomputable def a2u(kvs more:List (Key×Z)):List (Key×Z):=more.foldl (λacc kv=>putZ acc kv.1 kv.2) kvs
def PReps(K:Fg)(H:Hp):List (Z×Z)->List (V×V)->Prop:=Paired λp q=>Rep K H p.1 q.1/\Rep K H p.2 q.2
def PReps.mono{K:Fg}(t:TK K H H'):∀{ps:List (Z×Z)}{vs:List (V×V)},PReps K H ps vs->PReps K H' ps vs:=by ext z0 y0 x0;induction x0 with
 |nil=>show .nil
 |cons r s I0=>show .cons (r.1.mono t,r.2.mono t) (I0)
theorem a6H{K:Fg}(r:Reps K H ws vs):∀k:Nat,Reps K H (bg k ws).flatten (bg k vs).flatten
 |0=>by rw[List.replicate_zero,List.flatten_nil,a0f];rfl
 |k+1=>by rw[dr,cT,dr,cT];show r.append (a6H r k)
def zRep:R3:=λx y G R=>match x,y with
 |.ref l,.int k=>∃ws,G l=bN (.lst ws)/\0<=k/\k<1000/\ws.length*k.toNat<=fL/\∀p,G p=ce->R (.ref p) (put G p (.lst (bg k.toNat ws).flatten))
 |_,_=>False
def b8L:OpQ X (fV .Mult) zRep:=a22 b5j λx y H Q q=>q.un λa b G R m g c h r=>by
 match a,b,h with
 |.ref l,.int k,h=>
  let(t,e,u,s,o,h):=h;let(f,n,i):=c _ _ e;show(l,k,f,m,g,n,by cbv,by cbv,by rw[<- i.length];show o,λp j=>?_);let d:TK X.K H (L2.upd H p (.lst (bg k.toNat f).flatten)):=.new j;show r _ _ _ _ (h p (c.out j)) (by rw[a0l]) (c.set d (_,a0c,(a6H i _).mono d)) d
def b8M(e:G l=bN (.lst ws))(h0:0<=k)(h1:k<1000)(hz:ws.length*k.toNat<=fL)(h:∀p,G p=ce->R (.ref p) (put G p (.lst (bg k.toNat ws).flatten))):zRep (.ref l) (.int k) G R:=(ws,e,h0,h1,hz,h)
theorem ln0{α:Type}{C:List α->Prop}(h:C []):∀us:List α,us.length=0->C us
 |[],_=>h
theorem lnS{α:Type}{C:List α->Prop}(h:∀a,∀us:List α,us.length=n->C (a::us)):∀us:List α,us.length=n+1->C us
 |a::us,e=>h a us (Nat.succ.inj e)
def KD(X:Cx)(a:Addr)(kvs:List (Key×V)):Prop:=kvs.length<=fL/\(a==gj)=js/\∃vs,KV kvs vs/\∀h:Heap,X.K.In h->h.DictOf (a0n X.prog X.w) a vs
def b6A(h:PE X e (tC (.ref a))):QE X e (uC (.ref a)):=a5P h λ_=>by rw[a0l]
def b0Z(hg:Gl X x)(hm:X.mg x=bN (.ref a))(hd:(x==("__debug__":Str))=js:=by decide):PE X (.Name x pos) (tC (.ref a)):=a7T hg hm rfl hd
noncomputable def zV:Z->V
 |.str x=>.str x
 |.ref a=>.ref a
 |.int i=>.int i
 |_=>.non
noncomputable def b6B:Z->Bool
 |.str _=>cp
 |.ref _=>cp
 |.int _=>cp
 |_=>js
def KDZ(X:Cx)(a:Addr)(kvs:List (Key×Z)):Prop:=(∀kv∈kvs,b6B kv.2=cp)/\KD X a (kvs.map λkv=>(kv.1,zV kv.2,))
def KTup(K:Fg)(a:Addr)(ss:List Str):Prop:=∃(o:Obj)(its:Array Value)(n:Nat),K.lookup a=bN o/\o.cls=.type "tuple"/\o.data=.seq its n/\its.size<=fL/\Vals (ss.map V.str) its.toList
def KTup.sq{K:Fg}(h:KTup K a ss):SqT K H a (ss.map V.str):=.inr h
def KDk(w:World)(K:Fg)(a:Addr)(kvs:List (Key×Z)):Prop:=(∀kv∈kvs,b6B kv.2=cp)/\kvs.length<=fL/\(a==gj)=js/\∃vs:List (Key×Value),KV (kvs.map λkv=>(kv.1,zV kv.2,)) vs/\∀(P:fO)(h:Heap),K.In h->h.DictOf (a0n P w) a vs
def KDk.at(h:KDk X.w X.K a kvs):KDZ X a kvs:=(h.1,by rw[aM];show h.2.1,h.2.2.1,by let(vs,r,q):=h.2.2.2;show(vs,r,q X.prog))
abbrev PX3:=List Z->Hq->K3->(Addr->Hq->Prop)->Prop
def UpX(K:Fg)(H:Hp)(EE:Addr->Hq->Prop)(E:XK):Prop:=∀C G H',EE C G->RH K G H'->TK K H H'->E (.ref C) ce H'
def b8N{K:Fg}(t:TKs H H'):TK K H H':=(t.tup,λa b h=>by
 let(o,h)||h:=h
 .show .inl (o,t.frz _ _ _ h)
 .show .inr h,t.frz)
def UpN(K:Fg)(EE:Addr->Hq->Prop)(E:XK):Prop:=∀C G H',EE C G->RH K G H'->E (.ref C) ce H'
def UpX.since{K:Fg}(h:UpX K H EE jt):UpN K EE (since H jt):=λC G a q r t=>h C G a q r (b8N t)
mutual
def DZ(G:Hq):PyData->Z->Prop
 |.none,x=>x=.non
 |.bool b,x=>x=.bl b
 |.int i,x=>x=.int i
 |.str s,x=>x=.str s
 |.list ds,x=>∃p ws,x=.ref p/\G p=bN (.lst ws)/\DZs G ds ws
 |.tuple ds,x=>∃ws,x=.tup ws/\DZs G ds ws
 |.dict _,_=>False
def DZs(G:Hq):List PyData->List Z->Prop
 |[],ws=>ws=[]
 |d::ds,ws=>∃w r,ws=w::r/\DZ G d w/\DZs G ds r
end
mutual
theorem DZ.sm{G G':Hq}(s:Sm G G'):∀{d:PyData}{w:Z},DZ G d w->DZ G' d w
 |.none,w,q=>by unfold DZ at q ⊢;show q
 |.bool b,w,q=>by unfold DZ at q ⊢;show q
 |.int i,w,q=>by unfold DZ at q ⊢;show q
 |.str _,w,q=>by unfold DZ at q ⊢;show q
 |.list ds,w,q=>by
  unfold DZ at q ⊢;let(p,ws,e,hp,q):=q;show(p,ws,e,s _ _ hp,DZs.sm s q)
 |.tuple ds,w,q=>by
  unfold DZ at q ⊢;let(ws,e,q):=q;show(ws,e,DZs.sm s q)
 |.dict _,w,q=>by unfold DZ at q;show q.elim
theorem DZs.sm{G G':Hq}(s:Sm G G'):∀{ds:List PyData}{ws:List Z},DZs G ds ws->DZs G' ds ws
 |[],ws,q=>by unfold DZs at q ⊢;show q
 |d::ds,ws,q=>by
  unfold DZs at q ⊢;let(w,r,e,q1,q2):=q;show(w,r,e,DZ.sm s q1,DZs.sm s q2)
end
noncomputable def ItD(o:Obj)(a:Addr)(kvs:List (Key×V)):It:=
 (λi H=>H a=bN (.frz o (.dK kvs))/\i<kvs.length,λi H x H'=>H'=H/\∃p,kvs[i]?=bN p/\x=kV p.1,λi H=>H a=bN (.frz o (.dK kvs))/\kvs.length<=i)
def b6C(h:(a0n P w).is k u=cp):RelV (kV k) u:=by
 let(i,t,rfl,rfl)||(x,t,rfl,rfl)||(rfl,rfl):=a0m h
 .show(t,rfl)
 .show(t,rfl)
 .rfl
def a49:∀{kvs:List (Key×V)}{vs:List (Key×Value)},KV kvs vs->vs.length=kvs.length:=by ext z0;induction z0 with
 |nil=>ext vs h;cases h;rfl
 |cons p kvs I0=>
  ext vs h;cases h with
  |cons h1 h2=>rw[aS,aS,I0 h2]
theorem b2e:∀{kvs:List (Key×V)}{vs:List (Key×Value)}{i:Nat}{p:Key×V},KV kvs vs->kvs[i]?=bN p->∃q,vs[i]?=bN q/\p.1=q.1
 |[],vs,i,p,h,e=>by simp at e
 |p0::kvs,vs,i,p,h,e=>by
  cases h with
  |cons h1 h2=>
   cases i with
   |zero=>cases e;show(_,rfl,h1.1)
   |succ i=>show b2e (i:=i) h2 ↑e
theorem a9d{P:fO}{w:World}{K:Fg}{tg:Expr}(a it:Addr){o:Obj}(kvs:List (Key×V)){es:Array ig}{ep:Nat}(hd:o.data=.dict es ep):Turn P w K tg (ItD o a kvs) [it] it (λi h=>h.IsKeyIter it a i kvs.length ep) where
 mem:=by simp
 obj:=λi h st b hb=>by
  let e:b=it:=↑hb
  subst e;let(o,e,c,d):=st;show(o,e,λv z=>by rw[d]at z;cases z)
 keep:=λi h h' st k=>st.at λo e=>k it (by simp) o e
 item:=by
  ext X hP hw hK hc i pins s σ H E I hf st hg;subst hP hw hK;let(ha,hi):=hg;let(g,hz,hsm,vs,kv,dof):=(show ObjOk X.prog X.w H s.heap a (.frz o (.dK kvs)) from I.hok a _ ha);let(f0,f1,f2,f3,f4,f5):=hf it (by simp);let hl:=a49 kv;let dat:s.heap.DictAt (a0n X.prog X.w) a vs ep:=by
   let(o',es',ep',h1,h2,h3,h4):=dof;rw[g]at h1;cases h1;rw[hd]at h3;cases h3;show(o,es,g,h2,hd,h4)
  obtain⟨p,hp⟩:∃p,kvs[i]?=bN p:=(kvs[i],bf hi);let((k,v),hq,e1):=b2e kv hp;show wpAny_pyNext_dict_item (by rw[hl];show st) dat hq λkey h' hk st' sb=>?_;let I1:Inv X pins σ H { s with heap:=h' }:=I.turned (t':=s.toks) (λb o hb e=>(sb.2 b hb).trans e) f0 f1 f3 f4 f5;rw[hl]at st';let(oi,e,c,d):=id st';show(key,rfl,a7W (s:={ s with heap:=h' }) e c d (by decide) (kV p.1,H,I1,by rw[e1];show b6C hk,(rfl,p,hp,rfl),st',λb hb=>(hf b hb).1))
 done:=by
  ext X hP hw hK hc i pins s σ H E I hf st hg;subst hP hw hK;let(ha,hi):=hg;let(g,hz,hsm,vs,kv,dof):=(show ObjOk X.prog X.w H s.heap a (.frz o (.dK kvs)) from I.hok a _ ha);let(f0,f1,f2,f3,f4,f5):=hf it (by simp);let hl:=a49 kv;let dat:s.heap.DictAt (a0n X.prog X.w) a vs ep:=by
   let(o',es',ep',h1,h2,h3,h4):=dof;rw[g]at h1;cases h1;rw[hd]at h3;cases h3;show(o,es,g,h2,hd,h4)
  show wpAny_pyNext_dict_end (I.ok.hd hc) (by rw[hl];show st) dat (fq (by cbv)) λh' eb=>(rfl,I.turned (t':=s.toks) (λb o hb e=>eb b o hb e) f0 f1 f3 f4 f5)
 self:=λ_ _ _ _ _ st h=>wpAny_pyIter_keyiter st h
section
variable{σ:St}{a:Addr}{kvs:List (Key×V)}{tg:Expr}
def Inv.freeze(I:Inv X pins σ H s)(e:H a=bN (.dK kvs)):∃o,Inv X pins σ (upd H a (.frz o (.dK kvs))) s:=by
 let(p,k,t,x,h):=(I.hok a _ e);let i:=h;let(o,C,B,g,r):=i;show(o,?_);let l:∀b,H b=ce->b≠a:=λb q z=>by rw[z,e]at q;cases q
 let j:∀b d,H b=bN (.tup d)->b≠a:=λb d q z=>by rw[z,e]at q;cases q
 let A:∀b o u,H b=bN (.frz o u)->b≠a:=λb o u q z=>by rw[z,e]at q;cases q
 let y:∀b f,H b=bN (.tbl f)->b≠a:=λb f q z=>by rw[z,e]at q;cases q
 let m:∀b c,H b=bN (.own c)->b≠a:=λb c q z=>by rw[z,e]at q;cases q
 show I.un (λb o q _ _ _=>q,λb o q _ _ _=>(o.slots,q),λb o q n _=>by rw[a0b (l b n)];show n,λb o q _=>(o,q),λb d q=>by rw[a0b (j b d q)];show q,λb o u q=>by rw[a0b (A b o u q)];show q,λb f q=>(#[],by rw[a0b (y b f q),eh];show q)) λb u q=>?_
 by_cases hb:b=a
 .subst hb;rw[a0c]at q;cases q;show(g,p,k,t,x,h)
 .rw[a0b hb]at q;show (I.hok b u q).stay (λc v _ r=>r) (λc r=>by rw[a0b (m c b r)];show r) λc d r=>by rw[a0b (j c d r)];show r
def iDct(tl:TE):TI:=fun σ H R=>tl σ H λx H1=>∃a kvs,x=.ref a/\((H1 a=bN (.dK kvs)/\∀o,R (ItD o a kvs) (upd H1 a (.frz o (.dK kvs))))\/∃o,H1 a=bN (.frz o (.dK kvs))/\R (ItD o a kvs) H1)
def b3T(hl:PE X l tl):PI X tg l (iDct tl):=by
 ext c s σ H R I h;show thn (hl c s σ H _ I h) λv d (x,B,r,C,E)=>?_;let(a,f,e,q):=E;subst e;cases C;let k:∀o i,Inv X c σ i d->i a=bN (.frz o (.dK f))->R _ i->wpAny _ X.A _ (PIE X c σ tg R) X.xe d:=λo i j m q=>by
  let(g,M,t,L,D,y):=(j.hok a _ m);let(N,n):=y.dictAt;let p:=n;let(J,G,u,_,F,_):=p;rw[g]at u;cases u;show wpAny_pyIter_dict t n (d.heap.objs.size,[d.heap.objs.size],_,_,i,rfl,j.kept λb o e=>Heap.get?_push_of_some _ e,a9d a _ f F,(_,Heap.get?_push_size _ rfl,rfl,by rw[a49 D];rfl),λb z=>?_,q);let e:b=d.heap.objs.size:=by grind
  subst e;show j.fpOk (aN _) (j.hok.fresh (aN _))
 let(m,q)||(o,m,q):=q
 .let(o,j):=r.freeze m;show k o _ j a0c (q o)
 .show k o B r m q
end
noncomputable def keyW:Key->Z
 |.inl (bN i)=>.int i
 |.inl ce=>.non
 |.inr s=>.str s
theorem a6I{K:Fg}:∀k:Key,Rep K H (keyW k) (kV k)
 |.inl (bN i)=>by change Rep K H (.int i) (.int i);rw[a0g]
 |.inl ce=>by change Rep K H .non .non;rw[a0v]
 |.inr s=>by change Rep K H (.str s) (.str s);rw[a0r]
def wkD(x:Z)(G:Hq)(R:List Z->(Hq->Prop)->Hq->Prop):Prop:=match x with
 |.ref a=>∃kvs,(G a=bN (.dK kvs)\/G a=bN (.dF kvs))/\R (kvs.map λp=>keyW p.1) (λ_=>True) (put G a (.dF kvs))
 |_=>False
def iD(tl:E3):I3:=fun σ G R=>tl σ G λx G1=>wkD x G1 R
def a3W{K:Fg}{kvs:List (Key×Z)}(e:H0 a=bN (.frz o (.dK us)))(hn:us.map (·.1)=kvs.map (·.1)):a3w K (kvs.map λp=>keyW p.1) (λ_=>True) (ItD o a us) H0:=λi G H g t n j=>by
 let d:=t.frd _ _ _ e;let l:us.length=kvs.length:=by let:=congrArg bz hn;o_head this
 rw[aM]at j;show(λh=>(d,by rw[aM]at h;lia),λw b=>?_);rw[aU]at b;cases hk:kvs[i]? with
 |none=>rw[hk]at b;cases b
 |some p=>
  rw[hk]at b;cases b;let k:=(bh.mp hk).1;show((d,by lia),?_);ext x m ⟨rfl,q,f,rfl⟩
  let:q.1=p.1:=by
   let c:(us.map (·.1))[i]?=bN q.1:=by rw[aU,f];rfl
   rw[hn,aU,hk]at c;show (bN.inj c).symm
  rw[this];show(a6I _,g,.refl _ _)
section
variable{tg l:Expr}{tl:E3}
def b3U(hl:QE X l tl):QI X tg l (iD tl):=a5R (b3T hl.p) fun τ H B u=>u.un fun σ G R z A h t=>by
 show(σ,G,_,z,A,h,λw r v q d k c s=>?_);cases w with
 |ref a=>
  let(j,e,d):=d;let e||e:=e
  .let(g,f,i,n):=c _ _ e;show(a,g,k,.inl (f,λo=>?_));let m:TK X.K q (L2.upd q a (.frz o (.dK g))):=.dK f;show t _ _ _ _ _ d (a3W a0c i) (c.set m (o,g,a0c,i,n.mono m)) (s.trans m)
  .let x:=e;let(o,g,f,i,n):=c _ _ e;show(a,g,k,.inr (o,f,?_));let y:put r a (.dF j)=r:=by
    funext b
    unfold put
    split
    .simp_all
    .rfl
   rw[y]at d;show t _ _ _ _ _ d (a3W f i) c s
 |_=>show aP d
def i_iD(h:tl σ G λx G1=>wkD x G1 R):iD tl σ G R:=h
def b8O(e:G p=bN (.dK kvs)\/G p=bN (.dF kvs))(h:R (kvs.map λp=>keyW p.1) (λ_=>True) (put G p (.dF kvs))):wkD (.ref p) G R:=(kvs,e,h)
end
def b3V:∀{ss:List Str}{us:List Value},Vals (ss.map V.str) us->h9 us ss:=by ext z0;induction z0 with
 |nil=>ext us r;rw[bt]at r;cases r;show .nil
 |cons s ss I0=>
  ext us r;cases r with
  |cons r1 r2=>let(t,rfl):=r1;show .cons s t (I0 r2)
def a5a:∀{vs:List Value}{ss:List Str},h9 vs ss->Vals (ss.map V.str) vs:=by ext z0 y0 x0;induction x0 with
 |nil=>show .nil
 |cons s t h I0=>show .cons (t,rfl) (I0)
def b00(K:Fg):List V->Hp->VK->Prop:=λxs H Q=>∃(p:Addr)(ss:List Str),xs=[.ref p]/\SqL K H p (ss.map V.str)/\ss.length<64 /\
 ∀(t:Addr)(ts:List Str),H t=ce->ts.Perm ss->g5 ts=cp->Q (.ref t) (upd H t (.lst (ts.map V.str)))
def a5b:CallR X (.builtin "sorted") (b00 X.K):=by
 ext k s σ H y z Q I r h;let(p,x,rfl,g,t,q):=h;let(u,rfl,i):=a2X r;cases i;let(c,n,m,_):=I.list g;let f:=b3V n;let v:=f.length;show sorted_strs m.isList f (by lia) λa b o d l=>?_;let(e,j):=sortedAll_at s.heap c a;show(.ref _,_,I.laid (λ_ _=>sortedAll_old) (cR _) (show ObjOk X.prog X.w _ _ _ (.lst _) from (by rw[aM,d.length_eq,fW];lia,a.toList,e,a5a o,↑j)),rfl,q _ b (I.hok.fresh (cR _)) d l)
def a3X{K:Fg}:∀ss:List Str,Reps K H (ss.map Z.str) (ss.map V.str):=by ext z0;induction z0 with
 |nil=>rw[bt,bt,a0f]
 |cons s ss I0=>
  show(_,_,rfl,by rw[a0r],I0)
def a7r{K:Fg}:∀{ss:List Str}{vs:List V},Reps K H (ss.map Z.str) vs->vs=ss.map V.str:=by ext z0;induction z0 with
 |nil=>ext vs h;rw[bt,a0f]at h;subst h;rfl
 |cons s ss I0=>
  ext vs h;let(v,r,rfl,a,b):=h;rw[a,I0 b];rfl
def a6J:List Z->Hq->K3->Prop:=λxs G R=>match xs with
 |[.ref p]=>∃ss:List Str,G p=bN (.lst (ss.map Z.str))/\ss.length<64/\∀(t:Addr)(ts:List Str),G t=ce->ts.Perm ss->g5 ts=cp->R (.ref t) (put G t (.lst (ts.map Z.str)))
 |_=>False
def a9e:a1m X (.builtin "sorted") a6J:=a0W a5b λu H Q n=>n.un λg G R j b h q=>by
 match g,h with
 |[.ref p],h=>
  let(v,rfl,r):=j.one;let(i,e,d,h):=h;let(s,k,l):=b _ _ e
  let:=a7r l
  subst this;show(p,i,by rw[r],SqL.of k,d,λt a c f m=>q _ _ _ _ (h t a (b.out c) f m) (by rw[a0l]) (b.set (.new c) (_,a0c,a3X a)) (.new c))
def a9f(e:G p=bN (.lst (ss.map Z.str)))(z:ss.length<64)(h:∀(t:Addr)(ts:List Str),G t=ce->ts.Perm ss->g5 ts=cp->R (.ref t) (put G t (.lst (ts.map Z.str)))):a6J [.ref p] G R:=(ss,e,z,h)
structure Cl where
 x:Str
 np:Pos
 b₀:Stmt
 suite:List Stmt
 hp:Pos
noncomputable def Cl.h(n:Str)(c:Cl):ExceptHandler:=.ExceptHandler (bN (.Name c.x c.np)) (bN n) (c.b₀::c.suite) c.hp
inductive Picks (X:Cx) (C:Addr) (th:Addr->TS):List Cl->Prop
 |here {c:Cl} {cs:List Cl} {D:Addr} (hg:Gl X c.x) (hm:X.mg c.x=bN (.ref D)) (hd:(c.x==("__debug__":Str))=js) (hD:PySem.W.exmOne X.K (.ref C) (.ref D)=bN cp)
   (hh:∀e oe,oe.cls=.ref C->oe.dict=ce->PySem.W.notCls oe=cp->PSs (X.hnd e oe) (c.b₀::c.suite) (th e)):Picks X C th (c::cs)
 |next {c:Cl} {cs:List Cl} {D:Addr} (hg:Gl X c.x) (hm:X.mg c.x=bN (.ref D)) (hd:(c.x==("__debug__":Str))=js) (hD:PySem.W.exmOne X.K (.ref C) (.ref D)=bN js) (hp:Picks X C th cs):Picks X C th (c::cs)
inductive Alt (X:Cx) (cs:List Cl):List (Addr×(Addr->X3))->Prop
 |nil:Alt X cs []
 |cons {C:Addr} {th:Addr->X3} {l:List (Addr×(Addr->X3))} (h:Picks X C (λe=>lowS X.K (th e)) cs) (hs:Alt X cs l):Alt X cs ((C,th,)::l)
theorem Alt.get:∀{l:List (Addr×(Addr->X3))},Alt X cs l->∀p∈l,Picks X p.1 (λe=>lowS X.K (p.2 e)) cs
 |_,.nil,p,h=>by simp at h
 |_,.cons h hs,p,hp=>by
  let rfl||hp:=aT.mp hp
  .cbv
  .show hs.get p hp
def Inv.melt(I:Inv X pins σ H s)(e:H a=bN (.frz o (.dK kvs)))(n:∀o u,X.H₀ a≠bN (.frz o u)):Inv X pins σ (upd H a (.dK kvs)) s:=by
 let(g,E,j,A,B,t):=(I.hok a _ e);let i:∀b,H b=ce->b≠a:=λb q z=>by rw[z,e]at q;cases q
 let k:∀b d,H b=bN (.tup d)->b≠a:=λb d q z=>by rw[z,e]at q;cases q
 let D:∀b f,H b=bN (.tbl f)->b≠a:=λb f q z=>by rw[z,e]at q;cases q
 let L:∀b c,H b=bN (.own c)->b≠a:=λb c q z=>by rw[z,e]at q;cases q
 show(I.ok,I.os,I.bare,(I.base.keep,I.base.slot,λb o F C y=>?_,I.base.there,λb d q=>?_,λb o u q=>?_,λb f q=>?_),I.loc,I.cell,?_,λx c q=>?_,λp M=>?_,λb u q=>?_,I.len)
 .let h:=I.base.free b o F C y;rw[a0b (i b h)];show h
 .let h:=I.base.tups b d q;rw[a0b (k b d h)];show h
 .rw[a0b (λz=>n o u (by simp_all))];show I.base.frzs b o u q
 .let(m,h):=I.base.tbls b f q;show(m,by rw[a0b (D b _ h)];show h)
 .rw[a0b (i _ I.free)];show I.free
 .let h:=I.freeC x c q;rw[a0b (i _ h)];show h
 .let(G,l,J):=I.pin p M;show(G,by rw[a0b (i _ l)];show l,J)
 .by_cases hb:b=a
  .subst hb;rw[a0c]at q;cases q;show(E,j,A,B,t)
  .rw[a0b hb]at q;show (I.hok b u q).stay (λc v _ r=>r) (λc r=>by rw[a0b (L c b r)];show r) λc d r=>by rw[a0b (k c d r)];show r
section
variable{K:Fg}{H1:Hp}{a:Addr}{us us1:List (Key×V)}{o:Obj}{e:Expr}{t:E3}{G:Hq}{kvs:List (Key×Z)}
def a3b(h:H1 a=bN (.frz o (.dK us1))):TW K H1 (upd H1 a (.dK us1)):=
 (λc b q=>by rw[a0b (λz=>by rw[z,h]at q;cases q)];show q,λc b q=>by
  let(o',q)||q:=q
  .show .inl (o',by rw[a0b (λz=>by rw[z,h]at q;cases q)];show q)
  .show .inr q)
def b3W(h0:H a=bN (.dK us))(t:TK K H H1)(h:H1 a=bN (.frz o (.dK us1))):TK K H (upd H1 a (.dK us1)):=
 (λc b q=>(a3b (K:=K) h).tup c b (t.tup c b q),λc b q=>(a3b (K:=K) h).frz c b (t.frz c b q),λc d u q=>by
  rw[a0b (λz=>by rw[z,h0]at q;cases q)];show t.frd c d u q)
def b8P(t:TW K H H1)(fc:∀b o c q,H b=bN (.frz o (a2e c q))->H1 b=bN (.frz o (a2e c q)))(e:H1 b=H b)(h:ROb K H b o'):ROb K H1 b o':=by
 cases o' with
 |lst ws=>let(a,q,r):=h;show(a,e.trans q,r.monoW t)
 |dK kvs=>let(a,q,n,r):=h;show(a,e.trans q,n,r.monoW t)
 |ins C dx fs=>let(a,q,n,r):=h;show(a,e.trans q,n,r.monoW t)
 |dF kvs=>let(d,a,q,n,r):=h;show(d,a,e.trans q,n,r.monoW t)
 |dT ks=>let(a,q,n):=h;show(a,e.trans q,n)
 |tab p q=>show Tab.stay (λb o c k=>fc b o c _ k) e h
def b3X(g:RH K G H1)(e1:G a=bN (.dF kvs)):∃o us1,H1 a=bN (.frz o (.dK us1))/\RH K (put G a (.dK kvs)) (upd H1 a (.dK us1)):=by
 let(o,d,h,f,i):=g _ _ e1;show(o,d,h,λb e q=>?_)
 by_cases hb:b=a
 .subst hb;rw[a0a]at q;cases q;show(d,a0c,f,i.monoW (a3b h))
 .rw[a0h hb]at q;show b8P (a3b h) (λc o x y z=>by rw[a0b (λw=>by rw[w,h]at z;cases z)];show z) (a0b hb) (g b e q)
def uUnf(t:E3):E3:=fun σ G R=>∃a kvs,G a=bN (.dK kvs)/\t σ G λv G'=>G' a=bN (.dF kvs)/\R v (put G' a (.dK kvs))
def b8Q(h:QE X e t):QE X e (uUnf t):=⟨λf s τ H Q I z=>by
 let(σ,G,R,y,j,(a,d,x,A),C):=z;let(F,k,L,J):=j _ _ x;show thn (h.p f s τ H (λv c=>Ex2 λw b=>An5 (Rep X.K c w v) (RH X.K b c) (TK X.K H c) (b a=bN _) (R w _)) I (σ,G,_,y,j,A,λw b v c q r g t=>(w,b,r,g,t,q.1,q.2))) λu E (v,c,l,m,w,b,r,g,t,n,q)=>?_;let(o,D,i,B):=b3X g n;show(v,_,l.melt i (λo u z=>by let:=I.base.frzs a o u z;rw[k]at this;cases this),m,C w _ v _ q (r.monoW (a3b i)) B (b3W k t i))⟩
def b8R(e:G a=bN (.dK kvs))(h:t σ G λv G'=>G' a=bN (.dF kvs)/\R v (put G' a (.dK kvs))):uUnf t σ G R:=(a,kvs,e,h)
end
namespace DictP
def a3Y:entryFor table "dict.update.loop"=bN fU.«dict.update.loop»:=entryFor_of_tree (by kernel_rfl)
def a2i:plainId "dict.update.loop"=cp:=by decide +kernel
def b3Y:typeLookup (.type "list") "keys"=pure ce:=am_miss_of_fast (by decide +kernel)
section
variable{a:Addr}{xs:Array Value}{k:Nat}{sl:Array (Option Value)}
def a9g(hx:s.heap.get? a=bN { cls:=.type "list",dict:=ce,data:=.seq xs k,slots:=sl })(hA:A.handled=ce)
  (h:∀h' tk,(∀b ob,s.heap.get? b=bN ob->h'.get? b=bN ob)->Q ce { s with heap:=h',toks:=tk }):wpAny (model prog w) A (getAttr? (.ref a) "keys") Q E s:=by
 let(hp,g,d,tk,os):=s;let hT:∀tk',((hp,g,d,tk',os):Shared).TypeIs (.ref a) "list":=λ_=>(_,hx,rfl);let f1:=sub_AttributeError;let f3:=F.slot_list_getattribute.lookup;let f4:=F.slot_list_getattribute.bind (.ref a);let f5:=am_list_getattr_none;unfold getAttr? getAttrBy? getAttrBy
 repeat (any_goals (first |assumption |show hT _ | ((with_reducible change wpAny _ _ (call (Value.builtin "list.__getattribute__") _ _) _ _ _);show hU F.slot_list_getattribute (hT _) am_entry_list_getattribute (F.args_list_getattribute_2 _ _) (meets_getattribute_miss_list a xs k sl "keys" _ b3Y (by decide +kernel)) (hx,hA,λh' tk' e hx'=>?_)) |wp_step))
 let(t',u',he):=hx'.there
 change wpAny _ _ (getattributeRaised _ _ _ _ _ _ _) _ _ _
 unfold getattributeRaised
 repeat (any_goals (first |assumption |wp_step))
 show h _ _ hx'.keeps
def a7s(g:s.heap.get? t=bN o)(hc:o.cls=.type "tuple")(hd:o.data=.seq #[x,y] n)(h:Q [x,y] s):wpAny (model prog w) A (fU.Dict.pairItems (.ref t)) Q E s:=by
 let(c,a,b,e):=o;simp only at hc hd;subst hc hd
 repeat (any_goals (first |assumption |wp_step))
end
abbrev Sv(h h':Heap):Prop:=∀b o,h.get? b=bN o->h'.get? b=bN o
section
variable{R:Result->Shared->Prop}{I:Addr}{fp wr:List Addr}{G:Array iO->Array iO->Prop}{n:Nat}{P:Nat->Value->Prop}{St:Nat->Shared->Prop}
def b2f(prog:fO)(w:World)(A:Around)(h0:Heap)(D:Nat->Heap->Prop)(d:Addr)(i:Nat)(v:Value):Prop:=∃t o x y m,v=.ref t/\h0.get? t=bN o/\o.cls=.type "tuple"/\o.data=.seq #[x,y] m /\
 ∀(E:Value->Shared->Prop)(s:Shared)(Q:Unit->Shared->Prop),Sv h0 s.heap->D i s.heap->(∀h' tk,s.toks<=tk->D (i+1) h'->Heap.SameBut d s.heap h'->Q () { s with heap:=h',toks:=tk })->wpAny (model prog w) A (dictSet d x y) Q E s
def b8S(W:WalksS prog w A.in1 I fp wr G n P St)(d:Addr)(hdf:d∉fp)(dm:∀i h h',D i h->Sv h0 h->Sv h0 h'->(∀o,h.get? d=bN o->h'.get? d=bN o)->D i h')
  (nw:∀b o,h0.get? b=bN o->b≠d/\b∉wr) (hP:∀j v,P j v->b2f prog w A.in1 h0 D d j v) :
  ∀(k i:Nat)(s:Shared),n-i=k->i<=n->St i s->Sv h0 s.heap->D i s.heap->(∀s',Moved (d::wr) G s s'->D n s'.heap->R (.ok (.ret .none)) s') ->
   gG (model prog w) A (.builtin "dict.update.loop" ([.ref d,.ref I,rawInt i,.none],[])) R s:=by
 let r:=λh=>hdf (W.sub _ h);let V:∀b∈wr,b∈d::wr:=λb q=>b3 _ q;ext k
 induction k with
 |zero=>
  ext i s hk hi p l F E;let L:i=n:=by lia
  subst L;show codeAny_builtin a3Y (fK (W.done s _ _ p λa c=>(fK (fS (fS (E a (c.mono V) (dm _ _ _ F l (λb o e=>c.heap b o (nw b o e).2 (l b o e)) λo e=>c.heap d o r e)))))))
 |succ k ih=>
  ext i s hk hi p l F E;show codeAny_builtin a3Y ?_;rw[Around.under_plainId a2i _];show fK (W.item i s _ _ (by lia) p λv a M B c=>?_);let(t,o,x,y,m,rfl,g,hc,X,N):=hP i v M;let f:=λb o e=>c.heap b o (nw b o e).2 (l b o e);show fK (gb (fK (wpAny_tryCatch (a7s (f t o g) hc X (gb (N _ _ _ f (dm _ _ _ F l f λo e=>c.heap d o r e) λS tk J T Q=>?_))))));let u:∀b o,b≠d->a.heap.get? b=bN o->S.get? b=bN o:=λb o Y e=>by rw[Q.2 b Y];show e
  show fS (plainId_quiet a2i _,?_);show ih (i+1) { a with heap:=S,toks:=tk } (by lia) (by lia) (W.frame _ a _ _ B J λb q o e=>u b o (λz=>hdf (z▸q)) e) (λb o e=>u b o (nw b o e).1 (f b o e)) T
   λU H C=>E U (Moved.trans W.gtrans ((c.mono V).then_heap J λb o q e=>u b o (λz=>q (z▸cf)) e) H) C
def a9h(hh:A.handled=ce)
  (hl:s.heap.get? l=bN { cls:=.type "list",dict:=ce,data:=.seq items c,slots:=sl }) (dm:∀i h h',D i h->Sv s.heap h->Sv s.heap h'->(∀o,h.get? s.heap.objs.size=bN o->h'.get? s.heap.objs.size=bN o)->D i h')
  (d0:D 0 (s.heap.push { cls:=.type "dict",data:=.dict #[] })) (hi:∀(j:Nat) v,items[j]?=bN v->b2f prog w A.in1.in1 s.heap D s.heap.objs.size j v)
  (h:∀(h':Heap)(tk:Nat),D items.size h'->Sv s.heap h'->Q (.ref s.heap.objs.size) { s with heap:=h',toks:=tk }) :
  wpAny (model prog w) A (call (.type "dict") [.ref l]) Q E s:=by
 show callType_codes (Q₁:=λm u=>m=.ref s.heap.objs.size/\u={ s with heap:=s.heap.push { cls:=.type "dict",data:=.dict #[] } }) F.kt_called_dict (F.kt_typeCall_dict_1 _) F.entry_dict_init (kt_code_dict_new _ (rfl,rfl)) ?_;ext m u ⟨rfl,rfl⟩;let f:(s.heap.push { cls:=.type "dict",data:=.dict #[] }).get? l=bN { cls:=.type "list",dict:=ce,data:=.seq items c,slots:=sl }:=Heap.get?_push_of_some _ hl;let L:Shared.TypeIs { s with heap:=s.heap.push { cls:=.type "dict",data:=.dict #[] } } (.ref l) "list":=(_,f,rfl);let H:Shared.TypeIs { s with heap:=s.heap.push { cls:=.type "dict",data:=.dict #[] } } (.ref s.heap.objs.size) "dict":=(_,Heap.get?_push_size _ rfl,rfl);show(H,F.args_dict_init_2 _ _,?_);show fK (fK (wpAny_notOrdered_dict H (fS ?_)))
 change wpAny _ _ (fU.Dict.updateFrom "dict.__init__" s.heap.objs.size (.ref l) [] .none) _ _ _
 show fK (wpAny_typeOf L (fK (a9g f (by lia) λa t1 k=>?_)));let C:a.IsList l items:=(_,k l _ f,rfl,c,rfl);show fK (g6 (fK (i7 C (fS (plainId_quiet a2i _,?_)))));let t:=Heap.lt_size hl;let p:=Heap.lt_size (k _ _ (Heap.get?_push_size _ rfl));let Y:A.in1.in1.handled=ce:=by lia
 let W:s.heap.objs.size∉[a.objs.size,l]:=by grind
 let q:∀b o,s.heap.get? b=bN o->b≠s.heap.objs.size/\b∉[a.objs.size]:=λb o e=>by
  let r:=Heap.lt_size e;show(aZ r,λn=>by rw[aR.mp n]at r;show cx _ (dS r p))
 let d:∀x,Sv s.heap (a.push x):=λx b o e=>Heap.get?_push_of_some _ ((λb o e=>k b o (Heap.get?_push_of_some _ e)) b o e);show b8S ((Walks.list Y _ l (aZ (dS t p)) items).toS) s.heap.objs.size W dm q hi (items.size-0) 0 _ (by lia) (bo _)
  ((_,Heap.get?_push_size _ rfl,rfl,rfl),C.push _) (d _) (dm 0 _ _ d0 (λb o e=>Heap.get?_push_of_some _ e) (d _) λo e=>Heap.get?_push_of_some _ (k _ o e)) λR g V=>?_
 let(S,T,J,y,B):=R;let U:T=s.gens:=g.gens;let X:J=s.drawn:=g.drawn;let I:B=s.os:=g.os;subst U X I;show(rfl,h S y V λb o e=>g.heap b o (λn=>?_) (d _ b o e));let z||z:=aT.mp n
 .show (q b o e).1 z
 .simp_all
end
section
variable{K:Type}[DecidableEq K]{knd:KeyKind prog w K}
def PairAt(knd:KeyKind prog w K)(h:Heap)(v:Value)(r:K×Value):Prop:=∃t o key m,v=.ref t/\h.get? t=bN o/\o.cls=.type "tuple"/\o.data=.seq #[key,r.2] m/\knd.is r.1 key=cp
def call_pairs(hh:A.handled=ce)
  (hl:s.heap.get? l=bN { cls:=.type "list",dict:=ce,data:=.seq items c,slots:=sl }) (hi:∀(j:Nat) v,items[j]?=bN v->∃r,rows[j]?=bN r/\PairAt knd s.heap v r) (hn:items.size=rows.length) (hz:rows.length<=fL)
  (h:∀(h':Heap)(tk:Nat),h'.DictOf knd s.heap.objs.size (merged [] rows)->(∀b o,s.heap.get? b=bN o->h'.get? b=bN o)->Q (.ref s.heap.objs.size) { s with heap:=h',toks:=tk }) :
  wpAny (model prog w) A (call (.type "dict") [.ref l]) Q E s:=by
 show a9h (D:=λi h=>h.DictOf knd s.heap.objs.size (merged [] (rows.take i))) hh hl (by ext i h d ⟨o,G,C,z,n⟩ _ _ q;show(o,G,C,q _ z,n)) (Heap.DictOf.new s.heap) (λj v e=>?_) λd H a F=>h d H (by simp_all) F;let(r,B,t,o,p,m,rfl,g,y,x,k):=hi j v e;show(t,o,p,r.2,m,rfl,g,y,x,λE J Q I a q=>wpAny_dictSet_pairs k a (λd f u=>q d _ (cR _) (by rw[<- merged_take_succ _ _ _ _ B]at f;show f) u) ?_)
 let:=merged_length_le [] (rows.take j)
 simp at this
 lia
end
end DictP
noncomputable def a7t(rows:List (Addr×Key×V))(acc:List (Key×V)):List (Key×V):=rows.foldl (λacc r=>putK acc r.2.1 r.2.2) acc
def b6D(X:Cx):List V->Hp->VK->Prop:=λxs H Q=>∃(p:Addr)(rows:List (Addr×Key×V)),xs=[.ref p]/\SqL X.K H p (rows.map λr=>V.ref r.1)/\(∀r∈rows,H r.1=bN (.tup [kV r.2.1,r.2.2]))/\rows.length<=1000 /\
 ∀t,H t=ce->Q (.ref t) (upd H t (.dK (a7t rows [])))
def b01(ok:HOk P w H h):∀{rows:List (Addr×Key×V)},(∀r∈rows,H r.1=bN (.tup [kV r.2.1,r.2.2]))->∃vs:List (Key×Value),vs.length=rows.length /\
  (∀(j:Nat) r,rows[j]?=bN r->∃q,vs[j]?=bN q/\DictP.PairAt (a0n P w) h (.ref r.1) q)/\∀acc bcc,KV acc bcc->KV (a7t rows acc) (merged bcc vs):=by ext z0;induction z0 with
 |nil=>ext _;show([],rfl,λj r e=>by simp at e,λ_ _ k=>k)
 |cons r rows I0=>
  ext hr;let(m,p,d,l):=I0 λr a=>hr r (.tail _ a);let(_,y,s,o,i,f,n,t):=(ok _ _ (hr r (.head _)));let(b,u,rfl,g,c):=Vals.two s;show((r.2.1,u,)::m,by rw[aS,aS,p],λj q e=>?_,λx v k=>l _ _ (k.put r.2.1 c));cases j with
  |zero=>
   cases e;show(_,rfl,r.1,o,b,n,rfl,i,f,t,a5M g)
  |succ j=>show d j q (by simp_all)
def a9i:∀(rows:List (Addr×Key×V))(acc:List (Key×V)),(a7t rows acc).length<=acc.length+rows.length:=by ext z0;induction z0 with
 |nil=>ext _;show aN _
 |cons r rows I0=>
  ext acc
  let:=I0 (putK acc r.2.1 r.2.2)
  let:=a06 acc r.2.1 r.2.2
  change (a7t rows (putK acc r.2.1 r.2.2)).length<=_
  rw[aS];lia
def a7u(hc:X.calm=cp):CallR X (.type "dict") (b6D X):=by
 ext f s σ H xs us Q I r h;let(p,rows,rfl,T,ht,hz,q):=h;let(u,rfl,V):=a2X r;cases V;let(d,z,(o,n,F,C,E,B),_):=I.list T;let(c,dd,dt,sl):=o;subst C E B;let(A,k,h2,W):=b01 I.hok ht;let G:d.length=rows.length:=by let:=z.length;rw[aM]at this;lia
 let b:A.length<=sizeLine:=by grind
 show DictP.call_pairs (knd:=a0n X.prog X.w) (I.ok.hd hc) F (λj v e=>?_) (by grind) b λg t M U=>?_
 .let l:d[j]?=bN v:=↑e
  obtain⟨r,D⟩:∃r,rows[j]?=bN r:=(rows[j]'(by grind),bf _);let(q,m,pa):=h2 j r D;let(u,y,N):=z.get (by rw[aU,D];rfl);rw[l]at y;cases y;rw[N];show(q,m,pa)
 .let L:=W [] [] .nil;let Y:=(a4c (P:=X.prog) (w:=X.w) (H:=λ_=>ce) s.heap I.big).2.1;let R:=a9i rows [];let J:=
   I.laid (t':=t) U (aN _) (show ObjOk X.prog X.w _ g _ (.dK _) from (by rw[fW];simp at R;lia,Y,_,L,M))
  show(.ref s.heap.objs.size,_,J,rfl,q _ (I.hok.fresh (aN s.heap.objs.size)))
def a7v(h64:ss.length<64)
  (hcol:∀R:List Value->Shared->Prop,(∀(g:Heap)(tk:Nat)(d:Drawn)(vs:List Value)(ks:List Str),(∀b o,s.heap.get? b=bN o->g.get? b=bN o)->h9 vs ks->ks.Perm ss->R vs { s with heap:=g,drawn:=d,toks:=tk })->wpAny (model P w) A.in1 (collect (.ref r)) R E s)
  (h:∀(g g':Heap)(tk:Nat)(d:Drawn)(out:List Value)(n:Nat)(ts:List Str),(∀b o,s.heap.get? b=bN o->g.get? b=bN o)->(∀b o,g.get? b=bN o->g'.get? b=bN o)->g'.get? g.objs.size=bN { cls:=.type "list",data:=.seq out.toArray n } ->
   h9 out ts->ts.Perm ss->g5 ts=cp->Q (.ref g.objs.size) { s with heap:=g',drawn:=d,toks:=tk }):wpAny (model P w) A (call (.builtin "sorted") [.ref r]) Q E s:=by
 show Calls.call_function_entry iP iQ iR (jl _) (fK (fS (fK (hcol _ λg t d f D x c l=>?_))));let F:=c.length.trans l.length_eq;let z:f.length<=sizeLine:=by rw[fW];lia
 show fK (ib ?_ z);let k:(g.push _).get? g.objs.size=bN (seqObj "list" f.toArray 0):=Heap.get?_push_size _ rfl;show fK (gb (ip iU (_,k,rfl) iV (list_sort_treeK strKind_oneLt k c.keysOf (λH G B e=>keyKind_strs (e▸c)) (by lia) λi p v=>(_,rfl,?_)) (jm _)));let(y,u,C,q):=sorted_out_str c p v;let a:=jo (out:=(arrOf i).map (·.2)) k;let(n,a):=a;show fS (_,rfl,h g _ t d ((arrOf i).map (·.2)).toList n y x (λb o e=>?_) (by cbv) u (C.trans l) q);let j:=Heap.lt_size e;rw[jp (aZ j) (by rw[Heap.size_push];show cU j)];show Heap.get?_push_of_some _ e
def b3Z(hl:vs.length=ss.length)(h:∀(i:Nat)(v:Value),vs[i]?=bN v->∃(x:Str)(t:Tok),ss[i]?=bN x/\v=Value.str x t):h9 vs ss:=by
 induction vs generalizing ss with
 |nil=>cases ss with
  |nil=>show .nil
  |cons _ _=>simp at hl
 |cons v vs ih=>cases ss with
  |nil=>simp at hl
  |cons x ss=>
   let(y,t,a,rfl):=h 0 v rfl;cases a;show .cons x t (ih ↑hl λi v e=>↑(h (i+1) v ↑e))
def b02(K:Fg):List V->Hp->VK->Prop:=λxs H Q=>∃(p:Addr)(kvs:List (Key×V))(ss:List Str),xs=[.ref p]/\H p=bN (.dK kvs)/\kvs.map (·.1)=ss.map (λs=>(Sum.inr s:Key))/\ss.length<64 /\
 ∀(t:Addr)(ts:List Str),H t=ce->ts.Perm ss->g5 ts=cp->Q (.ref t) (upd H t (.lst (ts.map V.str)))
def a5c(hc:X.calm=cp):CallR X (.builtin "sorted") (b02 X.K):=by
 ext y s σ H xs us Q I r h;let(p,kvs,ss,rfl,hd,L,F,q):=h;let(u,rfl,rx):=a2X r;cases rx;show a7v F (λR U=>?_) λg g' j d E n M k1 k2 e T N a3=>?_
 .let(z,lo,B,m,dd):=b27 I.hok hd;let(ep,C):=dd.dictAt;let D:B.length=ss.length:=by rw[<- m.length,<- aM,L,aM]
  show PySem.W.kdu_collect (PySem.W.kdl_dict lo) (I.ok.hd hc) C (by rw[D,fW];lia) λg j S Y b=>(U g j s.drawn S.toList ss Y (b3Z (by rw[bU,b.1,D]) λi v e=>?_) (.refl _));let(k,x,e1,e2):=b.2 i v (by simp_all);let l:B.map (·.1)=ss.map λs=>(Sum.inr s):=m.keys▸L;let c:(ss.map λs=>(Sum.inr s))[i]?=bN k:=by rw[<- l,aU,e1];rfl
  rw[aU]at c;cases hn:ss[i]? with
  |none=>rw[hn]at c;cases c
  |some n=>
   rw[hn]at c;cases c;let(t,e4):=Value.isStrOf_shape e2;show(n,t,rfl,e4)
 .let G:Inv X y σ H { s with heap:=g,drawn:=d,toks:=j }:=(I.drew d).kept k1;show(.ref g.objs.size,_,G.laid k2 (aN _) (show ObjOk X.prog X.w _ g' _ (.lst _) from (by rw[aM,N.length_eq,fW];lia,E,n,a5a T,e)),rfl,q _ M (G.hok.fresh (aN _)) N a3)
section
variable{K:Fg}
def a6K(h:Rep K H (keyW k) v):v=kV k:=by
 match k,h with
 |.inl (bN i),h=>rw[show keyW _=.int i from rfl,a0g]at h;show h
 |.inl ce,h=>rw[show keyW _=.non from rfl,a0v]at h;show h
 |.inr x,h=>rw[show keyW _=.str x from rfl,a0r]at h;show h
noncomputable def prZ(r:Key×Z):Z:=.tup [keyW r.1,r.2]
def b30:∀{rows:List (Key×Z)}{vs:List V},Reps K H (rows.map prZ) vs->∃rs:List (Addr×Key×V),vs=rs.map (λr=>V.ref r.1)/\(∀r∈rs,H r.1=bN (.tup [kV r.2.1,r.2.2]))/\rs.length=rows.length /\
  ∀acc bcc,bcc.map (·.1)=acc.map (·.1)->Reps K H (acc.map (·.2)) (bcc.map (·.2))->(a7t rs bcc).map (·.1)=(a2u acc rows).map (·.1)/\Reps K H ((a2u acc rows).map (·.2)) ((a7t rs bcc).map (·.2)):=by ext z0;induction z0 with
 |nil=>
  ext vs h;show([],h,λr e=>by simp at e,rfl,λf g b c=>(b,c))
 |cons r rows I0=>
  ext vs h;let(v,x,rfl,b,c):=h;let(t,rfl,l,n,u):=I0 c;let(a,y,rfl,p,e):=b;let(z,w,rfl,j,i):=e.two
  let:=a6K j
  subst this;show((a,r.1,w,)::t,rfl,λq d=>?_,by rw[aS,aS,n],λf g b s=>?_)
  .let rfl||d:=aT.mp d
   .grind
   .show l q d
  .let(m,o):=a6G i b s;show u _ _ m o
def b2g:List Z->Hq->K3->Prop:=λxs G R=>match xs with
 |[.ref p]=>∃rows:List (Key×Z),G p=bN (.lst (rows.map prZ))/\rows.length<=1000/\∀t,G t=ce->R (.ref t) (put G t (.dK (a2u [] rows)))
 |_=>False
def a9j(hc:X.calm=cp):a1m X (.type "dict") b2g:=a0W (a7u hc) λx H Q n=>n.un λg G R d b h q=>by
 match g,h with
 |[.ref p],h=>
  let(v,rfl,r):=d.one;let(c,e,w,h):=h;let(s,j,l):=b _ _ e;let(d,rfl,f,u,k):=b30 l;let(m,i):=k [] [] rfl .nil;show(p,d,by rw[r],SqL.of j,f,by lia,λt a=>q _ _ _ _ (h t (b.out a)) (by rw[a0l]) (b.set (.new a) (_,a0c,m,i.mono (.new a))) (.new a))
def a9k(e:G p=bN (.lst (rows.map prZ)))(z:rows.length<=1000)(h:∀t,G t=ce->R (.ref t) (put G t (.dK (a2u [] rows)))):b2g [.ref p] G R:=(rows,e,z,h)
def a6L:List Z->Hq->K3->Prop:=λxs G R=>match xs with
 |[.ref p]=>∃(kvs:List (Key×Z))(ss:List Str),G p=bN (.dK kvs)/\kvs.map (·.1)=ss.map (λs=>(Sum.inr s:Key))/\ss.length<64/\∀(t:Addr)(ts:List Str),G t=ce->ts.Perm ss->g5 ts=cp->R (.ref t) (put G t (.lst (ts.map Z.str)))
 |_=>False
def a5d(hc:X.calm=cp):a1m X (.builtin "sorted") a6L:=a0W (a5c hc) λy H Q l=>l.un λg G R f b h u=>by
 match g,h with
 |[.ref p],h=>
  let(v,rfl,r):=f.one;let(w,i,e,m,d,h):=h;let(q,s,j,x):=b _ _ e;show(p,q,i,by rw[r],s,by rw[j];show m,d,λt c a n k=>u _ _ _ _ (h t c (b.out a) n k) (by rw[a0l]) (b.set (.new a) (_,a0c,a3X c)) (.new a))
def a3Z(e:G p=bN (.dK kvs))(k:kvs.map (·.1)=ss.map (λs=>(Sum.inr s:Key)))(z:ss.length<64)(h:∀(t:Addr)(ts:List Str),G t=ce->ts.Perm ss->g5 ts=cp->R (.ref t) (put G t (.lst (ts.map Z.str)))):a6L [.ref p] G R:=(kvs,ss,e,k,z,h)
theorem Reps.dropLast:∀{ws:List Z}{vs:List V},Reps K H ws vs->Reps K H ws.dropLast vs.dropLast
 |[],vs,h=>by rw[a0f]at h;subst h;show .nil
 |[w],vs,h=>by
  let(v,rfl,_):=h.one;show .nil
 |w::w'::ws,vs,h=>by
  let(v,r,rfl,c,b):=h;let a:=b;let(e,d,rfl,_,_):=a;show .cons c (Reps.dropLast b)
end
section
open Tim
noncomputable def ptV:Pz->V
 |.inl ce=>.non
 |.inl (bN i)=>.int i
 |.inr s=>.str s
theorem b8T:∀{x:Pz}{u:Value},RelV (ptV x) u->PtIs x u
 |.inl ce,_,h=>h
 |.inl (bN _),_,h=>h
 |.inr _,_,h=>h
def a53:∀{xs:List Pz}{us:List Value},Vals (xs.map ptV) us->PtsAre xs us:=by ext z0;induction z0 with
 |nil=>ext us r;rw[bt]at r;cases r;trivial
 |cons x xs I0=>
  ext us r;cases r with
  |cons r1 r2=>show(b8T r1,I0 r2)
def a6M:∀{bs:List Addr}{us:List Value},Vals (bs.map V.ref) us->us=bs.map Value.ref:=by ext z0;induction z0 with
 |nil=>ext us r;rw[bt]at r;cases r;rfl
 |cons b bs I0=>
  ext us r;cases r with
  |cons r1 r2=>rw[I0 r2,r1];rfl
def a30:∀bs:List Addr,Vals (bs.map V.ref) (bs.map Value.ref):=by ext z0;induction z0 with
 |nil=>show .nil
 |cons b bs I0=>show .cons rfl (I0)
def a7w:∀{bs:List Addr}{out:List Value},out.Perm (bs.map Value.ref)->∃cs:List Addr,out=cs.map Value.ref:=λ{g a} h=>by
 let:∀v∈a,∃b,v=Value.ref b:=λv f=>by
  let(b,_,e):=aQ.mp (h.mem_iff.mp f);show(b,e.symm)
 clear h
 induction a with
 |nil=>show([],rfl)
 |cons v a ih=>
  let(b,rfl):=this v (.head _);let(d,rfl):=ih λu c=>this u (.tail _ c);show(b::d,rfl)
def a3c(H:Hp)(bs:List Addr)(rows:List (List Pz)):Prop:=bs.length=rows.length/\∀(i:Nat)(b:Addr)(x:List Pz),bs[i]?=bN b->rows[i]?=bN x->H b=bN (.tup (x.map ptV))
theorem a3d(I:Inv X pins σ H s):∀{bs:List Addr}{rows:List (List Pz)},a3c H bs rows->RowsIn s.heap (bs.map Value.ref) rows
 |[],[],_=>trivial
 |[],_::_,h=>by let:=h.1;simp at this
 |_::_,[],h=>by let:=h.1;simp at this
 |b::bs,x::rows,h=>by
  show(?_,a3d I (by let:=h.1;o_head this,λi c y e d=>h.2 (i+1) c y (by simp_all) (by simp_all)));let(_,j,r,o,g,a,n,f):=(I.hok b _ (h.2 0 b x rfl rfl));show(b,o,_,n,rfl,g,a,f,↑(a53 r))
def b03(K:Fg):List V->Hp->VK->Prop:=λxs H Q=>∃(p:Addr)(bs:List Addr)(rows:List (List Pz))(m:Nat),xs=[.ref p]/\SqL K H p (bs.map V.ref)/\a3c H bs rows/\bs.length<=100000/\(a0X rows\/a1Y rows)/\(∀x∈rows,x.length=m)/\(∀x∈rows,∀y∈rows,cmpT x y=cp) /\
 ∀(t:Addr)(cs:List Addr)(os:List (List Pz)),H t=ce->a3c H cs os->os.Perm rows->os.Pairwise (λx y=>ltT y x=js)->Q (.ref t) (upd H t (.lst (cs.map V.ref)))
def a5e:CallR X (.builtin "sorted") (b03 X.K):=by
 ext t s σ H xs us Q I r h;let(p,a,k,m,rfl,hq,C,hbl,hf,hm,hc,q):=h;let(u,rfl,rx):=a2X r;cases rx;let(N,rv,pl,_):=I.list hq
 let:=a6M rv
 subst this;let R:(a.map Value.ref).length<=sizeLine:=by rw[aM,fW];cbv
 show Calls.call_function_entry iP iQ iR (jl _) ?_;unfold fU.«sorted»;show fK (fS (fK (jq pl.isList ?_ R)));let G:∀b o,s.heap.get? b=bN o->((s.heap.push (seqObj "list" #[] 0)).update s.heap.objs.size (Obj.mapSeq (·++(a.map Value.ref).toArray))).get? b=bN o:=λb o e=>by
  let d:=Heap.lt_size e;rw[Heap.get?_update_ne _ _ _ _ (aZ d)];show Heap.get?_push_of_some _ e
 generalize (s.heap.push (seqObj "list" #[] 0)).update s.heap.objs.size (Obj.mapSeq (·++(a.map Value.ref).toArray))=g at G ⊢;let z:=I.kept (t':=s.toks) G;show fK (ib ?_ R);let D:(g.push _).get? g.objs.size=bN (seqObj "list" (a.map Value.ref).toArray 0):=Heap.get?_push_size _ rfl;let U:Inv X t σ H { s with heap:=g.push (seqObj "list" (a.map Value.ref).toArray 0) }:=z.kept (t':=s.toks) λb o e=>Heap.get?_push_of_some _ e;show fK (gb (ip iU (_,D,rfl) iV (Tim.sort_tups D (by rw[aM];cbv) (a3d U C) hf hm hc λout S A F a3 a4=>(_,rfl,?_)) (jm _)));let l:=jo (out:=out.toArray) D;let(n,l):=l;let(f,rfl):=a7w A;let hcl:f.length=a.length:=by let:=A.length_eq;o_head this
 let tc:a3c H f S:=by
  show(by rw[F,aM,aM],λi c x T M=>?_);rw[F,aU,aU,T]at M;cases M;let B:=A.mem_iff.mp (bK (bp T));let(c',E,e):=aQ.mp B;cases e;let(j,L):=dE E;obtain⟨y,hy⟩:∃y,k[j]?=bN y:=(k[j]'(by let:=(bh.mp L).1;rw[<- C.1];show this),by simp);let J:=C.2 j c y L hy;let(_,N,r,o,Y,W,n,h3):=(U.hok c _ J)
  let:RowIn (g.push (seqObj "list" (a.map Value.ref).toArray 0)) (.ref c) y:=(c,o,_,n,rfl,Y,W,h3,↑(a53 r))
  change H c=bN _
  rw[a0P this];show J
 show fS (_,rfl,?_);show(.ref g.objs.size,_,z.laid (t':=s.toks) (λb o e=>by
  let d:=Heap.lt_size e;rw[jp (aZ d) (by rw[Heap.size_push];show cU d)];show Heap.get?_push_of_some _ e) (aN _) (show ObjOk X.prog X.w _ _ _ (.lst (f.map V.ref)) from (by rw[aM,fW];cbv,f.map Value.ref,n,a30 f,↑l)),rfl,q _ f S (z.hok.fresh (aN _)) tc a3 a4)
end
section
open Tim
noncomputable def ptZ:Pz->Z
 |.inl ce=>.non
 |.inl (bN i)=>.int i
 |.inr s=>.str s
noncomputable def tupZ(x:List Pz):Z:=.tup (x.map ptZ)
theorem rep_pt{K:Fg}:∀{x:Pz}{v:V},Rep K H (ptZ x) v↔v=ptV x
 |.inl ce,v=>by unfold ptZ ptV;rw[a0v]
 |.inl (bN _),v=>by unfold ptZ ptV;rw[a0g]
 |.inr _,v=>by unfold ptZ ptV;rw[a0r]
theorem reps_pts{K:Fg}:∀{xs:List Pz}{vs:List V},Reps K H (xs.map ptZ) vs↔vs=xs.map ptV
 |[],vs=>by rw[bt,a0f,bt]
 |x::xs,vs=>by
  rw[aV,a0H,aV]
  constructor
  .ext⟨v,r,rfl,a,b⟩;rw[rep_pt.mp a,reps_pts.mp b]
  .ext rfl;show(_,_,rfl,rep_pt.mpr rfl,reps_pts.mpr rfl)
def a9l{K:Fg}:∀{rows:List (List Pz)}{vs:List V},Reps K H (rows.map tupZ) vs->∃bs:List Addr,vs=bs.map V.ref/\a3c H bs rows:=by ext z0;induction z0 with
 |nil=>
  ext vs h;subst h;show([],rfl,rfl,λi b x e=>by simp at e)
 |cons x rows I0=>
  ext vs h;let(v,r,rfl,c,m):=h;let(a,n,rfl,e,k):=c;rw[reps_pts.mp k]at e;let(l,rfl,j,g):=I0 m;show(a::l,rfl,by rw[aS,aS,j],λi b y d f=>?_);cases i with
  |zero=>cases d;cases f;show e
  |succ i=>show g i b y (by simp_all) (by simp_all)
theorem a5f{K:Fg}:∀{bs:List Addr}{rows:List (List Pz)},a3c H bs rows->Reps K H (rows.map tupZ) (bs.map V.ref)
 |[],[],_=>by rw[bt,bt,a0f]
 |[],_::_,h=>by let:=h.1;simp at this
 |_::_,[],h=>by let:=h.1;simp at this
 |b::bs,x::rows,h=>by
  show(_,_,rfl,?_,a5f (by let:=h.1;o_head this,λi c y d a=>h.2 (i+1) c y (by simp_all) (by simp_all)));show(b,_,rfl,h.2 0 b x rfl rfl,reps_pts.mpr rfl)
def a6N:List Z->Hq->K3->Prop:=λxs G R=>match xs with
 |[.ref p]=>∃(rows:List (List Pz))(m:Nat),G p=bN (.lst (rows.map tupZ))/\rows.length<=100000/\(a0X rows\/a1Y rows)/\(∀x∈rows,x.length=m)/\(∀x∈rows,∀y∈rows,cmpT x y=cp)/\∀(t:Addr)(os:List (List Pz)),G t=ce->os.Perm rows->os.Pairwise (λx y=>ltT y x=js)->R (.ref t) (put G t (.lst (os.map tupZ)))
 |_=>False
def a9m:a1m X (.builtin "sorted") a6N:=a0W a5e λL H Q y=>y.un λn G R B d h J=>by
 match n,h with
 |[.ref p],h=>
  let(v,rfl,r):=B.one;let(c,m,e,w,k,I,s,h):=h;let(M,u,D):=d _ _ e;let(A,rfl,g):=a9l D;show(p,A,c,m,by rw[r],SqL.of u,g,by rw[g.1];show w,k,I,s,λt N f a j l E=>J _ _ _ _ (h t f (d.out a) l E) (by rw[a0l]) (d.set (.new a) (_,a0c,a5f (j.1,λi b x C F=>by
   let q:=j.2 i b x C F;rw[a0b (λz=>by rw[z,a]at q;cases q)];show q))) (.new a))
def a9n(e:G p=bN (.lst (rows.map tupZ)))(z:rows.length<=100000)(hf:a1Y rows)(hm:∀x∈rows,x.length=jt)(hc:∀x∈rows,∀y∈rows,cmpT x y=cp)(h:∀(t:Addr)(os:List (List Pz)),G t=ce->os.Perm rows->os.Pairwise (λx y=>ltT y x=js)->R (.ref t) (put G t (.lst (os.map tupZ)))):a6N [.ref p] G R:=(rows,jt,e,z,.inr hf,hm,hc,h)
end
namespace DictP
section
variable{K:Type}[DecidableEq K]{knd:KeyKind prog w K}
def a9o(x:(gm knd).is h k a)(q:∀o,h.get? a=bN o->h'.get? a=bN o):(gm knd).is h' k a:=by
 let(o,b,n,e,r):=x;show(o,b,n,q o e,r)
noncomputable def mergedH(acc rows:List (List K×Addr×Value)):List (List K×Addr×Value):=rows.foldl (λacc r=>gJ acc r.1 r.2.1 r.2.2) acc
def a7x{k:List K}(h:x∈gJ xs k a v):x.2.1=a\/∃y∈xs,x.2.1=y.2.1:=by
 unfold gJ at h
 split at h
 .let(y,b,rfl):=aQ.mp h;show .inr (y,b,?_);unfold putAt
  split<;>rfl
 .let h||h:=aO.mp h
  .show .inr (x,h,rfl)
  .rw[aR.mp h];show .inl rfl
def a7y{k:List K}:(gJ xs k a v).length<=xs.length+1:=by
 unfold gJ
 split<;>simp
def a54:∀{rows acc:List (List K×Addr×Value)}{x:List K×Addr×Value},x∈mergedH acc rows->(∃y∈rows,x.2.1=y.2.1)\/∃y∈acc,x.2.1=y.2.1:=by ext z0;induction z0 with
 |nil=>ext acc x h;show .inr (x,h,rfl)
 |cons r rows I0=>
  ext acc x h;let(y,hy,e)||(y,hy,e):=I0 h
  .show .inl (y,.tail _ hy,e)
  .let e2||(z,hz,e2):=a7x hy
   .show .inl (r,.head _,e.trans e2)
   .show .inr (z,hz,e.trans e2)
theorem a3e:∀{rows acc:List (List K×Addr×Value)},(mergedH acc rows).length<=acc.length+rows.length
 |[],_=>aN _
 |r::rows,acc=>by
  let c:=a3e (rows:=rows) (acc:=gJ acc r.1 r.2.1 r.2.2);let b:=a7y (xs:=acc) (k:=r.1) (a:=r.2.1) (v:=r.2.2)
  change (mergedH (gJ acc r.1 r.2.1 r.2.2) rows).length<=_
  rw[aS];lia
def a5g{rows:List (List K×Addr×Value)}(h:rows[i]?=bN r):mergedH [] (rows.take (i+1))=gJ (mergedH [] (rows.take i)) r.1 r.2.1 r.2.2:=by
 unfold mergedH;rw[b4,h,ft]
 rfl
def b31{h h':Heap}(D:h.DictOfH (gm knd) d xs)(hd:∀o,h.get? d=bN o->h'.get? d=bN o)(q:∀x∈xs,∀o,h.get? x.2.1=bN o->h'.get? x.2.1=bN o):h'.DictOfH (gm knd) d xs:=by
 let(o,e,j,b,g,f,i,k,c):=D;show(o,e,j,hd o b,g,f,i,λx a=>a9o (k x a) (q x a),c)
def PairT(knd:KeyKind prog w K)(h:Heap)(v:Value)(r:List K×Addr×Value):Prop:=∃t o m,v=.ref t/\h.get? t=bN o/\o.cls=.type "tuple"/\o.data=.seq #[.ref r.2.1,r.2.2] m/\(gm knd).is h r.1 r.2.1
def call_pairsT(hh:A.handled=ce)(hu:A.units+5<cLine)
  (hl:s.heap.get? l=bN { cls:=.type "list",dict:=ce,data:=.seq items c,slots:=sl }) (hi:∀(j:Nat) v,items[j]?=bN v->∃r,rows[j]?=bN r/\PairT knd s.heap v r) (hn:items.size=rows.length) (hz:rows.length<=fL)
  (h:∀(h':Heap)(tk:Nat),h'.DictOfH (gm knd) s.heap.objs.size (mergedH [] rows)->(∀b o,s.heap.get? b=bN o->h'.get? b=bN o)->Q (.ref s.heap.objs.size) { s with heap:=h',toks:=tk }) :
  wpAny (model prog w) A (call (.type "dict") [.ref l]) Q E s:=by
 let G:∀r∈rows,∃o,s.heap.get? r.2.1=bN o:=λr p=>by
  let(j,z):=dE p;let R:=(bh.mp z).1;let(S,F,t,o,m,_,_,_,_,U,_,_,M,_):=hi j (items[j]'(by lia)) (by simp);rw[z]at F;cases F;show(_,M)
 show a9h (D:=λi h=>h.DictOfH (gm knd) s.heap.objs.size (mergedH [] (rows.take i))) hh hl (λi h d a n C q=>b31 a q λx N o e=>?_) (Heap.DictOfH.new s.heap) (λj v e=>?_) λd L a H=>h d L (by simp_all) H
 .let(y,hy,e')||(y,hy,_):=a54 N
  .let(T,B):=G y (cw hy);rw[e']at e ⊢
   let:=n _ _ B
   rw[e]at this;cases this;show C _ _ B
  .simp at hy
 .let(r,p,t,o,m,rfl,g,J,I,k):=hi j v e;show(t,o,.ref r.2.1,r.2.2,m,rfl,g,J,I,λE V Q n a q=>wpAny_dictSet_heap (iu (show A.units+1+1<cLine by lia)) (a9o k λo e=>n _ o e) a (λd f u=>q d _ (fu _ _) (by rw[<- a5g p]at f;show f) u) ?_)
  let:=a3e (acc:=[]) (rows:=rows.take j)
  simp at this
  lia
end
end DictP
noncomputable def a5h(rows:List (Addr×Addr×List Key×V))(acc:List (List Key×V)):List (List Key×V):=rows.foldl (λacc r=>putK acc r.2.2.1 r.2.2.2) acc
def b6E(X:Cx):List V->Hp->VK->Prop:=λxs H Q=>∃(p:Addr)(rows:List (Addr×Addr×List Key×V)),xs=[.ref p]/\SqL X.K H p (rows.map λr=>V.ref r.1)/\(∀r∈rows,H r.1=bN (.tup [.ref r.2.1,r.2.2.2])/\H r.2.1=bN (.tup (r.2.2.1.map kV)))/\rows.length<=1000 /\
 ∀t,H t=ce->Q (.ref t) (upd H t (.dT (a5h rows [])))
def a9p(ok:HOk P w H h):∀{rows:List (Addr×Addr×List Key×V)},(∀r∈rows,H r.1=bN (.tup [.ref r.2.1,r.2.2.2])/\H r.2.1=bN (.tup (r.2.2.1.map kV)))->∃vs:List (List Key×Addr×Value),vs.length=rows.length /\
  (∀(j:Nat) r,rows[j]?=bN r->∃q,vs[j]?=bN q/\DictP.PairT (a0n P w) h (.ref r.1) q)/\∀acc bcc,KT H acc bcc->KT H (a5h rows acc) (DictP.mergedH bcc vs):=by ext z0;induction z0 with
 |nil=>ext _;show([],rfl,λj r e=>by simp at e,λ_ _ k=>k)
 |cons r rows I0=>
  ext hr;let(l,m,t,s):=I0 λr c=>hr r (.tail _ c);let(b,a):=hr r (.head _);let(_,z,g,o,f,p,n,x):=(ok _ _ b);let(d,u,rfl,v,i):=Vals.two g;cases (v);show((r.2.2.1,r.2.1,u,)::l,by rw[aS,aS,m],λj q e=>?_,λA y k=>s _ _ (k.put r.2.2.1 a i));cases j with
  |zero=>
   cases e;show(_,rfl,r.1,o,n,rfl,f,p,x,a3P ok a)
  |succ j=>show t j q ↑e
def a9q:∀(rows:List (Addr×Addr×List Key×V))(acc:List (List Key×V)),(a5h rows acc).length<=acc.length+rows.length:=by ext z0;induction z0 with
 |nil=>ext _;show aN _
 |cons r rows I0=>
  ext acc
  let:=I0 (putK acc r.2.2.1 r.2.2.2)
  let:=a06 acc r.2.2.1 r.2.2.2
  change (a5h rows (putK acc r.2.2.1 r.2.2.2)).length<=_
  rw[aS];cbv
def a7z(hc:X.calm=cp)(hu:X.A.units+66<cLine):CallR X (.type "dict") (b6E X):=by
 ext k s σ H xs us Q I r h;let(p,rows,rfl,T,ht,hz,q):=h;let(u,rfl,rx):=a2X r;cases rx;let(f,m,(o,n,R,D,t,J),_):=I.list T;let(c,dd,dt,sl):=o;simp only at D t J;subst D t J;let(B,E,h2,U):=a9p I.hok ht;let hl:f.length=rows.length:=by let:=m.length;rw[aM]at this;lia
 let d:B.length<=sizeLine:=by rw[E,fW];lia
 show DictP.call_pairsT (knd:=a0n X.prog X.w) (I.ok.hd hc) (by lia) R (λj v e=>?_) (by rw[E,bJ];show hl) d λg G hD kp=>?_
 .let C:f[j]?=bN v:=↑e
  obtain⟨r,z⟩:∃r,rows[j]?=bN r:=(rows[j]'(by grind),bf _);let(q,y,pa):=h2 j r z;let(u,F,V):=m.get (by rw[aU,z];rfl);rw[C]at F;cases F;rw[V];show(q,y,pa)
 .let k0:=U [] [] .nil;let l:=I.hok.fresh (aN s.heap.objs.size);let N:=(a4c (P:=X.prog) (w:=X.w) (H:=λ_=>ce) s.heap I.big).2.1;let S:=a9q rows [];let(ob,es,ep,M,g2,g3,L,_,Y):=hD;let W:=
   I.laid (t':=G) kp (aN _) (show ObjOk X.prog X.w _ g _ (.dT (a5h rows [])) from (by rw[fW];simp at S;lia,N,_,k0.keeps λb ys e=>by rw[a0b (a0p e l)];show e,ob,es,ep,M,g2,g3,L,Y))
  show(.ref s.heap.objs.size,_,W,rfl,q _ l)
section
variable{K:Fg}
def a9r:∀{k:List Key}{vs:List V},Reps K H (k.map keyW) vs->vs=k.map kV:=by ext z0;induction z0 with
 |nil=>ext vs h;rw[bt,a0f]at h;show h
 |cons k ks I0=>
  ext vs h;let(v,r,rfl,b,a):=h;rw[a6K b,I0 a];rfl
def a6O{k:List Key}(h:Rep K H (.tup (k.map keyW)) v):∃b,v=.ref b/\H b=bN (.tup (k.map kV)):=by
 let(a,e,rfl,d,c):=h;show(a,rfl,by rw[d,a9r c])
noncomputable def prT(r:List Key×Z):Z:=.tup [.tup (r.1.map keyW),r.2]
def b04{k j:List Key}:j∈(putK kvs k v).map (·.1)↔j=k\/j∈kvs.map (·.1):=by
 unfold putK
 split
 .next hc=>
  let(p,b,c):=cD.mp hc;let e:(kvs.map λa=>if a.1=k then (a.1,v,) else a).map (·.1)=kvs.map (·.1):=by
   rw[aX];show b7 λx _=>?_
   change (if x.1=k then _ else x).1=x.1
   split<;>rfl
  rw[e];show(.inr,λh=>h.elim (λz=>?_) id);rw[z,<- of_decide_eq_true c];show bK b
 .rw[aY,aO]
  constructor
  .ext (h |h)
   .show .inr h
   .show .inl (by simp_all)
  .ext (h |h)
   .show .inr (by simp[h])
   .show .inl h
def b05:∀{rows:List (List Key×Z)}{vs:List V},Reps K H (rows.map prT) vs->∃rs:List (Addr×Addr×List Key×V),vs=rs.map (λr=>V.ref r.1)/\(∀r∈rs,H r.1=bN (.tup [.ref r.2.1,r.2.2.2])/\H r.2.1=bN (.tup (r.2.2.1.map kV)))/\rs.length=rows.length /\
  ∀bcc j,j∈(a5h rs bcc).map (·.1)↔j∈rows.map (·.1)\/j∈bcc.map (·.1):=by ext z0;induction z0 with
 |nil=>
  ext vs h;show([],h,λr f=>by simp at f,rfl,λc j=>by simp[a5h])
 |cons r rows I0=>
  ext vs h;let(v,w,rfl,e,k):=h;let(i,rfl,n,m,p):=I0 k;let(a,t,rfl,l,f):=e;let(x,g,rfl,s,u):=f.two;let(b,rfl,o):=a6O s;show((a,b,r.1,g,)::i,rfl,λq d=>?_,by rw[aS,aS,m],λc j=>?_)
  .let rfl||d:=aT.mp d
   .simp_all
   .show n q d
  .change j∈(a5h i _).map _↔_
   rw[p,b04,aV,aT]
   constructor
   .ext (h |h |h)
    .show .inl (.inr h)
    .show .inl (.inl h)
    .show .inr h
   .ext ((h |h) |h)
    .show .inr (.inl h)
    .show .inl h
    .show .inr (.inr h)
def b2h:List Z->Hq->K3->Prop:=λxs G R=>match xs with
 |[.ref p]=>∃rows:List (List Key×Z),G p=bN (.lst (rows.map prT))/\rows.length<=1000/\∀t ks,G t=ce->(∀j,j∈ks↔j∈rows.map (·.1))->R (.ref t) (put G t (.dT ks))
 |_=>False
def a9s(hc:X.calm=cp)(hu:X.A.units+66<cLine):a1m X (.type "dict") b2h:=a0W (a7z hc hu) λq H Q i=>i.un λf G R c a h n=>by
 match f,h with
 |[.ref p],h=>
  let(v,rfl,r):=c.one;let(g,e,u,h):=h;let(s,l,k):=a _ _ e;let(c,rfl,d,w,m):=b05 k;show(p,c,by rw[r],SqL.of l,d,by lia,λt b=>n _ _ _ _ (h t _ (a.out b) λj=>by rw[m [] j];simp) (by rw[a0l]) (a.set (.new b) (_,a0c,rfl)) (.new b))
def a9t{rows:List (List Key×Z)}(e:G p=bN (.lst (rows.map prT)))(z:rows.length<=1000)(h:∀t ks,G t=ce->(∀j,j∈ks↔j∈rows.map (·.1))->R (.ref t) (put G t (.dT ks))):b2h [.ref p] G R:=(rows,e,z,h)
noncomputable def hasK(ks:List (List Key))(k:List Key):Bool:=ks.any λj=>decide (j=k)
def b06:hasK ks k=cp↔k∈ks:=by simp[hasK]
def zTIn(f:Bool->Bool):R3:=λx y G R=>match y with
 |.ref p=>∃ks k,G p=bN (.dT ks)/\x=.tup (k.map keyW)/\R (.bl (f (hasK ks k))) G
 |_=>False
def a9u:(valV kvs k).isSome=hasK (kvs.map (·.1)) k:=by
 rw[<- a6s];unfold hasK;rw[List.any_map]
 rfl
def a6P(hu:X.A.units+66<cLine):OpQ X (fR .NotIn) (zTIn not):=a22 (a9b hu) λx y H Q g=>g.un λa b G R n f d h i=>by
 cases b with
 |ref p=>
  let(o,k,e,rfl,h):=h;let(l,j,rfl):=d _ _ e;let(c,rfl,m):=a6O n;show(p,valV l k,f,DGet.t j m,i _ _ _ _ h (by rw[a0t,a9u]) d (.refl _ _))
 |_=>show aP h
def b6F(e:G p=bN (.dT ks))(ex:x=.tup (k.map keyW))(h:R (.bl (f (hasK ks k))) G):zTIn f x (.ref p) G R:=(ks,k,e,ex,h)
end
structure OwnK (K:Fg) (C:Addr):Prop where
 cl:Cls K C
 ha:PySem.W.findIn K (.ref C) "__class__"=bN (bN (.builtin "object.__class__"))
 hn:PySem.W.specialIn K (.builtin "object.__class__") "__get__"=bN (bN (.builtin "getset_descriptor.__get__"))
 ht:PySem.W.takesIn K (.builtin "object.__class__")=bN cp
 hm:PySem.W.mroIn K C (.type "object")=bN cp
def rIsI(K:Fg)(C D:Addr)(b:Bool):List V->Hp->VK->Prop:=λxs H Q=>∃p dx fs,xs=[.ref p,.ref D]/\H p=bN (.ins C dx fs)/\Q (.bl b) H
def b07(o:OwnK X.K C)(k:PySem.W.kitOne X.K (.ref C) (.ref D)=bN b):CallR X (.builtin "isinstance") (rIsI X.K C D b):=by
 ext d s σ H l j Q I r h;let(p,m,i,rfl,e,q):=h;let(u,a,rfl,g,f):=a77 r;cases (f);show a4S I g (.ins e o.cl o.ha o.hn o.ht o.hm) k λc=>(.bl b,H,I.tok c,rfl,q)
def zIsI(C D:Addr)(b:Bool):List Z->Hq->K3->Prop:=λxs G R=>∃p dx fs,xs=[.ref p,.ref D]/\G p=bN (.ins C dx fs)/\R (.bl b) G
def b8U(o:OwnK X.K C)(k:PySem.W.kitOne X.K (.ref C) (.ref D)=bN b):a1m X (.builtin "isinstance") (zIsI C D b):=a0W (b07 o k) λs H Q i=>i.un λq G R f c h j=>by
 let(p,l,n,rfl,e,h):=h;let(v,r,rfl,a,d):=f.two;let(m,g,_):=c _ _ e;show(p,l,m,by rw[a,d],g,j _ _ _ _ h (by rw[a0t]) c (.refl _ _))
def b8V(e:G p=bN (.ins C dx fs))(h:R (.bl b) G):zIsI C D b [.ref p,.ref D] G R:=(p,dx,fs,rfl,e,h)
namespace Tim
open PySem.W
def RowQ(h:Heap)(v:Value)(xs:List Pz):Prop:=∃a o its n ps b,v=.ref a/\h.get? a=bN o/\o.cls=.type "tuple"/\o.data=.seq its n/\its.toList=ps++[Value.ref b]/\PtsAre xs ps
def RowQ.uniq(r:RowQ h v xs)(q:RowQ h v ys):xs=ys:=by
 let(a,o,s,n,x,b,rfl,j,_,m,l,g):=r;let(z,y,k,u,t,w,i,f,_,d,c,p):=q;cases i;rw[j]at f;cases f;rw[m]at d;cases d;rw[l]at c;let e:=(fv c rfl).1;subst e;show g.uniq p
open Classical in
noncomputable def rowQ(h:Heap)(v:Value):List Pz:=if e:∃xs,RowQ h v xs then e.choose else []
def a1M(r:RowQ h v xs):rowQ h v=xs:=by
 unfold rowQ;let e:∃xs,RowQ h v xs:=(xs,r);rw[dif_pos e];show e.choose_spec.uniq r
noncomputable def kQ(h:Heap)(rows:List (List Pz)):KF:=λp=>(rk rows (rowQ h p.1):Int)
def RowsQ(h:Heap):List Value->List (List Pz)->Prop
 |[],[]=>True
 |v::vs,x::xs=>RowQ h v x/\RowsQ h vs xs
 |_,_=>False
theorem RowsQ.mem:∀{vs:List Value}{rows:List (List Pz)},RowsQ h vs rows->∀v∈vs,∃x∈rows,RowQ h v x
 |v::vs,x::xs,(r,q),u,hu=>by
  let rfl||hu:=aT.mp hu
  .show(x,.head _,r)
  .let(y,a,b):=q.mem u hu;show(y,.tail _ a,b)
 |[],[],_,u,hu=>by simp at hu
 |[],_::_,r,_,_=>r.elim
 |_::_,[],r,_,_=>r.elim
theorem RowsQ.inj:∀{vs:List Value}{rows:List (List Pz)},RowsQ h vs rows->rows.Nodup->∀{v u x},v∈vs->u∈vs->RowQ h v x->RowQ h u x->v=u
 |w::vs,y::ys,(r,q),nd,v,u,x,hv,hu,e1,e2=>by
  let(e,g):=cg.mp nd;let c:∀{z},z∈vs->RowQ h z x->RowQ h w x->False:=λf a b=>by
   let(j,d,i):=q.mem _ f;rw[i.uniq a]at d;rw[b.uniq r]at d;show e d
  let c1||c1:=aT.mp hv
  .let c2||c2:=aT.mp hu
   .simp_all
   .rw[c1]at e1;show (c c2 e2 e1).elim
  .let c2||c2:=aT.mp hu
   .rw[c2]at e2;show (c c1 e1 e2).elim
   .show q.inj g c1 c2 e1 e2
 |[],[],_,_,_,_,_,hv,_,_,_=>by simp at hv
 |[],_::_,r,_,_,_,_,_,_,_,_=>r.elim
 |_::_,[],r,_,_,_,_,_,_,_,_=>r.elim
def RowQ.mid{vs ws:List Value}(ho:h.get? a=bN (seqObj "list" ws.toArray n))(r:RowQ h v x):RowQ (a01 h a vs) v x:=by
 let(b,o,f,m,i,c,j,d,e,k,g):=r;show(b,o,f,m,i,c,j,b17 (λz=>?_) d,e,k,g);rw[z,ho]at d;cases d;simp at e
theorem RowsQ.mid{us ws:List Value}(ho:h.get? a=bN (seqObj "list" ws.toArray n)):∀{vs:List Value}{rows:List (List Pz)},RowsQ h vs rows->RowsQ (a01 h a us) vs rows
 |[],[],_=>trivial
 |_::_,_::_,(r,q)=>(r.mid ho,q.mid ho)
 |[],_::_,r=>r.elim
 |_::_,[],r=>r.elim
theorem RowsQ.kat:∀{vs:List Value}{rows:List (List Pz)},RowsQ h vs rows->a0X rows->∃fs:List Value,KatTups h vs fs/\fs.length=vs.length/\∀v∈fs,∃f:Str,PtIs (.inr f) v
 |[],[],_,_=>([],trivial,rfl,λv a=>by simp at a)
 |v::vs,x::xs,(r,q),hf=>by
  let(j,g,s,u):=q.kat λy t=>hf y (.tail _ t);let(y,z,rfl):=hf x (.head _);let(b,o,w,m,n,c,rfl,i,p,l,e,d):=r;cases n with
  |nil=>show d.elim
  |cons f fr=>
   let(k,_):=d;show(f::j,KatTups.cons i p l (by rw[<- cb,e];rfl) g,by rw[aS,aS,s],λv a=>?_);let rfl||a:=aT.mp a
   .show(y,k)
   .simp_all
 |[],_::_,r,_=>r.elim
 |_::_,[],r,_=>r.elim
section
variable{b:Bool}{Q:Bool->Shared->Prop}
def a7A(h:Q cp s):wpAny (model prog w) A (eqBool (.ref c) (.ref c)) Q E s:=by
 show gb ?_;rw[if_pos (by simp)];show fK (g6 (fS h))
theorem b6G:∀{xs ys:List Pz}{vs us:List Value}{i:Nat},PtsAre xs vs->PtsAre ys us->cmpT xs ys=cp->(xs=ys->c=d)->Q (ltT xs ys) s->KatLex prog w A b js Q ((vs++[Value.ref c]).zip (us++[Value.ref d])) i s
 |[],[],[],[],_,_,_,_,hb,h=>by
  rw[hb rfl];show kat_cons (a7A (kat_yes h))
 |x::xs,y::ys,p::vs,q::us,i,(a,c),(d,e),hc,hb,h=>by
  unfold cmpT at hc;unfold ltT at h
  by_cases exy:x=y
  .rw[if_pos exy]at hc h;show kat_cons (b0U a d (.inl exy) ?_);rw[decide_eq_true exy];show kat_yes (b6G c e hc (λz=>hb (by grind)) h)
  .rw[if_neg exy]at hc h;show kat_cons (b0U a d (.inr hc) ?_);rw[decide_eq_false exy];show kat_no (b2a a d hc h)
 |[],_::_,_,_,_,_,_,hc,_,_=>by simp[cmpT]at hc
 |_::_,[],_,_,_,_,_,hc,_,_=>by simp[cmpT]at hc
 |[],[],_::_,_,_,h,_,_,_,_=>h.elim
 |[],[],[],_::_,_,_,h,_,_,_=>h.elim
 |_::_,_::_,[],_,_,h,_,_,_,_=>h.elim
 |_::_,_::_,_::_,[],_,_,h,_,_,_=>h.elim
def lt_q(h0:∀p∈jw.toList,∃x∈rows,RowQ jy.heap p.1 x)(hu:∀p∈jw.toList,∀q∈jw.toList,∀x,RowQ jy.heap p.1 x->RowQ jy.heap q.1 x->p.1=q.1)(hm:∀x∈rows,x.length=jx)(hc:∀x∈rows,∀y∈rows,cmpT x y=cp):LtOk (model prog jz) jt ju jy (kQ jy.heap rows) (g4 b) jw:=λp q B jv U Q S h=>by
 let(x,i,v):=h0 p B;let(y,g,r):=h0 q jv;let R:Q (bN (ltT x y)) U:=by
  let e:decide (kQ jy.heap rows p<kQ jy.heap rows q)=ltT x y:=by
   unfold kQ;rw[a1M v,a1M r]
   let:=b19 i g (hc x i y g)
   cases e:ltT x y
   .grind
   .grind
  rw[e]at h;show h
 let t:=λz:x=y=>hu p B q jv y (z▸v) r;let(a,o,j,n,W,c,M,L,e3,G,u,C):=v;let(a',X,d,Y,V,c',F,k,f3,l,f,I):=r;rw[lt'_eq];show fM (gg ?_);rw[S,M,F];show fM (jg (jk (kat_lt L G k l ?_)));let D:=a3a C;let J:=a3a I;rw[hm x i]at D;rw[hm y g]at J;let T:j.toList.length=jx+1:=by rw[u,aW,D];rfl
 let N:d.toList.length=jx+1:=by rw[f,aW,J];rfl
 rw[bU]at T N;rw[decide_eq_false (by cbv),u,f];show b6G C I (hc x i y g) (λz=>?_) (rfl,fN R);let e:=t z;rw[M,F]at e;cases e;rw[L]at k;cases k;rw[G]at l;cases l;rw[u]at f
 let:=(fv f rfl).2
 o_head this
def sort_q(ho:s.heap.get? a=bN (seqObj "list" vs.toArray n))(hz:vs.length<=100000)(hr:RowsQ s.heap vs rows)(nd:rows.Nodup)(hf:a0X rows)
  (hm:∀x∈rows,x.length=ju) (hc:∀x∈rows,∀y∈rows,cmpT x y=cp)
  (h:∀out:List Value,out.Perm vs->(out.map (rowQ s.heap)).Pairwise (λx y=>ltT y x=js)->jt (.done (.ret .none)) { s with heap:=ji s.heap a vs out.toArray }):wpAny (model prog w) A (fU.«list.sort» ([.ref a],[])) jt E s:=by
 let g:RowsQ (a01 s.heap a vs) vs rows:=hr.mid ho;let j:∀p∈(gY vs).toList,p.1∈vs:=λp c=>by
  rw[iC,a2O]at c;let(v,i,rfl):=aQ.mp c;show i
 show a82 (k0:=g4 cp) ho hz (λH Q r=>?_) (λH=>lt_q (λp c=>g.mem _ (j p c)) (λp c q r x o N=>g.inj nd (j p c) (j q r) o N) hm hc) λD c S=>?_
 .let(fs,L,k2,U):=g.kat hf;show kat_kind (T:=.type "str") L (by cbv) (λv i=>?_) (by rfl) r;let(x,t,rfl):=U v i;show .now
 .rw[iC,a2O]at c;let o:(D.map (·.2)).Perm vs:=by
   let:=c.map (·.2)
   rw[aX,show (_∘λv:Value=>(v,v,))=id from rfl,cN]at this;show this
  let k:∀p∈D,p.1=p.2/\p.2∈vs:=λp l=>by
   let(v,i,rfl):=aQ.mp (c.mem_iff.mp l);show(rfl,i)
  show h _ o ?_;rw[bn,bn];show bO.imp_of_mem (λ{p q} l C z=>?_) S;let(J,R):=k p l;let(I,G):=k q C;let(x,x1,B):=hr.mem _ R;let(y,M,F):=hr.mem _ G;rw[a1M B,a1M F];unfold kQ at z;rw[J,I,a1M (B.mid ho),a1M (F.mid ho)]at z;cases e:ltT y x with
  |false=>rfl
  |true=>let:=a85 M e;cbv
end
def perm_lift{α β:Type}{f:α->β}:∀{l:List α}{m:List β},m.Perm (l.map f)->∃l':List α,l'.Perm l/\l'.map f=m:=by
 ext l m h;generalize hk:l.map f=k at h
 induction h generalizing l with
 |nil=>show(l,.refl _,hk)
 |cons x _ ih=>
  cases l with
  |nil=>simp at hk
  |cons y l=>
   injection hk with h1 h2
   let(e,c,d):=ih h2;show(y::e,c.cons y,by rw[aV,h1,d])
 |swap x y t=>
  match l,hk with
  |a::b::l,hk=>
   injection hk with h1 hk
   injection hk with h2 h3
   show(b::a::l,.swap ..,by rw[aV,aV,h1,h2,h3])
 |trans _ _ ih1 ih2=>
  let(n,c,d):=ih2 hk;let(g,j,i):=ih1 d;show(g,j.trans c,i)
end Tim
section
open Tim
theorem a5i:∀{vs:List V}{v:V}{us:List Value},Vals (vs++[v]) us->∃ws u,us=ws++[u]/\Vals vs ws/\RelV v u
 |[],v,us,h=>by
  cases h with
  |cons r1 r2=>cases r2;show([],_,rfl,.nil,r1)
 |x::vs,v,us,h=>by
  cases h with
  |cons r1 r2=>
   let(a,u,rfl,b,c):=a5i r2;show(_::a,u,rfl,.cons r1 b,c)
def b32(H:Hp)(bs:List Addr)(xs:List (List Pz)):Prop:=bs.length=xs.length/\∀(i:Nat)(b:Addr)(x:List Pz),bs[i]?=bN b->xs[i]?=bN x->∃c,H b=bN (.tup (x.map ptV++[V.ref c]))
def a9v(I:Inv X pins σ H s)(e:H b=bN (.tup (x.map ptV++[V.ref c]))):RowQ s.heap (.ref b) x:=by
 let(_,j,r,o,a,i,n,h):=(I.hok b _ e);let(d,u,rfl,g,f):=a5i r;show(b,o,_,n,d,c,rfl,a,i,h,by rw[f],a53 g)
theorem a31(I:Inv X pins σ H s):∀{bs:List Addr}{xs:List (List Pz)},b32 H bs xs->RowsQ s.heap (bs.map Value.ref) xs
 |[],[],_=>trivial
 |[],_::_,h=>by let:=h.1;simp at this
 |_::_,[],h=>by let:=h.1;simp at this
 |b::bs,x::xs,h=>by
  let(c,e):=h.2 0 b x rfl rfl;show(a9v I e,a31 I (by let:=h.1;o_head this,λi c y a d=>h.2 (i+1) c y ↑a ↑d))
def b08(K:Fg):List V->Hp->VK->Prop:=λvs H Q=>∃(p:Addr)(bs:List Addr)(xs:List (List Pz))(m:Nat),vs=[.ref p]/\SqL K H p (bs.map V.ref)/\b32 H bs xs/\bs.length<=100000/\xs.Nodup/\a0X xs/\(∀x∈xs,x.length=m)/\(∀x∈xs,∀y∈xs,cmpT x y=cp) /\
 ∀(t:Addr)(ys:List (Addr×List Pz)),H t=ce->ys.Perm (bs.zip xs)->(ys.map (·.2)).Pairwise (λx y=>ltT y x=js)->Q (.ref t) (upd H t (.lst (ys.map λy=>V.ref y.1)))
def a5j:CallR X (.builtin "sorted") (b08 X.K):=by
 ext k s σ H xs us Q I r h;let(p,a,z,m,rfl,W,j,hbl,U,Y,R,N,q):=h;let(u,rfl,S):=a2X r;cases S;let(its,rv,pl,_):=I.list W
 let:=a6M rv
 subst this;let L:(a.map Value.ref).length<=sizeLine:=by rw[aM,fW];cbv
 show Calls.call_function_entry iP iQ iR (jl _) ?_;unfold fU.«sorted»;show fK (fS (fK (jq pl.isList ?_ L)));let F:∀b o,s.heap.get? b=bN o->((s.heap.push (seqObj "list" #[] 0)).update s.heap.objs.size (Obj.mapSeq (·++(a.map Value.ref).toArray))).get? b=bN o:=λb o e=>by
  let f:=Heap.lt_size e;rw[Heap.get?_update_ne _ _ _ _ (aZ f)];show Heap.get?_push_of_some _ e
 generalize (s.heap.push (seqObj "list" #[] 0)).update s.heap.objs.size (Obj.mapSeq (·++(a.map Value.ref).toArray))=g at F ⊢;let v:=I.kept (t':=s.toks) F;show fK (ib ?_ L);let A:(g.push _).get? g.objs.size=bN (seqObj "list" (a.map Value.ref).toArray 0):=Heap.get?_push_size _ rfl;let M:Inv X k σ H { s with heap:=g.push (seqObj "list" (a.map Value.ref).toArray 0) }:=v.kept (t':=s.toks) λb o e=>Heap.get?_push_of_some _ e;show fK (gb (ip iU (_,A,rfl) iV (Tim.sort_q A (by rw[aM];cbv) (a31 M j) U Y R N λout G E=>(_,rfl,?_)) (jm _)));let l:=jo (out:=out.toArray) A;let(n,l):=l;let J:a.map Value.ref=(a.zip z).map λy=>Value.ref y.1:=by
  rw[show (λy:Addr×List Pz=>Value.ref y.1)=Value.ref∘Prod.fst from rfl,<- aX,List.map_fst_zip (by let:=j.1;cbv)]
 rw[J]at G;let(d,B,rfl):=perm_lift G;let hcl:d.length=a.length:=by let:=B.length_eq;rw[dI,j.1,Nat.min_self]at this;rw[this,j.1]
 let D:∀y∈d,rowQ (g.push (seqObj "list" (a.map Value.ref).toArray 0)) (Value.ref y.1)=y.2:=λy C=>by
  let(i,hi,e):=dX (B.mem_iff.mp C);rw[dI]at hi;rw[fw]at e;let(c,hH):=j.2 i y.1 y.2 (by grind) (by grind);show a1M (a9v M hH)
 let T:(d.map (·.2)).Pairwise (λx y=>ltT y x=js):=by
  let e:(d.map λy=>Value.ref y.1).map (rowQ (g.push (seqObj "list" (a.map Value.ref).toArray 0)))=d.map (·.2):=by
   rw[aX];show b7 λy C=>D y C
  rw[e]at E;show E
 show fS (_,rfl,?_);show(.ref g.objs.size,_,v.laid (t':=s.toks) (λb o e=>by
  let f:=Heap.lt_size e;rw[jp (aZ f) (by rw[Heap.size_push];show cU f)];show Heap.get?_push_of_some _ e) (aN _) (show ObjOk X.prog X.w _ _ _ (.lst _) from (by rw[aM,fW];cbv,d.map (λy=>Value.ref y.1),n,by
   let:=a30 (d.map (·.1))
   rw[aX,aX]at this;show this,↑l)),rfl,q _ d (v.hok.fresh (aN _)) B T)
end
section
open Tim
noncomputable def rowW(x:List Pz×List Z):Z:=.tup (x.1.map ptZ++[.tup x.2])
theorem a5k{K:Fg}:∀{rows:List (List Pz×List Z)}{vs:List V},Reps K H (rows.map rowW) vs->∃bs:List Addr,vs=bs.map V.ref/\b32 H bs (rows.map (·.1))/\∀(i:Nat) b x,bs[i]?=bN b->rows[i]?=bN x->Rep K H (rowW x) (.ref b)
 |[],vs,h=>by
  rw[bt,a0f]at h;subst h;show([],rfl,(rfl,λi b x e=>by simp at e),λi b x e=>by simp at e)
 |x::rows,vs,h=>by
  let(v,r,rfl,d,g):=h;let q:=d;unfold rowW at d;rw[a0S]at d;let(a,f,rfl,e,o):=d;let(m,rfl,(s,t),u):=a5k g;let n:∃c,f=x.1.map ptV++[V.ref c]:=by
   let:∀{j:List Pz}{f:List V},Reps K H (j.map ptZ++[.tup x.2]) f->∃c,f=j.map ptV++[V.ref c]:=by
    ext j
    induction j with
    |nil=>
     ext f h;let(v,r,rfl,d,g):=h;rw[a0f]at g;rw[a0S]at d;let(c,_,rfl,_):=d;show(c,by rw[g];rfl)
    |cons p j ih=>
     ext f h;let(v,r,rfl,d,g):=h;let(c,rfl):=ih g;show(c,by rw[rep_pt.mp d];rfl)
   show this o
  let(c,rfl):=n;show(a::m,rfl,(by rw[aS,s];simp,λi b y l k=>?_),λi b y l k=>?_)
  .cases i with
   |zero=>cases l;cases k;show(c,e)
   |succ i=>show t i b y ↑l ↑k
  .cases i with
   |zero=>cases l;cases k;show q
   |succ i=>show u i b y ↑l ↑k
def a6Q:List Z->Hq->K3->Prop:=λxs G R=>match xs with
 |[.ref p]=>∃(rows:List (List Pz×List Z))(m:Nat),G p=bN (.lst (rows.map rowW))/\rows.length<=100000/\(rows.map (·.1)).Nodup/\a0X (rows.map (·.1))/\(∀x∈rows,x.1.length=m)/\(∀x∈rows,∀y∈rows,cmpT x.1 y.1=cp)/\∀(t:Addr)(os:List (List Pz×List Z)),G t=ce->os.Perm rows->(os.map (·.1)).Pairwise (λx y=>ltT y x=js)->R (.ref t) (put G t (.lst (os.map rowW)))
 |_=>False
def a9w:a1m X (.builtin "sorted") a6Q:=a0W a5j λxs H Q d=>d.un λC G R S q h N=>by
 match C,h with
 |[.ref p],h=>
  let(v,rfl,r):=S.one;let(a,m,e,k,nd,D,I,L,h):=h;let(vs,M,J):=q _ _ e;let(g,rfl,A,T):=a5k J;let U:g.length=a.length:=by let:=A.1;o_head this
  let c:∀{P:List Pz->Prop},(∀x∈a,P x.1)->∀y∈a.map (·.1),P y:=λh y s=>by grind
  show(p,g,a.map (·.1),m,by rw[r],SqL.of M,A,by rw[U];show k,nd,D,c I,c λx d=>c λy s=>L x d y s,λt ys f n w=>?_);let W:g.zip (a.map (·.1))=(g.zip a).map λz=>(z.1,z.2.1,):=by rw[List.zip_map_right];rfl
  rw[W]at n;let(b,l,rfl):=perm_lift n;let B:(b.map (·.2)).Perm a:=by
   let:=l.map (·.2)
   rw[List.map_snd_zip (by cbv)]at this;show this
  let F:Reps X.K H ((b.map (·.2)).map rowW) (b.map λz=>V.ref z.1):=by
   let j:∀z∈b,Rep X.K H _ (.ref z.1):=λz k=>by
    let(i,hi,e):=dX (l.mem_iff.mp k);rw[dI]at hi;rw[fw]at e;show T i z.1 z.2 (by rw[<- e];show bf (by cbv)) (by rw[<- e];show bf (by cbv))
   clear l n w B
   induction b with
   |nil=>rw[bt,bt,bt,a0f]
   |cons z b ih=>
    show(_,_,rfl,j z (.head _),ih λu Y=>j u (.tail _ Y))
  let E:=h t (b.map (·.2)) (q.out f) B (by rw[aX];rw[aX]at w;show w);rw[aX];show N _ _ _ _ E (by rw[a0l]) (q.set (.new f) (_,a0c,Reps.mono (.new f) _ _ F)) (.new f)
def a9x(e:G p=bN (.lst (rows.map rowW)))(z:rows.length<=100000)(nd:(rows.map (·.1)).Nodup)(hf:a0X (rows.map (·.1)))(hm:∀x∈rows,x.1.length=jt)(hc:∀x∈rows,∀y∈rows,cmpT x.1 y.1=cp)(h:∀(t:Addr)(os:List (List Pz×List Z)),G t=ce->os.Perm rows->(os.map (·.1)).Pairwise (λx y=>ltT y x=js)->R (.ref t) (put G t (.lst (os.map rowW)))):a6Q [.ref p] G R:=(rows,jt,e,z,nd,hf,hm,hc,h)
end
section
variable{K:Fg}{mg:Str->Option Value}{base:Heap}
def b33(S:FnScope N ps scope)
    (hbind:∀us:List Value,us.length=ps.length->g9 (PySem.W.kla_fn name qual params body scope [] pm (.ref c') ctv) (us,[])=pure (ps.zip us))
 (hr:Room k A) (e0:Env0 P w K mg base A outer s H) (r:Vals vs us) (hl:vs.length=ps.length)
    (ho:s.heap.get? f=bN (PySem.W.kla_obj name qual params body scope [] pm c' ctv)) (hcd:s.heap.CodeRec (.ref c') qual)
 (ht:PE (cxOf CX0 P w K mg base N qual scope f (.ref c') A outer s H E0).nox body t) (hq:t (start N vs) H Q) :
    gG (model P w) A (.call (.ref f) (us,[])) (CR CX0 outer P w H s Q E0) s:=by
  let c:=e0.mod.nolimit.keeps λb o e=>(e0.bs b o e).1;let a:∀y∈ps.zip us,scope.names.lookup y.1=bN .local\/(scope.names.lookup y.1=bN .cell/\((iH (s.heap.objs.size+1) scope.names []).lookup y.1).isSome=cp):=λ(n,v) h=>by
    let q||q:=S.par n (ci h).1
    . show .inl q
    . show .inr (q,PySem.W.cellsFrom_some _ _ _ (.inl q))
  show PySem.W.kla_callFunE hr.depth ho rfl S.co S.gen rfl hcd ?_;rw[hbind us (by rw[<- r.length];show hl)];show fS ?_;show wpAny_newFunctionEnv_cells S.kind a λp j d x=>?_;subst j;show(c.keeps x.toInCall.keep,PySem.W.kla_codeExpr ?_);let I:Inv (cxOf CX0 P w K mg base N qual scope f _ A outer s H E0) [] _ H d:=a4V S hr.hd e0 hl r x;show fY (ht [] d _ H Q (I.wish _) hq) (λu g (v,l,J,i,q)=>(v,l,J.os,J.bare,J.base,J.hok,i,q)) λe g m=>m.elim
end
def b09(r:h.CodeRec (.ref c) q):∃oc,h.get? c=bN oc/\ObjOk Pr w H h c (a2e c q):=by
 let(s,o,b,t,e,g,d,x):=r;cases e;show(o,g,(c,o,b,t,rfl,g,d,x),(o,g),λu v (p,f,a,m,l,i,n,j) k=>by cases l;show(c,f,a,m,rfl,k _ i,n,j))
def b1a(I:Inv X pins σ H s)(hT:Tab H jt lpos q)(hq:q=X.env.qual++"<lambda>")
  (hdef:jr params X.env=([],[],)) (hcl:iw scope X.env=pure []) (hcode:X.env.code=.ref c) (hhd:PySem.W.codeHdIn X.K c jt=cp) (hgP:fX≠jt) (hb:X.base.BuiltinsAt X.mg jt)
  (h:∀(f c':Addr)(H':Hp)(pm ctv:Value)(s1:Shared)(oc:Obj),Inv X (pins++[(f,PySem.W.kla_obj "<lambda>" q params body scope [] pm c' ctv,)]) σ H' s1->H' c'=bN (.frz oc (a2e c' q))->Tab H' jt lpos q->(∀b u,H b=bN u->b≠jt->H' b=bN u)->Q (.ref f) s1) :
  wpAny (model X.prog X.w) X.A (eval (.Lambda params body scope lpos) X.env) Q E s:=by
 show PySem.W.kla_eval hdef ?_;rw[<- hq];let(ps,k,ht):=hT;let oP:=I.hok jt _ k;let hg:=I.ok.mod.glob.keeps I.bk;let S:∀(N:Hp) L (f:Addr) (o:Obj),Inv X pins σ N L->L.heap.get? f=bN o->N f=ce->s.heap.objs.size<=f->_->Inv X (pins++[(f,o,)]) σ N L:=λN L f o J e n l d=>by
  show J.pins_of λp F=>?_;let F||F:=aO.mp F
  .show J.pin p (bQ _ F)
  .rw[aR.mp F];show(e,n,dk (bB I.lt l),I.nofs l,d)
 let rfl||(c0,g,rfl,hc):=ht
 .show PySem.W.kla_makeFunction hcl I.ok.glob hg hcode (PySem.W.codeHd_of_K I.kIn hhd) oP trivial rfl hgP (hb.keeps I.bk) λa t j V hx x R Y T=>?_;generalize hfo:PySem.W.kla_obj "<lambda>" q params body scope [] _ a t=fo;let hfd:∀v,fo.data≠.cell v:=λv z=>by rw[<- hfo]at z;cases z
  let hn:=I.hok.fresh x;let hcP:=a0p k hn |>.symm;let G:∀b o,b≠jt->s.heap.get? b=bN o->(j.push fo).get? b=bN o:=λb o hb e=>Heap.get?_push_of_some _ (hx b o hb e);let M:∀b,H b=ce->b≠jt:=λb e z=>by rw[z,k]at e;cases e
  let nc:∀b o,s.heap.get? b=bN o->b≠a:=λb o e=>aZ (bB (Heap.lt_size e) x);let(g,D,B):=b09 (Pr:=X.prog) (w:=X.w) (H:=upd (upd H jt (.tbl (#[]++#[rawInt lpos.line,rawInt lpos.col,.ref a]))) a (.frz default (a2e a q))) (Y.push fo);let m:∀b u,H b=bN u->b≠jt->upd (upd H jt (.tbl (#[]++#[rawInt lpos.line,rawInt lpos.col,.ref a]))) a (.frz g (a2e a q)) b=bN u:=λb u e hb=>by
   rw[a0b (a0p e hn),a0b hb];show e
  let U:upd (upd H jt (.tbl (#[]++#[rawInt lpos.line,rawInt lpos.col,.ref a]))) a (.frz g (a2e a q)) jt=bN (.tbl (#[]++#[rawInt lpos.line,rawInt lpos.col,.ref a])):=by rw[a0b hcP.symm,a0c]
  let J:Inv X pins σ (upd (upd H jt (.tbl (#[]++#[rawInt lpos.line,rawInt lpos.col,.ref a]))) a (.frz g (a2e a q))) { s with heap:=j.push fo,toks:=V }:=by
   show I.un (λb o e n _ _=>G b o (M b n) e,λb o e n _ _=>(o.slots,G b o (M b n) e),λb o e n _=>by rw[a0b (nc b o e),a0b (M b n)];show n,λb o e _=>?_,λb xs e=>m b _ e λz=>(by rw[z,k]at e;cases e),λb o u e=>m b _ e λz=>(by rw[z,k]at e;cases e),λb ps e=>?_) λb u e=>?_
   .by_cases hb:b=jt
    .rw[hb];show(_,Heap.get?_push_of_some _ T)
    .show(o,G b o hb e)
   .by_cases hb:b=jt
    .grind
    .show(#[],by rw[eh];show m b _ e hb)
   .by_cases hb:b=a
    .subst hb;rw[a0c]at e;cases e;show(D,B)
    .by_cases hb2:b=jt
     .subst hb2;rw[U]at e;cases e;show Heap.get?_push_of_some _ T
     .rw[a0b hb,a0b hb2]at e;show (I.hok b u e).stay (λd v hd q=>G d v ?_ q) (λd r=>m d _ r λz=>by rw[z,k]at r;cases r) λd xs r=>m d _ r λz=>by rw[z,k]at r;cases r
      let z||z:=hd
      .rw[z];show hb2
      .grind
  let gf:(j.push fo).get? j.objs.size=bN fo:=Heap.get?_push_size _ (by rw[<- hfo];rfl);let C:=cF (cj x R);let nf:upd (upd H jt (.tbl (#[]++#[rawInt lpos.line,rawInt lpos.col,.ref a]))) a (.frz g (a2e a q)) j.objs.size=ce:=by
   rw[a0b (dk R),a0b (M _ (I.hok.fresh C))];show I.hok.fresh C
  let J2:=S _ _ _ fo J gf nf C hfd;rw[<- hfo]at J2;rw[<- hfo];show h _ a _ _ t _ g J2 a0c (_,U,.inr (a,g,by simp,a0c)) m
 .show PySem.W.kla_makeFunctionHit hcl I.ok.glob hg hcode (PySem.W.codeHd_of_K I.kIn hhd) oP trivial (cv:=.ref c0) (by simp[codeAmong,rawInt]) (hb.keeps I.bk) λt j V kp sz=>?_;let J:Inv X pins σ H { s with heap:=j.push (PySem.W.kla_obj "<lambda>" q params body scope [] ((X.mg "__name__").getD .none) c0 t),toks:=V }:=I.kept λb o e=>Heap.get?_push_of_some _ (kp b o e);show h _ c0 H _ t _ g (S _ _ _ _ J (Heap.get?_push_size _ rfl) (I.hok.fresh sz) sz λv z=>by cases z) hc (_,k,.inr (c0,g,rfl,hc)) λb u e _=>e
section
variable{pl:List (Addr×Obj)}{σ:St}{h':Heap}{b:Addr}
def Inv.repin(I:Inv X (pl++[(b,o,)]) σ H s)(fb:FpOk X pl H b)(k:∀c u,c≠b->s.heap.get? c=bN u->h'.get? c=bN u)(g:h'.get? b=bN o')(d:∀v,o'.data≠.cell v):Inv X (pl++[(b,o',)]) σ H { s with heap:=h',toks:=t' }:=by
 let(f,e,j,l,h,i):=fb;let J:Inv X pl σ H { s with heap:=h',toks:=t' }:=I.unpinned.turned k f e l h i;show J.pins_of λp a=>?_;let a||a:=aO.mp a
 .show J.pin p (bQ _ a)
 .rw[aR.mp a];show(g,f,e,j,d)
def Inv.adopt(I:Inv X pl σ H s)(fb:FpOk X pl H b)(k:∀c u,c≠b->s.heap.get? c=bN u->h'.get? c=bN u)(new:ObjOk X.prog X.w (upd H b o) h' b o)(th:∃u,h'.get? b=bN u):Inv X pl σ (upd H b o) { s with heap:=h',toks:=t' }:=by
 let(A,g,D,B,j,h):=fb;let f:∀c u,H c=bN u->c≠b:=λc u e z=>by rw[z,A]at e;cases e
 show I.step (ch:=[b]) (λc a=>?_) (λc u _ _ a e _=>k c u ↑a e) (λc u _ _ a e _=>(u.slots,k c u ↑a e)) (λc u a _ n=>by rw[a0b ↑a];show n) (λc u a e=>(u,k c u ↑a e))
  (λc x e=>by rw[a0b (f c _ e)];show e) (λc _ _ e=>by rw[a0b (f c _ e)];show e) (λc C e=>(#[],by rw[a0b (f c _ e),eh];show e)) (λm t=>?_) (λc u e=>?_) I.bare
 .rw[aR.mp a];show(B,g,j,h)
 .let(u,l,i,p,r):=t;show(u,l,i,k _ u (λz=>g z.symm) p,r)
 .by_cases hb:c=b
  .subst hb;rw[a0c]at e;cases e;show new
  .rw[a0b hb]at e;show (I.hok c u e).stay (λd v y q=>k d v ?_ q) (λd q=>by rw[a0b (f d _ q)];show q) λd x q=>by rw[a0b (f d _ q)];show q
   let z||z:=y
   .rw[z];show hb
   .show f d _ z
end
section
variable{f:Addr}
abbrev lObj(xs:Array Value)(n:Nat):Obj:=seqObj "list" xs n
def a4p(xs:Array Value)(n:Nat):∀v,(lObj xs n).data≠.cell v:=λv z=>by cases z
def FpOk.re(f:FpOk X pl H b)(h:H' b=ce):FpOk X pl H' b:=(h,f.2)
end
def perm_lift{α β:Type}{g:α->β}:∀{l:List β}{m:List β},l.Perm m->∀{T:List α},m=T.map g->∃T':List α,T'.Perm T/\l=T'.map g:=by
 ext l m h
 induction h with
 |nil=>ext T e;show(T,.refl _,e)
 |cons x h ih=>
  ext T e;cases T with
  |nil=>cases e
  |cons a T=>
   injection e with e1 e2
   let(T',p,q):=ih e2;show(a::T',p.cons a,by rw[aV,<- q,e1])
 |swap x y l=>
  ext T e
  match T,e with
  |a::b::T,e=>
   injection e with e1 e2
   injection e2 with e2 e3
   show(b::a::T,.swap a b T,by rw[aV,aV,<- e1,<- e2,<- e3])
 |trans h1 h2 ih1 ih2=>
  ext T e;let(T2,d,c):=ih2 e;let(T1,i,f):=ih1 c;show(T1,i.trans d,f)
theorem a6R:∀{xs:List V}{us:List Value},Vals xs us->∀p∈xs.zip us,RelV p.1 p.2
 |_,_,.nil,p,h=>by simp at h
 |_,_,.cons r t,p,h=>by
  let rfl||h:=aT.mp h
  .cbv
  .show a6R t p h
def b6H(P:Addr)(H H':Hp):Prop:=∀b u,H b=bN u->b≠P->H' b=bN u
def b6I(ha:PE X a ta)(he:fP [a] X.env=(js,eval a X.env,)::fP [] X.env:=by rfl):PA X [a] (fun σ H Q=>ta σ H λv H1=>Q [v] H1):=by
 ext c b s σ H Q I h;show a8d ha b1O he c b s σ H Q I h
structure LamAt (X:Cx) (params:ir) (body:Expr) (scope:Scope) (P:Addr) (q x:Str) (N:List Str):Prop where
 sc:FnScope N [x] scope
 qn:q=X.env.qual++"<lambda>"
 df:jr params X.env=([],[],)
 cl:iw scope X.env=pure []
 cd:∃c,X.env.code=.ref c/\PySem.W.codeHdIn X.K c P=cp
 gP:fX≠P
 bi:X.base.BuiltinsAt X.mg P
 bd:∀(pm ctv:Value)(c':Addr)(us:List Value),us.length=1->g9 (PySem.W.kla_fn "<lambda>" q params body scope [] pm (.ref c') ctv) (us,[])=pure ([x].zip us)
def one1(Q:VK):List V->Hp->Prop:=λvs H=>match vs with |[v]=>Q v H |_=>False
def b34(h:one1 Q vs H):∃v,vs=[v]/\Q v H:=by
 match vs,h with
 |[v],h=>show(v,rfl,h)
theorem a6S{K:Fg}:∀{ws:List Z}{vs:List V},Reps K H ws vs->∀p∈ws.zip vs,Rep K H p.1 p.2
 |[],vs,_,p,h=>by simp at h
 |w::ws,vs,r,p,h=>by
  let(v,c,rfl,a,b):=r;let rfl||h:=aT.mp h
  .cbv
  .show a6S b p h
def b35{K:Fg}(hP:H jt=bN (.tbl ps))(k:b6H jt H H2):TK K H H2:=
 (λb a e=>k _ _ e λz=>(by simp_all),λb a e=>by
  let(o,e)||e:=e
  .show .inl (o,k _ _ e λz=>by rw[z,hP]at e;cases e)
  .show .inr e,λb o u e=>k _ _ e λz=>by rw[z,hP]at e;cases e)
noncomputable def ItI(o:Obj)(a:Addr)(kvs:List (Key×V)):It:=
 (λi H=>H a=bN (.frz o (.dK kvs))/\i<kvs.length,λi H x H'=>∃T p,H T=ce/\kvs[i]?=bN p/\x=.ref T/\H'=upd H T (.tup [kV p.1,p.2]),λi H=>H a=bN (.frz o (.dK kvs))/\kvs.length<=i)
def b36:∀{kvs:List (Key×V)}{vs:List (Key×Value)}{i:Nat}{p:Key×V},KV kvs vs->kvs[i]?=bN p->∃q,vs[i]?=bN q/\p.1=q.1/\RelV p.2 q.2:=by
 ext a
 induction a with
 |nil=>ext b i p h e;simp at e
 |cons p0 a ih=>
  ext b i p h e;cases h with
  |cons h1 h2=>
   cases i with
   |zero=>cases e;show(_,rfl,h1)
   |succ i=>show ih (i:=i) h2 ↑e
def b2i{X:Cx}{pins:List (Addr×Obj)}{σ:St}{H:Hp}{s:Shared}{a:Addr}{o:Obj}{kvs:List (Key×V)}{es:Array ig}{ep:Nat}(I:Inv X pins σ H s)(hd:o.data=.dict es ep)(ha:H a=bN (.frz o (.dK kvs))):∃vs,KV kvs vs/\vs.length=kvs.length/\(a==gj)=js/\s.heap.DictAt (a0n X.prog X.w) a vs ep:=by
 let(g,hz,hsm,vs,kv,dof):=(show ObjOk X.prog X.w H s.heap a (.frz o (.dK kvs)) from I.hok a _ ha);show(vs,kv,a49 kv,hsm,?_);let(o',es',ep',h1,h2,h3,h4):=dof;rw[g]at h1;cases h1;rw[hd]at h3;cases h3;show(o,es,g,h2,hd,h4)
def a3f{P:fO}{w:World}{A:Around}{E:Value->Shared->Prop}{s:Shared}{it d:Addr}{i n ep:Nat}{ok ov:Value}{Q:Value->Shared->Prop}(hit:IsItemIter s.heap it d i n ep ok ov)(h:Q (.ref it) s):wpAny (model P w) A (pyIter (.ref it)) Q E s:=by
 let hT:s.TypeIs (.ref it) "dict_itemiterator":=(_,hit,rfl);show wpAny_pyIter_slot hT F.slot_dict_itemiterator_iter (ip (b:=fU.«dict_keyiterator.__iter__») F.slot_dict_itemiterator_iter hT (entryFor_alias (id':="dict_keyiterator.__iter__") (by kernel_rfl) (by decide +kernel) (by decide +kernel) (by kernel_rfl)) ?_ (by unfold argsOk;kernel_rfl))
 change wpAny _ _ (ret (.ref it)) _ _ s
 show fS (_,rfl,"dict_itemiterator",_,hT,F.slot_dict_itemiterator_next.lookup,h)
theorem a7B{P:fO}{w:World}{K:Fg}{elts:List Expr}{x1}{tpos:Pos}(a it:Addr){o:Obj}(kvs:List (Key×V)){es:Array ig}{ep:Nat}(hd:o.data=.dict es ep) :
  Turn P w K (.Tuple elts x1 tpos) (ItI o a kvs) [it] it (λi h=>∃ok ov,IsItemIter h it a i kvs.length ep ok ov) where
 mem:=by simp
 obj:=λi h st b hb=>by
  let e:b=it:=↑hb
  subst e;let(ok,ov,st):=st;show(_,st,λv z=>by cases z)
 keep:=λi h h' st k=>by
  let(ok,ov,st):=st;show(ok,ov,k it (by simp) _ st)
 item:=by
  ext X hP hw hK hc i pins s σ H E I hf st hg;subst hP hw hK;let(ok,ov,st):=st;let(ha,hi):=hg;let(vs,kv,hl,hsm,dat):=b2i I hd ha;obtain⟨p,hp⟩:∃p,kvs[i]?=bN p:=(kvs[i],bf hi);let((k,v),hq,e1,e2):=b36 kv hp;show wpAny_pyNext_items_item (by rw[hl];show st) dat hq λkey h' hk out tup sz kp=>(_,rfl,?_);show wpAny_letOwnedTupleGo_items (s:={ s with heap:=h' }) out λh2 st2 sb=>?_;let hlt:it<s.heap.objs.size:=Heap.lt_size st;let nT:it≠s.heap.objs.size:=aZ hlt;rw[hl]at st2;show(.ref s.heap.objs.size,upd H s.heap.objs.size (.tup [kV p.1,p.2]),?_,rfl,(_,p,I.hok.fresh (aN _),hp,rfl,rfl),(key,v,st2),λb hb=>?_)
  .change Inv X pins σ (upd H s.heap.objs.size (.tup [kV p.1,p.2])) { s with heap:=h2 }
   show I.turnedT (t':=s.toks) (ch:=[it]) (us:=[key,v]) (λb hb=>hf b hb) (λb o hb e=>?_) (aN _) (.cons (by rw[e1];show b6C hk) (.cons e2 .nil)) (by change 2<=_;rw[fW];cbv) ?_
   .let hb':b≠it:=↑hb
    show sb.extBut b o hb' (kp b o hb' e)
   .show(_,sb.extBut _ _ nT.symm tup,rfl,_,rfl)
  .let e:b=it:=↑hb
   subst e;rw[a0b nT];show (hf b (by simp)).1
 done:=by
  ext X hP hw hK hc i pins s σ H E I hf st hg;subst hP hw hK;let(ok,ov,st):=st;let(ha,hi):=hg;let(vs,kv,hl,hsm,dat):=b2i I hd ha;let(f0,f1,f2,f3,f4,f5):=hf it (by simp);show wpAny_pyNext_items_end (I.ok.hd hc) (by rw[hl];show st) dat (fq (by cbv)) λh' eb=>(rfl,I.turned (t':=s.toks) (λb o hb e=>eb b o hb e) f0 f1 f3 f4 f5)
 self:=λ_ _ _ _ _ st h=>by let(ok,ov,st):=st;show a3f st h
section
variable{o:Expr}{to:TE}{tpos:Pos}{elts:List Expr}{x1:_}
def iDv(J:Obj->Addr->List (Key×V)->It)(tl:TE):TI:=fun σ H R=>tl σ H λx H1=>∃a kvs,x=.ref a/\((H1 a=bN (.dK kvs)/\∀o,R (J o a kvs) (upd H1 a (.frz o (.dK kvs))))\/∃o,H1 a=bN (.frz o (.dK kvs))/\R (J o a kvs) H1)
def b1b(ho:PE X o to)(hbase:gQ o "items" X.env (eval o X.env)=eval o X.env:=by rfl)(hline:(apos.endLine==pos.line)=cp:=by rfl):PI X (.Tuple elts x1 tpos) (.Call (.Attribute o "items" apos) [] [] pos) (iDv ItI to):=by
 ext pins s σ H R I h;show wpAny_Call_method (T:="dict") (id:="dict.items") hbase rfl hline F.plainAttrs_dict F.slot_dict_items F.type_dict_items (thn (ho pins s σ H _ I h) λv s1 (x,H1,I1,r1,q1)=>?_);let(a,kvs,e,q):=q1;subst e;cases r1;obtain⟨o,H2,I2,ea,q⟩:∃o H2,Inv X pins σ H2 s1/\H2 a=bN (.frz o (.dK kvs))/\R (ItI o a kvs) H2:=by
  let(ea,q)||(o,ea,q):=q
  .let(o,I2):=I1.freeze ea;show(o,_,I2,a0c,q o)
  .show(o,H1,I1,ea,q)
 let(g,hz,hsm,vs,kv,dof):=(show ObjOk X.prog X.w H2 s1.heap a (.frz o (.dK kvs)) from I2.hok a _ ea);show(dof.typeIs,dof.mapOf.noDict,?_)
 change wpAny _ _ (gR pos (.builtin "dict.items") [.ref a] [] []) _ _ _
 show method_meetsIn F.slot_dict_items F.entry_dict_items rfl (PySem.evalArgs_none (rfl,dof.typeIs,F.args_dict_items_1 _,_,meets_dict_items (a0n X.prog X.w) a hsm,(vs,dof),?_));let(ep,dat):=dof.dictAt;let dat':=dat;let(o',es,g',_,hd,_):=dat';rw[g]at g';cases g';let hl:=a49 kv;show wpAny_pyIter_items (s:={ s1 with heap:=s1.heap.push { cls:=.type "dict_items",data:=.fields #[.ref a] } }) (v:=s1.heap.objs.size) (_,Heap.get?_push_size _ rfl,rfl,rfl) (Heap.DictAt.at dat λo e=>Heap.get?_push_of_some _ e) ?_;let I3:Inv X pins σ H2 { s1 with heap:=s1.heap.push { cls:=.type "dict_items",data:=.fields #[.ref a] } }:=I2.kept (t':=s1.toks) λb o e=>Heap.get?_push_of_some _ e;show(_,[_],_,_,H2,rfl,I3.kept (t':=s1.toks) λb o e=>Heap.get?_push_of_some _ e,a7B a _ kvs hd,(.none,.none,by rw[<- hl];show Heap.get?_push_size _ rfl),λb hb=>?_,q);rw[aR.mp hb];show I3.fpOk (aN _) (I3.hok.fresh (aN _))
end
def wkDv(f:Key×Z->Z)(x:Z)(G:Hq)(R:List Z->(Hq->Prop)->Hq->Prop):Prop:=match x with
 |.ref a=>∃kvs,(G a=bN (.dK kvs)\/G a=bN (.dF kvs))/\R (kvs.map f) (λ_=>True) (put G a (.dF kvs))
 |_=>False
noncomputable def fIt:Key×Z->Z:=λp=>.tup [keyW p.1,p.2]
def iDvZ(f:Key×Z->Z)(tl:E3):I3:=fun σ G R=>tl σ G λx G1=>wkDv f x G1 R
def a55{us:List (Key×V)}{kvs:List (Key×Z)}{K:Fg}(hn:us.map (·.1)=kvs.map (·.1))(rr:Reps K H (kvs.map (·.2)) (us.map (·.2))){i:Nat}(e:kvs[i]?=bN p):∃u,us[i]?=bN u/\u.1=p.1/\Rep K H p.2 u.2:=by
 let(v,a,c):=rr.get (by rw[aU,e];rfl);rw[aU]at a;cases hu:us[i]? with
 |none=>rw[hu]at a;cases a
 |some u=>
  rw[hu]at a;cases a;let b:(us.map (·.1))[i]?=bN u.1:=by rw[aU,hu];rfl
  rw[hn,aU,e]at b;show(u,rfl,(bN.inj b).symm,c)
def a56{K:Fg}{a:Addr}{o:Obj}{us:List (Key×V)}{kvs:List (Key×Z)}{H0:Hp}(e:H0 a=bN (.frz o (.dK us)))(hn:us.map (·.1)=kvs.map (·.1))(rr:Reps K H0 (kvs.map (·.2)) (us.map (·.2))):a3w K (kvs.map fIt) (λ_=>True) (ItI o a us) H0:=λi G H hg t ok hi=>by
 let e1:=t.frd _ _ _ e;let hl:us.length=kvs.length:=by let:=congrArg bz hn;o_head this
 rw[aM]at hi;show(λh=>(e1,by rw[aM]at h;cbv),λw hw=>?_);rw[aU]at hw;cases hk:kvs[i]? with
 |none=>rw[hk]at hw;cases hw
 |some p=>
  rw[hk]at hw;cases hw;let hlt:=(bh.mp hk).1;show((e1,by cbv),λx H' hy=>?_);let(T,u,hT,hu,rfl,rfl):=hy;let(u',hu',ek,rv):=a55 hn rr hk;rw[hu]at hu';cases hu';show(?_,hg.hid hT,.new hT);unfold fIt;rw[a0S];show(T,_,rfl,a0c,.cons ?_ (.cons ((rv.mono t).mono (.new hT)) .nil));rw[ek];show a6I _
section
variable{tg l:Expr}{tl:E3}
def b6J{J:Obj->Addr->List (Key×V)->It}{f:Key×Z->Z}(hJ:∀{K:Fg}{a:Addr}{o:Obj}{us:List (Key×V)}{kvs:List (Key×Z)}{H0:Hp},H0 a=bN (.frz o (.dK us))->us.map (·.1)=kvs.map (·.1)->Reps K H0 (kvs.map (·.2)) (us.map (·.2))->a3w K (kvs.map f) (λ_=>True) (J o a us) H0)
  (h:PI X tg l (iDv J (low X.K tl))):QI X tg l (iDvZ f tl):=a5R h fun τ H R2 hx=>hx.un fun σ G R hs hg h up=>by
 show(σ,G,_,hs,hg,h,λw G1 v H1 h1 rv hg1 t1=>?_);cases w with
 |ref a=>
  rw[a0l]at rv;let(kvs,e,h1):=h1;let e||e:=e
  .let(us,e',hn,rr):=hg1 _ _ e;show(a,us,rv,.inl (e',λo=>?_));let tk:TK X.K H1 (L2.upd H1 a (.frz o (.dK us))):=.dK e';show up _ _ _ _ _ h1 (hJ a0c hn (rr.mono tk)) (hg1.set (o:=.dF kvs) tk (o,us,a0c,hn,rr.mono tk)) (t1.trans tk)
  .let e0:=e;let(o,us,e',hn,rr):=hg1 _ _ e;show(a,us,rv,.inr (o,e',?_));let eG:put G1 a (.dF kvs)=G1:=by
    funext b
    unfold put
    split
    .next hb=>rw[hb,e0]
    .rfl
   rw[eG]at h1;show up _ _ _ _ _ h1 (hJ e' hn rr) hg1 t1
 |_=>show aP h1
def a6T{o:Expr}{apos pos tpos:Pos}{elts:List Expr}{x1:_}(ho:QE X o tl)(hbase:gQ o "items" X.env (eval o X.env)=eval o X.env:=by rfl)(hline:(apos.endLine==pos.line)=cp:=by rfl):QI X (.Tuple elts x1 tpos) (.Call (.Attribute o "items" apos) [] [] pos) (iDvZ fIt tl):=b6J a56 (b1b ho.p hbase hline)
def b6K{f:Key×Z->Z}{σ:S3}{G:Hq}{R:List Z->(Hq->Prop)->Hq->Prop}(h:tl σ G λx G1=>wkDv f x G1 R):iDvZ f tl σ G R:=h
def b2j{f:Key×Z->Z}{p:Addr}{kvs:List (Key×Z)}{G:Hq}{R:List Z->(Hq->Prop)->Hq->Prop}(e:G p=bN (.dK kvs)\/G p=bN (.dF kvs))(h:R (kvs.map f) (λ_=>True) (put G p (.dF kvs))):wkDv f (.ref p) G R:=(kvs,e,h)
end
namespace Tim
open PySem.W
def RowIn.up(r:RowIn h v x)(k:∀b o,h.get? b=bN o->h'.get? b=bN o):RowIn h' v x:=by
 let(a,o,c,n,e,d,r):=r;show(a,o,c,n,e,k _ _ d,r)
end Tim
abbrev NsG(K:Fg)(x:Str)(v:Option Value):Prop:=PySem.W.nsIn K fX x=bN v
def Br(K:Fg)(mg:Str->Option Value):Prop:=∀x v,NsG K x v->mg x=v
def b8W{K:Fg}(X:K.In h)(G:h.Ns fX mg):Br K mg:=λ_ v e=>match v,e with
 |some _,e=>PySem.W.mg_of X G e
 |none,e=>PySem.W.mg_none_of X G e
def FX(K:Fg)(x:Str)(st:Stmt):Prop:=∃f d,NsG K x (bN (.ref f))/\Fun K x x st f d
def MX(K:Fg)(C:Addr)(m q:Str)(st:Stmt):Prop:=∃f d,Meth K C m f/\Fun K m q st f d
def AllF(K:Fg)(tp:Nat->Stmt)(l:List (Str×Nat)):Prop:=∀(i:Nat)(r:Str×Nat),l[i]?=bN r->FX K r.1 (tp r.2)
def AllM(K:Fg)(tp:Nat->Stmt)(C:Addr)(l:List (Str×Str×Nat×Nat)):Prop:=∀(i:Nat)(r:Str×Str×Nat×Nat),l[i]?=bN r->MX K C r.1 r.2.1 (a20 (tp r.2.2.1) r.2.2.2)
def AllB(K:Fg)(l:List Str):Prop:=∀(i:Nat) x,l[i]?=bN x->NsG K x ce
def AllN(K:Fg)(C:Addr)(l:List Str):Prop:=∀(i:Nat) x,l[i]?=bN x->NoAttr K C x
section
variable{K:Fg}{tp:Nat->Stmt}{x q:Str}{n j:Nat}{f C:Addr}{oc:Value}{od an:Option Addr}{osl:Array (Option Value)}{kV doc pm cdv ct:Value}
def af0:AllF K tp []:=λ_ _ h=>nomatch h
def af1(a:PySem.W.nsIn K fX x=bN (bN (.ref f)))(e:K.lookup f=bN (oc,od,.func (PySem.W.fnOf x x (a1B (tp n)) (a0R (tp n)) (a0i (tp n)) .none kV doc pm an cdv ct),osl))
  (c:PySem.W.codeIn K cdv x=cp) (k:PySem.W.keepIn K (.ref f)=cp) (t:AllF K tp l):AllF K tp ((x,n,)::l):=λi r h=>by
 cases i with
 |zero=>cases h;show(f,_,a,b1Q e c k)
 |succ i=>show t i r h
def ab0:AllB K []:=λ_ _ h=>nomatch h
def ab1(a:PySem.W.nsIn K fX x=bN ce)(t:AllB K l):AllB K (x::l):=λi y h=>by
 cases i with
 |zero=>cases h;show a
 |succ i=>show t i y h
def an0:AllN K C []:=λ_ _ h=>nomatch h
def an1(a:PySem.W.findIn K (.ref C) x=bN ce)(t:AllN K C l):AllN K C (x::l):=λi y h=>by
 cases i with
 |zero=>cases h;show a
 |succ i=>show t i y h
def am0:AllM K tp C []:=λ_ _ h=>nomatch h
def am1(a:PySem.W.findIn K (.ref C) m=bN (bN (.ref f)))(g:PySem.W.isFn K (.ref f)=cp)
  (e:K.lookup f=bN (oc,od,.func (PySem.W.fnOf m q (a1B (a20 (tp n) j)) (a0R (a20 (tp n) j)) (a0i (a20 (tp n) j)) .none kV doc pm an cdv ct),osl))
  (c:PySem.W.codeIn K cdv q=cp) (k:PySem.W.keepIn K (.ref f)=cp) (t:AllM K tp C l):AllM K tp C ((m,q,n,j,)::l):=λi r h=>by
 cases i with
 |zero=>cases h;show(f,_,(a,g,k),b1Q e c k)
 |succ i=>show t i r h
end
section
variable{K:Fg}{mg:Str->Option Value}{base:Heap}{x q:Str}{st:Stmt}{f C:Addr}{d:f6}{N:List Str}{k n:Nat}
def Fd(P:fO)(w:World)(K:Fg)(mg:Str->Option Value)(base:Heap)(CX:CXT)(k:Nat)(f:Addr)(s:Sp):Prop:=∃d ps,FnOk P w K mg base CX k f d ps s/\Binds K d ps []
structure Cal (P:fO) (w:World) (K:Fg) (mg:Str->Option Value) (base:Heap) (CX:CXT) (k:Nat) (x:Str) (s:Sp):Prop where
 ex:∃f,Fd P w K mg base CX k f s/\mg x=bN (.ref f)/\PySem.W.keepIn K (.ref f)=cp
def Mal(P:fO)(w:World)(K:Fg)(mg:Str->Option Value)(base:Heap)(CX:CXT)(k:Nat)(C:Addr)(x:Str)(s:Sp):Prop:=∃f,Fd P w K mg base CX k f s/\Meth K C x f
abbrev Bd0(P:fO)(w:World)(K:Fg)(mg:Str->Option Value)(base:Heap)(N:List Str)(q:Str)(st:Stmt)(k:Nat)(sp:P3):Prop:=∀(f:Addr)(cdv:Value)(A:Around)(outer:List Env)(s:Shared)(H:Hp)(E:XK)(ws:List Z)(G:Hq)(R:K3),Room k (A.deeper (envOfC q (a0i st) s.heap.objs.size f cdv))->N.Nodup->sp ws G R ->
 ∃t,QSs (cxOf CX0 P w K mg base N q (a0i st) f cdv A outer s H E).nox (a0R st) t/\t (λ_ G'=>R .non G') R (λ_ _=>False) (λ_ _=>False) (a04 N ws) G
abbrev Pl(x q:Str)(st:Stmt)(ps:List Str):Prop:=∀(kV doc pm:Value)(an:Option Addr)(cdv ct:Value)(us:List Value),us.length=ps.length->g9 (PySem.W.fnOf x q (a1B st) (a0R st) (a0i st) .none kV doc pm an cdv ct) (us,[])=pure (ps.zip us)
def fnd(F:Fun K x q st f d)(b:Bd0 P w K mg base N q st k sp)(S:FnScope N (N.take n) (a0i st))(len:∀ws G R,sp ws G R->ws.length=(N.take n).length):FnOk P w K mg base CX0 (k+1) f d (N.take n) (lowP K sp):=
 fn3 F S len λc A a s H E e G R g h=>b f c A a s H E e G R g S.nd h
def fnc(n:Nat)(B:Br K mg)(F:FX K x st)(b:Bd0 P w K mg base N x st k sp)(len:∀ws G R,sp ws G R->ws.length=(N.take n).length:=by ext ws G R h;repeat' first | (let(rfl,_):=h;rfl) | (cases h<;>rename_i h))(S:FnScope N (N.take n) (a0i st):=by show(rfl,rfl,rfl,by decide +kernel,rfl,by decide +kernel,by decide +kernel))(pl:Pl x x st (N.take n):=by ext _ _ _ _ _ _;(repeat show lnS λ_=>?_);show ln0 rfl):Cal P w K mg base CX0 (k+1) x (lowP K sp):=by
 let(f,d,e,F):=F;show⟨(f,(d,_,fnd F b S len,F.binds pl),B _ _ e,F.kp)⟩
def fnm(n:Nat)(F:MX K C x q st)(b:Bd0 P w K mg base N q st k sp)(len:∀ws G R,sp ws G R->ws.length=(N.take n).length:=by ext ws G R h;repeat' first | (let(rfl,_):=h;rfl) | (cases h<;>rename_i h))(S:FnScope N (N.take n) (a0i st):=by show(rfl,rfl,rfl,by decide +kernel,rfl,by decide +kernel,by decide +kernel))(pl:Pl x q st (N.take n):=by ext _ _ _ _ _ _;(repeat show lnS λ_=>?_);show ln0 rfl):Mal P w K mg base CX0 (k+1) C x (lowP K sp):=by
 let(f,d,e,F):=F;show(f,(d,_,fnd F b S len,F.binds pl),e)
end
noncomputable def nst:Expr->Bool
 |.Starred _ _=>js
 |_=>cp
def se_(h:nst e=cp):fP (e::es) env=(js,eval e env,)::fP es env:=by cases e<;>first |rfl |cases h
def hp_:∀{es:List Expr},es.all nst=cp->(backTo pos (fP es env)).any (·.1)=js:=by ext z0;induction z0 with
 |nil=>ext _;show b5G
 |cons e es I0=>
  ext h;rw[b5,bW]at h;show b3d (se_ h.1) (I0 h.2)
def s1_(h:(e::es).all nst=cp):fP (e::es) env=(js,eval e env,)::fP es env:=se_ (by simp_all)
def h1_(h:(e::es).all nst=cp):(backTo pos (fP es env)).any (·.1)=js:=hp_ (by rw[b5,bW]at h;show h.2)
section
variable{e o:Expr}{t:A3}{te:E3}{x:Str}{k j:Nat}{C:Addr}{p:Pos}{E:XK}{pl:Sem Bool}
def q_c(c:Cal X.prog X.w X.K X.mg X.base CX0 k x (lowP X.K sp))(hr:Room j X.A)(ha:QA X (e::es) t)(hn:(e::es).all nst=cp:=by rfl)(hk:k<=j:=by decide)(hg:Gl X x:=by rfl)
  (hdb:(x==("__debug__":Str))=js:=by decide):QE X (.Call (.Name x p) (e::es) [] pos) (b0D sp t):=by
 let(f,(d,h,F,b),g,a):=c.ex;show b5K F (hr.mono hk) hg g a b ha hdb (s1_ hn) (h1_ hn)
def q_m(ho:QE X o to)(c:Cls X.K C)(M:Mal X.prog X.w X.K X.mg X.base CX0 k C m (lowP X.K sp))(hr:Room j X.A)(ha:QA X (e::es) t)(hn:(e::es).all nst=cp:=by rfl)(hk:k<=j:=by decide)
  (ht:eval (.Call (.Attribute o m apos) (e::es) [] pos) X.env=(do
   let ov <- eval o X.env
   gc apos.atName
   let (f,first,) <- fZ [ov] (gC ov m pl)
   gR pos f first (backTo pos (fP (e::es) X.env)) (gH pos (gI [] X.env))):=by rfl):QE X (.Call (.Attribute o m apos) (e::es) [] pos) (a7q C m sp to t):=by
 let(f,(d,g,F,a),b):=M;show b6u ho c b F (hr.mono hk) a ha (s1_ hn) (h1_ hn) ht
def q_m0(ho:QE X o to)(c:Cls X.K C)(M:Mal X.prog X.w X.K X.mg X.base CX0 k C m (lowP X.K sp))(hr:Room j X.A)(hk:k<=j:=by decide)
  (ht:eval (.Call (.Attribute o m apos) [] [] pos) X.env=(do
   let ov <- eval o X.env
   gc apos.atName
   let (f,first,) <- fZ [ov] (gC ov m pl)
   gR pos f first (backTo pos (fP [] X.env)) (gH pos (gI [] X.env))):=by rfl):QE X (.Call (.Attribute o m apos) [] [] pos) (a7q C m sp to uNil):=by
 let(f,(d,e,F,a),b):=M;show b3J ho c b F (hr.mono hk) a ht
def b6L(mk:PySem.W.makesIn X.K C=cp/\PySem.W.keepIn X.K (.ref C)=cp)(M:Mal X.prog X.w X.K X.mg X.base CX0 k C "__init__" (lowP X.K sp))(hr:Room j X.A)(hm:X.mg x=bN (.ref C))(hk:k+1<=j:=by decide)(hg:Gl X x:=by rfl)
  (hdb:(x==("__debug__":Str))=js:=by decide):QE X (.Call (.Name x p) [] [] pos) (b3K C sp uNil):=by
 let(f,(d,b,F,a),h):=M;show b3L (mk.1,h.at_,h.fn,mk.2) F (hr.mono hk) hg hm a hdb
def q_k(ha:QE X e te)(hr:QA X es t)(h:nst e=cp:=by rfl):QA X (e::es) (b3f te t):=b5J ha hr (se_ h)
def q_B{id:String}(hc:a1m X (.builtin id) r)(hm:X.mg x=ce)(ha:QA X (e::es) t)(hv:gq x=bN (.builtin id):=by rfl)(hn:(e::es).all nst=cp:=by rfl)(hg:Gl X x:=by rfl)(h1:x≠"__name__":=by decide)(h2:(x==("__debug__":Str))=js:=by decide) :
  QE X (.Call (.Name x p) (e::es) [] pos) (uCB r t):=b3g hc hg hm hv ha h1 h2 (s1_ hn) (h1_ hn)
def q_Y{id:String}(hc:a1m X (.type id) r)(hm:X.mg x=ce)(ha:QA X (e::es) t)(hv:gq x=bN (.type id):=by rfl)(hn:(e::es).all nst=cp:=by rfl)(hg:Gl X x:=by rfl)(h1:x≠"__name__":=by decide)(h2:(x==("__debug__":Str))=js:=by decide) :
  QE X (.Call (.Name x p) (e::es) [] pos) (uCB r t):=b0C hc hg hm hv ha h1 h2 (s1_ hn) (h1_ hn)
structure Nm (X:Cx) (x:Str) (i:Nat):Prop where
 nd:X.N.Nodup
 ix:X.N[i]?=bN x
 lc:Loc X.env.scope x
 fn:X.fn x=cp\/X.env.scope.names.lookup x=bN .local
def nmI(i:Nat)(nd:X.N.Nodup)(ix:X.N[i]?=bN x:=by rfl)(lc:Loc X.env.scope x:=by first |show cq rfl |show bV rfl)(fn:X.fn x=cp\/X.env.scope.names.lookup x=bN .local:=by first |show .inl rfl |show .inr rfl |assumption):Nm X x i:=(nd,ix,lc,fn)
def z_st(h:Nm X x i)(he:QE X e te)(hs:gA e (bN (.Name x pos')) pos.line X.env=pure js:=by rfl):QS X (.Assign [.Name x pos'] e pos) (uAsg te (.nm i)):=b73 h.nd h.ix h.lc he hs h.fn
def z_au(h:Nm X x i)(he:QE X e te)(ho:OpQ X (gM op) r):QS X (.AugAssign (.Name x pos') op e pos) (uAug i te r):=b5S h.nd h.ix h.lc he ho h.fn
def p_nm(h:Nm X x i):QP X (.Name x pos) (.nm i):=a7V h.nd h.ix h.lc h.fn
def QPg(X:Cx)(es:List Expr)(is:List Nat):Prop:=PGs X es (gsOf is)/\(gv es X.env).length=is.length/\(gv es X.env).findIdx? (·.1)=ce
def b8X:QPg X [] []:=(b2O,rfl,rfl)
def b6M(h:Nm X x i)(t:QPg X es is):QPg X (.Name x pos::es) (i::is):=(b0a (a7V h.nd h.ix h.lc h.fn) t.1,congrArg Nat.succ t.2.1,by
 change List.findIdx? _ (_::gv es X.env)=ce
 rw[List.findIdx?_cons,if_neg nofun,t.2.2];rfl)
def p_tp(hc:X.calm=cp)(h:QPg X es is):QP X (.Tuple es c pos) (.tp is):=b4T hc h.1 h.2.1 h.2.2
section
variable{CX:CXT}{K:Fg}{mg:Str->Option Value}{base:Heap}{N:List Str}{q:Str}{so:Scope}{f:Addr}{cd:Value}{outer:List Env}{E:XK}
def cxN:(cxOf CX P w K mg base N q so f cd A outer s H E).nox.N=N:=rfl
def cxS:(cxOf CX P w K mg base N q so f cd A outer s H E).nox.env.scope=so:=rfl
def cxN':(cxOf CX P w K mg base N q so f cd A outer s H E).N=N:=rfl
def cxS':(cxOf CX P w K mg base N q so f cd A outer s H E).env.scope=so:=rfl
end
def cxcN:(cxC X EW N' sc D s H fp).N=N':=rfl
section
variable{Nj:List Str}{so sc:Scope}{wi:I3}{tg iter elt:Expr}{ifs:List Expr}{tt:T3}{i:Nat}
def q_l(N':List Str)(cap:List (Option Nat))(pt:Pt)(hi:QI X tg iter wi:=by ac_rfl)(ht:∀C s H fp,QIfs (cxC X E0 N' sc C s H fp) ifs tt:=by walk_at "r4")(he:∀C s H fp,QE (cxC X E0 N' sc C s H fp) elt te:=by walk_at "r4")(hg:∀C s H fp,N'.Nodup->QP (cxC X E0 N' sc C s H fp) tg pt:=by walk_at "r5")
  (hNN:X.N=Nj:=by first |show cxN |show cxN' |show cxcN) (hso:X.env.scope=so:=by first |show cxS |show cxS' |rfl) (ck:capB Nj so sc N' cap=cp:=by first |decide +kernel |rfl) (hp:(pt.slots.all λj=>decide (cap[j]?=bN ce))=cp:=by rfl)
  (nd:N'.Nodup:=by decide +kernel) (hc:X.calm=cp:=by rfl) (hs:∀x,gO iter X.env x=pure x:=by ext _;rfl):QE X (.ListComp elt [(tg,iter,ifs,0)] sc pos) (uLC wi cap pt tt te):=q_lc hc hNN hso ck hp hi (λC s H a=>hg C s H a nd) ht he hs
def z_l(h:Nm X x i)(N':List Str)(cap:List (Option Nat))(pt:Pt)(hi:QI X tg iter wi:=by ac_rfl)(ht:∀C s H fp,QIfs (cxC X E0 N' sc C s H fp) ifs tt:=by walk_at "r4")(he:∀C s H fp,QE (cxC X E0 N' sc C s H fp) elt te:=by walk_at "r4")(hg:∀C s H fp,N'.Nodup->QP (cxC X E0 N' sc C s H fp) tg pt:=by walk_at "r5")
  (hNN:X.N=Nj:=by first |show cxN |show cxN' |show cxcN) (hso:X.env.scope=so:=by first |show cxS |show cxS' |rfl) (ck:capB Nj so sc N' cap=cp:=by first |decide +kernel |rfl) (hp:(pt.slots.all λj=>decide (cap[j]?=bN ce))=cp:=by rfl)
  (nd:N'.Nodup:=by decide +kernel) (hl:X.env.scope.names.lookup x=bN .local:=by rfl) (hsw:gA (.ListComp elt [(tg,iter,ifs,0)] sc pos) (bN (.Name x pos')) spos.line X.env=pure cp:=by rfl) (hc:X.calm=cp:=by rfl) (hs:∀x,gO iter X.env x=pure x:=by ext _;rfl) :
  QS X (.Assign [.Name x pos'] (.ListComp elt [(tg,iter,ifs,0)] sc pos) spos) (uAsg (uLC wi cap pt tt te) (.nm i)):=b3n h.nd h.ix hl hc hNN hso ck hp hi (λC s H a=>hg C s H a nd) ht he hsw hs
end
end
def At(N:List Str)(i:Nat)(x:Str):Prop:=N[i]?=bN x
def at_0:At (x::l) 0 x:=rfl
def at_1:At (c0::x::l) 1 x:=rfl
def at_2:At (c0::c1::x::l) 2 x:=rfl
def at_3:At (c0::c1::c2::x::l) 3 x:=rfl
def at_4:At (c0::c1::c2::c3::x::l) 4 x:=rfl
def at_5:At (c0::c1::c2::c3::c4::x::l) 5 x:=rfl
def at_6:At (c0::c1::c2::c3::c4::c5::x::l) 6 x:=rfl
def at_7:At (c0::c1::c2::c3::c4::c5::c6::x::l) 7 x:=rfl
def at_8:At (c0::c1::c2::c3::c4::c5::c6::c7::x::l) 8 x:=rfl
def at_9:At (c0::c1::c2::c3::c4::c5::c6::c7::c8::x::l) 9 x:=rfl
section
variable{x:Str}
def qv(i:Nat)(hN:X.N[i]?=bN x:=by rfl)(hv:Vis X.env.scope x:=by first |show cq rfl |show bV (cq rfl) |show bV (bV rfl))(hd:(x==("__debug__":Str))=js:=by decide)
  (hcd:(x==("__classdict__":Str))=js:=by decide):QE X (.Name x pos) (uVar i):=b5y (a7S hN hv hd hcd)
def qw(h:X.N=N)(a:At N i x)(hv:Vis X.env.scope x:=by first |show cq rfl |show bV (cq rfl) |show bV (bV rfl))(hd:(x==("__debug__":Str))=js:=by decide)
  (hcd:(x==("__classdict__":Str))=js:=by decide):QE X (.Name x pos) (uVar i):=b5y (a7S (h▸a) hv hd hcd)
def nwI(h:X.N=N)(a:At N i x)(nd:X.N.Nodup)(lc:Loc X.env.scope x:=by first |show cq rfl |show bV rfl)(fn:X.fn x=cp\/X.env.scope.names.lookup x=bN .local:=by first |show .inl rfl |show .inr rfl |assumption):Nm X x i:=(nd,by rw[h];show a,lc,fn)
end
def newK(e:put G a o=G')(h:G a=ce):G' a=bN o/\Sm G G':=by subst e;show(a0a,Sm.new h)
def b1c(P0:Addr)(H:Hp):Prop:=H P0=bN (.tbl #[])/\∀b,b≠P0->H b=ce\/∃o xs,H b=bN (.frz o (.lst xs))
def a9y{K:Fg}
  (KX:K.In sj.heap) (hns:sj.heap.Ns fX mg) (hb:sj.heap.Ns ic mb) (hbb:∀x:Str,x≠"__name__"->mb x=gq x) (hlim:sj.heap.NoLimit) (hg:sj.gens=#[])
  (hT:sj.heap.get? P0=bN (PySem.W.tabObj #[])) (hK0:K.lookup P0=ce) (hC:PySem.W.codeHdIn K c0 P0=cp)
  (hB:∃bm ob,mg "__builtins__"=bN (.ref bm)/\bm≠ic/\sj.heap.get? bm=bN ob/\ob.cls=.type "module"/\ob.dict=bN ic/\ob.data=.plain)
  (ha:sj.heap.get? a=bN { cls:=.type "list",data:=.seq vs.toArray }) (hi:iq vs ns) (hl:ns.length<=fL) (hr:Room k gX)
  (F:∀base:Heap,K.In base->base.Ns fX mg->base.BuiltinsAt mg P0->FnOk P w K mg base CX k fa fd [x] ju) (hbind:∀(s:Shared)(u:Value),g8 s fd ([u],[]) [(x,u,)])
  (hsp:∀jt:Hp,b1c P0 jt->SqL K jt a (ns.map V.int)->ju [.ref a] jt (λv _=>v=.bl cp) λ_ _ _=>False)
  (hCX:∀jt e s',CX [] jt sj (λ_ _ _=>False) e s'->False) :
  gG (model P w) gX (.call (.ref fa) ([.ref a],[])) (λr s'=>r=.ok (.ret (.bool cp))/\OldK sj.heap s'.heap/\s'.os=sj.os/\gr s'.gens) sj:=by
 let N:=a8n hi;let M:=hi.length;let Y:a≠P0:=λz=>by rw[z,hT]at ha;cases ha
 let p:∀jt:Hp,b1c P0 jt->SqL K jt a (ns.map V.int)->HOk P w jt sj.heap->(∀b,jt b≠ce->b=a\/b=P0)->(jt a≠ce->K.lookup a=ce) ->
   gG (model P w) gX (.call (.ref fa) ([.ref a],[])) (λr i=>r=.ok (.ret (.bool cp))/\OldK sj.heap i.heap/\i.os=sj.os/\gr i.gens) sj:=by
  ext jt y hS B T hK;let j:∀{b:Addr}{o:Obj},sj.heap.get? b=bN o->o≠PySem.W.tabObj #[]->o≠{ cls:=.type "list",data:=.seq vs.toArray }->jt b=ce:=λ{b o} e n1 n2=>by
   cases q:jt b with
   |none=>rfl
   |some u=>
    let z||z:=T b (by rw[q];simp)
    .grind
    .simp_all
  let l:∀{b:Addr}{m:Str->Option Value},sj.heap.Ns b m->(hidT sj.heap jt).Ns b m:=λ{b m} (o,es,U,e,d,r)=>(o,es,U,a35 e (j e (λz=>by rw[z]at d;cases d) λz=>by rw[z]at d;cases d),d,r);let A:K.In (hidT sj.heap jt):=λb o e=>a35 (KX b o e) (by
   cases q:jt b with
   |none=>rfl
   |some u=>
    let z||z:=T b (by rw[q];simp)
    .grind
    .subst z;rw[hK0]at e;cases e)
  let hM:Mod K mg (hidT sj.heap jt):=(A,l hns,(mb,l hb,hbb),let (mc,C,f):=hlim;(mc,l C,f));let hBb:(hidT sj.heap jt).BuiltinsAt mg P0:=by
   let(S,I,C,f,G,t,h5,R):=hB;let E:=j G (λz=>by rw[z]at t;cases t) λz=>by rw[z]at t;simp at t
   show(S,I,C,f,λz=>?_,λz=>?_,a35 G E,t,h5,R)
   .subst z;let(o,es,U,e,d,_):=hns;rw[G]at e;cases e;rw[R]at d;cases d
   .subst z;rw[y.1]at E;cases E
  let e0:Env0 P w K mg (hidT sj.heap jt) gX [] sj jt:=(rfl,hM,λb o e=>b2G e,dO (a7R _ _),trivial,λb hb=>absurd (show b∈([]:List Addr) from hb) (by simp),B,.of_eq hg);show ii ((F _ A (l hns) hBb).run gX [] sj jt ([.ref a],[]) [.ref a] [.ref a] _ _ hr e0 (hbind sj (.ref a)) (.cons rfl .nil) (hsp jt y hS)) λr i h=>?_;cases r with
  |error e=>show (hCX jt e i h).elim
  |ok fl=>
   cases fl with
   |next=>show aP h
   |brk=>show aP h
   |cont=>show aP h
   |ret u=>
    let(v,H',os,L,J,n,r',q):=h;let q':=q;subst q';obtain rfl:u=Value.bool cp:=r';let D:∃g,i.heap.get? P0=bN (PySem.W.tabObj (#[]++g)):=by
     let(g,e):=J.tbls P0 _ y.1;show(g,n P0 _ e)
    let kp:∀b o,b≠P0->sj.heap.get? b=bN o->i.heap.get? b=bN o:=λb o hb e=>by
     let z||(I,xs,z):=y.2 b hb
     .show J.keep b o e z (by ext z;show absurd (show b∈([]:List Addr) from z) (by simp)) (by simp)
     .let(Q,_):=B b _ z;let(e2,_):=n b _ (J.frzs b I _ z);rw[e]at Q;cases Q;show e2
    let(g,X):=D;show(rfl,(λb o e=>?_,λb o e=>?_),os,L)
    .by_cases hb:b=P0
     .subst hb;rw[hT]at e;cases e;show .inr (.inl (((PySem.W.codeHd_of_K KX hC).tab hT).isCodeTable,rfl,#[],g,rfl,X))
     .show .inl (kp b o hb e)
    .by_cases hb:b=P0
     .subst hb;show(_,X)
     .show(o,kp b o hb e)
 cases hk:K.lookup a with
 |some o=>
  let e:=KX a o hk;rw[ha]at e;cases e;show p _ (a0c,λb hb=>.inl (a0b hb)) (.inr (_,vs.toArray,_,hk,rfl,rfl,rfl,by rw[bJ,M];show hl,↑N)) (λb u z=>?_) (λb z=>?_) λz=>absurd (a0b Y) z
  .by_cases hb:b=P0
   .subst hb;rw[a0c]at z;cases z;show hT
   .rw[a0b hb]at z;cases z
  .by_cases hb:b=P0
   .show .inr hb
   .show absurd (a0b hb) z
 |none=>
  show p (upd (upd (λ_=>ce) a _) P0 (.tbl #[])) (a0c,λb hb=>?_) (.inl (.inr ({ cls:=.type "list",data:=.seq vs.toArray },by rw[a0b Y,a0c]))) (λb u z=>?_) (λb z=>?_) λ_=>hk
  .by_cases f:b=a
   .subst f;show .inr (_,_,by rw[a0b hb,a0c])
   .show .inl (by rw[a0b hb,a0b f])
  .by_cases hb:b=P0
   .subst hb;rw[a0c]at z;cases z;show hT
   .rw[a0b hb]at z
    by_cases f:b=a
    .subst f;rw[a0c]at z;cases z;show(ha,by rw[aM];show hl,vs,_,N,ha)
    .rw[a0b f]at z;cases z
  .by_cases hb:b=P0
   .show .inr hb
   .by_cases f:b=a
    .show .inl f
    .show absurd (by rw[a0b hb,a0b f]) z
def walk_ofT{l:PySem.W.OpenLaw}{K:Params->Fg}{CX:World->CXT}{sp:World->Sp}
  (hn:l.most=bN n) (hn2:n<=fL) (hdf:d.params.defaults=[]) (hr:Room k gX)
  (hY:∀(w:World)(h:Heap),YP w h->(K w.params).In h/\h.get? P0=bN (PySem.W.tabObj #[])) (hK0:∀w:World,(K w.params).lookup P0=ce)
  (F:∀(w:World)(mg:Str->Option Value)(fa:Addr)(h:Heap),(K w.params).In h->h.Ns fX mg->mg d.name=bN (.ref fa) ->
   ∃(fd:f6)(c0:Addr),PySem.W.codeHdIn (K w.params) c0 P0=cp/\(∀(s:Shared)(u:Value),g8 s fd ([u],[]) [(x,u,)]) /\
    ∀base:Heap,(K w.params).In base->base.Ns fX mg->base.BuiltinsAt mg P0->FnOk l.prog w (K w.params) mg base (CX w) k fa fd [x] (sp w))
  (hsp:∀(w:World)(H:Hp)(a:Addr)(ns:List Int),ns.length<=n->b1c P0 H->SqL (K w.params) H a (ns.map V.int)->sp w [.ref a] H (λv _=>v=.bl cp) λ_ _ _=>False)
  (hCX:∀(w:World)(H:Hp)(s:Shared)(e:Value)(s':Shared),CX w [] H s (λ_ _ _=>False) e s'->False) :
  PySem.W.WalkO q loose XP YP l.row.toRowW d [] (λf vs=>PySem.call f vs):=by
 show Att.attach_call hn hdf λw s₀ B C R D o Q X L a N r G Y S hd M m j i c p=>?_;let(KX,I):=hY w _ Y;let(fd,U,z,y,E):=F w C D _ KX G.T.g m;show a9y KX G.T.g G.T.b G.T.builtins G.T.nolimit p I (hK0 w) z G.T.bmain j i (be c hn2) hr E y (λH t A=>hsp w H a r c t A) λH e J=>hCX w H B e J
namespace SetW
noncomputable def lp(m:Nat):Nat->Nat×Nat->Nat×Nat
 |0,q=>q
 |n+1,q=>lp m n (gn.leap m q.1 q.2)
end SetW
namespace SetW
section
variable{a b:Addr}{K:Type}[DecidableEq K]{kd:KeyKind prog w K}
def SO.fresh(g:h.get? a=bN (a6F w)):SO kd h a #[] 0 (.fresh 0 0 (!byT w)) []:=((_,g,(rfl,rfl,rfl),rfl),λe b=>by simp at b,.nil,by decide,rfl,(.nil,rfl,rfl))
end
end SetW
section
variable{a b:Expr}{p:Pos}
def KeysS(G:Hq)(ws:List Z)(ns:List Str):Prop:=∃(p:Addr)(kvs:List (Key×Z)),ws=[.ref p]/\(G p=bN (.dK kvs)\/G p=bN (.dF kvs))/\kvs.map (·.1)=ns.map .inr/\ns.length<=4
def KeysS.low{K:Fg}(h:KeysS G ws ns)(rs:Reps K H ws vs)(hg:RH K G H) :
  ∃(p:Addr)(kvs:List (Key×V)),vs=[.ref p]/\(H p=bN (.dK kvs)\/∃o,H p=bN (.frz o (.dK kvs)))/\kvs.map (·.1)=ns.map .inr:=by
 let(p,f,rfl,e,d,_):=h;let(v,rfl,r):=rs.one;let e||e:=e
 .let(a,c,b,_):=hg _ _ e;show(p,a,by rw[r],.inl c,by rw[b,d])
 .let(o,a,c,b,_):=hg _ _ e;show(p,a,by rw[r],.inr (o,c),by rw[b,d])
end
noncomputable def a9z(K:Fg)(f P0:Addr):Bool:=match K.lookup f with
 |some (_,_,.func fd,_)=>(match fd.code with
  |.ref c=>PySem.W.codeHdIn K c P0
  |_=>js)
 |_=>js
section
variable{K:Fg}{mg:Str->Option Value}{base:Heap}{x q:Str}{st:Stmt}{f C P0:Addr}{d:f6}{N ps:List Str}{k n:Nat}
def a6U(F:Fun K x q st f d)(h:a9z K f P0=cp):∃c,d.code=.ref c/\PySem.W.codeHdIn K c P0=cp:=by
 let(n,l,j,i,o,m,a,k,e,rfl,b,g):=F.ex;unfold a9z at h;rw[b]at h
 match a,h with
 |.ref c,h=>show(c,rfl,h)
def fnL(F:Fun K x q st f d)(hL:a9z K f P0=cp)(S:FnScope N ps (a0i st))(len:∀ws G R,sp ws G R->ws.length=ps.length)
  (b:∀(c:Addr)(A:Around)(outer:List Env)(s:Shared)(H:Hp)(E:XK)(ws:List Z)(G:Hq)(R:K3),PySem.W.codeHdIn K c P0=cp->Room k (A.deeper (envOfC q (a0i st) s.heap.objs.size f (.ref c)))->N.Nodup->sp ws G R ->
   ∃t,QSs (cxOf CX0 P w K mg base N q (a0i st) f (.ref c) A outer s H E).nox (a0R st) t/\t (λ_ G'=>R .non G') R (λ_ _=>False) (λ_ _=>False) (a04 N ws) G):FnOk P w K mg base CX0 (k+1) f d ps (lowP K sp):=by
 let(c,i,D):=a6U F hL;let(M,T,X,L,V,an,m,ct,I,rfl,B,n):=F.ex;subst i;show b5d B n S (λy H Q E (j,G,R,e,l,h,g)=>by rw[<- e.length];show len _ _ _ h) ?_;ext A a s H y Q E v ⟨j,G,R,e,l,h,g⟩;let(t,u,z):=b c A a s H E j G R D v S.nd h;show(_,PSs.nox u.p,a04 N j,G,_,R,_,_,.start e,l,z,fun σ' Y τ' U r J o C=>g _ _ _ _ r (by rw[a0v]) o C,g,λ_ _ _ _ h _ _ _=>h.elim,λ_ _ _ _ h _ _ _=>h.elim)
def FXL(K:Fg)(x:Str)(P0:Addr):Prop:=∃f,NsG K x (bN (.ref f))/\a9z K f P0=cp
def fncL(n:Nat)(B:Br K mg)(F:FX K x st)(L:FXL K x P0)
  (b:∀(f c:Addr)(A:Around)(outer:List Env)(s:Shared)(H:Hp)(E:XK)(ws:List Z)(G:Hq)(R:K3),PySem.W.codeHdIn K c P0=cp->Room k (A.deeper (envOfC x (a0i st) s.heap.objs.size f (.ref c)))->N.Nodup->sp ws G R ->
   ∃t,QSs (cxOf CX0 P w K mg base N x (a0i st) f (.ref c) A outer s H E).nox (a0R st) t/\t (λ_ G'=>R .non G') R (λ_ _=>False) (λ_ _=>False) (a04 N ws) G)
  (len:∀ws G R,sp ws G R->ws.length=(N.take n).length) (S:FnScope N (N.take n) (a0i st)) (pl:Pl x x st (N.take n)):Cal P w K mg base CX0 (k+1) x (lowP K sp):=by
 let(f,d,e,F):=F;let(h,g,a):=L;cases (e.symm.trans g);show⟨(f,(d,_,fnL F a S len λc=>b f c,F.binds pl),B _ _ e,F.kp)⟩
end
def a7C{K:Fg}(a:Addr)(ns:List Int)(f:Fz K H a (ns.map V.int))(hT:H P0=bN (.tbl #[]))(h:sp [.scr a ns] (put (λ_=>ce) P0 (.tab lp q)) λw _=>w=.bl cp):lowP K sp [.ref a] H (λv _=>v=.bl cp) jt:=
 ([.scr a ns],put _ P0 _,λw _=>w=.bl cp,.cons (by rw[a2f];show(rfl,f)) .nil,λb o e=>(by
  by_cases hb:b=P0
  .subst hb;rw[a0a]at e;cases e;show(#[],hT,.inl rfl)
  .rw[a0h hb]at e;cases e),h,λw G v c e r _ _=>by subst e;rw[a0t]at r;show r)
def Fz.ofT{K:Fg}(hO:b1c P0 H)(h:SqL K H a xs):Fz K H a xs:=by
 let(h||h)||h:=h
 .by_cases hb:a=P0
  .rw[hb,hO.1]at h;cases h
  .let z||(o,ys,z):=hO.2 a hb
   .grind
   .simp_all
 .show .inl h
 .show .inr h
abbrev B3:=(Addr->Hq->Prop)->X3
structure ClsM (K:Fg) (D:Addr) (m:Str):Prop where
 rd:PySem.W.readsIn K D (.type "type")=cp
 ga:PySem.W.specialIn K (.ref D) "__getattribute__"=bN (bN (.builtin "type.__getattribute__"))
 fc:∃f,PySem.W.findIn K (.ref D) m=bN (bN (.ref f))/\PySem.W.findCls K (.ref D) (.type "type") m=bN (.val (.ref f))
def b6N{X:Cx}{CX:CXT}{k:Nat}{f D:Addr}{fd:f6}{ps:List Str}{sp:Sp}{ds:List Value}{dvs:List V}{E:XK}{e:Expr}{es:List Expr}{t:TA}{x m:Str}{xp apos pos:Pos}{pl:Sem Bool}(c:ClsM X.K D m)(hg:Gl X x)(hmg:X.mg x=bN (.ref D))(hm:Meth X.K D m f)(F:FnOk X.prog X.w X.K X.mg X.base CX k f fd ps sp)(hr:Room k X.A)(hb:Binds X.K fd ps ds)(hd:Vals dvs ds)(hx:a2r CX X E)(ha:PA X (e::es) t)
  (hst:fP (e::es) X.env=(js,eval e X.env,)::fP es X.env:=by rfl) (hpl:(backTo pos (fP es X.env)).any (·.1)=js:=by rfl) (hdb:(x==("__debug__":Str))=js:=by decide)
  (ht:eval (.Call (.Attribute (.Name x xp) m apos) (e::es) [] pos) X.env=(do
   let ov <- eval (.Name x xp) X.env
   gc apos.atName
   let (f,first,) <- fZ [ov] (gC ov m pl)
   gR pos f first (backTo pos (fP (e::es) X.env)) (gH pos (gI [] X.env))):=by rfl) :
  PE X (.Call (.Attribute (.Name x xp) m apos) (e::es) [] pos) (b5c sp dvs E t):=by
 ext pins s σ H Q I h;let(f',e1,e2):=c.fc;let e1:=hm.at_.symm.trans e1;cases e1;show PySem.W.methodCall_KW (pl:=pl) (a37 I hg hmg ?_ hdb) ht;show PySem.W.method_cls I.kIn c.ga (PySem.W.cls_value I.kIn c.rd e2 rfl ?_);show PySem.W.callWith_K (first:=[]) (h₀:=X.base) I.ok.mod.kin hm.kp (thn (ha pos pins _ σ H _ (I.tok _) h) λus s2 (vs,H2,I2,r,q2)=>(I2.kIn,?_)) hst hpl;show a6p F hr hb hd hx I2 r q2
section
variable{e:Expr}{t:A3}{x:Str}{k j:Nat}{D:Addr}{xp:Pos}{pl:Sem Bool}
def q_cm(c:ClsM X.K D m)(hmg:X.mg x=bN (.ref D))(M:Mal X.prog X.w X.K X.mg X.base CX0 k D m (lowP X.K sp))(hr:Room j X.A)(ha:QA X (e::es) t)(hn:(e::es).all nst=cp:=by rfl)(hk:k<=j:=by decide)(hg:Gl X x:=by rfl)(hdb:(x==("__debug__":Str))=js:=by decide)
  (ht:eval (.Call (.Attribute (.Name x xp) m apos) (e::es) [] pos) X.env=(do
   let ov <- eval (.Name x xp) X.env
   gc apos.atName
   let (f,first,) <- fZ [ov] (gC ov m pl)
   gR pos f first (backTo pos (fP (e::es) X.env)) (gH pos (gI [] X.env))):=by rfl):QE X (.Call (.Attribute (.Name x xp) m apos) (e::es) [] pos) (b0D sp t):=by
 let(f,(d,ps,F,hb),hm):=M;show⟨a0M (b6N c hg hmg hm F (hr.mono hk) hb .nil a8o ha.p (s1_ hn) (h1_ hn) hdb ht) fun τ H Q hx=>hx.un fun σ G R hs hg h up=>(σ,G,_,hs,hg,h,λws G1 vs H1 h1 rs hg1 t1=>(ws,G1,R,by rw[bL];show rs,hg1,h1,up.mono t1))⟩
end
section
open Tim
def SOutT{α:Type}(kz:List (List Pz))(xs os:List α):Prop:=∃ps:List (List Pz×α),ps.Perm (kz.zip xs)/\os=ps.map (·.2)/\ps.Pairwise λp q=>ltT q.1 p.1=js
structure KzOk (kz:List (List Pz)) (m:Nat):Prop where
 nf:a1Y kz
 ln:∀x∈kz,x.length=m
 cm:∀x∈kz,∀y∈kz,cmpT x y=cp
def b1d{h:Heap}{keys:Array Value}{vs:List Value}{kz:List (List Pz)}(hk:RowsIn h keys.toList kz){xs:Array Keyed}(hp:xs.Perm (keys.zip vs.toArray))(hs:Srt (kT h kz) xs.toList):SOutT kz vs (xs.map (·.2)).toList:=by
 let hl:xs.toList.Perm (keys.toList.zip vs):=by rw[<- ksk_zip];show cW.mp hp
 show(xs.toList.map λp:Keyed=>(a3x h p.1,p.2,),?_,by rw[fg,aX];rfl,bn.mpr (bO.imp_of_mem (λ{p q} hp' hq' (le:kT h kz p<=kT h kz q)=>?_) hs))
 .let e2:(keys.toList.zip vs).map (λp:Keyed=>(a3x h p.1,p.2,))=kz.zip vs:=by
   rw[<- hk.map,List.zip_map_left];show b7 λ(x,y) _=>rfl
  rw[<- e2];show hl.map _
 .let at_:∀p∈xs.toList,∃x∈kz,RowIn h p.1 x:=λp hp=>hk.mem _ (ci (show (p.1,p.2,)∈keys.toList.zip vs from hl.mem_iff.mp hp)).1;let(x,x1,x2):=at_ p hp';let(y,y1,y2):=at_ q hq';unfold kT at le
  change ltT (a3x h q.1) (a3x h p.1)=js
  rw[a0P x2,a0P y2]at le ⊢;cases e:ltT y x with
  |false=>rfl
  |true=>let:=a85 y1 e;cbv
section
variable{pf:List (Addr×Obj)}{σ:St}{a kS f:Addr}{vs:List Value}{kz:List (List Pz)}{e1 m:Nat}{P:Fin->Shared->Prop}
def b1e{keys:Array Value}{e:Nat}(I:Inv X (pf++[(a,lObj #[] e1,),(kS,lObj keys e,)]) σ H s)(fa:FpOk X pf H a)(fk:FpOk X (pf++[(a,lObj #[] e1,)]) H kS)(hk:RowsIn s.heap keys.toList kz)(ok:KzOk kz m)(hlen:kz.length=vs.length)(hz:vs.length<=100000)
  (h:∀(s':Shared)(out:List Value)(n:Nat),SOutT kz vs out->Inv X pf σ H s'->FpOk X pf H a->s'.heap.get? a=bN (lObj #[] e1)->P (.done (.ret .none)) { s' with heap:=s'.heap.update a (Obj.mapSeq λ_=>out.toArray) }) :
  wpAny (model X.prog X.w) X.A.in1.in1 (ksk_end a js vs.toArray e1 (.ref kS) keys) P E s:=by
 let hsz:keys.size=vs.length:=by
  let h1:=hk.len;rw[bU]at h1;cbv
 let hzs:(keys.zip vs.toArray).size=vs.length:=by rw[Array.size_zip,hsz,bJ,Nat.min_self]
 let gk:s.heap.get? kS=bN (lObj keys e):=(I.pin (kS,lObj keys e,) (by simp)).1;let ga:s.heap.get? a=bN (lObj #[] e1):=(I.pin (a,lObj #[] e1,) (by simp)).1;let hne:a≠kS:=fk.2.2.2.2.2 (a,lObj #[] e1,) (by simp);let tail:∀st:SortSt,(arrOf st).Perm (keys.zip vs.toArray)->Srt (kT s.heap kz) (arrOf st).toList->f8 st=ce->wpAny (model X.prog X.w) X.A.in1.in1 (ksk_tail a js e1 (.ref kS) st) P E s:=λst hp hs hf=>by
  let hl2:(arrOf st).size=vs.length:=by rw[hp.size_eq,hzs]
  unfold ksk_tail;dsimp only;show fK (gZ gk rfl ?_ (by rw[hsz,fW];cbv) (bo _));show fK (wpAny_letGo ?_);let s1:=Heap.SameBut.update s.heap kS (Obj.mapSeq λ_=>(#[]:Array Value));let J:Inv X (pf++[(a,lObj #[] e1,)]) σ H { s with heap:=s.heap.update kS (Obj.mapSeq λ_=>(#[]:Array Value)) }:=by
   obtain⟨c2,hc2⟩:∃c2,(s.heap.update kS (Obj.mapSeq λ_=>(#[]:Array Value))).get? kS=bN (lObj #[] c2):=(_,get?_update_seq gk λ_=>#[]);show (Inv.repin (t':=s.toks) (pl:=pf++[(a,lObj #[] e1,)]) ↑I fk (λc u hc q=>(s1.2 c hc).trans q) hc2 (a4p _ _)).unpinned
  let ga1:(s.heap.update kS (Obj.mapSeq λ_=>(#[]:Array Value))).get? a=bN (lObj #[] e1):=(s1.2 a hne).trans ga;show fK (iB ga1 rfl ?_);show fK (gZ ga1 rfl ?_ (bo _) (by simp only[b6,if_false,fh];rw[hl2,fW];cbv));rw[hf];simp only[bne_self_eq_false,b6,if_false];let ko:=b1d hk hp hs
  let:=h { s with heap:=s.heap.update kS (Obj.mapSeq λ_=>(#[]:Array Value)) } _ 0 ko J.unpinned fa ga1
  simp only[eg]at this;show fS this
 unfold ksk_end;dsimp only;simp only[b6,if_false]
 by_cases h2:vs.toArray.size<2
 .rw[if_pos h2,if_pos h2];show fK (fS ?_);rw[StateT.run_pure];show fK (fS ?_);dsimp only;show tail (SortSt.mk' general' (keys.zip vs.toArray) #[] 7 ce) (cY.refl _) ?_ rfl;rw[bJ]at h2;let hl:(keys.zip vs.toArray).toList.length<2:=by rw[bU,hzs];show h2
  change Srt _ (keys.zip vs.toArray).toList
  match (keys.zip vs.toArray).toList,hl with
  |[],_=>show .nil
  |[x],_=>show dz _ _
 .rw[if_neg h2,if_neg h2];rw[bJ]at h2;let(fs,k1,k2,k3):=hk.kat (T:=λf=>∃x,f=.inl (bN x)) λx hx=>let (y,r,e):=ok.nf x hx;(_,r,e,y,rfl)
  let kk:∀Q:ge->Shared->Prop,Q (g4 cp) s->wpAny (model X.prog X.w) X.A.in1.in1 (keyKind' keys) Q E s:=λQ q=>by
   let:=PySem.W.kat_kind (M:=model X.prog X.w) (A:=X.A.in1.in1) (E:=E) (Q:=Q) (T:=.type "int") k1 (by rw[k2,bU];cbv) (λv hv=>by
    let(_,(x,rfl),t,rfl):=k3 v hv;show .now) (by rfl) q
   rwa [eg]at this
  show fK (kk _ ?_);show fK (fY (Tim.t_sortRuns (a₀:=keys.zip vs.toArray) (κ:=kT s.heap kz) (k0:=g4 cp) (st:=SortSt.mk' (g4 cp) (keys.zip vs.toArray) #[] 7 ce)
   (Q:=λ_ y=>(arrOf y).Perm (keys.zip vs.toArray)/\f8 y=ce/\Srt (kT s.heap kz) (arrOf y).toList) (a86 (λp hp=>by
    rw[ksk_zip]at hp;show hk.mem _ (ci (show (p.1,p.2,)∈keys.toList.zip vs from hp)).1) ok.ln ok.cm) (cY.refl _,rfl,rfl) rfl λy q1 q2=>(q1.pm,q1.fl,q2)) ?_ λ_ _ e=>e)
  ext⟨⟨⟩,y⟩ s' ⟨rfl,q1,q2,q3⟩;dsimp only;show tail y q1 q3 q2
def a9A{Θ:Hp->Prop}(hΘ:Θ H)(I:Inv X (pf++[(a,lObj #[] e1,),(kS,lObj #[] 0,)]) σ H s)(fa:FpOk X pf H a)(fk:FpOk X (pf++[(a,lObj #[] e1,)]) H kS)(ok:KzOk kz m)(hlen:kz.length=vs.length)(hz:vs.length<=100000)
  (turn:∀(i:Nat)(v:Value)(k:List Pz),vs[i]?=bN v->kz[i]?=bN k->∀(H1:Hp)(s':Shared)(pl:List (Addr×Obj)),Θ H1->Inv X (pf++pl) σ H1 s'->wpAny (model X.prog X.w) X.A.in1.in1 (call (.ref f) [v]) (EP X (pf++pl) σ λy H'=>∃b,y=.ref b/\H' b=bN (.tup (k.map ptV))/\(∀c xs,H1 c=bN (.tup xs)->H' c=bN (.tup xs))/\Θ H') (λ_ _=>False) s')
  (h:∀(H1:Hp)(s':Shared)(out:List Value)(n:Nat),Θ H1->SOutT kz vs out->Inv X pf σ H1 s'->FpOk X pf H1 a->s'.heap.get? a=bN (lObj #[] e1)->P (.done (.ret .none)) { s' with heap:=s'.heap.update a (Obj.mapSeq λ_=>out.toArray) }) :
  wpAny (model X.prog X.w) X.A.in1.in1 (ksk_rest a (.ref f) js vs.toArray e1 (.ref kS)) P E s:=by
 unfold ksk_rest;show fK (g6 ?_)
 first
  |rw[List.forIn_toArray]
  | (rw[<- fx];simp only[List.toList_toArray])
  |rw[<- fx]
 show fK (ksk_fold (λi s'=>∃H1 kA e bs,Θ H1/\Inv X (pf++[(a,lObj #[] e1,),(kS,lObj kA e,)]) σ H1 s'/\kA.toList=bs.map Value.ref/\a3c H1 bs (kz.take i)) vs 0 s (H,#[],0,[],hΘ,I,rfl,rfl,λi b x e=>by simp at e) ?step ?done)
 case step=>
  ext j x s' hx ⟨H1,kA,e,bs,θ1,J,ekA,hk⟩;simp only[cX]at hk ⊢;let hj:j<vs.length:=(bh.mp hx).1;obtain⟨k,hkj⟩:∃k,kz[j]?=bN k:=(_,bf (by cbv));let hzk:kA.size<=vs.length:=by
   let h1:=hk.1;rw[bj]at h1;let h2:=congrArg bz ekA;rw[bU,aM]at h2;cbv
  show fK (jk (fY (turn j x k hx hkj H1 s' _ θ1 J) (λv s'' he=>?_) λ_ _ hF=>hF.elim));let(y,H',J2,rv,b,rfl,hb,kt,θ2):=he;obtain rfl:v=Value.ref b:=rv;dsimp only;let gk:s''.heap.get? kS=bN (lObj kA e):=(J2.pin (kS,lObj kA e,) (by simp)).1;let s1:=Heap.SameBut.update s''.heap kS (Obj.mapSeq (·.push (.ref b)));obtain⟨c2,hc2⟩:∃c2,(s''.heap.update kS (Obj.mapSeq (·.push (.ref b)))).get? kS=bN (lObj (kA.push (.ref b)) c2):=(_,get?_update_seq gk (·.push (.ref b)));let ek:kz.take (j+1)=kz.take j++[k]:=by rw[b4,hkj];simp
  let ea:(kA.push (Value.ref b)).toList=kA.toList++[Value.ref b]:=by simp
  show fK (gZ gk rfl ?_ (by rw[fW];cbv) (be (dO (Array.size_push ..)) (by rw[fW];cbv)));show fS (rfl,H',kA.push (.ref b),c2,bs++[b],θ2,?_,by rw[ea,ekA,aY];rfl,by rw[aW,hk.1,ek,aW];rfl,λi c x q1 q2=>?_)
  rotate_left
  .rw[ek]at q2;let hl:=hk.1
   by_cases hi:i<bs.length
   .rw[cG hi]at q1;rw[cG (by cbv)]at q2;show kt _ _ (hk.2 i c x q1 q2)
   .rw[cS (by cbv)]at q1 q2;rw[<- hl]at q2;cases hd:i-bs.length with
    |zero=>rw[hd]at q1 q2;cases q1;cases q2;show hb
    |succ n=>rw[hd]at q1;simp at q1
  let:=Inv.repin (t':=s''.toks) (pl:=pf++[(a,lObj #[] e1,)]) ↑J2 (fk.re (J2.pin (kS,lObj kA e,) (by simp)).2.1) (λc u hc q=>(s1.2 c hc).trans q) hc2 (a4p _ _)
  o_head this
 case done=>
  ext s' ⟨H1,kA,e,bs,θ1,J,ekA,hk⟩;let hk':RowsIn s'.heap kA.toList kz:=by
   let e3:kz.take (0+vs.length)=kz:=ca (by cbv);rw[e3]at hk;rw[ekA];show a3d J hk
  let gk:s'.heap.get? kS=bN (lObj kA e):=(J.pin (kS,lObj kA e,) (by simp)).1;show fK (jj gk rfl ?_);show b1e J (fa.re (J.pin (a,lObj #[] e1,) (by simp)).2.1) (fk.re (J.pin (kS,lObj kA e,) (by simp)).2.1) hk' ok hlen hz λs' out n=>h H1 s' out n θ1
end
theorem a4q{α β:Type}:∀{kz:List (List Pz)}{xs:List α}{us:List β},xs.length=us.length->kz.zip us=(kz.zip (xs.zip us)).map λt=>(t.1,t.2.2,)
 |[],_,_,_=>rfl
 |_::_,[],[],_=>rfl
 |_::kz,_::xs,_::us,h=>by simp[a4q (kz:=kz) (xs:=xs) (us:=us) ↑h]
theorem a4r{α β:Type}:∀{kz:List (List Pz)}{xs:List α}{us:List β},xs.length=us.length->kz.zip xs=(kz.zip (xs.zip us)).map λt=>(t.1,t.2.1,)
 |[],_,_,_=>rfl
 |_::_,[],[],_=>rfl
 |_::kz,_::xs,_::us,h=>by simp[a4r (kz:=kz) (xs:=xs) (us:=us) ↑h]
theorem a5l:∀{T:List (List Pz×V×Value)},(∀t∈T,RelV t.2.1 t.2.2)->Vals (T.map λt=>t.2.1) (T.map λt=>t.2.2)
 |[],_=>.nil
 |t::T,h=>.cons (h t (.head _)) (a5l λu hu=>h u (.tail _ hu))
def b1f{kz:List (List Pz)}{xs:List V}{us out:List Value}(rv:Vals xs us)(k:SOutT kz us out):∃os,SOutT kz xs os/\Vals os out:=by
 let(ps,p1,p2,p3):=k;let(T,t1,t2):=perm_lift p1 (a4q rv.length);show(T.map λt=>t.2.1,(T.map λt=>(t.1,t.2.1,),?_,by rw[aX];rfl,?_),?_)
 .rw[a4r rv.length];show t1.map _
 .rw[t2]at p3;rw[bn]at p3 ⊢;show p3
 .rw[p2,t2,aX];show a5l λt ht=>a6R rv t.2 (ci (t1.mem_iff.mp ht)).2
section
variable{pf:List (Addr×Obj)}{σ:St}{l f:Addr}{xs:List V}{kz:List (List Pz)}{m:Nat}{Q:Value->Shared->Prop}
def a57{Θ:Hp->Prop}(hΘ:Θ H)(I:Inv X pf σ H s)(hl:SqL X.K H l xs)(ok:KzOk kz m)(hlen:kz.length=xs.length)(hz:xs.length<=100000)
  (turn:∀(i:Nat)(x:V)(v:Value)(k:List Pz),xs[i]?=bN x->RelV x v->kz[i]?=bN k->∀(H1:Hp)(s':Shared)(pl:List (Addr×Obj)),Θ H1->Inv X (pf++pl) σ H1 s'->wpAny (model X.prog X.w) X.A.in1.in1 (call (.ref f) [v]) (EP X (pf++pl) σ λy H'=>∃b,y=.ref b/\H' b=bN (.tup (k.map ptV))/\(∀c xs,H1 c=bN (.tup xs)->H' c=bN (.tup xs))/\Θ H') (λ_ _=>False) s')
  (h:∀(H1:Hp)(s':Shared)(t:Addr)(os:List V),Θ H1->Inv X pf σ (upd H1 t (.lst os)) s'->H1 t=ce->SOutT kz xs os->Q (.ref t) s'):wpAny (model X.prog X.w) X.A (call (.builtin "sorted") [.ref l] [(Str.ofString "key",.ref f,)]) Q E s:=by
 let(its,rv,pl,_):=I.list hl;let hle:its.length=xs.length:=rv.length.symm;show call_function_entry_kw iP iQ iR (ksk_s1 _ _) ?_;unfold fU.«sorted»;show fK (m:=checkCount "sorted" 1 1 _) (fS ?_);show fK (jq pl.isList ?_ (by rw[fW];cbv));show fK (ib ?_ (by rw[fW];cbv));let hsz:((s.heap.push (seqObj "list" #[] 0)).update s.heap.objs.size (Obj.mapSeq (·++its.toArray))).objs.size=s.heap.objs.size+1:=by
  rw[Heap.size_update,iN]
 let k1:∀b o,s.heap.get? b=bN o->((s.heap.push (seqObj "list" #[] 0)).update s.heap.objs.size (Obj.mapSeq (·++its.toArray))).get? b=bN o:=λb o e=>by
  let hlt:=Heap.lt_size e;rw[Heap.get?_update_ne _ _ _ _ (aZ hlt)];show Heap.get?_push_of_some _ e
 generalize (s.heap.push (seqObj "list" #[] 0)).update s.heap.objs.size (Obj.mapSeq (·++its.toArray))=g at k1 hsz ⊢;let ho:(g.push (seqObj "list" its.toArray 0)).get? g.objs.size=bN (seqObj "list" its.toArray 0):=Heap.get?_push_size _ rfl;show fK (gb (wpAny_call_entry_kw iU (_,ho,rfl) iV ?body (ksk_l1 _ _)))
 change wpAny (model X.prog X.w) X.A.in1.in1 (fU.«list.sort» ([.ref g.objs.size],[(Str.ofString "key",.ref f,)])) _ _ _
 rw[ksk_t1];unfold ksk_tree;show fK (jj ho rfl ?_);show fK (gZ ho rfl ?_ (by rw[bJ,fW];cbv) (bo _));obtain⟨e1,ho1⟩:∃e1,((g.push (seqObj "list" its.toArray 0)).update g.objs.size (Obj.mapSeq λ_=>(#[]:Array Value))).get? g.objs.size=bN (seqObj "list" #[] e1):=(_,get?_update_seq ho λ_=>#[]);show fK (iB ho1 rfl ?_);let k2:∀b o,s.heap.get? b=bN o->((g.push (seqObj "list" its.toArray 0)).update g.objs.size (Obj.mapSeq λ_=>(#[]:Array Value))).get? b=bN o:=λb o e=>by
  let hlt:=Heap.lt_size (k1 b o e);rw[Heap.get?_update_ne _ _ _ _ (aZ hlt)];show Heap.get?_push_of_some _ (k1 b o e)
 let hs2:((g.push (seqObj "list" its.toArray 0)).update g.objs.size (Obj.mapSeq λ_=>(#[]:Array Value))).objs.size=g.objs.size+1:=by rw[Heap.size_update,iN]
 generalize (g.push (seqObj "list" its.toArray 0)).update g.objs.size (Obj.mapSeq λ_=>(#[]:Array Value))=g2 at ho1 k2 hs2 ⊢;show fK (wpAny_newTuple ?_ (by change its.length<=_;rw[fW];cbv));show fK (ib ?_ (bo _));show gb ?_;let hn:∀b,@LE.le Nat _ s.heap.objs.size b->FpOk X pf H b:=λb hb=>I.fpOk hb (I.hok.fresh hb);let hga:s.heap.objs.size<=g.objs.size:=by rw[hsz];show cR _
 let fa:FpOk X pf H g.objs.size:=hn _ hga;let hkS:(g2.push (seqObj "tuple" its.toArray 0)).objs.size=g.objs.size+2:=by rw[iN,hs2]
 let fk0:FpOk X pf H (g2.push (seqObj "tuple" its.toArray 0)).objs.size:=hn _ (by rw[hkS];show be hga (fu _ _));let hne:g.objs.size≠(g2.push (seqObj "tuple" its.toArray 0)).objs.size:=by rw[hkS];show aZ (Nat.lt_add_of_pos_right (by decide))
 let fk:FpOk X (pf++[(g.objs.size,lObj #[] e1,)]) H (g2.push (seqObj "tuple" its.toArray 0)).objs.size:=by
  let(f0,f1,f2,f3,f4,f5):=fk0;show(f0,f1,f2,f3,f4,λp hp=>?_);rw[<- bA]at hp;let hp||hp:=aO.mp hp
  .show f5 p hp
  .rw[aR.mp hp];show hne
 let I3:Inv X (pf++[(g.objs.size,lObj #[] e1,),((g2.push (seqObj "tuple" its.toArray 0)).objs.size,lObj #[] 0,)]) σ H { s with heap:=(g2.push (seqObj "tuple" its.toArray 0)).push (seqObj "list" #[] 0) }:=by
  let J:Inv X pf σ H { s with heap:=(g2.push (seqObj "tuple" its.toArray 0)).push (seqObj "list" #[] 0) }:=I.kept (t':=s.toks) λb o e=>Heap.get?_push_of_some _ (Heap.get?_push_of_some _ (k2 b o e));show J.pins_of λp hp=>?_;let hp||hp:=aO.mp hp
  .show J.pin p (bQ _ hp)
  .let rfl||hp:=aT.mp hp
   .show(Heap.get?_push_of_some _ (Heap.get?_push_of_some _ ho1),fa.1,fa.2.1,fa.2.2.1,a4p _ _)
   .rw[aR.mp hp];show(Heap.get?_push_size _ rfl,fk0.1,fk0.2.1,fk0.2.2.1,a4p _ _)
 show a9A (vs:=its) hΘ I3 fa fk ok (by rw[hlen,hle]) (by cbv) (λi v k hv hk H1 s' pl' θ J=>?_) λH1 s' out n θ ko J fa' ga=>(_,rfl,?_)
 .let(x,hx,rx):=rv.tog hv;show turn i x v k hx rx hk H1 s' pl' θ J
 .let(os,so,ro):=b1f rv ko;show fS (_,rfl,h H1 _ _ os θ ?_ fa'.1 so);let s1:=Heap.SameBut.update s'.heap g.objs.size (Obj.mapSeq λ_=>out.toArray);obtain⟨c2,hc2⟩:∃c2,(s'.heap.update g.objs.size (Obj.mapSeq λ_=>out.toArray)).get? g.objs.size=bN (seqObj "list" out.toArray c2):=(_,get?_update_seq ga λ_=>out.toArray);let hol:os.length<=sizeLine:=by
   let(ps,p1,p2,_):=so;rw[p2,aM,p1.length_eq,dI,fW];cbv
  show J.adopt (t':=s'.toks) fa' (λc u hc q=>(s1.2 c hc).trans q) (hol,out,c2,ro,hc2) (_,hc2)
end
def b2k(K:Fg)(P:Addr)(lp:Pos)(q:Str)(N:List Str)(t:TE)(Q:VK):VK:=λv H1=>∃p xs kz m,∃Θ:Hp->Hp->Prop,v=.ref p/\SqL K H1 p xs/\xs.length<=100000/\Tab H1 P lp q/\kz.length=xs.length/\KzOk kz m /\
 (∀H2,b6H P H1 H2->Tab H2 P lp q->Θ H2 H2)/\(∀H2 H',Θ H2 H'->∀b o u,H2 b=bN (.frz o u)->H' b=bN (.frz o u)) /\
 (∀(i:Nat) x k,xs[i]?=bN x->kz[i]?=bN k->∀H2 H',Θ H2 H'->t (start N [x]) H' λy H3=>∃b,y=.ref b/\H3 b=bN (.tup (k.map ptV))/\(∀c xs,H' c=bN (.tup xs)->H3 c=bN (.tup xs))/\Θ H2 H3) /\
 ∀H2 H' tA os,Θ H2 H'->H' tA=ce->SOutT kz xs os->Q (.ref tA) (upd H' tA (.lst os))
def b6O(K:Fg)(P:Addr)(lp:Pos)(q:Str)(N:List Str)(ta t:TE):TE:=fun σ H Q=>ta σ H (b2k K P lp q N t Q)
def b1g{X:Cx}{a:Expr}{ta t:TE}{pN pos kp lpos:Pos}{params:ir}{body:Expr}{scope:Scope}{P:Addr}{q x:Str}{N:List Str}{k:Nat}(hg:Gl X "sorted")(hm:X.mg "sorted"=ce)(hr:Room (k+3) X.A)(L:LamAt X params body scope P q x N)(ha:PE X a ta)
  (ht:∀(f c':Addr)(A:Around)(outer:List Env)(s:Shared)(H:Hp),Room k (A.deeper (envOfC q scope s.heap.objs.size f (.ref c')))->PE (cxOf CX0 X.prog X.w X.K X.mg X.base N q scope f (.ref c') A outer s H E0).nox body t)
  (he:fP [a] X.env=(js,eval a X.env,)::fP [] X.env:=by rfl) :
  PE X (.Call (.Name "sorted" pN) [a] [(bN "key",.Lambda params body scope lpos,kp)] pos) (b6O X.K P lpos q N ta t):=by
 ext pins s σ H Q I h;show ij (a3J I hg hm (show gq "sorted"=bN (.builtin "sorted") by decide +kernel) ?_);show callWith_kw (thn (b6I ha he pos pins s σ H (one1 (b2k X.K P lpos q N t Q)) I h) λus s1 (vs,H1,I1,r,q0)=>?_) (by rw[he];rfl) (by rw[he];rfl);let(v,rfl,q1):=b34 q0;let(u,rfl,ru):=a2X r;let(p,xs,kz,m,Θ,rfl,hl,hz,hT,hlen,ok,θ0,θf,hk,hQ):=q1;cases ru;let(c,hc1,hc2):=L.cd;show kws_cons (b1a I1 hT L.qn L.df L.cl hc1 hc2 L.gP L.bi λf c' H2 pm ctv s2 oc I2 hcd hT2 kp=>?_);show kws_nil ?_;let hl2:SqL X.K H2 p xs:=by
  let(hl||(o,hl))||hl:=hl
  .show .inl (.inl (kp _ _ hl λz=>by let(ps,e,_):=hT;rw[z,e]at hl;cases hl))
  .show .inl (.inr (o,kp _ _ hl λz=>by let(ps,e,_):=hT;rw[z,e]at hl;cases hl))
  .show .inr hl
 show a57 (Θ:=Θ H2) (θ0 H2 kp hT2) I2 hl2 ok hlen hz (λi x' v k' hx rx hk' H3 s' pl θ J=>?_) λH3 s' tA os θ J hn so=>(.ref tA,_,J.unpinned,rfl,hQ H2 H3 tA os θ hn so);let hcr:s'.heap.CodeRec (.ref c') q:=(show s'.heap.get? c'=bN oc/\ObjOk X.prog X.w H3 s'.heap c' (a2e c' q) from J.hok c' _ (θf _ _ θ _ _ _ hcd)).2.1;let hr2:Room (k+1) X.A.in1.in1:=Room.in1 (Room.in1 hr);show i8 (ii (b33 (k:=k+1) L.sc (L.bd pm ctv c') hr2 J.env0.in1.in1 (.cons rx .nil) rfl (J.pin (f,_,) (by simp)).1 hcr (ht f c' X.A.in1.in1 X.stack s' H3 (hr2.deeper _)) (hk i x' k' hx hk' H2 H3 θ)) λr s'' hq=>?_);cases r with
 |error e=>show hq.elim
 |ok fl=>
  cases fl with
  |ret u=>show J.after hq
  |next=>show hq.elim
  |brk=>show hq.elim
  |cont=>show hq.elim
end
section
open Tim
def a6V(P:Addr)(lp:Pos)(q:Str)(N:List Str)(te t:E3):E3:=fun σ G R=>te σ G λx G1=>∃p ws kz m,x=.ref p/\G1 p=bN (.lst ws)/\ws.length<=100000/\G1 P=bN (.tab lp q)/\kz.length=ws.length/\KzOk kz m /\
 (∀(i:Nat) w k,ws[i]?=bN w->kz[i]?=bN k->t (a04 N [w]) G1 λy G2=>y=tupZ k/\G2=G1)/\∀tA os,G1 tA=ce->SOutT kz ws os->R (.ref tA) (put G1 tA (.lst os))
theorem a5m{K:Fg}{H:Hp}:∀{T:List (List Pz×Z×V)},(∀t∈T,Rep K H t.2.1 t.2.2)->Reps K H (T.map λt=>t.2.1) (T.map λt=>t.2.2)
 |[],_=>.nil
 |t::T,h=>.cons (h t (.head _)) (a5m λu hu=>h u (.tail _ hu))
def a9B{K:Fg}{H:Hp}{kz:List (List Pz)}{ws:List Z}{vs os:List V}(rs:Reps K H ws vs)(so:SOutT kz vs os):∃zs,SOutT kz ws zs/\Reps K H zs os:=by
 let(ps,p1,p2,p3):=so;let(T,t1,t2):=perm_lift p1 (a4q rs.length);show(T.map λt=>t.2.1,(T.map λt=>(t.1,t.2.1,),?_,by rw[aX];rfl,?_),?_)
 .rw[a4r rs.length];show t1.map _
 .rw[t2]at p3;rw[bn]at p3 ⊢;show p3
 .rw[p2,t2,aX];show a5m λt ht=>a6S rs t.2 (ci (t1.mem_iff.mp ht)).2
def b37{X:Cx}{a:Expr}{te t:E3}{pN pos kp lpos:Pos}{params:ir}{body:Expr}{scope:Scope}{P:Addr}{q x:Str}{N:List Str}{k:Nat}(hg:Gl X "sorted")(hm:X.mg "sorted"=ce)(hr:Room (k+3) X.A)(L:LamAt X params body scope P q x N)(ha:QE X a te)
  (ht:∀(f c':Addr)(A:Around)(outer:List Env)(s:Shared)(H:Hp),Room k (A.deeper (envOfC q scope s.heap.objs.size f (.ref c')))->QE (cxOf CX0 X.prog X.w X.K X.mg X.base N q scope f (.ref c') A outer s H E0).nox body t)
  (he:fP [a] X.env=(js,eval a X.env,)::fP [] X.env:=by rfl) :
  QE X (.Call (.Name "sorted" pN) [a] [(bN "key",.Lambda params body scope lpos,kp)] pos) (a6V P lpos q N te t):=
 ⟨a0M (b1g (t:=low X.K t) hg hm hr L ha.p (λf c' A outer s H r=>(ht f c' A outer s H r).p) he) fun τ H Q hx=>hx.un fun σ G R hs hg h up=>(σ,G,_,hs,hg,h,λw G1 v H1 hw rv hg1 t1=>by
  let(p,ws,kz,m,rfl,ew,hz,hT,hl,ok,hk,hR):=hw;rw[a0l]at rv;let(vs,ev,rs):=hg1 p _ ew;let(ps,hP,hO):=(show Tab H1 P lpos q from hg1 P _ hT);show(p,vs,kz,m,λH2 H'=>RH X.K G1 H'/\TK X.K H1 H'/\∀b o u,H2 b=bN (.frz o u)->H' b=bN (.frz o u),rv,SqL.of ev,by rw[<- rs.length];show hz,(ps,hP,hO),by rw[hl,rs.length],ok,λH2 kp T2=>?_,λH2 H' θ=>θ.2.2,λi x' k' hx' hk' H2 H' θ=>?_,λH2 H' tA os θ hn so=>?_)
  .let tk:=b35 (K:=X.K) hP kp;show(λb o e=>?_,tk,λ_ _ _ z=>z)
   by_cases hb:b=P
   .subst hb;rw[hT]at e;cases e;show T2
   .let(u,z):=(hg1 b o e).some;show (hg1 b o e).stay tk ((kp _ _ z hb).trans z.symm)
  .let(w',ew',rw'):=rs.tog hx';show(a04 N [w'],G1,_,.start (.cons (rw'.mono θ.2.1) .nil),θ.1,hk i w' k' ew' hk',λz G' v' H3 (e1,e2) r g t'=>by
    subst e1 e2;unfold tupZ at r;rw[a0S]at r;let(b,ys,e3,e4,rr):=r;let ey:ys=k'.map ptV:=reps_pts.mp rr;subst ey;show(b,e3,e4,t'.tup,g,θ.2.1.trans t',λb o u q=>t'.frd _ _ _ (θ.2.2 _ _ _ q)))
  .let(zs,so',rz):=a9B (rs.mono θ.2.1) so;show up _ _ _ _ (hR tA zs (θ.1.out hn) so') (by rw[a0l]) (θ.1.set (.new hn) (a00 rz (.new hn))) (t1.trans (θ.2.1.trans (.new hn))))⟩
def b38{P:Addr}{lp:Pos}{q:Str}{N:List Str}{te t:E3}{σ:S3}{G:Hq}{R:K3}(h:te σ G λx G1=>∃p ws kz m,x=.ref p/\G1 p=bN (.lst ws)/\ws.length<=100000/\G1 P=bN (.tab lp q)/\kz.length=ws.length/\KzOk kz m /\
 (∀(i:Nat) w k,ws[i]?=bN w->kz[i]?=bN k->t (a04 N [w]) G1 λy G2=>y=tupZ k/\G2=G1)/\∀tA os,G1 tA=ce->SOutT kz ws os->R (.ref tA) (put G1 tA (.lst os))):a6V P lp q N te t σ G R:=h
section
variable{k j:Nat}
def b8Y{a body:Expr}{te tb:E3}{pN kp lpos:Pos}{params:ir}{scope:Scope}{P0 c:Addr}{q y:Str}{N:List Str}(hm:X.mg "sorted"=ce)(hr:Room j X.A)(ha:QE X a te)(hc:X.env.code=.ref c)(hd:PySem.W.codeHdIn X.K c P0=cp)(gP:fX≠P0)(bi:X.base.BuiltinsAt X.mg P0)
  (ht:∀(f c':Addr)(A:Around)(outer:List Env)(s:Shared)(H:Hp),Room k (A.deeper (envOfC q scope s.heap.objs.size f (.ref c')))->N.Nodup->QE (cxOf CX0 X.prog X.w X.K X.mg X.base N q scope f (.ref c') A outer s H E0).nox body tb)
  (sc:FnScope N [y] scope) (qn:q=X.env.qual++"<lambda>") (df:jr params X.env=([],[],)) (cl:iw scope X.env=pure [])
  (bd:∀(pm ctv:Value)(c':Addr)(us:List Value),us.length=1->g9 (PySem.W.kla_fn "<lambda>" q params body scope [] pm (.ref c') ctv) (us,[])=pure ([y].zip us)) (hk:k+3<=j:=by decide) (hg:Gl X "sorted":=by rfl) (hn:nst a=cp:=by rfl) :
  QE X (.Call (.Name "sorted" pN) [a] [(bN "key",.Lambda params body scope lpos,kp)] pos) (a6V P0 lpos q N te tb):=
 b37 hg hm (hr.mono hk) (sc,qn,df,cl,(c,hc,hd),gP,bi,bd) ha (λf c' A outer s H r=>ht f c' A outer s H r sc.nd) (se_ hn)
end
end
end L2
set_option maxHeartbeats 4000000
namespace Lw
open PySem L2
noncomputable def top(i:Nat):Stmt:=PySem.Challenge.pw_twotimes_k71_forgotten.main.body.getD i (.Pass (0,0,0,0))
def UnLt(n:Nat):Prop:=n+66<cLine
def b6P{A:Around}{k:Nat}(hr:Room k A):UnLt A.units:=by let:=hr.un;unfold UnLt;cbv
noncomputable def tF:List (Str×Nat):=("is_name",10,)::("is_moment",11,)::("is_stretch",12,)::("earlier_end",13,)::("check_name",15,)::("check_stretch",16,)::("check_in_reach",17,)::("ahead_of",20,)::("with_alike_joined",22,)::("from_on",21,)::("put_on",19,)::("check_telling",24,)::("line_behind",25,)::("run_of",32,)::("is_standing",33,)::("stands_at",34,)::("keys_ever",29,)::("tiled_on",31,)::("tiles_of_key",30,)::("tiles_of",28,)::("tiles_from",38,)::("_law_cell_at",40,)::("_law_mix",41,)::("_law_parts",42,)::("_law_names",43,)::("_law_telling",44,)::("_law_left",45,)::("_law_forgotten",46,)::("_law_right",47,)::("law",48,)::[]
noncomputable def tB:List Str:=["all","isinstance","str","len","bool","int","min","max","sorted","range","dict","list"]
noncomputable def a4s:List (Str×Str×Nat×Nat):=("known_line","Tiled.known_line",35,2,)::("knowings","Sheet.knowings",26,2,)::("tiles","Tiled.tiles",35,0,)::("keep_line","Tiled.keep_line",35,1,)::("tell","Sheet.tell",26,1,)::("__init__","Sheet.__init__",26,0,)::[]
noncomputable def a4t:List Str:=["last","kept"]
noncomputable def a4u:List (Str×Str×Nat×Nat):=("known_line","Tiled.known_line",35,2,)::("knowings","Sheet.knowings",26,2,)::("tiles","Tiled.tiles",35,0,)::("keep_line","Tiled.keep_line",35,1,)::("tell","Sheet.tell",26,1,)::("first","Short.first",37,1,)::("check_knowing","Short.check_knowing",37,3,)::("keys_at","Sheet.keys_at",26,6,)::("line_at","Sheet.line_at",26,5,)::("forget","Short.forget",37,2,)::("__init__","Short.__init__",37,0,)::[]
noncomputable def a4v:List Str:=["last","kept","lowest"]
set_option genInjectivity false in
structure Ad where
 c_Tiled:Addr
 c_Short:Addr
 tP:Addr
abbrev lamO:O:=.tab (190,28,190,59) "tiles_from.<locals>.<lambda>"
structure Txt (K:Fg) (mg:Str->Option Value) (base:Heap) (a:Ad):Prop where
 br:Br K mg
 f:AllF K top tF
 b0:AllB K tB
 gP:fX≠a.tP
 bi:base.BuiltinsAt mg a.tP
 lam:FXL K "tiles_from" a.tP
 mg_Tiled:mg "Tiled"=bN (.ref a.c_Tiled)
 cl_Tiled:Cls K a.c_Tiled
 m_Tiled:AllM K top a.c_Tiled a4s
 n_Tiled:AllN K a.c_Tiled a4t
 mk_Tiled:PySem.W.makesIn K a.c_Tiled=cp/\PySem.W.keepIn K (.ref a.c_Tiled)=cp
 mg_Short:mg "Short"=bN (.ref a.c_Short)
 cl_Short:Cls K a.c_Short
 m_Short:AllM K top a.c_Short a4u
 n_Short:AllN K a.c_Short a4v
 mk_Short:PySem.W.makesIn K a.c_Short=cp/\PySem.W.keepIn K (.ref a.c_Short)=cp
 ow_Short:OwnK K a.c_Short
 ki_Short_Tiled:PySem.W.kitOne K (.ref a.c_Short) (.ref a.c_Tiled)=bN cp
 cm_Tiled:ClsM K a.c_Tiled "__init__"
 c_LONGEST_NAME:∃t,mg "LONGEST_NAME"=bN (.int 8 t)
 c_LAST_MOMENT:∃t,mg "LAST_MOMENT"=bN (.int 1000000000000 t)
def Txt.b{K:Fg}{mg:Str->Option Value}{base:Heap}{a:Ad}(T:Txt K mg base a)(i:Nat){x:Str}(h:tB[i]?=bN x:=by rfl):mg x=ce:=T.br _ _ (T.b0 i x h)
noncomputable def Ad.cK(a:Ad)(b:Bool):Addr:=cond b a.c_Short a.c_Tiled
def clK{K:Fg}{mg:Str->Option Value}{base:Heap}{a:Ad}(T:Txt K mg base a)(b:Bool):Cls K (a.cK b):=by
 cases b
 .show T.cl_Tiled
 .show T.cl_Short
def naK{K:Fg}{mg:Str->Option Value}{base:Heap}{a:Ad}(T:Txt K mg base a)(b:Bool)(i:Nat){x:Str}(h:a4t[i]?=bN x:=by rfl)(h':a4v[i]?=bN x:=by rfl):NoAttr K (a.cK b) x:=by
 cases b
 .show T.n_Tiled i x h
 .show T.n_Short i x h'
def mxK{K:Fg}{mg:Str->Option Value}{base:Heap}{a:Ad}(T:Txt K mg base a)(b:Bool)(i:Nat){r:Str×Str×Nat×Nat}(h:a4s[i]?=bN r:=by rfl)(h':a4u[i]?=bN r:=by rfl):MX K (a.cK b) r.1 r.2.1 (a20 (top r.2.2.1) r.2.2.2):=by
 cases b
 .show T.m_Tiled i r h
 .show T.m_Short i r h'
set_option hygiene false in
local macro_rules | `(tactic| walk_at "in")=>`(tactic| (ext f cdv A outer s H E ws G R hr nd h;let hu:=b6P hr))
set_option hygiene false in
local macro_rules | `(tactic| ac_rfl)=>`(tactic| repeat' first
 | ((with_reducible change QE _ _ _);first | ((with_reducible change QE _ (.Name _ _) _);first | show qw (by first | show cxN | show cxcN | show cxN') (by with_reducible first | show at_0 | show at_1 | show at_2 | show at_3 | show at_4 | show at_5 | show at_6 | show at_7 | show at_8 | show at_9) | show b1R (a6W rfl T.c_LONGEST_NAME) | show b1R (a6W rfl T.c_LAST_MOMENT) | show q_ty (a2W (v:=.ty "str") rfl (T.b 2) rfl rfl) | show q_ty (a2W (v:=.ty "bool") rfl (T.b 4) rfl rfl) | show q_ty (a2W (v:=.ty "int") rfl (T.b 5) rfl rfl) | show q_ty (a2W (v:=.ty "dict") rfl (T.b 10) rfl rfl) | show q_ty (a2W (v:=.ty "list") rfl (T.b 11) rfl rfl)) | show a3v | show b7U | show b5z | show q_bl | refine' b3e x_sl ?_ ?_ ?_ | refine' q_ix x_ix ?_ ?_ (λ_ _=>rfl) | apply q_op | ((with_reducible change QE _ (.Call (.Name "len" _) _ _ _) _);refine' q_B b3x (T.b 3) ?_ (hv:=PySem.boot_len)) | ((with_reducible change QE _ (.Call (.Name "min" _) _ _ _) _);refine' q_B (b8a rfl) (T.b 6) ?_) | ((with_reducible change QE _ (.Call (.Name "max" _) _ _ _) _);refine' q_B (b79 rfl) (T.b 7) ?_) | ((with_reducible change QE _ (.Call (.Name "all" _) _ _ _) _);refine' q_B (b51 rfl) (T.b 0) ?_) | ((with_reducible change QE _ (.Call (.Name "isinstance" _) _ _ _) _);refine' q_B b8b (T.b 1) ?_) | refine' q_c (by walk_at "c") hr ?_ | apply b7Y | apply b7Z | ((with_reducible change QE _ (.Call (.Attribute _ "append" _) _ _ _) _);refine' q_bm PySem.F.plainAttrs_list PySem.F.slot_list_append PySem.F.type_list_append b0J ?_ ?_) | ((with_reducible change QE _ (.Call (.Attribute _ "extend" _) _ _ _) _);refine' q_bm PySem.F.plainAttrs_list PySem.F.slot_list_extend PySem.F.type_list_extend b0K ?_ ?_) | ((with_reducible change QE _ (.Call (.Attribute _ "join" _) _ _ _) _);refine' q_bm PySem.F.plainAttrs_str PySem.F.slot_str_join PySem.F.type_str_join b10 ?_ ?_) | ((with_reducible change QE _ (.Call (.Attribute _ "get" _) _ _ _) _);first | refine' q_bm PySem.F.plainAttrs_dict PySem.F.slot_dict_get PySem.F.type_dict_get (a9c hu) ?_ ?_ | refine' q_bm PySem.F.plainAttrs_dict PySem.F.slot_dict_get PySem.F.type_dict_get (b3R hu) ?_ ?_) | apply b0y | refine' b3a ?_ ?_ ?_ ?_ ?_ | apply b7W | refine' q_un b78 ?_ | apply b0A | apply a3R | apply b7V | apply q_if)
 | ((with_reducible change QA _ _ _);first | show a0z | refine' q_k ?_ ?_)
 | ((with_reducible change OpQ _ _ _);first | ((with_reducible change OpQ _ (fV .Add) _);show a5T) | ((with_reducible change OpQ _ (fR .Eq) _);show (o_eq hu)) | ((with_reducible change OpQ _ (fV .FloorDiv) _);show b5V) | ((with_reducible change OpQ _ (fR .Gt) _);show o_gt) | ((with_reducible change OpQ _ (fR .Is) _);show o_is) | ((with_reducible change OpQ _ (fR .IsNot) _);show b3t) | ((with_reducible change OpQ _ (fR .Lt) _);show o_lt) | ((with_reducible change OpQ _ (fR .LtE) _);show o_le) | ((with_reducible change OpQ _ (fV .Mod) _);show b5W) | ((with_reducible change OpQ _ (fV .Mult) _);show b76) | ((with_reducible change OpQ _ (fR .NotEq) _);show (o_ne hu)) | ((with_reducible change OpQ _ (fR .NotIn) _);show (b3r hu)) | ((with_reducible change OpQ _ (fV .Pow) _);show b77) | ((with_reducible change OpQ _ (fV .Sub) _);show b5U) | ((with_reducible change OpQ _ (gM .Add) _);show b1X))
 | ((with_reducible change gS _ _=_);first | show a2q _ | with_unfolding_all rfl)
 | ((with_reducible change QT _ _ _);first | apply a23 | refine' b0z ?_ ?_ ?_ ?_ ?_ | refine' QW.qt (e:=.BoolOp _ _ _) ?_ | apply b1T | refine' b5F (a:=.Call _ _ _ _) ?_ | refine' b3c ?_ (λ_=>rfl))
 | ((with_reducible change QW _ _ _);first | apply b1S | apply b5C | apply b5B | apply q_or)
 | ((with_reducible change QO _ _ _);first | show b0B | apply b5I)
 | ((with_reducible change QI _ _ _ _);first | ((with_reducible change QI _ _ (.Call (.Name "range" _) _ _ _) _);first | refine' a7l rfl (T.b 9) ?_ | refine' a2g rfl (T.b 9) ?_) | apply a1E)
 | ((with_reducible change QP _ _ _);first | apply p_nm | refine' p_tp rfl ?_)
 | ((with_reducible change QPg _ _ _);first | show b8X | apply b6M)
 | ((with_reducible change Nm _ _ _);show nwI (by first | show cxN | show cxcN | show cxN') (by with_reducible first | show at_0 | show at_1 | show at_2 | show at_3 | show at_4 | show at_5 | show at_6 | show at_7 | show at_8 | show at_9) nd)
 | ((with_reducible change QS _ _ _);first | apply a1h | refine' z_st ?_ ?_ | refine' a2s ?_ | apply z_if | refine' b5R ?_ ?_ | refine' a4i gy.never rfl ?_ ?_ ?_ | apply z_au | show b5M | show b3i | show b5N | show b5Q)
 | ((with_reducible change QSs _ _ _);first | show a24 | apply a0y | apply a0d)
 | ((with_reducible change QIfs _ _ _);first | show b3l | apply a4j)
 | ((with_reducible change Cal _ _ _ _ _ _ _ _ _);walk_at "c")
 | ((with_reducible change _<=_);decide))
local macro_rules | `(tactic| walk_at "r4")=>`(tactic| (ext _ _ _ _;ac_rfl))
set_option hygiene false in
local macro_rules | `(tactic| walk_at "r5")=>`(tactic| (ext _ _ _ _ nd;ac_rfl))
set_option hygiene false in
local macro_rules | `(tactic| walk_at "c")=>`(tactic| first | show a5v T | show a3z T | show a3i T | show a2B T | show a3k T | show a15 T | show a0D T | show a4A T | show a1j T | show a5t T | show a6c T | show a17 T | show a1g T | show a6f T | show a2F T | show a3C T | show a3G T | show a1d T | show a2p T | show a4M T | show a3o T | show a7E T | show b7k T | show a66 T | show b1J T | show a7O T | show a97 T | show a5F T | show b1M T)
def a6W(hg:Gl X x)(hm:∃t,X.mg x=bN (.int i t))(hd:(x==("__debug__":Str))=js:=by decide):PE X (.Name x pos) (tC (.int i)):=by
 let(t,h):=hm;show a7T hg h (t,rfl) hd
def a5n(t:Addr):P3:=λws G R=>∃b ns,ws=[.scr b ns]/\ns.length<=63/\G t=bN lamO/\∀G',R (.bl cp) G'
def b1h(hl:ns.length<=63):a5n t [.scr b ns] (put (λ_=>ce) t lamO) λw _=>w=.bl cp:=(_,_,rfl,hl,a0a,λ_=>rfl)
def lenK(h:Nat.ble n 1000=cp):n<=sizeLine:=cF (a0q (Nat.le_of_ble_eq_true h))
def a10(h:n<=1000):n<=sizeLine:=cF (a0q h)
def b6Q(x w:Int):Prop:=w=0\/(w=1/\0<=x/\x<536870909)
abbrev RowO(x w:Int):O:=.lst [.int x,.int w]
def RowAt(G:Hq)(r:Addr):Prop:=∃x w,G r=bN (RowO x w)/\b6Q x w
structure NxOf (P nx:C3):Prop where
 h:∀σ G,P σ G->nx σ G
def i_sq{t u:X3}{nx:C3}{rt:K3}{bk ct:C3}{σ:S3}{G:Hq}(h:∀n,NxOf (u nx rt bk ct) n->t n rt bk ct σ G):uSeq t u nx rt bk ct σ G:=h _ ⟨λ_ _ h=>h⟩
def i_nx{P n:C3}{σ:S3}{G:Hq}(e:NxOf P n)(h:P σ G):n σ G:=e.h _ _ h
local macro_rules | `(tactic| walk_at "sd")=>`(tactic| first | assumption | (show a10 (by first | decide | cbv | (simp;done) | (simp;cbv))) | (show a0q (by first | decide | cbv | (simp;done) | (simp;cbv))) | decide | cbv)
local macro_rules | `(tactic| walk_at "hp")=>`(tactic| first | assumption | show a0a | (show a0e ?_ (by assumption);walk_at "hp") | (show Sm.get (by assumption) ?_;walk_at "hp"))
local macro_rules | `(tactic| walk_at "go1")=>`(tactic| with_reducible (first
 | show i_sq λ_ _=>?_ | show b8c (by with_unfolding_all rfl) ?_ | apply i_c | apply i_op | apply i_un | apply b57 | apply b3z | apply b8d | apply i_or | apply b8e | apply b58 | apply b8f | apply b59 | apply i_if
 | apply b8g | apply i_truI | apply i_truB | apply i_sl | apply b0L | apply b6a | apply b8h | apply b6b | apply b8i | apply b8j | apply i_cb | apply i_uss | apply b8k | apply i_bm | apply b6c
 | apply b6d | apply b6e | apply b8l | apply i_retN | apply b8m | apply b8n | apply b8o | show i_aug (by with_unfolding_all rfl) ?_ | apply i_break | apply i_cont | apply b6l | apply b8v | apply i_iL | apply i_iT | apply i_iS | apply b8w | apply b8x | apply i_wkC | apply b8y | apply b8z | apply i_tt
 | apply b6f | apply i_I0 | apply b8p | apply i_CI | apply i_CS | apply b3A | apply i_isB | apply b6g | apply i_eqB | apply b6h | apply b8q | apply i_inS | apply b6i | apply i_nm | show a4k (by with_unfolding_all rfl) ?_ | apply i_lenT | apply b6j | apply i_mm | apply b8u
 | apply ifT | apply ifF | apply ifNN | apply ifNI | apply ifNS | apply ifNU | apply ifMN | apply ifMI | apply ifMS | apply ifMU | show a4k at0 ?_ | show a4k at1 ?_ | show a4k at2 ?_ | apply i_find | apply i_iRev | apply i_iR3 | apply i_iZip | apply b6v | apply b3M | apply b3N | apply b6w | apply b6x | apply i_disp | apply i_pcons | apply i_pnil | show(_,rfl,?_) | show i_nx (by assumption) ?_))
local macro_rules | `(tactic| walk_at "go")=>`(tactic| repeat walk_at "go1")
local macro_rules | `(tactic| lk)=>`(tactic| walk_at "go")
def a7D:P3:=λws G R=>∃p ns k,ws=[.scr p ns,.int k]/\0<=k/\∀i,R (.int i) G
variable{P:fO}{w:World}{K:Fg}{mg:Str->Option Value}{base:Heap}{a:Ad}
set_option tactic.hygienic true in
def a7E(T:Txt K mg base a):Cal P w K mg base CX0 1 "_law_cell_at" (lowP K a7D):=by
 show fnc 2 (N:=["script","k"]) T.br (T.f 21 _ rfl) ?_;walk_at "in";show(_,(by ac_rfl),?_);let(p,ns,k,rfl,hk,q):=h;lk;show ifD (λc=>?_) λ_=>?_
 .let(j,rfl):=cO hk;let hj:j<ns.length:=by cbv
  lk;show b8r (a1A (bf hj)) (q _)
 .lk;show q _
def RowAt.new(h:RowAt G r)(n:G p=ce):RowAt (put G p o) r:=by
 let(x,w,e,k):=h;show(x,w,a0e e n,k)
def RowAt.at{G:Hq}{r:Addr}{x w:Int}(k:b6Q x w):RowAt (put G r (RowO x w)) r:=(x,w,a0a,k)
structure Rw where
 b:Int
 e:Option Int
 w:List Z
@[reducible] noncomputable def oz:Option Int->Z
 |none=>.non
 |some i=>.int i
def b6R(h:oz x=oz y):x=y:=by
 cases x<;>cases y<;>first |rfl |cases h<;>rfl
noncomputable def Rw.z(r:Rw):Z:=.tup (.int r.b::oz r.e::r.w)
def Rw.z_inj{r s:Rw}(h:r.z=s.z):r=s:=by
 let(b,e,w):=r;simp only[Rw.z,Z.tup.injEq,cV.injEq,Z.int.injEq]at h;let(rfl,a,rfl):=h;rw[b6R a]
noncomputable def bef(t:Int):Option Int->Bool
 |none=>cp
 |some e=>decide (t<e)
noncomputable def Rw.has(r:Rw)(t:Int):Bool:=decide (r.b<=t)&&bef t r.e
def Rw.good(r:Rw):Prop:=bef r.b r.e=cp
noncomputable def val(l:List Rw)(t:Int):Option (List Z):=(l.find? (·.has t)).map (·.w)
def a1o:val [] t=ce:=rfl
def a0u:val (r::l) t=if r.has t=cp then bN r.w else val l t:=by
 unfold val;rw[bP];cases h:r.has t<;>simp
def a0O:val (l++m) t=(val l t).or (val m t):=by
 unfold val;rw[fy];cases h:l.find? _<;>simp
def Lt(r s:Rw):Prop:=∃e,r.e=bN e/\e<=s.b
def Lt2(r s:Rw):Prop:=∃e,r.e=bN e/\e<=s.b/\(e=s.b->r.w≠s.w)
def Rise(l:List Rw):Prop:=(∀r∈l,r.good)/\l.Pairwise Lt
def Can(l:List Rw):Prop:=(∀r∈l,r.good)/\l.Pairwise Lt2
def Lt2.lt{r s:Rw}(h:Lt2 r s):Lt r s:=let (e,a,b,_):=h;(e,a,b)
noncomputable def Can.rise(h:Can l):Rise l:=(h.1,h.2.imp Lt2.lt)
def Can.nil:Can []:=(λ_ h=>by simp at h,.nil)
def Rise.nil:Rise []:=Can.nil.rise
def Can.tail(h:Can (r::l)):Can l:=(λs a=>h.1 s (.tail _ a),(bI.mp h.2).2)
def Rise.tail(h:Rise (r::l)):Rise l:=(λs a=>h.1 s (.tail _ a),(bI.mp h.2).2)
def a7F{r:Rw}(h:r.good):r.has r.b=cp:=by
 unfold Rw.has;rw[h];simp
noncomputable def Lt.has(h:Lt r s)(a:r.has t=cp):s.has t=js:=by
 let(e,c,d):=h;unfold Rw.has at a ⊢;rw[c]at a;simp only[bef,bW,decide_eq_true_eq]at a
 let:decide (s.b<=t)=js:=decide_eq_false (by lia)
 rw[this,ei]
def Lt.b(g:r.good)(h:Lt r s):r.b<s.b:=by
 let(e,a,c):=h
 let:bef r.b r.e=cp:=g
 rw[a]at this;simp only[bef,decide_eq_true_eq]at this
 lia
def a4w(h:∀r∈l,r.has t=js):val l t=ce:=by simp_all[val]
def b1i{l:List Rw}{t:Int}{w:List Z}(h:val l t=bN w):∃r∈l,r.has t=cp/\r.w=w:=by
 induction l with
 |nil=>cases h
 |cons r l ih=>
  rw[a0u]at h
  split at h
  .next e=>cases h;show(r,.head _,e,rfl)
  .let(s,h1,h2):=ih h;show(s,.tail _ h1,h2)
def b6S{r:Rw}(h:t<r.b):r.has t=js:=by
 unfold Rw.has;rw[decide_eq_false (by lia),ei]
def b6T(h:Can (r::l))(h':Can (s::m))(q:∀t,val (r::l) t=val (s::m) t):¬ r.b<s.b:=λc=>by
 let d:=q r.b;rw[a0u,a7F (h.1 r (.head _)),if_pos rfl,a4w]at d
 .grind
 .ext x a;show b6S ?_;let rfl||a:=aT.mp a
  .cbv
  .let:=(((bI.mp h'.2).1 x a).lt).b (h'.1 s (.head _))
   lia
def b39(h:Can (r::l))(hb:r.b=s.b)(hw:r.w=s.w)(q:∀t,val (r::l) t=val (s::m) t)(he:r.e=bN e):bef e s.e=js:=by
 cases hc:bef e s.e with
 |false=>rfl
 |true=>
  exfalso;let g:bef r.b r.e=cp:=h.1 r (.head _)
  rw[he]at g;simp only[bef,decide_eq_true_eq]at g;let c:=q e;let i:s.has e=cp:=by unfold Rw.has;rw[hc,decide_eq_true (show s.b<=e by lia)];rfl
  let k:r.has e=js:=by unfold Rw.has;rw[he];simp[bef]
  rw[a0u,a0u,i,k,if_pos rfl,if_neg (by simp)]at c;let(x,n,a,d):=b1i c;let(u,f,p,j):=(bI.mp h.2).1 x n;rw[he]at f;cases f;let o:x.b<=e:=by unfold Rw.has at a;simp at a;show a.1
  show j (by lia) (by simp_all)
theorem a9C:∀{l m:List Rw},Can l->Can m->(∀t,val l t=val m t)->l=m
 |[],[],_,_,_=>rfl
 |[],s::m,_,h',q=>by
  let:=q s.b
  rw[a1o,a0u,a7F (h'.1 s (.head _)),if_pos rfl]at this;cases this
 |r::l,[],h,_,q=>by
  let:=q r.b
  rw[a1o,a0u,a7F (h.1 r (.head _)),if_pos rfl]at this;cases this
 |r::l,s::m,h,h',q=>by
  let a:r.b=s.b:=by
   let f:=b6T h h' q;let g:=b6T h' h λt=>(q t).symm
   lia
  let c:r.w=s.w:=by
   let f:=q r.b;let g:s.has r.b=cp:=a▸a7F (h'.1 s (.head _));rw[a0u,a0u,a7F (h.1 r (.head _)),g,if_pos rfl,if_pos rfl]at f;show bN.inj f
  let i:r.e=s.e:=by
   cases e1:r.e with
   |none=>
    cases e2:s.e with
    |none=>rfl
    |some e=>
     let:=b39 h' a.symm c.symm (λt=>(q t).symm) e2
     rw[e1]at this;cases this
   |some e=>
    let:=b39 h a c q e1
    cases e2:s.e with
    |none=>rw[e2]at this;cases this
    |some e'=>
     let k:=b39 h' a.symm c.symm (λt=>(q t).symm) e2;rw[e1]at k;rw[e2]at this;simp only[bef,decide_eq_false_iff_not]at this k
     congr 1
     lia
  let j:r=s:=by
   let(_,_,_):=r;simp only at a c i;rw[a,c,i]
  subst j
  congr 1
  show a9C h.tail h'.tail λt=>?_;cases ht:r.has t with
  |true=>
   rw[a4w λx d=>((bI.mp h.2).1 x d).lt.has ht,a4w λx d=>((bI.mp h'.2).1 x d).lt.has ht]
  |false=>
   let:=q t
   rw[a0u,a0u,ht,if_neg (by simp),if_neg (by simp)]at this;show this
noncomputable def jn(told:List Rw)(p:Rw):List Rw:=match told.getLast? with
 |some l=>if l.e=bN p.b/\l.w=p.w then told.dropLast++[(l.b,p.e,p.w)] else told++[p]
 |none=>told++[p]
noncomputable def join(ps:List Rw):List Rw:=ps.foldl jn []
def a11{α:Type}{l:List α}{x:α}(h:l.getLast?=bN x):l=l.dropLast++[x]:=by
 let(a,rfl):=List.getLast?_eq_some_iff.mp h;simp
def b8Z(h:Can told)(g:p.good)(hlt:∀r∈told,Lt r p):Can (jn told p)/\(∀t,val (jn told p) t=(val told t).or (val [p] t))/\(∀x,(∀r∈told,Lt r x)->Lt p x->∀r∈jn told p,Lt r x)/\(jn told p).length<=told.length+1/\∀r∈jn told p,r.w=p.w\/∃r'∈told,r.w=r'.w:=by
 unfold jn;cases hl:told.getLast? with
 |none=>
  let:told=[]:=fz.mp hl
  subst this;show((λr a=>by simp at a;rw[a];show g,by simp),λt=>by simp[a1o],λx _ f r a=>by simp at a;rw[a];show f,by simp,λr a=>by simp at a;rw[a];show .inl rfl)
 |some l=>
  let d:=a11 hl;generalize told.dropLast=init at d;subst d;let i:l∈init++[l]:=by simp
  let k:=bu.mp h.2;dsimp only
  split
  .next hc=>
   let(n,o):=hc;let D:l.b<p.b:=by
    let:bef l.b l.e=cp:=h.1 l i
    rw[n]at this;simpa[bef]using this
   let v:((l.b,p.e,p.w):Rw).good:=by
    change bef l.b p.e=cp
    let:bef p.b p.e=cp:=g
    cases hpe:p.e with
    |none=>rfl
    |some e=>
     rw[hpe]at this;simp only[bef,decide_eq_true_eq]at this ⊢
     lia
   show((λr a=>?_,?_),λt=>?_,λx m f r a=>?_,by simp,λr a=>?_)
   .let a||a:=aO.mp a
    .show h.1 r (by simp[a])
    .rw[aR.mp a];show v
   .show bu.mpr (k.1,by simp,λr a s d=>?_);rw[aR.mp d];let(e,c,j,A):=k.2.2 r a l (by simp);show(e,c,j,λz=>by rw[<- o];show A z)
   .rw[a0O,a0O];cases val init t with
    |some w=>rfl
    |none=>
     let y:((l.b,p.e,p.w):Rw).has t=(l.has t||p.has t):=by
      unfold Rw.has;rw[n]
      let:bef p.b p.e=cp:=g
      cases hpe:p.e with
      |none=>
       simp only[bef,de]
       by_cases c1:l.b<=t<;>by_cases c2:t<p.b<;>by_cases c3:p.b<=t<;>simp[c1,c2,c3]<;>lia
      |some e=>
       rw[hpe]at this;simp only[bef,decide_eq_true_eq]at this ⊢
       by_cases c1:l.b<=t<;>by_cases c2:t<p.b<;>by_cases c3:p.b<=t<;>by_cases c4:t<e<;>simp[c1,c2,c3,c4]<;>lia
     simp only[a0u,a1o,y,o,Option.none_or];cases l.has t<;>cases p.has t<;>simp
   .let a||a:=aO.mp a
    .show m r (by simp[a])
    .rw[aR.mp a];let(e,c,j):=f;show(e,c,j)
   .let a||a:=aO.mp a
    .show .inr (r,by simp[a],rfl)
    .rw[aR.mp a];show .inl rfl
  .next hc=>
   show((λr a=>?_,?_),λt=>a0O,λx m f r a=>?_,by simp,λr a=>?_)
   .let a||a:=aO.mp a
    .show h.1 r a
    .rw[aR.mp a];show g
   .show bu.mpr (h.2,by simp,λr a s d=>?_);rw[aR.mp d];let(e,c,j):=hlt r a;show(e,c,j,λz u=>?_);let hr'||hr':=aO.mp a
    .let(C,q,B,_):=k.2.2 r hr' l (by simp);rw[c]at q;cases q
     let:=(hlt l i).b (h.1 l i)
     lia
    .simp_all
   .let a||a:=aO.mp a
    .show m r a
    .rw[aR.mp a];show f
   .let a||a:=aO.mp a
    .show .inr (r,a,rfl)
    .rw[aR.mp a];show .inl rfl
def b4a:∀(ps told:List Rw),Can told->Rise ps->(∀r∈told,∀p∈ps,Lt r p)->Can (ps.foldl jn told)/\(∀t,val (ps.foldl jn told) t=(val told t).or (val ps t))/\(ps.foldl jn told).length<=told.length+ps.length/\∀r∈ps.foldl jn told,∃r'∈told++ps,r.w=r'.w:=by ext z0;induction z0 with
 |nil=>ext told h _ _;show(h,λt=>by simp[a1o],by simp,λr f=>(r,↑f,rfl))
 |cons p ps I0=>
  ext told h f hlt;let a:=b8Z h (f.1 p (.head _)) λr q=>hlt r q p (.head _);let b:=I0 _ a.1 f.tail λr q x j=>a.2.2.1 x (λg k=>hlt g k x (.tail _ j)) ((bI.mp f.2).1 x j) r q;show(b.1,λt=>?_,?_,λr i=>?_)
  .change val (ps.foldl jn _) t=_
   rw[b.2.1 t,a.2.1 t,show p::ps=[p]++ps from rfl,a0O,Option.or_assoc]
  .grind
  .let(g,c,d):=b.2.2.2 r i;let c||c:=aO.mp c
   .let e||(r2,e1,e2):=a.2.2.2.2 g c
    .show(p,by simp,d.trans e)
    .grind
   .show(g,by simp[c],d)
def b4b(h:Rise ps):Can (join ps)/\(∀t,val (join ps) t=val ps t)/\(join ps).length<=ps.length/\∀r∈join ps,∃r'∈ps,r.w=r'.w:=by
 let:=b4a ps [] .nil h λr a=>by simp at a
 unfold join;show(this.1,λt=>by rw[this.2.1 t];rfl,↑this.2.2.1,↑this.2.2.2)
noncomputable def emin:Option Int->Option Int->Option Int
 |none,o=>o
 |some e,ce=>bN e
 |some e,bN o=>bN (if o<e then o else e)
noncomputable def a1y(m:Option Int)(r:Rw):Option Rw:=if bef r.b m=cp then bN (r.b,emin r.e m,r.w) else ce
noncomputable def ahead(m:Option Int)(l:List Rw):List Rw:=l.filterMap (a1y m)
noncomputable def a4x(m:Int)(r:Rw):Option Rw:=if bef m r.e=cp then bN (if m > r.b then m else r.b,r.e,r.w) else ce
noncomputable def fromOn(m:Int)(l:List Rw):List Rw:=l.filterMap (a4x m)
def b2l(h1:∀r r',f r=bN r'->r'.has t=(r.has t&&c)/\r'.w=r.w)(h2:∀r,f r=ce->(r.has t&&c)=js):∀l:List Rw,val (l.filterMap f) t=if c=cp then val l t else ce:=by ext z0;induction z0 with
 |nil=>simp[a1o]
 |cons r l I0=>
  let a:=I0;rw[bD];cases hf:f r with
  |none=>
   let:=h2 r hf
   rw[a,a0u];cases c with
   |true=>rw[de]at this;rw[this];rfl
   |false=>rfl
  |some r'=>
   let(d,b):=h1 r r' hf;rw[a0u,a,d,b,a0u];cases c<;>cases r.has t<;>rfl
def a6X:bef t (emin x y)=(bef t x&&bef t y):=by
 cases x with
 |none=>cases y<;>simp[bef,emin]
 |some a=>
  cases y with
  |none=>simp[bef,emin]
  |some b=>
   simp only[bef,emin];rw[<- Bool.decide_and];apply a0Q;rw[eq_iff_iff]
   split<;>cbv
def a5o(m:Option Int)(l:List Rw)(t:Int):val (ahead m l) t=if bef t m=cp then val l t else ce:=by
 show b2l (λr a h=>?_) (λr h=>?_) l
 .unfold a1y at h
  split at h
  .cases h;show(?_,rfl);unfold Rw.has;simp only[a6X,Bool.and_assoc]
  .cases h
 .unfold a1y at h
  split at h
  .cases h
  .next hc=>
   unfold Rw.has;cases m with
   |none=>show absurd rfl hc
   |some m=>
    simp only[bef,decide_eq_true_eq]at hc ⊢
    by_cases c1:r.b<=t
    .rw[decide_eq_false (show ¬ t<m by lia),dv]
    .rw[decide_eq_false c1];rfl
def b1j(m:Int)(l:List Rw)(t:Int):val (fromOn m l) t=if m<=t then val l t else ce:=by
 let:(if m<=t then val l t else ce)=if decide (m<=t)=cp then val l t else ce:=by simp
 rw[this];show b2l (λr a h=>?_) (λr h=>?_) l
 .unfold a4x at h
  split at h
  .cases h;unfold Rw.has
   let:decide ((if m > r.b then m else r.b)<=t)=(decide (r.b<=t)&&decide (m<=t)):=by grind
   rw[this];cases decide (r.b<=t)<;>cases decide (m<=t)<;>simp
  .cases h
 .unfold a4x at h
  split at h
  .cases h
  .next hc=>
   unfold Rw.has;cases he:r.e with
   |none=>rw[he]at hc;show absurd rfl hc
   |some e=>
    rw[he]at hc;simp only[bef]at hc ⊢
    by_cases c1:m<=t
    .grind
    .simp_all
def a12(h:x∈ahead m l):∃r∈l,bef r.b m=cp/\x=(r.b,emin r.e m,r.w):=by
 let(r,d,a):=cy.mp h;unfold a1y at a
 split at a
 .next c=>cases a;show(r,d,c,rfl)
 .cases a
def a2Q(h:x∈fromOn m l):∃r∈l,bef m r.e=cp/\x=(if m > r.b then m else r.b,r.e,r.w):=by
 let(r,d,a):=cy.mp h;unfold a4x at a
 split at a
 .next c=>cases a;show(r,d,c,rfl)
 .cases a
def b6U(hf:∀r s r' s',R r s->f r=bN r'->f s=bN s'->R r' s'):∀{l:List Rw},l.Pairwise R->(l.filterMap f).Pairwise R:=by ext z0;induction z0 with
 |nil=>ext _;simp
 |cons r l I0=>
  ext h;let b:=bI.mp h;let c:=I0 b.2;rw[bD];cases e:f r with
  |none=>show c
  |some r'=>
   show bI.mpr (λs i=>?_,c);let(a,d,g):=cy.mp i;show hf r a r' s (b.1 a d) e g
def b4c{x:Int}{m:Option Int}:∃e,emin (bN x) m=bN e/\e<=x:=by
 cases m with
 |none=>show(x,rfl,bH _)
 |some o=>
  show(_,rfl,?_)
  split<;>lia
def a7G(m:Option Int)(h:Rise l):Rise (ahead m l):=by
 show(λx j=>?_,b6U (λr s t p d a c=>?_) h.2)
 .let(r,k,i,rfl):=a12 j
  change bef r.b _=cp
  rw[a6X,i,de];show h.1 r k
 .unfold a1y at a c
  split at a
  .split at c
   .cases a;cases c;let(e,g,o):=d;let(f,n,q):=@b4c e m;show(f,by rw[<- n,<- g],by change f<=s.b;lia)
   .grind
  .grind
def a9D(m:Int)(h:Rise l):Rise (fromOn m l):=by
 show(λx j=>?_,b6U (λr s n k d a c=>?_) h.2)
 .let(r,f,g,rfl):=a2Q j
  split
  .show g
  .show h.1 r f
 .unfold a4x at a c
  split at a
  .split at c
   .cases a;cases c;let(e,i,o):=d;show(e,i,by change e<=(if m > s.b then m else s.b);split<;>cbv)
   .grind
  .grind
def a5p(m:Option Int)(l:List Rw):(ahead m l).length<=l.length:=b9 _ _
def b1k(m:Int)(l:List Rw):(fromOn m l).length<=l.length:=b9 _ _
def b1l(hbe:b<=e):∀{l:List Rw},Rise l->(ahead (bN b) l).length+(fromOn e l).length<=l.length+1:=by ext z0;induction z0 with
 |nil=>ext _;simp[ahead,fromOn]
 |cons r l I0=>
  ext h;let i:=I0 h.tail;let c:(ahead (bN b) (r::l)).length=(if bef r.b (bN b)=cp then 1 else 0)+(ahead (bN b) l).length:=by
   unfold ahead;unfold a1y
   split
   .grind
   .grind
  let a:(fromOn e (r::l)).length=(if bef e r.e=cp then 1 else 0)+(fromOn e l).length:=by
   unfold fromOn;unfold a4x
   split
   .grind
   .grind
  rw[c,a,aS]
  by_cases c1:bef r.b (bN b)=cp
  .by_cases c2:bef e r.e=cp
   .let:ahead (bN b) l=[]:=by
     unfold ahead;rw[List.filterMap_eq_nil_iff];ext s g;unfold a1y;let(j,f,k):=((bI.mp h.2).1) s g;rw[f]at c2;simp only[bef,decide_eq_true_eq]at c1 c2 ⊢;rw[if_neg (by lia)]
    let:=b1k e l
    simp_all
    lia
   .grind
  .rw[if_neg c1];split<;>lia
noncomputable def a1f(l:List Rw)(b:Int)(e:Option Int)(w:Option (List Z)):List Rw:=
 ahead (bN b) l++(match w with |some w=>[(b,e,w)] |none=>[])++(match e with |some e=>fromOn e l |none=>[])
def a5q{l:List Rw}{b:Int}{e:Option Int}{w:Option (List Z)}(h:Rise l)(g:bef b e=cp):Rise (a1f l b e w)/\(∀t,val (a1f l b e w) t=if (decide (b<=t)&&bef t e)=cp then w else val l t)/\(a1f l b e w).length<=l.length+2:=by
 let hA:=a7G (bN b) h;let eA:∀r∈ahead (bN b) l,∃x,r.e=bN x/\x<=b:=λr hr=>by
  let(r0,_,_,rfl):=a12 hr
  change ∃x,emin r0.e (bN b)=bN x/\x<=b
  cases r0.e with
  |none=>show(b,rfl,bH _)
  |some x=>show(_,rfl,?_);split<;>cbv
 let hM:Rise (match w with |some w=>[((b,e,w):Rw)] |none=>[]):=by
  cases w with
  |none=>show .nil
  |some w=>show(λr hr=>by rw[aR.mp hr];show g,by simp)
 let mM:∀r∈(match w with |some w=>[((b,e,w):Rw)] |none=>[]),r.b=b/\r.e=e:=λr hr=>by
  cases w with
  |none=>simp at hr
  |some w=>rw[aR.mp hr];show(rfl,rfl)
 let vM:∀t,val (match w with |some w=>[((b,e,w):Rw)] |none=>[]) t=if (decide (b<=t)&&bef t e)=cp then w else ce:=λt=>by
  cases w with
  |none=>simp[a1o]
  |some w=>rw[a0u,a1o];rfl
 let app:∀{A B:List Rw},Rise A->Rise B->(∀r∈A,∀s∈B,Lt r s)->Rise (A++B):=λha hb hab=>(λr hr=>(aO.mp hr).elim (ha.1 r) (hb.1 r),bu.mpr (ha.2,hb.2,hab));unfold a1f;cases e with
 |none=>
  dsimp only;rw[bL];show(app hA hM λr hr s hs=>?_,λt=>?_,?_)
  .let(x,a1,a2):=eA r hr;show(x,a1,by rw[(mM s hs).1];show a2)
  .rw[a0O,a5o,vM];simp only[bef,de,decide_eq_true_eq]
   by_cases c:b<=t
   .rw[if_neg (by cbv),if_pos c,if_pos c];rfl
   .rw[if_pos (by cbv),if_neg c,if_neg c];simp
  .rw[aW]
   let:=a5p (bN b) l
   cases w<;>simp<;>cbv
 |some e=>
  let hbe:b<e:=by simpa[bef]using g
  let hF:=a9D e h;let bF:∀s∈fromOn e l,e<=s.b:=λs hs=>by
   let(r0,_,_,rfl):=a2Q hs
   change e<=(if e > r0.b then e else r0.b)
   split<;>cbv
  dsimp only;show(app (app hA hM λr hr s hs=>?_) hF λr hr s hs=>?_,λt=>?_,?_)
  .let(x,a1,a2):=eA r hr;show(x,a1,by rw[(mM s hs).1];show a2)
  .let hs':=bF s hs;let hr||hr:=aO.mp hr
   .let(x,a1,a2):=eA r hr;show(x,a1,by cbv)
   .show(e,(mM r hr).2,hs')
  .rw[a0O,a0O,a5o,vM,b1j];simp only[bef,bW,decide_eq_true_eq]
   by_cases c1:b<=t
   .by_cases c2:t<e
    .rw[if_neg (by cbv),if_pos (c1,c2),if_neg (by cbv),if_pos (c1,c2)];simp
    .rw[if_neg (by cbv),if_neg (by cbv),if_pos (by cbv),if_neg (by cbv)];rfl
   .rw[if_pos (by cbv),if_neg (by cbv),if_neg (by cbv),if_neg (by cbv)];simp
  .rw[aW,aW]
   let:=b1l (b:=b) (e:=e) (by cbv) h
   cases w<;>simp<;>cbv
noncomputable def a2v(puts:List Rw)(t:Int):Z:=match puts.reverse.find? (·.has t) with
 |some r=>r.w.headD .non
 |none=>.non
noncomputable def optW(z:Z):Option (List Z):=if z=.non then ce else bN [z]
def a58(puts:List Rw)(p:Rw)(t:Int):a2v (puts++[p]) t=if p.has t=cp then p.w.headD .non else a2v puts t:=by
 unfold a2v;rw[cu,cH,List.reverse_nil,cA,dG,bP];cases p.has t<;>rfl
noncomputable def a5r(l:List Rw)(b:Int)(e:Option Int)(w:Option (List Z)):List Rw:=join (a1f l b e w)
def b1m{l:List Rw}{b:Int}{e:Option Int}{w:Option (List Z)}(h:Rise l)(g:bef b e=cp):Can (a5r l b e w)/\(∀t,val (a5r l b e w) t=if (decide (b<=t)&&bef t e)=cp then w else val l t)/\(a5r l b e w).length<=l.length+2:=by
 let a:=a5q (w:=w) h g;let j:=b4b a.1;show(j.1,λt=>by rw[<- a.2.1 t];show j.2.1 t,be j.2.2.1 a.2.2)
def okW(w:List Z):Prop:=w≠[]/\w.length<=4/\w.all (flat 4)=cp
def OkR(l:List Rw):Prop:=∀r∈l,okW r.w
def a3g:∀{n m:Nat}{z:Z},n<=m->flat n z=cp->flat m z=cp:=by
 ext n
 induction n with
 |zero=>ext m z _ h;cases z<;>first | (simp[flat]at h;done) | (cases m<;>simp_all[flat])
 |succ n ih=>
  ext m z b h;cases m with
  |zero=>lia
  |succ m=>
   cases z with
   |tup ws=>
    simp only[flat,cB]at h ⊢;show λx a=>ih (by lia) (h x a)
   |_=>first | (simp[flat];done) | (simp[flat]at h;done) | (simp only[flat]at h ⊢;show h)
def b1n{ws:List Z}(hm:n<=m)(h:ws.all (flat n)=cp):ws.all (flat m)=cp:=by
 rw[cB]at h ⊢;show λx a=>a3g hm (h x a)
def a9E:flat n (oz e)=cp:=by
 cases e<;>cases n<;>rfl
def a4y:flat n (.int i)=cp:=by cases n<;>rfl
def b1o:flat n .non=cp:=by cases n<;>rfl
def b80(h:R (.bl (!e.isSome)) G):zIs js (oz e) .non G R:=by
 cases e with
 |none=>show b3A h
 |some e=>show b3A h
def b6V(h:R (.bl (decide (e=bN b))) G):zEq id (oz e) (.int b) G R:=by
 cases e with
 |none=>
  show ((b1o,a4y,?_))
  let:decide (Z.non=Z.int b)=decide (ce=bN b):=by simp
  show h
 |some e=>
  show b6h ?_
  let:decide (e=b)=decide (bN e=bN b):=a0Q (by simp)
  rw[this];show h
def b81(h1:flat 8 (.tup xs)=cp)(h2:flat 8 (.tup ys)=cp)(h:R (.bl (f (decide (xs=ys)))) G):zEq f (.tup xs) (.tup ys) G R:=by
 show ((h1,h2,?_));rw[a0Q (Z.tup.injEq _ _)];show h
def a2A:P3:=λws G R=>∃x y,ws=[oz x,oz y]/\R (oz (emin x y)) G
set_option tactic.hygienic true in
def a2B(T:Txt K mg base a):Cal P w K mg base CX0 1 "earlier_end" (lowP K a2A):=by
 show fnc 2 (N:=["end","other"]) T.br (T.f 3 _ rfl) ?_;walk_at "in";show(_,(by ac_rfl),?_);let(x,y,rfl,q):=h;cases x with
 |none=>
  lk;cases y<;>show q
 |some x=>
  cases y with
  |none=>
   lk;show q
  |some y=>
   lk;show q
def a9F{α β:Type}{l:List α}{g:α->Z}{g':β->Z}(f:α->Option β)(hok:∀ys,ok (put G1 D (.lst ys)))(hz:l.length<=1000)
  (turn:∀x,x∈l->∀(ys:List Z)(K1:K3)(K2:Hq->Prop),(∀y,f x=bN y->K1 (g' y) (put G1 D (.lst ys)))->(f x=ce->K2 (put G1 D (.lst ys)))->∃σ',a25 pt (g x) (cap3 cap σ)=bN σ'/\tt σ' (put G1 D (.lst ys)) λb G4=>if b=cp then te σ' G4 K1 else K2 G4)
  (fin:R (.ref D) (put G1 D (.lst ((l.filterMap f).map g')))):LCB (l.map g) ok cap pt tt te σ R D G1:=by
 show a7m (λi c G=>c=((l.take i).filterMap f).map g'/\G=put G1 D (.lst c)) (by simp,rfl) ?_ ?_ ?_
 .simp_all
 .ext i x c G d ⟨e,rfl⟩;rw[aU]at d;cases hx':l[i]? with
  |none=>rw[hx']at d;cases d
  |some a=>
   rw[hx']at d;cases d;show turn a (bp hx') c _ _ (λy j=>(a0a,?_,?_,?_)) λh=>(?_,rfl)
   .rw[e,aM];show cj (be (b9 _ _) (by rw[bj];lia)) (a0q (aN 1000))
   .rw[a0G hx',j,e,aY];rfl
   .rw[a0Z]
   .rw[a0G hx',h,e];simp
 .simp_all
def One(l:List Rw):Prop:=∀r∈l,∃x,r.w=[x]
def a4z:P3:=λws G R=>∃p l m,ws=[.ref p,oz m]/\G p=bN (.lst (l.map Rw.z))/\One l/\l.length<=1000/\∀t,G t=ce->R (.ref t) (put G t (.lst ((ahead m l).map Rw.z)))
set_option tactic.hygienic true in
def a4A(T:Txt K mg base a):Cal P w K mg base CX0 2 "ahead_of" (lowP K a4z):=by
 show fnc 2 (N:=["line","moment"]) T.br (T.f 7 _ rfl) ?_;walk_at "in";show(_,(a0y (a1h (q_l ["begin","end","worth","moment"] [ce,ce,ce,bN 1] (.tp [0,1,2])))),?_);let(p,l,m,rfl,hp,h1,hz,q):=h;lk;show a1i hp ?_;ext D hD;show a9F (a1y m) (λys=>a0e hp hD) hz ?_ (q D hD);ext r hr ys K1 K2 k1 k2;let(x,hx):=h1 r hr;let(b,e,w):=r;cases hx;show(_,rfl,?_);cases m with
 |none=>
  lk;show(e,ce,rfl,?_);lk;show(lenK rfl,?_);show k1 _ rfl
 |some m=>
  lk;show ifD (λc=>?_) λc=>?_
  .lk;show(e,bN m,rfl,?_);lk;show(lenK rfl,?_);show k1 (b,emin e (bN m),[x]) ?_;unfold a1y;rw[if_pos (by simpa[bef]using c)]
  .show k2 ?_;unfold a1y;rw[if_neg (by simpa[bef]using c)]
def a5s:P3:=λws G R=>∃p l m,ws=[.ref p,.int m]/\G p=bN (.lst (l.map Rw.z))/\One l/\l.length<=1000/\∀t,G t=ce->R (.ref t) (put G t (.lst ((fromOn m l).map Rw.z)))
set_option tactic.hygienic true in
def a5t(T:Txt K mg base a):Cal P w K mg base CX0 1 "from_on" (lowP K a5s):=by
 show fnc 2 (N:=["line","moment"]) T.br (T.f 9 _ rfl) ?_;walk_at "in";show(_,(a0y (a1h (q_l ["begin","end","worth","moment"] [ce,ce,ce,bN 1] (.tp [0,1,2])))),?_);let(p,l,m,rfl,hp,h1,hz,q):=h;lk;show a1i hp ?_;ext D hD;show a9F (a4x m) (λys=>a0e hp hD) hz ?_ (q D hD);ext r hr ys K1 K2 k1 k2;let(x,hx):=h1 r hr;let(b,e,w):=r;cases hx;show(_,rfl,?_);cases e with
 |none=>
  lk;show(lenK rfl,?_);show k1 (if m > b then m else b,ce,[x]) rfl
 |some e=>
  lk;show ifD (λc=>?_) λc=>?_
  .lk;show(lenK rfl,?_);show k1 (if m > b then m else b,bN e,[x]) ?_;unfold a4x;rw[if_pos (by simpa[bef]using c)]
  .show k2 ?_;unfold a4x;rw[if_neg (by simpa[bef]using c)]
def a59(h:0<n):ixN n (-1)=bN (n-1):=by grind [ixN]
def a6a{α:Type}{l:List α}{x:α}(h:l.getLast?=bN x):atI l (-1)=bN x:=by
 let a:l≠[]:=λz=>by subst z;simp at h
 unfold atI;rw[a59 (cM.mpr a)]
 change l[l.length-1]?=bN x
 rw[<- List.getLast?_eq_getElem?];show h
def a6Y{α:Type}{l:List α}{x y:α}(h:l.getLast?=bN x):l.set (l.length-1) y=l.dropLast++[y]:=by
 let a:=a11 h;generalize l.dropLast=i at a;subst a;simp
def sIx2{a b:Z}{w:List Z}:HT.sIx (a::b::w).length 0 (bN 2)=2:=by
 let:=HT.sIx_nat (a::b::w).length 0 2
 rw[show ((2:Nat):Int)=2 from rfl]at this;rw[this];simp
def cut2{a b:Z}{w:List Z}:cutZ (a::b::w) (bN 2) ce=w:=by
 unfold cutZ;rw[sIx2,HT.sIx_none];simp
def a9G{a b:Z}{w:List Z}:¬ (HT.sIx (a::b::w).length 0 (bN 2)=0/\HT.sIx (a::b::w).length (a::b::w).length ce=(a::b::w).length):=by
 rw[sIx2];ext h;show absurd h.1 (by decide)
def a0K:P3:=λws G R=>∃p ps,ws=[.ref p]/\G p=bN (.lst (ps.map Rw.z))/\OkR ps/\ps.length<=1000/\∀t,G t=ce->R (.ref t) (put G t (.lst ((join ps).map Rw.z)))
def b4d{G:Hq}{R:K3}{a b:Z}{w:List Z}(h:R (.tup w) G):zSl (.tup (a::b::w)) (bN 2) ce G R:=a7o a9G (by rw[cut2];show h)
def a9H{w:List Z}(h:okW w):flat 8 (.tup w)=cp:=b1n (n:=4) (m:=7) (by decide) h.2.2
set_option tactic.hygienic true in
def b1p:∀(ps told:List Rw),OkR told->OkR ps->OkR (ps.foldl jn told):=by ext z0;induction z0 with
 |nil=>ext _ h _;show h
 |cons p ps I0=>
  ext told h h';show I0 _ (λr a=>?_) λr a=>h' r (.tail _ a);unfold jn at a
  split at a
  .next l hl=>
   split at a
   .let a||a:=aO.mp a
    .show h r (ej _ a)
    .rw[aR.mp a];show h' p (.head _)
   .let a||a:=aO.mp a
    .show h r a
    .rw[aR.mp a];show h' p (.head _)
  .let a||a:=aO.mp a
   .show h r a
   .rw[aR.mp a];show h' p (.head _)
def b6W(told:List Rw)(p:Rw):(jn told p).length<=told.length+1:=by
 unfold jn
 split
 .split<;>simp
 .simp
def b1q:∀(ps told:List Rw),(ps.foldl jn told).length<=told.length+ps.length:=by ext z0;induction z0 with
 |nil=>ext told;simp
 |cons p ps I0=>
  ext told;let b:=I0 (jn told p);let a:=b6W told p
  change (ps.foldl jn (jn told p)).length<=_
  rw[aS]
  lia
def a9I{ps:List Rw}(h:ps[i]?=bN p):(ps.take (i+1)).foldl jn []=jn ((ps.take i).foldl jn []) p:=by
 rw[b4,h];simp
set_option tactic.hygienic true in
def a1j(T:Txt K mg base a):Cal P w K mg base CX0 1 "with_alike_joined" (lowP K a0K):=by
 show fnc 1 (N:=["pieces","told","piece"]) T.br (T.f 8 _ rfl) ?_;walk_at "in";show(_,(a0d (by ac_rfl)
  (a0d (a4i (pt:=(.nm 2)) gy.never rfl (by ac_rfl) (p_nm (nmI 2 nd))
  (a0y (z_if (by ac_rfl)
  (a0y (a42 (by ac_rfl) (qv 1) (by ac_rfl) b3w))
  (by ac_rfl))))
  (by ac_rfl))),?_)
 let(p,ps,rfl,hp,hok,hz,q):=h;lk;show(lenK rfl,λt ht=>?_);lk;show a1i (a0e hp ht) ?_;show a1e (λi σ G'=>∃v,σ=[bN (.ref p),bN (.ref t),v]/\G'=put G t (.lst (((ps.take i).foldl jn []).map Rw.z))) (_,rfl,by simp) (by ext i σ G' _ ⟨v,_,e⟩;show by rw[e];show a0e hp ht) ?_ ?_
 .ext i x σ G' hx ⟨v,rfl,rfl⟩;rw[aU]at hx;cases hx':ps[i]? with
  |none=>rw[hx']at hx;cases hx
  |some r=>
   rw[hx']at hx;cases hx;let hr:=hok r (bp hx');let hot:OkR ((ps.take i).foldl jn []):=b1p _ _ (λr hr=>by simp at hr) λr hr=>hok r (cw hr);let hlt:=b1q (ps.take i) [];rw[bj]at hlt;let hi:=(bh.mp hx').1;rw[a9I hx'];generalize (ps.take i).foldl jn []=told at hot hlt ⊢;simp only[List.length_nil]at hlt;show(_,rfl,?_);let app:∀G',G'=put G t (.lst (told.map Rw.z))->jn told r=told++[r]->a5W (.ref t) [r.z] G' (λ_ G1=>∃v,([bN (.ref p),bN (.ref t),bN r.z]:S3)=[bN (.ref p),bN (.ref t),v]/\G1=put G t (.lst ((jn told r).map Rw.z))):=by
    ext _ rfl e;show a09 a0a (by rw[aM];show a0q (by cbv)) (_,rfl,?_);rw[a0Z,e,aY]
    rfl
   lk;show a8S a0a ?_;cases hl:told.getLast? with
   |none=>
    let e0:told=[]:=fz.mp hl;subst e0;show ifF ?_;lk;show a2z a0a ?_;lk;show app _ rfl (by unfold jn;rw[hl])
   |some k=>
    let hne:told≠[]:=λz=>by subst z;simp at hl
    let hlm:(told.map Rw.z).getLast?=bN k.z:=by rw[List.getLast?_map,hl];rfl
    let he:(told.map Rw.z).isEmpty=js:=by cases told with |nil=>show absurd rfl hne |cons _ _=>rfl
    let hk:=hot k (List.mem_of_getLast? hl);rw[he];show ifT ?_;lk;show a0B a0a (a6a hlm) ?_;lk;show a4k at1 ?_;lk;show a4k at0 ?_;show b6V ?_;lk;show ifD (λc1=>?_) λc1=>?_
    .lk;show a0B a0a (a6a hlm) ?_;lk;show b4d ?_;lk;show b4d ?_;show b81 (a9H hk) (a9H hr) ?_;lk;show ifD (λc2=>?_) λc2=>?_
     .lk;show a0B a0a (a6a hlm) ?_;lk;show a4k at0 ?_;lk;show a4k at1 ?_;lk;show(lenK rfl,?_);lk;show b4d ?_;show a6x (by simp) (a10 (by let:=hr.2.1;simp;cbv)) ?_;lk;show b3D a0a (a59 (by rw[aM];show cM.mpr hne)) ?_;show(_,rfl,?_);rw[a0Z,a6Y hlm]
      congr 1
      unfold jn;rw[hl];dsimp only;rw[if_pos (c1,c2),aY,List.map_dropLast]
      rfl
     .lk;show a2z a0a ?_;lk;show app _ rfl (by unfold jn;rw[hl];dsimp only;rw[if_neg λz=>c2 z.2])
    .show ifF ?_;lk;show a2z a0a ?_;lk;show app _ rfl (by unfold jn;rw[hl];dsimp only;rw[if_neg λz=>c1 z.1])
 .ext σ G' ⟨v,rfl,rfl⟩;lk;rw[aM,bY];show q t ht
def Rise.drop(h:Rise l)(k:Nat):Rise (l.drop k):=(λr a=>h.1 r (dB a),h.2.sublist (eU _ _))
def drop_get{α:Type}{l:List α}{x:α}(h:l[k]?=bN x):l.drop k=x::l.drop (k+1):=by
 let(b,a):=bh.mp h;rw[dy b,a]
def take_snoc{α:Type}{l:List α}{x:α}(h:l[i]?=bN x):l.take (i+1)=l.take i++[x]:=by rw[b4,h];rfl
def a9J(h:OkR l):OkR (ahead m l):=λx a=>by
 let(r,b,_,rfl):=a12 a;show h r b
def b1r(h:OkR l):OkR (fromOn m l):=λx a=>by
 let(r,b,_,rfl):=a2Q a;show h r b
def okV(z:Z):Prop:=flat 4 z=cp
def b6X(h:okV z):okW [z]:=(by simp,by simp,by rw[b5,h];rfl)
def a7H(h:OkR l)(hz:okV z):OkR (a1f l b e (optW z)):=by
 ext r a;let a||a:=aO.mp a
 .let a||a:=aO.mp a
  .show a9J h r a
  .unfold optW at a
   split at a
   .next w e=>
          split at e
          .cases e
          .cases e;rw[aR.mp a];show b6X hz
   .simp_all
 .cases e with
  |none=>simp at a
  |some e=>show b1r h r a
def a6b:P3:=λws G R=>Ex5 λp l b e z=>ws=[.ref p,.int b,oz e,z]/\G p=bN (.lst (l.map Rw.z))/\Rise l/\OkR l/\One l/\l.length<=900/\bef b e=cp/\okV z /\
 ∀t G',G t=ce->Sm G G'->G' t=bN (.lst ((a5r l b e (optW z)).map Rw.z))->R (.ref t) G'
set_option tactic.hygienic true in
def a6c(T:Txt K mg base a):Cal P w K mg base CX0 3 "put_on" (lowP K a6b):=by
 show fnc 4 (N:=["line","begin","end","worth","pieces"]) T.br (T.f 10 _ rfl) ?_;walk_at "in";show(_,(a0d (by ac_rfl)
  (b0E (by ac_rfl)
  (b0E (by ac_rfl)
  (by ac_rfl)))),?_)
 let(p,l,b,e,z,rfl,hp,hr,hok,h1,hz,g,hv,q):=h;let hpc:=(a5q (w:=optW z) hr g).2.2;lk;show(p,l,bN b,rfl,hp,h1,by cbv,λt ht=>?_);lk;let la:=a5p (bN b) l;show b0M (fun σ' G'=>σ'=[bN (.ref p),bN (.int b),bN (oz e),bN z,bN (.ref t)]/\G'=put G t (.lst ((ahead (bN b) l++(match optW z with |some w=>[((b,e,w):Rw)] |none=>[])).map Rw.z))) ?_ ?_
 .lk;show ifN (λc=>?_) λc=>?_
  .lk;show a2z a0a ?_;lk;show(lenK rfl,?_);lk;show a09 a0a (by rw[aM];show a0q (by cbv)) (rfl,?_);rw[a0Z,optW,if_neg c,aY];rfl
  .lk;show(rfl,?_);rw[optW,if_pos c];simp
 .ext σ' G' ⟨rfl,rfl⟩;let hp1:∀o,put G t o p=bN (.lst (l.map Rw.z)):=λo=>a0e hp ht;let fin:∀G' ,Sm G G'->G' t=bN (.lst ((a1f l b e (optW z)).map Rw.z))->a0K [.ref t] G' R:=λG' s ht'=>by
   show(t,_,rfl,ht',a7H hok hv,by cbv,λu hu=>?_);show q u _ (s.free hu) (s.trans (Sm.new hu)) a0a
  show b0M (fun σ' G'=>σ'=[bN (.ref p),bN (.int b),bN (oz e),bN z,bN (.ref t)]/\Sm G G'/\G' t=bN (.lst ((a1f l b e (optW z)).map Rw.z))) ?_ ?_
  .cases e with
   |none=>
    lk;show(rfl,Sm.new ht,?_);unfold a1f;rw[bL];show a0a
   |some e=>
    lk;show a2z a0a ?_;lk;show(p,l,e,rfl,hp1 _,h1,by cbv,λu hu=>?_);let hut:t≠u:=λz=>by subst z;rw[a0a]at hu;cases hu
    let hpl:(a1f l b (bN e) (optW z)).length=(ahead (bN b) l++(match optW z with |some w=>[((b,bN e,w):Rw)] |none=>[])).length+(fromOn e l).length:=by
     unfold a1f;show aW
    generalize hA:(ahead (bN b) l++(match optW z with |some w=>[((b,bN e,w):Rw)] |none=>[]))=A at hu hpl ⊢
    let e1:put (put G t (.lst (A.map Rw.z))) u (.lst ((fromOn e l).map Rw.z)) t=bN (.lst (A.map Rw.z)):=by rw[a0h hut];show a0a
    lk;show a6z e1 a0a (by rw[aM,aM];show a10 (by cbv)) ?_;show(rfl,?_,?_)
    .show ((Sm.new ht).trans (Sm.new hu)).put ht
    .rw[a0a,<- aY,<- hA]
     rfl
  .ext σ' G' ⟨rfl,s,ht'⟩;lk;show fin G' s ht'
def okS(s:Str):Prop:=s.length<=1000/\PyData.strOk s=cp
def Th(G:Hq):Z->Prop
 |.non=>True
 |.bl _=>True
 |.int _=>True
 |.str s=>okS s
 |.tup _=>True
 |.ref p=>(∃ws,G p=bN (.lst ws))\/∃kvs,G p=bN (.dK kvs)
 |_=>False
def Th.sm(s:Sm G G')(h:Th G x):Th G' x:=by
 cases x with
 |ref p=>
  let(ws,e)||(ws,e):=h
  .show .inl (ws,s _ _ e)
  .show .inr (ws,s _ _ e)
 |_=>show h
structure Kd (G:Hq) (x:Z) (n:String):Prop where
 ty:tyN G x=bN n
 is:n="NoneType"\/n="bool"\/n="int"\/n="str"\/n="tuple"\/n="list"\/n="dict"
def Th.kd(h:Th G x):∃n,Kd G x n:=by
 cases x with
 |non=>show(_,rfl,.inl rfl)
 |bl _=>show(_,rfl,.inr (.inl rfl))
 |int _=>show(_,rfl,.inr (.inr (.inl rfl)))
 |str _=>show(_,rfl,.inr (.inr (.inr (.inl rfl))))
 |tup _=>show(_,rfl,.inr (.inr (.inr (.inr (.inl rfl)))))
 |ref p=>
  let(ws,e)||(ws,e):=h
  .show("list",by simp[tyN,e],.inr (.inr (.inr (.inr (.inr (.inl rfl))))))
  .show("dict",by simp[tyN,e],.inr (.inr (.inr (.inr (.inr (.inr rfl))))))
 |_=>show aP h
def b4e(h:n="NoneType"\/n="bool"\/n="int"\/n="str"\/n="tuple"\/n="list"\/n="dict"):kit0 n "str"=bN (decide (n="str")):=by
 let rfl||rfl||rfl||rfl||rfl||rfl||rfl:=h<;>decide +kernel
def b1s(h:n="NoneType"\/n="bool"\/n="int"\/n="str"\/n="tuple"\/n="list"\/n="dict"):kit0 n "bool"=bN (decide (n="bool")):=by
 let rfl||rfl||rfl||rfl||rfl||rfl||rfl:=h<;>decide +kernel
def b4f(h:n="NoneType"\/n="bool"\/n="int"\/n="str"\/n="tuple"\/n="list"\/n="dict"):kit0 n "int"=bN (decide (n="int")||decide (n="bool")):=by
 let rfl||rfl||rfl||rfl||rfl||rfl||rfl:=h<;>decide +kernel
noncomputable def isS:Z->Bool
 |.str _=>cp
 |_=>js
noncomputable def isB:Z->Bool
 |.bl _=>cp
 |_=>js
noncomputable def isI:Z->Bool
 |.int _=>cp
 |.bl _=>cp
 |_=>js
def b82(h:Th G x)(q:R (.bl (isS x)) G):zIsT [x,.ty "str"] G R:=by
 let(n,k):=h.kd;show(n,_,k.ty,b4e k.is,?_);let e:decide (n="str")=isS x:=by
  let:=k.ty
  cases x with
  |ref p=>let(ws,e)||(ws,e):=h<;>(simp[tyN,e]at this;subst this;change _=js;decide)
  |_=>first | (cases this;change _=js;decide;done) | (cases this;change _=cp;decide;done) |show aP h
 rw[e];show q
def b6Y(h:Th G x)(q:R (.bl (isB x)) G):zIsT [x,.ty "bool"] G R:=by
 let(n,k):=h.kd;show(n,_,k.ty,b1s k.is,?_);let e:decide (n="bool")=isB x:=by
  let:=k.ty
  cases x with
  |ref p=>let(ws,e)||(ws,e):=h<;>(simp[tyN,e]at this;subst this;change _=js;decide)
  |_=>first | (cases this;change _=js;decide;done) | (cases this;change _=cp;decide;done) |show aP h
 rw[e];show q
def b6Z(h:Th G x)(q:R (.bl (isI x)) G):zIsT [x,.ty "int"] G R:=by
 let(n,k):=h.kd;show(n,_,k.ty,b4f k.is,?_);let e:(decide (n="int")||decide (n="bool"))=isI x:=by
  let:=k.ty
  cases x with
  |ref p=>let(ws,e)||(ws,e):=h<;>(simp[tyN,e]at this;subst this;change _=js;decide)
  |_=>first | (cases this;change _=js;decide;done) | (cases this;change _=cp;decide;done) |show aP h
 rw[e];show q
noncomputable def okC(c:Nat):Bool:=decide (97<=c)&&decide (c<=122)
noncomputable def a2j:Z->Bool
 |.str s=>decide (1<=s.length)&&decide (s.length<=8)&&s.cps.toList.all okC
 |_=>js
noncomputable def momB:Z->Bool
 |.int i=>decide (0<=i)&&decide (i<=1000000000000)
 |_=>js
def a4B:momB (.int i)=(decide (0<=i)&&decide (i<=1000000000000)):=rfl
noncomputable def strB(x y:Z):Bool:=momB x&&match y with
 |.non=>cp
 |.int j=>momB (.int j)&&match x with |.int i=>decide (i<j) |_=>js
 |_=>js
def spB1(f:Z->Bool):P3:=λws G R=>∃x,ws=[x]/\Th G x/\∀G',Sm G G'->R (.bl (f x)) G'
def b60(h:spB1 f ws G R):ws.length=1:=by let(_,rfl,_):=h;rfl
def spB2(f:Z->Z->Bool):P3:=λws G R=>∃x y,ws=[x,y]/\Th G x/\Th G y/\∀G',Sm G G'->R (.bl (f x y)) G'
def b83(h:spB2 f ws G R):ws.length=2:=by let(_,_,rfl,_):=h;rfl
abbrev a5u:P3:=spB1 a2j
abbrev a3y:P3:=spB1 momB
abbrev a3h:P3:=spB2 strB
def a9K(a b:Nat):ltS ⟨#[a]⟩ ⟨#[b]⟩=decide (a<b):=by
 by_cases h:a<b
 .rw[decide_eq_true h];show decide_eq_true (fA.mpr (.inl h))
 .rw[decide_eq_false h];show decide_eq_false λq=>?_;let q||q:=fA.mp q
  .simp_all
  .simp_all
def strA:(Str.ofString "a")=⟨#[97]⟩:=by decide +kernel
def strZ:(Str.ofString "z")=⟨#[122]⟩:=by decide +kernel
def b1t(x:Str)(g:Nat->Option Z)(f:Z->Option Z)(h:∀c,f (.str ⟨#[c]⟩)=g c):(a2y x).filterMap f=x.cps.toList.filterMap g:=by
 unfold a2y;rw[dQ]
 congr 1
 funext c
 show h c
def a9L(h:x.length<=1000):(a2y x).length<=1000:=by unfold a2y;rw[aM,bU];show h
def b61(l:List Nat):(l.filterMap λc=>bN (Z.bl (okC c)))=(l.map okC).map Z.bl:=by simp
def b4g(l:List Nat):(l.map okC).all id=l.all okC:=by simp
def a2R:a2j (.str s)=(decide (1<=s.length)&&decide (s.length<=8)&&s.cps.toList.all okC):=rfl
def a5v(T:Txt K mg base a):Cal P w K mg base CX0 1 "is_name" (lowP K a5u):=by
 show fnc 1 (N:=["thing"]) T.br (T.f 0 _ rfl) ?_ (len:=λws G R h=>(by show b60 h));walk_at "in";show(_,(a0d (by ac_rfl)
  (a0d (by ac_rfl)
  (a0y (a1h (q_B (b51 rfl) (T.b 0) (q_k (q_l ["sign"] [ce] (.nm 0) (hi:=(b56 (qv 0)))) a0z)))))),?_)
 let(x,rfl,hx,q):=h;lk;show b82 hx ?_;lk;show ifNB (λc=>?_) λc=>?_
 .lk;let e:a2j x=js:=by cases x<;>first |rfl |cases c
  let:=q G (Sm.refl G)
  rw[e]at this;show this
 .obtain⟨s,rfl⟩:∃s,x=.str s:=by cases x<;>first |show(_,rfl) |cases c
  let hs:okS s:=hx;lk;show a6y (a10 hs.1) ?_;lk;let no:a2j (.str s)=js->R (.bl js) G:=λe=>by let:=q G (Sm.refl G);rw[e]at this;show this
  show ifD (λc1=>?_) λc1=>?_
  .lk;show no (by rw[a2R,decide_eq_false (show ¬ 1<=s.length by lia)];rfl)
  .lk;show a6y (a10 hs.1) ?_;lk;show ifD (λc2=>?_) λc2=>?_
   .lk;show no (by rw[a2R,decide_eq_false (show ¬ s.length<=8 by lia),dv];rfl)
   .lk;ext D hD;show b3k (λx=>match x with |.str z=>bN (.bl (!ltS z (Str.ofString "a")&&!ltS (Str.ofString "z") z)) |_=>ce) (λ_=>True.intro) (a9L hs.1) ?_ ?_
    .ext x hm ys K1 K2 k1 k2;unfold a2y at hm;let(c,_,rfl):=aQ.mp hm;show(_,rfl,?_);lk;show ifB (λz=>?_) λz=>?_
     .lk;show k1 _ ?_;dsimp only;rw[z];rfl
     .show k1 _ ?_;dsimp only;rw[z];rfl
    .let e:(a2y s).filterMap (λx=>match x with |.str z=>bN (.bl (!ltS z (Str.ofString "a")&&!ltS (Str.ofString "z") z)) |_=>ce)=(s.cps.toList.map okC).map Z.bl:=by
      rw[b1t s (λc=>bN (.bl (okC c))) _ λc=>?_,b61];dsimp only;rw[strA,strZ,a9K,a9K];unfold okC
      congr 2
      by_cases h1:c<97<;>by_cases h2:122<c<;>simp[h1,h2]<;>lia
     let e2:a2j (.str s)=s.cps.toList.all okC:=by rw[a2R,decide_eq_true (show 1<=s.length by lia),decide_eq_true (show s.length<=8 by lia),bX,bX]
     show b8t (by rw[e];show a0a) ?_;rw[b4g,<- e2];show q _ (Sm.new hD)
def a3z(T:Txt K mg base a):Cal P w K mg base CX0 1 "is_moment" (lowP K a3y):=by
 show fnc 1 (N:=["thing"]) T.br (T.f 1 _ rfl) ?_ (len:=λws G R h=>(by show b60 h));walk_at "in";show(_,(by ac_rfl),?_);let(x,rfl,hx,q):=h;let no:momB x=js->R (.bl js) G:=λe=>by let:=q G (Sm.refl G);rw[e]at this;show this
 lk;show b6Y hx ?_;lk;show ifB (λc=>?_) λc=>?_
 .lk;show no (by cases x<;>first |rfl |cases c)
 .lk;show b6Z hx ?_;lk;show ifNB (λc2=>?_) λc2=>?_
  .lk;show no (by cases x<;>first |rfl |cases c2)
  .obtain⟨i,rfl⟩:∃i,x=.int i:=by cases x<;>first |show(_,rfl) | (cases c;done) | (cases c2;done)
   lk;show ifD (λz=>?_) λz=>?_
   .lk
    let:=q G (Sm.refl G)
    rw[a4B,decide_eq_true z,bX]at this;show this
   .show no (by rw[a4B,decide_eq_false z];rfl)
def a3i(T:Txt K mg base a):Cal P w K mg base CX0 2 "is_stretch" (lowP K a3h):=by
 show fnc 2 (N:=["begin","end"]) T.br (T.f 2 _ rfl) ?_ (len:=λws G R h=>(by show b83 h));walk_at "in";show(_,(by ac_rfl),?_);let(x,y,rfl,n,m,q):=h;lk;show(x,rfl,n,λp g=>?_);let l:∀d,Sm G d->strB x y=js->R (.bl js) d:=λd s e=>by let:=q d s;rw[e]at this;show this
 lk;show ifNB (λc=>?_) λc=>?_
 .lk;show l _ g (by unfold strB;rw[c];rfl)
 .lk;show ifD (λz=>?_) λz=>?_
  .lk
   let:=q _ g
   unfold strB at this;rw[c,z]at this;show this
  .lk;show(y,rfl,m.sm g,λt o=>?_);let k:=g.trans o;lk;show ifB (λb=>?_) λb=>?_
   .obtain⟨i,rfl⟩:∃i,x=.int i:=by cases x<;>first |show(_,rfl) |cases c
    obtain⟨j,rfl⟩:∃j,y=.int j:=by cases y<;>first |show(_,rfl) |cases b
    lk
    let:=q _ k
    unfold strB at this;rw[c]at this;dsimp only at this;rw[b,bX,bX]at this;show this
   .show l _ k ?_;unfold strB;rw[c,bX];cases y<;>first |rfl |show absurd rfl z | (dsimp only;rw[b];rfl)
def isL(c:Nat):Prop:=97<=c/\c<=122
def nmOk(s:Str):Prop:=1<=s.cps.toList.length/\s.cps.toList.length<=8/\∀c∈s.cps.toList,isL c
def a2C(s:Str):s.length=s.cps.toList.length:=by rw[bU];rfl
def a4C(h:∀c∈s.cps.toList,isL c):PyData.strOk s=cp:=by
 unfold PyData.strOk;rw[Array.all_eq_true_iff_forall_mem];ext c a
 let:=(h c (by simp_all)).2
 show decide_eq_true (by lia)
def b4h(h:nmOk s):flat n (.str s)=cp:=by
 let:=a4C h.2.2
 cases n<;>show this
def b1u(h:nmOk s):Th G (.str s):=(by rw[a2C];let:=h.2.1;lia,a4C h.2.2)
def nm_b(h:nmOk s):a2j (.str s)=cp:=by
 rw[a2R,decide_eq_true (by rw[a2C];show h.1),decide_eq_true (by rw[a2C];show h.2.1)];rw[bX,bX,cB];ext c b;let(a,d):=h.2.2 c b;unfold okC;rw[decide_eq_true a,decide_eq_true d];rfl
noncomputable def T12:Int:=1000000000000
def stOk(b:Int)(e:Option Int):Prop:=0<=b/\b<=T12/\∀x,e=bN x->b<x/\x<=T12
noncomputable def stOk.bef(h:stOk b e):bef b e=cp:=by
 cases e with
 |none=>rfl
 |some x=>simp only[Lw.bef,decide_eq_true_eq];show (h.2.2 x rfl).1
def st_b(h:stOk b e):strB (.int b) (oz e)=cp:=by
 let(c,g,a):=h;unfold T12 at *;unfold strB;rw[a4B,decide_eq_true c,decide_eq_true g];cases e with
 |none=>rfl
 |some x=>
  let(f,d):=a x rfl
  change (cp&&(momB _&&decide _))=cp
  rw[a4B,decide_eq_true (show 0<=x by lia),decide_eq_true d,decide_eq_true f];rfl
def Plain(l:List Rw):Prop:=∀r∈l,∃x,r.w=[x]/\flat 0 x=cp
def Plain.one(h:Plain l):One l:=λr a=>by let(x,e,_):=h r a;show(x,e)
def Plain.okR(h:Plain l):OkR l:=λr a=>by
 let(x,e,f):=h r a;rw[e];show b6X (a3g (by simp) f)
def Plain.nil:Plain []:=λr hr=>by simp at hr
def a9M(h:Plain L)(f:flat 0 z=cp):Plain (a5r L b e (optW z)):=λr a=>by
 let m:Plain (a1f L b e (optW z)):=λr a=>by
  let a||a:=aO.mp a
  .let a||a:=aO.mp a
   .let(j,i,_,rfl):=a12 a;show h j i
   .unfold optW at a
    split at a
    .next w e=>
           split at e
           .cases e
           .cases e;rw[aR.mp a];show(z,rfl,f)
    .simp_all
  .cases e with
   |none=>simp at a
   |some e=>
    let(j,i,_,rfl):=a2Q a;show h j i
 let l:∀d c,Plain c->Plain d->Plain (d.foldl jn c):=by
  ext d
  induction d with
  |nil=>show λ_ h _=>h
  |cons p d ih=>
   ext c k g;show ih _ (λr a=>?_) λr a=>g r (.tail _ a)
   let:=g p (.head _)
   unfold jn at a
   split at a
   .split at a
    .let a||a:=aO.mp a
     .show k r (ej _ a)
     .simp_all
    .let a||a:=aO.mp a
     .show k r a
     .simp_all
   .simp_all
 show l _ [] Plain.nil m r a
structure Tl where
 key:Str
 w:Option Str
 b:Int
 e:Option Int
abbrev sPut:Str:=Str.ofString "put"
abbrev b2m:Str:=Str.ofString "clear"
noncomputable def Tl.z(τ:Tl):Z:=match τ.w with
 |some w=>.tup [.str sPut,.str τ.key,.str w,.int τ.b,oz τ.e]
 |none=>.tup [.str b2m,.str τ.key,.int τ.b,oz τ.e]
noncomputable def Tl.v(τ:Tl):Z:=match τ.w with
 |some w=>.str w
 |none=>.non
structure Tl.Ok (τ:Tl):Prop where
 k:nmOk τ.key
 w:∀s,τ.w=bN s->nmOk s
 st:stOk τ.b τ.e
noncomputable def Tl.Ok.v{τ:Tl}(h:τ.Ok):flat 0 τ.v=cp:=by
 unfold Tl.v;cases e:τ.w with
 |none=>rfl
 |some w=>show b4h (h.w w e)
noncomputable def Tl.rw(τ:Tl):Rw:=(τ.b,τ.e,[τ.v])
noncomputable def a1N(T:List Tl)(k:Str):List Rw:=(T.filter fun τ=>decide (τ.key=k)).map Tl.rw
def a7I:a1N (T++[τ]) k=a1N T k++(if τ.key=k then [τ.rw] else []):=by
 unfold a1N
 by_cases c:τ.key=k<;>simp[c]
def OkT(T:List Tl):Prop:=∀τ∈T,τ.Ok
structure IsLine (T:List Tl) (k:Str) (L:List Rw):Prop where
 can:Can L
 pl:Plain L
 len:L.length<=2*T.length
 v:∀t,val L t=optW (a2v (a1N T k) t)
def IsLine.nil(h:a1N T k=[]):IsLine T k []:=(Can.nil,Plain.nil,by simp,λt=>by rw[h];rfl)
def IsLine.snoc(h:IsLine T τ.key L)(o:τ.Ok):IsLine (T++[τ]) τ.key (a5r L τ.b τ.e (optW τ.v)):=by
 let a:=b1m (w:=optW τ.v) h.can.rise o.st.bef;show(a.1,a9M h.pl o.v,by let:=a.2.2;let:=h.len;simp;lia,λt=>?_);rw[a7I,if_pos rfl,a58,a.2.1 t,h.v t]
 change _=optW (if (decide (τ.b<=t)&&bef t τ.e)=cp then τ.v else a2v _ t)
 split<;>rfl
noncomputable def ixF(k:Str):Nat->List Tl->List Int
 |_,[]=>[]
 |n,τ::T=>(if τ.key=k then [(n:Int)+1] else [])++ixF k (n+1) T
noncomputable def ix(T:List Tl)(k:Str):List Int:=ixF k 0 T
def b1v:∀(n:Nat)(T:List Tl),ixF k n (T++[τ])=ixF k n T++(if τ.key=k then [(n+T.length:Int)+1] else []):=by ext z0 y0;induction y0 generalizing z0 with
 |nil=>simp[ixF]
 |cons σ T I0=>
  rw[c9,ixF,I0,ixF,bA]
  congr 2
  split
  .congr 1;rw[aS];lia
  .rfl
def a4D:ix (T++[τ]) k=ix T k++(if τ.key=k then [(T.length:Int)+1] else []):=by
 unfold ix;rw[b1v];simp
def b2n:∀{n:Nat}{T:List Tl}{i:Int},i∈ixF k n T->(n:Int)+1<=i/\i<=n+T.length:=by ext z0 y0;induction y0 generalizing z0 with
 |nil=>ext i h;simp[ixF]at h
 |cons τ T I0=>
  ext i h;rw[aS];let h||h:=aO.mp h
  .split at h
   .rw[aR.mp h];lia
   .simp_all
  .let:=I0 h;lia
def b62(h:i∈ix T k):1<=i/\i<=T.length:=by
 let:=b2n h
 o_head this
def b4i:∀(n:Nat)(T:List Tl),(ixF k n T).length<=T.length:=by ext z0 y0;induction y0 generalizing z0 with
 |nil=>simp[ixF]
 |cons τ T I0=>
  let:=I0 (z0+1)
  rw[ixF,aW,aS]
  split<;>simp<;>lia
def b2o(T:List Tl)(k:Str):(ix T k).length<=T.length:=b4i 0 T
def a7J:∀(n:Nat)(T:List Tl),(ixF k n T).Pairwise (·<·):=by ext z0 y0;induction y0 generalizing z0 with
 |nil=>show .nil
 |cons τ T I0=>
  show bu.mpr (by split<;>simp,I0 _,λx a y b=>?_)
  let:=b2n b
  split at a
  .rw[aR.mp a];cbv
  .grind
def a5w(T:List Tl)(k:Str):(ix T k).Pairwise (·<·):=a7J 0 T
theorem a2S:∀(n:Nat)(T:List Tl)(s q:Nat),s<=q->(∀i∈ixF k n T,(i:Int)<=n+s\/(n+q:Int)<i)->a1N (T.take q) k=a1N (T.take s) k
 |n,[],s,q,_,_=>by simp
 |n,τ::T,s,0,hs,_=>by grind
 |n,τ::T,0,q+1,hs,h=>by
  let d:¬ τ.key=k:=λe=>by
   let:=h (n+1) (by rw[ixF,if_pos e];simp)
   lia
  let a:=a2S (k:=k) (n+1) T 0 q (by lia) λi b=>by
   let c||c:=h i (by rw[ixF];simp[b])
   lia
   lia
  rw[er];unfold a1N at a ⊢;rw[bv,if_neg ↑d,a];simp
 |n,τ::T,s+1,q+1,hs,h=>by
  let a:=a2S (k:=k) (n+1) T s q (by lia) λi b=>by
   let c||c:=h i (by rw[ixF];simp[b])
   .left;lia
   lia
  rw[er,er];unfold a1N at a ⊢;rw[bv,bv]
  split
  .grind
  .show a
def IsLine.cut{s q:Nat}(h:IsLine (T.take s) k L)(hs:s<=q)(hi:∀i∈ix T k,i<=(s:Int)\/(q:Int)<i):IsLine (T.take q) k L:=by
 let e:=a2S 0 T s q hs λi h=>by let:=hi i h;o_head this
 show(h.can,h.pl,by let:=h.len;rw[bj]at this ⊢;lia,λt=>by rw[e];show h.v t)
def a9N{q:Nat}(h:∀i∈ix T k,(q:Int)<i):a1N (T.take q) k=[]:=by
 let:=a2S 0 T 0 q (bo _) λi a=>by right;let:=h i a;o_head this
 rw[this];rfl
def b4j(h:Rise l)(hr:r∈l)(ht:r.has t=cp):val l t=bN r.w:=by
 induction l with
 |nil=>simp at hr
 |cons s l ih=>
  rw[a0u];let rfl||hr:=aT.mp hr
  .rw[if_pos ht]
  .rw[if_neg]
   .show ih h.tail hr
   .ext z
    let:=(et h.2 hr).has z
    rw[ht]at this;cases this
def a7K{T:List Tl}{k:Str}{t:Int}:a2v (a1N T k) t=.non\/∃w,a2v (a1N T k) t=.str w:=by
 unfold a2v;cases e:(a1N T k).reverse.find? _ with
 |none=>show .inl rfl
 |some r=>
  let:=dJ e
  rw[fB]at this;let(τ,a,rfl):=aQ.mp this;unfold Tl.rw Tl.v;cases τ.w with
  |none=>show .inl rfl
  |some w=>show .inr (w,rfl)
def a1w(h:IsLine T k L)(hr:r∈L):∃w,r.w=[.str w]:=by
 let a:=b4j h.can.rise hr (a7F (h.can.1 r hr));rw[h.v]at a;unfold optW at a
 split at a
 .cases a
 .next q=>
  let e||(w,e):=@a7K T k r.b
  .show absurd e q
  .rw[e]at a;injection a with a;show(w,a.symm)
structure Ti where
 r:Rw
 s:Int
 u:Option Int
noncomputable def Ti.z(k:Str)(t:Ti):Z:=.tup [.str k,t.r.w.headD .non,.int t.r.b,oz t.r.e,.int t.s,oz t.u]
noncomputable def Ti.at_(t:Ti)(q:Int):Bool:=decide (t.s<=q)&&bef q t.u
noncomputable def hasR(L:List Rw)(r:Rw):Bool:=L.any λx=>decide (x.z=r.z)
def hasR_iff:hasR L r=cp↔r∈L:=by
 unfold hasR;rw[cD];show(by ext⟨x,h,e⟩;show Rw.z_inj (of_decide_eq_true e)▸h,λh=>(r,h,decide_eq_true rfl))
def hasR_no:hasR L r=js↔r∉L:=by
 rw[<- hasR_iff,Bool.not_eq_true]
noncomputable def stR(ts:List Ti):List Rw:=(ts.filter (·.u.isNone)).map (·.r)
noncomputable def endR(L:List Rw)(n:Int)(t:Ti):Ti:=if (t.u.isNone&&!hasR L t.r)=cp then (t.r,t.s,bN n) else t
noncomputable def newR(n:Int)(r:Rw):Ti:=(r,n,ce)
noncomputable def tOn(ts:List Ti)(L:List Rw)(n:Int):List Ti:=ts.map (endR L n)++(L.filter λr=>!hasR (stR ts) r).map (newR n)
noncomputable def a0A(ts:List Ti)(q:Int):List Rw:=(ts.filter (·.at_ q)).map (·.r)
def a6d:(endR L n t).r=t.r:=by unfold endR;split<;>rfl
def a9O:(endR L n t).s=t.s:=by unfold endR;split<;>rfl
def b1w:a0A (ts++us) q=a0A ts q++a0A us q:=by simp[a0A]
def b2p{α β:Type}{f:α->α}{g:α->β}{p p':α->Bool}:∀{l:List α},(∀t∈l,p (f t)=p' t)->(∀t∈l,g (f t)=g t)->((l.map f).filter p).map g=(l.filter p').map g:=by ext z0;induction z0 with
 |nil=>ext _ _;show rfl
 |cons t l I0=>
  ext h1 h2;let a:=I0 (λt h=>h1 t (.tail _ h)) (λt h=>h2 t (.tail _ h));rw[aV,bv,bv,h1 t (.head _)]
  split
  .simp_all
  .cbv
def b1x(h:q<n):a0A (tOn ts L n) q=a0A ts q:=by
 unfold tOn;rw[b1w];let b:a0A ((L.filter λr=>!hasR (stR ts) r).map (newR n)) q=[]:=by
  unfold a0A;rw[eu,dg];ext t a;let(r,_,rfl):=aQ.mp a;unfold Ti.at_ newR;rw[decide_eq_false (by grind)];simp
 rw[b,bL];show b2p (λt _=>?_) λt _=>a6d;unfold Ti.at_;rw[a9O]
 congr 1
 unfold endR
 split
 .next c=>
  rw[bW,Option.isNone_iff_eq_none]at c;rw[c.1];show decide_eq_true h
 .rfl
structure TsOk (ts:List Ti) (n:Int):Prop where
 s:∀t∈ts,t.s<=n
 u:∀t∈ts,∀x,t.u=bN x->x<=n
def a4E(h:TsOk ts n)(hq:n<=q):a0A ts q=stR ts:=by
 unfold a0A stR
 congr 1
 show fC λt a=>?_;unfold Ti.at_;rw[decide_eq_true (by let:=h.s t a;lia),bX];cases e:t.u with
 |none=>rfl
 |some x=>
  show decide_eq_false (by let:=h.u t a x e;lia)
def b63:stR (tOn ts L n)=(stR ts).filter (hasR L)++L.filter λr=>!hasR (stR ts) r:=by
 let f:stR (ts.map (endR L n))=(stR ts).filter (hasR L):=by
  unfold stR
  conv=>rhs;rw[List.filter_map,List.filter_filter]
  show b2p (λt _=>?_) λt _=>a6d;unfold endR;cases e:t.u with
  |none=>cases c:hasR L t.r<;>simp[c,e]
  |some x=>simp[e]
 let g:∀l:List Rw,stR (l.map (newR n))=l:=λl=>by
  unfold stR;rw[dh.mpr (λt h=>by let(r,_,rfl):=aQ.mp h;rfl),aX];show cN l
 let d:∀a b:List Ti,stR _=stR a++stR b:=λa b=>by unfold stR;rw[dL,aY]
 unfold tOn;rw[d,f,g]
def a9P{S L:List Rw}(hS:S.Nodup)(hL:L.Nodup):(S.filter (hasR L)++L.filter λr=>!hasR S r).Perm L:=by
 show (fD ?_ hL).mpr λr=>?_
 .show cc.mpr (hS.sublist cE,hL.sublist cE,λx b y f e=>?_);subst e;let d:=(bC.mp b).1;let a:=(bC.mp f).2;rw[hasR_iff.mpr d]at a;cases a
 .rw[aO,bC,bC,hasR_iff]
  constructor
  .ext (h |h)
   .simp_all
   .show h.1
  .ext h
   by_cases c:r∈S
   .show .inl (c,h)
   .show .inr (h,by rw[hasR_no.mpr c];rfl)
def b84(h:TsOk ts m)(hm:m<=n):TsOk (tOn ts L n) n:=by
 show(λt a=>?_,λt a x e=>?_)
 .let a||a:=aO.mp a
  .let(c,b,rfl):=aQ.mp a;rw[a9O];let:=h.s c b;lia
  .let(r,_,rfl):=aQ.mp a;show bH _
 .let a||a:=aO.mp a
  .let(c,b,rfl):=aQ.mp a;unfold endR at e
   split at e
   .grind
   .let:=h.u c b x e;lia
  .let(r,_,rfl):=aQ.mp a;cases e
def b2q:(tOn ts L n).length<=ts.length+L.length:=by grind [tOn]
noncomputable def TF(es:List (Int×List Rw)):List Ti:=es.foldl (λts e=>tOn ts e.2 e.1) []
noncomputable def a0k(es:List (Int×List Rw))(q:Int):List Rw:=match es.reverse.find? (λe=>decide (e.1<=q)) with
 |some e=>e.2
 |none=>[]
def a1O:TF (es++[e])=tOn (TF es) e.2 e.1:=by
 unfold TF;rw[ft];rfl
def a1P:a0k (es++[e]) q=if e.1<=q then e.2 else a0k es q:=by
 unfold a0k;rw[cu,cC,dG,bP]
 by_cases c:e.1<=q
 .simp_all
 .rw[decide_eq_false c,if_neg c]
def a1p(h:Can L):L.Nodup:=by
 let:=(bO.and_mem.mp h.2).imp λ{r s} (a,_,q)=>q.lt.b (h.1 r a)
 show this.imp λ{r s} q e=>by subst e;lia
def a4F{α:Type}{P:List α->Prop}(h0:P [])(h1:∀l a,P l->P (l++[a]))(l:List α):P l:=by
 rw[<- List.reverse_reverse l]
 induction l.reverse with
 |nil=>show h0
 |cons a l ih=>rw[cH];show h1 _ _ ih
structure Run (es:List (Int×List Rw)) (n:Int):Prop where
 ok:TsOk (TF es) n
 p:∀q,(a0A (TF es) q).Perm (a0k es q)
 c:∀q,Can (a0k es q)
def a6Z:∀{es:List (Int×List Rw)}{n:Int},es.Pairwise (λa b=>a.1<b.1)->(∀e∈es,e.1<=n)->(∀e∈es,Can e.2)->Run es n:=by
 ext j
 induction j using a4F with
 |h0=>show λ_ _ _=>((λt h=>by simp[TF]at h,λt h=>by simp[TF]at h),λq=>.refl _,λq=>Can.nil)
 |h1 j e ih=>
  ext n w v k;let(m,_,r):=bu.mp w;let R:=ih m (λx f=>bR (r x f e (.head _))) λx f=>k x (by simp[f]);let l:=k e (by simp);let g:=v e (by simp);let d:=b84 (L:=e.2) R.ok (bH e.1);show(by rw[a1O];show(λt i=>bx (d.s t i) g,λt i x f=>bx (d.u t i x f) g),λq=>?_,λq=>?_)
  .rw[a1O,a1P]
   by_cases c:e.1<=q
   .rw[if_pos c,a4E d c,b63];show a9P ?_ (a1p l);rw[<- a4E R.ok (bH e.1)];show (R.p e.1).nodup_iff.mpr (a1p (R.c e.1))
   .rw[if_neg c,b1x (by lia)];show R.p q
  .rw[a1P]
   split
   .lia
   .show R.c q
def b2r:∀{es:List (Int×List Rw)}{m:Nat},(∀e∈es,e.2.length<=m)->(TF es).length<=es.length*m:=by
 ext a
 induction a using a4F with
 |h0=>show λ_=>by simp[TF]
 |h1 a e ih=>
  ext m h;let h1:=ih λx c=>h x (by simp[c]);let h2:=b2q (ts:=TF a) (L:=e.2) (n:=e.1);let h3:=h e (by simp);rw[a1O,aW,du,eB,eC]
  lia
def b4k(hi:es.map (·.1)=ix T k)(hl:∀e∈es,IsLine (T.take e.1.toNat) k e.2)(q:Nat):IsLine (T.take q) k (a0k es q):=by
 let b:es.reverse.Pairwise (λx y=>y.1<x.1):=by
  let:=a5w T k
  rw[<- hi]at this;rw[List.pairwise_reverse];show bn.mp this
 unfold a0k;cases e:es.reverse.find? _ with
 |none=>
  show IsLine.nil (a9N λi h=>?_);rw[<- hi]at h;let(x,a,rfl):=aQ.mp h
  let:=dM.mp e x (by grind)
  o_head this
 |some x=>
  let(g,r,s,o,n):=List.find?_eq_some_iff_append.mp e;let a:x∈es:=by simp_all
  let g:=of_decide_eq_true g;show (hl x a).cut (by lia) λj l=>?_;rw[<- hi]at l;let(y,m,rfl):=aQ.mp l;let d:y∈es.reverse:=by grind
  rw[o]at d b;let c||c:=aO.mp d
  .right
   let:=n y c
   o_head this
  .left
   let rfl||c:=aT.mp c
   .lia
   .let:=et (bu.mp b).2.1 c
    lia
def a5x{es:List (Int×List Rw)}(hi:es.map (·.1)=ix T k):es.Pairwise (λa b=>a.1<b.1):=by
 let:=a5w T k
 rw[<- hi]at this;show bn.mp this
noncomputable def rnK(r:Rw):List Key:=[.inl (bN r.b),.inl r.e,match r.w with |[.str s]=>.inr s |_=>.inl ce]
def a9Q{r:Rw}(h:∃w,r.w=[.str w]):.tup ((rnK r).map keyW)=r.z:=by
 let(w,h):=h;unfold rnK Rw.z;rw[h];cases r.e<;>rfl
def b85(h:∃w,r.w=[.str w]):L2.tupZ (rnK r)=r.z:=by
 let(w,h):=h;unfold L2.tupZ rnK Rw.z;rw[h];cases r.e<;>rfl
def b4l(h:∃w,r.w=[.str w])(h':∃w,s.w=[.str w])(e:rnK r=rnK s):r=s:=Rw.z_inj (by rw[<- a9Q h,<- a9Q h',e])
def b1y:∀x:List Tim.Pz,Tim.cmpT x x=cp:=by ext z0;induction z0 with
 |nil=>show rfl
 |cons a x I0=>unfold Tim.cmpT;rw[if_pos rfl];show I0
def b64(h:Can L):∀r∈L,∀s∈L,Tim.cmpT (rnK r) (rnK s)=cp:=λr a s f=>by
 let d:=(bO.and_mem.mp h.2).imp λ{r s} (a,_,q)=>q.lt.b (h.1 r a)
 by_cases c:r=s
 .rw[c];show b1y _
 .let g:=λe=>c ((bO.forall_of_forall_of_flip (R:=λr s=>r.b=s.b->r=s) (λx _ _=>rfl) (d.imp λ{r s} q e=>by lia) (d.imp λ{r s} q e=>by let:=e;lia)) a f e);unfold rnK Tim.cmpT;rw[if_neg (by simp_all)]
  rfl
def a9R:∀{L M:List Rw},Can L->M.Perm L->(M.map rnK).Pairwise (λx y=>Tim.ltT y x=js)->M=L:=λ{L M} h p s=>by
 let c:=(bO.and_mem.mp h.2).imp λ{r s} (m,_,q)=>q.lt.b (h.1 r m);let d:M.Pairwise λr s=>r.b<s.b:=by
  show (bO.and_mem.mp ((bn.mp s).and (p.nodup_iff.mpr (a1p h)))).imp λ{x y} (i,l,q,j)=>?_;let f:x.b≠y.b:=λe=>j ((bO.forall_of_forall_of_flip (R:=λr s=>r.b=s.b->r=s) (λx _ _=>rfl) (c.imp λ{r s} q e=>by lia) (c.imp λ{r s} q e=>by let:=e;lia)) (p.mem_iff.mp i) (p.mem_iff.mp l) e);unfold rnK Tim.ltT at q;rw[if_neg ↑(Ne.symm f)]at q
  let:=q
  let:=of_decide_eq_false this
  lia
 show p.eq_of_pairwise (λa b _ _ n o=>by lia) d c
def oSb(x y:Ti):Prop:=x.s<y.s\/(x.s=y.s/\x.r.b<y.r.b)
def oSb.trans{x y z:Ti}(h:oSb x y)(g:oSb y z):oSb x z:=by
 unfold oSb at *;cbv
def oSb.irr{x:Ti}(h:oSb x x):False:=by unfold oSb at h;cbv
noncomputable def lfT(f:Int)(t:Ti):Option Ti:=if bef f t.u=cp then bN (t.r,max t.s f,t.u) else ce
noncomputable def left(f:Int)(ts:List Ti):List Ti:=ts.filterMap (lfT f)
def b1z{f:Int}{a b:List Ti}:left f (a++b)=left f a++left f b:=dU
def a9S{f g:Int}{u:Option Int}(h:f<=g)(b:bef g u=cp):bef f u=cp:=by
 cases u with
 |none=>rfl
 |some x=>show decide_eq_true (by let:=of_decide_eq_true b;cbv)
def a5y{f:Int}{t:Ti}{ts:List Ti}(c:bef f t.u=cp):left f (t::ts)=(t.r,max t.s f,t.u)::left f ts:=by simp[left,lfT,c]
def a32{f:Int}{t:Ti}{ts:List Ti}(c:bef f t.u=js):left f (t::ts)=left f ts:=by simp[left,lfT,c]
theorem a13{f g:Int}(h:f<=g):∀{ts:List Ti},left g (left f ts)=left g ts
 |[]=>rfl
 |t::ts=>by
  let ih:=a13 h (ts:=ts);cases c:bef f t.u with
  |true=>
   rw[a5y c];cases d:bef g t.u with
   |true=>rw[a5y (t:=(t.r,max t.s f,t.u)) d,a5y d,ih,show max (max t.s f) g=max t.s g by cbv]
   |false=>rw[a32 (t:=(t.r,max t.s f,t.u)) d,a32 d,ih]
  |false=>
   let d:bef g t.u=js:=by
    cases d:bef g t.u with
    |true=>rw[a9S h d]at c;cases c
    |false=>rfl
   rw[a32 c,a32 d,ih]
theorem a2T{f:Int}:∀{ts:List Ti},stR (left f ts)=stR ts
 |[]=>rfl
 |t::ts=>by
  let ih:=a2T (f:=f) (ts:=ts);cases c:bef f t.u with
  |true=>
   rw[a5y c];unfold stR at ih ⊢;rw[bv,bv];cases t.u with
   |none=>simp only[fE,if_true,aV,ih]
   |some x=>simp only[Option.isNone_some,b6,if_false,ih]
  |false=>
   rw[a32 c,ih];unfold stR;rw[bv];cases e:t.u with
   |none=>rw[e]at c;cases c
   |some x=>rfl
theorem a60{f n:Int}(h:f<n){L:List Rw}:∀{ts:List Ti},left f (ts.map (endR L n))=(left f ts).map (endR L n)
 |[]=>rfl
 |t::ts=>by
  let ih:=a60 h (L:=L) (ts:=ts);unfold left at ih ⊢;rw[aV,bD,bD,ih];let key:lfT f (endR L n t)=(lfT f t).map (endR L n):=by
   unfold lfT endR;cases e:t.u with
   |none=>
    by_cases c:hasR L t.r=cp
    .simp[c,e,bef]
    .simp[c,e,bef,h]
   |some x=>
    by_cases c:f<x
    .simp[e,bef,c]
    .simp[e,bef,c]
  rw[key];cases lfT f t<;>rfl
def b4m{f n:Int}(h:f<n){L:List Rw}{ts:List Ti}:left f (tOn ts L n)=tOn (left f ts) L n:=by
 unfold tOn;rw[b1z,a60 h,a2T]
 congr 1
 generalize (L.filter λr=>!hasR (stR ts) r)=M
 induction M with
 |nil=>rfl
 |cons r M ih=>
  unfold left at ih ⊢;rw[aV,bD]
  let:lfT f (newR n r)=bN (newR n r):=by
   change (if cp=cp then bN ((r,max n f,ce):Ti) else ce)=bN (r,n,ce)
   rw[if_pos rfl,show max n f=n by cbv]
  rw[this];dsimp only;rw[ih]
structure SL (f:Int) (ts K:List Ti):Prop where
 pm:K.Perm (left f ts)
 so:K.Pairwise oSb
def SL.uniq{f:Int}{ts K J:List Ti}(h:SL f ts K)(g:SL f ts J):K=J:=
 (h.pm.trans g.pm.symm).eq_of_pairwise (λx y _ _ a b=>(oSb.irr (a.trans b)).elim) h.so g.so
def a9T{S S':List Rw}(h:S.Perm S'):hasR S=hasR S':=by
 funext r
 cases e:hasR S' r with
 |true=>show hasR_iff.mpr (h.mem_iff.mpr (hasR_iff.mp e))
 |false=>show hasR_no.mpr λz=>hasR_no.mp e (h.mem_iff.mp z)
def SL.on{f n:Int}{ts K:List Ti}{L:List Rw}(h:SL f ts K)(hf:f<n)(hs:∀t∈ts,t.s<n)(hL:L.Pairwise (λx y=>x.b<y.b)):SL f (tOn ts L n) (tOn K L n):=by
 let hst:hasR (stR K)=hasR (stR (left f ts)):=a9T (by unfold stR;show (h.pm.filter _).map _);show(?_,?_)
 .rw[b4m hf];unfold tOn;rw[hst];show (h.pm.map _).append_right _
 .unfold tOn;rw[bu];show(bn.mpr (h.so.imp λ{x y} q=>?_),bn.mpr ((hL.sublist cE).imp λ{x y} q=>.inr (rfl,q)),λx hx y hy=>?_)
  .unfold oSb at q ⊢;rw[a9O,a9O,a6d,a6d];show q
  .let(x0,h0,rfl):=aQ.mp hx;let(r,_,rfl):=aQ.mp hy
   left
   rw[a9O];let(t,ht,e):=cy.mp (h.pm.mem_iff.mp h0);unfold lfT at e
   split at e
   .cases e
    let:=hs t ht
    change max t.s f<n
    cbv
   .cases e
def SL.fgt{f g:Int}{ts K J:List Ti}(h:SL f ts K)(hg:f<=g)(p:J.Perm (left g K))(so:J.Pairwise oSb):SL g ts J:=
 (p.trans (by rw[<- a13 hg (ts:=ts)];unfold left;show h.pm.filterMap _),so)
def b4n{K:List Ti}{L:List Rw}{n:Int}(h:∀r,r∈stR K↔r∈L):tOn K L n=K:=by
 unfold tOn;let e1:(L.filter λr=>!hasR (stR K) r)=[]:=dg.mpr λr hr=>by rw[hasR_iff.mpr ((h r).mpr hr)];simp
 rw[e1,bt,bL];show (b7 λt ht=>?_).trans (cN K);unfold endR;rw[if_neg];rfl;ext c;rw[bW]at c
 let:t.r∈stR K:=bK (f:=(·.r)) (bC.mpr (ht,c.1))
 rw[hasR_iff.mpr ((h _).mp this)]at c;cases c.2
theorem b2s{α:Type}{p:α->Bool}:∀{l:List α},(l.filter p).find? p=l.find? p
 |[]=>rfl
 |a::l=>by
  rw[bv,bP];cases c:p a with
  |true=>rw[if_pos rfl,bP,c]
  |false=>rw[if_neg (by simp)];show b2s
theorem b65{α β:Type}{f g:α->Option β}:∀{l:List α},(∀a∈l,f a=g a)->l.filterMap f=l.filterMap g
 |[],_=>rfl
 |a::l,h=>by rw[bD,bD,h a (.head _),b65 λb hb=>h b (.tail _ hb)]
theorem b66{α:Type}{p q:α->Bool}:∀{l:List α},(∀a∈l,p a=q a)->l.find? p=l.find? q
 |[],_=>rfl
 |a::l,h=>by rw[bP,bP,h a (.head _),b66 λb hb=>h b (.tail _ hb)]
def a1q{es:List (Int×List Rw)}{q:Int}:a0k (es.filter λe=>decide (e.1<=q)) q=a0k es q:=by
 unfold a0k;rw[<- List.filter_reverse,b2s]
def a9U{L:List Rw}(h:Can L):L.Pairwise λr s=>r.b<s.b:=(bO.and_mem.mp h.2).imp λ{r s} (hr,_,q)=>q.lt.b (h.1 r hr)
noncomputable def gT(line:Int->List Rw)(f:Int):Nat->List Ti
 |0=>[]
 |m+1=>tOn (gT line f m) (line (f+m)) (f+m)
def b86{es:List (Int×List Rw)}(hs:es.Pairwise (λa b=>a.1<b.1))(hc:∀e∈es,Can e.2){f:Int}:∀m:Nat,SL f (TF (es.filter λe=>decide (e.1<=f+m))) (gT (a0k es) f (m+1)):=by
 let run:∀q,Run (es.filter λe=>decide (e.1<=q)) q:=λq=>a6Z (hs.sublist cE) (λe he=>of_decide_eq_true (bC.mp he).2) λe he=>hc e (bC.mp he).1;let st:∀q,(stR (TF (es.filter λe=>decide (e.1<=q)))).Perm (a0k es q):=λq=>by
  rw[<- a4E (run q).ok (bH q),<- a1q];show (run q).p q
 let cn:∀q,Can (a0k es q):=λq=>by rw[<- a1q];show (run q).c q
 ext m
 induction m with
 |zero=>
  let e0:f+((0:Nat):Int)=f:=by cbv
  rw[e0];let R:=(run f).ok;let S:=st f
  change SL f _ (tOn [] (a0k es (f+((0:Nat):Int))) (f+((0:Nat):Int)))
  rw[e0];generalize TF (es.filter λe=>decide (e.1<=f))=ts at R S ⊢;let lf:left f ts=(stR ts).map (newR f):=by
   unfold left stR;rw[aX,<- List.filterMap_eq_map,List.filterMap_filter];show b65 λt ht=>?_;unfold lfT;cases e:t.u with
   |none=>
    let:=R.s t ht
    simp only[fE,if_true,bef,Function.comp]
    change bN ((t.r,max t.s f,ce):Ti)=bN (t.r,f,ce)
    rw[show max t.s f=f by cbv]
   |some x=>
    let:=R.u t ht x e
    let:bef f (bN x)=js:=decide_eq_false (by cbv)
    simp[this]
  let eo:tOn [] (a0k es f) f=(a0k es f).map (newR f):=by
   unfold tOn;rw[bt,cA,dh.mpr];ext r _
   rfl
  rw[eo];show(by rw[lf];show (S.symm).map _,bn.mpr ((a9U (cn f)).imp λ{x y} q=>.inr (rfl,q)))
 |succ m ih=>
  change SL f _ (tOn (gT (a0k es) f (m+1)) (a0k es (f+((m+1:Nat):Int))) (f+((m+1:Nat):Int)))
  generalize gT (a0k es) f (m+1)=K at ih ⊢
  by_cases c:∃e∈es,e.1=f+((m+1:Nat):Int)
  .let(e,he,e1):=c;let(A,B,eq):=List.append_of_mem he;rw[eq]at hs;let(s1,s2,s3):=bu.mp hs;let(s4,s5):=bI.mp s2;let fa:A.filter (λx=>decide (x.1<=f+((m+1:Nat):Int)))=A:=dh.mpr λx hx=>decide_eq_true (by let:=s3 x hx e (.head _);cbv);let fa':A.filter (λx=>decide (x.1<=f+(m:Int)))=A:=dh.mpr λx hx=>decide_eq_true (by let:=s3 x hx e (.head _);cbv);let fb:(e::B).filter (λx=>decide (x.1<=f+((m+1:Nat):Int)))=[e]:=by
    rw[bv,decide_eq_true (by cbv),if_pos rfl,dg.mpr];ext x hx
    let:=s4 x hx
    simp;cbv
   let fb':(e::B).filter (λx=>decide (x.1<=f+(m:Int)))=[]:=dg.mpr λx hx=>by
    let rfl||hx:=aT.mp hx
    .simp;cbv
    .let:=s4 x hx
     simp;cbv
   let el:a0k es (f+((m+1:Nat):Int))=e.2:=by
    rw[<- a1q,eq,dL,fa,fb,a1P,if_pos (by cbv)]
   let R:=(run (f+(m:Int))).ok;rw[el,eq,dL,fa,fb,a1O,<- e1];rw[eq,dL,fa',fb',bL]at ih R;show ih.on (by cbv) (λt ht=>by let:=R.s t ht;cbv) (a9U (hc e he))
  .let ef:(es.filter λe=>decide (e.1<=f+((m+1:Nat):Int)))=es.filter λe=>decide (e.1<=f+(m:Int)):=fC λe he=>by
    let:¬ e.1=f+((m+1:Nat):Int):=λz=>c (e,he,z)
    by_cases d:e.1<=f+(m:Int)
    .rw[decide_eq_true d,decide_eq_true (by cbv)]
    .rw[decide_eq_false d,decide_eq_false (by cbv)]
   let el:a0k es (f+((m+1:Nat):Int))=a0k es (f+(m:Int)):=by
    rw[<- a1q,ef,<- a1q (q:=f+(m:Int))];unfold a0k;rw[b66 (q:=λe=>decide (e.1<=f+(m:Int)))];ext e he
    let:=of_decide_eq_true (bC.mp (fB.mp he)).2
    rw[decide_eq_true this,decide_eq_true (by cbv)]
   rw[ef,b4n λr=>?_]
   .show ih
   .rw[el,<- (st (f+(m:Int))).mem_iff,<- a2T (f:=f) (ts:=TF _)];show (show (stR K).Perm (stR (left f _)) by unfold stR;show (ih.pm.filter _).map _).mem_iff
structure TsV (T:List Tl) (k:Str) (es:List (Int×List Rw)):Prop where
 ix:es.map (·.1)=ix T k
 ln:∀e∈es,IsLine (T.take e.1.toNat) k e.2
def TsV.le{T:List Tl}{k:Str}{es:List (Int×List Rw)}(h:TsV T k es){e:Int×List Rw}(he:e∈es):1<=e.1/\e.1<=T.length:=b62 (h.ix▸bK he)
def TsV.run(h:TsV T k es):Run es T.length:=a6Z (a5x h.ix) (λ_ a=>(h.le a).2) λe a=>(h.ln e a).can
def TsV.line(h:TsV T k es)(q:Nat):IsLine (T.take q) k (a0k es q):=b4k h.ix h.ln q
def TsV.uniq{T:List Tl}{k:Str}{es fs:List (Int×List Rw)}(h:TsV T k es)(g:TsV T k fs):es=fs:=by
 let e:es.map (·.1)=fs.map (·.1):=h.ix.trans g.ix.symm;let l:es.length=fs.length:=by let:=congrArg bz e;o_head this
 show List.ext_getElem l λi h1 h2=>?_;let e1:es[i].1=fs[i].1:=by
  let:(es.map (·.1))[i]?=(fs.map (·.1))[i]?:=by rw[e]
  rw[aU,aU,bf h1,bf h2]at this;o_head this
 let l1:=h.ln es[i] (cL h1);let l2:=g.ln fs[i] (cL h2);rw[<- e1]at l2;show Prod.ext e1 (a9C l1.can l2.can λt=>by rw[l1.v,l2.v])
structure TK1 (T:List Tl) (f:Int) (k:Str) (K:List Ti):Prop where
 ex:∃es,TsV T k es/\SL f (TF es) K
def TK1.uniq{T:List Tl}{f:Int}{k:Str}{K J:List Ti}(h:TK1 T f k K)(g:TK1 T f k J):K=J:=by
 let(es,h1,h2):=h.ex;let(fs,g1,g2):=g.ex;rw[<- h1.uniq g1]at g2;show h2.uniq g2
abbrev a3A:Str:=Str.ofString "last"
abbrev a4G:Str:=Str.ofString "kept"
abbrev sLow:Str:=Str.ofString "lowest"
noncomputable def shF(b:Bool)(n:Int)(d:Addr)(f:Int):List (Str×Z):=(a3A,.int n,)::(a4G,.ref d,)::cond b [(sLow,.int f,)] []
def b67:¬ (a3A=a4G):=by decide +kernel
def b68:¬ (a3A=sLow):=by decide +kernel
def b69:¬ (a4G=sLow):=by decide +kernel
def b1A{n:Int}{d:Addr}:putQ a4G (.ref d) [(a3A,.int n,)]=shF js n d 0:=by
 unfold putQ;rw[if_neg b67];rfl
def b4o{n f:Int}{d:Addr}:putQ sLow (.int f) (shF js n d 0)=shF cp n d f:=by
 unfold shF putQ;rw[if_neg b68];unfold putQ;rw[if_neg b69];rfl
def b4p{b:Bool}{n m f:Int}{d:Addr}:putQ a3A (.int m) (shF b n d f)=shF b m d f:=by
 unfold shF putQ;rw[if_pos rfl]
def b4q{b:Bool}{n f:Int}{d e:Addr}:putQ a4G (.ref e) (shF b n d f)=shF b n e f:=by
 unfold shF putQ;rw[if_neg b67];unfold putQ;rw[if_pos rfl]
def b7a{n f g:Int}{d:Addr}:putQ sLow (.int g) (shF cp n d f)=shF cp n d g:=by
 unfold shF putQ;rw[if_neg b68];unfold putQ;rw[if_neg b69]
 change _::_::putQ sLow (.int g) [(sLow,.int f,)]=_
 unfold putQ;rw[if_pos rfl];rfl
def a1Q{b:Bool}{n f:Int}{d:Addr}:(shF b n d f).lookup a3A=bN (.int n):=by
 unfold shF;rw[bG,beq_self_eq_true]
def a1R{b:Bool}{n f:Int}{d:Addr}:(shF b n d f).lookup a4G=bN (.ref d):=by
 unfold shF;rw[bG,show (a4G==a3A)=js by decide +kernel,bG,beq_self_eq_true]
def a9V{n f:Int}{d:Addr}:(shF cp n d f).lookup sLow=bN (.int f):=by
 unfold shF;rw[bG,show (sLow==a3A)=js by decide +kernel,bG,show (sLow==a4G)=js by decide +kernel]
 change [(sLow,Z.int f,)].lookup sLow=_
 rw[bG,beq_self_eq_true]
def a0J{b:Bool}{n f:Int}{d:Addr}{m:Str}(h1:(m==a3A)=js)(h2:(m==a4G)=js)(h3:(m==sLow)=js):(shF b n d f).lookup m=ce:=by
 unfold shF;rw[bG,h1,bG,h2];cases b with
 |false=>rfl
 |true=>
  change [(sLow,Z.int f,)].lookup m=ce
  rw[bG,h3];rfl
def a4H{b:Bool}{n f:Int}{d:Addr}:(shF b n d f).length<1000:=by
 cases b
 .show (show 2<1000 by decide)
 .show (show 3<1000 by decide)
inductive At (G:Hq) (S:Addr->Prop) (T:List Tl) (f:Int) (kvs:List (Key×Z)) (k:Str):Prop
 |no (n:valZ kvs (.inr k)=ce) (t:TK1 T f k [])
 |at_ (h:Addr) (K:List Ti) (v:valZ kvs (.inr k)=bN (.ref h)) (s:S h) (g:G h=bN (.lst (K.map (Ti.z k)))) (t:TK1 T f k K) (ne:ix T k≠[])
def At.keep{G G':Hq}{S:Addr->Prop}{T:List Tl}{f:Int}{kvs:List (Key×Z)}{k:Str}(h:At G S T f kvs k)(q:∀x ws,S x->G x=bN (.lst ws)->G' x=bN (.lst ws)):At G' S T f kvs k:=by
 cases h with
 |no n t=>show .no n t
 |at_ h K v s g t ne=>show .at_ h K v s (q _ _ s g) t ne
structure ShM (a:Ad) (b:Bool) (G:Hq) (p:Addr) (S:Addr->Prop) (T:List Tl) (f n:Int) (dx d:Addr) (kvs:List (Key×Z)):Prop where
 ob:G p=bN (.ins (a.cK b) dx (shF b n d f))
 sp:S p
 sd:S d
 dc:G d=bN (.dK kvs)
 len:kvs.length<=T.length
 hs:∀k,At G S T f kvs k
 al:∀b,S b->∃o,G b=bN o
 nd:(kvs.map (·.1)).Nodup
 sk:∀q∈kvs,∃s,q.1=Sum.inr s
 f0:0<=f
 f1:f<=T.length
def Sheet(a:Ad)(b:Bool)(G:Hq)(p:Addr)(S:Addr->Prop)(T:List Tl)(f:Int):Prop:=∃dx d kvs,ShM a b G p S T f T.length dx d kvs
def KS(S:Addr->Prop)(G G':Hq):Prop:=∀b o,S b->G b=bN o->G' b=bN o
def KN(S:Addr->Prop)(G G':Hq):Prop:=∀b o,¬ S b->G b=bN o->G' b=bN o
def Sm.ks(s:Sm G G'):KS S G G':=λb o _ e=>s b o e
def Sm.kn(s:Sm G G'):KN S G G':=λb o _ e=>s b o e
def KN.trans(a:KN S G G1)(b:KN S G1 G2):KN S G G2:=λc o n e=>b c o n (a c o n e)
section
variable{a:Ad}{b:Bool}{G G':Hq}{p:Addr}{S:Addr->Prop}{T:List Tl}{f n:Int}{dx d:Addr}{kvs:List (Key×Z)}
def ShM.keep(H:ShM a b G p S T f n dx d kvs)(q:KS S G G'):ShM a b G' p S T f n dx d kvs:=
 (q _ _ H.sp H.ob,H.sp,H.sd,q _ _ H.sd H.dc,H.len,λk=>(H.hs k).keep λx ws s e=>q x _ s e,(λb hb=>let (o,e):=H.al b hb;(o,q b o hb e)),H.nd,H.sk,H.f0,H.f1)
def Sheet.keep(H:Sheet a b G p S T f)(q:KS S G G'):Sheet a b G' p S T f:=let (dx,d,kvs,h):=H;(dx,d,kvs,h.keep q)
def Sheet.al(H:Sheet a b G p S T f){x:Addr}(hx:S x)(e:G x=ce):False:=by
 let(_,_,_,h):=H;let(o,e'):=h.al x hx;rw[e]at e';cases e'
def a1S(h:Sheet a b G p S T f):∃dx n d,G p=bN (.ins (a.cK b) dx (shF b n d f)):=let (_,_,_,m):=h;(_,_,_,m.ob)
end
structure ShV (a:Ad) (b:Bool) (G:Hq) (p:Addr) (S:Addr->Prop) (T:List Tl) (f n:Int) (dx d:Addr) (kvs:List (Key×Z)):Prop where
 ob:G p=bN (.ins (a.cK b) dx (shF b n d f))
 sp:S p
 sd:S d
 dc:G d=bN (.dK kvs)\/G d=bN (.dF kvs)
 len:kvs.length<=T.length
 hs:∀k,At G S T f kvs k
 f0:0<=f
section
variable{a:Ad}{b:Bool}{G G':Hq}{p:Addr}{S:Addr->Prop}{T:List Tl}{f n:Int}{dx d:Addr}{kvs:List (Key×Z)}
noncomputable def ShM.v(H:ShM a b G p S T f n dx d kvs):ShV a b G p S T f n dx d kvs:=(H.ob,H.sp,H.sd,.inl H.dc,H.len,H.hs,H.f0)
def ShV.keep(H:ShV a b G p S T f n dx d kvs)(q:KS S G G'):ShV a b G' p S T f n dx d kvs:=
 (q _ _ H.sp H.ob,H.sp,H.sd,H.dc.imp (q _ _ H.sd) (q _ _ H.sd),H.len,λk=>(H.hs k).keep λx ws s e=>q x _ s e,H.f0)
def ShV.frz(H:ShV a b G p S T f n dx d kvs):ShV a b (put G d (.dF kvs)) p S T f n dx d kvs:=by
 let k:∀b o,b≠d->G b=bN o->put G d (.dF kvs) b=bN o:=λb o nb e=>by rw[a0h nb];show e
 show(k _ _ (λz=>?_) H.ob,H.sp,H.sd,.inr a0a,H.len,λkk=>(H.hs kk).keep λx ws _ e=>k _ _ (λz=>?_) e,H.f0)
 .let e:=H.ob;rw[z]at e;let c||c:=H.dc<;>(rw[c]at e;cases e)
 .rw[z]at e;let c||c:=H.dc<;>(rw[c]at e;cases e)
end
def a3j(a:Ad):P3:=λws G R=>∃x,ws=[x]/\Th G x/\∀G',Sm G G'->if a2j x=cp then R .non G' else False
set_option tactic.hygienic true in
def a3k(T:Txt K mg base a):Cal P w K mg base CX0 2 "check_name" (lowP K (a3j a)):=by
 show fnc 1 (N:=["thing"]) T.br (T.f 4 _ rfl) ?_;walk_at "in";show(_,(a0y (z_if (by ac_rfl)
  (a0y a4h)
  a24)),?_)
 let(x,rfl,hx,q):=h;lk;show(_,rfl,hx,λG' s1=>?_);let q':=q G' s1;lk;show ifNB (λc=>?_) λc=>?_
 .rw[c]at q'
  first |show aP q' | (lk;show q')
 .rw[c]at q'
  first |show aP q' | (lk;show q')
def a14(a:Ad):P3:=λws G R=>∃x y,ws=[x,y]/\Th G x/\Th G y/\∀G',Sm G G'->if strB x y=cp then R .non G' else False
set_option tactic.hygienic true in
def a15(T:Txt K mg base a):Cal P w K mg base CX0 3 "check_stretch" (lowP K (a14 a)):=by
 show fnc 2 (N:=["begin","end"]) T.br (T.f 5 _ rfl) ?_;walk_at "in";show(_,(a0y (z_if (by ac_rfl)
  (a0y a4h)
  a24)),?_)
 let(x,y,rfl,hx,hy,q):=h;lk;show(_,_,rfl,hx,hy,λG' s1=>?_);let q':=q G' s1;lk;show ifNB (λc=>?_) λc=>?_
 .rw[c]at q'
  first |show aP q' | (lk;show q')
 .rw[c]at q'
  first |show aP q' | (lk;show q')
structure Tel (G:Hq) (z:Z) (h:Z) (nm:List Z) (x y:Z):Prop where
 e:z=.tup (h::(nm++[x,y]))
 l:(∃k,nm=[k])\/∃k w,nm=[k,w]
 n:∀z∈nm,Th G z
 x:Th G x
 y:Th G y
def Tel.sm{x y:Z}(T:Tel G z h nm x y)(s:Sm G G'):Tel G' z h nm x y:=(T.e,T.l,λz a=>(T.n z a).sm s,T.x.sm s,T.y.sm s)
def a16(a:Ad):P3:=λws G R=>Ex5 λ(z h:Z) (nm:List Z) (x y:Z)=>ws=[z]/\Tel G z h nm x y/\∀G',Sm G G'->if nm.all a2j=cp then (if strB x y=cp then R .non G' else False) else False
def b87:cutZ [h,k,x,y] (bN 1) (bN (-2))=[k]:=rfl
def b88{h k w x y:Z}:cutZ [h,k,w,x,y] (bN 1) (bN (-2))=[k,w]:=rfl
def a5z{l:List Z}(h:x∈l)(c:f x=js):l.all f=js:=List.all_eq_false.mpr (x,h,by rw[c];decide)
def a61{l:List Z}(h:(l.take i).all f=cp)(e:l[i]?=bN x)(c:f x=cp):(l.take (i+1)).all f=cp:=by
 rw[b4,List.all_append,h,e]
 change (cp&&([x].all f))=cp
 rw[b5,c];rfl
set_option tactic.hygienic true in
def a17(T:Txt K mg base a):Cal P w K mg base CX0 4 "check_telling" (lowP K (a16 a)):=by
 show fnc 1 (N:=["telling","name"]) T.br (T.f 11 _ rfl) ?_;walk_at "in";show(_,(a0d (a4i (pt:=(.nm 1)) gy.never rfl (b5T (by ac_rfl)) (p_nm (nmI 1 nd))
  (by ac_rfl))
  (by ac_rfl)),?_)
 let(z,h,nm,x,y,rfl,(rfl,hl,hn,hx,hy),q):=h;let(k,rfl)||(k,w,rfl):=hl
 .change uSeq _ _ _ _ _ _ (a04 _ [.tup [h,k,x,y]]) _
  lk;show a7o (show ¬ (HT.sIx 4 0 (bN 1)=0/\HT.sIx 4 4 (bN (-2))=4) by decide) ?_;rw[b87];lk;show a1e (λi σ G'=>∃v:Option Z,Sm G G'/\(([k]:List Z).take i).all a2j=cp/\σ=[bN (.tup [h,k,x,y]),v]) (_,Sm.refl _,rfl,rfl) (λ_ _ _ _ _=>True.intro) ?_ ?_
  .ext i u σ G' hu ⟨v,s,ha,rfl⟩;let hm:=bp hu;show(_,rfl,?_);lk;show(u,rfl,(hn u hm).sm s,λG1 s1=>?_);let q':=q G1 (s.trans s1);show ifB (λc=>?_) λc=>?_
   .lk;show(_,s.trans s1,a61 ha hu c,rfl)
   .rw[a5z hm c]at q';show q'
  .ext σ G' ⟨v,s,ha,rfl⟩;let ha:([k]:List Z).all a2j=cp:=ha;lk;show(x,y,rfl,hx.sm s,hy.sm s,λG1 s1=>?_);let q':=q G1 (s.trans s1);rw[ha]at q';show ifB (λc=>?_) λc=>?_
   .rw[c]at q';lk;show q'
   .rw[c]at q';show q'
 .change uSeq _ _ _ _ _ _ (a04 _ [.tup [h,k,w,x,y]]) _
  lk;show a7o (show ¬ (HT.sIx 5 0 (bN 1)=0/\HT.sIx 5 5 (bN (-2))=5) by decide) ?_;rw[b88];lk;show a1e (λi σ G'=>∃v:Option Z,Sm G G'/\(([k,w]:List Z).take i).all a2j=cp/\σ=[bN (.tup [h,k,w,x,y]),v]) (_,Sm.refl _,rfl,rfl) (λ_ _ _ _ _=>True.intro) ?_ ?_
  .ext i u σ G' hu ⟨v,s,ha,rfl⟩;let hm:=bp hu;show(_,rfl,?_);lk;show(u,rfl,(hn u hm).sm s,λG1 s1=>?_);let q':=q G1 (s.trans s1);show ifB (λc=>?_) λc=>?_
   .lk;show(_,s.trans s1,a61 ha hu c,rfl)
   .rw[a5z hm c]at q';show q'
  .ext σ G' ⟨v,s,ha,rfl⟩;let ha:([k,w]:List Z).all a2j=cp:=ha;lk;show(x,y,rfl,hx.sm s,hy.sm s,λG1 s1=>?_);let q':=q G1 (s.trans s1);rw[ha]at q';show ifB (λc=>?_) λc=>?_
   .rw[c]at q';lk;show q'
   .rw[c]at q';show q'
def a1T(a:Ad):P3:=λws G R=>∃q n:Int,ws=[.int q,.int n]/\if 0<=q/\q<=n then R .non G else False
set_option tactic.hygienic true in
def a0D(T:Txt K mg base a):Cal P w K mg base CX0 1 "check_in_reach" (lowP K (a1T a)):=by
 show fnc 2 (N:=["knowing","last"]) T.br (T.f 6 _ rfl) ?_;walk_at "in";show(_,(a0y (z_if (by ac_rfl)
  (a0y a4h)
  a24)),?_)
 let(q,n,rfl,k):=h;lk;show ifD (λc=>?_) λc=>?_
 .rw[if_neg (by cbv)]at k;show k.elim
 .lk;show ifD (λc2=>?_) λc2=>?_
  .rw[if_neg (by cbv)]at k;show k.elim
  .rw[if_pos (by cbv)]at k;lk;show k
def a2D:P3:=λws G R=>∃(l:Addr)(L:List Rw)(τ:Tl),ws=[.ref l,τ.z]/\G l=bN (.lst (L.map Rw.z))/\Rise L/\Plain L/\L.length<=400/\τ.Ok /\
 ∀t G',G t=ce->Sm G G'->G' t=bN (.lst ((a5r L τ.b τ.e (optW τ.v)).map Rw.z))->R (.ref t) G'
def b89:¬ (b2m=sPut):=by decide +kernel
set_option tactic.hygienic true in
def a1g(T:Txt K mg base a):Cal P w K mg base CX0 4 "line_behind" (lowP K a2D):=by
 show fnc 2 (N:=["line","telling","worth"]) T.br (T.f 12 _ rfl) ?_;walk_at "in";show(_,(by ac_rfl),?_);let(l,L,(key,w,b,e),rfl,hl,hr,hp,hz,ok,q):=h;let hb:=ok.st.bef;let hv:=ok.v;cases w with
 |none=>
  unfold Tl.z;lk;show ifD (λc=>absurd c b89) λ_=>?_;lk;show(l,L,b,e,.non,rfl,hl,hr,hp.okR,hp.one,by cbv,hb,rfl,q)
 |some w=>
  unfold Tl.z;lk;show ifD (λ_=>?_) λc=>absurd rfl c;lk;show(l,L,b,e,.str w,rfl,hl,hr,hp.okR,hp.one,by cbv,hb,a3g (by decide) hv,q)
structure New (a:Ad) (b:Bool) (G:Hq) (p d dx:Addr):Prop where
 ob:G p=bN (.ins (a.cK b) dx (shF js 0 d 0))
 dc:G d=bN (.dK [])
def a2k(a:Ad):P3:=λws G R=>∃b:Bool,∃(p dx:Addr),ws=[.ref p]/\G p=bN (.ins (a.cK b) dx [])/\∀d G',G d=ce->(∀b o,G b=bN o->b≠p->G' b=bN o)->New a b G' p d dx->R .non G'
set_option tactic.hygienic true in
def a05(T:Txt K mg base a):Mal P w K mg base CX0 1 a.c_Tiled "__init__" (lowP K (a2k a)):=by
 show fnm 1 (N:=["self"]) (T.m_Tiled 5 _ rfl) ?_;walk_at "in";let(b,h):=h;show(_,(a0d (a89 (clK T b) (naK T b 0) (qv 0) a3v)
  (a0y (a89 (clK T b) (naK T b 1) (qv 0) b11))),?_)
 let(p,dx,rfl,hp,q):=h;lk;show(p,dx,[],rfl,hp,by decide,?_);lk;ext d hd;let hpd:p≠d:=a0x a0a hd;lk;show(p,dx,[(a3A,.int 0,)],rfl,by rw[a0h hpd];show a0a,by change 1<1000;decide,?_);rw[b1A];lk;let hd0:G d=ce:=by rw[a0h (Ne.symm hpd)]at hd;show hd
 show q d _ hd0 (λb o e nb=>?_) (a0a,?_)
 .rw[a0h nb,a0h (a0x e hd0),a0h nb];show e
 .rw[a0h (Ne.symm hpd)];show a0a
def b4r{k:Str}:TK1 [] 0 k []:=([],(rfl,λe he=>by simp at he),.refl _,.nil)
def a5A{a:Ad}{b:Bool}{G:Hq}{p d dx:Addr}(e:G p=bN (.ins (a.cK b) dx (shF b 0 d 0)))(hd:G d=bN (.dK [])):Sheet a b G p (λx=>x=p\/x=d) [] 0:=
 (dx,d,[],e,.inl rfl,.inr rfl,hd,bo _,λk=>.no rfl b4r,(λx hx=>by
  let rfl||rfl:=hx
  .show(_,e)
  .show(_,hd)),.nil,(λq hq=>by simp at hq),bH _,bH _)
def a2l(a:Ad):P3:=λws G R=>∃p dx,ws=[.ref p]/\G p=bN (.ins (a.cK cp) dx [])/\∀d G',G d=ce->(∀b o,G b=bN o->b≠p->G' b=bN o)->Sheet a cp G' p (λx=>x=p\/x=d) [] 0->R .non G'
set_option tactic.hygienic true in
def a2m(T:Txt K mg base a):Mal P w K mg base CX0 3 (a.cK cp) "__init__" (lowP K (a2l a)):=by
 show fnm 1 (N:=["self"]) (T.m_Short 10 _ rfl) ?_;walk_at "in";show(_,(a0d (a2s (q_cm T.cm_Tiled T.mg_Tiled (a05 T) hr (q_k (qv 0) a0z)))
  (a0y (a89 (clK T cp) (T.n_Short 2 _ rfl) (qv 0) a3v))),?_)
 let(p,dx,rfl,hp,q):=h;lk;show(cp,p,dx,rfl,hp,λd G1 hd k1 nw=>?_);let hpd:p≠d:=a0x hp hd;lk;show(p,dx,_,rfl,nw.ob,a4H,?_);rw[b4o];show q d _ hd (λb o e nb=>by rw[a0h nb];show k1 b o e nb) (a5A a0a (by rw[a0h (Ne.symm hpd)];show nw.dc))
def Nmd(l:List Rw):Prop:=∀r∈l,∃w,r.w=[.str w]
def NmT(ts:List Ti):Prop:=∀t∈ts,∃w,t.r.w=[.str w]
def a1z{α β:Type}{l:List α}{g:α->Z}{g':β->Z}(f:α->Option β)(hok:∀ys,ok (put G1 D (.lst ys)))(hz:l.length<=100000)
  (turn:∀x,x∈l->∀(ys:List Z)(K1:K3)(K2:Hq->Prop),(∀y,f x=bN y->K1 (g' y) (put G1 D (.lst ys)))->(f x=ce->K2 (put G1 D (.lst ys)))->∃σ',a25 pt (g x) (cap3 cap σ)=bN σ'/\tt σ' (put G1 D (.lst ys)) λb G4=>if b=cp then te σ' G4 K1 else K2 G4)
  (fin:R (.ref D) (put G1 D (.lst ((l.filterMap f).map g')))):LCB (l.map g) ok cap pt tt te σ R D G1:=by
 show a7m (λi c G=>c=((l.take i).filterMap f).map g'/\G=put G1 D (.lst c)) (by simp,rfl) ?_ ?_ ?_
 .simp_all
 .ext i x c G d ⟨e,rfl⟩;rw[aU]at d;cases hx':l[i]? with
  |none=>rw[hx']at d;cases d
  |some a=>
   rw[hx']at d;cases d;let k:=(bh.mp hx').1;show turn a (bp hx') c _ _ (λy j=>(a0a,?_,?_,?_)) λh=>(?_,rfl)
   .rw[e,aM];show cj (be (b9 _ _) (by rw[bj];lia:_<=99999)) (by decide)
   .rw[a0G hx',j,e,aY];rfl
   .rw[a0Z]
   .rw[a0G hx',h,e];simp
 .simp_all
def a6e:P3:=λws G R=>∃(k:Str)(t:Ti),ws=[t.z k]/\(∃w,t.r.w=[.str w])/\R t.r.z G
set_option tactic.hygienic true in
def a6f(T:Txt K mg base a):Cal P w K mg base CX0 1 "run_of" (lowP K a6e):=by
 show fnc 1 (N:=["tile"]) T.br (T.f 13 _ rfl) ?_;walk_at "in";show(_,(by ac_rfl),?_);let(k,((rb,re,rw0),s,u),rfl,(w,hw),q):=h;simp only at hw;subst hw;unfold Ti.z;lk;show(lenK rfl,?_);lk;show q
def a2E:P3:=λws G R=>∃(k:Str)(t:Ti),ws=[t.z k]/\R (.bl t.u.isNone) G
set_option tactic.hygienic true in
def a2F(T:Txt K mg base a):Cal P w K mg base CX0 1 "is_standing" (lowP K a2E):=by
 show fnc 1 (N:=["tile"]) T.br (T.f 14 _ rfl) ?_;walk_at "in";show(_,(by ac_rfl),?_);let(k,(r,s,u),rfl,q):=h;unfold Ti.z;lk;show b80 ?_;rw[Option.not_isSome];show q
def a3B:P3:=λws G R=>∃(k:Str)(t:Ti)(n:Int),ws=[t.z k,.int n]/\R (.bl (t.at_ n)) G
set_option tactic.hygienic true in
def a3C(T:Txt K mg base a):Cal P w K mg base CX0 2 "stands_at" (lowP K a3B):=by
 show fnc 2 (N:=["tile","knowing"]) T.br (T.f 15 _ rfl) ?_;walk_at "in";show(_,(by ac_rfl),?_);let(k,t,n,rfl,q):=h;unfold Ti.at_ at q;unfold Ti.z;lk;show ifD (λc=>?_) λc=>?_
 .rw[decide_eq_true c]at q;lk;show(k,t,rfl,?_);cases e:t.u with
  |none=>
   rw[e]at q;lk;show q
  |some x=>
   rw[e]at q;lk;rw[if_neg (by simp)];lk;show q
 .rw[decide_eq_false c]at q;lk;show q
def a4I:P3:=λws G R=>Ex6 λ(p l:Addr) (k:Str) (ts:List Ti) (L:List Rw) (n:Int)=>ws=[.ref p,.str k,.ref l,.int n]/\G p=bN (.lst (ts.map (Ti.z k)))/\G l=bN (.lst (L.map Rw.z))/\NmT ts/\Nmd L/\ts.length<=90000/\L.length<=900/\(stR ts).length<=900 /\
 ∀t G',G t=ce->Sm G G'->G' t=bN (.lst ((tOn ts L n).map (Ti.z k)))->R (.ref t) G'
noncomputable def prR(r:Rw):Z:=.tup [r.z,.bl cp]
noncomputable def prK(r:Rw):List Key×Z:=(rnK r,.bl cp,)
def b2t(h:Nmd L):L.map prR=(L.map prK).map prT:=by
 rw[aX];show b7 λr a=>?_
 change Z.tup [r.z,.bl cp]=.tup [.tup ((rnK r).map keyW),.bl cp]
 rw[a9Q (h r a)]
def b2u(h:Nmd L)(hr:∃w,r.w=[.str w])(hk:∀j,j∈ks↔j∈(L.map prK).map (·.1)):hasK ks (rnK r)=hasR L r:=by
 rw[cz,b06,hasR_iff,hk,aX,aQ];show(by ext⟨s,a,e⟩;show b4l (h s a) hr e▸a,λa=>(r,a,rfl))
def b9a(ts:List Ti):ts.filterMap (λt=>if t.u.isNone=cp then bN t.r else ce)=stR ts:=by
 unfold stR
 induction ts with
 |nil=>rfl
 |cons t ts ih=>
  rw[bD,bv];cases t.u.isNone
  .show ih
  .change t.r::_=_
   rw[ih];rfl
def b4s{α:Type}(l:List α):l.filterMap (λr=>bN r)=l:=by simp
def a3l{α:Type}{p:α->Bool}(l:List α):l.filterMap (λr=>if p r=cp then bN r else ce)=l.filter p:=by
 induction l with
 |nil=>rfl
 |cons r l ih=>
  rw[bD,bv];cases p r
  .show ih
  .simp_all
def b2v{α β:Type}{f:α->β}(l:List α):l.filterMap (λr=>bN (f r))=l.map f:=by simp
def cut5{a b c d e f:Z}:cutZ [a,b,c,d,e,f] ce (bN 5)=[a,b,c,d,e]:=rfl
def b2w(h:NmT ts):Nmd (stR ts):=λr b=>by
 let(t,a,rfl):=aQ.mp b;show h t (bC.mp a).1
set_option tactic.hygienic true in
def a1d(T:Txt K mg base a):Cal P w K mg base CX0 2 "tiled_on" (lowP K a4I):=by
 show fnc 4 (N:=["tiles","key","line","knowing","wanted","standing","begun","ended"]) T.br (T.f 17 _ rfl) ?_;walk_at "in";show(_,(a0d (z_st (nmI 4 nd) (q_Y (a9s rfl hu) (T.b 10) (q_k (q_l ["run"] [ce] (.nm 0)) a0z)))
  (a0d (z_st (nmI 5 nd) (q_Y (a9s rfl hu) (T.b 10) (q_k (q_l ["tile"] [ce] (.nm 0)) a0z)))
  (a0d (z_l (nmI 6 nd) ["run","standing"] [ce,bN 5] (.nm 0) (ht:=λ_ _ _ _=>(a4j (a23 (a6P hu) (qv 0) (qv 1) (by with_unfolding_all rfl)))))
  (a0d (z_l (nmI 7 nd) ["tile","wanted","knowing"] [ce,bN 4,bN 3] (.nm 0) (he:=λ_ _ _ _=>(q_if (QW.qt (b5C (by ac_rfl) (b1S (a23 (a6P hu) (by ac_rfl) (qv 1) (by with_unfolding_all rfl))))) (by ac_rfl) (qv 0))))
  (a0y (a1h (q_op a5T (qv 7) (q_l ["begin","end","worth","key","knowing"] [ce,ce,ce,bN 1,bN 3] (.tp [0,1,2]))))))))),?_)
 let(p,l,k,ts,L,n,rfl,gp,gl,nt,nl,zt,zl,zs,fin):=h;lk;show a1i gl ?_;ext D hD;show a1z (g':=prR) (λr=>bN r) (λys=>a0e gl hD) (by cbv) ?_ ?_
 .ext r hr ys K1 K2 k1 k2;show(_,rfl,?_);lk;show(lenK rfl,?_);lk;show k1 r rfl
 rw[b4s,b2t nl];generalize ee:put G D _=G1;let(gD,s1):=newK ee hD;lk;show a9t gD (by rw[aM];cbv) λW ks hW hks=>?_;generalize ee:put G1 W _=G2;let(gW,s2):=newK ee hW;let s2:=s1.trans s2;clear gD s1 hD hW;lk;show a1i (s2 _ _ gp) ?_;ext E hE;show a1z (g':=prR) (λt=>if t.u.isNone=cp then bN t.r else ce) (λys=>a0e (s2 _ _ gp) hE) (by cbv) ?_ ?_
 .ext t ht ys K1 K2 k1 k2;show(_,rfl,?_);lk;show(k,t,rfl,?_);show(_,rfl,?_);show ifB (λc=>?_) λc=>?_
  .lk;show(k,t,rfl,nt t ht,?_);lk;show(lenK rfl,?_);lk;show k1 t.r (if_pos c)
  .show k2 (if_neg (by rw[c];simp))
 rw[b9a,b2t (b2w nt)];generalize ee:put G2 E _=G3;let(gE,s3):=newK ee hE;lk;show a9t gE (by rw[aM];cbv) λV vs hV hvs=>?_;generalize ee:put G3 V _=G4;let(gV,s4):=newK ee hV;let s4:=s3.trans s4;let gW4:=s4 _ _ gW;let s04:=s2.trans s4;clear gE s3 hE hV s2 s4 gW;lk;show a1i (s04 _ _ gl) ?_;ext B hB;show a1z (g':=Rw.z) (λr=>if (!hasR (stR ts) r)=cp then bN r else ce) (λys=>a0e (s04 _ _ gl) hB) (by cbv) ?_ ?_
 .ext r hr ys K1 K2 k1 k2;show(_,rfl,?_);lk;show b6F (a0e gV hB) (a9Q (nl r hr)).symm ?_;rw[b2u (b2w nt) (nl r hr) hvs];show(_,rfl,?_);show ifB (λc=>?_) λc=>?_
  .lk;show k1 r (if_pos c)
  .show k2 (if_neg (by rw[c];simp))
 rw[a3l];generalize ee:put G4 B _=G5;let(gB,s5):=newK ee hB;let gW5:=s5 _ _ gW4;let s05:=s04.trans s5;lk;show a1i (s05 _ _ gp) ?_;ext N hN;show a1z (g':=Ti.z k) (λt=>bN (endR L n t)) (λys=>a0e (s05 _ _ gp) hN) (by cbv) ?_ ?_
 .ext t ht ys K1 K2 k1 k2;show(_,rfl,?_);let kk:∀t',endR L n t=t'->K1 (t'.z k) (put G5 N (.lst ys)):=λt' e=>k1 t' (by rw[e]);lk;show(k,t,rfl,?_);show(_,rfl,?_);show ifB (λc=>?_) λc=>?_
  .lk;show(k,t,rfl,nt t ht,?_);lk;show b6F (a0e gW5 hN) (a9Q (nt t ht)).symm ?_;rw[b2u nl (nt t ht) hks];show(_,rfl,?_);show ifB (λc2=>?_) λc2=>?_
   .let kk:=kk _ (if_pos (by rw[c];show c2));lk;unfold Ti.z;show a7o (show ¬ (HT.sIx 6 0 ce=0/\HT.sIx 6 6 (bN 5)=6) by decide) ?_;rw[cut5];lk;show(lenK rfl,?_);lk;show a6x (by simp) (lenK rfl) ?_;show kk
   .let kk:=kk _ (if_neg (by rw[c,show (!hasR L t.r)=js from c2];simp));lk;show kk
  .let kk:=kk _ (if_neg (by rw[c];simp));lk;show kk
 rw[b2v];generalize ee:put G5 N _=G6;let(gN,s6):=newK ee hN;let gB6:=s6 _ _ gB;let s06:=s05.trans s6;lk;show a1i gB6 ?_;ext M hM;show a1z (g':=Ti.z k) (λr=>bN (newR n r)) (λys=>a0e gB6 hM) (be (eD _ _) (by cbv)) ?_ ?_
 .ext r hr ys K1 K2 k1 k2;let(w,hw):=nl r (bC.mp hr).1;let(rb,re,rw0):=r;simp only at hw;subst hw;show(_,rfl,?_);lk;show(lenK rfl,?_);show k1 _ rfl
 rw[b2v];show a8U (a0e gN hM) a0a ?_ λt ht=>?_
 .rw[aM,aM,aM,aM]
  let:=eD (λr=>!hasR (stR ts) r) L
  show be (by cbv:_<=91000) (by decide)
 .let sM:Sm G (put G6 M (.lst (((L.filter λr=>!hasR (stR ts) r).map (newR n)).map (Ti.z k)))):=s06.trans (Sm.new hM);show fin t _ (sM.free ht) (sM.trans (Sm.new ht)) ?_;rw[a0a];unfold tOn;rw[aY]
def b9b:∀{es:List (Int×List Rw)},(∀e∈es,Nmd e.2)->NmT (TF es):=by
 ext b
 induction b using a4F with
 |h0=>show λ_ t a=>by simp[TF]at a
 |h1 b e ih=>
  ext h t a;rw[a1O]at a;let a||a:=aO.mp a
  .let(f,h0,rfl):=aQ.mp a;rw[a6d];show ih (λx d=>h x (by simp[d])) f h0
  .let(r,g,rfl):=aQ.mp a;show h e (by simp) r (bC.mp g).1
def b4t(ts:List Ti)(q:Int):ts.filterMap (λt=>if t.at_ q=cp then bN t.r else ce)=a0A ts q:=by
 unfold a0A
 induction ts with
 |nil=>rfl
 |cons t ts ih=>
  rw[bD,bv];cases t.at_ q
  .show ih
  .change t.r::_=_
   rw[ih];rfl
noncomputable def unK:List Key->Rw
 |[.inl (bN b),.inl e,.inr s]=>(b,e,[.str s])
 |_=>(0,ce,[])
def b2x(h:∃w,r.w=[.str w]):unK (rnK r)=r:=by
 let(b,e,w):=r;let(s,h):=h;subst h
 rfl
def b7b(h:Nmd l):(l.map rnK).map unK=l:=by
 rw[aX];show (b7 λr a=>b2x (h r a)).trans (cN l)
def b2y(h:Nmd l):(l.map rnK).map L2.tupZ=l.map Rw.z:=by
 rw[aX];show b7 λr a=>b85 (h r a)
def a9W{L M:List Rw}{os:List (List Key)}(hc:Can L)(nl:Nmd L)(p:M.Perm L)(ho:os.Perm (M.map rnK))(s:os.Pairwise (λx y=>Tim.ltT y x=js)):os.map L2.tupZ=L.map Rw.z:=by
 let c:=λr a=>nl r (p.mem_iff.mp a);let b:(os.map unK).map rnK=os:=by
  rw[aX];show (b7 λx f=>?_).trans (cN os);let(r,a,rfl):=aQ.mp (ho.mem_iff.mp f)
  change rnK _=rnK r
  rw[b2x (c r a)]
 let d:(os.map unK).Perm L:=by
  let:=ho.map unK
  rw[b7b c]at this;show this.trans p
 rw[<- b,(a9R hc d (by simp_all)),b2y nl]
def TsV.nm(h:TsV T k es):NmT (TF es):=b9b λe b r a=>a1w (h.ln e b) a
def TsV.len(h:TsV T k es)(hT:T.length<=200):(TF es).length<=80000:=by
 let d:=b2r (m:=400) λe c=>by
  let:=(h.ln e c).len
  rw[bj]at this
  lia
 let a:es.length<=200:=by
  let b:=congrArg bz h.ix;rw[aM]at b
  let:=b2o T k
  lia
 lia
def TsV.st(h:TsV T k es):(stR (TF es)).length<=2*T.length:=by
 rw[<- a4E h.run.ok (bH _),(h.run.p _).length_eq]
 let:=(h.line T.length).len
 rw[bY]at this;show this
def b1B{f:Int}{ts:List Ti}{t:Ti}(h:t∈left f ts):∃t0∈ts,bef f t0.u=cp/\t=(t0.r,max t0.s f,t0.u):=by
 let(t0,h0,e):=cy.mp h;unfold lfT at e
 split at e
 .next c=>cases e;show(t0,h0,c,rfl)
 .cases e
theorem a5B{f q:Int}(h:f<=q):∀{ts:List Ti},a0A (left f ts) q=a0A ts q
 |[]=>rfl
 |t::ts=>by
  let ih:=a5B h (ts:=ts);cases c:bef f t.u with
  |true=>
   rw[a5y c];unfold a0A at ih ⊢;rw[bv,bv];let e:Ti.at_ (t.r,max t.s f,t.u) q=t.at_ q:=by
    unfold Ti.at_
    congr 1
    by_cases d:t.s<=q
    .rw[decide_eq_true d,decide_eq_true (by change max t.s f<=q;cbv)]
    .rw[decide_eq_false d,decide_eq_false (by change ¬ max t.s f<=q;cbv)]
   rw[e]
   split
   .rw[aV,aV,ih]
   .show ih
  |false=>
   rw[a32 c,ih];unfold a0A;rw[bv,if_neg];unfold Ti.at_;cases d:bef q t.u with
   |true=>rw[a9S h d]at c;cases c
   |false=>simp
section
variable{T:List Tl}{f:Int}{k:Str}{K:List Ti}
def TK1.mem(h:TK1 T f k K){t:Ti}(ht:t∈K):∃es,TsV T k es/\∃t0∈TF es,bef f t0.u=cp/\t=(t0.r,max t0.s f,t0.u):=by
 let(es,h1,h2):=h.ex;show(es,h1,b1B (h2.pm.mem_iff.mp ht))
def TK1.nm(h:TK1 T f k K):NmT K:=λt ht=>by
 let(es,h1,t0,h2,_,rfl):=h.mem ht;show h1.nm t0 h2
def TK1.len(h:TK1 T f k K)(hT:T.length<=200):K.length<=80000:=by
 let(es,h1,h2):=h.ex
 let:=h1.len hT
 rw[h2.pm.length_eq];show be (b9 _ _) this
def TK1.st(h:TK1 T f k K):(stR K).length<=2*T.length:=by
 let(es,h1,h2):=h.ex;let e:(stR K).Perm (stR (left f (TF es))):=by unfold stR;show (h2.pm.filter _).map _
 rw[e.length_eq,a2T];show h1.st
def TK1.line(h:TK1 T f k K){q:Nat}(hq:f<=q):∃L,IsLine (T.take q) k L/\(a0A K q).Perm L:=by
 let(es,h1,h2):=h.ex;show(_,h1.line q,?_);let e:(a0A K q).Perm (a0A (left f (TF es)) q):=by unfold a0A;show (h2.pm.filter _).map _
 rw[a5B hq]at e;show e.trans (h1.run.p q)
end
def a62{a:Ad}{b:Bool}{G:Hq}{p:Addr}{S:Addr->Prop}{T:List Tl}{f n:Int}{dx d t0:Addr}{kvs:List (Key×Z)}(sh:ShV a b G p S T f n dx d kvs)(ht0:G t0=ce)(k:Str) :
  ∃h K,(valZ kvs (.inr k)).getD (.ref t0)=.ref h/\put G t0 (.lst []) h=bN (.lst (K.map (Ti.z k)))/\TK1 T f k K:=by
 cases sh.hs k with
 |no n t=>show(t0,[],by rw[n];rfl,a0a,t)
 |at_ h K v s g t ne=>show(h,K,by rw[v];rfl,a0e g ht0,t)
def a1U(a:Ad):P3:=λws G R=>∃b:Bool,Ex10 λ(p:Addr) (S:Addr->Prop) (T:List Tl) (k:Str) (q:Int) (f n:Int) (dx d:Addr) (kvs:List (Key×Z))=>ws=[.ref p,.str k,.int q]/\ShV a b G p S T f n dx d kvs/\f<=q/\q<=T.length/\T.length<=200 /\
 ∀t L G',G t=ce->Sm G G'->G' t=bN (.lst (L.map Rw.z))->IsLine (T.take q.toNat) k L->R (.ref t) G'
def a0E(T:Txt K mg base a)(β:Bool):Mal P w K mg base CX0 3 (a.cK β) "known_line" (lowP K (a1U a)):=by
 show fnm 3 (N:=["self","key","knowing"]) (mxK T β 0) ?_ (len:=λws G R h=>(by let(_,_,_,_,_,_,_,_,_,_,_,rfl,_):=h;rfl));walk_at "in";let(b,h):=h;show(_,(a0y (a1h (q_B a9m (T.b 8) (q_k (q_l ["tile","knowing"] [ce,bN 2] (.nm 0) (hi:=(a1E (q_bm PySem.F.plainAttrs_dict PySem.F.slot_dict_get PySem.F.type_dict_get (a9c hu) (a1x (clK T b) (naK T b 1) (qv 0)) (by ac_rfl))))) a0z)))),?_);let(p,S,T',k,q,f,n,dx,d,kvs,rfl,sh,hf,h1,hT,fin):=h;let(q,rfl):=cO (bx sh.f0 hf);lk;show(p,dx,_,_,rfl,sh.ob,a1R,?_);show b8K sh.dc ?_;lk;show(lenK rfl,λt0 ht0=>?_);lk;show b3S (sh.dc.imp (λe=>a0e e ht0) λe=>a0e e ht0) rfl ?_;let s0:Sm G (put G t0 (.lst [])):=Sm.new ht0;let(h,K',hval,gh,tv):=a62 sh ht0 k;rw[hval];generalize put G t0 (.lst [])=G1 at s0 gh ⊢;lk;show a1i gh ?_;ext D hD;show a1z (g':=Rw.z) (λt=>if t.at_ (q:Int)=cp then bN t.r else ce) (λys=>a0e gh hD) (by let:=tv.len hT;cbv) ?_ ?_
 .ext t ht ys K1 K2 k1 k2;show(_,rfl,?_);lk;show(k,t,_,rfl,?_);show(_,rfl,?_);show ifB (λc=>?_) λc=>?_
  .lk;show(k,t,rfl,tv.nm t ht,k1 t.r (if_pos c))
  .show k2 (if_neg (by rw[c];simp))
 rw[b4t];let(L,il,pm):=tv.line hf;let nl:Nmd L:=λr hr=>a1w il hr;let nm:Nmd (a0A K' q):=λr hr=>nl r (pm.mem_iff.mp hr);let s1:Sm G (put G1 D (.lst ((a0A K' q).map Rw.z))):=s0.trans (Sm.new hD);show a9n (rows:=(a0A K' q).map rnK) (jt:=3) (by rw[b2y nm];show a0a) ?_ ?_ ?_ ?_ λt os ht hp hs=>?_
 .rw[aM,pm.length_eq]
  let:=il.len
  rw[bj]at this;cbv
 .ext x hx;let(r,hr,rfl):=aQ.mp hx;show(r.b,_,rfl)
 .ext x hx;let(r,hr,rfl):=aQ.mp hx
  rfl
 .ext x hx y hy;let(r,hr,rfl):=aQ.mp hx;let(s,hs,rfl):=aQ.mp hy;show b64 il.can r (pm.mem_iff.mp hr) s (pm.mem_iff.mp hs)
 .rw[a9W il.can nl pm hp hs];show fin t L _ (s1.free ht) (s1.trans (Sm.new ht)) a0a ?_;rw[show ((q:Int)).toNat=q by cbv];show il
def a63:valZ (putZ kvs k v) j=if j=k then bN v else valZ kvs j:=by
 unfold putZ
 split
 .next hc=>
  let m:∀kvs:List (Key×Z),valZ (kvs.map λkv=>if kv.1=k then (kv.1,v,) else kv) j=(valZ kvs j).map λx=>if j=k then v else x:=by
   ext kvs
   induction kvs with
   |nil=>rfl
   |cons p r ih=>
    unfold valZ at ih ⊢;rw[aV,bP,bP];let h:(if p.1=k then (p.1,v,) else p).1=p.1:=by split<;>rfl
    rw[h];cases c:decide (p.1=j) with
    |false=>show ih
    |true=>
     let d:=of_decide_eq_true c;simp
     by_cases ck:p.1=k
     .simp_all
     .simp_all
  rw[m]
  by_cases c:j=k
  .subst c;let(p,f,g):=cD.mp hc
   let:(kvs.find? λkv=>decide (kv.1=j)).isSome=cp:=fF.mpr (p,f,g)
   unfold valZ;cases e:kvs.find? λkv=>decide (kv.1=j) with
   |none=>rw[e]at this;cases this
   |some q=>simp
  .simp_all
 .next hc=>
  unfold valZ;rw[fy]
  by_cases c:j=k
  .subst c
   let:kvs.find? (λkv=>decide (kv.1=j))=ce:=by
    rw[dM];ext p i l;show hc (cD.mpr (p,i,l))
   rw[this];simp
  .rw[if_neg c]
   let:[(k,v,)].find? (λkv=>decide (kv.1=j))=ce:=by simp;show λz=>c z.symm
   rw[this,Option.or_none]
def b1C{kvs:List (Key×Z)}{k:Key}{v:Z}:(putZ kvs k v).length<=kvs.length+1:=by
 unfold putZ
 split<;>simp
def a5C(h:valZ kvs k=ce):∀q∈kvs,q.1≠k:=λq b e=>by
 unfold valZ at h
 let:(kvs.find? λa=>decide (a.1=k)).isSome=cp:=fF.mpr (q,b,decide_eq_true e)
 cases e2:kvs.find? λa=>decide (a.1=k) with
 |none=>rw[e2]at this;cases this
 |some x=>rw[e2]at h;cases h
def a9X(h:valZ kvs k=ce):putZ kvs k v=kvs++[(k,v,)]:=by
 unfold putZ;rw[if_neg λz=>?_];let(q,a,b):=cD.mp z;show a5C h q a (of_decide_eq_true b)
def b7c(h:valZ kvs k=ce)(nd:(kvs.map (·.1)).Nodup):((putZ kvs k v).map (·.1)).Nodup:=by
 rw[a9X h,aY,cc];show(nd,by simp,λx a y c=>?_);let(q,b,rfl):=aQ.mp a
 let:y=k:=↑c
 rw[this];show a5C h q b
def b7d(sk:∀q∈kvs,∃s,q.1=Sum.inr s):∀q∈putZ kvs (.inr k) v,∃s,q.1=Sum.inr s:=λq a=>by
 unfold putZ at a
 split at a
 .let(d,c,e):=aQ.mp a;let(s,b):=sk d c;show(s,?_);rw[<- e]
  split
  .cbv
  .cbv
 .let a||a:=aO.mp a
  .show sk q a
  .show(k,by rw[aR.mp a])
def b1D(h:s∈ix T k):(T++[τ]).take s.toNat=T.take s.toNat:=by
 let:=b62 h
 rw[dH (by lia)]
def b1E:(T++[τ]).take ((T.length:Int)+1).toNat=T++[τ]:=by
 rw[ca];rw[aW,du]
 lia
def b1F(h:valZ kvs k≠ce):(putZ kvs k v).map (·.1)=kvs.map (·.1):=by
 unfold putZ;rw[if_pos]
 .rw[aX];show b7 λx _=>?_
  change (if x.1=k then _ else x).1=x.1
  split<;>rfl
 .rw[cD];unfold valZ at h;cases e:kvs.find? λa=>decide (a.1=k) with
  |none=>rw[e]at h;show absurd rfl h
  |some x=>
   let:=eE e
   show(x,dJ e,this)
def b4u(nd:(kvs.map (·.1)).Nodup):((putZ kvs k v).map (·.1)).Nodup:=by
 by_cases h:valZ kvs k=ce
 .show b7c h nd
 .rw[b1F h];show nd
section
variable{T:List Tl}{τ:Tl}{k:Str}{es:List (Int×List Rw)}{L:List Rw}{K:List Ti}{f:Int}
def TsV.old(h:TsV T k es):∀e∈es,IsLine ((T++[τ]).take e.1.toNat) k e.2:=λe he=>by
 rw[b1D (k:=k) (by rw[<- h.ix];show bK (f:=(·.1)) he)];show h.ln e he
def TsV.snoc(h:TsV T τ.key es)(il:IsLine (T++[τ]) τ.key L):TsV (T++[τ]) τ.key (es++[((T.length:Int)+1,L,)]):=by
 show(by rw[aY,h.ix,a4D,if_pos rfl];rfl,λe he=>?_);let he||he:=aO.mp he
 .show h.old e he
 .rw[aR.mp he]
  change IsLine ((T++[τ]).take ((T.length:Int)+1).toNat) τ.key L
  rw[b1E];show il
def TsV.more(h:TsV T k es)(c:τ.key≠k):TsV (T++[τ]) k es:=(by rw[h.ix,a4D,if_neg c,bL],h.old)
def TK1.snoc(h:TK1 T f τ.key K)(il:IsLine (T++[τ]) τ.key L)(hf:f<=T.length):TK1 (T++[τ]) f τ.key (tOn K L ((T.length:Int)+1)):=by
 let(es,h1,h2):=h.ex;show(_,h1.snoc il,?_);rw[a1O];show h2.on (by cbv) (λt ht=>by let:=h1.run.ok.s t ht;cbv) (a9U il.can)
def TK1.more(h:TK1 T f k K)(c:τ.key≠k):TK1 (T++[τ]) f k K:=by
 let(es,h1,h2):=h.ex;show(es,h1.more c,h2)
end
def a18(a:Ad):P3:=λws G R=>∃b:Bool,Ex10 λ(p:Addr) (S:Addr->Prop) (T:List Tl) (τ:Tl) (l:Addr) (L:List Rw) (f:Int) (dx d:Addr) (kvs:List (Key×Z))=>ws=[.ref p,.str τ.key,.ref l]/\ShM a b G p S T f ((T.length:Int)+1) dx d kvs/\G l=bN (.lst (L.map Rw.z))/\¬ S l/\IsLine (T++[τ]) τ.key L/\T.length<=200 /\
 ∀(S':Addr->Prop) G',(∀b,S b->S' b)->(∀b,S' b->S b\/b=l\/G b=ce)->KN S G G'->Sheet a b G' p S' (T++[τ]) f->R .non G'
def a19(T:Txt K mg base a)(β:Bool):Mal P w K mg base CX0 3 (a.cK β) "keep_line" (lowP K (a18 a)):=by
 show fnm 3 (N:=["self","key","line"]) (mxK T β 3) ?_ (len:=λws G R h=>(by let(_,_,_,_,_,_,_,_,_,_,_,rfl,_):=h;rfl));walk_at "in";let(b,h):=h;show(_,(a0y (a42 (q_c (a1d T) hr (q_k (q_bm PySem.F.plainAttrs_dict PySem.F.slot_dict_get PySem.F.type_dict_get (a9c hu) (a1x (clK T b) (naK T b 1) (qv 0)) (by ac_rfl)) (q_k (qv 1) (q_k (qv 2) (q_k (a1x (clK T b) (naK T b 0) (qv 0)) a0z)))) ) (a1x (clK T b) (naK T b 1) (qv 0)) (qv 1) (b2c hu))),?_);let(p,S,T',τ,l,L,f,dx,d,kvs,rfl,sh,gl,nl,il,hT,q):=h;lk;show(p,dx,_,_,rfl,sh.ob,a1R,?_);show b8J sh.dc ?_;lk;show(lenK rfl,λt0 ht0=>?_);lk;show b6z (a0e sh.dc ht0) rfl ?_;let s0:Sm G (put G t0 (.lst [])):=Sm.new ht0;let(h,K',hval,gh,tv):=a62 sh.v ht0 τ.key;rw[hval];generalize put G t0 (.lst [])=G1 at s0 gh ⊢;lk;show(p,dx,_,_,rfl,s0 _ _ sh.ob,a1Q,?_);lk;let lL:L.length<=900:=by let:=il.len;rw[aW,du]at this;cbv
 show(h,l,τ.key,K',L,_,rfl,gh,s0 _ _ gl,tv.nm,λr hr=>a1w il hr,by let:=tv.len hT;cbv,lL,by let:=tv.st;cbv,λt G2 ht s2 gt=>?_);let s02:=s0.trans s2;let hGt:G t=ce:=s0.free ht;let npd:p≠d:=λz=>by let e:=sh.ob;rw[z,sh.dc]at e;cases e
 let ntd:t≠d:=λz=>by rw[z,s02 _ _ sh.dc]at gt;cases gt
 let hlen:((T'++[τ]).length:Int)=(T'.length:Int)+1:=by simp
 lk;show(p,dx,_,_,rfl,s02 _ _ sh.ob,a1R,?_);lk;show b2d (s02 _ _ sh.dc) rfl (a0q (by let:=sh.len;cbv)) ?_;let keep:∀b o,b≠d->G b=bN o->put G2 d (.dK (putZ kvs (.inr τ.key) (.ref t))) b=bN o:=λb o nb e=>by rw[a0h nb];show s02 _ _ e
 show q (λb=>S b\/b=t) _ (λb hb=>.inl hb) (λb hb=>hb.elim .inl λz=>.inr (.inr (by rw[z];show hGt))) (λb o nb e=>keep b o (λz=>nb (z▸sh.sd)) e) (dx,d,putZ kvs (.inr τ.key) (.ref t),?_);show(by rw[hlen];show keep _ _ npd sh.ob,.inl sh.sp,.inl sh.sd,a0a,by let h1:=sh.len;let h2:=@b1C kvs (.inr τ.key) (.ref t);simp;cbv,λk=>?_,(λb hb=>?_),b4u sh.nd,b7d sh.sk,sh.f0,by rw[hlen];let:=sh.f1;cbv)
 .by_cases c:k=τ.key
  .subst c;show .at_ t _ (by rw[a63,if_pos rfl]) (.inr rfl) (by rw[a0h ntd];show gt) (tv.snoc il sh.f1) (by rw[a4D,if_pos rfl];simp)
  .let ev:valZ (putZ kvs (.inr τ.key) (.ref t)) (.inr k)=valZ kvs (.inr k):=by rw[a63,if_neg λz=>c ↑z]
   cases sh.hs k with
   |no n t=>show .no (by rw[ev];show n) (t.more (Ne.symm c))
   |at_ h K v s g t ne=>show .at_ h K (by rw[ev];show v) (.inl s) (keep _ _ (λw=>by rw[w,sh.dc]at g;cases g) g) (t.more (Ne.symm c)) (by rw[a4D,if_neg (Ne.symm c),bL];show ne)
 .by_cases c2:b=d
  .rw[c2];show(_,a0a)
  .let hb||hb:=hb
   .let(o,e):=sh.al b hb;show(o,keep b o c2 e)
   .rw[hb];show(_,by rw[a0h ntd];show gt)
def a4J(a:Ad):P3:=λws G R=>∃b:Bool,Ex5 λ(p:Addr) (S:Addr->Prop) (T:List Tl) (f:Int) (τ:Tl)=>ws=[.ref p,τ.z]/\Sheet a b G p S T f/\τ.Ok/\T.length<=150 /\
 ∀(S':Addr->Prop) G',(∀b,S b->S' b)->(∀b,S' b->S b\/G b=ce)->KN S G G'->Sheet a b G' p S' (T++[τ]) f->R (.int ((T.length:Int)+1)) G'
def b7e{τ:Tl}:∃ws,τ.z=.tup ws/\atI ws 1=bN (.str τ.key):=by
 let(k,w,b,e):=τ;cases w<;>show(_,rfl,at1)
def b7f:Th G (oz e):=by cases e<;>show True.intro
def Tl.Ok.tel{τ:Tl}(ok:τ.Ok):∃(h:Z)(nm:List Z),Tel G τ.z h nm (.int τ.b) (oz τ.e)/\nm.all a2j=cp/\strB (.int τ.b) (oz τ.e)=cp:=by
 let(k,w,b,e):=τ;let d:=ok.k;let a:=ok.w;let f:=st_b ok.st;cases w with
 |none=>show(_,[.str k],(rfl,.inl (_,rfl),λz c=>by rw[aR.mp c];show b1u d,True.intro,b7f),by rw[b5,nm_b d];rfl,f)
 |some w=>
  let a:=a w rfl;show(_,[.str k,.str w],(rfl,.inr (_,_,rfl),λz c=>?_,True.intro,b7f),by rw[b5,nm_b d,b5,nm_b a];rfl,f);simp at c;let rfl||rfl:=c
  .show b1u d
  .show b1u a
set_option tactic.hygienic true in
def a2a(T:Txt K mg base a)(β:Bool):Mal P w K mg base CX0 5 (a.cK β) "tell" (lowP K (a4J a)):=by
 show fnm 2 (N:=["self","telling","key","line"]) (mxK T β 4) ?_;walk_at "in";let(b,h):=h;show(_,(a0d (by ac_rfl)
  (a0d (by ac_rfl)
  (a0d (z_st (nmI 3 nd) (q_c (a1g T) hr (q_k (q_m (qv 0) (clK T b) (a0E T b) hr (q_k (qv 2) (q_k (a1x (clK T b) (naK T b 0) (qv 0)) a0z)) ) (q_k (qv 1) a0z)) ))
  (a0d (b0W (clK T b) (naK T b 0) (qv 0) a3v b1X)
  (a0d (a2s (q_m (qv 0) (clK T b) (a19 T b) hr (q_k (qv 2) (q_k (qv 3) a0z)) ))
  (a0y (a1h (a1x (clK T b) (naK T b 0) (qv 0))))))))),?_)
 let(p,S,T,f,τ,rfl,(dx,d,kvs,sh),ok,hT,q):=h;lk;let(th,tn,tel,ta,ts):=ok.tel (G:=G);show(_,_,_,_,_,rfl,tel,λG1 s1=>?_);rw[ta,ts];show ifT (ifT ?_);let sh1:=sh.keep (Sm.ks s1);let(ws,ez,ek):=@b7e τ;lk;rw[ez];show a4k ek ?_;rw[<- ez];lk;show(p,dx,_,rfl,sh1.ob,a0J (by decide +kernel) (by decide +kernel) (by decide +kernel),?_);lk;show(p,dx,_,_,rfl,sh1.ob,a1Q,?_);lk;show(b,p,S,T,τ.key,_,f,_,dx,d,kvs,rfl,sh1.v,sh.f1,by cbv,by cbv,λt L G2 ht s2 gt il=>?_);rw[show ((T.length:Int)).toNat=T.length by cbv,bY]at il;let sh2:=sh1.keep (Sm.ks s2);lk;let hll:=il.len;show(t,L,τ,rfl,gt,il.can.rise,il.pl,by cbv,ok,λu G3 hu s3 gu=>?_);let sh3:=sh2.keep (Sm.ks s3);let S13:=(s1.trans s2).trans s3;let hu0:G u=ce:=(s1.trans s2).free hu;let nu:¬ S u:=λz=>by let(o,e):=sh.al u z;rw[hu0]at e;cases e
 lk;show(p,dx,_,_,rfl,sh3.ob,a1Q,?_);lk;show(dx,_,sh3.ob,a4H,?_);rw[b4p];let hup:u≠p:=λz=>nu (z▸sh.sp);let sh4:ShM a b (put G3 p (.ins (a.cK b) dx (shF b ((T.length:Int)+1) d f))) p S T f ((T.length:Int)+1) dx d kvs:=by
  let kp:∀x o,x≠p->G3 x=bN o->put G3 p (.ins (a.cK b) dx (shF b ((T.length:Int)+1) d f)) x=bN o:=λx o nb e=>by rw[a0h nb];show e
  show(a0a,sh3.sp,sh3.sd,kp _ _ (λz=>by let e:=sh3.dc;rw[z,sh3.ob]at e;cases e) sh3.dc,sh3.len,λk=>(sh3.hs k).keep λx ws _ g1=>kp _ _ (λz=>by rw[z,sh3.ob]at g1;cases g1) g1,(λb hb=>?_),sh3.nd,sh3.sk,sh3.f0,sh3.f1)
  .by_cases c:b=p
   .rw[c];show(_,a0a)
   .let(o,e):=sh3.al b hb;show(o,kp b o c e)
 let gu4:put G3 p (.ins (a.cK b) dx (shF b ((T.length:Int)+1) d f)) u=bN (.lst ((a5r L τ.b τ.e (optW τ.v)).map Rw.z)):=by rw[a0h hup];show gu
 let kn4:KN S G (put G3 p (.ins (a.cK b) dx (shF b ((T.length:Int)+1) d f))):=λb o nb e=>by rw[a0h (show b≠p from λz=>nb (by rw[z];show sh.sp))];show S13 _ _ e
 let nn4:∀x,put G3 p (.ins (a.cK b) dx (shF b ((T.length:Int)+1) d f)) x=ce->G x=ce:=λx e=>by
  by_cases c:x=p
  .rw[c,a0a]at e;cases e
  .rw[a0h c]at e;show S13.free e
 generalize put G3 p (.ins (a.cK b) dx (shF b ((T.length:Int)+1) d f))=G4 at sh4 gu4 kn4 nn4 ⊢;lk;show(p,dx,_,rfl,sh4.ob,a0J (by decide +kernel) (by decide +kernel) (by decide +kernel),?_);lk;show(b,p,S,T,τ,u,_,f,dx,d,kvs,rfl,sh4,gu4,nu,il.snoc ok,by cbv,λS' G5 i1 i2 kn5 sh5=>?_);let sh5':=sh5;let(dx5,d5,kvs5,m5):=sh5';lk;show(p,dx5,_,_,rfl,m5.ob,a1Q,?_);let e:(((T++[τ]).length:Nat):Int)=(T.length:Int)+1:=by simp
 rw[e];show q S' G5 i1 (λb hb=>?_) (kn4.trans kn5) sh5;let h||h||h:=i2 b hb
 .show .inl h
 .rw[h];show .inr hu0
 .show .inr (nn4 b h)
local macro_rules | `(tactic| walk_at "go1")=>`(tactic| with_reducible (first | show i_intB ?_ | show i_iD ?_))
def a2n(a:Ad):P3:=λws G R=>∃b:Bool,Ex4 λ(p:Addr) (S:Addr->Prop) (T:List Tl) (f:Int)=>ws=[.ref p]/\Sheet a b G p S T f/\R (.int T.length) G
set_option tactic.hygienic true in
def a0w(T:Txt K mg base a)(β:Bool):Mal P w K mg base CX0 1 (a.cK β) "knowings" (lowP K (a2n a)):=by
 show fnm 1 (N:=["self"]) (mxK T β 1) ?_;walk_at "in";let(b,h):=h;show(_,(a0y (a1h (a1x (clK T b) (naK T b 0) (qv 0)))),?_);let(p,S,T',f,rfl,(dx,d,kvs,sh),q):=h;lk;show(p,dx,_,_,rfl,sh.ob,a1Q,q)
def a3D(a:Ad):P3:=λws G R=>Ex4 λ(p:Addr) (S:Addr->Prop) (T:List Tl) (f:Int)=>ws=[.ref p]/\Sheet a cp G p S T f/\R (.int f) G
set_option tactic.hygienic true in
def a02(T:Txt K mg base a):Mal P w K mg base CX0 1 (a.cK cp) "first" (lowP K (a3D a)):=by
 show fnm 1 (N:=["self"]) (T.m_Short 5 _ rfl) ?_;walk_at "in";show(_,(a0y (a1h (a1x (clK T cp) (T.n_Short 2 _ rfl) (qv 0)))),?_);let(p,S,T',f,rfl,(dx,d,kvs,sh),q):=h;lk;show(p,dx,_,_,rfl,sh.ob,a9V,q)
def a1k(a:Ad):P3:=λws G R=>Ex5 λ(p:Addr) (S:Addr->Prop) (T:List Tl) (f q:Int)=>ws=[.ref p,.int q]/\Sheet a cp G p S T f/\f<=q/\q<=T.length/\R .non G
set_option tactic.hygienic true in
def a0L(T:Txt K mg base a):Mal P w K mg base CX0 2 (a.cK cp) "check_knowing" (lowP K (a1k a)):=by
 show fnm 2 (N:=["self","knowing"]) (T.m_Short 6 _ rfl) ?_;walk_at "in";show(_,(a0d (a2s (q_c (a0D T) hr (q_k (qv 1) (q_k (a1x (clK T cp) (naK T cp 0) (qv 0)) a0z)) ))
  (a0y (z_if (a23 o_lt (qv 1) (a1x (clK T cp) (T.n_Short 2 _ rfl) (qv 0)) (a2q _))
  (a0y a4h)
  a24))),?_)
 let(p,S,T',f,q,rfl,(dx,d,kvs,sh),h1,h2,k):=h;lk;show(p,dx,_,_,rfl,sh.ob,a1Q,?_);lk;show(q,_,rfl,?_)
 let:=sh.f0
 rw[if_pos (by cbv)];lk;show(p,dx,_,_,rfl,sh.ob,a9V,?_);lk;show ifD (λc=>by cbv) λc=>?_;lk;show k
def a2G(a:Ad):P3:=λws G R=>Ex6 λ(p:Addr) (S:Addr->Prop) (T:List Tl) (f:Int) (k:Str) (q:Int)=>ws=[.ref p,.str k,.int q]/\Sheet a cp G p S T f/\nmOk k/\T.length<=200/\f<=q/\q<=T.length/\∀t L G',G t=ce->Sm G G'->G' t=bN (.lst (L.map Rw.z))->IsLine (T.take q.toNat) k L->R (.ref t) G'
set_option tactic.hygienic true in
def a2H(T:Txt K mg base a):Mal P w K mg base CX0 4 (a.cK cp) "line_at" (lowP K (a2G a)):=by
 show fnm 3 (N:=["self","key","knowing"]) (T.m_Short 8 _ rfl) ?_;walk_at "in";show(_,(a0d (a2s (q_m (qv 0) (clK T cp) (a0L T) hr (q_k (qv 2) a0z) ))
  (a0d (by ac_rfl)
  (a0y (a1h (q_m (qv 0) (clK T cp) (a0E T cp) hr (q_k (qv 1) (q_k (qv 2) a0z)) ))))),?_)
 let(p,S,T',f,k,q,rfl,sh,hk,hT,h1,h2,fin):=h;let sh':=sh;let(dx,d,kvs,sm):=sh';lk;show(p,dx,_,rfl,sm.ob,a0J (by decide +kernel) (by decide +kernel) (by decide +kernel),?_);lk;show(p,S,T',f,q,rfl,sh,h1,h2,?_);lk;show(_,rfl,b1u hk,λG1 s1=>?_);rw[nm_b hk];show ifT ?_;let sm1:=sm.keep (Sm.ks s1);lk;show(p,dx,_,rfl,sm1.ob,a0J (by decide +kernel) (by decide +kernel) (by decide +kernel),?_);lk;show(cp,p,S,T',k,q,f,_,dx,d,kvs,rfl,sm1.v,h1,h2,hT,λt L G2 ht s2 gt il=>fin t L G2 (s1.free ht) (s1.trans s2) gt il)
def NE(T:List Tl)(k:Str):Prop:=∃L,IsLine T k L/\L≠[]
structure KeysAt (T:List Tl) (ts:List Str):Prop where
 so:PyProof.Rows.sortedS ts=cp
 nd:ts.Nodup
 is:∀s,s∈ts↔NE T s
def IsLine.uniq(h:IsLine T k L)(g:IsLine T k M):L=M:=a9C h.can g.can λt=>by rw[h.v,g.v]
def Few(T:List Tl):Prop:=T.length<=200/\∃kn:List Str,kn.length<=63/\∀τ∈T,τ.key∈kn
theorem a9Y:∀{xs ys:List Str},xs.Nodup->(∀x∈xs,x∈ys)->xs.length<=ys.length
 |[],_,_,_=>bo _
 |x::xs,ys,h,m=>by
  rw[cg]at h;let b:=m x (.head _)
  let:=a9Y (ys:=ys.erase x) h.2 λy a=>(List.mem_erase_of_ne (λz=>h.1 (by simp_all))).mpr (m y (.tail _ a))
  rw[List.length_erase_of_mem b]at this
  let:=List.length_pos_of_mem b
  rw[aS];lia
def a9Z:∀{T:List Tl}{k:Str}{n:Nat},ixF k n T≠[]->∃τ∈T,τ.key=k:=by ext z0;induction z0 with
 |nil=>ext _ _ h;show absurd rfl h
 |cons τ T I0=>
  ext k n h
  by_cases c:τ.key=k
  .show(τ,.head _,c)
  .unfold ixF at h;rw[if_neg c,cA]at h;let(σ,b,a):=I0 h;show(σ,.tail _ b,a)
def a90{ks:List Str}(h:kvs.map (·.1)=ks.map Sum.inr)(m:s∈ks):∃z,valZ kvs (.inr s)=bN z:=by
 unfold valZ;cases e2:kvs.find? λc=>decide (c.1=Sum.inr s) with
 |some q=>show(_,rfl)
 |none=>
  let a:(Sum.inr s)∈kvs.map (·.1):=h▸bK m;let(q,b,d):=aQ.mp a
  let:=dM.mp e2 q b
  simp[d]at this
def a3m:∀{kvs:List (Key×Z)},(∀q∈kvs,∃s,q.1=Sum.inr s)->∃ks:List Str,kvs.map (·.1)=ks.map Sum.inr/\(kvs.map λq=>keyW q.1)=ks.map Z.str:=by ext z0;induction z0 with
 |nil=>ext _;show([],rfl,rfl)
 |cons q kvs I0=>
  ext h;let(s,a):=h q (.head _);let(e,c,d):=I0 λq b=>h q (.tail _ b);show(s::e,by rw[aV,aV,c,a],by rw[aV,aV,d,a];rfl)
def a6g{ks:List Str}(h:kvs.map (·.1)=ks.map Sum.inr)(e:valZ kvs (.inr s)=bN z):s∈ks:=by
 unfold valZ at e;cases e2:kvs.find? λg=>decide (g.1=Sum.inr s) with
 |none=>rw[e2]at e;cases e
 |some q=>
  let c:q.1=Sum.inr s:=by let:=eE e2;o_head this
  let:(Sum.inr s:Key)∈ks.map Sum.inr:=by rw[<- h,<- c];show bK (dJ e2)
  let(x,b,d):=aQ.mp this;cases d;show b
def a2I(a:Ad):P3:=λws G R=>Ex5 λ(p:Addr) (S:Addr->Prop) (T:List Tl) (f q:Int)=>ws=[.ref p,.int q]/\Sheet a cp G p S T f/\Few T/\f<=q/\q<=T.length/\∀t ts G',G t=ce->Sm G G'->G' t=bN (.lst (ts.map Z.str))->KeysAt (T.take q.toNat) ts->ts.length<=63->R (.ref t) G'
set_option tactic.hygienic true in
def a2J(T:Txt K mg base a):Mal P w K mg base CX0 4 (a.cK cp) "keys_at" (lowP K (a2I a)):=by
 show fnm 2 (N:=["self","knowing"]) (T.m_Short 7 _ rfl) ?_;walk_at "in";show(_,(a0d (a2s (q_m (qv 0) (clK T cp) (a0L T) hr (q_k (qv 1) a0z) ))
  (a0y (a1h (b8Q (q_B a9e (T.b 8) (q_k (q_l ["key","knowing","self"] [ce,bN 1,bN 0] (.nm 0) (hi:=(b3U (a1x (clK T cp) (naK T cp 1) (qv 0)))) (ht:=λ_ _ _ _=>(a4j (b3c (q_m (qv 2) (clK T cp) (a0E T cp) hr (q_k (qv 0) (q_k (qv 1) a0z)) ) (λ_=>rfl))))) a0z)))))),?_)
 let(p,S,T',f,q,rfl,sh,hT,h1,h2,fin):=h;let sh':=sh;let(dx,d,kvs,sm):=sh';lk;show(p,dx,_,rfl,sm.ob,a0J (by decide +kernel) (by decide +kernel) (by decide +kernel),?_);lk;show(p,S,T',f,q,rfl,sh,h1,h2,?_);lk;show b8R sm.dc ?_;lk;show(p,dx,_,_,rfl,sm.ob,a1R,?_);lk;show b8O (.inl sm.dc) ?_;let smF:=sm.v.frz;let(ks,hk1,hk2):=a3m sm.sk;let hnd:ks.Nodup:=by
  let:=sm.nd
  rw[hk1]at this;show (bn.mp this).imp λh z=>h (by rw[z])
 let(hT2,kn,kn1,kn2):=hT;let hkl:ks.length<=63:=be (a9Y hnd λs hs=>by
  let(z,ez):=a90 hk1 hs;cases sm.hs s with
  |no n t=>rw[n]at ez;cases ez
  |at_ h K v s' g t ne=>
   let(τ,t1,t2):=a9Z (T:=T') (k:=s) (n:=0) ne;rw[<- t2];show kn2 τ t1) kn1
 rw[hk2];ext D hD;show a7m (λi ys G'=>∃ts:List Str,ys=ts.map Z.str/\ts.Nodup/\(∀s,s∈ts↔s∈ks.take i/\NE (T'.take q.toNat) s)/\ts.length<=i/\Sm (put G d (.dF kvs)) G'/\G' D=bN (.lst ys)) ([],rfl,.nil,λs=>by simp,aN _,Sm.new hD,a0a) (λ_ _ _ _ _=>True.intro) ?_ ?_
 .ext i x ys G' hx ⟨ts,rfl,hn,hm,hl,s,gD⟩;rw[aU]at hx;cases hx':ks[i]? with
  |none=>rw[hx']at hx;cases hx
  |some k=>
  rw[hx']at hx;cases hx;let hi:=(bh.mp hx').1;let ht1:ks.take (i+1)=ks.take i++[k]:=by rw[b4,hx'];rfl
  let nk:k∉ks.take i:=λz=>by
   let h1:(ks.take (i+1)).Nodup:=hnd.sublist (dP _ _);rw[ht1,cc]at h1;show h1.2.2 k z k (by simp) rfl
  let smA:=smF.keep (Sm.ks s);show(_,rfl,?_);lk;show(p,dx,_,rfl,smA.ob,a0J (by decide +kernel) (by decide +kernel) (by decide +kernel),?_);lk;show(cp,p,S,T',k,q,f,_,dx,d,kvs,rfl,smA,h1,h2,by cbv,λt L G2 ht s2 gt il=>?_);show a8S gt ?_;cases hL:L with
  |nil=>
   lk;show(ts,rfl,hn,λy=>?_,by cbv,s.trans s2,s2 _ _ gD);rw[hm,ht1,aO,aR]
   constructor
   .show λ(a1,a2)=>(.inl a1,a2)
   .ext⟨a1 |rfl,a2⟩
    .show(a1,a2)
    .let(M,m1,m2):=a2;show absurd (m1.uniq il) (by rw[hL];show m2)
  |cons r L'=>
   lk;show(_,rfl,s2 _ _ gD,by rw[aM];show a0q (by cbv),ts++[k],by rw[aY];rfl,?_,λy=>?_,by rw[aW];simp;cbv,(s.trans s2).put hD,a0a)
   .rw[cc];show(hn,by simp,λa1 h1 b1 h2 z=>nk (by rw[<- aR.mp h2,<- z];show ((hm a1).mp h1).1))
   .rw[aO,hm,ht1,aO,aR]
    constructor
    .ext (⟨a1,a2⟩ |rfl)
     .show(.inl a1,a2)
     .show(.inr rfl,L,il,by rw[hL];simp)
    .ext⟨a1 |rfl,a2⟩
     .show .inl (a1,a2)
     .show .inr rfl
 .ext ys G' ⟨ts,rfl,hn,hm,hl,s,gD⟩;rw[aM]at hm hl;rw[bY]at hm;lk;show a9f gD (by cbv) λt us ht hp hs=>?_;let gd:G' d=bN (.dF kvs):=s _ _ a0a;let td:t≠d:=Ne.symm (a0x gd ht);let fr:G t=ce:=by
   let h1:=s.free ht;rw[a0h td]at h1;show h1
  let sm2:Sm G (put (put G' t (.lst (us.map Z.str))) d (.dK kvs)):=λb o e=>by
   by_cases c:b=d
   .rw[c,a0a,<- sm.dc,<- c];show e
   .rw[a0h c];show a0e (s _ _ (by rw[a0h c];show e)) ht
  show(a0e gd ht,fin t us _ fr sm2 (by rw[a0h td];show a0a) (hs,hp.nodup_iff.mpr hn,λy=>?_) (by rw[hp.length_eq];cbv));rw[hp.mem_iff,hm]
  constructor
  .show λz=>z.2
  .ext z;show(?_,z);cases e:valZ kvs (.inr y) with
   |some w=>show a6g hk1 e
   |none=>
    let(L,l1,l2):=z;cases sm.hs y with
    |at_ h K v s' g t ne=>rw[v]at e;cases e
    |no n t=>
     let hq0:0<=q:=bx sm.f0 h1;let(L',il,pm):=t.line (q:=q.toNat) (by cbv);rw[l1.uniq il]at l2;show absurd (fG.mp pm) l2
def leS(a b:Str):Prop:=PySem.Spec.ltCps b.cps.toList a.cps.toList=js
def leS_iff{a b:Str}:leS a b↔¬ b.cps.toList<a.cps.toList:=by unfold leS;rw[PyProof.Rows.ltCps_eq];simp
def a91{a b c:Str}(h:leS a b)(g:leS b c):leS a c:=by
 rw[leS_iff]at *;show List.le_trans (α:=Nat) h g
def b1G{a b:Str}(h:leS a b)(g:leS b a):a=b:=by
 rw[leS_iff]at *;let e:a.cps.toList=b.cps.toList:=fj (α:=Nat) h g;cases a;cases b;o_head e
def b9c:∀{l:List Str}{p:Str},PyProof.Rows.risingS p l=cp->(p::l).Pairwise leS:=by ext z0;induction z0 with
 |nil=>ext p _;show dz _ _
 |cons x r I0=>
  ext p h;unfold PyProof.Rows.risingS at h;rw[bW,Bool.not_eq_true']at h;let b:=I0 h.2;show bI.mpr (λy a=>?_,b);let rfl||a:=aT.mp a
  .show h.1
  .show a91 h.1 (et b a)
theorem b9d:∀{l:List Str},PyProof.Rows.sortedS l=cp->l.Pairwise leS
 |[],_=>bO.nil
 |_::_,h=>b9c h
noncomputable def KOf(T:List Tl)(f:Int)(s:Str):List Ti:=open Classical in if h:∃K,TK1 T f s K then h.choose else []
def a2b{T:List Tl}{f:Int}{s:Str}{K:List Ti}(h:TK1 T f s K):KOf T f s=K:=by
 unfold KOf;rw[dif_pos (K,h)];show (Exists.choose_spec ((K,h):∃K,TK1 T f s K)).uniq h
noncomputable def tzK(ss:List Str)(g:Str->List Ti):List Z:=ss.flatMap λs=>(g s).map (Ti.z s)
structure Evr (T:List Tl) (f:Int) (ss:List Str):Prop where
 so:PyProof.Rows.sortedS ss=cp
 nd:ss.Nodup
 no:∀s,s∉ss->KOf T f s=[]
 tk:∀s,TK1 T f s (KOf T f s)
 nm:∀s∈ss,nmOk s
 ln:ss.length<=63
def a4K{ss:List Str}{s:Str}{g:Str->List Ti}:tzK (ss++[s]) g=tzK ss g++(g s).map (Ti.z s):=by
 unfold tzK;rw[List.flatMap_append];simp
theorem b2z{g:Str->List Ti}{m:Nat}:∀{ss:List Str},(∀s∈ss,(g s).length<=m)->(tzK ss g).length<=ss.length*m
 |[],_=>by simp[tzK]
 |s::ss,h=>by
  let ih:=b2z (ss:=ss) λu hu=>h u (.tail _ hu);let h1:=h s (.head _);let e:tzK (s::ss) g=(g s).map (Ti.z s)++tzK ss g:=by unfold tzK;rw[cP]
  rw[e,aW,aM,aS,eB,eC];cbv
def b4v{t:Ti}(hk:PyData.strOk k=cp)(h:∃w,t.r.w=[.str w]/\PyData.strOk w=cp):flat 8 (t.z k)=cp:=by
 let(w,e,a):=h;unfold Ti.z;rw[e]
 change (([.str k,.str w,.int t.r.b,oz t.r.e,.int t.s,oz t.u]).all _)=cp
 simp only[b5];rw[show flat 7 (.str k)=cp from hk,show flat 7 (.str w)=cp from a,a4y,a4y,a9E,a9E]
 rfl
def TsV.fl(h:TsV T k es)(ok:OkT T):∀t∈TF es,∃w,t.r.w=[.str w]/\PyData.strOk w=cp:=by
 let l:∀{b:List _},(∀e∈b,∀r∈e.2,∃w,r.w=[.str w]/\PyData.strOk w=cp)->∀t∈TF b,∃w,t.r.w=[.str w]/\PyData.strOk w=cp:=by
  ext b
  induction b using a4F with
  |h0=>show λ_ t a=>by simp[TF]at a
  |h1 b e ih=>
   ext h t a;rw[a1O]at a;let a||a:=aO.mp a
   .let(n,h0,rfl):=aQ.mp a;rw[a6d];show ih (λx m=>h x (by simp[m])) n h0
   .let(r,c,rfl):=aQ.mp a;show h e (by simp) r (bC.mp c).1
 show l λe f r c=>?_;let(w,i):=a1w (h.ln e f) c;let(x,d,j):=(h.ln e f).pl r c;rw[i]at d;cases d;show(w,i,j)
def TK1.fl{T:List Tl}{f:Int}{k:Str}{K:List Ti}(h:TK1 T f k K)(ok:OkT T):∀t∈K,∃w,t.r.w=[.str w]/\PyData.strOk w=cp:=λt ht=>by
 let(es,h1,t0,h2,_,rfl):=h.mem ht;show h1.fl ok t0 h2
def Evr.fl{T:List Tl}{f:Int}{ss:List Str}(h:Evr T f ss)(ok:OkT T):(tzK ss (KOf T f)).all (flat 8)=cp:=by
 rw[cB];ext z hz;unfold tzK at hz;let(s,hs,hz):=fH.mp hz;let(t,ht,rfl):=aQ.mp hz;show b4v (a4C (h.nm s hs).2.2) ((h.tk s).fl ok t ht)
def Evr.len{T:List Tl}{f:Int}{ss:List Str}(h:Evr T f ss)(hT:T.length<=63)(i:Nat):(tzK (ss.take i) (KOf T f)).length<=63*80000:=be (b2z (m:=80000) λs hs=>(h.tk s).len (by cbv)) (eF _ (by let:=h.ln;rw[bj];cbv))
def b9e(ok:OkT T)(h:ix T s≠[]):nmOk s:=by
 let(τ,b,a):=a9Z h;rw[<- a];show (ok τ b).k
def a3E(a:Ad):P3:=λws G R=>∃b:Bool,Ex4 λ(p:Addr) (S:Addr->Prop) (T:List Tl) (f:Int)=>ws=[.ref p]/\Sheet a b G p S T f/\OkT T/\T.length<=63/\∀t ss G',G t=ce->Sm G G'->Evr T f ss->G' t=bN (.lst (tzK ss (KOf T f)))->R (.ref t) G'
set_option tactic.hygienic true in
def a0o(T:Txt K mg base a)(β:Bool):Mal P w K mg base CX0 1 (a.cK β) "tiles" (lowP K (a3E a)):=by
 show fnm 1 (N:=["self","told","name","key","worth","begin","end","since","until"]) (mxK T β 2) ?_;walk_at "in";let(b,h):=h;show(_,(a0d (by ac_rfl)
  (a0d (a4i (pt:=(.nm 2)) gy.never rfl (a1E (q_B (a5d rfl) (T.b 8) (q_k (a1x (clK T b) (naK T b 1) (qv 0)) a0z))) (p_nm (nmI 2 nd))
  (a0y (a4i (pt:=(.tp [3,4,5,6,7,8])) gy.never rfl (a1E (q_ix b8H (a1x (clK T b) (naK T b 1) (qv 0)) (qv 2) (λ_ _=>rfl))) (by ac_rfl)
  (by ac_rfl))))
  (by ac_rfl))),?_)
 let(p,S,T',f,rfl,(dx,d,kvs,sh),ok,hT,fin):=h;lk;show(lenK rfl,λW hW=>?_);let gW:put G W (.lst []) W=bN (.lst []):=a0a;let s0:Sm G (put G W (.lst [])):=Sm.new hW;generalize put G W (.lst [])=G1 at gW s0 ⊢;lk;show(p,dx,_,_,rfl,s0 _ _ sh.ob,a1R,?_);lk;let(ks,hk1,hk2):=a3m sh.sk;let hnd:ks.Nodup:=by
  let:=sh.nd
  rw[hk1]at this;show (bn.mp this).imp λh z=>h (by rw[z])
 let hkl:ks.length<=63:=by
  let:=congrArg bz hk1
  rw[aM,aM]at this
  let:=sh.len
  cbv
 show a3Z (s0 _ _ sh.dc) hk1 (by cbv) λK ts hK pm so=>?_;let gK:put G1 K (.lst (ts.map Z.str)) K=bN (.lst (ts.map Z.str)):=a0a;let s1:Sm G1 (put G1 K (.lst (ts.map Z.str))):=Sm.new hK;let nWK:W≠K:=a0x gW hK;generalize put G1 K (.lst (ts.map Z.str))=G2 at gK s1 ⊢;let gW2:=s1 _ _ gW;let s02:=s0.trans s1;let tl:=pm.length_eq;let at_:∀s∈ts,∃h,valZ kvs (.inr s)=bN (.ref h)/\G h=bN (.lst ((KOf T' f s).map (Ti.z s)))/\TK1 T' f s (KOf T' f s)/\ix T' s≠[]:=λs hs=>by
  let(z,ez):=a90 hk1 (pm.mem_iff.mp hs);cases sh.hs s with
  |no n t=>rw[n]at ez;cases ez
  |at_ h K v s' g t ne=>rw[a2b t];show(h,v,g,t,ne)
 let ti:Evr T' f ts:=(so,pm.nodup_iff.mpr hnd,λs hs=>?_,λs=>?_,λs hs=>let (_,_,_,_,n):=at_ s hs;b9e ok n,by cbv)
 rotate_left
 .cases sh.hs s with
  |no n t=>show a2b t
  |at_ h K v s' g t ne=>show absurd (pm.mem_iff.mpr (a6g hk1 v)) hs
 .cases sh.hs s with
  |no n t=>rw[a2b t];show t
  |at_ h K v s' g t ne=>rw[a2b t];show t
 let lenT:=ti.len hT;lk;show a1i gK ?_;show a1e (λi σ G'=>Ex7 λ(v1 v2 v3 v4 v5 v6 v7:Option Z)=>Kq W G2 G'/\G' W=bN (.lst (tzK (ts.take i) (KOf T' f)))/\σ=[bN (.ref p),bN (.ref W),v1,v2,v3,v4,v5,v6,v7]) (_,_,_,_,_,_,_,λ_ _ e _=>e,gW2,rfl) (by ext i σ G' _ ⟨_,_,_,_,_,_,_,k,_⟩;show k _ _ gK (Ne.symm nWK)) ?_ ?_
 .ext i x σ G3 hx ⟨v1,v2,v3,v4,v5,v6,v7,kq,gW3,rfl⟩;rw[aU]at hx;cases hx':ts[i]? with
  |none=>rw[hx']at hx;cases hx
  |some s=>
  rw[hx']at hx;cases hx;let(h,ez,gh,tv,_):=at_ s (bp hx');let l1:=lenT (i+1);rw[take_snoc hx',a4K,aW,aM]at l1;let ne:∀{b o},G b=bN o->b≠W:=λe=>a0x e hW;show(_,rfl,?_);lk;show(p,dx,_,_,rfl,kq _ _ (s02 _ _ sh.ob) (ne sh.ob),a1R,?_);lk;show b8I (kq _ _ (s02 _ _ sh.dc) (ne sh.dc)) rfl ez ?_;let gh3:=kq _ _ (s02 _ _ gh) (ne gh);lk;show a1i gh3 ?_;show a1e (λj σ G'=>Ex6 λ(v2 v3 v4 v5 v6 v7:Option Z)=>Kq W G3 G'/\G' W=bN (.lst (tzK (ts.take i) (KOf T' f)++((KOf T' f s).take j).map (Ti.z s)))/\σ=[bN (.ref p),bN (.ref W),bN (.str s),v2,v3,v4,v5,v6,v7]) (_,_,_,_,_,_,λ_ _ e _=>e,↑gW3,rfl) (by ext j σ G' _ ⟨_,_,_,_,_,_,k,_⟩;show k _ _ gh3 (ne gh)) ?_ ?_
  .ext j x σ G4 hx ⟨w2,w3,w4,w5,w6,w7,kq4,gW4,rfl⟩;rw[aU]at hx;cases hr:(KOf T' f s)[j]? with
   |none=>rw[hr]at hx;cases hx
   |some t=>
   rw[hr]at hx;cases hx;let hj:=(bh.mp hr).1;show(_,rfl,?_);lk;show a2z gW4 ?_;lk;show(lenK rfl,?_);lk;show a09 gW4 (by rw[aW,aM,bj];show cj (by cbv:_<=63*80000) (by decide)) ?_;show(_,_,_,_,_,_,λb o e nb=>by rw[a0h nb];show kq4 b o e nb,?_,rfl);rw[a0a,take_snoc hr,aY,bA]
   rfl
  .ext σ G4 ⟨w2,w3,w4,w5,w6,w7,kq4,gW4,rfl⟩;rw[aM,bY]at gW4;lk;show(_,_,_,_,_,_,_,λb o e nb=>kq4 b o (kq b o e nb) nb,?_,rfl);rw[gW4,take_snoc hx',a4K]
 .ext σ G3 ⟨v1,v2,v3,v4,v5,v6,v7,kq,gW3,rfl⟩;rw[aM,bY]at gW3;lk;show fin W ts G3 hW (λb o e=>kq _ _ (s02 _ _ e) (a0x e hW)) ti gW3
def dst(x y:Ti):Prop:=¬ (x.s=y.s/\x.r.b=y.r.b)
def a64{l m:List Ti}(p:l.Perm m)(h:m.Pairwise dst):l.Pairwise dst:=(p.pairwise_iff λ{x y} (h:dst x y) z=>h (z.1.symm,z.2.symm)).mpr h
def a92{T:List Tl}{k:Str}{es:List (Int×List Rw)}(h:TsV T k es){q:Int}{m:Nat}(hq:q+m=T.length):SL q (TF es) (gT (a0k es) q (m+1)):=by
 let:=b86 (a5x h.ix) (λe he=>(h.ln e he).can) (f:=q) m
 rwa [dh.mpr λe he=>decide_eq_true (by let:=h.le he;cbv)]at this
def TK1.dst{T:List Tl}{f q:Int}{k:Str}{K:List Ti}(h:TK1 T f k K)(h1:f<=q)(h2:q<=T.length):(left q K).Pairwise dst:=by
 let(es,e1,e2):=h.ex;let g:=a92 e1 (q:=q) (m:=(T.length-q).toNat) (by cbv);show a64 ?_ (g.so.imp λ{x y} (o:oSb x y)=>?_)
 .show bM.trans ?_ g.pm.symm;rw[<- a13 h1 (ts:=TF es)];unfold left;show e2.pm.filterMap _
 .unfold oSb at o;unfold Lw.dst;cbv
def TK1.fgt{T:List Tl}{f q:Int}{k:Str}{K J:List Ti}(h:TK1 T f k K)(h1:f<=q)(p:J.Perm (left q K))(so:J.Pairwise oSb):TK1 T q k J:=by
 let(es,e1,e2):=h.ex;show(es,e1,e2.fgt h1 p so)
noncomputable def kyT(t:Ti):List Tim.Pz:=[.inl (bN t.s),.inl (bN t.r.b)]
def b9f(l:List Ti):L2.KzOk (l.map kyT) 2:=by
 let ex:∀x∈l.map kyT,∃t,x=kyT t:=λx hx=>let (t,_,e):=aQ.mp hx;(t,e.symm)
 show(λx hx=>?_,λx hx=>?_,λx hx y hy=>?_)
 .let(t,rfl):=ex x hx;show(_,_,rfl)
 .let(t,rfl):=ex x hx;rfl
 .let(t,rfl):=ex x hx;let(u,rfl):=ex y hy;unfold kyT Tim.cmpT
  split
  .unfold Tim.cmpT
   split<;>rfl
  .rfl
def b9g{x y:Ti}(h:Tim.ltT (kyT y) (kyT x)=js)(d:dst x y):oSb x y:=by
 unfold kyT Tim.ltT at h
 by_cases c:x.s=y.s
 .rw[if_pos (by rw[c])]at h;unfold Tim.ltT at h;let c2:x.r.b≠y.r.b:=λz=>d (c,z);rw[if_neg (λz=>by injection z with z;injection z with z;show c2 z.symm)]at h;let h:=of_decide_eq_false h;show .inr (c,by cbv)
 .rw[if_neg (λz=>by injection z with z;injection z with z;show c z.symm)]at h;let h:=of_decide_eq_false h;show .inl (by cbv)
def b7g{k:Str}{l:List Ti}{os:List Z}(d:l.Pairwise dst)(h:L2.SOutT (l.map kyT) (l.map (Ti.z k)) os):∃J:List Ti,J.Perm l/\J.Pairwise oSb/\os=J.map (Ti.z k):=by
 let(ps,p1,rfl,p3):=h;let e:(l.map kyT).zip (l.map (Ti.z k))=l.map λt=>(kyT t,Ti.z k t,):=by
  rw[List.zip_map']
 rw[e]at p1;let(J,j1,rfl):=Tim.perm_lift p1;show(J,j1,?_,by rw[aX];rfl);show ((bn.mp p3).and (a64 j1 d)).imp λ{x y} h=>b9g h.1 h.2
def a3n(a:Ad):P3:=λws G R=>Ex4 λ(p:Addr) (k:Str) (K:List Ti) (q:Int)=>ws=[.ref p,.int q]/\G p=bN (.lst (K.map (Ti.z k)))/\K.length<=80000/\G a.tP=bN lamO/\(left q K).Pairwise dst /\
 ∀(t:Addr)(J:List Ti) G',G t=ce->Sm G G'->J.Perm (left q K)->J.Pairwise oSb->G' t=bN (.lst (J.map (Ti.z k)))->R (.ref t) G'
def a3o(T:Txt K mg base a):Cal P w K mg base CX0 4 "tiles_from" (lowP K (a3n a)):=by
 show fncL 2 (N:=["tiles","knowing","left"]) T.br (T.f 20 _ rfl) T.lam ?_ (λws G R h=>(by let(_,_,_,_,rfl,_):=h;rfl)) (rfl,rfl,rfl,by decide +kernel,rfl,by decide +kernel,by decide +kernel) (by ext kV doc pm an cdv ct us hl;match us,hl with |[_,_],_=>rfl)
 ext f c A outer s H E ws G R hcd hr nd h;let hu:=b6P hr;show(_,(a0d (z_l (nmI 2 nd) ["key","worth","begin","end","since","until","knowing"] [ce,ce,ce,ce,ce,ce,bN 1] (.tp [0,1,2,3,4,5]))
  (a0y (a1h (b8Y (y:="tile") (N:=["tile"]) (k:=0) (T.b 8) hr (qv 2) rfl hcd T.gP T.bi (λ_ _ _ _ _ _ hr nd=>(by ac_rfl)) (rfl,rfl,rfl,by decide +kernel,rfl,by decide +kernel,by decide +kernel) rfl rfl rfl (λ_ _ _ us hl=>match us,hl with |[_],_=>rfl))))),?_)
 let(p,k,K',q,rfl,gp,hl,gP,hd,fin):=h;lk;show a1i gp ?_;ext D hD;show a1z (g':=Ti.z k) (lfT q) (λys=>a0e gp hD) (by cbv) ?_ ?_
 .ext⟨r,s0,u⟩ ht ys K1 K2 k1 k2;show(_,rfl,?_);let mx:(if q > s0 then q else s0)=max s0 q:=by cbv
  cases u with
  |none=>
   lk;show(lenK rfl,?_);rw[mx];show k1 _ rfl
  |some u=>
   lk;show ifD (λc=>?_) λc=>?_
   .lk;show(lenK rfl,?_);rw[mx];show k1 (r,max s0 q,bN u) (if_pos (decide_eq_true c))
   .show k2 (if_neg (by simpa[bef]using c))
 .lk;let gD:put G D (.lst ((left q K').map (Ti.z k))) D=bN (.lst ((left q K').map (Ti.z k))):=a0a;let s1:Sm G (put G D (.lst ((left q K').map (Ti.z k)))):=Sm.new hD
  change a6V _ _ _ _ _ _ _ (put G D (.lst ((left q K').map (Ti.z k)))) _
  generalize put G D (.lst ((left q K').map (Ti.z k)))=G1 at gD s1 ⊢;show b38 ?_;lk;let ll:(left q K').length<=80000:=be (b9 _ _) hl;show(D,_,(left q K').map kyT,2,rfl,gD,by rw[aM];cbv,s1 _ _ gP,by rw[aM,aM],b9f _,λi w k' hw hk=>?_,λt os ht so=>?_)
  .rw[aU]at hw hk;cases hh:(left q K')[i]? with
   |none=>rw[hh]at hw;cases hw
   |some h=>
    rw[hh]at hw hk;cases hw;cases hk;unfold Ti.z;lk;show(lenK rfl,rfl,rfl)
  .let(J,j1,j2,rfl):=b7g hd so;show fin t J _ (s1.free ht) (s1.trans (Sm.new ht)) j1 j2 a0a
def a5D(nd:(rows.map (·.1)).Nodup):a2u [] rows=rows:=by
 let c:∀a b,((b++a).map (·.1)).Nodup->a2u b a=b++a:=by
  ext a
  induction a with
  |nil=>ext b _;simp[a2u]
  |cons r a ih=>
   ext b h;let d:valZ b r.1=ce:=by
    cases e:valZ b r.1 with
    |none=>rfl
    |some z=>
     unfold valZ at e;cases e2:b.find? λi=>decide (i.1=r.1) with
     |none=>rw[e2]at e;cases e
     |some q=>
      rw[aY,cc]at h;let g:q.1=r.1:=by let:=eE e2;o_head this
      show absurd g (h.2.2 q.1 (bK (dJ e2)) r.1 (by simp))
   change a2u (putZ b r.1 r.2) a=_
   rw[a9X d,ih _ (by simp_all)];simp
 o_head c rows [] (by simp_all)
def a65(nd:(kvs.map (·.1)).Nodup)(h:(k,z,)∈kvs):valZ kvs k=bN z:=by
 induction kvs with
 |nil=>simp at h
 |cons q kvs ih=>
  rw[aV,cg]at nd;unfold valZ;rw[bP];let rfl||h:=aT.mp h
  .simp
  .let a:¬ q.1=k:=λb=>nd.1 (b▸bK h);rw[decide_eq_false a];show ih nd.2 h
theorem a93{α β:Type}{f:α->β}:∀{l:List α},(l.map f).Nodup->∀{x y},x∈l->y∈l->f x=f y->x=y
 |a::l,h,x,y,hx,hy,e=>by
  let(b,c):=cg.mp h;let c1||c1:=aT.mp hx
  .let c2||c2:=aT.mp hy
   .simp_all
   .rw[c1]at e;show absurd (bK (f:=f) c2) (by rw[<- e];show b)
  .let c2||c2:=aT.mp hy
   .rw[c2]at e;show absurd (bK (f:=f) c1) (by rw[e];show b)
   .show a93 c c1 c2 e
abbrev Row1:=Str×Addr×List Ti
noncomputable def rw0(x:Row1):Key×Z:=(.inr x.1,.ref x.2.1,)
structure RowI (T:List Tl) (q:Int) (G G':Hq) (x:Row1):Prop where
 n:G x.2.1=ce
 g:G' x.2.1=bN (.lst (x.2.2.map (Ti.z x.1)))
 t:TK1 T q x.1 x.2.2
 ne:ix T x.1≠[]
def RowI.sm{T:List Tl}{q:Int}{G G' G'':Hq}{x:Row1}(h:RowI T q G G' x)(s:∀o,G' x.2.1=bN o->G'' x.2.1=bN o):RowI T q G G'' x:=(h.n,s _ h.g,h.t,h.ne)
def b7h{rs:List Row1}{ks:List Str}(h:rs.map (·.1)=ks)(nd:ks.Nodup):((rs.map rw0).map (·.1)).Nodup:=by
 rw[aX,show ((λx:Key×Z=>x.1)∘rw0)=(λs:Str=>(Sum.inr s:Key))∘λx:Row1=>x.1 from rfl,<- aX,h];show bn.mpr (nd.imp λh z=>h (by injection z))
def b4w{rs:List Row1}(nd:((rs.map rw0).map (·.1)).Nodup){x:Row1}(h:x∈rs):valZ (rs.map rw0) (.inr x.1)=bN (.ref x.2.1):=a65 nd (bK (f:=rw0) h)
def b2A{rs:List Row1}{k:Str}(h:∀x∈rs,x.1≠k):valZ (rs.map rw0) (.inr k)=ce:=by
 unfold valZ;rw[dM.mpr λq hq=>?_]
 .rfl
 .let(x,hx,rfl):=aQ.mp hq
  let:=h x hx
  simpa[rw0]using this
def a3p(a:Ad):P3:=λws G R=>Ex5 λ(p:Addr) (S:Addr->Prop) (T:List Tl) (f q:Int)=>ws=[.ref p,.int q]/\Sheet a cp G p S T f/\OkT T/\T.length<=63/\0<=q/\q<=T.length/\G a.tP=bN lamO/\(q<=f->R (.int 0) G) /\
 (f<q->∀(S':Addr->Prop) G' ss us,(∀b,S' b->S b\/G b=ce)->KN S G G'->Sheet a cp G' p S' T q->Evr T f ss->Evr T q us->R (.int (((tzK ss (KOf T f)).length:Int)-((tzK us (KOf T q)).length:Int))) G')
set_option tactic.hygienic true in
def a1r(T:Txt K mg base a):Mal P w K mg base CX0 5 (a.cK cp) "forget" (lowP K (a3p a)):=by
 show fnm 2 (N:=["self","knowing","before","left"]) (T.m_Short 9 _ rfl) ?_;walk_at "in";show(_,(a0d (a2s (q_c (a0D T) hr (q_k (qv 1) (q_k (a1x (clK T cp) (naK T cp 0) (qv 0)) a0z)) ))
  (a0d (z_if (a23 o_le (qv 1) (a1x (clK T cp) (T.n_Short 2 _ rfl) (qv 0)) (a2q _))
  (by ac_rfl)
  a24)
  (a0d (z_st (nmI 2 nd) (q_B b3x (T.b 3) (q_k (q_m0 (qv 0) (clK T cp) (a0o T cp) hr) a0z) (hv:=PySem.boot_len)))
  (a0d (z_st (nmI 3 nd) (q_Y (a9j rfl) (T.b 10) (q_k (q_l ["key","tiles","knowing"] [ce,ce,bN 1] (.tp [0,1]) (hi:=(a6T (a1x (clK T cp) (naK T cp 1) (qv 0))))) a0z)))
  (a0d (a89 (clK T cp) (naK T cp 1) (qv 0) (q_Y (a9j rfl) (T.b 10) (q_k (q_l ["key","tiles"] [ce,ce] (.tp [0,1]) (hi:=(a6T (qv 3))) (ht:=λ_ _ _ _=>(a4j (b3c (qv 1) (λ_=>rfl))))) a0z)))
  (a0d (a89 (clK T cp) (T.n_Short 2 _ rfl) (qv 0) (qv 1))
  (a0y (a1h (q_op b5U (qv 2) (q_B b3x (T.b 3) (q_k (q_m0 (qv 0) (clK T cp) (a0o T cp) hr) a0z) (hv:=PySem.boot_len))))))))))),?_)
 let(p,S,T',f,q,rfl,sh,ok,hT,q0,q1,gP,hA,hB):=h;let sh0:=sh;let(dx,d,kvs,sm):=sh0;lk;show(p,dx,_,_,rfl,sm.ob,a1Q,?_);lk;show(q,_,rfl,?_);rw[if_pos (by cbv)];lk;show(p,dx,_,_,rfl,sm.ob,a9V,?_);lk;show ifD (λc=>?_) λc=>?_
 .lk;show hA c
 let hB:=hB (by cbv);clear hA;lk;show(p,dx,_,rfl,sm.ob,a0J (by decide +kernel) (by decide +kernel) (by decide +kernel),?_);lk;show(cp,p,S,T',f,rfl,sh,ok,hT,λt ss G1 ht s1 ev gt=>?_);lk;show a3U gt ?_;let sm1:=sm.keep (Sm.ks s1);let gP1:=s1 _ _ gP;lk;show b6K ?_;lk;show(p,dx,_,_,rfl,sm1.ob,a1R,?_);show b2j (.inl sm1.dc) ?_;ext D hD;let(ks,hk1,hk2):=a3m sm.sk;let hnd:ks.Nodup:=by
  let:=sm.nd
  rw[hk1]at this;show (bn.mp this).imp λh z=>h (by rw[z])
 let lkv:=sm.len;let lks:ks.length=kvs.length:=by let:=congrArg bz hk1;rw[aM,aM]at this;show this.symm
 let k0:∀b o,b≠d->G1 b=bN o->put G1 d (.dF kvs) b=bN o:=λb o nb e=>by rw[a0h nb];show e
 let gP0:put G1 d (.dF kvs) a.tP=bN lamO:=k0 _ _ (λz=>by rw[z,sm1.dc]at gP1;cases gP1) gP1;let gd0:put G1 d (.dF kvs) d=bN (.dF kvs):=a0a;let n0:∀b,put G1 d (.dF kvs) b=ce->G1 b=ce:=λb e=>by
  by_cases c:b=d
  .rw[c,a0a]at e;cases e
  .rw[a0h c]at e;show e
 generalize put G1 d (.dF kvs)=G0 at hD k0 gP0 gd0 n0 ⊢;show a7m (λi ys G'=>∃rs:List Row1,ys=(rs.map rw0).map prZ/\rs.map (·.1)=ks.take i/\(∀x∈rs,x.2.1≠D/\RowI T' q G1 G' x)/\Sm G0 G'/\G' D=bN (.lst ys)) ([],rfl,rfl,λx hx=>by simp at hx,Sm.new hD,a0a) (λ_ _ _ _ _=>True.intro) ?_ ?_
 .ext i x ys G' hx ⟨rs,rfl,hr,hI,s2,gD⟩;rw[aU]at hx;cases hx':kvs[i]? with
  |none=>rw[hx']at hx;cases hx
  |some kv=>
  rw[hx']at hx;cases hx;let hi:=(bh.mp hx').1;let(k,z):=kv;let(s,e):=sm.sk _ (bp hx');let e:k=.inr s:=e;subst e;let ev:=a65 sm.nd (bp hx');let hks:ks[i]?=bN s:=by
   let:=congrArg (·[i]?) hk1
   simp only[aU,hx']at this;cases h:ks[i]? with
   |none=>rw[h]at this;cases this
   |some u=>
    rw[h]at this;o_head this.symm
  cases sm.hs s with
  |no n t=>rw[n]at ev;cases ev
  |at_ h K' v s' g tk ne=>
  rw[v]at ev;cases ev;let ndh:h≠d:=λz=>by rw[z,sm.dc]at g;cases g
  show(_,rfl,?_);lk;let gh:G' h=bN (.lst (K'.map (Ti.z s))):=s2 _ _ (k0 _ _ ndh (s1 _ _ g));show(h,s,K',q,rfl,gh,tk.len (by cbv),s2 _ _ gP0,tk.dst (by cbv) q1,λt J G2 ht s3 pm so gt2=>?_);let ntD:t≠D:=Ne.symm (a0x gD ht);let rl:rs.length<=63:=by let:=congrArg bz hr;rw[aM,bj]at this;cbv
  lk;show(lenK rfl,s3 _ _ gD,by rw[aM,aM];show a0q (by cbv),rs++[(s,t,J,)],by rw[aY,aY];rfl,by rw[aY,hr,take_snoc hks];rfl,λx hx=>?_,(s2.trans s3).put hD,a0a);let hx||hx:=aO.mp hx
  .let(nD,ri):=hI x hx;show(nD,ri.sm λo e=>by rw[a0h nD];show s3 _ _ e)
  .rw[aR.mp hx];show(ntD,n0 _ (s2.free ht),by rw[a0h ntD];show gt2,tk.fgt (by cbv) pm so,ne)
 .ext ys G2 ⟨rs,rfl,hr,hI,s2,gD⟩;rw[aM,<- lks,bY]at hr;let nd2:=b7h hr hnd;let rl:rs.length<=63:=by let:=congrArg bz hr;rw[aM]at this;cbv
  lk;show a9k gD (by rw[aM];cbv) λD1 hD1=>?_;rw[a5D nd2];let gL:put G2 D1 (.dK (rs.map rw0)) D1=bN (.dK (rs.map rw0)):=a0a;let s3:Sm G2 (put G2 D1 (.dK (rs.map rw0))):=Sm.new hD1;generalize put G2 D1 (.dK (rs.map rw0))=G3 at gL s3 ⊢;let s03:=s2.trans s3;let nD1:G0 D1=ce:=s2.free hD1;let ob3:G3 p=bN (.ins (a.cK cp) dx (shF cp T'.length d f)):=s03 _ _ (k0 _ _ (λz=>by let e:=sm1.ob;rw[z,sm1.dc]at e;cases e) sm1.ob);lk;show b6K ?_;lk;show b2j (.inl gL) ?_;ext E hE;let k4:∀b o,b≠D1->G3 b=bN o->put G3 D1 (.dF (rs.map rw0)) b=bN o:=λb o nb e=>by rw[a0h nb];show e
  let n4:∀b,put G3 D1 (.dF (rs.map rw0)) b=ce->G3 b=ce:=λb e=>by
   by_cases c:b=D1
   .rw[c,a0a]at e;cases e
   .rw[a0h c]at e;show e
  let hI4:∀x∈rs,RowI T' q G1 (put G3 D1 (.dF (rs.map rw0))) x:=λx hx=>by
   let ri:=(hI x hx).2;show ri.sm λo e=>k4 _ _ (λz=>by let:=ri.g;rw[z,hD1]at this;cases this) (s3 _ _ e)
  let ob4:=k4 _ _ (λz=>by rw[z,gL]at ob3;cases ob3) ob3;let old4:∀b o,b≠d->G1 b=bN o->put G3 D1 (.dF (rs.map rw0)) b=bN o:=λb o nb e=>k4 _ _ (λz=>by let:=k0 _ _ nb e;rw[z,nD1]at this;cases this) (s03 _ _ (k0 _ _ nb e));let gd4:=k4 _ _ (λz=>by rw[<- z,gd0]at nD1;cases nD1) (s03 _ _ gd0);let nn4:∀b,put G3 D1 (.dF (rs.map rw0)) b=ce->G1 b=ce:=λb e=>n0 _ (s03.free (n4 b e));generalize put G3 D1 (.dF (rs.map rw0))=G4 at hE hI4 ob4 old4 gd4 nn4 ⊢;clear k4 n4 hI s2 s3 s03 gD gL ob3 nD1 hD1 hD;rw[aX];show a1z (g':=λx:Row1=>prZ (rw0 x)) (λx=>if (!x.2.2.isEmpty)=cp then bN x else ce) (λ_=>True.intro) (by cbv) ?_ ?_
  .ext⟨s,h,J⟩ hx ys K1 K2 k1 k2;let gx:=a0e (o:=.lst ys) (hI4 _ hx).g hE;show(_,rfl,?_);lk;show a8S gx ?_;cases J with
   |nil=>show ifF (k2 rfl)
   |cons r J=>
    show ifT ?_;lk;show(lenK rfl,?_);show k1 _ rfl
  rw[a3l];obtain⟨us,hus⟩:∃us,us=rs.filter λx=>!x.2.2.isEmpty:=(_,rfl);rw[<- hus];let um:∀x,x∈us↔x∈rs/\x.2.2≠[]:=λx=>by
   rw[hus,bC];cases x.2.2<;>simp
  let und:((us.map rw0).map (·.1)).Nodup:=by
   rw[hus];show nd2.sublist ((cE.map _).map _)
  let ul:us.length<=kvs.length:=by
   rw[hus,<- lks,<- hr,aM];show eD _ _
  clear hus;rw[show (us.map λx=>prZ (rw0 x))=(us.map rw0).map prZ by rw[aX];rfl];let gE:put G4 E (.lst ((us.map rw0).map prZ)) E=bN (.lst ((us.map rw0).map prZ)):=a0a;let s5:Sm G4 (put G4 E (.lst ((us.map rw0).map prZ))):=Sm.new hE;generalize put G4 E (.lst ((us.map rw0).map prZ))=G5 at gE s5 ⊢;lk;show a9k gE (by rw[aM];cbv) λD2 hD2=>?_;rw[a5D und];let g2:put G5 D2 (.dK (us.map rw0)) D2=bN (.dK (us.map rw0)):=a0a;let s6:Sm G4 (put G5 D2 (.dK (us.map rw0))):=s5.trans (Sm.new hD2);let nD2:G1 D2=ce:=nn4 _ (s5.free hD2);generalize put G5 D2 (.dK (us.map rw0))=G6 at g2 s6 ⊢;clear gE s5 hE hD2;let ob6:=s6 _ _ ob4;let npD2:p≠D2:=λz=>by rw[z,g2]at ob6;cases ob6
  lk;show(p,dx,_,rfl,ob6,a4H,?_);rw[b4q];lk;show(p,dx,_,rfl,a0a,a4H,?_);rw[b7a,a0Z];let kp:∀b o,b≠p->G6 b=bN o->put G6 p (.ins (a.cK cp) dx (shF cp T'.length D2 q)) b=bN o:=λb o nb e=>by rw[a0h nb];show e
  let gp7:put G6 p (.ins (a.cK cp) dx (shF cp T'.length D2 q)) p=bN (.ins (a.cK cp) dx (shF cp T'.length D2 q)):=a0a;let nn7:∀b,put G6 p (.ins (a.cK cp) dx (shF cp T'.length D2 q)) b=ce->G1 b=ce:=λb e=>by
   by_cases c:b=p
   .rw[c,a0a]at e;cases e
   .rw[a0h c]at e;show nn4 _ (s6.free e)
  generalize put G6 p (.ins (a.cK cp) dx (shF cp T'.length D2 q))=G7 at kp gp7 nn7 ⊢;let g27:=kp _ _ (Ne.symm npD2) g2;let old7:∀b o,b≠d->b≠p->G b=bN o->G7 b=bN o:=λb o nb np e=>kp _ _ np (s6 _ _ (old4 _ _ nb (s1 _ _ e)));let sh7:Sheet a cp G7 p (λb=>S b\/(G b=ce/\∃o,G7 b=bN o)) T' q:=by
   show(dx,D2,us.map rw0,gp7,.inl sm.sp,.inr (s1.free nD2,_,g27),g27,?_,λk=>?_,λb hb=>?_,und,λr hr=>?_,by cbv,q1)
   .rw[aM];cbv
   .cases sm.hs k with
    |no n t=>
     show .no (b2A λx hx e=>?_) (t.fgt (J:=[]) (by cbv) (.refl _) .nil);let hx:x.1∈ks:=by rw[<- hr];show bK (f:=(·.1)) ((um x).mp hx).1
     rw[e]at hx;let(z,ez):=a90 hk1 hx;rw[n]at ez;cases ez
    |at_ h K v s g t ne=>
     let hk:=a6g hk1 v;rw[<- hr]at hk;let(x,hx,rfl):=aQ.mp hk;let ri:=hI4 x hx
     by_cases c:x.2.2=[]
     .show .no (b2A λy hy e=>?_) (by let:=ri.t;rw[c]at this;show this);let(y1,y2):=(um y).mp hy;rw[a93 (f:=λx:Row1=>x.1) (by rw[hr];show hnd) y1 hx e]at y2;show y2 c
     .let g7:=kp _ _ (λz=>by let n:=ri.n;rw[z,sm1.ob]at n;cases n) (s6 _ _ ri.g);show .at_ x.2.1 x.2.2 (b4w und ((um x).mpr (hx,c))) (.inr (s1.free ri.n,_,g7)) g7 ri.t ri.ne
   .let hb||hb:=hb
    .by_cases c1:b=p
     .rw[c1];show(_,gp7)
     .by_cases c2:b=d
      .rw[c2];show(_,kp _ _ (λz=>c1 (c2.trans z)) (s6 _ _ gd4))
      .let(o,e):=sm.al b hb;show(o,old7 b o c2 c1 e)
    .show hb.2
   .let(x,_,rfl):=aQ.mp hr;show(_,rfl)
  lk;show(p,dx,_,rfl,gp7,a0J (by decide +kernel) (by decide +kernel) (by decide +kernel),?_);lk;show(cp,p,_,T',q,rfl,sh7,ok,hT,λt2 vs G8 ht2 s8 ev2 gt8=>?_);lk;show a3U gt8 ?_;lk;show hB _ G8 ss vs (λb hb=>hb.imp id λh=>h.1) (λb o nb e=>s8 _ _ (old7 b o (λz=>nb (by rw[z];show sm.sd)) (λz=>nb (by rw[z];show sm.sp)) e)) (sh7.keep (Sm.ks s8)) ev ev2
def a7L(kvs:List (Key×Z))(ss:List Str):Prop:=kvs.map (·.1)=ss.map λs=>(Sum.inr s:Key)
def a94(h:a7L kvs ss)(hd:ss.Nodup)(x:Str)(v:Z):∃us,a7L (putZ kvs (.inr x) v) us/\us.Nodup/\∀y,y∈us↔y∈ss\/y=x:=by
 unfold putZ;let g:(kvs.any λc=>decide (c.1=Sum.inr x))=decide (x∈ss):=by
  rw[cz];simp only[cD,decide_eq_true_eq]
  constructor
  .ext⟨c,k,j⟩
   let:c.1∈ss.map λs=>(Sum.inr s):=by rw[<- h];show bK k
   let(n,i,f):=aQ.mp this;rw[j]at f;cases f;show i
  .ext d
   let:(Sum.inr x)∈kvs.map (·.1):=by rw[h];show bK d
   let(c,i,f):=aQ.mp this;show(c,i,f)
 rw[g]
 by_cases d:x∈ss
 .rw[decide_eq_true d,if_pos rfl];show(ss,?_,hd,λy=>(.inl,λh=>h.elim id λe=>e▸d));unfold a7L;rw[<- h,aX];show b7 λc _=>?_
  change (if c.1=Sum.inr x then _ else c).1=c.1
  split<;>rfl
 .rw[decide_eq_false d,if_neg (by simp)];show(ss++[x],?_,?_,λy=>by simp)
  .unfold a7L;rw[aY,h,aY];rfl
  .rw[cc];show(hd,by simp,λa l b m=>by rw[aR.mp m];ext rfl;show d l)
def NE.mem{T:List Tl}(h:NE (T.take q) s):∃τ∈T,τ.key=s:=by
 let(L,e,d):=h
 by_cases c:∃τ∈T.take q,τ.key=s
 .let(τ,f,a):=c;show(τ,cw f,a)
 .let:a1N (T.take q) s=[]:=by
   unfold a1N;rw[eu,dg];ext τ b;o_head λz=>c (τ,b,z)
  show absurd (e.uniq (IsLine.nil this)) d
def a3F(a:Ad):P3:=λws G R=>Ex4 λ(p:Addr) (S:Addr->Prop) (T:List Tl) (f:Nat)=>ws=[.ref p]/\Sheet a cp G p S T f/\Few T/\∀t (us:List Str) G',G t=ce->Sm G G'->G' t=bN (.lst (us.map Z.str))->PyProof.Rows.sortedS us=cp->us.Nodup->(∀s,s∈us↔∃i,f+i<=T.length/\NE (T.take (f+i)) s)->us.length<=63->R (.ref t) G'
set_option tactic.hygienic true in
def a3G(T:Txt K mg base a):Cal P w K mg base CX0 5 "keys_ever" (lowP K (a3F a)):=by
 show fnc 1 (N:=["sheet","seen","knowing","key"]) T.br (T.f 16 _ rfl) ?_;walk_at "in";show(_,(a0d (z_st (nmI 1 nd) b11)
  (a0d (a4i (pt:=(.nm 2)) gy.never rfl (a2g rfl (T.b 9) (q_k (q_m0 (qv 0) (clK T cp) (a02 T) hr) (q_k (q_op a5T (q_m0 (qv 0) (clK T cp) (a0w T cp) hr) a3v) a0z))) (p_nm (nmI 2 nd))
  (a0y (a4i (pt:=(.nm 3)) gy.never rfl (a1E (q_m (qv 0) (clK T cp) (a2J T) hr (q_k (qv 2) a0z) )) (p_nm (nmI 3 nd))
  (a0y (a42 q_bl (qv 1) (qv 3) (b2c hu))))))
  (a0y (a1h (q_B (a5d rfl) (T.b 8) (q_k (qv 1) a0z)))))),?_)
 let(p,S,T',f,rfl,sh,few,fin):=h;let hf:(f:Int)<=T'.length:=let (_,_,_,m):=sh;m.f1
 let hT:=few.1;let(_,kn,hkn,hk):=id few;let small:∀{us:List Str}{P:Str->Prop},us.Nodup->(∀s,s∈us->∃q,NE (T'.take q) s)->us.length<=63:=λnd h=>be (a9Y nd λs hs=>by
  let(q,hq):=h s hs;let(τ,h1,h2):=hq.mem;rw[<- h2];show hk τ h1) hkn
 lk;ext d hd;let gd:put G d (.dK []) d=bN (.dK []):=a0a;let s1:Sm G (put G d (.dK [])):=Sm.new hd;generalize put G d (.dK [])=G1 at gd s1 ⊢;let sh1:=sh.keep (Sm.ks s1);let(dx1,n1,d1,ob1):=a1S sh1;lk;show(p,dx1,_,rfl,ob1,a0J (by decide +kernel) (by decide +kernel) (by decide +kernel),?_);lk;show(p,S,T',f,rfl,sh1,?_);lk;show(p,dx1,_,rfl,ob1,a0J (by decide +kernel) (by decide +kernel) (by decide +kernel),?_);lk;show(cp,p,S,T',f,rfl,sh1,?_);lk;show(f,_,rfl,(by cbv,by cbv,by cbv,by cbv),?_);rw[show ((T'.length:Int)+1-f).toNat=T'.length+1-f by cbv];show a1e (λi σ G'=>Ex4 λ(v2 v3:Option Z) (kvs:List (Key×Z)) (us:List Str)=>a7L kvs us/\us.Nodup/\(∀s,s∈us↔∃j,j<i/\NE (T'.take (f+j)) s)/\Sm G G'/\G' d=bN (.dK kvs)/\σ=[bN (.ref p),bN (.ref d),v2,v3]) (_,_,[],[],rfl,.nil,λs=>by simp,s1,gd,rfl) (λ_ _ _ _ _=>True.intro) ?_ ?_
 .ext i z σ G2 hz ⟨v2,v3,kvs,us,k1,k2,k3,s2,gd2,rfl⟩;let(hi,rfl):=a1F hz;rw[show (f:Int)+(i:Int)=((f+i:Nat):Int) by cbv];let sh2:=sh.keep (Sm.ks s2);let(dx2,n2,d2,ob2):=a1S sh2;show(_,rfl,?_);lk;show(p,dx2,_,rfl,ob2,a0J (by decide +kernel) (by decide +kernel) (by decide +kernel),?_);lk;show(p,S,T',f,((f+i:Nat):Int),rfl,sh2,few,by cbv,by cbv,λff ts G3 hff s3 gf ka tl3=>?_);rw[Int.toNat_natCast]at ka;let gd3:=s3 _ _ gd2;let nfd:ff≠d:=Ne.symm (a0x gd2 hff);let s03:=s2.trans s3;lk;show a1i gf ?_;show a1e (λj σ G'=>∃(v3:Option Z)(kvs:List (Key×Z))(us':List Str),a7L kvs us'/\us'.Nodup/\(∀s,s∈us'↔s∈us\/s∈ts.take j)/\Sm G G'/\G' d=bN (.dK kvs)/\G' ff=bN (.lst (ts.map Z.str))/\σ=[bN (.ref p),bN (.ref d),bN (.int ((f+i:Nat):Int)),v3]) (_,kvs,us,k1,k2,λs=>by simp,s03,gd3,gf,rfl) (by ext j σ G' _ ⟨_,_,_,_,_,_,_,_,g,_⟩;show g) ?_ ?_
  .ext j y σ G4 hy ⟨v3,kvs,us',k1,k2,k4,s4,gd4,gf4,rfl⟩;rw[aU]at hy;cases hy':ts[j]? with
   |none=>rw[hy']at hy;cases hy
   |some s=>
   rw[hy']at hy;cases hy;let lus:us'.length<=63:=small (P:=λ_=>True) k2 λs hs=>by
    let h||h:=(k4 s).mp hs
    .let(q,_,hq):=(k3 s).mp h;show(_,hq)
    .show(_,(ka.is s).mp (cw h))
   let lk:kvs.length=us'.length:=by let:=congrArg bz k1;o_head this
   show(_,rfl,?_);lk;show b2d gd4 rfl (a0q (by cbv)) ?_;let(ms,m1,m2,m4):=a94 k1 k2 s (.bl cp);show(_,_,ms,m1,m2,λu=>?_,s4.put hd,a0a,by rw[a0h nfd];show gf4,rfl);rw[m4,k4,take_snoc hy',aO,aR,or_assoc]
  .ext σ G4 ⟨v3,kvs,us',k1,k2,k4,s4,gd4,gf4,rfl⟩;rw[aM,bY]at k4;lk;show(_,_,kvs,us',k1,k2,λs=>?_,s4,gd4,rfl);rw[k4,k3,ka.is]
   constructor
   .ext (⟨q,h1,h2⟩ |h)
    .show(q,by cbv,h2)
    .show(i,by cbv,h)
   .ext⟨q,h1,h2⟩
    by_cases c:q=i
    .subst c;show .inr h2
    .show .inl (q,by cbv,h2)
 .ext σ G2 ⟨v2,v3,kvs,us,k1,k2,k3,s2,gd2,rfl⟩;rw[a0V]at k3;let k5:∀s,s∈us↔∃i,f+i<=T'.length/\NE (T'.take (f+i)) s:=λs=>by
   rw[k3];show(λ(j,h1,h2)=>(j,by cbv,h2),λ(j,h1,h2)=>(j,by cbv,h2))
  let lus:=small (P:=λ_=>True) k2 λs hs=>let (i,_,h):=(k5 s).mp hs;(_,h)
  lk;show a3Z gd2 k1 (by cbv) λt ts ht hp so=>?_;show fin t ts _ (s2.free ht) (s2.trans (Sm.new ht)) a0a so (hp.nodup_iff.mpr k2) (λs=>by rw[hp.mem_iff,k5]) (by rw[hp.length_eq];show lus)
theorem b2B{line:Int->List Rw}{f:Int}:∀{n:Nat},(∀i:Nat,i<n->line (f+i)=[])->gT line f n=[]
 |0,_=>rfl
 |n+1,h=>by
  let ih:=b2B (line:=line) (f:=f) (n:=n) λi hi=>h i (by cbv)
  change tOn (gT line f n) (line (f+n)) (f+n)=[]
  rw[ih,h n (by cbv)];rfl
structure GtB (K:List Ti) (n:Nat):Prop where
 nm:NmT K
 ln:K.length<=400*n
 nd:(stR K).Nodup
 st:(stR K).length<=400
theorem b7i{T:List Tl}{k:Str}{es:List (Int×List Rw)}(h:TsV T k es)(hT:T.length<=200){f:Nat}:∀n:Nat,GtB (gT (a0k es) f n) n
 |0=>(λt ht=>by simp[gT]at ht,bo _,.nil,bo _)
 |n+1=>by
  let ih:=b7i h hT (f:=f) n;let il:=h.line (f+n);let ll:=il.len;rw[bj]at ll;rw[show ((f+n:Nat):Int)=(f:Int)+(n:Int) by cbv]at il ll;let pm:(stR (gT (a0k es) f (n+1))).Perm (a0k es ((f:Int)+n)):=by
   change (stR (tOn _ _ _)).Perm _
   rw[b63];show a9P ih.nd (a1p il.can)
  show(λt ht=>?_,?_,pm.nodup_iff.mpr (a1p il.can),by rw[pm.length_eq];cbv)
  .let ht:t∈tOn (gT (a0k es) f n) (a0k es ((f:Int)+n)) ((f:Int)+n):=ht;let ht||ht:=aO.mp ht
   .let(t0,h0,rfl):=aQ.mp ht;rw[a6d];show ih.nm t0 h0
   .let(r,hr,rfl):=aQ.mp ht;show a1w il (bC.mp hr).1
  .change (tOn _ _ _).length<=_
   let:=b2q (ts:=gT (a0k es) f n) (L:=a0k es ((f:Int)+n)) (n:=(f:Int)+n)
   let:=ih.ln
   cbv
def Sheet.tk{a:Ad}{b:Bool}{G:Hq}{p:Addr}{S:Addr->Prop}{T:List Tl}{f:Int}(h:Sheet a b G p S T f)(k:Str):∃K,TK1 T f k K:=by
 let(_,_,_,m):=h;cases m.hs k with
 |no n t=>show(_,t)
 |at_ h K v s g t ne=>show(_,t)
def a2o(a:Ad):P3:=λws G R=>Ex5 λ(p:Addr) (S:Addr->Prop) (T:List Tl) (f:Nat) (k:Str)=>ws=[.ref p,.str k]/\Sheet a cp G p S T f/\Few T/\nmOk k/\∀t K G',G t=ce->Sm G G'->TK1 T f k K->G' t=bN (.lst (K.map (Ti.z k)))->R (.ref t) G'
set_option tactic.hygienic true in
def a2p(T:Txt K mg base a):Cal P w K mg base CX0 5 "tiles_of_key" (lowP K (a2o a)):=by
 show fnc 2 (N:=["sheet","key","tiles","knowing"]) T.br (T.f 18 _ rfl) ?_;walk_at "in";show(_,(a0d (by ac_rfl)
  (a0d (a4i (pt:=(.nm 3)) gy.never rfl (a2g rfl (T.b 9) (q_k (q_m0 (qv 0) (clK T cp) (a02 T) hr) (q_k (q_op a5T (q_m0 (qv 0) (clK T cp) (a0w T cp) hr) a3v) a0z))) (p_nm (nmI 3 nd))
  (a0y (z_st (nmI 2 nd) (q_c (a1d T) hr (q_k (qv 2) (q_k (qv 1) (q_k (q_m (qv 0) (clK T cp) (a2H T) hr (q_k (qv 1) (q_k (qv 3) a0z)) ) (q_k (qv 3) a0z)))) ))))
  (by ac_rfl))),?_)
 let(p,S,T',f,k,rfl,sh,few,hk,fin):=h;let hT:=few.1;let hf:(f:Int)<=T'.length:=let (_,_,_,m):=sh;m.f1
 let(K0,tk0):=sh.tk k;let(es,tv,sl):=tk0.ex;lk;show(lenK rfl,λt0 ht0=>?_);let g0:put G t0 (.lst []) t0=bN (.lst ((gT (a0k es) f 0).map (Ti.z k))):=a0a;let s1:Sm G (put G t0 (.lst [])):=Sm.new ht0;generalize put G t0 (.lst [])=G1 at g0 s1 ⊢;let sh1:=sh.keep (Sm.ks s1);let(dx1,n1,d1,ob1):=a1S sh1;lk;show(p,dx1,_,rfl,ob1,a0J (by decide +kernel) (by decide +kernel) (by decide +kernel),?_);lk;show(p,S,T',f,rfl,sh1,?_);lk;show(p,dx1,_,rfl,ob1,a0J (by decide +kernel) (by decide +kernel) (by decide +kernel),?_);lk;show(cp,p,S,T',f,rfl,sh1,?_);lk;show(f,_,rfl,(by cbv,by cbv,by cbv,by cbv),?_);rw[show ((T'.length:Int)+1-f).toNat=T'.length-f+1 by cbv];show a1e (λi σ G'=>∃(v3:Option Z)(t:Addr),G t=ce/\Sm G G'/\G' t=bN (.lst ((gT (a0k es) f i).map (Ti.z k)))/\σ=[bN (.ref p),bN (.str k),bN (.ref t),v3]) (_,t0,ht0,s1,g0,rfl) (λ_ _ _ _ _=>True.intro) ?_ ?_
 .ext i z σ G2 hz ⟨v3,t,ht,s2,gt,rfl⟩;let(hi,rfl):=a1F hz;let sh2:=sh.keep (Sm.ks s2);let(dx2,n2,d2,ob2):=a1S sh2;show(_,rfl,?_);lk;show(p,dx2,_,rfl,ob2,a0J (by decide +kernel) (by decide +kernel) (by decide +kernel),?_);lk;show(p,S,T',f,k,_,rfl,sh2,hk,hT,by cbv,by cbv,λl L G3 hl s3 gl il=>?_);rw[show ((f:Int)+(i:Int)).toNat=f+i by cbv]at il;let eL:=il.uniq (tv.line (f+i));rw[show ((f+i:Nat):Int)=(f:Int)+(i:Int) by cbv]at eL;subst eL;let ll:=il.len;rw[bj]at ll;let bd:=b7i tv hT (f:=f) i;let b1:=bd.ln;let b2:=bd.st;lk;show(t,l,k,gT (a0k es) f i,_,_,rfl,s3 _ _ gt,gl,bd.nm,λr hr=>a1w il hr,by cbv,by cbv,by cbv,λt2 G4 ht2 s4 gt2=>?_);show(_,rfl,_,t2,(s2.trans s3).free ht2,(s2.trans s3).trans s4,gt2,rfl)
 .ext σ G2 ⟨v3,t,ht,s2,gt,rfl⟩;rw[a0V]at gt;lk;show fin t _ G2 ht s2 (es,tv,a92 tv (by cbv)) gt
def a4L(a:Ad):P3:=λws G R=>Ex4 λ(p:Addr) (S:Addr->Prop) (T:List Tl) (f:Nat)=>ws=[.ref p]/\Sheet a cp G p S T f/\Few T/\OkT T/\T.length<=63/\∀t us G',G t=ce->Sm G G'->Evr T f us->G' t=bN (.lst (tzK us (KOf T f)))->R (.ref t) G'
set_option tactic.hygienic true in
def a4M(T:Txt K mg base a):Cal P w K mg base CX0 6 "tiles_of" (lowP K (a4L a)):=by
 show fnc 1 (N:=["sheet","told","key"]) T.br (T.f 19 _ rfl) ?_;walk_at "in";show(_,(by ac_rfl),?_);let(p,S,T',f,rfl,sh,few,ok,hT6,fin):=h;let hT:=few.1;lk;show(lenK rfl,λW hW=>?_);let gW:put G W (.lst []) W=bN (.lst []):=a0a;let s1:Sm G (put G W (.lst [])):=Sm.new hW;generalize put G W (.lst [])=G1 at gW s1 ⊢;lk;show(p,S,T',f,rfl,sh.keep (Sm.ks s1),few,λt us G2 ht s2 gt so nd is lus=>?_);let nWt:t≠W:=Ne.symm (a0x gW ht);let s02:=s1.trans s2;let nmu:∀s∈us,nmOk s:=λs hs=>by
  let(q,_,hq):=(is s).mp hs;let(τ,h1,h2):=hq.mem;rw[<- h2];show (ok τ h1).k
 let ev:Evr T' f us:=by
  show(so,nd,λs hs=>?_,λs=>?_,nmu,lus)
  .let(K,tk):=sh.tk s;let(es,tv,sl):=tk.ex;let hf:(f:Int)<=T'.length:=let (_,_,_,m):=sh;m.f1
   let e:=a2b ((es,tv,a92 tv (q:=f) (m:=T'.length-f) (by cbv)):TK1 T' f s _);rw[e];show b2B λi hi=>Classical.byContradiction λc=>hs ((is s).mpr (i,by cbv,a0k es ((f+i:Nat):Int),tv.line (f+i),?_));rw[show ((f+i:Nat):Int)=(f:Int)+(i:Int) by cbv];show c
  .let(K,tk):=sh.tk s;rw[a2b tk];show tk
 lk;show a1i gt ?_;show a1e (λi σ G'=>∃(v2:Option Z),Sm G G'/\G' t=bN (.lst (us.map Z.str))/\G' W=bN (.lst (tzK (us.take i) (KOf T' f)))/\σ=[bN (.ref p),bN (.ref W),v2]) (_,s02,gt,s2 _ _ gW,rfl) (by ext i σ G' _ ⟨_,_,g,_⟩;show g) ?_ ?_
 .ext i x σ G3 hx ⟨v2,s3,gt3,gW3,rfl⟩;rw[aU]at hx;cases hx':us[i]? with
  |none=>rw[hx']at hx;cases hx
  |some s=>
  rw[hx']at hx;cases hx;show(_,rfl,?_);lk;show a2z gW3 ?_;lk;show(p,S,T',f,s,rfl,sh.keep (Sm.ks s3),few,nmu s (bp hx'),λt4 K G4 ht4 s4 tk gt4=>?_);lk;let l1:=ev.len hT6 (i+1);rw[take_snoc hx',a4K,aW,a2b tk]at l1;show a6z (s4 _ _ gW3) gt4 (be l1 (by decide)) ?_;show(_,(s3.trans s4).put hW,by rw[a0h nWt];show s4 _ _ gt3,?_,rfl);rw[a0a,take_snoc hx',a4K,a2b tk]
 .ext σ G3 ⟨v2,s3,gt3,gW3,rfl⟩;rw[aM,bY]at gW3;lk;show fin W us G3 hW s3 ev gW3
def b7j:P3:=λws G R=>∃c k:Int,ws=[.int c,.int k]/\0<=k/\k<=1000/\∀i:Int,0<=i->i<268435449->R (.int i) G
set_option tactic.hygienic true in
def b7k(T:Txt K mg base a):Cal P w K mg base CX0 1 "_law_mix" (lowP K b7j):=by
 show fnc 2 (N:=["cell","k","one"]) T.br (T.f 22 _ rfl) ?_;walk_at "in";show(_,(by ac_rfl),?_);let(c,k,rfl,k0,k1,q):=h;lk;show i_I (.inl (by decide,by decide)) ?_;lk;show i_I (show (0:Int)<2147483647 by decide) ?_;lk;generalize ho:(c+104729*(k+1)) % 2147483647=o;let o0:0<=o/\o<2147483647:=by rw[<- ho];show(bZ _ (by decide),b8 _ (by decide))
 show i_I (.inl (by cbv,by cbv)) ?_;lk;show i_I (show (0:Int)<2147483629 by decide) ?_;lk;generalize ho2:o*o % 2147483629=o2;let o20:0<=o2/\o2<2147483629:=by rw[<- ho2];show(bZ _ (by decide),b8 _ (by decide))
 show i_I (.inl (by cbv,by cbv)) ?_;lk;show i_I (show (0:Int)<2147483587 by decide) ?_;lk;show i_I (by decide,by decide) ?_;let e:∀x:Int,0<=x % 2147483587/\x % 2147483587<2147483587:=λx=>(bZ _ (by decide),b8 _ (by decide))
 let:=e (o2*(o2+7919+k))
 show q _ (by cbv) (by cbv)
def Bnd(xs bs:List Int):Prop:=xs.length=bs.length/\∀(i:Nat) x b,xs[i]?=bN x->bs[i]?=bN b->0<=x/\x<b
def Bnd.at(h:Bnd xs bs){i:Nat}(e:bs[i]?=bN b):∃x,xs[i]?=bN x/\0<=x/\x<b:=by
 let c:=(bh.mp e).1;let a:i<xs.length:=by rw[h.1];show c
 show(xs[i],bf a,h.2 i _ b (bf a) e)
def a0s{xs:List Int}{i:Nat}(e:xs[i]?=bN x):atI (xs.map Z.int) (i:Int)=bN (.int x):=a1A (by simp_all)
def b1H:P3:=λws G R=>Ex4 λ(c w:Int) (p:Addr) (bs:List Int)=>ws=[.int c,.int w,.ref p]/\G p=bN (.lst (bs.map Z.int))/\bs.length<=20/\(∀b∈bs,0<b/\b<2 ^ 60) /\
 ∀t xs,G t=ce->Bnd xs bs->R (.ref t) (put G t (.lst (xs.map Z.int)))
set_option tactic.hygienic true in
def a66(T:Txt K mg base a):Cal P w K mg base CX0 2 "_law_parts" (lowP K b1H):=by
 show fnc 3 (N:=["cell","way","bounds","found","k"]) T.br (T.f 23 _ rfl) ?_;walk_at "in";show(_,(by ac_rfl),?_);let(c,w,p,bs,rfl,hp,hl,hb,q):=h;lk;show(lenK rfl,λt ht=>?_);lk;show a3U (a0e hp ht) ?_;lk;rw[aM];show(by cbv,by cbv,?_);rw[show ((bs.length:Int)).toNat=bs.length by cbv];show a1e (λi σ G'=>∃(c:Int)(xs:List Int)(v:Option Z),xs.length=i/\(∀(j:Nat) x b,xs[j]?=bN x->bs[j]?=bN b->0<=x/\x<b)/\σ=[bN (.int c),bN (.int w),bN (.ref p),bN (.ref t),v]/\G'=put G t (.lst (xs.map Z.int))) (c,[],_,rfl,λj x b h=>by simp at h,rfl,rfl) (λ_ _ _ _ _=>True.intro) ?_ ?_
 .ext i x σ G' hx ⟨c,xs,v,hxs,hall,rfl,rfl⟩;let(hi,rfl):=a1F hx;rw[Int.zero_add];let hbi:bs[i]?=bN bs[i]:=bf hi;let hbb:=hb _ (cL hi);generalize bs[i]=b at hbi hbb;let hbm:=a0s hbi;let hp':=a0e (o:=.lst (xs.map Z.int)) hp ht;let fin:∀(c' x:Int)(w':Option Z),0<=x->x<b->∃(c:Int)(xs':List Int)(v:Option Z),xs'.length=i+1/\(∀(j:Nat) x b,xs'[j]?=bN x->bs[j]?=bN b->0<=x/\x<b)/\([bN (.int c'),bN (.int w),bN (.ref p),bN (.ref t),w']:S3)=[bN (.int c),bN (.int w),bN (.ref p),bN (.ref t),v]/\put (put G t (.lst (xs.map Z.int))) t (.lst (xs.map Z.int++[.int x]))=put G t (.lst (xs'.map Z.int)):=λc' x w' x0 x1=>by
   show(c',xs++[x],w',by simp;show hxs,λj y b' e1 e2=>?_,rfl,by rw[a0Z,aY];rfl)
   by_cases hj:j<xs.length
   .rw[cG hj]at e1;show hall j y b' e1 e2
   .let hjl:=(bh.mp e1).1
    let:j=xs.length:=by simp at hjl;cbv
    subst this;rw[cS (aN _),Nat.sub_self]at e1;cases e1;rw[hxs,hbi]at e2;cases e2;show(x0,x1)
  show(_,rfl,?_);lk;show ifD (λ_=>?_) λ_=>?_
  .lk;show a2z a0a ?_;lk;show a0B hp' hbm ?_;lk;show i_I hbb.1 ?_;lk;show a09 a0a (by rw[aM];show a0q (by cbv)) ?_;let hne:p≠t:=a0x hp ht;lk;show a0B (by rw[a0h hne,a0h hne];show hp) hbm ?_;lk;show i_I (hbb.1,by cbv) ?_;lk;show fin _ _ _ (bZ _ (by cbv)) (b8 _ hbb.1)
  .lk;show a2z a0a ?_;lk;show(c,(i:Int),rfl,by cbv,by cbv,λm m0 m1=>?_);lk;show i_I (.inl (by cbv,by cbv)) ?_;lk;show a0B hp' hbm ?_;lk;show i_I hbb.1 ?_;lk;show a09 a0a (by rw[aM];show a0q (by cbv)) ?_;show fin _ _ _ (bZ _ (by cbv)) (b8 _ hbb.1)
 .ext σ G' ⟨c,xs,v,hxs,hall,rfl,rfl⟩;rw[a0V]at hxs;lk;show q t xs ht (hxs,hall)
abbrev LET:Str:=Str.ofString "etaoinshrdlucmfwypvbgkjqxz"
def a2U:LET.cps.toList=[101,116,97,111,105,110,115,104,114,100,108,117,99,109,102,119,121,112,118,98,103,107,106,113,120,122]:=by decide +kernel
def b2C(h0:0<=k)(h1:k<26):∃c,atI LET.cps.toList k=bN c/\isL c:=by
 let(j,rfl):=cO h0;let a:j<26:=by cbv
 let:∀j:Fin 26,∃c,([101,116,97,111,105,110,115,104,114,100,108,117,99,109,102,119,121,112,118,98,103,107,106,113,120,122])[j.1]?=bN c/\97<=c/\c<=122:=by decide
 let(c,e,h):=this (j,a);show(c,a1A (by rw[a2U];show e),h)
def a2V(a b:Str):(a++b).cps.toList=a.cps.toList++b.cps.toList:=by
 change (a.cps++b.cps).toList=_
 rw[Array.toList_append]
def b7l{p:Nat}(h:p<=s.cps.toList.length):(Txt.slice s ce (bN (p:Int))).cps.toList=s.cps.toList.take p:=by
 let:=eq_of_beq (PyProof.Rows.slice_closes_to (x:=s) (j:=p) (by lia,by lia))
 rw[this];simp
def a95{p:Nat}(h:p<=s.cps.toList.length):(Txt.slice s (bN (p:Int)) ce).cps.toList=s.cps.toList.drop p:=by
 let:=PyProof.Rows.slice_from_eq (x:=s) (i:=p) (by simp) (by rw[a2C];lia) rfl
 rw[this,a2C,ca (by simp)];simp
def letN(s:Str)(n:Nat):Prop:=s.cps.toList.length=n/\∀c∈s.cps.toList,isL c
def letN.nm(h:letN s n)(h1:1<=n)(h8:n<=8):nmOk s:=(by rw[h.1];show h1,by rw[h.1];show h8,h.2)
def letN.sz(h:letN s n)(h8:n<=100):s.length<=sizeLine:=a10 (by rw[a2C,h.1];cbv)
def letN.one(h:isL c):letN ⟨#[c]⟩ 1:=(rfl,λx a=>by
 let:x=c:=↑a
 rw[this];show h)
def letN.add{a b:Str}{n m:Nat}(h:letN a n)(g:letN b m):letN (a++b) (n+m):=(by rw[a2V,aW,h.1,g.1],λc hc=>by
 rw[a2V]at hc;let hc||hc:=aO.mp hc
 .show h.2 c hc
 .show g.2 c hc)
def letN.to(h:letN s n)(hp:p<=n):letN (Txt.slice s ce (bN (p:Int))) p:=(by rw[b7l (by rw[h.1];show hp),bj,h.1];cbv,λc a=>by
 rw[b7l (by rw[h.1];show hp)]at a;show h.2 c (cw a))
def letN.from(h:letN s n)(hp:p<=n):letN (Txt.slice s (bN (p:Int)) ce) (n-p):=(by rw[a95 (by rw[h.1];show hp),bT,h.1],λc a=>by
 rw[a95 (by rw[h.1];show hp)]at a;show h.2 c (dB a))
theorem a33:∀(ys:List Str),(∀s∈ys,letN s 1)->letN (Str.join (Str.ofString "") ys) ys.length
 |[],_=>(by decide +kernel,λc a=>by rw[show (Str.join _ []).cps.toList=[] by decide +kernel]at a;simp at a)
 |[s],h=>h s (.head _)
 |s::t::r,h=>by
  let b:=a33 _ λu d=>h u (.tail _ d);let e:letN (Str.ofString "") 0:=(by decide +kernel,λc a=>by rw[show (Str.ofString "").cps.toList=[] by decide +kernel]at a;simp at a)
  let:=((h s (.head _)).add e).add b
  rw[show 1+0+(t::r).length=(s::t::r).length by simp;cbv]at this;show this
def a96(ys:List Str)(h:∀s∈ys,letN s 1):letN (Txt.join (Str.ofString "") ys) ys.length:=by
 let e:Txt.join _ ys=Str.join (Str.ofString "") ys:=StrLaws.glued_eq_join _ _;rw[e];show a33 ys h
theorem a67:∀(ys:List Str),(∀s∈ys,letN s 1)->(ys.map (·.length)).sum=ys.length
 |[],_=>rfl
 |s::r,h=>by
  rw[aV,List.sum_cons,a67 r λu a=>h u (.tail _ a),aS,a2C,(h s (.head _)).1];cbv
def b7m:∀i:Nat,i<8->([8,8,26,26,26,26,26,26,26,26,26,2]:List Int)[3+i]?=bN 26:=by decide
def a4N{α:Type}{P:α->Prop}{l:List α}{x:α}(h:∀s∈l,P s)(hx:P x):∀s∈l++[x],P s:=λs a=>by
 let a||a:=aO.mp a
 .show h s a
 .simp_all
def b4x(h0:0<=k)(h1:k<26)(h0':0<=k')(h1':k'<26)(e:atI LET.cps.toList k=bN c)(e':atI LET.cps.toList k'=bN c):k=k':=by
 let(j,rfl):=cO h0;let(f,rfl):=cO h0';let d:∀i:Nat,i<26->atI LET.cps.toList i=LET.cps.toList[i]?:=λi l=>by
  obtain⟨x,g⟩:∃x,LET.cps.toList[i]?=bN x:=(_,bf (by rw[a2U];show l));rw[g];show a1A g
 rw[d j (by cbv),a2U]at e;rw[d f (by cbv),a2U]at e';let h:∀a b:Fin 26,([101,116,97,111,105,110,115,104,114,100,108,117,99,109,102,119,121,112,118,98,103,107,106,113,120,122])[a.1]?=([101,116,97,111,105,110,115,104,114,100,108,117,99,109,102,119,121,112,118,98,103,107,106,113,120,122])[b.1]?->a=b:=by decide +kernel
 let:=h (j,by cbv) (f,by cbv) (e.trans e'.symm)
 let:j=f:=congrArg Fin.val this
 cbv
def b4y(h:ns.Nodup)(hl:∀u∈ns,letN u m)(hs:letN s l)(ne:l≠m)(hn:ns≠[]):(ns.set (ns.length-1) s).Nodup:=by
 obtain⟨x,d⟩:∃x,ns.getLast?=bN x:=(_,List.getLast?_eq_some_getLast hn);rw[a6Y d,cc];show(h.sublist (List.dropLast_sublist _),by simp,λa c b e z=>ne ?_);rw[aR.mp e]at z
 let:=(hl a (ej _ c)).1
 rw[z,hs.1]at this;show this
def b1I:P3:=λws G R=>∃(c w n:Int),ws=[.int c,.int w,.int n]/\1<=n/\n<=22/\∀(t:Addr)(ns:List Str)(G':Hq),G t=ce->G' t=bN (.lst (ns.map Z.str))->(ns.length:Int)=n->(∀s∈ns,nmOk s)->ns.Nodup->Sm G G'->R (.ref t) G'
abbrev B12:List Int:=[8,8,26,26,26,26,26,26,26,26,26,2]
set_option tactic.hygienic true in
def b1J(T:Txt K mg base a):Cal P w K mg base CX0 3 "_law_names" (lowP K b1I):=by
 show fnc 3 (N:=["cell","way","many","letters","xs","stem","at","found"]) T.br (T.f 24 _ rfl) ?_;walk_at "in";show(_,(a0d (by ac_rfl)
  (a0d (z_st (nmI 4 nd) (q_c (a66 T) hr (q_k (qv 0) (q_k (qv 1) (q_k (q_op a5T (q_op a5T (by ac_rfl) (q_op b8L (by ac_rfl) a3v)) (by ac_rfl)) a0z))) ))
  (a0d (z_st (nmI 5 nd) (q_bm PySem.F.plainAttrs_str PySem.F.slot_str_join PySem.F.type_str_join b10 b5z (q_k (q_l ["k","letters","xs"] [ce,bN 3,bN 4] (.nm 0)) a0z)))
  (a0d (by ac_rfl)
  (a0d (z_l (nmI 7 nd) ["k","stem","letters","at","xs"] [ce,bN 5,bN 3,bN 6,bN 4] (.nm 0))
  (b0E (z_if (by ac_rfl)
  (a0y (a42 (by ac_rfl) (qv 7) (by ac_rfl) b3w))
  (a0y (z_if (by ac_rfl)
  (a0y (a42 (by ac_rfl) (qv 7) (by ac_rfl) b3w))
  a24)))
  (by ac_rfl))))))),?_)
 let(c,w,n,rfl,n1,n2,q):=h;lk;show(lenK rfl,λa1 h1=>?_);lk;show(lenK rfl,λa2 h2=>?_);lk;show b8M a0a (by decide) (by decide) (lenK rfl) λa3 h3=>?_;lk;show a8U (a0e (a0e a0a h2) h3) a0a (lenK rfl) λa4 h4=>?_;lk;show(lenK rfl,λa5 h5=>?_);lk;show a8U (a0e a0a h5) a0a (lenK rfl) λa6 h6=>?_;let s6:=(((((Sm.new (o:=.lst [.int 8,.int 8,.int 26]) h1).trans (Sm.new (o:=.lst [.int 26]) h2)).trans (Sm.new (o:=.lst (bg (8:Int).toNat [Z.int 26]).flatten) h3)).trans (Sm.new (o:=.lst ([.int 8,.int 8,.int 26]++(bg (8:Int).toNat [Z.int 26]).flatten)) h4)).trans (Sm.new (o:=.lst [.int 2]) h5)).trans (Sm.new (o:=.lst ([.int 8,.int 8,.int 26]++(bg (8:Int).toNat [Z.int 26]).flatten++[.int 2])) h6);lk;show(c,w,a6,B12,rfl,a0a,by decide,by decide,λt xs ht hB=>?_);let s7:=s6.trans (Sm.new (o:=.lst (xs.map Z.int)) ht);let gx:put (put (put (put (put (put (put G a1 (.lst [.int 8,.int 8,.int 26])) a2 (.lst [.int 26])) a3 (.lst (bg (8:Int).toNat [Z.int 26]).flatten)) a4 (.lst ([.int 8,.int 8,.int 26]++(bg (8:Int).toNat [Z.int 26]).flatten))) a5 (.lst [.int 2])) a6 (.lst ([.int 8,.int 8,.int 26]++(bg (8:Int).toNat [Z.int 26]).flatten++[.int 2]))) t (.lst (xs.map Z.int)) t=bN (.lst (xs.map Z.int)):=a0a;generalize put (put (put (put (put (put (put G a1 (.lst [.int 8,.int 8,.int 26])) a2 (.lst [.int 26])) a3 (.lst (bg (8:Int).toNat [Z.int 26]).flatten)) a4 (.lst ([.int 8,.int 8,.int 26]++(bg (8:Int).toNat [Z.int 26]).flatten))) a5 (.lst [.int 2])) a6 (.lst ([.int 8,.int 8,.int 26]++(bg (8:Int).toNat [Z.int 26]).flatten++[.int 2]))) t (.lst (xs.map Z.int))=G7 at s7 gx ⊢;clear s6 ht h6 h5 h4 h3 h2 h1;let(x0,e0,x00,x01):=hB.at (i:=0) (b:=8) rfl;let(x1,e1,x10,x11):=hB.at (i:=1) (b:=8) rfl;let(x2,e2,x20,x21):=hB.at (i:=2) (b:=26) rfl;let(x9,e9,x90,x91):=hB.at (i:=11) (b:=2) rfl;lk;show a0B gx (a0s e0) ?_;lk;show(by cbv,by cbv,?_);ext D hD;obtain⟨m,hm⟩:∃m:Nat,(1+x0).toNat=m:=(_,rfl);let hm1:1<=m:=by cbv
 let hm8:m<=8:=by cbv
 rw[hm];show a7m (λi ys G'=>∃ss:List Str,ys=ss.map Z.str/\ss.length=i/\(∀s∈ss,letN s 1)/\G'=put G7 D (.lst (ss.map Z.str))) ([],rfl,rfl,λs h=>by simp at h,rfl) (λ_ _ _ _ _=>True.intro) ?_ ?_
 .ext i x ys G' hx ⟨ss,rfl,hl,hall,rfl⟩;let(hi,rfl):=a1F hx;let(y,ey,y0,y1):=hB.at (b7m i (by cbv));let(ch,ech,hch):=b2C y0 y1;show(_,rfl,?_);lk;show a0B (a0e gx hD) (by rw[show (3:Int)+(0+(i:Int))=((3+i:Nat):Int) by cbv];show a0s ey) ?_;lk;show b3B (lenK rfl) ech ?_;show(a0a,by rw[aM];show a0q (by cbv),ss++[⟨#[ch]⟩],by rw[aY];rfl,by simp;show hl,a4N hall (letN.one hch),?_);rw[a0Z,aY];rfl
 .ext ys G' ⟨ss,rfl,hl,hall,rfl⟩;rw[a0V]at hl;let hstem:=a96 ss hall;rw[hl]at hstem;lk;show b6k a0a (by rw[a67 ss hall,hl,show (Str.ofString "").length=0 by decide +kernel];cbv) ?_;let gx8:=a0e (o:=.lst (ss.map Z.str)) gx hD;let s8:=s7.trans (Sm.new (o:=.lst (ss.map Z.str)) hD);generalize put G7 D (.lst (ss.map Z.str))=G8 at gx8 s8 ⊢;generalize Txt.join (Str.ofString "") ss=stem at hstem ⊢;let hls:stem.length=m:=by rw[a2C,hstem.1]
  lk;show a0B gx8 (a0s e1) ?_;lk;show a6y (hstem.sz (by cbv)) ?_;lk;rw[hls];show i_I (show (0:Int)<(m:Int) by cbv) ?_;lk;let hat:0<=x1 % (m:Int)/\x1 % (m:Int)<m:=(bZ _ (by cbv),b8 _ (by cbv));obtain⟨p,hp⟩:∃p:Nat,x1 % (m:Int)=(p:Int):=((x1 % (m:Int)).toNat,by cbv);rw[hp]at hat ⊢;show(by cbv,by cbv,?_);ext F hF;show a7m (λi ys G'=>∃ns:List Str,ys=ns.map Z.str/\ns.length=i/\(∀s∈ns,letN s m)/\ns.Nodup/\(∀s∈ns,∃(j c:Nat),j<i/\atI LET.cps.toList ((x2+(0+(j:Int))) % 26)=bN c/\s.cps.toList=(Txt.slice stem ce (bN (p:Int))).cps.toList++[c]++(Txt.slice stem (bN ((p+1:Nat):Int)) ce).cps.toList)/\G'=put G8 F (.lst (ns.map Z.str))) ([],rfl,rfl,(λs h=>by simp at h),.nil,(λs h=>by simp at h),rfl) (λ_ _ _ _ _=>True.intro) ?_ ?_
  .ext i x ys G' hx ⟨ns,rfl,hnl,hnall,hnd,hns,rfl⟩;let(hi,rfl):=a1F hx;show(_,rfl,?_);lk;show b3C (hstem.sz (by cbv)) ?_;let l1:=hstem.to (p:=p) (by cbv);lk;show a0B (a0e gx8 hF) (a0s e2) ?_;lk;show i_I (show (0:Int)<26 by decide) ?_;lk;let(ch,ech,hch):=b2C (bZ (x2+(0+(i:Int))) (by decide:(26:Int)≠0)) (b8 _ (by decide));show b3B (lenK rfl) ech ?_;let l2:=l1.add (letN.one hch);show a8T (a10 (by rw[a2C,l1.1];change p+1<=1000;cbv)) ?_;lk;show b3C (hstem.sz (by cbv)) ?_;let l3:=hstem.from (p:=p+1) (by cbv);let l4:=l2.add l3;rw[show p+1+(m-(p+1))=m by cbv]at l4;rw[show ((p:Int)+1)=((p+1:Nat):Int) by cbv];show a8T (a10 (by rw[a2C,a2C,l2.1,l3.1];cbv)) ?_;let eN:(Txt.slice stem ce (bN (p:Int))++(⟨#[ch]⟩:Str)++Txt.slice stem (bN ((p+1:Nat):Int)) ce).cps.toList=(Txt.slice stem ce (bN (p:Int))).cps.toList++[ch]++(Txt.slice stem (bN ((p+1:Nat):Int)) ce).cps.toList:=by rw[a2V,a2V]
   let hin:i<22:=by cbv
   show(a0a,by rw[aM];show a0q (by cbv),_,by rw[aY];rfl,by simp;show hnl,a4N hnall l4,?_,?_,?_)
   .rw[cc];show(hnd,by simp,λu hu v hv z=>?_);rw[aR.mp hv]at z;let(j,c',hj,ec',es):=hns u hu;rw[z,eN]at es;let ecc:ch=c':=↑es
    subst ecc
    let:=b4x (bZ _ (by decide)) (b8 _ (by decide)) (bZ _ (by decide)) (b8 _ (by decide)) ech ec'
    cbv
   .show a4N (λs hs=>?_) (i,ch,by cbv,ech,eN);let(j,c',hj,r):=hns s hs;show(j,c',by cbv,r)
   rw[a0Z,aY];rfl
  .ext ys G' ⟨ns,rfl,hnl,hnall,hnd,_,rfl⟩;rw[a0V]at hnl;let s9:=s8.trans (Sm.new (o:=.lst (ns.map Z.str)) hF);let gx9:=a0e (o:=.lst (ns.map Z.str)) gx8 hF;let gF:put G8 F (.lst (ns.map Z.str)) F=bN (.lst (ns.map Z.str)):=a0a;let hFG:G F=ce:=s8.free hF;generalize put G8 F (.lst (ns.map Z.str))=G9 at s9 gx9 gF ⊢;let hnn:∀s∈ns,nmOk s:=λs hs=>(hnall s hs).nm hm1 hm8;obtain⟨a,as,ea⟩:∃a as,ns=a::as:=by cases ns with |nil=>simp at hnl;cbv |cons a as=>show(a,as,rfl)
   let ha:=hnall a (by rw[ea];simp);let hla:a.length=m:=by rw[a2C,ha.1]
   let at0a:atI (ns.map Z.str) 0=bN (.str a):=by rw[ea];show at0
   obtain⟨c0,cr,ec⟩:∃c0 cr,a.cps.toList=c0::cr:=by
    let:=ha.1
    cases h:a.cps.toList with
    |nil=>rw[h]at this;simp at this;cbv
    |cons c cr=>show(c,cr,rfl)
   let hc0:isL c0:=ha.2 c0 (by rw[ec];simp);let hix:ixN (ns.map Z.str).length (-1)=bN ((ns.map Z.str).length-1):=a59 (by rw[aM,ea];simp);let setok:∀s l,letN s l->l≠m->nmOk s->∃ns':List Str,(ns.map Z.str).set ((ns.map Z.str).length-1) (.str s)=ns'.map Z.str/\ns'.length=ns.length/\ns'.Nodup/\∀u∈ns',nmOk u:=λs l hsl ne hs=>by
    show(ns.set (ns.length-1) s,by rw[aM,List.map_set],by simp,b4y hnd hnall hsl ne (by rw[ea];simp),λu hu=>?_);let hu||hu:=List.mem_or_eq_of_mem_set hu
    .show hnn u hu
    .rw[hu];show hs
   lk;show b0M (fun σ' G'=>∃ns':List Str,ns'.length=ns.length/\(∀s∈ns',nmOk s)/\ns'.Nodup/\Sm G G'/\G' F=bN (.lst (ns'.map Z.str))/\σ'=[bN (.int c),bN (.int w),bN (.int n),bN (.str LET),bN (.ref t),bN (.str stem),bN (.int p),bN (.ref F)]) ?_ ?_
   .lk;show a0B gx9 (a0s e9) ?_;lk;show ifD (λc1=>?_) λc1=>?_
    .lk;show a6y (hstem.sz (by cbv)) ?_;lk;rw[hls];show ifD (λc2=>?_) λc2=>?_
     .lk;show a0B gF at0a ?_;lk;show a0B gF at0a ?_;lk;show b3B (ha.sz (by cbv)) (by rw[ec];show at0) ?_;show a8T (a10 (by rw[hla];change m+1<=1000;cbv)) ?_;lk;show b3D gF hix ?_;let(ns',en,hl',hnd',hok'):=setok _ _ (ha.add (letN.one hc0)) (by cbv) ((ha.add (letN.one hc0)).nm (by cbv) (by cbv));show(ns',hl',hok',hnd',s9.put hFG,by rw[a0a,en],rfl)
     .lk;show a0B gx9 (a0s e9) ?_;lk;show ifD (λ_=>?_) λz=>absurd c1 z;lk;show a0B gF at0a ?_;lk;show b3C (ha.sz (by cbv)) ?_;lk;show b3D gF hix ?_;let(ns',en,hl',hnd',hok'):=setok _ _ (ha.from (p:=1) (by cbv)) (by cbv) ((ha.from (p:=1) (by cbv)).nm (by cbv) (by cbv));show(ns',hl',hok',hnd',s9.put hFG,by rw[a0a];show congrArg _ (congrArg _ en),rfl)
    .lk;show a0B gx9 (a0s e9) ?_;lk;show ifD (λz=>absurd z c1) λ_=>?_;lk;show(hnn,hnd,s9,gF,rfl)
   .ext σ' G' ⟨ns',hl',hok',hnd',s10,gF',rfl⟩;lk;show q F ns' G' hFG gF' (by rw[hl',hnl];cbv) hok' hnd' s10
def a7M:(10:Int) ^ (12:Int).toNat=1000000000000:=by decide
def b2D{ns:List Str}(h:∀s∈ns,nmOk s)(h0:0<=k)(h1:k<(ns.length:Int)):∃s,atI (ns.map Z.str) k=bN (.str s)/\s∈ns/\nmOk s:=by
 let(j,rfl):=cO h0;let a:j<ns.length:=by lia
 show(ns[j],a1A (by simp_all),cL a,h _ (cL a))
def at3n{a b c:Int}{k:Int}(h0:0<=k)(h1:k<3){P:Int->Prop}(pa:P a)(pb:P b)(pc:P c):∃n,atI [Z.int a,.int b,.int c] k=bN (.int n)/\P n:=by
 let:k=0\/k=1\/k=2:=by cbv
 let rfl||rfl||rfl:=this
 .show(_,rfl,pa)
 .show(_,rfl,pb)
 .show(_,rfl,pc)
def at4n{a b c d:Int}{k:Int}(h0:0<=k)(h1:k<4){P:Int->Prop}(pa:P a)(pb:P b)(pc:P c)(pd:P d):∃n,atI [Z.int a,.int b,.int c,.int d] k=bN (.int n)/\P n:=by
 let:k=0\/k=1\/k=2\/k=3:=by cbv
 let rfl||rfl||rfl||rfl:=this
 .show(_,rfl,pa)
 .show(_,rfl,pb)
 .show(_,rfl,pc)
 .show(_,rfl,pd)
def a7N:P3:=λws G R=>Ex6 λ(c w:Int) (ks wsA:Addr) (kn wn:List Str)=>ws=[.int c,.int w,.ref ks,.ref wsA]/\G ks=bN (.lst (kn.map Z.str))/\G wsA=bN (.lst (wn.map Z.str))/\1<=kn.length/\kn.length<=20/\1<=wn.length/\wn.length<=20/\(∀s∈kn,nmOk s)/\(∀s∈wn,nmOk s) /\
 ∀τ G',Sm G G'->Tl.Ok τ->τ.key∈kn->R τ.z G'
set_option tactic.hygienic true in
def a7O(T:Txt K mg base a):Cal P w K mg base CX0 3 "_law_telling" (lowP K a7N):=by
 show fnc 4 (N:=["cell","way","keys","worths","xs","begin","end"]) T.br (T.f 25 _ rfl) ?_;walk_at "in";show(_,(a0d (by ac_rfl)
  (a0d (by ac_rfl)
  (a0d (by ac_rfl)
  (b0E (by ac_rfl)
  (by ac_rfl))))),?_)
 let(c,w,ks,wsA,kn,wn,rfl,hk,hw,kn1,kn2,wn1,wn2,hkn,hwn,q):=h;lk;show a3U hk ?_;lk;show a3U hw ?_;lk;show i_I (by decide,by decide,by decide) ?_;rw[a7M];lk;show i_I (by decide,by decide,by decide) ?_;rw[a7M];lk;show(lenK rfl,λa1 h1=>?_);lk;rw[aM,aM];show(c,w,a1,[4,(kn.length:Int),(wn.length:Int),24,5,40,8,1000000000000+1,1000000000000],rfl,a0a,by change 9<=20;decide,λb hb=>?_,λt xs ht hB=>?_)
 .simp only[aT,List.not_mem_nil,or_false]at hb;let rfl||rfl||rfl||rfl||rfl||rfl||rfl||rfl||rfl:=hb<;>cbv
 let s2:=(Sm.new (o:=.lst [.int 4,.int (kn.length:Int),.int (wn.length:Int),.int 24,.int 5,.int 40,.int 8,.int (1000000000000+1),.int 1000000000000]) h1).trans (Sm.new (o:=.lst (xs.map Z.int)) ht);let gx:put (put G a1 (.lst [.int 4,.int (kn.length:Int),.int (wn.length:Int),.int 24,.int 5,.int 40,.int 8,.int (1000000000000+1),.int 1000000000000])) t (.lst (xs.map Z.int)) t=bN (.lst (xs.map Z.int)):=a0a;generalize put (put G a1 (.lst [.int 4,.int (kn.length:Int),.int (wn.length:Int),.int 24,.int 5,.int 40,.int 8,.int (1000000000000+1),.int 1000000000000])) t (.lst (xs.map Z.int))=G2 at s2 gx ⊢;let(x0,e0,x00,x01):=hB.at (i:=0) rfl;let(x1,e1,x10,x11):=hB.at (i:=1) rfl;let(x2,e2,x20,x21):=hB.at (i:=2) rfl;let(x3,e3,x30,x31):=hB.at (i:=3) rfl;let(x4,e4,x40,x41):=hB.at (i:=4) rfl;let(x5,e5,x50,x51):=hB.at (i:=5) rfl;let(x6,e6,x60,x61):=hB.at (i:=6) rfl;let(x7,e7,x70,x71):=hB.at (i:=7) rfl;let(x8,e8,x80,x81):=hB.at (i:=8) rfl;lk;show a0B gx (a0s e7) ?_;lk;show i_I (by decide,by decide,by decide) ?_;rw[a7M];lk;show a0B gx (a0s e3) ?_;lk;show i_I (show (0:Int)<3 by decide) ?_;lk;show a0B gx (a0s e3) ?_;lk;show(lenK rfl,λa3 h3=>?_);lk;show a0B (a0e gx h3) (a0s e6) ?_;lk;let(b,eb,b0,b1):=at3n (a:=x7) (b:=1000000000000-x3 % 3) (c:=x3) (k:=if x6<2 then x6 else 2) (by split<;>cbv) (by split<;>cbv) (P:=λn=>0<=n/\n<=1000000000000) (x70,by cbv) (by cbv,by cbv) (x30,by cbv)
 show a0B a0a eb ?_;let s3:=s2.trans (Sm.new (o:=.lst [.int x7,.int (1000000000000-x3 % 3),.int x3]) h3);let gx3:=a0e (o:=.lst [.int x7,.int (1000000000000-x3 % 3),.int x3]) gx h3;generalize put G2 a3 (.lst [.int x7,.int (1000000000000-x3 % 3),.int x3])=G3 at s3 gx3 ⊢;lk;show b0M (fun σ' G'=>∃e:Option Int,stOk b e/\Sm G3 G'/\σ'=[bN (.int c),bN (.int w),bN (.ref ks),bN (.ref wsA),bN (.ref t),bN (.int b),bN (oz e)]) ?_ ?_
 .lk;show a0B gx3 (a0s e4) ?_;lk;show ifD (λc1=>?_) λc1=>?_
  .lk;show i_I (by decide,by decide,by decide) ?_;rw[a7M];lk;show ifD (λc2=>?_) λc2=>?_
   .lk;show i_I (by decide,by decide,by decide) ?_;rw[a7M];lk;show a0B gx3 (a0s e5) ?_;lk;show i_I (show (0:Int)<4 by decide) ?_;lk;show a0B gx3 (a0s e5) ?_;lk;show a0B gx3 (a0s e5) ?_;lk;show a0B gx3 (a0s e8) ?_;lk;show(lenK rfl,λa4 h4=>?_);lk;show a0B (a0e gx3 h4) (a0s e4) ?_;lk;let(n,en,n0):=at4n (a:=x5 % 4) (b:=x5) (c:=x5) (d:=x8) (k:=x4-1) (by cbv) (by cbv) (P:=λn=>0<=n) (bZ _ (by decide)) x50 x50 x80;show a0B a0a en ?_;lk;show(bN (if b+1+n<1000000000000 then b+1+n else 1000000000000),(b0,b1,λx hx=>?_),Sm.new h4,rfl);cases hx;unfold T12
    split<;>cbv
   .lk;show(ce,(b0,b1,λx hx=>nomatch hx),Sm.refl _,rfl)
  .lk;show(ce,(b0,b1,λx hx=>nomatch hx),Sm.refl _,rfl)
 .ext σ' G' ⟨e,hst,s4,rfl⟩;let gx4:=s4 _ _ gx3;let S4:=s3.trans s4;let(kk,ekk,mkk,hkk):=b2D hkn x10 x11;let(ww,eww,_,hww):=b2D hwn x20 x21;lk;show a0B gx4 (a0s e0) ?_;lk;show ifD (λc1=>?_) λc1=>?_
  .lk;show a0B gx4 (a0s e1) ?_;lk;show a0B (S4 _ _ hk) ekk ?_;lk;show(lenK rfl,?_);show q (kk,ce,b,e) G' S4 (hkk,(λs h=>nomatch h),hst) mkk
  .lk;show a0B gx4 (a0s e1) ?_;lk;show a0B (S4 _ _ hk) ekk ?_;lk;show a0B gx4 (a0s e2) ?_;lk;show a0B (S4 _ _ hw) eww ?_;lk;show(lenK rfl,?_);show q (kk,bN ww,b,e) G' S4 (hkk,(λs h=>by cases h;show hww),hst) mkk
noncomputable def alK(ss:List Str)(g:Str->List Ti):List (Str×Ti):=ss.flatMap λs=>(g s).map (Prod.mk s)
noncomputable def zT(x:Str×Ti):Z:=x.2.z x.1
def a6h{ss:List Str}{g:Str->List Ti}:tzK ss g=(alK ss g).map zT:=by
 unfold tzK alK;rw[List.map_flatMap]
 congr 1
 funext s
 rw[aX];rfl
def RelK(x y:Str×Ti):Prop:=x.1=y.1/\oSb x.2 y.2\/x.1≠y.1/\leS x.1 y.1
def TK1.so{T:List Tl}{f:Int}{k:Str}{K:List Ti}(h:TK1 T f k K):K.Pairwise oSb:=let (_,_,s):=h.ex;s.so
def Evr.rel{T:List Tl}{f:Int}{ss:List Str}(h:Evr T f ss):(alK ss (KOf T f)).Pairwise RelK:=by
 unfold alK;show fI.mpr (λs hs=>bn.mpr ((h.tk s).so.imp λ{a b} h=>.inl (rfl,h)),?_);show ((b9d h.so).and h.nd).imp λ{a b} hab x hx y hy=>?_;let(_,_,rfl):=aQ.mp hx;let(_,_,rfl):=aQ.mp hy;show .inr (hab.2,hab.1)
noncomputable def roK(x:Str×Ti):List Key:=[.inr x.1,.inl (bN x.2.s),.inl (bN x.2.r.b)]
def b7n(x y:Str×Ti):Tim.cmpT (roK x) (roK y)=cp:=by
 unfold roK Tim.cmpT
 split
 .unfold Tim.cmpT
  split
  .unfold Tim.cmpT
   split
   .rfl
   .rfl
  .rfl
 .rfl
def b7o{x y:Str×Ti}(h:RelK x y):Tim.ltT (roK y) (roK x)=js:=by
 unfold roK Tim.ltT;let(e,o)||(n,o):=h
 .rw[if_pos (by rw[e])];unfold Tim.ltT;let o||(o1,o2):=o
  .rw[if_neg (λz=>by injection z with z;injection z with z;cbv)];show decide_eq_false (by cbv)
  .rw[if_pos (by rw[o1])];unfold Tim.ltT;rw[if_neg (λz=>by injection z with z;injection z with z;cbv)];show decide_eq_false (by cbv)
 .rw[if_neg (λz=>by injection z with z;show n z.symm)];show decide_eq_false (leS_iff.mp o)
def b4z(h:Tim.ltT (roK y) (roK x)=js)(g:Tim.ltT (roK x) (roK y)=js):roK x=roK y:=by
 unfold roK Tim.ltT at h g
 by_cases c:x.1=y.1
 .rw[if_pos (by rw[c])]at h g;unfold Tim.ltT at h g
  by_cases d:x.2.s=y.2.s
  .rw[if_pos (by rw[d])]at h g;unfold Tim.ltT at h g
   by_cases e:x.2.r.b=y.2.r.b
   .unfold roK;rw[c,d,e]
   .rw[if_neg (λz=>by injection z with z;injection z with z;cbv)]at h g;let h:=of_decide_eq_false h;let g:=of_decide_eq_false g;cbv
  .rw[if_neg (λz=>by injection z with z;injection z with z;cbv)]at h g;let h:=of_decide_eq_false h;let g:=of_decide_eq_false g;cbv
 .rw[if_neg (λz=>by injection z with z;show c z.symm)]at h;rw[if_neg (λz=>by injection z with z;show c z)]at g;show absurd (b1G (leS_iff.mpr (of_decide_eq_false h)) (leS_iff.mpr (of_decide_eq_false g))) c
noncomputable def itT(x:Str×Ti):List Z:=[.str x.1,x.2.r.w.headD .non,.int x.2.r.b,oz x.2.r.e,.int x.2.s,oz x.2.u]
noncomputable def rowT(x:Str×Ti):List Key×List Z:=(roK x,itT x,)
def b2E{x y:Str×Ti}(h:RelK x y):roK x≠roK y:=λz=>by
 unfold roK at z;injection z with z0 z
 injection z with z1 z
 injection z with z2 _
 injection z0 with z0
 injection z1 with z1
 injection z1 with z1
 injection z2 with z2
 injection z2 with z2
 let(_,o)||(n,_):=h
 .unfold oSb at o;cbv
 .show n z0
def Evr.ndK{T:List Tl}{f:Int}{ss:List Str}(h:Evr T f ss):((alK ss (KOf T f)).map roK).Nodup:=bn.mpr (h.rel.imp λ{x y} q=>b2E q)
theorem a3q{α:Type}{g:Str->List α}{P:Str->Bool}:∀{l:List Str},(∀s∈l,P s=js->g s=[])->l.flatMap g=(l.filter P).flatMap g
 |[],_=>rfl
 |s::l,h=>by
  let ih:=a3q (P:=P) (l:=l) λu hu=>h u (.tail _ hu);rw[cP,bv,ih];cases c:P s with
  |true=>rw[if_pos rfl,cP]
  |false=>rw[if_neg (by decide),h s (.head _) c];rfl
def a6i{α:Type}{g:Str->List α}{ss us:List Str}(n1:ss.Nodup)(n2:us.Nodup)(h1:∀s,s∉ss->g s=[])(h2:∀s,s∉us->g s=[]):(ss.flatMap g).Perm (us.flatMap g):=by
 rw[a3q (P:=λs=>decide (s∈us)) (l:=ss) λs _ z=>h2 s (of_decide_eq_false z),a3q (P:=λs=>decide (s∈ss)) (l:=us) λs _ z=>h1 s (of_decide_eq_false z)];show bM.flatMap_right _ ((fD (n1.sublist cE) (n2.sublist cE)).mpr λs=>?_);rw[bC,bC,decide_eq_true_eq,decide_eq_true_eq];show And.comm
noncomputable def a03(f:Int)(al:List (Str×Ti)):List (Str×Ti):=al.filterMap λx=>(lfT f x.2).map (Prod.mk x.1)
def a68{f:Int}{g:Str->List Ti}{ss:List Str}:a03 f (alK ss g)=ss.flatMap λs=>(left f (g s)).map (Prod.mk s):=by
 unfold a03 alK left;rw[List.filterMap_flatMap]
 congr 1
 funext s
 rw[dQ,List.map_filterMap]
 rfl
def a4O{T:List Tl}{f:Int}{s:Str}{K J:List Ti}(h0:TK1 T 0 s K)(h:TK1 T f s J)(hf:0<=f):(left f K).Perm J:=by
 let(es,a1,a2):=h0.ex;let(fs,b1,b2):=h.ex;rw[<- a1.uniq b1]at b2;show bM.trans ?_ b2.pm.symm;rw[<- a13 hf (ts:=TF es)];unfold left;show a2.pm.filterMap _
theorem a6j{α:Type}{g h:Str->List α}:∀{ss:List Str},(∀s,(g s).Perm (h s))->(ss.flatMap g).Perm (ss.flatMap h)
 |[],_=>.refl _
 |s::ss,p=>by
  rw[cP,cP];show (p s).append (a6j p)
def a3r{T:List Tl}{f:Int}{ss us:List Str}(h0:Evr T 0 ss)(h:Evr T f us)(hf:0<=f):(a03 f (alK ss (KOf T 0))).Perm (alK us (KOf T f)):=by
 rw[a68];show (a6j λs=>(a4O (h0.tk s) (h.tk s) hf).map (Prod.mk s)).trans ?_;show a6i h0.nd h.nd (λs hs=>?_) λs hs=>by rw[h.no s hs];rfl
 let:=a4O (h0.tk s) (h.tk s) hf
 rw[h0.no s hs]at this;rw[fG.mp this];rfl
def TK1.len2{T:List Tl}{f:Int}{k:Str}{K:List Ti}(h:TK1 T f k K)(hT:T.length<=63):K.length<=8000:=by
 let(es,h1,h2):=h.ex;rw[h2.pm.length_eq];show be (b9 _ _) ?_;let a1:=b2r (es:=es) (m:=126) λe he=>by
  let:=(h1.ln e he).len
  rw[bj]at this;cbv
 let a2:es.length<=63:=by
  let e1:=congrArg bz h1.ix;rw[aM]at e1
  let:=b2o T k
  cbv
 let:=eF 126 a2
 cbv
theorem b2F{g:Str->List Ti}{m:Nat}:∀{ss:List Str},(∀s∈ss,(g s).length<=m)->(alK ss g).length<=ss.length*m
 |[],_=>by simp[alK]
 |s::ss,h=>by
  let ih:=b2F (ss:=ss) λu hu=>h u (.tail _ hu);let h1:=h s (.head _);let e:alK (s::ss) g=(g s).map (Prod.mk s)++alK ss g:=by unfold alK;rw[cP]
  rw[e,aW,aM,aS,eB,eC];cbv
structure Kn (T:List Tl) (kn:List Str):Prop where
 nd:kn.Nodup
 ln:kn.length<=4
 km:∀τ∈T,τ.key∈kn
def Kn.no{T:List Tl}{kn:List Str}(h:Kn T kn){f:Int}{s:Str}{K:List Ti}(t:TK1 T f s K)(hs:s∉kn):K=[]:=by
 let(es,h1,h2):=t.ex;let e:es=[]:=by
  let:ix T s=[]:=Classical.byContradiction λc=>by
   let(τ,a1,a2):=a9Z (n:=0) c;show hs (a2▸h.km τ a1)
  let:=h1.ix.trans this
  show eu.mp this
 subst e
 let:=h2.pm
 show List.perm_nil.mp this
def Evr.lenA{T:List Tl}{f:Int}{ss kn:List Str}(h:Evr T f ss)(k:Kn T kn)(hT:T.length<=63):(alK ss (KOf T f)).length<=32000:=by
 let p:(alK ss (KOf T f)).Perm (alK kn (KOf T f)):=a6i h.nd k.nd (λs hs=>by rw[h.no s hs];rfl) λs hs=>by rw[k.no (h.tk s) hs];rfl
 rw[p.length_eq];show be (b2F (m:=8000) λs _=>(h.tk s).len2 hT) (eF 8000 k.ln)
def Evr.nmA{T:List Tl}{f:Int}{ss:List Str}(h:Evr T f ss):∀x∈alK ss (KOf T f),∃w,x.2.r.w=[.str w]:=λx hx=>by
 unfold alK at hx;let(s,hs,hx):=fH.mp hx;let(t,ht,rfl):=aQ.mp hx;show (h.tk s).nm t ht
def a3s{T:List Tl}{f:Int}{us:List Str}{os:List (Str×Ti)}(h:Evr T f us)(p:os.Perm (alK us (KOf T f)))(s:(os.map roK).Pairwise (λx y=>Tim.ltT y x=js)):os=alK us (KOf T f):=by
 show p.eq_of_pairwise (le:=λx y=>Tim.ltT (roK y) (roK x)=js) (λa b ha hb h1 h2=>?_) (bn.mp s) (h.rel.imp λ{x y} h=>b7o h);show a93 h.ndK (p.mem_iff.mp ha) hb (b4z h1 h2)
noncomputable def a3H(f g:Int)(x:Str×Ti):Bool:=bef f x.2.u&&!bef g x.2.u
theorem a69{f g:Int}(h:f<=g):∀{al:List (Str×Ti)},(a03 f al).length=(a03 g al).length+(al.filter (a3H f g)).length
 |[]=>rfl
 |x::al=>by
  let ih:=a69 h (al:=al);unfold a03 at ih ⊢;rw[bD,bD,bv];unfold a3H at ih ⊢;unfold lfT at ih ⊢;cases c:bef g x.2.u with
  |true=>
   rw[a9S h c];simp only[if_true,cJ,aS,Bool.not_true,dv,b6,if_false];cbv
  |false=>
   cases d:bef f x.2.u with
   |true=>
    simp only[if_true,cJ,aS,Bool.not_false,de,b6,if_false,fJ];cbv
   |false=>
    simp only[b6,if_false,fJ,ei];show ih
def a6k{T:List Tl}{f:Int}{ss us:List Str}(h:Evr T f ss)(g:Evr T f us):tzK ss (KOf T f)=tzK us (KOf T f):=by
 let p:(alK ss (KOf T f)).Perm (alK us (KOf T f)):=a6i h.nd g.nd (λs hs=>by rw[h.no s hs];rfl) λs hs=>by rw[g.no s hs];rfl
 rw[a6h,a6h,a3s g p (bn.mpr (h.rel.imp λ{x y} q=>b7o q))]
noncomputable def wT(x:Str×Ti):Z:=L2.rowW (rowT x)
def a34{f:Int}{al:List (Str×Ti)}{x:Str×Ti}:a03 f (al++[x])=a03 f al++((lfT f x.2).map (Prod.mk x.1)).toList:=by
 unfold a03;rw[dU,bD];cases (lfT f x.2).map (Prod.mk x.1)<;>rfl
def b4A:P3:=λws G R=>∃(p:Addr)(al:List (Str×Ti))(f:Int),ws=[.ref p,.int f]/\G p=bN (.lst (al.map zT))/\al.length<=40000/\(∀x∈al,∃w,x.2.r.w=[.str w])/\((a03 f al).map roK).Nodup /\
 ∀(t:Addr)(os:List (Str×Ti)) G',G t=ce->Sm G G'->os.Perm (a03 f al)->(os.map roK).Pairwise (λx y=>Tim.ltT y x=js)->G' t=bN (.lst (os.map zT))->R (.ref t) G'
def cut4{a b c d e f:Z}:cutZ [a,b,c,d,e,f] ce (bN 4)=[a,b,c,d]:=rfl
set_option tactic.hygienic true in
def a97(T:Txt K mg base a):Cal P w K mg base CX0 1 "_law_left" (lowP K b4A):=by
 show fnc 2 (N:=["tiles","first","found","tile","since"]) T.br (T.f 26 _ rfl) ?_;walk_at "in";show(_,(a0d (by ac_rfl)
  (a0d (by ac_rfl)
  (a0y (a1h (q_l ["row"] [ce] (.nm 0) (hi:=(a1E (q_B a9w (T.b 8) (q_k (qv 2) a0z))))))))),?_)
 let(p,al,f,rfl,gp,hl,hw,hnd,fin):=h;let len1:∀i,(a03 f (al.take i)).length<=40000:=λi=>be (b9 _ _) (by rw[bj];cbv);lk;show(lenK rfl,λW hW=>?_);let gW:put G W (.lst []) W=bN (.lst ((a03 f (al.take 0)).map wT)):=a0a;let s0:Sm G (put G W (.lst [])):=Sm.new hW;generalize put G W (.lst [])=G1 at gW s0 ⊢;lk;show a1i (s0 _ _ gp) ?_;show a1e (λi σ G'=>∃(v3 v4:Option Z),Sm G G'/\G' W=bN (.lst ((a03 f (al.take i)).map wT))/\σ=[bN (.ref p),bN (.int f),bN (.ref W),v3,v4]) (_,_,s0,gW,rfl) (by ext i σ G' _ ⟨_,_,s,_⟩;show s _ _ gp) ?_ ?_
 .ext i x σ G2 hx ⟨v3,v4,s2,gW2,rfl⟩;rw[aU]at hx;cases hx':al[i]? with
  |none=>rw[hx']at hx;cases hx
  |some x=>
  rw[hx']at hx;cases hx;let(w,ew):=hw x (bp hx');let(k,((rb,re,rw1),s3,u)):=x;let ew:rw1=[.str w]:=ew;subst ew;let l1:=len1 i;let key:∀su,max s3 f=su->bef f u=cp->put G2 W (.lst ((a03 f (al.take i)).map wT++[.tup [.str k,.int su,.int rb,.tup [.str k,.str w,.int rb,oz re,.int su,oz u]]])) W=bN (.lst ((a03 f (al.take (i+1))).map wT)):=λsu e c=>by
   rw[a0a,take_snoc hx',a34];subst e
   change _=bN (O.lst ((_++(((if bef f u=cp then bN (((rb,re,[.str w]),max s3 f,u):Ti) else ce)).map (Prod.mk k)).toList).map wT))
   rw[if_pos c,aY]
   rfl
  let mx:(if f > s3 then f else s3)=max s3 f:=by cbv
  let nok:bef f u=js->((a03 f (al.take (i+1))).map wT)=(a03 f (al.take i)).map wT:=λc=>by
   rw[take_snoc hx',a34]
   change (_++(((if bef f u=cp then bN (((rb,re,[.str w]),max s3 f,u):Ti) else ce)).map (Prod.mk k)).toList).map wT=_
   rw[if_neg (by rw[c];simp)];simp
  let ez:zT (k,((rb,re,[.str w]),s3,u),)=.tup [.str k,.str w,.int rb,oz re,.int s3,oz u]:=rfl;rw[ez];show(_,rfl,?_);cases u with
  |none=>
   lk;show a2z gW2 ?_;lk;show a7o (show ¬ (HT.sIx 6 0 ce=0/\HT.sIx 6 6 (bN 4)=6) by decide) ?_;rw[cut4];lk;show(lenK rfl,?_);lk;show a6x (by simp) (lenK rfl) ?_;lk;show(lenK rfl,?_);lk;show a09 gW2 (by rw[aM];show cj l1 (by decide)) ?_;show(_,_,s2.put hW,key _ mx.symm rfl,rfl)
  |some u=>
   lk;show ifD (λc=>?_) λc=>?_
   .lk;show a2z gW2 ?_;lk;show a7o (show ¬ (HT.sIx 6 0 ce=0/\HT.sIx 6 6 (bN 4)=6) by decide) ?_;rw[cut4];lk;show(lenK rfl,?_);lk;show a6x (by simp) (lenK rfl) ?_;lk;show(lenK rfl,?_);lk;show a09 gW2 (by rw[aM];show cj l1 (by decide)) ?_;show(_,_,s2.put hW,key _ mx.symm (decide_eq_true c),rfl)
   .lk;show(_,_,s2,by rw[nok (decide_eq_false c)];show gW2,rfl)
 .ext σ G2 ⟨v3,v4,s2,gW2,rfl⟩;rw[aM,bY]at gW2;let e1:(a03 f al).map wT=((a03 f al).map rowT).map L2.rowW:=by rw[aX];rfl
  rw[e1]at gW2;let l1:=len1 al.length;rw[bY]at l1;lk;show a9x (jt:=3) gW2 (by rw[aM];cbv) ?_ ?_ ?_ ?_ ?_
  .rw[aX];show hnd
  .ext r hr;rw[aX]at hr;let(x,_,rfl):=aQ.mp hr;show(_,_,rfl)
  .ext r hr;let(x,_,rfl):=aQ.mp hr
   rfl
  .ext r hr r' hr';let(x,_,rfl):=aQ.mp hr;let(y,_,rfl):=aQ.mp hr';show b7n x y
  ext t os ht po so;let(xs,px,rfl):=Tim.perm_lift po;let so:(xs.map roK).Pairwise (λx y=>Tim.ltT y x=js):=by rw[aX]at so;show so
  let gt:put G2 t (.lst ((xs.map rowT).map L2.rowW)) t=bN (.lst (xs.map wT)):=by rw[a0a,aX];rfl
  let s3:Sm G2 (put G2 t (.lst ((xs.map rowT).map L2.rowW))):=Sm.new ht;generalize put G2 t (.lst ((xs.map rowT).map L2.rowW))=G3 at gt s3 ⊢;let lo:=px.length_eq;lk;show a1i gt ?_;ext D hD;show a1z (g':=zT) (λx=>bN x) (λys=>a0e gt hD) (by cbv) ?_ ?_
  .ext x hx ys K1 K2 k1 k2;let ez:wT x=.tup [.str x.1,.int x.2.s,.int x.2.r.b,.tup (itT x)]:=rfl;rw[ez];show(_,rfl,?_);lk;show k1 _ rfl
  rw[show xs.filterMap (λx=>bN x)=xs from List.filterMap_some];lk;show fin D xs _ (s2.free (s3.free hD)) ((s2.trans s3).trans (Sm.new hD)) px so a0a
def Kn.few{T:List Tl}{kn:List Str}(k:Kn T kn)(hT:T.length<=63):Few T:=(by cbv,kn,by let:=k.ln;cbv,k.km)
def Sheet.kof{a:Ad}{b:Bool}{G:Hq}{p:Addr}{S:Addr->Prop}{T:List Tl}{f:Int}(h:Sheet a b G p S T f)(s:Str):TK1 T f s (KOf T f s):=by
 let(K,t):=h.tk s;rw[a2b t];show t
def b9h{T:List Tl}{f:Int}{ss:List Str}(nd:ss.Nodup)(h:∀s,TK1 T f s (KOf T f s)):((alK ss (KOf T f)).map roK).Nodup:=by
 unfold alK;rw[List.Nodup,bn];show fI.mpr (λs hs=>bn.mpr ((h s).so.imp λ{a b} q=>?_),?_)
 .show b2E (x:=(s,a,)) (y:=(s,b,)) (.inl (rfl,q))
 show nd.imp λ{a b} hab x hx y hy z=>?_;let(_,_,rfl):=aQ.mp hx;let(_,_,rfl):=aQ.mp hy;unfold roK at z;injection z with z _
 injection z with z
 show hab z
def b4B{T:List Tl}{f:Int}{ss:List Str}(h0:Evr T 0 ss)(h:∀s,TK1 T f s (KOf T f s))(hf:0<=f):((a03 f (alK ss (KOf T 0))).map roK).Nodup:=by
 rw[a68];let p:(ss.flatMap λs=>(left f (KOf T 0 s)).map (Prod.mk s)).Perm (alK ss (KOf T f)):=a6j λs=>(a4O (h0.tk s) (h s) hf).map (Prod.mk s);show (p.map roK).nodup_iff.mpr (b9h h0.nd h)
def b1K{T:List Tl}{f g:Int}{s0 ss us:List Str}(h0:Evr T 0 s0)(h1:Evr T f ss)(h2:Evr T g us)(hf:0<=f)(hg:f<=g):((tzK ss (KOf T f)).length:Int)-((tzK us (KOf T g)).length:Int)=(((alK s0 (KOf T 0)).filter (a3H f g)).length:Int):=by
 let:=a69 hg (al:=alK s0 (KOf T 0))
 rw[(a3r h0 h1 hf).length_eq,(a3r h0 h2 (by cbv)).length_eq]at this;rw[a6h,a6h,aM,aM];cbv
def a5E(a:Ad):P3:=λws G R=>Ex8 λ(p0 p1:Addr) (S0 S1:Addr->Prop) (T:List Tl) (f q:Int) (kn:List Str)=>ws=[.ref p0,.ref p1,.int f,.int q]/\Sheet a cp G p0 S0 T f/\Sheet a js G p1 S1 T 0/\(∀x,S0 x->¬ S1 x)/\OkT T/\T.length<=63/\Kn T kn/\0<=q/\q<=T.length/\G a.tP=bN lamO /\
 ∀(S':Addr->Prop) G',(∀b,S' b->S0 b\/G b=ce)->KN S0 G G'->Sheet a cp G' p0 S' T (if q<=f then f else q)->R (.bl cp) G'
set_option tactic.hygienic true in
def a5F(T:Txt K mg base a):Cal P w K mg base CX0 6 "_law_forgotten" (lowP K (a5E a)):=by
 show fnc 4 (N:=["short","tiled","first","knowing","ahead","told","gone"]) T.br (T.f 27 _ rfl) ?_;walk_at "in";show(_,(a0d (z_st (nmI 4 nd) (q_m0 (qv 0) (clK T cp) (a0o T cp) hr))
  (a0d (z_st (nmI 5 nd) (q_m (qv 0) (clK T cp) (a1r T) hr (q_k (qv 3) a0z) ))
  (a0d (by ac_rfl)
  (a0d (z_if (by ac_rfl)
  (a0y (a1h (a3R (by ac_rfl) (b0A (b0y (o_eq hu) (q_m0 (qv 0) (clK T cp) (a0o T cp) hr) (qv 4) (a2q _))))))
  a24)
  (a0d (z_l (nmI 6 nd) ["tile","first","knowing"] [ce,bN 2,bN 3] (.nm 0) (hi:=(a1E (q_m0 (qv 1) (clK T js) (a0o T js) hr))))
  (by ac_rfl)))))),?_)
 let(p0,p1,S0,S1,T',f,q,kn,rfl,sh0,sh1,dj,ok,hT,hkn,q0,q1,gP,fin):=h;let(dx0,n0,d0,ob0):=a1S sh0;let hf:0<=f:=let (_,_,_,m):=sh0;m.f0
 lk;show(p0,dx0,_,rfl,ob0,a0J (by decide +kernel) (by decide +kernel) (by decide +kernel),?_);lk;show(cp,p0,S0,T',f,rfl,sh0,ok,hT,λt1 ss1 G1 ht1 s1 ev1 gt1=>?_);let sh01:=sh0.keep (Sm.ks s1);lk;show(p0,dx0,_,rfl,s1 _ _ ob0,a0J (by decide +kernel) (by decide +kernel) (by decide +kernel),?_);lk;show(p0,S0,T',f,q,rfl,sh01,ok,hT,q0,q1,s1 _ _ gP,λc=>?_,λc S' G2 ss us i2 kn2 sh2 ev2 ev3=>?_)
 .rw[if_pos c]at fin;lk;show a5X (n:="int") (b:=cp) rfl (by decide +kernel) ?_;lk;show ifF ?_;lk;show a5X (n:="int") (b:=js) rfl (by decide +kernel) ?_;lk;show ifD (λ_=>?_) λz=>absurd c z;lk;show ifT ?_;lk;show(p0,dx0,_,rfl,s1 _ _ ob0,a0J (by decide +kernel) (by decide +kernel) (by decide +kernel),?_);lk;show(cp,p0,S0,T',f,rfl,sh01,ok,hT,λt2 ss2 G2 ht2 s2 ev2 gt2=>?_);lk;show b0N gt2 (s2 _ _ gt1) (ev2.fl ok) (ev1.fl ok) ?_;rw[a6k ev2 ev1,decide_eq_true rfl];show fin S0 G2 (λb hb=>.inl hb) (Sm.kn (s1.trans s2)) (sh01.keep (Sm.ks s2))
 .rw[if_neg (by cbv)]at fin;let kn02:KN S0 G G2:=(Sm.kn s1).trans kn2;let sh12:=sh1.keep (G':=G2) λx o hx e=>kn02 x o (λz=>dj x z hx) e;let(dx1,n1,d1,ob1):=a1S sh12;lk;show a5X (n:="int") (b:=cp) rfl (by decide +kernel) ?_;lk;show ifF ?_;lk;show a5X (n:="int") (b:=js) rfl (by decide +kernel) ?_;lk;show ifD (λz=>by cbv) λ_=>?_;lk;show(p1,dx1,_,rfl,ob1,a0J (by decide +kernel) (by decide +kernel) (by decide +kernel),?_);lk;show(js,p1,S1,T',0,rfl,sh12,ok,hT,λt3 ss3 G3 ht3 s3 ev4 gt3=>?_);rw[a6h]at gt3;lk;show a1i gt3 ?_;ext D hD;show a1z (g':=zT) (λx=>if a3H f q x=cp then bN x else ce) (λys=>a0e gt3 hD) (by let:=ev4.lenA hkn hT;cbv) ?_ ?_
  .ext⟨k,⟨r,s4,u⟩⟩ hx ys K1 K2 k1 k2;show(_,rfl,?_);let ez:zT (k,(r,s4,u),)=.tup [.str k,r.w.headD .non,.int r.b,oz r.e,.int s4,oz u]:=rfl;rw[ez];cases u with
   |none=>
    lk;show k2 (if_neg (by simp[a3H,bef]))
   |some u=>
    lk;show ifD (λc1=>?_) λc1=>?_
    .lk;show ifD (λc2=>?_) λc2=>?_
     .lk;show k1 (k,(r,s4,bN u),) (if_pos (by simp[a3H,bef];cbv))
     .lk;show k2 (if_neg (by simp[a3H,bef];cbv))
    .lk;show k2 (if_neg (by simp[a3H,bef];cbv))
  rw[a3l];lk;show a3U a0a ?_;lk;let e:((tzK ss (KOf T' f)).length:Int)-((tzK us (KOf T' q)).length:Int)=(((alK ss3 (KOf T' 0)).filter (a3H f q)).map zT).length:=by
   rw[aM];show b1K ev4 ev2 ev3 hf (by cbv)
  rw[decide_eq_true e];let sD:=s3.trans (Sm.new (o:=.lst (((alK ss3 (KOf T' 0)).filter (a3H f q)).map zT)) hD);show fin S' _ (λb hb=>(i2 b hb).imp id λe=>s1.free e) (kn02.trans (Sm.kn sD)) (sh2.keep (Sm.ks sD))
def b1L(a:Ad):P3:=λws G R=>Ex7 λ(p0 p1:Addr) (S0 S1:Addr->Prop) (T:List Tl) (f:Nat) (kn:List Str)=>ws=[.ref p0,.ref p1,.int f]/\Sheet a cp G p0 S0 T f/\Sheet a js G p1 S1 T 0/\OkT T/\T.length<=63/\Kn T kn/\∀G',Sm G G'->R (.bl cp) G'
set_option tactic.hygienic true in
def b1M(T:Txt K mg base a):Cal P w K mg base CX0 7 "_law_right" (lowP K (b1L a)):=by
 show fnc 3 (N:=["short","tiled","first","due","told","found"]) T.br (T.f 28 _ rfl) ?_;walk_at "in";show(_,(a0d (z_st (nmI 3 nd) (q_c (a97 T) hr (q_k (q_m0 (qv 1) (clK T js) (a0o T js) hr) (q_k (qv 2) a0z)) ))
  (a0d (z_st (nmI 4 nd) (q_m0 (qv 0) (clK T cp) (a0o T cp) hr))
  (a0d (by ac_rfl)
  (a0d (a2s (b70 PySem.F.plainAttrs_list PySem.F.slot_list_clear PySem.F.type_list_clear b3y (qv 4)))
  (a0d (z_st (nmI 5 nd) (q_m0 (qv 0) (clK T cp) (a02 T) hr))
  (a0y (a1h (a3R (b0y (o_eq hu) (q_m0 (qv 0) (clK T cp) (a0o T cp) hr) (qv 3) (a2q _)) (a3R (by ac_rfl) (a3R (by ac_rfl) (b0A (by ac_rfl)))))))))))),?_)
 let(p0,p1,S0,S1,T',f,kn,rfl,sh0,sh1,ok,hT,hkn,fin):=h;let(dx1,n1,d1,ob1):=a1S sh1;lk;show(p1,dx1,_,rfl,ob1,a0J (by decide +kernel) (by decide +kernel) (by decide +kernel),?_);lk;show(js,p1,S1,T',0,rfl,sh1,ok,hT,λt1 ss1 G1 ht1 s1 ev1 gt1=>?_);rw[a6h]at gt1;lk;show(t1,alK ss1 (KOf T' 0),f,rfl,gt1,by let:=ev1.lenA hkn hT;cbv,ev1.nmA,b4B ev1 sh0.kof (by cbv),λt2 os G2 ht2 s2 po so gt2=>?_);let s02:=s1.trans s2;let sh2:=sh0.keep (Sm.ks s02);let(dx2,n2,d2,ob2):=a1S sh2;lk;show(p0,dx2,_,rfl,ob2,a0J (by decide +kernel) (by decide +kernel) (by decide +kernel),?_);lk;show(cp,p0,S0,T',f,rfl,sh2,ok,hT,λt3 us G3 ht3 s3 ev gt3=>?_);let eo:=a3s ev (po.trans (a3r ev1 ev (by cbv))) so;rw[eo,<- a6h]at gt2;clear eo po so gt1;let fl:=ev.fl ok;let gt2':=s3 _ _ gt2;let s03:=s02.trans s3;lk;show a5X (n:="list") (b:=cp) (by simp[tyN,gt3]) (by decide +kernel) ?_;lk;show ifF ?_;lk;show b0N gt3 gt2' fl fl ?_;rw[decide_eq_true rfl];show(_,rfl,ifF ?_);lk;show(p0,S0,T',f,rfl,sh0.keep (Sm.ks s03),hkn.few hT,ok,hT,λt4 us4 G4 ht4 s4 ev4 gt4=>?_);rw[a6k ev4 ev]at gt4;lk;show b0N gt4 (s4 _ _ gt2') fl fl ?_;rw[decide_eq_true rfl];show(_,rfl,ifF ?_);lk;let s04:=s03.trans s4;show a2z (s4 _ _ gt3) ?_;show(_,s4 _ _ gt3,?_);let n23:t2≠t3:=a0x gt2 ht3;let s05:Sm G (put G4 t3 (.lst [])):=s04.put (s02.free ht3);let gt25:put G4 t3 (.lst []) t2=bN (.lst (tzK us (KOf T' f))):=by rw[a0h n23];show s4 _ _ gt2'
 generalize put G4 t3 (.lst [])=G5 at s05 gt25 ⊢;clear s04 s03 s4 s3 s2 gt4 gt3 gt2' gt2;let sh5:=sh0.keep (Sm.ks s05);let(dx5,n5,d5,ob5):=a1S sh5;lk;show(p0,dx5,_,rfl,ob5,a0J (by decide +kernel) (by decide +kernel) (by decide +kernel),?_);lk;show(p0,S0,T',f,rfl,sh5,?_);lk;show(p0,dx5,_,rfl,ob5,a0J (by decide +kernel) (by decide +kernel) (by decide +kernel),?_);lk;show(cp,p0,S0,T',f,rfl,sh5,ok,hT,λt6 us6 G6 ht6 s6 ev6 gt6=>?_);rw[a6k ev6 ev]at gt6;lk;show b0N gt6 (s6 _ _ gt25) fl fl ?_;rw[decide_eq_true rfl];lk;show ifT ?_;lk;show a5X (n:="int") (b:=cp) rfl (by decide +kernel) ?_;lk;show a5X (n:="int") (b:=js) rfl (by decide +kernel) ?_;lk;show ifT ?_;lk;rw[decide_eq_true rfl];show fin G6 (s05.trans s6)
local macro_rules | `(tactic| walk_at "go1")=>`(tactic| first | show i_I (show (0:Int)<_ by decide) ?_ | show a0B (by assumption) (by with_unfolding_all rfl) ?_ | (show i_I (by decide,by decide,by decide) ?_;rw[a7M]))
structure TS (a:Ad) (H G:Hq) (N:Addr->Prop) (p0 p1:Addr) (S0 S1:Addr->Prop) (T:List Tl) (U:List Tl) (f:Int):Prop where
 s0:Sheet a cp G p0 S0 T f
 s1:Sheet a js G p1 S1 U 0
 d:∀x,S0 x->¬ S1 x
 f0:∀x,S0 x->N x\/H x=ce
 f1:∀x,S1 x->N x\/H x=ce
 kp:∀x o,H x=bN o->¬ N x->G x=bN o
section
variable{a:Ad}{H G G':Hq}{N:Addr->Prop}{p0 p1:Addr}{S0 S1 S':Addr->Prop}{T U W:List Tl}{f g:Int}
def TS.sm(h:TS a H G N p0 p1 S0 S1 T U f)(s:Sm G G'):TS a H G' N p0 p1 S0 S1 T U f:=(h.s0.keep (Sm.ks s),h.s1.keep (Sm.ks s),h.d,h.f0,h.f1,λx o e n=>s _ _ (h.kp x o e n))
def TS.new(h:TS a H G N p0 p1 S0 S1 T U f){x:Addr}(e:G x=ce):N x\/H x=ce:=by
 by_cases n:N x
 .show .inl n
 .right
  cases e':H x with
  |none=>rfl
  |some o=>rw[h.kp x o e' n]at e;cases e
def TS.t0(h:TS a H G N p0 p1 S0 S1 T U f)(i2:∀x,S' x->S0 x\/G x=ce)(kn:KN S0 G G')(sh:Sheet a cp G' p0 S' W g):TS a H G' N p0 p1 S' S1 W U g:=by
 show(sh,h.s1.keep λx o hx e=>kn x o (λz=>h.d x z hx) e,λx hx hy=>?_,λx hx=>?_,h.f1,λx o e n=>kn x o (λz=>?_) (h.kp x o e n))
 .let w||w:=i2 x hx
  .show h.d x w hy
  .show h.s1.al hy w
 .let w||w:=i2 x hx
  .show h.f0 x w
  .show h.new w
 .let w||w:=h.f0 x z
  .show n w
  .rw[w]at e;cases e
def TS.t1(h:TS a H G N p0 p1 S0 S1 T U f)(i2:∀x,S' x->S1 x\/G x=ce)(kn:KN S1 G G')(sh:Sheet a js G' p1 S' W 0):TS a H G' N p0 p1 S0 S' T W f:=by
 show(h.s0.keep λx o hx e=>kn x o (λz=>h.d x hx z) e,sh,λx hx hy=>?_,h.f0,λx hx=>?_,λx o e n=>kn x o (λz=>?_) (h.kp x o e n))
 .let w||w:=i2 x hy
  .show h.d x hx w
  .show h.s0.al hx w
 .let w||w:=i2 x hx
  .show h.f1 x w
  .show h.new w
 .let w||w:=h.f1 x z
  .show n w
  .rw[w]at e;cases e
end
def b4C(h:OkT T)(o:τ.Ok):OkT (T++[τ]):=λu a=>by
 let a||a:=aO.mp a
 .show h u a
 .simp_all
def b7p(hp:G p=ce)(k:∀x o,put G p (.ins C dx []) x=bN o->x≠p->G' x=bN o):Sm G G':=λx o e=>k x o (a0e e hp) (a0x e hp)
def b7q(hp:G p=ce)(hd:put G p (.ins C dx []) d=ce)(hx:x=p\/x=d):G x=ce:=by
 let rfl||rfl:=hx
 .cbv
 .show (Sm.new hp).free hd
def b7r(T:Txt K mg base a){f:Addr}{d:f6}(J:Fun K "law" "law" (top 48) f d):FnOk P w K mg base CX0 8 f d ["script"] (lowP K (a5n a.tP)):=by
 show fnd (n:=1) (N:=["script","way","keys","worths","short","tiled","first","cell","telling","knowing"]) J ?_ (rfl,rfl,rfl,by decide +kernel,rfl,by decide +kernel,by decide +kernel) λws G R h=>by let(_,_,rfl,_):=h;rfl
 walk_at "in";show(_,(a0d (by ac_rfl)
  (a0d (by ac_rfl)
  (a0d (by ac_rfl)
  (a0d (z_st (nmI 4 nd) (b6L T.mk_Short (a2m T) hr T.mg_Short))
  (a0d (z_st (nmI 5 nd) (b6L T.mk_Tiled (a05 T) hr T.mg_Tiled))
  (a0d (by ac_rfl)
  (a0d (z_if (QW.qt (q_or (b1T (b5F (q_B (b8U T.ow_Short T.ki_Short_Tiled) (T.b 1) (q_k (qv 4) (q_k (b6A (b0Z rfl T.mg_Tiled)) a0z))))) (b5B (a23 (o_ne hu) (q_m (qv 4) (clK T cp) (a1r T) hr (q_k a3v a0z) ) a3v (a2q _)))))
  (by ac_rfl)
  a24)
  (a0d (a4i (pt:=(.nm 7)) gy.never rfl (by ac_rfl) (p_nm (nmI 7 nd))
  (a0d (by ac_rfl)
  (a0d (z_if (a23 (o_ne hu) (q_m (qv 4) (clK T cp) (a2a T cp) hr (q_k (qv 8) a0z) ) (q_m (qv 5) (clK T js) (a2a T js) hr (q_k (qv 8) a0z) ) (a2q _))
  (by ac_rfl)
  a24)
  (a0y (z_if (by ac_rfl)
  (a0d (z_st (nmI 9 nd) (q_op b5W (by ac_rfl) (q_op a5T (q_m0 (qv 5) (clK T js) (a0w T js) hr) a3v)))
  (by ac_rfl))
  a24)))))
  (a0y (a1h (a3R (by ac_rfl) (b0A (b0y (o_eq hu) (q_m0 (qv 4) (clK T cp) (a0w T cp) hr) (q_m0 (qv 5) (clK T js) (a0w T js) hr) (a2q _)))))))))))))),?_)
 let(sa,ns,rfl,hl',gP,q):=h;lk;show(sa,ns,0,rfl,by decide,λc0=>?_);lk;generalize c0 % 2=way;show(sa,ns,0,rfl,by decide,λc2=>?_);lk;show i_I (by decide,by decide) ?_;lk;show(_,_,4,rfl,by decide,by decide,λks kn G1 hks gks kl kno knd s1=>?_);lk;show(sa,ns,1,rfl,by decide,λc3=>?_);lk;show(_,_,3,rfl,by decide,by decide,λwsA wn G3 hws gws hwn hwno _ s3=>?_);let gks3:=s3 _ _ gks;let gP3:=s3 _ _ (s1 _ _ gP);clear gks s1 hks s3 hws gP;lk;ext p0 dx0 hp0;show(p0,dx0,rfl,a0a,λd0 H0 hd0 k0 sh0=>(rfl,?_));let m0:=b7p hp0 k0;let n0:∀{x},(x=p0\/x=d0)->G3 x=ce:=b7q hp0 hd0;clear k0 hp0 hd0;lk;ext p1 dx1 hp1;show(js,p1,dx1,rfl,a0a,λd1 H1 hd1 k1 nw=>(rfl,?_));let sh1:=a5A nw.ob nw.dc;let m1:=b7p hp1 k1;let n1:∀{x},(x=p1\/x=d1)->H0 x=ce:=b7q hp1 hd1;clear k1 hp1 hd1 nw;let m01:=m0.trans m1;let sh01:=sh0.keep (Sm.ks m1);let dj:∀x,(x=p0\/x=d0)->¬ (x=p1\/x=d1):=λx h1 h2=>sh0.al h1 (n1 h2);let gk:=m01 _ _ gks3;let gw:=m01 _ _ gws;let gT:=m01 _ _ gP3;let out:∀{x o},G3 x=bN o->¬ ((x=p0\/x=d0)\/(x=p1\/x=d1)):=λe z=>by
  let z||z:=z
  .rw[n0 z]at e;cases e
  .let:=n1 z
   rw[m0 _ _ e]at this;cases this
 let nK:=out gks3;let nW:=out gws;let nT:=out gP3;let alN:∀{x},H1 x=ce->¬ ((x=p0\/x=d0)\/(x=p1\/x=d1)):=λe z=>by
  let z||z:=z
  .show sh01.al z e
  .show sh1.al z e
 let th:TS a H1 H1 (λx=>(x=p0\/x=d0)\/(x=p1\/x=d1)) p0 p1 (λx=>x=p0\/x=d0) (λx=>x=p1\/x=d1) [] [] 0:=(sh01,sh1,dj,λx h=>.inl (.inl h),λx h=>.inl (.inr h),λx o e _=>e);clear sh0 sh1 sh01 n0 n1 m0 m1 m01 gks3 gws gP3 out dj;generalize (λx=>x=p0\/x=d0)=S0 at th;generalize (λx=>x=p1\/x=d1)=S1 at th;obtain⟨M,hM⟩:∃M:Addr->Prop,M=λx=>(x=p0\/x=d0)\/(x=p1\/x=d1):=(_,rfl);rw[<- hM]at th
 replace nK:¬ M ks:=by rw[hM];show nK
 replace nW:¬ M wsA:=by rw[hM];show nW
 replace nT:¬ M a.tP:=by rw[hM];show nT
 replace alN:∀{x},H1 x=ce->¬ M x:=λe=>by rw[hM];show alN e
 clear hM;let(dxa,na,da,oba):=a1S th.s0;let oa:H1 p0=bN (.ins a.c_Short dxa _):=oba;lk;show b8V oa ?_;lk;show ifF ?_;lk;show(p0,dxa,_,rfl,oba,a0J (by decide +kernel) (by decide +kernel) (by decide +kernel),?_);lk;show(p0,S0,[],0,0,rfl,th.s0,(fun τ h=>by simp at h),by decide,bH _,bH _,gT,λ_=>?_,λc=>absurd c (fi _));lk;show ifN (λz=>absurd rfl z) λ_=>?_;lk;show b8s λc hc=>?_;let hcl:(cutZ ns (bN 2) (bN 82)).length<=63:=be (a5V ..) hl';generalize cutZ ns (bN 2) (bN 82)=cs at hcl ⊢;let gc6:put H1 c (.lst (cs.map Z.int)) c=bN (.lst (cs.map Z.int)):=a0a;let m4:Sm H1 (put H1 c (.lst (cs.map Z.int))):=Sm.new hc;let nC:¬ M c:=alN hc;generalize put H1 c (.lst (cs.map Z.int))=H2 at gc6 m4 ⊢
 replace gk:=m4 _ _ gk
 replace gw:=m4 _ _ gw
 replace gT:=m4 _ _ gT
 let th2:TS a H2 H2 M p0 p1 S0 S1 [] [] ((0:Nat):Int):=(th.s0.keep (Sm.ks m4),th.s1.keep (Sm.ks m4),th.d,λx hx=>.inl ((th.f0 x hx).elim id λe=>(th.s0.al hx e).elim),λx hx=>.inl ((th.f1 x hx).elim id λe=>(th.s1.al hx e).elim),λx o e _=>e);clear th oa oba m4 alN hc;lk;show a1i gc6 ?_;show a1e (λi σ G'=>Ex7 λ(S0 S1:Addr->Prop) (T:List Tl) (f:Nat) (v1 v2 v3:Option Z)=>T.length=i/\OkT T/\(∀τ∈T,τ.key∈kn)/\TS a H2 G' M p0 p1 S0 S1 T T f/\σ=[bN (.scr sa ns),bN (.int way),bN (.ref ks),bN (.ref wsA),bN (.ref p0),bN (.ref p1),bN (.int f),v1,v2,v3])
  (S0,S1,[],0,_,_,_,rfl,(fun τ h=>by simp at h),(fun τ h=>by simp at h),th2,rfl) (by ext i σ G' _ ⟨_,_,_,_,_,_,_,_,_,_,h,_⟩;show h.kp _ _ gc6 nC) ?_ ?_
 .ext i x σ G' hx ⟨S0,S1,T1,f,v1,v2,v3,hTl,ok,km,h,rfl⟩;rw[aU]at hx;cases hx':cs[i]? with
  |none=>rw[hx']at hx;cases hx
  |some cl=>
  rw[hx']at hx;cases hx;let hi:=(bh.mp hx').1;show(_,rfl,?_);lk;show(_,_,ks,wsA,kn,wn,rfl,h.kp _ _ gk nK,h.kp _ _ gw nW,by cbv,by cbv,by cbv,by cbv,kno,hwno,fun τ Ga sA okτ mk=>?_)
  replace h:=h.sm sA
  let(dxa,na,da,oba):=a1S h.s0;lk;show(p0,dxa,_,rfl,oba,a0J (by decide +kernel) (by decide +kernel) (by decide +kernel),?_);lk;show(cp,p0,S0,T1,f,τ,rfl,h.s0,okτ,by cbv,λS0' Gb i1 i2 knb shb=>?_)
  replace h:=h.t0 i2 knb shb
  clear oba i1 i2 knb shb sA;let(dxa,na,da,oba):=a1S h.s1;lk;show(p1,dxa,_,rfl,oba,a0J (by decide +kernel) (by decide +kernel) (by decide +kernel),?_);lk;show(js,p1,S1,T1,0,τ,rfl,h.s1,okτ,by cbv,λS1' Gc i1 i2 knc shc=>?_)
  replace h:=h.t1 i2 knc shc
  clear oba i1 i2 knc shc
  replace ok:=b4C ok okτ
  replace km:∀u∈T1++[τ],u.key∈kn:=λu hu=>by
   let hu||hu:=aO.mp hu
   .show km u hu
   .rw[aR.mp hu];show mk
  let hT2:(T1++[τ]).length=i+1:=by rw[aW,hTl];rfl
  generalize T1++[τ]=T2 at h ok km hT2;let hk:Kn T2 kn:=(knd,by cbv,km);lk;show ifN (λz=>absurd rfl z) λ_=>?_;lk;show(_,70,rfl,by decide,by decide,λr r0 r1=>?_);lk;show ifD (λ_=>?_) λ_=>?_
  .lk;show(_,71,rfl,by decide,by decide,λr2 r20 r21=>?_);let(dxa,na,da,oba):=a1S h.s1;lk;show(p1,dxa,_,rfl,oba,a0J (by decide +kernel) (by decide +kernel) (by decide +kernel),?_);lk;show(js,p1,S1',T2,0,rfl,h.s1,?_);lk;show i_I (show (0:Int)<(T2.length:Int)+1 by cbv) ?_;let e0:=bZ r2 (show ((T2.length:Int)+1)≠0 by cbv);let e1:=b8 r2 (show 0<(T2.length:Int)+1 by cbv);generalize r2 % ((T2.length:Int)+1)=k at e0 e1 ⊢;clear oba;lk;show(p0,p1,S0',S1',T2,f,k,kn,rfl,h.s0,h.s1,h.d,ok,by cbv,hk,e0,by cbv,h.kp _ _ gT nT,λS' Gd i2 knd' shd=>?_)
   replace h:=h.t0 i2 knd' shd
   clear i2 knd' shd;let em:(if k > (f:Int) then k else (f:Int))=(if k<=(f:Int) then (f:Int) else k):=by
    by_cases c:k<=(f:Int)
    .rw[if_pos c,if_neg (by cbv)]
    .rw[if_neg c,if_pos (by cbv)]
   lk;show ifF ?_;lk;rw[em];obtain⟨g,hg⟩:∃g:Nat,(if k<=(f:Int) then (f:Int) else k)=g:=by
    by_cases c:k<=(f:Int)
    .show(f,by rw[if_pos c])
    .show(k.toNat,by rw[if_neg c];cbv)
   rw[hg]at h ⊢;clear hg em e0 e1;lk;show(_,72,rfl,by decide,by decide,λr3 r30 r31=>?_);lk;show ifD (λ_=>?_) λ_=>?_
   .lk;show(p0,p1,S',S1',T2,g,kn,rfl,h.s0,h.s1,ok,by cbv,hk,λGe se=>?_);lk;show ifF ?_;lk;show(S',S1',T2,g,_,_,_,hT2,ok,km,h.sm se,rfl)
   .lk;show(S',S1',T2,g,_,_,_,hT2,ok,km,h,rfl)
  .lk;show(S0',S1',T2,f,_,_,_,hT2,ok,km,h,rfl)
 .ext σ G' ⟨S0,S1,T1,f,v1,v2,v3,hTl,ok,km,h,rfl⟩;rw[aM]at hTl;let hk:Kn T1 kn:=(knd,by cbv,km);lk;show(p0,p1,S0,S1,T1,f,kn,rfl,h.s0,h.s1,ok,by cbv,hk,λGa sA=>?_)
  replace h:=h.sm sA
  let(dxa,na,da,oba):=a1S h.s0;let(dxb,nb,db,obb):=a1S h.s1;lk;show(p0,dxa,_,rfl,oba,a0J (by decide +kernel) (by decide +kernel) (by decide +kernel),?_);lk;show(cp,p0,S0,T1,f,rfl,h.s0,?_);lk;show(p1,dxb,_,rfl,obb,a0J (by decide +kernel) (by decide +kernel) (by decide +kernel),?_);lk;show(js,p1,S1,T1,0,rfl,h.s1,?_);lk;rw[decide_eq_true rfl];show q _
def all_mk{l:PySem.W.OpenLaw}{w:World}{K:Fg}{h:Heap}{mg:Str->Option Value}{fa:Addr}(X:K.In h)(G:h.Ns fX mg)(hfa:mg "law"=bN (.ref fa))
  {aa ab:Addr}
  {ai tP:Addr}
  {ac:Addr}
  {ad ae:Tok}
  (ao:PySem.W.nsIn K fX "Tiled"=bN (bN (.ref aa)))
  (ap:PySem.W.nsIn K fX "Short"=bN (bN (.ref ab)))
  (af:PySem.W.nsIn K fX "LONGEST_NAME"=bN (bN (.int 8 ad)))
  (ah:PySem.W.nsIn K fX "LAST_MOMENT"=bN (bN (.int 1000000000000 ae)))
  (aq:PySem.W.plainGet K aa Str.empty=cp)
  (ar:PySem.W.hasDictIn K aa=cp)
  (au:PySem.W.plainOver K aa=cp)
  (av:PySem.W.findIn K (.ref aa) "__setattr__"=bN (bN (.builtin "object.__setattr__")))
  (aw:PySem.W.makesIn K aa=cp)
  (ax:PySem.W.keepIn K (.ref aa)=cp)
  (aj:PySem.W.plainGet K ab Str.empty=cp)
  (ak:PySem.W.hasDictIn K ab=cp)
  (al:PySem.W.plainOver K ab=cp)
  (am:PySem.W.findIn K (.ref ab) "__setattr__"=bN (bN (.builtin "object.__setattr__")))
  (ay:PySem.W.makesIn K ab=cp)
  (az:PySem.W.keepIn K (.ref ab)=cp)
  (aA:PySem.W.findIn K (.ref ab) "__class__"=bN (bN (.builtin "object.__class__")))
  (aB:PySem.W.specialIn K (.builtin "object.__class__") "__get__"=bN (bN (.builtin "getset_descriptor.__get__")))
  (aC:PySem.W.takesIn K (.builtin "object.__class__")=bN cp)
  (aD:PySem.W.mroIn K ab (.type "object")=bN cp)
  (ag:PySem.W.kitOne K (.ref ab) (.ref aa)=bN cp)
  (aE:PySem.W.readsIn K aa (.type "type")=cp)
  (aF:PySem.W.specialIn K (.ref aa) "__getattribute__"=bN (bN (.builtin "type.__getattribute__")))
  (aG:PySem.W.findIn K (.ref aa) "__init__"=bN (bN (.ref ac)))
  (aH:PySem.W.findCls K (.ref aa) (.type "type") "__init__"=bN (.val (.ref ac)))
  (lf:PySem.W.nsIn K fX "tiles_from"=bN (bN (.ref ai)))
  (ll:a9z K ai tP=cp)
  (gP:fX≠tP)
  (F:AllF K top tF)
  (B:AllB K tB)
  (aI:AllM K top aa a4s)
  (aJ:AllN K aa a4t)
  (aK:AllM K top ab a4u)
  (aL:AllN K ab a4v) :
  ∃(fd:f6)(c0:Addr),PySem.W.codeHdIn K c0 tP=cp/\(∀(s:Shared)(v:Value),g8 s fd ([v],[]) [("script",v,)])/\∀base:Heap,K.In base->base.Ns fX mg->base.BuiltinsAt mg tP->FnOk l.prog w K mg base CX0 8 fa fd ["script"] (lowP K (a5n tP)):=by
 let br:=b8W X G;let(f,d,e,J):=F 29 _ rfl;let e:=hfa.symm.trans (br _ _ e);cases e
 letI a:Ad:=(aa,ab,tP)
 let hb:=λP base (bi:base.BuiltinsAt mg tP)=>b7r (P:=P) (w:=w) (base:=base) (a:=a) (br,F,B,gP,bi,(ai,lf,ll),br _ _ ao,(aq,ar,au,av),aI,aJ,(aw,ax),br _ _ ap,(aj,ak,al,am),aK,aL,(ay,az),((aj,ak,al,am),aA,aB,aC,aD),ag,(aE,aF,ac,aG,aH),(ad,br _ _ af),(ae,br _ _ ah)) J;let(fl,dl,el,Jl):=F 20 _ rfl;cases (show bN (bN (Value.ref fl))=bN (bN (Value.ref ai)) from el.symm.trans lf);let(c0,_,hc0):=a6U Jl ll;let(oc,od,kV,doc,pm,an,cdv,ct,osl,rfl,lk,hcd):=J.ex;show(_,c0,hc0,λs v=>.of_eq rfl,λbase _ _ bi=>hb l.prog base bi)
def walk{l:PySem.W.OpenLaw}{q:fO}{loose:List Str}{XP:(Str->Option Value)->Heap->Prop}{YP:World->Heap->Prop}{d:DefRec}{K:Params->Fg}{P0:Addr}(hn:l.most=bN 63)(hdf:d.params.defaults=[])
  (hY:∀(w:World)(h:Heap),YP w h->(K w.params).In h/\h.get? P0=bN (PySem.W.tabObj #[])) (hK0:∀w:World,(K w.params).lookup P0=ce)
  (F:∀(w:World)(mg:Str->Option Value)(fa:Addr)(h:Heap),(K w.params).In h->h.Ns fX mg->mg d.name=bN (.ref fa) ->
   ∃(fd:f6)(c0:Addr),PySem.W.codeHdIn (K w.params) c0 P0=cp/\(∀(s:Shared)(u:Value),g8 s fd ([u],[]) [("script",u,)])/\∀base:Heap,(K w.params).In base->base.Ns fX mg->base.BuiltinsAt mg P0->FnOk l.prog w (K w.params) mg base CX0 8 fa fd ["script"] (lowP (K w.params) (a5n P0))) :
  PySem.W.WalkO q loose XP YP l.row.toRowW d [] (λf vs=>PySem.call f vs):=
 L2.walk_ofT (n:=63) (k:=8) (x:="script") (CX:=λ_=>CX0) (sp:=λw=>lowP (K w.params) (a5n P0)) hn (by decide) hdf (rfl,by decide,by decide) hY hK0 F (λ_ _ a ns hl hO hS=>a7C a ns (Fz.ofT hO hS) hO.1 (b1h hl)) λ_ _ _ _ _ z=>z
end Lw
end
open PySem PySem.W PyProof.Rows
set_option maxRecDepth 100000 in
set_option maxHeartbeats 0 in
theorem PySem.Challenge.cw_twotimes_k71_forgotten_holds : PySem.Challenge.rw_twotimes_k71_forgotten.Holds := by
 w_on;o_law;k_head;(case hw=>w_witness2)
 k_fill
 refine Lw.walk (l:=PySem.Challenge.rw_twotimes_k71_forgotten) rfl rfl (fun w h Y=>⟨PySem.W.km_in_of Y,PySem.W.km_tabs_of Y _ (.head _)⟩) (fun w=>by kernel_rfl) ?F
 case F=>
  intro w mg fa h KX G hmg;refine' Lw.all_mk KX G hmg ?aa ?ab ?ac ?ad ?ae ?af ?ag ?ah ?ai ?aj ?ak ?al ?am ?an ?ao ?ap ?aq ?ar ?au ?av ?aw ?ax ?ay ?az ?aA ?aB ?aC ?aD ?F ?aE ?aF ?aG ?aH ?aI
  all_goals try k_is
  (case aw=>kit_is)
  all_goals try k_is
  (case aC=>kernel_rfl)
  (case aD=>decide)
  all_goals (repeat first |exact L2.af0 |exact L2.am0 |exact L2.ab0 |exact L2.an0 | (first |refine' L2.af1 ?_ ?_ ?_ ?_ ?_ |refine' L2.am1 ?_ ?_ ?_ ?_ ?_ ?_ |refine' L2.ab1 ?_ ?_ |refine' L2.an1 ?_ ?_)<;>try k_is)
