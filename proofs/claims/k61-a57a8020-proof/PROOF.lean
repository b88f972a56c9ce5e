import PyProof.Rows.All
import Wide.All
import OpenK.AllK
import Wide.FinOn
import Lean
import PyProof.EqAt
import PyProof.EqKinds
import PyProof.TupleCall
import PyProof.CompFree
import PyProof.P3In
import PyProof.RaisesMany
import PyProof.StationsW
import PyProof.ExcClass3
import PyProof.ExcBaseAll.ValueError
import PyProof.RulesTry
import PyProof.RulesAs
import PyProof.NsDelKeeps
import KE.KTryMore
import PyProof.ExcArgs
import KE.RegKIsAll
import PyProof.Rows.EqDataRows
import KE.KLam
import KE.KSortKey
import KE.KNestM
import PyProof.DictItemsLoops
import PyProof.DictValues
import PyProof.DictWalks
import KE.KMinBuiltin
import KE.KEqDict
import KE.KIntText
import KE.KDictOf
import PyProof.StrBlockH
import KE.KWords
import PyProof.CallStr
import PyProof.StrLawsTight
import PyProof.StrLawsChain
import PyProof.AttrMissHeap
import KE.KSortTup
import Wide.Seal
import PySem.Challenge.RW_twotimes_k61_changes_told
set_option Elab.async false
set_option linter.all false
set_option maxRecDepth 100000
set_option compiler.extract_closed false
set_option bootstrap.genMatcherCode false
noncomputable section
open Lean Parser Tactic in
def pT:Nat->Syntax->MacroM (Array (TSyntax `rcasesPat))
|n+1,s=>do
 let q:=match s with|`(($p,$q,*))=>#[p]++q.getElems|`(⟨$q,*⟩)=>q.getElems|_=>#[]
 if q.size>0 then pure #[<-`(rcasesPat|⟨$(<-q.mapM λx=>do`(rcasesPatLo|$[$(<-pT n x):rcasesPat]|*)),*⟩)]
 else match s with
 |`($x:ident)=>pure #[<-`(rcasesPat|$x:ident)]
 |`(⟨⟩)=>pure #[<-`(rcasesPat|⟨⟩)]
 |`(($p))=>pure #[<-`(rcasesPat|($[$(<-pT n p):rcasesPat]|*))]
 |`($p||$q)=>pure ((<-pT n p)++(<-pT n q))
 |_=>pure #[<-`(rcasesPat|_)]
|_,_=>pure #[]
local macro_rules|`(tactic|let $c:letConfig $d:letDecl)=>`(tactic|have $c:letConfig $d:letDecl)
local macro_rules|`(tactic|let $p:term:=$e)=>do`(tactic|obtain $[$(<-pT 40 p):rcasesPat]|*:=$e)
local macro_rules|`(tactic|show $t)=>`(tactic|refine $t)
local macro_rules|`(tactic|ext $p*)=>`(tactic|rintro $p*)
local macro_rules|`(tactic|cbv)=>`(tactic|omega)
local macro_rules|`(tactic|o_head $t)=>`(tactic|simpa using $t)
local macro_rules|`(($a,$b,*))=>if b.elemsAndSeps.size%2=1 then `(⟨$a,$b,*⟩)else Lean.Macro.throwUnsupported
local macro_rules|`(↑$a)=>`(by simpa using $a)
open List renaming length_map→a9,mem_append→be,mem_cons→bf,mem_singleton→bg,getElem?_eq_some_iff→bh,getElem?_eq_getElem→bn,getElem?_map→bo,map_append→bp,length_append→bu,length_cons→bv,map_cons→bx,pairwise_cons→bz,mem_of_getElem?→bB,mem_map→bC,length_take→bE,range→bG,all_cons→bJ,mem_of_mem_take→bK,length→bL,append_nil→bM,map_nil→bN,pairwise_append→bO,Perm→bP,append_assoc→bS,mem_map_of_mem→bV,size_toArray→bW,mem_append_right→bY,length_drop→bZ,all_eq_true→b5,cons→b9,getElem?_of_mem→cb,mem_cons_of_mem→cg,nodup_cons→ci,take_of_length_le→cj,take_length→cm,mem_cons_self→cn,find?_cons→cr,filter_cons→cu,lookup_cons→cv,getElem_mem→cx,mem_range→cD,filterMap_cons→cE,take_add_one→cG,nodup_append→cH,getD_eq_getElem?_getD→cI,any_eq_true→cK,mem_filter→cL,length_eq_zero_iff→cN,pairwise_iff_getElem→cO,length_pos_iff→cP,mem_append_left→cQ,mem_filterMap→cR,getElem?_append_right→cT,getElem?_append_left→cU,Pairwise→cV,any_cons→cW,drop_eq_getElem_cons→cX,reverse_append→cY,getElem?_eq_none→cZ,map_map→de,flatMap_cons→df,forIn_cons→dh,length_filterMap_le→dq,getElem?_drop→dr,reverse_singleton→dv,not_mem_nil→dA,find?_eq_none→dB,map_eq_nil_iff→dD,pairwise_map→dE,getElem?_set_self→dG,getElem?_set_ne→dH,any_eq_false→dI,take_sublist→dL,reverse_cons→dM,drop_eq_nil_of_le→dQ,mem_iff_getElem→dR,nil_append→dS,take_append_drop→dU,cons_append→dW,length_range→dX,getLast?_eq_none_iff→dY,getLast?_map→d6,mem_of_find?_eq_some→d7,filter_sublist→d8,mem_flatMap→d9,lookup→ei,replicate→eq,extract_eq_take_drop→eB,getElem?_take→eE,take_append_of_le_length→eI,ext_getElem?→eJ,find?_some→eM,dropLast_subset→eO,mem_of_getLast?→eP,filter_eq_nil_iff→eQ,of_mem_zip→eR,filterMap_map→eS,length_singleton→eU,length_set→eW,map_take→eY,pairwise_singleton→eZ,drop_sublist→e7,perm_append_comm→e9,mem_of_mem_drop→ff,singleton_append→fg,drop_append→fj,eraseIdx_cons_succ→fk,pairwise_lt_range→fm,map_congr_left→ft,map_dropLast→fz,rel_of_pairwise_cons→fA,length_filter_le→fB,head?_drop→fE,drop_length→fF,take_succ_cons→fG,getElem?_eq_none_iff→fI,getElem_inj→fK,perm_middle→fS,zipIdx_cons→fU,foldl_cons→fV,drop_set_of_lt→fW,take_set_of_le→fX,drop_append_of_le_length→fZ,flatten_cons→f6,findIdx?→f9,ext_getElem→gg,length_reverse→gk,range'_succ→gm,map_filterMap→gq,find?_append→gz,head?_cons→gB,cons_lt_cons_iff→gC,map_reverse→gE,perm_ext_iff_of_nodup→gF,find?_isSome→gG,filterMap_eq_map→gH,getElem_take→gI
open Nat renaming le_refl→bd,ne_of_lt→bt,le_trans→bD,lt_of_lt_of_le→bQ,zero_le→bR,le_of_lt→cf,lt_irrefl→cC,ne_of_gt→cF,le_succ→dg,lt_succ_of_lt→dj,zero_add→dw,add_assoc→dz,le_of_eq→dJ,lt_trans→dO,lt_succ_self→ej,add_zero→eF,mod_lt→eL,lt_of_le_of_lt→eV,add_sub_cancel→fh,add_comm→fu,min_le_right→fM,le_of_ble_eq_true→fO,add_right_comm→gi,le_of_lt_succ→gn
open False renaming elim→bj
open Option renaming some→bH,map_some→di,isSome_iff_exists→er,getD_none→eT,filter→fH,bind_some→fR,none→gV
open Array renaming length_toList→bI,getElem?_eq_getElem→bX,toList_push→b7,getElem?_toList→cz,perm_iff_toList_perm→dP,getElem?_eq_some_iff→et,size_map→eK,Perm→fi,append_assoc→fJ,mem_toList_iff→fL,toList_extract→fY,toList_setIfInBounds→f7,getElem?_modify→f8,getD_eq_getD_getElem?→gb,getElem?_eq_none→gf,size_setIfInBounds→gh,forIn_toList→gr,isEmpty_iff_size_eq_zero→gx
open Bool renaming false_ne_true→bT,and_eq_true→b8,true_and→cw,eq_iff_iff→cS,false_eq_true→dy,and_false→dN,and_eq_true_iff→eu,and_true→eN,and_self→eX,false_or→fN,not_true→gj,false_and→gA,true→kz,false→kQ
open Int renaming le_trans→bU,le_of_lt→cy,le_refl→cJ,eq_ofNat_of_zero_le→dC,not_lt→eD,toNat_natCast→fq,emod_nonneg→fv,emod_lt_of_pos→fw,zero_add→fD
open Or renaming inr→cq,inl→cM
open PySem renaming wpAny_bind→gJ,wpAny_pure→gK,SetTable→gM,sizeLine→gN,starEach→gQ,Program→gT,Builtin→gU,compareOp→gX,NameKind→gZ,wpAny_mono→hB,mainGlobals→hV,binaryOp→hZ,PassesOwn→h9,wpAny_holding→ib,sysModules→ic,sizeLine_eq→ie,holding→ig,bootBuiltins→ij,FuncData→ik,wpAny_call_entry→im,wpAny_field→iq,scanBound→iu,wpAny_setState_of→iw,codeAny→iy,swapsWith→iB,valueAt→iC,wpAny_ite_split→iF,standAt→iH,assignEach→iI,foldedSetIterable→iJ,wpAny_newObj_type→iK,pickOrder→iM,wpAny_rule→iN,wpAny_truthy_bool→iO,codeAny_mono→iP,wpAny_setField→iQ,inplaceOp→iR,wpAny_attempt→iU,unsupported→iV,codeAny_builtin→iW,wpAny_execs_nil→iY,attributeBase→iZ,backToKw→i5,keywordEach→i6,wpAny_passesOwn→i7,behindInMarks→i8,DictEntry→i9,getMethod→ja,wpAny_call→jc,Keyword→jd,typeIs_str→je,sliceBounds→jf,callerA→jg,noteFrame→jh,compEnvC→ji,plainId_quiet→jj,wpAny_isInstance→jk,wpAny_setEntries_of→jl,BindsTo→jo,callWith→jp,notedBy→jq,relayAll→js,wpAny_dictEntries→jt,tupleKind→ju,intKind→jv,wpAny_load→jw,wpAny_pyIter_list→jx,wpAny_Call_Name_kw→jy,getItem→jz,call_meetsIn→jA,checkBuiltinCall→jB,wpAny_newTuple→jE,wpAny_storeSet_of→jF,fits_of_scanBound→jG,wpAny_askSetting→jH,isSubtype_type→jI,entryFor→jJ,wpAny_seqItems→jK,wpAny_execs_cons→jL,setItem→jM,unaryOp→jN,lastMarks→jO,leaving→jP,wpAny_typeOf→jQ,wpAny_getItem_str_slice→jR,post_val_or_str→jS,ElemsOf→jT,setAddHashed→jU,storeSet→jV,GenState→jW,wpAny_of_eq→jX,setNext→jY,wpAny_fieldsOf→jZ,wpAny_setEpoch_of→j3,wpAny_setField_rec→j5,builtinsNs→j6,storeName→j7,wpAny_Name→j8,wpAny_standAt→j9,swapsWithSole→kc,swappedStores→kf,letOwnedTupleGo→kg,bindArgs→kh,cellsFrom→ki,seqIndex_of→kj,seqIndex_neg→km,call_meets→kr,tupleKind_room_in1→kt,compPost→ku,wpAny_throw→kx,codeAny_call_builtin→kB,wpAny_newList→kG,setAddHashedIn→kH,codeAny_of_tree→kI,entryFor_alias→kJ,wpAny_updateSeq→kK,wpAny_forIn_list→kL,wpAny_notOrdered_dict→kM,wpAny_dictEpoch→kO,setMerge→kP
open PyProof.Rows renaming wpS_bind→gO,wpS_pure→gR,pendingOf→gY,wpS_forRange→ii,IntsAre→io,wpS_mono→ip,failedOf→ir,SortKind→iz,wpS_modify→iA,wpS_get→iE,AllBare→iG,sortedS→iX,StrsAre→jm,pairsOf→jr,reverseSlice'→jC,setPending→jD,mergeAt'→kC,listUpdate_at→kE,seqEpoch_at→kF
abbrev Fg:=PySem.W.Frag
set_option tactic.hygienic false
namespace PySem.W.Fast
noncomputable def z:=0
def tw7890335001961188717:=z
def tw127314161283638411:=z
def tw5234429993260726375:=z
def tw8742455871961845000:=z
def tw16812727076310106707:=z
def tw16663530952262430099:=z
def tw12810570231232830494:=z
def tw18074445286083915410:=z
def tw1314243229936862114:=z
def tw2277971977752615876:=z
def tw12922432560153467496:=z
def tw12342675231917339589:=z
def tw8327579220494071122:=z
def tw16917596213391325575:=z
def tw17453436811862825543:=z
def tw2005249360869398400:=z
def tw13022267181383384470:=z
def tw11369783326840004911:=z
def tw5386475621586041606:=z
def tw1027180376611918967:=z
def tw12802340096335407625:=z
def tw6353402484210021322:=z
def tw18105501687096203520:=z
def tw14166054007290535328:=z
def tw876761133160072139:=z
def tw2360754854279506655:=z
def tw5891806341888218935:=z
def tw2007615004567880152:=z
def tw15895040610943620001:=z
def tw9579352060549263551:=z
def tw4166959173649613407:=z
def tw14390294617714990448:=z
def tw4435920547481657781:=z
def tw13510044674255752770:=z
def tw7683091273729157354:=z
def tw3363237307777800024:=z
def tw10687643955960340851:=z
def tw76504546345131391:=z
def tw908444783839040272:=z
def tw4828655099754480196:=z
def tw6941845112634622804:=z
def tw11442850216001955604:=z
def tw4596602234630954892:=z
def tw17136669420400377990:=z
def tw13240649552554395875:=z
def tw12158377265037653978:=z
def tw16437713082628070944:=z
def tw16650621476189901788:=z
def tw1757761807672644456:=z
def tw3681292215849769355:=z
def tw15134840718824207751:=z
def tw13787918101162373548:=z
def tw13893572355783597399:=z
def tw3517471128909412611:=z
def tw2236073328375217403:=z
def tw14154632808847614445:=z
def tw17011331031910412370:=z
def tw4110478521656461872:=z
def tw7768230328041440508:=z
def tw2698190583717425952:=z
def tw7041349259113373215:=z
def tw11334136615730738893:=z
def tw7222222249488318519:=z
def tw701815834627296628:=z
def tw11138145244019371550:=z
def tw7937615814475812916:=z
def tw7080195245917631143:=z
def tw6184881443240604379:=z
def tw11153980298965112337:=z
def tw10847893415059462547:=z
def tw277104661823899860:=z
def tw7011384672063363414:=z
def tw16585384919365340741:=z
def tw9272031848131511706:=z
def tw3160598526499574738:=z
def tw568555057613343083:=z
def tw18113695455031749047:=z
def tw18689996264369391:=z
def tw11540585928947431893:=z
def tw7777998807869571188:=z
def tw2364756246073048133:=z
def tw18173341506948506486:=z
def tw5579411748986044290:=z
def tw6565261506256575605:=z
def tw16401886059284498550:=z
def tw13361084015047142500:=z
def tw1965075552156709826:=z
def tw11255043128763546138:=z
def tw7638193077945341719:=z
def tw7804446576360563449:=z
def tw16611498953662576414:=z
def tw15359132935091327390:=z
def tw1524837860342710951:=z
def tw14683578090484066660:=z
def tw17621859020338472609:=z
def tw16632913095887777970:=z
def tw9457760924228049512:=z
def tw9221393714174846855:=z
def tw10573146415308780478:=z
def tw6013989498244004265:=z
def tw11226407728288263583:=z
def tw246543618411915958:=z
def tw5698910642568792544:=z
def tw11632732055306348040:=z
def tw13580958583398632840:=z
def tw17722595998464923191:=z
def tw5472333533193235497:=z
def tw17595698483012076727:=z
def tw10279053518678093313:=z
def tw397241583552555074:=z
def tw18292841950669175949:=z
def tw17261679207011385126:=z
def tw15929808908880640496:=z
def tw13703556382105325864:=z
def tw9897055480914699180:=z
def tw2780166142014480337:=z
def tw1423006106848628169:=z
def tw10629165727788554754:=z
def tw13760951486485314670:=z
def tw15987481534030120927:=z
def tw414412132094471450:=z
def tw12501586906643997410:=z
def tw12670944925732761889:=z
def tw17766990788620092723:=z
def tw7234569994064918572:=z
def tw15044222344517354342:=z
def tw16894118539388535448:=z
def tw14847518872558835090:=z
def tw11808317391979340817:=z
def tw8754988689872252235:=z
def tw9713209316790062775:=z
def tw7269412217146127238:=z
def tw5180407548186750479:=z
def tw7066458438092478326:=z
def tw1898507567898623435:=z
def tw15399917359655673918:=z
def tw6748694708966181439:=z
def tw1882538352430033370:=z
def tw10959165871371027458:=z
def tw9874293822232291957:=z
def tw4493396172234579080:=z
def tw1897497549677606187:=z
def tw15303277650574185843:=z
def tw17788777612302361254:=z
def tw16088733028588898508:=z
def tw5571982000319125406:=z
def tw9294861554892256605:=z
def tw16424476658513586343:=z
def tw15587811387932571621:=z
def tw4229492003029713052:=z
def tw10279320611945584682:=z
def tw8623575984970520046:=z
def tw8039387455398999431:=z
def tw13653138736351093187:=z
def tw15612509666163260237:=z
def tw16018098570792166375:=z
def tw13798583878528956756:=z
def tw4371172100130441742:=z
def tw3293912605250480338:=z
def tw5265199324244801697:=z
def tw10451772700885928815:=z
def tw5165910592157023255:=z
def tw1437002244863936983:=z
def tw4038880917322273599:=z
def tw5598787281569550644:=z
def tw11709327669719000995:=z
def tw11338901562946164329:=z
def tw4518968093776204911:=z
def tw5533989531636972859:=z
def tw7294708322990706166:=z
def tw11451198188445668668:=z
def tw15076598430195536876:=z
def tw963188676041435294:=z
def tw160817687071721087:=z
def tw14629439852039817729:=z
def tw14475552395064919759:=z
def tw14340058699742441784:=z
def tw12955011433934214521:=z
def tw4322660494498744107:=z
def tw1959616501012411898:=z
def tw13211693775049392928:=z
def tw7422739846269585348:=z
def tw1842803587069513214:=z
def tw14057510178579549537:=z
def tw14145700299700999460:=z
def tw16892501157384620858:=z
def tw14174013239240381545:=z
def tw3623797865645826423:=z
def tw17838855741390333142:=z
def tw10316085343308555792:=z
def tw6503136931522809846:=z
def tw15492772795604632752:=z
def tw13210940273649022846:=z
def tw16978215110936230998:=z
def tw9174518790691051037:=z
def tw16422502621763813320:=z
def tw10309369579282078172:=z
def tw8313671534731562464:=z
def tw930947956603614649:=z
def tw15448035911111085803:=z
def tw15455082664505020789:=z
def tw1890115844729041377:=z
def tw2439089647051585746:=z
def tw3632913332123802111:=z
def tw16617845994761021872:=z
def tw1979251531546340019:=z
def tw7498419360416902711:=z
def tw8788985535108856643:=z
def tw13918339441850034446:=z
def tw13509522681589167958:=z
def tw4193852127755104546:=z
def tw7585292929562936937:=z
def tw13261402406163272010:=z
def tw3315987197432931425:=z
def tw13034378085461924794:=z
def tw9995073557432875505:=z
def tw7266534819536798899:=z
def tw1695247838205658016:=z
def tw18389750560914840128:=z
def tw4489261274619195243:=z
def tw9652915641197791599:=z
def tw169689646313617289:=z
def tw14756983840477681164:=z
def tw5336561991740431557:=z
def tw10646863689559820732:=z
def tw15485302793361468133:=z
def tw10739474247174730784:=z
def tw2356772987485580045:=z
def tw18059452483399250982:=z
def tw15421102674995445490:=z
def tw16042995958075124043:=z
def tw7106944772398898964:=z
def tw17309864019273096830:=z
def tw15448270769700772374:=z
def tw11230744334940930224:=z
def tw16894796657074432923:=z
def tw397489381926342166:=z
def tw7174034594661057746:=z
def tw17485874119891780886:=z
def tw8849096437988403259:=z
def tw10410186979260394098:=z
def tw12343830458088609622:=z
def tw14918064289473486082:=z
def tw9345554312883836117:=z
def tw1231040834055510453:=z
def tw15669298920237944430:=z
def tw2586703096270936718:=z
def tw6087580122511736988:=z
def tw13466214969752182219:=z
def tw6221174970646626602:=z
def tw13153084539602469353:=z
def tw3158746919715650231:=z
def tw3937037448669191375:=z
def tw3327157992029299936:=z
def tw2010474804650137313:=z
def tw15148120994755393566:=z
def tw12364861308696109281:=z
def tw7862003045801116694:=z
def tw5400569337410757322:=z
def tw13644695593874916648:=z
def tw10749741108903523485:=z
def tw14210011382930112488:=z
def tw5471563668973761020:=z
def tw4390893210607000629:=z
def tw6539518935308936975:=z
def tw14432395632505016895:=z
def tw13714893258193594133:=z
def tw6800623005781998622:=z
def tw8698980960775591561:=z
def tw8865166746797873205:=z
def tw2937191312133941998:=z
def tw3937357082172574736:=z
def tw12429723849008593840:=z
def tw11187521953410070154:=z
def tw1786569741662529922:=z
def tw14441219395872308492:=z
def tw14995269316006333189:=z
def tw8755673823536602705:=z
def tw16843500076821374228:=z
def tw3575488486333277819:=z
def tw16268755031507494053:=z
def tw11770158966625220922:=z
def tw10055641798061088227:=z
def tw13789117101599219019:=z
def tw12644963766841959246:=z
def tw6984334077230972732:=z
def tw13491598361943049692:=z
def tw16170481886992947388:=z
def tw10637341482290525119:=z
def tw14006314643985130688:=z
def tw575790815061387298:=z
def tw16486425135522008488:=z
def tw12334598721231374934:=z
def tw16556652907173809765:=z
def tw12279330911960577767:=z
def tw1506545077247618110:=z
def tw16032336388880824652:=z
def tw8360757282721838862:=z
def tw2669587074927788015:=z
def tw16375086021250283281:=z
def tw3308989301832312716:=z
def tw8163157971410806337:=z
def tw18109223176692190929:=z
def tw7354140196061410214:=z
def tw4261511853647715018:=z
def tw17717530885168778148:=z
def tw2780996323041807466:=z
def tw4351361710695330846:=z
def tw7972250645719966834:=z
def tw4899397404774574883:=z
def tw1646040473474911479:=z
def tw992883984372424157:=z
def tw7976311896912045713:=z
def tw15818037960416367876:=z
def tw17582815586233518498:=z
def tw15048511030515331709:=z
def tw8015563103953509986:=z
def tw5686731104779095531:=z
def tw15343114822664343157:=z
def tw5448487158999769482:=z
def tw3327424331696262230:=z
def tw7275871800702601846:=z
def tw34583148515320306:=z
def tw12276451322622065444:=z
def tw5536300024769205839:=z
def tw6210903501097205798:=z
def tw2437050823666168014:=z
def tw14217423480532282382:=z
def tw14603749583013545297:=z
def tw7296048964182859723:=z
def tw17778765456683100049:=z
def tw16633936313524583823:=z
def tw15163635750830617367:=z
def tw1012656181375850135:=z
def tw9658995887409731577:=z
def tw8105728122052363890:=z
def tw3659840201726001680:=z
def tw12553285318420868734:=z
def tw4013192730545184827:=z
def tw11066455991675098738:=z
def tw17988450158641071083:=z
def tw10626680788475274597:=z
def tw8386040186382712033:=z
def tw2321699296804515264:=z
def tw7411657493495648802:=z
def tw6591739457462943800:=z
def tw7126800975054500321:=z
def tw4447263504650421295:=z
def tw1995207568696884255:=z
def tw4792419762220548241:=z
def tw7412605710106988576:=z
def tw9689471765889039119:=z
def tw4684358349848976746:=z
def tw4489485327433728025:=z
def tw14771718861725104455:=z
def tw10482131323543432693:=z
def tw17614445052878263021:=z
def tw9754260631484067604:=z
def tw2182326291479542884:=z
def tw6897577652790747719:=z
def tw5517414171041292082:=z
def tw6160714001386269068:=z
def tw16589146690119315130:=z
def tw16241346036261164592:=z
def tw13281486975484868934:=z
def tw6141101696544943032:=z
def tw6762990056871415778:=z
def tw6524622856177030702:=z
def tw9751431763727469486:=z
def tw13174111461830856103:=z
def tw14050028012264360193:=z
def tw2473913275087366217:=z
def tw2458694488965738502:=z
def tw13622421015558757566:=z
def tw13814895167188418860:=z
def tw13448675827389631782:=z
def tw7819011066687613004:=z
def tw9198028719471535646:=z
def tw8119344855135861679:=z
def tw8887361458096639569:=z
def tw11973033014130863229:=z
def tw17827347726006117838:=z
def tw11716055505971286964:=z
def tw7107905519757442871:=z
def tw3105038341105757469:=z
def tw2761528987727322247:=z
def tw15011059316478841785:=z
def tw13548988938776093000:=z
def tw4332281142539649934:=z
def tw16281230882895657068:=z
def tw4695957014356629603:=z
def tw261877522053305553:=z
def tw6714688523418541681:=z
def tw6121599476857846862:=z
def tw5911164130418160288:=z
def tw5646264388502913503:=z
def tw8995217559309471447:=z
def tw384515455640748629:=z
def tw12284406150369010621:=z
def tw7791858584046753510:=z
def tw8485522837781621452:=z
def tw2350990914243337495:=z
def tw961176691716892684:=z
def tw2764887314736946107:=z
def tw8260670424483458183:=z
def tw13930498869377288623:=z
def tw15622079577928381699:=z
def tw10722804482870922090:=z
def tw1536378354772321178:=z
def tw10966249789043718296:=z
def tw8613000597307873361:=z
def tw9138342444747819145:=z
def tw15214557320794677180:=z
def tw10854937547785825079:=z
def tw8789872897813021908:=z
def tw13402980719753892533:=z
def tw11560330585697501420:=z
def tw2774849103931245240:=z
def tw365987715738333586:=z
def tw10281242909496191348:=z
def tw17469859558024327765:=z
def tw12352225672949662508:=z
def tw7326667040174448857:=z
def tw10638174489754462302:=z
def tw11961544795512708235:=z
def tw7908004376352119853:=z
def tw7407861235760982022:=z
def tw4007529066890658690:=z
def tw13135973244651983955:=z
def tw506042113773653465:=z
def tw1001873179943443403:=z
def tw12410794969060395411:=z
def tw15752814715351811799:=z
def tw5725728880957197109:=z
def tw14629800326580085078:=z
def tw5197051683336410025:=z
def tw15155992657147901689:=z
def tw18088553943395757045:=z
def tw7116924042506059523:=z
def tw12171604746562908885:=z
def tw14576686165151662426:=z
def tw1667281255249296716:=z
def tw17635767169223335213:=z
def tw17453024097384923180:=z
def tw11082517277806204033:=z
def tw11026286278052084815:=z
def tw3517904156890446519:=z
def tw878449226833221474:=z
def tw2623348778243769130:=z
def tw10397102807827924188:=z
def tw2138520361954235807:=z
def tw7924265346463160523:=z
def tw8364379520156226712:=z
def tw11132087176755143177:=z
def tw11965190575356441399:=z
def tw6255495977255381463:=z
def tw15798589764721272576:=z
def tw17572127920120334750:=z
def tw8115625858422125704:=z
def tw4930571388640037717:=z
def tw5402140070832132563:=z
def tw5569337457384671280:=z
def tw9962693555124694898:=z
def tw6293310537543810661:=z
def tw10611394300749622355:=z
def tw13937188176293803526:=z
def tw11990269401518809896:=z
def tw17901463459783035750:=z
def tw7245926138929130263:=z
def tw14633882741714799270:=z
def tw12951646944323048863:=z
def tw11364960686429976889:=z
def tw132797888293794059:=z
def tw17785277619917114073:=z
def tw13349840473381008802:=z
def tw8629464194577774529:=z
def tw10040350953129160319:=z
def tw14433537230234573378:=z
def tw8067031329905672776:=z
def tw13741030809799424319:=z
end PySem.W.Fast
set_option genInjectivity false in
inductive Ex2 {α0 α1:Type}(p:α0->α1->Prop):Prop
 |mk (a0:α0) (a1:α1) (h:p a0 a1):Ex2 p
set_option genInjectivity false in
inductive Ex3 {α0 α1 α2:Type}(p:α0->α1->α2->Prop):Prop
 |mk (a0:α0) (a1:α1) (a2:α2) (h:p a0 a1 a2):Ex3 p
set_option genInjectivity false in
inductive Ex4 {α0 α1 α2 α3:Type}(p:α0->α1->α2->α3->Prop):Prop
 |mk (a0:α0) (a1:α1) (a2:α2) (a3:α3) (h:p a0 a1 a2 a3):Ex4 p
set_option genInjectivity false in
inductive Ex5 {α0 α1 α2 α3 α4:Type}(p:α0->α1->α2->α3->α4->Prop):Prop
 |mk (a0:α0) (a1:α1) (a2:α2) (a3:α3) (a4:α4) (h:p a0 a1 a2 a3 a4):Ex5 p
set_option genInjectivity false in
inductive Ex6 {α0 α1 α2 α3 α4 α5:Type}(p:α0->α1->α2->α3->α4->α5->Prop):Prop
 |mk (a0:α0) (a1:α1) (a2:α2) (a3:α3) (a4:α4) (a5:α5) (h:p a0 a1 a2 a3 a4 a5):Ex6 p
set_option genInjectivity false in
inductive Ex7 {α0 α1 α2 α3 α4 α5 α6:Type}(p:α0->α1->α2->α3->α4->α5->α6->Prop):Prop
 |mk (a0:α0) (a1:α1) (a2:α2) (a3:α3) (a4:α4) (a5:α5) (a6:α6) (h:p a0 a1 a2 a3 a4 a5 a6):Ex7 p
set_option genInjectivity false in
inductive Ex8 {α0 α1 α2 α3 α4 α5 α6 α7:Type}(p:α0->α1->α2->α3->α4->α5->α6->α7->Prop):Prop
 |mk (a0:α0) (a1:α1) (a2:α2) (a3:α3) (a4:α4) (a5:α5) (a6:α6) (a7:α7) (h:p a0 a1 a2 a3 a4 a5 a6 a7):Ex8 p
set_option genInjectivity false in
inductive Ex9 {α0 α1 α2 α3 α4 α5 α6 α7 α8:Type}(p:α0->α1->α2->α3->α4->α5->α6->α7->α8->Prop):Prop
 |mk (a0:α0) (a1:α1) (a2:α2) (a3:α3) (a4:α4) (a5:α5) (a6:α6) (a7:α7) (a8:α8) (h:p a0 a1 a2 a3 a4 a5 a6 a7 a8):Ex9 p
inductive An3 (a0 a1 a2:Prop):Prop
 |mk (h0:a0) (h1:a1) (h2:a2):An3 a0 a1 a2
inductive An4 (a0 a1 a2 a3:Prop):Prop
 |mk (h0:a0) (h1:a1) (h2:a2) (h3:a3):An4 a0 a1 a2 a3
inductive An5 (a0 a1 a2 a3 a4:Prop):Prop
 |mk (h0:a0) (h1:a1) (h2:a2) (h3:a3) (h4:a4):An5 a0 a1 a2 a3 a4
inductive An6 (a0 a1 a2 a3 a4 a5:Prop):Prop
 |mk (h0:a0) (h1:a1) (h2:a2) (h3:a3) (h4:a4) (h5:a5):An6 a0 a1 a2 a3 a4 a5
inductive An7 (a0 a1 a2 a3 a4 a5 a6:Prop):Prop
 |mk (h0:a0) (h1:a1) (h2:a2) (h3:a3) (h4:a4) (h5:a5) (h6:a6):An7 a0 a1 a2 a3 a4 a5 a6
set_option maxHeartbeats 4000000
namespace PySem
noncomputable def a0G(env:Env):List (Str×gZ)->List (Str×Addr)->List (Str×Addr)
 |[],cs=>cs
 | (n,k,)::r,cs=>if (k==.free)=kz then a0G env r ((n,(env.cells.lookup n).getD 0,)::cs) else a0G env r cs
def a4g(h:∀x∈scope.names,x.2=.free->∃c,env.cells.lookup x.1=bH c):closureFor scope env=pure (a0G env scope.names []):=by
 simp only[closureFor]
 suffices H:∀l b,(∀x∈l,x.2=.free->∃c,env.cells.lookup x.1=bH c) ->
   forIn l b _=pure (a0G env l b) by
  rw[H scope.names [] h];rfl
 ext l
 induction l with
 |nil=>ext b _;rfl
 |cons x l ih=>
  ext b j;let(n,k):=x;let g:=λb=>ih b λy o=>j y (cg _ o);rw[dh]
  by_cases hk:k=.free
  .subst hk;let(c,m):=j _ cn rfl;let f:cellOf env n=pure c:=by unfold cellOf;rw[m]
   rw[if_pos (show (gZ.free==gZ.free)=kz from rfl),f];let e:a0G env ((n,gZ.free,)::l) b=a0G env l ((n,c,)::b):=by
    change (if (gZ.free==gZ.free)=kz then _ else _)=_
    rw[m];rfl
   rw[e,<- g ((n,c,)::b)]
   rfl
  .let i:(k==gZ.free)=kQ:=↑hk
   let e:a0G env ((n,k,)::l) b=a0G env l b:=by
    change (if (k==gZ.free)=kz then _ else _)=_
    rw[i];rfl
   rw[e,<- g b];rw[i,if_neg bT]
   rfl
def a4h:∀(l:List (Str×gZ))(cs:List (Str×Addr)),(∀y∈l,y.2=.free->∃c,env.cells.lookup y.1=bH c)->(∀y c,cs.lookup y=bH c->env.cells.lookup y=bH c) ->
  ∀c,(a0G env l cs).lookup x=bH c->env.cells.lookup x=bH c:=by ext z0;induction z0 with
 |nil=>ext cs _ hc c h;show hc x c h
 |cons q0 r I0=>
  let(n,k):=q0;ext cs hx hc c h;let g:=λy m=>hx y (cg _ m);unfold a0G at h
  split at h
  .rename_i hk
   let f:k=.free:=↑hk
   let(d,j):=hx (n,k,) cn f;show I0 _ g (λy i a=>?_) c h;rw[cv]at a;cases e:y==n with
   |true=>
    rw[e]at a;let o:y=n:=↑e
    subst o;rw[j]at a ⊢;show a
   |false=>rw[e]at a;show hc y i a
  .show I0 cs g hc c h
def a5P:∀(l:List (Str×gZ))(cs:List (Str×Addr))(c:Addr),cs.lookup x=bH c->∃c',(a0G env l cs).lookup x=bH c':=by ext z0;induction z0 with
 |nil=>ext cs c h;show(c,h)
 |cons q0 r I0=>
  let(n,k):=q0;ext cs c h;unfold a0G
  split
  .cases e:x==n with
   |true=>show I0 _ _ (by rw[cv,e])
   |false=>show I0 _ c (by rw[cv,e];show h)
  .show I0 cs c h
def a3V:∀(l:List (Str×gZ))(cs:List (Str×Addr)),(x,gZ.free,)∈l->∃c,(a0G env l cs).lookup x=bH c:=by ext z0;induction z0 with
 |nil=>ext cs h;cases h
 |cons _ r I0=>
  ext cs h;unfold a0G;let e||e:=bf.mp h
  .cases e;show a5P r _ ((env.cells.lookup x).getD 0) (by simp)
  .split
   .show I0 _ e
   .show I0 _ e
def a3B{env:Env}:∀(names:List (Str×gZ)),
  (names.map λ(n,k,)=>if (k==gZ.free&&env.scope.kind==.function&&env.kindOf n==bH .cell) then (n,gZ.cell,) else (n,k,)).lookup x =
   (names.lookup x).map λk=>if (k==gZ.free&&env.scope.kind==.function&&env.kindOf x==bH .cell)=kz then gZ.cell else k:=by ext z0;induction z0 with
 |nil=>show rfl
 |cons q0 r I0=>
  let(n,k):=q0;let a:=I0
  change ei x ((if _=kz then _ else (n,k,))::_)=_
  cases hx:x==n with
  |true=>
   let e:x=n:=by grind
   subst e
   by_cases hc:(k==gZ.free&&env.scope.kind==.function&&env.kindOf x==bH .cell)=kz
   simp only[cv,hx,di,if_pos hc];simp only[cv,hx,di,if_neg hc]
  |false=>
   by_cases hc:(k==gZ.free&&env.scope.kind==.function&&env.kindOf n==bH .cell)=kz
   .rw[if_pos hc];simp only[cv,hx];show a
   .rw[if_neg hc];simp only[cv,hx];show a
def a1P(I:Nat->Shared->Prop)
  (turn:∀n s,I n s->wpAny (model prog w) A (pyNext it) (λr sj=>match r with
   |none=>R (.ok .next) sj
   |some v=>wpAny (model prog w) A (kg target it v) (λ_ sj=>wpAny (model prog w) A (assign target env v) (λ_ sv=>
     wpAny (model prog w) A (forIn ifs kz λc r=>if r=kz then do let ok <- isTrue c env (eval c env);pure (ForInStep.yield ok) else pure (ForInStep.yield r)) (λok sw=>
      if ok=kz then wpAny (model prog w) A (eval elt env) (λx sJ=>
       wpAny (model prog w) A (call (.builtin "list.append") [acc,x]) (λ_ sQ=>∃m,m<n/\I m sQ) (jq (model prog w) A env λe s'=>R (.error e) s') sJ) (jq (model prog w) A env λe s'=>R (.error e) s') sw
      else ∃m,m<n/\I m sw) (jq (model prog w) A env λe s'=>R (.error e) s') sv) (jq (model prog w) A env λe s'=>R (.error e) s') sj) (λ_ _=>False) sj) (λ_ _=>False) s)
  (n:Nat) (h:I n s) :
  iy (model prog w) A (.compLoop (.ListComp elt [(target,iter,ifs,0)] scope pos) 0 it acc env) R s:=by
 show codeAny_loop rfl I (λn s k=>?_) n h;show wpAny_noted (gJ (j9 (gJ (hB (turn n s k) (λr d a=>?_) λ_ _ f=>f.elim))));cases r with
 |none=>show gK a
 |some v=>
  show gJ (hB a (λ_ d a=>?_) λ_ _ f=>f.elim);show gJ (hB a (λ_ p g=>gJ (hB g (λl z b=>?_) λ_ _ f=>f)) λ_ _ f=>f);cases l with
  |false=>show gK (rfl,b)
  |true=>
   show gJ (gJ (hB b (λx o i=>gJ (hB i (λ_ u j=>gK (gK (rfl,j))) λ_ _ f=>f)) λ_ _ f=>f))
end PySem
namespace L2
open PySem PySem.Spec PyProof.Rows
variable{P prog:gT}{w:World}{H H':Hp}{X:Cx}{pins:List (Addr×Obj)}{s:Shared}{pos tpos apos:Pos}{E:Value->Shared->Prop}{A:Around}{dx:Addr}{es ifs:List Expr}{m y:Str}{to:E3}{κ:KF}{N':List Str}{cap:List (Option Nat)}{elt iter:Expr}
abbrev Key:=Sum (Option Int) Str
noncomputable def b8M:Value->Bool
 |.none=>kz
 |_=>kQ
noncomputable def a7t:Key->Value->Bool
 |.inl (bH k),v=>Value.isInt k v
 |.inl gV,v=>b8M v
 |.inr x,v=>Value.isStrOf x v
noncomputable def keyH(w:World):Key->Int
 |.inl (bH k)=>hashInt k
 |.inl gV=>reduceHash 0xFCA86420
 |.inr x=>hashStr w x
theorem a0q:∀{k:Key}{v:Value},a7t k v=kz->(∃i t,k=Sum.inl (bH i)/\v=Value.int i t)\/(∃x t,k=Sum.inr x/\v=Value.str x t)\/(k=Sum.inl gV/\v=Value.none)
 |.inl (bH i),v,h=>by
  let(t,e):=Value.isInt_shape h;show .inl (i,t,rfl,e)
 |.inl gV,v,h=>by
  cases v<;>first |show .inr (.inr (rfl,rfl)) |cases h
 |.inr x,v,h=>by
  let(t,e):=Value.isStrOf_shape h;show .inr (.inl (x,t,rfl,e))
def a8d(i:Int)(t:Tok):a7t (.inl (bH i)) (.int i t)=kz:=by simp[a7t,Value.isInt]
def a8e(x:Str)(t:Tok):a7t (.inr x) (.str x t)=kz:=by simp[a7t,Value.isStrOf]
def b5I(a b:Int):decide ((Sum.inl (bH a):Key)=Sum.inl (bH b))=(a==b):=by
 by_cases e:a=b
 .simp_all
 .simp_all
def b5J(a b:Str):decide ((Sum.inr a:Key)=Sum.inr b)=decide (a=b):=by simp
def a3O{a b:Key}(h:a≠b):decide (a=b)=kQ:=decide_eq_false h
noncomputable def a0g(prog:gT)(w:World):PySem.KeyKind prog w Key where
 is:=a7t
 hash:=keyH w
 inj:=λv a b ha hb=>by
  let(i,t,rfl,rfl)||(x,t,rfl,rfl)||(rfl,rfl):=a0q ha
  .let(j,u,rfl,e)||(y,u,rfl,e)||(rfl,e):=a0q hb
   .injection e with e1 _;rw[e1]
   .show nomatch e
   .show nomatch e
  .let(j,u,rfl,e)||(y,u,rfl,e)||(rfl,e):=a0q hb
   .show nomatch e
   .injection e with e1 _;rw[e1]
   .show nomatch e
  .let(j,u,rfl,e)||(y,u,rfl,e)||(rfl,e):=a0q hb
   .show nomatch e
   .show nomatch e
   .rfl
 byValue:=λk v h=>by
  let(i,t,rfl,rfl)||(x,t,rfl,rfl)||(rfl,rfl):=a0q h<;>rfl
 pyHash:=λhv h=>by
  let(i,t,rfl,rfl)||(x,t,rfl,rfl)||(rfl,rfl):=a0q hv
  .show wpAny_pyHash_int h
  .show wpAny_pyHash_str h
  .show PySem.W.pyHash_slot (T:="NoneType") rfl F.slot_NoneType_hash F.entry_NoneType_hash (F.args_NoneType_hash_1 _) (beq_builtin_none _) (.inl rfl) (gJ (gK (gJ (wpAny_mkInt (gK (_,_,rfl,h))))))
 eqBool:=λhu hv h=>by
  let(i,t,rfl,rfl)||(x,t,rfl,rfl)||(rfl,rfl):=a0q hu
  .let(j,u,rfl,rfl)||(y,u,rfl,rfl)||(rfl,rfl):=a0q hv
   .rw[b5I]at h;show wpAny_eqBool_int h
   .rw[show decide ((Sum.inl (bH i):Key)=Sum.inr y)=kQ from a3O (by simp)]at h;show SeqAt.EqAt.int_str i t y u _ _ _ _ h
   .rw[show decide ((Sum.inl (bH i):Key)=Sum.inl gV)=kQ from a3O (by simp)]at h;show SeqAt.EqAt.int_none i t _ _ _ _ h
  .let(j,u,rfl,rfl)||(y,u,rfl,rfl)||(rfl,rfl):=a0q hv
   .rw[show decide ((Sum.inr x:Key)=Sum.inl (bH j))=kQ from a3O (by simp)]at h;show SeqAt.EqAt.str_int x t j u _ _ _ _ h
   .rw[b5J]at h;show wpAny_eqBool_str h
   .rw[show decide ((Sum.inr x:Key)=Sum.inl gV)=kQ from a3O (by simp)]at h;show SeqAt.EqAt.str_none x t _ _ _ _ h
  .let(j,u,rfl,rfl)||(y,u,rfl,rfl)||(rfl,rfl):=a0q hv
   .rw[show decide ((Sum.inl gV:Key)=Sum.inl (bH j))=kQ from a3O (by simp)]at h;show SeqAt.EqAt.none_int j u _ _ _ _ h
   .rw[show decide ((Sum.inl gV:Key)=Sum.inr y)=kQ from a3O (by simp)]at h;show SeqAt.EqAt.none_str y u _ _ _ _ h
   .rw[decide_eq_true rfl]at h;unfold PySem.eqBool;show ib ?_;show iF (λ_=>gJ (iN (gK h))) λhab=>absurd rfl hab
 «strs»:=λk x t v h=>by
  let(i,u,rfl,e)||(y,u,rfl,e)||(rfl,e):=a0q h
  .show nomatch e
  .injection e with e1 _
   subst e1;cases v<;>rfl
  .show nomatch e
def a5G(prog:gT)(w:World)(i:Int)(t:Tok):(a0g prog w).is (.inl (bH i)) (.int i t)=kz:=a8d i t
def a5H(prog:gT)(w:World)(x:Str)(t:Tok):(a0g prog w).is (.inr x) (.str x t)=kz:=a8e x t
inductive V where
 |non |bl (b:Bool) |int (i:Int) |str (x:Str) |byt (b:Array UInt8) |flt (b:UInt64) |ref (a:Addr) |ty (n:String)
 deriving DecidableEq
def RelV:V->Value->Prop
 |.non,u=>u=Value.none
 |.bl b,u=>u=Value.bool b
 |.int i,u=>∃t,u=Value.int i t
 |.str x,u=>∃t,u=Value.str x t
 |.byt b,u=>∃t,u=Value.bytes b t
 |.flt b,u=>∃t,u=Value.float b t
 |.ref a,u=>u=Value.ref a
 |.ty n,u=>u=Value.type n
abbrev Vals:List V->List Value->Prop:=Paired RelV
def Vals.length(r:Vals xs us):xs.length=us.length:=Paired.length r
theorem Vals.get:∀{xs:List V}{us:List Value}{i:Nat}{x:V},Vals xs us->xs[i]?=bH x->∃u,us[i]?=bH u/\RelV x u
 |_,_,_,_,.nil,e=>by simp at e
 |_,_,0,_,.cons r _,e=>by simp at e;subst e;show(_,rfl,r)
 |_,_,i+1,x,.cons _ t,e=>by
  let(u,b,a):=Vals.get t ↑e;show(u,↑b,a)
theorem Vals.set(r:RelV x u):∀{xs:List V}{us:List Value}(i:Nat),Vals xs us->Vals (xs.set i x) (us.set i u)
 |_,_,_,.nil=>.nil
 |_,_,0,.cons _ t=>.cons r t
 |_,_,i+1,.cons q t=>.cons q (Vals.set r i t)
def Vals.append:∀{xs ys:List V}{us ws:List Value},Vals xs us->Vals ys ws->Vals (xs++ys) (us++ws):=by ext z0 y0 x0 w0 v0;induction v0 with
 |nil=>ext s;show s
 |cons r t I0=>ext s;show .cons r (I0 s)
theorem Vals.take:∀{xs:List V}{us:List Value}(n:Nat),Vals xs us->Vals (xs.take n) (us.take n)
 |_,_,0,_=>.nil
 |_,_,_+1,.nil=>.nil
 |_,_,n+1,.cons r t=>.cons r (Vals.take n t)
theorem Vals.drop:∀{xs:List V}{us:List Value}(n:Nat),Vals xs us->Vals (xs.drop n) (us.drop n)
 |_,_,0,r=>r
 |_,_,_+1,.nil=>.nil
 |_,_,n+1,.cons _ t=>Vals.drop n t
def Vals.none_of:∀{xs:List V}{us:List Value}{i:Nat},Vals xs us->xs[i]?=gV->us[i]?=gV:=λ{a d i} r e=>by
 let b:=r.length;let c:=fI.mp e;show fI.mpr (by lia)
def RelO:Option V->Option Value->Prop
 |some v,bH u=>RelV v u
 |none,gV=>True
 |_,_=>False
def KV{κ:Type}:List (κ×V)->List (κ×Value)->Prop:=Paired λ(p:κ×V) (q:κ×Value)=>p.1=q.1/\RelV p.2 q.2
noncomputable def kV:Key->V
 |.inl (bH i)=>.int i
 |.inl gV=>.non
 |.inr x=>.str x
inductive HO where
 |lst (xs:List V)
 |tup (xs:List V)
 |dK (kvs:List (Key×V)) |dT (kvs:List (List Key×V))
 |set (S:Int->Bool) (n:Nat)
 |ins (C dx:Addr) (fs:List (Str×V))
 |own (x:Addr)
 |xd (fs:List (Str×V))
 |met (f x:Addr)
 |rng (lo hi:Int)
 |frz (o:Obj) (u:HO)
 |tbl (ps:Array Value)
 |ext (φ:Heap->Prop)
abbrev Hp:=Addr->Option HO
noncomputable def upd(H:Hp)(a:Addr)(o:HO):Hp:=λb=>if b=a then bH o else H b
def a0e:upd H a o a=bH o:=by unfold upd;rw[if_pos rfl]
def a0f(h:b≠a):upd H a o b=H b:=by unfold upd;rw[if_neg h]
def b8N{H:Hp}(h:H a=bH o)(h':H b=bH u)(d:o≠u):a≠b:=by
 ext e;subst e;rw[h]at h';show d (bH.inj h')
def a0B{H:Hp}(h:H a=bH o)(h':H b=gV):a≠b:=by
 ext e;subst e;rw[h]at h';cases h'
section
variable(P:gT)(w:World)
def ObjOk(H:Hp)(h:Heap)(a:Addr):HO->Prop
 |.lst xs=>xs.length<=gN/\∃(its:List Value)(n:Nat),Vals xs its/\h.get? a=bH { cls:=.type "list",data:=.seq its.toArray n }
 |.tup xs=>xs.length<=gN/\∃its:List Value,Vals xs its/\IsTup h a its.toArray
 |.dK kvs=>kvs.length<=gN/\(a==ic)=kQ/\∃vs,KV kvs vs/\h.DictOf (a0g P w) a vs
 |.dT kvs=>kvs.length<=gN/\(a==ic)=kQ/\∃xs:List (List Key×Addr×Value),
   Paired (λ(p:List Key×V) (q:List Key×Addr×Value)=>p.1=q.1/\H q.2.1=bH (.tup (p.1.map kV))/\RelV p.2 q.2.2) kvs xs /\
   ∃o es ep,h.get? a=bH o/\o.ExactDict/\o.data=.dict es ep/\es.toList=xs.map (entryOfKey (ju (a0g P w)))/\(xs.map (·.1)).Nodup
 |.set S n=>h.SetOf (jv P w) a S n
 |.ins C dx fs=>H dx=bH (.own a)/\fs.length<=1000/\dx≠a/\h.get? a=bH (PySem.W.instObj C dx) /\
   ∃mA,h.Ns1 dx mA/\(∀f,RelO (fs.lookup f) (mA f))/\PySem.Within mA (fs.map (·.1))
 |.own _=>∃o,h.get? a=bH o
 |.xd fs=>∃mA,h.Ns1 a mA/\∀f,RelO (fs.lookup f) (mA f)
 |.rng lo hi=>∃t u v,h.get? a=bH { cls:=.type "range",data:=.fields #[.int lo t,.int hi u,.int 1 v] }
 |.frz o u=>h.get? a=bH o/\ObjOk H h a u
 |.tbl ps=>h.get? a=bH { cls:=.none,data:=.fields ps }
 |.met f x=>h.get? a=bH (PySem.W.methodObj (.ref f) (.ref x))
 |.ext φ=>φ h/\(∃o,h.get? a=bH o)/\∀h1 h2:Heap,φ h1->(∀o,h1.get? a=bH o->h2.get? a=bH o)->φ h2
def HOk(H:Hp)(h:Heap):Prop:=∀a o,H a=bH o->ObjOk P w H h a o
end
section
variable{h h':Heap}{a:Addr}{o:HO}
def ObjOk.lt(x:ObjOk P w H h a o):a<h.objs.size:=by
 cases o with
 |lst xs=>let(_,_,_,_,e):=x;show Heap.lt_size e
 |tup xs=>let(_,_,_,p):=x;show p.lt
 |dK kvs=>let(_,_,_,_,o,_,_,e,_):=x;show Heap.lt_size e
 |dT kvs=>let(_,_,_,_,o,_,_,e,_):=x;show Heap.lt_size e
 |set S n=>let(o,_,_,_,e,_):=x;show Heap.lt_size e
 |ins C dx fs=>let(_,_,_,e,_):=x;show Heap.lt_size e
 |own y=>let(_,e):=x;show Heap.lt_size e
 |xd fs=>let(_,(_,_,_,e,_),_):=x;show Heap.lt_size e
 |rng lo hi=>let(_,_,_,e):=x;show Heap.lt_size e
 |frz ob u=>let(e,_):=x;show Heap.lt_size e
 |tbl ps=>show Heap.lt_size (x)
 |met f y=>show Heap.lt_size (x)
 |ext φ=>let(_,(_,e),_):=x;show Heap.lt_size e
def Paired.mapP{α β:Type}{F G:α->β->Prop}:∀{l₁:List α}{l₂:List β},Paired F l₁ l₂->(∀a b,F a b->G a b)->Paired G l₁ l₂:=by ext z0 y0 x0;induction x0 with
 |nil=>ext _;show .nil
 |cons r t I0=>ext f;show .cons (f _ _ r) (I0 f)
def ObjOk.stay(x:ObjOk P w H h a o)(k:∀b u,(b=a\/H b=bH (.own a))->h.get? b=bH u->h'.get? b=bH u)
  (ho:∀b,H b=bH (.own a)->H' b=bH (.own a)) (ht:∀b xs,H b=bH (.tup xs)->H' b=bH (.tup xs)):ObjOk P w H' h' a o:=by
 induction o with
 |lst s=>let(z,l,n,r,e):=x;show(z,l,n,r,k _ _ (.inl rfl) e)
 |tup s=>let(z,l,r,g,e,c):=x;show(z,l,r,g,k _ _ (.inl rfl) e,c)
 |dK kvs=>let(z,y,F,r,g,i,j,e,c):=x;show(z,y,F,r,g,i,j,k _ _ (.inl rfl) e,c)
 |dT kvs=>
  let(z,y,s,r,g,i,j,e,c):=x;show(z,y,s,Paired.mapP r λp q z=>(z.1,ht _ _ z.2.1,z.2.2),g,i,j,k _ _ (.inl rfl) e,c)
 |set S n=>let(g,i,j,t,e,c):=x;show(g,i,j,t,k _ _ (.inl rfl) e,c)
 |ins C dx fs=>
  let(d,z,D,e,A,(m,i,j,E,c),r):=x;show(ho _ d,z,D,k _ _ (.inl rfl) e,A,(m,i,j,k _ _ (.inr d) E,c),r)
 |own y=>let(g,e):=x;show(g,k _ _ (.inl rfl) e)
 |xd fs=>let(A,(m,i,j,e,c),r):=x;show(A,(m,i,j,k _ _ (.inl rfl) e,c),r)
 |rng lo hi=>let(t,u,v,e):=x;show(t,u,v,k _ _ (.inl rfl) e)
 |frz g u ih=>let(e,q):=x;show(k _ _ (.inl rfl) e,ih q)
 |tbl ps=>
  show k a _ (.inl rfl) x
 |met f y=>
  show k a _ (.inl rfl) x
 |ext φ=>let(p,(o,e),B):=x;show(B _ _ p λo q=>k _ _ (.inl rfl) q,(o,k _ _ (.inl rfl) e),B)
def HOk.lt(x:HOk P w H h)(e:H a=bH o):a<h.objs.size:=(x a o e).lt
def HOk.fresh(x:HOk P w H h)(e:h.objs.size<=a):H a=gV:=by
 cases q:H a with
 |none=>rfl
 |some u=>show absurd (bQ (x.lt q) e) (cC _)
def HOk.kept(x:HOk P w H h)(k:∀b u,h.get? b=bH u->h'.get? b=bH u):HOk P w H h':=λa o e=>
 (x a o e).stay (λb u _ q=>k b u q) (λ_ q=>q) λ_ _ q=>q
def HOk.laid(x:HOk P w H h)(k:∀b u,h.get? b=bH u->h'.get? b=bH u)(hp:h.objs.size<=a)(new:ObjOk P w (upd H a o) h' a o):HOk P w (upd H a o) h':=λb u e=>by
 let d:=x.fresh hp
 by_cases hb:b=a
 .subst hb;rw[a0e]at e;cases e;show new
 .rw[a0f hb]at e;show (x b u e).stay (λc v _ q=>k c v q) (λc q=>by rw[a0f (a0B q d)];show q) λc f q=>by rw[a0f (a0B q d)];show q
end
def Rd(H:Hp)(a:Addr)(u:HO):Prop:=H a=bH u\/∃o,H a=bH (.frz o u)
def Rd.of(h:H a=bH u):Rd H a u:=.inl h
def Rd.ok(r:Rd H a u)(x:HOk P w H h):ObjOk P w H h a u:=by
 let r||(o,r):=r
 .show x a u r
 .let(_,q):=x a _ r;show q
def Mut:Option HO->Prop
 |some (.lst _)=>True
 |some (.dK _)=>True
 |some (.dT _)=>True
 |some (.set _ _)=>True
 |some (.ins _ _ _)=>True
 |some (.ext _)=>True
 |_=>False
section
variable{h h':Heap}{x e:Addr}{o':HO}
def HOk.write(ok:HOk P w H h)(mu:Mut (H x))(he:e=x\/H e=bH (.own x))(k:∀b u,b≠e->h.get? b=bH u->h'.get? b=bH u)(heo:∃u,h'.get? e=bH u)
  (new:ObjOk P w (upd H x o') h' x o'):HOk P w (upd H x o') h':=λb u q=>by
 let a:∀c y,H c=bH (.own y)->c≠x:=λc y r z=>by subst z;rw[r]at mu;show mu
 let g:∀c d,H c=bH (.tup d)->c≠x:=λc d r z=>by subst z;rw[r]at mu;show mu
 by_cases hb:b=x
 .subst hb;rw[a0e]at q;cases q;show new
 .rw[a0f hb]at q
  by_cases hbe:b=e
  .let i:H b=bH (.own x):=by
    let z||z:=he
    .show absurd (hbe.trans z) hb
    .rw[hbe];show z
   rw[q]at i;cases i;let(v,j):=heo;show(v,by rw[hbe];show j)
  .show (ok b u q).stay (λc v f r=>k c v ?_ r) (λc r=>by rw[a0f (a c b r)];show r) λc d r=>by rw[a0f (g c d r)];show r
   let rfl||f:=f
   .cbv
   .grind
end
structure Un (fs ex:List Addr) (H H':Hp) (h h':Heap):Prop where
 keep:∀b o,h.get? b=bH o->H b=gV->b∉fs->b∉ex->h'.get? b=bH o
 slot:∀b o,h.get? b=bH o->H b=gV->b∈fs->b∉ex->∃sl,h'.get? b=bH { o with slots:=sl }
 free:∀b o,h.get? b=bH o->H b=gV->b∉ex->H' b=gV
 there:∀b o,h.get? b=bH o->b∉ex->∃o',h'.get? b=bH o'
 tups:∀b xs,H b=bH (.tup xs)->H' b=bH (.tup xs)
 frzs:∀b o u,H b=bH (.frz o u)->H' b=bH (.frz o u)
 tbls:∀b ps,H b=bH (.tbl ps)->∃more,H' b=bH (.tbl (ps++more))
section
variable{fs fs' ex ex':List Addr}{H1 H2:Hp}{h h1 h2 h':Heap}{a x e:Addr}{o:HO}
noncomputable def Un.any(u:Un fs ex H H1 h h1)(q:h.get? b=bH ob)(n:H b=gV)(hx:b∉ex):∃sl,h1.get? b=bH { ob with slots:=sl }:=by
 by_cases hb:b∈fs
 .show u.slot b ob q n hb hx
 .show(ob.slots,u.keep b ob q n hb hx)
theorem Un.trans(a:Un fs ex H H1 h h1)(b:Un fs ex H1 H2 h1 h2):Un fs ex H H2 h h2 where
 keep:=λc ob q n hc hx=>b.keep c ob (a.keep c ob q n hc hx) (a.free c ob q n hx) hc hx
 slot:=λc ob q n hc hx=>by
  let(sl,e1):=a.slot c ob q n hc hx;let(sl',e2):=b.slot c _ e1 (a.free c ob q n hx) hc hx;show(sl',e2)
 free:=λc ob q n hx=>by
  let(o',e1):=a.there c ob q hx;show b.free c o' e1 (a.free c ob q n hx) hx
 there:=λc ob q hx=>by
  let(o',e1):=a.there c ob q hx;show b.there c o' e1 hx
 tups:=λc xs q=>b.tups c xs (a.tups c xs q)
 frzs:=λc ob xs q=>b.frzs c ob xs (a.frzs c ob xs q)
 tbls:=λc ps q=>by
  let(m1,e1):=a.tbls c ps q;let(m2,e2):=b.tbls c _ e1;show(m1++m2,by rw[e2,fJ])
def Un.kept(k:∀b u,h.get? b=bH u->h'.get? b=bH u):Un fs ex H H h h':=
 (λb a q _ _ _=>k b a q,λb a q _ _ _=>(a.slots,k b a q),λ_ _ _ n _=>n,λb a q _=>(a,k b a q),λ_ _ q=>q,λ_ _ _ q=>q,λ_ c q=>(#[],by rw[q];simp))
def Un.refl:Un fs ex H H h h:=Un.kept λ_ _ q=>q
theorem Un.laid(k:∀b u,h.get? b=bH u->h'.get? b=bH u)(hp:h.objs.size<=a)(hn:H a=gV):Un fs ex H (upd H a o) h h' where
 keep:=λb u q _ _ _=>k b u q
 slot:=λb u q _ _ _=>(u.slots,k b u q)
 free:=λb u q n _=>by rw[a0f (bt (bQ (Heap.lt_size q) hp))];show n
 there:=λb u q _=>(u,k b u q)
 tups:=λb xs q=>by rw[a0f (a0B q hn)];show q
 frzs:=λb u xs q=>by rw[a0f (a0B q hn)];show q
 tbls:=λb ps q=>(#[],by rw[a0f (a0B q hn),q];simp)
def Un.write(mu:Mut (H x))(he:e=x\/H e=bH (.own x))(k:∀b u,b≠e->h.get? b=bH u->h'.get? b=bH u)(heo:∃u,h'.get? e=bH u):Un fs ex H (upd H x o) h h':=by
 let d:∀b,H b=gV->b≠x:=λb n z=>by subst z;rw[n]at mu;show mu
 let c:∀b,H b=gV->b≠e:=λb n z=>by simp_all
 let a:∀b u,H b=bH u->¬ Mut (bH u)->b≠x:=λb u q g z=>by subst z;rw[q]at mu;show g mu
 show(λb u q n _ _=>k b u (c b n) q,λb u q n _ _=>(u.slots,k b u (c b n) q),λb u q n _=>by rw[a0f (d b n)];show n,λb u q _=>?_,
  λb f q=>by rw[a0f (a b _ q λz=>z)];show q,λb u f q=>by rw[a0f (a b _ q λz=>z)];show q,λb i q=>(#[],by rw[a0f (a b _ q λz=>z),q];simp))
 by_cases hbe:b=e
 .grind
 .show(u,k b u hbe q)
def Un.mono(u:Un fs ex H H1 h h1)(hs:∀b∈fs,b∈fs')(hx:∀b∈ex,b∈ex'):Un fs' ex' H H1 h h1:=
 (λb c q n d a=>u.keep b c q n (λz=>d (hs b z)) λz=>a (hx b z),λ_ _ q n _ a=>u.any q n λz=>a (hx _ z),λb c q n a=>u.free b c q n λz=>a (hx b z),λb c q a=>u.there b c q λz=>a (hx b z),u.tups,u.frzs,u.tbls)
end
noncomputable def trk(h:Heap)(H:Hp):List Addr:=(bG h.objs.size).filter λa=>(H a).isSome
noncomputable def hidT(h:Heap)(H:Hp):Heap:=PySem.W.hideAll h (trk h H)
def a8f(h:Heap)(H:Hp):(hidT h H).objs.size=h.objs.size:=PySem.W.hideAll_size _ _
def b0Q(e:h.get? b=bH o)(n:H b=gV):(hidT h H).get? b=bH o:=
 PySem.W.hideAll_get _ e λa=>by
  let q:=(cL.mp a).2;rw[n]at q;simp at q
def b3t(e:(hidT h H).get? b=bH o):h.get? b=bH o/\H b=gV:=by
 let a:=PySem.W.of_hideAll _ e;show(a,?_);cases q:H b with
 |none=>rfl
 |some x=>
  let c:b∈trk h H:=cL.mpr (cD.mpr (Heap.lt_size a),by simp[q]);let z:(hidT h H).get? b=gV:=PySem.W.hideAll_none _ c;rw[z]at e;cases e
noncomputable def b3u(g h:Heap)(L:Addr):List (Addr×Obj):=(bG h.objs.size).filterMap λa=>if a=L\/(g.get? a).isSome=kz then gV else (h.get? a).map λo=>(a,o,)
noncomputable def rest(g h:Heap)(L d:Addr):List (Addr×Obj):=(b3u g h L).filter λp=>decide (p.1≠d)
structure Mod (K:Fg) (mg:Str->Option Value) (base:Heap):Prop where
 kin:K.In base
 glob:base.Ns hV mg
 blt:∃mb,base.Ns j6 mb/\∀x:Str,x≠"__name__"->mb x=ij x
 nolimit:base.NoLimit
structure Cx where
 prog:gT
 w:World
 K:Fg
 mg:Str->Option Value
 base:Heap
 A:Around
 N:List Str
 s₀:Shared
 H₀:Hp
 env:Env
 outer:List Env
 stack:List Env
 ex:List Addr
 fn:Str->Bool
 calm:Bool
 pn:List (Addr×Obj)
 xe:Value->Shared->Prop
noncomputable def frs(l:List Env):List Addr:=l.filterMap (·.frame)
abbrev Cx.fs(X:Cx):List Addr:=frs X.outer
def Vis(sc:Scope)(x:Str):Prop:=sc.names.lookup x=bH .local\/sc.names.lookup x=bH .cell\/sc.names.lookup x=bH .free
def Loc(sc:Scope)(x:Str):Prop:=sc.names.lookup x=bH .local\/sc.names.lookup x=bH .cell
def Look(env:Env)(h:Heap)(m:Str->Option Value)(x:Str)(u:Value):Prop:=
 (env.kindOf x=bH .local/\m x=bH u)\/((env.kindOf x=bH .cell\/env.kindOf x=bH .free)/\∃c,env.cells.lookup x=bH c/\h.IsCell c (bH u))
structure Cx.Ok (X:Cx):Prop where
 mod:Mod X.K X.mg X.base
 kind:X.env.scope.kind=.function
 glob:X.env.globals=hV
 blt:X.env.builtins=j6
 above:X.s₀.heap.objs.size<=X.env.locals
 inj:∀x y c,X.env.cells.lookup x=bH c->X.env.cells.lookup y=bH c->x=y
 has:∀x,(X.env.kindOf x=bH .cell\/X.env.kindOf x=bH .free)->∃c,X.env.cells.lookup x=bH c
 cab:∀x c,X.fn x=kz->X.env.cells.lookup x=bH c->X.s₀.heap.objs.size<=c
 hd:X.calm=kz->X.A.handled=gV
 frames:X.A.frames=bH X.stack
 stk:X.stack=X.outer\/(X.stack=X.env::X.outer/\X.env.frame=bH X.env.locals)
 exf:∀b∈X.ex,b≠X.env.locals/\∀x c,X.env.cells.lookup x=bH c->c≠b
 bs:∀b o,X.base.get? b=bH o->X.s₀.heap.get? b=bH o/\X.H₀ b=gV
 bsz:X.base.objs.size<=X.s₀.heap.objs.size
 noex:∀b o,X.base.get? b=bH o->b∉X.ex
 exfs:∀b∈X.ex,b∉X.fs
 funs:X.s₀.heap.FunFrames X.base X.outer
 frf:∀b∈X.fs,X.H₀ b=gV
structure Inv (X:Cx) (pins:List (Addr×Obj)) (σ:List (Option V)) (H:Hp) (s:Shared):Prop where
 ok:X.Ok
 os:s.os=X.s₀.os
 bare:iG s.gens
 base:Un X.fs X.ex X.H₀ H X.s₀.heap s.heap
 loc:∃m,s.heap.Ns X.env.locals m/\∀(i:Nat)(x:Str)(v:V),X.N[i]?=bH x->σ[i]?=bH (bH v)->Vis X.env.scope x->∃u,RelV v u/\Look X.env s.heap m x u
 cell:∀x c,X.env.cells.lookup x=bH c->∃v,s.heap.IsCell c v
 free:H X.env.locals=gV
 freeC:∀x c,X.env.cells.lookup x=bH c->H c=gV
 pin:∀p∈X.pn++pins,s.heap.get? p.1=bH p.2/\H p.1=gV/\p.1≠X.env.locals/\p.1∉X.fs/\∀v,p.2.data≠.cell v
 hok:HOk X.prog X.w H s.heap
 len:σ.length=X.N.length
section
variable{σ:List (Option V)}{h':Heap}
def Cx.Ok.nofr(ok:X.Ok)(e:X.base.get? b=bH o):b∉X.fs:=λa=>by
 let:=(ok.funs.mem a).1
 rw[e]at this;cases this
def Inv.bs(I:Inv X pins σ H s):∀b o,X.base.get? b=bH o->s.heap.get? b=bH o/\H b=gV:=λb o e=>
 (I.base.keep b o (I.ok.bs b o e).1 (I.ok.bs b o e).2 (I.ok.nofr e) (I.ok.noex b o e),I.base.free b o (I.ok.bs b o e).1 (I.ok.bs b o e).2 (I.ok.noex b o e))
def Inv.bk(I:Inv X pins σ H s):∀b o,X.base.get? b=bH o->s.heap.get? b=bH o:=λb o e=>(I.bs b o e).1
def Inv.mod(I:Inv X pins σ H s):Mod X.K X.mg X.base:=I.ok.mod
def Inv.kIn(I:Inv X pins σ H s):X.K.In s.heap:=I.ok.mod.kin.keeps I.bk
def Inv.nolimit(I:Inv X pins σ H s):s.heap.NoLimit:=I.ok.mod.nolimit.keeps I.bk
def Inv.fr(I:Inv X pins σ H s):∃m,Fr X.base X.env.locals s.heap m:=
 let (m,hn,_):=I.loc
 (m,hn,I.bk,bD I.ok.bsz I.ok.above)
def Inv.lt(I:Inv X pins σ H s):X.env.locals<s.heap.objs.size:=let (_,hn,_):=I.loc;hn.lt
def Inv.sz(I:Inv X pins σ H s):X.s₀.heap.objs.size<=s.heap.objs.size:=bD I.ok.above (cf I.lt)
def Inv.nofs(I:Inv X pins σ H s)(h:s.heap.objs.size<=a):a∉X.fs:=λc=>by
 let(_,o,b,_):=I.ok.funs.mem c;show absurd (bQ (Heap.lt_size b) (bD I.sz h)) (cC _)
def Inv.cne(I:Inv X pins σ H s):∀x c,X.env.cells.lookup x=bH c->c≠X.env.locals:=λx c e z=>by
 let(v,o,d,b):=I.cell x c e;let(m,(i,g,h,a,f,_),_):=I.loc;rw[z,a]at d;cases d;rw[f]at b;cases b
def Inv.funs(I:Inv X pins σ H s):s.heap.FunFrames X.base X.outer:=by
 let g:∀l,(∀b∈frs l,b∈X.fs)->X.s₀.heap.FunFrames X.base l->s.heap.FunFrames X.base l:=by
  ext l
  induction l with
  |nil=>ext _ _;trivial
  |cons env r ih=>
   ext f h;let(k,(L,o,c,n,m,j),i):=h;let d:=f L (by unfold frs;rw[cE,c];show cn);let(p,e):=I.base.slot L o m (I.ok.frf L d) d λz=>I.ok.exfs L z d;show(k,(L,_,c,n,e,j),ih (λb a=>f b (by unfold frs;rw[cE,c];show cg _ a)) i)
 show g X.outer (λ_ a=>a) I.ok.funs
def Inv.stack(I:Inv X pins σ H s):s.heap.FunFrames X.base X.stack:=by
 let e||(e,hf):=I.ok.stk
 .rw[e];show I.funs
 .rw[e];let(m,a,_):=I.loc;show .cons (by rw[I.ok.kind];decide) hf a ?_ I.funs;show Heap.get?_none_of_le (bD I.ok.bsz I.ok.above)
def Inv.stkSub(I:Inv X pins σ H s):∀b∈frs X.stack,b∈X.env.locals::X.fs:=λb a=>by
 let e||(e,hf):=I.ok.stk
 .rw[e]at a;show cg _ a
 .rw[e]at a;unfold frs at a;rw[cE,hf]at a;show a
def Inv.stkFree(I:Inv X pins σ H s):∀b∈frs X.stack,H b=gV:=λb a=>by
 let e||a:=bf.mp (I.stkSub b a)
 .rw[e];show I.free
 .let(_,o,c,_):=I.ok.funs.mem a;show I.base.free b o c (I.ok.frf b a) λz=>I.ok.exfs b z a
def Inv.step{ch:List Addr}(I:Inv X pins σ H s)
  (hch:∀b∈ch,(b∈X.ex\/X.s₀.heap.objs.size<=b)/\b≠X.env.locals/\(∀x c,X.env.cells.lookup x=bH c->c≠b)/\∀p∈X.pn++pins,p.1≠b)
  (keep:∀b o,b≠X.env.locals->b∉X.fs->b∉ch->s.heap.get? b=bH o->H b=gV->h'.get? b=bH o)
  (slot:∀b o,b≠X.env.locals->b∈X.fs->b∉ch->s.heap.get? b=bH o->H b=gV->∃sl,h'.get? b=bH { o with slots:=sl }) (free:∀b o,b∉ch->s.heap.get? b=bH o->H b=gV->H' b=gV)
  (there:∀b o,b∉ch->s.heap.get? b=bH o->∃o',h'.get? b=bH o')
  (tups:∀b xs,H b=bH (.tup xs)->H' b=bH (.tup xs)) (frzs:∀b o u,H b=bH (.frz o u)->H' b=bH (.frz o u)) (tbls:∀b ps,H b=bH (.tbl ps)->∃more,H' b=bH (.tbl (ps++more)))
  (ns:∀m,s.heap.Ns X.env.locals m->h'.Ns X.env.locals m) (hok:HOk X.prog X.w H' h') (hg:iG g') :
  Inv X pins σ H' { s with heap:=h',gens:=g',drawn:=d',toks:=t' }:=by
 let C:∀b o,X.s₀.heap.get? b=bH o->b≠X.env.locals:=λb o e=>bt (bQ (Heap.lt_size e) I.ok.above);let j:∀b o,X.s₀.heap.get? b=bH o->b∉X.ex->b∉ch:=λb o e a h=>by
  let z||z:=(hch b h).1
  .grind
  .show absurd (bQ (Heap.lt_size e) z) (cC _)
 let t:∀x c,X.env.cells.lookup x=bH c->∀v,s.heap.IsCell c v->h'.IsCell c v:=by
  ext x c e v ⟨o,y,E⟩;let g:=λz=>(hch c z).2.2.1 x c e rfl
  by_cases hc:c∈X.fs
  .let(S,q):=slot c o (I.cne x c e) hc g y (I.freeC x c e);show(_,q,E)
  .show(o,keep c o (I.cne x c e) hc g y (I.freeC x c e),E)
 show(I.ok,I.os,hg,(λb o e n h a=>(keep b o (C b o e) h (j b o e a) (I.base.keep b o e n h a) (I.base.free b o e n a)),λb o e n h a=>?_,λb o e n a=>?_,λb o e a=>?_,λb B e=>tups b B (I.base.tups b B e),λb o B e=>frzs b o B (I.base.frzs b o B e),λb Q e=>?_),?_,λx c e=>?_,?_,λx c e=>?_,λp L=>?_,hok,I.len)
 .let(S,f):=I.base.slot b o e n h a;let(F,A):=slot b _ (C b o e) h (j b o e a) f (I.base.free b o e n a);show(F,A)
 .let(D,f):=I.base.there b o e a;show free b D (j b o e a) f (I.base.free b o e n a)
 .let(D,f):=I.base.there b o e a;show there b D (j b o e a) f
 .let(N,f):=I.base.tbls b Q e;let(U,A):=tbls b _ f;show(N++U,by rw[A,fJ])
 .let(m,T,M):=I.loc;show(m,ns m T,λi x v f A R=>?_);let(u,r,l):=M i x v f A R;show(u,r,?_);let l||(k,c,e,z):=l
  .show .inl l
  .show .inr (k,c,e,t x c e _ z)
 .let(v,z):=I.cell x c e;show(v,t x c e v z)
 .let(m,(o,_,_,y,_),_):=I.loc;show free _ o (λz=>(hch _ z).2.1 rfl) y I.free
 .let(v,o,y,E):=I.cell x c e;show free c o (λz=>(hch c z).2.2.1 x c e rfl) y (I.freeC x c e)
 .let(e,n,G,J,d):=I.pin p L;let g:=λz=>(hch p.1 z).2.2.2 p L rfl;show(keep p.1 p.2 G J g e n,free p.1 p.2 g e n,G,J,d)
def Inv.un(I:Inv X pins σ H s)(u:Un X.fs [] H H' s.heap h')(hok:HOk X.prog X.w H' h'):Inv X pins σ H' { s with heap:=h',toks:=t' }:=by
 let(m,(o,k,q,g,r),_):=id I.loc;let(l,j):=u.any g I.free (by simp);show I.step (ch:=[]) (λ_ z=>nomatch z) (λb o _ c _ e n=>u.keep b o e n c (by simp)) (λb o _ c _ e n=>u.slot b o e n c (by simp)) (λb o _ e n=>u.free b o e n (by simp)) (λb o _ e=>u.there b o e (by simp)) u.tups u.frzs u.tbls (λt h=>by
  let(p,d,f,a,i):=h;rw[g]at a;cases a;show(_,d,f,j,i)) hok I.bare
def Inv.call(I:Inv X pins σ H s)(u:Un (frs X.stack) ch H H' s.heap h')(hok:HOk X.prog X.w H' h')(hg:iG g')
  (hch:∀b∈ch,(b∈X.ex\/X.s₀.heap.objs.size<=b)/\b≠X.env.locals/\(∀x c,X.env.cells.lookup x=bH c->c≠b)/\∀p∈X.pn++pins,p.1≠b) :
  Inv X pins σ H' { s with heap:=h',gens:=g',drawn:=d',toks:=t' }:=by
 let(m,(o,q,y,i,r),_):=id I.loc;let(t,f):=u.any i I.free λz=>(hch _ z).2.1 rfl;show I.step hch (λb o f l a e n=>u.keep b o e n (λz=>(bf.mp (I.stkSub b z)).elim f l) a) (λb o _ _ a e n=>u.any e n a) (λb o a e n=>u.free b o e n a) (λb o a e=>u.there b o e a) u.tups u.frzs u.tbls (λA j=>by
  let(v,g,h,d,k):=j;rw[i]at d;cases d;show(_,g,h,f,k)) hok hg
def Inv.turned(I:Inv X pins σ H s)(k:∀b o,b≠it->s.heap.get? b=bH o->h'.get? b=bH o)(hn:H it=gV)(hL:it≠X.env.locals)
  (h1:it∈X.ex\/X.s₀.heap.objs.size<=it) (h2:∀x c,X.env.cells.lookup x=bH c->c≠it) (h3:∀p∈X.pn++pins,p.1≠it):Inv X pins σ H { s with heap:=h',toks:=t' }:=by
 let d:∀b u,H b=bH u->b≠it:=λb u e z=>by rw[z,hn]at e;cases e
 show I.step (ch:=[it]) (λb i=>?_) (λb o _ _ a e _=>k b o (λz=>a (by simp[z])) e) (λb o _ _ a e _=>(o.slots,k b o (λz=>a (by simp[z])) e)) (λ_ _ _ _ n=>n)
  (λb o a e=>(o,k b o (λz=>a (by simp[z])) e)) (λ_ _ e=>e) (λ_ _ _ e=>e) (λb l e=>(#[],by rw[e];simp)) (λm h=>?_) (λb u e=>?_) I.bare
 .let e:b=it:=↑i
  subst e;show(h1,hL,h2,h3)
 .let(o,f,j,g,r):=h;show(o,f,j,k _ o (Ne.symm hL) g,r)
 .show (I.hok b u e).stay (λc v a q=>k c v ?_ q) (λ_ q=>q) λ_ _ q=>q;let z||z:=a
  .rw[z];show d b u e
  .show d c _ z
def Inv.tok(I:Inv X pins σ H s)(t:Nat):Inv X pins σ H { s with toks:=t }:=I.un Un.refl I.hok
def Inv.kept(I:Inv X pins σ H s)(k:∀b u,s.heap.get? b=bH u->h'.get? b=bH u):Inv X pins σ H { s with heap:=h',toks:=t' }:=I.un (Un.kept k) (I.hok.kept k)
def Inv.laid(I:Inv X pins σ H s)(k:∀b u,s.heap.get? b=bH u->h'.get? b=bH u)(hp:s.heap.objs.size<=a)(new:ObjOk X.prog X.w (upd H a o) h' a o) :
  Inv X pins σ (upd H a o) { s with heap:=h',toks:=t' }:=I.un (Un.laid k hp (I.hok.fresh hp)) (I.hok.laid k hp new)
def Inv.write(I:Inv X pins σ H s)(mu:Mut (H x))(he:e=x\/H e=bH (.own x))(k:∀b u,b≠e->s.heap.get? b=bH u->h'.get? b=bH u)(heo:∃u,h'.get? e=bH u)
  (new:ObjOk X.prog X.w (upd H x o) h' x o):Inv X pins σ (upd H x o) { s with heap:=h',toks:=t' }:=I.un (Un.write mu he k heo) (I.hok.write mu he k heo new)
def Inv.weak(I:Inv X pins σ H s)(hl:σ'.length=σ.length)(w:∀(i:Nat) v,σ'[i]?=bH (bH v)->σ[i]?=bH (bH v)):Inv X pins σ' H s:=
 (I.ok,I.os,I.bare,I.base,by let(m,hn,hl'):=I.loc;show(m,hn,λi x v b c a=>hl' i x v b (w i v c) a),I.cell,I.free,I.freeC,I.pin,I.hok,hl.trans I.len)
def Inv.pins_of(I:Inv X pins σ H s)(h:∀p∈pins',s.heap.get? p.1=bH p.2/\H p.1=gV/\p.1≠X.env.locals/\p.1∉X.fs/\∀v,p.2.data≠.cell v):Inv X pins' σ H s:=
 (I.ok,I.os,I.bare,I.base,I.loc,I.cell,I.free,I.freeC,λp a=>(be.mp a).elim (λz=>I.pin p (cQ _ z)) (h p),I.hok,I.len)
def a6x{N:List Str}(hN:N.Nodup){i j:Nat}(a:N[i]?=bH x)(b:N[j]?=bH x):i=j:=by
 let(f,c):=bh.mp a;let(e,d):=bh.mp b;show (fK hN).mp (c.trans d.symm)
def a4N(I:Inv X pins σ H s)(hN:X.N.Nodup)(hi:X.N[i]?=bH x)(hx:Loc X.env.scope x)(r:RelV v u)
  (h:∀s',Inv X pins (σ.set i (bH v)) H s'->(∃a,Heap.SameBut a s.heap s'.heap/\(a=X.env.locals\/X.env.cells.lookup x=bH a))->Q () s') (hf:X.fn x=kz\/X.env.scope.names.lookup x=bH .local):wpAny M A (j7 X.env x u) Q E s:=by
 let(m,hn,hl):=id I.loc;let hcls:(X.env.scope.kind==.class||(X.env.scope.kind==.module&&X.env.locals != X.env.globals))=kQ:=by rw[I.ok.kind];rfl
 let U:i<σ.length:=I.len▸(bh.mp hi).1;let J:=I.cne;let B:∀{a:Addr}{G:Heap},(∃o,s.heap.get? a=bH o/\H a=gV)->Heap.SameBut a s.heap G->HOk X.prog X.w H G:=λ{a G} ha f b ob e=>by
  let(_,_,F):=ha;show (I.hok b ob e).stay (λc R l q=>(f.2 c ?_).trans q) (λ_ q=>q) λ_ _ q=>q;ext rfl;let rfl||l:=l
  .rw[F]at e;cases e
  .rw[F]at l;cases l
 let hk||hk:=hx
 .show wpAny_storeName_local hk hn (λG hn' f=>?_) hcls;let(oL,_,_,hoL,_):=id hn;show h _ (I.ok,I.os,I.bare,(λb o e n D hx=>((f.2 b (bt (bQ (Heap.lt_size e) I.ok.above))).trans (I.base.keep b o e n D hx)),λb o e n D hx=>?_,I.base.free,λb o e hx=>?_,I.base.tups,I.base.frzs,I.base.tbls),(_,hn',λj y v' g C e3=>?_),λy c e=>?_,I.free,I.freeC,λp hp=>?_,B (oL,hoL,I.free) f,↑I.len) (_,f,.inl rfl)
  .let(sl,g):=I.base.slot b o e n D hx;show(sl,(f.2 b (bt (bQ (Heap.lt_size e) I.ok.above))).trans g)
  .let(o',g):=I.base.there b o e hx;show(o',(f.2 b (bt (bQ (Heap.lt_size e) I.ok.above))).trans g)
  .by_cases hj:j=i
   .subst hj;rw[hi]at g;cases g;rw[dG U]at C;cases C;show(u,r,.inl (hk,by simp))
   .rw[dH (Ne.symm hj)]at C;let(u',r',q):=hl j y v' g C e3;show(u',r',?_);let(k,e)||(k,c,e,z):=q
    .show .inl (k,?_)
     let:y≠x:=λe=>hj (a6x hN g (e▸hi))
     simp[this,e]
    .show .inr (k,c,e,z.sameBut f (J y c e))
  .let(R,z):=I.cell y c e;show(R,z.sameBut f (J y c e))
  .let(e,n,S,nf,d):=I.pin p hp;show((f.2 p.1 S).trans e,n,S,nf,d)
 .let L:X.fn x=kz:=by
   let z||z:=hf
   .show z
   .rw[z]at hk;cases hk
  let(c,l):=I.ok.has x (.inl hk);let(R,z):=I.cell x c l;show wpAny_storeName_cell I.ok.kind hk l z (λG Y f=>?_);let(oc,W,hocd):=id z;show h { s with heap:=G } (I.ok,I.os,I.bare,(λb o e n D hx=>((f.2 b (bt (bQ (Heap.lt_size e) (I.ok.cab x c L l)))).trans (I.base.keep b o e n D hx)),λb o e n D hx=>?_,I.base.free,λb o e hx=>?_,I.base.tups,I.base.frzs,I.base.tbls),(m,hn.sameBut f (Ne.symm (J x c l)),λj y v' g C e3=>?_),λy T e=>?_,I.free,I.freeC,λp hp=>?_,B (oc,W,I.freeC x c l) f,↑I.len) (c,f,.inr l)
  .let(sl,g):=I.base.slot b o e n D hx;show(sl,(f.2 b (bt (bQ (Heap.lt_size e) (I.ok.cab x c L l)))).trans g)
  .let(o',g):=I.base.there b o e hx;show(o',(f.2 b (bt (bQ (Heap.lt_size e) (I.ok.cab x c L l)))).trans g)
  .by_cases hj:j=i
   .subst hj;rw[hi]at g;cases g;rw[dG U]at C;cases C;show(u,r,.inr (.inl hk,c,l,Y))
   .rw[dH (Ne.symm hj)]at C;let(u',r',q):=hl j y v' g C e3;show(u',r',?_);let q||(k,T,e,z'):=q
    .show .inl q
    .show .inr (k,T,e,z'.sameBut f ?_);ext rfl;show hj (a6x hN g (I.ok.inj _ _ _ e l▸hi))
  .by_cases hcc:T=c
   .subst hcc;show(_,Y)
   .let(w2,z2):=I.cell y T e;show(w2,z2.sameBut f hcc)
  .let(e,n,S,nf,d):=I.pin p hp;show((f.2 p.1 ?_).trans e,n,S,nf,d);ext q;rw[q,W]at e;show d R ((bH.inj e)▸hocd)
def a24(I:Inv X pins σ H s)(hN:X.N.Nodup)(hi:X.N[i]?=bH x)(hx:Loc X.env.scope x)(r:RelV v u)
  (h:∀s',Inv X pins (σ.set i (bH v)) H s'->Q () s') (hf:X.fn x=kz\/X.env.scope.names.lookup x=bH .local):wpAny M A (j7 X.env x u) Q E s:=
 a4N I hN hi hx r (λa b _=>h a b) hf
def Inv.call'(I:Inv X pins σ H s)(ho:s'.os=s.os)(u:Un (frs X.stack) ch H H' s.heap s'.heap)(hok:HOk X.prog X.w H' s'.heap)(hg:iG s'.gens)
  (hch:∀b∈ch,(b∈X.ex\/X.s₀.heap.objs.size<=b)/\b≠X.env.locals/\(∀x c,X.env.cells.lookup x=bH c->c≠b)/\∀p∈X.pn++pins,p.1≠b):Inv X pins σ H' s':=by
 let(h',g',d',t',g):=s';let e:=ho;subst e;show I.call u hok hg hch
end
abbrev XK:=Value->Option Addr->Hp->Prop
abbrev St:=List (Option V)
abbrev VK:=V->Hp->Prop
abbrev TE:=St->Hp->VK->Prop
abbrev TT:=St->Hp->(Bool->Hp->Prop)->Prop
abbrev TA:=St->Hp->(List V->Hp->Prop)->Prop
structure Ends where
 nx:St->Hp->Prop
 rt:VK
 bk:St->Hp->Prop:=λ_ _=>False
 ct:St->Hp->Prop:=λ_ _=>False
abbrev TS:=Ends->St->Hp->Prop
def EP(X:Cx)(pins:List (Addr×Obj))(σ:St)(Q:VK)(u:Value)(s':Shared):Prop:=∃v H',Inv X pins σ H' s'/\RelV v u/\Q v H'
def TP(X:Cx)(pins:List (Addr×Obj))(σ:St)(Q:Bool->Hp->Prop)(b:Bool)(s':Shared):Prop:=∃H',Inv X pins σ H' s'/\Q b H'
def AP(X:Cx)(pins:List (Addr×Obj))(σ:St)(Q:List V->Hp->Prop)(us:List Value)(s':Shared):Prop:=∃vs H',Inv X pins σ H' s'/\Vals vs us/\Q vs H'
def SP(X:Cx)(pins:List (Addr×Obj))(D:Ends)(f:Flow)(s':Shared):Prop:=
 match f with
 |.next=>∃σ' H',Inv X pins σ' H' s'/\D.nx σ' H'
 |.brk=>∃σ' H',Inv X pins σ' H' s'/\D.bk σ' H'
 |.cont=>∃σ' H',Inv X pins σ' H' s'/\D.ct σ' H'
 |.ret u=>∃v σ' H',Inv X pins σ' H' s'/\RelV v u/\D.rt v H'
def PE(X:Cx)(e:Expr)(t:TE):Prop:=
 ∀(pins:List (Addr×Obj))(s:Shared)(σ:St)(H:Hp)(Q:VK),Inv X pins σ H s->t σ H Q->wpAny (model X.prog X.w) X.A (eval e X.env) (EP X pins σ Q) X.xe s
def PT(X:Cx)(e:Expr)(t:TT):Prop:=
 ∀(pins:List (Addr×Obj))(s:Shared)(σ:St)(H:Hp)(Q:Bool->Hp->Prop),Inv X pins σ H s->t σ H Q->wpAny (model X.prog X.w) X.A (isTrue e X.env (eval e X.env)) (TP X pins σ Q) X.xe s
def PW(X:Cx)(e:Expr)(t:TT):Prop:=
 ∀(whole:Sem Value)(pins:List (Addr×Obj))(s:Shared)(σ:St)(H:Hp)(Q:Bool->Hp->Prop),Inv X pins σ H s->t σ H Q->wpAny (model X.prog X.w) X.A (isTrue e X.env whole) (TP X pins σ Q) X.xe s
def PW.pt(h:PW X e t):PT X e t:=h _
def PA(X:Cx)(es:List Expr)(t:TA):Prop:=
 ∀(pos:Pos)(pins:List (Addr×Obj))(s:Shared)(σ:St)(H:Hp)(Q:List V->Hp->Prop),Inv X pins σ H s->t σ H Q->wpAny (model X.prog X.w) X.A (spliced (backTo pos (gQ es X.env))) (AP X pins σ Q) X.xe s
def PS(X:Cx)(st:Stmt)(t:TS):Prop:=
 ∀(pins:List (Addr×Obj))(s:Shared)(σ:St)(H:Hp)(D:Ends),Inv X pins σ H s->t D σ H->wpAny (model X.prog X.w) X.A (exec st X.env) (SP X pins D) X.xe s
def PSs(X:Cx)(st:List Stmt)(t:TS):Prop:=
 ∀(pins:List (Addr×Obj))(s:Shared)(σ:St)(H:Hp)(D:Ends),Inv X pins σ H s->t D σ H->wpAny (model X.prog X.w) X.A (execs st X.env) (SP X pins D) X.xe s
def thn{α:Type}{t:Sem α}{Q Q':α->Shared->Prop}(h:wpAny M A t Q E s)(hQ:∀a s,Q a s->Q' a s):wpAny M A t Q' E s:=hB h hQ λ_ _ x=>x
section
def tVar(i:Nat):TE:=fun σ H Q=>∃v,σ[i]?=bH (bH v)/\Q v H
def tC(v:V):TE:=λ_ H Q=>Q v H
def a8g(hN:X.N[i]?=bH x)(hv:Vis X.env.scope x)(hd:(x==("__debug__":Str))=kQ:=by decide)(hcd:(x==("__classdict__":Str))=kQ:=by decide):PE X (.Name x pos) (tVar i):=by
 ext b s σ H Q I h;let(v,e,h):=h;let(m,f,d):=I.loc;let(u,r,l):=d i x v hN e hv;let a:EP X b σ Q u s:=(v,H,I,r,h);let(hk,hm)||(hk,c,hc,hcell):=l
 .show j8 (wpAny_loadName_local I.ok.kind hk f hm a) hd
 .let hk||hk:=hk
  .show j8 (wpAny_loadName_cell I.ok.kind hk hc hcell a) hd
  .show j8 (wpAny_loadName_free I.ok.kind hk hc hcell a hcd) hd
def b5K:PE X (.Constant (.int i) j pos) (tC (.int i)):=λ_ _ _ H _ I h=>wpAny_Constant_int (.int i,H,I.tok _,(_,rfl),h)
def b8O:PE X (.Constant (.bool b) j pos) (tC (.bl b)):=λ_ _ _ H _ I h=>Constant_bool (.bl b,H,I,rfl,h)
def b5L:PE X (.Constant .none j pos) (tC .non):=λ_ _ _ H _ I h=>Constant_none (.non,H,I,rfl,h)
def b5M:PE X (.Constant (.str x) j pos) (tC (.str x)):=λ_ _ _ H _ I h=>Calls.Constant_str (.str x,H,I.tok _,(_,rfl),h)
def Gl(X:Cx)(x:Str):Prop:=X.env.kindOf x=bH .globalImplicit
def a2u(I:Inv X pins σ H s)(hg:Gl X x)(hm:X.mg x=bH u)(h:Q u s)
  (hd:(x==("__debug__":Str))=kQ:=by decide):wpAny (model X.prog X.w) X.A (eval (.Name x pos) X.env) Q E s:=
 Calls.Name_function_global I.ok.kind hg (Calls.loadGlobal_global (I.ok.glob▸I.mod.glob.keeps I.bk) hm h) hd
def a3P(I:Inv X pins σ H s)(hg:Gl X x)(hm:X.mg x=gV)(hv:ij x=bH u)(h:Q u s)
  (hn:x≠"__name__":=by decide) (hd:(x==("__debug__":Str))=kQ:=by decide):wpAny (model X.prog X.w) X.A (eval (.Name x pos) X.env) Q E s:=by
 let(c,b,a):=I.mod.blt;show Calls.Name_function_global I.ok.kind hg (Calls.loadGlobal_builtin (I.ok.glob▸I.mod.glob.keeps I.bk) hm (I.ok.blt▸b.keeps I.bk) ((a x hn).trans hv) h) hd
def a8h(hg:Gl X x)(hm:X.mg x=bH u)(r:RelV v u)(hd:(x==("__debug__":Str))=kQ):PE X (.Name x pos) (tC v):=
 λ_ _ _ H _ I h=>a2u I hg hm (v,H,I,r,h) hd
def a1N(hg:Gl X x)(hm:X.mg x=gV)(hv:ij x=bH u)(r:RelV v u)(hn:x≠"__name__":=by decide)(hd:(x==("__debug__":Str))=kQ:=by decide):PE X (.Name x pos) (tC v):=
 λ_ _ _ H _ I h=>a3P I hg hm hv (v,H,I,r,h) hn hd
variable{a b:Expr}{ta tb:TE}
def PC(X:Cx)(op:CmpOp)(a b:Expr)(t:TE):Prop:=
 ∀(pins:List (Addr×Obj))(s:Shared)(σ:St)(H:Hp)(Q:VK),Inv X pins σ H s->t σ H Q ->
  wpAny (model X.prog X.w) X.A (eval a X.env) (λv sj=>wpAny (model X.prog X.w) X.A (eval b X.env) (λu sv=>wpAny (model X.prog X.w) X.A (gX op v u) (EP X pins σ Q) X.xe sv) X.xe sj) X.xe s
noncomputable def tB(t:TE):TT:=fun σ H Q=>t σ H λx H1=>∃c,x=.bl c/\Q c H1
def b5N(h:PE X e t)(he:∀whole,isTrue e X.env whole=(do let v <- whole;iH e.pos;ig [v] (truthy v)):=by ext _;rfl):PT X e (tB t):=by
 ext a s σ H Q I f;show isTrue_plain (thn (h a s σ H _ I f) λv j (x,b,i,g,c)=>?_) (he _);let(d,rfl,q):=c;cases g;show iO (b,i,q)
variable{tA tB':TT}{rest:List Expr}
def tAnd(t u:TT):TT:=fun σ H Q=>t σ H λc H1=>if c=kz then u σ H1 Q else Q kQ H1
def tOr(t u:TT):TT:=fun σ H Q=>t σ H λc H1=>if c=kz then Q kz H1 else u σ H1 Q
def tNot(t:TT):TT:=fun σ H Q=>t σ H λc H1=>Q (!c) H1
def b3v(ha:PT X a tA):PW X (.BoolOp .And [a] pos) tA:=by
 ext f b s σ H Q I h;show isTrue_and (thn (ha b s σ H Q I h) λc d e=>?_);cases c with
 |true=>show isTrue_and_nil e
 |false=>show e
def b5O(ha:PT X a tA):PW X (.BoolOp .Or [a] pos) tA:=by
 ext f b s σ H Q I h;show isTrue_or (thn (ha b s σ H Q I h) λc d e=>?_);cases c with
 |false=>show isTrue_or_nil e
 |true=>show e
def b5P(ha:PT X a tA)(hb:PW X (.BoolOp .And (b::rest) pos) tB'):PW X (.BoolOp .And (a::b::rest) pos) (tAnd tA tB'):=by
 ext j d s σ H Q I h;show isTrue_and (thn (ha d s σ H _ I h) λc i Y=>Y.elim λe Y=>Y.elim λg f=>?_);cases c with
 |true=>show hb j d i σ e Q g f
 |false=>show(e,g,f)
def b8P(ha:PT X a tA)(hb:PW X (.BoolOp .Or (b::rest) pos) tB'):PW X (.BoolOp .Or (a::b::rest) pos) (tOr tA tB'):=by
 ext j d s σ H Q I h;show isTrue_or (thn (ha d s σ H _ I h) λc i Y=>Y.elim λg Y=>Y.elim λe f=>?_);cases c with
 |true=>show(g,e,f)
 |false=>show hb j d i σ g Q e f
def b5Q(ha:PT X a tA):PT X (.UnaryOp .Not a pos) (tNot tA):=λb s σ H Q I h=>isTrue_not (ha b s σ H _ I h)
def b8Q(ta tb:TE):TE:=fun σ H Q=>ta σ H λx H1=>∃c,x=.bl c/\if c=kz then tb σ H1 Q else Q (.bl kQ) H1
def tOrV(ta tb:TE):TE:=fun σ H Q=>ta σ H λx H1=>∃c,x=.bl c/\if c=kz then Q (.bl kz) H1 else tb σ H1 Q
def b8R(ta:TE):TE:=fun σ H Q=>ta σ H λx H1=>∃c,x=.bl c/\Q (.bl (!c)) H1
def b5R(h:PE X a t):PE X (.BoolOp op [a] pos) t:=λb s σ H Q I c=>BoolOp_one (h b s σ H Q I c)
def b5S(ha:PE X a ta)(hb:PE X (.BoolOp .And (b::rest) pos) tb):PE X (.BoolOp .And (a::b::rest) pos) (b8Q ta tb):=by
 ext d s σ H Q I h;show BoolOp_and (thn (ha d s σ H _ I h) λv j (x,f,g,i,e)=>?_);let(c,rfl,e):=e;cases i;show iO ?_;cases c with
 |true=>show hb d j σ f Q g e
 |false=>show(.bl kQ,f,g,rfl,e)
def b8S(ha:PE X a ta)(hb:PE X (.BoolOp .Or (b::rest) pos) tb):PE X (.BoolOp .Or (a::b::rest) pos) (tOrV ta tb):=by
 ext d s σ H Q I h;show BoolOp_or (thn (ha d s σ H _ I h) λv i (x,g,f,j,e)=>?_);let(c,rfl,e):=e;cases j;show iO ?_;cases c with
 |false=>show hb d i σ g Q f e
 |true=>show(.bl kz,g,f,rfl,e)
def b5T(ha:PE X a ta):PE X (.UnaryOp .Not a pos) (b8R ta):=by
 ext b s σ H Q I h;show UnaryOp_ (thn (ha b s σ H _ I h) λv i (x,g,f,e,d)=>?_);let(c,rfl,d):=d;cases e;show not_of (iO (.bl (!c),g,f,rfl,d))
def tIf(t:TT)(ta tb:TE):TE:=fun σ H Q=>t σ H λc H1=>if c=kz then ta σ H1 Q else tb σ H1 Q
def b0R(hc:PT X c tA)(ha:PE X a ta)(hb:PE X b tb):PE X (.IfExp c a b pos) (tIf tA ta tb):=by
 ext e s σ H Q I h;show wpAny_IfExp (thn (hc e s σ H _ I h) λd j Y=>Y.elim λi Y=>Y.elim λf g=>?_);cases d with
 |true=>show ha e j σ i Q f g
 |false=>show hb e j σ i Q f g
end
def SqL(K:Fg)(H:Hp)(a:Addr)(xs:List V):Prop:=
 Rd H a (.lst xs) \/
  ∃(o:Obj)(its:Array Value)(n:Nat),K.lookup a=bH o/\o.cls=.type "list"/\o.dict=gV/\o.data=.seq its n/\its.size<=gN/\Vals xs its.toList
def SqT(K:Fg)(H:Hp)(a:Addr)(xs:List V):Prop:=
 Rd H a (.tup xs) \/
  ∃(o:Obj)(its:Array Value)(n:Nat),K.lookup a=bH o/\o.cls=.type "tuple"/\o.data=.seq its n/\its.size<=gN/\Vals xs its.toList
noncomputable def absV:Value->Option V
 |.none=>bH .non
 |.bool b=>bH (.bl b)
 |.int i _=>bH (.int i)
 |.str x _=>bH (.str x)
 |.bytes b _=>bH (.byt b)
 |.float b _=>bH (.flt b)
 |.ref a=>bH (.ref a)
 |.type n=>bH (.ty n)
 |_=>gV
def RelV.abs(r:RelV x u):absV u=bH x:=by
 cases x with
 |non=>cases r;rfl
 |bl _=>cases r;rfl
 |int _=>let(t,rfl):=r;rfl
 |str _=>let(t,rfl):=r;rfl
 |byt _=>let(t,rfl):=r;rfl
 |flt _=>let(t,rfl):=r;rfl
 |ref _=>cases r;rfl
 |ty _=>cases r;rfl
def RelV.inj(r:RelV x u)(q:RelV kR u):x=kR:=bH.inj (r.abs.symm.trans q.abs)
def Vals.inj:∀{xs ys:List V}{us:List Value},Vals xs us->Vals ys us->xs=ys:=by
 ext xs ys us h
 induction h generalizing ys with
 |nil=>ext k;cases k;rfl
 |cons r t ih=>
  ext k;cases k with
  |cons r' t'=>rw[r.inj r',ih t']
section
variable{σ:St}{a:Addr}{xs ys:List V}
def SqL.of{K:Fg}(h:H a=bH (.lst xs)):SqL K H a xs:=.inl (.inl h)
def SqT.of{K:Fg}(h:H a=bH (.tup xs)):SqT K H a xs:=.inl (.inl h)
def Inv.list(I:Inv X pins σ H s)(h:SqL X.K H a xs):∃its:List Value,Vals xs its/\PlainL s.heap a its.toArray/\xs.length<=sizeLine:=by
 let h||(o,b,n,hk,hc,hd,hs,hz,r):=h
 .let(z,b,n,r,e):=h.ok I.hok;show(b,r,(_,n,e,rfl,rfl,rfl),z)
 .show(b.toList,r,(o,n,I.kIn a o hk,hc,hd,↑hs),?_);let e:=r.length;simp at e
  lia
def Inv.tuple(I:Inv X pins σ H s)(h:SqT X.K H a xs):∃its:List Value,Vals xs its/\IsTup s.heap a its.toArray/\xs.length<=sizeLine:=by
 let h||(o,b,n,hk,hc,hs,hz,r):=h
 .let(z,b,r,p):=h.ok I.hok;show(b,r,p,z)
 .show(b.toList,r,(o,I.kIn a o hk,hc,n,↑hs),?_);let e:=r.length;simp at e
  lia
def Inv.list_inj(I:Inv X pins σ H s)(h:SqL X.K H a xs)(h':SqL X.K H a ys):xs=ys:=by
 let(f,r,(o,n,e,_,_,d),_):=I.list h;let(b,i,(j,k,c,_,_,g),_):=I.list h'
 let:f=b:=by grind
 subst this;show r.inj i
def Inv.tuple_inj(I:Inv X pins σ H s)(h:SqT X.K H a xs)(h':SqT X.K H a ys):xs=ys:=by
 let(f,r,(o,e,_,n,d),_):=I.tuple h;let(b,i,(j,c,_,k,g),_):=I.tuple h'
 let:f=b:=by grind
 subst this;show r.inj i
end
abbrev Cx.wish(X:Cx)(E:Value->Shared->Prop):Cx:={ X with xe:=E }
abbrev Cx.nox(X:Cx):Cx:=X.wish λ_ _=>False
noncomputable def Cx.Ok.wish{X:Cx}(ok:X.Ok)(E:Value->Shared->Prop):(X.wish E).Ok:=
 (ok.mod,ok.kind,ok.glob,ok.blt,ok.above,ok.inj,ok.has,ok.cab,ok.hd,ok.frames,ok.stk,ok.exf,ok.bs,ok.bsz,ok.noex,ok.exfs,ok.funs,ok.frf)
def Cx.Ok.unwish{X:Cx}(ok:(X.wish E).Ok):X.Ok:=
 (ok.mod,ok.kind,ok.glob,ok.blt,ok.above,ok.inj,ok.has,ok.cab,ok.hd,ok.frames,ok.stk,ok.exf,ok.bs,ok.bsz,ok.noex,ok.exfs,ok.funs,ok.frf)
section
variable{σ:St}
noncomputable def Inv.wish(I:Inv X pins σ H s)(E:Value->Shared->Prop):Inv (X.wish E) pins σ H s:=(I.ok.wish E,I.os,I.bare,I.base,I.loc,I.cell,I.free,I.freeC,I.pin,I.hok,I.len)
def Inv.unwish(I:Inv (X.wish E) pins σ H s):Inv X pins σ H s:=(I.ok.unwish,I.os,I.bare,I.base,I.loc,I.cell,I.free,I.freeC,I.pin,I.hok,I.len)
def SP.unwish(h:SP (X.wish E) pins D f s'):SP X pins D f s':=by
 cases f with
 |next=>let(σ',H',I,q):=h;show(σ',H',I.unwish,q)
 |brk=>let(σ',H',I,q):=h;show(σ',H',I.unwish,q)
 |cont=>let(σ',H',I,q):=h;show(σ',H',I.unwish,q)
 |ret u=>let(v,σ',H',I,r,q):=h;show(v,σ',H',I.unwish,r,q)
noncomputable def PE.nox(h:PE X.nox e t):PE X e t:=λa s σ H Q I d=>
 hB (h a s σ H Q (I.wish _) d) (by ext _ _ ⟨v,b,c,r,q⟩;show(v,b,c.unwish,r,q)) λ_ _ z=>bj z
noncomputable def PT.nox(h:PT X.nox e t):PT X e t:=λa s σ H Q I d=>
 hB (h a s σ H Q (I.wish _) d) (by ext _ _ ⟨c,b,q⟩;show(c,b.unwish,q)) λ_ _ z=>bj z
noncomputable def PSs.nox{st:List Stmt}(h:PSs X.nox st t):PSs X st t:=λa s σ H D I b=>
 hB (h a s σ H D (I.wish _) b) (λ_ _ q=>q.unwish) λ_ _ z=>bj z
end
section
variable{st:Stmt}{rest:List Stmt}{t u:TS}{e:Expr}{te:TE}
def b5U:TS:=λD σ H=>D.nx σ H
def tSeq(t u:TS):TS:=λD σ H=>t { D with nx:=u D } σ H
def b3w:PSs X [] b5U:=λ_ _ σ H _ I h=>iY (σ,H,I,h)
def a6y(h1:PS X st t)(h2:PSs X rest u):PSs X (st::rest) (tSeq t u):=by
 ext a s σ H D I h;show jL (thn (h1 a s σ H { D with nx:=u D } I h) λf b q=>?_);cases f with
 |next=>
  let(σ',H',I',q):=q;show h2 a b σ' H' D I' q
 |ret v=>show q
 |brk=>show q
 |cont=>show q
def b3x(h1:PS X st t):PSs X [st] t:=by
 ext a s σ H D I h;show jL (thn (h1 a s σ H D I h) λf b q=>?_);cases f with
 |next=>show iY q
 |ret v=>show q
 |brk=>show q
 |cont=>show q
def b5V:TS:=λD σ H=>D.bk σ H
def b8T:TS:=λD σ H=>D.ct σ H
def b3y:PS X (.Pass pos) b5U:=λ_ _ σ H _ I h=>wpAny_Pass (σ,H,I,h)
def b0S:PS X (.Break pos) b5V:=λ_ _ σ H _ I h=>wpAny_Break (σ,H,I,h)
def a5I:PS X (.Continue pos) b8T:=λ_ _ σ H _ I h=>wpAny_Continue (σ,H,I,h)
def Inv.quiet(I:Inv X pins σ H s):interactive X.env=kQ:=by simp[interactive,I.ok.kind]
def b8U(te:TE):TS:=λD σ H=>te σ H λ_ H1=>D.nx σ H1
def b3z(he:PE X e te)(hs:iB e gV pos.line X.env=pure kQ):PS X (.Expr e pos) (b8U te):=λa s σ H D I h=>wpAny_Expr_any (thn (he a s σ H _ I h) λv f (x,d,c,g,b)=>(σ,d,c,b)) I.quiet hs
def tRet(te:TE):TS:=λD σ H=>te σ H D.rt
def b5W(he:PE X e te):PS X (.Return (bH e) pos) (tRet te):=λa s σ H D I h=>wpAny_Return_some (thn (he a s σ H _ I h) λv g (x,c,b,f,d)=>(x,σ,c,b,f,d))
def b8V:TS:=λD _ H=>D.rt .non H
def b3A:PS X (.Return gV pos) b8V:=λ_ _ σ H _ I h=>wpAny_Return_none (.non,σ,H,I,rfl,h)
def tIfS(c:TT)(t u:TS):TS:=λD σ H=>c σ H λb H1=>if b=kz then t D σ H1 else u D σ H1
def b8W(hc:PT X c tc)(ha:PSs X a t)(hb:PSs X b u):PS X (.If c a b pos) (tIfS tc t u):=by
 ext e s σ H D I h;show wpAny_If (thn (hc e s σ H _ I h) λd f Y=>Y.elim λg Y=>Y.elim λi j=>?_);cases d with
 |true=>show ha e f σ g D i j
 |false=>show hb e f σ g D i j
end
abbrev TG:=V->St->Hp->(St->Hp->Prop)->Prop
abbrev TGs:=List V->St->Hp->(St->Hp->Prop)->Prop
def PG(X:Cx)(target:Expr)(t:TG):Prop:=
 ∀(pins:List (Addr×Obj))(s:Shared)(σ:St)(H:Hp)(v:V)(u:Value)(Q:St->Hp->Prop),Inv X pins σ H s->RelV v u->t v σ H Q ->
  wpAny (model X.prog X.w) X.A (assign target X.env u) (λ_ s'=>∃σ' H',Inv X pins σ' H' s'/\Q σ' H') X.xe s
def PGs(X:Cx)(ts:List Expr)(t:TGs):Prop:=
 ∀(pins:List (Addr×Obj))(s:Shared)(σ:St)(H:Hp)(vs:List V)(us:List Value)(Q:St->Hp->Prop),Inv X pins σ H s->Vals vs us->t vs σ H Q ->
  wpAny (model X.prog X.w) X.A (assignInOrder ((iI ts X.env).map (·.2)) us) (λ_ s'=>∃σ' H',Inv X pins σ' H' s'/\Q σ' H') X.xe s
abbrev TSet:=V->V->V->Hp->(Hp->Prop)->Prop
def PSet(X:Cx)(t:TSet):Prop:=
 ∀(pins:List (Addr×Obj))(s:Shared)(σ:St)(H:Hp)(o i v:V)(ov iv u:Value)(Q:Hp->Prop),Inv X pins σ H s->RelV o ov->RelV i iv->RelV v u->t o i v H Q ->
  wpAny (model X.prog X.w) X.A (jM ov iv u) (λ_ s'=>∃H',Inv X pins σ H' s'/\Q H') X.xe s
abbrev TIp:=V->V->Hp->VK->Prop
def PIp(X:Cx)(op:Operator)(t:TIp):Prop:=
 ∀(pins:List (Addr×Obj))(s:Shared)(σ:St)(H:Hp)(x y:V)(v u:Value)(Q:VK),Inv X pins σ H s->RelV x v->RelV y u->t x y H Q ->
  wpAny (model X.prog X.w) X.A (iR op v u) (EP X pins σ Q) X.xe s
def a8i(i:Nat):TG:=λv σ H Q=>Q (σ.set i (bH v)) H
def a8j(hN:X.N.Nodup)(hi:X.N[i]?=bH x)(hx:Loc X.env.scope x)(hf:X.fn x=kz\/X.env.scope.names.lookup x=bH .local):PG X (.Name x pos) (a8i i):=λb s σ H v u Q I r h=>wpAny_assign_Name (a24 I hN hi hx r (λc a=>(_,H,a,h)) hf)
def gNil:TGs:=λvs σ H Q=>vs=[]/\Q σ H
def b5X(t:TG)(u:TGs):TGs:=λvs σ H Q=>∃v r,vs=v::r/\t v σ H fun σ' H'=>u r σ' H' Q
def b3B:PGs X [] gNil:=by
 ext a s σ H b c Q I r h;let(e,h):=h;subst e;show assignInOrder_nil (σ,H,I,h)
def b0T(h1:PG X e t)(h2:PGs X es u)
  (hs:(iI (e::es) X.env).map (·.2)=assign e X.env::(iI es X.env).map (·.2):=by rfl):PGs X (e::es) (b5X t u):=by
 ext a s σ H k i Q I r h;let(v,j,g,h):=h;subst g;cases r with
 |cons r rr=>
  rw[hs];show assignInOrder_cons (thn (h1 a s σ H _ _ _ I r h) λ_ f (σ1,d,b,c)=>(h2 a f σ1 d _ _ Q b rr c))
def gTup(K:Fg)(n:Nat)(t:TGs):TG:=λv σ H Q=>∃a xs,v=.ref a/\SqT K H a xs/\xs.length=n/\t xs σ H Q
def b5Y(hc:X.calm=kz)(h:PGs X es t)
  (hn:(iI es X.env).length=n) (hst:(iI es X.env).findIdx? (·.1)=gV):PG X (.Tuple es k pos) (gTup X.K n t):=by
 ext c s σ H v u Q I r d;let(a,i,q,m,l,d):=d;subst q;cases r;let(x,f,p,y):=I.tuple m;show assign_Tuple_tuple (I.ok.hd hc) p (by simp[hn,<- l,f.length]) hst λw j=>(h c _ σ H i _ Q (I.kept (t':=s.toks) λb o e=>j b o (bt (Heap.lt_size e)) e) (by cbv) d)
def gSub(to ti:TE)(t:TSet):TG:=λv σ H Q=>to σ H λo H1=>ti σ H1 λi H2=>t o i v H2 λH3=>Q σ H3
def b5Z(ho:PE X o kR)(hi:PE X i ti)(hs:PSet X t)
  (ha:∀v,assign (.Subscript o i pos) X.env v=(do
   let ov <- ig [v] (eval o X.env)
   let iv <- ig [v,ov] (eval i X.env)
   iH pos
   ig [v,ov,iv] (jM ov iv v)
   release [v,ov,iv] []):=by ext _;rfl):PG X (.Subscript o i pos) (gSub kR ti t):=by
 ext a s σ H v u Q I r h;rw[ha];show gJ (ib (thn (ho a s σ H _ I h) λl n (x,c,e,g,p)=>(gJ (ib (thn (hi a n σ c _ e p) λm q (y,f,w,b,k)=>(gJ (j9 (gJ (ib (thn (hs a q σ f x y v l m u _ w g b r k) λ_ A Y=>Y.elim λj Y=>Y.elim λz d=>(wpAny_release (σ,j,z,d))))))))))))
def tAsg(te:TE)(g:TG):TS:=λD σ H=>te σ H λx H1=>g x σ H1 D.nx
def b2J(he:PE X e te)(hg:PG X tg g)(hs:kc [tg] e pos.line X.env=pure kQ)(hw:kf [tg] e X.env=pure gV)
  (h1:(iI [tg] X.env).map (·.2)=[assign tg X.env]):PS X (.Assign [tg] e pos) (tAsg te g):=by
 ext a s σ H D I h;show wpAny_Assign_stores (thn (he a s σ H _ I h) λv c (x,d,b,i,f)=>?_) hs hw;rw[h1];show thn (hg a c σ d x v _ b i f) λ_ j q=>q
def b50(hN:X.N.Nodup)(hi:X.N[i]?=bH x)(hx:Loc X.env.scope x)(he:PE X e te)(hs:iB e (bH (.Name x pos')) pos.line X.env=pure kQ)(hf:X.fn x=kz\/X.env.scope.names.lookup x=bH .local) :
  PS X (.Assign [.Name x pos'] e pos) (tAsg te (a8i i)):=by
 ext a s σ H D I h;show wpAny_Assign_Name (thn (he a s σ H _ I h) λv j (y,f,d,c,g)=>?_) hs;show a24 d hN hi hx c (λk b=>(_,f,b,g)) hf
def tAug(i:Nat)(te:TE)(ti:TIp):TS:=λD σ H=>∃x,σ[i]?=bH (bH x)/\te σ H λy H1=>ti x y H1 λz H2=>D.nx (σ.set i (bH z)) H2
def b51(hN:X.N.Nodup)(hi:X.N[i]?=bH x)(hx:Loc X.env.scope x)(he:PE X e te)(ho:PIp X op ti)(hf:X.fn x=kz\/X.env.scope.names.lookup x=bH .local) :
  PS X (.AugAssign (.Name x pos') op e pos) (tAug i te ti):=by
 ext a s σ H D I h;let(v,f,h):=h;let(m,g,j):=I.loc;let b:Vis X.env.scope x:=by let k||k:=hx;show .inl k;show .inr (.inl k)
 let(u,r,l):=j i x v hi f b;show wpAny_AugAssign_Name ?_;let d:wpAny (model X.prog X.w) X.A (eval e X.env) (λw B=>wpAny (model X.prog X.w) X.A (iR op u w) (λr G=>wpAny (model X.prog X.w) X.A (j7 X.env x r) (λ_=>SP X a D .next) X.xe G) X.xe B) X.xe s:=by
  show thn (he a s σ H _ I h) λw C (y,n,p,F,t)=>(thn (ho a C σ n v y u w _ p r F t) λz Q (M,E,o,L,J)=>(a24 o hN hi hx L (λR q=>(_,E,q,J)) hf))
 let(hk,hm)||(hk,c,hc,hcell):=l
 .show wpAny_loadName_local I.ok.kind hk g hm d
 .let hk||hk:=hk
  .show wpAny_loadName_cell I.ok.kind hk hc hcell d
  .let k||k:=hx
   .let:X.env.scope.names.lookup x=bH .free:=hk
    rw[k]at this;cases this
   .let:X.env.scope.names.lookup x=bH .free:=hk
    rw[k]at this;cases this
def b52(c:TT)(tb:TS):TS:=λD σ H=>∃W:Nat->St->Hp->Prop,(∃m,W m σ H)/\∀m σ H,W m σ H ->
 c σ H λb H1=>if b=kz then ∃N:St->Hp->Prop,(∀σ' H',N σ' H'->∃m',m'<m/\W m' σ' H')/\tb { D with nx:=N,ct:=N,bk:=D.nx } σ H1 else D.nx σ H1
def b0U(hp:h9 (model X.prog X.w) X.A X.env X.xe)(hc:PT X c tc)(hb:PSs X body tb):PS X (.While c body [] pos) (b52 tc tb):=by
 ext a s σ H D I h;let(W,(z,y),g):=h;show wpAny_While (codeAny_whileLoop (λn t=>Ex2 fun σ' H'=> Inv X a σ' H' t/\W n σ' H') ?_ z (σ,H,I,y));ext n x ⟨σ1,q,r,u⟩;show i7 hp (thn (hc a x σ1 q _ r (g n σ1 q u)) λb B Y=>Y.elim λo Y=>Y.elim λm e=>?_);cases b with
 |true=>
  let(N,p,e):=e;show i7 hp (thn (hb a B σ1 o _ m e) λf C d=>?_);cases f with
  |next=>
   let(σ3,H3,I3,k):=d;let(j,l,i):=p σ3 H3 k;show(j,l,σ3,H3,I3,i)
  |cont=>
   let(σ3,H3,I3,k):=d;let(j,l,i):=p σ3 H3 k;show(j,l,σ3,H3,I3,i)
  |brk=>show d
  |ret v=>show d
 |false=>
  show iY (σ1,o,m,e)
structure It where
 go:Nat->Hp->Prop
 yld:Nat->Hp->V->Hp->Prop
 stop:Nat->Hp->Prop
def FpOk(X:Cx)(pins:List (Addr×Obj))(H:Hp)(b:Addr):Prop:=
 H b=gV/\b≠X.env.locals/\b∉X.fs/\(b∈X.ex\/X.s₀.heap.objs.size<=b)/\(∀x c,X.env.cells.lookup x=bH c->c≠b)/\∀p∈X.pn++pins,p.1≠b
def Inv.fpOk(I:Inv X pins σ H s)(hb:s.heap.objs.size<=b)(hn:H' b=gV):FpOk X pins H' b:=by
 show(hn,cF (bQ I.lt hb),I.nofs hb,.inr (bD I.sz hb),λx c e z=>?_,λp a z=>(absurd (bQ (Heap.lt_size (I.pin p a).1) (by simp_all)) (cC _)))
 .let(v,q):=I.cell x c e;show absurd (bQ q.lt (by simp_all)) (cC _)
structure Turn (P:gT) (w:World) (K:Fg) (tg:Expr) (J:It) (fp:List Addr) (it:Addr) (tn:Nat->Heap->Prop):Prop where
 mem:it∈fp
 obj:∀i h,tn i h->∀b∈fp,∃o,h.get? b=bH o/\∀v,o.data≠.cell v
 keep:∀i h h',tn i h->(∀b∈fp,∀o,h.get? b=bH o->h'.get? b=bH o)->tn i h'
 item:∀(X:Cx),X.prog=P->X.w=w->X.K=K->X.calm=kz->∀(i:Nat)(pins:List (Addr×Obj))(s:Shared)(σ:St)(H:Hp)(E:Value->Shared->Prop),Inv X pins σ H s->(∀b∈fp,FpOk X pins H b)->tn i s.heap->J.go i H ->
  wpAny (model P w) X.A (pyNext (.ref it)) (λr s1=>∃u,r=bH u /\
   wpAny (model P w) X.A (kg tg (.ref it) u) (λ_ s2=>∃x H',Inv X pins σ H' s2/\RelV x u/\J.yld i H x H'/\tn (i+1) s2.heap/\∀b∈fp,H' b=gV) E s1) E s
 done:∀(X:Cx),X.prog=P->X.w=w->X.K=K->X.calm=kz->∀(i:Nat)(pins:List (Addr×Obj))(s:Shared)(σ:St)(H:Hp)(E:Value->Shared->Prop),Inv X pins σ H s->(∀b∈fp,FpOk X pins H b)->tn i s.heap->J.stop i H ->
  wpAny (model P w) X.A (pyNext (.ref it)) (λr s1=>r=gV/\Inv X pins σ H s1) E s
 self:∀(A:Around)(i:Nat)(s:Shared)(Q:Value->Shared->Prop)(E:Value->Shared->Prop),tn i s.heap->Q (.ref it) s->wpAny (model P w) A (pyIter (.ref it)) Q E s
abbrev TI:=St->Hp->(It->Hp->Prop)->Prop
def PIE(X:Cx)(pins:List (Addr×Obj))(σ:St)(tg:Expr)(R:It->Hp->Prop)(itv:Value)(s2:Shared):Prop:=
 ∃(it:Addr)(fp:List Addr)(tn:Nat->Heap->Prop)(J:It)(H':Hp),itv=.ref it/\Inv X pins σ H' s2/\Turn X.prog X.w X.K tg J fp it tn/\tn 0 s2.heap/\(∀b∈fp,FpOk X pins H' b)/\R J H'
def PI(X:Cx)(tg iter:Expr)(wi:TI):Prop:=
 ∀(pins:List (Addr×Obj))(s:Shared)(σ:St)(H:Hp)(R:It->Hp->Prop),Inv X pins σ H s->wi σ H R ->
  wpAny (model X.prog X.w) X.A (eval iter X.env) (λv s1=>wpAny (model X.prog X.w) X.A (pyIter v) (PIE X pins σ tg R) X.xe s1) X.xe s
def a5J(ho:s.heap.get? it=bH o)(hc:o.cls=.type n)(hd:o.data=.fields vs)
    (hn:["enumerate","zip","dict_itemiterator","dict_reverseitemiterator","odict_iterator","itertools.zip_longest","itertools.pairwise"].contains n=kQ) (hQ:Q () s):wpAny M A (kg tg (.ref it) u) Q E s:=by
  cases tg<;>first
    |show gK hQ
    | (cases u<;>first
        |show gK hQ
        | (show gJ (jw ho ?_)
           rw[hc,hd]
           change wpAny M A (if _=kz then _ else _) Q E s
           rw[if_neg (by grind)];show gK hQ))
noncomputable def Itl(K:Fg)(a:Addr):It:=
 (λi H=>∃xs x,SqL K H a xs/\xs[i]?=bH x,λi H x H'=>H'=H/\∀xs,SqL K H a xs->xs[i]?=bH x,λi H=>∃xs,SqL K H a xs/\xs.length<=i)
noncomputable def Itt(K:Fg)(a:Addr):It:=
 (λi H=>∃xs x,SqT K H a xs/\xs[i]?=bH x,λi H x H'=>H'=H/\∀xs,SqT K H a xs->xs[i]?=bH x,λi H=>∃xs,SqT K H a xs/\xs.length<=i)
noncomputable def Itr(lo:Int)(n:Nat):It:=(λi _=>i<n,λi H x H'=>H'=H/\x=.int (lo+i),λi _=>n<=i)
theorem a8k{P:gT}{w:World}{K:Fg}{tg:Expr}(a it:Addr):Turn P w K tg (Itl K a) [it] it (λi h=>h.IsListIter it a i) where
 mem:=by simp
 obj:=λi h st b hb=>by
  let e:b=it:=↑hb
  subst e;let(o,e,c,d):=st;show(o,e,λv z=>by rw[d]at z;cases z)
 keep:=λi h h' st k=>st.at λo e=>k it (by simp) o e
 item:=by
  ext X hP hw hK hc i pins s σ H E I hf st hg;subst hP hw hK;let(xs,x,hq,hx):=hg;let(its,rv,p,hz):=I.list hq;let(u,hu,ru):=rv.get hx;let(f0,f1,f2,f3,f4,f5):=hf it (by simp);show wpAny_pyNext_list_item st p.isList (x:=u) ↑hu λh' st' sb=>?_;let I1:Inv X pins σ H { s with heap:=h' }:=I.turned (t':=s.toks) (λb o hb e=>(sb.2 b hb).trans e) f0 f1 f3 f4 f5;let(o,e,c,d):=id st';show(u,rfl,a5J (s:={ s with heap:=h' }) e c d (by decide) (x,H,I1,ru,(rfl,λys hy=>by rw[I.list_inj hy hq];show hx),st',λb hb=>(hf b hb).1))
 done:=by
  ext X hP hw hK hc i pins s σ H E I hf st hg;subst hP hw hK;let(xs,hq,hx):=hg;let(its,rv,p,hz):=I.list hq;let(f0,f1,f2,f3,f4,f5):=hf it (by simp);let hl:=rv.length;show wpAny_pyNext_list_end (I.ok.hd hc) st p.isList (by simp;cbv) λh' eb=>(rfl,I.turned (t':=s.toks) (λb o hb e=>eb b o hb e) f0 f1 f3 f4 f5)
 self:=λ_ _ _ _ _ st h=>wpAny_pyIter_listiter st h
theorem a7u{P:gT}{w:World}{K:Fg}{tg:Expr}(a it:Addr):Turn P w K tg (Itt K a) [it] it (λi h=>h.IsTupleIter it a i) where
 mem:=by simp
 obj:=λi h st b hb=>by
  let e:b=it:=↑hb
  subst e;let(o,e,c,d):=st;show(o,e,λv z=>by rw[d]at z;cases z)
 keep:=λi h h' st k=>st.at λo e=>k it (by simp) o e
 item:=by
  ext X hP hw hK hc i pins s σ H E I hf st hg;subst hP hw hK;let(xs,x,hq,hx):=hg;let(its,rv,p,hz):=I.tuple hq;let(u,hu,ru):=rv.get hx;let(f0,f1,f2,f3,f4,f5):=hf it (by simp);show wpAny_pyNext_tuple_item st (show s.heap.IsTuple a its.toArray from p) (x:=u) ↑hu λh' st' sb=>?_;let I1:Inv X pins σ H { s with heap:=h' }:=I.turned (t':=s.toks) (λb o hb e=>(sb.2 b hb).trans e) f0 f1 f3 f4 f5;let(o,e,c,d):=id st';show(u,rfl,a5J (s:={ s with heap:=h' }) e c d (by decide) (x,H,I1,ru,(rfl,λys hy=>by rw[I.tuple_inj hy hq];show hx),st',λb hb=>(hf b hb).1))
 done:=by
  ext X hP hw hK hc i pins s σ H E I hf st hg;subst hP hw hK;let(xs,hq,hx):=hg;let(its,rv,p,hz):=I.tuple hq;let(f0,f1,f2,f3,f4,f5):=hf it (by simp);let hl:=rv.length;show wpAny_pyNext_tuple_end (I.ok.hd hc) st (show s.heap.IsTuple a its.toArray from p) (by simp;cbv) λh' eb=>(rfl,I.turned (t':=s.toks) (λb o hb e=>eb b o hb e) f0 f1 f3 f4 f5)
 self:=λ_ _ _ _ _ st h=>wpAny_pyIter_tupleiter st h
theorem a7v{P:gT}{w:World}{K:Fg}{tg:Expr}(it:Addr)(lo:Int)(n:Nat):Turn P w K tg (Itr lo n) [it] it (λi h=>IsRangeIter h it (lo+(i:Nat)*1) ((n:Int)-(i:Nat)) 1) where
 mem:=by simp
 obj:=λi h st b hb=>by
  let e:b=it:=↑hb
  subst e;show(_,st,λv z=>by
   let z':Data.fields _=Data.cell v:=z;cases z')
 keep:=λi h h' st k=>k it (by simp) _ st
 item:=by
  ext X hP hw hK hc i pins s σ H E I hf st hg;subst hP hw hK;let(f0,f1,f2,f3,f4,f5):=hf it (by simp);let W:=Walks.range (prog:=X.prog) (w:=X.w) (I.ok.hd hc) it lo 1 n;show W.item i s _ _ hg st λv h' tk hv st' kk=>?_;let(t,rfl):=hv;let I1:Inv X pins σ H { s with heap:=h',toks:=tk }:=I.turned (λb o hb e=>kk b o ↑hb e) f0 f1 f3 f4 f5;show(_,rfl,a5J (s:={ s with heap:=h',toks:=tk }) (n:="range_iterator") st' rfl rfl (by decide) (.int (lo+i),H,I1,(t,?_),(rfl,rfl),st',λb hb=>(hf b hb).1));rw[Int.mul_one]
 done:=by
  ext X hP hw hK hc i pins s σ H E I hf st hg;subst hP hw hK;let(f0,f1,f2,f3,f4,f5):=hf it (by simp);show wpAny_pyNext_range_end (I.ok.hd hc) st (by let:n<=i:=hg;cbv) λh' eb=>(rfl,I.turned (t':=s.toks) (λb o hb e=>eb b o hb e) f0 f1 f3 f4 f5)
 self:=λ_ _ _ _ _ st h=>wpAny_pyIter_rangeiter st h
section
variable{tg:Expr}
def b8X(K:Fg)(tl:TE):TI:=fun σ H R=>tl σ H λx H1=>∃a,x=.ref a/\(∃xs,SqL K H1 a xs)/\R (Itl K a) H1
def iTup(K:Fg)(tl:TE):TI:=fun σ H R=>tl σ H λx H1=>∃a,x=.ref a/\(∃xs,SqT K H1 a xs)/\R (Itt K a) H1
def b3C(hl:PE X l tl):PI X tg l (b8X X.K tl):=by
 ext f s σ H R I h;show thn (hl f s σ H _ I h) λv d (x,m,c,g,i)=>?_;let(a,e,(r,j),q):=i;subst e;cases g;let(n,u,p,t):=c.list j;show jx p.isList (d.heap.objs.size,[d.heap.objs.size],_,_,m,rfl,c.kept λb o e=>Heap.get?_push_of_some _ e,a8k a _,(_,Heap.get?_push_size _ rfl,rfl,rfl),λb k=>?_,q);let e:b=d.heap.objs.size:=by simp_all
 subst e;show c.fpOk (bd _) (c.hok.fresh (bd _))
def b53(hl:PE X l tl):PI X tg l (iTup X.K tl):=by
 ext f s σ H R I h;show thn (hl f s σ H _ I h) λv c (x,m,d,k,j)=>?_;let(a,e,(u,n),q):=j;subst e;cases k;let(g,t,p,r):=d.tuple n;show wpAny_pyIter_tuple (p) (c.heap.objs.size,[c.heap.objs.size],_,_,m,rfl,d.kept λb o e=>Heap.get?_push_of_some _ e,a7u a _,(_,Heap.get?_push_size _ rfl,rfl,rfl),λb i=>?_,q);let e:b=c.heap.objs.size:=by simp_all
 subst e;show d.fpOk (bd _) (d.hok.fresh (bd _))
def b0V{lo hi:Int}(I:Inv X pins σ H s)(h1:-(2 ^ 62)<=lo)(h2:lo<2 ^ 62)(h3:-(2 ^ 62)<=hi)(h4:hi<2 ^ 62)
  (q:R (Itr lo (hi-lo).toNat) H):wpAny (model X.prog X.w) X.A (pyIter (.ref s.heap.objs.size)) (PIE X pins σ tg R) E { s with heap:=s.heap.push { cls:=.type "range",data:=.fields #[.int lo t,.int hi u,.int 1 v] },toks:=tk }:=by
 show wpAny_pyIter_range (IsRange.new ..) (small_one h1 h2 h3 h4) ?_;let a:Inv X pins σ H { s with heap:=s.heap.push { cls:=.type "range",data:=.fields #[.int lo t,.int hi u,.int 1 v] },toks:=tk }:=I.kept λb o e=>Heap.get?_push_of_some _ e;show((s.heap.push { cls:=.type "range",data:=.fields #[.int lo t,.int hi u,.int 1 v] }).objs.size,[(s.heap.push { cls:=.type "range",data:=.fields #[.int lo t,.int hi u,.int 1 v] }).objs.size],_,_,H,rfl,
  a.kept λb o e=>Heap.get?_push_of_some _ e,a7v _ lo (hi-lo).toNat,?_,λb d=>?_,q)
 .let c:lo+((0:Nat))*1=lo:=by simp
  let f:(((hi-lo).toNat))-((0:Nat))=gU.Range.rangeSize lo hi 1:=by rw[rangeSize_one];split<;>lia
  rw[c,f];show Heap.get?_push_size _ rfl
 .let e:b=(s.heap.push { cls:=.type "range",data:=.fields #[.int lo t,.int hi u,.int 1 v] }).objs.size:=↑d
  subst e;show a.fpOk (bd _) (a.hok.fresh (bd _))
def b54(ta:TA):TI:=fun σ H R=>ta σ H λvs H1=>∃j:Int,vs=[.int j]/\-(2 ^ 62)<=j/\j<2 ^ 62/\R (Itr 0 j.toNat) H1
def a8l(hg:Gl X "range")(hm:X.mg "range"=gV)(ha:PA X [a] ta)(hs:gQ [a] X.env=[(kQ,eval a X.env,)]):PI X tg (.Call (.Name "range" p) [a] [] pos) (b54 ta):=by
 ext b s σ H R I h;show Call_ (a3P I hg hm boot_range (PyProof.Rows.callWith_type1 (thn (ha pos b s σ H _ I h) λl k (i,m,d,f,c)=>?_) hs rfl));let(j,e,c,g,q):=c;subst e;cases f with
 |cons r rr=>
  cases rr;let(t,rfl):=r;show call_range_1 (b0V d (by simp) (by simp) c g (by grind))
def tFor(wi:TI)(g:TG)(tb:TS):TS:=λD σ H=>wi σ H λJ H1=>∃W:Nat->Nat->St->Hp->Prop,(∃m,W 0 m σ H1)/\∀i m σ H,W i m σ H ->
 (J.stop i H/\D.nx σ H)\/(J.go i H/\∃N:St->Hp->Prop,(∀σ' H',N σ' H'->∃m',m'<m/\W (i+1) m' σ' H')/\∀x H',J.yld i H x H'->g x σ H' fun σ2 H2=>tb { D with nx:=N,ct:=N,bk:=D.nx } σ2 H2)
noncomputable def a6z(fp:List Addr)(h:Heap):List (Addr×Obj):=fp.filterMap λb=>(h.get? b).map λo=>(b,o,)
def a1D(hb:b∈fp)(e:h.get? b=bH o):(b,o,)∈a6z fp h:=cR.mpr (b,hb,by rw[e];rfl)
def a8m(hp:p∈a6z fp h):p.1∈fp/\h.get? p.1=bH p.2:=by
 let(b,a,e):=cR.mp hp;cases q:h.get? b with
 |none=>rw[q]at e;cases e
 |some o=>
  rw[q]at e;let c:=bH.inj e;subst c;show(a,q)
def Inv.pinned(I:Inv X pins σ H s)(hf:∀b∈fp,FpOk X pins H b)(ho:∀b∈fp,∃o,s.heap.get? b=bH o/\∀v,o.data≠.cell v):Inv X (pins++a6z fp s.heap) σ H s:=
 I.pins_of λp h=>(be.mp h).elim (λz=>I.pin p (bY _ z)) λz=>by
  let(a,e):=a8m z;let(g,f,i,_):=hf p.1 a;let(o,c,d):=ho p.1 a;rw[e]at c;cases c;show(e,g,f,i,d)
def Inv.unpinned(I:Inv X (pins++pl) σ H s):Inv X pins σ H s:=I.pins_of λp a=>I.pin p (bY _ (cQ _ a))
def b55(hp:h9 (model X.prog X.w) X.A X.env X.xe)(hc:X.calm=kz)(hi:PI X tg iter wi)(hg:PG X tg g)(hb:PSs X body tb)
  (hs:∀x,iJ iter X.env x=pure x:=by ext _;rfl):PS X (.For tg iter body [] pos) (tFor wi g tb):=by
 ext a s σ H D I h;show wpAny_For (thn (hi a s σ H _ I h) λv s1 h1=>thn h1 λitv s2 h2=>?_) hs;let(it,z,Q,J,H2,e,I2,T,st2,S,W,(m0,w0),F):=h2;subst e;let p:∀{H':Hp},(∀b∈z,H' b=gV)->∀b∈z,FpOk X a H' b:=λhn b hb=>(hn b hb,(S b hb).2);show codeAny_forLoop_any (λn Y=>∃i σ' H',Inv X a σ' H' Y/\Q i Y.heap/\(∀b∈z,H' b=gV)/\W i n σ' H') ?_ m0 (0,σ,H2,I2,st2,λb hb=>(S b hb).1,w0);ext n U ⟨i,σ3,B,R,E,C,w3⟩;let(stop,qn)||(go,N,hN,step):=F i n σ3 B w3
 .show i7 hp (thn (T.done X rfl rfl rfl hc i a U σ3 B X.xe R (p C) E stop) λr s4 Y=>Y.elim λG I4=>?_);subst G;show iY (σ3,B,I4,qn)
 .show i7 hp (thn (T.item X rfl rfl rfl hc i a U σ3 B X.xe R (p C) E go) λr s4 Y=>Y.elim λu Y=>Y.elim λG h4=>?_);subst G;show i7 hp (thn h4 λ_ s5 (x,H5,I5,r5,y5,y,M)=>(i7 hp (thn (hg _ s5 σ3 H5 x u _ (I5.pinned (p M) (T.obj _ _ y)) r5 (step x H5 y5)) λ_ s6 (σ6,H6,I6,q6)=>(i7 hp (thn (hb _ s6 σ6 H6 _ I6 q6) λf L l=>?_)))));let q:∀{σ7:St}{j:Hp},Inv X _ σ7 j L->N σ7 j->∃m,m<n/\∃i σ' H',Inv X a σ' H' L/\Q i L.heap/\(∀b∈z,H' b=gV)/\W i m σ' H':=λ{σ7 j} c t=>by
   let(m',hm,w7):=hN σ7 j t;show(m',hm,i+1,σ7,j,c.unpinned,T.keep _ _ _ y λb hb o e=>(c.pin _ (bY _ (bY _ (a1D hb e)))).1,λb hb=>?_,w7);let(o,e,d):=T.obj _ _ y b hb;show (c.pin _ (bY _ (bY _ (a1D hb e)))).2.1
  cases f with
  |next=>let(σ7,j,c,t):=l;show q c t
  |cont=>let(σ7,j,c,t):=l;show q c t
  |brk=>let(σ7,j,c,l):=l;show(σ7,j,c.unpinned,l)
  |ret v=>let(x7,σ7,j,c,r7,l):=l;show(x7,σ7,j,c.unpinned,r7,l)
end
abbrev R2:=V->V->Hp->VK->Prop
def OpR(X:Cx)(f:Value->Value->Sem Value)(r:R2):Prop:=
 ∀(pins:List (Addr×Obj))(s:Shared)(σ:St)(H:Hp)(x y:V)(v u:Value)(Q:VK),Inv X pins σ H s->RelV x v->RelV y u->r x y H Q ->
  wpAny (model X.prog X.w) X.A (f v u) (EP X pins σ Q) X.xe s
def UnR(X:Cx)(f:Value->Sem Value)(r:V->Hp->VK->Prop):Prop:=
 ∀(pins:List (Addr×Obj))(s:Shared)(σ:St)(H:Hp)(x:V)(v:Value)(Q:VK),Inv X pins σ H s->RelV x v->r x H Q ->
  wpAny (model X.prog X.w) X.A (f v) (EP X pins σ Q) X.xe s
def CallR(X:Cx)(f:Value)(r:List V->Hp->VK->Prop):Prop:=
 ∀(pins:List (Addr×Obj))(s:Shared)(σ:St)(H:Hp)(xs:List V)(us:List Value)(Q:VK),Inv X pins σ H s->Vals xs us->r xs H Q ->
  wpAny (model X.prog X.w) X.A (call f us) (EP X pins σ Q) X.xe s
def TruR(X:Cx)(r:V->Hp->(Bool->Hp->Prop)->Prop):Prop:=
 ∀(pins:List (Addr×Obj))(s:Shared)(σ:St)(H:Hp)(x:V)(v:Value)(Q:Bool->Hp->Prop),Inv X pins σ H s->RelV x v->r x H Q ->
  wpAny (model X.prog X.w) X.A (truthy v) (TP X pins σ Q) X.xe s
def tOp(r:R2)(ta tb:TE):TE:=fun σ H Q=>ta σ H λx H1=>tb σ H1 λy H2=>r x y H2 Q
def tUn(r:V->Hp->VK->Prop)(ta:TE):TE:=fun σ H Q=>ta σ H λx H1=>r x H1 Q
def rI(C:Int->Int->Prop)(g:Int->Int->V):R2:=λx y H Q=>∃i j,x=.int i/\y=.int j/\C i j/\Q (g i j) H
def rI0(g:Int->Int->V):R2:=λx y H Q=>∃i j,x=.int i/\y=.int j/\Q (g i j) H
def rU(g:Int->V):V->Hp->VK->Prop:=λx H Q=>∃i,x=.int i/\Q (g i) H
section
variable{a b c:Expr}{ta tb:TE}
def binT(ha:PE X a ta)(hb:PE X b tb){R:V->V->Hp->Prop}(I:Inv X pins σ H s)
  (h:ta σ H λx H1=>tb σ H1 λy H2=>R x y H2) {f:Value->Value->Sem Value}
  (hf:∀v u s2 x y H2,Inv X pins σ H2 s2->RelV x v->RelV y u->R x y H2->wpAny (model X.prog X.w) X.A (f v u) Q X.xe s2) :
  wpAny (model X.prog X.w) X.A (eval a X.env) (λv sj=>wpAny (model X.prog X.w) X.A (eval b X.env) (λu sv=>wpAny (model X.prog X.w) X.A (f v u) Q X.xe sv) X.xe sj) X.xe s:=by
 show thn (ha pins s σ H _ I h) λv c (x,j,i,g,n)=>(thn (hb pins c σ j _ i n) λu e (y,m,d,k,l)=>(hf v u e x y m d g k l))
def b56(ho:OpR X (hZ op) r)(ha:PE X a ta)(hb:PE X b tb):PE X (.BinOp a op b pos) (tOp r ta tb):=λc s σ H Q I h=>wpAny_BinOp (binT ha hb I h λv u i x y f e d g q=>ho c i σ f x y v u Q e d g q)
def b8Y(ho:UnR X (jN op) r)(ha:PE X a ta):PE X (.UnaryOp op a pos) (tUn r ta):=λb s σ H Q I h=>UnaryOp_ (thn (ha b s σ H _ I h) λv d (x,e,c,g,f)=>ho b d σ e x v Q c g f)
def opI{g:Int->Int->Int}
  (rule:∀(i j:Int)(t u:Tok)(s:Shared)(Q:Value->Shared->Prop)(E:Value->Shared->Prop),C i j->Q (.int (g i j) s.toks) { s with toks:=s.toks+1 }->wpAny (model X.prog X.w) X.A (f (.int i t) (.int j u)) Q E s) :
  OpR X f (rI C λi j=>.int (g i j)):=by
 ext b s σ H x y v u Q I a d h;let(i,j,rfl,rfl,e,q):=h;let(t,rfl):=a;let(c,rfl):=d;show rule i j t c s _ _ e (.int _,H,I.tok _,(_,rfl),q)
def opI0{g:Int->Int->Int}
  (rule:∀(i j:Int)(t u:Tok)(s:Shared)(Q:Value->Shared->Prop)(E:Value->Shared->Prop),Q (.int (g i j) s.toks) { s with toks:=s.toks+1 }->wpAny (model X.prog X.w) X.A (f (.int i t) (.int j u)) Q E s) :
  OpR X f (rI0 λi j=>.int (g i j)):=by
 ext a s σ H x y v u Q I d b h;let(i,j,rfl,rfl,q):=h;let(t,rfl):=d;let(c,rfl):=b;show rule i j t c s _ _ (.int _,H,I.tok _,(_,rfl),q)
def opB0{g:Int->Int->Bool}
  (rule:∀(i j:Int)(t u:Tok)(s:Shared)(Q:Value->Shared->Prop)(E:Value->Shared->Prop),Q (.bool (g i j)) s->wpAny (model X.prog X.w) X.A (f (.int i t) (.int j u)) Q E s) :
  OpR X f (rI0 λi j=>.bl (g i j)):=by
 ext d s σ H x y v u Q I c a h;let(i,j,rfl,rfl,q):=h;let(t,rfl):=c;let(b,rfl):=a;show rule i j t b s _ _ (.bl _,H,I,rfl,q)
def CPow(i j:Int):Prop:=0<=j/\j<=1000000/\i.natAbs<2 ^ 64
def CMul(i j:Int):Prop:=(-(2 ^ 64)<i/\i<2 ^ 64)\/(-(2 ^ 64)<j/\j<2 ^ 64)
def CMul.ok(h:CMul i j):IntMulOk i j:=by
 let(h1,h2)||(h1,h2):=h
 .show .of_left (intBits_le_64 h1 h2)
 .show .of_right (intBits_le_64 h1 h2)
def op_add:OpR X (hZ .Add) (rI0 λi j=>.int (i+j)):=opI0 λ_ _ _ _ _ _ _ q=>add_int q
def b57:OpR X (hZ .Sub) (rI0 λi j=>.int (i-j)):=opI0 λ_ _ _ _ _ _ _ q=>sub_int q
def b58:OpR X (hZ .Mult) (rI CMul λi j=>.int (i*j)):=opI λ_ _ _ _ _ _ _ a q=>mul_int q a.ok
def b59:OpR X (hZ .Mod) (rI (λ_ j=>0<j) λi j=>.int (i % j)):=opI λi j _ _ _ _ _ a q=>by
 let b:(0:Int)<j:=a;show mod_int' (by lia) (by rw[Int.fmod_eq_emod_of_nonneg i (by lia)];show q)
def b6a:OpR X (hZ .Pow) (rI CPow λi j=>.int (i ^ j.toNat)):=opI λ_ _ _ _ _ _ _ a q=>pow_int_small a.1 a.2.1 a.2.2 q
def b3D:OpR X (iR .Add) (rI0 λi j=>.int (i+j)):=opI0 λ_ _ _ _ _ _ _ q=>iadd_int q
def unI{g:Int->Int}
  (rule:∀(i:Int)(t:Tok)(s:Shared)(Q:Value->Shared->Prop)(E:Value->Shared->Prop),Q (.int (g i) s.toks) { s with toks:=s.toks+1 }->wpAny (model X.prog X.w) X.A (f (.int i t)) Q E s) :
  UnR X f (rU λi=>.int (g i)):=by
 ext b s σ H x v Q I a h;let(i,rfl,q):=h;let(t,rfl):=a;show rule i t s _ _ (.int _,H,I.tok _,(_,rfl),q)
def b6b:UnR X (jN .USub) (rU λi=>.int (-i)):=unI λ_ _ _ _ _ q=>neg_int q
end
noncomputable def scal:V->V->Bool
 |.non,.non=>kz |.non,.int _=>kz |.int _,.non=>kz |.non,.bl _=>kz |.bl _,.non=>kz |.non,.str _=>kz |.str _,.non=>kz
 |.int _,.int _=>kz |.bl _,.bl _=>kz |.str _,.str _=>kz |.byt _,.byt _=>kz
 |.int _,.str _=>kz |.str _,.int _=>kz |.bl _,.str _=>kz |.str _,.bl _=>kz
 |_,_=>kQ
def rEq:R2:=λx y H Q=>scal x y=kz/\Q (.bl (decide (x=y))) H
def rNe:R2:=λx y H Q=>scal x y=kz/\Q (.bl (!decide (x=y))) H
def a8n:decide (V.int i=V.int j)=(i==j):=by
 rw[cS];simp
def a8o:decide (V.bl i=V.bl j)=(i==j):=by
 rw[cS];simp
def a8p:decide (V.str i=V.str j)=(i==j):=by
 rw[cS];simp
def a8q:decide (V.byt i=V.byt j)=(i.toList==j.toList):=by
 rw[cS];cases i;cases j;simp
section
variable{a b c:Expr}{ta tb tc:TE}
def a0o(I:Inv X pins σ H s)(q:Q (.bl k) H)(e:k=k'):EP X pins σ Q (.bool k') s:=by
 subst e;show(.bl k,H,I,rfl,q)
def op_eq:OpR X (gX .Eq) rEq:=by
 ext pins s σ H x y v u Q I rx ry h;let(hs,q):=h;cases x with
 |non=>
  cases rx;cases y with
  |non=>cases ry;show PySem.EqNone.eq_none_none (a0o I q (by simp))
  |bl j=>cases ry;show PySem.EqNone.eq_none_bool (a0o I q (by simp))
  |int j=>let(t',rfl):=ry;show PySem.EqNone.eq_none_int (a0o I q (by simp))
  |str j=>let(t',rfl):=ry;show PySem.EqNone.eq_none_str (a0o I q (by simp))
  |_=>show absurd (show kQ=kz from hs) bT
 |bl i=>
  cases rx;cases y with
  |non=>cases ry;show PySem.EqNone.eq_bool_none (a0o I q (by simp))
  |bl j=>cases ry;show eq_bool (a0o I q a8o)
  |str j=>let(t',rfl):=ry;show PySem.EqMixed.eq_bool_str (a0o I q (by simp))
  |_=>show absurd (show kQ=kz from hs) bT
 |int i=>
  let(t,rfl):=rx;cases y with
  |non=>cases ry;show PySem.EqNone.eq_int_none (a0o I q (by simp))
  |int j=>let(t',rfl):=ry;show eq_int (a0o I q a8n)
  |str j=>let(t',rfl):=ry;show PySem.EqMixed.eq_int_str (a0o I q (by simp))
  |_=>show absurd (show kQ=kz from hs) bT
 |str i=>
  let(t,rfl):=rx;cases y with
  |non=>cases ry;show PySem.EqNone.eq_str_none (a0o I q (by simp))
  |bl j=>cases ry;show PySem.EqMixed.eq_str_bool (a0o I q (by simp))
  |int j=>let(t',rfl):=ry;show PySem.EqMixed.eq_str_int (a0o I q (by simp))
  |str j=>let(t',rfl):=ry;show eq_str (a0o I q a8p)
  |_=>show absurd (show kQ=kz from hs) bT
 |byt i=>
  let(t,rfl):=rx;cases y with
  |byt j=>let(t',rfl):=ry;show PySem.W.eq_bytes (a0o I q a8q)
  |_=>show absurd (show kQ=kz from hs) bT
 |_=>cases y<;>show absurd (show kQ=kz from hs) bT
def op_ne:OpR X (gX .NotEq) rNe:=by
 ext e s σ H x y v u Q I d a h;let(c,q):=h;cases x with
 |non=>
  cases d;cases y with
  |non=>cases a;show PySem.EqNone.ne_none_none (a0o I q (by simp))
  |bl j=>cases a;show PySem.EqNone.ne_none_bool (a0o I q (by simp))
  |int j=>let(b,rfl):=a;show PySem.EqNone.ne_none_int (a0o I q (by simp))
  |str j=>let(b,rfl):=a;show PySem.EqNone.ne_none_str (a0o I q (by simp))
  |_=>show absurd (show kQ=kz from c) bT
 |bl i=>
  cases d;cases y with
  |non=>cases a;show PySem.EqNone.ne_bool_none (a0o I q (by simp))
  |bl j=>cases a;show ne_bool (a0o I q (congrArg not a8o))
  |str j=>let(b,rfl):=a;show PySem.EqMixed.ne_bool_str (a0o I q (by simp))
  |_=>show absurd (show kQ=kz from c) bT
 |int i=>
  let(t,rfl):=d;cases y with
  |non=>cases a;show PySem.EqNone.ne_int_none (a0o I q (by simp))
  |int j=>let(b,rfl):=a;show ne_int (a0o I q (congrArg not a8n))
  |str j=>let(b,rfl):=a;show PySem.EqMixed.ne_int_str (a0o I q (by simp))
  |_=>show absurd (show kQ=kz from c) bT
 |str i=>
  let(t,rfl):=d;cases y with
  |non=>cases a;show PySem.EqNone.ne_str_none (a0o I q (by simp))
  |bl j=>cases a;show PySem.EqMixed.ne_str_bool (a0o I q (by simp))
  |int j=>let(b,rfl):=a;show PySem.EqMixed.ne_str_int (a0o I q (by simp))
  |str j=>let(b,rfl):=a;show ne_str (a0o I q (congrArg not a8p))
  |_=>show absurd (show kQ=kz from c) bT
 |byt i=>
  let(t,rfl):=d;cases y with
  |byt j=>let(b,rfl):=a;show PySem.W.ne_bytes (a0o I q (congrArg not a8q))
  |_=>show absurd (show kQ=kz from c) bT
 |_=>cases y<;>show absurd (show kQ=kz from c) bT
def b8Z:OpR X (gX .Lt) (rI0 λi j=>.bl (decide (i<j))):=opB0 λ_ _ _ _ _ _ _ q=>lt_int q
def b80:OpR X (gX .LtE) (rI0 λi j=>.bl (decide (i<=j))):=opB0 λ_ _ _ _ _ _ _ q=>le_int q
def b81:OpR X (gX .Gt) (rI0 λi j=>.bl (decide (j<i))):=opB0 λ_ _ _ _ _ _ _ q=>gt_int q
def a8r:OpR X (gX .Lt) (λx y H Q=>∃i j,x=.str i/\y=.str j/\Q (.bl (decide (i.cps.toList<j.cps.toList))) H):=by
 ext b s σ H x y v u Q I a c h;let(i,j,rfl,rfl,q):=h;let(t,rfl):=a;let(d,rfl):=c;show lt_str (a0o I q rfl)
def op_in_str:OpR X (gX .In) (λx y H Q=>∃i j,x=.str i/\y=.str j/\Q (.bl (!(gU.Str.occurrences j i 0 j.length 1).isEmpty)) H):=by
 ext b s σ H x y v u Q I a c h;let(i,j,rfl,rfl,q):=h;let(t,rfl):=a;let(d,rfl):=c;show in_str (a0o I q rfl)
def op_isN:OpR X (gX .Is) (λx y H Q=>y=.non/\Q (.bl (decide (x=.non))) H):=by
 ext b s σ H x y v u Q I a c h;let(rfl,q):=h;cases c;show is_none_gen (a0o I q ?_);cases x<;>first
  | (cases a;rfl)
  | (let(t,rfl):=a;rfl)
def b3E:OpR X (gX .IsNot) (λx y H Q=>y=.non/\Q (.bl (!decide (x=.non))) H):=by
 ext c s σ H x y v u Q I a b h;let(rfl,q):=h;cases b;show isnot_none_gen (a0o I q ?_);cases x<;>first
  | (cases a;rfl)
  | (let(t,rfl):=a;rfl)
def OpR.or(h:OpR X f r)(h':OpR X f r'):OpR X f (λx y H Q=>r x y H Q\/r' x y H Q):=by
 ext a s σ H x y v u Q I c b q;let q||q:=q
 .show h a s σ H x y v u Q I c b q
 .show h' a s σ H x y v u Q I c b q
def a6A(b:Expr)(h:op≠.In:=by decide)(h2:op≠.NotIn:=by decide):i8 op b=kQ:=by
 let a:(op==CmpOp.In)=kQ:=by grind
 let c:(op==CmpOp.NotIn)=kQ:=by grind
 cases b<;>simp[i8,a,c]
def b3F(ho:OpR X (gX op) r)(ha:PE X a ta)(hb:PE X b tb)(hm:i8 op b=kQ):PE X (.Compare a [op] [b] pos) (tOp r ta tb):=λc s σ H Q I h=>wpAny_Compare1 (binT ha hb I h λv u d x y f g i e q=>ho c d σ f x y v u Q g i e q) hm
def b6c(t:TE):TT:=fun σ H Q=>t σ H λx H'=>∃k,x=.bl k/\Q k H'
def b3G(ho:OpR X (gX op) r)(ha:PE X a ta)(hb:PE X b tb)(hm:i8 op b=kQ):PT X (.Compare a [op] [b] pos) (b6c (tOp r ta tb)):=by
 ext d s σ H Q I h;show wpAny_isTrue_Compare1 (thn (ha d s σ H _ I h) λv l (x,w,f,n,B)=>thn (hb d l σ w _ f B) λu t (y,m,i,j,A)=>
  thn (ho d t σ m x y v u _ i n j A) λc C (z,q,p,o,k,e,g)=>?_) hm
 subst e;cases o;show iO (q,p,g)
def a8s(r r':R2)(ta tb tc:TE):TE:=fun σ H Q=>ta σ H λx H1=>tb σ H1 λy H2=>r x y H2 λz H3=>∃k,z=.bl k /\
 (if k=kz then tc σ H3 λw' H4=>r' y w' H4 Q else Q (.bl kQ) H3)
def b0W(ho:OpR X (gX op) r)(ho':OpR X (gX op') r')(ha:PE X a ta)(hb:PE X b tb)(hc:PE X c tc)
  (hm:jO [op,op'] [b,c]=kQ:=by with_unfolding_all rfl):PE X (.Compare a [op,op'] [b,c] pos) (a8s r r' ta tb tc):=by
 ext f s σ H Q I h;show Compare_chain (thn (ha f s σ H _ I h) λv m (x,t,J,p,N)=>chain_link (thn (hb f m σ t _ J N) λu o (y,C,F,j,L)=>
  thn (ho f o σ C x y v u _ F p j L) λd A (z,i,g,n,k,e,l)=>?_)) hm
 subst e;cases n;show iO ?_;cases k with
 |false=>show ite_ff (.bl kQ,i,g,rfl,l)
 |true=>show ite_tt (chain_last (thn (hc f A σ i _ g l) λM w (D,q,B,G,E)=>ho' f w σ q y D u M Q B j G E))
def b0X(ho:OpR X (gX op) r)(ho':OpR X (gX op') r')(ha:PE X a ta)(hb:PE X b tb)(hc:PE X c tc)
  (hm:jO [op,op'] [b,c]=kQ:=by with_unfolding_all rfl):PT X (.Compare a [op,op'] [b,c] pos) (b6c (a8s r r' ta tb tc)):=by
 ext f s σ H Q I h;show isTrue_chain (thn (ha f s σ H _ I h) λv B (x,G,p,D,R)=>test_link (thn (hb f B σ G _ p R) λu q (y,V,J,l,Y)=>
  thn (ho f q σ V x y v u _ J D l Y) λd S (z,j,i,T,k,e,g)=>?_)) hm
 subst e;cases T;show iO ?_;cases k with
 |false=>
  let(k',t,w):=g;cases t;show ite_ff (j,i,w)
 |true=>
  show ite_tt (test_last (thn (hc f S σ j _ i g) λN F (U,o,C,L,m)=>thn (ho' f F σ o y U u N _ C l L m) λd' s5 (z2,A,W,n,k2,M,E)=>?_));subst M;cases n;show iO (A,W,E)
def TruV(K:Fg)(x:V)(H:Hp)(k:Bool):Prop:=
 match x with
 |.non=>k=kQ
 |.bl b=>k=b
 |.int i=>k=(i != 0)
 |.str y=>y.length<=gN/\k=((y.length:Int) != 0)
 |.byt y=>y.size<=gN/\k=((y.size:Int) != 0)
 |.ref p=>(∃xs,SqL K H p xs/\k=!xs.isEmpty)\/(∃xs,SqT K H p xs/\k=!xs.isEmpty)\/∃kvs,H p=bH (.dK kvs)/\k=!kvs.isEmpty
 |_=>False
def a7w{κ:Type}{kvs:List (κ×V)}{vs:List (κ×Value)}(r:KV kvs vs):(!vs.isEmpty)=!kvs.isEmpty:=by
 cases r<;>rfl
def a3Q(r:Vals xs its):(!its.toArray.isEmpty)=!xs.isEmpty:=by
 cases r<;>simp
def a4O:(gN:Nat)<2 ^ 63:=by rw[ie];decide
def b6d:TruR X (λx H Q=>∃k,TruV X.K x H k/\Q k H):=by
 ext u s σ H x v Q I c h;let(k,e,q):=h;let z:=a4O;let A:gN=16777216:=ie;cases x with
 |non=>
  cases c;let a:k=kQ:=e;subst a;show truthy_none (H,I,q)
 |bl b=>
  cases c;let a:k=b:=e;subst a;show iO (H,I,q)
 |int i=>
  let(t,rfl):=c;let a:k=(i != 0):=e;subst a;show PySem.P.truthy_int (H,I,q)
 |str y=>
  let(t,rfl):=c;let(o,a):=e;subst a;show PySem.P.truthy_str (by lia) (H,I.tok _,q)
 |byt y=>
  let(t,rfl):=c;obtain⟨o,a⟩:y.size<=gN/\k=((y.size:Int) != 0):=e;subst a;show PySem.W.truthy_bytes (by lia) (H,I.tok _,q)
 |ref p=>
  cases c;let a:=e;let(xs,hx,a)||(xs,hx,a)||(kvs,hx,a):=a
  .subst a;let(l,r,g,j):=I.list hx;let d:=r.length;show wpAny_truthy_list g.isList (by simp only[bW];lia) (H,I.tok _,by rw[a3Q r];show q)
  .subst a;let(l,r,g,j):=I.tuple hx;let d:=r.length;show truthy_tuple g (by simp only[bW];lia) (H,I.tok _,by rw[a3Q r];show q)
  .subst a;let(j,n,f,r,m):=I.hok p _ hx;let d:kvs.length=f.length:=Paired.length r;show wpAny_truthy_dict n m (by lia) (H,I.tok _,by rw[a7w r];show q)
 |_=>show (show False from e).elim
def b0Y(ha:PE X a ta)(he:∀whole,isTrue a X.env whole=(do let v <- whole;iH a.pos;ig [v] (truthy v))) :
  PT X a (fun σ H Q=>ta σ H λx H'=>∃k,TruV X.K x H' k/\Q k H'):=λb s σ H Q I h=>isTrue_plain (thn (ha b s σ H _ I h) λv e (x,f,d,g,c)=>b6d b e σ f x v Q d g c) (he _)
def op_add_str:OpR X (hZ .Add) (λx y H Q=>∃i j,x=.str i/\y=.str j/\i.length+j.length<=gN/\Q (.str (i++j)) H):=by
 ext b s σ H x y v u Q I a d h;let(i,j,rfl,rfl,e,q):=h;let(t,rfl):=a;let(c,rfl):=d;show add_str (λc f=>(.str (i++j),H,I.tok _,(_,rfl),q)) e
def a2v(r:Vals [x] us):∃u,us=[u]/\RelV x u:=by
 cases r with
 |cons r1 r2=>cases r2;show(_,rfl,r1)
def a5K(r:Vals [x,kR] us):∃u w',us=[u,w']/\RelV x u/\RelV kR w':=by
 cases r with
 |cons r1 r2=>
  cases r2 with
  |cons r3 r4=>cases r4;show(_,_,rfl,r1,r3)
def a8t(hc:X.calm=kz):CallR X (.builtin "max") (λxs H Q=>∃i j,xs=[.int i,.int j]/\Q (.int (if j > i then j else i)) H):=by
 ext a s σ H d e Q I r h;let(i,j,rfl,q):=h;let(u,f,rfl,(t,rfl),(b,rfl)):=a5K r;show max_two_ints (I.ok.hd hc) λg c k=>(_,H,I.kept k,?_,q)
 by_cases hj:j > i
 .rw[if_pos hj,if_pos hj];show(_,rfl)
 .rw[if_neg hj,if_neg hj];show(_,rfl)
def a8u(hc:X.calm=kz):CallR X (.builtin "min") (λxs H Q=>∃i j,xs=[.int i,.int j]/\Q (.int (if j<i then j else i)) H):=by
 ext a s σ H d f Q I r h;let(i,j,rfl,q):=h;let(u,g,rfl,(t,rfl),(c,rfl)):=a5K r;show min_two_ints (I.ok.hd hc) λb e k=>(_,H,I.kept k,?_,q)
 by_cases hj:j<i
 .rw[if_pos hj,if_pos hj];show(_,rfl)
 .rw[if_neg hj,if_neg hj];show(_,rfl)
def LenV(K:Fg)(x:V)(H:Hp)(n:Nat):Prop:=
 match x with
 |.str y=>y.length<=gN/\n=y.length
 |.byt y=>y.size<=gN/\n=y.size
 |.ref p=>(∃xs,SqL K H p xs/\n=xs.length)\/∃xs,SqT K H p xs/\n=xs.length
 |_=>False
def b0Z:CallR X (.builtin "len") (λxs H Q=>∃x n,xs=[x]/\LenV X.K x H n/\Q (.int n) H):=by
 ext j s σ H a v Q I r h;let(x,n,rfl,e,q):=h;let(u,rfl,d):=a2v r;let o:=ie;cases x with
 |str y=>
  let(t,rfl):=d;let(k,b):=e;subst b;show len_str (by lia) (.int _,H,I.tok _,(_,rfl),q)
 |byt y=>
  let(t,rfl):=d;let(k,b):=e;subst b;show PySem.W.len_bytes (by lia) (.int _,H,I.tok _,(_,rfl),q)
 |ref p=>
  cases d;let b:=e;let(a,hx,b)||(a,hx,b):=b
  .subst b;let(i,g,f,l):=I.list hx;let c:=g.length;show Calls.call_len_list f.isList (by grind) (.int a.length,H,I.tok _,(_,by simp only[bW];rw[c]),q)
  .subst b;let(i,g,f,l):=I.tuple hx;let c:=g.length;show len_tuple f (by grind) (.int a.length,H,I.tok _,(_,by simp only[bW];rw[c]),q)
 |_=>show (e).elim
end
structure ObjM (h:Heap) (x dx C:Addr) (mA:Str->Option Value):Prop where
 obj:h.get? x=bH (PySem.W.instObj C dx)
 ns:h.Ns1 dx mA
 ne:dx≠x
def a8v{h:Heap}(n:h.Ns1 dx mA):∃od,h.get? dx=bH od/\∀name,PySem.W.lookIn name od=bH (mA name):=by
 let(o,d,m,l,j,f,_,g):=n;show(o,l,λc=>?_);let e:=g c;unfold nsFind findBy at e;rw[<- Array.find?_toList]at e;unfold PySem.W.lookIn;rw[j];dsimp only
 split
 .simp_all
 .rename_i q
  rw[q]at e;let a:d.toList.any (·.refKey)=kQ:=by
   rw[dI];ext y k;let(z,t,b):=f y (fL.mp k);simp[i9.refKey,b]
  let i:¬ d.toList.any (·.refKey)=kz:=a▸bT;rw[if_neg i];show congrArg bH e
def ObjM.look(I:ObjM h x dx C mA):∃od,PySem.W.InstAt h x (PySem.W.instObj C dx) C (bH od)/\∀name,PySem.W.lookIn name od=bH (mA name):=
 let (od,ho,hl):=a8v I.ns
 (od,(I.obj,rfl,rfl,ho),hl)
section
variable{K:Fg}{x C f:Addr}{mA:Str->Option Value}{name:Str}{v:Value}
def b3H(X:K.In s.heap)(I:ObjM s.heap x dx C mA)(hg:PySem.W.plainGet K C name=kz)(hh:PySem.W.hasDictIn K C=kz)
  (ha:PySem.W.findIn K (.ref C) name=bH gV) (hv:mA name=bH v) (hv':PySem.W.handedIn v=kz) (h:Q v { s with toks:=s.toks+1 }) :
  wpAny (model prog w) A (getAttr (.ref x) name expr) Q E s:=by
 let(b,J,a):=I.look;show PySem.W.get_value X J (PySem.W.plainGet_of hg).1 (PySem.W.findObj_own hh ha rfl (by simp_all)) hv' h
def b00(X:K.In s.heap)(I:ObjM s.heap x dx C mA)(hg:PySem.W.plainGet K C name=kz)
  (hf:PySem.W.findIn K (.ref C) name=bH (bH (.ref f))) (ht:PySem.W.isFn K (.ref f)=kz) (hv:mA name=gV) (h:Q (.ref f,[.ref x],) s) :
  wpAny (model prog w) A (ja (.ref x) name pl) Q E s:=by
 let(b,J,a):=I.look;show PySem.W.method_fn X J (PySem.W.plainGet_of hg).1 (PySem.W.plainGet_of hg).2 hf (beq_iff_eq.mp ht) (by change (PySem.W.lookIn name b).map _=bH kQ;rw[a,hv];rfl) h
def b3I(X:K.In s.heap)(I:ObjM s.heap x dx C mA)
  (hs:PySem.W.findIn K (.ref C) "__setattr__"=bH (bH (.builtin "object.__setattr__"))) (hp:PySem.W.plainOver K C=kz) (ht:PySem.W.takerIn K C name=bH gV) (hh:PySem.W.hasDictIn K C=kz)
  (hw:PySem.Within mA ns) (hsz:ns.length<=gN)
  (h:∀h',ObjM h' x dx C (λy=>if y=name then bH v else mA y)->Heap.SameBut dx s.heap h'->Q () { s with heap:=h',toks:=s.toks+2 }) :
  wpAny (model prog w) A (setAttr (.ref x) name v) Q E s:=by
 let(p,J,n):=I.look;show PySem.W.set_plain X J hs (PySem.W.osa_open X J hp ht λb=>?_);let(o,j,i):=PySem.W.any_some hh;show gJ (gK (gJ (gJ (wpAny_loadPart I.obj (gJ (PySem.W.Looks.here (PySem.W.looks_clsIn X j) ?_))))));rw[i];show gK (gJ (gK (gJ (wpAny_nsSet1 I.ns λt d c=>?_))));let(q,l,m,f,g,e):=d.count (PySem.Within.cons name v hw);show gJ (wpAny_lookBehind f (g▸pastItsLine_dict (bD e (by grind))) (gK (h _ ((c.2 _ (Ne.symm I.ne)).trans I.obj,d,I.ne) c)))
def b01(X:K.In s.heap)(hm:PySem.W.makesIn K C=kz)
  (hi:PySem.W.findIn K (.ref C) "__init__"=bH (bH (.ref f))) (hf:PySem.W.typeIn K (.ref f)=bH (.type "function"))
  (h:iy (model prog w) (A.under (.builtin "type.__call__" (.ref C::vs,kw))) (.call (.ref f) (.ref (s.heap.objs.size+1)::vs,kw)) (PySem.W.InitBack (s.heap.objs.size+1) R)
   { s with heap:=(s.heap.push PySem.W.emptyDict).push (PySem.W.instObj C s.heap.objs.size) }) :
  iy (model prog w) A (.call (.ref C) (vs,kw)) R s:=PySem.W.make_core (PySem.W.makes_of X hm) (PySem.W.looks_findIn X hi) (λa=>PySem.W.bind_fn X a hf) (.inl rfl) h
end
noncomputable def putF(f:Str)(v:V):List (Str×V)->List (Str×V)
 |[]=>[(f,v,)]
 | (g,x,)::r=>if g=f then (g,v,)::r else (g,x,)::putF f v r
def a5L(f g:Str)(v:V):∀fs:List (Str×V),(putF f v fs).lookup g=if g=f then bH v else fs.lookup g:=by ext z0;induction z0 with
 |nil=>
  change ei g [_]=_
  by_cases h:g=f
  .simp_all
  .simp_all
 |cons q0 r I0=>
  let(k,x):=q0;rw[show putF f v _=(if k=f then _::r else (k,x,)::putF f v r) from rfl]
  by_cases hk:k=f
  .rw[if_pos hk]
   by_cases h:g=k
   .simp_all
   .let a:=beq_eq_false_iff_ne.mpr h;simp only[ei,a,if_neg (λe:g=f=>h (e.trans hk.symm))]
  .rw[if_neg hk]
   by_cases h:g=k
   .simp_all
   .let a:=beq_eq_false_iff_ne.mpr h;simp only[ei,a];show (I0)
def a4P(f:Str)(v:V):∀fs:List (Str×V),f∈(putF f v fs).map (·.1)/\∀g,g∈fs.map (·.1)->g∈(putF f v fs).map (·.1):=by ext z0;induction z0 with
 |nil=>show(by simp[putF],λg h=>by simp at h)
 |cons q0 r I0=>
  let(k,x):=q0;let(a,b):=I0;rw[show putF f v _=(if k=f then _::r else (k,x,)::putF f v r) from rfl]
  by_cases hk:k=f
  .grind
  .rw[if_neg hk];show(?_,λg h=>?_)
   .rw[bx];show cg _ a
   .rw[bx]at h ⊢;let e||e:=bf.mp h
    .show bf.mpr (.inl e)
    .show cg _ (b g e)
def a5M(f:Str)(v:V):∀fs:List (Str×V),(putF f v fs).length<=fs.length+1:=by ext z0;induction z0 with
 |nil=>simp[putF]
 |cons q0 r I0=>
  let(k,x):=q0;let a:=I0;rw[show putF f v _=(if k=f then _::r else (k,x,)::putF f v r) from rfl]
  by_cases hk:k=f
  .grind
  .grind
def RelO.some_of(r:RelO (bH v) o):∃u,o=bH u/\RelV v u:=by
 cases o with
 |none=>show (r).elim
 |some u=>show(u,rfl,r)
def RelO.none_of(r:RelO gV o):o=gV:=by
 cases o with
 |none=>rfl
 |some u=>show (r).elim
def a8w(r:RelV v u):PySem.W.handedIn u=kz:=by
 cases v with
 |non=>cases (r);rfl
 |bl b=>cases (r);rfl
 |int i=>let(t,e):=(r);cases e;rfl
 |str x=>let(t,e):=(r);cases e;rfl
 |byt b=>let(t,e):=(r);cases e;rfl
 |flt b=>let(t,e):=(r);cases e;rfl
 |ref a=>cases (r);rfl
 |ty n=>cases (r);rfl
section
variable{h:Heap}{a C:Addr}{fs:List (Str×V)}
def a4a(hok:HOk P w H h)(e:H a=bH (.ins C dx fs)):∃mA,ObjM h a dx C mA/\(∀f,RelO (fs.lookup f) (mA f))/\PySem.Within mA (fs.map (·.1))/\fs.length<=1000/\H dx=bH (.own a):=by
 let(d,z,c,g,b,n,r,q):=(hok a _ e);show(b,(g,n,c),r,q,z,d)
end
structure Cls (K:Fg) (C:Addr):Prop where
 pg:PySem.W.plainGet K C Str.empty=kz
 hd:PySem.W.hasDictIn K C=kz
 po:PySem.W.plainOver K C=kz
 sa:PySem.W.findIn K (.ref C) "__setattr__"=bH (bH (.builtin "object.__setattr__"))
def Cls.get{K:Fg}(c:Cls K C)(f:Str):PySem.W.plainGet K C f=kz:=c.pg
def NoAttr(K:Fg)(C:Addr)(f:Str):Prop:=PySem.W.findIn K (.ref C) f=bH gV
def NoAttr.taker{K:Fg}(n:NoAttr K C f):PySem.W.takerIn K C f=bH gV:=by
 unfold PySem.W.takerIn;rw[n]
 rfl
structure Meth (K:Fg) (C:Addr) (m:Str) (f:Addr):Prop where
 at_:PySem.W.findIn K (.ref C) m=bH (bH (.ref f))
 fn:PySem.W.isFn K (.ref f)=kz
 kp:PySem.W.keepIn K (.ref f)=kz
section
variable{σ:St}{a C:Addr}{fs:List (Str×V)}{f:Str}{v:V}
def a3R(I:Inv X pins σ H s)(e:H a=bH (.ins C dx fs))(c:Cls X.K C)(n:NoAttr X.K C f)(l:fs.lookup f=bH v)
  (h:∀u s',Inv X pins σ H s'->RelV v u->Q u s'):wpAny (model X.prog X.w) A (getAttr (.ref a) f b) Q E s:=by
 let(i,O,r,_,_,_):=a4a I.hok e;let(u,g,d):=RelO.some_of (l▸r f);show b3H I.kIn O (c.get f) c.hd n g (a8w d) (h u _ (I.tok _) d)
def a7x(I:Inv X pins σ H s)(e:H a=bH (.ins C dx fs))(c:Cls X.K C)(k:Meth X.K C m g)(l:fs.lookup m=gV)
  (h:Q (.ref g,[.ref a],) s):wpAny (model X.prog X.w) A (ja (.ref a) m pl) Q E s:=by
 let(b,O,r,_,_,_):=a4a I.hok e;let d:=RelO.none_of (l▸r m);show b00 I.kIn O (c.get m) k.at_ k.fn d h
def a3S(I:Inv X pins σ H s)(e:H a=bH (.ins C dx fs))(c:Cls X.K C)(n:NoAttr X.K C f)(hl:fs.length<1000)(ry:RelV kR u)
  (h:∀s',Inv X pins σ (upd H a (.ins C dx (putF f kR fs))) s'->Q () s'):wpAny (model X.prog X.w) A (setAttr (.ref a) f u) Q E s:=by
 let(i,O,r,j,_,k):=a4a I.hok e;let v:(fs.map (·.1)).length<=sizeLine:=by rw[a9,ie];lia
 show b3I I.kIn O c.sa c.po n.taker c.hd j v λm d l=>h _ ?_;let t:∃o,m.get? dx=bH o:=by let(o,_,_,e',_):=d.ns;show(o,e')
 show I.write (e▸True.intro) (.inr k) (λb q p z=>(l.2 b p).trans z) t (by rw[a0f O.ne];show k,?_,O.ne,d.obj,_,d.ns,λg=>?_,λg B=>?_)
 .let:=a5M f kR fs;lia
 .change RelO _ _
  rw[a5L]
  by_cases q:g=f
  .rw[if_pos q,if_pos q];show ry
  .simp_all
 .by_cases q:g=f
  .rw[q];show (a4P f kR fs).1
  .show (a4P f kR fs).2 g (j g λz=>B ?_)
   change (if g=f then bH u else i g)=gV
   rw[if_neg q];show z
def Inv.made(I:Inv X pins σ H s):Inv X pins σ (upd (upd H s.heap.objs.size (.own (s.heap.objs.size+1))) (s.heap.objs.size+1) (.ins C s.heap.objs.size []))
  { s with heap:=(s.heap.push PySem.W.emptyDict).push (PySem.W.instObj C s.heap.objs.size) }:=by
 let c:(s.heap.push PySem.W.emptyDict).get? s.heap.objs.size=bH PySem.W.emptyDict:=Heap.get?_push_size s.heap rfl;let i:((s.heap.push PySem.W.emptyDict).push (PySem.W.instObj C s.heap.objs.size)).get? (s.heap.objs.size+1)=bH (PySem.W.instObj C s.heap.objs.size):=by
  let:=Heap.get?_push_size (s.heap.push PySem.W.emptyDict) (o:=PySem.W.instObj C s.heap.objs.size) rfl
  rwa [Heap.size_push]at this
 let g:(s.heap.push PySem.W.emptyDict).Ns s.heap.objs.size _:=(PySem.W.emptyDict,#[],_,c,rfl,(λe h=>absurd h (by simp)),λ_=>rfl);show (I.laid (o:=.own (s.heap.objs.size+1)) (t':=s.toks) (λb u q=>Heap.get?_push_of_some _ q) (bd _) (_,c)).laid (t':=s.toks) (λb u q=>Heap.get?_push_of_some _ q) (dJ (Heap.size_push _ _)) ?_;let d:s.heap.objs.size≠s.heap.objs.size+1:=bt (ej _);show(by rw[a0f d,a0e],bR _,d,i,λ_=>gV,(Heap.Ns1.of_empty g).at λo q=>Heap.get?_push_of_some _ q,λ_=>True.intro,λy f=>absurd rfl f)
def b3J(hb:iZ e f env (eval e env)=eval e env)
  (h:wpAny (model prog w) A (eval e env) (λo sj=>wpAny (model prog w) A (getAttr o f kz) Q E sj) E s):wpAny (model prog w) A (eval (.Attribute e f pos) env) Q E s:=
 Attribute_any_ h (by rw[arm_eval_Attribute,hb])
end
def tFld(K:Fg)(ta:TE)(f:Str):TE:=fun σ H Q=>ta σ H λx H1=>∃a C dx fs v,x=.ref a/\H1 a=bH (.ins C dx fs)/\Cls K C/\NoAttr K C f/\fs.lookup f=bH v/\Q v H1
def sFld(K:Fg)(ta tv:TE)(f:Str):TS:=λD σ H=>tv σ H λy H1=>ta σ H1 λx H2=>∃a C dx fs,x=.ref a/\H2 a=bH (.ins C dx fs)/\Cls K C/\NoAttr K C f/\fs.length<1000 /\
 D.nx σ (upd H2 a (.ins C dx (putF f y fs)))
def InOp(X:Cx)(op:Operator)(rd:V->V->Hp->VK->Prop):Prop:=
 ∀(pins:List (Addr×Obj))(s:Shared)(σ:St)(H:Hp)(x y:V)(u v:Value)(Q:VK),Inv X pins σ H s->RelV x u->RelV y v->rd x y H Q->wpAny (model X.prog X.w) X.A (iR op u v) (EP X pins σ Q) X.xe s
def b3K(K:Fg)(ta tv:TE)(rd:V->V->Hp->VK->Prop)(f:Str):TS:=λD σ H=>ta σ H λx H1=>∃a C dx fs v,x=.ref a/\H1 a=bH (.ins C dx fs)/\Cls K C/\NoAttr K C f/\fs.lookup f=bH v /\
 tv σ H1 λy H2=>rd v y H2 λz H3=>∃dx' fs',H3 a=bH (.ins C dx' fs')/\fs'.length<1000/\D.nx σ (upd H3 a (.ins C dx' (putF f z fs')))
section
variable{o e value:Expr}{f:Str}{pos':Pos}{ta tv:TE}
def b6e(he:PE X e ta)(hb:iZ e f X.env (eval e X.env)=eval e X.env):PE X (.Attribute e f pos) (tFld X.K ta f):=by
 ext b s σ H Q I h;show b3J hb (thn (he b s σ H _ I h) λu p (x,d,i,j,a,C,r,w,v,g,m,c,n,l,q)=>?_);subst g;obtain rfl:u=Value.ref a:=j;show a3R i m c n l λy t o k=>(v,d,o,k,q)
def b6f(ha:PE X o ta)(hv:PE X value tv)(hs:iB value (bH (.Attribute o f pos')) pos.line X.env=pure kQ):PS X (.Assign [.Attribute o f pos'] value pos) (sFld X.K ta tv f):=by
 ext b s σ H D I h;show plainObj_wpAny_Assign_Attribute (thn (hv b s σ H _ I h) λu g (y,d,k,v,q)=>thn (ha b g σ d _ k q) λj A (x,B,r,p,a,C,z,E,i,t,c,n,l,m)=>?_) hs;subst i;obtain rfl:j=Value.ref a:=p;show a3S r t c n l v λw e=>(σ,_,e,m)
def a8x(ha:PE X o ta)(hv:PE X value tv)(hop:InOp X op rd):PS X (.AugAssign (.Attribute o f tpos) op value pos) (b3K X.K ta tv rd f):=by
 ext b s σ H D I h;show wpAny_AugAssign_AttributeAny (thn (ha b s σ H _ I h) λj T (x,e,k,M,a,C,dx,fs,v,B,p,c,n,l,q)=>?_);subst B;obtain rfl:j=Value.ref a:=M;show a3R k p c n l λu J r m=>thn (hv b J σ e _ r q) λi E (y,t,g,w,L)=>thn (hop b E σ t v y u i _ g m w L) λU Y (z,H3,N,A,R,S,d,Q,F)=>(a3S N d c n Q A λW G=>(σ,_,G,F))
end
section
variable{σ:St}{Q:Value->Shared->Prop}{c:Value}{b:Bool}
inductive TyOf (K:Fg) (H:Hp):V->Value->Prop where
 |non:TyOf K H .non (.type "NoneType")
 |bl (x:Bool):TyOf K H (.bl x) (.type "bool")
 |int (i:Int):TyOf K H (.int i) (.type "int")
 |str (x:Str):TyOf K H (.str x) (.type "str")
 |flt (x:UInt64):TyOf K H (.flt x) (.type "float")
 |lst {a:Addr} {xs:List V} (e:H a=bH (.lst xs)):TyOf K H (.ref a) (.type "list")
 |frz {a:Addr} {o:Obj} {xs:List V} (e:H a=bH (.frz o (.lst xs))):TyOf K H (.ref a) (.type "list")
 |tup {a:Addr} {xs:List V} (e:H a=bH (.tup xs)):TyOf K H (.ref a) (.type "tuple")
 |dK {a:Addr} {kvs:List (Key×V)} (e:H a=bH (.dK kvs)):TyOf K H (.ref a) (.type "dict")
 |dT {a:Addr} {kvs:List (List Key×V)} (e:H a=bH (.dT kvs)):TyOf K H (.ref a) (.type "dict")
 |ins {a C dx:Addr} {fs:List (Str×V)} (e:H a=bH (.ins C dx fs)) (cl:Cls K C) (ha:PySem.W.findIn K (.ref C) "__class__"=bH (bH (.builtin "object.__class__")))
   (hn:PySem.W.specialIn K (.builtin "object.__class__") "__get__"=bH (bH (.builtin "getset_descriptor.__get__"))) (htk:PySem.W.takesIn K (.builtin "object.__class__")=bH kz)
   (hm:PySem.W.mroIn K C (.type "object")=bH kz):TyOf K H (.ref a) (.ref C)
def a8y(I:Inv X pins σ H s)(rx:RelV x u)(ty:TyOf X.K H x t)(e:PySem.W.kitOne X.K t c=bH b)(h:∀tk,Q (.bool b) { s with toks:=tk }) :
  wpAny (model X.prog X.w) A (call (.builtin "isinstance") [u,c]) Q E s:=by
 cases ty with
 |non=>cases (rx);show PySem.W.kia_one PySem.W.kitx_none I.kIn True.intro e (λz=>nomatch z) h
 |bl y=>cases (rx);show PySem.W.kia_one PySem.W.kitx_bool I.kIn True.intro e (λz=>nomatch z) h
 |int i=>let(t,q):=(rx);cases q;show PySem.W.kia_one PySem.W.kitx_int I.kIn True.intro e (λz=>nomatch z) h
 |str y=>let(t,q):=(rx);cases q;show PySem.W.kia_one PySem.W.kitx_str I.kIn True.intro e (λz=>nomatch z) h
 |flt y=>let(t,q):=(rx);cases q;show PySem.W.kia_one PySem.W.kitx_float I.kIn True.intro e (λz=>nomatch z) h
 | @lst a f ea=>
  cases (rx);let(_,_,n,_,d):=(I.hok a _ ea);show PySem.W.kia_one PySem.W.kitx_list I.kIn (_,d,rfl) e (λz=>nomatch z) h
 | @frz a ob f ea=>
  cases (rx);let(_,_,_,n,_,d):=(I.hok a _ ea);show PySem.W.kia_one PySem.W.kitx_list I.kIn (_,d,rfl) e (λz=>nomatch z) h
 | @tup a f ea=>
  cases (rx);let(_,_,_,p):=(I.hok a _ ea);let(o,d,g,_):=p;show PySem.W.kia_one PySem.W.kitx_tuple I.kIn (o,d,g) e (λz=>nomatch z) h
 | @dK a kvs ea=>
  cases (rx);let(_,_,l,_,p):=(I.hok a _ ea);let(o,j,k,d,g,_):=p;show PySem.W.kia_one PySem.W.kitx_dict I.kIn (o,d,g.1) e (λz=>nomatch z) h
 | @dT a kvs ea=>
  cases (rx);let(_,_,f,_,o,j,k,d,g,_):=(I.hok a _ ea);show PySem.W.kia_one PySem.W.kitx_dict I.kIn (o,d,g.1) e (λz=>nomatch z) h
 | @ins a C dx fs ea cl ha hn htk hm=>
  cases (rx);let(r,O,_):=a4a I.hok ea;let(m,J,_):=O.look;show PySem.W.kia_one (PySem.W.kitx_own (cl.get _) cl.hd ha hn htk hm) I.kIn J e (λz=>nomatch z) h
end
structure Room (k:Nat) (A:Around):Prop where
 hd:A.handled=gV
 dp:A.depth+3*k+5<recursionLimit
 un:A.units+16*k+200<cLine
def Room.mono(r:Room k A)(h:j<=k):Room j A:=(r.hd,by let:=r.dp;lia,by let:=r.un;lia)
def Room.deeper(r:Room (k+1) A)(env:Env):Room k (A.deeper env):=
 (r.hd,by let:=r.dp;change A.depth+1+3*k+5<_;lia,by let:=r.un;change A.units+3+16*k+200<_;lia)
def Room.in1(r:Room (k+1) A):Room k A.in1:=
 (r.hd,by let:=r.dp;change A.depth+3*k+5<_;lia,by let:=r.un;change A.units+1+16*k+200<_;lia)
def a7y{A:Around}:(A.under (.builtin "type.__call__" (.ref C::us,kw))).depth=A.depth+1:=rfl
def a7z{A:Around}:(A.under (.builtin "type.__call__" (.ref C::us,kw))).units=A.units+1:=rfl
def Room.make(r:Room (k+1) A)(C:Addr)(us:List Value)(kw:List (Str×Value)):Room k (A.under (.builtin "type.__call__" (.ref C::us,kw))):=
 (r.hd,by let:=r.dp;rw[a7y];lia,by let:=r.un;rw[a7z];lia)
def Room.depth(r:Room k A):A.depth<recursionLimit:=by let:=r.dp;lia
def Room.units(r:Room k A):A.units+64<cLine:=by let:=r.un;lia
def tNil:TA:=λ_ H Q=>Q [] H
def b82(ta:TE)(tr:TA):TA:=fun σ H Q=>ta σ H λx H1=>tr σ H1 λxs H2=>Q (x::xs) H2
section
variable{e:Expr}{te:TE}{t:TA}
def a6B:PA X [] tNil:=λ_ _ _ _ H Q I h=>Calls.spliced_nil ([],H,I,.nil,h)
def a4b(ha:PE X e te)(hr:PA X es t)(hs:gQ (e::es) X.env=(kQ,eval e X.env,)::gQ es X.env):PA X (e::es) (b82 te t):=by
 ext b a s σ H Q I h;rw[hs];show Calls.spliced_cons (thn (ha a s σ H _ I h) λu j (x,d,k,c,g)=>(thn (hr b a j σ d _ k g) λp o (i,f,l,m,n)=>(x::i,f,l,.cons c m,n)))
def tTup(t:TA):TE:=fun σ H Q=>t σ H λxs H1=>xs.length<=gN/\∀p,H1 p=gV->Q (.ref p) (upd H1 p (.tup xs))
def tLst(t:TA):TE:=fun σ H Q=>t σ H λxs H1=>xs.length<=gN/\∀p,H1 p=gV->Q (.ref p) (upd H1 p (.lst xs))
def b6g(h:PA X es t):PE X (.Tuple es x1 pos) (tTup t):=by
 ext c s σ H Q I i;show wpAny_Tuple_spliced (thn (h pos c s σ H _ I i) λk a (g,d,f,r,z,q)=>(by rw[<- r.length];show z,?_));let j:=f.hok.fresh (bd _);show(.ref a.heap.objs.size,upd d a.heap.objs.size _,f.laid (λb u e=>Heap.get?_push_of_some _ e) (bd _) ?_,rfl,q _ j);show(z,k,r,(_,Heap.get?_push_size _ rfl,rfl,_,rfl))
def b6h(h:PA X es t):PE X (.List es pos) (tLst t):=by
 ext c s σ H Q I j;show wpAny_List_spliced (thn (h pos c s σ H _ I j) λi a (k,d,f,r,z,q)=>(by rw[<- r.length];show z,?_));let g:=f.hok.fresh (bd _);show(.ref a.heap.objs.size,upd d a.heap.objs.size _,f.laid (λb u e=>Heap.get?_push_of_some _ e) (bd _) ?_,rfl,q _ g);show(z,i,0,r,Heap.get?_push_size _ rfl)
end
abbrev Sp:=List V->Hp->VK->XK->Prop
abbrev CXT:=List Env->Hp->Shared->XK->Value->Shared->Prop
structure Env0 (P:gT) (w:World) (K:Fg) (mg:Str->Option Value) (base:Heap) (A:Around) (outer:List Env) (s:Shared) (H:Hp):Prop where
 frames:A.frames=bH outer
 mod:Mod K mg base
 bs:∀b o,base.get? b=bH o->s.heap.get? b=bH o/\H b=gV
 bsz:base.objs.size<=s.heap.objs.size
 funs:s.heap.FunFrames base outer
 frf:∀b∈frs outer,H b=gV
 hok:HOk P w H s.heap
 bare:iG s.gens
def CE(outer:List Env)(P:gT)(w:World)(H:Hp)(s:Shared)(Q:VK)(u:Value)(s':Shared):Prop:=
 ∃v H',s'.os=s.os/\iG s'.gens/\Un (frs outer) [] H H' s.heap s'.heap/\HOk P w H' s'.heap/\RelV v u/\Q v H'
def CR(CX:CXT)(outer:List Env)(P:gT)(w:World)(H:Hp)(s:Shared)(Q:VK)(E:XK)(r:Result)(s':Shared):Prop:=
 match r with
 |.ok (.ret u)=>CE outer P w H s Q u s'
 |.ok _=>False
 |.error e=>CX outer H s E e s'
structure FnOk (P:gT) (w:World) (K:Fg) (mg:Str->Option Value) (base:Heap) (CX:CXT) (k:Nat) (f:Addr) (fd:ik) (ps:List Str) (sp:Sp):Prop where
 len:∀vs H Q E,sp vs H Q E->vs.length=ps.length
 run:∀(A:Around)(outer:List Env)(s:Shared)(H:Hp)(args:Args)(us:List Value)(vs:List V)(Q:VK)(E:XK),Room k A->Env0 P w K mg base A outer s H->jo s fd args (ps.zip us)->Vals vs us->sp vs H Q E ->
  iy (model P w) A (.call (.ref f) args) (CR CX outer P w H s Q E) s
def FnOk.mono{K:Fg}(F:FnOk P w K mg base CX j f fd ps sp)(h:j<=k) :
  FnOk P w K mg base CX k f fd ps sp:=(F.len,λA a s H b c e Q E d=>F.run A a s H b c e Q E (d.mono h))
def FnOk.imp{K:Fg}(F:FnOk P w K mg base CX k f fd ps sp)
  (h:∀vs H Q E,sp' vs H Q E->sp vs H Q E):FnOk P w K mg base CX k f fd ps sp':=
 (λb H Q E q=>F.len b H Q E (h _ _ _ _ q),λA a s H c d b Q E j i g l e=>F.run A a s H c d b Q E j i g l (h _ _ _ _ e))
def Env0.make{K:Fg}(e:Env0 P w K mg base A outer s H)(C:Addr)(us:List Value)(kw:List (Str×Value)) :
  Env0 P w K mg base (A.under (.builtin "type.__call__" (.ref C::us,kw))) outer s H:=(by first |show e.frames | (o_head e.frames),e.mod,e.bs,e.bsz,e.funs,e.frf,e.hok,e.bare)
def Env0.in1{K:Fg}(e:Env0 P w K mg base A outer s H) :
  Env0 P w K mg base A.in1 outer s H:=(e.frames,e.mod,e.bs,e.bsz,e.funs,e.frf,e.hok,e.bare)
section
variable{σ:St}{s':Shared}
def Inv.env0(I:Inv X pins σ H s):Env0 X.prog X.w X.K X.mg X.base X.A X.stack s H:=
 (I.ok.frames,I.ok.mod,I.bs,bD I.ok.bsz I.sz,I.stack,I.stkFree,I.hok,I.bare)
def Inv.after(I:Inv X pins σ H s)(h:CE X.stack X.prog X.w H s Q u s'):EP X pins σ Q u s':=by
 let(v,H',j,a,f,c,r,q):=h;let(i,g,d,t,e):=s';obtain rfl:e=s.os:=j;show(v,H',I.call f c a (λb z=>absurd z (by simp)),r,q)
end
def b6i(sp:Sp)(dvs:List V)(E:XK)(t:TA):TE:=fun σ H Q=>t σ H λvs H1=>sp (vs++dvs) H1 Q E
def b6j(C:Addr)(m:Str)(sp:Sp)(dvs:List V)(E:XK)(ta:TE)(t:TA):TE:=fun σ H Q=>ta σ H λx H1=>∃a dx fs,x=.ref a/\H1 a=bH (.ins C dx fs)/\fs.lookup m=gV /\
 t σ H1 λvs H2=>sp (x::(vs++dvs)) H2 Q E
def b83(C:Addr)(sp:Sp)(dvs:List V)(E:XK)(t:TA):TE:=fun σ H Q=>t σ H λvs H1=>∀x dx,H1 x=gV->H1 dx=gV->dx≠x ->
 sp (.ref x::(vs++dvs)) (upd (upd H1 dx (.own x)) x (.ins C dx [])) (λv H2=>v=.non/\Q (.ref x) H2) E
def Binds(K:Fg)(fd:ik)(ps:List Str)(ds:List Value):Prop:=
 ∀(s:Shared)(us:List Value),K.In s.heap->(us++ds).length=ps.length->jo s fd (us,[]) (ps.zip (us++ds))
def Binds.all{K:Fg}(h:∀us:List Value,us.length=ps.length->kh fd (us,[])=pure (ps.zip us)):Binds K fd ps []:=λs b _ a=>by
 rw[bM]at a ⊢;show .of_eq (h b a)
def a1d(CX:CXT)(X:Cx)(E:XK):Prop:=∀(pins:List (Addr×Obj))(σ:St)(H:Hp)(s:Shared)(e:Value)(s':Shared),Inv X pins σ H s->CX X.stack H s E e s'->X.xe e s'
section
variable{CX:CXT}{k:Nat}{f C:Addr}{fd:ik}{ps:List Str}{sp:Sp}{dvs:List V}{ds:List Value}{E:XK}{x:Str}{p:Pos}{e o:Expr}{ta:TE}{t:TA}
def b2K(F:FnOk X.prog X.w X.K X.mg X.base CX k f fd ps sp)(hr:Room k X.A)(hb:Binds X.K fd ps ds)(hd:Vals dvs ds)(hx:a1d CX X E)
  (I:Inv X pins σ H s) (r:Vals vs us) (h:sp (vs++dvs) H Q E):wpAny (model X.prog X.w) X.A (call (.ref f) us) (EP X pins σ Q) X.xe s:=by
 let b:=r.append hd;let d:(us++ds).length=ps.length:=b.length▸F.len _ _ _ _ h;show jc (iP (F.run X.A X.stack s H (us,[]) (us++ds) _ Q E hr I.env0 (hb s us I.kIn d) b h) λr c a=>?_);cases r with
 |error e=>show hx pins σ H s e c I a
 |ok fl=>
  cases fl with
  |ret u=>show I.after a
  |next=>show bj a
  |brk=>show bj a
  |cont=>show bj a
def a8z(F:FnOk X.prog X.w X.K X.mg X.base CX k f fd ps sp)(hr:Room k X.A)(hg:Gl X x)(hm:X.mg x=bH (.ref f))(hk:PySem.W.keepIn X.K (.ref f)=kz)(hb:Binds X.K fd ps ds)(hd:Vals dvs ds)(hx:a1d CX X E)
  (ha:PA X (e::es) t) (hdb:(x==("__debug__":Str))=kQ) (he:gQ (e::es) X.env=(kQ,eval e X.env,)::gQ es X.env) (hpl:(backTo pos (gQ es X.env)).any (·.1)=kQ) :
  PE X (.Call (.Name x p) (e::es) [] pos) (b6i sp dvs E t):=by
 ext a s σ H Q I h;show jy (a2u I hg hm ?_ hdb);show PySem.W.callWith_K I.ok.mod.kin hk (thn (ha pos a s σ H _ I h) λi d (c,g,b,r,q)=>(b.kIn,?_)) he hpl;show b2K F hr hb hd hx b r q
def a8A(he:PE X o ta)(c:Cls X.K C)(hm:Meth X.K C m f)(F:FnOk X.prog X.w X.K X.mg X.base CX k f fd ps sp)(hr:Room k X.A)(hb:Binds X.K fd ps ds)(hd:Vals dvs ds)(hx:a1d CX X E)(ha:PA X (e::es) t)
  (hst:gQ (e::es) X.env=(kQ,eval e X.env,)::gQ es X.env) (hpl:(backTo pos (gQ es X.env)).any (·.1)=kQ)
  (ht:eval (.Call (.Attribute o m apos) (e::es) [] pos) X.env=(do
   let ov <- eval o X.env
   iH apos.atName
   let (f,first,) <- ig [ov] (ja ov m pl)
   jp pos f first (backTo pos (gQ (e::es) X.env)) (i5 pos (i6 [] X.env)))) :
  PE X (.Call (.Attribute o m apos) (e::es) [] pos) (b6j C m sp dvs E ta t):=by
 ext b s σ H Q I h;show PySem.W.methodCall_KW (thn (he b s σ H _ I h) λu z (x,p,i,n,a,dx,fs,v,y,l,q)=>?_) ht;subst v;obtain rfl:u=Value.ref a:=n;show a7x i y c hm l (PySem.W.callWith_K I.ok.mod.kin hm.kp (thn (ha pos b z σ p _ i q) λus s2 (vs,H2,g,r,B)=>(g.kIn,?_)) hst hpl);show b2K (vs:=.ref a::vs) F hr hb hd hx g (.cons rfl r) B
structure Mk (K:Fg) (C f:Addr):Prop where
 makes:PySem.W.makesIn K C=kz
 init:PySem.W.findIn K (.ref C) "__init__"=bH (bH (.ref f))
 fn:PySem.W.isFn K (.ref f)=kz
 kp:PySem.W.keepIn K (.ref C)=kz
def b02(M:Mk X.K C f)(F:FnOk X.prog X.w X.K X.mg X.base CX k f fd ps sp)(hr:Room (k+1) X.A)(hb:Binds X.K fd ps ds)(hd:Vals dvs ds)
  (hx:a1d CX X E) (I:Inv X pins σ H s) (r:Vals vs us)
  (h:∀x dx,H x=gV->H dx=gV->dx≠x->sp (.ref x::(vs++dvs)) (upd (upd H dx (.own x)) x (.ins C dx [])) (λv H2=>v=.non/\Q (.ref x) H2) E) :
  wpAny (model X.prog X.w) X.A (call (.ref C) us) (EP X pins σ Q) X.xe s:=by
 let d:=h _ s.heap.objs.size (I.hok.fresh (dg _)) (I.hok.fresh (bd _)) (bt (ej _));let b:=Inv.made (C:=C) I;let c:Vals (V.ref (s.heap.objs.size+1)::_) _:=.cons rfl (r.append hd);let g:(Value.ref (s.heap.objs.size+1)::us++ds).length=ps.length:=by
  let e:=c.length;rw[F.len _ _ _ _ d]at e;show e.symm
 show jc (b01 I.kIn M.makes M.init (beq_iff_eq.mp M.fn) (iP (F.run _ X.stack _ _ (Value.ref (s.heap.objs.size+1)::us,[]) _ _ _ E (hr.make C us [])
  (b.env0.make C us []) (hb _ _ b.kIn g) c d) λr m a=>?_))
 cases r with
 |error e=>show hx pins σ _ _ e m b a
 |ok fl=>
  cases fl with
  |ret u=>
   let(v,H',I3,j,l,i):=b.after a;subst l;show(j,(V.ref (s.heap.objs.size+1),H',I3,rfl,i))
  |next=>show bj a
  |brk=>show bj a
  |cont=>show bj a
def b03(M:Mk X.K C f)(F:FnOk X.prog X.w X.K X.mg X.base CX k f fd ps sp)(hr:Room (k+1) X.A)(hg:Gl X x)(hm:X.mg x=bH (.ref C))(hb:Binds X.K fd ps ds)(hd:Vals dvs ds)(hx:a1d CX X E)
  (hdb:(x==("__debug__":Str))=kQ):PE X (.Call (.Name x p) [] [] pos) (b83 C sp dvs E tNil):=by
 ext a s σ H Q I h;show jy (a2u I hg hm ?_ hdb);show PySem.W.callWith_K0 I.kIn M.kp (b02 M F hr hb hd hx I .nil h)
end
structure FnScope (N P:List Str) (sc:Scope):Prop where
 kind:sc.kind=.function
 co:sc.isCoroutine=kQ
 gen:sc.isGenerator=kQ
 nd:N.Nodup
 pre:N.take P.length=P
 par:∀x∈P,sc.names.lookup x=bH .local\/sc.names.lookup x=bH .cell
 nofree:∀y∈sc.names,y.2≠.free
def a8B{kindOf:Str->Option gZ}:∀{binds:List (Str×Value)}{m:Str->Option Value},(∀v,(x,v,)∉binds)->bindL kindOf binds m x=m x:=by ext z0;induction z0 with
 |nil=>ext _ _;show rfl
 |cons q0 r I0=>
  let(n,v):=q0;ext m h;unfold bindL;rw[I0 λw a=>h w (cg _ a)]
  split
  .let:x≠n:=by ext rfl;show h v cn
   simp[this]
  .rfl
def a8C{kindOf:Str->Option gZ}:∀{binds:List (Str×Value)}{m:Str->Option Value},(∀v,(x,v,)∉binds)->bindC kindOf binds m x=m x:=by ext z0;induction z0 with
 |nil=>ext _ _;show rfl
 |cons q0 r I0=>
  let(n,v):=q0;ext m h;unfold bindC;rw[I0 λw a=>h w (cg _ a)]
  split
  .rfl
  .let:x≠n:=by ext rfl;show h v cn
   simp[this]
theorem a4Q{kindOf:Str->Option gZ}:∀{P:List Str}{vs:List Value}{i:Nat}{m:Str->Option Value},P.Nodup->P[i]?=bH x->vs[i]?=bH v->kindOf x=bH .local ->
  bindL kindOf (P.zip vs) m x=bH v
 |[],_,_,_,_,h,_,_=>by simp at h
 |_::_,[],_,_,_,_,h,_=>by simp at h
 |p::P,w::vs,0,m,nd,h1,h2,hk=>by
  simp at h1 h2;subst h1;subst h2
  change bindL kindOf (_::P.zip vs) m p=_
  unfold bindL;rw[a8B λv a=>(ci.mp nd).1 (eR a).1,if_pos hk];simp
 |p::P,w::vs,i+1,m,nd,h1,h2,hk=>by
  unfold bindL;show a4Q (ci.mp nd).2 ↑h1 (by simp_all) hk
theorem a4R{kindOf:Str->Option gZ}:∀{P:List Str}{vs:List Value}{i:Nat}{m:Str->Option Value},P.Nodup->P[i]?=bH x->vs[i]?=bH v->kindOf x≠bH .local ->
  bindC kindOf (P.zip vs) m x=bH v
 |[],_,_,_,_,h,_,_=>by simp at h
 |_::_,[],_,_,_,_,h,_=>by simp at h
 |p::P,w::vs,0,m,nd,h1,h2,hk=>by
  simp at h1 h2;subst h1;subst h2
  change bindC kindOf (_::P.zip vs) m p=_
  unfold bindC;rw[a8C λv a=>(ci.mp nd).1 (eR a).1,if_neg hk];simp
 |p::P,w::vs,i+1,m,nd,h1,h2,hk=>by
  unfold bindC;show a4R (ci.mp nd).2 ↑h1 (by simp_all) hk
noncomputable def start(N:List Str)(vs:List V):St:=vs.map bH++eq (N.length-vs.length) gV
noncomputable def cxOf(CX:CXT)(P:gT)(w:World)(K:Fg)(mg:Str->Option Value)(base:Heap)(N:List Str)(qual:Str)(scope:Scope)(f:Addr)(cd:Value)(A:Around)(outer:List Env)(s:Shared)(H:Hp)(E:XK):Cx where
 prog:=P
 w:=w
 K:=K
 mg:=mg
 base:=base
 A:=A.deeper (envOfC qual scope s.heap.objs.size f cd)
 N:=N
 s₀:=s
 H₀:=H
 env:=envOfC qual scope s.heap.objs.size f cd
 outer:=outer
 stack:=envOfC qual scope s.heap.objs.size f cd::outer
 ex:=[]
 calm:=kz
 fn:=λ_=>kz
 pn:=[]
 xe:=λe s'=>wpAny (model P w) (A.deeper (envOfC qual scope s.heap.objs.size f cd)) (jP (envOfC qual scope s.heap.objs.size f cd) e) (λ_ s''=>CX outer H s E e s'') (λe' s''=>CX outer H s E e' s'') s'
def a6C{sc:Scope}(h:sc.names.lookup x=bH .cell):∃c,(ki n sc.names []).lookup x=bH c:=by
 show er.mp (PySem.W.cellsFrom_some sc.names n [] (.inl h))
def a8D{K:Fg}
  (S:FnScope N ps scope) (hd:A.handled=gV) (e0:Env0 P w K mg base A outer s H) (hl:vs.length=ps.length) (r:Vals vs us)
  (x:InCallC s s.heap.objs.size (bindL (envOfC qual scope s.heap.objs.size f cd).kindOf (ps.zip us) λ_=>gV) (ki (s.heap.objs.size+1) scope.names []) (bindC (envOfC qual scope s.heap.objs.size f cd).kindOf (ps.zip us) λ_=>gV) s1) :
  Inv (cxOf CX P w K mg base N qual scope f cd A outer s H kR) [] (start N vs) H s1:=by
 let G:ps.length<=N.length:=by let:=congrArg bL S.pre;rw[bE]at this;lia
 let(m,J,rfl,C):=x.done;let l:∀b:Addr,b∉(cxOf CX P w K mg base N qual scope f cd A outer s H kR).ex:=λb z=>absurd (show b∈([]) from z) (by simp);show((e0.mod,S.kind,rfl,rfl,bd _,λy z c m d=>?_,λy g=>?_,λy c _ h=>?_,λ_=>hd,Around.frames_deeper e0.frames,.inr (rfl,rfl),λb z=>absurd z (l b),e0.bs,e0.bsz,λb _ _=>l b,λb z=>absurd z (l b),e0.funs,e0.frf),
  rfl,e0.bare,Un.kept C,(_,x.toInCall.ns,λi y v m d I=>?_),λy c h=>(_,x.cell y c h),e0.hok.fresh (bd _),λy c h=>?_,λp j=>absurd (show p∈([]) from j) (by simp),e0.hok.kept C,?_)
 .show name_of_addr x.apart (PySem.mem_of_lookup m) (PySem.mem_of_lookup d)
 .let g:=g;let g||g:=g
  .show a6C g
  .show absurd rfl (S.nofree _ (PySem.mem_of_lookup g))
 .show cf (x.above y c (PySem.mem_of_lookup h))
 .let o:i<vs.length:=by
   unfold start at d
   by_cases o:i<vs.length
   .show o
   .rw[cT (by simp_all)]at d;rw[List.getElem?_replicate]at d
    split at d<;>cases d
  let F:vs[i]?=bH v:=by
   unfold start at d;rw[cU ↑o,bo]at d;cases e:vs[i]? with
   |none=>rw[e]at d;cases d
   |some a=>rw[e]at d;cases d;rfl
  let(u,B,D):=r.get F;let j:ps[i]?=bH y:=by
   rw[<- S.pre,List.getElem?_take_of_lt (by lia)];show m
  let t:ps.Nodup:=S.pre▸S.nd.sublist (dL _ _);show(u,D,?_);let k||k:=S.par y (bB j)
  .show .inl (k,a4Q t j B k)
  .let(c,e):=a6C k;show .inr (.inl k,c,e,?_);let q:=x.cell y c e;rw[a4R t j B (by change scope.names.lookup y≠_;rw[k];decide)]at q;show q
 .show e0.hok.fresh (cf (x.above y c (PySem.mem_of_lookup h)))
 .unfold start
  change _=N.length
  rw[bu,a9,List.length_replicate]
  lia
def b6k{K:Fg}{dV kV doc pm cdv ct oc:Value}
 (lk:K.lookup f=bH (oc,od,.func (PySem.W.fnOf name qual params body scope dV kV doc pm an cdv ct),osl)) (hcd:PySem.W.codeIn K cdv qual=kz) (S:FnScope N ps scope)
    (len:∀vs H Q E,sp vs H Q E->vs.length=ps.length)
    (hbody:∀(A:Around)(outer:List Env)(s:Shared)(H:Hp)(vs:List V)(Q:VK)(E:XK),Room k (A.deeper (envOfC qual scope s.heap.objs.size f cdv))->sp vs H Q E ->
      ∃t,PSs (cxOf CX P w K mg base N qual scope f cdv A outer s H E) body t/\t { nx:=λ_ H'=>Q .non H',rt:=Q } (start N vs) H) :
    FnOk P w K mg base CX (k+1) f (PySem.W.fnOf name qual params body scope dV kV doc pm an cdv ct) ps sp:=by
  show(len,λA a s H L F m Q E z g R r i=>?_);let C:=g.mod.kin.keeps λb o e=>(g.bs b o e).1;let h:∀y∈ps.zip F,scope.names.lookup y.1=bH .local\/(scope.names.lookup y.1=bH .cell/\((ki (s.heap.objs.size+1) scope.names []).lookup y.1).isSome=kz):=by
    ext⟨n,v⟩ G;let q||q:=S.par n (eR G).1
    . show .inl q
    . show .inr (q,PySem.W.cellsFrom_some _ _ _ (.inl q))
  show codeAny_call_function z.depth (C _ _ lk) rfl S.co S.gen rfl (PySem.W.codeRec_of C hcd) (R _ _ _ _ (wpAny_newFunctionEnv_cells S.kind h λaa Y B x=>?_));subst Y;show((g.mod.nolimit.keeps λb o e=>(g.bs b o e).1).keeps x.toInCall.keep,codeAny_func ?_);let(t,T,U):=hbody A a s H m Q E (z.deeper _) i;let I:Inv (cxOf CX P w K mg base N qual scope f cdv A a s H E) [] _ H B:=a8D S z.hd g (len _ _ _ _ i) r x;show hB (T [] B _ H _ I U) (λX p c=>?_) λe p c=>c;let j:∀{σ':St}{d:Hp}{v:V}{u:Value},Inv (cxOf CX P w K mg base N qual scope f cdv A a s H E) [] σ' d p->RelV v u->Q v d->CE a P w H s Q u p:=
    λ{σ' d v u} J l q=>(v,d,J.os,J.bare,J.base,J.hok,l,q)
  cases X with
  |ret u=>
    let(v,σ',d,J,l,q):=c;show j J l q
  |next=>
    let(σ',d,J,q):=c;show j (v:=V.non) J rfl q
  |brk=>
    let(_,_,_,q):=c;show bj q
  |cont=>
    let(_,_,_,q):=c;show bj q
section
variable{x:Str}{p:Pos}{e:Expr}{t:TA}{id T:String}{r:List V->Hp->VK->Prop}
def tCB(r:List V->Hp->VK->Prop)(t:TA):TE:=fun σ H Q=>t σ H λvs H1=>r vs H1 Q
def a25(hc:CallR X (.builtin id) r)(hg:Gl X x)(hm:X.mg x=gV)(hv:ij x=bH (.builtin id))(ha:PA X (e::es) t)(hn:x≠"__name__")(hdb:(x==("__debug__":Str))=kQ)
  (he:gQ (e::es) X.env=(kQ,eval e X.env,)::gQ es X.env) (hpl:(backTo pos (gQ es X.env)).any (·.1)=kQ):PE X (.Call (.Name x p) (e::es) [] pos) (tCB r t):=by
 ext a s σ H Q I h;show jy (a3P I hg hm hv ?_ hn hdb);show PyProof.Rows.callWith_builtin1 (thn (ha pos a s σ H _ I h) λg c (b,f,i,d,j)=>hc a c σ f b g Q i d j) he hpl
def a1y(hc:CallR X (.type T) r)(hg:Gl X x)(hm:X.mg x=gV)(hv:ij x=bH (.type T))(ha:PA X (e::es) t)(hn:x≠"__name__")(hdb:(x==("__debug__":Str))=kQ)
  (he:gQ (e::es) X.env=(kQ,eval e X.env,)::gQ es X.env) (hpl:(backTo pos (gQ es X.env)).any (·.1)=kQ):PE X (.Call (.Name x p) (e::es) [] pos) (tCB r t):=by
 ext a s σ H Q I h;show jy (a3P I hg hm hv ?_ hn hdb);show PyProof.Rows.callWith_type1 (thn (ha pos a s σ H _ I h) λj f (b,g,d,i,c)=>hc a f σ g b j Q d i c) he hpl
end
namespace HT
def cat_tup(ht:IsTup s.heap t vs.toArray)(hb:IsTup s.heap b ws.toArray)(hv:vs≠[])
  (h1:ws=[]->Q (.ref t) s) (h2:ws≠[]->Q (.ref s.heap.objs.size) { s with heap:=s.heap.push { cls:=.type "tuple",data:=.seq (vs++ws).toArray } })
  (hsz:vs.length+ws.length<=gN):wpAny (model prog w) A (hZ .Add (.ref t) (.ref b)) Q E s:=by
 let((r,j,p,k),c,l,n,m):=id ht;let((q,f,o,h),a,g,i,d):=id hb;subst l m g d;let e:vs.toArray++ws.toArray=(vs++ws).toArray:=by simp
 by_cases hw:ws=[]
 .show concat_meets (_,c,rfl) (_,a,rfl) noFill_tuple_add seq_tuple_add PySem.F.slot_tuple_add PySem.F.entry_tuple_add (PySem.F.args_tuple_add_2 _ _)
   (tuple_addW1 t b vs.toArray ws.toArray n i j f k h (by simp_all) (by grind)) (c,a,h1 hw)
 .show concat_meets (_,c,rfl) (_,a,rfl) noFill_tuple_add seq_tuple_add PySem.F.slot_tuple_add PySem.F.entry_tuple_add (PySem.F.args_tuple_add_2 _ _)
   (tuple_addW2 t b vs.toArray ws.toArray n i j f k h (by simp_all) (by simp_all) (by cbv)) (c,a,?_)
  rw[e];show h2 hw
noncomputable def sIx(n d:Nat):Option Int->Nat
 |none=>d
 |some v=>if v<0 then (v+(n:Int)).toNat else min v.toNat n
def sIx_none(n d:Nat):sIx n d gV=d:=rfl
def sIx_nat(n d k:Nat):sIx n d (bH (k:Int))=min k n:=rfl
def c0B(n d:Nat)(hd:d<=n)(o:Option Int):sIx n d o<=n:=by
 cases o with
 |none=>show hd
 |some v=>
  change (if v<0 then (v+n).toNat else min v.toNat n)<=n
  by_cases hv:v<0
  .grind
  .rw[if_neg hv];show fM _ _
def a8E(v:Int)(n d:Nat):(if v<0 then max (v+(n:Int)) 0 else min v (n:Int))=((sIx n d (bH v):Nat):Int):=by grind [sIx]
def a7A(lo hi:Option Int)(n:Nat):gU.Slice.sliceAdjust lo hi 1 (n:Int)=(((sIx n 0 lo:Nat):Int),((sIx n n hi:Nat):Int),):=by
 unfold gU.Slice.sliceAdjust;show Prod.ext ?_ ?_
 .cases lo with
  |none=>rfl
  |some v=>show a8E v n 0
 .cases hi with
  |none=>rfl
  |some v=>show a8E v n n
def a7B(i j:Nat):gU.Slice.slicePlaces (i:Int) (j:Int) 1=j-i:=by
 unfold gU.Slice.slicePlaces;simp
 split<;>lia
def a3T(p:IsPart v o)(h:Q o s):wpAny (model prog w) A (gU.Slice.slicePartIndex v) Q E s:=by
 cases p with
 |none=>show slicePart_none h
 |int i t=>show slicePart_int h
def a2T{lo hi:Option Int}{n:Nat}(hs:s.heap.IsSliceOf sl vl vu .none)(pl:IsPart vl lo)(pu:IsPart vu hi)
  (h:Q (((sIx n 0 lo:Nat):Int),1,sIx n n hi-sIx n 0 lo,) s):wpAny (model prog w) A (gU.Slice.sliceApplied (.ref sl) (pure (n:Int))) Q E s:=by
 let(d,a,c,b):=id hs;show gJ (gJ (iq a b rfl (gJ (iq a b rfl (gJ (iq a b rfl (gK (gJ (slicePart_none (gJ (a3T pl (gJ (a3T pu (gJ (gK ?_)))))))))))))))
 change wpAny _ _ (match gU.Slice.sliceAdjust lo hi 1 n with | (lo,hi,)=>pure (lo,_,gU.Slice.slicePlaces lo hi 1,)) _ _ s
 rw[a7A lo hi n]
 change wpAny _ _ (pure _) _ _ s
 rw[a7B];show gK h
def b04(xs:Array Value)(i k:Nat):((bG k).filterMap λ(m:Nat)=>xs[((i:Int)+(m:Int)*1).toNat]?).toArray=((xs.toList.drop i).take k).toArray:=by
 let e:(λ(m:Nat)=>xs[(i+(m:Int)*1).toNat]?)=λm=>xs[i+m]?:=by
  funext m
  let:(i+(m:Int)*1).toNat=i+m:=by lia
  rw[this]
 rw[e]
 let:=pick_run xs i k
 rw[eS]at this;let a:(_∘λx=>i+x)=λm=>xs[i+m]?:=rfl;rw[a]at this;rw[this]
def getItem_tuple_cut{lo hi:Option Int}(ht:IsTup s.heap t items)(hs:s.heap.IsSliceOf sl vl vu .none)(pl:IsPart vl lo)(pu:IsPart vu hi)
  (hw:¬ (sIx items.size 0 lo=0/\sIx items.size items.size hi=items.size))
  (h:Q (.ref s.heap.objs.size) { s with heap:=s.heap.push { cls:=.type "tuple",data:=.seq ((items.toList.drop (sIx items.size 0 lo)).take (sIx items.size items.size hi-sIx items.size 0 lo)).toArray } })
  (hsz:items.size<=gN):wpAny (model prog w) A (jz (.ref t) (.ref sl)) Q E s:=by
 let a:sizeOk (.seq ((items.toList.drop (sIx items.size 0 lo)).take (sIx items.size items.size hi-sIx items.size 0 lo)).toArray):=by
  change ((items.toList.drop (sIx items.size 0 lo)).take (sIx items.size items.size hi-sIx items.size 0 lo)).toArray.size<=gN
  rw[bW,bE,bZ,bI];cbv
 let(f,d,e,g):=id hs;let b:s.TypeIs (.ref sl) "slice":=(f,d,e);unfold jz
 try with_reducible show ib ?_
 show gJ (wpAny_sequenceKey ht.typeIs (by decide) ?_);show gJ (wpAny_callSpecial?_slot ht.typeIs PyProof.Rows.slot_tuple_getitem
  (im PyProof.Rows.slot_tuple_getitem ht.typeIs entry_tuple_getitem ?_ (args_tuple_getitem _ _)))
 change wpAny _ _ (gU.Tuple.tupleItemsOf _ >>= _) _ _ s
 show gJ (tupleItemsOf_ ht (gJ (jQ b (gJ (a2T hs pl pu ?_)))));let c:¬ ((((sIx items.size 0 lo):Int)==0&&(1:Int)==1&&(sIx items.size items.size hi-sIx items.size 0 lo)==items.size)=kz):=by grind
 change wpAny _ _ (if (((sIx items.size 0 lo):Int)==0&&(1:Int)==1&&(sIx items.size items.size hi-sIx items.size 0 lo)==items.size)=kz then _ else _) _ _ s
 rw[if_neg c,b04]
 first
  |show gJ (iK (gK (_,rfl,gK h)) a)
  |show gJ _
  |show gJ _
  |show gJ _
end HT
abbrev TO:=St->Hp->(Option Int->Hp->Prop)->Prop
def PO(X:Cx)(e:Option Expr)(t:TO):Prop:=
 ∀(pins:List (Addr×Obj))(s:Shared)(σ:St)(H:Hp)(Q:Option Int->Hp->Prop),Inv X pins σ H s->t σ H Q ->
  wpAny (model X.prog X.w) X.A (evalPart e X.env) (λu s'=>∃o H',Inv X pins σ H' s'/\IsPart u o/\Q o H') X.xe s
def b3L:TO:=λ_ H Q=>Q gV H
def b84(t:TE):TO:=fun σ H Q=>t σ H λx H1=>∃i,x=.int i/\Q (bH i) H1
def a3U:∀{us:List Value},Vals (ns.map V.int) us->io us ns:=by
 induction ns with
 |nil=>ext a r;cases r;show .nil
 |cons n ns ih=>
  ext a r;cases r with
  |cons r1 r2=>
   let(t,e):=r1;subst e;show .cons n t (ih r2)
section
variable{e:Expr}{te:TE}{lo hi:Option Expr}{tl th:TO}{p2:Pos}
def b3M:PO X gV b3L:=λa s σ H Q I h=>gK (gV,H,I,.none,h)
def b3N(h:PE X e te):PO X (bH e) (b84 te):=by
 ext a s σ H Q I b;show thn (h a s σ H _ I b) λu j (x,d,f,c,g)=>?_;let(i,rfl,q):=g;let(t,rfl):=c;show(bH i,d,f,.int i t,q)
def SlR(X:Cx)(r:V->Option Int->Option Int->Hp->VK->Prop):Prop:=
 ∀(pins:List (Addr×Obj))(s:Shared)(σ:St)(H:Hp)(x:V)(v vl vu:Value)(lo hi:Option Int)(sl:Addr)(Q:VK),Inv X pins σ H s->RelV x v->s.heap.IsSliceOf sl vl vu .none->IsPart vl lo->IsPart vu hi->r x lo hi H Q ->
  ∃T id,typeLookup (.type T) "__getitem__"=pure (bH (.builtin id))/\s.TypeIs v T/\wpAny (model X.prog X.w) X.A (jz v (.ref sl)) (EP X pins σ Q) X.xe s
def SlR.or(h:SlR X r)(h':SlR X r'):SlR X (λx lo hi H Q=>r x lo hi H Q\/r' x lo hi H Q):=by
 ext a s σ H x v b k d j c Q I g i e f q;let q||q:=q
 .show h a s σ H x v b k d j c Q I g i e f q
 .show h' a s σ H x v b k d j c Q I g i e f q
def tSl(r:V->Option Int->Option Int->Hp->VK->Prop)(te:TE)(tl th:TO):TE:=fun σ H Q=>te σ H λx H1=>tl σ H1 λl H2=>th σ H2 λu H3=>r x l u H3 Q
def b05(hr:SlR X r)(he:PE X e te)(hl:PO X lo tl)(hu:PO X hi th):PE X (.Subscript e (.Slice lo hi gV p2) pos) (tSl r te tl th):=by
 ext a s σ H Q I h;show Subscript_ (thn (he a s σ H _ I h) λv o (x,D,j,t,J)=>(wpAny_Slice (thn (hl a o σ D _ j J) λf B (l,p,m,n,G)=>thn (hu a B σ p _ m G) λd c (u,g,y,z,k)=>(gK ?_))));let C:Inv X a σ g { c with heap:=c.heap.push { cls:=.type "slice",data:=.fields #[f,d,.none] } }:=y.kept λb L q=>Heap.get?_push_of_some _ q;let(T,M,F,E,i):=hr a { c with heap:=c.heap.push { cls:=.type "slice",data:=.fields #[f,d,.none] } } σ g x v f d l u c.heap.objs.size Q C t (Heap.IsSliceOf.new ..) n z k;show tail_any E F i (by with_unfolding_all rfl)
noncomputable def cutV(xs:List V)(lo hi:Option Int):List V:=(xs.drop (HT.sIx xs.length 0 lo)).take (HT.sIx xs.length xs.length hi-HT.sIx xs.length 0 lo)
def a3d(xs:List V)(lo hi:Option Int):(cutV xs lo hi).length<=xs.length:=by
 unfold cutV;rw[bE,bZ]
 lia
def rSlT(K:Fg):V->Option Int->Option Int->Hp->VK->Prop:=λx lo hi H Q=>∃a xs,x=.ref a/\SqT K H a xs /\
 ¬ (HT.sIx xs.length 0 lo=0/\HT.sIx xs.length xs.length hi=xs.length)/\∀p,H p=gV->Q (.ref p) (upd H p (.tup (cutV xs lo hi)))
def sl_tup:SlR X (rSlT X.K):=by
 ext p s σ H x v A w e f z Q I k m l t h;let(a,d,rfl,n,u,q):=h;cases k;let(j,r,g,i):=I.tuple n;let c:j.toArray.size=d.length:=bW▸r.length.symm;show("tuple",_,PyProof.Rows.slot_tuple_getitem.lookup,g.typeIs,?_);show HT.getItem_tuple_cut g m l t (c▸u) ?_ (by simp_all);rw[c];show(.ref s.heap.objs.size,_,I.laid (λb y q=>Heap.get?_push_of_some _ q) (bd _) ?_,rfl,q _ (I.hok.fresh (bd _)));show(bD (a3d d e f) i,_,(r.drop _).take _,IsTup.new _ _)
def b85(K:Fg):R2:=λx y H Q=>∃a b xs ys,x=.ref a/\y=.ref b/\SqT K H a xs/\SqT K H b ys/\xs≠[]/\xs.length+ys.length<=gN /\
 (ys=[]->Q (.ref a) H)/\(ys≠[]->∀p,H p=gV->Q (.ref p) (upd H p (.tup (xs++ys))))
def Vals.nil_iff(r:Vals xs us):us=[]↔xs=[]:=by
 cases r with
 |nil=>simp
 |cons _ _=>simp
def op_catT:OpR X (hZ .Add) (b85 X.K):=by
 ext r s σ H x y v u Q I p B h;let(a,b,k,j,rfl,rfl,t,g,f,e,m,n):=h;cases p;cases B;let(C,d,i,_):=I.tuple t;let(l,c,A,_):=I.tuple g;show HT.cat_tup i A (λz=>f (d.nil_iff.mp z)) (λz=>(.ref a,H,I,rfl,m (c.nil_iff.mp z))) (λz=>?_) (by rw[<- d.length,<- c.length];show e);show(.ref s.heap.objs.size,_,I.laid (λb D q=>Heap.get?_push_of_some _ q) (bd _) ?_,rfl,n (λw=>z (c.nil_iff.mpr w)) _ (I.hok.fresh (bd _)));show(by rw[bu];show e,_,d.append c,IsTup.new _ _)
end
noncomputable def ixN(n:Nat)(i:Int):Option Nat:=if 0<=i then (if i<n then bH i.toNat else gV) else if -(n:Int)<=i then bH (i+n).toNat else gV
noncomputable def atI{α:Type}(xs:List α)(i:Int):Option α:=(ixN xs.length i).bind λj=>xs[j]?
def a8F(h:ixN n i=bH j):seqIndex? i n=bH j/\j<n/\-(n:Int)<=i/\i<n:=by
 unfold ixN at h
 by_cases h0:0<=i
 .rw[if_pos h0]at h
  by_cases h1:i<n
  .rw[if_pos h1]at h;let e:=bH.inj h;show(by rw[kj h0 h1,e],by lia,by lia,h1)
  .simp_all
 .rw[if_neg h0]at h
  by_cases h1:-n<=i
  .rw[if_pos h1]at h;let e:=bH.inj h;show(by rw[km (by lia) h1,e],by lia,h1,by lia)
  .simp_all
def a5N{α:Type}{xs:List α}{v:α}(h:atI xs i=bH v):∃j,seqIndex? i xs.length=bH j/\xs[j]?=bH v/\j<xs.length/\-(xs.length:Int)<=i/\i<xs.length:=by
 unfold atI at h;cases e:ixN xs.length i with
 |none=>rw[e]at h;cases h
 |some j=>
  rw[e]at h;let(d,c,b,a):=a8F e;show(j,d,h,c,b,a)
def a0O{α:Type}{xs:List α}{j:Nat}{v:α}(h:xs[j]?=bH v):atI xs (j:Int)=bH v:=by
 let a:=(bh.mp h).1;let e:ixN xs.length j=bH j:=by
  unfold ixN;rw[if_pos (by simp),if_pos (by lia)];simp
 unfold atI;rw[e];show h
def a8G(b:Expr):Prop:=∀o i,subscripted b kQ o i=operate [o,i] (jz o i)
def IxR(X:Cx)(r:R2):Prop:=
 ∀(value slice:Expr)(pins:List (Addr×Obj))(s:Shared)(σ:St)(H:Hp)(x y:V)(v u:Value)(Q:VK),Inv X pins σ H s->RelV x v->RelV y u->r x y H Q ->
  subscripted slice kQ v u=operate [v,u] (jz v u)->wpAny (model X.prog X.w) X.A (subscriptTail value slice v u) (EP X pins σ Q) X.xe s
def MtR(X:Cx)(id:String)(r:V->List V->Hp->VK->Prop):Prop:=
 ∀(pins:List (Addr×Obj))(s:Shared)(σ:St)(H:Hp)(x:V)(xs:List V)(v:Value)(us:List Value)(Q:VK),Inv X pins σ H s->RelV x v->Vals xs us->r x xs H Q ->
  wpAny (model X.prog X.w) X.A (call (.builtin id) (v::us)) (EP X pins σ Q) X.xe s
section
variable{a b:Expr}{ta tb:TE}
def IxR.or(h:IxR X r)(h':IxR X r'):IxR X (λx y H Q=>r x y H Q\/r' x y H Q):=by
 ext b a c s σ H x y v u Q I e f q d;let q||q:=q
 .show h b a c s σ H x y v u Q I e f q d
 .show h' b a c s σ H x y v u Q I e f q d
def MtR.or{id:String}(h:MtR X id r)(h':MtR X id r'):MtR X id (λx xs H Q=>r x xs H Q\/r' x xs H Q):=by
 ext a s σ H x e v b Q I c d q;let q||q:=q
 .show h a s σ H x e v b Q I c d q
 .show h' a s σ H x e v b Q I c d q
def b86(hr:IxR X r)(ha:PE X a ta)(hb:PE X b tb)(hs:a8G b):PE X (.Subscript a b pos) (tOp r ta tb):=λc s σ H Q I h=>Subscript_ (binT ha hb I h λv u d x y f g i e q=>hr a b c d σ f x y v u Q g i e q (hs _ _))
def rIxL(K:Fg):R2:=λx y H Q=>∃p xs i v,x=.ref p/\y=.int i/\SqL K H p xs/\atI xs i=bH v/\Q v H
def rIxT(K:Fg):R2:=λx y H Q=>∃p xs i v,x=.ref p/\y=.int i/\SqT K H p xs/\atI xs i=bH v/\Q v H
def rIxS:R2:=λx y H Q=>∃z i c,x=.str z/\y=.int i/\z.length<=gN/\atI z.cps.toList i=bH c/\Q (.str ⟨#[c]⟩) H
def ix_list:IxR X (rIxL X.K):=by
 ext n m a s σ H x y v u Q I F o h f;let(p,M,i,z,rfl,rfl,C,J,q):=h;cases F;let(t,rfl):=o;let(l,r,d,R):=I.list C;let(j,b,B,L,D,A):=a5N J;let(w,g,k):=r.get B;let G:=r.length;let N:=a4O;let c:EP X a σ Q w s:=(z,H,I,k,q)
 by_cases h0:0<=i
 .let e:i.toNat=j:=by
   rw[kj h0 A]at b;show bH.inj b
  show item_listR d.isList h0 (by lia) (by rw[e];o_head g) c f
 .let e:(i+(l.toArray.size:Int)).toNat=j:=by
   rw[km (by lia) D]at b;rw[bW,<- G];show bH.inj b
  show subscriptTail_builtinR d.isList.typeIs slot_list_getitem.lookup
   (wpAny_getItem_list_neg d.isList (by lia) (by simp_all) (by lia) (by rw[e];o_head g) (rfl,c)) f
def ix_tup:IxR X (rIxT X.K):=by
 ext f e a s σ H x y v u Q I A D h k;let(p,J,i,z,rfl,rfl,B,C,q):=h;cases A;let(t,rfl):=D;let(E,r,d,M):=I.tuple B;let(j,l,g,G,F,L):=a5N C;let(w,m,c):=r.get g;let N:=a4O;let b:EP X a σ Q w s:=(z,H,I,c,q);show subscriptTail_builtinR d.typeIs slot_tuple_getitem.lookup
  (getItem_tuple d (by lia) (by lia) (by rw[bW,<- r.length];show l) (by simp_all) (rfl,b)) k
def b6l:IxR X rIxS:=by
 ext b d r s σ H x y v u Q I o f h p;let(z,i,c,rfl,rfl,A,n,q):=h;let(t,rfl):=o;let(C,rfl):=f;let(j,a,l,D,g,w):=a5N n;let k:z.cps.toList.length=z.length:=by simp[Str.length]
 rw[k]at a g w;let B:=a4O;show tail_any (je s z t) slot_str_getitem.lookup (getItem_str (by grind) (by rw[a];o_head l) (.str ⟨#[c]⟩,H,I.tok _,(_,rfl),q)) p
def rIx(K:Fg):R2:=λx y H Q=>rIxL K x y H Q\/rIxT K x y H Q\/rIxS x y H Q
def b6m:IxR X (rIx X.K):=ix_list.or (ix_tup.or b6l)
def a7C(its:List Value)(n j:Nat)(u:Value):Obj.mapSeq (·.setIfInBounds j u) { cls:=.type "list",data:=.seq its.toArray n }={ cls:=.type "list",data:=.seq (its.set j u).toArray n }:=by
 simp[Obj.mapSeq]
def Inv.lst{pins:List (Addr×Obj)}{σ:St}{H:Hp}{s:Shared}{p:Addr}{xs:List V}(I:Inv X pins σ H s)(h:H p=bH (.lst xs)) :
  ∃(its:List Value)(n:Nat),Vals xs its/\s.heap.get? p=bH { cls:=.type "list",data:=.seq its.toArray n }/\xs.length<=sizeLine:=by
 let(z,a,n,r,e):=I.hok p _ h;show(a,n,r,e,z)
def Inv.lstUpd{its its':List Value}(I:Inv X pins σ H s)(h:H p=bH (.lst xs))
  (ho:s.heap.get? p=bH { cls:=.type "list",data:=.seq its.toArray n }) (hf:f { cls:=.type "list",data:=.seq its.toArray n }={ cls:=.type "list",data:=.seq its'.toArray n' }) (r:Vals ys its') (hz:ys.length<=gN) (t:Nat) :
  Inv X pins σ (upd H p (.lst ys)) { s with heap:=s.heap.update p f,toks:=t }:=by
 let e:(s.heap.update p f).get? p=bH { cls:=.type "list",data:=.seq its'.toArray n' }:=by
  rw[Heap.get?_update_self f ho (by rw[hf]<;>rfl),hf]
 show I.write (by rw[h];trivial) (.inl rfl) (λb u a q=>(Heap.get?_update_other _ _ (Ne.symm a)).trans q) (_,e) ?_;show(hz,its',n',r,e)
def b87:V->V->V->Hp->(Hp->Prop)->Prop:=λo i v H Q=>∃p xs k j,o=.ref p/\i=.int k/\H p=bH (.lst xs)/\ixN xs.length k=bH j/\Q (upd H p (.lst (xs.set j v)))
def b06:PSet X b87:=by
 ext d s σ H o i v D F u Q I x z C h;let(p,y,k,j,rfl,rfl,g,B,q):=h;cases x;let(t,rfl):=z;let(b,n,r,f,A):=I.lst g;let(a,E,m,w):=a8F B;let e:=r.length;let G:=a4O;let l:=
  I.lstUpd g f (a7C b n j u) (r.set C j) (by simp_all) s.toks
 by_cases h0:0<=k
 .let c:k.toNat=j:=by
   rw[kj h0 w]at a;show bH.inj a
  show PySem.W.ki_setAt f h0 (by lia) (by simp_all) (c▸(_,l,q))
 .let c:(k+(b.toArray.size)).toNat=j:=by
   rw[km (by lia) m]at a;rw[bW,<- e];show bH.inj a
  show PySem.W.ki_setBack f (by lia) (by simp_all) (by lia) (c▸(_,l,q))
def a4S(lo hi:Option Int)(n:Nat):(jf lo hi gV n).1=((HT.sIx n 0 lo:Nat):Int)/\(jf lo hi gV n).2.1=((HT.sIx n n hi:Nat):Int)/\(jf lo hi gV n).2.2=1:=by
 show(?_,?_,rfl)
 .cases lo with
  |none=>simp[jf,HT.sIx]
  |some i=>
   simp only[jf,HT.sIx,eT]
   by_cases h:i<0
   .grind
   .grind
 .cases hi with
  |none=>simp[jf,HT.sIx]
  |some i=>
   simp only[jf,HT.sIx,eT]
   by_cases h:i<0
   .grind
   .grind
def a4c(its:List Value)(lo hi:Option Int):slicePick its.toArray lo hi gV=((its.drop (HT.sIx its.length 0 lo)).take (HT.sIx its.length its.length hi-HT.sIx its.length 0 lo)).toArray:=by
 let(a,c,b):=a4S lo hi its.toArray.size;unfold slicePick;rw[a,c,b];simp only[sliceRange_one,pick_run]<;>rfl
def rSlL(K:Fg):V->Option Int->Option Int->Hp->VK->Prop:=λx lo hi H Q=>∃a xs,x=.ref a/\SqL K H a xs/\∀p,H p=gV->Q (.ref p) (upd H p (.lst (cutV xs lo hi)))
def sl_list:SlR X (rSlL X.K):=by
 ext p s σ H x v u w d e y Q I m i n j h;let(a,c,rfl,k,q):=h;cases m;let(t,r,g,l):=I.list k;let f:=r.length;show("list",_,slot_list_getitem.lookup,g.isList.typeIs,?_);show wpAny_getItem_list_slice g.isList i n j .none (by simp) ?_ (by grind);rw[a4c,<- f];show(.ref s.heap.objs.size,_,I.laid (λb z q=>Heap.get?_push_of_some _ q) (bd _) ?_,rfl,q _ (I.hok.fresh (bd _)));show(bD (a3d c d e) l,_,0,(r.drop _).take _,Heap.get?_push_size _ rfl)
def CallR.or(h:CallR X f r)(h':CallR X f r'):CallR X f (λxs H Q=>r xs H Q\/r' xs H Q):=by
 ext a s σ H c d Q I b q;let q||q:=q
 .show h a s σ H c d Q I b q
 .show h' a s σ H c d Q I b q
def tyV(K:Fg)(T:String)(x:V)(H:Hp):Prop:=match x with
 |.str _=>T="str"
 |.int _=>T="int"
 |.ref p=>(T="list"/\∃xs,SqL K H p xs)\/(T="tuple"/\∃o,K.lookup p=bH o/\o.cls=.type "tuple"/\o.dict=gV) \/
   (T="dict"/\((∃kvs,H p=bH (.dK kvs))\/(∃kvs,H p=bH (.dT kvs))\/∃ob kvs,H p=bH (.frz ob (.dK kvs))))\/(T="set"/\∃S n,H p=bH (.set S n))
 |_=>False
def b6n(I:Inv X pins σ H s)(r:RelV x v)(ty:tyV X.K T x H) :
  s.TypeIs v T/\∀a,v=.ref a->∃ob,s.heap.get? a=bH ob/\ob.dict=gV:=by
 cases x with
 |str z=>
  let(t,rfl):=r;cases (ty);show(je s z t,λ_ e=>nomatch e)
 |int i=>
  let(t,rfl):=r;cases (ty);show(typeIs_int s i t,λ_ e=>nomatch e)
 |ref p=>
  cases r;let(rfl,xs,hq)||(rfl,o,hk,hc,f)||(rfl,hk)||(rfl,S,n,hk):=ty
  .let(h,_,g,_):=I.list hq;show(g.isList.typeIs,λa e=>?_);cases e;let(o,n,e,c,f,_):=g;show(o,e,f)
  .show((o,I.kIn p o hk,hc),λa e=>?_);cases e;show(o,I.kIn _ o hk,f)
  .let z:∃o,s.heap.get? p=bH o/\o.ExactDict:=by
    let(kvs,hk)||(kvs,hk)||(ob,kvs,hk):=hk
    .let(_,_,_,_,o,_,_,e,b,_):=I.hok p _ hk;show(o,e,b)
    .let(_,_,_,_,o,_,_,e,b,_):=I.hok p _ hk;show(o,e,b)
    .let(_,_,_,_,_,o,_,_,e,b,_):=I.hok p _ hk;show(o,e,b)
   let(o,e,b):=z;show((o,e,b.1),λa d=>?_);cases d;show(o,e,b.2.1)
  .let(o,_,_,_,e,b,_):=I.hok p _ hk;show((o,e,b.1),λa d=>?_);cases d;show(o,e,b.2.1)
 |_=>show bj ty
def tBM(K:Fg)(T:String)(r:V->List V->Hp->VK->Prop)(to:TE)(t:TA):TE:=fun σ H Q=>to σ H λx H1=>tyV K T x H1/\t σ H1 λxs H2=>r x xs H2 Q
variable{o e:Expr}{to:TE}{t:TA}{name:Str}{cpos:Pos}{T id:String}{r:V->List V->Hp->VK->Prop}
def b88(pa:PlainAttrs T)(slot:Slot T name id)(hty:typeOf (.builtin id)=pure (.type "method_descriptor"))(hm:MtR X id r)(ho:PE X o to)(ha:PA X (e::es) t)
  (hbase:iZ o name X.env (eval o X.env)=eval o X.env)
  (hfew:((backTo cpos (gQ (e::es) X.env)).all (λx=>!x.1)&&(i5 cpos (i6 [] X.env)).all (λx=>x.1.isSome)
   && decide ((e::es).length+([]:List jd).length+(if ([]:List jd).isEmpty then 0 else 1)<30))=kz)
  (hline:(apos.endLine==cpos.line)=kz) (hs:gQ (e::es) X.env=(kQ,eval e X.env,)::gQ es X.env) (hplain:(backTo cpos (gQ es X.env)).any (·.1)=kQ) :
  PE X (.Call (.Attribute o name apos) (e::es) [] cpos) (tBM X.K T r to t):=by
 ext a s σ H Q I h;show wpAny_Call_method_late hbase hfew hline rfl (thn (ho a s σ H _ I h) λv k (x,w,b,c,u,j)=>?_);let(g,n):=b6n b c u;show(T,id,pa,slot,hty,g,n,?_);let d:=ha cpos a k σ w _ b j;rw[hs]at d ⊢;show Calls.callWith_builtin (by change (kQ||(backTo cpos _).any _)=kQ;rw[hplain]<;>rfl) (Calls.evalArgs_plain (thn d λi m (q,l,y,f,p)=>hm a m σ l x q v i Q y c f p))
end
def MtM(X:Cx)(id:String)(r:V->List V->Hp->VK->Prop):Prop:=
 ∀(pins:List (Addr×Obj))(s:Shared)(σ:St)(H:Hp)(x:V)(xs:List V)(v:Value)(us:List Value)(Q:VK),Inv X pins σ H s->RelV x v->Vals xs us->r x xs H Q ->
  wpAny (model X.prog X.w) X.A (call (.builtin id) (v::us)) (EP X pins σ Q) X.xe s
def Vals.one:∀{x:V}{us:List Value},Vals [x] us->∃u,us=[u]/\RelV x u:=by
 ext x us h;cases h with
 |cons r h=>cases h;show(_,rfl,r)
def Vals.two:∀{x y:V}{us:List Value},Vals [x,y] us->∃u v,us=[u,v]/\RelV x u/\RelV y v:=by
 ext x y a h;cases h with
 |cons r h=>cases h with
  |cons q h=>cases h;show(_,_,rfl,r,q)
def Vals.zero:∀{us:List Value},Vals [] us->us=[]:=by
 ext us h;cases h;rfl
def Vals.dropLast(h:Vals xs us):Vals xs.dropLast us.dropLast:=by
 induction h with
 |nil=>show .nil
 |cons r t ih=>
  cases t with
  |nil=>show .nil
  |cons q t'=>show .cons r ih
theorem Vals.eraseIdx:∀{xs:List V}{us:List Value}(i:Nat),Vals xs us->Vals (xs.eraseIdx i) (us.eraseIdx i)
 |_,_,_,.nil=>.nil
 |_,_,0,.cons _ t=>t
 |_,_,i+1,.cons r t=>.cons r (Vals.eraseIdx i t)
def Vals.reverse(h:Vals xs us):Vals xs.reverse us.reverse:=by
 induction h with
 |nil=>show .nil
 |cons r t ih=>rw[dM,dM];show Vals.append ih (.cons r .nil)
section
variable{σ:St}{l b:Addr}{xs ys:List V}
def Inv.lset{its its':List Value}(I:Inv X pins σ H s)(hH:H l=bH (.lst xs))
  (e:s.heap.get? l=bH { cls:=.type "list",data:=.seq its.toArray n }) (hf:f its.toArray=its'.toArray) (hv:Vals ys its') (hz:ys.length<=gN) :
  Inv X pins σ (upd H l (.lst ys)) { s with heap:=s.heap.update l (Obj.mapSeq f),toks:=t' }:=by
 let q:=PySem.IsL.update e f;rw[hf]at q;show I.write (hH▸trivial) (.inl rfl) (λc u a b=>(Heap.get?_update_other s.heap _ (Ne.symm a)).trans b) (_,q) ?_;show(hz,its',_,hv,q)
def Inv.lnew(I:Inv X pins σ H s)(hv:Vals ys its)(hz:ys.length<=gN) :
  Inv X pins σ (upd H s.heap.objs.size (.lst ys)) { s with heap:=s.heap.push { cls:=.type "list",data:=.seq its.toArray },toks:=t' }:=
 I.laid (λ_ _ q=>Heap.get?_push_of_some _ q) (bd _) (hz,its,0,hv,Heap.get?_push_size _ rfl)
def Inv.fresh(I:Inv X pins σ H s):H s.heap.objs.size=gV:=I.hok.fresh (bd _)
def Inv.lstM(I:Inv X pins σ H s)(hH:H l=bH (.lst xs)):xs.length<=gN/\∃(its:List Value)(n:Nat),Vals xs its/\xs.length=its.length/\s.heap.get? l=bH { cls:=.type "list",data:=.seq its.toArray n }:=by
 let(z,a,n,r,e):=I.hok l _ hH;show(z,a,n,r,r.length,e)
def b07(h:n<=gN):gU.List.listTooLong n=kQ:=decide_eq_false (by lia)
end
def b3O:V->List V->Hp->VK->Prop:=λx vs H Q=>∃l xs y,x=.ref l/\vs=[y]/\H l=bH (.lst xs)/\xs.length<gN/\Q .non (upd H l (.lst (xs++[y])))
def a4T:MtM X "list.append" b3O:=by
 ext c s σ H x k v o Q I f d h;let(l,j,y,rfl,rfl,b,i,q):=h;cases f;let(u,rfl,g):=d.one;let(z,a,n,r,m,e):=I.lstM b;show kr F.slot_list_append (_,e,rfl) F.entry_list_append (F.args_list_append_2 _ _) (PySem.list_append l a.toArray n u (by grind)) (e,?_);show(.non,_,I.lset b e (by simp) (r.append (.cons g .nil)) ?_,rfl,q);rw[bu,eU]
 lia
def b3P:V->List V->Hp->VK->Prop:=λx vs H Q=>∃l b xs zs,x=.ref l/\vs=[.ref b]/\H l=bH (.lst xs)/\H b=bH (.lst zs)/\xs.length+zs.length<=gN/\Q .non (upd H l (.lst (xs++zs)))
def a8H:MtM X "list.extend" b3P:=by
 ext k s σ H x A v C Q I i j h;let(l,b,B,E,rfl,rfl,f,t,G,q):=h;cases i;let(u,rfl,p):=j.one;cases p;let(z,c,n,r,D,e):=I.lstM f;let(J,a,w,m,y,o):=I.lstM t;let g:c.toArray.size+a.toArray.size<=sizeLine:=by grind
 let d:¬ (!c.toArray.isEmpty&&gU.List.listTooLong (c.toArray.size+a.toArray.size))=kz:=by
  rw[b07 g,dN];show bT
 show kr F.slot_list_extend (_,e,rfl) F.entry_list_extend (F.args_list_extend_2 _ _)
  (AutoSeq1.list_extend_list_list_0 l c.toArray n b a.toArray w d (by grind) (by lia)) (e,o,?_)
 show(.non,_,I.lset f e (by simp) (r.append m) ?_,rfl,q);rw[bu];cbv
def rCat:R2:=λx y H Q=>∃l b xs zs,x=.ref l/\y=.ref b/\H l=bH (.lst xs)/\H b=bH (.lst zs)/\xs.length+zs.length<=gN/\∀p,H p=gV->Q (.ref p) (upd H p (.lst (xs++zs)))
def b6o:OpR X (hZ .Add) rCat:=by
 ext i s σ H x y v u Q I f k h;let(l,b,C,w,rfl,rfl,m,d,A,q):=h;cases f;cases k;let(z,c,n,r,t,e):=I.lstM m;let(B,a,D,o,p,g):=I.lstM d;show PySem.P.add_list e g ?_ (by grind);let j:c.toArray++a.toArray=(c++a).toArray:=by simp
 rw[j];show(.ref _,_,I.lnew (r.append o) (by grind),rfl,q _ I.fresh)
namespace Att
open PySem PySem.W PySem.Calls PyProof.Rows
def a3e:∀(ns:List Int)(vs:List Value),WellAll kR h vs (ns.map WData.int)->io vs ns:=by
 ext c
 induction c with
 |nil=>
  ext d w;cases w;show .nil
 |cons n c ih=>
  ext d w;cases w with
  |cons a b=>
   cases a;show .cons _ _ (ih _ b)
def a8I{l:OpenLaw}(hn:l.most=bH n)
  (hpre:l.row.toRowW.claim.pre args=kz) (hwl:WellAll kR h vals args) :
  ∃a vs ns,vals=[Value.ref a]/\args=[WData.list (ns.map WData.int)]/\h.get? a=bH { cls:=.type "list",data:=.seq vs.toArray }/\io vs ns/\ns.length<=n:=by
 let i:=(pre_splitW hpre).1;let g:l.pre.holds [] { args:=args }=kz:=(pre_splitW hpre).2;let(d,r,rfl,j,m):=hasAllW_cons i;obtain rfl:=hasAllW_nil m;let(p,rfl,o):=hasW_list j;let(b,rfl):=items_int o;let f:b.length<=n:=by
  let c:(WTm.not (.lt (.lit (.int n)) (.len (.arg 0)))).holds [] { args:=[.list (b.map .int)] }=kz:=by
   let c:=(holds_andW g).1;rw[hn]at c;show c
  let e:=condW_of c (w_not (w_lt w_lit (w_len_list (w_arg rfl))))
  first
   | (rw[decide_eq_true k]at e;show absurd e (by simp))
   | (simp at e;cbv)
 cases hwl with
 |cons w1 w2=>
  cases w2;cases w1 with
  |list ho hall=>show(_,_,b,rfl,rfl,ho,a3e b _ hall,f)
def a8J(l:OpenLaw)(args:List WData):l.row.toRowW.claim.post args (.bool kz) args=kz:=
 postW_of
  (show WShape.has [] _ .bool=kz by first |rfl |decide |simp)
  (w_eq_bool (w_res rfl) w_lit) rfl
def attach_call{l:OpenLaw}
  (hn:l.most=bH n) (hdf:d.params.defaults=[])
  (call:∀(w:World)(s₀ sj:Shared)(mg mb:Str->Option Value)(fa:Addr)(o:Obj)(pm cd doc:Value)(a:Addr)(vs:List Value)(ns:List Int),
   Ground q loose [] XP w s₀ mg mb sj.heap->YP w sj.heap ->
   sj.heap.get? fa=bH o->o.data=.func (docDef d.name d.params d.body d.scope pm cd doc)->sj.heap.CodeRec cd d.name->mg d.name=bH (.ref fa) ->
   sj.heap.get? a=bH { cls:=.type "list",data:=.seq vs.toArray }->io vs ns->ns.length<=n->sj.gens=#[] ->
   iy (model l.prog w) jg (.call (.ref fa) ([.ref a],[])) (λr s'=>r=.ok (.ret (.bool kz))/\OldK sj.heap s'.heap/\s'.os=sj.os/\iG s'.gens) sj) :
  WalkO q loose XP YP l.row.toRowW d [] (λf vs=>PySem.call f vs):=by
 ext w C s D y G Y x o F v i Q H L B k h j N u J U c A S m T;obtain rfl:Q=.none:=Dflts.none h hdf;obtain rfl:H=.none:=Dflts.noKw h;let(a,I,E,rfl,rfl,g,b,e):=a8I hn c m;show enter_call (iP (call w C s D y x o F v i a I E G Y L (fd_plain B) k j g b e N) λr V R=>?_);let(rfl,t,z,M):=R;show(.inl (.bool kz,.bool kz,[],rfl,λ_=>rfl,.bool kz,a8J l _,λ_=>(cV.nil,λ_ p=>(nomatch p))),t,z,M)
end Att
def a8K:∀{vs:List Value}{ns:List Int},io vs ns->Vals (ns.map V.int) vs:=by ext z0 y0 x0;induction x0 with
 |nil=>show .nil
 |cons n t h I0=>show .cons (t,rfl) (I0)
def Only(H:Hp):Prop:=∀b,H b=gV\/∃o xs,H b=bH (.frz o (.lst xs))
def b08{K:Fg}
  (KX:K.In sj.heap) (hns:sj.heap.Ns hV mg) (hb:sj.heap.Ns j6 mb) (hbb:∀x:Str,x≠"__name__"->mb x=ij x) (hlim:sj.heap.NoLimit) (hg:sj.gens=#[])
  (ha:sj.heap.get? a=bH { cls:=.type "list",data:=.seq vs.toArray }) (hi:io vs ns) (hl:ns.length<=gN) (hr:Room k jg)
  (F:∀base:Heap,K.In base->base.Ns hV mg->FnOk P w K mg base CX k fa fd [x] sp) (hbind:∀(s:Shared)(u:Value),jo s fd ([u],[]) [(x,u,)])
  (hsp:∀H:Hp,Only H->SqL K H a (ns.map V.int)->sp [.ref a] H (λv _=>v=.bl kz) λ_ _ _=>False)
  (hCX:∀H e s',CX [] H sj (λ_ _ _=>False) e s'->False) :
  iy (model P w) jg (.call (.ref fa) ([.ref a],[])) (λr s'=>r=.ok (.ret (.bool kz))/\OldK sj.heap s'.heap/\s'.os=sj.os/\iG s'.gens) sj:=by
 let L:=a8K hi;let p:∀H:Hp,Only H->SqL K H a (ns.map V.int)->HOk P w H sj.heap->(∀b,H b≠gV->b=a)->(H a≠gV->K.lookup a=gV) ->
   iy (model P w) jg (.call (.ref fa) ([.ref a],[])) (λr j=>r=.ok (.ret (.bool kz))/\OldK sj.heap j.heap/\j.os=sj.os/\iG j.gens) sj:=by
  ext H I R y G X;let f:∀{b:Addr}{o:Obj},sj.heap.get? b=bH o->H b=gV->(hidT sj.heap H).get? b=bH o:=λe n=>b0Q e n;let N:∀{b:Addr}{o:Obj}{i:Array i9}{l:Nat},sj.heap.get? b=bH o->o.data=.dict i l->H b=gV:=λ{b o i l} e d=>by grind
  let g:∀{b:Addr}{m:Str->Option Value},sj.heap.Ns b m->(hidT sj.heap H).Ns b m:=λ{b m} (o,i,l,e,d,r)=>(o,i,l,f e (N e d),d,r);let A:=λb o e=>f (KX b o e) (by grind);let T:Mod K mg (hidT sj.heap H):=(A,g hns,(mb,g hb,hbb),by let(mc,h1,h2):=hlim;show(mc,g h1,h2));let U:Env0 P w K mg (hidT sj.heap H) jg [] sj H:=(rfl,T,λb o e=>b3t e,dJ (a8f _ _),trivial,λb hb=>absurd (show b∈([]) from hb) (by simp),y,.of_eq hg);show iP ((F _ A (g hns)).run jg [] sj H ([.ref a],[]) [.ref a] [.ref a] _ _ hr U (hbind sj (.ref a)) (.cons rfl .nil) (hsp H I R)) λr j h=>?_;cases r with
  |error e=>show (hCX H e j h).elim
  |ok fl=>
   cases fl with
   |next=>show bj h
   |brk=>show bj h
   |cont=>show bj h
   |ret u=>
    let(v,H',Q,C,J,B,S,q):=h;let q':=q;subst q';obtain rfl:u=Value.bool kz:=S;show(rfl,OldK.of_keep λb o e=>?_,Q,C);cases q:H b with
    |none=>show J.keep b o e q (by ext z;show absurd (show b∈([]) from z) (by simp)) (by simp)
    |some u=>
     let z||(ob,xs,z):=I b
     .rw[q]at z;cases z
     .let z2:=J.frzs b ob _ z;let(M,_):=y b _ z;let(Y,_):=B b _ z2;rw[e]at M;cases M;show Y
 cases hk:K.lookup a with
 |some o=>
  let e:=KX a o hk;rw[ha]at e;cases e;show p _ (λ_=>.inl rfl) (.inr (_,vs.toArray,_,hk,rfl,rfl,rfl,by rw[bW,hi.length];show hl,↑L)) (λb u z=>by let t:=z;cases t) (λb z=>absurd rfl z) λz=>absurd rfl z
 |none=>
  show p (λb=>if b=a then bH _ else gV) (λb=>?_) (.inl (.inr ({ cls:=.type "list",data:=.seq vs.toArray },if_pos rfl))) (λb u z=>?_) (λb z=>?_) λ_=>hk
  .grind
  .by_cases hb:b=a
   .let t:=(if_pos hb).symm.trans z;cases t;subst hb;show(ha,by rw[a9];show hl,vs,_,L,ha)
   .let t:=(if_neg hb).symm.trans z;cases t
  .by_cases hb:b=a
   .show hb
   .show absurd (if_neg hb) z
def walk_of{l:PySem.W.OpenLaw}{K:Params->Fg}{CX:World->CXT}{sp:World->Sp}
  (hn:l.most=bH n) (hn2:n<=gN) (hdf:d.params.defaults=[]) (hr:Room k jg)
  (hY:∀(w:World)(h:Heap),YP w h->(K w.params).In h)
  (F:∀(w:World)(mg:Str->Option Value)(fa:Addr)(h:Heap),(K w.params).In h->h.Ns hV mg->mg d.name=bH (.ref fa) ->
   ∃fd:ik,(∀(s:Shared)(u:Value),jo s fd ([u],[]) [(x,u,)]) /\
    ∀base:Heap,(K w.params).In base->base.Ns hV mg->FnOk l.prog w (K w.params) mg base (CX w) k fa fd [x] (sp w))
  (hsp:∀(w:World)(H:Hp)(a:Addr)(ns:List Int),ns.length<=n->Only H->SqL (K w.params) H a (ns.map V.int)->sp w [.ref a] H (λv _=>v=.bl kz) λ_ _ _=>False)
  (hCX:∀(w:World)(H:Hp)(s:Shared)(e:Value)(s':Shared),CX w [] H s (λ_ _ _=>False) e s'->False) :
  PySem.W.WalkO q loose XP YP l.row.toRowW d [] (λf vs=>PySem.call f vs):=by
 show Att.attach_call hn hdf λw N r y U B o R Q J a S z G Y X M L p j i c D=>?_;let m:=hY w _ Y;let(fd,C,A):=F w y B _ m G.T.g p;show b08 m G.T.g G.T.b G.T.builtins G.T.nolimit D j i (bD c hn2) hr A C (λH I E=>hsp w H a z c I E) λH e t=>hCX w H r e t
noncomputable def a4d(s:Stmt)(j:Nat):Stmt:=match s with
 |.ClassDef _ _ _ body _ _ _ _ _ _ _=>body.getD j (.Pass (0,0,0,0))
 |_=>.Pass (0,0,0,0)
noncomputable def a1O(s:Stmt):Arguments:=match s with
 |.FunctionDef _ a _ _ _ _ _ _ _ _=>a
 |_=>{ posonlyargs:=[],args:=[],vararg:=gV,kwonlyargs:=[],kw_defaults:=[],kwarg:=gV,defaults:=[] }
noncomputable def a0U(s:Stmt):List Stmt:=match s with
 |.FunctionDef _ _ b _ _ _ _ _ _ _=>b
 |_=>[]
noncomputable def a0j(s:Stmt):Scope:=match s with
 |.FunctionDef _ _ _ _ _ _ sc _ _ _=>sc
 |_=>{ kind:=.function,names:=[],isGenerator:=kQ,isCoroutine:=kQ }
abbrev CX0:CXT:=λ_ _ _ _ _ _=>False
abbrev E0:XK:=λ_ _ _=>False
def b3Q:a1d CX0 X E0:=λ_ _ _ _ _ _ _ h=>h.elim
structure Fun (K:Fg) (x qual:Str) (st:Stmt) (f:Addr) (fd:ik):Prop where
 ex:∃(oc:Value)(od:Option Addr)(kV doc pm:Value)(an:Option Addr)(cdv ct:Value)(osl:Array (Option Value)),
  fd=PySem.W.fnOf x qual (a1O st) (a0U st) (a0j st) .none kV doc pm an cdv ct/\K.lookup f=bH (oc,od,.func fd,osl)/\PySem.W.codeIn K cdv qual=kz
 kp:PySem.W.keepIn K (.ref f)=kz
section
variable{K:Fg}{mg:Str->Option Value}{base:Heap}
def Fun.ok{st:Stmt}(F:Fun K x qual st f fd)(S:FnScope N ps (a0j st))(len:∀vs H Q E,sp vs H Q E->vs.length=ps.length)
  (hbody:∀(cdv:Value)(A:Around)(outer:List Env)(s:Shared)(H:Hp)(vs:List V)(Q:VK)(E:XK),Room k (A.deeper (envOfC qual (a0j st) s.heap.objs.size f cdv))->sp vs H Q E ->
   ∃t,PSs (cxOf CX0 P w K mg base N qual (a0j st) f cdv A outer s H E).nox (a0U st) t/\t { nx:=λ_ H'=>Q .non H',rt:=Q } (start N vs) H):FnOk P w K mg base CX0 (k+1) f fd ps sp:=by
 let(n,u,r,l,m,o,c,p,j,rfl,i,d):=F.ex;show b6k i d S len λA a s H g Q E e b=>?_;let(t,h,q):=hbody c A a s H g Q E e b;show(t,h.nox,q)
def Fun.binds{st:Stmt}(F:Fun K x qual st f fd)
  (h:∀(kV doc pm:Value)(an:Option Addr)(cdv ct:Value)(us:List Value),us.length=ps.length->kh (PySem.W.fnOf x qual (a1O st) (a0U st) (a0j st) .none kV doc pm an cdv ct) (us,[])=pure (ps.zip us)):Binds K fd ps []:=by
 let(k,l,g,a,e,d,b,c,i,rfl,m,j):=F.ex;show .all (h g a e d b c)
def b2L{st:Stmt}{kV doc pm cdv ct:Value}(l:K.lookup f=bH (oc,od,.func (PySem.W.fnOf x qual (a1O st) (a0U st) (a0j st) .none kV doc pm an cdv ct),osl))
  (c:PySem.W.codeIn K cdv qual=kz) (k:PySem.W.keepIn K (.ref f)=kz):Fun K x qual st f (PySem.W.fnOf x qual (a1O st) (a0U st) (a0j st) .none kV doc pm an cdv ct):=((oc,od,kV,doc,pm,an,cdv,ct,osl,rfl,l,c),k)
end
def a0d(h:n<=1000):n<sizeLine:=eV h (by decide)
def pv(i:Nat)(hN:X.N[i]?=bH x:=by rfl)(hv:Vis X.env.scope x:=by first |show cM rfl |show cq (cM rfl) |show cq (cq rfl))(hd:(x==("__debug__":Str))=kQ:=by decide)
  (hcd:(x==("__classdict__":Str))=kQ:=by decide):PE X (.Name x pos) (tVar i):=a8g hN hv hd hcd
def Same(H H':Hp):Prop:=∀b o,H b=bH o->H' b=bH o
def Same.refl(H:Hp):Same H H:=λ_ _ h=>h
def Same.trans(a:Same H H1)(b:Same H1 H2):Same H H2:=λc o h=>b c o (a c o h)
def Same.free(e:Same H H')(h:H' l=Option.none):H l=Option.none:=by
 cases q:H l with
 |none=>rfl
 |some o=>
  rw[e l o q]at h;cases h
def Same.seq{K:Fg}(e:Same H H')(h:SqL K H a xs):SqL K H' a xs:=by
 let(h||(o,h))||h:=h
 .show .inl (.inl (e _ _ h))
 .show .inl (.inr (o,e _ _ h))
 .show .inr h
section
variable{κ:Type}[DecidableEq κ]
noncomputable def valV(kvs:List (κ×V))(k:κ):Option V:=(kvs.find? λkv=>decide (kv.1=k)).map (·.2)
noncomputable def putK(kvs:List (κ×V))(k:κ)(v:V):List (κ×V):=
 if (kvs.any λkv=>decide (kv.1=k))=kz then kvs.map (λkv=>if kv.1=k then (kv.1,v,) else kv) else kvs++[(k,v,)]
noncomputable def b6p(kvs:List (κ×V))(k:κ):List (κ×V):=kvs.filter λkv=>decide (kv.1≠k)
def a4e{k:κ}(e:p.1=k):valV (p::r) k=bH p.2:=by simp[valV,cr,e]
def a4f{k:κ}(e:¬ p.1=k):valV (p::r) k=valV r k:=by simp[valV,cr,e]
def b09(k:κ):∀kvs:List (κ×V),(kvs.any λkv=>decide (kv.1=k))=(valV kvs k).isSome:=by ext z0;induction z0 with
 |nil=>show rfl
 |cons p r I0=>
  rw[cW]
  by_cases e:p.1=k
  .simp only[a4e e,decide_eq_true e,Bool.true_or,Option.isSome_some]
  .rw[a4f e,decide_eq_false e,fN];show I0
def a1h(kvs:List (κ×V))(k:κ)(v:V):(putK kvs k v).length<=kvs.length+1:=by grind [putK]
def RelO.isSome_eq(r:RelO o u):o.isSome=u.isSome:=by
 cases o with
 |none=>cases u with
  |none=>rfl
  |some _=>show (r).elim
 |some _=>cases u with
  |none=>show (r).elim
  |some _=>rfl
def RelO.getD(r:RelO o u)(rd:RelV d d'):RelV (o.getD d) (u.getD d'):=by
 cases o with
 |none=>cases u with
  |none=>show rd
  |some _=>show (r).elim
 |some _=>cases u with
  |none=>show (r).elim
  |some _=>show r
noncomputable def KV.val(r:KV kvs vs)(k:κ):RelO (valV kvs k) (iC vs k):=by
 induction r with
 |nil=>show True.intro
 | @cons p q ps qs h t ih=>
  let(c,d):=h
  by_cases e:p.1=k
  .let a:=c.symm.trans e;let b:iC (q::qs) k=bH q.2:=by simp[iC,a]
   rw[a4e e,b];show d
  .let a:¬ q.1=k:=λz=>e (c.trans z);let b:iC (q::qs) k=iC qs k:=by simp[iC,a]
   rw[a4f e,b];show ih
noncomputable def KV.any(r:KV kvs vs)(k:κ):(kvs.any λkv=>decide (kv.1=k))=vs.any λkv=>decide (kv.1=k):=by
 induction r with
 |nil=>rfl
 |cons h t ih=>rw[cW,cW,ih,h.1]
def KV.repl(r:KV kvs vs)(k:κ)(ry:RelV kR u) :
  KV (kvs.map λkv=>if kv.1=k then (kv.1,kR,) else kv) (vs.map λkv=>if kv.1=k then (kv.1,u,) else kv):=by
 induction r with
 |nil=>show .nil
 | @cons p q ps qs h t ih=>
  rw[bx,bx];show .cons ?_ ih;let(a,b):=h
  by_cases e:p.1=k
  .rw[if_pos e,if_pos (a.symm.trans e)];show(a,ry)
  .rw[if_neg e,if_neg (λz=>e (a.trans z))];show(a,b)
noncomputable def KV.put(r:KV kvs vs)(k:κ)(ry:RelV kR u):KV (putK kvs k kR) (stored vs k u):=by
 unfold putK stored;rw[r.any k]
 by_cases e:(vs.any λkv=>decide (kv.1=k))=kz
 .rw[if_pos e,if_pos e];show r.repl k ry
 .rw[if_neg e,if_neg e];show Paired.snoc r (rfl,ry)
def KV.drop(r:KV kvs vs)(k:κ):KV (b6p kvs k) (without vs k):=by
 unfold b6p without
 induction r with
 |nil=>show .nil
 | @cons p q ps qs h t ih=>
  let(c,d):=h;rw[cu,cu]
  by_cases e:p.1=k
  .simp_all
  .let f:¬ q.1=k:=λz=>e (c.trans z);let a:decide (p.1≠k)=kz:=by simp[e]
   let b:decide (q.1≠k)=kz:=by simp[f]
   rw[if_pos a,if_pos b];show .cons (c,d) ih
theorem KV.keys{kvs:List (κ×V)}(r:KV kvs vs):kvs.map (·.1)=vs.map (·.1):=by
 induction r with
 |nil=>rfl
 |cons h t ih=>rw[bx,bx,ih,h.1]
def KV.length(r:KV kvs vs):kvs.length=vs.length:=Paired.length r
end
def a7D(r:RelV (kV k) u):(a0g P w).is k u=kz:=by
 match k,r with
 |.inl (bH i),r=>let(t,e):=(r);subst e;show a5G P w i t
 |.inl gV,r=>rw[r];rfl
 |.inr x,r=>let(t,e):=(r);subst e;show a5H P w x t
def a8L:∀{ks:List Key}{us:List Value},Vals (ks.map kV) us->ItemsAre (a0g P w) ks us:=by ext z0;induction z0 with
 |nil=>ext _ r;rw[bN]at r;cases r;show .nil
 |cons k ks I0=>
  ext _ r;cases r with
  |cons h t=>show .cons (a7D h) (I0 t)
abbrev KT(H:Hp):List (List Key×V)->List (List Key×Addr×Value)->Prop:=Paired λp q=>p.1=q.1/\H q.2.1=bH (.tup (p.1.map kV))/\RelV p.2 q.2.2
noncomputable def KT.val(r:KT H kvs xs)(k:List Key):RelO (valV kvs k) ((atKey xs k).map (·.2)):=by
 induction r with
 |nil=>show True.intro
 | @cons p q ps qs h t ih=>
  let(c,_,d):=h
  by_cases e:p.1=k
  .let a:=c.symm.trans e;let b:atKey (q::qs) k=bH q.2:=by simp[atKey,a]
   rw[a4e e,b];show d
  .let a:¬ q.1=k:=λz=>e (c.trans z);let b:atKey (q::qs) k=atKey qs k:=by simp[atKey,a]
   rw[a4f e,b];show ih
def KT.repl(r:KT H kvs xs)(k:List Key)(ry:RelV kR u) :
  KT H (kvs.map λkv=>if kv.1=k then (kv.1,kR,) else kv) (xs.map (putAt k u)):=by
 induction r with
 |nil=>show .nil
 | @cons p q ps qs h t ih=>
  rw[bx,bx];show .cons ?_ ih;let(a,b,c):=h;unfold putAt
  by_cases e:p.1=k
  .rw[if_pos e,if_pos (a.symm.trans e)];show(a,b,ry)
  .rw[if_neg e,if_neg (λz=>e (a.trans z))];show(a,b,c)
noncomputable def KT.put(r:KT H kvs xs)(k:List Key)(hb:H b=bH (.tup (k.map kV)))(ry:RelV kR u) :
  KT H (putK kvs k kR) (storedH xs k b u):=by
 let e:(kvs.any λa=>decide (a.1=k))=(atKey xs k).isSome:=by
  rw[b09,(r.val k).isSome_eq,Option.isSome_map]
 unfold putK storedH;rw[e]
 by_cases q:(atKey xs k).isSome=kz
 .rw[if_pos q,if_pos q];show r.repl k ry
 .rw[if_neg q,if_neg q];show Paired.snoc r (rfl,hb,ry)
def KT.keeps(r:KT H kvs xs)(ht:∀b ys,H b=bH (.tup ys)->H' b=bH (.tup ys)):KT H' kvs xs:=
 Paired.mapP r λ_ _ z=>(z.1,ht _ _ z.2.1,z.2.2)
section
variable{h:Heap}{a:Addr}
def b6q(ok:HOk P w H h)(e:Rd H a u):ObjOk P w H h a u:=e.ok ok
def a8M(ok:HOk P w H h)(e:Rd H a (.dK kvs)):kvs.length<=gN/\(a==ic)=kQ/\∃vs,KV kvs vs/\h.DictOf (a0g P w) a vs:=
 b6q ok e
def b3R(ok:HOk P w H h)(e:H a=bH (.dK kvs)):kvs.length<=gN/\(a==ic)=kQ/\∃vs,KV kvs vs/\h.DictOf (a0g P w) a vs:=a8M ok (.inl e)
def a6D(ok:HOk P w H h)(e:H a=bH (.tup (ks.map kV))):(ju (a0g P w)).is h ks a:=by
 let(_,b,r,o,d,c,n,f):=(ok a _ e);show(o,b.toArray,n,d,c,f,↑(a8L r))
def b3S(ok:HOk P w H h)(e:Rd H a (.dT kvs)):kvs.length<=gN/\(a==ic)=kQ /\
  ∃xs,KT H kvs xs/\h.DictOfH (ju (a0g P w)) a xs:=by
 let(z,y,g,r,o,d,s,j,k,f,n,i):=(b6q ok e);show(z,y,g,r,o,d,s,j,k,f,n,λx b=>?_,i);let c:∀{l:List _}{m:List _},KT H l m->∀x∈m,(ju (a0g P w)).is h x.1 x.2.1:=by
  ext l m q
  induction q with
  |nil=>ext x b;show nomatch b
  | @cons p q ps qs hq t ih=>
   ext x b;let e||b:=bf.mp b
   .subst e;show a6D ok (by simp_all)
   .show ih x b
 show c r x b
def b89(ok:HOk P w H h)(e:H a=bH (.dT kvs)):kvs.length<=gN/\(a==ic)=kQ /\
  ∃xs,KT H kvs xs/\h.DictOfH (ju (a0g P w)) a xs:=b3S ok (.inl e)
end
def DGet(H:Hp)(a:Addr)(y:V)(r:Option V):Prop:=
 (∃kvs k,Rd H a (.dK kvs)/\y=kV k/\r=valV kvs k)\/∃kvs k b,Rd H a (.dT kvs)/\y=.ref b/\H b=bH (.tup (k.map kV))/\r=valV kvs k
def DPut(H:Hp)(a:Addr)(y v:V)(H':Hp):Prop:=
 (∃kvs k,H a=bH (.dK kvs)/\y=kV k/\kvs.length<gN/\H'=upd H a (.dK (putK kvs k v))) \/
 ∃kvs k b,H a=bH (.dT kvs)/\y=.ref b/\H b=bH (.tup (k.map kV))/\kvs.length<gN/\H'=upd H a (.dT (putK kvs k v))
def DGet.k{k:Key}(e:H a=bH (.dK kvs)):DGet H a (kV k) (valV kvs k):=.inl (kvs,k,.inl e,rfl,rfl)
def DGet.t{k:List Key}(e:H a=bH (.dT kvs))(eb:H b=bH (.tup (k.map kV))):DGet H a (.ref b) (valV kvs k):=.inr (kvs,k,b,.inl e,rfl,eb,rfl)
def DPut.k{k:Key}(e:H a=bH (.dK kvs))(hl:kvs.length<gN):DPut H a (kV k) v (upd H a (.dK (putK kvs k v))):=.inl (kvs,k,e,rfl,hl,rfl)
def DPut.t{k:List Key}(e:H a=bH (.dT kvs))(eb:H b=bH (.tup (k.map kV)))(hl:kvs.length<gN) :
  DPut H a (.ref b) v (upd H a (.dT (putK kvs k v))):=.inr (kvs,k,b,e,rfl,eb,hl,rfl)
section
variable{σ:St}{a:Addr}{y v:V}{u r:Value}{o:Option V}
def Inv.big(I:Inv X pins σ H s):ic<s.heap.objs.size:=by
 let h:=(I.mod.glob.keeps I.bk).lt;show dO (by decide) h
def a5O(I:Inv X pins σ H s)(mu:Mut (H a))(hs:Heap.SameBut a s.heap h')(he:∃q,h'.get? a=bH q)(new:ObjOk X.prog X.w (upd H a ob) h' a ob) :
  Inv X pins σ (upd H a ob) { s with heap:=h',toks:=t' }:=
 I.write mu (.inl rfl) (λb q c z=>(hs.2 b c).trans z) he new
def b2M(z:kvs.length<=gN)(hd:(a==ic)=kQ)(rel:KV kvs vs)(dd:h'.DictOf (a0g P w) a vs) :
  ObjOk P w H' h' a (.dK kvs):=(z,hd,vs,rel,dd)
def a8N(hu:A.units+1<cLine)(I:Inv X pins σ H s)(g:DPut H a y v H')(ry:RelV y u)(rv:RelV v r)(h:∀s',Inv X pins σ H' s'->Q () s') :
  wpAny (model X.prog X.w) A (jM (.ref a) u r) Q E s:=by
 let(kvs,k,e,ey,l,eH)||(kvs,k,b,e,ey,eb,l,eH):=g
 .subst ey eH;let(z,m,F,d,p):=b3R I.hok e;let o:F.length<=sizeLine:=d.length▸z;let n:(putK kvs k v).length<=sizeLine:=by let:=a1h kvs k v;lia
  show wpAny_setItem_pairs (a7D ry) p λx f j=>h _ ?_;let L:∃q,x.get? a=bH q:=by let(q,_,_,i,_):=f;show(q,i)
  show a5O I (e▸True.intro) j L (b2M n m (d.put k rv) f)
 .subst ey eH;cases (ry);let(z,m,D,d,p):=b89 I.hok e;let o:D.length<=sizeLine:=(Paired.length d)▸z;let n:(putK kvs k v).length<=sizeLine:=by let:=a1h kvs k v;lia
  show wpAny_setItem_heap (hsz:=o) (kt hu) (a6D I.hok eb) p λx f j=>h _ ?_;let(q,C,M,i,J,N,B,_,G):=f;show a5O I (e▸True.intro) j (q,i) (n,m,_,(d.put k eb rv).keeps λc R t=>?_,q,C,M,i,J,N,B,G);rw[a0f (b8N t e (λz=>nomatch z))];show t
end
def a6E(h:Heap)(hb:ic<h.objs.size):ObjOk P w H (h.push { cls:=.type "dict",data:=.dict #[] }) h.objs.size (.dK []):=
 (bR _,beq_eq_false_iff_ne.mpr (Ne.symm (bt hb)),[],.nil,Heap.DictOf.new h)
def b6r:TE:=λ_ H Q=>∀p,H p=gV->Q (.ref p) (upd H p (.dK []))
def b1a:PE X (.Dict [] [] pos) b6r:=λb s σ H Q I h=>
 wpAny_Dict_empty (.ref s.heap.objs.size,_,I.laid (λ_ _ q=>Heap.get?_push_of_some _ q) (bd _) (a6E s.heap I.big),rfl,h _ (I.hok.fresh (bd _)))
noncomputable def b6s(kvs more:List (Key×V)):List (Key×V):=more.foldl (λacc kv=>putK acc kv.1 kv.2) kvs
def KV.merge:∀{more:List (Key×V)}{rs:List (Key×Value)}{kvs:List (Key×V)}{vs:List (Key×Value)},KV more rs->KV kvs vs->KV (b6s kvs more) (merged vs rs):=by
 ext d f a b r
 induction r generalizing a b with
 |nil=>ext q;show q
 | @cons p q ps qs h t ih=>
  ext c;let e:KV (putK a p.1 p.2) (stored b q.1 q.2):=by
   let:=c.put p.1 h.2
   rw[<- h.1];show this
  show ih e
structure M2 (X:Cx) (o:Expr) (m:Str) (apos:Pos) (e f:Expr) (cpos:Pos):Prop where
 base:iZ o m X.env (eval o X.env)=eval o X.env
 few:((backTo cpos (gQ [e,f] X.env)).all (λx=>!x.1)&&(i5 cpos (i6 [] X.env)).all (λx=>x.1.isSome)
  && decide (([e,f]:List Expr).length+([]:List jd).length+(if ([]:List jd).isEmpty then 0 else 1)<30))=kz
 line:(apos.endLine==cpos.line)=kz
 trees:backTo cpos (gQ [e,f] X.env)=[(kQ,eval e X.env,),(kQ,eval f X.env,)]
section
variable{σ:St}{a:Addr}{y d:V}{u r:Value}{o:Option V}
def b6t(hu:A.units+1<cLine)(I:Inv X pins σ H s)(g:DGet H a y o)(ry:RelV y u)(h:∀w' s',Inv X pins σ H s'->RelV (o.getD .non) w'->Q w' s') :
  wpAny (model X.prog X.w) A (call (.builtin "dict.get") [.ref a,u]) Q E s:=by
 let(kvs,k,e,ey,l)||(kvs,k,b,e,ey,eb,l):=g
 .subst ey;let(z,f,j,d,c):=a8M I.hok e;show jA PySem.F.slot_dict_get c.typeIs PySem.F.entry_dict_get (PySem.F.args_dict_get_2 _ _) (meets_dict_get _ a (a7D ry) f) (_,c.mapOf,h _ _ (I.tok _) ?_);rw[l];show (d.val k).getD rfl
 .subst ey;cases (ry);let(z,f,i,d,c):=b3S I.hok e;show jA PySem.F.slot_dict_get c.typeIs PySem.F.entry_dict_get (PySem.F.args_dict_get_2 _ _) (meetsH_dict_get _ a b f) (kt hu,k,i,a6D I.hok eb,c,h _ _ (I.tok _) ?_);rw[l];show (d.val k).getD rfl
def b6u(hu:A.units+1<cLine)(I:Inv X pins σ H s)(g:DGet H a y o)(ry:RelV y u)(rd:RelV d r)(h:∀w' s',Inv X pins σ H s'->RelV (o.getD d) w'->Q w' s') :
  wpAny (model X.prog X.w) A (call (.builtin "dict.get") [.ref a,u,r]) Q E s:=by
 let(kvs,k,e,ey,l)||(kvs,k,b,e,ey,eb,l):=g
 .subst ey;let(z,i,m,f,c):=a8M I.hok e;show jA PySem.F.slot_dict_get c.typeIs PySem.F.entry_dict_get (PySem.F.args_dict_get_3 _ _ _) (meets_dict_get_default _ a (a7D ry) i r) (_,c.mapOf,h _ _ (I.tok _) ?_);rw[l];show (f.val k).getD rd
 .subst ey;cases (ry);let(z,i,j,f,c):=b3S I.hok e;show jA PySem.F.slot_dict_get c.typeIs PySem.F.entry_dict_get (PySem.F.args_dict_get_3 _ _ _) (meetsH_dict_get_default _ a b i r) (kt hu,k,j,a6D I.hok eb,c,h _ _ (I.tok _) ?_);rw[l];show (f.val k).getD rd
end
noncomputable def a2w(cap:List (Option Nat))(σ:St):St:=cap.map λo=>o.bind λj=>(σ[j]?).join
def a1i:St->St->Prop
 |[],[]=>True
 |none::a,_::b=>a1i a b
 |some x::a,y::b=>y=bH x/\a1i a b
 |_,_=>False
theorem a2x:∀{a b:St},a1i a b->a.length=b.length/\∀(i:Nat) v,a[i]?=bH (bH v)->b[i]?=bH (bH v)
 |[],[],_=>(rfl,λi v h=>by simp at h)
 |none::a,y::b,h=>by
  let c:=a2x (b:=b) h;show(by simp[c.1],λi v e=>?_);cases i with
  |zero=>simp at e
  |succ i=>o_head c.2 i v (by simp_all)
 |some x::a,y::b,h=>by
  let(d,h):=(h);let c:=a2x (b:=b) h;show(by simp[c.1],λi v e=>?_);cases i with
  |zero=>rw[d];o_head e
  |succ i=>o_head c.2 i v ↑e
 |[],_::_,h=>bj h
 |none::_,[],h=>bj h
 |some _::_,[],h=>bj h
theorem a1z:∀a:St,a1i a a
 |[]=>True.intro
 |none::a=>a1z a
 |some _::a=>(rfl,a1z a)
noncomputable def capB(N:List Str)(so sc:Scope)(N':List Str)(cap:List (Option Nat)):Bool:=
 decide (sc.kind=.function)&&decide N'.Nodup&&decide (cap.length=N'.length)&&(sc.names.all λy=>decide (y.2≠.cell)) &&
 (sc.names.all λy=>decide (y.2=.local->sc.names.lookup y.1=bH .local)) &&
 (sc.names.all λy=>decide (y.2=.free->so.names.lookup y.1=bH .cell\/so.names.lookup y.1=bH .free)) &&
 ((N'.zip cap).all λy=>match y.2 with |none=>kz |some j=>decide (N[j]?=bH y.1)&&decide (sc.names.lookup y.1=bH .free))
structure CapOk (N:List Str) (so sc:Scope) (N':List Str) (cap:List (Option Nat)):Prop where
 kind:sc.kind=.function
 nd:N'.Nodup
 len:cap.length=N'.length
 nocell:∀y∈sc.names,y.2≠.cell
 nms:∀y∈sc.names,y.2=.local->sc.names.lookup y.1=bH .local
 fre:∀y∈sc.names,y.2=.free->so.names.lookup y.1=bH .cell\/so.names.lookup y.1=bH .free
 cap:∀(i:Nat) x j,N'[i]?=bH x->cap[i]?=bH (bH j)->N[j]?=bH x/\sc.names.lookup x=bH .free
def a8O(h:capB N so sc N' cap=kz):CapOk N so sc N' cap:=by
 unfold capB at h;simp only[b8,decide_eq_true_eq,b5]at h;let((((((f,k),d),g),b),l),e):=h;show(f,k,d,g,b,l,λi x j c a=>?_);let m:(N'.zip cap)[i]?=bH (x,bH j,):=by rw[List.getElem?_zip_eq_some];show(c,a)
 o_head (e (x,bH j,) (bB m))
structure Lk (fr:List Addr) (ex:Addr->Prop) (h h':Heap):Prop where
 keep:∀b o,h.get? b=bH o->b∉fr->¬ ex b->h'.get? b=bH o
 slot:∀b o,h.get? b=bH o->¬ ex b->∃sl,h'.get? b=bH { o with slots:=sl }
 size:h.objs.size<=h'.objs.size
def Lk.refl{fr:List Addr}{ex:Addr->Prop}{h:Heap}:Lk fr ex h h:=(λ_ _ q _ _=>q,λ_ o q _=>(o.slots,q),bd _)
def Lk.trans{fr:List Addr}{ex ex2:Addr->Prop}{h h1 h2:Heap}(a:Lk fr ex h h1)(b:Lk fr ex2 h1 h2)(i:∀x,ex2 x->ex x\/h.objs.size<=x):Lk fr ex h h2:=by
 let n:∀{x o},h.get? x=bH o->¬ ex x->¬ ex2 x:=λ{x o} q n z=>by
  let z||z:=i x z
  .show n z
  .show absurd (Heap.lt_size q) (Nat.not_lt.mpr z)
 show(λx o q f z=>b.keep x o (a.keep x o q f z) f (n q z),λx o q z=>?_,bD a.size b.size);let(sl,e):=a.slot x o q z;let(sl2,e2):=b.slot x _ e (n q z);show(sl2,e2)
theorem Lk.funs(k:Lk fr ex h h'):∀{l:List Env},(∀b∈frs l,¬ ex b)->h.FunFrames base l->h'.FunFrames base l
 |[],_,_=>True.intro
 |env::rest,hx,(hk,(L,o,hf,hn,ho,hd),hr)=>by
  let a:L∈frs (env::rest):=by change L∈(env::rest).filterMap _;rw[cE,hf];show .head _
  let(d,e):=k.slot L o ho (hx L a);show(hk,(L,_,hf,hn,e,hd),k.funs (λb c=>hx b (by change b∈(env::rest).filterMap _;rw[cE,hf];show .tail _ c)) hr)
def FlyT(e:Addr)(cls:Value)(T:Addr)(fl:Value)(h:Heap):Prop:=∃oe vs oT ts,h.get? e=bH oe/\(oe.cls=cls/\oe.dict=gV)/\oe.data=.fields vs/\vs[1]?=bH (.ref T)/\T≠e/\h.get? T=bH oT/\oT.data=.fields ts/\ts[3]?=bH fl
section
variable{M:Model}{base:Heap}{env:Env}{outer:List Env}{L e T:Addr}{cls fl:Value}{Q:Unit->Shared->Prop}
def a3C(f:Array Value->Array Value)(o:Obj):(o.mapFields f).dict=o.dict:=by
 unfold Obj.mapFields
 split<;>rfl
def b2N(hfr:A.frames=bH (env::outer))(hl:s.heap.FunFrames base (env::outer))(hf:env.frame=bH L)(he:s.heap.get? e=bH oe)(hn0:oe.dict=gV)(hd:oe.data=.fields vs)(hz:1<vs.size)
  (q:∀h' T',Lk (frs (env::outer)) (·=e) s.heap h'->FlyT e oe.cls T' (rawInt L) h'->s.heap.objs.size<=T'->Q () { s with heap:=h' }) :
  wpAny M A (do let a <- frameOf env;let pl <- entryPlaceOf L hn;let b <- EntryCells.newEntry head a .none (rawInt L) .none pl;setField (.ref e) 1 b) Q E s:=by
 let t:e∉frs _:=λD=>by
  let(_,F,i,C):=hl.mem D;rw[he]at i;cases i;show C vs hd
 show gJ (wpAny_frameOf_fun hfr hl hf λc g=>gJ (wpAny_entryPlaceOf λl m=>?_));unfold EntryCells.newEntry;show gJ (iK ?_ (m.sizeOk5 _ _ _ _ _));generalize ht:([head,Value.ref L,.none,rawInt L,.none]++_).toArray=ts;let w:ts[3]?=bH (rawInt L):=by rw[<- ht];simp
 let p:=(g.2.1 e t).trans he;let z:=Heap.lt_size p;let j:=cF z;let k:=Heap.get?_push_of_some { cls:=.type "traceback",dict:=gV,data:=.fields ts } p;let r:=Obj.data_mapFields hd (·.setIfInBounds 1 (Value.ref c.objs.size));let y:=(Heap.get?_update_other (c.push { cls:=.type "traceback",dict:=gV,data:=.fields ts }) (Obj.mapFields (·.setIfInBounds 1 (Value.ref c.objs.size))) (Ne.symm j)).trans (Heap.get?_push_size c rfl);show iQ k hd hz (q _ c.objs.size ?_ (_,_,_,_,(Heap.get?_update_self _ k (Obj.isFreed_of_fields r)),(Obj.cls_mapFields _ _,(a3C _ _).trans hn0),r,by simp[hz],j,y,rfl,w) (dJ g.1.symm));let n:∀b o,b≠e->c.get? b=bH o->((c.push { cls:=.type "traceback",dict:=gV,data:=.fields ts }).update e (Obj.mapFields (·.setIfInBounds 1 (Value.ref c.objs.size)))).get? b=bH o:=λb o d f=>by
  rw[Heap.get?_update_other _ _ (Ne.symm d)];show Heap.get?_push_of_some _ f
 show(λb o f x d=>n b o d ((g.2.1 b x).trans f),λb o f d=>?_,?_)
 .let(v,B):=g.2.2 b o f;show(v,n b _ d B)
 .rw[Heap.size_update,<- g.1];show cf (by simp)
def a8P(hT:FlyT e cls T fl s.heap)(q:∀h',(∀fr,Lk fr (·=T) s.heap h')->FlyT e cls T x h'->Q () { s with heap:=h' }):wpAny M A (setField (.ref T) 3 x) Q E s:=by
 let(l,m,oT,ts,r,p,j,k,i,hT,c,t):=hT;let h:=(et.mp t).1;show iQ hT c h (q _ (λfr=>?_) ?_)
 all_goals let d:∀b,b≠T->(s.heap.update T (Obj.mapFields (·.setIfInBounds 3 x))).get? b=s.heap.get? b:=λb a=>Heap.get?_update_other _ _ (Ne.symm a)
 all_goals let n:=Heap.get?_update_self (Obj.mapFields (·.setIfInBounds 3 x)) hT (Obj.isFreed_of_fields (Obj.data_mapFields c _))
 .show(λb o a _ g=>(d b g).trans a,λb o a g=>(o.slots,(d b g).trans a),by rw[Heap.size_update];show bd _)
 .show(l,m,_,_,(d e (Ne.symm i)).trans r,p,j,k,i,n,Obj.data_mapFields c _,by simp[h])
def FlyT.field{Q:Value->Shared->Prop}(h:FlyT e cls T fl s.heap)(q:Q (.ref T) s):wpAny M A (field (.ref e) 1) Q E s:=by
 let(_,_,_,_,a,_,b,c,_):=h;show iq a b c q
def FlyT.mark{Q:Value->Shared->Prop}(h:FlyT e cls T fl s.heap)(q:Q fl s):wpAny M A (PySem.field (.ref T) 3) Q E s:=by
 let(_,_,_,_,_,_,_,_,_,a,c,b):=h;show iq a c b q
def a8Q(hT:FlyT e cls T fl s.heap)(q:∀h',(∀fr,Lk fr (·=T) s.heap h')->FlyT e cls T (fo.elim .none λf=>rawInt f) h'->Q () { s with heap:=h' }):wpAny M A (setFlight (.ref e) fo) Q E s:=by
 show gJ (hT.field (a8P hT q))
def b1b(hfr:A.frames=bH (env::outer))(hl:s.heap.FunFrames base (env::outer))(hf:env.frame=bH L)(he:s.heap.get? e=bH oe)(hn0:oe.dict=gV)(hd:oe.data=.fields vs)(h1:vs[1]?=bH .none)
  (q:∀h' T',Lk (frs (env::outer)) (·=e) s.heap h'->FlyT e oe.cls T' (rawInt L) h'->s.heap.objs.size<=T'->Q () { s with heap:=h' }):wpAny M A (jh (.ref e) env) Q E s:=by
 unfold jh;simp only[hf];show gJ (iq he hd h1 (b2N hfr hl hf he hn0 hd (et.mp h1).1 q))
def a8R(hfr:A.frames=bH (env::outer))(hl:s.heap.FunFrames base (env::outer))(hf:env.frame=bH L)(hT:FlyT e cls T fl s.heap)
  (q:∀h' T',Lk (frs (env::outer)) (λb=>b=e\/b=T) s.heap h'->FlyT e cls T' (rawInt L) h'->T'=T\/s.heap.objs.size<=T'->Q () { s with heap:=h' }):wpAny M A (jh (.ref e) env) Q E s:=by
 unfold jh;simp only[hf];show gJ (hT.field (gJ (hT.mark ?_)))
 by_cases c:(fl==rawInt L)=kz
 .rw[if_pos c];rw[show fl=rawInt L by o_head c]at hT;show gK (q s.heap T .refl hT (.inl rfl))
 .rw[if_neg c];show gJ (a8P hT λh a B=>?_);let l:=(a []).funs (λb v z=>by
   let(_,I,g,u):=hl.mem v;let(_,_,_,i,_,_,_,_,_,d,j,_):=hT;rw[z,d]at g;cases g;show u i j) hl
  let(D,G,F,i,C,p,t,r,H,d,j,J):=B;show b2N hfr l hf C p.2 t (et.mp r).1 λy w k f z=>q y w ?_ (p.1▸f) (.inr (bD (a []).size z));let m:Lk (frs (env::outer)) (λb=>b=e\/b=T) s.heap h:=(λb o q f n=>(a _).keep b o q f λz=>n (.inr z),λb o q n=>(a []).slot b o q λz=>n (.inr z),(a []).size);show m.trans k λx z=>.inl (.inl z)
def b1c(hfr:A.frames=bH (env::outer))(hl:s.heap.FunFrames base (env::outer))(hf:env.frame=bH L)(he:s.heap.get? e=bH oe)(hn0:oe.dict=gV)(hd:oe.data=.fields vs)(h1:vs[1]?=bH .none)
  (q:∀h' T',Lk (frs (env::outer)) (·=e) s.heap h'->FlyT e oe.cls T' .none h'->s.heap.objs.size<=T'->Q () { s with heap:=h' }):wpAny M A (jP env (.ref e)) Q E s:=
 gJ (b1b hfr hl hf he hn0 hd h1 λ_ b k f z=>a8Q f λa d c=>q a b (k.trans (d _) λx w=>.inr (w▸z)) c z)
def b2O(hfr:A.frames=bH (env::outer))(hl:s.heap.FunFrames base (env::outer))(hf:env.frame=bH L)(hT:FlyT e cls T fl s.heap)
  (q:∀h' T',Lk (frs (env::outer)) (λb=>b=e\/b=T) s.heap h'->FlyT e cls T' .none h'->T'=T\/s.heap.objs.size<=T'->Q () { s with heap:=h' }):wpAny M A (jP env (.ref e)) Q E s:=
 gJ (a8R hfr hl hf hT λ_ c k f z=>a8Q f λa g d=>q a c (k.trans (g _) λx w=>by
  rw[w];let z||z:=z
  .show .inl (.inr z)
  .show .inr z) d z)
end
def Un.lk(u:Un fs ex0 H0 H h0 h)(v:Lk fr ex h h')(hf:∀b∈fr,b∈fs\/h0.get? b=gV)(hx:∀b,ex b->b∈ex0\/h0.get? b=gV):Un fs ex0 H0 H h0 h':=by
 let g:∀{b o},h0.get? b=bH o->b∉ex0->¬ ex b:=λ{b o} q n z=>by
  let z||z:=hx b z
  .grind
  .grind
 show(λb o q n c a=>?_,λb o q n c a=>?_,u.free,λb o q a=>?_,u.tups,u.frzs,u.tbls)
 .show v.keep b o (u.keep b o q n c a) (λz=>?_) (g q a);let z||z:=hf b z
  .grind
  .grind
 .let(j,f):=u.slot b o q n c a;let(d,e):=v.slot b _ f (g q a);show(d,e)
 .let(i,f):=u.there b o q a;let(d,e):=v.slot b _ f (g q a);show(_,e)
def Un.gone(u:Un fs ex H0 H h0 h)(n:h.get? b=gV):b∈ex\/h0.get? b=gV:=by
 cases q:h0.get? b with
 |none=>show .inr rfl
 |some o=>
  by_cases c:b∈ex
  .show .inl c
  .let(a,e):=u.there b o q c;rw[n]at e;cases e
def Un.gone0(u:Un fs [] H0 H h0 h)(n:h.get? b=gV):h0.get? b=gV:=(u.gone n).resolve_left (by simp)
def ObjOk.is(x:ObjOk P w H h a o):∃ob,h.get? a=bH ob:=by
 cases o with
 |lst xs=>let(_,_,_,_,e):=x;show(_,e)
 |tup xs=>let(_,_,_,b,e,_):=x;show(_,e)
 |dK kvs=>let(_,_,_,_,o,_,_,e,_):=x;show(_,e)
 |dT kvs=>let(_,_,_,_,o,_,_,e,_):=x;show(_,e)
 |set S n=>let(o,_,_,_,e,_):=x;show(_,e)
 |ins C dx fs=>let(_,_,_,e,_):=x;show(_,e)
 |own y=>let(_,e):=x;show(_,e)
 |xd fs=>let(_,(_,_,_,e,_),_):=x;show(_,e)
 |rng lo hi=>let(_,_,_,e):=x;show(_,e)
 |frz b u=>let(e,_):=x;show(_,e)
 |tbl ps=>show(_,x)
 |met f y=>show(_,x)
 |ext φ=>let(_,(_,e),_):=x;show(_,e)
def HOk.gone(x:HOk P w H h)(n:h.get? a=gV):H a=gV:=by
 cases q:H a with
 |none=>rfl
 |some u=>let(b,e):=(x a u q).is;rw[n]at e;cases e
def HOk.lk(x:HOk P w H h)(l:Lk fr ex h h')(hf:∀b∈fr,H b=gV)(he:∀b,ex b->H b=gV):HOk P w H h':=λa o q=>
 (x a o q).stay (λb u c r=>by
  let d:H b≠gV:=by
   let rfl||c:=c
   .simp_all
   .simp_all
  show l.keep b u r (λz=>d (hf b z)) λz=>d (he b z)) (λ_ q=>q) λ_ _ q=>q
structure Fly (N:Addr->Prop) (H:Hp) (fl:Value) (e:Addr) (cls:Value) (h:Heap):Prop where
 at_:∃T,FlyT e cls T fl h/\N T/\H T=gV
 old:N e
 free:H e=gV
def CXx(P:gT)(w:World):CXT:=λouter H s E ev s'=>∃e C H',ev=.ref e/\s'.os=s.os/\iG s'.gens/\Un (frs outer) [] H H' s.heap s'.heap/\HOk P w H' s'.heap/\Fly (λb=>s.heap.get? b=gV) H' .none e (.ref C) s'.heap/\E (.ref C) gV H'
structure TKs (H H':Hp):Prop where
 tup:∀b xs,H b=bH (.tup xs)->H' b=bH (.tup xs)
 frz:∀b o u,H b=bH (.frz o u)->H' b=bH (.frz o u)
def since(H:Hp)(E:XK):XK:=λc d H'=>TKs H H'->E c d H'
structure Outs (X:Cx) (E:XK):Prop where
 xe:∀ev s',wpAny (model X.prog X.w) X.A (jP X.env ev) (λ_ s''=>CXx X.prog X.w X.outer X.H₀ X.s₀ E ev s'') (λe' s''=>CXx X.prog X.w X.outer X.H₀ X.s₀ E e' s'') s'->X.xe ev s'
 stk:X.stack=X.env::X.outer
 frm:X.env.frame=bH X.env.locals
 ex:X.ex=[]
def Outs.of{P:gT}{w:World}{K:Fg}{mg:Str->Option Value}{base:Heap}{N:List Str}{qual:Str}{scope:Scope}{f:Addr}{cd:Value}{A:Around}{outer:List Env}{s:Shared}{H:Hp}{E:XK}:Outs (cxOf (CXx P w) P w K mg base N qual scope f cd A outer s H E) E:=(λ_ _ h=>h,rfl,rfl,rfl)
section
variable{E:XK}{σ:St}
def Outs.frames(O:Outs X E)(I:Inv X pins σ H s):X.A.frames=bH (X.env::X.outer):=by rw[<- O.stk];show I.ok.frames
def Outs.sub(O:Outs X E)(I:Inv X pins σ H s):∀b∈frs (X.env::X.outer),b∈X.fs\/X.s₀.heap.get? b=gV:=λb a=>by
 rw[<- O.stk]at a;let z||z:=bf.mp (I.stkSub b a)
 .rw[z];show .inr (Heap.get?_none_of_le I.ok.above)
 .show .inl z
def Outs.funs(O:Outs X E)(I:Inv X pins σ H s):s.heap.FunFrames X.base (X.env::X.outer):=by rw[<- O.stk];show I.stack
def Outs.free(O:Outs X E)(I:Inv X pins σ H s):∀b∈frs (X.env::X.outer),H b=gV:=by rw[<- O.stk];show I.stkFree
def Outs.base(O:Outs X E)(I:Inv X pins σ H s):Un X.fs [] X.H₀ H X.s₀.heap s.heap:=by let:=I.base;rw[O.ex]at this;show this
def Outs.fin(O:Outs X E)(I:Inv X pins σ H s){e C T:Addr}{ex:Addr->Prop}{h':Heap}(k:Lk (frs (X.env::X.outer)) ex s.heap h')(f:FlyT e (.ref C) T .none h')(hx:∀b,ex b->X.s₀.heap.get? b=gV/\H b=gV)(he:ex e)(hT:ex T\/s.heap.objs.size<=T)(q:since X.H₀ E (.ref C) gV H) :
  CXx X.prog X.w X.outer X.H₀ X.s₀ E (.ref e) { s with heap:=h' }:=
 (e,C,H,rfl,I.os,I.bare,(O.base I).lk k (O.sub I) (λb hb=>.inr (hx b hb).1),I.hok.lk k (O.free I) λb hb=>(hx b hb).2,((T,f,by
  let z||z:=hT
  .show hx T z
  .show(Heap.get?_none_of_le (bD I.sz z),I.hok.fresh z)),(hx e he).1,(hx e he).2),q (I.base.tups,I.base.frzs))
def b1d(O:Outs X E)(I:Inv X pins σ H s)(hm:Heap.MadeExcOf s.heap h' e (.ref C) vs)(q:since X.H₀ E (.ref C) gV H):X.xe (.ref e) { s with heap:=h' }:=by
 let(t,d,g,_):=hm.there;let a:Inv X pins σ H { s with heap:=h' }:=I.kept hm.keeps;show O.xe _ _ (b1c (O.frames I) (O.funs a) O.frm d rfl rfl (by simp) λh T l f z=>(O.fin a l f (λb c=>by rw[c];show((O.base I).gone0 hm.new,I.hok.gone hm.new)) rfl (.inr z) q))
def a13(O:Outs X E):a1d (CXx X.prog X.w) X (since X.H₀ E):=by
 intro a σ H s t k I (e,C,o,r,i,c,n,g,((T,f,m,d),old,fe),q);subst r;let h:=I.call' i n g c λ_ z=>nomatch z;show O.xe _ _ (b2O (O.frames I) (O.funs h) O.frm f λv u l p z=>?_);show O.fin h l p (λb j=>?_) (.inl rfl) (by
  let z||z:=z
  .simp_all
  .show .inr z) q
 let rfl||rfl:=j
 .show((O.base I).gone0 old,fe)
 .show((O.base I).gone0 m,d)
end
def ExC(X:Cx)(E:XK)(C:Addr)(s:Shared)(H:Hp)(fp:List Addr)(ev:Value)(s':Shared):Prop:=
 ∃e Cl H',ev=.ref e/\s'.os=s.os/\iG s'.gens/\Un (frs X.stack) fp H H' s.heap s'.heap/\HOk X.prog X.w H' s'.heap/\Fly (λb=>b∈fp\/s.heap.get? b=gV) H' .none e (.ref Cl) s'.heap/\(∃m,s'.heap.Ns C m)/\H' C=gV/\C≠e/\E (.ref Cl) gV H'
def a1Q(X:Cx)(EW:XK)(sc:Scope):Prop:=∀(pins:List (Addr×Obj))(σ:St)(H:Hp)(s:Shared)(C:Addr)(fp:List Addr)(use:Option (Value->Sem Unit))(Fin:Value->Shared->Prop)(acc:Value),Inv X pins σ H s->(∀b∈fp,FpOk X pins H b)->C=s.heap.objs.size ->
 ∀ev s',ExC X EW C s H fp ev s'->jq (model X.prog X.w) X.A (ji sc (a0G X.env sc.names []) C X.env) (λe s''=>ku (model X.prog X.w) X.A X.xe use Fin acc C (.error e) s'') ev s'
def a6F:a1Q X (λ_ _ _=>False) sc:=by
 ext a σ H s C g d c b _ _ _ e f ⟨_,_,_,_,_,_,_,_,_,_,_,_,q⟩;show q.elim
noncomputable def cxC(X:Cx)(EW:XK)(N':List Str)(sc:Scope)(C:Addr)(s:Shared)(H:Hp)(fp:List Addr):Cx:=
 { X with N:=N',s₀:=s,H₀:=H,env:=ji sc (a0G X.env sc.names []) C X.env,outer:=X.stack,stack:=X.stack,ex:=fp,fn:=λ_=>kQ,pn:=[],xe:=ExC X EW C s H fp }
def PIfs(X:Cx)(ifs:List Expr)(t:TT):Prop:=
 ∀(pins:List (Addr×Obj))(s:Shared)(σ:St)(H:Hp)(Q:Bool->Hp->Prop),Inv X pins σ H s->t σ H Q ->
  wpAny (model X.prog X.w) X.A (forIn ifs kz λc r=>if r=kz then do let ok <- isTrue c X.env (eval c X.env);pure (ForInStep.yield ok) else pure (ForInStep.yield r)) (TP X pins σ Q) X.xe s
def tTT:TT:=λ_ H Q=>Q kz H
def b1e:PIfs X [] tTT:=λ_ _ _ H _ I h=>wpAny_tests_nil (H,I,h)
def b1f(h:PT X c t):PIfs X [c] t:=λa s σ H Q I q=>wpAny_tests_one (h a s σ H Q I q)
def LcB(J:It)(cap:List (Option Nat))(g:TG)(tt:TT)(te:TE)(σ:St)(Q:VK)(D:Addr)(H1:Hp):Prop:=
 ∃W:Nat->Nat->List V->Hp->Prop,(∃m,W 0 m [] (upd H1 D (.lst [])))/\∀i m ys H2,W i m ys H2 ->
  (J.stop i H2/\Q (.ref D) H2) \/
  (J.go i H2/\∃N:List V->Hp->Prop,(∀ys' H',N ys' H'->∃m',m'<m/\W (i+1) m' ys' H')/\∀x H',J.yld i H2 x H' ->
   g x (a2w cap σ) H' fun σ2 H3=>a1i (a2w cap σ) σ2/\tt σ2 H3 λb H4=>if b=kz then te σ2 H4 λy H5=>∃zs,H5 D=bH (.lst zs)/\zs.length<gN/\N (zs++[y]) (upd H5 D (.lst (zs++[y]))) else N ys H4)
def tLC(wi:TI)(cap:List (Option Nat))(g:TG)(tt:TT)(te:TE):TE:=fun σ H Q=>wi σ H λJ H1=>∀D,H1 D=gV->LcB J cap g tt te σ Q D H1
structure CFree (X:Cx) (pins:List (Addr×Obj)) (H:Hp) (C:Addr):Prop where
 free:H C=gV
 loc:C≠X.env.locals
 old:X.s₀.heap.objs.size<=C
 cell:∀x c,X.env.cells.lookup x=bH c->c≠C
 pin:∀p∈X.pn++pins,p.1≠C
section
variable{σ:St}{sc:Scope}{C:Addr}{fp:List Addr}{EW:XK}
def a8S(I:Inv X pins σ H s)(ck:CapOk X.N X.env.scope sc N' cap):∀x∈sc.names,x.2=.free->∃c,X.env.cells.lookup x.1=bH c:=λx a b=>
 I.ok.has x.1 (ck.fre x a b)
def a3f(I:Inv X pins σ H s)(ck:CapOk X.N X.env.scope sc N' cap)(h:(a0G X.env sc.names []).lookup x=bH c):X.env.cells.lookup x=bH c:=
 a4h sc.names [] (a8S I ck) (λy c h=>by simp at h) c h
def a8T(env:Env)(x:Str):(ji sc (a0G X.env sc.names []) C env).kindOf x=(sc.names.lookup x).map λk=>if (k==gZ.free&&env.scope.kind==.function&&env.kindOf x==bH .cell)=kz then gZ.cell else k:=
 a3B sc.names
def a1a{l:List (Str×gZ)}(h:l.lookup x=bH k):(x,k,)∈l:=PySem.mem_of_lookup h
def b9a(I:Inv X pins σ H s)(ck:CapOk X.N X.env.scope sc N' cap)(hf:∀b∈fp,FpOk X pins H b)(hlt:∀b∈fp,b<s.heap.objs.size)(hC:C=s.heap.objs.size):(cxC X EW N' sc C s H fp).Ok:=by
 let g:∀{x:Str}{c:Addr},(a0G X.env sc.names []).lookup x=bH c->X.env.cells.lookup x=bH c:=λh=>a3f I ck h;show(I.ok.mod,ck.kind,I.ok.glob,I.ok.blt,by rw[hC];show bd _,λx y c j m=>I.ok.inj x y c (g j) (g m),λx n=>?_,λx c h _=>(by cases h),I.ok.hd,I.ok.frames,.inl rfl,λb a=>(?_,λx c h=>?_),I.bs,bD I.ok.bsz I.sz,λb o e a=>?_,λb a l=>?_,I.stack,I.stkFree)
 .let d:(sc.names.lookup x).map (λk=>if (k==gZ.free&&X.env.scope.kind==.function&&X.env.kindOf x==bH .cell)=kz then gZ.cell else k)=bH .cell \/
    (sc.names.lookup x).map (λk=>if (k==gZ.free&&X.env.scope.kind==.function&&X.env.kindOf x==bH .cell)=kz then gZ.cell else k)=bH .free:=by
   rw[<- a8T X.env x];show n
  cases e:sc.names.lookup x with
  |none=>rw[e]at d;let z||z:=d<;>cases z
  |some k=>
   let i:=a1a e;let f:k=.free:=by
    rw[e]at d
    by_cases f:k=.free
    .grind
    .let a:(k==gZ.free)=kQ:=↑f
     simp only[di,a,bH.injEq]at d;let z||z:=d
     .show absurd z (ck.nocell _ i)
     .simp_all
   subst f;show a3V sc.names [] i
 .change b≠C
  rw[hC];show bt (hlt b a)
 .show (hf b a).2.2.2.2.1 x c (g h)
 .let(_,_,_,z,_):=hf b a;let z||z:=z
  .show I.ok.noex b o e z
  .show absurd (bQ (Heap.lt_size e) (bD I.ok.bsz z)) (cC _)
 .let z||z:=bf.mp (I.stkSub b l)
  .show (hf b a).2.1 z
  .show (hf b a).2.2.1 z
def b6v(I:Inv X pins σ H s)(ck:CapOk X.N X.env.scope sc N' cap)(hf:∀b∈fp,FpOk X pins H b)(hlt:∀b∈fp,b<s.heap.objs.size)(hC:C=s.heap.objs.size)
  (hn:hjv.Ns C kR) (hk:∀b o,s.heap.get? b=bH o->hjv.get? b=bH o):Inv (cxC X EW N' sc C s H fp) [] (a2w cap σ) H { s with heap:=hjv,toks:=t' }:=by
 show(b9a I ck hf hlt hC,rfl,I.bare,Un.kept hk,(kR,hn,λi x v M a S=>?_),λx c h=>?_,?_,λx c h=>I.freeC x c (a3f I ck h),λp D=>absurd (show p∈([]) from D) (by simp),I.hok.kept hk,?_)
 .let A:=M;unfold a2w at a;rw[bo]at a;cases ec:cap[i]? with
  |none=>rw[ec]at a;cases a
  |some o=>
   rw[ec]at a;cases o with
   |none=>simp at a
   |some j=>
    let d:(σ[j]?).join=bH v:=by simp_all
    let l:σ[j]?=bH (bH v):=by
     cases q:σ[j]? with
     |none=>rw[q]at d;cases d
     |some w=>rw[q]at d;rw[show w=bH v from d]
    let(J,n):=ck.cap i x j A ec;let f:=ck.fre _ (a1a n) rfl;let(R,_,L):=I.loc;let(u,Q,B):=L j x v J l (.inr f);show(u,Q,.inr (?_,?_))
    .change (ji sc _ C X.env).kindOf x=bH .cell\/(ji sc _ C X.env).kindOf x=bH .free
     rw[a8T,n];simp only[di,beq_self_eq_true,cw]
     by_cases hc:(X.env.scope.kind==ScopeKind.function&&X.env.kindOf x==bH gZ.cell)=kz
     .simp_all
     .rw[if_neg hc];show .inr rfl
    .let(E,g):=a3V sc.names [] (a1a n);let G:=a3f I ck g;let(k,_)||(_,c,ec',z):=B
     .let F:X.env.scope.names.lookup x=bH .local:=k;let e:=f;rw[F]at e;let q||q:=e<;>cases q
     .rw[G]at ec';cases ec';let(y,r,t):=z;show(E,g,y,hk _ _ r,t)
 .let(v,y,r,t):=I.cell x c (a3f I ck h);show(v,y,hk _ _ r,t)
 .change H C=gV
  rw[hC];show I.hok.fresh (bd _)
 .change (a2w cap σ).length=N'.length
  unfold a2w;rw[a9];show ck.len
def b3T(I:Inv X pins σ H s)(hf:∀b∈fp,FpOk X pins H b)(J:Inv (cxC X EW N' sc C s H fp) pins' σ' H' s'):Inv X pins σ H' s':=
 I.call' J.os J.base J.hok J.bare λb a=>((hf b a).2.2.2.1,(hf b a).2.1,(hf b a).2.2.2.2.1,(hf b a).2.2.2.2.2)
def b1g(I:Inv X pins σ H s)(hC:C=s.heap.objs.size)(J:Inv (cxC X EW N' sc C s H fp) pins' σ' H' s'):CFree X pins H' C:=by
 show(J.free,by rw[hC];show cF I.lt,by rw[hC];show I.sz,λx c e z=>?_,λp a z=>(absurd (Heap.lt_size (I.pin p a).1) (by simp_all)))
 .let(v,q):=I.cell x c e;show absurd q.lt (by simp_all)
def CFree.after(F:CFree X pins H C)(I:Inv X pins σ H s)(k:∀b o,b≠C->s.heap.get? b=bH o->h'.get? b=bH o):Inv X pins σ H { s with heap:=h',toks:=t' }:=
 I.turned k F.free F.loc (.inr F.old) F.cell F.pin
end
section
variable{tg:Expr}{sc:Scope}{wi:TI}{g:TG}{tt:TT}{te:TE}{EW:XK}
def a8U(hc:X.calm=kz)(hE:a1Q X EW sc)(ck:CapOk X.N X.env.scope sc N' cap)(hi:PI X tg iter wi)
    (hg:∀C s H fp,PG (cxC X EW N' sc C s H fp) tg g) (ht:∀C s H fp,PIfs (cxC X EW N' sc C s H fp) ifs tt) (he:∀C s H fp,PE (cxC X EW N' sc C s H fp) elt te)
    (hs:∀x,iJ iter X.env x=pure x) {Fin:Value->Shared->Prop}
 (I:Inv X pins σ H s) (h:tLC wi cap g tt te σ H Q)
    (fin:∀D s' C m H',Inv X pins σ H' s'->Q (.ref D) H'->s'.heap.Ns C m->CFree X pins H' C->ku (model X.prog X.w) X.A X.xe use Fin (.ref D) C (.ok .next) s') :
    wpAny (model X.prog X.w) X.A (comprehension (.ListComp elt [(tg,iter,ifs,0)] sc pos) sc X.env pos' (newList []) kQ (eval iter X.env) use) Fin X.xe s:=by
  show wpAny_comprehension_free rfl hs (a4g (a8S I ck)) ck.kind ck.nms ?_;show thn (hi pins s σ H _ I h) λv s1 h1=>thn h1 λitv j h2=>?_;let(it,f,tn,J,H2,e,I2,T,st2,f2,h2):=h2;subst e;let hD:=I2.hok.fresh (bd _);let(W,(m0,w0),turn):=h2 j.heap.objs.size hD;show iK ?_;let t:=I2.lnew (t':=j.toks) .nil (bR _);generalize hs3:({ j with heap:=j.heap.push { cls:=.type "list",data:=.seq ([]:List Value).toArray } }:Shared)=s3 at t;generalize hH3:upd H2 j.heap.objs.size (.lst [])=H3 at t w0;let ac:∀b∈f,b<j.heap.objs.size:=λb a=>by
    let(o,e,_):=T.obj _ _ st2 b a;show Heap.lt_size e
  let sz3:s3.heap.objs.size=j.heap.objs.size+1:=by rw[<- hs3];show Heap.size_push _ _
  let Y:∀b∈f,b<s3.heap.objs.size:=λb a=>by rw[sz3];show dj (ac b a)
  let B:∀b∈f,FpOk X pins H3 b:=λb a=>by
    show(?_,(f2 b a).2);rw[<- hH3,a0f (bt (ac b a))];show (f2 b a).1
  let st3:tn 0 s3.heap:=T.keep _ _ _ st2 λb _ o e=>by rw[<- hs3];show Heap.get?_push_of_some _ e
  show wpAny_newFunctionEnv ck.nocell (by ext y hy;simp at hy) (λhjv hjj hjq=>?_) ck.kind;let hk:=λb o e=>hjq.extBut b o (bt (Heap.lt_size e)) (Heap.get?_push_of_some _ e);let I4:=b6v (EW:=EW) (t':=s3.toks+([]:List (Str×Value)).length) t ck B Y rfl hjj hk;generalize hs4:({ s3 with heap:=hjv,toks:=s3.toks+([]:List (Str×Value)).length }:Shared)=s4 at I4 ⊢;let st4:tn 0 s4.heap:=T.keep _ _ _ st3 λb _ o e=>by rw[<- hs4];show hk b o e
  let G:∀{k:Hp}{l:List (Addr×Obj)},(∀p∈l,p.1∉f)->(∀b∈f,k b=gV)->∀b∈f,FpOk (cxC X EW N' sc s3.heap.objs.size s3 H3 f) l k b:=λ{k l} E hn b a=>
    (hn b a,bt (Y b a),λz=>by
      let z||z:=bf.mp (t.stkSub b z)
      . show (B b a).2.1 z
      . show (B b a).2.2.1 z,.inl a,λx c e=>(B b a).2.2.2.2.1 x c (a3f t ck e),λp hp' z=>E p hp' (by rw[z];show a))
  let hx:=hE pins σ H3 s3 s3.heap.objs.size f use Fin (.ref j.heap.objs.size) t B rfl;let ab:iy (model X.prog X.w) X.A (.compLoop (.ListComp elt [(tg,iter,ifs,0)] sc pos) 0 (.ref it) (.ref j.heap.objs.size) (ji sc (a0G X.env sc.names []) s3.heap.objs.size X.env))
      (ku (model X.prog X.w) X.A X.xe use Fin (.ref j.heap.objs.size) s3.heap.objs.size) s4:=by
    show a1P (λn s'=>∃i ys σ' k,Inv (cxC X EW N' sc s3.heap.objs.size s3 H3 f) [] σ' k s'/\a1i (a2w cap σ) σ'/\tn i s'.heap/\(∀b∈f,k b=gV)/\W i n ys k) ?_ m0
      (0,[],a2w cap σ,H3,I4,a1z _,st4,λb a=>(B b a).1,w0)
    ext n s5 ⟨i,ys,σ5,H5,I5,k5,st5,fr5,w5⟩;let kk:=a2x k5;let I5:=I5.weak kk.1 kk.2;let(stop,q)||(go,N,hN,step):=turn i n ys H5 w5
    . show thn (T.done (cxC X EW N' sc s3.heap.objs.size s3 H3 f) rfl rfl rfl hc i [] s5 _ H5 _ I5 (G (λp E=>by cases E) fr5) st5 stop) λr s6 Y=>Y.elim λhr I6=>?_
      subst hr;let(m6,n6,_):=I6.loc;show fin _ s6 _ m6 H5 (b3T t B I6) q n6 (b1g t rfl I6)
    . show thn (T.item (cxC X EW N' sc s3.heap.objs.size s3 H3 f) rfl rfl rfl hc i [] s5 _ H5 _ I5 (G (λp E=>by cases E) fr5) st5 go) λr s6 Y=>Y.elim λu Y=>Y.elim λhr h6=>?_
      subst hr;show thn h6 λ_ s7 (x,H7,I7,r7,y7,aa,fr7)=>?_;let I7':=I7.pinned (G (λp E=>by cases E) fr7) (T.obj _ _ aa);let M:∀{σ9:St}{F:Hp}{S:Shared}{L:List V},Inv (cxC X EW N' sc s3.heap.objs.size s3 H3 f) ([]++a6z f s7.heap) σ9 F S->a1i (a2w cap σ) σ9->N L F ->
          ∃m,m<n/\∃i ys σ' k,Inv (cxC X EW N' sc s3.heap.objs.size s3 H3 f) [] σ' k S/\a1i (a2w cap σ) σ'/\tn i S.heap/\(∀b∈f,k b=gV)/\W i m ys k:=λ{σ9 F S L} U k9 n9=>by
        let(m',hm,w9):=hN L F n9;show(m',hm,i+1,L,σ9,F,U.unpinned,k9,T.keep _ _ _ aa λb a o e=>(U.pin (b,o,) (bY _ (bY _ (a1D a e)))).1,λb a=>?_,w9);let(o,e,d):=T.obj _ _ aa b a;show (U.pin (b,o,) (bY _ (bY _ (a1D a e)))).2.1
      show hB (hg _ _ _ _ _ s7 _ H7 x u _ I7' r7 (step x H7 y7)) (λ_ s8 (σ8,H8,I8,k8,q8)=>?_) hx;show hB (ht _ _ _ _ _ s8 σ8 H8 _ I8 q8) (λb S Y=>Y.elim λF Y=>Y.elim λU q9=>?_) hx;cases b with
      |false=>
        show M U k8 q9
      |true=>
        rw[if_pos rfl]at q9 ⊢;show hB (he _ _ _ _ _ S σ8 F _ U q9) (λy s10 (vy,H10,I10,r10,zs,hacc,hsz,q10)=>?_) hx;show hB (a4T (X:=cxC X EW N' sc s3.heap.objs.size s3 H3 f) _ s10 σ8 H10 (.ref j.heap.objs.size) [vy] (.ref j.heap.objs.size) [y] (λ_ k=>N (zs++[vy]) k) I10 rfl (.cons r10 .nil) (_,zs,vy,rfl,rfl,hacc,hsz,q10)) (λ_ s11 (_,H11,I11,_,q11)=>?_) hx;show M I11 k8 q11
  show codeAny_compStart_list ab (T.self _ 0 _ _ _ st4 ab)
def b6w(hc:X.calm=kz)(hE:a1Q X EW sc)(hNN:X.N=Nj)(hso:X.env.scope=so)(ck:capB Nj so sc N' cap=kz)(hi:PI X tg iter wi)
  (hg:∀C s H fp,PG (cxC X EW N' sc C s H fp) tg g) (ht:∀C s H fp,PIfs (cxC X EW N' sc C s H fp) ifs tt) (he:∀C s H fp,PE (cxC X EW N' sc C s H fp) elt te)
  (hs:∀x,iJ iter X.env x=pure x:=by ext _;rfl):PE X (.ListComp elt [(tg,iter,ifs,0)] sc pos) (tLC wi cap g tt te):=by
 ext f s σ H Q I h;subst hNN hso;show a8U hc hE (a8O ck) hi hg ht he hs I h λD d C m i c q k F=>(m,k,λl a=>(.ref D,i,F.after c (λb o j e=>a.extBut b o j e),rfl,q))
def b1h(hN:X.N.Nodup)(hx:X.N[i]?=bH x)(hl:X.env.scope.names.lookup x=bH .local)(hc:X.calm=kz)(hE:a1Q X EW sc)(hNN:X.N=Nj)(hso:X.env.scope=so)(ck:capB Nj so sc N' cap=kz)(hi:PI X tg iter wi)
  (hg:∀C s H fp,PG (cxC X EW N' sc C s H fp) tg g) (ht:∀C s H fp,PIfs (cxC X EW N' sc C s H fp) ifs tt) (he:∀C s H fp,PE (cxC X EW N' sc C s H fp) elt te)
  (hsw:iB (.ListComp elt [(tg,iter,ifs,0)] sc pos) (bH (.Name x pos')) spos.line X.env=pure kz)
  (hs:∀x,iJ iter X.env x=pure x):PS X (.Assign [.Name x pos'] (.ListComp elt [(tg,iter,ifs,0)] sc pos) spos) (tAsg (tLC wi cap g tt te) (a8i i)):=by
 subst hNN hso;ext f s σ H D I h;rw[exec_Assign_Name_used _ _ _ _ hsw];show gJ (j9 (gJ (gJ (hB (a8U hc hE (a8O ck) hi hg ht he hs I h λd c C m w t q E F=>?_) (λ_ c u=>gK (gK u)) λ_ _ e=>e))));show wpAny_assign_Name (a4N t hN hx (.inl hl) (v:=.ref d) rfl (λj n y=>?_) (.inr hl));let(a,p,r):=y;let l:C≠a:=by
  let z||z:=r
  .rw[z];show F.loc
  .show Ne.symm (F.cell _ _ z)
 show(m,E.sameBut p l,λG k=>(_,w,F.after n (λb o B e=>k.extBut b o B e),q))
end
mutual
def DV(H:Hp):PyData->V->Prop
 |.none,x=>x=.non
 |.bool b,x=>x=.bl b
 |.int i,x=>x=.int i
 |.str s,x=>x=.str s
 |.list ds,x=>∃a vs,x=.ref a/\H a=bH (.lst vs)/\DVs H ds vs
 |.tuple ds,x=>∃a vs,x=.ref a/\H a=bH (.tup vs)/\DVs H ds vs
 |.dict _,_=>False
def DVs(H:Hp):List PyData->List V->Prop
 |[],vs=>vs=[]
 |d::ds,vs=>∃v r,vs=v::r/\DV H d v/\DVs H ds r
end
mutual
theorem DV.reads{P:gT}{w:World}{H:Hp}{h:Heap}(ok:HOk P w H h):∀{d:PyData}{x:V}{u:Value},DV H d x->RelV x u->∃as,Reads h u d as
 |.none,x,u,q,r=>by
  unfold DV at q;subst q;cases (show u=Value.none from r);show(_,.none)
 |.bool b,x,u,q,r=>by
  unfold DV at q;subst q;cases (show u=Value.bool b from r);show(_,.bool b)
 |.int i,x,u,q,r=>by
  unfold DV at q;subst q;let(t,e):=(show ∃t,u=Value.int i t from r);subst e;show(_,.int i t)
 |.str s,x,u,q,r=>by
  unfold DV at q;subst q;let(t,e):=(show ∃t,u=Value.str s t from r);subst e;show(_,.str s t)
 |.list ds,x,u,q,r=>by
  unfold DV at q;let(a,vs,e,ha,q):=q;subst e;cases (show u=Value.ref a from r);let(_,its,n,rv,e):=ok a _ ha;let(as,rd):=DVs.reads ok q rv;show(_,.list e rfl rfl ↑rd)
 |.tuple ds,x,u,q,r=>by
  unfold DV at q;let(a,vs,e,ha,q):=q;subst e;cases (show u=Value.ref a from r);let(_,its,rv,o,e,c,n,d):=ok a _ ha;let(as,rd):=DVs.reads ok q rv;show(_,.tuple e c d ↑rd)
 |.dict _,x,u,q,r=>by unfold DV at q;show q.elim
theorem DVs.reads{P:gT}{w:World}{H:Hp}{h:Heap}(ok:HOk P w H h):∀{ds:List PyData}{vs:List V}{us:List Value},DVs H ds vs->Vals vs us->∃as,ReadsAll h us ds as
 |[],vs,us,q,r=>by
  unfold DVs at q;subst q;cases r;show(_,.nil)
 |d::ds,vs,us,q,r=>by
  unfold DVs at q;let(v,rr,e,q1,q2):=q;subst e;cases r with
  |cons r1 r2=>
   let(as,h1):=DV.reads ok q1 r1;let(bs,h2):=DVs.reads ok q2 r2;show(_,.cons h1 h2)
end
def rEqD:R2:=λx y H Q=>∃d e,DV H d x/\DV H e y/\SeqAt.shaped d=kz/\SeqAt.shaped e=kz/\Q (.bl (PyData.eqv d e)) H
def rNeD:R2:=λx y H Q=>∃d e,DV H d x/\DV H e y/\SeqAt.shaped d=kz/\SeqAt.shaped e=kz/\Q (.bl (!PyData.eqv d e)) H
def b6x(hu:X.A.units+66<cLine):OpR X (gX .Eq) rEqD:=by
 ext i s σ H x y v u Q I g k h;let(d,e,b,f,l,a,q):=h;let(m,j):=b.reads I.hok g;let(n,c):=f.reads I.hok k;show eq_dataH j c l a (by lia) (.bl _,H,I,rfl,q)
def b6y(hu:X.A.units+66<cLine):OpR X (gX .NotEq) rNeD:=by
 ext b s σ H x y v u Q I j c h;let(d,e,a,g,l,i,q):=h;let(n,f):=a.reads I.hok j;let(m,k):=g.reads I.hok c;show ne_dataH f k l i (by lia) (.bl _,H,I,rfl,q)
def rInD(neg:Bool):R2:=λx y H Q=>∃d p ds vs,DV H d x/\y=.ref p/\(H p=bH (.lst vs)\/H p=bH (.tup vs))/\DVs H ds vs/\SeqAt.shaped d=kz/\SeqAt.shaped (.list ds)=kz /\
 Q (.bl (if neg then !(ds.any λy=>PyData.eqv y d) else ds.any λy=>PyData.eqv y d)) H
def b6z(hu:X.A.units+66<cLine):OpR X (gX .In) (rInD kQ):=by
 ext r s σ H x y v u Q I z m h;let(d,p,b,j,w,e,a,i,k,t,q):=h;subst e;let(C,f):=w.reads I.hok z;let n:PyData.canLayAll0 b=kz:=by let:=SeqAt.canLay_of_shaped t;simpa[PyData.canLay0]using this
 let g:=SeqAt.canLay_of_shaped k;let o:=SeqAt.depth_of_shaped k;let l:X.A.units+1+min (PyData.depthAll b) d.depth<cLine:=by let:=fM (PyData.depthAll b) d.depth;lia
 let a||a:=a
 .let(B,c):=(show DV H (.list b) _ by unfold DV;show(p,j,rfl,a,i)).reads I.hok m;show SeqAt.in_list_reads c f n g l (.bl _,H,I,rfl,q)
 .let(B,c):=(show DV H (.tuple b) _ by unfold DV;show(p,j,rfl,a,i)).reads I.hok m;show SeqAt.in_tuple_reads c f n g l (.bl _,H,I,rfl,q)
def b6A(_ j:Int):Prop:=0<j/\j<2 ^ 64
def b1i:OpR X (hZ .FloorDiv) (rI b6A λi j=>.int (i / j)):=opI λi j _ _ _ _ _ a q=>by
 let c:(0:Int)<j:=a.1;let d:j<2 ^ 64:=a.2;show floordiv_int (by lia) ?_ (.inl (PyProof.noPylong_of_log2 ?_))
 .rw[Int.fdiv_eq_ediv_of_nonneg i (by lia)];show q
 .let b:j.natAbs<2 ^ 64:=by cbv
  let e:=(Nat.log2_lt (by lia)).mpr b
  lia
def rIsT(K:Fg):List V->Hp->VK->Prop:=λxs H Q=>∃x T t b,xs=[x,.ty T]/\TyOf K H x t/\PySem.W.kitOne K t (.type T)=bH b/\Q (.bl b) H
def b1j:CallR X (.builtin "isinstance") (rIsT X.K):=by
 ext c s σ H j k Q I r h;let(x,T,t,b,rfl,i,e,q):=h;let(u,g,rfl,f,a):=a5K r;cases (a);show a8y I f i e λd=>(.bl b,H,I.tok d,rfl,q)
abbrev veM:List Value:=[.type "ValueError",.type "Exception",.type "BaseException",.type "object"]
set_option tactic.hygienic true in
def b6B{K:Fg}(q:PySem.W.excIn K C veM "ValueError.__new__"=kz):∃bm N nm qn bs hd sn sub ab col dd k0 k1 k2 k3 k5,K.lookup C=bH (excClassObj nm qn C N bs bm hd sn sub ab col dd k0 k1 k2 k3 k5 "ValueError.__new__") /\
  PySem.W.nsOkIn K N=kz/\PySem.W.nsIn K N "__init__"=bH gV/\PySem.W.tailIn K veM bm=kz:=by
 unfold PySem.W.excIn at q
 split at q
 .rename_i dd cd sl ho
  split at q
  .rename_i C2 bm k0 k1 k2 k3 nw k5 hm hs
   simp at q;let(((((p,k),e),g),b),d):=q;subst p k;let(r,h,t,m,o,i,n,a,j,c,s):=cd;subst hm e;let f:sl=#[k0,k1,k2,k3,bH (.builtin "ValueError.__new__"),k5]:=by
    cases sl with
    |mk l=>dsimp only at hs;rw[hs]
   subst f;show(bm,m,r,o,h,i,n,a,j,c,dd,k0,k1,k2,k3,k5,ho,b,d,g)
  .cases q
 .cases q
section
variable{E:XK}
def b1k(O:Outs X E)(hc:X.calm=kz)(hg:Gl X x)(hm:X.mg x=bH (.ref C))(hq:PySem.W.excIn X.K C veM "ValueError.__new__"=kz)(he:PE X e0 te)
  (hs:gQ [e0] X.env=(kQ,eval e0 X.env,)::gQ [] X.env:=by rfl) (hp:(backTo cpos (gQ [] X.env)).any (·.1)=kQ:=by rfl) (hd:(x==("__debug__":Str))=kQ:=by decide) :
  PS X (.Raise (bH (.Call (.Name x np) [e0] [] cpos)) gV pos) (λ_ σ H=>te σ H λ_ H1=>since X.H₀ E (.ref C) gV H1):=by
 ext d s σ H D I h;let(bm,N,nm,qn,bs,k,sn,sub,ab,col,dd,k0,k1,k2,k3,k5,hC,u,z6,z4):=b6B hq;let B:=I.mod.kin;let hN:X.base.Ns N (X.base.nsMap N):=.of_isNs (PySem.W.isNs_of_in B u);let T:=PySem.W.tail_of_in B z4;show wpAny_Raise_call_subT (nm:=nm) (q:=qn) (N:=N) (bs:=bs) (hdct:=k) (sn:=sn) (sub:=sub) (ab:=ab) (col:=col) (dd:=dd) (k0:=k0) (k1:=k1) (k2:=k2) (k3:=k3) (k5:=k5) PySem.F.excBase_ValueError (T.hasType (by decide)) (I.ok.hd hc)
  (by rw[hs];change (kQ||(backTo cpos _).any (·.1))=kQ;rw[hp];rfl) (PySem.W.nsMap_none_of_in B u z6) (a2u I hg hm (rfl,?_) hd)
 rw[hs];show Calls.evalArgs_plain (Calls.spliced_cons (thn (he d s σ H _ I h) λv s2 (y,H2,a,_,q2)=>Calls.spliced_nil (rfl,cf (a0d (fO rfl)),a.bk _ _ (B _ _ hC),hN.keeps a.bk,T.keeps a.bk,λh' e hm=>b1d O a hm q2)))
end
def a4U(h:env.frame=env'.frame):jh e env=jh e env':=by
 unfold jh PySem.frameOf;rw[h]
def a2L{h:Heap}(n:h.Ns a kR)(e:h.get? a=bH o)(d:o.data=.fields vs):False:=by
 let(i,g,f,c,b,_):=n;rw[e]at c;cases c;rw[d]at b;cases b
section
variable{E:XK}
def a8V(O:Outs X E):a1Q X (since X.H₀ E) sc:=by
 ext pins σ H s C fp use Fin acc I g hC ev d ⟨e,Cl,H',e1,os,S,un,hok,⟨⟨T,f,nT,fT⟩,ne,fe⟩,⟨m,hm⟩,fC,_,q⟩;subst e1;let B:=I.call' os un hok S λb a=>((g b a).2.2.2.1,(g b a).2.1,(g b a).2.2.2.2.1,(g b a).2.2.2.2.2);let R:∀b,b∈fp\/s.heap.get? b=gV->X.s₀.heap.get? b=gV:=λb a=>by
  let a||a:=a
  .let z||z:=(g b a).2.2.2.1
   .rw[O.ex]at z;cases z
   .show Heap.get?_none_of_le z
  .show (O.base I).gone0 a
 let oC:X.s₀.heap.get? C=gV:=Heap.get?_none_of_le (by rw[hC];show I.sz);let M:∀b∈frs _,b≠C:=λb a z=>by
  let(_,ob,l,_):=(O.funs I).mem a
  let:=Heap.lt_size l
  rw[z,hC]at this;show cC _ this
 let hx:∀b,(b=e\/b=T)\/b=C->X.s₀.heap.get? b=gV/\H' b=gV:=λb a=>by grind
 let N:∀{h:Heap},h.FunFrames X.base _->∀{b:Addr}{o:Obj}{i:Array Value},h.get? b=bH o->o.data=.fields i->b∉frs (X.env::X.outer):=λ{h} hl {b o i} G c a=>by
  let(_,ob,l,no):=hl.mem a;rw[G]at l;cases l;show no i c
 let(oe,i,Y,V,p,g2,v,W,U,r,F,g8):=f;let eC:e≠C:=λz=>by rw[z]at p;show a2L hm p v
 let TC:T≠C:=λz=>by rw[z]at r;show a2L hm r F
 let ef:=N (O.funs B) p v;let Tf:=N (O.funs B) r F;let hlC:=hm.lt;unfold jq;rw[a4U (show (ji sc _ C X.env).frame=X.env.frame from rfl)];show a8R (O.frames I) (O.funs B) O.frm (oe,i,Y,V,p,g2,v,W,U,r,F,g8) λG j J f1 z1=>?_;let T1C:j≠C:=by
  let z||z:=z1
  .rw[z];show TC
  .show λw=>absurd hlC (by rw[<- w];show Nat.not_lt.mpr z)
 let Q:G.Ns C m:=by
  let(o,es,ep,q1,q2,q3,q4):=hm;show(o,es,ep,J.keep C o q1 (λz=>M C z rfl) (λz=>by
   let z||z:=z
   .show eC z.symm
   .show TC z.symm),q2,q3,q4)
 let D:∀c,Heap.SameBut C G c->∀k:Env,k.locals=C->wpAny (model X.prog X.w) X.A (PySem.passOn "comprehension.variables-let-go" (.ref e) k:Sem Value) (λ_ _=>False) X.xe { d with heap:=c }:=λc y k _=>by
  let f2:FlyT e (.ref Cl) j (rawInt X.env.locals) c:=by
   let(oe,i,Y,V,p,g2,v,W,U,r,F,g8):=f1;show(oe,i,Y,V,(y.2 e eC).trans p,g2,v,W,U,(y.2 j T1C).trans r,F,g8)
  let k2:Lk (frs (X.env::X.outer)) (·=C) G c:=(λb o q _ n=>(y.2 b n).trans q,λb o q n=>(o.slots,(y.2 b n).trans q),dJ y.1.symm);let k12:Lk (frs (X.env::X.outer)) (λb=>(b=e\/b=T)\/b=C) d.heap c:=Lk.trans (λb o q f n=>J.keep b o q f λz=>n (.inl z),λb o q n=>J.slot b o q λz=>n (.inl z),J.size) k2 λx z=>.inl (.inr z);show gJ (f2.field ?_);show gJ (a8Q f2 λh3 k3 f3=>kx ?_);let t:=k12.trans (k3 _) λx z=>by
   let w||w:=z1
   .simp_all
   .show .inr (by rw[z];show w)
  let fl3:=t.funs (λb a z=>by
   let(z||z)||z:=z
   .show ef (z▸a)
   .show Tf (z▸a)
   .show M b a z) (O.funs B)
  show O.xe _ _ (b2O (O.frames I) fl3 O.frm f3 λh4 T4 k4 f4 z4=>?_);let L:((j=e\/j=T)\/j=C)\/d.heap.objs.size<=j:=by
   let w||w:=z1
   .show .inl (.inl (.inr w))
   .show .inr w
  show O.fin B (t.trans k4 λx z=>by
   let z||z:=z
   .show .inl (.inl (.inl z))
   .rw[z];show L) f4 hx (.inl (.inl rfl)) (by
   let z||z:=z4
   .rw[z];show L
   .show .inr (bD t.size z)) q
 cases use with
 |none=>show(m,Q,D)
 |some u=>show(m,Q,D)
end
section
open PySem.Calls PySem.W
structure ExK (K:Frag) (D:Addr):Prop where
 cls:(clsIn K D).isSome=kz
 ga:findIn K (.ref D) "__getattribute__"=bH (bH (.builtin "BaseException.__getattribute__"))
 hk:findIn K (.ref D) "__getattr__"=bH gV
 ha:findIn K (.ref D) "__class__"=bH (bH (.builtin "object.__class__"))
 hn:specialIn K (.builtin "object.__class__") "__get__"=bH (bH (.builtin "getset_descriptor.__get__"))
 tk:takesIn K (.builtin "object.__class__")=bH kz
 hm:mroIn K D (.type "object")=bH kz
 hb:mroIn K D (.type "BaseException")=bH kz
section
variable{K:Frag}{x D:Addr}{ox:Obj}
def ExK.find(k:ExK K D):findObj K D gV "__class__"=bH (.bind (.builtin "getset_descriptor.__get__") (.builtin "object.__class__")):=by
 let(b,a):=er.mp k.cls;unfold findObj;rw[a,fR,k.ha,fR];simp[k.hn,k.tk]
def a4V(k:ExK K D)(X:K.In s.heap)(I:InstAt s.heap x ox D gV)(h:Q () s):wpAny (model prog w) A (jB "BaseException.__getattribute__" ([.ref x,v],[])) Q E s:=by
 let b:builtinKind "BaseException.__getattribute__"=bH .slot:=by decide +kernel
 let a:splitId "BaseException.__getattribute__"=bH ("BaseException","__getattribute__",):=by decide +kernel
 let i:=I.type (M:=model prog w);let j:=looks_mroIn (M:=model prog w) X k.hb;simp only[jB,b,a]
 repeat lk
 show h
def b6C(k:ExK K D)(X:K.In s.heap)(I:InstAt s.heap x ox D gV)(h:Q (.done (.ret (.ref D))) s) :
  wpAny (model prog w) A (gU.«object.__getattribute__» ([.ref x,.str "__class__" tk],[])) Q E s:=by
 let(b,g,d,t,a):=s;let c:=I.type (M:=model prog w);let e:=looks_find (M:=model prog w) X I k.find
 repeat (first |with_reducible show jc ?_ |lk)
 show class_get X I k.hm (gK h)
def a8W(k:ExK K D)(X:K.In s.heap)(I:InstAt s.heap x ox D gV)(h:Q (bH (.ref D)) { s with toks:=s.toks+1 }):wpAny (model prog w) A (getAttr? (.ref x) "__class__") Q E s:=by
 let c:=I.type (M:=model prog w);let a:=looks_findIn (M:=model prog w) X k.ga;let e:=looks_findIn (M:=model prog w) X k.hk;show gJ (wpAny_mkText (gJ (iU (ib (gJ (c.at (gJ (a.at ?_))))))));dsimp only;show gJ (e.at ?_);show gJ (iU (ib ?_));unfold callGetattribute boundAndCalled;rw[if_neg (by simp)];let b:=PySem.F.excAttr_ValueError.ga.bind (.ref x);rw[b];show gJ (gK (jc (kB PySem.F.excAttr_ValueError.ga.plain PySem.F.entry_bexc_ga (a4V k X I (b6C k X I ?_)))));show handed_on rfl (gK h)
theorem a4i(k:ExK K D):KitX K (.ref x) (.ref D) (λh=>InstAt h x ox D gV) where
 ty:=λ_ _ _ I=>I.type
 it:=λ_ _ X _=>by
  let(cd,hc):=er.mp k.cls;unfold clsIn at hc
  split at hc
  .rename_i ho
   ext A' Q' E' s' k q;unfold isType loadHead;show gJ (wpAny_loadPart (k _ _ (X _ _ ho)) (gK q))
  .cases hc
 ne:=λh tp dd its n sl X htp=>by
  let(cd,hc):=er.mp k.cls;show Bool.eq_false_iff.mpr λq=>?_;let e:D=tp:=Value.ref.inj (beq_iff_eq.mp q);subst e;unfold clsIn at hc
  split at hc
  .rename_i ho
   let z:=(X _ _ ho).symm.trans htp;cases z
  .cases hc
 ca:=λX I q=>a8W k X I q
end
end
section
variable{σ σ':St}
def Inv.lk(I:Inv X pins σ H s)(k:Lk (frs X.stack) ex s.heap h')(hx:∀b,ex b->X.s₀.heap.get? b=gV/\H b=gV/\(∀x c,X.env.cells.lookup x=bH c->c≠b)/\∀p∈X.pn++pins,p.1≠b)
  (hl:∃m,h'.Ns X.env.locals m/\∀(i:Nat)(x:Str)(v:V),X.N[i]?=bH x->σ'[i]?=bH (bH v)->Vis X.env.scope x->∃u,RelV v u/\Look X.env h' m x u) (hn:σ'.length=σ.length):Inv X pins σ' H { s with heap:=h',toks:=t' }:=by
 show(I.ok,I.os,I.bare,I.base.lk k (λb a=>?_) (λb a=>.inr (hx b a).1),hl,λx c e=>?_,I.free,I.freeC,λp g=>?_,I.hok.lk k I.stkFree λb a=>(hx b a).2.1,hn.trans I.len)
 .let z||z:=bf.mp (I.stkSub b a)
  .rw[z];show .inr (Heap.get?_none_of_le I.ok.above)
  .simp_all
 .let(v,o,l,n):=I.cell x c e;let(r,d):=k.slot c o l λz=>(hx c z).2.2.1 x c e rfl;show(v,_,d,n)
 .let(d,q,f,h,j):=I.pin p g;show(k.keep _ _ d (λz=>?_) (λz=>(hx _ z).2.2.2 p g rfl),q,f,h,j);let z||z:=bf.mp (I.stkSub _ z)
  .show f z
  .show h z
def Inv.lk0(I:Inv X pins σ H s)(k:Lk (frs X.stack) ex s.heap h')(hx:∀b,ex b->X.s₀.heap.get? b=gV/\H b=gV/\b≠X.env.locals/\(∀x c,X.env.cells.lookup x=bH c->c≠b)/\∀p∈X.pn++pins,p.1≠b):Inv X pins σ H { s with heap:=h' }:=by
 show I.lk k (λb a=>((hx b a).1,(hx b a).2.1,(hx b a).2.2.2)) ?_ rfl;let(m,(o,e,q,B,w,y,h),l):=I.loc;let(j,r):=k.slot _ o B λz=>(hx _ z).2.2.1 rfl;show(m,(_,e,q,r,w,y,h),λi x v d f A=>?_);let(u,t,n):=l i x v d f A;show(u,t,?_);let z||(z1,c,z2,oc,z3,z4):=n
 .show .inl z
 .let(j,g):=k.slot c oc z3 λz=>(hx c z).2.2.2.1 x c z2 rfl;show .inr (z1,c,z2,_,g,z4)
abbrev Cx.hnd(X:Cx)(e:Addr)(oe:Obj):Cx:={ X with A:=X.A.mark (bH (.ref e)),calm:=kQ,pn:=(e,oe,)::X.pn,xe:=λ_ _=>False }
noncomputable def Inv.hnd(I:Inv X pins σ H s)(h1:s.heap.get? e=bH oe)(h2:H e=gV)(h3:e≠X.env.locals)(h4:e∉X.fs)(h5:∀v,oe.data≠.cell v):Inv (X.hnd e oe) pins σ H s:=
 ((I.ok.mod,I.ok.kind,I.ok.glob,I.ok.blt,I.ok.above,I.ok.inj,I.ok.has,I.ok.cab,(λz=>nomatch z),I.ok.frames,I.ok.stk,I.ok.exf,I.ok.bs,I.ok.bsz,I.ok.noex,I.ok.exfs,I.ok.funs,I.ok.frf),I.os,I.bare,I.base,I.loc,I.cell,I.free,I.freeC,(λp a=>by
  let rfl||a:=bf.mp (a)
  .show(h1,h2,h3,h4,h5)
  .show I.pin p a),I.hok,I.len)
def Inv.unhnd(ok:X.Ok)(I:Inv (X.hnd e oe) pins σ H s):Inv X pins σ H s:=(ok,I.os,I.bare,I.base,I.loc,I.cell,I.free,I.freeC,λp a=>I.pin p (cg _ a),I.hok,I.len)
def a14(I:Inv X pins σ H s)(hN:X.N.Nodup)(hi:X.N[i]?=bH n)(hl:X.env.scope.names.lookup n=bH .local)(q:∀s',Inv X pins (σ.set i gV) H s'->Q () s') :
  wpAny M A (do bindName X.env n .none;unbindBehindTheSuite X.env n pos) Q E s:=by
 let(m,w,B):=I.loc;let f:(X.env.scope.kind==.class||(X.env.scope.kind==.module&&X.env.locals != X.env.globals))=kQ:=by rw[I.ok.kind];rfl
 show wpAny_nameGoes_keeps hl w f λJ v g a=>q _ ?_;show I.lk (λb o q _ n=>(a.2 b n).trans q,λb o q n=>(o.slots,(a.2 b n).trans q),dJ a.1.symm) (λb y=>?_) (_,g,λj x r h d l=>?_) (eW ..)
 .rw[y];show(Heap.get?_none_of_le I.ok.above,I.free,I.cne,λp D=>(I.pin p D).2.2.1)
 .by_cases hj:j=i
  .subst hj;rw[dG (by rw[I.len];show (bh.mp hi).1)]at d;cases d
  .rw[dH (Ne.symm hj)]at d;let(u,C,z):=B j x r h d l;show(u,C,?_);let(z1,z2)||(z1,c,z2,oc,z3,z4):=z
   .show .inl (z1,?_)
    change (if x=n then v else m x)=bH u
    rw[if_neg λe=>hj (by
     subst e;let(G,t):=bh.mp h;let(F,k):=bh.mp hi;show (fK hN).mp (t.trans k.symm))]
    show z2
   .show .inr (z1,c,z2,oc,(a.2 c (I.cne x c z2)).trans z3,z4)
def PX(X:Cx)(e:Expr)(t:XK->TE):Prop:=∀(pins:List (Addr×Obj))(s:Shared)(σ:St)(H:Hp)(Q:VK)(E:XK),Inv X pins σ H s->t E σ H Q ->
 wpAny (model X.prog X.w) X.A (eval e X.env) (EP X pins σ Q) (λev s'=>∃H1 s1,Inv X pins σ H1 s1/\CXx X.prog X.w X.stack H1 s1 E ev s') s
end
section
variable{k:Nat}{f:Addr}{fd:ik}{ps:List Str}{sp:Sp}{x:Str}{p:Pos}{e:Expr}{t:TA}
def b3U(F:FnOk X.prog X.w X.K X.mg X.base (CXx X.prog X.w) k f fd ps sp)(hr:Room k X.A)(hg:Gl X x)(hm:X.mg x=bH (.ref f))(hk:PySem.W.keepIn X.K (.ref f)=kz)(hb:Binds X.K fd ps [])
  (ha:PA X.nox (e::es) t) (hdb:(x==("__debug__":Str))=kQ:=by decide) (he:gQ (e::es) X.env=(kQ,eval e X.env,)::gQ es X.env:=by rfl) (hpl:(backTo pos (gQ es X.env)).any (·.1)=kQ:=by rfl) :
  PX X (.Call (.Name x p) (e::es) [] pos) (λE=>b6i sp [] E t):=by
 ext d s σ H Q E I h;show jy (a2u I hg hm ?_ hdb);show PySem.W.callWith_K I.ok.mod.kin hk (hB (ha pos d s σ H _ (I.wish _) h) (λc i (j,g,a,r,q)=>(a.kIn,?_)) λ_ _ z=>bj z) he hpl;let a:=a.unwish;let q:sp _ g Q E:=q;rw[bM]at q;let l:c.length=ps.length:=by rw[<- r.length];show F.len _ _ _ _ q
 show jc (iP (F.run X.A X.stack i g (c,[]) c j Q E hr a.env0 ↑(hb i c a.kIn (by simp_all)) r q) λr m b=>?_);cases r with
 |error e=>show(g,i,a,b)
 |ok fl=>
  cases fl with
  |ret u=>show a.after b
  |next=>show bj b
  |brk=>show bj b
  |cont=>show bj b
end
abbrev a8X(c:Addr)(q:Str):HO:=.ext λh=>h.CodeRec (.ref c) q
def TabO(H:Hp)(p:Pos)(q:Str)(ps:Array Value):Prop:=ps=#[]\/∃c oc,ps=#[rawInt p.line,rawInt p.col,.ref c]/\H c=bH (.frz oc (a8X c q))
def Tab(H:Hp)(P:Addr)(p:Pos)(q:Str):Prop:=∃ps,H P=bH (.tbl ps)/\TabO H p q ps
def Tab.stay(f:∀b o c,H b=bH (.frz o (a8X c q))->H' b=bH (.frz o (a8X c q)))(e:H' kR=H kR)(h:Tab H kR p q):Tab H' kR p q:=by
 let(a,g,h):=h;show(a,e.trans g,?_);let h||(c,oc,h,k):=h
 .show .inl h
 .show .inr (c,oc,h,f _ _ _ k)
inductive Z where
 |non |bl (b:Bool) |int (i:Int) |str (x:Str) |ref (a:Addr) |ty (n:String) |scr (a:Addr) (ns:List Int)
 |tup (ws:List Z)
mutual
def eqZ:Z->Z->Bool
 |.non,.non=>kz
 |.bl a,.bl b=>a==b
 |.int a,.int b=>decide (a=b)
 |.str a,.str b=>decide (a=b)
 |.ref a,.ref b=>decide (a=b)
 |.ty a,.ty b=>decide (a=b)
 |.scr a ns,.scr b ms=>decide (a=b)&&decide (ns=ms)
 |.tup a,.tup b=>eqZs a b
 |_,_=>kQ
def eqZs:List Z->List Z->Bool
 |[],[]=>kz
 |a::as,b::bs=>eqZ a b&&eqZs as bs
 |_,_=>kQ
end
def a3D{p:Prop}(h:kQ=kz):p:=absurd h bT
mutual
theorem a5Q:∀x y:Z,eqZ x y=kz↔x=y
 |.tup a,y=>by
  cases y with
  |tup b=>show(λh=>congrArg _ ((a26 a b).mp h),λh=>(a26 a b).mpr (by cases h;rfl))
  |_=>show(λh=>a3D h,λh=>by cases h)
 |.non,y=>by
  cases y with
  |non=>show(λ_=>rfl,λ_=>rfl)
  |_=>show(λh=>a3D h,λh=>by cases h)
 |.bl a,y=>by
  cases y with
  |bl b=>show(λh=>congrArg _ (eq_of_beq h),λh=>by cases h;show beq_self_eq_true a)
  |_=>show(λh=>a3D h,λh=>by cases h)
 |.int a,y=>by
  cases y with
  |int b=>show(λh=>congrArg _ (of_decide_eq_true h),λh=>by cases h;show decide_eq_true rfl)
  |_=>show(λh=>a3D h,λh=>by cases h)
 |.str a,y=>by
  cases y with
  |str b=>show(λh=>congrArg _ (of_decide_eq_true h),λh=>by cases h;show decide_eq_true rfl)
  |_=>show(λh=>a3D h,λh=>by cases h)
 |.ref a,y=>by
  cases y with
  |ref b=>show(λh=>congrArg _ (of_decide_eq_true h),λh=>by cases h;show decide_eq_true rfl)
  |_=>show(λh=>a3D h,λh=>by cases h)
 |.ty a,y=>by
  cases y with
  |ty b=>show(λh=>congrArg _ (of_decide_eq_true h),λh=>by cases h;show decide_eq_true rfl)
  |_=>show(λh=>a3D h,λh=>by cases h)
 |.scr a ns,y=>by
  cases y with
  |scr b ms=>show(λh=>by
    let h:=eu.mp h;rw[of_decide_eq_true h.1,of_decide_eq_true h.2],λh=>by cases h;show eu.mpr (decide_eq_true rfl,decide_eq_true rfl))
  |_=>show(λh=>a3D h,λh=>by cases h)
theorem a26:∀x y:List Z,eqZs x y=kz↔x=y
 |[],y=>by
  cases y with
  |nil=>show(λ_=>rfl,λ_=>rfl)
  |cons b bs=>show(λh=>a3D h,λh=>by cases h)
 |a::as,y=>by
  cases y with
  |nil=>show(λh=>a3D h,λh=>by cases h)
  |cons b bs=>show(λh=>by
    let h:=eu.mp h;rw[(a5Q a b).mp h.1,(a26 as bs).mp h.2],λh=>by cases h;show eu.mpr ((a5Q a a).mpr rfl,(a26 as as).mpr rfl))
end
instance:DecidableEq Z:=λx y=>decidable_of_iff _ (a5Q x y)
section
variable{K:Fg}{H1 H2:Hp}{a p:Addr}{xs:List V}
def Fz(K:Fg)(H:Hp)(a:Addr)(xs:List V):Prop:=
 (∃o,H a=bH (.frz o (.lst xs)))\/∃(o:Obj)(its:Array Value)(n:Nat),K.lookup a=bH o/\o.cls=.type "list"/\o.dict=gV/\o.data=.seq its n/\its.size<=gN/\Vals xs its.toList
def Fz.sq(h:Fz K H a xs):SqL K H a xs:=by
 let(o,h)||h:=h
 .show .inl (.inr (o,h))
 .show .inr h
def Fz.of(hO:Only H)(h:SqL K H a xs):Fz K H a xs:=by
 let(h||h)||h:=h
 .let z||(o,ys,z):=hO a
  .grind
  .simp_all
 .show .inl h
 .show .inr h
structure TW (K:Fg) (H H':Hp):Prop where
 tup:∀a xs,H a=bH (.tup xs)->H' a=bH (.tup xs)
 frz:∀a xs,Fz K H a xs->Fz K H' a xs
structure TK (K:Fg) (H H':Hp):Prop where
 tup:∀a xs,H a=bH (.tup xs)->H' a=bH (.tup xs)
 frz:∀a xs,Fz K H a xs->Fz K H' a xs
 frd:∀a o u,H a=bH (.frz o u)->H' a=bH (.frz o u)
def TK.refl(K:Fg)(H:Hp):TK K H H:=(λ_ _ h=>h,λ_ _ h=>h,λ_ _ _ h=>h)
def TK.trans(a:TK K H H1)(b:TK K H1 H2):TK K H H2:=(λc d h=>b.tup c d (a.tup c d h),λc d h=>b.frz c d (a.frz c d h),λc o u h=>b.frd c o u (a.frd c o u h))
noncomputable def TK.upd(h:∀xs,H p≠bH (.tup xs))(h2:∀o u,H p≠bH (.frz o u)):TK K H (L2.upd H p o):=by
 show(λc b e=>?_,λc b e=>?_,λc a u e=>by rw[a0f (by ext rfl;show h2 _ _ e)];show e)
 .rw[a0f (by ext rfl;show h _ e)];show e
 .let(a,e)||e:=e
  .show .inl (a,by rw[a0f (by ext rfl;show h2 _ _ e)];show e)
  .show .inr e
def TK.new(h:H p=gV):TK K H (L2.upd H p o):=.upd (λa e=>by rw[h]at e;cases e) (λo u e=>by rw[h]at e;cases e)
def TK.lst{o:HO}(h:H p=bH (.lst xs)):TK K H (L2.upd H p o):=by simp_all[upd]
def TK.dK{o:HO}{kvs:List (Key×V)}(h:H p=bH (.dK kvs)):TK K H (L2.upd H p o):=by simp_all[upd]
def TK.ins{o:HO}{C dx:Addr}{fs:List (Str×V)}(h:H p=bH (.ins C dx fs)):TK K H (L2.upd H p o):=by simp_all[upd]
end
mutual
def Rep(K:Fg)(H:Hp):Z->V->Prop
 |.non,v=>v=.non
 |.bl b,v=>v=.bl b
 |.int i,v=>v=.int i
 |.str x,v=>v=.str x
 |.ref a,v=>v=.ref a
 |.ty n,v=>v=.ty n
 |.scr a ns,v=>v=.ref a/\Fz K H a (ns.map V.int)
 |.tup ws,v=>∃a vs,v=.ref a/\H a=bH (.tup vs)/\Reps K H ws vs
def Reps(K:Fg)(H:Hp):List Z->List V->Prop
 |[],vs=>vs=[]
 |w::ws,vs=>∃v r,vs=v::r/\Rep K H w v/\Reps K H ws r
end
section
variable{K:Fg}
def a0z:Rep K H .non v=(v=.non):=by unfold Rep;rfl
def a0t:Rep K H (.bl b) v=(v=.bl b):=by unfold Rep;rfl
def a0l:Rep K H (.int i) v=(v=.int i):=by unfold Rep;rfl
def a0u:Rep K H (.str x) v=(v=.str x):=by unfold Rep;rfl
def a0s:Rep K H (.ref a) v=(v=.ref a):=by unfold Rep;rfl
def a6G:Rep K H (.ty n) v=(v=.ty n):=by unfold Rep;rfl
def a2y:Rep K H (.scr a ns) v=(v=.ref a/\Fz K H a (ns.map V.int)):=by unfold Rep;rfl
def a03:Rep K H (.tup ws) v=(∃a vs,v=.ref a/\H a=bH (.tup vs)/\Reps K H ws vs):=by conv=>lhs;unfold Rep
def a0n:Reps K H [] vs=(vs=[]):=by unfold Reps;rfl
def a0T:Reps K H (kR::ws) vs=(∃v r,vs=v::r/\Rep K H kR v/\Reps K H ws r):=by conv=>lhs;unfold Reps
mutual
theorem Rep.monoW(t:TW K H H'):∀(w:Z)(v:V),Rep K H w v->Rep K H' w v
 |.tup ws,v,h=>by
  rw[a03]at h ⊢;let(a,vs,e,h,r):=h;show(a,vs,e,t.tup _ _ h,Reps.monoW t ws vs r)
 |.scr a ns,v,h=>by
  rw[a2y]at h ⊢;show(h.1,t.frz _ _ h.2)
 |.non,v,h=>by rw[a0z]at h ⊢;show h
 |.bl _,v,h=>by rw[a0t]at h ⊢;show h
 |.int _,v,h=>by rw[a0l]at h ⊢;show h
 |.str _,v,h=>by rw[a0u]at h ⊢;show h
 |.ref _,v,h=>by rw[a0s]at h ⊢;show h
 |.ty _,v,h=>by rw[a6G]at h ⊢;show h
theorem Reps.monoW(t:TW K H H'):∀(ws:List Z)(vs:List V),Reps K H ws vs->Reps K H' ws vs
 |[],vs,h=>by rw[a0n]at h ⊢;show h
 |w::ws,vs,h=>by
  rw[a0T]at h ⊢;let(v,r,e,h1,h2):=h;show(v,r,e,Rep.monoW t w v h1,Reps.monoW t ws r h2)
end
def Rep.mono(t:TK K H H')(w:Z)(v:V)(h:Rep K H w v):Rep K H' w v:=Rep.monoW (t.tup,t.frz) w v h
def Reps.mono(t:TK K H H')(ws:List Z)(vs:List V)(h:Reps K H ws vs):Reps K H' ws vs:=Reps.monoW (t.tup,t.frz) ws vs h
def Reps.cons{w:Z}{v:V}{ws:List Z}{vs:List V}(a:Rep K H w v)(b:Reps K H ws vs):Reps K H (w::ws) (v::vs):=by rw[a0T];show(v,vs,rfl,a,b)
def Reps.nil:Reps K H [] []:=by rw[a0n]
def Reps.length:∀{ws:List Z}{vs:List V},Reps K H ws vs->ws.length=vs.length:=by ext z0;induction z0 with
 |nil=>ext vs h;rw[a0n]at h;rw[h];rfl
 |cons w ws I0=>
  ext vs h;let(v,r,e,_,a):=h;rw[e,bv,bv,I0 a]
def Reps.get:∀{ws:List Z}{vs:List V}{i:Nat}{w:Z},Reps K H ws vs->ws[i]?=bH w->∃v,vs[i]?=bH v/\Rep K H w v:=by ext z0;induction z0 with
 |nil=>ext _ _ _ _ e;simp at e
 |cons w ws I0=>
  ext vs i x h e;let(v,r,rfl,b,a):=h;cases i with
  |zero=>simp at e;subst e;show(v,rfl,b)
  |succ i=>o_head I0 a (by simp_all)
def Reps.tog{i:Nat}(h:Reps K H ws vs)(e:vs[i]?=bH v):∃w,ws[i]?=bH w/\Rep K H w v:=by
 let c:=h.length;let a:i<ws.length:=by grind
 let(d,b,r):=h.get (bn a);rw[e]at b;cases b;show(_,bn a,r)
def Reps.append:∀{ws ws':List Z}{vs vs':List V},Reps K H ws vs->Reps K H ws' vs'->Reps K H (ws++ws') (vs++vs'):=by ext z0;induction z0 with
 |nil=>ext _ vs _ h h';rw[a0n]at h;subst h;show h'
 |cons w ws I0=>
  ext _ vs _ h h';let(v,r,rfl,a,b):=h;show .cons a (I0 b h')
theorem Reps.drop:∀{ws:List Z}{vs:List V}(n:Nat),Reps K H ws vs->Reps K H (ws.drop n) (vs.drop n)
 |[],vs,n,h=>by rw[a0n]at h;subst h;o_head Reps.nil
 |w::ws,vs,0,h=>h
 |w::ws,vs,n+1,h=>by
  let(v,r,rfl,b,a):=h;show Reps.drop n a
theorem Reps.take:∀{ws:List Z}{vs:List V}(n:Nat),Reps K H ws vs->Reps K H (ws.take n) (vs.take n)
 |[],vs,n,h=>by rw[a0n]at h;subst h;o_head Reps.nil
 |w::ws,vs,0,h=>↑Reps.nil
 |w::ws,vs,n+1,h=>by
  let(v,r,rfl,a,b):=h;show .cons a (Reps.take n b)
def Reps.set(r:Rep K H kR v):∀{ws:List Z}{vs:List V}(i:Nat),Reps K H ws vs->Reps K H (ws.set i kR) (vs.set i v):=by ext z0;induction z0 with
 |nil=>ext vs i h;rw[a0n]at h;subst h;o_head Reps.nil
 |cons x ws I0=>
  ext vs i h;let(y,s,rfl,b,a):=h;cases i with
  |zero=>show .cons r a
  |succ i=>show .cons b (I0 i a)
def Reps.reverse:∀{ws:List Z}{vs:List V},Reps K H ws vs->Reps K H ws.reverse vs.reverse:=by ext z0;induction z0 with
 |nil=>ext vs h;rw[a0n]at h;subst h;show Reps.nil
 |cons x ws I0=>
  ext vs h;let(y,s,rfl,b,a):=h;rw[dM,dM];show (I0 a).append (.cons b .nil)
def a4W:∀{ns:List Int}{vs:List V},Reps K H (ns.map Z.int) vs->vs=ns.map V.int:=by ext z0;induction z0 with
 |nil=>ext vs h;rw[bN,a0n]at h;subst h;rfl
 |cons n ns I0=>
  ext vs h;let(v,r,rfl,a,b):=h;rw[a,I0 b];rfl
def a15:∀(ns:List Int),Reps K H (ns.map Z.int) (ns.map V.int):=by ext z0;induction z0 with
 |nil=>show Reps.nil
 |cons n ns I0=>show .cons (by rw[a0l]) (I0)
def Reps.one(h:Reps K H [kR] vs):∃v,vs=[v]/\Rep K H kR v:=by
 let(v,r,rfl,b,a):=h;show(v,by rw[a],b)
def Reps.two(h:Reps K H [kR,w'] vs):∃v v',vs=[v,v']/\Rep K H kR v/\Rep K H w' v':=by
 let(v,r,rfl,c,a):=h;let(d,rfl,b):=a.one;show(v,d,rfl,c,b)
end
inductive O where
 |lst (ws:List Z)
 |dK (kvs:List (Key×Z))
 |ins (C dx:Addr) (fs:List (Str×Z))
 |dF (kvs:List (Key×Z))
 |dT (ks:List (List Key))
 |tab (p:Pos) (q:Str)
abbrev Hq:=Addr->Option O
noncomputable def put(G:Hq)(a:Addr)(o:O):Hq:=λb=>if b=a then bH o else G b
def a0a:put G a o a=bH o:=by unfold put;rw[if_pos rfl]
def a0h(h:b≠a):put G a o b=G b:=by unfold put;rw[if_neg h]
def a1A:put (put G a o) a u=put G a u:=by
 funext b;unfold put;split<;>rfl
def a0i{G:Hq}(h:G a=bH o)(h':G b=gV):a≠b:=by
 ext e;subst e;rw[h]at h';cases h'
def a0b(h:G b=bH u)(n:G a=gV):put G a o b=bH u:=(a0h (a0i h n))▸h
def ROb(K:Fg)(H:Hp)(a:Addr):O->Prop
 |.lst ws=>∃vs,H a=bH (.lst vs)/\Reps K H ws vs
 |.dK kvs=>∃us,H a=bH (.dK us)/\us.map (·.1)=kvs.map (·.1)/\Reps K H (kvs.map (·.2)) (us.map (·.2))
 |.ins C dx fs=>∃gs,H a=bH (.ins C dx gs)/\gs.map (·.1)=fs.map (·.1)/\Reps K H (fs.map (·.2)) (gs.map (·.2))
 |.dF kvs=>∃o us,H a=bH (.frz o (.dK us))/\us.map (·.1)=kvs.map (·.1)/\Reps K H (kvs.map (·.2)) (us.map (·.2))
 |.dT ks=>∃us,H a=bH (.dT us)/\us.map (·.1)=ks
 |.tab p q=>Tab H a p q
def RH(K:Fg)(G:Hq)(H:Hp):Prop:=∀a o,G a=bH o->ROb K H a o
section
variable{K:Fg}{G:Hq}{a p:Addr}{o:O}{u:HO}
def ROb.some(h:ROb K H a o):∃u,H a=bH u:=by
 cases o with
 |lst ws=>let(b,e,_):=h;show(_,e)
 |dK kvs=>let(b,e,_):=h;show(_,e)
 |ins C dx fs=>let(b,e,_):=h;show(_,e)
 |dF kvs=>let(d,b,e,_):=h;show(_,e)
 |dT ks=>let(b,e,_):=h;show(_,e)
 |tab p q=>let(c,e,_):=h;show(_,e)
def ROb.stay(t:TK K H H')(e:H' a=H a)(h:ROb K H a o):ROb K H' a o:=by
 cases o with
 |lst ws=>let(d,q,r):=h;show(d,e.trans q,r.mono t)
 |dK kvs=>let(d,q,n,r):=h;show(d,e.trans q,n,r.mono t)
 |ins C dx fs=>let(d,q,n,r):=h;show(d,e.trans q,n,r.mono t)
 |dF kvs=>let(f,d,q,n,r):=h;show(f,d,e.trans q,n,r.mono t)
 |dT ks=>let(d,q,n):=h;show(d,e.trans q,n)
 |tab p q=>show Tab.stay (λb o c k=>t.frd b o _ k) e h
def RH.out(h:RH K G H)(e:H a=gV):G a=gV:=by
 cases q:G a with
 |none=>rfl
 |some o=>let(u,z):=(h a o q).some;rw[e]at z;cases z
def RH.hid(h:RH K G H)(e:H p=gV):RH K G (upd H p u):=λb o q=>
 (h b o q).stay (.new e) (a0f (by ext rfl;let(u,z):=(h _ o q).some;rw[e]at z;cases z))
def RH.set(h:RH K G H)(t:TK K H (upd H p u))(n:ROb K (upd H p u) p o):RH K (put G p o) (upd H p u):=λb a q=>by
 by_cases hb:b=p
 .subst hb;rw[a0a]at q;cases q;show n
 .rw[a0h hb]at q;show (h b a q).stay t (a0f hb)
end
abbrev S3:=List (Option Z)
abbrev K3:=Z->Hq->Prop
abbrev C3:=S3->Hq->Prop
abbrev E3:=S3->Hq->K3->Prop
abbrev T3:=S3->Hq->(Bool->Hq->Prop)->Prop
abbrev A3:=S3->Hq->(List Z->Hq->Prop)->Prop
abbrev X3:=C3->K3->C3->C3->S3->Hq->Prop
def ROp(K:Fg)(H:Hp)(ow:Option Z)(ov:Option V):Prop:=∀w,ow=bH w->∃v,ov=bH v/\Rep K H w v
def RSt(K:Fg)(H:Hp):S3->L2.St->Prop:=Paired (ROp K H)
section
variable{K:Fg}
def RSt.mono(t:TK K H H'):∀{σ:S3}{τ:L2.St},RSt K H σ τ->RSt K H' σ τ:=by ext z0 y0 x0;induction x0 with
 |nil=>show .nil
 |cons r s I0=>show .cons (λw e=>by let(v,q,h):=r w e;show(v,q,h.mono t)) (I0)
theorem RSt.get:∀{σ:S3}{τ:L2.St}{i:Nat}{w:Z},RSt K H σ τ->σ[i]?=bH (bH w)->∃v,τ[i]?=bH (bH v)/\Rep K H w v
 |_,_,_,_,.nil,e=>by simp at e
 |_,_,0,w,.cons r _,e=>by
  let(v,q,h):=r w ↑e;show(v,by rw[q];rfl,h)
 |_,_,i+1,w,.cons _ s,e=>by
  let(v,q,h):=RSt.get s ↑e;show(v,↑q,h)
theorem RSt.set(r:Rep K H kR v):∀{σ:S3}{τ:L2.St}(i:Nat),RSt K H σ τ->RSt K H (σ.set i (bH kR)) (τ.set i (bH v))
 |_,_,_,.nil=>.nil
 |_,_,0,.cons _ s=>.cons (λ_ e=>by cases e;show(v,rfl,r)) s
 |_,_,i+1,.cons q s=>.cons q (RSt.set r i s)
def RSt.length(h:RSt K H σ τ):σ.length=τ.length:=Paired.length h
def RSt.nones:∀n:Nat,RSt K H (eq n gV) (eq n gV):=by ext z0;induction z0 with
 |zero=>show .nil
 |succ n I0=>show .cons (λ_ e=>nomatch e) (I0)
def RSt.app:∀{σ σ':S3}{τ τ':L2.St},RSt K H σ τ->RSt K H σ' τ'->RSt K H (σ++σ') (τ++τ'):=by ext z0 y0 x0 w0 v0;induction v0 with
 |nil=>ext h;show h
 |cons r s I0=>ext h;show .cons r (I0 h)
def RSt.ofVals:∀{ws:List Z}{vs:List V},Reps K H ws vs->RSt K H (ws.map bH) (vs.map bH):=by ext z0;induction z0 with
 |nil=>ext vs h;rw[a0n]at h;subst h;show .nil
 |cons w ws I0=>
  ext vs h;let(v,r,rfl,b,a):=h;show .cons (λ_ e=>by cases e;show(v,rfl,b)) (I0 a)
end
noncomputable def a1L(N:List Str)(ws:List Z):S3:=ws.map bH++eq (N.length-ws.length) gV
noncomputable def RSt.start{K:Fg}(h:Reps K H ws vs):RSt K H (a1L N ws) (L2.start N vs):=by
 unfold a1L L2.start;rw[h.length];show (RSt.ofVals h).app (RSt.nones _)
def UpV(K:Fg)(H:Hp)(R:K3)(Q:VK):Prop:=∀w G v H',R w G->Rep K H' w v->RH K G H'->TK K H H'->Q v H'
def UpB(K:Fg)(H:Hp)(R:Bool->Hq->Prop)(Q:Bool->Hp->Prop):Prop:=∀b G H',R b G->RH K G H'->TK K H H'->Q b H'
def UpA(K:Fg)(H:Hp)(R:List Z->Hq->Prop)(Q:List V->Hp->Prop):Prop:=∀ws G vs H',R ws G->Reps K H' ws vs->RH K G H'->TK K H H'->Q vs H'
def UpS(K:Fg)(H:Hp)(R:C3)(Q:L2.St->Hp->Prop):Prop:=∀σ G τ H',R σ G->RSt K H' σ τ->RH K G H'->TK K H H'->Q τ H'
section
variable{K:Fg}
def UpV.mono(h:UpV K H R Q)(t:TK K H H'):UpV K H' R Q:=λw G v b q r g a=>h w G v b q r g (t.trans a)
def UpB.mono(h:UpB K H R Q)(t:TK K H H'):UpB K H' R Q:=λw G b q g a=>h w G b q g (t.trans a)
def UpA.mono(h:UpA K H R Q)(t:TK K H H'):UpA K H' R Q:=λw G v b q r g a=>h w G v b q r g (t.trans a)
def UpS.mono(h:UpS K H R Q)(t:TK K H H'):UpS K H' R Q:=λw G v b q r g a=>h w G v b q r g (t.trans a)
end
def low(K:Fg)(t:E3):TE:=fun τ H Q=>∃σ G R,RSt K H σ τ/\RH K G H/\t σ G R/\UpV K H R Q
def low.un{K:Fg}{C:Prop}(z:low K t τ H Q)(f:∀σ G R,(RSt K H σ τ)->(RH K G H)->(t σ G R)->(UpV K H R Q)->C):C:=by let(σ,G,R,d,b,c,a):=z;show f _ _ _ d b c a
def lowT(K:Fg)(t:T3):TT:=fun τ H Q=>∃σ G R,RSt K H σ τ/\RH K G H/\t σ G R/\UpB K H R Q
def lowT.un{K:Fg}{C:Prop}(z:lowT K t τ H Q)(f:∀σ G R,(RSt K H σ τ)->(RH K G H)->(t σ G R)->(UpB K H R Q)->C):C:=by let(σ,G,R,b,a,d,c):=z;show f _ _ _ b a d c
def lowA(K:Fg)(t:A3):TA:=fun τ H Q=>∃σ G R,RSt K H σ τ/\RH K G H/\t σ G R/\UpA K H R Q
def lowA.un{K:Fg}{C:Prop}(z:lowA K t τ H Q)(f:∀σ G R,(RSt K H σ τ)->(RH K G H)->(t σ G R)->(UpA K H R Q)->C):C:=by let(σ,G,R,d,b,c,a):=z;show f _ _ _ d b c a
def lowS(K:Fg)(t:X3):TS:=λD τ H=>∃σ G nx rt bk ct,RSt K H σ τ/\RH K G H/\t nx rt bk ct σ G/\UpS K H nx D.nx/\UpV K H rt D.rt/\UpS K H bk D.bk/\UpS K H ct D.ct
def lowS.un{K:Fg}{C:Prop}(z:lowS K t D τ H)(f:∀σ G nx rt bk ct,(RSt K H σ τ)->(RH K G H)->(t nx rt bk ct σ G)->(UpS K H nx D.nx)->(UpV K H rt D.rt)->(UpS K H bk D.bk)->(UpS K H ct D.ct)->C):C:=by let(σ,G,k,j,l,i,h,a,g,b,c,d,e):=z;show f _ _ _ _ _ _ h a g b c d e
structure QE (X:Cx) (e:Expr) (t:E3):Prop where
 p:PE X e (low X.K t)
structure QT (X:Cx) (e:Expr) (t:T3):Prop where
 p:PT X e (lowT X.K t)
structure QW (X:Cx) (e:Expr) (t:T3):Prop where
 p:PW X e (lowT X.K t)
structure QA (X:Cx) (es:List Expr) (t:A3):Prop where
 p:PA X es (lowA X.K t)
structure QS (X:Cx) (st:Stmt) (t:X3):Prop where
 p:PS X st (lowS X.K t)
structure QSs (X:Cx) (st:List Stmt) (t:X3):Prop where
 p:PSs X st (lowS X.K t)
def QW.qt(h:QW X e t):QT X e t:=⟨PW.pt h.p⟩
section
variable{e:Expr}{st:Stmt}{sts:List Stmt}
def a0J(h:PE X e t')(i:∀σ H Q,t σ H Q->t' σ H Q):PE X e t:=λa s σ H Q I q=>h a s σ H Q I (i σ H Q q)
def a8Y(h:PT X e t')(i:∀σ H Q,t σ H Q->t' σ H Q):PT X e t:=λa s σ H Q I q=>h a s σ H Q I (i σ H Q q)
def b6D(h:PW X e t')(i:∀σ H Q,t σ H Q->t' σ H Q):PW X e t:=λw a s σ H Q I q=>h w a s σ H Q I (i σ H Q q)
def b6E(h:PA X es t')(i:∀σ H Q,t σ H Q->t' σ H Q):PA X es t:=λb a s σ H Q I q=>h b a s σ H Q I (i σ H Q q)
def a1t(h:PS X st t')(i:∀D σ H,t D σ H->t' D σ H):PS X st t:=λa s σ H D I q=>h a s σ H D I (i D σ H q)
def a8Z(h:PSs X sts t')(i:∀D σ H,t D σ H->t' D σ H):PSs X sts t:=λa s σ H D I q=>h a s σ H D I (i D σ H q)
end
abbrev R3:=Z->Z->Hq->K3->Prop
def low2(K:Fg)(r:R3):R2:=λx y H Q=>∃a b G R,Rep K H a x/\Rep K H b y/\RH K G H/\r a b G R/\UpV K H R Q
def low2.un{K:Fg}{C:Prop}(z:low2 K r x kR H Q)(f:∀a b G R,(Rep K H a x)->(Rep K H b kR)->(RH K G H)->(r a b G R)->(UpV K H R Q)->C):C:=by let(a,b,G,R,e,h,g,c,d):=z;show f _ _ _ _ e h g c d
def low1(K:Fg)(r:Z->Hq->K3->Prop):V->Hp->VK->Prop:=λx H Q=>∃a G R,Rep K H a x/\RH K G H/\r a G R/\UpV K H R Q
def low1.un{K:Fg}{C:Prop}(z:low1 K r x H Q)(f:∀a G R,(Rep K H a x)->(RH K G H)->(r a G R)->(UpV K H R Q)->C):C:=by let(a,G,R,c,e,d,b):=z;show f _ _ _ c e d b
def lowC(K:Fg)(r:List Z->Hq->K3->Prop):List V->Hp->VK->Prop:=λxs H Q=>∃ws G R,Reps K H ws xs/\RH K G H/\r ws G R/\UpV K H R Q
def lowC.un{K:Fg}{C:Prop}(z:lowC K r xs H Q)(f:∀ws G R,(Reps K H ws xs)->(RH K G H)->(r ws G R)->(UpV K H R Q)->C):C:=by let(e,G,R,b,d,c,a):=z;show f _ _ _ b d c a
def lowM(K:Fg)(r:Z->List Z->Hq->K3->Prop):V->List V->Hp->VK->Prop:=λx xs H Q=>∃w ws G R,Rep K H w x/\Reps K H ws xs/\RH K G H/\r w ws G R/\UpV K H R Q
def lowM.un{K:Fg}{C:Prop}(z:lowM K r x xs H Q)(f:∀w ws G R,(Rep K H w x)->(Reps K H ws xs)->(RH K G H)->(r w ws G R)->(UpV K H R Q)->C):C:=by let(w,g,G,R,a,d,e,b,c):=z;show f _ _ _ _ a d e b c
def OpQ(X:Cx)(f:Value->Value->Sem Value)(r:R3):Prop:=OpR X f (low2 X.K r)
def UnQ(X:Cx)(f:Value->Sem Value)(r:Z->Hq->K3->Prop):Prop:=UnR X f (low1 X.K r)
def a1R(X:Cx)(f:Value)(r:List Z->Hq->K3->Prop):Prop:=CallR X f (lowC X.K r)
def IxQ(X:Cx)(r:R3):Prop:=IxR X (low2 X.K r)
def MtQ(X:Cx)(id:String)(r:Z->List Z->Hq->K3->Prop):Prop:=MtR X id (lowM X.K r)
def a3g(h:OpR X f r')(i:∀x y H Q,r x y H Q->r' x y H Q):OpR X f r:=λa s σ H x y v u Q I c b q=>h a s σ H x y v u Q I c b (i x y H Q q)
def b9b(h:UnR X f r')(i:∀x H Q,r x H Q->r' x H Q):UnR X f r:=λa s σ H x v Q I b q=>h a s σ H x v Q I b (i x H Q q)
def a1j(h:CallR X f r')(i:∀xs H Q,r xs H Q->r' xs H Q):CallR X f r:=λa s σ H b d Q I c q=>h a s σ H b d Q I c (i b H Q q)
def b9c(h:IxR X r')(i:∀x y H Q,r x y H Q->r' x y H Q):IxR X r:=λa b c s σ H x y v u Q I e d q=>h a b c s σ H x y v u Q I e d (i x y H Q q)
def a7E{id:String}(h:MtR X id r')(i:∀x xs H Q,r x xs H Q->r' x xs H Q):MtR X id r:=λa s σ H x b v e Q I d c q=>h a s σ H x b v e Q I d c (i x b H Q q)
def uVar(i:Nat):E3:=fun σ G R=>∃w,σ[i]?=bH (bH w)/\R w G
def uC(w:Z):E3:=λ_ G R=>R w G
section
variable{e a b c:Expr}{ta tb tc:E3}
def b6F(h:PE X e (tVar i)):QE X e (uVar i):=⟨a0J h fun τ H Q (σ,G,R,c,b,(w,e,q),d)=>by
 let(v,a,r):=c.get e;show(v,a,d w G v H q r b (.refl _ _))⟩
def a5R(h:PE X e (tC v))(hr:∀H,Rep X.K H kR v):QE X e (uC kR):=⟨a0J h fun τ H Q b=>b.un fun σ G R d a q c=>c kR G v H q (hr H) a (.refl _ _)⟩
def a80:QE X (.Constant (.int i) j pos) (uC (.int i)):=a5R b5K λ_=>by rw[a0l]
def q_bl{b j pos}:QE X (.Constant (.bool b) j pos) (uC (.bl b)):=a5R b8O λ_=>by rw[a0t]
def b9d:QE X (.Constant .none j pos) (uC .non):=a5R b5L λ_=>by rw[a0z]
def b6G:QE X (.Constant (.str x) j pos) (uC (.str x)):=a5R b5M λ_=>by rw[a0u]
def b2P(h:PE X e (tC (.int i))):QE X e (uC (.int i)):=a5R h λ_=>by rw[a0l]
def q_ty(h:PE X e (tC (.ty n))):QE X e (uC (.ty n)):=a5R h λ_=>by rw[a6G]
def uOp(r:R3)(ta tb:E3):E3:=fun σ G R=>ta σ G λx G1=>tb σ G1 λy G2=>r x y G2 R
def uUn(r:Z->Hq->K3->Prop)(ta:E3):E3:=fun σ G R=>ta σ G λx G1=>r x G1 R
def a6H{K:Fg}(h:low K (uOp r ta tb) τ H Q):tOp (low2 K r) (low K ta) (low K tb) τ H Q:=by
 let(σ,G,R,f,k,h,o):=h;show(σ,G,_,f,k,h,λw m v p l i b e=>?_);show(σ,m,_,f.mono e,b,l,λn g q s j d c a=>?_);show(w,n,g,R,i.mono a,d,c,j,o.mono (e.trans a))
def b6H{K:Fg}(h:low K (uUn r ta) τ H Q):tUn (low1 K r) (low K ta) τ H Q:=by
 let(σ,G,R,d,f,h,c):=h;show(σ,G,_,d,f,h,λw e v j g b a i=>(w,e,R,b,a,g,c.mono i))
def q_op(ho:OpQ X (hZ op) r)(ha:QE X a ta)(hb:QE X b tb):QE X (.BinOp a op b pos) (uOp r ta tb):=⟨a0J (b56 ho ha.p hb.p) λ_ _ _=>a6H⟩
def q_un(ho:UnQ X (jN op) r)(ha:QE X a ta):QE X (.UnaryOp op a pos) (uUn r ta):=⟨a0J (b8Y ho ha.p) λ_ _ _=>b6H⟩
def b6I(ho:OpQ X (gX op) r)(ha:QE X a ta)(hb:QE X b tb)(hm:i8 op b=kQ):QE X (.Compare a [op] [b] pos) (uOp r ta tb):=⟨a0J (b3F ho ha.p hb.p hm) λ_ _ _=>a6H⟩
def a81(t:E3):T3:=fun σ G R=>t σ G λx G1=>∃k,x=.bl k/\R k G1
def a4j{K:Fg}(h:lowT K (a81 ta) τ H Q):low K ta τ H λx H'=>∃k,x=.bl k/\Q k H':=by
 let(σ,G,R,g,f,h,i):=h;show(σ,G,_,g,f,h,λw l v j (k,e,c) a b d=>?_);subst e;show(k,a,i _ _ _ c b d)
def a82(ho:OpQ X (gX op) r)(ha:QE X a ta)(hb:QE X b tb)(hm:i8 op b=kQ):QT X (.Compare a [op] [b] pos) (a81 (uOp r ta tb)):=⟨a8Y (b3G ho ha.p hb.p hm) λ_ _ _ h=>a6H (a4j h)⟩
def a6I(r r':R3)(ta tb tc:E3):E3:=fun σ G R=>ta σ G λx G1=>tb σ G1 λy G2=>r x y G2 λz G3=>∃k,z=.bl k/\(if k=kz then tc σ G3 λw G4=>r' y w G4 R else R (.bl kQ) G3)
def a4X{K:Fg}(h:low K (a6I r r' ta tb tc) τ H Q):a8s (low2 K r) (low2 K r') (low K ta) (low K tb) (low K tc) τ H Q:=by
 let(σ,G,R,g,F,h,p):=h;show(σ,G,_,g,F,h,λw A v N q B l a=>?_);show(σ,A,_,g.mono a,l,q,λm y T L s e j b=>?_);show(w,m,y,_,B.mono b,e,j,s,λz x M S (k,t,f) o d c=>?_);subst t;show(k,o,?_);cases k with
 |false=>show p _ _ _ _ ↑f (by rw[a0t]) d ((a.trans b).trans c)
 |true=>
  show(σ,x,_,g.mono ((a.trans b).trans c),d,f,λC E J I D u n i=>?_);show(m,C,E,R,e.mono (c.trans i),u,n,D,p.mono (((a.trans b).trans c).trans i))
def b3V(ho:OpQ X (gX op) r)(ho':OpQ X (gX op') r')(ha:QE X a ta)(hb:QE X b tb)(hc:QE X c tc)
  (hm:jO [op,op'] [b,c]=kQ:=by with_unfolding_all rfl):QE X (.Compare a [op,op'] [b,c] pos) (a6I r r' ta tb tc):=⟨a0J (b0W ho ho' ha.p hb.p hc.p hm) λ_ _ _=>a4X⟩
def b1l(ho:OpQ X (gX op) r)(ho':OpQ X (gX op') r')(ha:QE X a ta)(hb:QE X b tb)(hc:QE X c tc)
  (hm:jO [op,op'] [b,c]=kQ:=by with_unfolding_all rfl):QT X (.Compare a [op,op'] [b,c] pos) (a81 (a6I r r' ta tb tc)):=⟨a8Y (b0X ho ho' ha.p hb.p hc.p hm) λ_ _ _ h=>a4X (a4j h)⟩
def uAnd(t u:T3):T3:=fun σ G R=>t σ G λc G1=>if c=kz then u σ G1 R else R kQ G1
def uOr(t u:T3):T3:=fun σ G R=>t σ G λc G1=>if c=kz then R kz G1 else u σ G1 R
def uNot(t:T3):T3:=fun σ G R=>t σ G λc G1=>R (!c) G1
variable{t u:T3}{rest:List Expr}
def b6J(ha:QT X a t):QW X (.BoolOp .And [a] pos) t:=⟨b3v ha.p⟩
def b1m(ha:QT X a t):QW X (.BoolOp .Or [a] pos) t:=⟨b5O ha.p⟩
def b9e(ha:QT X a t)(hb:QW X (.BoolOp .And (b::rest) pos) u):QW X (.BoolOp .And (a::b::rest) pos) (uAnd t u):=⟨b6D (b5P ha.p hb.p) fun τ H Q l=>l.un fun σ G R f j h g=>by
 show(σ,G,_,f,j,h,λk i m d c e=>?_);cases k with
 |false=>show g _ _ _ (by simp_all) c e
 |true=>rw[if_pos rfl]at d ⊢;show(σ,i,R,f.mono e,c,d,g.mono e)⟩
def q_or(ha:QT X a t)(hb:QW X (.BoolOp .Or (b::rest) pos) u):QW X (.BoolOp .Or (a::b::rest) pos) (uOr t u):=⟨b6D (b8P ha.p hb.p) fun τ H Q l=>l.un fun σ G R f j h g=>by
 show(σ,G,_,f,j,h,λk i m e c d=>?_);cases k with
 |true=>show g _ _ _ (by simp_all) c d
 |false=>rw[if_neg (by simp)]at e ⊢;show(σ,i,R,f.mono d,c,e,g.mono d)⟩
def a4Y(ha:QT X a t):QT X (.UnaryOp .Not a pos) (uNot t):=⟨a8Y (b5Q ha.p) fun τ H Q g=>g.un fun σ G R d f h i=>
 (σ,G,_,d,f,h,λk j l e b c=>i _ _ _ e b c)⟩
def b6K(ta tb:E3):E3:=fun σ G R=>ta σ G λx G1=>∃c,x=.bl c/\if c=kz then tb σ G1 R else R (.bl kQ) G1
def uOrV(ta tb:E3):E3:=fun σ G R=>ta σ G λx G1=>∃c,x=.bl c/\if c=kz then R (.bl kz) G1 else tb σ G1 R
def b6L(ta:E3):E3:=fun σ G R=>ta σ G λx G1=>∃c,x=.bl c/\R (.bl (!c)) G1
def b6M(h:QE X a ta):QE X (.BoolOp op [a] pos) ta:=⟨b5R h.p⟩
def b2Q(ha:QE X a ta)(hb:QE X (.BoolOp .And (b::rest) pos) tb):QE X (.BoolOp .And (a::b::rest) pos) (b6K ta tb):=⟨a0J (b5S ha.p hb.p) fun τ H Q l=>l.un fun σ G R g j h i=>by
 show(σ,G,_,g,j,h,λx n v o (k,m,e) f c d=>?_);subst m;show(k,f,?_);cases k with
 |false=>show i _ _ _ _ ↑e (by rw[a0t]) c d
 |true=>rw[if_pos rfl]at e ⊢;show(σ,n,R,g.mono d,c,e,i.mono d)⟩
def b9f(ha:QE X a ta)(hb:QE X (.BoolOp .Or (b::rest) pos) tb):QE X (.BoolOp .Or (a::b::rest) pos) (uOrV ta tb):=⟨a0J (b8S ha.p hb.p) fun τ H Q m=>m.un fun σ G R g n h i=>by
 show(σ,G,_,g,n,h,λx j v o (k,l,d) f c e=>?_);subst l;show(k,f,?_);cases k with
 |true=>show i _ _ _ _ ↑d (by rw[a0t]) c e
 |false=>rw[if_neg (by simp)]at d ⊢;show(σ,j,R,g.mono e,c,d,i.mono e)⟩
def b9g(ha:QE X a ta):QE X (.UnaryOp .Not a pos) (b6L ta):=⟨a0J (b5T ha.p) fun τ H Q f=>f.un fun σ G R g d h j=>by
 show(σ,G,_,g,d,h,λx m v n (k,e,i) b c l=>?_);subst e;show(k,b,j _ _ _ _ i (by rw[a0t]) c l)⟩
def uIf(t:T3)(ta tb:E3):E3:=fun σ G R=>t σ G λc G1=>if c=kz then ta σ G1 R else tb σ G1 R
def q_if(hc:QT X c t)(ha:QE X a ta)(hb:QE X b tb):QE X (.IfExp c a b pos) (uIf t ta tb):=⟨a0J (b0R hc.p ha.p hb.p) fun τ H Q l=>l.un fun σ G R g m h j=>by
 show(σ,G,_,g,m,h,λk i n e f d=>?_);cases k with
 |true=>rw[if_pos rfl]at e ⊢;show(σ,i,R,g.mono d,f,e,j.mono d)
 |false=>rw[if_neg (by simp)]at e ⊢;show(σ,i,R,g.mono d,f,e,j.mono d)⟩
def tru:Z->Hq->(Bool->Hq->Prop)->Prop
 |.non,G,R=>R kQ G
 |.bl b,G,R=>R b G
 |.int i,G,R=>R (i != 0) G
 |.str y,G,R=>y.length<=gN/\R ((y.length:Int) != 0) G
 |.tup ws,G,R=>R (!ws.isEmpty) G
 |.scr _ ns,G,R=>R (!ns.isEmpty) G
 |.ref p,G,R=>(∃ws,G p=bH (.lst ws)/\R (!ws.isEmpty) G)\/∃kvs,G p=bH (.dK kvs)/\R (!kvs.isEmpty) G
 |.ty _,_,_=>False
def uTru(ta:E3):T3:=fun σ G R=>ta σ G λx G1=>tru x G1 R
def a1k{α β:Type}{a:List α}{b:List β}(h:a.length=b.length):a.isEmpty=b.isEmpty:=by
 cases a<;>cases b<;>simp_all
def b3W{K:Fg}(h:tru kR G R)(r:Rep K H kR v)(hg:RH K G H)(up:UpB K H R Q):∃k,TruV K v H k/\Q k H:=by
 cases kR with
 |non=>rw[a0z]at r;subst r;show(_,rfl,up _ _ _ h hg (.refl _ _))
 |bl b=>rw[a0t]at r;subst r;show(_,rfl,up _ _ _ h hg (.refl _ _))
 |int i=>rw[a0l]at r;subst r;show(_,rfl,up _ _ _ h hg (.refl _ _))
 |str y=>rw[a0u]at r;subst r;show(_,(h.1,rfl),up _ _ _ h.2 hg (.refl _ _))
 |ty n=>show bj h
 |scr a ns=>rw[a2y]at r;let(rfl,f):=r;show(!ns.isEmpty,.inl (_,f.sq,by rw[a1k (a9 ..).symm]),up _ _ _ h hg (.refl _ _))
 |tup ws=>
  let(a,d,rfl,e,c):=r;show(!ws.isEmpty,.inr (.inl (d,SqT.of e,by rw[a1k c.length])),up _ _ _ h hg (.refl _ _))
 |ref p=>
  subst r;let(ws,e,h)||(kvs,e,h):=h
  .let(d,g,c):=hg p _ e;show(_,.inl (d,SqL.of g,by rw[<- a1k c.length]),up _ _ _ h hg (.refl _ _))
  .let(j,g,l,c):=hg p _ e;show(_,.inr (.inr (j,g,by rw[a1k (show kvs.length=j.length by rw[<- a9,c.length,a9])])),up _ _ _ h hg (.refl _ _))
def b6N(ha:QE X a ta)(he:∀whole,isTrue a X.env whole=(do let v <- whole;iH a.pos;ig [v] (truthy v))):QT X a (uTru ta):=⟨a8Y (b0Y ha.p he) fun τ H Q i=>i.un fun σ G R d f h j=>
 (σ,G,_,d,f,h,λw k v l e g b c=>b3W e g b (j.mono c))⟩
def a7F(ha:QE X a ta)(he:∀whole,isTrue a X.env whole=(do let v <- whole;iH a.pos;ig [v] (truthy v)):=by ext _;rfl):QT X a (a81 ta):=⟨a8Y (b5N ha.p he) λ_ _ _ h=>a4j h⟩
end
section
variable{env:Env}
def b2R:(backTo pos (gQ [] env)).any (·.1)=kQ:=rfl
def b3X(h:gQ (e::es) env=(kQ,eval e env,)::gQ es env)(r:(backTo pos (gQ es env)).any (·.1)=kQ):(backTo pos (gQ (e::es) env)).any (·.1)=kQ:=by
 rw[h]
 change (kQ||(backTo pos _).any _)=kQ
 rw[r];rfl
end
section
variable{e a b:Expr}{p2:Pos}{te ta tb:E3}{t:A3}
def q_ix(hr:IxQ X r)(ha:QE X a ta)(hb:QE X b tb)(hs:a8G b):QE X (.Subscript a b pos) (uOp r ta tb):=⟨a0J (b86 hr ha.p hb.p hs) λ_ _ _=>a6H⟩
abbrev O3:=S3->Hq->(Option Int->Hq->Prop)->Prop
def a83:O3:=λ_ G R=>R gV G
def b6O(t:E3):O3:=fun σ G R=>t σ G λx G1=>∃i,x=.int i/\R (bH i) G1
def lowO(K:Fg)(t:O3):TO:=fun τ H Q=>∃σ G R,RSt K H σ τ/\RH K G H/\t σ G R/\∀o G' H',R o G'->RH K G' H'->TK K H H'->Q o H'
def lowO.un{K:Fg}{t:O3}{C:Prop}(z:lowO K t τ H Q)(f:∀σ G R,(RSt K H σ τ)->(RH K G H)->(t σ G R)->(∀o G' H',R o G'->RH K G' H'->TK K H H'->Q o H')->C):C:=by let(σ,G,R,d,b,c,a):=z;show f _ _ _ d b c a
def QO(X:Cx)(e:Option Expr)(t:O3):Prop:=PO X e (lowO X.K t)
def b1n:QO X gV a83:=by ext a s τ H Q I ⟨σ,G,R,d,c,h,b⟩;show b3M a s τ H Q I (b _ _ _ h c (.refl _ _))
def b6P(h:QE X e te):QO X (bH e) (b6O te):=by ext a s τ H Q I ⟨σ,G,R,f,k,q,l⟩;show b3N h.p a s τ H Q I (σ,G,_,f,k,q,by
 ext w n v m ⟨i,g,d⟩ b c j;subst g;show(i,b,l _ _ _ d c j))
abbrev L3r:=Z->Option Int->Option Int->Hq->K3->Prop
def lowL(K:Fg)(r:L3r):V->Option Int->Option Int->Hp->VK->Prop:=λx lo hi H Q=>∃w G R,Rep K H w x/\RH K G H/\r w lo hi G R/\UpV K H R Q
def lowL.un{K:Fg}{lo hi:Option Int}{C:Prop}(z:lowL K r x lo hi H Q)(f:∀w G R,(Rep K H w x)->(RH K G H)->(r w lo hi G R)->(UpV K H R Q)->C):C:=by let(w,G,R,a,d,b,c):=z;show f _ _ _ a d b c
def SlQ(X:Cx)(r:L3r):Prop:=SlR X (lowL X.K r)
def b9h(h:SlR X r')(i:∀x lo hi H Q,r x lo hi H Q->r' x lo hi H Q):SlR X r:=λa s σ H x v l b j f d Q I c e g k q=>h a s σ H x v l b j f d Q I c e g k (i _ _ _ _ _ q)
def uSl(r:L3r)(te:E3)(tl th:O3):E3:=fun σ G R=>te σ G λx G1=>tl σ G1 λl G2=>th σ G2 λu G3=>r x l u G3 R
def b3Y{lo hi:Option Expr}(hr:SlQ X r)(he:QE X e te)(hl:QO X lo tl)(hu:QO X hi th):QE X (.Subscript e (.Slice lo hi gV p2) pos) (uSl r te tl th):=⟨a0J (b05 hr he.p hl hu) fun τ H Q q=>q.un fun σ G R c k h y=>
 (σ,G,_,c,k,h,λw m v z j t f b=>(σ,m,_,c.mono b,f,j,λl o A s d a=>(σ,o,_,c.mono (b.trans a),d,s,λu x B n i g=>
  (w,x,R,t.mono (a.trans g),i,n,y.mono ((b.trans a).trans g)))))⟩
def uNil:A3:=λ_ G R=>R [] G
def b3Z(ta:E3)(tr:A3):A3:=fun σ G R=>ta σ G λx G1=>tr σ G1 λxs G2=>R (x::xs) G2
def a0x:QA X [] uNil:=⟨b6E a6B fun τ H Q b=>b.un fun σ G R d a h c=>c _ _ _ _ h .nil a (.refl _ _)⟩
def b6Q(ha:QE X e te)(hr:QA X es t)(hs:gQ (e::es) X.env=(kQ,eval e X.env,)::gQ es X.env):QA X (e::es) (b3Z te t):=⟨b6E (a4b ha.p hr.p hs) fun τ H Q i=>i.un fun σ G R hs l h o=>
 (σ,G,_,hs,l,h,λw j v H1 g m f d=>(σ,j,_,hs.mono d,f,g,λws G2 vs H2 n k c b=>o _ _ _ _ n (.cons (m.mono b) k) c (d.trans b)))⟩
def uTup(t:A3):E3:=fun σ G R=>t σ G λxs G1=>xs.length<=gN/\R (.tup xs) G1
def uLst(t:A3):E3:=fun σ G R=>t σ G λxs G1=>xs.length<=gN/\∀p,G1 p=gV->R (.ref p) (put G1 p (.lst xs))
def b1o(h:QA X es t):QE X (.Tuple es x1 pos) (uTup t):=⟨a0J (b6g h.p) fun τ H Q k=>k.un fun σ G R f j h d=>
 (σ,G,_,f,j,h,by ext o m l n ⟨i,g⟩ b c e;show(by rw[<- b.length];show i,λp a=>d _ _ _ _ g (by rw[a03];show(p,l,rfl,a0e,b.mono (.new a))) (c.hid a) (e.trans (.new a))))⟩
def a1b{K:Fg}(r:Reps K H ws vs)(t:TK K H (upd H p (.lst vs))):ROb K (upd H p (.lst vs)) p (.lst ws):=(vs,a0e,r.mono t)
def b9i(h:QA X es t):QE X (.List es pos) (uLst t):=⟨a0J (b6h h.p) fun τ H Q g=>g.un fun σ G R d k h i=>
 (σ,G,_,d,k,h,by ext m l o n ⟨f,e⟩ c b j;show(by rw[<- c.length];show f,λp a=>i _ _ _ _ (e p (b.out a)) (by rw[a0s]) (b.set (.new a) (a1b c (.new a))) (j.trans (.new a))))⟩
def uCB(r:List Z->Hq->K3->Prop)(t:A3):E3:=fun σ G R=>t σ G λws G1=>r ws G1 R
def b2S{K:Fg}(h:low K (uCB r t) τ H Q):tCB (lowC K r) (lowA K t) τ H Q:=by
 let(σ,G,R,e,j,h,i):=h;show(σ,G,_,e,j,h,λc g k l f b a d=>(c,g,R,b,a,f,i.mono d))
variable{x:Str}{p:Pos}{id T:String}{r:List Z->Hq->K3->Prop}
def b30(hc:a1R X (.builtin id) r)(hg:Gl X x)(hm:X.mg x=gV)(hv:ij x=bH (.builtin id))(ha:QA X (e::es) t)(hn:x≠"__name__")(hdb:(x==("__debug__":Str))=kQ)
  (he:gQ (e::es) X.env=(kQ,eval e X.env,)::gQ es X.env) (hpl:(backTo pos (gQ es X.env)).any (·.1)=kQ):QE X (.Call (.Name x p) (e::es) [] pos) (uCB r t):=⟨a0J (a25 hc hg hm hv ha.p hn hdb he hpl) λ_ _ _=>b2S⟩
def b1p(hc:a1R X (.type T) r)(hg:Gl X x)(hm:X.mg x=gV)(hv:ij x=bH (.type T))(ha:QA X (e::es) t)(hn:x≠"__name__")(hdb:(x==("__debug__":Str))=kQ)
  (he:gQ (e::es) X.env=(kQ,eval e X.env,)::gQ es X.env) (hpl:(backTo pos (gQ es X.env)).any (·.1)=kQ):QE X (.Call (.Name x p) (e::es) [] pos) (uCB r t):=⟨a0J (a1y hc hg hm hv ha.p hn hdb he hpl) λ_ _ _=>b2S⟩
def tyZ(T:String)(x:Z)(G:Hq):Prop:=match x with
 |.str _=>T="str"
 |.int _=>T="int"
 |.ref p=>(T="list"/\∃ws,G p=bH (.lst ws))\/(T="dict"/\∃kvs,G p=bH (.dK kvs)\/G p=bH (.dF kvs))
 |.scr _ _=>T="list"
 |_=>False
def b31{K:Fg}(h:tyZ T kR G)(r:Rep K H kR v)(hg:RH K G H):tyV K T v H:=by
 cases kR with
 |str y=>rw[a0u]at r;subst r;show h
 |int y=>rw[a0l]at r;subst r;show h
 |ref q=>
  subst r;let(e,ws,g)||(e,kvs,g):=h
  .let(b,a,_):=hg q _ g;show .inl (e,b,SqL.of a)
  .let g||g:=g
   .let(b,a,_):=hg q _ g;show .inr (.inr (.inl (e,.inl (b,a))))
   .let(c,b,a,_):=hg q _ g;show .inr (.inr (.inl (e,.inr (.inr (c,b,a)))))
 |scr q ns=>rw[a2y]at r;let(rfl,f):=r;show .inl (h,_,f.sq)
 |_=>show bj h
def uBM(T:String)(r:Z->List Z->Hq->K3->Prop)(to:E3)(t:A3):E3:=fun σ G R=>to σ G λx G1=>tyZ T x G1/\t σ G1 λxs G2=>r x xs G2 R
variable{o:Expr}{name:Str}{cpos:Pos}{rm:Z->List Z->Hq->K3->Prop}
def q_bm(pa:PlainAttrs T)(slot:Slot T name id)(hty:typeOf (.builtin id)=pure (.type "method_descriptor"))(hm:MtQ X id rm)(ho:QE X o to)(ha:QA X (e::es) t)
  (hbase:iZ o name X.env (eval o X.env)=eval o X.env:=by rfl)
  (hfew:((backTo cpos (gQ (e::es) X.env)).all (λx=>!x.1)&&(i5 cpos (i6 [] X.env)).all (λx=>x.1.isSome)
   && decide ((e::es).length+([]:List jd).length+(if ([]:List jd).isEmpty then 0 else 1)<30))=kz:=by rfl)
  (hline:(apos.endLine==cpos.line)=kz:=by rfl) (hs:gQ (e::es) X.env=(kQ,eval e X.env,)::gQ es X.env:=by rfl) (hplain:(backTo cpos (gQ es X.env)).any (·.1)=kQ:=by rfl) :
  QE X (.Call (.Attribute o name apos) (e::es) [] cpos) (uBM T rm to t):=⟨a0J (b88 pa slot hty hm ho.p ha.p hbase hfew hline hs hplain) fun τ H Q q=>q.un fun σ G R hs r h u=>
  (σ,G,_,hs,r,h,by ext w j v H1 ⟨m,n⟩ d a g;show(b31 m d a,σ,j,_,hs.mono g,a,n,λs i vs H2 k l f c=>(w,s,i,R,d.mono c,l,f,k,u.mono (g.trans c))))⟩
abbrev P3:=List Z->Hq->K3->Prop
def lowP(K:Fg)(sp:P3):Sp:=λvs H Q _=>lowC K sp vs H Q
def b32(sp:P3)(t:A3):E3:=fun σ G R=>t σ G λws G1=>sp ws G1 R
variable{k:Nat}{f:Addr}{fd:ik}{ps:List Str}{sp:P3}
def b6R(F:FnOk X.prog X.w X.K X.mg X.base CX0 k f fd ps (lowP X.K sp))(hr:Room k X.A)(hg:Gl X x)(hm:X.mg x=bH (.ref f))(hk:PySem.W.keepIn X.K (.ref f)=kz)(hb:Binds X.K fd ps [])(ha:QA X (e::es) t)
  (hdb:(x==("__debug__":Str))=kQ) (he:gQ (e::es) X.env=(kQ,eval e X.env,)::gQ es X.env) (hpl:(backTo pos (gQ es X.env)).any (·.1)=kQ) :
  QE X (.Call (.Name x p) (e::es) [] pos) (b32 sp t):=⟨a0J (a8z F hr hg hm hk hb .nil b3Q ha.p hdb he hpl) fun τ H Q d=>d.un fun σ G R i hg h m=>(σ,G,_,i,hg,h,λc j vs H1 l g b n=>(c,j,R,by rw[bM];show g,b,l,m.mono n))⟩
end
section
variable{e c tg:Expr}{st:Stmt}{rest sa sb:List Stmt}{te:E3}{t u:X3}{tc:T3}
def b33:X3:=λnx _ _ _ σ G=>nx σ G
def uSeq(t u:X3):X3:=λnx rt bk ct σ G=>t (u nx rt bk ct) rt bk ct σ G
def a1S:QSs X [] b33:=⟨a8Z b3w λD τ H a=>a.un fun σ G g e k f d b h c i j l=>c _ _ _ _ h d b (.refl _ _)⟩
def a0c(h1:QS X st t)(h2:QSs X rest u):QSs X (st::rest) (uSeq t u):=⟨a8Z (a6y h1.p h2.p) λD τ H q=>q.un fun σ G k j c e l o h n d b g=>
 (σ,G,_,j,c,e,l,o,h,fun σ' r τ' s m f i a=>(σ',r,k,j,c,e,f,i,m,n.mono a,d.mono a,b.mono a,g.mono a),d,b,g)⟩
def a0A(h1:QS X st t):QSs X [st] t:=⟨b3x h1.p⟩
def uCut(t u:X3):X3:=λnx rt bk ct σ G=>∃M:C3,t M rt bk ct σ G/\∀σ' G',M σ' G'->u nx rt bk ct σ' G'
def a5S(h1:QS X st t)(h2:QSs X rest u):QSs X (st::rest) (uCut t u):=⟨a8Z (a6y h1.p h2.p) λD τ H v=>v.un fun σ G n d j b q m l s g e i=>by
 let(M,h,k):=l;show(σ,G,M,d,j,b,q,m,h,fun σ' o τ' w r f c a=>(σ',o,n,d,j,b,f,c,k _ _ r,s.mono a,g.mono a,e.mono a,i.mono a),g,e,i)⟩
def b6S:X3:=λ_ _ bk _ σ G=>bk σ G
def b6T:X3:=λ_ _ _ ct σ G=>ct σ G
def b6U:QS X (.Pass pos) b33:=⟨a1t b3y λD τ H d=>d.un fun σ G e g i l a b h c k j f=>c _ _ _ _ h a b (.refl _ _)⟩
def b34:QS X (.Break pos) b6S:=⟨a1t b0S λD τ H a=>a.un fun σ G f i e g b d h j l c k=>c _ _ _ _ h b d (.refl _ _)⟩
def b6V:QS X (.Continue pos) b6T:=⟨a1t a5I λD τ H c=>c.un fun σ G e g i l a b h f k j d=>d _ _ _ _ h a b (.refl _ _)⟩
def b6W:X3:=λ_ _ _ _ _ _=>False
def a84:QS X st b6W:=⟨by ext _ _ _ _ _ _ ⟨_,_,_,_,_,_,_,_,h,_⟩;show h.elim⟩
def b6X(te:E3):X3:=λnx _ _ _ σ G=>te σ G λ_ G1=>nx σ G1
def a3h(he:QE X e te)(hs:iB e gV pos.line X.env=pure kQ:=by rfl):QS X (.Expr e pos) (b6X te):=⟨a1t (b3z he.p hs) λD τ H i=>i.un fun σ G nx rt bk ct hs g h f u2 u3 u4=>
 (σ,G,_,hs,g,h,λw G1 v H1 d rv c b=>f _ _ _ _ d (hs.mono b) c b)⟩
def uRet(te:E3):X3:=λ_ rt _ _ σ G=>te σ G rt
def a16(he:QE X e te):QS X (.Return (bH e) pos) (uRet te):=⟨a1t (b5W he.p) λD τ H c=>c.un fun σ G f j k m a b h g d l i=>(σ,G,_,a,b,h,d)⟩
def b9j:X3:=λ_ rt _ _ _ G=>rt .non G
def b6Y:QS X (.Return gV pos) b9j:=⟨a1t b3A λD τ H b=>b.un fun σ G e j d l g a h k c f i=>c _ _ _ _ h (by rw[a0z]) a (.refl _ _)⟩
def uIfS(c:T3)(t u:X3):X3:=λnx rt bk ct σ G=>c σ G λb G1=>if b=kz then t nx rt bk ct σ G1 else u nx rt bk ct σ G1
def z_if(hc:QT X c tc)(ha:QSs X sa t)(hb:QSs X sb u):QS X (.If c sa sb pos) (uIfS tc t u):=⟨a1t (b8W hc.p ha.p hb.p) λD τ H s=>s.un fun σ G l g k m f r h n q j i=>by
 show(σ,G,_,f,r,h,λb o v d e a=>?_);cases b with
 |true=>rw[if_pos rfl]at d ⊢;show(σ,o,l,g,k,m,f.mono a,e,d,n.mono a,q.mono a,j.mono a,i.mono a)
 |false=>rw[if_neg (by simp)]at d ⊢;show(σ,o,l,g,k,m,f.mono a,e,d,n.mono a,q.mono a,j.mono a,i.mono a)⟩
def b6Z(c:T3)(tb:X3):X3:=λnx rt _ _ σ G=>∃I:Nat->S3->Hq->Prop,(∃m,I m σ G)/\∀m σ G,I m σ G ->
 c σ G λb G1=>if b=kz then tb (fun σ' G'=>∃m',m'<m/\I m' σ' G') rt nx (fun σ' G'=>∃m',m'<m/\I m' σ' G') σ G1 else nx σ G1
def a5T(hp:h9 (model X.prog X.w) X.A X.env X.xe)(hc:QT X c tc)(hb:QSs X sb t):QS X (.While c sb [] pos) (b6Z tc t):=⟨a1t (b0U hp hc.p hb.p) λD τ H L=>L.un fun σ G C R Y T F J B v Q W V=>by
 let(I,(y,E),l):=B;show(λm τ' i=>∃σ' G',RSt X.K i σ' τ'/\RH X.K G' i/\TK X.K H i/\I m σ' G',(y,σ,G,F,J,.refl _ _,E),?_);ext m τ' S ⟨σ1,u,g,x,f,M⟩;show(σ1,u,_,g,x,l m σ1 u M,λb z U j k a=>?_);cases b with
 |false=>rw[if_neg (by simp)]at j ⊢;show v _ _ _ _ j (g.mono a) k (f.trans a)
 |true=>
  show(_,fun σ' i h=>h,σ1,z,_,R,C,_,g.mono a,k,j,?_,Q.mono (f.trans a),v.mono (f.trans a),?_)
  .ext σ3 s τ3 N ⟨o,n,r⟩ d e q;show(o,n,σ3,s,d,e,(f.trans a).trans q,r)
  .ext σ3 s τ3 N ⟨o,n,r⟩ d e q;show(o,n,σ3,s,d,e,(f.trans a).trans q,r)⟩
inductive Pt where
 |nm (i:Nat)
 |tp (is:List Nat)
def gsOf:List Nat->TGs
 |[]=>gNil
 |i::is=>b5X (a8i i) (gsOf is)
def gP(K:Fg):Pt->TG
 |.nm i=>a8i i
 |.tp is=>gTup K is.length (gsOf is)
noncomputable def sets:List Nat->List Z->S3->S3
 |i::is,w::ws,σ=>sets is ws (σ.set i (bH w))
 |_,_,σ=>σ
noncomputable def a3i:Pt->Z->S3->Option S3
 |.nm i,w,σ=>bH (σ.set i (bH w))
 |.tp is,.tup ws,σ=>if ws.length=is.length then bH (sets is ws σ) else gV
 |_,_,_=>gV
noncomputable def Pt.slots:Pt->List Nat
 |.nm i=>[i]
 |.tp is=>is
noncomputable def a2U:List Nat->List V->L2.St->L2.St
 |i::is,w::ws,σ=>a2U is ws (σ.set i (bH w))
 |_,_,σ=>σ
theorem a85:∀{is:List Nat}{vs:List V}{τ:L2.St},vs.length=is.length->Q (a2U is vs τ) H->gsOf is vs τ H Q
 |[],[],_,_,q=>(rfl,q)
 |i::is,v::vs,τ,h,q=>(v,vs,rfl,a85 ↑h q)
 |[],_::_,_,h,_=>by simp at h
 |_::_,[],_,h,_=>by simp at h
theorem a4Z{K:Fg}:∀{is:List Nat}{ws:List Z}{vs:List V}{σ:S3}{τ:L2.St},Reps K H ws vs->RSt K H σ τ->RSt K H (sets is ws σ) (a2U is vs τ)
 |[],ws,vs,σ,τ,_,h=>by unfold sets a2U;show h
 |i::is,[],vs,σ,τ,r,h=>by rw[a0n]at r;subst r;show h
 |i::is,w::ws,vs,σ,τ,r,h=>by
  let(v,c,rfl,a,b):=r;show a4Z (is:=is) b (h.set a i)
theorem a3W:∀{is:List Nat}{vs:List V}{τ:L2.St}{j:Nat},j∉is->(a2U is vs τ)[j]?=τ[j]?
 |[],_,_,_,_=>by unfold a2U;rfl
 |i::is,[],_,_,_=>by unfold a2U;rfl
 |i::is,v::vs,τ,j,h=>by
  let b:j≠i:=λz=>h (z▸cn ..)
  change (a2U is vs _)[j]?=τ[j]?
  rw[a3W (λz=>h (cg _ z)),dH (Ne.symm b)]
theorem a2M:∀{is:List Nat}{vs:List V}{τ:L2.St},(a2U is vs τ).length=τ.length
 |[],_,_=>by unfold a2U;rfl
 |i::is,[],_=>by unfold a2U;rfl
 |i::is,v::vs,τ=>by
  change (a2U is vs _).length=τ.length
  rw[a2M,eW]
def b35{K:Fg}(r:Rep K H kR v)(hs:RSt K H σ τ)(hb:a3i pt kR σ=bH σ')
  (q:∀τ',RSt K H σ' τ'->τ'.length=τ.length->(∀j,j∉pt.slots->τ'[j]?=τ[j]?)->Q τ' H):gP K pt v τ H Q:=by
 cases pt with
 |nm i=>
  cases hb;show q _ (hs.set r i) (by simp) λj d=>by rw[dH];ext z;show d (z▸cn ..)
 |tp is=>
  cases kR with
  |tup ws=>
   let(a,f,rfl,e,c):=r;let b:(if ws.length=is.length then bH _ else gV)=bH σ':=hb
   by_cases hl:ws.length=is.length
   .rw[if_pos hl]at b;cases b;show(a,f,rfl,SqT.of e,by rw[<- c.length];show hl,a85 (c.length▸hl) (q _ (a4Z c hs) a2M λj d=>a3W d))
   .simp_all
  |_=>cases hb
def QP(X:Cx)(tg:Expr)(pt:Pt):Prop:=PG X tg (gP X.K pt)
def uAsg(te:E3)(pt:Pt):X3:=λnx _ _ _ σ G=>te σ G λx G1=>∃σ',a3i pt x σ=bH σ'/\nx σ' G1
def a5U{K:Fg}(h:lowS K (uAsg te pt) D τ H):tAsg (low K te) (gP K pt) D τ H:=by
 let(σ,G,p,s,k,l,b,e,h,j,r,m,n):=h;show(σ,G,_,b,e,h,by ext w o v q ⟨σ',g,i⟩ f c d;show b35 f (b.mono d) g fun τ' a _ _=>j _ _ _ _ i a c d)
def b9k(hN:X.N.Nodup)(hi:X.N[i]?=bH x)(hx:Loc X.env.scope x)(he:QE X e te)(hs:iB e (bH (.Name x pos')) pos.line X.env=pure kQ)(hf:X.fn x=kz\/X.env.scope.names.lookup x=bH .local) :
  QS X (.Assign [.Name x pos'] e pos) (uAsg te (.nm i)):=⟨a1t (b50 hN hi hx he.p hs hf) λ_ _ _=>a5U⟩
def b60(he:QE X e te)(hg:QP X tg pt)(hs:kc [tg] e pos.line X.env=pure kQ:=by rfl)(hw:kf [tg] e X.env=pure gV:=by rfl)
  (h1:(iI [tg] X.env).map (·.2)=[assign tg X.env]:=by rfl):QS X (.Assign [tg] e pos) (uAsg te pt):=⟨a1t (b2J he.p hg hs hw h1) λ_ _ _=>a5U⟩
abbrev Z3:=Z->Z->Z->Hq->(Hq->Prop)->Prop
def lowZ(K:Fg)(r:Z3):TSet:=λo i v H Q=>∃a b w G R,Rep K H a o/\Rep K H b i/\Rep K H w v/\RH K G H/\r a b w G R/\∀G' H',R G'->RH K G' H'->TK K H H'->Q H'
def lowZ.un{K:Fg}{C:Prop}(z:lowZ K r o i v H Q)(f:∀a b w G R,(Rep K H a o)->(Rep K H b i)->(Rep K H w v)->(RH K G H)->(r a b w G R)->(∀G' H',R G'->RH K G' H'->TK K H H'->Q H')->C):C:=by let(a,b,w,G,R,d,j,e,g,c,h):=z;show f _ _ _ _ _ d j e g c h
def SetQ(X:Cx)(r:Z3):Prop:=PSet X (lowZ X.K r)
def b2T(h:PSet X r')(i:∀o j v H Q,r o j v H Q->r' o j v H Q):PSet X r:=λa s σ H o j v c f u Q I b d e q=>h a s σ H o j v c f u Q I b d e (i _ _ _ _ _ q)
def uPut(te to ti:E3)(r:Z3):X3:=λnx _ _ _ σ G=>te σ G λw G1=>to σ G1 λo G2=>ti σ G2 λi G3=>r o i w G3 λG4=>nx σ G4
def b9l(h:PS X st (tAsg (low X.K te) (gSub (low X.K to) (low X.K ti) (lowZ X.K r)))):QS X st (uPut te to ti r):=⟨a1t h λD τ H z=>z.un fun σ G Q I J N a s h B T V C=>
 (σ,G,_,a,s,h,λw m v U o t e d=>(σ,m,_,a.mono d,e,o,λx u R S n i l c=>(σ,u,_,a.mono (d.trans c),l,n,λy A M F q g k b=>
  (x,y,w,A,_,i.mono b,g,t.mono (c.trans b),k,q,λE L p j f=>B _ _ _ _ p (a.mono (((d.trans c).trans b).trans f)) j (((d.trans c).trans b).trans f)))))⟩
def a2N(he:QE X e te)(ho:QE X o to)(hi:QE X i ti)(hr:SetQ X r)(hs:kc [.Subscript o i p'] e pos.line X.env=pure kQ:=by rfl)(hw:kf [.Subscript o i p'] e X.env=pure gV:=by rfl)
  (h1:(iI [.Subscript o i p'] X.env).map (·.2)=[assign (.Subscript o i p') X.env]:=by rfl) (ha:∀v,assign (.Subscript o i p') X.env v=(do
   let ov <- ig [v] (eval o X.env)
   let iv <- ig [v,ov] (eval i X.env)
   iH p'
   ig [v,ov,iv] (jM ov iv v)
   release [v,ov,iv] []):=by ext _;rfl):QS X (.Assign [.Subscript o i p'] e pos) (uPut te to ti r):=b9l (b2J he.p (b5Z ho.p hi.p hr ha) hs hw h1)
def uAug(i:Nat)(te:E3)(r:R3):X3:=λnx _ _ _ σ G=>∃x,σ[i]?=bH (bH x)/\te σ G λy G1=>r x y G1 λz G2=>nx (σ.set i (bH z)) G2
def b9m(h:PS X st (tAug i (low X.K te) (low2 X.K r))):QS X st (uAug i te r):=⟨a1t h λD τ H q=>q.un fun σ G y L C u a s k t A B M=>by
 let(x,p,h):=k;let(v,n,o):=a.get p;show(v,n,σ,G,_,a,s,h,λw m N z j c g b=>(x,w,m,_,o.mono b,c,g,j,λF I J E l d e f=>t _ _ _ _ l ((a.mono (b.trans f)).set d i) e (b.trans f)))⟩
def b61(hN:X.N.Nodup)(hi:X.N[i]?=bH x)(hx:Loc X.env.scope x)(he:QE X e te)(ho:OpQ X (iR op) r)(hf:X.fn x=kz\/X.env.scope.names.lookup x=bH .local) :
  QS X (.AugAssign (.Name x pos') op e pos) (uAug i te r):=b9m (b51 hN hi hx he.p ho hf)
end
abbrev I3:=S3->Hq->(List Z->(Hq->Prop)->Hq->Prop)->Prop
def a2V(K:Fg)(ws:List Z)(ok:Hq->Prop)(J:It)(H0:Hp):Prop:=∀i G H,RH K G H->TK K H0 H->ok G->i<=ws.length ->
 (i=ws.length->J.stop i H)/\∀w,ws[i]?=bH w->J.go i H/\∀x H',J.yld i H x H'->Rep K H' w x/\RH K G H'/\TK K H H'
def lowI(K:Fg)(wi:I3):TI:=fun τ H R2=>∃σ G R,RSt K H σ τ/\RH K G H/\wi σ G R/\∀ws ok G' J H',R ws ok G'->a2V K ws ok J H'->RH K G' H'->TK K H H'->R2 J H'
def lowI.un{K:Fg}{R2:It->Hp->Prop}{C:Prop}(z:lowI K wi τ H R2)(f:∀σ G R,(RSt K H σ τ)->(RH K G H)->(wi σ G R)->(∀ws ok G' J H',R ws ok G'->a2V K ws ok J H'->RH K G' H'->TK K H H'->R2 J H')->C):C:=by let(σ,G,R,d,b,c,a):=z;show f _ _ _ d b c a
def QI(X:Cx)(tg iter:Expr)(wi:I3):Prop:=PI X tg iter (lowI X.K wi)
def a40(h:PI X tg iter wi')(i:∀σ H R,wi σ H R->wi' σ H R):PI X tg iter wi:=λa s σ H R I q=>h a s σ H R I (i σ H R q)
def FORB(ws:List Z)(ok:Hq->Prop)(pt:Pt)(tb:X3)(nx:C3)(rt:K3)(σ:S3)(G1:Hq):Prop:=∃I:Nat->S3->Hq->Prop,I 0 σ G1/\(∀i σ G,i<=ws.length->I i σ G->ok G) /\
 (∀i x σ G,ws[i]?=bH x->I i σ G->∃σ',a3i pt x σ=bH σ'/\tb (I (i+1)) rt nx (I (i+1)) σ' G)/\∀σ G,I ws.length σ G->nx σ G
def uFor(wi:I3)(pt:Pt)(tb:X3):X3:=λnx rt _ _ σ G=>wi σ G λws ok G1=>FORB ws ok pt tb nx rt σ G1
def a0E(I:Nat->S3->Hq->Prop)(h0:I 0 σ G)(hok:∀i σ G,i<=ws.length->I i σ G->ok G)
  (step:∀i x σ G,ws[i]?=bH x->I i σ G->∃σ',a3i pt x σ=bH σ'/\tb (I (i+1)) rt nx (I (i+1)) σ' G) (fin:∀σ G,I ws.length σ G->nx σ G):FORB ws ok pt tb nx rt σ G:=(I,h0,hok,step,fin)
def a1K(hp:h9 (model X.prog X.w) X.A X.env X.xe)(hc:X.calm=kz)(hi:QI X tg iter wi)(hg:QP X tg pt)(hb:QSs X sb t)
  (hs:∀x,iJ iter X.env x=pure x:=by ext _;rfl):QS X (.For tg iter sb [] pos) (uFor wi pt t):=⟨a1t (b55 hp hc hi hg hb.p hs) λD τ H U=>U.un fun σ G nx rt bk ct hs hg h R u2 u3 u4=>by
 show(σ,G,_,hs,hg,h,?_);ext b ok G1 J L ⟨I,i0,S,u,E⟩ hJ M k;show(λi m τ' a=>m=b.length-i/\i<=b.length/\∃σ' G',RSt X.K a σ' τ'/\RH X.K G' a/\TK X.K L a/\I i σ' G',(b.length,by simp,bR _,σ,G1,hs.mono k,M,.refl _ _,i0),?_);ext i m τ2 H2 ⟨rfl,n,σ2,j,o,r,c,z⟩;let l:=hJ i j H2 r c (S i σ2 j n z) n
 by_cases hlt:i<b.length
 .let(Y,T):=l.2 _ (bn hlt);show .inr (Y,fun τ' a=>i+1<=b.length/\∃σ' G',RSt X.K a σ' τ'/\RH X.K G' a/\TK X.K L a/\I _ σ' G',fun σ' a q=>(b.length-_,by cbv,rfl,q.1,q.2),λx H3 V=>?_);let(rx,N,g):=T x H3 V;let(σ',F,h3):=u i _ σ2 j (bn hlt) z;show b35 rx (o.mono g) F fun τ' C _ _=>(σ',j,_,rt,nx,_,C,N,h3,(fun σ4 v τ4 W s d f y=>(hlt,σ4,v,d,f,(c.trans g).trans y,s)),u2.mono ((k.trans c).trans g),R.mono ((k.trans c).trans g),(fun σ4 v τ4 W s d f y=>(hlt,σ4,v,d,f,(c.trans g).trans y,s)))
 .let e:i=b.length:=by lia
  subst e;show .inl (l.1 rfl,R _ _ _ _ (E σ2 j z) o r (k.trans c))⟩
section
variable{tg l:Expr}{tl:E3}
def wkL(x:Z)(G:Hq)(R:List Z->(Hq->Prop)->Hq->Prop):Prop:=match x with
 |.ref a=>∃ws,G a=bH (.lst ws)/\R ws (λG=>G a=bH (.lst ws)) G
 |.scr _ ns=>R (ns.map Z.int) (λ_=>True) G
 |_=>False
def iL(tl:E3):I3:=fun σ G R=>tl σ G λx G1=>wkL x G1 R
def a7G{K:Fg}:a2V K ws (λG=>G a=bH (.lst ws)) (Itl K a) H:=λi G H c t g m=>by
 let(b,e,f):=c a _ g;show(λh=>(b,SqL.of e,by rw[<- f.length,h];show bd _),λw j=>?_);let(v,d,k):=f.get j;show((b,v,SqL.of e,d),?_);ext x l ⟨rfl,y⟩
 let:=y b (SqL.of e)
 rw[d]at this;cases this;show(k,c,.refl _ _)
def a86{K:Fg}{ns:List Int}(f:Fz K H0 a (ns.map V.int)):a2V K (ns.map Z.int) (λ_=>True) (Itl K a) H0:=λi G H g t m l=>by
 let b:=(t.frz _ _ f).sq;let c:Reps K H _ _:=a15 ns;show(λh=>(_,b,by rw[<- c.length,h];show bd _),λw j=>?_);let(v,d,e):=c.get j;show((_,v,b,d),?_);ext x k ⟨rfl,y⟩
 let:=y _ b
 rw[d]at this;cases this;show(e,g,.refl _ _)
def a5V(hl:QE X l tl):QI X tg l (iL tl):=a40 (b3C hl.p) fun τ H s k=>k.un fun σ G R i j h f=>by
 show(σ,G,_,i,j,h,λw q v o c b d g=>?_);cases w with
 |ref a=>
  let(r,e,c):=c;let(m,n,_):=d a _ e;show(a,b,(m,SqL.of n),f _ _ _ _ _ c a7G d g)
 |scr a ns=>
  show(a,b.1,(_,b.2.sq),f _ _ _ _ _ c (a86 b.2) d g)
 |_=>show bj c
def wkT(x:Z)(G:Hq)(R:List Z->(Hq->Prop)->Hq->Prop):Prop:=match x with
 |.tup ws=>R ws (λ_=>True) G
 |_=>False
def iT(tl:E3):I3:=fun σ G R=>tl σ G λx G1=>wkT x G1 R
def a87{K:Fg}(e:H0 a=bH (.tup vs))(rs:Reps K H0 ws vs):a2V K ws (λ_=>True) (Itt K a) H0:=λi G H f t ok hi=>by
 let e:=t.tup _ _ e;let rs:=rs.mono t;show(λh=>(vs,SqT.of e,by rw[<- rs.length,h];show bd _),λw g=>?_);let(v,c,d):=rs.get g;show((vs,v,SqT.of e,c),?_);ext x H' ⟨rfl,y⟩
 let:=y vs (SqT.of e)
 rw[c]at this;cases this;show(d,f,.refl _ _)
def b62(hl:QE X l tl):QI X tg l (iT tl):=a40 (b53 hl.p) fun τ H o j=>j.un fun σ G R m i h n=>by
 show(σ,G,_,m,i,h,λw r v q d c b k=>?_);cases w with
 |tup ws=>
  let(a,g,rfl,e,f):=c;show(a,rfl,(g,SqT.of e),n _ _ _ _ _ d (a87 e f) b k)
 |_=>show bj d
noncomputable def rng(lo:Int):Nat->List Z
 |0=>[]
 |n+1=>.int lo::rng (lo+1) n
def a1e:∀(lo:Int)(n:Nat),(rng lo n).length=n:=by ext z0 y0;induction y0 generalizing z0 with
 |zero=>show rfl
 |succ n I0=>rw[rng,bv,I0]
theorem a2z:∀{lo:Int}{n i:Nat}{w:Z},(rng lo n)[i]?=bH w->i<n/\w=.int (lo+i)
 |_,0,_,_,h=>by simp[rng]at h
 |lo,n+1,0,w,h=>by simp[rng]at h;show(by lia,by rw[<- h];simp)
 |lo,n+1,i+1,w,h=>by
  let:=a2z (by simpa[rng]using h)
  show(by lia,?_);rw[this.2]
  congr 1
  lia
def a88{K:Fg}{lo:Int}:a2V K (rng lo n) (λ_=>True) (Itr lo n) H0:=λi G H b t e g=>by
 rw[a1e];show(λh=>by rw[h];show bd _,λw d=>?_);let(a,c):=a2z d;show(a,?_);ext x f ⟨rfl,rfl⟩;show(by rw[c,a0l],b,.refl _ _)
variable{t:A3}
def iR1(t:A3):I3:=fun σ G R=>t σ G λws G1=>∃j:Int,ws=[.int j]/\-(2 ^ 62)<=j/\j<2 ^ 62/\R (rng 0 j.toNat) (λ_=>True) G1
def a89(h:PI X tg wi (b54 (lowA X.K t))):QI X tg wi (iR1 t):=a40 h fun τ H p g=>g.un fun σ G R i d h l=>by
 show(σ,G,_,i,d,h,λq o n s (j,e,a,b,k) f c m=>?_);subst e;let(v,rfl,r):=f.one;subst r;show(j,rfl,a,b,l _ _ _ _ _ k a88 c m)
end
section
variable{tg a:Expr}{p:Pos}{t:A3}
def a7H(hg:Gl X "range")(hm:X.mg "range"=gV)(ha:QA X [a] t)(hs:gQ [a] X.env=[(kQ,eval a X.env,)]:=by rfl):QI X tg (.Call (.Name "range" p) [a] [] pos) (iR1 t):=a89 (a8l hg hm ha.p hs)
end
noncomputable def cap3(cap:List (Option Nat))(σ:S3):S3:=cap.map λo=>o.bind λj=>(σ[j]?).join
theorem a5W{K:Fg}(h:RSt K H σ τ):∀cap:List (Option Nat),RSt K H (cap3 cap σ) (a2w cap τ)
 |[]=>.nil
 |none::cap=>.cons (λ_ e=>nomatch e) (a5W h cap)
 |some j::cap=>.cons (λw e=>by
   let a:(σ[j]?).join=bH w:=e;let b:σ[j]?=bH (bH w):=by
    cases q:σ[j]? with
    |none=>rw[q]at a;cases a
    |some o=>rw[q]at a;cases o with
     |none=>cases a
     |some z=>cases a;rfl
   let(v,c,r):=h.get b;show(v,by change (τ[j]?).join=bH v;rw[c];rfl,r)) (a5W h cap)
theorem a2A:∀{a b:L2.St},b.length=a.length->(∀(i:Nat) v,a[i]?=bH (bH v)->b[i]?=bH (bH v))->a1i a b
 |[],[],_,_=>True.intro
 |none::a,_::b,h,k=>a2A (b:=b) ↑h λi v e=>↑(k (i+1) v ↑e)
 |some x::a,y::b,h,k=>(↑(k 0 x rfl),a2A (b:=b) ↑h λi v e=>↑(k (i+1) v ↑e))
 |[],_::_,h,_=>by simp at h
 |_::_,[],h,_=>by simp at h
def LCB(ws:List Z)(ok:Hq->Prop)(cap:List (Option Nat))(pt:Pt)(tt:T3)(te:E3)(σ:S3)(R:K3)(D:Addr)(G1:Hq):Prop:=∃I:Nat->List Z->Hq->Prop,I 0 [] (put G1 D (.lst []))/\(∀i ys G,i<=ws.length->I i ys G->ok G) /\
 (∀i x ys G,ws[i]?=bH x->I i ys G->∃σ',a3i pt x (cap3 cap σ)=bH σ'/\tt σ' G λb G4=>if b=kz then te σ' G4 λy G5=>G5 D=bH (.lst ys)/\ys.length<gN/\I (i+1) (ys++[y]) (put G5 D (.lst (ys++[y]))) else I (i+1) ys G4) /\
 ∀ys G,I ws.length ys G->R (.ref D) G
def uLC(wi:I3)(cap:List (Option Nat))(pt:Pt)(tt:T3)(te:E3):E3:=fun σ G R=>wi σ G λws ok G1=>∀D,G1 D=gV->LCB ws ok cap pt tt te σ R D G1
def b1q(I:Nat->List Z->Hq->Prop)(h0:I 0 [] (put G1 D (.lst [])))(hok:∀i ys G,i<=ws.length->I i ys G->ok G)
  (step:∀i x ys G,ws[i]?=bH x->I i ys G->∃σ',a3i pt x (cap3 cap σ)=bH σ'/\tt σ' G λb G4=>if b=kz then te σ' G4 λy G5=>G5 D=bH (.lst ys)/\ys.length<gN/\I (i+1) (ys++[y]) (put G5 D (.lst (ys++[y]))) else I (i+1) ys G4)
  (fin:∀ys G,I ws.length ys G->R (.ref D) G):LCB ws ok cap pt tt te σ R D G1:=(I,h0,hok,step,fin)
def a06{α β:Type}{f:α->Option β}{ws:List α}{x:α}(h:ws[i]?=bH x):(ws.take (i+1)).filterMap f=(ws.take i).filterMap f++(f x).toList:=by
 rw[cG,List.filterMap_append,h];cases e:f x<;>simp[e]
def b36(f:Z->Option Z)(hok:∀ys,ok (put G1 D (.lst ys)))(hz:ws.length<=1000)
  (turn:∀x,x∈ws->∀(ys:List Z)(K1:K3)(K2:Hq->Prop),(∀y,f x=bH y->K1 y (put G1 D (.lst ys)))->(f x=gV->K2 (put G1 D (.lst ys)))->∃σ',a3i pt x (cap3 cap σ)=bH σ'/\tt σ' (put G1 D (.lst ys)) λb G4=>if b=kz then te σ' G4 K1 else K2 G4)
  (fin:R (.ref D) (put G1 D (.lst (ws.filterMap f)))):LCB ws ok cap pt tt te σ R D G1:=by
 show(λi a G=>a=(ws.take i).filterMap f/\G=put G1 D (.lst a),(by simp,rfl),?_,?_,?_)
 .simp_all
 .ext i x a G c ⟨e,rfl⟩;show turn x (bB c) a _ _ (λy g=>(a0a,?_,?_,?_)) λd=>(?_,rfl)
  .rw[e];show eV (bD (dq _ _) (by rw[bE];lia)) (a0d (bd 1000))
  .rw[a06 c,g,e];rfl
  .rw[a1A]
  .rw[a06 c,d,e];simp
 .simp_all
def QIfs(X:Cx)(ifs:List Expr)(t:T3):Prop:=PIfs X ifs (lowT X.K t)
def uTT:T3:=λ_ G R=>R kz G
def b37:QIfs X [] uTT:=by ext a s τ H Q I ⟨σ,G,R,d,b,h,c⟩;show b1e a s τ H Q I (c _ _ _ h b (.refl _ _))
def a9a(h:QT X c t):QIfs X [c] t:=b1f h.p
def b38{pt:Pt}(hc:(pt.slots.all λj=>decide (cap[j]?=bH gV))=kz)(h:(a2w cap τ)[i]?=bH (bH v)):i∉pt.slots:=λa=>by
 let q:=of_decide_eq_true ((b5.mp hc) i a);unfold a2w at h;rw[bo,q]at h;cases h
def a9b{K:Fg}(hc:(pt.slots.all λj=>decide (cap[j]?=bH gV))=kz)(h:low K (uLC wi cap pt tt te) τ H Q) :
  tLC (lowI K wi) cap (gP K pt) (lowT K tt) (low K te) τ H Q:=by
 let(σ,G,R,hs,hg,h,up):=h;show(σ,G,_,hs,hg,h,λc ok G1 J H1 h1 hJ t U D B=>?_);let(I,i0,S,C,N):=h1 D (t.out B);show(λi m _ d=>m=c.length-i/\i<=c.length/\∃a G',RH K G' d/\TK K H1 d/\I i a G',(c.length,by simp,bR _,[],_,t.set (o:=.lst []) (.new B) ([],a0e,.nil),.new B,i0),?_);ext i m vs H2 ⟨rfl,w,a,f,p,g,E⟩;let n:=hJ i f H2 p g (S i a f w E) w
 by_cases hlt:i<c.length
 .let(go,yl):=n.2 _ (bn hlt);show .inr (go,λ_ d=>i+1<=c.length/\∃a G',RH K G' d/\TK K H1 d/\I _ a G',λvs' d q=>(c.length-_,by cbv,rfl,q.1,q.2),λx H3 y3=>?_);let(rx,aa,F):=yl x H3 y3;let(σ',Y,h3):=C i _ a f (bn hlt) E;show b35 rx (a5W (hs.mono ((U.trans g).trans F)) cap) Y fun τ' z M hk'=>(a2A M λj v T=>by rw[hk' j (b38 hc T)];show T,?_);show(σ',f,_,z,aa,h3,λb G4 H4 l u A=>?_);cases b with
  |false=>
   show(hlt,a,G4,u,(g.trans F).trans A,l)
  |true=>
   show(σ',G4,_,z.mono A,u,l,λy G5 v5 H5 (L,V,h5) r5 r t5=>?_);let(X,k,s):=r D _ L;show(X,k,by rw[<- s.length];show V,hlt,_,_,r.set (.lst k) (a1b (s.append (.cons r5 .nil)) (.lst k)),?_,h5);show (((g.trans F).trans A).trans t5).trans (.lst k)
 .let e:i=c.length:=by lia
  subst e;show .inl (n.1 rfl,up _ _ _ _ (N a f E) (by rw[a0s]) p (U.trans g))
section
variable{sc:Scope}{tg:Expr}{wi:I3}{pt:Pt}{tt:T3}{te:E3}
def q_lc(hc:X.calm=kz)(hNN:X.N=Nj)(hso:X.env.scope=so)(ck:capB Nj so sc N' cap=kz)(hp:(pt.slots.all λj=>decide (cap[j]?=bH gV))=kz)(hi:QI X tg iter wi)
  (hg:∀C s H fp,QP (cxC X E0 N' sc C s H fp) tg pt) (ht:∀C s H fp,QIfs (cxC X E0 N' sc C s H fp) ifs tt) (he:∀C s H fp,QE (cxC X E0 N' sc C s H fp) elt te)
  (hs:∀x,iJ iter X.env x=pure x:=by ext _;rfl):QE X (.ListComp elt [(tg,iter,ifs,0)] sc pos) (uLC wi cap pt tt te):=⟨a0J (b6w (g:=gP X.K pt) (tt:=lowT X.K tt) hc a6F hNN hso ck hi hg ht (λC s H a=>(he C s H a).p) hs) λ_ _ _=>a9b hp⟩
def b39(hN:X.N.Nodup)(hx:X.N[i]?=bH x)(hl:X.env.scope.names.lookup x=bH .local)(hc:X.calm=kz)(hNN:X.N=Nj)(hso:X.env.scope=so)(ck:capB Nj so sc N' cap=kz)
  (hp:(pt.slots.all λj=>decide (cap[j]?=bH gV))=kz) (hi:QI X tg iter wi)
  (hg:∀C s H fp,QP (cxC X E0 N' sc C s H fp) tg pt) (ht:∀C s H fp,QIfs (cxC X E0 N' sc C s H fp) ifs tt) (he:∀C s H fp,QE (cxC X E0 N' sc C s H fp) elt te)
  (hsw:iB (.ListComp elt [(tg,iter,ifs,0)] sc pos) (bH (.Name x pos')) spos.line X.env=pure kz:=by rfl)
  (hs:∀x,iJ iter X.env x=pure x:=by ext _;rfl):QS X (.Assign [.Name x pos'] (.ListComp elt [(tg,iter,ifs,0)] sc pos) spos) (uAsg (uLC wi cap pt tt te) (.nm i)):=⟨a1t (b1h (g:=gP X.K pt) (tt:=lowT X.K tt) hN hx hl hc a6F hNN hso ck hi hg ht (λC s H a=>(he C s H a).p) hsw hs) λD τ H h=>a9b hp (a5U h)⟩
end
section
variable{K:Fg}{mg:Str->Option Value}{base:Heap}
def fn3{st:Stmt}(F:Fun K x qual st f fd)(S:FnScope N ps (a0j st))(len:∀ws G R,sp ws G R->ws.length=ps.length)
  (hbody:∀(cdv:Value)(A:Around)(outer:List Env)(s:Shared)(H:Hp)(E:XK)(ws:List Z)(G:Hq)(R:K3),Room k (A.deeper (envOfC qual (a0j st) s.heap.objs.size f cdv))->sp ws G R ->
   ∃t,QSs (cxOf CX0 P w K mg base N qual (a0j st) f cdv A outer s H E).nox (a0U st) t/\t (λ_ G'=>R .non G') R (λ_ _=>False) (λ_ _=>False) (a1L N ws) G):FnOk P w K mg base CX0 (k+1) f fd ps (lowP K sp):=by
 show F.ok S (by ext n H Q E ⟨d,G,R,c,e,h,b⟩;rw[<- c.length];show len _ _ _ h) ?_;ext g A a s H n Q E j ⟨d,G,R,c,e,h,b⟩;let(t,l,q):=hbody g A a s H E d G R j h;show(_,l.p,a1L N d,G,_,R,_,_,.start c,e,q,fun σ' v τ' u m r i o=>b _ _ _ _ m (by rw[a0z]) i o,b,λ_ _ _ _ h _ _ _=>h.elim,λ_ _ _ _ h _ _ _=>h.elim)
end
def zAdd:R3:=λx y G R=>match x,y with
 |.int i,.int j=>R (.int (i+j)) G
 |.str a,.str b=>a.length+b.length<=gN/\R (.str (a++b)) G
 |.tup xs,.tup ys=>xs≠[]/\xs.length+ys.length<=gN/\R (.tup (xs++ys)) G
 |.ref p,.ref q=>∃xs ys,G p=bH (.lst xs)/\G q=bH (.lst ys)/\xs.length+ys.length<=gN/\∀t,G t=gV->R (.ref t) (put G t (.lst (xs++ys)))
 |_,_=>False
def b9n:OpQ X (hZ .Add) zAdd:=a3g (op_add.or (op_add_str.or (op_catT.or b6o))) λx y H Q D=>D.un λa b G R c d f h m=>by
 cases a with
 |int i=>
  cases b with
  |int j=>rw[a0l]at c d;show .inl (_,_,c,d,m _ _ _ _ h (by rw[a0l]) f (.refl _ _))
  |_=>show bj h
 |str i=>
  cases b with
  |str j=>rw[a0u]at c d;show .inr (.inl (_,_,c,d,h.1,m _ _ _ _ h.2 (by rw[a0u]) f (.refl _ _)))
  |_=>show bj h
 |tup w=>
  cases b with
  |tup ws=>
   let(p,n,rfl,o,k):=c;let(q,r,rfl,u,l):=d;let(B,s,h):=h;show .inr (.inr (.inl (p,q,n,r,rfl,rfl,SqT.of o,SqT.of u,λz=>?_,by rw[<- k.length,<- l.length];show s,λz=>?_,λz t g=>?_)))
   .subst z;show B (cN.mp k.length)
   .subst z;let e:=cN.mp l.length;subst e;rw[bM]at h;show m _ _ _ _ h (by rw[a03];show(p,n,rfl,o,k)) f (.refl _ _)
   .show m _ _ _ _ h (by rw[a03];show(t,n++r,rfl,a0e,Reps.mono (.new g) _ _ (k.append l))) (f.hid g) (.new g)
  |_=>show bj h
 |ref p=>
  cases b with
  |ref q=>
   subst c d;let(n,r,o,u,s,h):=h;let(C,A,k):=f _ _ o;let(w,v,l):=f _ _ u;show .inr (.inr (.inr (_,_,C,w,rfl,rfl,A,v,by rw[<- k.length,<- l.length];show s,λt g=>m _ _ _ _ (h t (f.out g)) (by rw[a0s]) (f.set (.new g) (a1b (k.append l) (.new g))) (.new g))))
  |_=>show bj h
 |_=>show bj h
def zI(C:Int->Int->Prop)(g:Int->Int->Z):R3:=λx y G R=>match x,y with
 |.int i,.int j=>C i j/\R (g i j) G
 |_,_=>False
def zI0(g:Int->Int->Z):R3:=λx y G R=>match x,y with
 |.int i,.int j=>R (g i j) G
 |_,_=>False
def oI{g:Int->Int->Int}(h:OpR X f (rI C λi j=>.int (g i j))):OpQ X f (zI C λi j=>.int (g i j)):=a3g h λx y H Q l=>l.un λa b G R d c k h e=>by
 cases a<;>cases b<;>first
  |show bj h
  | (rw[a0l]at d c;show(_,_,d,c,h.1,e _ _ _ _ h.2 (by rw[a0l]) k (.refl _ _)))
def oI0{g:Int->Int->Int}(h:OpR X f (rI0 λi j=>.int (g i j))):OpQ X f (zI0 λi j=>.int (g i j)):=a3g h λx y H Q l=>l.un λa b G R d c k h e=>by
 cases a<;>cases b<;>first
  |show bj h
  | (rw[a0l]at d c;show(_,_,d,c,e _ _ _ _ h (by rw[a0l]) k (.refl _ _)))
def b9o:OpQ X (hZ .Sub) (zI0 λi j=>.int (i-j)):=oI0 b57
def b9p:OpQ X (hZ .Mult) (zI CMul λi j=>.int (i*j)):=oI b58
def b63:OpQ X (hZ .FloorDiv) (zI b6A λi j=>.int (i / j)):=oI b1i
def b9q:OpQ X (hZ .Mod) (zI (λ_ j=>0<j) λi j=>.int (i % j)):=oI b59
def b9r:OpQ X (hZ .Pow) (zI CPow λi j=>.int (i ^ j.toNat)):=oI b6a
def b2U:OpQ X (iR .Add) (zI0 λi j=>.int (i+j)):=oI0 b3D
def zNeg:Z->Hq->K3->Prop:=λx G R=>match x with
 |.int i=>R (.int (-i)) G
 |_=>False
def b9s:UnQ X (jN .USub) zNeg:=b9b b6b λx H Q c=>c.un λa G R b d h e=>by
 cases a<;>first
  |show bj h
  | (rw[a0l]at b;show(_,b,e _ _ _ _ h (by rw[a0l]) d (.refl _ _)))
def a9c:OpR X (gX .LtE) (λx y H Q=>∃i j,x=.str i/\y=.str j/\Q (.bl (!decide (j.cps.toList<i.cps.toList))) H):=by
 ext b s σ H x y v u Q I a c h;let(i,j,rfl,rfl,q):=h;let(t,rfl):=a;let(d,rfl):=c;show PySem.P.le_str (a0o I q rfl)
def a9d:OpR X (gX .Gt) (λx y H Q=>∃i j,x=.str i/\y=.str j/\Q (.bl (decide (j.cps.toList<i.cps.toList))) H):=by
 ext b s σ H x y v u Q I a c h;let(i,j,rfl,rfl,q):=h;let(t,rfl):=a;let(d,rfl):=c;show PySem.P.gt_str (a0o I q rfl)
def zC(f:Int->Int->Bool)(g:Str->Str->Bool):R3:=λx y G R=>match x,y with
 |.int i,.int j=>R (.bl (f i j)) G
 |.str i,.str j=>R (.bl (g i j)) G
 |_,_=>False
def oC(h:OpR X (gX op) (rI0 λi j=>.bl (f i j)))(h':OpR X (gX op) (λx y H Q=>∃i j,x=.str i/\y=.str j/\Q (.bl (g i j)) H)) :
  OpQ X (gX op) (zC f g):=a3g (h.or h') λx y H Q l=>l.un λa b G R c d e h k=>by
 cases a<;>cases b<;>first
  |show bj h
  | (rw[a0l]at c d;show .inl (_,_,c,d,k _ _ _ _ h (by rw[a0t]) e (.refl _ _)))
  | (rw[a0u]at c d;show .inr (_,_,c,d,k _ _ _ _ h (by rw[a0t]) e (.refl _ _)))
abbrev ltS(x y:Str):Bool:=decide (x.cps.toList<y.cps.toList)
def o_lt:OpQ X (gX .Lt) (zC (λi j=>decide (i<j)) λx y=>ltS x y):=oC b8Z a8r
def o_le:OpQ X (gX .LtE) (zC (λi j=>decide (i<=j)) λx y=>!ltS y x):=oC b80 a9c
def o_gt:OpQ X (gX .Gt) (zC (λi j=>decide (j<i)) λx y=>ltS y x):=oC b81 a9d
def zIs(neg:Bool):R3:=λx y G R=>match y with
 |.non=>R (.bl (if neg then !decide (x=.non) else decide (x=.non))) G
 |.bl b=>match x with
  |.bl a=>neg=kQ/\R (.bl (a==b)) G
  |_=>False
 |_=>False
def a3X{K:Fg}(r:Rep K H kR v):decide (v=.non)=decide (kR=.non):=by
 cases kR with
 |non=>rw[a0z]at r;subst r;rfl
 |bl _=>rw[a0t]at r;subst r;simp
 |int _=>rw[a0l]at r;subst r;simp
 |str _=>rw[a0u]at r;subst r;simp
 |ref _=>rw[a0s]at r;subst r;simp
 |ty _=>rw[a6G]at r;subst r;simp
 |scr _ _=>rw[a2y]at r;let(rfl,_):=r;simp
 |tup _=>rw[a03]at r;let(_,_,rfl,_):=r;simp
mutual
def dZ:Z->PyData
 |.bl b=>.bool b
 |.int i=>.int i
 |.str x=>.str x
 |.tup ws=>.tuple (dZs ws)
 |_=>.none
def dZs:List Z->List PyData
 |[]=>[]
 |w::ws=>dZ w::dZs ws
end
noncomputable def flat:Nat->Z->Bool
 |_,.non=>kz
 |_,.int _=>kz
 |_,.str x=>PyData.strOk x
 |n+1,.tup ws=>ws.all (flat n)
 |_,_=>kQ
def b2V:∀(n:Nat)(d:Z),flat n d=kz->(dZ d).canLay0=kz/\(dZ d).depth<=n:=by
 let f:∀n,(∀d,flat n d=kz->(dZ d).canLay0=kz/\(dZ d).depth<=n)->∀a:List Z,(∀d∈a,flat n d=kz)->PyData.canLayAll0 (dZs a)=kz/\PyData.depthAll (dZs a)<=n:=by
  ext n b a
  induction a with
  |nil=>ext _;simp[dZs,PyData.canLayAll0,PyData.depthAll]
  |cons d a hi=>
   ext h;let g:=b d (h d (.head _));let c:=hi λe j=>h e (.tail _ j);simp only[dZs,PyData.canLayAll0,PyData.depthAll,g.1,c.1,eX,true_and]
   lia
 ext n
 induction n with
 |zero=>
  ext d h;cases d<;>simp_all[flat,dZ,PyData.canLay0,PyData.depth]
 |succ n b=>
  ext d h;cases d with
  |non=>simp[dZ,PyData.canLay0,PyData.depth]
  |int i=>simp[dZ,PyData.canLay0,PyData.depth]
  |str x=>simp[flat]at h;simp[dZ,PyData.canLay0,PyData.depth,h]
  |tup a=>
   let q:=f n b a (by simpa[flat]using h);simp only[dZ,PyData.canLay0,PyData.depth,q.1,true_and]
   lia
  |_=>simp[flat]at h
def b4a(n:Nat)(ds:List Z)(h:ds.all (flat n)=kz):PyData.canLayAll0 (dZs ds)=kz/\PyData.depthAll (dZs ds)<=n:=by
 let q:=b2V (n+1) (.tup ds) (by simpa[flat]using h);simp only[dZ,PyData.depth]at q;show(q.1,by lia)
def a9e:∀(n:Nat)(d e:Z)(k:Nat),flat n d=kz->flat k e=kz->(PyData.eqv (dZ d) (dZ e)=kz↔d=e):=by
 let all:∀(n:Nat),(∀d e k,flat n d=kz->flat k e=kz->(PyData.eqv (dZ d) (dZ e)=kz↔d=e))->∀(k:Nat)(ds es:List Z),(∀d∈ds,flat n d=kz)->(∀d∈es,flat k d=kz) ->
   (PyData.eqvAll (dZs ds) (dZs es)=kz↔ds=es):=by
  ext n ih k ds
  induction ds with
  |nil=>ext es _ _;cases es<;>simp[dZs,PyData.eqvAll]
  |cons d ds hi=>
   ext es h1 h2;cases es with
   |nil=>simp[dZs,PyData.eqvAll]
   |cons e es=>
    let q1:=ih d e k (h1 d (.head _)) (h2 e (.head _));let q2:=hi es (λx hx=>h1 x (.tail _ hx)) λx hx=>h2 x (.tail _ hx);simp only[dZs,PyData.eqvAll,b8,q1,q2,b9.injEq]
 ext n
 induction n with
 |zero=>
  ext d e k h1 h2;cases d<;>cases e<;>simp_all[flat,dZ,PyData.eqv]
 |succ n ih=>
  ext d e k h1 h2;cases d with
  |tup ds=>
   cases e with
   |tup es=>
    cases k with
    |zero=>simp[flat]at h2
    |succ k=>
     simp only[dZ,PyData.eqv,Z.tup.injEq];show all n ih k ds es (by simpa[flat]using h1) (by simpa[flat]using h2)
   |_=>simp_all[flat,dZ,PyData.eqv]
  |_=>cases e<;>simp_all[flat,dZ,PyData.eqv]
def a9f(n k:Nat)(ds es:List Z)(h:ds.all (flat n)=kz)(h':es.all (flat k)=kz):PyData.eqvAll (dZs ds) (dZs es)=kz↔ds=es:=by
 let q:=a9e (n+1) (.tup ds) (.tup es) (k+1) (by simpa[flat]using h) (by simpa[flat]using h');simpa only [dZ,PyData.eqv,Z.tup.injEq]using q
section
variable{K:Fg}
def b1r:∀(n:Nat)(w:Z)(v:V),flat n w=kz->Rep K H w v->DV H (dZ w) v:=by
 let g:∀n,(∀w v,flat n w=kz->Rep K H w v->DV H (dZ w) v)->∀b c,(∀d∈b,flat n d=kz)->Reps K H b c->DVs H (dZs b) c:=by
  ext n f b
  induction b with
  |nil=>ext c _ r;show r
  |cons w b hi=>
   ext c h r;let(v,j,e,o,l):=r;show(v,j,e,f w v (h w (.head _)) o,hi j (λd k=>h d (.tail _ k)) l)
 ext n
 induction n with
 |zero=>
  ext w v h r;cases w with
  |non=>rw[a0z]at r;show r
  |int i=>rw[a0l]at r;show r
  |str x=>rw[a0u]at r;show r
  |_=>simp[flat]at h
 |succ n f=>
  ext w v h r;cases w with
  |non=>rw[a0z]at r;show r
  |int i=>rw[a0l]at r;show r
  |str x=>rw[a0u]at r;show r
  |tup b=>
   let(a,c,e,p,m):=r;show(a,c,e,p,g n f b c (by simpa[flat]using h) m)
  |_=>simp[flat]at h
def a41(n:Nat):∀(ws:List Z)(vs:List V),ws.all (flat n)=kz->Reps K H ws vs->DVs H (dZs ws) vs:=by ext z0;induction z0 with
 |nil=>ext vs _ r;rw[a0n]at r;simp only[dZs];unfold DVs;show r
 |cons w ws I0=>
  ext vs h r;let(v,a,e,b,c):=r;rw[bJ,b8]at h;show(v,a,e,b1r n w v h.1 b,I0 a h.2 c)
end
def a1T(h:flat n kR=kz)(hn:n<=64):SeqAt.shaped (dZ kR)=kz:=by
 let q:=b2V n kR h;unfold SeqAt.shaped;rw[q.1,cw];show decide_eq_true (by lia)
def a1l(h:ws.all (flat n)=kz)(hn:n<=63):SeqAt.shaped (.list (dZs ws))=kz:=by
 let q:=b4a n ws h;unfold SeqAt.shaped;simp only[PyData.canLay0,PyData.depth,q.1];show decide_eq_true (by lia)
def a5X{p:Prop}[Decidable p](h:a=kz↔p):a=decide p:=by
 cases a with
 |true=>show (decide_eq_true (h.mp rfl)).symm
 |false=>show (decide_eq_false λq=>by cases h.mpr q).symm
def a0m{p q:Prop}[Decidable p][Decidable q](h:p=q):decide p=decide q:=by grind
def zEq(f:Bool->Bool):R3:=λx y G R=>match x,y with
 |.bl a,.bl b=>R (.bl (f (a==b))) G
 |.int a,.int b=>R (.bl (f (decide (a=b)))) G
 |.str a,.str b=>R (.bl (f (decide (a=b)))) G
 |.ref p,.ref q=>∃xs ys,G p=bH (.lst xs)/\G q=bH (.lst ys)/\xs.all (flat 8)=kz/\ys.all (flat 8)=kz/\R (.bl (f (decide (xs=ys)))) G
 |x,y=>flat 8 x=kz/\flat 8 y=kz/\R (.bl (f (decide (x=y)))) G
def b2W{K:Fg}(h:low2 K (zEq f) x kR H Q) :
    (scal x kR=kz/\Q (.bl (f (decide (x=kR)))) H)\/∃d e,DV H d x/\DV H e kR/\SeqAt.shaped d=kz/\SeqAt.shaped e=kz/\Q (.bl (f (PyData.eqv d e))) H:=by
  let(a,b,G,R,g,c,i,h,j):=h;let p:flat 8 a=kz/\flat 8 b=kz/\R (.bl (f (decide (a=b)))) G->∃d e,DV H d x/\DV H e kR/\SeqAt.shaped d=kz/\SeqAt.shaped e=kz/\Q (.bl (f (PyData.eqv d e))) H:=by
    ext⟨n,m,w⟩;show(dZ a,dZ b,b1r 8 _ _ n g,b1r 8 _ _ m c,a1T n (by simp),a1T m (by simp),?_);rw[a5X (a9e 8 a b 8 n m)];show j _ _ _ _ w (by rw[a0t]) i (.refl _ _)
  cases a<;>cases b<;>first
    |show .inr (p h)
    | (rw[a0t]at g c;subst g c;show .inl (rfl,by rw[a8o];show j _ _ _ _ h (by rw[a0t]) i (.refl _ _)))
    | (rw[a0l]at g c;subst g c;show .inl (rfl,by rw[a0m (V.int.injEq _ _)];show j _ _ _ _ h (by rw[a0t]) i (.refl _ _)))
    | (rw[a0u]at g c;subst g c;show .inl (rfl,by rw[a0m (V.str.injEq _ _)];show j _ _ _ _ h (by rw[a0t]) i (.refl _ _)))
    | (rw[a0s]at g c
       subst g c;let(r,s,t,z,k,l,h):=h;let(u,q,v):=i _ _ t;let(B,o,A):=i _ _ z;show .inr (.list _,.list _,?_,?_,a1l k (by simp),a1l l (by simp),?_);show(_,u,rfl,q,a41 8 _ _ k v);show(_,B,rfl,o,a41 8 _ _ l A)
       . simp only[PyData.eqv]
         rw[a5X (a9f 8 8 r s k l)];show j _ _ _ _ h (by rw[a0t]) i (.refl _ _))
def o_eq(hu:X.A.units+66<cLine):OpQ X (gX .Eq) (zEq id):=a3g (op_eq.or (b6x hu)) λx y H Q h=>b2W h
def o_ne(hu:X.A.units+66<cLine):OpQ X (gX .NotEq) (zEq not):=a3g (op_ne.or (b6y hu)) λx y H Q h=>b2W h
def zIn(f:Bool->Bool):R3:=λx y G R=>match x,y with
 |.str a,.str b=>R (.bl (f (!(gU.Str.occurrences b a 0 b.length 1).isEmpty))) G
 |x,.ref q=>∃ws,G q=bH (.lst ws)/\flat 8 x=kz/\ws.all (flat 8)=kz/\R (.bl (f (decide (x∈ws)))) G
 |x,.tup ws=>flat 8 x=kz/\ws.all (flat 8)=kz/\R (.bl (f (decide (x∈ws)))) G
 |_,_=>False
def b4b(x:Z)(hx:flat 8 x=kz):∀ws:List Z,ws.all (flat 8)=kz->((dZs ws).any λy=>PyData.eqv y (dZ x))=decide (x∈ws):=by ext z0;induction z0 with
 |nil=>ext _;simp[dZs]
 |cons w ws I0=>
  ext h;rw[bJ,b8]at h;simp only[dZs,cW];rw[I0 h.2,a5X (a9e 8 w x 8 h.1 hx)]
  by_cases e:w=x
  .simp_all
  .let:¬ x=w:=λz=>e z.symm
   simp[e,this]
def b64(hf:∀b,f b=if neg=kz then !b else b){K:Fg}(h:low2 K (zIn f) x kR H Q) :
  (∃i j,x=.str i/\kR=.str j/\Q (.bl (f (!(gU.Str.occurrences j i 0 j.length 1).isEmpty))) H)\/rInD neg x kR H Q:=by
 let(a,b,G,R,o,m,r,h,t):=h;let s:∀p c d,kR=.ref p->_->Reps K H c d->flat 8 a=kz->c.all _=kz->R _ G->rInD neg x kR H Q:=λp c d e w n k g h=>by
  show(dZ a,p,dZs c,d,b1r 8 _ _ k o,e,w,a41 8 _ _ g n,a1T k (by simp),a1l g (by simp),?_);rw[b4b a k c g,<- hf];show t _ _ _ _ h (by rw[a0t]) r (.refl _ _)
 cases b with
 |str j=>
  cases a with
  |str i=>rw[a0u]at o m;show .inl (_,_,o,m,t _ _ _ _ h (by rw[a0t]) r (.refl _ _))
  |_=>show bj h
 |ref q=>
  let l:∃c,G q=bH (.lst c)/\flat 8 a=kz/\c.all (flat 8)=kz/\R (.bl (f (decide (a∈c)))) G:=by cases a<;>show h
  let(c,e,k,g,l):=l;let(d,u,n):=r q _ e;show .inr (s q c d m (.inl u) n k g l)
 |tup c=>
  let(q,d,e,v,n):=m;let l:flat 8 a=kz/\c.all (flat 8)=kz/\R (.bl (f (decide (a∈c)))) G:=by cases a<;>show h
  let(k,g,l):=l;show .inr (s q c d e (.inr v) n k g l)
 |_=>cases a<;>show bj h
def o_in(hu:X.A.units+66<cLine):OpQ X (gX .In) (zIn id):=a3g (op_in_str.or (b6z hu)) λx y H Q h=>b64 (λb=>by simp) h
noncomputable def Its(x:Str):It:=(λi _=>i<x.cps.size,λi H v H'=>H'=H/\∃c,x.cps[i]?=bH c/\v=.str ⟨#[c]⟩,λi _=>i=x.cps.size)
theorem a6J{P:gT}{w:World}{K:Fg}{tg:Expr}{it:Addr}{ty:String}{x:Str}{t:Tok}
  (hty:["enumerate","zip","dict_itemiterator","dict_reverseitemiterator","odict_iterator","itertools.zip_longest","itertools.pairwise"].contains ty=kQ)
  (W:∀A':Around,A'.handled=gV->Walks P w A' it [it] [it] x.cps.size (SignAt x) (λi h=>h.IsStrIter it ty x t i))
  (hself:∀(A:Around)(i:Nat)(s:Shared)(Q:Value->Shared->Prop)(E:Value->Shared->Prop),s.heap.IsStrIter it ty x t i->Q (.ref it) s->wpAny (model P w) A (pyIter (.ref it)) Q E s) :
  Turn P w K tg (Its x) [it] it (λi h=>h.IsStrIter it ty x t i) where
 mem:=by simp
 obj:=λi h st b hb=>by
  let e:b=it:=↑hb
  subst e;let(o,e,c,d):=st;show(o,e,λv z=>by rw[d]at z;cases z)
 keep:=λi h h' st k=>let (o,e,r):=st;(o,k it (by simp) o e,r)
 item:=by
  ext X hP hw hK hc i pins s σ H E I hf st hg;subst hP hw hK;let(f0,f1,f2,f3,f4,f5):=hf it (by simp);show (W X.A (I.ok.hd hc)).item i s _ _ hg st λv h' tk (c,u,hx,e) st' k=>?_;subst e;let I1:Inv X pins σ H { s with heap:=h',toks:=tk }:=I.turned (t':=tk) (λb o hb e=>k b o ↑hb e) f0 f1 f3 f4 f5;let(o,e,cl,d):=id st';show(_,rfl,a5J (s:={ s with heap:=h',toks:=tk }) e cl d hty (.str ⟨#[c]⟩,H,I1,(_,rfl),(rfl,c,hx,rfl),st',λb hb=>(hf b hb).1))
 done:=by
  ext X hP hw hK hc i pins s σ H E I hf st hg;subst hP hw hK;let(f0,f1,f2,f3,f4,f5):=hf it (by simp);let hg':i=x.cps.size:=hg;subst hg';show (W X.A (I.ok.hd hc)).done s _ _ st λh' tk k=>(rfl,I.turned (t':=tk) (λb o hb e=>k b o ↑hb e) f0 f1 f3 f4 f5)
 self:=hself
def iStr(tl:TE):TI:=fun σ H R=>tl σ H λv H1=>∃x,v=.str x/\R (Its x) H1
def b65(hl:PE X l tl):PI X tg l (iStr tl):=by
 ext c s σ H R I h;show thn (hl c s σ H _ I h) λv a (x,f,d,p,m)=>?_;let(y,e,q):=m;subst e;let(t,rfl):=p;let j:∀(o:Obj),∀b∈[a.heap.objs.size],FpOk X c f b:=λo b k=>by
  let e:b=a.heap.objs.size:=↑k
  subst e;show d.fpOk (bd _) (d.hok.fresh (bd _))
 cases ha:y.cps.all _
 .show wpAny_pyIter_wide ha ?_;show(a.heap.objs.size,[a.heap.objs.size],_,_,f,rfl,d.kept (λb o e=>Heap.get?_push_of_some _ e),a6J (by decide) (λn i=>Walks.strWide i _ y t) (λ_ _ _ _ _ g h=>wpAny_pyIter_striter_wide g h),
   (_,Heap.get?_push_size _ rfl,rfl,rfl),j default,q)
 .show wpAny_pyIter_ascii ha ?_;show(a.heap.objs.size,[a.heap.objs.size],_,_,f,rfl,d.kept (λb o e=>Heap.get?_push_of_some _ e),a6J (by decide) (λn i=>Walks.strAscii i _ y t) (λ_ _ _ _ _ g h=>wpAny_pyIter_striter_ascii g h),
   (_,Heap.get?_push_size _ rfl,rfl,rfl),j default,q)
theorem Vals.tog:∀{xs:List V}{us:List Value}{i:Nat}{u:Value},Vals xs us->us[i]?=bH u->∃x,xs[i]?=bH x/\RelV x u
 |_,_,_,_,.nil,e=>by simp at e
 |_,_,0,_,.cons r _,e=>by simp at e;subst e;show(_,rfl,r)
 |_,_,i+1,u,.cons _ t,e=>by
  let(x,a,b):=Vals.tog t ↑e;show(x,↑a,b)
def a9g(bs:List Bool):(bG bs.length).all (λi=>bs.getD i kQ)=bs.all id:=by
 rw[cS];simp only[b5,cD,id]
 constructor
 .ext h b c;let(i,a,e):=List.getElem_of_mem c
  let:=h i a
  rw[cI,bn a]at this;rw[<- e];show this
 .ext h i a;rw[cI,bn a];show h _ (cx a)
def a9h(hc:X.calm=kz):CallR X (.builtin "all") (λxs H Q=>∃(p:Addr)(bs:List Bool),xs=[.ref p]/\SqL X.K H p (bs.map V.bl)/\Q (.bl (bs.all id)) H):=by
 ext n s σ H M R Q I r h;let(p,a,rfl,E,q):=h;let(u,rfl,y):=a2v r;cases y;let(d,l,g,_):=I.list E;let B:p<s.heap.objs.size:=by let(o,_,e,_):=g;show Heap.lt_size e
 show call_all_walk (jx g.isList ?_);let D:X.A.in1.handled=gV:=I.ok.hd hc;let t:(s.heap.push { cls:=.type "list_iterator",data:=.fields #[.ref p,rawInt 0] }).IsList p d.toArray:=by
  let(o,e,c):=g.isList;show(o,Heap.get?_push_of_some _ e,c)
 show(_,_,_,_,_,_,λi=>a.getD i kQ,rfl,Walks.list D s.heap.objs.size p (bt B) d.toArray,((_,Heap.get?_push_size _ rfl,rfl,rfl),t),?_,?_)
 .ext i v N L J C j;let(x,f,w):=Vals.tog l ↑C;rw[bo]at f;cases hb:a[i]? with
  |none=>rw[hb]at f;cases f
  |some b=>
   rw[hb]at f;cases f;cases w;show iO ?_
   let:a.getD i kQ=b:=by simp_all
   dsimp only at j;rw[this]at j;show j
 .ext G F k;let e:(bG d.toArray.size).all (λi=>a.getD i kQ)=a.all id:=by
   let z:d.toArray.size=a.length:=by rw[bW,<- l.length,a9]
   rw[z];show a9g a
  rw[e];show(.bl _,H,I.kept (λb o m=>k b o ↑(bt (Heap.lt_size m)) (Heap.get?_push_of_some _ m)),rfl,q)
def b66:OpR X (gX .Is) (λx y H Q=>∃a b,x=.bl a/\y=.bl b/\Q (.bl (a==b)) H):=by
 ext d s σ H x y v u Q I c e h;let(a,b,rfl,rfl,q):=h;cases c;cases e;show wpAny_is_plain rfl (a0o I q (by cases a<;>cases b<;>rfl))
def rSlS:V->Option Int->Option Int->Hp->VK->Prop:=λx lo hi H Q=>∃z,x=.str z/\z.length<=gN/\Q (.str (Txt.slice z lo hi)) H
def b67:SlR X rSlS:=by
 ext g s σ H x v A B f b C Q I w p y m h;let(z,rfl,r,q):=h;let(t,rfl):=w;let(o,e,c,d):=p;let a:∀f b,Q _ H->(Txt.slice z f b).length<=gN/\∀n k,EP X g σ Q (.str (Txt.slice z f b) n) { s with toks:=k }:=λf b q=>
  (bD (Txt.slice_le z _ _) r,λn k=>(.str _,H,I.tok k,(_,rfl),q))
 cases y with
 |none=>
  cases m with
  |none=>show("str",_,F.slot_str_getitem.lookup,je _ _ _,jR (l:=gV) (u:=gV) (st:=gV) (o,e,c,d) rfl (jS (a _ _ q)))
  |int j u=>show("str",_,F.slot_str_getitem.lookup,je _ _ _,jR (l:=gV) (u:=bH (j,u,)) (st:=gV) (o,e,c,d) rfl (jS (a _ _ q)))
 |int i v=>
  cases m with
  |none=>show("str",_,F.slot_str_getitem.lookup,je _ _ _,jR (l:=bH (i,v,)) (u:=gV) (st:=gV) (o,e,c,d) rfl (jS (a _ _ q)))
  |int j u=>show("str",_,F.slot_str_getitem.lookup,je _ _ _,jR (l:=bH (i,v,)) (u:=bH (j,u,)) (st:=gV) (o,e,c,d) rfl (jS (a _ _ q)))
def o_is:OpQ X (gX .Is) (zIs kQ):=a3g (op_isN.or b66) λx y H Q g=>g.un λa b G R d c e h f=>by
 cases b with
 |non=>rw[a0z]at c;show .inl (c,by rw[a3X d];show f _ _ _ _ h (by rw[a0t];rfl) e (.refl _ _))
 |bl b=>
  cases a with
  |bl a=>rw[a0t]at d c;show .inr (_,_,d,c,f _ _ _ _ h.2 (by rw[a0t]) e (.refl _ _))
  |_=>show bj h
 |_=>show bj h
def b4c:OpQ X (gX .IsNot) (zIs kz):=a3g b3E λx y H Q d=>d.un λa b G R g c e h f=>by
 cases b with
 |non=>rw[a0z]at c;show(c,by rw[a3X g];show f _ _ _ _ h (by rw[a0t];rfl) e (.refl _ _))
 |bl b=>
  cases a with
  |bl a=>show nomatch h.1
  |_=>show bj h
 |_=>show bj h
def zIx:R3:=λx y G R=>match x,y with
 |.ref p,.int i=>∃ws w,G p=bH (.lst ws)/\atI ws i=bH w/\R w G
 |.scr _ ns,.int i=>∃n,atI ns i=bH n/\R (.int n) G
 |.tup ws,.int i=>∃w,atI ws i=bH w/\R w G
 |.str z,.int i=>∃c,z.length<=gN/\atI z.cps.toList i=bH c/\R (.str ⟨#[c]⟩) G
 |_,_=>False
def a9i{K:Fg}(r:Reps K H ws vs)(h:atI ws i=bH kR):∃v,atI vs i=bH v/\Rep K H kR v:=by
 unfold atI at h ⊢;rw[<- r.length];cases e:ixN ws.length i with
 |none=>rw[e]at h;cases h
 |some j=>
  rw[e]at h;show r.get h
def b4d{α β:Type}{f:α->β}{xs:List α}{x:α}(h:atI xs i=bH x):atI (xs.map f) i=bH (f x):=by
 unfold atI at h ⊢;rw[a9];cases e:ixN xs.length i with
 |none=>rw[e]at h;cases h
 |some j=>
  rw[e]at h;let a:xs[j]?=bH x:=h
  change _[j]?=bH _
  rw[bo,a];rfl
def x_ix:IxQ X zIx:=b9c b6m λx y H Q s=>s.un λa b G R d f g h i=>by
  cases a<;>cases b<;>first
    |show bj h
    | (rw[a0s]at d
       let(z,w,e,m,h):=h;let(q,k,j):=g _ _ e;let(v,o,l):=a9i j m;show .inl (_,_,_,v,d,f,SqL.of k,o,i _ _ _ _ h l g (.refl _ _)))
    | (rw[a2y]at d
       let(n,u,h):=h;show .inl (_,_,_,_,d.1,f,d.2.sq,b4d u,i _ _ _ _ h (by rw[a0l]) g (.refl _ _)))
    | (rw[a03]at d
       let(p,q,e,k,j):=d;let(w,m,h):=h;let(v,o,l):=a9i j m;show .inr (.inl (p,q,_,v,e,f,SqT.of k,o,i _ _ _ _ h l g (.refl _ _))))
    | (rw[a0u]at d
       let(c,r,t,h):=h;show .inr (.inr (_,_,c,d,f,r,t,i _ _ _ _ h (by rw[a0u]) g (.refl _ _))))
noncomputable def cutZ{α:Type}(xs:List α)(lo hi:Option Int):List α:=(xs.drop (HT.sIx xs.length 0 lo)).take (HT.sIx xs.length xs.length hi-HT.sIx xs.length 0 lo)
def b4e(xs:List V)(lo hi:Option Int):cutV xs lo hi=cutZ xs lo hi:=rfl
def Reps.cut{K:Fg}(r:Reps K H ws vs)(lo hi:Option Int):Reps K H (cutZ ws lo hi) (cutV vs lo hi):=by
 unfold cutZ cutV;rw[<- r.length];show (r.drop _).take _
def b1s{α β:Type}(f:α->β)(xs:List α)(lo hi:Option Int):cutZ (xs.map f) lo hi=(cutZ xs lo hi).map f:=by
 unfold cutZ;rw[a9,eY,List.map_drop]
def zSl:L3r:=λx lo hi G R=>match x with
 |.ref p=>∃ws,G p=bH (.lst ws)/\∀t,G t=gV->R (.ref t) (put G t (.lst (cutZ ws lo hi)))
 |.scr _ ns=>∀t,G t=gV->R (.ref t) (put G t (.lst ((cutZ ns lo hi).map Z.int)))
 |.tup ws=>¬ (HT.sIx ws.length 0 lo=0/\HT.sIx ws.length ws.length hi=ws.length)/\R (.tup (cutZ ws lo hi)) G
 |.str z=>z.length<=gN/\R (.str (Txt.slice z lo hi)) G
 |_=>False
def x_sl:SlQ X zSl:=b9h (sl_list.or (sl_tup.or b67)) λx l k H Q m=>m.un λa G R c d h g=>by
 cases a with
 |ref p=>
  let(n,e,h):=h;let(j,i,f):=d _ _ e;show .inl (p,j,c,SqL.of i,λt b=>g _ _ _ _ (h t (d.out b)) (by rw[a0s]) (d.set (.new b) (a1b (f.cut l k) (.new b))) (.new b))
 |scr p ns=>
  show .inl (p,_,c.1,c.2.sq,λt b=>?_);rw[b4e,b1s];show g _ _ _ _ (h t (d.out b)) (by rw[a0s]) (d.set (.new b) (a1b (a15 _) (.new b))) (.new b)
 |tup n=>
  let(p,j,e,i,f):=c;show .inr (.inl (p,j,e,SqT.of i,by rw[<- f.length];show h.1,λt b=>g _ _ _ _ h.2 (by rw[a03];show(t,_,rfl,a0e,(f.cut l k).mono (.new b))) (d.hid b) (.new b)))
 |str z=>
  show .inr (.inr (z,c,h.1,g _ _ _ _ h.2 (by rw[a0u]) d (.refl _ _)))
 |_=>show bj h
def zSet:Z3:=λo i v G R=>match o,i with
 |.ref p,.int k=>∃ws j,G p=bH (.lst ws)/\ixN ws.length k=bH j/\R (put G p (.lst (ws.set j v)))
 |_,_=>False
def a9j:SetQ X zSet:=b2T b06 λo i v H Q p=>p.un λa b w G R f g l k h q=>by
  cases a<;>cases b<;>first
    |show bj h
    | (rw[a0s]at f
       let(r,j,e,m,h):=h;let(n,c,d):=k _ _ e;show(_,n,_,j,f,g,c,by rw[<- d.length];show m,q _ _ h (k.set (.lst c) (a1b (d.set l j) (.lst c))) (.lst c)))
def zLen:List Z->Hq->K3->Prop:=λxs G R=>match xs with
 |[.str z]=>z.length<=gN/\R (.int z.length) G
 |[.ref p]=>∃ws,G p=bH (.lst ws)/\R (.int ws.length) G
 |[.tup ws]=>R (.int ws.length) G
 |[.scr _ ns]=>R (.int ns.length) G
 |_=>False
def b9t:a1R X (.builtin "len") zLen:=a1j b0Z λl H Q k=>k.un λj G R c a h d=>by
 match j,h with
 |[.str z],h=>
  let(v,rfl,r):=c.one;show(v,z.length,rfl,by rw[r];show(h.1,rfl),d _ _ _ _ h.2 (by rw[a0l]) a (.refl _ _))
 |[.ref p],h=>
  let(v,rfl,r):=c.one;let(i,e,h):=h;let(g,f,b):=a _ _ e;show(v,i.length,rfl,by rw[r];show .inl (g,SqL.of f,b.length),d _ _ _ _ h (by rw[a0l]) a (.refl _ _))
 |[.tup i],h=>
  let(v,rfl,r):=c.one;let(p,g,e,f,b):=r;show(v,i.length,rfl,by rw[e];show .inr (g,SqT.of f,b.length),d _ _ _ _ h (by rw[a0l]) a (.refl _ _))
 |[.scr p ns],h=>
  let(v,rfl,r):=c.one;show(v,ns.length,rfl,by rw[r.1];show .inl (_,r.2.sq,(a9 ..).symm),d _ _ _ _ h (by rw[a0l]) a (.refl _ _))
def zMM(f:Int->Int->Int):List Z->Hq->K3->Prop:=λxs G R=>match xs with
 |[.int i,.int j]=>R (.int (f i j)) G
 |_=>False
def bMM{id:String}(hf:CallR X (.builtin id) (λxs H Q=>∃i j,xs=[.int i,.int j]/\Q (.int (f i j)) H)):a1R X (.builtin id) (zMM f):=a1j hf λl H Q d=>d.un λc G R e b h g=>by
 match c,h with
 |[.int i,.int j],h=>
  let(v,k,rfl,r,a):=e.two;show(i,j,by rw[r,a],g _ _ _ _ h (by rw[a0l]) b (.refl _ _))
def b9u(hc:X.calm=kz):a1R X (.builtin "max") (zMM λi j=>if j > i then j else i):=bMM (a8t hc)
def b9v(hc:X.calm=kz):a1R X (.builtin "min") (zMM λi j=>if j<i then j else i):=bMM (a8u hc)
def zAll:List Z->Hq->K3->Prop:=λxs G R=>match xs with
 |[.ref p]=>∃bs:List Bool,G p=bH (.lst (bs.map Z.bl))/\R (.bl (bs.all id)) G
 |_=>False
def b1t{K:Fg}:∀{bs:List Bool}{vs:List V},Reps K H (bs.map Z.bl) vs->vs=bs.map V.bl:=by ext z0;induction z0 with
 |nil=>ext vs h;rw[bN,a0n]at h;subst h;rfl
 |cons n ns I0=>
  ext vs h;let(v,r,rfl,a,b):=h;rw[a,I0 b];rfl
def b68(hc:X.calm=kz):a1R X (.builtin "all") zAll:=a1j (a9h hc) λl H Q f=>f.un λd G R c a h j=>by
 match d,h with
 |[.ref p],h=>
  let(v,rfl,r):=c.one;let(g,e,h):=h;let(k,i,b):=a _ _ e
  let:=b1t b
  subst this;show(p,g,by rw[r],SqL.of i,j _ _ _ _ h (by rw[a0t]) a (.refl _ _))
noncomputable def kit0(n T:String):Option Bool:=if (Value.type n==Value.type T)=kz then bH kz else if PySem.W.kitMeta T=kz then (PySem.fastBuiltinMro n).map (·.contains (.type T)) else gV
def b2X{K:Fg}:PySem.W.kitOne K (.type n) (.type T)=kit0 n T:=rfl
noncomputable def tyN(G:Hq):Z->Option String
 |.non=>bH "NoneType"
 |.bl _=>bH "bool"
 |.int _=>bH "int"
 |.str _=>bH "str"
 |.tup _=>bH "tuple"
 |.ref p=>match G p with
  |some (.lst _)=>bH "list"
  |some (.dK _)=>bH "dict"
  |_=>gV
 |_=>gV
def zIsT:List Z->Hq->K3->Prop:=λxs G R=>match xs with
 |[x,.ty T]=>∃n b,tyN G x=bH n/\kit0 n T=bH b/\R (.bl b) G
 |_=>False
def a6K{K:Fg}(h:tyN G x=bH n)(r:Rep K H x v)(hg:RH K G H):TyOf K H v (.type n):=by
 cases x with
 |non=>rw[a0z]at r;subst r;cases h;show .non
 |bl _=>rw[a0t]at r;subst r;cases h;show .bl _
 |int _=>rw[a0l]at r;subst r;cases h;show .int _
 |str _=>rw[a0u]at r;subst r;cases h;show .str _
 |tup ws=>rw[a03]at r;let(a,c,rfl,e,_):=r;cases h;show .tup e
 |ref p=>
  subst r;cases e:G p with
  |none=>simp[tyN,e]at h
  |some o=>
   cases o with
   |lst ws=>simp[tyN,e]at h;subst h;let(c,b,_):=hg _ _ e;show .lst b
   |dK kvs=>simp[tyN,e]at h;subst h;let(c,b,_):=hg _ _ e;show .dK b
   |ins C dx fs=>simp[tyN,e]at h
   |dF kvs=>simp[tyN,e]at h
   |dT ks=>simp[tyN,e]at h
   |tab _ _=>simp[tyN,e]at h
 |ty _=>cases h
 |scr _ _=>cases h
def b9w:a1R X (.builtin "isinstance") zIsT:=a1j b1j λl H Q g=>g.un λf G R d a h i=>by
 match f,h with
 |[x,.ty T],h=>
  let(v,j,rfl,r,c):=d.two;let(n,b,e,k,h):=h;show(v,T,.type n,b,by rw[c],a6K e r a,by rw[b2X];show k,i _ _ _ _ h (by rw[a0t]) a (.refl _ _))
def a3j:Z->List Z->Hq->K3->Prop:=λx xs G R=>match x,xs with
 |.ref p,[y]=>∃ws,G p=bH (.lst ws)/\ws.length<gN/\R .non (put G p (.lst (ws++[y])))
 |_,_=>False
def a6L:MtQ X "list.append" a3j:=a7E a4T λx n H Q j=>j.un λw k G R c f d h l=>by
 match w,k,h with
 |.ref p,[y],h=>
  let(v,rfl,r):=f.one;let(m,e,g,h):=h;let(i,a,b):=d _ _ e;show(p,i,v,c,rfl,a,by rw[<- b.length];show g,l _ _ _ _ h (by rw[a0z]) (d.set (.lst a) (a1b (b.append (.cons r .nil)) (.lst a))) (.lst a))
def a9k:Z->List Z->Hq->K3->Prop:=λx xs G R=>match x,xs with
 |.ref p,[.ref q]=>∃ws ys,G p=bH (.lst ws)/\G q=bH (.lst ys)/\ws.length+ys.length<=gN/\R .non (put G p (.lst (ws++ys)))
 |_,_=>False
def b1u:MtQ X "list.extend" a9k:=a7E a8H λx u H Q m=>m.un λw n G R d i f h s=>by
 match w,n,h with
 |.ref p,[.ref q],h=>
  let(v,rfl,r):=i.one;let(t,y,e,k,j,h):=h;let(l,a,c):=f _ _ e;let(o,g,b):=f _ _ k;show(p,q,l,o,d,by rw[r],a,g,by rw[<- c.length,<- b.length];show j,s _ _ _ _ h (by rw[a0z]) (f.set (.lst a) (a1b (c.append b) (.lst a))) (.lst a))
def b69:E3:=λ_ G R=>∀p,G p=gV->R (.ref p) (put G p (.dK []))
def a9l:QE X (.Dict [] [] pos) b69:=⟨a0J b1a fun τ H Q (σ,G,R,d,b,h,c) p a=>c _ _ _ _ (h p (b.out a)) (by rw[a0s]) (b.set (.new a) ([],a0e,rfl,.nil)) (.new a)⟩
noncomputable def a2W(x:Str):List Z:=x.cps.toList.map λc=>.str ⟨#[c]⟩
def wkS(x:Z)(G:Hq)(R:List Z->(Hq->Prop)->Hq->Prop):Prop:=match x with
 |.str z=>R (a2W z) (λ_=>True) G
 |_=>False
def iS(tl:E3):I3:=fun σ G R=>tl σ G λx G1=>wkS x G1 R
def a9m{K:Fg}:a2V K (a2W x) (λ_=>True) (Its x) H0:=λi G H f t j k=>by
 let e:(a2W x).length=x.cps.size:=by unfold a2W;rw[a9,bI]
 show(λh=>by rw[h,e];rfl,λw a=>?_);unfold a2W at a;rw[bo]at a;cases hc:x.cps.toList[i]? with
 |none=>rw[hc]at a;cases a
 |some c=>
  rw[hc]at a;cases a;let b:x.cps[i]?=bH c:=by simp_all
  show((et.mp b).1,?_);ext v l ⟨rfl,g,d,rfl⟩;rw[b]at d;cases d;show(by rw[a0u],f,.refl _ _)
def b7a(hl:QE X l tl):QI X tg l (iS tl):=a40 (b65 hl.p) fun τ H j g=>g.un fun σ G R f e h i=>by
 show(σ,G,_,f,e,h,λw m v k a c b d=>?_);cases w with
 |str x=>
  show(x,c,i _ _ _ _ _ a a9m b d)
 |_=>show bj a
section
variable{σ:S3}{G:Hq}{R:K3}{Rb:Bool->Hq->Prop}{Ra:List Z->Hq->Prop}{nx bk ct:C3}{rt:K3}{t u:X3}{te ta tb tc ti:E3}{c d:T3}{al:A3}{r r':R3}{w x y:Z}{i:Nat}
def b9x(e:σ[i]?=bH (bH w))(h:R w G):uVar i σ G R:=(w,e,h)
def i_c(h:R w G):uC w σ G R:=h
def i_op(h:ta σ G λx G1=>tb σ G1 λy G2=>r x y G2 R):uOp r ta tb σ G R:=h
def i_un{r:Z->Hq->K3->Prop}(h:ta σ G λx G1=>r x G1 R):uUn r ta σ G R:=h
def b7b(h:ta σ G λx G1=>∃k,x=.bl k/\Rb k G1):a81 ta σ G Rb:=h
def b4f(h:ta σ G λx G1=>tb σ G1 λy G2=>r x y G2 λz G3=>∃k,z=.bl k/\(if k=kz then tc σ G3 λw G4=>r' y w G4 R else R (.bl kQ) G3)):a6I r r' ta tb tc σ G R:=h
def b9y(h:c σ G λk G1=>if k=kz then d σ G1 Rb else Rb kQ G1):uAnd c d σ G Rb:=h
def i_or(h:c σ G λk G1=>if k=kz then Rb kz G1 else d σ G1 Rb):uOr c d σ G Rb:=h
def b9z(h:c σ G λk G1=>Rb (!k) G1):uNot c σ G Rb:=h
def b7c(h:ta σ G λx G1=>∃c,x=.bl c/\if c=kz then tb σ G1 R else R (.bl kQ) G1):b6K ta tb σ G R:=h
def b7d(h:ta σ G λx G1=>∃c,x=.bl c/\R (.bl (!c)) G1):b6L ta σ G R:=h
def i_if(h:c σ G λk G1=>if k=kz then ta σ G1 R else tb σ G1 R):uIf c ta tb σ G R:=h
def b9A(h:ta σ G λx G1=>tru x G1 Rb):uTru ta σ G Rb:=h
def b2Y(e:G p=bH (.lst ws))(h:Rb (!ws.isEmpty) G):tru (.ref p) G Rb:=.inl (ws,e,h)
def i_sl{r:L3r}(h:te σ G λx G1=>tl σ G1 λl G2=>th σ G2 λu G3=>r x l u G3 R):uSl r te tl th σ G R:=h
def b1v(h:Ro gV G):a83 σ G Ro:=h
def b7e(h:te σ G λx G1=>∃i,x=.int i/\Ro (bH i) G1):b6O te σ G Ro:=h
def b9B(h:Ra [] G):uNil σ G Ra:=h
def b7f(h:ta σ G λx G1=>al σ G1 λxs G2=>Ra (x::xs) G2):b3Z ta al σ G Ra:=h
def b9C(h:al σ G λxs G1=>xs.length<=gN/\R (.tup xs) G1):uTup al σ G R:=h
def b9D(h:al σ G λxs G1=>xs.length<=gN/\∀p,G1 p=gV->R (.ref p) (put G1 p (.lst xs))):uLst al σ G R:=h
def i_cb{r:List Z->Hq->K3->Prop}(h:al σ G λws G1=>r ws G1 R):uCB r al σ G R:=h
def i_bm{r:Z->List Z->Hq->K3->Prop}(h:to σ G λx G1=>tyZ T x G1/\al σ G1 λxs G2=>r x xs G2 R):uBM T r to al σ G R:=h
def b7g(h:al σ G λws G1=>sp ws G1 R):b32 sp al σ G R:=h
def b2Z(h:nx σ G):b33 nx rt bk ct σ G:=h
def c0C(h:t (u nx rt bk ct) rt bk ct σ G):uSeq t u nx rt bk ct σ G:=h
def b7h(h:te σ G λ_ G1=>nx σ G1):b6X te nx rt bk ct σ G:=h
def b7i(h:te σ G rt):uRet te nx rt bk ct σ G:=h
def b7j(h:c σ G λb G1=>if b=kz then t nx rt bk ct σ G1 else u nx rt bk ct σ G1):uIfS c t u nx rt bk ct σ G:=h
def b9E(h:te σ G λx G1=>∃σ',a3i pt x σ=bH σ'/\nx σ' G1):uAsg te pt nx rt bk ct σ G:=h
def b9F{r:Z3}(h:te σ G λw G1=>to σ G1 λo G2=>ti σ G2 λi G3=>r o i w G3 λG4=>nx σ G4):uPut te to ti r nx rt bk ct σ G:=h
def b9G(e:σ[i]?=bH (bH x))(h:te σ G λy G1=>r x y G1 λz G2=>nx (σ.set i (bH z)) G2):uAug i te r nx rt bk ct σ G:=(x,e,h)
def a5Y(M:C3)(h:t M rt bk ct σ G)(h':∀σ' G',M σ' G'->u nx rt bk ct σ' G'):uCut t u nx rt bk ct σ G:=(M,h,h')
def b7k(h:ct σ G):b6T nx rt bk ct σ G:=h
def b7l(h:R (.int (a+b)) G):zAdd (.int a) (.int b) G R:=h
def a9n(z:a.length+b.length<=gN)(h:R (.str (a++b)) G):zAdd (.str a) (.str b) G R:=(z,h)
def a6M(e:xs≠[])(z:xs.length+ys.length<=gN)(h:R (.tup (xs++ys)) G):zAdd (.tup xs) (.tup ys) G R:=(e,z,h)
def a3k(e:G p=bH (.lst xs))(e':G q=bH (.lst ys))(z:xs.length+ys.length<=gN)(h:∀t,G t=gV->R (.ref t) (put G t (.lst (xs++ys)))):zAdd (.ref p) (.ref q) G R:=(xs,ys,e,e',z,h)
def i_I(k:C a b)(h:R (g a b) G):zI C g (.int a) (.int b) G R:=(k,h)
def i_I0(h:R (g a b) G):zI0 g (.int a) (.int b) G R:=h
def b9H(h:R (.int (-a)) G):zNeg (.int a) G R:=h
def i_CI(h:R (.bl (f a b)) G):zC f g (.int a) (.int b) G R:=h
def i_CS(h:R (.bl (g a b)) G):zC f g (.str a) (.str b) G R:=h
def b9I(h:R (.bl (decide (x=.non))) G):zIs kQ x .non G R:=h
def b7m(h:R (.bl (!decide (x=.non))) G):zIs kz x .non G R:=h
def b9J(h:R (.bl (f (a==b))) G):zEq f (.bl a) (.bl b) G R:=h
def b7n(h:R (.bl (f (decide (a=b)))) G):zEq f (.int a) (.int b) G R:=h
def b9K(h:R (.bl (f (decide (a=b)))) G):zEq f (.str a) (.str b) G R:=h
def b1w(e:G p=bH (.lst xs))(e':G q=bH (.lst ys))(f1:xs.all (flat 8)=kz)(f2:ys.all (flat 8)=kz)(h:R (.bl (f (decide (xs=ys)))) G):zEq f (.ref p) (.ref q) G R:=(xs,ys,e,e',f1,f2,h)
def a0y(e:G p=bH (.lst ws))(a:atI ws k=bH w)(h:R w G):zIx (.ref p) (.int k) G R:=(ws,w,e,a,h)
def b9L(a:atI ns k=bH n)(h:R (.int n) G):zIx (.scr p ns) (.int k) G R:=(n,a,h)
def a05(a:atI ws k=bH w)(h:R w G):zIx (.tup ws) (.int k) G R:=(w,a,h)
def b4g(l:z.length<=gN)(a:atI z.cps.toList k=bH ch)(h:R (.str ⟨#[ch]⟩) G):zIx (.str z) (.int k) G R:=(ch,l,a,h)
def b7o{lo hi:Option Int}(l:z.length<=gN)(h:R (.str (Txt.slice z lo hi)) G):zSl (.str z) lo hi G R:=(l,h)
def b4h{lo hi:Option Int}(e:G p=bH (.lst ws))(h:∀t,G t=gV->R (.ref t) (put G t (.lst (cutZ ws lo hi)))):zSl (.ref p) lo hi G R:=(ws,e,h)
def b9M{lo hi:Option Int}(h:∀t,G t=gV->R (.ref t) (put G t (.lst ((cutZ ns lo hi).map Z.int)))):zSl (.scr p ns) lo hi G R:=h
def a9o{lo hi:Option Int}(n:¬ (HT.sIx ws.length 0 lo=0/\HT.sIx ws.length ws.length hi=ws.length))(h:R (.tup (cutZ ws lo hi)) G):zSl (.tup ws) lo hi G R:=(n,h)
def a9p(e:G p=bH (.lst ws))(a:ixN ws.length k=bH j)(h:Rg (put G p (.lst (ws.set j w)))):zSet (.ref p) (.int k) w G Rg:=(ws,j,e,a,h)
def b7p(h:∀p,G p=gV->R (.ref p) (put G p (.dK []))):b69 σ G R:=h
def a9q(l:z.length<=gN)(h:R (.int z.length) G):zLen [.str z] G R:=(l,h)
def a2O(e:G p=bH (.lst ws))(h:R (.int ws.length) G):zLen [.ref p] G R:=(ws,e,h)
def b7q(h:R (.int ns.length) G):zLen [.scr p ns] G R:=h
def i_mm(h:R (.int (f a b)) G):zMM f [.int a,.int b] G R:=h
def b9N{bs:List Bool}(e:G p=bH (.lst (bs.map Z.bl)))(h:R (.bl (bs.all id)) G):zAll [.ref p] G R:=(bs,e,h)
def a1c(e:tyN G x=bH n)(k:kit0 n T=bH b)(h:R (.bl b) G):zIsT [x,.ty T] G R:=(n,b,e,k,h)
def a0v(e:G p=bH (.lst ws))(z:ws.length<gN)(h:R .non (put G p (.lst (ws++[y])))):a3j (.ref p) [y] G R:=(ws,e,z,h)
def a6N(e:G p=bH (.lst ws))(e':G q=bH (.lst ys))(z:ws.length+ys.length<=gN)(h:R .non (put G p (.lst (ws++ys)))):a9k (.ref p) [.ref q] G R:=(ws,ys,e,e',z,h)
def b9O{P:Prop}(h:P):tyZ "str" (.str z) G/\P:=(rfl,h)
def a0Y{P:Prop}(e:G p=bH (.lst ws))(h:P):tyZ "list" (.ref p) G/\P:=(.inl (rfl,ws,e),h)
def i_nm(h:nx (σ.set j (bH w)) G):∃σ',a3i (.nm j) w σ=bH σ'/\nx σ' G:=(_,rfl,h)
def b9P(e:G q=bH (.lst ws))(f1:flat 8 x=kz)(f2:ws.all (flat 8)=kz)(h:R (.bl (f (decide (x∈ws)))) G):zIn f x (.ref q) G R:=by cases x<;>show(ws,e,f1,f2,h)
def b7r{tb:X3}(h:wi σ G λws ok G1=>FORB ws ok pt tb nx rt σ G1):uFor wi pt tb nx rt bk ct σ G:=h
def b9Q(h:wi σ G λws ok G1=>∀D,G1 D=gV->LCB ws ok cap pt tt te σ R D G1):uLC wi cap pt tt te σ G R:=h
variable{Ri:List Z->(Hq->Prop)->Hq->Prop}
def i_iL(h:te σ G λx G1=>wkL x G1 Ri):iL te σ G Ri:=h
def i_iT(h:te σ G λx G1=>wkT x G1 Ri):iT te σ G Ri:=h
def i_iS(h:te σ G λx G1=>wkS x G1 Ri):iS te σ G Ri:=h
def b9R(h:al σ G λws G1=>∃j:Int,ws=[.int j]/\-(2 ^ 62)<=j/\j<2 ^ 62/\Ri (rng 0 j.toNat) (λ_=>True) G1):iR1 al σ G Ri:=h
def a1u(e:G p=bH (.lst ws))(h:Ri ws (λG=>G p=bH (.lst ws)) G):wkL (.ref p) G Ri:=(ws,e,h)
def b9S(h:Ri ws (λ_=>True) G):wkT (.tup ws) G Ri:=h
def b9T(h:Ri (a2W z) (λ_=>True) G):wkS (.str z) G Ri:=h
def i_tt(h:Rb kz G):uTT σ G Rb:=h
end
def ifD{p A B:Prop}[Decidable p](h1:p->A)(h2:¬ p->B):if decide p=kz then A else B:=by simp_all
def ifN{p A B:Prop}[Decidable p](h1:¬ p->A)(h2:p->B):if (!decide p)=kz then A else B:=by simp_all
def ifB{A B:Prop}(h1:b=kz->A)(h2:b=kQ->B):if b=kz then A else B:=by simp_all
def ifNB{A B:Prop}(h1:b=kQ->A)(h2:b=kz->B):if (!b)=kz then A else B:=by grind
def ifT{A B:Prop}(h:A):if kz=kz then A else B:=by rw[if_pos rfl];show h
def ifF{A B:Prop}(h:B):if kQ=kz then A else B:=by rw[if_neg (by decide)];show h
def ifNN{A B:Prop}(h:A):if decide (Z.non=Z.non)=kz then A else B:=by simp_all
def ifNI{A B:Prop}(h:B):if decide (Z.int i=Z.non)=kz then A else B:=by rw[if_neg (by simp)];show h
def ifNS{A B:Prop}(h:B):if decide (Z.str i=Z.non)=kz then A else B:=by rw[if_neg (by simp)];show h
def ifMN{A B:Prop}(h:B):if (!decide (Z.non=Z.non))=kz then A else B:=by rw[if_neg (by simp)];show h
def ifMI{A B:Prop}(h:A):if (!decide (Z.int i=Z.non))=kz then A else B:=by rw[if_pos (by simp)];show h
def at0{α:Type}{a:α}{r:List α}:atI (a::r) 0=bH a:=a0O (j:=0) rfl
def at1{α:Type}{a b:α}{r:List α}:atI (a::b::r) 1=bH b:=a0O (j:=1) rfl
def at2{α:Type}{a b c:α}{r:List α}:atI (a::b::c::r) 2=bH c:=a0O (j:=2) rfl
def Sm(G G':Hq):Prop:=∀b o,G b=bH o->G' b=bH o
def Sm.refl(G:Hq):Sm G G:=λ_ _ h=>h
def Sm.trans(a:Sm G G1)(b:Sm G1 G2):Sm G G2:=λc o h=>b c o (a c o h)
def Sm.get(s:Sm G G')(h:G b=bH o):G' b=bH o:=s b o h
def Sm.new(h:G p=gV):Sm G (put G p o):=λ_ _ e=>a0b e h
def Sm.free(s:Sm G G')(h:G' p=gV):G p=gV:=by
 cases e:G p with
 |none=>rfl
 |some o=>rw[s p o e]at h;cases h
def Kq(r:Addr)(G G':Hq):Prop:=∀b o,G b=bH o->b≠r->G' b=bH o
def Kq.refl(r:Addr)(G:Hq):Kq r G G:=λ_ _ h _=>h
def Kq.trans(a:Kq r G G1)(b:Kq r G1 G2):Kq r G G2:=λc o h n=>b c o (a c o h n) n
def Kq.new(h:G p=gV):Kq r G (put G p o):=λ_ _ e _=>a0b e h
def Kq.at:Kq r G (put G r o):=λ_ _ e n=>by rw[a0h n];show e
def Sm.kq(s:Sm G G'):Kq r G G':=λb o e _=>s b o e
noncomputable def Sm.put(s:Sm G G')(h:G p=gV):Sm G (put G' p o):=λb u e=>by rw[a0h (a0i e h)];show s b u e
namespace Tim
abbrev KF:=Keyed->Int
noncomputable def Kk(κ:KF)(xs:Array Keyed)(i:Nat):Int:=match xs[i]? with
 |some p=>κ p
 |none=>0
section
variable{xs ys:Array Keyed}{i j:Nat}{p:Keyed}
def a5Z(h:xs[i]?=bH p):Kk κ xs i=κ p:=by unfold Kk;rw[h]
def a3l(h:xs[i]?=ys[j]?):Kk κ xs i=Kk κ ys j:=by unfold Kk;rw[h]
end
def LtOk(M:Model)(A:Around)(E:Value->Shared->Prop)(s:Shared)(κ:KF)(k0:iz)(ajj:Array Keyed):Prop:=
 ∀x y,x∈ajj.toList->y∈ajj.toList->∀(st:SortSt)(Q:Option Bool->SortSt->Prop),kindOf st=k0->Q (bH (decide (κ x<κ y))) st->wpS M A E s (lt' x y) Q st
structure TB (k0:iz) (ajj:Array Keyed) (st:SortSt):Prop where
 pm:(arrOf st).Perm ajj
 kd:kindOf st=k0
 fl:ir st=gV
def TB.sz{st:SortSt}(h:TB k0 ajj st):(arrOf st).size=ajj.size:=h.pm.size_eq
def TB.mem{st:SortSt}(h:TB k0 ajj st){i:Nat}(e:(arrOf st)[i]?=bH p):p∈ajj.toList:=by
 let a:p∈(arrOf st).toList:=by rw[fL];show Array.mem_of_getElem? e
 show (dP.mp h.pm).mem_iff.mp a
def TB.arr{st:SortSt}(h:TB k0 ajj st)(hp:xs.Perm (arrOf st)):TB k0 ajj (setArr st xs):=(hp.trans h.pm,h.kd,h.fl)
section
variable{M:Model}{k0:iz}{ajj:Array Keyed}{st:SortSt}
def a0C(e:arr[i]?=bH p)(h:Q p st):wpS M A E s (elem' arr i) Q st:=by
 rw[elem'_eq,e];show gR h
def a42(L:LtOk M A E s κ k0 ajj)(B:TB k0 ajj st)(hi:i<ajj.size)(hj:j<ajj.size)
  (h:Q (bH (decide (Kk κ (arrOf st) i<Kk κ (arrOf st) j))) st):wpS M A E s (ltAt' i j) Q st:=by
 let b:_[i]?=bH ((arrOf st)[i]'(B.sz▸hi)):=getElem?_pos ..;let a:(arrOf st)[j]?=bH ((arrOf st)[j]'(B.sz▸hj)):=getElem?_pos ..;show gO (iE (gO (a0C b (gO (a0C a (L _ _ (B.mem b) (B.mem a) st Q B.kd ?_))))));rw[a5Z b,a5Z a]at h;show h
end
noncomputable def a1B:Bool->Keyed->Array Keyed->Nat->Nat->Nat->StateT SortSt Sem (Option Nat):=sortPriv% PySem.Builtin.gallop
noncomputable def bey(lft:Bool)(ky:Keyed)(ar:Array Keyed)(bs:Nat)(q:Nat):StateT SortSt Sem (Option Bool):=do
  let z <- elem' ar (bs+q)
  if lft then lt' z ky else return (<- lt' ky z).map (!·)
def a7I(lft:Bool)(ky:Keyed)(ar:Array Keyed)(bs n hnt:Nat):a1B lft ky ar bs n hnt=(do
 let mut lst:=0
 let mut oo:=1
 let mut l:=0
 let mut h:=0
 let bH rgt <- bey lft ky ar bs hnt |return gV
 if rgt then
  let mx:=n-hnt
  for _ in [0:n] do
   if oo>=mx then break
   let bH mo <- bey lft ky ar bs (hnt+oo) |return gV
   if !mo then break
   lst:=oo
   oo:=2*oo+1
  l:=hnt+lst+1
  h:=hnt+min oo mx
 else
  let mx:=hnt+1
  for _ in [0:n] do
   if oo>=mx then break
   let bH fo <- bey lft ky ar bs (hnt-oo) |return gV
   if fo then break
   lst:=oo
   oo:=2*oo+1
  l:=hnt+1-min oo mx
  h:=hnt-lst
 for _ in [0:n] do
  if l>=h then break
  let m:=l+(h-l) / 2
  let bH mo <- bey lft ky ar bs m |return gV
  if mo then l:=m+1 else h:=m
 return bH h):=rfl
noncomputable def bq(lft:Bool)(k x:Int):Bool:=if lft then decide (x<k) else !decide (k<x)
section
variable{M:Model}{k0:iz}{ajj:Array Keyed}{st:SortSt}
def a9r(L:LtOk M A E s κ k0 ajj)(hk:kindOf st=k0)(hm:ky∈ajj.toList)(ha:∀p∈ar.toList,p∈ajj.toList)(hq:bs+q<ar.size)
  (h:Q (bH (bq lft (κ ky) (Kk κ ar (bs+q)))) st):wpS M A E s (bey lft ky ar bs q) Q st:=by
 let b:ar[bs+q]?=bH (ar[bs+q]'hq):=getElem?_pos ..;let a:ar[bs+q]∈ajj.toList:=ha _ (by simp);show gO (a0C b ?_);rw[a5Z b]at h;cases lft with
 |true=>
  show L _ _ a hm st Q hk h
 |false=>
  show gO (L _ _ hm a st _ hk (gR h))
def hvN{l r:Nat}(h:¬ l>=r):l<=l+(r-l) / 2/\l+(r-l) / 2<r:=by cbv
def hvM{p q:Nat}(h:¬ p>=q):p<=(p+q) / 2/\(p+q) / 2<q:=by cbv
def hvS{k x p q m:Nat}(h:x<k)(h2:q-p<=k-x)(h3:p<=m)(h4:m<q):m-p<=k-(x+1)/\q-(m+1)<=k-(x+1):=by cbv
def hvC{a b n:Nat}(m:a<b)(o:a<=n):n+1-min b (n+1)<=n-a:=by cbv
def hvD{a b h n:Nat}(m:a<b)(o:h+a<n):h+a+1<=h+min b (n-h):=by cbv
def a1E(L:LtOk M A E s κ k0 ajj)(hk:kindOf st=k0)(hm:ky∈ajj.toList)(ha:∀p∈ar.toList,p∈ajj.toList)
  (hn:bs+n<=ar.size) (hh:hnt<n) (mono:∀i j,i<=j->j<n->Kk κ ar (bs+i)<=Kk κ ar (bs+j))
  (h:∀h,h<=n->(∀i,i<h->bq lft (κ ky) (Kk κ ar (bs+i))=kz)->(∀i,h<=i->i<n->bq lft (κ ky) (Kk κ ar (bs+i))=kQ)->Q (bH h) st):wpS M A E s (a1B lft ky ar bs n hnt) Q st:=by
 let t:∀i j,i<=j->j<n->bq lft (κ ky) (Kk κ ar (bs+j))=kz->bq lft (κ ky) (Kk κ ar (bs+i))=kz:=λi j C F H=>by
  let:=mono i j C F
  unfold bq at *;cases lft<;>simp at *<;>lia
 let D:∀i j,i<=j->j<n->bq lft (κ ky) (Kk κ ar (bs+i))=kQ->bq lft (κ ky) (Kk κ ar (bs+j))=kQ:=λi j C F H=>by grind
 rw[a7I];show gO (a9r L hk hm ha (by lia) ?_);dsimp only;cases e0:bq lft (κ ky) (Kk κ ar (bs+hnt)) with
 |true=>
  rw[if_pos rfl];show gO (ip (ii (I:=λx c d=>d=st/\Ex2 λa b=>An5 (c=(gV,a,b,)) (a<b) (x+1<=b) (hnt+a<n) (bq lft (κ ky) (Kk κ ar (bs+(hnt+a)))=kz))
   (Q:=λc d=>d=st/\Ex2 λa b=>An5 (c=(gV,a,b,)) (a<b) (hnt+a<n) (bq lft (κ ky) (Kk κ ar (bs+(hnt+a)))=kz) (n-hnt<=b\/(hnt+b<n/\bq lft (κ ky) (Kk κ ar (bs+(hnt+b)))=kQ))) ?step ?fin ?init) ?post)
  case init=>show(rfl,0,1,rfl,by lia,by lia,by lia,e0)
  case fin=>
   ext c d ⟨rfl,a,b,rfl,m,k,o,f⟩;show(rfl,a,b,rfl,m,o,f,.inl (by lia))
  case step=>
   ext x c d _ G ⟨rfl,a,b,rfl,m,k,o,f⟩;dsimp only
   by_cases hge:b>=n-hnt
   .rw[if_pos hge];show gR (rfl,a,b,rfl,m,o,f,.inl hge)
   .rw[if_neg hge];show gO (a9r L hk hm ha (by lia) ?_);cases e:bq lft (κ ky) (Kk κ ar (bs+(hnt+b))) with
    |true=>
     dsimp only;rw[if_neg (by decide)];show gR (rfl,b,2*b+1,rfl,by lia,by lia,by lia,e)
    |false=>
     dsimp only;rw[if_pos (show (!false)=kz from rfl)];show gR (rfl,a,b,rfl,m,o,f,.inr (by lia,e))
  case post=>
   ext c d ⟨y,a,b,rfl,m,o,f,g⟩;let y:=y.symm;subst y;dsimp only;let q:=hvD m o;let w:hnt+min b (n-hnt)<=n:=by lia
   let v:∀i,i<hnt+a+1->bq lft (κ ky) (Kk κ ar (bs+i))=kz:=λi J=>t i _ (by lia) (by lia) f;let u:∀i,hnt+min b (n-hnt)<=i->i<n->bq lft (κ ky) (Kk κ ar (bs+i))=kQ:=λi B z=>by grind
   generalize hnt+a+1=l0 at q v ⊢;generalize hnt+min b (n-hnt)=h0 at q w u ⊢;show gO (ip (ii (I:=λx c d=>d=st/\Ex2 λl r=>An6 (c=(gV,l,r,)) (l<=r) (r<=n) (r-l<=n-x) (∀i,i<l->bq lft (κ ky) (Kk κ ar (bs+i))=kz) (∀i,r<=i->i<n->bq lft (κ ky) (Kk κ ar (bs+i))=kQ))
    (Q:=λc d=>d=st/\∃l,An4 (c=(gV,l,l,)) (l<=n) (∀i,i<l->bq lft (κ ky) (Kk κ ar (bs+i))=kz) (∀i,l<=i->i<n->bq lft (κ ky) (Kk κ ar (bs+i))=kQ)) ?st2 ?fi2 ?in2) ?po2)
   case in2=>show(rfl,l0,h0,rfl,q,w,by lia,v,u)
   case fi2=>
    ext c d ⟨rfl,l,r,rfl,m,k,o,f,g⟩
    let:l=r:=by lia
    subst this;show(rfl,l,rfl,k,f,g)
   case st2=>
    ext x c d _ G ⟨rfl,l,r,rfl,m,k,o,f,g⟩;dsimp only
    by_cases hge:l>=r
    .rw[if_pos hge]
     let:l=r:=by lia
     subst this;show gR (rfl,l,rfl,k,f,g)
    .rw[if_neg hge];show gO (a9r L hk hm ha (by lia) ?_);cases e:bq lft (κ ky) (Kk κ ar (bs+(l+(r-l) / 2))) with
     |true=>
      dsimp only;rw[if_pos rfl];show gR (rfl,_,r,rfl,(hvN hge).2,k,(hvS G o (hvN hge).1 (hvN hge).2).2,λi J=>t i _ (by lia) (by lia) e,g)
     |false=>
      dsimp only;rw[if_neg (by decide)];show gR (rfl,l,_,rfl,(hvN hge).1,by lia,(hvS G o (hvN hge).1 (hvN hge).2).1,f,λi B z=>D _ i B z e)
   case po2=>
    ext c d ⟨rfl,l,rfl,k,f,g⟩;show gR (h l k f g)
 |false=>
  rw[if_neg (by decide)];show gO (ip (ii (I:=λx c d=>d=st/\Ex2 λa b=>An5 (c=(gV,a,b,)) (a<b) (x+1<=b) (a<=hnt) (bq lft (κ ky) (Kk κ ar (bs+(hnt-a)))=kQ))
   (Q:=λc d=>d=st/\Ex2 λa b=>An5 (c=(gV,a,b,)) (a<b) (a<=hnt) (bq lft (κ ky) (Kk κ ar (bs+(hnt-a)))=kQ) (hnt+1<=b\/(b<=hnt/\bq lft (κ ky) (Kk κ ar (bs+(hnt-b)))=kz))) ?step ?fin ?init) ?post)
  case init=>show(rfl,0,1,rfl,by lia,by lia,by lia,e0)
  case fin=>
   ext c d ⟨rfl,a,b,rfl,m,k,o,f⟩;show(rfl,a,b,rfl,m,o,f,.inl (by lia))
  case step=>
   ext x c d _ G ⟨rfl,a,b,rfl,m,k,o,f⟩;dsimp only
   by_cases hge:b>=hnt+1
   .rw[if_pos hge];show gR (rfl,a,b,rfl,m,o,f,.inl hge)
   .rw[if_neg hge];show gO (a9r L hk hm ha (by lia) ?_);cases e:bq lft (κ ky) (Kk κ ar (bs+(hnt-b))) with
    |true=>
     dsimp only;rw[if_pos rfl];show gR (rfl,a,b,rfl,m,o,f,.inr (by lia,e))
    |false=>
     dsimp only;rw[if_neg (by decide)];show gR (rfl,b,2*b+1,rfl,by lia,by lia,by lia,e)
  case post=>
   ext c d ⟨y,a,b,rfl,m,o,f,g⟩;let y:=y.symm;subst y;dsimp only;let q:=hvC m o;let w:hnt-a<=n:=by lia
   let v:∀i,i<hnt+1-min b (hnt+1)->bq lft (κ ky) (Kk κ ar (bs+i))=kz:=λi J=>g.elim (λz=>by cbv) λz=>t i _ (by cbv) (by cbv) z.2;let u:=λi B z=>D _ i B z f;generalize hnt+1-min b (hnt+1)=l0 at q v ⊢;generalize hnt-a=h0 at q w u ⊢;show gO (ip (ii (I:=λx c d=>d=st/\Ex2 λl r=>An6 (c=(gV,l,r,)) (l<=r) (r<=n) (r-l<=n-x) (∀i,i<l->bq lft (κ ky) (Kk κ ar (bs+i))=kz) (∀i,r<=i->i<n->bq lft (κ ky) (Kk κ ar (bs+i))=kQ))
    (Q:=λc d=>d=st/\∃l,An4 (c=(gV,l,l,)) (l<=n) (∀i,i<l->bq lft (κ ky) (Kk κ ar (bs+i))=kz) (∀i,l<=i->i<n->bq lft (κ ky) (Kk κ ar (bs+i))=kQ)) ?st2 ?fi2 ?in2) ?po2)
   case in2=>show(rfl,l0,h0,rfl,q,w,by lia,v,u)
   case fi2=>
    ext c d ⟨rfl,l,r,rfl,m,k,o,f,g⟩
    let:l=r:=by lia
    subst this;show(rfl,l,rfl,k,f,g)
   case st2=>
    ext x c d _ G ⟨rfl,l,r,rfl,m,k,o,f,g⟩;dsimp only
    by_cases hge:l>=r
    .rw[if_pos hge]
     let:l=r:=by lia
     subst this;show gR (rfl,l,rfl,k,f,g)
    .rw[if_neg hge];show gO (a9r L hk hm ha (by lia) ?_);cases e:bq lft (κ ky) (Kk κ ar (bs+(l+(r-l) / 2))) with
     |true=>
      dsimp only;rw[if_pos rfl];show gR (rfl,_,r,rfl,(hvN hge).2,k,(hvS G o (hvN hge).1 (hvN hge).2).2,λi J=>t i _ (by lia) (by lia) e,g)
     |false=>
      dsimp only;rw[if_neg (by decide)];show gR (rfl,l,_,rfl,(hvN hge).1,by lia,(hvS G o (hvN hge).1 (hvN hge).2).1,f,λi B z=>D _ i B z e)
   case po2=>
    ext c d ⟨rfl,l,rfl,k,f,g⟩;show gR (h l k f g)
end
noncomputable def a9s:Nat->StateT SortSt Sem Unit:=sortPriv% PySem.Builtin.setMinGallop
def a4k(g:Nat):a9s g=modify λs=>SortSt.mk' (kindOf s) (arrOf s) (gY s) g (ir s):=rfl
noncomputable def a4l:Array Keyed->Array Keyed->StateT SortSt Sem (Array Keyed):=sortPriv% PySem.Builtin.mergeLo
abbrev dnA(a b o:Array Keyed)(i j:Nat):Array Keyed:=o++a.extract i a.size++b.extract j b.size
abbrev dnB(a b o:Array Keyed)(i j:Nat):Array Keyed:=o++b.extract j b.size++a.extract i a.size
section
variable{A B o:List Keyed}{i j:Nat}{p:Keyed}
abbrev Srt(κ:KF)(l:List Keyed):Prop:=l.Pairwise λx y=>κ x<=κ y
structure MW (κ:KF) (A B o:List Keyed) (i j:Nat):Prop where
 ia:i<=A.length
 jb:j<=B.length
 pm:(o++(A.drop i++B.drop j)).Perm (A++B)
 so:Srt κ o
 ba:∀x∈o,∀y∈A.drop i,κ x<=κ y
 bb:∀x∈o,∀y∈B.drop j,κ x<=κ y
theorem MW.size(W:MW κ A B o i j):o.length=i+j:=by
 let:=W.pm.length_eq
 let b:=W.ia;let a:=W.jb;simp at this
 lia
def drop_get{l:List Keyed}(h:l[n]?=bH p):l.drop n=p::l.drop (n+1):=by
 let(a,e):=bh.mp h;rw[cX a,e]
def a6O(h:Srt κ l)(hb:∀x∈l,κ x<=κ p):Srt κ (l++[p]):=by
 show bO.mpr (h,eZ _ _,λx b y a=>?_);rw[bg.mp a];show hb x b
def a0Z(h:Srt κ l)(n:Nat):Srt κ (l.drop n):=cV.sublist (e7 n l) h
def MW.pushA(W:MW κ A B o i j)(sa:Srt κ A)(hp:A[i]?=bH p)(hb:∀y∈B.drop j,κ p<=κ y):MW κ A B (o++[p]) (i+1) j:=by
 let c:=drop_get hp;show(((bh.mp hp).1),W.jb,?_,a6O W.so λx b=>W.ba x b p (by simp_all),λx b y a=>?_,λx b y a=>?_)
 .let:=W.pm
  rw[c]at this;o_head this
 .let h||h:=be.mp b
  .show W.ba x h y (by simp_all)
  .rw[bg.mp h];show (bz.mp (c▸a0Z sa i)).1 y a
 .let h||h:=be.mp b
  .show W.bb x h y a
  .rw[bg.mp h];show hb y a
def MW.pushB(W:MW κ A B o i j)(sb:Srt κ B)(hp:B[j]?=bH p)(hb:∀y∈A.drop i,κ p<=κ y):MW κ A B (o++[p]) i (j+1):=by
 let c:=drop_get hp;show(W.ia,((bh.mp hp).1),?_,a6O W.so λx b=>W.bb x b p (by simp_all),λx b y a=>?_,λx b y a=>?_)
 .let:=W.pm
  rw[c]at this;show bP.trans ?_ this;rw[bS];show bP.append_left o (show (p::(A.drop i++B.drop _)).Perm _ from fS.symm)
 .let h||h:=be.mp b
  .show W.ba x h y a
  .rw[bg.mp h];show hb y a
 .let h||h:=be.mp b
  .show W.bb x h y (by simp_all)
  .rw[bg.mp h];show (bz.mp (c▸a0Z sb j)).1 y a
def take_snoc{l:List Keyed}(h:l[n+k]?=bH p):(l.drop n).take (k+1)=(l.drop n).take k++[p]:=by
 rw[cG,dr,h];rfl
def MW.runA(W:MW κ A B o i j)(sa:Srt κ A):∀k,i+k<=A.length->(∀q z,i<=q->q<i+k->A[q]?=bH z->∀y∈B.drop j,κ z<=κ y)->MW κ A B (o++(A.drop i).take k) (i+k) j:=by ext z0;induction z0 with
 |zero=>ext _ _;o_head W
 |succ k I0=>
  ext hk hz;let e:A[i+k]?=bH A[i+k]:=bn (by lia);rw[take_snoc e,<- bS];show (I0 (by lia) λq z a c=>hz q z a (by lia)).pushA sa e (hz _ _ (by lia) (by lia) e)
def MW.runB(W:MW κ A B o i j)(sb:Srt κ B):∀k,j+k<=B.length->(∀q z,j<=q->q<j+k->B[q]?=bH z->∀y∈A.drop i,κ z<=κ y)->MW κ A B (o++(B.drop j).take k) i (j+k):=by ext z0;induction z0 with
 |zero=>ext _ _;o_head W
 |succ k I0=>
  ext hk hz;let e:B[j+k]?=bH B[j+k]:=bn (by lia);rw[take_snoc e,<- bS];show (I0 (by lia) λq z a c=>hz q z a (by lia)).pushB sb e (hz _ _ (by lia) (by lia) e)
def Mgd(κ:KF)(A B r:List Keyed):Prop:=r.Perm (A++B)/\Srt κ r
def MW.doneA(W:MW κ A B o i j)(sa:Srt κ A)(sb:Srt κ B)(h:i=A.length\/j=B.length):Mgd κ A B (o++A.drop i++B.drop j):=by
 show(by rw[bS];show W.pm,?_);rw[bS];show bO.mpr (W.so,bO.mpr (a0Z sa i,a0Z sb j,λx a y b=>?_),λx a y b=>?_)
 .let rfl||rfl:=h
  .simp_all
  .simp_all
 .let h||h:=be.mp b
  .show W.ba x a y h
  .show W.bb x a y h
theorem MW.doneB(W:MW κ A B o i j)(sa:Srt κ A)(sb:Srt κ B)(h:i+1=A.length)(hl:∀z,A[A.length-1]?=bH z->∀y∈B,κ y<=κ z):Mgd κ A B (o++B.drop j++A.drop i):=by
 show(?_,?_)
 .rw[bS];show bP.trans (bP.append_left o e9) W.pm
 .rw[bS];let e:A[i]?=bH A[i]:=bn (by cbv);let c:A.drop i=[A[i]]:=by rw[drop_get e,dQ (by lia)]
  show bO.mpr (W.so,bO.mpr (a0Z sb j,a0Z sa i,λx b y a=>?_),λx b y a=>?_)
  .rw[c]at a;rw[bg.mp a];show hl _ (by rw[show A.length-1=i by lia];show e) x (ff b)
  .let h||h:=be.mp a
   .show W.bb x b y h
   .show W.ba x b y h
def a1m(h:Srt κ l)(hp:l[n]?=bH p):∀y∈l.drop n,κ p<=κ y:=λy a=>by
 let b:=a0Z h n;rw[drop_get hp]at b a;let rfl||a:=bf.mp a
 .show cJ _
 .show (bz.mp b).1 y a
end
abbrev SM:=StateT SortSt Sem
abbrev T1:=Option (Array Keyed)×Array Keyed×Nat×Nat×Nat×Nat
abbrev T2:=Option (Array Keyed)×Array Keyed×Nat×Nat×Nat×Nat×Nat
noncomputable def lo1(a b:Array Keyed)(g:Nat)(o:Array Keyed)(i j ac bc:Nat):SM (ForInStep T1):=do
 let y <- elem' b j
 let x <- elem' a i
 let r <- lt' y x
 match r with
 |some bw=>
  if bw=kz then do
   let y <- elem' b j
   if (j+1==b.size)=kz then pure (.done (bH (dnA a b (o.push y) i (j+1)),o.push y,i,j+1,0,bc+1,))
   else if bc+1>=g then pure (.done (gV,o.push y,i,j+1,0,bc+1,)) else pure (.yield (gV,o.push y,i,j+1,0,bc+1,))
  else do
   let x <- elem' a i
   if (i+1+1==a.size)=kz then pure (.done (bH (dnB a b (o.push x) (i+1) j),o.push x,i+1,j,ac+1,0,))
   else if ac+1>=g then pure (.done (gV,o.push x,i+1,j,ac+1,0,)) else pure (.yield (gV,o.push x,i+1,j,ac+1,0,))
 |_=>pure (.done (bH (dnA a b o i j),o,i,j,ac,bc,))
noncomputable def lo5(a b:Array Keyed)(o:Array Keyed)(i j g ac bc:Nat):SM (ForInStep T2):=do
 let x <- elem' a i
 if (i+1+1==a.size)=kz then pure (.done (bH (dnB a b (o.push x) (i+1) j),o.push x,i+1,j,g,ac,bc,))
 else if (decide (ac<7)&&decide (bc<7))=kz then pure (.done (gV,o.push x,i+1,j,g,ac,bc,)) else pure (.yield (gV,o.push x,i+1,j,g,ac,bc,))
noncomputable def lo4(a b:Array Keyed)(o:Array Keyed)(i j g ac bc:Nat):SM (ForInStep T2):=do
 let y <- elem' b j
 if (j+1==b.size)=kz then pure (.done (bH (dnA a b (o.push y) i (j+1)),o.push y,i,j+1,g,ac,bc,))
 else do
  let x <- elem' a i
  let r <- a1B kz x b (j+1) (b.size-(j+1)) 0
  match r with
  |some k=>
   if k > 0 then
    if (j+1+k==b.size)=kz then pure (.done (bH (dnA a b (o.push y++b.extract (j+1) (j+1+k)) i (j+1+k)),o.push y++b.extract (j+1) (j+1+k),i,j+1+k,g,ac,k,))
    else lo5 a b (o.push y++b.extract (j+1) (j+1+k)) i (j+1+k) g ac k
   else lo5 a b (o.push y) i (j+1) g ac k
  |_=>pure (.done (bH (dnA a b (o.push y) i (j+1)),o.push y,i,j+1,g,ac,bc,))
noncomputable def lo3(a b:Array Keyed)(o:Array Keyed)(i j g ac bc:Nat):SM (ForInStep T2):=do
 a9s g
 let y <- elem' b j
 let r <- a1B kQ y a i (a.size-i) 0
 match r with
 |some k=>
  if k > 0 then
   if (i+k+1==a.size)=kz then pure (.done (bH (dnB a b (o++a.extract i (i+k)) (i+k) j),o++a.extract i (i+k),i+k,j,g,k,bc,))
   else if (i+k==a.size)=kz then pure (.done (bH (dnA a b (o++a.extract i (i+k)) (i+k) j),o++a.extract i (i+k),i+k,j,g,k,bc,))
   else lo4 a b (o++a.extract i (i+k)) (i+k) j g k bc
  else lo4 a b o i j g k bc
 |_=>pure (.done (bH (dnA a b o i j),o,i,j,g,ac,bc,))
noncomputable def lo2(a b:Array Keyed)(o:Array Keyed)(i j g ac bc:Nat):SM (ForInStep T2):=
 if g > 1 then lo3 a b o i j (g-1) ac bc else lo3 a b o i j g ac bc
def a43(a b:Array Keyed):a4l a b=(do
  liftM (rule "list.sort.merge-lo")
  let y <- elem' b 0
  if (1==b.size)=kz then pure (dnA a b #[y] 0 1)
  else if (0+1==a.size)=kz then pure (dnB a b #[y] 0 1)
  else do
   let st <- get
   let c <- forIn [0:a.size+b.size] ((gV,#[y],0,1,gallopOf st,):Option (Array Keyed)×Array Keyed×Nat×Nat×Nat) λ_ c=>do
    let c1 <- forIn [0:a.size+b.size] ((gV,c.2.1,c.2.2.1,c.2.2.2.1,0,0,):T1) λ_ c1=>lo1 a b c.2.2.2.2 c1.2.1 c1.2.2.1 c1.2.2.2.1 c1.2.2.2.2.1 c1.2.2.2.2.2
    match c1.1 with
    |some r=>pure (ForInStep.done (bH r,c1.2.1,c1.2.2.1,c1.2.2.2.1,c.2.2.2.2,))
    |none=>do
     liftM (rule "list.sort.gallop")
     let c2 <- forIn [0:a.size+b.size] ((gV,c1.2.1,c1.2.2.1,c1.2.2.2.1,c.2.2.2.2+1,c1.2.2.2.2.1,c1.2.2.2.2.2,):T2) λ_ c2=>lo2 a b c2.2.1 c2.2.2.1 c2.2.2.2.1 c2.2.2.2.2.1 c2.2.2.2.2.2.1 c2.2.2.2.2.2.2
     match c2.1 with
     |some r=>pure (ForInStep.done (bH r,c2.2.1,c2.2.2.1,c2.2.2.2.1,c2.2.2.2.2.1,))
     |none=>do
      a9s (c2.2.2.2.2.1+1)
      pure (ForInStep.yield (gV,c2.2.1,c2.2.2.1,c2.2.2.2.1,c2.2.2.2.2.1+1,))
   match c.1 with
   |some r=>pure r
   |none=>iV "internal:list.sort.merge-bound"):=by
 kernel_rfl
structure SG (st st':SortSt):Prop where
 kd:kindOf st'=kindOf st
 ar:arrOf st'=arrOf st
 pe:gY st'=gY st
 fl:ir st'=ir st
def SG.refl(st:SortSt):SG st st:=(rfl,rfl,rfl,rfl)
def SG.trans(p:SG x kR)(q:SG kR z):SG x z:=(q.kd.trans p.kd,q.ar.trans p.ar,q.pe.trans p.pe,q.fl.trans p.fl)
section
variable{a b o:Array Keyed}{i j:Nat}
def a17:(dnA a b o i j).toList=o.toList++a.toList.drop i++b.toList.drop j:=by
 simp[cj]
def a27:(dnB a b o i j).toList=o.toList++b.toList.drop j++a.toList.drop i:=by
 simp[cj]
def a6P:(o++a.extract i (i+k)).toList=o.toList++(a.toList.drop i).take k:=by
 simp[eB]
def a0K(h:i<a.size):a.toList[i]?=bH a[i]:=by simp[h]
def a0P(h:i<a.size):Kk κ a i=κ a[i]:=a5Z (getElem?_pos ..)
def a18(h:Srt κ a.toList)(hn:i+n<=a.size):∀p q,p<=q->q<n->Kk κ a (i+p)<=Kk κ a (i+q):=λp q b c=>by
 rw[a0P (show i+p<a.size by lia),a0P (show i+q<a.size by lia)]
 by_cases e:p=q
 .simp_all
 .let:=cO.mp h (i+p) (i+q) (by simp;lia) (by simp;lia) (by lia)
  o_head this
end
structure MC (M:Model) (A:Around) (E:Value->Shared->Prop) (s:Shared) (κ:KF) (k0:iz) (ajj a b:Array Keyed):Prop where
 L:LtOk M A E s κ k0 ajj
 ha:∀p∈a.toList,p∈ajj.toList
 hb:∀p∈b.toList,p∈ajj.toList
 sa:Srt κ a.toList
 sb:Srt κ b.toList
 h0:0<a.size
 h1:0<b.size
 hf:∀y∈a.toList,Kk κ b 0<=κ y
 hl:∀z,a.toList[a.toList.length-1]?=bH z->∀y∈b.toList,κ y<=κ z
structure Rdy (κ:KF) (a b o:Array Keyed) (i j:Nat):Prop where
 w:MW κ a.toList b.toList o.toList i j
 hi:i+1<a.size
 hj:j<b.size
section
variable{M:Model}{k0:iz}{ajj a b o:Array Keyed}{st:SortSt}{i j g ac bc:Nat}
def a3Y{α:Type}{f:Unit->SM α}{Q:α->SortSt->Prop}(h:wpS M A E s (f ()) Q st):wpS M A E s ((liftM (rule kR):SM Unit) >>= f) Q st:=
 gO (wpS_lift (iN (rfl,h)))
def a0V(a:Array Keyed):a.toList.length=a.size:=by simp
def b9U(C:MC M A E s κ k0 ajj a b)(hk:kindOf st=k0)(R:Rdy κ a b o i j)
  (dn:∀r c,Mgd κ a.toList b.toList r.toList->Q (.done (bH r,c,)) st)
  (br:∀o' i' j' x y,Rdy κ a b o' i' j'->i'+j'=i+j+1->Q (.done (gV,o',i',j',x,y,)) st)
  (go:∀o' i' j' x y,Rdy κ a b o' i' j'->i'+j'=i+j+1->Q (.yield (gV,o',i',j',x,y,)) st):wpS M A E s (lo1 a b g o i j ac bc) Q st:=by
 let q:=R.hi;let n:=R.hj;let p:b[j]?=bH b[j]:=getElem?_pos ..;let m:a[i]?=bH a[i]:=getElem?_pos ..;let h:=a0K n;let l:=a0K (a:=a) (i:=i) (by cbv);unfold lo1;show gO (a0C p (gO (a0C m (gO (C.L _ _ (C.hb _ (bB h)) (C.ha _ (bB l)) st _ hk ?_)))));dsimp only
 by_cases c:κ b[j]<κ a[i]
 .rw[if_pos (decide_eq_true c)];show gO (a0C p ?_);let d:=R.w.pushB C.sb h λy k=>bU (cy c) (a1m C.sa l y k);rw[<- b7]at d
  by_cases e:j+1=b.size
  .rw[if_pos ↑e];show gR (dn _ _ (by rw[a17];show d.doneA C.sa C.sb (.inr (by rw[a0V];show e))))
  .rw[if_neg ↑e];let f:Rdy κ a b (o.push b[j]) i (j+1):=(d,q,by lia)
   split
   .show gR (br _ _ _ _ _ f (by lia))
   .show gR (go _ _ _ _ _ f (by lia))
 .rw[if_neg ↑c];show gO (a0C m ?_);let d:=R.w.pushA C.sa l λy k=>bU (eD.mp c) (a1m C.sb h y k);rw[<- b7]at d
  by_cases e:i+1+1=a.size
  .rw[if_pos ↑e];show gR (dn _ _ (by rw[a27];show d.doneB C.sa C.sb (by rw[a0V];show e) C.hl))
  .rw[if_neg ↑e];let f:Rdy κ a b (o.push a[i]) (i+1) j:=(d,by lia,n)
   split
   .show gR (br _ _ _ _ _ f (by lia))
   .show gR (go _ _ _ _ _ f (by lia))
structure G2 (st:SortSt) (κ:KF) (a b:Array Keyed) (n:Nat) (Q:ForInStep T2->SortSt->Prop):Prop where
 dn:∀r c st',SG st st'->Mgd κ a.toList b.toList r.toList->Q (.done (bH r,c,)) st'
 br:∀o' i' j' x y z st',SG st st'->Rdy κ a b o' i' j'->n<i'+j'->Q (.done (gV,o',i',j',x,y,z,)) st'
 go:∀o' i' j' x y z st',SG st st'->Rdy κ a b o' i' j'->n<i'+j'->Q (.yield (gV,o',i',j',x,y,z,)) st'
def b7s(C:MC M A E s κ k0 ajj a b)(R:Rdy κ a b o i j)(hle:∀y∈b.toList.drop j,Kk κ a i<=κ y)(H:G2 st κ a b n Q)(hn:n<=i+j):wpS M A E s (lo5 a b o i j g ac bc) Q st:=by
 let l:=R.hi;let h:a[i]?=bH a[i]:=getElem?_pos ..;rw[a0P (show i<a.size by lia)]at hle;unfold lo5;show gO (a0C h ?_);let c:=R.w.pushA C.sa (a0K (a:=a) (i:=i) (by lia)) hle;rw[<- b7]at c
 by_cases e:i+1+1=a.size
 .rw[if_pos ↑e];show gR (H.dn _ _ _ (SG.refl _) (a27▸c.doneB C.sa C.sb (by rw[a0V];show e) C.hl))
 .rw[if_neg ↑e];let d:Rdy κ a b (o.push a[i]) (i+1) j:=(c,by lia,R.hj)
  split
  .show gR (H.br _ _ _ _ _ _ _ (SG.refl _) d (by lia))
  .show gR (H.go _ _ _ _ _ _ _ (SG.refl _) d (by lia))
def a1U{l:List Keyed}(h:kR∈l.drop n):∃q,n<=q/\q<l.length/\l[q]?=bH kR:=by
 let(m,a):=cb h;rw[dr]at a;show(n+m,by lia,(bh.mp a).1,a)
def a3m(h:a.toList[q]?=bH z):Kk κ a q=κ z:=a5Z (by simp_all)
def b7t(C:MC M A E s κ k0 ajj a b)(hk:kindOf st=k0)(R:Rdy κ a b o i j)(hle:∀y∈a.toList.drop i,Kk κ b j<=κ y)(H:G2 st κ a b n Q)(hn:n<=i+j):wpS M A E s (lo4 a b o i j g ac bc) Q st:=by
 let m:=R.hi;let t:=R.hj;let x:b[j]?=bH b[j]:=getElem?_pos ..;let F:a[i]?=bH a[i]:=getElem?_pos ..;let p:=a0K (a:=a) (i:=i) (by lia);rw[a0P t]at hle;unfold lo4;show gO (a0C x ?_);let d:=R.w.pushB C.sb (a0K t) hle;rw[<- b7]at d
 by_cases e:j+1=b.size
 .rw[if_pos ↑e];show gR (H.dn _ _ _ (SG.refl _) (a17▸d.doneA C.sa C.sb (.inr (by rw[a0V];show e))))
 .rw[if_neg ↑e];show gO (a0C F (gO (a1E C.L hk (C.ha _ (bB p)) C.hb (by lia) (by lia) (a18 C.sb (by lia)) λk G v r=>?_)));dsimp only;let c:∀y∈b.toList.drop (j+1+k),Kk κ a i<=κ y:=λy h=>by
   let(q,B,u,l):=a1U h;rw[a0V]at u
   let:=r (q-(j+1)) (by lia) (by lia)
   rw[show j+1+(q-(j+1))=q by lia,a3m l]at this;simp[bq]at this;rw[a0P (show i<a.size by lia)];cbv
  split
  .let f:=d.runB C.sb k (by rw[a0V];lia) λq z B u l y h=>by
    let:=v (q-(j+1)) (by lia)
    rw[show j+1+(q-(j+1))=q by lia,a3m l]at this;simp[bq]at this;show bU (cy this) (a1m C.sa p y h)
   rw[<- a6P]at f
   by_cases e2:j+1+k=b.size
   .rw[if_pos ↑e2];show gR (H.dn _ _ _ (SG.refl _) (a17▸f.doneA C.sa C.sb (.inr (by rw[a0V];show e2))))
   .rw[if_neg ↑e2];show b7s C (f,m,by lia) c H (by lia)
  .let:k=0:=by lia
   subst this;show b7s C (d,m,by lia) c H (by lia)
def b9V(C:MC M A E s κ k0 ajj a b)(hk:kindOf st=k0)(R:Rdy κ a b o i j)(H:G2 st κ a b n Q)(hn:n<=i+j):wpS M A E s (lo3 a b o i j g ac bc) Q st:=by
 let I:=R.hi;let h:=R.hj;let G:b[j]?=bH b[j]:=getElem?_pos ..;let B:=a0K h;unfold lo3;rw[a4k];show gO (iA ?_);let m:SG st (SortSt.mk' _ (arrOf st) _ g _):=(rfl,rfl,rfl,rfl);let e:kindOf (SortSt.mk' _ (arrOf st) (gY st) g (ir st))=k0:=hk;generalize SortSt.mk' (kindOf st) (arrOf st) (gY st) g (ir st)=st1 at m e;let l:G2 st1 κ a b n Q:=(λr c d g=>H.dn r c d (m.trans g),λ_ _ _ _ _ _ d g=>H.br _ _ _ _ _ _ d (m.trans g),λ_ _ _ _ _ _ d g=>H.go _ _ _ _ _ _ d (m.trans g));show gO (a0C G (gO (a1E C.L e (C.hb _ (bB B)) C.ha (by lia) (by lia) (a18 C.sa (by lia)) λk J D x=>?_)));dsimp only;let f:∀y∈a.toList.drop (i+k),Kk κ b j<=κ y:=λy t=>by
  let(q,F,v,u):=a1U t;rw[a0V]at v
  let:=x (q-i) (by lia) (by lia)
  rw[show i+(q-i)=q by lia,a3m u]at this;simp[bq]at this;rw[a0P h]
  lia
 split
 .let p:=R.w.runA C.sa k (by rw[a0V];lia) λq z F v u y t=>by
   let:=D (q-i) (by lia)
   rw[show i+(q-i)=q by lia,a3m u]at this;simp[bq]at this;show bU this (a1m C.sb B y t)
  rw[<- a6P]at p
  by_cases e1:i+k+1=a.size
  .rw[if_pos ↑e1];show gR (l.dn _ _ _ (SG.refl _) (a27▸p.doneB C.sa C.sb (by rw[a0V];show e1) C.hl))
  .rw[if_neg ↑e1]
   by_cases e2:i+k=a.size
   .rw[if_pos ↑e2];show gR (l.dn _ _ _ (SG.refl _) (a17▸p.doneA C.sa C.sb (.inl (by rw[a0V];show e2))))
   .rw[if_neg ↑e2];show b7t C e (p,by lia,h) f l (by lia)
 .let:k=0:=by lia
  subst this;show b7t C e (R.w,I,h) f l (by lia)
def b9W(C:MC M A E s κ k0 ajj a b)(hk:kindOf st=k0)(R:Rdy κ a b o i j)(H:G2 st κ a b n Q)(hn:n<=i+j):wpS M A E s (lo2 a b o i j g ac bc) Q st:=by
 unfold lo2
 split<;>show b9V C hk R H hn
def b1x(C:MC M A E s κ k0 ajj a b):MW κ a.toList b.toList [b[0]'C.h1] 0 1:=by
 let e:MW κ a.toList b.toList [] 0 0:=(bR _,bR _,by simp,.nil,λx h=>by simp at h,λx h=>by simp at h);show e.pushB C.sb (a0K C.h1) λy d=>by rw[<- a0P (κ:=κ) C.h1];show C.hf y (by simp_all)
def a9t(C:MC M A E s κ k0 ajj a b)(hk:kindOf st=k0)
  (h:∀r st',SG st st'->Mgd κ a.toList b.toList r.toList->Q r st'):wpS M A E s (a4l a b) Q st:=by
 let h0:=C.h0;let h1:=C.h1;rw[a43];show a3Y (gO (a0C (getElem?_pos b 0 C.h1) ?_));let w0:=b1x C
 by_cases e1:1=b.size
 .rw[if_pos ↑e1];show gR (h _ _ (SG.refl _) (a17▸w0.doneA C.sa C.sb (.inr (by grind))))
 rw[if_neg ↑e1]
 by_cases e2:0+1=a.size
 .rw[if_pos ↑e2];show gR (h _ _ (SG.refl _) (a27▸w0.doneB C.sa C.sb (by rw[a0V];show e2) C.hl))
 rw[if_neg ↑e2];show gO (iE ?_);let R0:Rdy κ a b #[b[0]] 0 1:=(w0,by lia,by lia);show gO (ip (ii (I:=λx c e=>∃o i j g,c=(gV,o,i,j,g,)/\SG st e/\Rdy κ a b o i j/\x<i+j)
  (Q:=λc e=>Ex2 λr F=>An3 (c=(bH r,F,)) (SG st e) (Mgd κ a.toList b.toList r.toList)) ?step ?fin (_,_,_,_,rfl,SG.refl _,R0,by lia)) ?post)
 case post=>
  ext c e ⟨r,F,rfl,H,m⟩;show gR (h r e H m)
 case fin=>
  ext c e ⟨o,i,j,g,rfl,H,R,hx⟩
  let:=R.hi
  let:=R.hj
  lia
 case step=>
  ext x c e _ hx ⟨o,i,j,g,rfl,H,R,hxi⟩;dsimp only;show gO (ip (ii (I:=λy c f=>∃D l k J T,c=(gV,D,l,k,J,T,)/\f=e/\Rdy κ a b D l k/\i+j+y<=l+k)
   (Q:=λc f=>f=e/\((∃r F,c=(bH r,F,)/\Mgd κ a.toList b.toList r.toList)\/∃D l k J T,c=(gV,D,l,k,J,T,)/\Rdy κ a b D l k/\i+j<=l+k)) ?st1 ?fi1 (_,_,_,_,_,rfl,rfl,R,by lia)) ?po1)
  case fi1=>
   ext c f ⟨D,l,k,J,T,rfl,rfl,L,hy⟩
   let:=L.hi
   let:=L.hj
   lia
  case st1=>
   ext y c f _ hy ⟨D,l,k,J,T,rfl,rfl,L,hyi⟩;dsimp only;show b9U C (H.kd.trans hk) L (λr c m=>(rfl,.inl (r,c,rfl,m))) (λo2 i2 j2 u v X V=>(rfl,.inr (_,_,_,_,_,rfl,X,by lia))) λo2 i2 j2 u v X V=>(_,_,_,_,_,rfl,rfl,X,by lia)
  case po1=>
   ext c f ⟨rfl,⟨r,F,rfl,m⟩ |⟨D,l,k,J,T,rfl,L,hij⟩⟩
   .show gR (r,_,rfl,H,m)
   .dsimp only;show a3Y ?_;show gO (ip (ii (I:=λy c B=>∃G q p S z t,c=(gV,G,q,p,S,z,t,)/\SG st B/\Rdy κ a b G q p/\l+k+y<=q+p)
     (Q:=λc B=>SG st B/\((∃r F,c=(bH r,F,)/\Mgd κ a.toList b.toList r.toList)\/∃G q p S z t,c=(gV,G,q,p,S,z,t,)/\Rdy κ a b G q p/\l+k<q+p)) ?f ?fi2 (_,_,_,_,_,_,rfl,H,L,by lia)) ?po2)
    case fi2=>
     ext c B ⟨G,q,p,S,z,t,rfl,d,N,hy⟩
     let:=N.hi
     let:=N.hj
     lia
    case f=>
     ext y c B _ hy ⟨G,q,p,S,z,t,rfl,d,N,hyi⟩;dsimp only;show b9W C (d.kd.trans hk) N (λr c W U m=>(d.trans U,.inl (r,c,rfl,m)),λo4 i4 j4 u v w W U Y V=>(d.trans U,.inr (_,_,_,_,_,_,rfl,Y,by lia)),λo4 i4 j4 u v w W U Y V=>(_,_,_,_,_,_,rfl,d.trans U,Y,by lia)) (bd _)
    case po2=>
     ext c B ⟨d,⟨r,F,rfl,m⟩ |⟨G,q,p,S,z,t,rfl,N,V⟩⟩
     .show gR (r,_,rfl,d,m)
     .dsimp only;show gO (iA (gR (_,_,_,_,rfl,(d.kd,d.ar,d.pe,d.fl),N,by lia)))
end
noncomputable def a4m:Array Keyed->Array Keyed->SM (Array Keyed):=sortPriv% PySem.Builtin.mergeHi
abbrev hnA(a b o:Array Keyed)(u v:Nat):Array Keyed:=a.extract 0 u++b.extract 0 v++o.reverse
abbrev hnB(a b o:Array Keyed)(u v:Nat):Array Keyed:=b.extract 0 v++a.extract 0 u++o.reverse
abbrev H1:=Option (Array Keyed)×Nat×Nat×Array Keyed×Nat×Nat
abbrev H2:=Option (Array Keyed)×Nat×Nat×Array Keyed×Nat×Nat×Nat
noncomputable def hi1(a b:Array Keyed)(g u v:Nat)(o:Array Keyed)(ac bc:Nat):SM (ForInStep H1):=do
 let y <- elem' b (v-1)
 let x <- elem' a (u-1)
 let r <- lt' y x
 match r with
 |some aw=>
  if aw=kz then do
   let x <- elem' a (u-1)
   if (u-1==0)=kz then pure (.done (bH (hnA a b (o.push x) (u-1) v),u-1,v,o.push x,ac+1,0,))
   else if ac+1>=g then pure (.done (gV,u-1,v,o.push x,ac+1,0,)) else pure (.yield (gV,u-1,v,o.push x,ac+1,0,))
  else do
   let y <- elem' b (v-1)
   if (v-1==1)=kz then pure (.done (bH (hnB a b (o.push y) u (v-1)),u,v-1,o.push y,0,bc+1,))
   else if bc+1>=g then pure (.done (gV,u,v-1,o.push y,0,bc+1,)) else pure (.yield (gV,u,v-1,o.push y,0,bc+1,))
 |_=>pure (.done (bH (hnA a b o u v),u,v,o,ac,bc,))
noncomputable def hi5(a b:Array Keyed)(u v:Nat)(o:Array Keyed)(g ac bc:Nat):SM (ForInStep H2):=do
 let x <- elem' a (u-1)
 if (u-1==0)=kz then pure (.done (bH (hnA a b (o.push x) (u-1) v),u-1,v,o.push x,g,ac,bc,))
 else if (decide (ac<7)&&decide (bc<7))=kz then pure (.done (gV,u-1,v,o.push x,g,ac,bc,)) else pure (.yield (gV,u-1,v,o.push x,g,ac,bc,))
noncomputable def hi4(a b:Array Keyed)(u v:Nat)(o:Array Keyed)(g ac bc:Nat):SM (ForInStep H2):=do
 let y <- elem' b (v-1)
 if (v-1==1)=kz then pure (.done (bH (hnB a b (o.push y) u (v-1)),u,v-1,o.push y,g,ac,bc,))
 else do
  let x <- elem' a (u-1)
  let r <- a1B kz x b 0 (v-1) (v-1-1)
  match r with
  |some p=>
   if v-1-p > 0 then
    if (p==1)=kz then pure (.done (bH (hnB a b (o.push y++(b.extract p (v-1)).reverse) u p),u,p,o.push y++(b.extract p (v-1)).reverse,g,ac,v-1-p,))
    else if (p==0)=kz then pure (.done (bH (hnA a b (o.push y++(b.extract p (v-1)).reverse) u p),u,p,o.push y++(b.extract p (v-1)).reverse,g,ac,v-1-p,))
    else hi5 a b u p (o.push y++(b.extract p (v-1)).reverse) g ac (v-1-p)
   else hi5 a b u (v-1) (o.push y) g ac (v-1-p)
  |_=>pure (.done (bH (hnA a b (o.push y) u (v-1)),u,v-1,o.push y,g,ac,bc,))
noncomputable def hi3(a b:Array Keyed)(u v:Nat)(o:Array Keyed)(g ac bc:Nat):SM (ForInStep H2):=do
 a9s g
 let y <- elem' b (v-1)
 let r <- a1B kQ y a 0 u (u-1)
 match r with
 |some p=>
  if u-p > 0 then
   if (p==0)=kz then pure (.done (bH (hnA a b (o++(a.extract p u).reverse) p v),p,v,o++(a.extract p u).reverse,g,u-p,bc,))
   else hi4 a b p v (o++(a.extract p u).reverse) g (u-p) bc
  else hi4 a b u v o g (u-p) bc
 |_=>pure (.done (bH (hnA a b o u v),u,v,o,g,ac,bc,))
noncomputable def hi2(a b:Array Keyed)(u v:Nat)(o:Array Keyed)(g ac bc:Nat):SM (ForInStep H2):=
 if g > 1 then hi3 a b u v o (g-1) ac bc else hi3 a b u v o g ac bc
def a44(a b:Array Keyed):a4m a b=(do
  liftM (rule "list.sort.merge-hi")
  let x <- elem' a (a.size-1)
  if (a.size-1==0)=kz then pure (hnA a b #[x] (a.size-1) b.size)
  else if (b.size==1)=kz then pure (hnB a b #[x] (a.size-1) b.size)
  else do
   let st <- get
   let c <- forIn [0:a.size+b.size] ((gV,a.size-1,b.size,#[x],gallopOf st,):Option (Array Keyed)×Nat×Nat×Array Keyed×Nat) λ_ c=>do
    let c1 <- forIn [0:a.size+b.size] ((gV,c.2.1,c.2.2.1,c.2.2.2.1,0,0,):H1) λ_ c1=>hi1 a b c.2.2.2.2 c1.2.1 c1.2.2.1 c1.2.2.2.1 c1.2.2.2.2.1 c1.2.2.2.2.2
    match c1.1 with
    |some r=>pure (ForInStep.done (bH r,c1.2.1,c1.2.2.1,c1.2.2.2.1,c.2.2.2.2,))
    |none=>do
     liftM (rule "list.sort.gallop")
     let c2 <- forIn [0:a.size+b.size] ((gV,c1.2.1,c1.2.2.1,c1.2.2.2.1,c.2.2.2.2+1,c1.2.2.2.2.1,c1.2.2.2.2.2,):H2) λ_ c2=>hi2 a b c2.2.1 c2.2.2.1 c2.2.2.2.1 c2.2.2.2.2.1 c2.2.2.2.2.2.1 c2.2.2.2.2.2.2
     match c2.1 with
     |some r=>pure (ForInStep.done (bH r,c2.2.1,c2.2.2.1,c2.2.2.2.1,c2.2.2.2.2.1,))
     |none=>do
      a9s (c2.2.2.2.2.1+1)
      pure (ForInStep.yield (gV,c2.2.1,c2.2.2.1,c2.2.2.2.1,c2.2.2.2.2.1+1,))
   match c.1 with
   |some r=>pure r
   |none=>iV "internal:list.sort.merge-bound"):=by
 kernel_rfl
section
variable{A B o:List Keyed}{u v:Nat}{p:Keyed}
structure MH (κ:KF) (A B o:List Keyed) (u v:Nat):Prop where
 ia:u<=A.length
 jb:v<=B.length
 pm:(A.take u++B.take v++o.reverse).Perm (A++B)
 so:Srt κ o.reverse
 ba:∀x∈o,∀y∈A.take u,κ y<=κ x
 bb:∀x∈o,∀y∈B.take v,κ y<=κ x
def a50{l:List Keyed}(h:l[n]?=bH p):l.take (n+1)=l.take n++[p]:=by
 rw[cG,h];rfl
def a1n(h:Srt κ l)(n:Nat):Srt κ (l.take n):=cV.sublist (dL n l) h
def a1F(h:Srt κ l)(e:l[n]?=bH p):∀y∈l.take (n+1),κ y<=κ p:=λy a=>by
 let b:=a1n h (n+1);rw[a50 e]at b a;let a||a:=be.mp a
 .show (bO.mp b).2.2 y a p (by simp)
 .simp_all
def MH.pushA(W:MH κ A B o (u+1) v)(sa:Srt κ A)(hp:A[u]?=bH p)(hb:∀y∈B.take v,κ y<=κ p):MH κ A B (o++[p]) u v:=by
 let c:=a50 hp;let d:=(bh.mp hp).1;show(by lia,W.jb,?_,?_,λx b y a=>?_,λx b y a=>?_)
 .let:=W.pm
  rw[c]at this;show bP.trans ?_ this;rw[cY,dv];simp;show bP.append_left _ fS
 .rw[cY,dv,fg];show bz.mpr (λx b=>?_,W.so);show W.ba x ↑b p (by rw[c];simp)
 .let h||h:=be.mp b
  .show W.ba x h y (by simp_all)
  .rw[bg.mp h];show a1F sa hp y (by simp_all)
 .let h||h:=be.mp b
  .show W.bb x h y a
  .simp_all
def MH.pushB(W:MH κ A B o u (v+1))(sb:Srt κ B)(hp:B[v]?=bH p)(hb:∀y∈A.take u,κ y<=κ p):MH κ A B (o++[p]) u v:=by
 let c:=a50 hp;let d:=(bh.mp hp).1;show(W.ia,by lia,?_,?_,λx b y a=>?_,λx b y a=>?_)
 .let:=W.pm
  rw[c]at this;show bP.trans ?_ this;rw[cY,dv];simp only[bS];show bP.refl _
 .rw[cY,dv,fg];show bz.mpr (λx b=>?_,W.so);show W.bb x (by simp_all) p (by simp_all)
 .let h||h:=be.mp b
  .show W.ba x h y a
  .rw[bg.mp h];show hb y a
 .let h||h:=be.mp b
  .show W.bb x h y (by simp_all)
  .rw[bg.mp h];show a1F sb hp y (by simp_all)
def MH.runA(sa:Srt κ A):∀(k:Nat){o:List Keyed},MH κ A B o (u+k) v->(∀q z,u<=q->q<u+k->A[q]?=bH z->∀y∈B.take v,κ y<=κ z)->MH κ A B (o++((A.drop u).take k).reverse) u v:=by ext z0;induction z0 with
 |zero=>ext o W _;o_head W
 |succ k I0=>
  ext o W hz;let a:u+k<A.length:=by let:=W.ia;lia
  let e:=bn a;rw[take_snoc e,cY,dv,<- bS];show (I0 (MH.pushA W sa e (hz _ _ (by simp) (by simp) e)) λq z c f=>hz q z c (by lia))
def MH.runB(sb:Srt κ B):∀(k:Nat){o:List Keyed},MH κ A B o u (v+k)->(∀q z,v<=q->q<v+k->B[q]?=bH z->∀y∈A.take u,κ y<=κ z)->MH κ A B (o++((B.drop v).take k).reverse) u v:=by ext z0;induction z0 with
 |zero=>ext o W _;o_head W
 |succ k I0=>
  ext o W hz;let a:v+k<B.length:=by let:=W.jb;lia
  let e:=bn a;rw[take_snoc e,cY,dv,<- bS];show (I0 (MH.pushB W sb e (hz _ _ (by simp) (by simp) e)) λq z c f=>hz q z c (by lia))
def MH.doneA(W:MH κ A B o u v)(sa:Srt κ A)(sb:Srt κ B)(h:u=0\/v=0):Mgd κ A B (A.take u++B.take v++o.reverse):=by
 show(W.pm,?_);show bO.mpr (bO.mpr (a1n sa u,a1n sb v,λx b y c=>?_),W.so,λx b y c=>?_)
 .let rfl||rfl:=h
  .simp_all
  .simp_all
 .let a:y∈o:=↑c
  let h||h:=be.mp b
  .show W.ba y a x h
  .show W.bb y a x h
def MH.doneB(W:MH κ A B o u 1)(sa:Srt κ A)(sb:Srt κ B)(hf:∀z,B[0]?=bH z->∀y∈A,κ z<=κ y):Mgd κ A B (B.take 1++A.take u++o.reverse):=by
 show(?_,?_)
 .show bP.trans ?_ W.pm;show bP.append_right _ e9
 .show bO.mpr (bO.mpr (a1n sb 1,a1n sa u,λx a y c=>?_),W.so,λx a y c=>?_)
  .cases B with
   |nil=>simp at a
   |cons z B=>
    let:x=z:=↑a
    subst this;show hf x rfl y (bK c)
  .let b:y∈o:=↑c
   let h||h:=be.mp a
   .show W.bb y b x h
   .show W.ba y b x h
end
section
variable{a b o:Array Keyed}{u v:Nat}
def a19:(hnA a b o u v).toList=a.toList.take u++b.toList.take v++o.toList.reverse:=by
 simp
def a28:(hnB a b o u v).toList=b.toList.take v++a.toList.take u++o.toList.reverse:=by
 simp
def a6Q:(o++(a.extract p u).reverse).toList=o.toList++((a.toList.drop p).take (u-p)).reverse:=by
 simp[eB]
end
structure RdH (κ:KF) (a b o:Array Keyed) (u v:Nat):Prop where
 w:MH κ a.toList b.toList o.toList u v
 hu:1<=u
 hv:2<=v
section
variable{M:Model}{k0:iz}{ajj a b o:Array Keyed}{st:SortSt}{u v g ac bc:Nat}
def RdH.ua(R:RdH κ a b o u v):u<=a.size:=by let:=R.w.ia;rwa [a0V]at this
def RdH.vb(R:RdH κ a b o u v):v<=b.size:=by let:=R.w.jb;rwa [a0V]at this
def MC.first(C:MC M A E s κ k0 ajj a b):∀z,b.toList[0]?=bH z->∀y∈a.toList,κ z<=κ y:=λz c y d=>by
 let:=C.hf y d
 rwa [a3m c]at this
def b9X(C:MC M A E s κ k0 ajj a b)(hk:kindOf st=k0)(R:RdH κ a b o (u+1) (v+1))
  (dn:∀r c,Mgd κ a.toList b.toList r.toList->Q (.done (bH r,c,)) st)
  (br:∀o' u' v' x y,RdH κ a b o' u' v'->u'+v'=u+v+1->Q (.done (gV,u',v',o',x,y,)) st)
  (go:∀o' u' v' x y,RdH κ a b o' u' v'->u'+v'=u+v+1->Q (.yield (gV,u',v',o',x,y,)) st):wpS M A E s (hi1 a b g (u+1) (v+1) o ac bc) Q st:=by
 let q:=R.ua;let t:=R.vb;let p:=R.hv;let l:b[v]?=bH b[v]:=getElem?_pos ..;let n:a[u]?=bH a[u]:=getElem?_pos ..;let j:=a0K (a:=b) (i:=v) (by lia);let k:=a0K (a:=a) (i:=u) (by lia);unfold hi1;simp only[fh];show gO (a0C l (gO (a0C n (gO (C.L _ _ (C.hb _ (bB j)) (C.ha _ (bB k)) st _ hk ?_)))));dsimp only
 by_cases c:κ b[v]<κ a[u]
 .rw[if_pos (decide_eq_true c)];show gO (a0C n ?_);let d:=R.w.pushA C.sa k λy h=>bU (a1F C.sb j y h) (cy c);rw[<- b7]at d
  by_cases e:u=0
  .rw[if_pos ↑e];show gR (dn _ _ (a19▸d.doneA C.sa C.sb (.inl e)))
  .rw[if_neg ↑e];let f:RdH κ a b (o.push a[u]) u (v+1):=(d,by lia,p)
   split
   .show gR (br _ _ _ _ _ f (by lia))
   .show gR (go _ _ _ _ _ f (by lia))
 .rw[if_neg ↑c];show gO (a0C l ?_);let d:=R.w.pushB C.sb j λy h=>bU (a1F C.sa k y h) (eD.mp c);rw[<- b7]at d
  by_cases e:v=1
  .rw[if_pos ↑e];subst e;show gR (dn _ _ (a28▸d.doneB C.sa C.sb C.first))
  .rw[if_neg ↑e];let f:RdH κ a b (o.push b[v]) (u+1) v:=(d,R.hu,by lia)
   split
   .show gR (br _ _ _ _ _ f (by lia))
   .show gR (go _ _ _ _ _ f (by lia))
structure HG (st:SortSt) (κ:KF) (a b:Array Keyed) (n:Nat) (Q:ForInStep H2->SortSt->Prop):Prop where
 dn:∀r c st',SG st st'->Mgd κ a.toList b.toList r.toList->Q (.done (bH r,c,)) st'
 br:∀o' u' v' x y z st',SG st st'->RdH κ a b o' u' v'->u'+v'<n->Q (.done (gV,u',v',o',x,y,z,)) st'
 go:∀o' u' v' x y z st',SG st st'->RdH κ a b o' u' v'->u'+v'<n->Q (.yield (gV,u',v',o',x,y,z,)) st'
def b7u(C:MC M A E s κ k0 ajj a b)(R:RdH κ a b o (u+1) v)(hle:∀y∈b.toList.take v,κ y<=Kk κ a u)(H:HG st κ a b n Q)(hn:u+v<n):wpS M A E s (hi5 a b (u+1) v o g ac bc) Q st:=by
 let k:=R.ua;let j:a[u]?=bH a[u]:=getElem?_pos ..;rw[a0P (show u<a.size by lia)]at hle;unfold hi5;simp only[fh];show gO (a0C j ?_);let c:=R.w.pushA C.sa (a0K (a:=a) (i:=u) (by lia)) hle;rw[<- b7]at c
 by_cases e:u=0
 .rw[if_pos ↑e];show gR (H.dn _ _ _ (SG.refl _) (a19▸c.doneA C.sa C.sb (.inl e)))
 .rw[if_neg ↑e];let d:RdH κ a b _ u v:=(c,by lia,R.hv)
  split
  .show gR (H.br _ _ _ _ _ _ _ (SG.refl _) d (by lia))
  .show gR (H.go _ _ _ _ _ _ _ (SG.refl _) d (by lia))
def a1V{l:List Keyed}(h:kR∈l.take n):∃q,q<n/\l[q]?=bH kR:=by
 let(m,a):=cb h;let b:=(bh.mp a).1;rw[eE]at a
 split at a
 .show(m,by cbv,a)
 .grind
def b7v(C:MC M A E s κ k0 ajj a b)(hk:kindOf st=k0)(R:RdH κ a b o (u+1) (v+1))(hle:∀y∈a.toList.take (u+1),κ y<=Kk κ b v)(H:HG st κ a b n Q)(hn:u+v<n):wpS M A E s (hi4 a b (u+1) (v+1) o g ac bc) Q st:=by
 let I:=R.ua;let G:=R.vb;let F:=R.hv;let B:b[v]?=bH b[v]:=getElem?_pos ..;let t:a[u]?=bH a[u]:=getElem?_pos ..;let r:=a0K (a:=a) (i:=u) (by lia);rw[a0P (show v<b.size by lia)]at hle;unfold hi4;simp only[fh];show gO (a0C B ?_);let d:=R.w.pushB C.sb (a0K (a:=b) (i:=v) (by lia)) hle;rw[<- b7]at d
 by_cases e:v=1
 .rw[if_pos ↑e];subst e;show gR (H.dn _ _ _ (SG.refl _) (a28▸d.doneB C.sa C.sb C.first))
 .rw[if_neg ↑e];show gO (a0C t (gO (a1E C.L hk (C.ha _ (bB r)) C.hb (by lia) (by lia) (a18 C.sb (by lia)) λp D j h=>?_)));dsimp only;simp only[dw]at j h;let c:∀y∈b.toList.take p,κ y<=Kk κ a u:=λy k=>by
   let(q,m,l):=a1V k
   let:=j q m
   rw[a3m l]at this;simp[bq]at this;rw[a0P (show u<a.size by lia)]
   lia
  split
  .let f:=MH.runB C.sb (v-p) (by rw[show p+(v-p)=v by lia];show d) λq z m J l y k=>by
    let:=h q m (by lia)
    rw[a3m l]at this;simp[bq]at this;show bU (a1F C.sa r y k) this
   rw[<- a6Q]at f
   by_cases e1:p=1
   .rw[if_pos ↑e1];subst e1;show gR (H.dn _ _ _ (SG.refl _) (a28▸f.doneB C.sa C.sb C.first))
   .rw[if_neg ↑e1]
    by_cases e2:p=0
    .rw[if_pos ↑e2];show gR (H.dn _ _ _ (SG.refl _) (a19▸f.doneA C.sa C.sb (.inr e2)))
    .rw[if_neg ↑e2];show b7u C (f,by lia,by lia) c H (by lia)
  .let:p=v:=by lia
   subst this;show b7u C (d,by lia,by lia) c H (by cbv)
def b9Y(C:MC M A E s κ k0 ajj a b)(hk:kindOf st=k0)(R:RdH κ a b o (u+1) (v+1))(H:HG st κ a b n Q)(hn:u+v<n):wpS M A E s (hi3 a b (u+1) (v+1) o g ac bc) Q st:=by
 let S:=R.ua;let N:=R.vb;let I:b[v]?=bH b[v]:=getElem?_pos ..;let D:=a0K (a:=b) (i:=v) (by lia);unfold hi3;rw[a4k];show gO (iA ?_);let h:SG st (SortSt.mk' _ _ _ g _):=(rfl,rfl,rfl,rfl);let e:kindOf (SortSt.mk' _ (arrOf st) (gY st) g (ir st))=k0:=hk;generalize SortSt.mk' _ (arrOf st) (gY st) g (ir st)=st1 at h e;let l:HG st1 κ a b n Q:=(λr c d g=>H.dn r c d (h.trans g),λ_ _ _ _ _ _ d g=>H.br _ _ _ _ _ _ d (h.trans g),λ_ _ _ _ _ _ d g=>H.go _ _ _ _ _ _ d (h.trans g));show gO (a0C I (gO (a1E C.L e (C.hb _ (bB D)) C.ha (by lia) (by lia) (a18 C.sa (by lia)) λp J k j=>?_)));dsimp only;simp at k j;let f:∀y∈a.toList.take p,κ y<=Kk κ b v:=λy m=>by
  let(q,B,x):=a1V m
  let:=k q B
  rw[a3m x]at this;simp[bq]at this;rw[a0P _];cbv
 split
 .let t:=MH.runA C.sa _ (show p+(u+1-p)=u+1 by lia▸R.w) λq z B T x y m=>by
   let:=j q B (by lia)
   rw[a3m x]at this;simp[bq]at this;show bU (a1F C.sb D y m) (cy this)
  rw[<- a6Q]at t
  by_cases e1:p=0
  .rw[if_pos ↑e1];show gR (l.dn _ _ _ (SG.refl _) (a19▸t.doneA C.sa C.sb (.inl e1)))
  .rw[if_neg ↑e1];obtain⟨G,rfl⟩:∃G,p=G+1:=(p-1,by lia);show b7v C e (t,by lia,R.hv) f l (by lia)
 .let:p=u+1:=by lia
  subst this;show b7v C e R f l (by cbv)
def b9Z(C:MC M A E s κ k0 ajj a b)(hk:kindOf st=k0)(R:RdH κ a b o (u+1) (v+1))(H:HG st κ a b n Q)(hn:u+v<n):wpS M A E s (hi2 a b (u+1) (v+1) o g ac bc) Q st:=by
 unfold hi2
 split<;>show b9Y C hk R H hn
def b1y(C:MC M A E s κ k0 ajj a b):MH κ a.toList b.toList [a[a.size-1]'(by let:=C.h0;cbv)] (a.size-1) b.size:=by
 let f:=C.h0;let d:MH κ a.toList b.toList [] (a.size-1+1) b.size:=(by rw[a0V];lia,by rw[a0V];lia,by rw[cj (by rw[a0V];lia),cj (by rw[a0V];lia)];simp,.nil,λx h=>by simp at h,λx h=>by simp at h);show d.pushA C.sa (a0K (a:=a) (i:=a.size-1) (by cbv)) λy e=>C.hl _ (by simp) y (bK e)
def a9u(C:MC M A E s κ k0 ajj a b)(hk:kindOf st=k0)
  (h:∀r st',SG st st'->Mgd κ a.toList b.toList r.toList->Q r st'):wpS M A E s (a4m a b) Q st:=by
 let h0:=C.h0;let h1:=C.h1;rw[a44];show a3Y (gO (a0C (getElem?_pos a (a.size-1) (by cbv)) ?_));let V:=b1y C
 by_cases e1:a.size-1=0
 .rw[if_pos ↑e1];show gR (h _ _ (SG.refl _) (a19▸V.doneA C.sa C.sb (.inl e1)))
 rw[if_neg ↑e1]
 by_cases e2:b.size=1
 .rw[if_pos ↑e2];show gR (h _ _ (SG.refl _) ?_);rw[e2]at V;rw[a28,e2];show V.doneB C.sa C.sb C.first
 rw[if_neg ↑e2];show gO (iE ?_);let R0:RdH κ a b #[a[a.size-1]] (a.size-1) b.size:=(V,by lia,by lia);show gO (ip (ii (I:=λx c e=>∃o u v g,c=(gV,u,v,o,g,)/\SG st e/\RdH κ a b o u v/\x+(u+v)<a.size+b.size)
  (Q:=λc e=>Ex2 λr G=>An3 (c=(bH r,G,)) (SG st e) (Mgd κ a.toList b.toList r.toList)) ?step ?fin (_,_,_,_,rfl,SG.refl _,R0,by lia)) ?post)
 case post=>
  ext c e ⟨r,G,rfl,L,m⟩;show gR (h r e L m)
 case fin=>
  ext c e ⟨o,u,v,g,rfl,L,R,hx⟩
  lia
 case step=>
  ext x c e _ hx ⟨o,u,v,g,rfl,L,R,hxi⟩;dsimp only;let hk1:kindOf e=k0:=L.kd.trans hk;show gO (ip (ii (I:=λy c l=>∃D f i S J,c=(gV,f,i,D,S,J,)/\l=e/\RdH κ a b D f i/\f+i+y<=u+v)
   (Q:=λc l=>l=e/\((∃r G,c=(bH r,G,)/\Mgd κ a.toList b.toList r.toList)\/∃D f i S J,c=(gV,f,i,D,S,J,)/\RdH κ a b D f i/\f+i<=u+v)) ?st1 ?fi1 (_,_,_,_,_,rfl,rfl,R,by lia)) ?po1)
  case fi1=>
   ext c l ⟨D,f,i,S,J,rfl,rfl,H,Y⟩;show(rfl,.inr (_,_,_,_,_,rfl,H,by lia))
  case st1=>
   ext y c l _ Y ⟨D,f,i,S,J,rfl,rfl,H,hyi⟩;dsimp only;let hu1:=H.hu;let hv1:=H.hv;obtain⟨f,rfl⟩:∃z,f=z+1:=(f-1,by lia);obtain⟨i,rfl⟩:∃z,i=z+1:=(i-1,by lia);show b9X C hk1 H (λr c m=>(rfl,.inl (r,c,rfl,m))) (λo2 i2 j2 u v R2 U=>(rfl,.inr (_,_,_,_,_,rfl,R2,by lia))) λo2 i2 j2 u v R2 U=>(_,_,_,_,_,rfl,rfl,R2,by lia)
  case po1=>
   ext c l ⟨rfl,⟨r,G,rfl,m⟩ |⟨D,f,i,S,J,rfl,H,hij⟩⟩
   .show gR (r,_,rfl,L,m)
   .dsimp only;show a3Y ?_;show gO (ip (ii (I:=λy c p=>∃B k j N q t,c=(gV,k,j,B,N,q,t,)/\SG st p/\RdH κ a b B k j/\k+j+y<=f+i)
     (Q:=λc p=>SG st p/\((∃r G,c=(bH r,G,)/\Mgd κ a.toList b.toList r.toList)\/∃B k j N q t,c=(gV,k,j,B,N,q,t,)/\RdH κ a b B k j/\k+j<f+i)) ?l ?fi2 (_,_,_,_,_,_,rfl,L,H,by lia)) ?po2)
    case fi2=>
     ext c p ⟨B,k,j,N,q,t,rfl,d,F,Y⟩;show(d,.inr (_,_,_,_,_,_,rfl,F,by let:=F.hu;lia))
    case l=>
     ext y c p _ Y ⟨B,k,j,N,q,t,rfl,d,F,hyi⟩;dsimp only;let hu1:=F.hu;let hv1:=F.hv;obtain⟨k,rfl⟩:∃z,k=z+1:=(k-1,by lia);obtain⟨j,rfl⟩:∃z,j=z+1:=(j-1,by lia);show b9Z (n:=k+1+(j+1)) C (d.kd.trans hk) F (λr c W T m=>(d.trans T,.inl (r,c,rfl,m)),λo4 i4 j4 u v w W T X U=>(d.trans T,.inr (_,_,_,_,_,_,rfl,X,by lia)),λo4 i4 j4 u v w W T X U=>(_,_,_,_,_,_,rfl,d.trans T,X,by lia)) (by lia)
    case po2=>
     ext c p ⟨d,⟨r,G,rfl,m⟩ |⟨B,k,j,N,q,t,rfl,F,U⟩⟩
     .show gR (r,_,rfl,d,m)
     .dsimp only;rw[a4k];show gO (iA (gR (_,_,_,_,rfl,(d.kd,d.ar,d.pe,d.fl),F,by lia)))
end
def SR(κ:KF)(xs:Array Keyed)(lo n:Nat):Prop:=∀i j,i<=j->j<n->Kk κ xs (lo+i)<=Kk κ xs (lo+j)
def NR(κ:KF)(xs:Array Keyed)(lo n:Nat):Prop:=∀i j,i<=j->j<n->Kk κ xs (lo+j)<=Kk κ xs (lo+i)
structure Ar (st st':SortSt) (lo:Nat):Prop where
 pm:(arrOf st').Perm (arrOf st)
 pre:∀i,i<lo->(arrOf st')[i]?=(arrOf st)[i]?
 kd:kindOf st'=kindOf st
 pe:gY st'=gY st
 fl:ir st'=ir st
section
variable{M:Model}{k0:iz}{ajj:Array Keyed}{st st':SortSt}{lo:Nat}
def Ar.refl(st:SortSt)(lo:Nat):Ar st st lo:=(fi.refl _,λ_ _=>rfl,rfl,rfl,rfl)
def Ar.trans(p:Ar x kR lo)(q:Ar kR z lo):Ar x z lo:=(q.pm.trans p.pm,λi h=>(q.pre i h).trans (p.pre i h),q.kd.trans p.kd,q.pe.trans p.pe,q.fl.trans p.fl)
def Ar.tb(q:Ar st st' lo)(B:TB k0 ajj st):TB k0 ajj st':=(q.pm.trans B.pm,q.kd.trans B.kd,q.fl.trans B.fl)
def b20(hs:src<xs.size)(hd:d<=src)(k:Nat) :
  Kk κ (bubble xs src d) k=if k=src-d then Kk κ xs src else if src-d<k/\k<=src then Kk κ xs (k-1) else Kk κ xs k:=by
 let q:=getElem?_bubble hs d hd k
 by_cases h1:k=src-d
 .rw[if_pos h1]at q ⊢;show a3l q
 .rw[if_neg h1]at q ⊢
  by_cases h2:src-d<k/\k<=src
  .rw[if_pos h2]at q ⊢;show a3l q
  .rw[if_neg h2]at q ⊢;show a3l q
def Ar.bub(hs:src<(arrOf st).size)(hd:d<=src)(h:lo<=src-d):Ar st (setArr st (bubble (arrOf st) src d)) lo:=
 (bubble_perm _ _ _,λi a=>by
  rw[getElem?_bubble hs d hd,if_neg (by lia),if_neg (by lia)],rfl,rfl,rfl)
def a9v(hj:j<=xs.size)(k:Nat):Kk κ (mirror xs i j ((j-i) / 2)) k=if i<=k/\k<j then Kk κ xs (i+j-1-k) else Kk κ xs k:=by
 let q:=getElem?_mirror_all (i:=i) hj k
 by_cases h1:i<=k/\k<j
 .rw[if_pos h1]at q ⊢;show a3l q
 .rw[if_neg h1]at q ⊢;show a3l q
def a3n(hj:j<=xs.size)(hq:∀k,i<=k->k<j->Kk κ xs k=Kk κ xs (j-1))(k:Nat):Kk κ (mirror xs i j ((j-i) / 2)) k=Kk κ xs k:=by
 rw[a9v hj]
 split
 .grind
 .rfl
def Ar.mir(hj:j<=(arrOf st).size)(h:lo<=i):Ar st (setArr st (mirror (arrOf st) i j ((j-i) / 2))) lo:=
 (mirror_perm _ _ _ _,λk a=>by
  rw[getElem?_mirror_all hj,if_neg (by lia)],rfl,rfl,rfl)
def b1z(L:LtOk M A E s κ k0 ajj)(B:TB k0 ajj st)(hn:lo+n<=ajj.size)(hok:ok<=n)(hs:SR κ (arrOf st) lo ok)
  (h:∀st',Ar st st' lo->SR κ (arrOf st') lo n->Q kz st'):wpS M A E s (binarySort' lo n ok) Q st:=by
 rw[binarySort'_eq];show gO (ip (ii (I:=λk c z=>An3 (c=(gV,(),)) (Ar st z lo) (SR κ (arrOf z) lo (min k n))) (Q:=λc z=>An3 (c=(gV,(),)) (Ar st z lo) (SR κ (arrOf z) lo n)) ?step ?fin ?init) ?post)
 case post=>
  ext c z ⟨rfl,r1,r2⟩;show gR (h z r1 r2)
 case init=>
  show(rfl,Ar.refl _ _,λi j hij hj=>?_)
  by_cases h1:ok=0
  .let:i=j:=by lia
   rw[this];show cJ _
  .show hs i j hij (by lia)
 case fin=>
  ext c z ⟨hc,r1,r2⟩;show(hc,r1,?_)
  rwa [show min (max (max ok 1) n) n=n by lia]at r2
 case step=>
  ext k c z hak hkn ⟨rfl,r1,r2⟩;rw[show min k n=k by lia]at r2;let B1:=r1.tb B;show gO (ip (ii (I:=λx c y=>y=z/\Ex2 λp q=>An6 (c=(gV,p,q,)) (p<=q) (q<=k) (q-p<=k-x) (∀i,i<p->Kk κ (arrOf z) (lo+i)<=Kk κ (arrOf z) (lo+k)) (∀i,q<=i->i<k->Kk κ (arrOf z) (lo+k)<Kk κ (arrOf z) (lo+i)))
   (Q:=λc y=>y=z/\Ex2 λp q=>An4 (c=(gV,p,q,)) (p<=k) (∀i,i<p->Kk κ (arrOf z) (lo+i)<=Kk κ (arrOf z) (lo+k)) (∀i,p<=i->i<k->Kk κ (arrOf z) (lo+k)<Kk κ (arrOf z) (lo+i))) ?istep ?ifin ?iinit) ?ipost)
  case iinit=>show(rfl,0,k,rfl,by lia,by lia,by lia,λi hi=>by lia,λi h1 h2=>by lia)
  case ifin=>
   ext c y ⟨rfl,p,q,rfl,u1,u2,u3,u4,u5⟩
   let:p=q:=by lia
   subst this;show(rfl,p,p,rfl,u2,u4,u5)
  case istep=>
   ext x c y _ hxk ⟨rfl,p,q,rfl,u1,u2,u3,u4,u5⟩;dsimp only
   by_cases hge:p>=q
   .rw[if_pos hge]
    let:p=q:=by lia
    subst this;show gR (rfl,p,p,rfl,u2,u4,u5)
   .rw[if_neg hge];show gO (a42 L B1 (by lia) (by lia) ?_)
    by_cases hless:Kk κ (arrOf y) (lo+k)<Kk κ (arrOf y) (lo+(p+q) / 2)
    .simp only[hless,decide_true,if_true];show gR (rfl,p,(p+q) / 2,rfl,(hvM hge).1,by lia,(hvS hxk u3 (hvM hge).1 (hvM hge).2).1,u4,λi h1 h2=>?_);show Int.lt_of_lt_of_le hless (r2 _ _ h1 h2)
    .simp only[hless,decide_false,dy,if_false];show gR (rfl,(p+q) / 2+1,q,rfl,(hvM hge).2,u2,(hvS hxk u3 (hvM hge).1 (hvM hge).2).2,λi h1=>?_,u5);show bU (r2 i ((p+q) / 2) (by lia) (by lia)) (eD.mp hless)
  case ipost=>
   ext c y ⟨rfl,p,q,rfl,u2,u4,u5⟩
   change wpS _ _ _ _ (do moveDown' (lo+k) (lo+p);pure (ForInStep.yield (gV,(),))) _ _
   rw[moveDown'_eq];let hks:lo+k<(arrOf y).size:=by rw[B1.sz];lia
   show gO (iA (gR (rfl,r1.trans (Ar.bub hks (by lia) (by lia)),?_)));rw[show min (k+1) n=k+1 by lia];ext i j hij hj
   change Kk κ (bubble (arrOf y) (lo+k) (lo+k-(lo+p))) (lo+i)<=Kk κ (bubble (arrOf y) (lo+k) (lo+k-(lo+p))) (lo+j)
   rw[b20 hks (by lia),b20 hks (by lia),show lo+k-(lo+k-(lo+p))=lo+p by lia];let ek:∀t,1<=t->lo+t-1=lo+(t-1):=λt ht=>by lia
   repeat' split
   all_goals first
    | (exfalso;lia)
    |show cJ _
    |show u4 _ (by lia)
    | (rw[ek _ (by lia)];show u4 _ (by lia))
    |show cy (u5 _ (by lia) (by lia))
    | (rw[ek _ (by lia)];show cy (u5 _ (by lia) (by lia)))
    |show r2 _ _ (by lia) (by lia)
    | (rw[ek j (by lia)];show r2 _ _ (by lia) (by lia))
    | (rw[ek i (by lia)];show r2 _ _ (by lia) (by lia))
    | (rw[ek i (by lia),ek j (by lia)];show r2 _ _ (by lia) (by lia))
end
abbrev U1:=Option (Option Nat)×Nat
abbrev U2:=Option (Option Nat)×Nat×Nat
noncomputable def rise(lo p nr:Nat):SM U1:=forIn [p:nr] ((gV,p,):U1) λ_ c=>do
 let x <- ltAt' (lo+c.2) (lo+c.2-1)
 match x with
 |some sm=>if sm=kz then pure (.done (gV,c.2,)) else pure (.yield (gV,c.2+1,))
 |_=>pure (.done (bH gV,c.2,))
noncomputable def fin3(lo n nr:Nat):SM (Option Nat):=do
 jC lo (lo+n)
 let c <- rise lo n nr
 match c.1 with
 |some r=>pure r
 |none=>pure (bH c.2)
noncomputable def fall(lo n nr:Nat):SM U2:=forIn [n:nr] ((gV,n,0,):U2) λ_ c=>do
 let x <- ltAt' (lo+c.2.1) (lo+c.2.1-1)
 match x with
 |some sm=>
  if sm=kz then
   if c.2.2 > 0 then do
    jC (lo+c.2.1-(c.2.2+1)) (lo+c.2.1)
    pure (.yield (gV,c.2.1+1,0,))
   else pure (.yield (gV,c.2.1+1,0,))
  else do
   let x <- ltAt' (lo+c.2.1-1) (lo+c.2.1)
   match x with
   |some lg=>if lg=kz then pure (.done (gV,c.2.1,c.2.2,)) else pure (.yield (gV,c.2.1+1,c.2.2+1,))
   |_=>pure (.done (bH gV,c.2.1,c.2.2,))
 |_=>pure (.done (bH gV,c.2.1,c.2.2,))
noncomputable def part(lo n nr:Nat):SM (Option Nat):=do
 liftM (rule "list.sort.descending-run")
 let c <- fall lo (n+1) nr
 match c.1 with
 |some r=>pure r
 |none=>
  if c.2.2 > 0 then do
   jC (lo+c.2.1-(c.2.2+1)) (lo+c.2.1)
   fin3 lo c.2.1 nr
  else fin3 lo c.2.1 nr
def a4n(lo nr:Nat):countRun' lo nr=(do
  let c <- rise lo 1 nr
  match c.1 with
  |some r=>pure r
  |none=>
   if (c.2==nr)=kz then pure (bH c.2)
   else if c.2 > 1 then do
    let x <- ltAt' lo (lo+c.2-1)
    match x with
    |some up=>if up=kz then pure (bH c.2) else do
      jC lo (lo+c.2)
      part lo c.2 nr
    |_=>pure gV
   else part lo c.2 nr):=by
 kernel_rfl
section
variable{M:Model}{k0:iz}{ajj:Array Keyed}{st:SortSt}{lo nr:Nat}
def b1A{α:Type}{f:Unit->SM α}{Q:α->SortSt->Prop}(h:wpS M A E s (f ()) Q (setArr st (mirror (arrOf st) i j ((j-i) / 2)))):wpS M A E s (jC i j >>= f) Q st:=gO (iA h)
def SR.one:SR κ xs lo 1:=by grind [SR]
def SR.snoc(h:SR κ xs lo n)(h1:1<=n)(c:Kk κ xs (lo+n-1)<=Kk κ xs (lo+n)):SR κ xs lo (n+1):=λi j a b=>by
 by_cases hjn:j<n
 .show h i j a hjn
 .let e:j=n:=by lia
  subst e
  by_cases e2:i=j
  .rw[e2];show cJ _
  .show bU (h i (j-1) (by lia) (by lia)) ?_;rw[show lo+(j-1)=lo+j-1 by lia];show c
def NR.snoc(h:NR κ xs lo n)(h1:1<=n)(c:Kk κ xs (lo+n)<=Kk κ xs (lo+n-1)):NR κ xs lo (n+1):=λi j a b=>by
 by_cases hjn:j<n
 .show h i j a hjn
 .let e:j=n:=by lia
  subst e
  by_cases e2:i=j
  .simp_all
  .show bU ?_ (h i (j-1) (by lia) (by lia));rw[show lo+(j-1)=lo+j-1 by lia];show c
def NR.congr(h:NR κ xs lo n)(e:∀k,Kk κ ys k=Kk κ xs k):NR κ ys lo n:=λi j b a=>by rw[e,e];show h i j b a
def b21(L:LtOk M A E s κ k0 ajj)(B:TB k0 ajj st)(hn:lo+nr<=ajj.size)(hp:1<=p)(hpn:p<=nr)(hs:SR κ (arrOf st) lo p)
  (h:∀n,p<=n->n<=nr->SR κ (arrOf st) lo n->(n=nr\/Kk κ (arrOf st) (lo+n)<Kk κ (arrOf st) (lo+n-1))->Q (gV,n,) st):wpS M A E s (rise lo p nr) Q st:=by
 show ii (I:=λx c z=>An3 (z=st) (c=(gV,x,)) (SR κ _ lo x)) ?step ?fin (rfl,rfl,hs)
 case fin=>
  ext c z ⟨rfl,rfl,a⟩;rw[show max p nr=nr by lia]at a ⊢;show h nr hpn (bd _) a (.inl rfl)
 case step=>
  ext x c z b d ⟨rfl,rfl,a⟩;show gO (a42 L B (by lia) (by lia) ?_)
  by_cases q:Kk κ (arrOf z) (lo+x)<Kk κ (arrOf z) (lo+x-1)
  .simp only[q];show gR (h x b (by lia) a (.inr q))
  .simp only[q];show gR (rfl,rfl,a.snoc (by lia) (eD.mp q))
def b22(L:LtOk M A E s κ k0 ajj)(B:TB k0 ajj st)(hn:lo+nr<=ajj.size)(h1:1<=n)(hnn:n<=nr)(hs:NR κ (arrOf st) lo n)
  (h:∀m z,Ar st z lo->1<=m->m<=nr->SR κ (arrOf z) lo m->Q (bH m) z):wpS M A E s (fin3 lo n nr) Q st:=by
 let a:lo+n<=(arrOf st).size:=by rw[B.sz];lia
 show b1A ?_;let b:Ar st _ lo:=Ar.mir a (bd _);show gO (b21 L (b.tb B) hn h1 hnn ?_ λm g d c _=>gR (h m _ b (by lia) d c));ext i j e f;rw[a9v a,a9v a,if_pos (by lia),if_pos (by lia),show lo+_-1-_=lo+(n-1-i) by lia,show lo+_-1-_=lo+(n-1-j) by lia];show hs _ _ (by lia) (by lia)
def b7w(L:LtOk M A E s κ k0 ajj)(B:TB k0 ajj st)(hn:lo+nr<=ajj.size)(h1:1<=n)(hnn:n<=nr)(hs:NR κ (arrOf st) lo n)
  (h:∀m e z,Ar st z lo->n<=m->m<=nr->NR κ (arrOf z) lo m->e+1<=m->(∀i,lo+m-(e+1)<=i->i<lo+m->Kk κ (arrOf z) i=Kk κ (arrOf z) (lo+m-1))->Q (gV,m,e,) z):wpS M A E s (fall lo n nr) Q st:=by
 unfold fall;show ii (I:=λx c z=>∃e,An5 (c=(gV,x,e,)) (Ar st z lo) (NR κ (arrOf z) lo x) (e+1<=x) (∀i,lo+x-(e+1)<=i->i<lo+x->Kk κ (arrOf z) i=Kk κ (arrOf z) (lo+x-1))) ?step ?fin (0,rfl,Ar.refl _ _,hs,by lia,λi l a=>by congr 1;lia)
 case fin=>
  ext c z ⟨e,rfl,b,a,f,d⟩;rw[show max n nr=nr by lia]at a f d ⊢;show h nr e z b hnn (bd _) a f d
 case step=>
  ext x c z p r ⟨e,rfl,b,a,f,d⟩;dsimp only;let k:=b.tb B;let j:lo+x<=(arrOf z).size:=by rw[k.sz];lia
  show gO (a42 L k (by lia) (by lia) ?_)
  by_cases q:Kk κ (arrOf z) (lo+x)<Kk κ (arrOf z) (lo+x-1)
  .simp only[q,decide_true,if_true];let o:=a.snoc (by lia) (cy q)
   by_cases g:e > 0
   .rw[if_pos g];show b1A (gR (0,rfl,b.trans (Ar.mir j (by lia)),o.congr (a3n j d),by lia,λi l a=>by congr 1;lia))
   .rw[if_neg g];show gR (0,rfl,b,o,by lia,λi l a=>by congr 1;lia)
  .simp only[q,decide_false,if_false];show gO (a42 L k (by lia) (by lia) ?_)
   by_cases q2:Kk κ (arrOf z) (lo+x-1)<Kk κ (arrOf z) (lo+x)
   .simp only[q2,decide_true,if_true];show gR (h x e z b p (by lia) a f d)
   .simp only[q2,decide_false,if_false];let g:Kk κ (arrOf z) (lo+x)=Kk κ (arrOf z) (lo+x-1):=by lia
    show gR (e+1,rfl,b,a.snoc (by lia) (by lia),by lia,λi l a=>?_);rw[show lo+(x+1)-1=lo+x by lia]
    by_cases hix:i=lo+x
    .rw[hix]
    .grind
def b23(L:LtOk M A E s κ k0 ajj)(B:TB k0 ajj st)(hn:lo+nr<=ajj.size)(hnn:n+1<=nr)(hs:NR κ (arrOf st) lo (n+1))
  (h:∀m z,Ar st z lo->1<=m->m<=nr->SR κ (arrOf z) lo m->Q (bH m) z):wpS M A E s (part lo n nr) Q st:=by
 show a3Y (gO (b7w L B hn (by simp) hnn hs λm e z c l i g o j=>?_));dsimp only;let f:=c.tb B;let a:lo+m<=(arrOf z).size:=by rw[f.sz];lia
 by_cases he:e > 0
 .rw[if_pos he];let d:Ar st (setArr z (mirror (arrOf z) (lo+m-(e+1)) _ _)) lo:=c.trans (Ar.mir a (by lia));show b1A (b22 L (d.tb B) hn (by lia) i (g.congr (a3n a j)) λk w b=>h k w (d.trans b))
 .rw[if_neg he];show b22 L f hn (by lia) i g λk w b=>h k w (c.trans b)
def b4i(L:LtOk M A E s κ k0 ajj)(B:TB k0 ajj st)(hn:lo+nr<=ajj.size)(h1:1<=nr)
  (h:∀m z,Ar st z lo->1<=m->m<=nr->SR κ (arrOf z) lo m->Q (bH m) z):wpS M A E s (countRun' lo nr) Q st:=by
 rw[a4n];show gO (b21 L B hn (bd 1) h1 SR.one λn e l b t=>?_);dsimp only
 by_cases hnn:n=nr
 .rw[if_pos ↑hnn];show gR (h n st (Ar.refl _ _) e l b)
 .rw[if_neg ↑hnn];let d:=t.resolve_left hnn;let c:lo+n<=(arrOf st).size:=by rw[B.sz];lia
  by_cases hgt:n > 1
  .rw[if_pos hgt];show gO (a42 L B (by lia) (by lia) ?_)
   by_cases q:Kk κ (arrOf st) lo<Kk κ (arrOf st) (lo+n-1)
   .simp only[q,decide_true,if_true];show gR (h n st (Ar.refl _ _) e l b)
   .simp only[q,if_false];let a:∀k,lo<=k->k<lo+n->Kk κ (arrOf st) k=Kk κ (arrOf st) (lo+n-1):=λk y x=>by
     let g:=b 0 (k-lo) (by lia) (by lia);let f:=b (k-lo) (n-1) (by lia) (by lia);rw[show lo+(k-lo)=k by lia]at g f;rw[show lo+(n-1)=lo+n-1 by lia]at f;rw[eF]at g
     lia
    let o:Ar st _ lo:=Ar.mir c (bd _);let u:NR κ (arrOf st) lo (n+1):=by
     show NR.snoc (λi j p r=>?_) (by cbv) (cy d);rw[a (lo+i) (by lia) (by lia),a (lo+j) (by lia) (by lia)];show cJ _
    show b1A (b23 L (o.tb B) hn (by lia) (u.congr (a3n c a)) λk w v=>h k w (o.trans v))
  .rw[if_neg hgt]
   let:n=1:=by lia
   subst this;show b23 L B hn (by lia) ?_ h;show NR.snoc (λi j p r=>?_) (by cbv) (cy d)
   let:i=j:=by lia
   rw[this];show cJ _
end
def a51(i:Nat):kC i=(do
 let z <- get
 let (bH (p,n,w,),bH (q,m,_,),):=((gY z)[i]?,(gY z)[i+1]?,) |iV "internal:list.sort.pending"
 set (jD z (((gY z).setIfInBounds i (p,n+m,w,)).eraseIdxIfInBounds (i+1)))
 let bH k <- a1B kQ (<- elem' (arrOf z) q) (arrOf z) p n 0 |return kQ
 let (p,n,):=(p+k,n-k,)
 if n==0 then return kz
 let bH m <- a1B kz (<- elem' (arrOf z) (p+n-1)) (arrOf z) q m (m-1) |return kQ
 if m==0 then return kz
 let x:=(arrOf z).extract p q
 let y:=(arrOf z).extract q (q+m)
 let mg <- if n<=m then a4l x y else a4m x y
 modify λz=>setArr z (mg.toList.zipIdx.foldl (λa (v,j,)=>a.setIfInBounds (p+j) v) (arrOf z))
 return (ir (<- get)).isNone):=rfl
def b1B(bs:Nat):∀(l:List Keyed)(k:Nat)(xs:Array Keyed),bs+k+l.length<=xs.size ->
  ((l.zipIdx k).foldl (λa (pj:Keyed×Nat)=>a.setIfInBounds (bs+pj.2) pj.1) xs).toList=xs.toList.take (bs+k)++(l++xs.toList.drop (bs+k+l.length)):=by ext z0;induction z0 with
 |nil=>ext k xs _;simp
 |cons x l I0=>
  ext k xs h;rw[bv]at h;rw[fU,fV,I0 _ _ (by grind)];let e:(xs.setIfInBounds (bs+k) x).toList=xs.toList.set (bs+k) x:=by simp
  rw[e,show bs+_=bs+k+1 by lia,fW (by lia),bv,show bs+k+1+l.length=bs+k+(l.length+1) by lia]
  let:(xs.toList.set (bs+k) x).take (bs+k+1)=xs.toList.take (bs+k)++[x]:=by
   rw[cG,fX (bd _),dG (by grind)]
   rfl
  rw[this];simp
section
variable{M:Model}{k0:iz}{ajj:Array Keyed}{st:SortSt}
def b90(h:Q ⟨⟩ z):wpS M A E s (set z:SM PUnit) Q st:=gK (rfl,h)
def b24(e:xs.toList=kR++(kS++R))(hi:i<kS.length):Kk κ xs (kR.length+i)=κ kS[i]:=by
 show a3m ?_;rw[e,cT (by simp),cU (by lia),show kR.length+i-kR.length=i by lia];show bn hi
def a2a(h:Srt κ kR)(hij:i<=j)(hj:j<kR.length):κ (kR[i]'(by lia))<=κ kR[j]:=by
 by_cases e:i=j
 .subst e;show cJ _
 .show cO.mp h i j (by lia) hj (by lia)
def a6R{X:List Keyed}(h:x∈X):∃i,∃(hi:i<X.length),X[i]=x:=dR.mp h
def a45{X:List Keyed}(h:x∈X.take k):∃i,∃(hi:i<X.length),i<k/\X[i]=x:=by
 let(q,a,d):=a1V h;let(b,c):=bh.mp d;show(q,b,a,c)
def a6S{X:List Keyed}(h:x∈X.drop k):∃i,∃(hi:i<X.length),k<=i/\X[i]=x:=by
 let(q,b,e,d):=a1U h;let(c,a):=bh.mp d;show(q,c,b,a)
def a9w(L:LtOk M A E s κ k0 ajj)(B:TB k0 ajj st)(e1:(gY st)[i]?=bH (sa,na,pw,))(e2:(gY st)[i+1]?=bH (sb,nb,pw2,))
  (ea:(arrOf st).toList=kR++(kS++(Y++S))) (hP:kR.length=sa) (hX:kS.length=na) (hsb:sb=sa+na) (hY:Y.length=nb) (sX:Srt κ kS) (sY:Srt κ Y) (h1:0<na) (h2:0<nb)
  (h:∀st' Z,TB k0 ajj st'->(arrOf st').toList=kR++(Z++S)->Z.length=na+nb->Srt κ Z->gY st'=((gY st).setIfInBounds i (sa,na+nb,pw,)).eraseIdxIfInBounds (i+1)->Q kz st'):wpS M A E s (kC i) Q st:=by
 let hsz:(arrOf st).size=sa+na+nb+S.length:=by
  rw[<- a0V,ea];simp;lia
 let hmem:∀p∈(arrOf st).toList,p∈ajj.toList:=λp hp=>(dP.mp B.pm).mem_iff.mp hp;let eb:(arrOf st).toList=(kR++kS)++(Y++S):=by rw[ea,bS]
 let kX:∀i,(hi:i<kS.length)->Kk κ (arrOf st) (sa+i)=κ kS[i]:=λi hi=>by rw[<- hP];show b24 ea hi
 let kY:∀i,(hi:i<Y.length)->Kk κ (arrOf st) (sb+i)=κ Y[i]:=λi hi=>by
  rw[hsb,<- hP,<- hX,<- bu];show b24 eb hi
 rw[a51];show gO (iE ?_);rw[e1,e2];dsimp only;show gO (b90 ?_);let B1:TB k0 ajj (jD st (((gY st).setIfInBounds i (sa,na+nb,pw,)).eraseIdxIfInBounds (i+1))):=(B.pm,B.kd,B.fl);let hs1:arrOf (jD st (((gY st).setIfInBounds i (sa,na+nb,pw,)).eraseIdxIfInBounds (i+1)))=arrOf st:=rfl;let hp1:gY (jD st (((gY st).setIfInBounds i (sa,na+nb,pw,)).eraseIdxIfInBounds (i+1)))=((gY st).setIfInBounds i (sa,na+nb,pw,)).eraseIdxIfInBounds (i+1):=rfl;generalize jD st (((gY st).setIfInBounds i (sa,na+nb,pw,)).eraseIdxIfInBounds (i+1))=st1 at B1 hs1 hp1;let hy0:sb<(arrOf st).size:=by lia
 let ey:(arrOf st)[sb]?=bH (arrOf st)[sb]:=getElem?_pos ..;let hky:κ (arrOf st)[sb]=κ Y[0]:=by
  let:=kY 0 (by cbv)
  rw[eF,a5Z ey]at this;show this
 let hmy:(arrOf st)[sb]∈ajj.toList:=hmem _ (by simp);show gO (a0C ey (gO ?_));show a1E L B1.kd hmy hmem (by lia) (by cbv) (λp q hp hq=>by rw[kX p (by lia),kX q (by cbv)];show a2a sX hp (by cbv)) λk hkn hlt hge=>?_;dsimp only;let lo:∀q,(hq:q<kS.length)->q<k->κ kS[q]<=κ Y[0]:=λq hq hqk=>by
  let:=hlt q hqk
  rw[kX q hq,hky]at this;simpa[bq]using this
 let up:∀q,(hq:q<kS.length)->k<=q->κ Y[0]<κ kS[q]:=λq hq hqk=>by
  let:=hge q hqk (by lia)
  rw[kX q hq,hky]at this;simpa[bq]using this
 let whole:(∀x∈kS,∀y∈Y,κ x<=κ y)->Q kz st1:=λhxy=>by
  show h st1 (kS++Y) B1 (by rw[hs1,ea,bS]) (by rw[bu,hX,hY]) ?_ hp1;show bO.mpr (sX,sY,hxy)
 by_cases c1:na-k=0
 .rw[if_pos ↑c1];show gR (whole λx hx y hy=>?_);let(q,hq,rfl):=a6R hx;let(r,hr,rfl):=a6R hy;show bU (lo q hq (by lia)) (a2a sY (bR _) hr)
 rw[if_neg ↑c1];let hl:sa+k+(na-k)-1<(arrOf st).size:=by lia
 let ex:(arrOf st)[sa+k+(na-k)-1]?=bH (arrOf st)[sa+k+(na-k)-1]:=getElem?_pos ..;let hkx:κ (arrOf st)[sa+k+(na-k)-1]=κ kS[na-1]:=by
  let:=kX (na-1) (by cbv)
  rw[show sa+(na-1)=sa+k+(na-k)-1 by lia,a5Z ex]at this;show this
 let hmx:(arrOf st)[sa+k+(na-k)-1]∈ajj.toList:=hmem _ (by simp);show gO (a0C ex (gO ?_));show a1E L B1.kd hmx hmem (by lia) (by lia) (λp q hp hq=>by rw[kY p (by lia),kY q (by cbv)];show a2a sY hp (by cbv)) λm hmn hlt2 hge2=>?_;dsimp only;let lo2:∀q,(hq:q<Y.length)->q<m->κ Y[q]<κ kS[na-1]:=λq hq hqk=>by
  let:=hlt2 q hqk
  rw[kY q hq,hkx]at this;simpa[bq]using this
 let up2:∀q,(hq:q<Y.length)->m<=q->κ kS[na-1]<=κ Y[q]:=λq hq hqk=>by
  let:=hge2 q hqk (by lia)
  rw[kY q hq,hkx]at this;simpa[bq]using this
 by_cases c2:m=0
 .rw[if_pos ↑c2];show gR (whole λx hx y hy=>?_);let(q,hq,rfl):=a6R hx;let(r,hr,rfl):=a6R hy;show bU (a2a sX (by lia) (by lia)) (up2 r hr (by lia))
 rw[if_neg ↑c2];let lx:((arrOf st).extract (sa+k) sb).toList=kS.drop k:=by
  rw[fY,eB,ea,fj,<- hP,dQ (by lia),dS,show kR.length+k-kR.length=k by lia,fZ (by lia),eI (by rw[bZ];lia),cj (by rw[bZ];lia)]
 let ly:((arrOf st).extract sb (sb+m)).toList=Y.take m:=by
  rw[fY,eB,eb,fj,dQ (by rw[bu];lia),dS,show sb-(kR++kS).length=0 by rw[bu];lia,List.drop_zero,eI (by lia),show sb+m-sb=m by lia]
 let C:MC M A E s κ k0 ajj ((arrOf st).extract (sa+k) sb) ((arrOf st).extract sb (sb+m)):=by
  show(L,λp hp=>?_,λp hp=>?_,?_,?_,?_,?_,λy hy=>?_,λz hz y hy=>?_)
  .rw[lx]at hp;show hmem p (by rw[ea];simp[ff hp])
  .rw[ly]at hp;show hmem p (by rw[ea];simp[bK hp])
  .rw[lx];show a0Z sX k
  .rw[ly];show a1n sY m
  .rw[<- a0V,lx,bZ];lia
  .rw[<- a0V,ly,bE];lia
  .rw[lx]at hy;let(q,hq,hk,rfl):=a6S hy;rw[a3m (z:=Y[0]) (by rw[ly,eE,if_pos (by lia)];show bn _)];show cy (up q hq hk)
  .rw[ly]at hy;rw[lx,bZ,dr,show k+(kS.length-k-1)=na-1 by lia,bn (show na-1<kS.length by cbv)]at hz;cases hz;let(q,hq,hk,rfl):=a45 hy;show cy (lo2 q hq hk)
 let fin:∀(r:Array Keyed)(st2:SortSt),SG st1 st2->Mgd κ ((arrOf st).extract (sa+k) sb).toList ((arrOf st).extract sb (sb+m)).toList r.toList ->
   wpS M A E s (do
    modify λz=>setArr z (r.toList.zipIdx.foldl (λa (pj:Keyed×Nat)=>a.setIfInBounds (sa+k+pj.2) pj.1) (arrOf z))
    return (ir (<- get)).isNone) Q st2:=by
  ext r st2 g2 mg;rw[lx,ly]at mg;let hrl:r.toList.length=na-k+m:=by rw[mg.1.length_eq,bu,bZ,bE];lia
  show gO (iA (gO (iE (gR ?_))));let ha2:arrOf st2=arrOf st:=g2.ar.trans hs1;let ef:=b1B (sa+k) r.toList 0 (arrOf st2) (by rw[ha2];lia);let el:(r.toList.zipIdx.foldl (λa (pj:Keyed×Nat)=>a.setIfInBounds (sa+k+pj.2) pj.1) (arrOf st2)).toList=kR++((kS.take k++r.toList++Y.drop m)++S):=by
   rw[ef,ha2,eF,hrl];let t1:(arrOf st).toList.take (sa+k)=kR++kS.take k:=by
    rw[ea,List.take_append,cj (by lia),<- hP,show kR.length+k-kR.length=k by lia,eI (by cbv)]
   let t2:(arrOf st).toList.drop (sa+k+(na-k+m))=Y.drop m++S:=by
    rw[eb,fj,dQ (by rw[bu];cbv),dS,show sa+k+(na-k+m)-(kR++kS).length=m by rw[bu];cbv,fZ (by cbv)]
   rw[t1,t2];simp
  generalize hgz:r.toList.zipIdx.foldl (λa (pj:Keyed×Nat)=>a.setIfInBounds (sa+k+pj.2) pj.1) (arrOf st2)=ar at el;let hperm:(kS.take k++r.toList++Y.drop m).Perm (kS++Y):=by
   let:(kS.take k++r.toList++Y.drop m).Perm (kS.take k++(kS.drop k++Y.take m)++Y.drop m):=(bP.append_left _ mg.1).append_right _
   show this.trans ?_;let e:kS.take k++(kS.drop k++Y.take m)++Y.drop m=kS++Y:=by
    rw[<- bS,dU,bS,dU]
   rw[e]
  let pm:ar.Perm (arrOf st):=by
   rw[dP,el,ea];show bP.append_left _ ?_;rw[<- bS (as:=kS)];show hperm.append_right _
  let hfl:ir (setArr st2 ar)=gV:=g2.fl.trans B1.fl;let B2:TB k0 ajj (setArr st2 ar):=(pm.trans B.pm,g2.kd.trans B1.kd,hfl);rw[hfl];show h _ _ B2 el (by rw[hperm.length_eq,bu,hX,hY]) ?_ (g2.pe.trans hp1);let hr:∀w∈r.toList,w∈kS.drop k\/w∈Y.take m:=λw hw=>be.mp (mg.1.mem_iff.mp hw);show bO.mpr (bO.mpr (a1n sX k,mg.2,λx hx w hw=>?_),a0Z sY m,λx hx y hy=>?_)
  .let(q,hq,hk,rfl):=a45 hx;let hw||hw:=hr w hw
   .let(p,hp,hk2,rfl):=a6S hw;show a2a sX (by cbv) hp
   .let(p,hp,hk2,rfl):=a45 hw;show bU (lo q hq hk) (a2a sY (bR _) hp)
  .let(p,hp,hk2,rfl):=a6S hy;let hx||hx:=be.mp hx
   .let(q,hq,hk,rfl):=a45 hx;show bU (lo q hq hk) (a2a sY (bR _) hp)
   .let hx||hx:=hr x hx
    .let(q,hq,hk,rfl):=a6S hx;show bU (a2a sX (by cbv) (by cbv)) (up2 p hp hk2)
    .let(q,hq,hk,rfl):=a45 hx;show a2a sY (by cbv) hp
 split
 .show gO (a9t C B1.kd λr st2 g2 mg=>fin r st2 g2 mg)
 .show gO (a9u C B1.kd λr st2 g2 mg=>fin r st2 g2 mg)
end
noncomputable def pr(p:Nat×Nat×Nat):Nat×Nat:=(p.1,p.2.1,)
noncomputable def offs:Nat->List (List Keyed)->List (Nat×Nat)
 |_,[]=>[]
 |o,R::Rs=>(o,R.length,)::offs (o+R.length) Rs
def a1W:∀(o:Nat)(U V:List (List Keyed)),offs o (U++V)=offs o U++offs (o+U.flatten.length) V:=by ext z0 y0;induction y0 generalizing z0 with
 |nil=>ext V;simp[offs]
 |cons R U I0=>
  ext V;rw[dW,offs,offs,I0,dW,f6,bu,dz]
def a1o:∀(o:Nat)(U:List (List Keyed)),(offs o U).length=U.length:=by ext z0 y0;induction y0 generalizing z0 with
 |nil=>show rfl
 |cons R U I0=>rw[offs,bv,bv,I0]
def a9x{α:Type}{q p1 p2:α}{pv:List α}:∀pu:List α,((pu++p1::p2::pv).set pu.length q).eraseIdx (pu.length+1)=pu++q::pv:=by ext z0;induction z0 with
 |nil=>show rfl
 |cons x pu I0=>rw[dW,bv,List.set_cons_succ,fk,I0,dW]
theorem a46{α β:Type}{f:α->β}:∀(l:List α)(k:Nat),(l.map f).eraseIdx k=(l.eraseIdx k).map f
 |[],_=>by simp
 |x::l,0=>by simp
 |x::l,k+1=>by rw[bx,fk,fk,bx,a46 l k]
def b1C:∀{Rs:List (List Keyed)},(∀R∈Rs,R≠[])->Rs.length<=Rs.flatten.length:=by ext z0;induction z0 with
 |nil=>ext _;simp
 |cons R Rs I0=>
  ext h
  let:=I0 λR a=>h R (.tail _ a)
  let b:=cP.mpr (h R (.head _));rw[f6,bu,bv]
  lia
def Runs(κ:KF)(st:SortSt)(lo:Nat)(rest:List Keyed):Prop:=∃Rs:List (List Keyed),(arrOf st).toList=Rs.flatten++rest/\(∀R∈Rs,Srt κ R/\R≠[])/\Rs.flatten.length=lo/\(gY st).toList.map pr=offs 0 Rs
section
variable{M:Model}{k0:iz}{ajj:Array Keyed}{st:SortSt}
def a1X{i lo:Nat}(L:LtOk M A E s κ k0 ajj)(B:TB k0 ajj st)(R:Runs κ st lo kR)(hi:i+1<(gY st).size)
  (h:∀st',TB k0 ajj st'->Runs κ st' lo kR->(gY st').size+1=(gY st).size->Q kz st'):wpS M A E s (kC i) Q st:=by
 let(Rs,t,f,r,b):=R;let m:(gY st).size=Rs.length:=by
  let:=congrArg bL b
  rw[a9,a1o]at this;o_head this
 obtain⟨U,X,Y,V,rfl,D⟩:∃U X Y V,Rs=U++X::Y::V/\U.length=i:=by
  show(Rs.take i,Rs[i]'(by lia),Rs[i+1]'(by lia),Rs.drop (i+2),?_,by rw[bE];lia);rw[<- cX,<- cX,dU]
 let n:=f X (by simp);let q:=f Y (by simp);rw[a1W]at b;simp only[offs,dw]at b;let k:∀(j:Nat)(x:Nat×Nat),(offs 0 U++_::_::offs _ V)[j]?=bH x->∃w,(gY st)[j]?=bH (x.1,x.2,w,):=λj x d=>by
  rw[<- b,bo]at d;rw[<- cz];cases e:(gY st).toList[j]? with
  |none=>rw[e]at d;cases d
  |some p=>
   rw[e]at d;cases d;show(p.2.2,rfl)
 let c:(offs 0 U).length=i:=by rw[a1o,D]
 let(J,G):=k i _ (by rw[cT (by lia),c,Nat.sub_self];rfl);let(I,y):=k (i+1) (U.flatten.length+X.length,Y.length,) (by simp_all);let C:(arrOf st).toList=U.flatten++(X++(Y++(V.flatten++kR))):=by rw[t];simp
 show a9w L B G y C rfl rfl rfl rfl n.1 q.1 (cP.mpr n.2) (cP.mpr q.2) λl Z H F o v u=>?_;let g:(gY l).toList.map pr=offs 0 (U++Z::V):=by
  rw[u,Array.toList_eraseIdxIfInBounds,f7,<- a46,List.map_set,b,<- c,a9x,a1W];simp only[offs,dw,pr];rw[o,dz]
 show h l H (U++Z::V,by rw[F];simp,λR a=>?_,?_,g) ?_
 .let a||a:=be.mp a
  .show f R (by simp[a])
  .let rfl||a:=bf.mp a
   .show(v,λz=>by rw[z]at o;let:=cP.mpr n.2;simp at o;lia)
   .show f R (by simp[a])
 .rw[<- r];simp
  lia
 .grind
def Runs.ar{lo n:Nat}(R:Runs κ st lo kR)(q:Ar st st' lo)(hs:SR κ (arrOf st') lo n)(hn:lo+n<=(arrOf st').size)(h1:1<=n):∃X rest',Srt κ X/\X.length=n/\Runs κ st' lo (X++rest'):=by
 let(Rs,g,f,c,e):=R;let b:(arrOf st').toList.take lo=Rs.flatten:=by
  show eJ λi=>?_
  by_cases a:i<lo
  .rw[eE,if_pos a,cz,q.pre i a,<- cz,g,cU (by lia)]
  .grind
 show(((arrOf st').toList.drop lo).take n,((arrOf st').toList.drop lo).drop n,?_,by rw[bE,bZ,a0V];lia,Rs,?_,f,c,by rw[q.pe];show e)
 .show cO.mpr λi j a d k=>?_;rw[bE,bZ,a0V]at a d
  let:=hs i j (by lia) (by lia)
  rw[a0P _,a0P _]at this;o_head this
 .rw[dU,<- b,dU]
def Runs.push{lo n:Nat}(R:Runs κ st lo (kR++kS))(sX:Srt κ kR)(hX:kR.length=n)(h1:1<=n)(ha:arrOf st'=arrOf st)(hp:(gY st').toList.map pr=(gY st).toList.map pr++[(lo,n,)]):Runs κ st' (lo+n) kS:=by
 let(Rs,e,d,b,c):=R;show(Rs++[kR],by rw[ha,e];simp,λR a=>?_,by simp[b,hX],?_)
 .let a||a:=be.mp a
  .show d R a
  .rw[bg.mp a];show(sX,λz=>by rw[z]at hX;simp at hX;lia)
 .rw[hp,c,a1W,dw,b];simp[offs,hX]
def a7J(L:LtOk M A E s κ k0 ajj)(B:TB k0 ajj st)(hp:gY st=#[])
  (h:∀st',TB k0 ajj st'->Srt κ (arrOf st').toList->Q () st'):wpS M A E s sortRuns' Q st:=by
 rw[sortRuns'_eq];show gO (iE ?_);dsimp only;rw[B.sz];generalize minRun' ajj.size ajj.size 0=mr;show gO (ip (ii (I:=λx c z=>Ex2 λd e=>An4 (c=(gV,d,)) (TB k0 ajj z) (Runs κ z d e) (x<=d))
  (Q:=λc z=>Ex2 λd e=>An4 (c=(gV,d,)) (TB k0 ajj z) (Runs κ z d e) (ajj.size<=d)) ?step ?fin (0,(arrOf st).toList,rfl,B,([],by simp,λR h=>by simp at h,rfl,by rw[hp];rfl),bd _)) ?post)
 case fin=>
  ext c z ⟨d,e,rfl,t,u,hx⟩;show(d,e,rfl,t,u,by lia)
 case step=>
  ext x c z _ hx ⟨d,e,rfl,t,u,hxl⟩;dsimp only
  by_cases c1:d>=ajj.size
  .rw[if_pos c1];show gR (d,e,rfl,t,u,c1)
  rw[if_neg c1];show gO (b4i L t (by lia) (by lia) λm z2 Y m1 m2 m3=>?_);dsimp only
  by_cases c2:m<mr
  .rw[if_pos c2];show a3Y (gO (b1z L (Y.tb t) (by lia) (by lia) m3 λS C D=>?_));rw[if_neg (by decide)];let C:=Y.trans C;let v:1<=min (ajj.size-d) mr:=by lia
   let V:d+min (ajj.size-d) mr<=ajj.size:=by lia
   generalize min (ajj.size-d) mr=n at v V D ⊢;let r:=C.tb t;let(X,f,J,G,R3):=u.ar C D (by rw[r.sz];lia) v;show gO (iE ?_);cases hb:(gY S).back? with
   |none=>
    dsimp only;show gO (iA (gR (d+n,f,rfl,(r.pm,r.kd,r.fl),R3.push J G v rfl (by change (((gY S).push (d,n,0,)).toList).map pr=_;rw[b7,bp];rfl),by lia)))
   |some p=>
    let(w,o,w1):=p;dsimp only;generalize power' ajj.size (2*w+o) (2*w+o+o+n) ajj.size=pw;show gO (ip (ii (I:=λ_ c y=>An3 (c=(gV,(),)) (TB k0 ajj y) (Runs κ y d (X++f))) ?w (λ_ _ hh=>hh) (rfl,r,R3)) ?p1)
    case w=>
     ext x c y _ _ ⟨rfl,g,j⟩;show gO (iE ?_)
     by_cases hgt:(gY y).size > 1
     .rw[if_pos hgt];let eo:(gY y)[(gY y).size-2]?=bH (gY y)[(gY y).size-2]:=getElem?_pos ..;rw[eo];dsimp only
      split
      .show gR (rfl,g,j)
      .show gO (a1X L g j (by lia) λy2 N H _=>?_);rw[if_neg (by decide)];show gR (rfl,N,H)
     .rw[if_neg hgt];show gR (rfl,g,j)
    case p1=>
     ext c y ⟨rfl,g,j⟩;dsimp only;show gO (iA (gO (iA (gR (d+n,f,rfl,(g.pm,g.kd,g.fl),j.push J G v rfl ?_,by lia)))));let em:∀(q:Array (Nat×Nat×Nat))(k:Nat),(q.modify k λ(a,b,_,)=>(a,b,pw,)).toList.map pr=q.toList.map pr:=λq k=>by
      show eJ λi=>?_;rw[bo,bo,cz,cz,f8]
      split
      .cases q[i]? with
       |none=>rfl
       |some p=>rfl
      .rfl
     rw[b7,bp,em]
     rfl
  .rw[if_neg c2];let V:d+m<=ajj.size:=by lia
   let v:=m1;let D:=m3;let C:=Y;generalize m=n at v V D ⊢;generalize z2=S at C D ⊢;let r:=C.tb t;let(X,f,J,G,R3):=u.ar C D (by rw[r.sz];lia) v;show gO (iE ?_);cases hb:(gY S).back? with
   |none=>
    dsimp only;show gO (iA (gR (d+n,f,rfl,(r.pm,r.kd,r.fl),R3.push J G v rfl (by change (((gY S).push (d,n,0,)).toList).map pr=_;rw[b7,bp];rfl),by lia)))
   |some p=>
    let(w,o,w1):=p;dsimp only;generalize power' ajj.size (2*w+o) (2*w+o+o+n) ajj.size=pw;show gO (ip (ii (I:=λ_ c y=>An3 (c=(gV,(),)) (TB k0 ajj y) (Runs κ y d (X++f))) ?w (λ_ _ hh=>hh) (rfl,r,R3)) ?p1)
    case w=>
     ext x c y _ _ ⟨rfl,g,j⟩;show gO (iE ?_)
     by_cases hgt:(gY y).size > 1
     .rw[if_pos hgt];let eo:(gY y)[(gY y).size-2]?=bH (gY y)[(gY y).size-2]:=getElem?_pos ..;rw[eo];dsimp only
      split
      .show gR (rfl,g,j)
      .show gO (a1X L g j (by lia) λy2 N H _=>?_);rw[if_neg (by decide)];show gR (rfl,N,H)
     .rw[if_neg hgt];show gR (rfl,g,j)
    case p1=>
     ext c y ⟨rfl,g,j⟩;dsimp only;show gO (iA (gO (iA (gR (d+n,f,rfl,(g.pm,g.kd,g.fl),j.push J G v rfl ?_,by lia)))));let em:∀(q:Array (Nat×Nat×Nat))(k:Nat),(q.modify k λ(a,b,_,)=>(a,b,pw,)).toList.map pr=q.toList.map pr:=λq k=>by
      show eJ λi=>?_;rw[bo,bo,cz,cz,f8]
      split
      .cases q[i]? with
       |none=>rfl
       |some p=>rfl
      .rfl
     rw[b7,bp,em]
     rfl
 case post=>
  ext c z ⟨d,e,rfl,t,u,hlo⟩;dsimp only;let hsz:∀y,Runs κ y d e->(gY y).size<=d:=by
   ext y ⟨Rs,T,F,e3,U⟩;let l:=congrArg bL U;rw[a9,a1o]at l;let h2:=b1C λR hR=>(F R hR).2;simp at l
   lia
  let W:d=ajj.size:=by
   let(Rs,T,F,e3,U):=u
   let:=congrArg bL T
   rw[a0V,t.sz,bu]at this
   lia
  subst W;show gO (ip (ii (I:=λx c y=>An4 (c=(gV,(),)) (TB k0 ajj y) (Runs κ y ajj.size e) ((gY y).size<=1\/(gY y).size+x<=ajj.size)) (Q:=λc y=>An4 (c=(gV,(),)) (TB k0 ajj y) (Runs κ y ajj.size e) ((gY y).size<=1)) ?s2 ?f2 (rfl,t,u,.inr (hsz z u))) ?p2)
  case f2=>
   ext c y ⟨rfl,g,j,hc⟩;show(rfl,g,j,by lia)
  case s2=>
   ext x c y _ hx ⟨rfl,g,j,hc⟩;show gO (iE ?_)
   by_cases l:(gY y).size<=1
   .rw[if_pos l];show gR (rfl,g,j,l)
   .rw[if_neg l];show gO (a1X L g j ?_ λy2 N H hy2=>?_)
    .repeat' split
     all_goals lia
    .rw[if_neg (by decide)];show gR (rfl,N,H,.inr (by lia))
  case p2=>
   ext c y ⟨rfl,g,j,hc⟩;let(Rs,T,F,e3,U):=j;let l:=congrArg bL U;rw[a9,a1o]at l;let h2:=congrArg bL T;rw[a0V,g.sz,bu,e3]at h2;let hr:e=[]:=cN.mp (by lia);show gR (h y g ?_);rw[T,hr,bM]
   match Rs,F,l with
   |[],_,_=>show .nil
   |[R],F,_=>o_head (F R (by simp)).1
   |_::_::_,_,l=>simp at l;lia
end
abbrev kN:KF:=λp=>numOf p.1
def b7x(xs:Array Keyed)(i:Nat):K xs i=Kk kN xs i:=rfl
def b7y(h:Srt kN xs.toList)(hn:n=xs.size):SortedTo xs n:=λi j a b=>by
 rw[b7x,b7x]
 let:=a18 (i:=0) h (n:=xs.size) (by simp) i j a (by lia)
 o_head this
section
variable{ajj:Array Keyed}{k0:iz}
def b4j(h0:IntKeys ajj):LtOk (model prog w) A E s kN oneType' ajj:=λx y c d g Q e h=>by
 let(n,t,b):=h0 x c;let(m,u,a):=h0 y d;let f:Q (bH (decide (n<m))) g:=by
  let:kN x<kN y↔n<m:=by change numOf x.1<numOf y.1↔n<m;rw[b,a];rfl
  rw[decide_eq_decide.mpr this]at h;show h
 rw[lt'_eq];show gO (iE ?_);rw[e,keyLt'_oneType,b,a];show gO (wpS_lift (iU (oneLt_int (rfl,gR f))))
noncomputable def a52(h:Heap)(a:Addr)(vs:List Value):Heap:=((h.update a (Obj.mapSeq λ_=>#[])).push (seqObj "tuple" vs.toArray 0)).push (seqObj "list" #[] 0)
def b4k(ho:s.heap.get? a=bH (seqObj "list" vs.toArray n))(hz:vs.length<=100000)
  (hK:2<=vs.length->∀Q:iz->Shared->Prop,Q k0 { s with heap:=a52 s.heap a vs }->wpAny (model prog w) A (keyKind' vs.toArray) Q E { s with heap:=a52 s.heap a vs })
  (hL:2<=vs.length->LtOk (model prog w) A E { s with heap:=a52 s.heap a vs } κ k0 (jr vs))
  (h:∀ps:List Keyed,ps.Perm (jr vs).toList->Srt κ ps->kR (.done (.ret .none)) { s with heap:=sortedHeap s.heap a vs (ps.map (·.2)).toArray }):wpAny (model prog w) A (gU.«list.sort» ([.ref a],[])) kR E s:=by
 let i:vs.length<=sizeLine:=by rw[ie];lia
 let o:vs.toArray.size<=sizeLine:=↑i
 let t:=Heap.lt_size ho;rw[list_sort_plain];show gJ (listItems_at ho rfl (gJ (kE ho rfl ?_ o (by simp))));obtain⟨u,m⟩:∃u,(s.heap.update a (Obj.mapSeq λ_=>#[])).get? a=bH (seqObj "list" #[] u):=(_,get?_update_seq ho λ_=>#[]);show gJ (kF m rfl (gJ (jE ?_ ↑i)));show gJ (kG (ib ?_));let g:(((s.heap.update a (Obj.mapSeq λ_=>#[])).push (seqObj "tuple" vs.toArray 0)).push (seqObj "list" #[] 0)).get? a=bH (seqObj "list" #[] u):=by
  rw[Heap.get?_push_ne,Heap.get?_push_ne]
  .show m
  .rw[Heap.size_update];show bt t
  .rw[size_push',Heap.size_update];show bt (dj t)
 dsimp only;let f:=λy p q=>by
  let:=h (arrOf y).toList (dP.mp p) q
  rw[<- Array.toList_map,Array.toArray_toList]at this;show this
 let b:∀y:SortSt,(arrOf y).Perm (jr vs)->((arrOf y).map (·.2)).size<=gN+1:=λy p=>by
  rw[eK,p.size_eq,pairsOf_size];lia
 by_cases c:vs.toArray.size<2
 .rw[if_pos c,if_pos c];show gJ (gK ?_);rw[StateT.run_pure];show gJ (gK ?_);dsimp only;let x:(arrOf (SortSt.mk' general' _ #[] 7 gV)).Perm (jr vs):=fi.refl _;show gJ (kF g rfl (gJ (kE g rfl ?_ (by simp) (b _ x))));simp only[bne_self_eq_false,dy,if_false];show gK (f _ x ?_)
  change Srt κ (jr vs).toList
  rw[pairsOf_toList]
  let:vs.length<2:=↑c
  match vs,this with
  |[],_=>show .nil
  |[v],_=>show eZ _ _
 .rw[if_neg c,if_neg c];let r:2<=vs.length:=↑c
  show gJ (hK r _ ?_);show gJ (hB (a7J
   (Q:=λ_ y=>An3 ((arrOf y).Perm (jr vs)) (ir y=gV) (Srt κ (arrOf y).toList)) (hL r) (fi.refl _,rfl,rfl) rfl λy d j=>(d.pm,d.fl,j)) ?_ λ_ _ e=>e)
  ext⟨⟨⟩,y⟩ l ⟨rfl,d,j,q3⟩;dsimp only;show gJ (kF g rfl (gJ (kE g rfl ?_ (by simp) (b y d))));rw[j];simp only[bne_self_eq_false,dy,if_false];show gK (f y d q3)
def sort_any(ho:s.heap.get? a=bH (seqObj "list" vs.toArray n))(hI:io vs ns)(hz:vs.length<=1000)
  (h:∀(out:Array Value)(ms:List Int),io out.toList ms->ms.Perm ns->ms.Pairwise (·<=·)->kR (.done (.ret .none)) { s with heap:=sortedHeap s.heap a vs out }):wpAny (model prog w) A (gU.«list.sort» ([.ref a],[])) kR E s:=by
 show b4k ho (by lia) (λc Q g=>?_) (λ_=>b4j hI.intKeys) λj p q=>?_
 .match vs,c with
  |v1::v2::vr,_=>rw[keyKind_ints hI];show gK g
 .let b:=dP.mpr p;let(e,i,d,f):=sorted_out hI b (b7y q b.size_eq.symm)
  let:=h _ e i d f
  o_head this
end
end Tim
namespace Tim
open PySem.W
abbrev Pz:=Sum (Option Int) Str
def PtIs:Pz->Value->Prop
 |.inl gV,v=>v=.none
 |.inl (bH i),v=>∃t,v=.int i t
 |.inr s,v=>∃t,v=.str s t
def PtsAre:List Pz->List Value->Prop
 |[],[]=>True
 |x::xs,v::vs=>PtIs x v/\PtsAre xs vs
 |_,_=>False
noncomputable def lt1:Pz->Pz->Bool
 |.inl (bH i),.inl (bH j)=>decide (i<j)
 |.inr a,.inr b=>decide (a.cps.toList<b.cps.toList)
 |_,_=>kQ
noncomputable def ltT:List Pz->List Pz->Bool
 |x::xs,y::ys=>if x=y then ltT xs ys else lt1 x y
 |_,_=>kQ
noncomputable def rk(rows:List (List Pz))(x:List Pz):Nat:=rows.countP λq=>ltT q x
def RowIn(h:Heap)(v:Value)(xs:List Pz):Prop:=∃a o its n,v=.ref a/\h.get? a=bH o/\o.cls=.type "tuple"/\o.data=.seq its n/\PtsAre xs its.toList
def PtIs.uniq:∀{x y:Pz}{v:Value},PtIs x v->PtIs y v->x=y:=by
 ext x y v h k;let(_||i)||a:=x
 .rw[h]at k;let(_||j)||b:=y
  .rfl
  .let(_,k):=k;cases k
  .let(_,k):=k;cases k
 .let(t,rfl):=h;let(_||j)||b:=y
  .cases k
  .let(_,k):=k;cases k;rfl
  .let(_,k):=k;cases k
 .let(t,rfl):=h;let(_||j)||b:=y
  .cases k
  .let(_,k):=k;cases k
  .let(_,k):=k;cases k;rfl
theorem PtsAre.uniq:∀{xs ys:List Pz}{vs:List Value},PtsAre xs vs->PtsAre ys vs->xs=ys
 |[],[],[],_,_=>rfl
 |x::xs,y::ys,v::vs,(a,b),(c,d)=>by rw[a.uniq c,PtsAre.uniq b d]
 |[],_::_,[],_,h=>h.elim
 |[],_,_::_,h,_=>h.elim
 |_::_,_,[],h,_=>h.elim
 |_::_,[],_::_,_,h=>h.elim
def RowIn.uniq(r:RowIn h v xs)(q:RowIn h v ys):xs=ys:=by
 let(a,o,k,n,rfl,j,_,g,d):=r;let(p,m,f,l,e,b,_,c,i):=q;cases e;rw[j]at b;cases b;rw[g]at c;cases c;show d.uniq i
open Classical in
noncomputable def b1D(h:Heap)(v:Value):List Pz:=if e:∃xs,RowIn h v xs then e.choose else []
def b1E(r:RowIn h v xs):b1D h v=xs:=by
 unfold b1D;let e:∃xs,RowIn h v xs:=(xs,r);rw[dif_pos e];show e.choose_spec.uniq r
noncomputable def kT(h:Heap)(rows:List (List Pz)):KF:=λp=>(rk rows (b1D h p.1):Int)
def RowsIn(h:Heap):List Value->List (List Pz)->Prop
 |[],[]=>True
 |v::vs,x::xs=>RowIn h v x/\RowsIn h vs xs
 |_,_=>False
theorem RowsIn.len:∀{vs:List Value}{rows:List (List Pz)},RowsIn h vs rows->vs.length=rows.length
 |[],[],_=>rfl
 |_::_,_::_,(_,r)=>by rw[bv,bv,RowsIn.len r]
 |[],_::_,r=>r.elim
 |_::_,[],r=>r.elim
theorem RowsIn.mem:∀{vs:List Value}{rows:List (List Pz)},RowsIn h vs rows->∀v∈vs,∃x∈rows,RowIn h v x
 |v::vs,x::xs,(r,q),u,hu=>by
  let rfl||hu:=bf.mp hu
  .show(x,.head _,r)
  .let(y,b,a):=q.mem u hu;show(y,.tail _ b,a)
 |[],[],_,u,hu=>by simp at hu
 |[],_::_,r,_,_=>r.elim
 |_::_,[],r,_,_=>r.elim
theorem RowsIn.map:∀{vs:List Value}{rows:List (List Pz)},RowsIn h vs rows->vs.map (b1D h)=rows
 |[],[],_=>rfl
 |v::vs,x::xs,(r,q)=>by rw[bx,b1E r,q.map]
 |[],_::_,r=>r.elim
 |_::_,[],r=>r.elim
end Tim
namespace SetW
def Up(xs:Array Nat):Prop:=xs.toList.Pairwise (·<·)
structure TOk (led:Bool) (t:gM):Prop where
 up:Up t.place
 dm:t.dummies=#[]
 ld:t.led=led
def b1F(h:Up xs)(hij:i<j)(hj:j<xs.size):xs[i]'(by cbv)<xs[j]:=by
 let:=cO.mp h i j (by simp;cbv) (by cbv) hij
 o_head this
def b1G(h:Up xs)(j:Nat):∀(fuel lo hi:Nat),hi-lo<=fuel->lo<=hi->hi<=xs.size->(∀i,(hi':i<xs.size)->i<lo->xs[i]<j)->(∀i,(hi':i<xs.size)->hi<=i->j<=xs[i]) ->
  gM.below.go xs j fuel lo hi<=xs.size/\(∀i,(hi':i<xs.size)->i<gM.below.go xs j fuel lo hi->xs[i]<j)/\(∀i,(hi':i<xs.size)->gM.below.go xs j fuel lo hi<=i->j<=xs[i]):=by ext z0;induction z0 with
 |zero=>
  ext lo hi hf h1 h2 h3 h4
  let:lo=hi:=by lia
  subst this;unfold gM.below.go;show(h2,h3,h4)
 |succ fuel I0=>
  ext lo hi hf h1 h2 h3 h4;unfold gM.below.go
  split
  .next hlt=>
   let b:(lo+hi) / 2<xs.size:=by lia
   let f:xs.getD ((lo+hi) / 2) j=xs[(lo+hi) / 2]:=by simp[Array.getD,b]
   dsimp only;rw[f]
   split
   .next c=>
    show I0 _ _ (by lia) (by lia) h2 (λi a d=>?_) h4
    by_cases e:i=(lo+hi) / 2
    .subst e;show c
    .show dO (b1F h (by lia) b) c
   .next c=>
    show I0 _ _ (by lia) (by lia) (by lia) h3 λi a d=>?_
    by_cases e:i=(lo+hi) / 2
    .subst e;lia
    .let:=b1F h (show (lo+hi) / 2<i by lia) a;lia
  .next hlt=>
   let:lo=hi:=by lia
   subst this;show(h2,h3,h4)
def a6T(h:Up xs)(j:Nat):gM.below xs j<=xs.size/\(∀i,(hi':i<xs.size)->i<gM.below xs j->xs[i]<j)/\(∀i,(hi':i<xs.size)->gM.below xs j<=i->j<=xs[i]):=
 b1G h j xs.size 0 xs.size (by simp) (by simp) (bd _) nofun λi b a=>by lia
def a53{α:Type}{xs:Array α}{x:α}:(gM.insertAt xs p x).toList=xs.toList.take p++x::xs.toList.drop p:=by
 unfold gM.insertAt;simp[cj]
def b7z(h:Up xs)(hn:xs[gM.below xs j]?≠bH j):Up (gM.insertAt xs (gM.below xs j) j):=by
 let(w,s,i):=a6T h j;unfold Up at h ⊢;rw[a53];show bO.mpr (cV.sublist (dL _ _) h,bz.mpr (λy d=>?_,cV.sublist (e7 _ _) h),λx r y d=>?_)
 .let(m,a):=cb d;rw[dr]at a;let(l,e):=bh.mp a;let b:gM.below xs j+m<xs.size:=↑l
  let f:=i _ b (by lia);let o:xs[gM.below xs j+m]=y:=↑e
  by_cases c:y=j
  .subst c;exfalso
   by_cases hm0:m=0
   .simp_all
   .let t:=b1F h (show gM.below xs y<gM.below xs y+m by lia) b;let z:=i _ (by lia) (bd _)
    lia
  .lia
 .let(m,a):=cb r;let g:=(bh.mp a).1;rw[bE]at g;rw[eE,if_pos (by lia)]at a;let(l,e):=bh.mp a;let b:m<xs.size:=↑l
  let f:=s m b (by lia);let o:xs[m]=x:=↑e
  rw[o]at f;let rfl||d:=bf.mp d
  .show f
  .let(k,q):=cb d;rw[dr]at q;let(p,u):=bh.mp q;let n:gM.below xs j+k<xs.size:=↑p
   let t:=i _ n (by lia);let v:xs[gM.below xs j+k]=y:=↑u
   lia
def a9y(j:Nat):gM.has #[] j=kQ:=by unfold gM.has;simp
def b1H(hd:t.dummies=#[]):∀(fuel:Nat)(p:gM.Probe)(j:Nat)(d:Option Nat),p.dummy=gV->gM.probe.go t ha h fuel p=bH (.empty j d)->d=gV/\t.slot j=.empty:=by ext z0;induction z0 with
 |zero=>ext p j d _ e;unfold gM.probe.go at e;cases e
 |succ fuel I0=>
  ext p j d a e;let b:∀p:gM.Probe,p.dummy=gV->(t.advance p).dummy=gV:=λp a=>by
   unfold gM.advance
   split
   .cbv
   .cbv
  unfold gM.probe.go at e;cases hs:t.slot p.j with
  |empty=>
   rw[hs]at e;simp at e;let(rfl,rfl):=e;show(a,hs)
  |dummy=>
   unfold gM.slot at hs;dsimp only at hs;rw[hd,a9y]at hs
   split at hs
   .cases hs
   .simp_all
  |live i=>
   rw[hs]at e;dsimp only at e
   split at e
   .grind
   .show I0 _ j d (b p a) e
def a7K{t:gM}(h:t.slot j=.empty):t.place[gM.below t.place j]?≠bH j:=λe=>by
 unfold gM.slot at h;dsimp only at h;rw[e]at h;simp at h
set_option tactic.hygienic true in
def b4l{t:gM}(hd:t.dummies=#[])(e:t.freeSlot h=bH (j,b,)):b=kQ/\t.place[gM.below t.place j]?≠bH j:=by
 unfold gM.freeSlot at e
 split at e
 .next j' d hp=>
  let(rfl,a):=b1H hd _ _ j' d rfl hp;simp at e;let(rfl,rfl):=e;show(rfl,a7K a)
 .cases e
def TOk.standIn(h:TOk led t)(n:Nat):TOk led (t.standIn n):=by
 show(?_,rfl,h.ld)
 change Up (Array.range n)
 unfold Up;rw[Array.toList_range];show fm
def TOk.orStandIn(h:TOk led t)(n:Nat):TOk led (t.orStandIn n):=by
 unfold gM.orStandIn
 split
 .cbv
 .show h.standIn n
def TOk.layNew(h:TOk led t)(es:Array (Int×Value))(hh:Int)(x:Value):TOk led (layNew t es hh x).2.1:=by
 unfold PySem.layNew;cases e:t.freeSlot hh with
 |none=>show h.standIn _
 |some p=>
  let(j,b):=p;let(_,a):=b4l h.dm e
  let:TOk led (t.put j).1:=by
   unfold gM.put;show(b7z h.up a,?_,h.ld);rw[h.dm,a9y];rfl
  show this.orStandIn _
def b4m(f:Nat->Option Nat):(((bG n).filterMap λj=>(f j).map (j,·,)).map (·.1)).Pairwise (·<·):=by
 let e:∀l:List Nat,l.Pairwise (·<·)->((l.filterMap λj=>(f j).map (j,·,)).map (·.1)).Pairwise (·<·)/\∀x∈(l.filterMap λj=>(f j).map (j,·,)).map (·.1),x∈l:=by
  ext l
  induction l with
  |nil=>ext _;show(.nil,λx c=>by simp at c)
  |cons a l ih=>
   ext m;let(i,h):=bz.mp m;let(g,d):=ih h;rw[cE];cases f a with
   |none=>show(g,λx c=>.tail _ (d x c))
   |some b=>
    show(bz.mpr (λy k=>i y (d y k),g),λx c=>by
     let rfl||c:=bf.mp c
     .show .head _
     .show .tail _ (d x c))
 show (e _ fm).1
def TOk.relay(h:TOk led t)(es:Array (Int×Value))(n:Nat):TOk led (js t es n).2.1:=by
 unfold js;cases e:t.relaid _ n with
 |none=>show h.standIn _
 |some p=>
  dsimp only
  split
  .unfold gM.relaid gM.laid at e;cases ho:gM.layClean _ _ with
   |none=>rw[ho]at e;cases e
   |some owner=>
    rw[ho]at e;let(rfl,_):=e;show(?_,rfl,h.ld);show b4m _
  .show h.standIn _
end SetW
namespace SetW
noncomputable def byT(w:World):Bool:=w.params.followText "set-order"
inductive KsAre {prog:gT}{w:World}{K:Type}[DecidableEq K] (kd:KeyKind prog w K):List Value->List K->Prop
 |nil:KsAre kd [] []
 |cons {v:Value} {k:K} {vs:List Value} {ks:List K} (h:kd.is k v=kz) (t:KsAre kd vs ks):KsAre kd (v::vs) (k::ks)
structure SO {prog:gT}{w:World}{K:Type}[DecidableEq K] (kd:KeyKind prog w K) (h:Heap) (a:Addr) (es:Array (Int×Value)) (ep:Nat) (t:gM) (ms:List K):Prop where
 at_:∃o,h.get? a=bH o/\o.ExactSet/\o.data=.set es ep t
 el:jT kd es.toList
 nums:KsAre kd (es.toList.map (·.2)) ms
 sc:es.size<iu
 fit:t.fits es.size=kz
 ok:TOk (!byT w) t
def SI{prog:gT}{w:World}{K:Type}[DecidableEq K](kd:KeyKind prog w K)(h:Heap)(a:Addr)(ms:List K):Prop:=∃es ep t,SO kd h a es ep t ms
section
variable{K:Type}[DecidableEq K]{kd:KeyKind prog w K}
def a9z(h:KsAre kd vs ns):vs.length=ns.length:=by
 induction h with
 |nil=>rfl
 |cons _ _ ih=>rw[bv,bv,ih]
def a0Q(h:KsAre kd vs ns)(p:vs'.Perm vs):∃ns',KsAre kd vs' ns'/\ns'.Perm ns:=by
 induction p generalizing ns with
 |nil=>show(ns,h,.refl _)
 |cons x _ ih=>
  cases h with
  |cons h1 h2=>
   let(i,a,b):=ih h2;show(_,.cons h1 a,b.cons _)
 |swap x y l=>
  cases h with
  |cons h1 h2=>
   cases h2 with
   |cons h3 h4=>show(_,.cons h3 (.cons h1 h4),.swap ..)
 |trans _ _ ih1 ih2=>
  let(j,c,d):=ih2 h;let(g,e,f):=ih1 c;show(g,e,f.trans d)
def b4n(h:KsAre kd vs ns)(hk:kd.is k v=kz):KsAre kd (vs++[v]) (ns++[k]):=by
 induction h with
 |nil=>show .cons hk .nil
 |cons h1 _ ih=>show .cons h1 ih
def b7A(h:KsAre kd vs ns):(∃v∈vs,kd.is k v=kz)↔k∈ns:=by
 induction h with
 |nil=>simp
 | @cons v n vs ns h1 _ ih=>
  rw[bf,<- ih]
  constructor
  .ext⟨u,a,b⟩;let rfl||a:=bf.mp a
   .show .inl (kd.inj _ _ _ b h1)
   .show .inr (u,a,b)
  .ext (rfl |⟨u,a,b⟩)
   .show(v,.head _,h1)
   .show(u,.tail _ a,b)
def b91(h:KsAre kd vs ns):∀{i:Nat}{v:Value},vs[i]?=bH v->∃k,ns[i]?=bH k/\kd.is k v=kz:=by
 induction h with
 |nil=>ext i v e;simp at e
 |cons h1 _ ih=>
  ext i v e;cases i with
  |zero=>cases e;show(_,rfl,h1)
  |succ i=>show ih ↑e
end
section
variable{a:Addr}{es:Array (Int×Value)}{ep:Nat}{t:gM}{K:Type}[DecidableEq K]{kd:KeyKind prog w K}{ms:List K}{k:K}{v:Value}
def SO.mem(S:SO kd s.heap a es ep t ms):(∃e∈es.toList,kd.is k e.2=kz)↔k∈ms:=by
 rw[<- b7A S.nums]
 constructor
 .ext⟨e,c,b⟩;show(e.2,bV c,b)
 .ext⟨u,d,b⟩;let(e,c,rfl):=bC.mp d;show(e,c,b)
def SO.stored{h:Heap}(ho:h.get? a=bH o)(hx:o.ExactSet)(hd:o.data=.set es ep t)(hel:jT kd es'.toList)(hi:KsAre kd (es'.toList.map (·.2)) ms')(hs:es'.size<iu)(hf:t'.fits es'.size=kz)(hk:TOk (!byT w) t') :
  (h.update a (Obj.putSet es' t')).get? a=bH { o with data:=.set es' (ep+1) t' }/\SO kd (h.update a (Obj.putSet es' t')) a es' (ep+1) t' ms':=by
 let b:(h.update a (Obj.putSet es' t')).get? a=bH { o with data:=.set es' (ep+1) t' }:=by
  let q:=Heap.get?_update_self (Obj.putSet es' t') ho (by rw[putSet_of es' t' hd];rfl);rw[putSet_of es' t' hd]at q;show q
 show(b,((_,b,hx,rfl),hel,hi,hs,hf,hk))
def a7L(h:t.fits n=kz):({ t with plain:=b }:gM).fits n=kz:=by cases t;show h
def TOk.plain(h:TOk led t):TOk led ({ t with plain:=b }:gM):=(h.up,h.dm,h.ld)
def a54(hkey:kd.is k v=kz)(hsv:v.scannable=kz)(S:SO kd s.heap a es ep t ms)(hr:ms.length+1<iu)
  (h:∀h' ms' b,Heap.SameBut a s.heap h'->SI kd h' a ms'->ms'.Perm (if k∈ms then ms else ms++[k])->Q b { s with heap:=h' }) :
  wpAny (model prog w) A (jU a v (kd.hash k)) Q E s:=by
 let((o,C,hx,D),n,l,V,x,hok):=id S;let M:es.size=ms.length:=by
  o_head (a9z l)
 unfold jU kH;show ib (gJ (iw C D x ?_));dsimp only;rw[byScan_of hsv V n];simp only[↓reduceIte];unfold setAddByScan;show gJ (gJ (iN (gJ (wpAny_setScan_of hkey C D x n ?_))));cases hf:f9 (λe=>kd.is k e.2) es.toList with
 |some j=>
  dsimp only;let(hj,T,_):=List.findIdx?_eq_some_iff_getElem.mp hf;let g:k∈ms:=S.mem.mp (_,cx hj,T);show gK (gK (h s.heap ms kQ (Heap.SameBut.refl a s.heap) (es,ep,t,S) (by rw[if_pos g])))
 |none=>
  dsimp only;let g:k∉ms:=λz=>by
   let(e,he,T):=S.mem.mpr z;let q:=List.findIdx?_eq_none_iff.mp hf e he;rw[T]at q;cases q
  let i:=layNew_perm t es (kd.hash k) v;let p:=layNew_fits t es (kd.hash k) v;let y:=hok.layNew es (kd.hash k) v;generalize layNew t es (kd.hash k) v=L at i p y ⊢;let(c,t1,wd,gv):=L;dsimp only at i p y ⊢;rw[b7]at i;let F:=(n.push hkey hsv).perm i;let sz1:c.size=ms.length+1:=by rw[<- bI,i.length_eq,bu,bI,M];rfl
  let(X,I,J):=a0Q (vs':=c.toList.map (·.2)) (b4n l hkey) (by
   let q:=i.map (·.2);rw[bp]at q;show q)
  let G:c.size<scanBound:=by lia
  let H:∀(d:gM),d.fits c.size=kz->TOk (!byT w) d->wpAny (model prog w) A (do
    jV a c d
    if (!wd&&d.tooFull)=kz then do
     (match (js d c (gM.grown c.size)).2.2 with |true=>rule "set.scan.the-table-gave-way" |false=>pure ())
     jV a (js d c (gM.grown c.size)).1 (js d c (gM.grown c.size)).2.1
     pure (bH kz)
    else pure (bH kz)) (λr U=>wpAny (model prog w) A (match r with |some added=>pure added |none=>kH a v (kd.hash k) 99999) Q E U) E s:=by
   ext d f2 k2;show gJ (jF C D ?_ (jG G));let(Y,S1):=SO.stored C hx D F I G f2 k2;let b1:=Heap.SameBut.update s.heap a (Obj.putSet c d)
   split
   .let B:=relayAll_perm d c (gM.grown c.size);let N:=relayAll_fits d c (gM.grown c.size);let R:=k2.relay c (gM.grown c.size);generalize js d c (gM.grown c.size)=W at B N R ⊢;let(m,t3,g3):=W;dsimp only at B N R ⊢;let sz2:m.size=c.size:=by rw[<- bI,B.length_eq,bI]
    let(ms2,im2,pm2):=a0Q I (B.map (·.2));show gJ ?_;let u:wpAny (model prog w) A (jV a m t3 >>= λ_=>pure (bH kz)) (λr U=>wpAny (model prog w) A (match r with |some added=>pure added |none=>kH a v (kd.hash k) 99999) Q E U) E { s with heap:=s.heap.update a (Obj.putSet c d) }:=by
     show gJ (jF Y rfl ?_ (jG (by lia)));let(_,S2):=SO.stored (t:=d) Y hx rfl (F.perm B) im2 (by lia) N R;show gK (gK (h _ ms2 kz (b1.trans (Heap.SameBut.update _ a _)) (m,_,t3,S2) (if_neg g▸pm2.trans J)))
    cases g3 with
    |true=>show iN u
    |false=>show gK u
   .show gK (gK (h _ X kz b1 (c,_,d,S1) (if_neg g▸J)))
  let gw:∀{β:Type}{f:Unit->Sem β}{Q':β->Shared->Prop},wpAny (model prog w) A (f ()) Q' E s->wpAny (model prog w) A ((match gv with |true=>rule "set.scan.the-table-gave-way" |false=>pure ()) >>= f) Q' E s:=λhq=>by
   cases gv with
   |true=>show gJ (iN hq)
   |false=>show gJ (gK hq)
  show gw ?_
  split
  .show gJ ?_;rw[hashByValue_scannable 8 hsv];show gK ?_;show H _ ?_ ?_<;>cases plainKind v<;>first |show p |show a7L p |show y |show y.plain
  .show gJ (gK ?_);simp only[↓reduceIte];show H t1 p y
end
def SI.at{K:Type}[DecidableEq K]{kd:KeyKind prog w K}{ms:List K}(S:SI kd h a ms)(k:∀o,h.get? a=bH o->h'.get? a=bH o):SI kd h' a ms:=by
 let(l,i,t,(o,g,x,d),f,j,e,c,b):=S;show(l,i,t,(o,k o g,x,d),f,j,e,c,b)
def Met{K:Type}(val:Nat->K)(i:Nat)(ms:List K):Prop:=ms.Nodup/\ms.length<=i/\∀x,x∈ms↔∃j,j<i/\val j=x
def Met.step{K:Type}[DecidableEq K]{val:Nat->K}{ms ms':List K}(h:Met val i ms)(p:ms'.Perm (if val i∈ms then ms else ms++[val i])):Met val (i+1) ms':=by
 let(d,k,b):=h;let a:∀x,(∃j,j<i+1/\val j=x)↔(∃j,j<i/\val j=x)\/x=val i:=λx=>by grind
 by_cases c:val i∈ms
 .rw[if_pos c]at p;show(p.nodup_iff.mpr d,by rw[p.length_eq];lia,λx=>?_);rw[p.mem_iff,a,b];show(.inl,λz=>z.elim id λe=>(b x).mp (e▸c))
 .rw[if_neg c]at p;show(p.nodup_iff.mpr ?_,by rw[p.length_eq];simp;show k,λx=>?_)
  .rw[cH];show(d,by simp,λx g y f=>by rw[bg.mp f];ext rfl;show c g)
  .rw[p.mem_iff,a,be,b,bg]
section
variable{R:Result->Shared->Prop}{I:Addr}{fp wr:List Addr}{G:Array jW->Array jW->Prop}{n:Nat}{P:Nat->Value->Prop}{St:Nat->Shared->Prop}{K:Type}[DecidableEq K]{kd:KeyKind prog w K}
def b1I(W:WalksS prog w A.in1 I fp wr G n P St)(S:Addr)(hSf:S∉fp)(val:Nat->K)(hv:∀i v,P i v->kd.is (val i) v=kz/\v.scannable=kz)(hb:n+1<iu) :
  ∀(k i:Nat)(s:Shared)(ms:List K),n-i=k->i<=n->St i s->SI kd s.heap S ms->Met val i ms ->
   (∀s' ms',Moved (S::wr) G s s'->SI kd s'.heap S ms'->Met val n ms'->R (.ok (.ret .none)) s') ->
   iy (model prog w) A (.builtin "set.update.loop" ([.ref S,.ref I],[])) R s:=by
 let C:=λz=>hSf (W.sub _ z);let E:∀b∈wr,b∈S::wr:=λb z=>cg _ z;ext k
 induction k with
 |zero=>
  ext i s p Q U l r f m;let e:i=n:=by lia
  subst e;show iW PyProof.Rows.F.entry_set_update_loop ?_;rw[Around.under_plainId PyProof.Rows.F.plain_set_update_loop _];show gJ (W.done s _ _ l λa d=>(gK (m a p (d.mono E) (r.at λo g=>d.heap S o C g) f)))
 |succ k ih=>
  ext i s p Q U l r f m;show iW PyProof.Rows.F.entry_set_update_loop ?_;rw[Around.under_plainId PyProof.Rows.F.plain_set_update_loop _];show gJ (W.item i s _ _ (by lia) l λv a M H d=>?_);let(j,x):=hv i v M;let(Y,V,t,S1):=r.at λo g=>d.heap S o C g;show gJ (ib (ib (gJ (kd.pyHash j (a54 j x S1 (by let:=f.2.1;lia) λh' J b h y N=>(gK (jj PyProof.Rows.F.plain_set_update_loop _,ih (i+1) _ J (by lia) (by lia) (W.frame _ a _ _ H (dg _) λc q o g=>?_) y (f.step N) λT X B u D=>?_)))))))
  .rw[h.2 c λz=>hSf (z▸q)];show g
  .show m T X (Moved.trans W.gtrans ((d.mono E).then_heap (dg _) λc o q g=>?_) B) u D;rw[h.2 c λz=>q (by grind)];show g
end
section
variable{K:Type}[DecidableEq K]{kd:KeyKind prog w K}
abbrev a0r(w:World):Obj:={ cls:=.type "set",dict:=gV,data:=.set #[] 0 (.fresh 0 0 (!byT w)) }
def SI.fresh(g:h.get? a=bH (a0r w)):SI kd h a []:=
 (#[],0,.fresh 0 0 _,(_,g,(rfl,rfl,rfl),rfl),λe b=>by simp at b,.nil,by decide,rfl,(.nil,rfl,rfl))
def a9A(a:Value)(h:Q (.ref s.heap.objs.size) { s with heap:=s.heap.push (a0r w) }) :
  iy (model prog w) A (.call (.builtin "set.__new__") ([.type "set",a],[])) (wants Q E) s:=by
 show kI ?_
 change wpAny _ A.in1 (do jB "set.__new__" ([.type "set",a],[]);again (.builtin "set.__new__" ([.type "set",a],[]))) _ _ s
 show gJ (jX (PySem.F.newCall_set_1 a) (gK (jj PySem.F.plain_set_new _,iW PySem.F.entry_set_new ?_)));rw[Around.under_plainId PySem.F.plain_set_new _];unfold gU.«set.__new__» gU.Frozenset.newClass;let sub:=sub_set_self;let(hp,g,d,tk,os):=s;dsimp only
 wp_walk
 show jH (gK ?_);dsimp only;simp only[newObj];show gJ (wpAny_alloc (gK (gK h)))
set_option maxHeartbeats 3200000 in
def call_set(hh:A.handled=gV)(hl:s.heap.IsList l items)(hi:KsAre kd items.toList ns)(hsv:∀v∈items.toList,v.scannable=kz)(hb:items.size+1<iu)
  (h:∀(h':Heap)(tk:Nat)(ms:List K),SI kd h' s.heap.objs.size ms->Met (λi=>ns.getD i k0) items.size ms->(∀b o,b<s.heap.objs.size->s.heap.get? b=bH o->h'.get? b=bH o)->Q (.ref s.heap.objs.size) { s with heap:=h',toks:=tk }) :
  wpAny (model prog w) A (call (.type "set") [.ref l]) Q E s:=by
 let(mc,mt,mro):=PySem.F.called_set.mro;let md:=PySem.F.called_set.made;let sb:=PySem.F.called_set.sub;show jc (kI ?_)
 change wpAny _ _ (callAny (.type "set") _) _ _ _
 show gK (Code.quiet_builtin _ (by decide +kernel),iW PySem.F.entry_type_call ?_);rw[Around.under_plain (weight_type_call_type "set" [.ref l] []) rfl];let nt:=PySem.F.called_set.notType;let cc:=PySem.F.called_set.canCreate;let tc:=PySem.F.typeCall_set_1 (.ref l)
 repeat (any_goals (first |assumption |wp_step))
 show iP (a9A (w:=w) (.ref l) (E:=E) (Q:=λobj s1=>obj=.ref s.heap.objs.size/\s1={ s with heap:=s.heap.push (a0r w) }) (rfl,rfl)) λr s1 hr=>?_;cases r with
 |error e=>show hr
 |ok fl=>
  cases fl with
  |ret obj=>
   let(rfl,rfl):=hr;let gS:(s.heap.push (a0r w)).get? s.heap.objs.size=bH (a0r w):=Heap.get?_push_size _ rfl;let tS:Shared.TypeIs { s with heap:=s.heap.push (a0r w) } (.ref s.heap.objs.size) "set":=(_,gS,rfl);let li:=PySem.F.called_set.init.lookup;let bi:=PySem.F.called_set.init.bind (.ref s.heap.objs.size)
   repeat (any_goals (first |assumption |wp_step))
   show iP (kB (R:=wants (λr s2=>r=.none/\Ex3 λh' tk ms=>An4 (s2={ s with heap:=h',toks:=tk }) (SI kd h' s.heap.objs.size ms) (Met (λi=>ns.getD i k0) items.size ms) (∀b o,b<s.heap.objs.size->s.heap.get? b=bH o->h'.get? b=bH o)) E) PySem.F.called_set.init.plain PySem.F.entry_set_init (check_set_init_1 tS ?_)) λr2 s2 hr2=>?_
   .let(ol,gl,cl,nl,dl):=hl;let(oc,od,ob,osl):=ol;simp only at cl dl;subst cl dl;let gl':(s.heap.push (a0r w)).get? l=bH { cls:=.type "list",dict:=od,data:=.seq items nl,slots:=osl }:=Heap.get?_push_of_some _ gl;let s1:=PySem.F.sub_list_set;let s2:=PySem.F.sub_list_frozenset;let ne:(Value.type "list"==Value.type "dict")=kQ:=by decide
    let il:(s.heap.push (a0r w)).IsList l items:=(_,gl',rfl,nl,rfl);unfold gU.«set.__init__» noKeywords gU.Frozenset.updateFrom;generalize hPI:pyIter=PI
    wp_walk
    subst hPI;show jx il (gJ (wpAny_runValue ?_));let ll:l<s.heap.objs.size:=Heap.lt_size gl;let h3:A.in1.in1.in1.handled=gV:=by simp[hh]
    let nI:l≠(s.heap.push (a0r w)).objs.size:=by rw[Heap.size_push];show bt (dj ll)
    let nf:s.heap.objs.size∉[(s.heap.push (a0r w)).objs.size,l]:=by
     rw[Heap.size_push];simp only[bf,bg,dA,or_false,not_or];show(bt (ej _),cF ll)
    show b1I ((Walks.list h3 _ l nI items).toS) s.heap.objs.size nf (λi=>ns.getD i k0) (λi v e=>by
     let e':items.toList[i]?=bH v:=by rw[cz];show e
     let(k,h1,h2):=b91 hi e';show(by rw[cI,h1];show h2,hsv v (bB e'))) hb (items.size-0) 0 _ [] (by lia) (bR _)
     ((_,Heap.get?_push_size _ rfl,rfl,rfl),(il.push _)) (SI.fresh (Heap.get?_push_of_some _ gS)) (.nil,bd _,λx=>by simp) λs' ms mv hS hM=>?_
    let(h',g',d',tk',os'):=s';let eg:g'=s.gens:=mv.gens;let ed:d'=s.drawn:=mv.drawn;let eo:os'=s.os:=mv.os;subst eg ed eo
    change wpAny _ _ _ _ _ _
    show gK ?_
    change wpAny _ _ (ret Value.none) _ _ _
    show gK (rfl,h',tk',ms,rfl,hS,hM,λb o hb e=>?_);show mv.heap b o ?_ (Heap.get?_push_of_some _ (Heap.get?_push_of_some _ e));simp only[bf,bg,dA,or_false,not_or];show(bt hb,by rw[Heap.size_push];show bt (dj hb))
   .cases r2 with
    |error e=>show hr2
    |ok f2=>
     cases f2 with
     |ret r=>
      let(rfl,h',tk,ms,rfl,hS,hM,hk):=hr2
      repeat (any_goals (first |assumption |wp_step))
      show h _ _ _ hS hM hk
     |_=>show hr2.elim
  |_=>show hr.elim
end
def sit_next:Slot "set_iterator" "__next__" "set_iterator.__next__":=.of (owner:="set_iterator") (n:="__next__") (by rw[typeLookup_type,builtinLookup_eq_fast];kernel_rfl) (by decide +kernel) (by decide +kernel) (by decide +kernel) (by first |show .inl (by decide +kernel) |show .inr (by decide +kernel)) (by rw[jI];kernel_rfl)
def a0S:jJ table "set_iterator.__next__"=bH gU.«set_iterator.__next__»:=entryFor_of_tree (by kernel_rfl)
def a6U:Slot "set_iterator" "__iter__" "set_iterator.__iter__":=.of (owner:="set_iterator") (n:="__iter__") (by rw[typeLookup_type,builtinLookup_eq_fast];kernel_rfl) (by decide +kernel) (by decide +kernel) (by decide +kernel) (by first |show .inl (by decide +kernel) |show .inr (by decide +kernel)) (by rw[jI];kernel_rfl)
def a3E:jJ table "set_iterator.__iter__"=bH gU.«dict_keyiterator.__iter__»:=kJ (id':="dict_keyiterator.__iter__") (by kernel_rfl) rfl (by decide +kernel) (by kernel_rfl)
def a3F:jJ table "set.__iter__"=bH gU.«frozenset.__iter__»:=kJ (id':="frozenset.__iter__") (by kernel_rfl) rfl (by decide +kernel) (by kernel_rfl)
def a47:Manifest.owners.lookup (String.ofList ['r','o','t','a','r','e','t','i','_','t','e','s'].reverse)=bH Manifest.sig_set_iterator:=by kernel_rfl
def a00(a:Value):argsOk "set_iterator.__next__" ([a],[]):=by unfold argsOk;rw[signature?_of (n:=['_','_','t','x','e','n','_','_']) (by kernel_rfl) a47];kernel_rfl
def a4o(a:Value):argsOk "set_iterator.__iter__" ([a],[]):=by unfold argsOk;rw[signature?_of (n:=['_','_','r','e','t','i','_','_']) (by kernel_rfl) a47];kernel_rfl
def SetIt(h:Heap)(it a:Addr)(first:Value)(i n ep:Nat):Prop:=∃o,h.get? it=bH o/\o.cls=.type "set_iterator"/\o.data=.fields #[first,.int i 0,.ref a,.int n 0,.int ep 0]
def SetIt.ty{s:Shared}(x:SetIt s.heap it a f i n ep):s.TypeIs (.ref it) "set_iterator":=let (o,g,c,_):=x;(o,g,c)
def SetIt.at(x:SetIt h it a f i n ep)(e:∀o,h.get? it=bH o->h'.get? it=bH o):SetIt h' it a f i n ep:=let (o,g,r):=x;(o,e _ g,r)
section
variable{it a:Addr}{f:Value}{i n ep:Nat}{o:Obj}{k:Nat}{es:Array (Int×Value)}{t:gM}{K:Type}[DecidableEq K]{kd:KeyKind prog w K}{ms:List K}
def a4p(x:SetIt s.heap it a f i n ep)(h:Q (.ref it) s):wpAny (model prog w) A (pyIter (.ref it)) Q E s:=by
 show wpAny_pyIter_slot x.ty a6U (im a6U x.ty a3E ?_ (a4o _));show gK (_,rfl,"set_iterator",_,x.ty,sit_next.lookup,h)
def a6V(hh:A.handled=gV)(hQ:∀h':Heap,(∀b o,s.heap.get? b=bH o->h'.get? b=bH o)->Q gV { s with heap:=h' }) :
  wpAny (model prog w) A.in1 (newExc (.type "StopIteration") [] >>= λe=>(raiseNew e:Sem Final)) (λ_ _=>False) (λe s'=>wpAny (model prog w) A (do if <- isInstance e (.type "StopIteration") then pure (gV:Option Value) else throw e) Q E s') s:=by
 show gJ (gJ (iK ?_ (by size_fits)));show gJ (jX (by first |rfl | (simp;rfl)) (iK ?_ (by size_fits)))
 show gJ (wpAny_handled ?_);rw[hh];show gJ (gK (kx ?_));show gJ (jk (_,Heap.get?_push_size _ rfl,rfl) isSubtype_stop ?_);show gK (hQ _ λb o e=>Heap.get?_push_of_some _ (Heap.get?_push_of_some _ e))
def a48(S:SO kd s.heap a es ep t ms)(hT:byT w=kz)(h:Q (((iM (w.params.setOrder a ep) es)[i]?).map λe=>(e.2,k,)) s) :
  wpAny (model prog w) A (jY a k i ep) Q E s:=by
 let((o,f,n,d),l,g,j,b,m):=id S;show gJ (iw f d b (iF (λ_=>?_) λc=>absurd hT c));simp;show gJ (gJ (iw f d b (iF (λ_=>?_) λc=>absurd hT c)));show gJ (jH (gK (gK h)))
def a3Z(S:SO kd s.heap a es ep t ms)(hT:byT w=kQ)(hp:(!t.plain&&decide (es.size > 1))=kQ)
  (h:Q (match es[gM.below t.place k]?,t.place[gM.below t.place k]? with |some (_,x,),bH j=>bH (x,j+1,) |_,_=>gV) s) :
  wpAny (model prog w) A (jY a k i ep) Q E s:=by
 let((o,g,n,f),m,e,l,b,d):=id S;show gJ (iw g f b (iF (λc=>by rw[show (model prog w).w.params.followText "set-order"=byT w from rfl,hT]at c;cases c) λ_=>?_))
 change wpAny _ _ (if (!t.plain&&decide _)=kz then _ else _) _ _ _
 rw[hp]
 change wpAny _ _ ((if _=kz then _ else _) >>= _) _ _ _
 rw[d.ld,hT];show gJ (gK (gK h))
def a49(x:SetIt s.heap it a (.int k 0) i es.size ep)(S:SO kd s.heap a es ep t ms)
  (hnx:∀(B:Around)(F:Value->Shared->Prop)(R:Option (Value×Nat)->Shared->Prop),R (bH (v,nx,)) s->wpAny (model prog w) B (jY a k i ep) R F s)
  (hQ:∀h',SetIt h' it a (.int nx 0) (i+1) es.size ep->Heap.SameBut it s.heap h'->Q (bH v) { s with heap:=h' }):wpAny (model prog w) A (pyNext (.ref it)) Q E s:=by
 let(u,e,n,b):=id x;let((o,l,C,j),r,h,y,c,z):=id S;show gJ (iU (wpAny_callSpecial?_slot x.ty sit_next (im sit_next x.ty a0S ?_ (a00 _))));show gJ (gK (gJ (jZ e b (gJ (jl l j c ?_)))));simp;show gJ (hnx _ _ _ (gJ (iQ e b (by simp) ?_)));let f:=Heap.get?_update_self (Obj.mapFields (·.setIfInBounds 0 (rawInt nx))) e (Obj.isFreed_of_fields (Obj.data_mapFields b _));let d:=Obj.data_mapFields b (·.setIfInBounds 0 (rawInt nx));show gJ (iQ f d (by simp) ?_);let q:=Obj.data_mapFields d (·.setIfInBounds 1 (rawInt (i+1)));let p:SetIt _ it a (.int nx 0) (i+1) es.size ep:=
  (_,(Heap.get?_update_self (Obj.mapFields (·.setIfInBounds 1 (rawInt (i+1)))) f (Obj.isFreed_of_fields (Obj.data_mapFields d _))),(Obj.cls_mapFields ..).trans ((Obj.cls_mapFields ..).trans n),by rw[q];simp[rawInt])
 show gK (_,rfl,?_);show gK (hQ _ p ((Heap.SameBut.update ..).trans (Heap.SameBut.update ..)))
def a6W(hh:A.handled=gV)(x:SetIt s.heap it a (.int k 0) i es.size ep)(S:SO kd s.heap a es ep t ms)
  (hnx:∀(B:Around)(F:Value->Shared->Prop)(R:Option (Value×Nat)->Shared->Prop),R gV s->wpAny (model prog w) B (jY a k i ep) R F s)
  (hQ:∀h',(∀b o,b≠it->s.heap.get? b=bH o->h'.get? b=bH o)->Q gV { s with heap:=h' }):wpAny (model prog w) A (pyNext (.ref it)) Q E s:=by
 let(u,d,G,f):=id x;let((o,g,C,p),v,h,r,c,y):=id S;show gJ (iU (wpAny_callSpecial?_slot x.ty sit_next (im sit_next x.ty a0S ?_ (a00 _))));show gJ (gK (gJ (jZ d f (gJ (jl g p c ?_)))));simp;show gJ (hnx _ _ _ (gJ (iQ d f (by simp) (hB (a6V hh λj n=>?_) (λ_ _ z=>z.elim) λe D z=>z))));show (hQ j λb o l e=>n b o ((Heap.SameBut.update s.heap it _).extBut b o l e))
end
theorem a2B{α:Type}:∀(l:List α){i:Nat}(h:i<l.length),l.Perm (l[i]::l.eraseIdx i)
 |x::l,0,_=>by simp
 |x::l,i+1,h=>by
  show (bP.cons x (a2B l ↑h)).trans (bP.swap _ _ _)
def b4o{α:Type}(next:Nat->Nat):∀(fuel k:Nat)(left:List α)(out:Array α),fuel=left.length->(iM.go next fuel k left out).toList.Perm (out.toList++left):=by ext z0;induction z0 with
 |zero=>
  ext k left out h
  let:=cN.mp h.symm
  subst this;unfold iM.go;simp
 |succ fuel I0=>
  ext k left out h;unfold iM.go;let a:next k % left.length<left.length:=eL _ (by lia);rw[bn a];show (I0 _ _ _ (by grind)).trans ?_;rw[b7,bS];show bP.append_left _ (a2B left a).symm
def a3o{α:Type}(next:Nat->Nat)(xs:Array α):(iM next xs).toList.Perm xs.toList:=by
 let:=b4o next xs.size 0 xs.toList #[] (by simp)
 simpa[iM]using this
noncomputable def a2b(t:gM):Nat->Nat
 |0=>0
 |j+1=>t.place.getD j 0+1
def a30(h:TOk led t)(hi:i<=t.place.size):gM.below t.place (a2b t i)=i:=by
 let(f,a,d):=a6T h.up (a2b t i);cases i with
 |zero=>
  by_cases c:gM.below t.place (a2b t 0)=0
  .grind
  .let:=a 0 (by lia) (by lia)
   let z:a2b t 0=0:=rfl
   lia
 |succ j=>
  let b:j<t.place.size:=by lia
  let e:a2b t (j+1)=t.place[j]+1:=by change t.place.getD j 0+1=_;rw[gb,bX b];rfl
  let c||c||c:=Nat.lt_trichotomy (gM.below t.place (a2b t (j+1))) (j+1)
  .grind
  .cbv
  .let q:=a (j+1) (by lia) c;let r:=b1F h.up (show j<j+1 by lia) (by lia)
   lia
def SO.at{K:Type}[DecidableEq K]{kd:KeyKind prog w K}{ms:List K}(S:SO kd h a kR ep t ms)(k:∀o,h.get? a=bH o->h'.get? a=bH o):SO kd h' a kR ep t ms:=by
 let((o,g,x,d),i,f,e,b,c):=S;show((o,k o g,x,d),i,f,e,b,c)
section
variable{it a:Addr}{f:Value}{i n ep k:Nat}{o:Obj}{es:Array (Int×Value)}{t:gM}{K:Type}[DecidableEq K]{kd:KeyKind prog w K}{ms:List K}{T:Addr}{ps:List Nat}
noncomputable def b1J(w:World)(a:Addr)(ep:Nat)(es:Array (Int×Value)):List Value:=(iM (w.params.setOrder a ep) es).toList.map (·.2)
def a9B(hh:A.handled=gV)(hne:a≠it)(hT:byT w=kz):Walks prog w A it [it,a] [it] es.size (λi v=>(b1J w a ep es)[i]?=bH v) (λi h=>SetIt h it a (.int (0:Nat) 0) i es.size ep/\SO kd h a es ep t ms):=by
 let p:(iM (w.params.setOrder a ep) es).size=es.size:=by rw[<- bI,(a3o _ es).length_eq,bI]
 show(λb d=>by simp at d;simp[d],λ_ _ _ c m=>(c.1.at λo e=>m it (by simp) o e,c.2.at λo e=>m a (by simp) o e),λi s Q E q c f=>?_,λs Q E c f=>?_,λ_ _ _ _ c f=>a4p c.1 f)
 .let l:(iM (w.params.setOrder a ep) es)[i]?=bH ((iM (w.params.setOrder a ep) es)[i]'(by lia)):=bX _;show a49 (v:=((iM (w.params.setOrder a ep) es)[i]'(by lia)).2) (nx:=0) c.1 c.2 (λB F R g=>a48 c.2 hT ?_) λj x k=>?_
  .simp_all
  .show f _ j s.toks ?_ (x,c.2.at λo e=>k.extBut a o hne e) λb o d e=>k.extBut b o (λz=>d (by simp[z])) e;unfold b1J;rw[bo,cz,l]
   rfl
 .show a6W hh c.1 c.2 (λB F R g=>a48 c.2 hT ?_) λj n=>f j s.toks λb o d e=>n b o (λz=>d (by simp[z])) e;rw[gf (by lia)];show g
def a7M(hh:A.handled=gV)(hne:a≠it)(hT:byT w=kQ)(hp:(!t.plain&&decide (es.size > 1))=kQ)(hf:t.fits es.size=kz)(ok:TOk (!byT w) t) :
  Walks prog w A it [it,a] [it] es.size (λi v=>(es.toList.map (·.2))[i]?=bH v) (λi h=>SetIt h it a (.int (a2b t i) 0) i es.size ep/\SO kd h a es ep t ms):=by
 let q:t.place.size=es.size:=by
  simp only[gM.fits,b8,beq_iff_eq]at hf;show hf.1
 show(λb d=>by simp at d;simp[d],λ_ _ _ c m=>(c.1.at λo e=>m it (by simp) o e,c.2.at λo e=>m a (by simp) o e),λi s Q E n c f=>?_,λs Q E c f=>?_,λ_ _ _ _ c f=>a4p c.1 f)
 .let j:i<t.place.size:=by lia
  show a49 (v:=es[i].2) (nx:=a2b t (i+1)) c.1 c.2 (λB F R g=>a3Z c.2 hT hp ?_) λk x l=>?_
  .rw[a30 ok (by lia),bX n,bX j];let e:a2b t (i+1)=t.place[i]+1:=by change t.place.getD i 0+1=_;rw[gb,bX j];rfl
   rw[e]at g;show g
  .show f _ k s.toks ?_ (x,c.2.at λo e=>l.extBut a o hne e) λb o d e=>l.extBut b o (λz=>d (by simp[z])) e;rw[bo,cz,bX n]
   rfl
 .show a6W hh c.1 c.2 (λB F R g=>a3Z c.2 hT hp ?_) λk p=>f k s.toks λb o d e=>p b o (λz=>d (by simp[z])) e;rw[a30 ok (by lia),gf (by lia)];show g
def b4p(hn:n≠0)(h:∀i d',i<n->Q i { s with drawn:=d' }):wpAny (model prog w) A (choose src n) Q E s:=
 λ_ _ _=>(hn,h _ _ (eL _ (Nat.pos_of_ne_zero hn)))
theorem a4q{α:Type}:∀(n:Nat)(xs:List α)(s:Shared)(Q:List α->Shared->Prop),xs.length=n->(∀ys d',ys.Perm xs->Q ys { s with drawn:=d' })->wpAny (model prog w) A (drawOrder n xs) Q E s
 |0,xs,s,Q,hl,h=>by
  let:=cN.mp hl
  subst this;show gK (h [] s.drawn .nil)
 |n+1,[],s,Q,hl,h=>by cases hl
 |n+1,x::xs,s,Q,hl,h=>by
  show gJ (b4p (by simp) λi e a=>?_);rw[bn a];show gJ (a4q n _ _ _ (by grind) λd c b=>(gK (h _ c ((bP.cons _ b).trans (a2B _ a).symm))))
def PlacesAt(h:Heap)(T:Addr)(ps:List Nat):Prop:=∃o c,h.get? T=bH o/\o.data=.seq (ps.map λ(i:Nat)=>rawInt i).toArray c
def PlacesAt.at(x:PlacesAt h T ps)(k:∀o,h.get? T=bH o->h'.get? T=bH o):PlacesAt h' T ps:=by let(o,c,g,d):=x;show(o,c,k _ g,d)
def a7N(x:SetIt s.heap it a (.ref T) i es.size ep)(S:SO kd s.heap a es ep t ms)(y:PlacesAt s.heap T ps)(hp:ps[i]?=bH p)(he:es[p]?=bH e)
  (hQ:∀h',SetIt h' it a (.ref T) (i+1) es.size ep->Heap.SameBut it s.heap h'->Q (bH e.2) { s with heap:=h' }):wpAny (model prog w) A (pyNext (.ref it)) Q E s:=by
 let(u,f,k,d):=id x;let((o,h,G,g),D,n,B,b,C):=id S;let(F,c,q,v):=y;show gJ (iU (wpAny_callSpecial?_slot x.ty sit_next (im sit_next x.ty a0S ?_ (a00 _))));show gJ (gK (gJ (jZ f d (gJ (jl h g b ?_)))));rw[if_neg (by simp)];show gJ (gJ (jw q ?_));rw[v];show gK ?_;dsimp only;let r:(ps.map λ(i:Nat)=>rawInt i).toArray[(i:Int).toNat]?=bH (rawInt p):=by simp_all
 rw[r]
 change wpAny _ _ (setNextDrawn a (p:Int).toNat (ep:Int).toNat >>= _) _ _ _
 show gJ (gJ (iw h g b ?_));simp;rw[he];show gK (gJ (iQ f d (by simp) ?_));let j:=Obj.data_mapFields d (·.setIfInBounds 1 (rawInt ((i:Int)+1)));let z:SetIt _ it a (.ref T) (i+1) es.size ep:=
  (_,(Heap.get?_update_self (Obj.mapFields (·.setIfInBounds 1 (rawInt ((i:Int)+1)))) f (Obj.isFreed_of_fields (Obj.data_mapFields d _))),(Obj.cls_mapFields ..).trans k,by rw[j];simp[rawInt])
 show gK (_,rfl,?_);show gK (hQ _ z (Heap.SameBut.update ..))
def a9C(hh:A.handled=gV)(x:SetIt s.heap it a (.ref T) i es.size ep)(S:SO kd s.heap a es ep t ms)(y:PlacesAt s.heap T ps)(hp:ps[i]?=gV)
  (hQ:∀h',(∀b o,b≠it->s.heap.get? b=bH o->h'.get? b=bH o)->Q gV { s with heap:=h' }):wpAny (model prog w) A (pyNext (.ref it)) Q E s:=by
 let(u,f,I,d):=id x;let((o,k,J,C),G,p,H,g,F):=id S;let(L,c,j,l):=y;show gJ (iU (wpAny_callSpecial?_slot x.ty sit_next (im sit_next x.ty a0S ?_ (a00 _))));show gJ (gK (gJ (jZ f d (gJ (jl k C g ?_)))));rw[if_neg (by simp)];show gJ (gJ (jw j ?_));rw[l];show gK ?_;dsimp only;let v:(ps.map λ(i:Nat)=>rawInt i).toArray[(i:Int).toNat]?=gV:=by simp_all
 rw[v];dsimp only;show gJ (iQ f d (by simp) ?_);let r:=Obj.data_mapFields d (·.setIfInBounds 0 (rawInt 0));show gJ (iQ (Heap.get?_update_self (Obj.mapFields (·.setIfInBounds 0 (rawInt 0))) f (Obj.isFreed_of_fields (Obj.data_mapFields d _))) r (by simp) ?_);show hB (a6V hh λB h=>?_) (λ_ _ z=>z.elim) λe M z=>z;show (hQ B λb o n e=>h b o (((Heap.SameBut.update s.heap it _).trans (Heap.SameBut.update _ it _)).extBut b o n e))
noncomputable def a5a(es:Array (Int×Value))(ps:List Nat):List Value:=ps.map λp=>((es[p]?).getD (0,.none,)).2
def a7O(hh:A.handled=gV)(hne:a≠it)(hnT:T≠it)(hps:ps.Perm (bG es.size)) :
  Walks prog w A it [it,a,T] [it] es.size (λi v=>(a5a es ps)[i]?=bH v) (λi h=>SetIt h it a (.ref T) i es.size ep/\SO kd h a es ep t ms/\PlacesAt h T ps):=by
 let q:ps.length=es.size:=by rw[hps.length_eq,dX]
 show(λb d=>by simp at d;simp[d],λ_ _ _ c l=>(c.1.at λo e=>l it (by simp) o e,c.2.1.at λo e=>l a (by simp) o e,c.2.2.at λo e=>l T (by simp) o e),λi s Q E r c f=>?_,λs Q E c f=>?_,λ_ _ _ _ c f=>a4p c.1 f)
 .let g:i<ps.length:=by lia
  let m:=cD.mp (hps.mem_iff.mp (cx g));show a7N c.1 c.2.1 c.2.2 (bn g) (bX m) λj x k=>?_;show f _ j s.toks ?_ (x,c.2.1.at λo e=>k.extBut a o hne e,c.2.2.at λo e=>k.extBut T o hnT e) λb o d e=>k.extBut b o (λz=>d (by simp[z])) e;unfold a5a;rw[bo,bn g,di,bX m]
  rfl
 .show a9C hh c.1 c.2.1 c.2.2 (cZ (by lia)) λj n=>f j s.toks λb o d e=>n b o (λz=>d (by simp[z])) e
def a9D{α:Type}(d:α)(l:Array α):(bG l.size).map (λp=>(l[p]?).getD d)=l.toList:=by
 show gg (by simp) λi b a=>?_
 let:i<l.size:=by cbv
 simp[this]
def a7P(hps:ps.Perm (bG es.size)):(a5a es ps).Perm (es.toList.map (·.2)):=by
 let q:=hps.map λp=>((es[p]?).getD (0,Value.none,)).2;show q.trans (bP.of_eq ?_);rw[<- a9D (0,Value.none,) es,de]
 rfl
def SO.ty(S:SO kd s.heap a es ep t ms):s.TypeIs (.ref a) "set":=by let(o,g,x,_):=S.at_;show(o,g,x.1)
def SO.len(S:SO kd s.heap a es ep t ms):es.size=ms.length:=by
 let q:=a9z S.nums;o_head q
abbrev b7B(f:Value)(a:Addr)(n ep:Nat):Obj:={ cls:=.type "set_iterator",data:=.fields #[f,.int (0:Nat) 0,.ref a,.int n 0,.int ep 0] }
def a3p{h:Heap}:SetIt (h.push (b7B f a n ep)) h.objs.size a f 0 n ep:=(_,Heap.get?_push_size _ rfl,rfl,rfl)
def b1K(hh:A.handled=gV)(S:SI kd s.heap a ms)
  (h:∀(I:Addr)(fp:List Addr)(g:Heap)(d':Drawn)(vs:List Value)(ns:List K)(St:Nat->Heap->Prop),(∀b o,s.heap.get? b=bH o->g.get? b=bH o)->s.heap.objs.size<=I->(∀b∈fp,b=a\/s.heap.objs.size<=b) ->
   KsAre kd vs ns->ns.Perm ms->Walks prog w A I fp [I] vs.length (λi v=>vs[i]?=bH v) St->St 0 g->Q (.ref I) { s with heap:=g,drawn:=d' }) :
  wpAny (model prog w) A (pyIter (.ref a)) Q E s:=by
 let(es,ep,t,S):=S;let((o,p,hx,y),hel,n,N,f,L):=id S;let G:a<s.heap.objs.size:=Heap.lt_size p;show wpAny_pyIter_slot S.ty PySem.F.slot_set_iter (im PySem.F.slot_set_iter S.ty a3F ?_ (PySem.F.args_set_iter_1 _));unfold gU.«frozenset.__iter__» gU.Frozenset.slot0 gU.Frozenset.sizeOf;show gJ (gJ (gK (gK (gJ (gJ (jl p y f (gK ?_)))))));unfold setDrawn setsByText;show gJ (gJ (iw p y f (gJ (gJ (jH (gK ?_))))));dsimp only;show gK ?_
 change wpAny _ _ (if (!byT w&&(!t.plain&&decide (es.size > 1)))=kz then _ else _) _ _ _
 let B:(es.toList.map (·.2)).length=es.size:=by simp
 by_cases c:(!byT w&&(!t.plain&&decide (es.size > 1)))=kz
 .rw[if_pos c];show gJ (a4q es.size (bG es.size) _ _ (by simp) λx d' q=>?_);let r:x.length=es.size:=by rw[q.length_eq,dX]
  let sb:iu<=16777216:=by decide
  show gJ (jE ?_ (by rw[a9,r,ie];lia));show gJ (j3 (Heap.get?_push_of_some _ p) y f ?_);unfold newFields;show gJ (iK (gK (_,rfl,"set_iterator",_,(_,Heap.get?_push_size _ rfl,rfl),sit_next.lookup,?_)));let(D,C,H):=a0Q n (a7P (es:=es) q);let k:s.heap.objs.size<(s.heap.push { cls:=.type "tuple",data:=.seq (x.map λ(i:Nat)=>rawInt i).toArray }).objs.size:=by rw[Heap.size_push];show ej _
  let j:=a7O (kd:=kd) (A:=A) (t:=t) (ms:=ms) (ep:=ep) (a:=a) hh (bt (dO G k)) (bt k) q;let e:(a5a es x).length=es.size:=by unfold a5a;rw[a9,r]
  rw[<- e]at j;show h _ _ _ _ _ D _ (λb o g=>Heap.get?_push_of_some _ (Heap.get?_push_of_some _ g)) (cf k) (λb u=>?_) C H j (?_,S.at λo g=>Heap.get?_push_of_some _ (Heap.get?_push_of_some _ g),(_,_,Heap.get?_push_of_some _ (Heap.get?_push_size _ rfl),rfl))
  .simp only[bf,dA,or_false]at u;let rfl||rfl||rfl:=u
   .show .inr (cf k)
   .show .inl rfl
   .show .inr (bd _)
  .rw[e];show a3p
 .rw[if_neg c];show gJ (gK (gJ (j3 p y f ?_)));unfold newFields;show gJ (iK (gK (_,rfl,"set_iterator",_,(_,Heap.get?_push_size _ rfl,rfl),sit_next.lookup,?_)));let z:∀b∈[s.heap.objs.size,a],b=a\/s.heap.objs.size<=b:=λb u=>by grind
  cases k:byT w with
  |true=>
   let J:(b1J w a ep es).Perm (es.toList.map (·.2)):=(a3o _ es).map _;let(D,C,H):=a0Q n J;let j:=a9B (kd:=kd) (A:=A) (t:=t) (ms:=ms) (ep:=ep) (es:=es) (a:=a) hh (bt G) k;let e:(b1J w a ep es).length=es.size:=by rw[J.length_eq,B]
   rw[<- e]at j;show h _ _ _ _ _ D _ (λb o g=>Heap.get?_push_of_some _ g) (bd _) z C H j (?_,S.at λo g=>Heap.get?_push_of_some _ g);rw[e];show a3p
  |false=>
   let M:(!t.plain&&decide (es.size > 1))=kQ:=by
    rw[k]at c;o_head c
   let j:=a7M (kd:=kd) (A:=A) (t:=t) (ms:=ms) (ep:=ep) (es:=es) (a:=a) hh (bt G) k M f L;rw[<- B]at j;show h _ _ _ _ _ ms _ (λb o g=>Heap.get?_push_of_some _ g) (bd _) z n (bP.refl _) j (?_,S.at λo g=>Heap.get?_push_of_some _ g);rw[B];show a3p
end
section
variable{a:Addr}{K:Type}[DecidableEq K]{kd:KeyKind prog w K}{ms:List K}
def b1L(y:s.TypeIs (.ref a) "set")(h:Q kQ s):wpAny (model prog w) A (gU.List.listLengthHint (.ref a)) Q E s:=by
 show gJ (wpAny_specialOf y PySem.F.slot_set_len.lookup ?_);generalize e0:_=z;show gJ (jk (b:=kz) y (by rw[jI];kernel_rfl) (gJ (jQ y (gK h))))
def b1M(h:ItemsOf (λi v=>vs[i]?=bH v) acc vs.length):acc.toList=vs:=by
 let(a,b):=h;show gg (by cbv) λi d c=>?_;let e:i<acc.size:=by cbv
 let:vs[i]?=bH acc[i]:=b i acc[i] (bX e)
 rw[bn c]at this;o_head this.symm
def a7Q(hh:A.handled=gV)(S:SI kd s.heap a ms)(L:Addr)(hL:L≠a)(res:Value)(c0:Nat)(gL:s.heap.get? L=bH { cls:=.type "list",data:=.seq #[] c0 })
  (hR:∀g tk d' acc c' ns,(∀b o,b≠L->s.heap.get? b=bH o->g.get? b=bH o)->g.get? L=bH { cls:=.type "list",dict:=gV,data:=.seq acc c',slots:=#[] }->KsAre kd acc.toList ns->ns.Perm ms->R (.ok (.ret res)) { s with heap:=g,drawn:=d',toks:=tk }) :
  wpAny (model prog w) A.in1 (gU.List.listExtendWith (.ref L) (.ref a) res)
   (λfin s'=>match fin with |.done f=>R (.ok f) s' |.again c'=>c'.quiet=kz/\iy (model prog w) A c' R s') (λe s'=>R (.error e) s') s:=by
 let ty:s.TypeIs (.ref a) "set":=by let(_,_,_,S'):=S;show S'.ty
 let small:ms.length<=sizeLine:=by
  let(es,ep,t,S'):=S;let q1:=S'.len;let q2:=S'.sc;let sb:iu<=16777216:=by decide
  rw[ie];lia
 let lL:=Heap.lt_size gL;unfold gU.List.listExtendWith;show gJ (jQ ty ?_);let n1:gU.List.listSameRef (.ref L) (.ref a)=kQ:=by simp[gU.List.listSameRef,hL]
 let n2:(Value.type "set"==Value.type "list")=kQ:=by decide
 let n3:(Value.type "set"==Value.type "tuple")=kQ:=by decide
 simp only[n1,n2,n3,Bool.or_false,dy,if_false];show gJ (b1K hh S λI fp g d' vs ns St kp hI hfp i1 i2 wk st=>?_);let nf:L∉fp:=λz=>(hfp L z).elim hL λq=>cC _ (bQ lL q);let hz:vs.length<=sizeLine:=by
  let q:=a9z i1;rw[i2.length_eq]at q
  lia
 let key:∀(d:Heap)(c1:Nat),St 0 d->(∀b o,b≠L->g.get? b=bH o->d.get? b=bH o)->d.get? L=bH { cls:=.type "list",data:=.seq #[] c1 } ->
   iy (model prog w) A (.builtin "list.extend.loop" ([.ref L,.ref I,res],[])) R { s with heap:=d,drawn:=d' }:=by
  ext d c1 st2 k2 gL2;show codeAny_extend_loopS wk.toS hz L nf res vs.length 0 _ #[] c1 rfl (bR _) st2 gL2 (ItemsOf.nil _) λs3 acc c3 mv g3 hacc=>?_;rw[Moved.eq_with mv];show hR s3.heap s3.toks d' acc c3 ns (λb o i e=>mv.heap b o (λhm=>?_) (k2 b o i (kp b o e))) g3 (b1M hacc▸i1) i2;let q||q:=bf.mp hm
  .show i q
  .rw[bg.mp q]at e;show cC _ (bQ (Heap.lt_size e) hI)
 let h:=kp L _ gL;show gJ (ib (b1L (by let(o,e,c):=ty;show(o,kp _ _ e,c)) (iF (λ_=>?_) λ_=>gK (jj PySem.F.plain_extend_loop _,key _ c0 st (λb o _ e=>e) h))));show gJ (iN (gJ ?_))
 change wpAny _ _ (updateSeq L (·.push .none) >>= λ_=>updateSeq L (·.pop)) _ _ _
 show gJ (kK h rfl ?_);let d:=Heap.get?_update_self (Obj.mapSeq (·.push Value.none)) h rfl;show kK d rfl ?_;let j:∀b o,b≠L->g.get? b=bH o->((g.update L (Obj.mapSeq (·.push Value.none))).update L (Obj.mapSeq (·.pop))).get? b=bH o:=λb o i e=>
  (Heap.get?_update_other _ _ (Ne.symm i)).trans ((Heap.get?_update_other _ _ (Ne.symm i)).trans e)
 show gK (jj PySem.F.plain_extend_loop _,key _ _ (wk.frame 0 _ _ st λb hb o e=>j b o (λq=>nf (q▸hb)) e) j (Heap.get?_update_self (Obj.mapSeq (·.pop)) d rfl))
def collect_set(hh:A.handled=gV)(S:SI kd s.heap a ms)
  (h:∀(g:Heap)(tk:Nat)(d':Drawn)(vs:List Value)(ns:List K),(∀b o,s.heap.get? b=bH o->g.get? b=bH o)->KsAre kd vs ns->ns.Perm ms->R vs { s with heap:=g,drawn:=d',toks:=tk }) :
  wpAny (model prog w) A (collect (.ref a)) R E s:=by
 let C:=let (_,_,_,S'):=S;let (_,g,_):=S'.at_;Heap.lt_size g
 show gJ (wpAny_runValue (iW PySem.F.entry_proto_collect ?_));rw[Around.under_plainId PySem.F.plain_proto_collect _];show gJ (iK (gK (jj PySem.F.plain_list_iadd _,iW PySem.F.entry_list_iadd ?_)));rw[Around.under_plainId PySem.F.plain_list_iadd _];let z:(s.heap.push { cls:=.type "list",data:=.seq ([]).toArray }).get? s.heap.objs.size=bH { cls:=.type "list",data:=.seq #[] }:=Heap.get?_push_size _ rfl;let u:=a7Q (s:={ s with heap:=s.heap.push { cls:=.type "list",data:=.seq ([]).toArray } })
  (R:=λq t=>∃(g:Heap)(j:Nat)(i:Drawn)(c:Array Value)(n:Nat)(d:List K),q=.ok _/\t={ s with heap:=g,drawn:=i,toks:=j } /\
   (∀b o,s.heap.get? b=bH o->g.get? b=bH o)/\g.get? s.heap.objs.size=bH { cls:=.type "list",dict:=gV,data:=.seq c n,slots:=#[] }/\KsAre kd c.toList d/\d.Perm ms)
  hh (S.at λo e=>Heap.get?_push_of_some _ e) s.heap.objs.size (cF C) (.ref s.heap.objs.size) 0 z
  λg j i c n d m r p k=>(g,j,i,c,n,d,rfl,rfl,λb o e=>m b o (bt (Heap.lt_size e)) (Heap.get?_push_of_some _ e),r,p,k)
 show hB u (λv t x=>?_) λe t x=>?_
 .cases v with
  |done f=>
   let(g,j,i,c,n,d,e,rfl,m,r,p,k):=x;cases e;show gJ (jw r (gK (h g j i _ d m p k)))
  |again c1=>
   show(x.1,iP x.2 λq D y=>?_);let(g,j,i,c,n,d,rfl,rfl,m,r,p,k):=y;show gJ (jw r (gK (h g j i _ d m p k)))
 .let(_,_,_,_,_,_,B,_):=x;cases B
end
end SetW
def a4r:∀{vs:List Value}{ns:List Int},io vs ns->vs.length=ns.length:=by ext z0 y0 x0;induction x0 with
 |nil=>show rfl
 |cons n t h I0=>rw[bv,bv,I0]
def a5b:∀{vs:List Value}{ns:List Int},io vs ns->Vals (ns.map V.int) vs:=by ext z0 y0 x0;induction x0 with
 |nil=>show .nil
 |cons n t h I0=>show .cons (t,rfl) (I0)
theorem a9E:∀{vs:List Value}{ns:List Int},vs.length=ns.length->(∀(i:Nat) v,vs[i]?=bH v->∃n t,ns[i]?=bH n/\v=.int n t)->io vs ns
 |[],[],_,_=>.nil
 |[],_::_,h,_=>by simp at h
 |_::_,[],h,_=>by simp at h
 |v::vs,n::ns,h,q=>by
  let(m,t,a,b):=q 0 v rfl;simp at a;subst a b;show .cons _ t (a9E ↑h λi v e=>↑(q (i+1) v ↑e))
def a5c(hmx:ns.length<=1000)
  (hcol:∀R:List Value->Shared->Prop,(∀(g:Heap)(tk:Nat)(d:Drawn)(vs:List Value)(ks:List Int),(∀b o,s.heap.get? b=bH o->g.get? b=bH o)->io vs ks->ks.Perm ns->R vs { s with heap:=g,drawn:=d,toks:=tk })->wpAny (model P w) A.in1 (collect (.ref r)) R E s)
  (h:∀(g g':Heap)(tk:Nat)(d:Drawn)(out:List Value)(n:Nat)(ms:List Int),(∀b o,s.heap.get? b=bH o->g.get? b=bH o)->(∀b o,g.get? b=bH o->g'.get? b=bH o)->g'.get? g.objs.size=bH { cls:=.type "list",data:=.seq out.toArray n } ->
   io out ms->ms.Perm ns->ms.Pairwise (·<=·)->Q (.ref g.objs.size) { s with heap:=g',drawn:=d,toks:=tk }):wpAny (model P w) A (call (.builtin "sorted") [.ref r]) Q E s:=by
 show Calls.call_function_entry kind_sorted plain_sorted entry_sorted (args_sorted1 _) (gJ (gK (gJ (hcol _ λg t d f ks p l k=>?_))));let hl:=(a4r l).trans k.length_eq;let v:f.length<=sizeLine:=by rw[ie];lia
 show gJ (kG ?_ v);let j:(g.push _).get? g.objs.size=bH (seqObj "list" f.toArray 0):=Heap.get?_push_size _ rfl;show gJ (ib (im slot_list_sort (_,j,rfl) entry_list_sort (Tim.sort_any j l (by lia) λout u y x q=>(_,rfl,?_)) (args_list_sort _)));let c:=sortedHeap_at (out:=out) j;let(n,c):=c;show gK (_,rfl,h g _ t d out.toList n u p (λb o e=>?_) (by cbv) y (x.trans k) q);let i:=Heap.lt_size e;rw[sortedHeap_old (bt i) (by rw[Heap.size_push];show dj i)];show Heap.get?_push_of_some _ e
def Inv.drew(I:Inv X pins σ H s)(d:Drawn):Inv X pins σ H { s with drawn:=d }:=
 I.step (ch:=[]) (λb a=>nomatch a) (λb o _ _ _ e _=>e) (λb o _ _ _ e _=>(o.slots,e)) (λ_ _ _ _ n=>n) (λb o _ e=>(o,e)) (λ_ _ e=>e) (λ_ _ _ e=>e) (λb f e=>(#[],by rw[e];simp)) (λm c=>c) I.hok I.bare
def b4q(K:Fg):List V->Hp->VK->Prop:=λxs H Q=>∃(p:Addr)(ns:List Int),xs=[.ref p]/\(SqL K H p (ns.map V.int)\/∃kvs:List (Key×V),H p=bH (.dK kvs)/\kvs.map (·.1)=ns.map λi=>(Sum.inl (bH i):Key))/\ns.length<=1000 /\
 ∀(t:Addr)(ms:List Int),H t=gV->ms.Perm ns->ms.Pairwise (·<=·)->Q (.ref t) (upd H t (.lst (ms.map V.int)))
def a55(hc:X.calm=kz):CallR X (.builtin "sorted") (b4q X.K):=by
 ext F s σ H xs us Q I r h;let(p,ns,rfl,C,G,q):=h;let(u,rfl,rx):=a2v r;cases rx;let hh:=I.ok.hd hc;show a5c G (λR T=>?_) λg g' l d ab n L k1 k2 e a1 S a3=>?_
 .let C||(kvs,hd,hk):=C
  .let(M,rv,pl,_):=I.list C;let U:=a3U rv;show collect_list pl.isList ?_ (by rw[a4r U,ie];lia);show T _ s.toks s.drawn M _ (λb o e=>?_) U (bP.refl _);let ac:=Heap.lt_size e;rw[Heap.get?_update_ne _ _ _ _ (bt ac)];show Heap.get?_push_of_some _ e
  .let(z,lo,E,B,dd):=b3R I.hok hd;let(ep,ad):=dd.dictAt;let Y:E.length=ns.length:=by rw[<- B.length,<- a9,hk,a9]
   show PySem.W.kdu_collect (PySem.W.kdl_dict lo) hh ad (by rw[Y,ie];lia) λg l aa kp c=>?_;show T g l s.drawn aa.toList ns kp (a9E (by rw[bI,c.1,Y]) λi v e=>?_) (bP.refl _);let(k,x,e1,e2):=c.2 i v (by simp_all);let y:E.map (·.1)=ns.map λi=>(Sum.inl (bH i):Key):=by rw[<- B.keys];show hk
   let j:(ns.map λi=>(Sum.inl (bH i):Key))[i]?=bH k:=by rw[<- y,bo,e1];rfl
   rw[bo]at j;cases hn:ns[i]? with
   |none=>rw[hn]at j;cases j
   |some n=>
    rw[hn]at j;cases j;let D:Value.isInt n v=kz:=e2;cases v with
    |int m t=>show(n,t,rfl,by simp[Value.isInt]at D;rw[D])
    |_=>simp[Value.isInt]at D
 .let J:Inv X F σ H { s with heap:=g,drawn:=d,toks:=l }:=(I.drew d).kept k1;show(.ref g.objs.size,_,J.laid k2 (bd _) (show ObjOk X.prog X.w _ g' _ (.lst (L.map V.int)) from (by rw[a9,S.length_eq,ie];lia,ab,n,a5b a1,e)),rfl,q _ L (J.hok.fresh (bd _)) S a3)
structure Zs where
 it:Addr
 tp:Bool
 l:Addr
def Zs.At(z:Zs)(k:Nat)(h:Heap):Prop:=if z.tp=kz then h.IsTupleIter z.it z.l k else h.IsListIter z.it z.l k
def Zs.Has(z:Zs)(h:Heap)(xs:Array Value):Prop:=if z.tp=kz then h.IsTuple z.l xs else h.IsList z.l xs
def Zs.At.keep{z:Zs}(a:z.At k h)(q:∀o,h.get? z.it=bH o->h'.get? z.it=bH o):z.At k h':=by
 unfold Zs.At at a ⊢
 split
 .next e=>rw[if_pos e]at a;show a.at q
 .next e=>rw[if_neg e]at a;show a.at q
def Zs.Has.keep{z:Zs}(a:z.Has h xs)(q:∀o,h.get? z.l=bH o->h'.get? z.l=bH o):z.Has h' xs:=by
 unfold Zs.Has at a ⊢
 split
 .next e=>rw[if_pos e]at a;show let (o,ho,r):=a;(o,q o ho,r)
 .next e=>rw[if_neg e]at a;show let (o,ho,r):=a;(o,q o ho,r)
def Zs.At.obj{z:Zs}(a:z.At k h):∃o,h.get? z.it=bH o/\∀v,o.data≠.cell v:=by
 unfold Zs.At at a
 split at a<;>(let(o,e,_,d):=a;show(o,e,λv q=>by rw[d]at q;cases q))
def b7C(ti:s.heap.IsTupleIter it t i)(th:s.heap.IsTuple t xs)(hx:xs[i]?=bH x)
  (q:∀g,g.IsTupleIter it t (i+1)->Heap.SameBut it s.heap g->Q x { s with heap:=g }):wpAny (model P w) A (gU.SmallTypes.nextOf (.ref it)) Q E s:=by
 let(o,b,c,a):=id ti;let(u,e,_,n,d):=th;show gJ (wpAny_callSpecial?_slot ti.typeIs PySem.F.slot_tuple_iterator_next
  (im PySem.F.slot_tuple_iterator_next ti.typeIs PySem.F.entry_tuple_iterator_next ?_ (PySem.F.args_tuple_iterator_next_1 _)))
 change wpAny _ _ (field _ 0 >>= _) _ _ s
 show gJ (iq b a rfl ?_);show gJ (iq b a rfl ?_);show gJ (jK e d ?_);simp only[fq,hx];show gJ (iQ b a (by simp) (gK (x,rfl,gK (q _ ?_ (Heap.SameBut.update ..)))));show(_,Heap.get?_update_self _ b (Obj.isFreed_of_fields (Obj.data_mapFields a _)),(Obj.cls_mapFields ..).trans c,by rw[Obj.data_mapFields a];simp[rawInt])
def a9F(hh:A.handled=gV)(ti:s.heap.IsTupleIter it t i)(th:s.heap.IsTuple t xs)(hx:xs[i]?=gV)
  (q:∀g e,Heap.ExtBut it s.heap g->(∃o,g.get? e=bH o/\o.cls=.type "StopIteration")->E (.ref e) { s with heap:=g }):wpAny (model P w) A (gU.SmallTypes.nextOf (.ref it)) Q E s:=by
 let(o,b,h,c):=id ti;let(u,f,_,n,d):=th;show gJ (wpAny_callSpecial?_slot ti.typeIs PySem.F.slot_tuple_iterator_next
  (im PySem.F.slot_tuple_iterator_next ti.typeIs PySem.F.entry_tuple_iterator_next ?_ (PySem.F.args_tuple_iterator_next_1 _)))
 change wpAny _ _ (field _ 0 >>= _) _ _ s
 show gJ (iq b c rfl ?_);show gJ (iq b c rfl ?_);show gJ (jK f d ?_);simp only[fq,hx];show gJ (iN (gJ (iQ b c (by simp) ?_)));show gJ ?_;show gJ (iK ?_ (by size_fits));show gJ (jX (by first |rfl | (simp;rfl)) ?_)
 show iK ?_ (by size_fits);show gJ (wpAny_handled ?_)
 first |rw[hh] |rw[hh]
 show gJ (gK (kx ?_));show q _ _ (((Heap.SameBut.update ..).extBut.push _).push _) (_,Heap.get?_push_size _ rfl,rfl)
def b4r{z:Zs}(a:z.At i s.heap)(b:z.Has s.heap xs)(hx:xs[i]?=bH x)
  (q:∀g,z.At (i+1) g->Heap.SameBut z.it s.heap g->Q x { s with heap:=g }):wpAny (model P w) A (gU.SmallTypes.nextOf (.ref z.it)) Q E s:=by
 let(d,c,l):=z;cases c with
 |true=>show b7C a b hx q
 |false=>show wpAny_nextOf_list_item a b hx q
def b7D{z:Zs}(hh:A.handled=gV)(a:z.At i s.heap)(b:z.Has s.heap xs)(hx:xs[i]?=gV)
  (q:∀g e,Heap.ExtBut z.it s.heap g->(∃o,g.get? e=bH o/\o.cls=.type "StopIteration")->E (.ref e) { s with heap:=g }):wpAny (model P w) A (gU.SmallTypes.nextOf (.ref z.it)) Q E s:=by
 let(d,c,l):=z;cases c with
 |true=>show a9F hh a b hx q
 |false=>show wpAny_nextOf_list_end hh a b hx q
abbrev IsTu(h:Heap)(T:Addr)(xs:Array Value):Prop:=h.get? T=bH { cls:=.type "tuple",data:=.seq xs }
structure ZAp (z TI TO:Addr) (zs:List Zs):Prop where
 nd:(zs.map (·.it)).Nodup
 a1:TI≠z
 a2:TO≠z
 a3:TI≠TO
 its:∀y∈zs,y.it≠z/\y.it≠TI/\y.it≠TO
 ls:∀y∈zs,y.l≠z/\y.l≠TO/\∀x∈zs,y.l≠x.it
inductive ZLp (arr:Zs->Array Value) (zs:List Zs) (k:Nat) (s:Shared) (z TI TO:Addr) (L:List (Value×Nat)) (s':Shared):Prop
 |mk (j n:List Zs) (d h:List Value) (g:Heap) (r:zs=j++n) (R:L=(n.map λy=>Value.ref y.it).zipIdx j.length) (I:d.length=j.length) (U:h.length=n.length) (e:s'={ s with heap:=g }) (ev:∀(i:Nat) y,j[i]?=bH y->∃v,d[i]?=bH v/\(arr y)[k]?=bH v) (S:IsZip g z TI TO .ellipsis) (X:IsTu g TO (d++h).toArray) (ad:∀y∈j,y.At (k+1) g) (F:∀y∈n,y.At k g) (sg:g.objs.size=s.heap.objs.size) (J:∀c o,c≠z->c≠TO->(∀y∈zs,c≠y.it)->s.heap.get? c=bH o->g.get? c=bH o)
def b25{z TI TO:Addr}{olds:List Value}{arr:Zs->Array Value}{Q:Value->Shared->Prop}(hh:A.handled=gV)(D:ZAp z TI TO zs)(hne:zs≠[])(hsm:zs.length<=1000)
  (hz:IsZip s.heap z TI TO .none) (hI:IsTu s.heap TI (zs.map λy=>Value.ref y.it).toArray) (hO:IsTu s.heap TO olds.toArray) (hol:olds.length=zs.length)
  (hat:∀y∈zs,y.At k s.heap) (hhas:∀y∈zs,y.Has s.heap (arr y))
  (hQ:∀(g:Heap)(T:Addr)(vs:List Value),vs.length=zs.length->(∀(i:Nat) y,zs[i]?=bH y->∃v,vs[i]?=bH v/\(arr y)[k]?=bH v)->T=s.heap.objs.size->IsZip g z TI TO (rawInt T)->IsTu g TI (zs.map λy=>Value.ref y.it).toArray->IsTu g TO vs.toArray->IsTu g T vs.toArray ->
   (∀y∈zs,y.At (k+1) g)->(∀c o,c≠z->c≠TO->(∀y∈zs,c≠y.it)->s.heap.get? c=bH o->g.get? c=bH o)->Q (.ref T) { s with heap:=g })
  (hE:(∃y∈zs,(arr y)[k]?=gV)->∀g e,(∀c o,c≠z->c≠TO->(∀y∈zs,c≠y.it)->s.heap.get? c=bH o->g.get? c=bH o)->(∃o,g.get? e=bH o/\o.cls=.type "StopIteration")->E (.ref e) { s with heap:=g }) :
  wpAny (model P w) A (gU.«zip.__next__» ([.ref z],[])) (λfin s'=>∃v,fin=.done (.ret v)/\Q v s') E s:=by
 change wpAny (model P w) _ (field (.ref z) 2 >>= _) _ _ _
 show gJ (iq hz rfl (x:=.bool kQ) rfl ?_)
 change wpAny (model P w) _ (field (.ref z) 3 >>= _) _ _ _
 show gJ (iq hz rfl (x:=.ref TI) rfl (gJ (jK hI rfl ?_)));let he:(zs.map λy=>Value.ref y.it).toArray.isEmpty=kQ:=by
  cases zs with
  |nil=>show absurd rfl hne
  |cons _ _=>rfl
 dsimp only;rw[he]
 change wpAny (model P w) _ (gU.SmallTypes.ownedTupleIsFree (.ref z) >>= _) _ _ _
 show gJ ?_;unfold gU.SmallTypes.ownedTupleIsFree;show gJ (iq hz rfl (x:=.none) rfl (gK ?_));simp only[if_true];show gJ (iN (gJ (iq hz rfl (x:=.ref TO) rfl (gJ (j5 hz (by simp) λg1 z1 N=>?_)))))
 replace z1:IsZip g1 z TI TO .ellipsis:=z1
 show gJ ?_;show kL _ (λL b s'=>b.1=gV/\ZLp arr zs k s z TI TO L s') _ ?_ ?_ _ _ ?_
 .ext x L b s' ⟨hb,j,n,d,h,g,r,R,I,U,rfl,ev,S,X,ad,F,sg,J⟩;cases n with
  |nil=>simp at R
  |cons y n=>
   cases h with
   |nil=>simp at U
   |cons o h=>
   rw[bx,fU]at R;cases R;let a:y∈zs:=by rw[r];simp
   let hyl:=λo q=>J _ o (D.ls y a).1 (D.ls y a).2.1 (D.ls y a).2.2 q;dsimp only;show gJ (wpAny_onRaise ?_)
   change wpAny (model P w) _ (gU.SmallTypes.nextOf (.ref y.it) >>= _) _ _ _
   cases hx:(arr y)[k]? with
   |none=>
    show gJ (b7D (z:=y) hh (F y (.head _)) ((hhas y a).keep hyl) hx λH e x2 he=>?_);let(oe,V,he2):=he;let Y:IsZip H z TI TO .ellipsis:=x2 _ _ (D.its y a).1.symm S;let hez:e≠z:=λq=>by subst q;rw[Y]at V;cases V;simp at he2
    show j5 Y (by simp) λg3 _ p=>hE (y,a,hx) g3 e (λc u m G t q=>p.extBut _ _ m (x2 _ _ (t y a) (J c u m G t q))) (oe,p.extBut _ _ hez V,he2)
   |some v=>
    show gJ (b4r (z:=y) (F y (.head _)) ((hhas y a).keep hyl) hx λH a2 C=>gK ?_);let o2:IsTu H TO (d++o::h).toArray:=C.extBut _ _ (D.its y a).2.2.symm X;show gJ (jK o2 rfl ?_);let W:(d++o::h).length=zs.length:=by rw[r];simp[I];o_head U
    show gJ (kK o2 rfl ?_ (by rw[bW,W,ie];lia) (by rw[gh,bW,W,ie];lia));show gJ (wpAny_letGo (gK ?_));let nd:(j.map (·.it)++y.it::n.map (·.it)).Nodup:=by let:=D.nd;rw[r]at this;o_head this
    let p:Heap.SameBut TO H (H.update TO (Obj.mapSeq (·.setIfInBounds j.length v))):=Heap.SameBut.update ..;let o3:IsTu (H.update TO (Obj.mapSeq (·.setIfInBounds j.length v))) TO ((d++[v])++h).toArray:=by
     change Heap.get? _ _=_
     rw[Heap.get?_update_self _ o2 rfl]
     let:(d++o::h).set d.length v=(d++[v])++h:=by simp
     simp[Obj.mapSeq,<- I]
    show(rfl,j++[y],n,d++[v],h,_,by rw[r];simp,by simp,by simp[I],↑U,rfl,?_,p.extBut _ _ D.a2.symm (C.extBut _ _ (D.its y a).1.symm S),o3,?_,?_,by rw[p.1,C.1,sg],?_)
    .ext i x B
     by_cases hlt:i<j.length
     .rw[cU hlt]at B;let(v',q1,q2):=ev i x B;show(v',by rw[cU (by lia)];show q1,q2)
     .rw[cT (by lia)]at B;let h0:i-j.length=0:=by
       let:=(bh.mp B).1
       simp at this;lia
      rw[h0]at B;simp at B;subst B;show(v,by rw[cT (by lia),show i-d.length=0 by lia];rfl,hx)
    .ext x f;let f||f:=be.mp f
     .let M:x∈zs:=by rw[r];simp[f]
      show (ad x f).keep λu q=>p.extBut _ _ (D.its x M).2.2 (C.extBut _ _ (λz=>?_) q);rw[cH]at nd;show nd.2.2 x.it (bV f) y.it (by simp) z
     .rw[bg.mp f];show a2.keep λu q=>p.extBut _ _ (D.its y a).2.2 q
    .ext x f;let M:x∈zs:=by rw[r];simp[f]
     show (F x (.tail _ f)).keep λu q=>p.extBut _ _ (D.its x M).2.2 (C.extBut _ _ (λz=>?_) q);rw[cH]at nd;show (ci.mp nd.2.1).1 (z▸bV f)
    .ext c u m G t q;show p.extBut _ _ G (C.extBut _ _ (t y a) (J c u m G t q))
 .ext b s' ⟨hb,j,n,d,h,g,r,R,I,U,rfl,ev,S,X,ad,F,sg,J⟩;let htd:n=[]:=by
   cases n with
   |nil=>rfl
   |cons _ _=>simp at R
  subst htd;let hos:h=[]:=↑U
  subst hos;rw[bM]at r X;subst r;let(N,C):=b;subst hb;dsimp only;show gJ (jK X rfl (gJ (jE ?_ (by change d.toArray.toList.length<=gN;simp only[I,ie];lia))))
  change wpAny (model P w) _ (gU.SmallTypes.ownedTupleHandOut (.ref z) (.ref g.objs.size) >>= _) _ _ _
  show gJ ?_;unfold gU.SmallTypes.ownedTupleHandOut;let hzl:=Heap.lt_size S;let Y:IsZip (g.push { cls:=.type "tuple",data:=.seq d.toArray.toList.toArray }) z TI TO .ellipsis:=Heap.get?_push_of_some _ S;show gJ (j5 Y (by simp) λg3 z3 p=>?_)
  replace z3:IsZip g3 z TI TO (rawInt g.objs.size):=z3
  show j5 z3 (by simp) λg4 z4 b4=>?_
  replace z4:IsZip g4 z TI TO (rawInt g.objs.size):=z4
  let up:∀c o,c≠z->g.get? c=bH o->g4.get? c=bH o:=λc o m q=>b4.extBut _ _ m (p.extBut _ _ m (Heap.get?_push_of_some _ q));let t4:IsTu g4 g.objs.size d.toArray:=b4.extBut _ _ (cF hzl) (p.extBut _ _ (cF hzl) ↑(Heap.get?_push_size _ rfl));show gK (_,rfl,?_);show hQ g4 g.objs.size d I ev sg z4 (up _ _ D.a1 (J _ _ D.a1 D.a3 (λy a=>(D.its y a).2.1.symm) hI)) (up _ _ D.a2 X) t4 (λy a=>(ad y a).keep λo q=>up _ o (D.its y a).1 q) λc o m G t q=>up c o m (J c o m G t q)
 .show(rfl,[],zs,[],olds,g1,rfl,by simp,rfl,hol,rfl,λi y q=>by simp at q,z1,↑(N.extBut _ _ D.a2 hO),λy q=>by simp at q,λy a=>(hat y a).keep λo q=>N.extBut _ _ (D.its y a).1 q,N.1,λc o m _ _ q=>N.extBut _ _ m q)
section
variable{σ:St}{h':Heap}
def Inv.turnedN{ch:List Addr}(I:Inv X pins σ H s)(hf:∀b∈ch,FpOk X pins H b)(k:∀b o,b∉ch->s.heap.get? b=bH o->h'.get? b=bH o):Inv X pins σ H { s with heap:=h',toks:=t' }:=by
 let d:∀b u,H b=bH u->b∉ch:=λb u e z=>by rw[(hf b z).1]at e;cases e
 show I.step (λb i=>?_) (λb o _ _ a e _=>k b o a e) (λb o _ _ a e _=>(o.slots,k b o a e)) (λ_ _ _ _ n=>n)
  (λb o a e=>(o,k b o a e)) (λ_ _ e=>e) (λ_ _ _ e=>e) (λb x e=>(#[],by rw[e];simp)) (λm j=>?_) (λb u e=>?_) I.bare
 .let(_,t,_,g,w,l):=hf b i;show(g,t,w,l)
 .let(o,h,f,p,r):=j;show(o,h,f,k _ o (λz=>(hf _ z).2.1 rfl) p,r)
 .show (I.hok b u e).stay (λc v a q=>k c v ?_ q) (λ_ q=>q) λ_ _ q=>q;let z||z:=a
  .simp_all
  .simp_all
def Inv.turnedT{ch:List Addr}(I:Inv X pins σ H s)(hf:∀b∈ch,FpOk X pins H b)(k:∀b o,b∉ch->s.heap.get? b=bH o->h'.get? b=bH o)
  (hT:s.heap.objs.size<=T) (r:Vals vs us) (hz:vs.length<=gN) (ht:IsTup h' T us.toArray):Inv X pins σ (upd H T (.tup vs)) { s with heap:=h',toks:=t' }:=by
 let g:∀b u,H b=bH u->b∉ch:=λb u e z=>by rw[(hf b z).1]at e;cases e
 let d:=I.hok.fresh hT;let y:∀b o,s.heap.get? b=bH o->b≠T:=λb o e=>bt (bQ (Heap.lt_size e) hT);show I.step (λb f=>?_) (λb o _ _ a e _=>k b o a e) (λb o _ _ a e _=>(o.slots,k b o a e)) (λb o _ e n=>by rw[a0f (y b o e)];show n)
  (λb o a e=>(o,k b o a e)) (λb l e=>by rw[a0f (a0B e d)];show e) (λb _ _ e=>by rw[a0f (a0B e d)];show e) (λb B e=>(#[],by rw[a0f (a0B e d),e];simp)) (λm x=>?_) (λb u e=>?_) I.bare
 .let(_,j,_,p,A,t):=hf b f;show(p,j,A,t)
 .let(o,i,w,h,r):=x;show(o,i,w,k _ o (λz=>(hf _ z).2.1 rfl) h,r)
 .by_cases f:b=T
  .subst f;rw[a0e]at e;cases e;show(hz,us,r,ht)
  .rw[a0f f]at e;show (I.hok b u e).stay (λc v a q=>k c v ?_ q) (λc q=>by rw[a0f (a0B q d)];show q) λc l q=>by rw[a0f (a0B q d)];show q
   let z||z:=a
   .simp_all
   .simp_all
end
def SrcV(K:Fg)(H:Hp)(y:Zs)(xs:List V):Prop:=if y.tp=kz then SqT K H y.l xs else SqL K H y.l xs
noncomputable def SrcV.has(I:Inv X pins σ H s)(h:SrcV X.K H kR xs):∃its:List Value,Vals xs its/\kR.Has s.heap its.toArray:=by
 unfold SrcV at h;unfold Zs.Has
 split at h
 .next e=>let(a,r,p,_):=I.tuple h;show(a,r,by rw[if_pos e];show p)
 .next e=>let(a,r,p,_):=I.list h;show(a,r,by rw[if_neg e];show p.isList)
def SrcV.inj(I:Inv X pins σ H s)(h:SrcV X.K H kR xs)(h':SrcV X.K H kR xs'):xs=xs':=by
 unfold SrcV at h h'
 split at h
 .next e=>rw[if_pos e]at h';show I.tuple_inj h h'
 .next e=>rw[if_neg e]at h';show I.list_inj h h'
noncomputable def Itz(K:Fg)(zs:List Zs):It:=
  (λi H=>∀y∈zs,∃xs x,SrcV K H y xs/\xs[i]?=bH x,
   λi H x H'=>∃T vs,H T=gV/\x=.ref T/\H'=upd H T (.tup vs)/\vs.length=zs.length/\∀(j:Nat) y xs,zs[j]?=bH y->SrcV K H y xs->∃v,vs[j]?=bH v/\xs[i]?=bH v,
   λi H=>(∀y∈zs,∃xs,SrcV K H y xs)/\∃y∈zs,∃xs,SrcV K H y xs/\xs.length<=i)
def TnZ(z TI TO:Addr)(zs:List Zs)(i:Nat)(h:Heap):Prop:=IsZip h z TI TO .none/\IsTu h TI (zs.map λy=>Value.ref y.it).toArray/\(∃olds:List Value,olds.length=zs.length/\IsTu h TO olds.toArray)/\∀y∈zs,y.At i h
theorem Vals.of_get:∀{vs:List V}{us:List Value},vs.length=us.length->(∀(i:Nat) v u,vs[i]?=bH v->us[i]?=bH u->RelV v u)->Vals vs us
 |[],[],_,_=>.nil
 |[],_::_,h,_=>by simp at h
 |_::_,[],h,_=>by simp at h
 |v::vs,u::us,h,q=>.cons (q 0 v u rfl rfl) (Vals.of_get ↑h λi v u a b=>q (i+1) v u ↑a ↑b)
theorem b1N{P:gT}{w:World}{K:Fg}{elts:List Expr}{x1}{pos:Pos}{z TI TO:Addr}{zs:List Zs}(D:∀(X:Cx) pins σ H s,X.K=K->Inv X pins σ H s->(∀b∈z::TI::TO::zs.map (·.it),H b=gV)->(∀y∈zs,∃xs,SrcV K H y xs)->ZAp z TI TO zs)(hne:zs≠[])(hsm:zs.length<=1000) :
  Turn P w K (.Tuple elts x1 pos) (Itz K zs) (z::TI::TO::zs.map (·.it)) z (TnZ z TI TO zs) where
 mem:=by simp
 obj:=λi h (t1,t2,(olds,_,t3),t4) b hb=>by
  let rfl||hb:=bf.mp hb
  .show(_,t1,λv q=>by let q':Data.fields _=Data.cell v:=q;cases q')
  let rfl||hb:=bf.mp hb
  .show(_,t2,λv q=>by let q':Data.seq _ _=Data.cell v:=q;cases q')
  let rfl||hb:=bf.mp hb
  .show(_,t3,λv q=>by let q':Data.seq _ _=Data.cell v:=q;cases q')
  let(y,hy,rfl):=bC.mp hb;show (t4 y hy).obj
 keep:=λi h h' (t1,t2,(olds,t0,t3),t4) k=>(k z (by simp) _ t1,k TI (by simp) _ t2,(olds,t0,k TO (by simp) _ t3),λy hy=>(t4 y hy).keep λo q=>k y.it (by simp;show .inr (.inr (.inr (y,hy,rfl)))) o q)
 item:=by
  ext X hP hw hK hc i pins s σ H E I hf st hg;subst hP hw hK;let(t1,t2,(olds,t0,t3),t4):=st;let Da:=D X pins σ H s rfl I (λb hb=>(hf b hb).1) λy hy=>let (xs,_,q,_):=hg y hy;(xs,q)
  let ex:∀y:Zs,∃its:List Value,y∈zs->∃xs,SrcV X.K H y xs/\Vals xs its/\y.Has s.heap its.toArray/\∃x,xs[i]?=bH x:=λy=>by
   by_cases hy:y∈zs
   .let(xs,x,q1,q2):=hg y hy;let(its,r,p):=q1.has I;show(its,λ_=>(xs,q1,r,p,x,q2))
   .show([],λq=>absurd q hy)
  let(arr,harr):=Classical.axiomOfChoice ex;let hT:s.TypeIs (.ref z) "zip":=(_,t1,rfl);unfold pyNext;show gJ (iU (wpAny_callSpecial?_slot (name:=Str.ofString "__next__") hT PySem.F.slot_zip_next (im PySem.F.slot_zip_next hT PySem.F.entry_zip_next ?_ (PySem.F.args_zip_next_1 _))));show b25 (arr:=λy=>(arr y).toArray) (k:=i) (I.ok.hd hc) Da hne hsm t1 t2 t3 t0 t4 (λy hy=>let (_,_,_,p,_):=harr y hy;p) ?_ ?_
  .ext g T us hl hv hT' z2 ti2 to2 tt2 at2 kp;show gK (_,rfl,?_);show wpAny_letOwnedTupleGo_zip (s:={ s with heap:=g }) z2 λg3 z3 b3=>?_;let zl:=Heap.lt_size t1;let hTz:T≠z:=by rw[hT'];show cF zl
   let k3:∀b o,b∉z::TI::TO::zs.map (·.it)->s.heap.get? b=bH o->g3.get? b=bH o:=λb o hb q=>by
    simp only[bf,not_or]at hb;show b3.extBut _ _ hb.1 (kp b o hb.1 hb.2.2.1 (λy hy e=>hb.2.2.2 (by rw[e];show bV hy)) q)
   let exv:∀j:Nat,∃v:V,∀y xs,zs[j]?=bH y->SrcV X.K H y xs->xs[i]?=bH v:=λj=>by
    cases hj:zs[j]? with
    |none=>show(.non,λy xs e=>nomatch e)
    |some y=>
     let(xs,q1,_,_,x,q2):=harr y (bB hj);show(x,λy' xs' e q=>by cases e;rw[q.inj I q1];show q2)
   let(val,hval):=Classical.axiomOfChoice exv;let hlv:((bG zs.length).map val).length=zs.length:=by rw[a9,dX]
   let gv:∀(j:Nat) y,zs[j]?=bH y->((bG zs.length).map val)[j]?=bH (val j):=λj y e=>by
    rw[bo,List.getElem?_range (bh.mp e).1];rfl
   let rv:Vals ((bG zs.length).map val) us:=Vals.of_get (by rw[hlv,hl]) λj v u e1 e2=>by
    let hj:j<zs.length:=by rw[<- hl];show (bh.mp e2).1
    let hz':=bn hj;rw[gv j _ hz']at e1;cases e1;let(xs,q1,q2,_,_):=harr _ (cx hj);let q3:=hval j _ xs hz' q1;let(u',e3,e4):=hv j _ hz';rw[e2]at e3;cases e3;let(u2,e5,e6):=q2.get q3;let e4':(arr zs[j])[i]?=bH u:=↑e4
    rw[e5]at e4';cases e4';show e6
   let tt3:IsTup g3 T us.toArray:=(_,b3.extBut _ _ hTz tt2,rfl,_,rfl);show(.ref T,_,I.turnedT (t':=s.toks) hf k3 (by rw[hT'];show bd _) rv (by rw[hlv];show cf (a0d hsm)) tt3,rfl,(T,_,I.hok.fresh (by rw[hT'];show bd _),rfl,rfl,hlv,λj y xs e q=>(_,gv j y e,hval j y xs e q)),(z3,b3.extBut _ _ Da.a1 ti2,(us,hl,b3.extBut _ _ Da.a2 to2),λy hy=>(at2 y hy).keep λo q=>b3.extBut _ _ (Da.its y hy).1 q),λb hb=>?_);let hbo:∃o,s.heap.get? b=bH o:=by
    let rfl||hb:=bf.mp hb
    .show(_,t1)
    let rfl||hb:=bf.mp hb
    .show(_,t2)
    let rfl||hb:=bf.mp hb
    .show(_,t3)
    let(y,hy,rfl):=bC.mp hb;let(o,q,_):=(t4 y hy).obj;show(o,q)
   let(o,q):=hbo;rw[a0f (by rw[hT'];show bt (Heap.lt_size q))];show (hf b hb).1
  .ext⟨y,hy,q⟩;let(xs,_,r,_,x,q2):=harr y hy;let(u,e,_):=r.get q2;let q':(arr y)[i]?=gV:=↑q
   rw[e]at q';cases q'
 done:=by
  ext X hP hw hK hc i pins s σ H E I hf st hg;subst hP hw hK;let(t1,t2,(olds,t0,t3),t4):=st;let(hall,y0,hy0,xs0,hx0,hl0):=hg;let Da:=D X pins σ H s rfl I (λb hb=>(hf b hb).1) hall;let ex:∀y:Zs,∃its:List Value,y∈zs->∃xs,SrcV X.K H y xs/\Vals xs its/\y.Has s.heap its.toArray:=λy=>by
   by_cases hy:y∈zs
   .let(xs,q1):=hall y hy;let(its,r,p):=q1.has I;show(its,λ_=>(xs,q1,r,p))
   .show([],λq=>absurd q hy)
  let(arr,harr):=Classical.axiomOfChoice ex;let hT:s.TypeIs (.ref z) "zip":=(_,t1,rfl);unfold pyNext;show gJ (iU (wpAny_callSpecial?_slot (name:=Str.ofString "__next__") hT PySem.F.slot_zip_next (im PySem.F.slot_zip_next hT PySem.F.entry_zip_next ?_ (PySem.F.args_zip_next_1 _))));show b25 (arr:=λy=>(arr y).toArray) (k:=i) (I.ok.hd hc) Da hne hsm t1 t2 t3 t0 t4 (λy hy=>let (_,_,_,p):=harr y hy;p) ?_ ?_
  .ext g T us hl hv _ _ _ _ _ _ _;exfalso;let(j,hj):=cb hy0;let(v,_,e):=hv j y0 hj;let(xs,q1,r,_):=harr y0 hy0;let e':(arr y0)[i]?=bH v:=↑e
   let:=(bh.mp e').1
   rw[<- r.length,q1.inj I hx0]at this;cbv
  .ext _ g e kp ⟨o,ho,hcl⟩;show gJ (jk (T:="StopIteration") (b:=kz) (s:={ s with heap:=g }) (o,ho,hcl) isSubtype_stop ?_);show gK (rfl,I.turnedN (t':=s.toks) hf λb o hb q=>?_);simp only[bf,not_or]at hb;show kp b o hb.1 hb.2.2.1 (λy hy e=>hb.2.2.2 (by rw[e];show bV hy)) q
 self:=λ_ _ _ _ _ st h=>wpAny_pyIter_zip st.1 h
noncomputable def mkZs(b:Nat):List (Bool×Addr)->List Zs
 |[]=>[]
 |p::r=>(b,p.1,p.2)::mkZs (b+1) r
theorem a0R:∀(b:Nat)(l:List (Bool×Addr)),(mkZs b l).length=l.length
 |_,[]=>rfl
 |b,_::r=>by simp[mkZs,a0R _ r]
theorem a1Y:∀(b:Nat)(l r:List (Bool×Addr)),mkZs b (l++r)=mkZs b l++mkZs (b+l.length) r
 |_,[],_=>by simp[mkZs]
 |b,p::l,r=>by
  let:=a1Y (b+1) l r
  simp[mkZs,this]
  congr 1
  lia
theorem a07:∀{b:Nat}{l:List (Bool×Addr)}{y:Zs},y∈mkZs b l->@LE.le Nat _ b y.it/\@LT.lt Nat _ y.it (b+l.length)/\(y.tp,y.l,)∈l
 |_,[],_,h=>by simp[mkZs]at h
 |b,p::l,y,h=>by
  let rfl||h:=bf.mp h
  .simp
  .let(d,c,a):=a07 h;show(by lia,by rw[bv,<- dz,gi];show c,.tail _ a)
theorem a31:∀(b:Nat)(l:List (Bool×Addr)),((mkZs b l).map (·.it)).Nodup
 |_,[]=>by simp[mkZs]
 |b,p::l=>by
  change (b::(mkZs _ l).map _).Nodup
  show ci.mpr (λh=>?_,a31 _ l);let(y,a,e):=bC.mp h
  let:=(a07 a).1
  lia
def HasS(p:Bool×Addr)(h:Heap):Prop:=∃xs,Zs.Has (0,p.1,p.2) h xs
def a7R(srcs:List (Bool×Addr))(hsm:srcs.length<=1000) :
  Meets (gU.«zip.__new__» (.type "zip"::srcs.map (λp=>Value.ref p.2),[])) (λ_ R s=>(∀p∈srcs,HasS p s.heap)/\∀(g:Heap),(∀b o,s.heap.get? b=bH o->g.get? b=bH o) ->
   g.objs.size=s.heap.objs.size+srcs.length+3->TnZ (s.heap.objs.size+srcs.length+2) (s.heap.objs.size+srcs.length) (s.heap.objs.size+srcs.length+1) (mkZs s.heap.objs.size srcs) 0 g->R (.ok (.ret (.ref (s.heap.objs.size+srcs.length+2)))) { s with heap:=g }):=
 .of_wp λX w A R s h=>by
  let(Y,h):=h;unfold gU.«zip.__new__»;let S:gU.SmallTypes.newClass "zip" (.type "zip"::srcs.map (λp=>Value.ref p.2),[])=pure (.type "zip",srcs.map (λp=>Value.ref p.2),):=by
   unfold gU.SmallTypes.newClass;simp only[isType,sub_zip,pure_bind,gj,dy,if_false]
  show gJ (jX S ?_);dsimp only;rw[if_neg (by simp)];show gJ ?_;unfold gU.SmallTypes.iterAll;show gJ ?_;show kL _ (λk t G=>∃(f e:List (Bool×Addr))(g:Heap),srcs=f++e/\k=e.map (λp=>Value.ref p.2)/\t=((mkZs s.heap.objs.size f).map λy=>Value.ref y.it).toArray/\G={ s with heap:=g }/\g.objs.size=s.heap.objs.size+f.length /\
   (∀b o,s.heap.get? b=bH o->g.get? b=bH o)/\∀y∈mkZs s.heap.objs.size f,y.At 0 g) _ ?_ ?_ _ _ ?_
  .ext x k t G ⟨f,e,g,n,z,rfl,rfl,j,m,u⟩;cases e with
   |nil=>simp at z
   |cons p e=>
    rw[bx]at z;cases z;let(B,l):=p;let(D,L):=Y (B,l,) (by rw[n];simp);show gJ (ib ?_);let F:∀E:Obj,Zs.At (g.objs.size,B,l) 0 (g.push E)->∃(dn' td':List (Bool×Addr))(g':Heap),srcs=dn'++td'/\e.map (λp=>Value.ref p.2)=td'.map (λp=>Value.ref p.2)/\(((mkZs s.heap.objs.size f).map λy=>Value.ref y.it).toArray.push (.ref g.objs.size))=((mkZs s.heap.objs.size dn').map λy=>Value.ref y.it).toArray /\
      ({ s with heap:=g.push E }:Shared)={ s with heap:=g' }/\g'.objs.size=s.heap.objs.size+dn'.length/\(∀b o,s.heap.get? b=bH o->g'.get? b=bH o)/\∀y∈mkZs s.heap.objs.size dn',y.At 0 g':=λE ha=>by
     show(f++[(B,l,)],e,g.push E,by rw[n];simp,rfl,?_,rfl,by rw[Heap.size_push,j];simp;lia,λb o q=>Heap.get?_push_of_some _ (m b o q),λy c=>?_)
     .rw[a1Y];simp[mkZs,j]
     .rw[a1Y]at c;let c||c:=be.mp c
      .show (u y c).keep λo q=>Heap.get?_push_of_some _ q
      .simp[mkZs]at c;subst c;rw[<- j];show ha
    cases B with
    |true=>
     let v:g.IsTuple l D:=let (o,ho,r):=(show s.heap.IsTuple l D from L);(o,m _ _ ho,r)
     show wpAny_pyIter_tuple v (gK (F _ (_,Heap.get?_push_size _ rfl,rfl,rfl)))
    |false=>
     let v:g.IsList l D:=let (o,ho,r):=(show s.heap.IsList l D from L);(o,m _ _ ho,r)
     show jx v (gK (F _ (_,Heap.get?_push_size _ rfl,rfl,rfl)))
  .ext t G ⟨f,e,g,n,z,rfl,rfl,j,m,u⟩;let M:e=[]:=by
    cases e with
    |nil=>rfl
    |cons _ _=>simp at z
   subst M;rw[bM]at n;subst n;show gK ?_;show gJ (jE ?_ (by change ((mkZs s.heap.objs.size srcs).map λy=>Value.ref y.it).toArray.toList.length<=gN;simp[a0R];show cf (a0d hsm)));show gJ (jE ?_ (by rw[a9];change ((mkZs s.heap.objs.size srcs).map λy=>Value.ref y.it).toArray.toList.length<=gN;simp[a0R];show cf (a0d hsm)));show gJ ?_;unfold gU.SmallTypes.newRecord;show iK ?_ (by simp[sizeOk,gU.SmallTypes.ownedTupleFields,ie]);let T:∀(a d i:Obj),a={ cls:=.type "tuple",data:=.seq ((mkZs s.heap.objs.size srcs).map λy=>Value.ref y.it).toArray }->d={ cls:=.type "tuple",data:=.seq (((mkZs s.heap.objs.size srcs).map λ_=>Value.none)).toArray } ->
     i={ cls:=.type "zip",data:=.fields #[.none,.bool kQ,.bool kQ,.ref g.objs.size,.ref (g.push a).objs.size] }->R (.ok (.ret (.ref ((g.push a).push d).objs.size))) { s with heap:=((g.push a).push d).push i }:=λa d i I J C=>by
    let U:(g.push a).objs.size=s.heap.objs.size+srcs.length+1:=by rw[Heap.size_push,j]
    let V:((g.push a).push d).objs.size=s.heap.objs.size+srcs.length+2:=by rw[Heap.size_push,U]
    let N:(((g.push a).push d).push i).get? g.objs.size=bH a:=Heap.get?_push_of_some _ (Heap.get?_push_of_some _ (Heap.get?_push_size _ (by rw[I];rfl)));let Q:(((g.push a).push d).push i).get? (g.push a).objs.size=bH d:=Heap.get?_push_of_some _ (Heap.get?_push_size _ (by rw[J];rfl));let H:(((g.push a).push d).push i).get? ((g.push a).push d).objs.size=bH i:=Heap.get?_push_size _ (by rw[C];rfl);let W:∀b o,g.get? b=bH o->(((g.push a).push d).push i).get? b=bH o:=λb o q=>Heap.get?_push_of_some _ (Heap.get?_push_of_some _ (Heap.get?_push_of_some _ q));rw[U]at Q C;rw[V]at H ⊢;rw[j]at N C;show h _ (λb o q=>W b o (m b o q)) (by rw[Heap.size_push,V]) (H.trans (congrArg bH C),N.trans (congrArg bH I),((mkZs s.heap.objs.size srcs).map λ_=>Value.none,by rw[a9],Q.trans (congrArg bH J)),λy c=>(u y c).keep λo q=>W _ o q)
   show gK (_,rfl,T _ _ _ (by simp) (by simp) rfl)
  .show([],srcs,s.heap,rfl,rfl,by simp[mkZs],rfl,rfl,λ_ _ q=>q,λy c=>by simp[mkZs]at c)
def b4s(a b c d:Value):checkTypeCall "zip" ([a,b,c,d],[])=pure ():=by kernel_rfl
def b4t(a b c d:Value):jB "zip.__new__" ([.type "zip",a,b,c,d],[])=pure ():=by kernel_rfl
def b1O(o a b c d:Value):argsOk "object.__init__" ([o,a,b,c,d],[]):=by
 unfold argsOk;rw[signature?_of (n:=['_','_','t','i','n','i','_','_']) (by kernel_rfl) PySem.F.owner_object]
 kernel_rfl
def a3q(us:List Value):Prop:=checkTypeCall "zip" (us,[])=pure ()/\jB "zip.__new__" (.type "zip"::us,[])=pure ()/\∀o,argsOk "object.__init__" (o::us,[])
def b7E(a b:Value):a3q [a,b]:=(PySem.F.typeCall_zip_2 a b,PySem.F.newCall_zip_2 a b,λo=>PySem.F.args_object_init_3 o a b)
def b7F(a b c d:Value):a3q [a,b,c,d]:=(b4s a b c d,b4t a b c d,λo=>b1O o a b c d)
def a9G(hk:a3q (srcs.map λp=>Value.ref p.2))(hsm:srcs.length<=1000)(hs:∀p∈srcs,HasS p s.heap)
  (h:∀g:Heap,(∀b o,s.heap.get? b=bH o->g.get? b=bH o)->TnZ (s.heap.objs.size+srcs.length+2) (s.heap.objs.size+srcs.length) (s.heap.objs.size+srcs.length+1) (mkZs s.heap.objs.size srcs) 0 g->Q (.ref (s.heap.objs.size+srcs.length+2)) { s with heap:=g }) :
  wpAny (model P w) A (call (.type "zip") (srcs.map λp=>Value.ref p.2)) Q E s:=
 callType_new PySem.F.called_zip (by decide) hk.1 hk.2.1 hk.2.2 PySem.F.entry_zip_new (a7R srcs hsm) (hs,λg c _ a=>((_,a.1,rfl),h g c a))
def SrcP(K:Fg)(H:Hp)(p:Bool×Addr)(xs:List V):Prop:=if p.1=kz then SqT K H p.2 xs else SqL K H p.2 xs
noncomputable def ItzP(K:Fg)(ps:List (Bool×Addr)):It:=
  (λi H=>∀y∈ps,∃xs x,SrcP K H y xs/\xs[i]?=bH x,
   λi H x H'=>∃T vs,H T=gV/\x=.ref T/\H'=upd H T (.tup vs)/\vs.length=ps.length/\∀(j:Nat) y xs,ps[j]?=bH y->SrcP K H y xs->∃v,vs[j]?=bH v/\xs[i]?=bH v,
   λi H=>(∀y∈ps,∃xs,SrcP K H y xs)/\∃y∈ps,∃xs,SrcP K H y xs/\xs.length<=i)
theorem a6X:∀(b:Nat)(l:List (Bool×Addr)),(mkZs b l).map (λy=>(y.tp,y.l,))=l
 |_,[]=>rfl
 |b,p::r=>by simp[mkZs,a6X _ r]
def a6Y{j:Nat}(h:l[j]?=bH p):∃y,(mkZs b l)[j]?=bH y/\(y.tp,y.l,)=p:=by
 let:=congrArg (·[j]?) (a6X b l)
 simp only[bo,h]at this;cases e:(mkZs b l)[j]? with
 |none=>rw[e]at this;cases this
 |some y=>rw[e]at this;show(y,rfl,↑this)
theorem Turn.imp{P:gT}{w:World}{K:Fg}{tg:Expr}{J J':It}{fp:List Addr}{it:Addr}{tn:Nat->Heap->Prop}(t:Turn P w K tg J fp it tn)(g:∀i H,J'.go i H->J.go i H)(y:∀i H x H',J'.go i H->J.yld i H x H'->J'.yld i H x H')(s:∀i H,J'.stop i H->J.stop i H):Turn P w K tg J' fp it tn where
 mem:=t.mem
 obj:=t.obj
 keep:=t.keep
 item:=λX h1 h2 h3 h4 i pins s σ H E I hf st hg=>hB (t.item X h1 h2 h3 h4 i pins s σ H E I hf st (g i H hg)) (λr s1 (u,e,q)=>(u,e,hB q (λ_ s2 (x,H',a,b,c,d,e)=>(x,H',a,b,y i H x H' hg c,d,e)) λ_ _ z=>z)) λ_ _ z=>z
 done:=λX h1 h2 h3 h4 i pins s' σ H E I hf st hg=>t.done X h1 h2 h3 h4 i pins s' σ H E I hf st (s i H hg)
 self:=t.self
def a2c(h:@Ne Nat a b):a≠b:=h
def b92(K:Fg)(n:Nat)(ta:TA):TI:=fun σ H R=>ta σ H λvs H1=>∃ps:List (Bool×Addr),vs=ps.map (λp=>V.ref p.2)/\ps≠[]/\ps.length=n/\(∀p∈ps,∃xs,SrcP K H1 p xs)/\R (ItzP K ps) H1
theorem a9H:∀{ps:List (Bool×Addr)}{us:List Value},Vals (ps.map λp=>V.ref p.2) us->us=ps.map λp=>Value.ref p.2
 |[],us,r=>by rw[bN]at r;cases r;rfl
 |p::ps,us,r=>by
  cases r with
  |cons r1 r2=>rw[a9H r2,r1];rfl
def b7G(hg:Gl X "zip")(hm:X.mg "zip"=gV)(hok:∀us:List Value,us.length=n->a3q us)(hn:n<=1000)(ha:PA X (e::es) ta)
  (he:gQ (e::es) X.env=(kQ,eval e X.env,)::gQ es X.env) (hpl:(backTo pos (gQ es X.env)).any (·.1)=kQ):PI X (.Tuple elts x1 tpos) (.Call (.Name "zip" p) (e::es) [] pos) (b92 X.K n ta):=by
 ext pins s σ H R I h;show Call_ (a3P I hg hm (show ij "zip"=bH (.type "zip") by decide +kernel) (PyProof.Rows.callWith_type1 (thn (ha pos pins s σ H _ I h) λus c (vs,H1,r,r1,q1)=>?_) he hpl));let(f,rfl,hne,hl,hsrc,q):=q1;let hsm:f.length<=1000:=by lia
 let e:=a9H r1;subst e;let hnz:mkZs c.heap.objs.size f≠[]:=λz=>hne (cN.mp (by rw[<- a0R c.heap.objs.size f,z];rfl));show a9G (hok _ (by rw[a9,hl])) hsm (λp hp=>?_) λg kp tn=>?_
 .let(t,d):=hsrc p hp;let(its,_,h):=SrcV.has (kR:=(0,p.1,p.2)) r d;show(_,h)
 .show wpAny_pyIter_zip (s:={ c with heap:=g }) tn.1 ?_;let I2:Inv X pins σ H1 { c with heap:=g }:=r.kept (t':=c.toks) kp;show(_,_,_,_,H1,rfl,I2,(b1N (K:=X.K) (zs:=mkZs c.heap.objs.size f) ?_ hnz (by rw[a0R];show hsm)).imp ?_ ?_ ?_,tn,λb k=>?_,q)
  .intro X' pins' σ' H' s' hK I' hfp hall;let hl':∀y∈mkZs c.heap.objs.size f,∀b,H' b=gV->b∈(c.heap.objs.size+f.length+2)::(c.heap.objs.size+f.length+1)::(mkZs c.heap.objs.size f).map (·.it)->y.l≠b:=by
    ext y a b k hm z;let(hb1,hb2,hb3):=a07 a;let(t,d):=hsrc _ hb3;let(its,_,hh):=SrcV.has (kR:=y) r d
    let:@LT.lt Nat _ y.l c.heap.objs.size:=by
     unfold Zs.Has at hh
     split at hh<;>(let(o,ho,_):=hh;show Heap.lt_size ho)
    let e||hm:=bf.mp hm
    .show absurd (z.trans e) (a2c (by lia))
    let e||hm:=bf.mp hm
    .show absurd (z.trans e) (a2c (by lia))
    let(x,d,e):=bC.mp hm
    let:=(a07 d).1
    show absurd (z.trans e.symm) (a2c (by lia))
   show(a31 _ _,a2c (by lia),a2c (by lia),a2c (by lia),λy a=>?_,λy a=>?_)
   .let:=a07 a
    show(a2c (by lia),a2c (by lia),a2c (by lia))
   .show(hl' y a _ (hfp _ (by simp)) (by simp),hl' y a _ (hfp _ (by simp)) (by simp),λx d=>hl' y a _ (hfp _ (by simp;show .inr (.inr (.inr (x,d,rfl))))) (by simp;show .inr (.inr (x,d,rfl))))
  .ext i H' hgo y a;show hgo (y.tp,y.l,) (a07 a).2.2
  .ext i H' x H2 _ ⟨T,vs,a1,a2,a3,a4,a5⟩;show(T,vs,a1,a2,a3,by rw[a4,a0R],λj p t hp d=>?_);let(y,a,e):=a6Y (b:=c.heap.objs.size) hp;subst e;show a5 j y t a d
  .ext i H' ⟨a1,p,hp,t,d,hl⟩;let(j,hj):=cb hp;let(y,a,e):=a6Y (b:=c.heap.objs.size) hj;subst e;show(λy a=>a1 (y.tp,y.l,) (a07 a).2.2,y,bB a,t,d,hl)
  .let hb':@LE.le Nat _ c.heap.objs.size b:=by
    let rfl||k:=bf.mp k
    .lia
    let rfl||k:=bf.mp k
    .lia
    let rfl||k:=bf.mp k
    .lia
    let(x,d,rfl):=bC.mp k;show (a07 d).1
   show r.fpOk hb' (r.hok.fresh hb')
noncomputable def Itv(K:Fg)(a:Addr)(n:Nat):It:=
 (λi H=>i<n/\∃xs,SqL K H a xs/\xs.length=n,λi H x H'=>H'=H/\∀xs,SqL K H a xs->xs[n-1-i]?=bH x,λi _=>i=n)
theorem b1P{P:gT}{w:World}{K:Fg}{tg:Expr}(a it:Addr)(n:Nat):Turn P w K tg (Itv K a n) [it] it (λi h=>i<=n/\h.IsRevIter it a ((n:Int)-1-(i:Nat))) where
 mem:=by simp
 obj:=λi h st b hb=>by
  let e:b=it:=↑hb
  subst e;let(o,e,c,d):=st.2;show(o,e,λv z=>by rw[d]at z;cases z)
 keep:=λi h h' st k=>(st.1,st.2.at λo e=>k it (by simp) o e)
 item:=by
  ext X hP hw hK hc i pins s σ H E I hf st hg;subst hP hw hK;let(hi,xs,hq,hx):=hg;let(its,rv,p,hz):=I.list hq;let hx':=bn (show n-1-i<xs.length by cbv);let(u,hu,ru):=rv.get hx';let(f0,f1,f2,f3,f4,f5):=hf it (by simp);let st':=st.2;let e1:(n:Int)-1-(i:Nat)=((n-1-i:Nat):Int):=by cbv
  rw[e1]at st';show wpAny_pyNext_rev_item st' p.isList (x:=u) ↑hu λh' s2 sb=>?_;let I1:Inv X pins σ H { s with heap:=h' }:=I.turned (t':=s.toks) (λb o hb e=>(sb.2 b hb).trans e) f0 f1 f3 f4 f5;let(o,e,c,d):=id s2;show(u,rfl,a5J (s:={ s with heap:=h' }) e c d (by decide) (xs[n-1-i],H,I1,ru,(rfl,λys hy=>by rw[I.list_inj hy hq];show hx'),(by cbv,?_),λb hb=>(hf b hb).1));let e2:(n:Int)-1-((i+1:Nat):Int)=((n-1-i:Nat):Int)-1:=by cbv
  rw[e2];show s2
 done:=by
  ext X hP hw hK hc i pins s σ H E I hf st hg;subst hP hw hK;let(f0,f1,f2,f3,f4,f5):=hf it (by simp);let hi:i=n:=hg;let st':=st.2;let e1:(n:Int)-1-(i:Nat)=-1:=by cbv
  rw[e1]at st';show wpAny_pyNext_rev_end (I.ok.hd hc) st' λh' eb=>(rfl,I.turned (t':=s.toks) (λb o hb e=>eb b o hb e) f0 f1 f3 f4 f5)
 self:=λ_ _ _ _ _ st h=>wpAny_pyIter_revIter st.2 h
def b93(K:Fg)(ta:TA):TI:=fun σ H R=>ta σ H λvs H1=>∃a xs,vs=[.ref a]/\SqL K H1 a xs/\R (Itv K a xs.length) H1
def b7H(hg:Gl X "reversed")(hm:X.mg "reversed"=gV)(ha:PA X [e] ta)
  (he:gQ [e] X.env=(kQ,eval e X.env,)::gQ [] X.env):PI X tg (.Call (.Name "reversed" p) [e] [] pos) (b93 X.K ta):=by
 ext i s σ H R I h;show Call_ (a3P I hg hm boot_reversed (PyProof.Rows.callWith_type1 (thn (ha pos i s σ H _ I h) λy c (A,v,f,k,l)=>?_) he rfl));let(a,d,rfl,n,q):=l;let(u,rfl,r):=a2v k;cases r;let(j,m,w,z):=f.list n;let x:j.toArray.size=d.length:=by rw[bW,m.length]
 show call_reversed_list w.isList ?_;rw[x];let g:(c.heap.push (revObj a ((d.length)-1))).IsRevIter c.heap.objs.size a ((d.length)-1-0):=(_,Heap.get?_push_size _ rfl,rfl,by simp[revObj]);show wpAny_pyIter_revIter g (c.heap.objs.size,[c.heap.objs.size],_,_,v,rfl,f.kept λb o e=>Heap.get?_push_of_some _ e,b1P a _ d.length,(bR _,g),λb t=>?_,q);let e:b=c.heap.objs.size:=by simp_all
 subst e;show f.fpOk (bd _) (f.hok.fresh (bd _))
def a7S(I:Inv X pins σ H s)(rx:RelV x u)(ty:TyOf X.K H x t)(h2:∀C dx fs a,x=.ref a->H a≠bH (.ins C dx fs)):∃F:Heap->Prop,PySem.W.KitX X.K u t F/\F s.heap/\u≠.builtin "__main__.__loader__#opaque":=by
 cases ty with
 |non=>cases (rx);show(_,PySem.W.kitx_none,True.intro,λz=>nomatch z)
 |bl y=>cases (rx);show(_,PySem.W.kitx_bool,True.intro,λz=>nomatch z)
 |int i=>let(t,q):=(rx);cases q;show(_,PySem.W.kitx_int,True.intro,λz=>nomatch z)
 |str y=>let(t,q):=(rx);cases q;show(_,PySem.W.kitx_str,True.intro,λz=>nomatch z)
 |flt y=>let(t,q):=(rx);cases q;show(_,PySem.W.kitx_float,True.intro,λz=>nomatch z)
 | @lst a d ea=>
  cases (rx);let(_,_,n,_,b):=(I.hok a _ ea);show(_,PySem.W.kitx_list,(_,b,rfl),λz=>nomatch z)
 | @frz a ob d ea=>
  cases (rx);let(_,_,_,n,_,b):=(I.hok a _ ea);show(_,PySem.W.kitx_list,(_,b,rfl),λz=>nomatch z)
 | @tup a d ea=>
  cases (rx);let(_,_,_,p):=(I.hok a _ ea);let(o,b,h2,_):=p;show(_,PySem.W.kitx_tuple,(o,b,h2),λz=>nomatch z)
 | @dK a kvs ea=>
  cases (rx);let(_,_,vs,_,p):=(I.hok a _ ea);let(o,e,f,b,h2,_):=p;show(_,PySem.W.kitx_dict,(o,b,h2.1),λz=>nomatch z)
 | @dT a kvs ea=>
  cases (rx);let(_,_,d,_,o,e,f,b,h2,_):=(I.hok a _ ea);show(_,PySem.W.kitx_dict,(o,b,h2.1),λz=>nomatch z)
 | @ins a C dx fs ea cl ha hn htk hm=>show absurd ea (h2 C dx fs a rfl)
theorem b26:∀{Ts:List String}{us:List Value},Vals (Ts.map V.ty) us->us=Ts.map Value.type
 |[],us,r=>by rw[bN]at r;cases r;rfl
 |T::Ts,us,r=>by
  cases r with
  |cons r1 r2=>rw[b26 r2,r1];rfl
def b94(K:Fg):List V->Hp->VK->Prop:=λxs H Q=>∃(x:V)(p:Addr)(Ts:List String)(t:Value)(b:Bool),xs=[x,.ref p]/\SqT K H p (Ts.map V.ty)/\TyOf K H x t/\(∀C dx fs a,x=.ref a->H a≠bH (.ins C dx fs))/\PySem.W.kitAny K t (Ts.map Value.type)=bH b/\Q (.bl b) H
def a9I:CallR X (.builtin "isinstance") (b94 X.K):=by
 ext l s σ H J L Q I r h;let(x,p,Ts,t,b,rfl,m,A,y,e,q):=h;let(u,f,rfl,o,k):=a5K r;cases (k);let(B,a,c,_):=I.tuple m;let j:=b26 a;subst j;let(F,Z,z,g):=a7S I o A y;let((C,G,E,D),i,w,n,v):=c;cases w;cases v;show PySem.W.kia_tup Z I.kIn z i e g λd=>(.bl b,H,I.tok d,rfl,q)
noncomputable def a9J(x y:Str):Int:=match gU.Str.occurrences x y 0 x.length 1 with
 |i::_=>(i:Int)
 |[]=>-1
def b4u:MtR X "str.find" (λx vs H Q=>∃(z y:Str),x=.str z/\vs=[.str y]/\Q (.int (a9J z y)) H):=by
 ext c s σ H x f v g Q I b d h;let(z,y,rfl,rfl,q):=h;let(t,rfl):=b;let(u,rfl,e):=a2v d;let(a,rfl):=e;show call_gives PySem.F.slot_str_find (je _ _ _) PySem.F.entry_str_find (PySem.F.args_str_find_2 _ _) (gives_str_find z y t a) (.int _,H,I.tok _,(_,rfl),q)
section
noncomputable def kitA(n:String):List String->Option Bool
 |[]=>bH kQ
 |T::r=>match kit0 n T with
  |some kz=>bH kz
  |some kQ=>kitA n r
  |none=>gV
theorem a9K{K:Fg}:∀Ts:List String,PySem.W.kitAny K (.type n) (Ts.map Value.type)=kitA n Ts
 |[]=>rfl
 |T::r=>by
  change (match PySem.W.kitOne K _ _ with |some kz=>bH kz |some kQ=>PySem.W.kitAny K _ _ |none=>gV)=_
  rw[b2X,a9K r];rfl
def b4v:List Z->Hq->K3->Prop:=λxs G R=>match xs with
 |[x,.tup ts]=>∃n Ts b,ts=Ts.map Z.ty/\tyN G x=bH n/\kitA n Ts=bH b/\R (.bl b) G
 |_=>False
theorem a6Z{K:Fg}:∀{bs:List String}{vs:List V},Reps K H (bs.map Z.ty) vs->vs=bs.map V.ty
 |[],vs,h=>by rw[bN,a0n]at h;subst h;rfl
 |n::ns,vs,h=>by
  let(v,r,rfl,a,b):=h;rw[a,a6Z b];rfl
def b7I{K:Fg}{G:Hq}{H:Hp}{x:Z}{v:V}{n:String}(h:tyN G x=bH n)(r:Rep K H x v)(hg:RH K G H):∀C dx fs a,v=.ref a->H a≠bH (.ins C dx fs):=by
 ext C dx fs a rfl e;cases x with
 |ref p=>
  rw[a0s]at r;cases r;cases q:G a with
  |none=>simp[tyN,q]at h
  |some o=>
   cases o with
   |lst ws=>let(vs,e',_):=hg _ _ q;rw[e]at e';cases e'
   |dK kvs=>let(vs,e',_):=hg _ _ q;rw[e]at e';cases e'
   |ins C dx fs=>simp[tyN,q]at h
   |dF kvs=>simp[tyN,q]at h
   |dT ks=>simp[tyN,q]at h
   |tab _ _=>simp[tyN,q]at h
 |tup ws=>rw[a03]at r;let(b,vs,q,e',_):=r;cases q;rw[e]at e';cases e'
 |non=>rw[a0z]at r;cases r
 |bl _=>rw[a0t]at r;cases r
 |int _=>rw[a0l]at r;cases r
 |str _=>rw[a0u]at r;cases r
 |ty _=>rw[a6G]at r;cases r
 |scr _ _=>cases h
def b27:a1R X (.builtin "isinstance") b4v:=a1j a9I λq H Q i=>i.un λg G R j a h l=>by
 match g,h with
 |[x,.tup ts],h=>
  let(v,o,rfl,r,d):=j.two;let(n,Ts,b,rfl,e,k,h):=h;let(p,m,rfl,f,c):=d
  let:=a6Z c
  subst this;show(v,p,Ts,.type n,b,rfl,SqT.of f,a6K e r a,b7I e r a,by rw[a9K];show k,l _ _ _ _ h (by rw[a0t]) a (.refl _ _))
def b7J(e:tyN G x=bH n)(k:kitA n Ts=bH b)(h:R (.bl b) G):b4v [x,.tup (Ts.map Z.ty)] G R:=(n,Ts,b,rfl,e,k,h)
def b7K:Z->List Z->Hq->K3->Prop:=λx xs G R=>match x,xs with
 |.str z,[.str y]=>R (.int (a9J z y)) G
 |_,_=>False
def b7L:MtQ X "str.find" b7K:=a7E b4u λx g H Q e=>e.un λw c G R a b d h f=>by
 match w,c,h with
 |.str z,[.str y],h=>
  let(v,rfl,r):=b.one;show(z,y,a,by rw[r],f _ _ _ _ h (by rw[a0l]) d (.refl _ _))
def b7M(h:R (.int (a9J z y)) G):b7K (.str z) [.str y] G R:=h
noncomputable def putZ(kvs:List (Key×Z))(k:Key)(v:Z):List (Key×Z):=
 if (kvs.any λkv=>decide (kv.1=k))=kz then kvs.map (λkv=>if kv.1=k then (kv.1,v,) else kv) else kvs++[(k,v,)]
theorem a9L{α β:Type}:∀{kvs:List (Key×α)}{us:List (Key×β)},us.map (·.1)=kvs.map (·.1)->(us.any λkv=>decide (kv.1=k))=kvs.any λkv=>decide (kv.1=k)
 |[],[],_=>rfl
 |[],_::_,h=>by simp at h
 |_::_,[],h=>by simp at h
 |p::ps,q::qs,h=>by
  rw[bx,bx]at h;injection h with h1 h2
  rw[cW,cW,a9L h2,h1]
def a4s{K:Fg}(rv:Rep K H kR v)(hk:us.map (·.1)=kvs.map (·.1))(hr:Reps K H (kvs.map (·.2)) (us.map (·.2))) :
  (putK us k v).map (·.1)=(putZ kvs k kR).map (·.1)/\Reps K H ((putZ kvs k kR).map (·.2)) ((putK us k v).map (·.2)):=by
 unfold putK putZ;rw[a9L hk]
 split
 .let l:∀{d:List _}{f:List _},f.map (·.1)=d.map (·.1)->Reps K H (d.map (·.2)) (f.map (·.2))->((f.map λc=>if c.1=k then (c.1,v,) else c).map (·.1)=(d.map λc=>if c.1=k then (c.1,kR,) else c).map (·.1)/\Reps K H ((d.map λc=>if c.1=k then (c.1,kR,) else c).map (·.2)) ((f.map λc=>if c.1=k then (c.1,v,) else c).map (·.2))):=by
   ext d
   induction d with
   |nil=>ext f g h;cases f with
    |nil=>show(rfl,.nil)
    |cons _ _=>simp at g
   |cons p ps ih=>
    ext f g h;cases f with
    |nil=>simp at g
    |cons q qs=>
     rw[bx,bx]at g h;injection g with h3 h4
     let(a,b,e,j,m):=h;injection e with e1 e2
     subst e1 e2;let i:=ih h4 m;simp only[bx]
     by_cases e:p.1=k
     .rw[if_pos e,if_pos (h3.trans e)];show(by rw[i.1,h3],.cons rv i.2)
     .rw[if_neg e,if_neg (λz=>e (h3.symm.trans z))];show(by rw[i.1,h3],.cons j i.2)
  show l hk hr
 .rw[bp,bp,hk,bp,bp];show(rfl,hr.append (.cons rv .nil))
noncomputable def keyZ:Z->Option Key
 |.non=>bH (.inl gV)
 |.int i=>bH (.inl (bH i))
 |.str x=>bH (.inr x)
 |_=>gV
def b7N:Z3:=λo i v G R=>match o with
 |.ref p=>∃kvs k,G p=bH (.dK kvs)/\keyZ i=bH k/\kvs.length<gN/\R (put G p (.dK (putZ kvs k v)))
 |_=>False
def a29{K:Fg}(h:keyZ i=bH k)(r:Rep K H i v):v=kV k:=by
 cases i with
 |non=>rw[a0z]at r;cases h;show r
 |int j=>rw[a0l]at r;cases h;show r
 |str j=>rw[a0u]at r;cases h;show r
 |_=>cases h
def b1Q(hu:X.A.units+66<cLine):PSet X (λo i v H Q=>∃a H',o=.ref a/\DPut H a i v H'/\Q H'):=by
 ext e s σ H o i v j l u Q I d f b h;let(a,H',rfl,g,q):=h;cases (d);show a8N (by lia) I g f b λk c=>(H',c,q)
def a9M{α β:Type}{kvs:List (Key×α)}{us:List (Key×β)}(h:us.map (·.1)=kvs.map (·.1)):us.length=kvs.length:=by
 rw[<- a9,h,a9]
def a9N(hu:X.A.units+66<cLine):SetQ X b7N:=b2T (b1Q hu) λo i v H Q r=>r.un λa b w G R g q f d h u=>by
 cases a with
 |ref p=>
  let(j,k,e,n,t,h):=h;let(x,c,m,s):=d _ _ e;let l:=a4s (k:=k) f m s;show(p,_,g,?_,u _ _ h (d.set (.dK c) (_,a0e,l.1,l.2.mono (.dK c))) (.dK c));rw[a29 n q];show DPut.k c (a9M m▸t)
 |_=>show bj h
def a9O(e:G p=bH (.dK kvs))(a:keyZ i=bH k)(z:kvs.length<gN)(h:Rg (put G p (.dK (putZ kvs k kR)))):b7N (.ref p) i kR G Rg:=(kvs,k,e,a,z,h)
def a9P:List Z->Hq->K3->Prop:=λxs G R=>match xs with
 |[.ref p]=>∃ns:List Int,(G p=bH (.lst (ns.map Z.int))\/∃kvs,G p=bH (.dK kvs)/\kvs.map (·.1)=ns.map λi=>Sum.inl (bH i))/\ns.length<=1000/\∀(t:Addr)(ms:List Int),G t=gV->ms.Perm ns->ms.Pairwise (·<=·)->R (.ref t) (put G t (.lst (ms.map Z.int)))
 |_=>False
def b1R(hc:X.calm=kz):a1R X (.builtin "sorted") a9P:=a1j (a55 hc) λw H Q n=>n.un λm G R o b h q=>by
 match m,h with
 |[.ref p],h=>
  let(v,rfl,r):=o.one;let(l,a,e,h):=h;show(p,l,by rw[r],?_,e,λt g c i j=>q _ _ _ _ (h t g (b.out c) i j) (by rw[a0s]) (b.set (.new c) (a1b (a15 _) (.new c))) (.new c));let a||(kvs,a,hk):=a
  .let(u,d,f):=b _ _ a
   let:=a4W f
   subst this;show .inl (SqL.of d)
  .let(k,d,s,_):=b _ _ a;show .inr (k,d,s.trans hk)
def a9Q(e:G p=bH (.dK kvs))(k:kvs.map (·.1)=ns.map λi=>Sum.inl (bH i))(z:ns.length<=1000)(h:∀(t:Addr)(ms:List Int),G t=gV->ms.Perm ns->ms.Pairwise (·<=·)->R (.ref t) (put G t (.lst (ms.map Z.int)))):a9P [.ref p] G R:=(ns,.inr (kvs,e,k),z,h)
variable{tg:Expr}{t:A3}
def iRev(t:A3):I3:=fun σ G R=>t σ G λws G1=>∃a xs,ws=[.ref a]/\G1 a=bH (.lst xs)/\R xs.reverse (λG=>G a=bH (.lst xs)) G1
def a9R{K:Fg}:a2V K ws.reverse (λG=>G a=bH (.lst ws)) (Itv K a ws.length) H0:=λi G H g t l m=>by
 let(f,e,d):=g a _ l;rw[gk]at m ⊢;show(λh=>h,λw c=>?_);let b:i<ws.length:=by
  let:=(bh.mp c).1
  rwa [gk]at this
 rw[List.getElem?_reverse b]at c;let(v,j,k):=d.get c;show((b,f,SqL.of e,d.length.symm),?_);ext x n ⟨rfl,y⟩
 let:=y f (SqL.of e)
 rw[j]at this;cases this;show(k,g,.refl _ _)
def a3r(hg:Gl X "reversed")(hm:X.mg "reversed"=gV)(ha:QA X [e] t)
  (he:gQ [e] X.env=(kQ,eval e X.env,)::gQ [] X.env:=by rfl):QI X tg (.Call (.Name "reversed" p) [e] [] pos) (iRev t):=a40 (b7H hg hm ha.p he) fun τ H R2 i=>i.un fun σ G R k hg h o=>by
 show(σ,G,_,k,hg,h,λws G1 vs H1 (a,xs,e,f,l) g b j=>?_);subst e;let(v,rfl,r):=g.one;subst r;let(m,n,d):=b a _ f;show(a,m,rfl,SqL.of n,by rw[<- d.length];show o _ _ _ _ _ l a9R b j)
noncomputable def srcZ(G:Hq):Z->Option (List Z)
 |.ref a=>match G a with
  |some (.lst ws)=>bH ws
  |_=>gV
 |.tup ws=>bH ws
 |_=>gV
noncomputable def zipZ:List (List Z)->List Z
 |[]=>[]
 |[xs]=>xs.map λx=>.tup [x]
 |xs::rest=>List.zipWith (λx r=>match r with |.tup ws=>.tup (x::ws) |r=>r) xs (zipZ rest)
def iZip(n:Nat)(t:A3):I3:=fun σ G R=>t σ G λws G1=>∃xss:List (List Z),ws.map (srcZ G1)=xss.map bH/\xss≠[]/\ws.length=n/\R (zipZ xss) (λG=>ws.map (srcZ G)=xss.map bH) G1
theorem a08:∀(xss:List (List Z)),xss≠[]->∀(i:Nat)(w:Z),(zipZ xss)[i]?=bH w↔∃vs:List Z,w=.tup vs/\xss.map (·[i]?)=vs.map bH
 |[],h,_,_=>absurd rfl h
 |[xs],_,i,w=>by
  simp only[zipZ,bo,bx,bN]
  constructor
  .ext h;cases e:xs[i]? with
   |none=>rw[e]at h;cases h
   |some x=>rw[e]at h;cases h;show([x],rfl,rfl)
  .ext⟨a,rfl,h⟩
   match a,h with
   |[v],h=>rw[bx,bN]at h;injection h with h _;rw[h];rfl
   |[],h=>cases h
   |_::_::_,h=>simp at h
 |xs::ys::rest,_,i,w=>by
  let b:=a08 (ys::rest) (by simp)
  change (List.zipWith _ xs _)[i]?=bH w↔_
  rw[List.getElem?_zipWith]
  constructor
  .ext h;cases e1:xs[i]? with
   |none=>rw[e1]at h;cases h
   |some x=>
    cases e2:(zipZ (ys::rest))[i]? with
    |none=>rw[e1,e2]at h;cases h
    |some r=>
     rw[e1,e2]at h;let(a,rfl,c):=(b i r).mp e2;cases h;show(x::a,rfl,by rw[bx,c,e1];rfl)
  .ext⟨a,rfl,h⟩
   match a,h with
   |[],h=>simp at h
   |v::a,h=>
    rw[bx,bx]at h;injection h with h1 h2
    let:=(b i _).mpr (a,rfl,h2)
    rw[h1,this]
def a60{K:Fg}(h:srcZ G kR=bH ws)(r:Rep K H kR v)(hg:RH K G H):∃p:Bool×Addr,v=.ref p.2/\(p.1=kz↔∃us,kR=.tup us)/\∃vs,SrcP K H p vs/\Reps K H ws vs:=by
 cases kR with
 |ref a=>
  cases q:G a with
  |none=>simp[srcZ,q]at h
  |some o=>
   cases o with
   |lst us=>
    simp[srcZ,q]at h;subst h;let(c,d,b):=hg _ _ q;show((kQ,a,),r,by simp,c,by unfold SrcP;rw[if_neg (by simp)];show SqL.of d,b)
   |_=>simp[srcZ,q]at h
 |tup us=>
  let(a,c,rfl,e,b):=r;cases h;show((kz,a,),rfl,by simp,c,by unfold SrcP;rw[if_pos rfl];show SqT.of e,b)
 |_=>cases h
theorem a61{K:Fg}(hg:RH K G H):∀{ws:List Z}{vs:List V}{xss:List (List Z)},ws.map (srcZ G)=xss.map bH->Reps K H ws vs->∃ps:List (Bool×Addr),vs=ps.map (λp=>V.ref p.2)/\ps.length=ws.length /\
  (∀(j:Nat)(p:Bool×Addr)(w:Z),ps[j]?=bH p->ws[j]?=bH w->(p.1=kz↔∃us,w=.tup us))/\∀p∈ps,∃us,SrcP K H p us
 |[],vs,xss,_,r=>by rw[a0n]at r;subst r;show([],rfl,rfl,λj p w e=>by simp at e,λp h=>by simp at h)
 |w::ws,vs,[],h,_=>by simp at h
 |w::ws,vs,xs::xss,h,r=>by
  injection h with h1 h2
  let(v,s,rfl,d,o):=r;let(p,rfl,i,f,l,_):=a60 h1 d hg;let(q,rfl,m,k,n):=a61 hg h2 o;show(p::q,rfl,by simp[m],λj a g c b=>?_,λa h=>?_)
  .cases j with
   |zero=>simp at c b;subst c b;show i
   |succ j=>show k j a g ↑c ↑b
  .let rfl||h:=bf.mp h
   .grind
   .show n a h
def SrcP.uniq{K:Fg}(h:SrcP K H p xs)(g:(if p.1=kz then H p.2=bH (.tup ys) else H p.2=bH (.lst ys))):SrcP K H p ys:=by
 unfold SrcP
 split
 .next e=>rw[if_pos e]at g;show SqT.of g
 .next e=>rw[if_neg e]at g;show SqL.of g
def a9S{K:Fg}(h:srcZ G kR=bH ws)(r:Rep K H0 kR (.ref p.2))(hp:p.1=kz↔∃us,kR=.tup us)(t:TK K H0 H)(hg:RH K G H):∃vs,SrcP K H p vs/\Reps K H ws vs:=by
 let(q,e,j,i,f,g):=a60 h (r.mono t) hg;let k:p=q:=by
  let(a,b):=p;let(c,d):=q;cases e
  let:a=c:=by rw[cS];show hp.trans j.symm
  rw[this]
 subst k;show(i,f,g)
theorem a1C{α:Type}{β:Type}{f:α->Option β}:∀{l:List α}{m:List β}{j:Nat}{x:α},l.map f=m.map bH->l[j]?=bH x->∃y,m[j]?=bH y/\f x=bH y
 |[],_,_,_,_,e=>by simp at e
 |a::l,[],_,_,h,_=>by simp at h
 |a::l,b::m,j,x,h,e=>by
  injection h with h1 h2
  cases j with
  |zero=>simp at e;subst e;show(b,rfl,h1)
  |succ j=>o_head a1C h2 (by simp_all)
def a9T{K:Fg}(hne:xss≠[])(hv:vs=ps.map λp=>V.ref p.2)(hl:ps.length=ws.length)(rs:Reps K H0 ws vs)(hk:∀(j:Nat)(p:Bool×Addr)(w:Z),ps[j]?=bH p->ws[j]?=bH w->(p.1=kz↔∃us,w=.tup us)) :
  a2V K (zipZ xss) (λG=>ws.map (srcZ G)=xss.map bH) (ItzP K ps) H0:=λi G H S t Q hi=>by
 let A:xss.length=ws.length:=by rw[<- a9 (as:=ws),Q,a9]
 let o:∀(j:Nat) p,ps[j]?=bH p->∃b a,xss[j]?=bH b/\SrcP K H p a/\Reps K H b a:=λj p e=>by
  let d:j<ws.length:=by rw[<- hl];show (bh.mp e).1
  let I:=bn d;let(b,k,n):=a1C Q I;let(v,m,r):=rs.get I;rw[hv,bo,e]at m;cases m;let(a,s,L):=a9S n r (hk j p _ e I) t S;show(b,a,k,s,L)
 show(λh=>(λp F=>?_,?_),λw hw=>?_)
 .let(j,d):=cb F;let(b,a,_,k,_):=o j p d;show(a,k)
 .show Classical.byContradiction λno=>?_;let all:∀b∈xss,i<b.length:=λb E=>by
   let(j,d):=cb E;let D:j<ps.length:=by rw[hl,<- A];show (bh.mp d).1
   let(xs',a,k,n,m):=o j _ (bn D);rw[d]at k;cases k;show Classical.byContradiction λc=>no (_,cx D,a,n,?_);rw[<- m.length]
   lia
  let:(zipZ xss)[i]?=bH (.tup (xss.map λb=>b.getD i .non)):=(a08 xss hne i _).mpr (_,rfl,by
   rw[de];show ft λb E=>?_
   let:=all b E
   simp[bn this])
  let:=(bh.mp this).1
  lia
 .let(g,rfl,U):=(a08 xss hne i w).mp hw;let aa:g.length=ps.length:=by rw[<- a9,<- U,a9,A,hl]
  let B:∀(j:Nat)(b:List Z),xss[j]?=bH b->∃z,g[j]?=bH z/\b[i]?=bH z:=λj b d=>a1C (f:=λl:List Z=>l[i]?) U d;show(λp F=>?_,?_)
  .let(j,d):=cb F;let(b,a,M,k,n):=o j p d;let(z,m,r):=B j b M;let(v,s,_):=n.get r;show(a,v,k,s)
  .ext x H' ⟨T,a,R,rfl,rfl,C,N⟩;let tT:TK K H (upd H T (.tup a)):=.new R;show(?_,S.hid R,tT);rw[a03];show(T,a,rfl,a0e,?_);let go:∀{g:List Z}{a:List V},g.length=a.length->(∀(j:Nat) z u,g[j]?=bH z->a[j]?=bH u->Rep K H z u)->Reps K H g a:=by
    ext g
    induction g with
    |nil=>ext a h _;cases a with
     |nil=>show .nil
     |cons _ _=>simp at h
    |cons z g ih=>ext a h q;cases a with
     |nil=>simp at h
     |cons u a=>show .cons (q 0 z u rfl rfl) (ih ↑h λj z u J y=>q (j+1) z u ↑J ↑y)
   show (go (by rw[aa,C]) λj z u J y=>?_).mono tT;let d:j<ps.length:=by rw[<- C];show (bh.mp y).1
   let(b,Y,M,k,n):=o j _ (bn d);let(z',m,r):=B j b M;rw[J]at m;cases m;let(v,s,L):=n.get r;let(u',h7,X):=N j _ Y (bn d) k;rw[y]at h7;cases h7;rw[s]at X;cases X;show L
def a9U(hok:∀us:List Value,us.length=n->a3q us)(hn:n<=1000)(hg:Gl X "zip")(hm:X.mg "zip"=gV)(ha:QA X (e::es) t)
  (he:gQ (e::es) X.env=(kQ,eval e X.env,)::gQ es X.env:=by rfl) (hpl:(backTo pos (gQ es X.env)).any (·.1)=kQ:=by rfl):QI X (.Tuple elts x1 tpos) (.Call (.Name "zip" p) (e::es) [] pos) (iZip n t):=a40 (b7G hg hm hok hn ha.p he hpl) fun τ H R2 a=>a.un fun σ G R s hg h u=>by
 show(σ,G,_,s,hg,h,λws G1 vs H1 (b,a,c,k,m) l d q=>?_);let(r,e,g,o,ha):=a61 d a l;show(r,e,?_,by rw[g,k],ha,u _ _ _ _ _ m (a9T c e g l o) d q);ext rfl
 let:b.length=0:=by rw[<- a9,<- a,a9,<- g];rfl
 show c (cN.mp this)
def zok2(us:List Value)(h:us.length=2):a3q us:=by
 cases us with
 |nil=>cases h
 |cons a us=>cases us with
  |nil=>cases h
  |cons b us=>cases us with
   |nil=>show b7E a b
   |cons c us=>cases h
def zok4(us:List Value)(h:us.length=4):a3q us:=by
 cases us with
 |nil=>cases h
 |cons a us=>cases us with
  |nil=>cases h
  |cons b us=>cases us with
   |nil=>cases h
   |cons c us=>cases us with
    |nil=>cases h
    |cons d us=>cases us with
     |nil=>show b7F a b c d
     |cons e us=>cases h
def b7O(h:t σ G λws G1=>∃a xs,ws=[.ref a]/\G1 a=bH (.lst xs)/\Ri xs.reverse (λG=>G a=bH (.lst xs)) G1):iRev t σ G Ri:=h
def b7P(h:t σ G λws G1=>∃xss:List (List Z),ws.map (srcZ G1)=xss.map bH/\xss≠[]/\ws.length=n/\Ri (zipZ xss) (λG=>ws.map (srcZ G)=xss.map bH) G1):iZip n t σ G Ri:=h
def a9V{K:Fg}(h:∀ws G R,¬ sp ws G R):FnOk P w K mg base CX k f fd ps (lowP K sp):=
 (λ_ _ _ _ (a,G,R,_,_,q,_)=>(h a G R q).elim,λ_ _ _ _ _ _ _ _ _ _ _ _ _ (a,G,R,_,_,q,_)=>(h a G R q).elim)
end
noncomputable def putQ(f:Str)(y:Z):List (Str×Z)->List (Str×Z)
 |[]=>[(f,y,)]
 | (g,x,)::r=>if g=f then (g,y,)::r else (g,x,)::putQ f y r
section
variable{K:Fg}
theorem a2d:∀{fs:List (Str×Z)}{gs:List (Str×V)},gs.map (·.1)=fs.map (·.1)->Reps K H (fs.map (·.2)) (gs.map (·.2))->(fs.lookup f=gV->gs.lookup f=gV)/\∀z,fs.lookup f=bH z->∃v,gs.lookup f=bH v/\Rep K H z v
 |[],[],_,_=>(λ_=>rfl,λ_ h=>by cases h)
 |[],_::_,h,_=>by simp at h
 |_::_,[],h,_=>by simp at h
 | (k,x,)::fs,(k',v,)::gs,h,r=>by
  simp at h;let(rfl,h):=h;let(i,g,e,d,b):=r;let(rfl,rfl):=b9.inj e;rw[cv,cv];cases c:f==k' with
  |true=>
   show(λe=>?_,λz e=>?_)
   .cases e
   .simp_all
  |false=>show (a2d (f:=f) h b)
theorem a56(ry:Rep K H kR u):∀{fs:List (Str×Z)}{gs:List (Str×V)},gs.map (·.1)=fs.map (·.1)->Reps K H (fs.map (·.2)) (gs.map (·.2))->(putF f u gs).map (·.1)=(putQ f kR fs).map (·.1)/\Reps K H ((putQ f kR fs).map (·.2)) ((putF f u gs).map (·.2))
 |[],[],_,_=>(rfl,by change Reps K H [kR] [u];rw[a0T];show(u,[],rfl,ry,by rw[a0n]))
 |[],_::_,h,_=>by simp at h
 |_::_,[],h,_=>by simp at h
 | (k,x,)::fs,(k',v,)::gs,h,r=>by
  simp at h;let(rfl,h):=h;let(i,g,e,d,b):=r;let(rfl,rfl):=b9.inj e;let a:=a56 (f:=f) ry h b;unfold putQ putF
  by_cases c:k'=f
  .rw[if_pos c,if_pos c];show(by simp[h],by change Reps K H (kR::fs.map _) _;rw[a0T];show(u,_,rfl,ry,b))
  .rw[if_neg c,if_neg c];show(by simp[a.1],by change Reps K H (x::(putQ f kR fs).map _) _;rw[a0T];show(v,_,rfl,d,a.2))
end
section
variable{C f:Addr}{fd:ik}{ps:List Str}{sp:P3}{k:Nat}{a x:Str}{p pos':Pos}{e o value:Expr}{te:E3}{t:A3}
def uFld(C:Addr)(te:E3)(a:Str):E3:=fun σ G R=>te σ G λx G1=>∃q dx fs v,x=.ref q/\G1 q=bH (.ins C dx fs)/\fs.lookup a=bH v/\R v G1
def a57(hc:Cls X.K C)(hn:NoAttr X.K C a)(he:QE X e te)(hb:iZ e a X.env (eval e X.env)=eval e X.env:=by rfl):QE X (.Attribute e a pos) (uFld C te a):=⟨a0J (b6e he.p hb) fun τ H Q x=>x.un fun σ G R s t h k=>
 (σ,G,_,s,t,h,by
  ext w D v B ⟨q,r,E,z,i,A,j,d⟩ c b l;subst i;let(u,m,g,y):=b _ _ A;let(o,f,n):=(a2d g y).2 _ j;show(q,C,r,u,o,c,m,hc,hn,f,k _ _ _ _ d n b l))⟩
def a9W(C:Addr)(to te:E3)(a:Str):X3:=λnx _ _ _ σ G=>te σ G λy G1=>to σ G1 λx G2=>∃q dx fs,x=.ref q/\G2 q=bH (.ins C dx fs)/\fs.length<1000/\nx σ (put G2 q (.ins C dx (putQ a y fs)))
def b7Q(hc:Cls X.K C)(hn:NoAttr X.K C a)(ho:QE X o to)(hv:QE X value te)(hs:iB value (bH (.Attribute o a pos')) pos.line X.env=pure kQ:=by rfl):QS X (.Assign [.Attribute o a pos'] value pos) (a9W C to te a):=⟨a1t (b6f ho.p hv.p hs) λD τ H J=>J.un fun σ G nx rt bk ct hs x h F u2 u3 u4=>
 (σ,G,_,hs,x,h,λy A u H1 E t r e=>(σ,A,_,hs.mono e,r,E,by
  ext w G2 v i ⟨q,j,fs,z,ea,hl,B⟩ k d g;subst z;let(n,l,m,I):=d _ _ ea;let b:TK X.K i (L2.upd i q (.ins C j (putF a u n))):=.ins l;let s:=a56 (f:=a) (t.mono g) m I;show(q,C,j,n,k,l,hc,hn,by let:=congrArg bL m;simp at this;lia,F _ _ _ _ B (hs.mono ((e.trans g).trans b)) (d.set b (_,a0e,s.1,s.2.mono b)) ((e.trans g).trans b))))⟩
def a9X(C:Addr)(to te:E3)(r:R3)(a:Str):X3:=λnx _ _ _ σ G=>to σ G λx G1=>∃q dx fs v,x=.ref q/\G1 q=bH (.ins C dx fs)/\fs.lookup a=bH v/\te σ G1 λy G2=>r v y G2 λz G3=>∃dx' fs',G3 q=bH (.ins C dx' fs')/\fs'.length<1000/\nx σ (put G3 q (.ins C dx' (putQ a z fs')))
def b1S(hc:Cls X.K C)(hn:NoAttr X.K C a)(ho:QE X o to)(hv:QE X value te)(hop:OpQ X (iR op) r):QS X (.AugAssign (.Attribute o a tpos) op value pos) (a9X C to te r a):=⟨a1t (a8x ho.p hv.p hop) λD τ H hx=>hx.un fun σ G nx rt bk ct j Q h u1 u2 u3 u4=>
 (σ,G,_,j,Q,h,by
  ext w R v H1 ⟨q,I,fs,z,ew,J,S,hq⟩ l e s;subst ew;let(Y,e1,e2,M):=e _ _ J;let(v',L,r'):=(a2d e2 M).2 _ S;show(q,C,I,Y,v',l,e1,hc,hn,L,σ,R,_,j.mono s,e,hq,λy T u H2 U V t F=>(z,y,T,_,r'.mono F,V,t,U,λz2 G3 v3 n (g,fs',x,hl,B) N b W=>?_));let(c,d,i,m):=b _ _ x;let k:TK X.K n (L2.upd n q (.ins C g (putF a v3 c))):=.ins d;let A:=a56 (f:=a) N i m;let E:=((s.trans F).trans W).trans k;show(g,c,d,by let:=congrArg bL i;simp at this;lia,u1 _ _ _ _ B (j.mono E) (b.set k (_,a0e,A.1,A.2.mono k)) E))⟩
def b1T(C:Addr)(m:Str)(sp:P3)(to:E3)(t:A3):E3:=fun σ G R=>to σ G λx G1=>∃q dx fs,x=.ref q/\G1 q=bH (.ins C dx fs)/\fs.lookup m=gV/\t σ G1 λws G2=>sp (.ref q::ws) G2 R
def b1U(h:low X.K (b1T C m sp to t) τ H Q)(h1:o'=low X.K to)(h2:t'=lowA X.K t):b6j C m (lowP X.K sp) [] kR o' t' τ H Q:=by
 subst h1 h2;let(σ,G,R,f,s,h,D):=h;show(σ,G,_,f,s,h,λw B v H1 (q,r,fs,y,n,A,x) b a e=>?_);subst y;let(u,g,z,p):=a _ _ n;show(q,r,u,b,g,(a2d z p).1 A,σ,B,_,f.mono e,a,x,λj o k H2 h2 i c l=>?_);show(.ref q::j,o,R,by rw[bM,a0T];show(v,k,rfl,by rw[a0s];show b,i),c,h2,D.mono (e.trans l))
def b7R(ho:QE X o to)(c:Cls X.K C)(hm:Meth X.K C m f)(F:FnOk X.prog X.w X.K X.mg X.base CX0 k f fd ps (lowP X.K sp))(hr:Room k X.A)(hb:Binds X.K fd ps [])(ha:QA X (e::es) t)
  (hst:gQ (e::es) X.env=(kQ,eval e X.env,)::gQ es X.env) (hpl:(backTo pos (gQ es X.env)).any (·.1)=kQ)
  (ht:eval (.Call (.Attribute o m apos) (e::es) [] pos) X.env=(do
   let ov <- eval o X.env
   iH apos.atName
   let (f,first,) <- ig [ov] (ja ov m pl)
   jp pos f first (backTo pos (gQ (e::es) X.env)) (i5 pos (i6 [] X.env)))):QE X (.Call (.Attribute o m apos) (e::es) [] pos) (b1T C m sp to t):=
 ⟨a0J (a8A ho.p c hm F hr hb .nil b3Q ha.p hst hpl ht) λ_ _ _ h=>b1U h rfl rfl⟩
def b4w(C:Addr)(sp:P3)(t:A3):E3:=fun σ G R=>t σ G λws G1=>∀q dx,G1 q=gV->sp (.ref q::ws) (put G1 q (.ins C dx [])) λv G2=>v=.non/\R (.ref q) G2
def made(h1:∀q dx,G1 q=gV->sp (.ref q::ws) (put G1 q (.ins C dx [])) λv G2=>v=.non/\R (.ref q) G2)(rs:Reps X.K H1 ws vs)(hg1:RH X.K G1 H1)(up:UpV X.K H1 R Q)(q dx:Addr)(n1:H1 q=gV)(n2:H1 dx=gV)(ne:dx≠q) :
  lowP X.K sp (.ref q::(vs++[])) (L2.upd (L2.upd H1 dx (.own q)) q (.ins C dx [])) (λv H2=>v=.non/\Q (.ref q) H2) kR:=by
 let a:L2.upd H1 dx (.own q) q=gV:=(a0f (Ne.symm ne))▸n1;let d:TK X.K H1 (L2.upd _ q (.ins C dx [])):=(TK.new n2).trans (TK.new a);show(.ref q::ws,put G1 q (.ins C dx []),_,?_,?_,h1 q dx (hg1.out n1),?_)
 .rw[bM,a0T];show(_,vs,rfl,by rw[a0s],rs.mono d)
 .show (hg1.hid n2).set (TK.new a) ([],a0e,rfl,by rw[bN,a0n];rfl)
 .ext w h v i ⟨f,g⟩ b c e;subst f;show(b,up _ _ _ _ g (by rw[a0s]) c (d.trans e))
def b4x(M:Mk X.K C f)(F:FnOk X.prog X.w X.K X.mg X.base CX0 k f fd ps (lowP X.K sp))(hr:Room (k+1) X.A)(hg:Gl X x)(hm:X.mg x=bH (.ref C))(hb:Binds X.K fd ps [])
  (hdb:(x==("__debug__":Str))=kQ):QE X (.Call (.Name x p) [] [] pos) (b4w C sp uNil):=
 ⟨a0J (b03 M F hr hg hm hb .nil b3Q hdb) fun τ H Q (σ,G,R,hs,hg,h,g) q c d e b=>made h (by rw[a0n]) hg g q c d e b⟩
variable{σ:S3}{G:Hq}{R:K3}{nx bk ct:C3}{rt:K3}{q:Addr}{fs:List (Str×Z)}{v:Z}
def b7S(h:te σ G λx G1=>∃q dx fs v,x=.ref q/\G1 q=bH (.ins C dx fs)/\fs.lookup a=bH v/\R v G1):uFld C te a σ G R:=h
def b7T(h:te σ G λy G1=>to σ G1 λx G2=>∃q dx fs,x=.ref q/\G2 q=bH (.ins C dx fs)/\fs.length<1000/\nx σ (put G2 q (.ins C dx (putQ a y fs)))):a9W C to te a nx rt bk ct σ G:=h
def b4y(h:to σ G λx G1=>∃q dx fs,x=.ref q/\G1 q=bH (.ins C dx fs)/\fs.lookup m=gV/\t σ G1 λws G2=>sp (.ref q::ws) G2 R):b1T C m sp to t σ G R:=h
def b4z(h:t σ G λws G1=>∀q dx,G1 q=gV->sp (.ref q::ws) (put G1 q (.ins C dx [])) λv G2=>v=.non/\R (.ref q) G2):b4w C sp t σ G R:=h
def b7U(h:to σ G λx G1=>∃q dx fs v,x=.ref q/\G1 q=bH (.ins C dx fs)/\fs.lookup a=bH v/\te σ G1 λy G2=>r v y G2 λz G3=>∃dx' fs',G3 q=bH (.ins C dx' fs')/\fs'.length<1000/\nx σ (put G3 q (.ins C dx' (putQ a z fs')))):a9X C to te r a nx rt bk ct σ G:=h
end
section
variable{σ:St}{a:Addr}{kvs:List (Key×V)}{k:Key}{d:V}{u r:Value}
def b7V(I:Inv X pins σ H s)(e:H a=bH (.dK kvs))(ry:RelV (kV k) u)(rd:RelV d r)(hz:kvs.length<gN)
  (h1:∀v w' s',valV kvs k=bH v->Inv X pins σ H s'->RelV v w'->Q w' s') (h2:valV kvs k=gV->∀s',Inv X pins σ (upd H a (.dK (putK kvs k d))) s'->Q r s') :
  wpAny (model X.prog X.w) A (call (.builtin "dict.setdefault") [.ref a,u,r]) Q E s:=by
 let(z,f,n,b,h):=b3R I.hok e;let l:(putK kvs k d).length<=sizeLine:=by let:=a1h kvs k d;lia
 show jA PySem.F.slot_dict_setdefault h.typeIs PySem.F.entry_dict_setdefault (PySem.F.args_dict_setdefault_3 _ _ _) (kt_meets_setdefault _ a (a7D ry) f r) (n,h,by rw[<- b.length];show z,λm i=>?_,λx p c o=>?_)
 .cases hv:valV kvs k with
  |none=>
   let:=(b.val k).isSome_eq
   rw[hv,i]at this;cases this
  |some v=>
   let g:=b.val k;rw[hv,i]at g;show h1 v m _ hv (I.tok _) g
 .let j:valV kvs k=gV:=by
   let:=(b.val k).isSome_eq
   rw[x]at this;cases hv:valV kvs k with
   |none=>rfl
   |some v=>rw[hv]at this;cases this
  let t:∃q,p.get? a=bH q:=by let(q,_,_,hq,_):=c;show(q,hq)
  show h2 j _ (a5O I (e▸True.intro) o t (b2M l f (b.put k rd) c))
end
def b4A(hu:X.A.units+66<cLine):MtR X "dict.get" (λx vs H Q=>∃a y d o,x=.ref a/\vs=[y,d]/\DGet H a y o/\Q (o.getD d) H):=by
 intro f s σ H x m v t Q I c k (a,y,d,o,h,e,g,q);subst h e;cases c;let(u,r,rfl,j,l):=a5K k;show b6u (by lia) I g j l λn p i b=>(_,H,i,b,q)
def b1V(hu:X.A.units+66<cLine):MtR X "dict.get" (λx vs H Q=>∃a y o,x=.ref a/\vs=[y]/\DGet H a y o/\Q (o.getD .non) H):=by
 intro i s σ H x m v n Q I f e (a,y,o,c,d,g,q);subst c d;cases f;let(u,rfl,h):=a2v e;show b6t (by lia) I g h λl k j b=>(_,H,j,b,q)
def b4B:MtR X "dict.setdefault" (λx vs H Q=>∃a kvs k d,x=.ref a/\vs=[kV k,d]/\H a=bH (.dK kvs)/\kvs.length<gN/\(∀v,valV kvs k=bH v->Q v H)/\(valV kvs k=gV->Q d (upd H a (.dK (putK kvs k d))))):=by
 intro m s σ H x z v B Q I i p (a,y,k,d,n,j,e,q,g,t);subst n j;cases i;let(u,r,rfl,o,f):=a5K p;show b7V I e o f q (λv A w l b c=>(v,H,b,c,g v l)) λh w b=>(d,_,b,f,t h)
noncomputable def valZ(kvs:List (Key×Z))(k:Key):Option Z:=(kvs.find? λkv=>decide (kv.1=k)).map (·.2)
theorem a01{K:Fg}:∀{kvs:List (Key×Z)}{us:List (Key×V)},us.map (·.1)=kvs.map (·.1)->Reps K H (kvs.map (·.2)) (us.map (·.2))->(valZ kvs k=gV->valV us k=gV)/\∀z,valZ kvs k=bH z->∃v,valV us k=bH v/\Rep K H z v
 |[],[],_,_=>(λ_=>rfl,λ_ h=>by cases h)
 |[],_::_,h,_=>by simp at h
 |_::_,[],h,_=>by simp at h
 | (c,x,)::fs,(c',v,)::gs,h,r=>by
  simp at h;let(rfl,h):=h;let(g,f,e,d,a):=r;let(rfl,rfl):=b9.inj e;unfold valZ valV;rw[cr,cr];cases q:decide (c'=k) with
  |true=>
   show(λe=>?_,λz e=>?_)
   .cases e
   .cases e;show(v,rfl,d)
  |false=>show (a01 (k:=k) h a)
def b4C:Z->List Z->Hq->K3->Prop:=λx xs G R=>match x,xs with
 |.ref p,[y,d]=>∃kvs k,(G p=bH (.dK kvs)\/G p=bH (.dF kvs))/\keyZ y=bH k/\R ((valZ kvs k).getD d) G
 |_,_=>False
def b28(hu:X.A.units+66<cLine):MtQ X "dict.get" b4C:=a7E (b4A hu) λx E H Q m=>m.un λw B G R j s i h l=>by
 match w,B,h with
 |.ref p,[y,d],h=>
  let(v,q,rfl,t,o):=s.two;let(g,k,e,D,h):=h;obtain⟨a,f,c,b⟩:∃a,Rd H p (.dK a)/\a.map _=g.map _/\Reps X.K H _ (a.map _):=by
   let e||e:=e
   .let(a,f,c,b):=i _ _ e;show(a,.inl f,c,b)
   .let(C,a,f,c,b):=i _ _ e;show(a,.inr (C,f),c,b)
  show(p,v,q,valV a k,j,rfl,by rw[a29 D t];show .inl (a,k,f,rfl,rfl),?_);cases hz:valZ g k with
  |none=>
   rw[hz]at h;rw[(a01 c b).1 hz];show l _ _ _ _ h o i (.refl _ _)
  |some z=>
   rw[hz]at h;let(u,r,n):=(a01 c b).2 z hz;rw[r];show l _ _ _ _ h n i (.refl _ _)
def b7W:Z->List Z->Hq->K3->Prop:=λx xs G R=>match x,xs with
 |.ref p,[y]=>∃kvs k,G p=bH (.dK kvs)/\keyZ y=bH k/\R ((valZ kvs k).getD .non) G
 |_,_=>False
def b4D(hu:X.A.units+66<cLine):MtQ X "dict.get" b7W:=a7E (b1V hu) λx t H Q n=>n.un λw l G R a j b h g=>by
 match w,l,h with
 |.ref p,[y],h=>
  let(v,rfl,m):=j.one;let(c,k,e,q,h):=h;let(r,s,d,f):=b _ _ e;show(p,v,valV r k,a,rfl,by rw[a29 q m];show DGet.k s,?_);cases hz:valZ c k with
  |none=>
   rw[hz]at h;rw[(a01 d f).1 hz];show g _ _ _ _ h (by rw[eT,a0z];rfl) b (.refl _ _)
  |some z=>
   rw[hz]at h;let(u,i,o):=(a01 d f).2 z hz;rw[i];show g _ _ _ _ h o b (.refl _ _)
def b7X:Z->List Z->Hq->K3->Prop:=λx xs G R=>match x,xs with
 |.ref p,[y,d]=>∃kvs k,G p=bH (.dK kvs)/\keyZ y=bH k/\kvs.length<gN/\(∀z,valZ kvs k=bH z->R z G)/\(valZ kvs k=gV->R d (put G p (.dK (putZ kvs k d))))
 |_,_=>False
def a2P:MtQ X "dict.setdefault" b7X:=a7E b4B λx M H Q C=>C.un λw t G R i F l h r=>by
 match w,t,h with
 |.ref p,[y,d],h=>
  let(v,E,rfl,B,q):=F.two;let(b,k,e,L,A,s,J):=h;let(D,c,f,g):=l _ _ e;show(p,D,k,E,i,by rw[a29 L B],c,by rw[a9M f];show A,λu a=>?_,λa=>?_)
  .cases hq:valZ b k with
   |none=>rw[(a01 f g).1 hq]at a;cases a
   |some z=>
    let(I,j,m):=(a01 f g).2 z hq;rw[j]at a;cases a;show r _ _ _ _ (s z hq) m l (.refl _ _)
  .cases hq:valZ b k with
   |some z=>
    let(I,j,m):=(a01 f g).2 z hq;rw[j]at a;cases a
   |none=>
    let n:=a4s (k:=k) q f g;show r _ _ _ _ (J hq) (q.mono (.dK c)) (l.set (.dK c) (_,a0e,n.1,n.2.mono (.dK c))) (.dK c)
def b29(e:G p=bH (.dK kvs))(a:keyZ kR=bH k)(h:R ((valZ kvs k).getD d) G):b4C (.ref p) [kR,d] G R:=(kvs,k,.inl e,a,h)
def b4E(e:G p=bH (.dK kvs)\/G p=bH (.dF kvs))(a:keyZ kR=bH k)(h:R ((valZ kvs k).getD d) G):b4C (.ref p) [kR,d] G R:=(kvs,k,e,a,h)
def b7Y(e:G p=bH (.dK kvs))(a:keyZ kR=bH k)(z:kvs.length<gN)(h1:∀z,valZ kvs k=bH z->R z G)(h2:valZ kvs k=gV->R d (put G p (.dK (putZ kvs k d)))):b7X (.ref p) [kR,d] G R:=(kvs,k,e,a,z,h1,h2)
def b4F{P:Prop}(e:G p=bH (.dK kvs))(h:P):tyZ "dict" (.ref p) G/\P:=(.inr (rfl,kvs,.inl e),h)
def b95{P:Prop}(e:G p=bH (.dK kvs)\/G p=bH (.dF kvs))(h:P):tyZ "dict" (.ref p) G/\P:=(.inr (rfl,kvs,e),h)
noncomputable def keysOf:List (Z×Z)->Option (List (Key×Z))
 |[]=>bH []
 | (x,y,)::r=>match keyZ x,keysOf r with
  |some k,bH kvs=>bH ((k,y,)::kvs)
  |_,_=>gV
noncomputable def a2Q(kvs more:List (Key×Z)):List (Key×Z):=more.foldl (λacc kv=>putZ acc kv.1 kv.2) kvs
def PReps(K:Fg)(H:Hp):List (Z×Z)->List (V×V)->Prop:=Paired λp q=>Rep K H p.1 q.1/\Rep K H p.2 q.2
def PReps.mono{K:Fg}(t:TK K H H'):∀{ps:List (Z×Z)}{vs:List (V×V)},PReps K H ps vs->PReps K H' ps vs:=by ext z0 y0 x0;induction x0 with
 |nil=>show .nil
 |cons r s I0=>show .cons (r.1.mono t,r.2.mono t) (I0)
theorem ln0{α:Type}{C:List α->Prop}(h:C []):∀us:List α,us.length=0->C us
 |[],_=>h
theorem lnS{α:Type}{C:List α->Prop}(h:∀a,∀us:List α,us.length=n->C (a::us)):∀us:List α,us.length=n+1->C us
 |a::us,e=>h a us (Nat.succ.inj e)
def b4G:∀{vs:List Value}{ns:List Int},io vs ns->SetW.KsAre (jv P w) vs ns:=by ext z0 y0 x0;induction x0 with
 |nil=>show .nil
 |cons n t h I0=>show .cons (intKind_is _ _ _ _) (I0)
def b4H(h:SetW.KsAre (jv P w) vs ns):io vs ns:=by
 induction h with
 |nil=>show .nil
 | @cons v k vs ks h _ ih=>
  cases v<;>simp[jv,Value.isInt]at h
  subst h;show .cons _ _ ih
def a9Y:∀{vs:List Value}{ns:List Int},io vs ns->∀v∈vs,v.scannable=kz:=by
 ext c b h
 induction h with
 |nil=>ext v a;cases a
 |cons n t h ih=>
  ext v a;let rfl||a:=bf.mp a
  .rfl
  .show ih v a
noncomputable def setO(X:Cx)(t:Addr)(ms:List Int):HO:=.ext λh=>SetW.SI (jv X.prog X.w) h t ms
def b7Z(X:Cx):List V->Hp->VK->Prop:=λxs H Q=>∃(p:Addr)(ns:List Int),xs=[.ref p]/\SqL X.K H p (ns.map V.int)/\ns.length<=1000 /\
 ∀(t:Addr)(ms:List Int),H t=gV->SetW.Met (λi=>ns.getD i 0) ns.length ms->Q (.ref t) (upd H t (setO X t ms))
def a7T(hc:X.calm=kz):CallR X (.type "set") (b7Z X):=by
 ext c s σ H xs us Q I r h;let(p,ns,rfl,n,hz,q):=h;let(u,rfl,v):=a2v r;cases v;let(j,m,z,_):=I.list n;let f:=a3U m;let A:=a4r f;let sb:1001<scanBound:=by decide
 let i:j.toArray.size=ns.length:=by grind
 show SetW.call_set (ns:=ns) (k0:=0) (I.ok.hd hc) z.isList ↑(b4G f) ↑(a9Y f) (by grind) λg l d S M k=>?_;rw[i]at M;let t:=
  I.laid (t':=l) (λb o e=>k b o (Heap.lt_size e) e) (bd _) (show ObjOk X.prog X.w _ g _ (setO X s.heap.objs.size d) from (S,by let(_,_,_,S'):=S;show by let(o,e,_):=S'.at_;show(o,e),λ_ _ x y=>x.at y))
 show(.ref s.heap.objs.size,_,t,rfl,q _ d (I.hok.fresh (bd _)) M)
def b1W(X:Cx):List V->Hp->VK->Prop:=λxs H Q=>∃(p:Addr)(ms:List Int),xs=[.ref p]/\H p=bH (setO X p ms)/\ms.length<=1000 /\
 ∀(t:Addr)(ks:List Int),H t=gV->ks.Perm ms->ks.Pairwise (·<=·)->Q (.ref t) (upd H t (.lst (ks.map V.int)))
def a5d(hc:X.calm=kz):CallR X (.builtin "sorted") (b1W X):=by
 ext c s σ H xs us Q I r h;let(p,ns,rfl,y,B,q):=h;let(u,rfl,t):=a2v r;cases t;show a5c B (λR E=>SetW.collect_set (I.ok.hd hc) ((I.hok p _ y).1) λg a d m F J l C=>E g a d m F J (b4H l) C) λg v a d j n i x D e z k o=>?_;let f:Inv X c σ H { s with heap:=g,drawn:=d,toks:=a }:=(I.drew d).kept x;show(.ref g.objs.size,_,f.laid D (bd _) (show ObjOk X.prog X.w _ v _ (.lst _) from (by rw[a9,k.length_eq,ie];lia,j,n,a5b z,e)),rfl,q _ i (f.hok.fresh (bd _)) k o)
def b4I{ns ms:List Int}(h:SetW.Met (λi=>ns.getD i 0) ns.length ms):∀x,x∈ms↔x∈ns:=λx=>by
 rw[h.2.2 x]
 constructor
 .ext⟨j,a,e⟩;let e:ns.getD j 0=x:=e;rw[cI,bn a]at e;show e▸cx a
 .ext b;let(j,a,e):=dR.mp b;show(j,a,by change ns.getD j 0=x;rw[cI,bn a];show e)
def a9Z:∀{ks:List Int},ks.Nodup->ks.Pairwise (·<=·)->ks.Pairwise (·<·):=by ext z0;induction z0 with
 |nil=>ext _ _;show .nil
 |cons k ks I0=>
  ext h1 h2;let(b,c):=ci.mp h1;let(f,d):=bz.mp h2;show bz.mpr (λx a=>?_,I0 c d);let h:=f x a;let g:k≠x:=λe=>b (e▸a)
  lia
section
variable{e:Expr}{t:A3}{x:Str}{p p2 pos2:Pos}
def uSS(t:A3):E3:=fun σ G R=>t σ G λws G1=>∃(p:Addr)(ns:List Int),ws=[.ref p]/\G1 p=bH (.lst (ns.map Z.int))/\ns.length<=1000 /\
 ∀(t:Addr)(ks:List Int),G1 t=gV->ks.Pairwise (·<·)->(∀x,x∈ks↔x∈ns)->ks.length<=ns.length->R (.ref t) (put G1 t (.lst (ks.map Z.int)))
def i_ss{p:Addr}{ns:List Int}{R:K3}(e:G p=bH (.lst (ns.map Z.int)))(z:ns.length<=1000)
  (h:∀(t:Addr)(ks:List Int),G t=gV->ks.Pairwise (·<·)->(∀x,x∈ks↔x∈ns)->ks.length<=ns.length->R (.ref t) (put G t (.lst (ks.map Z.int)))) :
  ∃(q:Addr)(ns':List Int),[Z.ref p]=[.ref q]/\G q=bH (.lst (ns'.map Z.int))/\ns'.length<=1000 /\
   ∀(t:Addr)(ks:List Int),G t=gV->ks.Pairwise (·<·)->(∀x,x∈ks↔x∈ns')->ks.length<=ns'.length->R (.ref t) (put G t (.lst (ks.map Z.int))):=(p,ns,rfl,e,z,h)
def q_ss(hc:X.calm=kz)(hg:Gl X x)(hm:X.mg x=gV)(hv:ij x=bH (.builtin "sorted"))(hg2:Gl X y)(hm2:X.mg y=gV)(hv2:ij y=bH (.type "set"))(ha:QA X (e::es) t)
  (he:gQ (e::es) X.env=(kQ,eval e X.env,)::gQ es X.env) (hpl:(backTo pos2 (gQ es X.env)).any (·.1)=kQ)
  (hn:x≠"__name__":=by decide) (hdb:(x==("__debug__":Str))=kQ:=by decide) (hn2:y≠"__name__":=by decide) (hdb2:(y==("__debug__":Str))=kQ:=by decide) :
  QE X (.Call (.Name x p) [.Call (.Name y p2) (e::es) [] pos2] [] pos) (uSS t):=⟨a0J (a25 (a5d hc) hg hm hv (a4b (a1y (a7T hc) hg2 hm2 hv2 ha.p hn2 hdb2 he hpl) a6B rfl) hn hdb rfl rfl) fun τ H Q n=>n.un fun σ G R hs hg h s=>
 (σ,G,_,hs,hg,h,λws G1 vs H1 f rs c w=>by
  let(p,B,rfl,A,z,f):=f;let(v,rfl,r):=rs.one;let(vs',o,k):=c _ _ A
  let:=a4W k
  subst this;show(p,B,by rw[r],SqL.of o,z,λa j ha M=>(a,j,rfl,a0e,bD M.2.1 z,λu q b g m=>?_));let l:=c.hid (u:=setO X a j) ha;show s _ _ _ _ (f u q (l.out b) (a9Z (g.nodup_iff.mpr M.1) m) (λx=>by rw[g.mem_iff];show b4I M x) (g.length_eq▸M.2.1)) (by rw[a0s]) (l.set (.new b) (a1b (a15 _) (.new b))) (w.trans ((TK.new ha).trans (.new b))))⟩
end
def KD(X:Cx)(a:Addr)(kvs:List (Key×V)):Prop:=kvs.length<=gN/\(a==ic)=kQ/\∃vs,KV kvs vs/\∀h:Heap,X.K.In h->h.DictOf (a0g X.prog X.w) a vs
def a2e(h:PE X e (tC (.ref a))):QE X e (uC (.ref a)):=a5R h λ_=>by rw[a0s]
def a02(hg:Gl X x)(hm:X.mg x=bH (.ref a))(hd:(x==("__debug__":Str))=kQ:=by decide):PE X (.Name x pos) (tC (.ref a)):=a8h hg hm rfl hd
noncomputable def zV:Z->V
 |.str x=>.str x
 |.ref a=>.ref a
 |.int i=>.int i
 |_=>.non
noncomputable def b70:Z->Bool
 |.str _=>kz
 |.ref _=>kz
 |.int _=>kz
 |_=>kQ
def KDZ(X:Cx)(a:Addr)(kvs:List (Key×Z)):Prop:=(∀kv∈kvs,b70 kv.2=kz)/\KD X a (kvs.map λkv=>(kv.1,zV kv.2,))
def KTup(K:Fg)(a:Addr)(ss:List Str):Prop:=∃(o:Obj)(its:Array Value)(n:Nat),K.lookup a=bH o/\o.cls=.type "tuple"/\o.data=.seq its n/\its.size<=gN/\Vals (ss.map V.str) its.toList
def KTup.sq{K:Fg}(h:KTup K a ss):SqT K H a (ss.map V.str):=.inr h
def KDk(w:World)(K:Fg)(a:Addr)(kvs:List (Key×Z)):Prop:=(∀kv∈kvs,b70 kv.2=kz)/\kvs.length<=gN/\(a==ic)=kQ/\∃vs:List (Key×Value),KV (kvs.map λkv=>(kv.1,zV kv.2,)) vs/\∀(P:gT)(h:Heap),K.In h->h.DictOf (a0g P w) a vs
def KDk.at(h:KDk X.w X.K a kvs):KDZ X a kvs:=(h.1,by rw[a9];show h.2.1,h.2.2.1,by let(vs,r,q):=h.2.2.2;show(vs,r,q X.prog))
section
open PySem.W
def b71(ea:hasDictIn kR D=kz)(eb:findIn kR (.ref D) "__getattribute__"=bH (bH (.builtin "BaseException.__getattribute__")))(ec:findIn kR (.ref D) "__getattr__"=bH gV)(ed:findIn kR (.ref D) "__class__"=bH (bH (.builtin "object.__class__")))
  (ee:specialIn kR (.builtin "object.__class__") "__get__"=bH (bH (.builtin "getset_descriptor.__get__"))) (ef:takesIn kR (.builtin "object.__class__")=bH kz) (eg:mroIn kR D (.type "object")=bH kz) (eh:mroIn kR D (.type "BaseException")=bH kz):ExK kR D:=
 (by let(b,a,_):=any_some ea;rw[a];rfl,eb,ec,ed,ee,ef,eg,eh)
def b72(xb:subIn kR (.ref D) (.type "BaseException")=bH kz)(xt:typeIn kR (.ref D)=bH (.type "type"))(xs:subIn kR (.ref C) (.ref D)=bH kz)(xh:hasDictIn kR D=kz):exmOne kR (.ref C) (.ref D)=bH kz:=by
 let(b,a,_):=any_some xh;unfold exmOne;rw[if_pos (by simp_all)]
 change (if _=kz then subIn kR _ _ else gV)=bH kz
 rw[if_pos (by simp_all)];show xs
end
section
variable{e:Addr}{oe:Obj}{C:Addr}
def rIsX(K:Fg)(C e:Addr):List V->Hp->VK->Prop:=λxs H Q=>∃y b,xs=[.ref e,y]/\((∃D,y=.ref D/\PySem.W.kitOne K (.ref C) (.ref D)=bH b)\/(∃T,y=.ty T/\PySem.W.kitOne K (.ref C) (.type T)=bH b) \/
 ∃(p:Addr)(ds:List Addr),y=.ref p/\SqT K H p (ds.map V.ref)/\PySem.W.kitAny K (.ref C) (ds.map Value.ref)=bH b)/\Q (.bl b) H
theorem a90:∀{ds:List Addr}{us:List Value},Vals (ds.map V.ref) us->us=ds.map Value.ref
 |[],us,r=>by rw[bN]at r;cases r;rfl
 |T::Ts,us,r=>by
  cases r with
  |cons r1 r2=>rw[a90 r2,r1];rfl
def b1X(hc:oe.cls=.ref C)(hd:oe.dict=gV)(hn:PySem.W.notCls oe=kz)(k:ExK X.K C):CallR (X.hnd e oe) (.builtin "isinstance") (rIsX X.K C e):=by
 ext m s σ H B E Q I r h;let(y,b,rfl,t,q):=h;let(u,d,rfl,v,c):=a5K r;cases (v);let J:PySem.W.InstAt s.heap e oe C gV:=((I.pin _ (.head _)).1,hc,hn,by rw[hd];show True.intro);let(D,rfl,e1)||(T,rfl,e1)||(p,ds,rfl,hq,e1):=t
 .cases (c);show PySem.W.kia_one (a4i k) I.kIn J e1 (λz=>nomatch z) λa=>(.bl b,H,I.tok a,rfl,q)
 .cases (c);show PySem.W.kia_one (a4i k) I.kIn J e1 (λz=>nomatch z) λa=>(.bl b,H,I.tok a,rfl,q)
 .cases (c);let(w,i,o,_):=I.tuple hq;let l:=a90 i;subst l;let((F,A,x,G),j,g,n,f):=o;cases g;cases f;show PySem.W.kia_tup (a4i k) I.kIn J j e1 (λz=>nomatch z) λa=>(.bl b,H,I.tok a,rfl,q)
end
abbrev PX3:=List Z->Hq->K3->(Addr->Hq->Prop)->Prop
def UpX(K:Fg)(H:Hp)(EE:Addr->Hq->Prop)(E:XK):Prop:=∀C G H',EE C G->RH K G H'->TK K H H'->E (.ref C) gV H'
def a2f(K:Fg)(sp:PX3):Sp:=λvs H Q E=>∃ws G R EE,Reps K H ws vs/\RH K G H/\sp ws G R EE/\UpV K H R Q/\UpX K H EE E
def b73{K:Fg}(t:TKs H H'):TK K H H':=(t.tup,λa b h=>by
 let(o,h)||h:=h
 .show .inl (o,t.frz _ _ _ h)
 .show .inr h,t.frz)
def UpN(K:Fg)(EE:Addr->Hq->Prop)(E:XK):Prop:=∀C G H',EE C G->RH K G H'->E (.ref C) gV H'
def UpX.since{K:Fg}(h:UpX K H EE kR):UpN K EE (since H kR):=λC G a q r t=>h C G a q r (b73 t)
abbrev EE0:Addr->Hq->Prop:=λ_ _=>False
def up0{K:Fg}:UpN K EE0 E0:=λ_ _ _ z _=>z.elim
def a1f:a1d (CXx X.prog X.w) X E0:=by simp[a1d,CXx]
section
variable{E:XK}{EE:Addr->Hq->Prop}{e e0:Expr}{x n:Str}{p np cpos:Pos}{t:A3}{te:E3}{k:Nat}{f C D:Addr}{fd:ik}{ps:List Str}{sp:PX3}
def a91(sp:PX3)(EE:Addr->Hq->Prop)(t:A3):E3:=fun σ G R=>t σ G λws G1=>sp ws G1 R EE
def b4J(hp:a1d (CXx X.prog X.w) X E)(hU:UpN X.K EE E)(F:FnOk X.prog X.w X.K X.mg X.base (CXx X.prog X.w) k f fd ps (a2f X.K sp))(hr:Room k X.A)(hg:Gl X x)(hm:X.mg x=bH (.ref f))(hk:PySem.W.keepIn X.K (.ref f)=kz)(hb:Binds X.K fd ps [])(ha:QA X (e::es) t)
  (hdb:(x==("__debug__":Str))=kQ:=by decide) (he:gQ (e::es) X.env=(kQ,eval e X.env,)::gQ es X.env:=by rfl) (hpl:(backTo pos (gQ es X.env)).any (·.1)=kQ:=by rfl) :
  QE X (.Call (.Name x p) (e::es) [] pos) (a91 sp EE t):=⟨a0J (a8z F hr hg hm hk hb .nil hp ha.p hdb he hpl) fun τ H Q l=>l.un fun σ G R i hg h n=>(σ,G,_,i,hg,h,λo g vs H1 c d b j=>(o,g,R,EE,by rw[bM];show d,b,c,n.mono j,λC G m z r _=>hU C G m z r))⟩
def b3a(EE:Addr->Hq->Prop)(C:Addr)(te:E3):X3:=λ_ _ _ _ σ G=>te σ G λ_ G1=>EE C G1
def b4K(O:Outs X E)(hU:UpX X.K X.H₀ EE E)(hc:X.calm=kz)(hg:Gl X x)(hm:X.mg x=bH (.ref C))(hq:PySem.W.excIn X.K C veM "ValueError.__new__"=kz)(he:QE X e0 te)
  (hs:gQ [e0] X.env=(kQ,eval e0 X.env,)::gQ [] X.env:=by rfl) (hp:(backTo cpos (gQ [] X.env)).any (·.1)=kQ:=by rfl) (hd:(x==("__debug__":Str))=kQ:=by decide) :
  QS X (.Raise (bH (.Call (.Name x np) [e0] [] cpos)) gV pos) (b3a EE C te):=⟨a1t (b1k O hc hg hm hq he.p hs hp hd) λD τ H d=>d.un fun σ G nx rt bk ct hs hg h u1 u2 u3 u4=>(σ,G,_,hs,hg,h,λw G1 v H1 e rv a t1=>λt=>hU _ _ _ e a (b73 t))⟩
theorem RSt.unset{K:Fg}:∀{σ:S3}{τ:L2.St},RSt K H σ τ->∀i:Nat,RSt K H (σ.set i gV) (τ.set i gV)
 |_,_,.nil,_=>by rw[List.set_nil,List.set_nil];show .nil
 |_,_,.cons r h,0=>.cons (λ_ z=>nomatch z) h
 |_,_,.cons r h,i+1=>.cons r (RSt.unset h i)
variable{o:Expr}
def a92(C:Addr)(m:Str)(sp:PX3)(EE:Addr->Hq->Prop)(to:E3)(t:A3):E3:=fun σ G R=>to σ G λx G1=>∃q dx fs,x=.ref q/\G1 q=bH (.ins C dx fs)/\fs.lookup m=gV/\t σ G1 λws G2=>sp (.ref q::ws) G2 R EE
def b4L(hp:a1d (CXx X.prog X.w) X E)(hU:UpN X.K EE E)(ho:QE X o to)(c:Cls X.K C)(hm:Meth X.K C m f)(F:FnOk X.prog X.w X.K X.mg X.base (CXx X.prog X.w) k f fd ps (a2f X.K sp))(hr:Room k X.A)(hb:Binds X.K fd ps [])(ha:QA X (e::es) t)
  (hst:gQ (e::es) X.env=(kQ,eval e X.env,)::gQ es X.env:=by rfl) (hpl:(backTo pos (gQ es X.env)).any (·.1)=kQ:=by rfl)
  (ht:eval (.Call (.Attribute o m apos) (e::es) [] pos) X.env=(do
   let ov <- eval o X.env
   iH apos.atName
   let (f,first,) <- ig [ov] (ja ov m pl)
   jp pos f first (backTo pos (gQ (e::es) X.env)) (i5 pos (i6 [] X.env))):=by rfl):QE X (.Call (.Attribute o m apos) (e::es) [] pos) (a92 C m sp EE to t):=
 ⟨a0J (a8A ho.p c hm F hr hb .nil hp ha.p hst hpl ht) fun τ H Q D=>D.un fun σ G R i T h M=>by
  show(σ,G,_,i,T,h,λw u v H1 (q,j,fs,L,V,B,n) b a g=>?_);subst L;let(S,I,N,l):=a _ _ V;show(q,j,S,b,I,(a2d N l).1 B,σ,u,_,i.mono g,a,n,λx J Y H2 W U d s=>?_);show(.ref q::x,J,R,EE,by rw[bM,a0T];show(v,Y,rfl,by rw[a0s];show b,U),d,W,M.mono (g.trans s),λC G y z r _=>hU C G y z r)⟩
def zIsX(K:Fg)(C e:Addr):List Z->Hq->K3->Prop:=λxs G R=>∃y b,xs=[.ref e,y]/\((∃D,y=.ref D/\PySem.W.kitOne K (.ref C) (.ref D)=bH b)\/(∃T,y=.ty T/\PySem.W.kitOne K (.ref C) (.type T)=bH b) \/
 ∃ds:List Addr,y=.tup (ds.map Z.ref)/\PySem.W.kitAny K (.ref C) (ds.map Value.ref)=bH b)/\R (.bl b) G
theorem a5e{K:Fg}:∀{bs:List Addr}{vs:List V},Reps K H (bs.map Z.ref) vs->vs=bs.map V.ref
 |[],vs,h=>by rw[bN,a0n]at h;subst h;rfl
 |n::ns,vs,h=>by
  let(v,r,rfl,a,b):=h;rw[a,a5e b];rfl
def b4M{e:Addr}(hc:oe.cls=.ref C)(hd:oe.dict=gV)(hn:PySem.W.notCls oe=kz)(k:ExK X.K C):a1R (X.hnd e oe) (.builtin "isinstance") (zIsX X.K C e):=a1j (b1X hc hd hn k) λs H Q j=>j.un λn G R d i h m=>by
 let(y,b,rfl,f,q):=h;let(v,g,rfl,r,a):=d.two;subst r;show(g,b,rfl,?_,m _ _ _ _ q (by rw[a0t]) i (.refl _ _));let(D,rfl,e1)||(T,rfl,e1)||(ds,rfl,e1):=f
 show .inl (D,a,e1);show .inr (.inl (T,a,e1))
 .rw[a03]at a;let(p,o,rfl,l,c):=a
  let:=a5e c
  subst this;show .inr (.inr (p,ds,rfl,SqT.of l,e1))
end
section
variable{EW:XK}{sc:Scope}{tg:Expr}{wi:I3}{pt:Pt}{tt:T3}{te:E3}
def b96(hE:a1Q X EW sc)(hc:X.calm=kz)(hNN:X.N=Nj)(hso:X.env.scope=so)(ck:capB Nj so sc N' cap=kz)(hp:(pt.slots.all λj=>decide (cap[j]?=bH gV))=kz)(hi:QI X tg iter wi)
  (hg:∀C s H fp,QP (cxC X EW N' sc C s H fp) tg pt) (ht:∀C s H fp,QIfs (cxC X EW N' sc C s H fp) ifs tt) (he:∀C s H fp,QE (cxC X EW N' sc C s H fp) elt te)
  (hs:∀x,iJ iter X.env x=pure x:=by ext _;rfl):QE X (.ListComp elt [(tg,iter,ifs,0)] sc pos) (uLC wi cap pt tt te):=⟨a0J (b6w (g:=gP X.K pt) (tt:=lowT X.K tt) hc hE hNN hso ck hi hg ht (λC s H a=>(he C s H a).p) hs) λ_ _ _=>a9b hp⟩
end
section
variable{K:Fg}{mg:Str->Option Value}{base:Heap}
def fn3x{st:Stmt}(F:Fun K x qual st f fd)(S:FnScope N ps (a0j st))(len:∀ws G R EE,sp ws G R EE->ws.length=ps.length)
  (hbody:∀(cdv:Value)(A:Around)(outer:List Env)(s:Shared)(H:Hp)(E:XK)(ws:List Z)(G:Hq)(R:K3)(EE:Addr->Hq->Prop),Room k (A.deeper (envOfC qual (a0j st) s.heap.objs.size f cdv))->sp ws G R EE->UpX K H EE E ->
   ∃t,QSs (cxOf (CXx P w) P w K mg base N qual (a0j st) f cdv A outer s H E) (a0U st) t/\t (λ_ G'=>R .non G') R (λ_ _=>False) (λ_ _=>False) (a1L N ws) G):FnOk P w K mg base (CXx P w) (k+1) f fd ps (a2f K sp):=by
 let(I,T,U,C,M,V,m,L,z,rfl,n,g):=F.ex;show b6k n g S (λo H Q E (b,G,R,e,c,j,h,d,l)=>by rw[<- c.length];show len _ _ _ _ h) ?_;ext A a s H o Q E r ⟨b,G,R,e,c,j,h,d,l⟩;let(t,v,q):=hbody m A a s H E b G R e r h l;show(_,v.p,a1L N b,G,_,R,_,_,.start c,j,q,fun σ' J τ' D u B i y=>d _ _ _ _ u (by rw[a0z]) i y,d,λ_ _ _ _ h _ _ _=>h.elim,λ_ _ _ _ h _ _ _=>h.elim)
end
mutual
def DZ(G:Hq):PyData->Z->Prop
 |.none,x=>x=.non
 |.bool b,x=>x=.bl b
 |.int i,x=>x=.int i
 |.str s,x=>x=.str s
 |.list ds,x=>∃p ws,x=.ref p/\G p=bH (.lst ws)/\DZs G ds ws
 |.tuple ds,x=>∃ws,x=.tup ws/\DZs G ds ws
 |.dict _,_=>False
def DZs(G:Hq):List PyData->List Z->Prop
 |[],ws=>ws=[]
 |d::ds,ws=>∃w r,ws=w::r/\DZ G d w/\DZs G ds r
end
mutual
theorem DZ.sm{G G':Hq}(s:Sm G G'):∀{d:PyData}{w:Z},DZ G d w->DZ G' d w
 |.none,w,q=>by unfold DZ at q ⊢;show q
 |.bool b,w,q=>by unfold DZ at q ⊢;show q
 |.int i,w,q=>by unfold DZ at q ⊢;show q
 |.str _,w,q=>by unfold DZ at q ⊢;show q
 |.list ds,w,q=>by
  unfold DZ at q ⊢;let(p,ws,e,hp,q):=q;show(p,ws,e,s _ _ hp,DZs.sm s q)
 |.tuple ds,w,q=>by
  unfold DZ at q ⊢;let(ws,e,q):=q;show(ws,e,DZs.sm s q)
 |.dict _,w,q=>by unfold DZ at q;show q.elim
theorem DZs.sm{G G':Hq}(s:Sm G G'):∀{ds:List PyData}{ws:List Z},DZs G ds ws->DZs G' ds ws
 |[],ws,q=>by unfold DZs at q ⊢;show q
 |d::ds,ws,q=>by
  unfold DZs at q ⊢;let(w,r,e,q1,q2):=q;show(w,r,e,DZ.sm s q1,DZs.sm s q2)
end
noncomputable def ItD(o:Obj)(a:Addr)(kvs:List (Key×V)):It:=
 (λi H=>H a=bH (.frz o (.dK kvs))/\i<kvs.length,λi H x H'=>H'=H/\∃p,kvs[i]?=bH p/\x=kV p.1,λi H=>H a=bH (.frz o (.dK kvs))/\kvs.length<=i)
def b97(h:(a0g P w).is k u=kz):RelV (kV k) u:=by
 let(i,t,rfl,rfl)||(x,t,rfl,rfl)||(rfl,rfl):=a0q h
 .show(t,rfl)
 .show(t,rfl)
 .rfl
def a2R:∀{kvs:List (Key×V)}{vs:List (Key×Value)},KV kvs vs->vs.length=kvs.length:=by ext z0;induction z0 with
 |nil=>ext vs h;cases h;rfl
 |cons p kvs I0=>
  ext vs h;cases h with
  |cons h1 h2=>rw[bv,bv,I0 h2]
theorem b3b:∀{kvs:List (Key×V)}{vs:List (Key×Value)}{i:Nat}{p:Key×V},KV kvs vs->kvs[i]?=bH p->∃q,vs[i]?=bH q/\p.1=q.1
 |[],vs,i,p,h,e=>by simp at e
 |p0::kvs,vs,i,p,h,e=>by
  cases h with
  |cons h1 h2=>
   cases i with
   |zero=>cases e;show(_,rfl,h1.1)
   |succ i=>show b3b (i:=i) h2 ↑e
theorem a93{P:gT}{w:World}{K:Fg}{tg:Expr}(a it:Addr){o:Obj}(kvs:List (Key×V)){es:Array i9}{ep:Nat}(hd:o.data=.dict es ep):Turn P w K tg (ItD o a kvs) [it] it (λi h=>h.IsKeyIter it a i kvs.length ep) where
 mem:=by simp
 obj:=λi h st b hb=>by
  let e:b=it:=↑hb
  subst e;let(o,e,c,d):=st;show(o,e,λv z=>by rw[d]at z;cases z)
 keep:=λi h h' st k=>st.at λo e=>k it (by simp) o e
 item:=by
  ext X hP hw hK hc i pins s σ H E I hf st hg;subst hP hw hK;let(ha,hi):=hg;let(g,hz,hsm,vs,kv,dof):=(show ObjOk X.prog X.w H s.heap a (.frz o (.dK kvs)) from I.hok a _ ha);let(f0,f1,f2,f3,f4,f5):=hf it (by simp);let hl:=a2R kv;let dat:s.heap.DictAt (a0g X.prog X.w) a vs ep:=by
   let(o',es',ep',h1,h2,h3,h4):=dof;rw[g]at h1;cases h1;rw[hd]at h3;cases h3;show(o,es,g,h2,hd,h4)
  obtain⟨p,hp⟩:∃p,kvs[i]?=bH p:=(kvs[i],bn hi);let((k,v),hq,e1):=b3b kv hp;show wpAny_pyNext_dict_item (by rw[hl];show st) dat hq λkey h' hk st' sb=>?_;let I1:Inv X pins σ H { s with heap:=h' }:=I.turned (t':=s.toks) (λb o hb e=>(sb.2 b hb).trans e) f0 f1 f3 f4 f5;rw[hl]at st';let(oi,e,c,d):=id st';show(key,rfl,a5J (s:={ s with heap:=h' }) e c d (by decide) (kV p.1,H,I1,by rw[e1];show b97 hk,(rfl,p,hp,rfl),st',λb hb=>(hf b hb).1))
 done:=by
  ext X hP hw hK hc i pins s σ H E I hf st hg;subst hP hw hK;let(ha,hi):=hg;let(g,hz,hsm,vs,kv,dof):=(show ObjOk X.prog X.w H s.heap a (.frz o (.dK kvs)) from I.hok a _ ha);let(f0,f1,f2,f3,f4,f5):=hf it (by simp);let hl:=a2R kv;let dat:s.heap.DictAt (a0g X.prog X.w) a vs ep:=by
   let(o',es',ep',h1,h2,h3,h4):=dof;rw[g]at h1;cases h1;rw[hd]at h3;cases h3;show(o,es,g,h2,hd,h4)
  show wpAny_pyNext_dict_end (I.ok.hd hc) (by rw[hl];show st) dat (cZ (by cbv)) λh' eb=>(rfl,I.turned (t':=s.toks) (λb o hb e=>eb b o hb e) f0 f1 f3 f4 f5)
 self:=λ_ _ _ _ _ st h=>wpAny_pyIter_keyiter st h
section
variable{σ:St}{a:Addr}{kvs:List (Key×V)}{tg:Expr}
def Inv.freeze(I:Inv X pins σ H s)(e:H a=bH (.dK kvs)):∃o,Inv X pins σ (upd H a (.frz o (.dK kvs))) s:=by
 let(p,k,t,x,h):=(I.hok a _ e);let i:=h;let(o,C,B,g,r):=i;show(o,?_);let l:∀b,H b=gV->b≠a:=λb q z=>by rw[z,e]at q;cases q
 let j:∀b d,H b=bH (.tup d)->b≠a:=λb d q z=>by rw[z,e]at q;cases q
 let A:∀b o u,H b=bH (.frz o u)->b≠a:=λb o u q z=>by rw[z,e]at q;cases q
 let y:∀b f,H b=bH (.tbl f)->b≠a:=λb f q z=>by rw[z,e]at q;cases q
 let m:∀b c,H b=bH (.own c)->b≠a:=λb c q z=>by rw[z,e]at q;cases q
 show I.un (λb o q _ _ _=>q,λb o q _ _ _=>(o.slots,q),λb o q n _=>by rw[a0f (l b n)];show n,λb o q _=>(o,q),λb d q=>by rw[a0f (j b d q)];show q,λb o u q=>by rw[a0f (A b o u q)];show q,λb f q=>(#[],by rw[a0f (y b f q),Array.append_empty];show q)) λb u q=>?_
 by_cases hb:b=a
 .subst hb;rw[a0e]at q;cases q;show(g,p,k,t,x,h)
 .rw[a0f hb]at q;show (I.hok b u q).stay (λc v _ r=>r) (λc r=>by rw[a0f (m c b r)];show r) λc d r=>by rw[a0f (j c d r)];show r
def iDct(tl:TE):TI:=fun σ H R=>tl σ H λx H1=>∃a kvs,x=.ref a/\((H1 a=bH (.dK kvs)/\∀o,R (ItD o a kvs) (upd H1 a (.frz o (.dK kvs))))\/∃o,H1 a=bH (.frz o (.dK kvs))/\R (ItD o a kvs) H1)
def b4N(hl:PE X l tl):PI X tg l (iDct tl):=by
 ext c s σ H R I h;show thn (hl c s σ H _ I h) λv d (x,B,r,C,E)=>?_;let(a,f,e,q):=E;subst e;cases C;let k:∀o i,Inv X c σ i d->i a=bH (.frz o (.dK f))->R _ i->wpAny _ X.A _ (PIE X c σ tg R) X.xe d:=λo i j m q=>by
  let(g,M,t,L,D,y):=(j.hok a _ m);let(N,n):=y.dictAt;let p:=n;let(J,G,u,_,F,_):=p;rw[g]at u;cases u;show wpAny_pyIter_dict t n (d.heap.objs.size,[d.heap.objs.size],_,_,i,rfl,j.kept λb o e=>Heap.get?_push_of_some _ e,a93 a _ f F,(_,Heap.get?_push_size _ rfl,rfl,by rw[a2R D];rfl),λb z=>?_,q);let e:b=d.heap.objs.size:=by grind
  subst e;show j.fpOk (bd _) (j.hok.fresh (bd _))
 let(m,q)||(o,m,q):=q
 .let(o,j):=r.freeze m;show k o _ j a0e (q o)
 .show k o B r m q
end
noncomputable def keyW:Key->Z
 |.inl (bH i)=>.int i
 |.inl gV=>.non
 |.inr s=>.str s
theorem b1Y{K:Fg}:∀k:Key,Rep K H (keyW k) (kV k)
 |.inl (bH i)=>by change Rep K H (.int i) (.int i);rw[a0l]
 |.inl gV=>by change Rep K H .non .non;rw[a0z]
 |.inr s=>by change Rep K H (.str s) (.str s);rw[a0u]
def wkD(x:Z)(G:Hq)(R:List Z->(Hq->Prop)->Hq->Prop):Prop:=match x with
 |.ref a=>∃kvs,(G a=bH (.dK kvs)\/G a=bH (.dF kvs))/\R (kvs.map λp=>keyW p.1) (λ_=>True) (put G a (.dF kvs))
 |_=>False
def iD(tl:E3):I3:=fun σ G R=>tl σ G λx G1=>wkD x G1 R
def a32{K:Fg}{kvs:List (Key×Z)}(e:H0 a=bH (.frz o (.dK us)))(hn:us.map (·.1)=kvs.map (·.1)):a2V K (kvs.map λp=>keyW p.1) (λ_=>True) (ItD o a us) H0:=λi G H g t n j=>by
 let d:=t.frd _ _ _ e;let l:us.length=kvs.length:=by let:=congrArg bL hn;o_head this
 rw[a9]at j;show(λh=>(d,by rw[a9]at h;lia),λw b=>?_);rw[bo]at b;cases hk:kvs[i]? with
 |none=>rw[hk]at b;cases b
 |some p=>
  rw[hk]at b;cases b;let k:=(bh.mp hk).1;show((d,by lia),?_);ext x m ⟨rfl,q,f,rfl⟩
  let:q.1=p.1:=by
   let c:(us.map (·.1))[i]?=bH q.1:=by rw[bo,f];rfl
   rw[hn,bo,hk]at c;show (bH.inj c).symm
  rw[this];show(b1Y _,g,.refl _ _)
section
variable{tg l:Expr}{tl:E3}
def b4O(hl:QE X l tl):QI X tg l (iD tl):=a40 (b4N hl.p) fun τ H B u=>u.un fun σ G R z A h t=>by
 show(σ,G,_,z,A,h,λw r v q d k c s=>?_);cases w with
 |ref a=>
  let(j,e,d):=d;let e||e:=e
  .let(g,f,i,n):=c _ _ e;show(a,g,k,.inl (f,λo=>?_));let m:TK X.K q (L2.upd q a (.frz o (.dK g))):=.dK f;show t _ _ _ _ _ d (a32 a0e i) (c.set m (o,g,a0e,i,n.mono m)) (s.trans m)
  .let x:=e;let(o,g,f,i,n):=c _ _ e;show(a,g,k,.inr (o,f,?_));let y:put r a (.dF j)=r:=by
    funext b
    unfold put
    split
    .simp_all
    .rfl
   rw[y]at d;show t _ _ _ _ _ d (a32 f i) c s
 |_=>show bj d
def i_iD(h:tl σ G λx G1=>wkD x G1 R):iD tl σ G R:=h
def b98(e:G p=bH (.dK kvs)\/G p=bH (.dF kvs))(h:R (kvs.map λp=>keyW p.1) (λ_=>True) (put G p (.dF kvs))):wkD (.ref p) G R:=(kvs,e,h)
end
def a94:∀{ss:List Str}{us:List Value},Vals (ss.map V.str) us->jm us ss:=by ext z0;induction z0 with
 |nil=>ext us r;rw[bN]at r;cases r;show .nil
 |cons s ss I0=>
  ext us r;cases r with
  |cons r1 r2=>let(t,rfl):=r1;show .cons s t (I0 r2)
def a5f:∀{vs:List Value}{ss:List Str},jm vs ss->Vals (ss.map V.str) vs:=by ext z0 y0 x0;induction x0 with
 |nil=>show .nil
 |cons s t h I0=>show .cons (t,rfl) (I0)
def b1Z(K:Fg):List V->Hp->VK->Prop:=λxs H Q=>∃(p:Addr)(ss:List Str),xs=[.ref p]/\SqL K H p (ss.map V.str)/\ss.length<64 /\
 ∀(t:Addr)(ts:List Str),H t=gV->ts.Perm ss->iX ts=kz->Q (.ref t) (upd H t (.lst (ts.map V.str)))
def a5g:CallR X (.builtin "sorted") (b1Z X.K):=by
 ext k s σ H y z Q I r h;let(p,x,rfl,g,t,q):=h;let(u,rfl,i):=a2v r;cases i;let(c,n,m,_):=I.list g;let f:=a94 n;let v:=f.length;show sorted_strs m.isList f (by lia) λa b o d l=>?_;let(e,j):=sortedAll_at s.heap c a;show(.ref _,_,I.laid (λ_ _=>sortedAll_old) (dg _) (show ObjOk X.prog X.w _ _ _ (.lst _) from (by rw[a9,d.length_eq,ie];lia,a.toList,e,a5f o,↑j)),rfl,q _ b (I.hok.fresh (dg _)) d l)
def a2C{K:Fg}:∀ss:List Str,Reps K H (ss.map Z.str) (ss.map V.str):=by ext z0;induction z0 with
 |nil=>rw[bN,bN,a0n]
 |cons s ss I0=>
  show(_,_,rfl,by rw[a0u],I0)
def a33{K:Fg}:∀{ss:List Str}{vs:List V},Reps K H (ss.map Z.str) vs->vs=ss.map V.str:=by ext z0;induction z0 with
 |nil=>ext vs h;rw[bN,a0n]at h;subst h;rfl
 |cons s ss I0=>
  ext vs h;let(v,r,rfl,a,b):=h;rw[a,I0 b];rfl
def a62:List Z->Hq->K3->Prop:=λxs G R=>match xs with
 |[.ref p]=>∃ss:List Str,G p=bH (.lst (ss.map Z.str))/\ss.length<64/\∀(t:Addr)(ts:List Str),G t=gV->ts.Perm ss->iX ts=kz->R (.ref t) (put G t (.lst (ts.map Z.str)))
 |_=>False
def a95:a1R X (.builtin "sorted") a62:=a1j a5g λu H Q n=>n.un λg G R j b h q=>by
 match g,h with
 |[.ref p],h=>
  let(v,rfl,r):=j.one;let(i,e,d,h):=h;let(s,k,l):=b _ _ e
  let:=a33 l
  subst this;show(p,i,by rw[r],SqL.of k,d,λt a c f m=>q _ _ _ _ (h t a (b.out c) f m) (by rw[a0s]) (b.set (.new c) (_,a0e,a2C a)) (.new c))
def a96(e:G p=bH (.lst (ss.map Z.str)))(z:ss.length<64)(h:∀(t:Addr)(ts:List Str),G t=gV->ts.Perm ss->iX ts=kz->R (.ref t) (put G t (.lst (ts.map Z.str)))):a62 [.ref p] G R:=(ss,e,z,h)
structure Cl where
 x:Str
 np:Pos
 b₀:Stmt
 suite:List Stmt
 hp:Pos
noncomputable def Cl.h(n:Str)(c:Cl):ExceptHandler:=.ExceptHandler (bH (.Name c.x c.np)) (bH n) (c.b₀::c.suite) c.hp
inductive Picks (X:Cx) (C:Addr) (th:Addr->TS):List Cl->Prop
 |here {c:Cl} {cs:List Cl} {D:Addr} (hg:Gl X c.x) (hm:X.mg c.x=bH (.ref D)) (hd:(c.x==("__debug__":Str))=kQ) (hD:PySem.W.exmOne X.K (.ref C) (.ref D)=bH kz)
   (hh:∀e oe,oe.cls=.ref C->oe.dict=gV->PySem.W.notCls oe=kz->PSs (X.hnd e oe) (c.b₀::c.suite) (th e)):Picks X C th (c::cs)
 |next {c:Cl} {cs:List Cl} {D:Addr} (hg:Gl X c.x) (hm:X.mg c.x=bH (.ref D)) (hd:(c.x==("__debug__":Str))=kQ) (hD:PySem.W.exmOne X.K (.ref C) (.ref D)=bH kQ) (hp:Picks X C th cs):Picks X C th (c::cs)
inductive Alt (X:Cx) (cs:List Cl):List (Addr×(Addr->X3))->Prop
 |nil:Alt X cs []
 |cons {C:Addr} {th:Addr->X3} {l:List (Addr×(Addr->X3))} (h:Picks X C (λe=>lowS X.K (th e)) cs) (hs:Alt X cs l):Alt X cs ((C,th,)::l)
theorem Alt.get:∀{l:List (Addr×(Addr->X3))},Alt X cs l->∀p∈l,Picks X p.1 (λe=>lowS X.K (p.2 e)) cs
 |_,.nil,p,h=>by simp at h
 |_,.cons h hs,p,hp=>by
  let rfl||hp:=bf.mp hp
  .cbv
  .show hs.get p hp
def Inv.melt(I:Inv X pins σ H s)(e:H a=bH (.frz o (.dK kvs)))(n:∀o u,X.H₀ a≠bH (.frz o u)):Inv X pins σ (upd H a (.dK kvs)) s:=by
 let(g,E,j,A,B,t):=(I.hok a _ e);let i:∀b,H b=gV->b≠a:=λb q z=>by rw[z,e]at q;cases q
 let k:∀b d,H b=bH (.tup d)->b≠a:=λb d q z=>by rw[z,e]at q;cases q
 let D:∀b f,H b=bH (.tbl f)->b≠a:=λb f q z=>by rw[z,e]at q;cases q
 let L:∀b c,H b=bH (.own c)->b≠a:=λb c q z=>by rw[z,e]at q;cases q
 show(I.ok,I.os,I.bare,(I.base.keep,I.base.slot,λb o F C y=>?_,I.base.there,λb d q=>?_,λb o u q=>?_,λb f q=>?_),I.loc,I.cell,?_,λx c q=>?_,λp M=>?_,λb u q=>?_,I.len)
 .let h:=I.base.free b o F C y;rw[a0f (i b h)];show h
 .let h:=I.base.tups b d q;rw[a0f (k b d h)];show h
 .rw[a0f (λz=>n o u (by simp_all))];show I.base.frzs b o u q
 .let(m,h):=I.base.tbls b f q;show(m,by rw[a0f (D b _ h)];show h)
 .rw[a0f (i _ I.free)];show I.free
 .let h:=I.freeC x c q;rw[a0f (i _ h)];show h
 .let(G,l,J):=I.pin p M;show(G,by rw[a0f (i _ l)];show l,J)
 .by_cases hb:b=a
  .subst hb;rw[a0e]at q;cases q;show(E,j,A,B,t)
  .rw[a0f hb]at q;show (I.hok b u q).stay (λc v _ r=>r) (λc r=>by rw[a0f (L c b r)];show r) λc d r=>by rw[a0f (k c d r)];show r
section
variable{K:Fg}{H1:Hp}{a:Addr}{us us1:List (Key×V)}{o:Obj}{e:Expr}{t:E3}{G:Hq}{kvs:List (Key×Z)}
def a3s(h:H1 a=bH (.frz o (.dK us1))):TW K H1 (upd H1 a (.dK us1)):=
 (λc b q=>by rw[a0f (λz=>by rw[z,h]at q;cases q)];show q,λc b q=>by
  let(o',q)||q:=q
  .show .inl (o',by rw[a0f (λz=>by rw[z,h]at q;cases q)];show q)
  .show .inr q)
def b4P(h0:H a=bH (.dK us))(t:TK K H H1)(h:H1 a=bH (.frz o (.dK us1))):TK K H (upd H1 a (.dK us1)):=
 (λc b q=>(a3s (K:=K) h).tup c b (t.tup c b q),λc b q=>(a3s (K:=K) h).frz c b (t.frz c b q),λc d u q=>by
  rw[a0f (λz=>by rw[z,h0]at q;cases q)];show t.frd c d u q)
def b99(t:TW K H H1)(fc:∀b o c q,H b=bH (.frz o (a8X c q))->H1 b=bH (.frz o (a8X c q)))(e:H1 b=H b)(h:ROb K H b o'):ROb K H1 b o':=by
 cases o' with
 |lst ws=>let(a,q,r):=h;show(a,e.trans q,r.monoW t)
 |dK kvs=>let(a,q,n,r):=h;show(a,e.trans q,n,r.monoW t)
 |ins C dx fs=>let(a,q,n,r):=h;show(a,e.trans q,n,r.monoW t)
 |dF kvs=>let(d,a,q,n,r):=h;show(d,a,e.trans q,n,r.monoW t)
 |dT ks=>let(a,q,n):=h;show(a,e.trans q,n)
 |tab p q=>show Tab.stay (λb o c k=>fc b o c _ k) e h
def b4Q(g:RH K G H1)(e1:G a=bH (.dF kvs)):∃o us1,H1 a=bH (.frz o (.dK us1))/\RH K (put G a (.dK kvs)) (upd H1 a (.dK us1)):=by
 let(o,d,h,f,i):=g _ _ e1;show(o,d,h,λb e q=>?_)
 by_cases hb:b=a
 .subst hb;rw[a0a]at q;cases q;show(d,a0e,f,i.monoW (a3s h))
 .rw[a0h hb]at q;show b99 (a3s h) (λc o x y z=>by rw[a0f (λw=>by rw[w,h]at z;cases z)];show z) (a0f hb) (g b e q)
def uUnf(t:E3):E3:=fun σ G R=>∃a kvs,G a=bH (.dK kvs)/\t σ G λv G'=>G' a=bH (.dF kvs)/\R v (put G' a (.dK kvs))
def c0a(h:QE X e t):QE X e (uUnf t):=⟨λf s τ H Q I z=>by
 let(σ,G,R,y,j,(a,d,x,A),C):=z;let(F,k,L,J):=j _ _ x;show thn (h.p f s τ H (λv c=>Ex2 λw b=>An5 (Rep X.K c w v) (RH X.K b c) (TK X.K H c) (b a=bH _) (R w _)) I (σ,G,_,y,j,A,λw b v c q r g t=>(w,b,r,g,t,q.1,q.2))) λu E (v,c,l,m,w,b,r,g,t,n,q)=>?_;let(o,D,i,B):=b4Q g n;show(v,_,l.melt i (λo u z=>by let:=I.base.frzs a o u z;rw[k]at this;cases this),m,C w _ v _ q (r.monoW (a3s i)) B (b4P k t i))⟩
def c0b(e:G a=bH (.dK kvs))(h:t σ G λv G'=>G' a=bH (.dF kvs)/\R v (put G' a (.dK kvs))):uUnf t σ G R:=(a,kvs,e,h)
end
namespace DictP
def a34:jJ table "dict.update.loop"=bH gU.«dict.update.loop»:=entryFor_of_tree (by kernel_rfl)
def a2D:plainId "dict.update.loop"=kz:=by decide +kernel
def b4R:typeLookup (.type "list") "keys"=pure gV:=am_miss_of_fast (by decide +kernel)
section
variable{a:Addr}{xs:Array Value}{k:Nat}{sl:Array (Option Value)}
def a97(hx:s.heap.get? a=bH { cls:=.type "list",dict:=gV,data:=.seq xs k,slots:=sl })(hA:A.handled=gV)
  (h:∀h' tk,(∀b ob,s.heap.get? b=bH ob->h'.get? b=bH ob)->Q gV { s with heap:=h',toks:=tk }):wpAny (model prog w) A (getAttr? (.ref a) "keys") Q E s:=by
 let(hp,g,d,tk,os):=s;let hT:∀tk',((hp,g,d,tk',os):Shared).TypeIs (.ref a) "list":=λ_=>(_,hx,rfl);let f1:=sub_AttributeError;let f3:=F.slot_list_getattribute.lookup;let f4:=F.slot_list_getattribute.bind (.ref a);let f5:=am_list_getattr_none;unfold getAttr? getAttrBy? getAttrBy
 repeat (any_goals (first |assumption |show hT _ | ((with_reducible change wpAny _ _ (call (Value.builtin "list.__getattribute__") _ _) _ _ _);show kr F.slot_list_getattribute (hT _) am_entry_list_getattribute (F.args_list_getattribute_2 _ _) (meets_getattribute_miss_list a xs k sl "keys" _ b4R (by decide +kernel)) (hx,hA,λh' tk' e hx'=>?_)) |wp_step))
 let(t',u',he):=hx'.there
 change wpAny _ _ (getattributeRaised _ _ _ _ _ _ _) _ _ _
 unfold getattributeRaised
 repeat (any_goals (first |assumption |wp_step))
 show h _ _ hx'.keeps
def a7U(g:s.heap.get? t=bH o)(hc:o.cls=.type "tuple")(hd:o.data=.seq #[x,kR] n)(h:Q [x,kR] s):wpAny (model prog w) A (gU.Dict.pairItems (.ref t)) Q E s:=by
 let(c,a,b,e):=o;simp only at hc hd;subst hc hd
 repeat (any_goals (first |assumption |wp_step))
end
abbrev Sv(h h':Heap):Prop:=∀b o,h.get? b=bH o->h'.get? b=bH o
section
variable{R:Result->Shared->Prop}{I:Addr}{fp wr:List Addr}{G:Array jW->Array jW->Prop}{n:Nat}{P:Nat->Value->Prop}{St:Nat->Shared->Prop}
def b3c(prog:gT)(w:World)(A:Around)(h0:Heap)(D:Nat->Heap->Prop)(d:Addr)(i:Nat)(v:Value):Prop:=∃t o x y m,v=.ref t/\h0.get? t=bH o/\o.cls=.type "tuple"/\o.data=.seq #[x,y] m /\
 ∀(E:Value->Shared->Prop)(s:Shared)(Q:Unit->Shared->Prop),Sv h0 s.heap->D i s.heap->(∀h' tk,s.toks<=tk->D (i+1) h'->Heap.SameBut d s.heap h'->Q () { s with heap:=h',toks:=tk })->wpAny (model prog w) A (dictSet d x y) Q E s
def c0c(W:WalksS prog w A.in1 I fp wr G n P St)(d:Addr)(hdf:d∉fp)(dm:∀i h h',D i h->Sv h0 h->Sv h0 h'->(∀o,h.get? d=bH o->h'.get? d=bH o)->D i h')
  (nw:∀b o,h0.get? b=bH o->b≠d/\b∉wr) (hP:∀j v,P j v->b3c prog w A.in1 h0 D d j v) :
  ∀(k i:Nat)(s:Shared),n-i=k->i<=n->St i s->Sv h0 s.heap->D i s.heap->(∀s',Moved (d::wr) G s s'->D n s'.heap->R (.ok (.ret .none)) s') ->
   iy (model prog w) A (.builtin "dict.update.loop" ([.ref d,.ref I,rawInt i,.none],[])) R s:=by
 let r:=λh=>hdf (W.sub _ h);let V:∀b∈wr,b∈d::wr:=λb q=>cg _ q;ext k
 induction k with
 |zero=>
  ext i s hk hi p l F E;let L:i=n:=by lia
  subst L;show iW a34 (gJ (W.done s _ _ p λa c=>(gJ (gK (gK (E a (c.mono V) (dm _ _ _ F l (λb o e=>c.heap b o (nw b o e).2 (l b o e)) λo e=>c.heap d o r e)))))))
 |succ k ih=>
  ext i s hk hi p l F E;show iW a34 ?_;rw[Around.under_plainId a2D _];show gJ (W.item i s _ _ (by lia) p λv a M B c=>?_);let(t,o,x,y,m,rfl,g,hc,X,N):=hP i v M;let f:=λb o e=>c.heap b o (nw b o e).2 (l b o e);show gJ (ib (gJ (wpAny_tryCatch (a7U (f t o g) hc X (ib (N _ _ _ f (dm _ _ _ F l f λo e=>c.heap d o r e) λS tk J T Q=>?_))))));let u:∀b o,b≠d->a.heap.get? b=bH o->S.get? b=bH o:=λb o Y e=>by rw[Q.2 b Y];show e
  show gK (jj a2D _,?_);show ih (i+1) { a with heap:=S,toks:=tk } (by lia) (by lia) (W.frame _ a _ _ B J λb q o e=>u b o (λz=>hdf (z▸q)) e) (λb o e=>u b o (nw b o e).1 (f b o e)) T
   λU H C=>E U (Moved.trans W.gtrans ((c.mono V).then_heap J λb o q e=>u b o (λz=>q (z▸cn)) e) H) C
def b4S(hh:A.handled=gV)
  (hl:s.heap.get? l=bH { cls:=.type "list",dict:=gV,data:=.seq items c,slots:=sl }) (dm:∀i h h',D i h->Sv s.heap h->Sv s.heap h'->(∀o,h.get? s.heap.objs.size=bH o->h'.get? s.heap.objs.size=bH o)->D i h')
  (d0:D 0 (s.heap.push { cls:=.type "dict",data:=.dict #[] })) (hi:∀(j:Nat) v,items[j]?=bH v->b3c prog w A.in1.in1 s.heap D s.heap.objs.size j v)
  (h:∀(h':Heap)(tk:Nat),D items.size h'->Sv s.heap h'->Q (.ref s.heap.objs.size) { s with heap:=h',toks:=tk }) :
  wpAny (model prog w) A (call (.type "dict") [.ref l]) Q E s:=by
 show callType_codes (Q₁:=λm u=>m=.ref s.heap.objs.size/\u={ s with heap:=s.heap.push { cls:=.type "dict",data:=.dict #[] } }) F.kt_called_dict (F.kt_typeCall_dict_1 _) F.entry_dict_init (kt_code_dict_new _ (rfl,rfl)) ?_;ext m u ⟨rfl,rfl⟩;let f:(s.heap.push { cls:=.type "dict",data:=.dict #[] }).get? l=bH { cls:=.type "list",dict:=gV,data:=.seq items c,slots:=sl }:=Heap.get?_push_of_some _ hl;let L:Shared.TypeIs { s with heap:=s.heap.push { cls:=.type "dict",data:=.dict #[] } } (.ref l) "list":=(_,f,rfl);let H:Shared.TypeIs { s with heap:=s.heap.push { cls:=.type "dict",data:=.dict #[] } } (.ref s.heap.objs.size) "dict":=(_,Heap.get?_push_size _ rfl,rfl);show(H,F.args_dict_init_2 _ _,?_);show gJ (gJ (kM H (gK ?_)))
 change wpAny _ _ (gU.Dict.updateFrom "dict.__init__" s.heap.objs.size (.ref l) [] .none) _ _ _
 show gJ (jQ L (gJ (a97 f (by lia) λa t1 k=>?_)));let C:a.IsList l items:=(_,k l _ f,rfl,c,rfl);show gJ (iN (gJ (jx C (gK (jj a2D _,?_)))));let t:=Heap.lt_size hl;let p:=Heap.lt_size (k _ _ (Heap.get?_push_size _ rfl));let Y:A.in1.in1.handled=gV:=by lia
 let W:s.heap.objs.size∉[a.objs.size,l]:=by grind
 let q:∀b o,s.heap.get? b=bH o->b≠s.heap.objs.size/\b∉[a.objs.size]:=λb o e=>by
  let r:=Heap.lt_size e;show(bt r,λn=>by rw[bg.mp n]at r;show cC _ (dO r p))
 let d:∀x,Sv s.heap (a.push x):=λx b o e=>Heap.get?_push_of_some _ ((λb o e=>k b o (Heap.get?_push_of_some _ e)) b o e);show c0c ((Walks.list Y _ l (bt (dO t p)) items).toS) s.heap.objs.size W dm q hi (items.size-0) 0 _ (by lia) (bR _)
  ((_,Heap.get?_push_size _ rfl,rfl,rfl),C.push _) (d _) (dm 0 _ _ d0 (λb o e=>Heap.get?_push_of_some _ e) (d _) λo e=>Heap.get?_push_of_some _ (k _ o e)) λR g V=>?_
 let(S,T,J,y,B):=R;let U:T=s.gens:=g.gens;let X:J=s.drawn:=g.drawn;let I:B=s.os:=g.os;subst U X I;show(rfl,h S y V λb o e=>g.heap b o (λn=>?_) (d _ b o e));let z||z:=bf.mp n
 .show (q b o e).1 z
 .simp_all
end
section
variable{K:Type}[DecidableEq K]{knd:KeyKind prog w K}
def PairAt(knd:KeyKind prog w K)(h:Heap)(v:Value)(r:K×Value):Prop:=∃t o key m,v=.ref t/\h.get? t=bH o/\o.cls=.type "tuple"/\o.data=.seq #[key,r.2] m/\knd.is r.1 key=kz
def call_pairs(hh:A.handled=gV)
  (hl:s.heap.get? l=bH { cls:=.type "list",dict:=gV,data:=.seq items c,slots:=sl }) (hi:∀(j:Nat) v,items[j]?=bH v->∃r,rows[j]?=bH r/\PairAt knd s.heap v r) (hn:items.size=rows.length) (hz:rows.length<=gN)
  (h:∀(h':Heap)(tk:Nat),h'.DictOf knd s.heap.objs.size (merged [] rows)->(∀b o,s.heap.get? b=bH o->h'.get? b=bH o)->Q (.ref s.heap.objs.size) { s with heap:=h',toks:=tk }) :
  wpAny (model prog w) A (call (.type "dict") [.ref l]) Q E s:=by
 show b4S (D:=λi h=>h.DictOf knd s.heap.objs.size (merged [] (rows.take i))) hh hl (by ext i h d ⟨o,G,C,z,n⟩ _ _ q;show(o,G,C,q _ z,n)) (Heap.DictOf.new s.heap) (λj v e=>?_) λd H a F=>h d H (by simp_all) F;let(r,B,t,o,p,m,rfl,g,y,x,k):=hi j v e;show(t,o,p,r.2,m,rfl,g,y,x,λE J Q I a q=>wpAny_dictSet_pairs k a (λd f u=>q d _ (dg _) (by rw[<- merged_take_succ _ _ _ _ B]at f;show f) u) ?_)
 let:=merged_length_le [] (rows.take j)
 simp at this
 lia
end
end DictP
noncomputable def a7V(rows:List (Addr×Key×V))(acc:List (Key×V)):List (Key×V):=rows.foldl (λacc r=>putK acc r.2.1 r.2.2) acc
def b74(X:Cx):List V->Hp->VK->Prop:=λxs H Q=>∃(p:Addr)(rows:List (Addr×Key×V)),xs=[.ref p]/\SqL X.K H p (rows.map λr=>V.ref r.1)/\(∀r∈rows,H r.1=bH (.tup [kV r.2.1,r.2.2]))/\rows.length<=1000 /\
 ∀t,H t=gV->Q (.ref t) (upd H t (.dK (a7V rows [])))
def b10(ok:HOk P w H h):∀{rows:List (Addr×Key×V)},(∀r∈rows,H r.1=bH (.tup [kV r.2.1,r.2.2]))->∃vs:List (Key×Value),vs.length=rows.length /\
  (∀(j:Nat) r,rows[j]?=bH r->∃q,vs[j]?=bH q/\DictP.PairAt (a0g P w) h (.ref r.1) q)/\∀acc bcc,KV acc bcc->KV (a7V rows acc) (merged bcc vs):=by ext z0;induction z0 with
 |nil=>ext _;show([],rfl,λj r e=>by simp at e,λ_ _ k=>k)
 |cons r rows I0=>
  ext hr;let(m,p,d,l):=I0 λr a=>hr r (.tail _ a);let(_,y,s,o,i,f,n,t):=(ok _ _ (hr r (.head _)));let(b,u,rfl,g,c):=Vals.two s;show((r.2.1,u,)::m,by rw[bv,bv,p],λj q e=>?_,λx v k=>l _ _ (k.put r.2.1 c));cases j with
  |zero=>
   cases e;show(_,rfl,r.1,o,b,n,rfl,i,f,t,a7D g)
  |succ j=>show d j q (by simp_all)
def a98:∀(rows:List (Addr×Key×V))(acc:List (Key×V)),(a7V rows acc).length<=acc.length+rows.length:=by ext z0;induction z0 with
 |nil=>ext _;show bd _
 |cons r rows I0=>
  ext acc
  let:=I0 (putK acc r.2.1 r.2.2)
  let:=a1h acc r.2.1 r.2.2
  change (a7V rows (putK acc r.2.1 r.2.2)).length<=_
  rw[bv];lia
def a7W(hc:X.calm=kz):CallR X (.type "dict") (b74 X):=by
 ext f s σ H xs us Q I r h;let(p,rows,rfl,T,ht,hz,q):=h;let(u,rfl,V):=a2v r;cases V;let(d,z,(o,n,F,C,E,B),_):=I.list T;let(c,dd,dt,sl):=o;subst C E B;let(A,k,h2,W):=b10 I.hok ht;let G:d.length=rows.length:=by let:=z.length;rw[a9]at this;lia
 let b:A.length<=sizeLine:=by grind
 show DictP.call_pairs (knd:=a0g X.prog X.w) (I.ok.hd hc) F (λj v e=>?_) (by grind) b λg t M U=>?_
 .let l:d[j]?=bH v:=↑e
  obtain⟨r,D⟩:∃r,rows[j]?=bH r:=(rows[j]'(by grind),bn _);let(q,m,pa):=h2 j r D;let(u,y,N):=z.get (by rw[bo,D];rfl);rw[l]at y;cases y;rw[N];show(q,m,pa)
 .let L:=W [] [] .nil;let Y:=(a6E (P:=X.prog) (w:=X.w) (H:=λ_=>gV) s.heap I.big).2.1;let R:=a98 rows [];let J:=
   I.laid (t':=t) U (bd _) (show ObjOk X.prog X.w _ g _ (.dK _) from (by rw[ie];simp at R;lia,Y,_,L,M))
  show(.ref s.heap.objs.size,_,J,rfl,q _ (I.hok.fresh (bd s.heap.objs.size)))
def a7X(h64:ss.length<64)
  (hcol:∀R:List Value->Shared->Prop,(∀(g:Heap)(tk:Nat)(d:Drawn)(vs:List Value)(ks:List Str),(∀b o,s.heap.get? b=bH o->g.get? b=bH o)->jm vs ks->ks.Perm ss->R vs { s with heap:=g,drawn:=d,toks:=tk })->wpAny (model P w) A.in1 (collect (.ref r)) R E s)
  (h:∀(g g':Heap)(tk:Nat)(d:Drawn)(out:List Value)(n:Nat)(ts:List Str),(∀b o,s.heap.get? b=bH o->g.get? b=bH o)->(∀b o,g.get? b=bH o->g'.get? b=bH o)->g'.get? g.objs.size=bH { cls:=.type "list",data:=.seq out.toArray n } ->
   jm out ts->ts.Perm ss->iX ts=kz->Q (.ref g.objs.size) { s with heap:=g',drawn:=d,toks:=tk }):wpAny (model P w) A (call (.builtin "sorted") [.ref r]) Q E s:=by
 show Calls.call_function_entry kind_sorted plain_sorted entry_sorted (args_sorted1 _) (gJ (gK (gJ (hcol _ λg t d f D x c l=>?_))));let F:=c.length.trans l.length_eq;let z:f.length<=sizeLine:=by rw[ie];lia
 show gJ (kG ?_ z);let k:(g.push _).get? g.objs.size=bH (seqObj "list" f.toArray 0):=Heap.get?_push_size _ rfl;show gJ (ib (im slot_list_sort (_,k,rfl) entry_list_sort (list_sort_treeK strKind_oneLt k c.keysOf (λH G B e=>keyKind_strs (e▸c)) (by lia) λi p v=>(_,rfl,?_)) (args_list_sort _)));let(y,u,C,q):=sorted_out_str c p v;let a:=sortedHeap_at (out:=(arrOf i).map (·.2)) k;let(n,a):=a;show gK (_,rfl,h g _ t d ((arrOf i).map (·.2)).toList n y x (λb o e=>?_) (by cbv) u (C.trans l) q);let j:=Heap.lt_size e;rw[sortedHeap_old (bt j) (by rw[Heap.size_push];show dj j)];show Heap.get?_push_of_some _ e
section
variable{K:Fg}
def b11(h:Rep K H (keyW k) v):v=kV k:=by
 match k,h with
 |.inl (bH i),h=>rw[show keyW _=.int i from rfl,a0l]at h;show h
 |.inl gV,h=>rw[show keyW _=.non from rfl,a0z]at h;show h
 |.inr x,h=>rw[show keyW _=.str x from rfl,a0u]at h;show h
noncomputable def prZ(r:Key×Z):Z:=.tup [keyW r.1,r.2]
def b4T:∀{rows:List (Key×Z)}{vs:List V},Reps K H (rows.map prZ) vs->∃rs:List (Addr×Key×V),vs=rs.map (λr=>V.ref r.1)/\(∀r∈rs,H r.1=bH (.tup [kV r.2.1,r.2.2]))/\rs.length=rows.length /\
  ∀acc bcc,bcc.map (·.1)=acc.map (·.1)->Reps K H (acc.map (·.2)) (bcc.map (·.2))->(a7V rs bcc).map (·.1)=(a2Q acc rows).map (·.1)/\Reps K H ((a2Q acc rows).map (·.2)) ((a7V rs bcc).map (·.2)):=by ext z0;induction z0 with
 |nil=>
  ext vs h;show([],h,λr e=>by simp at e,rfl,λf g b c=>(b,c))
 |cons r rows I0=>
  ext vs h;let(v,x,rfl,b,c):=h;let(t,rfl,l,n,u):=I0 c;let(a,y,rfl,p,e):=b;let(z,w,rfl,j,i):=e.two
  let:=b11 j
  subst this;show((a,r.1,w,)::t,rfl,λq d=>?_,by rw[bv,bv,n],λf g b s=>?_)
  .let rfl||d:=bf.mp d
   .grind
   .show l q d
  .let(m,o):=a4s i b s;show u _ _ m o
def b3d:List Z->Hq->K3->Prop:=λxs G R=>match xs with
 |[.ref p]=>∃rows:List (Key×Z),G p=bH (.lst (rows.map prZ))/\rows.length<=1000/\∀t,G t=gV->R (.ref t) (put G t (.dK (a2Q [] rows)))
 |_=>False
def b4U(hc:X.calm=kz):a1R X (.type "dict") b3d:=a1j (a7W hc) λx H Q n=>n.un λg G R d b h q=>by
 match g,h with
 |[.ref p],h=>
  let(v,rfl,r):=d.one;let(c,e,w,h):=h;let(s,j,l):=b _ _ e;let(d,rfl,f,u,k):=b4T l;let(m,i):=k [] [] rfl .nil;show(p,d,by rw[r],SqL.of j,f,by lia,λt a=>q _ _ _ _ (h t (b.out a)) (by rw[a0s]) (b.set (.new a) (_,a0e,m,i.mono (.new a))) (.new a))
def b4V(e:G p=bH (.lst (rows.map prZ)))(z:rows.length<=1000)(h:∀t,G t=gV->R (.ref t) (put G t (.dK (a2Q [] rows)))):b3d [.ref p] G R:=(rows,e,z,h)
theorem Reps.dropLast:∀{ws:List Z}{vs:List V},Reps K H ws vs->Reps K H ws.dropLast vs.dropLast
 |[],vs,h=>by rw[a0n]at h;subst h;show .nil
 |[w],vs,h=>by
  let(v,rfl,_):=h.one;show .nil
 |w::w'::ws,vs,h=>by
  let(v,r,rfl,c,b):=h;let a:=b;let(e,d,rfl,_,_):=a;show .cons c (Reps.dropLast b)
end
theorem a99:∀{vs:List Value}{ss:List Str},jm vs ss->SetW.KsAre (PySem.strKind P w) vs ss
 |_,_,.nil=>.nil
 |_,_,.cons s t h=>.cons (strKind_is _ _ _ _) (a99 h)
def b4W(h:SetW.KsAre (PySem.strKind P w) vs ss):jm vs ss:=by
 induction h with
 |nil=>show .nil
 | @cons v k vs ks h _ ih=>
  cases v<;>simp[PySem.strKind,Value.isStrOf]at h
  subst h;show .cons _ _ ih
theorem a5h:∀{vs:List Value}{ss:List Str},jm vs ss->∀v∈vs,v.scannable=kz
 |_,_,.cons s t h,v,hv=>by
  let rfl||hv:=bf.mp hv
  .rfl
  .show a5h h v hv
def metK{K:Type}{k0:K}{ns ms:List K}(h:SetW.Met (λi=>ns.getD i k0) ns.length ms):∀x,x∈ms↔x∈ns:=λx=>by
 rw[h.2.2 x]
 constructor
 .ext⟨j,a,e⟩;let e:ns.getD j k0=x:=e;rw[cI,bn a]at e;show e▸cx a
 .ext b;let(j,a,e):=dR.mp b;show(j,a,by change ns.getD j k0=x;rw[cI,bn a];show e)
noncomputable def setS(X:Cx)(t:Addr)(ms:List Str):HO:=.ext λh=>SetW.SI (PySem.strKind X.prog X.w) h t ms
def b4X(X:Cx):List V->Hp->VK->Prop:=λxs H Q=>∃(p:Addr)(ns:List Str),xs=[.ref p]/\SqL X.K H p (ns.map V.str)/\ns.length<=1000 /\
 ∀(t:Addr)(ms:List Str),H t=gV->ms.Nodup->(∀x,x∈ms↔x∈ns)->ms.length<=ns.length->Q (.ref t) (upd H t (setS X t ms))
def a58(hc:X.calm=kz):CallR X (.type "set") (b4X X):=by
 ext d s σ H xs us Q I r h;let(p,ns,rfl,n,hz,q):=h;let(u,rfl,A):=a2v r;cases A;let(j,v,z,_):=I.list n;let f:=a94 v;let t:=f.length;let sb:1001<scanBound:=by decide
 let i:j.toArray.size=ns.length:=by grind
 show SetW.call_set (k0:=Str.ofString "") (I.ok.hd hc) z.isList ↑(a99 f) ↑(a5h f) (by grind) λg l a S M k=>?_;rw[i]at M;let m:=
  I.laid (t':=l) (λb o e=>k b o (Heap.lt_size e) e) (bd _) (show ObjOk X.prog X.w _ g _ (setS X s.heap.objs.size a) from (S,let (_,_,_,S'):=S;let (o,e,_):=S'.at_;(o,e),λ_ _ x y=>x.at y))
 show(.ref s.heap.objs.size,_,m,rfl,q _ a (I.hok.fresh (bd _)) M.1 (metK M) M.2.1)
def b0a(X:Cx):List V->Hp->VK->Prop:=λxs H Q=>∃(p:Addr)(ms:List Str),xs=[.ref p]/\H p=bH (setS X p ms)/\ms.length<64 /\
 ∀(t:Addr)(ks:List Str),H t=gV->ks.Perm ms->iX ks=kz->Q (.ref t) (upd H t (.lst (ks.map V.str)))
def a2g(hc:X.calm=kz):CallR X (.builtin "sorted") (b0a X):=by
 ext b s σ H M L Q I r h;let(p,c,rfl,v,x,q):=h;let(u,rfl,J):=a2v r;cases J;let D:=I.ok.hd hc;let S:=(I.hok p _ v).1;show a7X x (λR E=>SetW.collect_set D S λg a d y B t C G=>E g a d y B t (b4W C) G) λg z a d k n j o m e l f F=>?_;let i:Inv X b σ H { s with heap:=g,drawn:=d,toks:=a }:=(I.drew d).kept o;show(.ref g.objs.size,_,i.laid m (bd _) (show ObjOk X.prog X.w _ z _ (.lst _) from (by rw[a9,f.length_eq,ie];lia,k,n,a5f l,e)),rfl,q _ j (i.hok.fresh (bd _)) f F)
section
variable{e:Expr}{t:A3}{x:Str}{p p2 pos2:Pos}
def uSSS(t:A3):E3:=fun σ G R=>t σ G λws G1=>∃(p:Addr)(ns:List Str),ws=[.ref p]/\G1 p=bH (.lst (ns.map Z.str))/\ns.length<64 /\
 ∀(t:Addr)(ks:List Str),G1 t=gV->iX ks=kz->ks.Nodup->(∀x,x∈ks↔x∈ns)->ks.length<=ns.length->R (.ref t) (put G1 t (.lst (ks.map Z.str)))
def c0d{p:Addr}{ns:List Str}{R:K3}(e:G p=bH (.lst (ns.map Z.str)))(z:ns.length<64)
  (h:∀(t:Addr)(ks:List Str),G t=gV->iX ks=kz->ks.Nodup->(∀x,x∈ks↔x∈ns)->ks.length<=ns.length->R (.ref t) (put G t (.lst (ks.map Z.str)))) :
  ∃(q:Addr)(ns':List Str),[Z.ref p]=[.ref q]/\G q=bH (.lst (ns'.map Z.str))/\ns'.length<64 /\
   ∀(t:Addr)(ks:List Str),G t=gV->iX ks=kz->ks.Nodup->(∀x,x∈ks↔x∈ns')->ks.length<=ns'.length->R (.ref t) (put G t (.lst (ks.map Z.str))):=(p,ns,rfl,e,z,h)
def c0e(hc:X.calm=kz)(hg:Gl X x)(hm:X.mg x=gV)(hv:ij x=bH (.builtin "sorted"))(hg2:Gl X y)(hm2:X.mg y=gV)(hv2:ij y=bH (.type "set"))(ha:QA X (e::es) t)
  (he:gQ (e::es) X.env=(kQ,eval e X.env,)::gQ es X.env) (hpl:(backTo pos2 (gQ es X.env)).any (·.1)=kQ)
  (hn:x≠"__name__":=by decide) (hdb:(x==("__debug__":Str))=kQ:=by decide) (hn2:y≠"__name__":=by decide) (hdb2:(y==("__debug__":Str))=kQ:=by decide) :
  QE X (.Call (.Name x p) [.Call (.Name y p2) (e::es) [] pos2] [] pos) (uSSS t):=⟨a0J (a25 (a2g hc) hg hm hv (a4b (a1y (a58 hc) hg2 hm2 hv2 ha.p hn2 hdb2 he hpl) a6B rfl) hn hdb rfl rfl) fun τ H Q n=>n.un fun σ G R F hg h s=>
 (σ,G,_,F,hg,h,λws G1 vs H1 i I b A=>by
  let(p,q,rfl,E,z,i):=i;let(v,rfl,r):=I.one;let(vs',w,l):=b _ _ E
  let:=a33 l
  subst this;show(p,q,by rw[r],SqL.of w,by lia,λa m ha D C J=>(a,m,rfl,a0e,by lia,λu g d f B=>?_));let j:=b.hid (u:=setS X a m) ha;show s _ _ _ _ (i u g (j.out d) B (f.nodup_iff.mpr D) (λx=>by rw[f.mem_iff];show C x) (by rw[f.length_eq];show J)) (by rw[a0s]) (j.set (.new d) (_,a0e,a2C g)) (A.trans ((TK.new ha).trans (.new d))))⟩
end
namespace Tim
open PySem.W
def RowQ(h:Heap)(v:Value)(xs:List Pz):Prop:=∃a o its n ps b,v=.ref a/\h.get? a=bH o/\o.cls=.type "tuple"/\o.data=.seq its n/\its.toList=ps++[Value.ref b]/\PtsAre xs ps
def RowQ.uniq(r:RowQ h v xs)(q:RowQ h v ys):xs=ys:=by
 let(a,o,s,n,x,b,rfl,j,_,m,l,g):=r;let(z,y,k,u,t,w,i,f,_,d,c,p):=q;cases i;rw[j]at f;cases f;rw[m]at d;cases d;rw[l]at c;let e:=(List.append_inj' c rfl).1;subst e;show g.uniq p
def RowsQ(h:Heap):List Value->List (List Pz)->Prop
 |[],[]=>True
 |v::vs,x::xs=>RowQ h v x/\RowsQ h vs xs
 |_,_=>False
theorem RowsQ.mem:∀{vs:List Value}{rows:List (List Pz)},RowsQ h vs rows->∀v∈vs,∃x∈rows,RowQ h v x
 |v::vs,x::xs,(r,q),u,hu=>by
  let rfl||hu:=bf.mp hu
  .show(x,.head _,r)
  .let(y,a,b):=q.mem u hu;show(y,.tail _ a,b)
 |[],[],_,u,hu=>by simp at hu
 |[],_::_,r,_,_=>r.elim
 |_::_,[],r,_,_=>r.elim
theorem RowsQ.inj:∀{vs:List Value}{rows:List (List Pz)},RowsQ h vs rows->rows.Nodup->∀{v u x},v∈vs->u∈vs->RowQ h v x->RowQ h u x->v=u
 |w::vs,y::ys,(r,q),nd,v,u,x,hv,hu,e1,e2=>by
  let(e,g):=ci.mp nd;let c:∀{z},z∈vs->RowQ h z x->RowQ h w x->False:=λf a b=>by
   let(j,d,i):=q.mem _ f;rw[i.uniq a]at d;rw[b.uniq r]at d;show e d
  let c1||c1:=bf.mp hv
  .let c2||c2:=bf.mp hu
   .simp_all
   .rw[c1]at e1;show (c c2 e2 e1).elim
  .let c2||c2:=bf.mp hu
   .rw[c2]at e2;show (c c1 e1 e2).elim
   .show q.inj g c1 c2 e1 e2
 |[],[],_,_,_,_,_,hv,_,_,_=>by simp at hv
 |[],_::_,r,_,_,_,_,_,_,_,_=>r.elim
 |_::_,[],r,_,_,_,_,_,_,_,_=>r.elim
end Tim
section
variable{f:Addr}
def FpOk.re(f:FpOk X pl H b)(h:H' b=gV):FpOk X pl H' b:=(h,f.2)
end
noncomputable def ItV(o:Obj)(a:Addr)(kvs:List (Key×V)):It:=
 (λi H=>H a=bH (.frz o (.dK kvs))/\i<kvs.length,λi H x H'=>H'=H/\∃p,kvs[i]?=bH p/\x=p.2,λi H=>H a=bH (.frz o (.dK kvs))/\kvs.length<=i)
def b0b:∀{kvs:List (Key×V)}{vs:List (Key×Value)}{i:Nat}{p:Key×V},KV kvs vs->kvs[i]?=bH p->∃q,vs[i]?=bH q/\p.1=q.1/\RelV p.2 q.2:=by
 ext a
 induction a with
 |nil=>ext b i p h e;simp at e
 |cons p0 a ih=>
  ext b i p h e;cases h with
  |cons h1 h2=>
   cases i with
   |zero=>cases e;show(_,rfl,h1)
   |succ i=>show ih (i:=i) h2 ↑e
def b3e{X:Cx}{pins:List (Addr×Obj)}{σ:St}{H:Hp}{s:Shared}{a:Addr}{o:Obj}{kvs:List (Key×V)}{es:Array i9}{ep:Nat}(I:Inv X pins σ H s)(hd:o.data=.dict es ep)(ha:H a=bH (.frz o (.dK kvs))):∃vs,KV kvs vs/\vs.length=kvs.length/\(a==ic)=kQ/\s.heap.DictAt (a0g X.prog X.w) a vs ep:=by
 let(g,hz,hsm,vs,kv,dof):=(show ObjOk X.prog X.w H s.heap a (.frz o (.dK kvs)) from I.hok a _ ha);show(vs,kv,a2R kv,hsm,?_);let(o',es',ep',h1,h2,h3,h4):=dof;rw[g]at h1;cases h1;rw[hd]at h3;cases h3;show(o,es,g,h2,hd,h4)
theorem a59{P:gT}{w:World}{K:Fg}{tg:Expr}(a it:Addr){o:Obj}(kvs:List (Key×V)){es:Array i9}{ep:Nat}(hd:o.data=.dict es ep):Turn P w K tg (ItV o a kvs) [it] it (λi h=>h.IsValIter it a i kvs.length ep) where
 mem:=by simp
 obj:=λi h st b hb=>by
  let e:b=it:=↑hb
  subst e;let(o,e,c,d):=st;show(o,e,λv z=>by rw[d]at z;cases z)
 keep:=λi h h' st k=>let (o,e,r):=st;(o,k it (by simp) o e,r)
 item:=by
  ext X hP hw hK hc i pins s σ H E I hf st hg;subst hP hw hK;let(ha,hi):=hg;let(vs,kv,hl,hsm,dat):=b3e I hd ha;let(f0,f1,f2,f3,f4,f5):=hf it (by simp);obtain⟨p,hp⟩:∃p,kvs[i]?=bH p:=(kvs[i],bn hi);let((k,v),hq,e1,e2):=b0b kv hp;show wpAny_pyNext_values_item (by rw[hl];show st) dat hq λh' st' sb=>?_;let I1:Inv X pins σ H { s with heap:=h' }:=I.turned (t':=s.toks) (λb o hb e=>(sb.2 b hb).trans e) f0 f1 f3 f4 f5;rw[hl]at st';let(oi,e,c,d):=id st';show(v,rfl,a5J (s:={ s with heap:=h' }) e c d (by decide) (p.2,H,I1,e2,(rfl,p,hp,rfl),st',λb hb=>(hf b hb).1))
 done:=by
  ext X hP hw hK hc i pins s σ H E I hf st hg;subst hP hw hK;let(ha,hi):=hg;let(vs,kv,hl,hsm,dat):=b3e I hd ha;let(f0,f1,f2,f3,f4,f5):=hf it (by simp);show wpAny_pyNext_values_end (I.ok.hd hc) (by rw[hl];show st) dat (cZ (by cbv)) λh' eb=>(rfl,I.turned (t':=s.toks) (λb o hb e=>eb b o hb e) f0 f1 f3 f4 f5)
 self:=λ_ _ _ _ _ st h=>wpAny_pyIter_valiter st h
section
variable{o:Expr}{to:TE}
def iDv(J:Obj->Addr->List (Key×V)->It)(tl:TE):TI:=fun σ H R=>tl σ H λx H1=>∃a kvs,x=.ref a/\((H1 a=bH (.dK kvs)/\∀o,R (J o a kvs) (upd H1 a (.frz o (.dK kvs))))\/∃o,H1 a=bH (.frz o (.dK kvs))/\R (J o a kvs) H1)
def b0c{tg:Expr}(ho:PE X o to)(hbase:iZ o "values" X.env (eval o X.env)=eval o X.env:=by rfl)(hline:(apos.endLine==pos.line)=kz:=by rfl):PI X tg (.Call (.Attribute o "values" apos) [] [] pos) (iDv ItV to):=by
 ext pins s σ H R I h;show wpAny_Call_method (T:="dict") (id:="dict.values") hbase rfl hline F.plainAttrs_dict F.slot_dict_values F.type_dict_values (thn (ho pins s σ H _ I h) λv s1 (x,H1,I1,r1,q1)=>?_);let(a,kvs,e,q):=q1;subst e;cases r1;obtain⟨o,H2,I2,ea,q⟩:∃o H2,Inv X pins σ H2 s1/\H2 a=bH (.frz o (.dK kvs))/\R (ItV o a kvs) H2:=by
  let(ea,q)||(o,ea,q):=q
  .let(o,I2):=I1.freeze ea;show(o,_,I2,a0e,q o)
  .show(o,H1,I1,ea,q)
 let(g,hz,hsm,vs,kv,dof):=(show ObjOk X.prog X.w H2 s1.heap a (.frz o (.dK kvs)) from I2.hok a _ ea);show(dof.typeIs,dof.mapOf.noDict,?_)
 change wpAny _ _ (jp pos (.builtin "dict.values") [.ref a] [] []) _ _ _
 show method_meetsIn F.slot_dict_values F.entry_dict_values rfl (PySem.evalArgs_none (rfl,dof.typeIs,F.args_dict_values_1 _,_,meets_dict_values (a0g X.prog X.w) a hsm,(vs,dof),?_));let(ep,dat):=dof.dictAt;let dat':=dat;let(o',es,g',_,hd,_):=dat';rw[g]at g';cases g';let hl:=a2R kv;show wpAny_pyIter_values (s:={ s1 with heap:=s1.heap.push { cls:=.type "dict_values",data:=.fields #[.ref a] } }) (v:=s1.heap.objs.size) (_,Heap.get?_push_size _ rfl,rfl,rfl) (Heap.DictAt.at dat λo e=>Heap.get?_push_of_some _ e) ?_;let I3:Inv X pins σ H2 { s1 with heap:=s1.heap.push { cls:=.type "dict_values",data:=.fields #[.ref a] } }:=I2.kept (t':=s1.toks) λb o e=>Heap.get?_push_of_some _ e;show(_,[_],_,_,H2,rfl,I3.kept (t':=s1.toks) λb o e=>Heap.get?_push_of_some _ e,a59 a _ kvs hd,(_,Heap.get?_push_size _ rfl,rfl,by rw[<- hl];rfl),λb hb=>?_,q);rw[bg.mp hb];show I3.fpOk (bd _) (I3.hok.fresh (bd _))
end
def wkDv(f:Key×Z->Z)(x:Z)(G:Hq)(R:List Z->(Hq->Prop)->Hq->Prop):Prop:=match x with
 |.ref a=>∃kvs,(G a=bH (.dK kvs)\/G a=bH (.dF kvs))/\R (kvs.map f) (λ_=>True) (put G a (.dF kvs))
 |_=>False
def iDvZ(f:Key×Z->Z)(tl:E3):I3:=fun σ G R=>tl σ G λx G1=>wkDv f x G1 R
def a3t{us:List (Key×V)}{kvs:List (Key×Z)}{K:Fg}(hn:us.map (·.1)=kvs.map (·.1))(rr:Reps K H (kvs.map (·.2)) (us.map (·.2))){i:Nat}(e:kvs[i]?=bH p):∃u,us[i]?=bH u/\u.1=p.1/\Rep K H p.2 u.2:=by
 let(v,a,c):=rr.get (by rw[bo,e];rfl);rw[bo]at a;cases hu:us[i]? with
 |none=>rw[hu]at a;cases a
 |some u=>
  rw[hu]at a;cases a;let b:(us.map (·.1))[i]?=bH u.1:=by rw[bo,hu];rfl
  rw[hn,bo,e]at b;show(u,rfl,(bH.inj b).symm,c)
def a5i{K:Fg}{a:Addr}{o:Obj}{us:List (Key×V)}{kvs:List (Key×Z)}{H0:Hp}(e:H0 a=bH (.frz o (.dK us)))(hn:us.map (·.1)=kvs.map (·.1))(rr:Reps K H0 (kvs.map (·.2)) (us.map (·.2))):a2V K (kvs.map (·.2)) (λ_=>True) (ItV o a us) H0:=λi G H hg t ok hi=>by
 let e1:=t.frd _ _ _ e;let hl:us.length=kvs.length:=by let:=congrArg bL hn;o_head this
 rw[a9]at hi;show(λh=>(e1,by rw[a9]at h;lia),λw hw=>?_);rw[bo]at hw;cases hk:kvs[i]? with
 |none=>rw[hk]at hw;cases hw
 |some p=>
  rw[hk]at hw;cases hw;let hlt:=(bh.mp hk).1;show((e1,by lia),λx H' hy=>?_);let(rfl,u,hu,rfl):=hy;let(u',hu',ek,rv):=a3t hn rr hk;rw[hu]at hu';cases hu';show(rv.mono t,hg,.refl _ _)
section
variable{tg l:Expr}{tl:E3}
def b75{J:Obj->Addr->List (Key×V)->It}{f:Key×Z->Z}(hJ:∀{K:Fg}{a:Addr}{o:Obj}{us:List (Key×V)}{kvs:List (Key×Z)}{H0:Hp},H0 a=bH (.frz o (.dK us))->us.map (·.1)=kvs.map (·.1)->Reps K H0 (kvs.map (·.2)) (us.map (·.2))->a2V K (kvs.map f) (λ_=>True) (J o a us) H0)
  (h:PI X tg l (iDv J (low X.K tl))):QI X tg l (iDvZ f tl):=a40 h fun τ H R2 hx=>hx.un fun σ G R hs hg h up=>by
 show(σ,G,_,hs,hg,h,λw G1 v H1 h1 rv hg1 t1=>?_);cases w with
 |ref a=>
  rw[a0s]at rv;let(kvs,e,h1):=h1;let e||e:=e
  .let(us,e',hn,rr):=hg1 _ _ e;show(a,us,rv,.inl (e',λo=>?_));let tk:TK X.K H1 (L2.upd H1 a (.frz o (.dK us))):=.dK e';show up _ _ _ _ _ h1 (hJ a0e hn (rr.mono tk)) (hg1.set (o:=.dF kvs) tk (o,us,a0e,hn,rr.mono tk)) (t1.trans tk)
  .let e0:=e;let(o,us,e',hn,rr):=hg1 _ _ e;show(a,us,rv,.inr (o,e',?_));let eG:put G1 a (.dF kvs)=G1:=by
    funext b
    unfold put
    split
    .next hb=>rw[hb,e0]
    .rfl
   rw[eG]at h1;show up _ _ _ _ _ h1 (hJ e' hn rr) hg1 t1
 |_=>show bj h1
def b0d{o:Expr}{apos pos:Pos}(ho:QE X o tl)(hbase:iZ o "values" X.env (eval o X.env)=eval o X.env:=by rfl)(hline:(apos.endLine==pos.line)=kz:=by rfl):QI X tg (.Call (.Attribute o "values" apos) [] [] pos) (iDvZ (·.2) tl):=b75 a5i (b0c ho.p hbase hline)
def c0f{f:Key×Z->Z}{σ:S3}{G:Hq}{R:List Z->(Hq->Prop)->Hq->Prop}(h:tl σ G λx G1=>wkDv f x G1 R):iDvZ f tl σ G R:=h
def b76{f:Key×Z->Z}{p:Addr}{kvs:List (Key×Z)}{G:Hq}{R:List Z->(Hq->Prop)->Hq->Prop}(e:G p=bH (.dK kvs)\/G p=bH (.dF kvs))(h:R (kvs.map f) (λ_=>True) (put G p (.dF kvs))):wkDv f (.ref p) G R:=(kvs,e,h)
end
namespace Tim
open PySem.W
def RowIn.up(r:RowIn h v x)(k:∀b o,h.get? b=bH o->h'.get? b=bH o):RowIn h' v x:=by
 let(a,o,c,n,e,d,r):=r;show(a,o,c,n,e,k _ _ d,r)
end Tim
def EqW(P:gT)(w:World)(A:Around)(s:Shared)(v y:Value):Prop:=∀(E:Value->Shared->Prop)(Q:Bool->Shared->Prop),Q kz s->wpAny (model P w) A (eqBool v y) Q E s
def a5j(na:(a==ic)=kQ)(nb:(b==ic)=kQ)(da:s.heap.DictOf (a0g P w) a ka)(db:s.heap.DictOf (a0g P w) b kb)(hl:ka.length=kb.length)
  (hv:∀(i:Nat) k v,ka[i]?=bH (k,v,)->∃y,iC kb k=bH y/\EqW P w A s v y) (q:Q kz s):wpAny (model P w) A (gU.Dict.samePairs nm a b) Q E s:=by
 let(Y,c,p1,x,x1,m,S,N,z1):=da;let(o2,h,p2,r,X,l,I,B,z2):=db;let V:c.size=ka.length:=by rw[<- N.length,bI]
 let C:h.size=kb.length:=by rw[<- B.length,bI]
 let L:∀k,findBy (a0g P w).is h k=iC kb k:=λk=>by
  rw[<- B.find k];simp[findBy]
 unfold gU.Dict.samePairs gU.Dict.showsAll;simp only[na,nb];show gJ (gK (gJ (gK (gJ (jt x m ?_)))));show gJ (jt r l ?_);rw[if_neg (by grind)];show gJ (kO x m (gJ ?_));rw[Std.Legacy.Range.forIn_eq_forIn_range'];show kL _ (λg u t=>t=s/\u=_/\∃i,i<=c.size/\g=List.range' i (c.size-i)) _ ?_ ?_ _ _ (rfl,rfl,0,bR _,by simp)
 .ext n g u t ⟨rfl,rfl,i,H,f⟩;let o:i<c.size:=by
   show Nat.lt_of_le_of_ne H λz=>?_;rw[z,Nat.sub_self]at f;cases f
  rw[show c.size-i=(c.size-(i+1))+1 by lia,gm]at f;cases f;show gJ (jt x m ?_);rw[bX o];let U:n<ka.length:=by lia
  obtain⟨⟨k,v⟩,D⟩:∃p,ka[n]?=bH p:=(_,bn U);let(R,T):=N.get? (by rw[cz];show bX o) D;let(k',F,W):=S c[n] (Array.getElem_mem o);cases (a0g P w).inj _ _ _ F R;let(y,d,G):=hv n k v D
  change wpAny _ _ (ig [c[n].key,c[n].val] _ >>= _) _ _ _
  rw[W];show gJ (ib (gJ (wpAny_dictFind_of R r l I ?_)));rw[<- L k,findBy_of_findIdx?]at d;cases hj:h.findIdx? λe=>(a0g P w).is k e.key with
  |none=>rw[hj]at d;cases d
  |some j=>
   let M:=(Array.findIdx?_eq_some_iff_getElem.mp hj).1;rw[hj]at d;let J:h[j].val=y:=by simpa[bX M]using d
   show gJ (jt r l ?_);rw[bX M];rw[<- J,<- T]at G;show ib (G _ _ ?_);show gJ (kO x m ?_);rw[if_neg (by simp)];show gK (rfl,rfl,n+1,o,rfl)
 .ext u t ⟨rfl,rfl,i,H,f⟩;show gK q
def b4Y{a b:Addr}{ka kb:List (Key×Value)}{Q:Value->Shared->Prop}(na:(a==ic)=kQ)(nb:(b==ic)=kQ)(da:s.heap.DictOf (a0g P w) a ka)(db:s.heap.DictOf (a0g P w) b kb)(hu:A.units<cLine)(hl:ka.length=kb.length)
  (hv:∀(i:Nat) k v,ka[i]?=bH (k,v,)->∃y,iC kb k=bH y/\EqW P w A.in1 s v y) (q:Q (.bool kQ) s):wpAny (model P w) A (gX .NotEq (.ref a) (.ref b)) Q E s:=by
 show wpAny_richCompare_same_room (op:=.NotEq) da.typeIs db.typeIs PySem.F.slot_dict_ne (im PySem.F.slot_dict_ne da.typeIs PySem.F.entry_dict_ne ?_ (PySem.F.args_dict_ne_2 _ _)) hu
 change wpAny _ _ (gU.Dict.dictSlotArgs "__ne__" ([.ref a,.ref b],[]) >>= _) _ _ s
 show gJ ?_;unfold gU.Dict.dictSlotArgs;show gJ (kM da.typeIs (gK ?_));show gJ (jk (T:="dict") db.typeIs PySem.F.sub_dict_dict ?_);simp only[gj,dy,if_false];show gJ (gK (gJ (gK (gJ (a5j na nb da db hl hv ?_)))));show gK (_,rfl,(λx=>nomatch x),q)
def DEq1(H:Hp)(x y:V):Prop:=∃d,DV H d x/\DV H d y/\SeqAt.shaped d=kz/\PyData.eqv d d=kz
def b3f{K:Fg}(hg:RH K G H)(e:G p=bH (.dK kvs)\/G p=bH (.dF kvs)):∃us,Rd H p (.dK us)/\us.map (·.1)=kvs.map (·.1)/\Reps K H (kvs.map (·.2)) (us.map (·.2)):=by
 let e||e:=e
 .let(a,d,b,c):=hg _ _ e;show(a,.inl d,b,c)
 .let(f,a,d,b,c):=hg _ _ e;show(a,.inr (f,d),b,c)
def LEq(G:Hq)(x y:Z):Prop:=∃p q ws,x=.ref p/\y=.ref q/\G p=bH (.lst ws)/\G q=bH (.lst ws)/\ws.all (flat 8)=kz
abbrev NsG(K:Fg)(x:Str)(v:Option Value):Prop:=PySem.W.nsIn K hV x=bH v
def Br(K:Fg)(mg:Str->Option Value):Prop:=∀x v,NsG K x v->mg x=v
def c0g{K:Fg}(X:K.In h)(G:h.Ns hV mg):Br K mg:=λ_ v e=>match v,e with
 |some _,e=>PySem.W.mg_of X G e
 |none,e=>PySem.W.mg_none_of X G e
def FX(K:Fg)(x:Str)(st:Stmt):Prop:=∃f d,NsG K x (bH (.ref f))/\Fun K x x st f d
def MX(K:Fg)(C:Addr)(m q:Str)(st:Stmt):Prop:=∃f d,Meth K C m f/\Fun K m q st f d
def AllF(K:Fg)(tp:Nat->Stmt)(l:List (Str×Nat)):Prop:=∀(i:Nat)(r:Str×Nat),l[i]?=bH r->FX K r.1 (tp r.2)
def AllM(K:Fg)(tp:Nat->Stmt)(C:Addr)(l:List (Str×Str×Nat×Nat)):Prop:=∀(i:Nat)(r:Str×Str×Nat×Nat),l[i]?=bH r->MX K C r.1 r.2.1 (a4d (tp r.2.2.1) r.2.2.2)
def AllB(K:Fg)(l:List Str):Prop:=∀(i:Nat) x,l[i]?=bH x->NsG K x gV
def AllN(K:Fg)(C:Addr)(l:List Str):Prop:=∀(i:Nat) x,l[i]?=bH x->NoAttr K C x
section
variable{K:Fg}{tp:Nat->Stmt}{x q:Str}{n j:Nat}{f C:Addr}{oc:Value}{od an:Option Addr}{osl:Array (Option Value)}{kV doc pm cdv ct:Value}
def af0:AllF K tp []:=λ_ _ h=>nomatch h
def af1(a:PySem.W.nsIn K hV x=bH (bH (.ref f)))(e:K.lookup f=bH (oc,od,.func (PySem.W.fnOf x x (a1O (tp n)) (a0U (tp n)) (a0j (tp n)) .none kV doc pm an cdv ct),osl))
  (c:PySem.W.codeIn K cdv x=kz) (k:PySem.W.keepIn K (.ref f)=kz) (t:AllF K tp l):AllF K tp ((x,n,)::l):=λi r h=>by
 cases i with
 |zero=>cases h;show(f,_,a,b2L e c k)
 |succ i=>show t i r h
def ab0:AllB K []:=λ_ _ h=>nomatch h
def ab1(a:PySem.W.nsIn K hV x=bH gV)(t:AllB K l):AllB K (x::l):=λi y h=>by
 cases i with
 |zero=>cases h;show a
 |succ i=>show t i y h
def an0:AllN K C []:=λ_ _ h=>nomatch h
def an1(a:PySem.W.findIn K (.ref C) x=bH gV)(t:AllN K C l):AllN K C (x::l):=λi y h=>by
 cases i with
 |zero=>cases h;show a
 |succ i=>show t i y h
def am0:AllM K tp C []:=λ_ _ h=>nomatch h
def am1(a:PySem.W.findIn K (.ref C) m=bH (bH (.ref f)))(g:PySem.W.isFn K (.ref f)=kz)
  (e:K.lookup f=bH (oc,od,.func (PySem.W.fnOf m q (a1O (a4d (tp n) j)) (a0U (a4d (tp n) j)) (a0j (a4d (tp n) j)) .none kV doc pm an cdv ct),osl))
  (c:PySem.W.codeIn K cdv q=kz) (k:PySem.W.keepIn K (.ref f)=kz) (t:AllM K tp C l):AllM K tp C ((m,q,n,j,)::l):=λi r h=>by
 cases i with
 |zero=>cases h;show(f,_,(a,g,k),b2L e c k)
 |succ i=>show t i r h
end
section
variable{K:Fg}{mg:Str->Option Value}{base:Heap}{x q:Str}{st:Stmt}{f C:Addr}{d:ik}{N:List Str}{k n:Nat}
def Fd(P:gT)(w:World)(K:Fg)(mg:Str->Option Value)(base:Heap)(CX:CXT)(k:Nat)(f:Addr)(s:Sp):Prop:=∃d ps,FnOk P w K mg base CX k f d ps s/\Binds K d ps []
structure Cal (P:gT) (w:World) (K:Fg) (mg:Str->Option Value) (base:Heap) (CX:CXT) (k:Nat) (x:Str) (s:Sp):Prop where
 ex:∃f,Fd P w K mg base CX k f s/\mg x=bH (.ref f)/\PySem.W.keepIn K (.ref f)=kz
def Mal(P:gT)(w:World)(K:Fg)(mg:Str->Option Value)(base:Heap)(CX:CXT)(k:Nat)(C:Addr)(x:Str)(s:Sp):Prop:=∃f,Fd P w K mg base CX k f s/\Meth K C x f
abbrev Bd0(P:gT)(w:World)(K:Fg)(mg:Str->Option Value)(base:Heap)(N:List Str)(q:Str)(st:Stmt)(k:Nat)(sp:P3):Prop:=∀(f:Addr)(cdv:Value)(A:Around)(outer:List Env)(s:Shared)(H:Hp)(E:XK)(ws:List Z)(G:Hq)(R:K3),Room k (A.deeper (envOfC q (a0j st) s.heap.objs.size f cdv))->N.Nodup->sp ws G R ->
 ∃t,QSs (cxOf CX0 P w K mg base N q (a0j st) f cdv A outer s H E).nox (a0U st) t/\t (λ_ G'=>R .non G') R (λ_ _=>False) (λ_ _=>False) (a1L N ws) G
abbrev BdX(P:gT)(w:World)(K:Fg)(mg:Str->Option Value)(base:Heap)(N:List Str)(q:Str)(st:Stmt)(k:Nat)(sp:PX3):Prop:=∀(f:Addr)(cdv:Value)(A:Around)(outer:List Env)(s:Shared)(H:Hp)(E:XK)(ws:List Z)(G:Hq)(R:K3)(EE:Addr->Hq->Prop),Room k (A.deeper (envOfC q (a0j st) s.heap.objs.size f cdv))->N.Nodup->sp ws G R EE->UpX K H EE E ->
 ∃t,QSs (cxOf (CXx P w) P w K mg base N q (a0j st) f cdv A outer s H E) (a0U st) t/\t (λ_ G'=>R .non G') R (λ_ _=>False) (λ_ _=>False) (a1L N ws) G
abbrev Pl(x q:Str)(st:Stmt)(ps:List Str):Prop:=∀(kV doc pm:Value)(an:Option Addr)(cdv ct:Value)(us:List Value),us.length=ps.length->kh (PySem.W.fnOf x q (a1O st) (a0U st) (a0j st) .none kV doc pm an cdv ct) (us,[])=pure (ps.zip us)
def fnd(F:Fun K x q st f d)(b:Bd0 P w K mg base N q st k sp)(S:FnScope N (N.take n) (a0j st))(len:∀ws G R,sp ws G R->ws.length=(N.take n).length):FnOk P w K mg base CX0 (k+1) f d (N.take n) (lowP K sp):=
 fn3 F S len λc A a s H E e G R g h=>b f c A a s H E e G R g S.nd h
def fnc(n:Nat)(B:Br K mg)(F:FX K x st)(b:Bd0 P w K mg base N x st k sp)(len:∀ws G R,sp ws G R->ws.length=(N.take n).length:=by ext ws G R h;repeat' first | (let(rfl,_):=h;rfl) | (cases h<;>rename_i h))(S:FnScope N (N.take n) (a0j st):=by show(rfl,rfl,rfl,by decide +kernel,rfl,by decide +kernel,by decide +kernel))(pl:Pl x x st (N.take n):=by ext _ _ _ _ _ _;(repeat show lnS λ_=>?_);show ln0 rfl):Cal P w K mg base CX0 (k+1) x (lowP K sp):=by
 let(f,d,e,F):=F;show⟨(f,(d,_,fnd F b S len,F.binds pl),B _ _ e,F.kp)⟩
def fnm(n:Nat)(F:MX K C x q st)(b:Bd0 P w K mg base N q st k sp)(len:∀ws G R,sp ws G R->ws.length=(N.take n).length:=by ext ws G R h;repeat' first | (let(rfl,_):=h;rfl) | (cases h<;>rename_i h))(S:FnScope N (N.take n) (a0j st):=by show(rfl,rfl,rfl,by decide +kernel,rfl,by decide +kernel,by decide +kernel))(pl:Pl x q st (N.take n):=by ext _ _ _ _ _ _;(repeat show lnS λ_=>?_);show ln0 rfl):Mal P w K mg base CX0 (k+1) C x (lowP K sp):=by
 let(f,d,e,F):=F;show(f,(d,_,fnd F b S len,F.binds pl),e)
def fndX(F:Fun K x q st f d)(S:FnScope N (N.take n) (a0j st))(len:∀ws G R EE,sp ws G R EE->ws.length=(N.take n).length)(b:BdX P w K mg base N q st k sp):FnOk P w K mg base (CXx P w) (k+1) f d (N.take n) (a2f K sp):=
 fn3x F S len λc A a s H E e G R g i h j=>b f c A a s H E e G R g i S.nd h j
def fncX{sp:PX3}(n:Nat)(B:Br K mg)(F:FX K x st)(b:BdX P w K mg base N x st k sp)(len:∀ws G R EE,sp ws G R EE->ws.length=(N.take n).length:=by ext ws G R EE h;repeat' first | (let(rfl,_):=h;rfl) | (cases h<;>rename_i h))(S:FnScope N (N.take n) (a0j st):=by show(rfl,rfl,rfl,by decide +kernel,rfl,by decide +kernel,by decide +kernel))(pl:Pl x x st (N.take n):=by ext _ _ _ _ _ _;(repeat show lnS λ_=>?_);show ln0 rfl):Cal P w K mg base (CXx P w) (k+1) x (a2f K sp):=by
 let(f,d,e,F):=F;show⟨(f,(d,_,fndX F S len b,F.binds pl),B _ _ e,F.kp)⟩
def fnmX{sp:PX3}(n:Nat)(F:MX K C x q st)(b:BdX P w K mg base N q st k sp)(len:∀ws G R EE,sp ws G R EE->ws.length=(N.take n).length:=by ext ws G R EE h;repeat' first | (let(rfl,_):=h;rfl) | (cases h<;>rename_i h))(S:FnScope N (N.take n) (a0j st):=by show(rfl,rfl,rfl,by decide +kernel,rfl,by decide +kernel,by decide +kernel))(pl:Pl x q st (N.take n):=by ext _ _ _ _ _ _;(repeat show lnS λ_=>?_);show ln0 rfl):Mal P w K mg base (CXx P w) (k+1) C x (a2f K sp):=by
 let(f,d,e,F):=F;show(f,(d,_,fndX F S len b,F.binds pl),e)
end
noncomputable def nst:Expr->Bool
 |.Starred _ _=>kQ
 |_=>kz
def se_(h:nst e=kz):gQ (e::es) env=(kQ,eval e env,)::gQ es env:=by cases e<;>first |rfl |cases h
def hp_:∀{es:List Expr},es.all nst=kz->(backTo pos (gQ es env)).any (·.1)=kQ:=by ext z0;induction z0 with
 |nil=>ext _;show b2R
 |cons e es I0=>
  ext h;rw[bJ,b8]at h;show b3X (se_ h.1) (I0 h.2)
def s1_(h:(e::es).all nst=kz):gQ (e::es) env=(kQ,eval e env,)::gQ es env:=se_ (by simp_all)
def h1_(h:(e::es).all nst=kz):(backTo pos (gQ es env)).any (·.1)=kQ:=hp_ (by rw[bJ,b8]at h;show h.2)
section
variable{e o:Expr}{t:A3}{te:E3}{x:Str}{k j:Nat}{C:Addr}{p:Pos}{sp:P3}{sq:PX3}{E:XK}{EE:Addr->Hq->Prop}{pl:Sem Bool}
def q_c(c:Cal X.prog X.w X.K X.mg X.base CX0 k x (lowP X.K sp))(hr:Room j X.A)(ha:QA X (e::es) t)(hn:(e::es).all nst=kz:=by rfl)(hk:k<=j:=by decide)(hg:Gl X x:=by rfl)
  (hdb:(x==("__debug__":Str))=kQ:=by decide):QE X (.Call (.Name x p) (e::es) [] pos) (b32 sp t):=by
 let(f,(d,h,F,b),g,a):=c.ex;show b6R F (hr.mono hk) hg g a b ha hdb (s1_ hn) (h1_ hn)
def q_cX(hp:a1d (CXx X.prog X.w) X E)(hU:UpN X.K EE E)(c:Cal X.prog X.w X.K X.mg X.base (CXx X.prog X.w) k x (a2f X.K sq))(hr:Room j X.A)(ha:QA X (e::es) t)(hn:(e::es).all nst=kz:=by rfl)(hk:k<=j:=by decide)(hg:Gl X x:=by rfl)
  (hdb:(x==("__debug__":Str))=kQ:=by decide):QE X (.Call (.Name x p) (e::es) [] pos) (a91 sq EE t):=by
 let(f,(d,h,F,b),a,g):=c.ex;show b4J hp hU F (hr.mono hk) hg a g b ha hdb (s1_ hn) (h1_ hn)
def q_m(ho:QE X o to)(c:Cls X.K C)(M:Mal X.prog X.w X.K X.mg X.base CX0 k C m (lowP X.K sp))(hr:Room j X.A)(ha:QA X (e::es) t)(hn:(e::es).all nst=kz:=by rfl)(hk:k<=j:=by decide)
  (ht:eval (.Call (.Attribute o m apos) (e::es) [] pos) X.env=(do
   let ov <- eval o X.env
   iH apos.atName
   let (f,first,) <- ig [ov] (ja ov m pl)
   jp pos f first (backTo pos (gQ (e::es) X.env)) (i5 pos (i6 [] X.env))):=by rfl):QE X (.Call (.Attribute o m apos) (e::es) [] pos) (b1T C m sp to t):=by
 let(f,(d,g,F,a),b):=M;show b7R ho c b F (hr.mono hk) a ha (s1_ hn) (h1_ hn) ht
def q_mX(hp:a1d (CXx X.prog X.w) X E)(hU:UpN X.K EE E)(ho:QE X o to)(c:Cls X.K C)(M:Mal X.prog X.w X.K X.mg X.base (CXx X.prog X.w) k C m (a2f X.K sq))(hr:Room j X.A)(ha:QA X (e::es) t)(hn:(e::es).all nst=kz:=by rfl)(hk:k<=j:=by decide)
  (ht:eval (.Call (.Attribute o m apos) (e::es) [] pos) X.env=(do
   let ov <- eval o X.env
   iH apos.atName
   let (f,first,) <- ig [ov] (ja ov m pl)
   jp pos f first (backTo pos (gQ (e::es) X.env)) (i5 pos (i6 [] X.env))):=by rfl):QE X (.Call (.Attribute o m apos) (e::es) [] pos) (a92 C m sq EE to t):=by
 let(f,(d,g,F,a),b):=M;show b4L hp hU ho c b F (hr.mono hk) a ha (s1_ hn) (h1_ hn) ht
def c0h(mk:PySem.W.makesIn X.K C=kz/\PySem.W.keepIn X.K (.ref C)=kz)(M:Mal X.prog X.w X.K X.mg X.base CX0 k C "__init__" (lowP X.K sp))(hr:Room j X.A)(hm:X.mg x=bH (.ref C))(hk:k+1<=j:=by decide)(hg:Gl X x:=by rfl)
  (hdb:(x==("__debug__":Str))=kQ:=by decide):QE X (.Call (.Name x p) [] [] pos) (b4w C sp uNil):=by
 let(f,(d,b,F,a),h):=M;show b4x (mk.1,h.at_,h.fn,mk.2) F (hr.mono hk) hg hm a hdb
def q_k(ha:QE X e te)(hr:QA X es t)(h:nst e=kz:=by rfl):QA X (e::es) (b3Z te t):=b6Q ha hr (se_ h)
def q_B{id:String}(hc:a1R X (.builtin id) r)(hm:X.mg x=gV)(ha:QA X (e::es) t)(hv:ij x=bH (.builtin id):=by rfl)(hn:(e::es).all nst=kz:=by rfl)(hg:Gl X x:=by rfl)(h1:x≠"__name__":=by decide)(h2:(x==("__debug__":Str))=kQ:=by decide) :
  QE X (.Call (.Name x p) (e::es) [] pos) (uCB r t):=b30 hc hg hm hv ha h1 h2 (s1_ hn) (h1_ hn)
def q_Y{id:String}(hc:a1R X (.type id) r)(hm:X.mg x=gV)(ha:QA X (e::es) t)(hv:ij x=bH (.type id):=by rfl)(hn:(e::es).all nst=kz:=by rfl)(hg:Gl X x:=by rfl)(h1:x≠"__name__":=by decide)(h2:(x==("__debug__":Str))=kQ:=by decide) :
  QE X (.Call (.Name x p) (e::es) [] pos) (uCB r t):=b1p hc hg hm hv ha h1 h2 (s1_ hn) (h1_ hn)
structure Nm (X:Cx) (x:Str) (i:Nat):Prop where
 nd:X.N.Nodup
 ix:X.N[i]?=bH x
 lc:Loc X.env.scope x
 fn:X.fn x=kz\/X.env.scope.names.lookup x=bH .local
def nmI(i:Nat)(nd:X.N.Nodup)(ix:X.N[i]?=bH x:=by rfl)(lc:Loc X.env.scope x:=by first |show cM rfl |show cq rfl)(fn:X.fn x=kz\/X.env.scope.names.lookup x=bH .local:=by first |show .inl rfl |show .inr rfl |assumption):Nm X x i:=(nd,ix,lc,fn)
def z_st(h:Nm X x i)(he:QE X e te)(hs:iB e (bH (.Name x pos')) pos.line X.env=pure kQ:=by rfl):QS X (.Assign [.Name x pos'] e pos) (uAsg te (.nm i)):=b9k h.nd h.ix h.lc he hs h.fn
def z_au(h:Nm X x i)(he:QE X e te)(ho:OpQ X (iR op) r):QS X (.AugAssign (.Name x pos') op e pos) (uAug i te r):=b61 h.nd h.ix h.lc he ho h.fn
def p_nm(h:Nm X x i):QP X (.Name x pos) (.nm i):=a8j h.nd h.ix h.lc h.fn
def QPg(X:Cx)(es:List Expr)(is:List Nat):Prop:=PGs X es (gsOf is)/\(iI es X.env).length=is.length/\(iI es X.env).findIdx? (·.1)=gV
def c0i:QPg X [] []:=(b3B,rfl,rfl)
def b77(h:Nm X x i)(t:QPg X es is):QPg X (.Name x pos::es) (i::is):=(b0T (a8j h.nd h.ix h.lc h.fn) t.1,congrArg Nat.succ t.2.1,by
 change f9 _ (_::iI es X.env)=gV
 rw[List.findIdx?_cons,if_neg nofun,t.2.2];rfl)
def p_tp(hc:X.calm=kz)(h:QPg X es is):QP X (.Tuple es c pos) (.tp is):=b5Y hc h.1 h.2.1 h.2.2
section
variable{CX:CXT}{K:Fg}{mg:Str->Option Value}{base:Heap}{N:List Str}{q:Str}{so:Scope}{f:Addr}{cd:Value}{outer:List Env}{E:XK}
def cxN:(cxOf CX P w K mg base N q so f cd A outer s H E).nox.N=N:=rfl
def cxS:(cxOf CX P w K mg base N q so f cd A outer s H E).nox.env.scope=so:=rfl
def cxN':(cxOf CX P w K mg base N q so f cd A outer s H E).N=N:=rfl
def cxS':(cxOf CX P w K mg base N q so f cd A outer s H E).env.scope=so:=rfl
end
def cxcN:(cxC X EW N' sc D s H fp).N=N':=rfl
section
variable{Nj:List Str}{so sc:Scope}{wi:I3}{tg:Expr}{tt:T3}{i:Nat}
def q_l(N':List Str)(cap:List (Option Nat))(pt:Pt)(hi:QI X tg iter wi:=by ac_rfl)(ht:∀C s H fp,QIfs (cxC X E0 N' sc C s H fp) ifs tt:=by walk_at "r4")(he:∀C s H fp,QE (cxC X E0 N' sc C s H fp) elt te:=by walk_at "r4")(hg:∀C s H fp,N'.Nodup->QP (cxC X E0 N' sc C s H fp) tg pt:=by walk_at "r5")
  (hNN:X.N=Nj:=by first |show cxN |show cxN' |show cxcN) (hso:X.env.scope=so:=by first |show cxS |show cxS' |rfl) (ck:capB Nj so sc N' cap=kz:=by first |decide +kernel |rfl) (hp:(pt.slots.all λj=>decide (cap[j]?=bH gV))=kz:=by rfl)
  (nd:N'.Nodup:=by decide +kernel) (hc:X.calm=kz:=by rfl) (hs:∀x,iJ iter X.env x=pure x:=by ext _;rfl):QE X (.ListComp elt [(tg,iter,ifs,0)] sc pos) (uLC wi cap pt tt te):=q_lc hc hNN hso ck hp hi (λC s H a=>hg C s H a nd) ht he hs
def q_lX(hE:a1Q X EW sc)(N':List Str)(cap:List (Option Nat))(pt:Pt)(hi:QI X tg iter wi:=by ac_rfl)(ht:∀C s H fp,QIfs (cxC X EW N' sc C s H fp) ifs tt:=by walk_at "r4")(he:∀C s H fp,QE (cxC X EW N' sc C s H fp) elt te:=by walk_at "r4")(hg:∀C s H fp,N'.Nodup->QP (cxC X EW N' sc C s H fp) tg pt:=by walk_at "r5")
  (hNN:X.N=Nj:=by first |show cxN |show cxN' |show cxcN) (hso:X.env.scope=so:=by first |show cxS |show cxS' |rfl) (ck:capB Nj so sc N' cap=kz:=by first |decide +kernel |rfl) (hp:(pt.slots.all λj=>decide (cap[j]?=bH gV))=kz:=by rfl)
  (nd:N'.Nodup:=by decide +kernel) (hc:X.calm=kz:=by rfl) (hs:∀x,iJ iter X.env x=pure x:=by ext _;rfl):QE X (.ListComp elt [(tg,iter,ifs,0)] sc pos) (uLC wi cap pt tt te):=b96 hE hc hNN hso ck hp hi (λC s H a=>hg C s H a nd) ht he hs
def z_l(h:Nm X x i)(N':List Str)(cap:List (Option Nat))(pt:Pt)(hi:QI X tg iter wi:=by ac_rfl)(ht:∀C s H fp,QIfs (cxC X E0 N' sc C s H fp) ifs tt:=by walk_at "r4")(he:∀C s H fp,QE (cxC X E0 N' sc C s H fp) elt te:=by walk_at "r4")(hg:∀C s H fp,N'.Nodup->QP (cxC X E0 N' sc C s H fp) tg pt:=by walk_at "r5")
  (hNN:X.N=Nj:=by first |show cxN |show cxN' |show cxcN) (hso:X.env.scope=so:=by first |show cxS |show cxS' |rfl) (ck:capB Nj so sc N' cap=kz:=by first |decide +kernel |rfl) (hp:(pt.slots.all λj=>decide (cap[j]?=bH gV))=kz:=by rfl)
  (nd:N'.Nodup:=by decide +kernel) (hl:X.env.scope.names.lookup x=bH .local:=by rfl) (hsw:iB (.ListComp elt [(tg,iter,ifs,0)] sc pos) (bH (.Name x pos')) spos.line X.env=pure kz:=by rfl) (hc:X.calm=kz:=by rfl) (hs:∀x,iJ iter X.env x=pure x:=by ext _;rfl) :
  QS X (.Assign [.Name x pos'] (.ListComp elt [(tg,iter,ifs,0)] sc pos) spos) (uAsg (uLC wi cap pt tt te) (.nm i)):=b39 h.nd h.ix hl hc hNN hso ck hp hi (λC s H a=>hg C s H a nd) ht he hsw hs
end
end
def At(N:List Str)(i:Nat)(x:Str):Prop:=N[i]?=bH x
def at_0:At (x::l) 0 x:=rfl
def at_1:At (c0::x::l) 1 x:=rfl
def at_2:At (c0::c1::x::l) 2 x:=rfl
def at_3:At (c0::c1::c2::x::l) 3 x:=rfl
def at_4:At (c0::c1::c2::c3::x::l) 4 x:=rfl
def at_5:At (c0::c1::c2::c3::c4::x::l) 5 x:=rfl
def at_6:At (c0::c1::c2::c3::c4::c5::x::l) 6 x:=rfl
def at_7:At (c0::c1::c2::c3::c4::c5::c6::x::l) 7 x:=rfl
def at_8:At (c0::c1::c2::c3::c4::c5::c6::c7::x::l) 8 x:=rfl
def at_9:At (c0::c1::c2::c3::c4::c5::c6::c7::c8::x::l) 9 x:=rfl
def b78:At (c0::c1::c2::c3::c4::c5::c6::c7::c8::c9::x::l) 10 x:=rfl
def b79:At (c0::c1::c2::c3::c4::c5::c6::c7::c8::c9::c10::x::l) 11 x:=rfl
def b8a:At (c0::c1::c2::c3::c4::c5::c6::c7::c8::c9::c10::c11::x::l) 12 x:=rfl
def b8b:At (c0::c1::c2::c3::c4::c5::c6::c7::c8::c9::c10::c11::c12::x::l) 13 x:=rfl
section
variable{x:Str}
def qv(i:Nat)(hN:X.N[i]?=bH x:=by rfl)(hv:Vis X.env.scope x:=by first |show cM rfl |show cq (cM rfl) |show cq (cq rfl))(hd:(x==("__debug__":Str))=kQ:=by decide)
  (hcd:(x==("__classdict__":Str))=kQ:=by decide):QE X (.Name x pos) (uVar i):=b6F (a8g hN hv hd hcd)
def qw(h:X.N=N)(a:At N i x)(hv:Vis X.env.scope x:=by first |show cM rfl |show cq (cM rfl) |show cq (cq rfl))(hd:(x==("__debug__":Str))=kQ:=by decide)
  (hcd:(x==("__classdict__":Str))=kQ:=by decide):QE X (.Name x pos) (uVar i):=b6F (a8g (h▸a) hv hd hcd)
def nwI(h:X.N=N)(a:At N i x)(nd:X.N.Nodup)(lc:Loc X.env.scope x:=by first |show cM rfl |show cq rfl)(fn:X.fn x=kz\/X.env.scope.names.lookup x=bH .local:=by first |show .inl rfl |show .inr rfl |assumption):Nm X x i:=(nd,by rw[h];show a,lc,fn)
end
def newK(e:put G a o=G')(h:G a=gV):G' a=bH o/\Sm G G':=by subst e;show(a0a,Sm.new h)
namespace SetW
theorem hole:∀{l:List (Option Nat)},(l.filterMap id).length<l.length->∃j:Nat,l[j]?=bH gV
 |none::l,_=>(0,rfl)
 |some k::l,h=>by
  let(j,e):=hole ↑h;show(j+1,↑e)
theorem a4t:∀{l:List (Option Nat)}{j k:Nat},l[j]?=bH gV->((l.set j (bH k)).filterMap id).Perm (k::l.filterMap id)
 |none::l,0,k,_=>by simp
 |none::l,j+1,k,h=>↑(a4t (by simp_all))
 |some a::l,j+1,k,h=>by
  let q:=a4t (k:=k) ↑h;show (q.cons a).trans (.swap ..)
noncomputable def lp(m:Nat):Nat->Nat×Nat->Nat×Nat
 |0,q=>q
 |n+1,q=>lp m n (gM.leap m q.1 q.2)
set_option tactic.hygienic true in
theorem b0e:∀(fuel i p:Nat){j:Nat},gM.layClean.free kR ow fuel i p=bH j->ow[j]?=bH gV
 |0,i,p,j,h=>by simp[gM.layClean.free]at h
 |fuel+1,i,p,j,h=>by
  unfold gM.layClean.free at h
  split at h
  .next k e=>
   cases h;let q:=eM e;cases c:ow[i+k]? with
   |none=>simp[c]at q
   |some v=>
    simp[c]at q;rw[q]
  .show b0e fuel _ _ h
theorem b0f:∀(fuel i p n:Nat),gM.layClean.free kR ow fuel i p=gV->n<fuel->ow[(lp kR n (i,p,)).1]?≠bH gV
 |fuel+1,i,p,n,h,hn=>by
  unfold gM.layClean.free at h
  split at h
  .cases h
  .next e=>
   cases n with
   |succ n=>show b0f fuel _ _ n h (by lia)
   |zero=>
    let q:=dB.mp e 0 (cD.mpr (by unfold gM.runEnd;split<;>lia))
    ext z;let z:ow[i]?=bH gV:=z;simp[z]at q
theorem b3g(m:Nat):∀(a b:Nat)(q:Nat×Nat),lp m (a+b) q=lp m b (lp m a q)
 |0,b,q=>by rw[dw];rfl
 |a+1,b,q=>by rw[gi];show b3g m a b _
theorem b3h(m:Nat):∀(n i p:Nat),(lp m n (i,p,)).2=p / 32 ^ n
 |0,i,p=>by simp[lp]
 |n+1,i,p=>by
  change (lp m n (gM.leap m i p)).2=_
  unfold gM.leap;rw[b3h,Nat.div_div_eq_div_mul,Nat.pow_succ,Nat.mul_comm 32]
theorem b8c(m:Nat):∀(n i p:Nat),i<=m->(lp m n (i,p,)).1<=m
 |0,i,p,h=>h
 |n+1,i,p,h=>b8c m n _ _ (gn (eL _ (Nat.succ_pos m)))
noncomputable def rnd(m:Nat):Bool:=(bG (m+1)).all λi=>(bG (m+1)).all λj=>(bG (m+1)).any λn=>(lp m n (i,0,)).1==j
def rnd7:rnd 7=kz:=by decide +kernel
def b8d(h:rnd kU=kz)(hi:kR<=kU)(hj:kS<=kU):∃n,n<=kU/\(lp kU n (kR,0,)).1=kS:=by
 let q:=b5.mp (b5.mp h kR (cD.mpr (by lia))) kS (cD.mpr (by lia));let(n,a,e):=cK.mp q;show(n,by let:=cD.mp a;lia,↑e)
def b4Z(h:Int):gM.bits h<2 ^ 64:=by unfold gM.bits;lia
def b0g(hr:rnd kR=kz)(hs:ow.size=kR+1){j:Nat}(hj:ow[j]?=bH gV)(hi:i<=kR)(hp:p<2 ^ 64):∃j,gM.layClean.free kR ow (gM.turns kR) i p=bH j/\ow[j]?=bH gV:=by
 cases e:gM.layClean.free kR ow _ i p with
 |some j=>show(j,rfl,b0e _ _ _ e)
 |none=>
  exfalso;let a:j<=kR:=by grind
  let z:(lp kR 13 (i,p,)).2=0:=by rw[b3h];show Nat.div_eq_of_lt (by lia)
  let(n,c,q):=b8d hr (b8c kR 13 i p hi) a;let b:(lp kR (13+n) (i,p,)).1=j:=by rw[b3g,show lp kR 13 (i,p,)=((lp kR 13 (i,p,)).1,0,) from by rw[<- z]];show q
  show b0f _ i p (13+n) e (by unfold gM.turns;lia) (by grind)
structure Own (m k:Nat) (ow:Array (Option Nat)):Prop where
 sz:ow.size=m+1
 pm:(ow.toList.filterMap id).Perm (bG k)
theorem b3i(hr:rnd kR=kz):∀(hs:List Int)(ow:Array (Option Nat))(k:Nat),Own kR k ow->k+hs.length<=kR+1 ->
  ∃ow',hs.foldl (λacc h=>do
   let (owner,k,) <- acc
   let j <- gM.layClean.free kR owner (gM.turns kR) (gM.bits h % (kR+1)) (gM.bits h)
   pure (owner.setIfInBounds j (bH k),k+1,)) (bH (ow,k,))=bH (ow',k+hs.length,)/\Own kR (k+hs.length) ow'
 |[],ow,k,h,_=>(ow,rfl,h)
 |x::hs,ow,k,h,hl=>by
  let(g,a):=hole (by rw[h.pm.length_eq,dX,bI,h.sz];simp at hl;lia);let(j,e,d):=b0g hr h.sz ↑a (i:=gM.bits x % _) (gn (eL _ (Nat.succ_pos kR))) (b4Z x);let(b,f,c):=b3i hr hs (ow.setIfInBounds j (bH k)) _ (by rw[gh];show h.sz,by
   rw[f7];show (a4t (by simp_all)).trans ?_;rw[List.range_succ];show (h.pm.cons k).trans (e9 (l₁:=[k]))) (by simp at hl;lia)
  show(b,?_,by rw[bv,fu hs.length,<- dz];show c);rw[fV,bv,fu hs.length,<- dz,<- f];simp[e]
def b12(l:List (Option Nat)):((bG l.length).filterMap λj=>(l[j]?.getD gV).map (j,·,)).map (·.2)=l.filterMap id:=by
 rw[gq]
 induction l with
 |nil=>rfl
 |cons x l ih=>
  rw[bv,List.range_succ_eq_map,cE,eS,cE];cases x<;>simp at ih ⊢<;>show ih
def laid_ok(hr:rnd kR=kz)(hl:hs.size<=kR) :
  ∃t od,gM.laid kR f mv led pl hs=bH (t,od,)/\od.toList.Perm (bG hs.size)/\t.fits hs.size=kz/\TOk led t:=by
 let(c,e,o):=b3i hr hs.toList (Array.replicate (kR+1) gV) 0 (by simp,by
  rw[Array.toList_replicate,List.range_zero];generalize kR+1=n
  induction n with
  |zero=>show .nil
  |succ n ih=>rw[List.replicate_succ];show ih) (by grind)
 rw[dw,bI]at o;let l:gM.layClean kR hs=bH c:=by
  unfold gM.layClean;rw[<- Array.foldl_toList,e]
  rfl
 let g:=b12 c.toList;rw[bI,o.sz]at g;let d:((bG (kR+1)).filterMap λj=>(c.getD j gV).map (j,·,)).map (·.2)=c.toList.filterMap id:=by simp_all
 let p:((bG (kR+1)).filterMap λj=>(c.getD j gV).map (j,·,)).length=hs.size:=by
  rw[<- a9,d,o.pm.length_eq,dX]
 show(_,_,by unfold gM.laid;rw[l];rfl,?_,?_,?_,rfl,rfl)
 .rw[List.toList_toArray,d];show o.pm
 .unfold gM.fits gM.fill;simp only[bW,a9,p];o_head hl
 .unfold Up;rw[gq]
  let:(bG (kR+1)).Pairwise _:=fm
  show List.pairwise_filterMap.mpr (this.imp λ{a b} h x k y i=>?_);simp at k i;let(_,_,rfl):=k;let(_,_,rfl):=i;show h
end SetW
namespace SetW
def b13(h:n<=16):gM.sizeAbove n<=32/\rnd (gM.sizeAbove n-1)=kz/\7<=gM.sizeAbove n-1:=by
 let q:(bG 17).all (λn=>decide (gM.sizeAbove n<=32)&&rnd (gM.sizeAbove n-1)&&decide (7<=gM.sizeAbove n-1))=kz:=by decide +kernel
 let:=b5.mp q n (cD.mpr (by lia))
 simp only[b8,decide_eq_true_eq]at this;show(this.1.1,this.1.2,this.2)
section
variable{a b:Addr}{es eo:Array (Int×Value)}{ep epo:Nat}{t to:gM}{K:Type}[DecidableEq K]{kd:KeyKind prog w K}{ms mo:List K}{k:K}{v:Value}
def b40{od:Array Nat}(h:od.toList.Perm (bG es.size)):(od.filterMap (es[·]?)).toList.Perm es.toList:=by
 rw[Array.toList_filterMap];show (h.filterMap _).trans (.of_eq ?_);show filterMap_getElem?_range es
def a63{od:Array Nat}(hp:od.toList.Perm (bG es.size))(h:Q (od.filterMap (es[·]?),t,) s) :
  wpAny (model prog w) A (do
   let bH (t,order,):=bH (t,od,) |iV "internal:set-table-without-room"
   let es':=order.filterMap (es[·]?)
   if es'.size != es.size then iV "internal:set-table-lost-an-element"
   pure (es',t,)) Q E s:=by
 let q:((od.filterMap (es[·]?)).size != es.size)=kQ:=by
  rw[<- bI,(b40 hp).length_eq,bI];simp
 dsimp only;rw[q];show gK h
def b0h(S:SO kd s.heap a es ep t ms)(hw:wanted<=16)(hn:ms.length<=7)
  (h:∀h' es' ep' t' ms',Heap.SameBut a s.heap h'->SO kd h' a es' ep' t' ms'->ms'.Perm ms->rnd t'.mask=kz->7<=t'.mask->Q () { s with heap:=h' }) :
  wpAny (model prog w) A (setRelay a wanted) Q E s:=by
 let((o,j,H,i),u,d,I,k,x):=id S;let(J,y,B):=b13 hw;let z:=S.len;show gJ (iw j i k ?_);dsimp only;rw[if_neg (by rw[ie];lia)];let(p,v,e,g,l,m):=laid_ok (hs:=es.map _) y (by grind);rw[eK]at g l;let G:t.relaid _ wanted=bH _:=e;let n:p.mask=gM.sizeAbove wanted-1:=by
  unfold gM.laid at e;cases c:gM.layClean _ _ with
  |none=>rw[c]at e;cases e
  |some q=>rw[c]at e;cases e;rfl
 rw[G];show gJ (a63 g ?_);let b:=b40 g;let F:(v.filterMap (es[·]?)).size=es.size:=by rw[<- bI,b.length_eq,bI]
 let(r,C,D):=a0Q d (b.map _);dsimp only;show jF j i ?_ (jG (by lia));rw[x.ld]at m;let(_,S1):=SO.stored j H i (u.perm b) C (by lia) (by grind) m;show h _ _ _ _ r (Heap.SameBut.update ..) S1 D (by grind) (by grind)
def b14(S:SO kd s.heap a es ep t ms)(hn:ms.length<=4)(hm:more<=4)
  (h:∀h' es' ep' t' ms',Heap.SameBut a s.heap h'->SO kd h' a es' ep' t' ms'->ms'.Perm ms->(rnd t'.mask=kz/\7<=t'.mask\/t'=t)->Q () { s with heap:=h' }) :
  wpAny (model prog w) A (setRoomFor a more) Q E s:=by
 let((o,m,z,n),x,j,y,b,v):=id S;let r:=S.len;show gJ (iw m n b ?_);dsimp only;unfold gM.roomFor
 split
 .next wanted e=>
  split at e
  .cases e
   let:t.place.size=es.size:=by simp only[gM.fits,b8,beq_iff_eq]at b;show b.1
   show b0h S (by lia) (by lia) λg d c k f p i q u l=>h g d c k f p i q (.inl (u,l))
  .cases e
 .show gK (h s.heap es ep t ms (Heap.SameBut.refl ..) S (.refl _) (.inr rfl))
def b15(S:SO kd s.heap b eo epo to mo)(h:∀l d',l.toList.Perm eo.toList->Q l { s with drawn:=d' }):wpAny (model prog w) A (setWalk b) Q E s:=by
 let((o,g,m,i),j,e,k,a,d):=id S;show gJ (iw g i a ?_);show iF (λ_=>?_) λc=>?_
 .show gJ (jH (gK ?_));show h _ s.drawn (a3o _ _)
 .let c:byT w=kQ:=↑(show ¬ byT w=kz from c)
  show iF (λ_=>?_) λ_=>?_
  .show gJ (a4q _ _ _ _ (by simp) λn f p=>gK (h _ f ?_));o_head p
  .let q:(!to.led&&decide (eo.size > 1))=kQ:=by rw[d.ld,c];rfl
   show gJ (?_:wpAny _ _ (if (!to.led&&decide (eo.size > 1))=kz then iV "set:maker-not-led" else pure ()) _ _ _);rw[q];show gK (gK (h _ s.drawn (.refl _)))
def a64(hel:jT kd es.toList){Q:Option Bool×Unit->Shared->Prop}(hf:∀e r,e.2.scannable=kz->f e r=pure (.yield (gV,(),)))(h:Q (gV,(),) s):wpAny (model prog w) A (forIn es (gV,(),) f) Q E s:=by
 rw[<- gr];generalize es.toList=l at hel
 induction l with
 |nil=>show gK h
 |cons e l ih=>
  rw[dh,hf e _ hel.head.2,pure_bind];show ih hel.tail
def a7Y(So:SO kd s.heap b eo epo to mo)(S:SO kd s.heap a es ep t ms)(h:Q kz s):wpAny (model prog w) A (setsQuiet [b,a]) Q E s:=by
 let((o,u,D,m),j,l,B,d,z):=So;let((C,g,v,i),f,k,n,c,p):=S;unfold setsQuiet;rw[dh];show gJ (gJ (gJ (jl u m d (gJ (a64 j (λe r q=>?_) (gK ?_))))))
 .let(x,y):=e;cases y<;>first |rfl |cases q
 dsimp only;rw[dh];show gJ (gJ (jl g i c (gJ (a64 f (λe r q=>?_) (gK ?_)))))
 .let(x,y):=e;cases y<;>first |rfl |cases q
 show gK (gK h)
def a6a(So:SO kd s.heap b eo epo to mo)(S:SO kd s.heap a es ep t ms)
  (h:∀l h' ep' t' d',l.toList.Perm eo.toList->Heap.SameBut a s.heap h'->SO kd h' a es ep' t' ms->Q l { s with heap:=h',drawn:=d' }):wpAny (model prog w) A (setWalkUnseen b [a] (bH a)) Q E s:=by
 let((o,u,B,v),z,r,y,k,m):=id So;let q:wpAny _ A _ Q E s:=b15 So λl x p=>h l s.heap ep t x p (Heap.SameBut.refl ..) S;show gJ (iw u v k ?_);show iF (λ_=>q) λ_=>?_;show gJ (a7Y So S ?_);show iF (λ_=>q) λ_=>?_;show gJ (iN ?_);let((C,e,n,g),j,i,f,d,c):=id S;show gJ (iw e g d ?_);show iF (λ_=>?_) λ_=>gK (h eo s.heap ep t s.drawn (.refl _) (Heap.SameBut.refl ..) S);show gJ (jF e g ?_ (jG f));let(_,S1):=SO.stored (t':={ t with led:=t.led&&to.led,plain:=t.plain&&to.plain }) e n g j i f (by cases t;show d) (c.up,c.dm,by change _=_;rw[c.ld,m.ld,eX]);show gK (h eo _ _ _ s.drawn (.refl _) (Heap.SameBut.update ..) S1)
theorem a65(hab:b≠a)(he:∀{s':Shared}{Q:Unit->Shared->Prop},SO kd s'.heap b eo epo to mo->Q () s'->wpAny (model prog w) A each Q E s')
 (hf:∀h x r,f (h,x,) r=(do
      let _ <- ig [x] (jU a x h)
      each
      let q <- setState b
      if (q.2.1 != epo)=kz then do
        iV "set.changed-during-merge"
        pure (ForInStep.yield PUnit.unit)
      else pure (ForInStep.yield PUnit.unit))) :
    ∀(l:List (Int×Value))(ks:List K)(s:Shared)(ms:List K)(Q:PUnit->Shared->Prop),jT kd l->KsAre kd (l.map (·.2)) ks->SI kd s.heap a ms->ms.Nodup->ms.length+l.length+1<iu->SO kd s.heap b eo epo to mo ->
      (∀h' ms',Heap.SameBut a s.heap h'->SI kd h' a ms'->ms'.Nodup->(∀x,x∈ms'↔x∈ms\/x∈ks)->ms'.length<=ms.length+l.length->Q ⟨⟩ { s with heap:=h' }) ->
      wpAny (model prog w) A (forIn l PUnit.unit f) Q E s
  |[],_,s,ms,Q,_,.nil,S,nd,_,_,h=>gK (h s.heap ms (Heap.SameBut.refl ..) S nd (λx=>by simp) (bd _))
  | (z,v,)::l,_,s,ms,Q,hel,.cons (k:=k) (ks:=ks) hk ht,S,nd,hb,So,h=>by
    let((W,n,i),m):=hel.head
    let:=kd.inj _ _ _ hk n
    subst this;subst i;rw[dh,hf];let(Y,ep,t,S'):=S;show gJ (gJ (ib (a54 hk m S' (by simp at hb;lia) λR g V u C p=>?_)));let d:=So.at λo e=>u.extBut b o hab e;let(o,T,B,D):=d.at_;show gJ (he d (gJ (iw T D d.fit ?_)));rw[if_neg (by simp)];show gK ?_;let G:g.Nodup:=by
      show p.nodup_iff.mpr ?_
      split
      . show nd
      . next c=>show cH.mpr (nd,by simp,λx B y H=>by rw[bg.mp H];ext rfl;show c B)
    let U:g.length<=ms.length+1:=by rw[p.length_eq];split<;>simp
    let J:∀x,x∈g↔x∈ms\/x=k:=λx=>by
      rw[p.mem_iff]
      split
      . simp_all
      . simp
    show a65 hab he hf l ks _ g Q hel.tail ht C G (by simp at hb;lia) d λN M j I L F X=>h N M (u.trans j) I L (λx=>by rw[F,J,bf,or_assoc]) (by simp;lia)
def a5k(hab:a≠b)(he:∀{s':Shared}{Q:Unit->Shared->Prop},SO kd s'.heap b eo epo to mo->Q () s'->wpAny (model prog w) A each Q E s')
  (S:SO kd s.heap a es ep t ms) (So:SO kd s.heap b eo epo to mo) (hn:ms.length<=4) (hm:mo.length<=4) (nd:ms.Nodup) (ndo:mo.Nodup) (hz:ms=[]->t.mask=7)
  (h:∀h' es' ep' t' ms' d',Heap.SameBut a s.heap h'->SO kd h' a es' ep' t' ms'->(ms'=[]->t'.mask=7)->ms'.Nodup->(∀x,x∈ms'↔x∈ms\/x∈mo)->ms'.length<=ms.length+mo.length->Q () { s with heap:=h',drawn:=d' }) :
  wpAny (model prog w) A (kP a b each) Q E s:=by
 let((o,ho,hx,hd),G,v,hsc,B,u):=id So;let M:=So.len;unfold kP;rw[if_neg ↑hab];show gJ (iw ho hd B ?_);dsimp only;show iF (λc=>?_) λc=>?_
 .let:mo=[]:=by
   rw[gx,M]at c;show cN.mp c
  subst this;show gK (h s.heap es ep t ms s.drawn (Heap.SameBut.refl ..) S hz nd (λx=>by simp) (Nat.le_add_right ..))
 let H:mo≠[]:=λz=>c (by rw[gx,M,z];rfl);show gJ (b14 S hn (by lia) λT es1 ep1 i C L U p r=>?_);let F:=So.at λo e=>L.extBut b o (Ne.symm hab) e;let((o1,y,hx1,D),hel1,hnum1,hsc1,g,n):=id U;show gJ (iw y D g ?_);dsimp only;let fl:i.fill=C.length:=by
  simp only[gM.fits,b8,beq_iff_eq]at g;rw[gM.fill,n.dm,g.1,U.len (s:={ s with heap:=T })];rfl
 let J:∀(k:Array (Int×Value))(m:gM),C=[]->k.toList.Perm eo.toList->m.fits eo.size=kz->TOk (!byT w) m->wpAny (model prog w) A (jV a k m) Q E { s with heap:=T }:=λk m z j f1 k1=>by
  let sz:k.size=eo.size:=by rw[<- bI,j.length_eq,bI]
  let(m2,i2,d):=a0Q v (j.map (·.2));show jF y D ?_ (jG (by lia));let(_,N):=SO.stored y hx1 D (G.perm j) i2 (by lia) (by rw[sz];show f1) k1;let mz:ms=[]:=by rw[z]at p;show p.symm.eq_nil
  show h _ _ _ _ m2 s.drawn (L.trans (Heap.SameBut.update ..)) N (λq=>absurd (by rw[q]at d;show d.symm.eq_nil) H) (d.nodup_iff.mpr ndo) (λx=>by rw[d.mem_iff,mz];simp) (by rw[d.length_eq];lia)
 unfold gM.road
 by_cases z:C=[]
 .rw[if_neg (by rw[fl,z];simp)];let X:(i.led&&to.led)=!byT w:=by rw[n.ld,u.ld,eX]
  let mr:=r.elim id λe=>by
   rw[e,hz (by rw[z]at p;show p.symm.eq_nil)];show(rnd7,bd _)
  by_cases c2:(i.mask==to.mask&&to.dummies.isEmpty)=kz
  .rw[if_pos c2];show J eo _ z (.refl _) (by cases to;show B) (u.up,u.dm,X)
  .rw[if_neg c2];let(m,od,e,j,d,V):=laid_ok (hs:=eo.map (·.1)) mr.1 (by rw[eK];lia);rw[eK]at j d;dsimp only;rw[e];show gJ (a63 j ?_);show J _ m z (b40 j) d (X▸V)
 .rw[if_pos (by rw[fl];o_head z)];dsimp only;let aa:C.Nodup:=p.nodup_iff.mpr nd;let pl:=p.length_eq;let sb4:4096=scanBound:=rfl;show gJ (a6a F U λl h2 ep2 t2 d2 d I N=>?_);let ab:=F.at λo e=>I.extBut b o (Ne.symm hab) e;let(ks,i3,V):=a0Q v (d.map (·.2));let ll:l.toList.length=mo.length:=by rw[d.length_eq,bI,M]
  rw[<- gr];show gJ (a65 (Ne.symm hab) he (λ_ _ _=>rfl) l.toList ks _ C _ (G.perm d) i3 (_,_,_,N) aa (by lia) ab λh3 m3 Y R n3 e3 l3=>?_);let(W,ep3,t3,R):=R;let mm:∀x,x∈m3↔x∈ms\/x∈mo:=λx=>by rw[e3,p.mem_iff,V.mem_iff]
  show gK (h h3 W ep3 t3 m3 d2 (L.trans (I.trans Y)) R (λq=>?_) n3 mm (by lia));let(x,hx):=List.exists_mem_of_ne_nil mo H
  let:=(mm x).mpr (.inr hx)
  rw[q]at this;cases this
def SO.fresh(g:h.get? a=bH (a0r w)):SO kd h a #[] 0 (.fresh 0 0 (!byT w)) []:=((_,g,(rfl,rfl,rfl),rfl),λe b=>by simp at b,.nil,by decide,rfl,(.nil,rfl,rfl))
def b16(So:SO kd s.heap b eo epo to mo)(hm:mo.length<=4)(ndo:mo.Nodup)
  (h:∀h' es' ep' t' ms' d',(∀c o,s.heap.get? c=bH o->h'.get? c=bH o)->SO kd h' s.heap.objs.size es' ep' t' ms'->(ms'=[]->t'.mask=7)->ms'.Nodup->(∀x,x∈ms'↔x∈mo)->ms'.length<=mo.length->Q (.ref s.heap.objs.size) { s with heap:=h',drawn:=d' }) :
  wpAny (model prog w) A (gU.Frozenset.copyOf b) Q E s:=by
 unfold gU.Frozenset.copyOf gU.Frozenset.baseOf newSet;show gJ (gJ (jk (b:=kz) So.ty (by rw[jI];kernel_rfl) (gK ?_)));show gJ (gJ (gJ (jH (gK ?_))));show gJ (wpAny_alloc (gK ?_));let(o,p,_):=So.at_;let v:=Heap.lt_size p;let n:(s.heap.push _).get? s.heap.objs.size=bH (a0r w):=Heap.get?_push_size _ rfl;let g:SO kd (s.heap.push (a0r w)) b eo epo to mo:=So.at λo e=>Heap.get?_push_of_some _ e
 change wpAny _ _ (kP s.heap.objs.size b _ >>= _) _ _ _
 show gJ (a5k (cF v) (λ_ q=>gK q) (SO.fresh n) g (by simp) hm .nil ndo (λ_=>rfl) λu a d j f t r k z m i l=>gK ?_);show h u a d j f t (λc o e=>r.extBut c o (bt (Heap.lt_size e)) (Heap.get?_push_of_some _ e)) k z m (λx=>by rw[i];simp) (by simp_all)
def a6b(So:SO kd s.heap b eo epo to mo)(h:Q kz s):wpAny (model prog w) A (gU.Frozenset.isAnySet (.ref b)) Q E s:=by
 show gJ (jk (b:=kz) So.ty (by rw[jI];kernel_rfl) ?_);show gK h
def b17:jJ table "set.__or__"=bH gU.«frozenset.__or__»:=kJ (id':="frozenset.__or__") (by kernel_rfl) rfl (by decide +kernel) (by kernel_rfl)
def or_set(hab:a≠b)(S:SO kd s.heap a es ep t ms)(So:SO kd s.heap b eo epo to mo)(hn:ms.length<=4)(hm:mo.length<=4)(nd:ms.Nodup)(ndo:mo.Nodup)
  (h:∀h' ms' d',(∀c o,s.heap.get? c=bH o->h'.get? c=bH o)->SI kd h' s.heap.objs.size ms'->ms'.Nodup->(∀x,x∈ms'↔x∈ms\/x∈mo)->ms'.length<=ms.length+mo.length->Q (.ref s.heap.objs.size) { s with heap:=h',drawn:=d' }) :
  wpAny (model prog w) A (hZ .BitOr (.ref a) (.ref b)) Q E s:=by
 show wpAny_binaryOp_same S.ty So.ty PySem.F.fills_set_or PySem.F.slot_set_or (im PySem.F.slot_set_or S.ty b17 ?_ (PySem.F.args_set_or_2 _ _));show gJ (gK ?_);dsimp only;show gJ (gJ (a6b S ?_));show a6b So ?_
 change wpAny _ _ (gU.Frozenset.copyOf a >>= _ >>= _) _ _ _
 let(oa,p,_):=S.at_;let(ob,f,N,i):=So.at_;let n:=Heap.lt_size f;show gJ (gJ (b16 S hn nd λG R U t1 m1 d1 g z C J u l1=>?_));let d:=So.at λo e=>g b o e;rw[if_pos ↑(Ne.symm hab)]
 change wpAny _ _ (ig [Value.ref s.heap.objs.size] _ >>= _) _ _ _
 show gJ (ib ?_);show gJ (a6b d ?_);rw[if_pos rfl]
 change wpAny _ _ (gU.Frozenset.merge _ s.heap.objs.size b) _ _ _
 show gJ (j3 (g b _ f) i So.fit ?_);show a5k (cF n) (λ{s' Q'} l q=>?_) z d (by lia) hm J ndo C λI T M t2 H y D r W v B Y=>gK (gK (_,rfl,nofun,?_))
 .unfold gU.Frozenset.unchanged;let(V,k,L,j):=l.at_;show gJ (j3 k j l.fit ?_);rw[if_neg (by simp)];show gK q
 .show h I H y (λc o e=>D.extBut c o (bt (Heap.lt_size e)) (g c o e)) (_,_,_,r) v (λx=>by rw[B,u]) (by lia)
end
section
variable{a d:Addr}{K:Type}[DecidableEq K]{kd:KeyKind prog w K}{es0:Array i9}{epd:Nat}{od:Obj}{ks:List K}{k0:K}
theorem b0i(hda:d≠a)(dd:od.data=.dict es0 epd)(hl:es0.size=ks.length)(hb:ks.length+1<iu)
    (he:∀(i:Nat) e,es0[i]?=bH e->∃k,ks[i]?=bH k/\kd.is k e.key=kz/\e.hash=kd.hash k/\e.key.scannable=kz)
 (hf:∀i r,f i r=(do
      let es <- dictEntries d
      match es[i]? with
      |some e=>do
        let _ <- ig [e.key] (jU a e.key e.hash)
        let q <- dictEpoch d
        if (q != epd)=kz then do
          iV kR
          pure (ForInStep.yield PUnit.unit)
        else pure (ForInStep.yield PUnit.unit)
      |none=>do
        iV m2
        pure (ForInStep.yield PUnit.unit))) :
    ∀(n i:Nat)(s:Shared)(ms:List K)(Q:PUnit->Shared->Prop),i+n=ks.length->s.heap.get? d=bH od->SI kd s.heap a ms->Met (λi=>ks.getD i k0) i ms ->
      (∀h' ms',Heap.SameBut a s.heap h'->SI kd h' a ms'->Met (λi=>ks.getD i k0) ks.length ms'->Q ⟨⟩ { s with heap:=h' })->wpAny (model prog w) A (forIn (List.range' i n) PUnit.unit f) Q E s
  |0,i,s,ms,Q,hi,_,S,M,h=>by
    let:=hi
    subst this;show gK (h s.heap ms (Heap.SameBut.refl ..) S M)
  |n+1,i,s,ms,Q,hi,g,S,M,h=>by
    let b:i<es0.size:=by lia
    let(k,x,G,o,D):=he i _ (bX b);rw[gm,dh,hf];show gJ (gJ (jt g dd ?_));rw[bX b];let(J,L,t,S'):=S;show gJ (ib ?_);rw[o];show a54 G D S' (by let:=M.2.1;lia) λH F I l v p=>?_;let j:=l.extBut d od hda g;show gJ (kO j dd ?_);rw[if_neg (by simp)];let y:ks.getD i k0=k:=by rw[cI,x];rfl
    show gK (b0i hda dd hl hb he hf n _ _ F Q (by lia) j v (M.step (by rw[y];show p)) λC B c z u=>h C B (l.trans c) z u)
set_option maxHeartbeats 3200000 in
def a6c{T:Shared->Prop}
  (hi:wpAny (model prog w) A.in1.in1 (gU.«set.__init__» ([.ref s.heap.objs.size,u],[])) (λfin s2=>fin=.done (.ret .none)/\T s2) E { s with heap:=s.heap.push (a0r w) }) (h:∀s2,T s2->Q (.ref s.heap.objs.size) s2) :
  wpAny (model prog w) A (call (.type "set") [u]) Q E s:=by
 let(mc,mt,mro):=PySem.F.called_set.mro;let md:=PySem.F.called_set.made;let sb:=PySem.F.called_set.sub;show jc (kI ?_)
 change wpAny _ _ (callAny (.type "set") _) _ _ _
 show gK (Code.quiet_builtin _ (by decide +kernel),iW PySem.F.entry_type_call ?_);rw[Around.under_plain (weight_type_call_type "set" [u] []) rfl];let nt:=PySem.F.called_set.notType;let cc:=PySem.F.called_set.canCreate;let tc:=PySem.F.typeCall_set_1 u
 repeat (any_goals (first |assumption |wp_step))
 show iP (a9A (w:=w) u (E:=E) (Q:=λobj s1=>obj=.ref s.heap.objs.size/\s1={ s with heap:=s.heap.push (a0r w) }) (rfl,rfl)) λr s1 hr=>?_;cases r with
 |error e=>show hr
 |ok fl=>
  cases fl with
  |ret obj=>
   let(rfl,rfl):=hr;let gS:(s.heap.push (a0r w)).get? s.heap.objs.size=bH (a0r w):=Heap.get?_push_size _ rfl;let tS:Shared.TypeIs { s with heap:=s.heap.push (a0r w) } (.ref s.heap.objs.size) "set":=(_,gS,rfl);let li:=PySem.F.called_set.init.lookup;let bi:=PySem.F.called_set.init.bind (.ref s.heap.objs.size)
   repeat (any_goals (first |assumption |wp_step))
   show iP (kB (R:=wants (λr s2=>r=.none/\T s2) E) PySem.F.called_set.init.plain PySem.F.entry_set_init (check_set_init_1 tS (hB hi (λfin s2 q=>?_) λ_ _ q=>q))) λr2 s2 hr2=>?_
   .let(rfl,q):=q;show(rfl,q)
   .cases r2 with
    |error e=>show hr2
    |ok f2=>
     cases f2 with
     |ret r=>
      let(rfl,q):=hr2
      repeat (any_goals (first |assumption |wp_step))
      show h _ q
     |_=>show hr2.elim
  |_=>show hr.elim
def call_setD(g:s.heap.get? d=bH od)(hx:od.ExactDict)(dd:od.data=.dict es0 epd)(hsm:d≠ic)(hl:es0.size=ks.length)(hb:ks.length<=4)
  (he:∀(i:Nat) e,es0[i]?=bH e->∃k,ks[i]?=bH k/\kd.is k e.key=kz/\e.hash=kd.hash k/\e.key.scannable=kz)
  (h:∀(h':Heap)(ms:List K),SI kd h' s.heap.objs.size ms->Met (λi=>ks.getD i k0) ks.length ms->(∀b o,s.heap.get? b=bH o->h'.get? b=bH o)->Q (.ref s.heap.objs.size) { s with heap:=h' }) :
  wpAny (model prog w) A (call (.type "set") [.ref d]) Q E s:=by
 let gS:(s.heap.push (a0r w)).get? s.heap.objs.size=bH (a0r w):=Heap.get?_push_size _ rfl;let g':(s.heap.push (a0r w)).get? d=bH od:=Heap.get?_push_of_some _ g;let ld:=Heap.lt_size g;show a6c (T:=λs2=>∃h' ms,s2={ s with heap:=h' }/\SI kd h' s.heap.objs.size ms/\Met (λi=>ks.getD i k0) ks.length ms/\∀b o,s.heap.get? b=bH o->h'.get? b=bH o) ?_ λs2 q=>by
  let(h',ms,rfl,S,M,k):=q;show h h' ms S M k
 let(oc,ox,ob,osl):=od;let(x1,x2,x3):=hx;simp only at dd x1 x2 x3;subst dd x1;let s1:=PySem.F.sub_dict_set;let s2:=PySem.F.sub_dict_frozenset;let ne:(Value.type "dict"==Value.type "dict")=kz:=by decide
 let nm:(d==ic)=kQ:=↑hsm
 unfold gU.«set.__init__» noKeywords gU.Frozenset.updateFrom
 wp_walk
 let rf:(gM.fresh 0 0 (!byT w)).roomFor es0.size=gV:=by
  unfold gM.roomFor;show if_neg (by simp[gM.fresh,gM.fill];lia)
 dsimp only;rw[rf];show gK (gJ (jt g' rfl ?_));let sb4:4096=scanBound:=rfl;rw[Std.Legacy.Range.forIn_eq_forIn_range'];show gJ ?_;show b0i (kd:=kd) (ks:=ks) (k0:=k0) (a:=s.heap.objs.size) (d:=d) (epd:=epd) (kR:=toString "set.__init__"++toString ":changed-during-callback") (m2:="internal:set-from-dict") (bt ld) rfl hl (by lia) he ?_ _ 0 _ [] _ ?_ g' (SI.fresh gS) (.nil,bd _,λx=>by simp) λh' ms sb S M=>?_
 .ext i r;show congrArg _ (funext λes=>?_);cases es[i]?<;>rfl
 .simp[Std.Legacy.Range.size,hl]
 .show gK (gK (rfl,h',ms,rfl,S,M,λb o e=>?_));show sb.extBut b o (bt (Heap.lt_size e)) (Heap.get?_push_of_some _ e)
end
end SetW
theorem b8e:∀{es:List i9}{vs:List (Key×Value)}{ns:List Str},Pairs (a0g P w) es vs->(∀e∈es,∃k,(a0g P w).is k e.key=kz/\e.hash=(a0g P w).hash k)->vs.map (·.1)=ns.map .inr ->
  ∀(i:Nat) e,es[i]?=bH e->∃k,ns[i]?=bH k/\(PySem.strKind P w).is k e.key=kz/\e.hash=(PySem.strKind P w).hash k/\e.key.scannable=kz
 |_,_,ns,.nil,_,_,i,e,h=>by simp at h
 |_,_,[],.cons ..,_,a,i,e,h=>by cases a
 |e0::es,kv::vs,n::ns,.cons h1 h2 h3,hk,a,i,e,h=>by
  cases i with
  |succ i=>show b8e h3 (λe c=>hk e (.tail _ c)) ↑((b9.inj a).2) i e ↑h
  |zero=>
   cases h;let a:kv.1=.inr n:=(b9.inj a).1;rw[a]at h1;let(k,b,d):=hk e0 (.head _)
   let:=(a0g P w).inj _ _ _ b h1
   subst this;let(_,_,z,_)||(x,t,z,q)||(z,_):=a0q (k:=.inr n) h1
   .cases z
   .cases z;show(n,rfl,by rw[q];show strKind_is ..,d,by rw[q];rfl)
   .cases z
def b41(X:Cx):List V->Hp->VK->Prop:=λxs H Q=>∃(p:Addr)(kvs:List (Key×V))(ns:List Str),xs=[.ref p]/\(H p=bH (.dK kvs)\/∃o,H p=bH (.frz o (.dK kvs)))/\kvs.map (·.1)=ns.map .inr/\ns.length<=4 /\
 ∀(t:Addr)(ms:List Str)(o:Obj),H t=gV->ms.Nodup->(∀x,x∈ms↔x∈ns)->ms.length<=ns.length->Q (.ref t) (upd H t (.frz o (setS X t ms)))
def a3u:CallR X (.type "set") (b41 X):=by
 ext f s σ H xs us Q I r h;let(p,a,j,rfl,J,L,B,q):=h;let(u,rfl,N):=a2v r;cases N;obtain⟨_,m,b,G,od,D,ep,g,T,R,ks,t,_⟩:a.length<=gN/\_=kQ/\∃b,KV a b/\s.heap.DictOf (a0g X.prog X.w) p b:=by
  let e||(o,e):=J
  .show I.hok p _ e
  .show (I.hok p _ e).2
 let z:∀{a:List (Key×V)}{b:List _},KV a b->b.map _=a.map (·.1):=λ{a}=>by
  induction a with
  |nil=>ext b h;cases h;rfl
  |cons p a ih=>ext b h;cases h with |cons h1 h2=>rw[bx,bx,ih h2,h1.1]
 let n:=(z G).trans L;let C:D.size=j.length:=by
  let v:=t.length;let A:=congrArg bL n;simp at v A
  lia
 show SetW.call_setD (k0:=Str.ofString "") g T R (by grind) C B (λi e h=>b8e t (λe E=>ks e (by simp_all)) n i e (by simp_all)) λc d S M k=>?_;obtain⟨o,e⟩:∃o,c.get? s.heap.objs.size=bH o:=let (_,_,_,S'):=S;let (o,e,_):=S'.at_;(o,e)
 let F:=
  I.laid (t':=s.toks) k (bd _) (show ObjOk X.prog X.w _ c _ (.frz o (setS X s.heap.objs.size d)) from (e,S,(o,e),λ_ _ x y=>x.at y))
 show(.ref s.heap.objs.size,_,F,rfl,q _ d o (I.hok.fresh (bd _)) M.1 (metK M) M.2.1)
def rOrS(X:Cx):R2:=λx y H Q=>∃(p q:Addr)(o o':Obj)(ms mo:List Str),x=.ref p/\y=.ref q/\p≠q/\H p=bH (.frz o (setS X p ms))/\H q=bH (.frz o' (setS X q mo))/\ms.length<=4/\mo.length<=4/\ms.Nodup/\mo.Nodup /\
 ∀(t:Addr)(ks:List Str),H t=gV->ks.Nodup->(∀x,x∈ks↔x∈ms\/x∈mo)->ks.length<=ms.length+mo.length->Q (.ref t) (upd H t (setS X t ks))
def b8f:OpR X (hZ .BitOr) (rOrS X):=by
 ext b s σ H x y v u Q I D G h;let(p,r,o,N,f,E,rfl,rfl,j,F,z,m,i,C,B,q):=h;cases D;cases G;let(L,T,t,S):=(I.hok p _ F).2.1;let(M,J,R,So):=(I.hok r _ z).2.1;show SetW.or_set j S So m i C B λg a d k c n e l=>?_;let A:=
  (I.drew d).laid (t':=s.toks) k (bd _) (show ObjOk X.prog X.w _ g _ (setS X s.heap.objs.size a) from (c,let (_,_,_,S'):=c;let (o,e,_):=S'.at_;(o,e),λ_ _ x y=>x.at y))
 show(.ref s.heap.objs.size,_,A,rfl,q _ a (I.hok.fresh (bd _)) n e l)
section
variable{a b:Expr}{ta tb:A3}{x:Str}{p p2 p3 pos2 pos3 pos4:Pos}
def KeysS(G:Hq)(ws:List Z)(ns:List Str):Prop:=∃(p:Addr)(kvs:List (Key×Z)),ws=[.ref p]/\(G p=bH (.dK kvs)\/G p=bH (.dF kvs))/\kvs.map (·.1)=ns.map .inr/\ns.length<=4
def uSSU(ta tb:A3):E3:=fun σ G R=>ta σ G λws G1=>∃ns,KeysS G1 ws ns/\tb σ G1 λws' G2=>∃ns',KeysS G2 ws' ns' /\
 ∀(t:Addr)(ks:List Str),G2 t=gV->iX ks=kz->ks.Nodup->(∀x,x∈ks↔x∈ns\/x∈ns')->ks.length<=8->R (.ref t) (put G2 t (.lst (ks.map Z.str)))
def KeysS.low{K:Fg}(h:KeysS G ws ns)(rs:Reps K H ws vs)(hg:RH K G H) :
  ∃(p:Addr)(kvs:List (Key×V)),vs=[.ref p]/\(H p=bH (.dK kvs)\/∃o,H p=bH (.frz o (.dK kvs)))/\kvs.map (·.1)=ns.map .inr:=by
 let(p,f,rfl,e,d,_):=h;let(v,rfl,r):=rs.one;let e||e:=e
 .let(a,c,b,_):=hg _ _ e;show(p,a,by rw[r],.inl c,by rw[b,d])
 .let(o,a,c,b,_):=hg _ _ e;show(p,a,by rw[r],.inr (o,c),by rw[b,d])
def c0j(hc:X.calm=kz)(hg:Gl X x)(hm:X.mg x=gV)(hv:ij x=bH (.builtin "sorted"))(hg2:Gl X y)(hm2:X.mg y=gV)(hv2:ij y=bH (.type "set"))(ha:QA X [a] ta)(hb:QA X [b] tb)
  (he:gQ [a] X.env=(kQ,eval a X.env,)::gQ [] X.env) (hpl:(backTo pos2 (gQ [] X.env)).any (·.1)=kQ)
  (he2:gQ [b] X.env=(kQ,eval b X.env,)::gQ [] X.env) (hpl2:(backTo pos3 (gQ [] X.env)).any (·.1)=kQ)
  (hn:x≠"__name__":=by decide) (hdb:(x==("__debug__":Str))=kQ:=by decide) (hn2:y≠"__name__":=by decide) (hdb2:(y==("__debug__":Str))=kQ:=by decide) :
  QE X (.Call (.Name x p) [.BinOp (.Call (.Name y p2) [a] [] pos2) .BitOr (.Call (.Name y p3) [b] [] pos3) pos4] [] pos) (uSSU ta tb):=⟨a0J (a25 (a2g hc) hg hm hv (a4b (b56 b8f (a1y a3u hg2 hm2 hv2 ha.p hn2 hdb2 he hpl) (a1y a3u hg2 hm2 hv2 hb.p hn2 hdb2 he2 hpl2)) a6B rfl) hn hdb rfl rfl) fun τ H Q hx=>hx.un fun σ G R hs hg h up=>
 (σ,G,_,hs,hg,h,λws G1 vs T n rs i S=>by
  let(ns,J,n):=n;let(p,w,rfl,e,hn):=J.low rs i;let(_,_,_,_,_,z1):=J;show(p,w,ns,rfl,e,hn,z1,λt C o A nd me ml=>?_);let t2:TK X.K T (L2.upd T t (.frz o (setS X t C))):=.new A;show(σ,G1,_,hs.mono (S.trans t2),i.hid A,n,λws' G2 vs' H2 m I hg2 L=>?_);let(ns',B,m):=m;let(p',k,rfl,e',N):=B.low I hg2;let(_,_,_,_,_,z2):=B;let r:=L.frd t o _ a0e;show(p',k,ns',rfl,e',N,z2,λq j o' c nd' F ml'=>?_);let D:t≠q:=λz=>by rw[z]at r;rw[r]at c;cases c
  show(t,q,o,o',C,j,rfl,rfl,D,by rw[a0f D];show r,a0e,by lia,by lia,nd,nd',λu M v n3 m3 l3=>(u,M,rfl,a0e,by lia,λu2 g f l so=>?_));let g3:=(hg2.hid c).hid (u:=setS X u M) v;show up _ _ _ _ (m u2 g (g3.out f) so (l.nodup_iff.mpr n3) (λx=>by rw[l.mem_iff,m3,me,F]) (by rw[l.length_eq];lia)) (by rw[a0s]) (g3.set (.new f) (_,a0e,a2C g)) (S.trans (t2.trans (L.trans ((TK.new c).trans ((TK.new v).trans (.new f)))))))⟩
end
def b18(na:(a==ic)=kQ)(nb:(b==ic)=kQ)(da:s.heap.DictOf (a0g P w) a ka)(db:s.heap.DictOf (a0g P w) b kb)(hu:A.units<cLine)(hl:ka.length=kb.length)
  (hv:∀(i:Nat) k v,ka[i]?=bH (k,v,)->∃y,iC kb k=bH y/\EqW P w A.in1 s v y) (q:Q (.bool kz) s):wpAny (model P w) A (gX .Eq (.ref a) (.ref b)) Q E s:=by
 show wpAny_richCompare_same_room (op:=.Eq) da.typeIs db.typeIs PySem.F.slot_dict_eq (im PySem.F.slot_dict_eq da.typeIs PySem.F.entry_dict_eq ?_ (PySem.F.args_dict_eq_2 _ _)) hu;show gJ ?_;show gJ (kM da.typeIs (gK ?_));show gJ (jk db.typeIs PySem.F.sub_dict_dict ?_);show gJ (gK (gJ (gK (gJ (a5j na nb da db hl hv ?_)))));show gK (_,rfl,(λx=>nomatch x),q)
def b42{K:Fg}(hg:RH K G H)(h1:LEq G x kR)(r1:Rep K H x u)(r2:Rep K H kR v):DEq1 H u v:=by
 let(p,q,a,rfl,rfl,e,h,f):=h1;subst r1 r2;let(j,b,d):=hg _ _ e;let(i,c,g):=hg _ _ h;show(.list _,?_,?_,a1l f (by simp),?_);show(_,j,rfl,b,a41 8 _ _ f d);show(_,i,rfl,c,a41 8 _ _ f g)
 .simp only[PyData.eqv];show (a9f 8 8 a a f f).mpr rfl
def b19(R:V->V->Prop)(H:Hp)(x y:V):Prop:=∃a b ua ub,x=.ref a/\y=.ref b/\Rd H a (.dK ua)/\Rd H b (.dK ub)/\ua.length=ub.length/\∀(i:Nat) p,ua[i]?=bH p->∃y,valV ub p.1=bH y/\R p.2 y
section
variable{σ:St}
def a35{a b:Addr}{x y:V}(I:Inv X pins σ H s)(hu:X.A.units+66<cLine)(h:b19 (DEq1 H) H x y):∃a b ka kb,x=.ref a/\y=.ref b/\(a==ic)=kQ/\(b==ic)=kQ/\s.heap.DictOf (a0g X.prog X.w) a ka/\s.heap.DictOf (a0g X.prog X.w) b kb/\ka.length=kb.length /\
  ∀(i:Nat) k v,ka[i]?=bH (k,v,)->∃y,iC kb k=bH y/\EqW X.prog X.w X.A.in1 s v y:=by
 let(a,b,ua,ub,rfl,rfl,ra,rb,hl,hr):=h;let(_,na,ka,va,da):=a8M I.hok ra;let(_,nb,kb,vb,db):=a8M I.hok rb;show(a,b,ka,kb,rfl,rfl,na,nb,da,db,by rw[a2R va,a2R vb,hl],λi k v e=>?_);let li:i<ua.length:=by let:=(bh.mp e).1;rw[a2R va]at this;show this
 obtain⟨p,hp⟩:∃p,ua[i]?=bH p:=(_,bn li);let(p',e1,e2,e3):=b0b va hp;rw[e]at e1;cases e1;let(y,hy,d,d1,d2,d3,d4):=hr i p hp;let q:=vb.val p.1;rw[hy]at q;cases hz:iC kb p.1 with
 |none=>rw[hz]at q;cases q
 |some z=>
  rw[hz]at q;let q:RelV y z:=q;show(z,by rw[<- hz,e2],?_);let(as,q1):=d1.reads I.hok e3;let(bs,q2):=d2.reads I.hok q
  let:=PySem.W.keq_at (A:=X.A) q1 q2 d3 d3 (by change X.A.units+1+64<_;cbv)
  rw[d4]at this;show λE Q h=>this _ _ E Q h
def b43(hu:X.A.units+66<cLine):OpR X (gX .Eq) (λx y H Q=>b19 (DEq1 H) H x y/\Q (.bl kz) H):=by
 intro pins s σ H x y v u Q I rx ry (h,q);let(a,b,ka,kb,rfl,rfl,na,nb,da,db,hl,hv):=a35 (a:=0) (b:=0) I hu h;cases rx;cases ry;show b18 na nb da db (by cbv) hl hv (.bl kz,H,I,rfl,q)
def b44(hu:X.A.units+66<cLine):OpR X (gX .NotEq) (λx y H Q=>b19 (DEq1 H) H x y/\Q (.bl kQ) H):=by
 intro pins s σ H x y v u Q I rx ry (h,q);let(a,b,ka,kb,rfl,rfl,na,nb,da,db,hl,hv):=a35 (a:=0) (b:=0) I hu h;cases rx;cases ry;show b4Y na nb da db (by cbv) hl hv (.bl kQ,H,I,rfl,q)
end
def b2a(R:Z->Z->Prop)(G:Hq)(x y:Z):Prop:=∃a b ka kb,x=.ref a/\y=.ref b/\(G a=bH (.dK ka)\/G a=bH (.dF ka))/\(G b=bH (.dK kb)\/G b=bH (.dF kb))/\ka.length=kb.length/\∀(i:Nat) p,ka[i]?=bH p->∃y,valZ kb p.1=bH y/\R p.2 y
def a5l{K:Fg}{G:Hq}{H:Hp}(hg:RH K G H){x y:Z}{u v:V}(h:b2a (LEq G) G x y)(ru:Rep K H x u)(rv:Rep K H y v):b19 (DEq1 H) H u v:=by
 let(a,b,ka,kb,rfl,rfl,ea,eb,hl,hr):=h;rw[a0s]at ru rv;let(us,e1,n1,r1):=b3f hg ea;let(vs,e2,n2,r2):=b3f hg eb;let l1:us.length=ka.length:=by let:=congrArg bL n1;o_head this
 let l2:vs.length=kb.length:=by let:=congrArg bL n2;o_head this
 show(a,b,us,vs,ru,rv,e1,e2,by lia,λi p hp=>?_);obtain⟨p',hp'⟩:∃p',ka[i]?=bH p':=(_,bn (by let:=(bh.mp hp).1;lia));let(p2,a1,a3,a2):=a3t n1 r1 hp';rw[hp]at a1;cases a1;let(y,hy,R):=hr i p' hp';let(z,z1,z2):=(a01 n2 r2).2 y hy;show(z,by rw[a3];show z1,b42 hg R a2 z2)
def c0k:R3:=λx y G R=>b2a (LEq G) G x y/\R (.bl kz) G
def c0l:R3:=λx y G R=>b2a (LEq G) G x y/\R (.bl kQ) G
def b8g{X:Cx}(hu:X.A.units+66<cLine):OpQ X (gX .Eq) c0k:=a3g (b43 hu) λx y H Q hx=>hx.un λa b G R ra rb hg h up=>(a5l hg h.1 ra rb,up _ _ _ _ h.2 (by rw[a0t]) hg (.refl _ _))
def b8h{X:Cx}(hu:X.A.units+66<cLine):OpQ X (gX .NotEq) c0l:=a3g (b44 hu) λx y H Q hx=>hx.un λa b G R ra rb hg h up=>(a5l hg h.1 ra rb,up _ _ _ _ h.2 (by rw[a0t]) hg (.refl _ _))
section
variable{K:Fg}{mg:Str->Option Value}{base:Heap}{x:Str}{st:Stmt}{f:Addr}{d:ik}{N:List Str}{k n:Nat}{CX:CXT}{q:Str}{so:Scope}{cd:Value}{outer:List Env}{E:XK}
def fnc0{sp:P3}(n:Nat)(B:Br K mg)(F:FX K x st)(h:∀ws G R,¬ sp ws G R)(pl:Pl x x st (N.take n):=by ext _ _ _ _ _ _;(repeat show lnS λ_=>?_);show ln0 rfl):Cal P w K mg base CX0 k x (lowP K sp):=by
 let(f,d,e,F):=F;show⟨(f,(d,_,a9V h,F.binds pl),B _ _ e,F.kp)⟩
def cxNn:(cxOf CX P w K mg base N q so f cd A outer s H E).nox.nox.N=N:=rfl
def cxNh{e:Addr}{oe:Obj}:((cxOf CX P w K mg base N q so f cd A outer s H E).nox.hnd e oe).N=N:=rfl
end
section
variable{ce:Expr}{x n:Str}{D:Addr}{np hpos:Pos}
def PB(X:Cx)(ss:List Stmt)(t:XK->TS):Prop:=∀(pins:List (Addr×Obj))(s:Shared)(σ:St)(H:Hp)(D:Ends)(E:XK),Inv X pins σ H s->t E D σ H ->
 wpAny (model X.prog X.w) X.A (execs ss X.env) (SP X pins D) (λev s'=>∃H1 s1,Inv X pins σ H1 s1/\CXx X.prog X.w X.stack H1 s1 E ev s') s
def b45{tc:XK->TE}(hb:PX X ce tc)(hs:iB ce gV pos.line X.env=pure kQ:=by rfl):PB X [.Expr ce pos] (λE D σ H=>tc E σ H λ_ H1=>D.nx σ H1):=λpins s σ H D E I h=>
 jL (wpAny_Expr_any (hB (hb pins s σ H _ E I h) (λv s1 (y,H1,I1,r1,q1)=>iY (σ,H1,I1,q1)) λ_ _ z=>z) I.quiet hs)
def c0m{c:Expr}{sa sb:List Stmt}{tc:TT}{ta tb:XK->TS}(hc:PT X.nox c tc)(ha:PB X sa ta)(hb:PB X sb tb):PB X [.If c sa sb pos] (λE D σ H=>tc σ H λb H1=>if b=kz then ta E D σ H1 else tb E D σ H1):=by
 ext pins s σ H D E I h;show jL (wpAny_If (hB (hc pins s σ H _ (I.wish _) h) (λd s1 (H1,I1,q1)=>?_) λ_ _ z=>bj z));let I1:=I1.unwish;cases d with
 |true=>show hB (ha pins s1 σ H1 D E I1 q1) (λfl s2 q=>by cases fl with |next=>show iY q |_=>show q) λ_ _ z=>z
 |false=>show hB (hb pins s1 σ H1 D E I1 q1) (λfl s2 q=>by cases fl with |next=>show iY q |_=>show q) λ_ _ z=>z
def c0n(PC:Addr->Prop)(i:Nat)(tb:XK->TS)(th:Addr->Addr->TS):TS:=λD σ H=>∃E:XK,tb E D σ H/\∀c H',E c gV H'->∃C,c=.ref C/\PC C/\∀e,H' e=gV ->
 th C e { nx:=fun σ' H''=>D.nx (σ'.set i gV) H'',rt:=D.rt,bk:=fun σ' H''=>D.bk (σ'.set i gV) H'',ct:=fun σ' H''=>D.ct (σ'.set i gV) H'' } (σ.set i (bH (.ref e))) H'
def b46{body:List Stmt}{b₀:Stmt}{suite:List Stmt}{i:Nat}{tb:XK->TS}{PC:Addr->Prop}{th:Addr->Addr->TS}(hst:X.stack=X.env::X.outer)(hex:X.ex=[])(hfm:X.env.frame=bH X.env.locals)(hb:PB X body tb)(hg:Gl X x)(hm:X.mg x=bH (.ref D))(hD:∀C,PC C->PySem.W.exmOne X.K (.ref C) (.ref D)=bH kz)
  (hN:X.N.Nodup) (hi:X.N[i]?=bH n) (hl:X.env.scope.names.lookup n=bH .local) (hh:∀C e oe,PC C->oe.cls=.ref C->oe.dict=gV->PySem.W.notCls oe=kz->PSs (X.hnd e oe) (b₀::suite) (th C e))
  (hd:(x==("__debug__":Str))=kQ:=by decide) :
  PS X (.Try body [.ExceptHandler (bH (.Name x np)) (bH n) (b₀::suite) hpos] [] [] tpos) (c0n PC i tb th):=by
 intro pins s σ H D' I (E,hc,hE);show wpAny_Try_except (hB (hb pins s σ H _ E I hc) (λfl s1 q=>?_) λev s' q=>?_)
 .cases fl with
  |next=>show iY q
  |_=>show q
 let(H1,s1,I1,e,C,H',rfl,os,bare,un,hok,((T,f,nT,fT),ne,fe),q):=q;let(C0,hC,hPC,hth):=hE _ _ q;cases hC;let I2:Inv X pins σ H' s':=I1.call' (ch:=[]) os un hok bare λ_ z=>nomatch z;let fr:X.A.frames=bH (X.env::X.outer):=by rw[<- hst];show I.ok.frames
 let fl:s'.heap.FunFrames X.base (X.env::X.outer):=by rw[<- hst];show I2.stack
 let young:∀b,s1.heap.get? b=gV->H' b=gV->X.s₀.heap.get? b=gV/\H' b=gV/\b≠X.env.locals/\(∀x c,X.env.cells.lookup x=bH c->c≠b)/\∀p∈X.pn++pins,p.1≠b:=λb h1 h2=>by
  show(?_,h2,λz=>?_,λx c hx z=>?_,λp hp z=>?_)
  .cases q0:X.s₀.heap.get? b with
   |none=>rfl
   |some o=>
    let(o',e'):=I1.base.there b o q0 (by rw[hex];show dA);rw[h1]at e';cases e'
  .let(m,(o,_,_,e',_),_):=I1.loc;rw[z,e']at h1;cases h1
  .let(v,o,e',_):=I1.cell x c hx;rw[z,h1]at e';cases e'
  .let e':=(I1.pin p hp).1;rw[z,h1]at e';cases e'
 show a8R (base:=X.base) fr fl hfm f λh1 T1 k1 f1 z1=>a8Q (s:={ s' with heap:=h1 }) f1 λh2 k2 f2=>?_;let yT:∀b,b=e\/b=T->X.s₀.heap.get? b=gV/\H' b=gV/\b≠X.env.locals/\(∀x c,X.env.cells.lookup x=bH c->c≠b)/\∀p∈X.pn++pins,p.1≠b:=λb hb=>by
  let rfl||rfl:=hb
  .show young _ ne fe
  .show young _ nT fT
 let tk:∀b,b=T1->(b=e\/b=T)\/s'.heap.objs.size<=b:=λb hb=>by
  rw[hb];let z||z:=z1
  .show .inl (.inr z)
  .show .inr z
 let k12:=k1.trans (k2 _) tk;let I3:Inv X pins σ H' { s' with heap:=h2 }:=I2.lk0 (by rw[hst];show k12) yT;let mk:∀{h:Heap},FlyT e (.ref C) T1 .none h->Inv X pins σ H' { s' with heap:=h }->∃oe,oe.cls=.ref C/\oe.dict=gV/\PySem.W.notCls oe=kz/\Inv (X.hnd e oe) pins σ H' { s' with heap:=h }:=λ{h} f I=>by
  let(oe,vs,_,_,g1,g2,g3,_):=f;show(oe,g2.1,g2.2,by unfold PySem.W.notCls;rw[g3],I.hnd g1 fe (young e ne fe).2.2.1 (λz=>?_) (λv=>by rw[g3];show λz=>nomatch z));let(_,ob,hob,no):=I.funs.mem z;let hob':h.get? e=bH ob:=hob;rw[g1]at hob';cases hob';show no vs g3
 let(oe,c1,c2,c3,J3):=mk f2 I3;show wpAny_handleBy_cons (codeAny_handlers_test (a2u (X:=X.hnd e oe) J3 hg hm ?_ hd)) (by ext q;cases q);let LT:PySem.W.Looks (model X.prog X.w) h2 (typeOf (.ref e)) (.ref C):=by
  let he:=(J3.pin (e,oe,) (.head _)).1;show c1▸(PySem.W.Looks.ld he).andThen .now
 show (PySem.W.exm_one I3.kIn LT (hD C hPC)).at ?_;show codeAny_handlers_suite_as ?_;show a8Q (s:={ s' with heap:=h2 }) f2 λh3 k3 f3=>?_;let I4:Inv X pins σ H' { s' with heap:=h3 }:=I2.lk0 (by rw[hst];show k12.trans (k3 _) tk) yT;let(oe,c1,c2,c3,J4):=mk f3 I4;show a24 (X:=X.hnd e oe) J4 hN hi (.inl hl) (v:=.ref e) rfl (λs5 J5=>?_) (.inr hl);show hB (hh C e oe hPC c1 c2 c3 pins s5 _ H' _ J5 (hth e fe)) (λfl s6 q6=>?_) λ_ _ z=>bj z;cases fl with
 |next=>
  let(σ6,H6,J6,q):=q6;show a14 (J6.unhnd I.ok) hN hi hl λs7 I7=>(_,H6,I7,q)
 |brk=>
  let(σ6,H6,J6,q):=q6;show a14 (J6.unhnd I.ok) hN hi hl λs7 I7=>(_,H6,I7,q)
 |cont=>
  let(σ6,H6,J6,q):=q6;show a14 (J6.unhnd I.ok) hN hi hl λs7 I7=>(_,H6,I7,q)
 |ret u=>
  let(v,σ6,H6,J6,r6,q):=q6;show a14 (J6.unhnd I.ok) hN hi hl λs7 I7=>(v,_,H6,I7,r6,q)
end
abbrev B3:=(Addr->Hq->Prop)->X3
def lowB(K:Fg)(t:B3):XK->TS:=λE D τ H=>∃σ G nx rt bk ct EE,RSt K H σ τ/\RH K G H/\t EE nx rt bk ct σ G/\UpS K H nx D.nx/\UpV K H rt D.rt/\UpS K H bk D.bk/\UpS K H ct D.ct/\UpX K H EE E
structure QB (X:Cx) (ss:List Stmt) (t:B3):Prop where
 p:PB X ss (lowB X.K t)
section
variable{x n:Str}{D C:Addr}{np hpos p cp:Pos}{e:Expr}{t:A3}{k j:Nat}{sp:PX3}{PC:Addr->Prop}
def b8i{ss:List Stmt}{t t':XK->TS}(h:PB X ss t')(i:∀E D σ H,t E D σ H->t' E D σ H):PB X ss t:=λpins s σ H D E I q=>h pins s σ H D E I (i E D σ H q)
def uBx(t:A3)(sp:PX3):B3:=λEE nx _ _ _ σ G=>t σ G λws G1=>sp ws G1 (λ_ G2=>nx σ G2) EE
def b0j(c:Cal X.prog X.w X.K X.mg X.base (CXx X.prog X.w) k y (a2f X.K sp))(hr:Room j X.A)(ha:QA X.nox (e::es) t)(hn:(e::es).all nst=kz:=by rfl)(hk:k<=j:=by decide)(hgf:Gl X y:=by rfl)
  (hdb:(y==("__debug__":Str))=kQ:=by decide) (hs:iB (.Call (.Name y p) (e::es) [] cp) gV pos.line X.env=pure kQ:=by rfl):QB X [.Expr (.Call (.Name y p) (e::es) [] cp) pos] (uBx t sp):=by
 let(f,(d,ps,F,hb),hmf,hkp):=c.ex;show⟨b8i (b45 (b3U F (hr.mono hk) hgf hmf hkp hb ha.p hdb (s1_ hn) (h1_ hn)) hs) λE D τ H hx=>?_⟩;let(σ,G,nx,rt,bk,ct,EE,hs,hg,h,u1,u2,u3,u4,ux):=hx;show(σ,G,_,hs,hg,h,λws G1 vs H1 h1 rs hg1 t1=>(ws,G1,_,_,by rw[bM];show rs,hg1,h1,λw G2 v H2 h2 _ hg2 t2=>u1 _ _ _ _ h2 (hs.mono (t1.trans t2)) hg2 (t1.trans t2),λC' G2 H2 h2 r2 t2=>ux C' G2 H2 h2 r2 (t1.trans t2)))
def uBif(tc:T3)(ta tb:B3):B3:=λEE nx rt bk ct σ G=>tc σ G λb G1=>if b=kz then ta EE nx rt bk ct σ G1 else tb EE nx rt bk ct σ G1
def c0o{c:Expr}{sa sb:List Stmt}{tc:T3}{ta tb:B3}(hc:QT X.nox c tc)(ha:QB X sa ta)(hb:QB X sb tb):QB X [.If c sa sb pos] (uBif tc ta tb):=
 ⟨b8i (c0m hc.p ha.p hb.p) λE D τ H hx=>by
  let(σ,G,nx,rt,bk,ct,EE,hs,hg,h,u1,u2,u3,u4,ux):=hx;show(σ,G,_,hs,hg,h,λb G1 H1 h1 hg1 t1=>?_);cases b with
  |true=>rw[if_pos rfl]at h1 ⊢;show(σ,G1,nx,rt,bk,ct,EE,hs.mono t1,hg1,h1,u1.mono t1,u2.mono t1,u3.mono t1,u4.mono t1,λC G H' z r t=>ux C G H' z r (t1.trans t))
  |false=>rw[if_neg (by simp)]at h1 ⊢;show(σ,G1,nx,rt,bk,ct,EE,hs.mono t1,hg1,h1,u1.mono t1,u2.mono t1,u3.mono t1,u4.mono t1,λC G H' z r t=>ux C G H' z r (t1.trans t))⟩
def b8j(PC:Addr->Prop)(i:Nat)(tb:B3)(th:Addr->Addr->X3):X3:=λnx rt bk ct σ G=>tb (λC' G3=>PC C'/\∀e,th C' e (fun σ' G'=>nx (σ'.set i gV) G') rt (fun σ' G'=>bk (σ'.set i gV) G') (fun σ' G'=>ct (σ'.set i gV) G') (σ.set i (bH (.ref e))) G3) nx rt bk ct σ G
def b8k{tb:B3}{th:Addr->Addr->X3}{i:Nat}{nx bk ct:C3}{rt:K3}{σ:S3}{G:Hq}(h:tb (λC' G3=>PC C'/\∀e,th C' e (fun σ' G'=>nx (σ'.set i gV) G') rt (fun σ' G'=>bk (σ'.set i gV) G') (fun σ' G'=>ct (σ'.set i gV) G') (σ.set i (bH (.ref e))) G3) nx rt bk ct σ G):b8j PC i tb th nx rt bk ct σ G:=h
def c0p{tc:T3}{ta tb:B3}{EE:Addr->Hq->Prop}{nx bk ct:C3}{rt:K3}{σ:S3}{G:Hq}(h:tc σ G λb G1=>if b=kz then ta EE nx rt bk ct σ G1 else tb EE nx rt bk ct σ G1):uBif tc ta tb EE nx rt bk ct σ G:=h
def i_bx{EE:Addr->Hq->Prop}{nx bk ct:C3}{rt:K3}{σ:S3}{G:Hq}(h:t σ G λws G1=>sp ws G1 (λ_ G2=>nx σ G2) EE):uBx t sp EE nx rt bk ct σ G:=h
def z_tB{body:List Stmt}{b₀:Stmt}{suite:List Stmt}{i:Nat}{tb:B3}{th:Addr->Addr->X3}(PC:Addr->Prop)(hb:QB X body tb)(hm:X.mg x=bH (.ref D))(hD:∀C,PC C->PySem.W.exmOne X.K (.ref C) (.ref D)=bH kz)(hN:X.N.Nodup)
  (hh:∀C e oe,PC C->oe.cls=.ref C->oe.dict=gV->PySem.W.notCls oe=kz->QSs (X.hnd e oe) (b₀::suite) (th C e)) (hi:X.N[i]?=bH n:=by rfl) (hl:X.env.scope.names.lookup n=bH .local:=by rfl) (hst:X.stack=X.env::X.outer:=by rfl) (hex:X.ex=[]:=by rfl) (hfm:X.env.frame=bH X.env.locals:=by rfl) (hg:Gl X x:=by rfl)
  (hd:(x==("__debug__":Str))=kQ:=by decide):QS X (.Try body [.ExceptHandler (bH (.Name x np)) (bH n) (b₀::suite) hpos] [] [] tpos) (b8j PC i tb th):=
 ⟨a1t (b46 (PC:=PC) (th:=λC e=>lowS X.K (th C e)) (tpos:=tpos) (np:=np) (hpos:=hpos) hst hex hfm hb.p hg hm hD hN hi hl (λC e oe z h1 h2 h3=>(hh C e oe z h1 h2 h3).p) hd) λD τ H hx=>hx.un fun σ G nx rt bk ct hs hg h u1 u2 u3 u4=>by
  show(λc _ H'=>∃C' G',c=.ref C'/\(PC C'/\∀e,th C' e (fun σ' G'=>nx (σ'.set i gV) G') rt (fun σ' G'=>bk (σ'.set i gV) G') (fun σ' G'=>ct (σ'.set i gV) G') (σ.set i (bH (.ref e))) G')/\RH X.K G' H'/\TK X.K H H',?_,?_)
  .show(σ,G,nx,rt,bk,ct,_,hs,hg,h,u1,u2,u3,u4,λC' G2 H2 h2 r2 t2=>(C',G2,rfl,h2,r2,t2))
  .ext c H' ⟨C',G',rfl,⟨hC',hth⟩,hg',t'⟩;show(C',rfl,hC',λe _=>(σ.set i (bH (.ref e)),G',_,_,_,_,(hs.mono t').set (by rw[a0s]) i,hg',hth e,?_,u2.mono t',?_,?_))
   .show fun σ2 G2 τ2 H2 h2 hs2 hg2 t2=>u1 _ _ _ _ h2 (RSt.unset hs2 i) hg2 (t'.trans t2)
   .show fun σ2 G2 τ2 H2 h2 hs2 hg2 t2=>u3 _ _ _ _ h2 (RSt.unset hs2 i) hg2 (t'.trans t2)
   .show fun σ2 G2 τ2 H2 h2 hs2 hg2 t2=>u4 _ _ _ _ h2 (RSt.unset hs2 i) hg2 (t'.trans t2)⟩
end
end L2
set_option maxHeartbeats 4000000
namespace Lw
open PySem L2
noncomputable def top(i:Nat):Stmt:=PySem.Challenge.pw_twotimes_k61_changes_told.main.body.getD i (.Pass (0,0,0,0))
def UnLt(n:Nat):Prop:=n+66<cLine
def b8l{A:Around}{k:Nat}(hr:Room k A):UnLt A.units:=by let:=hr.un;unfold UnLt;cbv
noncomputable def tF:List (Str×Nat):=("is_name",15,)::("is_moment",16,)::("is_stretch",17,)::("earlier_end",18,)::("ahead_of",22,)::("with_alike_joined",27,)::("from_on",23,)::("put_on",20,)::("bounds_of",24,)::("is_over",26,)::("worths_in",25,)::("laid_together",21,)::("check_in_reach",35,)::("check_name",33,)::("table_at",29,)::("unlike_of",31,)::("changes",30,)::("check_stretch",34,)::("check_telling",37,)::("line_behind",38,)::("_law_cell_at",41,)::("_law_stream",42,)::("_law_take",43,)::("_law_name",44,)::("_law_names",45,)::("_law_stretch",46,)::("_law_worth_at",47,)::("_law_bounds",48,)::("_law_line",49,)::("_law_same",50,)::("_law_tellings",51,)::("_law_puts",52,)::("_law_keys",53,)::("_law_due",54,)::("_law_table",55,)::("_law_refused",56,)::("_law_right",57,)::("_law_asked",58,)::("law",59,)::[]
noncomputable def tB:List Str:=["all","isinstance","str","len","bool","int","min","max","sorted","set","zip","reversed","dict","range","list","tuple","ValueError"]
noncomputable def a66:List (Str×Str×Nat×Nat):=("check_knowing","Sheet.check_knowing",39,7,)::("known_line","Sheet.known_line",39,9,)::("line_at","Sheet.line_at",39,5,)::("keys_at","Sheet.keys_at",39,6,)::("__init__","Sheet.__init__",39,0,)::("keep_line","Sheet.keep_line",39,8,)::("tell","Sheet.tell",39,1,)::[]
noncomputable def a67:List Str:=["last","kept"]
set_option genInjectivity false in
structure Ad where
 c_Sheet:Addr
 x_NoKnowing:Addr
 x_TimesError:Addr
 x_Broken:Addr
 x_Forgotten:Addr
 x_NoFit:Addr
 x_NoLog:Addr
 x_NoName:Addr
 x_NoRow:Addr
 x_NoSheet:Addr
 x_NoStretch:Addr
structure Txt (K:Fg) (mg:Str->Option Value) (a:Ad):Prop where
 br:Br K mg
 f:AllF K top tF
 b0:AllB K tB
 mg_Sheet:mg "Sheet"=bH (.ref a.c_Sheet)
 cl_Sheet:Cls K a.c_Sheet
 m_Sheet:AllM K top a.c_Sheet a66
 n_Sheet:AllN K a.c_Sheet a67
 mk_Sheet:PySem.W.makesIn K a.c_Sheet=kz/\PySem.W.keepIn K (.ref a.c_Sheet)=kz
 x_NoKnowing:mg "NoKnowing"=bH (.ref a.x_NoKnowing)
 x_TimesError:mg "TimesError"=bH (.ref a.x_TimesError)
 x_Broken:mg "Broken"=bH (.ref a.x_Broken)
 x_Forgotten:mg "Forgotten"=bH (.ref a.x_Forgotten)
 x_NoFit:mg "NoFit"=bH (.ref a.x_NoFit)
 x_NoLog:mg "NoLog"=bH (.ref a.x_NoLog)
 x_NoName:mg "NoName"=bH (.ref a.x_NoName)
 x_NoRow:mg "NoRow"=bH (.ref a.x_NoRow)
 x_NoSheet:mg "NoSheet"=bH (.ref a.x_NoSheet)
 x_NoStretch:mg "NoStretch"=bH (.ref a.x_NoStretch)
 xi_NoKnowing:PySem.W.excIn K a.x_NoKnowing veM "ValueError.__new__"=kz
 xm_NoKnowing_TimesError:PySem.W.exmOne K (.ref a.x_NoKnowing) (.ref a.x_TimesError)=bH kz
 xk_NoKnowing:ExK K a.x_NoKnowing
 kt_NoKnowing_ValueError:PySem.W.kitOne K (.ref a.x_NoKnowing) (.type "ValueError")=bH kz
 ka_NoKnowing_0:PySem.W.kitAny K (.ref a.x_NoKnowing) [.ref a.x_Broken,.ref a.x_Forgotten,.ref a.x_NoFit,.ref a.x_NoLog,.ref a.x_NoName,.ref a.x_NoRow,.ref a.x_NoSheet,.ref a.x_NoStretch]=bH kQ
 c_LONGEST_NAME:∃t,mg "LONGEST_NAME"=bH (.int 8 t)
 c_LAST_MOMENT:∃t,mg "LAST_MOMENT"=bH (.int 1000000000000 t)
def Txt.b{K:Fg}{mg:Str->Option Value}{a:Ad}(T:Txt K mg a)(i:Nat){x:Str}(h:tB[i]?=bH x:=by rfl):mg x=gV:=T.br _ _ (T.b0 i x h)
set_option hygiene false in
local macro_rules | `(tactic| walk_at "in")=>`(tactic| (ext f cdv A outer s H E ws G R hr nd h;let hu:=b8l hr))
set_option hygiene false in
local macro_rules | `(tactic| walk_at "inx")=>`(tactic| (ext f cdv A outer s H E ws G R EE hr nd h ux;let hu:=b8l hr))
set_option hygiene false in
local macro_rules | `(tactic| ac_rfl)=>`(tactic| repeat' first
 | ((with_reducible change QE _ _ _);first | ((with_reducible change QE _ (.Name _ _) _);first | show qw (by first | show cxN | show cxcN | show cxN' | show cxNn | show cxNh) (by with_reducible first | show at_0 | show at_1 | show at_2 | show at_3 | show at_4 | show at_5 | show at_6 | show at_7 | show at_8 | show at_9 | show b78 | show b79 | show b8a | show b8b) | show b2P (a68 rfl T.c_LONGEST_NAME) | show b2P (a68 rfl T.c_LAST_MOMENT) | show q_ty (a1N (v:=.ty "str") rfl (T.b 2) rfl rfl) | show q_ty (a1N (v:=.ty "bool") rfl (T.b 4) rfl rfl) | show q_ty (a1N (v:=.ty "int") rfl (T.b 5) rfl rfl) | show q_ty (a1N (v:=.ty "dict") rfl (T.b 12) rfl rfl) | show q_ty (a1N (v:=.ty "list") rfl (T.b 14) rfl rfl) | show q_ty (a1N (v:=.ty "tuple") rfl (T.b 15) rfl rfl)) | show a80 | show b9d | show b6G | show q_bl | refine' b3Y x_sl ?_ ?_ ?_ | refine' q_ix x_ix ?_ ?_ (λ_ _=>rfl) | apply q_op | ((with_reducible change QE _ (.Call (.Name "len" _) _ _ _) _);refine' q_B b9t (T.b 3) ?_ (hv:=PySem.boot_len)) | ((with_reducible change QE _ (.Call (.Name "min" _) _ _ _) _);refine' q_B (b9v rfl) (T.b 6) ?_) | ((with_reducible change QE _ (.Call (.Name "max" _) _ _ _) _);refine' q_B (b9u rfl) (T.b 7) ?_) | ((with_reducible change QE _ (.Call (.Name "all" _) _ _ _) _);refine' q_B (b68 rfl) (T.b 0) ?_) | ((with_reducible change QE _ (.Call (.Name "isinstance" _) _ _ _) _);refine' q_B b9w (T.b 1) ?_) | refine' q_c (by walk_at "c") hr ?_ | apply b1o | apply b9i | ((with_reducible change QE _ (.Call (.Attribute _ "append" _) _ _ _) _);refine' q_bm PySem.F.plainAttrs_list PySem.F.slot_list_append PySem.F.type_list_append a6L ?_ ?_) | ((with_reducible change QE _ (.Call (.Attribute _ "extend" _) _ _ _) _);refine' q_bm PySem.F.plainAttrs_list PySem.F.slot_list_extend PySem.F.type_list_extend b1u ?_ ?_) | ((with_reducible change QE _ (.Call (.Attribute _ "find" _) _ _ _) _);refine' q_bm PySem.F.plainAttrs_str PySem.F.slot_str_find PySem.F.type_str_find b7L ?_ ?_) | ((with_reducible change QE _ (.Call (.Attribute _ "get" _) _ _ _) _);first | refine' q_bm PySem.F.plainAttrs_dict PySem.F.slot_dict_get PySem.F.type_dict_get (b28 hu) ?_ ?_ | refine' q_bm PySem.F.plainAttrs_dict PySem.F.slot_dict_get PySem.F.type_dict_get (b4D hu) ?_ ?_) | ((with_reducible change QE _ (.Call (.Attribute _ "setdefault" _) _ _ _) _);refine' q_bm PySem.F.plainAttrs_dict PySem.F.slot_dict_setdefault PySem.F.type_dict_setdefault a2P ?_ ?_) | apply b6I | refine' b3V ?_ ?_ ?_ ?_ ?_ | apply b9g | refine' q_un b9s ?_ | apply b6M | apply b2Q | apply b9f | apply q_if)
 | ((with_reducible change QA _ _ _);first | show a0x | refine' q_k ?_ ?_)
 | ((with_reducible change OpQ _ _ _);first | ((with_reducible change OpQ _ (hZ .Add) _);show b9n) | ((with_reducible change OpQ _ (gX .Eq) _);show (o_eq hu)) | ((with_reducible change OpQ _ (hZ .FloorDiv) _);show b63) | ((with_reducible change OpQ _ (gX .Gt) _);show o_gt) | ((with_reducible change OpQ _ (gX .In) _);show (o_in hu)) | ((with_reducible change OpQ _ (gX .Is) _);show o_is) | ((with_reducible change OpQ _ (gX .IsNot) _);show b4c) | ((with_reducible change OpQ _ (gX .Lt) _);show o_lt) | ((with_reducible change OpQ _ (gX .LtE) _);show o_le) | ((with_reducible change OpQ _ (hZ .Mod) _);show b9q) | ((with_reducible change OpQ _ (hZ .Mult) _);show b9p) | ((with_reducible change OpQ _ (gX .NotEq) _);show (o_ne hu)) | ((with_reducible change OpQ _ (hZ .Pow) _);show b9r) | ((with_reducible change OpQ _ (hZ .Sub) _);show b9o) | ((with_reducible change OpQ _ (iR .Add) _);show b2U))
 | ((with_reducible change i8 _ _=_);first | show a6A _ | with_unfolding_all rfl)
 | ((with_reducible change QT _ _ _);first | apply a82 | refine' b1l ?_ ?_ ?_ ?_ ?_ | refine' QW.qt (e:=.BoolOp _ _ _) ?_ | apply a4Y | refine' a7F (a:=.Call _ _ _ _) ?_ | refine' b6N ?_ (λ_=>rfl))
 | ((with_reducible change QW _ _ _);first | apply b6J | apply b9e | apply b1m | apply q_or)
 | ((with_reducible change QO _ _ _);first | show b1n | apply b6P)
 | ((with_reducible change QI _ _ _ _);first | ((with_reducible change QI _ _ (.Call (.Name "range" _) _ _ _) _);first | refine' a7H rfl (T.b 13) ?_) | apply a5V)
 | ((with_reducible change QP _ _ _);first | apply p_nm | refine' p_tp rfl ?_)
 | ((with_reducible change QPg _ _ _);first | show c0i | apply b77)
 | ((with_reducible change Nm _ _ _);show nwI (by first | show cxN | show cxcN | show cxN' | show cxNn | show cxNh) (by with_reducible first | show at_0 | show at_1 | show at_2 | show at_3 | show at_4 | show at_5 | show at_6 | show at_7 | show at_8 | show at_9 | show b78 | show b79 | show b8a | show b8b) nd)
 | ((with_reducible change QS _ _ _);first | apply a16 | refine' z_st ?_ ?_ | refine' a3h ?_ | apply z_if | refine' b60 ?_ ?_ | refine' a1K h9.never rfl ?_ ?_ ?_ | apply z_au | show b6U | show b34 | show b6V | show b6Y)
 | ((with_reducible change QSs _ _ _);first | show a1S | apply a0A | apply a0c)
 | ((with_reducible change QIfs _ _ _);first | show b37 | apply a9a)
 | ((with_reducible change Cal _ _ _ _ _ _ _ _ _);walk_at "c")
 | ((with_reducible change _<=_);decide))
local macro_rules | `(tactic| walk_at "r4")=>`(tactic| (ext _ _ _ _;ac_rfl))
set_option hygiene false in
local macro_rules | `(tactic| walk_at "r5")=>`(tactic| (ext _ _ _ _ nd;ac_rfl))
set_option hygiene false in
local macro_rules | `(tactic| walk_at "c")=>`(tactic| first | show a5y T | show a3J T | show a3x T | show a2Y T | show a4A T | show a1v T | show a5v T | show a6j T | show a3L T | show a5t T | show a3H T | show a2m T | show a3A T | show a3N T | show a2o T | show a2q T | show a1s T | show a71 T | show b0m T | show b47 T | show b5h T | show b2s T | show a76 T | show a6l T | show b0D T | show b5o T | show a6o T | show a6v T | show b5C T | show b5E T | show b8H T | show b2D T | show a8c T | show b2G T | show b2I T)
def a68(hg:Gl X x)(hm:∃t,X.mg x=bH (.int i t))(hd:(x==("__debug__":Str))=kQ:=by decide):PE X (.Name x pos) (tC (.int i)):=by
 let(t,h):=hm;show a8h hg h (t,rfl) hd
def c0q (h:t σ G λws G1=>∃(p:Addr)(ns:List Int),ws=[.ref p]/\G1 p=bH (.lst (ns.map Z.int))/\ns.length<=1000 /\
  ∀(t:Addr)(ks:List Int),G1 t=gV->ks.Pairwise (·<·)->(∀x,x∈ks↔x∈ns)->ks.length<=ns.length->R (.ref t) (put G1 t (.lst (ks.map Z.int)))):uSS t σ G R:=h
def a69:P3:=λws G R=>∃a ns,ws=[.scr a ns]/\ns.length<=63/\∀G',R (.bl kz) G'
def b0k{K:Fg}{H:Hp}{E:XK}(a:Addr)(ns:List Int)(hl:ns.length<=63)(f:Fz K H a (ns.map V.int)):lowP K a69 [.ref a] H (λv _=>v=.bl kz) E:=
 ([.scr a ns],λ_=>gV,λw _=>w=.bl kz,.cons (by rw[a2y];show(rfl,f)) .nil,λ_ _ e=>(nomatch e),(a,ns,rfl,hl,λ_=>rfl),λw G v H' e r _ _=>by subst e;rw[a0t]at r;show r)
def lenK(h:Nat.ble n 1000=kz):n<=sizeLine:=cf (a0d (fO h))
def a0H(h:n<=1000):n<=sizeLine:=cf (a0d h)
def a7Z(x w:Int):Prop:=w=0\/(w=1/\0<=x/\x<536870909)
abbrev RowO(x w:Int):O:=.lst [.int x,.int w]
def RowAt(G:Hq)(r:Addr):Prop:=∃x w,G r=bH (RowO x w)/\a7Z x w
structure NxOf (P nx:C3):Prop where
 h:∀σ G,P σ G->nx σ G
def i_sq{t u:X3}{nx:C3}{rt:K3}{bk ct:C3}{σ:S3}{G:Hq}(h:∀n,NxOf (u nx rt bk ct) n->t n rt bk ct σ G):uSeq t u nx rt bk ct σ G:=h _ ⟨λ_ _ h=>h⟩
def i_nx{P n:C3}{σ:S3}{G:Hq}(e:NxOf P n)(h:P σ G):n σ G:=e.h _ _ h
local macro_rules | `(tactic| walk_at "sd")=>`(tactic| first | assumption | (show a0H (by first | decide | cbv | (simp;done) | (simp;cbv))) | (show a0d (by first | decide | cbv | (simp;done) | (simp;cbv))) | decide | cbv)
local macro_rules | `(tactic| walk_at "hp")=>`(tactic| first | assumption | show a0a | (show a0b ?_ (by assumption);walk_at "hp") | (show Sm.get (by assumption) ?_;walk_at "hp"))
local macro_rules | `(tactic| walk_at "go1")=>`(tactic| with_reducible (first
 | show i_sq λ_ _=>?_ | show b9x (by with_unfolding_all rfl) ?_ | apply i_c | apply i_op | apply i_un | apply b7b | apply b4f | apply b9y | apply i_or | apply b9z | apply b7c | apply i_orV | apply b7d | apply i_if
 | apply b9A | apply i_truI | apply i_truB | apply i_sl | apply b1v | apply b7e | apply b9B | apply b7f | apply b9C | apply b9D | apply i_cb | apply c0q | apply i_bm0 | apply i_bm | apply b7g
 | apply b2Z | apply b7h | apply b7i | apply i_retN | apply b7j | apply b9E | apply b9F | show b9G (by with_unfolding_all rfl) ?_ | apply i_break | apply b7k | apply b7r | apply b9Q | apply i_iL | apply i_iT | apply i_iS | apply b9R | apply i_iR2 | apply i_wkC | apply b9S | apply b9T | apply i_tt
 | apply b7l | apply i_I0 | apply b9H | apply i_CI | apply i_CS | apply b9I | apply i_isB | apply b7m | apply b9J | apply b7n | apply b9K | apply i_inS | apply b7p | apply i_nm | show a05 (by with_unfolding_all rfl) ?_ | apply i_lenT | apply b7q | apply i_mm | apply b9O
 | apply ifT | apply ifF | apply ifNN | apply ifNI | apply ifNS | apply ifNU | apply ifMN | apply ifMI | apply ifMS | apply ifMU | show a05 at0 ?_ | show a05 at1 ?_ | show a05 at2 ?_ | apply b7M | apply b7O | apply i_iR3 | apply b7P | apply b7S | apply b4y | apply b4z | apply b7T | apply b7U | apply i_disp | apply i_pcons | apply i_pnil | show(_,rfl,?_) | show i_nx (by assumption) ?_))
local macro_rules | `(tactic| walk_at "go")=>`(tactic| repeat walk_at "go1")
local macro_rules | `(tactic| lk)=>`(tactic| walk_at "go")
def a70:P3:=λws G R=>∃p ns k,ws=[.scr p ns,.int k]/\0<=k/\∀i,R (.int i) G
variable{P:gT}{w:World}{K:Fg}{mg:Str->Option Value}{base:Heap}{a:Ad}
set_option tactic.hygienic true in
def a71(T:Txt K mg a):Cal P w K mg base CX0 1 "_law_cell_at" (lowP K a70):=by
 show fnc 2 (N:=["script","k"]) T.br (T.f 20 _ rfl) ?_;walk_at "in";show(_,(by ac_rfl),?_);let(p,ns,k,rfl,hk,q):=h;lk;show ifD (λc=>?_) λ_=>?_
 .let(j,rfl):=dC hk;let hj:j<ns.length:=by lia
  lk;show b9L (a0O (bn hj)) (q _)
 .lk;show q _
def b0l:P3:=λws G R=>∃c w,ws=[.int c,.int w]/\(w=0\/w=1)/\∀r x w',G r=gV->a7Z x w'->R (.ref r) (put G r (RowO x w'))
def m9(x:Int):0<=x % 536870909/\x % 536870909<536870909:=(fv _ (by decide),fw _ (by decide))
set_option tactic.hygienic true in
def b0m(T:Txt K mg a):Cal P w K mg base CX0 1 "_law_stream" (lowP K b0l):=by
 show fnc 2 (N:=["cell","way","low"]) T.br (T.f 21 _ rfl) ?_;walk_at "in";show(_,(by ac_rfl),?_);let(c,w,rfl,hw,q):=h;lk;show ifD (λz=>?_) λz=>?_
 .lk;show(lenK rfl,λr hr=>q r _ _ hr (.inl rfl))
 .lk;show i_I (show (0:Int)<536870909 by decide) ?_;lk;let h1:=m9 c;show i_I (.inl (by lia,by lia)) ?_;lk;show i_I (show (0:Int)<536870909 by decide) ?_;lk;let h2:=m9 (c % 536870909*(c % 536870909));show i_I (.inl (by lia,by lia)) ?_;lk;show i_I (show (0:Int)<536870909 by decide) ?_;lk;show(lenK rfl,λr hr=>q r _ _ hr (.inr (rfl,m9 _)))
def a6d:P3:=λws G R=>Ex4 λr n x w=>ws=[.ref r,.int n]/\G r=bH (RowO x w)/\a7Z x w/\0<n/\n<2 ^ 64/\∀f y w,0<=f->f<n->a7Z y w->R (.int f) (put G r (RowO y w))
set_option tactic.hygienic true in
def b47(T:Txt K mg a):Cal P w K mg base CX0 1 "_law_take" (lowP K a6d):=by
 show fnc 2 (N:=["row","many","found"]) T.br (T.f 22 _ rfl) ?_;walk_at "in";show(_,(a0c (z_if (by ac_rfl)
  (a0c (by ac_rfl)
  (a0c (a2N (by ac_rfl) (qv 0) a80 a9j)
  (by ac_rfl)))
  a1S)
  (a0c (a2N (by ac_rfl) (qv 0) a80 a9j)
  (by ac_rfl))),?_)
 let(r,n,x,w,rfl,hR,hok,h0,h1,q):=h;lk;show a0y hR rfl ?_;lk;show ifD (λc=>?_) λc=>?_
 .lk;show a0y hR rfl ?_;lk;show i_I h0 ?_;lk;show a0y hR rfl ?_;lk;show i_I (h0,h1) ?_;lk;show a9p hR rfl ?_;lk;show q _ _ _ (fv _ (by lia)) (fw _ h0) (.inl c)
 .let z||(hw1,hx0,hx1):=hok
  .show absurd z c
  lk;show a0y hR rfl ?_;lk;show a0y hR rfl ?_;lk;show i_I (.inl (by lia,by lia)) ?_;lk;show i_I (show (0:Int)<536870909 by decide) ?_;lk;show a9p hR rfl ?_;lk;let h2:=m9 ((x+7919)*(x+104729));show a0y a0a rfl ?_;lk;show i_I (.inl (by lia,by lia)) ?_;lk;show i_I h0 ?_;lk;show q _ _ _ (fv _ (by lia)) (fw _ h0) (.inr (hw1,h2))
def a1q(hR:RowAt G r)(h0:0<n)(h1:n<2 ^ 64)(q:∀f y w,0<=f->f<n->a7Z y w->R (.int f) (put G r (RowO y w))):a6d [.ref r,.int n] G R:=by
 let(x,w,e,k):=hR;show(r,n,x,w,rfl,e,k,h0,h1,q)
def RowAt.new(h:RowAt G r)(n:G p=gV):RowAt (put G p o) r:=by
 let(x,w,e,k):=h;show(x,w,a0b e n,k)
def RowAt.at{G:Hq}{r:Addr}{x w:Int}(k:a7Z x w):RowAt (put G r (RowO x w)) r:=(x,w,a0a,k)
structure Rw where
 b:Int
 e:Option Int
 w:List Z
@[reducible] noncomputable def oz:Option Int->Z
 |none=>.non
 |some i=>.int i
noncomputable def Rw.z(r:Rw):Z:=.tup (.int r.b::oz r.e::r.w)
noncomputable def bef(t:Int):Option Int->Bool
 |none=>kz
 |some e=>decide (t<e)
noncomputable def Rw.has(r:Rw)(t:Int):Bool:=decide (r.b<=t)&&bef t r.e
def Rw.good(r:Rw):Prop:=bef r.b r.e=kz
noncomputable def val(l:List Rw)(t:Int):Option (List Z):=(l.find? (·.has t)).map (·.w)
def a0W:val [] t=gV:=rfl
def a0k:val (r::l) t=if r.has t=kz then bH r.w else val l t:=by
 unfold val;rw[cr];cases h:r.has t<;>simp
def a0I:val (l++m) t=(val l t).or (val m t):=by
 unfold val;rw[gz];cases h:l.find? _<;>simp
def Lt(r s:Rw):Prop:=∃e,r.e=bH e/\e<=s.b
def Lt2(r s:Rw):Prop:=∃e,r.e=bH e/\e<=s.b/\(e=s.b->r.w≠s.w)
def Rise(l:List Rw):Prop:=(∀r∈l,r.good)/\l.Pairwise Lt
def Can(l:List Rw):Prop:=(∀r∈l,r.good)/\l.Pairwise Lt2
def Lt2.lt{r s:Rw}(h:Lt2 r s):Lt r s:=let (e,a,b,_):=h;(e,a,b)
noncomputable def Can.rise(h:Can l):Rise l:=(h.1,h.2.imp Lt2.lt)
def Can.nil:Can []:=(λ_ h=>by simp at h,.nil)
def Rise.nil:Rise []:=Can.nil.rise
def Can.tail(h:Can (r::l)):Can l:=(λs a=>h.1 s (.tail _ a),(bz.mp h.2).2)
def Rise.tail(h:Rise (r::l)):Rise l:=(λs a=>h.1 s (.tail _ a),(bz.mp h.2).2)
def a6e{r:Rw}(h:r.good):r.has r.b=kz:=by
 unfold Rw.has;rw[h];simp
noncomputable def Lt.has(h:Lt r s)(a:r.has t=kz):s.has t=kQ:=by
 let(e,c,d):=h;unfold Rw.has at a ⊢;rw[c]at a;simp only[bef,b8,decide_eq_true_eq]at a
 let:decide (s.b<=t)=kQ:=decide_eq_false (by lia)
 rw[this,gA]
def Lt.b(g:r.good)(h:Lt r s):r.b<s.b:=by
 let(e,a,c):=h
 let:bef r.b r.e=kz:=g
 rw[a]at this;simp only[bef,decide_eq_true_eq]at this
 lia
def a1p(h:∀r∈l,r.has t=kQ):val l t=gV:=by simp_all[val]
def b2b{l:List Rw}{t:Int}{w:List Z}(h:val l t=bH w):∃r∈l,r.has t=kz/\r.w=w:=by
 induction l with
 |nil=>cases h
 |cons r l ih=>
  rw[a0k]at h
  split at h
  .next e=>cases h;show(r,.head _,e,rfl)
  .let(s,h1,h2):=ih h;show(s,.tail _ h1,h2)
def a36{r:Rw}(h:t<r.b):r.has t=kQ:=by
 unfold Rw.has;rw[decide_eq_false (by lia),gA]
def b8m(h:Can (r::l))(h':Can (s::m))(q:∀t,val (r::l) t=val (s::m) t):¬ r.b<s.b:=λc=>by
 let d:=q r.b;rw[a0k,a6e (h.1 r (.head _)),if_pos rfl,a1p]at d
 .grind
 .ext x a;show a36 ?_;let rfl||a:=bf.mp a
  .cbv
  .let:=(((bz.mp h'.2).1 x a).lt).b (h'.1 s (.head _))
   lia
def b48(h:Can (r::l))(hb:r.b=s.b)(hw:r.w=s.w)(q:∀t,val (r::l) t=val (s::m) t)(he:r.e=bH e):bef e s.e=kQ:=by
 cases hc:bef e s.e with
 |false=>rfl
 |true=>
  exfalso;let g:bef r.b r.e=kz:=h.1 r (.head _)
  rw[he]at g;simp only[bef,decide_eq_true_eq]at g;let c:=q e;let i:s.has e=kz:=by unfold Rw.has;rw[hc,decide_eq_true (show s.b<=e by lia)];rfl
  let k:r.has e=kQ:=by unfold Rw.has;rw[he];simp[bef]
  rw[a0k,a0k,i,k,if_pos rfl,if_neg (by simp)]at c;let(x,n,a,d):=b2b c;let(u,f,p,j):=(bz.mp h.2).1 x n;rw[he]at f;cases f;let o:x.b<=e:=by unfold Rw.has at a;simp at a;show a.1
  show j (by lia) (by simp_all)
theorem a5m:∀{l m:List Rw},Can l->Can m->(∀t,val l t=val m t)->l=m
 |[],[],_,_,_=>rfl
 |[],s::m,_,h',q=>by
  let:=q s.b
  rw[a0W,a0k,a6e (h'.1 s (.head _)),if_pos rfl]at this;cases this
 |r::l,[],h,_,q=>by
  let:=q r.b
  rw[a0W,a0k,a6e (h.1 r (.head _)),if_pos rfl]at this;cases this
 |r::l,s::m,h,h',q=>by
  let a:r.b=s.b:=by
   let f:=b8m h h' q;let g:=b8m h' h λt=>(q t).symm
   lia
  let c:r.w=s.w:=by
   let f:=q r.b;let g:s.has r.b=kz:=a▸a6e (h'.1 s (.head _));rw[a0k,a0k,a6e (h.1 r (.head _)),g,if_pos rfl,if_pos rfl]at f;show bH.inj f
  let i:r.e=s.e:=by
   cases e1:r.e with
   |none=>
    cases e2:s.e with
    |none=>rfl
    |some e=>
     let:=b48 h' a.symm c.symm (λt=>(q t).symm) e2
     rw[e1]at this;cases this
   |some e=>
    let:=b48 h a c q e1
    cases e2:s.e with
    |none=>rw[e2]at this;cases this
    |some e'=>
     let k:=b48 h' a.symm c.symm (λt=>(q t).symm) e2;rw[e1]at k;rw[e2]at this;simp only[bef,decide_eq_false_iff_not]at this k
     congr 1
     lia
  let j:r=s:=by
   let(_,_,_):=r;simp only at a c i;rw[a,c,i]
  subst j
  congr 1
  show a5m h.tail h'.tail λt=>?_;cases ht:r.has t with
  |true=>
   rw[a1p λx d=>((bz.mp h.2).1 x d).lt.has ht,a1p λx d=>((bz.mp h'.2).1 x d).lt.has ht]
  |false=>
   let:=q t
   rw[a0k,a0k,ht,if_neg (by simp),if_neg (by simp)]at this;show this
noncomputable def jn(told:List Rw)(p:Rw):List Rw:=match told.getLast? with
 |some l=>if l.e=bH p.b/\l.w=p.w then told.dropLast++[(l.b,p.e,p.w)] else told++[p]
 |none=>told++[p]
noncomputable def join(ps:List Rw):List Rw:=ps.foldl jn []
def a2h{α:Type}{l:List α}{x:α}(h:l.getLast?=bH x):l=l.dropLast++[x]:=by
 let(a,rfl):=List.getLast?_eq_some_iff.mp h;simp
def c0r(h:Can told)(g:p.good)(hlt:∀r∈told,Lt r p):Can (jn told p)/\(∀t,val (jn told p) t=(val told t).or (val [p] t))/\(∀x,(∀r∈told,Lt r x)->Lt p x->∀r∈jn told p,Lt r x)/\(jn told p).length<=told.length+1/\∀r∈jn told p,r.w=p.w\/∃r'∈told,r.w=r'.w:=by
 unfold jn;cases hl:told.getLast? with
 |none=>
  let:told=[]:=dY.mp hl
  subst this;show((λr a=>by simp at a;rw[a];show g,by simp),λt=>by simp[a0W],λx _ f r a=>by simp at a;rw[a];show f,by simp,λr a=>by simp at a;rw[a];show .inl rfl)
 |some l=>
  let d:=a2h hl;generalize told.dropLast=init at d;subst d;let i:l∈init++[l]:=by simp
  let k:=bO.mp h.2;dsimp only
  split
  .next hc=>
   let(n,o):=hc;let D:l.b<p.b:=by
    let:bef l.b l.e=kz:=h.1 l i
    rw[n]at this;simpa[bef]using this
   let v:((l.b,p.e,p.w):Rw).good:=by
    change bef l.b p.e=kz
    let:bef p.b p.e=kz:=g
    cases hpe:p.e with
    |none=>rfl
    |some e=>
     rw[hpe]at this;simp only[bef,decide_eq_true_eq]at this ⊢
     lia
   show((λr a=>?_,?_),λt=>?_,λx m f r a=>?_,by simp,λr a=>?_)
   .let a||a:=be.mp a
    .show h.1 r (by simp[a])
    .rw[bg.mp a];show v
   .show bO.mpr (k.1,by simp,λr a s d=>?_);rw[bg.mp d];let(e,c,j,A):=k.2.2 r a l (by simp);show(e,c,j,λz=>by rw[<- o];show A z)
   .rw[a0I,a0I];cases val init t with
    |some w=>rfl
    |none=>
     let y:((l.b,p.e,p.w):Rw).has t=(l.has t||p.has t):=by
      unfold Rw.has;rw[n]
      let:bef p.b p.e=kz:=g
      cases hpe:p.e with
      |none=>
       simp only[bef,eN]
       by_cases c1:l.b<=t<;>by_cases c2:t<p.b<;>by_cases c3:p.b<=t<;>simp[c1,c2,c3]<;>lia
      |some e=>
       rw[hpe]at this;simp only[bef,decide_eq_true_eq]at this ⊢
       by_cases c1:l.b<=t<;>by_cases c2:t<p.b<;>by_cases c3:p.b<=t<;>by_cases c4:t<e<;>simp[c1,c2,c3,c4]<;>lia
     simp only[a0k,a0W,y,o,Option.none_or];cases l.has t<;>cases p.has t<;>simp
   .let a||a:=be.mp a
    .show m r (by simp[a])
    .rw[bg.mp a];let(e,c,j):=f;show(e,c,j)
   .let a||a:=be.mp a
    .show .inr (r,by simp[a],rfl)
    .rw[bg.mp a];show .inl rfl
  .next hc=>
   show((λr a=>?_,?_),λt=>a0I,λx m f r a=>?_,by simp,λr a=>?_)
   .let a||a:=be.mp a
    .show h.1 r a
    .rw[bg.mp a];show g
   .show bO.mpr (h.2,by simp,λr a s d=>?_);rw[bg.mp d];let(e,c,j):=hlt r a;show(e,c,j,λz u=>?_);let hr'||hr':=be.mp a
    .let(C,q,B,_):=k.2.2 r hr' l (by simp);rw[c]at q;cases q
     let:=(hlt l i).b (h.1 l i)
     lia
    .simp_all
   .let a||a:=be.mp a
    .show m r a
    .rw[bg.mp a];show f
   .let a||a:=be.mp a
    .show .inr (r,a,rfl)
    .rw[bg.mp a];show .inl rfl
def b49:∀(ps told:List Rw),Can told->Rise ps->(∀r∈told,∀p∈ps,Lt r p)->Can (ps.foldl jn told)/\(∀t,val (ps.foldl jn told) t=(val told t).or (val ps t))/\(ps.foldl jn told).length<=told.length+ps.length/\∀r∈ps.foldl jn told,∃r'∈told++ps,r.w=r'.w:=by ext z0;induction z0 with
 |nil=>ext told h _ _;show(h,λt=>by simp[a0W],by simp,λr f=>(r,↑f,rfl))
 |cons p ps I0=>
  ext told h f hlt;let a:=c0r h (f.1 p (.head _)) λr q=>hlt r q p (.head _);let b:=I0 _ a.1 f.tail λr q x j=>a.2.2.1 x (λg k=>hlt g k x (.tail _ j)) ((bz.mp f.2).1 x j) r q;show(b.1,λt=>?_,?_,λr i=>?_)
  .change val (ps.foldl jn _) t=_
   rw[b.2.1 t,a.2.1 t,show p::ps=[p]++ps from rfl,a0I,Option.or_assoc]
  .grind
  .let(g,c,d):=b.2.2.2 r i;let c||c:=be.mp c
   .let e||(r2,e1,e2):=a.2.2.2.2 g c
    .show(p,by simp,d.trans e)
    .grind
   .show(g,by simp[c],d)
def a4u(h:Rise ps):Can (join ps)/\(∀t,val (join ps) t=val ps t)/\(join ps).length<=ps.length/\∀r∈join ps,∃r'∈ps,r.w=r'.w:=by
 let:=b49 ps [] .nil h λr a=>by simp at a
 unfold join;show(this.1,λt=>by rw[this.2.1 t];rfl,↑this.2.2.1,↑this.2.2.2)
noncomputable def emin:Option Int->Option Int->Option Int
 |none,o=>o
 |some e,gV=>bH e
 |some e,bH o=>bH (if o<e then o else e)
noncomputable def a1M(m:Option Int)(r:Rw):Option Rw:=if bef r.b m=kz then bH (r.b,emin r.e m,r.w) else gV
noncomputable def ahead(m:Option Int)(l:List Rw):List Rw:=l.filterMap (a1M m)
noncomputable def a4v(m:Int)(r:Rw):Option Rw:=if bef m r.e=kz then bH (if m > r.b then m else r.b,r.e,r.w) else gV
noncomputable def fromOn(m:Int)(l:List Rw):List Rw:=l.filterMap (a4v m)
def b3j(h1:∀r r',f r=bH r'->r'.has t=(r.has t&&c)/\r'.w=r.w)(h2:∀r,f r=gV->(r.has t&&c)=kQ):∀l:List Rw,val (l.filterMap f) t=if c=kz then val l t else gV:=by ext z0;induction z0 with
 |nil=>simp[a0W]
 |cons r l I0=>
  let a:=I0;rw[cE];cases hf:f r with
  |none=>
   let:=h2 r hf
   rw[a,a0k];cases c with
   |true=>rw[eN]at this;rw[this];rfl
   |false=>rfl
  |some r'=>
   let(d,b):=h1 r r' hf;rw[a0k,a,d,b,a0k];cases c<;>cases r.has t<;>rfl
def a7a:bef t (emin x y)=(bef t x&&bef t y):=by
 cases x with
 |none=>cases y<;>simp[bef,emin]
 |some a=>
  cases y with
  |none=>simp[bef,emin]
  |some b=>
   simp only[bef,emin];rw[<- Bool.decide_and];apply a0m;rw[eq_iff_iff]
   split<;>cbv
def a5n(m:Option Int)(l:List Rw)(t:Int):val (ahead m l) t=if bef t m=kz then val l t else gV:=by
 show b3j (λr a h=>?_) (λr h=>?_) l
 .unfold a1M at h
  split at h
  .cases h;show(?_,rfl);unfold Rw.has;simp only[a7a,Bool.and_assoc]
  .cases h
 .unfold a1M at h
  split at h
  .cases h
  .next hc=>
   unfold Rw.has;cases m with
   |none=>show absurd rfl hc
   |some m=>
    simp only[bef,decide_eq_true_eq]at hc ⊢
    by_cases c1:r.b<=t
    .rw[decide_eq_false (show ¬ t<m by lia),dN]
    .rw[decide_eq_false c1];rfl
def b2c(m:Int)(l:List Rw)(t:Int):val (fromOn m l) t=if m<=t then val l t else gV:=by
 let:(if m<=t then val l t else gV)=if decide (m<=t)=kz then val l t else gV:=by simp
 rw[this];show b3j (λr a h=>?_) (λr h=>?_) l
 .unfold a4v at h
  split at h
  .cases h;unfold Rw.has
   let:decide ((if m > r.b then m else r.b)<=t)=(decide (r.b<=t)&&decide (m<=t)):=by grind
   rw[this];cases decide (r.b<=t)<;>cases decide (m<=t)<;>simp
  .cases h
 .unfold a4v at h
  split at h
  .cases h
  .next hc=>
   unfold Rw.has;cases he:r.e with
   |none=>rw[he]at hc;show absurd rfl hc
   |some e=>
    rw[he]at hc;simp only[bef]at hc ⊢
    by_cases c1:m<=t
    .grind
    .simp_all
def a2i(h:x∈ahead m l):∃r∈l,bef r.b m=kz/\x=(r.b,emin r.e m,r.w):=by
 let(r,d,a):=cR.mp h;unfold a1M at a
 split at a
 .next c=>cases a;show(r,d,c,rfl)
 .cases a
def a3a(h:x∈fromOn m l):∃r∈l,bef m r.e=kz/\x=(if m > r.b then m else r.b,r.e,r.w):=by
 let(r,d,a):=cR.mp h;unfold a4v at a
 split at a
 .next c=>cases a;show(r,d,c,rfl)
 .cases a
def b8n(hf:∀r s r' s',R r s->f r=bH r'->f s=bH s'->R r' s'):∀{l:List Rw},l.Pairwise R->(l.filterMap f).Pairwise R:=by ext z0;induction z0 with
 |nil=>ext _;simp
 |cons r l I0=>
  ext h;let b:=bz.mp h;let c:=I0 b.2;rw[cE];cases e:f r with
  |none=>show c
  |some r'=>
   show bz.mpr (λs i=>?_,c);let(a,d,g):=cR.mp i;show hf r a r' s (b.1 a d) e g
def b5a{x:Int}{m:Option Int}:∃e,emin (bH x) m=bH e/\e<=x:=by
 cases m with
 |none=>show(x,rfl,cJ _)
 |some o=>
  show(_,rfl,?_)
  split<;>lia
def a72(m:Option Int)(h:Rise l):Rise (ahead m l):=by
 show(λx j=>?_,b8n (λr s t p d a c=>?_) h.2)
 .let(r,k,i,rfl):=a2i j
  change bef r.b _=kz
  rw[a7a,i,eN];show h.1 r k
 .unfold a1M at a c
  split at a
  .split at c
   .cases a;cases c;let(e,g,o):=d;let(f,n,q):=@b5a e m;show(f,by rw[<- n,<- g],by change f<=s.b;lia)
   .grind
  .grind
def b0n(m:Int)(h:Rise l):Rise (fromOn m l):=by
 show(λx j=>?_,b8n (λr s n k d a c=>?_) h.2)
 .let(r,f,g,rfl):=a3a j
  split
  .show g
  .show h.1 r f
 .unfold a4v at a c
  split at a
  .split at c
   .cases a;cases c;let(e,i,o):=d;show(e,i,by change e<=(if m > s.b then m else s.b);split<;>cbv)
   .grind
  .grind
def a5o(m:Option Int)(l:List Rw):(ahead m l).length<=l.length:=dq _ _
def b2d(m:Int)(l:List Rw):(fromOn m l).length<=l.length:=dq _ _
def b2e(hbe:b<=e):∀{l:List Rw},Rise l->(ahead (bH b) l).length+(fromOn e l).length<=l.length+1:=by ext z0;induction z0 with
 |nil=>ext _;simp[ahead,fromOn]
 |cons r l I0=>
  ext h;let i:=I0 h.tail;let c:(ahead (bH b) (r::l)).length=(if bef r.b (bH b)=kz then 1 else 0)+(ahead (bH b) l).length:=by
   unfold ahead;unfold a1M
   split
   .grind
   .grind
  let a:(fromOn e (r::l)).length=(if bef e r.e=kz then 1 else 0)+(fromOn e l).length:=by
   unfold fromOn;unfold a4v
   split
   .grind
   .grind
  rw[c,a,bv]
  by_cases c1:bef r.b (bH b)=kz
  .by_cases c2:bef e r.e=kz
   .let:ahead (bH b) l=[]:=by
     unfold ahead;rw[List.filterMap_eq_nil_iff];ext s g;unfold a1M;let(j,f,k):=((bz.mp h.2).1) s g;rw[f]at c2;simp only[bef,decide_eq_true_eq]at c1 c2 ⊢;rw[if_neg (by lia)]
    let:=b2d e l
    simp_all
    lia
   .grind
  .rw[if_neg c1];split<;>lia
noncomputable def a1r(l:List Rw)(b:Int)(e:Option Int)(w:Option (List Z)):List Rw:=
 ahead (bH b) l++(match w with |some w=>[(b,e,w)] |none=>[])++(match e with |some e=>fromOn e l |none=>[])
def a5p{l:List Rw}{b:Int}{e:Option Int}{w:Option (List Z)}(h:Rise l)(g:bef b e=kz):Rise (a1r l b e w)/\(∀t,val (a1r l b e w) t=if (decide (b<=t)&&bef t e)=kz then w else val l t)/\(a1r l b e w).length<=l.length+2:=by
 let hA:=a72 (bH b) h;let eA:∀r∈ahead (bH b) l,∃x,r.e=bH x/\x<=b:=λr hr=>by
  let(r0,_,_,rfl):=a2i hr
  change ∃x,emin r0.e (bH b)=bH x/\x<=b
  cases r0.e with
  |none=>show(b,rfl,cJ _)
  |some x=>show(_,rfl,?_);split<;>cbv
 let hM:Rise (match w with |some w=>[((b,e,w):Rw)] |none=>[]):=by
  cases w with
  |none=>show .nil
  |some w=>show(λr hr=>by rw[bg.mp hr];show g,by simp)
 let mM:∀r∈(match w with |some w=>[((b,e,w):Rw)] |none=>[]),r.b=b/\r.e=e:=λr hr=>by
  cases w with
  |none=>simp at hr
  |some w=>rw[bg.mp hr];show(rfl,rfl)
 let vM:∀t,val (match w with |some w=>[((b,e,w):Rw)] |none=>[]) t=if (decide (b<=t)&&bef t e)=kz then w else gV:=λt=>by
  cases w with
  |none=>simp[a0W]
  |some w=>rw[a0k,a0W];rfl
 let app:∀{A B:List Rw},Rise A->Rise B->(∀r∈A,∀s∈B,Lt r s)->Rise (A++B):=λha hb hab=>(λr hr=>(be.mp hr).elim (ha.1 r) (hb.1 r),bO.mpr (ha.2,hb.2,hab));unfold a1r;cases e with
 |none=>
  dsimp only;rw[bM];show(app hA hM λr hr s hs=>?_,λt=>?_,?_)
  .let(x,a1,a2):=eA r hr;show(x,a1,by rw[(mM s hs).1];show a2)
  .rw[a0I,a5n,vM];simp only[bef,eN,decide_eq_true_eq]
   by_cases c:b<=t
   .rw[if_neg (by cbv),if_pos c,if_pos c];rfl
   .rw[if_pos (by cbv),if_neg c,if_neg c];simp
  .rw[bu]
   let:=a5o (bH b) l
   cases w<;>simp<;>cbv
 |some e=>
  let hbe:b<e:=by simpa[bef]using g
  let hF:=b0n e h;let bF:∀s∈fromOn e l,e<=s.b:=λs hs=>by
   let(r0,_,_,rfl):=a3a hs
   change e<=(if e > r0.b then e else r0.b)
   split<;>cbv
  dsimp only;show(app (app hA hM λr hr s hs=>?_) hF λr hr s hs=>?_,λt=>?_,?_)
  .let(x,a1,a2):=eA r hr;show(x,a1,by rw[(mM s hs).1];show a2)
  .let hs':=bF s hs;let hr||hr:=be.mp hr
   .let(x,a1,a2):=eA r hr;show(x,a1,by cbv)
   .show(e,(mM r hr).2,hs')
  .rw[a0I,a0I,a5n,vM,b2c];simp only[bef,b8,decide_eq_true_eq]
   by_cases c1:b<=t
   .by_cases c2:t<e
    .rw[if_neg (by cbv),if_pos (c1,c2),if_neg (by cbv),if_pos (c1,c2)];simp
    .rw[if_neg (by cbv),if_neg (by cbv),if_pos (by cbv),if_neg (by cbv)];rfl
   .rw[if_pos (by cbv),if_neg (by cbv),if_neg (by cbv),if_neg (by cbv)];simp
  .rw[bu,bu]
   let:=b2e (b:=b) (e:=e) (by cbv) h
   cases w<;>simp<;>cbv
noncomputable def pcs(f:Int->Option (List Z)):List Int->List Rw
 |[]=>[]
 |b::bs=>(match f b with |some w=>[(b,bs.head?,w)] |none=>[])++pcs f bs
def a4w:∀{bs:List Int}{r:Rw},r∈pcs f bs->r.b∈bs/\f r.b=bH r.w:=by ext z0;induction z0 with
 |nil=>ext _ h;simp[pcs]at h
 |cons b bs I0=>
  ext r h;let h||h:=be.mp h
  .cases e:f b with
   |none=>rw[e]at h;simp at h
   |some w=>rw[e]at h;rw[bg.mp h];show(.head _,e)
  .let(c,a):=I0 h;show(.tail _ c,a)
def a2E(f:Int->Option (List Z)):∀bs:List Int,(pcs f bs).length<=bs.length:=by ext z0;induction z0 with
 |nil=>simp[pcs]
 |cons b bs I0=>
  let:=I0
  unfold pcs;cases f b<;>simp<;>cbv
def a4x(f:Int->Option (List Z)):∀{bs:List Int},bs.Pairwise (·<·)->Rise (pcs f bs):=by ext z0;induction z0 with
 |nil=>ext _;simp[pcs];show .nil
 |cons b bs I0=>
  ext h;let g:=bz.mp h;let i:=I0 g.2;unfold pcs;cases e:f b with
  |none=>o_head i
  |some w=>
   show(λr a=>?_,bO.mpr (by simp,i.2,λr a s j=>?_))
   .let a||a:=be.mp a
    .rw[bg.mp a]
     change bef b bs.head?=kz
     cases bs with
     |nil=>rfl
     |cons c cs=>simpa[bef]using g.1 c (.head _)
    .show i.1 r a
   .rw[bg.mp a];let d:=(a4w j).1;cases bs with
    |nil=>simp at d
    |cons c cs=>
     show(c,rfl,?_);let q||q:=bf.mp d
     .lia
     .let:=(bz.mp g.2).1 _ q
      lia
def b0o:∀{bs:List Int},bs.Pairwise (·<·)->(∀t b,b∈bs->b<=t->(∀c∈bs,c<=t->c<=b)->f t=f b)->∀t,val (pcs f bs) t=if (bs.any λb=>decide (b<=t))=kz then f t else gV:=by ext z0;induction z0 with
 |nil=>ext _ _ t;simp[pcs,a0W]
 |cons b bs I0=>
  ext h hf t;let j:=bz.mp h;let p:=I0 j.2 (λt c a g o=>hf t c (.tail _ a) g λd k l=>by
   let rfl||k:=bf.mp k
   .let:=j.1 c a;lia
   .show o d k l) t
  unfold pcs;rw[a0I,p,cW]
  by_cases c1:b<=t
  .rw[decide_eq_true c1,Bool.true_or,if_pos rfl];cases c2:bs.any λb=>decide (b<=t) with
   |true=>
    let(c,a,g):=cK.mp c2;let g:c<=t:=↑g
    rw[if_pos rfl]
    let:val (match f b with |some w=>[((b,bs.head?,w):Rw)] |none=>[]) t=gV:=by
     cases f b with
     |none=>rfl
     |some w=>
      rw[a0k,a0W];cases bs with
      |nil=>simp at a
      |cons d ds=>
       let k:d<=t:=by
        let rfl||a:=bf.mp a
        .show g
        .let:=(bz.mp j.2).1 c a;lia
       let n:((b,(d::ds).head?,w):Rw).has t=kQ:=by
        unfold Rw.has;simp only[gB,bef];rw[decide_eq_false (show ¬ t<d by lia),dN]
       rw[n]
       rfl
    rw[this];rfl
   |false=>
    rw[if_neg (by decide)];let i:∀c∈bs,¬ c<=t:=λc a g=>by grind
    let m:=hf t b (.head _) c1 λc a g=>by
     let rfl||a:=bf.mp a
     .lia
     .show absurd g (i c a)
    rw[m];cases e:f b with
    |none=>rfl
    |some w=>
     rw[a0k,a0W]
     let:((b,bs.head?,w):Rw).has t=kz:=by
      unfold Rw.has;simp only;rw[decide_eq_true c1];cases bs with
      |nil=>rfl
      |cons d ds=>simp only[gB,bef,cw,decide_eq_true_eq];let:=i d (.head _);lia
     rw[this];rfl
  .rw[decide_eq_false c1,fN];let i:(bs.any λb=>decide (b<=t))=kQ:=dI.mpr λc a=>by grind
   rw[i,if_neg (by decide)]
   let:val (match f b with |some w=>[((b,bs.head?,w):Rw)] |none=>[]) t=gV:=by
    cases f b with
    |none=>rfl
    |some w=>
     rw[a0k,a0W,a36 (by change t<b;lia)]
     rfl
   rw[this];rfl
noncomputable def lastAt(puts:List Rw)(t:Int):Z:=match puts.reverse.find? (·.has t) with
 |some r=>r.w.headD .non
 |none=>.non
noncomputable def optW(z:Z):Option (List Z):=if z=.non then gV else bH [z]
def a6f(puts:List Rw)(p:Rw)(t:Int):lastAt (puts++[p]) t=if p.has t=kz then p.w.headD .non else lastAt puts t:=by
 unfold lastAt;rw[cY,dM,List.reverse_nil,dS,fg,cr];cases p.has t<;>rfl
def a0X(rows:List Rw)(bs:List Int):Prop:=bs.Pairwise (·<·)/\∀x,x∈bs↔∃r∈rows,x=r.b\/r.e=bH x
def a7b{r:Rw}(h:b<=t)(h1:r.b<=t->r.b<=b)(h2:∀e,r.e=bH e->e<=t->e<=b):r.has t=r.has b:=by
 unfold Rw.has;let a:decide (r.b<=t)=decide (r.b<=b):=a0m (by grind)
 congr 1
 cases he:r.e with
 |none=>rfl
 |some e=>
  let:=h2 e he
  show a0m (by grind)
def a37:∀{l:List Rw},(∀r∈l,f r=g r)->l.find? f=l.find? g:=by ext z0;induction z0 with
 |nil=>ext _;show rfl
 |cons r l I0=>ext h;rw[cr,cr,h r (.head _),I0 λs a=>h s (.tail _ a)]
def a5q{puts:List Rw}{bs:List Int}(hb:a0X puts bs)(t b:Int)(_:b∈bs)(hbt:b<=t)(hm:∀c∈bs,c<=t->c<=b):lastAt puts t=lastAt puts b:=by
 unfold lastAt;rw[a37 λr d=>?_];let a:r∈puts:=by simp_all
 show a7b hbt (λh=>hm _ ((hb.2 _).mpr (r,a,.inl rfl)) h) λe f h=>hm _ ((hb.2 _).mpr (r,a,.inr f)) h
def a6g(hb:a0X puts bs)(t:Int)(h:(bs.any λb=>decide (b<=t))=kQ):lastAt puts t=.non:=by
 unfold lastAt
 let:puts.reverse.find? (·.has t)=gV:=by
  rw[dB];ext r c;let a:r∈puts:=by simp_all
  let:=dI.mp h r.b ((hb.2 _).mpr (r,a,.inl rfl))
  rw[a36 (by simp_all)]
  decide
 rw[this]
def b0p(hb:a0X puts bs):Can (join (pcs (λt=>optW (lastAt puts t)) bs))/\(∀t,val (join (pcs (λt=>optW (lastAt puts t)) bs)) t=optW (lastAt puts t))/\(join (pcs (λt=>optW (lastAt puts t)) bs)).length<=bs.length /\
  ∀r∈join (pcs (λt=>optW (lastAt puts t)) bs),∃t,optW (lastAt puts t)=bH r.w:=by
 let h:=a4u (a4x (λt=>optW (lastAt puts t)) hb.1);show(h.1,λt=>?_,bD h.2.2.1 (a2E _ _),λr f=>?_)
 .rw[h.2.1 t,b0o hb.1 λt b d a g=>by rw[a5q hb t b d a g]]
  split
  .rfl
  .next c=>rw[a6g hb t ↑c];rfl
 .let(e,d,a):=h.2.2.2 r f;show(e.b,by rw[a];show (a4w d).2)
noncomputable def a5r(l:List Rw)(b:Int)(e:Option Int)(w:Option (List Z)):List Rw:=join (a1r l b e w)
def b2f{l:List Rw}{b:Int}{e:Option Int}{w:Option (List Z)}(h:Rise l)(g:bef b e=kz):Can (a5r l b e w)/\(∀t,val (a5r l b e w) t=if (decide (b<=t)&&bef t e)=kz then w else val l t)/\(a5r l b e w).length<=l.length+2:=by
 let a:=a5p (w:=w) h g;let j:=a4u a.1;show(j.1,λt=>by rw[<- a.2.1 t];show j.2.1 t,bD j.2.2.1 a.2.2)
def okW(w:List Z):Prop:=w≠[]/\w.length<=4/\w.all (flat 4)=kz
def OkR(l:List Rw):Prop:=∀r∈l,okW r.w
def a0p:∀{n m:Nat}{z:Z},n<=m->flat n z=kz->flat m z=kz:=by
 ext n
 induction n with
 |zero=>ext m z _ h;cases z<;>first | (simp[flat]at h;done) | (cases m<;>simp_all[flat])
 |succ n ih=>
  ext m z b h;cases m with
  |zero=>lia
  |succ m=>
   cases z with
   |tup ws=>
    simp only[flat,b5]at h ⊢;show λx a=>ih (by lia) (h x a)
   |_=>first | (simp[flat];done) | (simp[flat]at h;done) | (simp only[flat]at h ⊢;show h)
def a7c{ws:List Z}(hm:n<=m)(h:ws.all (flat n)=kz):ws.all (flat m)=kz:=by
 rw[b5]at h ⊢;show λx a=>a0p hm (h x a)
def b0q:flat n (oz e)=kz:=by
 cases e<;>cases n<;>rfl
def a4y:flat n (.int i)=kz:=by cases n<;>rfl
def b2g:flat n .non=kz:=by cases n<;>rfl
def b2h{r:Rw}(h:okW r.w):flat 5 r.z=kz:=by
 change ((Z.int r.b::oz r.e::r.w).all _)=kz
 rw[bJ,bJ,a4y,b0q,h.2.2];rfl
def a3v(h:OkR l):(l.map Rw.z).all (flat 8)=kz:=by
 rw[b5];ext x b;let(r,a,rfl):=bC.mp b;show a0p (by simp) (b2h (h r a))
noncomputable def wz:Option (List Z)->Z
 |none=>.non
 |some w=>w.headD .non
def b0r(h:R (.bl (decide (e=bH b))) G):zEq id (oz e) (.int b) G R:=by
 cases e with
 |none=>
  show ((b2g,a4y,?_))
  let:decide (Z.non=Z.int b)=decide (gV=bH b):=by simp
  show h
 |some e=>
  show b7n ?_
  let:decide (e=b)=decide (bH e=bH b):=a0m (by simp)
  rw[this];show h
def b8o(h1:flat 8 (.tup xs)=kz)(h2:flat 8 (.tup ys)=kz)(h:R (.bl (f (decide (xs=ys)))) G):zEq f (.tup xs) (.tup ys) G R:=by
 show ((h1,h2,?_));rw[a0m (Z.tup.injEq _ _)];show h
def a2X:P3:=λws G R=>∃x y,ws=[oz x,oz y]/\R (oz (emin x y)) G
set_option tactic.hygienic true in
def a2Y(T:Txt K mg a):Cal P w K mg base CX0 1 "earlier_end" (lowP K a2X):=by
 show fnc 2 (N:=["end","other"]) T.br (T.f 3 _ rfl) ?_;walk_at "in";show(_,(by ac_rfl),?_);let(x,y,rfl,q):=h;cases x with
 |none=>
  lk;cases y<;>show q
 |some x=>
  cases y with
  |none=>
   lk;show q
  |some y=>
   lk;show q
noncomputable def over(r:Rw)(m:Int):Bool:=match r.e with
 |none=>kQ
 |some e=>decide (e<=m)
def a5s:P3:=λws G R=>∃r m,ws=[Rw.z r,.int m]/\R (.bl (over r m)) G
set_option tactic.hygienic true in
def a5t(T:Txt K mg a):Cal P w K mg base CX0 1 "is_over" (lowP K a5s):=by
 show fnc 2 (N:=["stretch","moment"]) T.br (T.f 9 _ rfl) ?_;walk_at "in";show(_,(by ac_rfl),?_);let((b,e,w),m,rfl,q):=h;cases e with
 |none=>
  lk;show a05 at1 (by lk;show q)
 |some e=>
  lk;show a05 at1 ?_;lk;show a05 at1 ?_;lk;show q
def a1Z{α β:Type}{l:List α}{g:α->Z}{g':β->Z}(f:α->Option β)(hok:∀ys,ok (put G1 D (.lst ys)))(hz:l.length<=1000)
  (turn:∀x,x∈l->∀(ys:List Z)(K1:K3)(K2:Hq->Prop),(∀y,f x=bH y->K1 (g' y) (put G1 D (.lst ys)))->(f x=gV->K2 (put G1 D (.lst ys)))->∃σ',a3i pt (g x) (cap3 cap σ)=bH σ'/\tt σ' (put G1 D (.lst ys)) λb G4=>if b=kz then te σ' G4 K1 else K2 G4)
  (fin:R (.ref D) (put G1 D (.lst ((l.filterMap f).map g')))):LCB (l.map g) ok cap pt tt te σ R D G1:=by
 show b1q (λi c G=>c=((l.take i).filterMap f).map g'/\G=put G1 D (.lst c)) (by simp,rfl) ?_ ?_ ?_
 .simp_all
 .ext i x c G d ⟨e,rfl⟩;rw[bo]at d;cases hx':l[i]? with
  |none=>rw[hx']at d;cases d
  |some a=>
   rw[hx']at d;cases d;show turn a (bB hx') c _ _ (λy j=>(a0a,?_,?_,?_)) λh=>(?_,rfl)
   .rw[e,a9];show eV (bD (dq _ _) (by rw[bE];lia)) (a0d (bd 1000))
   .rw[a06 hx',j,e,bp];rfl
   .rw[a1A]
   .rw[a06 hx',h,e];simp
 .simp_all
def One(l:List Rw):Prop:=∀r∈l,∃x,r.w=[x]
def a4z:P3:=λws G R=>∃p l m,ws=[.ref p,oz m]/\G p=bH (.lst (l.map Rw.z))/\One l/\l.length<=1000/\∀t,G t=gV->R (.ref t) (put G t (.lst ((ahead m l).map Rw.z)))
set_option tactic.hygienic true in
def a4A(T:Txt K mg a):Cal P w K mg base CX0 2 "ahead_of" (lowP K a4z):=by
 show fnc 2 (N:=["line","moment"]) T.br (T.f 4 _ rfl) ?_;walk_at "in";show(_,(a0A (a16 (q_l ["begin","end","worth","moment"] [gV,gV,gV,bH 1] (.tp [0,1,2])))),?_);let(p,l,m,rfl,hp,h1,hz,q):=h;lk;show a1u hp ?_;ext D hD;show a1Z (a1M m) (λys=>a0b hp hD) hz ?_ (q D hD);ext r hr ys K1 K2 k1 k2;let(x,hx):=h1 r hr;let(b,e,w):=r;cases hx;show(_,rfl,?_);cases m with
 |none=>
  lk;show(e,gV,rfl,?_);lk;show(lenK rfl,?_);show k1 _ rfl
 |some m=>
  lk;show ifD (λc=>?_) λc=>?_
  .lk;show(e,bH m,rfl,?_);lk;show(lenK rfl,?_);show k1 (b,emin e (bH m),[x]) ?_;unfold a1M;rw[if_pos (by simpa[bef]using c)]
  .show k2 ?_;unfold a1M;rw[if_neg (by simpa[bef]using c)]
def a5u:P3:=λws G R=>∃p l m,ws=[.ref p,.int m]/\G p=bH (.lst (l.map Rw.z))/\One l/\l.length<=1000/\∀t,G t=gV->R (.ref t) (put G t (.lst ((fromOn m l).map Rw.z)))
set_option tactic.hygienic true in
def a5v(T:Txt K mg a):Cal P w K mg base CX0 1 "from_on" (lowP K a5u):=by
 show fnc 2 (N:=["line","moment"]) T.br (T.f 6 _ rfl) ?_;walk_at "in";show(_,(a0A (a16 (q_l ["begin","end","worth","moment"] [gV,gV,gV,bH 1] (.tp [0,1,2])))),?_);let(p,l,m,rfl,hp,h1,hz,q):=h;lk;show a1u hp ?_;ext D hD;show a1Z (a4v m) (λys=>a0b hp hD) hz ?_ (q D hD);ext r hr ys K1 K2 k1 k2;let(x,hx):=h1 r hr;let(b,e,w):=r;cases hx;show(_,rfl,?_);cases e with
 |none=>
  lk;show(lenK rfl,?_);show k1 (if m > b then m else b,gV,[x]) rfl
 |some e=>
  lk;show ifD (λc=>?_) λc=>?_
  .lk;show(lenK rfl,?_);show k1 (if m > b then m else b,bH e,[x]) ?_;unfold a4v;rw[if_pos (by simpa[bef]using c)]
  .show k2 ?_;unfold a4v;rw[if_neg (by simpa[bef]using c)]
def a4B(h:0<n):ixN n (-1)=bH (n-1):=by grind [ixN]
def a04{α:Type}{l:List α}{x:α}(h:l.getLast?=bH x):atI l (-1)=bH x:=by
 let a:l≠[]:=λz=>by subst z;simp at h
 unfold atI;rw[a4B (cP.mpr a)]
 change l[l.length-1]?=bH x
 rw[<- List.getLast?_eq_getElem?];show h
def a4C{α:Type}{l:List α}{x y:α}(h:l.getLast?=bH x):l.set (l.length-1) y=l.dropLast++[y]:=by
 let a:=a2h h;generalize l.dropLast=i at a;subst a;simp
def sIx2{a b:Z}{w:List Z}:HT.sIx (a::b::w).length 0 (bH 2)=2:=by
 let:=HT.sIx_nat (a::b::w).length 0 2
 rw[show ((2:Nat):Int)=2 from rfl]at this;rw[this];simp
def cut2{a b:Z}{w:List Z}:cutZ (a::b::w) (bH 2) gV=w:=by
 unfold cutZ;rw[sIx2,HT.sIx_none];simp
def b0s{a b:Z}{w:List Z}:¬ (HT.sIx (a::b::w).length 0 (bH 2)=0/\HT.sIx (a::b::w).length (a::b::w).length gV=(a::b::w).length):=by
 rw[sIx2];ext h;show absurd h.1 (by decide)
def okW0(w:List Z):Prop:=w.length<=4/\w.all (flat 4)=kz
def OkR0(l:List Rw):Prop:=∀r∈l,okW0 r.w
def OkR.weak(h:OkR l):OkR0 l:=λr hr=>(h r hr).2
def a0M:P3:=λws G R=>∃p ps,ws=[.ref p]/\G p=bH (.lst (ps.map Rw.z))/\OkR0 ps/\ps.length<=1000/\∀t,G t=gV->R (.ref t) (put G t (.lst ((join ps).map Rw.z)))
def b5b{G:Hq}{R:K3}{a b:Z}{w:List Z}(h:R (.tup w) G):zSl (.tup (a::b::w)) (bH 2) gV G R:=a9o b0s (by rw[cut2];show h)
def a4D{w:List Z}(h:okW0 w):flat 8 (.tup w)=kz:=a7c (n:=4) (m:=7) (by decide) h.2
set_option tactic.hygienic true in
theorem a7d:∀(ps told:List Rw),OkR0 told->OkR0 ps->OkR0 (ps.foldl jn told)
 |[],_,h,_=>h
 |p::ps,told,h,h'=>by
  show a7d ps _ (λr a=>?_) λr a=>h' r (.tail _ a);unfold jn at a
  split at a
  .next l hl=>
   split at a
   .let a||a:=be.mp a
    .show h r (eO _ a)
    .rw[bg.mp a];show h' p (.head _)
   .let a||a:=be.mp a
    .show h r a
    .rw[bg.mp a];show h' p (.head _)
  .let a||a:=be.mp a
   .show h r a
   .rw[bg.mp a];show h' p (.head _)
def b8p(told:List Rw)(p:Rw):(jn told p).length<=told.length+1:=by
 unfold jn
 split
 .split<;>simp
 .simp
def b2i:∀(ps told:List Rw),(ps.foldl jn told).length<=told.length+ps.length:=by ext z0;induction z0 with
 |nil=>ext told;simp
 |cons p ps I0=>
  ext told;let b:=I0 (jn told p);let a:=b8p told p
  change (ps.foldl jn (jn told p)).length<=_
  rw[bv]
  lia
def b0t{ps:List Rw}(h:ps[i]?=bH p):(ps.take (i+1)).foldl jn []=jn ((ps.take i).foldl jn []) p:=by
 rw[cG,h];simp
set_option tactic.hygienic true in
def a1v(T:Txt K mg a):Cal P w K mg base CX0 1 "with_alike_joined" (lowP K a0M):=by
 show fnc 1 (N:=["pieces","told","piece"]) T.br (T.f 5 _ rfl) ?_;walk_at "in";show(_,(a0c (by ac_rfl)
  (a0c (a1K (pt:=(.nm 2)) h9.never rfl (by ac_rfl) (p_nm (nmI 2 nd))
  (a0A (z_if (by ac_rfl)
  (a0A (a2N (by ac_rfl) (qv 1) (by ac_rfl) a9j))
  (by ac_rfl))))
  (by ac_rfl))),?_)
 let(p,ps,rfl,hp,hok,hz,q):=h;lk;show(lenK rfl,λt ht=>?_);lk;show a1u (a0b hp ht) ?_;show a0E (λi σ G'=>∃v,σ=[bH (.ref p),bH (.ref t),v]/\G'=put G t (.lst (((ps.take i).foldl jn []).map Rw.z))) (_,rfl,by simp) (by ext i σ G' _ ⟨v,_,e⟩;show by rw[e];show a0b hp ht) ?_ ?_
 .ext i x σ G' hx ⟨v,rfl,rfl⟩;rw[bo]at hx;cases hx':ps[i]? with
  |none=>rw[hx']at hx;cases hx
  |some r=>
   rw[hx']at hx;cases hx;let hr:=hok r (bB hx');let hot:OkR0 ((ps.take i).foldl jn []):=a7d _ _ (λr hr=>by simp at hr) λr hr=>hok r (bK hr);let hlt:=b2i (ps.take i) [];rw[bE]at hlt;let hi:=(bh.mp hx').1;rw[b0t hx'];generalize (ps.take i).foldl jn []=told at hot hlt ⊢;simp only[List.length_nil]at hlt;show(_,rfl,?_);let app:∀G',G'=put G t (.lst (told.map Rw.z))->jn told r=told++[r]->a3j (.ref t) [r.z] G' (λ_ G1=>∃v,([bH (.ref p),bH (.ref t),bH r.z]:S3)=[bH (.ref p),bH (.ref t),v]/\G1=put G t (.lst ((jn told r).map Rw.z))):=by
    ext _ rfl e;show a0v a0a (by rw[a9];show a0d (by lia)) (_,rfl,?_);rw[a1A,e,bp]
    rfl
   lk;show b2Y a0a ?_;cases hl:told.getLast? with
   |none=>
    let e0:told=[]:=dY.mp hl;subst e0;show ifF ?_;lk;show a0Y a0a ?_;lk;show app _ rfl (by unfold jn;rw[hl])
   |some k=>
    let hne:told≠[]:=λz=>by subst z;simp at hl
    let hlm:(told.map Rw.z).getLast?=bH k.z:=by rw[d6,hl];rfl
    let he:(told.map Rw.z).isEmpty=kQ:=by cases told with |nil=>show absurd rfl hne |cons _ _=>rfl
    let hk:=hot k (eP hl);rw[he];show ifT ?_;lk;show a0y a0a (a04 hlm) ?_;lk;show a05 at1 ?_;lk;show a05 at0 ?_;show b0r ?_;lk;show ifD (λc1=>?_) λc1=>?_
    .lk;show a0y a0a (a04 hlm) ?_;lk;show b5b ?_;lk;show b5b ?_;show b8o (a4D hk) (a4D hr) ?_;lk;show ifD (λc2=>?_) λc2=>?_
     .lk;show a0y a0a (a04 hlm) ?_;lk;show a05 at0 ?_;lk;show a05 at1 ?_;lk;show(lenK rfl,?_);lk;show b5b ?_;show a6M (by simp) (a0H (by let:=hr.1;simp;lia)) ?_;lk;show a9p a0a (a4B (by rw[a9];show cP.mpr hne)) ?_;show(_,rfl,?_);rw[a1A,a4C hlm]
      congr 1
      unfold jn;rw[hl];dsimp only;rw[if_pos (c1,c2),bp,fz]
      rfl
     .lk;show a0Y a0a ?_;lk;show app _ rfl (by unfold jn;rw[hl];dsimp only;rw[if_neg λz=>c2 z.2])
    .show ifF ?_;lk;show a0Y a0a ?_;lk;show app _ rfl (by unfold jn;rw[hl];dsimp only;rw[if_neg λz=>c1 z.1])
 .ext σ G' ⟨v,rfl,rfl⟩;lk;rw[a9,cm];show q t ht
def b2j(h:over r m=kz):r.has m=kQ:=by
 unfold over at h;unfold Rw.has;cases he:r.e with
 |none=>rw[he]at h;cases h
 |some e=>
  rw[he]at h;simp at h;simp only[bef];rw[decide_eq_false (show ¬ m<e by lia),dN]
def b0u(h:m<=m')(o:over r m=kz):over r m'=kz:=by
 unfold over at o ⊢;cases he:r.e with
 |none=>rw[he]at o;cases o
 |some e=>rw[he]at o;simp at o ⊢;lia
theorem a7e:∀{l:List Rw}{m:Int}{k:Nat},(∀(i:Nat) r,i<k->l[i]?=bH r->over r m=kz)->val l m=val (l.drop k) m
 |l,m,0,_=>rfl
 |[],m,k+1,_=>rfl
 |r::l,m,k+1,h=>by
  rw[a0k,b2j (h 0 r (by simp) rfl),if_neg (by simp),List.drop_succ_cons];show a7e λi s a e=>h (i+1) s (by lia) (by grind)
def b2k(h:Rise (r::l))(o:over r m=kQ):val (r::l) m=if r.b<=m then bH r.w else gV:=by
 rw[a0k];let d:bef m r.e=kz:=by
  unfold over at o;cases he:r.e with
  |none=>rfl
  |some e=>rw[he]at o;simp at o;simp only[bef,decide_eq_true_eq];cbv
 by_cases c:r.b<=m
 .let:r.has m=kz:=by unfold Rw.has;rw[d,decide_eq_true c];rfl
  rw[this,if_pos rfl,if_pos c]
 .rw[a36 (by lia),if_neg (by simp),if_neg c];show a1p λs a=>a36 ?_
  let:=((bz.mp h.2).1 s a).b (h.1 r (.head _))
  lia
def Rise.drop(h:Rise l)(k:Nat):Rise (l.drop k):=(λr a=>h.1 r (ff a),h.2.sublist (e7 _ _))
def drop_get{α:Type}{l:List α}{x:α}(h:l[k]?=bH x):l.drop k=x::l.drop (k+1):=by
 let(b,a):=bh.mp h;rw[cX b,a]
def a3G:P3:=λws G R=>Ex4 λ(p q:Addr) (l:List Rw) (ms:List Int)=>ws=[.ref p,.ref q]/\G p=bH (.lst (l.map Rw.z))/\G q=bH (.lst (ms.map Z.int))/\Rise l/\OkR l/\l.length<=1000/\ms.Pairwise (·<=·)/\ms.length<=1000 /\
 ∀t,G t=gV->R (.ref t) (put G t (.lst (ms.map λm=>wz (val l m))))
def a6h{l:List Rw}{k:Nat}(h:l[k]?=bH r):atI (l.map Rw.z) (k:Int)=bH r.z:=a0O (by simp_all)
def take_snoc{α:Type}{l:List α}{x:α}(h:l[i]?=bH x):l.take (i+1)=l.take i++[x]:=by rw[cG,h];rfl
set_option tactic.hygienic true in
def a3H(T:Txt K mg a):Cal P w K mg base CX0 2 "worths_in" (lowP K a3G):=by
 show fnc 2 (N:=["line","moments","worths","at","moment"]) T.br (T.f 10 _ rfl) ?_;walk_at "in";show(_,(a0c (by ac_rfl)
  (a0c (by ac_rfl)
  (a0c (a1K (pt:=(.nm 4)) h9.never rfl (by ac_rfl) (p_nm (nmI 4 nd))
  (a5S (a5T h9.never (by ac_rfl)
  (by ac_rfl))
  (by ac_rfl)))
  (by ac_rfl)))),?_)
 let(p,q,l,ms,rfl,hp,hq,hr,hok,hz,hm,hmz,fin):=h;lk;show(lenK rfl,λt ht=>?_);lk;show a1u (a0b hq ht) ?_;show a0E (λi σ G'=>Ex2 λ(k:Nat) (v:Option Z)=>An4 (k<=l.length) (∀(j:Nat) r m,j<k->l[j]?=bH r->ms[i]?=bH m->over r m=kz) (σ=[bH (.ref p),bH (.ref q),bH (.ref t),bH (.int k),v]) (G'=put G t (.lst ((ms.take i).map λm=>wz (val l m))))) (0,_,bR _,λj r m hj=>by lia,rfl,by simp) (by ext i σ G' _ ⟨_,_,_,_,_,e⟩;show by rw[e];show a0b hq ht) ?_ ?_
 .ext i x σ G' hx ⟨k,v,hk,hov,rfl,rfl⟩;rw[bo]at hx;cases hx':ms[i]? with
  |none=>rw[hx']at hx;cases hx
  |some m=>
   rw[hx']at hx;cases hx;show(_,rfl,?_);lk;let hp':put G t (.lst ((ms.take i).map λm=>wz (val l m))) p=bH (.lst (l.map Rw.z)):=a0b hp ht;generalize hG:put G t (.lst ((ms.take i).map λm=>wz (val l m)))=G1 at hp' ⊢;show a5Y (fun σ' G'=>∃(k':Nat),An5 (k'<=l.length) (∀(j:Nat) r,j<k'->l[j]?=bH r->over r m=kz) (∀r,l[k']?=bH r->over r m=kQ) (σ'=[bH (.ref p),bH (.ref q),bH (.ref t),bH (.int k'),bH (.int m)]) (G1=G')) ?_ ?_
   .show(λn σ' G'=>∃k':Nat,n+k'=l.length/\(∀(j:Nat) r,j<k'->l[j]?=bH r->over r m=kz)/\σ'=[bH (.ref p),bH (.ref q),bH (.ref t),bH (.int k'),bH (.int m)]/\G1=G',(l.length-k,k,by lia,λj r hj e=>hov j r m hj e hx',rfl,rfl),?_);ext n σ' G' ⟨k',hn,ho,rfl,rfl⟩;lk;show a2O hp' ?_;lk;show ifD (λc=>?_) λc=>?_
    .rw[a9]at c;let hlt:k'<l.length:=by lia
     let hg:=bn hlt;lk;show a0y hp' (a6h hg) ?_;lk;show(_,_,rfl,?_);lk;show ifB (λc2=>?_) λc2=>?_
     .lk;show(n-1,by lia,k'+1,by lia,λj r hj e=>?_,rfl,rfl)
      by_cases hjk:j<k'
      .show ho j r hjk e
      .let:j=k':=by lia
       subst this;rw[hg]at e;cases e;show c2
     .show(k',by lia,ho,λr e=>by rw[hg]at e;cases e;show c2,rfl,rfl)
    .rw[a9]at c;show ifF ?_;show(k',by lia,ho,λr e=>by let:=(bh.mp e).1;lia,rfl,rfl)
   .ext σ' G' ⟨k',hk',ho,hn,rfl,rfl⟩;let hv:val l m=val (l.drop k') m:=a7e ho;let nxt:∀w:Z,w=wz (val l m)->a3j (.ref t) [w] G1 (λ_ G2=>Ex2 λ(k:Nat) (v:Option Z)=>An4 (k<=l.length) (∀(j:Nat) r m,j<k->l[j]?=bH r->ms[i+1]?=bH m->over r m=kz) (([bH (.ref p),bH (.ref q),bH (.ref t),bH (.int k'),bH (.int m)]:S3)=[bH (.ref p),bH (.ref q),bH (.ref t),bH (.int k),v]) (G2=put G t (.lst ((ms.take (i+1)).map λm=>wz (val l m))))):=by
     ext w rfl;subst hG;let hi:=(bh.mp hx').1;show a0v a0a (by rw[a9,bE];show a0d (by lia)) (k',_,hk',λj r m' hj e e'=>b0u ?_ (ho j r hj e),rfl,?_)
     .let(h1,e1):=bh.mp hx';let(h2,e2):=bh.mp e';rw[<- e1,<- e2];show cO.mp hm _ _ h1 h2 (by lia)
     .rw[a1A,take_snoc hx',bp];rfl
    let ht1:∃ws,G1 t=bH (.lst ws):=by rw[<- hG];show(_,a0a)
    let(wt,ht1):=ht1;lk;show a2O hp' ?_;lk;show ifD (λc=>?_) λc=>?_
    .rw[a9]at c;let hlt:k'<l.length:=by lia
     let hg:=bn hlt;let hv2:=b2k (by rw[<- drop_get hg];show hr.drop k') (hn _ hg);rw[<- drop_get hg,<- hv]at hv2;lk;show a0y hp' (a6h hg) ?_;lk;show a05 at0 ?_;lk;show ifD (λc2=>?_) λc2=>?_
     .lk;show a0Y ht1 ?_;lk;show a0y hp' (a6h hg) ?_;lk;let hw:=hok _ (cx hlt);obtain⟨x,xs,ex⟩:∃x xs,(l[k']).w=x::xs:=by
       cases e:(l[k']).w with
       |nil=>show absurd e hw.1
       |cons x xs=>show(x,xs,rfl)
      show a05 (w:=x) (by change atI (_::_::(l[k']).w) 2=bH x;rw[ex];show at2) ?_;lk;show nxt x ?_;rw[hv2,if_pos c2,ex];rfl
     .lk;show a0Y ht1 ?_;lk;show nxt .non ?_;rw[hv2,if_neg c2];rfl
    .rw[a9]at c;show ifF ?_;lk;show a0Y ht1 ?_;lk;show nxt .non ?_;rw[hv,dQ (by lia)];rfl
 .ext σ G' ⟨k,v,_,_,rfl,rfl⟩;lk;rw[a9,cm];show fin t ht
def b0v(h:OkR l):OkR (ahead m l):=λx a=>by
 let(r,b,_,rfl):=a2i a;show h r b
def b2l(h:OkR l):OkR (fromOn m l):=λx a=>by
 let(r,b,_,rfl):=a3a a;show h r b
def okV(z:Z):Prop:=flat 4 z=kz
def b5c(h:okV z):okW [z]:=(by simp,by simp,by rw[bJ,h];rfl)
def a73(h:OkR l)(hz:okV z):OkR (a1r l b e (optW z)):=by
 ext r a;let a||a:=be.mp a
 .let a||a:=be.mp a
  .show b0v h r a
  .unfold optW at a
   split at a
   .next w e=>
          split at e
          .cases e
          .cases e;rw[bg.mp a];show b5c hz
   .simp_all
 .cases e with
  |none=>simp at a
  |some e=>show b2l h r a
def a6i:P3:=λws G R=>Ex5 λp l b e z=>ws=[.ref p,.int b,oz e,z]/\G p=bH (.lst (l.map Rw.z))/\Rise l/\OkR l/\One l/\l.length<=900/\bef b e=kz/\okV z /\
 ∀t G',G t=gV->Sm G G'->G' t=bH (.lst ((a5r l b e (optW z)).map Rw.z))->R (.ref t) G'
set_option tactic.hygienic true in
def a6j(T:Txt K mg a):Cal P w K mg base CX0 3 "put_on" (lowP K a6i):=by
 show fnc 4 (N:=["line","begin","end","worth","pieces"]) T.br (T.f 7 _ rfl) ?_;walk_at "in";show(_,(a0c (by ac_rfl)
  (a5S (by ac_rfl)
  (a5S (by ac_rfl)
  (by ac_rfl)))),?_)
 let(p,l,b,e,z,rfl,hp,hr,hok,h1,hz,g,hv,q):=h;let hpc:=(a5p (w:=optW z) hr g).2.2;lk;show(p,l,bH b,rfl,hp,h1,by lia,λt ht=>?_);lk;let la:=a5o (bH b) l;show a5Y (fun σ' G'=>σ'=[bH (.ref p),bH (.int b),bH (oz e),bH z,bH (.ref t)]/\G'=put G t (.lst ((ahead (bH b) l++(match optW z with |some w=>[((b,e,w):Rw)] |none=>[])).map Rw.z))) ?_ ?_
 .lk;show ifN (λc=>?_) λc=>?_
  .lk;show a0Y a0a ?_;lk;show(lenK rfl,?_);lk;show a0v a0a (by rw[a9];show a0d (by lia)) (rfl,?_);rw[a1A,optW,if_neg c,bp];rfl
  .lk;show(rfl,?_);rw[optW,if_pos c];simp
 .ext σ' G' ⟨rfl,rfl⟩;let hp1:∀o,put G t o p=bH (.lst (l.map Rw.z)):=λo=>a0b hp ht;let fin:∀G' ,Sm G G'->G' t=bH (.lst ((a1r l b e (optW z)).map Rw.z))->a0M [.ref t] G' R:=λG' s ht'=>by
   show(t,_,rfl,ht',(a73 hok hv).weak,by lia,λu hu=>?_);show q u _ (s.free hu) (s.trans (Sm.new hu)) a0a
  show a5Y (fun σ' G'=>An3 (σ'=[bH (.ref p),bH (.int b),bH (oz e),bH z,bH (.ref t)]) (Sm G G') (G' t=bH (.lst ((a1r l b e (optW z)).map Rw.z)))) ?_ ?_
  .cases e with
   |none=>
    lk;show(rfl,Sm.new ht,?_);unfold a1r;rw[bM];show a0a
   |some e=>
    lk;show a0Y a0a ?_;lk;show(p,l,e,rfl,hp1 _,h1,by lia,λu hu=>?_);let hut:t≠u:=λz=>by subst z;rw[a0a]at hu;cases hu
    let hpl:(a1r l b (bH e) (optW z)).length=(ahead (bH b) l++(match optW z with |some w=>[((b,bH e,w):Rw)] |none=>[])).length+(fromOn e l).length:=by
     unfold a1r;show bu
    generalize hA:(ahead (bH b) l++(match optW z with |some w=>[((b,bH e,w):Rw)] |none=>[]))=A at hu hpl ⊢
    let e1:put (put G t (.lst (A.map Rw.z))) u (.lst ((fromOn e l).map Rw.z)) t=bH (.lst (A.map Rw.z)):=by rw[a0h hut];show a0a
    lk;show a6N e1 a0a (by rw[a9,a9];show a0H (by lia)) ?_;show(rfl,?_,?_)
    .show ((Sm.new ht).trans (Sm.new hu)).put ht
    .rw[a0a,<- bp,<- hA]
     rfl
  .ext σ' G' ⟨rfl,s,ht'⟩;lk;show fin G' s ht'
def leS(a b:Str):Prop:=PySem.Spec.ltCps b.cps.toList a.cps.toList=kQ
def b0w{a b:Str}:leS a b↔¬ b.cps.toList<a.cps.toList:=by unfold leS;rw[PyProof.Rows.ltCps_eq];simp
def b0x{a b c:Str}(h:leS a b)(g:leS b c):leS a c:=by
 rw[b0w]at *;show List.le_trans (α:=Nat) h g
def b2m{a b:Str}(h:leS a b)(g:leS b a):a=b:=by
 rw[b0w]at *;let e:a.cps.toList=b.cps.toList:=List.le_antisymm (α:=Nat) h g;cases a;cases b;o_head e
def c0s:∀{l:List Str}{p:Str},PyProof.Rows.risingS p l=kz->(p::l).Pairwise leS:=by ext z0;induction z0 with
 |nil=>ext p _;show eZ _ _
 |cons x r I0=>
  ext p h;unfold PyProof.Rows.risingS at h;rw[b8,Bool.not_eq_true']at h;let b:=I0 h.2;show bz.mpr (λy a=>?_,b);let rfl||a:=bf.mp a
  .show h.1
  .show b0x h.1 (fA b a)
theorem b8q:∀{l:List Str},PyProof.Rows.sortedS l=kz->l.Pairwise leS
 |[],_=>cV.nil
 |_::_,h=>c0s h
theorem a5w:∀{xs ys:List Str},xs.Pairwise leS->ys.Pairwise leS->xs.Perm ys->xs=ys
 |[],ys,_,_,h=>(List.nil_perm.mp h).symm
 |x::xs,[],_,_,h=>by let:=h.length_eq;simp at this
 |x::xs,y::ys,h1,h2,h=>by
  let e:x=y:=by
   let c:=h.mem_iff.mp (cn);let b:=h.mem_iff.mpr (cn);let e||c:=bf.mp c
   .cbv
   .let e||b:=bf.mp b
    .simp_all
    .show b2m (fA h1 b) (fA h2 c)
  subst e;rw[a5w (bz.mp h1).2 (bz.mp h2).2 h.cons_inv]
def okS(s:Str):Prop:=s.length<=1000/\PyData.strOk s=kz
def Th(G:Hq):Z->Prop
 |.non=>True
 |.bl _=>True
 |.int _=>True
 |.str s=>okS s
 |.tup _=>True
 |.ref p=>(∃ws,G p=bH (.lst ws))\/∃kvs,G p=bH (.dK kvs)
 |_=>False
def Th.sm(s:Sm G G')(h:Th G x):Th G' x:=by
 cases x with
 |ref p=>
  let(ws,e)||(ws,e):=h
  .show .inl (ws,s _ _ e)
  .show .inr (ws,s _ _ e)
 |_=>show h
structure Kd (G:Hq) (x:Z) (n:String):Prop where
 ty:tyN G x=bH n
 is:n="NoneType"\/n="bool"\/n="int"\/n="str"\/n="tuple"\/n="list"\/n="dict"
def Th.kd(h:Th G x):∃n,Kd G x n:=by
 cases x with
 |non=>show(_,rfl,.inl rfl)
 |bl _=>show(_,rfl,.inr (.inl rfl))
 |int _=>show(_,rfl,.inr (.inr (.inl rfl)))
 |str _=>show(_,rfl,.inr (.inr (.inr (.inl rfl))))
 |tup _=>show(_,rfl,.inr (.inr (.inr (.inr (.inl rfl)))))
 |ref p=>
  let(ws,e)||(ws,e):=h
  .show("list",by simp[tyN,e],.inr (.inr (.inr (.inr (.inr (.inl rfl))))))
  .show("dict",by simp[tyN,e],.inr (.inr (.inr (.inr (.inr (.inr rfl))))))
 |_=>show bj h
def b5d(h:n="NoneType"\/n="bool"\/n="int"\/n="str"\/n="tuple"\/n="list"\/n="dict"):kit0 n "str"=bH (decide (n="str")):=by
 let rfl||rfl||rfl||rfl||rfl||rfl||rfl:=h<;>decide +kernel
def b2n(h:n="NoneType"\/n="bool"\/n="int"\/n="str"\/n="tuple"\/n="list"\/n="dict"):kit0 n "bool"=bH (decide (n="bool")):=by
 let rfl||rfl||rfl||rfl||rfl||rfl||rfl:=h<;>decide +kernel
def b5e(h:n="NoneType"\/n="bool"\/n="int"\/n="str"\/n="tuple"\/n="list"\/n="dict"):kit0 n "int"=bH (decide (n="int")||decide (n="bool")):=by
 let rfl||rfl||rfl||rfl||rfl||rfl||rfl:=h<;>decide +kernel
noncomputable def isS:Z->Bool
 |.str _=>kz
 |_=>kQ
noncomputable def isB:Z->Bool
 |.bl _=>kz
 |_=>kQ
noncomputable def isI:Z->Bool
 |.int _=>kz
 |.bl _=>kz
 |_=>kQ
def c0t(h:Th G x)(q:R (.bl (isS x)) G):zIsT [x,.ty "str"] G R:=by
 let(n,k):=h.kd;show(n,_,k.ty,b5d k.is,?_);let e:decide (n="str")=isS x:=by
  let:=k.ty
  cases x with
  |ref p=>let(ws,e)||(ws,e):=h<;>(simp[tyN,e]at this;subst this;change _=kQ;decide)
  |_=>first | (cases this;change _=kQ;decide;done) | (cases this;change _=kz;decide;done) |show bj h
 rw[e];show q
def b8r(h:Th G x)(q:R (.bl (isB x)) G):zIsT [x,.ty "bool"] G R:=by
 let(n,k):=h.kd;show(n,_,k.ty,b2n k.is,?_);let e:decide (n="bool")=isB x:=by
  let:=k.ty
  cases x with
  |ref p=>let(ws,e)||(ws,e):=h<;>(simp[tyN,e]at this;subst this;change _=kQ;decide)
  |_=>first | (cases this;change _=kQ;decide;done) | (cases this;change _=kz;decide;done) |show bj h
 rw[e];show q
def b8s(h:Th G x)(q:R (.bl (isI x)) G):zIsT [x,.ty "int"] G R:=by
 let(n,k):=h.kd;show(n,_,k.ty,b5e k.is,?_);let e:(decide (n="int")||decide (n="bool"))=isI x:=by
  let:=k.ty
  cases x with
  |ref p=>let(ws,e)||(ws,e):=h<;>(simp[tyN,e]at this;subst this;change _=kQ;decide)
  |_=>first | (cases this;change _=kQ;decide;done) | (cases this;change _=kz;decide;done) |show bj h
 rw[e];show q
noncomputable def okC(c:Nat):Bool:=decide (97<=c)&&decide (c<=122)
noncomputable def a2F:Z->Bool
 |.str s=>decide (1<=s.length)&&decide (s.length<=8)&&s.cps.toList.all okC
 |_=>kQ
noncomputable def momB:Z->Bool
 |.int i=>decide (0<=i)&&decide (i<=1000000000000)
 |_=>kQ
def a4E:momB (.int i)=(decide (0<=i)&&decide (i<=1000000000000)):=rfl
noncomputable def strB(x y:Z):Bool:=momB x&&match y with
 |.non=>kz
 |.int j=>momB (.int j)&&match x with |.int i=>decide (i<j) |_=>kQ
 |_=>kQ
def spB1(f:Z->Bool):P3:=λws G R=>∃x,ws=[x]/\Th G x/\∀G',Sm G G'->R (.bl (f x)) G'
def b8t(h:spB1 f ws G R):ws.length=1:=by let(_,rfl,_):=h;rfl
def spB2(f:Z->Z->Bool):P3:=λws G R=>∃x y,ws=[x,y]/\Th G x/\Th G y/\∀G',Sm G G'->R (.bl (f x y)) G'
def c0u(h:spB2 f ws G R):ws.length=2:=by let(_,_,rfl,_):=h;rfl
abbrev a5x:P3:=spB1 a2F
abbrev a3I:P3:=spB1 momB
abbrev a3w:P3:=spB2 strB
def b0y(a b:Nat):ltS ⟨#[a]⟩ ⟨#[b]⟩=decide (a<b):=by
 by_cases h:a<b
 .rw[decide_eq_true h];show decide_eq_true (gC.mpr (.inl h))
 .rw[decide_eq_false h];show decide_eq_false λq=>?_;let q||q:=gC.mp q
  .simp_all
  .simp_all
def strA:(Str.ofString "a")=⟨#[97]⟩:=by decide +kernel
def strZ:(Str.ofString "z")=⟨#[122]⟩:=by decide +kernel
def b2o(x:Str)(g:Nat->Option Z)(f:Z->Option Z)(h:∀c,f (.str ⟨#[c]⟩)=g c):(a2W x).filterMap f=x.cps.toList.filterMap g:=by
 unfold a2W;rw[eS]
 congr 1
 funext c
 show h c
def b0z(h:x.length<=1000):(a2W x).length<=1000:=by unfold a2W;rw[a9,bI];show h
def b8u(l:List Nat):(l.filterMap λc=>bH (Z.bl (okC c)))=(l.map okC).map Z.bl:=by simp
def b5f(l:List Nat):(l.map okC).all id=l.all okC:=by simp
def a3b:a2F (.str s)=(decide (1<=s.length)&&decide (s.length<=8)&&s.cps.toList.all okC):=rfl
def a5y(T:Txt K mg a):Cal P w K mg base CX0 1 "is_name" (lowP K a5x):=by
 show fnc 1 (N:=["thing"]) T.br (T.f 0 _ rfl) ?_ (len:=λws G R h=>(by show b8t h));walk_at "in";show(_,(a0c (by ac_rfl)
  (a0c (by ac_rfl)
  (a0A (a16 (q_B (b68 rfl) (T.b 0) (q_k (q_l ["sign"] [gV] (.nm 0) (hi:=(b7a (qv 0)))) a0x)))))),?_)
 let(x,rfl,g,q):=h;lk;show c0t g ?_;lk;show ifNB (λc=>?_) λc=>?_
 .lk;let e:a2F x=kQ:=by cases x<;>first |rfl |cases c
  let:=q G (Sm.refl G)
  rw[e]at this;show this
 .obtain⟨s,rfl⟩:∃s,x=.str s:=by cases x<;>first |show(_,rfl) |cases c
  let d:okS s:=g;lk;show a9q (a0H d.1) ?_;lk;let j:a2F (.str s)=kQ->R (.bl kQ) G:=λe=>by let:=q G (Sm.refl G);rw[e]at this;show this
  show ifD (λm=>?_) λm=>?_
  .lk;show j (by rw[a3b,decide_eq_false (show ¬ 1<=s.length by lia)];rfl)
  .lk;show a9q (a0H d.1) ?_;lk;show ifD (λo=>?_) λo=>?_
   .lk;show j (by rw[a3b,decide_eq_false (show ¬ s.length<=8 by lia),dN];rfl)
   .lk;ext D n;show b36 (λx=>match x with |.str z=>bH (.bl (!ltS z (Str.ofString "a")&&!ltS (Str.ofString "z") z)) |_=>gV) (λ_=>True.intro) (b0z d.1) ?_ ?_
    .ext x i v t p k u;unfold a2W at i;let(c,_,rfl):=bC.mp i;show(_,rfl,?_);lk;show ifB (λz=>?_) λz=>?_
     .lk;show k _ ?_;dsimp only;rw[z];rfl
     .show k _ ?_;dsimp only;rw[z];rfl
    .let e:(a2W s).filterMap (λx=>match x with |.str z=>bH (.bl (!ltS z (Str.ofString "a")&&!ltS (Str.ofString "z") z)) |_=>gV)=(s.cps.toList.map okC).map Z.bl:=by
      rw[b2o s (λc=>bH (.bl (okC c))) _ λc=>?_,b8u];dsimp only;rw[strA,strZ,b0y,b0y];unfold okC
      congr 2
      by_cases h1:c<97<;>by_cases h2:122<c<;>simp[h1,h2]<;>lia
     let l:a2F (.str s)=s.cps.toList.all okC:=by rw[a3b,decide_eq_true (show 1<=s.length by lia),decide_eq_true (show s.length<=8 by lia),cw,cw]
     show b9N (by rw[e];show a0a) ?_;rw[b5f,<- l];show q _ (Sm.new n)
def a3J(T:Txt K mg a):Cal P w K mg base CX0 1 "is_moment" (lowP K a3I):=by
 show fnc 1 (N:=["thing"]) T.br (T.f 1 _ rfl) ?_ (len:=λws G R h=>(by show b8t h));walk_at "in";show(_,(by ac_rfl),?_);let(x,rfl,hx,q):=h;let no:momB x=kQ->R (.bl kQ) G:=λe=>by let:=q G (Sm.refl G);rw[e]at this;show this
 lk;show b8r hx ?_;lk;show ifB (λc=>?_) λc=>?_
 .lk;show no (by cases x<;>first |rfl |cases c)
 .lk;show b8s hx ?_;lk;show ifNB (λc2=>?_) λc2=>?_
  .lk;show no (by cases x<;>first |rfl |cases c2)
  .obtain⟨i,rfl⟩:∃i,x=.int i:=by cases x<;>first |show(_,rfl) | (cases c;done) | (cases c2;done)
   lk;show ifD (λz=>?_) λz=>?_
   .lk
    let:=q G (Sm.refl G)
    rw[a4E,decide_eq_true z,cw]at this;show this
   .show no (by rw[a4E,decide_eq_false z];rfl)
def a3x(T:Txt K mg a):Cal P w K mg base CX0 2 "is_stretch" (lowP K a3w):=by
 show fnc 2 (N:=["begin","end"]) T.br (T.f 2 _ rfl) ?_ (len:=λws G R h=>(by show c0u h));walk_at "in";show(_,(by ac_rfl),?_);let(x,y,rfl,t,r,q):=h;lk;show(x,rfl,t,λC g=>?_);let m:∀d,Sm G d->strB x y=kQ->R (.bl kQ) d:=λd s e=>by let:=q d s;rw[e]at this;show this
 lk;show ifNB (λc=>?_) λc=>?_
 .lk;show m _ g (by unfold strB;rw[c];rfl)
 .lk;show ifD (λz=>?_) λz=>?_
  .lk
   let:=q _ g
   unfold strB at this;rw[c,z]at this;show this
  .lk;show(y,rfl,r.sm g,λB p=>?_);let k:=g.trans p;lk;show ifB (λf=>?_) λf=>?_
   .obtain⟨i,rfl⟩:∃i,x=.int i:=by cases x<;>first |show(_,rfl) |cases c
    obtain⟨j,rfl⟩:∃j,y=.int j:=by cases y<;>first |show(_,rfl) |cases f
    lk
    let:=q _ k
    unfold strB at this;rw[c]at this;dsimp only at this;rw[f,cw,cw]at this;show this
   .show m _ k ?_;unfold strB;rw[c,cw];cases y<;>first |rfl |show absurd rfl z | (dsimp only;rw[f];rfl)
def isL(c:Nat):Prop:=97<=c/\c<=122
def nmOk(s:Str):Prop:=1<=s.cps.toList.length/\s.cps.toList.length<=8/\∀c∈s.cps.toList,isL c
def a1w(s:Str):s.length=s.cps.toList.length:=by rw[bI];rfl
def b8L:(Str.ofString "abcdefghijklmnopqrstuvwxyz").cps.toList=[97,98,99,100,101,102,103,104,105,106,107,108,109,110,111,112,113,114,115,116,117,118,119,120,121,122]:=by decide +kernel
def b3k(h0:0<=k)(h1:k<26):atI (Str.ofString "abcdefghijklmnopqrstuvwxyz").cps.toList k=bH (97+k.toNat):=by
 let(j,rfl):=dC h0;let a:j<26:=by lia
 show a0O ?_
 let:∀j:Fin 26,([97,98,99,100,101,102,103,104,105,106,107,108,109,110,111,112,113,114,115,116,117,118,119,120,121,122])[j.1]?=bH (97+j.1):=by decide
 show this (j,a)
def a7f(h:∀c∈s.cps.toList,isL c):PyData.strOk s=kz:=by
 unfold PyData.strOk;rw[Array.all_eq_true_iff_forall_mem];ext c a
 let:=(h c (by simp_all)).2
 show decide_eq_true (by lia)
def a4F(h:nmOk s):flat n (.str s)=kz:=by
 let:=a7f h.2.2
 cases n<;>show this
def a2j(a b:Str):(a++b).cps.toList=a.cps.toList++b.cps.toList:=by
 change (a.cps++b.cps).toList=_
 rw[Array.toList_append]
def b5g:P3:=λws G R=>∃r,ws=[.ref r]/\RowAt G r/\∀s G',nmOk s->RowAt G' r->Kq r G G'->R (.str s) G'
set_option tactic.hygienic true in
def b5h(T:Txt K mg a):Cal P w K mg base CX0 2 "_law_name" (lowP K b5g):=by
 show fnc 1 (N:=["row","letters","name","k"]) T.br (T.f 23 _ rfl) ?_;walk_at "in";show(_,(by ac_rfl),?_);let(r,rfl,hR,q):=h;lk;show a1q hR (by decide) (by decide) λf y w f0 f1 ok=>?_;lk;show(by lia,by lia,?_);let hR1:RowAt (put G r (RowO y w)) r:=RowAt.at ok;show a0E (λi σ G'=>Ex2 λ(s:Str) (v:Option Z)=>An5 (s.cps.toList.length=i) (∀c∈s.cps.toList,isL c) (σ=[bH (.ref r),bH (.str (Str.ofString "abcdefghijklmnopqrstuvwxyz")),bH (.str s),v]) (RowAt G' r) (Kq r G G')) (Str.ofString "",_,by decide +kernel,λc h=>absurd h (by rw[show (Str.ofString "").cps.toList=[] by decide +kernel];simp),rfl,hR1,Kq.at) (λ_ _ _ _ _=>True.intro) ?_ ?_
 .ext i x σ G' hx ⟨s,v,hs,hl,rfl,hR',hK⟩;let(hi,rfl):=a2z hx;show(_,rfl,?_);lk;show a1q hR' (by decide) (by decide) λg y2 w2 g0 g1 ok2=>?_;show b4g (lenK rfl) (b3k g0 g1) ?_;show a9n (a0H (by rw[a1w,hs];change i+1<=1000;lia)) ?_;lk;show(_,_,?_,?_,rfl,RowAt.at ok2,hK.trans Kq.at)
  .rw[a2j,bu,hs];rfl
  .ext c hc;rw[a2j]at hc;let hc||hc:=be.mp hc
   .show hl c hc
   .let:c=97+g.toNat:=↑hc
    unfold isL
    lia
 .ext σ G' ⟨s,v,hs,hl,rfl,hR',hK⟩;rw[a1e]at hs;lk;show q s G' (by lia,by lia,hl) hR' hK
noncomputable def nx(L:List Nat)(p i:Nat):List Nat:=L.set p (97+(L.getD p 0-97+i) % 26)
noncomputable def nxS(L:List Nat)(p i:Nat):Str:=⟨(nx L p i).toArray⟩
def b5i(hp:p<L.length)(hl:∀c∈L,isL c):nx L p 0=L:=by
 unfold nx;let e:L.getD p 0=L[p]:=by simp_all
 let:=hl L[p] (cx hp)
 unfold isL at this;rw[e,eF,Nat.mod_eq_of_lt (by lia),show 97+_=L[p] by lia];show List.set_getElem_self hp
def b3l(hp:p<L.length):(nx L p i)[p]?=bH (97+(L.getD p 0-97+i) % 26):=by
 unfold nx;rw[dG hp]
def b8v(hp:p<L.length)(hi:i<26)(hj:j<26)(h:nxS L p i=nxS L p j):i=j:=by
 let a:nx L p i=nx L p j:=by
  unfold nxS at h
  let:=congrArg (λs:Str=>s.cps.toList) h
  o_head this
 let:=congrArg (·[p]?) a
 simp only[b3l hp,bH.injEq]at this
 lia
def a5z:(nx L p i).length=L.length:=by unfold nx;rw[eW]
def c0v(hl:∀c∈L,isL c):∀c∈nx L p i,isL c:=by grind [isL,nx]
def b5j(hp:p<L.length):(nx L p i).take p++[97+(L.getD p 0-97+i+1) % 26]++(nx L p i).drop (p+1)=nx L p (i+1):=by
 unfold nx;rw[fX (bd _),fW (by simp),List.set_eq_take_append_cons_drop,if_pos hp];simp[dz]
def b2p(h:isL c):a9J (Str.ofString "abcdefghijklmnopqrstuvwxyz") ⟨#[c]⟩=(c-97:Nat):=by
 let(a,b):=h
 let:∀j:Fin 26,a9J (Str.ofString "abcdefghijklmnopqrstuvwxyz") ⟨#[97+j.1]⟩=(j.1:Int):=by decide +kernel
 let:=this (c-97,by cbv)
 simp only at this;rw[show 97+(c-97)=c by lia]at this;show this
noncomputable def left(ns:List Str)(S:Nat->Str)(i:Nat):Nat:=(ns.filter λn=>(bG 26).any λj=>decide (i<=j)&&decide (n=S j)).length
theorem a5A{α:Type}{P Q:α->Bool}:∀{l:List α}{x:α},(∀y,Q y=kz->P y=kz)->x∈l->P x=kz->Q x=kQ->(l.filter Q).length<(l.filter P).length
 |y::l,x,h,hx,hp,hq=>by
  let b:∀l:List α,(l.filter Q).length<=(l.filter P).length:=by
   ext l
   induction l with
   |nil=>simp
   |cons z l a=>
    rw[cu,cu];cases hz:Q z with
    |true=>rw[h z hz];simp;show a
    |false=>cases P z<;>simp<;>cbv
  rw[cu,cu];let rfl||hx:=bf.mp hx
  .grind
  .let a:=a5A h hx hp hq;cases hz:Q y with
   |true=>rw[h y hz];simp;show a
   |false=>cases P y<;>simp<;>cbv
def b5k(hS:∀i j,i<26->j<26->S i=S j->i=j)(hi:i<26)(h:S i∈ns):left ns S (i+1)<left ns S i:=by
 show a5A (λy c=>?_) h ?_ ?_
 .let(j,b,a):=cK.mp c;simp at a;show cK.mpr (j,b,by simp;show(by lia,a.2))
 .show cK.mpr (i,cD.mpr hi,by simp)
 .rw[dI];ext j d;simp;ext b a
  let:=hS i j hi (cD.mp d) a
  lia
def b5l{ns:List Str}{S:Nat->Str}:left ns S 0<=ns.length:=fB _ _
def b2q{ns:List Str}:(Z.str s∈ns.map Z.str)=(s∈ns):=by simp
def a74{ns:List Str}(h:∀s∈ns,nmOk s):(ns.map Z.str).all (flat 8)=kz:=by
 rw[b5];ext x a;let(s,b,rfl):=bC.mp a;show a4F (h s b)
def b2r:P3:=λws G R=>∃r n,ws=[.ref r,.int n]/\RowAt G r/\1<=n/\n<=20/\∀(t:Addr)(ns:List Str)(G':Hq),G t=gV->G' t=bH (.lst (ns.map Z.str))->(ns.length:Int)=n->(∀s∈ns,nmOk s)->RowAt G' r->Kq r G G'->R (.ref t) G'
def RowAt.ne(h:RowAt G r)(n:G D=gV):r≠D:=by let(_,_,e,_):=h;show a0i e n
def RowAt.kq(h:RowAt G r)(k:Kq p G G')(n:r≠p):RowAt G' r:=by let(x,w,e,o):=h;show(x,w,k r _ e n,o)
def a0D(l:List Nat):(⟨l.toArray⟩:Str).cps.toList=l:=by simp
def b0A{a b:Str}(h:a.cps.toList=b.cps.toList):a=b:=by
 let⟨⟨x⟩⟩:=a;let⟨⟨y⟩⟩:=b;o_head h
abbrev ABC:Z:=.str (Str.ofString "abcdefghijklmnopqrstuvwxyz")
set_option tactic.hygienic true in
def b2s(T:Txt K mg a):Cal P w K mg base CX0 3 "_law_names" (lowP K b2r):=by
 show fnc 2 (N:=["row","many","letters","names","name","at","sign"]) T.br (T.f 24 _ rfl) ?_;walk_at "in";show(_,(a0c (by ac_rfl)
  (a0c (by ac_rfl)
  (a5S (a5T h9.never (by ac_rfl)
  (a0c (by ac_rfl)
  (a5S (by ac_rfl)
  (a0c (by ac_rfl)
  (a5S (a5T h9.never (by ac_rfl)
  (by ac_rfl))
  (by ac_rfl))))))
  (by ac_rfl)))),?_)
 let(r,n,rfl,hR,h1,h2,q):=h;lk;show(r,rfl,hR,λs0 G1 hs0 hR1 hK1=>?_);lk;show(lenK rfl,λt ht=>?_);lk;let hne:=hR1.ne ht;let ht0:G t=gV:=by
  cases e:G t with
  |none=>rfl
  |some o=>rw[hK1 t o e (Ne.symm hne)]at ht;cases ht
 show a5Y (fun σ' G'=>Ex4 λ(ns:List Str) (v1 v2 v3:Option Z)=>An6 ((ns.length:Int)=n) (∀s∈ns,nmOk s) (G' t=bH (.lst (ns.map Z.str))) (RowAt G' r) (Kq r G G') (σ'=[bH (.ref r),bH (.int n),bH ABC,bH (.ref t),v1,v2,v3])) ?_ ?_
 .show(λm σ' G'=>Ex4 λ(ns:List Str) (v1 v2 v3:Option Z)=>(ns.length:Int)+m=n/\1<=ns.length/\(∀s∈ns,nmOk s)/\G' t=bH (.lst (ns.map Z.str))/\RowAt G' r/\Kq r G G'/\σ'=[bH (.ref r),bH (.int n),bH ABC,bH (.ref t),v1,v2,v3],(n.toNat-1,[s0],_,_,_,by simp;lia,by simp,λs hs=>by rw[bg.mp hs];show hs0,a0a,hR1.new ht,hK1.trans (Kq.new ht),rfl),?_);ext m σ' G' ⟨ns,v1,v2,v3,hm,hpos,hns,hgt,hR',hK,rfl⟩;lk;show a2O hgt ?_;lk;rw[a9];show ifD (λc=>?_) λc=>?_
  .lk;obtain⟨a,as,ea⟩:∃a as,ns=a::as:=by cases ns with |nil=>simp at hpos |cons a as=>show(a,as,rfl)
   show a0y hgt (w:=.str a) (by rw[ea];show at0) ?_;lk;show a5Y (fun σ' G2=>Ex3 λ(s:Str) (v2 v3:Option Z)=>An5 (nmOk s) (G2 t=bH (.lst (ns.map Z.str))) (RowAt G2 r) (Kq r G G2) (σ'=[bH (.ref r),bH (.int n),bH ABC,bH (.ref t),bH (.str s),v2,v3])) ?_ ?_
   .lk;show a1q hR' (by decide) (by decide) λf y w f0 f1 ok=>?_;let gt2:put G' r (RowO y w) t=bH (.lst (ns.map Z.str)):=by rw[a0h (Ne.symm hne)];show hgt
    lk;show ifD (λ_=>?_) λ_=>?_
    .lk;show(r,rfl,RowAt.at ok,λs G3 hs hR3 hK3=>?_);lk;show(s,_,_,hs,hK3 _ _ gt2 (Ne.symm hne),hR3,(hK.trans Kq.at).trans hK3,rfl)
    .lk;show(a,_,_,hns a (by rw[ea];simp),gt2,RowAt.at ok,hK.trans Kq.at,rfl)
   .ext σ2 G2 ⟨s,u2,u3,hs,hgt2,hR2,hK2,rfl⟩;lk;show a9q (a0H (by rw[a1w];let:=hs.2.1;lia)) ?_;lk;show a1q (n:=(s.length:Int)) hR2 (by rw[a1w];let:=hs.1;lia) (by rw[a1w];let:=hs.2.1;lia) λf y w f0 f1 ok=>?_;let gt3:put G2 r (RowO y w) t=bH (.lst (ns.map Z.str)):=by rw[a0h (Ne.symm hne)];show hgt2
    let hR3:RowAt (put G2 r (RowO y w)) r:=RowAt.at ok;let hK3:Kq r G (put G2 r (RowO y w)):=hK2.trans Kq.at
    generalize put G2 r (RowO y w)=G3 at gt3 hR3 hK3 ⊢;let(p,rfl):=dC f0;let hp:p<s.cps.toList.length:=by rw[a1w]at f1;lia
    lk;show a5Y (fun σ' G'=>Ex2 λ(s:Str) (v3:Option Z)=>An3 (nmOk s) (G'=G3) (σ'=[bH (.ref r),bH (.int n),bH ABC,bH (.ref t),bH (.str s),bH (.int p),v3])) ?_ ?_
    .let hS:∀i j,i<26->j<26->nxS s.cps.toList p i=nxS s.cps.toList p j->i=j:=λi j hi hj h=>b8v hp hi hj h;show(λm σ' G'=>∃(i:Nat)(v3:Option Z),m=left ns (nxS s.cps.toList p) i/\i+m<=ns.length/\G'=G3/\σ'=[bH (.ref r),bH (.int n),bH ABC,bH (.ref t),bH (.str (nxS s.cps.toList p i)),bH (.int p),v3],(_,0,_,rfl,by let:=@b5l ns (nxS s.cps.toList p);lia,rfl,by rw[show nxS s.cps.toList p 0=s from b0A (by unfold nxS;rw[a0D,b5i hp hs.2.2])];rfl),?_);ext m' σ' G' ⟨i,v3,rfl,hle,rfl,rfl⟩;let hnm:nmOk (nxS s.cps.toList p i):=by
      unfold nxS;show(?_,?_,?_)
      .rw[a0D,a5z];show hs.1
      .rw[a0D,a5z];show hs.2.1
      .rw[a0D];show c0v hs.2.2
     lk;show b9P gt3 (a4F hnm) (a74 hns) ?_;lk;show ifD (λc=>?_) λc=>?_
     .rw[b2q]at c;let hi:i<26:=by lia
      let hlt:=b5k hS hi c;let hsz:(nxS s.cps.toList p i).length<=sizeLine:=a0H (by rw[a1w];let:=hnm.2.1;lia);let hcl:(nxS s.cps.toList p i).cps.toList=nx s.cps.toList p i:=a0D _;let hch:isL (97+(s.cps.toList.getD p 0-97+i) % 26):=by unfold isL;lia
      lk;show b4g hsz (a0O (by rw[hcl];show b3l hp)) ?_;lk;show i_I (show (0:Int)<26 by decide) ?_;rw[b2p hch];show b4g (lenK rfl) (b3k (by lia) (by lia)) ?_;let hk:97+((((97+(s.cps.toList.getD p 0-97+i) % 26-97:Nat):Int)+1) % 26).toNat=97+(s.cps.toList.getD p 0-97+i+1) % 26:=by lia
      rw[hk];lk;show b7o hsz ?_;lk;show a9n (a0H ?_) ?_
      .let:=Txt.slice_le (nxS s.cps.toList p i) gV (bH (p:Int))
       rw[a1w]at this;let h8:=hnm.2.1
       change (Txt.slice (nxS s.cps.toList p i) gV (bH (p:Int))).length+1<=1000
       rw[a1w];rw[a1w]at this
       lia
      lk;show b7o hsz ?_;let e1:Txt.slice (nxS s.cps.toList p i) gV (bH (p:Int))=⟨((nx s.cps.toList p i).take p).toArray⟩:=by
       let:=eq_of_beq (PyProof.Rows.slice_closes_to (x:=nxS s.cps.toList p i) (j:=(p:Int)) (by lia,by rw[hcl,a5z];lia))
       rw[this,hcl];simp
      let e2:Txt.slice (nxS s.cps.toList p i) (bH ((p:Int)+1)) gV=⟨((nx s.cps.toList p i).drop (p+1)).toArray⟩:=by
       let:=PyProof.Rows.slice_from_eq (x:=nxS s.cps.toList p i) (i:=(p:Int)+1) (b:=((nxS s.cps.toList p i).length:Int)) (by lia) (by rw[a1w,hcl,a5z];lia) rfl
       rw[this,hcl,a1w,hcl];rw[cj (by rw[bZ];lia)]
       rfl
      show a9n (a0H ?_) ?_
      .let a1:(Txt.slice (nxS s.cps.toList p i) gV (bH (p:Int))).length=p:=by
        rw[e1,a1w,a0D,bE,a5z];lia
       let a2:=Txt.slice_le (nxS s.cps.toList p i) (bH ((p:Int)+1)) gV;rw[a1w (nxS s.cps.toList p i)]at a2;let a3:(Txt.slice (nxS s.cps.toList p i) gV (bH (p:Int))++(⟨#[97+(s.cps.toList.getD p 0-97+i+1) % 26]⟩:Str)).length=p+1:=by
        rw[a1w,a2j,bu,<- a1w,a1];rfl
       rw[a3]
       let:=hnm.2.1
       let:=hs.2.1
       lia
      let e3:Txt.slice (nxS s.cps.toList p i) gV (bH (p:Int))++(⟨#[97+(s.cps.toList.getD p 0-97+i+1) % 26]⟩:Str)++Txt.slice (nxS s.cps.toList p i) (bH ((p:Int)+1)) gV=nxS s.cps.toList p (i+1):=by
       show b0A ?_;rw[a2j,a2j,e1,e2,a0D,a0D];unfold nxS;rw[a0D,<- b5j hp]
      rw[e3];lk;show(_,hlt,i+1,_,rfl,by lia,rfl,rfl)
     .show(_,_,hnm,rfl,rfl)
    .ext σ4 G4 ⟨s4,v3,hs4,rfl,rfl⟩;lk;show a0Y gt3 ?_;lk;show a0v gt3 (by rw[a9];show a0d (by lia)) ?_;show(m-1,by lia,ns++[s4],_,_,_,by simp;lia,by simp,λs h=>?_,by rw[a0a,bp];rfl,?_,?_,rfl)
     .let h||h:=be.mp h
      .show hns s h
      .rw[bg.mp h];show hs4
     .show hR3.kq Kq.at hne
     .show λb o e nb=>by
       let hb:=hK3 b o e nb;rw[a0h]
       .show hb
       .ext rfl;rw[ht0]at e;cases e
  .show(ns,_,_,_,by lia,hns,hgt,hR',hK,rfl)
 .ext σ' G' ⟨ns,v1,v2,v3,hm,hns,hgt,hR',hK,rfl⟩;lk;show q t ns G' ht0 hgt hm hns hR' hK
noncomputable def T12:Int:=1000000000000
def stOk(b:Int)(e:Option Int):Prop:=0<=b/\b<=T12/\∀x,e=bH x->b<x/\x<=T12
noncomputable def stOk.bef(h:stOk b e):bef b e=kz:=by
 cases e with
 |none=>rfl
 |some x=>simp only[Lw.bef,decide_eq_true_eq];show (h.2.2 x rfl).1
def a75:P3:=λws G R=>∃r,ws=[.ref r]/\RowAt G r/\∀b e G',stOk b e->RowAt G' r->Kq r G G'->R (.tup [.int b,oz e]) G'
def at6{a b c d e f:Int}{k:Int}(h0:0<=k)(h1:k<6){P:Int->Prop}(pa:P a)(pb:P b)(pc:P c)(pd:P d)(pe:P e)(pf:P f):∃n,atI [Z.int a,.int b,.int c,.int d,.int e,.int f] k=bH (.int n)/\P n/\(k=0->n=a)/\(k=1->n=b):=by
 let:k=0\/k=1\/k=2\/k=3\/k=4\/k=5:=by cbv
 let rfl||rfl||rfl||rfl||rfl||rfl:=this
 .show(_,rfl,pa,λ_=>rfl,λh=>absurd h (by decide))
 .show(_,rfl,pb,λh=>absurd h (by decide),λ_=>rfl)
 .show(_,rfl,pc,λh=>absurd h (by decide),λh=>absurd h (by decide))
 .show(_,rfl,pd,λh=>absurd h (by decide),λh=>absurd h (by decide))
 .show(_,rfl,pe,λh=>absurd h (by decide),λh=>absurd h (by decide))
 .show(_,rfl,pf,λh=>absurd h (by decide),λh=>absurd h (by decide))
def b2t:(10:Int) ^ (12:Int).toNat=1000000000000:=by decide
set_option tactic.hygienic true in
def a76(T:Txt K mg a):Cal P w K mg base CX0 2 "_law_stretch" (lowP K a75):=by
 show fnc 1 (N:=["row","kind","begin","end"]) T.br (T.f 25 _ rfl) ?_;walk_at "in";show(_,(a0c (by ac_rfl)
  (a0c (by ac_rfl)
  (a5S (by ac_rfl)
  (by ac_rfl)))),?_)
 let(r,rfl,hR,q):=h;lk;show a1q hR (by decide) (by decide) λkd y w d0 d1 ok=>?_;let hR1:RowAt (put G r (RowO y w)) r:=RowAt.at ok;let hK1:Kq r G (put G r (RowO y w)):=Kq.at
 generalize put G r (RowO y w)=G1 at hR1 hK1 ⊢;lk;show i_I (by decide,by decide,by decide) ?_;rw[b2t];lk;show(lenK rfl,λa ha=>?_);lk;let(n,hn,(hn0,hn1),hn2,hn3):=at6 (a:=1000000000000+1) (b:=12) (c:=20) (d:=20) (e:=20) (f:=20) (P:=λn=>0<n/\n<=1000000000001) d0 d1 (by decide) (by decide) (by decide) (by decide) (by decide) (by decide);show a0y a0a hn ?_;lk;show a1q (n:=n) (hR1.new ha) hn0 (by lia) λf y2 w2 f0 f1 ok2=>?_;let hK2:Kq r G (put (put G1 a (.lst [.int (1000000000000+1),.int 12,.int 20,.int 20,.int 20,.int 20])) r (RowO y2 w2)):=(hK1.trans (Kq.new ha)).trans Kq.at
 let hR2:RowAt (put (put G1 a (.lst [.int (1000000000000+1),.int 12,.int 20,.int 20,.int 20,.int 20])) r (RowO y2 w2)) r:=RowAt.at ok2;generalize put (put G1 a (.lst [.int (1000000000000+1),.int 12,.int 20,.int 20,.int 20,.int 20])) r (RowO y2 w2)=G2 at hR2 hK2 ⊢;lk;show a5Y (fun σ' G'=>∃(b:Int),An4 (0<=b) (b<=T12) (G'=G2) (σ'=[bH (.ref r),bH (.int kd),bH (.int b),gV])) ?_ ?_
 .lk;show ifD (λc=>?_) λc=>?_
  .lk;show i_I (by decide,by decide,by decide) ?_;rw[b2t];lk
   let:=hn3 c
   show(1000000000000-f,by lia,by unfold T12;lia,rfl,rfl)
  .lk;show(f,f0,by unfold T12;lia,rfl,rfl)
 .ext σ' G' ⟨b,hb0,hb1,rfl,rfl⟩;lk;show a1q hR2 (by decide) (by decide) λkd2 y3 w3 e0 e1 ok3=>?_;let hR3:RowAt (put G' r (RowO y3 w3)) r:=RowAt.at ok3;let hK3:Kq r G (put G' r (RowO y3 w3)):=hK2.trans Kq.at
  generalize put G' r (RowO y3 w3)=G3 at hR3 hK3 ⊢;lk;show i_I (by decide,by decide,by decide) ?_;rw[b2t];lk;show(lenK rfl,λa2 ha2=>?_);lk;let(n2,hm,(hm0,hm1),_,_):=at6 (a:=1000000000000) (b:=1) (c:=4) (d:=12) (e:=30) (f:=30) (P:=λn=>0<n/\n<=1000000000001) e0 e1 (by decide) (by decide) (by decide) (by decide) (by decide) (by decide);show a0y a0a hm ?_;lk;show a1q (n:=n2) (hR3.new ha2) hm0 (by lia) λf2 y4 w4 g0 g1 ok4=>?_;let hK4:=(hK3.trans (Kq.new (o:=.lst [.int 1000000000000,.int 1,.int 4,.int 12,.int 30,.int 30]) ha2)).trans (Kq.at (o:=RowO y4 w4));lk;show i_I (by decide,by decide,by decide) ?_;rw[b2t];lk;show ifD (λc=>?_) λc=>?_
  .lk;show(lenK rfl,?_);show q b gV _ (hb0,hb1,λx h=>nomatch h) (RowAt.at ok4) hK4
  .lk;show ifD (λc2=>?_) λc2=>?_
   .lk;show(lenK rfl,?_);show q b gV _ (hb0,hb1,λx h=>nomatch h) (RowAt.at ok4) hK4
   .lk;show(lenK rfl,?_);show q b (bH (b+1+f2)) _ (hb0,hb1,λx h=>?_) (RowAt.at ok4) hK4;cases h;unfold T12
    lia
def a6k:P3:=λws G R=>∃p puts t,ws=[.ref p,.int t]/\G p=bH (.lst (puts.map Rw.z))/\One puts/\R (lastAt puts t) G
set_option tactic.hygienic true in
def a6l(T:Txt K mg a):Cal P w K mg base CX0 1 "_law_worth_at" (lowP K a6k):=by
 show fnc 2 (N:=["puts","moment","begin","end","worth"]) T.br (T.f 26 _ rfl) ?_;walk_at "in";show(_,(a0c (a1K (pt:=(.tp [2,3,4])) h9.never rfl (a3r rfl (T.b 11) (q_k (qv 0) a0x)) (by ac_rfl)
  (by ac_rfl))
  (by ac_rfl)),?_)
 let(p,puts,t,rfl,hp,h1,q):=h;lk;show(p,_,rfl,hp,?_);rw[<- gE];show a0E (λi σ G'=>Ex3 λ(v1 v2 v3:Option Z)=>An3 (∀(j:Nat) r,j<i->puts.reverse[j]?=bH r->r.has t=kQ) (σ=[bH (.ref p),bH (.int t),v1,v2,v3]) (G'=G)) (_,_,_,λj r hj=>by lia,rfl,rfl) (by ext i σ G' _ ⟨_,_,_,_,_,e⟩;show by rw[e];show hp) ?_ ?_
 .ext i x σ G' hx ⟨v1,v2,v3,hall,rfl,rfl⟩;rw[bo]at hx;cases hx':puts.reverse[i]? with
  |none=>rw[hx']at hx;cases hx
  |some r=>
   rw[hx']at hx;cases hx;let(x,ex):=h1 r (by let:=bB hx';o_head this);let hfind:r.has t=kz->lastAt puts t=x:=λhh=>by
    unfold lastAt
    let:puts.reverse.find? (·.has t)=bH r:=by
     rw[List.find?_eq_some_iff_getElem];let(hi,e):=bh.mp hx';show(hh,i,hi,e,λj hj=>by
      rw[hall j _ hj (bn (by lia))];rfl)
    rw[this]
    change r.w.headD .non=x
    rw[ex];rfl
   let hno:r.has t=kQ->∀(j:Nat) r,j<i+1->puts.reverse[j]?=bH r->r.has t=kQ:=λhh j s hj e=>by
    by_cases hji:j<i
    .show hall j s hji e
    .let:j=i:=by lia
     subst this;rw[hx']at e;cases e;show hh
   let(b,e,w):=r;cases ex;show(_,rfl,?_);lk;show ifD (λc=>?_) λc=>?_
   .cases e with
    |none=>
     lk
     let:=hfind (by unfold Rw.has bef;o_head c)
     rw[this]at q;show q
    |some e=>
     lk;show ifD (λc2=>?_) λc2=>?_
     .lk
      let:=hfind (by unfold Rw.has bef;simp[c,c2])
      rw[this]at q;show q
     .lk;show(_,_,_,hno (by unfold Rw.has bef;simp[c2]),rfl,rfl)
   .show ifF ?_;lk;show(_,_,_,hno (by unfold Rw.has;simp[c]),rfl,rfl)
 .ext σ G' ⟨v1,v2,v3,hall,rfl,rfl⟩;lk
  let:lastAt puts t=.non:=by
   unfold lastAt
   let:puts.reverse.find? (·.has t)=gV:=by
    rw[dB];ext r hr;let(j,hj):=cb hr;let hlt:=(bh.mp hj).1;rw[hall j r (by rw[a9];show hlt) hj]
    decide
   rw[this]
  rw[this]at q;show q
def a77(kvs:List (Key×Z))(ns:List Int):Prop:=kvs.map (·.1)=ns.map λi=>Sum.inl (bH i)
def a7g{kvs:List (Key×Z)}{ns:List Int}(h:a77 kvs ns)(hd:ns.Nodup)(x:Int)(v:Z):∃ms,a77 (putZ kvs (.inl (bH x)) v) ms/\ms.Nodup/\ms.length<=ns.length+1/\∀y,y∈ms↔y∈ns\/y=x:=by
 unfold putZ;let hany:(kvs.any λkv=>decide (kv.1=Sum.inl (bH x)))=decide (x∈ns):=by
  rw[cS];simp only[cK,decide_eq_true_eq]
  constructor
  .ext⟨kv,h1,h2⟩
   let:kv.1∈ns.map (λi=>(Sum.inl (bH i):Key)):=by rw[<- h];show bV h1
   let(n,h3,h4):=bC.mp this;rw[h2]at h4;cases h4;show h3
  .ext hx
   let:Sum.inl (bH x)∈kvs.map (·.1):=by rw[h];show bV hx
   let(kv,h3,h4):=bC.mp this;show(kv,h3,h4)
 rw[hany]
 by_cases hx:x∈ns
 .rw[decide_eq_true hx,if_pos rfl];show(ns,?_,hd,by lia,λy=>(.inl,λh=>h.elim id λe=>e▸hx));unfold a77 at h ⊢;rw[<- h,de];show ft λkv _=>?_
  change (if kv.1=Sum.inl (bH x) then (kv.1,v,) else kv).1=kv.1
  split<;>rfl
 .rw[decide_eq_false hx,if_neg (by decide)];show(ns++[x],?_,?_,by simp,λy=>by simp)
  .unfold a77;rw[bp,h,bp];rfl
  .rw[cH];show(hd,by simp,λa ha b hb=>by rw[bg.mp hb];ext rfl;show hx ha)
def b0B{ms:List Int}(h:ms.Pairwise (·<=·))(hd:ms.Nodup):ms.Pairwise (·<·):=by
 let:=h.and hd
 show this.imp λ(a,b)=>by lia
def a7h(h:a77 kvs ns):kvs.length=ns.length:=by
 let:=congrArg bL h
 o_head this
def b0C:P3:=λws G R=>∃p rows,ws=[.ref p]/\G p=bH (.lst (rows.map Rw.z))/\rows.length<=400/\∀(t:Addr)(ms:List Int)(G':Hq),G t=gV->Sm G G'->G' t=bH (.lst (ms.map Z.int))->a0X rows ms->ms.length<=2*rows.length->R (.ref t) G'
def a2k{α:Type}{l:List α}{i:Nat}{x:α}(h:l[i]?=bH x){P:α->Prop}:(∃r∈l.take (i+1),P r)↔(∃r∈l.take i,P r)\/P x:=by
 rw[cG,h]
 constructor
 .ext⟨r,hr,hp⟩;let hr||hr:=be.mp hr
  .show .inl (r,hr,hp)
  .let:r=x:=↑hr
   show .inr (this▸hp)
 .ext (⟨r,hr,hp⟩ |hp)
  .show(r,by simp[hr],hp)
  .show(x,by simp,hp)
set_option tactic.hygienic true in
def b0D(T:Txt K mg a):Cal P w K mg base CX0 1 "_law_bounds" (lowP K b0C):=by
 show fnc 1 (N:=["rows","found","row"]) T.br (T.f 27 _ rfl) ?_;walk_at "in";show(_,(a0c (z_st (nmI 1 nd) a9l)
  (a0c (a1K (pt:=(.nm 2)) h9.never rfl (by ac_rfl) (p_nm (nmI 2 nd))
  (a0c (a2N q_bl (qv 1) (by ac_rfl) (a9N hu))
  (a0A (z_if (by ac_rfl)
  (a0A (a2N q_bl (qv 1) (by ac_rfl) (a9N hu)))
  a1S))))
  (a0A (a16 (q_B (b1R rfl) (T.b 8) (q_k (qv 1) a0x)))))),?_)
 let(p,rows,rfl,hp,hz,q):=h;lk;ext d hd;lk;show a1u (a0b hp hd) ?_;show a0E (λi σ G'=>Ex3 λ(v:Option Z) (kvs:List (Key×Z)) (ns:List Int)=>An6 (a77 kvs ns) ns.Nodup (ns.length<=2*i) (∀x,x∈ns↔∃r∈rows.take i,x=r.b\/r.e=bH x) (σ=[bH (.ref p),bH (.ref d),v]) (G'=put G d (.dK kvs))) (_,[],[],rfl,.nil,by simp,λx=>by simp,rfl,rfl) (by ext i σ G' _ ⟨_,_,_,_,_,_,_,_,e⟩;show by rw[e];show a0b hp hd) ?_ ?_
 .ext i x σ G' hx ⟨v,kvs,ns,hk,hnd,hl,hmem,rfl,rfl⟩;rw[bo]at hx;cases hx':rows[i]? with
  |none=>rw[hx']at hx;cases hx
  |some r=>
   rw[hx']at hx;cases hx;let hi:=(bh.mp hx').1;show(_,rfl,?_);let(b,e,w):=r;lk;show a05 at0 ?_;let(ms,hk1,hd1,hl1,hm1):=a7g hk hnd b (.bl kz);show a9O a0a rfl (by rw[a7h hk];show a0d (by lia)) ?_;rw[a1A];generalize putZ kvs (.inl (bH b)) (.bl kz)=kvs1 at hk1 ⊢;cases e with
   |none=>
    lk;show a05 at1 ?_;lk;show(_,kvs1,ms,hk1,hd1,by lia,λx=>?_,rfl,rfl);rw[hm1,hmem,a2k hx'];simp
   |some e=>
    lk;show a05 at1 ?_;lk;show a05 at1 ?_;let(ms2,hk2,hd2,hl2,hm2):=a7g hk1 hd1 e (.bl kz);show a9O a0a rfl (by rw[a7h hk1];show a0d (by lia)) ?_;rw[a1A];show(_,_,ms2,hk2,hd2,by lia,λx=>?_,rfl,rfl);rw[hm2,hm1,hmem,a2k hx'];simp only[bH.injEq]
    constructor
    .ext ((h |h) |h)
     .show .inl h
     .show .inr (.inl h)
     .show .inr (.inr h.symm)
    .ext (h |h |h)
     .show .inl (.inl h)
     .show .inl (.inr h)
     .show .inr h.symm
 .ext σ G' ⟨v,kvs,ns,hk,hnd,hl,hmem,rfl,rfl⟩;rw[a9]at hl hmem;rw[cm]at hmem;lk;show a9Q a0a hk (by lia) λt ms ht hperm hpw=>?_;show q t ms _ ((Sm.new (o:=.dK kvs) hd).free ht) ((Sm.new (o:=.dK kvs) hd).trans (Sm.new ht)) a0a (b0B hpw (hperm.nodup_iff.mpr hnd),λx=>?_) (by rw[hperm.length_eq];show hl);rw[hperm.mem_iff];show hmem x
def a6m(h1:flat 8 x=kz)(h2:flat 8 y=kz)(h:R (.bl (f (decide (x=y)))) G):zEq f x y G R:=by
 cases x<;>cases y<;>first
  |show(h1,h2,h)
  | (simp at h1;done)
  | (simp[flat]at h2;done)
  | (rw[a0m (Z.int.injEq _ _)]at h;show h)
  | (rw[a0m (Z.str.injEq _ _)]at h;show h)
noncomputable def LT:List Z:=[.ty "list",.ty "tuple"]
def i_lt{G:Hq}{R:K3}{x:Z}{n:String}{b:Bool}(e:tyN G x=bH n)(k:kitA n ["list","tuple"]=bH b)(h:R (.bl b) G):b4v [x,.tup [.ty "list",.ty "tuple"]] G R:=b7J (Ts:=["list","tuple"]) e k h
def b3m{G:Hq}{R:K3}{x:Z}{xs:List Z}(e:srcZ G x=bH xs)(h:R (.int xs.length) G):zLen [x] G R:=by
 cases x with
 |ref p=>
  simp only[srcZ]at e;cases hp:G p with
  |none=>rw[hp]at e;cases e
  |some o=>rw[hp]at e;cases o with
   |lst ws=>cases e;show(_,hp,h)
   |_=>cases e
 |tup ws=>cases e;show h
 |_=>cases e
def a7i:Nat->P3
 |0=>λ_ _ _=>False
 |d+1=>λws G R=>∃x y,ws=[x,y]/\((flat d x=kz/\flat d y=kz/\R (.bl (decide (x=y))) G) \/
  Ex4 λp q xs ys=>x=.ref p/\y=.ref q/\1<=d/\G p=bH (.lst xs)/\G q=bH (.lst ys)/\xs.all (flat (d-1))=kz/\ys.all (flat (d-1))=kz/\R (.bl (decide (xs=ys))) G)
abbrev b5m:P3:=a7i 3
def zip2{xs ys:List Z}{i:Nat}{w:Z}(h:(zipZ [xs,ys])[i]?=bH w):∃a b,w=.tup [a,b]/\xs[i]?=bH a/\ys[i]?=bH b:=by
 let(vs,rfl,e):=(a08 [xs,ys] (by simp) i w).mp h
 match vs,e with
 |[],e=>simp at e
 |[_],e=>simp at e
 |[a,b],e=>
  simp only[bx,bN,b9.injEq,and_true]at e;show(a,b,rfl,e.1,e.2)
 |_::_::_::_,e=>simp at e
def a6n{xs ys:List Z}(h:xs.length=ys.length):(zipZ [xs,ys]).length=xs.length:=by
 let key:∀i,(∃w,(zipZ [xs,ys])[i]?=bH w)↔i<xs.length:=λi=>by
  constructor
  .ext⟨w,hw⟩;let(a,b,_,ha,_):=zip2 hw;show (bh.mp ha).1
  .ext hi;show(.tup [xs[i],ys[i]'(by lia)],(a08 [xs,ys] (by simp) i _).mpr (_,rfl,?_));simp only[bx,bN,b9.injEq,and_true];show(bn hi,bn (by lia))
 let h1:=key (zipZ [xs,ys]).length;let h2:=key xs.length
 by_cases c:(zipZ [xs,ys]).length<xs.length
 .let(w,hw):=h1.mpr c
  let:=(bh.mp hw).1
  lia
 .by_cases c2:xs.length<(zipZ [xs,ys]).length
  .let:=h2.mp (_,bn c2)
   lia
  .lia
def a6o(T:Txt K mg a):Cal P w K mg base CX0 3 "_law_same" (lowP K b5m):=by
 show Nat.rec (motive:=λd=>Cal P w K mg base CX0 (0+d) "_law_same" (lowP K (a7i d))) (fnc0 2 (N:=["found","due","one","other"]) T.br (T.f 29 _ rfl) λws G R h=>h) (λd G_same=>?_) 3;show fnc 2 (N:=["found","due","one","other"]) (k:=0+d) T.br (T.f 29 _ rfl) ?_ (len:=λws G R h=>(by let(_,_,rfl,_):=h;rfl));walk_at "in";show(_,(a0c (z_if (a7F (q_B b27 (T.b 1) (by ac_rfl)))
  (a0c (z_if (QW.qt (q_or (by ac_rfl) (b1m (a4Y (a7F (q_B b27 (T.b 1) (by ac_rfl)))))))
  (by ac_rfl)
  a1S)
  (a0c (by ac_rfl)
  (a0c (a1K (pt:=(.tp [2,3])) h9.never rfl (a9U (n:=2) zok2 (by decide) rfl (T.b 10) (q_k (qv 0) (q_k (qv 1) a0x)) (he:=se_ rfl) (hpl:=hp_ rfl)) (by ac_rfl)
  (a0A (z_if (a4Y (a7F (q_c G_same hr (q_k (qv 2) (q_k (qv 3) a0x)) (hk:=by lia))))
  (by ac_rfl)
  a1S)))
  (by ac_rfl))))
  a1S)
  (by ac_rfl)),?_)
 let(x,y,rfl,h):=h
 by_cases pr:Ex4 λ(n:String) (d':Nat) (xs ys:List Z)=>d=d'+1/\(n="list"\/n="tuple")/\tyN G x=bH n/\tyN G y=bH n/\srcZ G x=bH xs/\srcZ G y=bH ys/\xs.all (flat d')=kz/\ys.all (flat d')=kz/\R (.bl (decide (xs=ys))) G
 .clear h;let(n,d',xs,ys,hd,hn,tx,ty,sx,sy,fx,fy,q):=pr;subst hd;let kA:kitA n ["list","tuple"]=bH kz:=by let rfl||rfl:=hn<;>decide +kernel
  obtain⟨b,kb⟩:∃b,kit0 n "list"=bH b:=by let rfl||rfl:=hn<;>show(_,rfl)
  lk;show(lenK rfl,?_);lk;show i_lt ty kA ?_;lk;show a1c tx kb ?_;lk;show a1c ty kb ?_;lk;rw[beq_self_eq_true];show ifF ?_;lk;show(lenK rfl,?_);lk;show i_lt tx kA ?_;lk;show ifF ?_;lk;show b3m sx ?_;lk;show b3m sy ?_;lk;show ifN (λc=>?_) λc=>?_
  .lk;rw[decide_eq_false (λz=>c (by rw[z]))]at q;show q
  .let hl:xs.length=ys.length:=by lia
   lk;show([xs,ys],by simp[sx,sy],by simp,rfl,?_);show a0E (λi σ G'=>Ex2 λ(v1 v2:Option Z)=>An3 (∀j,j<i->xs[j]?=ys[j]?) (σ=[bH x,bH y,v1,v2]) (G'=G)) (_,_,λj hj=>by lia,rfl,rfl) (by ext i σ G' _ ⟨_,_,_,_,e⟩;show by rw[e];simp[sx,sy]) ?_ ?_
   .ext i w σ G' hw ⟨v1,v2,hall,rfl,rfl⟩;let(a,b,rfl,ha,hb):=zip2 hw;let fa:=b5.mp fx a (bB ha);let fb:=b5.mp fy b (bB hb);show(_,rfl,?_);lk;show(a,b,rfl,.inl (fa,fb,?_));lk;show ifN (λc=>?_) λc=>?_
    .lk;rw[decide_eq_false (λz=>c (by rw[z,hb]at ha;cases ha;rfl))]at q;show q
    .lk;show(_,_,λj hj=>?_,rfl,rfl)
     by_cases hji:j<i
     .show hall j hji
     .let:j=i:=by lia
      subst this;rw[ha,hb,c]
   .ext σ G' ⟨v1,v2,hall,rfl,rfl⟩;rw[a6n hl]at hall;lk
    let:xs=ys:=by
     show eJ λj=>?_
     by_cases hj:j<xs.length
     .show hall j hj
     .rw[cZ (by lia),cZ (by lia)]
    rw[decide_eq_true this]at q;show q
 let(fx,fy,q)||(p,p',xs,ys,rfl,rfl,hd,hp,hp',fx,fy,q):=h
 .cases y with
  |non=>
   lk;show(lenK rfl,?_);lk;show i_lt (n:="NoneType") (b:=kQ) rfl (by decide +kernel) ?_;lk;show q
  |int j=>
   lk;show(lenK rfl,?_);lk;show i_lt (n:="int") (b:=kQ) rfl (by decide +kernel) ?_;lk;show a1c (n:="int") (b:=kQ) rfl rfl ?_;lk;cases x with
   |int i=>
    show a1c (n:="int") (b:=kz) rfl rfl ?_;lk;show a1c (n:="int") (b:=kQ) rfl rfl ?_;lk;show ifT ?_;lk;rw[a0m (Z.int.injEq _ _)]at q;show q
   |non=>
    show a1c (n:="NoneType") (b:=kQ) rfl rfl ?_;lk;show q
   |str s=>
    show a1c (n:="str") (b:=kQ) rfl rfl ?_;lk;show q
   |tup s=>
    show a1c (n:="tuple") (b:=kQ) rfl rfl ?_;lk;show q
   |_=>cases d<;>cases fx
  |str t=>
   lk;show(lenK rfl,?_);lk;show i_lt (n:="str") (b:=kQ) rfl (by decide +kernel) ?_;lk;show a1c (n:="str") (b:=kz) rfl rfl ?_;lk;cases x with
   |int i=>
    show a1c (n:="int") (b:=kQ) rfl rfl ?_;lk;show q
   |non=>
    show a1c (n:="NoneType") (b:=kQ) rfl rfl ?_;lk;show q
   |str s=>
    show a1c (n:="str") (b:=kz) rfl rfl ?_;lk;rw[a0m (Z.str.injEq _ _)]at q;show q
   |tup s=>
    show a1c (n:="tuple") (b:=kQ) rfl rfl ?_;lk;show q
   |_=>cases d<;>cases fx
  |tup ys=>
   obtain⟨d',rfl⟩:∃d',d=d'+1:=by cases d with |zero=>cases fy |succ d'=>show(d',rfl)
   cases x with
   |tup xs=>
    rw[a0m (Z.tup.injEq _ _)]at q;show absurd ("tuple",d',xs,ys,rfl,.inr rfl,rfl,rfl,rfl,rfl,fx,fy,q) pr
   |non=>
    lk;show(lenK rfl,?_);lk;show i_lt (n:="tuple") (b:=kz) rfl (by decide +kernel) ?_;lk;show a1c (n:="NoneType") (b:=kQ) rfl rfl ?_;lk;show a1c (n:="tuple") (b:=kQ) rfl rfl ?_;lk;show ifF ?_;lk;show(lenK rfl,?_);lk;show i_lt (n:="NoneType") (b:=kQ) rfl (by decide +kernel) ?_;lk;show ifT ?_;lk;show q
   |int i=>
    lk;show(lenK rfl,?_);lk;show i_lt (n:="tuple") (b:=kz) rfl (by decide +kernel) ?_;lk;show a1c (n:="int") (b:=kQ) rfl rfl ?_;lk;show a1c (n:="tuple") (b:=kQ) rfl rfl ?_;lk;show ifF ?_;lk;show(lenK rfl,?_);lk;show i_lt (n:="int") (b:=kQ) rfl (by decide +kernel) ?_;lk;show ifT ?_;lk;show q
   |str s=>
    lk;show(lenK rfl,?_);lk;show i_lt (n:="tuple") (b:=kz) rfl (by decide +kernel) ?_;lk;show a1c (n:="str") (b:=kQ) rfl rfl ?_;lk;show a1c (n:="tuple") (b:=kQ) rfl rfl ?_;lk;show ifF ?_;lk;show(lenK rfl,?_);lk;show i_lt (n:="str") (b:=kQ) rfl (by decide +kernel) ?_;lk;show ifT ?_;lk;show q
   |_=>cases fx
  |_=>cases d<;>cases fy
 .obtain⟨d',rfl⟩:∃d',d=d'+1:=(d-1,by lia);show absurd ("list",d',xs,ys,rfl,.inl rfl,by simp[tyN,hp],by simp[tyN,hp'],by simp[srcZ,hp],by simp[srcZ,hp'],fx,fy,q) pr
def Plain(l:List Rw):Prop:=∀r∈l,∃x,r.w=[x]/\flat 0 x=kz
def Plain.one(h:Plain l):One l:=λr a=>by let(x,e,_):=h r a;show(x,e)
def Plain.okR(h:Plain l):OkR l:=λr a=>by
 let(x,e,f):=h r a;rw[e];show b5c (a0p (by simp) f)
def Plain.nil:Plain []:=λr hr=>by simp at hr
def a1G(h:Plain l)(e:r.w=[x])(f:flat 0 x=kz):Plain (l++[r]):=λs a=>by
 let a||a:=be.mp a
 .show h s a
 .rw[bg.mp a];show(x,e,f)
def a0w(h:Plain puts)(t:Int):flat 0 (lastAt puts t)=kz:=by
 unfold lastAt;cases e:puts.reverse.find? _ with
 |none=>rfl
 |some r=>
  let(x,a,f):=h r (by let:=d7 e;o_head this)
  change flat 0 (r.w.headD .non)=kz
  rw[a];show f
def a4G(h:Plain puts)(hl:∀r∈l,∃t,optW (lastAt puts t)=bH r.w):Plain l:=λr a=>by
 let(t,e):=hl r a;unfold optW at e
 split at e
 .cases e
 .show(_,(bH.inj e).symm,a0w h t)
def b0E(z:Z):wz (optW z)=z:=by
 unfold optW
 split
 .next h=>rw[h];rfl
 .rfl
def b3n{ms:List Int}{i:Nat}(hi:i<ms.length):atI (ms.map Z.int++[Z.non]) ((i:Int)+1)=bH (oz ms[i+1]?):=by
 show a0O (j:=i+1) ?_
 by_cases c:i+1<ms.length
 .rw[cU (by rw[a9];show c),bo,bn c];rfl
 .let:i+1=ms.length:=by lia
  rw[cT (by rw[a9];lia),a9,this,cZ (bd _)];simp
def b5n:P3:=λws G R=>∃p puts,ws=[.ref p]/\G p=bH (.lst (puts.map Rw.z))/\Plain puts/\puts.length<=400/\∀(t:Addr)(rows:List Rw)(G':Hq),G t=gV->Sm G G'->G' t=bH (.lst (rows.map Rw.z))->Can rows->Plain rows->rows.length<=2*puts.length->(∀m,val rows m=optW (lastAt puts m))->R (.ref t) G'
def b5o(T:Txt K mg a):Cal P w K mg base CX0 2 "_law_line" (lowP K b5n):=by
 show fnc 1 (N:=["puts","bounds","rows","k","worth","end"]) T.br (T.f 28 _ rfl) ?_ (len:=λws G R h=>(by let(_,_,rfl,_):=h;rfl));walk_at "in";show(_,(a0c (by ac_rfl)
  (a0c (by ac_rfl)
  (a0c (a1K (pt:=(.nm 3)) h9.never rfl (by ac_rfl) (p_nm (nmI 3 nd))
  (a0c (by ac_rfl)
  (a0c (by ac_rfl)
  (a0A (z_if (by ac_rfl)
  (a0A (a2N (by ac_rfl) (qv 2) (by ac_rfl) a9j))
  (by ac_rfl))))))
  (by ac_rfl)))),?_)
 let(p,puts,rfl,hp,hpl,hz,q):=h;lk;show(p,puts,rfl,hp,hz,λu ms G1 hu s1 hu1 hb hl=>?_);lk;show(lenK rfl,λt ht=>?_);lk;show a2O (a0b hu1 ht) ?_;lk;rw[a9];show(by lia,by lia,?_);rw[show (ms.length:Int).toNat=ms.length by lia];let tG:G t=gV:=s1.free ht;show a0E (λi σ G'=>Ex4 λ(told:List Rw) (v1 v2 v3:Option Z)=>An6 ((pcs (λt=>optW (lastAt puts t)) (ms.drop i)).foldl jn told=join (pcs (λt=>optW (lastAt puts t)) ms)) (told.length<=i) (Plain told) (Sm G1 G') (G' t=bH (.lst (told.map Rw.z))) (σ=[bH (.ref p),bH (.ref u),bH (.ref t),v1,v2,v3])) ([],_,_,_,rfl,by simp,Plain.nil,Sm.new ht,a0a,rfl) (λ_ _ _ _ _=>True.intro) ?_ ?_
 .ext i x σ G' hx ⟨told,v1,v2,v3,hj,hlen,hpt,s,gt,rfl⟩;let(hi,rfl):=a2z hx;show(_,rfl,?_);rw[fD];let hbi:ms[i]?=bH ms[i]:=bn hi;let hdr:ms.drop i=ms[i]::ms.drop (i+1):=cX hi;rw[hdr]at hj;generalize ms[i]=b at hbi hj;let hbm:atI (ms.map Z.int) (i:Int)=bH (.int b):=a0O (by rw[bo,hbi];rfl);rw[pcs,fE]at hj;lk;show a0y (s _ _ hu1) hbm ?_;lk;show(p,puts,b,rfl,s _ _ (s1 _ _ hp),hpl.one,?_);lk;show(lenK rfl,λa ha=>?_);lk;show a3k (a0b (s _ _ hu1) ha) a0a (a0H (by rw[a9];change ms.length+1<=1000;lia)) λa2 ha2=>?_;lk;show a0y a0a (b3n hi) ?_;let s2:Sm G1 (put (put G' a (.lst [.non])) a2 (.lst (ms.map Z.int++[Z.non]))):=(s.trans (Sm.new ha)).trans (Sm.new ha2);let gt2:put (put G' a (.lst [.non])) a2 (.lst (ms.map Z.int++[Z.non])) t=bH (.lst (told.map Rw.z)):=a0b (a0b gt ha) ha2;generalize put (put G' a (.lst [.non])) a2 (.lst (ms.map Z.int++[Z.non]))=G2 at s2 gt2 ⊢;let gu2:=s2 _ _ hu1;lk;show ifN (λc=>?_) λc=>?_
  .let fb:optW (lastAt puts b)=bH [lastAt puts b]:=if_neg c;rw[fb]at hj
   change (pcs (λt=>optW (lastAt puts t)) (ms.drop (i+1))).foldl jn (jn told (b,ms[i+1]?,[lastAt puts b]))=_ at hj
   lk;show(lenK rfl,λa3 ha3=>?_);lk;let s3:Sm G1 (put G2 a3 (.lst [])):=s2.trans (Sm.new ha3);let gt3:put G2 a3 (.lst []) t=bH (.lst (told.map Rw.z)):=a0b gt2 ha3;show b1w gt3 a0a (a3v hpt.okR) rfl ?_;generalize put G2 a3 (.lst [])=G3 at s3 gt3 ⊢;let gu3:=s3 _ _ hu1;lk;show ifN (λc2=>?_) λc2=>?_
   .let hne:told≠[]:=λz=>c2 (by rw[z];rfl);obtain⟨k,hl⟩:∃k,told.getLast?=bH k:=by
     cases e:told.getLast? with
     |none=>show absurd (dY.mp e) hne
     |some k=>show(k,rfl)
    let hlm:(told.map Rw.z).getLast?=bH k.z:=by rw[d6,hl];rfl
    let(x,ex,fx):=hpt k (eP hl);lk;show a0y gt3 (a04 hlm) ?_;lk;show a05 at1 ?_;lk;show a0y gu3 hbm ?_;lk;show b0r ?_;lk;show ifD (λc3=>?_) λc3=>?_
    .lk;show a0y gt3 (a04 hlm) ?_;lk;show a05 (w:=x) (by change atI (_::_::k.w) 2=bH x;rw[ex];show at2) ?_;lk;show a6m (a0p (by decide) fx) (a0p (by decide) (a0w hpl b)) ?_;lk;show ifD (λc4=>?_) λc4=>?_
     .let hjn:jn told (b,ms[i+1]?,[lastAt puts b])=told.dropLast++[(k.b,ms[i+1]?,[lastAt puts b])]:=by
       unfold jn;rw[hl];show if_pos (c3,by rw[ex,c4])
      lk;show a0y gt3 (a04 hlm) ?_;lk;show a05 at0 ?_;lk;show(lenK rfl,?_);lk;show a9p gt3 (a4B (by rw[a9];show cP.mpr hne)) ?_;show(told.dropLast++[(k.b,ms[i+1]?,[lastAt puts b])],_,_,_,by rw[<- hjn];show hj,by simp;lia,a1G (λr hr=>hpt r (eO _ hr)) rfl (a0w hpl b),s3.put ht,?_,rfl);rw[a0a,a4C hlm,bp,fz]
      rfl
     .let hjn:jn told (b,ms[i+1]?,[lastAt puts b])=told++[(b,ms[i+1]?,[lastAt puts b])]:=by
       unfold jn;rw[hl];show if_neg λz=>c4 (by let:=z.2;rw[ex]at this;show (b9.inj this).1)
      lk;show ifN (λ_=>?_) λz=>absurd z c;lk;show a0Y gt3 ?_;lk;show a0y gu3 hbm ?_;lk;show(lenK rfl,?_);lk;show a0v gt3 (by rw[a9];show a0d (by lia)) ?_;show(told++[(b,ms[i+1]?,[lastAt puts b])],_,_,_,by rw[<- hjn];show hj,by simp;lia,a1G hpt rfl (a0w hpl b),s3.put ht,by rw[a0a,bp];rfl,rfl)
    .let hjn:jn told (b,ms[i+1]?,[lastAt puts b])=told++[(b,ms[i+1]?,[lastAt puts b])]:=by
      unfold jn;rw[hl];show if_neg λz=>c3 z.1
     lk;show ifN (λ_=>?_) λz=>absurd z c;lk;show a0Y gt3 ?_;lk;show a0y gu3 hbm ?_;lk;show(lenK rfl,?_);lk;show a0v gt3 (by rw[a9];show a0d (by lia)) ?_;show(told++[(b,ms[i+1]?,[lastAt puts b])],_,_,_,by rw[<- hjn];show hj,by simp;lia,a1G hpt rfl (a0w hpl b),s3.put ht,by rw[a0a,bp];rfl,rfl)
   .let e0:told=[]:=dD.mp c2;let hjn:jn told (b,ms[i+1]?,[lastAt puts b])=told++[(b,ms[i+1]?,[lastAt puts b])]:=by
     subst e0;rfl
    lk;show ifN (λ_=>?_) λz=>absurd z c;lk;show a0Y gt3 ?_;lk;show a0y gu3 hbm ?_;lk;show(lenK rfl,?_);lk;show a0v gt3 (by rw[a9];show a0d (by lia)) ?_;show(told++[(b,ms[i+1]?,[lastAt puts b])],_,_,_,by rw[<- hjn];show hj,by simp;lia,a1G hpt rfl (a0w hpl b),s3.put ht,by rw[a0a,bp];rfl,rfl)
  .let fb:optW (lastAt puts b)=gV:=if_pos c;rw[fb]at hj;lk;show ifN (λz=>absurd c z) λ_=>?_;lk;show(told,_,_,_,hj,by lia,hpt,s2,gt2,rfl)
 .ext σ G' ⟨told,v1,v2,v3,hj,hlen,hpt,s,gt,rfl⟩;rw[a1e,fF]at hj;let ht2:told=join (pcs (λt=>optW (lastAt puts t)) ms):=hj;let lk:=b0p hb;rw[<- ht2]at lk;lk;show q t told G' tG (s1.trans s) gt lk.1 hpt (bD lk.2.2.1 hl) lk.2.1
def Pair1(l:List Rw):Prop:=∀r∈l,∃x,r.w=[x]/\flat 1 x=kz
def Pair1.one(h:Pair1 l):One l:=λr a=>let (x,e,_):=h r a;(x,e)
def Pair1.okR(h:Pair1 l):OkR l:=λr a=>by
 let(x,e,f):=h r a;rw[e];show b5c (a0p (by simp) f)
def a3K:P3:=λws G R=>∃(p:Addr)(rows:List Rw),ws=[.ref p]/\G p=bH (.lst (rows.map Rw.z))/\One rows/\rows.length<=400/\∀(t:Addr)(ms:List Int)(G':Hq),G t=gV->Sm G G'->G' t=bH (.lst (ms.map Z.int))->a0X rows ms->ms.length<=2*rows.length->R (.ref t) G'
def a3y(h:ms.Pairwise (·<·))(q:∀x,x∈ms↔x∈rows.filterMap (λr=>bH r.b)++rows.filterMap (λr=>r.e)):a0X rows ms:=by
 show(h,λx=>?_);rw[q x,be,cR,cR]
 constructor
 .ext (⟨r,a,e⟩ |⟨r,a,e⟩)
  .show(r,a,.inl ↑e.symm)
  .show(r,a,.inr e)
 .ext⟨r,a,e |e⟩
  .show .inl (r,a,by rw[e])
  .show .inr (r,a,e)
set_option tactic.hygienic true in
def a3L(T:Txt K mg a):Cal P w K mg base CX0 1 "bounds_of" (lowP K a3K):=by
 show fnc 1 (N:=["stretches","begins","ends"]) T.br (T.f 8 _ rfl) ?_;walk_at "in";show(_,(a0c (z_l (nmI 1 nd) ["begin","end","worth"] [gV,gV,gV] (.tp [0,1,2]))
  (a0c (z_l (nmI 2 nd) ["begin","end","worth"] [gV,gV,gV] (.tp [0,1,2]))
  (a0A (a16 (q_ss rfl rfl (T.b 8) rfl rfl (T.b 9) rfl (by ac_rfl) (he:=se_ rfl) (hpl:=hp_ rfl)))))),?_)
 let(p,rows,rfl,hp,h1,hz,q):=h;lk;show a1u hp ?_;ext D hD;show a1Z (g':=Z.int) (λr=>bH r.b) (λys=>a0b hp hD) (by lia) ?_ ?_
 .ext r hr ys K1 K2 k1 k2;let(x,hx):=h1 r hr;let(b,e,w):=r;cases hx;show(_,rfl,?_);lk;show k1 _ rfl
 let nDp:p≠D:=a0i hp hD;lk;show a1u (a0b hp hD) ?_;ext F hF;show a1Z (g':=Z.int) (λr=>r.e) (λys=>a0b (a0b hp hD) hF) (by lia) ?_ ?_
 .ext r hr ys K1 K2 k1 k2;let(x,hx):=h1 r hr;let(b,e,w):=r;cases hx;show(_,rfl,?_);cases e with
  |none=>
   lk;show k2 rfl
  |some e=>
   lk;show k1 _ rfl
 lk;let l1:(rows.filterMap λr=>bH r.b).length<=rows.length:=dq _ _;let l2:(rows.filterMap λr=>r.e).length<=rows.length:=dq _ _;show a3k (a0b a0a hF) a0a (a0H (by rw[a9,a9];lia)) λc hc=>?_;lk;show i_ss (ns:=(rows.filterMap λr=>bH r.b)++(rows.filterMap λr=>r.e)) (by rw[a0a,bp]) (by rw[bu];lia) λt ks ht hpw hm hl=>?_;show q t ks _ ((((Sm.new hD).trans (Sm.new hF)).trans (Sm.new hc)).free ht) ((((Sm.new hD).trans (Sm.new hF)).trans (Sm.new hc)).trans (Sm.new ht)) a0a (a3y hpw hm) (by rw[bu]at hl;lia)
def b5p{α:Type}{xs:List α}:cutZ xs (bH 1) gV=xs.drop 1:=by
 cases xs with
 |nil=>rfl
 |cons x xs=>
  unfold cutZ;simp[HT.sIx]
def b2u(hne:xss≠[])(h:∀xs∈xss,n<=xs.length)(h2:∃xs∈xss,xs.length=n):(zipZ xss).length=n:=by
 let b:∀i,(∃w,_[i]?=bH w)↔i<n:=λi=>by
  constructor
  .ext⟨w,d⟩;let(vs,rfl,e):=(a08 xss hne i w).mp d;let(a,f,hl):=h2
   let:a[i]?∈xss.map (·[i]?):=bV f
   rw[e]at this;let(v,_,k):=bC.mp this
   let:=(bh.mp k.symm).1
   lia
  .ext hi;show(_,(a08 xss hne i _).mpr (xss.map λa=>a.getD i .non,rfl,?_));rw[de];show ft λa f=>?_
   let:=h a f
   rw[Function.comp,cI,bn (by lia)]
   rfl
 let h2:=b n
 by_cases c:(zipZ xss).length<n
 .grind
 .by_cases c2:n<(zipZ xss).length
  .simp_all
  .lia
def zip4{xs ys zs us:List Z}{i:Nat}{w:Z}(h:(zipZ [xs,ys,zs,us])[i]?=bH w):Ex4 λa b c d=>w=.tup [a,b,c,d]/\xs[i]?=bH a/\ys[i]?=bH b/\zs[i]?=bH c/\us[i]?=bH d:=by
 let(vs,rfl,e):=(a08 [xs,ys,zs,us] (by simp) i w).mp h
 match vs,e with
 |[],e=>simp at e
 |[_],e=>simp at e
 |[_,_],e=>simp at e
 |[_,_,_],e=>simp at e
 |[a,b,c,d],e=>
  simp only[bx,bN,b9.injEq,and_true]at e;show(a,b,c,d,rfl,e.1,e.2.1,e.2.2.1,e.2.2.2)
 |_::_::_::_::_::_,e=>simp at e
noncomputable def laidF(l o:List Rw)(t:Int):Option (List Z):=if wz (val l t)=.non/\wz (val o t)=.non then gV else bH [wz (val l t),wz (val o t)]
def a5B(h:Pair1 l)(t:Int):flat 1 (wz (val l t))=kz:=by
 unfold val;cases e:l.find? _ with
 |none=>rfl
 |some r=>
  let(x,a,f):=h r (d7 e)
  change flat 1 (r.w.headD .non)=kz
  rw[a];show f
def b2v(hl:Pair1 l)(ho:Pair1 o)(bs:List Int):OkR (pcs (laidF l o) bs):=λr a=>by
 let(_,e):=a4w a;unfold laidF at e
 split at e
 .grind
 .rw[<- bH.inj e];show(by simp,by simp,?_);rw[bJ,bJ,a0p (by decide) (a5B hl r.b),a0p (by decide) (a5B ho r.b)];rfl
def a2l:P3:=λws G R=>Ex4 λ(p q:Addr) (l o:List Rw)=>ws=[.ref p,.ref q]/\G p=bH (.lst (l.map Rw.z))/\G q=bH (.lst (o.map Rw.z))/\Rise l/\Pair1 l/\Rise o/\Pair1 o/\l.length<=150/\o.length<=150 /\
 ∀(t:Addr)(bs:List Int)(G':Hq),G t=gV->Sm G G'->a0X (l++o) bs->bs.length<=2*(l.length+o.length)->G' t=bH (.lst ((join (pcs (laidF l o) bs)).map Rw.z))->R (.ref t) G'
def b5q{bs:List Int}(hi:i<bs.length):((bs.map Z.int).drop 1++[Z.non])[i]?=bH (oz bs[i+1]?):=by
 by_cases c:i+1<bs.length
 .rw[cU (by rw[bZ,a9];lia),dr,fu 1 i,bo,bn c];rfl
 .let:i+1=bs.length:=by lia
  rw[cT (by rw[bZ,a9];lia),bZ,a9,this,cZ (bd _),show i-_=0 by lia]
  rfl
set_option tactic.hygienic true in
def a2m(T:Txt K mg a):Cal P w K mg base CX0 3 "laid_together" (lowP K a2l):=by
 show fnc 2 (N:=["line","other","bounds","worths","other_worths","ends","pieces","begin","end","worth","other_worth"]) T.br (T.f 11 _ rfl) ?_;walk_at "in";show(_,(a0c (by ac_rfl)
  (a0c (by ac_rfl)
  (a0c (by ac_rfl)
  (a0c (by ac_rfl)
  (a0c (by ac_rfl)
  (a0c (a1K (pt:=(.tp [7,8,9,10])) h9.never rfl (a9U (n:=4) zok4 (by decide) rfl (T.b 10) (q_k (qv 2) (q_k (qv 5) (q_k (qv 3) (q_k (qv 4) a0x)))) (he:=se_ rfl) (hpl:=hp_ rfl)) (by ac_rfl)
  (by ac_rfl))
  (by ac_rfl))))))),?_)
 let(p,q,l,o,rfl,hp,hq,hl,pl,ho,po,zl,zo,fin):=h;lk;show a3k hp hq (a0H (by rw[a9,a9];lia)) λa ha=>?_;lk;let one:One (l++o):=λr hr=>(be.mp hr).elim (pl.one r) (po.one r);show(a,l++o,rfl,by rw[a0a,bp],one,by rw[bu];lia,λu bs G1 hu s1 gu hb hbl=>?_);let s1:=(Sm.new ha).trans s1;rw[bu]at hbl;let hpw:bs.Pairwise (·<=·):=hb.1.imp λh=>by lia
 lk;show(p,u,l,bs,rfl,s1 _ _ hp,gu,hl,pl.okR,by lia,hpw,by lia,λw hw=>?_);lk;show(q,u,o,bs,rfl,a0b (s1 _ _ hq) hw,a0b gu hw,ho,po.okR,by lia,hpw,by lia,λv hv=>?_);lk;show b4h (a0b (a0b gu hw) hv) λc hc=>?_;rw[b5p];lk;show(lenK rfl,λd hd=>?_);lk;show a3k (a0b a0a hd) a0a (a0H (by rw[bZ,a9];change bs.length-1+1<=1000;lia)) λe he=>?_;lk;show(lenK rfl,λt ht=>?_);let s2:Sm G1 (put (put (put (put (put (put G1 w (.lst (bs.map λm=>wz (val l m)))) v (.lst (bs.map λm=>wz (val o m)))) c (.lst ((bs.map Z.int).drop 1))) d (.lst [.non])) e (.lst ((bs.map Z.int).drop 1++[Z.non]))) t (.lst [])):=
  (((((Sm.new hw).trans (Sm.new hv)).trans (Sm.new hc)).trans (Sm.new hd)).trans (Sm.new he)).trans (Sm.new ht)
 let gw:=a0b (a0b (a0b (a0b (a0b (a0a (G:=G1) (a:=w) (o:=.lst (bs.map λm=>wz (val l m)))) hv) hc) hd) he) (o:=.lst []) ht;let gv:=a0b (a0b (a0b (a0b (a0a (G:=put G1 w (.lst (bs.map λm=>wz (val l m)))) (a:=v) (o:=.lst (bs.map λm=>wz (val o m)))) hc) hd) he) (o:=.lst []) ht;let ge:=a0b (a0a (G:=put (put (put (put G1 w (.lst (bs.map λm=>wz (val l m)))) v (.lst (bs.map λm=>wz (val o m)))) c (.lst ((bs.map Z.int).drop 1))) d (.lst [.non])) (a:=e) (o:=.lst ((bs.map Z.int).drop 1++[Z.non]))) (o:=.lst []) ht;let gt:=a0a (G:=put (put (put (put (put G1 w (.lst (bs.map λm=>wz (val l m)))) v (.lst (bs.map λm=>wz (val o m)))) c (.lst ((bs.map Z.int).drop 1))) d (.lst [.non])) e (.lst ((bs.map Z.int).drop 1++[Z.non]))) (a:=t) (o:=.lst []);let nu:=a0i (a0b (a0b (a0b (a0b (a0b gu hw) hv) hc) hd) he) ht;let nw:=a0i (a0b (a0b (a0b (a0b (a0a (G:=G1) (a:=w) (o:=.lst (bs.map λm=>wz (val l m)))) hv) hc) hd) he) ht;let nv:=a0i (a0b (a0b (a0b (a0a (G:=put G1 w (.lst (bs.map λm=>wz (val l m)))) (a:=v) (o:=.lst (bs.map λm=>wz (val o m)))) hc) hd) he) ht;let ne:=a0i (a0a (G:=put (put (put (put G1 w (.lst (bs.map λm=>wz (val l m)))) v (.lst (bs.map λm=>wz (val o m)))) c (.lst ((bs.map Z.int).drop 1))) d (.lst [.non])) (a:=e) (o:=.lst ((bs.map Z.int).drop 1++[Z.non]))) ht;let hGt:G t=gV:=s1.free ((((((Sm.new hw).trans (Sm.new hv)).trans (Sm.new hc)).trans (Sm.new hd)).trans (Sm.new he)).free ht);generalize put (put (put (put (put (put G1 w (.lst (bs.map λm=>wz (val l m)))) v (.lst (bs.map λm=>wz (val o m)))) c (.lst ((bs.map Z.int).drop 1))) d (.lst [.non])) e (.lst ((bs.map Z.int).drop 1++[Z.non]))) t (.lst [])=G2 at s2 gw gv ge gt ⊢;let gu2:=s2 _ _ gu;let hsrc:∀G':Hq,(∀b ob,b≠t->G2 b=bH ob->G' b=bH ob)->[Z.ref u,Z.ref e,Z.ref w,Z.ref v].map (srcZ G')=[bs.map Z.int,(bs.map Z.int).drop 1++[Z.non],bs.map λm=>wz (val l m),bs.map λm=>wz (val o m)].map bH:=λG' k=>by
  let k1:=k u _ nu gu2;let k2:=k e _ ne ge;let k3:=k w _ nw gw;let k4:=k v _ nv gv;simp only[bx,bN,srcZ,k1,k2,k3,k4]
 let hzl:(zipZ [bs.map Z.int,(bs.map Z.int).drop 1++[Z.non],bs.map λm=>wz (val l m),bs.map λm=>wz (val o m)]).length=bs.length:=
  b2u (by simp) (λxs hx=>by
   simp only[bf,dA,or_false]at hx;let rfl||rfl||rfl||rfl:=hx
   .simp
   .simp;lia
   .simp
   .simp) (_,.head _,by simp)
 lk;show([bs.map Z.int,(bs.map Z.int).drop 1++[Z.non],bs.map λm=>wz (val l m),bs.map λm=>wz (val o m)],hsrc G2 λb ob _ h=>h,by simp,rfl,?_);show a0E (λi σ G'=>Ex5 λ(told:List Rw) (v1 v2 v3 v4:Option Z)=>An5 (told++pcs (laidF l o) (bs.drop i)=pcs (laidF l o) bs) (told.length<=i) (G' t=bH (.lst (told.map Rw.z))) (∀b ob,b≠t->G2 b=bH ob->G' b=bH ob) (σ=[bH (.ref p),bH (.ref q),bH (.ref u),bH (.ref w),bH (.ref v),bH (.ref e),bH (.ref t),v1,v2,v3,v4]))
  ([],_,_,_,_,rfl,bd _,gt,λb ob _ h=>h,rfl) (by ext i σ G' _ ⟨_,_,_,_,_,_,_,_,k,_⟩;show hsrc G' k) ?_ ?_
 .ext i x σ G' hx ⟨told,v1,v2,v3,v4,hj,hlen,gt',k,rfl⟩;let hi:i<bs.length:=by let:=(bh.mp hx).1;lia
  let(x1,x2,x3,x4,rfl,e1,e2,e3,e4):=zip4 hx;rw[b5q hi]at e2;rw[bo,bn hi]at e1 e3 e4;simp only[di,bH.injEq]at e1 e2 e3 e4;subst e1 e2 e3 e4;let hdr:bs.drop i=bs[i]::bs.drop (i+1):=cX hi;rw[hdr,pcs,fE]at hj;show(_,rfl,?_);let skip:wz (val l bs[i])=.non->wz (val o bs[i])=.non->told++pcs (laidF l o) (bs.drop (i+1))=pcs (laidF l o) bs:=λc1 c2=>by
   let:laidF l o bs[i]=gV:=if_pos (c1,c2)
   rw[this]at hj;show hj
  let some_:¬ (wz (val l bs[i])=.non/\wz (val o bs[i])=.non)->(told++[(bs[i],bs[i+1]?,[wz (val l bs[i]),wz (val o bs[i])])])++pcs (laidF l o) (bs.drop (i+1))=pcs (laidF l o) bs:=λc=>by
   let:laidF l o bs[i]=bH [wz (val l bs[i]),wz (val o bs[i])]:=if_neg c
   rw[this]at hj;rw[bS];show hj
  generalize bs[i]=b at skip some_ ⊢;generalize wz (val l b)=y1 at skip some_ ⊢;generalize wz (val o b)=y2 at skip some_ ⊢;generalize bs[i+1]?=en at some_ ⊢;lk;show ifN (λc1=>?_) λc1=>?_
  .lk;show a0Y gt' ?_;lk;show(lenK rfl,?_);lk;show a0v gt' (by rw[a9];show a0d (by lia)) (told++[(b,en,[y1,y2])],_,_,_,_,some_ (λz=>c1 z.1),by rw[bu];change told.length+1<=i+1;lia,?_,λc ob nc h=>by rw[a0h nc];show k c ob nc h,rfl);rw[a0a,bp];rfl
  .lk;show ifN (λc2=>?_) λc2=>?_
   .lk;show a0Y gt' ?_;lk;show(lenK rfl,?_);lk;show a0v gt' (by rw[a9];show a0d (by lia)) (told++[(b,en,[y1,y2])],_,_,_,_,some_ (λz=>c2 z.2),by rw[bu];change told.length+1<=i+1;lia,?_,λc ob nc h=>by rw[a0h nc];show k c ob nc h,rfl);rw[a0a,bp];rfl
   .lk;show(told,_,_,_,_,skip c1 c2,by lia,gt',k,rfl)
 .ext σ G' ⟨told,v1,v2,v3,v4,hj,hlen,gt',k,rfl⟩;rw[hzl,fF,pcs,bM]at hj;subst hj;lk;show(t,_,rfl,gt',(b2v pl po bs).weak,bD (a2E _ _) (by lia),λz hz=>?_);let s3:Sm G G':=λb ob h=>k b ob (a0i h hGt) (s2 _ _ (s1 _ _ h));show fin z bs _ (s3.free hz) (s3.trans (Sm.new hz)) hb hbl a0a
def b2w(h:nmOk s):Th G (.str s):=(by rw[a1w];let:=h.2.1;lia,a7f h.2.2)
def nm_b(h:nmOk s):a2F (.str s)=kz:=by
 rw[a3b,decide_eq_true (by rw[a1w];show h.1),decide_eq_true (by rw[a1w];show h.2.1)];rw[cw,cw,b5];ext c b;let(a,d):=h.2.2 c b;unfold okC;rw[decide_eq_true a,decide_eq_true d];rfl
def st_b(h:stOk b e):strB (.int b) (oz e)=kz:=by
 let(c,g,a):=h;unfold T12 at *;unfold strB;rw[a4E,decide_eq_true c,decide_eq_true g];cases e with
 |none=>rfl
 |some x=>
  let(f,d):=a x rfl
  change (kz&&(momB _&&decide _))=kz
  rw[a4E,decide_eq_true (show 0<=x by lia),decide_eq_true d,decide_eq_true f];rfl
def b0F(h:Plain L)(f:flat 0 z=kz):Plain (a5r L b e (optW z)):=λr a=>by
 let m:Plain (a1r L b e (optW z)):=λr a=>by
  let a||a:=be.mp a
  .let a||a:=be.mp a
   .let(j,i,_,rfl):=a2i a;show h j i
   .unfold optW at a
    split at a
    .next w e=>
           split at e
           .cases e
           .cases e;rw[bg.mp a];show(z,rfl,f)
    .simp_all
  .cases e with
   |none=>simp at a
   |some e=>
    let(j,i,_,rfl):=a3a a;show h j i
 let l:∀d c,Plain c->Plain d->Plain (d.foldl jn c):=by
  ext d
  induction d with
  |nil=>show λ_ h _=>h
  |cons p d ih=>
   ext c k g;show ih _ (λr a=>?_) λr a=>g r (.tail _ a)
   let:=g p (.head _)
   unfold jn at a
   split at a
   .split at a
    .let a||a:=be.mp a
     .show k r (eO _ a)
     .simp_all
    .let a||a:=be.mp a
     .show k r a
     .simp_all
   .simp_all
 show l _ [] Plain.nil m r a
structure Tl where
 key:Str
 w:Option Str
 b:Int
 e:Option Int
abbrev sPut:Str:=Str.ofString "put"
abbrev a7j:Str:=Str.ofString "clear"
noncomputable def Tl.z(τ:Tl):Z:=match τ.w with
 |some w=>.tup [.str sPut,.str τ.key,.str w,.int τ.b,oz τ.e]
 |none=>.tup [.str a7j,.str τ.key,.int τ.b,oz τ.e]
noncomputable def Tl.v(τ:Tl):Z:=match τ.w with
 |some w=>.str w
 |none=>.non
structure Tl.Ok (τ:Tl):Prop where
 k:nmOk τ.key
 w:∀s,τ.w=bH s->nmOk s
 st:stOk τ.b τ.e
noncomputable def Tl.Ok.v{τ:Tl}(h:τ.Ok):flat 0 τ.v=kz:=by
 unfold Tl.v;cases e:τ.w with
 |none=>rfl
 |some w=>show a4F (h.w w e)
noncomputable def Tl.rw(τ:Tl):Rw:=(τ.b,τ.e,[τ.v])
noncomputable def putsK(T:List Tl)(k:Str):List Rw:=(T.filter fun τ=>decide (τ.key=k)).map Tl.rw
def a38:putsK (T++[τ]) k=putsK T k++(if τ.key=k then [τ.rw] else []):=by
 unfold putsK
 by_cases c:τ.key=k<;>simp[c]
def OkT(T:List Tl):Prop:=∀τ∈T,τ.Ok
def a1g(h:OkT T):Plain (putsK T k):=λr a=>by
 let(τ,b,rfl):=bC.mp a;show(_,rfl,(h τ (cL.mp b).1).v)
structure IsLine (T:List Tl) (k:Str) (L:List Rw):Prop where
 can:Can L
 pl:Plain L
 len:L.length<=2*T.length
 v:∀t,val L t=optW (lastAt (putsK T k) t)
def IsLine.nil(h:putsK T k=[]):IsLine T k []:=(Can.nil,Plain.nil,by simp,λt=>by rw[h];rfl)
def IsLine.snoc(h:IsLine T τ.key L)(o:τ.Ok):IsLine (T++[τ]) τ.key (a5r L τ.b τ.e (optW τ.v)):=by
 let a:=b2f (w:=optW τ.v) h.can.rise o.st.bef;show(a.1,b0F h.pl o.v,by let:=a.2.2;let:=h.len;simp;lia,λt=>?_);rw[a38,if_pos rfl,a6f,a.2.1 t,h.v t]
 change _=optW (if (decide (τ.b<=t)&&bef t τ.e)=kz then τ.v else lastAt _ t)
 split<;>rfl
noncomputable def ixF(k:Str):Nat->List Tl->List Int
 |_,[]=>[]
 |n,τ::T=>(if τ.key=k then [(n:Int)+1] else [])++ixF k (n+1) T
noncomputable def ix(T:List Tl)(k:Str):List Int:=ixF k 0 T
def b2x:∀(n:Nat)(T:List Tl),ixF k n (T++[τ])=ixF k n T++(if τ.key=k then [(n+T.length:Int)+1] else []):=by ext z0 y0;induction y0 generalizing z0 with
 |nil=>simp[ixF]
 |cons σ T I0=>
  rw[dW,ixF,I0,ixF,bS]
  congr 2
  split
  .congr 1;rw[bv];lia
  .rfl
def a2G:ix (T++[τ]) k=ix T k++(if τ.key=k then [(T.length:Int)+1] else []):=by
 unfold ix;rw[b2x];simp
def b3o:∀{n:Nat}{T:List Tl}{i:Int},i∈ixF k n T->(n:Int)+1<=i/\i<=n+T.length:=by ext z0 y0;induction y0 generalizing z0 with
 |nil=>ext i h;simp[ixF]at h
 |cons τ T I0=>
  ext i h;rw[bv];let h||h:=be.mp h
  .split at h
   .rw[bg.mp h];lia
   .simp_all
  .let:=I0 h;lia
def b8w(h:i∈ix T k):1<=i/\i<=T.length:=by
 let:=b3o h
 o_head this
def b5r:∀(n:Nat)(T:List Tl),(ixF k n T).length<=T.length:=by ext z0 y0;induction y0 generalizing z0 with
 |nil=>simp[ixF]
 |cons τ T I0=>
  let:=I0 (z0+1)
  rw[ixF,bu,bv]
  split<;>simp<;>lia
def b8x(T:List Tl)(k:Str):(ix T k).length<=T.length:=b5r 0 T
def a78:∀(n:Nat)(T:List Tl),(ixF k n T).Pairwise (·<·):=by ext z0 y0;induction y0 generalizing z0 with
 |nil=>show .nil
 |cons τ T I0=>
  show bO.mpr (by split<;>simp,I0 _,λx a y b=>?_)
  let:=b3o b
  split at a
  .rw[bg.mp a];cbv
  .grind
def b0G(T:List Tl)(k:Str):(ix T k).Pairwise (·<·):=a78 0 T
theorem a3c:∀(n:Nat)(T:List Tl)(s q:Nat),s<=q->(∀i∈ixF k n T,(i:Int)<=n+s\/(n+q:Int)<i)->putsK (T.take q) k=putsK (T.take s) k
 |n,[],s,q,_,_=>by simp
 |n,τ::T,s,0,hs,_=>by grind
 |n,τ::T,0,q+1,hs,h=>by
  let d:¬ τ.key=k:=λe=>by
   let:=h (n+1) (by rw[ixF,if_pos e];simp)
   lia
  let a:=a3c (k:=k) (n+1) T 0 q (by lia) λi b=>by
   let c||c:=h i (by rw[ixF];simp[b])
   lia
   lia
  rw[fG];unfold putsK at a ⊢;rw[cu,if_neg ↑d,a];simp
 |n,τ::T,s+1,q+1,hs,h=>by
  let a:=a3c (k:=k) (n+1) T s q (by lia) λi b=>by
   let c||c:=h i (by rw[ixF];simp[b])
   .left;lia
   lia
  rw[fG,fG];unfold putsK at a ⊢;rw[cu,cu]
  split
  .grind
  .show a
def IsLine.cut{s q:Nat}(h:IsLine (T.take s) k L)(hs:s<=q)(hi:∀i∈ix T k,i<=(s:Int)\/(q:Int)<i):IsLine (T.take q) k L:=by
 let e:=a3c 0 T s q hs λi h=>by let:=hi i h;o_head this
 show(h.can,h.pl,by let:=h.len;rw[bE]at this ⊢;lia,λt=>by rw[e];show h.v t)
def a5C{q:Nat}(h:∀i∈ix T k,(q:Int)<i):putsK (T.take q) k=[]:=by
 let:=a3c 0 T 0 q (bR _) λi a=>by right;let:=h i a;o_head this
 rw[this];rfl
noncomputable def dif(x y:Z):Option (List Z):=if x=y then gV else bH [x,y]
structure Cg where
 k:Str
 r:Rw
noncomputable def Cg.z(c:Cg):Z:=.tup (.str c.k::.int c.r.b::oz c.r.e::c.r.w)
def b3p(hb:bs.Pairwise (·<·))(st:∀t b,b∈bs->b<=t->(∀c∈bs,c<=t->c<=b)->F t=F b)(no:∀t,(bs.any λb=>decide (b<=t))=kQ->F t=gV) :
  Can (join (pcs F bs))/\(∀t,val (join (pcs F bs)) t=F t)/\(join (pcs F bs)).length<=bs.length:=by
 let j:=a4u (a4x F hb);show(j.1,λt=>?_,bD j.2.2.1 (a2E _ _));rw[j.2.1,b0o hb st t]
 split
 .rfl
 .next c=>show (no t ↑c).symm
def a1H{rows l:List Rw}(sub:∀r∈l,r∈rows)(hb:a0X rows bs)(hbt:b<=t)(hm:∀c∈bs,c<=t->c<=b):l.find? (·.has t)=l.find? (·.has b):=
 a37 λr a=>a7b hbt (λh=>hm _ ((hb.2 _).mpr (r,sub r a,.inl rfl)) h) λe d h=>hm e ((hb.2 _).mpr (r,sub r a,.inr d)) h
def a4H(hb:a0X rows bs)(h:(bs.any λb=>decide (b<=t))=kQ)(hr:r∈rows):r.has t=kQ:=by
 show a36 ?_;let q:=dI.mp h r.b ((hb.2 _).mpr (r,hr,.inl rfl));simp at q;show q
def laid_ok(hb:a0X (l++o) bs):Can (join (pcs (laidF l o) bs))/\(∀t,val (join (pcs (laidF l o) bs)) t=laidF l o t)/\(join (pcs (laidF l o) bs)).length<=bs.length:=by
 show b3p hb.1 (λt b _ c d=>?_) λt h=>?_
 .unfold laidF val;rw[a1H (λr a=>cQ _ a) hb c d,a1H (λr a=>bY _ a) hb c d]
 .unfold laidF;rw[a1p λr a=>a4H hb h (cQ _ a),a1p λr a=>a4H hb h (bY _ a)]
  rfl
def b8y{P Q:List Rw}{bs:List Int}(hb:a0X (P++Q) bs):Can (join (pcs (λt=>dif (lastAt P t) (lastAt Q t)) bs))/\(∀t,val (join (pcs (λt=>dif (lastAt P t) (lastAt Q t)) bs)) t=dif (lastAt P t) (lastAt Q t))/\(join (pcs (λt=>dif (lastAt P t) (lastAt Q t)) bs)).length<=bs.length:=by
 show b3p hb.1 (λt b _ hbt hm=>?_) λt h=>?_
 .unfold lastAt;rw[a1H (λr hr=>cQ _ ↑hr) hb hbt hm,a1H (λr hr=>bY _ ↑hr) hb hbt hm]
 .let e:∀S:List Rw,(∀r∈S,r∈P++Q)->lastAt S t=.non:=λS hS=>by
   unfold lastAt;rw[dB.mpr λr hr=>by rw[a4H hb h (hS r ↑hr)];decide]
  change dif (lastAt P t) (lastAt Q t)=gV
  rw[e P λr hr=>cQ _ hr,e Q λr hr=>bY _ hr]
  rfl
theorem b0H:∀{l:List Rw},val (l.map λr=>(r.b,r.e,h r.w)) t=(val l t).map h
 |[]=>rfl
 |r::l=>by
  rw[bx,a0k,a0k,b0H]
  change (if r.has t=kz then _ else _)=_
  split<;>rfl
def b2y{h:List Z->List Z}(g:Rise l):Rise (l.map λr=>(r.b,r.e,h r.w)):=by
 show(λr c=>?_,?_)
 .let(s,a,rfl):=bC.mp c;show g.1 s a
 .rw[dE];show g.2
def a79(g:Can l):Can (l.filter q):=(λr a=>g.1 r (cL.mp a).1,g.2.sublist d8)
theorem a39:∀{l:List Rw},Rise l->val (l.filter λr=>q r.w) t=(val l t).filter q
 |[],_=>rfl
 |r::l,g=>by
  rw[cu,a0k];let a:=a39 (q:=q) (t:=t) g.tail
  by_cases c:r.has t=kz
  .rw[if_pos c];let n:=a1p λs b=>((bz.mp g.2).1 s b).has c;rw[n]at a
   by_cases d:q r.w=kz
   .rw[if_pos d,a0k,if_pos c];simp[fH,d]
   .rw[if_neg d,a];simp[fH,d]
  .rw[if_neg c]
   split
   .rw[a0k,if_neg c,a]
   .cbv
noncomputable def pr(l:List Rw):List Rw:=l.map λr=>(r.b,r.e,[.tup r.w])
noncomputable def fstZ:Z->Z
 |.tup (x::_)=>x
 |_=>.non
noncomputable def sndZ:Z->Z
 |.tup (_::y::_)=>y
 |_=>.non
noncomputable def hw:List Z->List Z
 |[p,o]=>[if p=.non then fstZ o else fstZ p,if o=.non then sndZ p else sndZ o]
 |w=>w
noncomputable def unW:List Z->Bool
 |[x,y]=>decide (x≠y)
 |_=>kz
noncomputable def unl(l:List Rw):List Rw:=l.filter λr=>unW r.w
noncomputable def pj(l o:List Rw)(bs:List Int):List Rw:=join ((join (pcs (laidF l o) bs)).map λr=>(r.b,r.e,hw r.w))
noncomputable def cgs(ks:List Str)(L:Str->List Rw):List Cg:=ks.flatMap λk=>(L k).map (Cg.mk k)
noncomputable def a2S(A:List Cg)(k:Str):List Rw:=(A.filter λc=>decide (c.k=k)).map (·.r)
abbrev FZ:=Str->Int->Z
def FF(f:FZ):Prop:=∀k t,flat 0 (f k t)=kz
structure CL (f g:FZ) (A:List Cg):Prop where
 ex:∃ks L,A=cgs ks L/\ks.Pairwise leS/\ks.Nodup/\(∀k,k∉ks->L k=[])/\(∀k∈ks,nmOk k)/\∀k,Can (L k)/\∀t,val (L k) t=dif (f k t) (g k t)
def a7k(nd:ks.Nodup)(k:Str):a2S (cgs ks L) k=if k∈ks then L k else []:=by
 unfold a2S cgs
 induction ks with
 |nil=>rfl
 |cons x ks ih=>
  rw[df,List.filter_append,bp,ih (ci.mp nd).2]
  by_cases c:x=k
  .subst c;rw[if_neg (ci.mp nd).1,if_pos cn,bM,List.filter_eq_self.mpr λc a=>by let(r,_,rfl):=bC.mp a;simp,de];show List.map_id _
  .rw[eQ.mpr λd b=>by let(r,_,rfl):=bC.mp b;o_head c];simp[Ne.symm c]
def b3q(ks:List Str)(L:Str->List Rw):cgs ks L=cgs (ks.filter λk=>!(L k).isEmpty) L:=by
 unfold cgs
 induction ks with
 |nil=>rfl
 |cons x ks ih=>
  rw[df,cu,ih];cases e:L x with
  |nil=>rfl
  |cons r l=>simp[e]
def CL.uniq(a:CL f g A)(b:CL f g B):A=B:=by
 let(j,L,rfl,n,r,l,_,d):=a;let(i,M,rfl,m,p,o,_,c):=b;let e:=funext λk=>a5m (d k).1 (c k).1 λt=>by rw[(d k).2,(c k).2]
 subst e;rw[b3q j,b3q i]
 congr 1
 show a5w (n.sublist d8) (m.sublist d8) ((gF (r.sublist d8) (p.sublist d8)).mpr λk=>?_);rw[cL,cL]
 constructor
 .ext⟨h,q⟩;show(Classical.byContradiction λz=>?_,q);rw[o k z]at q;cases q
 .ext⟨h,q⟩;show(Classical.byContradiction λz=>?_,q);rw[l k z]at q;cases q
def CL.rows(a:CL f g A)(k:Str):Can (a2S A k)/\∀t,val (a2S A k) t=dif (f k t) (g k t):=by
 let(i,L,rfl,h,e,d,_,b):=a;rw[a7k e]
 split
 .show b k
 .next c=>rw[<- d k c];show b k
def a7l{f g:Int->Z}(c:Can l)(h:∀t,val l t=dif (f t) (g t))(hr:r∈l):r.w=[f r.b,g r.b]/\f r.b≠g r.b:=by
 let q:val l r.b=bH r.w:=by
  clear h
  induction l with
  |nil=>cases hr
  |cons s l ih=>
   rw[a0k];let rfl||hr:=bf.mp hr
   .rw[if_pos (a6e (c.1 _ (.head _)))]
   .let:=(((bz.mp c.2).1 r hr).lt).b (c.1 s (.head _))
    let z:s.has r.b=kQ:=by
     cases e:s.has r.b with
     |false=>rfl
     |true=>
      let w:=((bz.mp c.2).1 r hr).lt.has e;rw[a6e (c.1 r (.tail _ hr))]at w;cases w
    rw[z,if_neg (by decide)];show ih c.tail hr
 rw[h]at q;unfold dif at q
 split at q
 .grind
 .next n=>show((bH.inj q).symm,n)
def W2(r:Rw):Prop:=∃x y,r.w=[x,y]/\flat 0 x=kz/\flat 0 y=kz
def CL.w2(a:CL f g A)(hf:FF f)(hg:FF g)(hc:c∈A):W2 c.r/\nmOk c.k:=by
 let(l,L,rfl,m,n,j,i,b):=a;let(k,d,e):=d9.mp hc;let(r,h,rfl):=bC.mp e;show((_,_,(a7l (b k).1 (b k).2 h).1,hf _ _,hg _ _),i k d)
def CL.nil(f:FZ):CL f f []:=([],λ_=>[],rfl,.nil,.nil,λ_ _=>rfl,λ_ h=>(nomatch h),λk=>(Can.nil,λt=>by unfold dif;rw[if_pos rfl];rfl))
noncomputable def rev2:List Z->List Z
 |[x,y]=>[y,x]
 |w=>w
noncomputable def turn(A:List Cg):List Cg:=A.map λc=>(c.k,(c.r.b,c.r.e,rev2 c.r.w))
def b5s(x y:Z):(dif x y).map rev2=dif y x:=by
 unfold dif
 by_cases c:x=y
 .rw[if_pos c,if_pos c.symm];rfl
 .rw[if_neg c,if_neg (Ne.symm c)];rfl
noncomputable def CL.turn(a:CL f g A):CL g f (turn A):=by
 let(j,L,rfl,d,o,l,n,c):=a;show(j,λk=>(L k).map λr=>(r.b,r.e,rev2 r.w),?_,d,o,λk p=>by change (L k).map _=[];rw[l k p];rfl,n,λk=>((?_,?_),λt=>by rw[b0H,(c k).2,b5s]))
 .unfold Lw.turn cgs;rw[List.map_flatMap]
  congr 1
  funext k
  rw[de,de]
  rfl
 .show (b2y (c k).1.rise).1
 .rw[dE];show cV.imp_of_mem (λ{r s} x v h=>?_) (c k).1.2;let(e,y,B,m):=h;show(e,y,B,λz q=>m z ?_);let i:=(a7l (c k).1 (c k).2 x).1;let u:=(a7l (c k).1 (c k).2 v).1;rw[i,u]at q ⊢;simp only[rev2,b9.injEq,and_true]at q ⊢;show q.symm
structure CB (A:List Cg):Prop where
 ks:∃ns:List Str,ns.length<=4/\∀c∈A,c.k∈ns
 ln:∀k,(a2S A k).length<=150
 all:A.length<=600
noncomputable def CB.turn(h:CB A):CB (turn A):=by
 let((i,j,b),g,a):=h;show((i,j,λc e=>?_),λk=>?_,by unfold Lw.turn;rw[a9];show a)
 .let(d,f,rfl):=bC.mp e;show b d f
 .let:=g k
  unfold a2S Lw.turn at *;rw[List.filter_map,a9,a9];rw[a9]at this;show this
def CB.nil:CB []:=(([],by simp,λ_ h=>(nomatch h)),λk=>by simp[a2S],by simp)
abbrev a6p:Str:=Str.ofString "last"
abbrev b0I:Str:=Str.ofString "kept"
noncomputable def shF(n:Int)(d:Addr):List (Str×Z):=[(a6p,.int n,),(b0I,.ref d,)]
def c0D:¬ (a6p=b0I):=by decide +kernel
def b5t:putQ b0I (.ref d) [(a6p,.int n,)]=shF n d:=by
 rfl
def b5u:putQ a6p (.int m) (shF n d)=shF m d:=rfl
def a2H:(shF n d).lookup a6p=bH (.int n):=rfl
def a6q:(shF n d).lookup b0I=bH (.ref d):=rfl
def a4I(h1:(m==a6p)=kQ)(h2:(m==b0I)=kQ):(shF n d).lookup m=gV:=by
 unfold shF;rw[cv,h1,cv,h2];rfl
abbrev enZ(e:Int×Addr):Z:=.tup [.int e.1,.ref e.2]
structure Hist (G:Hq) (S:Addr->Prop) (T:List Tl) (k:Str) (h:Addr) (es:List (Int×Addr)):Prop where
 s:S h
 at_:G h=bH (.lst (es.map enZ))
 ix:es.map (·.1)=ix T k
 ne:es≠[]
 ln:∀e∈es,S e.2/\∃L,G e.2=bH (.lst (L.map Rw.z))/\IsLine (T.take e.1.toNat) k L
def Rec(G:Hq)(S:Addr->Prop)(T:List Tl)(k:Str)(h:Addr):Prop:=∃es,Hist G S T k h es
def Rec.keepL(H:Rec G S T k h)(q:∀x ws,S x->G x=bH (.lst ws)->G' x=bH (.lst ws)):Rec G' S T k h:=by
 let(b,H):=H;show(b,H.s,q _ _ H.s H.at_,H.ix,H.ne,λe d=>let (s,L,a,c):=H.ln e d;(s,L,q _ _ s a,c))
structure ShM (a:Ad) (G:Hq) (p:Addr) (S:Addr->Prop) (T:List Tl) (n:Int) (dx d:Addr) (kvs:List (Key×Z)):Prop where
 ob:G p=bH (.ins a.c_Sheet dx (shF n d))
 sp:S p
 sd:S d
 dc:G d=bH (.dK kvs)
 len:kvs.length<=T.length
 no:∀k,valZ kvs (.inr k)=gV->ix T k=[]
 hs:∀k z,valZ kvs (.inr k)=bH z->∃h,z=.ref h/\Rec G S T k h
 inj:∀k k' z,valZ kvs (.inr k)=bH z->valZ kvs (.inr k')=bH z->k=k'
 al:∀b,S b->∃o,G b=bH o
 nd:(kvs.map (·.1)).Nodup
 sk:∀q∈kvs,∃s,q.1=Sum.inr s
def Sheet(a:Ad)(G:Hq)(p:Addr)(S:Addr->Prop)(T:List Tl):Prop:=∃dx d kvs,ShM a G p S T T.length dx d kvs
def KS(S:Addr->Prop)(G G':Hq):Prop:=∀b o,S b->G b=bH o->G' b=bH o
def KN(S:Addr->Prop)(G G':Hq):Prop:=∀b o,¬ S b->G b=bH o->G' b=bH o
def Sm.ks(s:Sm G G'):KS S G G':=λb o _ e=>s b o e
def Sm.kn(s:Sm G G'):KN S G G':=λb o _ e=>s b o e
def KN.trans(a:KN S G G1)(b:KN S G1 G2):KN S G G2:=λc o n e=>b c o n (a c o n e)
def ShM.keep{a:Ad}{G G':Hq}{p:Addr}{S:Addr->Prop}{T:List Tl}{n:Int}{dx d:Addr}{kvs:List (Key×Z)}(H:ShM a G p S T n dx d kvs)(q:KS S G G'):ShM a G' p S T n dx d kvs:=
 (q _ _ H.sp H.ob,H.sp,H.sd,q _ _ H.sd H.dc,H.len,H.no,λk z e=>let (h,c,g):=H.hs k z e;(h,c,g.keepL λx ws s e=>q x _ s e),H.inj,(λb hb=>let (o,e):=H.al b hb;(o,q b o hb e)),H.nd,H.sk)
def Sheet.keep{a:Ad}{G G':Hq}{p:Addr}{S:Addr->Prop}{T:List Tl}(H:Sheet a G p S T)(q:KS S G G'):Sheet a G' p S T:=let (dx,d,kvs,h):=H;(dx,d,kvs,h.keep q)
structure ShV (a:Ad) (G:Hq) (p:Addr) (S:Addr->Prop) (T:List Tl) (n:Int) (dx d:Addr) (kvs:List (Key×Z)):Prop where
 ob:G p=bH (.ins a.c_Sheet dx (shF n d))
 sp:S p
 sd:S d
 dc:G d=bH (.dK kvs)\/G d=bH (.dF kvs)
 len:kvs.length<=T.length
 no:∀k,valZ kvs (.inr k)=gV->ix T k=[]
 hs:∀k z,valZ kvs (.inr k)=bH z->∃h,z=.ref h/\Rec G S T k h
 al:∀b,S b->∃o,G b=bH o
 nd:(kvs.map (·.1)).Nodup
 sk:∀q∈kvs,∃s,q.1=Sum.inr s
noncomputable def ShM.v{a:Ad}{G:Hq}{p:Addr}{S:Addr->Prop}{T:List Tl}{n:Int}{dx d:Addr}{kvs:List (Key×Z)}(H:ShM a G p S T n dx d kvs):ShV a G p S T n dx d kvs:=(H.ob,H.sp,H.sd,.inl H.dc,H.len,H.no,H.hs,H.al,H.nd,H.sk)
def ShV.keep{a:Ad}{G G':Hq}{p:Addr}{S:Addr->Prop}{T:List Tl}{n:Int}{dx d:Addr}{kvs:List (Key×Z)}(H:ShV a G p S T n dx d kvs)(q:KS S G G'):ShV a G' p S T n dx d kvs:=
 (q _ _ H.sp H.ob,H.sp,H.sd,H.dc.imp (q _ _ H.sd) (q _ _ H.sd),H.len,H.no,λk z e=>let (h,c,g):=H.hs k z e;(h,c,g.keepL λx ws s e=>q x _ s e),(λb hb=>let (o,e):=H.al b hb;(o,q b o hb e)),H.nd,H.sk)
def SheetV(a:Ad)(G:Hq)(p:Addr)(S:Addr->Prop)(T:List Tl):Prop:=∃dx d kvs,ShV a G p S T T.length dx d kvs
noncomputable def Sheet.v{a:Ad}{G:Hq}{p:Addr}{S:Addr->Prop}{T:List Tl}(H:Sheet a G p S T):SheetV a G p S T:=let (dx,d,kvs,h):=H;(dx,d,kvs,h.v)
def SheetV.keep{a:Ad}{G G':Hq}{p:Addr}{S:Addr->Prop}{T:List Tl}(H:SheetV a G p S T)(q:KS S G G'):SheetV a G' p S T:=let (dx,d,kvs,h):=H;(dx,d,kvs,h.keep q)
def c0w{A B:Prop}(h:B):if (!true)=kz then A else B:=h
def b5v(h:t σ G λws G1=>sp ws G1 R EE):a91 sp EE t σ G R:=h
def b5w{EE:Addr->Hq->Prop}{C:Addr}{te:E3}{nq:C3}{rt:K3}{bk ct:C3}{σ:S3}{G:Hq}(h:te σ G λ_ G1=>EE C G1):b3a EE C te nq rt bk ct σ G:=h
def b5x(h:to σ G λx G1=>∃q dx fs,x=.ref q/\G1 q=bH (.ins C dx fs)/\fs.lookup m=gV/\t σ G1 λws G2=>sp (.ref q::ws) G2 R EE):a92 C m sp EE to t σ G R:=h
local macro_rules | `(tactic| walk_at "go1")=>`(tactic| with_reducible first | apply if_nf | apply c0w | apply b5v | apply b5w | apply b5x)
def a3z(a:Ad):P3:=λws G R=>∃x,ws=[x]/\Th G x/\∀G',Sm G G'->if a2F x=kz then R .non G' else False
set_option tactic.hygienic true in
def a3A(T:Txt K mg a):Cal P w K mg base CX0 2 "check_name" (lowP K (a3z a)):=by
 show fnc 1 (N:=["thing"]) T.br (T.f 13 _ rfl) ?_;walk_at "in";show(_,(a0A (z_if (by ac_rfl)
  (a0A a84)
  a1S)),?_)
 let(x,rfl,hx,q):=h;lk;show(_,rfl,hx,λG' s1=>?_);let q':=q G' s1;lk;show ifNB (λc=>?_) λc=>?_
 .rw[c]at q'
  first |show bj q' | (lk;show q')
 .rw[c]at q'
  first |show bj q' | (lk;show q')
def a2n(a:Ad):P3:=λws G R=>∃x y,ws=[x,y]/\Th G x/\Th G y/\∀G',Sm G G'->if strB x y=kz then R .non G' else False
set_option tactic.hygienic true in
def a2o(T:Txt K mg a):Cal P w K mg base CX0 3 "check_stretch" (lowP K (a2n a)):=by
 show fnc 2 (N:=["begin","end"]) T.br (T.f 17 _ rfl) ?_;walk_at "in";show(_,(a0A (z_if (by ac_rfl)
  (a0A a84)
  a1S)),?_)
 let(x,y,rfl,hx,hy,q):=h;lk;show(_,_,rfl,hx,hy,λG' s1=>?_);let q':=q G' s1;lk;show ifNB (λc=>?_) λc=>?_
 .rw[c]at q'
  first |show bj q' | (lk;show q')
 .rw[c]at q'
  first |show bj q' | (lk;show q')
structure Tel (G:Hq) (z:Z) (h:Z) (nm:List Z) (x y:Z):Prop where
 e:z=.tup (h::(nm++[x,y]))
 l:(∃k,nm=[k])\/∃k w,nm=[k,w]
 n:∀z∈nm,Th G z
 x:Th G x
 y:Th G y
def Tel.sm{x y:Z}(T:Tel G z h nm x y)(s:Sm G G'):Tel G' z h nm x y:=(T.e,T.l,λz a=>(T.n z a).sm s,T.x.sm s,T.y.sm s)
def a2p(a:Ad):P3:=λws G R=>Ex5 λ(z h:Z) (nm:List Z) (x y:Z)=>ws=[z]/\Tel G z h nm x y/\∀G',Sm G G'->if nm.all a2F=kz then (if strB x y=kz then R .non G' else False) else False
def c0x:cutZ [h,k,x,y] (bH 1) (bH (-2))=[k]:=rfl
def c0y{h k w x y:Z}:cutZ [h,k,w,x,y] (bH 1) (bH (-2))=[k,w]:=rfl
def a5D{l:List Z}(h:x∈l)(c:f x=kQ):l.all f=kQ:=List.all_eq_false.mpr (x,h,by rw[c];decide)
def a7m{l:List Z}(h:(l.take i).all f=kz)(e:l[i]?=bH x)(c:f x=kz):(l.take (i+1)).all f=kz:=by
 rw[cG,List.all_append,h,e]
 change (kz&&([x].all f))=kz
 rw[bJ,c];rfl
set_option tactic.hygienic true in
def a2q(T:Txt K mg a):Cal P w K mg base CX0 4 "check_telling" (lowP K (a2p a)):=by
 show fnc 1 (N:=["telling","name"]) T.br (T.f 18 _ rfl) ?_;walk_at "in";show(_,(a0c (a1K (pt:=(.nm 1)) h9.never rfl (b62 (by ac_rfl)) (p_nm (nmI 1 nd))
  (by ac_rfl))
  (by ac_rfl)),?_)
 let(z,h,nm,x,y,rfl,(rfl,hl,hn,hx,hy),q):=h;let(k,rfl)||(k,w,rfl):=hl
 .change uSeq _ _ _ _ _ _ (a1L _ [.tup [h,k,x,y]]) _
  lk;show a9o (show ¬ (HT.sIx 4 0 (bH 1)=0/\HT.sIx 4 4 (bH (-2))=4) by decide) ?_;rw[c0x];lk;show a0E (λi σ G'=>∃(v:Option Z),An3 (Sm G G') ((([k]:List Z).take i).all a2F=kz) (σ=[bH (.tup [h,k,x,y]),v])) (_,Sm.refl _,rfl,rfl) (λ_ _ _ _ _=>True.intro) ?_ ?_
  .ext i u σ G' hu ⟨v,s,ha,rfl⟩;let hm:=bB hu;show(_,rfl,?_);lk;show(u,rfl,(hn u hm).sm s,λG1 s1=>?_);let q':=q G1 (s.trans s1);show ifB (λc=>?_) λc=>?_
   .lk;show(_,s.trans s1,a7m ha hu c,rfl)
   .rw[a5D hm c]at q';show q'
  .ext σ G' ⟨v,s,ha,rfl⟩;let ha:([k]:List Z).all a2F=kz:=ha;lk;show(x,y,rfl,hx.sm s,hy.sm s,λG1 s1=>?_);let q':=q G1 (s.trans s1);rw[ha]at q';show ifB (λc=>?_) λc=>?_
   .rw[c]at q';lk;show q'
   .rw[c]at q';show q'
 .change uSeq _ _ _ _ _ _ (a1L _ [.tup [h,k,w,x,y]]) _
  lk;show a9o (show ¬ (HT.sIx 5 0 (bH 1)=0/\HT.sIx 5 5 (bH (-2))=5) by decide) ?_;rw[c0y];lk;show a0E (λi σ G'=>∃(v:Option Z),An3 (Sm G G') ((([k,w]:List Z).take i).all a2F=kz) (σ=[bH (.tup [h,k,w,x,y]),v])) (_,Sm.refl _,rfl,rfl) (λ_ _ _ _ _=>True.intro) ?_ ?_
  .ext i u σ G' hu ⟨v,s,ha,rfl⟩;let hm:=bB hu;show(_,rfl,?_);lk;show(u,rfl,(hn u hm).sm s,λG1 s1=>?_);let q':=q G1 (s.trans s1);show ifB (λc=>?_) λc=>?_
   .lk;show(_,s.trans s1,a7m ha hu c,rfl)
   .rw[a5D hm c]at q';show q'
  .ext σ G' ⟨v,s,ha,rfl⟩;let ha:([k,w]:List Z).all a2F=kz:=ha;lk;show(x,y,rfl,hx.sm s,hy.sm s,λG1 s1=>?_);let q':=q G1 (s.trans s1);rw[ha]at q';show ifB (λc=>?_) λc=>?_
   .rw[c]at q';lk;show q'
   .rw[c]at q';show q'
def a10(a:Ad):PX3:=λws G R EE=>∃q n:Int,ws=[.int q,.int n]/\if 0<=q/\q<=n then R .non G else EE a.x_NoKnowing G
set_option tactic.hygienic true in
def a11(T:Txt K mg a):Cal P w K mg base (CXx P w) 1 "check_in_reach" (a2f K (a10 a)):=by
 show fncX 2 (N:=["knowing","last"]) T.br (T.f 12 _ rfl) ?_;walk_at "inx";show(_,(a0A (z_if (by ac_rfl)
  (a0A (b4K Outs.of ux rfl rfl T.x_NoKnowing T.xi_NoKnowing b6G (se_ rfl) b2R))
  a1S)),?_)
 let(q,n,rfl,k):=h;lk;show ifD (λc=>?_) λc=>?_
 .rw[if_neg (by lia)]at k;lk;show k
 .lk;show ifD (λc2=>?_) λc2=>?_
  .rw[if_neg (by lia)]at k;lk;show k
  .rw[if_pos (by lia)]at k;lk;show k
def a2Z:P3:=λws G R=>∃(l:Addr)(L:List Rw)(τ:Tl),ws=[.ref l,τ.z]/\G l=bH (.lst (L.map Rw.z))/\Rise L/\Plain L/\L.length<=400/\τ.Ok /\
 ∀t G',G t=gV->Sm G G'->G' t=bH (.lst ((a5r L τ.b τ.e (optW τ.v)).map Rw.z))->R (.ref t) G'
def c0z:¬ (a7j=sPut):=by decide +kernel
set_option tactic.hygienic true in
def a1s(T:Txt K mg a):Cal P w K mg base CX0 4 "line_behind" (lowP K a2Z):=by
 show fnc 2 (N:=["line","telling","worth"]) T.br (T.f 19 _ rfl) ?_;walk_at "in";show(_,(by ac_rfl),?_);let(l,L,(key,w,b,e),rfl,hl,hr,hp,hz,ok,q):=h;let hb:=ok.st.bef;let hv:=ok.v;cases w with
 |none=>
  unfold Tl.z;lk;show ifD (λc=>absurd c c0z) λ_=>?_;lk;show(l,L,b,e,.non,rfl,hl,hr,hp.okR,hp.one,by lia,hb,rfl,q)
 |some w=>
  unfold Tl.z;lk;show ifD (λ_=>?_) λc=>absurd rfl c;lk;show(l,L,b,e,.str w,rfl,hl,hr,hp.okR,hp.one,by lia,hb,a0p (by decide) hv,q)
def a2I(a:Ad):P3:=λws G R=>∃p dx,ws=[.ref p]/\G p=bH (.ins a.c_Sheet dx [])/\∀d G',G d=gV->(∀b o,G b=bH o->b≠p->G' b=bH o)->Sheet a G' p (λx=>x=p\/x=d) []->R .non G'
set_option tactic.hygienic true in
def a2J(T:Txt K mg a):Mal P w K mg base CX0 1 a.c_Sheet "__init__" (lowP K (a2I a)):=by
 show fnm 1 (N:=["self"]) (T.m_Sheet 4 _ rfl) ?_;walk_at "in";show(_,(a0c (b7Q T.cl_Sheet (T.n_Sheet 0 _ rfl) (qv 0) a80)
  (a0A (b7Q T.cl_Sheet (T.n_Sheet 1 _ rfl) (qv 0) a9l))),?_)
 let(p,dx,rfl,hp,q):=h;lk;show(p,dx,[],rfl,hp,by decide,?_);lk;ext d hd;let hpd:p≠d:=a0i a0a hd;lk;show(p,dx,[(a6p,.int 0,)],rfl,by rw[a0h hpd];show a0a,by decide,?_);rw[b5t];lk;let hd0:G d=gV:=by rw[a0h (Ne.symm hpd)]at hd;show hd
 show q d _ hd0 (λb o e nb=>?_) (dx,d,[],(a0a,.inl rfl,.inr rfl,?_,by simp,λk _=>rfl,(λk z e=>by cases e),(λk k' z e=>by cases e),?_,.nil,λq hq=>by simp at hq))
 .rw[a0h nb,a0h (a0i e hd0),a0h nb];show e
 .rw[a0h (Ne.symm hpd)];show a0a
 .ext b (rfl |rfl)
  .show(_,a0a)
  .show(_,by rw[a0h (Ne.symm hpd)];show a0a)
def a1x(a:Ad):PX3:=λws G R EE=>Ex4 λ(p:Addr) (S:Addr->Prop) (T:List Tl) (q:Int)=>ws=[.ref p,.int q]/\SheetV a G p S T/\if 0<=q/\q<=T.length then R .non G else EE a.x_NoKnowing G
set_option tactic.hygienic true in
def a0N(T:Txt K mg a):Mal P w K mg base (CXx P w) 2 a.c_Sheet "check_knowing" (a2f K (a1x a)):=by
 show fnmX 2 (N:=["self","knowing"]) (T.m_Sheet 0 _ rfl) ?_;walk_at "inx";show(_,(a0A (a3h (q_cX (a13 Outs.of) ux.since (a11 T) hr (q_k (qv 1) (q_k (a57 T.cl_Sheet (T.n_Sheet 0 _ rfl) (qv 0)) a0x)) ))),?_);let(p,S,T',q,rfl,(dx,d,kvs,sh),k):=h;lk;show(p,dx,_,_,rfl,sh.ob,a2H,?_);lk;show(q,_,rfl,?_)
 by_cases c:0<=q/\q<=T'.length
 .rw[if_pos c]at k ⊢;lk;show k
 .rw[if_neg c]at k ⊢;show k
def a12(a:Ad):P3:=λws G R=>Ex9 λ(p:Addr) (S:Addr->Prop) (T:List Tl) (k:Str) (q:Int) (n:Int) (dx d:Addr) (kvs:List (Key×Z))=>ws=[.ref p,.str k,.int q]/\ShV a G p S T n dx d kvs/\0<=q/\q<=T.length/\T.length<=200 /\
 ∀t L G',G t=gV->Sm G G'->G' t=bH (.lst (L.map Rw.z))->IsLine (T.take q.toNat) k L->R (.ref t) G'
def b5y(l:List Rw):l.filterMap (λr=>bH r)=l:=by simp
def a0F(T:Txt K mg a):Mal P w K mg base CX0 1 a.c_Sheet "known_line" (lowP K (a12 a)):=by
 show fnm 3 (N:=["self","key","knowing","since","line"]) (T.m_Sheet 1 _ rfl) ?_ (len:=λws G R h=>(by let(_,_,_,_,_,_,_,_,_,rfl,_):=h;rfl));walk_at "in";show(_,(a0c (a1K (pt:=(.tp [3,4])) h9.never rfl (a3r rfl (T.b 11) (q_k (q_bm PySem.F.plainAttrs_dict PySem.F.slot_dict_get PySem.F.type_dict_get (b28 hu) (a57 T.cl_Sheet (T.n_Sheet 1 _ rfl) (qv 0)) (by ac_rfl)) a0x)) (by ac_rfl)
  (a0A (z_if (by ac_rfl)
  (a0A (a16 (q_l ["begin","end","worth"] [gV,gV,gV] (.tp [0,1,2]))))
  a1S)))
  (by ac_rfl)),?_)
 let(p,S,T,k,q,n,dx,d,kvs,rfl,sh,h0,h1,hT,fin):=h;let(q,rfl):=dC h0;lk;show(p,dx,_,_,rfl,sh.ob,a6q,?_);show b95 sh.dc ?_;lk;show(lenK rfl,λt0 ht0=>?_);lk;show b4E (sh.dc.imp (λe=>a0b e ht0) λe=>a0b e ht0) rfl ?_;let s0:Sm G (put G t0 (.lst [])):=Sm.new ht0;let none_:(∀i∈ix T k,(q:Int)<i)->∀(v1 v2:Option Z)(G1:Hq),Sm G G1->∀t,G1 t=gV->R (.ref t) (put G1 t (.lst [])):=λhi _ _ G1 s1 t ht=>
  fin t [] _ (s1.free ht) (s1.trans (Sm.new ht)) a0a (by
   let e:((q:Int)).toNat=q:=by lia
   rw[e];show IsLine.nil (a5C hi))
 cases hv:valZ kvs (.inr k) with
 |none=>
  lk;show(t0,[],rfl,a0a,?_);show a0E (λi σ G'=>Ex2 λ(v1 v2:Option Z)=> σ=[bH (.ref p),bH (.str k),bH (.int q),v1,v2]/\G'=put G t0 (.lst [])) (_,_,rfl,rfl) (by ext i σ G' _ ⟨_,_,_,e⟩;show by rw[e];show a0a) ?_ ?_
  .ext i x σ G' hx _;simp at hx
  .ext σ G' ⟨v1,v2,rfl,rfl⟩;lk;show(lenK rfl,λt ht=>?_);show none_ (λi hi=>by rw[sh.no k hv]at hi;simp at hi) v1 v2 _ s0 t ht
 |some z=>
  let(h,rfl,es,H):=sh.hs k z hv;lk;show(h,_,rfl,a0b H.at_ ht0,?_);rw[<- gE];show a0E (λi σ G'=>Ex2 λ(v1 v2:Option Z)=>An3 (∀(j:Nat) e,j<i->es.reverse[j]?=bH e->(q:Int)<e.1) (σ=[bH (.ref p),bH (.str k),bH (.int q),v1,v2]) (G'=put G t0 (.lst []))) (_,_,λj e hj=>by lia,rfl,rfl) (by ext i σ G' _ ⟨_,_,_,_,e⟩;show by rw[e];show a0b H.at_ ht0) ?_ ?_
  .ext i x σ G' hx ⟨v1,v2,hall,rfl,rfl⟩;rw[bo]at hx;cases hx':es.reverse[i]? with
   |none=>rw[hx']at hx;cases hx
   |some e=>
   rw[hx']at hx;cases hx;let(s,l):=e;let hmem:(s,l,)∈es:=by let:=bB hx';o_head this
   let hix:s∈ix T k:=by rw[<- H.ix];show bV (f:=(·.1)) hmem
   let(hs1,hs2):=b8w hix;let(_,L,gl,il):=H.ln _ hmem;show(_,rfl,?_);lk;show ifD (λc=>?_) λc=>?_
   .lk;show a1u (a0b gl ht0) ?_;ext D hD;let hone:=il.pl.one;let hll:L.length<=1000:=by let:=il.len;rw[bE]at this;lia
    show a1Z (g':=Rw.z) (λr=>bH r) (λys=>a0b (a0b gl ht0) hD) hll ?_ ?_
    .ext r hr ys K1 K2 k1 k2;let(x,hx):=hone r hr;let(b,e,w):=r;cases hx;show(_,rfl,?_);lk;show(lenK rfl,?_);show k1 (b,e,[x]) rfl
    .rw[b5y];show fin D L _ (s0.free hD) (s0.trans (Sm.new hD)) a0a ?_;let e1:((q:Int)).toNat=q:=by lia
     rw[e1];let il':IsLine (T.take s.toNat) k L:=il;show il'.cut (by lia) λj hj=>?_;rw[<- H.ix]at hj;let(e2,he2,rfl):=bC.mp hj
     by_cases c2:e2.1<=s
     .left;lia
     .right
      let he3:e2∈es.reverse:=↑he2
      let(m,hm):=cb he3
      by_cases hmi:m<i
      .show hall m e2 hmi hm
      .exfalso;let hst:(ix T k).Pairwise (·<·):=b0G T k
       rw[<- H.ix]at hst;let hst2:es.reverse.Pairwise (λx y=>y.1<x.1):=by
        rw[List.pairwise_reverse];show dE.mp hst
       by_cases hmi2:m=i
       .subst hmi2;rw[hx']at hm;cases hm
        lia
       .let(l1,e5):=bh.mp hx';let(l2,e6):=bh.mp hm
        let:=cO.mp hst2 i m l1 l2 (by lia)
        rw[e5,e6]at this;simp only at this
        lia
   .lk;show(_,_,λj e hj he=>?_,rfl,rfl)
    by_cases hji:j<i
    .show hall j e hji he
    .let:j=i:=by lia
     subst this;rw[hx']at he;cases he;simp only
     lia
  .ext σ G' ⟨v1,v2,hall,rfl,rfl⟩;lk;show(lenK rfl,λt ht=>?_);show none_ (λj hj=>?_) v1 v2 _ s0 t ht;rw[<- H.ix]at hj;let(e2,he2,rfl):=bC.mp hj;let he3:e2∈es.reverse:=↑he2
   let(m,hm):=cb he3;show hall m e2 (by rw[a9];show (bh.mp hm).1) hm
def a1I:valZ (putZ kvs k v) j=if j=k then bH v else valZ kvs j:=by
 unfold putZ
 split
 .next hc=>
  let m:∀kvs:List (Key×Z),valZ (kvs.map λkv=>if kv.1=k then (kv.1,v,) else kv) j=(valZ kvs j).map λx=>if j=k then v else x:=by
   ext kvs
   induction kvs with
   |nil=>rfl
   |cons p r ih=>
    unfold valZ at ih ⊢;rw[bx,cr,cr];let h:(if p.1=k then (p.1,v,) else p).1=p.1:=by split<;>rfl
    rw[h];cases c:decide (p.1=j) with
    |false=>show ih
    |true=>
     let d:=of_decide_eq_true c;simp
     by_cases ck:p.1=k
     .simp_all
     .simp_all
  rw[m]
  by_cases c:j=k
  .subst c;let(p,f,g):=cK.mp hc
   let:(kvs.find? λkv=>decide (kv.1=j)).isSome=kz:=gG.mpr (p,f,g)
   unfold valZ;cases e:kvs.find? λkv=>decide (kv.1=j) with
   |none=>rw[e]at this;cases this
   |some q=>simp
  .simp_all
 .next hc=>
  unfold valZ;rw[gz]
  by_cases c:j=k
  .subst c
   let:kvs.find? (λkv=>decide (kv.1=j))=gV:=by
    rw[dB];ext p i l;show hc (cK.mpr (p,i,l))
   rw[this];simp
  .rw[if_neg c]
   let:[(k,v,)].find? (λkv=>decide (kv.1=j))=gV:=by simp;show λz=>c z.symm
   rw[this,Option.or_none]
def b2z{kvs:List (Key×Z)}{k:Key}{v:Z}:(putZ kvs k v).length<=kvs.length+1:=by
 unfold putZ
 split<;>simp
def Hist.ne_row{L:List Rw}(H:Hist G S T k h es)(e:G x=bH (.lst (L.map Rw.z))):x≠h:=λz=>by
 subst z
 let:=e.symm.trans H.at_
 let b:L.map Rw.z=es.map enZ:=by simp_all
 cases es with
 |nil=>show H.ne rfl
 |cons a es=>
  cases L with
  |nil=>simp at b
  |cons r L=>
   let c:=(b9.inj b).1;simp only[Rw.z,Z.tup.injEq,b9.injEq]at c;let(i,d,g):=r;let f:=c.2.1;cases d<;>cases f
def a5E(h:valZ kvs k=gV):∀q∈kvs,q.1≠k:=λq b e=>by
 unfold valZ at h
 let:(kvs.find? λa=>decide (a.1=k)).isSome=kz:=gG.mpr (q,b,decide_eq_true e)
 cases e2:kvs.find? λa=>decide (a.1=k) with
 |none=>rw[e2]at this;cases this
 |some x=>rw[e2]at h;cases h
def a6r(h:valZ kvs k=gV):putZ kvs k v=kvs++[(k,v,)]:=by
 unfold putZ;rw[if_neg λz=>?_];let(q,a,b):=cK.mp z;show a5E h q a (of_decide_eq_true b)
def b8z(h:valZ kvs k=gV)(nd:(kvs.map (·.1)).Nodup):((putZ kvs k v).map (·.1)).Nodup:=by
 rw[a6r h,bp,cH];show(nd,by simp,λx a y c=>?_);let(q,b,rfl):=bC.mp a
 let:y=k:=↑c
 rw[this];show a5E h q b
def b8A(sk:∀q∈kvs,∃s,q.1=Sum.inr s):∀q∈putZ kvs (.inr k) v,∃s,q.1=Sum.inr s:=λq a=>by
 unfold putZ at a
 split at a
 .let(d,c,e):=bC.mp a;let(s,b):=sk d c;show(s,?_);rw[<- e]
  split
  .cbv
  .cbv
 .let a||a:=be.mp a
  .show sk q a
  .show(k,by rw[bg.mp a])
def a2r(a:Ad):P3:=λws G R=>Ex9 λ(p:Addr) (S:Addr->Prop) (T:List Tl) (τ:Tl) (l:Addr) (L:List Rw) (dx d:Addr) (kvs:List (Key×Z))=>ws=[.ref p,.str τ.key,.ref l]/\ShM a G p S T ((T.length:Int)+1) dx d kvs/\G l=bH (.lst (L.map Rw.z))/\¬ S l/\IsLine (T++[τ]) τ.key L/\T.length<=200 /\
 ∀(S':Addr->Prop) G',(∀b,S b->S' b)->(∀b,S' b->S b\/b=l\/G b=gV)->KN S G G'->Sheet a G' p S' (T++[τ])->R .non G'
def a4J(h:s∈ix T k):(T++[τ]).take s.toNat=T.take s.toNat:=by
 let:=b8w h
 rw[eI (by lia)]
def a7n:(T++[τ]).take ((T.length:Int)+1).toNat=T++[τ]:=by
 rw[cj];rw[bu,eU]
 lia
def a2s(T:Txt K mg a):Mal P w K mg base CX0 1 a.c_Sheet "keep_line" (lowP K (a2r a)):=by
 show fnm 3 (N:=["self","key","line"]) (T.m_Sheet 5 _ rfl) ?_ (len:=λws G R h=>(by let(_,_,_,_,_,_,_,_,_,rfl,_):=h;rfl));walk_at "in";show(_,(a0A (a3h (q_bm PySem.F.plainAttrs_list PySem.F.slot_list_append PySem.F.type_list_append a6L (q_bm PySem.F.plainAttrs_dict PySem.F.slot_dict_setdefault PySem.F.type_dict_setdefault a2P (a57 T.cl_Sheet (T.n_Sheet 1 _ rfl) (qv 0)) (by ac_rfl)) (q_k (b1o (q_k (a57 T.cl_Sheet (T.n_Sheet 0 _ rfl) (qv 0)) (q_k (qv 2) a0x))) a0x)))),?_);let(p,S,T,τ,l,L,dx,d,kvs,rfl,sh,gl,nl,il,hT,q):=h;lk;show(p,dx,_,_,rfl,sh.ob,a6q,?_);show b4F sh.dc ?_;lk;show(lenK rfl,λt0 ht0=>?_);lk;let npd:p≠d:=λz=>by let e:=sh.ob;rw[z,sh.dc]at e;cases e
 let hlen:((T++[τ]).length:Int)=(T.length:Int)+1:=by simp
 show b7Y (a0b sh.dc ht0) rfl (a0d (by let:=sh.len;lia)) (λz hz=>?_) λhz=>?_
 .let(h,rfl,es,H):=sh.hs _ z hz;let hpe:p≠h:=λz=>by let e:=sh.ob;rw[z,H.at_]at e;cases e
  let hde:d≠h:=λz=>by let e:=sh.dc;rw[z,H.at_]at e;cases e
  let hle:l≠h:=λz=>nl (z▸H.s);show a0Y (a0b H.at_ ht0) ?_;lk;show(p,dx,_,_,rfl,a0b sh.ob ht0,a2H,?_);lk;show(lenK rfl,?_);lk;let hel:es.length<=T.length:=by
   let e1:=congrArg bL H.ix;rw[a9]at e1;rw[e1];show b8x T τ.key
  show a0v (a0b H.at_ ht0) (by rw[a9];show a0d (by lia)) ?_;let keep:∀b o,b≠h->G b=bH o->put (put G t0 (.lst [])) h (.lst (es.map enZ++[.tup [.int ((T.length:Int)+1),.ref l]])) b=bH o:=λb o nb e=>by rw[a0h nb];show a0b e ht0
  show q (λb=>S b\/b=l) _ (λb hb=>.inl hb) (λb hb=>hb.elim .inl λz=>.inr (.inl z)) (λb o nb e=>keep b o (λz=>nb (z▸H.s)) e) (dx,d,kvs,?_);show(by rw[hlen];show keep _ _ hpe sh.ob,.inl sh.sp,.inl sh.sd,keep _ _ hde sh.dc,by let:=sh.len;simp;lia,λk hk=>?_,λk z e=>?_,sh.inj,(λb hb=>?_),sh.nd,sh.sk)
  .rw[a2G,sh.no k hk,if_neg]
   .rfl
   .ext rfl;rw[hz]at hk;cases hk
  .by_cases ck:k=τ.key
   .subst ck;rw[hz]at e;cases e;show(h,rfl,es++[((T.length:Int)+1,l,)],.inl H.s,by rw[a0a,bp];rfl,by rw[bp,H.ix,a2G,if_pos rfl];rfl,by simp,λe he=>?_);let he||he:=be.mp he
    .let(s1,L1,g1,i1):=H.ln e he;show(.inl s1,L1,keep _ _ (H.ne_row g1) g1,?_);rw[a4J (k:=τ.key) (by rw[<- H.ix];show bV (f:=(·.1)) he)];show i1
    .rw[bg.mp he];show(.inr rfl,L,keep _ _ hle gl,?_);rw[a7n];show il
   .let(h',ez,es',H'):=sh.hs k z e;let hh:h'≠h:=λw=>ck (sh.inj k τ.key z e (by rw[hz,ez,w]));show(h',ez,es',.inl H'.s,keep _ _ hh H'.at_,by rw[H'.ix,a2G,if_neg (Ne.symm ck),bM],H'.ne,λe he=>?_);let(s1,L1,g1,i1):=H'.ln e he;show(.inl s1,L1,keep _ _ (H.ne_row g1) g1,?_);rw[a4J (k:=k) (by rw[<- H'.ix];show bV (f:=(·.1)) he)];show i1
  .by_cases c:b=h
   .rw[c];show(_,a0a)
   .let hb||hb:=hb
    .let(o,e):=sh.al b hb;show(o,keep b o c e)
    .rw[hb]at c ⊢;show(_,keep l _ c gl)
 .let hdt:d≠t0:=a0i sh.dc ht0;let hpt:p≠t0:=a0i sh.ob ht0;let hlt:l≠t0:=a0i gl ht0;let gt1:put (put G t0 (.lst [])) d (.dK (putZ kvs (.inr τ.key) (.ref t0))) t0=bH (.lst []):=by rw[a0h (Ne.symm hdt)];show a0a
  show a0Y gt1 ?_;lk;show(p,dx,_,_,rfl,by rw[a0h npd];show a0b sh.ob ht0,a2H,?_);lk;show(lenK rfl,?_);lk;show a0v gt1 (a0d (by decide)) ?_;let keep:∀b o,b≠d->G b=bH o->put (put (put G t0 (.lst [])) d (.dK (putZ kvs (.inr τ.key) (.ref t0)))) t0 (.lst ([]++[.tup [.int ((T.length:Int)+1),.ref l]])) b=bH o:=λb o nb e=>by
   rw[a0h (a0i e ht0),a0h nb];show a0b e ht0
  let nS:∀h',S h'->∀o,G h'=bH o->h'≠t0:=λh' _ o e=>a0i e ht0;show q (λb=>S b\/b=l\/b=t0) _ (λb hb=>.inl hb) (λb hb=>hb.elim .inl λz=>z.elim (λz=>.inr (.inl z)) λz=>.inr (.inr (by rw[z];show ht0))) (λb o nb e=>keep b o (λz=>nb (z▸sh.sd)) e) (dx,d,putZ kvs (.inr τ.key) (.ref t0),?_);show(by rw[hlen];show keep _ _ npd sh.ob,.inl sh.sp,.inl sh.sd,by rw[a0h hdt];show a0a,by let h1:=sh.len;let h2:=@b2z kvs (.inr τ.key) (.ref t0);simp;lia,λk hk=>?_,λk z e=>?_,λk k' z e e'=>?_,(λb hb=>?_),b8z hz sh.nd,b8A sh.sk)
  .rw[a1I]at hk
   split at hk
   .cases hk
   .next c=>
    rw[a2G,sh.no k hk,if_neg λz=>c (by rw[z])]
    rfl
  .rw[a1I]at e
   split at e
   .next c=>
    cases e;let ck:k=τ.key:=↑c
    subst ck;show(t0,rfl,[((T.length:Int)+1,l,)],.inr (.inr rfl),by rw[a0a];rfl,by rw[a2G,sh.no _ hz,if_pos rfl];rfl,by simp,λe he=>?_);rw[bg.mp he];show(.inr (.inl rfl),L,keep _ _ (λz=>by let z':l=d:=z;rw[z',sh.dc]at gl;cases gl) gl,?_);rw[a7n];show il
   .next c=>
    let(h',ez,es',H'):=sh.hs k z e;let hd':h'≠d:=λw=>by let e:=H'.at_;rw[w,sh.dc]at e;cases e
    show(h',ez,es',.inl H'.s,keep _ _ hd' H'.at_,by rw[H'.ix,a2G,if_neg λz=>c (by rw[z]),bM],H'.ne,λe he=>?_);let(s1,L1,g1,i1):=H'.ln e he;show(.inl s1,L1,keep _ _ (λw=>by rw[w,sh.dc]at g1;cases g1) g1,?_);rw[a4J (k:=k) (by rw[<- H'.ix];show bV (f:=(·.1)) he)];show i1
  .rw[a1I]at e e'
   split at e
   .next c=>
    split at e'
    .next c'=>o_head c.trans c'.symm
    .cases e;let(h',ez,es',H'):=sh.hs k' _ e';cases ez;show absurd rfl (nS _ H'.s _ H'.at_)
   .split at e'
    .cases e';let(h',ez,es',H'):=sh.hs k _ e;cases ez;show absurd rfl (nS _ H'.s _ H'.at_)
    .show sh.inj k k' z e e'
  .by_cases c:b=t0
   .rw[c];show(_,a0a)
   .by_cases c2:b=d
    .rw[c2];show(_,by rw[a0h hdt];show a0a)
    .let hb||hb||hb:=hb
     .let(o,e):=sh.al b hb;show(o,keep b o c2 e)
     .rw[hb]at c2 ⊢;show(_,keep l _ c2 gl)
     .show absurd hb c
def a4K(a:Ad):P3:=λws G R=>∃(p:Addr)(S:Addr->Prop)(T:List Tl),Sheet a G p S T/\((∃τ:Tl,ws=[.ref p,τ.z]/\τ.Ok/\T.length<=150 /\
 ∀(S':Addr->Prop) G',(∀b,S b->S' b)->(∀b,S' b->S b\/G b=gV)->KN S G G'->Sheet a G' p S' (T++[τ])->R (.int ((T.length:Int)+1)) G')\/False)
def b8B{τ:Tl}:∃ws,τ.z=.tup ws/\atI ws 1=bH (.str τ.key):=by
 let(k,w,b,e):=τ;cases w<;>show(_,rfl,at1)
def b8C:Th G (oz e):=by cases e<;>show True.intro
def Tl.Ok.tel{τ:Tl}(ok:τ.Ok):∃(h:Z)(nm:List Z),Tel G τ.z h nm (.int τ.b) (oz τ.e)/\nm.all a2F=kz/\strB (.int τ.b) (oz τ.e)=kz:=by
 let(k,w,b,e):=τ;let d:=ok.k;let a:=ok.w;let f:=st_b ok.st;cases w with
 |none=>show(_,[.str k],(rfl,.inl (_,rfl),λz c=>by rw[bg.mp c];show b2w d,True.intro,b8C),by rw[bJ,nm_b d];rfl,f)
 |some w=>
  let a:=a w rfl;show(_,[.str k,.str w],(rfl,.inr (_,_,rfl),λz c=>?_,True.intro,b8C),by rw[bJ,nm_b d,bJ,nm_b a];rfl,f);simp at c;let rfl||rfl:=c
  .show b2w d
  .show b2w a
set_option tactic.hygienic true in
def a4L(T:Txt K mg a):Mal P w K mg base CX0 5 a.c_Sheet "tell" (lowP K (a4K a)):=by
 show fnm 2 (N:=["self","telling","key","line"]) (T.m_Sheet 6 _ rfl) ?_;walk_at "in";show(_,(a0c (by ac_rfl)
  (a0c (by ac_rfl)
  (a0c (z_st (nmI 3 nd) (q_c (a1s T) hr (q_k (q_m (qv 0) T.cl_Sheet (a0F T) hr (q_k (qv 2) (q_k (a57 T.cl_Sheet (T.n_Sheet 0 _ rfl) (qv 0)) a0x)) ) (q_k (qv 1) a0x)) ))
  (a0c (b1S T.cl_Sheet (T.n_Sheet 0 _ rfl) (qv 0) a80 b2U)
  (a0c (a3h (q_m (qv 0) T.cl_Sheet (a2s T) hr (q_k (qv 2) (q_k (qv 3) a0x)) ))
  (a0A (a16 (a57 T.cl_Sheet (T.n_Sheet 0 _ rfl) (qv 0))))))))),?_)
 let(p,S,T,(dx,d,kvs,sh),(τ,rfl,ok,hT,q)||⟨⟨⟩⟩):=h
 lk;let(th,tn,tel,ta,ts):=ok.tel (G:=G);show(_,_,_,_,_,rfl,tel,λG1 s1=>?_);rw[ta,ts];show ifT (ifT ?_);let sh1:=sh.keep (Sm.ks s1);let(ws,ez,ek):=@b8B τ;lk;rw[ez];show a05 ek ?_;rw[<- ez];lk;show(p,dx,_,rfl,sh1.ob,a4I (by decide +kernel) (by decide +kernel),?_);lk;show(p,dx,_,_,rfl,sh1.ob,a2H,?_);lk;show(p,S,T,τ.key,_,_,dx,d,kvs,rfl,sh1.v,by lia,by lia,by lia,λt L G2 ht s2 gt il=>?_);rw[show ((T.length:Int)).toNat=T.length by lia,cm]at il;let sh2:=sh1.keep (Sm.ks s2);lk;let hll:=il.len;show(t,L,τ,rfl,gt,il.can.rise,il.pl,by lia,ok,λu G3 hu s3 gu=>?_);let sh3:=sh2.keep (Sm.ks s3);let S13:=(s1.trans s2).trans s3;let hu0:G u=gV:=(s1.trans s2).free hu;let nu:¬ S u:=λz=>by let(o,e):=sh.al u z;rw[hu0]at e;cases e
 lk;show(p,dx,_,_,rfl,sh3.ob,a2H,?_);lk;show(dx,_,sh3.ob,by change 2<1000;decide,?_);rw[b5u];let hup:u≠p:=λz=>nu (z▸sh.sp);let sh4:ShM a (put G3 p (.ins a.c_Sheet dx (shF ((T.length:Int)+1) d))) p S T ((T.length:Int)+1) dx d kvs:=by
  let kp:∀x o,x≠p->G3 x=bH o->put G3 p (.ins a.c_Sheet dx (shF ((T.length:Int)+1) d)) x=bH o:=λx o nb e=>by rw[a0h nb];show e
  show(a0a,sh3.sp,sh3.sd,kp _ _ (λz=>by let e:=sh3.dc;rw[z,sh3.ob]at e;cases e) sh3.dc,sh3.len,sh3.no,λk z e=>?_,sh3.inj,(λb hb=>?_),sh3.nd,sh3.sk)
  .let(h,ez,H):=sh3.hs k z e;show(h,ez,H.keepL λx ws _ g1=>kp _ _ (λz=>by rw[z,sh3.ob]at g1;cases g1) g1)
  .by_cases c:b=p
   .rw[c];show(_,a0a)
   .let(o,e):=sh3.al b hb;show(o,kp b o c e)
 let gu4:put G3 p (.ins a.c_Sheet dx (shF ((T.length:Int)+1) d)) u=bH (.lst ((a5r L τ.b τ.e (optW τ.v)).map Rw.z)):=by rw[a0h hup];show gu
 let kn4:KN S G (put G3 p (.ins a.c_Sheet dx (shF ((T.length:Int)+1) d))):=λb o nb e=>by rw[a0h (show b≠p from λz=>nb (by rw[z];show sh.sp))];show S13 _ _ e
 let nn4:∀x,put G3 p (.ins a.c_Sheet dx (shF ((T.length:Int)+1) d)) x=gV->G x=gV:=λx e=>by
  by_cases c:x=p
  .rw[c,a0a]at e;cases e
  .rw[a0h c]at e;show S13.free e
 generalize put G3 p (.ins a.c_Sheet dx (shF ((T.length:Int)+1) d))=G4 at sh4 gu4 kn4 nn4 ⊢;lk;show(p,dx,_,rfl,sh4.ob,a4I (by decide +kernel) (by decide +kernel),?_);lk;show(p,S,T,τ,u,_,dx,d,kvs,rfl,sh4,gu4,nu,il.snoc ok,by lia,λS' G5 i1 i2 kn5 sh5=>?_);let sh5':=sh5;let(dx5,d5,kvs5,m5):=sh5';lk;show(p,dx5,_,_,rfl,m5.ob,a2H,?_);let e:(((T++[τ]).length:Nat):Int)=(T.length:Int)+1:=by simp
 rw[e];show q S' G5 i1 (λb hb=>?_) (kn4.trans kn5) sh5;let h||h||h:=i2 b hb
 .show .inl h
 .rw[h];show .inr hu0
 .show .inr (nn4 b h)
local macro_rules | `(tactic| walk_at "go1")=>`(tactic| with_reducible (first | show i_intB ?_ | show i_iD ?_))
def ShV.frz{a:Ad}{G:Hq}{p:Addr}{S:Addr->Prop}{T:List Tl}{n:Int}{dx d:Addr}{kvs:List (Key×Z)}(H:ShV a G p S T n dx d kvs):ShV a (put G d (.dF kvs)) p S T n dx d kvs:=by
 let k:∀b o,b≠d->G b=bH o->put G d (.dF kvs) b=bH o:=λb o l e=>by rw[a0h l];show e
 let q:∀b f,G b=bH (.lst f)->b≠d:=λb f e z=>by
  rw[z]at e;let c||c:=H.dc<;>(rw[c]at e;cases e)
 show(k _ _ (λz=>?_) H.ob,H.sp,H.sd,.inr a0a,H.len,H.no,λi z e=>?_,λb m=>?_,H.nd,H.sk)
 .let e:=H.ob;rw[z]at e;let c||c:=H.dc<;>(rw[c]at e;cases e)
 .let(h,j,r):=H.hs i z e;show(h,j,r.keepL λx f _ g=>k _ _ (q _ _ g) g)
 .by_cases c:b=d
  .rw[c];show(_,a0a)
  .let(o,e):=H.al b m;show(o,k b o c e)
def inR(T:List Tl)(q:Int):Prop:=0<=q/\q<=T.length
def a20(a:Ad):P3:=λws G R=>Ex5 λ(p:Addr) (S:Addr->Prop) (T:List Tl) (x:Z) (q:Int)=>ws=[.ref p,x,.int q]/\Sheet a G p S T/\(∀G'',Th G'' x)/\T.length<=200 /\
 ((inR T q/\∃k,x=.str k/\nmOk k/\∀t L G',G t=gV->Sm G G'->G' t=bH (.lst (L.map Rw.z))->IsLine (T.take q.toNat) k L->R (.ref t) G')\/False)
set_option tactic.hygienic true in
def a21(T:Txt K mg a):Mal P w K mg base CX0 3 a.c_Sheet "line_at" (lowP K (a20 a)):=by
 show fnm 3 (N:=["self","key","knowing"]) (T.m_Sheet 2 _ rfl) ?_;walk_at "in";show(_,(a0c (a3h (q_mX a1f up0 (qv 0) T.cl_Sheet (a0N T) hr (q_k (qv 2) a0x) ))
  (a0c (by ac_rfl)
  (a0A (a16 (q_m (qv 0) T.cl_Sheet (a0F T) hr (q_k (qv 1) (q_k (qv 2) a0x)) ))))),?_)
 let(p,S,T',x,q,rfl,sh,hx,hT,h):=h;let sh':=sh;let(dx,d,kvs,sm):=sh';lk;show(p,dx,_,rfl,sm.ob,a4I (by decide +kernel) (by decide +kernel),?_);lk;show(p,S,T',q,rfl,sh.v,?_);let(hq,k,rfl,hk,fin)||⟨⟨⟩⟩:=h
 let hq':0<=q/\q<=T'.length:=hq;rw[if_pos hq'];lk;show(_,rfl,hx _,λG1 s1=>?_);rw[nm_b hk];show ifT ?_;let sm1:=sm.keep (Sm.ks s1);lk;show(p,dx,_,rfl,sm1.ob,a4I (by decide +kernel) (by decide +kernel),?_);lk;show(p,S,T',k,q,_,dx,d,kvs,rfl,sm1.v,hq.1,hq.2,hT,λt L G2 ht s2 gt il=>fin t L G2 (s1.free ht) (s1.trans s2) gt il)
def Rec.ne(H:Rec G S T k h):ix T k≠[]:=λz=>by
 let(a,H):=H
 let:=H.ix
 rw[z]at this;show H.ne (dD.mp this)
def NE(T:List Tl)(k:Str):Prop:=∃L,IsLine T k L/\L≠[]
structure KeysAt (T:List Tl) (ts:List Str):Prop where
 so:PyProof.Rows.sortedS ts=kz
 nd:ts.Nodup
 is:∀s,s∈ts↔NE T s
def IsLine.uniq(h:IsLine T k L)(g:IsLine T k M):L=M:=a5m h.can g.can λt=>by rw[h.v,g.v]
def a6s(h:ix T k=[])(q:Nat):putsK (T.take q) k=[]:=a5C λi a=>by rw[h]at a;simp at a
def Few(T:List Tl):Prop:=T.length<=200/\∃kn:List Str,kn.length<=63/\∀τ∈T,τ.key∈kn
theorem b3r:∀{xs ys:List Str},xs.Nodup->(∀x∈xs,x∈ys)->xs.length<=ys.length
 |[],_,_,_=>bR _
 |x::xs,ys,h,m=>by
  rw[ci]at h;let b:=m x (.head _)
  let:=b3r (ys:=ys.erase x) h.2 λy a=>(List.mem_erase_of_ne (λz=>h.1 (by simp_all))).mpr (m y (.tail _ a))
  rw[List.length_erase_of_mem b]at this
  let:=List.length_pos_of_mem b
  rw[bv];lia
def b8D:∀{T:List Tl}{k:Str}{n:Nat},ixF k n T≠[]->∃τ∈T,τ.key=k:=by ext z0;induction z0 with
 |nil=>ext _ _ h;show absurd rfl h
 |cons τ T I0=>
  ext k n h
  by_cases c:τ.key=k
  .show(τ,.head _,c)
  .unfold ixF at h;rw[if_neg c,dS]at h;let(σ,b,a):=I0 h;show(σ,.tail _ b,a)
def b8E{ks:List Str}(h:kvs.map (·.1)=ks.map Sum.inr)(m:s∈ks):∃z,valZ kvs (.inr s)=bH z:=by
 unfold valZ;cases e2:kvs.find? λc=>decide (c.1=Sum.inr s) with
 |some q=>show(_,rfl)
 |none=>
  let a:(Sum.inr s)∈kvs.map (·.1):=h▸bV m;let(q,b,d):=bC.mp a
  let:=dB.mp e2 q b
  simp[d]at this
def a22(a:Ad):PX3:=λws G R EE=>Ex4 λ(p:Addr) (S:Addr->Prop) (T:List Tl) (q:Int)=>ws=[.ref p,.int q]/\Sheet a G p S T/\Few T /\
 ((inR T q/\∀t ts G',G t=gV->Sm G G'->G' t=bH (.lst (ts.map Z.str))->KeysAt (T.take q.toNat) ts->ts.length<=63->R (.ref t) G')\/¬ inR T q/\EE a.x_NoKnowing G)
def b0J:∀{kvs:List (Key×Z)},(∀q∈kvs,∃s,q.1=Sum.inr s)->∃ks:List Str,kvs.map (·.1)=ks.map Sum.inr/\(kvs.map λq=>keyW q.1)=ks.map Z.str:=by ext z0;induction z0 with
 |nil=>ext _;show([],rfl,rfl)
 |cons q kvs I0=>
  ext h;let(s,a):=h q (.head _);let(e,c,d):=I0 λq b=>h q (.tail _ b);show(s::e,by rw[bx,bx,c,a],by rw[bx,bx,d,a];rfl)
def b0K{ks:List Str}(h:kvs.map (·.1)=ks.map Sum.inr)(e:valZ kvs (.inr s)=bH z):s∈ks:=by
 unfold valZ at e;cases e2:kvs.find? λg=>decide (g.1=Sum.inr s) with
 |none=>rw[e2]at e;cases e
 |some q=>
  let c:q.1=Sum.inr s:=by let:=eM e2;o_head this
  let:(Sum.inr s:Key)∈ks.map Sum.inr:=by rw[<- h,<- c];show bV (d7 e2)
  let(x,b,d):=bC.mp this;cases d;show b
set_option tactic.hygienic true in
def a23(T:Txt K mg a):Mal P w K mg base (CXx P w) 3 a.c_Sheet "keys_at" (a2f K (a22 a)):=by
 show fnmX 2 (N:=["self","knowing"]) (T.m_Sheet 3 _ rfl) ?_;walk_at "inx";show(_,(a0c (a3h (q_mX (a13 Outs.of) ux.since (qv 0) T.cl_Sheet (a0N T) hr (q_k (qv 1) a0x) ))
  (a0A (a16 (c0a (q_B a95 (T.b 8) (q_k (q_l ["key","knowing","self"] [gV,bH 1,bH 0] (.nm 0) (hi:=(b4O (a57 T.cl_Sheet (T.n_Sheet 1 _ rfl) (qv 0)))) (ht:=λ_ _ _ _=>(a9a (b6N (q_m (qv 2) T.cl_Sheet (a0F T) hr (q_k (qv 0) (q_k (qv 1) a0x)) ) (λ_=>rfl))))) a0x)))))),?_)
 let(p,S,T',q,rfl,sh,hT,h):=h;let sh':=sh;let(dx,d,kvs,sm):=sh';lk;show(p,dx,_,rfl,sm.ob,a4I (by decide +kernel) (by decide +kernel),?_);lk;show(p,S,T',q,rfl,sh.v,?_);let(hq,fin)||(hq,fin):=h
 rotate_left
 .rw[if_neg (show ¬ (0<=q/\q<=T'.length) from hq)];show fin
 rw[if_pos (show 0<=q/\q<=T'.length from hq)];lk;show c0b sm.dc ?_;lk;show(p,dx,_,_,rfl,sm.ob,a6q,?_);lk;show b98 (.inl sm.dc) ?_;let smF:=sm.v.frz;let(ks,hk1,hk2):=b0J sm.sk;let hnd:ks.Nodup:=by
  let:=sm.nd
  rw[hk1]at this;show (dE.mp this).imp λh z=>h (by rw[z])
 let(hT2,kn,kn1,kn2):=hT;let hkl:ks.length<=63:=bD (b3r hnd λs hs=>by
  let(z,ez):=b8E hk1 hs;let(h,_,hh):=sm.hs s z ez;let(τ,t1,t2):=b8D (T:=T') (k:=s) (n:=0) (λz=>hh.ne z);rw[<- t2];show kn2 τ t1) kn1
 rw[hk2];ext D hD;show b1q (λi ys G'=>∃(ts:List Str),An6 (ys=ts.map Z.str) ts.Nodup (∀s,s∈ts↔s∈ks.take i/\NE (T'.take q.toNat) s) (ts.length<=i) (Sm (put G d (.dF kvs)) G') (G' D=bH (.lst ys))) ([],rfl,.nil,λs=>by simp,bd _,Sm.new hD,a0a) (λ_ _ _ _ _=>True.intro) ?_ ?_
 .ext i x ys G' hx ⟨ts,rfl,hn,hm,hl,s,gD⟩;rw[bo]at hx;cases hx':ks[i]? with
  |none=>rw[hx']at hx;cases hx
  |some k=>
  rw[hx']at hx;cases hx;let hi:=(bh.mp hx').1;let ht1:ks.take (i+1)=ks.take i++[k]:=by rw[cG,hx'];rfl
  let nk:k∉ks.take i:=λz=>by
   let h1:(ks.take (i+1)).Nodup:=hnd.sublist (dL _ _);rw[ht1,cH]at h1;show h1.2.2 k z k (by simp) rfl
  let smA:=smF.keep (Sm.ks s);show(_,rfl,?_);lk;show(p,dx,_,rfl,smA.ob,a4I (by decide +kernel) (by decide +kernel),?_);lk;show(p,S,T',k,q,_,dx,d,kvs,rfl,smA,hq.1,hq.2,by lia,λt L G2 ht s2 gt il=>?_);show b2Y gt ?_;cases hL:L with
  |nil=>
   lk;show(ts,rfl,hn,λy=>?_,by lia,s.trans s2,s2 _ _ gD);rw[hm,ht1,be,bg]
   constructor
   .show λ(a1,a2)=>(.inl a1,a2)
   .ext⟨a1 |rfl,a2⟩
    .show(a1,a2)
    .let(M,m1,m2):=a2;show absurd (m1.uniq il) (by rw[hL];show m2)
  |cons r L'=>
   lk;show(_,rfl,s2 _ _ gD,by rw[a9];show a0d (by lia),ts++[k],by rw[bp];rfl,?_,λy=>?_,by rw[bu];simp;lia,(s.trans s2).put hD,a0a)
   .rw[cH];show(hn,by simp,λa1 h1 b1 h2 z=>nk (by rw[<- bg.mp h2,<- z];show ((hm a1).mp h1).1))
   .rw[be,hm,ht1,be,bg]
    constructor
    .ext (⟨a1,a2⟩ |rfl)
     .show(.inl a1,a2)
     .show(.inr rfl,L,il,by rw[hL];simp)
    .ext⟨a1 |rfl,a2⟩
     .show .inl (a1,a2)
     .show .inr rfl
 .ext ys G' ⟨ts,rfl,hn,hm,hl,s,gD⟩;rw[a9]at hm hl;rw[cm]at hm;lk;show a96 gD (by lia) λt us ht hp hs=>?_;let gd:G' d=bH (.dF kvs):=s _ _ a0a;let td:t≠d:=Ne.symm (a0i gd ht);let fr:G t=gV:=by
   let h1:=s.free ht;rw[a0h td]at h1;show h1
  let sm2:Sm G (put (put G' t (.lst (us.map Z.str))) d (.dK kvs)):=λb o e=>by
   by_cases c:b=d
   .rw[c,a0a,<- sm.dc,<- c];show e
   .rw[a0h c];show a0b (s _ _ (by rw[a0h c];show e)) ht
  show(a0b gd ht,fin t us _ fr sm2 (by rw[a0h td];show a0a) (hs,hp.nodup_iff.mpr hn,λy=>?_) (by rw[hp.length_eq];lia));rw[hp.mem_iff,hm]
  constructor
  .show λz=>z.2
  .ext z;show(?_,z);cases e:valZ kvs (.inr y) with
   |some w=>show b0K hk1 e
   |none=>
    let(L,l1,l2):=z;show absurd (l1.uniq (IsLine.nil (a6s (sm.no y e) _))) l2
def a6t(ok:OkT T)(h:NE T s):nmOk s:=by
 let(L,a,d):=h
 by_cases c:∃τ∈T,τ.key=s
 .let(τ,f,e):=c;rw[<- e];show (ok τ f).k
 .let:putsK T s=[]:=by
   unfold putsK;rw[dD,eQ];ext τ b;o_head λz=>c (τ,b,z)
  show absurd (a.uniq (IsLine.nil this)) d
def b5z{a:Ad}{G:Hq}{p:Addr}{S:Addr->Prop}{T:List Tl}(h:Sheet a G p S T):∃dx n d,G p=bH (.ins a.c_Sheet dx (shF n d)):=let (_,_,_,m):=h;(_,_,_,m.ob)
structure TabD (G:Hq) (d:Addr) (T:List Tl) (ts:List Str) (kvs:List (Key×Z)):Prop where
 at_:G d=bH (.dK kvs)
 ks:kvs.map (·.1)=ts.map (λs=>(Sum.inr s:Key))
 ka:KeysAt T ts
 ln:∀k∈ts,∃l L,valZ kvs (.inr k)=bH (.ref l)/\G l=bH (.lst (L.map Rw.z))/\IsLine T k L
 no:∀k,k∉ts->valZ kvs (.inr k)=gV
def TabD.keep(h:TabD G d T ts kvs)(s:Sm G G'):TabD G' d T ts kvs:=(s _ _ h.at_,h.ks,h.ka,λk e=>by let(l,L,a,b,c):=h.ln k e;show(l,L,a,s _ _ b,c),h.no)
def b0L(nd:(rows.map (·.1)).Nodup):a2Q [] rows=rows:=by
 let c:∀a b,((b++a).map (·.1)).Nodup->a2Q b a=b++a:=by
  ext a
  induction a with
  |nil=>ext b _;simp[a2Q]
  |cons r a ih=>
   ext b h;let d:valZ b r.1=gV:=by
    cases e:valZ b r.1 with
    |none=>rfl
    |some z=>
     unfold valZ at e;cases e2:b.find? λi=>decide (i.1=r.1) with
     |none=>rw[e2]at e;cases e
     |some q=>
      rw[bp,cH]at h;let g:q.1=r.1:=by let:=eM e2;o_head this
      show absurd g (h.2.2 q.1 (bV (d7 e2)) r.1 (by simp))
   change a2Q (putZ b r.1 r.2) a=_
   rw[a6r d,ih _ (by simp_all)];simp
 o_head c rows [] (by simp_all)
def a7o(nd:(kvs.map (·.1)).Nodup)(h:(k,z,)∈kvs):valZ kvs k=bH z:=by
 induction kvs with
 |nil=>simp at h
 |cons q kvs ih=>
  rw[bx,ci]at nd;unfold valZ;rw[cr];let rfl||h:=bf.mp h
  .simp
  .let a:¬ q.1=k:=λb=>nd.1 (b▸bV h);rw[decide_eq_false a];show ih nd.2 h
def b5A{kvs:List (Key×Z)}{k:Key}{z:Z}(h:valZ kvs k=bH z):(k,z,)∈kvs:=by
 unfold valZ at h;cases e:kvs.find? λkv=>decide (kv.1=k) with
 |none=>rw[e]at h;cases h
 |some p=>
  rw[e]at h;let h1:=d7 e;let h2:p.1=k:=by let:=eM e;o_head this
  let(a,b):=p;cases h;cases h2;show h1
def a4M(a:Ad):PX3:=λws G R EE=>Ex4 λ(p:Addr) (S:Addr->Prop) (T:List Tl) (q:Int)=>ws=[.ref p,.int q]/\Sheet a G p S T/\OkT T/\Few T/\(inR T q/\(∀d ts kvs G',G d=gV->Sm G G'->TabD G' d (T.take q.toNat) ts kvs->ts.length<=63->(∀k l,valZ kvs (.inr k)=bH (.ref l)->G l=gV/\l≠d)->R (.ref d) G')\/¬ inR T q/\EE a.x_NoKnowing G)
set_option tactic.hygienic true in
def a0L(T:Txt K mg a):Cal P w K mg base (CXx P w) 4 "table_at" (a2f K (a4M a)):=by
 show fncX 2 (N:=["sheet","knowing"]) T.br (T.f 14 _ rfl) ?_;walk_at "inx";show(_,(a0A (a16 (q_Y (b4U rfl) (T.b 12) (q_k (q_lX (a8V Outs.of) ["key","knowing","sheet"] [gV,bH 1,bH 0] (.nm 0) (hi:=(a5V (q_mX (a13 Outs.of) ux.since (qv 0) T.cl_Sheet (a23 T) hr (q_k (qv 1) a0x) ))) (he:=λ_ _ _ _=>(b1o (q_k (qv 0) (q_k (q_m (qv 2) T.cl_Sheet (a21 T) hr (q_k (qv 0) (q_k (qv 1) a0x)) ) a0x))))) a0x)))),?_);let(p,S,T',q,rfl,sh,ok,few,fin):=h;let(dx,n,d0,ob):=b5z sh;lk;show(p,dx,_,rfl,ob,a4I (by decide +kernel) (by decide +kernel),?_);lk;let(hq,fin)||(hq,fin):=fin
 rotate_left
 .show(p,S,T',q,rfl,sh,few,.inr (hq,fin))
 show(p,S,T',q,rfl,sh,few,.inl (hq,λt ts G1 ht s1 gt ka hl=>?_));lk;show a1u gt ?_;ext D hD;let nd:(ts.map (λs=>(Sum.inr s:Key))).Nodup:=dE.mpr (ka.nd.imp λh z=>h (by injection z));show b1q (λi ys G'=>∃(rows:List (Key×Z)),An6 (ys=rows.map prZ) (rows.map (·.1)=(ts.take i).map (λs=>(Sum.inr s:Key))) (∀k∈ts.take i,∃l L,((Sum.inr k:Key),Z.ref l,)∈rows/\l≠D/\G' l=bH (.lst (L.map Rw.z))/\IsLine (T'.take q.toNat) k L) (∀p∈rows,∀l,p.2=.ref l->G1 l=gV/\G' l≠gV) (Sm G1 G') (G' D=bH (.lst ys))) ([],rfl,rfl,(λk h=>by simp at h),(λp h=>by cases h),Sm.new hD,a0a) (by ext i ys G' _ ⟨_,_,_,_,_,s,_⟩;show s _ _ gt) ?_ ?_
 .ext i x ys G' hx ⟨rows,rfl,hr,hln,hnew,s,gD⟩;rw[bo]at hx;cases hx':ts[i]? with
  |none=>rw[hx']at hx;cases hx
  |some k=>
  rw[hx']at hx;cases hx;let hi:=(bh.mp hx').1;let hk:nmOk k:=a6t (fun τ hτ=>ok τ (bK hτ)) ((ka.is k).mp (bB hx'));let sh2:=sh.keep (Sm.ks (s1.trans s));let(dx2,n2,d2,ob2):=b5z sh2;let hrl:rows.length<=63:=by let:=congrArg bL hr;rw[a9,a9,bE]at this;lia
  show(_,rfl,?_);lk;show(p,dx2,_,rfl,ob2,a4I (by decide +kernel) (by decide +kernel),?_);lk;show(p,S,T',.str k,q,rfl,sh2,(λ_=>b2w hk),few.1,.inl (hq,k,rfl,hk,λl L G2 hl2 s2 gl il=>?_));let nlD:l≠D:=Ne.symm (a0i gD hl2);lk;show(lenK rfl,s2 _ _ gD,by rw[a9];show a0d (by lia),rows++[(.inr k,.ref l,)],by rw[bp];rfl,by rw[bp,hr,take_snoc hx',bp];rfl,λj hj=>?_,λq hq m e=>?_,(s.trans s2).put hD,a0a)
  rotate_left
  .let nn:∀b,G2 b≠gV->∀o,put G2 D o b≠gV:=λb h o=>by
    by_cases c:b=D
    .rw[c,a0a];simp
    .rw[a0h c];show h
   let hq||hq:=be.mp hq
   .let(a1,a2):=hnew q hq m e;show(a1,nn _ (λz=>?_) _);cases e2:G' m with
    |none=>show a2 e2
    |some o=>rw[s2 _ _ e2]at z;cases z
   .rw[bg.mp hq]at e;cases e;show(s.free hl2,nn _ (by rw[gl];simp) _)
  rw[take_snoc hx']at hj;let hj||hj:=be.mp hj
  .let(l',L',m1,m2,m3,m4):=hln j hj;show(l',L',cQ _ m1,m2,by rw[a0h m2];show s2 _ _ m3,m4)
  .rw[bg.mp hj];show(l,L,by simp,nlD,by rw[a0h nlD];show gl,il)
 .ext ys G2 ⟨rows,rfl,hr,hln,hnew,s,gD⟩;rw[a9,cm]at hr hln;let hrl:rows.length=ts.length:=by let:=congrArg bL hr;rw[a9,a9]at this;show this
  let nd2:(rows.map (·.1)).Nodup:=by rw[hr];show nd
  lk;show b4V gD (by lia) λd hd=>?_;rw[b0L nd2];let s2:=s.trans (Sm.new (o:=.dK rows) hd);show fin d ts rows _ (s1.free (s.free hd)) (s1.trans s2) (a0a,hr,ka,λk hk=>?_,λk hk=>?_) hl λk l e=>?_
  .let(l,L,m1,m2,m3,m4):=hln k hk;show(l,L,a7o nd2 m1,a0b m3 hd,m4)
  .cases e:valZ rows (.inr k) with
   |none=>rfl
   |some z=>show absurd (b0K hr e) hk
  .let(a1,a2):=hnew _ (b5A e) l rfl;show(s1.free a1,λz=>a2 (by rw[z];show hd))
local macro_rules | `(tactic| walk_at "go1")=>`(tactic| first | show i_I (show (0:Int)<_ by decide) ?_ | show i_I (by decide,by decide) ?_)
def b0M{α:Type}{xs:List α}{j:Nat}:cutZ xs gV (bH (j:Int))=xs.take j:=by
 unfold cutZ;rw[HT.sIx_none,HT.sIx_nat];simp
structure TI (G4 G5:Hq) (t:Addr) (rs:List Addr) (T:List Tl):Prop where
 at_:G5 t=bH (.lst (T.map Tl.z))
 kp:∀b o,b≠t->b∉rs->G4 b=bH o->G5 b=bH o
 row:∀r∈rs,RowAt G5 r
 nt:t∉rs
def TI.draw(h:TI G4 G5 t rs T)(hr:r∈rs)(k:Kq r G5 G6)(R6:RowAt G6 r):TI G4 G6 t rs T:=
 (k _ _ h.at_ λz=>h.nt (z▸hr),λb o g d e=>k _ _ (h.kp b o g d e) λz=>d (z▸hr),λa f=>by
  by_cases c:a=r
  .simp_all
  .show (h.row a f).kq k c,h.nt)
def TI.add(h:TI G4 G5 t rs T):TI G4 (put G5 t (.lst (T.map Tl.z++[τ.z]))) t rs (T++[τ]):=
 (by rw[a0a,bp];rfl,λb o a d e=>by rw[a0h a];show h.kp b o a d e,λr c=>(h.row r c).kq Kq.at λz=>h.nt (z▸c),h.nt)
def a6u:P3:=λws G R=>∃(a:Addr)(ns:List Int),ws=[.scr a ns,.int 63]/\ns.length<=63 /\
 ∀(t u:Addr)(T:List Tl)(rs:List Addr)(nms:List Str)(G':Hq),Sm G G'->G' t=bH (.lst (T.map Tl.z))->G' u=bH (.lst (rs.map Z.ref))->OkT T->T.length<=63->T.length=rs.length->nms.length=4->(∀τ∈T,τ.key∈nms)->(∀r∈rs,RowAt G' r/\r≠t/\r≠u/\G r=gV)->R (.tup [.ref t,.ref u]) G'
def b8F{ns:List Str}(h:∀s∈ns,nmOk s)(h0:0<=k)(h1:k<(ns.length:Int)):∃s,atI (ns.map Z.str) k=bH (.str s)/\nmOk s/\s∈ns:=by
 let(j,rfl):=dC h0;let a:j<ns.length:=by lia
 show(ns[j],a0O (by simp_all),h _ (cx a),cx a)
def a6v(T:Txt K mg a):Cal P w K mg base CX0 4 "_law_tellings" (lowP K a6u):=by
 show fnc 2 (N:=["script","many","first","head","keys","worths","rows","tellings","row","kind","key","worth","begin","end"]) T.br (T.f 30 _ rfl) ?_ (len:=λws G R h=>(by let(_,_,rfl,_):=h;rfl));walk_at "in";show(_,(a0c (by ac_rfl)
  (a0c (by ac_rfl)
  (a0c (by ac_rfl)
  (a0c (by ac_rfl)
  (a0c (z_l (nmI 6 nd) ["cell","first"] [gV,bH 2] (.nm 0))
  (by ac_rfl)))))),?_)
 let(a,ns,rfl,hl,q):=h;lk;show(a,ns,0,rfl,by decide,λfirst=>?_);lk;let hw:first % 2=0\/first % 2=1:=by lia
 show(_,_,rfl,hw,λhd x w' hhd ok=>?_);lk;show(hd,4,rfl,RowAt.at ok,by decide,by decide,λnm nms G1 hnm gnm hlen hnms hR1 hK1=>?_);let s1:Sm G G1:=λb o h=>hK1 b o (a0b h hhd) (a0i h hhd);lk;show(hd,4,rfl,hR1,by decide,by decide,λwm wms G2 hwm gwm hlen2 hwms hR2 hK2=>?_);let s2:Sm G G2:=λb o h=>hK2 b o (s1 b o h) (a0i h hhd);let gnm2:=hK2 _ _ gnm λz=>by rw[z,a0a]at hnm;cases hnm
 clear hK1 hK2 hR1 hR2 s1 gnm hnm hwm;lk;show b9M λc hc=>?_;generalize ee:put G2 c _=G3;let(gc,s3):=newK ee hc;let lm:(cutZ ns gV (bH 63)).length<=63:=by rw[show cutZ ns gV (bH 63)=ns.take 63 from b0M (j:=63),bE];lia
 generalize cutZ ns gV (bH 63)=M at gc lm;let gnm3:=s3 _ _ gnm2;let gwm3:=s3 _ _ gwm;let s23:=s2.trans s3;clear s2 gnm2 gwm hc ee s3;lk;show a1u gc ?_;ext D hD;show b1q (λi ys G'=>∃(rs:List Addr),An5 (ys=rs.map Z.ref) (rs.length=i) (G' D=bH (.lst ys)) (∀b o,b≠D->G3 b=bH o->G' b=bH o) (∀r∈rs,RowAt G' r/\r≠D/\G3 r=gV)) ([],rfl,rfl,a0a,λb o nb e=>by rw[a0h nb];show e,λr h=>(nomatch h)) ?_ ?_ ?_
 .ext i ys G' _ ⟨rs,_,_,_,k,_⟩;show k _ _ (a0i gc hD) gc
 .ext i x ys G' hx ⟨rs,rfl,hl',gD,k,hr⟩;let hi:=(bh.mp hx).1;rw[a9]at hi;rw[bo]at hx;cases hx':M[i]? with
  |none=>rw[hx']at hx;cases hx
  |some m=>
  rw[hx']at hx;cases hx;show(_,rfl,?_);lk;show(_,_,rfl,hw,λr x' w'' hr' ok'=>?_);let nD:r≠D:=λz=>by rw[z,gD]at hr';cases hr'
  let fr:G3 r=gV:=by
   cases e:G3 r with
   |none=>rfl
   |some o=>rw[k r o nD e]at hr';cases hr'
  show(a0b gD hr',by rw[a9];show a0d (by lia),rs++[r],by simp,by simp;lia,a0a,λb o nb e=>by rw[a0h nb];show a0b (k b o nb e) hr',λr2 h2=>?_);let h2||h2:=be.mp h2
  .let(a1,a2,a3):=hr r2 h2;show((a1.new hr').kq Kq.at a2,a2,a3)
  .rw[bg.mp h2];show((RowAt.at ok').kq Kq.at nD,nD,fr)
 .ext ys G' ⟨rs,rfl,hl',gD,k,hr⟩;rw[a9]at hl';show(_,rfl,?_);lk;show(lenK rfl,λt ht=>?_);generalize ee4:put G' t _=G4;let(gt,s4):=newK ee4 ht;let nD:∀b o,G3 b=bH o->b≠D:=λb o e=>a0i e hD;let nr:∀b o,G3 b=bH o->b∉rs:=λb o e z=>by rw[(hr b z).2.2]at e;cases e
  let nt:∀b o,G3 b=bH o->b≠t:=λb o e z=>by rw[<- z,k b o (nD b o e) e]at ht;cases ht
  let up:∀b o,G3 b=bH o->G4 b=bH o:=λb o e=>s4 _ _ (k b o (nD b o e) e);let tr:t∉rs:=λz=>by let(_,_,e,_):=(hr t z).1;rw[e]at ht;cases ht
  let tD:t≠D:=λz=>by rw[z,gD]at ht;cases ht
  let Dr:D∉rs:=λz=>(hr D z).2.1 rfl;let I0:TI G4 G4 t rs []:=(gt,λb o _ _ e=>e,λr h=>let (x,w,e,o):=(hr r h).1;(x,w,s4 _ _ e,o),tr);lk;show a1u (s4 _ _ gD) ?_;show a0E (λi σ G5=>Ex7 λ(T:List Tl) (v1 v2 v3 v4 v5 v6:Option Z)=>An5 (T.length=i) (OkT T) (∀τ∈T,τ.key∈nms) (TI G4 G5 t rs T) (σ=[bH (.scr a ns),bH (.int 63),bH (.int first),bH (.ref hd),bH (.ref nm),bH (.ref wm),bH (.ref D),bH (.ref t),v1,v2,v3,v4,v5,v6])) ([],_,_,_,_,_,_,rfl,fun τ h=>(nomatch h),fun τ h=>(nomatch h),I0,rfl) (by ext i σ G5 _ ⟨_,_,_,_,_,_,_,_,_,_,I,_⟩;show I.kp _ _ (Ne.symm tD) Dr (s4 _ _ gD)) ?_ ?_
  .ext i x σ G5 hx ⟨T,v1,v2,v3,v4,v5,v6,hT,okT,kT,I,rfl⟩;let hi:=(bh.mp hx).1;rw[a9]at hi;rw[bo]at hx;cases hx':rs[i]? with
   |none=>rw[hx']at hx;cases hx
   |some r=>
   rw[hx']at hx;cases hx;let mr:=bB hx';show(_,rfl,?_);lk;show a1q (I.row r mr) (by decide) (by decide) λkd y w f0 f1 ok1=>?_
   replace I:=I.draw mr Kq.at (RowAt.at ok1)
   generalize put G5 r _=G6 at I ⊢;lk;show a1q (I.row r mr) (by decide) (by decide) λkk y w g0 g1 ok1=>?_
   replace I:=I.draw mr Kq.at (RowAt.at ok1)
   generalize put G6 r _=G7 at I ⊢;let(key,ek,okk,mk):=b8F hnms g0 (by lia);show a0y (I.kp _ _ (nt _ _ gnm3) (nr _ _ gnm3) (up _ _ gnm3)) ek ?_;lk;show a1q (I.row r mr) (by decide) (by decide) λkw y w j0 j1 ok1=>?_
   replace I:=I.draw mr Kq.at (RowAt.at ok1)
   generalize put G7 r _=G8 at I ⊢;let(wo,ew,okw,_):=b8F hwms j0 (by lia);show a0y (I.kp _ _ (nt _ _ gwm3) (nr _ _ gwm3) (up _ _ gwm3)) ew ?_;lk;show(r,rfl,I.row r mr,λb e G9 hst hR9 hK9=>?_)
   replace I:=I.draw mr hK9 hR9
   show(_,rfl,?_);lk;show ifD (λc=>?_) λc=>?_
   .lk;show a0Y I.at_ ?_;lk;show(lenK rfl,?_);lk;show a0v I.at_ (by rw[a9];show a0d (by lia)) (T++[Tl.mk key gV b e],_,_,_,_,_,_,by simp;lia,fun τ h=>?_,fun τ h=>?_,I.add (τ:=(key,gV,b,e)),rfl)
    .let h||h:=be.mp h
     .show okT τ h
     .rw[bg.mp h];show(okk,λ_ z=>(nomatch z),hst)
    .let h||h:=be.mp h
     .show kT τ h
     .rw[bg.mp h];show mk
   .lk;show a0Y I.at_ ?_;lk;show(lenK rfl,?_);lk;show a0v I.at_ (by rw[a9];show a0d (by lia)) (T++[Tl.mk key (bH wo) b e],_,_,_,_,_,_,by simp;lia,fun τ h=>?_,fun τ h=>?_,I.add (τ:=(key,bH wo,b,e)),rfl)
    .let h||h:=be.mp h
     .show okT τ h
     .rw[bg.mp h];show(okk,λs z=>by cases z;show okw,hst)
    .let h||h:=be.mp h
     .show kT τ h
     .rw[bg.mp h];show mk
  .ext σ G5 ⟨T,v1,v2,v3,v4,v5,v6,hT,okT,kT,I,rfl⟩;rw[a9]at hT;lk;show(lenK rfl,?_);show q t D T rs nms G5 (λb o e=>I.kp b o (nt _ _ (s23 _ _ e)) (nr _ _ (s23 _ _ e)) (up _ _ (s23 _ _ e))) I.at_ (I.kp _ _ (Ne.symm tD) Dr (s4 _ _ gD)) okT (by lia) (by lia) (by lia) kT λr h=>(I.row r h,λz=>tr (z▸h),(hr r h).2.1,by
    cases e:G r with
    |none=>rfl
    |some o=>let:=(hr r h).2.2;rw[s23 _ _ e]at this;cases this)
def b5B:P3:=λws G R=>Ex4 λ(p:Addr) (T:List Tl) (k:Str) (n:Int)=>ws=[.ref p,.str k,.int n]/\G p=bH (.lst (T.map Tl.z))/\OkT T/\nmOk k/\T.length<=63/\0<=n/\∀(t:Addr)(G':Hq),G t=gV->Sm G G'->G' t=bH (.lst ((putsK (T.take n.toNat) k).map Rw.z))->R (.ref t) G'
def b5C(T:Txt K mg a):Cal P w K mg base CX0 1 "_law_puts" (lowP K b5B):=by
 show fnc 3 (N:=["tellings","key","knowing","puts","telling"]) T.br (T.f 31 _ rfl) ?_ (len:=λws G R h=>(by let(_,_,_,_,rfl,_):=h;rfl));walk_at "in";show(_,(by ac_rfl),?_);let(p,T,k,n,rfl,gp,ok,hk,hl,hn,q):=h;lk;show(lenK rfl,λt ht=>?_);generalize ee:put G t _=G1;let(gt,s1):=newK ee ht;lk;show b4h (s1 _ _ gp) λc hc=>?_;generalize ee2:put G1 c _=G2;let(gc,s2):=newK ee2 hc;let ct:cutZ (T.map Tl.z) gV (bH n)=(T.take n.toNat).map Tl.z:=by
  let(j,rfl):=dC hn;rw[b0M,eY,fq]
 rw[ct]at gc;let okn:OkT (T.take n.toNat):=fun τ h=>ok τ (bK h);let ln:(T.take n.toNat).length<=63:=by rw[bE];lia
 generalize T.take n.toNat=U at gc okn ln q;let gt2:=s2 _ _ gt;let nct:c≠t:=λz=>by rw[z,gt]at hc;cases hc
 lk;show a1u gc ?_;show a0E (λi σ G'=>∃v:Option Z,Kq t G2 G'/\G' t=bH (.lst ((putsK (U.take i) k).map Rw.z))/\σ=[bH (.ref p),bH (.str k),bH (.int n),bH (.ref t),v]) (_,λ_ _ e _=>e,gt2,rfl) (by ext i σ G' _ ⟨_,k,_⟩;show k _ _ gc nct) ?_ ?_
 .ext i x σ G3 hx ⟨v,kq,gt3,rfl⟩;rw[bo]at hx;cases hx':U[i]? with
  |none=>rw[hx']at hx;cases hx
  |some τ=>
  rw[hx']at hx;cases hx;let oτ:=okn τ (bB hx');let hi:=(bh.mp hx').1;let lp:(putsK (U.take i) k).length<=63:=by
   unfold putsK;rw[a9];show bD (fB _ _) (by rw[bE];lia)
  let tk:=a38 (T:=U.take i) (τ:=τ) (k:=k);rw[<- take_snoc hx']at tk;rw[tk];generalize putsK (U.take i) k=P0 at gt3 lp;show(_,rfl,?_);let(key,w,b,e):=τ;let app:∀(z:Z)(v:Option Z),key=k->z=Rw.z (Tl.rw (key,w,b,e))->a3j (.ref t) [z] G3 (λ_ G'=>∃v':Option Z,Kq t G2 G'/\G' t=bH (.lst ((P0++if (Tl.mk key w b e).key=k then [Tl.rw (key,w,b,e)] else []).map Rw.z))/\([bH (.ref p),bH (.str k),bH (.int n),bH (.ref t),v]:S3)=[bH (.ref p),bH (.str k),bH (.int n),bH (.ref t),v']):=λz v ek ez=>by
   show a0v gt3 (by rw[a9];show a0d (by lia)) (_,λb o e1 nb=>by rw[a0h nb];show kq b o e1 nb,?_,rfl);rw[a0a,if_pos ek,bp,ez]
   rfl
  let non:∀v:Option Z,key≠k->∃v':Option Z,Kq t G2 G3/\G3 t=bH (.lst ((P0++if (Tl.mk key w b e).key=k then [Tl.rw (key,w,b,e)] else []).map Rw.z))/\([bH (.ref p),bH (.str k),bH (.int n),bH (.ref t),v]:S3)=[bH (.ref p),bH (.str k),bH (.int n),bH (.ref t),v']:=λv ek=>(_,kq,by rw[if_neg ek,bM];show gt3,rfl);cases w with
  |none=>
   rw[show Tl.z (key,gV,b,e)=.tup [.str a7j,.str key,.int b,oz e] from rfl];lk;show ifD (λc=>?_) λc=>?_
   .lk;show ifD (λc2=>?_) λc2=>?_
    .show absurd c2 (by decide +kernel)
    .lk;show ifD (λc3=>?_) λc3=>absurd c c3;lk;show a0Y gt3 ?_;lk;show(lenK rfl,?_);lk;show app _ _ c rfl
   .show ifF ?_;lk;show ifD (λc3=>absurd c3 c) λc3=>?_;lk;show non _ c
  |some w=>
   rw[show Tl.z (key,bH w,b,e)=.tup [.str sPut,.str key,.str w,.int b,oz e] from rfl];lk;show ifD (λc=>?_) λc=>?_
   .lk;show ifD (λ_=>?_) λz=>absurd rfl z;lk;show a0Y gt3 ?_;lk;show(lenK rfl,?_);lk;show app _ _ c rfl
   .show ifF ?_;lk;show ifD (λc3=>absurd c3 c) λc3=>?_;lk;show non _ c
 .ext σ G3 ⟨v,kq,gt3,rfl⟩;rw[a9,cm]at gt3;lk;show q t G3 ht (λb o e=>kq b o (s2 _ _ (s1 _ _ e)) (a0i e ht)) gt3
def b5D:P3:=λws G R=>∃(p:Addr)(T:List Tl),ws=[.ref p]/\G p=bH (.lst (T.map Tl.z))/\T.length<=63/\∀(t:Addr)(ks:List Str)(G':Hq),G t=gV->Sm G G'->G' t=bH (.lst (ks.map Z.str))->ks.Pairwise leS->ks.Nodup->(∀k,k∈ks↔∃τ∈T,τ.key=k)->ks.length<=T.length->R (.ref t) G'
def b5E(T:Txt K mg a):Cal P w K mg base CX0 1 "_law_keys" (lowP K b5D):=by
 show fnc 1 (N:=["tellings"]) T.br (T.f 32 _ rfl) ?_ (len:=λws G R h=>(by let(_,_,rfl,_):=h;rfl));walk_at "in";show(_,(a0A (a16 (c0e rfl rfl (T.b 8) rfl rfl (T.b 9) rfl (q_k (q_l ["telling"] [gV] (.nm 0)) a0x) (he:=se_ rfl) (hpl:=hp_ rfl)))),?_);let(p,T,rfl,gp,hl,q):=h;show b7i ?_;unfold uSSS;lk;show a1u gp ?_;ext D hD;show a1Z (g':=Z.str) (fun τ:Tl=>bH τ.key) (λys=>a0b gp hD) (by lia) ?_ ?_
 .ext τ hτ ys K1 K2 k1 k2;show(_,rfl,?_);let(key,w,b,e):=τ;cases w with
  |none=>
   rw[show Tl.z (key,gV,b,e)=.tup [.str a7j,.str key,.int b,oz e] from rfl];lk;show k1 _ rfl
  |some w=>
   rw[show Tl.z (key,bH w,b,e)=.tup [.str sPut,.str key,.str w,.int b,oz e] from rfl];lk;show k1 _ rfl
 .let e0:(T.filterMap fun τ=>bH τ.key)=T.map (·.key):=by rw[<- gH];rfl
  rw[e0];show c0d a0a (by rw[a9];lia) λt ks ht hs hn hm hkl=>?_;show q t ks _ ((Sm.new hD).free ht) ((Sm.new hD).trans (Sm.new ht)) a0a (b8q hs) hn (λk=>by rw[hm,bC]) (by rw[a9]at hkl;show hkl)
noncomputable def fT(T:List Tl)(n:Int):FZ:=λk t=>lastAt (putsK (T.take n.toNat) k) t
def a8a(h:OkT T):FF (fT T n):=λk t=>a0w (a1g fun τ a=>h τ (bK a)) t
def OkC(A:List Cg):Prop:=∀c∈A,W2 c.r/\nmOk c.k
def OkC.fl1(h:OkC A):(A.map Cg.z).all (flat 1)=kz:=by
 rw[b5];ext x i;let(c,g,rfl):=bC.mp i;let((x,y,e,a,f),d):=h c g
 change ((Z.str c.k::.int c.r.b::oz c.r.e::c.r.w).all _)=kz
 rw[bJ,bJ,bJ,e,bJ,bJ,a4F d,a4y,b0q,a,f];rfl
def OkC.fl8(h:OkC A):(A.map Cg.z).all (flat 8)=kz:=a7c (n:=1) (by decide) h.fl1
def OkC.add(h:OkC A)(w:W2 c.r)(k:nmOk c.k):OkC (A++[c]):=λd a=>by
 let a||a:=be.mp a
 .show h d a
 .rw[bg.mp a];show(w,k)
structure DL (T:List Tl) (n m:Int) (k:Str) (l:List Rw):Prop where
 can:Can l
 v:∀t,val l t=dif (fT T n k t) (fT T m k t)
 len:l.length<=126
def a2K{rows S:List Rw}(hb:a0X rows bs)(sub:∀r∈rows,r∈S):bs.length<=2*S.length:=by
 let a:bs.Nodup:=hb.1.imp λh=>by lia
 let q:=a.length_le_of_subset (l₂:=S.flatMap λr=>r.b::r.e.toList) λx c=>by
  let(r,d,e):=(hb.2 x).mp c;show d9.mpr (r,sub r d,?_);let e||e:=e
  .simp_all
  .rw[e];show .tail _ (.head _)
 show bD q ?_;clear q a sub hb
 induction S with
 |nil=>simp
 |cons r S ih=>
  rw[df,bu,bv,bv]
  let:r.e.toList.length<=1:=by simp
  lia
def a7p{T:List Tl}(h:i<=j):∀r∈putsK (T.take i) k,r∈putsK (T.take j) k:=λr b=>by
 let(τ,a,rfl):=bC.mp b;let(a,c):=cL.mp a;show bC.mpr (τ,cL.mpr (?_,c),rfl)
 let:=List.take_take (i:=i) (j:=j) (l:=T)
 rw[Nat.min_eq_left h]at this;rw[<- this]at a;show bK a
def a1J{T:List Tl}:(putsK (T.take j) k).length<=T.length:=by grind [putsK]
def b2A{T:List Tl}(hb:a0X (putsK (T.take i) k++putsK (T.take j) k) bs)(h:T.length<=63):bs.length<=126:=by
 let c||c:=Nat.le_total i j
 .let:=a2K hb λr a=>(be.mp a).elim (a7p c r) id
  let:=a1J (T:=T) (k:=k) (j:=j)
  lia
 .let:=a2K hb λr a=>(be.mp a).elim id (a7p c r)
  let:=a1J (T:=T) (k:=k) (j:=i)
  lia
theorem a2t:∀{ks:List Str},(∀k∈ks,L k=M k)->cgs ks L=cgs ks M
 |[],_=>rfl
 |k::ks,h=>by
  let a:=a2t λx b=>h x (.tail _ b);unfold cgs at a ⊢;rw[df,df,a,h k (.head _)]
def a7q(h:k∉ks):cgs (ks++[k]) (λx=>if x=k then l else L x)=cgs ks L++l.map (Cg.mk k):=by
 rw[<- a2t λx a=>if_neg λz:x=k=>h (z▸a)];unfold cgs;rw[List.flatMap_append,List.flatMap_singleton]
 change _++(if k=k then l else L k).map _=_
 rw[if_pos rfl]
def b5F{T:List Tl}{n m:Int}{ks:List Str}{L:Str->List Rw}(ok:OkT T)(h:∀k∈ks,DL T n m k (L k))(hk:∀k∈ks,nmOk k):OkC (cgs ks L):=λc hc=>by
 let(k,h1,h2):=d9.mp hc;let(r,hr,rfl):=bC.mp h2;show((_,_,(a7l (h k h1).can (h k h1).v hr).1,a8a ok _ _,a8a ok _ _),hk k h1)
theorem a6w{T:List Tl}{n m:Int}{L:Str->List Rw}:∀{ks:List Str},(∀k∈ks,DL T n m k (L k))->(cgs ks L).length<=ks.length*126
 |[],_=>by simp[cgs]
 |k::ks,h=>by
  let ih:=a6w (ks:=ks) (L:=L) λx hx=>h x (.tail _ hx)
  let:=(h k (.head _)).len
  unfold cgs at ih ⊢;rw[df,bu,a9,bv]
  lia
def at5{a b c d e:Z}:cutZ [a,b,c,d,e] (bH 3) gV=[d,e]/\cutZ [a,b,c,d,e] gV (bH 2)=[a,b]:=(rfl,rfl)
def b8G:P3:=λws G R=>Ex5 λ(p:Addr) (T:List Tl) (nms:List Str) (n m:Int)=>ws=[.ref p,.int n,.int m]/\G p=bH (.lst (T.map Tl.z))/\OkT T/\T.length<=63/\nms.length=4/\(∀τ∈T,τ.key∈nms)/\0<=n/\0<=m /\
 ∀(t:Addr)(A:List Cg)(G':Hq),G t=gV->Sm G G'->G' t=bH (.lst (A.map Cg.z))->CL (fT T n) (fT T m) A->CB A->R (.ref t) G'
def setE{α:Type}{tb:α->Prop}(EE:α)(h:∀e,e=EE->tb e):tb EE:=h EE rfl
def b8H(T:Txt K mg a):Cal P w K mg base CX0 2 "_law_due" (lowP K b8G):=by
 show fnc 3 (N:=["tellings","knowing","later","rows","key","then","now","bounds","k","both","end"]) T.br (T.f 33 _ rfl) ?_ (len:=λws G R h=>(by let(_,_,_,_,_,rfl,_):=h;rfl));walk_at "in";show(_,(a0c (by ac_rfl)
  (a0c (a1K (pt:=(.nm 4)) h9.never rfl (by ac_rfl) (p_nm (nmI 4 nd))
  (a0c (by ac_rfl)
  (a0c (by ac_rfl)
  (a0c (by ac_rfl)
  (a0A (a1K (pt:=(.nm 8)) h9.never rfl (by ac_rfl) (p_nm (nmI 8 nd))
  (a0c (by ac_rfl)
  (a0c (by ac_rfl)
  (a0c (by ac_rfl)
  (a0A (z_if (by ac_rfl)
  (a0A (a2N (by ac_rfl) (qv 3) (by ac_rfl) a9j))
  (by ac_rfl))))))))))))
  (by ac_rfl))),?_)
 let(p,T,nms,n,m,rfl,gp,ok,hl,hnl,hkn,h0,h1,q):=h;lk;show(lenK rfl,λW hW=>?_);generalize ee:put G W _=G1;let(gW,s1):=newK ee hW;lk;show(p,T,rfl,s1 _ _ gp,hl,λkk ks G2 hkk s2 gkk srt nd mem kl=>?_);let gp2:=s2 _ _ (s1 _ _ gp);let npW:p≠W:=a0i gp hW;let nkW:kk≠W:=λz=>by rw[z,gW]at hkk;cases hkk
 let okk:∀k∈ks,nmOk k:=λk hk=>by let(τ,h1,h2):=(mem k).mp hk;rw[<- h2];show (ok τ h1).k
 let k4:ks.length<=4:=by
  rw[<- hnl];show nd.length_le_of_subset λk hk=>by let(τ,h1,h2):=(mem k).mp hk;rw[<- h2];show hkn τ h1
 show a1u gkk ?_;show a0E (λj σ G'=>Ex8 λ(L:Str->List Rw) (v1 v2 v3 v4 v5 v6 v7:Option Z)=>An4 (Kq W G2 G') (G' W=bH (.lst ((cgs (ks.take j) L).map Cg.z))) (∀k∈ks.take j,DL T n m k (L k)) (σ=[bH (.ref p),bH (.int n),bH (.int m),bH (.ref W),v1,v2,v3,v4,v5,v6,v7])) (λ_=>[],_,_,_,_,_,_,_,λ_ _ e _=>e,s2 _ _ gW,λk h=>by simp at h,rfl) (by ext i σ G' _ ⟨_,_,_,_,_,_,_,_,k,_⟩;show k _ _ gkk nkW) ?_ ?_
 .ext j x σ G3 hx ⟨L,v1,v2,v3,v4,v5,v6,v7,kq,gW3,hL,rfl⟩;let hj:=(bh.mp hx).1;rw[a9]at hj;rw[bo]at hx;cases hx':ks[j]? with
  |none=>rw[hx']at hx;cases hx
  |some key=>
  rw[hx']at hx;cases hx;let okey:=okk key (bB hx');let nkey:key∉ks.take j:=λz=>by
   let(i,hi,e):=dR.mp z;rw[bE]at hi;rw[gI]at e;let(h2,e2):=bh.mp hx';show cO.mp nd i j (by cbv) h2 (by cbv) (e.trans e2.symm)
  let okD:OkC (cgs (ks.take j) L):=b5F ok hL λk hk=>okk k (bK hk);let lD:(cgs (ks.take j) L).length<=504:=by
   let:=a6w hL
   rw[bE]at this;cbv
  let kD:∀c∈cgs (ks.take j) L,c.k≠key:=λc hc z=>by
   let(k,h1,h2):=d9.mp hc;let(r,_,rfl):=bC.mp h2;show nkey (z▸h1)
  let fin:=λl=>a7q (L:=L) (l:=l) nkey;rw[<- take_snoc hx']at fin;generalize cgs (ks.take j) L=D0 at gW3 okD lD kD fin;show(_,rfl,?_);lk;show(p,T,key,n,rfl,kq _ _ gp2 npW,ok,okey,hl,h0,λth G4 hth s4 gth=>?_);lk;show(p,T,key,m,rfl,s4 _ _ (kq _ _ gp2 npW),ok,okey,hl,h1,λnw G5 hnw s5 gnw=>?_);let gth5:=s5 _ _ gth;let plP:Plain (putsK (T.take n.toNat) key):=a1g fun τ h=>ok τ (bK h);let plQ:Plain (putsK (T.take m.toNat) key):=a1g fun τ h=>ok τ (bK h);let lP:=a1J (T:=T) (k:=key) (j:=n.toNat);let lQ:=a1J (T:=T) (k:=key) (j:=m.toNat);let bl:=λbs hb=>b2A (T:=T) (k:=key) (i:=n.toNat) (j:=m.toNat) (bs:=bs) hb hl;let fP:∀t,fT T n key t=lastAt (putsK (T.take n.toNat) key) t:=λ_=>rfl;let fQ:∀t,fT T m key t=lastAt (putsK (T.take m.toNat) key) t:=λ_=>rfl;generalize putsK (T.take n.toNat) key=Pp at gth5 plP lP bl fP gth;generalize putsK (T.take m.toNat) key=Qp at gnw plQ lQ bl fQ;lk;show a3k gth5 gnw (a0H (by rw[a9,a9];cbv)) λad had=>?_;generalize ee6:put G5 ad _=G6;let(gad,s6):=newK ee6 had;lk;show(ad,Pp++Qp,rfl,by rw[gad,bp],by rw[bu];cbv,λu bs G7 hu s7 gu hb hbl=>?_);let b126:=bl bs hb;let s37:Sm G3 G7:=((s4.trans s5).trans s6).trans s7;let gth7:=s7 _ _ (s6 _ _ gth5);let gnw7:=s7 _ _ (s6 _ _ gnw);let gW7:=s37 _ _ gW3;let f3W:∀b,G3 b=gV->b≠W:=λb e z=>by rw[z,gW3]at e;cases e
  let nth:th≠W:=f3W _ hth;let nnw:nw≠W:=f3W _ (s4.free hnw);let nuW:u≠W:=f3W _ (((s4.trans s5).trans s6).free hu);clear hbl gad ee6 gth gth5 gnw s4 s5 s6 s7 had hth hnw hu;lk;show a2O gu ?_;lk;rw[a9];show(by cbv,by cbv,?_);rw[show (bs.length:Int).toNat=bs.length by cbv];let dk:=b8y hb;show a0E (λi σ G'=>Ex4 λ(told:List Rw) (v1 v2 v3:Option Z)=>An6 ((pcs (λt=>dif (lastAt Pp t) (lastAt Qp t)) (bs.drop i)).foldl jn told=join (pcs (λt=>dif (lastAt Pp t) (lastAt Qp t)) bs)) (told.length<=i) (∀r∈told,W2 r) (Kq W G7 G') (G' W=bH (.lst ((D0++told.map (Cg.mk key)).map Cg.z))) (σ=[bH (.ref p),bH (.int n),bH (.int m),bH (.ref W),bH (.str key),bH (.ref th),bH (.ref nw),bH (.ref u),v1,v2,v3]))
   ([],_,_,_,rfl,bd _,λr hr=>(nomatch hr),λ_ _ e _=>e,↑gW7,rfl) (λ_ _ _ _ _=>True.intro) ?_ ?_
  .ext i x σ G' hx ⟨told,w1,w2,w3,hj2,hlen,hpt,kq7,gt,rfl⟩;let(hi,rfl):=a2z hx;show(_,rfl,?_);rw[fD];let hbi:bs[i]?=bH bs[i]:=bn hi;let hdr:bs.drop i=bs[i]::bs.drop (i+1):=cX hi;rw[hdr]at hj2;generalize bs[i]=b at hbi hj2;let hbm:atI (bs.map Z.int) (i:Int)=bH (.int b):=a0O (by rw[bo,hbi];rfl);rw[pcs,fE]at hj2;lk;show a0y (kq7 _ _ gu nuW) hbm ?_;lk;show(th,Pp,b,rfl,kq7 _ _ gth7 nth,plP.one,?_);lk;show a0y (kq7 _ _ gu nuW) hbm ?_;lk;show(nw,Qp,b,rfl,kq7 _ _ gnw7 nnw,plQ.one,?_);lk;show(lenK rfl,?_);lk;show(lenK rfl,λa ha=>?_);lk;show a3k (a0b (kq7 _ _ gu nuW) ha) a0a (a0H (by rw[a9];change bs.length+1<=1000;cbv)) λa2 ha2=>?_;lk;show a0y a0a (b3n hi) ?_;let s8:Sm G' (put (put G' a (.lst [.non])) a2 (.lst (bs.map Z.int++[Z.non]))):=(Sm.new ha).trans (Sm.new ha2);generalize put (put G' a (.lst [.non])) a2 (.lst (bs.map Z.int++[Z.non]))=G8 at s8 ⊢;let kq8:Kq W G7 G8:=λb o e nb=>s8 _ _ (kq7 b o e nb);let gt8:=s8 _ _ gt;clear s8 kq7 gt ha ha2;let f1:=a0w plP b;let f2:=a0w plQ b;generalize lastAt Pp b=y1 at f1 hj2 ⊢;generalize lastAt Qp b=y2 at f2 hj2 ⊢;generalize bs[i+1]?=en at hj2 ⊢;let okw:okW0 [y1,y2]:=(by simp,by rw[bJ,bJ,a0p (by decide) f1,a0p (by decide) f2];rfl);let okA:OkC (D0++told.map (Cg.mk key)):=λc hc=>by
    let hc||hc:=be.mp hc
    .show okD c hc
    .let(r,hr,rfl):=bC.mp hc;show(hpt r hr,okey)
   let lA:(D0++told.map (Cg.mk key)).length<=700:=by rw[bu,a9];cbv
   lk;show a6m (a0p (by decide) f1) (a0p (by decide) f2) ?_;lk;show ifD (λc=>?_) λc=>?_
   .let e0:dif y1 y2=gV:=if_pos c;rw[e0]at hj2;lk;show(told,_,_,_,hj2,by cbv,hpt,kq8,gt8,rfl)
   .let e0:dif y1 y2=bH [y1,y2]:=if_neg c;rw[e0]at hj2
    change (pcs (λt=>dif (lastAt Pp t) (lastAt Qp t)) (bs.drop (i+1))).foldl jn (jn told (b,en,[y1,y2]))=_ at hj2
    show b2Z (i_nx (by assumption) (b7j ?_));show setE (tb:=λF=>uAnd _ _ _ _ F) _ λF hF=>?_;let hFf:∀G9,Kq W G7 G9->G9 W=bH (.lst ((D0++told.map (Cg.mk key)).map Cg.z))->jn told (b,en,[y1,y2])=told++[(b,en,[y1,y2])]->F kQ G9:=λG9 kq9 gt9 hjn=>by
     rw[hF];show ifF ?_;lk;show a0Y gt9 ?_;lk;show a0y (kq9 _ _ gu nuW) hbm ?_;lk;show(lenK rfl,?_);lk;show a6M (by simp) (a0H (by simp)) ?_;lk;show a0v gt9 (by rw[a9];show a0d (by cbv)) (told++[(b,en,[y1,y2])],_,_,_,by rw[<- hjn];show hj2,by simp;cbv,λr hr=>?_,λb o e nb=>by rw[a0h nb];show kq9 b o e nb,?_,rfl)
     .let hr||hr:=be.mp hr
      .show hpt r hr
      .rw[bg.mp hr];show(_,_,rfl,f1,f2)
     .rw[a0a];simp[Cg.z]
    lk;show(lenK rfl,λa3 ha3=>?_);generalize ee9:put G8 a3 _=G9;let(g3,s9):=newK ee9 ha3;let kq9:Kq W G7 G9:=λb o e nb=>s9 _ _ (kq8 b o e nb);let gt9:=s9 _ _ gt8;let gu9:=kq9 _ _ gu nuW;let nF:=hFf G9 kq9 gt9;clear kq8 gt8 ee9 s9 ha3 hFf;lk;show b1w gt9 g3 okA.fl8 rfl ?_;lk;show ifN (λc2=>?_) λc2=>?_
    .by_cases ht:told=[]
     .subst ht;let hne:D0≠[]:=λz=>c2 (by rw[z];rfl);obtain⟨d,hd⟩:∃d,D0.getLast?=bH d:=by
       cases e:D0.getLast? with
       |none=>show absurd (dY.mp e) hne
       |some k=>show(k,rfl)
      let hlm:((D0++[].map (Cg.mk key)).map Cg.z).getLast?=bH d.z:=by rw[bN,bM,d6,hd];rfl
      lk;show a0y gt9 (a04 hlm) ?_;lk;show a05 (w:=.str d.k) at0 ?_;lk;show ifD (λz=>absurd z (kD d (eP hd))) λ_=>nF rfl
     .obtain⟨k,hk⟩:∃k,told.getLast?=bH k:=by
       cases e:told.getLast? with
       |none=>show absurd (dY.mp e) ht
       |some k=>show(k,rfl)
      let(x0,y0,e0,g1,g2):=hpt k (eP hk);let(kb,ke,kw):=k;cases e0;let hlm:((D0++told.map (Cg.mk key)).map Cg.z).getLast?=bH (.tup [.str key,.int kb,oz ke,x0,y0]):=by
       rw[bp,List.getLast?_append,d6,d6,hk];rfl
      let okw0:okW0 [x0,y0]:=(by simp,by rw[bJ,bJ,a0p (by decide) g1,a0p (by decide) g2];rfl);lk;show a0y gt9 (a04 hlm) ?_;lk;show ifD (λ_=>?_) λz=>absurd rfl z;lk;show a0y gt9 (a04 hlm) ?_;lk;show a0y gu9 hbm ?_;lk;show b0r ?_;lk;show ifD (λc3=>?_) λc3=>nF (by unfold jn;rw[hk];show if_neg λz=>c3 z.1);lk;show a0y gt9 (a04 hlm) ?_;lk;show a9o (show ¬ (HT.sIx 5 0 (bH 3)=0/\HT.sIx 5 5 gV=5) by decide) ?_;rw[at5.1];lk;show b8o (a4D okw0) (a4D okw) ?_;show(_,rfl,?_)
      by_cases c4:[x0,y0]=[y1,y2]
      .let hjn:jn told (b,en,[y1,y2])=told.dropLast++[(kb,en,[y1,y2])]:=by
        unfold jn;rw[hk];show if_pos (c3,c4)
       rw[show id (decide ([x0,y0]=[y1,y2]))=kz from decide_eq_true c4,hF];show ifT ?_;clear nF hF;lk;show a0y gt9 (a04 hlm) ?_;lk;show a9o (show ¬ (HT.sIx 5 0 gV=0/\HT.sIx 5 5 (bH 2)=5) by decide) ?_;rw[at5.2];lk;show(lenK rfl,?_);lk;show a6M (by simp) (a0H (by simp)) ?_;lk;show a6M (by simp) (a0H (by simp)) ?_;lk;show a9p gt9 (a4B (by rw[a9,bu,a9];let:=cP.mpr ht;cbv)) ?_;show(told.dropLast++[(kb,en,[y1,y2])],_,_,_,by rw[<- hjn];show hj2,by simp;cbv,λr hr=>?_,λb o e nb=>by rw[a0h nb];show kq9 b o e nb,?_,rfl)
       .let hr||hr:=be.mp hr
        .show hpt r (eO _ hr)
        .rw[bg.mp hr];show(_,_,rfl,f1,f2)
       .rw[a0a,a4C hlm,bp,List.dropLast_append_of_ne_nil ↑ht];simp[Cg.z,fz]
      .rw[show id (decide ([x0,y0]=[y1,y2]))=kQ from decide_eq_false c4];show nF (by unfold jn;rw[hk];show if_neg λz=>c4 z.2)
    .show nF (by rw[dD.mp (List.append_eq_nil_iff.mp (dD.mp c2)).2];rfl)
  .ext σ G' ⟨told,w1,w2,w3,hj2,hlen,hpt,kq7,gt,rfl⟩;rw[a1e,fF]at hj2;let ht2:told=join (pcs (λt=>dif (lastAt Pp t) (lastAt Qp t)) bs):=hj2;rw[<- ht2]at dk;lk;show(λx=>if x=key then told else L x,_,_,_,_,_,_,_,λb o e nb=>kq7 _ _ (s37 _ _ (kq _ _ e nb)) nb,?_,λk hk=>?_,rfl)
   .rw[gt,fin told]
   .rw[take_snoc hx']at hk
    change DL T n m k (if k=key then told else L k)
    by_cases c:k=key
    .rw[if_pos c,c];show(dk.1,λt=>by rw[dk.2.1,fP,fQ],bD dk.2.2 b126)
    .rw[if_neg c];let hk||hk:=be.mp hk
     .show hL k hk
     .show absurd (bg.mp hk) c
 .ext σ G3 ⟨L,v1,v2,v3,v4,v5,v6,v7,kq,gW3,hL,rfl⟩;rw[a9,cm]at gW3 hL;lk;let ko:∀k,k∉ks->∀i,putsK (T.take i) k=[]:=λk hk i=>by
   unfold putsK;rw[eQ.mpr fun τ hτ=>?_]
   .rfl
   .o_head λz=>hk ((mem k).mpr (τ,bK hτ,z))
  let e0:cgs ks L=cgs ks λk=>if k∈ks then L k else []:=a2t λk hk=>(if_pos hk).symm
  let rw_:∀k,a2S (cgs ks L) k=if k∈ks then L k else []:=a7k nd
  show q W (cgs ks L) G3 hW (λb o e=>kq b o (s2 _ _ (s1 _ _ e)) (a0i e hW)) gW3 (ks,λk=>if k∈ks then L k else [],e0,srt,nd,λk hk=>if_neg hk,okk,λk=>?_) ((ks,k4,λc hc=>?_),λk=>?_,?_)
  .change Can (if k∈ks then L k else [])/\∀t,val (if k∈ks then L k else []) t=_
   by_cases c:k∈ks
   .rw[if_pos c];show((hL k c).can,(hL k c).v)
   .rw[if_neg c];show(Can.nil,λt=>?_);unfold fT;rw[ko k c,ko k c];show (if_pos rfl).symm
  .let(k,h1,h2):=d9.mp hc;let(r,_,rfl):=bC.mp h2;show h1
  .rw[rw_]
   split
   .next c=>let:=(hL k c).len;cbv
   .simp
  .let:=a6w hL
   cbv
def a3M:P3:=λws G R=>∃(k:Str)(p:Addr)(l:List Rw),ws=[.str k,.ref p]/\G p=bH (.lst (l.map Rw.z))/\(∀r∈l,W2 r)/\l.length<=1000/\∀t,G t=gV->R (.ref t) (put G t (.lst (((unl l).map (Cg.mk k)).map Cg.z)))
def a3N(T:Txt K mg a):Cal P w K mg base CX0 1 "unlike_of" (lowP K a3M):=by
 show fnc 2 (N:=["key","pieces"]) T.br (T.f 15 _ rfl) ?_ (len:=λws G R h=>(by let(_,_,_,rfl,_):=h;rfl));walk_at "in";show(_,(a0A (a16 (q_l ["begin","end","then","now","key"] [gV,gV,gV,gV,bH 0] (.tp [0,1,2,3])))),?_);let(k,p,l,rfl,gp,hw,hz,q):=h;lk;show a1u gp ?_;ext D hD;show a1Z (g':=Cg.z) (λr=>if unW r.w=kz then bH (k,r) else gV) (λys=>a0b gp hD) hz ?_ ?_
 .ext r hr ys K1 K2 k1 k2;let(x,y,e,fx,fy):=hw r hr;let(b,en,w):=r;cases e;show(_,rfl,?_);lk;show a6m (a0p (by decide) fx) (a0p (by decide) fy) ?_;lk
  by_cases c:x=y
  .rw[decide_eq_true c];show ifF ?_;show k2 (by simp[unW,c])
  .rw[decide_eq_false c];show ifT ?_;lk;show(lenK rfl,?_);show k1 (k,(b,en,[x,y])) (by simp[unW,c])
 .rw[show (l.filterMap λr=>if unW r.w=kz then bH ((k,r):Cg) else gV)=(unl l).map (Cg.mk k) from by
   unfold unl;rw[<- gH,List.filterMap_filter]
   congr 1]
  show q D hD
def Pr2(l:List Rw):Prop:=∀r∈l,∃x y,r.w=[.tup [x,y]]/\flat 0 x=kz/\flat 0 y=kz
def Pr2.p1(h:Pr2 l):Pair1 l:=λr b=>by
 let(x,y,e,a,c):=h r b;show(_,e,by simp[flat,a,c])
def b8I(hb:a0X (l++o) bs)(hr:r∈join (pcs (laidF l o) bs)):∃t,r.w=[wz (val l t),wz (val o t)]/\¬ (wz (val l t)=.non/\wz (val o t)=.non):=by
 let(a,d,f):=(a4u (a4x _ hb.1)).2.2.2 r hr;let(_,e):=a4w d;unfold laidF at e
 split at e
 .grind
 .next c=>show(a.b,f.trans (bH.inj e).symm,c)
noncomputable def CL.okC(a:CL f g A)(hf:FF f)(hg:FF g):OkC A:=λ_ hc=>a.w2 hf hg hc
structure JL (f h:FZ) (k:Str) (l:List Rw):Prop where
 can:Can l
 v:∀t,val l t=dif (f k t) (h k t)
 len:l.length<=600
theorem b3s:∀{ks:List Str},(∀k∈ks,JL f h k (L k))->(cgs ks L).length<=ks.length*600
 |[],_=>by simp[cgs]
 |k::ks,q=>by
  let b:=b3s λx a=>q x (.tail _ a)
  let:=(q k (.head _)).len
  unfold cgs at b ⊢;rw[df,bu,a9,bv]
  lia
def b8J(h:n<=9000):n<=sizeLine:=bD h (by decide)
noncomputable def insI(x:Int):List Int->List Int
 |[]=>[x]
 |y::ys=>if x<y then x::y::ys else if x=y then y::ys else y::insI x ys
theorem mem_insI:∀{l:List Int},z∈insI x l↔z=x\/z∈l
 |[]=>by simp[insI]
 |y::ys=>by
  unfold insI
  split
  .simp
  .split
   .simp_all
   .rw[bf,mem_insI,bf,or_left_comm]
theorem b0N:∀{l:List Int},l.Pairwise (·<·)->(insI x l).Pairwise (·<·)
 |[],_=>by simp[insI]
 |y::ys,h=>by
  let(e,f):=bz.mp h;unfold insI
  split
  .next c=>show bz.mpr (λz a=>by let rfl||a:=bf.mp a;show c;let:=e z a;lia,h)
  .split
   .cbv
   .next c d=>show bz.mpr (λz a=>by let rfl||a:=mem_insI.mp a;lia;show e z a,b0N f)
def b0O(rows:List Rw):∃bs,a0X rows bs:=by
 let g:∀c:List Int,∃a:List Int,a.Pairwise _/\∀x,x∈a↔x∈c:=λc=>by
  induction c with
  |nil=>show([],.nil,λ_=>Iff.rfl)
  |cons x c ih=>
   let(a,d,f):=ih;show(insI x a,b0N d,λz=>by rw[mem_insI,f,bf])
 let(a,d,f):=g _;show(a,a3y d f)
def a7r{T:List Tl}(h:∀τ∈T,τ.key≠k):putsK (T.take i) k=[]:=by
 unfold putsK;rw[eQ.mpr fun τ a=>↑(h τ (bK a))]
 rfl
def b2B{f g:Int->Z}(hl:∀t,wz (val l t)=f t)(ho:∀t,wz (val o t)=g t)(hb:a0X (l++o) bs) :
  Can (unl (join (pcs (laidF l o) bs)))/\∀t,val (unl (join (pcs (laidF l o) bs))) t=dif (f t) (g t):=by
 let q:=laid_ok hb;show(a79 q.1,λt=>?_);unfold unl;rw[a39 q.1.rise,q.2.1];unfold laidF dif;rw[hl,ho]
 by_cases a:f t=.non/\g t=.non
 .simp_all
 .rw[if_neg a]
  by_cases c:f t=g t<;>simp[fH,unW]
def b5G(ok:OkT T)(k:Str):∃L,IsLine T k L:=by
 let(f,b):=b0O _;let a:=b0p b;show(_,a.1,a4G (a1g ok) a.2.2.2,?_,a.2.1);let e:=a2K b λr d=>d;let c:=a1J (T:=T) (k:=k) (j:=T.length);rw[cm]at c
 lia
def none_of(ok:OkT T)(ka:KeysAt T ts)(c:k∉ts)(t:Int):optW (lastAt (putsK T k) t)=gV:=by
 let(L,a):=b5G ok k;cases L with
 |nil=>rw[<- a.v];rfl
 |cons r L=>show absurd ((ka.is k).mpr (_,a,by simp)) c
def TabD.get(H:TabD G d T ts kvs)(ok:OkT T)(s:Sm G G')(g0:G' t0=bH (.lst []))(k:Str) :
  ∃x L,(valZ kvs (.inr k)).getD (.ref t0)=.ref x/\G' x=bH (.lst (L.map Rw.z))/\IsLine T k L:=by
 by_cases c:k∈ts
 .let(l,L,a,b,e):=H.ln k c;show(l,L,by rw[a];rfl,s _ _ b,e)
 .show(t0,[],by rw[H.no k c];rfl,g0,Can.nil,Plain.nil,by simp,λt=>by rw[none_of ok H.ka c];rfl)
def TabD.few{ts nms:List Str}(H:TabD G d T ts kvs)(hn:nms.length=4)(hk:∀τ∈T,τ.key∈nms):ts.length<=4:=by
 rw[<- hn];show H.ka.nd.length_le_of_subset λk q=>Classical.byContradiction λz=>?_;let(L,a,c):=(H.ka.is k).mp q;show c (a.uniq (IsLine.nil ?_))
 let:=a7r (k:=k) (i:=T.length) fun τ b e=>z (e▸hk τ b)
 rwa [cm]at this
def Plain.p1(h:Plain l):Pair1 l:=λr a=>let (x,e,f):=h r a;(x,e,a0p (by simp) f)
def a5F(a:Ad):PX3:=λws G R EE=>Ex6 λ(p:Addr) (S:Addr->Prop) (T:List Tl) (nms:List Str) (n m:Int)=>ws=[.ref p,.int n,.int m]/\Sheet a G p S T/\OkT T/\T.length<=63/\nms.length=4/\(∀τ∈T,τ.key∈nms) /\
 (inR T n/\inR T m/\(∀(t:Addr)(C:List Cg)(G':Hq),G t=gV->Sm G G'->G' t=bH (.lst (C.map Cg.z))->CL (fT T n) (fT T m) C->R (.ref t) G')\/¬ (inR T n/\inR T m)/\∀G',Sm G G'->EE a.x_NoKnowing G')
def a09(T:Txt K mg a):Cal P w K mg base (CXx P w) 5 "changes" (a2f K (a5F a)):=by
 show fncX 3 (N:=["sheet","knowing","later","table","later_table","told","key"]) T.br (T.f 16 _ rfl) ?_ (len:=λws G R EE h=>(by let(_,_,_,_,_,_,rfl,_):=h;rfl));walk_at "inx";show(_,(a0c (z_st (nmI 3 nd) (q_cX (a13 Outs.of) ux.since (a0L T) hr (q_k (qv 0) (q_k (qv 1) a0x)) ))
  (a0c (z_st (nmI 4 nd) (q_cX (a13 Outs.of) ux.since (a0L T) hr (q_k (qv 0) (q_k (qv 2) a0x)) ))
  (a0c (by ac_rfl)
  (a0c (a1K (pt:=(.nm 6)) h9.leaving rfl (a5V (c0j rfl rfl (T.b 8) rfl rfl (T.b 9) rfl (q_k (qv 3) a0x) (q_k (qv 4) a0x) (he:=se_ rfl) (hpl:=hp_ rfl) (he2:=se_ rfl) (hpl2:=hp_ rfl))) (p_nm (nmI 6 nd))
  (by ac_rfl))
  (by ac_rfl))))),?_)
 let(p,S,T',nms,n,m,rfl,sh,ok,hl,hn,hk,fin):=h;let few:Few T':=(by lia,nms,by lia,hk);let ok1:OkT (T'.take n.toNat):=fun τ h=>ok τ (bK h);let ok2:OkT (T'.take m.toNat):=fun τ h=>ok τ (bK h);lk
 by_cases r1:inR T' n
 rotate_left
 .let(q1,q2,fin)||(q1,fin):=fin
  .show absurd q1 r1
  .show(p,S,T',n,rfl,sh,ok,few,.inr (r1,fin G (Sm.refl _)))
 show(p,S,T',n,rfl,sh,ok,few,.inl (r1,λd1 ts1 kv1 G1 hd1 s1 H1 _ _=>?_));lk
 by_cases r2:inR T' m
 rotate_left
 .let(q1,q2,fin)||(q1,fin):=fin
  .show absurd q2 r2
  .show(p,S,T',m,rfl,sh.keep (Sm.ks s1),ok,few,.inr (r2,fin G1 s1))
 let(q1,q2,fin)||(q1,fin):=fin
 rotate_left
 .show absurd (r1,r2) q1
 show(p,S,T',m,rfl,sh.keep (Sm.ks s1),ok,few,.inl (r2,λd2 ts2 kv2 G2 hd2 s2 H2 _ _=>?_))
 replace H1:=H1.keep s2
 let l1:=H1.few hn fun τ h=>hk τ (bK h);let l2:=H2.few hn fun τ h=>hk τ (bK h);let sG:=s1.trans s2;lk;show(lenK rfl,λW hW=>?_);generalize ee:put G2 W _=G3;let(gW,s3):=newK ee hW;lk;unfold uSSU;lk;show(ts1,(d1,kv1,rfl,.inl (s3 _ _ H1.at_),H1.ks,l1),?_);lk;show(ts2,(d2,kv2,rfl,.inl (s3 _ _ H2.at_),H2.ks,l2),λt ks ht so nd mem l8=>?_);let ntW:t≠W:=λz=>by rw[z,gW]at ht;cases ht
 generalize ee4:put G3 t _=G4;let(gt,s4):=newK ee4 ht;let kp:∀G',Kq W G4 G'->Sm G2 G':=λG' k b o e=>k _ _ (s4 _ _ (s3 _ _ e)) (a0i e hW);let gW4:=s4 _ _ gW;let okk:∀k∈ks,nmOk k:=λk hk=>by
  let h||h:=(mem k).mp hk
  .show a6t ok1 ((H1.ka.is k).mp h)
  .show a6t ok2 ((H2.ka.is k).mp h)
 lk;show a1u gt ?_;show a0E (λi σ G'=>Ex2 λ(M:Str->List Rw) (v:Option Z)=>An4 (Kq W G4 G') (G' W=bH (.lst ((cgs (ks.take i) M).map Cg.z))) (∀k∈ks.take i,JL (fT T' n) (fT T' m) k (M k)) (σ=[bH (.ref p),bH (.int n),bH (.int m),bH (.ref d1),bH (.ref d2),bH (.ref W),v])) (λ_=>[],_,λ_ _ e _=>e,gW4,λk h=>by simp at h,rfl) (by ext i σ G' _ ⟨_,_,k,_⟩;show k _ _ gt ntW) ?_ ?_
 .ext i x σ G5 hx ⟨M,v,kq,gW5,hM,rfl⟩;let hi:=(bh.mp hx).1;rw[a9]at hi;rw[bo]at hx;cases hx':ks[i]? with
  |none=>rw[hx']at hx;cases hx
  |some key=>
  rw[hx']at hx;cases hx;let nkey:key∉ks.take i:=λz=>by
   let(j,hj,e):=dR.mp z;rw[bE]at hj;rw[gI]at e;let(h2,e2):=bh.mp hx';show cO.mp nd j i (by lia) h2 (by lia) (e.trans e2.symm)
  let lD:(cgs (ks.take i) M).length<=4800:=by
   let:=b3s hM
   rw[bE]at this
   lia
  let fin2:=λl=>a7q (L:=M) (l:=l) nkey;rw[<- take_snoc hx']at fin2;generalize cgs (ks.take i) M=D0 at gW5 lD fin2;show(_,rfl,?_);lk;show a0Y gW5 ?_;lk;show b4F (kp _ kq _ _ H1.at_) ?_;lk;show(lenK rfl,λt1 ht1=>?_);generalize ee6:put G5 t1 _=G6;let(g1,s6):=newK ee6 ht1;let(x1,L1,e1,gx1,il1):=H1.get ok1 ((kp _ kq).trans s6) g1 key;lk;show b29 (s6 _ _ (kp _ kq _ _ H1.at_)) rfl ?_;rw[e1];lk;show b4F (s6 _ _ (kp _ kq _ _ H2.at_)) ?_;lk;show(lenK rfl,λt2 ht2=>?_);generalize ee7:put G6 t2 _=G7;let(g2,s7):=newK ee7 ht2;let(x2,L2,e2,gx2,il2):=H2.get ok2 (((kp _ kq).trans s6).trans s7) g2 key;lk;show b29 (s7 _ _ (s6 _ _ (kp _ kq _ _ H2.at_))) rfl ?_;rw[e2];lk;let la:=il1.len;let lb:=il2.len;rw[bE]at la lb;show(x1,x2,L1,L2,rfl,s7 _ _ gx1,gx2,il1.can.rise,il1.pl.p1,il2.can.rise,il2.pl.p1,by lia,by lia,λu bs G8 hu s8 hb hbl gu=>?_);let v1:∀t,wz (val L1 t)=fT T' n key t:=λt=>by rw[il1.v,b0E];rfl
  let v2:∀t,wz (val L2 t)=fT T' m key t:=λt=>by rw[il2.v,b0E];rfl
  let uk:=b2B v1 v2 hb;let pl:=(laid_ok hb).2.2;let wk:∀r∈join (pcs (laidF L1 L2) bs),W2 r:=λr hr=>by
   let(t,e,_):=b8I hb hr;rw[v1,v2]at e;show(_,_,e,a8a ok _ _,a8a ok _ _)
  let lu:(unl (join (pcs (laidF L1 L2) bs))).length<=600:=bD (fB _ _) (by lia);lk;show(key,u,_,rfl,gu,wk,by lia,λy hy=>?_);generalize ee9:put G8 y _=G9;let(gy,s9):=newK ee9 hy;let s59:Sm G5 G9:=((s6.trans s7).trans s8).trans s9;generalize unl (join (pcs (laidF L1 L2) bs))=U at gy uk lu;lk;show a6N (s59 _ _ gW5) gy (by rw[a9,a9,a9];show b8J (by lia)) ?_;show(λx=>if x=key then U else M x,_,λb o e nb=>by rw[a0h nb];show s59 _ _ (kq _ _ e nb),?_,λk hk=>?_,rfl)
  .rw[a0a,fin2 U,bp]
  .rw[take_snoc hx']at hk
   change JL _ _ k (if k=key then U else M k)
   by_cases c:k=key
   .rw[if_pos c,c];show(uk.1,uk.2,lu)
   .rw[if_neg c];let hk||hk:=be.mp hk
    .show hM k hk
    .show absurd (bg.mp hk) c
 .ext σ G5 ⟨M,v,kq,gW5,hM,rfl⟩;rw[a9,cm]at gW5 hM;lk;show fin W (cgs ks M) G5 (sG.free hW) (sG.trans (kp _ kq)) gW5 (ks,λk=>if k∈ks then M k else [],a2t λk hk=>(if_pos hk).symm,b8q so,nd,λk hk=>if_neg hk,okk,λk=>?_)
  change Can (if k∈ks then M k else [])/\∀t,val (if k∈ks then M k else []) t=_
  by_cases c:k∈ks
  .rw[if_pos c];show((hM k c).can,(hM k c).v)
  .rw[if_neg c];show(Can.nil,λt=>?_);let n1:=none_of ok1 H1.ka (k:=k) (λz=>c ((mem k).mpr (.inl z))) t;let n2:=none_of ok2 H2.ka (k:=k) (λz=>c ((mem k).mpr (.inr z))) t;let z:∀x:Z,optW x=gV->x=.non:=λx h=>by
    unfold optW at h
    split at h
    .assumption
    .cases h
   show (if_pos ((z _ n1).trans (z _ n2).symm)).symm
structure TabN (G:Hq) (d:Addr) (f:FZ) (ts:List Str) (kvs:List (Key×Z)):Prop where
 at_:G d=bH (.dK kvs)
 ks:kvs.map (·.1)=ts.map (λs=>(Sum.inr s:Key))
 nd:ts.Nodup
 ln:∀k∈ts,∃l L,valZ kvs (.inr k)=bH (.ref l)/\G l=bH (.lst (L.map Rw.z))/\Can L/\Plain L/\L≠[]/\∀t,val L t=optW (f k t)
 no:∀k,k∉ts->valZ kvs (.inr k)=gV/\∀t,f k t=.non
def TabN.keep{G G':Hq}{d:Addr}{f:FZ}{ts:List Str}{kvs:List (Key×Z)}(H:TabN G d f ts kvs)(s:Sm G G'):TabN G' d f ts kvs:=(s _ _ H.at_,H.ks,H.nd,λk hk=>let (l,L,a,b,c):=H.ln k hk;(l,L,a,s _ _ b,c),H.no)
def a7s{x:Z}(h:optW x=gV):x=.non:=by
 unfold optW at h
 split at h
 .assumption
 .cases h
def TabD.n{G:Hq}{d:Addr}{T:List Tl}{ts:List Str}{kvs:List (Key×Z)}(H:TabD G d T ts kvs)(ok:OkT T):TabN G d (λk t=>lastAt (putsK T k) t) ts kvs:=(H.at_,H.ks,H.ka.nd,λk hk=>by
 let(l,L,a,b,c):=H.ln k hk;let(M,m1,m2):=(H.ka.is k).mp hk;show(l,L,a,b,c.can,c.pl,by rw[<- m1.uniq c];show m2,c.v),λk hk=>(H.no k hk,λt=>a7s (none_of ok H.ka hk t)))
def TabN.get{G G':Hq}{d t0:Addr}{f:FZ}{ts:List Str}{kvs:List (Key×Z)}(H:TabN G d f ts kvs)(s:Sm G G')(g0:G' t0=bH (.lst []))(k:Str) :
  ∃x L,(valZ kvs (.inr k)).getD (.ref t0)=.ref x/\G' x=bH (.lst (L.map Rw.z))/\Can L/\Plain L/\∀t,val L t=optW (f k t):=by
 by_cases c:k∈ts
 .let(l,L,e1,e2,e3,e4,_,e6):=H.ln k c;show(l,L,by rw[e1];rfl,s _ _ e2,e3,e4,e6)
 .show(t0,[],by rw[(H.no k c).1];rfl,g0,Can.nil,Plain.nil,λt=>by rw[(H.no k c).2];rfl)
def b0P{kvs:List (Key×Z)}{ts:List Str}(ks:kvs.map (·.1)=ts.map (λs=>(Sum.inr s:Key)))(nd:ts.Nodup){i:Nat}{p:Key×Z}(h:kvs[i]?=bH p):∃k,k∈ts/\p.1=.inr k/\valZ kvs (.inr k)=bH p.2:=by
 let k1:(ts.map (λs=>(Sum.inr s:Key)))[i]?=bH p.1:=by rw[<- ks,bo,h];rfl
 rw[bo]at k1;cases e:ts[i]? with
 |none=>rw[e]at k1;cases k1
 |some k=>
  rw[e]at k1;let k1:Sum.inr k=p.1:=bH.inj k1;show(k,bB e,k1.symm,a7o (by rw[ks];show dE.mpr (nd.imp λh z=>h (by injection z))) ?_);rw[k1];show bB h
def TabN.same{G:Hq}{d e:Addr}{f:FZ}{ts us:List Str}{kv kv2:List (Key×Z)}(H:TabN G d f ts kv)(K:TabN G e f us kv2):b2a (LEq G) G (.ref d) (.ref e):=by
 let sub:∀{d e:Addr}{ts us:List Str}{kv kv2:List (Key×Z)},TabN G d f ts kv->TabN G e f us kv2->∀k,k∈ts->k∈us:=λ{d e ts us kv kv2} H K k h=>Classical.byContradiction λc=>by
  let(l,L,_,_,a3,_,a5,a6):=H.ln k h;show a5 (a5m a3 Can.nil λt=>by rw[a6,(K.no k c).2 t];rfl)
 let el:ts.length=us.length:=((gF H.nd K.nd).mpr λk=>(sub H K k,sub K H k)).length_eq;let l1:=congrArg bL H.ks;let l2:=congrArg bL K.ks;simp at l1 l2;show(d,e,kv,kv2,rfl,rfl,.inl H.at_,.inl K.at_,by lia,λi p hp=>?_);let(k,hk,e1,e2):=b0P H.ks H.nd hp;let(l,L,a1,a2,a3,a4,_,a6):=H.ln k hk;let(l',M,b1,b2,b3,b4,_,b6):=K.ln k (sub H K k hk);rw[e2]at a1
 let:L=M:=a5m a3 b3 λt=>by rw[a6,b6]
 subst this;show(_,by rw[e1];show b1,l,l',_,bH.inj a1,rfl,a2,b2,a3v a4.okR)
def getM{α β:Type}{f:α->β}{l:List α}{i:Nat}{x:β}(h:(l.map f)[i]?=bH x):∃y,l[i]?=bH y/\f y=x:=↑h
def c0A{α:Type}{l:List α}{i:Nat}{x:α}(nd:l.Nodup)(h:l[i]?=bH x):x∉l.take i:=λz=>by
 let:=nd.sublist (dL (i+1) l)
 rw[cG,h,cH]at this;show this.2.2 x z x (by simp) rfl
def RowAt.sm{G G':Hq}{r:Addr}(h:RowAt G r)(s:Sm G G'):RowAt G' r:=let (x,w,e,o):=h;(x,w,s _ _ e,o)
def Kq.sm{G G1 G':Hq}{r:Addr}(h:Kq r G G1)(s:Sm G1 G'):Kq r G G':=λb o e n=>s _ _ (h b o e n)
def i_tk{G:Hq}{R:K3}{r:Addr}{n:Int}(hR:RowAt G r)(h0:0<n)(h1:n<2 ^ 64)(q:∀f G',0<=f->f<n->RowAt G' r->Kq r G G'->R (.int f) G'):a6d [.ref r,.int n] G R:=a1q hR h0 h1 λf _ _ a b c=>q f _ a b (.at c) Kq.at
def b2C:P3:=λws G R=>∃(p:Addr)(T:List Tl)(n:Int),ws=[.ref p,.int n]/\G p=bH (.lst (T.map Tl.z))/\OkT T/\T.length<=63/\0<=n/\∀(d:Addr)(ts:List Str)(kvs:List (Key×Z))(G':Hq),G d=gV->Sm G G'->TabN G' d (fT T n) ts kvs->R (.ref d) G'
def b2D(T:Txt K mg a):Cal P w K mg base CX0 3 "_law_table" (lowP K b2C):=by
 show fnc 2 (N:=["tellings","knowing","lines","key","line"]) T.br (T.f 34 _ rfl) ?_ (len:=λws G R h=>(by let(_,_,_,rfl,_):=h;rfl));walk_at "in";show(_,(a0c (z_st (nmI 2 nd) a9l)
  (a0c (a1K (pt:=(.nm 3)) h9.never rfl (by ac_rfl) (p_nm (nmI 3 nd))
  (a0c (by ac_rfl)
  (a0A (z_if (by ac_rfl)
  (a0A (a2N (qv 4) (qv 2) (qv 3) (a9N hu)))
  a1S))))
  (by ac_rfl))),?_)
 let(p,T',n,rfl,gp,ok,hl,hn,q):=h;lk;ext W hW;show(_,rfl,?_);generalize ee:put G W _=G1;let(gW,s1):=newK ee hW;lk;show(p,T',rfl,s1 _ _ gp,hl,λt ks G2 ht s2 gt so nd mem lk=>?_);let ntW:t≠W:=λz=>by rw[z,gW]at ht;cases ht
 let gW2:=s2 _ _ gW;let gp2:=s2 _ _ (s1 _ _ gp);let npW:p≠W:=a0i gp hW;lk;show a1u gt ?_;show a0E (λi σ G'=>Ex4 λ(us:List Str) (kv:List (Key×Z)) (v1 v2:Option Z)=>An7 (Kq W G2 G') (G' W=bH (.dK kv)) (us.Sublist (ks.take i)) (kv.map (·.1)=us.map (λs=>(Sum.inr s:Key))) (∀k∈us,∃l L,valZ kv (.inr k)=bH (.ref l)/\l≠W/\G' l=bH (.lst (L.map Rw.z))/\Can L/\Plain L/\L≠[]/\∀t,val L t=optW (fT T' n k t)) (∀k,k∉us->valZ kv (.inr k)=gV/\(k∈ks.take i->∀t,fT T' n k t=.non)) (σ=[bH (.ref p),bH (.int n),bH (.ref W),v1,v2]))
  ([],[],_,_,λ_ _ e _=>e,gW2,List.nil_sublist _,rfl,(λk h=>by cases h),λk _=>(rfl,λh=>by simp at h),rfl) (by ext i σ G' _ ⟨_,_,_,_,k,_⟩;show k _ _ gt ntW) ?_ ?_
 .ext i x σ G5 hx ⟨us,kv,v1,v2,kq,gW5,hus,hks,hln,hno,rfl⟩;let(key,hv',rfl):=getM hx;let mkey:=bB hv';let(τ,mτ,ek):=(mem key).mp mkey;let okk:nmOk key:=by rw[<- ek];show (ok τ mτ).k
  let nus:key∉us:=λz=>c0A nd hv' (hus.subset z);let lus:us.length<=63:=by let:=hus.length_le;rw[bE]at this;lia
  let lkv2:kv.length<=63:=by let:=congrArg bL hks;simp at this;lia
  show(_,rfl,?_);lk;show(p,T',key,n,rfl,kq _ _ gp2 npW,ok,okk,hl,hn,λt1 G6 ht1 s6 gt1=>?_);lk;let plk:=a1g (T:=T'.take n.toNat) (k:=key) fun τ hτ=>ok τ (bK hτ);let lpk:=a1J (T:=T') (k:=key) (j:=n.toNat);show(t1,_,rfl,gt1,plk,by lia,λt2 r2 G7 ht2 s7 gt2 c2 p2 z2 w2=>?_);lk;show(lenK rfl,λe8 he8=>?_);generalize ee8:put G7 e8 _=G8;let(g8,s8):=newK ee8 he8;lk;show b1w (s8 _ _ gt2) g8 (a3v p2.okR) rfl ?_;let s58:=(s6.trans s7).trans s8;let kq8:Kq W G2 G8:=λb o e n=>s58 _ _ (kq _ _ e n);let nt2:t2≠W:=λz=>by rw[z,s6 _ _ gW5]at ht2;cases ht2
  lk;show ifN (λc=>?_) λc=>?_
  .let rne:r2≠[]:=λz=>c (by rw[z];rfl);lk;show a9O (s58 _ _ gW5) rfl (a0d (by lia)) ?_;let hv:=(hno key nus).1;show(us++[key],putZ kv (.inr key) (.ref t2),_,_,λb o e nb=>by rw[a0h nb];show kq8 _ _ e nb,a0a,by rw[take_snoc hv'];show hus.append_right _,by rw[a6r hv,bp,hks,bp];rfl,λk hk=>?_,λk hk=>?_,rfl)
   .by_cases c:k=key
    .subst c;show(t2,r2,by rw[a1I,if_pos rfl],nt2,by rw[a0h nt2];show s8 _ _ gt2,c2,p2,rne,w2)
    .let hk2:k∈us:=by
      let h||h:=be.mp hk
      .show h
      .show absurd (bg.mp h) c
     let(l,M,a1,a2,a3,a4):=hln k hk2;show(l,M,by rw[a1I,if_neg λz=>c (by injection z)];show a1,a2,by rw[a0h a2];show s58 _ _ a3,a4)
   .rw[be,not_or]at hk;let c:k≠key:=λz=>hk.2 (by rw[z];simp);show(by rw[a1I,if_neg λz=>c (by injection z)];show (hno k hk.1).1,λh t=>?_);rw[take_snoc hv']at h;let h||h:=be.mp h
    .show (hno k hk.1).2 h t
    .show absurd (bg.mp h) c
  .let rn:r2=[]:=dD.mp c;subst rn;lk;show(us,kv,_,_,kq8,s58 _ _ gW5,by rw[take_snoc hv'];show hus.trans (List.sublist_append_left _ _),hks,λk hk=>?_,λk hk=>?_,rfl)
   .let(l,M,a1,a2,a3,a4):=hln k hk;show(l,M,a1,a2,s58 _ _ a3,a4)
   .show((hno k hk).1,λh t=>?_);rw[take_snoc hv']at h;let h||h:=be.mp h
    .show (hno k hk).2 h t
    .rw[bg.mp h];show a7s (w2 t).symm
 .ext σ G5 ⟨us,kv,v1,v2,kq,gW5,hus,hks,hln,hno,rfl⟩;rw[a9,cm]at hus hno;lk;show q W us kv G5 hW (λb o e=>kq _ _ (s2 _ _ (s1 _ _ e)) (a0i e hW)) (gW5,hks,nd.sublist hus,λk hk=>let (l,L,a1,_,a3,a4):=hln k hk;(l,L,a1,a3,a4),λk hk=>((hno k hk).1,λt=>?_))
  by_cases c:k∈ks
  .show (hno k hk).2 c t
  .unfold fT;rw[a7r fun τ hτ z=>c ((mem k).mpr (τ,hτ,z))]
   rfl
def b2E{K:Fg}{C:Addr}:PySem.W.kitOne K (.ref C) (.ref C)=bH kz:=by
 unfold PySem.W.kitOne;rw[if_pos (by simp)]
local macro_rules | `(tactic| walk_at "go1")=>`(tactic| with_reducible first | apply b8k | apply c0p | apply i_bx | apply c0f)
def a8b(a:Ad):P3:=λws G R=>Ex6 λ(p:Addr) (S:Addr->Prop) (T:List Tl) (nms:List Str) (n:Int) (m:Option Int)=>ws=[.ref p,.int n,oz m]/\Sheet a G p S T/\OkT T/\T.length<=63/\nms.length=4/\(∀τ∈T,τ.key∈nms)/\(m=gV->¬ inR T n)/\(∀j,m=bH j->¬ (inR T n/\inR T j))/\∀G',Sm G G'->R (.bl kz) G'
def a8c(T:Txt K mg a):Cal P w K mg base CX0 6 "_law_refused" (lowP K (a8b a)):=by
 show fnc 3 (N:=["sheet","knowing","later","right","other","e"]) T.br (T.f 35 _ rfl) ?_ (len:=λws G R h=>(by let(_,_,_,_,_,_,rfl,_):=h;rfl));walk_at "in";show(_,(a0c (by ac_rfl)
  (a0c (by ac_rfl)
  (a0c (z_tB (i:=5) (λC=>C=a.x_NoKnowing) (c0o (by ac_rfl) (b0j (a0L T) hr (q_k (qv 0) (q_k (qv 1) a0x))) (b0j (a09 T) hr (q_k (qv 0) (q_k (qv 1) (q_k (qv 2) a0x))))) T.x_TimesError (λC hC=>(by rcases hC with rfl;show T.xm_NoKnowing_TimesError)) nd (λC ex oe hC hx1 hx2 hx3=>(a0c (z_st (nmI 3 nd) (b2Q (q_B (b4M hx1 hx2 hx3 (by rcases hC with rfl;show T.xk_NoKnowing)) (T.b 1) (q_k (qv 5) (q_k (a2e (a02 rfl T.x_NoKnowing)) a0x))) (b6M (q_B (b4M hx1 hx2 hx3 (by rcases hC with rfl;show T.xk_NoKnowing)) (T.b 1) (q_k (qv 5) (q_k (q_ty (a1N (v:=.ty "ValueError") rfl (T.b 16) rfl rfl)) a0x))))))
  (a0A (z_st (nmI 4 nd) (q_B (b4M hx1 hx2 hx3 (by rcases hC with rfl;show T.xk_NoKnowing)) (T.b 1) (q_k (qv 5) (q_k (b1o (q_k (a2e (a02 rfl T.x_Broken)) (q_k (a2e (a02 rfl T.x_Forgotten)) (q_k (a2e (a02 rfl T.x_NoFit)) (q_k (a2e (a02 rfl T.x_NoLog)) (q_k (a2e (a02 rfl T.x_NoName)) (q_k (a2e (a02 rfl T.x_NoRow)) (q_k (a2e (a02 rfl T.x_NoSheet)) (q_k (a2e (a02 rfl T.x_NoStretch)) a0x))))))))) a0x))))))))
  (by ac_rfl)))),?_)
 let(p,S,T',nms,n,m,rfl,sh,ok,hl,hn,hk,r1,r2,fin):=h;let few:Few T':=(by lia,nms,by lia,hk);let _||j:=m<;>lk
 show(p,S,T',n,rfl,sh,ok,few,.inr (r1 rfl,rfl,λex=>?_))
 rotate_left
 show(p,S,T',nms,n,j,rfl,sh,ok,hl,hn,hk,.inr (r2 j rfl,λG1 s1=>(rfl,λex=>?_)))
 all_goals
  lk;show(_,kz,rfl,.inl (_,rfl,b2E),?_);lk;show(_,kz,rfl,.inr (.inl (_,rfl,T.kt_NoKnowing_ValueError)),?_);lk;show(lenK rfl,?_);show(_,kQ,rfl,.inr (.inr ([a.x_Broken,a.x_Forgotten,a.x_NoFit,a.x_NoLog,a.x_NoName,a.x_NoRow,a.x_NoSheet,a.x_NoStretch],rfl,T.ka_NoKnowing_0)),?_);lk
  first |show fin _ s1 |show fin _ (Sm.refl _)
def b2F(a:Ad):P3:=λws G R=>Ex7 λ(p tp:Addr) (S:Addr->Prop) (T:List Tl) (nms:List Str) (n m:Int)=>ws=[.ref p,.ref tp,.int n,.int m]/\Sheet a G p S T/\G tp=bH (.lst (T.map Tl.z))/\OkT T/\T.length<=63/\nms.length=4/\(∀τ∈T,τ.key∈nms)/\inR T n/\inR T m/\∀G',Sm G G'->R (.bl kz) G'
def b2G(T:Txt K mg a):Cal P w K mg base CX0 6 "_law_right" (lowP K (b2F a)):=by
 show fnc 4 (N:=["sheet","tellings","knowing","later","due","found","told","line"]) T.br (T.f 36 _ rfl) ?_ (len:=λws G R h=>(by let(_,_,_,_,_,_,_,rfl,_):=h;rfl));walk_at "in";show(_,(a0c (by ac_rfl)
  (a0c (z_st (nmI 5 nd) (q_cX a1f up0 (a09 T) hr (q_k (qv 0) (q_k (qv 2) (q_k (qv 3) a0x))) ))
  (a0c (z_if (a4Y (a7F (q_c (a6o T) hr (q_k (qv 5) (q_k (qv 4) a0x)) )))
  (by ac_rfl)
  a1S)
  (a0c (by ac_rfl)
  (a0c (z_if (QW.qt (q_or (a4Y (a7F (q_c (a6o T) hr (q_k (q_cX a1f up0 (a09 T) hr (q_k (qv 0) (q_k (qv 2) (q_k (qv 3) a0x))) ) (q_k (qv 4) a0x)) ))) (b1m (a82 (o_ne hu) (q_cX a1f up0 (a09 T) hr (q_k (qv 0) (q_k (qv 3) (q_k (qv 3) a0x))) ) (by ac_rfl) (a6A _)))))
  (by ac_rfl)
  a1S)
  (a0c (z_st (nmI 6 nd) (q_cX a1f up0 (a0L T) hr (q_k (qv 0) (q_k (qv 2) a0x)) ))
  (a0c (z_if (QW.qt (q_or (by ac_rfl) (b1m (a82 (b8h hu) (qv 6) (by ac_rfl) (a6A _)))))
  (by ac_rfl)
  a1S)
  (a0c (a1K (pt:=(.nm 7)) h9.never rfl (b0d (qv 6)) (p_nm (nmI 7 nd))
  (by ac_rfl))
  (a0A (a16 (b6I (b8g hu) (q_cX a1f up0 (a0L T) hr (q_k (qv 0) (q_k (qv 2) a0x)) ) (by ac_rfl) (a6A _)))))))))))),?_)
 let(p,tp,S,T',nms,n,m,rfl,sh,gt,ok,hl,hn,hk,rn,rm,fin):=h;let few:Few T':=(by lia,nms,by lia,hk);lk;show(tp,T',nms,n,m,rfl,gt,ok,hl,hn,hk,rn.1,rm.1,λdu A1 G1 hdu s1 gdu cA bA=>?_);let oA:=cA.okC (a8a ok) (a8a ok);let lA:=bA.all;let sh1:=sh.keep (Sm.ks s1);lk;show(p,S,T',nms,n,m,rfl,sh1,ok,hl,hn,hk,.inl (rn,rm,λfo B1 G2 hfo s2 gfo cB=>?_));let e1:=cB.uniq cA;subst e1;lk;show(_,_,rfl,.inr (fo,du,_,_,rfl,rfl,by decide,gfo,s2 _ _ gdu,oA.fl1,oA.fl1,?_));rw[decide_eq_true rfl];lk;show a0Y gfo ?_;lk;show(lenK rfl,?_);lk;show a0v gfo (by rw[a9];show a0d (by lia)) ?_;generalize ee3:put G2 fo _=G3;let s3:Sm G1 G3:=by rw[<- ee3];show s2.put hfo
 clear ee3 gfo;let s13:=s1.trans s3;lk;show(p,S,T',nms,n,m,rfl,sh.keep (Sm.ks s13),ok,hl,hn,hk,.inl (rn,rm,λf2 B2 G4 hf2 s4 gf2 cB2=>?_));let e2:=cB2.uniq cA;subst e2;let s14:=s13.trans s4;lk;show(_,_,rfl,.inr (f2,du,_,_,rfl,rfl,by decide,gf2,s4 _ _ (s3 _ _ gdu),oA.fl1,oA.fl1,?_));rw[decide_eq_true rfl];lk;show(p,S,T',nms,m,m,rfl,sh.keep (Sm.ks s14),ok,hl,hn,hk,.inl (rm,rm,λf3 B3 G5 hf3 s5 gf3 cB3=>?_));let e3:=cB3.uniq (CL.nil _);subst e3;lk;show(lenK rfl,λe6 he6=>?_);generalize ee6:put G5 e6 _=G6;let(g6,s6):=newK ee6 he6;lk;show b1w (s6 _ _ gf3) g6 rfl rfl ?_;rw[decide_eq_true (show ([]:List Cg).map Cg.z=[] from rfl)];let s16:=(s14.trans s5).trans s6;lk;show(p,S,T',n,rfl,sh.keep (Sm.ks s16),ok,few,.inl (rn,λd ts kvs G7 hd s7 H lt own=>?_));let s17:=s16.trans s7;let HN:=H.n fun τ h=>ok τ (bK h);lk;show a1c (n:="dict") (b:=kz) (by simp[tyN,H.at_]) (by decide) ?_;lk;show(tp,T',n,rfl,s17 _ _ gt,ok,hl,rn.1,λd2 ts2 kv2 G8 hd2 s8 H2=>?_);let s18:=s17.trans s8;show((HN.keep s8).same H2,?_);lk;show b76 (.inl (s8 _ _ H.at_)) ?_;let k9:∀b o,b≠d->G8 b=bH o->put G8 d (.dF kvs) b=bH o:=λb o n e=>by rw[a0h n];show e
 generalize put G8 d (.dF kvs)=G9 at k9 ⊢;let ln2:∀k l,valZ kvs (.inr k)=bH (.ref l)->∃L:List Rw,G7 l=bH (.lst (L.map Rw.z))/\L.length<=126:=λk l e=>by
  by_cases c:k∈ts
  .let(l',L,a1,a2,a3):=H.ln k c;rw[e]at a1;cases a1;let ll:=a3.len;rw[bE]at ll;show(L,a2,by lia)
  .rw[H.no k c]at e;cases e
 show a0E (λi σ G'=>∃(v:Option Z),An3 (∀b o,(∀k,valZ kvs (.inr k)≠bH (.ref b))->G9 b=bH o->G' b=bH o) (∀k l,valZ kvs (.inr k)=bH (.ref l)->∃ws,G' l=bH (.lst ws)/\ws.length<=126+i) (σ=[bH (.ref p),bH (.ref tp),bH (.int n),bH (.int m),bH (.ref du),bH (.ref fo),bH (.ref d),v]))
  (_,λ_ _ _ e=>e,λk l e=>?_,rfl) (λ_ _ _ _ _=>True.intro) ?_ ?_
 .let(L,a1,a2):=ln2 k l e;show(_,k9 _ _ (own k l e).2 (s8 _ _ a1),by rw[a9];lia)
 .ext i x σ G10 hx ⟨v,kp,un,rfl⟩;let(q,hp,rfl):=getM hx;let hi:=(bh.mp hp).1;let lks:=congrArg bL H.ks;simp at lks;let(k,hk,e1,e2):=b0P H.ks H.ka.nd hp;let(l,L,a1,_,_):=H.ln k hk;rw[e2]at a1;let ql:q.2=.ref l:=bH.inj a1;rw[ql]at e2;let(ws,g10,lw):=un k l e2
  change ∃σ',a3i (.nm 7) q.2 _=bH σ'/\_
  rw[ql];show(_,rfl,?_);lk;show a1c (n:="list") (b:=kz) (by simp[tyN,g10]) (by decide) ?_;lk;show a0Y g10 ?_;lk;show(lenK rfl,?_);lk;show a0v g10 (a0d (by lia)) (_,λb o n e=>?_,λk2 l2 e=>?_,rfl)
  .rw[a0h λz=>n k (by rw[z];show e2)];show kp b o n e
  .by_cases c:l2=l
   .rw[c,a0a];show(_,rfl,by simp;lia)
   .rw[a0h c];let(ws2,b1,b2):=un k2 l2 e;show(ws2,b1,by lia)
 .ext σ G10 ⟨v,kp,un,rfl⟩;let s10:Sm G G10:=λb o e=>kp b o (λk z=>by let:=(own k b z).1;rw[s16 _ _ e]at this;cases this) (k9 b o (λz=>by rw[z]at e;rw[s16 _ _ e]at hd;cases hd) (s18 _ _ e));lk;show(p,S,T',n,rfl,sh.keep (Sm.ks s10),ok,few,.inl (rn,λd3 ts3 kv3 G11 hd3 s11 H3 _ _=>?_));lk;let s111:=s10.trans s11;show(tp,T',n,rfl,s111 _ _ gt,ok,hl,rn.1,λd4 ts4 kv4 G12 hd4 s12 H4=>?_);show(((H3.n fun τ h=>ok τ (bK h)).keep s12).same H4,fin _ (s111.trans s12))
def b2H(a:Ad):P3:=λws G R=>Ex6 λ(p tp r:Addr) (S:Addr->Prop) (T:List Tl) (nms:List Str)=>ws=[.ref p,.ref tp,.ref r,.int T.length]/\Sheet a G p S T/\G tp=bH (.lst (T.map Tl.z))/\OkT T/\T.length<=63/\nms.length=4/\(∀τ∈T,τ.key∈nms)/\RowAt G r/\¬ S r/\tp≠r/\∀G',RowAt G' r->Kq r G G'->R (.bl kz) G'
def b2I(T:Txt K mg a):Cal P w K mg base CX0 7 "_law_asked" (lowP K (b2H a)):=by
 show fnc 4 (N:=["sheet","tellings","row","many","knowing","later","bad","both"]) T.br (T.f 37 _ rfl) ?_ (len:=λws G R h=>(by let(_,_,_,_,_,_,rfl,_):=h;rfl));walk_at "in";show(_,(by ac_rfl),?_);let(p,tp,r,S,T',nms,rfl,sh,gt,ok,hl,hn,hk,R0,nS,ntr,fin):=h;lk;show i_tk R0 (by lia) (by lia) λn G1 f0 f1 R1 k1=>?_;lk;show i_tk R1 (by lia) (by lia) λm0 G2 g0 g1 R2 k2=>?_;lk;show(lenK rfl,λl3 hl3=>?_);generalize ee3:put G2 l3 _=G3;let(g3,s3):=newK ee3 hl3;lk;show i_tk (R2.sm s3) (by decide) (by decide) λj G4 h0 h1 R4 k4=>?_;obtain⟨m,em,rm⟩:∃m:Int,atI [Z.int T'.length,Z.int m0] j=bH (Z.int m)/\inR T' m:=by
  let:j=0\/j=1:=by lia
  let rfl||rfl:=this
  .show(_,rfl,by lia,by lia)
  .show(_,rfl,g0,by lia)
 let rn:inR T' n:=(f0,by lia);show a0y (k4 _ _ g3 (Ne.symm (R2.ne hl3))) em ?_
 replace k4:Kq r G G4:=(Kq.sm (k1.trans k2) s3).trans k4
 lk;let keep:∀{G'},Kq r G G'->Sheet a G' p S T':=λk=>sh.keep λb o hb e=>k b o e λz=>nS (z▸hb);show(p,tp,S,T',nms,n,m,rfl,keep k4,k4 _ _ gt ntr,ok,hl,hn,hk,rn,rm,λG5 s5=>?_);lk;show i_tk (R4.sm s5) (by decide) (by decide) λb1 G6 i0 i1 R6 k6=>?_;lk;show i_tk R6 (by decide) (by decide) λb2 G7 j0 j1 R7 k7=>?_;lk;show(lenK rfl,λl8 hl8=>?_);generalize ee8:put G7 l8 _=G8;let(g8,s8):=newK ee8 hl8;lk;show i_tk (R7.sm s8) (by decide) (by decide) λq G9 q0 q1 R9 k9=>?_;let g9:=k9 _ _ g8 (Ne.symm (R7.ne hl8))
 replace k9:Kq r G G9:=(Kq.sm (((Kq.sm k4 s5).trans k6).trans k7) s8).trans k9
 obtain⟨bad,eb,nb⟩:∃m:Int,atI [Z.int (-1),Z.int (T'.length+1),Z.int (-1-b1),Z.int (T'.length+1+b2)] q=bH (Z.int m)/\¬ inR T' m:=by
  unfold inR
  let:q=0\/q=1\/q=2\/q=3:=by lia
  let rfl||rfl||rfl||rfl:=this
  .show(_,rfl,by lia)
  .show(_,rfl,by lia)
  .show(_,rfl,by lia)
  .show(_,rfl,by lia)
 show a0y g9 eb ?_;lk;show(lenK rfl,?_);lk;show(lenK rfl,?_);lk;show(lenK rfl,?_);lk;show(lenK rfl,?_);lk;show(lenK rfl,λlb hlb=>?_);generalize ee10:put G9 lb _=G10;let(g10,s10):=newK ee10 hlb;let k10:=Kq.sm k9 s10;let R10:=R9.sm s10;let all:∀x∈[Z.tup [.int bad,.int n],.tup [.int n,.int bad],.tup [.int bad,.int bad],.tup [.int bad,.non]],∃(u:Int)(v:Option Int),x=.tup [.int u,oz v]/\(v=gV->¬ inR T' u)/\∀j,v=bH j->¬ (inR T' u/\inR T' j):=λx hx=>by
  simp only[bf,dA,or_false]at hx;let rfl||rfl||rfl||rfl:=hx
  .show(bad,bH n,rfl,(λz=>nomatch z),λj _ z=>nb z.1)
  .show(n,bH bad,rfl,(λz=>nomatch z),λj h z=>nb (by cases h;show z.2))
  .show(bad,bH bad,rfl,(λz=>nomatch z),λj _ z=>nb z.1)
  .show(bad,gV,rfl,λ_=>nb,λj h=>nomatch h)
 clear k9 R9 g9 s10 ee10;generalize [Z.tup [.int bad,.int n],.tup [.int n,.int bad],.tup [.int bad,.int bad],.tup [.int bad,.non]]=L4 at g10 all;lk;show a1u g10 ?_;show a0E (λi σ G'=>∃v:Option Z,Sm G10 G'/\σ=[bH (.ref p),bH (.ref tp),bH (.ref r),bH (.int T'.length),bH (.int n),bH (.int m),bH (.int bad),v]) (_,Sm.refl _,rfl) (by ext i σ G' _ ⟨_,s,_⟩;show s _ _ g10) ?_ ?_
 .ext i x σ G11 hx ⟨v,s,rfl⟩;let(u,o,rfl,r1,r2):=all x (bB hx);show(_,rfl,?_);lk;show(p,S,T',nms,u,o,rfl,(keep k10).keep (Sm.ks s),ok,hl,hn,hk,r1,r2,λG12 s12=>?_);lk;show(_,s.trans s12,rfl)
 .ext σ G11 ⟨v,s,rfl⟩;lk;show(p,S,T',nms,T'.length+1,gV,rfl,(keep k10).keep (Sm.ks s),ok,hl,hn,hk,(λ_=>by unfold inR;lia),(λj h=>nomatch h),λG12 s12=>?_);show fin _ ((R10.sm s).sm s12) (Kq.sm (Kq.sm k10 s) s12)
structure RI (G2 G':Hq) (RS:List Addr):Prop where
 kp:∀b o,b∉RS->G2 b=bH o->G' b=bH o
 row:∀r∈RS,RowAt G' r
def RI.up{G2 G' G'':Hq}{RS:List Addr}(h:RI G2 G' RS)(s:Sm G' G''):RI G2 G'' RS:=(λb o n e=>s _ _ (h.kp b o n e),λx hx=>let (a,b,e,o):=h.row x hx;(a,b,s _ _ e,o))
def RI.draw2{G2 G' G'':Hq}{RS:List Addr}{r:Addr}(h:RI G2 G' RS)(hr:r∈RS\/G2 r=gV)(k:Kq r G' G'')(R:RowAt G'' r):RI G2 G'' RS:=(λb o n e=>k _ _ (h.kp b o n e) λz=>hr.elim (λq=>n (z▸q)) λq=>(by rw[z,q]at e;cases e),λx hx=>by
 by_cases c:x=r
 .rw[c];show R
 .show (h.row x hx).kq k c)
def b5H{t u:X3}{nq:C3}{rt bk ct}{σ:S3}{G:Hq}(M:C3)(h:∀K:C3,(∀σ' G',M σ' G'->K σ' G')->t K rt bk ct σ G)(h':∀σ' G',M σ' G'->u nq rt bk ct σ' G'):uSeq t u nq rt bk ct σ G:=h _ h'
def b8K(T:Txt K mg a){f:Addr}{d:ik}(J:Fun K "law" "law" (top 59) f d):FnOk P w K mg base CX0 8 f d ["script"] (lowP K a69):=by
 show fnd (n:=1) (N:=["script","tellings","rows","sheet","many","row"]) J ?_ (rfl,rfl,rfl,by decide +kernel,rfl,by decide +kernel,by decide +kernel) λws G R h=>by let(_,_,rfl,_):=h;rfl
 walk_at "in";show(_,(a0c (by ac_rfl)
  (a0c (z_st (nmI 3 nd) (c0h T.mk_Sheet (a2J T) hr T.mg_Sheet))
  (a0c (a1K (pt:=(.nm 4)) h9.never rfl (by ac_rfl) (p_nm (nmI 4 nd))
  (a0c (by ac_rfl)
  (a0c (by ac_rfl)
  (a0A (z_if (by ac_rfl)
  (a0A (a3h (q_m (qv 3) T.cl_Sheet (a4L T) hr (by ac_rfl) )))
  a1S)))))
  (by ac_rfl)))),?_)
 let(a',ns,rfl,hl,q):=h;lk;show(a',ns,rfl,hl,λt u T' rs nms G1 s1 gt gu okT lT lrs ln kT hr=>?_);show(_,rfl,?_);let nt:t∉rs:=λz=>(hr t z).2.1 rfl;let nu:u∉rs:=λz=>(hr u z).2.2.1 rfl;let r1:∀r∈rs,RowAt G1 r:=λr h=>(hr r h).1;clear hr;lk;ext x dx hx;show(x,dx,rfl,a0a,λd G2 hd kp sh=>?_);show(rfl,_,rfl,?_);let s2:Sm G1 G2:=λb o e=>kp b o (a0b e hx) (a0i e hx);let hd0:G1 d=gV:=by
  cases e:G1 d with
  |none=>rfl
  |some o=>rw[a0b e hx]at hd;cases hd
 let I0:RI G1 G2 rs:=(λb o _ e=>s2 _ _ e,λr h=>let (x,w,e,o):=r1 r h;(x,w,s2 _ _ e,o));lk;show a2O (s2 _ _ gt) ?_;rw[a9];lk;show(by cbv,by cbv,?_);show a0E (λi σ G'=>Ex3 λ(S:Addr->Prop) (v1 v2:Option Z)=>An4 (RI G1 G' rs) (∀b,S b->G1 b=gV) (Sheet a G' x S (T'.take i)) (σ=[bH (.scr a' ns),bH (.ref t),bH (.ref u),bH (.ref x),v1,v2])) (_,_,_,I0,(by ext b (rfl |rfl);show hx;show hd0),sh,rfl) (λ_ _ _ _ _=>True.intro) ?_ ?_
 .ext i z σ G3 hz ⟨S,v1,v2,I,fr,sh3,rfl⟩;let(hi,rfl):=a2z hz;rw[fD];let hi:i<=T'.length:=by cbv
  show(_,rfl,?_);lk;show(lenK rfl,λr0 hr0=>?_);generalize ee4:put G3 r0 _=G4;let(g4,s4):=newK ee4 hr0;lk;show(lenK rfl,λo0 ho0=>?_);generalize ee5:put G4 o0 _=G5;let(g5,s5):=newK ee5 ho0;lk;show a3k g5 (s5 _ _ (s4 _ _ (I.kp _ _ nu gu))) (a0H (by rw[a9,eU];cbv)) λli hli=>?_;generalize ee6:put G5 li _=G6;let(g6,s6):=newK ee6 hli;let s36:=(s4.trans s5).trans s6;obtain⟨r,hr'⟩:∃r,(r0::rs)[i]?=bH r:=(_,bn (by rw[bv];cbv));let mr:=bB hr';let ar:atI ([Z.ref r0]++rs.map Z.ref) (i:Int)=bH (.ref r):=a0O (by rw[show [Z.ref r0]++rs.map Z.ref=(r0::rs).map Z.ref from rfl,bo,hr'];rfl);let R6:RowAt G6 r/\(r∈rs\/G1 r=gV)/\¬ S r/\r≠t:=by
   let rfl||mr:=bf.mp mr
   .show((2,1,s6 _ _ (s5 _ _ g4),.inr (rfl,by decide,by decide)),.inr ?_,λz=>?_,λz=>?_)
    .cases e:G1 r with
     |none=>rfl
     |some o=>
      by_cases c:r∈rs
      .let(_,_,e,_):=I.row r c;rw[e]at hr0;cases hr0
      .rw[I.kp _ _ c e]at hr0;cases hr0
    .let(_,_,_,sm):=sh3;let(o,e):=sm.al _ z;rw[e]at hr0;cases hr0
    .rw[z,I.kp _ _ nt gt]at hr0;cases hr0
   .show((I.up s36).row r mr,.inl mr,λz=>?_,λz=>nt (z▸mr));let(_,_,e,_):=r1 r mr;rw[fr r z]at e;cases e
  let(R6,hrr,nS,nrt):=R6
  replace I:=I.up s36
  replace sh3:=sh3.keep (Sm.ks s36)
  clear s36 s4 s5 s6 ee4 ee5 ee6 g4 g5 hr0 ho0 hli hr' mr;lk;show a0y g6 ar ?_;clear g6 ar;show(_,rfl,?_);show i_nx (by assumption) ?_;show b5H (fun σ' G'=>An3 (RI G1 G' rs) (Sheet a G' x S (T'.take i)) (σ'=[bH (.scr a' ns),bH (.ref t),bH (.ref u),bH (.ref x),bH (.int i),bH (.ref r)])) ?_ ?_
  .ext K hK;lk;show(lenK rfl,?_);lk;show(rfl,rfl,?_);lk;show ifD (λc=>?_) λc=>?_
   .lk;show b4h (I.kp _ _ nt gt) λtp htp=>?_;rw[show cutZ (T'.map Tl.z) gV (bH (i:Int))=(T'.map Tl.z).take i from b0M,<- eY];let ntr:tp≠r:=Ne.symm (R6.ne htp);generalize ee7:put G6 tp _=G7;let(g7,s7):=newK ee7 htp;lk;show(x,tp,r,S,T'.take i,nms,by rw[show ((T'.take i).length:Int)=i by rw[bE];cbv],sh3.keep (Sm.ks s7),g7,fun τ h=>okT τ (bK h),by rw[bE];cbv,ln,fun τ h=>kT τ (bK h),(let (x,w,e,o):=R6;(x,w,s7 _ _ e,o)),nS,ntr,λG8 R8 k8=>?_);lk;show hK _ _ ((I.up s7).draw2 hrr k8 R8,(sh3.keep (Sm.ks s7)).keep λb o hb e=>k8 b o e λz=>nS (z▸hb),rfl)
   .lk;show hK _ _ (I,sh3,rfl)
  .ext σ' G7 ⟨I,sh7,rfl⟩;lk;show a2O (I.kp _ _ nt gt) ?_;rw[a9];lk;show ifD (λc=>?_) λc=>?_
   .let c:i<T'.length:=by cbv
    let hτ:T'[i]?=bH T'[i]:=bn c;generalize T'[i]=τ at hτ;let(dx3,n3,d3,ob):=b5z sh7;lk;show(x,dx3,_,rfl,ob,a4I (by decide +kernel) (by decide +kernel),?_);lk;show a0y (I.kp _ _ nt gt) (w:=τ.z) (a0O (by rw[bo,hτ];rfl)) ?_;lk;show(x,S,T'.take i,sh7,.inl (τ,rfl,okT τ (bB hτ),by rw[bE];cbv,λS' G8 i1 i2 kn sh8=>?_));lk;let up:∀b o,¬ S b->G7 b=bH o->G8 b=bH o:=kn;let nSr:∀r∈rs,¬ S r:=λr h z=>by let(_,_,e,_):=r1 r h;rw[fr r z]at e;cases e
    show(S',_,_,(λb o n e=>up b o (λz=>by rw[fr b z]at e;cases e) (I.kp b o n e),λr h=>let (x,w,e,o):=I.row r h;(x,w,up _ _ (nSr r h) e,o)),λb hb=>?_,by rw[take_snoc hτ];show sh8,rfl);show (i2 b hb).elim (fr b) λe=>?_;cases e1:G1 b with
    |none=>rfl
    |some o=>
     by_cases c:b∈rs
     .let(_,_,e2,_):=I.row b c;rw[e]at e2;cases e2
     .rw[I.kp _ _ c e1]at e;cases e
   .lk;show(S,_,_,I,fr,?_,rfl)
    let:T'.take (i+1)=T'.take i:=by rw[cj (by cbv),cj (by cbv)]
    rw[this];show sh7
 .ext σ G3 ⟨S,v1,v2,I,fr,sh3,rfl⟩;rw[a1e,cj (by cbv)]at sh3;let r0:inR T' 0:=(by cbv,by cbv);let rT:inR T' T'.length:=(by cbv,by cbv);lk;show a2O (I.kp _ _ nt gt) ?_;rw[a9];lk;show(x,t,S,T',nms,0,T'.length,rfl,sh3,I.kp _ _ nt gt,okT,lT,ln,kT,r0,rT,λG4 s4=>?_);lk;show(x,t,S,T',nms,T'.length,0,rfl,sh3.keep (Sm.ks s4),s4 _ _ (I.kp _ _ nt gt),okT,lT,ln,kT,rT,r0,λG5 s5=>?_);show q _
def all_mk{l:PySem.W.OpenLaw}{w:World}{K:Fg}{h:Heap}{mg:Str->Option Value}{fa:Addr}(X:K.In h)(G:h.Ns hV mg)(hfa:mg "law"=bH (.ref fa))
  {ac aa ab ao ai aq ar ap au am aj:Addr}
  {ak al:Tok}
  (aO:PySem.W.nsIn K hV "Sheet"=bH (bH (.ref ac)))
  (az:PySem.W.nsIn K hV "NoKnowing"=bH (bH (.ref aa)))
  (ax:PySem.W.nsIn K hV "TimesError"=bH (bH (.ref ab)))
  (aM:PySem.W.nsIn K hV "Broken"=bH (bH (.ref ao)))
  (aA:PySem.W.nsIn K hV "Forgotten"=bH (bH (.ref ai)))
  (aP:PySem.W.nsIn K hV "NoFit"=bH (bH (.ref aq)))
  (aQ:PySem.W.nsIn K hV "NoLog"=bH (bH (.ref ar)))
  (aN:PySem.W.nsIn K hV "NoName"=bH (bH (.ref ap)))
  (aR:PySem.W.nsIn K hV "NoRow"=bH (bH (.ref au)))
  (aL:PySem.W.nsIn K hV "NoSheet"=bH (bH (.ref am)))
  (aB:PySem.W.nsIn K hV "NoStretch"=bH (bH (.ref aj)))
  (av:PySem.W.nsIn K hV "LONGEST_NAME"=bH (bH (.int 8 ak)))
  (ay:PySem.W.nsIn K hV "LAST_MOMENT"=bH (bH (.int 1000000000000 al)))
  (aS:PySem.W.plainGet K ac Str.empty=kz)
  (aT:PySem.W.hasDictIn K ac=kz)
  (aU:PySem.W.plainOver K ac=kz)
  (aV:PySem.W.findIn K (.ref ac) "__setattr__"=bH (bH (.builtin "object.__setattr__")))
  (aW:PySem.W.makesIn K ac=kz)
  (aX:PySem.W.keepIn K (.ref ac)=kz)
  (aC:PySem.W.excIn K aa veM "ValueError.__new__"=kz)
  (ad:PySem.W.subIn K (.ref ab) (.type "BaseException")=bH kz)
  (ae:PySem.W.typeIn K (.ref ab)=bH (.type "type"))
  (af:PySem.W.subIn K (.ref aa) (.ref ab)=bH kz)
  (ag:PySem.W.hasDictIn K ab=kz)
  (aD:PySem.W.hasDictIn K aa=kz)
  (aE:PySem.W.findIn K (.ref aa) "__getattribute__"=bH (bH (.builtin "BaseException.__getattribute__")))
  (aF:PySem.W.findIn K (.ref aa) "__getattr__"=bH gV)
  (aG:PySem.W.findIn K (.ref aa) "__class__"=bH (bH (.builtin "object.__class__")))
  (aH:PySem.W.specialIn K (.builtin "object.__class__") "__get__"=bH (bH (.builtin "getset_descriptor.__get__")))
  (aI:PySem.W.takesIn K (.builtin "object.__class__")=bH kz)
  (aJ:PySem.W.mroIn K aa (.type "object")=bH kz)
  (aK:PySem.W.mroIn K aa (.type "BaseException")=bH kz)
  (ah:PySem.W.kitOne K (.ref aa) (.type "ValueError")=bH kz)
  (aw:PySem.W.kitAny K (.ref aa) [.ref ao,.ref ai,.ref aq,.ref ar,.ref ap,.ref au,.ref am,.ref aj]=bH kQ)
  (F:AllF K top tF)
  (B:AllB K tB)
  (aY:AllM K top ac a66)
  (aZ:AllN K ac a67) :
  ∃fd:ik,(∀(s:Shared)(v:Value),jo s fd ([v],[]) [("script",v,)])/\∀base:Heap,K.In base->base.Ns hV mg->FnOk l.prog w K mg base CX0 8 fa fd ["script"] (lowP K a69):=by
 let br:=c0g X G;let(f,d,e,J):=F 38 _ rfl;let e:=hfa.symm.trans (br _ _ e);cases e
 letI a:Ad:=(ac,aa,ab,ao,ai,aq,ar,ap,au,am,aj)
 let T:Txt K mg a:=(br,F,B,br _ _ aO,(aS,aT,aU,aV),aY,aZ,(aW,aX),br _ _ az,br _ _ ax,br _ _ aM,br _ _ aA,br _ _ aP,br _ _ aQ,br _ _ aN,br _ _ aR,br _ _ aL,br _ _ aB,aC,b72 ad ae af ag,b71 aD aE aF aG aH aI aJ aK,ah,aw,(ak,br _ _ av),(al,br _ _ ay));let hb:=λP base=>b8K (P:=P) (w:=w) (base:=base) T J;let(oc,od,kV,doc,pm,an,cdv,ct,osl,rfl,lk,hcd):=J.ex;show(_,λs v=>.of_eq rfl,λbase _ _=>hb l.prog base)
def walk{l:PySem.W.OpenLaw}{K:Params->Fg}(hn:l.most=bH 63)(hdf:d.params.defaults=[])
  (hY:∀(w:World)(h:Heap),YP w h->(K w.params).In h)
  (F:∀(w:World)(mg:Str->Option Value)(fa:Addr)(h:Heap),(K w.params).In h->h.Ns hV mg->mg d.name=bH (.ref fa) ->
   ∃fd:ik,(∀(s:Shared)(u:Value),jo s fd ([u],[]) [("script",u,)])/\∀base:Heap,(K w.params).In base->base.Ns hV mg->FnOk l.prog w (K w.params) mg base CX0 8 fa fd ["script"] (lowP (K w.params) a69)) :
  PySem.W.WalkO q loose XP YP l.row.toRowW d [] (λf vs=>PySem.call f vs):=
 L2.walk_of hn (by decide) hdf (rfl,by decide,by decide) hY F (λ_ _ a c e b g=>b0k a c e (Fz.of b g)) λ_ _ _ _ _ z=>z
end Lw
end
open PySem PySem.W PyProof.Rows
set_option maxRecDepth 100000 in
set_option maxHeartbeats 0 in
theorem PySem.Challenge.cw_twotimes_k61_changes_told_holds : PySem.Challenge.rw_twotimes_k61_changes_told.Holds := by
 w_on;o_law;k_head;(case hw=>w_witness2)
 k_fill
 refine Lw.walk (l:=PySem.Challenge.rw_twotimes_k61_changes_told) rfl rfl (fun w h Y=>PySem.W.kIn_of Y) ?F
 case F=>
  intro w mg fa h KX G hmg;refine' Lw.all_mk KX G hmg ?aa ?ab ?ac ?ad ?ae ?af ?ag ?ah ?ai ?aj ?ak ?al ?am ?an ?ao ?ap ?aq ?ar ?au ?av ?aw ?ax ?ay ?az ?aA ?aB ?aC ?aD ?aE ?aF ?aG ?aH ?aI ?aJ ?F ?aK ?aL ?aM
  all_goals try k_is
  (case av=>k_exc)
  all_goals try k_is
  (case aI=>kit_is)
  (case aJ=>kit_is)
  all_goals (repeat first |exact L2.af0 |exact L2.am0 |exact L2.ab0 |exact L2.an0 | (first |refine' L2.af1 ?_ ?_ ?_ ?_ ?_ |refine' L2.am1 ?_ ?_ ?_ ?_ ?_ ?_ |refine' L2.ab1 ?_ ?_ |refine' L2.an1 ?_ ?_)<;>try k_is)
