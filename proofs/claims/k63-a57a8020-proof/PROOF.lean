import PyProof.Rows.All
import Wide.All
import OpenK.AllK
import Wide.FinOn
import Lean
import PyProof.EqAt
import PyProof.EqKinds
import PyProof.TupleCall
import PyProof.CompFree
import PyProof.P3In
import PyProof.RaisesMany
import PyProof.StationsW
import PyProof.ExcClass3
import PyProof.ExcBaseAll.ValueError
import PyProof.RulesTry
import PyProof.RulesAs
import PyProof.NsDelKeeps
import KE.KTryMore
import PyProof.ExcArgs
import KE.RegKIsAll
import PyProof.Rows.EqDataRows
import KE.KLam
import KE.KSortKey
import KE.KNestM
import PyProof.DictItemsLoops
import PyProof.DictValues
import PyProof.DictWalks
import KE.KMinBuiltin
import KE.KEqDict
import KE.KIntText
import KE.KDictOf
import PyProof.StrBlockH
import KE.KWords
import PyProof.CallStr
import PyProof.StrLawsTight
import PyProof.StrLawsChain
import PyProof.AttrMissHeap
import KE.KSortTup
import Wide.Seal
import PySem.Challenge.RW_twotimes_k63_turned_and_joined
set_option Elab.async false
set_option linter.all false
set_option maxRecDepth 100000
set_option compiler.extract_closed false
set_option bootstrap.genMatcherCode false
noncomputable section
open List renaming length_map→ae,mem_cons→ag,mem_append→ah,mem_singleton→ai,getElem?_eq_some_iff→aj,getElem?_eq_getElem→ak,map_cons→am,getElem?_map→aq,map_append→au,pairwise_cons→av,length_append→ay,mem_map→az,length_take→aA,range→aC,mem_of_getElem?→aD,length_cons→aE,Perm→aH,mem_append_right→aI,size_toArray→aJ,all_cons→aL,pairwise_append→aM,append_assoc→aN,map_nil→aO,length_drop→aT,append_nil→aV,mem_cons_self→aX,mem_of_mem_take→aY,map_map→aZ,all_eq_true→bg,cons→bh,getElem?_of_mem→bn,nodup_cons→bp,getElem_mem→bu,mem_filter→bv,mem_range→bx,filterMap_cons→bz,length→bA,find?_cons→bB,take_of_length_le→bC,any_eq_true→bE,mem_cons_of_mem→bF,Pairwise→bG,filter_cons→bI,take_add_one→bJ,length_eq_zero_iff→bK,mem_map_of_mem→bN,getD_eq_getElem?_getD→bO,take_length→bP,mem_append_left→bQ,getElem?_append_right→bR,getElem?_append_left→bS,any_cons→bT,lookup_cons→bU,pairwise_iff_getElem→bV,length_pos_iff→bW,flatMap_cons→bX,of_mem_zip→b5,forIn_cons→b6,drop_eq_getElem_cons→cf,getElem?_drop→cg,reverse_append→ci,reverse_singleton→cj,nodup_append→cp,pairwise_map→cr,filter_sublist→cu,drop_eq_nil_of_le→cx,mem_iff_getElem→cz,take_append_drop→cA,length_range→cB,getElem?_eq_none→cD,length_filter_le→cF,mem_flatMap→cG,getElem?_set_self→cH,getElem?_set_ne→cI,mem_filterMap→cJ,any_eq_false→cK,replicate→cL,reverse_cons→cM,lookup_append→cN,extract_eq_take_drop→cP,getElem?_take→cR,cons_append→cT,ext_getElem?→cU,not_mem_nil→cV,find?_eq_none→cY,getLast?_eq_none_iff→cZ,getLast?_map→da,filter_eq_nil_iff→db,filterMap_eq_map→dc,take_sublist→dg,map_take→dt,pairwise_singleton→du,drop_sublist→dv,perm_append_comm→dw,mem_of_mem_drop→dy,drop_append→dA,nil_append→dB,take_append_of_le_length→dC,eraseIdx_cons_succ→dD,pairwise_lt_range→dE,map_congr_left→dI,toList_toArray→dJ,length_filterMap_le→dO,mem_of_getLast?→dP,rel_of_pairwise_cons→dQ,map_eq_nil_iff→dS,filterMap_map→d3,length_singleton→d4,length_set→d7,perm_middle→d8,singleton_append→d9,zipIdx_cons→eh,foldl_cons→ei,drop_set_of_lt→ej,take_set_of_le→eq,drop_append_of_le_length→et,flatten_cons→eu,set_cons_succ→eA,findIdx?→eE,ext_getElem→eG,length_reverse→eK,map_filterMap→eO,find?_append→eQ,head?_cons→eS,dropLast_subset→eT,map_dropLast→eU,mem_of_find?_eq_some→eV,head?_drop→eW,drop_length→eX,filter_append→eY,getElem_take→eZ,find?_isSome→e8
open Nat renaming le_refl→af,ne_of_lt→ao,le_trans→ax,lt_of_lt_of_le→aB,zero_le→aK,lt_irrefl→aW,le_of_lt→a9,ne_of_gt→be,zero_add→bM,le_of_eq→bZ,le_of_succ_le→b8,lt_succ_of_lt→b9,add_assoc→cm,add_zero→cS,mod_lt→cW,lt_succ_self→de,lt_of_le_of_lt→dj,lt_trans→dq,add_sub_cancel→dz,le_succ→dG,add_comm→dL,min_le_right→dY,add_right_comm→eJ,le_add_right→eM,le_of_lt_succ→eN
open False renaming elim→ap
open Array renaming length_toList→aF,toList_push→aU,getElem?_eq_getElem→bo,getElem?_toList→bt,size_map→cn,getD_eq_getD_getElem?→cq,perm_iff_toList_perm→cw,Perm→cy,forIn_toList→cX,append_assoc→dU,mem_toList_iff→dW,toList_extract→er,toList_setIfInBounds→eB,getElem?_modify→eC,toArray_toList→eD,getElem?_eq_none→eF,size_setIfInBounds→eI,append_empty→eL,isEmpty_iff_size_eq_zero→eP
open Option renaming some→aG,map_some→b7,getD_none→dh,filter→dR,isSome_iff_exists→dX,bind_some→d6
open Bool renaming and_eq_true→aQ,false_ne_true→aR,false_eq_true→bD,eq_iff_iff→bY,true_and→cO,and_false→di,and_self→dr,false_or→d5,false_and→eR
open Int renaming le_trans→aS,le_of_lt→bj,le_refl→bL,eq_ofNat_of_zero_le→cE,not_lt→cQ,toNat_natCast→dH,emod_nonneg→dM,emod_lt_of_pos→dN
open Or renaming inr→bf,inl→bH
open PySem renaming wpAny_bind→e9,wpAny_pure→fc,SetTable→fe,sizeLine→fi,Program→fq,starEach→fu,Builtin→fv,compareOp→fz,NameKind→fA,cellsFrom→fB,sizeLine_eq→fC,wpAny_mono→fD,binaryOp→fE,mainGlobals→fF,PassesOwn→fH,wpAny_holding→fI,bootBuiltins→fJ,FuncData→fK,sysModules→fO,wpAny_call_entry→fR,scanBound→fS,wpAny_setState_of→fU,holding→fV,wpAny_field→fW,wpAny_ite_split→f6,assignEach→f8,codeAny→f9,pickOrder→gb,wpAny_rule→gg,wpAny_newObj_type→gh,wpAny_truthy_bool→gi,foldedSetIterable→gj,codeAny_mono→gn,unsupported→gx,swapsWith→gz,wpAny_attempt→gA,wpAny_setField→gC,inplaceOp→gE,wpAny_passesOwn→gF,behindInMarks→gG,Keyword→gH,typeIs_str→gI,sliceBounds→gJ,callerA→gK,Arguments→gM,codeAny_builtin→gQ,wpAny_askSetting→gR,wpAny_setEntries_of→gU,standAt→gY,BindsTo→gZ,bindArgs→g9,valueAt→hU,compEnvC→hV,wpAny_newTuple→hZ,relayAll→h9,tupleKind→ic,intKind→ie,builtinsNs→ig,wpAny_load→ii,getItem→ij,call_meetsIn→ik,closureFor→im,notedBy→io,wpAny_newList→iu,wpAny_storeSet_of→iw,fits_of_scanBound→iy,plainId_quiet→iz,isSubtype_type→iA,wpAny_isInstance→iB,wpAny_seqItems→iC,wpAny_execs_nil→iD,setItem→iE,unaryOp→iF,lastMarks→iG,wpAny_call→iH,wpAny_Call_Name_kw→iI,CellsOk→iJ,wpAny_getItem_str_slice→iK,post_val_or_str→iM,ElemsOf→iP,setAddHashed→iQ,storeSet→iR,GenState→iS,wpAny_of_eq→iT,entryFor→iU,setNext→iV,wpAny_fieldsOf→iW,setsByText→iX,wpAny_setEpoch_of→iY,wpAny_setField_rec→iZ,storeName→i5,wpAny_Name→i6,wpAny_standAt→i7,swapsWithSole→i8,swappedStores→i9,letOwnedTupleGo→ja,wpAny_pyIter_list→jc,DictEntry→jd,wpAny_typeOf→je,seqIndex_of→jf,seqIndex_neg→jg,attributeBase→jh,backToKw→ji,keywordEach→jj,tupleKind_room_in1→jk,wpAny_alloc→jl,compPost→jo,setAddHashedIn→jr,codeAny_of_tree→js,checkBuiltinCall→jt,entryFor_alias→ju,wpAny_updateSeq→jv,defaultsOf→jB,setMerge→jC
open PyProof.Rows renaming wpS_bind→fj,wpS_pure→fm,pendingOf→fw,IntsAre→fG,wpS_forRange→fL,failedOf→fM,wpS_mono→fN,SortKind→fX,wpS_modify→fY,wpS_get→fZ,AllBare→f7,pairsOf→gN,listUpdate_at→gO,StrsAre→gX,sortedS→ib,reverseSlice'→ip,setPending→iq,seqEpoch_at→ir,oneType'→iN,size_push'→iO,mergeAt'→jp,listItems_at→jq,kind_sorted→jw,plain_sorted→jx,entry_sorted→jy,slot_list_sort→jz,entry_list_sort→jA
abbrev Fg:=PySem.W.Frag
set_option tactic.hygienic false
namespace PySem.W.Fast
noncomputable def z:=0
def tw9973451374276136331:=z
def tw14017582290393905184:=z
def tw11470944101175637587:=z
def tw10071070105243226954:=z
def tw14304251612552827426:=z
def tw9685474001405103245:=z
def tw8266189843009458026:=z
def tw726209863051475439:=z
def tw18123138462025484352:=z
def tw16569412289517005507:=z
def tw8548463881722856156:=z
def tw11427927298046223541:=z
def tw13188294967075819758:=z
def tw13949807343836341332:=z
def tw305767583239963977:=z
def tw7926430757631366865:=z
def tw12195510386859104893:=z
def tw4110991227466660811:=z
def tw8525455174776260024:=z
def tw1280436745477037831:=z
def tw2183979520209346007:=z
def tw9023081598735015559:=z
def tw2519140398630512013:=z
def tw9337509265478364288:=z
def tw5816821525711277111:=z
def tw12487662319933900755:=z
def tw2169005229793203695:=z
def tw2257635853836179922:=z
def tw5790758772363753715:=z
def tw16801949736206136738:=z
def tw12376111321400185818:=z
def tw15479182516584519033:=z
def tw8464084551961523118:=z
def tw12108869632457050254:=z
def tw3231722662922236190:=z
def tw13848008868922078993:=z
def tw13749171407288508118:=z
def tw8327715369400627788:=z
def tw16830610084389705288:=z
def tw4515105446878661881:=z
def tw13111710506360516129:=z
def tw14564283543516858526:=z
def tw214847639749822308:=z
def tw3102386503232568297:=z
def tw5056162228093025331:=z
def tw2689400017393062089:=z
def tw3934579045182207789:=z
def tw555728792460118423:=z
def tw9029950925564839103:=z
def tw15612707600240429086:=z
def tw3205966870217243184:=z
def tw17359607027855099076:=z
def tw10494961582766169342:=z
def tw13750575337285606674:=z
def tw5210420042783766868:=z
def tw16216618217758777611:=z
def tw5432699388068575780:=z
def tw13138844949524789813:=z
def tw12720285974093637180:=z
def tw16885261143804157151:=z
def tw232810758287693402:=z
def tw15938258252549913335:=z
def tw11121591259131147992:=z
def tw5690504033962000799:=z
def tw15400631104201162046:=z
def tw1384509724109697457:=z
def tw5247019363840619848:=z
def tw17325298471509794211:=z
def tw9515824519177711431:=z
def tw6509345108132289398:=z
def tw12896967679169695575:=z
def tw9441743576408274977:=z
def tw1346185489126250626:=z
def tw11699875171895170470:=z
def tw12014284299133908569:=z
def tw15355045940954095270:=z
def tw7173556078284479242:=z
def tw2457780077499582091:=z
def tw4498962002119108553:=z
def tw16808215402871158718:=z
def tw10502868715870372521:=z
def tw3261858410987194605:=z
def tw18242867685475963450:=z
def tw14241787952106542524:=z
def tw6257132703618555643:=z
def tw18425839013192364859:=z
def tw1701377226946400212:=z
def tw7636793909448716089:=z
def tw15600311665591930325:=z
def tw8476313668311400543:=z
def tw13451770967665204134:=z
def tw132422802545316161:=z
def tw17381475887562873942:=z
def tw3949621813705663402:=z
def tw9032985119950032645:=z
def tw14888942832674367271:=z
def tw1788573282769194847:=z
def tw7344239369745209626:=z
def tw18217981337383219:=z
def tw14209157047234414090:=z
def tw1830351538913835746:=z
def tw10884922796721251200:=z
def tw9381307068349306135:=z
def tw13331207339556817799:=z
def tw10245655027539522797:=z
def tw5124592261004240816:=z
def tw4430215379223406328:=z
def tw6280485988659644584:=z
def tw8525239559656877625:=z
def tw17934498647992945724:=z
def tw8142848257774829899:=z
def tw7184157158149446713:=z
def tw7149766319714665565:=z
def tw4170274987320445468:=z
def tw17808706855072936298:=z
def tw4380061617465597881:=z
def tw14110347225201584349:=z
def tw17090263399084826145:=z
def tw1553120411172260220:=z
def tw15943701748919091835:=z
def tw9023776759537987490:=z
def tw1259162173504874968:=z
def tw16898685736138566680:=z
def tw495134183590875574:=z
def tw2411173670597250147:=z
def tw17443680347762353234:=z
def tw5254493145537205011:=z
def tw11927310499109215703:=z
def tw2236816995537289757:=z
def tw12040807664638417370:=z
def tw7524382934189611892:=z
def tw13373327233338298364:=z
def tw1290565325700639689:=z
def tw15200735129043263374:=z
def tw12354339485752934420:=z
def tw8108449906936522986:=z
def tw11528005908025673816:=z
def tw16107875872363764164:=z
def tw2078135973034193913:=z
def tw7511834605853584415:=z
def tw13996914949886388390:=z
def tw3661700962337501494:=z
def tw7382147921491036634:=z
def tw206923142186505424:=z
def tw15739110212891821893:=z
def tw1292343981051956547:=z
def tw4238762238547524052:=z
def tw16217113752546229239:=z
def tw3339972052604456897:=z
def tw16434728769703859378:=z
def tw1884386508413204082:=z
def tw1085442156223890469:=z
def tw13200535507533946957:=z
def tw2918053075223368239:=z
def tw4330724211073320914:=z
def tw8886159515341277031:=z
def tw154699906400584271:=z
def tw9721098191569116596:=z
def tw16904518255664999207:=z
def tw5816016133927683752:=z
def tw15157170726597136687:=z
end PySem.W.Fast
namespace L2
open PySem PySem.Spec PyProof.Rows
abbrev Key:=Sum (Option Int) Str
noncomputable def b4M:Value->Bool
 |.none=>true
 |_=>false
noncomputable def a5I:Key->Value->Bool
 |.inl (some k),v=>Value.isInt k v
 |.inl none,v=>b4M v
 |.inr x,v=>Value.isStrOf x v
noncomputable def keyH(w:World):Key->Int
 |.inl (some k)=>hashInt k
 |.inl none=>reduceHash 0xFCA86420
 |.inr x=>hashStr w x
theorem a0o:∀{k:Key}{v:Value},a5I k v=true->(∃i t,k=Sum.inl (some i)/\v=Value.int i t)\/(∃x t,k=Sum.inr x/\v=Value.str x t)\/(k=Sum.inl none/\v=Value.none)
 |.inl (some i),v,h=>by
  obtain⟨t,e⟩:=Value.isInt_shape h;exact .inl ⟨i,t,rfl,e⟩
 |.inl none,v,h=>by
  cases v<;>first |exact .inr (.inr ⟨rfl,rfl⟩) |cases h
 |.inr x,v,h=>by
  obtain⟨t,e⟩:=Value.isStrOf_shape h;exact .inr (.inl ⟨x,t,rfl,e⟩)
def a6i(i:Int)(t:Tok):a5I (.inl (some i)) (.int i t)=true:=by simp[a5I,Value.isInt]
def a6j(x:Str)(t:Tok):a5I (.inr x) (.str x t)=true:=by simp[a5I,Value.isStrOf]
def b13(a b:Int):decide ((Sum.inl (some a):Key)=Sum.inl (some b))=(a==b):=by
 by_cases e:a=b
 ·simp_all
 ·simp_all
def b14(a b:Str):decide ((Sum.inr a:Key)=Sum.inr b)=decide (a=b):=by simp
def a2P{a b:Key}(h:a≠b):decide (a=b)=false:=decide_eq_false h
noncomputable def a0w(prog:fq)(w:World):PySem.KeyKind prog w Key where
 is:=a5I
 hash:=keyH w
 inj:=λv a b ha hb=>by
  rcases a0o ha with ⟨i,t,rfl,rfl⟩ |⟨x,t,rfl,rfl⟩ |⟨rfl,rfl⟩
  ·rcases a0o hb with ⟨j,u,rfl,e⟩ |⟨y,u,rfl,e⟩ |⟨rfl,e⟩
   ·injection e with e1 _;rw[e1]
   ·exact nomatch e
   ·exact nomatch e
  ·rcases a0o hb with ⟨j,u,rfl,e⟩ |⟨y,u,rfl,e⟩ |⟨rfl,e⟩
   ·exact nomatch e
   ·injection e with e1 _;rw[e1]
   ·exact nomatch e
  ·rcases a0o hb with ⟨j,u,rfl,e⟩ |⟨y,u,rfl,e⟩ |⟨rfl,e⟩
   ·exact nomatch e
   ·exact nomatch e
   ·rfl
 byValue:=λk v h=>by
  rcases a0o h with ⟨i,t,rfl,rfl⟩ |⟨x,t,rfl,rfl⟩ |⟨rfl,rfl⟩<;>rfl
 pyHash:=λhv h=>by
  rcases a0o hv with ⟨i,t,rfl,rfl⟩ |⟨x,t,rfl,rfl⟩ |⟨rfl,rfl⟩
  ·exact wpAny_pyHash_int h
  ·exact wpAny_pyHash_str h
  ·exact PySem.W.pyHash_slot (T:="NoneType") rfl F.slot_NoneType_hash F.entry_NoneType_hash (F.args_NoneType_hash_1 _) (beq_builtin_none _) (.inl rfl) (e9 (fc (e9 (wpAny_mkInt (fc ⟨_,_,rfl,h⟩)))))
 eqBool:=λhu hv h=>by
  rcases a0o hu with ⟨i,t,rfl,rfl⟩ |⟨x,t,rfl,rfl⟩ |⟨rfl,rfl⟩
  ·rcases a0o hv with ⟨j,u,rfl,rfl⟩ |⟨y,u,rfl,rfl⟩ |⟨rfl,rfl⟩
   ·rw[b13]at h;exact wpAny_eqBool_int h
   ·rw[show decide ((Sum.inl (some i):Key)=Sum.inr y)=false from a2P (by simp)]at h;exact SeqAt.EqAt.int_str i t y u _ _ _ _ h
   ·rw[show decide ((Sum.inl (some i):Key)=Sum.inl none)=false from a2P (by simp)]at h;exact SeqAt.EqAt.int_none i t _ _ _ _ h
  ·rcases a0o hv with ⟨j,u,rfl,rfl⟩ |⟨y,u,rfl,rfl⟩ |⟨rfl,rfl⟩
   ·rw[show decide ((Sum.inr x:Key)=Sum.inl (some j))=false from a2P (by simp)]at h;exact SeqAt.EqAt.str_int x t j u _ _ _ _ h
   ·rw[b14]at h;exact wpAny_eqBool_str h
   ·rw[show decide ((Sum.inr x:Key)=Sum.inl none)=false from a2P (by simp)]at h;exact SeqAt.EqAt.str_none x t _ _ _ _ h
  ·rcases a0o hv with ⟨j,u,rfl,rfl⟩ |⟨y,u,rfl,rfl⟩ |⟨rfl,rfl⟩
   ·rw[show decide ((Sum.inl none:Key)=Sum.inl (some j))=false from a2P (by simp)]at h;exact SeqAt.EqAt.none_int j u _ _ _ _ h
   ·rw[show decide ((Sum.inl none:Key)=Sum.inr y)=false from a2P (by simp)]at h;exact SeqAt.EqAt.none_str y u _ _ _ _ h
   ·rw[decide_eq_true rfl]at h;unfold PySem.eqBool;refine fI ?_;exact f6 (λ_=>e9 (gg (fc h))) λhab=>absurd rfl hab
 «strs»:=λk x t v h=>by
  rcases a0o h with ⟨i,u,rfl,e⟩ |⟨y,u,rfl,e⟩ |⟨rfl,e⟩
  ·exact nomatch e
  ·injection e with e1 _
   subst e1;cases v<;>rfl
  ·exact nomatch e
def a4i(prog:fq)(w:World)(i:Int)(t:Tok):(a0w prog w).is (.inl (some i)) (.int i t)=true:=a6i i t
def a4j(prog:fq)(w:World)(x:Str)(t:Tok):(a0w prog w).is (.inr x) (.str x t)=true:=a6j x t
inductive V where
 |non |bl (b:Bool) |int (i:Int) |str (x:Str) |byt (b:Array UInt8) |flt (b:UInt64) |ref (a:Addr) |ty (n:String)
 deriving DecidableEq
def RelV:V->Value->Prop
 |.non,u=>u=Value.none
 |.bl b,u=>u=Value.bool b
 |.int i,u=>∃t,u=Value.int i t
 |.str x,u=>∃t,u=Value.str x t
 |.byt b,u=>∃t,u=Value.bytes b t
 |.flt b,u=>∃t,u=Value.float b t
 |.ref a,u=>u=Value.ref a
 |.ty n,u=>u=Value.type n
abbrev Vals:List V->List Value->Prop:=Paired RelV
def Vals.length(r:Vals xs us):xs.length=us.length:=Paired.length r
theorem Vals.get:∀{xs:List V}{us:List Value}{i:Nat}{x:V},Vals xs us->xs[i]?=some x->∃u,us[i]?=some u/\RelV x u
 |_,_,_,_,.nil,e=>by simp at e
 |_,_,0,_,.cons r _,e=>by simp at e;subst e;exact⟨_,rfl,r⟩
 |_,_,i+1,x,.cons _ t,e=>by
  obtain⟨u,b,a⟩:=Vals.get t (by simpa using e);exact⟨u,by simpa using b,a⟩
theorem Vals.set(r:RelV x u):∀{xs:List V}{us:List Value}(i:Nat),Vals xs us->Vals (xs.set i x) (us.set i u)
 |_,_,_,.nil=>.nil
 |_,_,0,.cons _ t=>.cons r t
 |_,_,i+1,.cons q t=>.cons q (Vals.set r i t)
def Vals.append:∀{xs ys:List V}{us ws:List Value},Vals xs us->Vals ys ws->Vals (xs++ys) (us++ws):=by intro z0 y0 x0 w0 v0;induction v0 with
 |nil=>intro s;exact s
 |cons r t I0=>intro s;exact .cons r (I0 s)
theorem Vals.take:∀{xs:List V}{us:List Value}(n:Nat),Vals xs us->Vals (xs.take n) (us.take n)
 |_,_,0,_=>.nil
 |_,_,_+1,.nil=>.nil
 |_,_,n+1,.cons r t=>.cons r (Vals.take n t)
theorem Vals.drop:∀{xs:List V}{us:List Value}(n:Nat),Vals xs us->Vals (xs.drop n) (us.drop n)
 |_,_,0,r=>r
 |_,_,_+1,.nil=>.nil
 |_,_,n+1,.cons _ t=>Vals.drop n t
def RelO:Option V->Option Value->Prop
 |some v,some u=>RelV v u
 |none,none=>True
 |_,_=>False
def KV{κ:Type}:List (κ×V)->List (κ×Value)->Prop:=Paired λ(p:κ×V) (q:κ×Value)=>p.1=q.1/\RelV p.2 q.2
noncomputable def kV:Key->V
 |.inl (some i)=>.int i
 |.inl none=>.non
 |.inr x=>.str x
inductive HO where
 |lst (xs:List V)
 |tup (xs:List V)
 |dK (kvs:List (Key×V)) |dT (kvs:List (List Key×V))
 |set (S:Int->Bool) (n:Nat)
 |ins (C dx:Addr) (fs:List (Str×V))
 |own (x:Addr)
 |xd (fs:List (Str×V))
 |met (f x:Addr)
 |rng (lo hi:Int)
 |frz (o:Obj) (u:HO)
 |tbl (ps:Array Value)
 |ext (φ:Heap->Prop)
abbrev Hp:=Addr->Option HO
noncomputable def upd(H:Hp)(a:Addr)(o:HO):Hp:=λb=>if b=a then some o else H b
def a0e:upd H a o a=some o:=by unfold upd;rw[if_pos rfl]
def a0d(h:b≠a):upd H a o b=H b:=by unfold upd;rw[if_neg h]
def b4N{H:Hp}(h:H a=some o)(h':H b=some u)(d:o≠u):a≠b:=by
 intro e;subst e;rw[h]at h';exact d (aG.inj h')
def a0u{H:Hp}(h:H a=some o)(h':H b=none):a≠b:=by
 intro e;subst e;rw[h]at h';cases h'
section
variable(P:fq)(w:World)
def ObjOk(H:Hp)(h:Heap)(a:Addr):HO->Prop
 |.lst xs=>xs.length<=fi/\∃(its:List Value)(n:Nat),Vals xs its/\h.get? a=some { cls:=.type "list",data:=.seq its.toArray n }
 |.tup xs=>xs.length<=fi/\∃its:List Value,Vals xs its/\IsTup h a its.toArray
 |.dK kvs=>kvs.length<=fi/\(a==fO)=false/\∃vs,KV kvs vs/\h.DictOf (a0w P w) a vs
 |.dT kvs=>kvs.length<=fi/\(a==fO)=false/\∃xs:List (List Key×Addr×Value),
   Paired (λ(p:List Key×V) (q:List Key×Addr×Value)=>p.1=q.1/\H q.2.1=some (.tup (p.1.map kV))/\RelV p.2 q.2.2) kvs xs /\
   ∃o es ep,h.get? a=some o/\o.ExactDict/\o.data=.dict es ep/\es.toList=xs.map (entryOfKey (ic (a0w P w)))/\(xs.map (·.1)).Nodup
 |.set S n=>h.SetOf (ie P w) a S n
 |.ins C dx fs=>H dx=some (.own a)/\fs.length<=1000/\dx≠a/\h.get? a=some (PySem.W.instObj C dx) /\
   ∃mA,h.Ns1 dx mA/\(∀f,RelO (fs.lookup f) (mA f))/\PySem.Within mA (fs.map (·.1))
 |.own _=>∃o,h.get? a=some o
 |.xd fs=>∃mA,h.Ns1 a mA/\∀f,RelO (fs.lookup f) (mA f)
 |.rng lo hi=>∃t u v,h.get? a=some { cls:=.type "range",data:=.fields #[.int lo t,.int hi u,.int 1 v] }
 |.frz o u=>h.get? a=some o/\ObjOk H h a u
 |.tbl ps=>h.get? a=some { cls:=.none,data:=.fields ps }
 |.met f x=>h.get? a=some (PySem.W.methodObj (.ref f) (.ref x))
 |.ext φ=>φ h/\(∃o,h.get? a=some o)/\∀h1 h2:Heap,φ h1->(∀o,h1.get? a=some o->h2.get? a=some o)->φ h2
def HOk(H:Hp)(h:Heap):Prop:=∀a o,H a=some o->ObjOk P w H h a o
end
section
variable{P:fq}{w:World}{H H':Hp}{h h':Heap}{a:Addr}{o:HO}
def ObjOk.lt(x:ObjOk P w H h a o):a<h.objs.size:=by
 cases o with
 |lst xs=>obtain⟨_,_,_,_,e⟩:=x;exact Heap.lt_size e
 |tup xs=>obtain⟨_,_,_,p⟩:=x;exact p.lt
 |dK kvs=>obtain⟨_,_,_,_,o,_,_,e,_⟩:=x;exact Heap.lt_size e
 |dT kvs=>obtain⟨_,_,_,_,o,_,_,e,_⟩:=x;exact Heap.lt_size e
 |set S n=>obtain⟨o,_,_,_,e,_⟩:=x;exact Heap.lt_size e
 |ins C dx fs=>obtain⟨_,_,_,e,_⟩:=x;exact Heap.lt_size e
 |own y=>obtain⟨_,e⟩:=x;exact Heap.lt_size e
 |xd fs=>obtain⟨_,⟨_,_,_,e,_⟩,_⟩:=x;exact Heap.lt_size e
 |rng lo hi=>obtain⟨_,_,_,e⟩:=x;exact Heap.lt_size e
 |frz ob u=>obtain⟨e,_⟩:=x;exact Heap.lt_size e
 |tbl ps=>exact Heap.lt_size (x)
 |met f y=>exact Heap.lt_size (x)
 |ext φ=>obtain⟨_,⟨_,e⟩,_⟩:=x;exact Heap.lt_size e
def Paired.mapP{α β:Type}{F G:α->β->Prop}:∀{l₁:List α}{l₂:List β},Paired F l₁ l₂->(∀a b,F a b->G a b)->Paired G l₁ l₂:=by intro z0 y0 x0;induction x0 with
 |nil=>intro _;exact .nil
 |cons r t I0=>intro f;exact .cons (f _ _ r) (I0 f)
def ObjOk.stay(x:ObjOk P w H h a o)(k:∀b u,(b=a\/H b=some (.own a))->h.get? b=some u->h'.get? b=some u)
  (ho:∀b,H b=some (.own a)->H' b=some (.own a)) (ht:∀b xs,H b=some (.tup xs)->H' b=some (.tup xs)):ObjOk P w H' h' a o:=by
 induction o with
 |lst s=>obtain⟨z,l,n,r,e⟩:=x;exact⟨z,l,n,r,k _ _ (.inl rfl) e⟩
 |tup s=>obtain⟨z,l,r,g,e,c⟩:=x;exact⟨z,l,r,g,k _ _ (.inl rfl) e,c⟩
 |dK kvs=>obtain⟨z,y,F,r,g,i,j,e,c⟩:=x;exact⟨z,y,F,r,g,i,j,k _ _ (.inl rfl) e,c⟩
 |dT kvs=>
  obtain⟨z,y,s,r,g,i,j,e,c⟩:=x;exact⟨z,y,s,Paired.mapP r λp q z=>⟨z.1,ht _ _ z.2.1,z.2.2⟩,g,i,j,k _ _ (.inl rfl) e,c⟩
 |set S n=>obtain⟨g,i,j,t,e,c⟩:=x;exact⟨g,i,j,t,k _ _ (.inl rfl) e,c⟩
 |ins C dx fs=>
  obtain⟨d,z,D,e,A,⟨m,i,j,E,c⟩,r⟩:=x;exact⟨ho _ d,z,D,k _ _ (.inl rfl) e,A,⟨m,i,j,k _ _ (.inr d) E,c⟩,r⟩
 |own y=>obtain⟨g,e⟩:=x;exact⟨g,k _ _ (.inl rfl) e⟩
 |xd fs=>obtain⟨A,⟨m,i,j,e,c⟩,r⟩:=x;exact⟨A,⟨m,i,j,k _ _ (.inl rfl) e,c⟩,r⟩
 |rng lo hi=>obtain⟨t,u,v,e⟩:=x;exact⟨t,u,v,k _ _ (.inl rfl) e⟩
 |frz g u ih=>obtain⟨e,q⟩:=x;exact⟨k _ _ (.inl rfl) e,ih q⟩
 |tbl ps=>
  exact k a _ (.inl rfl) x
 |met f y=>
  exact k a _ (.inl rfl) x
 |ext φ=>obtain⟨p,⟨o,e⟩,B⟩:=x;exact⟨B _ _ p λo q=>k _ _ (.inl rfl) q,⟨o,k _ _ (.inl rfl) e⟩,B⟩
def HOk.lt(x:HOk P w H h)(e:H a=some o):a<h.objs.size:=(x a o e).lt
def HOk.fresh(x:HOk P w H h)(e:h.objs.size<=a):H a=none:=by
 cases q:H a with
 |none=>rfl
 |some u=>exact absurd (aB (x.lt q) e) (aW _)
def HOk.kept(x:HOk P w H h)(k:∀b u,h.get? b=some u->h'.get? b=some u):HOk P w H h':=λa o e=>
 (x a o e).stay (λb u _ q=>k b u q) (λ_ q=>q) λ_ _ q=>q
def HOk.laid(x:HOk P w H h)(k:∀b u,h.get? b=some u->h'.get? b=some u)(hp:h.objs.size<=a)(new:ObjOk P w (upd H a o) h' a o):HOk P w (upd H a o) h':=λb u e=>by
 have d:=x.fresh hp
 by_cases hb:b=a
 ·subst hb;rw[a0e]at e;cases e;exact new
 ·rw[a0d hb]at e;exact (x b u e).stay (λc v _ q=>k c v q) (λc q=>by rw[a0d (a0u q d)];exact q) λc f q=>by rw[a0d (a0u q d)];exact q
end
def Rd(H:Hp)(a:Addr)(u:HO):Prop:=H a=some u\/∃o,H a=some (.frz o u)
def Rd.of(h:H a=some u):Rd H a u:=.inl h
def Rd.ok(r:Rd H a u)(x:HOk P w H h):ObjOk P w H h a u:=by
 rcases r with r |⟨o,r⟩
 ·exact x a u r
 ·obtain⟨_,q⟩:=x a _ r;exact q
def Mut:Option HO->Prop
 |some (.lst _)=>True
 |some (.dK _)=>True
 |some (.dT _)=>True
 |some (.set _ _)=>True
 |some (.ins _ _ _)=>True
 |some (.ext _)=>True
 |_=>False
section
variable{P:fq}{w:World}{H:Hp}{h h':Heap}{x e:Addr}{o':HO}
def HOk.write(ok:HOk P w H h)(mu:Mut (H x))(he:e=x\/H e=some (.own x))(k:∀b u,b≠e->h.get? b=some u->h'.get? b=some u)(heo:∃u,h'.get? e=some u)
  (new:ObjOk P w (upd H x o') h' x o'):HOk P w (upd H x o') h':=λb u q=>by
 have a:∀c y,H c=some (.own y)->c≠x:=λc y r z=>by subst z;rw[r]at mu;exact mu
 have g:∀c d,H c=some (.tup d)->c≠x:=λc d r z=>by subst z;rw[r]at mu;exact mu
 by_cases hb:b=x
 ·subst hb;rw[a0e]at q;cases q;exact new
 ·rw[a0d hb]at q
  by_cases hbe:b=e
  ·have i:H b=some (.own x):=by
    rcases he with z |z
    ·exact absurd (hbe.trans z) hb
    ·rw[hbe];exact z
   rw[q]at i;cases i;obtain⟨v,j⟩:=heo;exact⟨v,by rw[hbe];exact j⟩
  ·refine (ok b u q).stay (λc v f r=>k c v ?_ r) (λc r=>by rw[a0d (a c b r)];exact r) λc d r=>by rw[a0d (g c d r)];exact r
   rcases f with rfl |f
   ·omega
   ·grind
end
structure Un (fs ex:List Addr) (H H':Hp) (h h':Heap):Prop where
 keep:∀b o,h.get? b=some o->H b=none->b∉fs->b∉ex->h'.get? b=some o
 slot:∀b o,h.get? b=some o->H b=none->b∈fs->b∉ex->∃sl,h'.get? b=some { o with slots:=sl }
 free:∀b o,h.get? b=some o->H b=none->b∉ex->H' b=none
 there:∀b o,h.get? b=some o->b∉ex->∃o',h'.get? b=some o'
 tups:∀b xs,H b=some (.tup xs)->H' b=some (.tup xs)
 frzs:∀b o u,H b=some (.frz o u)->H' b=some (.frz o u)
 tbls:∀b ps,H b=some (.tbl ps)->∃more,H' b=some (.tbl (ps++more))
section
variable{fs fs' ex ex':List Addr}{H H1 H2:Hp}{h h1 h2 h':Heap}{a x e:Addr}{o:HO}
noncomputable def Un.any(u:Un fs ex H H1 h h1)(q:h.get? b=some ob)(n:H b=none)(hx:b∉ex):∃sl,h1.get? b=some { ob with slots:=sl }:=by
 by_cases hb:b∈fs
 ·exact u.slot b ob q n hb hx
 ·exact⟨ob.slots,u.keep b ob q n hb hx⟩
theorem Un.trans(a:Un fs ex H H1 h h1)(b:Un fs ex H1 H2 h1 h2):Un fs ex H H2 h h2 where
 keep:=λc ob q n hc hx=>b.keep c ob (a.keep c ob q n hc hx) (a.free c ob q n hx) hc hx
 slot:=λc ob q n hc hx=>by
  obtain⟨sl,e1⟩:=a.slot c ob q n hc hx;obtain⟨sl',e2⟩:=b.slot c _ e1 (a.free c ob q n hx) hc hx;exact⟨sl',e2⟩
 free:=λc ob q n hx=>by
  obtain⟨o',e1⟩:=a.there c ob q hx;exact b.free c o' e1 (a.free c ob q n hx) hx
 there:=λc ob q hx=>by
  obtain⟨o',e1⟩:=a.there c ob q hx;exact b.there c o' e1 hx
 tups:=λc xs q=>b.tups c xs (a.tups c xs q)
 frzs:=λc ob xs q=>b.frzs c ob xs (a.frzs c ob xs q)
 tbls:=λc ps q=>by
  obtain⟨m1,e1⟩:=a.tbls c ps q;obtain⟨m2,e2⟩:=b.tbls c _ e1;exact⟨m1++m2,by rw[e2,dU]⟩
def Un.kept(k:∀b u,h.get? b=some u->h'.get? b=some u):Un fs ex H H h h':=
 ⟨λb a q _ _ _=>k b a q,λb a q _ _ _=>⟨a.slots,k b a q⟩,λ_ _ _ n _=>n,λb a q _=>⟨a,k b a q⟩,λ_ _ q=>q,λ_ _ _ q=>q,λ_ c q=>⟨#[],by rw[q];simp⟩⟩
def Un.refl:Un fs ex H H h h:=Un.kept λ_ _ q=>q
theorem Un.laid(k:∀b u,h.get? b=some u->h'.get? b=some u)(hp:h.objs.size<=a)(hn:H a=none):Un fs ex H (upd H a o) h h' where
 keep:=λb u q _ _ _=>k b u q
 slot:=λb u q _ _ _=>⟨u.slots,k b u q⟩
 free:=λb u q n _=>by rw[a0d (ao (aB (Heap.lt_size q) hp))];exact n
 there:=λb u q _=>⟨u,k b u q⟩
 tups:=λb xs q=>by rw[a0d (a0u q hn)];exact q
 frzs:=λb u xs q=>by rw[a0d (a0u q hn)];exact q
 tbls:=λb ps q=>⟨#[],by rw[a0d (a0u q hn),q];simp⟩
def Un.write(mu:Mut (H x))(he:e=x\/H e=some (.own x))(k:∀b u,b≠e->h.get? b=some u->h'.get? b=some u)(heo:∃u,h'.get? e=some u):Un fs ex H (upd H x o) h h':=by
 have d:∀b,H b=none->b≠x:=λb n z=>by subst z;rw[n]at mu;exact mu
 have c:∀b,H b=none->b≠e:=λb n z=>by simp_all
 have a:∀b u,H b=some u->¬ Mut (some u)->b≠x:=λb u q g z=>by subst z;rw[q]at mu;exact g mu
 refine⟨λb u q n _ _=>k b u (c b n) q,λb u q n _ _=>⟨u.slots,k b u (c b n) q⟩,λb u q n _=>by rw[a0d (d b n)];exact n,λb u q _=>?_,
  λb f q=>by rw[a0d (a b _ q λz=>z)];exact q,λb u f q=>by rw[a0d (a b _ q λz=>z)];exact q,λb i q=>⟨#[],by rw[a0d (a b _ q λz=>z),q];simp⟩⟩
 by_cases hbe:b=e
 ·grind
 ·exact⟨u,k b u hbe q⟩
def Un.mono(u:Un fs ex H H1 h h1)(hs:∀b∈fs,b∈fs')(hx:∀b∈ex,b∈ex'):Un fs' ex' H H1 h h1:=
 ⟨λb c q n d a=>u.keep b c q n (λz=>d (hs b z)) λz=>a (hx b z),λ_ _ q n _ a=>u.any q n λz=>a (hx _ z),λb c q n a=>u.free b c q n λz=>a (hx b z),λb c q a=>u.there b c q λz=>a (hx b z),u.tups,u.frzs,u.tbls⟩
end
noncomputable def trk(h:Heap)(H:Hp):List Addr:=(aC h.objs.size).filter λa=>(H a).isSome
noncomputable def hidT(h:Heap)(H:Hp):Heap:=PySem.W.hideAll h (trk h H)
def a6k(h:Heap)(H:Hp):(hidT h H).objs.size=h.objs.size:=PySem.W.hideAll_size _ _
def a28(e:h.get? b=some o)(n:H b=none):(hidT h H).get? b=some o:=
 PySem.W.hideAll_get _ e λa=>by
  have q:=(bv.mp a).2;rw[n]at q;simp at q
def b0l(e:(hidT h H).get? b=some o):h.get? b=some o/\H b=none:=by
 have a:=PySem.W.of_hideAll _ e;refine⟨a,?_⟩;cases q:H b with
 |none=>rfl
 |some x=>
  have c:b∈trk h H:=bv.mpr ⟨bx.mpr (Heap.lt_size a),by simp[q]⟩;have z:(hidT h H).get? b=none:=PySem.W.hideAll_none _ c;rw[z]at e;cases e
noncomputable def b0m(g h:Heap)(L:Addr):List (Addr×Obj):=(aC h.objs.size).filterMap λa=>if a=L\/(g.get? a).isSome=true then none else (h.get? a).map λo=>(a,o)
noncomputable def rest(g h:Heap)(L d:Addr):List (Addr×Obj):=(b0m g h L).filter λp=>decide (p.1≠d)
structure Mod (K:Fg) (mg:Str->Option Value) (base:Heap):Prop where
 kin:K.In base
 glob:base.Ns fF mg
 blt:∃mb,base.Ns ig mb/\∀x:Str,x≠"__name__"->mb x=fJ x
 nolimit:base.NoLimit
structure Cx where
 prog:fq
 w:World
 K:Fg
 mg:Str->Option Value
 base:Heap
 A:Around
 N:List Str
 s₀:Shared
 H₀:Hp
 env:Env
 outer:List Env
 stack:List Env
 ex:List Addr
 fn:Str->Bool
 calm:Bool
 pn:List (Addr×Obj)
 xe:Value->Shared->Prop
noncomputable def frs(l:List Env):List Addr:=l.filterMap (·.frame)
abbrev Cx.fs(X:Cx):List Addr:=frs X.outer
def Vis(sc:Scope)(x:Str):Prop:=sc.names.lookup x=some .local\/sc.names.lookup x=some .cell\/sc.names.lookup x=some .free
def Loc(sc:Scope)(x:Str):Prop:=sc.names.lookup x=some .local\/sc.names.lookup x=some .cell
def Look(env:Env)(h:Heap)(m:Str->Option Value)(x:Str)(u:Value):Prop:=
 (env.kindOf x=some .local/\m x=some u)\/((env.kindOf x=some .cell\/env.kindOf x=some .free)/\∃c,env.cells.lookup x=some c/\h.IsCell c (some u))
structure Cx.Ok (X:Cx):Prop where
 mod:Mod X.K X.mg X.base
 kind:X.env.scope.kind=.function
 glob:X.env.globals=fF
 blt:X.env.builtins=ig
 above:X.s₀.heap.objs.size<=X.env.locals
 inj:∀x y c,X.env.cells.lookup x=some c->X.env.cells.lookup y=some c->x=y
 has:∀x,(X.env.kindOf x=some .cell\/X.env.kindOf x=some .free)->∃c,X.env.cells.lookup x=some c
 cab:∀x c,X.fn x=true->X.env.cells.lookup x=some c->X.s₀.heap.objs.size<=c
 hd:X.calm=true->X.A.handled=none
 frames:X.A.frames=some X.stack
 stk:X.stack=X.outer\/(X.stack=X.env::X.outer/\X.env.frame=some X.env.locals)
 exf:∀b∈X.ex,b≠X.env.locals/\∀x c,X.env.cells.lookup x=some c->c≠b
 bs:∀b o,X.base.get? b=some o->X.s₀.heap.get? b=some o/\X.H₀ b=none
 bsz:X.base.objs.size<=X.s₀.heap.objs.size
 noex:∀b o,X.base.get? b=some o->b∉X.ex
 exfs:∀b∈X.ex,b∉X.fs
 funs:X.s₀.heap.FunFrames X.base X.outer
 frf:∀b∈X.fs,X.H₀ b=none
structure Inv (X:Cx) (pins:List (Addr×Obj)) (σ:List (Option V)) (H:Hp) (s:Shared):Prop where
 ok:X.Ok
 os:s.os=X.s₀.os
 bare:f7 s.gens
 base:Un X.fs X.ex X.H₀ H X.s₀.heap s.heap
 loc:∃m,s.heap.Ns X.env.locals m/\∀(i:Nat)(x:Str)(v:V),X.N[i]?=some x->σ[i]?=some (some v)->Vis X.env.scope x->∃u,RelV v u/\Look X.env s.heap m x u
 cell:∀x c,X.env.cells.lookup x=some c->∃v,s.heap.IsCell c v
 free:H X.env.locals=none
 freeC:∀x c,X.env.cells.lookup x=some c->H c=none
 pin:∀p∈X.pn++pins,s.heap.get? p.1=some p.2/\H p.1=none/\p.1≠X.env.locals/\p.1∉X.fs/\∀v,p.2.data≠.cell v
 hok:HOk X.prog X.w H s.heap
 len:σ.length=X.N.length
section
variable{X:Cx}{pins:List (Addr×Obj)}{σ:List (Option V)}{H H':Hp}{s:Shared}{h':Heap}
def Cx.Ok.nofr(ok:X.Ok)(e:X.base.get? b=some o):b∉X.fs:=λa=>by
 have:=(ok.funs.mem a).1
 rw[e]at this;cases this
def Inv.bs(I:Inv X pins σ H s):∀b o,X.base.get? b=some o->s.heap.get? b=some o/\H b=none:=λb o e=>
 ⟨I.base.keep b o (I.ok.bs b o e).1 (I.ok.bs b o e).2 (I.ok.nofr e) (I.ok.noex b o e),I.base.free b o (I.ok.bs b o e).1 (I.ok.bs b o e).2 (I.ok.noex b o e)⟩
def Inv.bk(I:Inv X pins σ H s):∀b o,X.base.get? b=some o->s.heap.get? b=some o:=λb o e=>(I.bs b o e).1
def Inv.mod(I:Inv X pins σ H s):Mod X.K X.mg X.base:=I.ok.mod
def Inv.kIn(I:Inv X pins σ H s):X.K.In s.heap:=I.ok.mod.kin.keeps I.bk
def Inv.nolimit(I:Inv X pins σ H s):s.heap.NoLimit:=I.ok.mod.nolimit.keeps I.bk
def Inv.fr(I:Inv X pins σ H s):∃m,Fr X.base X.env.locals s.heap m:=
 let ⟨m,hn,_⟩:=I.loc
 ⟨m,hn,I.bk,ax I.ok.bsz I.ok.above⟩
def Inv.lt(I:Inv X pins σ H s):X.env.locals<s.heap.objs.size:=let ⟨_,hn,_⟩:=I.loc;hn.lt
def Inv.sz(I:Inv X pins σ H s):X.s₀.heap.objs.size<=s.heap.objs.size:=ax I.ok.above (a9 I.lt)
def Inv.nofs(I:Inv X pins σ H s)(h:s.heap.objs.size<=a):a∉X.fs:=λc=>by
 obtain⟨_,o,b,_⟩:=I.ok.funs.mem c;exact absurd (aB (Heap.lt_size b) (ax I.sz h)) (aW _)
def Inv.cne(I:Inv X pins σ H s):∀x c,X.env.cells.lookup x=some c->c≠X.env.locals:=λx c e z=>by
 obtain⟨v,o,d,b⟩:=I.cell x c e;obtain⟨m,⟨i,g,h,a,f,_⟩,_⟩:=I.loc;rw[z,a]at d;cases d;rw[f]at b;cases b
def Inv.funs(I:Inv X pins σ H s):s.heap.FunFrames X.base X.outer:=by
 have g:∀l,(∀b∈frs l,b∈X.fs)->X.s₀.heap.FunFrames X.base l->s.heap.FunFrames X.base l:=by
  intro l
  induction l with
  |nil=>intro _ _;trivial
  |cons env r ih=>
   intro f h;obtain⟨k,⟨L,o,c,n,m,j⟩,i⟩:=h;have d:=f L (by unfold frs;rw[bz,c];exact aX);obtain⟨p,e⟩:=I.base.slot L o m (I.ok.frf L d) d λz=>I.ok.exfs L z d;exact⟨k,⟨L,_,c,n,e,j⟩,ih (λb a=>f b (by unfold frs;rw[bz,c];exact bF _ a)) i⟩
 exact g X.outer (λ_ a=>a) I.ok.funs
def Inv.stack(I:Inv X pins σ H s):s.heap.FunFrames X.base X.stack:=by
 rcases I.ok.stk with e |⟨e,hf⟩
 ·rw[e];exact I.funs
 ·rw[e];obtain⟨m,a,_⟩:=I.loc;refine .cons (by rw[I.ok.kind];decide) hf a ?_ I.funs;exact Heap.get?_none_of_le (ax I.ok.bsz I.ok.above)
def Inv.stkSub(I:Inv X pins σ H s):∀b∈frs X.stack,b∈X.env.locals::X.fs:=λb a=>by
 rcases I.ok.stk with e |⟨e,hf⟩
 ·rw[e]at a;exact bF _ a
 ·rw[e]at a;unfold frs at a;rw[bz,hf]at a;exact a
def Inv.stkFree(I:Inv X pins σ H s):∀b∈frs X.stack,H b=none:=λb a=>by
 rcases ag.mp (I.stkSub b a) with e |a
 ·rw[e];exact I.free
 ·obtain⟨_,o,c,_⟩:=I.ok.funs.mem a;exact I.base.free b o c (I.ok.frf b a) λz=>I.ok.exfs b z a
def Inv.step{ch:List Addr}(I:Inv X pins σ H s)
  (hch:∀b∈ch,(b∈X.ex\/X.s₀.heap.objs.size<=b)/\b≠X.env.locals/\(∀x c,X.env.cells.lookup x=some c->c≠b)/\∀p∈X.pn++pins,p.1≠b)
  (keep:∀b o,b≠X.env.locals->b∉X.fs->b∉ch->s.heap.get? b=some o->H b=none->h'.get? b=some o)
  (slot:∀b o,b≠X.env.locals->b∈X.fs->b∉ch->s.heap.get? b=some o->H b=none->∃sl,h'.get? b=some { o with slots:=sl }) (free:∀b o,b∉ch->s.heap.get? b=some o->H b=none->H' b=none)
  (there:∀b o,b∉ch->s.heap.get? b=some o->∃o',h'.get? b=some o')
  (tups:∀b xs,H b=some (.tup xs)->H' b=some (.tup xs)) (frzs:∀b o u,H b=some (.frz o u)->H' b=some (.frz o u)) (tbls:∀b ps,H b=some (.tbl ps)->∃more,H' b=some (.tbl (ps++more)))
  (ns:∀m,s.heap.Ns X.env.locals m->h'.Ns X.env.locals m) (hok:HOk X.prog X.w H' h') (hg:f7 g') :
  Inv X pins σ H' { s with heap:=h',gens:=g',drawn:=d',toks:=t' }:=by
 have C:∀b o,X.s₀.heap.get? b=some o->b≠X.env.locals:=λb o e=>ao (aB (Heap.lt_size e) I.ok.above);have j:∀b o,X.s₀.heap.get? b=some o->b∉X.ex->b∉ch:=λb o e a h=>by
  rcases (hch b h).1 with z |z
  ·grind
  ·exact absurd (aB (Heap.lt_size e) z) (aW _)
 have t:∀x c,X.env.cells.lookup x=some c->∀v,s.heap.IsCell c v->h'.IsCell c v:=by
  rintro x c e v ⟨o,y,E⟩;have g:=λz=>(hch c z).2.2.1 x c e rfl
  by_cases hc:c∈X.fs
  ·obtain⟨S,q⟩:=slot c o (I.cne x c e) hc g y (I.freeC x c e);exact⟨_,q,E⟩
  ·exact⟨o,keep c o (I.cne x c e) hc g y (I.freeC x c e),E⟩
 refine⟨I.ok,I.os,hg,⟨λb o e n h a=>(keep b o (C b o e) h (j b o e a) (I.base.keep b o e n h a) (I.base.free b o e n a)),λb o e n h a=>?_,λb o e n a=>?_,λb o e a=>?_,λb B e=>tups b B (I.base.tups b B e),λb o B e=>frzs b o B (I.base.frzs b o B e),λb Q e=>?_⟩,?_,λx c e=>?_,?_,λx c e=>?_,λp L=>?_,hok,I.len⟩
 ·obtain⟨S,f⟩:=I.base.slot b o e n h a;obtain⟨F,A⟩:=slot b _ (C b o e) h (j b o e a) f (I.base.free b o e n a);exact⟨F,A⟩
 ·obtain⟨D,f⟩:=I.base.there b o e a;exact free b D (j b o e a) f (I.base.free b o e n a)
 ·obtain⟨D,f⟩:=I.base.there b o e a;exact there b D (j b o e a) f
 ·obtain⟨N,f⟩:=I.base.tbls b Q e;obtain⟨U,A⟩:=tbls b _ f;exact⟨N++U,by rw[A,dU]⟩
 ·obtain⟨m,T,M⟩:=I.loc;refine⟨m,ns m T,λi x v f A R=>?_⟩;obtain⟨u,r,l⟩:=M i x v f A R;refine⟨u,r,?_⟩;rcases l with l |⟨k,c,e,z⟩
  ·exact .inl l
  ·exact .inr ⟨k,c,e,t x c e _ z⟩
 ·obtain⟨v,z⟩:=I.cell x c e;exact⟨v,t x c e v z⟩
 ·obtain⟨m,⟨o,_,_,y,_⟩,_⟩:=I.loc;exact free _ o (λz=>(hch _ z).2.1 rfl) y I.free
 ·obtain⟨v,o,y,E⟩:=I.cell x c e;exact free c o (λz=>(hch c z).2.2.1 x c e rfl) y (I.freeC x c e)
 ·obtain⟨e,n,G,J,d⟩:=I.pin p L;have g:=λz=>(hch p.1 z).2.2.2 p L rfl;exact⟨keep p.1 p.2 G J g e n,free p.1 p.2 g e n,G,J,d⟩
def Inv.un(I:Inv X pins σ H s)(u:Un X.fs [] H H' s.heap h')(hok:HOk X.prog X.w H' h'):Inv X pins σ H' { s with heap:=h',toks:=t' }:=by
 obtain⟨m,⟨o,k,q,g,r⟩,_⟩:=id I.loc;obtain⟨l,j⟩:=u.any g I.free (by simp);exact I.step (ch:=[]) (λ_ z=>nomatch z) (λb o _ c _ e n=>u.keep b o e n c (by simp)) (λb o _ c _ e n=>u.slot b o e n c (by simp)) (λb o _ e n=>u.free b o e n (by simp)) (λb o _ e=>u.there b o e (by simp)) u.tups u.frzs u.tbls (λt h=>by
  obtain⟨p,d,f,a,i⟩:=h;rw[g]at a;cases a;exact⟨_,d,f,j,i⟩) hok I.bare
def Inv.call(I:Inv X pins σ H s)(u:Un (frs X.stack) ch H H' s.heap h')(hok:HOk X.prog X.w H' h')(hg:f7 g')
  (hch:∀b∈ch,(b∈X.ex\/X.s₀.heap.objs.size<=b)/\b≠X.env.locals/\(∀x c,X.env.cells.lookup x=some c->c≠b)/\∀p∈X.pn++pins,p.1≠b) :
  Inv X pins σ H' { s with heap:=h',gens:=g',drawn:=d',toks:=t' }:=by
 obtain⟨m,⟨o,q,y,i,r⟩,_⟩:=id I.loc;obtain⟨t,f⟩:=u.any i I.free λz=>(hch _ z).2.1 rfl;exact I.step hch (λb o f l a e n=>u.keep b o e n (λz=>(ag.mp (I.stkSub b z)).elim f l) a) (λb o _ _ a e n=>u.any e n a) (λb o a e n=>u.free b o e n a) (λb o a e=>u.there b o e a) u.tups u.frzs u.tbls (λA j=>by
  obtain⟨v,g,h,d,k⟩:=j;rw[i]at d;cases d;exact⟨_,g,h,f,k⟩) hok hg
def Inv.turned(I:Inv X pins σ H s)(k:∀b o,b≠it->s.heap.get? b=some o->h'.get? b=some o)(hn:H it=none)(hL:it≠X.env.locals)
  (h1:it∈X.ex\/X.s₀.heap.objs.size<=it) (h2:∀x c,X.env.cells.lookup x=some c->c≠it) (h3:∀p∈X.pn++pins,p.1≠it):Inv X pins σ H { s with heap:=h',toks:=t' }:=by
 have d:∀b u,H b=some u->b≠it:=λb u e z=>by rw[z,hn]at e;cases e
 refine I.step (ch:=[it]) (λb i=>?_) (λb o _ _ a e _=>k b o (λz=>a (by simp[z])) e) (λb o _ _ a e _=>⟨o.slots,k b o (λz=>a (by simp[z])) e⟩) (λ_ _ _ _ n=>n)
  (λb o a e=>⟨o,k b o (λz=>a (by simp[z])) e⟩) (λ_ _ e=>e) (λ_ _ _ e=>e) (λb l e=>⟨#[],by rw[e];simp⟩) (λm h=>?_) (λb u e=>?_) I.bare
 ·have e:b=it:=by simpa using i
  subst e;exact⟨h1,hL,h2,h3⟩
 ·obtain⟨o,f,j,g,r⟩:=h;exact⟨o,f,j,k _ o (Ne.symm hL) g,r⟩
 ·refine (I.hok b u e).stay (λc v a q=>k c v ?_ q) (λ_ q=>q) λ_ _ q=>q;rcases a with z |z
  ·rw[z];exact d b u e
  ·exact d c _ z
def Inv.tok(I:Inv X pins σ H s)(t:Nat):Inv X pins σ H { s with toks:=t }:=I.un Un.refl I.hok
def Inv.kept(I:Inv X pins σ H s)(k:∀b u,s.heap.get? b=some u->h'.get? b=some u):Inv X pins σ H { s with heap:=h',toks:=t' }:=I.un (Un.kept k) (I.hok.kept k)
def Inv.laid(I:Inv X pins σ H s)(k:∀b u,s.heap.get? b=some u->h'.get? b=some u)(hp:s.heap.objs.size<=a)(new:ObjOk X.prog X.w (upd H a o) h' a o) :
  Inv X pins σ (upd H a o) { s with heap:=h',toks:=t' }:=I.un (Un.laid k hp (I.hok.fresh hp)) (I.hok.laid k hp new)
def Inv.write(I:Inv X pins σ H s)(mu:Mut (H x))(he:e=x\/H e=some (.own x))(k:∀b u,b≠e->s.heap.get? b=some u->h'.get? b=some u)(heo:∃u,h'.get? e=some u)
  (new:ObjOk X.prog X.w (upd H x o) h' x o):Inv X pins σ (upd H x o) { s with heap:=h',toks:=t' }:=I.un (Un.write mu he k heo) (I.hok.write mu he k heo new)
def Inv.weak(I:Inv X pins σ H s)(hl:σ'.length=σ.length)(w:∀(i:Nat) v,σ'[i]?=some (some v)->σ[i]?=some (some v)):Inv X pins σ' H s:=
 ⟨I.ok,I.os,I.bare,I.base,by obtain⟨m,hn,hl'⟩:=I.loc;exact⟨m,hn,λi x v b c a=>hl' i x v b (w i v c) a⟩,I.cell,I.free,I.freeC,I.pin,I.hok,hl.trans I.len⟩
def Inv.pins_of(I:Inv X pins σ H s)(h:∀p∈pins',s.heap.get? p.1=some p.2/\H p.1=none/\p.1≠X.env.locals/\p.1∉X.fs/\∀v,p.2.data≠.cell v):Inv X pins' σ H s:=
 ⟨I.ok,I.os,I.bare,I.base,I.loc,I.cell,I.free,I.freeC,λp a=>(ah.mp a).elim (λz=>I.pin p (bQ _ z)) (h p),I.hok,I.len⟩
def a4V{N:List Str}(hN:N.Nodup){i j:Nat}(a:N[i]?=some x)(b:N[j]?=some x):i=j:=by
 obtain⟨f,c⟩:=aj.mp a;obtain⟨e,d⟩:=aj.mp b;exact (List.getElem_inj hN).mp (c.trans d.symm)
def a3H(I:Inv X pins σ H s)(hN:X.N.Nodup)(hi:X.N[i]?=some x)(hx:Loc X.env.scope x)(r:RelV v u)
  (h:∀s',Inv X pins (σ.set i (some v)) H s'->(∃a,Heap.SameBut a s.heap s'.heap/\(a=X.env.locals\/X.env.cells.lookup x=some a))->Q () s') (hf:X.fn x=true\/X.env.scope.names.lookup x=some .local):wpAny M A (i5 X.env x u) Q E s:=by
 obtain⟨m,hn,hl⟩:=id I.loc;have hcls:(X.env.scope.kind==.class||(X.env.scope.kind==.module&&X.env.locals != X.env.globals))=false:=by rw[I.ok.kind];rfl
 have U:i<σ.length:=I.len▸(aj.mp hi).1;have J:=I.cne;have B:∀{a:Addr}{G:Heap},(∃o,s.heap.get? a=some o/\H a=none)->Heap.SameBut a s.heap G->HOk X.prog X.w H G:=λ{a G} ha f b ob e=>by
  obtain⟨_,_,F⟩:=ha;refine (I.hok b ob e).stay (λc R l q=>(f.2 c ?_).trans q) (λ_ q=>q) λ_ _ q=>q;rintro rfl;rcases l with rfl |l
  ·rw[F]at e;cases e
  ·rw[F]at l;cases l
 rcases hx with hk |hk
 ·refine wpAny_storeName_local hk hn (λG hn' f=>?_) hcls;obtain⟨oL,_,_,hoL,_⟩:=id hn;refine h _ ⟨I.ok,I.os,I.bare,⟨λb o e n D hx=>((f.2 b (ao (aB (Heap.lt_size e) I.ok.above))).trans (I.base.keep b o e n D hx)),λb o e n D hx=>?_,I.base.free,λb o e hx=>?_,I.base.tups,I.base.frzs,I.base.tbls⟩,⟨_,hn',λj y v' g C e3=>?_⟩,λy c e=>?_,I.free,I.freeC,λp hp=>?_,B ⟨oL,hoL,I.free⟩ f,by simpa using I.len⟩ ⟨_,f,.inl rfl⟩
  ·obtain⟨sl,g⟩:=I.base.slot b o e n D hx;exact⟨sl,(f.2 b (ao (aB (Heap.lt_size e) I.ok.above))).trans g⟩
  ·obtain⟨o',g⟩:=I.base.there b o e hx;exact⟨o',(f.2 b (ao (aB (Heap.lt_size e) I.ok.above))).trans g⟩
  ·by_cases hj:j=i
   ·subst hj;rw[hi]at g;cases g;rw[cH U]at C;cases C;exact⟨u,r,.inl ⟨hk,by simp⟩⟩
   ·rw[cI (Ne.symm hj)]at C;obtain⟨u',r',q⟩:=hl j y v' g C e3;refine⟨u',r',?_⟩;rcases q with ⟨k,e⟩ |⟨k,c,e,z⟩
    ·refine .inl ⟨k,?_⟩
     have:y≠x:=λe=>hj (a4V hN g (e▸hi))
     simp[this,e]
    ·exact .inr ⟨k,c,e,z.sameBut f (J y c e)⟩
  ·obtain⟨R,z⟩:=I.cell y c e;exact⟨R,z.sameBut f (J y c e)⟩
  ·obtain⟨e,n,S,nf,d⟩:=I.pin p hp;exact⟨(f.2 p.1 S).trans e,n,S,nf,d⟩
 ·have L:X.fn x=true:=by
   rcases hf with z |z
   ·exact z
   ·rw[z]at hk;cases hk
  obtain⟨c,l⟩:=I.ok.has x (.inl hk);obtain⟨R,z⟩:=I.cell x c l;refine wpAny_storeName_cell I.ok.kind hk l z (λG Y f=>?_);obtain⟨oc,W,hocd⟩:=id z;refine h { s with heap:=G } ⟨I.ok,I.os,I.bare,⟨λb o e n D hx=>((f.2 b (ao (aB (Heap.lt_size e) (I.ok.cab x c L l)))).trans (I.base.keep b o e n D hx)),λb o e n D hx=>?_,I.base.free,λb o e hx=>?_,I.base.tups,I.base.frzs,I.base.tbls⟩,⟨m,hn.sameBut f (Ne.symm (J x c l)),λj y v' g C e3=>?_⟩,λy T e=>?_,I.free,I.freeC,λp hp=>?_,B ⟨oc,W,I.freeC x c l⟩ f,by simpa using I.len⟩ ⟨c,f,.inr l⟩
  ·obtain⟨sl,g⟩:=I.base.slot b o e n D hx;exact⟨sl,(f.2 b (ao (aB (Heap.lt_size e) (I.ok.cab x c L l)))).trans g⟩
  ·obtain⟨o',g⟩:=I.base.there b o e hx;exact⟨o',(f.2 b (ao (aB (Heap.lt_size e) (I.ok.cab x c L l)))).trans g⟩
  ·by_cases hj:j=i
   ·subst hj;rw[hi]at g;cases g;rw[cH U]at C;cases C;exact⟨u,r,.inr ⟨.inl hk,c,l,Y⟩⟩
   ·rw[cI (Ne.symm hj)]at C;obtain⟨u',r',q⟩:=hl j y v' g C e3;refine⟨u',r',?_⟩;rcases q with q |⟨k,T,e,z'⟩
    ·exact .inl q
    ·refine .inr ⟨k,T,e,z'.sameBut f ?_⟩;rintro rfl;exact hj (a4V hN g (I.ok.inj _ _ _ e l▸hi))
  ·by_cases hcc:T=c
   ·subst hcc;exact⟨_,Y⟩
   ·obtain⟨w2,z2⟩:=I.cell y T e;exact⟨w2,z2.sameBut f hcc⟩
  ·obtain⟨e,n,S,nf,d⟩:=I.pin p hp;refine⟨(f.2 p.1 ?_).trans e,n,S,nf,d⟩;intro q;rw[q,W]at e;exact d R ((aG.inj e)▸hocd)
def a29(I:Inv X pins σ H s)(hN:X.N.Nodup)(hi:X.N[i]?=some x)(hx:Loc X.env.scope x)(r:RelV v u)
  (h:∀s',Inv X pins (σ.set i (some v)) H s'->Q () s') (hf:X.fn x=true\/X.env.scope.names.lookup x=some .local):wpAny M A (i5 X.env x u) Q E s:=
 a3H I hN hi hx r (λa b _=>h a b) hf
def Inv.call'(I:Inv X pins σ H s)(ho:s'.os=s.os)(u:Un (frs X.stack) ch H H' s.heap s'.heap)(hok:HOk X.prog X.w H' s'.heap)(hg:f7 s'.gens)
  (hch:∀b∈ch,(b∈X.ex\/X.s₀.heap.objs.size<=b)/\b≠X.env.locals/\(∀x c,X.env.cells.lookup x=some c->c≠b)/\∀p∈X.pn++pins,p.1≠b):Inv X pins σ H' s':=by
 obtain⟨h',g',d',t',g⟩:=s';have e:=ho;subst e;exact I.call u hok hg hch
end
abbrev XK:=Value->Option Addr->Hp->Prop
abbrev St:=List (Option V)
abbrev VK:=V->Hp->Prop
abbrev TE:=St->Hp->VK->Prop
abbrev TT:=St->Hp->(Bool->Hp->Prop)->Prop
abbrev TA:=St->Hp->(List V->Hp->Prop)->Prop
structure Ends where
 nx:St->Hp->Prop
 rt:VK
 bk:St->Hp->Prop:=λ_ _=>False
 ct:St->Hp->Prop:=λ_ _=>False
abbrev TS:=Ends->St->Hp->Prop
def EP(X:Cx)(pins:List (Addr×Obj))(σ:St)(Q:VK)(u:Value)(s':Shared):Prop:=∃v H',Inv X pins σ H' s'/\RelV v u/\Q v H'
def TP(X:Cx)(pins:List (Addr×Obj))(σ:St)(Q:Bool->Hp->Prop)(b:Bool)(s':Shared):Prop:=∃H',Inv X pins σ H' s'/\Q b H'
def AP(X:Cx)(pins:List (Addr×Obj))(σ:St)(Q:List V->Hp->Prop)(us:List Value)(s':Shared):Prop:=∃vs H',Inv X pins σ H' s'/\Vals vs us/\Q vs H'
def SP(X:Cx)(pins:List (Addr×Obj))(D:Ends)(f:Flow)(s':Shared):Prop:=
 match f with
 |.next=>∃σ' H',Inv X pins σ' H' s'/\D.nx σ' H'
 |.brk=>∃σ' H',Inv X pins σ' H' s'/\D.bk σ' H'
 |.cont=>∃σ' H',Inv X pins σ' H' s'/\D.ct σ' H'
 |.ret u=>∃v σ' H',Inv X pins σ' H' s'/\RelV v u/\D.rt v H'
def PE(X:Cx)(e:Expr)(t:TE):Prop:=
 ∀(pins:List (Addr×Obj))(s:Shared)(σ:St)(H:Hp)(Q:VK),Inv X pins σ H s->t σ H Q->wpAny (model X.prog X.w) X.A (eval e X.env) (EP X pins σ Q) X.xe s
def PT(X:Cx)(e:Expr)(t:TT):Prop:=
 ∀(pins:List (Addr×Obj))(s:Shared)(σ:St)(H:Hp)(Q:Bool->Hp->Prop),Inv X pins σ H s->t σ H Q->wpAny (model X.prog X.w) X.A (isTrue e X.env (eval e X.env)) (TP X pins σ Q) X.xe s
def PW(X:Cx)(e:Expr)(t:TT):Prop:=
 ∀(whole:Sem Value)(pins:List (Addr×Obj))(s:Shared)(σ:St)(H:Hp)(Q:Bool->Hp->Prop),Inv X pins σ H s->t σ H Q->wpAny (model X.prog X.w) X.A (isTrue e X.env whole) (TP X pins σ Q) X.xe s
def PW.pt(h:PW X e t):PT X e t:=h _
def PA(X:Cx)(es:List Expr)(t:TA):Prop:=
 ∀(pos:Pos)(pins:List (Addr×Obj))(s:Shared)(σ:St)(H:Hp)(Q:List V->Hp->Prop),Inv X pins σ H s->t σ H Q->wpAny (model X.prog X.w) X.A (spliced (backTo pos (fu es X.env))) (AP X pins σ Q) X.xe s
def PS(X:Cx)(st:Stmt)(t:TS):Prop:=
 ∀(pins:List (Addr×Obj))(s:Shared)(σ:St)(H:Hp)(D:Ends),Inv X pins σ H s->t D σ H->wpAny (model X.prog X.w) X.A (exec st X.env) (SP X pins D) X.xe s
def PSs(X:Cx)(st:List Stmt)(t:TS):Prop:=
 ∀(pins:List (Addr×Obj))(s:Shared)(σ:St)(H:Hp)(D:Ends),Inv X pins σ H s->t D σ H->wpAny (model X.prog X.w) X.A (execs st X.env) (SP X pins D) X.xe s
def thn{α:Type}{t:Sem α}{Q Q':α->Shared->Prop}(h:wpAny M A t Q E s)(hQ:∀a s,Q a s->Q' a s):wpAny M A t Q' E s:=fD h hQ λ_ _ x=>x
section
variable{X:Cx}
def tVar(i:Nat):TE:=fun σ H Q=>∃v,σ[i]?=some (some v)/\Q v H
def tC(v:V):TE:=λ_ H Q=>Q v H
def a6l(hN:X.N[i]?=some x)(hv:Vis X.env.scope x)(hd:(x==("__debug__":Str))=false:=by decide)(hcd:(x==("__classdict__":Str))=false:=by decide):PE X (.Name x pos) (tVar i):=by
 intro b s σ H Q I h;obtain⟨v,e,h⟩:=h;obtain⟨m,f,d⟩:=I.loc;obtain⟨u,r,l⟩:=d i x v hN e hv;have a:EP X b σ Q u s:=⟨v,H,I,r,h⟩;rcases l with ⟨hk,hm⟩ |⟨hk,c,hc,hcell⟩
 ·exact i6 (wpAny_loadName_local I.ok.kind hk f hm a) hd
 ·rcases hk with hk |hk
  ·exact i6 (wpAny_loadName_cell I.ok.kind hk hc hcell a) hd
  ·exact i6 (wpAny_loadName_free I.ok.kind hk hc hcell a hcd) hd
def b15:PE X (.Constant (.int i) j pos) (tC (.int i)):=λ_ _ _ H _ I h=>wpAny_Constant_int ⟨.int i,H,I.tok _,⟨_,rfl⟩,h⟩
def b4O:PE X (.Constant (.bool b) j pos) (tC (.bl b)):=λ_ _ _ H _ I h=>Constant_bool ⟨.bl b,H,I,rfl,h⟩
def b16:PE X (.Constant .none j pos) (tC .non):=λ_ _ _ H _ I h=>Constant_none ⟨.non,H,I,rfl,h⟩
def b17:PE X (.Constant (.str x) j pos) (tC (.str x)):=λ_ _ _ H _ I h=>Calls.Constant_str ⟨.str x,H,I.tok _,⟨_,rfl⟩,h⟩
def Gl(X:Cx)(x:Str):Prop:=X.env.kindOf x=some .globalImplicit
def b0n(I:Inv X pins σ H s)(hg:Gl X x)(hm:X.mg x=some u)(h:Q u s)
  (hd:(x==("__debug__":Str))=false:=by decide):wpAny (model X.prog X.w) X.A (eval (.Name x pos) X.env) Q E s:=
 Calls.Name_function_global I.ok.kind hg (Calls.loadGlobal_global (I.ok.glob▸I.mod.glob.keeps I.bk) hm h) hd
def a2o(I:Inv X pins σ H s)(hg:Gl X x)(hm:X.mg x=none)(hv:fJ x=some u)(h:Q u s)
  (hn:x≠"__name__":=by decide) (hd:(x==("__debug__":Str))=false:=by decide):wpAny (model X.prog X.w) X.A (eval (.Name x pos) X.env) Q E s:=by
 obtain⟨c,b,a⟩:=I.mod.blt;exact Calls.Name_function_global I.ok.kind hg (Calls.loadGlobal_builtin (I.ok.glob▸I.mod.glob.keeps I.bk) hm (I.ok.blt▸b.keeps I.bk) ((a x hn).trans hv) h) hd
def a2p(hg:Gl X x)(hm:X.mg x=none)(hv:fJ x=some u)(r:RelV v u)(hn:x≠"__name__":=by decide)(hd:(x==("__debug__":Str))=false:=by decide):PE X (.Name x pos) (tC v):=
 λ_ _ _ H _ I h=>a2o I hg hm hv ⟨v,H,I,r,h⟩ hn hd
variable{a b:Expr}{ta tb:TE}{pos:Pos}
def PC(X:Cx)(op:CmpOp)(a b:Expr)(t:TE):Prop:=
 ∀(pins:List (Addr×Obj))(s:Shared)(σ:St)(H:Hp)(Q:VK),Inv X pins σ H s->t σ H Q ->
  wpAny (model X.prog X.w) X.A (eval a X.env) (λv sj=>wpAny (model X.prog X.w) X.A (eval b X.env) (λu sv=>wpAny (model X.prog X.w) X.A (fz op v u) (EP X pins σ Q) X.xe sv) X.xe sj) X.xe s
noncomputable def tB(t:TE):TT:=fun σ H Q=>t σ H λx H1=>∃c,x=.bl c/\Q c H1
def b18(h:PE X e t)(he:∀whole,isTrue e X.env whole=(do let v <- whole;gY e.pos;fV [v] (truthy v)):=by intro _;rfl):PT X e (tB t):=by
 intro a s σ H Q I f;refine isTrue_plain (thn (h a s σ H _ I f) λv j ⟨x,b,i,g,c⟩=>?_) (he _);obtain⟨d,rfl,q⟩:=c;cases g;exact gi ⟨b,i,q⟩
variable{tA tB':TT}{rest:List Expr}
def tAnd(t u:TT):TT:=fun σ H Q=>t σ H λc H1=>if c=true then u σ H1 Q else Q false H1
def tOr(t u:TT):TT:=fun σ H Q=>t σ H λc H1=>if c=true then Q true H1 else u σ H1 Q
def tNot(t:TT):TT:=fun σ H Q=>t σ H λc H1=>Q (!c) H1
def b0o(ha:PT X a tA):PW X (.BoolOp .And [a] pos) tA:=by
 intro f b s σ H Q I h;refine isTrue_and (thn (ha b s σ H Q I h) λc d e=>?_);cases c with
 |true=>exact isTrue_and_nil e
 |false=>exact e
def b19(ha:PT X a tA):PW X (.BoolOp .Or [a] pos) tA:=by
 intro f b s σ H Q I h;refine isTrue_or (thn (ha b s σ H Q I h) λc d e=>?_);cases c with
 |false=>exact isTrue_or_nil e
 |true=>exact e
def b2a(ha:PT X a tA)(hb:PW X (.BoolOp .And (b::rest) pos) tB'):PW X (.BoolOp .And (a::b::rest) pos) (tAnd tA tB'):=by
 intro j d s σ H Q I h;refine isTrue_and (thn (ha d s σ H _ I h) λc i Y=>Y.elim λe Y=>Y.elim λg f=>?_);cases c with
 |true=>exact hb j d i σ e Q g f
 |false=>exact⟨e,g,f⟩
def b4P(ha:PT X a tA)(hb:PW X (.BoolOp .Or (b::rest) pos) tB'):PW X (.BoolOp .Or (a::b::rest) pos) (tOr tA tB'):=by
 intro j d s σ H Q I h;refine isTrue_or (thn (ha d s σ H _ I h) λc i Y=>Y.elim λg Y=>Y.elim λe f=>?_);cases c with
 |true=>exact⟨g,e,f⟩
 |false=>exact hb j d i σ g Q e f
def b2b(ha:PT X a tA):PT X (.UnaryOp .Not a pos) (tNot tA):=λb s σ H Q I h=>isTrue_not (ha b s σ H _ I h)
def b4Q(ta tb:TE):TE:=fun σ H Q=>ta σ H λx H1=>∃c,x=.bl c/\if c=true then tb σ H1 Q else Q (.bl false) H1
def tOrV(ta tb:TE):TE:=fun σ H Q=>ta σ H λx H1=>∃c,x=.bl c/\if c=true then Q (.bl true) H1 else tb σ H1 Q
def b4R(ta:TE):TE:=fun σ H Q=>ta σ H λx H1=>∃c,x=.bl c/\Q (.bl (!c)) H1
def b2c(h:PE X a t):PE X (.BoolOp op [a] pos) t:=λb s σ H Q I c=>BoolOp_one (h b s σ H Q I c)
def b2d(ha:PE X a ta)(hb:PE X (.BoolOp .And (b::rest) pos) tb):PE X (.BoolOp .And (a::b::rest) pos) (b4Q ta tb):=by
 intro d s σ H Q I h;refine BoolOp_and (thn (ha d s σ H _ I h) λv j ⟨x,f,g,i,e⟩=>?_);obtain⟨c,rfl,e⟩:=e;cases i;refine gi ?_;cases c with
 |true=>exact hb d j σ f Q g e
 |false=>exact⟨.bl false,f,g,rfl,e⟩
def b4S(ha:PE X a ta)(hb:PE X (.BoolOp .Or (b::rest) pos) tb):PE X (.BoolOp .Or (a::b::rest) pos) (tOrV ta tb):=by
 intro d s σ H Q I h;refine BoolOp_or (thn (ha d s σ H _ I h) λv i ⟨x,g,f,j,e⟩=>?_);obtain⟨c,rfl,e⟩:=e;cases j;refine gi ?_;cases c with
 |false=>exact hb d i σ g Q f e
 |true=>exact⟨.bl true,g,f,rfl,e⟩
def b2e(ha:PE X a ta):PE X (.UnaryOp .Not a pos) (b4R ta):=by
 intro b s σ H Q I h;refine UnaryOp_ (thn (ha b s σ H _ I h) λv i ⟨x,g,f,e,d⟩=>?_);obtain⟨c,rfl,d⟩:=d;cases e;exact not_of (gi ⟨.bl (!c),g,f,rfl,d⟩)
def tIf(t:TT)(ta tb:TE):TE:=fun σ H Q=>t σ H λc H1=>if c=true then ta σ H1 Q else tb σ H1 Q
def a8h(hc:PT X c tA)(ha:PE X a ta)(hb:PE X b tb):PE X (.IfExp c a b pos) (tIf tA ta tb):=by
 intro e s σ H Q I h;refine wpAny_IfExp (thn (hc e s σ H _ I h) λd j Y=>Y.elim λi Y=>Y.elim λf g=>?_);cases d with
 |true=>exact ha e j σ i Q f g
 |false=>exact hb e j σ i Q f g
end
def SqL(K:Fg)(H:Hp)(a:Addr)(xs:List V):Prop:=
 Rd H a (.lst xs) \/
  ∃(o:Obj)(its:Array Value)(n:Nat),K.lookup a=some o/\o.cls=.type "list"/\o.dict=none/\o.data=.seq its n/\its.size<=fi/\Vals xs its.toList
def SqT(K:Fg)(H:Hp)(a:Addr)(xs:List V):Prop:=
 Rd H a (.tup xs) \/
  ∃(o:Obj)(its:Array Value)(n:Nat),K.lookup a=some o/\o.cls=.type "tuple"/\o.data=.seq its n/\its.size<=fi/\Vals xs its.toList
noncomputable def absV:Value->Option V
 |.none=>some .non
 |.bool b=>some (.bl b)
 |.int i _=>some (.int i)
 |.str x _=>some (.str x)
 |.bytes b _=>some (.byt b)
 |.float b _=>some (.flt b)
 |.ref a=>some (.ref a)
 |.type n=>some (.ty n)
 |_=>none
def RelV.abs(r:RelV x u):absV u=some x:=by
 cases x with
 |non=>cases r;rfl
 |bl _=>cases r;rfl
 |int _=>obtain⟨t,rfl⟩:=r;rfl
 |str _=>obtain⟨t,rfl⟩:=r;rfl
 |byt _=>obtain⟨t,rfl⟩:=r;rfl
 |flt _=>obtain⟨t,rfl⟩:=r;rfl
 |ref _=>cases r;rfl
 |ty _=>cases r;rfl
def RelV.inj(r:RelV x u)(q:RelV y u):x=y:=aG.inj (r.abs.symm.trans q.abs)
def Vals.inj:∀{xs ys:List V}{us:List Value},Vals xs us->Vals ys us->xs=ys:=by
 intro xs ys us h
 induction h generalizing ys with
 |nil=>intro k;cases k;rfl
 |cons r t ih=>
  intro k;cases k with
  |cons r' t'=>rw[r.inj r',ih t']
section
variable{X:Cx}{pins:List (Addr×Obj)}{σ:St}{H:Hp}{s:Shared}{a:Addr}{xs ys:List V}
def SqL.of{K:Fg}(h:H a=some (.lst xs)):SqL K H a xs:=.inl (.inl h)
def SqT.of{K:Fg}(h:H a=some (.tup xs)):SqT K H a xs:=.inl (.inl h)
def Inv.list(I:Inv X pins σ H s)(h:SqL X.K H a xs):∃its:List Value,Vals xs its/\PlainL s.heap a its.toArray/\xs.length<=sizeLine:=by
 rcases h with h |⟨o,b,n,hk,hc,hd,hs,hz,r⟩
 ·obtain⟨z,b,n,r,e⟩:=h.ok I.hok;exact⟨b,r,⟨_,n,e,rfl,rfl,rfl⟩,z⟩
 ·refine⟨b.toList,r,⟨o,n,I.kIn a o hk,hc,hd,by simpa using hs⟩,?_⟩;have e:=r.length;simp at e
  lia
def Inv.tuple(I:Inv X pins σ H s)(h:SqT X.K H a xs):∃its:List Value,Vals xs its/\IsTup s.heap a its.toArray/\xs.length<=sizeLine:=by
 rcases h with h |⟨o,b,n,hk,hc,hs,hz,r⟩
 ·obtain⟨z,b,r,p⟩:=h.ok I.hok;exact⟨b,r,p,z⟩
 ·refine⟨b.toList,r,⟨o,I.kIn a o hk,hc,n,by simpa using hs⟩,?_⟩;have e:=r.length;simp at e
  lia
def Inv.list_inj(I:Inv X pins σ H s)(h:SqL X.K H a xs)(h':SqL X.K H a ys):xs=ys:=by
 obtain⟨f,r,⟨o,n,e,_,_,d⟩,_⟩:=I.list h;obtain⟨b,i,⟨j,k,c,_,_,g⟩,_⟩:=I.list h'
 have:f=b:=by grind
 subst this;exact r.inj i
def Inv.tuple_inj(I:Inv X pins σ H s)(h:SqT X.K H a xs)(h':SqT X.K H a ys):xs=ys:=by
 obtain⟨f,r,⟨o,e,_,n,d⟩,_⟩:=I.tuple h;obtain⟨b,i,⟨j,c,_,k,g⟩,_⟩:=I.tuple h'
 have:f=b:=by grind
 subst this;exact r.inj i
end
abbrev Cx.wish(X:Cx)(E:Value->Shared->Prop):Cx:={ X with xe:=E }
abbrev Cx.nox(X:Cx):Cx:=X.wish λ_ _=>False
noncomputable def Cx.Ok.wish{X:Cx}(ok:X.Ok)(E:Value->Shared->Prop):(X.wish E).Ok:=
 ⟨ok.mod,ok.kind,ok.glob,ok.blt,ok.above,ok.inj,ok.has,ok.cab,ok.hd,ok.frames,ok.stk,ok.exf,ok.bs,ok.bsz,ok.noex,ok.exfs,ok.funs,ok.frf⟩
def Cx.Ok.unwish{X:Cx}(ok:(X.wish E).Ok):X.Ok:=
 ⟨ok.mod,ok.kind,ok.glob,ok.blt,ok.above,ok.inj,ok.has,ok.cab,ok.hd,ok.frames,ok.stk,ok.exf,ok.bs,ok.bsz,ok.noex,ok.exfs,ok.funs,ok.frf⟩
section
variable{X:Cx}{pins:List (Addr×Obj)}{σ:St}{H:Hp}{s:Shared}{E:Value->Shared->Prop}
noncomputable def Inv.wish(I:Inv X pins σ H s)(E:Value->Shared->Prop):Inv (X.wish E) pins σ H s:=⟨I.ok.wish E,I.os,I.bare,I.base,I.loc,I.cell,I.free,I.freeC,I.pin,I.hok,I.len⟩
def Inv.unwish(I:Inv (X.wish E) pins σ H s):Inv X pins σ H s:=⟨I.ok.unwish,I.os,I.bare,I.base,I.loc,I.cell,I.free,I.freeC,I.pin,I.hok,I.len⟩
def SP.unwish(h:SP (X.wish E) pins D f s'):SP X pins D f s':=by
 cases f with
 |next=>obtain⟨σ',H',I,q⟩:=h;exact⟨σ',H',I.unwish,q⟩
 |brk=>obtain⟨σ',H',I,q⟩:=h;exact⟨σ',H',I.unwish,q⟩
 |cont=>obtain⟨σ',H',I,q⟩:=h;exact⟨σ',H',I.unwish,q⟩
 |ret u=>obtain⟨v,σ',H',I,r,q⟩:=h;exact⟨v,σ',H',I.unwish,r,q⟩
noncomputable def PE.nox(h:PE X.nox e t):PE X e t:=λa s σ H Q I d=>
 fD (h a s σ H Q (I.wish _) d) (by rintro _ _ ⟨v,b,c,r,q⟩;exact⟨v,b,c.unwish,r,q⟩) λ_ _ z=>ap z
noncomputable def PT.nox(h:PT X.nox e t):PT X e t:=λa s σ H Q I d=>
 fD (h a s σ H Q (I.wish _) d) (by rintro _ _ ⟨c,b,q⟩;exact⟨c,b.unwish,q⟩) λ_ _ z=>ap z
noncomputable def PSs.nox{st:List Stmt}(h:PSs X.nox st t):PSs X st t:=λa s σ H D I b=>
 fD (h a s σ H D (I.wish _) b) (λ_ _ q=>q.unwish) λ_ _ z=>ap z
end
section
variable{X:Cx}{st:Stmt}{rest:List Stmt}{t u:TS}{e:Expr}{te:TE}{pos:Pos}
def b2f:TS:=λD σ H=>D.nx σ H
def tSeq(t u:TS):TS:=λD σ H=>t { D with nx:=u D } σ H
def b0p:PSs X [] b2f:=λ_ _ σ H _ I h=>iD ⟨σ,H,I,h⟩
def a4W(h1:PS X st t)(h2:PSs X rest u):PSs X (st::rest) (tSeq t u):=by
 intro a s σ H D I h;refine wpAny_execs_cons (thn (h1 a s σ H { D with nx:=u D } I h) λf b q=>?_);cases f with
 |next=>
  obtain⟨σ',H',I',q⟩:=q;exact h2 a b σ' H' D I' q
 |ret v=>exact q
 |brk=>exact q
 |cont=>exact q
def b0q(h1:PS X st t):PSs X [st] t:=by
 intro a s σ H D I h;refine wpAny_execs_cons (thn (h1 a s σ H D I h) λf b q=>?_);cases f with
 |next=>exact iD q
 |ret v=>exact q
 |brk=>exact q
 |cont=>exact q
def b2g:TS:=λD σ H=>D.bk σ H
def b4T:TS:=λD σ H=>D.ct σ H
def b0r:PS X (.Pass pos) b2f:=λ_ _ σ H _ I h=>wpAny_Pass ⟨σ,H,I,h⟩
def a8i:PS X (.Break pos) b2g:=λ_ _ σ H _ I h=>wpAny_Break ⟨σ,H,I,h⟩
def a4k:PS X (.Continue pos) b4T:=λ_ _ σ H _ I h=>wpAny_Continue ⟨σ,H,I,h⟩
def Inv.quiet(I:Inv X pins σ H s):interactive X.env=false:=by simp[interactive,I.ok.kind]
def b4U(te:TE):TS:=λD σ H=>te σ H λ_ H1=>D.nx σ H1
def b0s(he:PE X e te)(hs:gz e none pos.line X.env=pure false):PS X (.Expr e pos) (b4U te):=λa s σ H D I h=>wpAny_Expr_any (thn (he a s σ H _ I h) λv f ⟨x,d,c,g,b⟩=>⟨σ,d,c,b⟩) I.quiet hs
def tRet(te:TE):TS:=λD σ H=>te σ H D.rt
def b2h(he:PE X e te):PS X (.Return (some e) pos) (tRet te):=λa s σ H D I h=>wpAny_Return_some (thn (he a s σ H _ I h) λv g ⟨x,c,b,f,d⟩=>⟨x,σ,c,b,f,d⟩)
def b4V:TS:=λD _ H=>D.rt .non H
def b0t:PS X (.Return none pos) b4V:=λ_ _ σ H _ I h=>wpAny_Return_none ⟨.non,σ,H,I,rfl,h⟩
def tIfS(c:TT)(t u:TS):TS:=λD σ H=>c σ H λb H1=>if b=true then t D σ H1 else u D σ H1
def b4W(hc:PT X c tc)(ha:PSs X a t)(hb:PSs X b u):PS X (.If c a b pos) (tIfS tc t u):=by
 intro e s σ H D I h;refine wpAny_If (thn (hc e s σ H _ I h) λd f Y=>Y.elim λg Y=>Y.elim λi j=>?_);cases d with
 |true=>exact ha e f σ g D i j
 |false=>exact hb e f σ g D i j
end
abbrev TG:=V->St->Hp->(St->Hp->Prop)->Prop
abbrev TGs:=List V->St->Hp->(St->Hp->Prop)->Prop
def PG(X:Cx)(target:Expr)(t:TG):Prop:=
 ∀(pins:List (Addr×Obj))(s:Shared)(σ:St)(H:Hp)(v:V)(u:Value)(Q:St->Hp->Prop),Inv X pins σ H s->RelV v u->t v σ H Q ->
  wpAny (model X.prog X.w) X.A (assign target X.env u) (λ_ s'=>∃σ' H',Inv X pins σ' H' s'/\Q σ' H') X.xe s
def PGs(X:Cx)(ts:List Expr)(t:TGs):Prop:=
 ∀(pins:List (Addr×Obj))(s:Shared)(σ:St)(H:Hp)(vs:List V)(us:List Value)(Q:St->Hp->Prop),Inv X pins σ H s->Vals vs us->t vs σ H Q ->
  wpAny (model X.prog X.w) X.A (assignInOrder ((f8 ts X.env).map (·.2)) us) (λ_ s'=>∃σ' H',Inv X pins σ' H' s'/\Q σ' H') X.xe s
abbrev TSet:=V->V->V->Hp->(Hp->Prop)->Prop
def PSet(X:Cx)(t:TSet):Prop:=
 ∀(pins:List (Addr×Obj))(s:Shared)(σ:St)(H:Hp)(o i v:V)(ov iv u:Value)(Q:Hp->Prop),Inv X pins σ H s->RelV o ov->RelV i iv->RelV v u->t o i v H Q ->
  wpAny (model X.prog X.w) X.A (iE ov iv u) (λ_ s'=>∃H',Inv X pins σ H' s'/\Q H') X.xe s
abbrev TIp:=V->V->Hp->VK->Prop
def PIp(X:Cx)(op:Operator)(t:TIp):Prop:=
 ∀(pins:List (Addr×Obj))(s:Shared)(σ:St)(H:Hp)(x y:V)(v u:Value)(Q:VK),Inv X pins σ H s->RelV x v->RelV y u->t x y H Q ->
  wpAny (model X.prog X.w) X.A (gE op v u) (EP X pins σ Q) X.xe s
section
variable{X:Cx}{pos:Pos}
def a6m(i:Nat):TG:=λv σ H Q=>Q (σ.set i (some v)) H
def a6n(hN:X.N.Nodup)(hi:X.N[i]?=some x)(hx:Loc X.env.scope x)(hf:X.fn x=true\/X.env.scope.names.lookup x=some .local):PG X (.Name x pos) (a6m i):=λb s σ H v u Q I r h=>wpAny_assign_Name (a29 I hN hi hx r (λc a=>⟨_,H,a,h⟩) hf)
def gNil:TGs:=λvs σ H Q=>vs=[]/\Q σ H
def b2i(t:TG)(u:TGs):TGs:=λvs σ H Q=>∃v r,vs=v::r/\t v σ H fun σ' H'=>u r σ' H' Q
def b0u:PGs X [] gNil:=by
 intro a s σ H b c Q I r h;obtain⟨e,h⟩:=h;subst e;exact assignInOrder_nil ⟨σ,H,I,h⟩
def a8j(h1:PG X e t)(h2:PGs X es u)
  (hs:(f8 (e::es) X.env).map (·.2)=assign e X.env::(f8 es X.env).map (·.2):=by rfl):PGs X (e::es) (b2i t u):=by
 intro a s σ H k i Q I r h;obtain⟨v,j,g,h⟩:=h;subst g;cases r with
 |cons r rr=>
  rw[hs];exact assignInOrder_cons (thn (h1 a s σ H _ _ _ I r h) λ_ f ⟨σ1,d,b,c⟩=>(h2 a f σ1 d _ _ Q b rr c))
def gTup(K:Fg)(n:Nat)(t:TGs):TG:=λv σ H Q=>∃a xs,v=.ref a/\SqT K H a xs/\xs.length=n/\t xs σ H Q
def b2j(hc:X.calm=true)(h:PGs X es t)
  (hn:(f8 es X.env).length=n) (hst:(f8 es X.env).findIdx? (·.1)=none):PG X (.Tuple es k pos) (gTup X.K n t):=by
 intro c s σ H v u Q I r d;obtain⟨a,i,q,m,l,d⟩:=d;subst q;cases r;obtain⟨x,f,p,y⟩:=I.tuple m;exact assign_Tuple_tuple (I.ok.hd hc) p (by simp[hn,<- l,f.length]) hst λw j=>(h c _ σ H i _ Q (I.kept (t':=s.toks) λb o e=>j b o (ao (Heap.lt_size e)) e) (by omega) d)
def gSub(to ti:TE)(t:TSet):TG:=λv σ H Q=>to σ H λo H1=>ti σ H1 λi H2=>t o i v H2 λH3=>Q σ H3
def b2k(ho:PE X o to)(hi:PE X i ti)(hs:PSet X t)
  (ha:∀v,assign (.Subscript o i pos) X.env v=(do
   let ov <- fV [v] (eval o X.env)
   let iv <- fV [v,ov] (eval i X.env)
   gY pos
   fV [v,ov,iv] (iE ov iv v)
   release [v,ov,iv] []):=by intro _;rfl):PG X (.Subscript o i pos) (gSub to ti t):=by
 intro a s σ H v u Q I r h;rw[ha];exact e9 (fI (thn (ho a s σ H _ I h) λl n ⟨x,c,e,g,p⟩=>(e9 (fI (thn (hi a n σ c _ e p) λm q ⟨y,f,w,b,k⟩=>(e9 (i7 (e9 (fI (thn (hs a q σ f x y v l m u _ w g b r k) λ_ A Y=>Y.elim λj Y=>Y.elim λz d=>(wpAny_release ⟨σ,j,z,d⟩)))))))))))
def tAsg(te:TE)(g:TG):TS:=λD σ H=>te σ H λx H1=>g x σ H1 D.nx
def a9L(he:PE X e te)(hg:PG X tg g)(hs:i8 [tg] e pos.line X.env=pure false)(hw:i9 [tg] e X.env=pure none)
  (h1:(f8 [tg] X.env).map (·.2)=[assign tg X.env]):PS X (.Assign [tg] e pos) (tAsg te g):=by
 intro a s σ H D I h;refine wpAny_Assign_stores (thn (he a s σ H _ I h) λv c ⟨x,d,b,i,f⟩=>?_) hs hw;rw[h1];exact thn (hg a c σ d x v _ b i f) λ_ j q=>q
def b2l(hN:X.N.Nodup)(hi:X.N[i]?=some x)(hx:Loc X.env.scope x)(he:PE X e te)(hs:gz e (some (.Name x pos')) pos.line X.env=pure false)(hf:X.fn x=true\/X.env.scope.names.lookup x=some .local) :
  PS X (.Assign [.Name x pos'] e pos) (tAsg te (a6m i)):=by
 intro a s σ H D I h;refine wpAny_Assign_Name (thn (he a s σ H _ I h) λv j ⟨y,f,d,c,g⟩=>?_) hs;exact a29 d hN hi hx c (λk b=>⟨_,f,b,g⟩) hf
def tAug(i:Nat)(te:TE)(ti:TIp):TS:=λD σ H=>∃x,σ[i]?=some (some x)/\te σ H λy H1=>ti x y H1 λz H2=>D.nx (σ.set i (some z)) H2
def b2m(hN:X.N.Nodup)(hi:X.N[i]?=some x)(hx:Loc X.env.scope x)(he:PE X e te)(ho:PIp X op ti)(hf:X.fn x=true\/X.env.scope.names.lookup x=some .local) :
  PS X (.AugAssign (.Name x pos') op e pos) (tAug i te ti):=by
 intro a s σ H D I h;obtain⟨v,f,h⟩:=h;obtain⟨m,g,j⟩:=I.loc;have b:Vis X.env.scope x:=by rcases hx with k |k;exact .inl k;exact .inr (.inl k)
 obtain⟨u,r,l⟩:=j i x v hi f b;refine wpAny_AugAssign_Name ?_;have d:wpAny (model X.prog X.w) X.A (eval e X.env) (λw B=>wpAny (model X.prog X.w) X.A (gE op u w) (λr G=>wpAny (model X.prog X.w) X.A (i5 X.env x r) (λ_=>SP X a D .next) X.xe G) X.xe B) X.xe s:=by
  exact thn (he a s σ H _ I h) λw C ⟨y,n,p,F,t⟩=>(thn (ho a C σ n v y u w _ p r F t) λz Q ⟨M,E,o,L,J⟩=>(a29 o hN hi hx L (λR q=>⟨_,E,q,J⟩) hf))
 rcases l with ⟨hk,hm⟩ |⟨hk,c,hc,hcell⟩
 ·exact wpAny_loadName_local I.ok.kind hk g hm d
 ·rcases hk with hk |hk
  ·exact wpAny_loadName_cell I.ok.kind hk hc hcell d
  ·rcases hx with k |k
   ·have:X.env.scope.names.lookup x=some .free:=hk
    rw[k]at this;cases this
   ·have:X.env.scope.names.lookup x=some .free:=hk
    rw[k]at this;cases this
end
section
variable{X:Cx}{pos:Pos}
def b2n(c:TT)(tb:TS):TS:=λD σ H=>∃W:Nat->St->Hp->Prop,(∃m,W m σ H)/\∀m σ H,W m σ H ->
 c σ H λb H1=>if b=true then ∃N:St->Hp->Prop,(∀σ' H',N σ' H'->∃m',m'<m/\W m' σ' H')/\tb { D with nx:=N,ct:=N,bk:=D.nx } σ H1 else D.nx σ H1
def a8k(hp:fH (model X.prog X.w) X.A X.env X.xe)(hc:PT X c tc)(hb:PSs X body tb):PS X (.While c body [] pos) (b2n tc tb):=by
 intro a s σ H D I h;obtain⟨W,⟨z,y⟩,g⟩:=h;refine wpAny_While (codeAny_whileLoop (λn t=>∃σ' H',Inv X a σ' H' t/\W n σ' H') ?_ z ⟨σ,H,I,y⟩);rintro n x ⟨σ1,q,r,u⟩;refine gF hp (thn (hc a x σ1 q _ r (g n σ1 q u)) λb B Y=>Y.elim λo Y=>Y.elim λm e=>?_);cases b with
 |true=>
  obtain⟨N,p,e⟩:=e;refine gF hp (thn (hb a B σ1 o _ m e) λf C d=>?_);cases f with
  |next=>
   obtain⟨σ3,H3,I3,k⟩:=d;obtain⟨j,l,i⟩:=p σ3 H3 k;exact⟨j,l,σ3,H3,I3,i⟩
  |cont=>
   obtain⟨σ3,H3,I3,k⟩:=d;obtain⟨j,l,i⟩:=p σ3 H3 k;exact⟨j,l,σ3,H3,I3,i⟩
  |brk=>exact d
  |ret v=>exact d
 |false=>
  exact iD ⟨σ1,o,m,e⟩
end
structure It where
 go:Nat->Hp->Prop
 yld:Nat->Hp->V->Hp->Prop
 stop:Nat->Hp->Prop
def FpOk(X:Cx)(pins:List (Addr×Obj))(H:Hp)(b:Addr):Prop:=
 H b=none/\b≠X.env.locals/\b∉X.fs/\(b∈X.ex\/X.s₀.heap.objs.size<=b)/\(∀x c,X.env.cells.lookup x=some c->c≠b)/\∀p∈X.pn++pins,p.1≠b
def Inv.fpOk(I:Inv X pins σ H s)(hb:s.heap.objs.size<=b)(hn:H' b=none):FpOk X pins H' b:=by
 refine⟨hn,be (aB I.lt hb),I.nofs hb,.inr (ax I.sz hb),λx c e z=>?_,λp a z=>(absurd (aB (Heap.lt_size (I.pin p a).1) (by simp_all)) (aW _))⟩
 ·obtain⟨v,q⟩:=I.cell x c e;exact absurd (aB q.lt (by simp_all)) (aW _)
structure Turn (P:fq) (w:World) (K:Fg) (tg:Expr) (J:It) (fp:List Addr) (it:Addr) (tn:Nat->Heap->Prop):Prop where
 mem:it∈fp
 obj:∀i h,tn i h->∀b∈fp,∃o,h.get? b=some o/\∀v,o.data≠.cell v
 keep:∀i h h',tn i h->(∀b∈fp,∀o,h.get? b=some o->h'.get? b=some o)->tn i h'
 item:∀(X:Cx),X.prog=P->X.w=w->X.K=K->X.calm=true->∀(i:Nat)(pins:List (Addr×Obj))(s:Shared)(σ:St)(H:Hp)(E:Value->Shared->Prop),Inv X pins σ H s->(∀b∈fp,FpOk X pins H b)->tn i s.heap->J.go i H ->
  wpAny (model P w) X.A (pyNext (.ref it)) (λr s1=>∃u,r=some u /\
   wpAny (model P w) X.A (ja tg (.ref it) u) (λ_ s2=>∃x H',Inv X pins σ H' s2/\RelV x u/\J.yld i H x H'/\tn (i+1) s2.heap/\∀b∈fp,H' b=none) E s1) E s
 done:∀(X:Cx),X.prog=P->X.w=w->X.K=K->X.calm=true->∀(i:Nat)(pins:List (Addr×Obj))(s:Shared)(σ:St)(H:Hp)(E:Value->Shared->Prop),Inv X pins σ H s->(∀b∈fp,FpOk X pins H b)->tn i s.heap->J.stop i H ->
  wpAny (model P w) X.A (pyNext (.ref it)) (λr s1=>r=none/\Inv X pins σ H s1) E s
 self:∀(A:Around)(i:Nat)(s:Shared)(Q:Value->Shared->Prop)(E:Value->Shared->Prop),tn i s.heap->Q (.ref it) s->wpAny (model P w) A (pyIter (.ref it)) Q E s
abbrev TI:=St->Hp->(It->Hp->Prop)->Prop
def PIE(X:Cx)(pins:List (Addr×Obj))(σ:St)(tg:Expr)(R:It->Hp->Prop)(itv:Value)(s2:Shared):Prop:=
 ∃(it:Addr)(fp:List Addr)(tn:Nat->Heap->Prop)(J:It)(H':Hp),itv=.ref it/\Inv X pins σ H' s2/\Turn X.prog X.w X.K tg J fp it tn/\tn 0 s2.heap/\(∀b∈fp,FpOk X pins H' b)/\R J H'
def PI(X:Cx)(tg iter:Expr)(wi:TI):Prop:=
 ∀(pins:List (Addr×Obj))(s:Shared)(σ:St)(H:Hp)(R:It->Hp->Prop),Inv X pins σ H s->wi σ H R ->
  wpAny (model X.prog X.w) X.A (eval iter X.env) (λv s1=>wpAny (model X.prog X.w) X.A (pyIter v) (PIE X pins σ tg R) X.xe s1) X.xe s
def b0v(ho:s.heap.get? it=some o)(hc:o.cls=.type n)(hd:o.data=.fields vs)
    (hn:["enumerate","zip","dict_itemiterator","dict_reverseitemiterator","odict_iterator","itertools.zip_longest","itertools.pairwise"].contains n=false) (hQ:Q () s):wpAny M A (ja tg (.ref it) u) Q E s:=by
  cases tg<;>first
    |exact fc hQ
    | (cases u<;>first
        |exact fc hQ
        | (refine e9 (ii ho ?_)
           rw[hc,hd]
           show wpAny M A (if _=true then _ else _) Q E s
           rw[if_neg (by grind)];exact fc hQ))
noncomputable def Itl(K:Fg)(a:Addr):It:=
 ⟨λi H=>∃xs x,SqL K H a xs/\xs[i]?=some x,λi H x H'=>H'=H/\∀xs,SqL K H a xs->xs[i]?=some x,λi H=>∃xs,SqL K H a xs/\xs.length<=i⟩
noncomputable def Itr(lo:Int)(n:Nat):It:=⟨λi _=>i<n,λi H x H'=>H'=H/\x=.int (lo+i),λi _=>n<=i⟩
theorem a6o{P:fq}{w:World}{K:Fg}{tg:Expr}(a it:Addr):Turn P w K tg (Itl K a) [it] it (λi h=>h.IsListIter it a i) where
 mem:=by simp
 obj:=λi h st b hb=>by
  have e:b=it:=by simpa using hb
  subst e;obtain⟨o,e,c,d⟩:=st;exact⟨o,e,λv z=>by rw[d]at z;cases z⟩
 keep:=λi h h' st k=>st.at λo e=>k it (by simp) o e
 item:=by
  intro X hP hw hK hc i pins s σ H E I hf st hg;subst hP hw hK;obtain⟨xs,x,hq,hx⟩:=hg;obtain⟨its,rv,p,hz⟩:=I.list hq;obtain⟨u,hu,ru⟩:=rv.get hx;obtain⟨f0,f1,f2,f3,f4,f5⟩:=hf it (by simp);refine wpAny_pyNext_list_item st p.isList (x:=u) (by simpa using hu) λh' st' sb=>?_;have I1:Inv X pins σ H { s with heap:=h' }:=I.turned (t':=s.toks) (λb o hb e=>(sb.2 b hb).trans e) f0 f1 f3 f4 f5;obtain⟨o,e,c,d⟩:=id st';exact⟨u,rfl,b0v (s:={ s with heap:=h' }) e c d (by decide) ⟨x,H,I1,ru,⟨rfl,λys hy=>by rw[I.list_inj hy hq];exact hx⟩,st',λb hb=>(hf b hb).1⟩⟩
 done:=by
  intro X hP hw hK hc i pins s σ H E I hf st hg;subst hP hw hK;obtain⟨xs,hq,hx⟩:=hg;obtain⟨its,rv,p,hz⟩:=I.list hq;obtain⟨f0,f1,f2,f3,f4,f5⟩:=hf it (by simp);have hl:=rv.length;exact wpAny_pyNext_list_end (I.ok.hd hc) st p.isList (by simp;omega) λh' eb=>⟨rfl,I.turned (t':=s.toks) (λb o hb e=>eb b o hb e) f0 f1 f3 f4 f5⟩
 self:=λ_ _ _ _ _ st h=>wpAny_pyIter_listiter st h
theorem a5J{P:fq}{w:World}{K:Fg}{tg:Expr}(it:Addr)(lo:Int)(n:Nat):Turn P w K tg (Itr lo n) [it] it (λi h=>IsRangeIter h it (lo+(i:Nat)*1) ((n:Int)-(i:Nat)) 1) where
 mem:=by simp
 obj:=λi h st b hb=>by
  have e:b=it:=by simpa using hb
  subst e;exact⟨_,st,λv z=>by
   have z':Data.fields _=Data.cell v:=z;cases z'⟩
 keep:=λi h h' st k=>k it (by simp) _ st
 item:=by
  intro X hP hw hK hc i pins s σ H E I hf st hg;subst hP hw hK;obtain⟨f0,f1,f2,f3,f4,f5⟩:=hf it (by simp);have W:=Walks.range (prog:=X.prog) (w:=X.w) (I.ok.hd hc) it lo 1 n;refine W.item i s _ _ hg st λv h' tk hv st' kk=>?_;obtain⟨t,rfl⟩:=hv;have I1:Inv X pins σ H { s with heap:=h',toks:=tk }:=I.turned (λb o hb e=>kk b o (by simpa using hb) e) f0 f1 f3 f4 f5;refine⟨_,rfl,b0v (s:={ s with heap:=h',toks:=tk }) (n:="range_iterator") st' rfl rfl (by decide) ⟨.int (lo+i),H,I1,⟨t,?_⟩,⟨rfl,rfl⟩,st',λb hb=>(hf b hb).1⟩⟩;rw[Int.mul_one]
 done:=by
  intro X hP hw hK hc i pins s σ H E I hf st hg;subst hP hw hK;obtain⟨f0,f1,f2,f3,f4,f5⟩:=hf it (by simp);exact wpAny_pyNext_range_end (I.ok.hd hc) st (by have:n<=i:=hg;omega) λh' eb=>⟨rfl,I.turned (t':=s.toks) (λb o hb e=>eb b o hb e) f0 f1 f3 f4 f5⟩
 self:=λ_ _ _ _ _ st h=>wpAny_pyIter_rangeiter st h
section
variable{X:Cx}{tg:Expr}
def b4X(K:Fg)(tl:TE):TI:=fun σ H R=>tl σ H λx H1=>∃a,x=.ref a/\(∃xs,SqL K H1 a xs)/\R (Itl K a) H1
def b0w(hl:PE X l tl):PI X tg l (b4X X.K tl):=by
 intro f s σ H R I h;refine thn (hl f s σ H _ I h) λv d ⟨x,m,c,g,i⟩=>?_;obtain⟨a,e,⟨r,j⟩,q⟩:=i;subst e;cases g;obtain⟨n,u,p,t⟩:=c.list j;refine jc p.isList ⟨d.heap.objs.size,[d.heap.objs.size],_,_,m,rfl,c.kept λb o e=>Heap.get?_push_of_some _ e,a6o a _,⟨_,Heap.get?_push_size _ rfl,rfl,rfl⟩,λb k=>?_,q⟩;have e:b=d.heap.objs.size:=by simp_all
 subst e;exact c.fpOk (af _) (c.hok.fresh (af _))
def a8l{lo hi:Int}(I:Inv X pins σ H s)(h1:-(2 ^ 62)<=lo)(h2:lo<2 ^ 62)(h3:-(2 ^ 62)<=hi)(h4:hi<2 ^ 62)
  (q:R (Itr lo (hi-lo).toNat) H):wpAny (model X.prog X.w) X.A (pyIter (.ref s.heap.objs.size)) (PIE X pins σ tg R) E { s with heap:=s.heap.push { cls:=.type "range",data:=.fields #[.int lo t,.int hi u,.int 1 v] },toks:=tk }:=by
 refine wpAny_pyIter_range (IsRange.new ..) (small_one h1 h2 h3 h4) ?_;have a:Inv X pins σ H { s with heap:=s.heap.push { cls:=.type "range",data:=.fields #[.int lo t,.int hi u,.int 1 v] },toks:=tk }:=I.kept λb o e=>Heap.get?_push_of_some _ e;refine⟨(s.heap.push { cls:=.type "range",data:=.fields #[.int lo t,.int hi u,.int 1 v] }).objs.size,[(s.heap.push { cls:=.type "range",data:=.fields #[.int lo t,.int hi u,.int 1 v] }).objs.size],_,_,H,rfl,
  a.kept λb o e=>Heap.get?_push_of_some _ e,a5J _ lo (hi-lo).toNat,?_,λb d=>?_,q⟩
 ·have c:lo+((0:Nat))*1=lo:=by simp
  have f:(((hi-lo).toNat))-((0:Nat))=fv.Range.rangeSize lo hi 1:=by rw[rangeSize_one];split<;>lia
  rw[c,f];exact Heap.get?_push_size _ rfl
 ·have e:b=(s.heap.push { cls:=.type "range",data:=.fields #[.int lo t,.int hi u,.int 1 v] }).objs.size:=by simpa using d
  subst e;exact a.fpOk (af _) (a.hok.fresh (af _))
def b2o(ta:TA):TI:=fun σ H R=>ta σ H λvs H1=>∃j:Int,vs=[.int j]/\-(2 ^ 62)<=j/\j<2 ^ 62/\R (Itr 0 j.toNat) H1
def a6p(hg:Gl X "range")(hm:X.mg "range"=none)(ha:PA X [a] ta)(hs:fu [a] X.env=[(false,eval a X.env)]):PI X tg (.Call (.Name "range" p) [a] [] pos) (b2o ta):=by
 intro b s σ H R I h;refine Call_ (a2o I hg hm boot_range (PyProof.Rows.callWith_type1 (thn (ha pos b s σ H _ I h) λl k ⟨i,m,d,f,c⟩=>?_) hs rfl));obtain⟨j,e,c,g,q⟩:=c;subst e;cases f with
 |cons r rr=>
  cases rr;obtain⟨t,rfl⟩:=r;exact call_range_1 (a8l d (by simp) (by simp) c g (by grind))
def tFor(wi:TI)(g:TG)(tb:TS):TS:=λD σ H=>wi σ H λJ H1=>∃W:Nat->Nat->St->Hp->Prop,(∃m,W 0 m σ H1)/\∀i m σ H,W i m σ H ->
 (J.stop i H/\D.nx σ H)\/(J.go i H/\∃N:St->Hp->Prop,(∀σ' H',N σ' H'->∃m',m'<m/\W (i+1) m' σ' H')/\∀x H',J.yld i H x H'->g x σ H' fun σ2 H2=>tb { D with nx:=N,ct:=N,bk:=D.nx } σ2 H2)
noncomputable def a4X(fp:List Addr)(h:Heap):List (Addr×Obj):=fp.filterMap λb=>(h.get? b).map λo=>(b,o)
def a1l(hb:b∈fp)(e:h.get? b=some o):(b,o)∈a4X fp h:=cJ.mpr ⟨b,hb,by rw[e];rfl⟩
def a6q(hp:p∈a4X fp h):p.1∈fp/\h.get? p.1=some p.2:=by
 obtain⟨b,a,e⟩:=cJ.mp hp;cases q:h.get? b with
 |none=>rw[q]at e;cases e
 |some o=>
  rw[q]at e;have c:=aG.inj e;subst c;exact⟨a,q⟩
def Inv.pinned(I:Inv X pins σ H s)(hf:∀b∈fp,FpOk X pins H b)(ho:∀b∈fp,∃o,s.heap.get? b=some o/\∀v,o.data≠.cell v):Inv X (pins++a4X fp s.heap) σ H s:=
 I.pins_of λp h=>(ah.mp h).elim (λz=>I.pin p (aI _ z)) λz=>by
  obtain⟨a,e⟩:=a6q z;obtain⟨g,f,i,_⟩:=hf p.1 a;obtain⟨o,c,d⟩:=ho p.1 a;rw[e]at c;cases c;exact⟨e,g,f,i,d⟩
def Inv.unpinned(I:Inv X (pins++pl) σ H s):Inv X pins σ H s:=I.pins_of λp a=>I.pin p (aI _ (bQ _ a))
def b2p(hp:fH (model X.prog X.w) X.A X.env X.xe)(hc:X.calm=true)(hi:PI X tg iter wi)(hg:PG X tg g)(hb:PSs X body tb)
  (hs:∀x,gj iter X.env x=pure x:=by intro _;rfl):PS X (.For tg iter body [] pos) (tFor wi g tb):=by
 intro a s σ H D I h;refine wpAny_For (thn (hi a s σ H _ I h) λv s1 h1=>thn h1 λitv s2 h2=>?_) hs;obtain⟨it,z,Q,J,H2,e,I2,T,st2,S,W,⟨m0,w0⟩,F⟩:=h2;subst e;have p:∀{H':Hp},(∀b∈z,H' b=none)->∀b∈z,FpOk X a H' b:=λhn b hb=>⟨hn b hb,(S b hb).2⟩;refine codeAny_forLoop_any (λn Y=>∃i σ' H',Inv X a σ' H' Y/\Q i Y.heap/\(∀b∈z,H' b=none)/\W i n σ' H') ?_ m0 ⟨0,σ,H2,I2,st2,λb hb=>(S b hb).1,w0⟩;rintro n U ⟨i,σ3,B,R,E,C,w3⟩;rcases F i n σ3 B w3 with ⟨stop,qn⟩ |⟨go,N,hN,step⟩
 ·refine gF hp (thn (T.done X rfl rfl rfl hc i a U σ3 B X.xe R (p C) E stop) λr s4 Y=>Y.elim λG I4=>?_);subst G;exact iD ⟨σ3,B,I4,qn⟩
 ·refine gF hp (thn (T.item X rfl rfl rfl hc i a U σ3 B X.xe R (p C) E go) λr s4 Y=>Y.elim λu Y=>Y.elim λG h4=>?_);subst G;refine gF hp (thn h4 λ_ s5 ⟨x,H5,I5,r5,y5,y,M⟩=>(gF hp (thn (hg _ s5 σ3 H5 x u _ (I5.pinned (p M) (T.obj _ _ y)) r5 (step x H5 y5)) λ_ s6 ⟨σ6,H6,I6,q6⟩=>(gF hp (thn (hb _ s6 σ6 H6 _ I6 q6) λf L l=>?_)))));have q:∀{σ7:St}{j:Hp},Inv X _ σ7 j L->N σ7 j->∃m,m<n/\∃i σ' H',Inv X a σ' H' L/\Q i L.heap/\(∀b∈z,H' b=none)/\W i m σ' H':=λ{σ7 j} c t=>by
   obtain⟨m',hm,w7⟩:=hN σ7 j t;refine⟨m',hm,i+1,σ7,j,c.unpinned,T.keep _ _ _ y λb hb o e=>(c.pin _ (aI _ (aI _ (a1l hb e)))).1,λb hb=>?_,w7⟩;obtain⟨o,e,d⟩:=T.obj _ _ y b hb;exact (c.pin _ (aI _ (aI _ (a1l hb e)))).2.1
  cases f with
  |next=>obtain⟨σ7,j,c,t⟩:=l;exact q c t
  |cont=>obtain⟨σ7,j,c,t⟩:=l;exact q c t
  |brk=>obtain⟨σ7,j,c,l⟩:=l;exact⟨σ7,j,c.unpinned,l⟩
  |ret v=>obtain⟨x7,σ7,j,c,r7,l⟩:=l;exact⟨x7,σ7,j,c.unpinned,r7,l⟩
end
abbrev R2:=V->V->Hp->VK->Prop
def OpR(X:Cx)(f:Value->Value->Sem Value)(r:R2):Prop:=
 ∀(pins:List (Addr×Obj))(s:Shared)(σ:St)(H:Hp)(x y:V)(v u:Value)(Q:VK),Inv X pins σ H s->RelV x v->RelV y u->r x y H Q ->
  wpAny (model X.prog X.w) X.A (f v u) (EP X pins σ Q) X.xe s
def UnR(X:Cx)(f:Value->Sem Value)(r:V->Hp->VK->Prop):Prop:=
 ∀(pins:List (Addr×Obj))(s:Shared)(σ:St)(H:Hp)(x:V)(v:Value)(Q:VK),Inv X pins σ H s->RelV x v->r x H Q ->
  wpAny (model X.prog X.w) X.A (f v) (EP X pins σ Q) X.xe s
def CallR(X:Cx)(f:Value)(r:List V->Hp->VK->Prop):Prop:=
 ∀(pins:List (Addr×Obj))(s:Shared)(σ:St)(H:Hp)(xs:List V)(us:List Value)(Q:VK),Inv X pins σ H s->Vals xs us->r xs H Q ->
  wpAny (model X.prog X.w) X.A (call f us) (EP X pins σ Q) X.xe s
def TruR(X:Cx)(r:V->Hp->(Bool->Hp->Prop)->Prop):Prop:=
 ∀(pins:List (Addr×Obj))(s:Shared)(σ:St)(H:Hp)(x:V)(v:Value)(Q:Bool->Hp->Prop),Inv X pins σ H s->RelV x v->r x H Q ->
  wpAny (model X.prog X.w) X.A (truthy v) (TP X pins σ Q) X.xe s
def tOp(r:R2)(ta tb:TE):TE:=fun σ H Q=>ta σ H λx H1=>tb σ H1 λy H2=>r x y H2 Q
def tUn(r:V->Hp->VK->Prop)(ta:TE):TE:=fun σ H Q=>ta σ H λx H1=>r x H1 Q
def rI(C:Int->Int->Prop)(g:Int->Int->V):R2:=λx y H Q=>∃i j,x=.int i/\y=.int j/\C i j/\Q (g i j) H
def rI0(g:Int->Int->V):R2:=λx y H Q=>∃i j,x=.int i/\y=.int j/\Q (g i j) H
def rU(g:Int->V):V->Hp->VK->Prop:=λx H Q=>∃i,x=.int i/\Q (g i) H
section
variable{X:Cx}{a b c:Expr}{ta tb tc:TE}{pos:Pos}
def binT(ha:PE X a ta)(hb:PE X b tb){R:V->V->Hp->Prop}(I:Inv X pins σ H s)
  (h:ta σ H λx H1=>tb σ H1 λy H2=>R x y H2) {f:Value->Value->Sem Value}
  (hf:∀v u s2 x y H2,Inv X pins σ H2 s2->RelV x v->RelV y u->R x y H2->wpAny (model X.prog X.w) X.A (f v u) Q X.xe s2) :
  wpAny (model X.prog X.w) X.A (eval a X.env) (λv sj=>wpAny (model X.prog X.w) X.A (eval b X.env) (λu sv=>wpAny (model X.prog X.w) X.A (f v u) Q X.xe sv) X.xe sj) X.xe s:=by
 exact thn (ha pins s σ H _ I h) λv c ⟨x,j,i,g,n⟩=>(thn (hb pins c σ j _ i n) λu e ⟨y,m,d,k,l⟩=>(hf v u e x y m d g k l))
def b2q(ho:OpR X (fE op) r)(ha:PE X a ta)(hb:PE X b tb):PE X (.BinOp a op b pos) (tOp r ta tb):=λc s σ H Q I h=>wpAny_BinOp (binT ha hb I h λv u i x y f e d g q=>ho c i σ f x y v u Q e d g q)
def b4Y(ho:UnR X (iF op) r)(ha:PE X a ta):PE X (.UnaryOp op a pos) (tUn r ta):=λb s σ H Q I h=>UnaryOp_ (thn (ha b s σ H _ I h) λv d ⟨x,e,c,g,f⟩=>ho b d σ e x v Q c g f)
def opI{g:Int->Int->Int}
  (rule:∀(i j:Int)(t u:Tok)(s:Shared)(Q:Value->Shared->Prop)(E:Value->Shared->Prop),C i j->Q (.int (g i j) s.toks) { s with toks:=s.toks+1 }->wpAny (model X.prog X.w) X.A (f (.int i t) (.int j u)) Q E s) :
  OpR X f (rI C λi j=>.int (g i j)):=by
 intro b s σ H x y v u Q I a d h;obtain⟨i,j,rfl,rfl,e,q⟩:=h;obtain⟨t,rfl⟩:=a;obtain⟨c,rfl⟩:=d;exact rule i j t c s _ _ e ⟨.int _,H,I.tok _,⟨_,rfl⟩,q⟩
def opI0{g:Int->Int->Int}
  (rule:∀(i j:Int)(t u:Tok)(s:Shared)(Q:Value->Shared->Prop)(E:Value->Shared->Prop),Q (.int (g i j) s.toks) { s with toks:=s.toks+1 }->wpAny (model X.prog X.w) X.A (f (.int i t) (.int j u)) Q E s) :
  OpR X f (rI0 λi j=>.int (g i j)):=by
 intro a s σ H x y v u Q I d b h;obtain⟨i,j,rfl,rfl,q⟩:=h;obtain⟨t,rfl⟩:=d;obtain⟨c,rfl⟩:=b;exact rule i j t c s _ _ ⟨.int _,H,I.tok _,⟨_,rfl⟩,q⟩
def opB0{g:Int->Int->Bool}
  (rule:∀(i j:Int)(t u:Tok)(s:Shared)(Q:Value->Shared->Prop)(E:Value->Shared->Prop),Q (.bool (g i j)) s->wpAny (model X.prog X.w) X.A (f (.int i t) (.int j u)) Q E s) :
  OpR X f (rI0 λi j=>.bl (g i j)):=by
 intro d s σ H x y v u Q I c a h;obtain⟨i,j,rfl,rfl,q⟩:=h;obtain⟨t,rfl⟩:=c;obtain⟨b,rfl⟩:=a;exact rule i j t b s _ _ ⟨.bl _,H,I,rfl,q⟩
def CPow(i j:Int):Prop:=0<=j/\j<=1000000/\i.natAbs<2 ^ 64
def CMul(i j:Int):Prop:=(-(2 ^ 64)<i/\i<2 ^ 64)\/(-(2 ^ 64)<j/\j<2 ^ 64)
def CMul.ok(h:CMul i j):IntMulOk i j:=by
 rcases h with ⟨h1,h2⟩ |⟨h1,h2⟩
 ·exact .of_left (intBits_le_64 h1 h2)
 ·exact .of_right (intBits_le_64 h1 h2)
def op_add:OpR X (fE .Add) (rI0 λi j=>.int (i+j)):=opI0 λ_ _ _ _ _ _ _ q=>add_int q
def b2r:OpR X (fE .Sub) (rI0 λi j=>.int (i-j)):=opI0 λ_ _ _ _ _ _ _ q=>sub_int q
def b2s:OpR X (fE .Mult) (rI CMul λi j=>.int (i*j)):=opI λ_ _ _ _ _ _ _ a q=>mul_int q a.ok
def b2t:OpR X (fE .Mod) (rI (λ_ j=>0<j) λi j=>.int (i % j)):=opI λi j _ _ _ _ _ a q=>by
 have b:(0:Int)<j:=a;exact mod_int' (by omega) (by rw[Int.fmod_eq_emod_of_nonneg i (by omega)];exact q)
def b2u:OpR X (fE .Pow) (rI CPow λi j=>.int (i ^ j.toNat)):=opI λ_ _ _ _ _ _ _ a q=>pow_int_small a.1 a.2.1 a.2.2 q
def b0x:OpR X (gE .Add) (rI0 λi j=>.int (i+j)):=opI0 λ_ _ _ _ _ _ _ q=>iadd_int q
def unI{g:Int->Int}
  (rule:∀(i:Int)(t:Tok)(s:Shared)(Q:Value->Shared->Prop)(E:Value->Shared->Prop),Q (.int (g i) s.toks) { s with toks:=s.toks+1 }->wpAny (model X.prog X.w) X.A (f (.int i t)) Q E s) :
  UnR X f (rU λi=>.int (g i)):=by
 intro b s σ H x v Q I a h;obtain⟨i,rfl,q⟩:=h;obtain⟨t,rfl⟩:=a;exact rule i t s _ _ ⟨.int _,H,I.tok _,⟨_,rfl⟩,q⟩
def b2v:UnR X (iF .USub) (rU λi=>.int (-i)):=unI λ_ _ _ _ _ q=>neg_int q
end
noncomputable def scal:V->V->Bool
 |.non,.non=>true |.non,.int _=>true |.int _,.non=>true |.non,.bl _=>true |.bl _,.non=>true |.non,.str _=>true |.str _,.non=>true
 |.int _,.int _=>true |.bl _,.bl _=>true |.str _,.str _=>true |.byt _,.byt _=>true
 |.int _,.str _=>true |.str _,.int _=>true |.bl _,.str _=>true |.str _,.bl _=>true
 |_,_=>false
def rEq:R2:=λx y H Q=>scal x y=true/\Q (.bl (decide (x=y))) H
def rNe:R2:=λx y H Q=>scal x y=true/\Q (.bl (!decide (x=y))) H
def a6r:decide (V.int i=V.int j)=(i==j):=by
 rw[bY];simp
def a6s:decide (V.bl i=V.bl j)=(i==j):=by
 rw[bY];simp
def a6t:decide (V.str i=V.str j)=(i==j):=by
 rw[bY];simp
def a6u:decide (V.byt i=V.byt j)=(i.toList==j.toList):=by
 rw[bY];cases i;cases j;simp
section
variable{X:Cx}{a b c:Expr}{ta tb tc:TE}{pos:Pos}
def a0l(I:Inv X pins σ H s)(q:Q (.bl k) H)(e:k=k'):EP X pins σ Q (.bool k') s:=by
 subst e;exact⟨.bl k,H,I,rfl,q⟩
def op_eq:OpR X (fz .Eq) rEq:=by
 intro pins s σ H x y v u Q I rx ry h;obtain⟨hs,q⟩:=h;cases x with
 |non=>
  cases rx;cases y with
  |non=>cases ry;exact PySem.EqNone.eq_none_none (a0l I q (by simp))
  |bl j=>cases ry;exact PySem.EqNone.eq_none_bool (a0l I q (by simp))
  |int j=>obtain⟨t',rfl⟩:=ry;exact PySem.EqNone.eq_none_int (a0l I q (by simp))
  |str j=>obtain⟨t',rfl⟩:=ry;exact PySem.EqNone.eq_none_str (a0l I q (by simp))
  |_=>exact absurd (show false=true from hs) aR
 |bl i=>
  cases rx;cases y with
  |non=>cases ry;exact PySem.EqNone.eq_bool_none (a0l I q (by simp))
  |bl j=>cases ry;exact eq_bool (a0l I q a6s)
  |str j=>obtain⟨t',rfl⟩:=ry;exact PySem.EqMixed.eq_bool_str (a0l I q (by simp))
  |_=>exact absurd (show false=true from hs) aR
 |int i=>
  obtain⟨t,rfl⟩:=rx;cases y with
  |non=>cases ry;exact PySem.EqNone.eq_int_none (a0l I q (by simp))
  |int j=>obtain⟨t',rfl⟩:=ry;exact eq_int (a0l I q a6r)
  |str j=>obtain⟨t',rfl⟩:=ry;exact PySem.EqMixed.eq_int_str (a0l I q (by simp))
  |_=>exact absurd (show false=true from hs) aR
 |str i=>
  obtain⟨t,rfl⟩:=rx;cases y with
  |non=>cases ry;exact PySem.EqNone.eq_str_none (a0l I q (by simp))
  |bl j=>cases ry;exact PySem.EqMixed.eq_str_bool (a0l I q (by simp))
  |int j=>obtain⟨t',rfl⟩:=ry;exact PySem.EqMixed.eq_str_int (a0l I q (by simp))
  |str j=>obtain⟨t',rfl⟩:=ry;exact eq_str (a0l I q a6t)
  |_=>exact absurd (show false=true from hs) aR
 |byt i=>
  obtain⟨t,rfl⟩:=rx;cases y with
  |byt j=>obtain⟨t',rfl⟩:=ry;exact PySem.W.eq_bytes (a0l I q a6u)
  |_=>exact absurd (show false=true from hs) aR
 |_=>cases y<;>exact absurd (show false=true from hs) aR
def op_ne:OpR X (fz .NotEq) rNe:=by
 intro e s σ H x y v u Q I d a h;obtain⟨c,q⟩:=h;cases x with
 |non=>
  cases d;cases y with
  |non=>cases a;exact PySem.EqNone.ne_none_none (a0l I q (by simp))
  |bl j=>cases a;exact PySem.EqNone.ne_none_bool (a0l I q (by simp))
  |int j=>obtain⟨b,rfl⟩:=a;exact PySem.EqNone.ne_none_int (a0l I q (by simp))
  |str j=>obtain⟨b,rfl⟩:=a;exact PySem.EqNone.ne_none_str (a0l I q (by simp))
  |_=>exact absurd (show false=true from c) aR
 |bl i=>
  cases d;cases y with
  |non=>cases a;exact PySem.EqNone.ne_bool_none (a0l I q (by simp))
  |bl j=>cases a;exact ne_bool (a0l I q (congrArg not a6s))
  |str j=>obtain⟨b,rfl⟩:=a;exact PySem.EqMixed.ne_bool_str (a0l I q (by simp))
  |_=>exact absurd (show false=true from c) aR
 |int i=>
  obtain⟨t,rfl⟩:=d;cases y with
  |non=>cases a;exact PySem.EqNone.ne_int_none (a0l I q (by simp))
  |int j=>obtain⟨b,rfl⟩:=a;exact ne_int (a0l I q (congrArg not a6r))
  |str j=>obtain⟨b,rfl⟩:=a;exact PySem.EqMixed.ne_int_str (a0l I q (by simp))
  |_=>exact absurd (show false=true from c) aR
 |str i=>
  obtain⟨t,rfl⟩:=d;cases y with
  |non=>cases a;exact PySem.EqNone.ne_str_none (a0l I q (by simp))
  |bl j=>cases a;exact PySem.EqMixed.ne_str_bool (a0l I q (by simp))
  |int j=>obtain⟨b,rfl⟩:=a;exact PySem.EqMixed.ne_str_int (a0l I q (by simp))
  |str j=>obtain⟨b,rfl⟩:=a;exact ne_str (a0l I q (congrArg not a6t))
  |_=>exact absurd (show false=true from c) aR
 |byt i=>
  obtain⟨t,rfl⟩:=d;cases y with
  |byt j=>obtain⟨b,rfl⟩:=a;exact PySem.W.ne_bytes (a0l I q (congrArg not a6u))
  |_=>exact absurd (show false=true from c) aR
 |_=>cases y<;>exact absurd (show false=true from c) aR
def b4Z:OpR X (fz .Lt) (rI0 λi j=>.bl (decide (i<j))):=opB0 λ_ _ _ _ _ _ _ q=>lt_int q
def b40:OpR X (fz .LtE) (rI0 λi j=>.bl (decide (i<=j))):=opB0 λ_ _ _ _ _ _ _ q=>le_int q
def b41:OpR X (fz .Gt) (rI0 λi j=>.bl (decide (j<i))):=opB0 λ_ _ _ _ _ _ _ q=>gt_int q
def a6v:OpR X (fz .Lt) (λx y H Q=>∃i j,x=.str i/\y=.str j/\Q (.bl (decide (i.cps.toList<j.cps.toList))) H):=by
 intro b s σ H x y v u Q I a c h;obtain⟨i,j,rfl,rfl,q⟩:=h;obtain⟨t,rfl⟩:=a;obtain⟨d,rfl⟩:=c;exact lt_str (a0l I q rfl)
def op_in_str:OpR X (fz .In) (λx y H Q=>∃i j,x=.str i/\y=.str j/\Q (.bl (!(fv.Str.occurrences j i 0 j.length 1).isEmpty)) H):=by
 intro b s σ H x y v u Q I a c h;obtain⟨i,j,rfl,rfl,q⟩:=h;obtain⟨t,rfl⟩:=a;obtain⟨d,rfl⟩:=c;exact in_str (a0l I q rfl)
def op_isN:OpR X (fz .Is) (λx y H Q=>y=.non/\Q (.bl (decide (x=.non))) H):=by
 intro b s σ H x y v u Q I a c h;obtain⟨rfl,q⟩:=h;cases c;refine is_none_gen (a0l I q ?_);cases x<;>first
  | (cases a;rfl)
  | (obtain⟨t,rfl⟩:=a;rfl)
def b0y:OpR X (fz .IsNot) (λx y H Q=>y=.non/\Q (.bl (!decide (x=.non))) H):=by
 intro c s σ H x y v u Q I a b h;obtain⟨rfl,q⟩:=h;cases b;refine isnot_none_gen (a0l I q ?_);cases x<;>first
  | (cases a;rfl)
  | (obtain⟨t,rfl⟩:=a;rfl)
def OpR.or(h:OpR X f r)(h':OpR X f r'):OpR X f (λx y H Q=>r x y H Q\/r' x y H Q):=by
 intro a s σ H x y v u Q I c b q;rcases q with q |q
 ·exact h a s σ H x y v u Q I c b q
 ·exact h' a s σ H x y v u Q I c b q
def a4Y(b:Expr)(h:op≠.In:=by decide)(h2:op≠.NotIn:=by decide):gG op b=false:=by
 have a:(op==CmpOp.In)=false:=by grind
 have c:(op==CmpOp.NotIn)=false:=by grind
 cases b<;>simp[gG,a,c]
def b0z(ho:OpR X (fz op) r)(ha:PE X a ta)(hb:PE X b tb)(hm:gG op b=false):PE X (.Compare a [op] [b] pos) (tOp r ta tb):=λc s σ H Q I h=>wpAny_Compare1 (binT ha hb I h λv u d x y f g i e q=>ho c d σ f x y v u Q g i e q) hm
def b2w(t:TE):TT:=fun σ H Q=>t σ H λx H'=>∃k,x=.bl k/\Q k H'
def b0A(ho:OpR X (fz op) r)(ha:PE X a ta)(hb:PE X b tb)(hm:gG op b=false):PT X (.Compare a [op] [b] pos) (b2w (tOp r ta tb)):=by
 intro d s σ H Q I h;refine wpAny_isTrue_Compare1 (thn (ha d s σ H _ I h) λv l ⟨x,w,f,n,B⟩=>thn (hb d l σ w _ f B) λu t ⟨y,m,i,j,A⟩=>
  thn (ho d t σ m x y v u _ i n j A) λc C ⟨z,q,p,o,k,e,g⟩=>?_) hm
 subst e;cases o;exact gi ⟨q,p,g⟩
def a6w(r r':R2)(ta tb tc:TE):TE:=fun σ H Q=>ta σ H λx H1=>tb σ H1 λy H2=>r x y H2 λz H3=>∃k,z=.bl k /\
 (if k=true then tc σ H3 λw' H4=>r' y w' H4 Q else Q (.bl false) H3)
def a8m(ho:OpR X (fz op) r)(ho':OpR X (fz op') r')(ha:PE X a ta)(hb:PE X b tb)(hc:PE X c tc)
  (hm:iG [op,op'] [b,c]=false:=by with_unfolding_all rfl):PE X (.Compare a [op,op'] [b,c] pos) (a6w r r' ta tb tc):=by
 intro f s σ H Q I h;refine Compare_chain (thn (ha f s σ H _ I h) λv m ⟨x,t,J,p,N⟩=>chain_link (thn (hb f m σ t _ J N) λu o ⟨y,C,F,j,L⟩=>
  thn (ho f o σ C x y v u _ F p j L) λd A ⟨z,i,g,n,k,e,l⟩=>?_)) hm
 subst e;cases n;refine gi ?_;cases k with
 |false=>exact ite_ff ⟨.bl false,i,g,rfl,l⟩
 |true=>exact ite_tt (chain_last (thn (hc f A σ i _ g l) λM w ⟨D,q,B,G,E⟩=>ho' f w σ q y D u M Q B j G E))
def a8n(ho:OpR X (fz op) r)(ho':OpR X (fz op') r')(ha:PE X a ta)(hb:PE X b tb)(hc:PE X c tc)
  (hm:iG [op,op'] [b,c]=false:=by with_unfolding_all rfl):PT X (.Compare a [op,op'] [b,c] pos) (b2w (a6w r r' ta tb tc)):=by
 intro f s σ H Q I h;refine isTrue_chain (thn (ha f s σ H _ I h) λv B ⟨x,G,p,D,R⟩=>test_link (thn (hb f B σ G _ p R) λu q ⟨y,V,J,l,Y⟩=>
  thn (ho f q σ V x y v u _ J D l Y) λd S ⟨z,j,i,T,k,e,g⟩=>?_)) hm
 subst e;cases T;refine gi ?_;cases k with
 |false=>
  obtain⟨k',t,w⟩:=g;cases t;exact ite_ff ⟨j,i,w⟩
 |true=>
  refine ite_tt (test_last (thn (hc f S σ j _ i g) λN F ⟨U,o,C,L,m⟩=>thn (ho' f F σ o y U u N _ C l L m) λd' s5 ⟨z2,A,W,n,k2,M,E⟩=>?_));subst M;cases n;exact gi ⟨A,W,E⟩
def TruV(K:Fg)(x:V)(H:Hp)(k:Bool):Prop:=
 match x with
 |.non=>k=false
 |.bl b=>k=b
 |.int i=>k=(i != 0)
 |.str y=>y.length<=fi/\k=((y.length:Int) != 0)
 |.byt y=>y.size<=fi/\k=((y.size:Int) != 0)
 |.ref p=>(∃xs,SqL K H p xs/\k=!xs.isEmpty)\/(∃xs,SqT K H p xs/\k=!xs.isEmpty)\/∃kvs,H p=some (.dK kvs)/\k=!kvs.isEmpty
 |_=>False
def a5K{κ:Type}{kvs:List (κ×V)}{vs:List (κ×Value)}(r:KV kvs vs):(!vs.isEmpty)=!kvs.isEmpty:=by
 cases r<;>rfl
def a2Q(r:Vals xs its):(!its.toArray.isEmpty)=!xs.isEmpty:=by
 cases r<;>simp
def a3I:(fi:Nat)<2 ^ 63:=by rw[fC];decide
def b2x:TruR X (λx H Q=>∃k,TruV X.K x H k/\Q k H):=by
 intro u s σ H x v Q I c h;obtain⟨k,e,q⟩:=h;have z:=a3I;have A:fi=16777216:=fC;cases x with
 |non=>
  cases c;have a:k=false:=e;subst a;exact truthy_none ⟨H,I,q⟩
 |bl b=>
  cases c;have a:k=b:=e;subst a;exact gi ⟨H,I,q⟩
 |int i=>
  obtain⟨t,rfl⟩:=c;have a:k=(i != 0):=e;subst a;exact PySem.P.truthy_int ⟨H,I,q⟩
 |str y=>
  obtain⟨t,rfl⟩:=c;obtain⟨o,a⟩:=e;subst a;exact PySem.P.truthy_str (by lia) ⟨H,I.tok _,q⟩
 |byt y=>
  obtain⟨t,rfl⟩:=c;obtain⟨o,a⟩:y.size<=fi/\k=((y.size:Int) != 0):=e;subst a;exact PySem.W.truthy_bytes (by lia) ⟨H,I.tok _,q⟩
 |ref p=>
  cases c;have a:=e;rcases a with ⟨xs,hx,a⟩ |⟨xs,hx,a⟩ |⟨kvs,hx,a⟩
  ·subst a;obtain⟨l,r,g,j⟩:=I.list hx;have d:=r.length;exact wpAny_truthy_list g.isList (by simp only[aJ];lia) ⟨H,I.tok _,by rw[a2Q r];exact q⟩
  ·subst a;obtain⟨l,r,g,j⟩:=I.tuple hx;have d:=r.length;exact truthy_tuple g (by simp only[aJ];lia) ⟨H,I.tok _,by rw[a2Q r];exact q⟩
  ·subst a;obtain⟨j,n,f,r,m⟩:=I.hok p _ hx;have d:kvs.length=f.length:=Paired.length r;exact wpAny_truthy_dict n m (by lia) ⟨H,I.tok _,by rw[a5K r];exact q⟩
 |_=>exact (show False from e).elim
def a8o(ha:PE X a ta)(he:∀whole,isTrue a X.env whole=(do let v <- whole;gY a.pos;fV [v] (truthy v))) :
  PT X a (fun σ H Q=>ta σ H λx H'=>∃k,TruV X.K x H' k/\Q k H'):=λb s σ H Q I h=>isTrue_plain (thn (ha b s σ H _ I h) λv e ⟨x,f,d,g,c⟩=>b2x b e σ f x v Q d g c) (he _)
def op_add_str:OpR X (fE .Add) (λx y H Q=>∃i j,x=.str i/\y=.str j/\i.length+j.length<=fi/\Q (.str (i++j)) H):=by
 intro b s σ H x y v u Q I a d h;obtain⟨i,j,rfl,rfl,e,q⟩:=h;obtain⟨t,rfl⟩:=a;obtain⟨c,rfl⟩:=d;exact add_str (λc f=>⟨.str (i++j),H,I.tok _,⟨_,rfl⟩,q⟩) e
def a2c(r:Vals [x] us):∃u,us=[u]/\RelV x u:=by
 cases r with
 |cons r1 r2=>cases r2;exact⟨_,rfl,r1⟩
def a8p(r:Vals [x,y] us):∃u w',us=[u,w']/\RelV x u/\RelV y w':=by
 cases r with
 |cons r1 r2=>
  cases r2 with
  |cons r3 r4=>cases r4;exact⟨_,_,rfl,r1,r3⟩
def LenV(K:Fg)(x:V)(H:Hp)(n:Nat):Prop:=
 match x with
 |.str y=>y.length<=fi/\n=y.length
 |.byt y=>y.size<=fi/\n=y.size
 |.ref p=>(∃xs,SqL K H p xs/\n=xs.length)\/∃xs,SqT K H p xs/\n=xs.length
 |_=>False
def a8q:CallR X (.builtin "len") (λxs H Q=>∃x n,xs=[x]/\LenV X.K x H n/\Q (.int n) H):=by
 intro j s σ H a v Q I r h;obtain⟨x,n,rfl,e,q⟩:=h;obtain⟨u,rfl,d⟩:=a2c r;have o:=fC;cases x with
 |str y=>
  obtain⟨t,rfl⟩:=d;obtain⟨k,b⟩:=e;subst b;exact len_str (by omega) ⟨.int _,H,I.tok _,⟨_,rfl⟩,q⟩
 |byt y=>
  obtain⟨t,rfl⟩:=d;obtain⟨k,b⟩:=e;subst b;exact PySem.W.len_bytes (by omega) ⟨.int _,H,I.tok _,⟨_,rfl⟩,q⟩
 |ref p=>
  cases d;have b:=e;rcases b with ⟨a,hx,b⟩ |⟨a,hx,b⟩
  ·subst b;obtain⟨i,g,f,l⟩:=I.list hx;have c:=g.length;exact Calls.call_len_list f.isList (by grind) ⟨.int a.length,H,I.tok _,⟨_,by simp only[aJ];rw[c]⟩,q⟩
  ·subst b;obtain⟨i,g,f,l⟩:=I.tuple hx;have c:=g.length;exact len_tuple f (by grind) ⟨.int a.length,H,I.tok _,⟨_,by simp only[aJ];rw[c]⟩,q⟩
 |_=>exact (e).elim
end
structure ObjM (h:Heap) (x dx C:Addr) (mA:Str->Option Value):Prop where
 obj:h.get? x=some (PySem.W.instObj C dx)
 ns:h.Ns1 dx mA
 ne:dx≠x
def a6x{h:Heap}(n:h.Ns1 dx mA):∃od,h.get? dx=some od/\∀name,PySem.W.lookIn name od=some (mA name):=by
 obtain⟨o,d,m,l,j,f,_,g⟩:=n;refine⟨o,l,λc=>?_⟩;have e:=g c;unfold nsFind findBy at e;rw[<- Array.find?_toList]at e;unfold PySem.W.lookIn;rw[j];dsimp only
 split
 ·simp_all
 ·rename_i q
  rw[q]at e;have a:d.toList.any (·.refKey)=false:=by
   rw[cK];intro y k;obtain⟨z,t,b⟩:=f y (dW.mp k);simp[jd.refKey,b]
  have i:¬ d.toList.any (·.refKey)=true:=a▸aR;rw[if_neg i];exact congrArg some e
def ObjM.look(I:ObjM h x dx C mA):∃od,PySem.W.InstAt h x (PySem.W.instObj C dx) C (some od)/\∀name,PySem.W.lookIn name od=some (mA name):=
 let ⟨od,ho,hl⟩:=a6x I.ns
 ⟨od,⟨I.obj,rfl,rfl,ho⟩,hl⟩
section
variable{prog:fq}{w:World}{A:Around}{E:Value->Shared->Prop}{s:Shared}{K:Fg}{x dx C f:Addr}{mA:Str->Option Value}{name:Str}{v:Value}
end
section
variable{P:fq}{w:World}{H H':Hp}{h h':Heap}{a C dx:Addr}{fs fs':List (Str×V)}
def b0B(hok:HOk P w H h)(e:H a=some (.ins C dx fs)):∃mA,ObjM h a dx C mA/\(∀f,RelO (fs.lookup f) (mA f))/\PySem.Within mA (fs.map (·.1))/\fs.length<=1000/\H dx=some (.own a):=by
 obtain⟨d,z,c,g,b,n,r,q⟩:=(hok a _ e);exact⟨b,⟨g,n,c⟩,r,q,z,d⟩
end
structure Cls (K:Fg) (C:Addr):Prop where
 pg:PySem.W.plainGet K C Str.empty=true
 hd:PySem.W.hasDictIn K C=true
 po:PySem.W.plainOver K C=true
 sa:PySem.W.findIn K (.ref C) "__setattr__"=some (some (.builtin "object.__setattr__"))
def Cls.get{K:Fg}(c:Cls K C)(f:Str):PySem.W.plainGet K C f=true:=c.pg
def b2y(K:Fg)(C:Addr)(f:Str):Prop:=PySem.W.findIn K (.ref C) f=some none
structure Meth (K:Fg) (C:Addr) (m:Str) (f:Addr):Prop where
 at_:PySem.W.findIn K (.ref C) m=some (some (.ref f))
 fn:PySem.W.isFn K (.ref f)=true
 kp:PySem.W.keepIn K (.ref f)=true
section
variable{X:Cx}{pins:List (Addr×Obj)}{σ:St}{H:Hp}{s:Shared}{a C dx:Addr}{fs:List (Str×V)}{f:Str}{v:V}{A:Around}{E:Value->Shared->Prop}
def Inv.made(I:Inv X pins σ H s):Inv X pins σ (upd (upd H s.heap.objs.size (.own (s.heap.objs.size+1))) (s.heap.objs.size+1) (.ins C s.heap.objs.size []))
  { s with heap:=(s.heap.push PySem.W.emptyDict).push (PySem.W.instObj C s.heap.objs.size) }:=by
 have c:(s.heap.push PySem.W.emptyDict).get? s.heap.objs.size=some PySem.W.emptyDict:=Heap.get?_push_size s.heap rfl;have i:((s.heap.push PySem.W.emptyDict).push (PySem.W.instObj C s.heap.objs.size)).get? (s.heap.objs.size+1)=some (PySem.W.instObj C s.heap.objs.size):=by
  have:=Heap.get?_push_size (s.heap.push PySem.W.emptyDict) (o:=PySem.W.instObj C s.heap.objs.size) rfl
  rwa [Heap.size_push]at this
 have g:(s.heap.push PySem.W.emptyDict).Ns s.heap.objs.size _:=⟨PySem.W.emptyDict,#[],_,c,rfl,(λe h=>absurd h (by simp)),λ_=>rfl⟩;refine (I.laid (o:=.own (s.heap.objs.size+1)) (t':=s.toks) (λb u q=>Heap.get?_push_of_some _ q) (af _) ⟨_,c⟩).laid (t':=s.toks) (λb u q=>Heap.get?_push_of_some _ q) (bZ (Heap.size_push _ _)) ?_;have d:s.heap.objs.size≠s.heap.objs.size+1:=ao (de _);refine⟨by rw[a0d d,a0e],aK _,d,i,λ_=>none,(Heap.Ns1.of_empty g).at λo q=>Heap.get?_push_of_some _ q,λ_=>True.intro,λy f=>absurd rfl f⟩
end
section
variable{X:Cx}{o e value:Expr}{f:Str}{pos pos' tpos:Pos}{ta tv:TE}
end
section
variable{X:Cx}{pins:List (Addr×Obj)}{σ:St}{H:Hp}{s:Shared}{A:Around}{E:Value->Shared->Prop}{Q:Value->Shared->Prop}{c:Value}{b:Bool}
inductive TyOf (K:Fg) (H:Hp):V->Value->Prop where
 |non:TyOf K H .non (.type "NoneType")
 |bl (x:Bool):TyOf K H (.bl x) (.type "bool")
 |int (i:Int):TyOf K H (.int i) (.type "int")
 |str (x:Str):TyOf K H (.str x) (.type "str")
 |flt (x:UInt64):TyOf K H (.flt x) (.type "float")
 |lst {a:Addr} {xs:List V} (e:H a=some (.lst xs)):TyOf K H (.ref a) (.type "list")
 |frz {a:Addr} {o:Obj} {xs:List V} (e:H a=some (.frz o (.lst xs))):TyOf K H (.ref a) (.type "list")
 |tup {a:Addr} {xs:List V} (e:H a=some (.tup xs)):TyOf K H (.ref a) (.type "tuple")
 |dK {a:Addr} {kvs:List (Key×V)} (e:H a=some (.dK kvs)):TyOf K H (.ref a) (.type "dict")
 |dT {a:Addr} {kvs:List (List Key×V)} (e:H a=some (.dT kvs)):TyOf K H (.ref a) (.type "dict")
 |ins {a C dx:Addr} {fs:List (Str×V)} (e:H a=some (.ins C dx fs)) (cl:Cls K C) (ha:PySem.W.findIn K (.ref C) "__class__"=some (some (.builtin "object.__class__")))
   (hn:PySem.W.specialIn K (.builtin "object.__class__") "__get__"=some (some (.builtin "getset_descriptor.__get__"))) (htk:PySem.W.takesIn K (.builtin "object.__class__")=some true)
   (hm:PySem.W.mroIn K C (.type "object")=some true):TyOf K H (.ref a) (.ref C)
def a6y(I:Inv X pins σ H s)(rx:RelV x u)(ty:TyOf X.K H x t)(e:PySem.W.kitOne X.K t c=some b)(h:∀tk,Q (.bool b) { s with toks:=tk }) :
  wpAny (model X.prog X.w) A (call (.builtin "isinstance") [u,c]) Q E s:=by
 cases ty with
 |non=>cases (rx);exact PySem.W.kia_one PySem.W.kitx_none I.kIn True.intro e (λz=>nomatch z) h
 |bl y=>cases (rx);exact PySem.W.kia_one PySem.W.kitx_bool I.kIn True.intro e (λz=>nomatch z) h
 |int i=>obtain⟨t,q⟩:=(rx);cases q;exact PySem.W.kia_one PySem.W.kitx_int I.kIn True.intro e (λz=>nomatch z) h
 |str y=>obtain⟨t,q⟩:=(rx);cases q;exact PySem.W.kia_one PySem.W.kitx_str I.kIn True.intro e (λz=>nomatch z) h
 |flt y=>obtain⟨t,q⟩:=(rx);cases q;exact PySem.W.kia_one PySem.W.kitx_float I.kIn True.intro e (λz=>nomatch z) h
 | @lst a f ea=>
  cases (rx);obtain⟨_,_,n,_,d⟩:=(I.hok a _ ea);exact PySem.W.kia_one PySem.W.kitx_list I.kIn ⟨_,d,rfl⟩ e (λz=>nomatch z) h
 | @frz a ob f ea=>
  cases (rx);obtain⟨_,_,_,n,_,d⟩:=(I.hok a _ ea);exact PySem.W.kia_one PySem.W.kitx_list I.kIn ⟨_,d,rfl⟩ e (λz=>nomatch z) h
 | @tup a f ea=>
  cases (rx);obtain⟨_,_,_,p⟩:=(I.hok a _ ea);obtain⟨o,d,g,_⟩:=p;exact PySem.W.kia_one PySem.W.kitx_tuple I.kIn ⟨o,d,g⟩ e (λz=>nomatch z) h
 | @dK a kvs ea=>
  cases (rx);obtain⟨_,_,l,_,p⟩:=(I.hok a _ ea);obtain⟨o,j,k,d,g,_⟩:=p;exact PySem.W.kia_one PySem.W.kitx_dict I.kIn ⟨o,d,g.1⟩ e (λz=>nomatch z) h
 | @dT a kvs ea=>
  cases (rx);obtain⟨_,_,f,_,o,j,k,d,g,_⟩:=(I.hok a _ ea);exact PySem.W.kia_one PySem.W.kitx_dict I.kIn ⟨o,d,g.1⟩ e (λz=>nomatch z) h
 | @ins a C dx fs ea cl ha hn htk hm=>
  cases (rx);obtain⟨r,O,_⟩:=b0B I.hok ea;obtain⟨m,J,_⟩:=O.look;exact PySem.W.kia_one (PySem.W.kitx_own (cl.get _) cl.hd ha hn htk hm) I.kIn J e (λz=>nomatch z) h
end
structure Room (k:Nat) (A:Around):Prop where
 hd:A.handled=none
 dp:A.depth+3*k+5<recursionLimit
 un:A.units+16*k+200<cLine
def Room.mono(r:Room k A)(h:j<=k):Room j A:=⟨r.hd,by have:=r.dp;lia,by have:=r.un;lia⟩
def Room.deeper(r:Room (k+1) A)(env:Env):Room k (A.deeper env):=
 ⟨r.hd,by have:=r.dp;show A.depth+1+3*k+5<_;lia,by have:=r.un;show A.units+3+16*k+200<_;lia⟩
def Room.in1(r:Room (k+1) A):Room k A.in1:=
 ⟨r.hd,by have:=r.dp;show A.depth+3*k+5<_;lia,by have:=r.un;show A.units+1+16*k+200<_;lia⟩
def Room.depth(r:Room k A):A.depth<recursionLimit:=by have:=r.dp;omega
def Room.units(r:Room k A):A.units+64<cLine:=by have:=r.un;omega
def tNil:TA:=λ_ H Q=>Q [] H
def b42(ta:TE)(tr:TA):TA:=fun σ H Q=>ta σ H λx H1=>tr σ H1 λxs H2=>Q (x::xs) H2
section
variable{X:Cx}{e:Expr}{es:List Expr}{te:TE}{t:TA}{pos:Pos}
def a3J:PA X [] tNil:=λ_ _ _ _ H Q I h=>Calls.spliced_nil ⟨[],H,I,.nil,h⟩
def a2q(ha:PE X e te)(hr:PA X es t)(hs:fu (e::es) X.env=(false,eval e X.env)::fu es X.env):PA X (e::es) (b42 te t):=by
 intro b a s σ H Q I h;rw[hs];exact Calls.spliced_cons (thn (ha a s σ H _ I h) λu j ⟨x,d,k,c,g⟩=>(thn (hr b a j σ d _ k g) λp o ⟨i,f,l,m,n⟩=>⟨x::i,f,l,.cons c m,n⟩))
def tTup(t:TA):TE:=fun σ H Q=>t σ H λxs H1=>xs.length<=fi/\∀p,H1 p=none->Q (.ref p) (upd H1 p (.tup xs))
def tLst(t:TA):TE:=fun σ H Q=>t σ H λxs H1=>xs.length<=fi/\∀p,H1 p=none->Q (.ref p) (upd H1 p (.lst xs))
def b2z(h:PA X es t):PE X (.Tuple es x1 pos) (tTup t):=by
 intro c s σ H Q I i;refine wpAny_Tuple_spliced (thn (h pos c s σ H _ I i) λk a ⟨g,d,f,r,z,q⟩=>⟨by rw[<- r.length];exact z,?_⟩);have j:=f.hok.fresh (af _);refine⟨.ref a.heap.objs.size,upd d a.heap.objs.size _,f.laid (λb u e=>Heap.get?_push_of_some _ e) (af _) ?_,rfl,q _ j⟩;exact⟨z,k,r,⟨_,Heap.get?_push_size _ rfl,rfl,_,rfl⟩⟩
def b2A(h:PA X es t):PE X (.List es pos) (tLst t):=by
 intro c s σ H Q I j;refine wpAny_List_spliced (thn (h pos c s σ H _ I j) λi a ⟨k,d,f,r,z,q⟩=>⟨by rw[<- r.length];exact z,?_⟩);have g:=f.hok.fresh (af _);refine⟨.ref a.heap.objs.size,upd d a.heap.objs.size _,f.laid (λb u e=>Heap.get?_push_of_some _ e) (af _) ?_,rfl,q _ g⟩;exact⟨z,i,0,r,Heap.get?_push_size _ rfl⟩
end
abbrev Sp:=List V->Hp->VK->XK->Prop
abbrev CXT:=List Env->Hp->Shared->XK->Value->Shared->Prop
structure Env0 (P:fq) (w:World) (K:Fg) (mg:Str->Option Value) (base:Heap) (A:Around) (outer:List Env) (s:Shared) (H:Hp):Prop where
 frames:A.frames=some outer
 mod:Mod K mg base
 bs:∀b o,base.get? b=some o->s.heap.get? b=some o/\H b=none
 bsz:base.objs.size<=s.heap.objs.size
 funs:s.heap.FunFrames base outer
 frf:∀b∈frs outer,H b=none
 hok:HOk P w H s.heap
 bare:f7 s.gens
def CE(outer:List Env)(P:fq)(w:World)(H:Hp)(s:Shared)(Q:VK)(u:Value)(s':Shared):Prop:=
 ∃v H',s'.os=s.os/\f7 s'.gens/\Un (frs outer) [] H H' s.heap s'.heap/\HOk P w H' s'.heap/\RelV v u/\Q v H'
def CR(CX:CXT)(outer:List Env)(P:fq)(w:World)(H:Hp)(s:Shared)(Q:VK)(E:XK)(r:Result)(s':Shared):Prop:=
 match r with
 |.ok (.ret u)=>CE outer P w H s Q u s'
 |.ok _=>False
 |.error e=>CX outer H s E e s'
structure FnOk (P:fq) (w:World) (K:Fg) (mg:Str->Option Value) (base:Heap) (CX:CXT) (k:Nat) (f:Addr) (fd:fK) (ps:List Str) (sp:Sp):Prop where
 len:∀vs H Q E,sp vs H Q E->vs.length=ps.length
 run:∀(A:Around)(outer:List Env)(s:Shared)(H:Hp)(args:Args)(us:List Value)(vs:List V)(Q:VK)(E:XK),Room k A->Env0 P w K mg base A outer s H->gZ s fd args (ps.zip us)->Vals vs us->sp vs H Q E ->
  f9 (model P w) A (.call (.ref f) args) (CR CX outer P w H s Q E) s
def FnOk.mono{K:Fg}(F:FnOk P w K mg base CX j f fd ps sp)(h:j<=k) :
  FnOk P w K mg base CX k f fd ps sp:=⟨F.len,λA a s H b c e Q E d=>F.run A a s H b c e Q E (d.mono h)⟩
def FnOk.imp{K:Fg}(F:FnOk P w K mg base CX k f fd ps sp)
  (h:∀vs H Q E,sp' vs H Q E->sp vs H Q E):FnOk P w K mg base CX k f fd ps sp':=
 ⟨λb H Q E q=>F.len b H Q E (h _ _ _ _ q),λA a s H c d b Q E j i g l e=>F.run A a s H c d b Q E j i g l (h _ _ _ _ e)⟩
def Env0.in1{K:Fg}(e:Env0 P w K mg base A outer s H) :
  Env0 P w K mg base A.in1 outer s H:=⟨e.frames,e.mod,e.bs,e.bsz,e.funs,e.frf,e.hok,e.bare⟩
section
variable{X:Cx}{pins:List (Addr×Obj)}{σ:St}{H:Hp}{s s':Shared}
def Inv.env0(I:Inv X pins σ H s):Env0 X.prog X.w X.K X.mg X.base X.A X.stack s H:=
 ⟨I.ok.frames,I.ok.mod,I.bs,ax I.ok.bsz I.sz,I.stack,I.stkFree,I.hok,I.bare⟩
def Inv.after(I:Inv X pins σ H s)(h:CE X.stack X.prog X.w H s Q u s'):EP X pins σ Q u s':=by
 obtain⟨v,H',j,a,f,c,r,q⟩:=h;obtain⟨i,g,d,t,e⟩:=s';obtain rfl:e=s.os:=j;exact⟨v,H',I.call f c a (λb z=>absurd z (by simp)),r,q⟩
end
def b43(sp:Sp)(dvs:List V)(E:XK)(t:TA):TE:=fun σ H Q=>t σ H λvs H1=>sp (vs++dvs) H1 Q E
def Binds(K:Fg)(fd:fK)(ps:List Str)(ds:List Value):Prop:=
 ∀(s:Shared)(us:List Value),K.In s.heap->(us++ds).length=ps.length->gZ s fd ⟨us,[]⟩ (ps.zip (us++ds))
def Binds.all{K:Fg}(h:∀us:List Value,us.length=ps.length->g9 fd ⟨us,[]⟩=pure (ps.zip us)):Binds K fd ps []:=λs b _ a=>by
 rw[aV]at a ⊢;exact .of_eq (h b a)
def a6z(CX:CXT)(X:Cx)(E:XK):Prop:=∀(pins:List (Addr×Obj))(σ:St)(H:Hp)(s:Shared)(e:Value)(s':Shared),Inv X pins σ H s->CX X.stack H s E e s'->X.xe e s'
section
variable{X:Cx}{CX:CXT}{k:Nat}{f C:Addr}{fd:fK}{ps:List Str}{sp:Sp}{dvs:List V}{ds:List Value}{E:XK}{x m:Str}{p pos apos:Pos}{e o:Expr}{es:List Expr}{ta:TE}{t:TA}
def b2B(F:FnOk X.prog X.w X.K X.mg X.base CX k f fd ps sp)(hr:Room k X.A)(hb:Binds X.K fd ps ds)(hd:Vals dvs ds)(hx:a6z CX X E)
  (I:Inv X pins σ H s) (r:Vals vs us) (h:sp (vs++dvs) H Q E):wpAny (model X.prog X.w) X.A (call (.ref f) us) (EP X pins σ Q) X.xe s:=by
 have b:=r.append hd;have d:(us++ds).length=ps.length:=b.length▸F.len _ _ _ _ h;refine iH (gn (F.run X.A X.stack s H ⟨us,[]⟩ (us++ds) _ Q E hr I.env0 (hb s us I.kIn d) b h) λr c a=>?_);cases r with
 |error e=>exact hx pins σ H s e c I a
 |ok fl=>
  cases fl with
  |ret u=>exact I.after a
  |next=>exact ap a
  |brk=>exact ap a
  |cont=>exact ap a
def b0C(F:FnOk X.prog X.w X.K X.mg X.base CX k f fd ps sp)(hr:Room k X.A)(hg:Gl X x)(hm:X.mg x=some (.ref f))(hk:PySem.W.keepIn X.K (.ref f)=true)(hb:Binds X.K fd ps ds)(hd:Vals dvs ds)(hx:a6z CX X E)
  (ha:PA X (e::es) t) (hdb:(x==("__debug__":Str))=false) (he:fu (e::es) X.env=(false,eval e X.env)::fu es X.env) (hpl:(backTo pos (fu es X.env)).any (·.1)=false) :
  PE X (.Call (.Name x p) (e::es) [] pos) (b43 sp dvs E t):=by
 intro a s σ H Q I h;refine iI (b0n I hg hm ?_ hdb);refine PySem.W.callWith_K I.ok.mod.kin hk (thn (ha pos a s σ H _ I h) λi d ⟨c,g,b,r,q⟩=>⟨b.kIn,?_⟩) he hpl;exact b2B F hr hb hd hx b r q
end
section
variable{X:Cx}{CX:CXT}{k:Nat}{f C:Addr}{fd:fK}{ps ks:List Str}{sp:Sp}{E:XK}{x m:Str}{p pos apos kpos:Pos}{e o:Expr}{es:List Expr}{kws:List gH}{te ta:TE}{t tk:TA}{nm:Option Str}
variable{g:List Value->List Value->List Value}{gV:List V->List V->List V}
end
structure FnScope (N P:List Str) (sc:Scope):Prop where
 kind:sc.kind=.function
 co:sc.isCoroutine=false
 gen:sc.isGenerator=false
 nd:N.Nodup
 pre:N.take P.length=P
 par:∀x∈P,sc.names.lookup x=some .local\/sc.names.lookup x=some .cell
 nofree:∀y∈sc.names,y.2≠.free
def a6A{kindOf:Str->Option fA}:∀{binds:List (Str×Value)}{m:Str->Option Value},(∀v,(x,v)∉binds)->bindL kindOf binds m x=m x:=by intro z0;induction z0 with
 |nil=>intro _ _;exact rfl
 |cons q0 r I0=>
  obtain⟨n,v⟩:=q0;intro m h;unfold bindL;rw[I0 λw a=>h w (bF _ a)]
  split
  ·have:x≠n:=by rintro rfl;exact h v aX
   simp[this]
  ·rfl
def a6B{kindOf:Str->Option fA}:∀{binds:List (Str×Value)}{m:Str->Option Value},(∀v,(x,v)∉binds)->bindC kindOf binds m x=m x:=by intro z0;induction z0 with
 |nil=>intro _ _;exact rfl
 |cons q0 r I0=>
  obtain⟨n,v⟩:=q0;intro m h;unfold bindC;rw[I0 λw a=>h w (bF _ a)]
  split
  ·rfl
  ·have:x≠n:=by rintro rfl;exact h v aX
   simp[this]
theorem a3K{kindOf:Str->Option fA}:∀{P:List Str}{vs:List Value}{i:Nat}{m:Str->Option Value},P.Nodup->P[i]?=some x->vs[i]?=some v->kindOf x=some .local ->
  bindL kindOf (P.zip vs) m x=some v
 |[],_,_,_,_,h,_,_=>by simp at h
 |_::_,[],_,_,_,_,h,_=>by simp at h
 |p::P,w::vs,0,m,nd,h1,h2,hk=>by
  simp at h1 h2;subst h1;subst h2
  show bindL kindOf (_::P.zip vs) m p=_
  unfold bindL;rw[a6A λv a=>(bp.mp nd).1 (b5 a).1,if_pos hk];simp
 |p::P,w::vs,i+1,m,nd,h1,h2,hk=>by
  unfold bindL;exact a3K (bp.mp nd).2 (by simpa using h1) (by simp_all) hk
theorem a3L{kindOf:Str->Option fA}:∀{P:List Str}{vs:List Value}{i:Nat}{m:Str->Option Value},P.Nodup->P[i]?=some x->vs[i]?=some v->kindOf x≠some .local ->
  bindC kindOf (P.zip vs) m x=some v
 |[],_,_,_,_,h,_,_=>by simp at h
 |_::_,[],_,_,_,_,h,_=>by simp at h
 |p::P,w::vs,0,m,nd,h1,h2,hk=>by
  simp at h1 h2;subst h1;subst h2
  show bindC kindOf (_::P.zip vs) m p=_
  unfold bindC;rw[a6B λv a=>(bp.mp nd).1 (b5 a).1,if_neg hk];simp
 |p::P,w::vs,i+1,m,nd,h1,h2,hk=>by
  unfold bindC;exact a3L (bp.mp nd).2 (by simpa using h1) (by simp_all) hk
noncomputable def start(N:List Str)(vs:List V):St:=vs.map some++cL (N.length-vs.length) none
noncomputable def cxOf(CX:CXT)(P:fq)(w:World)(K:Fg)(mg:Str->Option Value)(base:Heap)(N:List Str)(qual:Str)(scope:Scope)(f:Addr)(cd:Value)(A:Around)(outer:List Env)(s:Shared)(H:Hp)(E:XK):Cx where
 prog:=P
 w:=w
 K:=K
 mg:=mg
 base:=base
 A:=A.deeper (envOfC qual scope s.heap.objs.size f cd)
 N:=N
 s₀:=s
 H₀:=H
 env:=envOfC qual scope s.heap.objs.size f cd
 outer:=outer
 stack:=envOfC qual scope s.heap.objs.size f cd::outer
 ex:=[]
 calm:=true
 fn:=λ_=>true
 pn:=[]
 xe:=λe s'=>wpAny (model P w) (A.deeper (envOfC qual scope s.heap.objs.size f cd)) (leaving (envOfC qual scope s.heap.objs.size f cd) e) (λ_ s''=>CX outer H s E e s'') (λe' s''=>CX outer H s E e' s'') s'
def a2g{sc:Scope}(h:sc.names.lookup x=some .cell):∃c,(fB n sc.names []).lookup x=some c:=by
 exact dX.mp (PySem.W.cellsFrom_some sc.names n [] (.inl h))
def a3M{K:Fg}
  (S:FnScope N ps scope) (hd:A.handled=none) (e0:Env0 P w K mg base A outer s H) (hl:vs.length=ps.length) (r:Vals vs us)
  (x:InCallC s s.heap.objs.size (bindL (envOfC qual scope s.heap.objs.size f cd).kindOf (ps.zip us) λ_=>none) (fB (s.heap.objs.size+1) scope.names []) (bindC (envOfC qual scope s.heap.objs.size f cd).kindOf (ps.zip us) λ_=>none) s1) :
  Inv (cxOf CX P w K mg base N qual scope f cd A outer s H E) [] (start N vs) H s1:=by
 have G:ps.length<=N.length:=by have:=congrArg bA S.pre;rw[aA]at this;lia
 obtain⟨m,J,rfl,C⟩:=x.done;have l:∀b:Addr,b∉(cxOf CX P w K mg base N qual scope f cd A outer s H E).ex:=λb z=>absurd (show b∈([]) from z) (by simp);refine⟨⟨e0.mod,S.kind,rfl,rfl,af _,λy z c m d=>?_,λy g=>?_,λy c _ h=>?_,λ_=>hd,Around.frames_deeper e0.frames,.inr ⟨rfl,rfl⟩,λb z=>absurd z (l b),e0.bs,e0.bsz,λb _ _=>l b,λb z=>absurd z (l b),e0.funs,e0.frf⟩,
  rfl,e0.bare,Un.kept C,⟨_,x.toInCall.ns,λi y v m d I=>?_⟩,λy c h=>⟨_,x.cell y c h⟩,e0.hok.fresh (af _),λy c h=>?_,λp j=>absurd (show p∈([]) from j) (by simp),e0.hok.kept C,?_⟩
 ·exact name_of_addr x.apart (PySem.mem_of_lookup m) (PySem.mem_of_lookup d)
 ·have g:=g;rcases g with g |g
  ·exact a2g g
  ·exact absurd rfl (S.nofree _ (PySem.mem_of_lookup g))
 ·exact a9 (x.above y c (PySem.mem_of_lookup h))
 ·have o:i<vs.length:=by
   unfold start at d
   by_cases o:i<vs.length
   ·exact o
   ·rw[bR (by simp_all)]at d;rw[List.getElem?_replicate]at d
    split at d<;>cases d
  have F:vs[i]?=some v:=by
   unfold start at d;rw[bS (by simpa using o),aq]at d;cases e:vs[i]? with
   |none=>rw[e]at d;cases d
   |some a=>rw[e]at d;cases d;rfl
  obtain⟨u,B,D⟩:=r.get F;have j:ps[i]?=some y:=by
   rw[<- S.pre,List.getElem?_take_of_lt (by lia)];exact m
  have t:ps.Nodup:=S.pre▸S.nd.sublist (dg _ _);refine⟨u,D,?_⟩;rcases S.par y (aD j) with k |k
  ·exact .inl ⟨k,a3K t j B k⟩
  ·obtain⟨c,e⟩:=a2g k;refine .inr ⟨.inl k,c,e,?_⟩;have q:=x.cell y c e;rw[a3L t j B (by show scope.names.lookup y≠_;rw[k];decide)]at q;exact q
 ·exact e0.hok.fresh (a9 (x.above y c (PySem.mem_of_lookup h)))
 ·unfold start
  show _=N.length
  rw[ay,ae,List.length_replicate]
  lia
def b2C{K:Fg}{dV kV doc pm cdv ct oc:Value}
 (lk:K.lookup f=some ⟨oc,od,.func (PySem.W.fnOf name qual params body scope dV kV doc pm an cdv ct),osl⟩) (hcd:PySem.W.codeIn K cdv qual=true) (S:FnScope N ps scope)
    (len:∀vs H Q E,sp vs H Q E->vs.length=ps.length)
    (hbody:∀(A:Around)(outer:List Env)(s:Shared)(H:Hp)(vs:List V)(Q:VK)(E:XK),Room k (A.deeper (envOfC qual scope s.heap.objs.size f cdv))->sp vs H Q E ->
      ∃t,PSs (cxOf CX P w K mg base N qual scope f cdv A outer s H E) body t/\t { nx:=λ_ H'=>Q .non H',rt:=Q } (start N vs) H) :
    FnOk P w K mg base CX (k+1) f (PySem.W.fnOf name qual params body scope dV kV doc pm an cdv ct) ps sp:=by
  refine⟨len,λA a s H L F m Q E z g R r i=>?_⟩;have C:=g.mod.kin.keeps λb o e=>(g.bs b o e).1;have h:∀y∈ps.zip F,scope.names.lookup y.1=some .local\/(scope.names.lookup y.1=some .cell/\((fB (s.heap.objs.size+1) scope.names []).lookup y.1).isSome=true):=by
    rintro⟨n,v⟩ G;rcases S.par n (b5 G).1 with q |q
    · exact .inl q
    · exact .inr ⟨q,PySem.W.cellsFrom_some _ _ _ (.inl q)⟩
  refine codeAny_call_function z.depth (C _ _ lk) rfl S.co S.gen rfl (PySem.W.codeRec_of C hcd) (R _ _ _ _ (wpAny_newFunctionEnv_cells S.kind h λaa Y B x=>?_));subst Y;refine⟨(g.mod.nolimit.keeps λb o e=>(g.bs b o e).1).keeps x.toInCall.keep,codeAny_func ?_⟩;obtain⟨t,T,U⟩:=hbody A a s H m Q E (z.deeper _) i;have I:Inv (cxOf CX P w K mg base N qual scope f cdv A a s H E) [] _ H B:=a3M S z.hd g (len _ _ _ _ i) r x;refine fD (T [] B _ H _ I U) (λX p c=>?_) λe p c=>c;have j:∀{σ':St}{d:Hp}{v:V}{u:Value},Inv (cxOf CX P w K mg base N qual scope f cdv A a s H E) [] σ' d p->RelV v u->Q v d->CE a P w H s Q u p:=
    λ{σ' d v u} J l q=>⟨v,d,J.os,J.bare,J.base,J.hok,l,q⟩
  cases X with
  |ret u=>
    obtain⟨v,σ',d,J,l,q⟩:=c;exact j J l q
  |next=>
    obtain⟨σ',d,J,q⟩:=c;exact j (v:=V.non) J rfl q
  |brk=>
    obtain⟨_,_,_,q⟩:=c;exact ap q
  |cont=>
    obtain⟨_,_,_,q⟩:=c;exact ap q
section
variable{X:Cx}{x:Str}{p pos:Pos}{e:Expr}{es:List Expr}{t:TA}{id T:String}{r:List V->Hp->VK->Prop}
def tCB(r:List V->Hp->VK->Prop)(t:TA):TE:=fun σ H Q=>t σ H λvs H1=>r vs H1 Q
def a2h(hc:CallR X (.builtin id) r)(hg:Gl X x)(hm:X.mg x=none)(hv:fJ x=some (.builtin id))(ha:PA X (e::es) t)(hn:x≠"__name__")(hdb:(x==("__debug__":Str))=false)
  (he:fu (e::es) X.env=(false,eval e X.env)::fu es X.env) (hpl:(backTo pos (fu es X.env)).any (·.1)=false):PE X (.Call (.Name x p) (e::es) [] pos) (tCB r t):=by
 intro a s σ H Q I h;refine iI (a2o I hg hm hv ?_ hn hdb);exact PyProof.Rows.callWith_builtin1 (thn (ha pos a s σ H _ I h) λg c ⟨b,f,i,d,j⟩=>hc a c σ f b g Q i d j) he hpl
def a1c(hc:CallR X (.type T) r)(hg:Gl X x)(hm:X.mg x=none)(hv:fJ x=some (.type T))(ha:PA X (e::es) t)(hn:x≠"__name__")(hdb:(x==("__debug__":Str))=false)
  (he:fu (e::es) X.env=(false,eval e X.env)::fu es X.env) (hpl:(backTo pos (fu es X.env)).any (·.1)=false):PE X (.Call (.Name x p) (e::es) [] pos) (tCB r t):=by
 intro a s σ H Q I h;refine iI (a2o I hg hm hv ?_ hn hdb);exact PyProof.Rows.callWith_type1 (thn (ha pos a s σ H _ I h) λj f ⟨b,g,d,i,c⟩=>hc a f σ g b j Q d i c) he hpl
end
end L2
namespace HT
open PySem PyProof.Rows
section
open PySem.SeqAt
open PySem.AutoSeq1 (wpAny_loadPart')
open PySem.MeetsSeq PySem.MeetsSeq2 PySem.MeetsSeq3
end
section
variable{prog:fq}{w:World}{A:Around}{E:Value->Shared->Prop}{s:Shared}
def cat_tup(ht:IsTup s.heap t vs.toArray)(hb:IsTup s.heap b ws.toArray)(hv:vs≠[])
  (h1:ws=[]->Q (.ref t) s) (h2:ws≠[]->Q (.ref s.heap.objs.size) { s with heap:=s.heap.push { cls:=.type "tuple",data:=.seq (vs++ws).toArray } })
  (hsz:vs.length+ws.length<=fi):wpAny (model prog w) A (fE .Add (.ref t) (.ref b)) Q E s:=by
 obtain⟨⟨r,j,p,k⟩,c,l,n,m⟩:=id ht;obtain⟨⟨q,f,o,h⟩,a,g,i,d⟩:=id hb;subst l m g d;have e:vs.toArray++ws.toArray=(vs++ws).toArray:=by simp
 by_cases hw:ws=[]
 ·exact concat_meets ⟨_,c,rfl⟩ ⟨_,a,rfl⟩ noFill_tuple_add seq_tuple_add PySem.F.slot_tuple_add PySem.F.entry_tuple_add (PySem.F.args_tuple_add_2 _ _)
   (tuple_addW1 t b vs.toArray ws.toArray n i j f k h (by simp_all) (by grind)) ⟨c,a,h1 hw⟩
 ·refine concat_meets ⟨_,c,rfl⟩ ⟨_,a,rfl⟩ noFill_tuple_add seq_tuple_add PySem.F.slot_tuple_add PySem.F.entry_tuple_add (PySem.F.args_tuple_add_2 _ _)
   (tuple_addW2 t b vs.toArray ws.toArray n i j f k h (by simp_all) (by simp_all) (by omega)) ⟨c,a,?_⟩
  rw[e];exact h2 hw
noncomputable def sIx(n d:Nat):Option Int->Nat
 |none=>d
 |some v=>if v<0 then (v+(n:Int)).toNat else min v.toNat n
def sIx_none(n d:Nat):sIx n d none=d:=rfl
def sIx_nat(n d k:Nat):sIx n d (some (k:Int))=min k n:=rfl
def b6m(n d:Nat)(hd:d<=n)(o:Option Int):sIx n d o<=n:=by
 cases o with
 |none=>exact hd
 |some v=>
  show (if v<0 then (v+n).toNat else min v.toNat n)<=n
  by_cases hv:v<0
  ·grind
  ·rw[if_neg hv];exact dY _ _
def a6C(v:Int)(n d:Nat):(if v<0 then max (v+(n:Int)) 0 else min v (n:Int))=((sIx n d (some v):Nat):Int):=by grind [sIx]
def a5L(lo hi:Option Int)(n:Nat):fv.Slice.sliceAdjust lo hi 1 (n:Int)=(((sIx n 0 lo:Nat):Int),((sIx n n hi:Nat):Int)):=by
 unfold fv.Slice.sliceAdjust;refine Prod.ext ?_ ?_
 ·cases lo with
  |none=>rfl
  |some v=>exact a6C v n 0
 ·cases hi with
  |none=>rfl
  |some v=>exact a6C v n n
def a5M(i j:Nat):fv.Slice.slicePlaces (i:Int) (j:Int) 1=j-i:=by
 unfold fv.Slice.slicePlaces;simp
 split<;>lia
def a2R(p:IsPart v o)(h:Q o s):wpAny (model prog w) A (fv.Slice.slicePartIndex v) Q E s:=by
 cases p with
 |none=>exact slicePart_none h
 |int i t=>exact slicePart_int h
def a2d{lo hi:Option Int}{n:Nat}(hs:s.heap.IsSliceOf sl vl vu .none)(pl:IsPart vl lo)(pu:IsPart vu hi)
  (h:Q (((sIx n 0 lo:Nat):Int),1,sIx n n hi-sIx n 0 lo) s):wpAny (model prog w) A (fv.Slice.sliceApplied (.ref sl) (pure (n:Int))) Q E s:=by
 obtain⟨d,a,c,b⟩:=id hs;refine e9 (e9 (fW a b rfl (e9 (fW a b rfl (e9 (fW a b rfl (fc (e9 (slicePart_none (e9 (a2R pl (e9 (a2R pu (e9 (fc ?_)))))))))))))))
 show wpAny _ _ (match fv.Slice.sliceAdjust lo hi 1 n with | (lo,hi)=>pure (lo,_,fv.Slice.slicePlaces lo hi 1)) _ _ s
 rw[a5L lo hi n]
 show wpAny _ _ (pure _) _ _ s
 rw[a5M];exact fc h
def a8r(xs:Array Value)(i k:Nat):((aC k).filterMap λ(m:Nat)=>xs[((i:Int)+(m:Int)*1).toNat]?).toArray=((xs.toList.drop i).take k).toArray:=by
 have e:(λ(m:Nat)=>xs[(i+(m:Int)*1).toNat]?)=λm=>xs[i+m]?:=by
  funext m
  have:(i+(m:Int)*1).toNat=i+m:=by lia
  rw[this]
 rw[e]
 have:=pick_run xs i k
 rw[d3]at this;have a:(_∘λx=>i+x)=λm=>xs[i+m]?:=rfl;rw[a]at this;rw[this]
def getItem_tuple_cut{lo hi:Option Int}(ht:IsTup s.heap t items)(hs:s.heap.IsSliceOf sl vl vu .none)(pl:IsPart vl lo)(pu:IsPart vu hi)
  (hw:¬ (sIx items.size 0 lo=0/\sIx items.size items.size hi=items.size))
  (h:Q (.ref s.heap.objs.size) { s with heap:=s.heap.push { cls:=.type "tuple",data:=.seq ((items.toList.drop (sIx items.size 0 lo)).take (sIx items.size items.size hi-sIx items.size 0 lo)).toArray } })
  (hsz:items.size<=fi):wpAny (model prog w) A (ij (.ref t) (.ref sl)) Q E s:=by
 have a:sizeOk (.seq ((items.toList.drop (sIx items.size 0 lo)).take (sIx items.size items.size hi-sIx items.size 0 lo)).toArray):=by
  show ((items.toList.drop (sIx items.size 0 lo)).take (sIx items.size items.size hi-sIx items.size 0 lo)).toArray.size<=fi
  rw[aJ,aA,aT,aF];omega
 obtain⟨f,d,e,g⟩:=id hs;have b:s.TypeIs (.ref sl) "slice":=⟨f,d,e⟩;unfold ij
 try with_reducible refine fI ?_
 refine e9 (wpAny_sequenceKey ht.typeIs (by decide) ?_);refine e9 (wpAny_callSpecial?_slot ht.typeIs PyProof.Rows.slot_tuple_getitem
  (fR PyProof.Rows.slot_tuple_getitem ht.typeIs entry_tuple_getitem ?_ (args_tuple_getitem _ _)))
 show wpAny _ _ (fv.Tuple.tupleItemsOf _ >>= _) _ _ s
 refine e9 (tupleItemsOf_ ht (e9 (je b (e9 (a2d hs pl pu ?_)))));have c:¬ ((((sIx items.size 0 lo):Int)==0&&(1:Int)==1&&(sIx items.size items.size hi-sIx items.size 0 lo)==items.size)=true):=by grind
 show wpAny _ _ (if (((sIx items.size 0 lo):Int)==0&&(1:Int)==1&&(sIx items.size items.size hi-sIx items.size 0 lo)==items.size)=true then _ else _) _ _ s
 rw[if_neg c,a8r]
 first
  |exact e9 (gh (fc ⟨_,rfl,fc h⟩) a)
  |exact e9 _
  |exact e9 _
  |exact e9 _
end
end HT
namespace L2
open PySem PySem.Spec PyProof.Rows
abbrev TO:=St->Hp->(Option Int->Hp->Prop)->Prop
def PO(X:Cx)(e:Option Expr)(t:TO):Prop:=
 ∀(pins:List (Addr×Obj))(s:Shared)(σ:St)(H:Hp)(Q:Option Int->Hp->Prop),Inv X pins σ H s->t σ H Q ->
  wpAny (model X.prog X.w) X.A (evalPart e X.env) (λu s'=>∃o H',Inv X pins σ H' s'/\IsPart u o/\Q o H') X.xe s
def b0D:TO:=λ_ H Q=>Q none H
def b44(t:TE):TO:=fun σ H Q=>t σ H λx H1=>∃i,x=.int i/\Q (some i) H1
def a2S:∀{us:List Value},Vals (ns.map V.int) us->fG us ns:=by
 induction ns with
 |nil=>intro a r;cases r;exact .nil
 |cons n ns ih=>
  intro a r;cases r with
  |cons r1 r2=>
   obtain⟨t,e⟩:=r1;subst e;exact .cons n t (ih r2)
section
variable{X:Cx}{e:Expr}{te:TE}{lo hi:Option Expr}{tl th:TO}{pos p2:Pos}
def b0E:PO X none b0D:=λa s σ H Q I h=>fc ⟨none,H,I,.none,h⟩
def b0F(h:PE X e te):PO X (some e) (b44 te):=by
 intro a s σ H Q I b;refine thn (h a s σ H _ I b) λu j ⟨x,d,f,c,g⟩=>?_;obtain⟨i,rfl,q⟩:=g;obtain⟨t,rfl⟩:=c;exact⟨some i,d,f,.int i t,q⟩
def SlR(X:Cx)(r:V->Option Int->Option Int->Hp->VK->Prop):Prop:=
 ∀(pins:List (Addr×Obj))(s:Shared)(σ:St)(H:Hp)(x:V)(v vl vu:Value)(lo hi:Option Int)(sl:Addr)(Q:VK),Inv X pins σ H s->RelV x v->s.heap.IsSliceOf sl vl vu .none->IsPart vl lo->IsPart vu hi->r x lo hi H Q ->
  ∃T id,typeLookup (.type T) "__getitem__"=pure (some (.builtin id))/\s.TypeIs v T/\wpAny (model X.prog X.w) X.A (ij v (.ref sl)) (EP X pins σ Q) X.xe s
def SlR.or(h:SlR X r)(h':SlR X r'):SlR X (λx lo hi H Q=>r x lo hi H Q\/r' x lo hi H Q):=by
 intro a s σ H x v b k d j c Q I g i e f q;rcases q with q |q
 ·exact h a s σ H x v b k d j c Q I g i e f q
 ·exact h' a s σ H x v b k d j c Q I g i e f q
def tSl(r:V->Option Int->Option Int->Hp->VK->Prop)(te:TE)(tl th:TO):TE:=fun σ H Q=>te σ H λx H1=>tl σ H1 λl H2=>th σ H2 λu H3=>r x l u H3 Q
def a8s(hr:SlR X r)(he:PE X e te)(hl:PO X lo tl)(hu:PO X hi th):PE X (.Subscript e (.Slice lo hi none p2) pos) (tSl r te tl th):=by
 intro a s σ H Q I h;refine Subscript_ (thn (he a s σ H _ I h) λv o ⟨x,D,j,t,J⟩=>(wpAny_Slice (thn (hl a o σ D _ j J) λf B ⟨l,p,m,n,G⟩=>thn (hu a B σ p _ m G) λd c ⟨u,g,y,z,k⟩=>(fc ?_))));have C:Inv X a σ g { c with heap:=c.heap.push { cls:=.type "slice",data:=.fields #[f,d,.none] } }:=y.kept λb L q=>Heap.get?_push_of_some _ q;obtain⟨T,M,F,E,i⟩:=hr a { c with heap:=c.heap.push { cls:=.type "slice",data:=.fields #[f,d,.none] } } σ g x v f d l u c.heap.objs.size Q C t (Heap.IsSliceOf.new ..) n z k;exact tail_any E F i (by with_unfolding_all rfl)
noncomputable def cutV(xs:List V)(lo hi:Option Int):List V:=(xs.drop (HT.sIx xs.length 0 lo)).take (HT.sIx xs.length xs.length hi-HT.sIx xs.length 0 lo)
def a2r(xs:List V)(lo hi:Option Int):(cutV xs lo hi).length<=xs.length:=by
 unfold cutV;rw[aA,aT];omega
def rSlT(K:Fg):V->Option Int->Option Int->Hp->VK->Prop:=λx lo hi H Q=>∃a xs,x=.ref a/\SqT K H a xs /\
 ¬ (HT.sIx xs.length 0 lo=0/\HT.sIx xs.length xs.length hi=xs.length)/\∀p,H p=none->Q (.ref p) (upd H p (.tup (cutV xs lo hi)))
def sl_tup:SlR X (rSlT X.K):=by
 intro p s σ H x v A w e f z Q I k m l t h;obtain⟨a,d,rfl,n,u,q⟩:=h;cases k;obtain⟨j,r,g,i⟩:=I.tuple n;have c:j.toArray.size=d.length:=aJ▸r.length.symm;refine⟨"tuple",_,PyProof.Rows.slot_tuple_getitem.lookup,g.typeIs,?_⟩;refine HT.getItem_tuple_cut g m l t (c▸u) ?_ (by simp_all);rw[c];refine⟨.ref s.heap.objs.size,_,I.laid (λb y q=>Heap.get?_push_of_some _ q) (af _) ?_,rfl,q _ (I.hok.fresh (af _))⟩;exact⟨ax (a2r d e f) i,_,(r.drop _).take _,IsTup.new _ _⟩
def b45(K:Fg):R2:=λx y H Q=>∃a b xs ys,x=.ref a/\y=.ref b/\SqT K H a xs/\SqT K H b ys/\xs≠[]/\xs.length+ys.length<=fi /\
 (ys=[]->Q (.ref a) H)/\(ys≠[]->∀p,H p=none->Q (.ref p) (upd H p (.tup (xs++ys))))
def Vals.nil_iff(r:Vals xs us):us=[]↔xs=[]:=by
 cases r with
 |nil=>simp
 |cons _ _=>simp
def op_catT:OpR X (fE .Add) (b45 X.K):=by
 intro r s σ H x y v u Q I p B h;obtain⟨a,b,k,j,rfl,rfl,t,g,f,e,m,n⟩:=h;cases p;cases B;obtain⟨C,d,i,_⟩:=I.tuple t;obtain⟨l,c,A,_⟩:=I.tuple g;refine HT.cat_tup i A (λz=>f (d.nil_iff.mp z)) (λz=>⟨.ref a,H,I,rfl,m (c.nil_iff.mp z)⟩) (λz=>?_) (by rw[<- d.length,<- c.length];exact e);refine⟨.ref s.heap.objs.size,_,I.laid (λb D q=>Heap.get?_push_of_some _ q) (af _) ?_,rfl,n (λw=>z (c.nil_iff.mpr w)) _ (I.hok.fresh (af _))⟩;exact⟨by rw[ay];exact e,_,d.append c,IsTup.new _ _⟩
end
noncomputable def ixN(n:Nat)(i:Int):Option Nat:=if 0<=i then (if i<n then some i.toNat else none) else if -(n:Int)<=i then some (i+n).toNat else none
noncomputable def atI{α:Type}(xs:List α)(i:Int):Option α:=(ixN xs.length i).bind λj=>xs[j]?
def a6D(h:ixN n i=some j):seqIndex? i n=some j/\j<n/\-(n:Int)<=i/\i<n:=by
 unfold ixN at h
 by_cases h0:0<=i
 ·rw[if_pos h0]at h
  by_cases h1:i<n
  ·rw[if_pos h1]at h;have e:=aG.inj h;exact⟨by rw[jf h0 h1,e],by omega,by omega,h1⟩
  ·simp_all
 ·rw[if_neg h0]at h
  by_cases h1:-n<=i
  ·rw[if_pos h1]at h;have e:=aG.inj h;exact⟨by rw[jg (by omega) h1,e],by omega,h1,by omega⟩
  ·simp_all
def a4l{α:Type}{xs:List α}{v:α}(h:atI xs i=some v):∃j,seqIndex? i xs.length=some j/\xs[j]?=some v/\j<xs.length/\-(xs.length:Int)<=i/\i<xs.length:=by
 unfold atI at h;cases e:ixN xs.length i with
 |none=>rw[e]at h;cases h
 |some j=>
  rw[e]at h;obtain⟨d,c,b,a⟩:=a6D e;exact⟨j,d,h,c,b,a⟩
def a0W{α:Type}{xs:List α}{j:Nat}{v:α}(h:xs[j]?=some v):atI xs (j:Int)=some v:=by
 have a:=(aj.mp h).1;have e:ixN xs.length j=some j:=by
  unfold ixN;rw[if_pos (by simp),if_pos (by lia)];simp
 unfold atI;rw[e];exact h
def a6E(b:Expr):Prop:=∀o i,subscripted b false o i=operate [o,i] (ij o i)
def IxR(X:Cx)(r:R2):Prop:=
 ∀(value slice:Expr)(pins:List (Addr×Obj))(s:Shared)(σ:St)(H:Hp)(x y:V)(v u:Value)(Q:VK),Inv X pins σ H s->RelV x v->RelV y u->r x y H Q ->
  subscripted slice false v u=operate [v,u] (ij v u)->wpAny (model X.prog X.w) X.A (subscriptTail value slice v u) (EP X pins σ Q) X.xe s
def MtR(X:Cx)(id:String)(r:V->List V->Hp->VK->Prop):Prop:=
 ∀(pins:List (Addr×Obj))(s:Shared)(σ:St)(H:Hp)(x:V)(xs:List V)(v:Value)(us:List Value)(Q:VK),Inv X pins σ H s->RelV x v->Vals xs us->r x xs H Q ->
  wpAny (model X.prog X.w) X.A (call (.builtin id) (v::us)) (EP X pins σ Q) X.xe s
section
variable{X:Cx}{a b:Expr}{ta tb:TE}{pos:Pos}
def IxR.or(h:IxR X r)(h':IxR X r'):IxR X (λx y H Q=>r x y H Q\/r' x y H Q):=by
 intro b a c s σ H x y v u Q I e f q d;rcases q with q |q
 ·exact h b a c s σ H x y v u Q I e f q d
 ·exact h' b a c s σ H x y v u Q I e f q d
def MtR.or{id:String}(h:MtR X id r)(h':MtR X id r'):MtR X id (λx xs H Q=>r x xs H Q\/r' x xs H Q):=by
 intro a s σ H x e v b Q I c d q;rcases q with q |q
 ·exact h a s σ H x e v b Q I c d q
 ·exact h' a s σ H x e v b Q I c d q
def b46(hr:IxR X r)(ha:PE X a ta)(hb:PE X b tb)(hs:a6E b):PE X (.Subscript a b pos) (tOp r ta tb):=λc s σ H Q I h=>Subscript_ (binT ha hb I h λv u d x y f g i e q=>hr a b c d σ f x y v u Q g i e q (hs _ _))
def rIxL(K:Fg):R2:=λx y H Q=>∃p xs i v,x=.ref p/\y=.int i/\SqL K H p xs/\atI xs i=some v/\Q v H
def rIxT(K:Fg):R2:=λx y H Q=>∃p xs i v,x=.ref p/\y=.int i/\SqT K H p xs/\atI xs i=some v/\Q v H
def rIxS:R2:=λx y H Q=>∃z i c,x=.str z/\y=.int i/\z.length<=fi/\atI z.cps.toList i=some c/\Q (.str ⟨#[c]⟩) H
def ix_list:IxR X (rIxL X.K):=by
 intro n m a s σ H x y v u Q I F o h f;obtain⟨p,M,i,z,rfl,rfl,C,J,q⟩:=h;cases F;obtain⟨t,rfl⟩:=o;obtain⟨l,r,d,R⟩:=I.list C;obtain⟨j,b,B,L,D,A⟩:=a4l J;obtain⟨w,g,k⟩:=r.get B;have G:=r.length;have N:=a3I;have c:EP X a σ Q w s:=⟨z,H,I,k,q⟩
 by_cases h0:0<=i
 ·have e:i.toNat=j:=by
   rw[jf h0 A]at b;exact aG.inj b
  exact item_listR d.isList h0 (by omega) (by rw[e];simpa using g) c f
 ·have e:(i+(l.toArray.size:Int)).toNat=j:=by
   rw[jg (by omega) D]at b;rw[aJ,<- G];exact aG.inj b
  exact subscriptTail_builtinR d.isList.typeIs slot_list_getitem.lookup
   (wpAny_getItem_list_neg d.isList (by omega) (by simp_all) (by omega) (by rw[e];simpa using g) ⟨rfl,c⟩) f
def ix_tup:IxR X (rIxT X.K):=by
 intro f e a s σ H x y v u Q I A D h k;obtain⟨p,J,i,z,rfl,rfl,B,C,q⟩:=h;cases A;obtain⟨t,rfl⟩:=D;obtain⟨E,r,d,M⟩:=I.tuple B;obtain⟨j,l,g,G,F,L⟩:=a4l C;obtain⟨w,m,c⟩:=r.get g;have N:=a3I;have b:EP X a σ Q w s:=⟨z,H,I,c,q⟩;exact subscriptTail_builtinR d.typeIs slot_tuple_getitem.lookup
  (getItem_tuple d (by lia) (by lia) (by rw[aJ,<- r.length];exact l) (by simp_all) ⟨rfl,b⟩) k
def b2D:IxR X rIxS:=by
 intro b d r s σ H x y v u Q I o f h p;obtain⟨z,i,c,rfl,rfl,A,n,q⟩:=h;obtain⟨t,rfl⟩:=o;obtain⟨C,rfl⟩:=f;obtain⟨j,a,l,D,g,w⟩:=a4l n;have k:z.cps.toList.length=z.length:=by simp[Str.length]
 rw[k]at a g w;have B:=a3I;exact tail_any (gI s z t) slot_str_getitem.lookup (getItem_str (by grind) (by rw[a];simpa using l) ⟨.str ⟨#[c]⟩,H,I.tok _,⟨_,rfl⟩,q⟩) p
def rIx(K:Fg):R2:=λx y H Q=>rIxL K x y H Q\/rIxT K x y H Q\/rIxS x y H Q
def b2E:IxR X (rIx X.K):=ix_list.or (ix_tup.or b2D)
def a5N(its:List Value)(n j:Nat)(u:Value):Obj.mapSeq (·.setIfInBounds j u) { cls:=.type "list",data:=.seq its.toArray n }={ cls:=.type "list",data:=.seq (its.set j u).toArray n }:=by
 simp[Obj.mapSeq]
def Inv.lst{pins:List (Addr×Obj)}{σ:St}{H:Hp}{s:Shared}{p:Addr}{xs:List V}(I:Inv X pins σ H s)(h:H p=some (.lst xs)) :
  ∃(its:List Value)(n:Nat),Vals xs its/\s.heap.get? p=some { cls:=.type "list",data:=.seq its.toArray n }/\xs.length<=sizeLine:=by
 obtain⟨z,a,n,r,e⟩:=I.hok p _ h;exact⟨a,n,r,e,z⟩
def Inv.lstUpd{its its':List Value}(I:Inv X pins σ H s)(h:H p=some (.lst xs))
  (ho:s.heap.get? p=some { cls:=.type "list",data:=.seq its.toArray n }) (hf:f { cls:=.type "list",data:=.seq its.toArray n }={ cls:=.type "list",data:=.seq its'.toArray n' }) (r:Vals ys its') (hz:ys.length<=fi) (t:Nat) :
  Inv X pins σ (upd H p (.lst ys)) { s with heap:=s.heap.update p f,toks:=t }:=by
 have e:(s.heap.update p f).get? p=some { cls:=.type "list",data:=.seq its'.toArray n' }:=by
  rw[Heap.get?_update_self f ho (by rw[hf]<;>rfl),hf]
 refine I.write (by rw[h];trivial) (.inl rfl) (λb u a q=>(Heap.get?_update_other _ _ (Ne.symm a)).trans q) ⟨_,e⟩ ?_;exact⟨hz,its',n',r,e⟩
def b47:V->V->V->Hp->(Hp->Prop)->Prop:=λo i v H Q=>∃p xs k j,o=.ref p/\i=.int k/\H p=some (.lst xs)/\ixN xs.length k=some j/\Q (upd H p (.lst (xs.set j v)))
def a8t:PSet X b47:=by
 intro d s σ H o i v D F u Q I x z C h;obtain⟨p,y,k,j,rfl,rfl,g,B,q⟩:=h;cases x;obtain⟨t,rfl⟩:=z;obtain⟨b,n,r,f,A⟩:=I.lst g;obtain⟨a,E,m,w⟩:=a6D B;have e:=r.length;have G:=a3I;have l:=
  I.lstUpd g f (a5N b n j u) (r.set C j) (by simp_all) s.toks
 by_cases h0:0<=k
 ·have c:k.toNat=j:=by
   rw[jf h0 w]at a;exact aG.inj a
  exact PySem.W.ki_setAt f h0 (by lia) (by simp_all) (c▸⟨_,l,q⟩)
 ·have c:(k+(b.toArray.size)).toNat=j:=by
   rw[jg (by lia) m]at a;rw[aJ,<- e];exact aG.inj a
  exact PySem.W.ki_setBack f (by lia) (by simp_all) (by lia) (c▸⟨_,l,q⟩)
def a3N(lo hi:Option Int)(n:Nat):(gJ lo hi none n).1=((HT.sIx n 0 lo:Nat):Int)/\(gJ lo hi none n).2.1=((HT.sIx n n hi:Nat):Int)/\(gJ lo hi none n).2.2=1:=by
 refine⟨?_,?_,rfl⟩
 ·cases lo with
  |none=>simp[gJ,HT.sIx]
  |some i=>
   simp only[gJ,HT.sIx,dh]
   by_cases h:i<0
   ·grind
   ·grind
 ·cases hi with
  |none=>simp[gJ,HT.sIx]
  |some i=>
   simp only[gJ,HT.sIx,dh]
   by_cases h:i<0
   ·grind
   ·grind
def a3a(its:List Value)(lo hi:Option Int):slicePick its.toArray lo hi none=((its.drop (HT.sIx its.length 0 lo)).take (HT.sIx its.length its.length hi-HT.sIx its.length 0 lo)).toArray:=by
 obtain⟨a,c,b⟩:=a3N lo hi its.toArray.size;unfold slicePick;rw[a,c,b];simp only[sliceRange_one,pick_run]<;>rfl
def rSlL(K:Fg):V->Option Int->Option Int->Hp->VK->Prop:=λx lo hi H Q=>∃a xs,x=.ref a/\SqL K H a xs/\∀p,H p=none->Q (.ref p) (upd H p (.lst (cutV xs lo hi)))
def sl_list:SlR X (rSlL X.K):=by
 intro p s σ H x v u w d e y Q I m i n j h;obtain⟨a,c,rfl,k,q⟩:=h;cases m;obtain⟨t,r,g,l⟩:=I.list k;have f:=r.length;refine⟨"list",_,slot_list_getitem.lookup,g.isList.typeIs,?_⟩;refine wpAny_getItem_list_slice g.isList i n j .none (by simp) ?_ (by grind);rw[a3a,<- f];refine⟨.ref s.heap.objs.size,_,I.laid (λb z q=>Heap.get?_push_of_some _ q) (af _) ?_,rfl,q _ (I.hok.fresh (af _))⟩;exact⟨ax (a2r c d e) l,_,0,(r.drop _).take _,Heap.get?_push_size _ rfl⟩
def CallR.or(h:CallR X f r)(h':CallR X f r'):CallR X f (λxs H Q=>r xs H Q\/r' xs H Q):=by
 intro a s σ H c d Q I b q;rcases q with q |q
 ·exact h a s σ H c d Q I b q
 ·exact h' a s σ H c d Q I b q
def a3O:CallR X (.type "list") (λxs H Q=>∃p ys,xs=[.ref p]/\(SqL X.K H p ys\/SqT X.K H p ys)/\∀l,H l=none->Q (.ref l) (upd H l (.lst ys))):=by
 intro z s σ H C D Q I r h;obtain⟨p,v,rfl,j,q⟩:=h;obtain⟨u,rfl,B⟩:=a2c r;cases B;have k:∀a,Vals v a->v.length<=fi->∀c f,_ ->
   c.get? s.heap.objs.size=some { cls:=.type "list",dict:=none,data:=.seq a.toArray f,slots:=#[] }->EP X z σ Q _ { s with heap:=c }:=λa d g c f i e=>
  ⟨.ref s.heap.objs.size,_,I.laid i (af _) (show ObjOk X.prog X.w _ c _ (.lst v) from ⟨g,a,f,d,e⟩),rfl,q _ (I.hok.fresh (af _))⟩
 rcases j with j |j
 ·obtain⟨a,d,y,g⟩:=I.list j;have t:=d.length;obtain⟨o,x,A,n,m⟩:=y.isList;exact call_list_seq p (.inl rfl) x A m (λc f i e=>k a d g c f i e) (by grind)
 ·obtain⟨a,d,y,g⟩:=I.tuple j;have t:=d.length;obtain⟨o,x,A,n,m⟩:=y;exact call_list_seq p (.inr rfl) x A m (λc f i e=>k a d g c f i e) (by grind)
def tyV(K:Fg)(T:String)(x:V)(H:Hp):Prop:=match x with
 |.str _=>T="str"
 |.int _=>T="int"
 |.ref p=>(T="list"/\∃xs,SqL K H p xs)\/(T="tuple"/\∃o,K.lookup p=some o/\o.cls=.type "tuple"/\o.dict=none) \/
   (T="dict"/\((∃kvs,H p=some (.dK kvs))\/(∃kvs,H p=some (.dT kvs))\/∃ob kvs,H p=some (.frz ob (.dK kvs))))\/(T="set"/\∃S n,H p=some (.set S n))
 |_=>False
def b2F(I:Inv X pins σ H s)(r:RelV x v)(ty:tyV X.K T x H) :
  s.TypeIs v T/\∀a,v=.ref a->∃ob,s.heap.get? a=some ob/\ob.dict=none:=by
 cases x with
 |str z=>
  obtain⟨t,rfl⟩:=r;cases (ty);exact⟨gI s z t,λ_ e=>nomatch e⟩
 |int i=>
  obtain⟨t,rfl⟩:=r;cases (ty);exact⟨typeIs_int s i t,λ_ e=>nomatch e⟩
 |ref p=>
  cases r;rcases ty with ⟨rfl,xs,hq⟩ |⟨rfl,o,hk,hc,f⟩ |⟨rfl,hk⟩ |⟨rfl,S,n,hk⟩
  ·obtain⟨h,_,g,_⟩:=I.list hq;refine⟨g.isList.typeIs,λa e=>?_⟩;cases e;obtain⟨o,n,e,c,f,_⟩:=g;exact⟨o,e,f⟩
  ·refine⟨⟨o,I.kIn p o hk,hc⟩,λa e=>?_⟩;cases e;exact⟨o,I.kIn _ o hk,f⟩
  ·have z:∃o,s.heap.get? p=some o/\o.ExactDict:=by
    rcases hk with ⟨kvs,hk⟩ |⟨kvs,hk⟩ |⟨ob,kvs,hk⟩
    ·obtain⟨_,_,_,_,o,_,_,e,b,_⟩:=I.hok p _ hk;exact⟨o,e,b⟩
    ·obtain⟨_,_,_,_,o,_,_,e,b,_⟩:=I.hok p _ hk;exact⟨o,e,b⟩
    ·obtain⟨_,_,_,_,_,o,_,_,e,b,_⟩:=I.hok p _ hk;exact⟨o,e,b⟩
   obtain⟨o,e,b⟩:=z;refine⟨⟨o,e,b.1⟩,λa d=>?_⟩;cases d;exact⟨o,e,b.2.1⟩
  ·obtain⟨o,_,_,_,e,b,_⟩:=I.hok p _ hk;refine⟨⟨o,e,b.1⟩,λa d=>?_⟩;cases d;exact⟨o,e,b.2.1⟩
 |_=>exact ap ty
def tBM(K:Fg)(T:String)(r:V->List V->Hp->VK->Prop)(to:TE)(t:TA):TE:=fun σ H Q=>to σ H λx H1=>tyV K T x H1/\t σ H1 λxs H2=>r x xs H2 Q
variable{o e:Expr}{es:List Expr}{to:TE}{t:TA}{name:Str}{apos cpos:Pos}{T id:String}{r:V->List V->Hp->VK->Prop}
def b48(pa:PlainAttrs T)(slot:Slot T name id)(hty:typeOf (.builtin id)=pure (.type "method_descriptor"))(hm:MtR X id r)(ho:PE X o to)(ha:PA X (e::es) t)
  (hbase:jh o name X.env (eval o X.env)=eval o X.env)
  (hfew:((backTo cpos (fu (e::es) X.env)).all (λx=>!x.1)&&(ji cpos (jj [] X.env)).all (λx=>x.1.isSome)
   && decide ((e::es).length+([]:List gH).length+(if ([]:List gH).isEmpty then 0 else 1)<30))=true)
  (hline:(apos.endLine==cpos.line)=true) (hs:fu (e::es) X.env=(false,eval e X.env)::fu es X.env) (hplain:(backTo cpos (fu es X.env)).any (·.1)=false) :
  PE X (.Call (.Attribute o name apos) (e::es) [] cpos) (tBM X.K T r to t):=by
 intro a s σ H Q I h;refine wpAny_Call_method_late hbase hfew hline rfl (thn (ho a s σ H _ I h) λv k ⟨x,w,b,c,u,j⟩=>?_);obtain⟨g,n⟩:=b2F b c u;refine⟨T,id,pa,slot,hty,g,n,?_⟩;have d:=ha cpos a k σ w _ b j;rw[hs]at d ⊢;exact Calls.callWith_builtin (by show (false||(backTo cpos _).any _)=false;rw[hplain]<;>rfl) (Calls.evalArgs_plain (thn d λi m ⟨q,l,y,f,p⟩=>hm a m σ l x q v i Q y c f p))
end
def MtM(X:Cx)(id:String)(r:V->List V->Hp->VK->Prop):Prop:=
 ∀(pins:List (Addr×Obj))(s:Shared)(σ:St)(H:Hp)(x:V)(xs:List V)(v:Value)(us:List Value)(Q:VK),Inv X pins σ H s->RelV x v->Vals xs us->r x xs H Q ->
  wpAny (model X.prog X.w) X.A (call (.builtin id) (v::us)) (EP X pins σ Q) X.xe s
def Vals.one:∀{x:V}{us:List Value},Vals [x] us->∃u,us=[u]/\RelV x u:=by
 intro x us h;cases h with
 |cons r h=>cases h;exact⟨_,rfl,r⟩
def Vals.two:∀{x y:V}{us:List Value},Vals [x,y] us->∃u v,us=[u,v]/\RelV x u/\RelV y v:=by
 intro x y a h;cases h with
 |cons r h=>cases h with
  |cons q h=>cases h;exact⟨_,_,rfl,r,q⟩
def Vals.zero:∀{us:List Value},Vals [] us->us=[]:=by
 intro us h;cases h;rfl
def Vals.dropLast(h:Vals xs us):Vals xs.dropLast us.dropLast:=by
 induction h with
 |nil=>exact .nil
 |cons r t ih=>
  cases t with
  |nil=>exact .nil
  |cons q t'=>exact .cons r ih
theorem Vals.eraseIdx:∀{xs:List V}{us:List Value}(i:Nat),Vals xs us->Vals (xs.eraseIdx i) (us.eraseIdx i)
 |_,_,_,.nil=>.nil
 |_,_,0,.cons _ t=>t
 |_,_,i+1,.cons r t=>.cons r (Vals.eraseIdx i t)
def Vals.reverse(h:Vals xs us):Vals xs.reverse us.reverse:=by
 induction h with
 |nil=>exact .nil
 |cons r t ih=>rw[cM,cM];exact Vals.append ih (.cons r .nil)
section
variable{X:Cx}{pins:List (Addr×Obj)}{σ:St}{H:Hp}{s:Shared}{l b:Addr}{xs ys zs:List V}
def Inv.lset{its its':List Value}(I:Inv X pins σ H s)(hH:H l=some (.lst xs))
  (e:s.heap.get? l=some { cls:=.type "list",data:=.seq its.toArray n }) (hf:f its.toArray=its'.toArray) (hv:Vals ys its') (hz:ys.length<=fi) :
  Inv X pins σ (upd H l (.lst ys)) { s with heap:=s.heap.update l (Obj.mapSeq f),toks:=t' }:=by
 have q:=PySem.IsL.update e f;rw[hf]at q;refine I.write (hH▸trivial) (.inl rfl) (λc u a b=>(Heap.get?_update_other s.heap _ (Ne.symm a)).trans b) ⟨_,q⟩ ?_;exact⟨hz,its',_,hv,q⟩
def Inv.lnew(I:Inv X pins σ H s)(hv:Vals ys its)(hz:ys.length<=fi) :
  Inv X pins σ (upd H s.heap.objs.size (.lst ys)) { s with heap:=s.heap.push { cls:=.type "list",data:=.seq its.toArray },toks:=t' }:=
 I.laid (λ_ _ q=>Heap.get?_push_of_some _ q) (af _) ⟨hz,its,0,hv,Heap.get?_push_size _ rfl⟩
def Inv.fresh(I:Inv X pins σ H s):H s.heap.objs.size=none:=I.hok.fresh (af _)
def Inv.lstM(I:Inv X pins σ H s)(hH:H l=some (.lst xs)):xs.length<=fi/\∃(its:List Value)(n:Nat),Vals xs its/\xs.length=its.length/\s.heap.get? l=some { cls:=.type "list",data:=.seq its.toArray n }:=by
 obtain⟨z,a,n,r,e⟩:=I.hok l _ hH;exact⟨z,a,n,r,r.length,e⟩
def a8u(h:n<=fi):fv.List.listTooLong n=false:=decide_eq_false (by omega)
end
section
variable{X:Cx}
def b0G:V->List V->Hp->VK->Prop:=λx vs H Q=>∃l xs y,x=.ref l/\vs=[y]/\H l=some (.lst xs)/\xs.length<fi/\Q .non (upd H l (.lst (xs++[y])))
def a3P:MtM X "list.append" b0G:=by
 intro c s σ H x k v o Q I f d h;obtain⟨l,j,y,rfl,rfl,b,i,q⟩:=h;cases f;obtain⟨u,rfl,g⟩:=d.one;obtain⟨z,a,n,r,m,e⟩:=I.lstM b;refine call_meets F.slot_list_append ⟨_,e,rfl⟩ F.entry_list_append (F.args_list_append_2 _ _) (PySem.list_append l a.toArray n u (by grind)) ⟨e,?_⟩;refine⟨.non,_,I.lset b e (by simp) (r.append (.cons g .nil)) ?_,rfl,q⟩;rw[ay,d4]
 lia
def b0H:V->List V->Hp->VK->Prop:=λx vs H Q=>∃l b xs zs,x=.ref l/\vs=[.ref b]/\H l=some (.lst xs)/\H b=some (.lst zs)/\xs.length+zs.length<=fi/\Q .non (upd H l (.lst (xs++zs)))
def a6F:MtM X "list.extend" b0H:=by
 intro k s σ H x A v C Q I i j h;obtain⟨l,b,B,E,rfl,rfl,f,t,G,q⟩:=h;cases i;obtain⟨u,rfl,p⟩:=j.one;cases p;obtain⟨z,c,n,r,D,e⟩:=I.lstM f;obtain⟨J,a,w,m,y,o⟩:=I.lstM t;have g:c.toArray.size+a.toArray.size<=sizeLine:=by grind
 have d:¬ (!c.toArray.isEmpty&&fv.List.listTooLong (c.toArray.size+a.toArray.size))=true:=by
  rw[a8u g,di];exact aR
 refine call_meets F.slot_list_extend ⟨_,e,rfl⟩ F.entry_list_extend (F.args_list_extend_2 _ _)
  (AutoSeq1.list_extend_list_list_0 l c.toArray n b a.toArray w d (by grind) (by lia)) ⟨e,o,?_⟩
 refine⟨.non,_,I.lset f e (by simp) (r.append m) ?_,rfl,q⟩;rw[ay]
 lia
def rCat:R2:=λx y H Q=>∃l b xs zs,x=.ref l/\y=.ref b/\H l=some (.lst xs)/\H b=some (.lst zs)/\xs.length+zs.length<=fi/\∀p,H p=none->Q (.ref p) (upd H p (.lst (xs++zs)))
def b2G:OpR X (fE .Add) rCat:=by
 intro i s σ H x y v u Q I f k h;obtain⟨l,b,C,w,rfl,rfl,m,d,A,q⟩:=h;cases f;cases k;obtain⟨z,c,n,r,t,e⟩:=I.lstM m;obtain⟨B,a,D,o,p,g⟩:=I.lstM d;refine PySem.P.add_list e g ?_ (by grind);have j:c.toArray++a.toArray=(c++a).toArray:=by simp
 rw[j];exact⟨.ref _,_,I.lnew (r.append o) (by grind),rfl,q _ I.fresh⟩
end
section
variable{prog:fq}{w:World}{A:Around}{E:Value->Shared->Prop}{s:Shared}
end
section
variable{X:Cx}
end
end L2
namespace Att
open PySem PySem.W PySem.Calls PyProof.Rows
def a2s:∀(ns:List Int)(vs:List Value),WellAll P h vs (ns.map WData.int)->fG vs ns:=by
 intro c
 induction c with
 |nil=>
  intro d w;cases w;exact .nil
 |cons n c ih=>
  intro d w;cases w with
  |cons a b=>
   cases a;exact .cons _ _ (ih _ b)
def a6G{l:OpenLaw}(hn:l.most=some n)
  (hpre:l.row.toRowW.claim.pre args=true) (hwl:WellAll P h vals args) :
  ∃a vs ns,vals=[Value.ref a]/\args=[WData.list (ns.map WData.int)]/\h.get? a=some { cls:=.type "list",data:=.seq vs.toArray }/\fG vs ns/\ns.length<=n:=by
 have i:=(pre_splitW hpre).1;have g:l.pre.holds [] { args:=args }=true:=(pre_splitW hpre).2;obtain⟨d,r,rfl,j,m⟩:=hasAllW_cons i;obtain rfl:=hasAllW_nil m;obtain⟨p,rfl,o⟩:=hasW_list j;obtain⟨b,rfl⟩:=items_int o;have f:b.length<=n:=by
  have c:(WTm.not (.lt (.lit (.int n)) (.len (.arg 0)))).holds [] { args:=[.list (b.map .int)] }=true:=by
   have c:=(holds_andW g).1;rw[hn]at c;exact c
  have e:=condW_of c (w_not (w_lt w_lit (w_len_list (w_arg rfl))))
  first
   | (rw[decide_eq_true k]at e;exact absurd e (by simp))
   | (simp at e;omega)
 cases hwl with
 |cons w1 w2=>
  cases w2;cases w1 with
  |list ho hall=>exact⟨_,_,b,rfl,rfl,ho,a2s b _ hall,f⟩
def a6H(l:OpenLaw)(args:List WData):l.row.toRowW.claim.post args (.bool true) args=true:=
 postW_of
  (show WShape.has [] _ .bool=true by first |rfl |decide |simp)
  (w_eq_bool (w_res rfl) w_lit) rfl
def attach_call{l:OpenLaw}
  (hn:l.most=some n) (hdf:d.params.defaults=[])
  (call:∀(w:World)(s₀ sj:Shared)(mg mb:Str->Option Value)(fa:Addr)(o:Obj)(pm cd doc:Value)(a:Addr)(vs:List Value)(ns:List Int),
   Ground q loose [] XP w s₀ mg mb sj.heap->YP w sj.heap ->
   sj.heap.get? fa=some o->o.data=.func (docDef d.name d.params d.body d.scope pm cd doc)->sj.heap.CodeRec cd d.name->mg d.name=some (.ref fa) ->
   sj.heap.get? a=some { cls:=.type "list",data:=.seq vs.toArray }->fG vs ns->ns.length<=n->sj.gens=#[] ->
   f9 (model l.prog w) gK (.call (.ref fa) ⟨[.ref a],[]⟩) (λr s'=>r=.ok (.ret (.bool true))/\OldK sj.heap s'.heap/\s'.os=sj.os/\f7 s'.gens) sj) :
  WalkO q loose XP YP l.row.toRowW d [] (λf vs=>PySem.call f vs):=by
 intro w C s D y G Y x o F v i Q H L B k h j N u J U c A S m T;obtain rfl:Q=.none:=Dflts.none h hdf;obtain rfl:H=.none:=Dflts.noKw h;obtain⟨a,I,E,rfl,rfl,g,b,e⟩:=a6G hn c m;refine enter_call (gn (call w C s D y x o F v i a I E G Y L (fd_plain B) k j g b e N) λr V R=>?_);obtain⟨rfl,t,z,M⟩:=R;exact⟨.inl ⟨.bool true,.bool true,[],rfl,λ_=>rfl,.bool true,a6H l _,λ_=>⟨bG.nil,λ_ p=>(nomatch p)⟩⟩,t,z,M⟩
section
variable{prog:fq}{w:World}{A:Around}{E:Value->Shared->Prop}{s:Shared}{K:Frag}
end
end Att
namespace L2
open PySem PySem.Spec PyProof.Rows
def a6I:∀{vs:List Value}{ns:List Int},fG vs ns->Vals (ns.map V.int) vs:=by intro z0 y0 x0;induction x0 with
 |nil=>exact .nil
 |cons n t h I0=>exact .cons ⟨t,rfl⟩ (I0)
def Only(H:Hp):Prop:=∀b,H b=none\/∃o xs,H b=some (.frz o (.lst xs))
noncomputable def a3b(s:Stmt)(j:Nat):Stmt:=match s with
 |.ClassDef _ _ _ body _ _ _ _ _ _ _=>body.getD j (.Pass ⟨0,0,0,0⟩)
 |_=>.Pass ⟨0,0,0,0⟩
noncomputable def a1q(s:Stmt):Arguments:=match s with
 |.FunctionDef _ a _ _ _ _ _ _ _ _=>a
 |_=>{ posonlyargs:=[],args:=[],vararg:=none,kwonlyargs:=[],kw_defaults:=[],kwarg:=none,defaults:=[] }
noncomputable def a0L(s:Stmt):List Stmt:=match s with
 |.FunctionDef _ _ b _ _ _ _ _ _ _=>b
 |_=>[]
noncomputable def a0g(s:Stmt):Scope:=match s with
 |.FunctionDef _ _ _ _ _ _ sc _ _ _=>sc
 |_=>{ kind:=.function,names:=[],isGenerator:=false,isCoroutine:=false }
abbrev CX0:CXT:=λ_ _ _ _ _ _=>False
abbrev E0:XK:=λ_ _ _=>False
def b49:a6z CX0 X E0:=λ_ _ _ _ _ _ _ h=>h.elim
structure Fun (K:Fg) (x qual:Str) (st:Stmt) (f:Addr) (fd:fK):Prop where
 ex:∃(oc:Value)(od:Option Addr)(kV doc pm:Value)(an:Option Addr)(cdv ct:Value)(osl:Array (Option Value)),
  fd=PySem.W.fnOf x qual (a1q st) (a0L st) (a0g st) .none kV doc pm an cdv ct/\K.lookup f=some ⟨oc,od,.func fd,osl⟩/\PySem.W.codeIn K cdv qual=true
 kp:PySem.W.keepIn K (.ref f)=true
section
variable{P:fq}{w:World}{K:Fg}{mg:Str->Option Value}{base:Heap}
def Fun.ok{st:Stmt}(F:Fun K x qual st f fd)(S:FnScope N ps (a0g st))(len:∀vs H Q E,sp vs H Q E->vs.length=ps.length)
  (hbody:∀(cdv:Value)(A:Around)(outer:List Env)(s:Shared)(H:Hp)(vs:List V)(Q:VK)(E:XK),Room k (A.deeper (envOfC qual (a0g st) s.heap.objs.size f cdv))->sp vs H Q E ->
   ∃t,PSs (cxOf CX0 P w K mg base N qual (a0g st) f cdv A outer s H E).nox (a0L st) t/\t { nx:=λ_ H'=>Q .non H',rt:=Q } (start N vs) H):FnOk P w K mg base CX0 (k+1) f fd ps sp:=by
 obtain⟨n,u,r,l,m,o,c,p,j,rfl,i,d⟩:=F.ex;refine b2C i d S len λA a s H g Q E e b=>?_;obtain⟨t,h,q⟩:=hbody c A a s H g Q E e b;exact⟨t,h.nox,q⟩
def Fun.binds{st:Stmt}(F:Fun K x qual st f fd)
  (h:∀(kV doc pm:Value)(an:Option Addr)(cdv ct:Value)(us:List Value),us.length=ps.length->g9 (PySem.W.fnOf x qual (a1q st) (a0L st) (a0g st) .none kV doc pm an cdv ct) ⟨us,[]⟩=pure (ps.zip us)):Binds K fd ps []:=by
 obtain⟨k,l,g,a,e,d,b,c,i,rfl,m,j⟩:=F.ex;exact .all (h g a e d b c)
def a9M{st:Stmt}{kV doc pm cdv ct:Value}(l:K.lookup f=some ⟨oc,od,.func (PySem.W.fnOf x qual (a1q st) (a0L st) (a0g st) .none kV doc pm an cdv ct),osl⟩)
  (c:PySem.W.codeIn K cdv qual=true) (k:PySem.W.keepIn K (.ref f)=true):Fun K x qual st f (PySem.W.fnOf x qual (a1q st) (a0L st) (a0g st) .none kV doc pm an cdv ct):=⟨⟨oc,od,kV,doc,pm,an,cdv,ct,osl,rfl,l,c⟩,k⟩
end
def a0f(h:n<=1000):n<sizeLine:=dj h (by decide)
section
variable{X:Cx}
def pv(i:Nat)(hN:X.N[i]?=some x:=by rfl)(hv:Vis X.env.scope x:=by first |exact bH rfl |exact bf (bH rfl) |exact bf (bf rfl))(hd:(x==("__debug__":Str))=false:=by decide)
  (hcd:(x==("__classdict__":Str))=false:=by decide):PE X (.Name x pos) (tVar i):=a6l hN hv hd hcd
end
def Same(H H':Hp):Prop:=∀b o,H b=some o->H' b=some o
def Same.refl(H:Hp):Same H H:=λ_ _ h=>h
def Same.trans(a:Same H H1)(b:Same H1 H2):Same H H2:=λc o h=>b c o (a c o h)
def Same.free(e:Same H H')(h:H' l=Option.none):H l=Option.none:=by
 cases q:H l with
 |none=>rfl
 |some o=>
  rw[e l o q]at h;cases h
def Same.seq{K:Fg}(e:Same H H')(h:SqL K H a xs):SqL K H' a xs:=by
 rcases h with (h |⟨o,h⟩) |h
 ·exact .inl (.inl (e _ _ h))
 ·exact .inl (.inr ⟨o,e _ _ h⟩)
 ·exact .inr h
section
variable{κ:Type}[DecidableEq κ]
noncomputable def valV(kvs:List (κ×V))(k:κ):Option V:=(kvs.find? λkv=>decide (kv.1=k)).map (·.2)
noncomputable def putK(kvs:List (κ×V))(k:κ)(v:V):List (κ×V):=
 if (kvs.any λkv=>decide (kv.1=k))=true then kvs.map (λkv=>if kv.1=k then (kv.1,v) else kv) else kvs++[(k,v)]
noncomputable def b2H(kvs:List (κ×V))(k:κ):List (κ×V):=kvs.filter λkv=>decide (kv.1≠k)
def a3c{k:κ}(e:p.1=k):valV (p::r) k=some p.2:=by simp[valV,bB,e]
def a3d{k:κ}(e:¬ p.1=k):valV (p::r) k=valV r k:=by simp[valV,bB,e]
def a8v(k:κ):∀kvs:List (κ×V),(kvs.any λkv=>decide (kv.1=k))=(valV kvs k).isSome:=by intro z0;induction z0 with
 |nil=>exact rfl
 |cons p r I0=>
  rw[bT]
  by_cases e:p.1=k
  ·simp only[a3c e,decide_eq_true e,Bool.true_or,Option.isSome_some]
  ·rw[a3d e,decide_eq_false e,d5];exact I0
def a1r(kvs:List (κ×V))(k:κ)(v:V):(putK kvs k v).length<=kvs.length+1:=by grind [putK]
def RelO.isSome_eq(r:RelO o u):o.isSome=u.isSome:=by
 cases o with
 |none=>cases u with
  |none=>rfl
  |some _=>exact (r).elim
 |some _=>cases u with
  |none=>exact (r).elim
  |some _=>rfl
def RelO.getD(r:RelO o u)(rd:RelV d d'):RelV (o.getD d) (u.getD d'):=by
 cases o with
 |none=>cases u with
  |none=>exact rd
  |some _=>exact (r).elim
 |some _=>cases u with
  |none=>exact (r).elim
  |some _=>exact r
noncomputable def KV.val(r:KV kvs vs)(k:κ):RelO (valV kvs k) (hU vs k):=by
 induction r with
 |nil=>exact True.intro
 | @cons p q ps qs h t ih=>
  obtain⟨c,d⟩:=h
  by_cases e:p.1=k
  ·have a:=c.symm.trans e;have b:hU (q::qs) k=some q.2:=by simp[hU,a]
   rw[a3c e,b];exact d
  ·have a:¬ q.1=k:=λz=>e (c.trans z);have b:hU (q::qs) k=hU qs k:=by simp[hU,a]
   rw[a3d e,b];exact ih
noncomputable def KV.any(r:KV kvs vs)(k:κ):(kvs.any λkv=>decide (kv.1=k))=vs.any λkv=>decide (kv.1=k):=by
 induction r with
 |nil=>rfl
 |cons h t ih=>rw[bT,bT,ih,h.1]
def KV.repl(r:KV kvs vs)(k:κ)(ry:RelV y u) :
  KV (kvs.map λkv=>if kv.1=k then (kv.1,y) else kv) (vs.map λkv=>if kv.1=k then (kv.1,u) else kv):=by
 induction r with
 |nil=>exact .nil
 | @cons p q ps qs h t ih=>
  rw[am,am];refine .cons ?_ ih;obtain⟨a,b⟩:=h
  by_cases e:p.1=k
  ·rw[if_pos e,if_pos (a.symm.trans e)];exact⟨a,ry⟩
  ·rw[if_neg e,if_neg (λz=>e (a.trans z))];exact⟨a,b⟩
noncomputable def KV.put(r:KV kvs vs)(k:κ)(ry:RelV y u):KV (putK kvs k y) (stored vs k u):=by
 unfold putK stored;rw[r.any k]
 by_cases e:(vs.any λkv=>decide (kv.1=k))=true
 ·rw[if_pos e,if_pos e];exact r.repl k ry
 ·rw[if_neg e,if_neg e];exact Paired.snoc r ⟨rfl,ry⟩
def KV.drop(r:KV kvs vs)(k:κ):KV (b2H kvs k) (without vs k):=by
 unfold b2H without
 induction r with
 |nil=>exact .nil
 | @cons p q ps qs h t ih=>
  obtain⟨c,d⟩:=h;rw[bI,bI]
  by_cases e:p.1=k
  ·simp_all
  ·have f:¬ q.1=k:=λz=>e (c.trans z);have a:decide (p.1≠k)=true:=by simp[e]
   have b:decide (q.1≠k)=true:=by simp[f]
   rw[if_pos a,if_pos b];exact .cons ⟨c,d⟩ ih
theorem KV.keys{kvs:List (κ×V)}(r:KV kvs vs):kvs.map (·.1)=vs.map (·.1):=by
 induction r with
 |nil=>rfl
 |cons h t ih=>rw[am,am,ih,h.1]
def KV.length(r:KV kvs vs):kvs.length=vs.length:=Paired.length r
end
def a6J(r:RelV (kV k) u):(a0w P w).is k u=true:=by
 match k,r with
 |.inl (some i),r=>obtain⟨t,e⟩:=(r);subst e;exact a4i P w i t
 |.inl none,r=>rw[r];rfl
 |.inr x,r=>obtain⟨t,e⟩:=(r);subst e;exact a4j P w x t
def a6K:∀{ks:List Key}{us:List Value},Vals (ks.map kV) us->ItemsAre (a0w P w) ks us:=by intro z0;induction z0 with
 |nil=>intro _ r;rw[aO]at r;cases r;exact .nil
 |cons k ks I0=>
  intro _ r;cases r with
  |cons h t=>exact .cons (a6J h) (I0 t)
abbrev KT(H:Hp):List (List Key×V)->List (List Key×Addr×Value)->Prop:=Paired λp q=>p.1=q.1/\H q.2.1=some (.tup (p.1.map kV))/\RelV p.2 q.2.2
noncomputable def KT.val(r:KT H kvs xs)(k:List Key):RelO (valV kvs k) ((atKey xs k).map (·.2)):=by
 induction r with
 |nil=>exact True.intro
 | @cons p q ps qs h t ih=>
  obtain⟨c,_,d⟩:=h
  by_cases e:p.1=k
  ·have a:=c.symm.trans e;have b:atKey (q::qs) k=some q.2:=by simp[atKey,a]
   rw[a3c e,b];exact d
  ·have a:¬ q.1=k:=λz=>e (c.trans z);have b:atKey (q::qs) k=atKey qs k:=by simp[atKey,a]
   rw[a3d e,b];exact ih
def KT.repl(r:KT H kvs xs)(k:List Key)(ry:RelV y u) :
  KT H (kvs.map λkv=>if kv.1=k then (kv.1,y) else kv) (xs.map (putAt k u)):=by
 induction r with
 |nil=>exact .nil
 | @cons p q ps qs h t ih=>
  rw[am,am];refine .cons ?_ ih;obtain⟨a,b,c⟩:=h;unfold putAt
  by_cases e:p.1=k
  ·rw[if_pos e,if_pos (a.symm.trans e)];exact⟨a,b,ry⟩
  ·rw[if_neg e,if_neg (λz=>e (a.trans z))];exact⟨a,b,c⟩
noncomputable def KT.put(r:KT H kvs xs)(k:List Key)(hb:H b=some (.tup (k.map kV)))(ry:RelV y u) :
  KT H (putK kvs k y) (storedH xs k b u):=by
 have e:(kvs.any λa=>decide (a.1=k))=(atKey xs k).isSome:=by
  rw[a8v,(r.val k).isSome_eq,Option.isSome_map]
 unfold putK storedH;rw[e]
 by_cases q:(atKey xs k).isSome=true
 ·rw[if_pos q,if_pos q];exact r.repl k ry
 ·rw[if_neg q,if_neg q];exact Paired.snoc r ⟨rfl,hb,ry⟩
def KT.keeps(r:KT H kvs xs)(ht:∀b ys,H b=some (.tup ys)->H' b=some (.tup ys)):KT H' kvs xs:=
 Paired.mapP r λ_ _ z=>⟨z.1,ht _ _ z.2.1,z.2.2⟩
section
variable{P:fq}{w:World}{H:Hp}{h:Heap}{a:Addr}
def b2I(ok:HOk P w H h)(e:Rd H a u):ObjOk P w H h a u:=e.ok ok
def b0I(ok:HOk P w H h)(e:Rd H a (.dK kvs)):kvs.length<=fi/\(a==fO)=false/\∃vs,KV kvs vs/\h.DictOf (a0w P w) a vs:=
 b2I ok e
def b0J(ok:HOk P w H h)(e:H a=some (.dK kvs)):kvs.length<=fi/\(a==fO)=false/\∃vs,KV kvs vs/\h.DictOf (a0w P w) a vs:=b0I ok (.inl e)
def a4Z(ok:HOk P w H h)(e:H a=some (.tup (ks.map kV))):(ic (a0w P w)).is h ks a:=by
 obtain⟨_,b,r,o,d,c,n,f⟩:=(ok a _ e);exact⟨o,b.toArray,n,d,c,f,by simpa using a6K r⟩
def b0K(ok:HOk P w H h)(e:Rd H a (.dT kvs)):kvs.length<=fi/\(a==fO)=false /\
  ∃xs,KT H kvs xs/\h.DictOfH (ic (a0w P w)) a xs:=by
 obtain⟨z,y,g,r,o,d,s,j,k,f,n,i⟩:=(b2I ok e);refine⟨z,y,g,r,o,d,s,j,k,f,n,λx b=>?_,i⟩;have c:∀{l:List _}{m:List _},KT H l m->∀x∈m,(ic (a0w P w)).is h x.1 x.2.1:=by
  intro l m q
  induction q with
  |nil=>intro x b;exact nomatch b
  | @cons p q ps qs hq t ih=>
   intro x b;rcases ag.mp b with e |b
   ·subst e;exact a4Z ok (by simp_all)
   ·exact ih x b
 exact c r x b
def b5a(ok:HOk P w H h)(e:H a=some (.dT kvs)):kvs.length<=fi/\(a==fO)=false /\
  ∃xs,KT H kvs xs/\h.DictOfH (ic (a0w P w)) a xs:=b0K ok (.inl e)
end
def DGet(H:Hp)(a:Addr)(y:V)(r:Option V):Prop:=
 (∃kvs k,Rd H a (.dK kvs)/\y=kV k/\r=valV kvs k)\/∃kvs k b,Rd H a (.dT kvs)/\y=.ref b/\H b=some (.tup (k.map kV))/\r=valV kvs k
def DPut(H:Hp)(a:Addr)(y v:V)(H':Hp):Prop:=
 (∃kvs k,H a=some (.dK kvs)/\y=kV k/\kvs.length<fi/\H'=upd H a (.dK (putK kvs k v))) \/
 ∃kvs k b,H a=some (.dT kvs)/\y=.ref b/\H b=some (.tup (k.map kV))/\kvs.length<fi/\H'=upd H a (.dT (putK kvs k v))
def DGet.k{k:Key}(e:H a=some (.dK kvs)):DGet H a (kV k) (valV kvs k):=.inl ⟨kvs,k,.inl e,rfl,rfl⟩
def DGet.t{k:List Key}(e:H a=some (.dT kvs))(eb:H b=some (.tup (k.map kV))):DGet H a (.ref b) (valV kvs k):=.inr ⟨kvs,k,b,.inl e,rfl,eb,rfl⟩
def DPut.k{k:Key}(e:H a=some (.dK kvs))(hl:kvs.length<fi):DPut H a (kV k) v (upd H a (.dK (putK kvs k v))):=.inl ⟨kvs,k,e,rfl,hl,rfl⟩
def DPut.t{k:List Key}(e:H a=some (.dT kvs))(eb:H b=some (.tup (k.map kV)))(hl:kvs.length<fi) :
  DPut H a (.ref b) v (upd H a (.dT (putK kvs k v))):=.inr ⟨kvs,k,b,e,rfl,eb,hl,rfl⟩
section
variable{X:Cx}{pins:List (Addr×Obj)}{σ:St}{H:Hp}{s:Shared}{a:Addr}{y v:V}{u r:Value}{o:Option V}{A:Around}{E:Value->Shared->Prop}
def Inv.big(I:Inv X pins σ H s):fO<s.heap.objs.size:=by
 have h:=(I.mod.glob.keeps I.bk).lt;exact dq (by decide) h
def a4m(I:Inv X pins σ H s)(mu:Mut (H a))(hs:Heap.SameBut a s.heap h')(he:∃q,h'.get? a=some q)(new:ObjOk X.prog X.w (upd H a ob) h' a ob) :
  Inv X pins σ (upd H a ob) { s with heap:=h',toks:=t' }:=
 I.write mu (.inl rfl) (λb q c z=>(hs.2 b c).trans z) he new
def a9N(z:kvs.length<=fi)(hd:(a==fO)=false)(rel:KV kvs vs)(dd:h'.DictOf (a0w P w) a vs) :
  ObjOk P w H' h' a (.dK kvs):=⟨z,hd,vs,rel,dd⟩
def a6L(hu:A.units+1<cLine)(I:Inv X pins σ H s)(g:DPut H a y v H')(ry:RelV y u)(rv:RelV v r)(h:∀s',Inv X pins σ H' s'->Q () s') :
  wpAny (model X.prog X.w) A (iE (.ref a) u r) Q E s:=by
 rcases g with ⟨kvs,k,e,ey,l,eH⟩ |⟨kvs,k,b,e,ey,eb,l,eH⟩
 ·subst ey eH;obtain⟨z,m,F,d,p⟩:=b0J I.hok e;have o:F.length<=sizeLine:=d.length▸z;have n:(putK kvs k v).length<=sizeLine:=by have:=a1r kvs k v;lia
  refine wpAny_setItem_pairs (a6J ry) p λx f j=>h _ ?_;have L:∃q,x.get? a=some q:=by obtain⟨q,_,_,i,_⟩:=f;exact⟨q,i⟩
  exact a4m I (e▸True.intro) j L (a9N n m (d.put k rv) f)
 ·subst ey eH;cases (ry);obtain⟨z,m,D,d,p⟩:=b5a I.hok e;have o:D.length<=sizeLine:=(Paired.length d)▸z;have n:(putK kvs k v).length<=sizeLine:=by have:=a1r kvs k v;lia
  refine wpAny_setItem_heap (hsz:=o) (jk hu) (a4Z I.hok eb) p λx f j=>h _ ?_;obtain⟨q,C,M,i,J,N,B,_,G⟩:=f;refine a4m I (e▸True.intro) j ⟨q,i⟩ ⟨n,m,_,(d.put k eb rv).keeps λc R t=>?_,q,C,M,i,J,N,B,G⟩;rw[a0d (b4N t e (λz=>nomatch z))];exact t
end
section
variable{X:Cx}{pins:List (Addr×Obj)}{σ:St}{H:Hp}{s:Shared}{a:Addr}{kvs:List (Key×V)}{k:Key}{u:Value}{A:Around}{E:Value->Shared->Prop}
end
section
variable{X:Cx}{o i e value:Expr}{pos pos' tpos:Pos}{td ty tv:TE}
end
def a8w(h:Heap)(hb:fO<h.objs.size):ObjOk P w H (h.push { cls:=.type "dict",data:=.dict #[] }) h.objs.size (.dK []):=
 ⟨aK _,beq_eq_false_iff_ne.mpr (Ne.symm (ao hb)),[],.nil,Heap.DictOf.new h⟩
def b2J:TE:=λ_ H Q=>∀p,H p=none->Q (.ref p) (upd H p (.dK []))
section
variable{X:Cx}{pos:Pos}
def a8x:PE X (.Dict [] [] pos) b2J:=λb s σ H Q I h=>
 wpAny_Dict_empty ⟨.ref s.heap.objs.size,_,I.laid (λ_ _ q=>Heap.get?_push_of_some _ q) (af _) (a8w s.heap I.big),rfl,h _ (I.hok.fresh (af _))⟩
end
noncomputable def b2K(kvs more:List (Key×V)):List (Key×V):=more.foldl (λacc kv=>putK acc kv.1 kv.2) kvs
def KV.merge:∀{more:List (Key×V)}{rs:List (Key×Value)}{kvs:List (Key×V)}{vs:List (Key×Value)},KV more rs->KV kvs vs->KV (b2K kvs more) (merged vs rs):=by
 intro d f a b r
 induction r generalizing a b with
 |nil=>intro q;exact q
 | @cons p q ps qs h t ih=>
  intro c;have e:KV (putK a p.1 p.2) (stored b q.1 q.2):=by
   have:=c.put p.1 h.2
   rw[<- h.1];exact this
  exact ih e
structure M2 (X:Cx) (o:Expr) (m:Str) (apos:Pos) (e f:Expr) (cpos:Pos):Prop where
 base:jh o m X.env (eval o X.env)=eval o X.env
 few:((backTo cpos (fu [e,f] X.env)).all (λx=>!x.1)&&(ji cpos (jj [] X.env)).all (λx=>x.1.isSome)
  && decide (([e,f]:List Expr).length+([]:List gH).length+(if ([]:List gH).isEmpty then 0 else 1)<30))=true
 line:(apos.endLine==cpos.line)=true
 trees:backTo cpos (fu [e,f] X.env)=[(false,eval e X.env),(false,eval f X.env)]
section
variable{X:Cx}{pins:List (Addr×Obj)}{σ:St}{H:Hp}{s:Shared}{a:Addr}{y d:V}{u r:Value}{o:Option V}{A:Around}{E:Value->Shared->Prop}
def b2L(hu:A.units+1<cLine)(I:Inv X pins σ H s)(g:DGet H a y o)(ry:RelV y u)(h:∀w' s',Inv X pins σ H s'->RelV (o.getD .non) w'->Q w' s') :
  wpAny (model X.prog X.w) A (call (.builtin "dict.get") [.ref a,u]) Q E s:=by
 rcases g with ⟨kvs,k,e,ey,l⟩ |⟨kvs,k,b,e,ey,eb,l⟩
 ·subst ey;obtain⟨z,f,j,d,c⟩:=b0I I.hok e;refine ik PySem.F.slot_dict_get c.typeIs PySem.F.entry_dict_get (PySem.F.args_dict_get_2 _ _) (meets_dict_get _ a (a6J ry) f) ⟨_,c.mapOf,h _ _ (I.tok _) ?_⟩;rw[l];exact (d.val k).getD rfl
 ·subst ey;cases (ry);obtain⟨z,f,i,d,c⟩:=b0K I.hok e;refine ik PySem.F.slot_dict_get c.typeIs PySem.F.entry_dict_get (PySem.F.args_dict_get_2 _ _) (meetsH_dict_get _ a b f) ⟨jk hu,k,i,a4Z I.hok eb,c,h _ _ (I.tok _) ?_⟩;rw[l];exact (d.val k).getD rfl
def b2M(hu:A.units+1<cLine)(I:Inv X pins σ H s)(g:DGet H a y o)(ry:RelV y u)(rd:RelV d r)(h:∀w' s',Inv X pins σ H s'->RelV (o.getD d) w'->Q w' s') :
  wpAny (model X.prog X.w) A (call (.builtin "dict.get") [.ref a,u,r]) Q E s:=by
 rcases g with ⟨kvs,k,e,ey,l⟩ |⟨kvs,k,b,e,ey,eb,l⟩
 ·subst ey;obtain⟨z,i,m,f,c⟩:=b0I I.hok e;refine ik PySem.F.slot_dict_get c.typeIs PySem.F.entry_dict_get (PySem.F.args_dict_get_3 _ _ _) (meets_dict_get_default _ a (a6J ry) i r) ⟨_,c.mapOf,h _ _ (I.tok _) ?_⟩;rw[l];exact (f.val k).getD rd
 ·subst ey;cases (ry);obtain⟨z,i,j,f,c⟩:=b0K I.hok e;refine ik PySem.F.slot_dict_get c.typeIs PySem.F.entry_dict_get (PySem.F.args_dict_get_3 _ _ _) (meetsH_dict_get_default _ a b i r) ⟨jk hu,k,j,a4Z I.hok eb,c,h _ _ (I.tok _) ?_⟩;rw[l];exact (f.val k).getD rd
end
section
variable{X:Cx}{o e f:Expr}{apos cpos:Pos}{td ty tx:TE}
end
section
variable{X:Cx}{pins:List (Addr×Obj)}{σ:St}{H:Hp}{s:Shared}{a:Addr}{kvs:List (Key×V)}{A:Around}{E:Value->Shared->Prop}
end
section
variable{X:Cx}{pins:List (Addr×Obj)}{σ:St}{H:Hp}{s:Shared}{a:Addr}{y:V}{u:Value}{A:Around}{E:Value->Shared->Prop}
end
end L2
namespace PySem
noncomputable def a0D(env:Env):List (Str×fA)->List (Str×Addr)->List (Str×Addr)
 |[],cs=>cs
 | (n,k)::r,cs=>if (k==.free)=true then a0D env r ((n,(env.cells.lookup n).getD 0)::cs) else a0D env r cs
def a3e(h:∀x∈scope.names,x.2=.free->∃c,env.cells.lookup x.1=some c):im scope env=pure (a0D env scope.names []):=by
 simp only[im]
 suffices H:∀l b,(∀x∈l,x.2=.free->∃c,env.cells.lookup x.1=some c) ->
   forIn l b _=pure (a0D env l b) by
  rw[H scope.names [] h];rfl
 intro l
 induction l with
 |nil=>intro b _;rfl
 |cons x l ih=>
  intro b j;obtain⟨n,k⟩:=x;have g:=λb=>ih b λy o=>j y (bF _ o);rw[b6]
  by_cases hk:k=.free
  ·subst hk;obtain⟨c,m⟩:=j _ aX rfl;have f:cellOf env n=pure c:=by unfold cellOf;rw[m]
   rw[if_pos (show (fA.free==fA.free)=true from rfl),f];have e:a0D env ((n,fA.free)::l) b=a0D env l ((n,c)::b):=by
    show (if (fA.free==fA.free)=true then _ else _)=_
    rw[m];rfl
   rw[e,<- g ((n,c)::b)]
   rfl
  ·have i:(k==fA.free)=false:=by simpa using hk
   have e:a0D env ((n,k)::l) b=a0D env l b:=by
    show (if (k==fA.free)=true then _ else _)=_
    rw[i];rfl
   rw[e,<- g b];rw[i,if_neg aR]
   rfl
def a3f:∀(l:List (Str×fA))(cs:List (Str×Addr)),(∀y∈l,y.2=.free->∃c,env.cells.lookup y.1=some c)->(∀y c,cs.lookup y=some c->env.cells.lookup y=some c) ->
  ∀c,(a0D env l cs).lookup x=some c->env.cells.lookup x=some c:=by intro z0;induction z0 with
 |nil=>intro cs _ hc c h;exact hc x c h
 |cons q0 r I0=>
  obtain⟨n,k⟩:=q0;intro cs hx hc c h;have g:=λy m=>hx y (bF _ m);unfold a0D at h
  split at h
  ·rename_i hk
   have f:k=.free:=by simpa using hk
   obtain⟨d,j⟩:=hx (n,k) aX f;refine I0 _ g (λy i a=>?_) c h;rw[bU]at a;cases e:y==n with
   |true=>
    rw[e]at a;have o:y=n:=by simpa using e
    subst o;rw[j]at a ⊢;exact a
   |false=>rw[e]at a;exact hc y i a
  ·exact I0 cs g hc c h
def a4n:∀(l:List (Str×fA))(cs:List (Str×Addr))(c:Addr),cs.lookup x=some c->∃c',(a0D env l cs).lookup x=some c':=by intro z0;induction z0 with
 |nil=>intro cs c h;exact⟨c,h⟩
 |cons q0 r I0=>
  obtain⟨n,k⟩:=q0;intro cs c h;unfold a0D
  split
  ·cases e:x==n with
   |true=>exact I0 _ _ (by rw[bU,e])
   |false=>exact I0 _ c (by rw[bU,e];exact h)
  ·exact I0 cs c h
def a2T:∀(l:List (Str×fA))(cs:List (Str×Addr)),(x,fA.free)∈l->∃c,(a0D env l cs).lookup x=some c:=by intro z0;induction z0 with
 |nil=>intro cs h;cases h
 |cons _ r I0=>
  intro cs h;unfold a0D;rcases ag.mp h with e |e
  ·cases e;exact a4n r _ ((env.cells.lookup x).getD 0) (by simp)
  ·split
   ·exact I0 _ e
   ·exact I0 _ e
def a2F{env:Env}:∀(names:List (Str×fA)),
  (names.map λ(n,k)=>if (k==fA.free&&env.scope.kind==.function&&env.kindOf n==some .cell) then (n,fA.cell) else (n,k)).lookup x =
   (names.lookup x).map λk=>if (k==fA.free&&env.scope.kind==.function&&env.kindOf x==some .cell)=true then fA.cell else k:=by intro z0;induction z0 with
 |nil=>exact rfl
 |cons q0 r I0=>
  obtain⟨n,k⟩:=q0;have a:=I0
  show List.lookup x ((if _=true then _ else (n,k))::_)=_
  cases hx:x==n with
  |true=>
   have e:x=n:=by grind
   subst e
   by_cases hc:(k==fA.free&&env.scope.kind==.function&&env.kindOf x==some .cell)=true
   simp only[bU,hx,b7,if_pos hc];simp only[bU,hx,b7,if_neg hc]
  |false=>
   by_cases hc:(k==fA.free&&env.scope.kind==.function&&env.kindOf n==some .cell)=true
   ·rw[if_pos hc];simp only[bU,hx];exact a
   ·rw[if_neg hc];simp only[bU,hx];exact a
def a1s(I:Nat->Shared->Prop)
  (turn:∀n s,I n s->wpAny (model prog w) A (pyNext it) (λr sj=>match r with
   |none=>R (.ok .next) sj
   |some v=>wpAny (model prog w) A (ja target it v) (λ_ sj=>wpAny (model prog w) A (assign target env v) (λ_ sv=>
     wpAny (model prog w) A (forIn ifs true λc r=>if r=true then do let ok <- isTrue c env (eval c env);pure (ForInStep.yield ok) else pure (ForInStep.yield r)) (λok sw=>
      if ok=true then wpAny (model prog w) A (eval elt env) (λx sJ=>
       wpAny (model prog w) A (call (.builtin "list.append") [acc,x]) (λ_ sQ=>∃m,m<n/\I m sQ) (io (model prog w) A env λe s'=>R (.error e) s') sJ) (io (model prog w) A env λe s'=>R (.error e) s') sw
      else ∃m,m<n/\I m sw) (io (model prog w) A env λe s'=>R (.error e) s') sv) (io (model prog w) A env λe s'=>R (.error e) s') sj) (λ_ _=>False) sj) (λ_ _=>False) s)
  (n:Nat) (h:I n s) :
  f9 (model prog w) A (.compLoop (.ListComp elt [⟨target,iter,ifs,0⟩] scope pos) 0 it acc env) R s:=by
 refine codeAny_loop rfl I (λn s k=>?_) n h;refine wpAny_noted (e9 (i7 (e9 (fD (turn n s k) (λr d a=>?_) λ_ _ f=>f.elim))));cases r with
 |none=>exact fc a
 |some v=>
  refine e9 (fD a (λ_ d a=>?_) λ_ _ f=>f.elim);refine e9 (fD a (λ_ p g=>e9 (fD g (λl z b=>?_) λ_ _ f=>f)) λ_ _ f=>f);cases l with
  |false=>exact fc ⟨rfl,b⟩
  |true=>
   exact e9 (e9 (fD b (λx o i=>e9 (fD i (λ_ u j=>fc (fc ⟨rfl,j⟩)) λ_ _ f=>f)) λ_ _ f=>f))
theorem a0K:∀(names:List (Str×fA))(n:Nat)(acc:List (Str×Addr)),fB n names acc=fB n names []++acc
 |[],_,_=>rfl
 | (x,k)::r,n,acc=>by
  rw[fB,fB]
  split
  ·rw[a0K r _ _,a0K r _ [_]];simp
  ·exact a0K r n acc
theorem a2t:∀{names:List (Str×fA)}{n:Nat},(x,c)∈fB n names []->(x,fA.cell)∈names
 |[],_,h=>by rw[fB]at h;simp at h
 |_::r,n,h=>by
  rw[fB]at h
  split at h
  ·next e=>
   rw[a0K,ah]at h;rcases h with h |h
   ·exact .tail _ (a2t h)
   ·grind
  ·exact .tail _ (a2t h)
def a3g{code:Value}
  (h:∀h',h'.Ns s.heap.objs.size (λ_=>none)->(∀b o,s.heap.get? b=some o->h'.get? b=some o)->iJ h' (s.heap.objs.size+1) (fB (s.heap.objs.size+1) scope.names [])->Q (newEnv scope s.heap.objs.size globals (fB (s.heap.objs.size+1) scope.names closure) qual func code around builtins) { s with heap:=h' }) :
  wpAny M A (newFunctionEnv scope globals closure [] qual func code around builtins) Q E s:=by
 refine e9 (jl (e9 (wpAny_layCells _ (λ_ _ _=>rfl) scope.names closure _ _ ?_)));have e:=Heap.size_push s.heap { cls:=Value.type (if around.isSome=true then "dict" else "frame"),data:=.dict #[] };have q:=h _ ((Heap.Ns.new s.heap _).keeps (pushCells_keeps _ _)) (λb o h=>pushCells_keeps _ _ _ _ (Heap.get?_push_of_some _ h)) (by
  rw[<- e];exact cellsFrom_ok scope.names _ _ [] ⟨λ_ _ h=>by simp at h,.nil⟩ (af _))
 rw[<- e]at q;exact e9 (fc (fc q))
end PySem
namespace L2
open PySem PySem.Spec PyProof.Rows
noncomputable def a1U(cap:List (Option Nat))(σ:St):St:=cap.map λo=>o.bind λj=>(σ[j]?).join
def a00:St->St->Prop
 |[],[]=>True
 |none::a,_::b=>a00 a b
 |some x::a,y::b=>y=some x/\a00 a b
 |_,_=>False
theorem a1V:∀{a b:St},a00 a b->a.length=b.length/\∀(i:Nat) v,a[i]?=some (some v)->b[i]?=some (some v)
 |[],[],_=>⟨rfl,λi v h=>by simp at h⟩
 |none::a,y::b,h=>by
  have c:=a1V (b:=b) h;refine⟨by simp[c.1],λi v e=>?_⟩;cases i with
  |zero=>simp at e
  |succ i=>simpa using c.2 i v (by simp_all)
 |some x::a,y::b,h=>by
  obtain⟨d,h⟩:=(h);have c:=a1V (b:=b) h;refine⟨by simp[c.1],λi v e=>?_⟩;cases i with
  |zero=>rw[d];simpa using e
  |succ i=>simpa using c.2 i v (by simpa using e)
 |[],_::_,h=>ap h
 |none::_,[],h=>ap h
 |some _::_,[],h=>ap h
theorem a1d:∀a:St,a00 a a
 |[]=>True.intro
 |none::a=>a1d a
 |some _::a=>⟨rfl,a1d a⟩
noncomputable def capB(N:List Str)(so sc:Scope)(N':List Str)(cap:List (Option Nat)):Bool:=
 decide (sc.kind=.function)&&decide N'.Nodup&&decide (cap.length=N'.length)&&(sc.names.all λy=>decide (y.2=.cell->sc.names.lookup y.1=some .cell)) &&
 (sc.names.all λy=>decide (y.2=.local->sc.names.lookup y.1=some .local)) &&
 (sc.names.all λy=>decide (y.2=.free->so.names.lookup y.1=some .cell\/so.names.lookup y.1=some .free)) &&
 ((N'.zip cap).all λy=>match y.2 with |none=>true |some j=>decide (N[j]?=some y.1)&&decide (sc.names.lookup y.1=some .free))
structure CapOk (N:List Str) (so sc:Scope) (N':List Str) (cap:List (Option Nat)):Prop where
 kind:sc.kind=.function
 nd:N'.Nodup
 len:cap.length=N'.length
 cms:∀y∈sc.names,y.2=.cell->sc.names.lookup y.1=some .cell
 nms:∀y∈sc.names,y.2=.local->sc.names.lookup y.1=some .local
 fre:∀y∈sc.names,y.2=.free->so.names.lookup y.1=some .cell\/so.names.lookup y.1=some .free
 cap:∀(i:Nat) x j,N'[i]?=some x->cap[i]?=some (some j)->N[j]?=some x/\sc.names.lookup x=some .free
def a6M(h:capB N so sc N' cap=true):CapOk N so sc N' cap:=by
 unfold capB at h;simp only[aQ,decide_eq_true_eq,bg]at h;obtain⟨⟨⟨⟨⟨⟨f,k⟩,d⟩,g⟩,b⟩,l⟩,e⟩:=h;refine⟨f,k,d,g,b,l,λi x j c a=>?_⟩;have m:(N'.zip cap)[i]?=some (x,some j):=by rw[List.getElem?_zip_eq_some];exact⟨c,a⟩
 simpa using (e (x,some j) (aD m))
structure Lk (fr:List Addr) (ex:Addr->Prop) (h h':Heap):Prop where
 keep:∀b o,h.get? b=some o->b∉fr->¬ ex b->h'.get? b=some o
 slot:∀b o,h.get? b=some o->¬ ex b->∃sl,h'.get? b=some { o with slots:=sl }
 size:h.objs.size<=h'.objs.size
def Lk.refl{fr:List Addr}{ex:Addr->Prop}{h:Heap}:Lk fr ex h h:=⟨λ_ _ q _ _=>q,λ_ o q _=>⟨o.slots,q⟩,af _⟩
def Lk.trans{fr:List Addr}{ex ex2:Addr->Prop}{h h1 h2:Heap}(a:Lk fr ex h h1)(b:Lk fr ex2 h1 h2)(i:∀x,ex2 x->ex x\/h.objs.size<=x):Lk fr ex h h2:=by
 have n:∀{x o},h.get? x=some o->¬ ex x->¬ ex2 x:=λ{x o} q n z=>by
  rcases i x z with z |z
  ·exact n z
  ·exact absurd (Heap.lt_size q) (Nat.not_lt.mpr z)
 refine⟨λx o q f z=>b.keep x o (a.keep x o q f z) f (n q z),λx o q z=>?_,ax a.size b.size⟩;obtain⟨sl,e⟩:=a.slot x o q z;obtain⟨sl2,e2⟩:=b.slot x _ e (n q z);exact⟨sl2,e2⟩
theorem Lk.funs(k:Lk fr ex h h'):∀{l:List Env},(∀b∈frs l,¬ ex b)->h.FunFrames base l->h'.FunFrames base l
 |[],_,_=>True.intro
 |env::rest,hx,⟨hk,⟨L,o,hf,hn,ho,hd⟩,hr⟩=>by
  have a:L∈frs (env::rest):=by show L∈(env::rest).filterMap _;rw[bz,hf];exact .head _
  obtain⟨d,e⟩:=k.slot L o ho (hx L a);exact⟨hk,⟨L,_,hf,hn,e,hd⟩,k.funs (λb c=>hx b (by show b∈(env::rest).filterMap _;rw[bz,hf];exact .tail _ c)) hr⟩
def FlyT(e:Addr)(cls:Value)(T:Addr)(fl:Value)(h:Heap):Prop:=∃oe vs oT ts,h.get? e=some oe/\(oe.cls=cls/\oe.dict=none)/\oe.data=.fields vs/\vs[1]?=some (.ref T)/\T≠e/\h.get? T=some oT/\oT.data=.fields ts/\ts[3]?=some fl
section
variable{M:Model}{A:Around}{E:Value->Shared->Prop}{s:Shared}{base:Heap}{env:Env}{outer:List Env}{L e T:Addr}{cls fl:Value}{Q:Unit->Shared->Prop}
def FlyT.field{Q:Value->Shared->Prop}(h:FlyT e cls T fl s.heap)(q:Q (.ref T) s):wpAny M A (field (.ref e) 1) Q E s:=by
 obtain⟨_,_,_,_,a,_,b,c,_⟩:=h;exact fW a b c q
def FlyT.mark{Q:Value->Shared->Prop}(h:FlyT e cls T fl s.heap)(q:Q fl s):wpAny M A (PySem.field (.ref T) 3) Q E s:=by
 obtain⟨_,_,_,_,_,_,_,_,_,a,c,b⟩:=h;exact fW a c b q
end
def Un.lk(u:Un fs ex0 H0 H h0 h)(v:Lk fr ex h h')(hf:∀b∈fr,b∈fs\/h0.get? b=none)(hx:∀b,ex b->b∈ex0\/h0.get? b=none):Un fs ex0 H0 H h0 h':=by
 have g:∀{b o},h0.get? b=some o->b∉ex0->¬ ex b:=λ{b o} q n z=>by
  rcases hx b z with z |z
  ·grind
  ·grind
 refine⟨λb o q n c a=>?_,λb o q n c a=>?_,u.free,λb o q a=>?_,u.tups,u.frzs,u.tbls⟩
 ·refine v.keep b o (u.keep b o q n c a) (λz=>?_) (g q a);rcases hf b z with z |z
  ·grind
  ·grind
 ·obtain⟨j,f⟩:=u.slot b o q n c a;obtain⟨d,e⟩:=v.slot b _ f (g q a);exact⟨d,e⟩
 ·obtain⟨i,f⟩:=u.there b o q a;obtain⟨d,e⟩:=v.slot b _ f (g q a);exact⟨_,e⟩
def ObjOk.is(x:ObjOk P w H h a o):∃ob,h.get? a=some ob:=by
 cases o with
 |lst xs=>obtain⟨_,_,_,_,e⟩:=x;exact⟨_,e⟩
 |tup xs=>obtain⟨_,_,_,b,e,_⟩:=x;exact⟨_,e⟩
 |dK kvs=>obtain⟨_,_,_,_,o,_,_,e,_⟩:=x;exact⟨_,e⟩
 |dT kvs=>obtain⟨_,_,_,_,o,_,_,e,_⟩:=x;exact⟨_,e⟩
 |set S n=>obtain⟨o,_,_,_,e,_⟩:=x;exact⟨_,e⟩
 |ins C dx fs=>obtain⟨_,_,_,e,_⟩:=x;exact⟨_,e⟩
 |own y=>obtain⟨_,e⟩:=x;exact⟨_,e⟩
 |xd fs=>obtain⟨_,⟨_,_,_,e,_⟩,_⟩:=x;exact⟨_,e⟩
 |rng lo hi=>obtain⟨_,_,_,e⟩:=x;exact⟨_,e⟩
 |frz b u=>obtain⟨e,_⟩:=x;exact⟨_,e⟩
 |tbl ps=>exact⟨_,x⟩
 |met f y=>exact⟨_,x⟩
 |ext φ=>obtain⟨_,⟨_,e⟩,_⟩:=x;exact⟨_,e⟩
def HOk.lk(x:HOk P w H h)(l:Lk fr ex h h')(hf:∀b∈fr,H b=none)(he:∀b,ex b->H b=none):HOk P w H h':=λa o q=>
 (x a o q).stay (λb u c r=>by
  have d:H b≠none:=by
   rcases c with rfl |c
   ·simp_all
   ·simp_all
  exact l.keep b u r (λz=>d (hf b z)) λz=>d (he b z)) (λ_ q=>q) λ_ _ q=>q
structure Fly (N:Addr->Prop) (H:Hp) (fl:Value) (e:Addr) (cls:Value) (h:Heap):Prop where
 at_:∃T,FlyT e cls T fl h/\N T/\H T=none
 old:N e
 free:H e=none
def CXx(P:fq)(w:World):CXT:=λouter H s E ev s'=>∃e C H',ev=.ref e/\s'.os=s.os/\f7 s'.gens/\Un (frs outer) [] H H' s.heap s'.heap/\HOk P w H' s'.heap/\Fly (λb=>s.heap.get? b=none) H' .none e (.ref C) s'.heap/\E (.ref C) none H'
structure TKs (H H':Hp):Prop where
 tup:∀b xs,H b=some (.tup xs)->H' b=some (.tup xs)
 frz:∀b o u,H b=some (.frz o u)->H' b=some (.frz o u)
def since(H:Hp)(E:XK):XK:=λc d H'=>TKs H H'->E c d H'
structure Outs (X:Cx) (E:XK):Prop where
 xe:∀ev s',wpAny (model X.prog X.w) X.A (leaving X.env ev) (λ_ s''=>CXx X.prog X.w X.outer X.H₀ X.s₀ E ev s'') (λe' s''=>CXx X.prog X.w X.outer X.H₀ X.s₀ E e' s'') s'->X.xe ev s'
 stk:X.stack=X.env::X.outer
 frm:X.env.frame=some X.env.locals
 ex:X.ex=[]
def Outs.of{P:fq}{w:World}{K:Fg}{mg:Str->Option Value}{base:Heap}{N:List Str}{qual:Str}{scope:Scope}{f:Addr}{cd:Value}{A:Around}{outer:List Env}{s:Shared}{H:Hp}{E:XK}:Outs (cxOf (CXx P w) P w K mg base N qual scope f cd A outer s H E) E:=⟨λ_ _ h=>h,rfl,rfl,rfl⟩
section
variable{X:Cx}{E:XK}{pins:List (Addr×Obj)}{σ:St}{H:Hp}{s:Shared}
def Outs.frames(O:Outs X E)(I:Inv X pins σ H s):X.A.frames=some (X.env::X.outer):=by rw[<- O.stk];exact I.ok.frames
def Outs.sub(O:Outs X E)(I:Inv X pins σ H s):∀b∈frs (X.env::X.outer),b∈X.fs\/X.s₀.heap.get? b=none:=λb a=>by
 rw[<- O.stk]at a;rcases ag.mp (I.stkSub b a) with z |z
 ·rw[z];exact .inr (Heap.get?_none_of_le I.ok.above)
 ·exact .inl z
def Outs.funs(O:Outs X E)(I:Inv X pins σ H s):s.heap.FunFrames X.base (X.env::X.outer):=by rw[<- O.stk];exact I.stack
def Outs.free(O:Outs X E)(I:Inv X pins σ H s):∀b∈frs (X.env::X.outer),H b=none:=by rw[<- O.stk];exact I.stkFree
def Outs.base(O:Outs X E)(I:Inv X pins σ H s):Un X.fs [] X.H₀ H X.s₀.heap s.heap:=by have:=I.base;rw[O.ex]at this;exact this
def Outs.fin(O:Outs X E)(I:Inv X pins σ H s){e C T:Addr}{ex:Addr->Prop}{h':Heap}(k:Lk (frs (X.env::X.outer)) ex s.heap h')(f:FlyT e (.ref C) T .none h')(hx:∀b,ex b->X.s₀.heap.get? b=none/\H b=none)(he:ex e)(hT:ex T\/s.heap.objs.size<=T)(q:since X.H₀ E (.ref C) none H) :
  CXx X.prog X.w X.outer X.H₀ X.s₀ E (.ref e) { s with heap:=h' }:=
 ⟨e,C,H,rfl,I.os,I.bare,(O.base I).lk k (O.sub I) (λb hb=>.inr (hx b hb).1),I.hok.lk k (O.free I) λb hb=>(hx b hb).2,⟨⟨T,f,by
  rcases hT with z |z
  ·exact hx T z
  ·exact⟨Heap.get?_none_of_le (ax I.sz z),I.hok.fresh z⟩⟩,(hx e he).1,(hx e he).2⟩,q ⟨I.base.tups,I.base.frzs⟩⟩
end
def ExC(X:Cx)(E:XK)(C:Addr)(s:Shared)(H:Hp)(fp:List Addr)(ev:Value)(s':Shared):Prop:=
 ∃e Cl H',ev=.ref e/\s'.os=s.os/\f7 s'.gens/\Un (frs X.stack) fp H H' s.heap s'.heap/\HOk X.prog X.w H' s'.heap/\Fly (λb=>b∈fp\/s.heap.get? b=none) H' .none e (.ref Cl) s'.heap/\(∃m,s'.heap.Ns C m)/\H' C=none/\C≠e/\E (.ref Cl) none H'
def a3h(X:Cx)(EW:XK)(sc:Scope):Prop:=∀(pins:List (Addr×Obj))(σ:St)(H:Hp)(s:Shared)(C:Addr)(fp:List Addr)(use:Option (Value->Sem Unit))(Fin:Value->Shared->Prop)(acc:Value),Inv X pins σ H s->(∀b∈fp,FpOk X pins H b)->C=s.heap.objs.size ->
 ∀ev s',ExC X EW C s H fp ev s'->io (model X.prog X.w) X.A (hV sc (fB (C+1) sc.names (a0D X.env sc.names [])) C X.env) (λe s''=>jo (model X.prog X.w) X.A X.xe use Fin acc C (.error e) s'') ev s'
def a40:a3h X (λ_ _ _=>False) sc:=by
 rintro a σ H s C g d c b _ _ _ e f ⟨_,_,_,_,_,_,_,_,_,_,_,_,q⟩;exact q.elim
noncomputable def cxC(X:Cx)(EW:XK)(N':List Str)(sc:Scope)(C:Addr)(s:Shared)(H:Hp)(fp:List Addr):Cx:=
 { X with N:=N',s₀:=s,H₀:=H,env:=hV sc (fB (C+1) sc.names (a0D X.env sc.names [])) C X.env,outer:=X.stack,stack:=X.stack,ex:=fp,fn:=λx=>sc.names.lookup x==some .cell,pn:=[],xe:=ExC X EW C s H fp }
def PIfs(X:Cx)(ifs:List Expr)(t:TT):Prop:=
 ∀(pins:List (Addr×Obj))(s:Shared)(σ:St)(H:Hp)(Q:Bool->Hp->Prop),Inv X pins σ H s->t σ H Q ->
  wpAny (model X.prog X.w) X.A (forIn ifs true λc r=>if r=true then do let ok <- isTrue c X.env (eval c X.env);pure (ForInStep.yield ok) else pure (ForInStep.yield r)) (TP X pins σ Q) X.xe s
def tTT:TT:=λ_ H Q=>Q true H
def a8y:PIfs X [] tTT:=λ_ _ _ H _ I h=>wpAny_tests_nil ⟨H,I,h⟩
def a8z(h:PT X c t):PIfs X [c] t:=λa s σ H Q I q=>wpAny_tests_one (h a s σ H Q I q)
def LcB(J:It)(cap:List (Option Nat))(g:TG)(tt:TT)(te:TE)(σ:St)(Q:VK)(D:Addr)(H1:Hp):Prop:=
 ∃W:Nat->Nat->List V->Hp->Prop,(∃m,W 0 m [] (upd H1 D (.lst [])))/\∀i m ys H2,W i m ys H2 ->
  (J.stop i H2/\Q (.ref D) H2) \/
  (J.go i H2/\∃N:List V->Hp->Prop,(∀ys' H',N ys' H'->∃m',m'<m/\W (i+1) m' ys' H')/\∀x H',J.yld i H2 x H' ->
   g x (a1U cap σ) H' fun σ2 H3=>a00 (a1U cap σ) σ2/\tt σ2 H3 λb H4=>if b=true then te σ2 H4 λy H5=>∃zs,H5 D=some (.lst zs)/\zs.length<fi/\N (zs++[y]) (upd H5 D (.lst (zs++[y]))) else N ys H4)
def tLC(wi:TI)(cap:List (Option Nat))(g:TG)(tt:TT)(te:TE):TE:=fun σ H Q=>wi σ H λJ H1=>∀D,H1 D=none->LcB J cap g tt te σ Q D H1
structure CFree (X:Cx) (pins:List (Addr×Obj)) (H:Hp) (C:Addr):Prop where
 free:H C=none
 loc:C≠X.env.locals
 old:X.s₀.heap.objs.size<=C
 cell:∀x c,X.env.cells.lookup x=some c->c≠C
 pin:∀p∈X.pn++pins,p.1≠C
section
variable{X:Cx}{pins:List (Addr×Obj)}{σ:St}{H:Hp}{s:Shared}{N':List Str}{sc:Scope}{cap:List (Option Nat)}{C:Addr}{fp:List Addr}{EW:XK}
def a6N(I:Inv X pins σ H s)(ck:CapOk X.N X.env.scope sc N' cap):∀x∈sc.names,x.2=.free->∃c,X.env.cells.lookup x.1=some c:=λx a b=>
 I.ok.has x.1 (ck.fre x a b)
def a2U(I:Inv X pins σ H s)(ck:CapOk X.N X.env.scope sc N' cap)(h:(a0D X.env sc.names []).lookup x=some c):X.env.cells.lookup x=some c:=
 a3f sc.names [] (a6N I ck) (λy c h=>by simp at h) c h
def a6O(h:(fB n sc.names acc).lookup x=some c):(fB n sc.names []).lookup x=some c\/((fB n sc.names []).lookup x=none/\acc.lookup x=some c):=by
 rw[a0K,cN]at h;cases e:(fB n sc.names []).lookup x with
 |none=>rw[e]at h;exact .inr ⟨rfl,h⟩
 |some d=>rw[e]at h;exact .inl h
def a3i(I:Inv X pins σ H s)(ck:CapOk X.N X.env.scope sc N' cap)(co:iJ hjq n (fB n sc.names []))(h:(fB n sc.names (a0D X.env sc.names [])).lookup x=some c):(hjq.IsCell c none/\n<=c)\/X.env.cells.lookup x=some c:=by
 rcases a6O h with h |⟨_,h⟩
 ·exact .inl (co.empty _ _ (PySem.mem_of_lookup h))
 ·exact .inr (a2U I ck h)
def a6P(env:Env)(x:Str):(hV sc cl C env).kindOf x=(sc.names.lookup x).map λk=>if (k==fA.free&&env.scope.kind==.function&&env.kindOf x==some .cell)=true then fA.cell else k:=
 a2F sc.names
def a0X{l:List (Str×fA)}(h:l.lookup x=some k):(x,k)∈l:=PySem.mem_of_lookup h
def b5b(I:Inv X pins σ H s)(ck:CapOk X.N X.env.scope sc N' cap)(hf:∀b∈fp,FpOk X pins H b)(hlt:∀b∈fp,b<s.heap.objs.size)(hC:C=s.heap.objs.size)(co:iJ hjq (C+1) (fB (C+1) sc.names [])):(cxC X EW N' sc C s H fp).Ok:=by
 have cl:∀{x:Str}{c:Addr},(fB _ sc.names _).lookup x=some c->_\/X.env.cells.lookup x=some c:=λh=>a3i I ck co h;have j:∀{x:Str}{c:Addr},X.env.cells.lookup x=some c->c<C:=λe=>by
  obtain⟨v,q⟩:=I.cell _ _ e;rw[hC];exact q.lt
 refine⟨I.ok.mod,ck.kind,I.ok.glob,I.ok.blt,by rw[hC];exact af _,λx y c t g=>?_,λx m=>?_,λx c h g=>?_,I.ok.hd,I.ok.frames,.inl rfl,λb a=>⟨?_,λx c h=>?_⟩,I.bs,ax I.ok.bsz I.sz,λb o e a=>?_,λb a r=>?_,I.stack,I.stkFree⟩
 ·rcases a6O t with a1 |⟨_,a1⟩<;>rcases a6O g with a2 |⟨_,a2⟩
  ·exact name_of_addr co.apart (PySem.mem_of_lookup a1) (PySem.mem_of_lookup a2)
  ·exact absurd (aB (j (a2U I ck a2)) (b8 (co.empty _ _ (PySem.mem_of_lookup a1)).2)) (aW _)
  ·exact absurd (aB (j (a2U I ck a1)) (b8 (co.empty _ _ (PySem.mem_of_lookup a2)).2)) (aW _)
  ·exact I.ok.inj x y c (a2U I ck a1) (a2U I ck a2)
 ·have f:(sc.names.lookup x).map (λk=>if (k==fA.free&&X.env.scope.kind==.function&&X.env.kindOf x==some .cell)=true then fA.cell else k)=some .cell \/
    (sc.names.lookup x).map (λk=>if (k==fA.free&&X.env.scope.kind==.function&&X.env.kindOf x==some .cell)=true then fA.cell else k)=some .free:=by
   rw[<- a6P X.env x];exact m
  show ∃c,(fB _ sc.names _).lookup x=some c
  cases e:sc.names.lookup x with
  |none=>rw[e]at f;rcases f with z |z<;>cases z
  |some k=>
   rw[a0K,cN];cases e2:(fB _ sc.names []).lookup x with
   |some d=>exact⟨d,rfl⟩
   |none=>
    by_cases hk:k=.free
    ·subst hk;exact a2T sc.names [] (a0X e)
    ·rw[e]at f;have a:(k==fA.free)=false:=by simpa using hk
     simp only[b7,a,aG.injEq]at f;rcases f with z |z
     ·subst z;obtain⟨d,i⟩:=a2g e;rw[i]at e2;cases e2
     ·exact absurd z hk
 ·have e:sc.names.lookup x=some .cell:=by
   have h:(sc.names.lookup x==some .cell)=true:=h;simpa using h
  obtain⟨d,i⟩:=a2g e;have g:(fB _ sc.names _).lookup x=some c:=g;rw[a0K,cN,i]at g;cases g;exact ax (bZ hC.symm) (b8 (co.empty _ _ (PySem.mem_of_lookup i)).2)
 ·show b≠C
  rw[hC];exact ao (hlt b a)
 ·rcases cl h with ⟨_,z⟩ |z
  ·exact λe=>absurd (aB (hlt b a) (ax (bZ hC.symm) (e▸b8 z))) (aW _)
  ·exact (hf b a).2.2.2.2.1 x c z
 ·obtain⟨_,_,_,z,_⟩:=hf b a;rcases z with z |z
  ·exact I.ok.noex b o e z
  ·exact absurd (aB (Heap.lt_size e) (ax I.ok.bsz z)) (aW _)
 ·rcases ag.mp (I.stkSub b r) with z |z
  ·exact (hf b a).2.1 z
  ·exact (hf b a).2.2.1 z
def b2N(I:Inv X pins σ H s)(ck:CapOk X.N X.env.scope sc N' cap)(hf:∀b∈fp,FpOk X pins H b)(hlt:∀b∈fp,b<s.heap.objs.size)(hC:C=s.heap.objs.size)
  (hn:hjq.Ns C m) (co:iJ hjq (C+1) (fB (C+1) sc.names [])) (hk:∀b o,s.heap.get? b=some o->hjq.get? b=some o):Inv (cxC X EW N' sc C s H fp) [] (a1U cap σ) H { s with heap:=hjq,toks:=t' }:=by
 refine⟨b5b I ck hf hlt hC co,rfl,I.bare,Un.kept hk,⟨m,hn,λi x v F a T=>?_⟩,λx c h=>?_,?_,λx c h=>?_,λp G=>absurd (show p∈([]) from G) (by simp),I.hok.kept hk,?_⟩
 ·have B:=F;unfold a1U at a;rw[aq]at a;cases ec:cap[i]? with
  |none=>rw[ec]at a;cases a
  |some o=>
   rw[ec]at a;cases o with
   |none=>simp at a
   |some j=>
    have e:(σ[j]?).join=some v:=by simpa using a
    have t:σ[j]?=some (some v):=by
     cases q:σ[j]? with
     |none=>rw[q]at e;cases e
     |some w=>rw[q]at e;rw[show w=some v from e]
    obtain⟨L,g⟩:=ck.cap i x j B ec;have n:=ck.fre _ (a0X g) rfl;obtain⟨S,_,M⟩:=I.loc;obtain⟨u,E,Q⟩:=M j x v L t (.inr n);refine⟨u,E,.inr ⟨?_,?_⟩⟩
    ·show (hV sc _ C X.env).kindOf x=some .cell\/(hV sc _ C X.env).kindOf x=some .free
     rw[a6P,g];simp only[b7,beq_self_eq_true,cO]
     by_cases hc:(X.env.scope.kind==ScopeKind.function&&X.env.kindOf x==some fA.cell)=true
     ·simp_all
     ·rw[if_neg hc];exact .inr rfl
    ·obtain⟨D,l⟩:=a2T sc.names [] (a0X g);have J:=a2U I ck l;rcases Q with ⟨k,_⟩ |⟨_,c,ec',z⟩
     ·have R:X.env.scope.names.lookup x=some .local:=k;have f:=n;rw[R]at f;rcases f with q |q<;>cases q
     ·rw[J]at ec';cases ec';obtain⟨y,A,r⟩:=z;refine⟨D,?_,y,hk _ _ A,r⟩
      show (fB (C+1) sc.names _).lookup x=some D
      rw[a0K,cN,l];cases a:(fB (C+1) sc.names []).lookup x with
      |none=>rfl
      |some d=>
       have:=ck.cms _ (a2t (PySem.mem_of_lookup a)) rfl
       rw[g]at this;cases this
 ·rcases a3i I ck co h with ⟨z,_⟩ |z
  ·grind
  ·obtain⟨v,y,A,r⟩:=I.cell x c z;exact⟨v,y,hk _ _ A,r⟩
 ·show H C=none
  rw[hC];exact I.hok.fresh (af _)
 ·rcases a3i I ck co h with ⟨_,z⟩ |z
  ·exact I.hok.fresh (ax (bZ hC.symm) (b8 z))
  ·exact I.freeC x c z
 ·show (a1U cap σ).length=N'.length
  unfold a1U;rw[ae];exact ck.len
def b0L(I:Inv X pins σ H s)(hf:∀b∈fp,FpOk X pins H b)(J:Inv (cxC X EW N' sc C s H fp) pins' σ' H' s'):Inv X pins σ H' s':=
 I.call' J.os J.base J.hok J.bare λb a=>⟨(hf b a).2.2.2.1,(hf b a).2.1,(hf b a).2.2.2.2.1,(hf b a).2.2.2.2.2⟩
def a8A(I:Inv X pins σ H s)(hC:C=s.heap.objs.size)(J:Inv (cxC X EW N' sc C s H fp) pins' σ' H' s'):CFree X pins H' C:=by
 refine⟨J.free,by rw[hC];exact be I.lt,by rw[hC];exact I.sz,λx c e z=>?_,λp a z=>(absurd (Heap.lt_size (I.pin p a).1) (by simp_all))⟩
 ·obtain⟨v,q⟩:=I.cell x c e;exact absurd q.lt (by simp_all)
def CFree.after(F:CFree X pins H C)(I:Inv X pins σ H s)(k:∀b o,b≠C->s.heap.get? b=some o->h'.get? b=some o):Inv X pins σ H { s with heap:=h',toks:=t' }:=
 I.turned k F.free F.loc (.inr F.old) F.cell F.pin
end
section
variable{X:Cx}{elt tg iter:Expr}{ifs:List Expr}{sc:Scope}{pos:Pos}{wi:TI}{g:TG}{tt:TT}{te:TE}{N':List Str}{cap:List (Option Nat)}{EW:XK}
def a6Q(hc:X.calm=true)(hE:a3h X EW sc)(ck:CapOk X.N X.env.scope sc N' cap)(hi:PI X tg iter wi)
    (hg:∀C s H fp,PG (cxC X EW N' sc C s H fp) tg g) (ht:∀C s H fp,PIfs (cxC X EW N' sc C s H fp) ifs tt) (he:∀C s H fp,PE (cxC X EW N' sc C s H fp) elt te)
    (hs:∀x,gj iter X.env x=pure x) {Fin:Value->Shared->Prop}
 (I:Inv X pins σ H s) (h:tLC wi cap g tt te σ H Q)
    (fin:∀D s' C m H',Inv X pins σ H' s'->Q (.ref D) H'->s'.heap.Ns C m->CFree X pins H' C->jo (model X.prog X.w) X.A X.xe use Fin (.ref D) C (.ok .next) s') :
    wpAny (model X.prog X.w) X.A (comprehension (.ListComp elt [⟨tg,iter,ifs,0⟩] sc pos) sc X.env pos' (newList []) false (eval iter X.env) use) Fin X.xe s:=by
  refine wpAny_comprehension_free rfl hs (a3e (a6N I ck)) ck.kind ck.nms (thn (hi pins s σ H _ I h) λv s1 h1=>thn h1 λitv j h2=>?_);obtain⟨it,f,tn,J,H2,e,I2,T,st2,f2,h2⟩:=h2;subst e;have hD:=I2.hok.fresh (af _);obtain⟨W,⟨m0,w0⟩,turn⟩:=h2 j.heap.objs.size hD;refine gh ?_;have t:=I2.lnew (t':=j.toks) .nil (aK _);generalize hs3:({ j with heap:=j.heap.push { cls:=.type "list",data:=.seq ([]:List Value).toArray } }:Shared)=s3 at t;generalize hH3:upd H2 j.heap.objs.size (.lst [])=H3 at t w0;have ac:∀b∈f,b<j.heap.objs.size:=λb a=>by
    obtain⟨o,e,_⟩:=T.obj _ _ st2 b a;exact Heap.lt_size e
  have sz3:s3.heap.objs.size=j.heap.objs.size+1:=hs3▸Heap.size_push _ _;have L:∀b∈f,b<s3.heap.objs.size:=λb a=>by rw[sz3];exact b9 (ac b a)
  have B:∀b∈f,FpOk X pins H3 b:=λb a=>by
    refine⟨?_,(f2 b a).2⟩;rw[<- hH3,a0d (ao (ac b a))];exact (f2 b a).1
  have st3:tn 0 s3.heap:=T.keep _ _ _ st2 λb _ o e=>by rw[<- hs3];exact Heap.get?_push_of_some _ e
  refine a3g λhjq hjj hk co=>?_;have I4:=b2N (EW:=EW) (t':=s3.toks) t ck B L rfl hjj co hk;generalize hs4:({ s3 with heap:=hjq,toks:=s3.toks }:Shared)=s4 at I4 ⊢;have st4:tn 0 s4.heap:=T.keep _ _ _ st3 λb _ o e=>by rw[<- hs4];exact hk b o e
  have G:∀{k:Hp}{l:List (Addr×Obj)},(∀p∈l,p.1∉f)->(∀b∈f,k b=none)->∀b∈f,FpOk (cxC X EW N' sc s3.heap.objs.size s3 H3 f) l k b:=λ{k l} E hn b a=>
    ⟨hn b a,ao (L b a),λz=>by
      rcases ag.mp (t.stkSub b z) with z |z
      · exact (B b a).2.1 z
      · exact (B b a).2.2.1 z,.inl a,λx c e=>by
        rcases a3i t ck co e with ⟨_,z⟩ |z
        · exact λe=>absurd (aB (L b a) (e▸b8 z)) (aW _)
        · exact (B b a).2.2.2.2.1 x c z,λp hp' z=>E p hp' (z▸a)⟩
  have hx:=hE pins σ H3 s3 s3.heap.objs.size f use Fin (.ref j.heap.objs.size) t B rfl;have ab:f9 (model X.prog X.w) X.A (.compLoop (.ListComp elt [⟨tg,iter,ifs,0⟩] sc pos) 0 (.ref it) (.ref j.heap.objs.size) (hV sc (fB (s3.heap.objs.size+1) sc.names (a0D X.env sc.names [])) s3.heap.objs.size X.env))
      (jo (model X.prog X.w) X.A X.xe use Fin (.ref j.heap.objs.size) s3.heap.objs.size) s4:=by
    refine a1s (λn s'=>∃i ys σ' k,Inv (cxC X EW N' sc s3.heap.objs.size s3 H3 f) [] σ' k s'/\a00 (a1U cap σ) σ'/\tn i s'.heap/\(∀b∈f,k b=none)/\W i n ys k) ?_ m0
      ⟨0,[],a1U cap σ,H3,I4,a1d _,st4,λb a=>(B b a).1,w0⟩
    rintro n s5 ⟨i,ys,σ5,H5,I5,k5,st5,fr5,w5⟩;have kk:=a1V k5;have I5:=I5.weak kk.1 kk.2;rcases turn i n ys H5 w5 with ⟨stop,q⟩ |⟨go,N,hN,step⟩
    · refine thn (T.done (cxC X EW N' sc s3.heap.objs.size s3 H3 f) rfl rfl rfl hc i [] s5 _ H5 _ I5 (G (by simp) fr5) st5 stop) λr s6 ⟨hr,I6⟩=>?_
      subst hr;obtain⟨m6,n6,_⟩:=I6.loc;exact fin _ s6 _ m6 H5 (b0L t B I6) q n6 (a8A t rfl I6)
    · refine thn (T.item (cxC X EW N' sc s3.heap.objs.size s3 H3 f) rfl rfl rfl hc i [] s5 _ H5 _ I5 (G (by simp) fr5) st5 go) λr s6 ⟨u,hr,h6⟩=>?_
      subst hr;refine thn h6 λ_ s7 ⟨x,H7,I7,r7,y7,aa,fr7⟩=>?_;have R:∀{σ9:St}{F:Hp}{U:Shared}{M:List V},Inv (cxC X EW N' sc s3.heap.objs.size s3 H3 f) ([]++a4X f s7.heap) σ9 F U->a00 (a1U cap σ) σ9->N M F ->
          ∃m,m<n/\∃i ys σ' k,Inv (cxC X EW N' sc s3.heap.objs.size s3 H3 f) [] σ' k U/\a00 (a1U cap σ) σ'/\tn i U.heap/\(∀b∈f,k b=none)/\W i m ys k:=λ{σ9 F U M} Y k9 n9=>by
        obtain⟨m',hm,w9⟩:=hN M F n9;refine⟨m',hm,i+1,M,σ9,F,Y.unpinned,k9,T.keep _ _ _ aa λb a o e=>(Y.pin (b,o) (aI _ (aI _ (a1l a e)))).1,λb a=>?_,w9⟩;obtain⟨o,e,d⟩:=T.obj _ _ aa b a;exact (Y.pin (b,o) (aI _ (aI _ (a1l a e)))).2.1
      refine fD (hg _ _ _ _ _ s7 _ H7 x u _ (I7.pinned (G (by simp) fr7) (T.obj _ _ aa)) r7 (step x H7 y7)) (λ_ s8 ⟨σ8,H8,I8,k8,q8⟩=>?_) hx;refine fD (ht _ _ _ _ _ s8 σ8 H8 _ I8 q8) (λb U ⟨F,Y,q9⟩=>?_) hx;cases b with
      |false=>
        rw[if_neg aR]at q9 ⊢;exact R Y k8 q9
      |true=>
        rw[if_pos rfl]at q9 ⊢;refine fD (he _ _ _ _ _ U σ8 F _ Y q9) (λy s10 ⟨vy,H10,I10,r10,zs,hacc,hsz,q10⟩=>?_) hx;refine fD (a3P (X:=cxC X EW N' sc s3.heap.objs.size s3 H3 f) _ s10 σ8 H10 (.ref j.heap.objs.size) [vy] (.ref j.heap.objs.size) [y] (λ_ k=>N (zs++[vy]) k) I10 rfl (.cons r10 .nil) ⟨_,zs,vy,rfl,rfl,hacc,hsz,q10⟩) (λ_ s11 ⟨_,H11,I11,_,q11⟩=>?_) hx;exact R I11 k8 q11
  exact codeAny_compStart_list ab (T.self _ 0 _ _ _ st4 ab)
def b5c(hc:X.calm=true)(hE:a3h X EW sc)(hNN:X.N=Nj)(hso:X.env.scope=so)(ck:capB Nj so sc N' cap=true)(hi:PI X tg iter wi)
  (hg:∀C s H fp,PG (cxC X EW N' sc C s H fp) tg g) (ht:∀C s H fp,PIfs (cxC X EW N' sc C s H fp) ifs tt) (he:∀C s H fp,PE (cxC X EW N' sc C s H fp) elt te)
  (hs:∀x,gj iter X.env x=pure x:=by intro _;rfl):PE X (.ListComp elt [⟨tg,iter,ifs,0⟩] sc pos) (tLC wi cap g tt te):=by
 intro f s σ H Q I h;subst hNN hso;exact a6Q hc hE (a6M ck) hi hg ht he hs I h λD d C m i c q k F=>⟨m,k,λl a=>⟨.ref D,i,F.after c (λb o j e=>a.extBut b o j e),rfl,q⟩⟩
def a8B(hN:X.N.Nodup)(hx:X.N[i]?=some x)(hl:X.env.scope.names.lookup x=some .local)(hc:X.calm=true)(hE:a3h X EW sc)(hNN:X.N=Nj)(hso:X.env.scope=so)(ck:capB Nj so sc N' cap=true)(hi:PI X tg iter wi)
  (hg:∀C s H fp,PG (cxC X EW N' sc C s H fp) tg g) (ht:∀C s H fp,PIfs (cxC X EW N' sc C s H fp) ifs tt) (he:∀C s H fp,PE (cxC X EW N' sc C s H fp) elt te)
  (hsw:gz (.ListComp elt [⟨tg,iter,ifs,0⟩] sc pos) (some (.Name x pos')) spos.line X.env=pure true)
  (hs:∀x,gj iter X.env x=pure x):PS X (.Assign [.Name x pos'] (.ListComp elt [⟨tg,iter,ifs,0⟩] sc pos) spos) (tAsg (tLC wi cap g tt te) (a6m i)):=by
 subst hNN hso;intro f s σ H D I h;rw[exec_Assign_Name_used _ _ _ _ hsw];refine e9 (i7 (e9 (e9 (fD (a6Q hc hE (a6M ck) hi hg ht he hs I h λd c C m w t q E F=>?_) (λ_ c u=>fc (fc u)) λ_ _ e=>e))));refine wpAny_assign_Name (a3H t hN hx (.inl hl) (v:=.ref d) rfl (λj n y=>?_) (.inr hl));obtain⟨a,p,r⟩:=y;have l:C≠a:=by
  rcases r with z |z
  ·rw[z];exact F.loc
  ·exact Ne.symm (F.cell _ _ z)
 exact⟨m,E.sameBut p l,λG k=>⟨_,w,F.after n (λb o B e=>k.extBut b o B e),q⟩⟩
end
section
variable{X:Cx}{st:Stmt}{rest:List Stmt}{t u:TS}{e:Expr}{te:TE}{tt:TT}
end
mutual
def DV(H:Hp):PyData->V->Prop
 |.none,x=>x=.non
 |.bool b,x=>x=.bl b
 |.int i,x=>x=.int i
 |.str s,x=>x=.str s
 |.list ds,x=>∃a vs,x=.ref a/\H a=some (.lst vs)/\DVs H ds vs
 |.tuple ds,x=>∃a vs,x=.ref a/\H a=some (.tup vs)/\DVs H ds vs
 |.dict _,_=>False
def DVs(H:Hp):List PyData->List V->Prop
 |[],vs=>vs=[]
 |d::ds,vs=>∃v r,vs=v::r/\DV H d v/\DVs H ds r
end
mutual
theorem DV.reads{P:fq}{w:World}{H:Hp}{h:Heap}(ok:HOk P w H h):∀{d:PyData}{x:V}{u:Value},DV H d x->RelV x u->∃as,Reads h u d as
 |.none,x,u,q,r=>by
  unfold DV at q;subst q;cases (show u=Value.none from r);exact⟨_,.none⟩
 |.bool b,x,u,q,r=>by
  unfold DV at q;subst q;cases (show u=Value.bool b from r);exact⟨_,.bool b⟩
 |.int i,x,u,q,r=>by
  unfold DV at q;subst q;obtain⟨t,e⟩:=(show ∃t,u=Value.int i t from r);subst e;exact⟨_,.int i t⟩
 |.str s,x,u,q,r=>by
  unfold DV at q;subst q;obtain⟨t,e⟩:=(show ∃t,u=Value.str s t from r);subst e;exact⟨_,.str s t⟩
 |.list ds,x,u,q,r=>by
  unfold DV at q;obtain⟨a,vs,e,ha,q⟩:=q;subst e;cases (show u=Value.ref a from r);obtain⟨_,its,n,rv,e⟩:=ok a _ ha;obtain⟨as,rd⟩:=DVs.reads ok q rv;exact⟨_,.list e rfl rfl (by simpa using rd)⟩
 |.tuple ds,x,u,q,r=>by
  unfold DV at q;obtain⟨a,vs,e,ha,q⟩:=q;subst e;cases (show u=Value.ref a from r);obtain⟨_,its,rv,o,e,c,n,d⟩:=ok a _ ha;obtain⟨as,rd⟩:=DVs.reads ok q rv;exact⟨_,.tuple e c d (by simpa using rd)⟩
 |.dict _,x,u,q,r=>by unfold DV at q;exact q.elim
theorem DVs.reads{P:fq}{w:World}{H:Hp}{h:Heap}(ok:HOk P w H h):∀{ds:List PyData}{vs:List V}{us:List Value},DVs H ds vs->Vals vs us->∃as,ReadsAll h us ds as
 |[],vs,us,q,r=>by
  unfold DVs at q;subst q;cases r;exact⟨_,.nil⟩
 |d::ds,vs,us,q,r=>by
  unfold DVs at q;obtain⟨v,rr,e,q1,q2⟩:=q;subst e;cases r with
  |cons r1 r2=>
   obtain⟨as,h1⟩:=DV.reads ok q1 r1;obtain⟨bs,h2⟩:=DVs.reads ok q2 r2;exact⟨_,.cons h1 h2⟩
end
def rEqD:R2:=λx y H Q=>∃d e,DV H d x/\DV H e y/\SeqAt.shaped d=true/\SeqAt.shaped e=true/\Q (.bl (PyData.eqv d e)) H
def rNeD:R2:=λx y H Q=>∃d e,DV H d x/\DV H e y/\SeqAt.shaped d=true/\SeqAt.shaped e=true/\Q (.bl (!PyData.eqv d e)) H
section
variable{X:Cx}
def a9O(hu:X.A.units+66<cLine):OpR X (fz .Eq) rEqD:=by
 intro i s σ H x y v u Q I g k h;obtain⟨d,e,b,f,l,a,q⟩:=h;obtain⟨m,j⟩:=b.reads I.hok g;obtain⟨n,c⟩:=f.reads I.hok k;exact eq_dataH j c l a (by lia) ⟨.bl _,H,I,rfl,q⟩
def a9P(hu:X.A.units+66<cLine):OpR X (fz .NotEq) rNeD:=by
 intro b s σ H x y v u Q I j c h;obtain⟨d,e,a,g,l,i,q⟩:=h;obtain⟨n,f⟩:=a.reads I.hok j;obtain⟨m,k⟩:=g.reads I.hok c;exact ne_dataH f k l i (by lia) ⟨.bl _,H,I,rfl,q⟩
def rInD(neg:Bool):R2:=λx y H Q=>∃d p ds vs,DV H d x/\y=.ref p/\(H p=some (.lst vs)\/H p=some (.tup vs))/\DVs H ds vs/\SeqAt.shaped d=true/\SeqAt.shaped (.list ds)=true /\
 Q (.bl (if neg then !(ds.any λy=>PyData.eqv y d) else ds.any λy=>PyData.eqv y d)) H
def b2O(hu:X.A.units+66<cLine):OpR X (fz .In) (rInD false):=by
 intro r s σ H x y v u Q I z m h;obtain⟨d,p,b,j,w,e,a,i,k,t,q⟩:=h;subst e;obtain⟨C,f⟩:=w.reads I.hok z;have n:PyData.canLayAll0 b=true:=by have:=SeqAt.canLay_of_shaped t;simpa[PyData.canLay0]using this
 have g:=SeqAt.canLay_of_shaped k;have o:=SeqAt.depth_of_shaped k;have l:X.A.units+1+min (PyData.depthAll b) d.depth<cLine:=by have:=dY (PyData.depthAll b) d.depth;lia
 rcases a with a |a
 ·obtain⟨B,c⟩:=(show DV H (.list b) _ by unfold DV;exact⟨p,j,rfl,a,i⟩).reads I.hok m;exact SeqAt.in_list_reads c f n g l ⟨.bl _,H,I,rfl,q⟩
 ·obtain⟨B,c⟩:=(show DV H (.tuple b) _ by unfold DV;exact⟨p,j,rfl,a,i⟩).reads I.hok m;exact SeqAt.in_tuple_reads c f n g l ⟨.bl _,H,I,rfl,q⟩
def b2P(_ j:Int):Prop:=0<j/\j<2 ^ 64
def a8C:OpR X (fE .FloorDiv) (rI b2P λi j=>.int (i / j)):=opI λi j _ _ _ _ _ a q=>by
 have c:(0:Int)<j:=a.1;have d:j<2 ^ 64:=a.2;refine floordiv_int (by lia) ?_ (.inl (PyProof.noPylong_of_log2 ?_))
 ·rw[Int.fdiv_eq_ediv_of_nonneg i (by lia)];exact q
 ·have b:j.natAbs<2 ^ 64:=by lia
  have e:=(Nat.log2_lt (by lia)).mpr b
  lia
def rIsT(K:Fg):List V->Hp->VK->Prop:=λxs H Q=>∃x T t b,xs=[x,.ty T]/\TyOf K H x t/\PySem.W.kitOne K t (.type T)=some b/\Q (.bl b) H
def a8D:CallR X (.builtin "isinstance") (rIsT X.K):=by
 intro c s σ H j k Q I r h;obtain⟨x,T,t,b,rfl,i,e,q⟩:=h;obtain⟨u,g,rfl,f,a⟩:=a8p r;cases (a);exact a6y I f i e λd=>⟨.bl b,H,I.tok d,rfl,q⟩
end
section
variable{X:Cx}{E:XK}
end
section
variable{X:Cx}{E:XK}
end
end L2
namespace L2
open PySem PySem.Spec PySem.Calls PyProof.Rows PySem.W
structure ExK (K:Frag) (D:Addr):Prop where
 cls:(clsIn K D).isSome=true
 ga:findIn K (.ref D) "__getattribute__"=some (some (.builtin "BaseException.__getattribute__"))
 hk:findIn K (.ref D) "__getattr__"=some none
 ha:findIn K (.ref D) "__class__"=some (some (.builtin "object.__class__"))
 hn:specialIn K (.builtin "object.__class__") "__get__"=some (some (.builtin "getset_descriptor.__get__"))
 tk:takesIn K (.builtin "object.__class__")=some true
 hm:mroIn K D (.type "object")=some true
 hb:mroIn K D (.type "BaseException")=some true
section
variable{prog:fq}{w:World}{A:Around}{E:Value->Shared->Prop}{s:Shared}{K:Frag}{x D:Addr}{ox:Obj}
def ExK.find(k:ExK K D):findObj K D none "__class__"=some (.bind (.builtin "getset_descriptor.__get__") (.builtin "object.__class__")):=by
 obtain⟨b,a⟩:=dX.mp k.cls;unfold findObj;rw[a,d6,k.ha,d6];simp[k.hn,k.tk]
end
end L2
namespace L2
open PySem PySem.Spec PyProof.Rows
section
variable{X:Cx}{pins:List (Addr×Obj)}{σ σ':St}{H:Hp}{s:Shared}
def Inv.lk(I:Inv X pins σ H s)(k:Lk (frs X.stack) ex s.heap h')(hx:∀b,ex b->X.s₀.heap.get? b=none/\H b=none/\(∀x c,X.env.cells.lookup x=some c->c≠b)/\∀p∈X.pn++pins,p.1≠b)
  (hl:∃m,h'.Ns X.env.locals m/\∀(i:Nat)(x:Str)(v:V),X.N[i]?=some x->σ'[i]?=some (some v)->Vis X.env.scope x->∃u,RelV v u/\Look X.env h' m x u) (hn:σ'.length=σ.length):Inv X pins σ' H { s with heap:=h',toks:=t' }:=by
 refine⟨I.ok,I.os,I.bare,I.base.lk k (λb a=>?_) (λb a=>.inr (hx b a).1),hl,λx c e=>?_,I.free,I.freeC,λp g=>?_,I.hok.lk k I.stkFree λb a=>(hx b a).2.1,hn.trans I.len⟩
 ·rcases ag.mp (I.stkSub b a) with z |z
  ·rw[z];exact .inr (Heap.get?_none_of_le I.ok.above)
  ·simp_all
 ·obtain⟨v,o,l,n⟩:=I.cell x c e;obtain⟨r,d⟩:=k.slot c o l λz=>(hx c z).2.2.1 x c e rfl;exact⟨v,_,d,n⟩
 ·obtain⟨d,q,f,h,j⟩:=I.pin p g;refine⟨k.keep _ _ d (λz=>?_) (λz=>(hx _ z).2.2.2 p g rfl),q,f,h,j⟩;rcases ag.mp (I.stkSub _ z) with z |z
  ·exact f z
  ·exact h z
abbrev Cx.hnd(X:Cx)(e:Addr)(oe:Obj):Cx:={ X with A:=X.A.mark (some (.ref e)),calm:=false,pn:=(e,oe)::X.pn,xe:=λ_ _=>False }
noncomputable def Inv.hnd(I:Inv X pins σ H s)(h1:s.heap.get? e=some oe)(h2:H e=none)(h3:e≠X.env.locals)(h4:e∉X.fs)(h5:∀v,oe.data≠.cell v):Inv (X.hnd e oe) pins σ H s:=
 ⟨⟨I.ok.mod,I.ok.kind,I.ok.glob,I.ok.blt,I.ok.above,I.ok.inj,I.ok.has,I.ok.cab,(λz=>nomatch z),I.ok.frames,I.ok.stk,I.ok.exf,I.ok.bs,I.ok.bsz,I.ok.noex,I.ok.exfs,I.ok.funs,I.ok.frf⟩,I.os,I.bare,I.base,I.loc,I.cell,I.free,I.freeC,(λp a=>by
  rcases ag.mp (a) with rfl |a
  ·exact⟨h1,h2,h3,h4,h5⟩
  ·exact I.pin p a),I.hok,I.len⟩
end
section
variable{X:Cx}{k:Nat}{f C D:Addr}{fd:fK}{ps:List Str}{sp:Sp}{x n:Str}{p pos np hpos tpos:Pos}{e ce:Expr}{es:List Expr}{t:TA}
end
abbrev a1W(c:Addr)(q:Str):HO:=.ext λh=>h.CodeRec (.ref c) q
def TabO(H:Hp)(p:Pos)(q:Str)(ps:Array Value):Prop:=ps=#[]\/∃c oc,ps=#[rawInt p.line,rawInt p.col,.ref c]/\H c=some (.frz oc (a1W c q))
def Tab(H:Hp)(P:Addr)(p:Pos)(q:Str):Prop:=∃ps,H P=some (.tbl ps)/\TabO H p q ps
def Tab.stay{H H':Hp}{P:Addr}{p:Pos}{q:Str}(f:∀b o c,H b=some (.frz o (a1W c q))->H' b=some (.frz o (a1W c q)))(e:H' P=H P)(h:Tab H P p q):Tab H' P p q:=by
 obtain⟨ps,g,h⟩:=h;refine⟨ps,e.trans g,?_⟩;rcases h with h |⟨c,oc,h,k⟩
 ·exact .inl h
 ·exact .inr ⟨c,oc,h,f _ _ _ k⟩
end L2
namespace L3
open PySem PySem.Spec PyProof.Rows L2
inductive Z where
 |non |bl (b:Bool) |int (i:Int) |str (x:Str) |ref (a:Addr) |ty (n:String) |scr (a:Addr) (ns:List Int)
 |tup (ws:List Z)
mutual
def eqZ:Z->Z->Bool
 |.non,.non=>true
 |.bl a,.bl b=>a==b
 |.int a,.int b=>decide (a=b)
 |.str a,.str b=>decide (a=b)
 |.ref a,.ref b=>decide (a=b)
 |.ty a,.ty b=>decide (a=b)
 |.scr a ns,.scr b ms=>decide (a=b)&&decide (ns=ms)
 |.tup a,.tup b=>eqZs a b
 |_,_=>false
def eqZs:List Z->List Z->Bool
 |[],[]=>true
 |a::as,b::bs=>eqZ a b&&eqZs as bs
 |_,_=>false
end
mutual
theorem a6R:∀x y:Z,eqZ x y=true↔x=y
 |.tup a,y=>by
  cases y with
  |tup b=>simp only[eqZ,Z.tup.injEq];exact a41 a b
  |_=>simp[eqZ]
 |.non,y=>by cases y<;>simp[eqZ]
 |.bl _,y=>by cases y<;>simp[eqZ]
 |.int _,y=>by cases y<;>simp[eqZ]
 |.str _,y=>by cases y<;>simp[eqZ]
 |.ref _,y=>by cases y<;>simp[eqZ]
 |.ty _,y=>by cases y<;>simp[eqZ]
 |.scr _ _,y=>by cases y<;>simp[eqZ]
theorem a41:∀x y:List Z,eqZs x y=true↔x=y
 |[],y=>by cases y<;>simp[eqZs]
 |a::as,y=>by
  cases y with
  |nil=>simp[eqZs]
  |cons b bs=>simp only[eqZs,aQ,bh.injEq,a6R a b,a41 as bs]
end
instance:DecidableEq Z:=λx y=>decidable_of_iff _ (a6R x y)
section
variable{K:Fg}{H H' H1 H2:Hp}{a p:Addr}{xs:List V}
def Fz(K:Fg)(H:Hp)(a:Addr)(xs:List V):Prop:=
 (∃o,H a=some (.frz o (.lst xs)))\/∃(o:Obj)(its:Array Value)(n:Nat),K.lookup a=some o/\o.cls=.type "list"/\o.dict=none/\o.data=.seq its n/\its.size<=fi/\Vals xs its.toList
def Fz.sq(h:Fz K H a xs):SqL K H a xs:=by
 rcases h with ⟨o,h⟩ |h
 ·exact .inl (.inr ⟨o,h⟩)
 ·exact .inr h
def Fz.of(hO:Only H)(h:SqL K H a xs):Fz K H a xs:=by
 rcases h with (h |h) |h
 ·rcases hO a with z |⟨o,ys,z⟩
  ·grind
  ·simp_all
 ·exact .inl h
 ·exact .inr h
structure TW (K:Fg) (H H':Hp):Prop where
 tup:∀a xs,H a=some (.tup xs)->H' a=some (.tup xs)
 frz:∀a xs,Fz K H a xs->Fz K H' a xs
structure TK (K:Fg) (H H':Hp):Prop where
 tup:∀a xs,H a=some (.tup xs)->H' a=some (.tup xs)
 frz:∀a xs,Fz K H a xs->Fz K H' a xs
 frd:∀a o u,H a=some (.frz o u)->H' a=some (.frz o u)
def TK.refl(K:Fg)(H:Hp):TK K H H:=⟨λ_ _ h=>h,λ_ _ h=>h,λ_ _ _ h=>h⟩
def TK.trans(a:TK K H H1)(b:TK K H1 H2):TK K H H2:=⟨λc d h=>b.tup c d (a.tup c d h),λc d h=>b.frz c d (a.frz c d h),λc o u h=>b.frd c o u (a.frd c o u h)⟩
noncomputable def TK.upd(h:∀xs,H p≠some (.tup xs))(h2:∀o u,H p≠some (.frz o u)):TK K H (L2.upd H p o):=by
 refine⟨λc b e=>?_,λc b e=>?_,λc a u e=>by rw[a0d (by rintro rfl;exact h2 _ _ e)];exact e⟩
 ·rw[a0d (by rintro rfl;exact h _ e)];exact e
 ·rcases e with ⟨a,e⟩ |e
  ·exact .inl ⟨a,by rw[a0d (by rintro rfl;exact h2 _ _ e)];exact e⟩
  ·exact .inr e
def TK.new(h:H p=none):TK K H (L2.upd H p o):=.upd (λa e=>by rw[h]at e;cases e) (λo u e=>by rw[h]at e;cases e)
def TK.lst{o:HO}(h:H p=some (.lst xs)):TK K H (L2.upd H p o):=by simp_all[upd]
def TK.dK{o:HO}{kvs:List (Key×V)}(h:H p=some (.dK kvs)):TK K H (L2.upd H p o):=by simp_all[upd]
def TK.ins{o:HO}{C dx:Addr}{fs:List (Str×V)}(h:H p=some (.ins C dx fs)):TK K H (L2.upd H p o):=by simp_all[upd]
end
mutual
def Rep(K:Fg)(H:Hp):Z->V->Prop
 |.non,v=>v=.non
 |.bl b,v=>v=.bl b
 |.int i,v=>v=.int i
 |.str x,v=>v=.str x
 |.ref a,v=>v=.ref a
 |.ty n,v=>v=.ty n
 |.scr a ns,v=>v=.ref a/\Fz K H a (ns.map V.int)
 |.tup ws,v=>∃a vs,v=.ref a/\H a=some (.tup vs)/\Reps K H ws vs
def Reps(K:Fg)(H:Hp):List Z->List V->Prop
 |[],vs=>vs=[]
 |w::ws,vs=>∃v r,vs=v::r/\Rep K H w v/\Reps K H ws r
end
section
variable{K:Fg}{H H':Hp}
def a0z:Rep K H .non v=(v=.non):=by unfold Rep;rfl
def a0v:Rep K H (.bl b) v=(v=.bl b):=by unfold Rep;rfl
def a0h:Rep K H (.int i) v=(v=.int i):=by unfold Rep;rfl
def a0x:Rep K H (.str x) v=(v=.str x):=by unfold Rep;rfl
def a0p:Rep K H (.ref a) v=(v=.ref a):=by unfold Rep;rfl
def a42:Rep K H (.ty n) v=(v=.ty n):=by unfold Rep;rfl
def a1X:Rep K H (.scr a ns) v=(v=.ref a/\Fz K H a (ns.map V.int)):=by unfold Rep;rfl
def a0Y:Rep K H (.tup ws) v=(∃a vs,v=.ref a/\H a=some (.tup vs)/\Reps K H ws vs):=by conv=>lhs;unfold Rep
def a0s:Reps K H [] vs=(vs=[]):=by unfold Reps;rfl
def a1D:Reps K H (w::ws) vs=(∃v r,vs=v::r/\Rep K H w v/\Reps K H ws r):=by conv=>lhs;unfold Reps
mutual
theorem Rep.monoW(t:TW K H H'):∀(w:Z)(v:V),Rep K H w v->Rep K H' w v
 |.tup ws,v,h=>by
  rw[a0Y]at h ⊢;obtain⟨a,vs,e,h,r⟩:=h;exact⟨a,vs,e,t.tup _ _ h,Reps.monoW t ws vs r⟩
 |.scr a ns,v,h=>by
  rw[a1X]at h ⊢;exact⟨h.1,t.frz _ _ h.2⟩
 |.non,v,h=>by rw[a0z]at h ⊢;exact h
 |.bl _,v,h=>by rw[a0v]at h ⊢;exact h
 |.int _,v,h=>by rw[a0h]at h ⊢;exact h
 |.str _,v,h=>by rw[a0x]at h ⊢;exact h
 |.ref _,v,h=>by rw[a0p]at h ⊢;exact h
 |.ty _,v,h=>by rw[a42]at h ⊢;exact h
theorem Reps.monoW(t:TW K H H'):∀(ws:List Z)(vs:List V),Reps K H ws vs->Reps K H' ws vs
 |[],vs,h=>by rw[a0s]at h ⊢;exact h
 |w::ws,vs,h=>by
  rw[a1D]at h ⊢;obtain⟨v,r,e,h1,h2⟩:=h;exact⟨v,r,e,Rep.monoW t w v h1,Reps.monoW t ws r h2⟩
end
def Rep.mono(t:TK K H H')(w:Z)(v:V)(h:Rep K H w v):Rep K H' w v:=Rep.monoW ⟨t.tup,t.frz⟩ w v h
def Reps.mono(t:TK K H H')(ws:List Z)(vs:List V)(h:Reps K H ws vs):Reps K H' ws vs:=Reps.monoW ⟨t.tup,t.frz⟩ ws vs h
def Reps.cons{w:Z}{v:V}{ws:List Z}{vs:List V}(a:Rep K H w v)(b:Reps K H ws vs):Reps K H (w::ws) (v::vs):=by rw[a1D];exact⟨v,vs,rfl,a,b⟩
def Reps.nil:Reps K H [] []:=by rw[a0s]
def Reps.length:∀{ws:List Z}{vs:List V},Reps K H ws vs->ws.length=vs.length:=by intro z0;induction z0 with
 |nil=>intro vs h;rw[a0s]at h;rw[h];rfl
 |cons w ws I0=>
  intro vs h;obtain⟨v,r,e,_,a⟩:=h;rw[e,aE,aE,I0 a]
def Reps.get:∀{ws:List Z}{vs:List V}{i:Nat}{w:Z},Reps K H ws vs->ws[i]?=some w->∃v,vs[i]?=some v/\Rep K H w v:=by intro z0;induction z0 with
 |nil=>intro _ _ _ _ e;simp at e
 |cons w ws I0=>
  intro vs i x h e;obtain⟨v,r,rfl,b,a⟩:=h;cases i with
  |zero=>simp at e;subst e;exact⟨v,rfl,b⟩
  |succ i=>simpa using I0 a (by simp_all)
def Reps.tog{i:Nat}(h:Reps K H ws vs)(e:vs[i]?=some v):∃w,ws[i]?=some w/\Rep K H w v:=by
 have c:=h.length;have a:i<ws.length:=by grind
 obtain⟨d,b,r⟩:=h.get (ak a);rw[e]at b;cases b;exact⟨_,ak a,r⟩
def Reps.append:∀{ws ws':List Z}{vs vs':List V},Reps K H ws vs->Reps K H ws' vs'->Reps K H (ws++ws') (vs++vs'):=by intro z0;induction z0 with
 |nil=>intro _ vs _ h h';rw[a0s]at h;subst h;exact h'
 |cons w ws I0=>
  intro _ vs _ h h';obtain⟨v,r,rfl,a,b⟩:=h;exact .cons a (I0 b h')
theorem Reps.drop:∀{ws:List Z}{vs:List V}(n:Nat),Reps K H ws vs->Reps K H (ws.drop n) (vs.drop n)
 |[],vs,n,h=>by rw[a0s]at h;subst h;simpa using Reps.nil
 |w::ws,vs,0,h=>h
 |w::ws,vs,n+1,h=>by
  obtain⟨v,r,rfl,b,a⟩:=h;exact Reps.drop n a
theorem Reps.take:∀{ws:List Z}{vs:List V}(n:Nat),Reps K H ws vs->Reps K H (ws.take n) (vs.take n)
 |[],vs,n,h=>by rw[a0s]at h;subst h;simpa using Reps.nil
 |w::ws,vs,0,h=>by simpa using Reps.nil
 |w::ws,vs,n+1,h=>by
  obtain⟨v,r,rfl,a,b⟩:=h;exact .cons a (Reps.take n b)
def Reps.set(r:Rep K H w v):∀{ws:List Z}{vs:List V}(i:Nat),Reps K H ws vs->Reps K H (ws.set i w) (vs.set i v):=by intro z0;induction z0 with
 |nil=>intro vs i h;rw[a0s]at h;subst h;simpa using Reps.nil
 |cons x ws I0=>
  intro vs i h;obtain⟨y,s,rfl,b,a⟩:=h;cases i with
  |zero=>exact .cons r a
  |succ i=>exact .cons b (I0 i a)
def Reps.reverse:∀{ws:List Z}{vs:List V},Reps K H ws vs->Reps K H ws.reverse vs.reverse:=by intro z0;induction z0 with
 |nil=>intro vs h;rw[a0s]at h;subst h;exact Reps.nil
 |cons x ws I0=>
  intro vs h;obtain⟨y,s,rfl,b,a⟩:=h;rw[cM,cM];exact (I0 a).append (.cons b .nil)
def a3Q:∀{ns:List Int}{vs:List V},Reps K H (ns.map Z.int) vs->vs=ns.map V.int:=by intro z0;induction z0 with
 |nil=>intro vs h;rw[aO,a0s]at h;subst h;rfl
 |cons n ns I0=>
  intro vs h;obtain⟨v,r,rfl,a,b⟩:=h;rw[a,I0 b];rfl
def a1e:∀(ns:List Int),Reps K H (ns.map Z.int) (ns.map V.int):=by intro z0;induction z0 with
 |nil=>exact Reps.nil
 |cons n ns I0=>exact .cons (by rw[a0h]) (I0)
def Reps.one(h:Reps K H [w] vs):∃v,vs=[v]/\Rep K H w v:=by
 obtain⟨v,r,rfl,b,a⟩:=h;exact⟨v,by rw[a],b⟩
def Reps.two(h:Reps K H [w,w'] vs):∃v v',vs=[v,v']/\Rep K H w v/\Rep K H w' v':=by
 obtain⟨v,r,rfl,c,a⟩:=h;obtain⟨d,rfl,b⟩:=a.one;exact⟨v,d,rfl,c,b⟩
end
inductive O where
 |lst (ws:List Z)
 |dK (kvs:List (Key×Z))
 |ins (C dx:Addr) (fs:List (Str×Z))
 |dF (kvs:List (Key×Z))
 |dT (ks:List (List Key))
 |tab (p:Pos) (q:Str)
abbrev Hq:=Addr->Option O
noncomputable def put(G:Hq)(a:Addr)(o:O):Hq:=λb=>if b=a then some o else G b
def a0a:put G a o a=some o:=by unfold put;rw[if_pos rfl]
def a0q(h:b≠a):put G a o b=G b:=by unfold put;rw[if_neg h]
def a1Y:put (put G a o) a u=put G a u:=by
 funext b;unfold put;split<;>rfl
def a0i{G:Hq}(h:G a=some o)(h':G b=none):a≠b:=by
 intro e;subst e;rw[h]at h';cases h'
def a0b(h:G b=some u)(n:G a=none):put G a o b=some u:=(a0q (a0i h n))▸h
def ROb(K:Fg)(H:Hp)(a:Addr):O->Prop
 |.lst ws=>∃vs,H a=some (.lst vs)/\Reps K H ws vs
 |.dK kvs=>∃us,H a=some (.dK us)/\us.map (·.1)=kvs.map (·.1)/\Reps K H (kvs.map (·.2)) (us.map (·.2))
 |.ins C dx fs=>∃gs,H a=some (.ins C dx gs)/\gs.map (·.1)=fs.map (·.1)/\Reps K H (fs.map (·.2)) (gs.map (·.2))
 |.dF kvs=>∃o us,H a=some (.frz o (.dK us))/\us.map (·.1)=kvs.map (·.1)/\Reps K H (kvs.map (·.2)) (us.map (·.2))
 |.dT ks=>∃us,H a=some (.dT us)/\us.map (·.1)=ks
 |.tab p q=>Tab H a p q
def RH(K:Fg)(G:Hq)(H:Hp):Prop:=∀a o,G a=some o->ROb K H a o
section
variable{K:Fg}{H H':Hp}{G:Hq}{a p:Addr}{o:O}{u:HO}
def ROb.some(h:ROb K H a o):∃u,H a=some u:=by
 cases o with
 |lst ws=>obtain⟨vs,e,_⟩:=h;exact⟨_,e⟩
 |dK kvs=>obtain⟨vs,e,_⟩:=h;exact⟨_,e⟩
 |ins C dx fs=>obtain⟨vs,e,_⟩:=h;exact⟨_,e⟩
 |dF kvs=>obtain⟨ob,vs,e,_⟩:=h;exact⟨_,e⟩
 |dT ks=>obtain⟨vs,e,_⟩:=h;exact⟨_,e⟩
 |tab p q=>obtain⟨ps,e,_⟩:=h;exact⟨_,e⟩
def ROb.stay(t:TK K H H')(e:H' a=H a)(h:ROb K H a o):ROb K H' a o:=by
 cases o with
 |lst ws=>obtain⟨vs,q,r⟩:=h;exact⟨vs,e.trans q,r.mono t⟩
 |dK kvs=>obtain⟨vs,q,n,r⟩:=h;exact⟨vs,e.trans q,n,r.mono t⟩
 |ins C dx fs=>obtain⟨vs,q,n,r⟩:=h;exact⟨vs,e.trans q,n,r.mono t⟩
 |dF kvs=>obtain⟨ob,vs,q,n,r⟩:=h;exact⟨ob,vs,e.trans q,n,r.mono t⟩
 |dT ks=>obtain⟨vs,q,n⟩:=h;exact⟨vs,e.trans q,n⟩
 |tab p q=>exact Tab.stay (λb o c k=>t.frd b o _ k) e h
def RH.out(h:RH K G H)(e:H a=none):G a=none:=by
 cases q:G a with
 |none=>rfl
 |some o=>obtain⟨u,z⟩:=(h a o q).some;rw[e]at z;cases z
def RH.hid(h:RH K G H)(e:H p=none):RH K G (upd H p u):=λb o q=>
 (h b o q).stay (.new e) (a0d (by rintro rfl;obtain⟨u,z⟩:=(h _ o q).some;rw[e]at z;cases z))
def RH.set(h:RH K G H)(t:TK K H (upd H p u))(n:ROb K (upd H p u) p o):RH K (put G p o) (upd H p u):=λb a q=>by
 by_cases hb:b=p
 ·subst hb;rw[a0a]at q;cases q;exact n
 ·rw[a0q hb]at q;exact (h b a q).stay t (a0d hb)
end
abbrev S3:=List (Option Z)
abbrev K3:=Z->Hq->Prop
abbrev C3:=S3->Hq->Prop
abbrev E3:=S3->Hq->K3->Prop
abbrev T3:=S3->Hq->(Bool->Hq->Prop)->Prop
abbrev A3:=S3->Hq->(List Z->Hq->Prop)->Prop
abbrev X3:=C3->K3->C3->C3->S3->Hq->Prop
def ROp(K:Fg)(H:Hp)(ow:Option Z)(ov:Option V):Prop:=∀w,ow=some w->∃v,ov=some v/\Rep K H w v
def RSt(K:Fg)(H:Hp):S3->L2.St->Prop:=Paired (ROp K H)
section
variable{K:Fg}{H H':Hp}
def RSt.mono(t:TK K H H'):∀{σ:S3}{τ:L2.St},RSt K H σ τ->RSt K H' σ τ:=by intro z0 y0 x0;induction x0 with
 |nil=>exact .nil
 |cons r s I0=>exact .cons (λw e=>by obtain⟨v,q,h⟩:=r w e;exact⟨v,q,h.mono t⟩) (I0)
theorem RSt.get:∀{σ:S3}{τ:L2.St}{i:Nat}{w:Z},RSt K H σ τ->σ[i]?=some (some w)->∃v,τ[i]?=some (some v)/\Rep K H w v
 |_,_,_,_,.nil,e=>by simp at e
 |_,_,0,w,.cons r _,e=>by
  obtain⟨v,q,h⟩:=r w (by simpa using e);exact⟨v,by rw[q];rfl,h⟩
 |_,_,i+1,w,.cons _ s,e=>by
  obtain⟨v,q,h⟩:=RSt.get s (by simpa using e);exact⟨v,by simpa using q,h⟩
theorem RSt.set(r:Rep K H w v):∀{σ:S3}{τ:L2.St}(i:Nat),RSt K H σ τ->RSt K H (σ.set i (some w)) (τ.set i (some v))
 |_,_,_,.nil=>.nil
 |_,_,0,.cons _ s=>.cons (λ_ e=>by cases e;exact⟨v,rfl,r⟩) s
 |_,_,i+1,.cons q s=>.cons q (RSt.set r i s)
def RSt.length(h:RSt K H σ τ):σ.length=τ.length:=Paired.length h
def RSt.nones:∀n:Nat,RSt K H (cL n none) (cL n none):=by intro z0;induction z0 with
 |zero=>exact .nil
 |succ n I0=>exact .cons (λ_ e=>nomatch e) (I0)
def RSt.app:∀{σ σ':S3}{τ τ':L2.St},RSt K H σ τ->RSt K H σ' τ'->RSt K H (σ++σ') (τ++τ'):=by intro z0 y0 x0 w0 v0;induction v0 with
 |nil=>intro h;exact h
 |cons r s I0=>intro h;exact .cons r (I0 h)
def RSt.ofVals:∀{ws:List Z}{vs:List V},Reps K H ws vs->RSt K H (ws.map some) (vs.map some):=by intro z0;induction z0 with
 |nil=>intro vs h;rw[a0s]at h;subst h;exact .nil
 |cons w ws I0=>
  intro vs h;obtain⟨v,r,rfl,b,a⟩:=h;exact .cons (λ_ e=>by cases e;exact⟨v,rfl,b⟩) (I0 a)
end
noncomputable def a1f(N:List Str)(ws:List Z):S3:=ws.map some++cL (N.length-ws.length) none
noncomputable def RSt.start{K:Fg}(h:Reps K H ws vs):RSt K H (a1f N ws) (L2.start N vs):=by
 unfold a1f L2.start;rw[h.length];exact (RSt.ofVals h).app (RSt.nones _)
def UpV(K:Fg)(H:Hp)(R:K3)(Q:VK):Prop:=∀w G v H',R w G->Rep K H' w v->RH K G H'->TK K H H'->Q v H'
def UpB(K:Fg)(H:Hp)(R:Bool->Hq->Prop)(Q:Bool->Hp->Prop):Prop:=∀b G H',R b G->RH K G H'->TK K H H'->Q b H'
def UpA(K:Fg)(H:Hp)(R:List Z->Hq->Prop)(Q:List V->Hp->Prop):Prop:=∀ws G vs H',R ws G->Reps K H' ws vs->RH K G H'->TK K H H'->Q vs H'
def UpS(K:Fg)(H:Hp)(R:C3)(Q:L2.St->Hp->Prop):Prop:=∀σ G τ H',R σ G->RSt K H' σ τ->RH K G H'->TK K H H'->Q τ H'
section
variable{K:Fg}{H H':Hp}
def UpV.mono(h:UpV K H R Q)(t:TK K H H'):UpV K H' R Q:=λw G v b q r g a=>h w G v b q r g (t.trans a)
def UpB.mono(h:UpB K H R Q)(t:TK K H H'):UpB K H' R Q:=λw G b q g a=>h w G b q g (t.trans a)
def UpA.mono(h:UpA K H R Q)(t:TK K H H'):UpA K H' R Q:=λw G v b q r g a=>h w G v b q r g (t.trans a)
def UpS.mono(h:UpS K H R Q)(t:TK K H H'):UpS K H' R Q:=λw G v b q r g a=>h w G v b q r g (t.trans a)
end
def low(K:Fg)(t:E3):TE:=fun τ H Q=>∃σ G R,RSt K H σ τ/\RH K G H/\t σ G R/\UpV K H R Q
def low.un{K:Fg}{C:Prop}(z:low K t τ H Q)(f:∀σ G R,(RSt K H σ τ)->(RH K G H)->(t σ G R)->(UpV K H R Q)->C):C:=by obtain⟨σ,G,R,d,b,c,a⟩:=z;exact f _ _ _ d b c a
def lowT(K:Fg)(t:T3):TT:=fun τ H Q=>∃σ G R,RSt K H σ τ/\RH K G H/\t σ G R/\UpB K H R Q
def lowT.un{K:Fg}{C:Prop}(z:lowT K t τ H Q)(f:∀σ G R,(RSt K H σ τ)->(RH K G H)->(t σ G R)->(UpB K H R Q)->C):C:=by obtain⟨σ,G,R,b,a,d,c⟩:=z;exact f _ _ _ b a d c
def lowA(K:Fg)(t:A3):TA:=fun τ H Q=>∃σ G R,RSt K H σ τ/\RH K G H/\t σ G R/\UpA K H R Q
def lowA.un{K:Fg}{C:Prop}(z:lowA K t τ H Q)(f:∀σ G R,(RSt K H σ τ)->(RH K G H)->(t σ G R)->(UpA K H R Q)->C):C:=by obtain⟨σ,G,R,d,b,c,a⟩:=z;exact f _ _ _ d b c a
def lowS(K:Fg)(t:X3):TS:=λD τ H=>∃σ G nx rt bk ct,RSt K H σ τ/\RH K G H/\t nx rt bk ct σ G/\UpS K H nx D.nx/\UpV K H rt D.rt/\UpS K H bk D.bk/\UpS K H ct D.ct
def lowS.un{K:Fg}{C:Prop}(z:lowS K t D τ H)(f:∀σ G nx rt bk ct,(RSt K H σ τ)->(RH K G H)->(t nx rt bk ct σ G)->(UpS K H nx D.nx)->(UpV K H rt D.rt)->(UpS K H bk D.bk)->(UpS K H ct D.ct)->C):C:=by obtain⟨σ,G,k,j,l,i,h,a,g,b,c,d,e⟩:=z;exact f _ _ _ _ _ _ h a g b c d e
structure QE (X:Cx) (e:Expr) (t:E3):Prop where
 p:PE X e (low X.K t)
structure QT (X:Cx) (e:Expr) (t:T3):Prop where
 p:PT X e (lowT X.K t)
structure QW (X:Cx) (e:Expr) (t:T3):Prop where
 p:PW X e (lowT X.K t)
structure QA (X:Cx) (es:List Expr) (t:A3):Prop where
 p:PA X es (lowA X.K t)
structure QS (X:Cx) (st:Stmt) (t:X3):Prop where
 p:PS X st (lowS X.K t)
structure QSs (X:Cx) (st:List Stmt) (t:X3):Prop where
 p:PSs X st (lowS X.K t)
def QW.qt(h:QW X e t):QT X e t:=⟨PW.pt h.p⟩
section
variable{X:Cx}{e:Expr}{es:List Expr}{st:Stmt}{sts:List Stmt}
def a0O(h:PE X e t')(i:∀σ H Q,t σ H Q->t' σ H Q):PE X e t:=λa s σ H Q I q=>h a s σ H Q I (i σ H Q q)
def a6S(h:PT X e t')(i:∀σ H Q,t σ H Q->t' σ H Q):PT X e t:=λa s σ H Q I q=>h a s σ H Q I (i σ H Q q)
def b2Q(h:PW X e t')(i:∀σ H Q,t σ H Q->t' σ H Q):PW X e t:=λw a s σ H Q I q=>h w a s σ H Q I (i σ H Q q)
def b2R(h:PA X es t')(i:∀σ H Q,t σ H Q->t' σ H Q):PA X es t:=λb a s σ H Q I q=>h b a s σ H Q I (i σ H Q q)
def a1E(h:PS X st t')(i:∀D σ H,t D σ H->t' D σ H):PS X st t:=λa s σ H D I q=>h a s σ H D I (i D σ H q)
def a6T(h:PSs X sts t')(i:∀D σ H,t D σ H->t' D σ H):PSs X sts t:=λa s σ H D I q=>h a s σ H D I (i D σ H q)
end
abbrev R3:=Z->Z->Hq->K3->Prop
def low2(K:Fg)(r:R3):R2:=λx y H Q=>∃a b G R,Rep K H a x/\Rep K H b y/\RH K G H/\r a b G R/\UpV K H R Q
def low2.un{K:Fg}{C:Prop}(z:low2 K r x y H Q)(f:∀a b G R,(Rep K H a x)->(Rep K H b y)->(RH K G H)->(r a b G R)->(UpV K H R Q)->C):C:=by obtain⟨a,b,G,R,e,h,g,c,d⟩:=z;exact f _ _ _ _ e h g c d
def low1(K:Fg)(r:Z->Hq->K3->Prop):V->Hp->VK->Prop:=λx H Q=>∃a G R,Rep K H a x/\RH K G H/\r a G R/\UpV K H R Q
def low1.un{K:Fg}{C:Prop}(z:low1 K r x H Q)(f:∀a G R,(Rep K H a x)->(RH K G H)->(r a G R)->(UpV K H R Q)->C):C:=by obtain⟨a,G,R,c,e,d,b⟩:=z;exact f _ _ _ c e d b
def lowC(K:Fg)(r:List Z->Hq->K3->Prop):List V->Hp->VK->Prop:=λxs H Q=>∃ws G R,Reps K H ws xs/\RH K G H/\r ws G R/\UpV K H R Q
def lowC.un{K:Fg}{C:Prop}(z:lowC K r xs H Q)(f:∀ws G R,(Reps K H ws xs)->(RH K G H)->(r ws G R)->(UpV K H R Q)->C):C:=by obtain⟨e,G,R,b,d,c,a⟩:=z;exact f _ _ _ b d c a
def lowM(K:Fg)(r:Z->List Z->Hq->K3->Prop):V->List V->Hp->VK->Prop:=λx xs H Q=>∃w ws G R,Rep K H w x/\Reps K H ws xs/\RH K G H/\r w ws G R/\UpV K H R Q
def lowM.un{K:Fg}{C:Prop}(z:lowM K r x xs H Q)(f:∀w ws G R,(Rep K H w x)->(Reps K H ws xs)->(RH K G H)->(r w ws G R)->(UpV K H R Q)->C):C:=by obtain⟨w,g,G,R,a,d,e,b,c⟩:=z;exact f _ _ _ _ a d e b c
def OpQ(X:Cx)(f:Value->Value->Sem Value)(r:R3):Prop:=OpR X f (low2 X.K r)
def UnQ(X:Cx)(f:Value->Sem Value)(r:Z->Hq->K3->Prop):Prop:=UnR X f (low1 X.K r)
def a3j(X:Cx)(f:Value)(r:List Z->Hq->K3->Prop):Prop:=CallR X f (lowC X.K r)
def IxQ(X:Cx)(r:R3):Prop:=IxR X (low2 X.K r)
def MtQ(X:Cx)(id:String)(r:Z->List Z->Hq->K3->Prop):Prop:=MtR X id (lowM X.K r)
def a2u(h:OpR X f r')(i:∀x y H Q,r x y H Q->r' x y H Q):OpR X f r:=λa s σ H x y v u Q I c b q=>h a s σ H x y v u Q I c b (i x y H Q q)
def b5d(h:UnR X f r')(i:∀x H Q,r x H Q->r' x H Q):UnR X f r:=λa s σ H x v Q I b q=>h a s σ H x v Q I b (i x H Q q)
def a2v(h:CallR X f r')(i:∀xs H Q,r xs H Q->r' xs H Q):CallR X f r:=λa s σ H b d Q I c q=>h a s σ H b d Q I c (i b H Q q)
def b5e(h:IxR X r')(i:∀x y H Q,r x y H Q->r' x y H Q):IxR X r:=λa b c s σ H x y v u Q I e d q=>h a b c s σ H x y v u Q I e d (i x y H Q q)
def a5O{id:String}(h:MtR X id r')(i:∀x xs H Q,r x xs H Q->r' x xs H Q):MtR X id r:=λa s σ H x b v e Q I d c q=>h a s σ H x b v e Q I d c (i x b H Q q)
def uVar(i:Nat):E3:=fun σ G R=>∃w,σ[i]?=some (some w)/\R w G
def uC(w:Z):E3:=λ_ G R=>R w G
section
variable{X:Cx}{e a b c:Expr}{pos:Pos}{ta tb tc:E3}
def b2S(h:PE X e (tVar i)):QE X e (uVar i):=⟨a0O h fun τ H Q ⟨σ,G,R,c,b,⟨w,e,q⟩,d⟩=>by
 obtain⟨v,a,r⟩:=c.get e;exact⟨v,a,d w G v H q r b (.refl _ _)⟩⟩
def a6U(h:PE X e (tC v))(hr:∀H,Rep X.K H w v):QE X e (uC w):=⟨a0O h fun τ H Q b=>b.un fun σ G R d a q c=>c w G v H q (hr H) a (.refl _ _)⟩
def b0M:QE X (.Constant (.int i) j pos) (uC (.int i)):=a6U b15 λ_=>by rw[a0h]
def q_bl{b j pos}:QE X (.Constant (.bool b) j pos) (uC (.bl b)):=a6U b4O λ_=>by rw[a0v]
def b5f:QE X (.Constant .none j pos) (uC .non):=a6U b16 λ_=>by rw[a0z]
def b5g:QE X (.Constant (.str x) j pos) (uC (.str x)):=a6U b17 λ_=>by rw[a0x]
def q_ty(h:PE X e (tC (.ty n))):QE X e (uC (.ty n)):=a6U h λ_=>by rw[a42]
def uOp(r:R3)(ta tb:E3):E3:=fun σ G R=>ta σ G λx G1=>tb σ G1 λy G2=>r x y G2 R
def uUn(r:Z->Hq->K3->Prop)(ta:E3):E3:=fun σ G R=>ta σ G λx G1=>r x G1 R
def a43{K:Fg}(h:low K (uOp r ta tb) τ H Q):tOp (low2 K r) (low K ta) (low K tb) τ H Q:=by
 obtain⟨σ,G,R,f,k,h,o⟩:=h;refine⟨σ,G,_,f,k,h,λw m v p l i b e=>?_⟩;refine⟨σ,m,_,f.mono e,b,l,λn g q s j d c a=>?_⟩;exact⟨w,n,g,R,i.mono a,d,c,j,o.mono (e.trans a)⟩
def b2T{K:Fg}(h:low K (uUn r ta) τ H Q):tUn (low1 K r) (low K ta) τ H Q:=by
 obtain⟨σ,G,R,d,f,h,c⟩:=h;exact⟨σ,G,_,d,f,h,λw e v j g b a i=>⟨w,e,R,b,a,g,c.mono i⟩⟩
def q_op(ho:OpQ X (fE op) r)(ha:QE X a ta)(hb:QE X b tb):QE X (.BinOp a op b pos) (uOp r ta tb):=⟨a0O (b2q ho ha.p hb.p) λ_ _ _=>a43⟩
def q_un(ho:UnQ X (iF op) r)(ha:QE X a ta):QE X (.UnaryOp op a pos) (uUn r ta):=⟨a0O (b4Y ho ha.p) λ_ _ _=>b2T⟩
def b2U(ho:OpQ X (fz op) r)(ha:QE X a ta)(hb:QE X b tb)(hm:gG op b=false):QE X (.Compare a [op] [b] pos) (uOp r ta tb):=⟨a0O (b0z ho ha.p hb.p hm) λ_ _ _=>a43⟩
def a6V(t:E3):T3:=fun σ G R=>t σ G λx G1=>∃k,x=.bl k/\R k G1
def a3k{K:Fg}(h:lowT K (a6V ta) τ H Q):low K ta τ H λx H'=>∃k,x=.bl k/\Q k H':=by
 obtain⟨σ,G,R,g,f,h,i⟩:=h;refine⟨σ,G,_,g,f,h,λw l v j ⟨k,e,c⟩ a b d=>?_⟩;subst e;exact⟨k,a,i _ _ _ c b d⟩
def a6W(ho:OpQ X (fz op) r)(ha:QE X a ta)(hb:QE X b tb)(hm:gG op b=false):QT X (.Compare a [op] [b] pos) (a6V (uOp r ta tb)):=⟨a6S (b0A ho ha.p hb.p hm) λ_ _ _ h=>a43 (a3k h)⟩
def a6X(r r':R3)(ta tb tc:E3):E3:=fun σ G R=>ta σ G λx G1=>tb σ G1 λy G2=>r x y G2 λz G3=>∃k,z=.bl k/\(if k=true then tc σ G3 λw G4=>r' y w G4 R else R (.bl false) G3)
def a3R{K:Fg}(h:low K (a6X r r' ta tb tc) τ H Q):a6w (low2 K r) (low2 K r') (low K ta) (low K tb) (low K tc) τ H Q:=by
 obtain⟨σ,G,R,g,F,h,p⟩:=h;refine⟨σ,G,_,g,F,h,λw A v N q B l a=>?_⟩;refine⟨σ,A,_,g.mono a,l,q,λm y T L s e j b=>?_⟩;refine⟨w,m,y,_,B.mono b,e,j,s,λz x M S ⟨k,t,f⟩ o d c=>?_⟩;subst t;refine⟨k,o,?_⟩;cases k with
 |false=>exact p _ _ _ _ (by simpa using f) (by rw[a0v]) d ((a.trans b).trans c)
 |true=>
  refine⟨σ,x,_,g.mono ((a.trans b).trans c),d,f,λC E J I D u n i=>?_⟩;exact⟨m,C,E,R,e.mono (c.trans i),u,n,D,p.mono (((a.trans b).trans c).trans i)⟩
def b0N(ho:OpQ X (fz op) r)(ho':OpQ X (fz op') r')(ha:QE X a ta)(hb:QE X b tb)(hc:QE X c tc)
  (hm:iG [op,op'] [b,c]=false:=by with_unfolding_all rfl):QE X (.Compare a [op,op'] [b,c] pos) (a6X r r' ta tb tc):=⟨a0O (a8m ho ho' ha.p hb.p hc.p hm) λ_ _ _=>a3R⟩
def a8E(ho:OpQ X (fz op) r)(ho':OpQ X (fz op') r')(ha:QE X a ta)(hb:QE X b tb)(hc:QE X c tc)
  (hm:iG [op,op'] [b,c]=false:=by with_unfolding_all rfl):QT X (.Compare a [op,op'] [b,c] pos) (a6V (a6X r r' ta tb tc)):=⟨a6S (a8n ho ho' ha.p hb.p hc.p hm) λ_ _ _ h=>a3R (a3k h)⟩
def uAnd(t u:T3):T3:=fun σ G R=>t σ G λc G1=>if c=true then u σ G1 R else R false G1
def uOr(t u:T3):T3:=fun σ G R=>t σ G λc G1=>if c=true then R true G1 else u σ G1 R
def uNot(t:T3):T3:=fun σ G R=>t σ G λc G1=>R (!c) G1
variable{t u:T3}{rest:List Expr}
def b2V(ha:QT X a t):QW X (.BoolOp .And [a] pos) t:=⟨b0o ha.p⟩
def a6Y(ha:QT X a t):QW X (.BoolOp .Or [a] pos) t:=⟨b19 ha.p⟩
def b5h(ha:QT X a t)(hb:QW X (.BoolOp .And (b::rest) pos) u):QW X (.BoolOp .And (a::b::rest) pos) (uAnd t u):=⟨b2Q (b2a ha.p hb.p) fun τ H Q l=>l.un fun σ G R f j h g=>by
 refine⟨σ,G,_,f,j,h,λk i m d c e=>?_⟩;cases k with
 |false=>exact g _ _ _ (by simp_all) c e
 |true=>rw[if_pos rfl]at d ⊢;exact⟨σ,i,R,f.mono e,c,d,g.mono e⟩⟩
def q_or(ha:QT X a t)(hb:QW X (.BoolOp .Or (b::rest) pos) u):QW X (.BoolOp .Or (a::b::rest) pos) (uOr t u):=⟨b2Q (b4P ha.p hb.p) fun τ H Q l=>l.un fun σ G R f j h g=>by
 refine⟨σ,G,_,f,j,h,λk i m e c d=>?_⟩;cases k with
 |true=>exact g _ _ _ (by simp_all) c d
 |false=>rw[if_neg (by simp)]at e ⊢;exact⟨σ,i,R,f.mono d,c,e,g.mono d⟩⟩
def a18(ha:QT X a t):QT X (.UnaryOp .Not a pos) (uNot t):=⟨a6S (b2b ha.p) fun τ H Q g=>g.un fun σ G R d f h i=>
 ⟨σ,G,_,d,f,h,λk j l e b c=>i _ _ _ e b c⟩⟩
def b2W(ta tb:E3):E3:=fun σ G R=>ta σ G λx G1=>∃c,x=.bl c/\if c=true then tb σ G1 R else R (.bl false) G1
def uOrV(ta tb:E3):E3:=fun σ G R=>ta σ G λx G1=>∃c,x=.bl c/\if c=true then R (.bl true) G1 else tb σ G1 R
def b2X(ta:E3):E3:=fun σ G R=>ta σ G λx G1=>∃c,x=.bl c/\R (.bl (!c)) G1
def b2Y(h:QE X a ta):QE X (.BoolOp op [a] pos) ta:=⟨b2c h.p⟩
def a9Q(ha:QE X a ta)(hb:QE X (.BoolOp .And (b::rest) pos) tb):QE X (.BoolOp .And (a::b::rest) pos) (b2W ta tb):=⟨a0O (b2d ha.p hb.p) fun τ H Q l=>l.un fun σ G R g j h i=>by
 refine⟨σ,G,_,g,j,h,λx n v o ⟨k,m,e⟩ f c d=>?_⟩;subst m;refine⟨k,f,?_⟩;cases k with
 |false=>exact i _ _ _ _ (by simpa using e) (by rw[a0v]) c d
 |true=>rw[if_pos rfl]at e ⊢;exact⟨σ,n,R,g.mono d,c,e,i.mono d⟩⟩
def b5i(ha:QE X a ta)(hb:QE X (.BoolOp .Or (b::rest) pos) tb):QE X (.BoolOp .Or (a::b::rest) pos) (uOrV ta tb):=⟨a0O (b4S ha.p hb.p) fun τ H Q m=>m.un fun σ G R g n h i=>by
 refine⟨σ,G,_,g,n,h,λx j v o ⟨k,l,d⟩ f c e=>?_⟩;subst l;refine⟨k,f,?_⟩;cases k with
 |true=>exact i _ _ _ _ (by simpa using d) (by rw[a0v]) c e
 |false=>rw[if_neg (by simp)]at d ⊢;exact⟨σ,j,R,g.mono e,c,d,i.mono e⟩⟩
def b5j(ha:QE X a ta):QE X (.UnaryOp .Not a pos) (b2X ta):=⟨a0O (b2e ha.p) fun τ H Q f=>f.un fun σ G R g d h j=>by
 refine⟨σ,G,_,g,d,h,λx m v n ⟨k,e,i⟩ b c l=>?_⟩;subst e;exact⟨k,b,j _ _ _ _ i (by rw[a0v]) c l⟩⟩
def uIf(t:T3)(ta tb:E3):E3:=fun σ G R=>t σ G λc G1=>if c=true then ta σ G1 R else tb σ G1 R
def q_if(hc:QT X c t)(ha:QE X a ta)(hb:QE X b tb):QE X (.IfExp c a b pos) (uIf t ta tb):=⟨a0O (a8h hc.p ha.p hb.p) fun τ H Q l=>l.un fun σ G R g m h j=>by
 refine⟨σ,G,_,g,m,h,λk i n e f d=>?_⟩;cases k with
 |true=>rw[if_pos rfl]at e ⊢;exact⟨σ,i,R,g.mono d,f,e,j.mono d⟩
 |false=>rw[if_neg (by simp)]at e ⊢;exact⟨σ,i,R,g.mono d,f,e,j.mono d⟩⟩
def tru:Z->Hq->(Bool->Hq->Prop)->Prop
 |.non,G,R=>R false G
 |.bl b,G,R=>R b G
 |.int i,G,R=>R (i != 0) G
 |.str y,G,R=>y.length<=fi/\R ((y.length:Int) != 0) G
 |.tup ws,G,R=>R (!ws.isEmpty) G
 |.scr _ ns,G,R=>R (!ns.isEmpty) G
 |.ref p,G,R=>(∃ws,G p=some (.lst ws)/\R (!ws.isEmpty) G)\/∃kvs,G p=some (.dK kvs)/\R (!kvs.isEmpty) G
 |.ty _,_,_=>False
def uTru(ta:E3):T3:=fun σ G R=>ta σ G λx G1=>tru x G1 R
def a01{α β:Type}{a:List α}{b:List β}(h:a.length=b.length):a.isEmpty=b.isEmpty:=by
 cases a<;>cases b<;>simp_all
def b0O{K:Fg}(h:tru w G R)(r:Rep K H w v)(hg:RH K G H)(up:UpB K H R Q):∃k,TruV K v H k/\Q k H:=by
 cases w with
 |non=>rw[a0z]at r;subst r;exact⟨_,rfl,up _ _ _ h hg (.refl _ _)⟩
 |bl b=>rw[a0v]at r;subst r;exact⟨_,rfl,up _ _ _ h hg (.refl _ _)⟩
 |int i=>rw[a0h]at r;subst r;exact⟨_,rfl,up _ _ _ h hg (.refl _ _)⟩
 |str y=>rw[a0x]at r;subst r;exact⟨_,⟨h.1,rfl⟩,up _ _ _ h.2 hg (.refl _ _)⟩
 |ty n=>exact ap h
 |scr a ns=>rw[a1X]at r;obtain⟨rfl,f⟩:=r;exact⟨!ns.isEmpty,.inl ⟨_,f.sq,by rw[a01 (ae ..).symm]⟩,up _ _ _ h hg (.refl _ _)⟩
 |tup ws=>
  obtain⟨a,d,rfl,e,c⟩:=r;exact⟨!ws.isEmpty,.inr (.inl ⟨d,SqT.of e,by rw[a01 c.length]⟩),up _ _ _ h hg (.refl _ _)⟩
 |ref p=>
  subst r;rcases h with ⟨ws,e,h⟩ |⟨kvs,e,h⟩
  ·obtain⟨d,g,c⟩:=hg p _ e;exact⟨_,.inl ⟨d,SqL.of g,by rw[<- a01 c.length]⟩,up _ _ _ h hg (.refl _ _)⟩
  ·obtain⟨j,g,l,c⟩:=hg p _ e;exact⟨_,.inr (.inr ⟨j,g,by rw[a01 (show kvs.length=j.length by rw[<- ae,c.length,ae])]⟩),up _ _ _ h hg (.refl _ _)⟩
def b5k(ha:QE X a ta)(he:∀whole,isTrue a X.env whole=(do let v <- whole;gY a.pos;fV [v] (truthy v))):QT X a (uTru ta):=⟨a6S (a8o ha.p he) fun τ H Q i=>i.un fun σ G R d f h j=>
 ⟨σ,G,_,d,f,h,λw k v l e g b c=>b0O e g b (j.mono c)⟩⟩
def a3l(ha:QE X a ta)(he:∀whole,isTrue a X.env whole=(do let v <- whole;gY a.pos;fV [v] (truthy v)):=by intro _;rfl):QT X a (a6V ta):=⟨a6S (b18 ha.p he) λ_ _ _ h=>a3k h⟩
end
section
variable{env:Env}{es:List Expr}{pos:Pos}
def b2Z:(backTo pos (fu [] env)).any (·.1)=false:=rfl
def b0P(h:fu (e::es) env=(false,eval e env)::fu es env)(r:(backTo pos (fu es env)).any (·.1)=false):(backTo pos (fu (e::es) env)).any (·.1)=false:=by
 rw[h]
 show (false||(backTo pos _).any _)=false
 rw[r];rfl
end
section
variable{X:Cx}{e a b:Expr}{es:List Expr}{pos p2:Pos}{te ta tb:E3}{t:A3}
def q_ix(hr:IxQ X r)(ha:QE X a ta)(hb:QE X b tb)(hs:a6E b):QE X (.Subscript a b pos) (uOp r ta tb):=⟨a0O (b46 hr ha.p hb.p hs) λ_ _ _=>a43⟩
abbrev O3:=S3->Hq->(Option Int->Hq->Prop)->Prop
def a6Z:O3:=λ_ G R=>R none G
def b20(t:E3):O3:=fun σ G R=>t σ G λx G1=>∃i,x=.int i/\R (some i) G1
def lowO(K:Fg)(t:O3):TO:=fun τ H Q=>∃σ G R,RSt K H σ τ/\RH K G H/\t σ G R/\∀o G' H',R o G'->RH K G' H'->TK K H H'->Q o H'
def lowO.un{K:Fg}{t:O3}{C:Prop}(z:lowO K t τ H Q)(f:∀σ G R,(RSt K H σ τ)->(RH K G H)->(t σ G R)->(∀o G' H',R o G'->RH K G' H'->TK K H H'->Q o H')->C):C:=by obtain⟨σ,G,R,d,b,c,a⟩:=z;exact f _ _ _ d b c a
def QO(X:Cx)(e:Option Expr)(t:O3):Prop:=PO X e (lowO X.K t)
def a8F:QO X none a6Z:=by rintro a s τ H Q I ⟨σ,G,R,d,c,h,b⟩;exact b0E a s τ H Q I (b _ _ _ h c (.refl _ _))
def b21(h:QE X e te):QO X (some e) (b20 te):=by rintro a s τ H Q I ⟨σ,G,R,f,k,q,l⟩;exact b0F h.p a s τ H Q I ⟨σ,G,_,f,k,q,by
 rintro w n v m ⟨i,g,d⟩ b c j;subst g;exact⟨i,b,l _ _ _ d c j⟩⟩
abbrev L3r:=Z->Option Int->Option Int->Hq->K3->Prop
def lowL(K:Fg)(r:L3r):V->Option Int->Option Int->Hp->VK->Prop:=λx lo hi H Q=>∃w G R,Rep K H w x/\RH K G H/\r w lo hi G R/\UpV K H R Q
def lowL.un{K:Fg}{lo hi:Option Int}{C:Prop}(z:lowL K r x lo hi H Q)(f:∀w G R,(Rep K H w x)->(RH K G H)->(r w lo hi G R)->(UpV K H R Q)->C):C:=by obtain⟨w,G,R,a,d,b,c⟩:=z;exact f _ _ _ a d b c
def SlQ(X:Cx)(r:L3r):Prop:=SlR X (lowL X.K r)
def b5l(h:SlR X r')(i:∀x lo hi H Q,r x lo hi H Q->r' x lo hi H Q):SlR X r:=λa s σ H x v l b j f d Q I c e g k q=>h a s σ H x v l b j f d Q I c e g k (i _ _ _ _ _ q)
def uSl(r:L3r)(te:E3)(tl th:O3):E3:=fun σ G R=>te σ G λx G1=>tl σ G1 λl G2=>th σ G2 λu G3=>r x l u G3 R
def b0Q{lo hi:Option Expr}(hr:SlQ X r)(he:QE X e te)(hl:QO X lo tl)(hu:QO X hi th):QE X (.Subscript e (.Slice lo hi none p2) pos) (uSl r te tl th):=⟨a0O (a8s hr he.p hl hu) fun τ H Q q=>q.un fun σ G R c k h y=>
 ⟨σ,G,_,c,k,h,λw m v z j t f b=>⟨σ,m,_,c.mono b,f,j,λl o A s d a=>⟨σ,o,_,c.mono (b.trans a),d,s,λu x B n i g=>
  ⟨w,x,R,t.mono (a.trans g),i,n,y.mono ((b.trans a).trans g)⟩⟩⟩⟩⟩
def uNil:A3:=λ_ G R=>R [] G
def b0R(ta:E3)(tr:A3):A3:=fun σ G R=>ta σ G λx G1=>tr σ G1 λxs G2=>R (x::xs) G2
def a2w:QA X [] uNil:=⟨b2R a3J fun τ H Q b=>b.un fun σ G R d a h c=>c _ _ _ _ h .nil a (.refl _ _)⟩
def b22(ha:QE X e te)(hr:QA X es t)(hs:fu (e::es) X.env=(false,eval e X.env)::fu es X.env):QA X (e::es) (b0R te t):=⟨b2R (a2q ha.p hr.p hs) fun τ H Q i=>i.un fun σ G R hs l h o=>
 ⟨σ,G,_,hs,l,h,λw j v H1 g m f d=>⟨σ,j,_,hs.mono d,f,g,λws G2 vs H2 n k c b=>o _ _ _ _ n (.cons (m.mono b) k) c (d.trans b)⟩⟩⟩
def uTup(t:A3):E3:=fun σ G R=>t σ G λxs G1=>xs.length<=fi/\R (.tup xs) G1
def uLst(t:A3):E3:=fun σ G R=>t σ G λxs G1=>xs.length<=fi/\∀p,G1 p=none->R (.ref p) (put G1 p (.lst xs))
def b5m(h:QA X es t):QE X (.Tuple es x1 pos) (uTup t):=⟨a0O (b2z h.p) fun τ H Q k=>k.un fun σ G R f j h d=>
 ⟨σ,G,_,f,j,h,by rintro o m l n ⟨i,g⟩ b c e;exact⟨by rw[<- b.length];exact i,λp a=>d _ _ _ _ g (by rw[a0Y];exact⟨p,l,rfl,a0e,b.mono (.new a)⟩) (c.hid a) (e.trans (.new a))⟩⟩⟩
def a0E{K:Fg}(r:Reps K H ws vs)(t:TK K H (upd H p (.lst vs))):ROb K (upd H p (.lst vs)) p (.lst ws):=⟨vs,a0e,r.mono t⟩
def b5n(h:QA X es t):QE X (.List es pos) (uLst t):=⟨a0O (b2A h.p) fun τ H Q g=>g.un fun σ G R d k h i=>
 ⟨σ,G,_,d,k,h,by rintro m l o n ⟨f,e⟩ c b j;exact⟨by rw[<- c.length];exact f,λp a=>i _ _ _ _ (e p (b.out a)) (by rw[a0p]) (b.set (.new a) (a0E c (.new a))) (j.trans (.new a))⟩⟩⟩
def uCB(r:List Z->Hq->K3->Prop)(t:A3):E3:=fun σ G R=>t σ G λws G1=>r ws G1 R
def a9R{K:Fg}(h:low K (uCB r t) τ H Q):tCB (lowC K r) (lowA K t) τ H Q:=by
 obtain⟨σ,G,R,e,j,h,i⟩:=h;exact⟨σ,G,_,e,j,h,λc g k l f b a d=>⟨c,g,R,b,a,f,i.mono d⟩⟩
variable{x:Str}{p:Pos}{id T:String}{r:List Z->Hq->K3->Prop}
def b0S(hc:a3j X (.builtin id) r)(hg:Gl X x)(hm:X.mg x=none)(hv:fJ x=some (.builtin id))(ha:QA X (e::es) t)(hn:x≠"__name__")(hdb:(x==("__debug__":Str))=false)
  (he:fu (e::es) X.env=(false,eval e X.env)::fu es X.env) (hpl:(backTo pos (fu es X.env)).any (·.1)=false):QE X (.Call (.Name x p) (e::es) [] pos) (uCB r t):=⟨a0O (a2h hc hg hm hv ha.p hn hdb he hpl) λ_ _ _=>a9R⟩
def a8G(hc:a3j X (.type T) r)(hg:Gl X x)(hm:X.mg x=none)(hv:fJ x=some (.type T))(ha:QA X (e::es) t)(hn:x≠"__name__")(hdb:(x==("__debug__":Str))=false)
  (he:fu (e::es) X.env=(false,eval e X.env)::fu es X.env) (hpl:(backTo pos (fu es X.env)).any (·.1)=false):QE X (.Call (.Name x p) (e::es) [] pos) (uCB r t):=⟨a0O (a1c hc hg hm hv ha.p hn hdb he hpl) λ_ _ _=>a9R⟩
def tyZ(T:String)(x:Z)(G:Hq):Prop:=match x with
 |.str _=>T="str"
 |.int _=>T="int"
 |.ref p=>(T="list"/\∃ws,G p=some (.lst ws))\/(T="dict"/\∃kvs,G p=some (.dK kvs)\/G p=some (.dF kvs))
 |.scr _ _=>T="list"
 |_=>False
def b0T{K:Fg}(h:tyZ T w G)(r:Rep K H w v)(hg:RH K G H):tyV K T v H:=by
 cases w with
 |str y=>rw[a0x]at r;subst r;exact h
 |int y=>rw[a0h]at r;subst r;exact h
 |ref q=>
  subst r;rcases h with ⟨e,ws,g⟩ |⟨e,kvs,g⟩
  ·obtain⟨b,a,_⟩:=hg q _ g;exact .inl ⟨e,b,SqL.of a⟩
  ·rcases g with g |g
   ·obtain⟨b,a,_⟩:=hg q _ g;exact .inr (.inr (.inl ⟨e,.inl ⟨b,a⟩⟩))
   ·obtain⟨c,b,a,_⟩:=hg q _ g;exact .inr (.inr (.inl ⟨e,.inr (.inr ⟨c,b,a⟩)⟩))
 |scr q ns=>rw[a1X]at r;obtain⟨rfl,f⟩:=r;exact .inl ⟨h,_,f.sq⟩
 |_=>exact ap h
def uBM(T:String)(r:Z->List Z->Hq->K3->Prop)(to:E3)(t:A3):E3:=fun σ G R=>to σ G λx G1=>tyZ T x G1/\t σ G1 λxs G2=>r x xs G2 R
variable{o:Expr}{to:E3}{name:Str}{apos cpos:Pos}{rm:Z->List Z->Hq->K3->Prop}
def q_bm(pa:PlainAttrs T)(slot:Slot T name id)(hty:typeOf (.builtin id)=pure (.type "method_descriptor"))(hm:MtQ X id rm)(ho:QE X o to)(ha:QA X (e::es) t)
  (hbase:jh o name X.env (eval o X.env)=eval o X.env:=by rfl)
  (hfew:((backTo cpos (fu (e::es) X.env)).all (λx=>!x.1)&&(ji cpos (jj [] X.env)).all (λx=>x.1.isSome)
   && decide ((e::es).length+([]:List gH).length+(if ([]:List gH).isEmpty then 0 else 1)<30))=true:=by rfl)
  (hline:(apos.endLine==cpos.line)=true:=by rfl) (hs:fu (e::es) X.env=(false,eval e X.env)::fu es X.env:=by rfl) (hplain:(backTo cpos (fu es X.env)).any (·.1)=false:=by rfl) :
  QE X (.Call (.Attribute o name apos) (e::es) [] cpos) (uBM T rm to t):=⟨a0O (b48 pa slot hty hm ho.p ha.p hbase hfew hline hs hplain) fun τ H Q q=>q.un fun σ G R hs r h u=>
  ⟨σ,G,_,hs,r,h,by rintro w j v H1 ⟨m,n⟩ d a g;exact⟨b0T m d a,σ,j,_,hs.mono g,a,n,λs i vs H2 k l f c=>⟨w,s,i,R,d.mono c,l,f,k,u.mono (g.trans c)⟩⟩⟩⟩
abbrev P3:=List Z->Hq->K3->Prop
def lowP(K:Fg)(sp:P3):Sp:=λvs H Q _=>lowC K sp vs H Q
def b0U(sp:P3)(t:A3):E3:=fun σ G R=>t σ G λws G1=>sp ws G1 R
variable{k:Nat}{f:Addr}{fd:fK}{ps:List Str}{sp:P3}
def b23(F:FnOk X.prog X.w X.K X.mg X.base CX0 k f fd ps (lowP X.K sp))(hr:Room k X.A)(hg:Gl X x)(hm:X.mg x=some (.ref f))(hk:PySem.W.keepIn X.K (.ref f)=true)(hb:Binds X.K fd ps [])(ha:QA X (e::es) t)
  (hdb:(x==("__debug__":Str))=false) (he:fu (e::es) X.env=(false,eval e X.env)::fu es X.env) (hpl:(backTo pos (fu es X.env)).any (·.1)=false) :
  QE X (.Call (.Name x p) (e::es) [] pos) (b0U sp t):=⟨a0O (b0C F hr hg hm hk hb .nil b49 ha.p hdb he hpl) fun τ H Q d=>d.un fun σ G R i hg h m=>⟨σ,G,_,i,hg,h,λc j vs H1 l g b n=>⟨c,j,R,by rw[aV];exact g,b,l,m.mono n⟩⟩⟩
end
section
variable{X:Cx}{e c tg:Expr}{st:Stmt}{rest sa sb:List Stmt}{pos:Pos}{te:E3}{t u:X3}{tc:T3}
def b0V:X3:=λnx _ _ _ σ G=>nx σ G
def uSeq(t u:X3):X3:=λnx rt bk ct σ G=>t (u nx rt bk ct) rt bk ct σ G
def a2G:QSs X [] b0V:=⟨a6T b0p λD τ H a=>a.un fun σ G g e k f d b h c i j l=>c _ _ _ _ h d b (.refl _ _)⟩
def a0c(h1:QS X st t)(h2:QSs X rest u):QSs X (st::rest) (uSeq t u):=⟨a6T (a4W h1.p h2.p) λD τ H q=>q.un fun σ G k j c e l o h n d b g=>
 ⟨σ,G,_,j,c,e,l,o,h,fun σ' r τ' s m f i a=>⟨σ',r,k,j,c,e,f,i,m,n.mono a,d.mono a,b.mono a,g.mono a⟩,d,b,g⟩⟩
def a1t(h1:QS X st t):QSs X [st] t:=⟨b0q h1.p⟩
def uCut(t u:X3):X3:=λnx rt bk ct σ G=>∃M:C3,t M rt bk ct σ G/\∀σ' G',M σ' G'->u nx rt bk ct σ' G'
def a60(h1:QS X st t)(h2:QSs X rest u):QSs X (st::rest) (uCut t u):=⟨a6T (a4W h1.p h2.p) λD τ H v=>v.un fun σ G n d j b q m l s g e i=>by
 obtain⟨M,h,k⟩:=l;exact⟨σ,G,M,d,j,b,q,m,h,fun σ' o τ' w r f c a=>⟨σ',o,n,d,j,b,f,c,k _ _ r,s.mono a,g.mono a,e.mono a,i.mono a⟩,g,e,i⟩⟩
def b24:X3:=λ_ _ bk _ σ G=>bk σ G
def b25:X3:=λ_ _ _ ct σ G=>ct σ G
def b26:QS X (.Pass pos) b0V:=⟨a1E b0r λD τ H d=>d.un fun σ G e g i l a b h c k j f=>c _ _ _ _ h a b (.refl _ _)⟩
def b0W:QS X (.Break pos) b24:=⟨a1E a8i λD τ H a=>a.un fun σ G f i e g b d h j l c k=>c _ _ _ _ h b d (.refl _ _)⟩
def b27:QS X (.Continue pos) b25:=⟨a1E a4k λD τ H c=>c.un fun σ G e g i l a b h f k j d=>d _ _ _ _ h a b (.refl _ _)⟩
def b28(te:E3):X3:=λnx _ _ _ σ G=>te σ G λ_ G1=>nx σ G1
def b29(he:QE X e te)(hs:gz e none pos.line X.env=pure false:=by rfl):QS X (.Expr e pos) (b28 te):=⟨a1E (b0s he.p hs) λD τ H i=>i.un fun σ G nx rt bk ct hs g h f u2 u3 u4=>
 ⟨σ,G,_,hs,g,h,λw G1 v H1 d rv c b=>f _ _ _ _ d (hs.mono b) c b⟩⟩
def uRet(te:E3):X3:=λ_ rt _ _ σ G=>te σ G rt
def a4o(he:QE X e te):QS X (.Return (some e) pos) (uRet te):=⟨a1E (b2h he.p) λD τ H c=>c.un fun σ G f j k m a b h g d l i=>⟨σ,G,_,a,b,h,d⟩⟩
def b5o:X3:=λ_ rt _ _ _ G=>rt .non G
def b3a:QS X (.Return none pos) b5o:=⟨a1E b0t λD τ H b=>b.un fun σ G e j d l g a h k c f i=>c _ _ _ _ h (by rw[a0z]) a (.refl _ _)⟩
def uIfS(c:T3)(t u:X3):X3:=λnx rt bk ct σ G=>c σ G λb G1=>if b=true then t nx rt bk ct σ G1 else u nx rt bk ct σ G1
def z_if(hc:QT X c tc)(ha:QSs X sa t)(hb:QSs X sb u):QS X (.If c sa sb pos) (uIfS tc t u):=⟨a1E (b4W hc.p ha.p hb.p) λD τ H s=>s.un fun σ G l g k m f r h n q j i=>by
 refine⟨σ,G,_,f,r,h,λb o v d e a=>?_⟩;cases b with
 |true=>rw[if_pos rfl]at d ⊢;exact⟨σ,o,l,g,k,m,f.mono a,e,d,n.mono a,q.mono a,j.mono a,i.mono a⟩
 |false=>rw[if_neg (by simp)]at d ⊢;exact⟨σ,o,l,g,k,m,f.mono a,e,d,n.mono a,q.mono a,j.mono a,i.mono a⟩⟩
def b3b(c:T3)(tb:X3):X3:=λnx rt _ _ σ G=>∃I:Nat->S3->Hq->Prop,(∃m,I m σ G)/\∀m σ G,I m σ G ->
 c σ G λb G1=>if b=true then tb (fun σ' G'=>∃m',m'<m/\I m' σ' G') rt nx (fun σ' G'=>∃m',m'<m/\I m' σ' G') σ G1 else nx σ G1
def a4p(hp:fH (model X.prog X.w) X.A X.env X.xe)(hc:QT X c tc)(hb:QSs X sb t):QS X (.While c sb [] pos) (b3b tc t):=⟨a1E (a8k hp hc.p hb.p) λD τ H L=>L.un fun σ G C R Y T F J B v Q W V=>by
 obtain⟨I,⟨y,E⟩,l⟩:=B;refine⟨λm τ' i=>∃σ' G',RSt X.K i σ' τ'/\RH X.K G' i/\TK X.K H i/\I m σ' G',⟨y,σ,G,F,J,.refl _ _,E⟩,?_⟩;rintro m τ' S ⟨σ1,u,g,x,f,M⟩;refine⟨σ1,u,_,g,x,l m σ1 u M,λb z U j k a=>?_⟩;cases b with
 |false=>rw[if_neg (by simp)]at j ⊢;exact v _ _ _ _ j (g.mono a) k (f.trans a)
 |true=>
  refine⟨_,fun σ' i h=>h,σ1,z,_,R,C,_,g.mono a,k,j,?_,Q.mono (f.trans a),v.mono (f.trans a),?_⟩
  ·rintro σ3 s τ3 N ⟨o,n,r⟩ d e q;exact⟨o,n,σ3,s,d,e,(f.trans a).trans q,r⟩
  ·rintro σ3 s τ3 N ⟨o,n,r⟩ d e q;exact⟨o,n,σ3,s,d,e,(f.trans a).trans q,r⟩⟩
inductive Pt where
 |nm (i:Nat)
 |tp (is:List Nat)
def gsOf:List Nat->TGs
 |[]=>gNil
 |i::is=>b2i (a6m i) (gsOf is)
def gP(K:Fg):Pt->TG
 |.nm i=>a6m i
 |.tp is=>gTup K is.length (gsOf is)
noncomputable def sets:List Nat->List Z->S3->S3
 |i::is,w::ws,σ=>sets is ws (σ.set i (some w))
 |_,_,σ=>σ
noncomputable def a3m:Pt->Z->S3->Option S3
 |.nm i,w,σ=>some (σ.set i (some w))
 |.tp is,.tup ws,σ=>if ws.length=is.length then some (sets is ws σ) else none
 |_,_,_=>none
noncomputable def Pt.slots:Pt->List Nat
 |.nm i=>[i]
 |.tp is=>is
noncomputable def a2e:List Nat->List V->L2.St->L2.St
 |i::is,w::ws,σ=>a2e is ws (σ.set i (some w))
 |_,_,σ=>σ
theorem a61:∀{is:List Nat}{vs:List V}{τ:L2.St},vs.length=is.length->Q (a2e is vs τ) H->gsOf is vs τ H Q
 |[],[],_,_,q=>⟨rfl,q⟩
 |i::is,v::vs,τ,h,q=>⟨v,vs,rfl,a61 (by simpa using h) q⟩
 |[],_::_,_,h,_=>by simp at h
 |_::_,[],_,h,_=>by simp at h
theorem a3S{K:Fg}:∀{is:List Nat}{ws:List Z}{vs:List V}{σ:S3}{τ:L2.St},Reps K H ws vs->RSt K H σ τ->RSt K H (sets is ws σ) (a2e is vs τ)
 |[],ws,vs,σ,τ,_,h=>by unfold sets a2e;exact h
 |i::is,[],vs,σ,τ,r,h=>by rw[a0s]at r;subst r;exact h
 |i::is,w::ws,vs,σ,τ,r,h=>by
  obtain⟨v,c,rfl,a,b⟩:=r;exact a3S (is:=is) b (h.set a i)
theorem a2V:∀{is:List Nat}{vs:List V}{τ:L2.St}{j:Nat},j∉is->(a2e is vs τ)[j]?=τ[j]?
 |[],_,_,_,_=>by unfold a2e;rfl
 |i::is,[],_,_,_=>by unfold a2e;rfl
 |i::is,v::vs,τ,j,h=>by
  have b:j≠i:=λz=>h (z▸aX ..)
  show (a2e is vs _)[j]?=τ[j]?
  rw[a2V (λz=>h (bF _ z)),cI (Ne.symm b)]
theorem a19:∀{is:List Nat}{vs:List V}{τ:L2.St},(a2e is vs τ).length=τ.length
 |[],_,_=>by unfold a2e;rfl
 |i::is,[],_=>by unfold a2e;rfl
 |i::is,v::vs,τ=>by
  show (a2e is vs _).length=τ.length
  rw[a19,d7]
def b0X{K:Fg}(r:Rep K H w v)(hs:RSt K H σ τ)(hb:a3m pt w σ=some σ')
  (q:∀τ',RSt K H σ' τ'->τ'.length=τ.length->(∀j,j∉pt.slots->τ'[j]?=τ[j]?)->Q τ' H):gP K pt v τ H Q:=by
 cases pt with
 |nm i=>
  cases hb;exact q _ (hs.set r i) (by simp) λj d=>by rw[cI];intro z;exact d (z▸aX ..)
 |tp is=>
  cases w with
  |tup ws=>
   obtain⟨a,f,rfl,e,c⟩:=r;have b:(if ws.length=is.length then some _ else none)=some σ':=hb
   by_cases hl:ws.length=is.length
   ·rw[if_pos hl]at b;cases b;exact⟨a,f,rfl,SqT.of e,by rw[<- c.length];exact hl,a61 (c.length▸hl) (q _ (a3S c hs) a19 λj d=>a2V d)⟩
   ·simp_all
  |_=>cases hb
def QP(X:Cx)(tg:Expr)(pt:Pt):Prop:=PG X tg (gP X.K pt)
def uAsg(te:E3)(pt:Pt):X3:=λnx _ _ _ σ G=>te σ G λx G1=>∃σ',a3m pt x σ=some σ'/\nx σ' G1
def a4q{K:Fg}(h:lowS K (uAsg te pt) D τ H):tAsg (low K te) (gP K pt) D τ H:=by
 obtain⟨σ,G,p,s,k,l,b,e,h,j,r,m,n⟩:=h;exact⟨σ,G,_,b,e,h,by rintro w o v q ⟨σ',g,i⟩ f c d;exact b0X f (b.mono d) g fun τ' a _ _=>j _ _ _ _ i a c d⟩
def b5p(hN:X.N.Nodup)(hi:X.N[i]?=some x)(hx:Loc X.env.scope x)(he:QE X e te)(hs:gz e (some (.Name x pos')) pos.line X.env=pure false)(hf:X.fn x=true\/X.env.scope.names.lookup x=some .local) :
  QS X (.Assign [.Name x pos'] e pos) (uAsg te (.nm i)):=⟨a1E (b2l hN hi hx he.p hs hf) λ_ _ _=>a4q⟩
def b3c(he:QE X e te)(hg:QP X tg pt)(hs:i8 [tg] e pos.line X.env=pure false:=by rfl)(hw:i9 [tg] e X.env=pure none:=by rfl)
  (h1:(f8 [tg] X.env).map (·.2)=[assign tg X.env]:=by rfl):QS X (.Assign [tg] e pos) (uAsg te pt):=⟨a1E (a9L he.p hg hs hw h1) λ_ _ _=>a4q⟩
abbrev Z3:=Z->Z->Z->Hq->(Hq->Prop)->Prop
def lowZ(K:Fg)(r:Z3):TSet:=λo i v H Q=>∃a b w G R,Rep K H a o/\Rep K H b i/\Rep K H w v/\RH K G H/\r a b w G R/\∀G' H',R G'->RH K G' H'->TK K H H'->Q H'
def lowZ.un{K:Fg}{C:Prop}(z:lowZ K r o i v H Q)(f:∀a b w G R,(Rep K H a o)->(Rep K H b i)->(Rep K H w v)->(RH K G H)->(r a b w G R)->(∀G' H',R G'->RH K G' H'->TK K H H'->Q H')->C):C:=by obtain⟨a,b,w,G,R,d,j,e,g,c,h⟩:=z;exact f _ _ _ _ _ d j e g c h
def SetQ(X:Cx)(r:Z3):Prop:=PSet X (lowZ X.K r)
def a9S(h:PSet X r')(i:∀o j v H Q,r o j v H Q->r' o j v H Q):PSet X r:=λa s σ H o j v c f u Q I b d e q=>h a s σ H o j v c f u Q I b d e (i _ _ _ _ _ q)
def uPut(te to ti:E3)(r:Z3):X3:=λnx _ _ _ σ G=>te σ G λw G1=>to σ G1 λo G2=>ti σ G2 λi G3=>r o i w G3 λG4=>nx σ G4
def b5q(h:PS X st (tAsg (low X.K te) (gSub (low X.K to) (low X.K ti) (lowZ X.K r)))):QS X st (uPut te to ti r):=⟨a1E h λD τ H z=>z.un fun σ G Q I J N a s h B T V C=>
 ⟨σ,G,_,a,s,h,λw m v U o t e d=>⟨σ,m,_,a.mono d,e,o,λx u R S n i l c=>⟨σ,u,_,a.mono (d.trans c),l,n,λy A M F q g k b=>
  ⟨x,y,w,A,_,i.mono b,g,t.mono (c.trans b),k,q,λE L p j f=>B _ _ _ _ p (a.mono (((d.trans c).trans b).trans f)) j (((d.trans c).trans b).trans f)⟩⟩⟩⟩⟩
def a2W(he:QE X e te)(ho:QE X o to)(hi:QE X i ti)(hr:SetQ X r)(hs:i8 [.Subscript o i p'] e pos.line X.env=pure false:=by rfl)(hw:i9 [.Subscript o i p'] e X.env=pure none:=by rfl)
  (h1:(f8 [.Subscript o i p'] X.env).map (·.2)=[assign (.Subscript o i p') X.env]:=by rfl) (ha:∀v,assign (.Subscript o i p') X.env v=(do
   let ov <- fV [v] (eval o X.env)
   let iv <- fV [v,ov] (eval i X.env)
   gY p'
   fV [v,ov,iv] (iE ov iv v)
   release [v,ov,iv] []):=by intro _;rfl):QS X (.Assign [.Subscript o i p'] e pos) (uPut te to ti r):=b5q (a9L he.p (b2k ho.p hi.p hr ha) hs hw h1)
def uAug(i:Nat)(te:E3)(r:R3):X3:=λnx _ _ _ σ G=>∃x,σ[i]?=some (some x)/\te σ G λy G1=>r x y G1 λz G2=>nx (σ.set i (some z)) G2
def b5r(h:PS X st (tAug i (low X.K te) (low2 X.K r))):QS X st (uAug i te r):=⟨a1E h λD τ H q=>q.un fun σ G y L C u a s k t A B M=>by
 obtain⟨x,p,h⟩:=k;obtain⟨v,n,o⟩:=a.get p;exact⟨v,n,σ,G,_,a,s,h,λw m N z j c g b=>⟨x,w,m,_,o.mono b,c,g,j,λF I J E l d e f=>t _ _ _ _ l ((a.mono (b.trans f)).set d i) e (b.trans f)⟩⟩⟩
def b3d(hN:X.N.Nodup)(hi:X.N[i]?=some x)(hx:Loc X.env.scope x)(he:QE X e te)(ho:OpQ X (gE op) r)(hf:X.fn x=true\/X.env.scope.names.lookup x=some .local) :
  QS X (.AugAssign (.Name x pos') op e pos) (uAug i te r):=b5r (b2m hN hi hx he.p ho hf)
end
abbrev I3:=S3->Hq->(List Z->(Hq->Prop)->Hq->Prop)->Prop
def a4r(K:Fg)(ws:List Z)(ok:Hq->Prop)(J:It)(H0:Hp):Prop:=∀i G H,RH K G H->TK K H0 H->ok G->i<=ws.length ->
 (i=ws.length->J.stop i H)/\∀w,ws[i]?=some w->J.go i H/\∀x H',J.yld i H x H'->Rep K H' w x/\RH K G H'/\TK K H H'
def lowI(K:Fg)(wi:I3):TI:=fun τ H R2=>∃σ G R,RSt K H σ τ/\RH K G H/\wi σ G R/\∀ws ok G' J H',R ws ok G'->a4r K ws ok J H'->RH K G' H'->TK K H H'->R2 J H'
def lowI.un{K:Fg}{R2:It->Hp->Prop}{C:Prop}(z:lowI K wi τ H R2)(f:∀σ G R,(RSt K H σ τ)->(RH K G H)->(wi σ G R)->(∀ws ok G' J H',R ws ok G'->a4r K ws ok J H'->RH K G' H'->TK K H H'->R2 J H')->C):C:=by obtain⟨σ,G,R,d,b,c,a⟩:=z;exact f _ _ _ d b c a
def QI(X:Cx)(tg iter:Expr)(wi:I3):Prop:=PI X tg iter (lowI X.K wi)
def a8H(h:PI X tg iter wi')(i:∀σ H R,wi σ H R->wi' σ H R):PI X tg iter wi:=λa s σ H R I q=>h a s σ H R I (i σ H R q)
def FORB(ws:List Z)(ok:Hq->Prop)(pt:Pt)(tb:X3)(nx:C3)(rt:K3)(σ:S3)(G1:Hq):Prop:=∃I:Nat->S3->Hq->Prop,I 0 σ G1/\(∀i σ G,i<=ws.length->I i σ G->ok G) /\
 (∀i x σ G,ws[i]?=some x->I i σ G->∃σ',a3m pt x σ=some σ'/\tb (I (i+1)) rt nx (I (i+1)) σ' G)/\∀σ G,I ws.length σ G->nx σ G
def uFor(wi:I3)(pt:Pt)(tb:X3):X3:=λnx rt _ _ σ G=>wi σ G λws ok G1=>FORB ws ok pt tb nx rt σ G1
def a0R(I:Nat->S3->Hq->Prop)(h0:I 0 σ G)(hok:∀i σ G,i<=ws.length->I i σ G->ok G)
  (step:∀i x σ G,ws[i]?=some x->I i σ G->∃σ',a3m pt x σ=some σ'/\tb (I (i+1)) rt nx (I (i+1)) σ' G) (fin:∀σ G,I ws.length σ G->nx σ G):FORB ws ok pt tb nx rt σ G:=⟨I,h0,hok,step,fin⟩
def a2f(hp:fH (model X.prog X.w) X.A X.env X.xe)(hc:X.calm=true)(hi:QI X tg iter wi)(hg:QP X tg pt)(hb:QSs X sb t)
  (hs:∀x,gj iter X.env x=pure x:=by intro _;rfl):QS X (.For tg iter sb [] pos) (uFor wi pt t):=⟨a1E (b2p hp hc hi hg hb.p hs) λD τ H U=>U.un fun σ G nx rt bk ct hs hg h R u2 u3 u4=>by
 refine⟨σ,G,_,hs,hg,h,?_⟩;rintro b ok G1 J L ⟨I,i0,S,u,E⟩ hJ M k;refine⟨λi m τ' a=>m=b.length-i/\i<=b.length/\∃σ' G',RSt X.K a σ' τ'/\RH X.K G' a/\TK X.K L a/\I i σ' G',⟨b.length,by simp,aK _,σ,G1,hs.mono k,M,.refl _ _,i0⟩,?_⟩;rintro i m τ2 H2 ⟨rfl,n,σ2,j,o,r,c,z⟩;have l:=hJ i j H2 r c (S i σ2 j n z) n
 by_cases hlt:i<b.length
 ·obtain⟨Y,T⟩:=l.2 _ (ak hlt);refine .inr ⟨Y,fun τ' a=>i+1<=b.length/\∃σ' G',RSt X.K a σ' τ'/\RH X.K G' a/\TK X.K L a/\I _ σ' G',fun σ' a q=>⟨b.length-_,by omega,rfl,q.1,q.2⟩,λx H3 V=>?_⟩;obtain⟨rx,N,g⟩:=T x H3 V;obtain⟨σ',F,h3⟩:=u i _ σ2 j (ak hlt) z;exact b0X rx (o.mono g) F fun τ' C _ _=>⟨σ',j,_,rt,nx,_,C,N,h3,(fun σ4 v τ4 W s d f y=>⟨hlt,σ4,v,d,f,(c.trans g).trans y,s⟩),u2.mono ((k.trans c).trans g),R.mono ((k.trans c).trans g),(fun σ4 v τ4 W s d f y=>⟨hlt,σ4,v,d,f,(c.trans g).trans y,s⟩)⟩
 ·have e:i=b.length:=by lia
  subst e;exact .inl ⟨l.1 rfl,R _ _ _ _ (E σ2 j z) o r (k.trans c)⟩⟩
section
variable{X:Cx}{tg l:Expr}{tl:E3}
def wkL(x:Z)(G:Hq)(R:List Z->(Hq->Prop)->Hq->Prop):Prop:=match x with
 |.ref a=>∃ws,G a=some (.lst ws)/\R ws (λG=>G a=some (.lst ws)) G
 |.scr _ ns=>R (ns.map Z.int) (λ_=>True) G
 |_=>False
def iL(tl:E3):I3:=fun σ G R=>tl σ G λx G1=>wkL x G1 R
def a5P{K:Fg}:a4r K ws (λG=>G a=some (.lst ws)) (Itl K a) H:=λi G H c t g m=>by
 obtain⟨b,e,f⟩:=c a _ g;refine⟨λh=>⟨b,SqL.of e,by rw[<- f.length,h];exact af _⟩,λw j=>?_⟩;obtain⟨v,d,k⟩:=f.get j;refine⟨⟨b,v,SqL.of e,d⟩,?_⟩;rintro x l ⟨rfl,y⟩
 have:=y b (SqL.of e)
 rw[d]at this;cases this;exact⟨k,c,.refl _ _⟩
def a62{K:Fg}{ns:List Int}(f:Fz K H0 a (ns.map V.int)):a4r K (ns.map Z.int) (λ_=>True) (Itl K a) H0:=λi G H g t m l=>by
 have b:=(t.frz _ _ f).sq;have c:Reps K H _ _:=a1e ns;refine⟨λh=>⟨_,b,by rw[<- c.length,h];exact af _⟩,λw j=>?_⟩;obtain⟨v,d,e⟩:=c.get j;refine⟨⟨_,v,b,d⟩,?_⟩;rintro x k ⟨rfl,y⟩
 have:=y _ b
 rw[d]at this;cases this;exact⟨e,g,.refl _ _⟩
def a4s(hl:QE X l tl):QI X tg l (iL tl):=a8H (b0w hl.p) fun τ H s k=>k.un fun σ G R i j h f=>by
 refine⟨σ,G,_,i,j,h,λw q v o c b d g=>?_⟩;cases w with
 |ref a=>
  obtain⟨r,e,c⟩:=c;obtain⟨m,n,_⟩:=d a _ e;exact⟨a,b,⟨m,SqL.of n⟩,f _ _ _ _ _ c a5P d g⟩
 |scr a ns=>
  exact⟨a,b.1,⟨_,b.2.sq⟩,f _ _ _ _ _ c (a62 b.2) d g⟩
 |_=>exact ap c
noncomputable def rng(lo:Int):Nat->List Z
 |0=>[]
 |n+1=>.int lo::rng (lo+1) n
def a1m:∀(lo:Int)(n:Nat),(rng lo n).length=n:=by intro z0 y0;induction y0 generalizing z0 with
 |zero=>exact rfl
 |succ n I0=>rw[rng,aE,I0]
theorem a2x:∀{lo:Int}{n i:Nat}{w:Z},(rng lo n)[i]?=some w->i<n/\w=.int (lo+i)
 |_,0,_,_,h=>by simp[rng]at h
 |lo,n+1,0,w,h=>by simp[rng]at h;exact⟨by lia,by rw[<- h];simp⟩
 |lo,n+1,i+1,w,h=>by
  have:=a2x (by simpa[rng]using h)
  refine⟨by lia,?_⟩;rw[this.2]
  congr 1
  lia
def a63{K:Fg}{lo:Int}:a4r K (rng lo n) (λ_=>True) (Itr lo n) H0:=λi G H b t e g=>by
 rw[a1m];refine⟨λh=>by rw[h];exact af _,λw d=>?_⟩;obtain⟨a,c⟩:=a2x d;refine⟨a,?_⟩;rintro x f ⟨rfl,rfl⟩;exact⟨by rw[c,a0h],b,.refl _ _⟩
variable{t:A3}
def iR1(t:A3):I3:=fun σ G R=>t σ G λws G1=>∃j:Int,ws=[.int j]/\-(2 ^ 62)<=j/\j<2 ^ 62/\R (rng 0 j.toNat) (λ_=>True) G1
def a64(h:PI X tg wi (b2o (lowA X.K t))):QI X tg wi (iR1 t):=a8H h fun τ H p g=>g.un fun σ G R i d h l=>by
 refine⟨σ,G,_,i,d,h,λq o n s ⟨j,e,a,b,k⟩ f c m=>?_⟩;subst e;obtain⟨v,rfl,r⟩:=f.one;subst r;exact⟨j,rfl,a,b,l _ _ _ _ _ k a63 c m⟩
end
section
variable{X:Cx}{tg a b:Expr}{p pos:Pos}{t:A3}
def a5Q(hg:Gl X "range")(hm:X.mg "range"=none)(ha:QA X [a] t)(hs:fu [a] X.env=[(false,eval a X.env)]:=by rfl):QI X tg (.Call (.Name "range" p) [a] [] pos) (iR1 t):=a64 (a6p hg hm ha.p hs)
end
noncomputable def cap3(cap:List (Option Nat))(σ:S3):S3:=cap.map λo=>o.bind λj=>(σ[j]?).join
theorem a4t{K:Fg}(h:RSt K H σ τ):∀cap:List (Option Nat),RSt K H (cap3 cap σ) (a1U cap τ)
 |[]=>.nil
 |none::cap=>.cons (λ_ e=>nomatch e) (a4t h cap)
 |some j::cap=>.cons (λw e=>by
   have a:(σ[j]?).join=some w:=e;have b:σ[j]?=some (some w):=by
    cases q:σ[j]? with
    |none=>rw[q]at a;cases a
    |some o=>rw[q]at a;cases o with
     |none=>cases a
     |some z=>cases a;rfl
   obtain⟨v,c,r⟩:=h.get b;exact⟨v,by show (τ[j]?).join=some v;rw[c];rfl,r⟩) (a4t h cap)
theorem a1Z:∀{a b:L2.St},b.length=a.length->(∀(i:Nat) v,a[i]?=some (some v)->b[i]?=some (some v))->a00 a b
 |[],[],_,_=>True.intro
 |none::a,_::b,h,k=>a1Z (b:=b) (by simpa using h) λi v e=>by simpa using k (i+1) v (by simpa using e)
 |some x::a,y::b,h,k=>⟨by simpa using k 0 x rfl,a1Z (b:=b) (by simpa using h) λi v e=>by simpa using k (i+1) v (by simpa using e)⟩
 |[],_::_,h,_=>by simp at h
 |_::_,[],h,_=>by simp at h
def LCB(ws:List Z)(ok:Hq->Prop)(cap:List (Option Nat))(pt:Pt)(tt:T3)(te:E3)(σ:S3)(R:K3)(D:Addr)(G1:Hq):Prop:=∃I:Nat->List Z->Hq->Prop,I 0 [] (put G1 D (.lst []))/\(∀i ys G,i<=ws.length->I i ys G->ok G) /\
 (∀i x ys G,ws[i]?=some x->I i ys G->∃σ',a3m pt x (cap3 cap σ)=some σ'/\tt σ' G λb G4=>if b=true then te σ' G4 λy G5=>G5 D=some (.lst ys)/\ys.length<fi/\I (i+1) (ys++[y]) (put G5 D (.lst (ys++[y]))) else I (i+1) ys G4) /\
 ∀ys G,I ws.length ys G->R (.ref D) G
def uLC(wi:I3)(cap:List (Option Nat))(pt:Pt)(tt:T3)(te:E3):E3:=fun σ G R=>wi σ G λws ok G1=>∀D,G1 D=none->LCB ws ok cap pt tt te σ R D G1
def b0Y(I:Nat->List Z->Hq->Prop)(h0:I 0 [] (put G1 D (.lst [])))(hok:∀i ys G,i<=ws.length->I i ys G->ok G)
  (step:∀i x ys G,ws[i]?=some x->I i ys G->∃σ',a3m pt x (cap3 cap σ)=some σ'/\tt σ' G λb G4=>if b=true then te σ' G4 λy G5=>G5 D=some (.lst ys)/\ys.length<fi/\I (i+1) (ys++[y]) (put G5 D (.lst (ys++[y]))) else I (i+1) ys G4)
  (fin:∀ys G,I ws.length ys G->R (.ref D) G):LCB ws ok cap pt tt te σ R D G1:=⟨I,h0,hok,step,fin⟩
def a2a{α β:Type}{f:α->Option β}{ws:List α}{x:α}(h:ws[i]?=some x):(ws.take (i+1)).filterMap f=(ws.take i).filterMap f++(f x).toList:=by
 rw[bJ,List.filterMap_append,h];cases e:f x<;>simp[e]
def QIfs(X:Cx)(ifs:List Expr)(t:T3):Prop:=PIfs X ifs (lowT X.K t)
def uTT:T3:=λ_ G R=>R true G
def b0Z:QIfs X [] uTT:=by rintro a s τ H Q I ⟨σ,G,R,d,b,h,c⟩;exact a8y a s τ H Q I (c _ _ _ h b (.refl _ _))
def b00(h:QT X c t):QIfs X [c] t:=a8z h.p
def b01{pt:Pt}(hc:(pt.slots.all λj=>decide (cap[j]?=some none))=true)(h:(a1U cap τ)[i]?=some (some v)):i∉pt.slots:=λa=>by
 have q:=of_decide_eq_true ((bg.mp hc) i a);unfold a1U at h;rw[aq,q]at h;cases h
def a9T{K:Fg}(hc:(pt.slots.all λj=>decide (cap[j]?=some none))=true)(h:low K (uLC wi cap pt tt te) τ H Q) :
  tLC (lowI K wi) cap (gP K pt) (lowT K tt) (low K te) τ H Q:=by
 obtain⟨σ,G,R,hs,hg,h,up⟩:=h;refine⟨σ,G,_,hs,hg,h,λc ok G1 J H1 h1 hJ t U D B=>?_⟩;obtain⟨I,i0,S,C,N⟩:=h1 D (t.out B);refine⟨λi m _ d=>m=c.length-i/\i<=c.length/\∃a G',RH K G' d/\TK K H1 d/\I i a G',⟨c.length,by simp,aK _,[],_,t.set (o:=.lst []) (.new B) ⟨[],a0e,.nil⟩,.new B,i0⟩,?_⟩;rintro i m vs H2 ⟨rfl,w,a,f,p,g,E⟩;have n:=hJ i f H2 p g (S i a f w E) w
 by_cases hlt:i<c.length
 ·obtain⟨go,yl⟩:=n.2 _ (ak hlt);refine .inr ⟨go,λ_ d=>i+1<=c.length/\∃a G',RH K G' d/\TK K H1 d/\I _ a G',λvs' d q=>⟨c.length-_,by lia,rfl,q.1,q.2⟩,λx H3 y3=>?_⟩;obtain⟨rx,aa,F⟩:=yl x H3 y3;obtain⟨σ',Y,h3⟩:=C i _ a f (ak hlt) E;refine b0X rx (a4t (hs.mono ((U.trans g).trans F)) cap) Y fun τ' z M hk'=>⟨a1Z M λj v T=>by rw[hk' j (b01 hc T)];exact T,?_⟩;refine⟨σ',f,_,z,aa,h3,λb G4 H4 l u A=>?_⟩;cases b with
  |false=>
   exact⟨hlt,a,G4,u,(g.trans F).trans A,l⟩
  |true=>
   refine⟨σ',G4,_,z.mono A,u,l,λy G5 v5 H5 ⟨L,V,h5⟩ r5 r t5=>?_⟩;obtain⟨X,k,s⟩:=r D _ L;refine⟨X,k,by rw[<- s.length];exact V,hlt,_,_,r.set (.lst k) (a0E (s.append (.cons r5 .nil)) (.lst k)),?_,h5⟩;exact (((g.trans F).trans A).trans t5).trans (.lst k)
 ·have e:i=c.length:=by lia
  subst e;exact .inl ⟨n.1 rfl,up _ _ _ _ (N a f E) (by rw[a0p]) p (U.trans g)⟩
section
variable{X:Cx}{N':List Str}{sc:Scope}{cap:List (Option Nat)}{tg iter elt:Expr}{ifs:List Expr}{wi:I3}{pt:Pt}{tt:T3}{te:E3}{pos:Pos}
def q_lc(hc:X.calm=true)(hNN:X.N=Nj)(hso:X.env.scope=so)(ck:capB Nj so sc N' cap=true)(hp:(pt.slots.all λj=>decide (cap[j]?=some none))=true)(hi:QI X tg iter wi)
  (hg:∀C s H fp,QP (cxC X E0 N' sc C s H fp) tg pt) (ht:∀C s H fp,QIfs (cxC X E0 N' sc C s H fp) ifs tt) (he:∀C s H fp,QE (cxC X E0 N' sc C s H fp) elt te)
  (hs:∀x,gj iter X.env x=pure x:=by intro _;rfl):QE X (.ListComp elt [⟨tg,iter,ifs,0⟩] sc pos) (uLC wi cap pt tt te):=⟨a0O (b5c (g:=gP X.K pt) (tt:=lowT X.K tt) hc a40 hNN hso ck hi hg ht (λC s H a=>(he C s H a).p) hs) λ_ _ _=>a9T hp⟩
def b02(hN:X.N.Nodup)(hx:X.N[i]?=some x)(hl:X.env.scope.names.lookup x=some .local)(hc:X.calm=true)(hNN:X.N=Nj)(hso:X.env.scope=so)(ck:capB Nj so sc N' cap=true)
  (hp:(pt.slots.all λj=>decide (cap[j]?=some none))=true) (hi:QI X tg iter wi)
  (hg:∀C s H fp,QP (cxC X E0 N' sc C s H fp) tg pt) (ht:∀C s H fp,QIfs (cxC X E0 N' sc C s H fp) ifs tt) (he:∀C s H fp,QE (cxC X E0 N' sc C s H fp) elt te)
  (hsw:gz (.ListComp elt [⟨tg,iter,ifs,0⟩] sc pos) (some (.Name x pos')) spos.line X.env=pure true:=by rfl)
  (hs:∀x,gj iter X.env x=pure x:=by intro _;rfl):QS X (.Assign [.Name x pos'] (.ListComp elt [⟨tg,iter,ifs,0⟩] sc pos) spos) (uAsg (uLC wi cap pt tt te) (.nm i)):=⟨a1E (a8B (g:=gP X.K pt) (tt:=lowT X.K tt) hN hx hl hc a40 hNN hso ck hi hg ht (λC s H a=>(he C s H a).p) hsw hs) λD τ H h=>a9T hp (a4q h)⟩
end
section
variable{P:fq}{w:World}{K:Fg}{mg:Str->Option Value}{base:Heap}
def fn3{st:Stmt}(F:Fun K x qual st f fd)(S:FnScope N ps (a0g st))(len:∀ws G R,sp ws G R->ws.length=ps.length)
  (hbody:∀(cdv:Value)(A:Around)(outer:List Env)(s:Shared)(H:Hp)(E:XK)(ws:List Z)(G:Hq)(R:K3),Room k (A.deeper (envOfC qual (a0g st) s.heap.objs.size f cdv))->sp ws G R ->
   ∃t,QSs (cxOf CX0 P w K mg base N qual (a0g st) f cdv A outer s H E).nox (a0L st) t/\t (λ_ G'=>R .non G') R (λ_ _=>False) (λ_ _=>False) (a1f N ws) G):FnOk P w K mg base CX0 (k+1) f fd ps (lowP K sp):=by
 refine F.ok S (by rintro n H Q E ⟨d,G,R,c,e,h,b⟩;rw[<- c.length];exact len _ _ _ h) ?_;rintro g A a s H n Q E j ⟨d,G,R,c,e,h,b⟩;obtain⟨t,l,q⟩:=hbody g A a s H E d G R j h;exact⟨_,l.p,a1f N d,G,_,R,_,_,.start c,e,q,fun σ' v τ' u m r i o=>b _ _ _ _ m (by rw[a0z]) i o,b,λ_ _ _ _ h _ _ _=>h.elim,λ_ _ _ _ h _ _ _=>h.elim⟩
end
section
variable{X:Cx}
def zAdd:R3:=λx y G R=>match x,y with
 |.int i,.int j=>R (.int (i+j)) G
 |.str a,.str b=>a.length+b.length<=fi/\R (.str (a++b)) G
 |.tup xs,.tup ys=>xs≠[]/\xs.length+ys.length<=fi/\R (.tup (xs++ys)) G
 |.ref p,.ref q=>∃xs ys,G p=some (.lst xs)/\G q=some (.lst ys)/\xs.length+ys.length<=fi/\∀t,G t=none->R (.ref t) (put G t (.lst (xs++ys)))
 |_,_=>False
def b5s:OpQ X (fE .Add) zAdd:=a2u (op_add.or (op_add_str.or (op_catT.or b2G))) λx y H Q D=>D.un λa b G R c d f h m=>by
 cases a with
 |int i=>
  cases b with
  |int j=>rw[a0h]at c d;exact .inl ⟨_,_,c,d,m _ _ _ _ h (by rw[a0h]) f (.refl _ _)⟩
  |_=>exact ap h
 |str i=>
  cases b with
  |str j=>rw[a0x]at c d;exact .inr (.inl ⟨_,_,c,d,h.1,m _ _ _ _ h.2 (by rw[a0x]) f (.refl _ _)⟩)
  |_=>exact ap h
 |tup w=>
  cases b with
  |tup ws=>
   obtain⟨p,n,rfl,o,k⟩:=c;obtain⟨q,r,rfl,u,l⟩:=d;obtain⟨B,s,h⟩:=h;refine .inr (.inr (.inl ⟨p,q,n,r,rfl,rfl,SqT.of o,SqT.of u,λz=>?_,by rw[<- k.length,<- l.length];exact s,λz=>?_,λz t g=>?_⟩))
   ·subst z;exact B (bK.mp k.length)
   ·subst z;have e:=bK.mp l.length;subst e;rw[aV]at h;exact m _ _ _ _ h (by rw[a0Y];exact⟨p,n,rfl,o,k⟩) f (.refl _ _)
   ·exact m _ _ _ _ h (by rw[a0Y];exact⟨t,n++r,rfl,a0e,Reps.mono (.new g) _ _ (k.append l)⟩) (f.hid g) (.new g)
  |_=>exact ap h
 |ref p=>
  cases b with
  |ref q=>
   subst c d;obtain⟨n,r,o,u,s,h⟩:=h;obtain⟨C,A,k⟩:=f _ _ o;obtain⟨w,v,l⟩:=f _ _ u;exact .inr (.inr (.inr ⟨_,_,C,w,rfl,rfl,A,v,by rw[<- k.length,<- l.length];exact s,λt g=>m _ _ _ _ (h t (f.out g)) (by rw[a0p]) (f.set (.new g) (a0E (k.append l) (.new g))) (.new g)⟩))
  |_=>exact ap h
 |_=>exact ap h
def zI(C:Int->Int->Prop)(g:Int->Int->Z):R3:=λx y G R=>match x,y with
 |.int i,.int j=>C i j/\R (g i j) G
 |_,_=>False
def zI0(g:Int->Int->Z):R3:=λx y G R=>match x,y with
 |.int i,.int j=>R (g i j) G
 |_,_=>False
def oI{g:Int->Int->Int}(h:OpR X f (rI C λi j=>.int (g i j))):OpQ X f (zI C λi j=>.int (g i j)):=a2u h λx y H Q l=>l.un λa b G R d c k h e=>by
 cases a<;>cases b<;>first
  |exact ap h
  | (rw[a0h]at d c;exact⟨_,_,d,c,h.1,e _ _ _ _ h.2 (by rw[a0h]) k (.refl _ _)⟩)
def oI0{g:Int->Int->Int}(h:OpR X f (rI0 λi j=>.int (g i j))):OpQ X f (zI0 λi j=>.int (g i j)):=a2u h λx y H Q l=>l.un λa b G R d c k h e=>by
 cases a<;>cases b<;>first
  |exact ap h
  | (rw[a0h]at d c;exact⟨_,_,d,c,e _ _ _ _ h (by rw[a0h]) k (.refl _ _)⟩)
def b5t:OpQ X (fE .Sub) (zI0 λi j=>.int (i-j)):=oI0 b2r
def b5u:OpQ X (fE .Mult) (zI CMul λi j=>.int (i*j)):=oI b2s
def b3e:OpQ X (fE .FloorDiv) (zI b2P λi j=>.int (i / j)):=oI a8C
def b5v:OpQ X (fE .Mod) (zI (λ_ j=>0<j) λi j=>.int (i % j)):=oI b2t
def b5w:OpQ X (fE .Pow) (zI CPow λi j=>.int (i ^ j.toNat)):=oI b2u
def b3f:OpQ X (gE .Add) (zI0 λi j=>.int (i+j)):=oI0 b0x
def zNeg:Z->Hq->K3->Prop:=λx G R=>match x with
 |.int i=>R (.int (-i)) G
 |_=>False
def b5x:UnQ X (iF .USub) zNeg:=b5d b2v λx H Q c=>c.un λa G R b d h e=>by
 cases a<;>first
  |exact ap h
  | (rw[a0h]at b;exact⟨_,b,e _ _ _ _ h (by rw[a0h]) d (.refl _ _)⟩)
def a65:OpR X (fz .LtE) (λx y H Q=>∃i j,x=.str i/\y=.str j/\Q (.bl (!decide (j.cps.toList<i.cps.toList))) H):=by
 intro b s σ H x y v u Q I a c h;obtain⟨i,j,rfl,rfl,q⟩:=h;obtain⟨t,rfl⟩:=a;obtain⟨d,rfl⟩:=c;exact PySem.P.le_str (a0l I q rfl)
def a66:OpR X (fz .Gt) (λx y H Q=>∃i j,x=.str i/\y=.str j/\Q (.bl (decide (j.cps.toList<i.cps.toList))) H):=by
 intro b s σ H x y v u Q I a c h;obtain⟨i,j,rfl,rfl,q⟩:=h;obtain⟨t,rfl⟩:=a;obtain⟨d,rfl⟩:=c;exact PySem.P.gt_str (a0l I q rfl)
def zC(f:Int->Int->Bool)(g:Str->Str->Bool):R3:=λx y G R=>match x,y with
 |.int i,.int j=>R (.bl (f i j)) G
 |.str i,.str j=>R (.bl (g i j)) G
 |_,_=>False
def oC(h:OpR X (fz op) (rI0 λi j=>.bl (f i j)))(h':OpR X (fz op) (λx y H Q=>∃i j,x=.str i/\y=.str j/\Q (.bl (g i j)) H)) :
  OpQ X (fz op) (zC f g):=a2u (h.or h') λx y H Q l=>l.un λa b G R c d e h k=>by
 cases a<;>cases b<;>first
  |exact ap h
  | (rw[a0h]at c d;exact .inl ⟨_,_,c,d,k _ _ _ _ h (by rw[a0v]) e (.refl _ _)⟩)
  | (rw[a0x]at c d;exact .inr ⟨_,_,c,d,k _ _ _ _ h (by rw[a0v]) e (.refl _ _)⟩)
abbrev ltS(x y:Str):Bool:=decide (x.cps.toList<y.cps.toList)
def o_lt:OpQ X (fz .Lt) (zC (λi j=>decide (i<j)) λx y=>ltS x y):=oC b4Z a6v
def o_le:OpQ X (fz .LtE) (zC (λi j=>decide (i<=j)) λx y=>!ltS y x):=oC b40 a65
def o_gt:OpQ X (fz .Gt) (zC (λi j=>decide (j<i)) λx y=>ltS y x):=oC b41 a66
def zIs(neg:Bool):R3:=λx y G R=>match y with
 |.non=>R (.bl (if neg then !decide (x=.non) else decide (x=.non))) G
 |.bl b=>match x with
  |.bl a=>neg=false/\R (.bl (a==b)) G
  |_=>False
 |_=>False
def a2X{K:Fg}(r:Rep K H w v):decide (v=.non)=decide (w=.non):=by
 cases w with
 |non=>rw[a0z]at r;subst r;rfl
 |bl _=>rw[a0v]at r;subst r;simp
 |int _=>rw[a0h]at r;subst r;simp
 |str _=>rw[a0x]at r;subst r;simp
 |ref _=>rw[a0p]at r;subst r;simp
 |ty _=>rw[a42]at r;subst r;simp
 |scr _ _=>rw[a1X]at r;obtain⟨rfl,_⟩:=r;simp
 |tup _=>rw[a0Y]at r;obtain⟨_,_,rfl,_⟩:=r;simp
end
mutual
def dZ:Z->PyData
 |.bl b=>.bool b
 |.int i=>.int i
 |.str x=>.str x
 |.tup ws=>.tuple (dZs ws)
 |_=>.none
def dZs:List Z->List PyData
 |[]=>[]
 |w::ws=>dZ w::dZs ws
end
noncomputable def flat:Nat->Z->Bool
 |_,.non=>true
 |_,.int _=>true
 |_,.str x=>PyData.strOk x
 |n+1,.tup ws=>ws.all (flat n)
 |_,_=>false
def a9U:∀(n:Nat)(d:Z),flat n d=true->(dZ d).canLay0=true/\(dZ d).depth<=n:=by
 have f:∀n,(∀d,flat n d=true->(dZ d).canLay0=true/\(dZ d).depth<=n)->∀a:List Z,(∀d∈a,flat n d=true)->PyData.canLayAll0 (dZs a)=true/\PyData.depthAll (dZs a)<=n:=by
  intro n b a
  induction a with
  |nil=>intro _;simp[dZs,PyData.canLayAll0,PyData.depthAll]
  |cons d a hi=>
   intro h;have g:=b d (h d (.head _));have c:=hi λe j=>h e (.tail _ j);simp only[dZs,PyData.canLayAll0,PyData.depthAll,g.1,c.1,dr,true_and]
   lia
 intro n
 induction n with
 |zero=>
  intro d h;cases d<;>simp_all[flat,dZ,PyData.canLay0,PyData.depth]
 |succ n b=>
  intro d h;cases d with
  |non=>simp[dZ,PyData.canLay0,PyData.depth]
  |int i=>simp[dZ,PyData.canLay0,PyData.depth]
  |str x=>simp[flat]at h;simp[dZ,PyData.canLay0,PyData.depth,h]
  |tup a=>
   have q:=f n b a (by simpa[flat]using h);simp only[dZ,PyData.canLay0,PyData.depth,q.1,true_and]
   lia
  |_=>simp[flat]at h
def a67(n:Nat)(ds:List Z)(h:ds.all (flat n)=true):PyData.canLayAll0 (dZs ds)=true/\PyData.depthAll (dZs ds)<=n:=by
 have q:=a9U (n+1) (.tup ds) (by simpa[flat]using h);simp only[dZ,PyData.depth]at q;exact⟨q.1,by lia⟩
def a68:∀(n:Nat)(d e:Z)(k:Nat),flat n d=true->flat k e=true->(PyData.eqv (dZ d) (dZ e)=true↔d=e):=by
 have all:∀(n:Nat),(∀d e k,flat n d=true->flat k e=true->(PyData.eqv (dZ d) (dZ e)=true↔d=e))->∀(k:Nat)(ds es:List Z),(∀d∈ds,flat n d=true)->(∀d∈es,flat k d=true) ->
   (PyData.eqvAll (dZs ds) (dZs es)=true↔ds=es):=by
  intro n ih k ds
  induction ds with
  |nil=>intro es _ _;cases es<;>simp[dZs,PyData.eqvAll]
  |cons d ds hi=>
   intro es h1 h2;cases es with
   |nil=>simp[dZs,PyData.eqvAll]
   |cons e es=>
    have q1:=ih d e k (h1 d (.head _)) (h2 e (.head _));have q2:=hi es (λx hx=>h1 x (.tail _ hx)) λx hx=>h2 x (.tail _ hx);simp only[dZs,PyData.eqvAll,aQ,q1,q2,bh.injEq]
 intro n
 induction n with
 |zero=>
  intro d e k h1 h2;cases d<;>cases e<;>simp_all[flat,dZ,PyData.eqv]
 |succ n ih=>
  intro d e k h1 h2;cases d with
  |tup ds=>
   cases e with
   |tup es=>
    cases k with
    |zero=>simp[flat]at h2
    |succ k=>
     simp only[dZ,PyData.eqv,Z.tup.injEq];exact all n ih k ds es (by simpa[flat]using h1) (by simpa[flat]using h2)
   |_=>simp_all[flat,dZ,PyData.eqv]
  |_=>cases e<;>simp_all[flat,dZ,PyData.eqv]
def a69(n k:Nat)(ds es:List Z)(h:ds.all (flat n)=true)(h':es.all (flat k)=true):PyData.eqvAll (dZs ds) (dZs es)=true↔ds=es:=by
 have q:=a68 (n+1) (.tup ds) (.tup es) (k+1) (by simpa[flat]using h) (by simpa[flat]using h');simpa only [dZ,PyData.eqv,Z.tup.injEq]using q
section
variable{K:Fg}{H:Hp}
def a8I:∀(n:Nat)(w:Z)(v:V),flat n w=true->Rep K H w v->DV H (dZ w) v:=by
 have g:∀n,(∀w v,flat n w=true->Rep K H w v->DV H (dZ w) v)->∀b c,(∀d∈b,flat n d=true)->Reps K H b c->DVs H (dZs b) c:=by
  intro n f b
  induction b with
  |nil=>intro c _ r;exact r
  |cons w b hi=>
   intro c h r;obtain⟨v,j,e,o,l⟩:=r;exact⟨v,j,e,f w v (h w (.head _)) o,hi j (λd k=>h d (.tail _ k)) l⟩
 intro n
 induction n with
 |zero=>
  intro w v h r;cases w with
  |non=>rw[a0z]at r;exact r
  |int i=>rw[a0h]at r;exact r
  |str x=>rw[a0x]at r;exact r
  |_=>simp[flat]at h
 |succ n f=>
  intro w v h r;cases w with
  |non=>rw[a0z]at r;exact r
  |int i=>rw[a0h]at r;exact r
  |str x=>rw[a0x]at r;exact r
  |tup b=>
   obtain⟨a,c,e,p,m⟩:=r;exact⟨a,c,e,p,g n f b c (by simpa[flat]using h) m⟩
  |_=>simp[flat]at h
def a44(n:Nat):∀(ws:List Z)(vs:List V),ws.all (flat n)=true->Reps K H ws vs->DVs H (dZs ws) vs:=by intro z0;induction z0 with
 |nil=>intro vs _ r;rw[a0s]at r;simp only[dZs];unfold DVs;exact r
 |cons w ws I0=>
  intro vs h r;obtain⟨v,a,e,b,c⟩:=r;rw[aL,aQ]at h;exact⟨v,a,e,a8I n w v h.1 b,I0 a h.2 c⟩
end
def a1u(h:flat n w=true)(hn:n<=64):SeqAt.shaped (dZ w)=true:=by
 have q:=a9U n w h;unfold SeqAt.shaped;rw[q.1,cO];exact decide_eq_true (by omega)
def a1v(h:ws.all (flat n)=true)(hn:n<=63):SeqAt.shaped (.list (dZs ws))=true:=by
 have q:=a67 n ws h;unfold SeqAt.shaped;simp only[PyData.canLay0,PyData.depth,q.1];exact decide_eq_true (by lia)
def a3n{p:Prop}[Decidable p](h:a=true↔p):a=decide p:=by
 cases a with
 |true=>exact (decide_eq_true (h.mp rfl)).symm
 |false=>exact (decide_eq_false λq=>by cases h.mpr q).symm
def a0n{p q:Prop}[Decidable p][Decidable q](h:p=q):decide p=decide q:=by grind
def zEq(f:Bool->Bool):R3:=λx y G R=>match x,y with
 |.bl a,.bl b=>R (.bl (f (a==b))) G
 |.int a,.int b=>R (.bl (f (decide (a=b)))) G
 |.str a,.str b=>R (.bl (f (decide (a=b)))) G
 |.ref p,.ref q=>∃xs ys,G p=some (.lst xs)/\G q=some (.lst ys)/\xs.all (flat 8)=true/\ys.all (flat 8)=true/\R (.bl (f (decide (xs=ys)))) G
 |x,y=>flat 8 x=true/\flat 8 y=true/\R (.bl (f (decide (x=y)))) G
section
variable{X:Cx}
def a9V{K:Fg}(h:low2 K (zEq f) x y H Q) :
    (scal x y=true/\Q (.bl (f (decide (x=y)))) H)\/∃d e,DV H d x/\DV H e y/\SeqAt.shaped d=true/\SeqAt.shaped e=true/\Q (.bl (f (PyData.eqv d e))) H:=by
  obtain⟨a,b,G,R,g,c,i,h,j⟩:=h;have p:flat 8 a=true/\flat 8 b=true/\R (.bl (f (decide (a=b)))) G->∃d e,DV H d x/\DV H e y/\SeqAt.shaped d=true/\SeqAt.shaped e=true/\Q (.bl (f (PyData.eqv d e))) H:=by
    rintro⟨n,m,w⟩;refine⟨dZ a,dZ b,a8I 8 _ _ n g,a8I 8 _ _ m c,a1u n (by simp),a1u m (by simp),?_⟩;rw[a3n (a68 8 a b 8 n m)];exact j _ _ _ _ w (by rw[a0v]) i (.refl _ _)
  cases a<;>cases b<;>first
    |exact .inr (p h)
    | (rw[a0v]at g c;subst g c;exact .inl ⟨rfl,by rw[a6s];exact j _ _ _ _ h (by rw[a0v]) i (.refl _ _)⟩)
    | (rw[a0h]at g c;subst g c;exact .inl ⟨rfl,by rw[a0n (V.int.injEq _ _)];exact j _ _ _ _ h (by rw[a0v]) i (.refl _ _)⟩)
    | (rw[a0x]at g c;subst g c;exact .inl ⟨rfl,by rw[a0n (V.str.injEq _ _)];exact j _ _ _ _ h (by rw[a0v]) i (.refl _ _)⟩)
    | (rw[a0p]at g c
       subst g c;obtain⟨r,s,t,z,k,l,h⟩:=h;obtain⟨u,q,v⟩:=i _ _ t;obtain⟨B,o,A⟩:=i _ _ z;refine .inr ⟨.list _,.list _,?_,?_,a1v k (by simp),a1v l (by simp),?_⟩;exact⟨_,u,rfl,q,a44 8 _ _ k v⟩;exact⟨_,B,rfl,o,a44 8 _ _ l A⟩
       · simp only[PyData.eqv]
         rw[a3n (a69 8 8 r s k l)];exact j _ _ _ _ h (by rw[a0v]) i (.refl _ _))
def o_eq(hu:X.A.units+66<cLine):OpQ X (fz .Eq) (zEq id):=a2u (op_eq.or (a9O hu)) λx y H Q h=>a9V h
def o_ne(hu:X.A.units+66<cLine):OpQ X (fz .NotEq) (zEq not):=a2u (op_ne.or (a9P hu)) λx y H Q h=>a9V h
def zIn(f:Bool->Bool):R3:=λx y G R=>match x,y with
 |.str a,.str b=>R (.bl (f (!(fv.Str.occurrences b a 0 b.length 1).isEmpty))) G
 |x,.ref q=>∃ws,G q=some (.lst ws)/\flat 8 x=true/\ws.all (flat 8)=true/\R (.bl (f (decide (x∈ws)))) G
 |x,.tup ws=>flat 8 x=true/\ws.all (flat 8)=true/\R (.bl (f (decide (x∈ws)))) G
 |_,_=>False
def b03(x:Z)(hx:flat 8 x=true):∀ws:List Z,ws.all (flat 8)=true->((dZs ws).any λy=>PyData.eqv y (dZ x))=decide (x∈ws):=by intro z0;induction z0 with
 |nil=>intro _;simp[dZs]
 |cons w ws I0=>
  intro h;rw[aL,aQ]at h;simp only[dZs,bT];rw[I0 h.2,a3n (a68 8 w x 8 h.1 hx)]
  by_cases e:w=x
  ·simp_all
  ·have:¬ x=w:=λz=>e z.symm
   simp[e,this]
def b3g(hf:∀b,f b=if neg=true then !b else b){K:Fg}(h:low2 K (zIn f) x y H Q) :
  (∃i j,x=.str i/\y=.str j/\Q (.bl (f (!(fv.Str.occurrences j i 0 j.length 1).isEmpty))) H)\/rInD neg x y H Q:=by
 obtain⟨a,b,G,R,o,m,r,h,t⟩:=h;have s:∀p c d,y=.ref p->_->Reps K H c d->flat 8 a=true->c.all _=true->R _ G->rInD neg x y H Q:=λp c d e w n k g h=>by
  refine⟨dZ a,p,dZs c,d,a8I 8 _ _ k o,e,w,a44 8 _ _ g n,a1u k (by simp),a1v g (by simp),?_⟩;rw[b03 a k c g,<- hf];exact t _ _ _ _ h (by rw[a0v]) r (.refl _ _)
 cases b with
 |str j=>
  cases a with
  |str i=>rw[a0x]at o m;exact .inl ⟨_,_,o,m,t _ _ _ _ h (by rw[a0v]) r (.refl _ _)⟩
  |_=>exact ap h
 |ref q=>
  have l:∃c,G q=some (.lst c)/\flat 8 a=true/\c.all (flat 8)=true/\R (.bl (f (decide (a∈c)))) G:=by cases a<;>exact h
  obtain⟨c,e,k,g,l⟩:=l;obtain⟨d,u,n⟩:=r q _ e;exact .inr (s q c d m (.inl u) n k g l)
 |tup c=>
  obtain⟨q,d,e,v,n⟩:=m;have l:flat 8 a=true/\c.all (flat 8)=true/\R (.bl (f (decide (a∈c)))) G:=by cases a<;>exact h
  obtain⟨k,g,l⟩:=l;exact .inr (s q c d e (.inr v) n k g l)
 |_=>cases a<;>exact ap h
def o_in(hu:X.A.units+66<cLine):OpQ X (fz .In) (zIn id):=a2u (op_in_str.or (b2O hu)) λx y H Q h=>b3g (λb=>by simp) h
end
end L3
namespace L2
open PySem PySem.Spec PyProof.Rows
theorem Vals.tog:∀{xs:List V}{us:List Value}{i:Nat}{u:Value},Vals xs us->us[i]?=some u->∃x,xs[i]?=some x/\RelV x u
 |_,_,_,_,.nil,e=>by simp at e
 |_,_,0,_,.cons r _,e=>by simp at e;subst e;exact⟨_,rfl,r⟩
 |_,_,i+1,u,.cons _ t,e=>by
  obtain⟨x,a,b⟩:=Vals.tog t (by simpa using e);exact⟨x,by simpa using a,b⟩
section
variable{X:Cx}
def b3h:OpR X (fz .Is) (λx y H Q=>∃a b,x=.bl a/\y=.bl b/\Q (.bl (a==b)) H):=by
 intro d s σ H x y v u Q I c e h;obtain⟨a,b,rfl,rfl,q⟩:=h;cases c;cases e;exact wpAny_is_plain rfl (a0l I q (by cases a<;>cases b<;>rfl))
def rSlS:V->Option Int->Option Int->Hp->VK->Prop:=λx lo hi H Q=>∃z,x=.str z/\z.length<=fi/\Q (.str (Txt.slice z lo hi)) H
def b3i:SlR X rSlS:=by
 intro g s σ H x v A B f b C Q I w p y m h;obtain⟨z,rfl,r,q⟩:=h;obtain⟨t,rfl⟩:=w;obtain⟨o,e,c,d⟩:=p;have a:∀f b,Q _ H->(Txt.slice z f b).length<=fi/\∀n k,EP X g σ Q (.str (Txt.slice z f b) n) { s with toks:=k }:=λf b q=>
  ⟨ax (Txt.slice_le z _ _) r,λn k=>⟨.str _,H,I.tok k,⟨_,rfl⟩,q⟩⟩
 cases y with
 |none=>
  cases m with
  |none=>exact⟨"str",_,F.slot_str_getitem.lookup,gI _ _ _,iK (l:=none) (u:=none) (st:=none) ⟨o,e,c,d⟩ rfl (iM (a _ _ q))⟩
  |int j u=>exact⟨"str",_,F.slot_str_getitem.lookup,gI _ _ _,iK (l:=none) (u:=some (j,u)) (st:=none) ⟨o,e,c,d⟩ rfl (iM (a _ _ q))⟩
 |int i v=>
  cases m with
  |none=>exact⟨"str",_,F.slot_str_getitem.lookup,gI _ _ _,iK (l:=some (i,v)) (u:=none) (st:=none) ⟨o,e,c,d⟩ rfl (iM (a _ _ q))⟩
  |int j u=>exact⟨"str",_,F.slot_str_getitem.lookup,gI _ _ _,iK (l:=some (i,v)) (u:=some (j,u)) (st:=none) ⟨o,e,c,d⟩ rfl (iM (a _ _ q))⟩
end
end L2
namespace L3
open PySem PySem.Spec PyProof.Rows L2
section
variable{X:Cx}
def o_is:OpQ X (fz .Is) (zIs false):=a2u (op_isN.or b3h) λx y H Q g=>g.un λa b G R d c e h f=>by
 cases b with
 |non=>rw[a0z]at c;exact .inl ⟨c,by rw[a2X d];exact f _ _ _ _ h (by rw[a0v];rfl) e (.refl _ _)⟩
 |bl b=>
  cases a with
  |bl a=>rw[a0v]at d c;exact .inr ⟨_,_,d,c,f _ _ _ _ h.2 (by rw[a0v]) e (.refl _ _)⟩
  |_=>exact ap h
 |_=>exact ap h
def b04:OpQ X (fz .IsNot) (zIs true):=a2u b0y λx y H Q d=>d.un λa b G R g c e h f=>by
 cases b with
 |non=>rw[a0z]at c;exact⟨c,by rw[a2X g];exact f _ _ _ _ h (by rw[a0v];rfl) e (.refl _ _)⟩
 |bl b=>
  cases a with
  |bl a=>exact nomatch h.1
  |_=>exact ap h
 |_=>exact ap h
def zIx:R3:=λx y G R=>match x,y with
 |.ref p,.int i=>∃ws w,G p=some (.lst ws)/\atI ws i=some w/\R w G
 |.scr _ ns,.int i=>∃n,atI ns i=some n/\R (.int n) G
 |.tup ws,.int i=>∃w,atI ws i=some w/\R w G
 |.str z,.int i=>∃c,z.length<=fi/\atI z.cps.toList i=some c/\R (.str ⟨#[c]⟩) G
 |_,_=>False
def a7a{K:Fg}(r:Reps K H ws vs)(h:atI ws i=some w):∃v,atI vs i=some v/\Rep K H w v:=by
 unfold atI at h ⊢;rw[<- r.length];cases e:ixN ws.length i with
 |none=>rw[e]at h;cases h
 |some j=>
  rw[e]at h;exact r.get h
def b05{α β:Type}{f:α->β}{xs:List α}{x:α}(h:atI xs i=some x):atI (xs.map f) i=some (f x):=by
 unfold atI at h ⊢;rw[ae];cases e:ixN xs.length i with
 |none=>rw[e]at h;cases h
 |some j=>
  rw[e]at h;have a:xs[j]?=some x:=h
  show _[j]?=some _
  rw[aq,a];rfl
def x_ix:IxQ X zIx:=b5e b2E λx y H Q s=>s.un λa b G R d f g h i=>by
  cases a<;>cases b<;>first
    |exact ap h
    | (rw[a0p]at d
       obtain⟨z,w,e,m,h⟩:=h;obtain⟨q,k,j⟩:=g _ _ e;obtain⟨v,o,l⟩:=a7a j m;exact .inl ⟨_,_,_,v,d,f,SqL.of k,o,i _ _ _ _ h l g (.refl _ _)⟩)
    | (rw[a1X]at d
       obtain⟨n,u,h⟩:=h;exact .inl ⟨_,_,_,_,d.1,f,d.2.sq,b05 u,i _ _ _ _ h (by rw[a0h]) g (.refl _ _)⟩)
    | (rw[a0Y]at d
       obtain⟨p,q,e,k,j⟩:=d;obtain⟨w,m,h⟩:=h;obtain⟨v,o,l⟩:=a7a j m;exact .inr (.inl ⟨p,q,_,v,e,f,SqT.of k,o,i _ _ _ _ h l g (.refl _ _)⟩))
    | (rw[a0x]at d
       obtain⟨c,r,t,h⟩:=h;exact .inr (.inr ⟨_,_,c,d,f,r,t,i _ _ _ _ h (by rw[a0x]) g (.refl _ _)⟩))
noncomputable def cutZ{α:Type}(xs:List α)(lo hi:Option Int):List α:=(xs.drop (HT.sIx xs.length 0 lo)).take (HT.sIx xs.length xs.length hi-HT.sIx xs.length 0 lo)
def b06(xs:List V)(lo hi:Option Int):cutV xs lo hi=cutZ xs lo hi:=rfl
def Reps.cut{K:Fg}(r:Reps K H ws vs)(lo hi:Option Int):Reps K H (cutZ ws lo hi) (cutV vs lo hi):=by
 unfold cutZ cutV;rw[<- r.length];exact (r.drop _).take _
def a8J{α β:Type}(f:α->β)(xs:List α)(lo hi:Option Int):cutZ (xs.map f) lo hi=(cutZ xs lo hi).map f:=by
 unfold cutZ;rw[ae,dt,List.map_drop]
def zSl:L3r:=λx lo hi G R=>match x with
 |.ref p=>∃ws,G p=some (.lst ws)/\∀t,G t=none->R (.ref t) (put G t (.lst (cutZ ws lo hi)))
 |.scr _ ns=>∀t,G t=none->R (.ref t) (put G t (.lst ((cutZ ns lo hi).map Z.int)))
 |.tup ws=>¬ (HT.sIx ws.length 0 lo=0/\HT.sIx ws.length ws.length hi=ws.length)/\R (.tup (cutZ ws lo hi)) G
 |.str z=>z.length<=fi/\R (.str (Txt.slice z lo hi)) G
 |_=>False
def x_sl:SlQ X zSl:=b5l (sl_list.or (sl_tup.or b3i)) λx l k H Q m=>m.un λa G R c d h g=>by
 cases a with
 |ref p=>
  obtain⟨n,e,h⟩:=h;obtain⟨j,i,f⟩:=d _ _ e;exact .inl ⟨p,j,c,SqL.of i,λt b=>g _ _ _ _ (h t (d.out b)) (by rw[a0p]) (d.set (.new b) (a0E (f.cut l k) (.new b))) (.new b)⟩
 |scr p ns=>
  refine .inl ⟨p,_,c.1,c.2.sq,λt b=>?_⟩;rw[b06,a8J];exact g _ _ _ _ (h t (d.out b)) (by rw[a0p]) (d.set (.new b) (a0E (a1e _) (.new b))) (.new b)
 |tup n=>
  obtain⟨p,j,e,i,f⟩:=c;exact .inr (.inl ⟨p,j,e,SqT.of i,by rw[<- f.length];exact h.1,λt b=>g _ _ _ _ h.2 (by rw[a0Y];exact⟨t,_,rfl,a0e,(f.cut l k).mono (.new b)⟩) (d.hid b) (.new b)⟩)
 |str z=>
  exact .inr (.inr ⟨z,c,h.1,g _ _ _ _ h.2 (by rw[a0x]) d (.refl _ _)⟩)
 |_=>exact ap h
def zSet:Z3:=λo i v G R=>match o,i with
 |.ref p,.int k=>∃ws j,G p=some (.lst ws)/\ixN ws.length k=some j/\R (put G p (.lst (ws.set j v)))
 |_,_=>False
def a8K:SetQ X zSet:=a9S a8t λo i v H Q p=>p.un λa b w G R f g l k h q=>by
  cases a<;>cases b<;>first
    |exact ap h
    | (rw[a0p]at f
       obtain⟨r,j,e,m,h⟩:=h;obtain⟨n,c,d⟩:=k _ _ e;exact⟨_,n,_,j,f,g,c,by rw[<- d.length];exact m,q _ _ h (k.set (.lst c) (a0E (d.set l j) (.lst c))) (.lst c)⟩)
def zLen:List Z->Hq->K3->Prop:=λxs G R=>match xs with
 |[.str z]=>z.length<=fi/\R (.int z.length) G
 |[.ref p]=>∃ws,G p=some (.lst ws)/\R (.int ws.length) G
 |[.tup ws]=>R (.int ws.length) G
 |[.scr _ ns]=>R (.int ns.length) G
 |_=>False
def b5y:a3j X (.builtin "len") zLen:=a2v a8q λl H Q k=>k.un λj G R c a h d=>by
 match j,h with
 |[.str z],h=>
  obtain⟨v,rfl,r⟩:=c.one;exact⟨v,z.length,rfl,by rw[r];exact⟨h.1,rfl⟩,d _ _ _ _ h.2 (by rw[a0h]) a (.refl _ _)⟩
 |[.ref p],h=>
  obtain⟨v,rfl,r⟩:=c.one;obtain⟨i,e,h⟩:=h;obtain⟨g,f,b⟩:=a _ _ e;exact⟨v,i.length,rfl,by rw[r];exact .inl ⟨g,SqL.of f,b.length⟩,d _ _ _ _ h (by rw[a0h]) a (.refl _ _)⟩
 |[.tup i],h=>
  obtain⟨v,rfl,r⟩:=c.one;obtain⟨p,g,e,f,b⟩:=r;exact⟨v,i.length,rfl,by rw[e];exact .inr ⟨g,SqT.of f,b.length⟩,d _ _ _ _ h (by rw[a0h]) a (.refl _ _)⟩
 |[.scr p ns],h=>
  obtain⟨v,rfl,r⟩:=c.one;exact⟨v,ns.length,rfl,by rw[r.1];exact .inl ⟨_,r.2.sq,(ae ..).symm⟩,d _ _ _ _ h (by rw[a0h]) a (.refl _ _)⟩
def b3j:List Z->Hq->K3->Prop:=λxs G R=>match xs with
 |[.ref p]=>∃ws,G p=some (.lst ws)/\∀t,G t=none->R (.ref t) (put G t (.lst ws))
 |[.tup ws]=>∀t,G t=none->R (.ref t) (put G t (.lst ws))
 |[.scr _ ns]=>∀t,G t=none->R (.ref t) (put G t (.lst (ns.map Z.int)))
 |_=>False
def b3k:a3j X (.type "list") b3j:=a2v a3O λm H Q j=>j.un λl G R i b h f=>by
 match l,h with
 |[.ref p],h=>
  obtain⟨v,rfl,r⟩:=i.one;obtain⟨k,e,h⟩:=h;obtain⟨d,g,c⟩:=b _ _ e;exact⟨p,d,by rw[r],.inl (SqL.of g),λt a=>f _ _ _ _ (h t (b.out a)) (by rw[a0p]) (b.set (.new a) (a0E c (.new a))) (.new a)⟩
 |[.tup k],h=>
  obtain⟨v,rfl,r⟩:=i.one;obtain⟨p,d,e,g,c⟩:=r;exact⟨p,d,by rw[e],.inr (SqT.of g),λt a=>f _ _ _ _ (h t (b.out a)) (by rw[a0p]) (b.set (.new a) (a0E c (.new a))) (.new a)⟩
 |[.scr p ns],h=>
  obtain⟨v,rfl,r⟩:=i.one;exact⟨p,_,by rw[r.1],.inl r.2.sq,λt a=>f _ _ _ _ (h t (b.out a)) (by rw[a0p]) (b.set (.new a) (a0E (a1e _) (.new a))) (.new a)⟩
noncomputable def kit0(n T:String):Option Bool:=if (Value.type n==Value.type T)=true then some true else if PySem.W.kitMeta T=true then (PySem.fastBuiltinMro n).map (·.contains (.type T)) else none
def a9W{K:Fg}:PySem.W.kitOne K (.type n) (.type T)=kit0 n T:=rfl
noncomputable def tyN(G:Hq):Z->Option String
 |.non=>some "NoneType"
 |.bl _=>some "bool"
 |.int _=>some "int"
 |.str _=>some "str"
 |.tup _=>some "tuple"
 |.ref p=>match G p with
  |some (.lst _)=>some "list"
  |some (.dK _)=>some "dict"
  |_=>none
 |_=>none
def zIsT:List Z->Hq->K3->Prop:=λxs G R=>match xs with
 |[x,.ty T]=>∃n b,tyN G x=some n/\kit0 n T=some b/\R (.bl b) G
 |_=>False
def a45{K:Fg}{G:Hq}{H:Hp}{x:Z}{v:V}{n:String}(h:tyN G x=some n)(r:Rep K H x v)(hg:RH K G H):TyOf K H v (.type n):=by
 cases x with
 |non=>rw[a0z]at r;subst r;cases h;exact .non
 |bl _=>rw[a0v]at r;subst r;cases h;exact .bl _
 |int _=>rw[a0h]at r;subst r;cases h;exact .int _
 |str _=>rw[a0x]at r;subst r;cases h;exact .str _
 |tup ws=>rw[a0Y]at r;obtain⟨a,vs,rfl,e,_⟩:=r;cases h;exact .tup e
 |ref p=>
  rw[a0p]at r;subst r;cases e:G p with
  |none=>simp[tyN,e]at h
  |some o=>
   cases o with
   |lst ws=>simp[tyN,e]at h;subst h;obtain⟨vs,e',_⟩:=hg _ _ e;exact .lst e'
   |dK kvs=>simp[tyN,e]at h;subst h;obtain⟨vs,e',_⟩:=hg _ _ e;exact .dK e'
   |ins C dx fs=>simp[tyN,e]at h
   |dF kvs=>simp[tyN,e]at h
   |dT ks=>simp[tyN,e]at h
   |tab _ _=>simp[tyN,e]at h
 |ty _=>cases h
 |scr _ _=>cases h
def b5z:a3j X (.builtin "isinstance") zIsT:=a2v a8D λl H Q g=>g.un λf G R d a h i=>by
 match f,h with
 |[x,.ty T],h=>
  obtain⟨v,j,rfl,r,c⟩:=d.two;obtain⟨n,b,e,k,h⟩:=h;exact⟨v,T,.type n,b,by rw[c],a45 e r a,by rw[a9W];exact k,i _ _ _ _ h (by rw[a0v]) a (.refl _ _)⟩
def a1w:Z->List Z->Hq->K3->Prop:=λx xs G R=>match x,xs with
 |.ref p,[y]=>∃ws,G p=some (.lst ws)/\ws.length<fi/\R .non (put G p (.lst (ws++[y])))
 |_,_=>False
def a8L:MtQ X "list.append" a1w:=a5O a3P λx n H Q j=>j.un λw k G R c f d h l=>by
 match w,k,h with
 |.ref p,[y],h=>
  obtain⟨v,rfl,r⟩:=f.one;obtain⟨m,e,g,h⟩:=h;obtain⟨i,a,b⟩:=d _ _ e;exact⟨p,i,v,c,rfl,a,by rw[<- b.length];exact g,l _ _ _ _ h (by rw[a0z]) (d.set (.lst a) (a0E (b.append (.cons r .nil)) (.lst a))) (.lst a)⟩
def a7b:Z->List Z->Hq->K3->Prop:=λx xs G R=>match x,xs with
 |.ref p,[.ref q]=>∃ws ys,G p=some (.lst ws)/\G q=some (.lst ys)/\ws.length+ys.length<=fi/\R .non (put G p (.lst (ws++ys)))
 |_,_=>False
def a8M:MtQ X "list.extend" a7b:=a5O a6F λx u H Q m=>m.un λw n G R d i f h s=>by
 match w,n,h with
 |.ref p,[.ref q],h=>
  obtain⟨v,rfl,r⟩:=i.one;obtain⟨t,y,e,k,j,h⟩:=h;obtain⟨l,a,c⟩:=f _ _ e;obtain⟨o,g,b⟩:=f _ _ k;exact⟨p,q,l,o,d,by rw[r],a,g,by rw[<- c.length,<- b.length];exact j,s _ _ _ _ h (by rw[a0z]) (f.set (.lst a) (a0E (c.append b) (.lst a))) (.lst a)⟩
def b3l:E3:=λ_ G R=>∀p,G p=none->R (.ref p) (put G p (.dK []))
def a9X:QE X (.Dict [] [] pos) b3l:=⟨a0O a8x fun τ H Q ⟨σ,G,R,d,b,h,c⟩ p a=>c _ _ _ _ (h p (b.out a)) (by rw[a0p]) (b.set (.new a) ⟨[],a0e,rfl,.nil⟩) (.new a)⟩
end
section
variable{σ:S3}{G:Hq}{R:K3}{Rb:Bool->Hq->Prop}{Ra:List Z->Hq->Prop}{nx bk ct:C3}{rt:K3}{t u:X3}{te ta tb tc to ti:E3}{c d:T3}{al:A3}{r r':R3}{w x y:Z}{i:Nat}
def b5A(e:σ[i]?=some (some w))(h:R w G):uVar i σ G R:=⟨w,e,h⟩
def i_c(h:R w G):uC w σ G R:=h
def i_op(h:ta σ G λx G1=>tb σ G1 λy G2=>r x y G2 R):uOp r ta tb σ G R:=h
def i_un{r:Z->Hq->K3->Prop}(h:ta σ G λx G1=>r x G1 R):uUn r ta σ G R:=h
def b3m(h:ta σ G λx G1=>∃k,x=.bl k/\Rb k G1):a6V ta σ G Rb:=h
def b5B(h:c σ G λk G1=>if k=true then d σ G1 Rb else Rb false G1):uAnd c d σ G Rb:=h
def i_or(h:c σ G λk G1=>if k=true then Rb true G1 else d σ G1 Rb):uOr c d σ G Rb:=h
def b5C(h:c σ G λk G1=>Rb (!k) G1):uNot c σ G Rb:=h
def b3n(h:ta σ G λx G1=>∃c,x=.bl c/\if c=true then tb σ G1 R else R (.bl false) G1):b2W ta tb σ G R:=h
def b3o(h:ta σ G λx G1=>∃c,x=.bl c/\R (.bl (!c)) G1):b2X ta σ G R:=h
def i_if(h:c σ G λk G1=>if k=true then ta σ G1 R else tb σ G1 R):uIf c ta tb σ G R:=h
def b5D(h:ta σ G λx G1=>tru x G1 Rb):uTru ta σ G Rb:=h
def b3p(e:G p=some (.lst ws))(h:Rb (!ws.isEmpty) G):tru (.ref p) G Rb:=.inl ⟨ws,e,h⟩
def i_sl{r:L3r}(h:te σ G λx G1=>tl σ G1 λl G2=>th σ G2 λu G3=>r x l u G3 R):uSl r te tl th σ G R:=h
def a8N(h:Ro none G):a6Z σ G Ro:=h
def b3q(h:te σ G λx G1=>∃i,x=.int i/\Ro (some i) G1):b20 te σ G Ro:=h
def b5E(h:Ra [] G):uNil σ G Ra:=h
def b3r(h:ta σ G λx G1=>al σ G1 λxs G2=>Ra (x::xs) G2):b0R ta al σ G Ra:=h
def b5F(h:al σ G λxs G1=>xs.length<=fi/\R (.tup xs) G1):uTup al σ G R:=h
def b5G(h:al σ G λxs G1=>xs.length<=fi/\∀p,G1 p=none->R (.ref p) (put G1 p (.lst xs))):uLst al σ G R:=h
def i_cb{r:List Z->Hq->K3->Prop}(h:al σ G λws G1=>r ws G1 R):uCB r al σ G R:=h
def i_bm{r:Z->List Z->Hq->K3->Prop}(h:to σ G λx G1=>tyZ T x G1/\al σ G1 λxs G2=>r x xs G2 R):uBM T r to al σ G R:=h
def b3s(h:al σ G λws G1=>sp ws G1 R):b0U sp al σ G R:=h
def b3t(h:nx σ G):b0V nx rt bk ct σ G:=h
def b5H(h:t (u nx rt bk ct) rt bk ct σ G):uSeq t u nx rt bk ct σ G:=h
def b3u(h:te σ G λ_ G1=>nx σ G1):b28 te nx rt bk ct σ G:=h
def b3v(h:te σ G rt):uRet te nx rt bk ct σ G:=h
def b5I(h:c σ G λb G1=>if b=true then t nx rt bk ct σ G1 else u nx rt bk ct σ G1):uIfS c t u nx rt bk ct σ G:=h
def b5J(h:te σ G λx G1=>∃σ',a3m pt x σ=some σ'/\nx σ' G1):uAsg te pt nx rt bk ct σ G:=h
def b5K{r:Z3}(h:te σ G λw G1=>to σ G1 λo G2=>ti σ G2 λi G3=>r o i w G3 λG4=>nx σ G4):uPut te to ti r nx rt bk ct σ G:=h
def b5L(e:σ[i]?=some (some x))(h:te σ G λy G1=>r x y G1 λz G2=>nx (σ.set i (some z)) G2):uAug i te r nx rt bk ct σ G:=⟨x,e,h⟩
def a7c(M:C3)(h:t M rt bk ct σ G)(h':∀σ' G',M σ' G'->u nx rt bk ct σ' G'):uCut t u nx rt bk ct σ G:=⟨M,h,h'⟩
def b3w(h:ct σ G):b25 nx rt bk ct σ G:=h
def b3x(h:R (.int (a+b)) G):zAdd (.int a) (.int b) G R:=h
def a7d(z:a.length+b.length<=fi)(h:R (.str (a++b)) G):zAdd (.str a) (.str b) G R:=⟨z,h⟩
def a2b(e:xs≠[])(z:xs.length+ys.length<=fi)(h:R (.tup (xs++ys)) G):zAdd (.tup xs) (.tup ys) G R:=⟨e,z,h⟩
def a2Y(e:G p=some (.lst xs))(e':G q=some (.lst ys))(z:xs.length+ys.length<=fi)(h:∀t,G t=none->R (.ref t) (put G t (.lst (xs++ys)))):zAdd (.ref p) (.ref q) G R:=⟨xs,ys,e,e',z,h⟩
def i_I(k:C a b)(h:R (g a b) G):zI C g (.int a) (.int b) G R:=⟨k,h⟩
def i_I0(h:R (g a b) G):zI0 g (.int a) (.int b) G R:=h
def b5M(h:R (.int (-a)) G):zNeg (.int a) G R:=h
def i_CI(h:R (.bl (f a b)) G):zC f g (.int a) (.int b) G R:=h
def b5N(h:R (.bl (decide (x=.non))) G):zIs false x .non G R:=h
def b3y(h:R (.bl (!decide (x=.non))) G):zIs true x .non G R:=h
def b5O(h:R (.bl (f (a==b))) G):zEq f (.bl a) (.bl b) G R:=h
def b3z(h:R (.bl (f (decide (a=b)))) G):zEq f (.int a) (.int b) G R:=h
def b5P(h:R (.bl (f (decide (a=b)))) G):zEq f (.str a) (.str b) G R:=h
def a5R(e:G p=some (.lst xs))(e':G q=some (.lst ys))(f1:xs.all (flat 8)=true)(f2:ys.all (flat 8)=true)(h:R (.bl (f (decide (xs=ys)))) G):zEq f (.ref p) (.ref q) G R:=⟨xs,ys,e,e',f1,f2,h⟩
def a0t(e:G p=some (.lst ws))(a:atI ws k=some w)(h:R w G):zIx (.ref p) (.int k) G R:=⟨ws,w,e,a,h⟩
def b5Q(a:atI ns k=some n)(h:R (.int n) G):zIx (.scr p ns) (.int k) G R:=⟨n,a,h⟩
def a02(a:atI ws k=some w)(h:R w G):zIx (.tup ws) (.int k) G R:=⟨w,a,h⟩
def b07(l:z.length<=fi)(a:atI z.cps.toList k=some ch)(h:R (.str ⟨#[ch]⟩) G):zIx (.str z) (.int k) G R:=⟨ch,l,a,h⟩
def b3A{lo hi:Option Int}(l:z.length<=fi)(h:R (.str (Txt.slice z lo hi)) G):zSl (.str z) lo hi G R:=⟨l,h⟩
def b08{lo hi:Option Int}(e:G p=some (.lst ws))(h:∀t,G t=none->R (.ref t) (put G t (.lst (cutZ ws lo hi)))):zSl (.ref p) lo hi G R:=⟨ws,e,h⟩
def b5R{lo hi:Option Int}(h:∀t,G t=none->R (.ref t) (put G t (.lst ((cutZ ns lo hi).map Z.int)))):zSl (.scr p ns) lo hi G R:=h
def a8O{lo hi:Option Int}(n:¬ (HT.sIx ws.length 0 lo=0/\HT.sIx ws.length ws.length hi=ws.length))(h:R (.tup (cutZ ws lo hi)) G):zSl (.tup ws) lo hi G R:=⟨n,h⟩
def a8P(e:G p=some (.lst ws))(a:ixN ws.length k=some j)(h:Rg (put G p (.lst (ws.set j w)))):zSet (.ref p) (.int k) w G Rg:=⟨ws,j,e,a,h⟩
def b3B(h:∀p,G p=none->R (.ref p) (put G p (.dK []))):b3l σ G R:=h
def b3C(l:z.length<=fi)(h:R (.int z.length) G):zLen [.str z] G R:=⟨l,h⟩
def a3T(e:G p=some (.lst ws))(h:R (.int ws.length) G):zLen [.ref p] G R:=⟨ws,e,h⟩
def b3D(h:R (.int ns.length) G):zLen [.scr p ns] G R:=h
def a7e(e:G p=some (.lst ws))(h:∀t,G t=none->R (.ref t) (put G t (.lst ws))):b3j [.ref p] G R:=⟨ws,e,h⟩
def a03(e:tyN G x=some n)(k:kit0 n T=some b)(h:R (.bl b) G):zIsT [x,.ty T] G R:=⟨n,b,e,k,h⟩
def a0y(e:G p=some (.lst ws))(z:ws.length<fi)(h:R .non (put G p (.lst (ws++[y])))):a1w (.ref p) [y] G R:=⟨ws,e,z,h⟩
def a8Q(e:G p=some (.lst ws))(e':G q=some (.lst ys))(z:ws.length+ys.length<=fi)(h:R .non (put G p (.lst (ws++ys)))):a7b (.ref p) [.ref q] G R:=⟨ws,ys,e,e',z,h⟩
def b5S{P:Prop}(h:P):tyZ "str" (.str z) G/\P:=⟨rfl,h⟩
def a0M{P:Prop}(e:G p=some (.lst ws))(h:P):tyZ "list" (.ref p) G/\P:=⟨.inl ⟨rfl,ws,e⟩,h⟩
def i_nm(h:nx (σ.set j (some w)) G):∃σ',a3m (.nm j) w σ=some σ'/\nx σ' G:=⟨_,rfl,h⟩
def b5T(e:G q=some (.lst ws))(f1:flat 8 x=true)(f2:ws.all (flat 8)=true)(h:R (.bl (f (decide (x∈ws)))) G):zIn f x (.ref q) G R:=by cases x<;>exact⟨ws,e,f1,f2,h⟩
def b3E{tb:X3}(h:wi σ G λws ok G1=>FORB ws ok pt tb nx rt σ G1):uFor wi pt tb nx rt bk ct σ G:=h
def b5U(h:wi σ G λws ok G1=>∀D,G1 D=none->LCB ws ok cap pt tt te σ R D G1):uLC wi cap pt tt te σ G R:=h
variable{Ri:List Z->(Hq->Prop)->Hq->Prop}
def i_iL(h:te σ G λx G1=>wkL x G1 Ri):iL te σ G Ri:=h
def b5V(h:al σ G λws G1=>∃j:Int,ws=[.int j]/\-(2 ^ 62)<=j/\j<2 ^ 62/\Ri (rng 0 j.toNat) (λ_=>True) G1):iR1 al σ G Ri:=h
def a1g(e:G p=some (.lst ws))(h:Ri ws (λG=>G p=some (.lst ws)) G):wkL (.ref p) G Ri:=⟨ws,e,h⟩
def i_tt(h:Rb true G):uTT σ G Rb:=h
end
def ifD{p A B:Prop}[Decidable p](h1:p->A)(h2:¬ p->B):if decide p=true then A else B:=by simp_all
def ifN{p A B:Prop}[Decidable p](h1:¬ p->A)(h2:p->B):if (!decide p)=true then A else B:=by simp_all
def ifB{A B:Prop}(h1:b=true->A)(h2:b=false->B):if b=true then A else B:=by simp_all
def ifT{A B:Prop}(h:A):if true=true then A else B:=by rw[if_pos rfl];exact h
def ifF{A B:Prop}(h:B):if false=true then A else B:=by rw[if_neg (by decide)];exact h
def ifNN{A B:Prop}(h:A):if decide (Z.non=Z.non)=true then A else B:=by simp_all
def ifNI{A B:Prop}(h:B):if decide (Z.int i=Z.non)=true then A else B:=by rw[if_neg (by simp)];exact h
def ifNS{A B:Prop}(h:B):if decide (Z.str i=Z.non)=true then A else B:=by rw[if_neg (by simp)];exact h
def ifNU{A B:Prop}(h:B):if decide (Z.tup i=Z.non)=true then A else B:=by rw[if_neg (by simp)];exact h
def ifMN{A B:Prop}(h:B):if (!decide (Z.non=Z.non))=true then A else B:=by rw[if_neg (by simp)];exact h
def ifMI{A B:Prop}(h:A):if (!decide (Z.int i=Z.non))=true then A else B:=by rw[if_pos (by simp)];exact h
def at0{α:Type}{a:α}{r:List α}:atI (a::r) 0=some a:=a0W (j:=0) rfl
def at1{α:Type}{a b:α}{r:List α}:atI (a::b::r) 1=some b:=a0W (j:=1) rfl
def at2{α:Type}{a b c:α}{r:List α}:atI (a::b::c::r) 2=some c:=a0W (j:=2) rfl
def Sm(G G':Hq):Prop:=∀b o,G b=some o->G' b=some o
def Sm.refl(G:Hq):Sm G G:=λ_ _ h=>h
def Sm.trans(a:Sm G G1)(b:Sm G1 G2):Sm G G2:=λc o h=>b c o (a c o h)
def Sm.get(s:Sm G G')(h:G b=some o):G' b=some o:=s b o h
def Sm.new(h:G p=none):Sm G (put G p o):=λ_ _ e=>a0b e h
def Sm.free(s:Sm G G')(h:G' p=none):G p=none:=by
 cases e:G p with
 |none=>rfl
 |some o=>rw[s p o e]at h;cases h
def Kq(r:Addr)(G G':Hq):Prop:=∀b o,G b=some o->b≠r->G' b=some o
def Kq.refl(r:Addr)(G:Hq):Kq r G G:=λ_ _ h _=>h
def Kq.trans(a:Kq r G G1)(b:Kq r G1 G2):Kq r G G2:=λc o h n=>b c o (a c o h n) n
def Kq.new(h:G p=none):Kq r G (put G p o):=λ_ _ e _=>a0b e h
def Kq.at:Kq r G (put G r o):=λ_ _ e n=>by rw[a0q n];exact e
def Sm.kq(s:Sm G G'):Kq r G G':=λb o e _=>s b o e
noncomputable def Sm.put(s:Sm G G')(h:G p=none):Sm G (put G' p o):=λb u e=>by rw[a0q (a0i e h)];exact s b u e
end L3
set_option maxHeartbeats 4000000
namespace Tim
open PySem PyProof.Rows
abbrev KF:=Keyed->Int
noncomputable def Kk(κ:KF)(xs:Array Keyed)(i:Nat):Int:=match xs[i]? with
 |some p=>κ p
 |none=>0
section
variable{κ:KF}{xs ys:Array Keyed}{i j:Nat}{p:Keyed}
def a4u(h:xs[i]?=some p):Kk κ xs i=κ p:=by unfold Kk;rw[h]
def a2y(h:xs[i]?=ys[j]?):Kk κ xs i=Kk κ ys j:=by unfold Kk;rw[h]
end
def LtOk(M:Model)(A:Around)(E:Value->Shared->Prop)(s:Shared)(κ:KF)(k0:fX)(a₀:Array Keyed):Prop:=
 ∀x y,x∈a₀.toList->y∈a₀.toList->∀(st:SortSt)(Q:Option Bool->SortSt->Prop),kindOf st=k0->Q (some (decide (κ x<κ y))) st->wpS M A E s (lt' x y) Q st
structure TB (k0:fX) (a₀:Array Keyed) (st:SortSt):Prop where
 pm:(arrOf st).Perm a₀
 kd:kindOf st=k0
 fl:fM st=none
def TB.sz{st:SortSt}(h:TB k0 a₀ st):(arrOf st).size=a₀.size:=h.pm.size_eq
def TB.mem{st:SortSt}(h:TB k0 a₀ st){i:Nat}(e:(arrOf st)[i]?=some p):p∈a₀.toList:=by
 have a:p∈(arrOf st).toList:=by rw[dW];exact Array.mem_of_getElem? e
 exact (cw.mp h.pm).mem_iff.mp a
def TB.arr{st:SortSt}(h:TB k0 a₀ st)(hp:xs.Perm (arrOf st)):TB k0 a₀ (setArr st xs):=⟨hp.trans h.pm,h.kd,h.fl⟩
section
variable{M:Model}{A:Around}{E:Value->Shared->Prop}{s:Shared}{κ:KF}{k0:fX}{a₀:Array Keyed}{st:SortSt}
def a0A(e:arr[i]?=some p)(h:Q p st):wpS M A E s (elem' arr i) Q st:=by
 rw[elem'_eq,e];exact fm h
def a3U(L:LtOk M A E s κ k0 a₀)(B:TB k0 a₀ st)(hi:i<a₀.size)(hj:j<a₀.size)
  (h:Q (some (decide (Kk κ (arrOf st) i<Kk κ (arrOf st) j))) st):wpS M A E s (ltAt' i j) Q st:=by
 have b:_[i]?=some ((arrOf st)[i]'(B.sz▸hi)):=getElem?_pos ..;have a:(arrOf st)[j]?=some ((arrOf st)[j]'(B.sz▸hj)):=getElem?_pos ..;refine fj (fZ (fj (a0A b (fj (a0A a (L _ _ (B.mem b) (B.mem a) st Q B.kd ?_))))));rw[a4u b,a4u a]at h;exact h
end
noncomputable def a1h:Bool->Keyed->Array Keyed->Nat->Nat->Nat->StateT SortSt Sem (Option Nat):=sortPriv% PySem.Builtin.gallop
noncomputable def bey(lft:Bool)(ky:Keyed)(ar:Array Keyed)(bs:Nat)(q:Nat):StateT SortSt Sem (Option Bool):=do
  let z <- elem' ar (bs+q)
  if lft then lt' z ky else return (<- lt' ky z).map (!·)
def a5S(lft:Bool)(ky:Keyed)(ar:Array Keyed)(bs n hnt:Nat):a1h lft ky ar bs n hnt=(do
 let mut lst:=0
 let mut oo:=1
 let mut l:=0
 let mut h:=0
 let some rgt <- bey lft ky ar bs hnt |return none
 if rgt then
  let mx:=n-hnt
  for _ in [0:n] do
   if oo>=mx then break
   let some mo <- bey lft ky ar bs (hnt+oo) |return none
   if !mo then break
   lst:=oo
   oo:=2*oo+1
  l:=hnt+lst+1
  h:=hnt+min oo mx
 else
  let mx:=hnt+1
  for _ in [0:n] do
   if oo>=mx then break
   let some fo <- bey lft ky ar bs (hnt-oo) |return none
   if fo then break
   lst:=oo
   oo:=2*oo+1
  l:=hnt+1-min oo mx
  h:=hnt-lst
 for _ in [0:n] do
  if l>=h then break
  let m:=l+(h-l) / 2
  let some mo <- bey lft ky ar bs m |return none
  if mo then l:=m+1 else h:=m
 return some h):=rfl
noncomputable def bq(lft:Bool)(k x:Int):Bool:=if lft then decide (x<k) else !decide (k<x)
section
variable{M:Model}{A:Around}{E:Value->Shared->Prop}{s:Shared}{κ:KF}{k0:fX}{a₀:Array Keyed}{st:SortSt}
def a7f(L:LtOk M A E s κ k0 a₀)(hk:kindOf st=k0)(hm:ky∈a₀.toList)(ha:∀p∈ar.toList,p∈a₀.toList)(hq:bs+q<ar.size)
  (h:Q (some (bq lft (κ ky) (Kk κ ar (bs+q)))) st):wpS M A E s (bey lft ky ar bs q) Q st:=by
 have b:ar[bs+q]?=some (ar[bs+q]'hq):=getElem?_pos ..;have a:ar[bs+q]∈a₀.toList:=ha _ (by simp);refine fj (a0A b ?_);rw[a4u b]at h;cases lft with
 |true=>
  exact L _ _ a hm st Q hk h
 |false=>
  exact fj (L _ _ hm a st _ hk (fm h))
def a1n(L:LtOk M A E s κ k0 a₀)(hk:kindOf st=k0)(hm:ky∈a₀.toList)(ha:∀p∈ar.toList,p∈a₀.toList)
  (hn:bs+n<=ar.size) (hh:hnt<n) (mono:∀i j,i<=j->j<n->Kk κ ar (bs+i)<=Kk κ ar (bs+j))
  (h:∀h,h<=n->(∀i,i<h->bq lft (κ ky) (Kk κ ar (bs+i))=true)->(∀i,h<=i->i<n->bq lft (κ ky) (Kk κ ar (bs+i))=false)->Q (some h) st):wpS M A E s (a1h lft ky ar bs n hnt) Q st:=by
 have t:∀i j,i<=j->j<n->bq lft (κ ky) (Kk κ ar (bs+j))=true->bq lft (κ ky) (Kk κ ar (bs+i))=true:=λi j C F H=>by
  have:=mono i j C F
  unfold bq at *;cases lft<;>simp at *<;>lia
 have D:∀i j,i<=j->j<n->bq lft (κ ky) (Kk κ ar (bs+i))=false->bq lft (κ ky) (Kk κ ar (bs+j))=false:=λi j C F H=>by grind
 rw[a5S];refine fj (a7f L hk hm ha (by lia) ?_);dsimp only;cases e0:bq lft (κ ky) (Kk κ ar (bs+hnt)) with
 |true=>
  rw[if_pos rfl];refine fj (fN (fL (I:=λx c d=>d=st/\∃a b,c=(none,a,b)/\a<b/\x+1<=b/\hnt+a<n/\bq lft (κ ky) (Kk κ ar (bs+(hnt+a)))=true)
   (Q:=λc d=>d=st/\∃a b,c=(none,a,b)/\a<b/\hnt+a<n/\bq lft (κ ky) (Kk κ ar (bs+(hnt+a)))=true/\(n-hnt<=b\/(hnt+b<n/\bq lft (κ ky) (Kk κ ar (bs+(hnt+b)))=false))) ?step ?fin ?init) ?post)
  case init=>exact⟨rfl,0,1,rfl,by lia,by lia,by lia,e0⟩
  case fin=>
   rintro c d ⟨rfl,a,b,rfl,m,k,o,f⟩;exact⟨rfl,a,b,rfl,m,o,f,.inl (by lia)⟩
  case step=>
   rintro x c d _ G ⟨rfl,a,b,rfl,m,k,o,f⟩;dsimp only
   by_cases hge:b>=n-hnt
   ·rw[if_pos hge];exact fm ⟨rfl,a,b,rfl,m,o,f,.inl hge⟩
   ·rw[if_neg hge];refine fj (a7f L hk hm ha (by lia) ?_);cases e:bq lft (κ ky) (Kk κ ar (bs+(hnt+b))) with
    |true=>
     dsimp only;rw[if_neg (by decide)];exact fm ⟨rfl,b,2*b+1,rfl,by lia,by lia,by lia,e⟩
    |false=>
     dsimp only;rw[if_pos (show (!false)=true from rfl)];exact fm ⟨rfl,a,b,rfl,m,o,f,.inr ⟨by lia,e⟩⟩
  case post=>
   rintro c d ⟨y,a,b,rfl,m,o,f,g⟩;have y:=y.symm;subst y;dsimp only;have q:hnt+a+1<=hnt+min b (n-hnt):=by lia
   have w:hnt+min b (n-hnt)<=n:=by lia
   have v:∀i,i<hnt+a+1->bq lft (κ ky) (Kk κ ar (bs+i))=true:=λi J=>t i _ (by lia) (by lia) f;have u:∀i,hnt+min b (n-hnt)<=i->i<n->bq lft (κ ky) (Kk κ ar (bs+i))=false:=λi B z=>by grind
   generalize hnt+a+1=l0 at q v ⊢;generalize hnt+min b (n-hnt)=h0 at q w u ⊢;refine fj (fN (fL (I:=λx c d=>d=st/\∃l r,c=(none,l,r)/\l<=r/\r<=n/\r-l<=n-x/\(∀i,i<l->bq lft (κ ky) (Kk κ ar (bs+i))=true)/\(∀i,r<=i->i<n->bq lft (κ ky) (Kk κ ar (bs+i))=false))
    (Q:=λc d=>d=st/\∃l,c=(none,l,l)/\l<=n/\(∀i,i<l->bq lft (κ ky) (Kk κ ar (bs+i))=true)/\(∀i,l<=i->i<n->bq lft (κ ky) (Kk κ ar (bs+i))=false)) ?st2 ?fi2 ?in2) ?po2)
   case in2=>exact⟨rfl,l0,h0,rfl,q,w,by lia,v,u⟩
   case fi2=>
    rintro c d ⟨rfl,l,r,rfl,m,k,o,f,g⟩
    have:l=r:=by lia
    subst this;exact⟨rfl,l,rfl,k,f,g⟩
   case st2=>
    rintro x c d _ G ⟨rfl,l,r,rfl,m,k,o,f,g⟩;dsimp only
    by_cases hge:l>=r
    ·rw[if_pos hge]
     have:l=r:=by lia
     subst this;exact fm ⟨rfl,l,rfl,k,f,g⟩
    ·rw[if_neg hge];refine fj (a7f L hk hm ha (by lia) ?_);cases e:bq lft (κ ky) (Kk κ ar (bs+(l+(r-l) / 2))) with
     |true=>
      dsimp only;rw[if_pos rfl];exact fm ⟨rfl,_,r,rfl,by lia,k,by lia,λi J=>t i _ (by lia) (by lia) e,g⟩
     |false=>
      dsimp only;rw[if_neg (by decide)];exact fm ⟨rfl,l,_,rfl,by lia,by lia,by lia,f,λi B z=>D _ i B z e⟩
   case po2=>
    rintro c d ⟨rfl,l,rfl,k,f,g⟩;exact fm (h l k f g)
 |false=>
  rw[if_neg (by decide)];refine fj (fN (fL (I:=λx c d=>d=st/\∃a b,c=(none,a,b)/\a<b/\x+1<=b/\a<=hnt/\bq lft (κ ky) (Kk κ ar (bs+(hnt-a)))=false)
   (Q:=λc d=>d=st/\∃a b,c=(none,a,b)/\a<b/\a<=hnt/\bq lft (κ ky) (Kk κ ar (bs+(hnt-a)))=false/\(hnt+1<=b\/(b<=hnt/\bq lft (κ ky) (Kk κ ar (bs+(hnt-b)))=true))) ?step ?fin ?init) ?post)
  case init=>exact⟨rfl,0,1,rfl,by lia,by lia,by lia,e0⟩
  case fin=>
   rintro c d ⟨rfl,a,b,rfl,m,k,o,f⟩;exact⟨rfl,a,b,rfl,m,o,f,.inl (by lia)⟩
  case step=>
   rintro x c d _ G ⟨rfl,a,b,rfl,m,k,o,f⟩;dsimp only
   by_cases hge:b>=hnt+1
   ·rw[if_pos hge];exact fm ⟨rfl,a,b,rfl,m,o,f,.inl hge⟩
   ·rw[if_neg hge];refine fj (a7f L hk hm ha (by lia) ?_);cases e:bq lft (κ ky) (Kk κ ar (bs+(hnt-b))) with
    |true=>
     dsimp only;rw[if_pos rfl];exact fm ⟨rfl,a,b,rfl,m,o,f,.inr ⟨by lia,e⟩⟩
    |false=>
     dsimp only;rw[if_neg (by decide)];exact fm ⟨rfl,b,2*b+1,rfl,by lia,by lia,by lia,e⟩
  case post=>
   rintro c d ⟨y,a,b,rfl,m,o,f,g⟩;have y:=y.symm;subst y;dsimp only;have q:hnt+1-min b (hnt+1)<=hnt-a:=by lia
   have w:hnt-a<=n:=by lia
   have v:∀i,i<hnt+1-min b (hnt+1)->bq lft (κ ky) (Kk κ ar (bs+i))=true:=λi J=>by grind
   have u:=λi B z=>D _ i B z f;generalize hnt+1-min b (hnt+1)=l0 at q v ⊢;generalize hnt-a=h0 at q w u ⊢;refine fj (fN (fL (I:=λx c d=>d=st/\∃l r,c=(none,l,r)/\l<=r/\r<=n/\r-l<=n-x/\(∀i,i<l->bq lft (κ ky) (Kk κ ar (bs+i))=true)/\(∀i,r<=i->i<n->bq lft (κ ky) (Kk κ ar (bs+i))=false))
    (Q:=λc d=>d=st/\∃l,c=(none,l,l)/\l<=n/\(∀i,i<l->bq lft (κ ky) (Kk κ ar (bs+i))=true)/\(∀i,l<=i->i<n->bq lft (κ ky) (Kk κ ar (bs+i))=false)) ?st2 ?fi2 ?in2) ?po2)
   case in2=>exact⟨rfl,l0,h0,rfl,q,w,by lia,v,u⟩
   case fi2=>
    rintro c d ⟨rfl,l,r,rfl,m,k,o,f,g⟩
    have:l=r:=by lia
    subst this;exact⟨rfl,l,rfl,k,f,g⟩
   case st2=>
    rintro x c d _ G ⟨rfl,l,r,rfl,m,k,o,f,g⟩;dsimp only
    by_cases hge:l>=r
    ·rw[if_pos hge]
     have:l=r:=by lia
     subst this;exact fm ⟨rfl,l,rfl,k,f,g⟩
    ·rw[if_neg hge];refine fj (a7f L hk hm ha (by lia) ?_);cases e:bq lft (κ ky) (Kk κ ar (bs+(l+(r-l) / 2))) with
     |true=>
      dsimp only;rw[if_pos rfl];exact fm ⟨rfl,_,r,rfl,by lia,k,by lia,λi J=>t i _ (by lia) (by lia) e,g⟩
     |false=>
      dsimp only;rw[if_neg (by decide)];exact fm ⟨rfl,l,_,rfl,by lia,by lia,by lia,f,λi B z=>D _ i B z e⟩
   case po2=>
    rintro c d ⟨rfl,l,rfl,k,f,g⟩;exact fm (h l k f g)
end
noncomputable def a7g:Nat->StateT SortSt Sem Unit:=sortPriv% PySem.Builtin.setMinGallop
def a3o(g:Nat):a7g g=modify λs=>SortSt.mk' (kindOf s) (arrOf s) (fw s) g (fM s):=rfl
noncomputable def a3p:Array Keyed->Array Keyed->StateT SortSt Sem (Array Keyed):=sortPriv% PySem.Builtin.mergeLo
abbrev dnA(a b o:Array Keyed)(i j:Nat):Array Keyed:=o++a.extract i a.size++b.extract j b.size
abbrev dnB(a b o:Array Keyed)(i j:Nat):Array Keyed:=o++b.extract j b.size++a.extract i a.size
section
variable{κ:KF}{A B o:List Keyed}{i j:Nat}{p:Keyed}
abbrev Srt(κ:KF)(l:List Keyed):Prop:=l.Pairwise λx y=>κ x<=κ y
structure MW (κ:KF) (A B o:List Keyed) (i j:Nat):Prop where
 ia:i<=A.length
 jb:j<=B.length
 pm:(o++(A.drop i++B.drop j)).Perm (A++B)
 so:Srt κ o
 ba:∀x∈o,∀y∈A.drop i,κ x<=κ y
 bb:∀x∈o,∀y∈B.drop j,κ x<=κ y
theorem MW.size(W:MW κ A B o i j):o.length=i+j:=by
 have:=W.pm.length_eq
 have b:=W.ia;have a:=W.jb;simp at this
 lia
def drop_get{l:List Keyed}(h:l[n]?=some p):l.drop n=p::l.drop (n+1):=by
 obtain⟨a,e⟩:=aj.mp h;rw[cf a,e]
def a46(h:Srt κ l)(hb:∀x∈l,κ x<=κ p):Srt κ (l++[p]):=by
 refine aM.mpr ⟨h,du _ _,λx b y a=>?_⟩;rw[ai.mp a];exact hb x b
def a0P(h:Srt κ l)(n:Nat):Srt κ (l.drop n):=bG.sublist (dv n l) h
def MW.pushA(W:MW κ A B o i j)(sa:Srt κ A)(hp:A[i]?=some p)(hb:∀y∈B.drop j,κ p<=κ y):MW κ A B (o++[p]) (i+1) j:=by
 have c:=drop_get hp;refine⟨((aj.mp hp).1),W.jb,?_,a46 W.so λx b=>W.ba x b p (by simp_all),λx b y a=>?_,λx b y a=>?_⟩
 ·have:=W.pm
  rw[c]at this;simpa using this
 ·rcases ah.mp b with h |h
  ·exact W.ba x h y (by simp_all)
  ·rw[ai.mp h];exact (av.mp (c▸a0P sa i)).1 y a
 ·rcases ah.mp b with h |h
  ·exact W.bb x h y a
  ·rw[ai.mp h];exact hb y a
def MW.pushB(W:MW κ A B o i j)(sb:Srt κ B)(hp:B[j]?=some p)(hb:∀y∈A.drop i,κ p<=κ y):MW κ A B (o++[p]) i (j+1):=by
 have c:=drop_get hp;refine⟨W.ia,((aj.mp hp).1),?_,a46 W.so λx b=>W.bb x b p (by simp_all),λx b y a=>?_,λx b y a=>?_⟩
 ·have:=W.pm
  rw[c]at this;refine aH.trans ?_ this;rw[aN];exact aH.append_left o (show (p::(A.drop i++B.drop _)).Perm _ from d8.symm)
 ·rcases ah.mp b with h |h
  ·exact W.ba x h y a
  ·rw[ai.mp h];exact hb y a
 ·rcases ah.mp b with h |h
  ·exact W.bb x h y (by simp_all)
  ·rw[ai.mp h];exact (av.mp (c▸a0P sb j)).1 y a
def take_snoc{l:List Keyed}(h:l[n+k]?=some p):(l.drop n).take (k+1)=(l.drop n).take k++[p]:=by
 rw[bJ,cg,h];rfl
def MW.runA(W:MW κ A B o i j)(sa:Srt κ A):∀k,i+k<=A.length->(∀q z,i<=q->q<i+k->A[q]?=some z->∀y∈B.drop j,κ z<=κ y)->MW κ A B (o++(A.drop i).take k) (i+k) j:=by intro z0;induction z0 with
 |zero=>intro _ _;simpa using W
 |succ k I0=>
  intro hk hz;have e:A[i+k]?=some A[i+k]:=ak (by lia);rw[take_snoc e,<- aN];exact (I0 (by lia) λq z a c=>hz q z a (by lia)).pushA sa e (hz _ _ (by lia) (by lia) e)
def MW.runB(W:MW κ A B o i j)(sb:Srt κ B):∀k,j+k<=B.length->(∀q z,j<=q->q<j+k->B[q]?=some z->∀y∈A.drop i,κ z<=κ y)->MW κ A B (o++(B.drop j).take k) i (j+k):=by intro z0;induction z0 with
 |zero=>intro _ _;simpa using W
 |succ k I0=>
  intro hk hz;have e:B[j+k]?=some B[j+k]:=ak (by lia);rw[take_snoc e,<- aN];exact (I0 (by lia) λq z a c=>hz q z a (by lia)).pushB sb e (hz _ _ (by lia) (by lia) e)
def Mgd(κ:KF)(A B r:List Keyed):Prop:=r.Perm (A++B)/\Srt κ r
def MW.doneA(W:MW κ A B o i j)(sa:Srt κ A)(sb:Srt κ B)(h:i=A.length\/j=B.length):Mgd κ A B (o++A.drop i++B.drop j):=by
 refine⟨by rw[aN];exact W.pm,?_⟩;rw[aN];refine aM.mpr ⟨W.so,aM.mpr ⟨a0P sa i,a0P sb j,λx a y b=>?_⟩,λx a y b=>?_⟩
 ·rcases h with rfl |rfl
  ·simp_all
  ·simp_all
 ·rcases ah.mp b with h |h
  ·exact W.ba x a y h
  ·exact W.bb x a y h
def MW.doneB(W:MW κ A B o i j)(sa:Srt κ A)(sb:Srt κ B)(h:i+1=A.length)(hl:∀z,A[A.length-1]?=some z->∀y∈B,κ y<=κ z):Mgd κ A B (o++B.drop j++A.drop i):=by
 refine⟨?_,?_⟩
 ·rw[aN];exact aH.trans (aH.append_left o dw) W.pm
 ·rw[aN];have e:A[i]?=some A[i]:=ak (by omega);have c:A.drop i=[A[i]]:=by rw[drop_get e,cx (by omega)]
  refine aM.mpr ⟨W.so,aM.mpr ⟨a0P sb j,a0P sa i,λx b y a=>?_⟩,λx b y a=>?_⟩
  ·rw[c]at a;rw[ai.mp a];exact hl _ (by rw[show A.length-1=i by omega];exact e) x (dy b)
  ·rcases ah.mp a with h |h
   ·exact W.bb x b y h
   ·exact W.ba x b y h
def a04(h:Srt κ l)(hp:l[n]?=some p):∀y∈l.drop n,κ p<=κ y:=λy a=>by
 have b:=a0P h n;rw[drop_get hp]at b a;rcases ag.mp a with rfl |a
 ·exact bL _
 ·exact (av.mp b).1 y a
end
abbrev SM:=StateT SortSt Sem
abbrev T1:=Option (Array Keyed)×Array Keyed×Nat×Nat×Nat×Nat
abbrev T2:=Option (Array Keyed)×Array Keyed×Nat×Nat×Nat×Nat×Nat
noncomputable def lo1(a b:Array Keyed)(g:Nat)(o:Array Keyed)(i j ac bc:Nat):SM (ForInStep T1):=do
 let y <- elem' b j
 let x <- elem' a i
 let r <- lt' y x
 match r with
 |some bw=>
  if bw=true then do
   let y <- elem' b j
   if (j+1==b.size)=true then pure (.done (some (dnA a b (o.push y) i (j+1)),o.push y,i,j+1,0,bc+1))
   else if bc+1>=g then pure (.done (none,o.push y,i,j+1,0,bc+1)) else pure (.yield (none,o.push y,i,j+1,0,bc+1))
  else do
   let x <- elem' a i
   if (i+1+1==a.size)=true then pure (.done (some (dnB a b (o.push x) (i+1) j),o.push x,i+1,j,ac+1,0))
   else if ac+1>=g then pure (.done (none,o.push x,i+1,j,ac+1,0)) else pure (.yield (none,o.push x,i+1,j,ac+1,0))
 |_=>pure (.done (some (dnA a b o i j),o,i,j,ac,bc))
noncomputable def lo5(a b:Array Keyed)(o:Array Keyed)(i j g ac bc:Nat):SM (ForInStep T2):=do
 let x <- elem' a i
 if (i+1+1==a.size)=true then pure (.done (some (dnB a b (o.push x) (i+1) j),o.push x,i+1,j,g,ac,bc))
 else if (decide (ac<7)&&decide (bc<7))=true then pure (.done (none,o.push x,i+1,j,g,ac,bc)) else pure (.yield (none,o.push x,i+1,j,g,ac,bc))
noncomputable def lo4(a b:Array Keyed)(o:Array Keyed)(i j g ac bc:Nat):SM (ForInStep T2):=do
 let y <- elem' b j
 if (j+1==b.size)=true then pure (.done (some (dnA a b (o.push y) i (j+1)),o.push y,i,j+1,g,ac,bc))
 else do
  let x <- elem' a i
  let r <- a1h true x b (j+1) (b.size-(j+1)) 0
  match r with
  |some k=>
   if k > 0 then
    if (j+1+k==b.size)=true then pure (.done (some (dnA a b (o.push y++b.extract (j+1) (j+1+k)) i (j+1+k)),o.push y++b.extract (j+1) (j+1+k),i,j+1+k,g,ac,k))
    else lo5 a b (o.push y++b.extract (j+1) (j+1+k)) i (j+1+k) g ac k
   else lo5 a b (o.push y) i (j+1) g ac k
  |_=>pure (.done (some (dnA a b (o.push y) i (j+1)),o.push y,i,j+1,g,ac,bc))
noncomputable def lo3(a b:Array Keyed)(o:Array Keyed)(i j g ac bc:Nat):SM (ForInStep T2):=do
 a7g g
 let y <- elem' b j
 let r <- a1h false y a i (a.size-i) 0
 match r with
 |some k=>
  if k > 0 then
   if (i+k+1==a.size)=true then pure (.done (some (dnB a b (o++a.extract i (i+k)) (i+k) j),o++a.extract i (i+k),i+k,j,g,k,bc))
   else if (i+k==a.size)=true then pure (.done (some (dnA a b (o++a.extract i (i+k)) (i+k) j),o++a.extract i (i+k),i+k,j,g,k,bc))
   else lo4 a b (o++a.extract i (i+k)) (i+k) j g k bc
  else lo4 a b o i j g k bc
 |_=>pure (.done (some (dnA a b o i j),o,i,j,g,ac,bc))
noncomputable def lo2(a b:Array Keyed)(o:Array Keyed)(i j g ac bc:Nat):SM (ForInStep T2):=
 if g > 1 then lo3 a b o i j (g-1) ac bc else lo3 a b o i j g ac bc
def a3V(a b:Array Keyed):a3p a b=(do
  liftM (rule "list.sort.merge-lo")
  let y <- elem' b 0
  if (1==b.size)=true then pure (dnA a b #[y] 0 1)
  else if (0+1==a.size)=true then pure (dnB a b #[y] 0 1)
  else do
   let st <- get
   let c <- forIn [0:a.size+b.size] ((none,#[y],0,1,gallopOf st):Option (Array Keyed)×Array Keyed×Nat×Nat×Nat) λ_ c=>do
    let c1 <- forIn [0:a.size+b.size] ((none,c.2.1,c.2.2.1,c.2.2.2.1,0,0):T1) λ_ c1=>lo1 a b c.2.2.2.2 c1.2.1 c1.2.2.1 c1.2.2.2.1 c1.2.2.2.2.1 c1.2.2.2.2.2
    match c1.1 with
    |some r=>pure (ForInStep.done (some r,c1.2.1,c1.2.2.1,c1.2.2.2.1,c.2.2.2.2))
    |none=>do
     liftM (rule "list.sort.gallop")
     let c2 <- forIn [0:a.size+b.size] ((none,c1.2.1,c1.2.2.1,c1.2.2.2.1,c.2.2.2.2+1,c1.2.2.2.2.1,c1.2.2.2.2.2):T2) λ_ c2=>lo2 a b c2.2.1 c2.2.2.1 c2.2.2.2.1 c2.2.2.2.2.1 c2.2.2.2.2.2.1 c2.2.2.2.2.2.2
     match c2.1 with
     |some r=>pure (ForInStep.done (some r,c2.2.1,c2.2.2.1,c2.2.2.2.1,c2.2.2.2.2.1))
     |none=>do
      a7g (c2.2.2.2.2.1+1)
      pure (ForInStep.yield (none,c2.2.1,c2.2.2.1,c2.2.2.2.1,c2.2.2.2.2.1+1))
   match c.1 with
   |some r=>pure r
   |none=>gx "internal:list.sort.merge-bound"):=by
 kernel_rfl
structure SG (st st':SortSt):Prop where
 kd:kindOf st'=kindOf st
 ar:arrOf st'=arrOf st
 pe:fw st'=fw st
 fl:fM st'=fM st
def SG.refl(st:SortSt):SG st st:=⟨rfl,rfl,rfl,rfl⟩
def SG.trans(p:SG x y)(q:SG y z):SG x z:=⟨q.kd.trans p.kd,q.ar.trans p.ar,q.pe.trans p.pe,q.fl.trans p.fl⟩
section
variable{κ:KF}{a b o:Array Keyed}{i j:Nat}
def a1F:(dnA a b o i j).toList=o.toList++a.toList.drop i++b.toList.drop j:=by
 simp[bC]
def a2i:(dnB a b o i j).toList=o.toList++b.toList.drop j++a.toList.drop i:=by
 simp[bC]
def a47:(o++a.extract i (i+k)).toList=o.toList++(a.toList.drop i).take k:=by
 simp[cP]
def a0F(h:i<a.size):a.toList[i]?=some a[i]:=by simp[h]
def a0G(h:i<a.size):Kk κ a i=κ a[i]:=a4u (getElem?_pos ..)
def a1G(h:Srt κ a.toList)(hn:i+n<=a.size):∀p q,p<=q->q<n->Kk κ a (i+p)<=Kk κ a (i+q):=λp q b c=>by
 rw[a0G (show i+p<a.size by lia),a0G (show i+q<a.size by lia)]
 by_cases e:p=q
 ·simp_all
 ·have:=bV.mp h (i+p) (i+q) (by simp;lia) (by simp;lia) (by lia)
  simpa using this
end
structure MC (M:Model) (A:Around) (E:Value->Shared->Prop) (s:Shared) (κ:KF) (k0:fX) (a₀ a b:Array Keyed):Prop where
 L:LtOk M A E s κ k0 a₀
 ha:∀p∈a.toList,p∈a₀.toList
 hb:∀p∈b.toList,p∈a₀.toList
 sa:Srt κ a.toList
 sb:Srt κ b.toList
 h0:0<a.size
 h1:0<b.size
 hf:∀y∈a.toList,Kk κ b 0<=κ y
 hl:∀z,a.toList[a.toList.length-1]?=some z->∀y∈b.toList,κ y<=κ z
structure Rdy (κ:KF) (a b o:Array Keyed) (i j:Nat):Prop where
 w:MW κ a.toList b.toList o.toList i j
 hi:i+1<a.size
 hj:j<b.size
section
variable{M:Model}{A:Around}{E:Value->Shared->Prop}{s:Shared}{κ:KF}{k0:fX}{a₀ a b o:Array Keyed}{st:SortSt}{i j g ac bc:Nat}
def a2Z{α:Type}{f:Unit->SM α}{Q:α->SortSt->Prop}(h:wpS M A E s (f ()) Q st):wpS M A E s ((liftM (rule w):SM Unit) >>= f) Q st:=
 fj (wpS_lift (gg ⟨rfl,h⟩))
def a0N(a:Array Keyed):a.toList.length=a.size:=by simp
def b5W(C:MC M A E s κ k0 a₀ a b)(hk:kindOf st=k0)(R:Rdy κ a b o i j)
  (dn:∀r c,Mgd κ a.toList b.toList r.toList->Q (.done (some r,c)) st)
  (br:∀o' i' j' x y,Rdy κ a b o' i' j'->i'+j'=i+j+1->Q (.done (none,o',i',j',x,y)) st)
  (go:∀o' i' j' x y,Rdy κ a b o' i' j'->i'+j'=i+j+1->Q (.yield (none,o',i',j',x,y)) st):wpS M A E s (lo1 a b g o i j ac bc) Q st:=by
 have q:=R.hi;have n:=R.hj;have p:b[j]?=some b[j]:=getElem?_pos ..;have m:a[i]?=some a[i]:=getElem?_pos ..;have h:=a0F n;have l:=a0F (a:=a) (i:=i) (by lia);unfold lo1;refine fj (a0A p (fj (a0A m (fj (C.L _ _ (C.hb _ (aD h)) (C.ha _ (aD l)) st _ hk ?_)))));dsimp only
 by_cases c:κ b[j]<κ a[i]
 ·rw[if_pos (decide_eq_true c)];refine fj (a0A p ?_);have d:=R.w.pushB C.sb h λy k=>aS (bj c) (a04 C.sa l y k);rw[<- aU]at d
  by_cases e:j+1=b.size
  ·rw[if_pos (by simpa using e)];exact fm (dn _ _ (by rw[a1F];exact d.doneA C.sa C.sb (.inr (by rw[a0N];exact e))))
  ·rw[if_neg (by simpa using e)];have f:Rdy κ a b (o.push b[j]) i (j+1):=⟨d,q,by lia⟩
   split
   ·exact fm (br _ _ _ _ _ f (by lia))
   ·exact fm (go _ _ _ _ _ f (by lia))
 ·rw[if_neg (by simpa using c)];refine fj (a0A m ?_);have d:=R.w.pushA C.sa l λy k=>aS (cQ.mp c) (a04 C.sb h y k);rw[<- aU]at d
  by_cases e:i+1+1=a.size
  ·rw[if_pos (by simpa using e)];exact fm (dn _ _ (by rw[a2i];exact d.doneB C.sa C.sb (by rw[a0N];exact e) C.hl))
  ·rw[if_neg (by simpa using e)];have f:Rdy κ a b (o.push a[i]) (i+1) j:=⟨d,by lia,n⟩
   split
   ·exact fm (br _ _ _ _ _ f (by lia))
   ·exact fm (go _ _ _ _ _ f (by lia))
structure G2 (st:SortSt) (κ:KF) (a b:Array Keyed) (n:Nat) (Q:ForInStep T2->SortSt->Prop):Prop where
 dn:∀r c st',SG st st'->Mgd κ a.toList b.toList r.toList->Q (.done (some r,c)) st'
 br:∀o' i' j' x y z st',SG st st'->Rdy κ a b o' i' j'->n<i'+j'->Q (.done (none,o',i',j',x,y,z)) st'
 go:∀o' i' j' x y z st',SG st st'->Rdy κ a b o' i' j'->n<i'+j'->Q (.yield (none,o',i',j',x,y,z)) st'
def b3F(C:MC M A E s κ k0 a₀ a b)(R:Rdy κ a b o i j)(hle:∀y∈b.toList.drop j,Kk κ a i<=κ y)(H:G2 st κ a b n Q)(hn:n<=i+j):wpS M A E s (lo5 a b o i j g ac bc) Q st:=by
 have l:=R.hi;have h:a[i]?=some a[i]:=getElem?_pos ..;rw[a0G (show i<a.size by lia)]at hle;unfold lo5;refine fj (a0A h ?_);have c:=R.w.pushA C.sa (a0F (a:=a) (i:=i) (by lia)) hle;rw[<- aU]at c
 by_cases e:i+1+1=a.size
 ·rw[if_pos (by simpa using e)];exact fm (H.dn _ _ _ (SG.refl _) (a2i▸c.doneB C.sa C.sb (by rw[a0N];exact e) C.hl))
 ·rw[if_neg (by simpa using e)];have d:Rdy κ a b (o.push a[i]) (i+1) j:=⟨c,by lia,R.hj⟩
  split
  ·exact fm (H.br _ _ _ _ _ _ _ (SG.refl _) d (by lia))
  ·exact fm (H.go _ _ _ _ _ _ _ (SG.refl _) d (by lia))
def a1x{l:List Keyed}(h:y∈l.drop n):∃q,n<=q/\q<l.length/\l[q]?=some y:=by
 obtain⟨m,a⟩:=bn h;rw[cg]at a;exact⟨n+m,by lia,(aj.mp a).1,a⟩
def a2z(h:a.toList[q]?=some z):Kk κ a q=κ z:=a4u (by simp_all)
def b3G(C:MC M A E s κ k0 a₀ a b)(hk:kindOf st=k0)(R:Rdy κ a b o i j)(hle:∀y∈a.toList.drop i,Kk κ b j<=κ y)(H:G2 st κ a b n Q)(hn:n<=i+j):wpS M A E s (lo4 a b o i j g ac bc) Q st:=by
 have m:=R.hi;have t:=R.hj;have x:b[j]?=some b[j]:=getElem?_pos ..;have F:a[i]?=some a[i]:=getElem?_pos ..;have p:=a0F (a:=a) (i:=i) (by lia);rw[a0G t]at hle;unfold lo4;refine fj (a0A x ?_);have d:=R.w.pushB C.sb (a0F t) hle;rw[<- aU]at d
 by_cases e:j+1=b.size
 ·rw[if_pos (by simpa using e)];exact fm (H.dn _ _ _ (SG.refl _) (a1F▸d.doneA C.sa C.sb (.inr (by rw[a0N];exact e))))
 ·rw[if_neg (by simpa using e)];refine fj (a0A F (fj (a1n C.L hk (C.ha _ (aD p)) C.hb (by lia) (by lia) (a1G C.sb (by lia)) λk G v r=>?_)));dsimp only;have c:∀y∈b.toList.drop (j+1+k),Kk κ a i<=κ y:=λy h=>by
   obtain⟨q,B,u,l⟩:=a1x h;rw[a0N]at u
   have:=r (q-(j+1)) (by lia) (by lia)
   rw[show j+1+(q-(j+1))=q by lia,a2z l]at this;simp[bq]at this;rw[a0G (show i<a.size by lia)]
   lia
  split
  ·have f:=d.runB C.sb k (by rw[a0N];lia) λq z B u l y h=>by
    have:=v (q-(j+1)) (by lia)
    rw[show j+1+(q-(j+1))=q by lia,a2z l]at this;simp[bq]at this;exact aS (bj this) (a04 C.sa p y h)
   rw[<- a47]at f
   by_cases e2:j+1+k=b.size
   ·rw[if_pos (by simpa using e2)];exact fm (H.dn _ _ _ (SG.refl _) (a1F▸f.doneA C.sa C.sb (.inr (by rw[a0N];exact e2))))
   ·rw[if_neg (by simpa using e2)];exact b3F C ⟨f,m,by lia⟩ c H (by lia)
  ·have:k=0:=by lia
   subst this;exact b3F C ⟨d,m,by lia⟩ c H (by lia)
def b5X(C:MC M A E s κ k0 a₀ a b)(hk:kindOf st=k0)(R:Rdy κ a b o i j)(H:G2 st κ a b n Q)(hn:n<=i+j):wpS M A E s (lo3 a b o i j g ac bc) Q st:=by
 have I:=R.hi;have h:=R.hj;have G:b[j]?=some b[j]:=getElem?_pos ..;have B:=a0F h;unfold lo3;rw[a3o];refine fj (fY ?_);have m:SG st (SortSt.mk' _ (arrOf st) _ g _):=⟨rfl,rfl,rfl,rfl⟩;have e:kindOf (SortSt.mk' _ (arrOf st) (fw st) g (fM st))=k0:=hk;generalize SortSt.mk' (kindOf st) (arrOf st) (fw st) g (fM st)=st1 at m e;have l:G2 st1 κ a b n Q:=⟨λr c d g=>H.dn r c d (m.trans g),λ_ _ _ _ _ _ d g=>H.br _ _ _ _ _ _ d (m.trans g),λ_ _ _ _ _ _ d g=>H.go _ _ _ _ _ _ d (m.trans g)⟩;refine fj (a0A G (fj (a1n C.L e (C.hb _ (aD B)) C.ha (by lia) (by lia) (a1G C.sa (by lia)) λk J D x=>?_)));dsimp only;have f:∀y∈a.toList.drop (i+k),Kk κ b j<=κ y:=λy t=>by
  obtain⟨q,F,v,u⟩:=a1x t;rw[a0N]at v
  have:=x (q-i) (by lia) (by lia)
  rw[show i+(q-i)=q by lia,a2z u]at this;simp[bq]at this;rw[a0G h]
  lia
 split
 ·have p:=R.w.runA C.sa k (by rw[a0N];lia) λq z F v u y t=>by
   have:=D (q-i) (by lia)
   rw[show i+(q-i)=q by lia,a2z u]at this;simp[bq]at this;exact aS this (a04 C.sb B y t)
  rw[<- a47]at p
  by_cases e1:i+k+1=a.size
  ·rw[if_pos (by simpa using e1)];exact fm (l.dn _ _ _ (SG.refl _) (a2i▸p.doneB C.sa C.sb (by rw[a0N];exact e1) C.hl))
  ·rw[if_neg (by simpa using e1)]
   by_cases e2:i+k=a.size
   ·rw[if_pos (by simpa using e2)];exact fm (l.dn _ _ _ (SG.refl _) (a1F▸p.doneA C.sa C.sb (.inl (by rw[a0N];exact e2))))
   ·rw[if_neg (by simpa using e2)];exact b3G C e ⟨p,by lia,h⟩ f l (by lia)
 ·have:k=0:=by lia
  subst this;exact b3G C e ⟨R.w,I,h⟩ f l (by lia)
def b5Y(C:MC M A E s κ k0 a₀ a b)(hk:kindOf st=k0)(R:Rdy κ a b o i j)(H:G2 st κ a b n Q)(hn:n<=i+j):wpS M A E s (lo2 a b o i j g ac bc) Q st:=by
 unfold lo2
 split<;>exact b5X C hk R H hn
def a8R(C:MC M A E s κ k0 a₀ a b):MW κ a.toList b.toList [b[0]'C.h1] 0 1:=by
 have e:MW κ a.toList b.toList [] 0 0:=⟨aK _,aK _,by simp,.nil,λx h=>by simp at h,λx h=>by simp at h⟩;exact e.pushB C.sb (a0F C.h1) λy d=>by rw[<- a0G (κ:=κ) C.h1];exact C.hf y (by simp_all)
def a7h(C:MC M A E s κ k0 a₀ a b)(hk:kindOf st=k0)
  (h:∀r st',SG st st'->Mgd κ a.toList b.toList r.toList->Q r st'):wpS M A E s (a3p a b) Q st:=by
 have h0:=C.h0;have h1:=C.h1;rw[a3V];refine a2Z (fj (a0A (getElem?_pos b 0 C.h1) ?_));have w0:=a8R C
 by_cases e1:1=b.size
 ·rw[if_pos (by simpa using e1)];exact fm (h _ _ (SG.refl _) (a1F▸w0.doneA C.sa C.sb (.inr (by grind))))
 rw[if_neg (by simpa using e1)]
 by_cases e2:0+1=a.size
 ·rw[if_pos (by simpa using e2)];exact fm (h _ _ (SG.refl _) (a2i▸w0.doneB C.sa C.sb (by rw[a0N];exact e2) C.hl))
 rw[if_neg (by simpa using e2)];refine fj (fZ ?_);have R0:Rdy κ a b #[b[0]] 0 1:=⟨w0,by lia,by lia⟩;refine fj (fN (fL (I:=λx c e=>∃o i j g,c=(none,o,i,j,g)/\SG st e/\Rdy κ a b o i j/\x<i+j)
  (Q:=λc e=>∃r F,c=(some r,F)/\SG st e/\Mgd κ a.toList b.toList r.toList) ?step ?fin ⟨_,_,_,_,rfl,SG.refl _,R0,by lia⟩) ?post)
 case post=>
  rintro c e ⟨r,F,rfl,H,m⟩;exact fm (h r e H m)
 case fin=>
  rintro c e ⟨o,i,j,g,rfl,H,R,hx⟩
  have:=R.hi
  have:=R.hj
  lia
 case step=>
  rintro x c e _ hx ⟨o,i,j,g,rfl,H,R,hxi⟩;dsimp only;refine fj (fN (fL (I:=λy c f=>∃D l k J T,c=(none,D,l,k,J,T)/\f=e/\Rdy κ a b D l k/\i+j+y<=l+k)
   (Q:=λc f=>f=e/\((∃r F,c=(some r,F)/\Mgd κ a.toList b.toList r.toList)\/∃D l k J T,c=(none,D,l,k,J,T)/\Rdy κ a b D l k/\i+j<=l+k)) ?st1 ?fi1 ⟨_,_,_,_,_,rfl,rfl,R,by lia⟩) ?po1)
  case fi1=>
   rintro c f ⟨D,l,k,J,T,rfl,rfl,L,hy⟩
   have:=L.hi
   have:=L.hj
   lia
  case st1=>
   rintro y c f _ hy ⟨D,l,k,J,T,rfl,rfl,L,hyi⟩;dsimp only;refine b5W C (H.kd.trans hk) L (λr c m=>⟨rfl,.inl ⟨r,c,rfl,m⟩⟩) (λo2 i2 j2 u v X V=>⟨rfl,.inr ⟨_,_,_,_,_,rfl,X,by lia⟩⟩) λo2 i2 j2 u v X V=>⟨_,_,_,_,_,rfl,rfl,X,by lia⟩
  case po1=>
   rintro c f ⟨rfl,⟨r,F,rfl,m⟩ |⟨D,l,k,J,T,rfl,L,hij⟩⟩
   ·exact fm ⟨r,_,rfl,H,m⟩
   ·dsimp only;refine a2Z ?_;refine fj (fN (fL (I:=λy c B=>∃G q p S z t,c=(none,G,q,p,S,z,t)/\SG st B/\Rdy κ a b G q p/\l+k+y<=q+p)
     (Q:=λc B=>SG st B/\((∃r F,c=(some r,F)/\Mgd κ a.toList b.toList r.toList)\/∃G q p S z t,c=(none,G,q,p,S,z,t)/\Rdy κ a b G q p/\l+k<q+p)) ?f ?fi2 ⟨_,_,_,_,_,_,rfl,H,L,by lia⟩) ?po2)
    case fi2=>
     rintro c B ⟨G,q,p,S,z,t,rfl,d,N,hy⟩
     have:=N.hi
     have:=N.hj
     lia
    case f=>
     rintro y c B _ hy ⟨G,q,p,S,z,t,rfl,d,N,hyi⟩;dsimp only;refine b5Y C (d.kd.trans hk) N ⟨λr c W U m=>⟨d.trans U,.inl ⟨r,c,rfl,m⟩⟩,λo4 i4 j4 u v w W U Y V=>⟨d.trans U,.inr ⟨_,_,_,_,_,_,rfl,Y,by lia⟩⟩,λo4 i4 j4 u v w W U Y V=>⟨_,_,_,_,_,_,rfl,d.trans U,Y,by lia⟩⟩ (af _)
    case po2=>
     rintro c B ⟨d,⟨r,F,rfl,m⟩ |⟨G,q,p,S,z,t,rfl,N,V⟩⟩
     ·exact fm ⟨r,_,rfl,d,m⟩
     ·dsimp only;exact fj (fY (fm ⟨_,_,_,_,rfl,⟨d.kd,d.ar,d.pe,d.fl⟩,N,by lia⟩))
end
noncomputable def a3q:Array Keyed->Array Keyed->SM (Array Keyed):=sortPriv% PySem.Builtin.mergeHi
abbrev hnA(a b o:Array Keyed)(u v:Nat):Array Keyed:=a.extract 0 u++b.extract 0 v++o.reverse
abbrev hnB(a b o:Array Keyed)(u v:Nat):Array Keyed:=b.extract 0 v++a.extract 0 u++o.reverse
abbrev H1:=Option (Array Keyed)×Nat×Nat×Array Keyed×Nat×Nat
abbrev H2:=Option (Array Keyed)×Nat×Nat×Array Keyed×Nat×Nat×Nat
noncomputable def hi1(a b:Array Keyed)(g u v:Nat)(o:Array Keyed)(ac bc:Nat):SM (ForInStep H1):=do
 let y <- elem' b (v-1)
 let x <- elem' a (u-1)
 let r <- lt' y x
 match r with
 |some aw=>
  if aw=true then do
   let x <- elem' a (u-1)
   if (u-1==0)=true then pure (.done (some (hnA a b (o.push x) (u-1) v),u-1,v,o.push x,ac+1,0))
   else if ac+1>=g then pure (.done (none,u-1,v,o.push x,ac+1,0)) else pure (.yield (none,u-1,v,o.push x,ac+1,0))
  else do
   let y <- elem' b (v-1)
   if (v-1==1)=true then pure (.done (some (hnB a b (o.push y) u (v-1)),u,v-1,o.push y,0,bc+1))
   else if bc+1>=g then pure (.done (none,u,v-1,o.push y,0,bc+1)) else pure (.yield (none,u,v-1,o.push y,0,bc+1))
 |_=>pure (.done (some (hnA a b o u v),u,v,o,ac,bc))
noncomputable def hi5(a b:Array Keyed)(u v:Nat)(o:Array Keyed)(g ac bc:Nat):SM (ForInStep H2):=do
 let x <- elem' a (u-1)
 if (u-1==0)=true then pure (.done (some (hnA a b (o.push x) (u-1) v),u-1,v,o.push x,g,ac,bc))
 else if (decide (ac<7)&&decide (bc<7))=true then pure (.done (none,u-1,v,o.push x,g,ac,bc)) else pure (.yield (none,u-1,v,o.push x,g,ac,bc))
noncomputable def hi4(a b:Array Keyed)(u v:Nat)(o:Array Keyed)(g ac bc:Nat):SM (ForInStep H2):=do
 let y <- elem' b (v-1)
 if (v-1==1)=true then pure (.done (some (hnB a b (o.push y) u (v-1)),u,v-1,o.push y,g,ac,bc))
 else do
  let x <- elem' a (u-1)
  let r <- a1h true x b 0 (v-1) (v-1-1)
  match r with
  |some p=>
   if v-1-p > 0 then
    if (p==1)=true then pure (.done (some (hnB a b (o.push y++(b.extract p (v-1)).reverse) u p),u,p,o.push y++(b.extract p (v-1)).reverse,g,ac,v-1-p))
    else if (p==0)=true then pure (.done (some (hnA a b (o.push y++(b.extract p (v-1)).reverse) u p),u,p,o.push y++(b.extract p (v-1)).reverse,g,ac,v-1-p))
    else hi5 a b u p (o.push y++(b.extract p (v-1)).reverse) g ac (v-1-p)
   else hi5 a b u (v-1) (o.push y) g ac (v-1-p)
  |_=>pure (.done (some (hnA a b (o.push y) u (v-1)),u,v-1,o.push y,g,ac,bc))
noncomputable def hi3(a b:Array Keyed)(u v:Nat)(o:Array Keyed)(g ac bc:Nat):SM (ForInStep H2):=do
 a7g g
 let y <- elem' b (v-1)
 let r <- a1h false y a 0 u (u-1)
 match r with
 |some p=>
  if u-p > 0 then
   if (p==0)=true then pure (.done (some (hnA a b (o++(a.extract p u).reverse) p v),p,v,o++(a.extract p u).reverse,g,u-p,bc))
   else hi4 a b p v (o++(a.extract p u).reverse) g (u-p) bc
  else hi4 a b u v o g (u-p) bc
 |_=>pure (.done (some (hnA a b o u v),u,v,o,g,ac,bc))
noncomputable def hi2(a b:Array Keyed)(u v:Nat)(o:Array Keyed)(g ac bc:Nat):SM (ForInStep H2):=
 if g > 1 then hi3 a b u v o (g-1) ac bc else hi3 a b u v o g ac bc
def a3W(a b:Array Keyed):a3q a b=(do
  liftM (rule "list.sort.merge-hi")
  let x <- elem' a (a.size-1)
  if (a.size-1==0)=true then pure (hnA a b #[x] (a.size-1) b.size)
  else if (b.size==1)=true then pure (hnB a b #[x] (a.size-1) b.size)
  else do
   let st <- get
   let c <- forIn [0:a.size+b.size] ((none,a.size-1,b.size,#[x],gallopOf st):Option (Array Keyed)×Nat×Nat×Array Keyed×Nat) λ_ c=>do
    let c1 <- forIn [0:a.size+b.size] ((none,c.2.1,c.2.2.1,c.2.2.2.1,0,0):H1) λ_ c1=>hi1 a b c.2.2.2.2 c1.2.1 c1.2.2.1 c1.2.2.2.1 c1.2.2.2.2.1 c1.2.2.2.2.2
    match c1.1 with
    |some r=>pure (ForInStep.done (some r,c1.2.1,c1.2.2.1,c1.2.2.2.1,c.2.2.2.2))
    |none=>do
     liftM (rule "list.sort.gallop")
     let c2 <- forIn [0:a.size+b.size] ((none,c1.2.1,c1.2.2.1,c1.2.2.2.1,c.2.2.2.2+1,c1.2.2.2.2.1,c1.2.2.2.2.2):H2) λ_ c2=>hi2 a b c2.2.1 c2.2.2.1 c2.2.2.2.1 c2.2.2.2.2.1 c2.2.2.2.2.2.1 c2.2.2.2.2.2.2
     match c2.1 with
     |some r=>pure (ForInStep.done (some r,c2.2.1,c2.2.2.1,c2.2.2.2.1,c2.2.2.2.2.1))
     |none=>do
      a7g (c2.2.2.2.2.1+1)
      pure (ForInStep.yield (none,c2.2.1,c2.2.2.1,c2.2.2.2.1,c2.2.2.2.2.1+1))
   match c.1 with
   |some r=>pure r
   |none=>gx "internal:list.sort.merge-bound"):=by
 kernel_rfl
section
variable{κ:KF}{A B o:List Keyed}{u v:Nat}{p:Keyed}
structure MH (κ:KF) (A B o:List Keyed) (u v:Nat):Prop where
 ia:u<=A.length
 jb:v<=B.length
 pm:(A.take u++B.take v++o.reverse).Perm (A++B)
 so:Srt κ o.reverse
 ba:∀x∈o,∀y∈A.take u,κ y<=κ x
 bb:∀x∈o,∀y∈B.take v,κ y<=κ x
def a4v{l:List Keyed}(h:l[n]?=some p):l.take (n+1)=l.take n++[p]:=by
 rw[bJ,h];rfl
def a05(h:Srt κ l)(n:Nat):Srt κ (l.take n):=bG.sublist (dg n l) h
def a1o(h:Srt κ l)(e:l[n]?=some p):∀y∈l.take (n+1),κ y<=κ p:=λy a=>by
 have b:=a05 h (n+1);rw[a4v e]at b a;rcases ah.mp a with a |a
 ·exact (aM.mp b).2.2 y a p (by simp)
 ·simp_all
def MH.pushA(W:MH κ A B o (u+1) v)(sa:Srt κ A)(hp:A[u]?=some p)(hb:∀y∈B.take v,κ y<=κ p):MH κ A B (o++[p]) u v:=by
 have c:=a4v hp;have d:=(aj.mp hp).1;refine⟨by lia,W.jb,?_,?_,λx b y a=>?_,λx b y a=>?_⟩
 ·have:=W.pm
  rw[c]at this;refine aH.trans ?_ this;rw[ci,cj];simp;exact aH.append_left _ d8
 ·rw[ci,cj,d9];refine av.mpr ⟨λx b=>?_,W.so⟩;exact W.ba x (by simpa using b) p (by rw[c];simp)
 ·rcases ah.mp b with h |h
  ·exact W.ba x h y (by simp_all)
  ·rw[ai.mp h];exact a1o sa hp y (by simp_all)
 ·rcases ah.mp b with h |h
  ·exact W.bb x h y a
  ·simp_all
def MH.pushB(W:MH κ A B o u (v+1))(sb:Srt κ B)(hp:B[v]?=some p)(hb:∀y∈A.take u,κ y<=κ p):MH κ A B (o++[p]) u v:=by
 have c:=a4v hp;have d:=(aj.mp hp).1;refine⟨W.ia,by omega,?_,?_,λx b y a=>?_,λx b y a=>?_⟩
 ·have:=W.pm
  rw[c]at this;refine aH.trans ?_ this;rw[ci,cj];simp only[aN];exact aH.refl _
 ·rw[ci,cj,d9];refine av.mpr ⟨λx b=>?_,W.so⟩;exact W.bb x (by simp_all) p (by simp_all)
 ·rcases ah.mp b with h |h
  ·exact W.ba x h y a
  ·rw[ai.mp h];exact hb y a
 ·rcases ah.mp b with h |h
  ·exact W.bb x h y (by simp_all)
  ·rw[ai.mp h];exact a1o sb hp y (by simp_all)
def MH.runA(sa:Srt κ A):∀(k:Nat){o:List Keyed},MH κ A B o (u+k) v->(∀q z,u<=q->q<u+k->A[q]?=some z->∀y∈B.take v,κ y<=κ z)->MH κ A B (o++((A.drop u).take k).reverse) u v:=by intro z0;induction z0 with
 |zero=>intro o W _;simpa using W
 |succ k I0=>
  intro o W hz;have a:u+k<A.length:=by have:=W.ia;lia
  have e:=ak a;rw[take_snoc e,ci,cj,<- aN];exact (I0 (MH.pushA W sa e (hz _ _ (by simp) (by simp) e)) λq z c f=>hz q z c (by lia))
def MH.runB(sb:Srt κ B):∀(k:Nat){o:List Keyed},MH κ A B o u (v+k)->(∀q z,v<=q->q<v+k->B[q]?=some z->∀y∈A.take u,κ y<=κ z)->MH κ A B (o++((B.drop v).take k).reverse) u v:=by intro z0;induction z0 with
 |zero=>intro o W _;simpa using W
 |succ k I0=>
  intro o W hz;have a:v+k<B.length:=by have:=W.jb;lia
  have e:=ak a;rw[take_snoc e,ci,cj,<- aN];exact (I0 (MH.pushB W sb e (hz _ _ (by simp) (by simp) e)) λq z c f=>hz q z c (by lia))
def MH.doneA(W:MH κ A B o u v)(sa:Srt κ A)(sb:Srt κ B)(h:u=0\/v=0):Mgd κ A B (A.take u++B.take v++o.reverse):=by
 refine⟨W.pm,?_⟩;refine aM.mpr ⟨aM.mpr ⟨a05 sa u,a05 sb v,λx b y c=>?_⟩,W.so,λx b y c=>?_⟩
 ·rcases h with rfl |rfl
  ·simp_all
  ·simp_all
 ·have a:y∈o:=by simpa using c
  rcases ah.mp b with h |h
  ·exact W.ba y a x h
  ·exact W.bb y a x h
def MH.doneB(W:MH κ A B o u 1)(sa:Srt κ A)(sb:Srt κ B)(hf:∀z,B[0]?=some z->∀y∈A,κ z<=κ y):Mgd κ A B (B.take 1++A.take u++o.reverse):=by
 refine⟨?_,?_⟩
 ·refine aH.trans ?_ W.pm;exact aH.append_right _ dw
 ·refine aM.mpr ⟨aM.mpr ⟨a05 sb 1,a05 sa u,λx a y c=>?_⟩,W.so,λx a y c=>?_⟩
  ·cases B with
   |nil=>simp at a
   |cons z B=>
    have:x=z:=by simpa using a
    subst this;exact hf x rfl y (aY c)
  ·have b:y∈o:=by simpa using c
   rcases ah.mp a with h |h
   ·exact W.bb y b x h
   ·exact W.ba y b x h
end
section
variable{κ:KF}{a b o:Array Keyed}{u v:Nat}
def a1H:(hnA a b o u v).toList=a.toList.take u++b.toList.take v++o.toList.reverse:=by
 simp
def a2j:(hnB a b o u v).toList=b.toList.take v++a.toList.take u++o.toList.reverse:=by
 simp
def a48:(o++(a.extract p u).reverse).toList=o.toList++((a.toList.drop p).take (u-p)).reverse:=by
 simp[cP]
end
structure RdH (κ:KF) (a b o:Array Keyed) (u v:Nat):Prop where
 w:MH κ a.toList b.toList o.toList u v
 hu:1<=u
 hv:2<=v
section
variable{M:Model}{A:Around}{E:Value->Shared->Prop}{s:Shared}{κ:KF}{k0:fX}{a₀ a b o:Array Keyed}{st:SortSt}{u v g ac bc:Nat}
def RdH.ua(R:RdH κ a b o u v):u<=a.size:=by have:=R.w.ia;rwa [a0N]at this
def RdH.vb(R:RdH κ a b o u v):v<=b.size:=by have:=R.w.jb;rwa [a0N]at this
def MC.first(C:MC M A E s κ k0 a₀ a b):∀z,b.toList[0]?=some z->∀y∈a.toList,κ z<=κ y:=λz c y d=>by
 have:=C.hf y d
 rwa [a2z c]at this
def b5Z(C:MC M A E s κ k0 a₀ a b)(hk:kindOf st=k0)(R:RdH κ a b o (u+1) (v+1))
  (dn:∀r c,Mgd κ a.toList b.toList r.toList->Q (.done (some r,c)) st)
  (br:∀o' u' v' x y,RdH κ a b o' u' v'->u'+v'=u+v+1->Q (.done (none,u',v',o',x,y)) st)
  (go:∀o' u' v' x y,RdH κ a b o' u' v'->u'+v'=u+v+1->Q (.yield (none,u',v',o',x,y)) st):wpS M A E s (hi1 a b g (u+1) (v+1) o ac bc) Q st:=by
 have q:=R.ua;have t:=R.vb;have p:=R.hv;have l:b[v]?=some b[v]:=getElem?_pos ..;have n:a[u]?=some a[u]:=getElem?_pos ..;have j:=a0F (a:=b) (i:=v) (by lia);have k:=a0F (a:=a) (i:=u) (by lia);unfold hi1;simp only[dz];refine fj (a0A l (fj (a0A n (fj (C.L _ _ (C.hb _ (aD j)) (C.ha _ (aD k)) st _ hk ?_)))));dsimp only
 by_cases c:κ b[v]<κ a[u]
 ·rw[if_pos (decide_eq_true c)];refine fj (a0A n ?_);have d:=R.w.pushA C.sa k λy h=>aS (a1o C.sb j y h) (bj c);rw[<- aU]at d
  by_cases e:u=0
  ·rw[if_pos (by simpa using e)];exact fm (dn _ _ (a1H▸d.doneA C.sa C.sb (.inl e)))
  ·rw[if_neg (by simpa using e)];have f:RdH κ a b (o.push a[u]) u (v+1):=⟨d,by lia,p⟩
   split
   ·exact fm (br _ _ _ _ _ f (by lia))
   ·exact fm (go _ _ _ _ _ f (by lia))
 ·rw[if_neg (by simpa using c)];refine fj (a0A l ?_);have d:=R.w.pushB C.sb j λy h=>aS (a1o C.sa k y h) (cQ.mp c);rw[<- aU]at d
  by_cases e:v=1
  ·rw[if_pos (by simpa using e)];subst e;exact fm (dn _ _ (a2j▸d.doneB C.sa C.sb C.first))
  ·rw[if_neg (by simpa using e)];have f:RdH κ a b (o.push b[v]) (u+1) v:=⟨d,R.hu,by lia⟩
   split
   ·exact fm (br _ _ _ _ _ f (by lia))
   ·exact fm (go _ _ _ _ _ f (by lia))
structure HG (st:SortSt) (κ:KF) (a b:Array Keyed) (n:Nat) (Q:ForInStep H2->SortSt->Prop):Prop where
 dn:∀r c st',SG st st'->Mgd κ a.toList b.toList r.toList->Q (.done (some r,c)) st'
 br:∀o' u' v' x y z st',SG st st'->RdH κ a b o' u' v'->u'+v'<n->Q (.done (none,u',v',o',x,y,z)) st'
 go:∀o' u' v' x y z st',SG st st'->RdH κ a b o' u' v'->u'+v'<n->Q (.yield (none,u',v',o',x,y,z)) st'
def b3H(C:MC M A E s κ k0 a₀ a b)(R:RdH κ a b o (u+1) v)(hle:∀y∈b.toList.take v,κ y<=Kk κ a u)(H:HG st κ a b n Q)(hn:u+v<n):wpS M A E s (hi5 a b (u+1) v o g ac bc) Q st:=by
 have k:=R.ua;have j:a[u]?=some a[u]:=getElem?_pos ..;rw[a0G (show u<a.size by lia)]at hle;unfold hi5;simp only[dz];refine fj (a0A j ?_);have c:=R.w.pushA C.sa (a0F (a:=a) (i:=u) (by lia)) hle;rw[<- aU]at c
 by_cases e:u=0
 ·rw[if_pos (by simpa using e)];exact fm (H.dn _ _ _ (SG.refl _) (a1H▸c.doneA C.sa C.sb (.inl e)))
 ·rw[if_neg (by simpa using e)];have d:RdH κ a b _ u v:=⟨c,by lia,R.hv⟩
  split
  ·exact fm (H.br _ _ _ _ _ _ _ (SG.refl _) d (by lia))
  ·exact fm (H.go _ _ _ _ _ _ _ (SG.refl _) d (by lia))
def a1y{l:List Keyed}(h:y∈l.take n):∃q,q<n/\l[q]?=some y:=by
 obtain⟨m,a⟩:=bn h;have b:=(aj.mp a).1;rw[cR]at a
 split at a
 ·exact⟨m,by omega,a⟩
 ·grind
def b3I(C:MC M A E s κ k0 a₀ a b)(hk:kindOf st=k0)(R:RdH κ a b o (u+1) (v+1))(hle:∀y∈a.toList.take (u+1),κ y<=Kk κ b v)(H:HG st κ a b n Q)(hn:u+v<n):wpS M A E s (hi4 a b (u+1) (v+1) o g ac bc) Q st:=by
 have I:=R.ua;have G:=R.vb;have F:=R.hv;have B:b[v]?=some b[v]:=getElem?_pos ..;have t:a[u]?=some a[u]:=getElem?_pos ..;have r:=a0F (a:=a) (i:=u) (by lia);rw[a0G (show v<b.size by lia)]at hle;unfold hi4;simp only[dz];refine fj (a0A B ?_);have d:=R.w.pushB C.sb (a0F (a:=b) (i:=v) (by lia)) hle;rw[<- aU]at d
 by_cases e:v=1
 ·rw[if_pos (by simpa using e)];subst e;exact fm (H.dn _ _ _ (SG.refl _) (a2j▸d.doneB C.sa C.sb C.first))
 ·rw[if_neg (by simpa using e)];refine fj (a0A t (fj (a1n C.L hk (C.ha _ (aD r)) C.hb (by lia) (by lia) (a1G C.sb (by lia)) λp D j h=>?_)));dsimp only;simp only[bM]at j h;have c:∀y∈b.toList.take p,κ y<=Kk κ a u:=λy k=>by
   obtain⟨q,m,l⟩:=a1y k
   have:=j q m
   rw[a2z l]at this;simp[bq]at this;rw[a0G (show u<a.size by lia)]
   lia
  split
  ·have f:=MH.runB C.sb (v-p) (by rw[show p+(v-p)=v by lia];exact d) λq z m J l y k=>by
    have:=h q m (by lia)
    rw[a2z l]at this;simp[bq]at this;exact aS (a1o C.sa r y k) this
   rw[<- a48]at f
   by_cases e1:p=1
   ·rw[if_pos (by simpa using e1)];subst e1;exact fm (H.dn _ _ _ (SG.refl _) (a2j▸f.doneB C.sa C.sb C.first))
   ·rw[if_neg (by simpa using e1)]
    by_cases e2:p=0
    ·rw[if_pos (by simpa using e2)];exact fm (H.dn _ _ _ (SG.refl _) (a1H▸f.doneA C.sa C.sb (.inr e2)))
    ·rw[if_neg (by simpa using e2)];exact b3H C ⟨f,by lia,by lia⟩ c H (by lia)
  ·have:p=v:=by lia
   subst this;exact b3H C ⟨d,by lia,by lia⟩ c H (by lia)
def b50(C:MC M A E s κ k0 a₀ a b)(hk:kindOf st=k0)(R:RdH κ a b o (u+1) (v+1))(H:HG st κ a b n Q)(hn:u+v<n):wpS M A E s (hi3 a b (u+1) (v+1) o g ac bc) Q st:=by
 have S:=R.ua;have N:=R.vb;have I:b[v]?=some b[v]:=getElem?_pos ..;have D:=a0F (a:=b) (i:=v) (by lia);unfold hi3;rw[a3o];refine fj (fY ?_);have h:SG st (SortSt.mk' _ _ _ g _):=⟨rfl,rfl,rfl,rfl⟩;have e:kindOf (SortSt.mk' _ (arrOf st) (fw st) g (fM st))=k0:=hk;generalize SortSt.mk' _ (arrOf st) (fw st) g (fM st)=st1 at h e;have l:HG st1 κ a b n Q:=⟨λr c d g=>H.dn r c d (h.trans g),λ_ _ _ _ _ _ d g=>H.br _ _ _ _ _ _ d (h.trans g),λ_ _ _ _ _ _ d g=>H.go _ _ _ _ _ _ d (h.trans g)⟩;refine fj (a0A I (fj (a1n C.L e (C.hb _ (aD D)) C.ha (by lia) (by lia) (a1G C.sa (by lia)) λp J k j=>?_)));dsimp only;simp at k j;have f:∀y∈a.toList.take p,κ y<=Kk κ b v:=λy m=>by
  obtain⟨q,B,x⟩:=a1y m
  have:=k q B
  rw[a2z x]at this;simp[bq]at this;rw[a0G _];omega
 split
 ·have t:=MH.runA C.sa _ (show p+(u+1-p)=u+1 by lia▸R.w) λq z B T x y m=>by
   have:=j q B (by lia)
   rw[a2z x]at this;simp[bq]at this;exact aS (a1o C.sb D y m) (bj this)
  rw[<- a48]at t
  by_cases e1:p=0
  ·rw[if_pos (by simpa using e1)];exact fm (l.dn _ _ _ (SG.refl _) (a1H▸t.doneA C.sa C.sb (.inl e1)))
  ·rw[if_neg (by simpa using e1)];obtain⟨G,rfl⟩:∃G,p=G+1:=⟨p-1,by lia⟩;exact b3I C e ⟨t,by lia,R.hv⟩ f l (by lia)
 ·have:p=u+1:=by lia
  subst this;exact b3I C e R f l (by lia)
def b51(C:MC M A E s κ k0 a₀ a b)(hk:kindOf st=k0)(R:RdH κ a b o (u+1) (v+1))(H:HG st κ a b n Q)(hn:u+v<n):wpS M A E s (hi2 a b (u+1) (v+1) o g ac bc) Q st:=by
 unfold hi2
 split<;>exact b50 C hk R H hn
def a8S(C:MC M A E s κ k0 a₀ a b):MH κ a.toList b.toList [a[a.size-1]'(by have:=C.h0;omega)] (a.size-1) b.size:=by
 have f:=C.h0;have d:MH κ a.toList b.toList [] (a.size-1+1) b.size:=⟨by rw[a0N];lia,by rw[a0N];lia,by rw[bC (by rw[a0N];lia),bC (by rw[a0N];lia)];simp,.nil,λx h=>by simp at h,λx h=>by simp at h⟩;exact d.pushA C.sa (a0F (a:=a) (i:=a.size-1) (by lia)) λy e=>C.hl _ (by simp) y (aY e)
def a7i(C:MC M A E s κ k0 a₀ a b)(hk:kindOf st=k0)
  (h:∀r st',SG st st'->Mgd κ a.toList b.toList r.toList->Q r st'):wpS M A E s (a3q a b) Q st:=by
 have h0:=C.h0;have h1:=C.h1;rw[a3W];refine a2Z (fj (a0A (getElem?_pos a (a.size-1) (by lia)) ?_));have V:=a8S C
 by_cases e1:a.size-1=0
 ·rw[if_pos (by simpa using e1)];exact fm (h _ _ (SG.refl _) (a1H▸V.doneA C.sa C.sb (.inl e1)))
 rw[if_neg (by simpa using e1)]
 by_cases e2:b.size=1
 ·rw[if_pos (by simpa using e2)];refine fm (h _ _ (SG.refl _) ?_);rw[e2]at V;rw[a2j,e2];exact V.doneB C.sa C.sb C.first
 rw[if_neg (by simpa using e2)];refine fj (fZ ?_);have R0:RdH κ a b #[a[a.size-1]] (a.size-1) b.size:=⟨V,by lia,by lia⟩;refine fj (fN (fL (I:=λx c e=>∃o u v g,c=(none,u,v,o,g)/\SG st e/\RdH κ a b o u v/\x+(u+v)<a.size+b.size)
  (Q:=λc e=>∃r G,c=(some r,G)/\SG st e/\Mgd κ a.toList b.toList r.toList) ?step ?fin ⟨_,_,_,_,rfl,SG.refl _,R0,by lia⟩) ?post)
 case post=>
  rintro c e ⟨r,G,rfl,L,m⟩;exact fm (h r e L m)
 case fin=>
  rintro c e ⟨o,u,v,g,rfl,L,R,hx⟩
  lia
 case step=>
  rintro x c e _ hx ⟨o,u,v,g,rfl,L,R,hxi⟩;dsimp only;have hk1:kindOf e=k0:=L.kd.trans hk;refine fj (fN (fL (I:=λy c l=>∃D f i S J,c=(none,f,i,D,S,J)/\l=e/\RdH κ a b D f i/\f+i+y<=u+v)
   (Q:=λc l=>l=e/\((∃r G,c=(some r,G)/\Mgd κ a.toList b.toList r.toList)\/∃D f i S J,c=(none,f,i,D,S,J)/\RdH κ a b D f i/\f+i<=u+v)) ?st1 ?fi1 ⟨_,_,_,_,_,rfl,rfl,R,by lia⟩) ?po1)
  case fi1=>
   rintro c l ⟨D,f,i,S,J,rfl,rfl,H,Y⟩;exact⟨rfl,.inr ⟨_,_,_,_,_,rfl,H,by lia⟩⟩
  case st1=>
   rintro y c l _ Y ⟨D,f,i,S,J,rfl,rfl,H,hyi⟩;dsimp only;have hu1:=H.hu;have hv1:=H.hv;obtain⟨f,rfl⟩:∃z,f=z+1:=⟨f-1,by lia⟩;obtain⟨i,rfl⟩:∃z,i=z+1:=⟨i-1,by lia⟩;refine b5Z C hk1 H (λr c m=>⟨rfl,.inl ⟨r,c,rfl,m⟩⟩) (λo2 i2 j2 u v R2 U=>⟨rfl,.inr ⟨_,_,_,_,_,rfl,R2,by lia⟩⟩) λo2 i2 j2 u v R2 U=>⟨_,_,_,_,_,rfl,rfl,R2,by lia⟩
  case po1=>
   rintro c l ⟨rfl,⟨r,G,rfl,m⟩ |⟨D,f,i,S,J,rfl,H,hij⟩⟩
   ·exact fm ⟨r,_,rfl,L,m⟩
   ·dsimp only;refine a2Z ?_;refine fj (fN (fL (I:=λy c p=>∃B k j N q t,c=(none,k,j,B,N,q,t)/\SG st p/\RdH κ a b B k j/\k+j+y<=f+i)
     (Q:=λc p=>SG st p/\((∃r G,c=(some r,G)/\Mgd κ a.toList b.toList r.toList)\/∃B k j N q t,c=(none,k,j,B,N,q,t)/\RdH κ a b B k j/\k+j<f+i)) ?l ?fi2 ⟨_,_,_,_,_,_,rfl,L,H,by lia⟩) ?po2)
    case fi2=>
     rintro c p ⟨B,k,j,N,q,t,rfl,d,F,Y⟩;exact⟨d,.inr ⟨_,_,_,_,_,_,rfl,F,by have:=F.hu;lia⟩⟩
    case l=>
     rintro y c p _ Y ⟨B,k,j,N,q,t,rfl,d,F,hyi⟩;dsimp only;have hu1:=F.hu;have hv1:=F.hv;obtain⟨k,rfl⟩:∃z,k=z+1:=⟨k-1,by lia⟩;obtain⟨j,rfl⟩:∃z,j=z+1:=⟨j-1,by lia⟩;refine b51 (n:=k+1+(j+1)) C (d.kd.trans hk) F ⟨λr c W T m=>⟨d.trans T,.inl ⟨r,c,rfl,m⟩⟩,λo4 i4 j4 u v w W T X U=>⟨d.trans T,.inr ⟨_,_,_,_,_,_,rfl,X,by lia⟩⟩,λo4 i4 j4 u v w W T X U=>⟨_,_,_,_,_,_,rfl,d.trans T,X,by lia⟩⟩ (by lia)
    case po2=>
     rintro c p ⟨d,⟨r,G,rfl,m⟩ |⟨B,k,j,N,q,t,rfl,F,U⟩⟩
     ·exact fm ⟨r,_,rfl,d,m⟩
     ·dsimp only;rw[a3o];exact fj (fY (fm ⟨_,_,_,_,rfl,⟨d.kd,d.ar,d.pe,d.fl⟩,F,by lia⟩))
end
def SR(κ:KF)(xs:Array Keyed)(lo n:Nat):Prop:=∀i j,i<=j->j<n->Kk κ xs (lo+i)<=Kk κ xs (lo+j)
def NR(κ:KF)(xs:Array Keyed)(lo n:Nat):Prop:=∀i j,i<=j->j<n->Kk κ xs (lo+j)<=Kk κ xs (lo+i)
structure Ar (st st':SortSt) (lo:Nat):Prop where
 pm:(arrOf st').Perm (arrOf st)
 pre:∀i,i<lo->(arrOf st')[i]?=(arrOf st)[i]?
 kd:kindOf st'=kindOf st
 pe:fw st'=fw st
 fl:fM st'=fM st
section
variable{M:Model}{A:Around}{E:Value->Shared->Prop}{s:Shared}{κ:KF}{k0:fX}{a₀:Array Keyed}{st st':SortSt}{lo:Nat}
def Ar.refl(st:SortSt)(lo:Nat):Ar st st lo:=⟨cy.refl _,λ_ _=>rfl,rfl,rfl,rfl⟩
def Ar.trans(p:Ar x y lo)(q:Ar y z lo):Ar x z lo:=⟨q.pm.trans p.pm,λi h=>(q.pre i h).trans (p.pre i h),q.kd.trans p.kd,q.pe.trans p.pe,q.fl.trans p.fl⟩
def Ar.tb(q:Ar st st' lo)(B:TB k0 a₀ st):TB k0 a₀ st':=⟨q.pm.trans B.pm,q.kd.trans B.kd,q.fl.trans B.fl⟩
def a9Y(hs:src<xs.size)(hd:d<=src)(k:Nat) :
  Kk κ (bubble xs src d) k=if k=src-d then Kk κ xs src else if src-d<k/\k<=src then Kk κ xs (k-1) else Kk κ xs k:=by
 have q:=getElem?_bubble hs d hd k
 by_cases h1:k=src-d
 ·rw[if_pos h1]at q ⊢;exact a2y q
 ·rw[if_neg h1]at q ⊢
  by_cases h2:src-d<k/\k<=src
  ·rw[if_pos h2]at q ⊢;exact a2y q
  ·rw[if_neg h2]at q ⊢;exact a2y q
def Ar.bub(hs:src<(arrOf st).size)(hd:d<=src)(h:lo<=src-d):Ar st (setArr st (bubble (arrOf st) src d)) lo:=
 ⟨bubble_perm _ _ _,λi a=>by
  rw[getElem?_bubble hs d hd,if_neg (by lia),if_neg (by lia)],rfl,rfl,rfl⟩
def a7j(hj:j<=xs.size)(k:Nat):Kk κ (mirror xs i j ((j-i) / 2)) k=if i<=k/\k<j then Kk κ xs (i+j-1-k) else Kk κ xs k:=by
 have q:=getElem?_mirror_all (i:=i) hj k
 by_cases h1:i<=k/\k<j
 ·rw[if_pos h1]at q ⊢;exact a2y q
 ·rw[if_neg h1]at q ⊢;exact a2y q
def a2A(hj:j<=xs.size)(hq:∀k,i<=k->k<j->Kk κ xs k=Kk κ xs (j-1))(k:Nat):Kk κ (mirror xs i j ((j-i) / 2)) k=Kk κ xs k:=by
 rw[a7j hj]
 split
 ·grind
 ·rfl
def Ar.mir(hj:j<=(arrOf st).size)(h:lo<=i):Ar st (setArr st (mirror (arrOf st) i j ((j-i) / 2))) lo:=
 ⟨mirror_perm _ _ _ _,λk a=>by
  rw[getElem?_mirror_all hj,if_neg (by lia)],rfl,rfl,rfl⟩
def a8T(L:LtOk M A E s κ k0 a₀)(B:TB k0 a₀ st)(hn:lo+n<=a₀.size)(hok:ok<=n)(hs:SR κ (arrOf st) lo ok)
  (h:∀st',Ar st st' lo->SR κ (arrOf st') lo n->Q true st'):wpS M A E s (binarySort' lo n ok) Q st:=by
 rw[binarySort'_eq];refine fj (fN (fL (I:=λk c z=>c=(none,())/\Ar st z lo/\SR κ (arrOf z) lo (min k n)) (Q:=λc z=>c=(none,())/\Ar st z lo/\SR κ (arrOf z) lo n) ?step ?fin ?init) ?post)
 case post=>
  rintro c z ⟨rfl,r1,r2⟩;exact fm (h z r1 r2)
 case init=>
  refine⟨rfl,Ar.refl _ _,λi j hij hj=>?_⟩
  by_cases h1:ok=0
  ·have:i=j:=by lia
   rw[this];exact bL _
  ·exact hs i j hij (by lia)
 case fin=>
  rintro c z ⟨hc,r1,r2⟩;refine⟨hc,r1,?_⟩
  rwa [show min (max (max ok 1) n) n=n by lia]at r2
 case step=>
  rintro k c z hak hkn ⟨rfl,r1,r2⟩;rw[show min k n=k by lia]at r2;have B1:=r1.tb B;refine fj (fN (fL (I:=λx c y=>y=z/\∃p q,c=(none,p,q)/\p<=q/\q<=k/\q-p<=k-x/\(∀i,i<p->Kk κ (arrOf z) (lo+i)<=Kk κ (arrOf z) (lo+k))/\(∀i,q<=i->i<k->Kk κ (arrOf z) (lo+k)<Kk κ (arrOf z) (lo+i)))
   (Q:=λc y=>y=z/\∃p q,c=(none,p,q)/\p<=k/\(∀i,i<p->Kk κ (arrOf z) (lo+i)<=Kk κ (arrOf z) (lo+k))/\(∀i,p<=i->i<k->Kk κ (arrOf z) (lo+k)<Kk κ (arrOf z) (lo+i))) ?istep ?ifin ?iinit) ?ipost)
  case iinit=>exact⟨rfl,0,k,rfl,by lia,by lia,by lia,λi hi=>by lia,λi h1 h2=>by lia⟩
  case ifin=>
   rintro c y ⟨rfl,p,q,rfl,u1,u2,u3,u4,u5⟩
   have:p=q:=by lia
   subst this;exact⟨rfl,p,p,rfl,u2,u4,u5⟩
  case istep=>
   rintro x c y _ hxk ⟨rfl,p,q,rfl,u1,u2,u3,u4,u5⟩;dsimp only
   by_cases hge:p>=q
   ·rw[if_pos hge]
    have:p=q:=by lia
    subst this;exact fm ⟨rfl,p,p,rfl,u2,u4,u5⟩
   ·rw[if_neg hge];refine fj (a3U L B1 (by lia) (by lia) ?_)
    by_cases hless:Kk κ (arrOf y) (lo+k)<Kk κ (arrOf y) (lo+(p+q) / 2)
    ·simp only[hless,decide_true,if_true];refine fm ⟨rfl,p,(p+q) / 2,rfl,by lia,by lia,by lia,u4,λi h1 h2=>?_⟩;exact Int.lt_of_lt_of_le hless (r2 _ _ h1 h2)
    ·simp only[hless,decide_false,bD,if_false];refine fm ⟨rfl,(p+q) / 2+1,q,rfl,by lia,by lia,by lia,λi h1=>?_,u5⟩;exact aS (r2 i ((p+q) / 2) (by lia) (by lia)) (cQ.mp hless)
  case ipost=>
   rintro c y ⟨rfl,p,q,rfl,u2,u4,u5⟩
   show wpS _ _ _ _ (do moveDown' (lo+k) (lo+p);pure (ForInStep.yield (none,()))) _ _
   rw[moveDown'_eq];have hks:lo+k<(arrOf y).size:=by rw[B1.sz];lia
   refine fj (fY (fm ⟨rfl,r1.trans (Ar.bub hks (by lia) (by lia)),?_⟩));rw[show min (k+1) n=k+1 by lia];intro i j hij hj
   show Kk κ (bubble (arrOf y) (lo+k) (lo+k-(lo+p))) (lo+i)<=Kk κ (bubble (arrOf y) (lo+k) (lo+k-(lo+p))) (lo+j)
   rw[a9Y hks (by lia),a9Y hks (by lia),show lo+k-(lo+k-(lo+p))=lo+p by lia];have ek:∀t,1<=t->lo+t-1=lo+(t-1):=λt ht=>by lia
   repeat' split
   all_goals first
    | (exfalso;lia)
    |exact bL _
    |exact u4 _ (by lia)
    | (rw[ek _ (by lia)];exact u4 _ (by lia))
    |exact bj (u5 _ (by lia) (by lia))
    | (rw[ek _ (by lia)];exact bj (u5 _ (by lia) (by lia)))
    |exact r2 _ _ (by lia) (by lia)
    | (rw[ek j (by lia)];exact r2 _ _ (by lia) (by lia))
    | (rw[ek i (by lia)];exact r2 _ _ (by lia) (by lia))
    | (rw[ek i (by lia),ek j (by lia)];exact r2 _ _ (by lia) (by lia))
end
abbrev U1:=Option (Option Nat)×Nat
abbrev U2:=Option (Option Nat)×Nat×Nat
noncomputable def rise(lo p nr:Nat):SM U1:=forIn [p:nr] ((none,p):U1) λ_ c=>do
 let x <- ltAt' (lo+c.2) (lo+c.2-1)
 match x with
 |some sm=>if sm=true then pure (.done (none,c.2)) else pure (.yield (none,c.2+1))
 |_=>pure (.done (some none,c.2))
noncomputable def fin3(lo n nr:Nat):SM (Option Nat):=do
 ip lo (lo+n)
 let c <- rise lo n nr
 match c.1 with
 |some r=>pure r
 |none=>pure (some c.2)
noncomputable def fall(lo n nr:Nat):SM U2:=forIn [n:nr] ((none,n,0):U2) λ_ c=>do
 let x <- ltAt' (lo+c.2.1) (lo+c.2.1-1)
 match x with
 |some sm=>
  if sm=true then
   if c.2.2 > 0 then do
    ip (lo+c.2.1-(c.2.2+1)) (lo+c.2.1)
    pure (.yield (none,c.2.1+1,0))
   else pure (.yield (none,c.2.1+1,0))
  else do
   let x <- ltAt' (lo+c.2.1-1) (lo+c.2.1)
   match x with
   |some lg=>if lg=true then pure (.done (none,c.2.1,c.2.2)) else pure (.yield (none,c.2.1+1,c.2.2+1))
   |_=>pure (.done (some none,c.2.1,c.2.2))
 |_=>pure (.done (some none,c.2.1,c.2.2))
noncomputable def part(lo n nr:Nat):SM (Option Nat):=do
 liftM (rule "list.sort.descending-run")
 let c <- fall lo (n+1) nr
 match c.1 with
 |some r=>pure r
 |none=>
  if c.2.2 > 0 then do
   ip (lo+c.2.1-(c.2.2+1)) (lo+c.2.1)
   fin3 lo c.2.1 nr
  else fin3 lo c.2.1 nr
def a3r(lo nr:Nat):countRun' lo nr=(do
  let c <- rise lo 1 nr
  match c.1 with
  |some r=>pure r
  |none=>
   if (c.2==nr)=true then pure (some c.2)
   else if c.2 > 1 then do
    let x <- ltAt' lo (lo+c.2-1)
    match x with
    |some up=>if up=true then pure (some c.2) else do
      ip lo (lo+c.2)
      part lo c.2 nr
    |_=>pure none
   else part lo c.2 nr):=by
 kernel_rfl
section
variable{M:Model}{A:Around}{E:Value->Shared->Prop}{s:Shared}{κ:KF}{k0:fX}{a₀:Array Keyed}{st:SortSt}{lo nr:Nat}
def a8U{α:Type}{f:Unit->SM α}{Q:α->SortSt->Prop}(h:wpS M A E s (f ()) Q (setArr st (mirror (arrOf st) i j ((j-i) / 2)))):wpS M A E s (ip i j >>= f) Q st:=fj (fY h)
def SR.one:SR κ xs lo 1:=by grind [SR]
def SR.snoc(h:SR κ xs lo n)(h1:1<=n)(c:Kk κ xs (lo+n-1)<=Kk κ xs (lo+n)):SR κ xs lo (n+1):=λi j a b=>by
 by_cases hjn:j<n
 ·exact h i j a hjn
 ·have e:j=n:=by lia
  subst e
  by_cases e2:i=j
  ·rw[e2];exact bL _
  ·refine aS (h i (j-1) (by lia) (by lia)) ?_;rw[show lo+(j-1)=lo+j-1 by lia];exact c
def NR.snoc(h:NR κ xs lo n)(h1:1<=n)(c:Kk κ xs (lo+n)<=Kk κ xs (lo+n-1)):NR κ xs lo (n+1):=λi j a b=>by
 by_cases hjn:j<n
 ·exact h i j a hjn
 ·have e:j=n:=by lia
  subst e
  by_cases e2:i=j
  ·simp_all
  ·refine aS ?_ (h i (j-1) (by lia) (by lia));rw[show lo+(j-1)=lo+j-1 by lia];exact c
def NR.congr(h:NR κ xs lo n)(e:∀k,Kk κ ys k=Kk κ xs k):NR κ ys lo n:=λi j b a=>by rw[e,e];exact h i j b a
def a9Z(L:LtOk M A E s κ k0 a₀)(B:TB k0 a₀ st)(hn:lo+nr<=a₀.size)(hp:1<=p)(hpn:p<=nr)(hs:SR κ (arrOf st) lo p)
  (h:∀n,p<=n->n<=nr->SR κ (arrOf st) lo n->(n=nr\/Kk κ (arrOf st) (lo+n)<Kk κ (arrOf st) (lo+n-1))->Q (none,n) st):wpS M A E s (rise lo p nr) Q st:=by
 refine fL (I:=λx c z=>z=st/\c=(none,x)/\SR κ _ lo x) ?step ?fin ⟨rfl,rfl,hs⟩
 case fin=>
  rintro c z ⟨rfl,rfl,a⟩;rw[show max p nr=nr by lia]at a ⊢;exact h nr hpn (af _) a (.inl rfl)
 case step=>
  rintro x c z b d ⟨rfl,rfl,a⟩;refine fj (a3U L B (by lia) (by lia) ?_)
  by_cases q:Kk κ (arrOf z) (lo+x)<Kk κ (arrOf z) (lo+x-1)
  ·simp only[q];exact fm (h x b (by lia) a (.inr q))
  ·simp only[q];exact fm ⟨rfl,rfl,a.snoc (by lia) (cQ.mp q)⟩
def a90(L:LtOk M A E s κ k0 a₀)(B:TB k0 a₀ st)(hn:lo+nr<=a₀.size)(h1:1<=n)(hnn:n<=nr)(hs:NR κ (arrOf st) lo n)
  (h:∀m z,Ar st z lo->1<=m->m<=nr->SR κ (arrOf z) lo m->Q (some m) z):wpS M A E s (fin3 lo n nr) Q st:=by
 have a:lo+n<=(arrOf st).size:=by rw[B.sz];lia
 refine a8U ?_;have b:Ar st _ lo:=Ar.mir a (af _);refine fj (a9Z L (b.tb B) hn h1 hnn ?_ λm g d c _=>fm (h m _ b (by lia) d c));intro i j e f;rw[a7j a,a7j a,if_pos (by lia),if_pos (by lia),show lo+_-1-_=lo+(n-1-i) by lia,show lo+_-1-_=lo+(n-1-j) by lia];exact hs _ _ (by lia) (by lia)
def b3J(L:LtOk M A E s κ k0 a₀)(B:TB k0 a₀ st)(hn:lo+nr<=a₀.size)(h1:1<=n)(hnn:n<=nr)(hs:NR κ (arrOf st) lo n)
  (h:∀m e z,Ar st z lo->n<=m->m<=nr->NR κ (arrOf z) lo m->e+1<=m->(∀i,lo+m-(e+1)<=i->i<lo+m->Kk κ (arrOf z) i=Kk κ (arrOf z) (lo+m-1))->Q (none,m,e) z):wpS M A E s (fall lo n nr) Q st:=by
 unfold fall;refine fL (I:=λx c z=>∃e,c=(none,x,e)/\Ar st z lo/\NR κ (arrOf z) lo x/\e+1<=x/\(∀i,lo+x-(e+1)<=i->i<lo+x->Kk κ (arrOf z) i=Kk κ (arrOf z) (lo+x-1))) ?step ?fin ⟨0,rfl,Ar.refl _ _,hs,by lia,λi l a=>by congr 1;lia⟩
 case fin=>
  rintro c z ⟨e,rfl,b,a,f,d⟩;rw[show max n nr=nr by lia]at a f d ⊢;exact h nr e z b hnn (af _) a f d
 case step=>
  rintro x c z p r ⟨e,rfl,b,a,f,d⟩;dsimp only;have k:=b.tb B;have j:lo+x<=(arrOf z).size:=by rw[k.sz];lia
  refine fj (a3U L k (by lia) (by lia) ?_)
  by_cases q:Kk κ (arrOf z) (lo+x)<Kk κ (arrOf z) (lo+x-1)
  ·simp only[q,decide_true,if_true];have o:=a.snoc (by lia) (bj q)
   by_cases g:e > 0
   ·rw[if_pos g];exact a8U (fm ⟨0,rfl,b.trans (Ar.mir j (by lia)),o.congr (a2A j d),by lia,λi l a=>by congr 1;lia⟩)
   ·rw[if_neg g];exact fm ⟨0,rfl,b,o,by lia,λi l a=>by congr 1;lia⟩
  ·simp only[q,decide_false,if_false];refine fj (a3U L k (by lia) (by lia) ?_)
   by_cases q2:Kk κ (arrOf z) (lo+x-1)<Kk κ (arrOf z) (lo+x)
   ·simp only[q2,decide_true,if_true];exact fm (h x e z b p (by lia) a f d)
   ·simp only[q2,decide_false,if_false];have g:Kk κ (arrOf z) (lo+x)=Kk κ (arrOf z) (lo+x-1):=by lia
    refine fm ⟨e+1,rfl,b,a.snoc (by lia) (by lia),by lia,λi l a=>?_⟩;rw[show lo+(x+1)-1=lo+x by lia]
    by_cases hix:i=lo+x
    ·rw[hix]
    ·grind
def a91(L:LtOk M A E s κ k0 a₀)(B:TB k0 a₀ st)(hn:lo+nr<=a₀.size)(hnn:n+1<=nr)(hs:NR κ (arrOf st) lo (n+1))
  (h:∀m z,Ar st z lo->1<=m->m<=nr->SR κ (arrOf z) lo m->Q (some m) z):wpS M A E s (part lo n nr) Q st:=by
 refine a2Z (fj (b3J L B hn (by simp) hnn hs λm e z c l i g o j=>?_));dsimp only;have f:=c.tb B;have a:lo+m<=(arrOf z).size:=by rw[f.sz];lia
 by_cases he:e > 0
 ·rw[if_pos he];have d:Ar st (setArr z (mirror (arrOf z) (lo+m-(e+1)) _ _)) lo:=c.trans (Ar.mir a (by lia));exact a8U (a90 L (d.tb B) hn (by lia) i (g.congr (a2A a j)) λk w b=>h k w (d.trans b))
 ·rw[if_neg he];exact a90 L f hn (by lia) i g λk w b=>h k w (c.trans b)
def b09(L:LtOk M A E s κ k0 a₀)(B:TB k0 a₀ st)(hn:lo+nr<=a₀.size)(h1:1<=nr)
  (h:∀m z,Ar st z lo->1<=m->m<=nr->SR κ (arrOf z) lo m->Q (some m) z):wpS M A E s (countRun' lo nr) Q st:=by
 rw[a3r];refine fj (a9Z L B hn (af 1) h1 SR.one λn e l b t=>?_);dsimp only
 by_cases hnn:n=nr
 ·rw[if_pos (by simpa using hnn)];exact fm (h n st (Ar.refl _ _) e l b)
 ·rw[if_neg (by simpa using hnn)];have d:=t.resolve_left hnn;have c:lo+n<=(arrOf st).size:=by rw[B.sz];lia
  by_cases hgt:n > 1
  ·rw[if_pos hgt];refine fj (a3U L B (by lia) (by lia) ?_)
   by_cases q:Kk κ (arrOf st) lo<Kk κ (arrOf st) (lo+n-1)
   ·simp only[q,decide_true,if_true];exact fm (h n st (Ar.refl _ _) e l b)
   ·simp only[q,if_false];have a:∀k,lo<=k->k<lo+n->Kk κ (arrOf st) k=Kk κ (arrOf st) (lo+n-1):=λk y x=>by
     have g:=b 0 (k-lo) (by lia) (by lia);have f:=b (k-lo) (n-1) (by lia) (by lia);rw[show lo+(k-lo)=k by lia]at g f;rw[show lo+(n-1)=lo+n-1 by lia]at f;rw[cS]at g
     lia
    have o:Ar st _ lo:=Ar.mir c (af _);have u:NR κ (arrOf st) lo (n+1):=by
     refine NR.snoc (λi j p r=>?_) (by lia) (bj d);rw[a (lo+i) (by lia) (by lia),a (lo+j) (by lia) (by lia)];exact bL _
    exact a8U (a91 L (o.tb B) hn (by lia) (u.congr (a2A c a)) λk w v=>h k w (o.trans v))
  ·rw[if_neg hgt]
   have:n=1:=by lia
   subst this;refine a91 L B hn (by lia) ?_ h;refine NR.snoc (λi j p r=>?_) (by lia) (bj d)
   have:i=j:=by lia
   rw[this];exact bL _
end
def a4w(i:Nat):jp i=(do
 let z <- get
 let (some (p,n,w),some (q,m,_)):=((fw z)[i]?,(fw z)[i+1]?) |gx "internal:list.sort.pending"
 set (iq z (((fw z).setIfInBounds i (p,n+m,w)).eraseIdxIfInBounds (i+1)))
 let some k <- a1h false (<- elem' (arrOf z) q) (arrOf z) p n 0 |return false
 let (p,n):=(p+k,n-k)
 if n==0 then return true
 let some m <- a1h true (<- elem' (arrOf z) (p+n-1)) (arrOf z) q m (m-1) |return false
 if m==0 then return true
 let x:=(arrOf z).extract p q
 let y:=(arrOf z).extract q (q+m)
 let mg <- if n<=m then a3p x y else a3q x y
 modify λz=>setArr z (mg.toList.zipIdx.foldl (λa (v,j)=>a.setIfInBounds (p+j) v) (arrOf z))
 return (fM (<- get)).isNone):=rfl
def a8V(bs:Nat):∀(l:List Keyed)(k:Nat)(xs:Array Keyed),bs+k+l.length<=xs.size ->
  ((l.zipIdx k).foldl (λa (pj:Keyed×Nat)=>a.setIfInBounds (bs+pj.2) pj.1) xs).toList=xs.toList.take (bs+k)++(l++xs.toList.drop (bs+k+l.length)):=by intro z0;induction z0 with
 |nil=>intro k xs _;simp
 |cons x l I0=>
  intro k xs h;rw[aE]at h;rw[eh,ei,I0 _ _ (by grind)];have e:(xs.setIfInBounds (bs+k) x).toList=xs.toList.set (bs+k) x:=by simp
  rw[e,show bs+_=bs+k+1 by lia,ej (by lia),aE,show bs+k+1+l.length=bs+k+(l.length+1) by lia]
  have:(xs.toList.set (bs+k) x).take (bs+k+1)=xs.toList.take (bs+k)++[x]:=by
   rw[bJ,eq (af _),cH (by grind)]
   rfl
  rw[this];simp
section
variable{M:Model}{A:Around}{E:Value->Shared->Prop}{s:Shared}{κ:KF}{k0:fX}{a₀:Array Keyed}{st:SortSt}
def b52(h:Q ⟨⟩ z):wpS M A E s (set z:SM PUnit) Q st:=fc ⟨rfl,h⟩
def a92(e:xs.toList=P++(X++R))(hi:i<X.length):Kk κ xs (P.length+i)=κ X[i]:=by
 refine a2z ?_;rw[e,bR (by simp),bS (by lia),show P.length+i-P.length=i by lia];exact ak hi
def a1I(h:Srt κ X)(hij:i<=j)(hj:j<X.length):κ (X[i]'(by omega))<=κ X[j]:=by
 by_cases e:i=j
 ·subst e;exact bL _
 ·exact bV.mp h i j (by lia) hj (by lia)
def a49{X:List Keyed}(h:x∈X):∃i,∃(hi:i<X.length),X[i]=x:=cz.mp h
def a3X{X:List Keyed}(h:x∈X.take k):∃i,∃(hi:i<X.length),i<k/\X[i]=x:=by
 obtain⟨q,a,d⟩:=a1y h;obtain⟨b,c⟩:=aj.mp d;exact⟨q,b,a,c⟩
def a5a{X:List Keyed}(h:x∈X.drop k):∃i,∃(hi:i<X.length),k<=i/\X[i]=x:=by
 obtain⟨q,b,e,d⟩:=a1x h;obtain⟨c,a⟩:=aj.mp d;exact⟨q,c,b,a⟩
def a7k(L:LtOk M A E s κ k0 a₀)(B:TB k0 a₀ st)(e1:(fw st)[i]?=some (sa,na,pw))(e2:(fw st)[i+1]?=some (sb,nb,pw2))
  (ea:(arrOf st).toList=P++(X++(Y++S))) (hP:P.length=sa) (hX:X.length=na) (hsb:sb=sa+na) (hY:Y.length=nb) (sX:Srt κ X) (sY:Srt κ Y) (h1:0<na) (h2:0<nb)
  (h:∀st' Z,TB k0 a₀ st'->(arrOf st').toList=P++(Z++S)->Z.length=na+nb->Srt κ Z->fw st'=((fw st).setIfInBounds i (sa,na+nb,pw)).eraseIdxIfInBounds (i+1)->Q true st'):wpS M A E s (jp i) Q st:=by
 have hsz:(arrOf st).size=sa+na+nb+S.length:=by
  rw[<- a0N,ea];simp;omega
 have hmem:∀p∈(arrOf st).toList,p∈a₀.toList:=λp hp=>(cw.mp B.pm).mem_iff.mp hp;have eb:(arrOf st).toList=(P++X)++(Y++S):=by rw[ea,aN]
 have kX:∀i,(hi:i<X.length)->Kk κ (arrOf st) (sa+i)=κ X[i]:=λi hi=>by rw[<- hP];exact a92 ea hi
 have kY:∀i,(hi:i<Y.length)->Kk κ (arrOf st) (sb+i)=κ Y[i]:=λi hi=>by
  rw[hsb,<- hP,<- hX,<- ay];exact a92 eb hi
 rw[a4w];refine fj (fZ ?_);rw[e1,e2];dsimp only;refine fj (b52 ?_);have B1:TB k0 a₀ (iq st (((fw st).setIfInBounds i (sa,na+nb,pw)).eraseIdxIfInBounds (i+1))):=⟨B.pm,B.kd,B.fl⟩;have hs1:arrOf (iq st (((fw st).setIfInBounds i (sa,na+nb,pw)).eraseIdxIfInBounds (i+1)))=arrOf st:=rfl;have hp1:fw (iq st (((fw st).setIfInBounds i (sa,na+nb,pw)).eraseIdxIfInBounds (i+1)))=((fw st).setIfInBounds i (sa,na+nb,pw)).eraseIdxIfInBounds (i+1):=rfl;generalize iq st (((fw st).setIfInBounds i (sa,na+nb,pw)).eraseIdxIfInBounds (i+1))=st1 at B1 hs1 hp1;have hy0:sb<(arrOf st).size:=by omega
 have ey:(arrOf st)[sb]?=some (arrOf st)[sb]:=getElem?_pos ..;have hky:κ (arrOf st)[sb]=κ Y[0]:=by
  have:=kY 0 (by omega)
  rw[cS,a4u ey]at this;exact this
 have hmy:(arrOf st)[sb]∈a₀.toList:=hmem _ (by simp);refine fj (a0A ey (fj ?_));refine a1n L B1.kd hmy hmem (by omega) (by omega) (λp q hp hq=>by rw[kX p (by omega),kX q (by omega)];exact a1I sX hp (by omega)) λk hkn hlt hge=>?_;dsimp only;have lo:∀q,(hq:q<X.length)->q<k->κ X[q]<=κ Y[0]:=λq hq hqk=>by
  have:=hlt q hqk
  rw[kX q hq,hky]at this;simpa[bq]using this
 have up:∀q,(hq:q<X.length)->k<=q->κ Y[0]<κ X[q]:=λq hq hqk=>by
  have:=hge q hqk (by omega)
  rw[kX q hq,hky]at this;simpa[bq]using this
 have whole:(∀x∈X,∀y∈Y,κ x<=κ y)->Q true st1:=λhxy=>by
  refine h st1 (X++Y) B1 (by rw[hs1,ea,aN]) (by rw[ay,hX,hY]) ?_ hp1;exact aM.mpr ⟨sX,sY,hxy⟩
 by_cases c1:na-k=0
 ·rw[if_pos (by simpa using c1)];refine fm (whole λx hx y hy=>?_);obtain⟨q,hq,rfl⟩:=a49 hx;obtain⟨r,hr,rfl⟩:=a49 hy;exact aS (lo q hq (by omega)) (a1I sY (aK _) hr)
 rw[if_neg (by simpa using c1)];have hl:sa+k+(na-k)-1<(arrOf st).size:=by omega
 have ex:(arrOf st)[sa+k+(na-k)-1]?=some (arrOf st)[sa+k+(na-k)-1]:=getElem?_pos ..;have hkx:κ (arrOf st)[sa+k+(na-k)-1]=κ X[na-1]:=by
  have:=kX (na-1) (by omega)
  rw[show sa+(na-1)=sa+k+(na-k)-1 by omega,a4u ex]at this;exact this
 have hmx:(arrOf st)[sa+k+(na-k)-1]∈a₀.toList:=hmem _ (by simp);refine fj (a0A ex (fj ?_));refine a1n L B1.kd hmx hmem (by omega) (by omega) (λp q hp hq=>by rw[kY p (by omega),kY q (by omega)];exact a1I sY hp (by omega)) λm hmn hlt2 hge2=>?_;dsimp only;have lo2:∀q,(hq:q<Y.length)->q<m->κ Y[q]<κ X[na-1]:=λq hq hqk=>by
  have:=hlt2 q hqk
  rw[kY q hq,hkx]at this;simpa[bq]using this
 have up2:∀q,(hq:q<Y.length)->m<=q->κ X[na-1]<=κ Y[q]:=λq hq hqk=>by
  have:=hge2 q hqk (by omega)
  rw[kY q hq,hkx]at this;simpa[bq]using this
 by_cases c2:m=0
 ·rw[if_pos (by simpa using c2)];refine fm (whole λx hx y hy=>?_);obtain⟨q,hq,rfl⟩:=a49 hx;obtain⟨r,hr,rfl⟩:=a49 hy;exact aS (a1I sX (by omega) (by omega)) (up2 r hr (by omega))
 rw[if_neg (by simpa using c2)];have lx:((arrOf st).extract (sa+k) sb).toList=X.drop k:=by
  rw[er,cP,ea,dA,<- hP,cx (by omega),dB,show P.length+k-P.length=k by omega,et (by omega),dC (by rw[aT];omega),bC (by rw[aT];omega)]
 have ly:((arrOf st).extract sb (sb+m)).toList=Y.take m:=by
  rw[er,cP,eb,dA,cx (by rw[ay];omega),dB,show sb-(P++X).length=0 by rw[ay];omega,List.drop_zero,dC (by omega),show sb+m-sb=m by omega]
 have C:MC M A E s κ k0 a₀ ((arrOf st).extract (sa+k) sb) ((arrOf st).extract sb (sb+m)):=by
  refine⟨L,λp hp=>?_,λp hp=>?_,?_,?_,?_,?_,λy hy=>?_,λz hz y hy=>?_⟩
  ·rw[lx]at hp;exact hmem p (by rw[ea];simp[dy hp])
  ·rw[ly]at hp;exact hmem p (by rw[ea];simp[aY hp])
  ·rw[lx];exact a0P sX k
  ·rw[ly];exact a05 sY m
  ·rw[<- a0N,lx,aT];omega
  ·rw[<- a0N,ly,aA];omega
  ·rw[lx]at hy;obtain⟨q,hq,hk,rfl⟩:=a5a hy;rw[a2z (z:=Y[0]) (by rw[ly,cR,if_pos (by omega)];exact ak _)];exact bj (up q hq hk)
  ·rw[ly]at hy;rw[lx,aT,cg,show k+(X.length-k-1)=na-1 by omega,ak (show na-1<X.length by omega)]at hz;cases hz;obtain⟨q,hq,hk,rfl⟩:=a3X hy;exact bj (lo2 q hq hk)
 have fin:∀(r:Array Keyed)(st2:SortSt),SG st1 st2->Mgd κ ((arrOf st).extract (sa+k) sb).toList ((arrOf st).extract sb (sb+m)).toList r.toList ->
   wpS M A E s (do
    modify λz=>setArr z (r.toList.zipIdx.foldl (λa (pj:Keyed×Nat)=>a.setIfInBounds (sa+k+pj.2) pj.1) (arrOf z))
    return (fM (<- get)).isNone) Q st2:=by
  intro r st2 g2 mg;rw[lx,ly]at mg;have hrl:r.toList.length=na-k+m:=by rw[mg.1.length_eq,ay,aT,aA];omega
  refine fj (fY (fj (fZ (fm ?_))));have ha2:arrOf st2=arrOf st:=g2.ar.trans hs1;have ef:=a8V (sa+k) r.toList 0 (arrOf st2) (by rw[ha2];omega);have el:(r.toList.zipIdx.foldl (λa (pj:Keyed×Nat)=>a.setIfInBounds (sa+k+pj.2) pj.1) (arrOf st2)).toList=P++((X.take k++r.toList++Y.drop m)++S):=by
   rw[ef,ha2,cS,hrl];have t1:(arrOf st).toList.take (sa+k)=P++X.take k:=by
    rw[ea,List.take_append,bC (by omega),<- hP,show P.length+k-P.length=k by omega,dC (by omega)]
   have t2:(arrOf st).toList.drop (sa+k+(na-k+m))=Y.drop m++S:=by
    rw[eb,dA,cx (by rw[ay];omega),dB,show sa+k+(na-k+m)-(P++X).length=m by rw[ay];omega,et (by omega)]
   rw[t1,t2];simp
  generalize hgz:r.toList.zipIdx.foldl (λa (pj:Keyed×Nat)=>a.setIfInBounds (sa+k+pj.2) pj.1) (arrOf st2)=ar at el;have hperm:(X.take k++r.toList++Y.drop m).Perm (X++Y):=by
   have:(X.take k++r.toList++Y.drop m).Perm (X.take k++(X.drop k++Y.take m)++Y.drop m):=(aH.append_left _ mg.1).append_right _
   refine this.trans ?_;have e:X.take k++(X.drop k++Y.take m)++Y.drop m=X++Y:=by
    rw[<- aN,cA,aN,cA]
   rw[e]
  have pm:ar.Perm (arrOf st):=by
   rw[cw,el,ea];refine aH.append_left _ ?_;rw[<- aN (as:=X)];exact hperm.append_right _
  have hfl:fM (setArr st2 ar)=none:=g2.fl.trans B1.fl;have B2:TB k0 a₀ (setArr st2 ar):=⟨pm.trans B.pm,g2.kd.trans B1.kd,hfl⟩;rw[hfl];refine h _ _ B2 el (by rw[hperm.length_eq,ay,hX,hY]) ?_ (g2.pe.trans hp1);have hr:∀w∈r.toList,w∈X.drop k\/w∈Y.take m:=λw hw=>ah.mp (mg.1.mem_iff.mp hw);refine aM.mpr ⟨aM.mpr ⟨a05 sX k,mg.2,λx hx w hw=>?_⟩,a0P sY m,λx hx y hy=>?_⟩
  ·obtain⟨q,hq,hk,rfl⟩:=a3X hx;rcases hr w hw with hw |hw
   ·obtain⟨p,hp,hk2,rfl⟩:=a5a hw;exact a1I sX (by omega) hp
   ·obtain⟨p,hp,hk2,rfl⟩:=a3X hw;exact aS (lo q hq hk) (a1I sY (aK _) hp)
  ·obtain⟨p,hp,hk2,rfl⟩:=a5a hy;rcases ah.mp hx with hx |hx
   ·obtain⟨q,hq,hk,rfl⟩:=a3X hx;exact aS (lo q hq hk) (a1I sY (aK _) hp)
   ·rcases hr x hx with hx |hx
    ·obtain⟨q,hq,hk,rfl⟩:=a5a hx;exact aS (a1I sX (by omega) (by omega)) (up2 p hp hk2)
    ·obtain⟨q,hq,hk,rfl⟩:=a3X hx;exact a1I sY (by omega) hp
 split
 ·exact fj (a7h C B1.kd λr st2 g2 mg=>fin r st2 g2 mg)
 ·exact fj (a7i C B1.kd λr st2 g2 mg=>fin r st2 g2 mg)
end
noncomputable def pr(p:Nat×Nat×Nat):Nat×Nat:=(p.1,p.2.1)
noncomputable def offs:Nat->List (List Keyed)->List (Nat×Nat)
 |_,[]=>[]
 |o,R::Rs=>(o,R.length)::offs (o+R.length) Rs
def a1z:∀(o:Nat)(U V:List (List Keyed)),offs o (U++V)=offs o U++offs (o+U.flatten.length) V:=by intro z0 y0;induction y0 generalizing z0 with
 |nil=>intro V;simp[offs]
 |cons R U I0=>
  intro V;rw[cT,offs,offs,I0,cT,eu,ay,cm]
def a06:∀(o:Nat)(U:List (List Keyed)),(offs o U).length=U.length:=by intro z0 y0;induction y0 generalizing z0 with
 |nil=>exact rfl
 |cons R U I0=>rw[offs,aE,aE,I0]
def a7l{α:Type}{q p1 p2:α}{pv:List α}:∀pu:List α,((pu++p1::p2::pv).set pu.length q).eraseIdx (pu.length+1)=pu++q::pv:=by intro z0;induction z0 with
 |nil=>exact rfl
 |cons x pu I0=>rw[cT,aE,eA,dD,I0,cT]
theorem a3Y{α β:Type}{f:α->β}:∀(l:List α)(k:Nat),(l.map f).eraseIdx k=(l.eraseIdx k).map f
 |[],_=>by simp
 |x::l,0=>by simp
 |x::l,k+1=>by rw[am,dD,dD,am,a3Y l k]
def a8W:∀{Rs:List (List Keyed)},(∀R∈Rs,R≠[])->Rs.length<=Rs.flatten.length:=by intro z0;induction z0 with
 |nil=>intro _;simp
 |cons R Rs I0=>
  intro h
  have:=I0 λR a=>h R (.tail _ a)
  have b:=bW.mpr (h R (.head _));rw[eu,ay,aE]
  lia
def Runs(κ:KF)(st:SortSt)(lo:Nat)(rest:List Keyed):Prop:=∃Rs:List (List Keyed),(arrOf st).toList=Rs.flatten++rest/\(∀R∈Rs,Srt κ R/\R≠[])/\Rs.flatten.length=lo/\(fw st).toList.map pr=offs 0 Rs
section
variable{M:Model}{A:Around}{E:Value->Shared->Prop}{s:Shared}{κ:KF}{k0:fX}{a₀:Array Keyed}{st:SortSt}
def a1A{i lo:Nat}(L:LtOk M A E s κ k0 a₀)(B:TB k0 a₀ st)(R:Runs κ st lo rest)(hi:i+1<(fw st).size)
  (h:∀st',TB k0 a₀ st'->Runs κ st' lo rest->(fw st').size+1=(fw st).size->Q true st'):wpS M A E s (jp i) Q st:=by
 obtain⟨Rs,t,f,r,b⟩:=R;have m:(fw st).size=Rs.length:=by
  have:=congrArg bA b
  rw[ae,a06]at this;simpa using this
 obtain⟨U,X,Y,V,rfl,D⟩:∃U X Y V,Rs=U++X::Y::V/\U.length=i:=by
  refine⟨Rs.take i,Rs[i]'(by lia),Rs[i+1]'(by lia),Rs.drop (i+2),?_,by rw[aA];lia⟩;rw[<- cf,<- cf,cA]
 have n:=f X (by simp);have q:=f Y (by simp);rw[a1z]at b;simp only[offs,bM]at b;have k:∀(j:Nat)(x:Nat×Nat),(offs 0 U++_::_::offs _ V)[j]?=some x->∃w,(fw st)[j]?=some (x.1,x.2,w):=λj x d=>by
  rw[<- b,aq]at d;rw[<- bt];cases e:(fw st).toList[j]? with
  |none=>rw[e]at d;cases d
  |some p=>
   rw[e]at d;cases d;exact⟨p.2.2,rfl⟩
 have c:(offs 0 U).length=i:=by rw[a06,D]
 obtain⟨J,G⟩:=k i _ (by rw[bR (by lia),c,Nat.sub_self];rfl);obtain⟨I,y⟩:=k (i+1) (U.flatten.length+X.length,Y.length) (by simp_all);have C:(arrOf st).toList=U.flatten++(X++(Y++(V.flatten++rest))):=by rw[t];simp
 refine a7k L B G y C rfl rfl rfl rfl n.1 q.1 (bW.mpr n.2) (bW.mpr q.2) λl Z H F o v u=>?_;have g:(fw l).toList.map pr=offs 0 (U++Z::V):=by
  rw[u,Array.toList_eraseIdxIfInBounds,eB,<- a3Y,List.map_set,b,<- c,a7l,a1z];simp only[offs,bM,pr];rw[o,cm]
 refine h l H ⟨U++Z::V,by rw[F];simp,λR a=>?_,?_,g⟩ ?_
 ·rcases ah.mp a with a |a
  ·exact f R (by simp[a])
  ·rcases ag.mp a with rfl |a
   ·exact⟨v,λz=>by rw[z]at o;have:=bW.mpr n.2;simp at o;lia⟩
   ·exact f R (by simp[a])
 ·rw[<- r];simp
  lia
 ·grind
def Runs.ar{lo n:Nat}(R:Runs κ st lo rest)(q:Ar st st' lo)(hs:SR κ (arrOf st') lo n)(hn:lo+n<=(arrOf st').size)(h1:1<=n):∃X rest',Srt κ X/\X.length=n/\Runs κ st' lo (X++rest'):=by
 obtain⟨Rs,g,f,c,e⟩:=R;have b:(arrOf st').toList.take lo=Rs.flatten:=by
  refine cU λi=>?_
  by_cases a:i<lo
  ·rw[cR,if_pos a,bt,q.pre i a,<- bt,g,bS (by lia)]
  ·grind
 refine⟨((arrOf st').toList.drop lo).take n,((arrOf st').toList.drop lo).drop n,?_,by rw[aA,aT,a0N];lia,Rs,?_,f,c,by rw[q.pe];exact e⟩
 ·refine bV.mpr λi j a d k=>?_;rw[aA,aT,a0N]at a d
  have:=hs i j (by lia) (by lia)
  rw[a0G _,a0G _]at this;simpa using this
 ·rw[cA,<- b,cA]
def Runs.push{lo n:Nat}(R:Runs κ st lo (X++rest))(sX:Srt κ X)(hX:X.length=n)(h1:1<=n)(ha:arrOf st'=arrOf st)(hp:(fw st').toList.map pr=(fw st).toList.map pr++[(lo,n)]):Runs κ st' (lo+n) rest:=by
 obtain⟨Rs,e,d,b,c⟩:=R;refine⟨Rs++[X],by rw[ha,e];simp,λR a=>?_,by simp[b,hX],?_⟩
 ·rcases ah.mp a with a |a
  ·exact d R a
  ·rw[ai.mp a];exact⟨sX,λz=>by rw[z]at hX;simp at hX;lia⟩
 ·rw[hp,c,a1z,bM,b];simp[offs,hX]
def t_sortRuns(L:LtOk M A E s κ k0 a₀)(B:TB k0 a₀ st)(hp:fw st=#[])
  (h:∀st',TB k0 a₀ st'->Srt κ (arrOf st').toList->Q () st'):wpS M A E s sortRuns' Q st:=by
 rw[sortRuns'_eq];refine fj (fZ ?_);dsimp only;rw[B.sz];generalize minRun' a₀.size a₀.size 0=mr;refine fj (fN (fL (I:=λx c z=>∃d e,c=(none,d)/\TB k0 a₀ z/\Runs κ z d e/\x<=d)
  (Q:=λc z=>∃d e,c=(none,d)/\TB k0 a₀ z/\Runs κ z d e/\a₀.size<=d) ?step ?fin ⟨0,(arrOf st).toList,rfl,B,⟨[],by simp,λR h=>by simp at h,rfl,by rw[hp];rfl⟩,af _⟩) ?post)
 case fin=>
  rintro c z ⟨d,e,rfl,t,u,hx⟩;exact⟨d,e,rfl,t,u,by lia⟩
 case step=>
  rintro x c z _ hx ⟨d,e,rfl,t,u,hxl⟩;dsimp only
  by_cases c1:d>=a₀.size
  ·rw[if_pos c1];exact fm ⟨d,e,rfl,t,u,c1⟩
  rw[if_neg c1];refine fj (b09 L t (by lia) (by lia) λm z2 Y m1 m2 m3=>?_);dsimp only
  by_cases c2:m<mr
  ·rw[if_pos c2];refine a2Z (fj (a8T L (Y.tb t) (by lia) (by lia) m3 λS C D=>?_));rw[if_neg (by decide)];have C:=Y.trans C;have v:1<=min (a₀.size-d) mr:=by lia
   have V:d+min (a₀.size-d) mr<=a₀.size:=by lia
   generalize min (a₀.size-d) mr=n at v V D ⊢;have r:=C.tb t;obtain⟨X,f,J,G,R3⟩:=u.ar C D (by rw[r.sz];lia) v;refine fj (fZ ?_);cases hb:(fw S).back? with
   |none=>
    dsimp only;exact fj (fY (fm ⟨d+n,f,rfl,⟨r.pm,r.kd,r.fl⟩,R3.push J G v rfl (by show (((fw S).push (d,n,0)).toList).map pr=_;rw[aU,au];rfl),by lia⟩))
   |some p=>
    obtain⟨w,o,w1⟩:=p;dsimp only;generalize power' a₀.size (2*w+o) (2*w+o+o+n) a₀.size=pw;refine fj (fN (fL (I:=λ_ c y=>c=(none,())/\TB k0 a₀ y/\Runs κ y d (X++f)) ?w (λ_ _ hh=>hh) ⟨rfl,r,R3⟩) ?p1)
    case w=>
     rintro x c y _ _ ⟨rfl,g,j⟩;refine fj (fZ ?_)
     by_cases hgt:(fw y).size > 1
     ·rw[if_pos hgt];have eo:(fw y)[(fw y).size-2]?=some (fw y)[(fw y).size-2]:=getElem?_pos ..;rw[eo];dsimp only
      split
      ·exact fm ⟨rfl,g,j⟩
      ·refine fj (a1A L g j (by lia) λy2 N H _=>?_);rw[if_neg (by decide)];exact fm ⟨rfl,N,H⟩
     ·rw[if_neg hgt];exact fm ⟨rfl,g,j⟩
    case p1=>
     rintro c y ⟨rfl,g,j⟩;dsimp only;refine fj (fY (fj (fY (fm ⟨d+n,f,rfl,⟨g.pm,g.kd,g.fl⟩,j.push J G v rfl ?_,by lia⟩))));have em:∀(q:Array (Nat×Nat×Nat))(k:Nat),(q.modify k λ(a,b,_)=>(a,b,pw)).toList.map pr=q.toList.map pr:=λq k=>by
      refine cU λi=>?_;rw[aq,aq,bt,bt,eC]
      split
      ·cases q[i]? with
       |none=>rfl
       |some p=>rfl
      ·rfl
     rw[aU,au,em]
     rfl
  ·rw[if_neg c2];have V:d+m<=a₀.size:=by lia
   have v:=m1;have D:=m3;have C:=Y;generalize m=n at v V D ⊢;generalize z2=S at C D ⊢;have r:=C.tb t;obtain⟨X,f,J,G,R3⟩:=u.ar C D (by rw[r.sz];lia) v;refine fj (fZ ?_);cases hb:(fw S).back? with
   |none=>
    dsimp only;exact fj (fY (fm ⟨d+n,f,rfl,⟨r.pm,r.kd,r.fl⟩,R3.push J G v rfl (by show (((fw S).push (d,n,0)).toList).map pr=_;rw[aU,au];rfl),by lia⟩))
   |some p=>
    obtain⟨w,o,w1⟩:=p;dsimp only;generalize power' a₀.size (2*w+o) (2*w+o+o+n) a₀.size=pw;refine fj (fN (fL (I:=λ_ c y=>c=(none,())/\TB k0 a₀ y/\Runs κ y d (X++f)) ?w (λ_ _ hh=>hh) ⟨rfl,r,R3⟩) ?p1)
    case w=>
     rintro x c y _ _ ⟨rfl,g,j⟩;refine fj (fZ ?_)
     by_cases hgt:(fw y).size > 1
     ·rw[if_pos hgt];have eo:(fw y)[(fw y).size-2]?=some (fw y)[(fw y).size-2]:=getElem?_pos ..;rw[eo];dsimp only
      split
      ·exact fm ⟨rfl,g,j⟩
      ·refine fj (a1A L g j (by lia) λy2 N H _=>?_);rw[if_neg (by decide)];exact fm ⟨rfl,N,H⟩
     ·rw[if_neg hgt];exact fm ⟨rfl,g,j⟩
    case p1=>
     rintro c y ⟨rfl,g,j⟩;dsimp only;refine fj (fY (fj (fY (fm ⟨d+n,f,rfl,⟨g.pm,g.kd,g.fl⟩,j.push J G v rfl ?_,by lia⟩))));have em:∀(q:Array (Nat×Nat×Nat))(k:Nat),(q.modify k λ(a,b,_)=>(a,b,pw)).toList.map pr=q.toList.map pr:=λq k=>by
      refine cU λi=>?_;rw[aq,aq,bt,bt,eC]
      split
      ·cases q[i]? with
       |none=>rfl
       |some p=>rfl
      ·rfl
     rw[aU,au,em]
     rfl
 case post=>
  rintro c z ⟨d,e,rfl,t,u,hlo⟩;dsimp only;have hsz:∀y,Runs κ y d e->(fw y).size<=d:=by
   rintro y ⟨Rs,T,F,e3,U⟩;have l:=congrArg bA U;rw[ae,a06]at l;have h2:=a8W λR hR=>(F R hR).2;simp at l
   lia
  have W:d=a₀.size:=by
   obtain⟨Rs,T,F,e3,U⟩:=u
   have:=congrArg bA T
   rw[a0N,t.sz,ay]at this
   lia
  subst W;refine fj (fN (fL (I:=λx c y=>c=(none,())/\TB k0 a₀ y/\Runs κ y a₀.size e/\((fw y).size<=1\/(fw y).size+x<=a₀.size)) (Q:=λc y=>c=(none,())/\TB k0 a₀ y/\Runs κ y a₀.size e/\(fw y).size<=1) ?s2 ?f2 ⟨rfl,t,u,.inr (hsz z u)⟩) ?p2)
  case f2=>
   rintro c y ⟨rfl,g,j,hc⟩;exact⟨rfl,g,j,by lia⟩
  case s2=>
   rintro x c y _ hx ⟨rfl,g,j,hc⟩;refine fj (fZ ?_)
   by_cases l:(fw y).size<=1
   ·rw[if_pos l];exact fm ⟨rfl,g,j,l⟩
   ·rw[if_neg l];refine fj (a1A L g j ?_ λy2 N H hy2=>?_)
    ·repeat' split
     all_goals lia
    ·rw[if_neg (by decide)];exact fm ⟨rfl,N,H,.inr (by lia)⟩
  case p2=>
   rintro c y ⟨rfl,g,j,hc⟩;obtain⟨Rs,T,F,e3,U⟩:=j;have l:=congrArg bA U;rw[ae,a06]at l;have h2:=congrArg bA T;rw[a0N,g.sz,ay,e3]at h2;have hr:e=[]:=bK.mp (by lia);refine fm (h y g ?_);rw[T,hr,aV]
   match Rs,F,l with
   |[],_,_=>exact .nil
   |[R],F,_=>simpa using (F R (by simp)).1
   |_::_::_,_,l=>simp at l;lia
end
abbrev kN:KF:=λp=>numOf p.1
def b3K(xs:Array Keyed)(i:Nat):K xs i=Kk kN xs i:=rfl
def srt_to(h:Srt kN xs.toList)(hn:n=xs.size):SortedTo xs n:=λi j a b=>by
 rw[b3K,b3K]
 have:=a1G (i:=0) h (n:=xs.size) (by simp) i j a (by lia)
 simpa using this
section
variable{prog:fq}{w:World}{A:Around}{E:Value->Shared->Prop}{s:Shared}{a₀:Array Keyed}
def lt_ints(h0:IntKeys a₀):LtOk (model prog w) A E s kN iN a₀:=λx y c d g Q e h=>by
 obtain⟨n,t,b⟩:=h0 x c;obtain⟨m,u,a⟩:=h0 y d;have f:Q (some (decide (n<m))) g:=by
  have:kN x<kN y↔n<m:=by show numOf x.1<numOf y.1↔n<m;rw[b,a];rfl
  rw[decide_eq_decide.mpr this]at h;exact h
 rw[lt'_eq];refine fj (fZ ?_);rw[e,keyLt'_oneType,b,a];exact fj (wpS_lift (gA (oneLt_int ⟨rfl,fm f⟩)))
end
section
variable{prog:fq}{w:World}{A:Around}{E:Value->Shared->Prop}{s:Shared}{κ:KF}{k0:fX}
noncomputable def a4x(h:Heap)(a:Addr)(vs:List Value):Heap:=((h.update a (Obj.mapSeq λ_=>#[])).push (seqObj "tuple" vs.toArray 0)).push (seqObj "list" #[] 0)
def b1a(ho:s.heap.get? a=some (seqObj "list" vs.toArray n))(hz:vs.length<=100000)
  (hK:2<=vs.length->∀Q:fX->Shared->Prop,Q k0 { s with heap:=a4x s.heap a vs }->wpAny (model prog w) A (keyKind' vs.toArray) Q E { s with heap:=a4x s.heap a vs })
  (hL:2<=vs.length->LtOk (model prog w) A E { s with heap:=a4x s.heap a vs } κ k0 (gN vs))
  (h:∀ps:List Keyed,ps.Perm (gN vs).toList->Srt κ ps->P (.done (.ret .none)) { s with heap:=sortedHeap s.heap a vs (ps.map (·.2)).toArray }):wpAny (model prog w) A (fv.«list.sort» ⟨[.ref a],[]⟩) P E s:=by
 have i:vs.length<=sizeLine:=by rw[fC];lia
 have o:vs.toArray.size<=sizeLine:=by simpa using i
 have t:=Heap.lt_size ho;rw[list_sort_plain];refine e9 (jq ho rfl (e9 (gO ho rfl ?_ o (by simp))));obtain⟨u,m⟩:∃u,(s.heap.update a (Obj.mapSeq λ_=>#[])).get? a=some (seqObj "list" #[] u):=⟨_,get?_update_seq ho λ_=>#[]⟩;refine e9 (ir m rfl (e9 (hZ ?_ (by simpa using i))));refine e9 (iu (fI ?_));have g:(((s.heap.update a (Obj.mapSeq λ_=>#[])).push (seqObj "tuple" vs.toArray 0)).push (seqObj "list" #[] 0)).get? a=some (seqObj "list" #[] u):=by
  rw[Heap.get?_push_ne,Heap.get?_push_ne]
  ·exact m
  ·rw[Heap.size_update];exact ao t
  ·rw[iO,Heap.size_update];exact ao (b9 t)
 dsimp only;have f:=λy p q=>by
  have:=h (arrOf y).toList (cw.mp p) q
  rw[<- Array.toList_map,eD]at this;exact this
 have b:∀y:SortSt,(arrOf y).Perm (gN vs)->((arrOf y).map (·.2)).size<=fi+1:=λy p=>by
  rw[cn,p.size_eq,pairsOf_size];lia
 by_cases c:vs.toArray.size<2
 ·rw[if_pos c,if_pos c];refine e9 (fc ?_);rw[StateT.run_pure];refine e9 (fc ?_);dsimp only;have x:(arrOf (SortSt.mk' general' _ #[] 7 none)).Perm (gN vs):=cy.refl _;refine e9 (ir g rfl (e9 (gO g rfl ?_ (by simp) (b _ x))));simp only[bne_self_eq_false,bD,if_false];refine fc (f _ x ?_)
  show Srt κ (gN vs).toList
  rw[pairsOf_toList]
  have:vs.length<2:=by simpa using c
  match vs,this with
  |[],_=>exact .nil
  |[v],_=>exact du _ _
 ·rw[if_neg c,if_neg c];have r:2<=vs.length:=by simpa using c
  refine e9 (hK r _ ?_);refine e9 (fD (t_sortRuns
   (Q:=λ_ y=>(arrOf y).Perm (gN vs)/\fM y=none/\Srt κ (arrOf y).toList) (hL r) ⟨cy.refl _,rfl,rfl⟩ rfl λy d j=>⟨d.pm,d.fl,j⟩) ?_ λ_ _ e=>e)
  rintro⟨⟨⟩,y⟩ l ⟨rfl,d,j,q3⟩;dsimp only;refine e9 (ir g rfl (e9 (gO g rfl ?_ (by simp) (b y d))));rw[j];simp only[bne_self_eq_false,bD,if_false];exact fc (f y d q3)
def sort_any{a:Addr}{vs:List Value}{ns:List Int}{n:Nat}{P:Fin->Shared->Prop}(ho:s.heap.get? a=some (seqObj "list" vs.toArray n))(hI:fG vs ns)(hz:vs.length<=1000)
  (h:∀(out:Array Value)(ms:List Int),fG out.toList ms->ms.Perm ns->ms.Pairwise (·<=·)->P (.done (.ret .none)) { s with heap:=sortedHeap s.heap a vs out }):wpAny (model prog w) A (fv.«list.sort» ⟨[.ref a],[]⟩) P E s:=by
 refine b1a (κ:=kN) (k0:=iN) ho (by omega) (λh2 Q hq=>?_) (λ_=>lt_ints hI.intKeys) λps p q=>?_
 ·match vs,h2 with
  |v1::v2::vr,_=>rw[keyKind_ints hI];exact fc hq
 ·have p':ps.toArray.Perm (gN vs):=cw.mpr p;obtain⟨ms,m1,m2,m3⟩:=sorted_out hI p' (srt_to q p'.size_eq.symm)
  have:=h _ ms m1 m2 m3
  simpa using this
end
end Tim
namespace Tim
open PySem PyProof.Rows PySem.W
abbrev Pz:=Sum (Option Int) Str
def PtIs:Pz->Value->Prop
 |.inl none,v=>v=.none
 |.inl (some i),v=>∃t,v=.int i t
 |.inr s,v=>∃t,v=.str s t
def PtsAre:List Pz->List Value->Prop
 |[],[]=>True
 |x::xs,v::vs=>PtIs x v/\PtsAre xs vs
 |_,_=>False
noncomputable def lt1:Pz->Pz->Bool
 |.inl (some i),.inl (some j)=>decide (i<j)
 |.inr a,.inr b=>decide (a.cps.toList<b.cps.toList)
 |_,_=>false
noncomputable def ltT:List Pz->List Pz->Bool
 |x::xs,y::ys=>if x=y then ltT xs ys else lt1 x y
 |_,_=>false
noncomputable def rk(rows:List (List Pz))(x:List Pz):Nat:=rows.countP λq=>ltT q x
def RowIn(h:Heap)(v:Value)(xs:List Pz):Prop:=∃a o its n,v=.ref a/\h.get? a=some o/\o.cls=.type "tuple"/\o.data=.seq its n/\PtsAre xs its.toList
def PtIs.uniq:∀{x y:Pz}{v:Value},PtIs x v->PtIs y v->x=y:=by
 intro x y v h k;rcases x with (_ |i) |a
 ·rw[show v=Value.none from h]at k;rcases y with (_ |j) |b
  ·rfl
  ·obtain⟨_,k⟩:=k;cases k
  ·obtain⟨_,k⟩:=k;cases k
 ·obtain⟨t,rfl⟩:=h;rcases y with (_ |j) |b
  ·cases k
  ·obtain⟨_,k⟩:=k;cases k;rfl
  ·obtain⟨_,k⟩:=k;cases k
 ·obtain⟨t,rfl⟩:=h;rcases y with (_ |j) |b
  ·cases k
  ·obtain⟨_,k⟩:=k;cases k
  ·obtain⟨_,k⟩:=k;cases k;rfl
theorem PtsAre.uniq:∀{xs ys:List Pz}{vs:List Value},PtsAre xs vs->PtsAre ys vs->xs=ys
 |[],[],[],_,_=>rfl
 |x::xs,y::ys,v::vs,⟨a,b⟩,⟨c,d⟩=>by rw[a.uniq c,PtsAre.uniq b d]
 |[],_::_,[],_,h=>h.elim
 |[],_,_::_,h,_=>h.elim
 |_::_,_,[],h,_=>h.elim
 |_::_,[],_::_,_,h=>h.elim
def RowIn.uniq(r:RowIn h v xs)(q:RowIn h v ys):xs=ys:=by
 obtain⟨a,o,k,n,rfl,j,_,g,d⟩:=r;obtain⟨p,m,f,l,e,b,_,c,i⟩:=q;cases e;rw[j]at b;cases b;rw[g]at c;cases c;exact d.uniq i
open Classical in
noncomputable def a8X(h:Heap)(v:Value):List Pz:=if e:∃xs,RowIn h v xs then e.choose else []
def a8Y(r:RowIn h v xs):a8X h v=xs:=by
 unfold a8X;have e:∃xs,RowIn h v xs:=⟨xs,r⟩;rw[dif_pos e];exact e.choose_spec.uniq r
noncomputable def kT(h:Heap)(rows:List (List Pz)):KF:=λp=>(rk rows (a8X h p.1):Int)
section
variable{prog:fq}{w:World}{A:Around}{E:Value->Shared->Prop}{s:Shared}{a₀:Array Keyed}{b:Bool}{Q:Bool->Shared->Prop}
end
def RowsIn(h:Heap):List Value->List (List Pz)->Prop
 |[],[]=>True
 |v::vs,x::xs=>RowIn h v x/\RowsIn h vs xs
 |_,_=>False
theorem RowsIn.len:∀{vs:List Value}{rows:List (List Pz)},RowsIn h vs rows->vs.length=rows.length
 |[],[],_=>rfl
 |_::_,_::_,⟨_,r⟩=>by rw[aE,aE,RowsIn.len r]
 |[],_::_,r=>r.elim
 |_::_,[],r=>r.elim
theorem RowsIn.mem:∀{vs:List Value}{rows:List (List Pz)},RowsIn h vs rows->∀v∈vs,∃x∈rows,RowIn h v x
 |v::vs,x::xs,⟨r,q⟩,u,hu=>by
  rcases ag.mp hu with rfl |hu
  ·exact⟨x,.head _,r⟩
  ·obtain⟨y,b,a⟩:=q.mem u hu;exact⟨y,.tail _ b,a⟩
 |[],[],_,u,hu=>by simp at hu
 |[],_::_,r,_,_=>r.elim
 |_::_,[],r,_,_=>r.elim
theorem RowsIn.map:∀{vs:List Value}{rows:List (List Pz)},RowsIn h vs rows->vs.map (a8X h)=rows
 |[],[],_=>rfl
 |v::vs,x::xs,⟨r,q⟩=>by rw[am,a8Y r,q.map]
 |[],_::_,r=>r.elim
 |_::_,[],r=>r.elim
section
variable{prog:fq}{w:World}{A:Around}{E:Value->Shared->Prop}{s:Shared}
end
end Tim
namespace SetW
open PySem
def Up(xs:Array Nat):Prop:=xs.toList.Pairwise (·<·)
structure TOk (led:Bool) (t:fe):Prop where
 up:Up t.place
 dm:t.dummies=#[]
 ld:t.led=led
def a8Z(h:Up xs)(hij:i<j)(hj:j<xs.size):xs[i]'(by omega)<xs[j]:=by
 have:=bV.mp h i j (by simp;omega) (by omega) hij
 simpa using this
def a80(h:Up xs)(j:Nat):∀(fuel lo hi:Nat),hi-lo<=fuel->lo<=hi->hi<=xs.size->(∀i,(hi':i<xs.size)->i<lo->xs[i]<j)->(∀i,(hi':i<xs.size)->hi<=i->j<=xs[i]) ->
  fe.below.go xs j fuel lo hi<=xs.size/\(∀i,(hi':i<xs.size)->i<fe.below.go xs j fuel lo hi->xs[i]<j)/\(∀i,(hi':i<xs.size)->fe.below.go xs j fuel lo hi<=i->j<=xs[i]):=by intro z0;induction z0 with
 |zero=>
  intro lo hi hf h1 h2 h3 h4
  have:lo=hi:=by lia
  subst this;unfold fe.below.go;exact⟨h2,h3,h4⟩
 |succ fuel I0=>
  intro lo hi hf h1 h2 h3 h4;unfold fe.below.go
  split
  ·next hlt=>
   have b:(lo+hi) / 2<xs.size:=by lia
   have f:xs.getD ((lo+hi) / 2) j=xs[(lo+hi) / 2]:=by simp[Array.getD,b]
   dsimp only;rw[f]
   split
   ·next c=>
    refine I0 _ _ (by lia) (by lia) h2 (λi a d=>?_) h4
    by_cases e:i=(lo+hi) / 2
    ·subst e;exact c
    ·exact dq (a8Z h (by lia) b) c
   ·next c=>
    refine I0 _ _ (by lia) (by lia) (by lia) h3 λi a d=>?_
    by_cases e:i=(lo+hi) / 2
    ·subst e;lia
    ·have:=a8Z h (show (lo+hi) / 2<i by lia) a;lia
  ·next hlt=>
   have:lo=hi:=by lia
   subst this;exact⟨h2,h3,h4⟩
def a5b(h:Up xs)(j:Nat):fe.below xs j<=xs.size/\(∀i,(hi':i<xs.size)->i<fe.below xs j->xs[i]<j)/\(∀i,(hi':i<xs.size)->fe.below xs j<=i->j<=xs[i]):=
 a80 h j xs.size 0 xs.size (by simp) (by simp) (af _) nofun λi b a=>by lia
def a4y{α:Type}{xs:Array α}{x:α}:(fe.insertAt xs p x).toList=xs.toList.take p++x::xs.toList.drop p:=by
 unfold fe.insertAt;simp[bC]
def b3L(h:Up xs)(hn:xs[fe.below xs j]?≠some j):Up (fe.insertAt xs (fe.below xs j) j):=by
 obtain⟨w,s,i⟩:=a5b h j;unfold Up at h ⊢;rw[a4y];refine aM.mpr ⟨bG.sublist (dg _ _) h,av.mpr ⟨λy d=>?_,bG.sublist (dv _ _) h⟩,λx r y d=>?_⟩
 ·obtain⟨m,a⟩:=bn d;rw[cg]at a;obtain⟨l,e⟩:=aj.mp a;have b:fe.below xs j+m<xs.size:=by simpa using l
  have f:=i _ b (by lia);have o:xs[fe.below xs j+m]=y:=by simpa using e
  by_cases c:y=j
  ·subst c;exfalso
   by_cases hm0:m=0
   ·simp_all
   ·have t:=a8Z h (show fe.below xs y<fe.below xs y+m by lia) b;have z:=i _ (by lia) (af _)
    lia
  ·lia
 ·obtain⟨m,a⟩:=bn r;have g:=(aj.mp a).1;rw[aA]at g;rw[cR,if_pos (by lia)]at a;obtain⟨l,e⟩:=aj.mp a;have b:m<xs.size:=by simpa using l
  have f:=s m b (by lia);have o:xs[m]=x:=by simpa using e
  rw[o]at f;rcases ag.mp d with rfl |d
  ·exact f
  ·obtain⟨k,q⟩:=bn d;rw[cg]at q;obtain⟨p,u⟩:=aj.mp q;have n:fe.below xs j+k<xs.size:=by simpa using p
   have t:=i _ n (by lia);have v:xs[fe.below xs j+k]=y:=by simpa using u
   lia
def a7m(j:Nat):fe.has #[] j=false:=by unfold fe.has;simp
def a81(hd:t.dummies=#[]):∀(fuel:Nat)(p:fe.Probe)(j:Nat)(d:Option Nat),p.dummy=none->fe.probe.go t ha h fuel p=some (.empty j d)->d=none/\t.slot j=.empty:=by intro z0;induction z0 with
 |zero=>intro p j d _ e;unfold fe.probe.go at e;cases e
 |succ fuel I0=>
  intro p j d a e;have b:∀p:fe.Probe,p.dummy=none->(t.advance p).dummy=none:=λp a=>by
   unfold fe.advance
   split
   ·omega
   ·omega
  unfold fe.probe.go at e;cases hs:t.slot p.j with
  |empty=>
   rw[hs]at e;simp at e;obtain⟨rfl,rfl⟩:=e;exact⟨a,hs⟩
  |dummy=>
   unfold fe.slot at hs;dsimp only at hs;rw[hd,a7m]at hs
   split at hs
   ·cases hs
   ·simp_all
  |live i=>
   rw[hs]at e;dsimp only at e
   split at e
   ·grind
   ·exact I0 _ j d (b p a) e
def a5T{t:fe}(h:t.slot j=.empty):t.place[fe.below t.place j]?≠some j:=λe=>by
 unfold fe.slot at h;dsimp only at h;rw[e]at h;simp at h
set_option tactic.hygienic true in
def b1b{t:fe}(hd:t.dummies=#[])(e:t.freeSlot h=some (j,b)):b=false/\t.place[fe.below t.place j]?≠some j:=by
 unfold fe.freeSlot at e
 split at e
 ·next j' d hp=>
  obtain⟨rfl,a⟩:=a81 hd _ _ j' d rfl hp;simp at e;obtain⟨rfl,rfl⟩:=e;exact⟨rfl,a5T a⟩
 ·cases e
def TOk.standIn(h:TOk led t)(n:Nat):TOk led (t.standIn n):=by
 refine⟨?_,rfl,h.ld⟩
 show Up (Array.range n)
 unfold Up;rw[Array.toList_range];exact dE
def TOk.orStandIn(h:TOk led t)(n:Nat):TOk led (t.orStandIn n):=by
 unfold fe.orStandIn
 split
 ·omega
 ·exact h.standIn n
def TOk.layNew(h:TOk led t)(es:Array (Int×Value))(hh:Int)(x:Value):TOk led (layNew t es hh x).2.1:=by
 unfold PySem.layNew;cases e:t.freeSlot hh with
 |none=>exact h.standIn _
 |some p=>
  obtain⟨j,b⟩:=p;obtain⟨_,a⟩:=b1b h.dm e
  have:TOk led (t.put j).1:=by
   unfold fe.put;refine⟨b3L h.up a,?_,h.ld⟩;rw[h.dm,a7m];rfl
  exact this.orStandIn _
def b1c(f:Nat->Option Nat):(((aC n).filterMap λj=>(f j).map (j,·)).map (·.1)).Pairwise (·<·):=by
 have e:∀l:List Nat,l.Pairwise (·<·)->((l.filterMap λj=>(f j).map (j,·)).map (·.1)).Pairwise (·<·)/\∀x∈(l.filterMap λj=>(f j).map (j,·)).map (·.1),x∈l:=by
  intro l
  induction l with
  |nil=>intro _;exact⟨.nil,λx c=>by simp at c⟩
  |cons a l ih=>
   intro m;obtain⟨i,h⟩:=av.mp m;obtain⟨g,d⟩:=ih h;rw[bz];cases f a with
   |none=>exact⟨g,λx c=>.tail _ (d x c)⟩
   |some b=>
    exact⟨av.mpr ⟨λy k=>i y (d y k),g⟩,λx c=>by
     rcases ag.mp c with rfl |c
     ·exact .head _
     ·exact .tail _ (d x c)⟩
 exact (e _ dE).1
def TOk.relay(h:TOk led t)(es:Array (Int×Value))(n:Nat):TOk led (h9 t es n).2.1:=by
 unfold h9;cases e:t.relaid _ n with
 |none=>exact h.standIn _
 |some p=>
  dsimp only
  split
  ·unfold fe.relaid fe.laid at e;cases ho:fe.layClean _ _ with
   |none=>rw[ho]at e;cases e
   |some owner=>
    rw[ho]at e;obtain⟨rfl,_⟩:=e;refine⟨?_,rfl,h.ld⟩;exact b1c _
  ·exact h.standIn _
end SetW
namespace SetW
open PySem PyProof.Rows
noncomputable def byT(w:World):Bool:=w.params.followText "set-order"
inductive KsAre {prog:fq}{w:World}{K:Type}[DecidableEq K] (kd:KeyKind prog w K):List Value->List K->Prop
 |nil:KsAre kd [] []
 |cons {v:Value} {k:K} {vs:List Value} {ks:List K} (h:kd.is k v=true) (t:KsAre kd vs ks):KsAre kd (v::vs) (k::ks)
structure SO {prog:fq}{w:World}{K:Type}[DecidableEq K] (kd:KeyKind prog w K) (h:Heap) (a:Addr) (es:Array (Int×Value)) (ep:Nat) (t:fe) (ms:List K):Prop where
 at_:∃o,h.get? a=some o/\o.ExactSet/\o.data=.set es ep t
 el:iP kd es.toList
 nums:KsAre kd (es.toList.map (·.2)) ms
 sc:es.size<fS
 fit:t.fits es.size=true
 ok:TOk (!byT w) t
def SI{prog:fq}{w:World}{K:Type}[DecidableEq K](kd:KeyKind prog w K)(h:Heap)(a:Addr)(ms:List K):Prop:=∃es ep t,SO kd h a es ep t ms
section
variable{prog:fq}{w:World}{K:Type}[DecidableEq K]{kd:KeyKind prog w K}
def a7n(h:KsAre kd vs ns):vs.length=ns.length:=by
 induction h with
 |nil=>rfl
 |cons _ _ ih=>rw[aE,aE,ih]
def a0H(h:KsAre kd vs ns)(p:vs'.Perm vs):∃ns',KsAre kd vs' ns'/\ns'.Perm ns:=by
 induction p generalizing ns with
 |nil=>exact⟨ns,h,.refl _⟩
 |cons x _ ih=>
  cases h with
  |cons h1 h2=>
   obtain⟨i,a,b⟩:=ih h2;exact⟨_,.cons h1 a,b.cons _⟩
 |swap x y l=>
  cases h with
  |cons h1 h2=>
   cases h2 with
   |cons h3 h4=>exact⟨_,.cons h3 (.cons h1 h4),.swap ..⟩
 |trans _ _ ih1 ih2=>
  obtain⟨j,c,d⟩:=ih2 h;obtain⟨g,e,f⟩:=ih1 c;exact⟨g,e,f.trans d⟩
def b1d(h:KsAre kd vs ns)(hk:kd.is k v=true):KsAre kd (vs++[v]) (ns++[k]):=by
 induction h with
 |nil=>exact .cons hk .nil
 |cons h1 _ ih=>exact .cons h1 ih
def b3M(h:KsAre kd vs ns):(∃v∈vs,kd.is k v=true)↔k∈ns:=by
 induction h with
 |nil=>simp
 | @cons v n vs ns h1 _ ih=>
  rw[ag,<- ih]
  constructor
  ·rintro⟨u,a,b⟩;rcases ag.mp a with rfl |a
   ·exact .inl (kd.inj _ _ _ b h1)
   ·exact .inr ⟨u,a,b⟩
  ·rintro (rfl |⟨u,a,b⟩)
   ·exact⟨v,.head _,h1⟩
   ·exact⟨u,.tail _ a,b⟩
def b53(h:KsAre kd vs ns):∀{i:Nat}{v:Value},vs[i]?=some v->∃k,ns[i]?=some k/\kd.is k v=true:=by
 induction h with
 |nil=>intro i v e;simp at e
 |cons h1 _ ih=>
  intro i v e;cases i with
  |zero=>cases e;exact⟨_,rfl,h1⟩
  |succ i=>exact ih (by simpa using e)
end
section
variable{prog:fq}{w:World}{A:Around}{E:Value->Shared->Prop}{s:Shared}{a:Addr}{es:Array (Int×Value)}{ep:Nat}{t:fe}{K:Type}[DecidableEq K]{kd:KeyKind prog w K}{ms:List K}{k:K}{v:Value}
def SO.mem(S:SO kd s.heap a es ep t ms):(∃e∈es.toList,kd.is k e.2=true)↔k∈ms:=by
 rw[<- b3M S.nums]
 constructor
 ·rintro⟨e,c,b⟩;exact⟨e.2,bN c,b⟩
 ·rintro⟨u,d,b⟩;obtain⟨e,c,rfl⟩:=az.mp d;exact⟨e,c,b⟩
def SO.stored{h:Heap}(ho:h.get? a=some o)(hx:o.ExactSet)(hd:o.data=.set es ep t)(hel:iP kd es'.toList)(hi:KsAre kd (es'.toList.map (·.2)) ms')(hs:es'.size<fS)(hf:t'.fits es'.size=true)(hk:TOk (!byT w) t') :
  (h.update a (Obj.putSet es' t')).get? a=some { o with data:=.set es' (ep+1) t' }/\SO kd (h.update a (Obj.putSet es' t')) a es' (ep+1) t' ms':=by
 have b:(h.update a (Obj.putSet es' t')).get? a=some { o with data:=.set es' (ep+1) t' }:=by
  have q:=Heap.get?_update_self (Obj.putSet es' t') ho (by rw[putSet_of es' t' hd];rfl);rw[putSet_of es' t' hd]at q;exact q
 exact⟨b,⟨⟨_,b,hx,rfl⟩,hel,hi,hs,hf,hk⟩⟩
def a5U(h:t.fits n=true):({ t with plain:=b }:fe).fits n=true:=by cases t;exact h
def TOk.plain(h:TOk led t):TOk led ({ t with plain:=b }:fe):=⟨h.up,h.dm,h.ld⟩
def a4z(hkey:kd.is k v=true)(hsv:v.scannable=true)(S:SO kd s.heap a es ep t ms)(hr:ms.length+1<fS)
  (h:∀h' ms' b,Heap.SameBut a s.heap h'->SI kd h' a ms'->ms'.Perm (if k∈ms then ms else ms++[k])->Q b { s with heap:=h' }) :
  wpAny (model prog w) A (iQ a v (kd.hash k)) Q E s:=by
 obtain⟨⟨o,C,hx,D⟩,n,l,V,x,hok⟩:=id S;have M:es.size=ms.length:=by
  simpa using (a7n l)
 unfold iQ jr;refine fI (e9 (fU C D x ?_));dsimp only;rw[byScan_of hsv V n];simp only[↓reduceIte];unfold setAddByScan;refine e9 (e9 (gg (e9 (wpAny_setScan_of hkey C D x n ?_))));cases hf:eE (λe=>kd.is k e.2) es.toList with
 |some j=>
  dsimp only;obtain⟨hj,T,_⟩:=List.findIdx?_eq_some_iff_getElem.mp hf;have g:k∈ms:=S.mem.mp ⟨_,bu hj,T⟩;exact fc (fc (h s.heap ms false (Heap.SameBut.refl a s.heap) ⟨es,ep,t,S⟩ (by rw[if_pos g])))
 |none=>
  dsimp only;have g:k∉ms:=λz=>by
   obtain⟨e,he,T⟩:=S.mem.mpr z;have q:=List.findIdx?_eq_none_iff.mp hf e he;rw[T]at q;cases q
  have i:=layNew_perm t es (kd.hash k) v;have p:=layNew_fits t es (kd.hash k) v;have y:=hok.layNew es (kd.hash k) v;generalize layNew t es (kd.hash k) v=L at i p y ⊢;obtain⟨c,t1,wd,gv⟩:=L;dsimp only at i p y ⊢;rw[aU]at i;have F:=(n.push hkey hsv).perm i;have sz1:c.size=ms.length+1:=by rw[<- aF,i.length_eq,ay,aF,M];rfl
  obtain⟨X,I,J⟩:=a0H (vs':=c.toList.map (·.2)) (b1d l hkey) (by
   have q:=i.map (·.2);rw[au]at q;exact q)
  have G:c.size<scanBound:=by lia
  have H:∀(d:fe),d.fits c.size=true->TOk (!byT w) d->wpAny (model prog w) A (do
    iR a c d
    if (!wd&&d.tooFull)=true then do
     (match (h9 d c (fe.grown c.size)).2.2 with |true=>rule "set.scan.the-table-gave-way" |false=>pure ())
     iR a (h9 d c (fe.grown c.size)).1 (h9 d c (fe.grown c.size)).2.1
     pure (some true)
    else pure (some true)) (λr U=>wpAny (model prog w) A (match r with |some added=>pure added |none=>jr a v (kd.hash k) 99999) Q E U) E s:=by
   intro d f2 k2;refine e9 (iw C D ?_ (iy G));obtain⟨Y,S1⟩:=SO.stored C hx D F I G f2 k2;have b1:=Heap.SameBut.update s.heap a (Obj.putSet c d)
   split
   ·have B:=relayAll_perm d c (fe.grown c.size);have N:=relayAll_fits d c (fe.grown c.size);have R:=k2.relay c (fe.grown c.size);generalize h9 d c (fe.grown c.size)=W at B N R ⊢;obtain⟨m,t3,g3⟩:=W;dsimp only at B N R ⊢;have sz2:m.size=c.size:=by rw[<- aF,B.length_eq,aF]
    obtain⟨ms2,im2,pm2⟩:=a0H I (B.map (·.2));refine e9 ?_;have u:wpAny (model prog w) A (iR a m t3 >>= λ_=>pure (some true)) (λr U=>wpAny (model prog w) A (match r with |some added=>pure added |none=>jr a v (kd.hash k) 99999) Q E U) E { s with heap:=s.heap.update a (Obj.putSet c d) }:=by
     refine e9 (iw Y rfl ?_ (iy (by lia)));obtain⟨_,S2⟩:=SO.stored (t:=d) Y hx rfl (F.perm B) im2 (by lia) N R;exact fc (fc (h _ ms2 true (b1.trans (Heap.SameBut.update _ a _)) ⟨m,_,t3,S2⟩ (if_neg g▸pm2.trans J)))
    cases g3 with
    |true=>exact gg u
    |false=>exact fc u
   ·exact fc (fc (h _ X true b1 ⟨c,_,d,S1⟩ (if_neg g▸J)))
  have gw:∀{β:Type}{f:Unit->Sem β}{Q':β->Shared->Prop},wpAny (model prog w) A (f ()) Q' E s->wpAny (model prog w) A ((match gv with |true=>rule "set.scan.the-table-gave-way" |false=>pure ()) >>= f) Q' E s:=λhq=>by
   cases gv with
   |true=>exact e9 (gg hq)
   |false=>exact e9 (fc hq)
  refine gw ?_
  split
  ·refine e9 ?_;rw[hashByValue_scannable 8 hsv];refine fc ?_;refine H _ ?_ ?_<;>cases plainKind v<;>first |exact p |exact a5U p |exact y |exact y.plain
  ·refine e9 (fc ?_);simp only[↓reduceIte];exact H t1 p y
end
def SI.at{K:Type}[DecidableEq K]{kd:KeyKind prog w K}{ms:List K}(S:SI kd h a ms)(k:∀o,h.get? a=some o->h'.get? a=some o):SI kd h' a ms:=by
 obtain⟨l,i,t,⟨o,g,x,d⟩,f,j,e,c,b⟩:=S;exact⟨l,i,t,⟨o,k o g,x,d⟩,f,j,e,c,b⟩
def Met{K:Type}(val:Nat->K)(i:Nat)(ms:List K):Prop:=ms.Nodup/\ms.length<=i/\∀x,x∈ms↔∃j,j<i/\val j=x
def Met.step{K:Type}[DecidableEq K]{val:Nat->K}{ms ms':List K}(h:Met val i ms)(p:ms'.Perm (if val i∈ms then ms else ms++[val i])):Met val (i+1) ms':=by
 obtain⟨d,k,b⟩:=h;have a:∀x,(∃j,j<i+1/\val j=x)↔(∃j,j<i/\val j=x)\/x=val i:=λx=>by grind
 by_cases c:val i∈ms
 ·rw[if_pos c]at p;refine⟨p.nodup_iff.mpr d,by rw[p.length_eq];lia,λx=>?_⟩;rw[p.mem_iff,a,b];exact⟨.inl,λz=>z.elim id λe=>(b x).mp (e▸c)⟩
 ·rw[if_neg c]at p;refine⟨p.nodup_iff.mpr ?_,by rw[p.length_eq];simp;exact k,λx=>?_⟩
  ·rw[cp];exact⟨d,by simp,λx g y f=>by rw[ai.mp f];rintro rfl;exact c g⟩
  ·rw[p.mem_iff,a,ah,b,ai]
section
variable{prog:fq}{w:World}{A:Around}{R:Result->Shared->Prop}{I:Addr}{fp wr:List Addr}{G:Array iS->Array iS->Prop}{n:Nat}{P:Nat->Value->Prop}{St:Nat->Shared->Prop}{K:Type}[DecidableEq K]{kd:KeyKind prog w K}
def a82(W:WalksS prog w A.in1 I fp wr G n P St)(S:Addr)(hSf:S∉fp)(val:Nat->K)(hv:∀i v,P i v->kd.is (val i) v=true/\v.scannable=true)(hb:n+1<fS) :
  ∀(k i:Nat)(s:Shared)(ms:List K),n-i=k->i<=n->St i s->SI kd s.heap S ms->Met val i ms ->
   (∀s' ms',Moved (S::wr) G s s'->SI kd s'.heap S ms'->Met val n ms'->R (.ok (.ret .none)) s') ->
   f9 (model prog w) A (.builtin "set.update.loop" ⟨[.ref S,.ref I],[]⟩) R s:=by
 have C:=λz=>hSf (W.sub _ z);have E:∀b∈wr,b∈S::wr:=λb z=>bF _ z;intro k
 induction k with
 |zero=>
  intro i s p Q U l r f m;have e:i=n:=by lia
  subst e;refine gQ PyProof.Rows.F.entry_set_update_loop ?_;rw[Around.under_plainId PyProof.Rows.F.plain_set_update_loop _];exact e9 (W.done s _ _ l λa d=>(fc (m a p (d.mono E) (r.at λo g=>d.heap S o C g) f)))
 |succ k ih=>
  intro i s p Q U l r f m;refine gQ PyProof.Rows.F.entry_set_update_loop ?_;rw[Around.under_plainId PyProof.Rows.F.plain_set_update_loop _];refine e9 (W.item i s _ _ (by lia) l λv a M H d=>?_);obtain⟨j,x⟩:=hv i v M;obtain⟨Y,V,t,S1⟩:=r.at λo g=>d.heap S o C g;refine e9 (fI (fI (e9 (kd.pyHash j (a4z j x S1 (by have:=f.2.1;lia) λh' J b h y N=>(fc ⟨iz PyProof.Rows.F.plain_set_update_loop _,ih (i+1) _ J (by lia) (by lia) (W.frame _ a _ _ H (dG _) λc q o g=>?_) y (f.step N) λT X B u D=>?_⟩))))))
  ·rw[h.2 c λz=>hSf (z▸q)];exact g
  ·refine m T X (Moved.trans W.gtrans ((d.mono E).then_heap (dG _) λc o q g=>?_) B) u D;rw[h.2 c λz=>q (by grind)];exact g
end
section
variable{prog:fq}{w:World}{A:Around}{E:Value->Shared->Prop}{s:Shared}{K:Type}[DecidableEq K]{kd:KeyKind prog w K}
abbrev a0j(w:World):Obj:={ cls:=.type "set",dict:=none,data:=.set #[] 0 (.fresh 0 0 (!byT w)) }
def SI.fresh(g:h.get? a=some (a0j w)):SI kd h a []:=
 ⟨#[],0,.fresh 0 0 _,⟨_,g,⟨rfl,rfl,rfl⟩,rfl⟩,λe b=>by simp at b,.nil,by decide,rfl,⟨.nil,rfl,rfl⟩⟩
def a7o(a:Value)(h:Q (.ref s.heap.objs.size) { s with heap:=s.heap.push (a0j w) }) :
  f9 (model prog w) A (.call (.builtin "set.__new__") ⟨[.type "set",a],[]⟩) (wants Q E) s:=by
 refine js ?_
 show wpAny _ A.in1 (do jt "set.__new__" ⟨[.type "set",a],[]⟩;again (.builtin "set.__new__" ⟨[.type "set",a],[]⟩)) _ _ s
 refine e9 (iT (PySem.F.newCall_set_1 a) (fc ⟨iz PySem.F.plain_set_new _,gQ PySem.F.entry_set_new ?_⟩));rw[Around.under_plainId PySem.F.plain_set_new _];unfold fv.«set.__new__» fv.Frozenset.newClass;have sub:=sub_set_self;obtain⟨hp,g,d,tk,os⟩:=s;dsimp only
 wp_walk
 refine gR (fc ?_);dsimp only;simp only[newObj];exact e9 (jl (fc (fc h)))
set_option maxHeartbeats 3200000 in
def call_set(hh:A.handled=none)(hl:s.heap.IsList l items)(hi:KsAre kd items.toList ns)(hsv:∀v∈items.toList,v.scannable=true)(hb:items.size+1<fS)
  (h:∀(h':Heap)(tk:Nat)(ms:List K),SI kd h' s.heap.objs.size ms->Met (λi=>ns.getD i k0) items.size ms->(∀b o,b<s.heap.objs.size->s.heap.get? b=some o->h'.get? b=some o)->Q (.ref s.heap.objs.size) { s with heap:=h',toks:=tk }) :
  wpAny (model prog w) A (call (.type "set") [.ref l]) Q E s:=by
 obtain⟨mc,mt,mro⟩:=PySem.F.called_set.mro;have md:=PySem.F.called_set.made;have sb:=PySem.F.called_set.sub;refine iH (js ?_)
 show wpAny _ _ (callAny (.type "set") _) _ _ _
 refine fc ⟨Code.quiet_builtin _ (by decide +kernel),gQ PySem.F.entry_type_call ?_⟩;rw[Around.under_plain (weight_type_call_type "set" [.ref l] []) rfl];have nt:=PySem.F.called_set.notType;have cc:=PySem.F.called_set.canCreate;have tc:=PySem.F.typeCall_set_1 (.ref l)
 repeat (any_goals (first |assumption |wp_step))
 refine gn (a7o (w:=w) (.ref l) (E:=E) (Q:=λobj s1=>obj=.ref s.heap.objs.size/\s1={ s with heap:=s.heap.push (a0j w) }) ⟨rfl,rfl⟩) λr s1 hr=>?_;cases r with
 |error e=>exact hr
 |ok fl=>
  cases fl with
  |ret obj=>
   obtain⟨rfl,rfl⟩:=hr;have gS:(s.heap.push (a0j w)).get? s.heap.objs.size=some (a0j w):=Heap.get?_push_size _ rfl;have tS:Shared.TypeIs { s with heap:=s.heap.push (a0j w) } (.ref s.heap.objs.size) "set":=⟨_,gS,rfl⟩;have li:=PySem.F.called_set.init.lookup;have bi:=PySem.F.called_set.init.bind (.ref s.heap.objs.size)
   repeat (any_goals (first |assumption |wp_step))
   refine gn (codeAny_call_builtin (R:=wants (λr s2=>r=.none/\∃h' tk ms,s2={ s with heap:=h',toks:=tk }/\SI kd h' s.heap.objs.size ms/\Met (λi=>ns.getD i k0) items.size ms /\
     (∀b o,b<s.heap.objs.size->s.heap.get? b=some o->h'.get? b=some o)) E) PySem.F.called_set.init.plain PySem.F.entry_set_init (check_set_init_1 tS ?_)) λr2 s2 hr2=>?_
   ·obtain⟨ol,gl,cl,nl,dl⟩:=hl;obtain⟨oc,od,ob,osl⟩:=ol;simp only at cl dl;subst cl dl;have gl':(s.heap.push (a0j w)).get? l=some { cls:=.type "list",dict:=od,data:=.seq items nl,slots:=osl }:=Heap.get?_push_of_some _ gl;have s1:=PySem.F.sub_list_set;have s2:=PySem.F.sub_list_frozenset;have ne:(Value.type "list"==Value.type "dict")=false:=by decide
    have il:(s.heap.push (a0j w)).IsList l items:=⟨_,gl',rfl,nl,rfl⟩;unfold fv.«set.__init__» noKeywords fv.Frozenset.updateFrom;generalize hPI:pyIter=PI
    wp_walk
    subst hPI;refine jc il (e9 (wpAny_runValue ?_));have ll:l<s.heap.objs.size:=Heap.lt_size gl;have h3:A.in1.in1.in1.handled=none:=by simp[hh]
    have nI:l≠(s.heap.push (a0j w)).objs.size:=by rw[Heap.size_push];exact ao (b9 ll)
    have nf:s.heap.objs.size∉[(s.heap.push (a0j w)).objs.size,l]:=by
     rw[Heap.size_push];simp only[ag,ai,cV,or_false,not_or];exact⟨ao (de _),be ll⟩
    refine a82 ((Walks.list h3 _ l nI items).toS) s.heap.objs.size nf (λi=>ns.getD i k0) (λi v e=>by
     have e':items.toList[i]?=some v:=by rw[bt];exact e
     obtain⟨k,h1,h2⟩:=b53 hi e';exact⟨by rw[bO,h1];exact h2,hsv v (aD e')⟩) hb (items.size-0) 0 _ [] (by omega) (aK _)
     ⟨⟨_,Heap.get?_push_size _ rfl,rfl,rfl⟩,(il.push _)⟩ (SI.fresh (Heap.get?_push_of_some _ gS)) ⟨.nil,af _,λx=>by simp⟩ λs' ms mv hS hM=>?_
    obtain⟨h',g',d',tk',os'⟩:=s';have eg:g'=s.gens:=mv.gens;have ed:d'=s.drawn:=mv.drawn;have eo:os'=s.os:=mv.os;subst eg ed eo
    show wpAny _ _ _ _ _ _
    refine fc ?_
    show wpAny _ _ (ret Value.none) _ _ _
    refine fc ⟨rfl,h',tk',ms,rfl,hS,hM,λb o hb e=>?_⟩;refine mv.heap b o ?_ (Heap.get?_push_of_some _ (Heap.get?_push_of_some _ e));simp only[ag,ai,cV,or_false,not_or];exact⟨ao hb,by rw[Heap.size_push];exact ao (b9 hb)⟩
   ·cases r2 with
    |error e=>exact hr2
    |ok f2=>
     cases f2 with
     |ret r=>
      obtain⟨rfl,h',tk,ms,rfl,hS,hM,hk⟩:=hr2
      repeat (any_goals (first |assumption |wp_step))
      exact h _ _ _ hS hM hk
     |_=>exact hr2.elim
  |_=>exact hr.elim
end
def sit_next:Slot "set_iterator" "__next__" "set_iterator.__next__":=.of (owner:="set_iterator") (n:="__next__") (by rw[typeLookup_type,builtinLookup_eq_fast];kernel_rfl) (by decide +kernel) (by decide +kernel) (by decide +kernel) (by first |exact .inl (by decide +kernel) |exact .inr (by decide +kernel)) (by rw[iA];kernel_rfl)
def a0J:iU table "set_iterator.__next__"=some fv.«set_iterator.__next__»:=entryFor_of_tree (by kernel_rfl)
def a5c:Slot "set_iterator" "__iter__" "set_iterator.__iter__":=.of (owner:="set_iterator") (n:="__iter__") (by rw[typeLookup_type,builtinLookup_eq_fast];kernel_rfl) (by decide +kernel) (by decide +kernel) (by decide +kernel) (by first |exact .inl (by decide +kernel) |exact .inr (by decide +kernel)) (by rw[iA];kernel_rfl)
def a2H:iU table "set_iterator.__iter__"=some fv.«dict_keyiterator.__iter__»:=ju (id':="dict_keyiterator.__iter__") (by kernel_rfl) rfl (by decide +kernel) (by kernel_rfl)
def a2I:iU table "set.__iter__"=some fv.«frozenset.__iter__»:=ju (id':="frozenset.__iter__") (by kernel_rfl) rfl (by decide +kernel) (by kernel_rfl)
def a3Z:Manifest.owners.lookup (String.ofList ['r','o','t','a','r','e','t','i','_','t','e','s'].reverse)=some Manifest.sig_set_iterator:=by kernel_rfl
def a0Q(a:Value):argsOk "set_iterator.__next__" ⟨[a],[]⟩:=by unfold argsOk;rw[signature?_of (n:=['_','_','t','x','e','n','_','_']) (by kernel_rfl) a3Z];kernel_rfl
def a3s(a:Value):argsOk "set_iterator.__iter__" ⟨[a],[]⟩:=by unfold argsOk;rw[signature?_of (n:=['_','_','r','e','t','i','_','_']) (by kernel_rfl) a3Z];kernel_rfl
def SetIt(h:Heap)(it a:Addr)(first:Value)(i n ep:Nat):Prop:=∃o,h.get? it=some o/\o.cls=.type "set_iterator"/\o.data=.fields #[first,.int i 0,.ref a,.int n 0,.int ep 0]
def SetIt.ty{s:Shared}(x:SetIt s.heap it a f i n ep):s.TypeIs (.ref it) "set_iterator":=let ⟨o,g,c,_⟩:=x;⟨o,g,c⟩
def SetIt.at(x:SetIt h it a f i n ep)(e:∀o,h.get? it=some o->h'.get? it=some o):SetIt h' it a f i n ep:=let ⟨o,g,r⟩:=x;⟨o,e _ g,r⟩
section
variable{prog:fq}{w:World}{A:Around}{E:Value->Shared->Prop}{s:Shared}{it a:Addr}{f:Value}{i n ep:Nat}{o:Obj}{es:Array (Int×Value)}{t:fe}
def a3t(x:SetIt s.heap it a f i n ep)(h:Q (.ref it) s):wpAny (model prog w) A (pyIter (.ref it)) Q E s:=by
 refine wpAny_pyIter_slot x.ty a5c (fR a5c x.ty a2H ?_ (a3s _));exact fc ⟨_,rfl,"set_iterator",_,x.ty,sit_next.lookup,h⟩
def a5d(hh:A.handled=none)(hQ:∀h':Heap,(∀b o,s.heap.get? b=some o->h'.get? b=some o)->Q none { s with heap:=h' }) :
  wpAny (model prog w) A.in1 (newExc (.type "StopIteration") [] >>= λe=>(raiseNew e:Sem Final)) (λ_ _=>False) (λe s'=>wpAny (model prog w) A (do if <- isInstance e (.type "StopIteration") then pure (none:Option Value) else throw e) Q E s') s:=by
 refine e9 (e9 (gh ?_ (by size_fits)));refine e9 (iT (by first |rfl | (simp;rfl)) (gh ?_ (by size_fits)))
 refine e9 (wpAny_handled ?_);rw[hh];refine e9 (fc (wpAny_throw ?_));refine e9 (iB ⟨_,Heap.get?_push_size _ rfl,rfl⟩ isSubtype_stop ?_);exact fc (hQ _ λb o e=>Heap.get?_push_of_some _ (Heap.get?_push_of_some _ e))
end
section
variable{prog:fq}{w:World}{A:Around}{E:Value->Shared->Prop}{s:Shared}{it a:Addr}{f:Value}{i n ep k:Nat}{o:Obj}{es:Array (Int×Value)}{t:fe}{K:Type}[DecidableEq K]{kd:KeyKind prog w K}{ms:List K}
def a30(S:SO kd s.heap a es ep t ms)(hT:byT w=true)(h:Q (((gb (w.params.setOrder a ep) es)[i]?).map λe=>(e.2,k)) s) :
  wpAny (model prog w) A (iV a k i ep) Q E s:=by
 obtain⟨⟨o,f,n,d⟩,l,g,j,b,m⟩:=id S;refine e9 (fU f d b (f6 (λ_=>?_) λc=>absurd hT c));simp;refine e9 (e9 (fU f d b (f6 (λ_=>?_) λc=>absurd hT c)));exact e9 (gR (fc (fc h)))
def a20(S:SO kd s.heap a es ep t ms)(hT:byT w=false)(hp:(!t.plain&&decide (es.size > 1))=false)
  (h:Q (match es[fe.below t.place k]?,t.place[fe.below t.place k]? with |some (_,x),some j=>some (x,j+1) |_,_=>none) s) :
  wpAny (model prog w) A (iV a k i ep) Q E s:=by
 obtain⟨⟨o,g,n,f⟩,m,e,l,b,d⟩:=id S;refine e9 (fU g f b (f6 (λc=>by rw[show (model prog w).w.params.followText "set-order"=byT w from rfl,hT]at c;cases c) λ_=>?_))
 show wpAny _ _ (if (!t.plain&&decide _)=true then _ else _) _ _ _
 rw[hp]
 show wpAny _ _ ((if _=true then _ else _) >>= _) _ _ _
 rw[d.ld,hT];exact e9 (fc (fc h))
def a31(x:SetIt s.heap it a (.int k 0) i es.size ep)(S:SO kd s.heap a es ep t ms)
  (hnx:∀(B:Around)(F:Value->Shared->Prop)(R:Option (Value×Nat)->Shared->Prop),R (some (v,nx)) s->wpAny (model prog w) B (iV a k i ep) R F s)
  (hQ:∀h',SetIt h' it a (.int nx 0) (i+1) es.size ep->Heap.SameBut it s.heap h'->Q (some v) { s with heap:=h' }):wpAny (model prog w) A (pyNext (.ref it)) Q E s:=by
 obtain⟨u,e,n,b⟩:=id x;obtain⟨⟨o,l,C,j⟩,r,h,y,c,z⟩:=id S;refine e9 (gA (wpAny_callSpecial?_slot x.ty sit_next (fR sit_next x.ty a0J ?_ (a0Q _))));refine e9 (fc (e9 (iW e b (e9 (gU l j c ?_)))));simp;refine e9 (hnx _ _ _ (e9 (gC e b (by simp) ?_)));have f:=Heap.get?_update_self (Obj.mapFields (·.setIfInBounds 0 (rawInt nx))) e (Obj.isFreed_of_fields (Obj.data_mapFields b _));have d:=Obj.data_mapFields b (·.setIfInBounds 0 (rawInt nx));refine e9 (gC f d (by simp) ?_);have q:=Obj.data_mapFields d (·.setIfInBounds 1 (rawInt (i+1)));have p:SetIt _ it a (.int nx 0) (i+1) es.size ep:=
  ⟨_,(Heap.get?_update_self (Obj.mapFields (·.setIfInBounds 1 (rawInt (i+1)))) f (Obj.isFreed_of_fields (Obj.data_mapFields d _))),(Obj.cls_mapFields ..).trans ((Obj.cls_mapFields ..).trans n),by rw[q];simp[rawInt]⟩
 refine fc ⟨_,rfl,?_⟩;exact fc (hQ _ p ((Heap.SameBut.update ..).trans (Heap.SameBut.update ..)))
def a5e(hh:A.handled=none)(x:SetIt s.heap it a (.int k 0) i es.size ep)(S:SO kd s.heap a es ep t ms)
  (hnx:∀(B:Around)(F:Value->Shared->Prop)(R:Option (Value×Nat)->Shared->Prop),R none s->wpAny (model prog w) B (iV a k i ep) R F s)
  (hQ:∀h',(∀b o,b≠it->s.heap.get? b=some o->h'.get? b=some o)->Q none { s with heap:=h' }):wpAny (model prog w) A (pyNext (.ref it)) Q E s:=by
 obtain⟨u,d,G,f⟩:=id x;obtain⟨⟨o,g,C,p⟩,v,h,r,c,y⟩:=id S;refine e9 (gA (wpAny_callSpecial?_slot x.ty sit_next (fR sit_next x.ty a0J ?_ (a0Q _))));refine e9 (fc (e9 (iW d f (e9 (gU g p c ?_)))));simp;refine e9 (hnx _ _ _ (e9 (gC d f (by simp) (fD (a5d hh λj n=>?_) (λ_ _ z=>z.elim) λe D z=>z))));exact (hQ j λb o l e=>n b o ((Heap.SameBut.update s.heap it _).extBut b o l e))
end
theorem a10{α:Type}:∀(l:List α){i:Nat}(h:i<l.length),l.Perm (l[i]::l.eraseIdx i)
 |x::l,0,_=>by simp
 |x::l,i+1,h=>by
  exact (aH.cons x (a10 l (by simpa using h))).trans (aH.swap _ _ _)
def b1e{α:Type}(next:Nat->Nat):∀(fuel k:Nat)(left:List α)(out:Array α),fuel=left.length->(gb.go next fuel k left out).toList.Perm (out.toList++left):=by intro z0;induction z0 with
 |zero=>
  intro k left out h
  have:=bK.mp h.symm
  subst this;unfold gb.go;simp
 |succ fuel I0=>
  intro k left out h;unfold gb.go;have a:next k % left.length<left.length:=cW _ (by lia);rw[ak a];refine (I0 _ _ _ (by grind)).trans ?_;rw[aU,aN];exact aH.append_left _ (a10 left a).symm
def a2B{α:Type}(next:Nat->Nat)(xs:Array α):(gb next xs).toList.Perm xs.toList:=by
 have:=b1e next xs.size 0 xs.toList #[] (by simp)
 simpa[gb]using this
noncomputable def a1J(t:fe):Nat->Nat
 |0=>0
 |j+1=>t.place.getD j 0+1
def a21(h:TOk led t)(hi:i<=t.place.size):fe.below t.place (a1J t i)=i:=by
 obtain⟨f,a,d⟩:=a5b h.up (a1J t i);cases i with
 |zero=>
  by_cases c:fe.below t.place (a1J t 0)=0
  ·grind
  ·have:=a 0 (by lia) (by lia)
   have z:a1J t 0=0:=rfl
   lia
 |succ j=>
  have b:j<t.place.size:=by lia
  have e:a1J t (j+1)=t.place[j]+1:=by show t.place.getD j 0+1=_;rw[cq,bo b];rfl
  rcases Nat.lt_trichotomy (fe.below t.place (a1J t (j+1))) (j+1) with c |c |c
  ·grind
  ·lia
  ·have q:=a (j+1) (by lia) c;have r:=a8Z h.up (show j<j+1 by lia) (by lia)
   lia
def SO.at{K:Type}[DecidableEq K]{kd:KeyKind prog w K}{ms:List K}(S:SO kd h a es ep t ms)(k:∀o,h.get? a=some o->h'.get? a=some o):SO kd h' a es ep t ms:=by
 obtain⟨⟨o,g,x,d⟩,i,f,e,b,c⟩:=S;exact⟨⟨o,k o g,x,d⟩,i,f,e,b,c⟩
section
variable{prog:fq}{w:World}{A:Around}{E:Value->Shared->Prop}{s:Shared}{it a T:Addr}{f:Value}{i n ep k:Nat}{o:Obj}{es:Array (Int×Value)}{t:fe}{K:Type}[DecidableEq K]{kd:KeyKind prog w K}{ms:List K}{ps:List Nat}
noncomputable def a83(w:World)(a:Addr)(ep:Nat)(es:Array (Int×Value)):List Value:=(gb (w.params.setOrder a ep) es).toList.map (·.2)
def a7p(hh:A.handled=none)(hne:a≠it)(hT:byT w=true):Walks prog w A it [it,a] [it] es.size (λi v=>(a83 w a ep es)[i]?=some v) (λi h=>SetIt h it a (.int (0:Nat) 0) i es.size ep/\SO kd h a es ep t ms):=by
 have p:(gb (w.params.setOrder a ep) es).size=es.size:=by rw[<- aF,(a2B _ es).length_eq,aF]
 refine⟨λb d=>by simp at d;simp[d],λ_ _ _ c m=>⟨c.1.at λo e=>m it (by simp) o e,c.2.at λo e=>m a (by simp) o e⟩,λi s Q E q c f=>?_,λs Q E c f=>?_,λ_ _ _ _ c f=>a3t c.1 f⟩
 ·have l:(gb (w.params.setOrder a ep) es)[i]?=some ((gb (w.params.setOrder a ep) es)[i]'(by lia)):=bo _;refine a31 (v:=((gb (w.params.setOrder a ep) es)[i]'(by lia)).2) (nx:=0) c.1 c.2 (λB F R g=>a30 c.2 hT ?_) λj x k=>?_
  ·simp_all
  ·refine f _ j s.toks ?_ ⟨x,c.2.at λo e=>k.extBut a o hne e⟩ λb o d e=>k.extBut b o (λz=>d (by simp[z])) e;unfold a83;rw[aq,bt,l]
   rfl
 ·refine a5e hh c.1 c.2 (λB F R g=>a30 c.2 hT ?_) λj n=>f j s.toks λb o d e=>n b o (λz=>d (by simp[z])) e;rw[eF (by lia)];exact g
def a5V(hh:A.handled=none)(hne:a≠it)(hT:byT w=false)(hp:(!t.plain&&decide (es.size > 1))=false)(hf:t.fits es.size=true)(ok:TOk (!byT w) t) :
  Walks prog w A it [it,a] [it] es.size (λi v=>(es.toList.map (·.2))[i]?=some v) (λi h=>SetIt h it a (.int (a1J t i) 0) i es.size ep/\SO kd h a es ep t ms):=by
 have q:t.place.size=es.size:=by
  simp only[fe.fits,aQ,beq_iff_eq]at hf;exact hf.1
 refine⟨λb d=>by simp at d;simp[d],λ_ _ _ c m=>⟨c.1.at λo e=>m it (by simp) o e,c.2.at λo e=>m a (by simp) o e⟩,λi s Q E n c f=>?_,λs Q E c f=>?_,λ_ _ _ _ c f=>a3t c.1 f⟩
 ·have j:i<t.place.size:=by lia
  refine a31 (v:=es[i].2) (nx:=a1J t (i+1)) c.1 c.2 (λB F R g=>a20 c.2 hT hp ?_) λk x l=>?_
  ·rw[a21 ok (by lia),bo n,bo j];have e:a1J t (i+1)=t.place[i]+1:=by show t.place.getD i 0+1=_;rw[cq,bo j];rfl
   rw[e]at g;exact g
  ·refine f _ k s.toks ?_ ⟨x,c.2.at λo e=>l.extBut a o hne e⟩ λb o d e=>l.extBut b o (λz=>d (by simp[z])) e;rw[aq,bt,bo n]
   rfl
 ·refine a5e hh c.1 c.2 (λB F R g=>a20 c.2 hT hp ?_) λk p=>f k s.toks λb o d e=>p b o (λz=>d (by simp[z])) e;rw[a21 ok (by lia),eF (by lia)];exact g
end
section
variable{prog:fq}{w:World}{A:Around}{E:Value->Shared->Prop}{s:Shared}{it a T:Addr}{f:Value}{i n ep k:Nat}{o:Obj}{es:Array (Int×Value)}{t:fe}{K:Type}[DecidableEq K]{kd:KeyKind prog w K}{ms:List K}{ps:List Nat}
def b1f(hn:n≠0)(h:∀i d',i<n->Q i { s with drawn:=d' }):wpAny (model prog w) A (choose src n) Q E s:=
 λ_ _ _=>⟨hn,h _ _ (cW _ (Nat.pos_of_ne_zero hn))⟩
theorem a3u{α:Type}:∀(n:Nat)(xs:List α)(s:Shared)(Q:List α->Shared->Prop),xs.length=n->(∀ys d',ys.Perm xs->Q ys { s with drawn:=d' })->wpAny (model prog w) A (drawOrder n xs) Q E s
 |0,xs,s,Q,hl,h=>by
  have:=bK.mp hl
  subst this;exact fc (h [] s.drawn .nil)
 |n+1,[],s,Q,hl,h=>by cases hl
 |n+1,x::xs,s,Q,hl,h=>by
  refine e9 (b1f (by simp) λi e a=>?_);rw[ak a];exact e9 (a3u n _ _ _ (by grind) λd c b=>(fc (h _ c ((aH.cons _ b).trans (a10 _ a).symm))))
def PlacesAt(h:Heap)(T:Addr)(ps:List Nat):Prop:=∃o c,h.get? T=some o/\o.data=.seq (ps.map λ(i:Nat)=>rawInt i).toArray c
def PlacesAt.at(x:PlacesAt h T ps)(k:∀o,h.get? T=some o->h'.get? T=some o):PlacesAt h' T ps:=by obtain⟨o,c,g,d⟩:=x;exact⟨o,c,k _ g,d⟩
def a5W(x:SetIt s.heap it a (.ref T) i es.size ep)(S:SO kd s.heap a es ep t ms)(y:PlacesAt s.heap T ps)(hp:ps[i]?=some p)(he:es[p]?=some e)
  (hQ:∀h',SetIt h' it a (.ref T) (i+1) es.size ep->Heap.SameBut it s.heap h'->Q (some e.2) { s with heap:=h' }):wpAny (model prog w) A (pyNext (.ref it)) Q E s:=by
 obtain⟨u,f,k,d⟩:=id x;obtain⟨⟨o,h,G,g⟩,D,n,B,b,C⟩:=id S;obtain⟨F,c,q,v⟩:=y;refine e9 (gA (wpAny_callSpecial?_slot x.ty sit_next (fR sit_next x.ty a0J ?_ (a0Q _))));refine e9 (fc (e9 (iW f d (e9 (gU h g b ?_)))));rw[if_neg (by simp)];refine e9 (e9 (ii q ?_));rw[v];refine fc ?_;dsimp only;have r:(ps.map λ(i:Nat)=>rawInt i).toArray[(i:Int).toNat]?=some (rawInt p):=by simp_all
 rw[r]
 show wpAny _ _ (setNextDrawn a (p:Int).toNat (ep:Int).toNat >>= _) _ _ _
 refine e9 (e9 (fU h g b ?_));simp;rw[he];refine fc (e9 (gC f d (by simp) ?_));have j:=Obj.data_mapFields d (·.setIfInBounds 1 (rawInt ((i:Int)+1)));have z:SetIt _ it a (.ref T) (i+1) es.size ep:=
  ⟨_,(Heap.get?_update_self (Obj.mapFields (·.setIfInBounds 1 (rawInt ((i:Int)+1)))) f (Obj.isFreed_of_fields (Obj.data_mapFields d _))),(Obj.cls_mapFields ..).trans k,by rw[j];simp[rawInt]⟩
 refine fc ⟨_,rfl,?_⟩;exact fc (hQ _ z (Heap.SameBut.update ..))
def a7q(hh:A.handled=none)(x:SetIt s.heap it a (.ref T) i es.size ep)(S:SO kd s.heap a es ep t ms)(y:PlacesAt s.heap T ps)(hp:ps[i]?=none)
  (hQ:∀h',(∀b o,b≠it->s.heap.get? b=some o->h'.get? b=some o)->Q none { s with heap:=h' }):wpAny (model prog w) A (pyNext (.ref it)) Q E s:=by
 obtain⟨u,f,I,d⟩:=id x;obtain⟨⟨o,k,J,C⟩,G,p,H,g,F⟩:=id S;obtain⟨L,c,j,l⟩:=y;refine e9 (gA (wpAny_callSpecial?_slot x.ty sit_next (fR sit_next x.ty a0J ?_ (a0Q _))));refine e9 (fc (e9 (iW f d (e9 (gU k C g ?_)))));rw[if_neg (by simp)];refine e9 (e9 (ii j ?_));rw[l];refine fc ?_;dsimp only;have v:(ps.map λ(i:Nat)=>rawInt i).toArray[(i:Int).toNat]?=none:=by simp_all
 rw[v];dsimp only;refine e9 (gC f d (by simp) ?_);have r:=Obj.data_mapFields d (·.setIfInBounds 0 (rawInt 0));refine e9 (gC (Heap.get?_update_self (Obj.mapFields (·.setIfInBounds 0 (rawInt 0))) f (Obj.isFreed_of_fields (Obj.data_mapFields d _))) r (by simp) ?_);refine fD (a5d hh λB h=>?_) (λ_ _ z=>z.elim) λe M z=>z;exact (hQ B λb o n e=>h b o (((Heap.SameBut.update s.heap it _).trans (Heap.SameBut.update _ it _)).extBut b o n e))
noncomputable def a32(es:Array (Int×Value))(ps:List Nat):List Value:=ps.map λp=>((es[p]?).getD (0,.none)).2
def a5X(hh:A.handled=none)(hne:a≠it)(hnT:T≠it)(hps:ps.Perm (aC es.size)) :
  Walks prog w A it [it,a,T] [it] es.size (λi v=>(a32 es ps)[i]?=some v) (λi h=>SetIt h it a (.ref T) i es.size ep/\SO kd h a es ep t ms/\PlacesAt h T ps):=by
 have q:ps.length=es.size:=by rw[hps.length_eq,cB]
 refine⟨λb d=>by simp at d;simp[d],λ_ _ _ c l=>⟨c.1.at λo e=>l it (by simp) o e,c.2.1.at λo e=>l a (by simp) o e,c.2.2.at λo e=>l T (by simp) o e⟩,λi s Q E r c f=>?_,λs Q E c f=>?_,λ_ _ _ _ c f=>a3t c.1 f⟩
 ·have g:i<ps.length:=by lia
  have m:=bx.mp (hps.mem_iff.mp (bu g));refine a5W c.1 c.2.1 c.2.2 (ak g) (bo m) λj x k=>?_;refine f _ j s.toks ?_ ⟨x,c.2.1.at λo e=>k.extBut a o hne e,c.2.2.at λo e=>k.extBut T o hnT e⟩ λb o d e=>k.extBut b o (λz=>d (by simp[z])) e;unfold a32;rw[aq,ak g,b7,bo m]
  rfl
 ·exact a7q hh c.1 c.2.1 c.2.2 (cD (by lia)) λj n=>f j s.toks λb o d e=>n b o (λz=>d (by simp[z])) e
end
section
variable{prog:fq}{w:World}{A:Around}{E:Value->Shared->Prop}{s:Shared}{it a T:Addr}{f:Value}{i n ep k:Nat}{o:Obj}{es:Array (Int×Value)}{t:fe}{K:Type}[DecidableEq K]{kd:KeyKind prog w K}{ms:List K}{ps:List Nat}
def a7r{α:Type}(d:α)(l:Array α):(aC l.size).map (λp=>(l[p]?).getD d)=l.toList:=by
 refine eG (by simp) λi b a=>?_
 have:i<l.size:=by omega
 simp[this]
def a5Y(hps:ps.Perm (aC es.size)):(a32 es ps).Perm (es.toList.map (·.2)):=by
 have q:=hps.map λp=>((es[p]?).getD (0,Value.none)).2;refine q.trans (aH.of_eq ?_);rw[<- a7r (0,Value.none) es,aZ]
 rfl
def SO.ty(S:SO kd s.heap a es ep t ms):s.TypeIs (.ref a) "set":=by obtain⟨o,g,x,_⟩:=S.at_;exact⟨o,g,x.1⟩
def SO.len(S:SO kd s.heap a es ep t ms):es.size=ms.length:=by
 have q:=a7n S.nums;simpa using q
abbrev b3N(f:Value)(a:Addr)(n ep:Nat):Obj:={ cls:=.type "set_iterator",data:=.fields #[f,.int (0:Nat) 0,.ref a,.int n 0,.int ep 0] }
def a2C{h:Heap}:SetIt (h.push (b3N f a n ep)) h.objs.size a f 0 n ep:=⟨_,Heap.get?_push_size _ rfl,rfl,rfl⟩
def a84(hh:A.handled=none)(S:SI kd s.heap a ms)
  (h:∀(I:Addr)(fp:List Addr)(g:Heap)(d':Drawn)(vs:List Value)(ns:List K)(St:Nat->Heap->Prop),(∀b o,s.heap.get? b=some o->g.get? b=some o)->s.heap.objs.size<=I->(∀b∈fp,b=a\/s.heap.objs.size<=b) ->
   KsAre kd vs ns->ns.Perm ms->Walks prog w A I fp [I] vs.length (λi v=>vs[i]?=some v) St->St 0 g->Q (.ref I) { s with heap:=g,drawn:=d' }) :
  wpAny (model prog w) A (pyIter (.ref a)) Q E s:=by
 obtain⟨es,ep,t,S⟩:=S;obtain⟨⟨o,p,hx,y⟩,hel,n,N,f,L⟩:=id S;have G:a<s.heap.objs.size:=Heap.lt_size p;refine wpAny_pyIter_slot S.ty PySem.F.slot_set_iter (fR PySem.F.slot_set_iter S.ty a2I ?_ (PySem.F.args_set_iter_1 _));unfold fv.«frozenset.__iter__» fv.Frozenset.slot0 fv.Frozenset.sizeOf;refine e9 (e9 (fc (fc (e9 (e9 (gU p y f (fc ?_)))))));unfold setDrawn iX;refine e9 (e9 (fU p y f (e9 (e9 (gR (fc ?_))))));dsimp only;refine fc ?_
 show wpAny _ _ (if (!byT w&&(!t.plain&&decide (es.size > 1)))=true then _ else _) _ _ _
 have B:(es.toList.map (·.2)).length=es.size:=by simp
 by_cases c:(!byT w&&(!t.plain&&decide (es.size > 1)))=true
 ·rw[if_pos c];refine e9 (a3u es.size (aC es.size) _ _ (by simp) λx d' q=>?_);have r:x.length=es.size:=by rw[q.length_eq,cB]
  have sb:fS<=16777216:=by decide
  refine e9 (hZ ?_ (by rw[ae,r,fC];lia));refine e9 (iY (Heap.get?_push_of_some _ p) y f ?_);unfold newFields;refine e9 (gh (fc ⟨_,rfl,"set_iterator",_,⟨_,Heap.get?_push_size _ rfl,rfl⟩,sit_next.lookup,?_⟩));obtain⟨D,C,H⟩:=a0H n (a5Y (es:=es) q);have k:s.heap.objs.size<(s.heap.push { cls:=.type "tuple",data:=.seq (x.map λ(i:Nat)=>rawInt i).toArray }).objs.size:=by rw[Heap.size_push];exact de _
  have j:=a5X (kd:=kd) (A:=A) (t:=t) (ms:=ms) (ep:=ep) (a:=a) hh (ao (dq G k)) (ao k) q;have e:(a32 es x).length=es.size:=by unfold a32;rw[ae,r]
  rw[<- e]at j;refine h _ _ _ _ _ D _ (λb o g=>Heap.get?_push_of_some _ (Heap.get?_push_of_some _ g)) (a9 k) (λb u=>?_) C H j ⟨?_,S.at λo g=>Heap.get?_push_of_some _ (Heap.get?_push_of_some _ g),⟨_,_,Heap.get?_push_of_some _ (Heap.get?_push_size _ rfl),rfl⟩⟩
  ·simp only[ag,cV,or_false]at u;rcases u with rfl |rfl |rfl
   ·exact .inr (a9 k)
   ·exact .inl rfl
   ·exact .inr (af _)
  ·rw[e];exact a2C
 ·rw[if_neg c];refine e9 (fc (e9 (iY p y f ?_)));unfold newFields;refine e9 (gh (fc ⟨_,rfl,"set_iterator",_,⟨_,Heap.get?_push_size _ rfl,rfl⟩,sit_next.lookup,?_⟩));have z:∀b∈[s.heap.objs.size,a],b=a\/s.heap.objs.size<=b:=λb u=>by grind
  cases k:byT w with
  |true=>
   have J:(a83 w a ep es).Perm (es.toList.map (·.2)):=(a2B _ es).map _;obtain⟨D,C,H⟩:=a0H n J;have j:=a7p (kd:=kd) (A:=A) (t:=t) (ms:=ms) (ep:=ep) (es:=es) (a:=a) hh (ao G) k;have e:(a83 w a ep es).length=es.size:=by rw[J.length_eq,B]
   rw[<- e]at j;refine h _ _ _ _ _ D _ (λb o g=>Heap.get?_push_of_some _ g) (af _) z C H j ⟨?_,S.at λo g=>Heap.get?_push_of_some _ g⟩;rw[e];exact a2C
  |false=>
   have M:(!t.plain&&decide (es.size > 1))=false:=by
    rw[k]at c;simpa using c
   have j:=a5V (kd:=kd) (A:=A) (t:=t) (ms:=ms) (ep:=ep) (es:=es) (a:=a) hh (ao G) k M f L;rw[<- B]at j;refine h _ _ _ _ _ ms _ (λb o g=>Heap.get?_push_of_some _ g) (af _) z n (aH.refl _) j ⟨?_,S.at λo g=>Heap.get?_push_of_some _ g⟩;rw[B];exact a2C
end
section
variable{prog:fq}{w:World}{A:Around}{E:Value->Shared->Prop}{s:Shared}{a:Addr}{K:Type}[DecidableEq K]{kd:KeyKind prog w K}{ms:List K}
def a85(y:s.TypeIs (.ref a) "set")(h:Q false s):wpAny (model prog w) A (fv.List.listLengthHint (.ref a)) Q E s:=by
 refine e9 (wpAny_specialOf y PySem.F.slot_set_len.lookup ?_);generalize e0:_=z;exact e9 (iB (b:=true) y (by rw[iA];kernel_rfl) (e9 (je y (fc h))))
def a86(h:ItemsOf (λi v=>vs[i]?=some v) acc vs.length):acc.toList=vs:=by
 obtain⟨a,b⟩:=h;refine eG (by omega) λi d c=>?_;have e:i<acc.size:=by omega
 have:vs[i]?=some acc[i]:=b i acc[i] (bo e)
 rw[ak c]at this;simpa using this.symm
def a5Z(hh:A.handled=none)(S:SI kd s.heap a ms)(L:Addr)(hL:L≠a)(res:Value)(c0:Nat)(gL:s.heap.get? L=some { cls:=.type "list",data:=.seq #[] c0 })
  (hR:∀g tk d' acc c' ns,(∀b o,b≠L->s.heap.get? b=some o->g.get? b=some o)->g.get? L=some { cls:=.type "list",dict:=none,data:=.seq acc c',slots:=#[] }->KsAre kd acc.toList ns->ns.Perm ms->R (.ok (.ret res)) { s with heap:=g,drawn:=d',toks:=tk }) :
  wpAny (model prog w) A.in1 (fv.List.listExtendWith (.ref L) (.ref a) res)
   (λfin s'=>match fin with |.done f=>R (.ok f) s' |.again c'=>c'.quiet=true/\f9 (model prog w) A c' R s') (λe s'=>R (.error e) s') s:=by
 have ty:s.TypeIs (.ref a) "set":=by obtain⟨_,_,_,S'⟩:=S;exact S'.ty
 have small:ms.length<=sizeLine:=by
  obtain⟨es,ep,t,S'⟩:=S;have q1:=S'.len;have q2:=S'.sc;have sb:fS<=16777216:=by decide
  rw[fC];lia
 have lL:=Heap.lt_size gL;unfold fv.List.listExtendWith;refine e9 (je ty ?_);have n1:fv.List.listSameRef (.ref L) (.ref a)=false:=by simp[fv.List.listSameRef,hL]
 have n2:(Value.type "set"==Value.type "list")=false:=by decide
 have n3:(Value.type "set"==Value.type "tuple")=false:=by decide
 simp only[n1,n2,n3,Bool.or_false,bD,if_false];refine e9 (a84 hh S λI fp g d' vs ns St kp hI hfp i1 i2 wk st=>?_);have nf:L∉fp:=λz=>(hfp L z).elim hL λq=>aW _ (aB lL q);have hz:vs.length<=sizeLine:=by
  have q:=a7n i1;rw[i2.length_eq]at q
  lia
 have key:∀(d:Heap)(c1:Nat),St 0 d->(∀b o,b≠L->g.get? b=some o->d.get? b=some o)->d.get? L=some { cls:=.type "list",data:=.seq #[] c1 } ->
   f9 (model prog w) A (.builtin "list.extend.loop" ⟨[.ref L,.ref I,res],[]⟩) R { s with heap:=d,drawn:=d' }:=by
  intro d c1 st2 k2 gL2;refine codeAny_extend_loopS wk.toS hz L nf res vs.length 0 _ #[] c1 rfl (aK _) st2 gL2 (ItemsOf.nil _) λs3 acc c3 mv g3 hacc=>?_;rw[Moved.eq_with mv];refine hR s3.heap s3.toks d' acc c3 ns (λb o i e=>mv.heap b o (λhm=>?_) (k2 b o i (kp b o e))) g3 (a86 hacc▸i1) i2;rcases ag.mp hm with q |q
  ·exact i q
  ·rw[ai.mp q]at e;exact aW _ (aB (Heap.lt_size e) hI)
 have h:=kp L _ gL;refine e9 (fI (a85 (by obtain⟨o,e,c⟩:=ty;exact⟨o,kp _ _ e,c⟩) (f6 (λ_=>?_) λ_=>fc ⟨iz PySem.F.plain_extend_loop _,key _ c0 st (λb o _ e=>e) h⟩)));refine e9 (gg (e9 ?_))
 show wpAny _ _ (updateSeq L (·.push .none) >>= λ_=>updateSeq L (·.pop)) _ _ _
 refine e9 (jv h rfl ?_);have d:=Heap.get?_update_self (Obj.mapSeq (·.push Value.none)) h rfl;refine jv d rfl ?_;have j:∀b o,b≠L->g.get? b=some o->((g.update L (Obj.mapSeq (·.push Value.none))).update L (Obj.mapSeq (·.pop))).get? b=some o:=λb o i e=>
  (Heap.get?_update_other _ _ (Ne.symm i)).trans ((Heap.get?_update_other _ _ (Ne.symm i)).trans e)
 exact fc ⟨iz PySem.F.plain_extend_loop _,key _ _ (wk.frame 0 _ _ st λb hb o e=>j b o (λq=>nf (q▸hb)) e) j (Heap.get?_update_self (Obj.mapSeq (·.pop)) d rfl)⟩
def collect_set(hh:A.handled=none)(S:SI kd s.heap a ms)
  (h:∀(g:Heap)(tk:Nat)(d':Drawn)(vs:List Value)(ns:List K),(∀b o,s.heap.get? b=some o->g.get? b=some o)->KsAre kd vs ns->ns.Perm ms->R vs { s with heap:=g,drawn:=d',toks:=tk }) :
  wpAny (model prog w) A (collect (.ref a)) R E s:=by
 have C:=let ⟨_,_,_,S'⟩:=S;let ⟨_,g,_⟩:=S'.at_;Heap.lt_size g
 refine e9 (wpAny_runValue (gQ PySem.F.entry_proto_collect ?_));rw[Around.under_plainId PySem.F.plain_proto_collect _];refine e9 (gh (fc ⟨iz PySem.F.plain_list_iadd _,gQ PySem.F.entry_list_iadd ?_⟩));rw[Around.under_plainId PySem.F.plain_list_iadd _];have z:(s.heap.push { cls:=.type "list",data:=.seq ([]).toArray }).get? s.heap.objs.size=some { cls:=.type "list",data:=.seq #[] }:=Heap.get?_push_size _ rfl;have u:=a5Z (s:={ s with heap:=s.heap.push { cls:=.type "list",data:=.seq ([]).toArray } })
  (R:=λq t=>∃(g:Heap)(j:Nat)(i:Drawn)(c:Array Value)(n:Nat)(d:List K),q=.ok _/\t={ s with heap:=g,drawn:=i,toks:=j } /\
   (∀b o,s.heap.get? b=some o->g.get? b=some o)/\g.get? s.heap.objs.size=some { cls:=.type "list",dict:=none,data:=.seq c n,slots:=#[] }/\KsAre kd c.toList d/\d.Perm ms)
  hh (S.at λo e=>Heap.get?_push_of_some _ e) s.heap.objs.size (be C) (.ref s.heap.objs.size) 0 z
  λg j i c n d m r p k=>⟨g,j,i,c,n,d,rfl,rfl,λb o e=>m b o (ao (Heap.lt_size e)) (Heap.get?_push_of_some _ e),r,p,k⟩
 refine fD u (λv t x=>?_) λe t x=>?_
 ·cases v with
  |done f=>
   obtain⟨g,j,i,c,n,d,e,rfl,m,r,p,k⟩:=x;cases e;exact e9 (ii r (fc (h g j i _ d m p k)))
  |again c1=>
   refine⟨x.1,gn x.2 λq D y=>?_⟩;obtain⟨g,j,i,c,n,d,rfl,rfl,m,r,p,k⟩:=y;exact e9 (ii r (fc (h g j i _ d m p k)))
 ·obtain⟨_,_,_,_,_,_,B,_⟩:=x;cases B
end
end SetW
namespace L2
open PySem PySem.Spec PyProof.Rows
def a3v:∀{vs:List Value}{ns:List Int},fG vs ns->vs.length=ns.length:=by intro z0 y0 x0;induction x0 with
 |nil=>exact rfl
 |cons n t h I0=>rw[aE,aE,I0]
def a33:∀{vs:List Value}{ns:List Int},fG vs ns->Vals (ns.map V.int) vs:=by intro z0 y0 x0;induction x0 with
 |nil=>exact .nil
 |cons n t h I0=>exact .cons ⟨t,rfl⟩ (I0)
theorem a7s:∀{vs:List Value}{ns:List Int},vs.length=ns.length->(∀(i:Nat) v,vs[i]?=some v->∃n t,ns[i]?=some n/\v=.int n t)->fG vs ns
 |[],[],_,_=>.nil
 |[],_::_,h,_=>by simp at h
 |_::_,[],h,_=>by simp at h
 |v::vs,n::ns,h,q=>by
  obtain⟨m,t,a,b⟩:=q 0 v rfl;simp at a;subst a b;exact .cons _ t (a7s (by simpa using h) λi v e=>by simpa using q (i+1) v (by simpa using e))
section
variable{P:fq}{w:World}{A:Around}{E:Value->Shared->Prop}{s:Shared}
def a34(hmx:ns.length<=1000)
  (hcol:∀R:List Value->Shared->Prop,(∀(g:Heap)(tk:Nat)(d:Drawn)(vs:List Value)(ks:List Int),(∀b o,s.heap.get? b=some o->g.get? b=some o)->fG vs ks->ks.Perm ns->R vs { s with heap:=g,drawn:=d,toks:=tk })->wpAny (model P w) A.in1 (collect (.ref r)) R E s)
  (h:∀(g g':Heap)(tk:Nat)(d:Drawn)(out:List Value)(n:Nat)(ms:List Int),(∀b o,s.heap.get? b=some o->g.get? b=some o)->(∀b o,g.get? b=some o->g'.get? b=some o)->g'.get? g.objs.size=some { cls:=.type "list",data:=.seq out.toArray n } ->
   fG out ms->ms.Perm ns->ms.Pairwise (·<=·)->Q (.ref g.objs.size) { s with heap:=g',drawn:=d,toks:=tk }):wpAny (model P w) A (call (.builtin "sorted") [.ref r]) Q E s:=by
 refine Calls.call_function_entry jw jx jy (args_sorted1 _) (e9 (fc (e9 (hcol _ λg t d f ks p l k=>?_))));have hl:=(a3v l).trans k.length_eq;have v:f.length<=sizeLine:=by rw[fC];lia
 refine e9 (iu ?_ v);have j:(g.push _).get? g.objs.size=some (seqObj "list" f.toArray 0):=Heap.get?_push_size _ rfl;refine e9 (fI (fR jz ⟨_,j,rfl⟩ jA (Tim.sort_any j l (by lia) λout u y x q=>⟨_,rfl,?_⟩) (args_list_sort _)));have c:=sortedHeap_at (out:=out) j;obtain⟨n,c⟩:=c;refine fc ⟨_,rfl,h g _ t d out.toList n u p (λb o e=>?_) (by omega) y (x.trans k) q⟩;have i:=Heap.lt_size e;rw[sortedHeap_old (ao i) (by rw[Heap.size_push];exact b9 i)];exact Heap.get?_push_of_some _ e
end
section
variable{X:Cx}
def Inv.drew(I:Inv X pins σ H s)(d:Drawn):Inv X pins σ H { s with drawn:=d }:=
 I.step (ch:=[]) (λb a=>nomatch a) (λb o _ _ _ e _=>e) (λb o _ _ _ e _=>⟨o.slots,e⟩) (λ_ _ _ _ n=>n) (λb o _ e=>⟨o,e⟩) (λ_ _ e=>e) (λ_ _ _ e=>e) (λb f e=>⟨#[],by rw[e];simp⟩) (λm c=>c) I.hok I.bare
def b1g(K:Fg):List V->Hp->VK->Prop:=λxs H Q=>∃(p:Addr)(ns:List Int),xs=[.ref p]/\(SqL K H p (ns.map V.int)\/∃kvs:List (Key×V),H p=some (.dK kvs)/\kvs.map (·.1)=ns.map λi=>(Sum.inl (some i):Key))/\ns.length<=1000 /\
 ∀(t:Addr)(ms:List Int),H t=none->ms.Perm ns->ms.Pairwise (·<=·)->Q (.ref t) (upd H t (.lst (ms.map V.int)))
def a4A(hc:X.calm=true):CallR X (.builtin "sorted") (b1g X.K):=by
 intro F s σ H xs us Q I r h;obtain⟨p,ns,rfl,C,G,q⟩:=h;obtain⟨u,rfl,rx⟩:=a2c r;cases rx;have hh:=I.ok.hd hc;refine a34 G (λR T=>?_) λg g' l d ab n L k1 k2 e a1 S a3=>?_
 ·rcases C with C |⟨kvs,hd,hk⟩
  ·obtain⟨M,rv,pl,_⟩:=I.list C;have U:=a2S rv;refine collect_list pl.isList ?_ (by rw[a3v U,fC];omega);refine T _ s.toks s.drawn M _ (λb o e=>?_) U (aH.refl _);have ac:=Heap.lt_size e;rw[Heap.get?_update_ne _ _ _ _ (ao ac)];exact Heap.get?_push_of_some _ e
  ·obtain⟨z,lo,E,B,dd⟩:=b0J I.hok hd;obtain⟨ep,ad⟩:=dd.dictAt;have Y:E.length=ns.length:=by rw[<- B.length,<- ae,hk,ae]
   refine PySem.W.kdu_collect (PySem.W.kdl_dict lo) hh ad (by rw[Y,fC];omega) λg l aa kp c=>?_;refine T g l s.drawn aa.toList ns kp (a7s (by rw[aF,c.1,Y]) λi v e=>?_) (aH.refl _);obtain⟨k,x,e1,e2⟩:=c.2 i v (by simp_all);have y:E.map (·.1)=ns.map λi=>(Sum.inl (some i):Key):=by rw[<- B.keys];exact hk
   have j:(ns.map λi=>(Sum.inl (some i):Key))[i]?=some k:=by rw[<- y,aq,e1];rfl
   rw[aq]at j;cases hn:ns[i]? with
   |none=>rw[hn]at j;cases j
   |some n=>
    rw[hn]at j;cases j;have D:Value.isInt n v=true:=e2;cases v with
    |int m t=>exact⟨n,t,rfl,by simp[Value.isInt]at D;rw[D]⟩
    |_=>simp[Value.isInt]at D
 ·have J:Inv X F σ H { s with heap:=g,drawn:=d,toks:=l }:=(I.drew d).kept k1;exact⟨.ref g.objs.size,_,J.laid k2 (af _) (show ObjOk X.prog X.w _ g' _ (.lst (L.map V.int)) from ⟨by rw[ae,S.length_eq,fC];omega,ab,n,a33 a1,e⟩),rfl,q _ L (J.hok.fresh (af _)) S a3⟩
end
structure Zs where
 it:Addr
 tp:Bool
 l:Addr
def Zs.At(z:Zs)(k:Nat)(h:Heap):Prop:=if z.tp=true then h.IsTupleIter z.it z.l k else h.IsListIter z.it z.l k
def Zs.Has(z:Zs)(h:Heap)(xs:Array Value):Prop:=if z.tp=true then h.IsTuple z.l xs else h.IsList z.l xs
def Zs.At.keep{z:Zs}(a:z.At k h)(q:∀o,h.get? z.it=some o->h'.get? z.it=some o):z.At k h':=by
 unfold Zs.At at a ⊢
 split
 ·next e=>rw[if_pos e]at a;exact a.at q
 ·next e=>rw[if_neg e]at a;exact a.at q
def Zs.Has.keep{z:Zs}(a:z.Has h xs)(q:∀o,h.get? z.l=some o->h'.get? z.l=some o):z.Has h' xs:=by
 unfold Zs.Has at a ⊢
 split
 ·next e=>rw[if_pos e]at a;exact let ⟨o,ho,r⟩:=a;⟨o,q o ho,r⟩
 ·next e=>rw[if_neg e]at a;exact let ⟨o,ho,r⟩:=a;⟨o,q o ho,r⟩
def Zs.At.obj{z:Zs}(a:z.At k h):∃o,h.get? z.it=some o/\∀v,o.data≠.cell v:=by
 unfold Zs.At at a
 split at a<;>(obtain⟨o,e,_,d⟩:=a;exact⟨o,e,λv q=>by rw[d]at q;cases q⟩)
section
variable{P:fq}{w:World}{A:Around}{E:Value->Shared->Prop}{s:Shared}
def b3O(ti:s.heap.IsTupleIter it t i)(th:s.heap.IsTuple t xs)(hx:xs[i]?=some x)
  (q:∀g,g.IsTupleIter it t (i+1)->Heap.SameBut it s.heap g->Q x { s with heap:=g }):wpAny (model P w) A (fv.SmallTypes.nextOf (.ref it)) Q E s:=by
 obtain⟨o,b,c,a⟩:=id ti;obtain⟨u,e,_,n,d⟩:=th;refine e9 (wpAny_callSpecial?_slot ti.typeIs PySem.F.slot_tuple_iterator_next
  (fR PySem.F.slot_tuple_iterator_next ti.typeIs PySem.F.entry_tuple_iterator_next ?_ (PySem.F.args_tuple_iterator_next_1 _)))
 show wpAny _ _ (field _ 0 >>= _) _ _ s
 refine e9 (fW b a rfl ?_);refine e9 (fW b a rfl ?_);refine e9 (iC e d ?_);simp only[dH,hx];refine e9 (gC b a (by simp) (fc ⟨x,rfl,fc (q _ ?_ (Heap.SameBut.update ..))⟩));exact⟨_,Heap.get?_update_self _ b (Obj.isFreed_of_fields (Obj.data_mapFields a _)),(Obj.cls_mapFields ..).trans c,by rw[Obj.data_mapFields a];simp[rawInt]⟩
def a7t(hh:A.handled=none)(ti:s.heap.IsTupleIter it t i)(th:s.heap.IsTuple t xs)(hx:xs[i]?=none)
  (q:∀g e,Heap.ExtBut it s.heap g->(∃o,g.get? e=some o/\o.cls=.type "StopIteration")->E (.ref e) { s with heap:=g }):wpAny (model P w) A (fv.SmallTypes.nextOf (.ref it)) Q E s:=by
 obtain⟨o,b,h,c⟩:=id ti;obtain⟨u,f,_,n,d⟩:=th;refine e9 (wpAny_callSpecial?_slot ti.typeIs PySem.F.slot_tuple_iterator_next
  (fR PySem.F.slot_tuple_iterator_next ti.typeIs PySem.F.entry_tuple_iterator_next ?_ (PySem.F.args_tuple_iterator_next_1 _)))
 show wpAny _ _ (field _ 0 >>= _) _ _ s
 refine e9 (fW b c rfl ?_);refine e9 (fW b c rfl ?_);refine e9 (iC f d ?_);simp only[dH,hx];refine e9 (gg (e9 (gC b c (by simp) ?_)));refine e9 ?_;refine e9 (gh ?_ (by size_fits));refine e9 (iT (by first |rfl | (simp;rfl)) ?_)
 refine gh ?_ (by size_fits);refine e9 (wpAny_handled ?_)
 first |rw[hh] |rw[hh]
 refine e9 (fc (wpAny_throw ?_));exact q _ _ (((Heap.SameBut.update ..).extBut.push _).push _) ⟨_,Heap.get?_push_size _ rfl,rfl⟩
def b1h{z:Zs}(a:z.At i s.heap)(b:z.Has s.heap xs)(hx:xs[i]?=some x)
  (q:∀g,z.At (i+1) g->Heap.SameBut z.it s.heap g->Q x { s with heap:=g }):wpAny (model P w) A (fv.SmallTypes.nextOf (.ref z.it)) Q E s:=by
 obtain⟨d,c,l⟩:=z;cases c with
 |true=>exact b3O a b hx q
 |false=>exact wpAny_nextOf_list_item a b hx q
def b3P{z:Zs}(hh:A.handled=none)(a:z.At i s.heap)(b:z.Has s.heap xs)(hx:xs[i]?=none)
  (q:∀g e,Heap.ExtBut z.it s.heap g->(∃o,g.get? e=some o/\o.cls=.type "StopIteration")->E (.ref e) { s with heap:=g }):wpAny (model P w) A (fv.SmallTypes.nextOf (.ref z.it)) Q E s:=by
 obtain⟨d,c,l⟩:=z;cases c with
 |true=>exact a7t hh a b hx q
 |false=>exact wpAny_nextOf_list_end hh a b hx q
end
abbrev IsTu(h:Heap)(T:Addr)(xs:Array Value):Prop:=h.get? T=some { cls:=.type "tuple",data:=.seq xs }
structure ZAp (z TI TO:Addr) (zs:List Zs):Prop where
 nd:(zs.map (·.it)).Nodup
 a1:TI≠z
 a2:TO≠z
 a3:TI≠TO
 its:∀y∈zs,y.it≠z/\y.it≠TI/\y.it≠TO
 ls:∀y∈zs,y.l≠z/\y.l≠TO/\∀x∈zs,y.l≠x.it
section
variable{P:fq}{w:World}{A:Around}{E:Value->Shared->Prop}{s:Shared}
def a93{z TI TO:Addr}{olds:List Value}{arr:Zs->Array Value}{Q:Value->Shared->Prop}(hh:A.handled=none)(D:ZAp z TI TO zs)(hne:zs≠[])(hsm:zs.length<=1000)
  (hz:IsZip s.heap z TI TO .none) (hI:IsTu s.heap TI (zs.map λy=>Value.ref y.it).toArray) (hO:IsTu s.heap TO olds.toArray) (hol:olds.length=zs.length)
  (hat:∀y∈zs,y.At k s.heap) (hhas:∀y∈zs,y.Has s.heap (arr y))
  (hQ:∀(g:Heap)(T:Addr)(vs:List Value),vs.length=zs.length->(∀(i:Nat) y,zs[i]?=some y->∃v,vs[i]?=some v/\(arr y)[k]?=some v)->T=s.heap.objs.size->IsZip g z TI TO (rawInt T)->IsTu g TI (zs.map λy=>Value.ref y.it).toArray->IsTu g TO vs.toArray->IsTu g T vs.toArray ->
   (∀y∈zs,y.At (k+1) g)->(∀c o,c≠z->c≠TO->(∀y∈zs,c≠y.it)->s.heap.get? c=some o->g.get? c=some o)->Q (.ref T) { s with heap:=g })
  (hE:(∃y∈zs,(arr y)[k]?=none)->∀g e,(∀c o,c≠z->c≠TO->(∀y∈zs,c≠y.it)->s.heap.get? c=some o->g.get? c=some o)->(∃o,g.get? e=some o/\o.cls=.type "StopIteration")->E (.ref e) { s with heap:=g }) :
  wpAny (model P w) A (fv.«zip.__next__» ⟨[.ref z],[]⟩) (λfin s'=>∃v,fin=.done (.ret v)/\Q v s') E s:=by
 show wpAny (model P w) _ (field (.ref z) 2 >>= _) _ _ _
 refine e9 (fW hz rfl (x:=.bool false) rfl ?_)
 show wpAny (model P w) _ (field (.ref z) 3 >>= _) _ _ _
 refine e9 (fW hz rfl (x:=.ref TI) rfl (e9 (iC hI rfl ?_)));have he:(zs.map λy=>Value.ref y.it).toArray.isEmpty=false:=by
  cases zs with
  |nil=>exact absurd rfl hne
  |cons _ _=>rfl
 dsimp only;rw[he]
 show wpAny (model P w) _ (fv.SmallTypes.ownedTupleIsFree (.ref z) >>= _) _ _ _
 refine e9 ?_;unfold fv.SmallTypes.ownedTupleIsFree;refine e9 (fW hz rfl (x:=.none) rfl (fc ?_));simp only[if_true];refine e9 (gg (e9 (fW hz rfl (x:=.ref TO) rfl (e9 (iZ hz (by simp) λg1 z1 N=>?_)))))
 replace z1:IsZip g1 z TI TO .ellipsis:=z1
 refine e9 ?_;refine wpAny_forIn_list _ (λL b s'=>b.1=none/\∃(j n:List Zs)(d h:List Value)(g:Heap),zs=j++n/\L=(n.map λy=>Value.ref y.it).zipIdx j.length/\d.length=j.length/\h.length=n.length/\s'={ s with heap:=g } /\
  (∀(i:Nat) y,j[i]?=some y->∃v,d[i]?=some v/\(arr y)[k]?=some v)/\IsZip g z TI TO .ellipsis/\IsTu g TO (d++h).toArray/\(∀y∈j,y.At (k+1) g)/\(∀y∈n,y.At k g)/\g.objs.size=s.heap.objs.size /\
  (∀c o,c≠z->c≠TO->(∀y∈zs,c≠y.it)->s.heap.get? c=some o->g.get? c=some o)) _ ?_ ?_ _ _ ?_
 ·rintro x L b s' ⟨hb,j,n,d,h,g,r,R,I,U,rfl,ev,S,X,ad,F,sg,J⟩;cases n with
  |nil=>simp at R
  |cons y n=>
   cases h with
   |nil=>simp at U
   |cons o h=>
   rw[am,eh]at R;cases R;have a:y∈zs:=by rw[r];simp
   have hyl:=λo q=>J _ o (D.ls y a).1 (D.ls y a).2.1 (D.ls y a).2.2 q;dsimp only;refine e9 (wpAny_onRaise ?_)
   show wpAny (model P w) _ (fv.SmallTypes.nextOf (.ref y.it) >>= _) _ _ _
   cases hx:(arr y)[k]? with
   |none=>
    refine e9 (b3P (z:=y) hh (F y (.head _)) ((hhas y a).keep hyl) hx λH e x2 he=>?_);obtain⟨oe,V,he2⟩:=he;have Y:IsZip H z TI TO .ellipsis:=x2 _ _ (D.its y a).1.symm S;have hez:e≠z:=λq=>by subst q;rw[Y]at V;cases V;simp at he2
    exact iZ Y (by simp) λg3 _ p=>hE ⟨y,a,hx⟩ g3 e (λc u m G t q=>p.extBut _ _ m (x2 _ _ (t y a) (J c u m G t q))) ⟨oe,p.extBut _ _ hez V,he2⟩
   |some v=>
    refine e9 (b1h (z:=y) (F y (.head _)) ((hhas y a).keep hyl) hx λH a2 C=>fc ?_);have o2:IsTu H TO (d++o::h).toArray:=C.extBut _ _ (D.its y a).2.2.symm X;refine e9 (iC o2 rfl ?_);have W:(d++o::h).length=zs.length:=by rw[r];simp[I];simpa using U
    refine e9 (jv o2 rfl ?_ (by rw[aJ,W,fC];lia) (by rw[eI,aJ,W,fC];lia));refine e9 (wpAny_letGo (fc ?_));have nd:(j.map (·.it)++y.it::n.map (·.it)).Nodup:=by have:=D.nd;rw[r]at this;simpa using this
    have p:Heap.SameBut TO H (H.update TO (Obj.mapSeq (·.setIfInBounds j.length v))):=Heap.SameBut.update ..;have o3:IsTu (H.update TO (Obj.mapSeq (·.setIfInBounds j.length v))) TO ((d++[v])++h).toArray:=by
     show Heap.get? _ _=_
     rw[Heap.get?_update_self _ o2 rfl]
     have:(d++o::h).set d.length v=(d++[v])++h:=by simp
     simp[Obj.mapSeq,<- I]
    refine⟨rfl,j++[y],n,d++[v],h,_,by rw[r];simp,by simp,by simp[I],by simpa using U,rfl,?_,p.extBut _ _ D.a2.symm (C.extBut _ _ (D.its y a).1.symm S),o3,?_,?_,by rw[p.1,C.1,sg],?_⟩
    ·intro i x B
     by_cases hlt:i<j.length
     ·rw[bS hlt]at B;obtain⟨v',q1,q2⟩:=ev i x B;exact⟨v',by rw[bS (by lia)];exact q1,q2⟩
     ·rw[bR (by lia)]at B;have h0:i-j.length=0:=by
       have:=(aj.mp B).1
       simp at this;lia
      rw[h0]at B;simp at B;subst B;exact⟨v,by rw[bR (by lia),show i-d.length=0 by lia];rfl,hx⟩
    ·intro x f;rcases ah.mp f with f |f
     ·have M:x∈zs:=by rw[r];simp[f]
      refine (ad x f).keep λu q=>p.extBut _ _ (D.its x M).2.2 (C.extBut _ _ (λz=>?_) q);rw[cp]at nd;exact nd.2.2 x.it (bN f) y.it (by simp) z
     ·rw[ai.mp f];exact a2.keep λu q=>p.extBut _ _ (D.its y a).2.2 q
    ·intro x f;have M:x∈zs:=by rw[r];simp[f]
     refine (F x (.tail _ f)).keep λu q=>p.extBut _ _ (D.its x M).2.2 (C.extBut _ _ (λz=>?_) q);rw[cp]at nd;exact (bp.mp nd.2.1).1 (z▸bN f)
    ·intro c u m G t q;exact p.extBut _ _ G (C.extBut _ _ (t y a) (J c u m G t q))
 ·rintro b s' ⟨hb,j,n,d,h,g,r,R,I,U,rfl,ev,S,X,ad,F,sg,J⟩;have htd:n=[]:=by
   cases n with
   |nil=>rfl
   |cons _ _=>simp at R
  subst htd;have hos:h=[]:=by simpa using U
  subst hos;rw[aV]at r X;subst r;obtain⟨N,C⟩:=b;subst hb;dsimp only;refine e9 (iC X rfl (e9 (hZ ?_ (by show d.toArray.toList.length<=fi;simp only[I,fC];lia))))
  show wpAny (model P w) _ (fv.SmallTypes.ownedTupleHandOut (.ref z) (.ref g.objs.size) >>= _) _ _ _
  refine e9 ?_;unfold fv.SmallTypes.ownedTupleHandOut;have hzl:=Heap.lt_size S;have Y:IsZip (g.push { cls:=.type "tuple",data:=.seq d.toArray.toList.toArray }) z TI TO .ellipsis:=Heap.get?_push_of_some _ S;refine e9 (iZ Y (by simp) λg3 z3 p=>?_)
  replace z3:IsZip g3 z TI TO (rawInt g.objs.size):=z3
  refine iZ z3 (by simp) λg4 z4 b4=>?_
  replace z4:IsZip g4 z TI TO (rawInt g.objs.size):=z4
  have up:∀c o,c≠z->g.get? c=some o->g4.get? c=some o:=λc o m q=>b4.extBut _ _ m (p.extBut _ _ m (Heap.get?_push_of_some _ q));have t4:IsTu g4 g.objs.size d.toArray:=b4.extBut _ _ (be hzl) (p.extBut _ _ (be hzl) (by simpa using Heap.get?_push_size _ rfl));refine fc ⟨_,rfl,?_⟩;refine hQ g4 g.objs.size d I ev sg z4 (up _ _ D.a1 (J _ _ D.a1 D.a3 (λy a=>(D.its y a).2.1.symm) hI)) (up _ _ D.a2 X) t4 (λy a=>(ad y a).keep λo q=>up _ o (D.its y a).1 q) λc o m G t q=>up c o m (J c o m G t q)
 ·refine⟨rfl,[],zs,[],olds,g1,rfl,by simp,rfl,hol,rfl,λi y q=>by simp at q,z1,by simpa using N.extBut _ _ D.a2 hO,λy q=>by simp at q,λy a=>(hat y a).keep λo q=>N.extBut _ _ (D.its y a).1 q,N.1,λc o m _ _ q=>N.extBut _ _ m q⟩
end
section
variable{X:Cx}{pins:List (Addr×Obj)}{σ:St}{H:Hp}{s:Shared}{h':Heap}
def Inv.turnedN{ch:List Addr}(I:Inv X pins σ H s)(hf:∀b∈ch,FpOk X pins H b)(k:∀b o,b∉ch->s.heap.get? b=some o->h'.get? b=some o):Inv X pins σ H { s with heap:=h',toks:=t' }:=by
 have d:∀b u,H b=some u->b∉ch:=λb u e z=>by rw[(hf b z).1]at e;cases e
 refine I.step (λb i=>?_) (λb o _ _ a e _=>k b o a e) (λb o _ _ a e _=>⟨o.slots,k b o a e⟩) (λ_ _ _ _ n=>n)
  (λb o a e=>⟨o,k b o a e⟩) (λ_ _ e=>e) (λ_ _ _ e=>e) (λb x e=>⟨#[],by rw[e];simp⟩) (λm j=>?_) (λb u e=>?_) I.bare
 ·obtain⟨_,t,_,g,w,l⟩:=hf b i;exact⟨g,t,w,l⟩
 ·obtain⟨o,h,f,p,r⟩:=j;exact⟨o,h,f,k _ o (λz=>(hf _ z).2.1 rfl) p,r⟩
 ·refine (I.hok b u e).stay (λc v a q=>k c v ?_ q) (λ_ q=>q) λ_ _ q=>q;rcases a with z |z
  ·simp_all
  ·simp_all
def Inv.turnedT{ch:List Addr}(I:Inv X pins σ H s)(hf:∀b∈ch,FpOk X pins H b)(k:∀b o,b∉ch->s.heap.get? b=some o->h'.get? b=some o)
  (hT:s.heap.objs.size<=T) (r:Vals vs us) (hz:vs.length<=fi) (ht:IsTup h' T us.toArray):Inv X pins σ (upd H T (.tup vs)) { s with heap:=h',toks:=t' }:=by
 have g:∀b u,H b=some u->b∉ch:=λb u e z=>by rw[(hf b z).1]at e;cases e
 have d:=I.hok.fresh hT;have y:∀b o,s.heap.get? b=some o->b≠T:=λb o e=>ao (aB (Heap.lt_size e) hT);refine I.step (λb f=>?_) (λb o _ _ a e _=>k b o a e) (λb o _ _ a e _=>⟨o.slots,k b o a e⟩) (λb o _ e n=>by rw[a0d (y b o e)];exact n)
  (λb o a e=>⟨o,k b o a e⟩) (λb l e=>by rw[a0d (a0u e d)];exact e) (λb _ _ e=>by rw[a0d (a0u e d)];exact e) (λb B e=>⟨#[],by rw[a0d (a0u e d),e];simp⟩) (λm x=>?_) (λb u e=>?_) I.bare
 ·obtain⟨_,j,_,p,A,t⟩:=hf b f;exact⟨p,j,A,t⟩
 ·obtain⟨o,i,w,h,r⟩:=x;exact⟨o,i,w,k _ o (λz=>(hf _ z).2.1 rfl) h,r⟩
 ·by_cases f:b=T
  ·subst f;rw[a0e]at e;cases e;exact⟨hz,us,r,ht⟩
  ·rw[a0d f]at e;refine (I.hok b u e).stay (λc v a q=>k c v ?_ q) (λc q=>by rw[a0d (a0u q d)];exact q) λc l q=>by rw[a0d (a0u q d)];exact q
   rcases a with z |z
   ·simp_all
   ·simp_all
end
def SrcV(K:Fg)(H:Hp)(y:Zs)(xs:List V):Prop:=if y.tp=true then SqT K H y.l xs else SqL K H y.l xs
noncomputable def SrcV.has(I:Inv X pins σ H s)(h:SrcV X.K H y xs):∃its:List Value,Vals xs its/\y.Has s.heap its.toArray:=by
 unfold SrcV at h;unfold Zs.Has
 split at h
 ·next e=>obtain⟨a,r,p,_⟩:=I.tuple h;exact⟨a,r,by rw[if_pos e];exact p⟩
 ·next e=>obtain⟨a,r,p,_⟩:=I.list h;exact⟨a,r,by rw[if_neg e];exact p.isList⟩
def SrcV.inj(I:Inv X pins σ H s)(h:SrcV X.K H y xs)(h':SrcV X.K H y xs'):xs=xs':=by
 unfold SrcV at h h'
 split at h
 ·next e=>rw[if_pos e]at h';exact I.tuple_inj h h'
 ·next e=>rw[if_neg e]at h';exact I.list_inj h h'
noncomputable def Itz(K:Fg)(zs:List Zs):It:=
  ⟨λi H=>∀y∈zs,∃xs x,SrcV K H y xs/\xs[i]?=some x,
   λi H x H'=>∃T vs,H T=none/\x=.ref T/\H'=upd H T (.tup vs)/\vs.length=zs.length/\∀(j:Nat) y xs,zs[j]?=some y->SrcV K H y xs->∃v,vs[j]?=some v/\xs[i]?=some v,
   λi H=>(∀y∈zs,∃xs,SrcV K H y xs)/\∃y∈zs,∃xs,SrcV K H y xs/\xs.length<=i⟩
def TnZ(z TI TO:Addr)(zs:List Zs)(i:Nat)(h:Heap):Prop:=IsZip h z TI TO .none/\IsTu h TI (zs.map λy=>Value.ref y.it).toArray/\(∃olds:List Value,olds.length=zs.length/\IsTu h TO olds.toArray)/\∀y∈zs,y.At i h
theorem Vals.of_get:∀{vs:List V}{us:List Value},vs.length=us.length->(∀(i:Nat) v u,vs[i]?=some v->us[i]?=some u->RelV v u)->Vals vs us
 |[],[],_,_=>.nil
 |[],_::_,h,_=>by simp at h
 |_::_,[],h,_=>by simp at h
 |v::vs,u::us,h,q=>.cons (q 0 v u rfl rfl) (Vals.of_get (by simpa using h) λi v u a b=>q (i+1) v u (by simpa using a) (by simpa using b))
theorem a87{P:fq}{w:World}{K:Fg}{elts:List Expr}{x1}{pos:Pos}{z TI TO:Addr}{zs:List Zs}(D:∀(X:Cx) pins σ H s,X.K=K->Inv X pins σ H s->(∀b∈z::TI::TO::zs.map (·.it),H b=none)->(∀y∈zs,∃xs,SrcV K H y xs)->ZAp z TI TO zs)(hne:zs≠[])(hsm:zs.length<=1000) :
  Turn P w K (.Tuple elts x1 pos) (Itz K zs) (z::TI::TO::zs.map (·.it)) z (TnZ z TI TO zs) where
 mem:=by simp
 obj:=λi h ⟨t1,t2,⟨olds,_,t3⟩,t4⟩ b hb=>by
  rcases ag.mp hb with rfl |hb
  ·exact⟨_,t1,λv q=>by have q':Data.fields _=Data.cell v:=q;cases q'⟩
  rcases ag.mp hb with rfl |hb
  ·exact⟨_,t2,λv q=>by have q':Data.seq _ _=Data.cell v:=q;cases q'⟩
  rcases ag.mp hb with rfl |hb
  ·exact⟨_,t3,λv q=>by have q':Data.seq _ _=Data.cell v:=q;cases q'⟩
  obtain⟨y,hy,rfl⟩:=az.mp hb;exact (t4 y hy).obj
 keep:=λi h h' ⟨t1,t2,⟨olds,t0,t3⟩,t4⟩ k=>⟨k z (by simp) _ t1,k TI (by simp) _ t2,⟨olds,t0,k TO (by simp) _ t3⟩,λy hy=>(t4 y hy).keep λo q=>k y.it (by simp;exact .inr (.inr (.inr ⟨y,hy,rfl⟩))) o q⟩
 item:=by
  intro X hP hw hK hc i pins s σ H E I hf st hg;subst hP hw hK;obtain⟨t1,t2,⟨olds,t0,t3⟩,t4⟩:=st;have Da:=D X pins σ H s rfl I (λb hb=>(hf b hb).1) λy hy=>let ⟨xs,_,q,_⟩:=hg y hy;⟨xs,q⟩
  have ex:∀y:Zs,∃its:List Value,y∈zs->∃xs,SrcV X.K H y xs/\Vals xs its/\y.Has s.heap its.toArray/\∃x,xs[i]?=some x:=λy=>by
   by_cases hy:y∈zs
   ·obtain⟨xs,x,q1,q2⟩:=hg y hy;obtain⟨its,r,p⟩:=q1.has I;exact⟨its,λ_=>⟨xs,q1,r,p,x,q2⟩⟩
   ·exact⟨[],λq=>absurd q hy⟩
  obtain⟨arr,harr⟩:=Classical.axiomOfChoice ex;have hT:s.TypeIs (.ref z) "zip":=⟨_,t1,rfl⟩;unfold pyNext;refine e9 (gA (wpAny_callSpecial?_slot (name:=Str.ofString "__next__") hT PySem.F.slot_zip_next (fR PySem.F.slot_zip_next hT PySem.F.entry_zip_next ?_ (PySem.F.args_zip_next_1 _))));refine a93 (arr:=λy=>(arr y).toArray) (k:=i) (I.ok.hd hc) Da hne hsm t1 t2 t3 t0 t4 (λy hy=>let ⟨_,_,_,p,_⟩:=harr y hy;p) ?_ ?_
  ·intro g T us hl hv hT' z2 ti2 to2 tt2 at2 kp;refine fc ⟨_,rfl,?_⟩;refine wpAny_letOwnedTupleGo_zip (s:={ s with heap:=g }) z2 λg3 z3 b3=>?_;have zl:=Heap.lt_size t1;have hTz:T≠z:=by rw[hT'];exact be zl
   have k3:∀b o,b∉z::TI::TO::zs.map (·.it)->s.heap.get? b=some o->g3.get? b=some o:=λb o hb q=>by
    simp only[ag,not_or]at hb;exact b3.extBut _ _ hb.1 (kp b o hb.1 hb.2.2.1 (λy hy e=>hb.2.2.2 (by rw[e];exact bN hy)) q)
   have exv:∀j:Nat,∃v:V,∀y xs,zs[j]?=some y->SrcV X.K H y xs->xs[i]?=some v:=λj=>by
    cases hj:zs[j]? with
    |none=>exact⟨.non,λy xs e=>nomatch e⟩
    |some y=>
     obtain⟨xs,q1,_,_,x,q2⟩:=harr y (aD hj);exact⟨x,λy' xs' e q=>by cases e;rw[q.inj I q1];exact q2⟩
   obtain⟨val,hval⟩:=Classical.axiomOfChoice exv;have hlv:((aC zs.length).map val).length=zs.length:=by rw[ae,cB]
   have gv:∀(j:Nat) y,zs[j]?=some y->((aC zs.length).map val)[j]?=some (val j):=λj y e=>by
    rw[aq,List.getElem?_range (aj.mp e).1];rfl
   have rv:Vals ((aC zs.length).map val) us:=Vals.of_get (by rw[hlv,hl]) λj v u e1 e2=>by
    have hj:j<zs.length:=by rw[<- hl];exact (aj.mp e2).1
    have hz':=ak hj;rw[gv j _ hz']at e1;cases e1;obtain⟨xs,q1,q2,_,_⟩:=harr _ (bu hj);have q3:=hval j _ xs hz' q1;obtain⟨u',e3,e4⟩:=hv j _ hz';rw[e2]at e3;cases e3;obtain⟨u2,e5,e6⟩:=q2.get q3;have e4':(arr zs[j])[i]?=some u:=by simpa using e4
    rw[e5]at e4';cases e4';exact e6
   have tt3:IsTup g3 T us.toArray:=⟨_,b3.extBut _ _ hTz tt2,rfl,_,rfl⟩;refine⟨.ref T,_,I.turnedT (t':=s.toks) hf k3 (by rw[hT'];exact af _) rv (by rw[hlv];exact a9 (a0f hsm)) tt3,rfl,⟨T,_,I.hok.fresh (by rw[hT'];exact af _),rfl,rfl,hlv,λj y xs e q=>⟨_,gv j y e,hval j y xs e q⟩⟩,⟨z3,b3.extBut _ _ Da.a1 ti2,⟨us,hl,b3.extBut _ _ Da.a2 to2⟩,λy hy=>(at2 y hy).keep λo q=>b3.extBut _ _ (Da.its y hy).1 q⟩,λb hb=>?_⟩;have hbo:∃o,s.heap.get? b=some o:=by
    rcases ag.mp hb with rfl |hb
    ·exact⟨_,t1⟩
    rcases ag.mp hb with rfl |hb
    ·exact⟨_,t2⟩
    rcases ag.mp hb with rfl |hb
    ·exact⟨_,t3⟩
    obtain⟨y,hy,rfl⟩:=az.mp hb;obtain⟨o,q,_⟩:=(t4 y hy).obj;exact⟨o,q⟩
   obtain⟨o,q⟩:=hbo;rw[a0d (by rw[hT'];exact ao (Heap.lt_size q))];exact (hf b hb).1
  ·rintro⟨y,hy,q⟩;obtain⟨xs,_,r,_,x,q2⟩:=harr y hy;obtain⟨u,e,_⟩:=r.get q2;have q':(arr y)[i]?=none:=by simpa using q
   rw[e]at q';cases q'
 done:=by
  intro X hP hw hK hc i pins s σ H E I hf st hg;subst hP hw hK;obtain⟨t1,t2,⟨olds,t0,t3⟩,t4⟩:=st;obtain⟨hall,y0,hy0,xs0,hx0,hl0⟩:=hg;have Da:=D X pins σ H s rfl I (λb hb=>(hf b hb).1) hall;have ex:∀y:Zs,∃its:List Value,y∈zs->∃xs,SrcV X.K H y xs/\Vals xs its/\y.Has s.heap its.toArray:=λy=>by
   by_cases hy:y∈zs
   ·obtain⟨xs,q1⟩:=hall y hy;obtain⟨its,r,p⟩:=q1.has I;exact⟨its,λ_=>⟨xs,q1,r,p⟩⟩
   ·exact⟨[],λq=>absurd q hy⟩
  obtain⟨arr,harr⟩:=Classical.axiomOfChoice ex;have hT:s.TypeIs (.ref z) "zip":=⟨_,t1,rfl⟩;unfold pyNext;refine e9 (gA (wpAny_callSpecial?_slot (name:=Str.ofString "__next__") hT PySem.F.slot_zip_next (fR PySem.F.slot_zip_next hT PySem.F.entry_zip_next ?_ (PySem.F.args_zip_next_1 _))));refine a93 (arr:=λy=>(arr y).toArray) (k:=i) (I.ok.hd hc) Da hne hsm t1 t2 t3 t0 t4 (λy hy=>let ⟨_,_,_,p⟩:=harr y hy;p) ?_ ?_
  ·intro g T us hl hv _ _ _ _ _ _ _;exfalso;obtain⟨j,hj⟩:=bn hy0;obtain⟨v,_,e⟩:=hv j y0 hj;obtain⟨xs,q1,r,_⟩:=harr y0 hy0;have e':(arr y0)[i]?=some v:=by simpa using e
   have:=(aj.mp e').1
   rw[<- r.length,q1.inj I hx0]at this;omega
  ·rintro _ g e kp ⟨o,ho,hcl⟩;refine e9 (iB (T:="StopIteration") (b:=true) (s:={ s with heap:=g }) ⟨o,ho,hcl⟩ isSubtype_stop ?_);refine fc ⟨rfl,I.turnedN (t':=s.toks) hf λb o hb q=>?_⟩;simp only[ag,not_or]at hb;exact kp b o hb.1 hb.2.2.1 (λy hy e=>hb.2.2.2 (by rw[e];exact bN hy)) q
 self:=λ_ _ _ _ _ st h=>wpAny_pyIter_zip st.1 h
noncomputable def mkZs(b:Nat):List (Bool×Addr)->List Zs
 |[]=>[]
 |p::r=>⟨b,p.1,p.2⟩::mkZs (b+1) r
theorem a0I:∀(b:Nat)(l:List (Bool×Addr)),(mkZs b l).length=l.length
 |_,[]=>rfl
 |b,_::r=>by simp[mkZs,a0I _ r]
theorem a1B:∀(b:Nat)(l r:List (Bool×Addr)),mkZs b (l++r)=mkZs b l++mkZs (b+l.length) r
 |_,[],_=>by simp[mkZs]
 |b,p::l,r=>by
  have:=a1B (b+1) l r
  simp[mkZs,this]
  congr 1
  omega
theorem a0S:∀{b:Nat}{l:List (Bool×Addr)}{y:Zs},y∈mkZs b l->@LE.le Nat _ b y.it/\@LT.lt Nat _ y.it (b+l.length)/\(y.tp,y.l)∈l
 |_,[],_,h=>by simp[mkZs]at h
 |b,p::l,y,h=>by
  rcases ag.mp h with rfl |h
  ·simp
  ·obtain⟨d,c,a⟩:=a0S h;exact⟨by omega,by rw[aE,<- cm,eJ];exact c,.tail _ a⟩
theorem a22:∀(b:Nat)(l:List (Bool×Addr)),((mkZs b l).map (·.it)).Nodup
 |_,[]=>by simp[mkZs]
 |b,p::l=>by
  show (b::(mkZs _ l).map _).Nodup
  refine bp.mpr ⟨λh=>?_,a22 _ l⟩;obtain⟨y,a,e⟩:=az.mp h
  have:=(a0S a).1
  omega
def HasS(p:Bool×Addr)(h:Heap):Prop:=∃xs,Zs.Has ⟨0,p.1,p.2⟩ h xs
def a50(srcs:List (Bool×Addr))(hsm:srcs.length<=1000) :
  Meets (fv.«zip.__new__» ⟨.type "zip"::srcs.map (λp=>Value.ref p.2),[]⟩) (λ_ R s=>(∀p∈srcs,HasS p s.heap)/\∀(g:Heap),(∀b o,s.heap.get? b=some o->g.get? b=some o) ->
   g.objs.size=s.heap.objs.size+srcs.length+3->TnZ (s.heap.objs.size+srcs.length+2) (s.heap.objs.size+srcs.length) (s.heap.objs.size+srcs.length+1) (mkZs s.heap.objs.size srcs) 0 g->R (.ok (.ret (.ref (s.heap.objs.size+srcs.length+2)))) { s with heap:=g }):=
 .of_wp λX w A R s h=>by
  obtain⟨Y,h⟩:=h;unfold fv.«zip.__new__»;have S:fv.SmallTypes.newClass "zip" ⟨.type "zip"::srcs.map (λp=>Value.ref p.2),[]⟩=pure (.type "zip",srcs.map (λp=>Value.ref p.2)):=by
   unfold fv.SmallTypes.newClass;simp only[isType,sub_zip,pure_bind,Bool.not_true,bD,if_false]
  refine e9 (iT S ?_);dsimp only;rw[if_neg (by simp)];refine e9 ?_;unfold fv.SmallTypes.iterAll;refine e9 ?_;refine wpAny_forIn_list _ (λk t G=>∃(f e:List (Bool×Addr))(g:Heap),srcs=f++e/\k=e.map (λp=>Value.ref p.2)/\t=((mkZs s.heap.objs.size f).map λy=>Value.ref y.it).toArray/\G={ s with heap:=g }/\g.objs.size=s.heap.objs.size+f.length /\
   (∀b o,s.heap.get? b=some o->g.get? b=some o)/\∀y∈mkZs s.heap.objs.size f,y.At 0 g) _ ?_ ?_ _ _ ?_
  ·rintro x k t G ⟨f,e,g,n,z,rfl,rfl,j,m,u⟩;cases e with
   |nil=>simp at z
   |cons p e=>
    rw[am]at z;cases z;obtain⟨B,l⟩:=p;obtain⟨D,L⟩:=Y (B,l) (by rw[n];simp);refine e9 (fI ?_);have F:∀E:Obj,Zs.At ⟨g.objs.size,B,l⟩ 0 (g.push E)->∃(dn' td':List (Bool×Addr))(g':Heap),srcs=dn'++td'/\e.map (λp=>Value.ref p.2)=td'.map (λp=>Value.ref p.2)/\(((mkZs s.heap.objs.size f).map λy=>Value.ref y.it).toArray.push (.ref g.objs.size))=((mkZs s.heap.objs.size dn').map λy=>Value.ref y.it).toArray /\
      ({ s with heap:=g.push E }:Shared)={ s with heap:=g' }/\g'.objs.size=s.heap.objs.size+dn'.length/\(∀b o,s.heap.get? b=some o->g'.get? b=some o)/\∀y∈mkZs s.heap.objs.size dn',y.At 0 g':=λE ha=>by
     refine⟨f++[(B,l)],e,g.push E,by rw[n];simp,rfl,?_,rfl,by rw[Heap.size_push,j];simp;omega,λb o q=>Heap.get?_push_of_some _ (m b o q),λy c=>?_⟩
     ·rw[a1B];simp[mkZs,j]
     ·rw[a1B]at c;rcases ah.mp c with c |c
      ·exact (u y c).keep λo q=>Heap.get?_push_of_some _ q
      ·simp[mkZs]at c;subst c;rw[<- j];exact ha
    cases B with
    |true=>
     have v:g.IsTuple l D:=let ⟨o,ho,r⟩:=(show s.heap.IsTuple l D from L);⟨o,m _ _ ho,r⟩
     exact wpAny_pyIter_tuple v (fc (F _ ⟨_,Heap.get?_push_size _ rfl,rfl,rfl⟩))
    |false=>
     have v:g.IsList l D:=let ⟨o,ho,r⟩:=(show s.heap.IsList l D from L);⟨o,m _ _ ho,r⟩
     exact jc v (fc (F _ ⟨_,Heap.get?_push_size _ rfl,rfl,rfl⟩))
  ·rintro t G ⟨f,e,g,n,z,rfl,rfl,j,m,u⟩;have M:e=[]:=by
    cases e with
    |nil=>rfl
    |cons _ _=>simp at z
   subst M;rw[aV]at n;subst n;refine fc ?_;refine e9 (hZ ?_ (by show ((mkZs s.heap.objs.size srcs).map λy=>Value.ref y.it).toArray.toList.length<=fi;simp[a0I];exact a9 (a0f hsm)));refine e9 (hZ ?_ (by rw[ae];show ((mkZs s.heap.objs.size srcs).map λy=>Value.ref y.it).toArray.toList.length<=fi;simp[a0I];exact a9 (a0f hsm)));refine e9 ?_;unfold fv.SmallTypes.newRecord;refine gh ?_ (by simp[sizeOk,fv.SmallTypes.ownedTupleFields,fC]);have T:∀(a d i:Obj),a={ cls:=.type "tuple",data:=.seq ((mkZs s.heap.objs.size srcs).map λy=>Value.ref y.it).toArray }->d={ cls:=.type "tuple",data:=.seq (((mkZs s.heap.objs.size srcs).map λ_=>Value.none)).toArray } ->
     i={ cls:=.type "zip",data:=.fields #[.none,.bool false,.bool false,.ref g.objs.size,.ref (g.push a).objs.size] }->R (.ok (.ret (.ref ((g.push a).push d).objs.size))) { s with heap:=((g.push a).push d).push i }:=λa d i I J C=>by
    have U:(g.push a).objs.size=s.heap.objs.size+srcs.length+1:=by rw[Heap.size_push,j]
    have V:((g.push a).push d).objs.size=s.heap.objs.size+srcs.length+2:=by rw[Heap.size_push,U]
    have N:(((g.push a).push d).push i).get? g.objs.size=some a:=Heap.get?_push_of_some _ (Heap.get?_push_of_some _ (Heap.get?_push_size _ (by rw[I];rfl)));have Q:(((g.push a).push d).push i).get? (g.push a).objs.size=some d:=Heap.get?_push_of_some _ (Heap.get?_push_size _ (by rw[J];rfl));have H:(((g.push a).push d).push i).get? ((g.push a).push d).objs.size=some i:=Heap.get?_push_size _ (by rw[C];rfl);have W:∀b o,g.get? b=some o->(((g.push a).push d).push i).get? b=some o:=λb o q=>Heap.get?_push_of_some _ (Heap.get?_push_of_some _ (Heap.get?_push_of_some _ q));rw[U]at Q C;rw[V]at H ⊢;rw[j]at N C;refine h _ (λb o q=>W b o (m b o q)) (by rw[Heap.size_push,V]) ⟨H.trans (congrArg some C),N.trans (congrArg some I),⟨(mkZs s.heap.objs.size srcs).map λ_=>Value.none,by rw[ae],Q.trans (congrArg some J)⟩,λy c=>(u y c).keep λo q=>W _ o q⟩
   exact fc ⟨_,rfl,T _ _ _ (by simp) (by simp) rfl⟩
  ·exact⟨[],srcs,s.heap,rfl,rfl,by simp[mkZs],rfl,rfl,λ_ _ q=>q,λy c=>by simp[mkZs]at c⟩
def b1i(a b c d:Value):checkTypeCall "zip" ⟨[a,b,c,d],[]⟩=pure ():=by kernel_rfl
def b1j(a b c d:Value):jt "zip.__new__" ⟨[.type "zip",a,b,c,d],[]⟩=pure ():=by kernel_rfl
def a88(o a b c d:Value):argsOk "object.__init__" ⟨[o,a,b,c,d],[]⟩:=by
 unfold argsOk;rw[signature?_of (n:=['_','_','t','i','n','i','_','_']) (by kernel_rfl) PySem.F.owner_object]
 kernel_rfl
def a2D(us:List Value):Prop:=checkTypeCall "zip" ⟨us,[]⟩=pure ()/\jt "zip.__new__" ⟨.type "zip"::us,[]⟩=pure ()/\∀o,argsOk "object.__init__" ⟨o::us,[]⟩
def b3Q(a b:Value):a2D [a,b]:=⟨PySem.F.typeCall_zip_2 a b,PySem.F.newCall_zip_2 a b,λo=>PySem.F.args_object_init_3 o a b⟩
def b3R(a b c d:Value):a2D [a,b,c,d]:=⟨b1i a b c d,b1j a b c d,λo=>a88 o a b c d⟩
def a7u(hk:a2D (srcs.map λp=>Value.ref p.2))(hsm:srcs.length<=1000)(hs:∀p∈srcs,HasS p s.heap)
  (h:∀g:Heap,(∀b o,s.heap.get? b=some o->g.get? b=some o)->TnZ (s.heap.objs.size+srcs.length+2) (s.heap.objs.size+srcs.length) (s.heap.objs.size+srcs.length+1) (mkZs s.heap.objs.size srcs) 0 g->Q (.ref (s.heap.objs.size+srcs.length+2)) { s with heap:=g }) :
  wpAny (model P w) A (call (.type "zip") (srcs.map λp=>Value.ref p.2)) Q E s:=
 callType_new PySem.F.called_zip (by decide) hk.1 hk.2.1 hk.2.2 PySem.F.entry_zip_new (a50 srcs hsm) ⟨hs,λg c _ a=>⟨⟨_,a.1,rfl⟩,h g c a⟩⟩
def SrcP(K:Fg)(H:Hp)(p:Bool×Addr)(xs:List V):Prop:=if p.1=true then SqT K H p.2 xs else SqL K H p.2 xs
noncomputable def ItzP(K:Fg)(ps:List (Bool×Addr)):It:=
  ⟨λi H=>∀y∈ps,∃xs x,SrcP K H y xs/\xs[i]?=some x,
   λi H x H'=>∃T vs,H T=none/\x=.ref T/\H'=upd H T (.tup vs)/\vs.length=ps.length/\∀(j:Nat) y xs,ps[j]?=some y->SrcP K H y xs->∃v,vs[j]?=some v/\xs[i]?=some v,
   λi H=>(∀y∈ps,∃xs,SrcP K H y xs)/\∃y∈ps,∃xs,SrcP K H y xs/\xs.length<=i⟩
theorem a5f:∀(b:Nat)(l:List (Bool×Addr)),(mkZs b l).map (λy=>(y.tp,y.l))=l
 |_,[]=>rfl
 |b,p::r=>by simp[mkZs,a5f _ r]
def a5g{j:Nat}(h:l[j]?=some p):∃y,(mkZs b l)[j]?=some y/\(y.tp,y.l)=p:=by
 have:=congrArg (·[j]?) (a5f b l)
 simp only[aq,h]at this;cases e:(mkZs b l)[j]? with
 |none=>rw[e]at this;cases this
 |some y=>rw[e]at this;exact⟨y,rfl,by simpa using this⟩
theorem Turn.imp{P:fq}{w:World}{K:Fg}{tg:Expr}{J J':It}{fp:List Addr}{it:Addr}{tn:Nat->Heap->Prop}(t:Turn P w K tg J fp it tn)(g:∀i H,J'.go i H->J.go i H)(y:∀i H x H',J'.go i H->J.yld i H x H'->J'.yld i H x H')(s:∀i H,J'.stop i H->J.stop i H):Turn P w K tg J' fp it tn where
 mem:=t.mem
 obj:=t.obj
 keep:=t.keep
 item:=λX h1 h2 h3 h4 i pins s σ H E I hf st hg=>fD (t.item X h1 h2 h3 h4 i pins s σ H E I hf st (g i H hg)) (λr s1 ⟨u,e,q⟩=>⟨u,e,fD q (λ_ s2 ⟨x,H',a,b,c,d,e⟩=>⟨x,H',a,b,y i H x H' hg c,d,e⟩) λ_ _ z=>z⟩) λ_ _ z=>z
 done:=λX h1 h2 h3 h4 i pins s' σ H E I hf st hg=>t.done X h1 h2 h3 h4 i pins s' σ H E I hf st (s i H hg)
 self:=t.self
def a1K(h:@Ne Nat a b):a≠b:=h
def b54(K:Fg)(n:Nat)(ta:TA):TI:=fun σ H R=>ta σ H λvs H1=>∃ps:List (Bool×Addr),vs=ps.map (λp=>V.ref p.2)/\ps≠[]/\ps.length=n/\(∀p∈ps,∃xs,SrcP K H1 p xs)/\R (ItzP K ps) H1
theorem a7v:∀{ps:List (Bool×Addr)}{us:List Value},Vals (ps.map λp=>V.ref p.2) us->us=ps.map λp=>Value.ref p.2
 |[],us,r=>by rw[aO]at r;cases r;rfl
 |p::ps,us,r=>by
  cases r with
  |cons r1 r2=>rw[a7v r2,r1];rfl
def b3S(hg:Gl X "zip")(hm:X.mg "zip"=none)(hok:∀us:List Value,us.length=n->a2D us)(hn:n<=1000)(ha:PA X (e::es) ta)
  (he:fu (e::es) X.env=(false,eval e X.env)::fu es X.env) (hpl:(backTo pos (fu es X.env)).any (·.1)=false):PI X (.Tuple elts x1 tpos) (.Call (.Name "zip" p) (e::es) [] pos) (b54 X.K n ta):=by
 intro pins s σ H R I h;refine Call_ (a2o I hg hm (show fJ "zip"=some (.type "zip") by decide +kernel) (PyProof.Rows.callWith_type1 (thn (ha pos pins s σ H _ I h) λus c ⟨vs,H1,r,r1,q1⟩=>?_) he hpl));obtain⟨f,rfl,hne,hl,hsrc,q⟩:=q1;have hsm:f.length<=1000:=by omega
 have e:=a7v r1;subst e;have hnz:mkZs c.heap.objs.size f≠[]:=λz=>hne (bK.mp (by rw[<- a0I c.heap.objs.size f,z];rfl));refine a7u (hok _ (by rw[ae,hl])) hsm (λp hp=>?_) λg kp tn=>?_
 ·obtain⟨t,d⟩:=hsrc p hp;obtain⟨its,_,h⟩:=SrcV.has (y:=⟨0,p.1,p.2⟩) r d;exact⟨_,h⟩
 ·refine wpAny_pyIter_zip (s:={ c with heap:=g }) tn.1 ?_;have I2:Inv X pins σ H1 { c with heap:=g }:=r.kept (t':=c.toks) kp;refine⟨_,_,_,_,H1,rfl,I2,(a87 (K:=X.K) (zs:=mkZs c.heap.objs.size f) ?_ hnz (by rw[a0I];exact hsm)).imp ?_ ?_ ?_,tn,λb k=>?_,q⟩
  ·intro X' pins' σ' H' s' hK I' hfp hall;have hl':∀y∈mkZs c.heap.objs.size f,∀b,H' b=none->b∈(c.heap.objs.size+f.length+2)::(c.heap.objs.size+f.length+1)::(mkZs c.heap.objs.size f).map (·.it)->y.l≠b:=by
    intro y a b k hm z;obtain⟨hb1,hb2,hb3⟩:=a0S a;obtain⟨t,d⟩:=hsrc _ hb3;obtain⟨its,_,hh⟩:=SrcV.has (y:=y) r d
    have:@LT.lt Nat _ y.l c.heap.objs.size:=by
     unfold Zs.Has at hh
     split at hh<;>(obtain⟨o,ho,_⟩:=hh;exact Heap.lt_size ho)
    rcases ag.mp hm with e |hm
    ·exact absurd (z.trans e) (a1K (by omega))
    rcases ag.mp hm with e |hm
    ·exact absurd (z.trans e) (a1K (by omega))
    obtain⟨x,d,e⟩:=az.mp hm
    have:=(a0S d).1
    exact absurd (z.trans e.symm) (a1K (by omega))
   refine⟨a22 _ _,a1K (by omega),a1K (by omega),a1K (by omega),λy a=>?_,λy a=>?_⟩
   ·have:=a0S a
    exact⟨a1K (by omega),a1K (by omega),a1K (by omega)⟩
   ·exact⟨hl' y a _ (hfp _ (by simp)) (by simp),hl' y a _ (hfp _ (by simp)) (by simp),λx d=>hl' y a _ (hfp _ (by simp;exact .inr (.inr (.inr ⟨x,d,rfl⟩)))) (by simp;exact .inr (.inr ⟨x,d,rfl⟩))⟩
  ·intro i H' hgo y a;exact hgo (y.tp,y.l) (a0S a).2.2
  ·rintro i H' x H2 _ ⟨T,vs,a1,a2,a3,a4,a5⟩;refine⟨T,vs,a1,a2,a3,by rw[a4,a0I],λj p t hp d=>?_⟩;obtain⟨y,a,e⟩:=a5g (b:=c.heap.objs.size) hp;subst e;exact a5 j y t a d
  ·rintro i H' ⟨a1,p,hp,t,d,hl⟩;obtain⟨j,hj⟩:=bn hp;obtain⟨y,a,e⟩:=a5g (b:=c.heap.objs.size) hj;subst e;exact⟨λy a=>a1 (y.tp,y.l) (a0S a).2.2,y,aD a,t,d,hl⟩
  ·have hb':@LE.le Nat _ c.heap.objs.size b:=by
    rcases ag.mp k with rfl |k
    ·omega
    rcases ag.mp k with rfl |k
    ·omega
    rcases ag.mp k with rfl |k
    ·omega
    obtain⟨x,d,rfl⟩:=az.mp k;exact (a0S d).1
   exact r.fpOk hb' (r.hok.fresh hb')
noncomputable def Itv(K:Fg)(a:Addr)(n:Nat):It:=
 ⟨λi H=>i<n/\∃xs,SqL K H a xs/\xs.length=n,λi H x H'=>H'=H/\∀xs,SqL K H a xs->xs[n-1-i]?=some x,λi _=>i=n⟩
theorem a89{P:fq}{w:World}{K:Fg}{tg:Expr}(a it:Addr)(n:Nat):Turn P w K tg (Itv K a n) [it] it (λi h=>i<=n/\h.IsRevIter it a ((n:Int)-1-(i:Nat))) where
 mem:=by simp
 obj:=λi h st b hb=>by
  have e:b=it:=by simpa using hb
  subst e;obtain⟨o,e,c,d⟩:=st.2;exact⟨o,e,λv z=>by rw[d]at z;cases z⟩
 keep:=λi h h' st k=>⟨st.1,st.2.at λo e=>k it (by simp) o e⟩
 item:=by
  intro X hP hw hK hc i pins s σ H E I hf st hg;subst hP hw hK;obtain⟨hi,xs,hq,hx⟩:=hg;obtain⟨its,rv,p,hz⟩:=I.list hq;have hx':=ak (show n-1-i<xs.length by omega);obtain⟨u,hu,ru⟩:=rv.get hx';obtain⟨f0,f1,f2,f3,f4,f5⟩:=hf it (by simp);have st':=st.2;have e1:(n:Int)-1-(i:Nat)=((n-1-i:Nat):Int):=by omega
  rw[e1]at st';refine wpAny_pyNext_rev_item st' p.isList (x:=u) (by simpa using hu) λh' s2 sb=>?_;have I1:Inv X pins σ H { s with heap:=h' }:=I.turned (t':=s.toks) (λb o hb e=>(sb.2 b hb).trans e) f0 f1 f3 f4 f5;obtain⟨o,e,c,d⟩:=id s2;refine⟨u,rfl,b0v (s:={ s with heap:=h' }) e c d (by decide) ⟨xs[n-1-i],H,I1,ru,⟨rfl,λys hy=>by rw[I.list_inj hy hq];exact hx'⟩,⟨by omega,?_⟩,λb hb=>(hf b hb).1⟩⟩;have e2:(n:Int)-1-((i+1:Nat):Int)=((n-1-i:Nat):Int)-1:=by omega
  rw[e2];exact s2
 done:=by
  intro X hP hw hK hc i pins s σ H E I hf st hg;subst hP hw hK;obtain⟨f0,f1,f2,f3,f4,f5⟩:=hf it (by simp);have hi:i=n:=hg;have st':=st.2;have e1:(n:Int)-1-(i:Nat)=-1:=by omega
  rw[e1]at st';exact wpAny_pyNext_rev_end (I.ok.hd hc) st' λh' eb=>⟨rfl,I.turned (t':=s.toks) (λb o hb e=>eb b o hb e) f0 f1 f3 f4 f5⟩
 self:=λ_ _ _ _ _ st h=>wpAny_pyIter_revIter st.2 h
def b55(K:Fg)(ta:TA):TI:=fun σ H R=>ta σ H λvs H1=>∃a xs,vs=[.ref a]/\SqL K H1 a xs/\R (Itv K a xs.length) H1
def b3T(hg:Gl X "reversed")(hm:X.mg "reversed"=none)(ha:PA X [e] ta)
  (he:fu [e] X.env=(false,eval e X.env)::fu [] X.env):PI X tg (.Call (.Name "reversed" p) [e] [] pos) (b55 X.K ta):=by
 intro i s σ H R I h;refine Call_ (a2o I hg hm boot_reversed (PyProof.Rows.callWith_type1 (thn (ha pos i s σ H _ I h) λy c ⟨A,v,f,k,l⟩=>?_) he rfl));obtain⟨a,d,rfl,n,q⟩:=l;obtain⟨u,rfl,r⟩:=a2c k;cases r;obtain⟨j,m,w,z⟩:=f.list n;have x:j.toArray.size=d.length:=by rw[aJ,m.length]
 refine call_reversed_list w.isList ?_;rw[x];have g:(c.heap.push (revObj a ((d.length)-1))).IsRevIter c.heap.objs.size a ((d.length)-1-0):=⟨_,Heap.get?_push_size _ rfl,rfl,by simp[revObj]⟩;refine wpAny_pyIter_revIter g ⟨c.heap.objs.size,[c.heap.objs.size],_,_,v,rfl,f.kept λb o e=>Heap.get?_push_of_some _ e,a89 a _ d.length,⟨aK _,g⟩,λb t=>?_,q⟩;have e:b=c.heap.objs.size:=by simp_all
 subst e;exact f.fpOk (af _) (f.hok.fresh (af _))
section
variable{X:Cx}
def a51(I:Inv X pins σ H s)(rx:RelV x u)(ty:TyOf X.K H x t)(h2:∀C dx fs a,x=.ref a->H a≠some (.ins C dx fs)):∃F:Heap->Prop,PySem.W.KitX X.K u t F/\F s.heap/\u≠.builtin "__main__.__loader__#opaque":=by
 cases ty with
 |non=>cases (rx);exact⟨_,PySem.W.kitx_none,True.intro,λz=>nomatch z⟩
 |bl y=>cases (rx);exact⟨_,PySem.W.kitx_bool,True.intro,λz=>nomatch z⟩
 |int i=>obtain⟨t,q⟩:=(rx);cases q;exact⟨_,PySem.W.kitx_int,True.intro,λz=>nomatch z⟩
 |str y=>obtain⟨t,q⟩:=(rx);cases q;exact⟨_,PySem.W.kitx_str,True.intro,λz=>nomatch z⟩
 |flt y=>obtain⟨t,q⟩:=(rx);cases q;exact⟨_,PySem.W.kitx_float,True.intro,λz=>nomatch z⟩
 | @lst a d ea=>
  cases (rx);obtain⟨_,_,n,_,b⟩:=(I.hok a _ ea);exact⟨_,PySem.W.kitx_list,⟨_,b,rfl⟩,λz=>nomatch z⟩
 | @frz a ob d ea=>
  cases (rx);obtain⟨_,_,_,n,_,b⟩:=(I.hok a _ ea);exact⟨_,PySem.W.kitx_list,⟨_,b,rfl⟩,λz=>nomatch z⟩
 | @tup a d ea=>
  cases (rx);obtain⟨_,_,_,p⟩:=(I.hok a _ ea);obtain⟨o,b,h2,_⟩:=p;exact⟨_,PySem.W.kitx_tuple,⟨o,b,h2⟩,λz=>nomatch z⟩
 | @dK a kvs ea=>
  cases (rx);obtain⟨_,_,vs,_,p⟩:=(I.hok a _ ea);obtain⟨o,e,f,b,h2,_⟩:=p;exact⟨_,PySem.W.kitx_dict,⟨o,b,h2.1⟩,λz=>nomatch z⟩
 | @dT a kvs ea=>
  cases (rx);obtain⟨_,_,d,_,o,e,f,b,h2,_⟩:=(I.hok a _ ea);exact⟨_,PySem.W.kitx_dict,⟨o,b,h2.1⟩,λz=>nomatch z⟩
 | @ins a C dx fs ea cl ha hn htk hm=>exact absurd ea (h2 C dx fs a rfl)
theorem a94:∀{Ts:List String}{us:List Value},Vals (Ts.map V.ty) us->us=Ts.map Value.type
 |[],us,r=>by rw[aO]at r;cases r;rfl
 |T::Ts,us,r=>by
  cases r with
  |cons r1 r2=>rw[a94 r2,r1];rfl
def b56(K:Fg):List V->Hp->VK->Prop:=λxs H Q=>∃(x:V)(p:Addr)(Ts:List String)(t:Value)(b:Bool),xs=[x,.ref p]/\SqT K H p (Ts.map V.ty)/\TyOf K H x t/\(∀C dx fs a,x=.ref a->H a≠some (.ins C dx fs))/\PySem.W.kitAny K t (Ts.map Value.type)=some b/\Q (.bl b) H
def a7w:CallR X (.builtin "isinstance") (b56 X.K):=by
 intro l s σ H J L Q I r h;obtain⟨x,p,Ts,t,b,rfl,m,A,y,e,q⟩:=h;obtain⟨u,f,rfl,o,k⟩:=a8p r;cases (k);obtain⟨B,a,c,_⟩:=I.tuple m;have j:=a94 a;subst j;obtain⟨F,Z,z,g⟩:=a51 I o A y;obtain⟨⟨C,G,E,D⟩,i,w,n,v⟩:=c;cases w;cases v;exact PySem.W.kia_tup Z I.kIn z i e g λd=>⟨.bl b,H,I.tok d,rfl,q⟩
noncomputable def a7x(x y:Str):Int:=match fv.Str.occurrences x y 0 x.length 1 with
 |i::_=>(i:Int)
 |[]=>-1
def b1k:MtR X "str.find" (λx vs H Q=>∃(z y:Str),x=.str z/\vs=[.str y]/\Q (.int (a7x z y)) H):=by
 intro c s σ H x f v g Q I b d h;obtain⟨z,y,rfl,rfl,q⟩:=h;obtain⟨t,rfl⟩:=b;obtain⟨u,rfl,e⟩:=a2c d;obtain⟨a,rfl⟩:=e;exact call_gives PySem.F.slot_str_find (gI _ _ _) PySem.F.entry_str_find (PySem.F.args_str_find_2 _ _) (gives_str_find z y t a) ⟨.int _,H,I.tok _,⟨_,rfl⟩,q⟩
end
end L2
namespace L3
open PySem PySem.Spec PyProof.Rows L2
section
variable{X:Cx}
noncomputable def kitA(n:String):List String->Option Bool
 |[]=>some false
 |T::r=>match kit0 n T with
  |some true=>some true
  |some false=>kitA n r
  |none=>none
theorem a7y{K:Fg}:∀Ts:List String,PySem.W.kitAny K (.type n) (Ts.map Value.type)=kitA n Ts
 |[]=>rfl
 |T::r=>by
  show (match PySem.W.kitOne K _ _ with |some true=>some true |some false=>PySem.W.kitAny K _ _ |none=>none)=_
  rw[a9W,a7y r];rfl
def b1l:List Z->Hq->K3->Prop:=λxs G R=>match xs with
 |[x,.tup ts]=>∃n Ts b,ts=Ts.map Z.ty/\tyN G x=some n/\kitA n Ts=some b/\R (.bl b) G
 |_=>False
theorem a5h{K:Fg}:∀{bs:List String}{vs:List V},Reps K H (bs.map Z.ty) vs->vs=bs.map V.ty
 |[],vs,h=>by rw[aO,a0s]at h;subst h;rfl
 |n::ns,vs,h=>by
  obtain⟨v,r,rfl,a,b⟩:=h;rw[a,a5h b];rfl
def b3U{K:Fg}{G:Hq}{H:Hp}{x:Z}{v:V}{n:String}(h:tyN G x=some n)(r:Rep K H x v)(hg:RH K G H):∀C dx fs a,v=.ref a->H a≠some (.ins C dx fs):=by
 rintro C dx fs a rfl e;cases x with
 |ref p=>
  rw[a0p]at r;cases r;cases q:G a with
  |none=>simp[tyN,q]at h
  |some o=>
   cases o with
   |lst ws=>obtain⟨vs,e',_⟩:=hg _ _ q;rw[e]at e';cases e'
   |dK kvs=>obtain⟨vs,e',_⟩:=hg _ _ q;rw[e]at e';cases e'
   |ins C dx fs=>simp[tyN,q]at h
   |dF kvs=>simp[tyN,q]at h
   |dT ks=>simp[tyN,q]at h
   |tab _ _=>simp[tyN,q]at h
 |tup ws=>rw[a0Y]at r;obtain⟨b,vs,q,e',_⟩:=r;cases q;rw[e]at e';cases e'
 |non=>rw[a0z]at r;cases r
 |bl _=>rw[a0v]at r;cases r
 |int _=>rw[a0h]at r;cases r
 |str _=>rw[a0x]at r;cases r
 |ty _=>rw[a42]at r;cases r
 |scr _ _=>cases h
def a95:a3j X (.builtin "isinstance") b1l:=a2v a7w λq H Q i=>i.un λg G R j a h l=>by
 match g,h with
 |[x,.tup ts],h=>
  obtain⟨v,o,rfl,r,d⟩:=j.two;obtain⟨n,Ts,b,rfl,e,k,h⟩:=h;obtain⟨p,m,rfl,f,c⟩:=d
  have:=a5h c
  subst this;exact⟨v,p,Ts,.type n,b,rfl,SqT.of f,a45 e r a,b3U e r a,by rw[a7y];exact k,l _ _ _ _ h (by rw[a0v]) a (.refl _ _)⟩
def b3V(e:tyN G x=some n)(k:kitA n Ts=some b)(h:R (.bl b) G):b1l [x,.tup (Ts.map Z.ty)] G R:=⟨n,Ts,b,rfl,e,k,h⟩
def b3W:Z->List Z->Hq->K3->Prop:=λx xs G R=>match x,xs with
 |.str z,[.str y]=>R (.int (a7x z y)) G
 |_,_=>False
def b3X:MtQ X "str.find" b3W:=a5O b1k λx g H Q e=>e.un λw c G R a b d h f=>by
 match w,c,h with
 |.str z,[.str y],h=>
  obtain⟨v,rfl,r⟩:=b.one;exact⟨z,y,a,by rw[r],f _ _ _ _ h (by rw[a0h]) d (.refl _ _)⟩
def b3Y(h:R (.int (a7x z y)) G):b3W (.str z) [.str y] G R:=h
noncomputable def putZ(kvs:List (Key×Z))(k:Key)(v:Z):List (Key×Z):=
 if (kvs.any λkv=>decide (kv.1=k))=true then kvs.map (λkv=>if kv.1=k then (kv.1,v) else kv) else kvs++[(k,v)]
theorem a7z{α β:Type}:∀{kvs:List (Key×α)}{us:List (Key×β)},us.map (·.1)=kvs.map (·.1)->(us.any λkv=>decide (kv.1=k))=kvs.any λkv=>decide (kv.1=k)
 |[],[],_=>rfl
 |[],_::_,h=>by simp at h
 |_::_,[],h=>by simp at h
 |p::ps,q::qs,h=>by
  rw[am,am]at h;injection h with h1 h2
  rw[bT,bT,a7z h2,h1]
def a5i{K:Fg}(rv:Rep K H w v)(hk:us.map (·.1)=kvs.map (·.1))(hr:Reps K H (kvs.map (·.2)) (us.map (·.2))) :
  (putK us k v).map (·.1)=(putZ kvs k w).map (·.1)/\Reps K H ((putZ kvs k w).map (·.2)) ((putK us k v).map (·.2)):=by
 unfold putK putZ;rw[a7z hk]
 split
 ·have l:∀{d:List _}{f:List _},f.map (·.1)=d.map (·.1)->Reps K H (d.map (·.2)) (f.map (·.2))->((f.map λc=>if c.1=k then (c.1,v) else c).map (·.1)=(d.map λc=>if c.1=k then (c.1,w) else c).map (·.1)/\Reps K H ((d.map λc=>if c.1=k then (c.1,w) else c).map (·.2)) ((f.map λc=>if c.1=k then (c.1,v) else c).map (·.2))):=by
   intro d
   induction d with
   |nil=>intro f g h;cases f with
    |nil=>exact⟨rfl,.nil⟩
    |cons _ _=>simp at g
   |cons p ps ih=>
    intro f g h;cases f with
    |nil=>simp at g
    |cons q qs=>
     rw[am,am]at g h;injection g with h3 h4
     obtain⟨a,b,e,j,m⟩:=h;injection e with e1 e2
     subst e1 e2;have i:=ih h4 m;simp only[am]
     by_cases e:p.1=k
     ·rw[if_pos e,if_pos (h3.trans e)];exact⟨by rw[i.1,h3],.cons rv i.2⟩
     ·rw[if_neg e,if_neg (λz=>e (h3.symm.trans z))];exact⟨by rw[i.1,h3],.cons j i.2⟩
  exact l hk hr
 ·rw[au,au,hk,au,au];exact⟨rfl,hr.append (.cons rv .nil)⟩
noncomputable def keyZ:Z->Option Key
 |.non=>some (.inl none)
 |.int i=>some (.inl (some i))
 |.str x=>some (.inr x)
 |_=>none
def b3Z:Z3:=λo i v G R=>match o with
 |.ref p=>∃kvs k,G p=some (.dK kvs)/\keyZ i=some k/\kvs.length<fi/\R (put G p (.dK (putZ kvs k v)))
 |_=>False
def a2k{K:Fg}(h:keyZ i=some k)(r:Rep K H i v):v=kV k:=by
 cases i with
 |non=>rw[a0z]at r;cases h;exact r
 |int j=>rw[a0h]at r;cases h;exact r
 |str j=>rw[a0x]at r;cases h;exact r
 |_=>cases h
def a9a(hu:X.A.units+66<cLine):PSet X (λo i v H Q=>∃a H',o=.ref a/\DPut H a i v H'/\Q H'):=by
 intro e s σ H o i v j l u Q I d f b h;obtain⟨a,H',rfl,g,q⟩:=h;cases (d);exact a6L (by lia) I g f b λk c=>⟨H',c,q⟩
def a7A{α β:Type}{kvs:List (Key×α)}{us:List (Key×β)}(h:us.map (·.1)=kvs.map (·.1)):us.length=kvs.length:=by
 rw[<- ae,h,ae]
def a96(hu:X.A.units+66<cLine):SetQ X b3Z:=a9S (a9a hu) λo i v H Q r=>r.un λa b w G R g q f d h u=>by
 cases a with
 |ref p=>
  obtain⟨j,k,e,n,t,h⟩:=h;obtain⟨x,c,m,s⟩:=d _ _ e;have l:=a5i (k:=k) f m s;refine⟨p,_,g,?_,u _ _ h (d.set (.dK c) ⟨_,a0e,l.1,l.2.mono (.dK c)⟩) (.dK c)⟩;rw[a2k n q];exact DPut.k c (a7A m▸t)
 |_=>exact ap h
def a97(e:G p=some (.dK kvs))(a:keyZ i=some k)(z:kvs.length<fi)(h:Rg (put G p (.dK (putZ kvs k w)))):b3Z (.ref p) i w G Rg:=⟨kvs,k,e,a,z,h⟩
def a7B:List Z->Hq->K3->Prop:=λxs G R=>match xs with
 |[.ref p]=>∃ns:List Int,(G p=some (.lst (ns.map Z.int))\/∃kvs,G p=some (.dK kvs)/\kvs.map (·.1)=ns.map λi=>Sum.inl (some i))/\ns.length<=1000/\∀(t:Addr)(ms:List Int),G t=none->ms.Perm ns->ms.Pairwise (·<=·)->R (.ref t) (put G t (.lst (ms.map Z.int)))
 |_=>False
def a9b(hc:X.calm=true):a3j X (.builtin "sorted") a7B:=a2v (a4A hc) λw H Q n=>n.un λm G R o b h q=>by
 match m,h with
 |[.ref p],h=>
  obtain⟨v,rfl,r⟩:=o.one;obtain⟨l,a,e,h⟩:=h;refine⟨p,l,by rw[r],?_,e,λt g c i j=>q _ _ _ _ (h t g (b.out c) i j) (by rw[a0p]) (b.set (.new c) (a0E (a1e _) (.new c))) (.new c)⟩;rcases a with a |⟨kvs,a,hk⟩
  ·obtain⟨u,d,f⟩:=b _ _ a
   have:=a3Q f
   subst this;exact .inl (SqL.of d)
  ·obtain⟨k,d,s,_⟩:=b _ _ a;exact .inr ⟨k,d,s.trans hk⟩
def a7C(e:G p=some (.dK kvs))(k:kvs.map (·.1)=ns.map λi=>Sum.inl (some i))(z:ns.length<=1000)(h:∀(t:Addr)(ms:List Int),G t=none->ms.Perm ns->ms.Pairwise (·<=·)->R (.ref t) (put G t (.lst (ms.map Z.int)))):a7B [.ref p] G R:=⟨ns,.inr ⟨kvs,e,k⟩,z,h⟩
variable{tg:Expr}{t:A3}
def iRev(t:A3):I3:=fun σ G R=>t σ G λws G1=>∃a xs,ws=[.ref a]/\G1 a=some (.lst xs)/\R xs.reverse (λG=>G a=some (.lst xs)) G1
def a7D{K:Fg}:a4r K ws.reverse (λG=>G a=some (.lst ws)) (Itv K a ws.length) H0:=λi G H g t l m=>by
 obtain⟨f,e,d⟩:=g a _ l;rw[eK]at m ⊢;refine⟨λh=>h,λw c=>?_⟩;have b:i<ws.length:=by
  have:=(aj.mp c).1
  rwa [eK]at this
 rw[List.getElem?_reverse b]at c;obtain⟨v,j,k⟩:=d.get c;refine⟨⟨b,f,SqL.of e,d.length.symm⟩,?_⟩;rintro x n ⟨rfl,y⟩
 have:=y f (SqL.of e)
 rw[j]at this;cases this;exact⟨k,g,.refl _ _⟩
def a4B(hg:Gl X "reversed")(hm:X.mg "reversed"=none)(ha:QA X [e] t)
  (he:fu [e] X.env=(false,eval e X.env)::fu [] X.env:=by rfl):QI X tg (.Call (.Name "reversed" p) [e] [] pos) (iRev t):=a8H (b3T hg hm ha.p he) fun τ H R2 i=>i.un fun σ G R k hg h o=>by
 refine⟨σ,G,_,k,hg,h,λws G1 vs H1 ⟨a,xs,e,f,l⟩ g b j=>?_⟩;subst e;obtain⟨v,rfl,r⟩:=g.one;subst r;obtain⟨m,n,d⟩:=b a _ f;exact⟨a,m,rfl,SqL.of n,by rw[<- d.length];exact o _ _ _ _ _ l a7D b j⟩
noncomputable def srcZ(G:Hq):Z->Option (List Z)
 |.ref a=>match G a with
  |some (.lst ws)=>some ws
  |_=>none
 |.tup ws=>some ws
 |_=>none
noncomputable def zipZ:List (List Z)->List Z
 |[]=>[]
 |[xs]=>xs.map λx=>.tup [x]
 |xs::rest=>List.zipWith (λx r=>match r with |.tup ws=>.tup (x::ws) |r=>r) xs (zipZ rest)
def iZip(n:Nat)(t:A3):I3:=fun σ G R=>t σ G λws G1=>∃xss:List (List Z),ws.map (srcZ G1)=xss.map some/\xss≠[]/\ws.length=n/\R (zipZ xss) (λG=>ws.map (srcZ G)=xss.map some) G1
theorem a0T:∀(xss:List (List Z)),xss≠[]->∀(i:Nat)(w:Z),(zipZ xss)[i]?=some w↔∃vs:List Z,w=.tup vs/\xss.map (·[i]?)=vs.map some
 |[],h,_,_=>absurd rfl h
 |[xs],_,i,w=>by
  simp only[zipZ,aq,am,aO]
  constructor
  ·intro h;cases e:xs[i]? with
   |none=>rw[e]at h;cases h
   |some x=>rw[e]at h;cases h;exact⟨[x],rfl,rfl⟩
  ·rintro⟨a,rfl,h⟩
   match a,h with
   |[v],h=>rw[am,aO]at h;injection h with h _;rw[h];rfl
   |[],h=>cases h
   |_::_::_,h=>simp at h
 |xs::ys::rest,_,i,w=>by
  have b:=a0T (ys::rest) (by simp)
  show (List.zipWith _ xs _)[i]?=some w↔_
  rw[List.getElem?_zipWith]
  constructor
  ·intro h;cases e1:xs[i]? with
   |none=>rw[e1]at h;cases h
   |some x=>
    cases e2:(zipZ (ys::rest))[i]? with
    |none=>rw[e1,e2]at h;cases h
    |some r=>
     rw[e1,e2]at h;obtain⟨a,rfl,c⟩:=(b i r).mp e2;cases h;exact⟨x::a,rfl,by rw[am,c,e1];rfl⟩
  ·rintro⟨a,rfl,h⟩
   match a,h with
   |[],h=>simp at h
   |v::a,h=>
    rw[am,am]at h;injection h with h1 h2
    have:=(b i _).mpr ⟨a,rfl,h2⟩
    rw[h1,this]
def a5j{K:Fg}(h:srcZ G w=some ws)(r:Rep K H w v)(hg:RH K G H):∃p:Bool×Addr,v=.ref p.2/\(p.1=true↔∃us,w=.tup us)/\∃vs,SrcP K H p vs/\Reps K H ws vs:=by
 cases w with
 |ref a=>
  cases q:G a with
  |none=>simp[srcZ,q]at h
  |some o=>
   cases o with
   |lst us=>
    simp[srcZ,q]at h;subst h;obtain⟨c,d,b⟩:=hg _ _ q;exact⟨(false,a),r,by simp,c,by unfold SrcP;rw[if_neg (by simp)];exact SqL.of d,b⟩
   |_=>simp[srcZ,q]at h
 |tup us=>
  obtain⟨a,c,rfl,e,b⟩:=r;cases h;exact⟨(true,a),rfl,by simp,c,by unfold SrcP;rw[if_pos rfl];exact SqT.of e,b⟩
 |_=>cases h
theorem a5k{K:Fg}(hg:RH K G H):∀{ws:List Z}{vs:List V}{xss:List (List Z)},ws.map (srcZ G)=xss.map some->Reps K H ws vs->∃ps:List (Bool×Addr),vs=ps.map (λp=>V.ref p.2)/\ps.length=ws.length /\
  (∀(j:Nat)(p:Bool×Addr)(w:Z),ps[j]?=some p->ws[j]?=some w->(p.1=true↔∃us,w=.tup us))/\∀p∈ps,∃us,SrcP K H p us
 |[],vs,xss,_,r=>by rw[a0s]at r;subst r;exact⟨[],rfl,rfl,λj p w e=>by simp at e,λp h=>by simp at h⟩
 |w::ws,vs,[],h,_=>by simp at h
 |w::ws,vs,xs::xss,h,r=>by
  injection h with h1 h2
  obtain⟨v,s,rfl,d,o⟩:=r;obtain⟨p,rfl,i,f,l,_⟩:=a5j h1 d hg;obtain⟨q,rfl,m,k,n⟩:=a5k hg h2 o;refine⟨p::q,rfl,by simp[m],λj a g c b=>?_,λa h=>?_⟩
  ·cases j with
   |zero=>simp at c b;subst c b;exact i
   |succ j=>exact k j a g (by simpa using c) (by simpa using b)
  ·rcases ag.mp h with rfl |h
   ·grind
   ·exact n a h
def SrcP.uniq{K:Fg}(h:SrcP K H p xs)(g:(if p.1=true then H p.2=some (.tup ys) else H p.2=some (.lst ys))):SrcP K H p ys:=by
 unfold SrcP
 split
 ·next e=>rw[if_pos e]at g;exact SqT.of g
 ·next e=>rw[if_neg e]at g;exact SqL.of g
def a7E{K:Fg}(h:srcZ G w=some ws)(r:Rep K H0 w (.ref p.2))(hp:p.1=true↔∃us,w=.tup us)(t:TK K H0 H)(hg:RH K G H):∃vs,SrcP K H p vs/\Reps K H ws vs:=by
 obtain⟨q,e,j,i,f,g⟩:=a5j h (r.mono t) hg;have k:p=q:=by
  obtain⟨a,b⟩:=p;obtain⟨c,d⟩:=q;cases e
  have:a=c:=by rw[bY];exact hp.trans j.symm
  rw[this]
 subst k;exact⟨i,f,g⟩
theorem a1i{α:Type}{β:Type}{f:α->Option β}:∀{l:List α}{m:List β}{j:Nat}{x:α},l.map f=m.map some->l[j]?=some x->∃y,m[j]?=some y/\f x=some y
 |[],_,_,_,_,e=>by simp at e
 |a::l,[],_,_,h,_=>by simp at h
 |a::l,b::m,j,x,h,e=>by
  injection h with h1 h2
  cases j with
  |zero=>simp at e;subst e;exact⟨b,rfl,h1⟩
  |succ j=>simpa using a1i h2 (by simp_all)
def a7F{K:Fg}(hne:xss≠[])(hv:vs=ps.map λp=>V.ref p.2)(hl:ps.length=ws.length)(rs:Reps K H0 ws vs)(hk:∀(j:Nat)(p:Bool×Addr)(w:Z),ps[j]?=some p->ws[j]?=some w->(p.1=true↔∃us,w=.tup us)) :
  a4r K (zipZ xss) (λG=>ws.map (srcZ G)=xss.map some) (ItzP K ps) H0:=λi G H S t Q hi=>by
 have A:xss.length=ws.length:=by rw[<- ae (as:=ws),Q,ae]
 have o:∀(j:Nat) p,ps[j]?=some p->∃b a,xss[j]?=some b/\SrcP K H p a/\Reps K H b a:=λj p e=>by
  have d:j<ws.length:=by rw[<- hl];exact (aj.mp e).1
  have I:=ak d;obtain⟨b,k,n⟩:=a1i Q I;obtain⟨v,m,r⟩:=rs.get I;rw[hv,aq,e]at m;cases m;obtain⟨a,s,L⟩:=a7E n r (hk j p _ e I) t S;exact⟨b,a,k,s,L⟩
 refine⟨λh=>⟨λp F=>?_,?_⟩,λw hw=>?_⟩
 ·obtain⟨j,d⟩:=bn F;obtain⟨b,a,_,k,_⟩:=o j p d;exact⟨a,k⟩
 ·refine Classical.byContradiction λno=>?_;have all:∀b∈xss,i<b.length:=λb E=>by
   obtain⟨j,d⟩:=bn E;have D:j<ps.length:=by rw[hl,<- A];exact (aj.mp d).1
   obtain⟨xs',a,k,n,m⟩:=o j _ (ak D);rw[d]at k;cases k;refine Classical.byContradiction λc=>no ⟨_,bu D,a,n,?_⟩;rw[<- m.length];omega
  have:(zipZ xss)[i]?=some (.tup (xss.map λb=>b.getD i .non)):=(a0T xss hne i _).mpr ⟨_,rfl,by
   rw[aZ];refine dI λb E=>?_
   have:=all b E
   simp[ak this]⟩
  have:=(aj.mp this).1
  omega
 ·obtain⟨g,rfl,U⟩:=(a0T xss hne i w).mp hw;have aa:g.length=ps.length:=by rw[<- ae,<- U,ae,A,hl]
  have B:∀(j:Nat)(b:List Z),xss[j]?=some b->∃z,g[j]?=some z/\b[i]?=some z:=λj b d=>a1i (f:=λl:List Z=>l[i]?) U d;refine⟨λp F=>?_,?_⟩
  ·obtain⟨j,d⟩:=bn F;obtain⟨b,a,M,k,n⟩:=o j p d;obtain⟨z,m,r⟩:=B j b M;obtain⟨v,s,_⟩:=n.get r;exact⟨a,v,k,s⟩
  ·rintro x H' ⟨T,a,R,rfl,rfl,C,N⟩;have tT:TK K H (upd H T (.tup a)):=.new R;refine⟨?_,S.hid R,tT⟩;rw[a0Y];refine⟨T,a,rfl,a0e,?_⟩;have go:∀{g:List Z}{a:List V},g.length=a.length->(∀(j:Nat) z u,g[j]?=some z->a[j]?=some u->Rep K H z u)->Reps K H g a:=by
    intro g
    induction g with
    |nil=>intro a h _;cases a with
     |nil=>exact .nil
     |cons _ _=>simp at h
    |cons z g ih=>intro a h q;cases a with
     |nil=>simp at h
     |cons u a=>exact .cons (q 0 z u rfl rfl) (ih (by simpa using h) λj z u J y=>q (j+1) z u (by simpa using J) (by simpa using y))
   refine (go (by rw[aa,C]) λj z u J y=>?_).mono tT;have d:j<ps.length:=by rw[<- C];exact (aj.mp y).1
   obtain⟨b,Y,M,k,n⟩:=o j _ (ak d);obtain⟨z',m,r⟩:=B j b M;rw[J]at m;cases m;obtain⟨v,s,L⟩:=n.get r;obtain⟨u',h7,X⟩:=N j _ Y (ak d) k;rw[y]at h7;cases h7;rw[s]at X;cases X;exact L
def a7G(hok:∀us:List Value,us.length=n->a2D us)(hn:n<=1000)(hg:Gl X "zip")(hm:X.mg "zip"=none)(ha:QA X (e::es) t)
  (he:fu (e::es) X.env=(false,eval e X.env)::fu es X.env:=by rfl) (hpl:(backTo pos (fu es X.env)).any (·.1)=false:=by rfl):QI X (.Tuple elts x1 tpos) (.Call (.Name "zip" p) (e::es) [] pos) (iZip n t):=a8H (b3S hg hm hok hn ha.p he hpl) fun τ H R2 a=>a.un fun σ G R s hg h u=>by
 refine⟨σ,G,_,s,hg,h,λws G1 vs H1 ⟨b,a,c,k,m⟩ l d q=>?_⟩;obtain⟨r,e,g,o,ha⟩:=a5k d a l;refine⟨r,e,?_,by rw[g,k],ha,u _ _ _ _ _ m (a7F c e g l o) d q⟩;rintro rfl
 have:b.length=0:=by rw[<- ae,<- a,ae,<- g];rfl
 exact c (bK.mp this)
def zok2(us:List Value)(h:us.length=2):a2D us:=by
 cases us with
 |nil=>cases h
 |cons a us=>cases us with
  |nil=>cases h
  |cons b us=>cases us with
   |nil=>exact b3Q a b
   |cons c us=>cases h
def zok4(us:List Value)(h:us.length=4):a2D us:=by
 cases us with
 |nil=>cases h
 |cons a us=>cases us with
  |nil=>cases h
  |cons b us=>cases us with
   |nil=>cases h
   |cons c us=>cases us with
    |nil=>cases h
    |cons d us=>cases us with
     |nil=>exact b3R a b c d
     |cons e us=>cases h
def b30(h:t σ G λws G1=>∃a xs,ws=[.ref a]/\G1 a=some (.lst xs)/\Ri xs.reverse (λG=>G a=some (.lst xs)) G1):iRev t σ G Ri:=h
def b31(h:t σ G λws G1=>∃xss:List (List Z),ws.map (srcZ G1)=xss.map some/\xss≠[]/\ws.length=n/\Ri (zipZ xss) (λG=>ws.map (srcZ G)=xss.map some) G1):iZip n t σ G Ri:=h
def a7H{K:Fg}(h:∀ws G R,¬ sp ws G R):FnOk P w K mg base CX k f fd ps (lowP K sp):=
 ⟨λ_ _ _ _ ⟨a,G,R,_,_,q,_⟩=>(h a G R q).elim,λ_ _ _ _ _ _ _ _ _ _ _ _ _ ⟨a,G,R,_,_,q,_⟩=>(h a G R q).elim⟩
end
section
variable{K:Fg}{H:Hp}
end
section
variable{X:Cx}{C f:Addr}{fd:fK}{ps:List Str}{sp:P3}{k:Nat}{a m x:Str}{p pos pos' tpos apos:Pos}{e o value:Expr}{es:List Expr}{te to:E3}{t:A3}
def made(h1:∀q dx,G1 q=none->sp (.ref q::ws) (put G1 q (.ins C dx [])) λv G2=>v=.non/\R (.ref q) G2)(rs:Reps X.K H1 ws vs)(hg1:RH X.K G1 H1)(up:UpV X.K H1 R Q)(q dx:Addr)(n1:H1 q=none)(n2:H1 dx=none)(ne:dx≠q) :
  lowP X.K sp (.ref q::(vs++[])) (L2.upd (L2.upd H1 dx (.own q)) q (.ins C dx [])) (λv H2=>v=.non/\Q (.ref q) H2) E:=by
 have a:L2.upd H1 dx (.own q) q=none:=(a0d (Ne.symm ne))▸n1;have d:TK X.K H1 (L2.upd _ q (.ins C dx [])):=(TK.new n2).trans (TK.new a);refine⟨.ref q::ws,put G1 q (.ins C dx []),_,?_,?_,h1 q dx (hg1.out n1),?_⟩
 ·rw[aV,a1D];exact⟨_,vs,rfl,by rw[a0p],rs.mono d⟩
 ·exact (hg1.hid n2).set (TK.new a) ⟨[],a0e,rfl,by rw[aO,a0s];rfl⟩
 ·rintro w h v i ⟨f,g⟩ b c e;subst f;exact⟨b,up _ _ _ _ g (by rw[a0p]) c (d.trans e)⟩
variable{σ:S3}{G:Hq}{R:K3}{nx bk ct:C3}{rt:K3}{q dx:Addr}{fs:List (Str×Z)}{v:Z}{Ra:List Z->Hq->Prop}
end
end L3
namespace L2
open PySem PySem.Spec PyProof.Rows
section
variable{X:Cx}{pins:List (Addr×Obj)}{σ:St}{H:Hp}{s:Shared}{a:Addr}{kvs:List (Key×V)}{k:Key}{d:V}{u r:Value}{A:Around}{E:Value->Shared->Prop}
def b32(I:Inv X pins σ H s)(e:H a=some (.dK kvs))(ry:RelV (kV k) u)(rd:RelV d r)(hz:kvs.length<fi)
  (h1:∀v w' s',valV kvs k=some v->Inv X pins σ H s'->RelV v w'->Q w' s') (h2:valV kvs k=none->∀s',Inv X pins σ (upd H a (.dK (putK kvs k d))) s'->Q r s') :
  wpAny (model X.prog X.w) A (call (.builtin "dict.setdefault") [.ref a,u,r]) Q E s:=by
 obtain⟨z,f,n,b,h⟩:=b0J I.hok e;have l:(putK kvs k d).length<=sizeLine:=by have:=a1r kvs k d;lia
 refine ik PySem.F.slot_dict_setdefault h.typeIs PySem.F.entry_dict_setdefault (PySem.F.args_dict_setdefault_3 _ _ _) (kt_meets_setdefault _ a (a6J ry) f r) ⟨n,h,by rw[<- b.length];exact z,λm i=>?_,λx p c o=>?_⟩
 ·cases hv:valV kvs k with
  |none=>
   have:=(b.val k).isSome_eq
   rw[hv,i]at this;cases this
  |some v=>
   have g:=b.val k;rw[hv,i]at g;exact h1 v m _ hv (I.tok _) g
 ·have j:valV kvs k=none:=by
   have:=(b.val k).isSome_eq
   rw[x]at this;cases hv:valV kvs k with
   |none=>rfl
   |some v=>rw[hv]at this;cases this
  have t:∃q,p.get? a=some q:=by obtain⟨q,_,_,hq,_⟩:=c;exact⟨q,hq⟩
  exact h2 j _ (a4m I (e▸True.intro) o t (a9N l f (b.put k rd) c))
end
section
variable{X:Cx}
def b1m(hu:X.A.units+66<cLine):MtR X "dict.get" (λx vs H Q=>∃a y d o,x=.ref a/\vs=[y,d]/\DGet H a y o/\Q (o.getD d) H):=by
 intro f s σ H x m v t Q I c k ⟨a,y,d,o,h,e,g,q⟩;subst h e;cases c;obtain⟨u,r,rfl,j,l⟩:=a8p k;exact b2M (by lia) I g j l λn p i b=>⟨_,H,i,b,q⟩
def a9c(hu:X.A.units+66<cLine):MtR X "dict.get" (λx vs H Q=>∃a y o,x=.ref a/\vs=[y]/\DGet H a y o/\Q (o.getD .non) H):=by
 intro i s σ H x m v n Q I f e ⟨a,y,o,c,d,g,q⟩;subst c d;cases f;obtain⟨u,rfl,h⟩:=a2c e;exact b2L (by lia) I g h λl k j b=>⟨_,H,j,b,q⟩
def b1n:MtR X "dict.setdefault" (λx vs H Q=>∃a kvs k d,x=.ref a/\vs=[kV k,d]/\H a=some (.dK kvs)/\kvs.length<fi/\(∀v,valV kvs k=some v->Q v H)/\(valV kvs k=none->Q d (upd H a (.dK (putK kvs k d))))):=by
 intro m s σ H x z v B Q I i p ⟨a,y,k,d,n,j,e,q,g,t⟩;subst n j;cases i;obtain⟨u,r,rfl,o,f⟩:=a8p p;exact b32 I e o f q (λv A w l b c=>⟨v,H,b,c,g v l⟩) λh w b=>⟨d,_,b,f,t h⟩
end
end L2
namespace L3
open PySem PySem.Spec PyProof.Rows L2
noncomputable def valZ(kvs:List (Key×Z))(k:Key):Option Z:=(kvs.find? λkv=>decide (kv.1=k)).map (·.2)
theorem a0U{K:Fg}:∀{kvs:List (Key×Z)}{us:List (Key×V)},us.map (·.1)=kvs.map (·.1)->Reps K H (kvs.map (·.2)) (us.map (·.2))->(valZ kvs k=none->valV us k=none)/\∀z,valZ kvs k=some z->∃v,valV us k=some v/\Rep K H z v
 |[],[],_,_=>⟨λ_=>rfl,λ_ h=>by cases h⟩
 |[],_::_,h,_=>by simp at h
 |_::_,[],h,_=>by simp at h
 | (c,x)::fs,(c',v)::gs,h,r=>by
  simp at h;obtain⟨rfl,h⟩:=h;obtain⟨g,f,e,d,a⟩:=r;obtain⟨rfl,rfl⟩:=bh.inj e;unfold valZ valV;rw[bB,bB];cases q:decide (c'=k) with
  |true=>
   refine⟨λe=>?_,λz e=>?_⟩
   ·cases e
   ·cases e;exact⟨v,rfl,d⟩
  |false=>exact (a0U (k:=k) h a)
section
variable{X:Cx}
def b33:Z->List Z->Hq->K3->Prop:=λx xs G R=>match x,xs with
 |.ref p,[y,d]=>∃kvs k,(G p=some (.dK kvs)\/G p=some (.dF kvs))/\keyZ y=some k/\R ((valZ kvs k).getD d) G
 |_,_=>False
def b34(hu:X.A.units+66<cLine):MtQ X "dict.get" b33:=a5O (b1m hu) λx E H Q m=>m.un λw B G R j s i h l=>by
 match w,B,h with
 |.ref p,[y,d],h=>
  obtain⟨v,q,rfl,t,o⟩:=s.two;obtain⟨g,k,e,D,h⟩:=h;obtain⟨a,f,c,b⟩:∃a,Rd H p (.dK a)/\a.map _=g.map _/\Reps X.K H _ (a.map _):=by
   rcases e with e |e
   ·obtain⟨a,f,c,b⟩:=i _ _ e;exact⟨a,.inl f,c,b⟩
   ·obtain⟨C,a,f,c,b⟩:=i _ _ e;exact⟨a,.inr ⟨C,f⟩,c,b⟩
  refine⟨p,v,q,valV a k,j,rfl,by rw[a2k D t];exact .inl ⟨a,k,f,rfl,rfl⟩,?_⟩;cases hz:valZ g k with
  |none=>
   rw[hz]at h;rw[(a0U c b).1 hz];exact l _ _ _ _ h o i (.refl _ _)
  |some z=>
   rw[hz]at h;obtain⟨u,r,n⟩:=(a0U c b).2 z hz;rw[r];exact l _ _ _ _ h n i (.refl _ _)
def b35:Z->List Z->Hq->K3->Prop:=λx xs G R=>match x,xs with
 |.ref p,[y]=>∃kvs k,G p=some (.dK kvs)/\keyZ y=some k/\R ((valZ kvs k).getD .non) G
 |_,_=>False
def b1o(hu:X.A.units+66<cLine):MtQ X "dict.get" b35:=a5O (a9c hu) λx t H Q n=>n.un λw l G R a j b h g=>by
 match w,l,h with
 |.ref p,[y],h=>
  obtain⟨v,rfl,m⟩:=j.one;obtain⟨c,k,e,q,h⟩:=h;obtain⟨r,s,d,f⟩:=b _ _ e;refine⟨p,v,valV r k,a,rfl,by rw[a2k q m];exact DGet.k s,?_⟩;cases hz:valZ c k with
  |none=>
   rw[hz]at h;rw[(a0U d f).1 hz];exact g _ _ _ _ h (by rw[dh,a0z];rfl) b (.refl _ _)
  |some z=>
   rw[hz]at h;obtain⟨u,i,o⟩:=(a0U d f).2 z hz;rw[i];exact g _ _ _ _ h o b (.refl _ _)
def b36:Z->List Z->Hq->K3->Prop:=λx xs G R=>match x,xs with
 |.ref p,[y,d]=>∃kvs k,G p=some (.dK kvs)/\keyZ y=some k/\kvs.length<fi/\(∀z,valZ kvs k=some z->R z G)/\(valZ kvs k=none->R d (put G p (.dK (putZ kvs k d))))
 |_,_=>False
def a35:MtQ X "dict.setdefault" b36:=a5O b1n λx M H Q C=>C.un λw t G R i F l h r=>by
 match w,t,h with
 |.ref p,[y,d],h=>
  obtain⟨v,E,rfl,B,q⟩:=F.two;obtain⟨b,k,e,L,A,s,J⟩:=h;obtain⟨D,c,f,g⟩:=l _ _ e;refine⟨p,D,k,E,i,by rw[a2k L B],c,by rw[a7A f];exact A,λu a=>?_,λa=>?_⟩
  ·cases hq:valZ b k with
   |none=>rw[(a0U f g).1 hq]at a;cases a
   |some z=>
    obtain⟨I,j,m⟩:=(a0U f g).2 z hq;rw[j]at a;cases a;exact r _ _ _ _ (s z hq) m l (.refl _ _)
  ·cases hq:valZ b k with
   |some z=>
    obtain⟨I,j,m⟩:=(a0U f g).2 z hq;rw[j]at a;cases a
   |none=>
    have n:=a5i (k:=k) q f g;exact r _ _ _ _ (J hq) (q.mono (.dK c)) (l.set (.dK c) ⟨_,a0e,n.1,n.2.mono (.dK c)⟩) (.dK c)
def a98(e:G p=some (.dK kvs))(a:keyZ y=some k)(h:R ((valZ kvs k).getD d) G):b33 (.ref p) [y,d] G R:=⟨kvs,k,.inl e,a,h⟩
def b37(e:G p=some (.dK kvs))(a:keyZ y=some k)(z:kvs.length<fi)(h1:∀z,valZ kvs k=some z->R z G)(h2:valZ kvs k=none->R d (put G p (.dK (putZ kvs k d)))):b36 (.ref p) [y,d] G R:=⟨kvs,k,e,a,z,h1,h2⟩
def b1p{P:Prop}(e:G p=some (.dK kvs))(h:P):tyZ "dict" (.ref p) G/\P:=⟨.inr ⟨rfl,kvs,.inl e⟩,h⟩
end
noncomputable def keysOf:List (Z×Z)->Option (List (Key×Z))
 |[]=>some []
 | (x,y)::r=>match keyZ x,keysOf r with
  |some k,some kvs=>some ((k,y)::kvs)
  |_,_=>none
def PReps(K:Fg)(H:Hp):List (Z×Z)->List (V×V)->Prop:=Paired λp q=>Rep K H p.1 q.1/\Rep K H p.2 q.2
def PReps.mono{K:Fg}(t:TK K H H'):∀{ps:List (Z×Z)}{vs:List (V×V)},PReps K H ps vs->PReps K H' ps vs:=by intro z0 y0 x0;induction x0 with
 |nil=>exact .nil
 |cons r s I0=>exact .cons ⟨r.1.mono t,r.2.mono t⟩ (I0)
section
variable{X:Cx}
end
end L3
namespace L3
theorem ln0{α:Type}{C:List α->Prop}(h:C []):∀us:List α,us.length=0->C us
 |[],_=>h
theorem lnS{α:Type}{C:List α->Prop}(h:∀a,∀us:List α,us.length=n->C (a::us)):∀us:List α,us.length=n+1->C us
 |a::us,e=>h a us (Nat.succ.inj e)
end L3
namespace L2
open PySem PySem.Spec PyProof.Rows
section
variable{X:Cx}
def b1q:∀{vs:List Value}{ns:List Int},fG vs ns->SetW.KsAre (ie P w) vs ns:=by intro z0 y0 x0;induction x0 with
 |nil=>exact .nil
 |cons n t h I0=>exact .cons (intKind_is _ _ _ _) (I0)
def b1r(h:SetW.KsAre (ie P w) vs ns):fG vs ns:=by
 induction h with
 |nil=>exact .nil
 | @cons v k vs ks h _ ih=>
  cases v<;>simp[ie,Value.isInt]at h
  subst h;exact .cons _ _ ih
def a7I:∀{vs:List Value}{ns:List Int},fG vs ns->∀v∈vs,v.scannable=true:=by
 intro vs ns h
 induction h with
 |nil=>intro v hv;cases hv
 |cons n t h ih=>
  intro v hv;rcases ag.mp hv with rfl |hv
  ·rfl
  ·exact ih v hv
noncomputable def setO(X:Cx)(t:Addr)(ms:List Int):HO:=.ext λh=>SetW.SI (ie X.prog X.w) h t ms
def b38(X:Cx):List V->Hp->VK->Prop:=λxs H Q=>∃(p:Addr)(ns:List Int),xs=[.ref p]/\SqL X.K H p (ns.map V.int)/\ns.length<=1000 /\
 ∀(t:Addr)(ms:List Int),H t=none->SetW.Met (λi=>ns.getD i 0) ns.length ms->Q (.ref t) (upd H t (setO X t ms))
def a52(hc:X.calm=true):CallR X (.type "set") (b38 X):=by
 intro c s σ H xs us Q I r h;obtain⟨p,ns,rfl,n,hz,q⟩:=h;obtain⟨u,rfl,v⟩:=a2c r;cases v;obtain⟨j,m,z,_⟩:=I.list n;have f:=a2S m;have A:=a3v f;have sb:1001<scanBound:=by decide
 have i:j.toArray.size=ns.length:=by grind
 refine SetW.call_set (ns:=ns) (k0:=0) (I.ok.hd hc) z.isList (by simpa using b1q f) (by simpa using a7I f) (by grind) λg l d S M k=>?_;rw[i]at M;have t:=
  I.laid (t':=l) (λb o e=>k b o (Heap.lt_size e) e) (af _) (show ObjOk X.prog X.w _ g _ (setO X s.heap.objs.size d) from ⟨S,by obtain⟨_,_,_,S'⟩:=S;exact by obtain⟨o,e,_⟩:=S'.at_;exact⟨o,e⟩,λ_ _ x y=>x.at y⟩)
 exact⟨.ref s.heap.objs.size,_,t,rfl,q _ d (I.hok.fresh (af _)) M⟩
def a9d(X:Cx):List V->Hp->VK->Prop:=λxs H Q=>∃(p:Addr)(ms:List Int),xs=[.ref p]/\H p=some (setO X p ms)/\ms.length<=1000 /\
 ∀(t:Addr)(ks:List Int),H t=none->ks.Perm ms->ks.Pairwise (·<=·)->Q (.ref t) (upd H t (.lst (ks.map V.int)))
def a36(hc:X.calm=true):CallR X (.builtin "sorted") (a9d X):=by
 intro c s σ H xs us Q I r h;obtain⟨p,ns,rfl,y,B,q⟩:=h;obtain⟨u,rfl,t⟩:=a2c r;cases t;refine a34 B (λR E=>SetW.collect_set (I.ok.hd hc) ((I.hok p _ y).1) λg a d m F J l C=>E g a d m F J (b1r l) C) λg v a d j n i x D e z k o=>?_;have f:Inv X c σ H { s with heap:=g,drawn:=d,toks:=a }:=(I.drew d).kept x;exact⟨.ref g.objs.size,_,f.laid D (af _) (show ObjOk X.prog X.w _ v _ (.lst _) from ⟨by rw[ae,k.length_eq,fC];lia,j,n,a33 z,e⟩),rfl,q _ i (f.hok.fresh (af _)) k o⟩
end
end L2
namespace L3
open PySem PySem.Spec PyProof.Rows L2
def b1s{ns ms:List Int}(h:SetW.Met (λi=>ns.getD i 0) ns.length ms):∀x,x∈ms↔x∈ns:=λx=>by
 rw[h.2.2 x]
 constructor
 ·rintro⟨j,a,e⟩;have e:ns.getD j 0=x:=e;rw[bO,ak a]at e;exact e▸bu a
 ·intro b;obtain⟨j,a,e⟩:=cz.mp b;exact⟨j,a,by show ns.getD j 0=x;rw[bO,ak a];exact e⟩
def a7J:∀{ks:List Int},ks.Nodup->ks.Pairwise (·<=·)->ks.Pairwise (·<·):=by intro z0;induction z0 with
 |nil=>intro _ _;exact .nil
 |cons k ks I0=>
  intro h1 h2;obtain⟨b,c⟩:=bp.mp h1;obtain⟨f,d⟩:=av.mp h2;refine av.mpr ⟨λx a=>?_,I0 c d⟩;have h:=f x a;have g:k≠x:=λe=>b (e▸a)
  lia
section
variable{X:Cx}{e:Expr}{es:List Expr}{t:A3}{x y:Str}{p p2 pos pos2:Pos}
def uSS(t:A3):E3:=fun σ G R=>t σ G λws G1=>∃(p:Addr)(ns:List Int),ws=[.ref p]/\G1 p=some (.lst (ns.map Z.int))/\ns.length<=1000 /\
 ∀(t:Addr)(ks:List Int),G1 t=none->ks.Pairwise (·<·)->(∀x,x∈ks↔x∈ns)->ks.length<=ns.length->R (.ref t) (put G1 t (.lst (ks.map Z.int)))
def i_ss{p:Addr}{ns:List Int}{R:K3}(e:G p=some (.lst (ns.map Z.int)))(z:ns.length<=1000)
  (h:∀(t:Addr)(ks:List Int),G t=none->ks.Pairwise (·<·)->(∀x,x∈ks↔x∈ns)->ks.length<=ns.length->R (.ref t) (put G t (.lst (ks.map Z.int)))) :
  ∃(q:Addr)(ns':List Int),[Z.ref p]=[.ref q]/\G q=some (.lst (ns'.map Z.int))/\ns'.length<=1000 /\
   ∀(t:Addr)(ks:List Int),G t=none->ks.Pairwise (·<·)->(∀x,x∈ks↔x∈ns')->ks.length<=ns'.length->R (.ref t) (put G t (.lst (ks.map Z.int))):=⟨p,ns,rfl,e,z,h⟩
def q_ss(hc:X.calm=true)(hg:Gl X x)(hm:X.mg x=none)(hv:fJ x=some (.builtin "sorted"))(hg2:Gl X y)(hm2:X.mg y=none)(hv2:fJ y=some (.type "set"))(ha:QA X (e::es) t)
  (he:fu (e::es) X.env=(false,eval e X.env)::fu es X.env) (hpl:(backTo pos2 (fu es X.env)).any (·.1)=false)
  (hn:x≠"__name__":=by decide) (hdb:(x==("__debug__":Str))=false:=by decide) (hn2:y≠"__name__":=by decide) (hdb2:(y==("__debug__":Str))=false:=by decide) :
  QE X (.Call (.Name x p) [.Call (.Name y p2) (e::es) [] pos2] [] pos) (uSS t):=⟨a0O (a2h (a36 hc) hg hm hv (a2q (a1c (a52 hc) hg2 hm2 hv2 ha.p hn2 hdb2 he hpl) a3J rfl) hn hdb rfl rfl) fun τ H Q n=>n.un fun σ G R hs hg h s=>
 ⟨σ,G,_,hs,hg,h,λws G1 vs H1 f rs c w=>by
  obtain⟨p,B,rfl,A,z,f⟩:=f;obtain⟨v,rfl,r⟩:=rs.one;obtain⟨vs',o,k⟩:=c _ _ A
  have:=a3Q k
  subst this;refine⟨p,B,by rw[r],SqL.of o,z,λa j ha M=>⟨a,j,rfl,a0e,ax M.2.1 z,λu q b g m=>?_⟩⟩;have l:=c.hid (u:=setO X a j) ha;exact s _ _ _ _ (f u q (l.out b) (a7J (g.nodup_iff.mpr M.1) m) (λx=>by rw[g.mem_iff];exact b1s M x) (g.length_eq▸M.2.1)) (by rw[a0p]) (l.set (.new b) (a0E (a1e _) (.new b))) (w.trans ((TK.new ha).trans (.new b)))⟩⟩
end
inductive Refs (G:Hq):List Z->List (List Z)->Prop
 |nil:Refs G [] []
 |cons {a:Addr} {ws:List Z} {xs:List Z} {xss:List (List Z)}:G a=some (.lst xs)->xs.all (flat 8)=true->Refs G ws xss->Refs G (.ref a::ws) (xs::xss)
noncomputable def dLs(xss:List (List Z)):List PyData:=xss.map λxs=>.list (dZs xs)
def zEqL(f:Bool->Bool):R3:=λx y G R=>∃(p q:Addr)(ws us:List Z)(xss yss:List (List Z)),x=.ref p/\y=.ref q/\G p=some (.lst ws)/\G q=some (.lst us)/\Refs G ws xss/\Refs G us yss/\R (.bl (f (decide (xss=yss)))) G
def a1L(h:Refs G ws xss):∀xs∈xss,xs.all (flat 8)=true:=by
 induction h with
 |nil=>intro b a;cases a
 |cons _ f _ ih=>
  intro b a;rcases ag.mp a with e |a
  ·rw[e];exact f
  ·exact ih b a
def a5l{K:Fg}(hg:RH K G H)(h:Refs G ws xss):∀{vs:List V},Reps K H ws vs->DVs H (dLs xss) vs:=by
 induction h with
 |nil=>intro b r;exact r
 | @cons a ws xs xss g f _ ih=>
  intro b r;obtain⟨v,k,e,c,i⟩:=r;obtain⟨j,l,d⟩:=hg _ _ g;refine⟨v,k,e,?_,ih i⟩;exact⟨a,j,c,l,a44 8 _ _ f d⟩
theorem a7K:∀{xss:List (List Z)},(∀xs∈xss,xs.all (flat 8)=true)->PyData.canLayAll0 (dLs xss)=true/\PyData.depthAll (dLs xss)<=9
 |[],_=>by simp[dLs,PyData.canLayAll0,PyData.depthAll]
 |xs::xss,h=>by
  have q:=a67 8 xs (h xs (.head _));have r:=a7K λb a=>h b (.tail _ a)
  show PyData.canLayAll0 (.list _::dLs xss)=true/\PyData.depthAll (.list _::dLs xss)<=9
  simp only[PyData.canLayAll0,PyData.depthAll,PyData.canLay0,PyData.depth,q.1,r.1,cO,true_and];omega
def a23(h:∀xs∈xss,xs.all (flat 8)=true):SeqAt.shaped (.list (dLs xss))=true:=by
 have q:=a7K h;unfold SeqAt.shaped;simp only[PyData.canLay0,PyData.depth,q.1];exact decide_eq_true (by omega)
theorem a7L:∀{xss yss:List (List Z)},(∀xs∈xss,xs.all (flat 8)=true)->(∀xs∈yss,xs.all (flat 8)=true)->(PyData.eqvAll (dLs xss) (dLs yss)=true↔xss=yss)
 |[],[],_,_=>by simp[dLs,PyData.eqvAll]
 |[],_::_,_,_=>by simp[dLs,PyData.eqvAll]
 |_::_,[],_,_=>by simp[dLs,PyData.eqvAll]
 |xs::xss,ys::yss,h1,h2=>by
  have q:=a69 8 8 xs ys (h1 xs (.head _)) (h2 ys (.head _));have r:=a7L (λz a=>h1 z (.tail _ a)) λz a=>h2 z (.tail _ a)
  show PyData.eqvAll (.list _::dLs xss) (.list _::dLs yss)=true↔_
  simp only[PyData.eqvAll,PyData.eqv,aQ,q,r,bh.injEq]
section
variable{X:Cx}
def a7M{K:Fg}(h:low2 K (zEqL f) x y H Q) :
  ∃d e,DV H d x/\DV H e y/\SeqAt.shaped d=true/\SeqAt.shaped e=true/\Q (.bl (f (PyData.eqv d e))) H:=by
 obtain⟨a,b,G,R,r,n,c,h,u⟩:=h;obtain⟨p,q,A,B,o,k,rfl,rfl,v,z,i,g,h⟩:=h;obtain⟨t,m,w⟩:=c _ _ v;obtain⟨l,j,s⟩:=c _ _ z;refine⟨.list _,.list _,?_,?_,a23 (a1L i),a23 (a1L g),?_⟩;exact⟨_,t,r,m,a5l c i w⟩;exact⟨_,l,n,j,a5l c g s⟩
 ·simp only[PyData.eqv];rw[a3n (a7L (a1L i) (a1L g))];exact u _ _ _ _ h (by rw[a0v]) c (.refl _ _)
def b57(hu:X.A.units+66<cLine):OpQ X (fz .Eq) (zEqL id):=a2u (a9O hu) λx y H Q h=>a7M h
def b39(hu:X.A.units+66<cLine):OpQ X (fz .NotEq) (zEqL not):=a2u (a9P hu) λx y H Q h=>a7M h
def b4a(e1:G p=some (.lst ws))(e2:G q=some (.lst us))(f1:Refs G ws xss)(f2:Refs G us yss)(h:R (.bl (f (decide (xss=yss)))) G):zEqL f (.ref p) (.ref q) G R:=
 ⟨p,q,ws,us,xss,yss,rfl,rfl,e1,e2,f1,f2,h⟩
end
end L3
namespace L2
open PySem PySem.Spec PyProof.Rows
section
variable{X:Cx}
def KD(X:Cx)(a:Addr)(kvs:List (Key×V)):Prop:=kvs.length<=fi/\(a==fO)=false/\∃vs,KV kvs vs/\∀h:Heap,X.K.In h->h.DictOf (a0w X.prog X.w) a vs
end
end L2
namespace L3
open PySem PySem.Spec PyProof.Rows L2
section
variable{X:Cx}
noncomputable def zV:Z->V
 |.str x=>.str x
 |.ref a=>.ref a
 |.int i=>.int i
 |_=>.non
noncomputable def b4b:Z->Bool
 |.str _=>true
 |.ref _=>true
 |.int _=>true
 |_=>false
def KDZ(X:Cx)(a:Addr)(kvs:List (Key×Z)):Prop:=(∀kv∈kvs,b4b kv.2=true)/\KD X a (kvs.map λkv=>(kv.1,zV kv.2))
def KTup(K:Fg)(a:Addr)(ss:List Str):Prop:=∃(o:Obj)(its:Array Value)(n:Nat),K.lookup a=some o/\o.cls=.type "tuple"/\o.data=.seq its n/\its.size<=fi/\Vals (ss.map V.str) its.toList
def KTup.sq{K:Fg}(h:KTup K a ss):SqT K H a (ss.map V.str):=.inr h
variable{t:A3}
end
def KDk(w:World)(K:Fg)(a:Addr)(kvs:List (Key×Z)):Prop:=(∀kv∈kvs,b4b kv.2=true)/\kvs.length<=fi/\(a==fO)=false/\∃vs:List (Key×Value),KV (kvs.map λkv=>(kv.1,zV kv.2)) vs/\∀(P:fq)(h:Heap),K.In h->h.DictOf (a0w P w) a vs
def KDk.at(h:KDk X.w X.K a kvs):KDZ X a kvs:=⟨h.1,by rw[ae];exact h.2.1,h.2.2.1,by obtain⟨vs,r,q⟩:=h.2.2.2;exact⟨vs,r,q X.prog⟩⟩
end L3
namespace L2
open PySem PySem.W
end L2
namespace L2
open PySem PySem.Spec PyProof.Rows
section
variable{X:Cx}{e:Addr}{oe:Obj}{C:Addr}
end
end L2
namespace L3
open PySem PySem.Spec PyProof.Rows L2
abbrev PX3:=List Z->Hq->K3->(Addr->Hq->Prop)->Prop
def UpX(K:Fg)(H:Hp)(EE:Addr->Hq->Prop)(E:XK):Prop:=∀C G H',EE C G->RH K G H'->TK K H H'->E (.ref C) none H'
def b58{K:Fg}(t:TKs H H'):TK K H H':=⟨t.tup,λa b h=>by
 rcases h with ⟨o,h⟩ |h
 ·exact .inl ⟨o,t.frz _ _ _ h⟩
 ·exact .inr h,t.frz⟩
def UpN(K:Fg)(EE:Addr->Hq->Prop)(E:XK):Prop:=∀C G H',EE C G->RH K G H'->E (.ref C) none H'
def UpX.since{K:Fg}(h:UpX K H EE E):UpN K EE (since H E):=λC G a q r t=>h C G a q r (b58 t)
section
variable{X:Cx}{E:XK}{EE:Addr->Hq->Prop}{e e0:Expr}{es:List Expr}{x n:Str}{p pos np cpos hpos tpos:Pos}{t:A3}{te:E3}{k:Nat}{f C D:Addr}{fd:fK}{ps:List Str}{sp:PX3}
variable{o:Expr}{m:Str}{apos:Pos}{to:E3}{PC:Addr->Prop}
end
section
variable{X:Cx}{EW:XK}{N':List Str}{sc:Scope}{cap:List (Option Nat)}{tg iter elt:Expr}{ifs:List Expr}{wi:I3}{pt:Pt}{tt:T3}{te:E3}{pos:Pos}
end
section
variable{P:fq}{w:World}{K:Fg}{mg:Str->Option Value}{base:Heap}
end
mutual
def DZ(G:Hq):PyData->Z->Prop
 |.none,x=>x=.non
 |.bool b,x=>x=.bl b
 |.int i,x=>x=.int i
 |.str s,x=>x=.str s
 |.list ds,x=>∃p ws,x=.ref p/\G p=some (.lst ws)/\DZs G ds ws
 |.tuple ds,x=>∃ws,x=.tup ws/\DZs G ds ws
 |.dict _,_=>False
def DZs(G:Hq):List PyData->List Z->Prop
 |[],ws=>ws=[]
 |d::ds,ws=>∃w r,ws=w::r/\DZ G d w/\DZs G ds r
end
mutual
theorem DZ.sm{G G':Hq}(s:Sm G G'):∀{d:PyData}{w:Z},DZ G d w->DZ G' d w
 |.none,w,q=>by unfold DZ at q ⊢;exact q
 |.bool b,w,q=>by unfold DZ at q ⊢;exact q
 |.int i,w,q=>by unfold DZ at q ⊢;exact q
 |.str _,w,q=>by unfold DZ at q ⊢;exact q
 |.list ds,w,q=>by
  unfold DZ at q ⊢;obtain⟨p,ws,e,hp,q⟩:=q;exact⟨p,ws,e,s _ _ hp,DZs.sm s q⟩
 |.tuple ds,w,q=>by
  unfold DZ at q ⊢;obtain⟨ws,e,q⟩:=q;exact⟨ws,e,DZs.sm s q⟩
 |.dict _,w,q=>by unfold DZ at q;exact q.elim
theorem DZs.sm{G G':Hq}(s:Sm G G'):∀{ds:List PyData}{ws:List Z},DZs G ds ws->DZs G' ds ws
 |[],ws,q=>by unfold DZs at q ⊢;exact q
 |d::ds,ws,q=>by
  unfold DZs at q ⊢;obtain⟨w,r,e,q1,q2⟩:=q;exact⟨w,r,e,DZ.sm s q1,DZs.sm s q2⟩
end
section
variable{X:Cx}
end
end L3
namespace L2
open PySem PySem.Spec PyProof.Rows
end L2
namespace L3
open PySem PySem.Spec PyProof.Rows L2
section
variable{X:Cx}{E:XK}{e:Expr}{es:List Expr}{x n:Str}{p pos np hpos tpos:Pos}{t:A3}{k:Nat}{f D:Addr}{fd:fK}{ps:List Str}{sp:PX3}
end
end L3
namespace L2
open PySem PySem.Spec PyProof.Rows
section
variable{X:Cx}{pins:List (Addr×Obj)}{σ:St}{H:Hp}{s:Shared}{a:Addr}{kvs:List (Key×V)}{tg:Expr}
end
end L2
namespace L3
open PySem PySem.Spec PyProof.Rows L2
section
variable{X:Cx}{tg l:Expr}{tl:E3}
end
end L3
namespace L2
open PySem PySem.Spec PyProof.Rows
def b1t:∀{ss:List Str}{us:List Value},Vals (ss.map V.str) us->gX us ss:=by intro z0;induction z0 with
 |nil=>intro us r;rw[aO]at r;cases r;exact .nil
 |cons s ss I0=>
  intro us r;cases r with
  |cons r1 r2=>obtain⟨t,rfl⟩:=r1;exact .cons s t (I0 r2)
def a7N:∀{vs:List Value}{ss:List Str},gX vs ss->Vals (ss.map V.str) vs:=by intro z0 y0 x0;induction x0 with
 |nil=>exact .nil
 |cons s t h I0=>exact .cons ⟨t,rfl⟩ (I0)
end L2
namespace L3
open PySem PySem.Spec PyProof.Rows L2
def a24{K:Fg}:∀ss:List Str,Reps K H (ss.map Z.str) (ss.map V.str):=by intro z0;induction z0 with
 |nil=>rw[aO,aO,a0s]
 |cons s ss I0=>
  exact⟨_,_,rfl,by rw[a0x],I0⟩
def a53{K:Fg}:∀{ss:List Str}{vs:List V},Reps K H (ss.map Z.str) vs->vs=ss.map V.str:=by intro z0;induction z0 with
 |nil=>intro vs h;rw[aO,a0s]at h;subst h;rfl
 |cons s ss I0=>
  intro vs h;obtain⟨v,r,rfl,a,b⟩:=h;rw[a,I0 b];rfl
end L3
namespace L2
open PySem PySem.Spec PyProof.Rows
structure Cl where
 x:Str
 np:Pos
 b₀:Stmt
 suite:List Stmt
 hp:Pos
noncomputable def Cl.h(n:Str)(c:Cl):ExceptHandler:=.ExceptHandler (some (.Name c.x c.np)) (some n) (c.b₀::c.suite) c.hp
inductive Picks (X:Cx) (C:Addr) (th:Addr->TS):List Cl->Prop
 |here {c:Cl} {cs:List Cl} {D:Addr} (hg:Gl X c.x) (hm:X.mg c.x=some (.ref D)) (hd:(c.x==("__debug__":Str))=false) (hD:PySem.W.exmOne X.K (.ref C) (.ref D)=some true)
   (hh:∀e oe,oe.cls=.ref C->oe.dict=none->PySem.W.notCls oe=true->PSs (X.hnd e oe) (c.b₀::c.suite) (th e)):Picks X C th (c::cs)
 |next {c:Cl} {cs:List Cl} {D:Addr} (hg:Gl X c.x) (hm:X.mg c.x=some (.ref D)) (hd:(c.x==("__debug__":Str))=false) (hD:PySem.W.exmOne X.K (.ref C) (.ref D)=some false) (hp:Picks X C th cs):Picks X C th (c::cs)
section
variable{X:Cx}{n:Str}{pos tpos:Pos}{ce:Expr}
end
end L2
namespace L3
open PySem PySem.Spec PyProof.Rows L2
inductive Alt (X:Cx) (cs:List Cl):List (Addr×(Addr->X3))->Prop
 |nil:Alt X cs []
 |cons {C:Addr} {th:Addr->X3} {l:List (Addr×(Addr->X3))} (h:Picks X C (λe=>lowS X.K (th e)) cs) (hs:Alt X cs l):Alt X cs ((C,th)::l)
theorem Alt.get:∀{l:List (Addr×(Addr->X3))},Alt X cs l->∀p∈l,Picks X p.1 (λe=>lowS X.K (p.2 e)) cs
 |_,.nil,p,h=>by simp at h
 |_,.cons h hs,p,hp=>by
  rcases ag.mp hp with rfl |hp
  ·omega
  ·exact hs.get p hp
section
variable{X:Cx}{e:Expr}{es:List Expr}{n:Str}{p pos tpos:Pos}{t:A3}{k:Nat}{f:Addr}{fd:fK}{ps:List Str}{sp:PX3}
end
end L3
namespace L2
open PySem PySem.W
end L2
namespace L2
open PySem PySem.Spec PyProof.Rows
end L2
namespace L3
open PySem PySem.Spec PyProof.Rows L2
section
variable{X:Cx}{K:Fg}{H H1:Hp}{a:Addr}{us us1:List (Key×V)}{o:Obj}{e:Expr}{t:E3}{G:Hq}{kvs:List (Key×Z)}
end
end L3
namespace DictP
open PySem PyProof.Rows
section
variable{prog:fq}{w:World}{A:Around}{E:Value->Shared->Prop}{s:Shared}{a:Addr}{xs:Array Value}{k:Nat}{sl:Array (Option Value)}
end
section
variable{prog:fq}{w:World}{A:Around}{R:Result->Shared->Prop}{I:Addr}{fp wr:List Addr}{G:Array iS->Array iS->Prop}{n:Nat}{P:Nat->Value->Prop}{St:Nat->Shared->Prop}
end
section
variable{prog:fq}{w:World}{A:Around}{K:Type}[DecidableEq K]{knd:KeyKind prog w K}
end
end DictP
namespace L2
open PySem PySem.Spec PyProof.Rows
section
variable{X:Cx}
end
section
variable{P:fq}{w:World}{A:Around}{E:Value->Shared->Prop}{s:Shared}
def a54(h64:ss.length<64)
  (hcol:∀R:List Value->Shared->Prop,(∀(g:Heap)(tk:Nat)(d:Drawn)(vs:List Value)(ks:List Str),(∀b o,s.heap.get? b=some o->g.get? b=some o)->gX vs ks->ks.Perm ss->R vs { s with heap:=g,drawn:=d,toks:=tk })->wpAny (model P w) A.in1 (collect (.ref r)) R E s)
  (h:∀(g g':Heap)(tk:Nat)(d:Drawn)(out:List Value)(n:Nat)(ts:List Str),(∀b o,s.heap.get? b=some o->g.get? b=some o)->(∀b o,g.get? b=some o->g'.get? b=some o)->g'.get? g.objs.size=some { cls:=.type "list",data:=.seq out.toArray n } ->
   gX out ts->ts.Perm ss->ib ts=true->Q (.ref g.objs.size) { s with heap:=g',drawn:=d,toks:=tk }):wpAny (model P w) A (call (.builtin "sorted") [.ref r]) Q E s:=by
 refine Calls.call_function_entry jw jx jy (args_sorted1 _) (e9 (fc (e9 (hcol _ λg t d f D x c l=>?_))));have F:=c.length.trans l.length_eq;have z:f.length<=sizeLine:=by rw[fC];lia
 refine e9 (iu ?_ z);have k:(g.push _).get? g.objs.size=some (seqObj "list" f.toArray 0):=Heap.get?_push_size _ rfl;refine e9 (fI (fR jz ⟨_,k,rfl⟩ jA (list_sort_treeK strKind_oneLt k c.keysOf (λH G B e=>keyKind_strs (e▸c)) (by lia) λi p v=>⟨_,rfl,?_⟩) (args_list_sort _)));obtain⟨y,u,C,q⟩:=sorted_out_str c p v;have a:=sortedHeap_at (out:=(arrOf i).map (·.2)) k;obtain⟨n,a⟩:=a;refine fc ⟨_,rfl,h g _ t d ((arrOf i).map (·.2)).toList n y x (λb o e=>?_) (by omega) u (C.trans l) q⟩;have j:=Heap.lt_size e;rw[sortedHeap_old (ao j) (by rw[Heap.size_push];exact b9 j)];exact Heap.get?_push_of_some _ e
end
section
variable{X:Cx}
end
end L2
namespace L3
open PySem PySem.Spec PyProof.Rows L2
section
variable{X:Cx}{K:Fg}{H:Hp}
theorem Reps.dropLast:∀{ws:List Z}{vs:List V},Reps K H ws vs->Reps K H ws.dropLast vs.dropLast
 |[],vs,h=>by rw[a0s]at h;subst h;exact .nil
 |[w],vs,h=>by
  obtain⟨v,rfl,_⟩:=h.one;exact .nil
 |w::w'::ws,vs,h=>by
  obtain⟨v,r,rfl,c,b⟩:=h;have a:=b;obtain⟨e,d,rfl,_,_⟩:=a;exact .cons c (Reps.dropLast b)
end
end L3
namespace L2
open PySem PySem.Spec PyProof.Rows Tim
end L2
namespace L3
open PySem PySem.Spec PyProof.Rows L2 Tim
end L3
namespace L2
open PySem PySem.Spec PyProof.Rows
end L2
namespace L3
open PySem PySem.Spec PyProof.Rows L2
end L3
namespace L2
open PySem PySem.Spec PyProof.Rows
theorem a7O:∀{vs:List Value}{ss:List Str},gX vs ss->SetW.KsAre (PySem.strKind P w) vs ss
 |_,_,.nil=>.nil
 |_,_,.cons s t h=>.cons (strKind_is _ _ _ _) (a7O h)
def b1u(h:SetW.KsAre (PySem.strKind P w) vs ss):gX vs ss:=by
 induction h with
 |nil=>exact .nil
 | @cons v k vs ks h _ ih=>
  cases v<;>simp[PySem.strKind,Value.isStrOf]at h
  subst h;exact .cons _ _ ih
theorem a37:∀{vs:List Value}{ss:List Str},gX vs ss->∀v∈vs,v.scannable=true
 |_,_,.cons s t h,v,hv=>by
  rcases ag.mp hv with rfl |hv
  ·rfl
  ·exact a37 h v hv
def metK{K:Type}{k0:K}{ns ms:List K}(h:SetW.Met (λi=>ns.getD i k0) ns.length ms):∀x,x∈ms↔x∈ns:=λx=>by
 rw[h.2.2 x]
 constructor
 ·rintro⟨j,a,e⟩;have e:ns.getD j k0=x:=e;rw[bO,ak a]at e;exact e▸bu a
 ·intro b;obtain⟨j,a,e⟩:=cz.mp b;exact⟨j,a,by show ns.getD j k0=x;rw[bO,ak a];exact e⟩
section
variable{X:Cx}
noncomputable def setS(X:Cx)(t:Addr)(ms:List Str):HO:=.ext λh=>SetW.SI (PySem.strKind X.prog X.w) h t ms
def b1v(X:Cx):List V->Hp->VK->Prop:=λxs H Q=>∃(p:Addr)(ns:List Str),xs=[.ref p]/\SqL X.K H p (ns.map V.str)/\ns.length<=1000 /\
 ∀(t:Addr)(ms:List Str),H t=none->ms.Nodup->(∀x,x∈ms↔x∈ns)->ms.length<=ns.length->Q (.ref t) (upd H t (setS X t ms))
def a4C(hc:X.calm=true):CallR X (.type "set") (b1v X):=by
 intro d s σ H xs us Q I r h;obtain⟨p,ns,rfl,n,hz,q⟩:=h;obtain⟨u,rfl,A⟩:=a2c r;cases A;obtain⟨j,v,z,_⟩:=I.list n;have f:=b1t v;have t:=f.length;have sb:1001<scanBound:=by decide
 have i:j.toArray.size=ns.length:=by grind
 refine SetW.call_set (k0:=Str.ofString "") (I.ok.hd hc) z.isList (by simpa using a7O f) (by simpa using a37 f) (by grind) λg l a S M k=>?_;rw[i]at M;have m:=
  I.laid (t':=l) (λb o e=>k b o (Heap.lt_size e) e) (af _) (show ObjOk X.prog X.w _ g _ (setS X s.heap.objs.size a) from ⟨S,let ⟨_,_,_,S'⟩:=S;let ⟨o,e,_⟩:=S'.at_;⟨o,e⟩,λ_ _ x y=>x.at y⟩)
 exact⟨.ref s.heap.objs.size,_,m,rfl,q _ a (I.hok.fresh (af _)) M.1 (metK M) M.2.1⟩
def a7P(X:Cx):List V->Hp->VK->Prop:=λxs H Q=>∃(p:Addr)(ms:List Str),xs=[.ref p]/\H p=some (setS X p ms)/\ms.length<64 /\
 ∀(t:Addr)(ks:List Str),H t=none->ks.Perm ms->ib ks=true->Q (.ref t) (upd H t (.lst (ks.map V.str)))
def a1M(hc:X.calm=true):CallR X (.builtin "sorted") (a7P X):=by
 intro b s σ H M L Q I r h;obtain⟨p,c,rfl,v,x,q⟩:=h;obtain⟨u,rfl,J⟩:=a2c r;cases J;have D:=I.ok.hd hc;have S:=(I.hok p _ v).1;refine a54 x (λR E=>SetW.collect_set D S λg a d y B t C G=>E g a d y B t (b1u C) G) λg z a d k n j o m e l f F=>?_;have i:Inv X b σ H { s with heap:=g,drawn:=d,toks:=a }:=(I.drew d).kept o;exact⟨.ref g.objs.size,_,i.laid m (af _) (show ObjOk X.prog X.w _ z _ (.lst _) from ⟨by rw[ae,f.length_eq,fC];omega,k,n,a7N l,e⟩),rfl,q _ j (i.hok.fresh (af _)) f F⟩
end
end L2
namespace L3
open PySem PySem.Spec PyProof.Rows L2
section
variable{X:Cx}{e:Expr}{es:List Expr}{t:A3}{x y:Str}{p p2 pos pos2:Pos}
def uSSS(t:A3):E3:=fun σ G R=>t σ G λws G1=>∃(p:Addr)(ns:List Str),ws=[.ref p]/\G1 p=some (.lst (ns.map Z.str))/\ns.length<64 /\
 ∀(t:Addr)(ks:List Str),G1 t=none->ib ks=true->ks.Nodup->(∀x,x∈ks↔x∈ns)->ks.length<=ns.length->R (.ref t) (put G1 t (.lst (ks.map Z.str)))
def b59{p:Addr}{ns:List Str}{R:K3}(e:G p=some (.lst (ns.map Z.str)))(z:ns.length<64)
  (h:∀(t:Addr)(ks:List Str),G t=none->ib ks=true->ks.Nodup->(∀x,x∈ks↔x∈ns)->ks.length<=ns.length->R (.ref t) (put G t (.lst (ks.map Z.str)))) :
  ∃(q:Addr)(ns':List Str),[Z.ref p]=[.ref q]/\G q=some (.lst (ns'.map Z.str))/\ns'.length<64 /\
   ∀(t:Addr)(ks:List Str),G t=none->ib ks=true->ks.Nodup->(∀x,x∈ks↔x∈ns')->ks.length<=ns'.length->R (.ref t) (put G t (.lst (ks.map Z.str))):=⟨p,ns,rfl,e,z,h⟩
def b6a(hc:X.calm=true)(hg:Gl X x)(hm:X.mg x=none)(hv:fJ x=some (.builtin "sorted"))(hg2:Gl X y)(hm2:X.mg y=none)(hv2:fJ y=some (.type "set"))(ha:QA X (e::es) t)
  (he:fu (e::es) X.env=(false,eval e X.env)::fu es X.env) (hpl:(backTo pos2 (fu es X.env)).any (·.1)=false)
  (hn:x≠"__name__":=by decide) (hdb:(x==("__debug__":Str))=false:=by decide) (hn2:y≠"__name__":=by decide) (hdb2:(y==("__debug__":Str))=false:=by decide) :
  QE X (.Call (.Name x p) [.Call (.Name y p2) (e::es) [] pos2] [] pos) (uSSS t):=⟨a0O (a2h (a1M hc) hg hm hv (a2q (a1c (a4C hc) hg2 hm2 hv2 ha.p hn2 hdb2 he hpl) a3J rfl) hn hdb rfl rfl) fun τ H Q n=>n.un fun σ G R F hg h s=>
 ⟨σ,G,_,F,hg,h,λws G1 vs H1 i I b A=>by
  obtain⟨p,q,rfl,E,z,i⟩:=i;obtain⟨v,rfl,r⟩:=I.one;obtain⟨vs',w,l⟩:=b _ _ E
  have:=a53 l
  subst this;refine⟨p,q,by rw[r],SqL.of w,by omega,λa m ha D C J=>⟨a,m,rfl,a0e,by omega,λu g d f B=>?_⟩⟩;have j:=b.hid (u:=setS X a m) ha;exact s _ _ _ _ (i u g (j.out d) B (f.nodup_iff.mpr D) (λx=>by rw[f.mem_iff];exact C x) (by rw[f.length_eq];exact J)) (by rw[a0p]) (j.set (.new d) ⟨_,a0e,a24 g⟩) (A.trans ((TK.new ha).trans (.new d)))⟩⟩
end
end L3
namespace DictP
open PySem PyProof.Rows
section
variable{prog:fq}{w:World}{K:Type}[DecidableEq K]{knd:KeyKind prog w K}
end
section
variable{prog:fq}{w:World}{A:Around}{K:Type}[DecidableEq K]{knd:KeyKind prog w K}
end
end DictP
namespace L2
open PySem PySem.Spec PyProof.Rows
section
variable{X:Cx}
end
end L2
namespace L3
open PySem PySem.Spec PyProof.Rows L2
section
variable{X:Cx}{K:Fg}{H:Hp}
end
end L3
namespace L2
open PySem PySem.Spec PyProof.Rows
end L2
namespace L3
open PySem PySem.Spec PyProof.Rows L2
end L3
namespace Tim
open PySem PyProof.Rows PySem.W
def RowQ(h:Heap)(v:Value)(xs:List Pz):Prop:=∃a o its n ps b,v=.ref a/\h.get? a=some o/\o.cls=.type "tuple"/\o.data=.seq its n/\its.toList=ps++[Value.ref b]/\PtsAre xs ps
def RowQ.uniq(r:RowQ h v xs)(q:RowQ h v ys):xs=ys:=by
 obtain⟨a,o,s,n,x,b,rfl,j,_,m,l,g⟩:=r;obtain⟨z,y,k,u,t,w,i,f,_,d,c,p⟩:=q;cases i;rw[j]at f;cases f;rw[m]at d;cases d;rw[l]at c;have e:=(List.append_inj' c rfl).1;subst e;exact g.uniq p
def RowsQ(h:Heap):List Value->List (List Pz)->Prop
 |[],[]=>True
 |v::vs,x::xs=>RowQ h v x/\RowsQ h vs xs
 |_,_=>False
theorem RowsQ.mem:∀{vs:List Value}{rows:List (List Pz)},RowsQ h vs rows->∀v∈vs,∃x∈rows,RowQ h v x
 |v::vs,x::xs,⟨r,q⟩,u,hu=>by
  rcases ag.mp hu with rfl |hu
  ·exact⟨x,.head _,r⟩
  ·obtain⟨y,a,b⟩:=q.mem u hu;exact⟨y,.tail _ a,b⟩
 |[],[],_,u,hu=>by simp at hu
 |[],_::_,r,_,_=>r.elim
 |_::_,[],r,_,_=>r.elim
theorem RowsQ.inj:∀{vs:List Value}{rows:List (List Pz)},RowsQ h vs rows->rows.Nodup->∀{v u x},v∈vs->u∈vs->RowQ h v x->RowQ h u x->v=u
 |w::vs,y::ys,⟨r,q⟩,nd,v,u,x,hv,hu,e1,e2=>by
  obtain⟨e,g⟩:=bp.mp nd;have c:∀{z},z∈vs->RowQ h z x->RowQ h w x->False:=λf a b=>by
   obtain⟨j,d,i⟩:=q.mem _ f;rw[i.uniq a]at d;rw[b.uniq r]at d;exact e d
  rcases ag.mp hv with c1 |c1
  ·rcases ag.mp hu with c2 |c2
   ·simp_all
   ·rw[c1]at e1;exact (c c2 e2 e1).elim
  ·rcases ag.mp hu with c2 |c2
   ·rw[c2]at e2;exact (c c1 e1 e2).elim
   ·exact q.inj g c1 c2 e1 e2
 |[],[],_,_,_,_,_,hv,_,_,_=>by simp at hv
 |[],_::_,r,_,_,_,_,_,_,_,_=>r.elim
 |_::_,[],r,_,_,_,_,_,_,_,_=>r.elim
section
variable{prog:fq}{w:World}{A:Around}{E:Value->Shared->Prop}{s:Shared}{a₀:Array Keyed}{b:Bool}{Q:Bool->Shared->Prop}
end
def perm_lift{α β:Type}{f:α->β}:∀{l:List α}{m:List β},m.Perm (l.map f)->∃l':List α,l'.Perm l/\l'.map f=m:=by
 intro l m h;generalize hk:l.map f=k at h
 induction h generalizing l with
 |nil=>exact⟨l,.refl _,hk⟩
 |cons x _ ih=>
  cases l with
  |nil=>simp at hk
  |cons y l=>
   injection hk with h1 h2
   obtain⟨e,c,d⟩:=ih h2;exact⟨y::e,c.cons y,by rw[am,h1,d]⟩
 |swap x y t=>
  match l,hk with
  |a::b::l,hk=>
   injection hk with h1 hk
   injection hk with h2 h3
   exact⟨b::a::l,.swap ..,by rw[am,am,h1,h2,h3]⟩
 |trans _ _ ih1 ih2=>
  obtain⟨n,c,d⟩:=ih2 hk;obtain⟨g,j,i⟩:=ih1 d;exact⟨g,j.trans c,i⟩
end Tim
namespace L2
open PySem PySem.Spec PyProof.Rows Tim
end L2
namespace L3
open PySem PySem.Spec PyProof.Rows L2 Tim
end L3
namespace Tim
open PySem PyProof.Rows PySem.W
section
variable{prog:fq}{w:World}{A:Around}{E:Value->Shared->Prop}{s:Shared}
end
end Tim
namespace L2
open PySem PySem.Spec PyProof.Rows Tim
end L2
namespace L3
open PySem PySem.Spec PyProof.Rows L2 Tim
variable{X:Cx}
end L3
namespace L2
open PySem PySem.Spec PyProof.Rows
section
variable{P:fq}{w:World}{K:Fg}{mg:Str->Option Value}{base:Heap}
def b1w{k:Nat}{f c':Addr}{name qual:Str}{params:gM}{body:Expr}{scope:Scope}{pm ctv:Value}{N ps:List Str}(S:FnScope N ps scope)
  (hbind:∀us:List Value,us.length=ps.length->g9 (PySem.W.kla_fn name qual params body scope [] pm (.ref c') ctv) ⟨us,[]⟩=pure (ps.zip us))
  {A:Around}{outer:List Env}{s:Shared}{H:Hp}{us:List Value}{vs:List V}{Q:VK}(hr:Room k A) (e0:Env0 P w K mg base A outer s H) (r:Vals vs us) (hl:vs.length=ps.length)
  (ho:s.heap.get? f=some (PySem.W.kla_obj name qual params body scope [] pm c' ctv)) (hcd:s.heap.CodeRec (.ref c') qual)
  {t:TE}(ht:PE (cxOf CX0 P w K mg base N qual scope f (.ref c') A outer s H E0).nox body t) (hq:t (start N vs) H Q) :
  f9 (model P w) A (.call (.ref f) ⟨us,[]⟩) (CR CX0 outer P w H s Q E0) s:=by
 have lim:s.heap.NoLimit:=e0.mod.nolimit.keeps λb o e=>(e0.bs b o e).1;have hkind:∀y∈ps.zip us,scope.names.lookup y.1=some .local\/(scope.names.lookup y.1=some .cell/\((fB (s.heap.objs.size+1) scope.names []).lookup y.1).isSome=true):=λ⟨n,v⟩ hy=>by
  rcases S.par n (b5 hy).1 with q |q
  ·exact .inl q
  ·exact .inr ⟨q,PySem.W.cellsFrom_some _ _ _ (.inl q)⟩
 refine PySem.W.kla_callFunE hr.depth ho rfl S.co S.gen rfl hcd ?_;rw[hbind us (by rw[<- r.length];exact hl)];refine fc ?_;refine wpAny_newFunctionEnv_cells S.kind hkind λenv he s1 x=>?_;subst he;refine⟨lim.keeps x.toInCall.keep,PySem.W.kla_codeExpr ?_⟩;have I:Inv (cxOf CX0 P w K mg base N qual scope f (.ref c') A outer s H E0) [] (start N vs) H s1:=a3M S hr.hd e0 hl r x;exact fD (ht [] s1 (start N vs) H Q (I.wish _) hq) (λu s' ⟨v,H',J,rv,q⟩=>⟨v,H',J.os,J.bare,J.base,J.hok,rv,q⟩) λe s' hs=>hs.elim
end
def a9e{Pr:fq}{w:World}{H:Hp}{h:Heap}{c:Addr}{q:Str}(r:h.CodeRec (.ref c) q):∃oc,h.get? c=some oc/\ObjOk Pr w H h c (a1W c q):=by
 obtain⟨c0,o,vs,t,e,g,d,x⟩:=r;cases e;exact⟨o,g,⟨c,o,vs,t,rfl,g,d,x⟩,⟨o,g⟩,λh1 h2 ⟨c1,o1,vs1,t1,e1,g1,d1,x1⟩ k=>by cases e1;exact⟨c,o1,vs1,t1,rfl,k _ g1,d1,x1⟩⟩
def a9f{X:Cx}{pins:List (Addr×Obj)}{σ:St}{H:Hp}{s:Shared}{params:gM}{body:Expr}{scope:Scope}{lpos:Pos}{c P:Addr}{q:Str}{E:Value->Shared->Prop}{Q:Value->Shared->Prop}(I:Inv X pins σ H s)(hT:Tab H P lpos q)(hq:q=X.env.qual++"<lambda>")
  (hdef:jB params X.env=([],[])) (hcl:im scope X.env=pure []) (hcode:X.env.code=.ref c) (hhd:PySem.W.codeHdIn X.K c P=true) (hgP:fF≠P) (hb:X.base.BuiltinsAt X.mg P)
  (h:∀(f c':Addr)(H':Hp)(pm ctv:Value)(s1:Shared)(oc:Obj),Inv X (pins++[(f,PySem.W.kla_obj "<lambda>" q params body scope [] pm c' ctv)]) σ H' s1->H' c'=some (.frz oc (a1W c' q))->Tab H' P lpos q->(∀b u,H b=some u->b≠P->H' b=some u)->Q (.ref f) s1) :
  wpAny (model X.prog X.w) X.A (eval (.Lambda params body scope lpos) X.env) Q E s:=by
 refine PySem.W.kla_eval hdef ?_;rw[<- hq];obtain⟨ps,hP,ht⟩:=hT;have oP:s.heap.get? P=some (PySem.W.tabObj ps):=I.hok P _ hP;have hg:s.heap.Ns fF X.mg:=I.ok.mod.glob.keeps I.bk;have pin:∀(H':Hp)(s1:Shared)(f:Addr)(o:Obj),Inv X pins σ H' s1->s1.heap.get? f=some o->H' f=none->s.heap.objs.size<=f->(∀v,o.data≠.cell v)->Inv X (pins++[(f,o)]) σ H' s1:=λH' s1 f o J e n l d=>by
  refine J.pins_of λp hp=>?_;rcases ah.mp hp with hp |hp
  ·exact J.pin p (aI _ hp)
  ·rw[ai.mp hp];exact⟨e,n,be (aB I.lt l),I.nofs l,d⟩
 rcases ht with rfl |⟨c0,oc,rfl,hc⟩
 ·refine PySem.W.kla_makeFunction hcl I.ok.glob hg hcode (PySem.W.codeHd_of_K I.kIn hhd) oP trivial rfl hgP (hb.keeps I.bk) λc' ctv h' tk hx hge hlt hrec htb=>?_;generalize hfo:PySem.W.kla_obj "<lambda>" q params body scope [] ((X.mg "__name__").getD .none) c' ctv=fo;have hfd:∀v,fo.data≠.cell v:=λv z=>by rw[<- hfo]at z;cases z
  have hn:H c'=none:=I.hok.fresh hge;have hcP:c'≠P:=a0u hP hn |>.symm;have up:∀b o,b≠P->s.heap.get? b=some o->(h'.push fo).get? b=some o:=λb o hb e=>Heap.get?_push_of_some _ (hx b o hb e);have nP:∀b,H b=none->b≠P:=λb e z=>by rw[z,hP]at e;cases e
  have nc:∀b o,s.heap.get? b=some o->b≠c':=λb o e=>ao (aB (Heap.lt_size e) hge);obtain⟨oc,goc,ook⟩:=a9e (Pr:=X.prog) (w:=X.w) (H:=upd (upd H P (.tbl (#[]++#[rawInt lpos.line,rawInt lpos.col,.ref c']))) c' (.frz default (a1W c' q))) (hrec.push fo);obtain⟨oc,goc,ook⟩:∃oc,(h'.push fo).get? c'=some oc/\ObjOk X.prog X.w (upd (upd H P (.tbl (#[]++#[rawInt lpos.line,rawInt lpos.col,.ref c']))) c' (.frz oc (a1W c' q))) (h'.push fo) c' (a1W c' q):=⟨oc,goc,ook⟩;have old:∀b u,H b=some u->b≠P->upd (upd H P (.tbl (#[]++#[rawInt lpos.line,rawInt lpos.col,.ref c']))) c' (.frz oc (a1W c' q)) b=some u:=λb u e hb=>by
   rw[a0d (a0u e hn),a0d hb];exact e
  have tP:upd (upd H P (.tbl (#[]++#[rawInt lpos.line,rawInt lpos.col,.ref c']))) c' (.frz oc (a1W c' q)) P=some (.tbl (#[]++#[rawInt lpos.line,rawInt lpos.col,.ref c'])):=by rw[a0d hcP.symm,a0e]
  have J:Inv X pins σ (upd (upd H P (.tbl (#[]++#[rawInt lpos.line,rawInt lpos.col,.ref c']))) c' (.frz oc (a1W c' q))) { s with heap:=h'.push fo,toks:=tk }:=by
   refine I.un ⟨λb o e n _ _=>up b o (nP b n) e,λb o e n _ _=>⟨o.slots,up b o (nP b n) e⟩,λb o e n _=>by rw[a0d (nc b o e),a0d (nP b n)];exact n,λb o e _=>?_,λb xs e=>old b _ e λz=>(by rw[z,hP]at e;cases e),λb o u e=>old b _ e λz=>(by rw[z,hP]at e;cases e),λb ps e=>?_⟩ λb u e=>?_
   ·by_cases hb:b=P
    ·rw[hb];exact⟨_,Heap.get?_push_of_some _ htb⟩
    ·exact⟨o,up b o hb e⟩
   ·by_cases hb:b=P
    ·subst hb;rw[hP]at e;cases e;exact⟨_,tP⟩
    ·exact⟨#[],by rw[eL];exact old b _ e hb⟩
   ·by_cases hb:b=c'
    ·subst hb;rw[a0e]at e;cases e;exact⟨goc,ook⟩
    ·by_cases hb2:b=P
     ·subst hb2;rw[tP]at e;cases e;exact Heap.get?_push_of_some _ htb
     ·rw[a0d hb,a0d hb2]at e;refine (I.hok b u e).stay (λd v hd q=>up d v ?_ q) (λd r=>old d _ r λz=>by rw[z,hP]at r;cases r) λd xs r=>old d _ r λz=>by rw[z,hP]at r;cases r
      rcases hd with z |z
      ·rw[z];exact hb2
      ·intro y;rw[y,hP]at z;cases z
  have gf:(h'.push fo).get? h'.objs.size=some fo:=Heap.get?_push_size _ (by rw[<- hfo];rfl);have hs':s.heap.objs.size<=h'.objs.size:=a9 (dj hge hlt);have nf:upd (upd H P (.tbl (#[]++#[rawInt lpos.line,rawInt lpos.col,.ref c']))) c' (.frz oc (a1W c' q)) h'.objs.size=none:=by
   rw[a0d (be hlt),a0d (nP _ (I.hok.fresh hs'))];exact I.hok.fresh hs'
  have J2:=pin _ _ _ fo J gf nf hs' hfd;rw[<- hfo]at J2;rw[<- hfo];exact h _ c' _ _ ctv _ oc J2 a0e ⟨_,tP,.inr ⟨c',oc,by simp,a0e⟩⟩ old
 ·refine PySem.W.kla_makeFunctionHit hcl I.ok.glob hg hcode (PySem.W.codeHd_of_K I.kIn hhd) oP trivial (cv:=.ref c0) (by simp[codeAmong,rawInt]) (hb.keeps I.bk) λctv h' tk kp sz=>?_;have J:Inv X pins σ H { s with heap:=h'.push (PySem.W.kla_obj "<lambda>" q params body scope [] ((X.mg "__name__").getD .none) c0 ctv),toks:=tk }:=I.kept λb o e=>Heap.get?_push_of_some _ (kp b o e);exact h _ c0 H _ ctv _ oc (pin _ _ _ _ J (Heap.get?_push_size _ rfl) (I.hok.fresh sz) sz λv z=>by cases z) hc ⟨_,hP,.inr ⟨c0,oc,rfl,hc⟩⟩ λb u e _=>e
section
variable{X:Cx}{pins pl:List (Addr×Obj)}{σ:St}{H:Hp}{s:Shared}{h':Heap}{b:Addr}
def Inv.repin{o o':Obj}{t':Nat}(I:Inv X (pl++[(b,o)]) σ H s)(fb:FpOk X pl H b)(k:∀c u,c≠b->s.heap.get? c=some u->h'.get? c=some u)(g:h'.get? b=some o')(d:∀v,o'.data≠.cell v):Inv X (pl++[(b,o')]) σ H { s with heap:=h',toks:=t' }:=by
 obtain⟨f0,f1,f2,f3,f4,f5⟩:=fb;have J:Inv X pl σ H { s with heap:=h',toks:=t' }:=I.unpinned.turned k f0 f1 f3 f4 f5;refine J.pins_of λp hp=>?_;rcases ah.mp hp with hp |hp
 ·exact J.pin p (aI _ hp)
 ·rw[ai.mp hp];exact⟨g,f0,f1,f2,d⟩
def Inv.adopt{o:HO}{t':Nat}(I:Inv X pl σ H s)(fb:FpOk X pl H b)(k:∀c u,c≠b->s.heap.get? c=some u->h'.get? c=some u)(new:ObjOk X.prog X.w (upd H b o) h' b o)(th:∃u,h'.get? b=some u):Inv X pl σ (upd H b o) { s with heap:=h',toks:=t' }:=by
 obtain⟨f0,f1,f2,f3,f4,f5⟩:=fb;have nb:∀c u,H c=some u->c≠b:=λc u e z=>by rw[z,f0]at e;cases e
 refine I.step (g':=s.gens) (d':=s.drawn) (ch:=[b]) (λc hc=>?_) (λc u _ _ hc e _=>k c u (by simpa using hc) e) (λc u _ _ hc e _=>⟨u.slots,k c u (by simpa using hc) e⟩) (λc u hc _ n=>by rw[a0d (by simpa using hc)];exact n) (λc u hc e=>⟨u,k c u (by simpa using hc) e⟩)
  (λc xs e=>by rw[a0d (nb c _ e)];exact e) (λc _ _ e=>by rw[a0d (nb c _ e)];exact e) (λc ps e=>⟨#[],by rw[a0d (nb c _ e),eL];exact e⟩) (λm hm=>?_) (λc u e=>?_) I.bare
 ·rw[ai.mp hc];exact⟨f3,f1,f4,f5⟩
 ·obtain⟨u,es,ep,ho,r⟩:=hm;exact⟨u,es,ep,k _ u (λz=>f1 z.symm) ho,r⟩
 ·by_cases hb:c=b
  ·subst hb;rw[a0e]at e;cases e;exact new
  ·rw[a0d hb]at e;refine (I.hok c u e).stay (λd v hd q=>k d v ?_ q) (λd q=>by rw[a0d (nb d _ q)];exact q) λd xs q=>by rw[a0d (nb d _ q)];exact q
   rcases hd with z |z
   ·rw[z];exact hb
   ·exact nb d _ z
end
section
variable{X:Cx}{pf:List (Addr×Obj)}{σ:St}{H:Hp}{s:Shared}{a kS f:Addr}{vs:List Value}{kz:List Int}{e1:Nat}{P:Fin->Shared->Prop}{E:Value->Shared->Prop}
abbrev lObj(xs:Array Value)(n:Nat):Obj:=seqObj "list" xs n
def a3w(xs:Array Value)(n:Nat):∀v,(lObj xs n).data≠.cell v:=λv z=>by cases z
def FpOk.re{X:Cx}{pl:List (Addr×Obj)}{H H':Hp}{b:Addr}(f:FpOk X pl H b)(h:H' b=none):FpOk X pl H' b:=⟨h,f.2⟩
def b1x{keys:Array Value}{e:Nat}(I:Inv X (pf++[(a,lObj #[] e1),(kS,lObj keys e)]) σ H s)(fa:FpOk X pf H a)(fk:FpOk X (pf++[(a,lObj #[] e1)]) H kS)(hk:fG keys.toList kz)(hlen:kz.length=vs.length)(hz:vs.length<=100000)
  (h:∀(s':Shared)(out:List Value)(n:Nat),KskOut false kz vs out->Inv X pf σ H s'->FpOk X pf H a->s'.heap.get? a=some (lObj #[] e1)->P (.done (.ret .none)) { s' with heap:=s'.heap.update a (Obj.mapSeq λ_=>out.toArray) }) :
  wpAny (model X.prog X.w) X.A.in1.in1 (ksk_end a false vs.toArray e1 (.ref kS) keys) P E s:=by
 have hsz:keys.size=vs.length:=by
  have h1:=hk.length;rw[aF]at h1;omega
 have hzs:(keys.zip vs.toArray).size=vs.length:=by rw[Array.size_zip,hsz,aJ,Nat.min_self]
 have gk:s.heap.get? kS=some (lObj keys e):=(I.pin (kS,lObj keys e) (by simp)).1;have ga:s.heap.get? a=some (lObj #[] e1):=(I.pin (a,lObj #[] e1) (by simp)).1;have hne:a≠kS:=fk.2.2.2.2.2 (a,lObj #[] e1) (by simp);have tail:∀st:SortSt,(arrOf st).Perm (keys.zip vs.toArray)->SortedTo (arrOf st) (arrOf st).size->fM st=none->wpAny (model X.prog X.w) X.A.in1.in1 (ksk_tail a false e1 (.ref kS) st) P E s:=λst hp hs hf=>by
  have hl2:(arrOf st).size=vs.length:=by rw[hp.size_eq,hzs]
  unfold ksk_tail;dsimp only;refine e9 (gO gk rfl ?_ (by rw[hsz,fC];omega) (aK _));refine e9 (wpAny_letGo ?_);have s1:=Heap.SameBut.update s.heap kS (Obj.mapSeq λ_=>(#[]:Array Value));have J:Inv X (pf++[(a,lObj #[] e1)]) σ H { s with heap:=s.heap.update kS (Obj.mapSeq λ_=>(#[]:Array Value)) }:=by
   obtain⟨c2,hc2⟩:∃c2,(s.heap.update kS (Obj.mapSeq λ_=>(#[]:Array Value))).get? kS=some (lObj #[] c2):=⟨_,get?_update_seq gk λ_=>#[]⟩;exact (Inv.repin (t':=s.toks) (pl:=pf++[(a,lObj #[] e1)]) (by simpa using I) fk (λc u hc q=>(s1.2 c hc).trans q) hc2 (a3w _ _)).unpinned
  have ga1:(s.heap.update kS (Obj.mapSeq λ_=>(#[]:Array Value))).get? a=some (lObj #[] e1):=(s1.2 a hne).trans ga;refine e9 (ir ga1 rfl ?_);refine e9 (gO ga1 rfl ?_ (aK _) (by simp only[bD,if_false,cn];rw[hl2,fC];omega));rw[hf];simp only[bne_self_eq_false,bD,if_false];have ko:=ksk_out (b:=false) hk hp hs;simp only[bD,if_false]at ko
  have:=h { s with heap:=s.heap.update kS (Obj.mapSeq λ_=>(#[]:Array Value)) } _ 0 ko J.unpinned fa ga1
  simp only[eD]at this;exact fc this
 unfold ksk_end;dsimp only;simp only[bD,if_false]
 by_cases h2:vs.toArray.size<2
 ·rw[if_pos h2,if_pos h2];refine e9 (fc ?_);rw[StateT.run_pure];refine e9 (fc ?_);dsimp only;refine tail (SortSt.mk' general' (keys.zip vs.toArray) #[] 7 none) (cy.refl _) ?_ rfl;intro i j hij hj;have hj2:j<(keys.zip vs.toArray).size:=hj;rw[hzs]at hj2;rw[aJ]at h2
  have:i=j:=by omega
  subst this;exact bL _
 ·rw[if_neg h2,if_neg h2];rw[aJ]at h2;rw[ksk_kind hk (by rw[hsz];omega)];refine e9 (fc ?_);refine e9 (fD (Tim.t_sortRuns (a₀:=keys.zip vs.toArray) (κ:=Tim.kN) (k0:=iN) (st:=SortSt.mk' iN (keys.zip vs.toArray) #[] 7 none)
   (Q:=λ_ y=>(arrOf y).Perm (keys.zip vs.toArray)/\fM y=none/\Tim.Srt Tim.kN (arrOf y).toList) (Tim.lt_ints (ksk_intKeys hk)) ⟨cy.refl _,rfl,rfl⟩ rfl λy q1 q2=>⟨q1.pm,q1.fl,q2⟩) ?_ λ_ _ e=>e)
  rintro⟨⟨⟩,y⟩ s' ⟨rfl,q1,q2,q3⟩;dsimp only;exact tail y q1 (Tim.srt_to q3 rfl) q2
def a9g{Θ:Hp->Prop}(hΘ:Θ H)(I:Inv X (pf++[(a,lObj #[] e1),(kS,lObj #[] 0)]) σ H s)(fa:FpOk X pf H a)(fk:FpOk X (pf++[(a,lObj #[] e1)]) H kS)(hlen:kz.length=vs.length)(hz:vs.length<=100000)
  (turn:∀(i:Nat)(v:Value)(k:Int),vs[i]?=some v->kz[i]?=some k->∀(H1:Hp)(s':Shared)(pl:List (Addr×Obj)),Θ H1->Inv X (pf++pl) σ H1 s'->wpAny (model X.prog X.w) X.A.in1.in1 (call (.ref f) [v]) (EP X (pf++pl) σ λy H'=>y=.int k/\Θ H') (λ_ _=>False) s')
  (h:∀(H1:Hp)(s':Shared)(out:List Value)(n:Nat),Θ H1->KskOut false kz vs out->Inv X pf σ H1 s'->FpOk X pf H1 a->s'.heap.get? a=some (lObj #[] e1)->P (.done (.ret .none)) { s' with heap:=s'.heap.update a (Obj.mapSeq λ_=>out.toArray) }) :
  wpAny (model X.prog X.w) X.A.in1.in1 (ksk_rest a (.ref f) false vs.toArray e1 (.ref kS)) P E s:=by
 unfold ksk_rest;refine e9 (gg ?_)
 first
  |rw[List.forIn_toArray]
  | (rw[<- cX];simp only[dJ])
  |rw[<- cX]
 refine e9 (ksk_fold (λi s'=>∃H1 kA e,Θ H1/\Inv X (pf++[(a,lObj #[] e1),(kS,lObj kA e)]) σ H1 s'/\fG kA.toList (kz.take i)) vs 0 s ⟨H,#[],0,hΘ,I,by simpa using fG.nil⟩ ?step ?done)
 case step=>
  rintro j x s' hx ⟨H1,kA,e,θ1,J,hk⟩;simp only[bM]at hk ⊢;have hj:j<vs.length:=(aj.mp hx).1;obtain⟨k,hkj⟩:∃k,kz[j]?=some k:=⟨_,ak (by omega)⟩;have hzk:kA.size<=vs.length:=by
   have h1:=hk.length;rw[aF,aA]at h1;omega
  refine e9 (gA (fD (turn j x k hx hkj H1 s' _ θ1 J) (λv s'' he=>?_) λ_ _ hF=>hF.elim));obtain⟨y,H',J2,rv,rfl,θ2⟩:=he;obtain⟨t2,rfl⟩:=rv;dsimp only;have gk:s''.heap.get? kS=some (lObj kA e):=(J2.pin (kS,lObj kA e) (by simp)).1;have s1:=Heap.SameBut.update s''.heap kS (Obj.mapSeq (·.push (.int k t2)));obtain⟨c2,hc2⟩:∃c2,(s''.heap.update kS (Obj.mapSeq (·.push (.int k t2)))).get? kS=some (lObj (kA.push (.int k t2)) c2):=⟨_,get?_update_seq gk (·.push (.int k t2))⟩;have ek:kz.take (j+1)=kz.take j++[k]:=by rw[bJ,hkj];simp
  have ea:(kA.push (Value.int k t2)).toList=kA.toList++[Value.int k t2]:=by simp
  refine e9 (gO gk rfl ?_ (by rw[fC];omega) (ax (bZ (Array.size_push ..)) (by rw[fC];omega)));refine fc ⟨rfl,H',kA.push (.int k t2),c2,θ2,?_,by rw[ea,ek];exact ksk_snoc hk⟩
  have:=Inv.repin (t':=s''.toks) (pl:=pf++[(a,lObj #[] e1)]) (by simpa using J2) (fk.re (J2.pin (kS,lObj kA e) (by simp)).2.1) (λc u hc q=>(s1.2 c hc).trans q) hc2 (a3w _ _)
  simpa using this
 case done=>
  rintro s' ⟨H1,kA,e,θ1,J,hk⟩;have hk':fG kA.toList kz:=by
   have e3:kz.take (0+vs.length)=kz:=bC (by omega);rw[e3]at hk;exact hk
  have gk:s'.heap.get? kS=some (lObj kA e):=(J.pin (kS,lObj kA e) (by simp)).1;refine e9 (jq gk rfl ?_);exact b1x J (fa.re (J.pin (a,lObj #[] e1) (by simp)).2.1) (fk.re (J.pin (kS,lObj kA e) (by simp)).2.1) hk' hlen hz λs' out n=>h H1 s' out n θ1
end
def perm_lift{α β:Type}{g:α->β}:∀{l:List β}{m:List β},l.Perm m->∀{T:List α},m=T.map g->∃T':List α,T'.Perm T/\l=T'.map g:=by
 intro l m h
 induction h with
 |nil=>intro T e;exact⟨T,.refl _,e⟩
 |cons x h ih=>
  intro T e;cases T with
  |nil=>cases e
  |cons a T=>
   rw[am]at e;injection e with e1 e2
   obtain⟨T',p,q⟩:=ih e2;exact⟨a::T',p.cons a,by rw[am,<- q,e1]⟩
 |swap x y l=>
  intro T e
  match T,e with
  |a::b::T,e=>
   rw[am,am]at e;injection e with e1 e2
   injection e2 with e2 e3
   exact⟨b::a::T,.swap a b T,by rw[am,am,<- e1,<- e2,<- e3]⟩
 |trans h1 h2 ih1 ih2=>
  intro T e;obtain⟨T2,p2,q2⟩:=ih2 e;obtain⟨T1,p1,q1⟩:=ih1 q2;exact⟨T1,p1.trans p2,q1⟩
def SOut{α:Type}(kz:List Int)(xs os:List α):Prop:=∃ps:List (Int×α),ps.Perm (kz.zip xs)/\os=ps.map (·.2)/\ps.Pairwise λp q=>p.1<=q.1
theorem a3x{α β:Type}:∀{kz:List Int}{xs:List α}{us:List β},xs.length=us.length->kz.zip us=(kz.zip (xs.zip us)).map λt=>(t.1,t.2.2)
 |[],_,_,_=>rfl
 |_::_,[],[],_=>rfl
 |_::kz,_::xs,_::us,h=>by simp[a3x (kz:=kz) (xs:=xs) (us:=us) (by simpa using h)]
theorem a3y{α β:Type}:∀{kz:List Int}{xs:List α}{us:List β},xs.length=us.length->kz.zip xs=(kz.zip (xs.zip us)).map λt=>(t.1,t.2.1)
 |[],_,_,_=>rfl
 |_::_,[],[],_=>rfl
 |_::kz,_::xs,_::us,h=>by simp[a3y (kz:=kz) (xs:=xs) (us:=us) (by simpa using h)]
theorem a5m:∀{T:List (Int×V×Value)},(∀t∈T,RelV t.2.1 t.2.2)->Vals (T.map λt=>t.2.1) (T.map λt=>t.2.2)
 |[],_=>.nil
 |t::T,h=>.cons (h t (.head _)) (a5m λu hu=>h u (.tail _ hu))
theorem a5n:∀{xs:List V}{us:List Value},Vals xs us->∀p∈xs.zip us,RelV p.1 p.2
 |_,_,.nil,p,h=>by simp at h
 |_,_,.cons r t,p,h=>by
  rcases ag.mp h with rfl |h
  ·exact r
  ·exact a5n t p h
def b1y{kz:List Int}{xs:List V}{us out:List Value}(rv:Vals xs us)(k:KskOut false kz us out):∃os,SOut kz xs os/\Vals os out:=by
 obtain⟨ps,p1,p2,p3⟩:=k;obtain⟨T,t1,t2⟩:=perm_lift p1 (a3x rv.length);refine⟨T.map λt=>t.2.1,⟨T.map λt=>(t.1,t.2.1),?_,by rw[aZ];rfl,?_⟩,?_⟩
 ·rw[a3y rv.length];exact t1.map _
 ·rw[t2]at p3;rw[cr]at p3 ⊢;exact p3.imp λ{a b} h=>by simpa using h
 ·rw[p2,t2,aZ];exact a5m λt ht=>a5n rv t.2 (b5 (t1.mem_iff.mp ht)).2
section
variable{X:Cx}{pf:List (Addr×Obj)}{σ:St}{H:Hp}{s:Shared}{l f:Addr}{xs:List V}{kz:List Int}{Q:Value->Shared->Prop}{E:Value->Shared->Prop}
def a55{Θ:Hp->Prop}(hΘ:Θ H)(I:Inv X pf σ H s)(hl:SqL X.K H l xs)(hlen:kz.length=xs.length)(hz:xs.length<=100000)
  (turn:∀(i:Nat)(x:V)(v:Value)(k:Int),xs[i]?=some x->RelV x v->kz[i]?=some k->∀(H1:Hp)(s':Shared)(pl:List (Addr×Obj)),Θ H1->Inv X (pf++pl) σ H1 s'->wpAny (model X.prog X.w) X.A.in1.in1 (call (.ref f) [v]) (EP X (pf++pl) σ λy H'=>y=.int k/\Θ H') (λ_ _=>False) s')
  (h:∀(H1:Hp)(s':Shared)(t:Addr)(os:List V),Θ H1->Inv X pf σ (upd H1 t (.lst os)) s'->H1 t=none->SOut kz xs os->Q (.ref t) s'):wpAny (model X.prog X.w) X.A (call (.builtin "sorted") [.ref l] [(Str.ofString "key",.ref f)]) Q E s:=by
 obtain⟨its,rv,pl,_⟩:=I.list hl;have hle:its.length=xs.length:=rv.length.symm;refine call_function_entry_kw jw jx jy (ksk_s1 _ _) ?_;unfold fv.«sorted»;refine e9 (m:=checkCount "sorted" 1 1 _) (fc ?_);refine e9 (collect_list pl.isList ?_ (by rw[fC];omega));refine e9 (iu ?_ (by rw[fC];omega));have hsz:((s.heap.push (seqObj "list" #[] 0)).update s.heap.objs.size (Obj.mapSeq (·++its.toArray))).objs.size=s.heap.objs.size+1:=by
  rw[Heap.size_update,iO]
 have k1:∀b o,s.heap.get? b=some o->((s.heap.push (seqObj "list" #[] 0)).update s.heap.objs.size (Obj.mapSeq (·++its.toArray))).get? b=some o:=λb o e=>by
  have hlt:=Heap.lt_size e;rw[Heap.get?_update_ne _ _ _ _ (ao hlt)];exact Heap.get?_push_of_some _ e
 generalize (s.heap.push (seqObj "list" #[] 0)).update s.heap.objs.size (Obj.mapSeq (·++its.toArray))=g at k1 hsz ⊢;have ho:(g.push (seqObj "list" its.toArray 0)).get? g.objs.size=some (seqObj "list" its.toArray 0):=Heap.get?_push_size _ rfl;refine e9 (fI (wpAny_call_entry_kw jz ⟨_,ho,rfl⟩ jA ?body (ksk_l1 _ _)))
 show wpAny (model X.prog X.w) X.A.in1.in1 (fv.«list.sort» ⟨[.ref g.objs.size],[(Str.ofString "key",.ref f)]⟩) _ _ _
 rw[ksk_t1];unfold ksk_tree;refine e9 (jq ho rfl ?_);refine e9 (gO ho rfl ?_ (by rw[aJ,fC];omega) (aK _));obtain⟨e1,ho1⟩:∃e1,((g.push (seqObj "list" its.toArray 0)).update g.objs.size (Obj.mapSeq λ_=>(#[]:Array Value))).get? g.objs.size=some (seqObj "list" #[] e1):=⟨_,get?_update_seq ho λ_=>#[]⟩;refine e9 (ir ho1 rfl ?_);have k2:∀b o,s.heap.get? b=some o->((g.push (seqObj "list" its.toArray 0)).update g.objs.size (Obj.mapSeq λ_=>(#[]:Array Value))).get? b=some o:=λb o e=>by
  have hlt:=Heap.lt_size (k1 b o e);rw[Heap.get?_update_ne _ _ _ _ (ao hlt)];exact Heap.get?_push_of_some _ (k1 b o e)
 have hs2:((g.push (seqObj "list" its.toArray 0)).update g.objs.size (Obj.mapSeq λ_=>(#[]:Array Value))).objs.size=g.objs.size+1:=by rw[Heap.size_update,iO]
 generalize (g.push (seqObj "list" its.toArray 0)).update g.objs.size (Obj.mapSeq λ_=>(#[]:Array Value))=g2 at ho1 k2 hs2 ⊢;refine e9 (hZ ?_ (by show its.length<=_;rw[fC];omega));refine e9 (iu ?_ (aK _));refine fI ?_;have hn:∀b,@LE.le Nat _ s.heap.objs.size b->FpOk X pf H b:=λb hb=>I.fpOk hb (I.hok.fresh hb);have hga:s.heap.objs.size<=g.objs.size:=by rw[hsz];exact dG _
 have fa:FpOk X pf H g.objs.size:=hn _ hga;have hkS:(g2.push (seqObj "tuple" its.toArray 0)).objs.size=g.objs.size+2:=by rw[iO,hs2]
 have fk0:FpOk X pf H (g2.push (seqObj "tuple" its.toArray 0)).objs.size:=hn _ (by rw[hkS];exact ax hga (eM _ _));have hne:g.objs.size≠(g2.push (seqObj "tuple" its.toArray 0)).objs.size:=by rw[hkS];exact ao (Nat.lt_add_of_pos_right (by decide))
 have fk:FpOk X (pf++[(g.objs.size,lObj #[] e1)]) H (g2.push (seqObj "tuple" its.toArray 0)).objs.size:=by
  obtain⟨f0,f1,f2,f3,f4,f5⟩:=fk0;refine⟨f0,f1,f2,f3,f4,λp hp=>?_⟩;rw[<- aN]at hp;rcases ah.mp hp with hp |hp
  ·exact f5 p hp
  ·rw[ai.mp hp];exact hne
 have I3:Inv X (pf++[(g.objs.size,lObj #[] e1),((g2.push (seqObj "tuple" its.toArray 0)).objs.size,lObj #[] 0)]) σ H { s with heap:=(g2.push (seqObj "tuple" its.toArray 0)).push (seqObj "list" #[] 0) }:=by
  have J:Inv X pf σ H { s with heap:=(g2.push (seqObj "tuple" its.toArray 0)).push (seqObj "list" #[] 0) }:=I.kept (t':=s.toks) λb o e=>Heap.get?_push_of_some _ (Heap.get?_push_of_some _ (k2 b o e));refine J.pins_of λp hp=>?_;rcases ah.mp hp with hp |hp
  ·exact J.pin p (aI _ hp)
  ·rcases ag.mp hp with rfl |hp
   ·exact⟨Heap.get?_push_of_some _ (Heap.get?_push_of_some _ ho1),fa.1,fa.2.1,fa.2.2.1,a3w _ _⟩
   ·rw[ai.mp hp];exact⟨Heap.get?_push_size _ rfl,fk0.1,fk0.2.1,fk0.2.2.1,a3w _ _⟩
 refine a9g (vs:=its) hΘ I3 fa fk (by rw[hlen,hle]) (by omega) (λi v k hv hk H1 s' pl' θ J=>?_) λH1 s' out n θ ko J fa' ga=>⟨_,rfl,?_⟩
 ·obtain⟨x,hx,rx⟩:=rv.tog hv;exact turn i x v k hx rx hk H1 s' pl' θ J
 ·obtain⟨os,so,ro⟩:=b1y rv ko;refine fc ⟨_,rfl,h H1 _ _ os θ ?_ fa'.1 so⟩;have s1:=Heap.SameBut.update s'.heap g.objs.size (Obj.mapSeq λ_=>out.toArray);obtain⟨c2,hc2⟩:∃c2,(s'.heap.update g.objs.size (Obj.mapSeq λ_=>out.toArray)).get? g.objs.size=some (seqObj "list" out.toArray c2):=⟨_,get?_update_seq ga λ_=>out.toArray⟩;have hol:os.length<=sizeLine:=by
   obtain⟨ps,p1,p2,_⟩:=so;rw[p2,ae,p1.length_eq,List.length_zip,fC];omega
  exact J.adopt (t':=s'.toks) fa' (λc u hc q=>(s1.2 c hc).trans q) ⟨hol,out,c2,ro,hc2⟩ ⟨_,hc2⟩
end
def b4c(P:Addr)(H H':Hp):Prop:=∀b u,H b=some u->b≠P->H' b=some u
def b4d{X:Cx}{a:Expr}{ta:TE}(ha:PE X a ta)(he:fu [a] X.env=(false,eval a X.env)::fu [] X.env:=by rfl):PA X [a] (fun σ H Q=>ta σ H λv H1=>Q [v] H1):=by
 intro pos pins s σ H Q I h;exact a2q ha a3J he pos pins s σ H Q I h
structure LamAt (X:Cx) (params:gM) (body:Expr) (scope:Scope) (P:Addr) (q x:Str) (N:List Str):Prop where
 sc:FnScope N [x] scope
 qn:q=X.env.qual++"<lambda>"
 df:jB params X.env=([],[])
 cl:im scope X.env=pure []
 cd:∃c,X.env.code=.ref c/\PySem.W.codeHdIn X.K c P=true
 gP:fF≠P
 bi:X.base.BuiltinsAt X.mg P
 bd:∀(pm ctv:Value)(c':Addr)(us:List Value),us.length=1->g9 (PySem.W.kla_fn "<lambda>" q params body scope [] pm (.ref c') ctv) ⟨us,[]⟩=pure ([x].zip us)
def b4e(K:Fg)(P:Addr)(lp:Pos)(q:Str)(N:List Str)(t:TE)(Q:VK):VK:=λv H1=>∃p xs kz,∃Θ:Hp->Hp->Prop,v=.ref p/\SqL K H1 p xs/\xs.length<=100000/\Tab H1 P lp q/\kz.length=xs.length /\
 (∀H2,b4c P H1 H2->Tab H2 P lp q->Θ H2 H2)/\(∀H2 H',Θ H2 H'->∀b o u,H2 b=some (.frz o u)->H' b=some (.frz o u)) /\
 (∀(i:Nat) x k,xs[i]?=some x->kz[i]?=some k->∀H2 H',Θ H2 H'->t (start N [x]) H' λy H3=>y=.int k/\Θ H2 H3) /\
 ∀H2 H' tA os,Θ H2 H'->H' tA=none->SOut kz xs os->Q (.ref tA) (upd H' tA (.lst os))
def b4f(K:Fg)(P:Addr)(lp:Pos)(q:Str)(N:List Str)(ta t:TE):TE:=fun σ H Q=>ta σ H (b4e K P lp q N t Q)
def one1(Q:VK):List V->Hp->Prop:=λvs H=>match vs with |[v]=>Q v H |_=>False
def b1z{Q:VK}{vs:List V}{H:Hp}(h:one1 Q vs H):∃v,vs=[v]/\Q v H:=by
 match vs,h with
 |[v],h=>exact⟨v,rfl,h⟩
def a9h{X:Cx}{a:Expr}{ta t:TE}{pN pos kp lpos:Pos}{params:gM}{body:Expr}{scope:Scope}{P:Addr}{q x:Str}{N:List Str}{k:Nat}(hg:Gl X "sorted")(hm:X.mg "sorted"=none)(hr:Room (k+3) X.A)(L:LamAt X params body scope P q x N)(ha:PE X a ta)
  (ht:∀(f c':Addr)(A:Around)(outer:List Env)(s:Shared)(H:Hp),Room k (A.deeper (envOfC q scope s.heap.objs.size f (.ref c')))->PE (cxOf CX0 X.prog X.w X.K X.mg X.base N q scope f (.ref c') A outer s H E0).nox body t)
  (he:fu [a] X.env=(false,eval a X.env)::fu [] X.env:=by rfl) :
  PE X (.Call (.Name "sorted" pN) [a] [⟨some "key",.Lambda params body scope lpos,kp⟩] pos) (b4f X.K P lpos q N ta t):=by
 intro pins s σ H Q I h;refine iI (a2o I hg hm (show fJ "sorted"=some (.builtin "sorted") by decide +kernel) ?_);refine callWith_kw (thn (b4d ha he pos pins s σ H (one1 (b4e X.K P lpos q N t Q)) I h) λus s1 ⟨vs,H1,I1,r,q0⟩=>?_) (by rw[he];rfl) (by rw[he];rfl);obtain⟨v,rfl,q1⟩:=b1z q0;obtain⟨u,rfl,ru⟩:=a2c r;obtain⟨p,xs,kz,Θ,rfl,hl,hz,hT,hlen,θ0,θf,hk,hQ⟩:=q1;cases ru;obtain⟨c,hc1,hc2⟩:=L.cd;refine kws_cons (a9f I1 hT L.qn L.df L.cl hc1 hc2 L.gP L.bi λf c' H2 pm ctv s2 oc I2 hcd hT2 kp=>?_);refine kws_nil ?_;have hl2:SqL X.K H2 p xs:=by
  rcases hl with (hl |⟨o,hl⟩) |hl
  ·exact .inl (.inl (kp _ _ hl λz=>by obtain⟨ps,e,_⟩:=hT;rw[z,e]at hl;cases hl))
  ·exact .inl (.inr ⟨o,kp _ _ hl λz=>by obtain⟨ps,e,_⟩:=hT;rw[z,e]at hl;cases hl⟩)
  ·exact .inr hl
 refine a55 (Θ:=Θ H2) (θ0 H2 kp hT2) I2 hl2 hlen hz (λi x' v k' hx rx hk' H3 s' pl θ J=>?_) λH3 s' tA os θ J hn so=>⟨.ref tA,_,J.unpinned,rfl,hQ H2 H3 tA os θ hn so⟩;have hcr:s'.heap.CodeRec (.ref c') q:=(show s'.heap.get? c'=some oc/\ObjOk X.prog X.w H3 s'.heap c' (a1W c' q) from J.hok c' _ (θf _ _ θ _ _ _ hcd)).2.1;have hr2:Room (k+1) X.A.in1.in1:=Room.in1 (Room.in1 hr);refine iH (gn (b1w (k:=k+1) L.sc (L.bd pm ctv c') hr2 J.env0.in1.in1 (.cons rx .nil) rfl (J.pin (f,_) (by simp)).1 hcr (ht f c' X.A.in1.in1 X.stack s' H3 (hr2.deeper _)) (hk i x' k' hx hk' H2 H3 θ)) λr s'' hq=>?_);cases r with
 |error e=>exact hq.elim
 |ok fl=>
  cases fl with
  |ret u=>exact J.after hq
  |next=>exact hq.elim
  |brk=>exact hq.elim
  |cont=>exact hq.elim
end L2
namespace L3
open PySem PySem.Spec PyProof.Rows L2
def a7Q(P:Addr)(lp:Pos)(q:Str)(N:List Str)(te t:E3):E3:=fun σ G R=>te σ G λx G1=>∃p ws kz,x=.ref p/\G1 p=some (.lst ws)/\ws.length<=100000/\G1 P=some (.tab lp q)/\kz.length=ws.length /\
 (∀(i:Nat) w k,ws[i]?=some w->kz[i]?=some k->t (a1f N [w]) G1 λy G2=>y=.int k/\G2=G1)/\∀tA os,G1 tA=none->SOut kz ws os->R (.ref tA) (put G1 tA (.lst os))
theorem a5o{K:Fg}{H:Hp}:∀{T:List (Int×Z×V)},(∀t∈T,Rep K H t.2.1 t.2.2)->Reps K H (T.map λt=>t.2.1) (T.map λt=>t.2.2)
 |[],_=>.nil
 |t::T,h=>.cons (h t (.head _)) (a5o λu hu=>h u (.tail _ hu))
theorem a5p{K:Fg}{H:Hp}:∀{ws:List Z}{vs:List V},Reps K H ws vs->∀p∈ws.zip vs,Rep K H p.1 p.2
 |[],vs,_,p,h=>by simp at h
 |w::ws,vs,r,p,h=>by
  rw[a1D]at r;obtain⟨v,r',rfl,h1,h2⟩:=r;rcases ag.mp h with rfl |h
  ·exact h1
  ·exact a5p h2 p h
def a9i{K:Fg}{H:Hp}{kz:List Int}{ws:List Z}{vs os:List V}(rs:Reps K H ws vs)(so:SOut kz vs os):∃zs,SOut kz ws zs/\Reps K H zs os:=by
 obtain⟨ps,p1,p2,p3⟩:=so;obtain⟨T,t1,t2⟩:=perm_lift p1 (a3x rs.length);refine⟨T.map λt=>t.2.1,⟨T.map λt=>(t.1,t.2.1),?_,by rw[aZ];rfl,?_⟩,?_⟩
 ·rw[a3y rs.length];exact t1.map _
 ·rw[t2]at p3;rw[cr]at p3 ⊢;exact p3
 ·rw[p2,t2,aZ];exact a5o λt ht=>a5p rs t.2 (b5 (t1.mem_iff.mp ht)).2
def b1A{K:Fg}{H H2:Hp}{P:Addr}{ps:Array Value}(hP:H P=some (.tbl ps))(k:b4c P H H2):TK K H H2:=
 ⟨λb xs e=>k _ _ e λz=>(by rw[z,hP]at e;cases e),λb xs e=>by
  rcases e with ⟨o,e⟩ |e
  ·exact .inl ⟨o,k _ _ e λz=>by rw[z,hP]at e;cases e⟩
  ·exact .inr e,λb o u e=>k _ _ e λz=>by rw[z,hP]at e;cases e⟩
def b1B{X:Cx}{a:Expr}{te t:E3}{pN pos kp lpos:Pos}{params:gM}{body:Expr}{scope:Scope}{P:Addr}{q x:Str}{N:List Str}{k:Nat}(hg:Gl X "sorted")(hm:X.mg "sorted"=none)(hr:Room (k+3) X.A)(L:LamAt X params body scope P q x N)(ha:QE X a te)
  (ht:∀(f c':Addr)(A:Around)(outer:List Env)(s:Shared)(H:Hp),Room k (A.deeper (envOfC q scope s.heap.objs.size f (.ref c')))->QE (cxOf CX0 X.prog X.w X.K X.mg X.base N q scope f (.ref c') A outer s H E0).nox body t)
  (he:fu [a] X.env=(false,eval a X.env)::fu [] X.env:=by rfl) :
  QE X (.Call (.Name "sorted" pN) [a] [⟨some "key",.Lambda params body scope lpos,kp⟩] pos) (a7Q P lpos q N te t):=
 ⟨a0O (a9h (t:=low X.K t) hg hm hr L ha.p (λf c' A outer s H r=>(ht f c' A outer s H r).p) he) fun τ H Q hx=>hx.un fun σ G R hs hg h up=>⟨σ,G,_,hs,hg,h,λw G1 v H1 hw rv hg1 t1=>by
  obtain⟨p,ws,kz,rfl,ew,hz,hT,hl,hk,hR⟩:=hw;rw[a0p]at rv;obtain⟨vs,ev,rs⟩:=hg1 p _ ew;obtain⟨ps,hP,hO⟩:=(show Tab H1 P lpos q from hg1 P _ hT);refine⟨p,vs,kz,λH2 H'=>RH X.K G1 H'/\TK X.K H1 H'/\∀b o u,H2 b=some (.frz o u)->H' b=some (.frz o u),rv,SqL.of ev,by rw[<- rs.length];exact hz,⟨ps,hP,hO⟩,by rw[hl,rs.length],λH2 kp T2=>?_,λH2 H' θ=>θ.2.2,λi x' k' hx' hk' H2 H' θ=>?_,λH2 H' tA os θ hn so=>?_⟩
  ·have tk:=b1A (K:=X.K) hP kp;refine⟨λb o e=>?_,tk,λ_ _ _ z=>z⟩
   by_cases hb:b=P
   ·subst hb;rw[hT]at e;cases e;exact T2
   ·obtain⟨u,z⟩:=(hg1 b o e).some;exact (hg1 b o e).stay tk ((kp _ _ z hb).trans z.symm)
  ·obtain⟨w',ew',rw'⟩:=rs.tog hx';exact⟨a1f N [w'],G1,_,.start (.cons (rw'.mono θ.2.1) .nil),θ.1,hk i w' k' ew' hk',λz G' v' H3 ⟨e1,e2⟩ r g t'=>by
    subst e1 e2;rw[a0h]at r;exact⟨r,g,θ.2.1.trans t',λb o u q=>t'.frd _ _ _ (θ.2.2 _ _ _ q)⟩⟩
  ·obtain⟨zs,so',rz⟩:=a9i (rs.mono θ.2.1) so;exact up _ _ _ _ (hR tA zs (θ.1.out hn) so') (by rw[a0p]) (θ.1.set (.new hn) (a0E rz (.new hn))) (t1.trans (θ.2.1.trans (.new hn)))⟩⟩
def b1C{P:Addr}{lp:Pos}{q:Str}{N:List Str}{te t:E3}{σ:S3}{G:Hq}{R:K3}(h:te σ G λx G1=>∃p ws kz,x=.ref p/\G1 p=some (.lst ws)/\ws.length<=100000/\G1 P=some (.tab lp q)/\kz.length=ws.length /\
 (∀(i:Nat) w k,ws[i]?=some w->kz[i]?=some k->t (a1f N [w]) G1 λy G2=>y=.int k/\G2=G1)/\∀tA os,G1 tA=none->SOut kz ws os->R (.ref tA) (put G1 tA (.lst os))):a7Q P lp q N te t σ G R:=h
end L3
namespace L2
open PySem PySem.Spec PyProof.Rows
section
variable{X:Cx}{o:Expr}{to:TE}{apos pos tpos:Pos}{elts:List Expr}{x1:_}
end
end L2
namespace L3
open PySem PySem.Spec PyProof.Rows L2
section
variable{X:Cx}{tg l:Expr}{tl:E3}
end
end L3
namespace Tim
open PySem PyProof.Rows PySem.W
section
variable{prog:fq}{w:World}{A:Around}{E:Value->Shared->Prop}{s:Shared}
end
section
variable{prog:fq}{w:World}{A:Around}{E:Value->Shared->Prop}{s:Shared}{l I S:Addr}{vs:List Value}{rows:List (List Pz)}{m:Nat}{R:Result->Shared->Prop}{Q:Value->Shared->Prop}
def RowIn.up{h h':Heap}{v:Value}{x:List Pz}(r:RowIn h v x)(k:∀b o,h.get? b=some o->h'.get? b=some o):RowIn h' v x:=by
 obtain⟨a,o,its,n,e0,e1,r⟩:=r;exact⟨a,o,its,n,e0,k _ _ e1,r⟩
end
end Tim
namespace L2
open PySem PySem.Spec PyProof.Rows Tim
end L2
namespace L3
open PySem PySem.Spec PyProof.Rows L2 Tim
end L3
namespace L2
open PySem PySem.Spec PyProof.Rows
section
variable{P:fq}{w:World}{A:Around}{E:Value->Shared->Prop}{s:Shared}
end
section
variable{X:Cx}
end
end L2
namespace L3
open PySem PySem.Spec PyProof.Rows L2
section
variable{X:Cx}
end
abbrev NsG(K:Fg)(x:Str)(v:Option Value):Prop:=PySem.W.nsIn K fF x=some v
def Br(K:Fg)(mg:Str->Option Value):Prop:=∀x v,NsG K x v->mg x=v
def b6b{K:Fg}(X:K.In h)(G:h.Ns fF mg):Br K mg:=λ_ v e=>match v,e with
 |some _,e=>PySem.W.mg_of X G e
 |none,e=>PySem.W.mg_none_of X G e
def FX(K:Fg)(x:Str)(st:Stmt):Prop:=∃f d,NsG K x (some (.ref f))/\Fun K x x st f d
def MX(K:Fg)(C:Addr)(m q:Str)(st:Stmt):Prop:=∃f d,Meth K C m f/\Fun K m q st f d
def AllF(K:Fg)(tp:Nat->Stmt)(l:List (Str×Nat)):Prop:=∀(i:Nat)(r:Str×Nat),l[i]?=some r->FX K r.1 (tp r.2)
def AllM(K:Fg)(tp:Nat->Stmt)(C:Addr)(l:List (Str×Str×Nat×Nat)):Prop:=∀(i:Nat)(r:Str×Str×Nat×Nat),l[i]?=some r->MX K C r.1 r.2.1 (a3b (tp r.2.2.1) r.2.2.2)
def AllB(K:Fg)(l:List Str):Prop:=∀(i:Nat) x,l[i]?=some x->NsG K x none
def AllN(K:Fg)(C:Addr)(l:List Str):Prop:=∀(i:Nat) x,l[i]?=some x->b2y K C x
section
variable{K:Fg}{tp:Nat->Stmt}{x m q:Str}{n j:Nat}{f C:Addr}{oc:Value}{od an:Option Addr}{osl:Array (Option Value)}{kV doc pm cdv ct:Value}
def af0:AllF K tp []:=λ_ _ h=>nomatch h
def af1(a:PySem.W.nsIn K fF x=some (some (.ref f)))(e:K.lookup f=some ⟨oc,od,.func (PySem.W.fnOf x x (a1q (tp n)) (a0L (tp n)) (a0g (tp n)) .none kV doc pm an cdv ct),osl⟩)
  (c:PySem.W.codeIn K cdv x=true) (k:PySem.W.keepIn K (.ref f)=true) (t:AllF K tp l):AllF K tp ((x,n)::l):=λi r h=>by
 cases i with
 |zero=>cases h;exact⟨f,_,a,a9M e c k⟩
 |succ i=>exact t i r h
def ab0:AllB K []:=λ_ _ h=>nomatch h
def ab1(a:PySem.W.nsIn K fF x=some none)(t:AllB K l):AllB K (x::l):=λi y h=>by
 cases i with
 |zero=>cases h;exact a
 |succ i=>exact t i y h
def an0:AllN K C []:=λ_ _ h=>nomatch h
def an1(a:PySem.W.findIn K (.ref C) x=some none)(t:AllN K C l):AllN K C (x::l):=λi y h=>by
 cases i with
 |zero=>cases h;exact a
 |succ i=>exact t i y h
def am0:AllM K tp C []:=λ_ _ h=>nomatch h
def am1(a:PySem.W.findIn K (.ref C) m=some (some (.ref f)))(g:PySem.W.isFn K (.ref f)=true)
  (e:K.lookup f=some ⟨oc,od,.func (PySem.W.fnOf m q (a1q (a3b (tp n) j)) (a0L (a3b (tp n) j)) (a0g (a3b (tp n) j)) .none kV doc pm an cdv ct),osl⟩)
  (c:PySem.W.codeIn K cdv q=true) (k:PySem.W.keepIn K (.ref f)=true) (t:AllM K tp C l):AllM K tp C ((m,q,n,j)::l):=λi r h=>by
 cases i with
 |zero=>cases h;exact⟨f,_,⟨a,g,k⟩,a9M e c k⟩
 |succ i=>exact t i r h
end
section
variable{P:fq}{w:World}{K:Fg}{mg:Str->Option Value}{base:Heap}{x q:Str}{st:Stmt}{f C:Addr}{d:fK}{N:List Str}{k n:Nat}
def Fd(P:fq)(w:World)(K:Fg)(mg:Str->Option Value)(base:Heap)(CX:CXT)(k:Nat)(f:Addr)(s:Sp):Prop:=∃d ps,FnOk P w K mg base CX k f d ps s/\Binds K d ps []
structure Cal (P:fq) (w:World) (K:Fg) (mg:Str->Option Value) (base:Heap) (CX:CXT) (k:Nat) (x:Str) (s:Sp):Prop where
 ex:∃f,Fd P w K mg base CX k f s/\mg x=some (.ref f)/\PySem.W.keepIn K (.ref f)=true
abbrev Bd0(P:fq)(w:World)(K:Fg)(mg:Str->Option Value)(base:Heap)(N:List Str)(q:Str)(st:Stmt)(k:Nat)(sp:P3):Prop:=∀(f:Addr)(cdv:Value)(A:Around)(outer:List Env)(s:Shared)(H:Hp)(E:XK)(ws:List Z)(G:Hq)(R:K3),Room k (A.deeper (envOfC q (a0g st) s.heap.objs.size f cdv))->N.Nodup->sp ws G R ->
 ∃t,QSs (cxOf CX0 P w K mg base N q (a0g st) f cdv A outer s H E).nox (a0L st) t/\t (λ_ G'=>R .non G') R (λ_ _=>False) (λ_ _=>False) (a1f N ws) G
abbrev Pl(x q:Str)(st:Stmt)(ps:List Str):Prop:=∀(kV doc pm:Value)(an:Option Addr)(cdv ct:Value)(us:List Value),us.length=ps.length->g9 (PySem.W.fnOf x q (a1q st) (a0L st) (a0g st) .none kV doc pm an cdv ct) ⟨us,[]⟩=pure (ps.zip us)
def fnd{sp:P3}(F:Fun K x q st f d)(b:Bd0 P w K mg base N q st k sp)(S:FnScope N (N.take n) (a0g st))(len:∀ws G R,sp ws G R->ws.length=(N.take n).length):FnOk P w K mg base CX0 (k+1) f d (N.take n) (lowP K sp):=
 fn3 F S len λcdv A outer s H E ws G R hr h=>b f cdv A outer s H E ws G R hr S.nd h
def fnc{sp:P3}(n:Nat)(B:Br K mg)(F:FX K x st)(b:Bd0 P w K mg base N x st k sp)(len:∀ws G R,sp ws G R->ws.length=(N.take n).length:=by intro ws G R h;repeat' first | (obtain⟨rfl,_⟩:=h;rfl) | (cases h<;>rename_i h))(S:FnScope N (N.take n) (a0g st):=by exact⟨rfl,rfl,rfl,by decide +kernel,rfl,by decide +kernel,by decide +kernel⟩)(pl:Pl x x st (N.take n):=by intro _ _ _ _ _ _;(repeat refine lnS λ_=>?_);exact ln0 rfl):Cal P w K mg base CX0 (k+1) x (lowP K sp):=by
 obtain⟨f,d,e,F⟩:=F;exact⟨⟨f,⟨d,_,fnd F b S len,F.binds pl⟩,B _ _ e,F.kp⟩⟩
end
noncomputable def nst:Expr->Bool
 |.Starred _ _=>false
 |_=>true
def se_(h:nst e=true):fu (e::es) env=(false,eval e env)::fu es env:=by cases e<;>first |rfl |cases h
def hp_:∀{es:List Expr},es.all nst=true->(backTo pos (fu es env)).any (·.1)=false:=by intro z0;induction z0 with
 |nil=>intro _;exact b2Z
 |cons e es I0=>
  intro h;rw[aL,aQ]at h;exact b0P (se_ h.1) (I0 h.2)
def s1_(h:(e::es).all nst=true):fu (e::es) env=(false,eval e env)::fu es env:=se_ (by simp_all)
def h1_(h:(e::es).all nst=true):(backTo pos (fu es env)).any (·.1)=false:=hp_ (by rw[aL,aQ]at h;exact h.2)
section
variable{X:Cx}{e o:Expr}{es:List Expr}{t:A3}{te to:E3}{x m:Str}{k j:Nat}{C:Addr}{p pos apos:Pos}{sp:P3}{sq:PX3}{E:XK}{EE:Addr->Hq->Prop}{pl:Sem Bool}
def q_c(c:Cal X.prog X.w X.K X.mg X.base CX0 k x (lowP X.K sp))(hr:Room j X.A)(ha:QA X (e::es) t)(hn:(e::es).all nst=true:=by rfl)(hk:k<=j:=by decide)(hg:Gl X x:=by rfl)
  (hdb:(x==("__debug__":Str))=false:=by decide):QE X (.Call (.Name x p) (e::es) [] pos) (b0U sp t):=by
 obtain⟨f,⟨d,h,F,b⟩,g,a⟩:=c.ex;exact b23 F (hr.mono hk) hg g a b ha hdb (s1_ hn) (h1_ hn)
def q_k(ha:QE X e te)(hr:QA X es t)(h:nst e=true:=by rfl):QA X (e::es) (b0R te t):=b22 ha hr (se_ h)
def q_B{id:String}(hc:a3j X (.builtin id) r)(hm:X.mg x=none)(ha:QA X (e::es) t)(hv:fJ x=some (.builtin id):=by rfl)(hn:(e::es).all nst=true:=by rfl)(hg:Gl X x:=by rfl)(h1:x≠"__name__":=by decide)(h2:(x==("__debug__":Str))=false:=by decide) :
  QE X (.Call (.Name x p) (e::es) [] pos) (uCB r t):=b0S hc hg hm hv ha h1 h2 (s1_ hn) (h1_ hn)
def q_Y{id:String}(hc:a3j X (.type id) r)(hm:X.mg x=none)(ha:QA X (e::es) t)(hv:fJ x=some (.type id):=by rfl)(hn:(e::es).all nst=true:=by rfl)(hg:Gl X x:=by rfl)(h1:x≠"__name__":=by decide)(h2:(x==("__debug__":Str))=false:=by decide) :
  QE X (.Call (.Name x p) (e::es) [] pos) (uCB r t):=a8G hc hg hm hv ha h1 h2 (s1_ hn) (h1_ hn)
structure Nm (X:Cx) (x:Str) (i:Nat):Prop where
 nd:X.N.Nodup
 ix:X.N[i]?=some x
 lc:Loc X.env.scope x
 fn:X.fn x=true\/X.env.scope.names.lookup x=some .local
def nmI(i:Nat)(nd:X.N.Nodup)(ix:X.N[i]?=some x:=by rfl)(lc:Loc X.env.scope x:=by first |exact bH rfl |exact bf rfl)(fn:X.fn x=true\/X.env.scope.names.lookup x=some .local:=by first |exact .inl rfl |exact .inr rfl |assumption):Nm X x i:=⟨nd,ix,lc,fn⟩
def z_st(h:Nm X x i)(he:QE X e te)(hs:gz e (some (.Name x pos')) pos.line X.env=pure false:=by rfl):QS X (.Assign [.Name x pos'] e pos) (uAsg te (.nm i)):=b5p h.nd h.ix h.lc he hs h.fn
def z_au(h:Nm X x i)(he:QE X e te)(ho:OpQ X (gE op) r):QS X (.AugAssign (.Name x pos') op e pos) (uAug i te r):=b3d h.nd h.ix h.lc he ho h.fn
def p_nm(h:Nm X x i):QP X (.Name x pos) (.nm i):=a6n h.nd h.ix h.lc h.fn
def QPg(X:Cx)(es:List Expr)(is:List Nat):Prop:=PGs X es (gsOf is)/\(f8 es X.env).length=is.length/\(f8 es X.env).findIdx? (·.1)=none
def b6c:QPg X [] []:=⟨b0u,rfl,rfl⟩
def b4g(h:Nm X x i)(t:QPg X es is):QPg X (.Name x pos::es) (i::is):=⟨a8j (a6n h.nd h.ix h.lc h.fn) t.1,congrArg Nat.succ t.2.1,by
 show eE _ (_::f8 es X.env)=none
 rw[List.findIdx?_cons,if_neg nofun,t.2.2];rfl⟩
def p_tp(hc:X.calm=true)(h:QPg X es is):QP X (.Tuple es c pos) (.tp is):=b2j hc h.1 h.2.1 h.2.2
section
variable{CX:CXT}{P:fq}{w:World}{K:Fg}{mg:Str->Option Value}{base:Heap}{N:List Str}{q:Str}{so:Scope}{f:Addr}{cd:Value}{A:Around}{outer:List Env}{s:Shared}{H:Hp}{E:XK}
def cxN:(cxOf CX P w K mg base N q so f cd A outer s H E).nox.N=N:=rfl
def cxS:(cxOf CX P w K mg base N q so f cd A outer s H E).nox.env.scope=so:=rfl
def cxN':(cxOf CX P w K mg base N q so f cd A outer s H E).N=N:=rfl
def cxS':(cxOf CX P w K mg base N q so f cd A outer s H E).env.scope=so:=rfl
end
def cxcN:(cxC X EW N' sc D s H fp).N=N':=rfl
section
variable{Nj:List Str}{so sc:Scope}{wi:I3}{tg iter elt:Expr}{ifs:List Expr}{tt:T3}{i:Nat}
def q_l(N':List Str)(cap:List (Option Nat))(pt:Pt)(hi:QI X tg iter wi:=by ac_rfl)(ht:∀C s H fp,QIfs (cxC X E0 N' sc C s H fp) ifs tt:=by walk_at "r4")(he:∀C s H fp,QE (cxC X E0 N' sc C s H fp) elt te:=by walk_at "r4")(hg:∀C s H fp,N'.Nodup->QP (cxC X E0 N' sc C s H fp) tg pt:=by walk_at "r5")
  (hNN:X.N=Nj:=by first |exact cxN |exact cxN' |exact cxcN) (hso:X.env.scope=so:=by first |exact cxS |exact cxS' |rfl) (ck:capB Nj so sc N' cap=true:=by first |decide +kernel |rfl) (hp:(pt.slots.all λj=>decide (cap[j]?=some none))=true:=by rfl)
  (nd:N'.Nodup:=by decide +kernel) (hc:X.calm=true:=by rfl) (hs:∀x,gj iter X.env x=pure x:=by intro _;rfl):QE X (.ListComp elt [⟨tg,iter,ifs,0⟩] sc pos) (uLC wi cap pt tt te):=q_lc hc hNN hso ck hp hi (λC s H a=>hg C s H a nd) ht he hs
def z_l(h:Nm X x i)(N':List Str)(cap:List (Option Nat))(pt:Pt)(hi:QI X tg iter wi:=by ac_rfl)(ht:∀C s H fp,QIfs (cxC X E0 N' sc C s H fp) ifs tt:=by walk_at "r4")(he:∀C s H fp,QE (cxC X E0 N' sc C s H fp) elt te:=by walk_at "r4")(hg:∀C s H fp,N'.Nodup->QP (cxC X E0 N' sc C s H fp) tg pt:=by walk_at "r5")
  (hNN:X.N=Nj:=by first |exact cxN |exact cxN' |exact cxcN) (hso:X.env.scope=so:=by first |exact cxS |exact cxS' |rfl) (ck:capB Nj so sc N' cap=true:=by first |decide +kernel |rfl) (hp:(pt.slots.all λj=>decide (cap[j]?=some none))=true:=by rfl)
  (nd:N'.Nodup:=by decide +kernel) (hl:X.env.scope.names.lookup x=some .local:=by rfl) (hsw:gz (.ListComp elt [⟨tg,iter,ifs,0⟩] sc pos) (some (.Name x pos')) spos.line X.env=pure true:=by rfl) (hc:X.calm=true:=by rfl) (hs:∀x,gj iter X.env x=pure x:=by intro _;rfl) :
  QS X (.Assign [.Name x pos'] (.ListComp elt [⟨tg,iter,ifs,0⟩] sc pos) spos) (uAsg (uLC wi cap pt tt te) (.nm i)):=b02 h.nd h.ix hl hc hNN hso ck hp hi (λC s H a=>hg C s H a nd) ht he hsw hs
end
end
def At(N:List Str)(i:Nat)(x:Str):Prop:=N[i]?=some x
def at_0:At (x::l) 0 x:=rfl
def at_1:At (c0::x::l) 1 x:=rfl
def at_2:At (c0::c1::x::l) 2 x:=rfl
def at_3:At (c0::c1::c2::x::l) 3 x:=rfl
def at_4:At (c0::c1::c2::c3::x::l) 4 x:=rfl
def at_5:At (c0::c1::c2::c3::c4::x::l) 5 x:=rfl
def at_6:At (c0::c1::c2::c3::c4::c5::x::l) 6 x:=rfl
def at_7:At (c0::c1::c2::c3::c4::c5::c6::x::l) 7 x:=rfl
def at_8:At (c0::c1::c2::c3::c4::c5::c6::c7::x::l) 8 x:=rfl
def at_9:At (c0::c1::c2::c3::c4::c5::c6::c7::c8::x::l) 9 x:=rfl
def b4h:At (c0::c1::c2::c3::c4::c5::c6::c7::c8::c9::x::l) 10 x:=rfl
def b4i:At (c0::c1::c2::c3::c4::c5::c6::c7::c8::c9::c10::x::l) 11 x:=rfl
def b4j:At (c0::c1::c2::c3::c4::c5::c6::c7::c8::c9::c10::c11::x::l) 12 x:=rfl
def b4k:At (c0::c1::c2::c3::c4::c5::c6::c7::c8::c9::c10::c11::c12::x::l) 13 x:=rfl
section
variable{X:Cx}{x:Str}{pos:Pos}
def qv(i:Nat)(hN:X.N[i]?=some x:=by rfl)(hv:Vis X.env.scope x:=by first |exact bH rfl |exact bf (bH rfl) |exact bf (bf rfl))(hd:(x==("__debug__":Str))=false:=by decide)
  (hcd:(x==("__classdict__":Str))=false:=by decide):QE X (.Name x pos) (uVar i):=b2S (a6l hN hv hd hcd)
def qw(h:X.N=N)(a:At N i x)(hv:Vis X.env.scope x:=by first |exact bH rfl |exact bf (bH rfl) |exact bf (bf rfl))(hd:(x==("__debug__":Str))=false:=by decide)
  (hcd:(x==("__classdict__":Str))=false:=by decide):QE X (.Name x pos) (uVar i):=b2S (a6l (h▸a) hv hd hcd)
def nwI(h:X.N=N)(a:At N i x)(nd:X.N.Nodup)(lc:Loc X.env.scope x:=by first |exact bH rfl |exact bf rfl)(fn:X.fn x=true\/X.env.scope.names.lookup x=some .local:=by first |exact .inl rfl |exact .inr rfl |assumption):Nm X x i:=⟨nd,by rw[h];exact a,lc,fn⟩
end
end L3
namespace L3
def newK(e:put G a o=G')(h:G a=none):G' a=some o/\Sm G G':=by subst e;exact⟨a0a,Sm.new h⟩
end L3
namespace L2
open PySem PySem.Spec PyProof.Rows
end L2
namespace L3
open PySem PySem.Spec PyProof.Rows L2
end L3
namespace L2
open PySem PySem.Spec PyProof.Rows
def a9j(P0:Addr)(H:Hp):Prop:=H P0=some (.tbl #[])/\∀b,b≠P0->H b=none\/∃o xs,H b=some (.frz o (.lst xs))
def a7R{P:fq}{w:World}{K:Fg}{mg mb:Str->Option Value}{CX:CXT}{k:Nat}{fa a P0 c0:Addr}{fd:fK}{x:Str}{sp:Sp}{sj:Shared}{vs:List Value}{ns:List Int}
  (KX:K.In sj.heap) (hns:sj.heap.Ns fF mg) (hb:sj.heap.Ns ig mb) (hbb:∀x:Str,x≠"__name__"->mb x=fJ x) (hlim:sj.heap.NoLimit) (hg:sj.gens=#[])
  (hT:sj.heap.get? P0=some (PySem.W.tabObj #[])) (hK0:K.lookup P0=none) (hC:PySem.W.codeHdIn K c0 P0=true)
  (hB:∃bm ob,mg "__builtins__"=some (.ref bm)/\bm≠ig/\sj.heap.get? bm=some ob/\ob.cls=.type "module"/\ob.dict=some ig/\ob.data=.plain)
  (ha:sj.heap.get? a=some { cls:=.type "list",data:=.seq vs.toArray }) (hi:fG vs ns) (hl:ns.length<=fi) (hr:Room k gK)
  (F:∀base:Heap,K.In base->base.Ns fF mg->base.BuiltinsAt mg P0->FnOk P w K mg base CX k fa fd [x] sp) (hbind:∀(s:Shared)(u:Value),gZ s fd ⟨[u],[]⟩ [(x,u)])
  (hsp:∀H:Hp,a9j P0 H->SqL K H a (ns.map V.int)->sp [.ref a] H (λv _=>v=.bl true) λ_ _ _=>False)
  (hCX:∀H e s',CX [] H sj (λ_ _ _=>False) e s'->False) :
  f9 (model P w) gK (.call (.ref fa) ⟨[.ref a],[]⟩) (λr s'=>r=.ok (.ret (.bool true))/\OldK sj.heap s'.heap/\s'.os=sj.os/\f7 s'.gens) sj:=by
 have rv:=a6I hi;have lenV:=hi.length;have aP:a≠P0:=λz=>by rw[z,hT]at ha;cases ha
 have core:∀H:Hp,a9j P0 H->SqL K H a (ns.map V.int)->HOk P w H sj.heap->(∀b,H b≠none->b=a\/b=P0)->(H a≠none->K.lookup a=none) ->
   f9 (model P w) gK (.call (.ref fa) ⟨[.ref a],[]⟩) (λr s'=>r=.ok (.ret (.bool true))/\OldK sj.heap s'.heap/\s'.os=sj.os/\f7 s'.gens) sj:=by
  intro H hO hS hok hA hK;have keepO:∀{b:Addr}{o:Obj},sj.heap.get? b=some o->o≠PySem.W.tabObj #[]->o≠{ cls:=.type "list",data:=.seq vs.toArray }->H b=none:=λ{b o} e n1 n2=>by
   cases q:H b with
   |none=>rfl
   |some u=>
    rcases hA b (by rw[q];simp) with z |z
    ·subst z;rw[ha]at e;exact absurd (aG.inj e).symm n2
    ·subst z;rw[hT]at e;exact absurd (aG.inj e).symm n1
  have nsK:∀{b:Addr}{m:Str->Option Value},sj.heap.Ns b m->(hidT sj.heap H).Ns b m:=λ{b m} ⟨o,es,ep,e,d,r⟩=>⟨o,es,ep,a28 e (keepO e (λz=>by rw[z]at d;cases d) λz=>by rw[z]at d;cases d),d,r⟩;have hKb:K.In (hidT sj.heap H):=λb o e=>a28 (KX b o e) (by
   cases q:H b with
   |none=>rfl
   |some u=>
    rcases hA b (by rw[q];simp) with z |z
    ·subst z;rw[hK (by rw[q];simp)]at e;cases e
    ·subst z;rw[hK0]at e;cases e)
  have hM:Mod K mg (hidT sj.heap H):=⟨hKb,nsK hns,⟨mb,nsK hb,hbb⟩,let ⟨mc,h1,h2⟩:=hlim;⟨mc,nsK h1,h2⟩⟩;have hBb:(hidT sj.heap H).BuiltinsAt mg P0:=by
   obtain⟨bm,ob,h1,h2,h3,h4,h5,h6⟩:=hB;have nb:H bm=none:=keepO h3 (λz=>by rw[z]at h4;cases h4) λz=>by rw[z]at h4;simp at h4
   refine⟨bm,ob,h1,h2,λz=>?_,λz=>?_,a28 h3 nb,h4,h5,h6⟩
   ·subst z;obtain⟨o,es,ep,e,d,_⟩:=hns;rw[h3]at e;cases e;rw[h6]at d;cases d
   ·subst z;rw[hO.1]at nb;cases nb
  have e0:Env0 P w K mg (hidT sj.heap H) gK [] sj H:=⟨rfl,hM,λb o e=>b0l e,bZ (a6k _ _),trivial,λb hb=>absurd (show b∈([]:List Addr) from hb) (by simp),hok,.of_eq hg⟩;refine gn ((F _ hKb (nsK hns) hBb).run gK [] sj H ⟨[.ref a],[]⟩ [.ref a] [.ref a] _ _ hr e0 (hbind sj (.ref a)) (.cons rfl .nil) (hsp H hO hS)) λr s' h=>?_;cases r with
  |error e=>exact (hCX H e s' h).elim
  |ok fl=>
   cases fl with
   |next=>exact ap h
   |brk=>exact ap h
   |cont=>exact ap h
   |ret u=>
    obtain⟨v,H',os,bare,un,hok',r',q⟩:=h;have q':v=.bl true:=q;subst q';obtain rfl:u=Value.bool true:=r';have tabK:∃more,s'.heap.get? P0=some (PySem.W.tabObj (#[]++more)):=by
     obtain⟨more,e⟩:=un.tbls P0 _ hO.1;exact⟨more,hok' P0 _ e⟩
    have kp:∀b o,b≠P0->sj.heap.get? b=some o->s'.heap.get? b=some o:=λb o hb e=>by
     rcases hO.2 b hb with z |⟨ob,xs,z⟩
     ·exact un.keep b o e z (by intro z;exact absurd (show b∈([]:List Addr) from z) (by simp)) (by simp)
     ·obtain⟨e1,_⟩:=hok b _ z;obtain⟨e2,_⟩:=hok' b _ (un.frzs b ob _ z);rw[e]at e1;cases e1;exact e2
    obtain⟨more,gm⟩:=tabK;refine⟨rfl,⟨λb o e=>?_,λb o e=>?_⟩,os,bare⟩
    ·by_cases hb:b=P0
     ·subst hb;rw[hT]at e;cases e;exact .inr (.inl ⟨((PySem.W.codeHd_of_K KX hC).tab hT).isCodeTable,rfl,#[],more,rfl,gm⟩)
     ·exact .inl (kp b o hb e)
    ·by_cases hb:b=P0
     ·subst hb;exact⟨_,gm⟩
     ·exact⟨o,kp b o hb e⟩
 cases hk:K.lookup a with
 |some o=>
  have e:=KX a o hk;rw[ha]at e;cases e;refine core (upd (λ_=>none) P0 (.tbl #[])) ⟨a0e,λb hb=>.inl (a0d hb)⟩ (.inr ⟨_,vs.toArray,_,hk,rfl,rfl,rfl,by rw[aJ,lenV];exact hl,by simpa using rv⟩) (λb u z=>?_) (λb z=>?_) λz=>absurd (a0d aP) z
  ·by_cases hb:b=P0
   ·subst hb;rw[a0e]at z;cases z;exact hT
   ·rw[a0d hb]at z;cases z
  ·by_cases hb:b=P0
   ·exact .inr hb
   ·exact absurd (a0d hb) z
 |none=>
  refine core (upd (upd (λ_=>none) a (.frz { cls:=.type "list",data:=.seq vs.toArray } (.lst (ns.map V.int)))) P0 (.tbl #[])) ⟨a0e,λb hb=>?_⟩ (.inl (.inr ⟨{ cls:=.type "list",data:=.seq vs.toArray },by rw[a0d aP,a0e]⟩)) (λb u z=>?_) (λb z=>?_) λ_=>hk
  ·by_cases h2:b=a
   ·subst h2;exact .inr ⟨_,_,by rw[a0d hb,a0e]⟩
   ·exact .inl (by rw[a0d hb,a0d h2])
  ·by_cases hb:b=P0
   ·subst hb;rw[a0e]at z;cases z;exact hT
   ·rw[a0d hb]at z
    by_cases h2:b=a
    ·subst h2;rw[a0e]at z;cases z;exact⟨ha,by rw[ae];exact hl,vs,_,rv,ha⟩
    ·rw[a0d h2]at z;cases z
  ·by_cases hb:b=P0
   ·exact .inr hb
   ·by_cases h2:b=a
    ·exact .inl h2
    ·exact absurd (by rw[a0d hb,a0d h2]) z
def walk_ofT{l:PySem.W.OpenLaw}{n k:Nat}{q:fq}{loose:List Str}{XP:(Str->Option Value)->Heap->Prop}{YP:World->Heap->Prop}{d:DefRec}{K:Params->Fg}{CX:World->CXT}{sp:World->Sp}{x:Str}{P0:Addr}
  (hn:l.most=some n) (hn2:n<=fi) (hdf:d.params.defaults=[]) (hr:Room k gK)
  (hY:∀(w:World)(h:Heap),YP w h->(K w.params).In h/\h.get? P0=some (PySem.W.tabObj #[])) (hK0:∀w:World,(K w.params).lookup P0=none)
  (F:∀(w:World)(mg:Str->Option Value)(fa:Addr)(h:Heap),(K w.params).In h->h.Ns fF mg->mg d.name=some (.ref fa) ->
   ∃(fd:fK)(c0:Addr),PySem.W.codeHdIn (K w.params) c0 P0=true/\(∀(s:Shared)(u:Value),gZ s fd ⟨[u],[]⟩ [(x,u)]) /\
    ∀base:Heap,(K w.params).In base->base.Ns fF mg->base.BuiltinsAt mg P0->FnOk l.prog w (K w.params) mg base (CX w) k fa fd [x] (sp w))
  (hsp:∀(w:World)(H:Hp)(a:Addr)(ns:List Int),ns.length<=n->a9j P0 H->SqL (K w.params) H a (ns.map V.int)->sp w [.ref a] H (λv _=>v=.bl true) λ_ _ _=>False)
  (hCX:∀(w:World)(H:Hp)(s:Shared)(e:Value)(s':Shared),CX w [] H s (λ_ _ _=>False) e s'->False) :
  PySem.W.WalkO q loose XP YP l.row.toRowW d [] (λf vs=>PySem.call f vs):=by
 refine Att.attach_call hn hdf λw s₀ sj mg mb fa o pm cd doc a vs ns G Y ho hd hcd hmg hobj hints hlen hg=>?_;obtain⟨KX,hT⟩:=hY w _ Y;obtain⟨fd,c0,hC,hb,hF⟩:=F w mg fa _ KX G.T.g hmg;exact a7R KX G.T.g G.T.b G.T.builtins G.T.nolimit hg hT (hK0 w) hC G.T.bmain hobj hints (ax hlen hn2) hr hF hb (λH hO hS=>hsp w H a ns hlen hO hS) λH e s'=>hCX w H sj e s'
end L2
namespace SetW
open PySem
theorem hole:∀{l:List (Option Nat)},(l.filterMap id).length<l.length->∃j:Nat,l[j]?=some none
 |none::l,_=>⟨0,rfl⟩
 |some k::l,h=>by
  obtain⟨j,e⟩:=hole (l:=l) (by simpa using h);exact⟨j+1,by simpa using e⟩
theorem a3z:∀{l:List (Option Nat)}{j k:Nat},l[j]?=some none->((l.set j (some k)).filterMap id).Perm (k::l.filterMap id)
 |none::l,0,k,_=>by simp
 |none::l,j+1,k,h=>by simpa using a3z (l:=l) (by simpa using h)
 |some a::l,j+1,k,h=>by
  have q:=a3z (l:=l) (j:=j) (k:=k) (by simpa using h);simp only[eA,bz,id];exact (q.cons a).trans (.swap ..)
noncomputable def lp(m:Nat):Nat->Nat×Nat->Nat×Nat
 |0,q=>q
 |n+1,q=>lp m n (fe.leap m q.1 q.2)
set_option tactic.hygienic true in
theorem a7S{m:Nat}{ow:Array (Option Nat)}:∀(fuel i p:Nat){j:Nat},fe.layClean.free m ow fuel i p=some j->ow[j]?=some none
 |0,i,p,j,h=>by simp[fe.layClean.free]at h
 |fuel+1,i,p,j,h=>by
  unfold fe.layClean.free at h
  split at h
  ·next k e=>
   cases h;have q:=List.find?_some e;cases c:ow[i+k]? with
   |none=>simp[cq,c]at q
   |some v=>
    simp[cq,c]at q;rw[q]
  ·exact a7S fuel _ _ h
theorem a7T{m:Nat}{ow:Array (Option Nat)}:∀(fuel i p n:Nat),fe.layClean.free m ow fuel i p=none->n<fuel->ow[(lp m n (i,p)).1]?≠some none
 |fuel+1,i,p,n,h,hn=>by
  unfold fe.layClean.free at h
  split at h
  ·cases h
  ·next e=>
   cases n with
   |succ n=>exact a7T fuel _ _ n h (by omega)
   |zero=>
    have q:=cY.mp e 0 (bx.mpr (by unfold fe.runEnd;split<;>omega))
    intro z;have z:ow[i]?=some none:=z;simp[cq,z]at q
theorem a99(m:Nat):∀(a b:Nat)(q:Nat×Nat),lp m (a+b) q=lp m b (lp m a q)
 |0,b,q=>by rw[bM];rfl
 |a+1,b,q=>by rw[eJ];exact a99 m a b _
theorem b0a(m:Nat):∀(n i p:Nat),(lp m n (i,p)).2=p / 32 ^ n
 |0,i,p=>by simp[lp]
 |n+1,i,p=>by
  show (lp m n (fe.leap m i p)).2=_
  unfold fe.leap;rw[b0a,Nat.div_div_eq_div_mul,Nat.pow_succ,Nat.mul_comm 32]
theorem b4l(m:Nat):∀(n i p:Nat),i<=m->(lp m n (i,p)).1<=m
 |0,i,p,h=>h
 |n+1,i,p,h=>b4l m n _ _ (eN (cW _ (Nat.succ_pos m)))
noncomputable def rnd(m:Nat):Bool:=(aC (m+1)).all λi=>(aC (m+1)).all λj=>(aC (m+1)).any λn=>(lp m n (i,0)).1==j
def rnd7:rnd 7=true:=by decide +kernel
def b4m{m i j:Nat}(h:rnd m=true)(hi:i<=m)(hj:j<=m):∃n,n<=m/\(lp m n (i,0)).1=j:=by
 unfold rnd at h;have q:=bg.mp (bg.mp h i (bx.mpr (by omega))) j (bx.mpr (by omega));obtain⟨n,hn,e⟩:=bE.mp q;exact⟨n,by have:=bx.mp hn;omega,by simpa using e⟩
def b1D(h:Int):fe.bits h<2 ^ 64:=by unfold fe.bits;omega
def a7U{m:Nat}{ow:Array (Option Nat)}(hr:rnd m=true)(hs:ow.size=m+1){j:Nat}(hj:ow[j]?=some none){i p:Nat}(hi:i<=m)(hp:p<2 ^ 64):∃j,fe.layClean.free m ow (fe.turns m) i p=some j/\ow[j]?=some none:=by
 cases e:fe.layClean.free m ow (fe.turns m) i p with
 |some j=>exact⟨j,rfl,a7S _ _ _ e⟩
 |none=>
  exfalso;have jm:j<=m:=by have:=(Array.getElem?_eq_some_iff.mp hj).1;omega
  have z:(lp m 13 (i,p)).2=0:=by rw[b0a];exact Nat.div_eq_of_lt (by omega)
  obtain⟨n,hn,q⟩:=b4m hr (b4l m 13 i p hi) jm;have q':(lp m (13+n) (i,p)).1=j:=by rw[a99,show lp m 13 (i,p)=((lp m 13 (i,p)).1,0) from by rw[<- z]];exact q
  exact a7T _ i p (13+n) e (by unfold fe.turns;omega) (by rw[q'];exact hj)
structure Own (m k:Nat) (ow:Array (Option Nat)):Prop where
 sz:ow.size=m+1
 pm:(ow.toList.filterMap id).Perm (aC k)
theorem b0b{m:Nat}(hr:rnd m=true):∀(hs:List Int)(ow:Array (Option Nat))(k:Nat),Own m k ow->k+hs.length<=m+1 ->
  ∃ow',hs.foldl (λacc h=>do
   let (owner,k) <- acc
   let j <- fe.layClean.free m owner (fe.turns m) (fe.bits h % (m+1)) (fe.bits h)
   pure (owner.setIfInBounds j (some k),k+1)) (some (ow,k))=some (ow',k+hs.length)/\Own m (k+hs.length) ow'
 |[],ow,k,h,_=>⟨ow,rfl,h⟩
 |x::hs,ow,k,h,hl=>by
  obtain⟨j0,hj0⟩:=hole (l:=ow.toList) (by rw[h.pm.length_eq,cB,aF,h.sz];simp at hl;omega);obtain⟨j,e,hj⟩:=a7U hr h.sz (by simpa using hj0) (i:=fe.bits x % (m+1)) (p:=fe.bits x) (eN (cW _ (Nat.succ_pos m))) (b1D x);obtain⟨ow',q1,q2⟩:=b0b hr hs (ow.setIfInBounds j (some k)) (k+1) ⟨by rw[eI];exact h.sz,by
   rw[eB];refine (a3z (by simpa using hj)).trans ?_;rw[List.range_succ];exact (h.pm.cons k).trans (dw (l₁:=[k]))⟩ (by simp at hl;omega)
  refine⟨ow',?_,by rw[aE,dL hs.length,<- cm];exact q2⟩;rw[ei,aE,dL hs.length,<- cm,<- q1];simp[e]
def a9k(l:List (Option Nat)):((aC l.length).filterMap λj=>(l[j]?.getD none).map (j,·)).map (·.2)=l.filterMap id:=by
 rw[eO]
 induction l with
 |nil=>rfl
 |cons x l ih=>
  rw[aE,List.range_succ_eq_map,bz,d3,bz];cases x<;>simp[Function.comp_def]at ih ⊢<;>exact ih
def laid_ok{m f mv:Nat}{led pl:Bool}{hs:Array Int}(hr:rnd m=true)(hl:hs.size<=m) :
  ∃t od,fe.laid m f mv led pl hs=some (t,od)/\od.toList.Perm (aC hs.size)/\t.fits hs.size=true/\TOk led t:=by
 obtain⟨ow,e,o⟩:=b0b hr hs.toList (Array.replicate (m+1) none) 0 ⟨by simp,by
  rw[Array.toList_replicate,List.range_zero];generalize m+1=n
  induction n with
  |zero=>exact .nil
  |succ n ih=>rw[List.replicate_succ];exact ih⟩ (by rw[bM,aF];omega)
 rw[bM,aF]at o;have lc:fe.layClean m hs=some ow:=by
  unfold fe.layClean;rw[<- Array.foldl_toList,e]
  rfl
 have key:=a9k ow.toList;rw[aF,o.sz]at key;have key2:((aC (m+1)).filterMap λj=>(ow.getD j none).map (j,·)).map (·.2)=ow.toList.filterMap id:=by
  rw[<- key];simp[cq]
 have ln:((aC (m+1)).filterMap λj=>(ow.getD j none).map (j,·)).length=hs.size:=by
  rw[<- ae (f:=(·.2)),key2,o.pm.length_eq,cB]
 refine⟨_,_,by unfold fe.laid;rw[lc];rfl,?_,?_,?_,rfl,rfl⟩
 ·rw[dJ,key2];exact o.pm
 ·unfold fe.fits fe.fill;simp only[aJ,ae,ln];simpa using hl
 ·unfold Up;simp only[dJ];rw[eO]
  have:(aC (m+1)).Pairwise (·<·):=dE
  refine List.pairwise_filterMap.mpr (this.imp λ{a b} hab x hx y hy=>?_);simp at hx hy;obtain⟨_,_,rfl⟩:=hx;obtain⟨_,_,rfl⟩:=hy;exact hab
end SetW
namespace SetW
open PySem PyProof.Rows
def a9l{n:Nat}(h:n<=16):fe.sizeAbove n<=32/\rnd (fe.sizeAbove n-1)=true/\7<=fe.sizeAbove n-1:=by
 have q:(aC 17).all (λn=>decide (fe.sizeAbove n<=32)&&rnd (fe.sizeAbove n-1)&&decide (7<=fe.sizeAbove n-1))=true:=by decide +kernel
 have:=bg.mp q n (bx.mpr (by omega))
 simp only[aQ,decide_eq_true_eq]at this;exact⟨this.1.1,this.1.2,this.2⟩
section
variable{prog:fq}{w:World}{A:Around}{E:Value->Shared->Prop}{s:Shared}{a b:Addr}{es eo:Array (Int×Value)}{ep epo:Nat}{t to:fe}{K:Type}[DecidableEq K]{kd:KeyKind prog w K}{ms mo:List K}{k:K}{v:Value}
def b1E{od:Array Nat}(h:od.toList.Perm (aC es.size)):(od.filterMap (es[·]?)).toList.Perm es.toList:=by
 rw[Array.toList_filterMap];refine (h.filterMap _).trans (.of_eq ?_);exact filterMap_getElem?_range es
def a5q{od:Array Nat}{Q:Array (Int×Value)×fe->Shared->Prop}(hp:od.toList.Perm (aC es.size))(h:Q (od.filterMap (es[·]?),t) s) :
  wpAny (model prog w) A (do
   let some (t,order):=some (t,od) |gx "internal:set-table-without-room"
   let es':=order.filterMap (es[·]?)
   if es'.size != es.size then gx "internal:set-table-lost-an-element"
   pure (es',t)) Q E s:=by
 have q:((od.filterMap (es[·]?)).size != es.size)=false:=by
  rw[<- aF,(b1E hp).length_eq,aF];simp
 dsimp only;rw[q];exact fc h
def a7V{wanted:Nat}{Q:Unit->Shared->Prop}(S:SO kd s.heap a es ep t ms)(hw:wanted<=16)(hn:ms.length<=7)
  (h:∀h' es' ep' t' ms',Heap.SameBut a s.heap h'->SO kd h' a es' ep' t' ms'->ms'.Perm ms->rnd t'.mask=true->7<=t'.mask->Q () { s with heap:=h' }) :
  wpAny (model prog w) A (setRelay a wanted) Q E s:=by
 obtain⟨⟨o,ho,hx,hd⟩,hel,hnum,hsc,hfit,hok⟩:=id S;obtain⟨w1,w2,w3⟩:=a9l hw;have hlen:=S.len;unfold setRelay;refine e9 (fU ho hd hfit ?_);dsimp only;rw[if_neg (by rw[fC];omega)];obtain⟨t',od,e,p1,p2,p3⟩:=laid_ok (f:=t.finger) (mv:=t.movedTo (fe.sizeAbove wanted-1)) (led:=t.led) (pl:=t.plain) (hs:=es.map (·.1)) w2 (by rw[cn];omega);rw[cn]at p1 p2;have e':t.relaid (es.map (·.1)) wanted=some (t',od):=e;have em:t'.mask=fe.sizeAbove wanted-1:=by
  unfold fe.laid at e;cases c:fe.layClean (fe.sizeAbove wanted-1) (es.map (·.1)) with
  |none=>rw[c]at e;cases e
  |some q=>rw[c]at e;cases e;rfl
 rw[e'];refine e9 (a5q p1 ?_);have pm:=b1E p1;have sz:(od.filterMap (es[·]?)).size=es.size:=by rw[<- aF,pm.length_eq,aF]
 obtain⟨ms1,i1,q1⟩:=a0H hnum (pm.map (·.2));dsimp only;refine iw ho hd ?_ (iy (by omega));rw[hok.ld]at p3;obtain⟨_,S1⟩:=SO.stored (kd:=kd) ho hx hd (hel.perm pm) i1 (by omega) (by rw[sz];exact p2) p3;exact h _ _ _ _ ms1 (Heap.SameBut.update ..) S1 q1 (by rw[em];exact w2) (by rw[em];exact w3)
def a9m{more:Nat}{Q:Unit->Shared->Prop}(S:SO kd s.heap a es ep t ms)(hn:ms.length<=4)(hm:more<=4)
  (h:∀h' es' ep' t' ms',Heap.SameBut a s.heap h'->SO kd h' a es' ep' t' ms'->ms'.Perm ms->(rnd t'.mask=true/\7<=t'.mask\/t'=t)->Q () { s with heap:=h' }) :
  wpAny (model prog w) A (setRoomFor a more) Q E s:=by
 obtain⟨⟨o,ho,hx,hd⟩,hel,hnum,hsc,hfit,hok⟩:=id S;have hlen:=S.len;unfold setRoomFor;refine e9 (fU ho hd hfit ?_);dsimp only;unfold fe.roomFor
 split
 ·next wanted e=>
  split at e
  ·cases e
   have:t.place.size=es.size:=by simp only[fe.fits,aQ,beq_iff_eq]at hfit;exact hfit.1
   exact a7V S (by omega) (by omega) λh' es' ep' t' ms' sb S' pm r1 r2=>h h' es' ep' t' ms' sb S' pm (.inl ⟨r1,r2⟩)
  ·cases e
 ·exact fc (h s.heap es ep t ms (Heap.SameBut.refl ..) S (.refl _) (.inr rfl))
def a9n{Q:Array (Int×Value)->Shared->Prop}(S:SO kd s.heap b eo epo to mo)(h:∀l d',l.toList.Perm eo.toList->Q l { s with drawn:=d' }):wpAny (model prog w) A (setWalk b) Q E s:=by
 obtain⟨⟨o,ho,hx,hd⟩,hel,hnum,hsc,hfit,hok⟩:=id S;unfold setWalk;refine e9 (fU ho hd hfit ?_);dsimp only;unfold iX;refine e9 (e9 (gR (fc ?_)));refine f6 (λ_=>?_) λhT=>?_
 ·refine e9 (gR (fc ?_));exact h _ s.drawn (a2B _ _)
 ·have hT:byT w=false:=by simpa using (show ¬ byT w=true from hT)
  refine f6 (λ_=>?_) λ_=>?_
  ·refine e9 (a3u _ _ _ _ (by simp) λys d' p=>fc (h _ d' ?_));simpa using p
  ·have q:(!to.led&&decide (eo.size > 1))=false:=by rw[hok.ld,hT];rfl
   refine e9 (Q:=_) (?_:wpAny _ _ (if (!to.led&&decide (eo.size > 1))=true then gx "set:maker-not-led" else pure ()) _ _ _);rw[q];exact fc (fc (h _ s.drawn (.refl _)))
def a5r(hel:iP kd es.toList){Q:Option Bool×Unit->Shared->Prop}{f:Int×Value->Option Bool×Unit->Sem (ForInStep (Option Bool×Unit))}(hf:∀e r,e.2.scannable=true->f e r=pure (.yield (none,())))(h:Q (none,()) s):wpAny (model prog w) A (forIn es (none,()) f) Q E s:=by
 rw[<- cX];generalize es.toList=l at hel
 induction l with
 |nil=>exact fc h
 |cons e l ih=>
  rw[b6,hf e _ hel.head.2,pure_bind];exact ih hel.tail
def a56{Q:Bool->Shared->Prop}(So:SO kd s.heap b eo epo to mo)(S:SO kd s.heap a es ep t ms)(h:Q true s):wpAny (model prog w) A (setsQuiet [b,a]) Q E s:=by
 obtain⟨⟨o,ho,hx,hd⟩,hel,hnum,hsc,hfit,hok⟩:=So;obtain⟨⟨o',ho',hx',hd'⟩,hel',hnum',hsc',hfit',hok'⟩:=S;unfold setsQuiet;rw[b6];refine e9 (e9 (e9 (gU ho hd hfit (e9 (a5r hel (λe r q=>?_) (fc ?_))))))
 ·obtain⟨x,y⟩:=e;cases y<;>first |rfl |cases q
 dsimp only;rw[b6];refine e9 (e9 (gU ho' hd' hfit' (e9 (a5r hel' (λe r q=>?_) (fc ?_)))))
 ·obtain⟨x,y⟩:=e;cases y<;>first |rfl |cases q
 exact fc (fc h)
def a4D{Q:Array (Int×Value)->Shared->Prop}(So:SO kd s.heap b eo epo to mo)(S:SO kd s.heap a es ep t ms)
  (h:∀l h' ep' t' d',l.toList.Perm eo.toList->Heap.SameBut a s.heap h'->SO kd h' a es ep' t' ms->Q l { s with heap:=h',drawn:=d' }):wpAny (model prog w) A (setWalkUnseen b [a] (some a)) Q E s:=by
 obtain⟨⟨o,ho,hx,hd⟩,hel,hnum,hsc,hfit,hok⟩:=id So;have wk:wpAny (model prog w) A (setWalk b) Q E s:=a9n So λl d' p=>h l s.heap ep t d' p (Heap.SameBut.refl ..) S;unfold setWalkUnseen;refine e9 (fU ho hd hfit ?_);dsimp only;unfold iX;refine e9 (e9 (gR (fc ?_)));refine f6 (λ_=>wk) λ_=>?_;refine e9 (a56 So S ?_);refine f6 (λ_=>wk) λ_=>?_;refine e9 (gg ?_);obtain⟨⟨o',ho',hx',hd'⟩,hel',hnum',hsc',hfit',hok'⟩:=id S;refine e9 (fU ho' hd' hfit' ?_);refine f6 (λ_=>?_) λ_=>fc (h eo s.heap ep t s.drawn (.refl _) (Heap.SameBut.refl ..) S);refine e9 (iw ho' hd' ?_ (iy hsc'));obtain⟨_,S1⟩:=SO.stored (kd:=kd) (t':={ t with led:=t.led&&to.led,plain:=t.plain&&to.plain }) ho' hx' hd' hel' hnum' hsc' (by cases t;exact hfit') ⟨hok'.up,hok'.dm,by show (t.led&&to.led)=_;rw[hok'.ld,hok.ld,dr]⟩;exact fc (h eo _ _ _ s.drawn (.refl _) (Heap.SameBut.update ..) S1)
end
section
variable{prog:fq}{w:World}{A:Around}{E:Value->Shared->Prop}{s:Shared}{a b:Addr}{es eo:Array (Int×Value)}{ep epo:Nat}{t to:fe}{K:Type}[DecidableEq K]{kd:KeyKind prog w K}{ms mo:List K}{k:K}{v:Value}
theorem a5s(hab:b≠a){each:Sem Unit}(he:∀{s':Shared}{Q:Unit->Shared->Prop},SO kd s'.heap b eo epo to mo->Q () s'->wpAny (model prog w) A each Q E s')
  {f:Int×Value->PUnit->Sem (ForInStep PUnit)}(hf:∀h x r,f (h,x) r=(do
   let _ <- fV [x] (iQ a x h)
   each
   let q <- setState b
   if (q.2.1 != epo)=true then do
    gx "set.changed-during-merge"
    pure (ForInStep.yield PUnit.unit)
   else pure (ForInStep.yield PUnit.unit))) :
  ∀(l:List (Int×Value))(ks:List K)(s:Shared)(ms:List K)(Q:PUnit->Shared->Prop),iP kd l->KsAre kd (l.map (·.2)) ks->SI kd s.heap a ms->ms.Nodup->ms.length+l.length+1<fS->SO kd s.heap b eo epo to mo ->
   (∀h' ms',Heap.SameBut a s.heap h'->SI kd h' a ms'->ms'.Nodup->(∀x,x∈ms'↔x∈ms\/x∈ks)->ms'.length<=ms.length+l.length->Q ⟨⟩ { s with heap:=h' }) ->
   wpAny (model prog w) A (forIn l PUnit.unit f) Q E s
 |[],_,s,ms,Q,_,.nil,S,nd,_,_,h=>fc (h s.heap ms (Heap.SameBut.refl ..) S nd (λx=>by simp) (af _))
 | (z,v)::l,_,s,ms,Q,hel,.cons (k:=k) (ks:=ks) hk ht,S,nd,hb,So,h=>by
  obtain⟨⟨k',hk',hz⟩,hsv⟩:=hel.head
  have:=kd.inj _ _ _ hk hk'
  subst this;have hz:z=kd.hash k:=hz;subst hz;rw[b6,hf];obtain⟨es,ep,t,S'⟩:=S;refine e9 (e9 (fI (a4z hk hsv S' (by simp at hb;omega) λh1 m1 bb sb S1 p=>?_)));have So1:SO kd h1 b eo epo to mo:=So.at λo e=>sb.extBut b o hab e;obtain⟨o,ho,hx,hd⟩:=So1.at_;refine e9 (he So1 (e9 (fU ho hd So1.fit ?_)));rw[if_neg (by simp)];refine fc ?_;have n1:m1.Nodup:=by
   refine p.nodup_iff.mpr ?_
   split
   ·exact nd
   ·next c=>exact cp.mpr ⟨nd,by simp,λx hx y hy=>by rw[ai.mp hy];rintro rfl;exact c hx⟩
  have l1:m1.length<=ms.length+1:=by rw[p.length_eq];split<;>simp
  have e1:∀x,x∈m1↔x∈ms\/x=k:=λx=>by
   rw[p.mem_iff]
   split
   ·next c=>exact⟨.inl,λz=>z.elim id λe=>e▸c⟩
   ·simp
  exact a5s hab he hf l ks _ m1 Q hel.tail ht S1 n1 (by simp at hb;omega) So1 λh2 m2 sb2 S2 n2 e2 l2=>h h2 m2 (sb.trans sb2) S2 n2 (λx=>by rw[e2,e1,ag,or_assoc]) (by simp;omega)
def a38(hab:a≠b){each:Sem Unit}(he:∀{s':Shared}{Q:Unit->Shared->Prop},SO kd s'.heap b eo epo to mo->Q () s'->wpAny (model prog w) A each Q E s'){Q:Unit->Shared->Prop}
  (S:SO kd s.heap a es ep t ms) (So:SO kd s.heap b eo epo to mo) (hn:ms.length<=4) (hm:mo.length<=4) (nd:ms.Nodup) (ndo:mo.Nodup) (hz:ms=[]->t.mask=7)
  (h:∀h' es' ep' t' ms' d',Heap.SameBut a s.heap h'->SO kd h' a es' ep' t' ms'->(ms'=[]->t'.mask=7)->ms'.Nodup->(∀x,x∈ms'↔x∈ms\/x∈mo)->ms'.length<=ms.length+mo.length->Q () { s with heap:=h',drawn:=d' }) :
  wpAny (model prog w) A (jC a b each) Q E s:=by
 obtain⟨⟨o,ho,hx,hd⟩,hel,hnum,hsc,hfit,hok⟩:=id So;have lo:=So.len;unfold jC;rw[if_neg (by simpa using hab)];refine e9 (fU ho hd hfit ?_);dsimp only;refine f6 (λc=>?_) λc=>?_
 ·have:mo=[]:=by
   rw[eP,lo]at c;exact bK.mp c
  subst this;exact fc (h s.heap es ep t ms s.drawn (Heap.SameBut.refl ..) S hz nd (λx=>by simp) (eM ..))
 have mne:mo≠[]:=λz=>c (by rw[eP,lo,z];rfl);refine e9 (a9m S hn (by omega) λh1 es1 ep1 t1 m1 sb S1 p r=>?_);have So1:SO kd h1 b eo epo to mo:=So.at λo e=>sb.extBut b o (Ne.symm hab) e;obtain⟨⟨o1,ho1,hx1,hd1⟩,hel1,hnum1,hsc1,hfit1,hok1⟩:=id S1;refine e9 (fU ho1 hd1 hfit1 ?_);dsimp only;have fl:t1.fill=m1.length:=by
  simp only[fe.fits,aQ,beq_iff_eq]at hfit1;rw[fe.fill,hok1.dm,hfit1.1,S1.len (s:={ s with heap:=h1 })];rfl
 have fin:∀(es':Array (Int×Value))(t':fe),m1=[]->es'.toList.Perm eo.toList->t'.fits eo.size=true->TOk (!byT w) t'->wpAny (model prog w) A (iR a es' t') Q E { s with heap:=h1 }:=λes' t' z p1 f1 k1=>by
  have sz:es'.size=eo.size:=by rw[<- aF,p1.length_eq,aF]
  obtain⟨m2,i2,p2⟩:=a0H hnum (p1.map (·.2));refine iw ho1 hd1 ?_ (iy (by omega));obtain⟨_,S2⟩:=SO.stored (kd:=kd) ho1 hx1 hd1 (hel.perm p1) i2 (by omega) (by rw[sz];exact f1) k1;have mz:ms=[]:=by rw[z]at p;exact p.symm.eq_nil
  exact h _ _ _ _ m2 s.drawn (sb.trans (Heap.SameBut.update ..)) S2 (λq=>absurd (by rw[q]at p2;exact p2.symm.eq_nil) mne) (p2.nodup_iff.mpr ndo) (λx=>by rw[p2.mem_iff,mz];simp) (by rw[p2.length_eq];omega)
 unfold fe.road
 by_cases z:m1=[]
 ·rw[if_neg (by rw[fl,z];simp)];have ld:(t1.led&&to.led)=!byT w:=by rw[hok1.ld,hok.ld,dr]
  have mr:rnd t1.mask=true/\7<=t1.mask:=r.elim id λe=>by
   rw[e,hz (by rw[z]at p;exact p.symm.eq_nil)];exact⟨rnd7,af _⟩
  by_cases c2:(t1.mask==to.mask&&to.dummies.isEmpty)=true
  ·rw[if_pos c2];exact fin eo _ z (.refl _) (by cases to;exact hfit) ⟨hok.up,hok.dm,ld⟩
  ·rw[if_neg c2];obtain⟨t',od,e,p1,p2,p3⟩:=laid_ok (f:=t1.finger) (mv:=t1.moves) (led:=t1.led&&to.led) (pl:=t1.plain&&to.plain) (hs:=eo.map (·.1)) mr.1 (by rw[cn];omega);rw[cn]at p1 p2;dsimp only;rw[e];refine e9 (a5q p1 ?_);exact fin _ t' z (b1E p1) p2 (ld▸p3)
 ·rw[if_pos (by rw[fl];simpa using z)];dsimp only;have nd1:m1.Nodup:=p.nodup_iff.mpr nd;have pl:=p.length_eq;have sb4:4096=scanBound:=rfl;refine e9 (a4D So1 S1 λl h2 ep2 t2 d2 p2 sb2 S2=>?_);have So2:SO kd h2 b eo epo to mo:=So1.at λo e=>sb2.extBut b o (Ne.symm hab) e;obtain⟨ks,i3,p3⟩:=a0H hnum (p2.map (·.2));have ll:l.toList.length=mo.length:=by rw[p2.length_eq,aF,lo]
  rw[<- cX];refine e9 (a5s (Ne.symm hab) he (λ_ _ _=>rfl) l.toList ks _ m1 _ (hel.perm p2) i3 ⟨_,_,_,S2⟩ nd1 (by omega) So2 λh3 m3 sb3 S3 n3 e3 l3=>?_);obtain⟨es3,ep3,t3,S3⟩:=S3;have mm:∀x,x∈m3↔x∈ms\/x∈mo:=λx=>by rw[e3,p.mem_iff,p3.mem_iff]
  refine fc (h h3 es3 ep3 t3 m3 d2 (sb.trans (sb2.trans sb3)) S3 (λq=>?_) n3 mm (by omega));obtain⟨x,hx⟩:=List.exists_mem_of_ne_nil mo mne
  have:=(mm x).mpr (.inr hx)
  rw[q]at this;cases this
def SO.fresh{h:Heap}(g:h.get? a=some (a0j w)):SO kd h a #[] 0 (.fresh 0 0 (!byT w)) []:=⟨⟨_,g,⟨rfl,rfl,rfl⟩,rfl⟩,λe he=>by simp at he,.nil,by decide,rfl,⟨.nil,rfl,rfl⟩⟩
def a9o{Q:Value->Shared->Prop}(So:SO kd s.heap b eo epo to mo)(hm:mo.length<=4)(ndo:mo.Nodup)
  (h:∀h' es' ep' t' ms' d',(∀c o,s.heap.get? c=some o->h'.get? c=some o)->SO kd h' s.heap.objs.size es' ep' t' ms'->(ms'=[]->t'.mask=7)->ms'.Nodup->(∀x,x∈ms'↔x∈mo)->ms'.length<=mo.length->Q (.ref s.heap.objs.size) { s with heap:=h',drawn:=d' }) :
  wpAny (model prog w) A (fv.Frozenset.copyOf b) Q E s:=by
 unfold fv.Frozenset.copyOf fv.Frozenset.baseOf newSet;refine e9 (e9 (iB (T:="set") (b:=true) So.ty (by rw[iA];kernel_rfl) (fc ?_)));dsimp only;rw[if_pos rfl];unfold iX;refine e9 (e9 (e9 (gR (fc ?_))));dsimp only;simp only[newObj];refine e9 (jl (fc ?_));obtain⟨o,ho,_⟩:=So.at_;have lb:b<s.heap.objs.size:=Heap.lt_size ho;have g1:(s.heap.push (a0j w)).get? s.heap.objs.size=some (a0j w):=Heap.get?_push_size _ rfl;have So1:SO kd (s.heap.push (a0j w)) b eo epo to mo:=So.at λo e=>Heap.get?_push_of_some _ e
 show wpAny _ _ (jC s.heap.objs.size b (pure ()) >>= _) _ _ _
 refine e9 (a38 (s:={ s with heap:=s.heap.push (a0j w) }) (be lb) (λ_ q=>fc q) (SO.fresh (kd:=kd) g1) So1 (by simp) hm .nil ndo (λ_=>rfl) λh' es' ep' t' ms' d' sb S1 z n1 e1 l1=>fc ?_);exact h h' es' ep' t' ms' d' (λc o e=>sb.extBut c o (ao (Heap.lt_size e)) (Heap.get?_push_of_some _ e)) S1 z n1 (λx=>by rw[e1];simp) (by simpa using l1)
def a4E{Q:Bool->Shared->Prop}(So:SO kd s.heap b eo epo to mo)(h:Q true s):wpAny (model prog w) A (fv.Frozenset.isAnySet (.ref b)) Q E s:=by
 unfold fv.Frozenset.isAnySet;refine e9 (iB (T:="set") (b:=true) So.ty (by rw[iA];kernel_rfl) ?_);exact fc h
def a9p:iU table "set.__or__"=some fv.«frozenset.__or__»:=ju (id':="frozenset.__or__") (by kernel_rfl) rfl (by decide +kernel) (by kernel_rfl)
def or_set{Q:Value->Shared->Prop}(hab:a≠b)(S:SO kd s.heap a es ep t ms)(So:SO kd s.heap b eo epo to mo)(hn:ms.length<=4)(hm:mo.length<=4)(nd:ms.Nodup)(ndo:mo.Nodup)
  (h:∀h' ms' d',(∀c o,s.heap.get? c=some o->h'.get? c=some o)->SI kd h' s.heap.objs.size ms'->ms'.Nodup->(∀x,x∈ms'↔x∈ms\/x∈mo)->ms'.length<=ms.length+mo.length->Q (.ref s.heap.objs.size) { s with heap:=h',drawn:=d' }) :
  wpAny (model prog w) A (fE .BitOr (.ref a) (.ref b)) Q E s:=by
 refine wpAny_binaryOp_same (op:=.BitOr) S.ty So.ty PySem.F.fills_set_or PySem.F.slot_set_or (fR PySem.F.slot_set_or S.ty a9p ?_ (PySem.F.args_set_or_2 _ _))
 show wpAny _ _ (fv.Frozenset.slot1 "__or__" _ >>= _) _ _ _
 refine e9 (m:=fv.Frozenset.slot1 "__or__" _) (fc ?_);dsimp only;refine e9 (e9 (a4E S ?_));refine a4E So ?_;rw[if_neg (by decide)]
 show wpAny _ _ (fv.Frozenset.copyOf a >>= _ >>= _) _ _ _
 obtain⟨oa,ha,_⟩:=S.at_;obtain⟨ob,hob,hbx,hbd⟩:=So.at_;have la:a<s.heap.objs.size:=Heap.lt_size ha;have lb:b<s.heap.objs.size:=Heap.lt_size hob;refine e9 (e9 (a9o S hn nd λh1 es1 ep1 t1 m1 d1 k1 S1 z1 n1 e1 l1=>?_));have So1:SO kd h1 b eo epo to mo:=So.at λo e=>k1 b o e;rw[if_pos (by simpa using Ne.symm hab)]
 show wpAny _ _ (fV [Value.ref s.heap.objs.size] (fv.Frozenset.updateFrom _ s.heap.objs.size (.ref b)) >>= _) _ _ _
 refine e9 (fI ?_);unfold fv.Frozenset.updateFrom;refine e9 (a4E So1 ?_);rw[if_pos rfl]
 show wpAny _ _ (fv.Frozenset.merge _ s.heap.objs.size b) _ _ _
 unfold fv.Frozenset.merge;refine e9 (iY (k1 b _ hob) hbd So.fit ?_);refine a38 (be lb) (λ{s' Q'} S' q=>?_) S1 So1 (by omega) hm n1 ndo z1 λh2 es2 ep2 t2 m2 d2 sb S2 z2 n2 e2 l2=>fc (fc ⟨_,rfl,nofun,?_⟩)
 ·unfold fv.Frozenset.unchanged;obtain⟨o',ho',hx',hd'⟩:=S'.at_;refine e9 (iY ho' hd' S'.fit ?_);rw[if_neg (by simp)];exact fc q
 ·exact h h2 m2 d2 (λc o e=>sb.extBut c o (ao (Heap.lt_size e)) (k1 c o e)) ⟨_,_,_,S2⟩ n2 (λx=>by rw[e2,e1]) (by omega)
end
section
variable{prog:fq}{w:World}{A:Around}{E:Value->Shared->Prop}{s:Shared}{a d:Addr}{K:Type}[DecidableEq K]{kd:KeyKind prog w K}{es0:Array jd}{epd:Nat}{od:Obj}{ks:List K}{k0:K}
theorem a7W(hda:d≠a)(dd:od.data=.dict es0 epd)(hl:es0.size=ks.length)(hb:ks.length+1<fS)
  (he:∀(i:Nat) e,es0[i]?=some e->∃k,ks[i]?=some k/\kd.is k e.key=true/\e.hash=kd.hash k/\e.key.scannable=true) {m m2:String}
  {f:Nat->PUnit->Sem (ForInStep PUnit)}(hf:∀i r,f i r=(do
   let es <- dictEntries d
   match es[i]? with
   |some e=>do
    let _ <- fV [e.key] (iQ a e.key e.hash)
    let q <- dictEpoch d
    if (q != epd)=true then do
     gx m
     pure (ForInStep.yield PUnit.unit)
    else pure (ForInStep.yield PUnit.unit)
   |none=>do
    gx m2
    pure (ForInStep.yield PUnit.unit))) :
  ∀(n i:Nat)(s:Shared)(ms:List K)(Q:PUnit->Shared->Prop),i+n=ks.length->s.heap.get? d=some od->SI kd s.heap a ms->Met (λi=>ks.getD i k0) i ms ->
   (∀h' ms',Heap.SameBut a s.heap h'->SI kd h' a ms'->Met (λi=>ks.getD i k0) ks.length ms'->Q ⟨⟩ { s with heap:=h' })->wpAny (model prog w) A (forIn (List.range' i n) PUnit.unit f) Q E s
 |0,i,s,ms,Q,hi,_,S,M,h=>by
  have:i=ks.length:=hi
  subst this;exact fc (h s.heap ms (Heap.SameBut.refl ..) S M)
 |n+1,i,s,ms,Q,hi,g,S,M,h=>by
  have hi':i<es0.size:=by omega
  obtain⟨k,ek,hk,hh,hs⟩:=he i _ (bo hi');rw[List.range'_succ,b6,hf];refine e9 (e9 (wpAny_dictEntries g dd ?_));rw[bo hi'];obtain⟨es,ep,t,S'⟩:=S;refine e9 (fI ?_);rw[hh];refine a4z hk hs S' (by have:=M.2.1;omega) λh1 m1 bb sb S1 p=>?_;have g1:h1.get? d=some od:=sb.extBut d od hda g;refine e9 (wpAny_dictEpoch g1 dd ?_);rw[if_neg (by simp)];have ev:ks.getD i k0=k:=by rw[bO,ek];rfl
  exact fc (a7W hda dd hl hb he hf n (i+1) _ m1 Q (by omega) g1 S1 (M.step (by rw[ev];exact p)) λh2 m2 sb2 S2 M2=>h h2 m2 (sb.trans sb2) S2 M2)
set_option maxHeartbeats 3200000 in
def a4F{u:Value}{T:Shared->Prop}{Q:Value->Shared->Prop}
  (hi:wpAny (model prog w) A.in1.in1 (fv.«set.__init__» ⟨[.ref s.heap.objs.size,u],[]⟩) (λfin s2=>fin=.done (.ret .none)/\T s2) E { s with heap:=s.heap.push (a0j w) }) (h:∀s2,T s2->Q (.ref s.heap.objs.size) s2) :
  wpAny (model prog w) A (call (.type "set") [u]) Q E s:=by
 obtain⟨mc,mt,mro⟩:=PySem.F.called_set.mro;have md:=PySem.F.called_set.made;have sb:=PySem.F.called_set.sub;refine iH (js ?_)
 show wpAny _ _ (callAny (.type "set") _) _ _ _
 refine fc ⟨Code.quiet_builtin _ (by decide +kernel),gQ PySem.F.entry_type_call ?_⟩;rw[Around.under_plain (weight_type_call_type "set" [u] []) rfl];have nt:=PySem.F.called_set.notType;have cc:=PySem.F.called_set.canCreate;have tc:=PySem.F.typeCall_set_1 u
 repeat (any_goals (first |assumption |wp_step))
 refine gn (a7o (w:=w) u (E:=E) (Q:=λobj s1=>obj=.ref s.heap.objs.size/\s1={ s with heap:=s.heap.push (a0j w) }) ⟨rfl,rfl⟩) λr s1 hr=>?_;cases r with
 |error e=>exact hr
 |ok fl=>
  cases fl with
  |ret obj=>
   obtain⟨rfl,rfl⟩:=hr;have gS:(s.heap.push (a0j w)).get? s.heap.objs.size=some (a0j w):=Heap.get?_push_size _ rfl;have tS:Shared.TypeIs { s with heap:=s.heap.push (a0j w) } (.ref s.heap.objs.size) "set":=⟨_,gS,rfl⟩;have li:=PySem.F.called_set.init.lookup;have bi:=PySem.F.called_set.init.bind (.ref s.heap.objs.size)
   repeat (any_goals (first |assumption |wp_step))
   refine gn (codeAny_call_builtin (R:=wants (λr s2=>r=.none/\T s2) E) PySem.F.called_set.init.plain PySem.F.entry_set_init (check_set_init_1 tS (fD hi (λfin s2 q=>?_) λ_ _ q=>q))) λr2 s2 hr2=>?_
   ·obtain⟨rfl,q⟩:=q;exact⟨rfl,q⟩
   ·cases r2 with
    |error e=>exact hr2
    |ok f2=>
     cases f2 with
     |ret r=>
      obtain⟨rfl,q⟩:=hr2
      repeat (any_goals (first |assumption |wp_step))
      exact h _ q
     |_=>exact hr2.elim
  |_=>exact hr.elim
def call_setD{Q:Value->Shared->Prop}(g:s.heap.get? d=some od)(hx:od.ExactDict)(dd:od.data=.dict es0 epd)(hsm:d≠fO)(hl:es0.size=ks.length)(hb:ks.length<=4)
  (he:∀(i:Nat) e,es0[i]?=some e->∃k,ks[i]?=some k/\kd.is k e.key=true/\e.hash=kd.hash k/\e.key.scannable=true)
  (h:∀(h':Heap)(ms:List K),SI kd h' s.heap.objs.size ms->Met (λi=>ks.getD i k0) ks.length ms->(∀b o,s.heap.get? b=some o->h'.get? b=some o)->Q (.ref s.heap.objs.size) { s with heap:=h' }) :
  wpAny (model prog w) A (call (.type "set") [.ref d]) Q E s:=by
 have gS:(s.heap.push (a0j w)).get? s.heap.objs.size=some (a0j w):=Heap.get?_push_size _ rfl;have g':(s.heap.push (a0j w)).get? d=some od:=Heap.get?_push_of_some _ g;have ld:=Heap.lt_size g;refine a4F (T:=λs2=>∃h' ms,s2={ s with heap:=h' }/\SI kd h' s.heap.objs.size ms/\Met (λi=>ks.getD i k0) ks.length ms/\∀b o,s.heap.get? b=some o->h'.get? b=some o) ?_ λs2 q=>by
  obtain⟨h',ms,rfl,S,M,k⟩:=q;exact h h' ms S M k
 obtain⟨oc,ox,ob,osl⟩:=od;obtain⟨x1,x2,x3⟩:=hx;simp only at dd x1 x2 x3;subst dd x1;have s1:=PySem.F.sub_dict_set;have s2:=PySem.F.sub_dict_frozenset;have ne:(Value.type "dict"==Value.type "dict")=true:=by decide
 have nm:(d==fO)=false:=by simpa using hsm
 unfold fv.«set.__init__» noKeywords fv.Frozenset.updateFrom
 wp_walk
 have rf:(fe.fresh 0 0 (!byT w)).roomFor es0.size=none:=by
  unfold fe.roomFor;exact if_neg (by simp[fe.fresh,fe.fill];omega)
 dsimp only;rw[rf];refine fc (e9 (wpAny_dictEntries g' rfl ?_));have sb4:4096=scanBound:=rfl;rw[Std.Legacy.Range.forIn_eq_forIn_range'];refine e9 ?_;refine a7W (kd:=kd) (ks:=ks) (k0:=k0) (a:=s.heap.objs.size) (d:=d) (epd:=epd) (m:=toString "set.__init__"++toString ":changed-during-callback") (m2:="internal:set-from-dict") (ao ld) rfl hl (by omega) he ?_ _ 0 _ [] _ ?_ g' (SI.fresh gS) ⟨.nil,af _,λx=>by simp⟩ λh' ms sb S M=>?_
 ·intro i r;refine congrArg _ (funext λes=>?_);cases es[i]?<;>rfl
 ·simp[Std.Legacy.Range.size,hl]
 ·refine fc (fc ⟨rfl,h',ms,rfl,S,M,λb o e=>?_⟩);exact sb.extBut b o (ao (Heap.lt_size e)) (Heap.get?_push_of_some _ e)
end
end SetW
namespace L2
open PySem PySem.Spec PyProof.Rows
section
variable{X:Cx}
theorem b4n{P:fq}{w:World}:∀{es:List jd}{vs:List (Key×Value)}{ns:List Str},Pairs (a0w P w) es vs->(∀e∈es,∃k,(a0w P w).is k e.key=true/\e.hash=(a0w P w).hash k)->vs.map (·.1)=ns.map .inr ->
  ∀(i:Nat) e,es[i]?=some e->∃k,ns[i]?=some k/\(PySem.strKind P w).is k e.key=true/\e.hash=(PySem.strKind P w).hash k/\e.key.scannable=true
 |_,_,ns,.nil,_,_,i,e,h=>by simp at h
 |_,_,[],.cons ..,_,hn,i,e,h=>by cases hn
 |e0::es,kv::vs,n::ns,.cons h1 h2 h3,hk,hn,i,e,h=>by
  cases i with
  |succ i=>exact b4n h3 (λe he=>hk e (.tail _ he)) (by simpa using (bh.inj hn).2) i e (by simpa using h)
  |zero=>
   cases h;have hn:kv.1=.inr n:=(bh.inj hn).1;rw[hn]at h1;obtain⟨k,a1,a2⟩:=hk e0 (.head _)
   have:=(a0w P w).inj _ _ _ a1 h1
   subst this;rcases a0o (k:=.inr n) h1 with ⟨_,_,z,_⟩ |⟨x,t,z,q⟩ |⟨z,_⟩
   ·cases z
   ·cases z;exact⟨n,rfl,by rw[q];exact strKind_is ..,a2,by rw[q];rfl⟩
   ·cases z
def b1F(X:Cx):List V->Hp->VK->Prop:=λxs H Q=>∃(p:Addr)(kvs:List (Key×V))(ns:List Str),xs=[.ref p]/\(H p=some (.dK kvs)\/∃o,H p=some (.frz o (.dK kvs)))/\kvs.map (·.1)=ns.map .inr/\ns.length<=4 /\
 ∀(t:Addr)(ms:List Str)(o:Obj),H t=none->ms.Nodup->(∀x,x∈ms↔x∈ns)->ms.length<=ns.length->Q (.ref t) (upd H t (.frz o (setS X t ms)))
def a2E:CallR X (.type "set") (b1F X):=by
 intro pins s σ H xs us Q I r h;obtain⟨p,kvs,ns,rfl,hq,hn,hz,q⟩:=h;obtain⟨u,rfl,rx⟩:=a2c r;cases rx;obtain⟨_,hsm,vs,kv,od,es,ep,g,hx,hd,ks,pr,_⟩:kvs.length<=fi/\(p==fO)=false/\∃vs,KV kvs vs/\s.heap.DictOf (a0w X.prog X.w) p vs:=by
  rcases hq with e |⟨o,e⟩
  ·exact I.hok p _ e
  ·exact (I.hok p _ e).2
 have kn:∀{kvs:List (Key×V)}{vs:List (Key×Value)},KV kvs vs->vs.map (·.1)=kvs.map (·.1):=λ{kvs}=>by
  induction kvs with
  |nil=>intro vs h;cases h;rfl
  |cons p kvs ih=>intro vs h;cases h with |cons h1 h2=>rw[am,am,ih h2,h1.1]
 have vn:=(kn kv).trans hn;have ln:es.size=ns.length:=by
  have q1:=pr.length;have q2:=congrArg bA vn;simp at q1 q2;omega
 refine SetW.call_setD (kd:=PySem.strKind X.prog X.w) (ks:=ns) (k0:=Str.ofString "") g hx hd (by simpa using hsm) ln hz (λi e h=>b4n pr (λe he=>ks e (by simpa using he)) vn i e (by simpa using h)) λg' ms S M k=>?_;obtain⟨o,e⟩:∃o,g'.get? s.heap.objs.size=some o:=let ⟨_,_,_,S'⟩:=S;let ⟨o,e,_⟩:=S'.at_;⟨o,e⟩
 have I1:Inv X pins σ (upd H s.heap.objs.size (.frz o (setS X s.heap.objs.size ms))) { s with heap:=g' }:=
  I.laid (t':=s.toks) k (af _) (show ObjOk X.prog X.w _ g' _ (.frz o (setS X s.heap.objs.size ms)) from ⟨e,S,⟨o,e⟩,λ_ _ x y=>x.at y⟩)
 exact⟨.ref s.heap.objs.size,_,I1,rfl,q _ ms o (I.hok.fresh (af _)) M.1 (metK M) M.2.1⟩
def rOrS(X:Cx):R2:=λx y H Q=>∃(p q:Addr)(o o':Obj)(ms mo:List Str),x=.ref p/\y=.ref q/\p≠q/\H p=some (.frz o (setS X p ms))/\H q=some (.frz o' (setS X q mo))/\ms.length<=4/\mo.length<=4/\ms.Nodup/\mo.Nodup /\
 ∀(t:Addr)(ks:List Str),H t=none->ks.Nodup->(∀x,x∈ks↔x∈ms\/x∈mo)->ks.length<=ms.length+mo.length->Q (.ref t) (upd H t (setS X t ks))
def b4o:OpR X (fE .BitOr) (rOrS X):=by
 intro pins s σ H x y v u Q I rx ry h;obtain⟨p,r,o,o',ms,mo,rfl,rfl,ne,hp,hr,z1,z2,n1,n2,q⟩:=h;cases rx;cases ry;obtain⟨es,ep,t,S⟩:SetW.SI (PySem.strKind X.prog X.w) s.heap p ms:=(I.hok p _ hp).2.1;obtain⟨eo,epo,to,So⟩:SetW.SI (PySem.strKind X.prog X.w) s.heap r mo:=(I.hok r _ hr).2.1;refine SetW.or_set ne S So z1 z2 n1 n2 λg ks d k S1 n e l=>?_;have I1:Inv X pins σ (upd H s.heap.objs.size (setS X s.heap.objs.size ks)) { s with heap:=g,drawn:=d }:=
  (I.drew d).laid (t':=s.toks) k (af _) (show ObjOk X.prog X.w _ g _ (setS X s.heap.objs.size ks) from ⟨S1,let ⟨_,_,_,S'⟩:=S1;let ⟨o,e,_⟩:=S'.at_;⟨o,e⟩,λ_ _ x y=>x.at y⟩)
 exact⟨.ref s.heap.objs.size,_,I1,rfl,q _ ks (I.hok.fresh (af _)) n e l⟩
end
end L2
namespace L3
open PySem PySem.Spec PyProof.Rows L2
section
variable{X:Cx}{a b:Expr}{ta tb:A3}{x y y2:Str}{p p2 p3 pos pos2 pos3 pos4:Pos}
def KeysS(G:Hq)(ws:List Z)(ns:List Str):Prop:=∃(p:Addr)(kvs:List (Key×Z)),ws=[.ref p]/\(G p=some (.dK kvs)\/G p=some (.dF kvs))/\kvs.map (·.1)=ns.map .inr/\ns.length<=4
def uSSU(ta tb:A3):E3:=fun σ G R=>ta σ G λws G1=>∃ns,KeysS G1 ws ns/\tb σ G1 λws' G2=>∃ns',KeysS G2 ws' ns' /\
 ∀(t:Addr)(ks:List Str),G2 t=none->ib ks=true->ks.Nodup->(∀x,x∈ks↔x∈ns\/x∈ns')->ks.length<=8->R (.ref t) (put G2 t (.lst (ks.map Z.str)))
def KeysS.low{K:Fg}{G:Hq}{H:Hp}{ws:List Z}{ns:List Str}{vs:List V}(h:KeysS G ws ns)(rs:Reps K H ws vs)(hg:RH K G H) :
  ∃(p:Addr)(kvs:List (Key×V)),vs=[.ref p]/\(H p=some (.dK kvs)\/∃o,H p=some (.frz o (.dK kvs)))/\kvs.map (·.1)=ns.map .inr:=by
 obtain⟨p,kvs,rfl,e,hn,_⟩:=h;obtain⟨v,rfl,r⟩:=rs.one;rw[a0p]at r;rcases e with e |e
 ·obtain⟨us,e',h1,_⟩:=hg _ _ e;exact⟨p,us,by rw[r],.inl e',by rw[h1,hn]⟩
 ·obtain⟨o,us,e',h1,_⟩:=hg _ _ e;exact⟨p,us,by rw[r],.inr ⟨o,e'⟩,by rw[h1,hn]⟩
def b6d(hc:X.calm=true)(hg:Gl X x)(hm:X.mg x=none)(hv:fJ x=some (.builtin "sorted"))(hg2:Gl X y)(hm2:X.mg y=none)(hv2:fJ y=some (.type "set"))(ha:QA X [a] ta)(hb:QA X [b] tb)
  (he:fu [a] X.env=(false,eval a X.env)::fu [] X.env) (hpl:(backTo pos2 (fu [] X.env)).any (·.1)=false)
  (he2:fu [b] X.env=(false,eval b X.env)::fu [] X.env) (hpl2:(backTo pos3 (fu [] X.env)).any (·.1)=false)
  (hn:x≠"__name__":=by decide) (hdb:(x==("__debug__":Str))=false:=by decide) (hn2:y≠"__name__":=by decide) (hdb2:(y==("__debug__":Str))=false:=by decide) :
  QE X (.Call (.Name x p) [.BinOp (.Call (.Name y p2) [a] [] pos2) .BitOr (.Call (.Name y p3) [b] [] pos3) pos4] [] pos) (uSSU ta tb):=⟨a0O (a2h (a1M hc) hg hm hv (a2q (b2q b4o (a1c a2E hg2 hm2 hv2 ha.p hn2 hdb2 he hpl) (a1c a2E hg2 hm2 hv2 hb.p hn2 hdb2 he2 hpl2)) a3J rfl) hn hdb rfl rfl) fun τ H Q hx=>hx.un fun σ G R hs hg h up=>
 ⟨σ,G,_,hs,hg,h,λws G1 vs H1 h1 rs hg1 t1=>by
  obtain⟨ns,k1,h1⟩:=h1;obtain⟨p,kvs,rfl,e,hn⟩:=k1.low rs hg1;obtain⟨_,_,_,_,_,z1⟩:=k1;refine⟨p,kvs,ns,rfl,e,hn,z1,λt ms o ht nd me ml=>?_⟩;have t2:TK X.K H1 (L2.upd H1 t (.frz o (setS X t ms))):=.new ht;refine⟨σ,G1,_,hs.mono (t1.trans t2),hg1.hid ht,h1,λws' G2 vs' H2 h2 rs' hg2 t3=>?_⟩;obtain⟨ns',k2,h2⟩:=h2;obtain⟨p',kvs',rfl,e',hn'⟩:=k2.low rs' hg2;obtain⟨_,_,_,_,_,z2⟩:=k2;have ft:=t3.frd t o _ a0e;refine⟨p',kvs',ns',rfl,e',hn',z2,λt' ms' o' ht' nd' me' ml'=>?_⟩;have tt:t≠t':=λz=>by rw[z]at ft;rw[ft]at ht';cases ht'
  refine⟨t,t',o,o',ms,ms',rfl,rfl,tt,by rw[a0d tt];exact ft,a0e,by omega,by omega,nd,nd',λu ks hu n3 m3 l3=>⟨u,ks,rfl,a0e,by omega,λu2 ks2 hu2 pm so=>?_⟩⟩;have g3:=(hg2.hid (u:=.frz o' (setS X t' ms')) ht').hid (u:=setS X u ks) hu;refine up _ _ _ _ (h2 u2 ks2 (g3.out hu2) so (pm.nodup_iff.mpr n3) (λx=>by rw[pm.mem_iff,m3,me,me']) (by rw[pm.length_eq];omega)) (by rw[a0p]) (g3.set (o:=.lst (ks2.map Z.str)) (.new hu2) ⟨_,a0e,a24 ks2⟩) (t1.trans (t2.trans (t3.trans ((TK.new ht').trans ((TK.new hu).trans (.new hu2))))))⟩⟩
end
end L3
namespace L2
open PySem PySem.Spec PyProof.Rows
end L2
namespace L3
open PySem PySem.Spec PyProof.Rows L2
noncomputable def a7X(K:Fg)(f P0:Addr):Bool:=match K.lookup f with
 |some ⟨_,_,.func fd,_⟩=>(match fd.code with
  |.ref c=>PySem.W.codeHdIn K c P0
  |_=>false)
 |_=>false
section
variable{P:fq}{w:World}{K:Fg}{mg:Str->Option Value}{base:Heap}{x q:Str}{st:Stmt}{f C P0:Addr}{d:fK}{N ps:List Str}{k n:Nat}
def a5t(F:Fun K x q st f d)(h:a7X K f P0=true):∃c,d.code=.ref c/\PySem.W.codeHdIn K c P0=true:=by
 obtain⟨oc,od,kV,doc,pm,an,cdv,ct,osl,rfl,lk,hcd⟩:=F.ex;unfold a7X at h;rw[lk]at h
 match cdv,h with
 |.ref c,h=>exact⟨c,rfl,h⟩
def fnL{sp:P3}(F:Fun K x q st f d)(hL:a7X K f P0=true)(S:FnScope N ps (a0g st))(len:∀ws G R,sp ws G R->ws.length=ps.length)
  (b:∀(c:Addr)(A:Around)(outer:List Env)(s:Shared)(H:Hp)(E:XK)(ws:List Z)(G:Hq)(R:K3),PySem.W.codeHdIn K c P0=true->Room k (A.deeper (envOfC q (a0g st) s.heap.objs.size f (.ref c)))->N.Nodup->sp ws G R ->
   ∃t,QSs (cxOf CX0 P w K mg base N q (a0g st) f (.ref c) A outer s H E).nox (a0L st) t/\t (λ_ G'=>R .non G') R (λ_ _=>False) (λ_ _=>False) (a1f N ws) G):FnOk P w K mg base CX0 (k+1) f d ps (lowP K sp):=by
 obtain⟨c,ec,hc⟩:=a5t F hL;obtain⟨oc,od,kV,doc,pm,an,cdv,ct,osl,rfl,lk,hcd⟩:=F.ex;have ec:cdv=.ref c:=ec;subst ec;refine b2C lk hcd S (λvs H Q E ⟨ws,G,R,rs,hg,h,up⟩=>by rw[<- rs.length];exact len _ _ _ h) ?_;rintro A outer s H vs Q E hr ⟨ws,G,R,rs,hg,h,up⟩;obtain⟨t,ht,hq⟩:=b c A outer s H E ws G R hc hr S.nd h;exact⟨_,PSs.nox ht.p,a1f N ws,G,_,R,_,_,.start rs,hg,hq,fun σ' G' τ' H' h' hs' hg' t'=>up _ _ _ _ h' (by rw[a0z]) hg' t',up,λ_ _ _ _ h _ _ _=>h.elim,λ_ _ _ _ h _ _ _=>h.elim⟩
def FXL(K:Fg)(x:Str)(P0:Addr):Prop:=∃f,NsG K x (some (.ref f))/\a7X K f P0=true
def fnc0{sp:P3}(n:Nat)(B:Br K mg)(F:FX K x st)(h:∀ws G R,¬ sp ws G R)(pl:Pl x x st (N.take n):=by intro _ _ _ _ _ _;(repeat refine lnS λ_=>?_);exact ln0 rfl):Cal P w K mg base CX0 k x (lowP K sp):=by
 obtain⟨f,d,e,F⟩:=F;exact⟨⟨f,⟨d,_,a7H h,F.binds pl⟩,B _ _ e,F.kp⟩⟩
def fncL{sp:P3}(n:Nat)(B:Br K mg)(F:FX K x st)(L:FXL K x P0)
  (b:∀(f c:Addr)(A:Around)(outer:List Env)(s:Shared)(H:Hp)(E:XK)(ws:List Z)(G:Hq)(R:K3),PySem.W.codeHdIn K c P0=true->Room k (A.deeper (envOfC x (a0g st) s.heap.objs.size f (.ref c)))->N.Nodup->sp ws G R ->
   ∃t,QSs (cxOf CX0 P w K mg base N x (a0g st) f (.ref c) A outer s H E).nox (a0L st) t/\t (λ_ G'=>R .non G') R (λ_ _=>False) (λ_ _=>False) (a1f N ws) G)
  (len:∀ws G R,sp ws G R->ws.length=(N.take n).length) (S:FnScope N (N.take n) (a0g st)) (pl:Pl x x st (N.take n)):Cal P w K mg base CX0 (k+1) x (lowP K sp):=by
 obtain⟨f,d,e,F⟩:=F;obtain⟨f',e',hL⟩:=L;cases (show some (some (Value.ref f))=some (some (Value.ref f')) from e.symm.trans e');exact⟨⟨f,⟨d,_,fnL F hL S len λc=>b f c,F.binds pl⟩,B _ _ e,F.kp⟩⟩
end
section
variable{X:Cx}{e:Expr}{es:List Expr}{t:A3}{x:Str}{k j:Nat}{C:Addr}{p pos:Pos}{sp:P3}
def q_sk{a body:Expr}{te tb:E3}{pN kp lpos:Pos}{params:gM}{scope:Scope}{P0 c:Addr}{q y:Str}{N:List Str}(hm:X.mg "sorted"=none)(hr:Room j X.A)(ha:QE X a te)(hc:X.env.code=.ref c)(hd:PySem.W.codeHdIn X.K c P0=true)(gP:fF≠P0)(bi:X.base.BuiltinsAt X.mg P0)
  (ht:∀(f c':Addr)(A:Around)(outer:List Env)(s:Shared)(H:Hp),Room k (A.deeper (envOfC q scope s.heap.objs.size f (.ref c')))->N.Nodup->QE (cxOf CX0 X.prog X.w X.K X.mg X.base N q scope f (.ref c') A outer s H E0).nox body tb)
  (sc:FnScope N [y] scope) (qn:q=X.env.qual++"<lambda>") (df:jB params X.env=([],[])) (cl:im scope X.env=pure [])
  (bd:∀(pm ctv:Value)(c':Addr)(us:List Value),us.length=1->g9 (PySem.W.kla_fn "<lambda>" q params body scope [] pm (.ref c') ctv) ⟨us,[]⟩=pure ([y].zip us)) (hk:k+3<=j:=by decide) (hg:Gl X "sorted":=by rfl) (hn:nst a=true:=by rfl) :
  QE X (.Call (.Name "sorted" pN) [a] [⟨some "key",.Lambda params body scope lpos,kp⟩] pos) (a7Q P0 lpos q N te tb):=
 b1B hg hm (hr.mono hk) ⟨sc,qn,df,cl,⟨c,hc,hd⟩,gP,bi,bd⟩ ha (λf c' A outer s H r=>ht f c' A outer s H r sc.nd) (se_ hn)
end
def a57{K:Fg}{H:Hp}{E:XK}{P0:Addr}{lp:Pos}{q:Str}{sp:P3}(a:Addr)(ns:List Int)(f:Fz K H a (ns.map V.int))(hT:H P0=some (.tbl #[]))(h:sp [.scr a ns] (put (λ_=>none) P0 (.tab lp q)) λw _=>w=.bl true):lowP K sp [.ref a] H (λv _=>v=.bl true) E:=
 ⟨[.scr a ns],put (λ_=>none) P0 (.tab lp q),λw _=>w=.bl true,.cons (by rw[a1X];exact⟨rfl,f⟩) .nil,λb o e=>(by
  by_cases hb:b=P0
  ·subst hb;rw[a0a]at e;cases e;exact⟨#[],hT,.inl rfl⟩
  ·rw[a0q hb]at e;cases e),h,λw G v H' e r _ _=>by subst e;rw[a0v]at r;exact r⟩
def Fz.ofT{K:Fg}{H:Hp}{a P0:Addr}{xs:List V}(hO:a9j P0 H)(h:SqL K H a xs):Fz K H a xs:=by
 rcases h with (h |h) |h
 ·by_cases hb:a=P0
  ·rw[hb,hO.1]at h;cases h
  ·rcases hO.2 a hb with z |⟨o,ys,z⟩
   ·rw[h]at z;cases z
   ·rw[h]at z;cases z
 ·exact .inl h
 ·exact .inr h
end L3
set_option maxHeartbeats 4000000
namespace L3
set_option genInjectivity false in
inductive Ex4 {α0 α1 α2 α3:Type}(p:α0->α1->α2->α3->Prop):Prop
 |mk (a0:α0) (a1:α1) (a2:α2) (a3:α3) (h:p a0 a1 a2 a3):Ex4 p
set_option genInjectivity false in
inductive Ex5 {α0 α1 α2 α3 α4:Type}(p:α0->α1->α2->α3->α4->Prop):Prop
 |mk (a0:α0) (a1:α1) (a2:α2) (a3:α3) (a4:α4) (h:p a0 a1 a2 a3 a4):Ex5 p
set_option genInjectivity false in
inductive Ex6 {α0 α1 α2 α3 α4 α5:Type}(p:α0->α1->α2->α3->α4->α5->Prop):Prop
 |mk (a0:α0) (a1:α1) (a2:α2) (a3:α3) (a4:α4) (a5:α5) (h:p a0 a1 a2 a3 a4 a5):Ex6 p
set_option genInjectivity false in
inductive Ex7 {α0 α1 α2 α3 α4 α5 α6:Type}(p:α0->α1->α2->α3->α4->α5->α6->Prop):Prop
 |mk (a0:α0) (a1:α1) (a2:α2) (a3:α3) (a4:α4) (a5:α5) (a6:α6) (h:p a0 a1 a2 a3 a4 a5 a6):Ex7 p
set_option genInjectivity false in
inductive Ex8 {α0 α1 α2 α3 α4 α5 α6 α7:Type}(p:α0->α1->α2->α3->α4->α5->α6->α7->Prop):Prop
 |mk (a0:α0) (a1:α1) (a2:α2) (a3:α3) (a4:α4) (a5:α5) (a6:α6) (a7:α7) (h:p a0 a1 a2 a3 a4 a5 a6 a7):Ex8 p
set_option genInjectivity false in
inductive Ex9 {α0 α1 α2 α3 α4 α5 α6 α7 α8:Type}(p:α0->α1->α2->α3->α4->α5->α6->α7->α8->Prop):Prop
 |mk (a0:α0) (a1:α1) (a2:α2) (a3:α3) (a4:α4) (a5:α5) (a6:α6) (a7:α7) (a8:α8) (h:p a0 a1 a2 a3 a4 a5 a6 a7 a8):Ex9 p
end L3
namespace Lw
open PySem L2 L3
noncomputable def top(i:Nat):Stmt:=PySem.Challenge.pw_twotimes_k63_turned_and_joined.main.body.getD i (.Pass ⟨0,0,0,0⟩)
def b4p(hr:Room k A):A.units+66<cLine:=by have:=hr.un;omega
noncomputable def tF:List (Str×Nat):=("bounds_of",2)::("is_over",4)::("worths_in",3)::("with_alike_joined",5)::("laid_together",1)::("turned",7)::("pairs_by_key",10)::("unlike_of",9)::("pairs_joined",11)::("joined",8)::("_law_cell_at",13)::("_law_stream",14)::("_law_take",15)::("_law_name",16)::("_law_names",17)::("_law_stretch",18)::("_law_worth_at",19)::("_law_bounds",20)::("_law_same",22)::("_law_tellings",23)::("_law_puts",24)::("_law_keys",25)::("_law_due",26)::("_law_right",27)::("law",28)::[]
noncomputable def tB:List Str:=["sorted","set","len","zip","range","reversed","isinstance","str","list","tuple","int","bool"]
set_option genInjectivity false in
structure Ad where
 tP:Addr
abbrev lamO:O:=.tab ⟨51,55,51,79⟩ "pairs_by_key.<locals>.<lambda>"
structure Txt (K:Fg) (mg:Str->Option Value) (base:Heap) (a:Ad):Prop where
 br:Br K mg
 f:AllF K top tF
 b0:AllB K tB
 gP:fF≠a.tP
 bi:base.BuiltinsAt mg a.tP
 lam:FXL K "pairs_by_key" a.tP
def Txt.b{K:Fg}{mg:Str->Option Value}{base:Heap}{a:Ad}(T:Txt K mg base a)(i:Nat){x:Str}(h:tB[i]?=some x:=by rfl):mg x=none:=T.br _ _ (T.b0 i x h)
set_option hygiene false in
local macro_rules | `(tactic| walk_at "in")=>`(tactic| (intro f cdv A outer s H E ws G R hr nd h;have hu:=b4p hr))
set_option hygiene false in
local macro_rules | `(tactic| ac_rfl)=>`(tactic| repeat' first
 | ((with_reducible show QE _ _ _);first | ((with_reducible show QE _ (.Name _ _) _);first | exact qw (by first | exact cxN | exact cxcN | exact cxN') (by with_reducible first | exact at_0 | exact at_1 | exact at_2 | exact at_3 | exact at_4 | exact at_5 | exact at_6 | exact at_7 | exact at_8 | exact at_9 | exact b4h | exact b4i | exact b4j | exact b4k) | exact q_ty (a2p (v:=.ty "str") rfl (T.b 7) rfl rfl) | exact q_ty (a2p (v:=.ty "list") rfl (T.b 8) rfl rfl) | exact q_ty (a2p (v:=.ty "tuple") rfl (T.b 9) rfl rfl) | exact q_ty (a2p (v:=.ty "int") rfl (T.b 10) rfl rfl) | exact q_ty (a2p (v:=.ty "bool") rfl (T.b 11) rfl rfl)) | exact b0M | exact b5f | exact b5g | exact q_bl | refine' b0Q x_sl ?_ ?_ ?_ | refine' q_ix x_ix ?_ ?_ (λ_ _=>rfl) | apply q_op | ((with_reducible show QE _ (.Call (.Name "len" _) _ _ _) _);refine' q_B b5y (T.b 2) ?_ (hv:=PySem.boot_len)) | ((with_reducible show QE _ (.Call (.Name "isinstance" _) _ _ _) _);refine' q_B b5z (T.b 6) ?_) | ((with_reducible show QE _ (.Call (.Name "list" _) _ _ _) _);refine' q_Y b3k (T.b 8) ?_) | refine' q_c (by walk_at "c") hr ?_ | apply b5m | apply b5n | ((with_reducible show QE _ (.Call (.Attribute _ "append" _) _ _ _) _);refine' q_bm PySem.F.plainAttrs_list PySem.F.slot_list_append PySem.F.type_list_append a8L ?_ ?_) | ((with_reducible show QE _ (.Call (.Attribute _ "extend" _) _ _ _) _);refine' q_bm PySem.F.plainAttrs_list PySem.F.slot_list_extend PySem.F.type_list_extend a8M ?_ ?_) | ((with_reducible show QE _ (.Call (.Attribute _ "find" _) _ _ _) _);refine' q_bm PySem.F.plainAttrs_str PySem.F.slot_str_find PySem.F.type_str_find b3X ?_ ?_) | ((with_reducible show QE _ (.Call (.Attribute _ "get" _) _ _ _) _);first | refine' q_bm PySem.F.plainAttrs_dict PySem.F.slot_dict_get PySem.F.type_dict_get (b34 hu) ?_ ?_ | refine' q_bm PySem.F.plainAttrs_dict PySem.F.slot_dict_get PySem.F.type_dict_get (b1o hu) ?_ ?_) | ((with_reducible show QE _ (.Call (.Attribute _ "setdefault" _) _ _ _) _);refine' q_bm PySem.F.plainAttrs_dict PySem.F.slot_dict_setdefault PySem.F.type_dict_setdefault a35 ?_ ?_) | apply b2U | refine' b0N ?_ ?_ ?_ ?_ ?_ | apply b5j | refine' q_un b5x ?_ | apply b2Y | apply a9Q | apply b5i | apply q_if)
 | ((with_reducible show QA _ _ _);first | exact a2w | refine' q_k ?_ ?_)
 | ((with_reducible show OpQ _ _ _);first | ((with_reducible show OpQ _ (fE .Add) _);exact b5s) | ((with_reducible show OpQ _ (fz .Eq) _);exact (o_eq hu)) | ((with_reducible show OpQ _ (fE .FloorDiv) _);exact b3e) | ((with_reducible show OpQ _ (fz .Gt) _);exact o_gt) | ((with_reducible show OpQ _ (fz .In) _);exact (o_in hu)) | ((with_reducible show OpQ _ (fz .Is) _);exact o_is) | ((with_reducible show OpQ _ (fz .IsNot) _);exact b04) | ((with_reducible show OpQ _ (fz .Lt) _);exact o_lt) | ((with_reducible show OpQ _ (fz .LtE) _);exact o_le) | ((with_reducible show OpQ _ (fE .Mod) _);exact b5v) | ((with_reducible show OpQ _ (fE .Mult) _);exact b5u) | ((with_reducible show OpQ _ (fz .NotEq) _);exact (o_ne hu)) | ((with_reducible show OpQ _ (fE .Pow) _);exact b5w) | ((with_reducible show OpQ _ (fE .Sub) _);exact b5t) | ((with_reducible show OpQ _ (gE .Add) _);exact b3f))
 | ((with_reducible show gG _ _=_);first | exact a4Y _ | with_unfolding_all rfl)
 | ((with_reducible show QT _ _ _);first | apply a6W | refine' a8E ?_ ?_ ?_ ?_ ?_ | refine' QW.qt (e:=.BoolOp _ _ _) ?_ | apply a18 | refine' a3l (a:=.Call _ _ _ _) ?_ | refine' b5k ?_ (λ_=>rfl))
 | ((with_reducible show QW _ _ _);first | apply b2V | apply b5h | apply a6Y | apply q_or)
 | ((with_reducible show QO _ _ _);first | exact a8F | apply b21)
 | ((with_reducible show QI _ _ _ _);first | ((with_reducible show QI _ _ (.Call (.Name "range" _) _ _ _) _);first | refine' a5Q rfl (T.b 4) ?_) | apply a4s)
 | ((with_reducible show QP _ _ _);first | apply p_nm | refine' p_tp rfl ?_)
 | ((with_reducible show QPg _ _ _);first | exact b6c | apply b4g)
 | ((with_reducible show Nm _ _ _);exact nwI (by first | exact cxN | exact cxcN | exact cxN') (by with_reducible first | exact at_0 | exact at_1 | exact at_2 | exact at_3 | exact at_4 | exact at_5 | exact at_6 | exact at_7 | exact at_8 | exact at_9 | exact b4h | exact b4i | exact b4j | exact b4k) nd)
 | ((with_reducible show QS _ _ _);first | apply a4o | refine' z_st ?_ ?_ | refine' b29 ?_ | apply z_if | refine' b3c ?_ ?_ | refine' a2f fH.never rfl ?_ ?_ ?_ | apply z_au | exact b26 | exact b0W | exact b27 | exact b3a)
 | ((with_reducible show QSs _ _ _);first | exact a2G | apply a1t | apply a0c)
 | ((with_reducible show QIfs _ _ _);first | exact b0Z | apply b00)
 | ((with_reducible show Cal _ _ _ _ _ _ _ _ _);walk_at "c")
 | ((with_reducible show _<=_);decide))
local macro_rules | `(tactic| walk_at "r4")=>`(tactic| (intro _ _ _ _;ac_rfl))
set_option hygiene false in
local macro_rules | `(tactic| walk_at "r5")=>`(tactic| (intro _ _ _ _ nd;ac_rfl))
set_option hygiene false in
local macro_rules | `(tactic| walk_at "c")=>`(tactic| first | exact a2M T | exact a4c T | exact a2K T | exact a1b T | exact a1R T | exact a4S T | exact a17 T | exact a2O T | exact a15 T | exact a4U T | exact a6a T | exact a7Z T | exact b1G T | exact b1N T | exact a9B T | exact a6e T | exact a4L T | exact a79 T | exact a12 T | exact a4P T | exact b1Y T | exact b10 T | exact b4F T | exact a9K T)
def b6e (h:t σ G λws G1=>∃(p:Addr)(ns:List Int),ws=[.ref p]/\G1 p=some (.lst (ns.map Z.int))/\ns.length<=1000 /\
  ∀(t:Addr)(ks:List Int),G1 t=none->ks.Pairwise (·<·)->(∀x,x∈ks↔x∈ns)->ks.length<=ns.length->R (.ref t) (put G1 t (.lst (ks.map Z.int)))):uSS t σ G R:=h
def a39(t:Addr):P3:=λws G R=>∃b ns,ws=[.scr b ns]/\ns.length<=63/\G t=some lamO/\∀G',R (.bl true) G'
def a9q{b t:Addr}{ns:List Int}(hl:ns.length<=63):a39 t [.scr b ns] (put (λ_=>none) t lamO) λw _=>w=.bl true:=⟨_,_,rfl,hl,a0a,λ_=>rfl⟩
def lenK(h:Nat.ble n 1000=true):n<=sizeLine:=a9 (a0f (Nat.le_of_ble_eq_true h))
def a0C(h:n<=1000):n<=sizeLine:=a9 (a0f h)
def a58(x w:Int):Prop:=w=0\/(w=1/\0<=x/\x<536870909)
abbrev RowO(x w:Int):O:=.lst [.int x,.int w]
def RowAt(G:Hq)(r:Addr):Prop:=∃x w,G r=some (RowO x w)/\a58 x w
local macro_rules | `(tactic| walk_at "sd")=>`(tactic| first | assumption | (exact a0C (by first | decide | omega | (simp;done) | (simp;omega))) | (exact a0f (by first | decide | omega | (simp;done) | (simp;omega))) | decide | omega)
local macro_rules | `(tactic| walk_at "hp")=>`(tactic| first | assumption | exact a0a | (refine a0b ?_ (by assumption);walk_at "hp") | (refine Sm.get (by assumption) ?_;walk_at "hp"))
local macro_rules | `(tactic| walk_at "go1")=>`(tactic| with_reducible (first
 | apply b5H | refine b5A (by with_unfolding_all rfl) ?_ | apply i_c | apply i_op | apply i_un | apply b3m | apply i_chain | apply b5B | apply i_or | apply b5C | apply b3n | apply i_orV | apply b3o | apply i_if
 | apply b5D | apply i_truI | apply i_truB | apply i_sl | apply a8N | apply b3q | apply b5E | apply b3r | apply b5F | apply b5G | apply i_cb | apply b6e | apply i_bm0 | apply i_bm | apply b3s
 | apply b3t | apply b3u | apply b3v | apply i_retN | apply b5I | apply b5J | apply b5K | refine b5L (by with_unfolding_all rfl) ?_ | apply i_break | apply b3w | apply b3E | apply b5U | apply i_iL | apply i_iT | apply i_iS | apply b5V | apply i_iR2 | apply i_wkC | apply i_wkT | apply i_wkS | apply i_tt
 | apply b3x | apply i_I0 | apply b5M | apply i_CI | apply i_CS | apply b5N | apply i_isB | apply b3y | apply b5O | apply b3z | apply b5P | apply i_inS | apply b3B | apply i_nm | refine a02 (by with_unfolding_all rfl) ?_ | apply i_lenT | apply b3D | apply i_mm | apply b5S
 | apply ifT | apply ifF | apply ifNN | apply ifNI | apply ifNS | apply ifNU | apply ifMN | apply ifMI | apply ifMS | apply ifMU | refine a02 at0 ?_ | refine a02 at1 ?_ | refine a02 at2 ?_ | apply b3Y | apply b30 | apply i_iR3 | apply b31 | apply i_fldE | apply i_methE | apply i_makeE | apply i_fset | apply i_faug | apply i_disp | apply i_pcons | apply i_pnil | refine⟨_,rfl,?_⟩))
local macro_rules | `(tactic| walk_at "go")=>`(tactic| repeat walk_at "go1")
local macro_rules | `(tactic| symm)=>`(tactic| walk_at "go")
def a59:P3:=λws G R=>∃p ns k,ws=[.scr p ns,.int k]/\0<=k/\∀i,R (.int i) G
variable{P:fq}{w:World}{K:Fg}{mg:Str->Option Value}{base:Heap}{a:Ad}
set_option tactic.hygienic true in
def a6a(T:Txt K mg base a):Cal P w K mg base CX0 1 "_law_cell_at" (lowP K a59):=by
 refine fnc 2 (N:=["script","k"]) T.br (T.f 10 _ rfl) ?_;walk_at "in";refine⟨_,(by ac_rfl),?_⟩;obtain⟨p,ns,k,rfl,hk,q⟩:=h;symm;refine ifD (λc=>?_) λ_=>?_
 ·obtain⟨j,rfl⟩:=cE hk;have hj:j<ns.length:=by omega
  symm;exact b5Q (a0W (ak hj)) (q _)
 ·symm;exact q _
def a7Y:P3:=λws G R=>∃c w,ws=[.int c,.int w]/\(w=0\/w=1)/\∀r x w',G r=none->a58 x w'->R (.ref r) (put G r (RowO x w'))
def m9(x:Int):0<=x % 536870909/\x % 536870909<536870909:=⟨dM _ (by decide),dN _ (by decide)⟩
set_option tactic.hygienic true in
def a7Z(T:Txt K mg base a):Cal P w K mg base CX0 1 "_law_stream" (lowP K a7Y):=by
 refine fnc 2 (N:=["cell","way","low"]) T.br (T.f 11 _ rfl) ?_;walk_at "in";refine⟨_,(by ac_rfl),?_⟩;obtain⟨c,w,rfl,hw,q⟩:=h;symm;refine ifD (λz=>?_) λz=>?_
 ·symm;exact⟨lenK rfl,λr hr=>q r _ _ hr (.inl rfl)⟩
 ·symm;refine i_I (show (0:Int)<536870909 by decide) ?_;symm;have h1:=m9 c;refine i_I (.inl ⟨by omega,by omega⟩) ?_;symm;refine i_I (show (0:Int)<536870909 by decide) ?_;symm;have h2:=m9 (c % 536870909*(c % 536870909));refine i_I (.inl ⟨by omega,by omega⟩) ?_;symm;refine i_I (show (0:Int)<536870909 by decide) ?_;symm;exact⟨lenK rfl,λr hr=>q r _ _ hr (.inr ⟨rfl,m9 _⟩)⟩
def a70:P3:=λws G R=>Ex4 λr n x w=>ws=[.ref r,.int n]/\G r=some (RowO x w)/\a58 x w/\0<n/\n<2 ^ 64/\∀f y w,0<=f->f<n->a58 y w->R (.int f) (put G r (RowO y w))
set_option tactic.hygienic true in
def b1G(T:Txt K mg base a):Cal P w K mg base CX0 1 "_law_take" (lowP K a70):=by
 refine fnc 2 (N:=["row","many","found"]) T.br (T.f 12 _ rfl) ?_;walk_at "in";refine⟨_,(a0c (z_if (by ac_rfl)
  (a0c (by ac_rfl)
  (a0c (a2W (by ac_rfl) (qv 0) b0M a8K)
  (by ac_rfl)))
  a2G)
  (a0c (a2W (by ac_rfl) (qv 0) b0M a8K)
  (by ac_rfl))),?_⟩
 obtain⟨r,n,x,w,rfl,hR,hok,h0,h1,q⟩:=h;symm;refine a0t hR rfl ?_;symm;refine ifD (λc=>?_) λc=>?_
 ·symm;refine a0t hR rfl ?_;symm;refine i_I h0 ?_;symm;refine a0t hR rfl ?_;symm;refine i_I ⟨h0,h1⟩ ?_;symm;refine a8P hR rfl ?_;symm;exact q _ _ _ (dM _ (by omega)) (dN _ h0) (.inl c)
 ·rcases hok with z |⟨hw1,hx0,hx1⟩
  ·exact absurd z c
  symm;refine a0t hR rfl ?_;symm;refine a0t hR rfl ?_;symm;refine i_I (.inl ⟨by omega,by omega⟩) ?_;symm;refine i_I (show (0:Int)<536870909 by decide) ?_;symm;refine a8P hR rfl ?_;symm;have h2:=m9 ((x+7919)*(x+104729));refine a0t a0a rfl ?_;symm;refine i_I (.inl ⟨by omega,by omega⟩) ?_;symm;refine i_I h0 ?_;symm;exact q _ _ _ (dM _ (by omega)) (dN _ h0) (.inr ⟨hw1,h2⟩)
def a09(hR:RowAt G r)(h0:0<n)(h1:n<2 ^ 64)(q:∀f y w,0<=f->f<n->a58 y w->R (.int f) (put G r (RowO y w))):a70 [.ref r,.int n] G R:=by
 obtain⟨x,w,e,k⟩:=hR;exact⟨r,n,x,w,rfl,e,k,h0,h1,q⟩
def RowAt.new(h:RowAt G r)(n:G p=none):RowAt (put G p o) r:=by
 obtain⟨x,w,e,k⟩:=h;exact⟨x,w,a0b e n,k⟩
def RowAt.at{G:Hq}{r:Addr}{x w:Int}(k:a58 x w):RowAt (put G r (RowO x w)) r:=⟨x,w,a0a,k⟩
structure Rw where
 b:Int
 e:Option Int
 w:List Z
@[reducible] noncomputable def oz:Option Int->Z
 |none=>.non
 |some i=>.int i
noncomputable def Rw.z(r:Rw):Z:=.tup (.int r.b::oz r.e::r.w)
noncomputable def bef(t:Int):Option Int->Bool
 |none=>true
 |some e=>decide (t<e)
noncomputable def Rw.has(r:Rw)(t:Int):Bool:=decide (r.b<=t)&&bef t r.e
def Rw.good(r:Rw):Prop:=bef r.b r.e=true
noncomputable def val(l:List Rw)(t:Int):Option (List Z):=(l.find? (·.has t)).map (·.w)
def a07:val [] t=none:=rfl
def a0k:val (r::l) t=if r.has t=true then some r.w else val l t:=by
 unfold val;rw[bB];cases h:r.has t<;>simp
def a0Z:val (l++m) t=(val l t).or (val m t):=by
 unfold val;rw[eQ];cases h:l.find? _<;>simp
def Lt(r s:Rw):Prop:=∃e,r.e=some e/\e<=s.b
def Lt2(r s:Rw):Prop:=∃e,r.e=some e/\e<=s.b/\(e=s.b->r.w≠s.w)
def Rise(l:List Rw):Prop:=(∀r∈l,r.good)/\l.Pairwise Lt
def Can(l:List Rw):Prop:=(∀r∈l,r.good)/\l.Pairwise Lt2
def Lt2.lt{r s:Rw}(h:Lt2 r s):Lt r s:=let ⟨e,a,b,_⟩:=h;⟨e,a,b⟩
noncomputable def Can.rise(h:Can l):Rise l:=⟨h.1,h.2.imp Lt2.lt⟩
def Can.nil:Can []:=⟨λ_ h=>by simp at h,.nil⟩
def Rise.nil:Rise []:=Can.nil.rise
def Can.tail(h:Can (r::l)):Can l:=⟨λs a=>h.1 s (.tail _ a),(av.mp h.2).2⟩
def Rise.tail(h:Rise (r::l)):Rise l:=⟨λs a=>h.1 s (.tail _ a),(av.mp h.2).2⟩
def a3A{r:Rw}(h:r.good):r.has r.b=true:=by
 unfold Rw.has;rw[h];simp
noncomputable def Lt.has(h:Lt r s)(a:r.has t=true):s.has t=false:=by
 obtain⟨e,c,d⟩:=h;unfold Rw.has at a ⊢;rw[c]at a;simp only[bef,aQ,decide_eq_true_eq]at a
 have:decide (s.b<=t)=false:=decide_eq_false (by lia)
 rw[this,eR]
def Lt.b(g:r.good)(h:Lt r s):r.b<s.b:=by
 obtain⟨e,a,c⟩:=h
 have:bef r.b r.e=true:=g
 rw[a]at this;simp only[bef,decide_eq_true_eq]at this
 lia
def a08(h:∀r∈l,r.has t=false):val l t=none:=by simp_all[val]
def a5u{l:List Rw}{t:Int}{w:List Z}(h:val l t=some w):∃r∈l,r.has t=true/\r.w=w:=by
 induction l with
 |nil=>cases h
 |cons r l ih=>
  rw[a0k]at h
  split at h
  ·next e=>cases h;exact⟨r,.head _,e,rfl⟩
  ·obtain⟨s,h1,h2⟩:=ih h;exact⟨s,.tail _ h1,h2⟩
def a4a{r:Rw}(h:t<r.b):r.has t=false:=by
 unfold Rw.has;rw[decide_eq_false (by lia),eR]
def b4q(h:Can (r::l))(h':Can (s::m))(q:∀t,val (r::l) t=val (s::m) t):¬ r.b<s.b:=λc=>by
 have d:=q r.b;rw[a0k,a3A (h.1 r (.head _)),if_pos rfl,a08]at d
 ·grind
 ·intro x a;refine a4a ?_;rcases ag.mp a with rfl |a
  ·omega
  ·have:=(((av.mp h'.2).1 x a).lt).b (h'.1 s (.head _))
   lia
def b1H(h:Can (r::l))(hb:r.b=s.b)(hw:r.w=s.w)(q:∀t,val (r::l) t=val (s::m) t)(he:r.e=some e):bef e s.e=false:=by
 cases hc:bef e s.e with
 |false=>rfl
 |true=>
  exfalso;have g:bef r.b r.e=true:=h.1 r (.head _)
  rw[he]at g;simp only[bef,decide_eq_true_eq]at g;have c:=q e;have i:s.has e=true:=by unfold Rw.has;rw[hc,decide_eq_true (show s.b<=e by lia)];rfl
  have k:r.has e=false:=by unfold Rw.has;rw[he];simp[bef]
  rw[a0k,a0k,i,k,if_pos rfl,if_neg (by simp)]at c;obtain⟨x,n,a,d⟩:=a5u c;obtain⟨u,f,p,j⟩:=(av.mp h.2).1 x n;rw[he]at f;cases f;have o:x.b<=e:=by unfold Rw.has at a;simp at a;exact a.1
  exact j (by lia) (by simp_all)
theorem b0c:∀{l m:List Rw},Can l->Can m->(∀t,val l t=val m t)->l=m
 |[],[],_,_,_=>rfl
 |[],s::m,_,h',q=>by
  have:=q s.b
  rw[a07,a0k,a3A (h'.1 s (.head _)),if_pos rfl]at this;cases this
 |r::l,[],h,_,q=>by
  have:=q r.b
  rw[a07,a0k,a3A (h.1 r (.head _)),if_pos rfl]at this;cases this
 |r::l,s::m,h,h',q=>by
  have a:r.b=s.b:=by
   have f:=b4q h h' q;have g:=b4q h' h λt=>(q t).symm
   lia
  have c:r.w=s.w:=by
   have f:=q r.b;have g:s.has r.b=true:=a▸a3A (h'.1 s (.head _));rw[a0k,a0k,a3A (h.1 r (.head _)),g,if_pos rfl,if_pos rfl]at f;exact aG.inj f
  have i:r.e=s.e:=by
   cases e1:r.e with
   |none=>
    cases e2:s.e with
    |none=>rfl
    |some e=>
     have:=b1H h' a.symm c.symm (λt=>(q t).symm) e2
     rw[e1]at this;cases this
   |some e=>
    have:=b1H h a c q e1
    cases e2:s.e with
    |none=>rw[e2]at this;cases this
    |some e'=>
     have k:=b1H h' a.symm c.symm (λt=>(q t).symm) e2;rw[e1]at k;rw[e2]at this;simp only[bef,decide_eq_false_iff_not]at this k
     congr 1
     lia
  have j:r=s:=by
   obtain⟨_,_,_⟩:=r;simp only at a c i;rw[a,c,i]
  subst j
  congr 1
  refine b0c h.tail h'.tail λt=>?_;cases ht:r.has t with
  |true=>
   rw[a08 λx d=>((av.mp h.2).1 x d).lt.has ht,a08 λx d=>((av.mp h'.2).1 x d).lt.has ht]
  |false=>
   have:=q t
   rw[a0k,a0k,ht,if_neg (by simp),if_neg (by simp)]at this;exact this
noncomputable def jn(told:List Rw)(p:Rw):List Rw:=match told.getLast? with
 |some l=>if l.e=some p.b/\l.w=p.w then told.dropLast++[⟨l.b,p.e,p.w⟩] else told++[p]
 |none=>told++[p]
noncomputable def join(ps:List Rw):List Rw:=ps.foldl jn []
def a1N{α:Type}{l:List α}{x:α}(h:l.getLast?=some x):l=l.dropLast++[x]:=by
 obtain⟨a,rfl⟩:=List.getLast?_eq_some_iff.mp h;simp
def b6f(h:Can told)(g:p.good)(hlt:∀r∈told,Lt r p):Can (jn told p)/\(∀t,val (jn told p) t=(val told t).or (val [p] t))/\(∀x,(∀r∈told,Lt r x)->Lt p x->∀r∈jn told p,Lt r x)/\(jn told p).length<=told.length+1/\∀r∈jn told p,r.w=p.w\/∃r'∈told,r.w=r'.w:=by
 unfold jn;cases hl:told.getLast? with
 |none=>
  have:told=[]:=cZ.mp hl
  subst this;exact⟨⟨λr a=>by simp at a;rw[a];exact g,by simp⟩,λt=>by simp[a07],λx _ f r a=>by simp at a;rw[a];exact f,by simp,λr a=>by simp at a;rw[a];exact .inl rfl⟩
 |some l=>
  have d:=a1N hl;generalize told.dropLast=init at d;subst d;have i:l∈init++[l]:=by simp
  have k:=aM.mp h.2;dsimp only
  split
  ·next hc=>
   obtain⟨n,o⟩:=hc;have D:l.b<p.b:=by
    have:bef l.b l.e=true:=h.1 l i
    rw[n]at this;simpa[bef]using this
   have v:(⟨l.b,p.e,p.w⟩:Rw).good:=by
    show bef l.b p.e=true
    have:bef p.b p.e=true:=g
    cases hpe:p.e with
    |none=>rfl
    |some e=>
     rw[hpe]at this;simp only[bef,decide_eq_true_eq]at this ⊢
     lia
   refine⟨⟨λr a=>?_,?_⟩,λt=>?_,λx m f r a=>?_,by simp,λr a=>?_⟩
   ·rcases ah.mp a with a |a
    ·exact h.1 r (by simp[a])
    ·rw[ai.mp a];exact v
   ·refine aM.mpr ⟨k.1,by simp,λr a s d=>?_⟩;rw[ai.mp d];obtain⟨e,c,j,A⟩:=k.2.2 r a l (by simp);exact⟨e,c,j,λz=>by rw[<- o];exact A z⟩
   ·rw[a0Z,a0Z];cases val init t with
    |some w=>rfl
    |none=>
     have y:(⟨l.b,p.e,p.w⟩:Rw).has t=(l.has t||p.has t):=by
      unfold Rw.has;rw[n]
      have:bef p.b p.e=true:=g
      cases hpe:p.e with
      |none=>
       simp only[bef,Bool.and_true]
       by_cases c1:l.b<=t<;>by_cases c2:t<p.b<;>by_cases c3:p.b<=t<;>simp[c1,c2,c3]<;>lia
      |some e=>
       rw[hpe]at this;simp only[bef,decide_eq_true_eq]at this ⊢
       by_cases c1:l.b<=t<;>by_cases c2:t<p.b<;>by_cases c3:p.b<=t<;>by_cases c4:t<e<;>simp[c1,c2,c3,c4]<;>lia
     simp only[a0k,a07,y,o,Option.none_or];cases l.has t<;>cases p.has t<;>simp
   ·rcases ah.mp a with a |a
    ·exact m r (by simp[a])
    ·rw[ai.mp a];obtain⟨e,c,j⟩:=f;exact⟨e,c,j⟩
   ·rcases ah.mp a with a |a
    ·exact .inr ⟨r,by simp[a],rfl⟩
    ·rw[ai.mp a];exact .inl rfl
  ·next hc=>
   refine⟨⟨λr a=>?_,?_⟩,λt=>a0Z,λx m f r a=>?_,by simp,λr a=>?_⟩
   ·rcases ah.mp a with a |a
    ·exact h.1 r a
    ·rw[ai.mp a];exact g
   ·refine aM.mpr ⟨h.2,by simp,λr a s d=>?_⟩;rw[ai.mp d];obtain⟨e,c,j⟩:=hlt r a;refine⟨e,c,j,λz u=>?_⟩;rcases ah.mp a with hr' |hr'
    ·obtain⟨C,q,B,_⟩:=k.2.2 r hr' l (by simp);rw[c]at q;cases q
     have:=(hlt l i).b (h.1 l i)
     lia
    ·simp_all
   ·rcases ah.mp a with a |a
    ·exact m r a
    ·rw[ai.mp a];exact f
   ·rcases ah.mp a with a |a
    ·exact .inr ⟨r,a,rfl⟩
    ·rw[ai.mp a];exact .inl rfl
def b1I:∀(ps told:List Rw),Can told->Rise ps->(∀r∈told,∀p∈ps,Lt r p)->Can (ps.foldl jn told)/\(∀t,val (ps.foldl jn told) t=(val told t).or (val ps t))/\(ps.foldl jn told).length<=told.length+ps.length/\∀r∈ps.foldl jn told,∃r'∈told++ps,r.w=r'.w:=by intro z0;induction z0 with
 |nil=>intro told h _ _;exact⟨h,λt=>by simp[a07],by simp,λr f=>⟨r,by simpa using f,rfl⟩⟩
 |cons p ps I0=>
  intro told h f hlt;have a:=b6f h (f.1 p (.head _)) λr q=>hlt r q p (.head _);have b:=I0 _ a.1 f.tail λr q x j=>a.2.2.1 x (λg k=>hlt g k x (.tail _ j)) ((av.mp f.2).1 x j) r q;refine⟨b.1,λt=>?_,?_,λr i=>?_⟩
  ·show val (ps.foldl jn _) t=_
   rw[b.2.1 t,a.2.1 t,show p::ps=[p]++ps from rfl,a0Z,Option.or_assoc]
  ·grind
  ·obtain⟨g,c,d⟩:=b.2.2.2 r i;rcases ah.mp c with c |c
   ·rcases a.2.2.2.2 g c with e |⟨r2,e1,e2⟩
    ·exact⟨p,by simp,d.trans e⟩
    ·grind
   ·exact⟨g,by simp[c],d⟩
def a4G(h:Rise ps):Can (join ps)/\(∀t,val (join ps) t=val ps t)/\(join ps).length<=ps.length/\∀r∈join ps,∃r'∈ps,r.w=r'.w:=by
 have:=b1I ps [] .nil h λr a=>by simp at a
 unfold join;exact⟨this.1,λt=>by rw[this.2.1 t];rfl,by simpa using this.2.2.1,by simpa using this.2.2.2⟩
noncomputable def emin:Option Int->Option Int->Option Int
 |none,o=>o
 |some e,none=>some e
 |some e,some o=>some (if o<e then o else e)
noncomputable def b4r(m:Option Int)(r:Rw):Option Rw:=if bef r.b m=true then some ⟨r.b,emin r.e m,r.w⟩ else none
noncomputable def b6g(m:Option Int)(l:List Rw):List Rw:=l.filterMap (b4r m)
noncomputable def b6h(m:Int)(r:Rw):Option Rw:=if bef m r.e=true then some ⟨if m > r.b then m else r.b,r.e,r.w⟩ else none
noncomputable def b4s(m:Int)(l:List Rw):List Rw:=l.filterMap (b6h m)
noncomputable def b6n(l:List Rw)(b:Int)(e:Option Int)(w:Option (List Z)):List Rw:=
 b6g (some b) l++(match w with |some w=>[⟨b,e,w⟩] |none=>[])++(match e with |some e=>b4s e l |none=>[])
noncomputable def pcs(f:Int->Option (List Z)):List Int->List Rw
 |[]=>[]
 |b::bs=>(match f b with |some w=>[⟨b,bs.head?,w⟩] |none=>[])++pcs f bs
def a4H:∀{bs:List Int}{r:Rw},r∈pcs f bs->r.b∈bs/\f r.b=some r.w:=by intro z0;induction z0 with
 |nil=>intro _ h;simp[pcs]at h
 |cons b bs I0=>
  intro r h;rcases ah.mp h with h |h
  ·cases e:f b with
   |none=>rw[e]at h;simp at h
   |some w=>rw[e]at h;rw[ai.mp h];exact⟨.head _,e⟩
  ·obtain⟨c,a⟩:=I0 h;exact⟨.tail _ c,a⟩
def a25(f:Int->Option (List Z)):∀bs:List Int,(pcs f bs).length<=bs.length:=by intro z0;induction z0 with
 |nil=>simp[pcs]
 |cons b bs I0=>
  have:=I0
  unfold pcs;cases f b<;>simp<;>omega
def a5v(f:Int->Option (List Z)):∀{bs:List Int},bs.Pairwise (·<·)->Rise (pcs f bs):=by intro z0;induction z0 with
 |nil=>intro _;simp[pcs];exact .nil
 |cons b bs I0=>
  intro h;have g:=av.mp h;have i:=I0 g.2;unfold pcs;cases e:f b with
  |none=>simpa using i
  |some w=>
   refine⟨λr a=>?_,aM.mpr ⟨by simp,i.2,λr a s j=>?_⟩⟩
   ·rcases ah.mp a with a |a
    ·rw[ai.mp a]
     show bef b bs.head?=true
     cases bs with
     |nil=>rfl
     |cons c cs=>simpa[bef]using g.1 c (.head _)
    ·exact i.1 r a
   ·rw[ai.mp a];have d:=(a4H j).1;cases bs with
    |nil=>simp at d
    |cons c cs=>
     refine⟨c,rfl,?_⟩;rcases ag.mp d with q |q
     ·lia
     ·have:=(av.mp g.2).1 _ q
      lia
def b1J:∀{bs:List Int},bs.Pairwise (·<·)->(∀t b,b∈bs->b<=t->(∀c∈bs,c<=t->c<=b)->f t=f b)->∀t,val (pcs f bs) t=if (bs.any λb=>decide (b<=t))=true then f t else none:=by intro z0;induction z0 with
 |nil=>intro _ _ t;simp[pcs,a07]
 |cons b bs I0=>
  intro h hf t;have j:=av.mp h;have p:=I0 j.2 (λt c a g o=>hf t c (.tail _ a) g λd k l=>by
   rcases ag.mp k with rfl |k
   ·have:=j.1 c a;lia
   ·exact o d k l) t
  unfold pcs;rw[a0Z,p,bT]
  by_cases c1:b<=t
  ·rw[decide_eq_true c1,Bool.true_or,if_pos rfl];cases c2:bs.any λb=>decide (b<=t) with
   |true=>
    obtain⟨c,a,g⟩:=bE.mp c2;have g:c<=t:=by simpa using g
    rw[if_pos rfl]
    have:val (match f b with |some w=>[(⟨b,bs.head?,w⟩:Rw)] |none=>[]) t=none:=by
     cases f b with
     |none=>rfl
     |some w=>
      rw[a0k,a07];cases bs with
      |nil=>simp at a
      |cons d ds=>
       have k:d<=t:=by
        rcases ag.mp a with rfl |a
        ·exact g
        ·have:=(av.mp j.2).1 c a;lia
       have n:(⟨b,(d::ds).head?,w⟩:Rw).has t=false:=by
        unfold Rw.has;simp only[eS,bef];rw[decide_eq_false (show ¬ t<d by lia),di]
       rw[n]
       rfl
    rw[this];rfl
   |false=>
    rw[if_neg (by decide)];have i:∀c∈bs,¬ c<=t:=λc a g=>by grind
    have m:=hf t b (.head _) c1 λc a g=>by
     rcases ag.mp a with rfl |a
     ·lia
     ·exact absurd g (i c a)
    rw[m];cases e:f b with
    |none=>rfl
    |some w=>
     rw[a0k,a07]
     have:(⟨b,bs.head?,w⟩:Rw).has t=true:=by
      unfold Rw.has;simp only;rw[decide_eq_true c1];cases bs with
      |nil=>rfl
      |cons d ds=>simp only[eS,bef,cO,decide_eq_true_eq];have:=i d (.head _);lia
     rw[this];rfl
  ·rw[decide_eq_false c1,d5];have i:(bs.any λb=>decide (b<=t))=false:=cK.mpr λc a=>by grind
   rw[i,if_neg (by decide)]
   have:val (match f b with |some w=>[(⟨b,bs.head?,w⟩:Rw)] |none=>[]) t=none:=by
    cases f b with
    |none=>rfl
    |some w=>
     rw[a0k,a07,a4a (by show t<b;lia)]
     rfl
   rw[this];rfl
noncomputable def a0m(puts:List Rw)(t:Int):Z:=match puts.reverse.find? (·.has t) with
 |some r=>r.w.headD .non
 |none=>.non
def a0V(rows:List Rw)(bs:List Int):Prop:=bs.Pairwise (·<·)/\∀x,x∈bs↔∃r∈rows,x=r.b\/r.e=some x
def a9r{r:Rw}(h:b<=t)(h1:r.b<=t->r.b<=b)(h2:∀e,r.e=some e->e<=t->e<=b):r.has t=r.has b:=by
 unfold Rw.has;have a:decide (r.b<=t)=decide (r.b<=b):=a0n (by grind)
 congr 1
 cases he:r.e with
 |none=>rfl
 |some e=>
  have:=h2 e he
  exact a0n (by grind)
def a6b:∀{l:List Rw},(∀r∈l,f r=g r)->l.find? f=l.find? g:=by intro z0;induction z0 with
 |nil=>intro _;exact rfl
 |cons r l I0=>intro h;rw[bB,bB,h r (.head _),I0 λs a=>h s (.tail _ a)]
def okW(w:List Z):Prop:=w≠[]/\w.length<=4/\w.all (flat 4)=true
def OkR(l:List Rw):Prop:=∀r∈l,okW r.w
def a0r:∀{n m:Nat}{z:Z},n<=m->flat n z=true->flat m z=true:=by
 intro n
 induction n with
 |zero=>intro m z _ h;cases z<;>first | (simp[flat]at h;done) | (cases m<;>simp_all[flat])
 |succ n ih=>
  intro m z b h;cases m with
  |zero=>lia
  |succ m=>
   cases z with
   |tup ws=>
    simp only[flat,bg]at h ⊢;exact λx a=>ih (by lia) (h x a)
   |_=>first | (simp[flat];done) | (simp[flat]at h;done) | (simp only[flat]at h ⊢;exact h)
def a5w{ws:List Z}(hm:n<=m)(h:ws.all (flat n)=true):ws.all (flat m)=true:=by
 rw[bg]at h ⊢;exact λx a=>a0r hm (h x a)
def b1K:flat n (oz e)=true:=by
 cases e<;>cases n<;>rfl
def a5x:flat n (.int i)=true:=by cases n<;>rfl
def a9s:flat n .non=true:=by cases n<;>rfl
noncomputable def wz:Option (List Z)->Z
 |none=>.non
 |some w=>w.headD .non
def b0d(h:R (.bl (decide (e=some b))) G):zEq id (oz e) (.int b) G R:=by
 cases e with
 |none=>
  refine (⟨a9s,a5x,?_⟩)
  have:decide (Z.non=Z.int b)=decide (none=some b):=by simp
  exact h
 |some e=>
  refine b3z ?_
  have:decide (e=b)=decide (some e=some b):=a0n (by simp)
  rw[this];exact h
def b4t(h1:flat 8 (.tup xs)=true)(h2:flat 8 (.tup ys)=true)(h:R (.bl (f (decide (xs=ys)))) G):zEq f (.tup xs) (.tup ys) G R:=by
 refine (⟨h1,h2,?_⟩);rw[a0n (Z.tup.injEq _ _)];exact h
noncomputable def over(r:Rw)(m:Int):Bool:=match r.e with
 |none=>false
 |some e=>decide (e<=m)
def a4b:P3:=λws G R=>∃r m,ws=[Rw.z r,.int m]/\R (.bl (over r m)) G
set_option tactic.hygienic true in
def a4c(T:Txt K mg base a):Cal P w K mg base CX0 1 "is_over" (lowP K a4b):=by
 refine fnc 2 (N:=["stretch","moment"]) T.br (T.f 1 _ rfl) ?_;walk_at "in";refine⟨_,(by ac_rfl),?_⟩;obtain⟨⟨b,e,w⟩,m,rfl,q⟩:=h;cases e with
 |none=>
  symm;exact a02 at1 (by symm;exact q)
 |some e=>
  symm;refine a02 at1 ?_;symm;refine a02 at1 ?_;symm;exact q
def a11{α β:Type}{l:List α}{g:α->Z}{g':β->Z}(f:α->Option β)(hok:∀ys,ok (put G1 D (.lst ys)))(hz:l.length<=1000)
  (turn:∀x,x∈l->∀(ys:List Z)(K1:K3)(K2:Hq->Prop),(∀y,f x=some y->K1 (g' y) (put G1 D (.lst ys)))->(f x=none->K2 (put G1 D (.lst ys)))->∃σ',a3m pt (g x) (cap3 cap σ)=some σ'/\tt σ' (put G1 D (.lst ys)) λb G4=>if b=true then te σ' G4 K1 else K2 G4)
  (fin:R (.ref D) (put G1 D (.lst ((l.filterMap f).map g')))):LCB (l.map g) ok cap pt tt te σ R D G1:=by
 refine b0Y (λi c G=>c=((l.take i).filterMap f).map g'/\G=put G1 D (.lst c)) ⟨by simp,rfl⟩ ?_ ?_ ?_
 ·simp_all
 ·rintro i x c G d ⟨e,rfl⟩;rw[aq]at d;cases hx':l[i]? with
  |none=>rw[hx']at d;cases d
  |some a=>
   rw[hx']at d;cases d;refine turn a (aD hx') c _ _ (λy j=>⟨a0a,?_,?_,?_⟩) λh=>⟨?_,rfl⟩
   ·rw[e,ae];exact dj (ax (dO _ _) (by rw[aA];lia)) (a0f (af 1000))
   ·rw[a2a hx',j,e,au];rfl
   ·rw[a1Y]
   ·rw[a2a hx',h,e];simp
 ·simp_all
def One(l:List Rw):Prop:=∀r∈l,∃x,r.w=[x]
def a4I(h:0<n):ixN n (-1)=some (n-1):=by grind [ixN]
def a1j{α:Type}{l:List α}{x:α}(h:l.getLast?=some x):atI l (-1)=some x:=by
 have a:l≠[]:=λz=>by subst z;simp at h
 unfold atI;rw[a4I (bW.mpr a)]
 show l[l.length-1]?=some x
 rw[<- List.getLast?_eq_getElem?];exact h
def a5y{α:Type}{l:List α}{x y:α}(h:l.getLast?=some x):l.set (l.length-1) y=l.dropLast++[y]:=by
 have a:=a1N h;generalize l.dropLast=i at a;subst a;simp
def sIx2{a b:Z}{w:List Z}:HT.sIx (a::b::w).length 0 (some 2)=2:=by
 have:=HT.sIx_nat (a::b::w).length 0 2
 rw[show ((2:Nat):Int)=2 from rfl]at this;rw[this];simp
def cut2{a b:Z}{w:List Z}:cutZ (a::b::w) (some 2) none=w:=by
 unfold cutZ;rw[sIx2,HT.sIx_none];simp
def a71{a b:Z}{w:List Z}:¬ (HT.sIx (a::b::w).length 0 (some 2)=0/\HT.sIx (a::b::w).length (a::b::w).length none=(a::b::w).length):=by
 rw[sIx2];intro h;exact absurd h.1 (by decide)
def okW0(w:List Z):Prop:=w.length<=4/\w.all (flat 4)=true
def OkR0(l:List Rw):Prop:=∀r∈l,okW0 r.w
def OkR.weak{l:List Rw}(h:OkR l):OkR0 l:=λr hr=>(h r hr).2
def a1a:P3:=λws G R=>∃p ps,ws=[.ref p]/\G p=some (.lst (ps.map Rw.z))/\OkR0 ps/\ps.length<=1000/\∀t,G t=none->R (.ref t) (put G t (.lst ((join ps).map Rw.z)))
def b1L{G:Hq}{R:K3}{a b:Z}{w:List Z}(h:R (.tup w) G):zSl (.tup (a::b::w)) (some 2) none G R:=a8O a71 (by rw[cut2];exact h)
def a3B{w:List Z}(h:okW0 w):flat 8 (.tup w)=true:=a5w (n:=4) (m:=7) (by decide) h.2
set_option tactic.hygienic true in
theorem a5z:∀(ps told:List Rw),OkR0 told->OkR0 ps->OkR0 (ps.foldl jn told)
 |[],_,h,_=>h
 |p::ps,told,h,h'=>by
  refine a5z ps (jn told p) (λr hr=>?_) λr hr=>h' r (.tail _ hr);unfold jn at hr
  split at hr
  ·next l hl=>
   split at hr
   ·rcases ah.mp hr with hr |hr
    ·exact h r (eT _ hr)
    ·rw[ai.mp hr];exact h' p (.head _)
   ·rcases ah.mp hr with hr |hr
    ·exact h r hr
    ·rw[ai.mp hr];exact h' p (.head _)
  ·rcases ah.mp hr with hr |hr
   ·exact h r hr
   ·rw[ai.mp hr];exact h' p (.head _)
def b4u(told:List Rw)(p:Rw):(jn told p).length<=told.length+1:=by
 unfold jn
 split
 ·split<;>simp
 ·simp
def a9t:∀(ps told:List Rw),(ps.foldl jn told).length<=told.length+ps.length:=by intro z0;induction z0 with
 |nil=>intro told;simp
 |cons p ps I0=>
  intro told;have b:=I0 (jn told p);have a:=b4u told p
  show (ps.foldl jn (jn told p)).length<=_
  rw[aE]
  lia
def a72{ps:List Rw}(h:ps[i]?=some p):(ps.take (i+1)).foldl jn []=jn ((ps.take i).foldl jn []) p:=by
 rw[bJ,h];simp
set_option tactic.hygienic true in
def a1b(T:Txt K mg base a):Cal P w K mg base CX0 1 "with_alike_joined" (lowP K a1a):=by
 refine fnc 1 (N:=["pieces","told","piece"]) T.br (T.f 3 _ rfl) ?_;walk_at "in";refine⟨_,(a0c (by ac_rfl)
  (a0c (a2f (pt:=(.nm 2)) fH.never rfl (by ac_rfl) (p_nm (nmI 2 nd))
  (a1t (z_if (by ac_rfl)
  (a1t (a2W (by ac_rfl) (qv 1) (by ac_rfl) a8K))
  (by ac_rfl))))
  (by ac_rfl))),?_⟩
 obtain⟨p,ps,rfl,hp,hok,hz,q⟩:=h;symm;refine⟨lenK rfl,λt ht=>?_⟩;symm;refine a1g (a0b hp ht) ?_;refine a0R (λi σ G'=>∃v,σ=[some (.ref p),some (.ref t),v]/\G'=put G t (.lst (((ps.take i).foldl jn []).map Rw.z))) ⟨_,rfl,by simp⟩ (by rintro i σ G' _ ⟨v,_,e⟩;exact by rw[e];exact a0b hp ht) ?_ ?_
 ·rintro i x σ G' hx ⟨v,rfl,rfl⟩;rw[aq]at hx;cases hx':ps[i]? with
  |none=>rw[hx']at hx;cases hx
  |some r=>
   rw[hx']at hx;cases hx;have hr:=hok r (aD hx');have hot:OkR0 ((ps.take i).foldl jn []):=a5z _ _ (λr hr=>by simp at hr) λr hr=>hok r (aY hr);have hlt:=a9t (ps.take i) [];rw[aA]at hlt;have hi:=(aj.mp hx').1;rw[a72 hx'];generalize (ps.take i).foldl jn []=told at hot hlt ⊢;simp only[List.length_nil]at hlt;refine⟨_,rfl,?_⟩;have app:∀G',G'=put G t (.lst (told.map Rw.z))->jn told r=told++[r]->a1w (.ref t) [r.z] G' (λ_ G1=>∃v,([some (.ref p),some (.ref t),some r.z]:S3)=[some (.ref p),some (.ref t),v]/\G1=put G t (.lst ((jn told r).map Rw.z))):=by
    rintro _ rfl e;refine a0y a0a (by rw[ae];exact a0f (by omega)) ⟨_,rfl,?_⟩;rw[a1Y,e,au]
    rfl
   symm;refine b3p a0a ?_;cases hl:told.getLast? with
   |none=>
    have e0:told=[]:=cZ.mp hl;subst e0;refine ifF ?_;symm;refine a0M a0a ?_;symm;exact app _ rfl (by unfold jn;rw[hl])
   |some k=>
    have hne:told≠[]:=λz=>by subst z;simp at hl
    have hlm:(told.map Rw.z).getLast?=some k.z:=by rw[da,hl];rfl
    have he:(told.map Rw.z).isEmpty=false:=by cases told with |nil=>exact absurd rfl hne |cons _ _=>rfl
    have hk:=hot k (dP hl);rw[he];refine ifT ?_;symm;refine a0t a0a (a1j hlm) ?_;symm;refine a02 at1 ?_;symm;refine a02 at0 ?_;refine b0d ?_;symm;refine ifD (λc1=>?_) λc1=>?_
    ·symm;refine a0t a0a (a1j hlm) ?_;symm;refine b1L ?_;symm;refine b1L ?_;refine b4t (a3B hk) (a3B hr) ?_;symm;refine ifD (λc2=>?_) λc2=>?_
     ·symm;refine a0t a0a (a1j hlm) ?_;symm;refine a02 at0 ?_;symm;refine a02 at1 ?_;symm;refine⟨lenK rfl,?_⟩;symm;refine b1L ?_;refine a2b (by simp) (a0C (by have:=hr.1;simp;omega)) ?_;symm;refine a8P a0a (a4I (by rw[ae];exact bW.mpr hne)) ?_;refine⟨_,rfl,?_⟩;rw[a1Y,a5y hlm]
      congr 1
      unfold jn;rw[hl];dsimp only;rw[if_pos ⟨c1,c2⟩,au,eU]
      rfl
     ·symm;refine a0M a0a ?_;symm;exact app _ rfl (by unfold jn;rw[hl];dsimp only;rw[if_neg λz=>c2 z.2])
    ·refine ifF ?_;symm;refine a0M a0a ?_;symm;exact app _ rfl (by unfold jn;rw[hl];dsimp only;rw[if_neg λz=>c1 z.1])
 ·rintro σ G' ⟨v,rfl,rfl⟩;symm;rw[ae,bP];exact q t ht
def a9u(h:over r m=true):r.has m=false:=by
 unfold over at h;unfold Rw.has;cases he:r.e with
 |none=>rw[he]at h;cases h
 |some e=>
  rw[he]at h;simp at h;simp only[bef];rw[decide_eq_false (show ¬ m<e by lia),di]
def a73(h:m<=m')(o:over r m=true):over r m'=true:=by
 unfold over at o ⊢;cases he:r.e with
 |none=>rw[he]at o;cases o
 |some e=>rw[he]at o;simp at o ⊢;lia
theorem a5A:∀{l:List Rw}{m:Int}{k:Nat},(∀(i:Nat) r,i<k->l[i]?=some r->over r m=true)->val l m=val (l.drop k) m
 |l,m,0,_=>rfl
 |[],m,k+1,_=>rfl
 |r::l,m,k+1,h=>by
  rw[a0k,a9u (h 0 r (by simp) rfl),if_neg (by simp),List.drop_succ_cons];exact a5A λi s a e=>h (i+1) s (by lia) (by grind)
def a9v(h:Rise (r::l))(o:over r m=false):val (r::l) m=if r.b<=m then some r.w else none:=by
 rw[a0k];have d:bef m r.e=true:=by
  unfold over at o;cases he:r.e with
  |none=>rfl
  |some e=>rw[he]at o;simp at o;simp only[bef,decide_eq_true_eq];omega
 by_cases c:r.b<=m
 ·have:r.has m=true:=by unfold Rw.has;rw[d,decide_eq_true c];rfl
  rw[this,if_pos rfl,if_pos c]
 ·rw[a4a (by lia),if_neg (by simp),if_neg c];refine a08 λs a=>a4a ?_
  have:=((av.mp h.2).1 s a).b (h.1 r (.head _))
  lia
def Rise.drop(h:Rise l)(k:Nat):Rise (l.drop k):=⟨λr a=>h.1 r (dy a),h.2.sublist (dv _ _)⟩
def drop_get{α:Type}{l:List α}{x:α}(h:l[k]?=some x):l.drop k=x::l.drop (k+1):=by
 obtain⟨b,a⟩:=aj.mp h;rw[cf b,a]
def a2J:P3:=λws G R=>Ex4 λ(p q:Addr) (l:List Rw) (ms:List Int)=>ws=[.ref p,.ref q]/\G p=some (.lst (l.map Rw.z))/\G q=some (.lst (ms.map Z.int))/\Rise l/\OkR l/\l.length<=1000/\ms.Pairwise (·<=·)/\ms.length<=1000 /\
 ∀t,G t=none->R (.ref t) (put G t (.lst (ms.map λm=>wz (val l m))))
def a4J{l:List Rw}{k:Nat}(h:l[k]?=some r):atI (l.map Rw.z) (k:Int)=some r.z:=a0W (by simp_all)
def take_snoc{α:Type}{l:List α}{x:α}(h:l[i]?=some x):l.take (i+1)=l.take i++[x]:=by rw[bJ,h];rfl
set_option tactic.hygienic true in
def a2K(T:Txt K mg base a):Cal P w K mg base CX0 2 "worths_in" (lowP K a2J):=by
 refine fnc 2 (N:=["line","moments","worths","at","moment"]) T.br (T.f 2 _ rfl) ?_;walk_at "in";refine⟨_,(a0c (by ac_rfl)
  (a0c (by ac_rfl)
  (a0c (a2f (pt:=(.nm 4)) fH.never rfl (by ac_rfl) (p_nm (nmI 4 nd))
  (a60 (a4p fH.never (by ac_rfl)
  (by ac_rfl))
  (by ac_rfl)))
  (by ac_rfl)))),?_⟩
 obtain⟨p,q,l,ms,rfl,hp,hq,hr,hok,hz,hm,hmz,fin⟩:=h;symm;refine⟨lenK rfl,λt ht=>?_⟩;symm;refine a1g (a0b hq ht) ?_;refine a0R (λi σ G'=>∃(k:Nat)(v:Option Z),k<=l.length/\(∀(j:Nat) r m,j<k->l[j]?=some r->ms[i]?=some m->over r m=true)/\σ=[some (.ref p),some (.ref q),some (.ref t),some (.int k),v]/\G'=put G t (.lst ((ms.take i).map λm=>wz (val l m)))) ⟨0,_,aK _,λj r m hj=>by omega,rfl,by simp⟩ (by rintro i σ G' _ ⟨_,_,_,_,_,e⟩;exact by rw[e];exact a0b hq ht) ?_ ?_
 ·rintro i x σ G' hx ⟨k,v,hk,hov,rfl,rfl⟩;rw[aq]at hx;cases hx':ms[i]? with
  |none=>rw[hx']at hx;cases hx
  |some m=>
   rw[hx']at hx;cases hx;refine⟨_,rfl,?_⟩;symm;have hp':put G t (.lst ((ms.take i).map λm=>wz (val l m))) p=some (.lst (l.map Rw.z)):=a0b hp ht;generalize hG:put G t (.lst ((ms.take i).map λm=>wz (val l m)))=G1 at hp' ⊢;refine a7c (fun σ' G'=>∃k':Nat,k'<=l.length/\(∀(j:Nat) r,j<k'->l[j]?=some r->over r m=true)/\(∀r,l[k']?=some r->over r m=false)/\σ'=[some (.ref p),some (.ref q),some (.ref t),some (.int k'),some (.int m)]/\G1=G') ?_ ?_
   ·refine⟨λn σ' G'=>∃k':Nat,n+k'=l.length/\(∀(j:Nat) r,j<k'->l[j]?=some r->over r m=true)/\σ'=[some (.ref p),some (.ref q),some (.ref t),some (.int k'),some (.int m)]/\G1=G',⟨l.length-k,k,by omega,λj r hj e=>hov j r m hj e hx',rfl,rfl⟩,?_⟩;rintro n σ' G' ⟨k',hn,ho,rfl,rfl⟩;symm;refine a3T hp' ?_;symm;refine ifD (λc=>?_) λc=>?_
    ·rw[ae]at c;have hlt:k'<l.length:=by omega
     have hg:=ak hlt;symm;refine a0t hp' (a4J hg) ?_;symm;refine⟨_,_,rfl,?_⟩;symm;refine ifB (λc2=>?_) λc2=>?_
     ·symm;refine⟨n-1,by omega,k'+1,by omega,λj r hj e=>?_,rfl,rfl⟩
      by_cases hjk:j<k'
      ·exact ho j r hjk e
      ·have:j=k':=by omega
       subst this;rw[hg]at e;cases e;exact c2
     ·exact⟨k',by omega,ho,λr e=>by rw[hg]at e;cases e;exact c2,rfl,rfl⟩
    ·rw[ae]at c;refine ifF ?_;exact⟨k',by omega,ho,λr e=>by have:=(aj.mp e).1;omega,rfl,rfl⟩
   ·rintro σ' G' ⟨k',hk',ho,hn,rfl,rfl⟩;have hv:val l m=val (l.drop k') m:=a5A ho;have nxt:∀w:Z,w=wz (val l m)->a1w (.ref t) [w] G1 (λ_ G2=>∃(k:Nat)(v:Option Z),k<=l.length/\(∀(j:Nat) r m,j<k->l[j]?=some r->ms[i+1]?=some m->over r m=true)/\([some (.ref p),some (.ref q),some (.ref t),some (.int k'),some (.int m)]:S3)=[some (.ref p),some (.ref q),some (.ref t),some (.int k),v]/\G2=put G t (.lst ((ms.take (i+1)).map λm=>wz (val l m)))):=by
     rintro w rfl;subst hG;have hi:=(aj.mp hx').1;refine a0y a0a (by rw[ae,aA];exact a0f (by omega)) ⟨k',_,hk',λj r m' hj e e'=>a73 ?_ (ho j r hj e),rfl,?_⟩
     ·obtain⟨h1,e1⟩:=aj.mp hx';obtain⟨h2,e2⟩:=aj.mp e';rw[<- e1,<- e2];exact bV.mp hm _ _ h1 h2 (by omega)
     ·rw[a1Y,take_snoc hx',au];rfl
    have ht1:∃ws,G1 t=some (.lst ws):=by rw[<- hG];exact⟨_,a0a⟩
    obtain⟨wt,ht1⟩:=ht1;symm;refine a3T hp' ?_;symm;refine ifD (λc=>?_) λc=>?_
    ·rw[ae]at c;have hlt:k'<l.length:=by omega
     have hg:=ak hlt;have hv2:=a9v (by rw[<- drop_get hg];exact hr.drop k') (hn _ hg);rw[<- drop_get hg,<- hv]at hv2;symm;refine a0t hp' (a4J hg) ?_;symm;refine a02 at0 ?_;symm;refine ifD (λc2=>?_) λc2=>?_
     ·symm;refine a0M ht1 ?_;symm;refine a0t hp' (a4J hg) ?_;symm;have hw:=hok _ (bu hlt);obtain⟨x,xs,ex⟩:∃x xs,(l[k']).w=x::xs:=by
       cases e:(l[k']).w with
       |nil=>exact absurd e hw.1
       |cons x xs=>exact⟨x,xs,rfl⟩
      refine a02 (w:=x) (by show atI (_::_::(l[k']).w) 2=some x;rw[ex];exact at2) ?_;symm;refine nxt x ?_;rw[hv2,if_pos c2,ex];rfl
     ·symm;refine a0M ht1 ?_;symm;refine nxt .non ?_;rw[hv2,if_neg c2];rfl
    ·rw[ae]at c;refine ifF ?_;symm;refine a0M ht1 ?_;symm;refine nxt .non ?_;rw[hv,cx (by omega)];rfl
 ·rintro σ G' ⟨k,v,_,_,rfl,rfl⟩;symm;rw[ae,bP];exact fin t ht
def okV(z:Z):Prop:=flat 4 z=true
def b4v(h:okV z):okW [z]:=⟨by simp,by simp,by rw[aL,h];rfl⟩
def leS(a b:Str):Prop:=PySem.Spec.ltCps b.cps.toList a.cps.toList=false
def a74{a b:Str}:leS a b↔¬ b.cps.toList<a.cps.toList:=by unfold leS;rw[PyProof.Rows.ltCps_eq];simp
def a75{a b c:Str}(h:leS a b)(g:leS b c):leS a c:=by
 rw[a74]at *;exact List.le_trans (α:=Nat) h g
def a9w{a b:Str}(h:leS a b)(g:leS b a):a=b:=by
 rw[a74]at *;have e:a.cps.toList=b.cps.toList:=List.le_antisymm (α:=Nat) h g;cases a;cases b;simpa using e
def b6i:∀{l:List Str}{p:Str},PyProof.Rows.risingS p l=true->(p::l).Pairwise leS:=by intro z0;induction z0 with
 |nil=>intro p _;exact du _ _
 |cons x r I0=>
  intro p h;unfold PyProof.Rows.risingS at h;rw[aQ,Bool.not_eq_true']at h;have b:=I0 h.2;refine av.mpr ⟨λy a=>?_,b⟩;rcases ag.mp a with rfl |a
  ·exact h.1
  ·exact a75 h.1 (dQ b a)
theorem b4w:∀{l:List Str},PyProof.Rows.sortedS l=true->l.Pairwise leS
 |[],_=>bG.nil
 |_::_,h=>b6i h
theorem a4d:∀{xs ys:List Str},xs.Pairwise leS->ys.Pairwise leS->xs.Perm ys->xs=ys
 |[],ys,_,_,h=>(List.nil_perm.mp h).symm
 |x::xs,[],_,_,h=>by have:=h.length_eq;simp at this
 |x::xs,y::ys,h1,h2,h=>by
  have e:x=y:=by
   have c:=h.mem_iff.mp (aX);have b:=h.mem_iff.mpr (aX);rcases ag.mp c with e |c
   ·omega
   ·rcases ag.mp b with e |b
    ·simp_all
    ·exact a9w (dQ h1 b) (dQ h2 c)
  subst e;rw[a4d (av.mp h1).2 (av.mp h2).2 h.cons_inv]
def isL(c:Nat):Prop:=97<=c/\c<=122
def nmOk(s:Str):Prop:=1<=s.cps.toList.length/\s.cps.toList.length<=8/\∀c∈s.cps.toList,isL c
def a1C(s:Str):s.length=s.cps.toList.length:=by rw[aF];rfl
def b4L:(Str.ofString "abcdefghijklmnopqrstuvwxyz").cps.toList=[97,98,99,100,101,102,103,104,105,106,107,108,109,110,111,112,113,114,115,116,117,118,119,120,121,122]:=by decide +kernel
def b0e(h0:0<=k)(h1:k<26):atI (Str.ofString "abcdefghijklmnopqrstuvwxyz").cps.toList k=some (97+k.toNat):=by
 obtain⟨j,rfl⟩:=cE h0;have a:j<26:=by lia
 refine a0W ?_
 have:∀j:Fin 26,([97,98,99,100,101,102,103,104,105,106,107,108,109,110,111,112,113,114,115,116,117,118,119,120,121,122])[j.1]?=some (97+j.1):=by decide
 exact this ⟨j,a⟩
def a9x(h:∀c∈s.cps.toList,isL c):PyData.strOk s=true:=by
 unfold PyData.strOk;rw[Array.all_eq_true_iff_forall_mem];intro c a
 have:=(h c (by simp_all)).2
 exact decide_eq_true (by lia)
def a3C(h:nmOk s):flat n (.str s)=true:=by
 have:=a9x h.2.2
 cases n<;>exact this
def a1O(a b:Str):(a++b).cps.toList=a.cps.toList++b.cps.toList:=by
 show (a.cps++b.cps).toList=_
 rw[Array.toList_append]
def b1M:P3:=λws G R=>∃r,ws=[.ref r]/\RowAt G r/\∀s G',nmOk s->RowAt G' r->Kq r G G'->R (.str s) G'
set_option tactic.hygienic true in
def b1N(T:Txt K mg base a):Cal P w K mg base CX0 2 "_law_name" (lowP K b1M):=by
 refine fnc 1 (N:=["row","letters","name","k"]) T.br (T.f 13 _ rfl) ?_;walk_at "in";refine⟨_,(by ac_rfl),?_⟩;obtain⟨r,rfl,hR,q⟩:=h;symm;refine a09 hR (by decide) (by decide) λf y w f0 f1 ok=>?_;symm;refine⟨by omega,by omega,?_⟩;have hR1:RowAt (put G r (RowO y w)) r:=RowAt.at ok;refine a0R (λi σ G'=>∃(s:Str)(v:Option Z),s.cps.toList.length=i/\(∀c∈s.cps.toList,isL c)/\σ=[some (.ref r),some (.str (Str.ofString "abcdefghijklmnopqrstuvwxyz")),some (.str s),v]/\RowAt G' r/\Kq r G G') ⟨Str.ofString "",_,by decide +kernel,λc h=>absurd h (by rw[show (Str.ofString "").cps.toList=[] by decide +kernel];simp),rfl,hR1,Kq.at⟩ (λ_ _ _ _ _=>True.intro) ?_ ?_
 ·rintro i x σ G' hx ⟨s,v,hs,hl,rfl,hR',hK⟩;obtain⟨hi,rfl⟩:=a2x hx;refine⟨_,rfl,?_⟩;symm;refine a09 hR' (by decide) (by decide) λg y2 w2 g0 g1 ok2=>?_;refine b07 (lenK rfl) (b0e g0 g1) ?_;refine a7d (a0C (by rw[a1C,hs];show i+1<=1000;omega)) ?_;symm;refine⟨_,_,?_,?_,rfl,RowAt.at ok2,hK.trans Kq.at⟩
  ·rw[a1O,ay,hs];rfl
  ·intro c hc;rw[a1O]at hc;rcases ah.mp hc with hc |hc
   ·exact hl c hc
   ·have:c=97+g.toNat:=by simpa using hc
    unfold isL;omega
 ·rintro σ G' ⟨s,v,hs,hl,rfl,hR',hK⟩;rw[a1m]at hs;symm;exact q s G' ⟨by omega,by omega,hl⟩ hR' hK
noncomputable def nx(L:List Nat)(p i:Nat):List Nat:=L.set p (97+(L.getD p 0-97+i) % 26)
noncomputable def nxS(L:List Nat)(p i:Nat):Str:=⟨(nx L p i).toArray⟩
def b1O{L:List Nat}{p:Nat}(hp:p<L.length)(hl:∀c∈L,isL c):nx L p 0=L:=by
 unfold nx;have e:L.getD p 0=L[p]:=by simp[bO,hp]
 have:=hl L[p] (bu hp)
 unfold isL at this;rw[e,cS,Nat.mod_eq_of_lt (by omega),show 97+(L[p] - 97)=L[p] by omega];exact List.set_getElem_self hp
def b0f{L:List Nat}{p i:Nat}(hp:p<L.length):(nx L p i)[p]?=some (97+(L.getD p 0-97+i) % 26):=by
 unfold nx;rw[cH hp]
def b4x{L:List Nat}{p i j:Nat}(hp:p<L.length)(hi:i<26)(hj:j<26)(h:nxS L p i=nxS L p j):i=j:=by
 have h':nx L p i=nx L p j:=by
  unfold nxS at h
  have:=congrArg (λs:Str=>s.cps.toList) h
  simpa using this
 have:=congrArg (·[p]?) h'
 simp only[b0f hp,aG.injEq]at this;omega
def a4e{L:List Nat}{p i:Nat}:(nx L p i).length=L.length:=by unfold nx;rw[d7]
def b6j{L:List Nat}{p i:Nat}(hl:∀c∈L,isL c):∀c∈nx L p i,isL c:=by
 intro c hc;unfold nx at hc;rcases List.mem_or_eq_of_mem_set hc with h |h
 ·exact hl c h
 ·rw[h];unfold isL;omega
def b1P{L:List Nat}{p i:Nat}(hp:p<L.length):(nx L p i).take p++[97+(L.getD p 0-97+i+1) % 26]++(nx L p i).drop (p+1)=nx L p (i+1):=by
 unfold nx;rw[eq (af _),ej (by omega),List.set_eq_take_append_cons_drop,if_pos hp];simp[cm]
def a9y{c:Nat}(h:isL c):a7x (Str.ofString "abcdefghijklmnopqrstuvwxyz") ⟨#[c]⟩=(c-97:Nat):=by
 obtain⟨h1,h2⟩:=h
 have:∀j:Fin 26,a7x (Str.ofString "abcdefghijklmnopqrstuvwxyz") ⟨#[97+j.1]⟩=(j.1:Int):=by decide +kernel
 have:=this ⟨c-97,by omega⟩
 simp only at this;rw[show 97+(c-97)=c by omega]at this;exact this
noncomputable def left(ns:List Str)(S:Nat->Str)(i:Nat):Nat:=(ns.filter λn=>(aC 26).any λj=>decide (i<=j)&&decide (n=S j)).length
theorem a4f{α:Type}{P Q:α->Bool}:∀{l:List α}{x:α},(∀y,Q y=true->P y=true)->x∈l->P x=true->Q x=false->(l.filter Q).length<(l.filter P).length
 |y::l,x,h,hx,hp,hq=>by
  have le:∀l:List α,(l.filter Q).length<=(l.filter P).length:=by
   intro l
   induction l with
   |nil=>simp
   |cons z l ih=>
    rw[bI,bI];cases hz:Q z with
    |true=>rw[h z hz];simp;exact ih
    |false=>cases P z<;>simp<;>omega
  rw[bI,bI];rcases ag.mp hx with rfl |hx
  ·rw[hp,hq]
   have:=le l
   simp;omega
  ·have ih:=a4f h hx hp hq;cases hz:Q y with
   |true=>rw[h y hz];simp;exact ih
   |false=>cases P y<;>simp<;>omega
def b1Q{ns:List Str}{S:Nat->Str}{i:Nat}(hS:∀i j,i<26->j<26->S i=S j->i=j)(hi:i<26)(h:S i∈ns):left ns S (i+1)<left ns S i:=by
 refine a4f (λy hy=>?_) h ?_ ?_
 ·obtain⟨j,h1,h2⟩:=bE.mp hy;simp only[aQ,decide_eq_true_eq]at h2;exact bE.mpr ⟨j,h1,by simp only[aQ,decide_eq_true_eq];exact⟨by omega,h2.2⟩⟩
 ·exact bE.mpr ⟨i,bx.mpr hi,by simp⟩
 ·rw[cK];intro j hj;simp only[aQ,decide_eq_true_eq,not_and];intro h1 h2
  have:=hS i j hi (bx.mp hj) h2
  omega
def b1R{ns:List Str}{S:Nat->Str}:left ns S 0<=ns.length:=cF _ _
def a9z{s:Str}{ns:List Str}:(Z.str s∈ns.map Z.str)=(s∈ns):=by
 rw[eq_iff_iff,az]
 constructor
 ·rintro⟨n,h,e⟩;cases e;exact h
 ·exact λh=>⟨s,h,rfl⟩
def a6c{ns:List Str}(h:∀s∈ns,nmOk s):(ns.map Z.str).all (flat 8)=true:=by
 rw[bg];intro x hx;obtain⟨s,hs,rfl⟩:=az.mp hx;exact a3C (h s hs)
def a9A:P3:=λws G R=>∃r n,ws=[.ref r,.int n]/\RowAt G r/\1<=n/\n<=20/\∀(t:Addr)(ns:List Str)(G':Hq),G t=none->G' t=some (.lst (ns.map Z.str))->(ns.length:Int)=n->(∀s∈ns,nmOk s)->RowAt G' r->Kq r G G'->R (.ref t) G'
def RowAt.ne{G:Hq}{r D:Addr}(h:RowAt G r)(n:G D=none):r≠D:=by obtain⟨_,_,e,_⟩:=h;exact a0i e n
def RowAt.kq{G G':Hq}{r p:Addr}(h:RowAt G r)(k:Kq p G G')(n:r≠p):RowAt G' r:=by obtain⟨x,w,e,o⟩:=h;exact⟨x,w,k r _ e n,o⟩
def a0B(l:List Nat):(⟨l.toArray⟩:Str).cps.toList=l:=by simp
def a76{a b:Str}(h:a.cps.toList=b.cps.toList):a=b:=by
 obtain⟨⟨x⟩⟩:=a;obtain⟨⟨y⟩⟩:=b;simpa using h
abbrev ABC:Z:=.str (Str.ofString "abcdefghijklmnopqrstuvwxyz")
set_option tactic.hygienic true in
def a9B(T:Txt K mg base a):Cal P w K mg base CX0 3 "_law_names" (lowP K a9A):=by
 refine fnc 2 (N:=["row","many","letters","names","name","at","sign"]) T.br (T.f 14 _ rfl) ?_;walk_at "in";refine⟨_,(a0c (by ac_rfl)
  (a0c (by ac_rfl)
  (a60 (a4p fH.never (by ac_rfl)
  (a0c (by ac_rfl)
  (a60 (by ac_rfl)
  (a0c (by ac_rfl)
  (a60 (a4p fH.never (by ac_rfl)
  (by ac_rfl))
  (by ac_rfl))))))
  (by ac_rfl)))),?_⟩
 obtain⟨r,n,rfl,hR,h1,h2,q⟩:=h;symm;refine⟨r,rfl,hR,λs0 G1 hs0 hR1 hK1=>?_⟩;symm;refine⟨lenK rfl,λt ht=>?_⟩;symm;have hne:=hR1.ne ht;have ht0:G t=none:=by
  cases e:G t with
  |none=>rfl
  |some o=>rw[hK1 t o e (Ne.symm hne)]at ht;cases ht
 refine a7c (fun σ' G'=>Ex4 λ(ns:List Str) (v1 v2 v3:Option Z)=>(ns.length:Int)=n/\(∀s∈ns,nmOk s)/\G' t=some (.lst (ns.map Z.str))/\RowAt G' r/\Kq r G G'/\σ'=[some (.ref r),some (.int n),some ABC,some (.ref t),v1,v2,v3]) ?_ ?_
 ·refine⟨λm σ' G'=>Ex4 λ(ns:List Str) (v1 v2 v3:Option Z)=>(ns.length:Int)+m=n/\1<=ns.length/\(∀s∈ns,nmOk s)/\G' t=some (.lst (ns.map Z.str))/\RowAt G' r/\Kq r G G'/\σ'=[some (.ref r),some (.int n),some ABC,some (.ref t),v1,v2,v3],⟨n.toNat-1,[s0],_,_,_,by simp;omega,by simp,λs hs=>by rw[ai.mp hs];exact hs0,a0a,hR1.new ht,hK1.trans (Kq.new ht),rfl⟩,?_⟩;rintro m σ' G' ⟨ns,v1,v2,v3,hm,hpos,hns,hgt,hR',hK,rfl⟩;symm;refine a3T hgt ?_;symm;rw[ae];refine ifD (λc=>?_) λc=>?_
  ·symm;obtain⟨a,as,ea⟩:∃a as,ns=a::as:=by cases ns with |nil=>simp at hpos |cons a as=>exact⟨a,as,rfl⟩
   refine a0t hgt (w:=.str a) (by rw[ea];exact at0) ?_;symm;refine a7c (fun σ' G2=>∃(s:Str)(v2 v3:Option Z),nmOk s/\G2 t=some (.lst (ns.map Z.str))/\RowAt G2 r/\Kq r G G2/\σ'=[some (.ref r),some (.int n),some ABC,some (.ref t),some (.str s),v2,v3]) ?_ ?_
   ·symm;refine a09 hR' (by decide) (by decide) λf y w f0 f1 ok=>?_;have gt2:put G' r (RowO y w) t=some (.lst (ns.map Z.str)):=by rw[a0q (Ne.symm hne)];exact hgt
    symm;refine ifD (λ_=>?_) λ_=>?_
    ·symm;refine⟨r,rfl,RowAt.at ok,λs G3 hs hR3 hK3=>?_⟩;symm;exact⟨s,_,_,hs,hK3 _ _ gt2 (Ne.symm hne),hR3,(hK.trans Kq.at).trans hK3,rfl⟩
    ·symm;exact⟨a,_,_,hns a (by rw[ea];simp),gt2,RowAt.at ok,hK.trans Kq.at,rfl⟩
   ·rintro σ2 G2 ⟨s,u2,u3,hs,hgt2,hR2,hK2,rfl⟩;symm;refine b3C (a0C (by rw[a1C];have:=hs.2.1;omega)) ?_;symm;refine a09 (n:=(s.length:Int)) hR2 (by rw[a1C];have:=hs.1;omega) (by rw[a1C];have:=hs.2.1;omega) λf y w f0 f1 ok=>?_;have gt3:put G2 r (RowO y w) t=some (.lst (ns.map Z.str)):=by rw[a0q (Ne.symm hne)];exact hgt2
    have hR3:RowAt (put G2 r (RowO y w)) r:=RowAt.at ok;have hK3:Kq r G (put G2 r (RowO y w)):=hK2.trans Kq.at
    generalize put G2 r (RowO y w)=G3 at gt3 hR3 hK3 ⊢;obtain⟨p,rfl⟩:=cE f0;have hp:p<s.cps.toList.length:=by rw[a1C]at f1;omega
    symm;refine a7c (fun σ' G'=>∃(s:Str)(v3:Option Z),nmOk s/\G'=G3/\σ'=[some (.ref r),some (.int n),some ABC,some (.ref t),some (.str s),some (.int p),v3]) ?_ ?_
    ·have hS:∀i j,i<26->j<26->nxS s.cps.toList p i=nxS s.cps.toList p j->i=j:=λi j hi hj h=>b4x hp hi hj h;refine⟨λm σ' G'=>∃(i:Nat)(v3:Option Z),m=left ns (nxS s.cps.toList p) i/\i+m<=ns.length/\G'=G3/\σ'=[some (.ref r),some (.int n),some ABC,some (.ref t),some (.str (nxS s.cps.toList p i)),some (.int p),v3],⟨_,0,_,rfl,by have:=@b1R ns (nxS s.cps.toList p);omega,rfl,by rw[show nxS s.cps.toList p 0=s from a76 (by unfold nxS;rw[a0B,b1O hp hs.2.2])];rfl⟩,?_⟩;rintro m' σ' G' ⟨i,v3,rfl,hle,rfl,rfl⟩;have hnm:nmOk (nxS s.cps.toList p i):=by
      unfold nxS;refine⟨?_,?_,?_⟩
      ·rw[a0B,a4e];exact hs.1
      ·rw[a0B,a4e];exact hs.2.1
      ·rw[a0B];exact b6j hs.2.2
     symm;refine b5T gt3 (a3C hnm) (a6c hns) ?_;symm;refine ifD (λc=>?_) λc=>?_
     ·rw[a9z]at c;have hi:i<26:=by omega
      have hlt:=b1Q hS hi c;have hsz:(nxS s.cps.toList p i).length<=sizeLine:=a0C (by rw[a1C];have:=hnm.2.1;omega);have hcl:(nxS s.cps.toList p i).cps.toList=nx s.cps.toList p i:=a0B _;have hch:isL (97+(s.cps.toList.getD p 0-97+i) % 26):=by unfold isL;omega
      symm;refine b07 hsz (a0W (by rw[hcl];exact b0f hp)) ?_;symm;refine i_I (show (0:Int)<26 by decide) ?_;rw[a9y hch];refine b07 (lenK rfl) (b0e (by omega) (by omega)) ?_;have hk:97+((((97+(s.cps.toList.getD p 0-97+i) % 26-97:Nat):Int)+1) % 26).toNat=97+(s.cps.toList.getD p 0-97+i+1) % 26:=by omega
      rw[hk];symm;refine b3A hsz ?_;symm;refine a7d (a0C ?_) ?_
      ·have:=Txt.slice_le (nxS s.cps.toList p i) none (some (p:Int))
       rw[a1C]at this;have h8:=hnm.2.1
       show (Txt.slice (nxS s.cps.toList p i) none (some (p:Int))).length+1<=1000
       rw[a1C];rw[a1C]at this;omega
      symm;refine b3A hsz ?_;have e1:Txt.slice (nxS s.cps.toList p i) none (some (p:Int))=⟨((nx s.cps.toList p i).take p).toArray⟩:=by
       have:=eq_of_beq (PyProof.Rows.slice_closes_to (x:=nxS s.cps.toList p i) (j:=(p:Int)) ⟨by omega,by rw[hcl,a4e];omega⟩)
       rw[this,hcl];simp
      have e2:Txt.slice (nxS s.cps.toList p i) (some ((p:Int)+1)) none=⟨((nx s.cps.toList p i).drop (p+1)).toArray⟩:=by
       have:=PyProof.Rows.slice_from_eq (x:=nxS s.cps.toList p i) (i:=(p:Int)+1) (b:=((nxS s.cps.toList p i).length:Int)) (by omega) (by rw[a1C,hcl,a4e];omega) rfl
       rw[this,hcl,a1C,hcl];rw[bC (by rw[aT];omega)]
       rfl
      refine a7d (a0C ?_) ?_
      ·have a1:(Txt.slice (nxS s.cps.toList p i) none (some (p:Int))).length=p:=by
        rw[e1,a1C,a0B,aA,a4e];omega
       have a2:=Txt.slice_le (nxS s.cps.toList p i) (some ((p:Int)+1)) none;rw[a1C (nxS s.cps.toList p i)]at a2;have a3:(Txt.slice (nxS s.cps.toList p i) none (some (p:Int))++(⟨#[97+(s.cps.toList.getD p 0-97+i+1) % 26]⟩:Str)).length=p+1:=by
        rw[a1C,a1O,ay,<- a1C,a1];rfl
       rw[a3]
       have:=hnm.2.1
       have:=hs.2.1
       omega
      have e3:Txt.slice (nxS s.cps.toList p i) none (some (p:Int))++(⟨#[97+(s.cps.toList.getD p 0-97+i+1) % 26]⟩:Str)++Txt.slice (nxS s.cps.toList p i) (some ((p:Int)+1)) none=nxS s.cps.toList p (i+1):=by
       refine a76 ?_;rw[a1O,a1O,e1,e2,a0B,a0B];unfold nxS;rw[a0B,<- b1P hp]
      rw[e3];symm;exact⟨_,hlt,i+1,_,rfl,by omega,rfl,rfl⟩
     ·exact⟨_,_,hnm,rfl,rfl⟩
    ·rintro σ4 G4 ⟨s4,v3,hs4,rfl,rfl⟩;symm;refine a0M gt3 ?_;symm;refine a0y gt3 (by rw[ae];exact a0f (by omega)) ?_;refine⟨m-1,by omega,ns++[s4],_,_,_,by simp;omega,by simp,λs h=>?_,by rw[a0a,au];rfl,?_,?_,rfl⟩
     ·rcases ah.mp h with h |h
      ·exact hns s h
      ·rw[ai.mp h];exact hs4
     ·exact hR3.kq Kq.at hne
     ·exact λb o e nb=>by
       have hb:=hK3 b o e nb;rw[a0q]
       ·exact hb
       ·rintro rfl;rw[ht0]at e;cases e
  ·exact⟨ns,_,_,_,by omega,hns,hgt,hR',hK,rfl⟩
 ·rintro σ' G' ⟨ns,v1,v2,v3,hm,hns,hgt,hR',hK,rfl⟩;symm;exact q t ns G' ht0 hgt hm hns hR' hK
noncomputable def T12:Int:=1000000000000
def stOk(b:Int)(e:Option Int):Prop:=0<=b/\b<=T12/\∀x,e=some x->b<x/\x<=T12
noncomputable def stOk.bef(h:stOk b e):bef b e=true:=by
 cases e with
 |none=>rfl
 |some x=>simp only[Lw.bef,decide_eq_true_eq];exact (h.2.2 x rfl).1
def a6d:P3:=λws G R=>∃r,ws=[.ref r]/\RowAt G r/\∀b e G',stOk b e->RowAt G' r->Kq r G G'->R (.tup [.int b,oz e]) G'
def at6{a b c d e f:Int}{k:Int}(h0:0<=k)(h1:k<6){P:Int->Prop}(pa:P a)(pb:P b)(pc:P c)(pd:P d)(pe:P e)(pf:P f):∃n,atI [Z.int a,.int b,.int c,.int d,.int e,.int f] k=some (.int n)/\P n/\(k=0->n=a)/\(k=1->n=b):=by
 have:k=0\/k=1\/k=2\/k=3\/k=4\/k=5:=by omega
 rcases this with rfl |rfl |rfl |rfl |rfl |rfl
 ·exact⟨_,rfl,pa,λ_=>rfl,λh=>absurd h (by decide)⟩
 ·exact⟨_,rfl,pb,λh=>absurd h (by decide),λ_=>rfl⟩
 ·exact⟨_,rfl,pc,λh=>absurd h (by decide),λh=>absurd h (by decide)⟩
 ·exact⟨_,rfl,pd,λh=>absurd h (by decide),λh=>absurd h (by decide)⟩
 ·exact⟨_,rfl,pe,λh=>absurd h (by decide),λh=>absurd h (by decide)⟩
 ·exact⟨_,rfl,pf,λh=>absurd h (by decide),λh=>absurd h (by decide)⟩
def a9C:(10:Int) ^ (12:Int).toNat=1000000000000:=by decide
set_option tactic.hygienic true in
def a6e(T:Txt K mg base a):Cal P w K mg base CX0 2 "_law_stretch" (lowP K a6d):=by
 refine fnc 1 (N:=["row","kind","begin","end"]) T.br (T.f 15 _ rfl) ?_;walk_at "in";refine⟨_,(a0c (by ac_rfl)
  (a0c (by ac_rfl)
  (a60 (by ac_rfl)
  (by ac_rfl)))),?_⟩
 obtain⟨r,rfl,hR,q⟩:=h;symm;refine a09 hR (by decide) (by decide) λkd y w d0 d1 ok=>?_;have hR1:RowAt (put G r (RowO y w)) r:=RowAt.at ok;have hK1:Kq r G (put G r (RowO y w)):=Kq.at
 generalize put G r (RowO y w)=G1 at hR1 hK1 ⊢;symm;refine i_I ⟨by decide,by decide,by decide⟩ ?_;rw[a9C];symm;refine⟨lenK rfl,λa ha=>?_⟩;symm;obtain⟨n,hn,⟨hn0,hn1⟩,hn2,hn3⟩:=at6 (a:=1000000000000+1) (b:=12) (c:=20) (d:=20) (e:=20) (f:=20) (P:=λn=>0<n/\n<=1000000000001) d0 d1 (by decide) (by decide) (by decide) (by decide) (by decide) (by decide);refine a0t a0a hn ?_;symm;refine a09 (n:=n) (hR1.new ha) hn0 (by omega) λf y2 w2 f0 f1 ok2=>?_;have hK2:Kq r G (put (put G1 a (.lst [.int (1000000000000+1),.int 12,.int 20,.int 20,.int 20,.int 20])) r (RowO y2 w2)):=(hK1.trans (Kq.new ha)).trans Kq.at
 have hR2:RowAt (put (put G1 a (.lst [.int (1000000000000+1),.int 12,.int 20,.int 20,.int 20,.int 20])) r (RowO y2 w2)) r:=RowAt.at ok2;generalize put (put G1 a (.lst [.int (1000000000000+1),.int 12,.int 20,.int 20,.int 20,.int 20])) r (RowO y2 w2)=G2 at hR2 hK2 ⊢;symm;refine a7c (fun σ' G'=>∃(b:Int),0<=b/\b<=T12/\G'=G2/\σ'=[some (.ref r),some (.int kd),some (.int b),none]) ?_ ?_
 ·symm;refine ifD (λc=>?_) λc=>?_
  ·symm;refine i_I ⟨by decide,by decide,by decide⟩ ?_;rw[a9C];symm
   have:=hn3 c
   exact⟨1000000000000-f,by omega,by unfold T12;omega,rfl,rfl⟩
  ·symm;refine⟨f,f0,by unfold T12;omega,rfl,rfl⟩
 ·rintro σ' G' ⟨b,hb0,hb1,rfl,rfl⟩;symm;refine a09 hR2 (by decide) (by decide) λkd2 y3 w3 e0 e1 ok3=>?_;have hR3:RowAt (put G' r (RowO y3 w3)) r:=RowAt.at ok3;have hK3:Kq r G (put G' r (RowO y3 w3)):=hK2.trans Kq.at
  generalize put G' r (RowO y3 w3)=G3 at hR3 hK3 ⊢;symm;refine i_I ⟨by decide,by decide,by decide⟩ ?_;rw[a9C];symm;refine⟨lenK rfl,λa2 ha2=>?_⟩;symm;obtain⟨n2,hm,⟨hm0,hm1⟩,_,_⟩:=at6 (a:=1000000000000) (b:=1) (c:=4) (d:=12) (e:=30) (f:=30) (P:=λn=>0<n/\n<=1000000000001) e0 e1 (by decide) (by decide) (by decide) (by decide) (by decide) (by decide);refine a0t a0a hm ?_;symm;refine a09 (n:=n2) (hR3.new ha2) hm0 (by omega) λf2 y4 w4 g0 g1 ok4=>?_;have hK4:=(hK3.trans (Kq.new (o:=.lst [.int 1000000000000,.int 1,.int 4,.int 12,.int 30,.int 30]) ha2)).trans (Kq.at (o:=RowO y4 w4));symm;refine i_I ⟨by decide,by decide,by decide⟩ ?_;rw[a9C];symm;refine ifD (λc=>?_) λc=>?_
  ·symm;refine⟨lenK rfl,?_⟩;exact q b none _ ⟨hb0,hb1,λx h=>nomatch h⟩ (RowAt.at ok4) hK4
  ·symm;refine ifD (λc2=>?_) λc2=>?_
   ·symm;refine⟨lenK rfl,?_⟩;exact q b none _ ⟨hb0,hb1,λx h=>nomatch h⟩ (RowAt.at ok4) hK4
   ·symm;refine⟨lenK rfl,?_⟩;refine q b (some (b+1+f2)) _ ⟨hb0,hb1,λx h=>?_⟩ (RowAt.at ok4) hK4;cases h;unfold T12;omega
def a4K:P3:=λws G R=>∃p puts t,ws=[.ref p,.int t]/\G p=some (.lst (puts.map Rw.z))/\One puts/\R (a0m puts t) G
set_option tactic.hygienic true in
def a4L(T:Txt K mg base a):Cal P w K mg base CX0 1 "_law_worth_at" (lowP K a4K):=by
 refine fnc 2 (N:=["puts","moment","begin","end","worth"]) T.br (T.f 16 _ rfl) ?_;walk_at "in";refine⟨_,(a0c (a2f (pt:=(.tp [2,3,4])) fH.never rfl (a4B rfl (T.b 5) (q_k (qv 0) a2w)) (by ac_rfl)
  (by ac_rfl))
  (by ac_rfl)),?_⟩
 obtain⟨p,puts,t,rfl,hp,h1,q⟩:=h;symm;refine⟨p,_,rfl,hp,?_⟩;rw[<- List.map_reverse];refine a0R (λi σ G'=>∃v1 v2 v3:Option Z,(∀(j:Nat) r,j<i->puts.reverse[j]?=some r->r.has t=false)/\σ=[some (.ref p),some (.int t),v1,v2,v3]/\G'=G) ⟨_,_,_,λj r hj=>by omega,rfl,rfl⟩ (by rintro i σ G' _ ⟨_,_,_,_,_,e⟩;exact by rw[e];exact hp) ?_ ?_
 ·rintro i x σ G' hx ⟨v1,v2,v3,hall,rfl,rfl⟩;rw[aq]at hx;cases hx':puts.reverse[i]? with
  |none=>rw[hx']at hx;cases hx
  |some r=>
   rw[hx']at hx;cases hx;obtain⟨x,ex⟩:=h1 r (by have:=aD hx';simpa using this);have hfind:r.has t=true->a0m puts t=x:=λhh=>by
    unfold a0m
    have:puts.reverse.find? (·.has t)=some r:=by
     rw[List.find?_eq_some_iff_getElem];obtain⟨hi,e⟩:=aj.mp hx';exact⟨hh,i,hi,e,λj hj=>by
      rw[hall j _ hj (ak (by omega))];rfl⟩
    rw[this]
    show r.w.headD .non=x
    rw[ex];rfl
   have hno:r.has t=false->∀(j:Nat) r,j<i+1->puts.reverse[j]?=some r->r.has t=false:=λhh j s hj e=>by
    by_cases hji:j<i
    ·exact hall j s hji e
    ·have:j=i:=by omega
     subst this;rw[hx']at e;cases e;exact hh
   obtain⟨b,e,w⟩:=r;cases ex;refine⟨_,rfl,?_⟩;symm;refine ifD (λc=>?_) λc=>?_
   ·cases e with
    |none=>
     symm
     have:=hfind (by unfold Rw.has bef;simpa using c)
     rw[this]at q;exact q
    |some e=>
     symm;refine ifD (λc2=>?_) λc2=>?_
     ·symm
      have:=hfind (by unfold Rw.has bef;simp[c,c2])
      rw[this]at q;exact q
     ·symm;exact⟨_,_,_,hno (by unfold Rw.has bef;simp[c2]),rfl,rfl⟩
   ·refine ifF ?_;symm;exact⟨_,_,_,hno (by unfold Rw.has;simp[c]),rfl,rfl⟩
 ·rintro σ G' ⟨v1,v2,v3,hall,rfl,rfl⟩;symm
  have:a0m puts t=.non:=by
   unfold a0m
   have:puts.reverse.find? (·.has t)=none:=by
    rw[cY];intro r hr;obtain⟨j,hj⟩:=bn hr;have hlt:=(aj.mp hj).1;rw[hall j r (by rw[ae];exact hlt) hj]
    decide
   rw[this]
  rw[this]at q;exact q
def a6f(kvs:List (Key×Z))(ns:List Int):Prop:=kvs.map (·.1)=ns.map λi=>Sum.inl (some i)
def a5B{kvs:List (Key×Z)}{ns:List Int}(h:a6f kvs ns)(hd:ns.Nodup)(x:Int)(v:Z):∃ms,a6f (putZ kvs (.inl (some x)) v) ms/\ms.Nodup/\ms.length<=ns.length+1/\∀y,y∈ms↔y∈ns\/y=x:=by
 unfold putZ;have hany:(kvs.any λkv=>decide (kv.1=Sum.inl (some x)))=decide (x∈ns):=by
  rw[bY];simp only[bE,decide_eq_true_eq]
  constructor
  ·rintro⟨kv,h1,h2⟩
   have:kv.1∈ns.map (λi=>(Sum.inl (some i):Key)):=by rw[<- h];exact bN h1
   obtain⟨n,h3,h4⟩:=az.mp this;rw[h2]at h4;cases h4;exact h3
  ·intro hx
   have:Sum.inl (some x)∈kvs.map (·.1):=by rw[h];exact bN hx
   obtain⟨kv,h3,h4⟩:=az.mp this;exact⟨kv,h3,h4⟩
 rw[hany]
 by_cases hx:x∈ns
 ·rw[decide_eq_true hx,if_pos rfl];refine⟨ns,?_,hd,by omega,λy=>⟨.inl,λh=>h.elim id λe=>e▸hx⟩⟩;unfold a6f at h ⊢;rw[<- h,aZ];refine dI λkv _=>?_
  show (if kv.1=Sum.inl (some x) then (kv.1,v) else kv).1=kv.1
  split<;>rfl
 ·rw[decide_eq_false hx,if_neg (by decide)];refine⟨ns++[x],?_,?_,by simp,λy=>by simp⟩
  ·unfold a6f;rw[au,h,au];rfl
  ·rw[cp];exact⟨hd,by simp,λa ha b hb=>by rw[ai.mp hb];rintro rfl;exact hx ha⟩
def a77{ms:List Int}(h:ms.Pairwise (·<=·))(hd:ms.Nodup):ms.Pairwise (·<·):=by
 have:=h.and hd
 exact this.imp λ⟨a,b⟩=>by omega
def a5C(h:a6f kvs ns):kvs.length=ns.length:=by
 have:=congrArg bA h
 simpa using this
def a78:P3:=λws G R=>∃p rows,ws=[.ref p]/\G p=some (.lst (rows.map Rw.z))/\rows.length<=400/\∀(t:Addr)(ms:List Int)(G':Hq),G t=none->Sm G G'->G' t=some (.lst (ms.map Z.int))->a0V rows ms->ms.length<=2*rows.length->R (.ref t) G'
def a1P{α:Type}{l:List α}{i:Nat}{x:α}(h:l[i]?=some x){P:α->Prop}:(∃r∈l.take (i+1),P r)↔(∃r∈l.take i,P r)\/P x:=by
 rw[bJ,h]
 constructor
 ·rintro⟨r,hr,hp⟩;rcases ah.mp hr with hr |hr
  ·exact .inl ⟨r,hr,hp⟩
  ·have:r=x:=by simpa using hr
   exact .inr (this▸hp)
 ·rintro (⟨r,hr,hp⟩ |hp)
  ·exact⟨r,by simp[hr],hp⟩
  ·exact⟨x,by simp,hp⟩
set_option tactic.hygienic true in
def a79(T:Txt K mg base a):Cal P w K mg base CX0 1 "_law_bounds" (lowP K a78):=by
 refine fnc 1 (N:=["rows","found","row"]) T.br (T.f 17 _ rfl) ?_;walk_at "in";refine⟨_,(a0c (z_st (nmI 1 nd) a9X)
  (a0c (a2f (pt:=(.nm 2)) fH.never rfl (by ac_rfl) (p_nm (nmI 2 nd))
  (a0c (a2W q_bl (qv 1) (by ac_rfl) (a96 hu))
  (a1t (z_if (by ac_rfl)
  (a1t (a2W q_bl (qv 1) (by ac_rfl) (a96 hu)))
  a2G))))
  (a1t (a4o (q_B (a9b rfl) (T.b 0) (q_k (qv 1) a2w)))))),?_⟩
 obtain⟨p,rows,rfl,hp,hz,q⟩:=h;symm;intro d hd;symm;refine a1g (a0b hp hd) ?_;refine a0R (λi σ G'=>∃(v:Option Z)(kvs:List (Key×Z))(ns:List Int),a6f kvs ns/\ns.Nodup/\ns.length<=2*i/\(∀x,x∈ns↔∃r∈rows.take i,x=r.b\/r.e=some x)/\σ=[some (.ref p),some (.ref d),v]/\G'=put G d (.dK kvs)) ⟨_,[],[],rfl,.nil,by simp,λx=>by simp,rfl,rfl⟩ (by rintro i σ G' _ ⟨_,_,_,_,_,_,_,_,e⟩;exact by rw[e];exact a0b hp hd) ?_ ?_
 ·rintro i x σ G' hx ⟨v,kvs,ns,hk,hnd,hl,hmem,rfl,rfl⟩;rw[aq]at hx;cases hx':rows[i]? with
  |none=>rw[hx']at hx;cases hx
  |some r=>
   rw[hx']at hx;cases hx;have hi:=(aj.mp hx').1;refine⟨_,rfl,?_⟩;obtain⟨b,e,w⟩:=r;symm;refine a02 at0 ?_;obtain⟨ms,hk1,hd1,hl1,hm1⟩:=a5B hk hnd b (.bl true);refine a97 a0a rfl (by rw[a5C hk];exact a0f (by omega)) ?_;rw[a1Y];generalize putZ kvs (.inl (some b)) (.bl true)=kvs1 at hk1 ⊢;cases e with
   |none=>
    symm;refine a02 at1 ?_;symm;refine⟨_,kvs1,ms,hk1,hd1,by omega,λx=>?_,rfl,rfl⟩;rw[hm1,hmem,a1P hx'];simp
   |some e=>
    symm;refine a02 at1 ?_;symm;refine a02 at1 ?_;obtain⟨ms2,hk2,hd2,hl2,hm2⟩:=a5B hk1 hd1 e (.bl true);refine a97 a0a rfl (by rw[a5C hk1];exact a0f (by omega)) ?_;rw[a1Y];refine⟨_,_,ms2,hk2,hd2,by omega,λx=>?_,rfl,rfl⟩;rw[hm2,hm1,hmem,a1P hx'];simp only[aG.injEq]
    constructor
    ·rintro ((h |h) |h)
     ·exact .inl h
     ·exact .inr (.inl h)
     ·exact .inr (.inr h.symm)
    ·rintro (h |h |h)
     ·exact .inl (.inl h)
     ·exact .inl (.inr h)
     ·exact .inr h.symm
 ·rintro σ G' ⟨v,kvs,ns,hk,hnd,hl,hmem,rfl,rfl⟩;rw[ae]at hl hmem;rw[bP]at hmem;symm;refine a7C a0a hk (by omega) λt ms ht hperm hpw=>?_;refine q t ms _ ((Sm.new (o:=.dK kvs) hd).free ht) ((Sm.new (o:=.dK kvs) hd).trans (Sm.new ht)) a0a ⟨a77 hpw (hperm.nodup_iff.mpr hnd),λx=>?_⟩ (by rw[hperm.length_eq];exact hl);rw[hperm.mem_iff];exact hmem x
def a8a(h1:flat 8 x=true)(h2:flat 8 y=true)(h:R (.bl (f (decide (x=y)))) G):zEq f x y G R:=by
 cases x<;>cases y<;>first
  |exact⟨h1,h2,h⟩
  | (simp at h1;done)
  | (simp[flat]at h2;done)
  | (rw[a0n (Z.int.injEq _ _)]at h;exact h)
  | (rw[a0n (Z.str.injEq _ _)]at h;exact h)
noncomputable def LT:List Z:=[.ty "list",.ty "tuple"]
def i_lt{G:Hq}{R:K3}{x:Z}{n:String}{b:Bool}(e:tyN G x=some n)(k:kitA n ["list","tuple"]=some b)(h:R (.bl b) G):b1l [x,.tup [.ty "list",.ty "tuple"]] G R:=b3V (Ts:=["list","tuple"]) e k h
def b0g{G:Hq}{R:K3}{x:Z}{xs:List Z}(e:srcZ G x=some xs)(h:R (.int xs.length) G):zLen [x] G R:=by
 cases x with
 |ref p=>
  simp only[srcZ]at e;cases hp:G p with
  |none=>rw[hp]at e;cases e
  |some o=>rw[hp]at e;cases o with
   |lst ws=>cases e;exact⟨_,hp,h⟩
   |_=>cases e
 |tup ws=>cases e;exact h
 |_=>cases e
def a5D:Nat->P3
 |0=>λ_ _ _=>False
 |d+1=>λws G R=>∃x y,ws=[x,y]/\((flat d x=true/\flat d y=true/\R (.bl (decide (x=y))) G) \/
  Ex4 λp q xs ys=>x=.ref p/\y=.ref q/\1<=d/\G p=some (.lst xs)/\G q=some (.lst ys)/\xs.all (flat (d-1))=true/\ys.all (flat (d-1))=true/\R (.bl (decide (xs=ys))) G)
abbrev b1S:P3:=a5D 3
def zip2{xs ys:List Z}{i:Nat}{w:Z}(h:(zipZ [xs,ys])[i]?=some w):∃a b,w=.tup [a,b]/\xs[i]?=some a/\ys[i]?=some b:=by
 obtain⟨vs,rfl,e⟩:=(a0T [xs,ys] (by simp) i w).mp h
 match vs,e with
 |[],e=>simp at e
 |[_],e=>simp at e
 |[a,b],e=>
  simp only[am,aO,bh.injEq,and_true]at e;exact⟨a,b,rfl,e.1,e.2⟩
 |_::_::_::_,e=>simp at e
def a4M{xs ys:List Z}(h:xs.length=ys.length):(zipZ [xs,ys]).length=xs.length:=by
 have key:∀i,(∃w,(zipZ [xs,ys])[i]?=some w)↔i<xs.length:=λi=>by
  constructor
  ·rintro⟨w,hw⟩;obtain⟨a,b,_,ha,_⟩:=zip2 hw;exact (aj.mp ha).1
  ·intro hi;refine⟨.tup [xs[i],ys[i]'(by omega)],(a0T [xs,ys] (by simp) i _).mpr ⟨_,rfl,?_⟩⟩;simp only[am,aO,bh.injEq,and_true];exact⟨ak hi,ak (by omega)⟩
 have h1:=key (zipZ [xs,ys]).length;have h2:=key xs.length
 by_cases c:(zipZ [xs,ys]).length<xs.length
 ·obtain⟨w,hw⟩:=h1.mpr c
  have:=(aj.mp hw).1
  omega
 ·by_cases c2:xs.length<(zipZ [xs,ys]).length
  ·have:=h2.mp ⟨_,ak c2⟩
   omega
  ·omega
def a12(T:Txt K mg base a):Cal P w K mg base CX0 3 "_law_same" (lowP K b1S):=by
 refine Nat.rec (motive:=λd=>Cal P w K mg base CX0 (0+d) "_law_same" (lowP K (a5D d))) (fnc0 2 (N:=["found","due","one","other"]) T.br (T.f 18 _ rfl) λws G R h=>h) (λd G_same=>?_) 3;refine fnc 2 (N:=["found","due","one","other"]) (k:=0+d) T.br (T.f 18 _ rfl) ?_ (len:=λws G R h=>(by obtain⟨_,_,rfl,_⟩:=h;rfl));walk_at "in";refine⟨_,(a0c (z_if (a3l (q_B a95 (T.b 6) (by ac_rfl)))
  (a0c (z_if (QW.qt (q_or (by ac_rfl) (a6Y (a18 (a3l (q_B a95 (T.b 6) (by ac_rfl)))))))
  (by ac_rfl)
  a2G)
  (a0c (by ac_rfl)
  (a0c (a2f (pt:=(.tp [2,3])) fH.never rfl (a7G (n:=2) zok2 (by decide) rfl (T.b 3) (q_k (qv 0) (q_k (qv 1) a2w)) (he:=se_ rfl) (hpl:=hp_ rfl)) (by ac_rfl)
  (a1t (z_if (a18 (a3l (q_c G_same hr (q_k (qv 2) (q_k (qv 3) a2w)) (hk:=by omega))))
  (by ac_rfl)
  a2G)))
  (by ac_rfl))))
  a2G)
  (by ac_rfl)),?_⟩
 obtain⟨x,y,rfl,h⟩:=h
 by_cases pr:Ex4 λ(n:String) (d':Nat) (xs ys:List Z)=>d=d'+1/\(n="list"\/n="tuple")/\tyN G x=some n/\tyN G y=some n/\srcZ G x=some xs/\srcZ G y=some ys/\xs.all (flat d')=true/\ys.all (flat d')=true/\R (.bl (decide (xs=ys))) G
 ·clear h;obtain⟨n,d',xs,ys,hd,hn,tx,ty,sx,sy,fx,fy,q⟩:=pr;subst hd;have kA:kitA n ["list","tuple"]=some true:=by rcases hn with rfl |rfl<;>decide +kernel
  obtain⟨b,kb⟩:∃b,kit0 n "list"=some b:=by rcases hn with rfl |rfl<;>exact⟨_,rfl⟩
  symm;refine⟨lenK rfl,?_⟩;symm;refine i_lt ty kA ?_;symm;refine a03 tx kb ?_;symm;refine a03 ty kb ?_;symm;rw[beq_self_eq_true];refine ifF ?_;symm;refine⟨lenK rfl,?_⟩;symm;refine i_lt tx kA ?_;symm;refine ifF ?_;symm;refine b0g sx ?_;symm;refine b0g sy ?_;symm;refine ifN (λc=>?_) λc=>?_
  ·symm;rw[decide_eq_false (λz=>c (by rw[z]))]at q;exact q
  ·have hl:xs.length=ys.length:=by omega
   symm;refine⟨[xs,ys],by simp[sx,sy],by simp,rfl,?_⟩;refine a0R (λi σ G'=>∃v1 v2:Option Z,(∀j,j<i->xs[j]?=ys[j]?)/\σ=[some x,some y,v1,v2]/\G'=G) ⟨_,_,λj hj=>by omega,rfl,rfl⟩ (by rintro i σ G' _ ⟨_,_,_,_,e⟩;exact by rw[e];simp[sx,sy]) ?_ ?_
   ·rintro i w σ G' hw ⟨v1,v2,hall,rfl,rfl⟩;obtain⟨a,b,rfl,ha,hb⟩:=zip2 hw;have fa:=bg.mp fx a (aD ha);have fb:=bg.mp fy b (aD hb);refine⟨_,rfl,?_⟩;symm;refine⟨a,b,rfl,.inl ⟨fa,fb,?_⟩⟩;symm;refine ifN (λc=>?_) λc=>?_
    ·symm;rw[decide_eq_false (λz=>c (by rw[z,hb]at ha;cases ha;rfl))]at q;exact q
    ·symm;refine⟨_,_,λj hj=>?_,rfl,rfl⟩
     by_cases hji:j<i
     ·exact hall j hji
     ·have:j=i:=by omega
      subst this;rw[ha,hb,c]
   ·rintro σ G' ⟨v1,v2,hall,rfl,rfl⟩;rw[a4M hl]at hall;symm
    have:xs=ys:=by
     refine cU λj=>?_
     by_cases hj:j<xs.length
     ·exact hall j hj
     ·rw[cD (by omega),cD (by omega)]
    rw[decide_eq_true this]at q;exact q
 rcases h with ⟨fx,fy,q⟩ |⟨p,p',xs,ys,rfl,rfl,hd,hp,hp',fx,fy,q⟩
 ·cases y with
  |non=>
   symm;refine⟨lenK rfl,?_⟩;symm;refine i_lt (n:="NoneType") (b:=false) rfl (by decide +kernel) ?_;symm;exact q
  |int j=>
   symm;refine⟨lenK rfl,?_⟩;symm;refine i_lt (n:="int") (b:=false) rfl (by decide +kernel) ?_;symm;refine a03 (n:="int") (b:=false) rfl rfl ?_;symm;cases x with
   |int i=>
    refine a03 (n:="int") (b:=true) rfl rfl ?_;symm;refine a03 (n:="int") (b:=false) rfl rfl ?_;symm;refine ifT ?_;symm;rw[a0n (Z.int.injEq _ _)]at q;exact q
   |non=>
    refine a03 (n:="NoneType") (b:=false) rfl rfl ?_;symm;exact q
   |str s=>
    refine a03 (n:="str") (b:=false) rfl rfl ?_;symm;exact q
   |tup s=>
    refine a03 (n:="tuple") (b:=false) rfl rfl ?_;symm;exact q
   |_=>cases d<;>cases fx
  |str t=>
   symm;refine⟨lenK rfl,?_⟩;symm;refine i_lt (n:="str") (b:=false) rfl (by decide +kernel) ?_;symm;refine a03 (n:="str") (b:=true) rfl rfl ?_;symm;cases x with
   |int i=>
    refine a03 (n:="int") (b:=false) rfl rfl ?_;symm;exact q
   |non=>
    refine a03 (n:="NoneType") (b:=false) rfl rfl ?_;symm;exact q
   |str s=>
    refine a03 (n:="str") (b:=true) rfl rfl ?_;symm;rw[a0n (Z.str.injEq _ _)]at q;exact q
   |tup s=>
    refine a03 (n:="tuple") (b:=false) rfl rfl ?_;symm;exact q
   |_=>cases d<;>cases fx
  |tup ys=>
   obtain⟨d',rfl⟩:∃d',d=d'+1:=by cases d with |zero=>cases fy |succ d'=>exact⟨d',rfl⟩
   cases x with
   |tup xs=>
    rw[a0n (Z.tup.injEq _ _)]at q;exact absurd ⟨"tuple",d',xs,ys,rfl,.inr rfl,rfl,rfl,rfl,rfl,fx,fy,q⟩ pr
   |non=>
    symm;refine⟨lenK rfl,?_⟩;symm;refine i_lt (n:="tuple") (b:=true) rfl (by decide +kernel) ?_;symm;refine a03 (n:="NoneType") (b:=false) rfl rfl ?_;symm;refine a03 (n:="tuple") (b:=false) rfl rfl ?_;symm;refine ifF ?_;symm;refine⟨lenK rfl,?_⟩;symm;refine i_lt (n:="NoneType") (b:=false) rfl (by decide +kernel) ?_;symm;refine ifT ?_;symm;exact q
   |int i=>
    symm;refine⟨lenK rfl,?_⟩;symm;refine i_lt (n:="tuple") (b:=true) rfl (by decide +kernel) ?_;symm;refine a03 (n:="int") (b:=false) rfl rfl ?_;symm;refine a03 (n:="tuple") (b:=false) rfl rfl ?_;symm;refine ifF ?_;symm;refine⟨lenK rfl,?_⟩;symm;refine i_lt (n:="int") (b:=false) rfl (by decide +kernel) ?_;symm;refine ifT ?_;symm;exact q
   |str s=>
    symm;refine⟨lenK rfl,?_⟩;symm;refine i_lt (n:="tuple") (b:=true) rfl (by decide +kernel) ?_;symm;refine a03 (n:="str") (b:=false) rfl rfl ?_;symm;refine a03 (n:="tuple") (b:=false) rfl rfl ?_;symm;refine ifF ?_;symm;refine⟨lenK rfl,?_⟩;symm;refine i_lt (n:="str") (b:=false) rfl (by decide +kernel) ?_;symm;refine ifT ?_;symm;exact q
   |_=>cases fx
  |_=>cases d<;>cases fy
 ·obtain⟨d',rfl⟩:∃d',d=d'+1:=⟨d-1,by omega⟩;exact absurd ⟨"list",d',xs,ys,rfl,.inl rfl,by simp[tyN,hp],by simp[tyN,hp'],by simp[srcZ,hp],by simp[srcZ,hp'],fx,fy,q⟩ pr
def Plain(l:List Rw):Prop:=∀r∈l,∃x,r.w=[x]/\flat 0 x=true
def Plain.one(h:Plain l):One l:=λr a=>by obtain⟨x,e,_⟩:=h r a;exact⟨x,e⟩
def Plain.okR(h:Plain l):OkR l:=λr a=>by
 obtain⟨x,e,f⟩:=h r a;rw[e];exact b4v (a0r (by simp) f)
def Plain.nil:Plain []:=λr hr=>by simp at hr
def a1k(h:Plain puts)(t:Int):flat 0 (a0m puts t)=true:=by
 unfold a0m;cases e:puts.reverse.find? _ with
 |none=>rfl
 |some r=>
  obtain⟨x,a,f⟩:=h r (by have:=eV e;simpa using this)
  show flat 0 (r.w.headD .non)=true
  rw[a];exact f
def b4y{ms:List Int}{i:Nat}(hi:i<ms.length):atI (ms.map Z.int++[Z.non]) ((i:Int)+1)=some (oz ms[i+1]?):=by
 refine a0W (j:=i+1) ?_
 by_cases c:i+1<ms.length
 ·rw[bS (by rw[ae];exact c),aq,ak c];rfl
 ·have:i+1=ms.length:=by omega
  rw[bR (by rw[ae];omega),ae,this,cD (af _)];simp
def Pair1(l:List Rw):Prop:=∀r∈l,∃x,r.w=[x]/\flat 1 x=true
def Pair1.one{l:List Rw}(h:Pair1 l):One l:=λr hr=>let ⟨x,e,_⟩:=h r hr;⟨x,e⟩
def Pair1.okR{l:List Rw}(h:Pair1 l):OkR l:=λr hr=>by
 obtain⟨x,e,f⟩:=h r hr;rw[e];exact b4v (a0r (by decide) f)
def a2L:P3:=λws G R=>∃(p:Addr)(rows:List Rw),ws=[.ref p]/\G p=some (.lst (rows.map Rw.z))/\One rows/\rows.length<=400/\∀(t:Addr)(ms:List Int)(G':Hq),G t=none->Sm G G'->G' t=some (.lst (ms.map Z.int))->a0V rows ms->ms.length<=2*rows.length->R (.ref t) G'
def a4N(h:ms.Pairwise (·<·))(q:∀x,x∈ms↔x∈rows.filterMap (λr=>some r.b)++rows.filterMap (λr=>r.e)):a0V rows ms:=by
 refine⟨h,λx=>?_⟩;rw[q x,ah,cJ,cJ]
 constructor
 ·rintro (⟨r,a,e⟩ |⟨r,a,e⟩)
  ·exact⟨r,a,.inl (by simpa using e.symm)⟩
  ·exact⟨r,a,.inr e⟩
 ·rintro⟨r,a,e |e⟩
  ·exact .inl ⟨r,a,by rw[e]⟩
  ·exact .inr ⟨r,a,e⟩
set_option tactic.hygienic true in
def a2M(T:Txt K mg base a):Cal P w K mg base CX0 1 "bounds_of" (lowP K a2L):=by
 refine fnc 1 (N:=["stretches","begins","ends"]) T.br (T.f 0 _ rfl) ?_;walk_at "in";refine⟨_,(a0c (z_l (nmI 1 nd) ["begin","end","worth"] [none,none,none] (.tp [0,1,2]))
  (a0c (z_l (nmI 2 nd) ["begin","end","worth"] [none,none,none] (.tp [0,1,2]))
  (a1t (a4o (q_ss rfl rfl (T.b 0) rfl rfl (T.b 1) rfl (by ac_rfl) (he:=se_ rfl) (hpl:=hp_ rfl)))))),?_⟩
 obtain⟨p,rows,rfl,hp,h1,hz,q⟩:=h;symm;refine a1g hp ?_;intro D hD;refine a11 (g':=Z.int) (λr=>some r.b) (λys=>a0b hp hD) (by omega) ?_ ?_
 ·intro r hr ys K1 K2 k1 k2;obtain⟨x,hx⟩:=h1 r hr;obtain⟨b,e,w⟩:=r;cases hx;refine⟨_,rfl,?_⟩;symm;exact k1 _ rfl
 have nDp:p≠D:=a0i hp hD;symm;refine a1g (a0b hp hD) ?_;intro F hF;refine a11 (g':=Z.int) (λr=>r.e) (λys=>a0b (a0b hp hD) hF) (by omega) ?_ ?_
 ·intro r hr ys K1 K2 k1 k2;obtain⟨x,hx⟩:=h1 r hr;obtain⟨b,e,w⟩:=r;cases hx;refine⟨_,rfl,?_⟩;cases e with
  |none=>
   symm;exact k2 rfl
  |some e=>
   symm;exact k1 _ rfl
 symm;have l1:(rows.filterMap λr=>some r.b).length<=rows.length:=dO _ _;have l2:(rows.filterMap λr=>r.e).length<=rows.length:=dO _ _;refine a2Y (a0b a0a hF) a0a (a0C (by rw[ae,ae];omega)) λc hc=>?_;symm;refine i_ss (ns:=(rows.filterMap λr=>some r.b)++(rows.filterMap λr=>r.e)) (by rw[a0a,au]) (by rw[ay];omega) λt ks ht hpw hm hl=>?_;exact q t ks _ ((((Sm.new hD).trans (Sm.new hF)).trans (Sm.new hc)).free ht) ((((Sm.new hD).trans (Sm.new hF)).trans (Sm.new hc)).trans (Sm.new ht)) a0a (a4N hpw hm) (by rw[ay]at hl;omega)
def b1T{α:Type}{xs:List α}:cutZ xs (some 1) none=xs.drop 1:=by
 cases xs with
 |nil=>rfl
 |cons x xs=>
  unfold cutZ;simp[HT.sIx]
def a9D(hne:xss≠[])(h:∀xs∈xss,n<=xs.length)(h2:∃xs∈xss,xs.length=n):(zipZ xss).length=n:=by
 have b:∀i,(∃w,_[i]?=some w)↔i<n:=λi=>by
  constructor
  ·rintro⟨w,d⟩;obtain⟨vs,rfl,e⟩:=(a0T xss hne i w).mp d;obtain⟨a,f,hl⟩:=h2
   have:a[i]?∈xss.map (·[i]?):=bN f
   rw[e]at this;obtain⟨v,_,k⟩:=az.mp this
   have:=(aj.mp k.symm).1
   lia
  ·intro hi;refine⟨_,(a0T xss hne i _).mpr ⟨xss.map λa=>a.getD i .non,rfl,?_⟩⟩;rw[aZ];refine dI λa f=>?_
   have:=h a f
   rw[Function.comp,bO,ak (by lia)]
   rfl
 have h2:=b n
 by_cases c:(zipZ xss).length<n
 ·grind
 ·by_cases c2:n<(zipZ xss).length
  ·simp_all
  ·lia
def zip4{xs ys zs us:List Z}{i:Nat}{w:Z}(h:(zipZ [xs,ys,zs,us])[i]?=some w):Ex4 λa b c d=>w=.tup [a,b,c,d]/\xs[i]?=some a/\ys[i]?=some b/\zs[i]?=some c/\us[i]?=some d:=by
 obtain⟨vs,rfl,e⟩:=(a0T [xs,ys,zs,us] (by simp) i w).mp h
 match vs,e with
 |[],e=>simp at e
 |[_],e=>simp at e
 |[_,_],e=>simp at e
 |[_,_,_],e=>simp at e
 |[a,b,c,d],e=>
  simp only[am,aO,bh.injEq,and_true]at e;exact⟨a,b,c,d,rfl,e.1,e.2.1,e.2.2.1,e.2.2.2⟩
 |_::_::_::_::_::_,e=>simp at e
noncomputable def laidF(l o:List Rw)(t:Int):Option (List Z):=if wz (val l t)=.non/\wz (val o t)=.non then none else some [wz (val l t),wz (val o t)]
def a4g{l:List Rw}(h:Pair1 l)(t:Int):flat 1 (wz (val l t))=true:=by
 unfold val;cases e:l.find? (·.has t) with
 |none=>rfl
 |some r=>
  obtain⟨x,ex,f⟩:=h r (eV e)
  show flat 1 (r.w.headD .non)=true
  rw[ex];exact f
def a9E{l o:List Rw}(hl:Pair1 l)(ho:Pair1 o)(bs:List Int):OkR (pcs (laidF l o) bs):=λr hr=>by
 obtain⟨_,e⟩:=a4H hr;unfold laidF at e
 split at e
 ·cases e
 ·rw[<- aG.inj e];refine⟨by simp,by simp,?_⟩;rw[aL,aL,a0r (by decide) (a4g hl r.b),a0r (by decide) (a4g ho r.b)];rfl
def a1Q:P3:=λws G R=>Ex4 λ(p q:Addr) (l o:List Rw)=>ws=[.ref p,.ref q]/\G p=some (.lst (l.map Rw.z))/\G q=some (.lst (o.map Rw.z))/\Rise l/\Pair1 l/\Rise o/\Pair1 o/\l.length<=150/\o.length<=150 /\
 ∀(t:Addr)(bs:List Int)(G':Hq),G t=none->Sm G G'->a0V (l++o) bs->bs.length<=2*(l.length+o.length)->G' t=some (.lst ((join (pcs (laidF l o) bs)).map Rw.z))->R (.ref t) G'
def b1U{bs:List Int}(hi:i<bs.length):((bs.map Z.int).drop 1++[Z.non])[i]?=some (oz bs[i+1]?):=by
 by_cases c:i+1<bs.length
 ·rw[bS (by rw[aT,ae];lia),cg,dL 1 i,aq,ak c];rfl
 ·have:i+1=bs.length:=by lia
  rw[bR (by rw[aT,ae];lia),aT,ae,this,cD (af _),show i-_=0 by lia]
  rfl
set_option tactic.hygienic true in
def a1R(T:Txt K mg base a):Cal P w K mg base CX0 3 "laid_together" (lowP K a1Q):=by
 refine fnc 2 (N:=["line","other","bounds","worths","other_worths","ends","pieces","begin","end","worth","other_worth"]) T.br (T.f 4 _ rfl) ?_;walk_at "in";refine⟨_,(a0c (by ac_rfl)
  (a0c (by ac_rfl)
  (a0c (by ac_rfl)
  (a0c (by ac_rfl)
  (a0c (by ac_rfl)
  (a0c (a2f (pt:=(.tp [7,8,9,10])) fH.never rfl (a7G (n:=4) zok4 (by decide) rfl (T.b 3) (q_k (qv 2) (q_k (qv 5) (q_k (qv 3) (q_k (qv 4) a2w)))) (he:=se_ rfl) (hpl:=hp_ rfl)) (by ac_rfl)
  (by ac_rfl))
  (by ac_rfl))))))),?_⟩
 obtain⟨p,q,l,o,rfl,hp,hq,hl,pl,ho,po,zl,zo,fin⟩:=h;symm;refine a2Y hp hq (a0C (by rw[ae,ae];omega)) λa ha=>?_;symm;have one:One (l++o):=λr hr=>(ah.mp hr).elim (pl.one r) (po.one r);refine⟨a,l++o,rfl,by rw[a0a,au],one,by rw[ay];omega,λu bs G1 hu s1 gu hb hbl=>?_⟩;have s1:=(Sm.new ha).trans s1;rw[ay]at hbl;have hpw:bs.Pairwise (·<=·):=hb.1.imp λh=>by omega
 symm;refine⟨p,u,l,bs,rfl,s1 _ _ hp,gu,hl,pl.okR,by omega,hpw,by omega,λw hw=>?_⟩;symm;refine⟨q,u,o,bs,rfl,a0b (s1 _ _ hq) hw,a0b gu hw,ho,po.okR,by omega,hpw,by omega,λv hv=>?_⟩;symm;refine b08 (a0b (a0b gu hw) hv) λc hc=>?_;rw[b1T];symm;refine⟨lenK rfl,λd hd=>?_⟩;symm;refine a2Y (a0b a0a hd) a0a (a0C (by rw[aT,ae];show bs.length-1+1<=1000;omega)) λe he=>?_;symm;refine⟨lenK rfl,λt ht=>?_⟩;have s2:Sm G1 (put (put (put (put (put (put G1 w (.lst (bs.map λm=>wz (val l m)))) v (.lst (bs.map λm=>wz (val o m)))) c (.lst ((bs.map Z.int).drop 1))) d (.lst [.non])) e (.lst ((bs.map Z.int).drop 1++[Z.non]))) t (.lst [])):=
  (((((Sm.new hw).trans (Sm.new hv)).trans (Sm.new hc)).trans (Sm.new hd)).trans (Sm.new he)).trans (Sm.new ht)
 have gw:=a0b (a0b (a0b (a0b (a0b (a0a (G:=G1) (a:=w) (o:=.lst (bs.map λm=>wz (val l m)))) hv) hc) hd) he) (o:=.lst []) ht;have gv:=a0b (a0b (a0b (a0b (a0a (G:=put G1 w (.lst (bs.map λm=>wz (val l m)))) (a:=v) (o:=.lst (bs.map λm=>wz (val o m)))) hc) hd) he) (o:=.lst []) ht;have ge:=a0b (a0a (G:=put (put (put (put G1 w (.lst (bs.map λm=>wz (val l m)))) v (.lst (bs.map λm=>wz (val o m)))) c (.lst ((bs.map Z.int).drop 1))) d (.lst [.non])) (a:=e) (o:=.lst ((bs.map Z.int).drop 1++[Z.non]))) (o:=.lst []) ht;have gt:=a0a (G:=put (put (put (put (put G1 w (.lst (bs.map λm=>wz (val l m)))) v (.lst (bs.map λm=>wz (val o m)))) c (.lst ((bs.map Z.int).drop 1))) d (.lst [.non])) e (.lst ((bs.map Z.int).drop 1++[Z.non]))) (a:=t) (o:=.lst []);have nu:=a0i (a0b (a0b (a0b (a0b (a0b gu hw) hv) hc) hd) he) ht;have nw:=a0i (a0b (a0b (a0b (a0b (a0a (G:=G1) (a:=w) (o:=.lst (bs.map λm=>wz (val l m)))) hv) hc) hd) he) ht;have nv:=a0i (a0b (a0b (a0b (a0a (G:=put G1 w (.lst (bs.map λm=>wz (val l m)))) (a:=v) (o:=.lst (bs.map λm=>wz (val o m)))) hc) hd) he) ht;have ne:=a0i (a0a (G:=put (put (put (put G1 w (.lst (bs.map λm=>wz (val l m)))) v (.lst (bs.map λm=>wz (val o m)))) c (.lst ((bs.map Z.int).drop 1))) d (.lst [.non])) (a:=e) (o:=.lst ((bs.map Z.int).drop 1++[Z.non]))) ht;have hGt:G t=none:=s1.free ((((((Sm.new hw).trans (Sm.new hv)).trans (Sm.new hc)).trans (Sm.new hd)).trans (Sm.new he)).free ht);generalize put (put (put (put (put (put G1 w (.lst (bs.map λm=>wz (val l m)))) v (.lst (bs.map λm=>wz (val o m)))) c (.lst ((bs.map Z.int).drop 1))) d (.lst [.non])) e (.lst ((bs.map Z.int).drop 1++[Z.non]))) t (.lst [])=G2 at s2 gw gv ge gt ⊢;have gu2:=s2 _ _ gu;have hsrc:∀G':Hq,(∀b ob,b≠t->G2 b=some ob->G' b=some ob)->[Z.ref u,Z.ref e,Z.ref w,Z.ref v].map (srcZ G')=[bs.map Z.int,(bs.map Z.int).drop 1++[Z.non],bs.map λm=>wz (val l m),bs.map λm=>wz (val o m)].map some:=λG' k=>by
  have k1:=k u _ nu gu2;have k2:=k e _ ne ge;have k3:=k w _ nw gw;have k4:=k v _ nv gv;simp only[am,aO,srcZ,k1,k2,k3,k4]
 have hzl:(zipZ [bs.map Z.int,(bs.map Z.int).drop 1++[Z.non],bs.map λm=>wz (val l m),bs.map λm=>wz (val o m)]).length=bs.length:=
  a9D (by simp) (λxs hx=>by
   simp only[ag,cV,or_false]at hx;rcases hx with rfl |rfl |rfl |rfl
   ·simp
   ·simp;omega
   ·simp
   ·simp) ⟨_,.head _,by simp⟩
 symm;refine⟨[bs.map Z.int,(bs.map Z.int).drop 1++[Z.non],bs.map λm=>wz (val l m),bs.map λm=>wz (val o m)],hsrc G2 λb ob _ h=>h,by simp,rfl,?_⟩;refine a0R (λi σ G'=>Ex5 λ(told:List Rw) (v1 v2 v3 v4:Option Z)=>told++pcs (laidF l o) (bs.drop i)=pcs (laidF l o) bs/\told.length<=i/\G' t=some (.lst (told.map Rw.z))/\(∀b ob,b≠t->G2 b=some ob->G' b=some ob)/\σ=[some (.ref p),some (.ref q),some (.ref u),some (.ref w),some (.ref v),some (.ref e),some (.ref t),v1,v2,v3,v4])
  ⟨[],_,_,_,_,rfl,af _,gt,λb ob _ h=>h,rfl⟩ (by rintro i σ G' _ ⟨_,_,_,_,_,_,_,_,k,_⟩;exact hsrc G' k) ?_ ?_
 ·rintro i x σ G' hx ⟨told,v1,v2,v3,v4,hj,hlen,gt',k,rfl⟩;have hi:i<bs.length:=by have:=(aj.mp hx).1;omega
  obtain⟨x1,x2,x3,x4,rfl,e1,e2,e3,e4⟩:=zip4 hx;rw[b1U hi]at e2;rw[aq,ak hi]at e1 e3 e4;simp only[b7,aG.injEq]at e1 e2 e3 e4;subst e1 e2 e3 e4;have hdr:bs.drop i=bs[i]::bs.drop (i+1):=cf hi;rw[hdr,pcs,eW]at hj;refine⟨_,rfl,?_⟩;have skip:wz (val l bs[i])=.non->wz (val o bs[i])=.non->told++pcs (laidF l o) (bs.drop (i+1))=pcs (laidF l o) bs:=λc1 c2=>by
   have:laidF l o bs[i]=none:=if_pos ⟨c1,c2⟩
   rw[this]at hj;exact hj
  have some_:¬ (wz (val l bs[i])=.non/\wz (val o bs[i])=.non)->(told++[⟨bs[i],bs[i+1]?,[wz (val l bs[i]),wz (val o bs[i])]⟩])++pcs (laidF l o) (bs.drop (i+1))=pcs (laidF l o) bs:=λc=>by
   have:laidF l o bs[i]=some [wz (val l bs[i]),wz (val o bs[i])]:=if_neg c
   rw[this]at hj;rw[aN];exact hj
  generalize bs[i]=b at skip some_ ⊢;generalize wz (val l b)=y1 at skip some_ ⊢;generalize wz (val o b)=y2 at skip some_ ⊢;generalize bs[i+1]?=en at some_ ⊢;symm;refine ifN (λc1=>?_) λc1=>?_
  ·symm;refine a0M gt' ?_;symm;refine⟨lenK rfl,?_⟩;symm;refine a0y gt' (by rw[ae];exact a0f (by omega)) ⟨told++[⟨b,en,[y1,y2]⟩],_,_,_,_,some_ (λz=>c1 z.1),by rw[ay];show told.length+1<=i+1;omega,?_,λc ob nc h=>by rw[a0q nc];exact k c ob nc h,rfl⟩;rw[a0a,au];rfl
  ·symm;refine ifN (λc2=>?_) λc2=>?_
   ·symm;refine a0M gt' ?_;symm;refine⟨lenK rfl,?_⟩;symm;refine a0y gt' (by rw[ae];exact a0f (by omega)) ⟨told++[⟨b,en,[y1,y2]⟩],_,_,_,_,some_ (λz=>c2 z.2),by rw[ay];show told.length+1<=i+1;omega,?_,λc ob nc h=>by rw[a0q nc];exact k c ob nc h,rfl⟩;rw[a0a,au];rfl
   ·symm;exact⟨told,_,_,_,_,skip c1 c2,by omega,gt',k,rfl⟩
 ·rintro σ G' ⟨told,v1,v2,v3,v4,hj,hlen,gt',k,rfl⟩;rw[hzl,eX,pcs,aV]at hj;subst hj;symm;refine⟨t,_,rfl,gt',(a9E pl po bs).weak,ax (a25 _ _) (by omega),λz hz=>?_⟩;have s3:Sm G G':=λb ob h=>k b ob (a0i h hGt) (s2 _ _ (s1 _ _ h));exact fin z bs _ (s3.free hz) (s3.trans (Sm.new hz)) hb hbl a0a
structure Tl where
 key:Str
 w:Option Str
 b:Int
 e:Option Int
abbrev sPut:Str:=Str.ofString "put"
abbrev a8b:Str:=Str.ofString "clear"
noncomputable def Tl.z(τ:Tl):Z:=match τ.w with
 |some w=>.tup [.str sPut,.str τ.key,.str w,.int τ.b,oz τ.e]
 |none=>.tup [.str a8b,.str τ.key,.int τ.b,oz τ.e]
noncomputable def Tl.v(τ:Tl):Z:=match τ.w with
 |some w=>.str w
 |none=>.non
structure Tl.Ok (τ:Tl):Prop where
 k:nmOk τ.key
 w:∀s,τ.w=some s->nmOk s
 st:stOk τ.b τ.e
noncomputable def Tl.Ok.v{τ:Tl}(h:τ.Ok):flat 0 τ.v=true:=by
 unfold Tl.v;cases e:τ.w with
 |none=>rfl
 |some w=>exact a3C (h.w w e)
noncomputable def Tl.rw(τ:Tl):Rw:=⟨τ.b,τ.e,[τ.v]⟩
noncomputable def putsK(T:List Tl)(k:Str):List Rw:=(T.filter fun τ=>decide (τ.key=k)).map Tl.rw
def a6g:putsK (T++[τ]) k=putsK T k++(if τ.key=k then [τ.rw] else []):=by
 unfold putsK
 by_cases c:τ.key=k<;>simp[c]
def OkT(T:List Tl):Prop:=∀τ∈T,τ.Ok
def a13(h:OkT T):Plain (putsK T k):=λr a=>by
 obtain⟨τ,b,rfl⟩:=az.mp a;exact⟨_,rfl,(h τ (bv.mp b).1).v⟩
noncomputable def dif(x y:Z):Option (List Z):=if x=y then none else some [x,y]
structure Cg where
 k:Str
 r:Rw
noncomputable def Cg.z(c:Cg):Z:=.tup (.str c.k::.int c.r.b::oz c.r.e::c.r.w)
def b0h{F:Int->Option (List Z)}{bs:List Int}(hb:bs.Pairwise (·<·))(st:∀t b,b∈bs->b<=t->(∀c∈bs,c<=t->c<=b)->F t=F b)(no:∀t,(bs.any λb=>decide (b<=t))=false->F t=none) :
  Can (join (pcs F bs))/\(∀t,val (join (pcs F bs)) t=F t)/\(join (pcs F bs)).length<=bs.length:=by
 have j:=a4G (a5v F hb);refine⟨j.1,λt=>?_,ax j.2.2.1 (a25 _ _)⟩;rw[j.2.1,b1J hb st t]
 split
 ·rfl
 ·next c=>exact (no t (by simpa using c)).symm
def a1p{rows l:List Rw}{bs:List Int}(sub:∀r∈l,r∈rows)(hb:a0V rows bs){t b:Int}(hbt:b<=t)(hm:∀c∈bs,c<=t->c<=b):l.find? (·.has t)=l.find? (·.has b):=
 a6b λr hr=>a9r hbt (λh=>hm _ ((hb.2 _).mpr ⟨r,sub r hr,.inl rfl⟩) h) λe he h=>hm e ((hb.2 _).mpr ⟨r,sub r hr,.inr he⟩) h
def a3D{rows:List Rw}{bs:List Int}(hb:a0V rows bs){t:Int}(h:(bs.any λb=>decide (b<=t))=false){r:Rw}(hr:r∈rows):r.has t=false:=by
 refine a4a ?_;have q:=cK.mp h r.b ((hb.2 _).mpr ⟨r,hr,.inl rfl⟩);simp at q;exact q
def laid_ok{l o:List Rw}{bs:List Int}(hb:a0V (l++o) bs):Can (join (pcs (laidF l o) bs))/\(∀t,val (join (pcs (laidF l o) bs)) t=laidF l o t)/\(join (pcs (laidF l o) bs)).length<=bs.length:=by
 refine b0h hb.1 (λt b _ hbt hm=>?_) λt h=>?_
 ·unfold laidF val;rw[a1p (λr hr=>bQ _ hr) hb hbt hm,a1p (λr hr=>aI _ hr) hb hbt hm]
 ·unfold laidF;rw[a08 λr hr=>a3D hb h (bQ _ hr),a08 λr hr=>a3D hb h (aI _ hr)]
  rfl
def b4z{P Q:List Rw}{bs:List Int}(hb:a0V (P++Q) bs):Can (join (pcs (λt=>dif (a0m P t) (a0m Q t)) bs))/\(∀t,val (join (pcs (λt=>dif (a0m P t) (a0m Q t)) bs)) t=dif (a0m P t) (a0m Q t))/\(join (pcs (λt=>dif (a0m P t) (a0m Q t)) bs)).length<=bs.length:=by
 refine b0h hb.1 (λt b _ hbt hm=>?_) λt h=>?_
 ·unfold a0m;rw[a1p (λr hr=>bQ _ (by simpa using hr)) hb hbt hm,a1p (λr hr=>aI _ (by simpa using hr)) hb hbt hm]
 ·have e:∀S:List Rw,(∀r∈S,r∈P++Q)->a0m S t=.non:=λS hS=>by
   unfold a0m;rw[cY.mpr λr hr=>by rw[a3D hb h (hS r (by simpa using hr))];decide]
  show dif (a0m P t) (a0m Q t)=none
  rw[e P λr hr=>bQ _ hr,e Q λr hr=>aI _ hr]
  rfl
theorem a3E{h:List Z->List Z}{t:Int}:∀{l:List Rw},val (l.map λr=>⟨r.b,r.e,h r.w⟩) t=(val l t).map h
 |[]=>rfl
 |r::l=>by
  rw[am,a0k,a0k,a3E]
  show (if r.has t=true then _ else _)=_
  split<;>rfl
def a2l{h:List Z->List Z}{l:List Rw}(g:Rise l):Rise (l.map λr=>⟨r.b,r.e,h r.w⟩):=by
 refine⟨λr hr=>?_,?_⟩
 ·obtain⟨s,hs,rfl⟩:=az.mp hr;exact g.1 s hs
 ·rw[cr];exact g.2
def a6h{q:Rw->Bool}{l:List Rw}(g:Can l):Can (l.filter q):=⟨λr hr=>g.1 r (bv.mp hr).1,g.2.sublist cu⟩
theorem a26{q:List Z->Bool}{t:Int}:∀{l:List Rw},Rise l->val (l.filter λr=>q r.w) t=(val l t).filter q
 |[],_=>rfl
 |r::l,g=>by
  rw[bI,a0k];have ih:=a26 (q:=q) (t:=t) g.tail
  by_cases c:r.has t=true
  ·rw[if_pos c];have n:val l t=none:=a08 λs hs=>((av.mp g.2).1 s hs).has c;rw[n]at ih
   by_cases d:q r.w=true
   ·rw[if_pos d,a0k,if_pos c];simp[dR,d]
   ·rw[if_neg d,ih];simp[dR,d]
  ·rw[if_neg c]
   split
   ·rw[a0k,if_neg c,ih]
   ·exact ih
noncomputable def pr(l:List Rw):List Rw:=l.map λr=>⟨r.b,r.e,[.tup r.w]⟩
noncomputable def fstZ:Z->Z
 |.tup (x::_)=>x
 |_=>.non
noncomputable def sndZ:Z->Z
 |.tup (_::y::_)=>y
 |_=>.non
noncomputable def hw:List Z->List Z
 |[p,o]=>[if p=.non then fstZ o else fstZ p,if o=.non then sndZ p else sndZ o]
 |w=>w
noncomputable def unW:List Z->Bool
 |[x,y]=>decide (x≠y)
 |_=>true
noncomputable def unl(l:List Rw):List Rw:=l.filter λr=>unW r.w
noncomputable def pj(l o:List Rw)(bs:List Int):List Rw:=join ((join (pcs (laidF l o) bs)).map λr=>⟨r.b,r.e,hw r.w⟩)
def b4A{l:List Rw}{x y:Z}{t:Int}(h:val l t=dif x y):wz (val (pr l) t)=if x=y then .non else .tup [x,y]:=by
 unfold pr;rw[a3E (h:=λw=>[.tup w]),h];unfold dif
 split<;>rfl
def b1V{l o:List Rw}{x y z:Z}{t:Int}(h1:val l t=dif x y)(h2:val o t=dif y z):(laidF (pr l) (pr o) t).map hw=if x=y/\y=z then none else some [x,z]:=by
 unfold laidF;rw[b4A h1,b4A h2]
 by_cases a:x=y<;>by_cases b:y=z<;>(try subst a)<;>(try subst b)<;>simp_all[hw,fstZ,sndZ]
def b4B{f g h:Int->Z}{l o:List Rw}{bs:List Int}(hlv:∀t,val l t=dif (f t) (g t))(hov:∀t,val o t=dif (g t) (h t))(hb:a0V (pr l++pr o) bs) :
  Can (pj (pr l) (pr o) bs)/\(∀t,val (pj (pr l) (pr o) bs) t=if f t=g t/\g t=h t then none else some [f t,h t])/\(pj (pr l) (pr o) bs).length<=bs.length:=by
 have q:=laid_ok hb;have j:=a4G (a2l (h:=hw) q.1.rise);refine⟨j.1,λt=>?_,ax j.2.2.1 (by rw[ae];exact q.2.2)⟩
 show val (join _) t=_
 rw[j.2.1,a3E,q.2.1,b1V (hlv t) (hov t)]
def b4C{f g h:Int->Z}{l o:List Rw}{bs:List Int}(hlv:∀t,val l t=dif (f t) (g t))(hov:∀t,val o t=dif (g t) (h t))(hb:a0V (pr l++pr o) bs) :
  Can (unl (pj (pr l) (pr o) bs))/\∀t,val (unl (pj (pr l) (pr o) bs)) t=dif (f t) (h t):=by
 have q:=b4B hlv hov hb;refine⟨a6h q.1,λt=>?_⟩;unfold unl;rw[a26 q.1.rise,q.2.1];unfold dif
 by_cases a:f t=g t<;>by_cases b:g t=h t<;>by_cases c:f t=h t<;>simp_all[dR,unW]
noncomputable def cgs(ks:List Str)(L:Str->List Rw):List Cg:=ks.flatMap λk=>(L k).map (Cg.mk k)
noncomputable def rowsOf(A:List Cg)(k:Str):List Rw:=(A.filter λc=>decide (c.k=k)).map (·.r)
abbrev FZ:=Str->Int->Z
def FF(f:FZ):Prop:=∀k t,flat 0 (f k t)=true
structure CL (f g:FZ) (A:List Cg):Prop where
 ex:∃ks L,A=cgs ks L/\ks.Pairwise leS/\ks.Nodup/\(∀k,k∉ks->L k=[])/\(∀k∈ks,nmOk k)/\∀k,Can (L k)/\∀t,val (L k) t=dif (f k t) (g k t)
def a5E{ks:List Str}{L:Str->List Rw}(nd:ks.Nodup)(k:Str):rowsOf (cgs ks L) k=if k∈ks then L k else []:=by
 unfold rowsOf cgs
 induction ks with
 |nil=>rfl
 |cons x ks ih=>
  rw[bX,eY,au,ih (bp.mp nd).2]
  by_cases c:x=k
  ·subst c;rw[if_neg (bp.mp nd).1,if_pos aX,aV,List.filter_eq_self.mpr λc hc=>by obtain⟨r,_,rfl⟩:=az.mp hc;simp,aZ];exact List.map_id _
  ·rw[db.mpr λd hd=>by obtain⟨r,_,rfl⟩:=az.mp hd;simpa using c];simp[Ne.symm c]
def b0i(ks:List Str)(L:Str->List Rw):cgs ks L=cgs (ks.filter λk=>!(L k).isEmpty) L:=by
 unfold cgs
 induction ks with
 |nil=>rfl
 |cons x ks ih=>
  rw[bX,bI,ih];cases e:L x with
  |nil=>rfl
  |cons r l=>simp[e]
def CL.uniq{f g:FZ}{A B:List Cg}(a:CL f g A)(b:CL f g B):A=B:=by
 obtain⟨ks,L,rfl,s1,n1,o1,_,h1⟩:=a;obtain⟨ms,M,rfl,s2,n2,o2,_,h2⟩:=b;have e:L=M:=funext λk=>b0c (h1 k).1 (h2 k).1 λt=>by rw[(h1 k).2,(h2 k).2]
 subst e;rw[b0i ks,b0i ms]
 congr 1
 refine a4d (s1.sublist cu) (s2.sublist cu) ((List.perm_ext_iff_of_nodup (n1.sublist cu) (n2.sublist cu)).mpr λk=>?_);rw[bv,bv]
 constructor
 ·rintro⟨h,q⟩;refine⟨Classical.byContradiction λz=>?_,q⟩;rw[o2 k z]at q;cases q
 ·rintro⟨h,q⟩;refine⟨Classical.byContradiction λz=>?_,q⟩;rw[o1 k z]at q;cases q
def CL.rows{f g:FZ}{A:List Cg}(a:CL f g A)(k:Str):Can (rowsOf A k)/\∀t,val (rowsOf A k) t=dif (f k t) (g k t):=by
 obtain⟨ks,L,rfl,s1,n1,o1,_,h1⟩:=a;rw[a5E n1]
 split
 ·exact h1 k
 ·next c=>rw[<- o1 k c];exact h1 k
def a5F{l:List Rw}{f g:Int->Z}(c:Can l)(h:∀t,val l t=dif (f t) (g t)){r:Rw}(hr:r∈l):r.w=[f r.b,g r.b]/\f r.b≠g r.b:=by
 have q:val l r.b=some r.w:=by
  clear h
  induction l with
  |nil=>cases hr
  |cons s l ih=>
   rw[a0k];rcases ag.mp hr with rfl |hr
   ·rw[if_pos (a3A (c.1 _ (.head _)))]
   ·have:=(((av.mp c.2).1 r hr).lt).b (c.1 s (.head _))
    have z:s.has r.b=false:=by
     cases e:s.has r.b with
     |false=>rfl
     |true=>
      have w:=((av.mp c.2).1 r hr).lt.has e;rw[a3A (c.1 r (.tail _ hr))]at w;cases w
    rw[z,if_neg (by decide)];exact ih c.tail hr
 rw[h]at q;unfold dif at q
 split at q
 ·cases q
 ·next n=>exact⟨(aG.inj q).symm,n⟩
def W2(r:Rw):Prop:=∃x y,r.w=[x,y]/\flat 0 x=true/\flat 0 y=true
def CL.w2{f g:FZ}{A:List Cg}(a:CL f g A)(hf:FF f)(hg:FF g){c:Cg}(hc:c∈A):W2 c.r/\nmOk c.k:=by
 obtain⟨ks,L,rfl,s1,n1,o1,ok,h1⟩:=a;obtain⟨k,hk,h2⟩:=cG.mp hc;obtain⟨r,hr,rfl⟩:=az.mp h2;exact⟨⟨_,_,(a5F (h1 k).1 (h1 k).2 hr).1,hf _ _,hg _ _⟩,ok k hk⟩
def CL.nil(f:FZ):CL f f []:=⟨[],λ_=>[],rfl,.nil,.nil,λ_ _=>rfl,λ_ h=>(nomatch h),λk=>⟨Can.nil,λt=>by unfold dif;rw[if_pos rfl];rfl⟩⟩
noncomputable def rev2:List Z->List Z
 |[x,y]=>[y,x]
 |w=>w
noncomputable def turn(A:List Cg):List Cg:=A.map λc=>⟨c.k,⟨c.r.b,c.r.e,rev2 c.r.w⟩⟩
def b1W(x y:Z):(dif x y).map rev2=dif y x:=by
 unfold dif
 by_cases c:x=y
 ·rw[if_pos c,if_pos c.symm];rfl
 ·rw[if_neg c,if_neg (Ne.symm c)];rfl
noncomputable def CL.turn{f g:FZ}{A:List Cg}(a:CL f g A):CL g f (turn A):=by
 obtain⟨ks,L,rfl,s1,n1,o1,ok,h1⟩:=a;refine⟨ks,λk=>(L k).map λr=>⟨r.b,r.e,rev2 r.w⟩,?_,s1,n1,λk hk=>by show (L k).map _=[];rw[o1 k hk];rfl,ok,λk=>⟨⟨?_,?_⟩,λt=>by rw[a3E,(h1 k).2,b1W]⟩⟩
 ·unfold Lw.turn cgs;rw[List.map_flatMap]
  congr 1
  funext k
  rw[aZ,aZ]
  rfl
 ·exact (a2l (h1 k).1.rise).1
 ·rw[cr];refine bG.imp_of_mem (λ{r s} hr hs h=>?_) (h1 k).1.2;obtain⟨e,a1,a2,a3⟩:=h;refine⟨e,a1,a2,λz q=>a3 z ?_⟩;have e1:=(a5F (h1 k).1 (h1 k).2 hr).1;have e2:=(a5F (h1 k).1 (h1 k).2 hs).1;have q:rev2 r.w=rev2 s.w:=q;rw[e1,e2]at q ⊢;simp only[rev2,bh.injEq,and_true]at q ⊢;exact q.symm
structure CB (A:List Cg):Prop where
 ks:∃ns:List Str,ns.length<=4/\∀c∈A,c.k∈ns
 ln:∀k,(rowsOf A k).length<=150
 all:A.length<=600
noncomputable def CB.turn{A:List Cg}(h:CB A):CB (turn A):=by
 obtain⟨⟨ns,n1,n2⟩,h2,h3⟩:=h;refine⟨⟨ns,n1,λc hc=>?_⟩,λk=>?_,by unfold Lw.turn;rw[ae];exact h3⟩
 ·obtain⟨d,hd,rfl⟩:=az.mp hc;exact n2 d hd
 ·have:=h2 k
  unfold rowsOf Lw.turn at *;rw[List.filter_map,ae,ae];rw[ae]at this;exact this
def CB.nil:CB []:=⟨⟨[],by simp,λ_ h=>(nomatch h)⟩,λk=>by simp[rowsOf],by simp⟩
local macro_rules | `(tactic| walk_at "go1")=>`(tactic| first | refine i_I (show (0:Int)<_ by decide) ?_ | refine i_I ⟨by decide,by decide⟩ ?_)
def a8c{α:Type}{xs:List α}{j:Nat}:cutZ xs none (some (j:Int))=xs.take j:=by
 unfold cutZ;rw[HT.sIx_none,HT.sIx_nat];simp[List.take_eq_take_iff]
structure TI (G4 G5:Hq) (t:Addr) (rs:List Addr) (T:List Tl):Prop where
 at_:G5 t=some (.lst (T.map Tl.z))
 kp:∀b o,b≠t->b∉rs->G4 b=some o->G5 b=some o
 row:∀r∈rs,RowAt G5 r
 nt:t∉rs
def TI.draw{G4 G5 G6:Hq}{t r:Addr}{rs:List Addr}{T:List Tl}(h:TI G4 G5 t rs T)(hr:r∈rs)(k:Kq r G5 G6)(R6:RowAt G6 r):TI G4 G6 t rs T:=
 ⟨k _ _ h.at_ λz=>h.nt (z▸hr),λb o n1 n2 e=>k _ _ (h.kp b o n1 n2 e) λz=>n2 (z▸hr),λr2 h2=>by
  by_cases c:r2=r
  ·rw[c];exact R6
  ·exact (h.row r2 h2).kq k c,h.nt⟩
def TI.add{G4 G5:Hq}{t:Addr}{rs:List Addr}{T:List Tl}{τ:Tl}(h:TI G4 G5 t rs T):TI G4 (put G5 t (.lst (T.map Tl.z++[τ.z]))) t rs (T++[τ]):=
 ⟨by rw[a0a,au];rfl,λb o n1 n2 e=>by rw[a0q n1];exact h.kp b o n1 n2 e,λr hr=>(h.row r hr).kq Kq.at λz=>h.nt (z▸hr),h.nt⟩
def a4O:P3:=λws G R=>∃(a:Addr)(ns:List Int),ws=[.scr a ns,.int 63]/\ns.length<=63 /\
 ∀(t u:Addr)(T:List Tl)(rs:List Addr)(nms:List Str)(G':Hq),Sm G G'->G' t=some (.lst (T.map Tl.z))->G' u=some (.lst (rs.map Z.ref))->OkT T->T.length<=63->nms.length=4->(∀τ∈T,τ.key∈nms)->(∀r∈rs,RowAt G' r/\r≠t/\r≠u/\G r=none)->R (.tup [.ref t,.ref u]) G'
def b4D{ns:List Str}{k:Int}(h:∀s∈ns,nmOk s)(h0:0<=k)(h1:k<(ns.length:Int)):∃s,atI (ns.map Z.str) k=some (.str s)/\nmOk s/\s∈ns:=by
 obtain⟨j,rfl⟩:=cE h0;have hj:j<ns.length:=by omega
 exact⟨ns[j],a0W (by rw[aq,ak hj];rfl),h _ (bu hj),bu hj⟩
def a4P(T:Txt K mg base a):Cal P w K mg base CX0 4 "_law_tellings" (lowP K a4O):=by
 refine fnc 2 (N:=["script","many","first","head","keys","worths","rows","tellings","row","kind","key","worth","begin","end"]) T.br (T.f 19 _ rfl) ?_ (len:=λws G R h=>(by obtain⟨_,_,rfl,_⟩:=h;rfl));walk_at "in";refine⟨_,(a0c (by ac_rfl)
  (a0c (by ac_rfl)
  (a0c (by ac_rfl)
  (a0c (by ac_rfl)
  (a0c (z_l (nmI 6 nd) ["cell","first"] [none,some 2] (.nm 0))
  (by ac_rfl)))))),?_⟩
 obtain⟨a,ns,rfl,hl,q⟩:=h;symm;refine⟨a,ns,0,rfl,by decide,λfirst=>?_⟩;symm;have hw:first % 2=0\/first % 2=1:=by omega
 refine⟨_,_,rfl,hw,λhd x w' hhd ok=>?_⟩;symm;refine⟨hd,4,rfl,RowAt.at ok,by decide,by decide,λnm nms G1 hnm gnm hlen hnms hR1 hK1=>?_⟩;have s1:Sm G G1:=λb o h=>hK1 b o (a0b h hhd) (a0i h hhd);symm;refine⟨hd,4,rfl,hR1,by decide,by decide,λwm wms G2 hwm gwm hlen2 hwms hR2 hK2=>?_⟩;have s2:Sm G G2:=λb o h=>hK2 b o (s1 b o h) (a0i h hhd);have gnm2:=hK2 _ _ gnm λz=>by rw[z,a0a]at hnm;cases hnm
 clear hK1 hK2 hR1 hR2 s1 gnm hnm hwm;symm;refine b5R λc hc=>?_;generalize ee:put G2 c _=G3;obtain⟨gc,s3⟩:=newK ee hc;have lm:(cutZ ns none (some 63)).length<=63:=by rw[show cutZ ns none (some 63)=ns.take 63 from a8c (j:=63),aA];omega
 generalize cutZ ns none (some 63)=M at gc lm;have gnm3:=s3 _ _ gnm2;have gwm3:=s3 _ _ gwm;have s23:=s2.trans s3;clear s2 gnm2 gwm hc ee s3;symm;refine a1g gc ?_;intro D hD;refine b0Y (λi ys G'=>∃rs:List Addr,ys=rs.map Z.ref/\rs.length=i/\G' D=some (.lst ys)/\(∀b o,b≠D->G3 b=some o->G' b=some o)/\∀r∈rs,RowAt G' r/\r≠D/\G3 r=none) ⟨[],rfl,rfl,a0a,λb o nb e=>by rw[a0q nb];exact e,λr h=>(nomatch h)⟩ ?_ ?_ ?_
 ·rintro i ys G' _ ⟨rs,_,_,_,k,_⟩;exact k _ _ (a0i gc hD) gc
 ·rintro i x ys G' hx ⟨rs,rfl,hl',gD,k,hr⟩;have hi:=(aj.mp hx).1;rw[ae]at hi;rw[aq]at hx;cases hx':M[i]? with
  |none=>rw[hx']at hx;cases hx
  |some m=>
  rw[hx']at hx;cases hx;refine⟨_,rfl,?_⟩;symm;refine⟨_,_,rfl,hw,λr x' w'' hr' ok'=>?_⟩;have nD:r≠D:=λz=>by rw[z,gD]at hr';cases hr'
  have fr:G3 r=none:=by
   cases e:G3 r with
   |none=>rfl
   |some o=>rw[k r o nD e]at hr';cases hr'
  refine⟨a0b gD hr',by rw[ae];exact a0f (by omega),rs++[r],by simp,by simp;omega,a0a,λb o nb e=>by rw[a0q nb];exact a0b (k b o nb e) hr',λr2 h2=>?_⟩;rcases ah.mp h2 with h2 |h2
  ·obtain⟨a1,a2,a3⟩:=hr r2 h2;exact⟨(a1.new hr').kq Kq.at a2,a2,a3⟩
  ·rw[ai.mp h2];exact⟨(RowAt.at ok').kq Kq.at nD,nD,fr⟩
 ·rintro ys G' ⟨rs,rfl,hl',gD,k,hr⟩;rw[ae]at hl';refine⟨_,rfl,?_⟩;symm;refine⟨lenK rfl,λt ht=>?_⟩;generalize ee4:put G' t _=G4;obtain⟨gt,s4⟩:=newK ee4 ht;have nD:∀b o,G3 b=some o->b≠D:=λb o e=>a0i e hD;have nr:∀b o,G3 b=some o->b∉rs:=λb o e z=>by rw[(hr b z).2.2]at e;cases e
  have nt:∀b o,G3 b=some o->b≠t:=λb o e z=>by rw[<- z,k b o (nD b o e) e]at ht;cases ht
  have up:∀b o,G3 b=some o->G4 b=some o:=λb o e=>s4 _ _ (k b o (nD b o e) e);have tr:t∉rs:=λz=>by obtain⟨_,_,e,_⟩:=(hr t z).1;rw[e]at ht;cases ht
  have tD:t≠D:=λz=>by rw[z,gD]at ht;cases ht
  have Dr:D∉rs:=λz=>(hr D z).2.1 rfl;have I0:TI G4 G4 t rs []:=⟨gt,λb o _ _ e=>e,λr h=>let ⟨x,w,e,o⟩:=(hr r h).1;⟨x,w,s4 _ _ e,o⟩,tr⟩;symm;refine a1g (s4 _ _ gD) ?_;refine a0R (λi σ G5=>Ex7 λ(T:List Tl) (v1 v2 v3 v4 v5 v6:Option Z)=>T.length=i/\OkT T/\(∀τ∈T,τ.key∈nms)/\TI G4 G5 t rs T/\σ=[some (.scr a ns),some (.int 63),some (.int first),some (.ref hd),some (.ref nm),some (.ref wm),some (.ref D),some (.ref t),v1,v2,v3,v4,v5,v6]) ⟨[],_,_,_,_,_,_,rfl,fun τ h=>(nomatch h),fun τ h=>(nomatch h),I0,rfl⟩ (by rintro i σ G5 _ ⟨_,_,_,_,_,_,_,_,_,_,I,_⟩;exact I.kp _ _ (Ne.symm tD) Dr (s4 _ _ gD)) ?_ ?_
  ·rintro i x σ G5 hx ⟨T,v1,v2,v3,v4,v5,v6,hT,okT,kT,I,rfl⟩;have hi:=(aj.mp hx).1;rw[ae]at hi;rw[aq]at hx;cases hx':rs[i]? with
   |none=>rw[hx']at hx;cases hx
   |some r=>
   rw[hx']at hx;cases hx;have mr:=aD hx';refine⟨_,rfl,?_⟩;symm;refine a09 (I.row r mr) (by decide) (by decide) λkd y w f0 f1 ok1=>?_
   replace I:=I.draw mr Kq.at (RowAt.at ok1)
   generalize put G5 r _=G6 at I ⊢;symm;refine a09 (I.row r mr) (by decide) (by decide) λkk y w g0 g1 ok1=>?_
   replace I:=I.draw mr Kq.at (RowAt.at ok1)
   generalize put G6 r _=G7 at I ⊢;obtain⟨key,ek,okk,mk⟩:=b4D hnms g0 (by omega);refine a0t (I.kp _ _ (nt _ _ gnm3) (nr _ _ gnm3) (up _ _ gnm3)) ek ?_;symm;refine a09 (I.row r mr) (by decide) (by decide) λkw y w j0 j1 ok1=>?_
   replace I:=I.draw mr Kq.at (RowAt.at ok1)
   generalize put G7 r _=G8 at I ⊢;obtain⟨wo,ew,okw,_⟩:=b4D hwms j0 (by omega);refine a0t (I.kp _ _ (nt _ _ gwm3) (nr _ _ gwm3) (up _ _ gwm3)) ew ?_;symm;refine⟨r,rfl,I.row r mr,λb e G9 hst hR9 hK9=>?_⟩
   replace I:=I.draw mr hK9 hR9
   refine⟨_,rfl,?_⟩;symm;refine ifD (λc=>?_) λc=>?_
   ·symm;refine a0M I.at_ ?_;symm;refine⟨lenK rfl,?_⟩;symm;refine a0y I.at_ (by rw[ae];exact a0f (by omega)) ⟨T++[Tl.mk key none b e],_,_,_,_,_,_,by simp;omega,fun τ h=>?_,fun τ h=>?_,I.add (τ:=⟨key,none,b,e⟩),rfl⟩
    ·rcases ah.mp h with h |h
     ·exact okT τ h
     ·rw[ai.mp h];exact⟨okk,λ_ z=>(nomatch z),hst⟩
    ·rcases ah.mp h with h |h
     ·exact kT τ h
     ·rw[ai.mp h];exact mk
   ·symm;refine a0M I.at_ ?_;symm;refine⟨lenK rfl,?_⟩;symm;refine a0y I.at_ (by rw[ae];exact a0f (by omega)) ⟨T++[Tl.mk key (some wo) b e],_,_,_,_,_,_,by simp;omega,fun τ h=>?_,fun τ h=>?_,I.add (τ:=⟨key,some wo,b,e⟩),rfl⟩
    ·rcases ah.mp h with h |h
     ·exact okT τ h
     ·rw[ai.mp h];exact⟨okk,λs z=>by cases z;exact okw,hst⟩
    ·rcases ah.mp h with h |h
     ·exact kT τ h
     ·rw[ai.mp h];exact mk
  ·rintro σ G5 ⟨T,v1,v2,v3,v4,v5,v6,hT,okT,kT,I,rfl⟩;rw[ae]at hT;symm;refine⟨lenK rfl,?_⟩;exact q t D T rs nms G5 (λb o e=>I.kp b o (nt _ _ (s23 _ _ e)) (nr _ _ (s23 _ _ e)) (up _ _ (s23 _ _ e))) I.at_ (I.kp _ _ (Ne.symm tD) Dr (s4 _ _ gD)) okT (by omega) (by omega) kT λr h=>⟨I.row r h,λz=>tr (z▸h),(hr r h).2.1,by
    cases e:G r with
    |none=>rfl
    |some o=>have:=(hr r h).2.2;rw[s23 _ _ e]at this;cases this⟩
def b1X:P3:=λws G R=>Ex4 λ(p:Addr) (T:List Tl) (k:Str) (n:Int)=>ws=[.ref p,.str k,.int n]/\G p=some (.lst (T.map Tl.z))/\OkT T/\nmOk k/\T.length<=63/\0<=n/\∀(t:Addr)(G':Hq),G t=none->Sm G G'->G' t=some (.lst ((putsK (T.take n.toNat) k).map Rw.z))->R (.ref t) G'
def b1Y(T:Txt K mg base a):Cal P w K mg base CX0 1 "_law_puts" (lowP K b1X):=by
 refine fnc 3 (N:=["tellings","key","knowing","puts","telling"]) T.br (T.f 20 _ rfl) ?_ (len:=λws G R h=>(by obtain⟨_,_,_,_,rfl,_⟩:=h;rfl));walk_at "in";refine⟨_,(by ac_rfl),?_⟩;obtain⟨p,T,k,n,rfl,gp,ok,hk,hl,hn,q⟩:=h;symm;refine⟨lenK rfl,λt ht=>?_⟩;generalize ee:put G t _=G1;obtain⟨gt,s1⟩:=newK ee ht;symm;refine b08 (s1 _ _ gp) λc hc=>?_;generalize ee2:put G1 c _=G2;obtain⟨gc,s2⟩:=newK ee2 hc;have ct:cutZ (T.map Tl.z) none (some n)=(T.take n.toNat).map Tl.z:=by
  obtain⟨j,rfl⟩:=cE hn;rw[a8c,dt,dH]
 rw[ct]at gc;have okn:OkT (T.take n.toNat):=fun τ h=>ok τ (aY h);have ln:(T.take n.toNat).length<=63:=by rw[aA];omega
 generalize T.take n.toNat=U at gc okn ln q;have gt2:=s2 _ _ gt;have nct:c≠t:=λz=>by rw[z,gt]at hc;cases hc
 symm;refine a1g gc ?_;refine a0R (λi σ G'=>∃v:Option Z,Kq t G2 G'/\G' t=some (.lst ((putsK (U.take i) k).map Rw.z))/\σ=[some (.ref p),some (.str k),some (.int n),some (.ref t),v]) ⟨_,λ_ _ e _=>e,gt2,rfl⟩ (by rintro i σ G' _ ⟨_,k,_⟩;exact k _ _ gc nct) ?_ ?_
 ·rintro i x σ G3 hx ⟨v,kq,gt3,rfl⟩;rw[aq]at hx;cases hx':U[i]? with
  |none=>rw[hx']at hx;cases hx
  |some τ=>
  rw[hx']at hx;cases hx;have oτ:=okn τ (aD hx');have hi:=(aj.mp hx').1;have lp:(putsK (U.take i) k).length<=63:=by
   unfold putsK;rw[ae];exact ax (cF _ _) (by rw[aA];omega)
  have tk:=a6g (T:=U.take i) (τ:=τ) (k:=k);rw[<- take_snoc hx']at tk;rw[tk];generalize putsK (U.take i) k=P0 at gt3 lp;refine⟨_,rfl,?_⟩;obtain⟨key,w,b,e⟩:=τ;have app:∀(z:Z)(v:Option Z),key=k->z=Rw.z (Tl.rw ⟨key,w,b,e⟩)->a1w (.ref t) [z] G3 (λ_ G'=>∃v':Option Z,Kq t G2 G'/\G' t=some (.lst ((P0++if (Tl.mk key w b e).key=k then [Tl.rw ⟨key,w,b,e⟩] else []).map Rw.z))/\([some (.ref p),some (.str k),some (.int n),some (.ref t),v]:S3)=[some (.ref p),some (.str k),some (.int n),some (.ref t),v']):=λz v ek ez=>by
   refine a0y gt3 (by rw[ae];exact a0f (by omega)) ⟨_,λb o e1 nb=>by rw[a0q nb];exact kq b o e1 nb,?_,rfl⟩;rw[a0a,if_pos ek,au,ez]
   rfl
  have non:∀v:Option Z,key≠k->∃v':Option Z,Kq t G2 G3/\G3 t=some (.lst ((P0++if (Tl.mk key w b e).key=k then [Tl.rw ⟨key,w,b,e⟩] else []).map Rw.z))/\([some (.ref p),some (.str k),some (.int n),some (.ref t),v]:S3)=[some (.ref p),some (.str k),some (.int n),some (.ref t),v']:=λv ek=>⟨_,kq,by rw[if_neg ek,aV];exact gt3,rfl⟩;cases w with
  |none=>
   rw[show Tl.z ⟨key,none,b,e⟩=.tup [.str a8b,.str key,.int b,oz e] from rfl];symm;refine ifD (λc=>?_) λc=>?_
   ·symm;refine ifD (λc2=>?_) λc2=>?_
    ·exact absurd c2 (by decide +kernel)
    ·symm;refine ifD (λc3=>?_) λc3=>absurd c c3;symm;refine a0M gt3 ?_;symm;refine⟨lenK rfl,?_⟩;symm;exact app _ _ c rfl
   ·refine ifF ?_;symm;refine ifD (λc3=>absurd c3 c) λc3=>?_;symm;exact non _ c
  |some w=>
   rw[show Tl.z ⟨key,some w,b,e⟩=.tup [.str sPut,.str key,.str w,.int b,oz e] from rfl];symm;refine ifD (λc=>?_) λc=>?_
   ·symm;refine ifD (λ_=>?_) λz=>absurd rfl z;symm;refine a0M gt3 ?_;symm;refine⟨lenK rfl,?_⟩;symm;exact app _ _ c rfl
   ·refine ifF ?_;symm;refine ifD (λc3=>absurd c3 c) λc3=>?_;symm;exact non _ c
 ·rintro σ G3 ⟨v,kq,gt3,rfl⟩;rw[ae,bP]at gt3;symm;exact q t G3 ht (λb o e=>kq b o (s2 _ _ (s1 _ _ e)) (a0i e ht)) gt3
def b1Z:P3:=λws G R=>∃(p:Addr)(T:List Tl),ws=[.ref p]/\G p=some (.lst (T.map Tl.z))/\T.length<=63/\∀(t:Addr)(ks:List Str)(G':Hq),G t=none->Sm G G'->G' t=some (.lst (ks.map Z.str))->ks.Pairwise leS->ks.Nodup->(∀k,k∈ks↔∃τ∈T,τ.key=k)->ks.length<=T.length->R (.ref t) G'
def b10(T:Txt K mg base a):Cal P w K mg base CX0 1 "_law_keys" (lowP K b1Z):=by
 refine fnc 1 (N:=["tellings"]) T.br (T.f 21 _ rfl) ?_ (len:=λws G R h=>(by obtain⟨_,_,rfl,_⟩:=h;rfl));walk_at "in";refine⟨_,(a1t (a4o (b6a rfl rfl (T.b 0) rfl rfl (T.b 1) rfl (q_k (q_l ["telling"] [none] (.nm 0)) a2w) (he:=se_ rfl) (hpl:=hp_ rfl)))),?_⟩;obtain⟨p,T,rfl,gp,hl,q⟩:=h;refine b3v ?_;unfold uSSS;symm;refine a1g gp ?_;intro D hD;refine a11 (g':=Z.str) (fun τ:Tl=>some τ.key) (λys=>a0b gp hD) (by omega) ?_ ?_
 ·intro τ hτ ys K1 K2 k1 k2;refine⟨_,rfl,?_⟩;obtain⟨key,w,b,e⟩:=τ;cases w with
  |none=>
   rw[show Tl.z ⟨key,none,b,e⟩=.tup [.str a8b,.str key,.int b,oz e] from rfl];symm;exact k1 _ rfl
  |some w=>
   rw[show Tl.z ⟨key,some w,b,e⟩=.tup [.str sPut,.str key,.str w,.int b,oz e] from rfl];symm;exact k1 _ rfl
 ·have e0:(T.filterMap fun τ=>some τ.key)=T.map (·.key):=by rw[<- dc];rfl
  rw[e0];refine b59 a0a (by rw[ae];omega) λt ks ht hs hn hm hkl=>?_;exact q t ks _ ((Sm.new hD).free ht) ((Sm.new hD).trans (Sm.new ht)) a0a (b4w hs) hn (λk=>by rw[hm,az]) (by rw[ae]at hkl;exact hkl)
noncomputable def fT(T:List Tl)(n:Int):FZ:=λk t=>a0m (putsK (T.take n.toNat) k) t
def a8d{T:List Tl}{n:Int}(h:OkT T):FF (fT T n):=λk t=>a1k (a13 fun τ hτ=>h τ (aY hτ)) t
def OkC(A:List Cg):Prop:=∀c∈A,W2 c.r/\nmOk c.k
def OkC.fl1{A:List Cg}(h:OkC A):(A.map Cg.z).all (flat 1)=true:=by
 rw[bg];intro x hx;obtain⟨c,hc,rfl⟩:=az.mp hx;obtain⟨⟨x,y,e,fx,fy⟩,hk⟩:=h c hc
 show ((Z.str c.k::.int c.r.b::oz c.r.e::c.r.w).all (flat 0))=true
 rw[aL,aL,aL,e,aL,aL,a3C hk,a5x,b1K,fx,fy];rfl
def OkC.fl8{A:List Cg}(h:OkC A):(A.map Cg.z).all (flat 8)=true:=a5w (n:=1) (by decide) h.fl1
def OkC.add{A:List Cg}{c:Cg}(h:OkC A)(w:W2 c.r)(k:nmOk c.k):OkC (A++[c]):=λd hd=>by
 rcases ah.mp hd with hd |hd
 ·exact h d hd
 ·rw[ai.mp hd];exact⟨w,k⟩
structure DL (T:List Tl) (n m:Int) (k:Str) (l:List Rw):Prop where
 can:Can l
 v:∀t,val l t=dif (fT T n k t) (fT T m k t)
 len:l.length<=126
def a27{rows S:List Rw}{bs:List Int}(hb:a0V rows bs)(sub:∀r∈rows,r∈S):bs.length<=2*S.length:=by
 have nd:bs.Nodup:=hb.1.imp λh=>by omega
 have q:=nd.length_le_of_subset (l₂:=S.flatMap λr=>r.b::r.e.toList) λx hx=>by
  obtain⟨r,hr,e⟩:=(hb.2 x).mp hx;refine cG.mpr ⟨r,sub r hr,?_⟩;rcases e with e |e
  ·rw[e];exact .head _
  ·rw[e];exact .tail _ (.head _)
 refine ax q ?_;clear q nd sub hb
 induction S with
 |nil=>simp
 |cons r S ih=>
  rw[bX,ay,aE,aE]
  have:r.e.toList.length<=1:=by cases r.e<;>simp
  omega
def a5G{T:List Tl}{k:Str}{i j:Nat}(h:i<=j):∀r∈putsK (T.take i) k,r∈putsK (T.take j) k:=λr hr=>by
 unfold putsK at *;obtain⟨τ,h1,rfl⟩:=az.mp hr;obtain⟨h1,h2⟩:=bv.mp h1;refine az.mpr ⟨τ,bv.mpr ⟨?_,h2⟩,rfl⟩
 have:=List.take_take (i:=i) (j:=j) (l:=T)
 rw[Nat.min_eq_left h]at this;rw[<- this]at h1;exact aY h1
def a2m{T:List Tl}{k:Str}{j:Nat}:(putsK (T.take j) k).length<=T.length:=by
 unfold putsK;rw[ae];exact ax (cF _ _) (by rw[aA];omega)
def a9F{T:List Tl}{k:Str}{i j:Nat}{bs:List Int}(hb:a0V (putsK (T.take i) k++putsK (T.take j) k) bs)(h:T.length<=63):bs.length<=126:=by
 rcases Nat.le_total i j with c |c
 ·have:=a27 hb (S:=putsK (T.take j) k) λr hr=>(ah.mp hr).elim (a5G c r) id
  have:=a2m (T:=T) (k:=k) (j:=j)
  omega
 ·have:=a27 hb (S:=putsK (T.take i) k) λr hr=>(ah.mp hr).elim id (a5G c r)
  have:=a2m (T:=T) (k:=k) (j:=i)
  omega
theorem a1S{L M:Str->List Rw}:∀{ks:List Str},(∀k∈ks,L k=M k)->cgs ks L=cgs ks M
 |[],_=>rfl
 |k::ks,h=>by
  have ih:=a1S (ks:=ks) λx hx=>h x (.tail _ hx);unfold cgs at ih ⊢;rw[bX,bX,ih,h k (.head _)]
def a5H{ks:List Str}{L:Str->List Rw}{k:Str}{l:List Rw}(h:k∉ks):cgs (ks++[k]) (λx=>if x=k then l else L x)=cgs ks L++l.map (Cg.mk k):=by
 rw[<- a1S (L:=λx=>if x=k then l else L x) (M:=L) λx hx=>if_neg λz:x=k=>h (z▸hx)];unfold cgs;rw[List.flatMap_append,List.flatMap_singleton]
 show _++(if k=k then l else L k).map (Cg.mk k)=_
 rw[if_pos rfl]
def b11{T:List Tl}{n m:Int}{ks:List Str}{L:Str->List Rw}(ok:OkT T)(h:∀k∈ks,DL T n m k (L k))(hk:∀k∈ks,nmOk k):OkC (cgs ks L):=λc hc=>by
 obtain⟨k,h1,h2⟩:=cG.mp hc;obtain⟨r,hr,rfl⟩:=az.mp h2;exact⟨⟨_,_,(a5F (h k h1).can (h k h1).v hr).1,a8d ok _ _,a8d ok _ _⟩,hk k h1⟩
theorem a4Q{T:List Tl}{n m:Int}{L:Str->List Rw}:∀{ks:List Str},(∀k∈ks,DL T n m k (L k))->(cgs ks L).length<=ks.length*126
 |[],_=>by simp[cgs]
 |k::ks,h=>by
  have ih:=a4Q (ks:=ks) (L:=L) λx hx=>h x (.tail _ hx)
  have:=(h k (.head _)).len
  unfold cgs at ih ⊢;rw[bX,ay,ae,aE];omega
def at5{a b c d e:Z}:cutZ [a,b,c,d,e] (some 3) none=[d,e]/\cutZ [a,b,c,d,e] none (some 2)=[a,b]:=⟨rfl,rfl⟩
def b4E:P3:=λws G R=>Ex5 λ(p:Addr) (T:List Tl) (nms:List Str) (n m:Int)=>ws=[.ref p,.int n,.int m]/\G p=some (.lst (T.map Tl.z))/\OkT T/\T.length<=63/\nms.length=4/\(∀τ∈T,τ.key∈nms)/\0<=n/\0<=m /\
 ∀(t:Addr)(A:List Cg)(G':Hq),G t=none->Sm G G'->G' t=some (.lst (A.map Cg.z))->CL (fT T n) (fT T m) A->CB A->R (.ref t) G'
def b4F(T:Txt K mg base a):Cal P w K mg base CX0 2 "_law_due" (lowP K b4E):=by
 refine fnc 3 (N:=["tellings","knowing","later","rows","key","then","now","bounds","k","both","end"]) T.br (T.f 22 _ rfl) ?_ (len:=λws G R h=>(by obtain⟨_,_,_,_,_,rfl,_⟩:=h;rfl));walk_at "in";refine⟨_,(a0c (by ac_rfl)
  (a0c (a2f (pt:=(.nm 4)) fH.never rfl (by ac_rfl) (p_nm (nmI 4 nd))
  (a0c (by ac_rfl)
  (a0c (by ac_rfl)
  (a0c (by ac_rfl)
  (a1t (a2f (pt:=(.nm 8)) fH.never rfl (by ac_rfl) (p_nm (nmI 8 nd))
  (a0c (by ac_rfl)
  (a0c (by ac_rfl)
  (a0c (by ac_rfl)
  (a1t (z_if (by ac_rfl)
  (a1t (a2W (by ac_rfl) (qv 3) (by ac_rfl) a8K))
  (by ac_rfl))))))))))))
  (by ac_rfl))),?_⟩
 obtain⟨p,T,nms,n,m,rfl,gp,ok,hl,hnl,hkn,h0,h1,q⟩:=h;symm;refine⟨lenK rfl,λW hW=>?_⟩;generalize ee:put G W _=G1;obtain⟨gW,s1⟩:=newK ee hW;symm;refine⟨p,T,rfl,s1 _ _ gp,hl,λkk ks G2 hkk s2 gkk srt nd mem kl=>?_⟩;have gp2:=s2 _ _ (s1 _ _ gp);have npW:p≠W:=a0i gp hW;have nkW:kk≠W:=λz=>by rw[z,gW]at hkk;cases hkk
 have okk:∀k∈ks,nmOk k:=λk hk=>by obtain⟨τ,h1,h2⟩:=(mem k).mp hk;rw[<- h2];exact (ok τ h1).k
 have k4:ks.length<=4:=by
  rw[<- hnl];exact nd.length_le_of_subset λk hk=>by obtain⟨τ,h1,h2⟩:=(mem k).mp hk;rw[<- h2];exact hkn τ h1
 refine a1g gkk ?_;refine a0R (λj σ G'=>Ex8 λ(L:Str->List Rw) (v1 v2 v3 v4 v5 v6 v7:Option Z)=>Kq W G2 G'/\G' W=some (.lst ((cgs (ks.take j) L).map Cg.z))/\(∀k∈ks.take j,DL T n m k (L k))/\σ=[some (.ref p),some (.int n),some (.int m),some (.ref W),v1,v2,v3,v4,v5,v6,v7]) ⟨λ_=>[],_,_,_,_,_,_,_,λ_ _ e _=>e,s2 _ _ gW,λk h=>by simp at h,rfl⟩ (by rintro i σ G' _ ⟨_,_,_,_,_,_,_,_,k,_⟩;exact k _ _ gkk nkW) ?_ ?_
 ·rintro j x σ G3 hx ⟨L,v1,v2,v3,v4,v5,v6,v7,kq,gW3,hL,rfl⟩;have hj:=(aj.mp hx).1;rw[ae]at hj;rw[aq]at hx;cases hx':ks[j]? with
  |none=>rw[hx']at hx;cases hx
  |some key=>
  rw[hx']at hx;cases hx;have okey:=okk key (aD hx');have nkey:key∉ks.take j:=λz=>by
   obtain⟨i,hi,e⟩:=cz.mp z;rw[aA]at hi;rw[eZ]at e;obtain⟨h2,e2⟩:=aj.mp hx';exact bV.mp nd i j (by omega) h2 (by omega) (e.trans e2.symm)
  have okD:OkC (cgs (ks.take j) L):=b11 ok hL λk hk=>okk k (aY hk);have lD:(cgs (ks.take j) L).length<=504:=by
   have:=a4Q hL
   rw[aA]at this;omega
  have kD:∀c∈cgs (ks.take j) L,c.k≠key:=λc hc z=>by
   obtain⟨k,h1,h2⟩:=cG.mp hc;obtain⟨r,_,rfl⟩:=az.mp h2;exact nkey (z▸h1)
  have fin:=λl=>a5H (L:=L) (l:=l) nkey;rw[<- take_snoc hx']at fin;generalize cgs (ks.take j) L=D0 at gW3 okD lD kD fin;refine⟨_,rfl,?_⟩;symm;refine⟨p,T,key,n,rfl,kq _ _ gp2 npW,ok,okey,hl,h0,λth G4 hth s4 gth=>?_⟩;symm;refine⟨p,T,key,m,rfl,s4 _ _ (kq _ _ gp2 npW),ok,okey,hl,h1,λnw G5 hnw s5 gnw=>?_⟩;have gth5:=s5 _ _ gth;have plP:Plain (putsK (T.take n.toNat) key):=a13 fun τ h=>ok τ (aY h);have plQ:Plain (putsK (T.take m.toNat) key):=a13 fun τ h=>ok τ (aY h);have lP:=a2m (T:=T) (k:=key) (j:=n.toNat);have lQ:=a2m (T:=T) (k:=key) (j:=m.toNat);have bl:=λbs hb=>a9F (T:=T) (k:=key) (i:=n.toNat) (j:=m.toNat) (bs:=bs) hb hl;have fP:∀t,fT T n key t=a0m (putsK (T.take n.toNat) key) t:=λ_=>rfl;have fQ:∀t,fT T m key t=a0m (putsK (T.take m.toNat) key) t:=λ_=>rfl;generalize putsK (T.take n.toNat) key=Pp at gth5 plP lP bl fP gth;generalize putsK (T.take m.toNat) key=Qp at gnw plQ lQ bl fQ;symm;refine a2Y gth5 gnw (a0C (by rw[ae,ae];omega)) λad had=>?_;generalize ee6:put G5 ad _=G6;obtain⟨gad,s6⟩:=newK ee6 had;symm;refine⟨ad,Pp++Qp,rfl,by rw[gad,au],by rw[ay];omega,λu bs G7 hu s7 gu hb hbl=>?_⟩;have b126:=bl bs hb;have s37:Sm G3 G7:=((s4.trans s5).trans s6).trans s7;have gth7:=s7 _ _ (s6 _ _ gth5);have gnw7:=s7 _ _ (s6 _ _ gnw);have gW7:=s37 _ _ gW3;have f3W:∀b,G3 b=none->b≠W:=λb e z=>by rw[z,gW3]at e;cases e
  have nth:th≠W:=f3W _ hth;have nnw:nw≠W:=f3W _ (s4.free hnw);have nuW:u≠W:=f3W _ (((s4.trans s5).trans s6).free hu);clear hbl gad ee6 gth gth5 gnw s4 s5 s6 s7 had hth hnw hu;symm;refine a3T gu ?_;symm;rw[ae];refine⟨by omega,by omega,?_⟩;rw[show (bs.length:Int).toNat=bs.length by omega];have dk:=b4z hb;refine a0R (λi σ G'=>Ex4 λ(told:List Rw) (v1 v2 v3:Option Z)=>(pcs (λt=>dif (a0m Pp t) (a0m Qp t)) (bs.drop i)).foldl jn told=join (pcs (λt=>dif (a0m Pp t) (a0m Qp t)) bs)/\told.length<=i/\(∀r∈told,W2 r)/\Kq W G7 G'/\G' W=some (.lst ((D0++told.map (Cg.mk key)).map Cg.z))/\σ=[some (.ref p),some (.int n),some (.int m),some (.ref W),some (.str key),some (.ref th),some (.ref nw),some (.ref u),v1,v2,v3])
   ⟨[],_,_,_,rfl,af _,λr hr=>(nomatch hr),λ_ _ e _=>e,by simpa using gW7,rfl⟩ (λ_ _ _ _ _=>True.intro) ?_ ?_
  ·rintro i x σ G' hx ⟨told,w1,w2,w3,hj2,hlen,hpt,kq7,gt,rfl⟩;obtain⟨hi,rfl⟩:=a2x hx;refine⟨_,rfl,?_⟩;rw[Int.zero_add];have hbi:bs[i]?=some bs[i]:=ak hi;have hdr:bs.drop i=bs[i]::bs.drop (i+1):=cf hi;rw[hdr]at hj2;generalize bs[i]=b at hbi hj2;have hbm:atI (bs.map Z.int) (i:Int)=some (.int b):=a0W (by rw[aq,hbi];rfl);rw[pcs,eW]at hj2;symm;refine a0t (kq7 _ _ gu nuW) hbm ?_;symm;refine⟨th,Pp,b,rfl,kq7 _ _ gth7 nth,plP.one,?_⟩;symm;refine a0t (kq7 _ _ gu nuW) hbm ?_;symm;refine⟨nw,Qp,b,rfl,kq7 _ _ gnw7 nnw,plQ.one,?_⟩;symm;refine⟨lenK rfl,?_⟩;symm;refine⟨lenK rfl,λa ha=>?_⟩;symm;refine a2Y (a0b (kq7 _ _ gu nuW) ha) a0a (a0C (by rw[ae];show bs.length+1<=1000;omega)) λa2 ha2=>?_;symm;refine a0t a0a (b4y hi) ?_;have s8:Sm G' (put (put G' a (.lst [.non])) a2 (.lst (bs.map Z.int++[Z.non]))):=(Sm.new ha).trans (Sm.new ha2);generalize put (put G' a (.lst [.non])) a2 (.lst (bs.map Z.int++[Z.non]))=G8 at s8 ⊢;have kq8:Kq W G7 G8:=λb o e nb=>s8 _ _ (kq7 b o e nb);have gt8:=s8 _ _ gt;clear s8 kq7 gt ha ha2;have f1:=a1k plP b;have f2:=a1k plQ b;generalize a0m Pp b=y1 at f1 hj2 ⊢;generalize a0m Qp b=y2 at f2 hj2 ⊢;generalize bs[i+1]?=en at hj2 ⊢;have okw:okW0 [y1,y2]:=⟨by simp,by rw[aL,aL,a0r (by decide) f1,a0r (by decide) f2];rfl⟩;have okA:OkC (D0++told.map (Cg.mk key)):=λc hc=>by
    rcases ah.mp hc with hc |hc
    ·exact okD c hc
    ·obtain⟨r,hr,rfl⟩:=az.mp hc;exact⟨hpt r hr,okey⟩
   have lA:(D0++told.map (Cg.mk key)).length<=700:=by rw[ay,ae];omega
   symm;refine a8a (a0r (by decide) f1) (a0r (by decide) f2) ?_;symm;refine ifD (λc=>?_) λc=>?_
   ·have e0:dif y1 y2=none:=if_pos c;rw[e0]at hj2;symm;exact⟨told,_,_,_,hj2,by omega,hpt,kq8,gt8,rfl⟩
   ·have e0:dif y1 y2=some [y1,y2]:=if_neg c;rw[e0]at hj2
    change (pcs (λt=>dif (a0m Pp t) (a0m Qp t)) (bs.drop (i+1))).foldl jn (jn told ⟨b,en,[y1,y2]⟩)=_ at hj2
    symm;refine⟨lenK rfl,λa3 ha3=>?_⟩;generalize ee9:put G8 a3 _=G9;obtain⟨g3,s9⟩:=newK ee9 ha3;have kq9:Kq W G7 G9:=λb o e nb=>s9 _ _ (kq8 b o e nb);have gt9:=s9 _ _ gt8;have gu9:=kq9 _ _ gu nuW;clear kq8 gt8 ee9 s9 ha3;symm;refine a5R gt9 g3 okA.fl8 rfl ?_;have app:jn told ⟨b,en,[y1,y2]⟩=told++[⟨b,en,[y1,y2]⟩]->a1w (.ref W) [.tup [.str key,.int b,oz en,y1,y2]] G9 (λ_ G4=>Ex4 λ(told':List Rw) (v1 v2 v3:Option Z)=>(pcs (λt=>dif (a0m Pp t) (a0m Qp t)) (bs.drop (i+1))).foldl jn told'=join (pcs (λt=>dif (a0m Pp t) (a0m Qp t)) bs)/\told'.length<=i+1/\(∀r∈told',W2 r)/\Kq W G7 G4/\G4 W=some (.lst ((D0++told'.map (Cg.mk key)).map Cg.z)) /\
      ([some (.ref p),some (.int n),some (.int m),some (.ref W),some (.str key),some (.ref th),some (.ref nw),some (.ref u),some (.int i),some (.tup [y1,y2]),some (oz en)]:S3)=[some (.ref p),some (.int n),some (.int m),some (.ref W),some (.str key),some (.ref th),some (.ref nw),some (.ref u),v1,v2,v3]):=λhjn=>by
     refine a0y gt9 (by rw[ae];exact a0f (by omega)) ⟨told++[⟨b,en,[y1,y2]⟩],_,_,_,by rw[<- hjn];exact hj2,by simp;omega,λr hr=>?_,λb o e nb=>by rw[a0q nb];exact kq9 b o e nb,?_,rfl⟩
     ·rcases ah.mp hr with hr |hr
      ·exact hpt r hr
      ·rw[ai.mp hr];exact⟨_,_,rfl,f1,f2⟩
     ·rw[a0a];simp[Cg.z]
    symm;refine ifN (λc2=>?_) λc2=>?_
    ·by_cases ht:told=[]
     ·subst ht;have hne:D0≠[]:=λz=>c2 (by rw[z];rfl);obtain⟨d,hd⟩:∃d,D0.getLast?=some d:=by
       cases e:D0.getLast? with
       |none=>exact absurd (cZ.mp e) hne
       |some k=>exact⟨k,rfl⟩
      have hlm:((D0++[].map (Cg.mk key)).map Cg.z).getLast?=some d.z:=by rw[aO,aV,da,hd];rfl
      symm;refine a0t gt9 (a1j hlm) ?_;symm;refine a02 (w:=.str d.k) at0 ?_;symm;refine ifD (λz=>absurd z (kD d (dP hd))) λ_=>?_;symm;refine a0M gt9 ?_;symm;refine a0t gu9 hbm ?_;symm;refine⟨lenK rfl,?_⟩;symm;refine a2b (by simp) (a0C (by simp)) ?_;symm;exact app rfl
     ·obtain⟨k,hk⟩:∃k,told.getLast?=some k:=by
       cases e:told.getLast? with
       |none=>exact absurd (cZ.mp e) ht
       |some k=>exact⟨k,rfl⟩
      obtain⟨x0,y0,e0,g1,g2⟩:=hpt k (dP hk);obtain⟨kb,ke,kw⟩:=k;cases e0;have hlm:((D0++told.map (Cg.mk key)).map Cg.z).getLast?=some (.tup [.str key,.int kb,oz ke,x0,y0]):=by
       rw[au,List.getLast?_append,da,da,hk];rfl
      have okw0:okW0 [x0,y0]:=⟨by simp,by rw[aL,aL,a0r (by decide) g1,a0r (by decide) g2];rfl⟩;symm;refine a0t gt9 (a1j hlm) ?_;symm;refine ifD (λ_=>?_) λz=>absurd rfl z;symm;refine a0t gt9 (a1j hlm) ?_;symm;refine a0t gu9 hbm ?_;symm;refine b0d ?_;symm;refine ifD (λc3=>?_) λc3=>?_
      ·symm;refine a0t gt9 (a1j hlm) ?_;symm;refine a8O (show ¬ (HT.sIx 5 0 (some 3)=0/\HT.sIx 5 5 none=5) by decide) ?_;rw[at5.1];symm;refine b4t (a3B okw0) (a3B okw) ?_;symm;refine ifD (λc4=>?_) λc4=>?_
       ·have hjn:jn told ⟨b,en,[y1,y2]⟩=told.dropLast++[⟨kb,en,[y1,y2]⟩]:=by
         unfold jn;rw[hk];exact if_pos ⟨c3,c4⟩
        symm;refine a0t gt9 (a1j hlm) ?_;symm;refine a8O (show ¬ (HT.sIx 5 0 none=0/\HT.sIx 5 5 (some 2)=5) by decide) ?_;rw[at5.2];symm;refine⟨lenK rfl,?_⟩;symm;refine a2b (by simp) (a0C (by simp)) ?_;symm;refine a2b (by simp) (a0C (by simp)) ?_;symm;refine a8P gt9 (a4I (by rw[ae,ay,ae];have:=bW.mpr ht;omega)) ?_;refine⟨told.dropLast++[⟨kb,en,[y1,y2]⟩],_,_,_,by rw[<- hjn];exact hj2,by simp;omega,λr hr=>?_,λb o e nb=>by rw[a0q nb];exact kq9 b o e nb,?_,rfl⟩
        ·rcases ah.mp hr with hr |hr
         ·exact hpt r (eT _ hr)
         ·rw[ai.mp hr];exact⟨_,_,rfl,f1,f2⟩
        ·rw[a0a,a5y hlm,au,List.dropLast_append_of_ne_nil (by simpa using ht)];simp[Cg.z,eU]
       ·symm;refine a0M gt9 ?_;symm;refine a0t gu9 hbm ?_;symm;refine⟨lenK rfl,?_⟩;symm;refine a2b (by simp) (a0C (by simp)) ?_;symm;exact app (by unfold jn;rw[hk];exact if_neg λz=>c4 z.2)
      ·symm;refine a0M gt9 ?_;symm;refine a0t gu9 hbm ?_;symm;refine⟨lenK rfl,?_⟩;symm;refine a2b (by simp) (a0C (by simp)) ?_;symm;exact app (by unfold jn;rw[hk];exact if_neg λz=>c3 z.1)
    ·have e0:told=[]:=by
      have:=dS.mp c2
      exact dS.mp (List.append_eq_nil_iff.mp this).2
     symm;refine a0M gt9 ?_;symm;refine a0t gu9 hbm ?_;symm;refine⟨lenK rfl,?_⟩;symm;refine a2b (by simp) (a0C (by simp)) ?_;symm;exact app (by rw[e0];rfl)
  ·rintro σ G' ⟨told,w1,w2,w3,hj2,hlen,hpt,kq7,gt,rfl⟩;rw[a1m,eX]at hj2;have ht2:told=join (pcs (λt=>dif (a0m Pp t) (a0m Qp t)) bs):=hj2;rw[<- ht2]at dk;symm;refine⟨λx=>if x=key then told else L x,_,_,_,_,_,_,_,λb o e nb=>kq7 _ _ (s37 _ _ (kq _ _ e nb)) nb,?_,λk hk=>?_,rfl⟩
   ·rw[gt,fin told]
   ·rw[take_snoc hx']at hk
    show DL T n m k (if k=key then told else L k)
    by_cases c:k=key
    ·rw[if_pos c,c];exact⟨dk.1,λt=>by rw[dk.2.1,fP,fQ],ax dk.2.2 b126⟩
    ·rw[if_neg c];rcases ah.mp hk with hk |hk
     ·exact hL k hk
     ·exact absurd (ai.mp hk) c
 ·rintro σ G3 ⟨L,v1,v2,v3,v4,v5,v6,v7,kq,gW3,hL,rfl⟩;rw[ae,bP]at gW3 hL;symm;have ko:∀k,k∉ks->∀i,putsK (T.take i) k=[]:=λk hk i=>by
   unfold putsK;rw[db.mpr fun τ hτ=>?_]
   ·rfl
   ·simpa using λz=>hk ((mem k).mpr ⟨τ,aY hτ,z⟩)
  have e0:cgs ks L=cgs ks λk=>if k∈ks then L k else []:=a1S λk hk=>(if_pos hk).symm
  have rw_:∀k,rowsOf (cgs ks L) k=if k∈ks then L k else []:=a5E nd
  refine q W (cgs ks L) G3 hW (λb o e=>kq b o (s2 _ _ (s1 _ _ e)) (a0i e hW)) gW3 ⟨ks,λk=>if k∈ks then L k else [],e0,srt,nd,λk hk=>if_neg hk,okk,λk=>?_⟩ ⟨⟨ks,k4,λc hc=>?_⟩,λk=>?_,?_⟩
  ·show Can (if k∈ks then L k else [])/\∀t,val (if k∈ks then L k else []) t=_
   by_cases c:k∈ks
   ·rw[if_pos c];exact⟨(hL k c).can,(hL k c).v⟩
   ·rw[if_neg c];refine⟨Can.nil,λt=>?_⟩;unfold fT;rw[ko k c,ko k c];exact (if_pos rfl).symm
  ·obtain⟨k,h1,h2⟩:=cG.mp hc;obtain⟨r,_,rfl⟩:=az.mp h2;exact h1
  ·rw[rw_]
   split
   ·next c=>have:=(hL k c).len;omega
   ·simp
  ·have:=a4Q hL
   omega
def a4R:P3:=λws G R=>∃(p:Addr)(A:List Cg),ws=[.ref p]/\G p=some (.lst (A.map Cg.z))/\(∀c∈A,W2 c.r)/\A.length<=1000/\∀t,G t=none->R (.ref t) (put G t (.lst ((turn A).map Cg.z)))
def a4S(T:Txt K mg base a):Cal P w K mg base CX0 1 "turned" (lowP K a4R):=by
 refine fnc 1 (N:=["some"]) T.br (T.f 5 _ rfl) ?_ (len:=λws G R h=>(by obtain⟨_,_,rfl,_⟩:=h;rfl));walk_at "in";refine⟨_,(a1t (a4o (q_l ["key","begin","end","then","now"] [none,none,none,none,none] (.tp [0,1,2,3,4])))),?_⟩;obtain⟨p,A,rfl,gp,hw,hz,q⟩:=h;symm;refine a1g gp ?_;intro D hD;refine a11 (g':=Cg.z) (λc=>some ⟨c.k,⟨c.r.b,c.r.e,rev2 c.r.w⟩⟩) (λys=>a0b gp hD) hz ?_ ?_
 ·intro c hc ys K1 K2 k1 k2;obtain⟨x,y,e,_,_⟩:=hw c hc;obtain⟨k,b,en,w⟩:=c;cases e;refine⟨_,rfl,?_⟩;symm;refine⟨lenK rfl,?_⟩;exact k1 _ rfl
 ·symm;rw[show (A.filterMap λc=>some (⟨c.k,⟨c.r.b,c.r.e,rev2 c.r.w⟩⟩:Cg))=turn A from by unfold turn;rw[<- dc];rfl];exact q D hD
def a2N:P3:=λws G R=>∃(k:Str)(p:Addr)(l:List Rw),ws=[.str k,.ref p]/\G p=some (.lst (l.map Rw.z))/\(∀r∈l,W2 r)/\l.length<=1000/\∀t,G t=none->R (.ref t) (put G t (.lst (((unl l).map (Cg.mk k)).map Cg.z)))
def a2O(T:Txt K mg base a):Cal P w K mg base CX0 1 "unlike_of" (lowP K a2N):=by
 refine fnc 2 (N:=["key","pieces"]) T.br (T.f 7 _ rfl) ?_ (len:=λws G R h=>(by obtain⟨_,_,_,rfl,_⟩:=h;rfl));walk_at "in";refine⟨_,(a1t (a4o (q_l ["begin","end","then","now","key"] [none,none,none,none,some 0] (.tp [0,1,2,3])))),?_⟩;obtain⟨k,p,l,rfl,gp,hw,hz,q⟩:=h;symm;refine a1g gp ?_;intro D hD;refine a11 (g':=Cg.z) (λr=>if unW r.w=true then some ⟨k,r⟩ else none) (λys=>a0b gp hD) hz ?_ ?_
 ·intro r hr ys K1 K2 k1 k2;obtain⟨x,y,e,fx,fy⟩:=hw r hr;obtain⟨b,en,w⟩:=r;cases e;refine⟨_,rfl,?_⟩;symm;refine a8a (a0r (by decide) fx) (a0r (by decide) fy) ?_;symm
  by_cases c:x=y
  ·rw[decide_eq_true c];refine ifF ?_;exact k2 (by simp[unW,c])
  ·rw[decide_eq_false c];refine ifT ?_;symm;refine⟨lenK rfl,?_⟩;exact k1 ⟨k,⟨b,en,[x,y]⟩⟩ (by simp[unW,c])
 ·rw[show (l.filterMap λr=>if unW r.w=true then some (⟨k,r⟩:Cg) else none)=(unl l).map (Cg.mk k) from by
   unfold unl;rw[<- dc,List.filterMap_filter]
   congr 1]
  exact q D hD
def Pr2(l:List Rw):Prop:=∀r∈l,∃x y,r.w=[.tup [x,y]]/\flat 0 x=true/\flat 0 y=true
def Pr2.p1{l:List Rw}(h:Pr2 l):Pair1 l:=λr hr=>by
 obtain⟨x,y,e,fx,fy⟩:=h r hr;exact⟨_,e,by simp[flat,fx,fy]⟩
def a3F{l:List Rw}(h:Pr2 l)(t:Int):wz (val l t)=.non\/∃x y,wz (val l t)=.tup [x,y]/\flat 0 x=true/\flat 0 y=true:=by
 cases e:val l t with
 |none=>exact .inl rfl
 |some w=>
  obtain⟨r,hr,_,e2⟩:=a5u e;obtain⟨x,y,ex,fx,fy⟩:=h r hr;exact .inr ⟨x,y,by rw[<- e2,ex];rfl,fx,fy⟩
def b4G{l o:List Rw}{bs:List Int}(hb:a0V (l++o) bs){r:Rw}(hr:r∈join (pcs (laidF l o) bs)):∃t,r.w=[wz (val l t),wz (val o t)]/\¬ (wz (val l t)=.non/\wz (val o t)=.non):=by
 obtain⟨r',h1,h2⟩:=(a4G (a5v (laidF l o) hb.1)).2.2.2 r hr;obtain⟨_,e⟩:=a4H h1;unfold laidF at e
 split at e
 ·cases e
 ·next c=>exact⟨r'.b,h2.trans (aG.inj e).symm,c⟩
def a14:P3:=λws G R=>Ex4 λ(p q:Addr) (l o:List Rw)=>ws=[.ref p,.ref q]/\G p=some (.lst (l.map Rw.z))/\G q=some (.lst (o.map Rw.z))/\Rise l/\Pr2 l/\Rise o/\Pr2 o/\l.length<=150/\o.length<=150 /\
 ∀(t:Addr)(bs:List Int)(G':Hq),G t=none->Sm G G'->a0V (l++o) bs->bs.length<=600->G' t=some (.lst ((pj l o bs).map Rw.z))->R (.ref t) G'
def a15(T:Txt K mg base a):Cal P w K mg base CX0 4 "pairs_joined" (lowP K a14):=by
 refine fnc 2 (N:=["pairs","others","pieces","begin","end","pair","other","then","now"]) T.br (T.f 8 _ rfl) ?_ (len:=λws G R h=>(by obtain⟨_,_,_,_,rfl,_⟩:=h;rfl));walk_at "in";refine⟨_,(by ac_rfl),?_⟩;obtain⟨p,q,l,o,rfl,gp,gq,rl,pl,ro,po,zl,zo,fin⟩:=h;symm;refine⟨lenK rfl,λW hW=>?_⟩;generalize ee:put G W _=G1;obtain⟨gW,s1⟩:=newK ee hW;symm;refine⟨p,q,l,o,rfl,s1 _ _ gp,s1 _ _ gq,rl,pl.p1,ro,po.p1,zl,zo,λu bs G2 hu s2 hb hbl gu=>?_⟩;have gW2:=s2 _ _ gW;have nuW:u≠W:=λz=>by rw[z,gW]at hu;cases hu
 have LW:=λ(r:Rw) (hr:r∈join (pcs (laidF l o) bs))=>b4G hb hr;have LL:=(laid_ok hb).2.2;have hbl:bs.length<=600:=by omega
 have fin:=λz G'=>fin z bs G';unfold pj at fin;generalize join (pcs (laidF l o) bs)=J at gu LW LL fin;have w2:∀r∈J,W2 ⟨r.b,r.e,hw r.w⟩:=λr hr=>by
  obtain⟨t,e,c⟩:=LW r hr;rw[e];rcases a3F pl t with e1 |⟨x1,x2,e1,f1,f2⟩<;>rcases a3F po t with e2 |⟨y1,y2,e2,g1,g2⟩
  ·exact absurd ⟨e1,e2⟩ c
  ·rw[e1,e2];exact⟨y1,y2,rfl,g1,g2⟩
  ·rw[e1,e2];exact⟨x1,x2,rfl,f1,f2⟩
  ·rw[e1,e2];exact⟨x1,y2,rfl,f1,g2⟩
 symm;refine a1g gu ?_;refine a0R (λi σ G'=>Ex6 λ(v1 v2 v3 v4 v5 v6:Option Z)=>Kq W G2 G'/\G' W=some (.lst (((J.take i).map λr=>(⟨r.b,r.e,hw r.w⟩:Rw)).map Rw.z))/\σ=[some (.ref p),some (.ref q),some (.ref W),v1,v2,v3,v4,v5,v6]) ⟨_,_,_,_,_,_,λ_ _ e _=>e,gW2,rfl⟩ (by rintro i σ G' _ ⟨_,_,_,_,_,_,k,_⟩;exact k _ _ gu nuW) ?_ ?_
 ·rintro i x σ G3 hx ⟨v1,v2,v3,v4,v5,v6,kq,gW3,rfl⟩;rw[aq]at hx;cases hx':J[i]? with
  |none=>rw[hx']at hx;cases hx
  |some r=>
  rw[hx']at hx;cases hx;have hi:=(aj.mp hx').1;obtain⟨t,e,c⟩:=LW r (aD hx');have tk:((J.take (i+1)).map λr=>(⟨r.b,r.e,hw r.w⟩:Rw))=((J.take i).map λr=>(⟨r.b,r.e,hw r.w⟩:Rw))++[⟨r.b,r.e,hw r.w⟩]:=by rw[take_snoc hx',au];rfl
  have lt:((J.take i).map λr=>(⟨r.b,r.e,hw r.w⟩:Rw)).length<=600:=by rw[ae,aA];omega
  generalize ((J.take i).map λr=>(⟨r.b,r.e,hw r.w⟩:Rw))=P0 at gW3 tk lt;rw[e]at tk;obtain⟨b,en,w⟩:=r;cases e;refine⟨_,rfl,?_⟩;have app:∀(x y:Z)(v1 v2 v3 v4 v5 v6:Option Z),hw [wz (val l t),wz (val o t)]=[x,y]->a1w (.ref W) [.tup [.int b,oz en,x,y]] G3 (λ_ G'=>Ex6 λ(u1 u2 u3 u4 u5 u6:Option Z)=>Kq W G2 G'/\G' W=some (.lst (((J.take (i+1)).map λr=>(⟨r.b,r.e,hw r.w⟩:Rw)).map Rw.z))/\([some (.ref p),some (.ref q),some (.ref W),v1,v2,v3,v4,v5,v6]:S3)=[some (.ref p),some (.ref q),some (.ref W),u1,u2,u3,u4,u5,u6]):=λx y v1 v2 v3 v4 v5 v6 ew=>by
   refine a0y gW3 (by rw[ae];exact a0f (by omega)) ⟨_,_,_,_,_,_,λb o e1 nb=>by rw[a0q nb];exact kq b o e1 nb,?_,rfl⟩;rw[a0a,tk,ew,au]
   rfl
  rcases a3F pl t with e1 |⟨x1,x2,e1,f1,f2⟩<;>rcases a3F po t with e2 |⟨y1,y2,e2,g1,g2⟩
  ·exact absurd ⟨e1,e2⟩ c
  ·rw[e1,e2]at app ⊢;symm;refine a0M gW3 ?_;symm;refine⟨lenK rfl,?_⟩;symm;exact app y1 y2 _ _ _ _ _ _ rfl
  ·rw[e1,e2]at app ⊢;symm;refine a0M gW3 ?_;symm;refine⟨lenK rfl,?_⟩;symm;exact app x1 x2 _ _ _ _ _ _ rfl
  ·rw[e1,e2]at app ⊢;symm;refine a0M gW3 ?_;symm;refine⟨lenK rfl,?_⟩;symm;exact app x1 y2 _ _ _ _ _ _ rfl
 ·rintro σ G3 ⟨v1,v2,v3,v4,v5,v6,kq,gW3,rfl⟩;rw[ae,bP]at gW3;symm;have s3:Sm G G3:=λb o e=>kq b o (s2 _ _ (s1 _ _ e)) (a0i e hW);refine⟨W,_,rfl,gW3,λr hr=>?_,by rw[ae];omega,λz hz=>fin z _ (s3.free hz) (s3.trans (Sm.new hz)) hb hbl a0a⟩;obtain⟨r',h1,rfl⟩:=az.mp hr;obtain⟨x,y,e,f1,f2⟩:=w2 r' h1;refine⟨by rw[e];simp,?_⟩;rw[e,aL,aL,a0r (by decide) f1,a0r (by decide) f2];rfl
def a2n:valZ (putZ kvs k v) j=if j=k then some v else valZ kvs j:=by
 unfold putZ
 split
 ·next hc=>
  have m:∀kvs:List (Key×Z),valZ (kvs.map λkv=>if kv.1=k then (kv.1,v) else kv) j=(valZ kvs j).map λx=>if j=k then v else x:=by
   intro kvs
   induction kvs with
   |nil=>rfl
   |cons p r ih=>
    unfold valZ at ih ⊢;rw[am,bB,bB];have h:(if p.1=k then (p.1,v) else p).1=p.1:=by split<;>rfl
    rw[h];cases c:decide (p.1=j) with
    |false=>exact ih
    |true=>
     have d:=of_decide_eq_true c;simp
     by_cases ck:p.1=k
     ·simp_all
     ·simp_all
  rw[m]
  by_cases c:j=k
  ·subst c;obtain⟨p,f,g⟩:=bE.mp hc
   have:(kvs.find? λkv=>decide (kv.1=j)).isSome=true:=e8.mpr ⟨p,f,g⟩
   unfold valZ;cases e:kvs.find? λkv=>decide (kv.1=j) with
   |none=>rw[e]at this;cases this
   |some q=>simp
  ·simp_all
 ·next hc=>
  unfold valZ;rw[eQ]
  by_cases c:j=k
  ·subst c
   have:kvs.find? (λkv=>decide (kv.1=j))=none:=by
    rw[cY];intro p i l;exact hc (bE.mpr ⟨p,i,l⟩)
   rw[this];simp
  ·rw[if_neg c]
   have:[(k,v)].find? (λkv=>decide (kv.1=j))=none:=by simp;exact λz=>c z.symm
   rw[this,Option.or_none]
def a8e(h:valZ kvs k=none):∀q∈kvs,q.1≠k:=λq b e=>by
 unfold valZ at h
 have:(kvs.find? λa=>decide (a.1=k)).isSome=true:=e8.mpr ⟨q,b,decide_eq_true e⟩
 cases e2:kvs.find? λa=>decide (a.1=k) with
 |none=>rw[e2]at this;cases this
 |some x=>rw[e2]at h;cases h
def b12(h:valZ kvs k=none):putZ kvs k v=kvs++[(k,v)]:=by
 unfold putZ;rw[if_neg λz=>?_];obtain⟨q,a,b⟩:=bE.mp z;exact a8e h q a (of_decide_eq_true b)
set_option tactic.hygienic true in
def a9G{α β:Type}{f:α->β}{ps qs:List β}(h:ps.Perm qs):∀A:List α,qs=A.map f->∃B:List α,B.Perm A/\ps=B.map f:=by
 induction h with
 |nil=>exact λA e=>⟨[],by rw[dS.mp e.symm],rfl⟩
 |cons x _ ih=>
  intro A e
  match A,e with
  |a::A,e=>
   rw[am]at e;injection e with e1 e2
   obtain⟨B,h1,rfl⟩:=ih A e2;exact⟨a::B,h1.cons a,by rw[e1];rfl⟩
 |swap x y l=>
  intro A e
  match A,e with
  |[],e=>cases e
  |[_],e=>cases e
  |a::b::A,e=>
   simp only[am,bh.injEq]at e;obtain⟨rfl,rfl,rfl⟩:=e;exact⟨b::a::A,aH.swap a b A,rfl⟩
 |trans _ _ ih1 ih2=>
  intro A e;obtain⟨B,h1,e1⟩:=ih2 A e;obtain⟨C,h2,e2⟩:=ih1 B e1;exact⟨C,h2.trans h1,e2⟩
def b4H{α β γ:Type}{f:α->β}{g:α->γ}(A:List α):(A.map f).zip (A.map g)=A.map λx=>(f x,g x):=by
 induction A with
 |nil=>rfl
 |cons a A ih=>rw[am,am,List.zip_cons_cons,ih];rfl
def a9H{α:Type}{f:α->Int}{g:α->Z}{A:List α}{os:List Z}(h:SOut (A.map f) (A.map g) os):∃B:List α,B.Perm A/\os=B.map g/\B.Pairwise λx y=>f x<=f y:=by
 obtain⟨ps,hp,rfl,hs⟩:=h;obtain⟨B,h1,rfl⟩:=a9G hp A (b4H (f:=f) (g:=g) A);have hs:=cr.mp hs;exact⟨B,h1,by rw[aZ];rfl,hs⟩
theorem a4h:∀{l m:List Rw},(l.Pairwise λx y=>x.b<y.b)->(m.Pairwise λx y=>x.b<=y.b)->m.Perm l->m=l
 |[],m,_,_,h=>h.eq_nil
 |y::l,[],_,_,h=>by have:=h.length_eq;simp at this
 |y::l,x::m,h1,h2,h=>by
  have e:x=y:=by
   rcases ag.mp (h.mem_iff.mp (aX (a:=x) (l:=m))) with e |m1
   ·exact e
   ·rcases ag.mp (h.mem_iff.mpr (aX (a:=y) (l:=l))) with e |m2
    ·exact e.symm
    ·have a1:=(av.mp h1).1 x m1;have a2:=(av.mp h2).1 y m2;omega
  subst e;rw[a4h (av.mp h1).2 (av.mp h2).2 h.cons_inv]
def a8f{A B:List Cg}(h:B.Perm A)(s:B.Pairwise λx y=>x.r.b<=y.r.b)(k:Str)(r:Rise (rowsOf A k)):rowsOf B k=rowsOf A k:=by
 refine a4h (bG.imp_of_mem (λ{x y} hx _ q=>q.b (r.1 x hx)) r.2) ?_ ((h.filter _).map _);unfold rowsOf;rw[cr];exact s.sublist cu
def a1T{A:List Cg}{c:Cg}{k:Str}:rowsOf (A++[c]) k=rowsOf A k++if c.k=k then [c.r] else []:=by
 unfold rowsOf;rw[eY,au]
 congr 1
 by_cases e:c.k=k<;>simp[e]
def b4I{l m:List Rw}:pr (l++m)=pr l++pr m:=au
structure PD (B0 G:Hq) (d:Addr) (A:List Cg) (vs:List Str) (kvs:List (Key×Z)):Prop where
 at_:G d=some (.dK kvs)
 ks:kvs.map (·.1)=vs.map λs=>(Sum.inr s:Key)
 nd:vs.Nodup
 ln:∀w∈vs,∃l,valZ kvs (.inr w)=some (.ref l)/\G l=some (.lst ((pr (rowsOf A w)).map Rw.z))/\B0 l=none
 no:∀w,w∉vs->valZ kvs (.inr w)=none
 al:∀w,w∈vs↔∃c∈A,c.k=w
 inj:∀w v l,valZ kvs (.inr w)=some (.ref l)->valZ kvs (.inr v)=some (.ref l)->w=v
 sm:Sm B0 G
 fr:B0 d=none
def PD.len{B0 G:Hq}{d:Addr}{A:List Cg}{vs:List Str}{kvs:List (Key×Z)}(H:PD B0 G d A vs kvs):kvs.length=vs.length:=by have:=congrArg bA H.ks;simpa using this
def PD.short{B0 G:Hq}{d:Addr}{A:List Cg}{vs:List Str}{kvs:List (Key×Z)}(H:PD B0 G d A vs kvs):vs.length<=A.length:=by
 have:=H.nd.length_le_of_subset (l₂:=A.map Cg.k) λw hw=>by
  obtain⟨c,h1,h2⟩:=(H.al w).mp hw;exact az.mpr ⟨c,h1,h2⟩
 simpa using this
def PD.weak{B1 B0 G:Hq}{d:Addr}{A:List Cg}{vs:List Str}{kvs:List (Key×Z)}(H:PD B0 G d A vs kvs)(s:Sm B1 B0):PD B1 G d A vs kvs:=
 ⟨H.at_,H.ks,H.nd,λw hw=>let ⟨l,a,b,c⟩:=H.ln w hw;⟨l,a,b,s.free c⟩,H.no,H.al,H.inj,s.trans H.sm,s.free H.fr⟩
def PD.keep{B0 G G':Hq}{d:Addr}{A:List Cg}{vs:List Str}{kvs:List (Key×Z)}(H:PD B0 G d A vs kvs)(s:Sm G G'):PD B0 G' d A vs kvs:=
 ⟨s _ _ H.at_,H.ks,H.nd,λw hw=>let ⟨l,a,b,c⟩:=H.ln w hw;⟨l,a,s _ _ b,c⟩,H.no,H.al,H.inj,H.sm.trans s,H.fr⟩
def a8g{A:List Cg}{c:Cg}{w:Str}:(∃d∈A++[c],d.k=w)↔(∃d∈A,d.k=w)\/c.k=w:=by
 constructor
 ·rintro⟨d,hd,e⟩;rcases ah.mp hd with hd |hd
  ·exact .inl ⟨d,hd,e⟩
  ·rw[ai.mp hd]at e;exact .inr e
 ·rintro (⟨d,hd,e⟩ |e)
  ·exact⟨d,bQ _ hd,e⟩
  ·exact⟨c,aI _ (.head _),e⟩
def PD.old{B0 G Gx:Hq}{d l:Addr}{A:List Cg}{vs:List Str}{kvs:List (Key×Z)}{c:Cg}(H:PD B0 G d A vs kvs)(hw:c.k∈vs)(hl:valZ kvs (.inr c.k)=some (.ref l))(s:Sm G Gx):PD B0 (put Gx l (.lst ((pr (rowsOf A c.k)).map Rw.z++[Rw.z ⟨c.r.b,c.r.e,[.tup c.r.w]⟩]))) d (A++[c]) vs kvs:=by
 obtain⟨l',e1,e2,e3⟩:=H.ln c.k hw;rw[hl]at e1;cases e1;have ndl:d≠l:=λz=>by have:=H.at_;rw[z,e2]at this;cases this
 refine⟨by rw[a0q ndl];exact s _ _ H.at_,H.ks,H.nd,λw hw'=>?_,H.no,λw=>?_,H.inj,λb o e=>?_,H.fr⟩
 ·obtain⟨l2,a1,a2,a3⟩:=H.ln w hw'
  by_cases cc:w=c.k
  ·subst cc;rw[hl]at a1;cases a1;refine⟨l,hl,?_,e3⟩;rw[a0a,a1T,if_pos rfl,b4I,au]
   rfl
  ·refine⟨l2,a1,?_,a3⟩;rw[a0q λz=>cc (H.inj w c.k l (by rw[<- z];exact a1) hl),a1T,if_neg (Ne.symm cc),aV];exact s _ _ a2
 ·rw[a8g,<- H.al];exact⟨.inl,λz=>z.elim id λe=>e▸hw⟩
 ·rw[a0q λz=>by rw[z,e3]at e;cases e];exact s _ _ (H.sm _ _ e)
def PD.new{B0 G:Hq}{d t:Addr}{A:List Cg}{vs:List Str}{kvs:List (Key×Z)}{c:Cg}(H:PD B0 G d A vs kvs)(hw:c.k∉vs)(ht:G t=none):PD B0 (put (put (put G t (.lst [])) d (.dK (putZ kvs (.inr c.k) (.ref t)))) t (.lst [Rw.z ⟨c.r.b,c.r.e,[.tup c.r.w]⟩])) d (A++[c]) (vs++[c.k]) (putZ kvs (.inr c.k) (.ref t)):=by
 have ndt:d≠t:=a0i H.at_ ht;have hv:=H.no c.k hw;have B0t:B0 t=none:=H.sm.free ht;have old:∀b o,b≠d->G b=some o->put (put (put G t (.lst [])) d (.dK (putZ kvs (.inr c.k) (.ref t)))) t (.lst [Rw.z ⟨c.r.b,c.r.e,[.tup c.r.w]⟩]) b=some o:=λb o nb e=>by
  have nt:=a0i e ht;rw[a0q nt,a0q nb,a0q nt];exact e
 have nt:∀w l,valZ kvs (.inr w)=some (.ref l)->l≠t:=λw l e z=>by
  by_cases cc:w∈vs
  ·obtain⟨l2,a1,a2,_⟩:=H.ln w cc;rw[e]at a1;cases a1;rw[z,ht]at a2;cases a2
  ·rw[H.no w cc]at e;cases e
 refine⟨by rw[a0q ndt,a0a],by rw[b12 hv,au,H.ks,au];rfl,?_,λw hw'=>?_,λw hw'=>?_,λw=>?_,λw v l e1 e2=>?_,λb o e=>?_,H.fr⟩
 ·rw[cp];exact⟨H.nd,by simp,λa h1 b h2 z=>hw (by rw[<- ai.mp h2,<- z];exact h1)⟩
 ·by_cases cc:w=c.k
  ·subst cc;refine⟨t,by rw[a2n,if_pos rfl],?_,B0t⟩;have e0:rowsOf A c.k=[]:=by
    unfold rowsOf;rw[db.mpr λx hx=>by simpa using λz:x.k=c.k=>hw ((H.al _).mpr ⟨x,hx,z⟩)]
    rfl
   rw[a0a,a1T,if_pos rfl,e0]
   rfl
  ·have hw2:w∈vs:=by
    rcases ah.mp hw' with q |q
    ·exact q
    ·exact absurd (ai.mp q) cc
   obtain⟨l2,a1,a2,a3⟩:=H.ln w hw2;refine⟨l2,by rw[a2n,if_neg (λz=>cc (by injection z))];exact a1,?_,a3⟩;rw[old _ _ (λz=>by rw[z,H.at_]at a2;cases a2) a2,a1T,if_neg (Ne.symm cc),aV]
 ·rw[ah,not_or]at hw';rw[a2n,if_neg (λz=>hw'.2 (by injection z with z;simp[z]))];exact H.no w hw'.1
 ·rw[a8g,<- H.al,ah,ai];exact or_congr Iff.rfl ⟨Eq.symm,Eq.symm⟩
 ·rw[a2n]at e1 e2
  split at e1<;>split at e2
  ·next c1 c2=>injection c1 with c1;injection c2 with c2;rw[c1,c2]
  ·injection e1 with e1;injection e1 with e1;exact absurd e1.symm (nt _ _ e2)
  ·injection e2 with e2;injection e2 with e2;exact absurd e2.symm (nt _ _ e1)
  ·exact H.inj _ _ _ e1 e2
 ·exact old _ _ (λz=>by rw[z,H.fr]at e;cases e) (H.sm _ _ e)
def a16(a:Ad):P3:=λws G R=>∃(p:Addr)(A:List Cg),ws=[.ref p]/\G p=some (.lst (A.map Cg.z))/\OkC A/\(∀k,Rise (rowsOf A k))/\A.length<=600/\G a.tP=some lamO /\
 ∀(d:Addr)(B:List Cg)(vs:List Str)(kvs:List (Key×Z))(G':Hq),PD G G' d B vs kvs->B.Perm A->(∀k,rowsOf B k=rowsOf A k)->R (.ref d) G'
def a17(T:Txt K mg base a):Cal P w K mg base CX0 4 "pairs_by_key" (lowP K (a16 a)):=by
 refine fncL 1 (N:=["some","pairs","key","begin","end","then","now"]) T.br (T.f 6 _ rfl) T.lam ?_ (λws G R h=>(by obtain⟨_,_,rfl,_⟩:=h;rfl)) ⟨rfl,rfl,rfl,by decide +kernel,rfl,by decide +kernel,by decide +kernel⟩ (by intro kV doc pm an cdv ct us hl;match us,hl with |[_],_=>rfl)
 intro f c A outer s H E ws G R hcd hr nd h;have hu:=b4p hr;refine⟨_,(a0c (z_st (nmI 1 nd) a9X)
  (a0c (a2f (pt:=(.tp [2,3,4,5,6])) fH.never rfl (a4s (q_sk (y:="change") (N:=["change"]) (k:=0) (T.b 0) hr (qv 0) rfl hcd T.gP T.bi (λ_ _ _ _ _ _ hr nd=>(by ac_rfl)) ⟨rfl,rfl,rfl,by decide +kernel,rfl,by decide +kernel,by decide +kernel⟩ rfl rfl rfl (λ_ _ _ us hl=>match us,hl with |[_],_=>rfl))) (by ac_rfl)
  (by ac_rfl))
  (by ac_rfl))),?_⟩
 obtain⟨p,A',rfl,gp,ok,ri,hl,gT,q⟩:=h;symm;intro D hD;refine⟨_,rfl,?_⟩;symm;refine b1C ?_;symm;refine⟨p,_,A'.map (·.r.b),rfl,a0b gp hD,by rw[ae];omega,a0b gT hD,by rw[ae,ae],λi w k hw hk=>?_,λt os ht so=>?_⟩
 ·rw[aq]at hw hk;cases hh:A'[i]? with
  |none=>rw[hh]at hw;cases hw
  |some c=>
   rw[hh]at hw hk;cases hw;cases hk;symm;exact a02 at1 ⟨rfl,rfl⟩
 ·obtain⟨B,pm,rfl,hs⟩:=a9H so;have okB:OkC B:=λc hc=>ok c (pm.mem_iff.mp hc);have lB:B.length<=600:=by rw[pm.length_eq];exact hl
  have nDt:D≠t:=a0i a0a ht;have hGt:G t=none:=(Sm.new hD).free ht;have q:=λvs kvs G' H=>q D B vs kvs G' H pm λk=>a8f pm hs k (ri k);have H0:PD (put G t (.lst (B.map Cg.z))) (put (put G D (.dK [])) t (.lst (B.map Cg.z))) D [] [] []:=by
   refine⟨by rw[a0q nDt,a0a],rfl,.nil,(λw h=>by simp at h),λ_ _=>rfl,λw=>by simp,(λw v l e=>by cases e),λb o e=>?_,by rw[a0q nDt];exact hD⟩
   by_cases c:b=t
   ·subst c;rw[a0a]at e ⊢;exact e
   ·rw[a0q c]at e ⊢;exact a0b e hD
  have gB:put G t (.lst (B.map Cg.z)) t=some (.lst (B.map Cg.z)):=a0a;have sB:Sm G (put G t (.lst (B.map Cg.z))):=Sm.new hGt;generalize put G t (.lst (B.map Cg.z))=B0 at H0 gB sB;generalize put (put G D (.dK [])) t (.lst (B.map Cg.z))=G1 at H0 ⊢;symm;refine a1g (H0.sm _ _ gB) ?_;refine a0R (λi σ G'=>Ex7 λ(vs:List Str) (kvs:List (Key×Z)) (v1 v2 v3 v4 v5:Option Z)=>PD B0 G' D (B.take i) vs kvs/\σ=[some (.ref p),some (.ref D),v1,v2,v3,v4,v5]) ⟨_,_,_,_,_,_,_,H0,rfl⟩ (by rintro i σ G' _ ⟨_,_,_,_,_,_,_,H,_⟩;exact H.sm _ _ gB) ?_ ?_
  ·rintro i x σ G2 hx ⟨vs,kvs,v1,v2,v3,v4,v5,H,rfl⟩;rw[aq]at hx;cases hx':B[i]? with
   |none=>rw[hx']at hx;cases hx
   |some c=>
   rw[hx']at hx;cases hx;have hi:=(aj.mp hx').1;obtain⟨⟨x,y,e0,fx,fy⟩,hk⟩:=okB c (aD hx');have tk:=take_snoc hx';have lv:=H.short;have lh:=H.len;rw[aA]at lv;have l3:(B.take i).length<=600:=by rw[aA];omega
   rw[tk];generalize B.take i=A0 at H lv l3;obtain⟨k,b,en,w⟩:=c;cases e0;refine⟨_,rfl,?_⟩;symm;refine b1p H.at_ ?_;symm;refine⟨lenK rfl,λt0 ht0=>?_⟩;symm;refine b37 (a0b H.at_ ht0) rfl (a0f (by omega)) (λz hz=>?_) λhz=>?_
   ·have hwv:k∈vs:=by
     by_cases c:k∈vs
     ·exact c
     ·have:=H.no k c;rw[hz]at this;cases this
    obtain⟨l',e1,e2,_⟩:=H.ln k hwv;rw[hz]at e1;cases e1;refine a0M (a0b e2 ht0) ?_;symm;refine⟨lenK rfl,?_⟩;symm;refine⟨lenK rfl,?_⟩;symm;refine a0y (a0b e2 ht0) ?_ ⟨vs,kvs,_,_,_,_,_,H.old (c:=⟨k,⟨b,en,[x,y]⟩⟩) hwv hz (Sm.new ht0),rfl⟩;unfold pr rowsOf;rw[ae,ae,ae];exact a0f (by have:=cF (λc:Cg=>decide (c.k=k)) A0;omega)
   ·have hwv:k∉vs:=λc=>by
     obtain⟨l',e1,_⟩:=H.ln k c;rw[hz]at e1;cases e1
    have ndt:D≠t0:=a0i H.at_ ht0;have gt0:put (put G2 t0 (.lst [])) D (.dK (putZ kvs (.inr k) (.ref t0))) t0=some (.lst []):=by rw[a0q (Ne.symm ndt),a0a]
    refine a0M gt0 ?_;symm;refine⟨lenK rfl,?_⟩;symm;refine⟨lenK rfl,?_⟩;symm;exact a0y gt0 (a0f (by simp)) ⟨vs++[k],putZ kvs (.inr k) (.ref t0),_,_,_,_,_,H.new (c:=⟨k,⟨b,en,[x,y]⟩⟩) hwv ht0,rfl⟩
  ·rintro σ G2 ⟨vs,kvs,v1,v2,v3,v4,v5,H,rfl⟩;rw[ae,bP]at H;symm;exact q vs kvs G2 (H.weak sB)
def a9I{l:List Rw}(c:Can l){r:Rw}(hr:r∈l):val l r.b=some r.w:=by
 induction l with
 |nil=>cases hr
 |cons s l ih=>
  rw[a0k];rcases ag.mp hr with rfl |hr
  ·rw[if_pos (a3A (c.1 _ (.head _)))]
  ·have z:s.has r.b=false:=by
    cases e:s.has r.b with
    |false=>rfl
    |true=>
     have w:=((av.mp c.2).1 r hr).lt.has e;rw[a3A (c.1 r (.tail _ hr))]at w;cases w
   rw[z,if_neg (by decide)];exact ih c.tail hr
def a3G{A:List Cg}{k:Str}{r:Rw}(h:r∈rowsOf A k):⟨k,r⟩∈A:=by
 obtain⟨c,h1,rfl⟩:=az.mp h;obtain⟨h3,h2⟩:=bv.mp h1
 have:c.k=k:=by simpa using h2
 subst this;exact h3
def CL.okC{f g:FZ}{A:List Cg}(a:CL f g A)(hf:FF f)(hg:FF g):OkC A:=λ_ hc=>a.w2 hf hg hc
def b0j{f g:FZ}{A:List Cg}(a:CL f g A)(hf:FF f)(hg:FF g)(k:Str):Pr2 (pr (rowsOf A k)):=λr hr=>by
 obtain⟨s,hs,rfl⟩:=az.mp hr;obtain⟨⟨x,y,e,fx,fy⟩,_⟩:=a.okC hf hg _ (a3G hs);have e:s.w=[x,y]:=e;exact⟨x,y,by show [Z.tup s.w]=_;rw[e],fx,fy⟩
def PD.get{B0 G G':Hq}{d t0:Addr}{A B:List Cg}{vs:List Str}{kvs:List (Key×Z)}(H:PD B0 G d B vs kvs)(hr:∀k,rowsOf B k=rowsOf A k)(s:Sm G G')(g0:G' t0=some (.lst []))(k:Str) :
  ∃x,(valZ kvs (.inr k)).getD (.ref t0)=.ref x/\G' x=some (.lst ((pr (rowsOf A k)).map Rw.z)):=by
 by_cases c:k∈vs
 ·obtain⟨l,e1,e2,_⟩:=H.ln k c;exact⟨l,by rw[e1];rfl,by rw[<- hr];exact s _ _ e2⟩
 ·refine⟨t0,by rw[H.no k c];rfl,?_⟩;have e0:rowsOf B k=[]:=by
   unfold rowsOf;rw[db.mpr λx hx=>by simpa using λz:x.k=k=>c ((H.al _).mpr ⟨x,hx,z⟩)]
   rfl
  rw[<- hr,e0];exact g0
structure JL (f h:FZ) (k:Str) (l:List Rw):Prop where
 can:Can l
 v:∀t,val l t=dif (f k t) (h k t)
 len:l.length<=600
theorem b0k{f h:FZ}{L:Str->List Rw}:∀{ks:List Str},(∀k∈ks,JL f h k (L k))->(cgs ks L).length<=ks.length*600
 |[],_=>by simp[cgs]
 |k::ks,q=>by
  have ih:=b0k (ks:=ks) (L:=L) λx hx=>q x (.tail _ hx)
  have:=(q k (.head _)).len
  unfold cgs at ih ⊢;rw[bX,ay,ae,aE];omega
def b4J{n:Nat}(h:n<=9000):n<=sizeLine:=ax h (by decide)
def a4T(a:Ad):P3:=λws G R=>Ex7 λ(p q:Addr) (A B:List Cg) (f g h:FZ)=>ws=[.ref p,.ref q]/\G p=some (.lst (A.map Cg.z))/\G q=some (.lst (B.map Cg.z))/\CL f g A/\CL g h B/\CB A/\CB B/\FF f/\FF g/\FF h/\G a.tP=some lamO /\
 ∀(t:Addr)(C:List Cg)(G':Hq),G t=none->Sm G G'->G' t=some (.lst (C.map Cg.z))->CL f h C->R (.ref t) G'
def a4U(T:Txt K mg base a):Cal P w K mg base CX0 5 "joined" (lowP K (a4T a)):=by
 refine fnc 2 (N:=["some","others","pairs","other_pairs","told","key"]) T.br (T.f 9 _ rfl) ?_ (len:=λws G R h=>(by obtain⟨_,_,_,_,_,_,_,rfl,_⟩:=h;rfl));walk_at "in";refine⟨_,(a0c (by ac_rfl)
  (a0c (by ac_rfl)
  (a0c (by ac_rfl)
  (a0c (a2f (pt:=(.nm 5)) fH.never rfl (a4s (b6d rfl rfl (T.b 0) rfl rfl (T.b 1) rfl (q_k (qv 2) a2w) (q_k (qv 3) a2w) (he:=se_ rfl) (hpl:=hp_ rfl) (he2:=se_ rfl) (hpl2:=hp_ rfl))) (p_nm (nmI 5 nd))
  (by ac_rfl))
  (by ac_rfl))))),?_⟩
 obtain⟨p,q,A',B',f',g',h',rfl,gp,gq,ca,cb,ba,bb,ff,fg,fh,gT,fin⟩:=h;symm;refine⟨p,A',rfl,gp,ca.okC ff fg,λk=>(ca.rows k).1.rise,ba.all,gT,λd1 P1 vs1 kv1 G1 H1 pm1 r1=>?_⟩;symm;refine⟨q,B',rfl,H1.sm _ _ gq,cb.okC fg fh,λk=>(cb.rows k).1.rise,bb.all,H1.sm _ _ gT,λd2 P2 vs2 kv2 G2 H2 pm2 r2=>?_⟩;have H1:=H1.keep H2.sm;have l1:vs1.length<=4:=by
  obtain⟨ns,a1,a2⟩:=ba.ks;exact ax (H1.nd.length_le_of_subset λw hw=>by obtain⟨c,h1,h2⟩:=(H1.al w).mp hw;rw[<- h2];exact a2 c (pm1.mem_iff.mp h1)) a1
 have l2:vs2.length<=4:=by
  obtain⟨ns,a1,a2⟩:=bb.ks;exact ax (H2.nd.length_le_of_subset λw hw=>by obtain⟨c,h1,h2⟩:=(H2.al w).mp hw;rw[<- h2];exact a2 c (pm2.mem_iff.mp h1)) a1
 have sG:=H1.sm;symm;refine⟨lenK rfl,λW hW=>?_⟩;generalize ee:put G2 W _=G3;obtain⟨gW,s3⟩:=newK ee hW;symm;unfold uSSU;symm;refine⟨vs1,⟨d1,kv1,rfl,.inl (s3 _ _ H1.at_),H1.ks,l1⟩,?_⟩;symm;refine⟨vs2,⟨d2,kv2,rfl,.inl (s3 _ _ H2.at_),H2.ks,l2⟩,λt ks ht so nd mem l8=>?_⟩;have ntW:t≠W:=λz=>by rw[z,gW]at ht;cases ht
 generalize ee4:put G3 t _=G4;obtain⟨gt,s4⟩:=newK ee4 ht;have kp:∀G',Kq W G4 G'->Sm G2 G':=λG' k b o e=>k _ _ (s4 _ _ (s3 _ _ e)) (a0i e hW);have gW4:=s4 _ _ gW;have okk:∀k∈ks,nmOk k:=λk hk=>by
  rcases (mem k).mp hk with h |h
  ·obtain⟨c,a1,a2⟩:=(H1.al k).mp h;rw[<- a2];exact (ca.okC ff fg c (pm1.mem_iff.mp a1)).2
  ·obtain⟨c,a1,a2⟩:=(H2.al k).mp h;rw[<- a2];exact (cb.okC fg fh c (pm2.mem_iff.mp a1)).2
 symm;refine a1g gt ?_;refine a0R (λi σ G'=>∃(M:Str->List Rw)(v:Option Z),Kq W G4 G'/\G' W=some (.lst ((cgs (ks.take i) M).map Cg.z))/\(∀k∈ks.take i,JL f' h' k (M k))/\σ=[some (.ref p),some (.ref q),some (.ref d1),some (.ref d2),some (.ref W),v]) ⟨λ_=>[],_,λ_ _ e _=>e,gW4,λk h=>by simp at h,rfl⟩ (by rintro i σ G' _ ⟨_,_,k,_⟩;exact k _ _ gt ntW) ?_ ?_
 ·rintro i x σ G5 hx ⟨M,v,kq,gW5,hM,rfl⟩;have hi:=(aj.mp hx).1;rw[ae]at hi;rw[aq]at hx;cases hx':ks[i]? with
  |none=>rw[hx']at hx;cases hx
  |some key=>
  rw[hx']at hx;cases hx;have nkey:key∉ks.take i:=λz=>by
   obtain⟨j,hj,e⟩:=cz.mp z;rw[aA]at hj;rw[eZ]at e;obtain⟨h2,e2⟩:=aj.mp hx';exact bV.mp nd j i (by omega) h2 (by omega) (e.trans e2.symm)
  have lD:(cgs (ks.take i) M).length<=4800:=by
   have:=b0k hM
   rw[aA]at this;omega
  have fin2:=λl=>a5H (L:=M) (l:=l) nkey;rw[<- take_snoc hx']at fin2;generalize cgs (ks.take i) M=D0 at gW5 lD fin2;refine⟨_,rfl,?_⟩;symm;refine a0M gW5 ?_;symm;refine b1p (kp _ kq _ _ H1.at_) ?_;symm;refine⟨lenK rfl,λt1 ht1=>?_⟩;generalize ee6:put G5 t1 _=G6;obtain⟨g1,s6⟩:=newK ee6 ht1;obtain⟨x1,e1,gx1⟩:=H1.get r1 ((kp _ kq).trans s6) g1 key;symm;refine a98 (s6 _ _ (kp _ kq _ _ H1.at_)) rfl ?_;rw[e1];symm;refine b1p (s6 _ _ (kp _ kq _ _ H2.at_)) ?_;symm;refine⟨lenK rfl,λt2 ht2=>?_⟩;generalize ee7:put G6 t2 _=G7;obtain⟨g2,s7⟩:=newK ee7 ht2;obtain⟨x2,e2,gx2⟩:=H2.get r2 (((kp _ kq).trans s6).trans s7) g2 key;symm;refine a98 (s7 _ _ (s6 _ _ (kp _ kq _ _ H2.at_))) rfl ?_;rw[e2];symm;have la:=ba.ln key;have lb:=bb.ln key;have ra:=ca.rows key;have rb:=cb.rows key;have p1:=b0j ca ff fg key;have p2:=b0j cb fg fh key;refine⟨x1,x2,pr (rowsOf A' key),pr (rowsOf B' key),rfl,s7 _ _ gx1,gx2,a2l (h:=λw=>[.tup w]) ra.1.rise,p1,a2l (h:=λw=>[.tup w]) rb.1.rise,p2,by unfold pr;rw[ae];exact la,by unfold pr;rw[ae];exact lb,λu bs G8 hu s8 hb hbl gu=>?_⟩;have pk:=b4B ra.2 rb.2 hb;have uk:=b4C ra.2 rb.2 hb;have wk:∀r∈pj (pr (rowsOf A' key)) (pr (rowsOf B' key)) bs,W2 r:=λr hr=>by
   have:=a9I pk.1 hr
   rw[pk.2.1]at this
   split at this
   ·cases this
   ·exact⟨_,_,(aG.inj this).symm,ff _ _,fh _ _⟩
  have lu:(unl (pj (pr (rowsOf A' key)) (pr (rowsOf B' key)) bs)).length<=600:=ax (cF _ _) (by omega);symm;refine⟨key,u,_,rfl,gu,wk,by omega,λy hy=>?_⟩;generalize ee9:put G8 y _=G9;obtain⟨gy,s9⟩:=newK ee9 hy;have s59:Sm G5 G9:=((s6.trans s7).trans s8).trans s9;have nyW:y≠W:=λz=>by rw[z,s8 _ _ (s7 _ _ (s6 _ _ gW5))]at hy;cases hy
  generalize unl (pj (pr (rowsOf A' key)) (pr (rowsOf B' key)) bs)=U at gy uk lu;symm;refine a8Q (s59 _ _ gW5) gy (by rw[ae,ae,ae];exact b4J (by omega)) ?_;refine⟨λx=>if x=key then U else M x,_,λb o e nb=>by rw[a0q nb];exact s59 _ _ (kq _ _ e nb),?_,λk hk=>?_,rfl⟩
  ·rw[a0a,fin2 U,au]
  ·rw[take_snoc hx']at hk
   show JL f' h' k (if k=key then U else M k)
   by_cases c:k=key
   ·rw[if_pos c,c];exact⟨uk.1,uk.2,lu⟩
   ·rw[if_neg c];rcases ah.mp hk with hk |hk
    ·exact hM k hk
    ·exact absurd (ai.mp hk) c
 ·rintro σ G5 ⟨M,v,kq,gW5,hM,rfl⟩;rw[ae,bP]at gW5 hM;symm;refine fin W (cgs ks M) G5 (sG.free hW) (sG.trans (kp _ kq)) gW5 ⟨ks,λk=>if k∈ks then M k else [],a1S λk hk=>(if_pos hk).symm,b4w so,nd,λk hk=>if_neg hk,okk,λk=>?_⟩
  show Can (if k∈ks then M k else [])/\∀t,val (if k∈ks then M k else []) t=_
  by_cases c:k∈ks
  ·rw[if_pos c];exact⟨(hM k c).can,(hM k c).v⟩
  ·rw[if_neg c];refine⟨Can.nil,λt=>?_⟩;have n1:rowsOf A' k=[]:=by
    cases e:rowsOf A' k with
    |nil=>rfl
    |cons r l=>exact absurd ((mem k).mpr (.inl ((H1.al k).mpr ⟨⟨k,r⟩,pm1.mem_iff.mpr (a3G (by rw[e];exact .head _)),rfl⟩))) c
   have n2:rowsOf B' k=[]:=by
    cases e:rowsOf B' k with
    |nil=>rfl
    |cons r l=>exact absurd ((mem k).mpr (.inr ((H2.al k).mpr ⟨⟨k,r⟩,pm2.mem_iff.mpr (a3G (by rw[e];exact .head _)),rfl⟩))) c
   have a1:=(ca.rows k).2 t;have a2:=(cb.rows k).2 t;rw[n1]at a1;rw[n2]at a2;have b1:f' k t=g' k t:=by
    unfold dif at a1
    split at a1
    ·assumption
    ·cases a1
   have b2:g' k t=h' k t:=by
    unfold dif at a2
    split at a2
    ·assumption
    ·cases a2
   exact (if_pos (b1.trans b2)).symm
def b6k{A B:Prop}(h:B):if (!true)=true then A else B:=h
local macro_rules | `(tactic| walk_at "go1")=>`(tactic| with_reducible first | apply if_nf | apply b6k)
def b6l{a b c d e:Z}:cutZ [a,b,c,d,e] none (some 3)=[a,b,c]:=rfl
def a9J(a:Ad):P3:=λws G R=>Ex9 λ(p q r:Addr) (A B C:List Cg) (f g h:FZ)=>ws=[.ref p,.ref q,.ref r]/\G p=some (.lst (A.map Cg.z))/\G q=some (.lst (B.map Cg.z))/\G r=some (.lst (C.map Cg.z))/\CL f g A/\CL g h B/\CL f h C/\CB A/\CB B/\CB C/\FF f/\FF g/\FF h/\G a.tP=some lamO /\
 ∀(G':Hq),Sm G G'->R (.bl true) G'
def a9K(T:Txt K mg base a):Cal P w K mg base CX0 6 "_law_right" (lowP K (a9J a)):=by
 refine fnc 3 (N:=["one","other","whole","handed","found","back"]) T.br (T.f 23 _ rfl) ?_ (len:=λws G R h=>(by obtain⟨_,_,_,_,_,_,_,_,_,rfl,_⟩:=h;rfl));walk_at "in";refine⟨_,(a0c (by ac_rfl)
  (a0c (by ac_rfl)
  (a0c (z_if (a18 (a3l (q_c (a12 T) hr (q_k (qv 4) (q_k (qv 2) a2w)) )))
  (by ac_rfl)
  a2G)
  (a0c (by ac_rfl)
  (a0c (z_if (QW.qt (q_or (a18 (a3l (q_c (a12 T) hr (by ac_rfl) ))) (a6Y (a6W (b39 hu) (qv 3) (by ac_rfl) (a4Y _)))))
  (by ac_rfl)
  a2G)
  (a0c (z_if (QW.qt (q_or (a18 (a3l (q_c (a12 T) hr (by ac_rfl) ))) (a6Y (a18 (a3l (q_c (a12 T) hr (by ac_rfl) ))))))
  (by ac_rfl)
  a2G)
  (a0c (by ac_rfl)
  (a0c (z_if (QW.qt (q_or (a18 (a3l (q_c (a12 T) hr (q_k (qv 5) (q_k (q_l ["row"] [none] (.nm 0)) a2w)) ))) (a6Y (a6W (b39 hu) (qv 3) (by ac_rfl) (a4Y _)))))
  (by ac_rfl)
  a2G)
  (a0c (by ac_rfl)
  (a0c (by ac_rfl)
  (a1t (a4o (a9Q (by ac_rfl) (b2Y (b2U (b57 hu) (qv 3) (by ac_rfl) (a4Y _)))))))))))))))),?_⟩
 obtain⟨p,q,r,A',B',C',f',g',h',rfl,gp,gq,gr,ca,cb,cc,ba,bb,bc,ff,fg,fh,gT,fin⟩:=h;have oa:=ca.okC ff fg;have ob:=cb.okC fg fh;have oc:=cc.okC ff fh;symm;refine a7e gp λh0 hh0=>?_;generalize ee1:put G h0 _=G1;obtain⟨g0,s1⟩:=newK ee1 hh0;symm;refine a7e (s1 _ _ gq) λh1 hh1=>?_;generalize ee2:put G1 h1 _=G2;obtain⟨g1,s2⟩:=newK ee2 hh1;symm;refine⟨lenK rfl,λhd hhd=>?_⟩;generalize ee3:put G2 hd _=G3;obtain⟨gd,s3⟩:=newK ee3 hhd;have s03:=(s1.trans s2).trans s3
 replace g0:=s3 _ _ (s2 _ _ g0)
 replace g1:=s3 _ _ g1
 replace gp:=s03 _ _ gp
 replace gq:=s03 _ _ gq
 replace gr:=s03 _ _ gr
 replace gT:=s03 _ _ gT
 have fin:∀G',Sm G3 G'->R (.bl true) G':=λG' s=>fin G' (s03.trans s);clear s03 s1 s2 s3 ee1 ee2 ee3 hh0 hh1 hhd;have eqs:∀(ng:Bool->Bool)(G':Hq)(R':K3)(a3:Addr),Sm G3 G'->G' a3=some (.lst [.ref p,.ref q])->R' (.bl (ng true)) G'->zEqL ng (.ref hd) (.ref a3) G' R':=λng G' R' a3 s g h=>by
  refine b4a (xss:=[A'.map Cg.z,B'.map Cg.z]) (yss:=[A'.map Cg.z,B'.map Cg.z]) (s _ _ gd) g (.cons (s _ _ g0) oa.fl8 (.cons (s _ _ g1) ob.fl8 .nil)) (.cons (s _ _ gp) oa.fl8 (.cons (s _ _ gq) ob.fl8 .nil)) ?_;rw[decide_eq_true rfl];exact h
 symm;refine a0t gd at0 ?_;symm;refine a0t gd at1 ?_;symm;refine⟨h0,h1,A',B',f',g',h',rfl,g0,g1,ca,cb,ba,bb,ff,fg,fh,gT,λfd C1 G4 hfd s4 gfd c1=>?_⟩;have e1:=c1.uniq cc;subst e1;symm;refine⟨_,_,rfl,.inr ⟨fd,r,_,_,rfl,rfl,by decide,gfd,s4 _ _ gr,oc.fl1,oc.fl1,?_⟩⟩;rw[decide_eq_true rfl];symm;refine a0M gfd ?_;symm;refine⟨lenK rfl,?_⟩;symm;refine a0y gfd (by rw[ae];exact a0f (by have:=bc.all;omega)) ?_;have s5:Sm G3 (put G4 fd (.lst (C1.map Cg.z++[.tup [.str (Str.ofString "x"),.int 1,.int 2,.non,.str (Str.ofString "y")]]))):=s4.put hfd;generalize put G4 fd (.lst (C1.map Cg.z++[.tup [.str (Str.ofString "x"),.int 1,.int 2,.non,.str (Str.ofString "y")]]))=G5 at s5 ⊢;symm;refine a0t (s5 _ _ gd) at0 ?_;symm;refine a0t (s5 _ _ gd) at1 ?_;symm;refine⟨h0,h1,A',B',f',g',h',rfl,s5 _ _ g0,s5 _ _ g1,ca,cb,ba,bb,ff,fg,fh,s5 _ _ gT,λfd2 C2 G6 hfd2 s6 gfd2 c2=>?_⟩;have e2:=c2.uniq cc;subst e2;have s36:=s5.trans s6;symm;refine⟨_,_,rfl,.inr ⟨fd2,r,_,_,rfl,rfl,by decide,gfd2,s36 _ _ gr,oc.fl1,oc.fl1,?_⟩⟩;rw[decide_eq_true rfl];symm;refine⟨lenK rfl,λa3 ha3=>?_⟩;generalize ee7:put G6 a3 _=G7;obtain⟨g3,s7⟩:=newK ee7 ha3;have s37:=s36.trans s7;symm;refine eqs not _ _ _ s37 g3 ?_;symm;refine a0t (s37 _ _ gd) at0 ?_;symm;refine⟨lenK rfl,λa4 ha4=>?_⟩;generalize ee8:put G7 a4 _=G8;obtain⟨g4,s8⟩:=newK ee8 ha4;have s38:=s37.trans s8;symm;refine⟨h0,a4,A',[],f',g',g',rfl,s38 _ _ g0,g4,ca,CL.nil _,ba,CB.nil,ff,fg,fg,s38 _ _ gT,λfd3 C3 G9 hfd3 s9 gfd3 c3=>?_⟩;have e3:=c3.uniq ca;subst e3;have s39:=s38.trans s9;symm;refine⟨_,_,rfl,.inr ⟨fd3,p,_,_,rfl,rfl,by decide,gfd3,s39 _ _ gp,oa.fl1,oa.fl1,?_⟩⟩;rw[decide_eq_true rfl];symm;refine⟨lenK rfl,λa5 ha5=>?_⟩;generalize ee10:put G9 a5 _=G10;obtain⟨g5,s10⟩:=newK ee10 ha5;have s310:=s39.trans s10;symm;refine a0t (s310 _ _ gd) at0 ?_;symm;refine⟨a5,h0,[],C3,f',f',g',rfl,g5,s310 _ _ g0,CL.nil _,ca,CB.nil,ba,ff,ff,fg,s310 _ _ gT,λfd4 C4 G11 hfd4 s11 gfd4 c4=>?_⟩;have e4:=c4.uniq ca;subst e4;have s311:=s310.trans s11;symm;refine⟨_,_,rfl,.inr ⟨fd4,p,_,_,rfl,rfl,by decide,gfd4,s311 _ _ gp,oa.fl1,oa.fl1,?_⟩⟩;rw[decide_eq_true rfl];symm;refine a0t (s311 _ _ gd) at0 ?_;symm;have la:=ba.all;refine⟨h0,C4,rfl,s311 _ _ g0,λc hc=>(oa c hc).1,by omega,λbk hbk=>?_⟩;generalize ee12:put G11 bk _=G12;obtain⟨gbk,s12⟩:=newK ee12 hbk;have s312:=s311.trans s12;have ct:=ca.turn;have ot:=ct.okC fg ff;symm;refine a1g (s312 _ _ gp) ?_;intro D hD;refine a11 (g':=Cg.z) (λc=>some ⟨c.k,⟨c.r.b,c.r.e,rev2 c.r.w⟩⟩) (λys=>a0b (s312 _ _ gp) hD) (by omega) ?_ ?_
 ·intro c hc ys K1 K2 k1 k2;obtain⟨x,y,e,_,_⟩:=(oa c hc).1;obtain⟨k,b,en,w⟩:=c;cases e;refine⟨_,rfl,?_⟩;rw[show Cg.z ⟨k,⟨b,en,[x,y]⟩⟩=.tup [.str k,.int b,oz en,x,y] from rfl];symm;refine a8O (show ¬ (HT.sIx 5 0 none=0/\HT.sIx 5 5 (some 3)=5) by decide) ?_;rw[b6l];symm;refine⟨lenK rfl,?_⟩;symm;refine a2b (by simp) (a0C (by simp)) ?_;symm;exact k1 _ rfl
 rw[show (C4.filterMap λc=>some (⟨c.k,⟨c.r.b,c.r.e,rev2 c.r.w⟩⟩:Cg))=turn C4 from by unfold turn;rw[<- dc];rfl];generalize ee13:put G12 D _=G13;obtain⟨gD,s13⟩:=newK ee13 hD;have s313:=s312.trans s13
 replace gbk:=s13 _ _ gbk
 symm;refine⟨_,_,rfl,.inr ⟨bk,D,_,_,rfl,rfl,by decide,gbk,gD,ot.fl1,ot.fl1,?_⟩⟩;rw[decide_eq_true rfl];symm;refine⟨lenK rfl,λa6 ha6=>?_⟩;generalize ee14:put G13 a6 _=G14;obtain⟨g6,s14⟩:=newK ee14 ha6;have s314:=s313.trans s14
 replace gbk:=s14 _ _ gbk
 symm;refine eqs not _ _ _ s314 g6 ?_;symm;refine a0t (s314 _ _ gd) at0 ?_;symm;refine⟨h0,bk,C4,turn C4,f',g',f',rfl,s314 _ _ g0,gbk,ca,ct,ba,ba.turn,ff,fg,ff,s314 _ _ gT,λfd5 C5 G15 hfd5 s15 gfd5 c5=>?_⟩;have e5:=c5.uniq (CL.nil _);subst e5;have s315:=s314.trans s15
 replace gbk:=s15 _ _ gbk
 symm;refine⟨lenK rfl,λa7 ha7=>?_⟩;generalize ee16:put G15 a7 _=G16;obtain⟨g7,s16⟩:=newK ee16 ha7;have s316:=s315.trans s16
 replace gbk:=s16 _ _ gbk
 symm;refine a5R (s16 _ _ gfd5) g7 rfl rfl ?_;rw[decide_eq_true (show ([]:List Cg).map Cg.z=[] from rfl)];symm;have tt:∀{f g:FZ}{X:List Cg},CL f g X->turn (turn X)=X:=λh=>h.turn.turn.uniq h;refine⟨bk,turn C4,rfl,gbk,λc hc=>(ot c hc).1,by unfold turn;rw[ae];omega,λb2 hb2=>?_⟩;rw[tt ca];generalize ee17:put G16 b2 _=G17;obtain⟨gb2,s17⟩:=newK ee17 hb2;have s317:=s316.trans s17
 replace gbk:=s17 _ _ gbk
 symm;refine a5R gb2 (s317 _ _ gp) oa.fl8 oa.fl8 ?_;rw[decide_eq_true rfl];symm;refine a0M gbk ?_;symm;refine⟨lenK rfl,?_⟩;symm;refine a0y gbk (by rw[ae];unfold turn;rw[ae];exact a0f (by omega)) ?_;have s318:Sm G3 (put G17 bk (.lst ((turn C4).map Cg.z++[.tup [.str (Str.ofString "x"),.int 1,.int 2,.non,.str (Str.ofString "y")]]))):=s317.put (s311.free hbk);generalize put G17 bk (.lst ((turn C4).map Cg.z++[.tup [.str (Str.ofString "x"),.int 1,.int 2,.non,.str (Str.ofString "y")]]))=G18 at s318 ⊢;have lb:=bb.all;symm;refine a0t (s318 _ _ gd) at1 ?_;symm;refine⟨h1,B',rfl,s318 _ _ g1,λc hc=>(ob c hc).1,by omega,λb3 hb3=>?_⟩;generalize ee19:put G18 b3 _=G19;obtain⟨gb3,s19⟩:=newK ee19 hb3;have s319:=s318.trans s19;symm;refine⟨b3,turn B',rfl,gb3,λc hc=>(cb.turn.okC fh fg c hc).1,by unfold turn;rw[ae];omega,λb4 hb4=>?_⟩;rw[tt cb];generalize ee20:put G19 b4 _=G20;obtain⟨gb4,s20⟩:=newK ee20 hb4;have s320:=s319.trans s20;symm;refine a5R gb4 (s320 _ _ gq) ob.fl8 ob.fl8 ?_;rw[decide_eq_true rfl];symm
 show if true=true then _ else _
 refine ifT ?_;symm;refine⟨lenK rfl,λa8 ha8=>?_⟩;generalize ee21:put G20 a8 _=G21;obtain⟨g8,s21⟩:=newK ee21 ha8;have s321:=s320.trans s21;symm;refine eqs id _ _ _ s321 g8 ?_;exact fin _ s321
structure RI (G2 G':Hq) (RS:List Addr):Prop where
 kp:∀b o,b∉RS->G2 b=some o->G' b=some o
 row:∀r∈RS,RowAt G' r
def RI.draw{G2 G' G'':Hq}{RS:List Addr}{r:Addr}(h:RI G2 G' RS)(hr:r∈RS)(k:Kq r G' G'')(R:RowAt G'' r):RI G2 G'' RS:=⟨λb o n e=>k _ _ (h.kp b o n e) λz=>n (z▸hr),λx hx=>by
 by_cases c:x=r
 ·rw[c];exact R
 ·exact (h.row x hx).kq k c⟩
def RI.up{G2 G' G'':Hq}{RS:List Addr}(h:RI G2 G' RS)(s:Sm G' G''):RI G2 G'' RS:=⟨λb o n e=>s _ _ (h.kp b o n e),λx hx=>let ⟨a,b,e,o⟩:=h.row x hx;⟨a,b,s _ _ e,o⟩⟩
noncomputable def RI.put{G2 G':Hq}{RS:List Addr}{D:Addr}{o:O}(h:RI G2 G' RS)(n:G2 D=none)(nD:D∉RS):RI G2 (put G' D o) RS:=⟨λb u nb e=>by rw[a0q (a0i e n)];exact h.kp b u nb e,λx hx=>(h.row x hx).kq Kq.at λz=>nD (z▸hx)⟩
def b4K(T:Txt K mg base a){f:Addr}{d:fK}(J:Fun K "law" "law" (top 28) f d):FnOk P w K mg base CX0 7 f d ["script"] (lowP K (a39 a.tP)):=by
 refine fnd (n:=1) (N:=["script","tellings","rows","many","row","knowings","one","other"]) J ?_ ⟨rfl,rfl,rfl,by decide +kernel,rfl,by decide +kernel,by decide +kernel⟩ λws G R h=>by obtain⟨_,_,rfl,_⟩:=h;rfl
 walk_at "in";refine⟨_,(a0c (by ac_rfl)
  (a0c (by ac_rfl)
  (a0c (a2f (pt:=(.nm 4)) fH.never rfl (by ac_rfl) (p_nm (nmI 4 nd))
  (a0c (z_l (nmI 5 nd) ["k","row","many"] [none,some 4,some 3] (.nm 0))
  (by ac_rfl)))
  (by ac_rfl)))),?_⟩
 obtain⟨a',ns,rfl,hl,gT,q⟩:=h;symm;refine⟨a',ns,rfl,hl,λt u T' rs nms G1 s1 gt gu okT lT ln kT hr=>?_⟩;refine⟨_,rfl,?_⟩;have nT:a.tP∉rs:=λz=>by have:=(hr _ z).2.2.2;rw[gT]at this;cases this
 replace gT:=s1 _ _ gT
 symm;refine a3T gt ?_;rw[ae];symm;refine⟨lenK rfl,λr6 hr6=>?_⟩;generalize ee2:put G1 r6 _=G2;obtain⟨g6,s2⟩:=newK ee2 hr6;symm;refine⟨lenK rfl,λo6 ho6=>?_⟩;generalize ee3:put G2 o6 _=G3;obtain⟨go6,s3⟩:=newK ee3 ho6;symm;refine b08 (s3 _ _ (s2 _ _ gu)) λc hc=>?_;generalize ee4:put G3 c _=G4;obtain⟨gc,s4⟩:=newK ee4 hc;rw[show cutZ (rs.map Z.ref) none (some 3)=(rs.map Z.ref).take 3 from a8c (j:=3),<- dt]at gc;symm;refine a2Y (s4 _ _ go6) gc (a0C (by rw[ae,aA,d4];omega)) λli hli=>?_;generalize ee5:put G4 li _=G5;obtain⟨gli,s5⟩:=newK ee5 hli;have s15:=((s2.trans s3).trans s4).trans s5;have n6:r6∉rs:=λz=>by obtain⟨_,_,e,_⟩:=(hr _ z).1;rw[e]at hr6;cases hr6
 have e0:[Z.ref r6]++(rs.take 3).map Z.ref=(r6::rs.take 3).map Z.ref:=rfl;rw[e0]at gli;have sub:∀r∈r6::rs.take 3,r∈r6::rs:=λr h=>by
  rcases ag.mp h with rfl |h
  ·exact .head _
  ·exact .tail _ (aY h)
 have I0:RI G5 G5 (r6::rs):=⟨λ_ _ _ e=>e,λr h=>by
  rcases ag.mp h with rfl |h
  ·exact⟨6,1,s5 _ _ (s4 _ _ (s3 _ _ g6)),.inr ⟨rfl,by decide,by decide⟩⟩
  ·obtain⟨x,w,e,o⟩:=(hr r h).1;exact⟨x,w,s15 _ _ e,o⟩⟩
 have nt:t∉r6::rs:=λz=>by
  rcases ag.mp z with z |z
  ·rw[<- z,gt]at hr6;cases hr6
  ·exact (hr t z).2.1 rfl
 have nTT:a.tP∉r6::rs:=λz=>by
  rcases ag.mp z with z |z
  ·rw[<- z,gT]at hr6;cases hr6
  ·exact nT z
 have nli:li∉r6::rs:=λz=>by
  rcases ag.mp z with z |z
  ·rw[z,s4 _ _ (s3 _ _ g6)]at hli;cases hli
  ·obtain⟨_,_,e,_⟩:=(hr _ z).1;rw[s4 _ _ (s3 _ _ (s2 _ _ e))]at hli;cases hli
 have gt5:=s15 _ _ gt;have gT5:=s15 _ _ gT;clear s15 s2 s3 s4 s5 ee2 ee3 ee4 ee5 hc gc go6 ho6 g6 hli;generalize r6::rs=RS at I0 nt nTT nli sub;generalize r6::rs.take 3=lr at gli sub;symm;refine a1g gli ?_;refine a0R (λi σ G'=>Ex4 λ(v1 v2 v3 v4:Option Z)=>RI G5 G' RS/\σ=[some (.scr a' ns),some (.ref t),some (.ref u),some (.int T'.length),v1,v2,v3,v4]) ⟨_,_,_,_,I0,rfl⟩ (by rintro i σ G' _ ⟨_,_,_,_,I,_⟩;exact I.kp _ _ nli gli) ?_ ?_
 ·rintro i x σ G6 hx ⟨v1,v2,v3,v4,I,rfl⟩;rw[aq]at hx;cases hx':lr[i]? with
  |none=>rw[hx']at hx;cases hx
  |some r=>
  rw[hx']at hx;cases hx;have mr:=sub r (aD hx');refine⟨_,rfl,?_⟩;symm;refine⟨by decide,by decide,?_⟩;intro D hD;have nDR:D∉RS:=λz=>by obtain⟨_,_,e,_⟩:=I.row D z;rw[e]at hD;cases hD
  have nD5:G5 D=none:=by
   cases e:G5 D with
   |none=>rfl
   |some o=>rw[I.kp D o nDR e]at hD;cases hD
  refine b0Y (λj ys G'=>∃ms:List Int,ys=ms.map Z.int/\ms.length=j/\(∀m∈ms,0<=m)/\G' D=some (.lst ys)/\RI G5 G' RS) ⟨[],rfl,rfl,λm h=>(nomatch h),a0a,I.put nD5 nDR⟩ (λ_ _ _ _ _=>True.intro) ?_ ?_
  ·rintro j x ys G7 hx ⟨ms,rfl,hj,h0,gD,I⟩;obtain⟨hi,rfl⟩:=a2x hx;refine⟨_,rfl,?_⟩;symm;refine a09 (I.row r mr) (by omega) (by omega) λf y w f0 f1 ok1=>?_;have nrD:D≠r:=λz=>nDR (z▸mr);refine⟨by rw[a0q nrD];exact gD,by rw[ae];exact a0f (by have:(3:Int).toNat=3:=rfl;omega),ms++[f],by simp,by simp;omega,λm h=>?_,a0a,(I.draw mr Kq.at (RowAt.at ok1)).put nD5 nDR⟩;rcases ah.mp h with h |h
   ·exact h0 m h
   ·rw[ai.mp h];exact f0
  ·rintro ys G7 ⟨ms,rfl,hj,h0,gD,I⟩;rw[a1m]at hj
   match ms,hj with
   |[k0,k1,k2],_=>
   have z0:=h0 k0 (.head _);have z1:=h0 k1 (.tail _ (.head _));have z2:=h0 k2 (.tail _ (.tail _ (.head _)));clear hj h0;refine⟨_,rfl,?_⟩;symm;refine a0t gD at0 ?_;symm;refine a0t gD at1 ?_;symm;refine⟨t,T',nms,k0,k1,rfl,I.kp _ _ nt gt5,okT,lT,ln,kT,z0,z1,λp1 A1 G8 hp1 s8 gp1 c1 b1=>?_⟩
   replace I:=I.up s8
   replace gD:=s8 _ _ gD
   symm;refine a0t gD at1 ?_;symm;refine a0t gD at2 ?_;symm;refine⟨t,T',nms,k1,k2,rfl,I.kp _ _ nt gt5,okT,lT,ln,kT,z1,z2,λp2 A2 G9 hp2 s9 gp2 c2 b2=>?_⟩
   replace I:=I.up s9
   replace gD:=s9 _ _ gD
   symm;refine a0t gD at0 ?_;symm;refine a0t gD at2 ?_;symm;refine⟨t,T',nms,k0,k2,rfl,I.kp _ _ nt gt5,okT,lT,ln,kT,z0,z2,λp3 A3 G10 hp3 s10 gp3 c3 b3=>?_⟩
   replace I:=I.up s10
   symm;refine⟨p1,p2,p3,A1,A2,A3,_,_,_,rfl,s10 _ _ (s9 _ _ gp1),s10 _ _ gp2,gp3,c1,c2,c3,b1,b2,b3,a8d okT,a8d okT,a8d okT,I.kp _ _ nTT gT5,λG11 s11=>?_⟩;symm;exact⟨_,_,_,_,I.up s11,rfl⟩
 ·rintro σ G6 ⟨v1,v2,v3,v4,I,rfl⟩;have gT6:=I.kp _ _ nTT gT5;clear I;symm;refine⟨lenK rfl,λe1 he1=>?_⟩;generalize ee7:put G6 e1 _=G7;obtain⟨ge1,s7⟩:=newK ee7 he1;symm;refine⟨e1,[],rfl,ge1,λc h=>(nomatch h),by simp,λe2 he2=>?_⟩;generalize ee8:put G7 e2 _=G8;obtain⟨ge2,s8⟩:=newK ee8 he2;symm;refine⟨lenK rfl,λe3 he3=>?_⟩;generalize ee9:put G8 e3 _=G9;obtain⟨ge3,s9⟩:=newK ee9 he3;symm;refine a5R (s9 _ _ ge2) ge3 rfl rfl ?_;rw[decide_eq_true (show (turn []).map Cg.z=[] from rfl)];symm
  show if true=true then _ else _
  refine ifT ?_;symm;refine⟨lenK rfl,λe4 he4=>?_⟩;generalize ee10:put G9 e4 _=G10;obtain⟨ge4,s10⟩:=newK ee10 he4;symm;refine⟨lenK rfl,λe5 he5=>?_⟩;generalize ee11:put G10 e5 _=G11;obtain⟨ge5,s11⟩:=newK ee11 he5;have f0:FF λ_ _=>.non:=λ_ _=>rfl;symm;refine⟨e4,e5,[],[],λ_ _=>.non,λ_ _=>.non,λ_ _=>.non,rfl,s11 _ _ ge4,ge5,CL.nil _,CL.nil _,CB.nil,CB.nil,f0,f0,f0,s11 _ _ (s10 _ _ (s9 _ _ (s8 _ _ (s7 _ _ gT6)))),λe6 C G12 h12 s12 g12 cC=>?_⟩
  have:=cC.uniq (CL.nil _)
  subst this;symm;refine⟨lenK rfl,λe7 he7=>?_⟩;generalize ee13:put G12 e7 _=G13;obtain⟨ge7,s13⟩:=newK ee13 he7;symm;refine a5R (s13 _ _ g12) ge7 rfl rfl ?_;exact q _
def all_mk{l:PySem.W.OpenLaw}{w:World}{K:Fg}{h:Heap}{mg:Str->Option Value}{fa:Addr}(X:K.In h)(G:h.Ns fF mg)(hfa:mg "law"=some (.ref fa))
  {aa tP:Addr}
  (lf:PySem.W.nsIn K fF "pairs_by_key"=some (some (.ref aa)))
  (ll:a7X K aa tP=true)
  (gP:fF≠tP)
  (F:AllF K top tF)
  (B:AllB K tB) :
  ∃(fd:fK)(c0:Addr),PySem.W.codeHdIn K c0 tP=true/\(∀(s:Shared)(v:Value),gZ s fd ⟨[v],[]⟩ [("script",v)])/\∀base:Heap,K.In base->base.Ns fF mg->base.BuiltinsAt mg tP->FnOk l.prog w K mg base CX0 7 fa fd ["script"] (lowP K (a39 tP)):=by
 have br:=b6b X G;obtain⟨f,d,e,J⟩:=F 24 _ rfl;have e:=hfa.symm.trans (br _ _ e);cases e
 let a:Ad:=⟨tP⟩
 have hb:=λP base (bi:base.BuiltinsAt mg tP)=>b4K (P:=P) (w:=w) (base:=base) (a:=a) ⟨br,F,B,gP,bi,⟨aa,lf,ll⟩⟩ J;obtain⟨fl,dl,el,Jl⟩:=F 6 _ rfl;cases (show some (some (Value.ref fl))=some (some (Value.ref aa)) from el.symm.trans lf);obtain⟨c0,_,hc0⟩:=a5t Jl ll;obtain⟨oc,od,kV,doc,pm,an,cdv,ct,osl,rfl,lk,hcd⟩:=J.ex;exact⟨_,c0,hc0,λs v=>.of_eq rfl,λbase _ _ bi=>hb l.prog base bi⟩
def walk{l:PySem.W.OpenLaw}{q:fq}{loose:List Str}{XP:(Str->Option Value)->Heap->Prop}{YP:World->Heap->Prop}{d:DefRec}{K:Params->Fg}{P0:Addr}(hn:l.most=some 63)(hdf:d.params.defaults=[])
  (hY:∀(w:World)(h:Heap),YP w h->(K w.params).In h/\h.get? P0=some (PySem.W.tabObj #[])) (hK0:∀w:World,(K w.params).lookup P0=none)
  (F:∀(w:World)(mg:Str->Option Value)(fa:Addr)(h:Heap),(K w.params).In h->h.Ns fF mg->mg d.name=some (.ref fa) ->
   ∃(fd:fK)(c0:Addr),PySem.W.codeHdIn (K w.params) c0 P0=true/\(∀(s:Shared)(u:Value),gZ s fd ⟨[u],[]⟩ [("script",u)])/\∀base:Heap,(K w.params).In base->base.Ns fF mg->base.BuiltinsAt mg P0->FnOk l.prog w (K w.params) mg base CX0 7 fa fd ["script"] (lowP (K w.params) (a39 P0))) :
  PySem.W.WalkO q loose XP YP l.row.toRowW d [] (λf vs=>PySem.call f vs):=
 L2.walk_ofT (n:=63) (k:=7) (x:="script") (CX:=λ_=>CX0) (sp:=λw=>lowP (K w.params) (a39 P0)) hn (by decide) hdf ⟨rfl,by decide,by decide⟩ hY hK0 F (λ_ _ a ns hl hO hS=>a57 a ns (Fz.ofT hO hS) hO.1 (a9q hl)) λ_ _ _ _ _ z=>z
end Lw
end
open PySem PySem.W PyProof.Rows
set_option maxRecDepth 100000 in
set_option maxHeartbeats 0 in
theorem PySem.Challenge.cw_twotimes_k63_turned_and_joined_holds : PySem.Challenge.rw_twotimes_k63_turned_and_joined.Holds := by
 w_on;o_law;k_head;(case hw=>w_witness2)
 k_fill
 refine Lw.walk (l:=PySem.Challenge.rw_twotimes_k63_turned_and_joined) rfl rfl (fun w h Y=>⟨PySem.W.km_in_of Y,PySem.W.km_tabs_of Y _ (.head _)⟩) (fun w=>by kernel_rfl) ?F
 case F=>
  intro w mg fa h KX G hmg;refine' Lw.all_mk KX G hmg ?aa ?ab ?ac ?F ?ad
  all_goals try k_is
  (case ab=>kernel_rfl)
  (case ac=>decide)
  all_goals (repeat first |exact L3.af0 |exact L3.am0 |exact L3.ab0 |exact L3.an0 | (first |refine' L3.af1 ?_ ?_ ?_ ?_ ?_ |refine' L3.am1 ?_ ?_ ?_ ?_ ?_ ?_ |refine' L3.ab1 ?_ ?_ |refine' L3.an1 ?_ ?_)<;>try k_is)
