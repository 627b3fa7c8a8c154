import PyProof.Rows.All
import Wide.All
import OpenK.AllK
import Wide.FinOn
import Lean
import PyProof.EqAt
import PyProof.EqKinds
import PyProof.TupleCall
import PyProof.NeKinds
import PyProof.FitsReplace
import PyProof.Rows.SumAny
import PyProof.Rows.MinMaxN
import PyProof.Rows.CallKwBuiltin
import PyProof.StrBlock2
import KE.KMinKey
import OpenK.KOwn
import PyProof.ExcArgsOwn
import KE.KIsAll
import PyProof.ReprRoads
import PyProof.ReprBulk
import PyProof.StrWalks
import PyProof.ConsumeWalk
import PyProof.StrCalls2
import PyProof.EnumMake
import PyProof.Draws
import PyProof.Rows.EnumRows
import PyProof.Rows.FactsT2
import PyProof.CompUse
import KE.KRevIter
import PyProof.ListStr
import KE.KIntText
import PyProof.StrLawsIdx
import PyProof.StrLawsNeg
import PyProof.StrLawsTight
import PyProof.StrLawsChain
import PyProof.Rows.StrItems
import PyProof.Rows.StrFirst
import PyProof.Rows.StrLawsPart
import PyProof.Rows.Range3
import PyProof.Rows.StrWeight2
import PyProof.AutoListH
import PyProof.DictWalks
import PyProof.WalksEnum
import PyProof.DictItems
import KE.KPairComp
import PyProof.TupleOfGen
import PyProof.FactsAll.range_2
import PyProof.ZipIter
import PyProof.MeetsSeq
import PyProof.Rows.StrInSeq3
import PyProof.FactsAll.list_3
import KE.KTryOn
import OpenK.KRaise
import PyProof.Rows.SetFrom
import PyProof.SetRoads
import PyProof.AttrMissHeap
import KE.KDictOf
import KE.KUnpack
import PyProof.ExcArgs
import PyProof.ExcInit
import PyProof.DictTruth
import PySem.Challenge.RW_leafsay_k42_an_order
set_option compiler.extract_closed false
set_option bootstrap.genMatcherCode false
set_option genSizeOf false
set_option genInjectivity false
/-! Names that stand for nothing: where a name is taken, the head goes on without the twin of that name, and the compiled text stays small. -/
namespace PySem.W.Fast
def tw6325588557690882111:=0
def tw15792840197685214775:=0
def tw6946039499445588083:=0
def tw14329020911446101746:=0
def tw14741053178473107426:=0
def tw1416292221406349616:=0
def tw16634894236173606941:=0
def tw5759866829992392146:=0
def tw14917003435482353262:=0
def tw6948819312195408573:=0
def tw17250080707670192940:=0
def tw13404017092353515076:=0
def tw17000919981483877949:=0
def tw414843856516734349:=0
def tw11282034125580384065:=0
def tw15869908673912112105:=0
def tw12615383910711724229:=0
def tw1737261144692297969:=0
def tw13503004865020042038:=0
def tw4052332998470521456:=0
def tw17796469269710789275:=0
def tw2663424656810633607:=0
def tw5313448125849230716:=0
def tw15951541916439567940:=0
def tw10033943823008439921:=0
def tw13889646854401411858:=0
def tw13116256943050222178:=0
def tw17007118204694545331:=0
def tw4497804769050321868:=0
def tw7919777940361142186:=0
def tw17966505573127843613:=0
def tw957865133303759343:=0
def tw3403576352009302507:=0
def tw13001490652090979370:=0
def tw16833790448624241797:=0
def tw42184292907656302:=0
def tw11679525348971148898:=0
def tw6842803725565448727:=0
def tw15462402146226767807:=0
def tw17662464831965056730:=0
def tw4237664960687515891:=0
def tw15178540498732474344:=0
def tw16855052225926775407:=0
def tw4902954266242105860:=0
def tw4561590713725970462:=0
def tw16064048940871369246:=0
def tw13081390326773596752:=0
def tw224503445349013293:=0
def tw1537434974916811810:=0
def tw7138508212724870786:=0
def tw9710321772877736669:=0
def tw2647002883593522162:=0
def tw15383373155394760531:=0
def tw15868050393308837678:=0
def tw9417870408759925404:=0
def tw6622013960315159504:=0
def tw1803763279756852483:=0
def tw15094449848617833135:=0
def tw3506632876697834855:=0
def tw1632199511966767431:=0
def tw10003462535407254745:=0
def tw12904749240308885646:=0
def tw14136815246705537144:=0
def tw13269079468051004105:=0
def tw16230908325182243446:=0
def tw15450643235244172612:=0
def tw9665860419790501405:=0
def tw15470162993724330943:=0
def tw9867133423535146752:=0
def tw88866490573904882:=0
def tw4096273940556376741:=0
def tw6903468126018540412:=0
def tw16306889081438021230:=0
def tw13531580604506092709:=0
def tw13683152828133394250:=0
def tw12997925674186574630:=0
def tw6281114461139080610:=0
def tw4243577544739911237:=0
def tw15671158686685535999:=0
def tw6268507919501157991:=0
def tw18158064694026488859:=0
def tw92630044914980778:=0
def tw2722665435533809843:=0
def tw7566426099600257954:=0
def tw6936453682429130153:=0
def tw9353552288356918360:=0
def tw12666871415717804854:=0
def tw12877959506998230144:=0
def tw6114713335725594929:=0
def tw5366868099726401078:=0
def tw12848647105432185978:=0
def tw16670341976710591211:=0
def tw18027329733767128131:=0
def tw4825188445360186288:=0
def tw9717564899436159115:=0
def tw12908245435304211900:=0
def tw2757269052066069913:=0
def tw9524622548638823541:=0
def tw4387691375887694908:=0
def tw5095615612491451835:=0
def tw14789969232437962683:=0
def tw12878202394342617750:=0
def tw12096146813895338488:=0
def tw18117021600029281595:=0
def tw10544154148814164290:=0
def tw15048236999015427579:=0
def tw10690052037067833312:=0
def tw1145924416670737243:=0
def tw13337950612882302869:=0
def tw17548878868305124408:=0
def tw7627532359707882837:=0
def tw7198608407113341622:=0
def tw6146874141490965757:=0
def tw64037989952118359:=0
def tw4793731530289794130:=0
def tw8344115192421686963:=0
def tw540970255959653584:=0
def tw16594592515427329841:=0
def tw11404896794232317194:=0
def tw10477484111422066800:=0
def tw8035449305072409530:=0
def tw6964315597416508489:=0
def tw7803050612515128403:=0
def tw12342909809845645800:=0
def tw18063389834985382667:=0
def tw10734518702882013707:=0
def tw16138536048827756367:=0
def tw13155844339185058796:=0
def tw7033804195143079849:=0
def tw342234568165071626:=0
def tw15766168493633375524:=0
def tw7170927337163361924:=0
def tw1867883899322334171:=0
def tw8877498612403196961:=0
def tw5552156799593497952:=0
def tw4117718476621455303:=0
def tw4155612702238799164:=0
def tw1244370399481206717:=0
def tw16383721548010534018:=0
def tw13641339836844966570:=0
def tw11700696221806383309:=0
def tw12308730822470365831:=0
def tw814184537259659381:=0
def tw3043789824612014920:=0
def tw12841470322234753629:=0
def tw9528133783446848355:=0
def tw7882404290975537852:=0
def tw11745813071992602275:=0
def tw3982911078411709692:=0
def tw17517085075638378828:=0
def tw10383774694086275714:=0
def tw3657268162481559882:=0
def tw4582817802112432424:=0
def tw4416890159664744380:=0
def tw12735846674645985954:=0
def tw12492622713800891427:=0
def tw9605706125524872065:=0
def tw14737001488334456782:=0
def tw3703190044232519486:=0
def tw9969811638399825059:=0
def tw15964661104068578130:=0
def tw14548658484590148857:=0
def tw11102139190043938994:=0
def tw1225539574714923116:=0
def tw12762254677214122662:=0
def tw4558002539284687234:=0
def tw943444854691377474:=0
def tw9412431849851162124:=0
def tw15542255231028253031:=0
def tw9978183560792322802:=0
def tw3075571276245313458:=0
def tw9376438259501643007:=0
def tw6586132937302860052:=0
def tw7063227558866507217:=0
def tw9565029339569159468:=0
def tw788241715657828854:=0
def tw10302340296026269100:=0
def tw8083031058837418514:=0
def tw4485247277193505331:=0
def tw11296831716078816824:=0
def tw9197339309306860066:=0
def tw1673639859236427309:=0
def tw4120825664055944636:=0
def tw8338062852764076725:=0
def tw11344196927866949555:=0
def tw4279252480577309629:=0
def tw4430679348028521825:=0
def tw14761116653612147392:=0
def tw15724289245198828008:=0
def tw13573469881099377723:=0
def tw6550820208279497478:=0
def tw10432640387617398679:=0
def tw7955225720837278227:=0
def tw11886781084674469547:=0
def tw10611411134949693364:=0
def tw15938762934719075591:=0
def tw3386837849810569826:=0
def tw3680669004518705722:=0
def tw13908623601990748636:=0
def tw15591501664055120599:=0
def tw7677546879739774442:=0
def tw14348764423339213344:=0
def tw17478574769469708692:=0
def tw11002161293282322117:=0
def tw16523773153412381129:=0
def tw6692281326220293186:=0
def tw18079842106159243931:=0
def tw14546184225115981597:=0
def tw8997725135116552773:=0
def tw10860714849120832334:=0
def tw16813487086918431283:=0
def tw5130883510678341704:=0
def tw988882674249561332:=0
def tw12924228439523211893:=0
def tw648049144415508790:=0
def tw5219908911955818750:=0
def tw6212802101272609963:=0
def tw8116088151076898170:=0
def tw6624191325286204320:=0
def tw14805170504361760335:=0
def tw2527519892194078390:=0
def tw16337604814115873800:=0
def tw16672293530286453941:=0
def tw15615786828806967047:=0
def tw13825145113849431968:=0
def tw10349301073058161610:=0
def tw9459248240191822431:=0
def tw10226848768376145968:=0
def tw8295356266537361895:=0
def tw4001627091425342316:=0
def tw13287637882220696857:=0
def tw13580982549284203041:=0
def tw8073604180370014016:=0
def tw15269624006896767952:=0
def tw14531371980637241347:=0
def tw18303857962916402838:=0
def tw5659865963506295937:=0
def tw13775775109576551433:=0
def tw6710615952916555235:=0
def tw7669715895984452129:=0
def tw17299113827427703164:=0
def tw14974344377550662527:=0
def tw12188074723265082108:=0
def tw5668129999490804237:=0
def tw16744087097335812891:=0
def tw7903179216262202852:=0
def tw14691438451120761834:=0
def tw12446060201020408135:=0
def tw6066924430256306012:=0
def tw49386551742542014:=0
def tw687140009389572943:=0
def tw3963325912190676183:=0
def tw9388005965258249056:=0
def tw6479645383632507041:=0
def tw11546239621577314423:=0
def tw17671573064673869815:=0
def tw13116567809552268676:=0
def tw10314172107179563983:=0
def tw1821471473598741460:=0
def tw4813289913887301346:=0
def tw13665380228527847012:=0
def tw1833986632121068985:=0
def tw6363346282705938085:=0
def tw4021891220862453907:=0
def tw360438991736713578:=0
def tw12194418200369461236:=0
def tw2859579639391043537:=0
def tw14062434195972943923:=0
def tw14277479501963375273:=0
def tw10911367321201331255:=0
def tw4242096567507571821:=0
def tw13613344031332748515:=0
def tw7415047336719607718:=0
def tw17392964138818515917:=0
def tw17886511993253571673:=0
def tw17498045565351701105:=0
def tw13162479112370097721:=0
def tw10572076667256084611:=0
def tw13850861528637998548:=0
def tw14506221486952354002:=0
def tw3972965122540618385:=0
def tw8648874037715423883:=0
def tw14784033018576530824:=0
def tw6526205943063932229:=0
def tw2567552661818641771:=0
def tw8505522661611395160:=0
def tw14007072174046828480:=0
def tw3250037865061582530:=0
end PySem.W.Fast
def PySem.W.Fast.tw10144520116873390715 : PySem.Program := PySem.Challenge.pw_leafsay_k42_an_order
theorem PySem.W.Fast.te10144520116873390715 : PySem.Challenge.pw_leafsay_k42_an_order = PySem.W.Fast.tw10144520116873390715 := rfl
set_option Elab.async false
set_option linter.all false
set_option maxRecDepth 100000
noncomputable section
def aaC:=@PySem.wpAny_bind
def aaD:=@List.mem_of_getElem?
def aaE:=@PySem.wpAny_pure
def aaF:=@List.length_append
def aaG:=@List.length_map
def aaH:=@PySem.Heap.get?_push_of_some
def aaI:=@Nat.le_refl
def aaJ:=@PySem.Heap.lt_size
def aaK:=@List.getElem?_map
def aaL:=@PySem.F.plainAttrs_list
def aaM:=@List.length_cons
def aaN:=@PySem.W.mg_of
def aaO:=@List.getElem?_eq_getElem
def aaP:=@List.size_toArray
def aaQ:=@Bool.false_ne_true
def aaR:=@if_neg
def aaS:=@List.length_singleton
def aaT:=@PySem.Heap.get?_push_size
def aaU:=@Nat.ne_of_lt
def aaV:=@List.mem_append_right
def aaW:=@decide_eq_false
def aaX:=@List.map_append
def aaY:=@if_pos
def aaZ:=@List.length_take
def aa0:=@Option.some.inj
def aa1:=@Nat.lt_of_lt_of_le
def aa2:=@List.take_of_length_le
def aa3:=@Nat.zero_le
def aa4:=@List.getElem?_append_left
def aa5:=@Int.emod_lt_of_pos
def aa6:=@PySem.boot_len
def aa7:=@List.map_cons
def aa8:=@PySem.PassesOwn.never
def aa9:=@List.mem_cons_of_mem
def aba:=@PySem.mem_of_lookup
def abb:=@decide_eq_true
def abc:=@Int.emod_nonneg
def abd:=@List.mem_cons_self
def abe:=@List.mem_append_left
def abf:=@List.getElem?_append_right
def abg:=@Nat.le_trans
def abh:=@List.dropLast_concat
def abi:=@PySem.F.type_list_pop
def abj:=@PySem.F.slot_list_pop
def abk:=@congrArg
def abl:=@PyProof.Rows.boot_isinstance
def abm:=@List.getElem?_of_mem
def abn:=@PySem.F.type_list_append
def abo:=@PySem.F.slot_list_append
def abp:=@PySem.wpAny_mono
def abq:=@PyProof.Rows.boot_tuple
def abr:=@List.append_assoc
def abt:=@Int.eq_ofNat_of_zero_le
def abu:=@PySem.wpAny_holding
def abv:=@PySem.W.mg_none_of
def abw:=@List.length_replicate
def abx:=@PySem.wpAny_newObj_type
def aby:=@List.append_nil
def abz:=@Nat.lt_of_le_of_lt
def abA:=@PySem.Heap.get?_update_other
def abB:=@List.lookup_cons
def abC:=@PySem.Heap.get?_update_self
def abD:=@Bool.false_eq_true
def abE:=@List.find?_cons
def abF:=@Ne.symm
def abG:=@Nat.lt_irrefl
def abH:=@PyProof.Rows.callWith_type1
def abI:=@Bool.and_eq_true
def abJ:=@decide_eq_true_eq
def abK:=@PySem.wpAny_call_entry
def abL:=@List.getElem?_eq_none
def abM:=@PySem.W.kia_one
def abN:=@Option.map_some
def abO:=@List.take_length
def abP:=@List.length_drop
def abQ:=@List.filter_cons_of_pos
def abR:=@PySem.wpAny_callSpecial?_slot
def abS:=@PySem.wpAny_truthy_bool
def abT:=@PySem.wpAny_loadPart_at
def abU:=@PySem.wpAny_field
def abV:=@if_false
def abW:=@Option.isSome_map
def abX:=@List.filter_cons_of_neg
def abY:=@PySem.wpAny_specialOf
def abZ:=@List.cons_append
def ab0:=@List.take_append_drop
def ab1:=@PySem.wpAny_of_eq
def ab2:=@List.nil_append
def ab4:=@List.forIn_cons
def ab5:=@PySem.Obj.data_mapFields
def ab6:=@PySem.Calls.spliced_cons
def ab7:=@Int.toNat_natCast
def ab8:=@PySem.builtinLookup_eq_fast
def ab9:=@List.mem_cons
def aca:=@List.cons.inj
def acb:=@PyProof.Rows.slot_tuple_getitem
def acd:=@PySem.wpAny_typeOf
def ace:=@PySem.codeAny_call_builtin
def acf:=@PySem.Calls.spliced_nil
def acg:=@List.getElem?_cons_succ
def ach:=@Nat.le_succ
def aci:=@PyProof.Rows.boot_list
def acj:=@List.filter_append
def ack:=@Int.zero_add
def acm:=@PySem.wpAny_seqItems
def acn:=@Nat.not_lt_zero
def aco:=@Bool.not_true
def acp:=@PySem.wpAny_typeNameOfWhole_keyiter
def acq:=@List.take_sublist
def acr:=@PySem.codeAny_mono
def acs:=@PySem.wpAny_passesOwn
def acu:=@PySem.codeAny_builtin
def acv:=@PySem.F.slot_dict_keyiterator_next
def acw:=@List.nodup_nil
def acx:=@List.mem_of_mem_take
def acy:=@PySem.wpAny_standAt
def acz:=@PySem.Paired.length
def acA:=@Nat.zero_add
def acB:=@List.map_map
def acC:=@List.drop_eq_getElem_cons
def acD:=@Array.getElem?_eq_getElem
def acE:=@List.filterMap_cons
def acF:=@PySem.wpAny_setField
def acG:=@PySem.wpAny_rule
def acH:=@PySem.Heap.get?_none_of_le
def acI:=@PySem.F.slot_tuple_iterator_next
def acJ:=@PySem.Around.under_plainId
def acK:=@List.any_cons
def acL:=@List.length_nil
def acM:=@PySem.wpAny_isInstance
def acN:=@List.mem_singleton
def acO:=@PySem.wpAny_typeNameOf_keyiter
def acP:=@PySem.plainId_quiet
def acQ:=@List.reverse_cons
def acR:=@List.map_nil
def acS:=@List.drop_of_length_le
def acT:=@PySem.wpAny_execs_nil
def acU:=@PySem.typeLookup_type
def acV:=@PySem.wpAny_pyIter_tuple
def acW:=@PySem.wpAny_Call_Name_kw
def acX:=@Nat.le_add_right
def acY:=@List.mem_nil_iff
def acZ:=@List.sum_cons
def ac0:=@PySem.W.looks_findIn
def ac1:=@PySem.PassesOwn.leaving
def ac2:=@PySem.Heap.size_push
def ac3:=@List.dropLast_concat_getLast
def ac4:=@PySem.Obj.isFreed_of_fields
def ac5:=@List.map_congr_left
def ac6:=@if_true
def ac7:=@Nat.lt_trans
def ac8:=@PySem.lookup_relabel_local
def ac9:=@List.take_zero
def ada:=@List.getD_eq_getElem?_getD
def adb:=@PySem.wpAny_isSubtype_exc
def ade:=@PySem.Heap.SameBut.update
def adf:=@Prod.mk.inj
def adg:=@Nat.lt_succ_of_lt
def adh:=@PySem.F.args_tuple_add_2
def adi:=@PySem.call_meets
def adj:=@PySem.F.entry_tuple_add
def adk:=@PySem.Code.quiet_builtin
def adl:=@Nat.toDigits_of_lt_base
def adm:=@List.getElem_map
def adn:=@List.getElem?_replicate
def ado:=@beq_iff_eq
def adp:=@PySem.F.slot_tuple_add
def adq:=@PyProof.Rows.boot_dict
def ads:=@Nat.le_of_lt
def adt:=@List.getElem?_set_self
def adu:=@PySem.wpAny_dictEntries
def adv:=@PySem.sizeLine_eq
def adw:=@List.mem_append
def adx:=@List.filter_nil
def ady:=@Bool.eq_iff_iff
def adz:=@PySem.wpAny_comprehension_free
def adA:=@PyProof.Rows.boot_int
def adB:=@List.reverse_reverse
def adC:=@List.mem_of_mem_drop
def adD:=@List.getElem?_set_ne
def adE:=@Bool.and_false
def adF:=@PySem.wpAny_pyIter_rangeiter
def adG:=@PySem.codeAny_compStart_list
def adH:=@PySem.W.hideAll_get
def adI:=@List.take_succ_cons
def adJ:=@List.length_reverse
def adK:=@Array.length_toList
def adL:=@PySem.wpAny_updateSeq
def adM:=@List.take_nil
def adN:=@PySem.wpAny_notOrdered_dict
def adO:=@PySem.isSubtype_tuple_tuple
def adP:=@PySem.W.of_hideAll
def adQ:=@Nat.eq_zero_or_pos
def adR:=@List.getElem?_drop
def adS:=@List.contains_cons
def adT:=@Array.forIn_toList
def adU:=@or_false
def adV:=@PySem.wpAny_newFunctionEnv
def adW:=@PySem.isSubtype_type
def adX:=@PySem.callType_codes
def adY:=@PySem.Calls.evalArgs_plain
def adZ:=@Nat.ne_of_gt
def ad0:=@List.foldl_append
def ad1:=@List.ext_getElem?
def ad2:=@Nat.lt_succ_self
def ad3:=@List.append_inj'
def ad4:=@List.all_eq_true
def ad5:=@List.take_append_of_le_length
def ad6:=@Int.le_refl
def ad7:=@PySem.wpAny_tupleItemsOf
def ad8:=@PySem.wpAny_getItem_heap
def ad9:=@PySem.wpAny_call
def aea:=@PySem.tupleKind_room_in1
def aeb:=@PySem.SeqAt.EqAt.of_refs
def aec:=@List.of_mem_zip
def aed:=@List.foldl_cons
def aee:=@PySem.wpAny_assign_Name
def aef:=@PySem.F.excBase_ValueError
def aeg:=@List.forIn_nil
def aeh:=@List.mem_of_find?_eq_some
def aei:=@PySem.wpAny_execs_cons
def aej:=@PySem.noFill_tuple_add
def aek:=@PySem.F.type_list_extend
def ael:=@PySem.F.slot_list_extend
def aem:=@PySem.F.args_dict_keyiterator_next_1
def aen:=@List.eq_of_mem_replicate
def aeo:=@PySem.F.entry_dict_keyiterator_next
def aep:=@List.getElem?_cons_zero
def aeq:=@PySem.wpAny_dictEpoch
def aer:=@PySem.codeAny_of_tree
def aes:=@PySem.W.funFrames_hide
def aet:=@PySem.W.cellsFrom_some
def aeu:=@PySem.SeqAt.EqAt.same
def aev:=@PySem.F.args_tuple_iterator_next_1
def aew:=@Nat.add_zero
def aex:=@List.length_pos_of_mem
def aey:=@List.head?_eq_getElem?
def aez:=@Bool.or_true
def aeA:=@PySem.F.entry_tuple_iterator_next
def aeB:=@List.singleton_append
def aeC:=@List.length_filter_le
def aeD:=@List.getElem?_reverse
def aeE:=@Array.getElem?_toList
def oI1{α:Sort _}{a:α}{b:Prop}:a=a\/b:=Or.inl rfl
def oJ1{α:Sort _}{a:α}{b:Prop}:b\/a=a:=Or.inr rfl
namespace L2
open PySem PySem.Spec PyProof.Rows
def Z0:0<=sizeLine:=by decide
def Z1:1<=sizeLine:=by decide
def Z2:2<=sizeLine:=by decide
def Z3:3<=sizeLine:=by decide
def Z4:4<=sizeLine:=by decide
def Z5:5<=sizeLine:=by decide
def Z9:9<=sizeLine:=by decide
abbrev Key:=Sum Int Str
noncomputable def pO:Key->Value->Bool
 |.inl k,v=>Value.isInt k v
 |.inr x,v=>Value.isStrOf x v
noncomputable def CQ(w:World):Key->Int
 |.inl k=>hashInt k
 |.inr x=>hashStr w x
theorem bB:∀{k:Key}{v:Value},pO k v=true->(∃i t,k=Sum.inl i/\v=Value.int i t)\/(∃x t,k=Sum.inr x/\v=Value.str x t)
 |.inl i,v,h=>by
  obtain⟨t,e⟩:=Value.isInt_shape (k:=i) (v:=v) h;exact .inl ⟨i,t,rfl,e⟩
 |.inr x,v,h=>by obtain⟨t,e⟩:=Value.isStrOf_shape (x:=x) (v:=v) h;exact .inr ⟨x,t,rfl,e⟩
def sL(i:Int)(t:Tok):pO (.inl i) (.int i t)=true:=by simp[pO,Value.isInt]
def sK(x:Str)(t:Tok):pO (.inr x) (.str x t)=true:=by simp[pO,Value.isStrOf]
def AS(a b:Int):decide ((Sum.inl a:Key)=Sum.inl b)=(a == b):=by
 by_cases e:a=b
 ·subst e;simp
 ·have h:¬(Sum.inl a:Key)=Sum.inl b:=λq=>e (Sum.inl.inj q);rw[aaW h];exact(beq_eq_false_iff_ne.mpr e).symm
def AO(a b:Str):decide ((Sum.inr a:Key)=Sum.inr b)=decide (a=b):=by
 by_cases e:a=b
 ·subst e;simp
 ·have h:¬(Sum.inr a:Key)=Sum.inr b:=λq=>e (Sum.inr.inj q);rw[aaW h,aaW e]
def AR(a:Int)(b:Str):decide ((Sum.inl a:Key)=Sum.inr b)=false:=aaW (λq=>nomatch q)
def AQ(a:Str)(b:Int):decide ((Sum.inr a:Key)=Sum.inl b)=false:=aaW (λq=>nomatch q)
noncomputable def aY(prog:Program)(w:World):PySem.KeyKind prog w Key where
 is:=pO
 hash:=CQ w
 inj:=λv a b ha hb=>by
  rcases bB ha with⟨i,t,rfl,rfl⟩|⟨x,t,rfl,rfl⟩
  ·rcases bB hb with⟨j,u,rfl,e⟩|⟨y,u,rfl,e⟩
   ·injection e with e1 _;rw[e1]
   ·exact nomatch e
  ·rcases bB hb with⟨j,u,rfl,e⟩|⟨y,u,rfl,e⟩
   ·exact nomatch e
   ·injection e with e1 _;rw[e1]
 byValue:=λk v h=>by rcases bB h with⟨i,t,rfl,rfl⟩|⟨x,t,rfl,rfl⟩<;>rfl
 pyHash:=λhv h=>by
  rcases bB hv with⟨i,t,rfl,rfl⟩|⟨x,t,rfl,rfl⟩
  ·exact wpAny_pyHash_int h
  ·exact wpAny_pyHash_str h
 eqBool:=λhu hv h=>by
  rcases bB hu with⟨i,t,rfl,rfl⟩|⟨x,t,rfl,rfl⟩
  ·rcases bB hv with⟨j,u,rfl,rfl⟩|⟨y,u,rfl,rfl⟩
   ·rw[AS]at h;exact wpAny_eqBool_int h
   ·rw[AR]at h;exact SeqAt.EqAt.int_str i t y u _ _ _ _ h
  ·rcases bB hv with⟨j,u,rfl,rfl⟩|⟨y,u,rfl,rfl⟩
   ·rw[AQ]at h;exact SeqAt.EqAt.str_int x t j u _ _ _ _ h
   ·rw[AO]at h;exact wpAny_eqBool_str h
 «strs»:=λk x t v h=>by
  rcases bB h with⟨i,u,rfl,e⟩|⟨y,u,rfl,e⟩
  ·exact nomatch e
  ·injection e with e1 _;subst e1;cases v<;>rfl
def lA(prog:Program)(w:World)(i:Int)(t:Tok):(aY prog w).is (.inl i) (.int i t)=true:=sL i t
def lx(prog:Program)(w:World)(x:Str)(t:Tok):(aY prog w).is (.inr x) (.str x t)=true:=sK x t
set_option genInjectivity true in
inductive V where
 |q8|bl (b:Bool)|int (i:Int)|str (x:Str)|Hf (b:Array UInt8)|NA (b:UInt64)|ref (a:Addr)|ty (n:String)
 deriving DecidableEq
def RelV:V->Value->Prop
 |.q8,u=>u=Value.none
 |.bl b,u=>u=Value.bool b
 |.int i,u=>∃t,u=Value.int i t
 |.str x,u=>∃t,u=Value.str x t
 |.Hf b,u=>∃t,u=Value.bytes b t
 |.NA b,u=>∃t,u=Value.float b t
 |.ref a,u=>u=Value.ref a
 |.ty n,u=>u=Value.type n
abbrev Vals:List V->List Value->Prop:=Paired RelV
theorem Vals.length{xs:List V}{us:List Value}(r:Vals xs us):xs.length=us.length:=acz r
theorem Vals.get:∀{xs:List V}{us:List Value}{i:Nat}{x:V},Vals xs us->xs[i]?=some x->∃u,us[i]?=some u/\RelV x u
 |_,_,_,_,.nil,e=>by simp at e
 |_,_,0,_,.cons r _,e=>by simp at e;subst e;exact⟨_,rfl,r⟩
 |_,_,i+1,x,.cons _ t,e=>by obtain⟨u,h1,h2⟩:=Vals.get (i:=i) (x:=x) t (by simpa using e);exact⟨u,by simpa using h1,h2⟩
theorem Vals.set{x:V}{u:Value}(r:RelV x u):∀{xs:List V}{us:List Value}(i:Nat),Vals xs us->Vals (xs.set i x) (us.set i u)
 |_,_,_,.nil=>.nil
 |_,_,0,.cons _ t=>.cons r t
 |_,_,i+1,.cons q t=>.cons q (Vals.set r i t)
theorem Vals.append:∀{xs ys:List V}{us ws:List Value},Vals xs us->Vals ys ws->Vals (xs++ys) (us++ws)
 |_,_,_,_,.nil,s=>s
 |_,_,_,_,.cons r t,s=>.cons r (Vals.append t s)
theorem Vals.take:∀{xs:List V}{us:List Value}(n:Nat),Vals xs us->Vals (xs.take n) (us.take n)
 |_,_,0,_=>.nil
 |_,_,_+1,.nil=>.nil
 |_,_,n+1,.cons r t=>.cons r (Vals.take n t)
theorem Vals.drop:∀{xs:List V}{us:List Value}(n:Nat),Vals xs us->Vals (xs.drop n) (us.drop n)
 |_,_,0,r=>r
 |_,_,_+1,.nil=>.nil
 |_,_,n+1,.cons _ t=>Vals.drop n t
def DA:Option V->Option Value->Prop
 |some v,some u=>RelV v u
 |none,none=>True
 |_,_=>False
variable{κ:Type}
def KV:List (κ×V)->List (κ×Value)->Prop:=Paired λ(p:κ×V)(q:κ×Value)=>p.1=q.1/\RelV p.2 q.2
noncomputable def kV:Key->V
 |.inl i=>.int i
 |.inr x=>.str x
set_option genInjectivity true in
inductive HO where
 /-- a list -/
 |lst (xs:List V)
 /-- a tuple (never changes) -/
 |tup (xs:List V)
 /-- a dict whose keys are ints and texts;one whose keys are tuples of ints and texts (the empty one is zn) -/
 |dK (e_:List (Key×V))|dT (e_:List (List Key×V))
 /-- a set of ints: its members,its size -/
 |set (S:Int->Bool) (n:Nat)
 /-- an instance of the class at C,its dict at dx,its attributes -/
 |ins (C dx:Addr) (fs:List (Str×V))
 /-- the dict of the instance at x -/
 |own (x:Addr)
 /-- the dict of an exception -/
 |xd (fs:List (Str×V))
 /-- a bound method,f of x -/
 |met (f x:Addr)
 /-- a range object lo,lo+1,.. below hi -/
 |W6 (lo hi:Int)
 /-- a thing that is known to the object (the script;a dict while a loop walks it): read,never written while it is so -/
 |Hd (o:Obj) (u:HO)
 /-- a yY object's table -/
 |MF (ps:Array Value)
 /-- any other thing,by what is true of its one object (a def of one's own: SetO a S n:=HO.ext λh=>..) -/
 |ext (φ:Heap->Prop)
abbrev Hp:=Addr->Option HO
def upd(H:Hp)(a:Addr)(o:HO):Hp:=λb=>if b=a then some o else H b
variable{H:Hp}
def aa{a:Addr}{o:HO}:upd H a o a=some o:=by unfold upd;rw[aaY rfl]
def al{a b:Addr}{o:HO}(h:b≠a):upd H a o b=H b:=by unfold upd;rw[aaR h]
def dZ{a b:Addr}{o u:HO}(h:H a=some o)(h':H b=some u)(d:o≠u):a≠b:=by intro e;subst e;rw[h]at h';exact d (aa0 h')
def aI{a b:Addr}{o:HO}(h:H a=some o)(h':H b=none):a≠b:=by intro e;subst e;rw[h]at h';cases h'
def Yl(h:Heap)(a:Addr):Prop:=∀o,h.get? a=some o->o.dict=none
def Yl.new(h:Heap)(o:Obj)(e:o.dict=none)(f:o.isFreed=false):Yl (h.push o) h.objs.size:=λu q=>by rw[aaT _ f]at q;cases q;exact e
def Pl(xs:List V):Prop:=∃x∈xs,∀a,x≠.ref a
def KA(xs:List V)(h:Heap)(a:Addr):Prop:=Pl xs\/Yl h a
theorem KA.new{xs:List V}(h:Heap)(o:Obj)(e:o.dict=none)(f:o.isFreed=false:=by rfl):KA xs (h.push o) h.objs.size:=.inr (Yl.new h o e f)
def θ:Lean.Syntax:=KA.new._auto_1
variable{h:Heap}{xs:List V}{o:Obj}
def KA.to{h':Heap}{a:Addr}(x:KA xs h a)(e:h.get? a=some o)(e':h'.get? a=some o):KA xs h' a:=x.imp_right λk u q=>by rw[e']at q;cases q;exact k o e
section
variable(P:Program)(w:World)
def i9(H:Hp)(h:Heap)(a:Addr):HO->Prop
 |.lst xs=>xs.length<=sizeLine/\∃(g8:List Value)(n:Nat),Vals xs g8/\h.get? a=some { cls:=.type "list",data:=.seq g8.toArray n }
 |.tup xs=>(xs.length<=sizeLine/\KA xs h a)/\∃g8:List Value,Vals xs g8/\IsTup h a g8.toArray
 |.dK e_=>e_.length<=sizeLine/\(a == sysModules)=false/\∃vs,KV e_ vs/\h.DictOf (aY P w) a vs
 |.dT e_=>e_.length<=sizeLine/\(a == sysModules)=false/\∃xs:List (List Key×Addr×Value),
  Paired (λ(p:List Key×V)(q:List Key×Addr×Value)=>p.1=q.1/\H q.2.1=some (.tup (p.1.map kV))/\RelV p.2 q.2.2) e_ xs /\
  ∃o es ep,h.get? a=some o/\o.ExactDict/\o.data=.dict es ep/\es.toList=xs.map (entryOfKey (tupleKind (aY P w)))/\(xs.map (·.1)).Nodup
 |.set S n=>h.SetOf (intKind P w) a S n
 |.ins C dx fs=>H dx=some (.own a)/\fs.length<=1000/\dx≠a/\h.get? a=some (PySem.W.instObj C dx) /\
  ∃mA,h.Ns1 dx mA/\(∀f,DA (fs.lookup f) (mA f))/\PySem.Within mA (fs.map (·.1))
 |.own _=>∃o,h.get? a=some o
 |.xd fs=>∃mA,h.Ns1 a mA/\∀f,DA (fs.lookup f) (mA f)
 |.W6 lo hi=>∃t u v,h.get? a=some { cls:=.type "range",data:=.fields #[.int lo t,.int hi u,.int 1 v] }
 |.Hd o u=>h.get? a=some o/\i9 H h a u
 |.MF ps=>h.get? a=some { cls:=.none,data:=.fields ps }
 |.met f x=>h.get? a=some (PySem.W.methodObj (.ref f) (.ref x))
 |.ext φ=>φ h/\(∃o,h.get? a=some o)/\∀h1 h2:Heap,φ h1->(∀o,h1.get? a=some o->h2.get? a=some o)->φ h2
def A8(H:Hp)(h:Heap):Prop:=∀a o,H a=some o->i9 P w H h a o
end
section
variable{P:Program}{w:World}{H H':Hp}{h h':Heap}{a:Addr}{o:HO}
theorem i9.lt(x:i9 P w H h a o):a<h.objs.size:=by
 cases o with
 |lst xs=>obtain⟨_,_,_,_,e⟩:=x;exact aaJ e
 |tup xs=>obtain⟨_,_,_,p⟩:=x;exact p.lt
 |dK e_=>obtain⟨_,_,_,_,o,_,_,e,_⟩:=x;exact aaJ e
 |dT e_=>obtain⟨_,_,_,_,o,_,_,e,_⟩:=x;exact aaJ e
 |set S n=>obtain⟨o,_,_,_,e,_⟩:=x;exact aaJ e
 |ins C dx fs=>obtain⟨_,_,_,e,_⟩:=x;exact aaJ e
 |own y=>obtain⟨_,e⟩:=x;exact aaJ e
 |xd fs=>obtain⟨_,⟨_,_,_,e,_⟩,_⟩:=x;exact aaJ e
 |W6 lo hi=>obtain⟨_,_,_,e⟩:=x;exact aaJ e
 |Hd ob u=>obtain⟨e,_⟩:=x;exact aaJ e
 |MF ps=>exact aaJ (show h.get? a=some _ from x)
 |met f y=>exact aaJ (show h.get? a=some _ from x)
 |ext φ=>obtain⟨_,⟨_,e⟩,_⟩:=x;exact aaJ e
theorem Paired.Se{α β:Type}{F G:α->β->Prop}:∀{SK:List α}{SJ:List β},Paired F SK SJ->(∀a b,F a b->G a b)->Paired G SK SJ
 |_,_,.nil,_=>.nil
 |_,_,.cons r t,f=>.cons (f _ _ r) (Paired.Se t f)
theorem i9.C0(x:i9 P w H h a o)(k:∀b u,(b=a\/H b=some (.own a))->h.get? b=some u->h'.get? b=some u)(ho:∀b,H b=some (.own a)->H' b=some (.own a))(ht:∀b xs,H b=some (.tup xs)->H' b=some (.tup xs)):i9 P w H' h' a o:=by
 induction o with
 |lst xs=>obtain⟨z,g8,n,r,e⟩:=x;exact⟨z,g8,n,r,k _ _ (.inl rfl) e⟩
 |tup xs=>obtain⟨z,g8,r,ob,e,c⟩:=x;exact⟨⟨z.1,z.2.to e (k _ _ (.inl rfl) e)⟩,g8,r,ob,k _ _ (.inl rfl) e,c⟩
 |dK e_=>obtain⟨z,y,vs,r,ob,es,ep,e,c⟩:=x;exact⟨z,y,vs,r,ob,es,ep,k _ _ (.inl rfl) e,c⟩
 |dT e_=>
  obtain⟨z,y,xs,r,ob,es,ep,e,c⟩:=x;exact⟨z,y,xs,Paired.Se r λp q z=>⟨z.1,ht _ _ z.2.1,z.2.2⟩,ob,es,ep,k _ _ (.inl rfl) e,c⟩
 |set S n=>obtain⟨ob,es,ep,t,e,c⟩:=x;exact⟨ob,es,ep,t,k _ _ (.inl rfl) e,c⟩
 |ins C dx fs=>
  obtain⟨d,z,ne,e,mA,⟨od,es,ep,e2,c⟩,r⟩:=x;exact⟨ho _ d,z,ne,k _ _ (.inl rfl) e,mA,⟨od,es,ep,k _ _ (.inr d) e2,c⟩,r⟩
 |own y=>obtain⟨ob,e⟩:=x;exact⟨ob,k _ _ (.inl rfl) e⟩
 |xd fs=>obtain⟨mA,⟨od,es,ep,e,c⟩,r⟩:=x;exact⟨mA,⟨od,es,ep,k _ _ (.inl rfl) e,c⟩,r⟩
 |W6 lo hi=>obtain⟨t,u,v,e⟩:=x;exact⟨t,u,v,k _ _ (.inl rfl) e⟩
 |Hd ob u ih=>obtain⟨e,q⟩:=x;exact⟨k _ _ (.inl rfl) e,ih q⟩
 |MF ps=>
  have e:h.get? a=some { cls:=.none,data:=.fields ps }:=x;show h'.get? a=some { cls:=.none,data:=.fields ps };exact k a _ (.inl rfl) e
 |met f y=>
  have e:h.get? a=some (PySem.W.methodObj (.ref f) (.ref y)):=x;show h'.get? a=some (PySem.W.methodObj (.ref f) (.ref y));exact k a _ (.inl rfl) e
 |ext φ=>obtain⟨p,⟨o,e⟩,st⟩:=x;exact⟨st _ _ p λo q=>k _ _ (.inl rfl) q,⟨o,k _ _ (.inl rfl) e⟩,st⟩
theorem A8.lt(x:A8 P w H h)(e:H a=some o):a<h.objs.size:=(x a o e).lt
theorem A8.fresh(x:A8 P w H h)(e:h.objs.size<=a):H a=none:=by
 cases q:H a with
 |none=>rfl
 |some u=>exact absurd (aa1 (x.lt q) e) (abG _)
def A8.kept(x:A8 P w H h)(k:∀b u,h.get? b=some u->h'.get? b=some u):A8 P w H h':=λa o e=>
 (x a o e).C0 (λb u _ q=>k b u q) (λ_ q=>q) λ_ _ q=>q
def A8.laid(x:A8 P w H h)(k:∀b u,h.get? b=some u->h'.get? b=some u)(hp:h.objs.size<=a)(new:i9 P w (upd H a o) h' a o):A8 P w (upd H a o) h':=λb u e=>by
 have hn:=x.fresh hp;by_cases hb:b=a
 ·subst hb;rw[aa]at e;cases e;exact new
 ·rw[al hb]at e;exact(x b u e).C0 (λc v _ q=>k c v q) (λc q=>by rw[al (aI q hn)];exact q) λc xs q=>by rw[al (aI q hn)];exact q
end
def Rd(H:Hp)(a:Addr)(u:HO):Prop:=H a=some u\/∃o,H a=some (.Hd o u)
variable{P:Program}{w:World}
def Rd.ok{a:Addr}{u:HO}(r:Rd H a u)(x:A8 P w H h):i9 P w H h a u:=by
 rcases r with r|⟨o,r⟩
 ·exact x a u r
 ·obtain⟨_,q⟩:=x a _ r;exact q
def Wc:Option HO->Prop
 |some (.lst _)=>True
 |some (.dK _)=>True
 |some (.dT _)=>True
 |some (.set _ _)=>True
 |some (.ins _ _ _)=>True
 |some (.ext _)=>True
 |_=>False
section
variable{P:Program}{w:World}{H:Hp}{h h':Heap}{x e:Addr}{o':HO}
def A8.write(ok:A8 P w H h)(mu:Wc (H x))(he:e=x\/H e=some (.own x))(k:∀b u,b≠e->h.get? b=some u->h'.get? b=some u)(Q_:∃u,h'.get? e=some u)(new:i9 P w (upd H x o') h' x o'):A8 P w (upd H x o') h':=λb u q=>by
 have R9:∀c y,H c=some (.own y)->c≠x:=λc y r z=>by subst z;rw[r]at mu;exact mu
 have aaB:∀c xs,H c=some (.tup xs)->c≠x:=λc xs r z=>by subst z;rw[r]at mu;exact mu
 by_cases hb:b=x
 ·subst hb;rw[aa]at q;cases q;exact new
 ·rw[al hb]at q;by_cases Qb:b=e
  ·have q':H b=some (.own x):=by
    rcases he with z|z
    ·exact absurd (Qb.trans z) hb
    ·rw[Qb];exact z
   rw[q]at q';cases q';obtain⟨v,hv⟩:=Q_;exact⟨v,by rw[Qb];exact hv⟩
  ·refine(ok b u q).C0 (λc v hc r=>k c v ?_ r) (λc r=>by rw[al (R9 c b r)];exact r) λc xs r=>by rw[al (aaB c xs r)];exact r
   rcases hc with rfl|hc
   ·exact Qb
   ·rintro rfl;rcases he with z|z
    ·exact R9 c b hc z
    ·rw[hc]at z;cases z;exact hb rfl
end
structure Un(fs ex:List Addr)(H H':Hp)(h h':Heap):Prop where
 keep:∀b o,h.get? b=some o->H b=none->b∉fs->b∉ex->h'.get? b=some o
 slot:∀b o,h.get? b=some o->H b=none->b∈fs->b∉ex->∃sl,h'.get? b=some { o with slots:=sl }
 free:∀b o,h.get? b=some o->H b=none->b∉ex->H' b=none
 there:∀b o,h.get? b=some o->b∉ex->∃o',h'.get? b=some o'
 B_:∀b xs,H b=some (.tup xs)->H' b=some (.tup xs)
 B5:∀b o u,H b=some (.Hd o u)->H' b=some (.Hd o u)
 B':∀b ps,H b=some (.MF ps)->∃more,H' b=some (.MF (ps++more))
section
variable{fs fs' ex ex':List Addr}{H H1 H2:Hp}{h h1 h2 h':Heap}{a x e:Addr}{o:HO}
def Un.any(u:Un fs ex H H1 h h1){b:Addr}{ob:Obj}(q:h.get? b=some ob)(n:H b=none)(hx:b∉ex):∃sl,h1.get? b=some { ob with slots:=sl }:=by
 by_cases hb:b∈fs
 ·exact u.slot b ob q n hb hx
 ·exact⟨ob.slots,u.keep b ob q n hb hx⟩
def Un.kept(k:∀b u,h.get? b=some u->h'.get? b=some u):Un fs ex H H h h':=
 ⟨λb ob q _ _ _=>k b ob q,λb ob q _ _ _=>⟨ob.slots,k b ob q⟩,λ_ _ _ n _=>n,λb ob q _=>⟨ob,k b ob q⟩,λ_ _ q=>q,λ_ _ _ q=>q,λ_ ps q=>⟨#[],by rw[q];simp⟩⟩
def Un.refl:Un fs ex H H h h:=Un.kept λ_ _ q=>q
def Un.laid(k:∀b u,h.get? b=some u->h'.get? b=some u)(hp:h.objs.size<=a)(hn:H a=none):Un fs ex H (upd H a o) h h' where
 keep:=λb u q _ _ _=>k b u q
 slot:=λb u q _ _ _=>⟨u.slots,k b u q⟩
 free:=λb u q n _=>by rw[al (aaU (aa1 (aaJ q) hp))];exact n
 there:=λb u q _=>⟨u,k b u q⟩
 B_:=λb xs q=>by rw[al (aI q hn)];exact q
 B5:=λb u xs q=>by rw[al (aI q hn)];exact q
 B':=λb ps q=>⟨#[],by rw[al (aI q hn),q];simp⟩
def Un.write(mu:Wc (H x))(he:e=x\/H e=some (.own x))(k:∀b u,b≠e->h.get? b=some u->h'.get? b=some u)(Q_:∃u,h'.get? e=some u):Un fs ex H (upd H x o) h h':=by
 have hx:∀b,H b=none->b≠x:=λb n z=>by subst z;rw[n]at mu;exact mu
 have hb:∀b,H b=none->b≠e:=λb n z=>by
  subst z;rcases he with r|r
  ·exact hx b n r
  ·rw[n]at r;cases r
 have hm:∀b u,H b=some u->¬Wc (some u)->b≠x:=λb u q nm z=>by subst z;rw[q]at mu;exact nm mu
 refine⟨λb u q n _ _=>k b u (hb b n) q,λb u q n _ _=>⟨u.slots,k b u (hb b n) q⟩,λb u q n _=>by rw[al (hx b n)];exact n,λb u q _=>?_,
  λb xs q=>by rw[al (hm b _ q λz=>z)];exact q,λb u xs q=>by rw[al (hm b _ q λz=>z)];exact q,λb ps q=>⟨#[],by rw[al (hm b _ q λz=>z),q];simp⟩⟩
 by_cases Qb:b=e
 ·subst Qb;exact Q_
 ·exact⟨u,k b u Qb q⟩
end
noncomputable def WU(h:Heap)(H:Hp):List Addr:=(List.range h.objs.size).filter λa=>(H a).isSome
noncomputable def vH(h:Heap)(H:Hp):Heap:=PySem.W.hideAll h (WU h H)
def sV(h:Heap)(H:Hp):(vH h H).objs.size=h.objs.size:=PySem.W.hideAll_size _ _
def vG{b:Addr}(e:h.get? b=some o)(n:H b=none):(vH h H).get? b=some o:=
 adH _ e λhm=>by have q:(H b).isSome=true:=(List.mem_filter.mp hm).2;rw[n]at q;simp at q
theorem yj{b:Addr}(e:(vH h H).get? b=some o):h.get? b=some o/\H b=none:=by
 have e':h.get? b=some o:=adP (WU h H) e;refine⟨e',?_⟩;cases q:H b with
 |none=>rfl
 |some x=>
  have hm:b∈WU h H:=List.mem_filter.mpr ⟨List.mem_range.mpr (aaJ e'),by simp[q]⟩;have z:(vH h H).get? b=none:=PySem.W.hideAll_none (WU h H) hm;rw[z]at e;cases e
structure Mod(K:W.Frag)(mg:Str->Option Value)(base:Heap):Prop where
 FG:K.In base
 glob:base.Ns mainGlobals mg
 blt:∃mb,base.Ns builtinsNs mb/\∀x:Str,x ≠ "__name__"->mb x=bootBuiltins x
 nolimit:base.NoLimit
structure Cx where
 prog:Program
 w:World
 K:W.Frag
 mg:Str->Option Value
 base:Heap
 A:Around
 N:List Str
 s₀:Shared
 H₀:Hp
 env:Env
 outer:List Env
 stack:List Env
 ex:List Addr
 fn:Str->Bool
 calm:Bool
 pn:List (Addr×Obj)
 xe:Value->Shared->Prop
noncomputable def n9(l:List Env):List Addr:=l.filterMap (·.frame)
abbrev Cx.fs(X:Cx):List Addr:=n9 X.outer
def V6(sc:Scope)(x:Str):Prop:=sc.names.lookup x=some .local\/sc.names.lookup x=some .cell\/sc.names.lookup x=some .free
def Loc(sc:Scope)(x:Str):Prop:=sc.names.lookup x=some .local\/sc.names.lookup x=some .cell
def CM(env:Env)(h:Heap)(m:Str->Option Value)(x:Str)(u:Value):Prop:=
 (env.kindOf x=some .local/\m x=some u)\/((env.kindOf x=some .cell\/env.kindOf x=some .free)/\∃c,env.cells.lookup x=some c/\h.IsCell c (some u))
structure Cx.Ok(X:Cx):Prop where
 mod:Mod X.K X.mg X.base
 kind:X.env.scope.kind=.function
 glob:X.env.globals=mainGlobals
 blt:X.env.builtins=builtinsNs
 above:X.s₀.heap.objs.size<=X.env.locals
 inj:∀x y c,X.env.cells.lookup x=some c->X.env.cells.lookup y=some c->x=y
 has:∀x,(X.env.kindOf x=some .cell\/X.env.kindOf x=some .free)->∃c,X.env.cells.lookup x=some c
 Rk:∀x c,X.fn x=true->X.env.cells.lookup x=some c->X.s₀.heap.objs.size<=c
 hd:X.calm=true->X.A.handled=none
 frames:X.A.frames=some X.stack
 RP:X.stack=X.outer\/(X.stack=X.env::X.outer/\X.env.frame=some X.env.locals)
 exf:∀b∈X.ex,b≠X.env.locals/\∀x c,X.env.cells.lookup x=some c->c≠b
 bs:∀b o,X.base.get? b=some o->X.s₀.heap.get? b=some o/\X.H₀ b=none
 HF:X.base.objs.size<=X.s₀.heap.objs.size
 FU:∀b o,X.base.get? b=some o->b∉X.ex
 JU:∀b∈X.ex,b∉X.fs
 Eb:X.s₀.heap.FunFrames X.base X.outer
 Nw:∀b∈X.fs,X.H₀ b=none
structure Inv(X:Cx)(pins:List (Addr×Obj))(σ:List (Option V))(H:Hp)(s:Shared):Prop where
 ok:X.Ok
 os:s.os=X.s₀.os
 bare:AllBare s.gens
 base:Un X.fs X.ex X.H₀ H X.s₀.heap s.heap
 loc:∃m,s.heap.Ns X.env.locals m/\∀(i:Nat)(x:Str)(v:V),X.N[i]?=some x->σ[i]?=some (some v)->V6 X.env.scope x->∃u,RelV v u/\CM X.env s.heap m x u
 cell:∀x c,X.env.cells.lookup x=some c->∃v,s.heap.IsCell c v
 free:H X.env.locals=none
 x_:∀x c,X.env.cells.lookup x=some c->H c=none
 pin:∀p∈X.pn++pins,s.heap.get? p.1=some p.2/\H p.1=none/\p.1≠X.env.locals/\p.1∉X.fs/\∀v,p.2.data≠.cell v
 i4:A8 X.prog X.w H s.heap
 len:σ.length=X.N.length
variable{E:Value->Shared->Prop}{A:Around}{u:Value}{x:Str}{ch:List Addr}{i t' j:Nat}{g':Array GenState}{M:Model}{v:V}{N:List Str}{d':Drawn}{it:Addr}
section
variable{X:Cx}{pins:List (Addr×Obj)}{σ:List (Option V)}{H H':Hp}{s:Shared}{h':Heap}
def Cx.Ok.Pc(ok:X.Ok){b:Addr}(e:X.base.get? b=some o):b∉X.fs:=λhb=>by have:=(ok.Eb.mem hb).1;rw[e]at this;cases this
theorem Inv.bs(I:Inv X pins σ H s):∀b o,X.base.get? b=some o->s.heap.get? b=some o/\H b=none:=λb o e=>
 ⟨I.base.keep b o (I.ok.bs b o e).1 (I.ok.bs b o e).2 (I.ok.Pc e) (I.ok.FU b o e),I.base.free b o (I.ok.bs b o e).1 (I.ok.bs b o e).2 (I.ok.FU b o e)⟩
def Inv.bk(I:Inv X pins σ H s):∀b o,X.base.get? b=some o->s.heap.get? b=some o:=λb o e=>(I.bs b o e).1
theorem Inv.mod(I:Inv X pins σ H s):Mod X.K X.mg X.base:=I.ok.mod
def Inv.DZ(I:Inv X pins σ H s):X.K.In s.heap:=I.ok.mod.FG.keeps I.bk
theorem Inv.lt(I:Inv X pins σ H s):X.env.locals<s.heap.objs.size:=let⟨_,hn,_⟩:=I.loc;hn.lt
def Inv.sz(I:Inv X pins σ H s):X.s₀.heap.objs.size<=s.heap.objs.size:=abg I.ok.above (ads I.lt)
def Inv.nofs(I:Inv X pins σ H s){a:Addr}(h:s.heap.objs.size<=a):a∉X.fs:=λhb=>by obtain⟨_,o,ho,_⟩:=I.ok.Eb.mem hb;exact absurd (aa1 (aaJ ho) (abg I.sz h)) (abG _)
def Inv.Kw(I:Inv X pins σ H s):∀x c,X.env.cells.lookup x=some c->c≠X.env.locals:=λx c e z=>by obtain⟨v,o,ho,hd⟩:=I.cell x c e;obtain⟨m,⟨o',es,ep,FX,A_,_⟩,_⟩:=I.loc;rw[z,FX]at ho;cases ho;rw[A_]at hd;cases hd
theorem Inv.Eb(I:Inv X pins σ H s):s.heap.FunFrames X.base X.outer:=by
 have all:∀(l:List Env),(∀b∈n9 l,b∈X.fs)->X.s₀.heap.FunFrames X.base l->s.heap.FunFrames X.base l:=by
  intro l;induction l with
  |nil=>intro _ _;trivial
  |cons env r ih=>
   intro hs hl;obtain⟨hk,⟨L,o,hf,hn,ho,hd⟩,hr⟩:=hl;have hL:L∈X.fs:=hs L (by unfold n9;rw[acE,hf];exact abd);obtain⟨sl,e⟩:=I.base.slot L o ho (I.ok.Nw L hL) hL λz=>I.ok.JU L z hL;exact⟨hk,⟨L,_,hf,hn,e,hd⟩,ih (λb hb=>hs b (by unfold n9;rw[acE,hf];exact aa9 _ hb)) hr⟩
 exact all X.outer (λ_ hb=>hb) I.ok.Eb
theorem Inv.stack(I:Inv X pins σ H s):s.heap.FunFrames X.base X.stack:=by
 rcases I.ok.RP with e|⟨e,hf⟩
 ·rw[e];exact I.Eb
 ·rw[e];obtain⟨m,hn,_⟩:=I.loc;refine .cons (by rw[I.ok.kind];decide) hf hn ?_ I.Eb;exact acH (abg I.ok.HF I.ok.above)
def Inv.Ep(I:Inv X pins σ H s):∀b∈n9 X.stack,b∈X.env.locals::X.fs:=λb hb=>by
 rcases I.ok.RP with e|⟨e,hf⟩
 ·rw[e]at hb;exact aa9 _ hb
 ·rw[e]at hb;unfold n9 at hb;rw[acE,hf]at hb;exact hb
def Inv.A7(I:Inv X pins σ H s):∀b∈n9 X.stack,H b=none:=λb hb=>by
 rcases List.mem_cons.mp (I.Ep b hb)with e|hb
 ·rw[e];exact I.free
 ·obtain⟨_,o,ho,_⟩:=I.ok.Eb.mem hb;exact I.base.free b o ho (I.ok.Nw b hb) λz=>I.ok.JU b z hb
def Inv.step(I:Inv X pins σ H s)(Lo:∀b∈ch,(b∈X.ex\/X.s₀.heap.objs.size<=b)/\b≠X.env.locals/\(∀x c,X.env.cells.lookup x=some c->c≠b)/\∀p∈X.pn++pins,p.1≠b)(keep:∀b o,b≠X.env.locals->b∉X.fs->b∉ch->s.heap.get? b=some o->H b=none->h'.get? b=some o)(slot:∀b o,b≠X.env.locals->b∈X.fs->b∉ch->s.heap.get? b=some o->H b=none->∃sl,h'.get? b=some { o with slots:=sl })(free:∀b o,b∉ch->s.heap.get? b=some o->H b=none->H' b=none)(there:∀b o,b∉ch->s.heap.get? b=some o->∃o',h'.get? b=some o')(B_:∀b xs,H b=some (.tup xs)->H' b=some (.tup xs))(B5:∀b o u,H b=some (.Hd o u)->H' b=some (.Hd o u))(B':∀b ps,H b=some (.MF ps)->∃more,H' b=some (.MF (ps++more)))(ns:∀m,s.heap.Ns X.env.locals m->h'.Ns X.env.locals m)(i4:A8 X.prog X.w H' h')(hg:AllBare g'):
 Inv X pins σ H' { s with heap:=h',gens:=g',drawn:=d',toks:=t' }:=by
 have Xc:∀b o,X.s₀.heap.get? b=some o->b≠X.env.locals:=λb o e=>aaU (aa1 (aaJ e) I.ok.above);have FE:∀b o,X.s₀.heap.get? b=some o->b∉X.ex->b∉ch:=λb o e hx hb=>by
  rcases(Lo b hb).1 with z|z
  ·exact hx z
  ·exact absurd (aa1 (aaJ e) z) (abG _)
 have cellK:∀x c,X.env.cells.lookup x=some c->∀v,s.heap.IsCell c v->h'.IsCell c v:=λx c e v ⟨o,ho,hd⟩=>by
  have Sb:c∉ch:=λz=>(Lo c z).2.2.1 x c e rfl;by_cases hc:c∈X.fs
  ·obtain⟨sl,q⟩:=slot c o (I.Kw x c e) hc Sb ho (I.x_ x c e);exact⟨_,q,hd⟩
  ·exact⟨o,keep c o (I.Kw x c e) hc Sb ho (I.x_ x c e),hd⟩
 refine⟨I.ok,I.os,hg,⟨λb o e n hb hx=>?_,λb o e n hb hx=>?_,λb o e n hx=>?_,λb o e hx=>?_,λb xs e=>B_ b xs (I.base.B_ b xs e),λb o xs e=>B5 b o xs (I.base.B5 b o xs e),λb ps e=>?_⟩,?_,λx c e=>?_,?_,λx c e=>?_,λp hp=>?_,i4,I.len⟩
 ·exact keep b o (Xc b o e) hb (FE b o e hx) (I.base.keep b o e n hb hx) (I.base.free b o e n hx)
 ·obtain⟨sl,e1⟩:=I.base.slot b o e n hb hx;obtain⟨RQ,e2⟩:=slot b _ (Xc b o e) hb (FE b o e hx) e1 (I.base.free b o e n hx);exact⟨RQ,e2⟩
 ·obtain⟨o',e1⟩:=I.base.there b o e hx;exact free b o' (FE b o e hx) e1 (I.base.free b o e n hx)
 ·obtain⟨o',e1⟩:=I.base.there b o e hx;exact there b o' (FE b o e hx) e1
 ·obtain⟨m1,e1⟩:=I.base.B' b ps e;obtain⟨m2,e2⟩:=B' b _ e1;exact⟨m1++m2,by rw[e2,Array.append_assoc]⟩
 ·obtain⟨m,hn,hl⟩:=I.loc;refine⟨m,ns m hn,λi x v e1 e2 e3=>?_⟩;obtain⟨u,r,l⟩:=hl i x v e1 e2 e3;refine⟨u,r,?_⟩;rcases l with l|⟨k,c,e,z⟩
  ·exact .inl l
  ·exact .inr ⟨k,c,e,cellK x c e _ z⟩
 ·obtain⟨v,z⟩:=I.cell x c e;exact⟨v,cellK x c e v z⟩
 ·obtain⟨m,⟨o,_,_,ho,_⟩,_⟩:=I.loc;exact free _ o (λz=>(Lo _ z).2.1 rfl) ho I.free
 ·obtain⟨v,o,ho,hd⟩:=I.cell x c e;exact free c o (λz=>(Lo c z).2.2.1 x c e rfl) ho (I.x_ x c e)
 ·obtain⟨e,n,ne,nf,d⟩:=I.pin p hp;have Sb:p.1∉ch:=λz=>(Lo p.1 z).2.2.2 p hp rfl;exact⟨keep p.1 p.2 ne nf Sb e n,free p.1 p.2 Sb e n,ne,nf,d⟩
theorem Inv.un(I:Inv X pins σ H s)(u:Un X.fs [] H H' s.heap h')(i4:A8 X.prog X.w H' h'):Inv X pins σ H' { s with heap:=h',toks:=t' }:=by
 obtain⟨m,⟨o,es,ep,ho,r⟩,_⟩:=id I.loc;obtain⟨sl,hL⟩:=u.any ho I.free (by simp);exact I.step (g':=s.gens) (d':=s.drawn) (ch:=[]) (λ_ z=>nomatch z) (λb o _ hb _ e n=>u.keep b o e n hb (by simp)) (λb o _ hb _ e n=>u.slot b o e n hb (by simp)) (λb o _ e n=>u.free b o e n (by simp)) (λb o _ e=>u.there b o e (by simp)) u.B_ u.B5 u.B' (λm' hm=>by
  obtain⟨o',Mu,Qm,FX,r'⟩:=hm;rw[ho]at FX;cases FX;exact⟨_,Mu,Qm,hL,r'⟩) i4 I.bare
theorem Inv.call(I:Inv X pins σ H s)(u:Un (n9 X.stack) ch H H' s.heap h')(i4:A8 X.prog X.w H' h')(hg:AllBare g')(Lo:∀b∈ch,(b∈X.ex\/X.s₀.heap.objs.size<=b)/\b≠X.env.locals/\(∀x c,X.env.cells.lookup x=some c->c≠b)/\∀p∈X.pn++pins,p.1≠b):
 Inv X pins σ H' { s with heap:=h',gens:=g',drawn:=d',toks:=t' }:=by
 obtain⟨m,⟨o,es,ep,ho,r⟩,_⟩:=id I.loc;obtain⟨sl,hL⟩:=u.any ho I.free λz=>(Lo _ z).2.1 rfl;exact I.step (ch:=ch) Lo (λb o hL hb hc e n=>u.keep b o e n (λz=>(List.mem_cons.mp (I.Ep b z)).elim hL hb) hc) (λb o _ _ hc e n=>u.any e n hc) (λb o hc e n=>u.free b o e n hc) (λb o hc e=>u.there b o e hc) u.B_ u.B5 u.B' (λm' hm=>by
  obtain⟨o',Mu,Qm,FX,r'⟩:=hm;rw[ho]at FX;cases FX;exact⟨_,Mu,Qm,hL,r'⟩) i4 hg
def Inv.turned(I:Inv X pins σ H s)(k:∀b o,b≠it->s.heap.get? b=some o->h'.get? b=some o)(hn:H it=none)(hL:it≠X.env.locals)(h1:it∈X.ex\/X.s₀.heap.objs.size<=it)(h2:∀x c,X.env.cells.lookup x=some c->c≠it)(h3:∀p∈X.pn++pins,p.1≠it):Inv X pins σ H { s with heap:=h',toks:=t' }:=by
 have nit:∀b u,H b=some u->b≠it:=λb u e z=>by rw[z,hn]at e;cases e
 refine I.step (g':=s.gens) (d':=s.drawn) (ch:=[it]) (λb hb=>?_) (λb o _ _ hc e _=>k b o (λz=>hc (by simp[z])) e) (λb o _ _ hc e _=>⟨o.slots,k b o (λz=>hc (by simp[z])) e⟩) (λ_ _ _ _ n=>n)
  (λb o hc e=>⟨o,k b o (λz=>hc (by simp[z])) e⟩) (λ_ _ e=>e) (λ_ _ _ e=>e) (λb ps e=>⟨#[],by rw[e];simp⟩) (λm hm=>?_) (λb u e=>?_) I.bare
 ·have e:b=it:=by simpa using hb
  subst e;exact⟨h1,hL,h2,h3⟩
 ·obtain⟨o,es,ep,ho,r⟩:=hm;exact⟨o,es,ep,k _ o (abF hL) ho,r⟩
 ·refine(I.i4 b u e).C0 (λc v hc q=>k c v ?_ q) (λ_ q=>q) λ_ _ q=>q;rcases hc with z|z
  ·rw[z];exact nit b u e
  ·exact nit c _ z
def Inv.tok(I:Inv X pins σ H s)(t:Nat):Inv X pins σ H { s with toks:=t }:=I.un (h':=s.heap) (t':=t) Un.refl I.i4
theorem Inv.kept{t':Nat}(I:Inv X pins σ H s)(k:∀b u,s.heap.get? b=some u->h'.get? b=some u):Inv X pins σ H { s with heap:=h',toks:=t' }:=I.un (Un.kept k) (I.i4.kept k)
theorem Inv.laid{a:Addr}{o:HO}{t':Nat}(I:Inv X pins σ H s)(k:∀b u,s.heap.get? b=some u->h'.get? b=some u)(hp:s.heap.objs.size<=a)(new:i9 X.prog X.w (upd H a o) h' a o):
 Inv X pins σ (upd H a o) { s with heap:=h',toks:=t' }:=I.un (Un.laid k hp (I.i4.fresh hp)) (I.i4.laid k hp new)
theorem Inv.write{x e:Addr}{o:HO}{t':Nat}(I:Inv X pins σ H s)(mu:Wc (H x))(he:e=x\/H e=some (.own x))(k:∀b u,b≠e->s.heap.get? b=some u->h'.get? b=some u)(Q_:∃u,h'.get? e=some u)(new:i9 X.prog X.w (upd H x o) h' x o):Inv X pins σ (upd H x o) { s with heap:=h',toks:=t' }:=I.un (Un.write mu he k Q_) (I.i4.write mu he k Q_ new)
def Inv.weak{k_:List (Option V)}(I:Inv X pins σ H s)(hl:k_.length=σ.length)(w:∀(i:Nat) v,k_[i]?=some (some v)->σ[i]?=some (some v)):Inv X pins k_ H s:=
 ⟨I.ok,I.os,I.bare,I.base,let⟨m,hn,hl'⟩:=I.loc;⟨m,hn,λi x v e1 e2 e3=>hl' i x v e1 (w i v e2) e3⟩,I.cell,I.free,I.x_,I.pin,I.i4,hl.trans I.len⟩
def Inv.Fq{MQ:List (Addr×Obj)}(I:Inv X pins σ H s)(h:∀p∈MQ,s.heap.get? p.1=some p.2/\H p.1=none/\p.1≠X.env.locals/\p.1∉X.fs/\∀v,p.2.data≠.cell v):Inv X MQ σ H s:=
 ⟨I.ok,I.os,I.bare,I.base,I.loc,I.cell,I.free,I.x_,λp hp=>(List.mem_append.mp hp).elim (λz=>I.pin p (abe _ z)) (h p),I.i4,I.len⟩
def iO(hN:N.Nodup)(a:N[i]?=some x)(b:N[j]?=some x):i=j:=by obtain⟨h1,e1⟩:=List.getElem?_eq_some_iff.mp a;obtain⟨h2,e2⟩:=List.getElem?_eq_some_iff.mp b;exact(List.getElem_inj hN).mp (e1.trans e2.symm)
variable{Q:Unit->Shared->Prop}
theorem qG(I:Inv X pins σ H s)(hN:X.N.Nodup)(hi:X.N[i]?=some x)(hx:Loc X.env.scope x)(r:RelV v u)(h:∀s',Inv X pins (σ.set i (some v)) H s'->(∃a,Heap.SameBut a s.heap s'.heap/\(a=X.env.locals\/X.env.cells.lookup x=some a))->Q () s')(hf:X.fn x=true\/X.env.scope.names.lookup x=some .local):wpAny M A (storeName X.env x u) Q E s:=by
 obtain⟨m,hn,hl⟩:=id I.loc;have P':(X.env.scope.kind == .class||(X.env.scope.kind == .module&&X.env.locals != X.env.globals))=false:=by rw[I.ok.kind];rfl
 have Ui:i<σ.length:=by rw[I.len];exact(List.getElem?_eq_some_iff.mp hi).1
 have Kw:=I.Kw;have tracked:∀{a:Addr}{h':Heap},(∃o,s.heap.get? a=some o/\H a=none)->Heap.SameBut a s.heap h'->A8 X.prog X.w H h':=λ{a h'} ha hs b ob e=>by
  obtain⟨_,_,A2⟩:=ha;refine(I.i4 b ob e).C0 (λc w' hc q=>(hs.2 c ?_).trans q) (λ_ q=>q) λ_ _ q=>q;rintro rfl;rcases hc with rfl|hc
  ·rw[A2]at e;cases e
  ·rw[A2]at hc;cases hc
 rcases hx with hk|hk
 ·refine wpAny_storeName_local hk hn (λh' Nk hs=>?_) P';obtain⟨oL,_,_,TC,_⟩:=id hn;refine h _ ⟨I.ok,I.os,I.bare,⟨λb o e n hb hx=>?_,λb o e n hb hx=>?_,I.base.free,λb o e hx=>?_,I.base.B_,I.base.B5,I.base.B'⟩,⟨_,Nk,λj y v' e1 e2 e3=>?_⟩,λy c e=>?_,I.free,I.x_,λp hp=>?_,tracked ⟨oL,TC,I.free⟩ hs,by simpa using I.len⟩ ⟨_,hs,.inl rfl⟩
  ·exact(hs.2 b (aaU (aa1 (aaJ e) I.ok.above))).trans (I.base.keep b o e n hb hx)
  ·obtain⟨sl,e1⟩:=I.base.slot b o e n hb hx;exact⟨sl,(hs.2 b (aaU (aa1 (aaJ e) I.ok.above))).trans e1⟩
  ·obtain⟨o',e1⟩:=I.base.there b o e hx;exact⟨o',(hs.2 b (aaU (aa1 (aaJ e) I.ok.above))).trans e1⟩
  ·by_cases hj:j=i
   ·subst hj;rw[hi]at e1;cases e1;rw[adt Ui]at e2;cases e2;exact⟨u,r,.inl ⟨hk,by simp⟩⟩
   ·rw[adD (abF hj)]at e2;obtain⟨u',r',q⟩:=hl j y v' e1 e2 e3;refine⟨u',r',?_⟩;rcases q with⟨k,e⟩|⟨k,c,e,z⟩
    ·refine .inl ⟨k,?_⟩;have:y≠x:=λe=>hj (iO hN e1 (e▸hi));simp[this,e]
    ·exact .inr ⟨k,c,e,z.sameBut hs (Kw y c e)⟩
  ·obtain⟨w',z⟩:=I.cell y c e;exact⟨w',z.sameBut hs (Kw y c e)⟩
  ·obtain⟨e,n,ne,nf,d⟩:=I.pin p hp;exact⟨(hs.2 p.1 ne).trans e,n,ne,nf,d⟩
 ·have hfn:X.fn x=true:=by
   rcases hf with z|z
   ·exact z
   ·rw[z]at hk;cases hk
  obtain⟨c,hc⟩:=I.ok.has x (.inl hk);obtain⟨w',z⟩:=I.cell x c hc;refine wpAny_storeName_cell I.ok.kind hk hc z (λh' FI hs=>?_);obtain⟨oc,Q6,hocd⟩:=id z;refine h { s with heap:=h' } ⟨I.ok,I.os,I.bare,⟨λb o e n hb hx=>?_,λb o e n hb hx=>?_,I.base.free,λb o e hx=>?_,I.base.B_,I.base.B5,I.base.B'⟩,⟨m,hn.sameBut hs (abF (Kw x c hc)),λj y v' e1 e2 e3=>?_⟩,λy c' e=>?_,I.free,I.x_,λp hp=>?_,tracked ⟨oc,Q6,I.x_ x c hc⟩ hs,by simpa using I.len⟩ ⟨c,hs,.inr hc⟩
  ·exact(hs.2 b (aaU (aa1 (aaJ e) (I.ok.Rk x c hfn hc)))).trans (I.base.keep b o e n hb hx)
  ·obtain⟨sl,e1⟩:=I.base.slot b o e n hb hx;exact⟨sl,(hs.2 b (aaU (aa1 (aaJ e) (I.ok.Rk x c hfn hc)))).trans e1⟩
  ·obtain⟨o',e1⟩:=I.base.there b o e hx;exact⟨o',(hs.2 b (aaU (aa1 (aaJ e) (I.ok.Rk x c hfn hc)))).trans e1⟩
  ·by_cases hj:j=i
   ·subst hj;rw[hi]at e1;cases e1;rw[adt Ui]at e2;cases e2;exact⟨u,r,.inr ⟨.inl hk,c,hc,FI⟩⟩
   ·rw[adD (abF hj)]at e2;obtain⟨u',r',q⟩:=hl j y v' e1 e2 e3;refine⟨u',r',?_⟩;rcases q with q|⟨k,c',e,z'⟩
    ·exact .inl q
    ·refine .inr ⟨k,c',e,z'.sameBut hs ?_⟩;rintro rfl;exact hj (iO hN e1 (I.ok.inj _ _ _ e hc▸hi))
  ·by_cases hcc:c'=c
   ·subst hcc;exact⟨_,FI⟩
   ·obtain⟨w2,z2⟩:=I.cell y c' e;exact⟨w2,z2.sameBut hs hcc⟩
  ·obtain⟨e,n,ne,nf,d⟩:=I.pin p hp;refine⟨(hs.2 p.1 ?_).trans e,n,ne,nf,d⟩;intro q;rw[q,Q6]at e;have q':oc=p.2:=aa0 e;exact d w' (by rw[<-q'];exact hocd)
def dO(I:Inv X pins σ H s)(hN:X.N.Nodup)(hi:X.N[i]?=some x)(hx:Loc X.env.scope x)(r:RelV v u)(h:∀s',Inv X pins (σ.set i (some v)) H s'->Q () s')(hf:X.fn x=true\/X.env.scope.names.lookup x=some .local:=by first|exact .inl rfl|exact .inr rfl|assumption):wpAny M A (storeName X.env x u) Q E s:=
 qG I hN hi hx r (λs' I' _=>h s' I') hf
def ι:Lean.Syntax:=dO._auto_1
def Inv.HE{s':Shared}(I:Inv X pins σ H s)(ho:s'.os=s.os)(u:Un (n9 X.stack) ch H H' s.heap s'.heap)(i4:A8 X.prog X.w H' s'.heap)(hg:AllBare s'.gens)(Lo:∀b∈ch,(b∈X.ex\/X.s₀.heap.objs.size<=b)/\b≠X.env.locals/\(∀x c,X.env.cells.lookup x=some c->c≠b)/\∀p∈X.pn++pins,p.1≠b):Inv X pins σ H' s':=by obtain⟨h',g',d',t',o'⟩:=s';have e:o'=s.os:=ho;subst e;exact I.call (g':=g') (t':=t') (d':=d') u i4 hg Lo
end
abbrev XK:=Value->Option Addr->Hp->Prop
abbrev St:=List (Option V)
abbrev VK:=V->Hp->Prop
abbrev TE:=St->Hp->VK->Prop
abbrev TT:=St->Hp->(Bool->Hp->Prop)->Prop
abbrev TA:=St->Hp->(List V->Hp->Prop)->Prop
structure gR where
 nx:St->Hp->Prop
 rt:VK
 bk:St->Hp->Prop:=λ_ _=>False
 ct:St->Hp->Prop:=λ_ _=>False
abbrev TS:=gR->St->Hp->Prop
def EP(X:Cx)(pins:List (Addr×Obj))(σ:St)(Q:VK)(u:Value)(s':Shared):Prop:=∃v H',Inv X pins σ H' s'/\RelV v u/\Q v H'
def TP(X:Cx)(pins:List (Addr×Obj))(σ:St)(Q:Bool->Hp->Prop)(b:Bool)(s':Shared):Prop:=∃H',Inv X pins σ H' s'/\Q b H'
def AP(X:Cx)(pins:List (Addr×Obj))(σ:St)(Q:List V->Hp->Prop)(us:List Value)(s':Shared):Prop:=∃vs H',Inv X pins σ H' s'/\Vals vs us/\Q vs H'
def SP(X:Cx)(pins:List (Addr×Obj))(D:gR)(f:Flow)(s':Shared):Prop:=
 match f with
 |.next=>∃k_ H',Inv X pins k_ H' s'/\D.nx k_ H'
 |.brk=>∃k_ H',Inv X pins k_ H' s'/\D.bk k_ H'
 |.cont=>∃k_ H',Inv X pins k_ H' s'/\D.ct k_ H'
 |.ret u=>∃v k_ H',Inv X pins k_ H' s'/\RelV v u/\D.rt v H'
def PE(X:Cx)(e:Expr)(t:TE):Prop:=
 ∀(pins:List (Addr×Obj))(s:Shared)(σ:St)(H:Hp)(Q:VK),Inv X pins σ H s->t σ H Q->wpAny (model X.prog X.w) X.A (eval e X.env) (EP X pins σ Q) X.xe s
def PT(X:Cx)(e:Expr)(t:TT):Prop:=
 ∀(pins:List (Addr×Obj))(s:Shared)(σ:St)(H:Hp)(Q:Bool->Hp->Prop),Inv X pins σ H s->t σ H Q->wpAny (model X.prog X.w) X.A (isTrue e X.env (eval e X.env)) (TP X pins σ Q) X.xe s
def PW(X:Cx)(e:Expr)(t:TT):Prop:=
 ∀(whole:Sem Value)(pins:List (Addr×Obj))(s:Shared)(σ:St)(H:Hp)(Q:Bool->Hp->Prop),Inv X pins σ H s->t σ H Q->wpAny (model X.prog X.w) X.A (isTrue e X.env whole) (TP X pins σ Q) X.xe s
def PW.pt{X:Cx}{e:Expr}{t:TT}(h:PW X e t):PT X e t:=h _
def PA(X:Cx)(es:List Expr)(t:TA):Prop:=
 ∀(pos:Pos)(pins:List (Addr×Obj))(s:Shared)(σ:St)(H:Hp)(Q:List V->Hp->Prop),Inv X pins σ H s->t σ H Q->wpAny (model X.prog X.w) X.A (spliced (backTo pos (starEach es X.env))) (AP X pins σ Q) X.xe s
def PS(X:Cx)(st:Stmt)(t:TS):Prop:=
 ∀(pins:List (Addr×Obj))(s:Shared)(σ:St)(H:Hp)(D:gR),Inv X pins σ H s->t D σ H->wpAny (model X.prog X.w) X.A (exec st X.env) (SP X pins D) X.xe s
def HI(X:Cx)(st:List Stmt)(t:TS):Prop:=
 ∀(pins:List (Addr×Obj))(s:Shared)(σ:St)(H:Hp)(D:gR),Inv X pins σ H s->t D σ H->wpAny (model X.prog X.w) X.A (execs st X.env) (SP X pins D) X.xe s
variable{s:Shared}
def j9{α:Type}{t:Sem α}{Q Q':α->Shared->Prop}(h:wpAny M A t Q E s)(hQ:∀a s,Q a s->Q' a s):wpAny M A t Q' E s:=abp h hQ λ_ _ x=>x
variable{pins:List (Addr×Obj)}{Q:Value->Shared->Prop}{σ:St}{e:Expr}{t:TE}
section
variable{X:Cx}
inductive Lw(i:Nat)(σ:St)(H:Hp)(Q:VK):Prop
 |mk:∀v,σ[i]?=some (some v)->Q v H->Lw i σ H Q
def tC(v:V):TE:=λ_ H Q=>Q v H
def AA{pos:Pos}(hN:X.N[i]?=some x)(hv:V6 X.env.scope x)(hd:(x == ("__debug__" : Str))=false)(ER:(x == ("__classdict__" : Str))=false):PE X (.Name x pos) (Lw i):=by
 intro pins s σ H Q I h;obtain⟨v,e,h⟩:=h;obtain⟨m,hn,hl⟩:=I.loc;obtain⟨u,r,l⟩:=hl i x v hN e hv;have fin:EP X pins σ Q u s:=⟨v,H,I,r,h⟩
 rcases l with⟨hk,hm⟩|⟨hk,c,hc,B4⟩
 ·exact wpAny_Name (wpAny_loadName_local I.ok.kind hk hn hm fin) hd
 ·rcases hk with hk|hk
  ·exact wpAny_Name (wpAny_loadName_cell I.ok.kind hk hc B4 fin) hd
  ·exact wpAny_Name (wpAny_loadName_free I.ok.kind hk hc B4 fin ER) hd
def O6{i j pos}:PE X (.Constant (.int i) j pos) (tC (.int i)):=λ_ _ _ H _ I h=>wpAny_Constant_int ⟨.int i,H,I.tok _,⟨_,rfl⟩,h⟩
def R8{b j pos}:PE X (.Constant (.bool b) j pos) (tC (.bl b)):=λ_ _ _ H _ I h=>Constant_bool ⟨.bl b,H,I,rfl,h⟩
def O4{j pos}:PE X (.Constant .none j pos) (tC .q8):=λ_ _ _ H _ I h=>Constant_none ⟨.q8,H,I,rfl,h⟩
def O0{x j pos}:PE X (.Constant (.str x) j pos) (tC (.str x)):=λ_ _ _ H _ I h=>Calls.Constant_str ⟨.str x,H,I.tok _,⟨_,rfl⟩,h⟩
def Gl(X:Cx)(x:Str):Prop:=X.env.kindOf x=some .globalImplicit
def fj{pos:Pos}(I:Inv X pins σ H s)(hg:Gl X x)(hm:X.mg x=some u)(h:Q u s)(hd:(x == ("__debug__" : Str))=false:=by decide):wpAny (model X.prog X.w) X.A (eval (.Name x pos) X.env) Q E s:=
 Calls.Name_function_global I.ok.kind hg (Calls.loadGlobal_global (by rw[I.ok.glob];exact I.mod.glob.keeps I.bk) hm h) hd
def ξ:Lean.Syntax:=fj._auto_1
def eh{pos:Pos}(I:Inv X pins σ H s)(hg:Gl X x)(hm:X.mg x=none)(hv:bootBuiltins x=some u)(h:Q u s)(hn:autoParam (x ≠ "__name__") ξ)(hd:autoParam ((x == ("__debug__" : Str))=false) ξ):wpAny (model X.prog X.w) X.A (eval (.Name x pos) X.env) Q E s:=by obtain⟨mb,h1,h2⟩:=I.mod.blt;exact Calls.Name_function_global I.ok.kind hg (Calls.loadGlobal_builtin (by rw[I.ok.glob];exact I.mod.glob.keeps I.bk) hm (by rw[I.ok.blt];exact h1.keeps I.bk) ((h2 x hn).trans hv) h) hd
def LQ{pos:Pos}(hg:Gl X x)(hm:X.mg x=some u)(r:RelV v u)(hd:(x == ("__debug__" : Str))=false):PE X (.Name x pos) (tC v):=
 λ_ _ _ H _ I h=>fj I hg hm ⟨v,H,I,r,h⟩ hd
def LV{pos:Pos}(hg:Gl X x)(hm:X.mg x=none)(hv:bootBuiltins x=some u)(r:RelV v u)(hn:x ≠ "__name__")(hd:(x == ("__debug__" : Str))=false):PE X (.Name x pos) (tC v):=
 λ_ _ _ H _ I h=>eh I hg hm hv ⟨v,H,I,r,h⟩ hn hd
variable{a b:Expr}{ta tb:TE}{pos:Pos}
def PC(X:Cx)(op:CmpOp)(a b:Expr)(t:TE):Prop:=
 ∀(pins:List (Addr×Obj))(s:Shared)(σ:St)(H:Hp)(Q:VK),Inv X pins σ H s->t σ H Q ->
  wpAny (model X.prog X.w) X.A (eval a X.env) (λv i8=>wpAny (model X.prog X.w) X.A (eval b X.env) (λu DM=>wpAny (model X.prog X.w) X.A (compareOp op v u) (EP X pins σ Q) X.xe DM) X.xe i8) X.xe s
def vq(b:Expr){op:CmpOp}(h:op≠.In)(h2:op≠.NotIn):behindInMarks op b=false:=by
 have e1:(op == CmpOp.In)=false:=by cases op<;>first|rfl|exact absurd rfl h
 have e2:(op == CmpOp.NotIn)=false:=by cases op<;>first|rfl|exact absurd rfl h2
 cases b<;>simp[behindInMarks,e1,e2]
def Cr(ta:TE):TE:=λσ H Q=>ta σ H λx H1=>Q (.bl (decide (x=.q8))) H1
theorem RelV.Jt{x:V}{v:Value}(r:RelV x v):(v == Value.none)=decide (x=.q8):=by
 cases x with
 |q8=>cases r;rfl
 |bl _=>cases r;rfl
 |int _=>obtain⟨t,rfl⟩:=r;rfl
 |str _=>obtain⟨t,rfl⟩:=r;rfl
 |Hf _=>obtain⟨t,rfl⟩:=r;rfl
 |NA _=>obtain⟨t,rfl⟩:=r;rfl
 |ref _=>cases r;rfl
 |ty _=>cases r;rfl
def AD{j pos'}(ha:PE X a ta):PC X .Is a (.Constant .none j pos') (Cr ta):=by intro pins s σ H Q I h;refine j9 (ha pins s σ H _ I h) ?_;rintro v s1 ⟨x,H1,I1,r1,q1⟩;exact Constant_none (is_none_gen ⟨.bl _,H1,I1,by rw[r1.Jt];rfl,q1⟩)
inductive TBI(Q:Bool->Hp->Prop)(x:V)(H1:Hp):Prop
 |mk:∀c,x=.bl c->Q c H1->TBI Q x H1
def tB(t:TE):TT:=λσ H Q=>t σ H λx H1=>TBI Q x H1
def Ay{op:CmpOp}(h:PC X op a b t)(h1:behindInMarks op b=false:=by first|exact vq _ (by decide) (by decide)|rfl):PT X (.Compare a [op] [b] pos) (tB t):=by intro pins s σ H Q I hw;refine wpAny_isTrue_Compare1 (j9 (h pins s σ H _ I hw) λv s1 h1=>j9 h1 λu s2 h2=>j9 h2 λc s3 ⟨x,H1,I1,r1,q1⟩=>?_) h1;obtain⟨d,rfl,q⟩:=q1;cases r1;exact abS ⟨H1,I1,q⟩
def OQ(h:PE X e t)(he:∀whole,isTrue e X.env whole=(do let v <- whole;standAt e.pos;holding [v] (truthy v))):PT X e (tB t):=by intro pins s σ H Q I hw;refine isTrue_plain (j9 (h pins s σ H _ I hw) ?_) (he _);rintro v s1 ⟨x,H1,I1,r1,q1⟩;obtain⟨d,rfl,q⟩:=q1;cases r1;exact abS ⟨H1,I1,q⟩
variable{tA Lb:TT}{rest:List Expr}
def RN(t u:TT):TT:=λσ H Q=>t σ H λc H1=>if c=true then u σ H1 Q else Q false H1
def tOr(t u:TT):TT:=λσ H Q=>t σ H λc H1=>if c=true then Q true H1 else u σ H1 Q
def RI(t:TT):TT:=λσ H Q=>t σ H λc H1=>Q (!c) H1
theorem LB(ha:PT X a tA):PW X (.BoolOp .And [a] pos) tA:=by
 intro wh pins s σ H Q I h;refine isTrue_and (j9 (ha pins s σ H Q I h) λc s1 e=>?_);cases c with
 |true=>exact isTrue_and_nil e
 |false=>exact e
theorem OO(ha:PT X a tA):PW X (.BoolOp .Or [a] pos) tA:=by
 intro wh pins s σ H Q I h;refine isTrue_or (j9 (ha pins s σ H Q I h) λc s1 e=>?_);cases c with
 |false=>exact isTrue_or_nil e
 |true=>exact e
theorem OP(ha:PT X a tA)(hb:PW X (.BoolOp .And (b::rest) pos) Lb):PW X (.BoolOp .And (a::b::rest) pos) (RN tA Lb):=by
 intro wh pins s σ H Q I h;refine isTrue_and (j9 (ha pins s σ H _ I h) ?_);rintro c s1 ⟨H1,I1,q1⟩;cases c with
 |true=>exact hb wh pins s1 σ H1 Q I1 q1
 |false=>exact⟨H1,I1,q1⟩
theorem RZ(ha:PT X a tA)(hb:PW X (.BoolOp .Or (b::rest) pos) Lb):PW X (.BoolOp .Or (a::b::rest) pos) (tOr tA Lb):=by
 intro wh pins s σ H Q I h;refine isTrue_or (j9 (ha pins s σ H _ I h) ?_);rintro c s1 ⟨H1,I1,q1⟩;cases c with
 |true=>exact⟨H1,I1,q1⟩
 |false=>exact hb wh pins s1 σ H1 Q I1 q1
def OR(ha:PT X a tA):PT X (.UnaryOp .Not a pos) (RI tA):=by intro pins s σ H Q I h;exact isTrue_not (ha pins s σ H (λc H1=>Q (!c) H1) I h)
def ML(ta tb:TE):TE:=λσ H Q=>ta σ H λx H1=>∃c,x=.bl c/\if c=true then tb σ H1 Q else Q (.bl false) H1
inductive xg(Q:VK)(x:V)(H1:Hp):Prop
 |mk:∀c,x=.bl c->Q (.bl (!c)) H1->xg Q x H1
def MI(ta:TE):TE:=λσ H Q=>ta σ H λx H1=>xg Q x H1
def O1{op}(h:PE X a t):PE X (.BoolOp op [a] pos) t:=λpins s σ H Q I hw=>BoolOp_one (h pins s σ H Q I hw)
theorem O8(ha:PE X a ta)(hb:PE X (.BoolOp .And (b::rest) pos) tb):PE X (.BoolOp .And (a::b::rest) pos) (ML ta tb):=by
 intro pins s σ H Q I h;refine BoolOp_and (j9 (ha pins s σ H _ I h) ?_);rintro v s1 ⟨x,H1,I1,r1,q1⟩;obtain⟨c,rfl,q1⟩:=q1;cases r1;refine abS ?_;cases c with
 |true=>exact hb pins s1 σ H1 Q I1 q1
 |false=>exact⟨.bl false,H1,I1,rfl,q1⟩
def O3(ha:PE X a ta):PE X (.UnaryOp .Not a pos) (MI ta):=by intro pins s σ H Q I h;refine UnaryOp_ (j9 (ha pins s σ H _ I h) ?_);rintro v s1 ⟨x,H1,I1,r1,q1⟩;obtain⟨c,rfl,q1⟩:=q1;cases r1;exact not_of (abS ⟨.bl (!c),H1,I1,rfl,q1⟩)
def tIf(t:TT)(ta tb:TE):TE:=λσ H Q=>t σ H λc H1=>if c=true then ta σ H1 Q else tb σ H1 Q
theorem Jq{c:Expr}(hc:PT X c tA)(ha:PE X a ta)(hb:PE X b tb):PE X (.IfExp c a b pos) (tIf tA ta tb):=by
 intro pins s σ H Q I h;refine wpAny_IfExp (j9 (hc pins s σ H _ I h) ?_);rintro d s1 ⟨H1,I1,q1⟩;cases d with
 |true=>exact ha pins s1 σ H1 Q I1 q1
 |false=>exact hb pins s1 σ H1 Q I1 q1
end
def d9(K:W.Frag)(H:Hp)(a:Addr)(xs:List V):Prop:=
 Rd H a (.lst xs) \/
  ∃(o:Obj)(g8:Array Value)(n:Nat),K.lookup a=some o/\o.cls=.type "list"/\o.dict=none/\o.data=.seq g8 n/\g8.size<=sizeLine/\Vals xs g8.toList
def b9(K:W.Frag)(H:Hp)(a:Addr)(xs:List V):Prop:=
 Rd H a (.tup xs) \/
  ∃(o:Obj)(g8:Array Value)(n:Nat),K.lookup a=some o/\o.cls=.type "tuple"/\o.data=.seq g8 n/\g8.size<=sizeLine/\Vals xs g8.toList
noncomputable def De:Value->Option V
 |.none=>some .q8
 |.bool b=>some (.bl b)
 |.int i _=>some (.int i)
 |.str x _=>some (.str x)
 |.bytes b _=>some (.Hf b)
 |.float b _=>some (.NA b)
 |.ref a=>some (.ref a)
 |.type n=>some (.ty n)
 |_=>none
theorem RelV.abs{x:V}(r:RelV x u):De u=some x:=by
 cases x with
 |q8=>cases r;rfl
 |bl _=>cases r;rfl
 |int _=>obtain⟨t,rfl⟩:=r;rfl
 |str _=>obtain⟨t,rfl⟩:=r;rfl
 |Hf _=>obtain⟨t,rfl⟩:=r;rfl
 |NA _=>obtain⟨t,rfl⟩:=r;rfl
 |ref _=>cases r;rfl
 |ty _=>cases r;rfl
def RelV.inj{x y:V}(r:RelV x u)(q:RelV y u):x=y:=aa0 (r.abs.symm.trans q.abs)
theorem Vals.inj:∀{xs ys:List V}{us:List Value},Vals xs us->Vals ys us->xs=ys
 |_,_,_,.nil,.nil=>rfl
 |_,_,_,.cons r t,.cons r' t'=>by rw[r.inj r',Vals.inj t t']
variable{K:W.Frag}
section
variable{X:Cx}{pins:List (Addr×Obj)}{σ:St}{H:Hp}{s:Shared}{a:Addr}{xs ys:List V}
def d9.of(h:H a=some (.lst xs)):d9 K H a xs:=.inl (.inl h)
def b9.of(h:H a=some (.tup xs)):b9 K H a xs:=.inl (.inl h)
theorem Inv.list(I:Inv X pins σ H s)(h:d9 X.K H a xs):∃g8:List Value,Vals xs g8/\PlainL s.heap a g8.toArray/\xs.length<=sizeLine:=by
 rcases h with h|⟨o,g8,n,hk,hc,hd,hs,hz,r⟩
 ·obtain⟨z,g8,n,r,e⟩:=h.ok I.i4;exact⟨g8,r,⟨_,n,e,rfl,rfl,rfl⟩,z⟩
 ·refine⟨g8.toList,r,⟨o,n,I.DZ a o hk,hc,hd,by simpa using hs⟩,?_⟩;have e:=r.length;simp only[adK]at e;lia
theorem Inv.tuple(I:Inv X pins σ H s)(h:b9 X.K H a xs):∃g8:List Value,Vals xs g8/\IsTup s.heap a g8.toArray/\xs.length<=sizeLine:=by
 rcases h with h|⟨o,g8,n,hk,hc,hs,hz,r⟩
 ·obtain⟨z,g8,r,p⟩:=h.ok I.i4;exact⟨g8,r,p,z.1⟩
 ·refine⟨g8.toList,r,⟨o,I.DZ a o hk,hc,n,by simpa using hs⟩,?_⟩;have e:=r.length;simp only[adK]at e;lia
def Inv.FV(I:Inv X pins σ H s)(h:d9 X.K H a xs)(h':d9 X.K H a ys):xs=ys:=by
 obtain⟨g8,r,⟨o,n,e,_,_,d⟩,_⟩:=I.list h;obtain⟨its',r',⟨o',n',e',_,_,d'⟩,_⟩:=I.list h';rw[e]at e';cases e';rw[d]at d';injection d' with d1 _;have:g8=its':=by simpa using abk Array.toList d1
 subst this;exact r.inj r'
def Inv.E5(I:Inv X pins σ H s)(h:b9 X.K H a xs)(h':b9 X.K H a ys):xs=ys:=by
 obtain⟨g8,r,⟨o,e,_,n,d⟩,_⟩:=I.tuple h;obtain⟨its',r',⟨o',e',_,n',d'⟩,_⟩:=I.tuple h';rw[e]at e';cases e';rw[d]at d';injection d' with d1 _;have:g8=its':=by simpa using abk Array.toList d1
 subst this;exact r.inj r'
end
abbrev Cx.Eo(X:Cx)(E:Value->Shared->Prop):Cx:={ X with xe:=E }
abbrev Cx.Pa(X:Cx):Cx:=X.Eo λ_ _=>False
theorem Cx.Ok.Eo{X:Cx}(ok:X.Ok)(E:Value->Shared->Prop):(X.Eo E).Ok:=
 ⟨ok.mod,ok.kind,ok.glob,ok.blt,ok.above,ok.inj,ok.has,ok.Rk,ok.hd,ok.frames,ok.RP,ok.exf,ok.bs,ok.HF,ok.FU,ok.JU,ok.Eb,ok.Nw⟩
def Cx.Ok.B9{X:Cx}(ok:(X.Eo E).Ok):X.Ok:=
 ⟨ok.mod,ok.kind,ok.glob,ok.blt,ok.above,ok.inj,ok.has,ok.Rk,ok.hd,ok.frames,ok.RP,ok.exf,ok.bs,ok.HF,ok.FU,ok.JU,ok.Eb,ok.Nw⟩
section
variable{X:Cx}{pins:List (Addr×Obj)}{σ:St}{H:Hp}{s:Shared}{E:Value->Shared->Prop}
theorem Inv.Eo(I:Inv X pins σ H s)(E:Value->Shared->Prop):Inv (X.Eo E) pins σ H s:=⟨I.ok.Eo E,I.os,I.bare,I.base,I.loc,I.cell,I.free,I.x_,I.pin,I.i4,I.len⟩
theorem Inv.B9(I:Inv (X.Eo E) pins σ H s):Inv X pins σ H s:=⟨I.ok.B9,I.os,I.bare,I.base,I.loc,I.cell,I.free,I.x_,I.pin,I.i4,I.len⟩
theorem SP.B9{D:gR}{f:Flow}{s':Shared}(h:SP (X.Eo E) pins D f s'):SP X pins D f s':=by
 cases f with
 |next=>obtain⟨k_,H',I,q⟩:=h;exact⟨k_,H',I.B9,q⟩
 |brk=>obtain⟨k_,H',I,q⟩:=h;exact⟨k_,H',I.B9,q⟩
 |cont=>obtain⟨k_,H',I,q⟩:=h;exact⟨k_,H',I.B9,q⟩
 |ret u=>obtain⟨v,k_,H',I,r,q⟩:=h;exact⟨v,k_,H',I.B9,r,q⟩
theorem HI.Pa{st:List Stmt}{t:TS}(h:HI X.Pa st t):HI X st t:=λpins s σ H D I hw=>
 abp (h pins s σ H D (I.Eo _) hw) (λ_ _ q=>q.B9) λ_ _ z=>False.elim z
end
section
variable{X:Cx}{st:Stmt}{rest:List Stmt}{t u:TS}{e:Expr}{te:TE}{pos:Pos}
def I0:TS:=λD σ H=>D.nx σ H
def IZ(t u:TS):TS:=λD σ H=>t { D with nx:=u D } σ H
def LF:HI X [] I0:=λ_ _ σ H _ I h=>acT ⟨σ,H,I,h⟩
theorem Jm(h1:PS X st t)(h2:HI X rest u):HI X (st::rest) (IZ t u):=by
 intro pins s σ H D I h;refine aei (j9 (h1 pins s σ H { D with nx:=u D } I h) λf s1 q=>?_);cases f with
 |next=>
  obtain⟨k_,H',I',q⟩:=q;exact h2 pins s1 k_ H' D I' q
 |ret v=>exact q
 |brk=>exact q
 |cont=>exact q
theorem LD(h1:PS X st t):HI X [st] t:=by
 intro pins s σ H D I h;refine aei (j9 (h1 pins s σ H D I h) λf s1 q=>?_);cases f with
 |next=>exact acT q
 |ret v=>exact q
 |brk=>exact q
 |cont=>exact q
def Inv.quiet(I:Inv X pins σ H s):interactive X.env=false:=by simp[interactive,I.ok.kind]
def MJ(te:TE):TS:=λD σ H=>te σ H λ_ H1=>D.nx σ H1
def LH(he:PE X e te)(hs:swapsWith e none pos.line X.env=pure false):PS X (.Expr e pos) (MJ te):=by intro pins s σ H D I h;exact wpAny_Expr_any (j9 (he pins s σ H _ I h) λv s1 ⟨x,H1,I1,r1,q1⟩=>⟨σ,H1,I1,q1⟩) I.quiet hs
def RH(te:TE):TS:=λD σ H=>te σ H D.rt
def OT(he:PE X e te):PS X (.Return (some e) pos) (RH te):=by intro pins s σ H D I h;exact wpAny_Return_some (j9 (he pins s σ H _ I h) λv s1 ⟨x,H1,I1,r1,q1⟩=>⟨x,σ,H1,I1,r1,q1⟩)
def Lx(c:TT)(t u:TS):TS:=λD σ H=>c σ H λb H1=>if b=true then t D σ H1 else u D σ H1
theorem R3{c:Expr}{a b:List Stmt}{tc:TT}(hc:PT X c tc)(ha:HI X a t)(hb:HI X b u):PS X (.If c a b pos) (Lx tc t u):=by
 intro pins s σ H D I h;refine wpAny_If (j9 (hc pins s σ H _ I h) ?_);rintro d s1 ⟨H1,I1,q1⟩;cases d with
 |true=>exact ha pins s1 σ H1 D I1 q1
 |false=>exact hb pins s1 σ H1 D I1 q1
end
abbrev TG:=V->St->Hp->(St->Hp->Prop)->Prop
abbrev IQ:=List V->St->Hp->(St->Hp->Prop)->Prop
def PG(X:Cx)(target:Expr)(t:TG):Prop:=
 ∀(pins:List (Addr×Obj))(s:Shared)(σ:St)(H:Hp)(v:V)(u:Value)(Q:St->Hp->Prop),Inv X pins σ H s->RelV v u->t v σ H Q ->
  wpAny (model X.prog X.w) X.A (assign target X.env u) (λ_ s'=>∃k_ H',Inv X pins k_ H' s'/\Q k_ H') X.xe s
def Wb(X:Cx)(ts:List Expr)(t:IQ):Prop:=
 ∀(pins:List (Addr×Obj))(s:Shared)(σ:St)(H:Hp)(vs:List V)(us:List Value)(Q:St->Hp->Prop),Inv X pins σ H s->Vals vs us->t vs σ H Q ->
  wpAny (model X.prog X.w) X.A (assignInOrder ((assignEach ts X.env).map (·.2)) us) (λ_ s'=>∃k_ H',Inv X pins k_ H' s'/\Q k_ H') X.xe s
abbrev ze:=V->V->V->Hp->(Hp->Prop)->Prop
def zq(X:Cx)(t:ze):Prop:=
 ∀(pins:List (Addr×Obj))(s:Shared)(σ:St)(H:Hp)(o i v:V)(ov iv u:Value)(Q:Hp->Prop),Inv X pins σ H s->RelV o ov->RelV i iv->RelV v u->t o i v H Q ->
  wpAny (model X.prog X.w) X.A (setItem ov iv u) (λ_ s'=>∃H',Inv X pins σ H' s'/\Q H') X.xe s
abbrev V7:=V->V->Hp->VK->Prop
def PIp(X:Cx)(op:Operator)(t:V7):Prop:=
 ∀(pins:List (Addr×Obj))(s:Shared)(σ:St)(H:Hp)(x y:V)(v u:Value)(Q:VK),Inv X pins σ H s->RelV x v->RelV y u->t x y H Q ->
  wpAny (model X.prog X.w) X.A (inplaceOp op v u) (EP X pins σ Q) X.xe s
variable{tg:Expr}{body:List Stmt}{es:List Expr}{n:Nat}{te:TE}
section
variable{X:Cx}{pos:Pos}
def s_(i:Nat):TG:=λv σ H Q=>Q (σ.set i (some v)) H
def LP(hN:X.N.Nodup)(hi:X.N[i]?=some x)(hx:Loc X.env.scope x)(hf:X.fn x=true\/X.env.scope.names.lookup x=some .local):PG X (.Name x pos) (s_ i):=by intro pins s σ H v u Q I r h;exact aee (dO I hN hi hx r (λs' I'=>⟨_,H,I',h⟩) hf)
def U4:IQ:=λvs σ H Q=>vs=[]/\Q σ H
inductive JS(t:TG)(u:IQ)(vs:List V)(σ:St)(H:Hp)(Q:St->Hp->Prop):Prop
 |mk:∀v r,vs=v::r->(t v σ H λk_ H'=>u r k_ H' Q)->JS t u vs σ H Q
def LO:Wb X [] U4:=by intro pins s σ H vs us Q I r h;obtain⟨e,h⟩:=h;subst e;cases r;exact assignInOrder_nil ⟨σ,H,I,h⟩
theorem Jo{t:TG}{u:IQ}(h1:PG X e t)(h2:Wb X es u)(hs:(assignEach (e::es) X.env).map (·.2)=assign e X.env::(assignEach es X.env).map (·.2)):Wb X (e::es) (JS t u):=by
 intro pins s σ H vs us Q I r h;obtain⟨v,vr,e1,h⟩:=h;subst e1;cases r with
 |cons r rr=>
  rw[hs];refine assignInOrder_cons (j9 (h1 pins s σ H _ _ _ I r h) ?_);rintro _ s1 ⟨QD,H1,I1,q1⟩;exact h2 pins s1 QD H1 _ _ Q I1 rr q1
inductive Mt(K:W.Frag)(n:Nat)(t:IQ)(v:V)(σ:St)(H:Hp)(Q:St->Hp->Prop):Prop
 |mk:∀a xs,v=.ref a->b9 K H a xs->xs.length=n->t xs σ H Q->Mt K n t v σ H Q
def OX{k:Nat}{t:IQ}(hc:X.calm=true)(h:Wb X es t)(hn:(assignEach es X.env).length=n)(Ec:(assignEach es X.env).findIdx? (·.1)=none):PG X (.Tuple es k pos) (Mt X.K n t):=by intro pins s σ H v u Q I r hw;obtain⟨a,xs,e1,hq,hl,hw⟩:=hw;subst e1;cases r;obtain⟨g8,rv,ht,hz⟩:=I.tuple hq;refine assign_Tuple_tuple (I.ok.hd hc) ht (by simp[hn,<-hl,rv.length]) Ec λh' hx=>?_;have I1:Inv X pins σ H { s with heap:=h' }:=I.kept (t':=s.toks) λb o e=>hx b o (aaU (aaJ e)) e;exact h pins _ σ H xs _ Q I1 (by simpa using rv) hw
def U3(to ti:TE)(t:ze):TG:=λv σ H Q=>to σ H λo H1=>ti σ H1 λi H2=>t o i v H2 λH3=>Q σ H3
def OY{o i:Expr}{to ti:TE}{t:ze}(ho:PE X o to)(hi:PE X i ti)(hs:zq X t)(ha:∀v,assign (.Subscript o i pos) X.env v=(do
 let ov <- holding [v] (eval o X.env)
 let iv <- holding [v,ov] (eval i X.env)
 standAt pos
 holding [v,ov,iv] (setItem ov iv v)
 release [v,ov,iv] [])):PG X (.Subscript o i pos) (U3 to ti t):=by
 intro pins s σ H v u Q I r h;rw[ha];refine aaC (abu (j9 (ho pins s σ H _ I h) ?_));rintro ov s1 ⟨x,H1,I1,r1,q1⟩;refine aaC (abu (j9 (hi pins s1 σ H1 _ I1 q1) ?_));rintro iv s2 ⟨y,H2,I2,r2,q2⟩;refine aaC (acy (aaC (abu (j9 (hs pins s2 σ H2 x y v ov iv u _ I2 r1 r2 r q2) ?_))));rintro _ s3 ⟨H3,I3,q3⟩;exact wpAny_release ⟨σ,H3,I3,q3⟩
def HU(te:TE)(g:TG):TS:=λD σ H=>te σ H λx H1=>g x σ H1 D.nx
def OV{g:TG}(he:PE X e te)(hg:PG X tg g)(hs:swapsWithSole [tg] e pos.line X.env=pure false)(hw:swappedStores [tg] e X.env=pure none)(h1:(assignEach [tg] X.env).map (·.2)=[assign tg X.env]):PS X (.Assign [tg] e pos) (HU te g):=by intro pins s σ H D I h;refine wpAny_Assign_stores (j9 (he pins s σ H _ I h) ?_) hs hw;rintro v s1 ⟨x,H1,I1,r1,q1⟩;rw[h1];exact j9 (hg pins s1 σ H1 x v _ I1 r1 q1) λ_ s2 q=>q
def OS{pos':Pos}(hN:X.N.Nodup)(hi:X.N[i]?=some x)(hx:Loc X.env.scope x)(he:PE X e te)(hs:swapsWith e (some (.Name x pos')) pos.line X.env=pure false)(hf:X.fn x=true\/X.env.scope.names.lookup x=some .local):
 PS X (.Assign [.Name x pos'] e pos) (HU te (s_ i)):=by
 intro pins s σ H D I h;refine wpAny_Assign_Name (j9 (he pins s σ H _ I h) ?_) hs;rintro v s1 ⟨y,H1,I1,r1,q1⟩;exact dO I1 hN hi hx r1 (λs2 I2=>⟨_,H1,I2,q1⟩) hf
def zL(to ti te:TE)(GH:V->V->Hp->VK->Prop)(OI:V7)(GF:ze):TS:=λD σ H=>to σ H λo H1=>ti σ H1 λi H2=>GH o i H2 λx H3=>te σ H3 λy H4=>OI x y H4 λz H5=>GF o i z H5 λH6=>D.nx σ H6
def Cm(X:Cx)(t:V->V->Hp->VK->Prop):Prop:=
 ∀(pins:List (Addr×Obj))(s:Shared)(σ:St)(H:Hp)(o i:V)(ov iv:Value)(Q:VK),Inv X pins σ H s->RelV o ov->RelV i iv->t o i H Q ->
  wpAny (model X.prog X.w) X.A (getItem ov iv) (EP X pins σ Q) X.xe s
def xR{o i:Expr}{to ti:TE}{GH:V->V->Hp->VK->Prop}{OI:V7}{GF:ze}{op:Operator}{D7:Pos}(ho:PE X o to)(hi:PE X i ti)(hg:Cm X GH)(he:PE X e te)(hp:PIp X op OI)(hs:zq X GF)(ha:∀ov iv new,augStore i ov iv new=(do holding [new,ov,iv] (setItem ov iv new);release [new,ov,iv] [];pure .next)):PS X (.AugAssign (.Subscript o i D7) op e pos) (zL to ti te GH OI GF):=by intro pins s σ H D I h;refine wpAny_AugAssign_SubscriptAny (j9 (ho pins s σ H _ I h) ?_) ha;rintro ov s1 ⟨x1,H1,I1,r1,q1⟩;refine j9 (hi pins s1 σ H1 _ I1 q1) ?_;rintro iv s2 ⟨x2,H2,I2,r2,q2⟩;refine j9 (hg pins s2 σ H2 x1 x2 ov iv _ I2 r1 r2 q2) ?_;rintro old s3 ⟨x3,H3,I3,r3,q3⟩;refine j9 (he pins s3 σ H3 _ I3 q3) ?_;rintro v s4 ⟨x4,H4,I4,r4,q4⟩;refine j9 (hp pins s4 σ H4 x3 x4 old v _ I4 r3 r4 q4) ?_;rintro new s5 ⟨x5,H5,I5,r5,q5⟩;exact j9 (hs pins s5 σ H5 x1 x2 x5 ov iv new _ I5 r1 r2 r5 q5) λ_ s6 ⟨H6,I6,q6⟩=>⟨σ,H6,I6,q6⟩
def ipI(f:Int->Int->Int):V7:=λx y H Q=>∃i j,x=.int i/\y=.int j/\Q (.int (f i j)) H
def AT:PIp X .Add (ipI λi j=>i+j):=by intro pins s σ H x y v u Q I r1 r2 h;obtain⟨i,j,e1,e2,q⟩:=h;subst e1;subst e2;obtain⟨t,rfl⟩:=r1;obtain⟨t',rfl⟩:=r2;exact iadd_int ⟨.int _,H,I.tok _,⟨_,rfl⟩,q⟩
def IY(c:TT)(tb:TS):TS:=λD σ H=>∃W:Nat->St->Hp->Prop,(∃m,W m σ H)/\∀m σ H,W m σ H ->
 c σ H λb H1=>if b=true then∃N:St->Hp->Prop,(∀k_ H',N k_ H'->∃m',m'<m/\W m' k_ H')/\tb { D with nx:=N,ct:=N,bk:=D.nx } σ H1 else D.nx σ H1
theorem Jn{c:Expr}{tc:TT}{tb:TS}(hp:PassesOwn (model X.prog X.w) X.A X.env X.xe)(hc:PT X c tc)(hb:HI X body tb):PS X (.While c body [] pos) (IY tc tb):=by
 intro pins s σ H D I h;obtain⟨W,⟨m0,w0⟩,turn⟩:=h;refine wpAny_While (codeAny_whileLoop (λn s'=>∃k_ H',Inv X pins k_ H' s'/\W n k_ H') ?_ m0 ⟨σ,H,I,w0⟩);rintro n s1 ⟨QD,H1,I1,w1⟩;refine acs hp (j9 (hc pins s1 QD H1 _ I1 (turn n QD H1 w1)) ?_);rintro b s2 ⟨H2,I2,q2⟩;cases b with
 |true=>
  obtain⟨N,hN,q2⟩:=q2;rw[aaY rfl];refine acs hp (j9 (hb pins s2 QD H2 _ I2 q2) λf s3 q3=>?_);cases f with
  |next=>
   obtain⟨IV,H3,I3,n3⟩:=q3;obtain⟨m',hm,w3⟩:=hN IV H3 n3;exact⟨m',hm,IV,H3,I3,w3⟩
  |cont=>
   obtain⟨IV,H3,I3,n3⟩:=q3;obtain⟨m',hm,w3⟩:=hN IV H3 n3;exact⟨m',hm,IV,H3,I3,w3⟩
  |brk=>exact q3
  |ret v=>exact q3
 |false=>
  rw[aaR aaQ];exact acT ⟨QD,H2,I2,q2⟩
end
structure It where
 go:Nat->Hp->Prop
 Iz:Nat->Hp->V->Hp->Prop
 stop:Nat->Hp->Prop
def qe(X:Cx)(pins:List (Addr×Obj))(H:Hp)(b:Addr):Prop:=
 H b=none/\b≠X.env.locals/\b∉X.fs/\(b∈X.ex\/X.s₀.heap.objs.size<=b)/\(∀x c,X.env.cells.lookup x=some c->c≠b)/\∀p∈X.pn++pins,p.1≠b
def Inv.Gb{X:Cx}{H':Hp}{b:Addr}(I:Inv X pins σ H s)(hb:s.heap.objs.size<=b)(hn:H' b=none):qe X pins H' b:=by
 refine⟨hn,adZ (aa1 I.lt hb),I.nofs hb,.inr (abg I.sz hb),λx c e z=>?_,λp hp z=>?_⟩
 ·obtain⟨v,q⟩:=I.cell x c e;exact absurd (aa1 q.lt (by rw[z];exact hb)) (abG _)
 ·exact absurd (aa1 (aaJ (I.pin p hp).1) (by rw[z];exact hb)) (abG _)
structure zd(P:Program)(w:World)(K:W.Frag)(tg:Expr)(J:It)(fp:List Addr)(it:Addr)(tn:Nat->Heap->Prop):Prop where
 mem:it∈fp
 obj:∀i h,tn i h->∀b∈fp,∃o,h.get? b=some o/\∀v,o.data≠.cell v
 keep:∀i h h',tn i h->(∀b∈fp,∀o,h.get? b=some o->h'.get? b=some o)->tn i h'
 item:∀(X:Cx),X.prog=P->X.w=w->X.K=K->X.calm=true->∀(i:Nat)(pins:List (Addr×Obj))(s:Shared)(σ:St)(H:Hp)(E:Value->Shared->Prop),Inv X pins σ H s->(∀b∈fp,qe X pins H b)->tn i s.heap->J.go i H ->
  wpAny (model P w) X.A (pyNext (.ref it)) (λr s1=>∃u,r=some u /\
   wpAny (model P w) X.A (letOwnedTupleGo tg (.ref it) u) (λ_ s2=>∃x H',Inv X pins σ H' s2/\RelV x u/\J.Iz i H x H'/\tn (i+1) s2.heap/\∀b∈fp,H' b=none) E s1) E s
 done:∀(X:Cx),X.prog=P->X.w=w->X.K=K->X.calm=true->∀(i:Nat)(pins:List (Addr×Obj))(s:Shared)(σ:St)(H:Hp)(E:Value->Shared->Prop),Inv X pins σ H s->(∀b∈fp,qe X pins H b)->tn i s.heap->J.stop i H ->
  wpAny (model P w) X.A (pyNext (.ref it)) (λr s1=>r=none/\Inv X pins σ H s1) E s
 self:∀(A:Around)(i:Nat)(s:Shared)(Q E:Value->Shared->Prop),tn i s.heap->Q (.ref it) s->wpAny (model P w) A (pyIter (.ref it)) Q E s
abbrev TI:=St->Hp->(It->Hp->Prop)->Prop
def PIE(X:Cx)(pins:List (Addr×Obj))(σ:St)(tg:Expr)(R:It->Hp->Prop)(SX:Value)(s2:Shared):Prop:=
 ∃(it:Addr)(fp:List Addr)(tn:Nat->Heap->Prop)(J:It)(H':Hp),SX=.ref it/\Inv X pins σ H' s2/\zd X.prog X.w X.K tg J fp it tn/\tn 0 s2.heap/\(∀b∈fp,qe X pins H' b)/\R J H'
def PI(X:Cx)(tg iter:Expr)(wi:TI):Prop:=
 ∀(pins:List (Addr×Obj))(s:Shared)(σ:St)(H:Hp)(R:It->Hp->Prop),Inv X pins σ H s->wi σ H R ->
  wpAny (model X.prog X.w) X.A (eval iter X.env) (λv s1=>wpAny (model X.prog X.w) X.A (pyIter v) (PIE X pins σ tg R) X.xe s1) X.xe s
def sX{n:String}{vs:Array Value}{Q:Unit->Shared->Prop}(ho:s.heap.get? it=some o)(hc:o.cls=.type n)(hd:o.data=.fields vs)(hn:["enumerate", "zip", "dict_itemiterator", "dict_reverseitemiterator", "odict_iterator", "itertools.zip_longest", "itertools.pairwise"].contains n=false)(hQ:Q () s):wpAny M A (letOwnedTupleGo tg (.ref it) u) Q E s:=by
 unfold letOwnedTupleGo;cases tg<;>first
  |exact aaE hQ
  |(cases u<;>first
   |exact aaE hQ
   |(refine aaC (wpAny_load ho ?_);rw[hc,hd];show wpAny M A (if(["enumerate", "zip", "dict_itemiterator", "dict_reverseitemiterator", "odict_iterator", "itertools.zip_longest", "itertools.pairwise"].contains n&&vs[0]? == some (rawInt _))=true then _ else _) Q E s;rw[aaR (by intro h;rw[hn,Bool.false_and]at h;cases h)];exact aaE hQ))
def HK(K:W.Frag)(a:Addr):It:=
 ⟨λi H=>∃xs x,d9 K H a xs/\xs[i]?=some x,λi H x H'=>H'=H/\∀xs,d9 K H a xs->xs[i]?=some x,λi H=>∃xs,d9 K H a xs/\xs.length<=i⟩
def IT(K:W.Frag)(a:Addr):It:=
 ⟨λi H=>∃xs x,b9 K H a xs/\xs[i]?=some x,λi H x H'=>H'=H/\∀xs,b9 K H a xs->xs[i]?=some x,λi H=>∃xs,b9 K H a xs/\xs.length<=i⟩
def Qy(lo:Int)(n:Nat):It:=⟨λi _=>i<n,λi H x H'=>H'=H/\x=.int (lo+i),λi _=>n<=i⟩
theorem qq(a it:Addr):zd P w K tg (HK K a) [it] it (λi h=>h.IsListIter it a i) where
 mem:=by simp
 obj:=λi h st b hb=>by
  have e:b=it:=by simpa using hb
  subst e;obtain⟨o,e,c,d⟩:=st;exact⟨o,e,λv z=>by rw[d]at z;cases z⟩
 keep:=λi h h' st k=>st.at λo e=>k it (by simp) o e
 item:=by intro X hP hw hK hc i pins s σ H E I hf st hg;subst hP hw hK;obtain⟨xs,x,hq,hx⟩:=hg;obtain⟨g8,rv,p,hz⟩:=I.list hq;obtain⟨u,hu,ru⟩:=rv.get hx;obtain⟨f0,f1,f2,f3,f4,f5⟩:=hf it (by simp);refine wpAny_pyNext_list_item st p.isList (x:=u) (by simpa using hu) λh' FC sb=>?_;have I1:Inv X pins σ H { s with heap:=h' }:=I.turned (t':=s.toks) (λb o hb e=>(sb.2 b hb).trans e) f0 f1 f3 f4 f5;obtain⟨o,e,c,d⟩:=id FC;exact⟨u,rfl,sX (s:={ s with heap:=h' }) e c d (by decide) ⟨x,H,I1,ru,⟨rfl,λys hy=>by rw[I.FV hy hq];exact hx⟩,FC,λb hb=>(hf b hb).1⟩⟩
 done:=by intro X hP hw hK hc i pins s σ H E I hf st hg;subst hP hw hK;obtain⟨xs,hq,hx⟩:=hg;obtain⟨g8,rv,p,hz⟩:=I.list hq;obtain⟨f0,f1,f2,f3,f4,f5⟩:=hf it (by simp);have hl:=rv.length;exact wpAny_pyNext_list_end (I.ok.hd hc) st p.isList (by simp;lia) λh' eb=>⟨rfl,I.turned (t':=s.toks) (λb o hb e=>eb b o hb e) f0 f1 f3 f4 f5⟩
 self:=λ_ _ _ _ _ st h=>wpAny_pyIter_listiter st h
theorem nP(a it:Addr):zd P w K tg (IT K a) [it] it (λi h=>h.IsTupleIter it a i) where
 mem:=by simp
 obj:=λi h st b hb=>by
  have e:b=it:=by simpa using hb
  subst e;obtain⟨o,e,c,d⟩:=st;exact⟨o,e,λv z=>by rw[d]at z;cases z⟩
 keep:=λi h h' st k=>st.at λo e=>k it (by simp) o e
 item:=by intro X hP hw hK hc i pins s σ H E I hf st hg;subst hP hw hK;obtain⟨xs,x,hq,hx⟩:=hg;obtain⟨g8,rv,p,hz⟩:=I.tuple hq;obtain⟨u,hu,ru⟩:=rv.get hx;obtain⟨f0,f1,f2,f3,f4,f5⟩:=hf it (by simp);refine wpAny_pyNext_tuple_item st (show s.heap.IsTuple a g8.toArray from p) (x:=u) (by simpa using hu) λh' FC sb=>?_;have I1:Inv X pins σ H { s with heap:=h' }:=I.turned (t':=s.toks) (λb o hb e=>(sb.2 b hb).trans e) f0 f1 f3 f4 f5;obtain⟨o,e,c,d⟩:=id FC;exact⟨u,rfl,sX (s:={ s with heap:=h' }) e c d (by decide) ⟨x,H,I1,ru,⟨rfl,λys hy=>by rw[I.E5 hy hq];exact hx⟩,FC,λb hb=>(hf b hb).1⟩⟩
 done:=by intro X hP hw hK hc i pins s σ H E I hf st hg;subst hP hw hK;obtain⟨xs,hq,hx⟩:=hg;obtain⟨g8,rv,p,hz⟩:=I.tuple hq;obtain⟨f0,f1,f2,f3,f4,f5⟩:=hf it (by simp);have hl:=rv.length;exact wpAny_pyNext_tuple_end (I.ok.hd hc) st (show s.heap.IsTuple a g8.toArray from p) (by simp;lia) λh' eb=>⟨rfl,I.turned (t':=s.toks) (λb o hb e=>eb b o hb e) f0 f1 f3 f4 f5⟩
 self:=λ_ _ _ _ _ st h=>wpAny_pyIter_tupleiter st h
theorem nQ(it:Addr)(lo:Int)(n:Nat):zd P w K tg (Qy lo n) [it] it (λi h=>IsRangeIter h it (lo+(i:Nat)*1) ((n:Int)-(i:Nat)) 1) where
 mem:=by simp
 obj:=λi h st b hb=>by
  have e:b=it:=by simpa using hb
  subst e;exact⟨_,st,λv z=>by
   have z':Data.fields _=Data.cell v:=z;cases z'⟩
 keep:=λi h h' st k=>k it (by simp) _ st
 item:=by intro X hP hw hK hc i pins s σ H E I hf st hg;subst hP hw hK;obtain⟨f0,f1,f2,f3,f4,f5⟩:=hf it (by simp);have W:=Walks.range (prog:=X.prog) (w:=X.w) (I.ok.hd hc) it lo 1 n;refine W.item i s _ _ hg st λv h' tk hv FC kk=>?_;obtain⟨t,rfl⟩:=hv;have I1:Inv X pins σ H { s with heap:=h',toks:=tk }:=I.turned (λb o hb e=>kk b o (by simpa using hb) e) f0 f1 f3 f4 f5;refine⟨_,rfl,sX (s:={ s with heap:=h',toks:=tk }) (n:="range_iterator") FC rfl rfl (by decide) ⟨.int (lo+i),H,I1,⟨t,?_⟩,⟨rfl,rfl⟩,FC,λb hb=>(hf b hb).1⟩⟩;rw[Int.mul_one]
 done:=by intro X hP hw hK hc i pins s σ H E I hf st hg;subst hP hw hK;obtain⟨f0,f1,f2,f3,f4,f5⟩:=hf it (by simp);exact wpAny_pyNext_range_end (I.ok.hd hc) st (by have:n<=i:=hg;lia) λh' eb=>⟨rfl,I.turned (t':=s.toks) (λb o hb e=>eb b o hb e) f0 f1 f3 f4 f5⟩
 self:=λ_ _ _ _ _ st h=>adF st h
variable{fp:List Addr}{l:Expr}{lo:Int}{tl:TE}
section
variable{X:Cx}{tg:Expr}
inductive xo(K:W.Frag)(R:It->Hp->Prop)(x:V)(H1:Hp):Prop
 |mk:∀a,x=.ref a->(∃xs,d9 K H1 a xs)->R (HK K a) H1->xo K R x H1
def Nd(K:W.Frag)(tl:TE):TI:=λσ H R=>tl σ H λx H1=>xo K R x H1
inductive Bm(K:W.Frag)(R:It->Hp->Prop)(x:V)(H1:Hp):Prop
 |mk:∀a,x=.ref a->(∃xs,b9 K H1 a xs)->R (IT K a) H1->Bm K R x H1
def SY(K:W.Frag)(tl:TE):TI:=λσ H R=>tl σ H λx H1=>Bm K R x H1
def LN(hl:PE X l tl):PI X tg l (Nd X.K tl):=by
 intro pins s σ H R I h;refine j9 (hl pins s σ H _ I h) ?_;rintro v s1 ⟨x,H1,I1,r1,q1⟩;obtain⟨a,e,⟨xs,hq⟩,q⟩:=q1;subst e;cases r1;obtain⟨g8,rv,p,hz⟩:=I1.list hq;refine wpAny_pyIter_list p.isList ?_;refine⟨s1.heap.objs.size,[s1.heap.objs.size],_,_,H1,rfl,I1.kept (t':=s1.toks) λb o e=>aaH _ e,qq a _,⟨_,aaT _ rfl,rfl,rfl⟩,λb hb=>?_,q⟩;have e:b=s1.heap.objs.size:=by simpa using hb
 subst e;exact I1.Gb (aaI _) (I1.i4.fresh (aaI _))
def OW(hl:PE X l tl):PI X tg l (SY X.K tl):=by
 intro pins s σ H R I h;refine j9 (hl pins s σ H _ I h) ?_;rintro v s1 ⟨x,H1,I1,r1,q1⟩;obtain⟨a,e,⟨xs,hq⟩,q⟩:=q1;subst e;cases r1;obtain⟨g8,rv,p,hz⟩:=I1.tuple hq;refine acV (show s1.heap.IsTuple a g8.toArray from p) ?_;refine⟨s1.heap.objs.size,[s1.heap.objs.size],_,_,H1,rfl,I1.kept (t':=s1.toks) λb o e=>aaH _ e,nP a _,⟨_,aaT _ rfl,rfl,rfl⟩,λb hb=>?_,q⟩;have e:b=s1.heap.objs.size:=by simpa using hb
 subst e;exact I1.Gb (aaI _) (I1.i4.fresh (aaI _))
theorem uG{R:It->Hp->Prop}{hi:Int}{t u v:Tok}{tk:Nat}(I:Inv X pins σ H s)(h1:-(2 ^ 62)<=lo)(h2:lo<2 ^ 62)(h3:-(2 ^ 62)<=hi)(h4:hi<2 ^ 62)(q:R (Qy lo (hi-lo).toNat) H):wpAny (model X.prog X.w) X.A (pyIter (.ref s.heap.objs.size)) (PIE X pins σ tg R) E { s with heap:=s.heap.push { cls:=.type "range",data:=.fields #[.int lo t,.int hi u,.int 1 v] },toks:=tk }:=by
 refine wpAny_pyIter_range (IsRange.new ..) (small_one h1 h2 h3 h4) ?_;have I1:Inv X pins σ H { s with heap:=s.heap.push { cls:=.type "range",data:=.fields #[.int lo t,.int hi u,.int 1 v] },toks:=tk }:=I.kept λb o e=>aaH _ e;refine⟨(s.heap.push { cls:=.type "range",data:=.fields #[.int lo t,.int hi u,.int 1 v] }).objs.size,[(s.heap.push { cls:=.type "range",data:=.fields #[.int lo t,.int hi u,.int 1 v] }).objs.size],_,_,H,rfl,
  I1.kept (t':=tk) λb o e=>aaH _ e,nQ _ lo (hi-lo).toNat,?_,λb hb=>?_,q⟩
 ·have e1:lo+((0:Nat):Int)*1=lo:=by simp
  have e2:(((hi-lo).toNat:Nat):Int)-((0:Nat):Int)=Builtin.Range.rangeSize lo hi 1:=by rw[rangeSize_one];split<;>lia
  show IsRangeIter _ _ (lo+((0:Nat):Int)*1) ((((hi-lo).toNat:Nat):Int)-((0:Nat):Int)) 1;rw[e1,e2];exact aaT _ rfl
 ·have e:b=(s.heap.push { cls:=.type "range",data:=.fields #[.int lo t,.int hi u,.int 1 v] }).objs.size:=by simpa using hb
  subst e;exact I1.Gb (aaI _) (I1.i4.fresh (aaI _))
def Nc(ta:TA):TI:=λσ H R=>ta σ H λvs H1=>∃j:Int,vs=[.int j]/\-(2 ^ 62)<=j/\j<2 ^ 62/\R (Qy 0 j.toNat) H1
theorem HW{a:Expr}{ta:TA}{p pos:Pos}(hg:Gl X "range")(hm:X.mg "range" = none)(ha:PA X [a] ta)(hs:starEach [a] X.env=[(false,eval a X.env)]):PI X tg (.Call (.Name "range" p) [a] [] pos) (Nc ta):=by
 intro pins s σ H R I h;refine Call_ (eh I hg hm boot_range (abH (j9 (ha pos pins s σ H _ I h) ?_) hs rfl));rintro us s1 ⟨vs,H1,I1,r1,q1⟩;obtain⟨j,e,q1,q2,q⟩:=q1;subst e;cases r1 with
 |cons r rr=>
  cases rr;obtain⟨t,rfl⟩:=r;exact call_range_1 (uG I1 (by lia) (by lia) q1 q2 (by simpa using q))
def RL(wi:TI)(g:TG)(tb:TS):TS:=λD σ H=>wi σ H λJ H1=>∃W:Nat->Nat->St->Hp->Prop,(∃m,W 0 m σ H1)/\∀i m σ H,W i m σ H ->
 (J.stop i H/\D.nx σ H)\/(J.go i H/\∃N:St->Hp->Prop,(∀k_ H',N k_ H'->∃m',m'<m/\W (i+1) m' k_ H')/\∀x H',J.Iz i H x H'->g x σ H' λDu H2=>tb { D with nx:=N,ct:=N,bk:=D.nx } Du H2)
noncomputable def gr(fp:List Addr)(h:Heap):List (Addr×Obj):=fp.filterMap λb=>(h.get? b).map λo=>(b,o)
def bV{b:Addr}(hb:b∈fp)(e:h.get? b=some o):(b,o)∈gr fp h:=List.mem_filterMap.mpr ⟨b,hb,by rw[e];rfl⟩
theorem rZ{p:Addr×Obj}(hp:p∈gr fp h):p.1∈fp/\h.get? p.1=some p.2:=by
 obtain⟨b,hb,e⟩:=List.mem_filterMap.mp hp;cases q:h.get? b with
 |none=>rw[q]at e;cases e
 |some o=>
  rw[q]at e;have e':(b,o)=p:=aa0 e;subst e';exact⟨hb,q⟩
def Inv.pinned(I:Inv X pins σ H s)(hf:∀b∈fp,qe X pins H b)(ho:∀b∈fp,∃o,s.heap.get? b=some o/\∀v,o.data≠.cell v):Inv X (pins++gr fp s.heap) σ H s:=
 I.Fq λp hp=>(List.mem_append.mp hp).elim (λz=>I.pin p (aaV _ z)) λz=>by obtain⟨hb,e⟩:=rZ z;obtain⟨f0,f1,f2,_⟩:=hf p.1 hb;obtain⟨o,e',d⟩:=ho p.1 hb;rw[e]at e';cases e';exact⟨e,f0,f1,f2,d⟩
def Inv.A0{pl:List (Addr×Obj)}(I:Inv X (pins++pl) σ H s):Inv X pins σ H s:=I.Fq λp hp=>I.pin p (aaV _ (abe _ hp))
def OU{iter:Expr}{wi:TI}{g:TG}{tb:TS}{pos:Pos}(hp:PassesOwn (model X.prog X.w) X.A X.env X.xe)(hc:X.calm=true)(hi:PI X tg iter wi)(hg:PG X tg g)(hb:HI X body tb)(hs:∀x,foldedSetIterable iter X.env x=pure x):PS X (.For tg iter body [] pos) (RL wi g tb):=by
 intro pins s σ H D I h;refine wpAny_For (j9 (hi pins s σ H _ I h) λv s1 h1=>j9 h1 λSX s2 h2=>?_) hs;obtain⟨it,fp,tn,J,H2,e,I2,T,Lc,f2,W,⟨m0,w0⟩,turn⟩:=h2;subst e;have OK:∀{H':Hp},(∀b∈fp,H' b=none)->∀b∈fp,qe X pins H' b:=λhn b hb=>⟨hn b hb,(f2 b hb).2⟩
 refine codeAny_forLoop_any (λn s'=>∃i k_ H',Inv X pins k_ H' s'/\tn i s'.heap/\(∀b∈fp,H' b=none)/\W i n k_ H') ?_ m0 ⟨0,σ,H2,I2,Lc,λb hb=>(f2 b hb).1,w0⟩;rintro n s3 ⟨i,IV,H3,I3,Ja,JT,w3⟩;rcases turn i n IV H3 w3 with⟨stop,qn⟩|⟨go,N,hN,step⟩
 ·refine acs hp (j9 (T.done X rfl rfl rfl hc i pins s3 IV H3 X.xe I3 (OK JT) Ja stop) ?_);rintro r s4 ⟨hr,I4⟩;subst hr;exact acT ⟨IV,H3,I4,qn⟩
 ·refine acs hp (j9 (T.item X rfl rfl rfl hc i pins s3 IV H3 X.xe I3 (OK JT) Ja go) ?_);rintro r s4 ⟨u,hr,h4⟩;subst hr;refine acs hp (j9 h4 ?_);rintro _ s5 ⟨x,H5,I5,r5,y5,GI,Qk⟩;have Qz:=I5.pinned (OK Qk) (T.obj _ _ GI);refine acs hp (j9 (hg _ s5 IV H5 x u _ Qz r5 (step x H5 y5)) ?_);rintro _ s6 ⟨Iy,H6,I6,q6⟩;refine acs hp (j9 (hb _ s6 Iy H6 _ I6 q6) λf s7 q7=>?_);have again:∀{HR:St}{H7:Hp},Inv X (pins++gr fp s5.heap) HR H7 s7->N HR H7->∃m,m<n/\∃i k_ H',Inv X pins k_ H' s7/\tn i s7.heap/\(∀b∈fp,H' b=none)/\W i m k_ H':=λ{HR H7} I7 n7=>by
   obtain⟨m',hm,w7⟩:=hN HR H7 n7;refine⟨m',hm,i+1,HR,H7,I7.A0,T.keep _ _ _ GI λb hb o e=>(I7.pin (b,o) (aaV _ (aaV _ (bV hb e)))).1,λb hb=>?_,w7⟩;obtain⟨o,e,d⟩:=T.obj _ _ GI b hb;exact(I7.pin (b,o) (aaV _ (aaV _ (bV hb e)))).2.1
  cases f with
  |next=>obtain⟨HR,H7,I7,n7⟩:=q7;exact again I7 n7
  |cont=>obtain⟨HR,H7,I7,n7⟩:=q7;exact again I7 n7
  |brk=>obtain⟨HR,H7,I7,q7⟩:=q7;exact⟨HR,H7,I7.A0,q7⟩
  |ret v=>obtain⟨x7,HR,H7,I7,r7,q7⟩:=q7;exact⟨x7,HR,H7,I7.A0,r7,q7⟩
end
variable{D:gR}
theorem cE{a:Addr}{g:TG}{tb:TS}(Pv:Nat->St->Hp->Prop)(h0:Pv 0 σ H)(hl:∀i σ H,i<=xs.length->Pv i σ H->d9 K H a xs)(hs:∀i x σ H,xs[i]?=some x->Pv i σ H->g x σ H λDu H2=>tb { D with nx:=Pv (i+1),ct:=Pv (i+1),bk:=D.nx } Du H2)(hd:∀σ H,Pv xs.length σ H->D.nx σ H):
 ∃W:Nat->Nat->St->Hp->Prop,(∃m,W 0 m σ H)/\∀i m σ H,W i m σ H ->
  ((HK K a).stop i H/\D.nx σ H)\/((HK K a).go i H/\∃N:St->Hp->Prop,(∀k_ H',N k_ H'->∃m',m'<m/\W (i+1) m' k_ H')/\∀x H',(HK K a).Iz i H x H'->g x σ H' λDu H2=>tb { D with nx:=N,ct:=N,bk:=D.nx } Du H2):=by
 refine⟨λi m σ H=>m=xs.length-i/\i<=xs.length/\Pv i σ H,⟨xs.length,by simp,aa3 _,h0⟩,?_⟩;rintro i m σ H ⟨rfl,hi,p⟩;have q:=hl i σ H hi p;by_cases o9:i<xs.length
 ·refine .inr ⟨⟨xs,xs[i],q,by simp[o9]⟩,Pv (i+1),λk_ H' p'=>⟨xs.length-(i+1),by lia,rfl,o9,p'⟩,λx H' y=>?_⟩;obtain⟨e,y⟩:=y;subst e;exact hs i x σ _ (y xs q) p
 ·have e:i=xs.length:=by lia
  subst e;exact .inl ⟨⟨xs,q,aaI _⟩,hd σ H p⟩
theorem fk{a:Addr}{g:TG}{tb:TS}(Pv:Nat->St->Hp->Prop)(h0:Pv 0 σ H)(hl:∀i σ H,i<=xs.length->Pv i σ H->b9 K H a xs)(hs:∀i x σ H,xs[i]?=some x->Pv i σ H->g x σ H λDu H2=>tb { D with nx:=Pv (i+1),ct:=Pv (i+1),bk:=D.nx } Du H2)(hd:∀σ H,Pv xs.length σ H->D.nx σ H):
 ∃W:Nat->Nat->St->Hp->Prop,(∃m,W 0 m σ H)/\∀i m σ H,W i m σ H ->
  ((IT K a).stop i H/\D.nx σ H)\/((IT K a).go i H/\∃N:St->Hp->Prop,(∀k_ H',N k_ H'->∃m',m'<m/\W (i+1) m' k_ H')/\∀x H',(IT K a).Iz i H x H'->g x σ H' λDu H2=>tb { D with nx:=N,ct:=N,bk:=D.nx } Du H2):=by
 refine⟨λi m σ H=>m=xs.length-i/\i<=xs.length/\Pv i σ H,⟨xs.length,by simp,aa3 _,h0⟩,?_⟩;rintro i m σ H ⟨rfl,hi,p⟩;have q:=hl i σ H hi p;by_cases o9:i<xs.length
 ·refine .inr ⟨⟨xs,xs[i],q,by simp[o9]⟩,Pv (i+1),λk_ H' p'=>⟨xs.length-(i+1),by lia,rfl,o9,p'⟩,λx H' y=>?_⟩;obtain⟨e,y⟩:=y;subst e;exact hs i x σ _ (y xs q) p
 ·have e:i=xs.length:=by lia
  subst e;exact .inl ⟨⟨xs,q,aaI _⟩,hd σ H p⟩
theorem bN{g:TG}{tb:TS}(Pv:Nat->St->Hp->Prop)(h0:Pv 0 σ H)(hs:∀i σ H,i<n->Pv i σ H->g (.int (lo+i)) σ H λDu H2=>tb { D with nx:=Pv (i+1),ct:=Pv (i+1),bk:=D.nx } Du H2)(hd:∀σ H,Pv n σ H->D.nx σ H):
 ∃W:Nat->Nat->St->Hp->Prop,(∃m,W 0 m σ H)/\∀i m σ H,W i m σ H ->
  ((Qy lo n).stop i H/\D.nx σ H)\/((Qy lo n).go i H/\∃N:St->Hp->Prop,(∀k_ H',N k_ H'->∃m',m'<m/\W (i+1) m' k_ H')/\∀x H',(Qy lo n).Iz i H x H'->g x σ H' λDu H2=>tb { D with nx:=N,ct:=N,bk:=D.nx } Du H2):=by
 refine⟨λi m σ H=>m=n-i/\i<=n/\Pv i σ H,⟨n,by simp,aa3 _,h0⟩,?_⟩;rintro i m σ H ⟨rfl,hi,p⟩;by_cases o9:i<n
 ·refine .inr ⟨o9,Pv (i+1),λk_ H' p'=>⟨n-(i+1),by lia,rfl,o9,p'⟩,λx H' y=>?_⟩;obtain⟨e,y⟩:=y;subst e y;exact hs i σ _ o9 p
 ·have e:i=n:=by lia
  subst e;exact .inl ⟨aaI _,hd σ H p⟩
abbrev R2:=V->V->Hp->VK->Prop
def B8(X:Cx)(f:Value->Value->Sem Value)(r:R2):Prop:=
 ∀(pins:List (Addr×Obj))(s:Shared)(σ:St)(H:Hp)(x y:V)(v u:Value)(Q:VK),Inv X pins σ H s->RelV x v->RelV y u->r x y H Q ->
  wpAny (model X.prog X.w) X.A (f v u) (EP X pins σ Q) X.xe s
def Yk(X:Cx)(f:Value->Sem Value)(r:V->Hp->VK->Prop):Prop:=
 ∀(pins:List (Addr×Obj))(s:Shared)(σ:St)(H:Hp)(x:V)(v:Value)(Q:VK),Inv X pins σ H s->RelV x v->r x H Q ->
  wpAny (model X.prog X.w) X.A (f v) (EP X pins σ Q) X.xe s
def eg(X:Cx)(f:Value)(r:List V->Hp->VK->Prop):Prop:=
 ∀(pins:List (Addr×Obj))(s:Shared)(σ:St)(H:Hp)(xs:List V)(us:List Value)(Q:VK),Inv X pins σ H s->Vals xs us->r xs H Q ->
  wpAny (model X.prog X.w) X.A (call f us) (EP X pins σ Q) X.xe s
def Df(X:Cx)(r:V->Hp->(Bool->Hp->Prop)->Prop):Prop:=
 ∀(pins:List (Addr×Obj))(s:Shared)(σ:St)(H:Hp)(x:V)(v:Value)(Q:Bool->Hp->Prop),Inv X pins σ H s->RelV x v->r x H Q ->
  wpAny (model X.prog X.w) X.A (truthy v) (TP X pins σ Q) X.xe s
def MH(r:R2)(ta tb:TE):TE:=λσ H Q=>ta σ H λx H1=>tb σ H1 λy H2=>r x y H2 Q
def tUn(r:V->Hp->VK->Prop)(ta:TE):TE:=λσ H Q=>ta σ H λx H1=>r x H1 Q
inductive rI(C:Int->Int->Prop)(g:Int->Int->V)(x y:V)(H:Hp)(Q:VK):Prop
 |mk:∀i j,x=.int i->y=.int j->C i j->Q (g i j) H->rI C g x y H Q
inductive MO(g:Int->Int->V)(x y:V)(H:Hp)(Q:VK):Prop
 |mk:∀i j,x=.int i->y=.int j->Q (g i j) H->MO g x y H Q
inductive rU(g:Int->V)(x:V)(H:Hp)(Q:VK):Prop
 |mk:∀i,x=.int i->Q (g i) H->rU g x H Q
variable{X:Cx}{a b c:Expr}{ta tb tc:TE}{pos:Pos}
variable{f:Value->Value->Sem Value}
def Ch(ha:PE X a ta)(hb:PE X b tb){R:V->V->Hp->Prop}(I:Inv X pins σ H s)(h:ta σ H λx H1=>tb σ H1 λy H2=>R x y H2)(hf:∀v u s2 x y H2,Inv X pins σ H2 s2->RelV x v->RelV y u->R x y H2->wpAny (model X.prog X.w) X.A (f v u) Q X.xe s2):
 wpAny (model X.prog X.w) X.A (eval a X.env) (λv i8=>wpAny (model X.prog X.w) X.A (eval b X.env) (λu DM=>wpAny (model X.prog X.w) X.A (f v u) Q X.xe DM) X.xe i8) X.xe s:=by
 refine j9 (ha pins s σ H _ I h) ?_;rintro v s1 ⟨x,H1,I1,r1,q1⟩;refine j9 (hb pins s1 σ H1 _ I1 q1) ?_;rintro u s2 ⟨y,H2,I2,r2,q2⟩;exact hf v u s2 x y H2 I2 r1 r2 q2
variable{r:R2}
def R5{op:Operator}(ho:B8 X (binaryOp op) r)(ha:PE X a ta)(hb:PE X b tb):PE X (.BinOp a op b pos) (MH r ta tb):=by intro pins s σ H Q I h;exact wpAny_BinOp (Ch ha hb I h λv u s2 x y H2 I2 rx ry q=>ho pins s2 σ H2 x y v u Q I2 rx ry q)
def R4{op:UnaryOp}{r:V->Hp->VK->Prop}(ho:Yk X (unaryOp op) r)(ha:PE X a ta):PE X (.UnaryOp op a pos) (tUn r ta):=by intro pins s σ H Q I h;exact UnaryOp_ (j9 (ha pins s σ H _ I h) λv s1 ⟨x,H1,I1,r1,q1⟩=>ho pins s1 σ H1 x v Q I1 r1 q1)
variable{g:Int->Int->Int}
def W9{C:Int->Int->Prop}(rule:∀(i j:Int) (t u:Tok) (s:Shared) (Q:Value->Shared->Prop) (E:Value->Shared->Prop),C i j->Q (.int (g i j) s.toks) { s with toks:=s.toks+1 }->wpAny (model X.prog X.w) X.A (f (.int i t) (.int j u)) Q E s):
 B8 X f (rI C λi j=>.int (g i j)):=by
 intro pins s σ H x y v u Q I rx ry h;obtain⟨i,j,rfl,rfl,hc,q⟩:=h;obtain⟨t,rfl⟩:=rx;obtain⟨t',rfl⟩:=ry;exact rule i j t t' s _ _ hc ⟨.int (g i j),H,I.tok _,⟨_,rfl⟩,q⟩
def CC(rule:∀(i j:Int) (t u:Tok) (s:Shared) (Q:Value->Shared->Prop) (E:Value->Shared->Prop),Q (.int (g i j) s.toks) { s with toks:=s.toks+1 }->wpAny (model X.prog X.w) X.A (f (.int i t) (.int j u)) Q E s):
 B8 X f (MO λi j=>.int (g i j)):=by
 intro pins s σ H x y v u Q I rx ry h;obtain⟨i,j,rfl,rfl,q⟩:=h;obtain⟨t,rfl⟩:=rx;obtain⟨t',rfl⟩:=ry;exact rule i j t t' s _ _ ⟨.int (g i j),H,I.tok _,⟨_,rfl⟩,q⟩
def BX{g:Int->Int->Bool}(rule:∀(i j:Int) (t u:Tok) (s:Shared) (Q:Value->Shared->Prop) (E:Value->Shared->Prop),Q (.bool (g i j)) s->wpAny (model X.prog X.w) X.A (f (.int i t) (.int j u)) Q E s):
 B8 X f (MO λi j=>.bl (g i j)):=by
 intro pins s σ H x y v u Q I rx ry h;obtain⟨i,j,rfl,rfl,q⟩:=h;obtain⟨t,rfl⟩:=rx;obtain⟨t',rfl⟩:=ry;exact rule i j t t' s _ _ ⟨.bl (g i j),H,I,rfl,q⟩
def Dj(i j:Int):Prop:=0<j/\j<1073741824
def Di(i j:Int):Prop:=0<=j/\j<=1000000/\i.natAbs<2 ^ 64
def QC(i j:Int):Prop:=(-(2 ^ 64)<i/\i<2 ^ 64)\/(-(2 ^ 64)<j/\j<2 ^ 64)
def QC.ok{i j:Int}(h:QC i j):IntMulOk i j:=by
 rcases h with⟨h1,h2⟩|⟨h1,h2⟩
 ·exact .of_left (intBits_le_64 h1 h2)
 ·exact .of_right (intBits_le_64 h1 h2)
def bJ:B8 X (binaryOp .Add) (MO λi j=>.int (i+j)):=CC λ_ _ _ _ _ _ _ q=>add_int q
def dm:B8 X (binaryOp .Sub) (MO λi j=>.int (i-j)):=CC λ_ _ _ _ _ _ _ q=>sub_int q
def dE:B8 X (binaryOp .Mult) (rI QC λi j=>.int (i*j)):=W9 λ_ _ _ _ _ _ _ hc q=>mul_int q hc.ok
theorem aU:B8 X (binaryOp .FloorDiv) (rI Dj λi j=>.int (i / j)):=W9 λi j _ _ _ _ _ hc q=>by have h1:(0:Int)<j:=hc.1;have h2:j<1073741824:=hc.2;exact floordiv_int (by lia) (by rw[Int.fdiv_eq_ediv_of_nonneg i (by lia)];exact q) (.inl (PyProof.noPylong_small (by lia)))
theorem aN:B8 X (binaryOp .Mod) (rI (λ_ j=>0<j) λi j=>.int (i%j)):=W9 λi j _ _ _ _ _ hc q=>by have h1:(0:Int)<j:=hc;exact mod_int' (by lia) (by rw[Int.fmod_eq_emod_of_nonneg i (by lia)];exact q)
def rP:B8 X (binaryOp .Pow) (rI Di λi j=>.int (i ^ j.toNat)):=W9 λ_ _ _ _ _ _ _ hc q=>pow_int_small hc.1 hc.2.1 hc.2.2 q
def unI{f:Value->Sem Value}{g:Int->Int}(rule:∀(i:Int) (t:Tok) (s:Shared) (Q:Value->Shared->Prop) (E:Value->Shared->Prop),Q (.int (g i) s.toks) { s with toks:=s.toks+1 }->wpAny (model X.prog X.w) X.A (f (.int i t)) Q E s):
 Yk X f (rU λi=>.int (g i)):=by
 intro pins s σ H x v Q I rx h;obtain⟨i,rfl,q⟩:=h;obtain⟨t,rfl⟩:=rx;exact rule i t s _ _ ⟨.int (g i),H,I.tok _,⟨_,rfl⟩,q⟩
def qo:Yk X (unaryOp .USub) (rU λi=>.int (-i)):=unI λ_ _ _ _ _ q=>neg_int q
noncomputable def Cu:V->V->Bool
 |.q8,.q8=>true|.q8,.int _=>true|.int _,.q8=>true|.q8,.bl _=>true|.bl _,.q8=>true|.q8,.str _=>true|.str _,.q8=>true
 |.int _,.int _=>true|.bl _,.bl _=>true|.str _,.str _=>true|.Hf _,.Hf _=>true
 |.int _,.str _=>true|.str _,.int _=>true|.bl _,.str _=>true|.str _,.bl _=>true
 |_,_=>false
noncomputable def rEq:R2:=λx y H Q=>Cu x y=true/\Q (.bl (decide (x=y))) H
noncomputable def rNe:R2:=λx y H Q=>Cu x y=true/\Q (.bl (!decide (x=y))) H
def tR{i j:Int}:decide (V.int i=V.int j)=(i == j):=by rw[ady];simp
def wZ{i j:Bool}:decide (V.bl i=V.bl j)=(i == j):=by rw[ady];simp
def tQ{i j:Str}:decide (V.str i=V.str j)=(i == j):=by rw[ady];simp
def tS{i j:Array UInt8}:decide (V.Hf i=V.Hf j)=(i.toList == j.toList):=by rw[ady];cases i;cases j;simp
def bi{Q:VK}{k k':Bool}(I:Inv X pins σ H s)(q:Q (.bl k) H)(e:k=k'):EP X pins σ Q (.bool k') s:=by subst e;exact⟨.bl k,H,I,rfl,q⟩
theorem bS:B8 X (compareOp .Eq) rEq:=by
 intro pins s σ H x y v u Q I rx ry h;obtain⟨hs,q⟩:=h;cases x with
 |q8=>
  cases rx;cases y with
  |q8=>cases ry;exact PySem.EqNone.eq_none_none (bi I q (by simp))
  |bl j=>cases ry;exact PySem.EqNone.eq_none_bool (bi I q (by simp))
  |int j=>obtain⟨t',rfl⟩:=ry;exact PySem.EqNone.eq_none_int (bi I q (by simp))
  |str j=>obtain⟨t',rfl⟩:=ry;exact PySem.EqNone.eq_none_str (bi I q (by simp))
  |_=>exact absurd (show false=true from hs) aaQ
 |bl i=>
  cases rx;cases y with
  |q8=>cases ry;exact PySem.EqNone.eq_bool_none (bi I q (by simp))
  |bl j=>cases ry;exact eq_bool (bi I q wZ)
  |str j=>obtain⟨t',rfl⟩:=ry;exact PySem.EqMixed.eq_bool_str (bi I q (by simp))
  |_=>exact absurd (show false=true from hs) aaQ
 |int i=>
  obtain⟨t,rfl⟩:=rx;cases y with
  |q8=>cases ry;exact PySem.EqNone.eq_int_none (bi I q (by simp))
  |int j=>obtain⟨t',rfl⟩:=ry;exact eq_int (bi I q tR)
  |str j=>obtain⟨t',rfl⟩:=ry;exact PySem.EqMixed.eq_int_str (bi I q (by simp))
  |_=>exact absurd (show false=true from hs) aaQ
 |str i=>
  obtain⟨t,rfl⟩:=rx;cases y with
  |q8=>cases ry;exact PySem.EqNone.eq_str_none (bi I q (by simp))
  |bl j=>cases ry;exact PySem.EqMixed.eq_str_bool (bi I q (by simp))
  |int j=>obtain⟨t',rfl⟩:=ry;exact PySem.EqMixed.eq_str_int (bi I q (by simp))
  |str j=>obtain⟨t',rfl⟩:=ry;exact eq_str (bi I q tQ)
  |_=>exact absurd (show false=true from hs) aaQ
 |Hf i=>
  obtain⟨t,rfl⟩:=rx;cases y with
  |Hf j=>obtain⟨t',rfl⟩:=ry;exact PySem.W.eq_bytes (bi I q tS)
  |_=>exact absurd (show false=true from hs) aaQ
 |_=>cases y<;>exact absurd (show false=true from hs) aaQ
theorem xX:B8 X (compareOp .NotEq) rNe:=by
 intro pins s σ H x y v u Q I rx ry h;obtain⟨hs,q⟩:=h;cases x with
 |q8=>
  cases rx;cases y with
  |q8=>cases ry;exact PySem.EqNone.ne_none_none (bi I q (by simp))
  |bl j=>cases ry;exact PySem.EqNone.ne_none_bool (bi I q (by simp))
  |int j=>obtain⟨t',rfl⟩:=ry;exact PySem.EqNone.ne_none_int (bi I q (by simp))
  |str j=>obtain⟨t',rfl⟩:=ry;exact PySem.EqNone.ne_none_str (bi I q (by simp))
  |_=>exact absurd (show false=true from hs) aaQ
 |bl i=>
  cases rx;cases y with
  |q8=>cases ry;exact PySem.EqNone.ne_bool_none (bi I q (by simp))
  |bl j=>cases ry;exact ne_bool (bi I q (abk not wZ))
  |str j=>obtain⟨t',rfl⟩:=ry;exact PySem.EqMixed.ne_bool_str (bi I q (by simp))
  |_=>exact absurd (show false=true from hs) aaQ
 |int i=>
  obtain⟨t,rfl⟩:=rx;cases y with
  |q8=>cases ry;exact PySem.EqNone.ne_int_none (bi I q (by simp))
  |int j=>obtain⟨t',rfl⟩:=ry;exact ne_int (bi I q (abk not tR))
  |str j=>obtain⟨t',rfl⟩:=ry;exact PySem.EqMixed.ne_int_str (bi I q (by simp))
  |_=>exact absurd (show false=true from hs) aaQ
 |str i=>
  obtain⟨t,rfl⟩:=rx;cases y with
  |q8=>cases ry;exact PySem.EqNone.ne_str_none (bi I q (by simp))
  |bl j=>cases ry;exact PySem.EqMixed.ne_str_bool (bi I q (by simp))
  |int j=>obtain⟨t',rfl⟩:=ry;exact PySem.EqMixed.ne_str_int (bi I q (by simp))
  |str j=>obtain⟨t',rfl⟩:=ry;exact ne_str (bi I q (abk not tQ))
  |_=>exact absurd (show false=true from hs) aaQ
 |Hf i=>
  obtain⟨t,rfl⟩:=rx;cases y with
  |Hf j=>obtain⟨t',rfl⟩:=ry;exact PySem.W.ne_bytes (bi I q (abk not tS))
  |_=>exact absurd (show false=true from hs) aaQ
 |_=>cases y<;>exact absurd (show false=true from hs) aaQ
def AF:B8 X (compareOp .Lt) (MO λi j=>.bl (decide (i<j))):=BX λ_ _ _ _ _ _ _ q=>lt_int q
def AG:B8 X (compareOp .LtE) (MO λi j=>.bl (decide (i<=j))):=BX λ_ _ _ _ _ _ _ q=>le_int q
def BW:B8 X (compareOp .Gt) (MO λi j=>.bl (decide (j<i))):=BX λ_ _ _ _ _ _ _ q=>gt_int q
def aS(b:Expr){op:CmpOp}(h:autoParam (op≠.In) ξ)(h2:autoParam (op≠.NotIn) ξ):behindInMarks op b=false:=by
 have e1:(op == CmpOp.In)=false:=by cases op<;>first|rfl|exact absurd rfl h
 have e2:(op == CmpOp.NotIn)=false:=by cases op<;>first|rfl|exact absurd rfl h2
 cases b<;>simp[behindInMarks,e1,e2]
def LS{op:CmpOp}(ho:B8 X (compareOp op) r)(ha:PE X a ta)(hb:PE X b tb)(hm:behindInMarks op b=false):PE X (.Compare a [op] [b] pos) (MH r ta tb):=by intro pins s σ H Q I h;exact wpAny_Compare1 (Ch ha hb I h λv u s2 x y H2 I2 rx ry q=>ho pins s2 σ H2 x y v u Q I2 rx ry q) hm
inductive xc(Q:Bool->Hp->Prop)(x:V)(H':Hp):Prop
 |mk:∀k,x=.bl k->Q k H'->xc Q x H'
def Hk(t:TE):TT:=λσ H Q=>t σ H λx H'=>xc Q x H'
def LC{op:CmpOp}(ho:B8 X (compareOp op) r)(ha:PE X a ta)(hb:PE X b tb)(hm:behindInMarks op b=false):PT X (.Compare a [op] [b] pos) (Hk (MH r ta tb)):=by
 intro pins s σ H Q I h;refine wpAny_isTrue_Compare1 (j9 (ha pins s σ H _ I h) λv s1 ⟨x,H1,I1,r1,q1⟩=>j9 (hb pins s1 σ H1 _ I1 q1) λu s2 ⟨y,H2,I2,r2,q2⟩=>
  j9 (ho pins s2 σ H2 x y v u _ I2 r1 r2 q2) λc s3 ⟨z,H3,I3,r3,k,e,q3⟩=>?_) hm
 subst e;cases r3;exact abS ⟨H3,I3,q3⟩
def I_(r r':R2)(ta tb tc:TE):TE:=λσ H Q=>ta σ H λx H1=>tb σ H1 λy H2=>r x y H2 λz H3=>∃k,z=.bl k /\
 (if k=true then tc σ H3 λw' H4=>r' y w' H4 Q else Q (.bl false) H3)
theorem Jl{op O_:CmpOp}{r':R2}(ho:B8 X (compareOp op) r)(FX:B8 X (compareOp O_) r')(ha:PE X a ta)(hb:PE X b tb)(hc:PE X c tc)(hm:lastMarks [op,O_] [b,c]=false):PT X (.Compare a [op,O_] [b,c] pos) (Hk (I_ r r' ta tb tc)):=by
 intro pins s σ H Q I h;refine isTrue_chain (j9 (ha pins s σ H _ I h) λv s1 ⟨x,H1,I1,r1,q1⟩=>test_link (j9 (hb pins s1 σ H1 _ I1 q1) λu s2 ⟨y,H2,I2,r2,q2⟩=>
  j9 (ho pins s2 σ H2 x y v u _ I2 r1 r2 q2) λd s3 ⟨z,H3,I3,r3,k,e,q3⟩=>?_)) hm
 subst e;cases r3;refine abS ?_;cases k with
 |false=>
  obtain⟨k',e',q'⟩:=q3;cases e';exact ite_ff ⟨H3,I3,q'⟩
 |true=>
  refine ite_tt (test_last (j9 (hc pins s3 σ H3 _ I3 q3) λw' s4 ⟨z',H4,I4,r4,q4⟩=>j9 (FX pins s4 σ H4 y z' u w' _ I4 r2 r4 q4) λd' s5 ⟨z2,H5,I5,r5,k2,e2,q5⟩=>?_));subst e2;cases r5;exact abS ⟨H5,I5,q5⟩
def Ck(K:W.Frag)(x:V)(H:Hp)(k:Bool):Prop:=
 match x with
 |.q8=>k=false
 |.bl b=>k=b
 |.int i=>k=(i != 0)
 |.str y=>y.length<=sizeLine/\k=((y.length:Int) != 0)
 |.Hf y=>y.size<=sizeLine/\k=((y.size:Int) != 0)
 |.ref p=>(∃xs,d9 K H p xs/\k=!xs.isEmpty)\/(∃xs,b9 K H p xs/\k=!xs.isEmpty)\/∃e_,H p=some (.dK e_)/\k=!e_.isEmpty
 |_=>False
def pP{e_:List (κ×V)}{vs:List (κ×Value)}(r:KV e_ vs):(!vs.isEmpty)=!e_.isEmpty:=by cases r<;>rfl
def iq{g8:List Value}(r:Vals xs g8):(!g8.toArray.isEmpty)=!xs.isEmpty:=by cases r<;>simp
def io:(sizeLine:Nat)<2 ^ 63:=by rw[adv];decide
theorem zw:Df X (λx H Q=>∃k,Ck X.K x H k/\Q k H):=by
 intro pins s σ H x v Q I rx h;obtain⟨k,e,q⟩:=h;have hl:=io;have hs:sizeLine=16777216:=adv;cases x with
 |q8=>
  cases rx;have e':k=false:=e;subst e';exact truthy_none ⟨H,I,q⟩
 |bl b=>
  cases rx;have e':k=b:=e;subst e';exact abS ⟨H,I,q⟩
 |int i=>
  obtain⟨t,rfl⟩:=rx;have e':k=(i != 0):=e;subst e';exact PySem.P.truthy_int ⟨H,I,q⟩
 |str y=>
  obtain⟨t,rfl⟩:=rx;obtain⟨hy,e'⟩:y.length<=sizeLine/\k=((y.length:Int) != 0):=e;subst e';exact PySem.P.truthy_str (by lia) ⟨H,I.tok _,q⟩
 |Hf y=>
  obtain⟨t,rfl⟩:=rx;obtain⟨hy,e'⟩:y.size<=sizeLine/\k=((y.size:Int) != 0):=e;subst e';exact PySem.W.truthy_bytes (by lia) ⟨H,I.tok _,q⟩
 |ref p=>
  cases rx;have e':(∃xs,d9 X.K H p xs/\k=!xs.isEmpty)\/(∃xs,b9 X.K H p xs/\k=!xs.isEmpty)\/∃e_,H p=some (.dK e_)/\k=!e_.isEmpty:=e;rcases e' with⟨xs,hx,e'⟩|⟨xs,hx,e'⟩|⟨e_,hx,e'⟩
  ·subst e';obtain⟨g8,r,pl,hz⟩:=I.list hx;have hlen:=r.length;exact wpAny_truthy_list pl.isList (by simp only[aaP];lia) ⟨H,I.tok _,by rw[iq r];exact q⟩
  ·subst e';obtain⟨g8,r,pl,hz⟩:=I.tuple hx;have hlen:=r.length;exact truthy_tuple pl (by simp only[aaP];lia) ⟨H,I.tok _,by rw[iq r];exact q⟩
  ·subst e';obtain⟨hz,hS,vs,r,m⟩:e_.length<=sizeLine/\(p == sysModules)=false/\∃vs,KV e_ vs/\s.heap.DictOf (aY X.prog X.w) p vs:=I.i4 p _ hx;have hlen:e_.length=vs.length:=acz r;exact wpAny_truthy_dict hS m (by lia) ⟨H,I.tok _,by rw[pP r];exact q⟩
 |_=>exact(show False from e).elim
def Jk(ha:PE X a ta)(he:∀whole,isTrue a X.env whole=(do let v <- whole;standAt a.pos;holding [v] (truthy v))):
 PT X a (λσ H Q=>ta σ H λx H'=>∃k,Ck X.K x H' k/\Q k H'):=by
 intro pins s σ H Q I h;exact isTrue_plain (j9 (ha pins s σ H _ I h) λv s1 ⟨x,H1,I1,r1,q1⟩=>zw pins s1 σ H1 x v Q I1 r1 q1) (he _)
inductive nK(x y:V)(H:Hp)(Q:VK):Prop
 |mk:∀i j,x=.str i->y=.str j->i.length+j.length<=sizeLine->Q (.str (i++j)) H->nK x y H Q
def ig:B8 X (binaryOp .Add) nK:=by intro pins s σ H x y v u Q I rx ry h;obtain⟨i,j,rfl,rfl,hz,q⟩:=h;obtain⟨t,rfl⟩:=rx;obtain⟨t',rfl⟩:=ry;exact add_str (λt' tk=>⟨.str (i++j),H,I.tok _,⟨_,rfl⟩,q⟩) hz
variable{us:List Value}
theorem gT{x:V}(r:Vals [x] us):∃u,us=[u]/\RelV x u:=by
 cases r with
 |cons r1 r2=>cases r2;exact⟨_,rfl,r1⟩
theorem xv{x y:V}(r:Vals [x,y] us):∃u w',us=[u,w']/\RelV x u/\RelV y w':=by
 cases r with
 |cons r1 r2=>
  cases r2 with
  |cons r3 r4=>cases r4;exact⟨_,_,rfl,r1,r3⟩
inductive Bo(xs:List V)(H:Hp)(Q:VK):Prop
 |mk:∀i j,xs=[.int i,.int j]->Q (.int (if j<i then j else i)) H->Bo xs H Q
def tX(hc:X.calm=true):eg X (.builtin "min") Bo:=by
 intro pins s σ H xs us Q I r h;obtain⟨i,j,rfl,q⟩:=h;obtain⟨u,w',rfl,⟨t,rfl⟩,⟨t',rfl⟩⟩:=xv r;refine min_two_ints (I.ok.hd hc) λh' tk k=>⟨_,H,I.kept k,?_,q⟩
 by_cases hj:j<i
 ·rw[aaY hj,aaY hj];exact⟨_,rfl⟩
 ·rw[aaR hj,aaR hj];exact⟨_,rfl⟩
def kr:eg X (.type "int") (λxs H Q=>(∃i,xs=[.int i]/\Q (.int i) H)\/∃k,xs=[.bl k]/\Q (.int (if k then 1 else 0)) H):=by
 intro pins s σ H xs us Q I r h;rcases h with⟨i,rfl,q⟩|⟨k,rfl,q⟩
 ·obtain⟨u,rfl,t,rfl⟩:=gT r;exact call_int_int ⟨.int i,H,I,⟨_,rfl⟩,q⟩
 ·obtain⟨u,rfl,r1⟩:=gT r;cases r1;exact call_int_bool ⟨.int (if k then 1 else 0),H,I.tok _,⟨_,rfl⟩,q⟩
structure Qw(h:Heap)(x dx C:Addr)(mA:Str->Option Value):Prop where
 obj:h.get? x=some (PySem.W.instObj C dx)
 ns:h.Ns1 dx mA
 ne:dx≠x
variable{mA:Str->Option Value}{dx:Addr}
def jS(n:h.Ns1 dx mA):∃od,h.get? dx=some od/\∀name,PySem.W.lookIn name od=some (mA name):=by
 obtain⟨o,es,ep,ho,hd,hk,_,hm⟩:=n;refine⟨o,ho,λname=>?_⟩;have e:=hm name;unfold nsFind findBy at e;rw[<-Array.find?_toList]at e;unfold PySem.W.lookIn;rw[hd];dsimp only;split
 ·rename_i y q;rw[q]at e;exact abk some e
 ·rename_i q;rw[q]at e;have a:es.toList.any (·.refKey)=false:=by
   rw[List.any_eq_false];intro y hy;obtain⟨z,t,Me⟩:=hk y (Array.mem_toList_iff.mp hy);simp[DictEntry.refKey,Me]
  have a':¬es.toList.any (·.refKey)=true:=by rw[a];exact aaQ
  rw[aaR a'];exact abk some e
variable{C:Addr}
def Qw.look{x:Addr}(I:Qw h x dx C mA):∃od,PySem.W.InstAt h x (PySem.W.instObj C dx) C (some od)/\∀name,PySem.W.lookIn name od=some (mA name):=
 let⟨od,ho,hl⟩:=jS I.ns
 ⟨od,⟨I.obj,rfl,rfl,ho⟩,hl⟩
section
variable{prog:Program}{w:World}{A:Around}{E:Value->Shared->Prop}{s:Shared}{K:W.Frag}{x dx C f:Addr}{mA:Str->Option Value}{name:Str}{v:Value}
end
theorem DA.some_of{o:Option Value}(r:DA (some v) o):∃u,o=some u/\RelV v u:=by
 cases o with
 |none=>exact(show False from r).elim
 |some u=>exact⟨u,rfl,r⟩
theorem sW(r:RelV v u):PySem.W.handedIn u=true:=by
 cases v with
 |q8=>cases(show u=Value.none from r);rfl
 |bl b=>cases(show u=Value.bool b from r);rfl
 |int i=>obtain⟨t,e⟩:=(show∃t,u=Value.int i t from r);cases e;rfl
 |str x=>obtain⟨t,e⟩:=(show∃t,u=Value.str x t from r);cases e;rfl
 |Hf b=>obtain⟨t,e⟩:=(show∃t,u=Value.bytes b t from r);cases e;rfl
 |NA b=>obtain⟨t,e⟩:=(show∃t,u=Value.float b t from r);cases e;rfl
 |ref a=>cases(show u=Value.ref a from r);rfl
 |ty n=>cases(show u=Value.type n from r);rfl
section
variable{P:Program}{w:World}{H H':Hp}{h h':Heap}{a C dx:Addr}{fs fs':List (Str×V)}
def yA(i4:A8 P w H h)(e:H a=some (.ins C dx fs)):∃mA,Qw h a dx C mA/\(∀f,DA (fs.lookup f) (mA f))/\PySem.Within mA (fs.map (·.1))/\fs.length<=1000/\H dx=some (.own a):=by
 obtain⟨d,z,ne,ob,mA,n,r,q⟩:=(show i9 P w H h a (.ins C dx fs)from i4 a _ e)
 exact⟨mA,⟨ob,n,ne⟩,r,q,z,d⟩
end
structure Cls(K:W.Frag)(C:Addr):Prop where
 pg:PySem.W.plainGet K C Str.empty=true
 hd:PySem.W.hasDictIn K C=true
 po:PySem.W.plainOver K C=true
 sa:PySem.W.findIn K (.ref C) "__setattr__" = some (some (.builtin "object.__setattr__"))
def Cls.get(c:Cls K C)(f:Str):PySem.W.plainGet K C f=true:=c.pg
structure Dh(K:W.Frag)(C:Addr)(m:Str)(f:Addr):Prop where
 at_:PySem.W.findIn K (.ref C) m=some (some (.ref f))
 fn:PySem.W.isFn K (.ref f)=true
 kp:PySem.W.keepIn K (.ref f)=true
section
variable{X:Cx}{pins:List (Addr×Obj)}{σ:St}{H:Hp}{s:Shared}{a C dx:Addr}{fs:List (Str×V)}{f:Str}{v:V}{A:Around}{E:Value->Shared->Prop}
def za{prog:Program}{env:Env}{f:Str}{pos:Pos}{s:Shared}(hb:attributeBase e f env (eval e env)=eval e env)(h:wpAny (model prog w) A (eval e env) (λo i8=>wpAny (model prog w) A (getAttr o f true) Q E i8) E s):wpAny (model prog w) A (eval (.Attribute e f pos) env) Q E s:=
 Attribute_any_ h (by rw[arm_eval_Attribute,hb])
end
section
variable{X:Cx}{o e value:Expr}{f:Str}{pos pos' D7:Pos}{ta tv:TE}
end
section
variable{X:Cx}{pins:List (Addr×Obj)}{σ:St}{H:Hp}{s:Shared}{A:Around}{E Q:Value->Shared->Prop}{c:Value}{b:Bool}
inductive qb(K:W.Frag)(H:Hp):V->Value->Prop where
 |q8:qb K H .q8 (.type "NoneType")
 |bl (x:Bool):qb K H (.bl x) (.type "bool")
 |int (i:Int):qb K H (.int i) (.type "int")
 |str (x:Str):qb K H (.str x) (.type "str")
 |NA (x:UInt64):qb K H (.NA x) (.type "float")
 |lst {a:Addr} {xs:List V} (e:H a=some (.lst xs)):qb K H (.ref a) (.type "list")
 |Hd {a:Addr} {o:Obj} {xs:List V} (e:H a=some (.Hd o (.lst xs))):qb K H (.ref a) (.type "list")
 |tup {a:Addr} {xs:List V} (e:H a=some (.tup xs)):qb K H (.ref a) (.type "tuple")
 |dK {a:Addr} {e_:List (Key×V)} (e:H a=some (.dK e_)):qb K H (.ref a) (.type "dict")
 |dT {a:Addr} {e_:List (List Key×V)} (e:H a=some (.dT e_)):qb K H (.ref a) (.type "dict")
 |ins {a C dx:Addr} {fs:List (Str×V)} (e:H a=some (.ins C dx fs)) (cl:Cls K C) (ha:PySem.W.findIn K (.ref C) "__class__" = some (some (.builtin "object.__class__")))
  (hn:PySem.W.specialIn K (.builtin "object.__class__") "__get__" = some (some (.builtin "getset_descriptor.__get__"))) (htk:PySem.W.takesIn K (.builtin "object.__class__")=some true)
  (hm:PySem.W.mroIn K C (.type "object")=some true):qb K H (.ref a) (.ref C)
theorem sO{x:V}{t:Value}(I:Inv X pins σ H s)(rx:RelV x u)(ty:qb X.K H x t)(e:PySem.W.kitOne X.K t c=some b)(h:∀tk,Q (.bool b) { s with toks:=tk }):
 wpAny (model X.prog X.w) A (call (.builtin "isinstance") [u,c]) Q E s:=by
 cases ty with
 |q8=>cases(show u=Value.none from rx);exact abM PySem.W.kitx_none I.DZ True.intro e (λz=>nomatch z) h
 |bl y=>cases(show u=Value.bool y from rx);exact abM PySem.W.kitx_bool I.DZ True.intro e (λz=>nomatch z) h
 |int i=>obtain⟨t,q⟩:=(show∃t,u=Value.int i t from rx);cases q;exact abM PySem.W.kitx_int I.DZ True.intro e (λz=>nomatch z) h
 |str y=>obtain⟨t,q⟩:=(show∃t,u=Value.str y t from rx);cases q;exact abM PySem.W.kitx_str I.DZ True.intro e (λz=>nomatch z) h
 |NA y=>obtain⟨t,q⟩:=(show∃t,u=Value.float y t from rx);cases q;exact abM PySem.W.kitx_float I.DZ True.intro e (λz=>nomatch z) h
 |@lst a xs ea=>
  cases(show u=Value.ref a from rx);obtain⟨_,_,n,_,h1⟩:=(show i9 X.prog X.w H s.heap a (.lst xs)from I.i4 a _ ea)
  exact abM PySem.W.kitx_list I.DZ ⟨_,h1,rfl⟩ e (λz=>nomatch z) h
 |@Hd a ob xs ea=>
  cases(show u=Value.ref a from rx);obtain⟨_,_,_,n,_,h1⟩:=(show i9 X.prog X.w H s.heap a (.Hd ob (.lst xs))from I.i4 a _ ea)
  exact abM PySem.W.kitx_list I.DZ ⟨_,h1,rfl⟩ e (λz=>nomatch z) h
 |@tup a xs ea=>
  cases(show u=Value.ref a from rx);obtain⟨_,_,_,p⟩:=(show i9 X.prog X.w H s.heap a (.tup xs)from I.i4 a _ ea)
  obtain⟨o,h1,h2,_⟩:=p;exact abM PySem.W.kitx_tuple I.DZ ⟨o,h1,h2⟩ e (λz=>nomatch z) h
 |@dK a e_ ea=>
  cases(show u=Value.ref a from rx);obtain⟨_,_,vs,_,p⟩:=(show i9 X.prog X.w H s.heap a (.dK e_)from I.i4 a _ ea)
  obtain⟨o,es,ep,h1,h2,_⟩:=p;exact abM PySem.W.kitx_dict I.DZ ⟨o,h1,h2.1⟩ e (λz=>nomatch z) h
 |@dT a e_ ea=>
  cases(show u=Value.ref a from rx);obtain⟨_,_,xs,_,o,es,ep,h1,h2,_⟩:=(show i9 X.prog X.w H s.heap a (.dT e_)from I.i4 a _ ea)
  exact abM PySem.W.kitx_dict I.DZ ⟨o,h1,h2.1⟩ e (λz=>nomatch z) h
 |@ins a C dx fs ea cl ha hn htk hm=>
  cases(show u=Value.ref a from rx);obtain⟨mA,O,_⟩:=yA I.i4 ea;obtain⟨od,J,_⟩:=O.look;exact abM (PySem.W.kitx_own (cl.get _) cl.hd ha hn htk hm) I.DZ J e (λz=>nomatch z) h
end
structure r6(k:Nat)(A:Around):Prop where
 hd:A.handled=none
 dp:A.depth+3*k+5<recursionLimit
 un:A.units+16*k+200<cLine
 gd:A.guards=some []
theorem r6.mono{k:Nat}(r:r6 k A)(h:j<=k):r6 j A:=⟨r.hd,by have:=r.dp;lia,by have:=r.un;lia,r.gd⟩
theorem r6.deeper{k:Nat}{A:Around}(r:r6 (k+1) A)(env:Env):r6 k (A.deeper env):=
 ⟨r.hd,by have:=r.dp;show A.depth+1+3*k+5<_;lia,by have:=r.un;show A.units+3+16*k+200<_;lia,by first|exact r.gd|(show pushGuards _ A.guards=_;rw[r.gd];rfl)⟩
variable{kw:List (Str×Value)}
def pM:(A.under (.builtin "type.__call__" ⟨.ref C::us,kw⟩)).depth=A.depth+1:=by first|rfl|simp[Around.under,Code.weight,Code.isCreation,Code.isGuard,Code.isCaller,Code.frames,Code.isFrame,guardIds]
def pL:(A.under (.builtin "type.__call__" ⟨.ref C::us,kw⟩)).units=A.units+1:=by first|rfl|simp[Around.under,Code.cUnits,Code.frames,Code.isFrame]
def lB(h:A.guards=some []):(A.under (.builtin "type.__call__" ⟨.ref C::us,kw⟩)).guards=some []:=by
 have e:(Code.builtin "type.__call__" ⟨.ref C::us,kw⟩).guards=[]:=by
  unfold Code.guards;have:(Code.builtin "type.__call__" ⟨.ref C::us,kw⟩).isGuard=false:=by first|rfl|decide +kernel|simp[Code.isGuard,guardIds]
  rw[this];rfl
 unfold Around.under;simp only[e,h];rfl
theorem r6.make{k:Nat}(r:r6 (k+1) A)(C:Addr)(us:List Value)(kw:List (Str×Value)):r6 k (A.under (.builtin "type.__call__" ⟨.ref C::us,kw⟩)):=
 ⟨r.hd,by have:=r.dp;rw[pM];lia,by have:=r.un;rw[pL];lia,lB r.gd⟩
theorem r6.depth{k:Nat}{A:Around}(r:r6 k A):A.depth<recursionLimit:=by have:=r.dp;lia
theorem r6.units{k:Nat}{A:Around}(r:r6 k A):A.units+64<cLine:=by have:=r.un;lia
noncomputable def RJ:TA:=λ_ H Q=>Q [] H
noncomputable def o8(ta:TE)(tr:TA):TA:=λσ H Q=>ta σ H λx H1=>tr σ H1 λxs H2=>Q (x::xs) H2
section
variable{X:Cx}{e:Expr}{es:List Expr}{te:TE}{t:TA}{pos:Pos}
def O9:PA X [] RJ:=λ_ _ _ _ H Q I h=>acf ⟨[],H,I,.nil,h⟩
def cz(ha:PE X e te)(hr:PA X es t)(hs:autoParam (starEach (e::es) X.env=(false,eval e X.env)::starEach es X.env) θ):PA X (e::es) (o8 te t):=by intro pos pins s σ H Q I h;rw[hs];show wpAny _ _ (spliced ((false,eval e X.env)::backTo pos (starEach es X.env))) _ _ s;refine ab6 (j9 (ha pins s σ H _ I h) ?_);rintro u s1 ⟨x,H1,I1,r1,q1⟩;exact j9 (hr pos pins s1 σ H1 _ I1 q1) λus s2 ⟨xs,H2,I2,r2,q2⟩=>⟨x::xs,H2,I2,.cons r1 r2,q2⟩
def RG(t:TA):TE:=λσ H Q=>t σ H λxs H1=>xs.length<=sizeLine/\∀p,H1 p=none->Q (.ref p) (upd H1 p (.tup xs))
def RK(t:TA):TE:=λσ H Q=>t σ H λxs H1=>xs.length<=sizeLine/\∀p,H1 p=none->Q (.ref p) (upd H1 p (.lst xs))
def OZ{x1}(h:PA X es t):PE X (.Tuple es x1 pos) (RG t):=by intro pins s σ H Q I hq;refine wpAny_Tuple_spliced (j9 (h pos pins s σ H _ I hq) λus s1 ⟨xs,H1,I1,r,z,q⟩=>⟨by rw[<-r.length];exact z,?_⟩);have hf:H1 s1.heap.objs.size=none:=I1.i4.fresh (aaI _);refine⟨.ref s1.heap.objs.size,upd H1 s1.heap.objs.size (.tup xs),I1.laid (t':=s1.toks) (λb u e=>aaH _ e) (aaI _) ?_,rfl,q _ hf⟩;exact⟨⟨z,KA.new _ _ rfl⟩,us,r,⟨_,aaT _ rfl,rfl,_,rfl⟩⟩
def O5(h:PA X es t):PE X (.List es pos) (RK t):=by intro pins s σ H Q I hq;refine wpAny_List_spliced (j9 (h pos pins s σ H _ I hq) λus s1 ⟨xs,H1,I1,r,z,q⟩=>⟨by rw[<-r.length];exact z,?_⟩);have hf:H1 s1.heap.objs.size=none:=I1.i4.fresh (aaI _);refine⟨.ref s1.heap.objs.size,upd H1 s1.heap.objs.size (.lst xs),I1.laid (t':=s1.toks) (λb u e=>aaH _ e) (aaI _) ?_,rfl,q _ hf⟩;exact⟨z,us,0,r,aaT _ rfl⟩
end
abbrev Sp:=List V->Hp->VK->XK->Prop
abbrev Gq:=List Env->Hp->Shared->XK->Value->Shared->Prop
structure Hj(P:Program)(w:World)(K:W.Frag)(mg:Str->Option Value)(base:Heap)(A:Around)(outer:List Env)(s:Shared)(H:Hp):Prop where
 frames:A.frames=some outer
 mod:Mod K mg base
 bs:∀b o,base.get? b=some o->s.heap.get? b=some o/\H b=none
 HF:base.objs.size<=s.heap.objs.size
 Eb:s.heap.FunFrames base outer
 Nw:∀b∈n9 outer,H b=none
 i4:A8 P w H s.heap
 bare:AllBare s.gens
def CE(outer:List Env)(P:Program)(w:World)(H:Hp)(s:Shared)(Q:VK)(u:Value)(s':Shared):Prop:=
 ∃v H',s'.os=s.os/\AllBare s'.gens/\Un (n9 outer) [] H H' s.heap s'.heap/\A8 P w H' s'.heap/\RelV v u/\Q v H'
def CR(CX:Gq)(outer:List Env)(P:Program)(w:World)(H:Hp)(s:Shared)(Q:VK)(E:XK)(r:Result)(s':Shared):Prop:=
 match r with
 |.ok (.ret u)=>CE outer P w H s Q u s'
 |.ok _=>False
 |.error e=>CX outer H s E e s'
structure i6(P:Program)(w:World)(K:W.Frag)(mg:Str->Option Value)(base:Heap)(CX:Gq)(k:Nat)(f:Addr)(fd:FuncData)(ps:List Str)(sp:Sp):Prop where
 len:∀vs H Q E,sp vs H Q E->vs.length=ps.length
 run:∀(A:Around)(outer:List Env)(s:Shared)(H:Hp)(args:Args)(us:List Value)(vs:List V)(Q:VK)(E:XK),r6 k A->Hj P w K mg base A outer s H->BindsTo s fd args (ps.zip us)->Vals vs us->sp vs H Q E ->
  codeAny (model P w) A (.call (.ref f) args) (CR CX outer P w H s Q E) s
theorem i6.mono{P:Program}{w:World}{K:W.Frag}{mg:Str->Option Value}{base:Heap}{CX:Gq}{j k:Nat}{f:Addr}{fd:FuncData}{ps:List Str}{sp:Sp}(F:i6 P w K mg base CX j f fd ps sp)(h:j<=k):
 i6 P w K mg base CX k f fd ps sp:=⟨F.len,λA outer s H args us vs Q E hr=>F.run A outer s H args us vs Q E (hr.mono h)⟩
variable{mg:Str->Option Value}{outer:List Env}{base:Heap}
def Hj.make(e:Hj P w K mg base A outer s H)(C:Addr)(us:List Value)(kw:List (Str×Value)):
 Hj P w K mg base (A.under (.builtin "type.__call__" ⟨.ref C::us,kw⟩)) outer s H:=⟨by first|exact e.frames|(simpa [Around.under,Code.envs,Code.isFrame,pushEnvs]using e.frames),e.mod,e.bs,e.HF,e.Eb,e.Nw,e.i4,e.bare⟩
section
variable{X:Cx}{pins:List (Addr×Obj)}{σ:St}{H:Hp}{s s':Shared}
def Inv.Qn(I:Inv X pins σ H s):Hj X.prog X.w X.K X.mg X.base X.A X.stack s H:=
 ⟨I.ok.frames,I.ok.mod,I.bs,abg I.ok.HF I.sz,I.stack,I.A7,I.i4,I.bare⟩
def Inv.after{Q:VK}(I:Inv X pins σ H s)(h:CE X.stack X.prog X.w H s Q u s'):EP X pins σ Q u s':=by obtain⟨v,H',os,bare,un,i4,r,q⟩:=h;obtain⟨hh,g,d,t,QP⟩:=s';obtain rfl:QP=s.os:=os;exact⟨v,H',I.call (h':=hh) (g':=g) (d':=d) (t':=t) (ch:=[]) un i4 bare (λb z=>absurd z (by simp)),r,q⟩
end
def MK(sp:Sp)(IM:List V)(E:XK)(t:TA):TE:=λσ H Q=>t σ H λvs H1=>sp (vs++IM) H1 Q E
def Binds(K:W.Frag)(fd:FuncData)(ps:List Str)(ds:List Value):Prop:=
 ∀(s:Shared)(us:List Value),K.In s.heap->(us++ds).length=ps.length->BindsTo s fd ⟨us,[]⟩ (ps.zip (us++ds))
variable{ps:List Str}
def Binds.all{fd:FuncData}(h:∀us:List Value,us.length=ps.length->bindArgs fd ⟨us,[]⟩=pure (ps.zip us)):Binds K fd ps []:=λs us _ hl=>by rw[aby]at hl⊢;exact .of_eq (h us hl)
def gQ(CX:Gq)(X:Cx)(E:XK):Prop:=∀(pins:List (Addr×Obj))(σ:St)(H:Hp)(s:Shared)(e:Value)(s':Shared),Inv X pins σ H s->CX X.stack H s E e s'->X.xe e s'
variable{vs:List V}
section
variable{X:Cx}{CX:Gq}{k:Nat}{f C:Addr}{fd:FuncData}{ps:List Str}{sp:Sp}{IM:List V}{ds:List Value}{E:XK}{x m:Str}{p pos apos:Pos}{e o:Expr}{es:List Expr}{ta:TE}{t:TA}
theorem Af{Q:VK}(F:i6 X.prog X.w X.K X.mg X.base CX k f fd ps sp)(hr:r6 k X.A)(hb:Binds X.K fd ps ds)(hd:Vals IM ds)(hx:gQ CX X E)(I:Inv X pins σ H s)(r:Vals vs us)(h:sp (vs++IM) H Q E):wpAny (model X.prog X.w) X.A (call (.ref f) us) (EP X pins σ Q) X.xe s:=by
 have r2:Vals (vs++IM) (us++ds):=r.append hd;have hl:(us++ds).length=ps.length:=by rw[<-r2.length];exact F.len _ _ _ _ h
 refine ad9 (acr (F.run X.A X.stack s H ⟨us,[]⟩ (us++ds) (vs++IM) Q E hr I.Qn (hb s us I.DZ hl) r2 h) λr s' hq=>?_);cases r with
 |error e=>exact hx pins σ H s e s' I hq
 |ok fl=>
  cases fl with
  |ret u=>exact I.after hq
  |next=>exact False.elim hq
  |brk=>exact False.elim hq
  |cont=>exact False.elim hq
def LU(F:i6 X.prog X.w X.K X.mg X.base CX k f fd ps sp)(hr:r6 k X.A)(hg:Gl X x)(hm:X.mg x=some (.ref f))(hk:PySem.W.keepIn X.K (.ref f)=true)(hb:Binds X.K fd ps ds)(hd:Vals IM ds)(hx:gQ CX X E)(ha:PA X (e::es) t)(Io:(x == ("__debug__" : Str))=false)(he:starEach (e::es) X.env=(false,eval e X.env)::starEach es X.env)(E7:(backTo pos (starEach es X.env)).any (·.1)=false):
 PE X (.Call (.Name x p) (e::es) [] pos) (MK sp IM E t):=by
 intro pins s σ H Q I h;refine acW (fj I hg hm ?_ Io);refine PySem.W.callWith_K (h₀:=X.base) I.ok.mod.FG hk (j9 (ha pos pins s σ H _ I h) λus s1 ⟨vs,H1,I1,r,q⟩=>⟨I1.DZ,?_⟩) he E7;exact Af F hr hb hd hx I1 r q
end
section
variable{X:Cx}{CX:Gq}{k:Nat}{f C:Addr}{fd:FuncData}{ps ks:List Str}{sp:Sp}{E:XK}{x m:Str}{p pos apos kpos:Pos}{e o:Expr}{es:List Expr}{Pf:List Keyword}{te ta:TE}{t tk:TA}{nm:Option Str}
variable{g:List Value->List Value->List Value}{gV:List V->List V->List V}
end
structure aF(N P:List Str)(sc:Scope):Prop where
 kind:sc.kind=.function:=by exact rfl
 co:sc.isCoroutine=false:=by exact rfl
 gen:sc.isGenerator=false:=by exact rfl
 nd:N.Nodup:=by decide +kernel
 pre:N.take P.length=P:=by exact rfl
 par:∀x∈P,sc.names.lookup x=some .local\/sc.names.lookup x=some .cell:=by decide +kernel
 Pb:∀y∈sc.names,y.2≠.free:=by decide +kernel
theorem kz{kindOf:Str->Option NameKind}{x:Str}:∀{binds:List (Str×Value)}{m:Str->Option Value},(∀v,(x,v)∉binds)->bindL kindOf binds m x=m x
 |[],_,_=>rfl
 |(n,v)::r,m,h=>by
  unfold bindL;rw[kz λw hw=>h w (aa9 _ hw)];split
  ·have:x≠n:=by rintro rfl;exact h v abd
   simp[this]
  ·rfl
theorem kB{kindOf:Str->Option NameKind}{x:Str}:∀{binds:List (Str×Value)}{m:Str->Option Value},(∀v,(x,v)∉binds)->bindC kindOf binds m x=m x
 |[],_,_=>rfl
 |(n,v)::r,m,h=>by
  unfold bindC;rw[kB λw hw=>h w (aa9 _ hw)];split
  ·rfl
  ·have:x≠n:=by rintro rfl;exact h v abd
   simp[this]
theorem kA{kindOf:Str->Option NameKind}{x:Str}{v:Value}:∀{P:List Str}{vs:List Value}{i:Nat}{m:Str->Option Value},P.Nodup->P[i]?=some x->vs[i]?=some v->kindOf x=some .local ->
 bindL kindOf (P.zip vs) m x=some v
 |[],_,_,_,_,h,_,_=>by simp at h
 |_::_,[],_,_,_,_,h,_=>by simp at h
 |p::P,w::vs,0,m,nd,h1,h2,hk=>by
  simp at h1 h2;subst h1;subst h2;show bindL kindOf ((p,w)::P.zip vs) m p=_;unfold bindL;rw[kz λv hv=>(List.nodup_cons.mp nd).1 (aec hv).1,aaY hk];simp
 |p::P,w::vs,i+1,m,nd,h1,h2,hk=>by show bindL kindOf ((p,w)::P.zip vs) m x=_;unfold bindL;exact kA (i:=i) (List.nodup_cons.mp nd).2 (by simpa using h1) (by simpa using h2) hk
theorem kC{kindOf:Str->Option NameKind}{x:Str}{v:Value}:∀{P:List Str}{vs:List Value}{i:Nat}{m:Str->Option Value},P.Nodup->P[i]?=some x->vs[i]?=some v->kindOf x≠some .local ->
 bindC kindOf (P.zip vs) m x=some v
 |[],_,_,_,_,h,_,_=>by simp at h
 |_::_,[],_,_,_,_,h,_=>by simp at h
 |p::P,w::vs,0,m,nd,h1,h2,hk=>by
  simp at h1 h2;subst h1;subst h2;show bindC kindOf ((p,w)::P.zip vs) m p=_;unfold bindC;rw[kB λv hv=>(List.nodup_cons.mp nd).1 (aec hv).1,aaR hk];simp
 |p::P,w::vs,i+1,m,nd,h1,h2,hk=>by show bindC kindOf ((p,w)::P.zip vs) m x=_;unfold bindC;exact kC (i:=i) (List.nodup_cons.mp nd).2 (by simpa using h1) (by simpa using h2) hk
noncomputable def start(N:List Str)(vs:List V):St:=vs.map some++List.replicate (N.length-vs.length) none
noncomputable def cg(CX:Gq)(P:Program)(w:World)(K:W.Frag)(mg:Str->Option Value)(base:Heap)(N:List Str)(qual:Str)(scope:Scope)(f:Addr)(cd:Value)(A:Around)(outer:List Env)(s:Shared)(H:Hp)(E:XK):Cx where
 prog:=P
 w:=w
 K:=K
 mg:=mg
 base:=base
 A:=A.deeper (envOfC qual scope s.heap.objs.size f cd)
 N:=N
 s₀:=s
 H₀:=H
 env:=envOfC qual scope s.heap.objs.size f cd
 outer:=outer
 stack:=envOfC qual scope s.heap.objs.size f cd::outer
 ex:=[]
 calm:=true
 fn:=λ_=>true
 pn:=[]
 xe:=λe s'=>wpAny (model P w) (A.deeper (envOfC qual scope s.heap.objs.size f cd)) (leaving (envOfC qual scope s.heap.objs.size f cd) e) (λ_ HV=>CX outer H s E e HV) (λe' HV=>CX outer H s E e' HV) s'
def nB{sc:Scope}(h:sc.names.lookup x=some .cell):∃c,(cellsFrom n sc.names []).lookup x=some c:=by have q:=aet sc.names n [] (.inl h);exact Option.isSome_iff_exists.mp q
theorem sU{CX:Gq}{qual:Str}{scope:Scope}{f:Addr}{cd:Value}{s1:Shared}{E:XK}(S:aF N ps scope)(hd:A.handled=none)(e0:Hj P w K mg base A outer s H)(hl:vs.length=ps.length)(r:Vals vs us)(x:InCallC s s.heap.objs.size (bindL (envOfC qual scope s.heap.objs.size f cd).kindOf (ps.zip us) λ_=>none) (cellsFrom (s.heap.objs.size+1) scope.names []) (bindC (envOfC qual scope s.heap.objs.size f cd).kindOf (ps.zip us) λ_=>none) s1):
 Inv (cg CX P w K mg base N qual scope f cd A outer s H E) [] (start N vs) H s1:=by
 have E7:ps.length<=N.length:=by have:=abk List.length S.pre;rw[aaZ]at this;lia
 obtain⟨h1,tk,rfl,hk⟩:=x.done;have R_:∀b:Addr,b∉(cg CX P w K mg base N qual scope f cd A outer s H E).ex:=λb z=>absurd (show b∈([]:List Addr)from z) (by simp);refine⟨⟨e0.mod,S.kind,rfl,rfl,aaI _,λy z c h1 h2=>?_,λy hy=>?_,λy c _ h=>?_,λ_=>hd,Around.frames_deeper e0.frames,.inr ⟨rfl,rfl⟩,λb z=>absurd z (R_ b),e0.bs,e0.HF,λb _ _=>R_ b,λb z=>absurd z (R_ b),e0.Eb,e0.Nw⟩,
  rfl,e0.bare,Un.kept hk,⟨_,x.toInCall.ns,λi y v h1 h2 h3=>?_⟩,λy c h=>⟨_,x.cell y c h⟩,e0.i4.fresh (aaI _),λy c h=>?_,λp hp=>absurd (show p∈([]:List (Addr×Obj))from hp) (by simp),e0.i4.kept hk,?_⟩
 ·exact name_of_addr x.apart (aba h1) (aba h2)
 ·have hy:scope.names.lookup y=some .cell\/scope.names.lookup y=some .free:=hy;rcases hy with hy|hy
  ·exact nB hy
  ·exact absurd rfl (S.Pb _ (aba hy))
 ·exact ads (x.above y c (aba h))
 ·have hi:i<vs.length:=by
   unfold start at h2;by_cases hi:i<vs.length
   ·exact hi
   ·rw[abf (by simpa using hi)]at h2;rw[adn]at h2;split at h2<;>cases h2
  have ha:vs[i]?=some v:=by
   unfold start at h2;rw[aa4 (by simpa using hi),aaK]at h2;cases e:vs[i]? with
   |none=>rw[e]at h2;cases h2
   |some a=>rw[e]at h2;cases h2;rfl
  obtain⟨u,hu,rv⟩:=r.get ha;have hp:ps[i]?=some y:=by rw[<-S.pre,List.getElem?_take_of_lt (by lia)];exact h1
  have ndP:ps.Nodup:=by rw[<-S.pre];exact S.nd.sublist (acq _ _)
  refine⟨u,rv,?_⟩;rcases S.par y (aaD hp)with k|k
  ·exact .inl ⟨k,kA ndP hp hu k⟩
  ·obtain⟨c,e⟩:=nB (n:=s.heap.objs.size+1) k;refine .inr ⟨.inl k,c,e,?_⟩;have q:=x.cell y c e;rw[kC ndP hp hu (by show scope.names.lookup y≠_;rw[k];decide)]at q;exact q
 ·exact e0.i4.fresh (ads (x.above y c (aba h)))
 ·unfold start;show _=N.length;rw[aaF,aaG,abw];lia
theorem yF{CX:Gq}{P:Program}{w:World}{K:W.Frag}{mg:Str->Option Value}{base:Heap}{k:Nat}{f:Addr}{name qual:Str}{params:Arguments}{body:List Stmt}{scope:Scope}{dV kV doc pm m_ ct oc:Value}{an od:Option Addr}{Js:Array (Option Value)}{N ps:List Str}{sp:Sp}(lk:K.lookup f=some ⟨oc,od,.func (PySem.W.fnOf name qual params body scope dV kV doc pm an m_ ct),Js⟩)(ER:PySem.W.codeIn K m_ qual=true)(S:aF N ps scope)(len:∀vs H Q E,sp vs H Q E->vs.length=ps.length)(DU:∀(A:Around) (outer:List Env) (s:Shared) (H:Hp) (vs:List V) (Q:VK) (E:XK),r6 k (A.deeper (envOfC qual scope s.heap.objs.size f m_))->sp vs H Q E ->
 ∃t,HI (cg CX P w K mg base N qual scope f m_ A outer s H E) body t/\t { nx:=λ_ H'=>Q .q8 H',rt:=Q } (start N vs) H):
 i6 P w K mg base CX (k+1) f (PySem.W.fnOf name qual params body scope dV kV doc pm an m_ ct) ps sp:=by
 refine⟨len,λA outer s H args us vs Q E hr e0 hb r A5=>?_⟩;have hl:=len _ _ _ _ A5;have KX:K.In s.heap:=e0.mod.FG.keeps λb o e=>(e0.bs b o e).1;have lim:s.heap.NoLimit:=e0.mod.nolimit.keeps λb o e=>(e0.bs b o e).1;have Ub:∀y∈ps.zip us,scope.names.lookup y.1=some .local\/(scope.names.lookup y.1=some .cell/\((cellsFrom (s.heap.objs.size+1) scope.names []).lookup y.1).isSome=true):=λ⟨n,v⟩ hy=>by
  rcases S.par n (aec hy).1 with q|q
  ·exact .inl q
  ·exact .inr ⟨q,aet _ _ _ (.inl q)⟩
 refine codeAny_call_function hr.depth (KX _ _ lk) rfl S.co S.gen rfl (PySem.W.codeRec_of KX ER) (hb _ _ _ _ ?_);refine wpAny_newFunctionEnv_cells S.kind Ub λenv he s1 x=>?_;subst he;refine⟨lim.keeps x.toInCall.keep,codeAny_func ?_⟩;obtain⟨t,ht,hq⟩:=DU A outer s H vs Q E (hr.deeper _) A5;have I:Inv (cg CX P w K mg base N qual scope f m_ A outer s H E) [] (start N vs) H s1:=sU S hr.hd e0 hl r x;refine abp (ht [] s1 (start N vs) H _ I hq) (λfl s' hs=>?_) λe s' hs=>hs;have fin:∀{k_:St}{H':Hp}{v:V}{u:Value},Inv (cg CX P w K mg base N qual scope f m_ A outer s H E) [] k_ H' s'->RelV v u->Q v H'->CE outer P w H s Q u s':=
  λ{k_ H' v u} J rv q=>⟨v,H',J.os,J.bare,J.base,J.i4,rv,q⟩
 cases fl with
 |ret u=>
  obtain⟨v,k_,H',J,rv,q⟩:=hs;exact fin J rv q
 |next=>
  obtain⟨k_,H',J,q⟩:=hs;exact fin (v:=V.q8) (u:=Value.none) J rfl q
 |brk=>
  obtain⟨_,_,_,q⟩:=hs;exact False.elim q
 |cont=>
  obtain⟨_,_,_,q⟩:=hs;exact False.elim q
section
variable{X:Cx}{x:Str}{p pos:Pos}{e:Expr}{es:List Expr}{t:TA}{id T:String}{r:List V->Hp->VK->Prop}
def WV(r:List V->Hp->VK->Prop)(t:TA):TE:=λσ H Q=>t σ H λvs H1=>r vs H1 Q
def Jr(hc:eg X (.builtin id) r)(hg:Gl X x)(hm:X.mg x=none)(hv:bootBuiltins x=some (.builtin id))(ha:PA X (e::es) t)(hn:x ≠ "__name__")(Io:(x == ("__debug__" : Str))=false)(he:starEach (e::es) X.env=(false,eval e X.env)::starEach es X.env)(E7:(backTo pos (starEach es X.env)).any (·.1)=false):PE X (.Call (.Name x p) (e::es) [] pos) (WV r t):=by intro pins s σ H Q I h;refine acW (eh I hg hm hv ?_ hn Io);exact PyProof.Rows.callWith_builtin1 (j9 (ha pos pins s σ H _ I h) λus s1 ⟨vs,H1,I1,r1,q1⟩=>hc pins s1 σ H1 vs us Q I1 r1 q1) he E7
def HX(hc:eg X (.type T) r)(hg:Gl X x)(hm:X.mg x=none)(hv:bootBuiltins x=some (.type T))(ha:PA X (e::es) t)(hn:x ≠ "__name__")(Io:(x == ("__debug__" : Str))=false)(he:starEach (e::es) X.env=(false,eval e X.env)::starEach es X.env)(E7:(backTo pos (starEach es X.env)).any (·.1)=false):PE X (.Call (.Name x p) (e::es) [] pos) (WV r t):=by intro pins s σ H Q I h;refine acW (eh I hg hm hv ?_ hn Io);exact abH (j9 (ha pos pins s σ H _ I h) λus s1 ⟨vs,H1,I1,r1,q1⟩=>hc pins s1 σ H1 vs us Q I1 r1 q1) he E7
end
end L2
namespace HT
open PySem PyProof.Rows
section
open PySem.SeqAt
open PySem.AutoSeq1 (wpAny_loadPart')
open PySem.MeetsSeq PySem.MeetsSeq2 PySem.MeetsSeq3
end
variable{Q:Value->Shared->Prop}{lo hi:Option Int}{vl vu:Value}{sl t:Addr}
section
variable{prog:Program}{w:World}{A:Around}{E:Value->Shared->Prop}{s:Shared}
theorem Mx{b:Addr}{vs ws:List Value}(ht:IsTup s.heap t vs.toArray)(hb:IsTup s.heap b ws.toArray)(hv:vs≠[])(h1:ws=[]->Q (.ref t) s)(h2:ws≠[]->Q (.ref s.heap.objs.size) { s with heap:=s.heap.push { cls:=.type "tuple",data:=.seq (vs++ws).toArray } })(hsz:vs.length+ws.length<=sizeLine):wpAny (model prog w) A (binaryOp .Add (.ref t) (.ref b)) Q E s:=by
 obtain⟨⟨cls,dd,data,sl⟩,ho,hc,n,hd⟩:=id ht;obtain⟨⟨cls2,Yh,data2,QM⟩,PR,Qa,n2,hd2⟩:=id hb;simp only at hc hd Qa hd2;subst hc hd Qa hd2;have e:vs.toArray++ws.toArray=(vs++ws).toArray:=by simp
 by_cases hw:ws=[]
 ·exact concat_meets ⟨_,ho,rfl⟩ ⟨_,PR,rfl⟩ aej seq_tuple_add adp adj (adh _ _)
   (tuple_addW1 t b vs.toArray ws.toArray n n2 dd Yh sl QM (by simpa using hv) (by simp[hw])) ⟨ho,PR,h1 hw⟩
 ·refine concat_meets ⟨_,ho,rfl⟩ ⟨_,PR,rfl⟩ aej seq_tuple_add adp adj (adh _ _)
   (tuple_addW2 t b vs.toArray ws.toArray n n2 dd Yh sl QM (by simpa using hv) (by simpa using hw) (by rw[aaP,aaP];exact hsz)) ⟨ho,PR,?_⟩
  rw[e];exact h2 hw
noncomputable def p_(n d:Nat):Option Int->Nat
 |none=>d
 |some v=>if v<0 then(v+(n:Int)).toNat else min v.toNat n
def DO(n d:Nat):p_ n d none=d:=rfl
theorem Em(n d k:Nat):p_ n d (some (k:Int))=min k n:=by show(if(k:Int)<0 then((k:Int)+(n:Int)).toNat else min (k:Int).toNat n)=min k n;rw[aaR (by lia),ab7]
theorem Ac(n d:Nat)(hd:d<=n)(o:Option Int):p_ n d o<=n:=by
 cases o with
 |none=>exact hd
 |some v=>
  show(if v<0 then(v+(n:Int)).toNat else min v.toNat n)<=n;by_cases hv:v<0
  ·rw[aaY hv];lia
  ·rw[aaR hv];exact Nat.min_le_right _ _
theorem tW(v:Int)(n d:Nat):(if v<0 then max (v+(n:Int)) 0 else min v (n:Int))=((p_ n d (some v):Nat):Int):=by
 show(if v<0 then max (v+(n:Int)) 0 else min v (n:Int))=(((if v<0 then(v+(n:Int)).toNat else min v.toNat n):Nat):Int)
 by_cases hv:v<0
 ·simp only[aaY hv];lia
 ·simp only[aaR hv];lia
theorem qa(lo hi:Option Int)(n:Nat):Builtin.Slice.sliceAdjust lo hi 1 (n:Int)=(((p_ n 0 lo:Nat):Int),((p_ n n hi:Nat):Int)):=by
 have h1:¬((1:Int)<0):=by lia
 unfold Builtin.Slice.sliceAdjust;simp only[h1,abV];refine Prod.ext ?_ ?_
 ·cases lo with
  |none=>rfl
  |some v=>exact tW v n 0
 ·cases hi with
  |none=>rfl
  |some v=>exact tW v n n
theorem pC(i j:Nat):Builtin.Slice.slicePlaces (i:Int) (j:Int) 1=j-i:=by
 unfold Builtin.Slice.slicePlaces;have h1:(1:Int)>0:=by lia
 simp only[h1,ac6,Int.ediv_one];split<;>lia
theorem hV{v:Value}{o:Option Int}{Q:Option Int->Shared->Prop}(p:IsPart v o)(h:Q o s):wpAny (model prog w) A (Builtin.Slice.slicePartIndex v) Q E s:=by
 cases p with
 |none=>exact slicePart_none h
 |int i t=>exact slicePart_int h
theorem B2{n:Nat}{Q:Int×Int×Nat->Shared->Prop}(hs:s.heap.IsSliceOf sl vl vu .none)(pl:IsPart vl lo)(pu:IsPart vu hi)(h:Q (((p_ n 0 lo:Nat):Int),1,p_ n n hi-p_ n 0 lo) s):wpAny (model prog w) A (Builtin.Slice.sliceApplied (.ref sl) (pure (n:Int))) Q E s:=by obtain⟨os,Ej,Ln,Im⟩:=id hs;unfold Builtin.Slice.sliceApplied Builtin.Slice.sliceFields;refine aaC (aaC (abU Ej Im (x:=vl) rfl (aaC (abU Ej Im (x:=vu) rfl (aaC (abU Ej Im (x:=.none) rfl (aaE ?_)))))));refine aaC (slicePart_none ?_);show wpAny _ _ (if((1:Int) == 0)=true then _ else _) _ _ s;rw[aaR (by decide)];refine aaC (hV pl (aaC (hV pu (aaC (aaE ?_)))));show wpAny _ _ (match Builtin.Slice.sliceAdjust lo hi 1 (n:Int)with|(lo,hi)=>pure (lo,(1:Int),Builtin.Slice.slicePlaces lo hi 1)) _ _ s;rw[qa lo hi n];show wpAny _ _ (pure (((p_ n 0 lo:Nat):Int),(1:Int),Builtin.Slice.slicePlaces ((p_ n 0 lo:Nat):Int) ((p_ n n hi:Nat):Int) 1)) _ _ s;rw[pC];exact aaE h
theorem uU(xs:Array Value)(i k:Nat):((List.range k).filterMap λ(m:Nat)=>xs[((i:Int)+(m:Int)*1).toNat]?).toArray=((xs.toList.drop i).take k).toArray:=by
 have e:(λ(m:Nat)=>xs[((i:Int)+(m:Int)*1).toNat]?)=λm=>xs[i+m]?:=by
  funext m;have:((i:Int)+(m:Int)*1).toNat=i+m:=by lia
  rw[this]
 rw[e];have:=pick_run xs i k;rw[List.filterMap_map]at this;have e2:((λx=>xs[x]?)∘λx=>i+x)=λm=>xs[i+m]?:=rfl;rw[e2]at this;rw[this]
theorem DW{items:Array Value}(ht:IsTup s.heap t items)(hs:s.heap.IsSliceOf sl vl vu .none)(pl:IsPart vl lo)(pu:IsPart vu hi)(hw:¬(p_ items.size 0 lo=0/\p_ items.size items.size hi=items.size))(h:Q (.ref s.heap.objs.size) { s with heap:=s.heap.push { cls:=.type "tuple",data:=.seq ((items.toList.drop (p_ items.size 0 lo)).take (p_ items.size items.size hi-p_ items.size 0 lo)).toArray } })(hsz:items.size<=sizeLine):wpAny (model prog w) A (getItem (.ref t) (.ref sl)) Q E s:=by
 have Hv:sizeOk (.seq ((items.toList.drop (p_ items.size 0 lo)).take (p_ items.size items.size hi-p_ items.size 0 lo)).toArray):=by show((items.toList.drop (p_ items.size 0 lo)).take (p_ items.size items.size hi-p_ items.size 0 lo)).toArray.size<=sizeLine;rw[aaP,aaZ,abP,adK];lia
 have hj:p_ items.size items.size hi<=items.size:=Ac _ _ (aaI _) hi;obtain⟨os,Ej,Ln,Im⟩:=id hs;have hTs:s.TypeIs (.ref sl) "slice":=⟨os,Ej,Ln⟩
 unfold getItem;try with_reducible refine abu ?_
 first|refine aaC (aaE ?_)|skip
 refine aaC (wpAny_sequenceKey ht.typeIs (by decide) ?_);refine aaC (abR (name:=Str.ofString "__getitem__") ht.typeIs acb
  (abK acb ht.typeIs entry_tuple_getitem ?_ (args_tuple_getitem _ _)))
 show wpAny _ _ (Builtin.Tuple.tupleItemsOf (.ref t) >>= _) _ _ s;refine aaC (tupleItemsOf_ ht ?_);refine aaC (acd hTs ?_);rw[aaY (by decide)];refine aaC (B2 hs pl pu ?_);have Gy:¬((((p_ items.size 0 lo:Nat):Int) == 0&&(1:Int) == 1&&(p_ items.size items.size hi-p_ items.size 0 lo) == items.size)=true):=by intro q;rw[abI,abI]at q;have q1:((p_ items.size 0 lo:Nat):Int)=0:=eq_of_beq q.1.1;have q2:p_ items.size items.size hi-p_ items.size 0 lo=items.size:=eq_of_beq q.2;exact hw ⟨by lia,by lia⟩
 show wpAny _ _ (if(((p_ items.size 0 lo:Nat):Int) == 0&&(1:Int) == 1&&(p_ items.size items.size hi-p_ items.size 0 lo) == items.size)=true then _ else _) _ _ s;rw[aaR Gy,uU];first
  |exact aaC (m:=Builtin.Tuple.tupleExact _) (abx (aaE ⟨_,rfl,aaE h⟩) Hv)
  |exact aaC (m:=Builtin.Tuple.tupleExact _) (abx (aaC (aaE (aaE ⟨_,rfl,aaE h⟩))) Hv)
  |exact aaC (aaC (m:=Builtin.Tuple.tupleExact _) (abx (aaE (aaE ⟨_,rfl,aaE h⟩)) Hv))
  |exact aaC (aaC (m:=Builtin.Tuple.tupleExact _) (abx (aaE ⟨_,rfl,aaE h⟩) Hv))
end
end HT
namespace L2
open PySem PySem.Spec PyProof.Rows
abbrev TO:=St->Hp->(Option Int->Hp->Prop)->Prop
def PO(X:Cx)(e:Option Expr)(t:TO):Prop:=
 ∀(pins:List (Addr×Obj))(s:Shared)(σ:St)(H:Hp)(Q:Option Int->Hp->Prop),Inv X pins σ H s->t σ H Q ->
  wpAny (model X.prog X.w) X.A (evalPart e X.env) (λu s'=>∃o H',Inv X pins σ H' s'/\IsPart u o/\Q o H') X.xe s
noncomputable def Hl:TO:=λ_ H Q=>Q none H
inductive xf(Q:Option Int->Hp->Prop)(x:V)(H1:Hp):Prop
 |mk:∀i,x=.int i->Q (some i) H1->xf Q x H1
noncomputable def MG(t:TE):TO:=λσ H Q=>t σ H λx H1=>xf Q x H1
variable{xs:List V}
section
variable{X:Cx}{e:Expr}{te:TE}{lo hi:Option Expr}{tl th:TO}{pos p2:Pos}
def LJ:PO X none Hl:=by intro pins s σ H Q I h;rw[evalPart_none];exact aaE ⟨none,H,I,.none,h⟩
def LI(h:PE X e te):PO X (some e) (MG te):=by intro pins s σ H Q I hw;rw[evalPart_some];refine j9 (h pins s σ H _ I hw) ?_;rintro u s1 ⟨x,H1,I1,r1,q1⟩;obtain⟨i,rfl,q⟩:=q1;obtain⟨t,rfl⟩:=r1;exact⟨some i,H1,I1,.int i t,q⟩
def V8(X:Cx)(r:V->Option Int->Option Int->Hp->VK->Prop):Prop:=
 ∀(pins:List (Addr×Obj))(s:Shared)(σ:St)(H:Hp)(x:V)(v vl vu:Value)(lo hi:Option Int)(sl:Addr)(Q:VK),Inv X pins σ H s->RelV x v->s.heap.IsSliceOf sl vl vu .none->IsPart vl lo->IsPart vu hi->r x lo hi H Q ->
  ∃T id,typeLookup (.type T) "__getitem__" = pure (some (.builtin id))/\s.TypeIs v T/\wpAny (model X.prog X.w) X.A (getItem v (.ref sl)) (EP X pins σ Q) X.xe s
def tSl(r:V->Option Int->Option Int->Hp->VK->Prop)(te:TE)(tl th:TO):TE:=λσ H Q=>te σ H λx H1=>tl σ H1 λl H2=>th σ H2 λu H3=>r x l u H3 Q
def Jp{r:V->Option Int->Option Int->Hp->VK->Prop}(hr:V8 X r)(he:PE X e te)(hl:PO X lo tl)(hu:PO X hi th):PE X (.Subscript e (.Slice lo hi none p2) pos) (tSl r te tl th):=by intro pins s σ H Q I h;refine Subscript_ (j9 (he pins s σ H _ I h) ?_);rintro v s1 ⟨x,H1,I1,r1,q1⟩;refine wpAny_Slice (j9 (hl pins s1 σ H1 _ I1 q1) λvl s2 ⟨l,H2,I2,pl,q2⟩=>j9 (hu pins s2 σ H2 _ I2 q2) λvu s3 ⟨u,H3,I3,pu,q3⟩=>?_);rw[evalPart_none];refine aaE ?_;have I4:Inv X pins σ H3 { s3 with heap:=s3.heap.push { cls:=.type "slice",data:=.fields #[vl,vu,.none] } }:=I3.kept (t':=s3.toks) λb ob q=>aaH _ q;obtain⟨T,id,hT,ht,hg⟩:=hr pins { s3 with heap:=s3.heap.push { cls:=.type "slice",data:=.fields #[vl,vu,.none] } } σ H3 x v vl vu l u s3.heap.objs.size Q I4 r1 (Heap.IsSliceOf.new ..) pl pu q3;show wpAny (model X.prog X.w) X.A (subscriptTail e (.Slice lo hi none p2) v (.ref s3.heap.objs.size)) (EP X pins σ Q) X.xe { s3 with heap:=s3.heap.push { cls:=.type "slice",data:=.fields #[vl,vu,.none] } };exact tail_any (ops:=[.ref s3.heap.objs.size,v]) ht hT hg (by with_unfolding_all rfl)
noncomputable def gY(xs:List V)(lo hi:Option Int):List V:=(xs.drop (HT.p_ xs.length 0 lo)).take (HT.p_ xs.length xs.length hi-HT.p_ xs.length 0 lo)
theorem gL(xs:List V)(lo hi:Option Int):(gY xs lo hi).length<=xs.length:=by unfold gY;rw[aaZ,abP];lia
inductive Cv(K:W.Frag)(x:V)(lo hi:Option Int)(H:Hp)(Q:VK):Prop
 |mk:∀a xs,x=.ref a->b9 K H a xs->¬(HT.p_ xs.length 0 lo=0/\HT.p_ xs.length xs.length hi=xs.length)->(∀p,H p=none->Q (.ref p) (upd H p (.tup (gY xs lo hi))))->Cv K x lo hi H Q
def zR:V8 X (Cv X.K):=by
 intro pins s σ H x v vl vu lo hi sl Q I rx hs pl pu h;obtain⟨a,xs,rfl,hx,hw,q⟩:=h;cases rx;obtain⟨g8,r,ht,hz⟩:=I.tuple hx;have hlen:g8.toArray.size=xs.length:=by rw[aaP];exact r.length.symm
 refine⟨"tuple",_,PyProof.Rows.slot_tuple_getitem.lookup,ht.typeIs,?_⟩;refine HT.DW ht hs pl pu (by rw[hlen];exact hw) ?_ (by rw[hlen];exact hz);rw[hlen];refine⟨.ref s.heap.objs.size,_,I.laid (t':=s.toks) (o:=.tup (gY xs lo hi)) (λb ob q=>aaH _ q) (aaI _) ?_,rfl,q _ (I.i4.fresh (aaI _))⟩;exact⟨⟨abg (gL xs lo hi) hz,KA.new _ _ rfl⟩,_,(r.drop (HT.p_ xs.length 0 lo)).take (HT.p_ xs.length xs.length hi-HT.p_ xs.length 0 lo),IsTup.new _ _⟩
inductive Ap(K:W.Frag)(x y:V)(H:Hp)(Q:VK):Prop
 |mk:∀a b xs ys,x=.ref a->y=.ref b->b9 K H a xs->b9 K H b ys->xs≠[]->xs.length+ys.length<=sizeLine->(ys=[]->Q (.ref a) H)->(ys≠[]->∀p,H p=none->Q (.ref p) (upd H p (.tup (xs++ys))))->Ap K x y H Q
theorem Vals.DQ{us:List Value}(r:Vals xs us):us=[]↔xs=[]:=by
 cases r with
 |nil=>simp
 |cons _ _=>simp
def xY:B8 X (binaryOp .Add) (Ap X.K):=by intro pins s σ H x y v u Q I rx ry h;obtain⟨a,b,xs,ys,rfl,rfl,ha,hb,hx,hz,q1,q2⟩:=h;cases rx;cases ry;obtain⟨g8,r1,p1,_⟩:=I.tuple ha;obtain⟨EV,r2,p2,_⟩:=I.tuple hb;refine HT.Mx p1 p2 (λz=>hx (r1.DQ.mp z)) (λz=>⟨.ref a,H,I,rfl,q1 (r2.DQ.mp z)⟩) (λz=>?_) (by rw[<-r1.length,<-r2.length];exact hz);refine⟨.ref s.heap.objs.size,_,I.laid (t':=s.toks) (o:=.tup (xs++ys)) (λb ob q=>aaH _ q) (aaI _) ?_,rfl,q2 (λw=>z (r2.DQ.mpr w)) _ (I.i4.fresh (aaI _))⟩;exact⟨⟨by rw[aaF];exact hz,KA.new _ _ rfl⟩,_,r1.append r2,IsTup.new _ _⟩
end
noncomputable def Jx(n:Nat)(i:Int):Option Nat:=if 0<=i then(if i<n then some i.toNat else none)else if -(n:Int)<=i then some (i+n).toNat else none
variable{α:Type}
noncomputable def Dp(xs:List α)(i:Int):Option α:=(Jx xs.length i).bind λj=>xs[j]?
variable{n j:Nat}{i:Int}
theorem sN(h:Jx n i=some j):seqIndex? i n=some j/\j<n/\-(n:Int)<=i/\i<n:=by
 unfold Jx at h;by_cases h0:0<=i
 ·rw[aaY h0]at h;by_cases h1:i<n
  ·rw[aaY h1]at h;have e:i.toNat=j:=aa0 h;exact⟨by rw[seqIndex_of h0 h1,e],by lia,by lia,h1⟩
  ·rw[aaR h1]at h;cases h
 ·rw[aaR h0]at h;by_cases h1:-(n:Int)<=i
  ·rw[aaY h1]at h;have e:(i+n).toNat=j:=aa0 h;exact⟨by rw[seqIndex_neg (by lia) h1,e],by lia,h1,by lia⟩
  ·rw[aaR h1]at h;cases h
theorem lW{xs:List α}{v:α}(h:Dp xs i=some v):∃j,seqIndex? i xs.length=some j/\xs[j]?=some v/\j<xs.length/\-(xs.length:Int)<=i/\i<xs.length:=by
 unfold Dp at h;cases e:Jx xs.length i with
 |none=>rw[e]at h;cases h
 |some j=>
  rw[e]at h;obtain⟨h1,h2,h3,h4⟩:=sN e;exact⟨j,h1,h,h2,h3,h4⟩
theorem aV{xs:List α}{v:α}(h:xs[j]?=some v):Dp xs (j:Int)=some v:=by
 have hj:j<xs.length:=(List.getElem?_eq_some_iff.mp h).1;have e:Jx xs.length (j:Int)=some j:=by unfold Jx;rw[aaY (by lia),aaY (by lia)];simp
 unfold Dp;rw[e];exact h
def ue(b:Expr):Prop:=∀o i,subscripted b false o i=operate [o,i] (getItem o i)
def Qx(X:Cx)(r:R2):Prop:=
 ∀(value slice:Expr)(pins:List (Addr×Obj))(s:Shared)(σ:St)(H:Hp)(x y:V)(v u:Value)(Q:VK),Inv X pins σ H s->RelV x v->RelV y u->r x y H Q ->
  subscripted slice false v u=operate [v,u] (getItem v u)->wpAny (model X.prog X.w) X.A (subscriptTail value slice v u) (EP X pins σ Q) X.xe s
def Rr(X:Cx)(id:String)(r:V->List V->Hp->VK->Prop):Prop:=
 ∀(pins:List (Addr×Obj))(s:Shared)(σ:St)(H:Hp)(x:V)(xs:List V)(v:Value)(us:List Value)(Q:VK),Inv X pins σ H s->RelV x v->Vals xs us->r x xs H Q ->
  wpAny (model X.prog X.w) X.A (call (.builtin id) (v::us)) (EP X pins σ Q) X.xe s
variable{pins:List (Addr×Obj)}{g8 its':List Value}{s:Shared}{v:Value}{σ:St}{H:Hp}
section
variable{X:Cx}{a b:Expr}{ta tb:TE}{pos:Pos}
def R6{r:R2}(hr:Qx X r)(ha:PE X a ta)(hb:PE X b tb)(hs:ue b):PE X (.Subscript a b pos) (MH r ta tb):=by intro pins s σ H Q I h;exact Subscript_ (Ch ha hb I h λv u s2 x y H2 I2 rx ry q=>hr a b pins s2 σ H2 x y v u Q I2 rx ry q (hs _ _))
inductive BS(K:W.Frag)(x y:V)(H:Hp)(Q:VK):Prop
 |mk:∀p xs i v,x=.ref p->y=.int i->d9 K H p xs->Dp xs i=some v->Q v H->BS K x y H Q
inductive BR(K:W.Frag)(x y:V)(H:Hp)(Q:VK):Prop
 |mk:∀p xs i v,x=.ref p->y=.int i->b9 K H p xs->Dp xs i=some v->Q v H->BR K x y H Q
inductive Cz(x y:V)(H:Hp)(Q:VK):Prop
 |mk:∀z i c,x=.str z->y=.int i->z.length<=sizeLine->Dp z.cps.toList i=some c->Q (.str ⟨#[c]⟩) H->Cz x y H Q
theorem aO:Qx X (BS X.K):=by
 intro value slice pins s σ H x y v u Q I rx ry h hs;obtain⟨p,xs,i,z,rfl,rfl,hq,he,q⟩:=h;cases rx;obtain⟨t,rfl⟩:=ry;obtain⟨g8,r,pl,hz⟩:=I.list hq;obtain⟨j,h1,h2,h3,h4,h5⟩:=lW he;obtain⟨w,ew,Dk⟩:=r.get h2;have hl:=r.length;have hn:=io;have fin:EP X pins σ Q w s:=⟨z,H,I,Dk,q⟩
 by_cases h0:0<=i
 ·have hj:i.toNat=j:=by
   rw[seqIndex_of h0 h5]at h1;exact aa0 h1
  exact item_listR pl.isList h0 (by lia) (by rw[hj];simpa using ew) fin hs
 ·have hj:(i+(g8.toArray.size:Int)).toNat=j:=by
   rw[seqIndex_neg (by lia) h4]at h1;rw[aaP,<-hl];exact aa0 h1
  exact subscriptTail_builtinR (x:=w) pl.isList.typeIs slot_list_getitem.lookup
   (wpAny_getItem_list_neg (Q:=λr s'=>r=w/\EP X pins σ Q r s') pl.isList (by lia) (by rw[aaP]<;>lia) (by lia) (by rw[hj];simpa using ew) ⟨rfl,fin⟩) hs
theorem ak:Qx X (BR X.K):=by
 intro value slice pins s σ H x y v u Q I rx ry h hs;obtain⟨p,xs,i,z,rfl,rfl,hq,he,q⟩:=h;cases rx;obtain⟨t,rfl⟩:=ry;obtain⟨g8,r,pl,hz⟩:=I.tuple hq;obtain⟨j,h1,h2,h3,h4,h5⟩:=lW he;obtain⟨w,ew,Dk⟩:=r.get h2;have hl:=r.length;have hn:=io;have fin:EP X pins σ Q w s:=⟨z,H,I,Dk,q⟩
 exact subscriptTail_builtinR (x:=w) pl.typeIs slot_tuple_getitem.lookup
  (getItem_tuple (j:=j) (Q:=λr s'=>r=w/\EP X pins σ Q r s') pl (by lia) (by lia) (by rw[aaP,<-hl];exact h1) (by simpa using ew) ⟨rfl,fin⟩) hs
theorem wO:Qx X Cz:=by
 intro value slice pins s σ H x y v u Q I rx ry h hs;obtain⟨z,i,c,rfl,rfl,hz,he,q⟩:=h;obtain⟨t,rfl⟩:=rx;obtain⟨t',rfl⟩:=ry;obtain⟨j,h1,h2,h3,h4,h5⟩:=lW he;have hl:z.cps.toList.length=z.length:=by simp[Str.length]
 rw[hl]at h1 h4 h5;have hn:=io;exact tail_any (typeIs_str s z t) slot_str_getitem.lookup (getItem_str (c:=c) (by
  have e1:decide (i < -(2 ^ 63:Int))=false:=aaW (by lia);have e2:decide (i>=2 ^ 63)=false:=aaW (by lia);rw[e1,e2,Bool.or_false]) (by rw[h1];simpa using h2) ⟨.str ⟨#[c]⟩,H,I.tok _,⟨_,rfl⟩,q⟩) hs
def pK(g8:List Value)(n j:Nat)(u:Value):Obj.mapSeq (·.setIfInBounds j u) { cls:=.type "list",data:=.seq g8.toArray n }={ cls:=.type "list",data:=.seq (g8.set j u).toArray n }:=by simp[Obj.mapSeq]
theorem Inv.lst{pins:List (Addr×Obj)}{σ:St}{H:Hp}{s:Shared}{p:Addr}{xs:List V}(I:Inv X pins σ H s)(h:H p=some (.lst xs)):
 ∃(g8:List Value)(n:Nat),Vals xs g8/\s.heap.get? p=some { cls:=.type "list",data:=.seq g8.toArray n }/\xs.length<=sizeLine:=by
 obtain⟨z,g8,n,r,e⟩:=I.i4 p _ h;exact⟨g8,n,r,e,z⟩
def Inv.Pe{p:Addr}{ys:List V}{n':Nat}{f:Obj->Obj}(I:Inv X pins σ H s)(h:H p=some (.lst xs))(ho:s.heap.get? p=some { cls:=.type "list",data:=.seq g8.toArray n })(hf:f { cls:=.type "list",data:=.seq g8.toArray n }={ cls:=.type "list",data:=.seq its'.toArray n' })(r:Vals ys its')(hz:ys.length<=sizeLine)(t:Nat):
 Inv X pins σ (upd H p (.lst ys)) { s with heap:=s.heap.update p f,toks:=t }:=by
 have e:(s.heap.update p f).get? p=some { cls:=.type "list",data:=.seq its'.toArray n' }:=by rw[abC f ho (by rw[hf]<;>rfl),hf]
 refine I.write (x:=p) (e:=p) (by rw[h];trivial) (.inl rfl) (λb u hb q=>(abA _ _ (abF hb)).trans q) ⟨_,e⟩ ?_;exact⟨hz,its',n',r,e⟩
inductive Al(o i v:V)(H:Hp)(Q:(Hp->Prop)):Prop
 |mk:∀p xs k j,o=.ref p->i=.int k->H p=some (.lst xs)->Jx xs.length k=some j->Q (upd H p (.lst (xs.set j v)))->Al o i v H Q
theorem uB:zq X Al:=by
 intro pins s σ H o i v ov iv u Q I ro ri rv h;obtain⟨p,xs,k,j,rfl,rfl,hp,hj,q⟩:=h;cases ro;obtain⟨t,rfl⟩:=ri;obtain⟨g8,n,r,ho,hz⟩:=I.lst hp;obtain⟨h1,h2,h3,h4⟩:=sN hj;have hl:=r.length;have hn:=io;have I':Inv X pins σ (upd H p (.lst (xs.set j v))) { s with heap:=s.heap.update p (Obj.mapSeq (·.setIfInBounds j u)) }:=
  I.Pe hp ho (pK g8 n j u) (r.set rv j) (by rw[List.length_set];exact hz) s.toks
 by_cases h0:0<=k
 ·have hk:k.toNat=j:=by
   rw[seqIndex_of h0 h4]at h1;exact aa0 h1
  exact PySem.W.ki_setAt ho h0 (by lia) (by rw[aaP,<-hl];exact h4) (by rw[hk];exact⟨_,I',q⟩)
 ·have hk:(k+(g8.toArray.size:Int)).toNat=j:=by
   rw[seqIndex_neg (by lia) h3]at h1;rw[aaP,<-hl];exact aa0 h1
  exact PySem.W.ki_setBack ho (by lia) (by rw[aaP,<-hl];exact h3) (by lia) (by rw[hk];exact⟨_,I',q⟩)
theorem jz(lo hi:Option Int)(n:Nat):(sliceBounds lo hi none n).1=((HT.p_ n 0 lo:Nat):Int)/\(sliceBounds lo hi none n).2.1=((HT.p_ n n hi:Nat):Int)/\(sliceBounds lo hi none n).2.2=1:=by
 refine⟨?_,?_,rfl⟩
 ·cases lo with
  |none=>simp[sliceBounds,HT.p_]
  |some i=>
   simp only[sliceBounds,HT.p_,Option.getD_none,show(1:Int)>0 by decide,ac6];by_cases h:i<0
   ·simp only[h,ac6]<;>lia
   ·simp only[h,abV]<;>lia
 ·cases hi with
  |none=>simp[sliceBounds,HT.p_]
  |some i=>
   simp only[sliceBounds,HT.p_,Option.getD_none,show(1:Int)>0 by decide,ac6];by_cases h:i<0
   ·simp only[h,ac6]<;>lia
   ·simp only[h,abV]<;>lia
def iE(g8:List Value)(lo hi:Option Int):slicePick g8.toArray lo hi none=((g8.drop (HT.p_ g8.length 0 lo)).take (HT.p_ g8.length g8.length hi-HT.p_ g8.length 0 lo)).toArray:=by obtain⟨h1,h2,h3⟩:=jz lo hi g8.toArray.size;unfold slicePick;rw[h1,h2,h3];simp only[sliceRange_one,pick_run,aaP]<;>rfl
inductive Cw(K:W.Frag)(x:V)(lo hi:Option Int)(H:Hp)(Q:VK):Prop
 |mk:∀a xs,x=.ref a->d9 K H a xs->(∀p,H p=none->Q (.ref p) (upd H p (.lst (gY xs lo hi))))->Cw K x lo hi H Q
theorem eZ:V8 X (Cw X.K):=by intro pins s σ H x v vl vu lo hi sl Q I rx hs pl pu h;obtain⟨a,xs,rfl,hx,q⟩:=h;cases rx;obtain⟨g8,r,ht,hz⟩:=I.list hx;have hlen:=r.length;refine⟨"list",_,slot_list_getitem.lookup,ht.isList.typeIs,?_⟩;refine wpAny_getItem_list_slice ht.isList hs pl pu .none (by simp) ?_ (by rw[aaP]<;>lia);rw[iE,<-hlen];refine⟨.ref s.heap.objs.size,_,I.laid (t':=s.toks) (o:=.lst (gY xs lo hi)) (λb ob q=>aaH _ q) (aaI _) ?_,rfl,q _ (I.i4.fresh (aaI _))⟩;exact⟨abg (gL xs lo hi) hz,_,0,(r.drop (HT.p_ xs.length 0 lo)).take (HT.p_ xs.length xs.length hi-HT.p_ xs.length 0 lo),aaT _ rfl⟩
noncomputable def vM:V->Bool
 |.q8=>true
 |.bl _=>true
 |.int _=>true
 |.str _=>true
 |_=>false
noncomputable def Mv:V->V->Bool
 |.q8,.q8=>true
 |.bl a,.bl b=>a == b
 |.bl a,.int b=>(if a then 1 else 0) == b
 |.int a,.bl b=>a == (if b then 1 else 0)
 |.int a,.int b=>a == b
 |.str a,.str b=>a == b
 |_,_=>false
theorem Bb{A:Around}{y x:V}{u:Value}(ry:RelV y u)(rx:RelV x v)(fy:vM y=true)(fx:vM x=true):SeqAt.EqAt A s u v (Mv y x):=by
 cases y with
 |q8=>
  cases ry;cases x with
  |q8=>cases rx;exact aeu _
  |bl b=>cases rx;exact SeqAt.EqAt.none_bool b
  |int b=>obtain⟨t,rfl⟩:=rx;exact SeqAt.EqAt.none_int b t
  |str b=>obtain⟨t,rfl⟩:=rx;exact SeqAt.EqAt.none_str b t
  |_=>exact absurd (show false=true from fx) aaQ
 |bl a=>
  cases ry;cases x with
  |q8=>cases rx;exact SeqAt.EqAt.bool_none a
  |bl b=>cases rx;exact SeqAt.EqAt.bool_bool a b
  |int b=>obtain⟨t,rfl⟩:=rx;exact SeqAt.EqAt.bool_int a b t
  |str b=>obtain⟨t,rfl⟩:=rx;exact SeqAt.EqAt.bool_str a b t
  |_=>exact absurd (show false=true from fx) aaQ
 |int a=>
  obtain⟨t',rfl⟩:=ry;cases x with
  |q8=>cases rx;exact SeqAt.EqAt.int_none a t'
  |bl b=>cases rx;exact SeqAt.EqAt.int_bool a t' b
  |int b=>obtain⟨t,rfl⟩:=rx;exact SeqAt.EqAt.int_int a t' b t
  |str b=>obtain⟨t,rfl⟩:=rx;exact SeqAt.EqAt.int_str a t' b t
  |_=>exact absurd (show false=true from fx) aaQ
 |str a=>
  obtain⟨t',rfl⟩:=ry;cases x with
  |q8=>cases rx;exact SeqAt.EqAt.str_none a t'
  |bl b=>cases rx;exact SeqAt.EqAt.str_bool a t' b
  |int b=>obtain⟨t,rfl⟩:=rx;exact SeqAt.EqAt.str_int a t' b t
  |str b=>obtain⟨t,rfl⟩:=rx;exact SeqAt.EqAt.str_str a t' b t
  |_=>exact absurd (show false=true from fx) aaQ
 |_=>exact absurd (show false=true from fy) aaQ
inductive jm(K:W.Frag)(xs:List V)(H:Hp)(Q:VK):Prop
 |mk:∀p ys,xs=[.ref p]->d9 K H p ys\/b9 K H p ys->Q (.int ys.length) H->jm K xs H Q
theorem av:eg X (.builtin "len") (jm X.K):=by
 intro pins s σ H xs us Q I r h;obtain⟨p,ys,rfl,hq,q⟩:=h;obtain⟨u,rfl,rx⟩:=gT r;cases rx;have hn:=io;rcases hq with hq|hq
 ·obtain⟨g8,r',pl,hz⟩:=I.list hq;have hlen:=r'.length;exact Calls.call_len_list pl.isList (by simp only[aaP]<;>lia) ⟨.int ys.length,H,I.tok _,⟨s.toks+1,by rw[aaP,hlen]⟩,q⟩
 ·obtain⟨g8,r',pl,hz⟩:=I.tuple hq;have hlen:=r'.length;exact len_tuple pl (by simp only[aaP]<;>lia) ⟨.int ys.length,H,I.tok _,⟨s.toks+1,by rw[aaP,hlen]⟩,q⟩
inductive nM(K:W.Frag)(xs:List V)(H:Hp)(Q:VK):Prop
 |mk:∀p ys,xs=[.ref p]->d9 K H p ys\/b9 K H p ys->(∀l,H l=none->Q (.ref l) (upd H l (.lst ys)))->nM K xs H Q
theorem kq:eg X (.type "list") (nM X.K):=by
 intro pins s σ H xs us Q I r h;obtain⟨p,ys,rfl,hq,q⟩:=h;obtain⟨u,rfl,rx⟩:=gT r;cases rx;have fin:∀(g8:List Value),Vals ys g8->ys.length<=sizeLine->∀(h':Heap)(c':Nat),(∀b o',s.heap.get? b=some o'->h'.get? b=some o') ->
  h'.get? s.heap.objs.size=some { cls:=.type "list",dict:=none,data:=.seq g8.toArray c',slots:=#[] }->EP X pins σ Q (.ref s.heap.objs.size) { s with heap:=h' }:=λg8 r' hz h' c' kp e=>
  ⟨.ref s.heap.objs.size,_,I.laid (t':=s.toks) kp (aaI _) (show i9 X.prog X.w _ h' _ (.lst ys)from⟨hz,g8,c',r',e⟩),rfl,q _ (I.i4.fresh (aaI _))⟩
 rcases hq with hq|hq
 ·obtain⟨g8,r',pl,hz⟩:=I.list hq;have hlen:=r'.length;obtain⟨o,ho,hc,n,hd⟩:=pl.isList;exact call_list_seq p (.inl rfl) ho hc hd (λh' c' kp e=>fin g8 r' hz h' c' kp e) (by simp only[aaP]<;>lia)
 ·obtain⟨g8,r',pl,hz⟩:=I.tuple hq;have hlen:=r'.length;obtain⟨o,ho,hc,n,hd⟩:=pl;exact call_list_seq p (.inr rfl) ho hc hd (λh' c' kp e=>fin g8 r' hz h' c' kp e) (by simp only[aaP]<;>lia)
inductive kG(K:W.Frag)(xs:List V)(H:Hp)(Q:VK):Prop
 |mk:∀p ys,xs=[.ref p]->(d9 K H p ys/\∀l,H l=none->Q (.ref l) (upd H l (.tup ys)))\/(b9 K H p ys/\Q (.ref p) H)->kG K xs H Q
theorem be:eg X (.type "tuple") (kG X.K):=by
 intro pins s σ H xs us Q I r h;obtain⟨p,ys,rfl,h⟩:=h;obtain⟨u,rfl,rx⟩:=gT r;cases rx;rcases h with⟨hq,q⟩|⟨hq,q⟩
 ·obtain⟨g8,r',pl,hz⟩:=I.list hq;have hlen:=r'.length;refine call_tuple_list pl.isList (λh' kp=>?_) (by simp only[aaP]<;>lia);have I1:Inv X pins σ H { s with heap:=h' }:=I.kept (t':=s.toks) kp;have I2:Inv X pins σ (upd H h'.objs.size (.tup ys)) { s with heap:=h'.push { cls:=.type "tuple",data:=.seq g8.toArray } }:=
   I1.laid (t':=s.toks) (λb o e=>aaH _ e) (aaI _) (show i9 X.prog X.w _ _ _ (.tup ys)from⟨⟨hz,KA.new _ _ rfl⟩,g8,r',IsTup.new _ _⟩)
  exact⟨.ref h'.objs.size,_,I2,rfl,q _ (I1.i4.fresh (aaI _))⟩
 ·obtain⟨g8,r',pl,hz⟩:=I.tuple hq;exact call_tuple_same pl ⟨.ref p,H,I,rfl,q⟩
def Yu(K:W.Frag)(T:String)(x:V)(H:Hp):Prop:=match x with
 |.str _=>T = "str"
 |.int _=>T = "int"
 |.ref p=>(T = "list"/\∃xs,d9 K H p xs)\/(T = "tuple"/\∃o,K.lookup p=some o/\o.cls=.type "tuple"/\o.dict=none) \/
  (T = "dict"/\((∃e_,H p=some (.dK e_))\/∃e_,H p=some (.dT e_)))\/(T = "set"/\∃S n,H p=some (.set S n))
 |_=>False
theorem wg{T:String}{x:V}(I:Inv X pins σ H s)(r:RelV x v)(ty:Yu X.K T x H):
 s.TypeIs v T/\∀a,v=.ref a->∃ob,s.heap.get? a=some ob/\ob.dict=none:=by
 cases x with
 |str z=>
  obtain⟨t,rfl⟩:=r;cases(show T = "str" from ty);exact⟨typeIs_str s z t,λ_ e=>nomatch e⟩
 |int i=>
  obtain⟨t,rfl⟩:=r;cases(show T = "int" from ty);exact⟨typeIs_int s i t,λ_ e=>nomatch e⟩
 |ref p=>
  cases r;rcases ty with⟨rfl,xs,hq⟩|⟨rfl,o,hk,hc,hd⟩|⟨rfl,hk⟩|⟨rfl,S,n,hk⟩
  ·obtain⟨g8,_,pl,_⟩:=I.list hq;refine⟨pl.isList.typeIs,λa e=>?_⟩;cases e;obtain⟨o,n,e,c,hd,_⟩:=pl;exact⟨o,e,hd⟩
  ·refine⟨⟨o,I.DZ p o hk,hc⟩,λa e=>?_⟩;cases e;exact⟨o,I.DZ _ o hk,hd⟩
  ·have z:∃o,s.heap.get? p=some o/\o.ExactDict:=by
    rcases hk with⟨e_,hk⟩|⟨e_,hk⟩
    ·obtain⟨_,_,_,_,o,_,_,e,ex,_⟩:=I.i4 p _ hk;exact⟨o,e,ex⟩
    ·obtain⟨_,_,_,_,o,_,_,e,ex,_⟩:=I.i4 p _ hk;exact⟨o,e,ex⟩
   obtain⟨o,e,ex⟩:=z;refine⟨⟨o,e,ex.1⟩,λa e2=>?_⟩;cases e2;exact⟨o,e,ex.2.1⟩
  ·obtain⟨o,_,_,_,e,ex,_⟩:=I.i4 p _ hk;refine⟨⟨o,e,ex.1⟩,λa e2=>?_⟩;cases e2;exact⟨o,e,ex.2.1⟩
 |_=>exact False.elim ty
def RM(K:W.Frag)(T:String)(r:V->List V->Hp->VK->Prop)(to:TE):TE:=λσ H Q=>to σ H λx H1=>Yu K T x H1/\r x [] H1 Q
def Yx(K:W.Frag)(T:String)(r:V->List V->Hp->VK->Prop)(to:TE)(t:TA):TE:=λσ H Q=>to σ H λx H1=>Yu K T x H1/\t σ H1 λxs H2=>r x xs H2 Q
variable{o e:Expr}{es:List Expr}{to:TE}{t:TA}{name:Str}{apos l_:Pos}{T id:String}{r:V->List V->Hp->VK->Prop}
theorem O7(pa:PlainAttrs T)(slot:Slot T name id)(L4:typeOf (.builtin id)=pure (.type "method_descriptor"))(hm:Rr X id r)(ho:PE X o to)(DV:attributeBase o name X.env (eval o X.env)=eval o X.env)(DR:(apos.endLine == l_.line)=true):PE X (.Call (.Attribute o name apos) [] [] l_) (RM X.K T r to):=by intro pins s σ H Q I h;refine wpAny_Call_method0_late DV DR (j9 (ho pins s σ H _ I h) ?_);rintro v s1 ⟨x,H1,I1,r1,ty,q1⟩;obtain⟨h1,h2⟩:=wg I1 r1 ty;exact⟨T,id,pa,slot,L4,h1,h2,Calls.callWith_builtin rfl (PySem.evalArgs_none (hm pins s1 σ H1 x [] v [] Q I1 r1 .nil q1))⟩
theorem R7(pa:PlainAttrs T)(slot:Slot T name id)(L4:typeOf (.builtin id)=pure (.type "method_descriptor"))(hm:Rr X id r)(ho:PE X o to)(ha:PA X (e::es) t)(DV:attributeBase o name X.env (eval o X.env)=eval o X.env)(JL:((backTo l_ (starEach (e::es) X.env)).all (λx=>!x.1)&&(backToKw l_ (keywordEach [] X.env)).all (λx=>x.1.isSome)
 && decide ((e::es).length+([]:List Keyword).length+(if([]:List Keyword).isEmpty then 0 else 1)<30))=true)(DR:(apos.endLine == l_.line)=true)(hs:starEach (e::es) X.env=(false,eval e X.env)::starEach es X.env)(EC:(backTo l_ (starEach es X.env)).any (·.1)=false):
 PE X (.Call (.Attribute o name apos) (e::es) [] l_) (Yx X.K T r to t):=by
 intro pins s σ H Q I h;refine wpAny_Call_method_late DV JL DR rfl (j9 (ho pins s σ H _ I h) ?_);rintro v s1 ⟨x,H1,I1,r1,ty,q1⟩;obtain⟨h1,h2⟩:=wg I1 r1 ty;refine⟨T,id,pa,slot,L4,h1,h2,?_⟩;have hA:=ha l_ pins s1 σ H1 _ I1 q1;rw[hs]at hA⊢;refine Calls.callWith_builtin (by show(false||(backTo l_ (starEach es X.env)).any (·.1))=false;rw[EC]<;>rfl) (adY ?_);exact j9 hA λus s2 ⟨vs,H2,I2,r2,q2⟩=>hm pins s2 σ H2 x vs v us Q I2 r1 r2 q2
end
def Ym(X:Cx)(id:String)(r:V->List V->Hp->VK->Prop):Prop:=
 ∀(pins:List (Addr×Obj))(s:Shared)(σ:St)(H:Hp)(x:V)(xs:List V)(v:Value)(us:List Value)(Q:VK),Inv X pins σ H s->RelV x v->Vals xs us->r x xs H Q ->
  wpAny (model X.prog X.w) X.A (call (.builtin id) (v::us)) (EP X pins σ Q) X.xe s
theorem Vals.one:∀{x:V}{us:List Value},Vals [x] us->∃u,us=[u]/\RelV x u
 |_,_,.cons r .nil=>⟨_,rfl,r⟩
theorem Vals.zero:∀{us:List Value},Vals [] us->us=[]
 |_,.nil=>rfl
theorem Vals.dropLast{xs:List V}{us:List Value}(h:Vals xs us):Vals xs.dropLast us.dropLast:=by
 induction h with
 |nil=>exact .nil
 |cons r t ih=>
  cases t with
  |nil=>exact .nil
  |cons q t'=>exact .cons r ih
theorem Vals.reverse{xs:List V}{us:List Value}(h:Vals xs us):Vals xs.reverse us.reverse:=by
 induction h with
 |nil=>exact .nil
 |cons r t ih=>rw[acQ,acQ];exact Vals.append ih (.cons r .nil)
theorem pR(l:List α):l.eraseIdx (l.length-1)=l.dropLast:=by
 induction l with
 |nil=>rfl
 |cons a r ih=>
  cases r with
  |nil=>rfl
  |cons b r=>
   have e:(a::b::r).length-1=((b::r).length-1)+1:=by have h1:(a::b::r).length=r.length+2:=rfl;have h2:(b::r).length=r.length+1:=rfl;lia
   rw[e,List.eraseIdx_cons_succ,ih];all_goals rfl
variable{t':Nat}
section
variable{X:Cx}{pins:List (Addr×Obj)}{σ:St}{H:Hp}{s:Shared}{l b:Addr}{xs ys zs:List V}
def Inv.Fs{f:Array Value->Array Value}(I:Inv X pins σ H s)(hH:H l=some (.lst xs))(e:s.heap.get? l=some { cls:=.type "list",data:=.seq g8.toArray n })(hf:f g8.toArray=its'.toArray)(hv:Vals ys its')(hz:ys.length<=sizeLine):
 Inv X pins σ (upd H l (.lst ys)) { s with heap:=s.heap.update l (Obj.mapSeq f),toks:=t' }:=by
 have q:=PySem.IsL.update e f;rw[hf]at q;refine I.write (x:=l) (e:=l) (by rw[hH];exact trivial) (.inl rfl) (λb' u hb hu=>(abA s.heap (Obj.mapSeq f) (abF hb)).trans hu) ⟨_,q⟩ ?_;exact⟨hz,its',_,hv,q⟩
def Inv.lnew(I:Inv X pins σ H s)(hv:Vals ys g8)(hz:ys.length<=sizeLine):
 Inv X pins σ (upd H s.heap.objs.size (.lst ys)) { s with heap:=s.heap.push { cls:=.type "list",data:=.seq g8.toArray },toks:=t' }:=
 I.laid (λ_ _ q=>aaH _ q) (aaI _) ⟨hz,g8,0,hv,aaT _ rfl⟩
theorem Inv.fresh(I:Inv X pins σ H s):H s.heap.objs.size=none:=I.i4.fresh (aaI _)
def Inv.GN(I:Inv X pins σ H s)(hH:H l=some (.lst xs)):xs.length<=sizeLine/\∃(g8:List Value)(n:Nat),Vals xs g8/\xs.length=g8.length/\s.heap.get? l=some { cls:=.type "list",data:=.seq g8.toArray n }:=by obtain⟨z,g8,n,r,e⟩:=I.i4 l _ hH;exact⟨z,g8,n,r,r.length,e⟩
theorem vp(h:n<=sizeLine):Builtin.List.listTooLong n=false:=by unfold Builtin.List.listTooLong;exact aaW (by lia)
end
section
variable{X:Cx}
inductive rB(x:V)(vs:List V)(H:Hp)(Q:VK):Prop
 |mk:∀l xs y,x=.ref l->vs=[y]->H l=some (.lst xs)->xs.length<sizeLine->Q .q8 (upd H l (.lst (xs++[y])))->rB x vs H Q
theorem bo:Ym X "list.append" rB:=by intro pins s σ H x vs v us Q I rx rv h;obtain⟨l,xs,y,rfl,rfl,hH,hz,q⟩:=h;cases rx;obtain⟨u,rfl,ru⟩:=rv.one;obtain⟨z,g8,n,r,hl,e⟩:=I.GN hH;refine adi F.slot_list_append ⟨_,e,rfl⟩ F.entry_list_append (F.args_list_append_2 _ _) (PySem.list_append l g8.toArray n u (by rw[aaP];lia)) ⟨e,?_⟩;refine⟨.q8,_,I.Fs (its':=g8++[u]) hH e (by simp) (r.append (.cons ru .nil)) ?_,rfl,q⟩;rw[aaF,aaS];lia
inductive rA(x:V)(vs:List V)(H:Hp)(Q:VK):Prop
 |mk:∀l b xs zs,x=.ref l->vs=[.ref b]->H l=some (.lst xs)->H b=some (.lst zs)->xs.length+zs.length<=sizeLine->Q .q8 (upd H l (.lst (xs++zs)))->rA x vs H Q
theorem jP:Ym X "list.extend" rA:=by
 intro pins s σ H x vs v us Q I rx rv h;obtain⟨l,b,xs,zs,rfl,rfl,hH,hB,hz,q⟩:=h;cases rx;obtain⟨u,rfl,ru⟩:=rv.one;cases ru;obtain⟨z,g8,n,r,hl,e⟩:=I.GN hH;obtain⟨z2,EV,n2,r2,Md,e2⟩:=I.GN hB;have hsz:g8.toArray.size+EV.toArray.size<=sizeLine:=by rw[aaP,aaP];lia
 have T7:¬(!g8.toArray.isEmpty&&Builtin.List.listTooLong (g8.toArray.size+EV.toArray.size))=true:=by rw[vp hsz,adE];exact aaQ
 refine adi F.slot_list_extend ⟨_,e,rfl⟩ F.entry_list_extend (F.args_list_extend_2 _ _)
  (AutoSeq1.list_extend_list_list_0 l g8.toArray n b EV.toArray n2 T7 (by rw[aaP];lia) (by lia)) ⟨e,e2,?_⟩
 refine⟨.q8,_,I.Fs (its':=g8++EV) hH e (by simp) (r.append r2) ?_,rfl,q⟩;rw[aaF];lia
inductive Cy(x:V)(vs:List V)(H:Hp)(Q:VK):Prop
 |mk:∀l xs y,x=.ref l->vs=[]->H l=some (.lst xs)->xs[xs.length-1]?=some y->Q y (upd H l (.lst xs.dropLast))->Cy x vs H Q
theorem cO:Ym X "list.pop" Cy:=by
 intro pins s σ H x vs v us Q I rx rv h;obtain⟨l,xs,y,rfl,rfl,hH,hy,q⟩:=h;cases rx;have v_:=rv.zero;subst v_;obtain⟨z,g8,n,r,hl,e⟩:=I.GN hH;obtain⟨u,hu,ru⟩:=r.get hy;have Xj:g8.toArray[g8.toArray.size-1]?=some u:=by show g8.toArray[g8.length-1]?=some u;rw[<-aeE,<-hl];exact hu
 refine adi F.slot_list_pop ⟨_,e,rfl⟩ F.entry_list_pop (F.args_list_pop_1 _) (MeetsSeq.list_pop_last l g8.toArray n u Xj (by rw[aaP];lia)) ⟨e,?_⟩;refine⟨y,_,I.Fs (its':=g8.dropLast) hH e ?_ r.dropLast ?_,ru,q⟩
 ·show g8.toArray.eraseIdxIfInBounds (g8.toArray.size-1)=g8.dropLast.toArray;rw[aaP,List.eraseIdxIfInBounds_toArray,pR]
 ·rw[List.length_dropLast];lia
def Ao:V->List V->Hp->VK->Prop:=λx vs H Q=>∃l xs,x=.ref l/\vs=[]/\H l=some (.lst xs)/\Q .q8 (upd H l (.lst []))
theorem vC:Ym X "list.clear" Ao:=by intro pins s σ H x vs v us Q I rx rv h;obtain⟨l,xs,rfl,rfl,hH,q⟩:=h;cases rx;have v_:=rv.zero;subst v_;obtain⟨z,g8,n,r,hl,e⟩:=I.GN hH;refine adi F.slot_list_clear ⟨_,e,rfl⟩ F.entry_list_clear (F.args_list_clear_1 _) (AutoSeq1.list_clear_list_0 l g8.toArray n (by rw[aaP];lia)) ⟨e,?_⟩;exact⟨.q8,_,I.Fs (its':=[]) (ys:=[]) hH e rfl .nil (aa3 _),rfl,q⟩
inductive CB(x y:V)(H:Hp)(Q:VK):Prop
 |mk:∀l b xs zs,x=.ref l->y=.ref b->H l=some (.lst xs)->H b=some (.lst zs)->xs.length+zs.length<=sizeLine->(∀p,H p=none->Q (.ref p) (upd H p (.lst (xs++zs))))->CB x y H Q
theorem mL:B8 X (binaryOp .Add) CB:=by
 intro pins s σ H x y v u Q I rx ry h;obtain⟨l,b,xs,zs,rfl,rfl,hH,hB,hz,q⟩:=h;cases rx;cases ry;obtain⟨z,g8,n,r,hl,e⟩:=I.GN hH;obtain⟨z2,EV,n2,r2,Md,e2⟩:=I.GN hB;refine PySem.P.add_list e e2 ?_ (by rw[aaP,aaP];lia);have ea:g8.toArray++EV.toArray=(g8++EV).toArray:=by simp
 rw[ea];exact⟨.ref _,_,I.lnew (t':=s.toks) (r.append r2) (by rw[aaF];lia),rfl,q _ I.fresh⟩
end
section
variable{prog:Program}{w:World}{A:Around}{E:Value->Shared->Prop}{s:Shared}
end
section
variable{X:Cx}
end
end L2
namespace Att
open PySem PySem.W PySem.Calls PyProof.Rows
variable{P:Params}{h:Heap}
theorem gB:∀(ns:List Int)(vs:List Value),WellAll P h vs (ns.map WData.int)->IntsAre vs ns:=by
 intro ns;induction ns with
 |nil=>
  intro vs w;rw[acR]at w;cases w;exact .nil
 |cons n ns ih=>
  intro vs w;rw[aa7]at w;cases w with
  |cons a b=>
   cases a;exact .cons _ _ (ih _ b)
theorem qZ{l:OpenLaw}{n:Nat}(hn:l.most=some n){args:List WData}{db:List Value}(Ij:l.row.toRowW.claim.pre args=true)(hwl:WellAll P h db args):
 ∃a vs ns,db=[Value.ref a]/\args=[WData.list (ns.map WData.int)]/\h.get? a=some { cls:=.type "list",data:=.seq vs.toArray }/\IntsAre vs ns/\ns.length<=n:=by
 have Ic:WShape.hasAll [] args [.list .int]=true:=(pre_splitW Ij).1;have hc:l.pre.holds [] { args:=args }=true:=(pre_splitW Ij).2;obtain⟨d,r,rfl,h1,h2⟩:=hasAllW_cons Ic;obtain rfl:=hasAllW_nil h2;obtain⟨xs,rfl,h3⟩:=hasW_list h1;obtain⟨ns,rfl⟩:=items_int h3;have hlen:ns.length<=n:=by
  unfold OpenLaw.pre at hc;have h4:(WTm.not (.lt (.lit (.int (n:Int))) (.len (.arg 0)))).holds [] { args:=[.list (ns.map .int)] }=true:=by have h4:=(holds_andW hc).1;rw[hn]at h4;exact h4
  have h5:=condW_of h4 (w_not (w_lt w_lit (w_len_list (w_arg rfl))));rw[aaG]at h5;refine Nat.le_of_not_lt λq=>?_;have q':(n:Int)<((ns.length:Nat):Int):=by lia
  first
   |(rw[abb q']at h5;exact absurd h5 (by decide))
   |(simp at h5;lia)
 cases hwl with
 |cons w1 w2=>
  cases w2;cases w1 with
  |list ho G'=>exact⟨_,_,ns,rfl,rfl,ho,gB ns _ G',hlen⟩
def rO(l:OpenLaw)(args:List WData):l.row.toRowW.claim.post args (.bool true) args=true:=
 postW_of (r:=l.row.toRowW) (X:=(true == true))
  (show WShape.has [] (.bool true) .bool=true by first|rfl|decide|simp[WShape.has,WShape.arms,WShape.armsAll])
  (show(WTm.eq .res (.lit (.bool true))).value [] { args:=args,res:=some (.bool true),after:=args }=some (.bool (true == true))from w_eq_bool (w_res rfl) w_lit) rfl
def Gj{l:OpenLaw}{n:Nat}{q:Program}{loose:List Str}{XP:(Str->Option Value)->Heap->Prop}{YP:World->Heap->Prop}{d:DefRec}(hn:l.most=some n)(UH:d.params.defaults=[])(call:∀(w:World) (s₀ i8:Shared) (mg mb:Str->Option Value) (fa:Addr) (o:Obj) (pm cd doc:Value) (a:Addr) (vs:List Value) (ns:List Int),
 Ground q loose [] XP w s₀ mg mb i8.heap->YP w i8.heap ->
 i8.heap.get? fa=some o->o.data=.func (docDef d.name d.params d.body d.scope pm cd doc)->i8.heap.CodeRec cd d.name->mg d.name=some (.ref fa) ->
 i8.heap.get? a=some { cls:=.type "list",data:=.seq vs.toArray }->IntsAre vs ns->ns.length<=n->i8.gens=#[] ->
 codeAny (model l.prog w) callerA (.call (.ref fa) ⟨[.ref a],[]⟩) (λr s'=>r=.ok (.ret (.bool true))/\OldK i8.heap s'.heap/\s'.os=i8.os/\AllBare s'.gens) i8):
 WalkO q loose XP YP l.row.toRowW d [] (λf vs=>PySem.call f vs):=by
 intro w s₀ i8 mg mb G Y fa o pm cd doc dV kV ho hd ER hD TY hg args db as Ij hlay hrd hwl hlo;obtain rfl:dV=.none:=Dflts.none hD UH;obtain rfl:kV=.none:=Dflts.noKw hD;obtain⟨a,vs,ns,rfl,rfl,PQ,hints,hlen⟩:=qZ hn Ij hwl;refine enter_call (acr (call w s₀ i8 mg mb fa o pm cd doc a vs ns G Y ho (fd_plain hd) ER TY PQ hints hlen hg) λr s' hq=>?_);obtain⟨rfl,h2,h3,h4⟩:=hq;exact⟨.inl ⟨.bool true,.bool true,[],rfl,λ_=>rfl,.bool true,rO l _,λ_=>⟨List.Pairwise.nil,λ_ hm=>(nomatch hm)⟩⟩,h2,h3,h4⟩
section
variable{prog:Program}{w:World}{A:Around}{E:Value->Shared->Prop}{s:Shared}{K:Frag}
end
end Att
namespace L2
open PySem PySem.Spec PyProof.Rows
theorem jp:∀{vs:List Value}{ns:List Int},IntsAre vs ns->Vals (ns.map V.int) vs
 |_,_,.nil=>.nil
 |_,_,.cons n t h=>.cons ⟨t,rfl⟩ (jp h)
def Bs(H:Hp):Prop:=∀b,H b=none\/∃o xs,H b=some (.Hd o (.lst xs))
variable{K:W.Frag}{fd:FuncData}{x:Str}{a:Addr}
theorem vE{P:Program}{w:World}{mg mb:Str->Option Value}{CX:Gq}{k:Nat}{fa:Addr}{sp:Sp}{i8:Shared}{vs:List Value}{ns:List Int}(KX:K.In i8.heap)(Ed:i8.heap.Ns mainGlobals mg)(hb:i8.heap.Ns builtinsNs mb)(IL:∀x:Str,x ≠ "__name__"->mb x=bootBuiltins x)(hlim:i8.heap.NoLimit)(hg:i8.gens=#[])(ha:i8.heap.get? a=some { cls:=.type "list",data:=.seq vs.toArray })(hi:IntsAre vs ns)(hl:ns.length<=sizeLine)(hr:r6 k callerA)(F:∀base:Heap,K.In base->base.Ns mainGlobals mg->i6 P w K mg base CX k fa fd [x] sp)(UO:∀(s:Shared) (u:Value),BindsTo s fd ⟨[u],[]⟩ [(x,u)])(A5:∀H:Hp,Bs H->d9 K H a (ns.map V.int)->sp [.ref a] H (λv _=>v=.bl true) λ_ _ _=>False)(U1:∀H e s',CX [] H i8 (λ_ _ _=>False) e s'->False):
 codeAny (model P w) callerA (.call (.ref fa) ⟨[.ref a],[]⟩) (λr s'=>r=.ok (.ret (.bool true))/\OldK i8.heap s'.heap/\s'.os=i8.os/\AllBare s'.gens) i8:=by
 have rv:=jp hi;have lenV:=hi.length;have core:∀H:Hp,Bs H->d9 K H a (ns.map V.int)->A8 P w H i8.heap->(∀b,H b≠none->b=a)->(H a≠none->K.lookup a=none) ->
  codeAny (model P w) callerA (.call (.ref fa) ⟨[.ref a],[]⟩) (λr s'=>r=.ok (.ret (.bool true))/\OldK i8.heap s'.heap/\s'.os=i8.os/\AllBare s'.gens) i8:=by
  intro H hO hS i4 hA hK;have HG:∀{b:Addr}{o:Obj},i8.heap.get? b=some o->H b=none->(vH i8.heap H).get? b=some o:=λe n=>vG e n;have R_:∀{b:Addr}{o:Obj}{es:Array DictEntry}{ep:Nat},i8.heap.get? b=some o->o.data=.dict es ep->H b=none:=λ{b o es ep} e d=>by
   cases q:H b with
   |none=>rfl
   |some u=>
    have e':b=a:=hA b (by rw[q];simp);subst e';rw[ha]at e;cases e;have d':Data.seq vs.toArray _=Data.dict es ep:=d;cases d'
  have Xa:∀{b:Addr}{m:Str->Option Value},i8.heap.Ns b m->(vH i8.heap H).Ns b m:=λ{b m} ⟨o,es,ep,e,d,r⟩=>⟨o,es,ep,HG e (R_ e d),d,r⟩
  have hKb:K.In (vH i8.heap H):=λb o e=>HG (KX b o e) (by
   cases q:H b with
   |none=>rfl
   |some u=>
    have e':b=a:=hA b (by rw[q];simp);subst e';rw[hK (by rw[q];simp)]at e;cases e)
  have hM:Mod K mg (vH i8.heap H):=⟨hKb,Xa Ed,⟨mb,Xa hb,IL⟩,let⟨mc,h1,h2⟩:=hlim;⟨mc,Xa h1,h2⟩⟩
  have e0:Hj P w K mg (vH i8.heap H) callerA [] i8 H:=⟨rfl,hM,λb o e=>yj e,Nat.le_of_eq (sV _ _),trivial,λb hb=>absurd (show b∈([]:List Addr)from hb) (by simp),i4,.of_eq hg⟩
  refine acr ((F _ hKb (Xa Ed)).run callerA [] i8 H ⟨[.ref a],[]⟩ [.ref a] [.ref a] _ _ hr e0 (UO i8 (.ref a)) (.cons rfl .nil) (A5 H hO hS)) λr s' h=>?_;cases r with
  |error e=>exact(U1 H e s' h).elim
  |ok fl=>
   cases fl with
   |next=>exact False.elim h
   |brk=>exact False.elim h
   |cont=>exact False.elim h
   |ret u=>
    obtain⟨v,H',os,bare,un,GW,r',q⟩:=h;have q':v=.bl true:=q;subst q';obtain rfl:u=Value.bool true:=r';refine⟨rfl,OldK.of_keep λb o e=>?_,os,bare⟩;cases q:H b with
    |none=>exact un.keep b o e q (by intro z;exact absurd (show b∈([]:List Addr)from z) (by simp)) (by simp)
    |some u=>
     rcases hO b with z|⟨ob,xs,z⟩
     ·rw[q]at z;cases z
     ·have z2:=un.B5 b ob _ z;obtain⟨e1,_⟩:=i4 b _ z;obtain⟨e2,_⟩:=GW b _ z2;rw[e]at e1;cases e1;exact e2
 cases hk:K.lookup a with
 |some o=>
  have e:=KX a o hk;rw[ha]at e;cases e;refine core (λ_=>none) (λ_=>.inl rfl) (.inr ⟨_,vs.toArray,_,hk,rfl,rfl,rfl,by rw[aaP,lenV];exact hl,by simpa using rv⟩) (λb u z=>by have z':(none:Option HO)=some u:=z;cases z') (λb z=>absurd rfl z) λz=>absurd rfl z
 |none=>
  refine core (λb=>if b=a then some (.Hd { cls:=.type "list",data:=.seq vs.toArray } (.lst (ns.map V.int)))else none) (λb=>?_) (.inl (.inr ⟨{ cls:=.type "list",data:=.seq vs.toArray },aaY rfl⟩)) (λb u z=>?_) (λb z=>?_) λ_=>hk
  ·by_cases hb:b=a
   ·exact .inr ⟨_,_,aaY hb⟩
   ·exact .inl (aaR hb)
  ·by_cases hb:b=a
   ·have z':=(aaY hb).symm.trans z;cases z';subst hb;exact⟨ha,by rw[aaG];exact hl,vs,_,rv,ha⟩
   ·have z':=(aaR hb).symm.trans z;cases z'
  ·by_cases hb:b=a
   ·exact hb
   ·exact absurd (aaR hb) z
abbrev KOf{h:Heap}(_:K.In h):W.Frag:=K
def xu{l:PySem.W.OpenLaw}{n k:Nat}{q:Program}{loose:List Str}{XP:(Str->Option Value)->Heap->Prop}{YP:World->Heap->Prop}{d:DefRec}{K:Params->W.Frag}{CX:World->Gq}{sp:World->Sp}{x:Str}(hn:l.most=some n)(Q7:n<=sizeLine)(UH:d.params.defaults=[])(hr:r6 k callerA)(hY:∀(w:World) (h:Heap),YP w h->(K w.params).In h)(F:∀(w:World) (mg:Str->Option Value) (fa:Addr) (h:Heap),(K w.params).In h->h.Ns mainGlobals mg->mg d.name=some (.ref fa) ->
 ∃fd:FuncData,(∀(s:Shared) (u:Value),BindsTo s fd ⟨[u],[]⟩ [(x,u)]) /\
  ∀base:Heap,(K w.params).In base->base.Ns mainGlobals mg->i6 l.prog w (K w.params) mg base (CX w) k fa fd [x] (sp w))(A5:∀(w:World) (H:Hp) (a:Addr) (ns:List Int),ns.length<=n->Bs H->d9 (K w.params) H a (ns.map V.int)->sp w [.ref a] H (λv _=>v=.bl true) λ_ _ _=>False)(U1:∀(w:World) (H:Hp) (s:Shared) (e:Value) (s':Shared),CX w [] H s (λ_ _ _=>False) e s'->False):
 PySem.W.WalkO q loose XP YP l.row.toRowW d [] (λf vs=>PySem.call f vs):=by
 refine Att.Gj hn UH λw s₀ i8 mg mb fa o pm cd doc a vs ns G Y ho hd ER TY PQ hints hlen hg=>?_;have KX:=hY w _ Y;obtain⟨fd,hb,hF⟩:=F w mg fa _ KX G.T.g TY;exact vE KX G.T.g G.T.b G.T.builtins G.T.nolimit hg PQ hints (abg hlen Q7) hr hF hb (λH hO hS=>A5 w H a ns hlen hO hS) λH e s'=>U1 w H i8 e s'
def IW{l:PySem.W.OpenLaw}{n k:Nat}{q:Program}{loose:List Str}{XP:(Str->Option Value)->Heap->Prop}{YP:World->Heap->Prop}{d:DefRec}{K:Params->W.Frag}{CX:Gq}{sp:W.Frag->Sp}{x:Str}(hn:l.most=some n)(Q7:n<=sizeLine)(UH:d.params.defaults=[])(hr:r6 k callerA)(hY:∀(w:World) (h:Heap),YP w h->(K w.params).In h)(F:∀(w:World) (mg:Str->Option Value) (fa:Addr) (h:Heap),(K w.params).In h->h.Ns mainGlobals mg->mg d.name=some (.ref fa) ->
 ∃fd:FuncData,(∀(s:Shared) (u:Value),BindsTo s fd ⟨[u],[]⟩ [(x,u)]) /\
  ∀base:Heap,(K w.params).In base->base.Ns mainGlobals mg->i6 l.prog w (K w.params) mg base CX k fa fd [x] (sp (K w.params)))(A5:∀(K:W.Frag) (H:Hp) (a:Addr) (ns:List Int),ns.length<=n->Bs H->d9 K H a (ns.map V.int)->sp K [.ref a] H (λv _=>v=.bl true) λ_ _ _=>False)(U1:∀(H:Hp) (s:Shared) (e:Value) (s':Shared),CX [] H s (λ_ _ _=>False) e s'->False):
 PySem.W.WalkO q loose XP YP l.row.toRowW d [] (λf vs=>PySem.call f vs):=
 xu (K:=K) (CX:=λ_=>CX) (sp:=λw=>sp (K w.params)) hn Q7 UH hr hY F (λw H a ns h1 h2 h3=>A5 (K w.params) H a ns h1 h2 h3) λ_ H s e s'=>U1 H s e s'
noncomputable def yB(s:Stmt)(j:Nat):Stmt:=match s with
 |.ClassDef _ _ _ body _ _ _ _ _ _ _=>body.getD j (.Pass ⟨0,0,0,0⟩)
 |_=>.Pass ⟨0,0,0,0⟩
noncomputable def aD(s:Stmt):Arguments:=match s with
 |.FunctionDef _ a _ _ _ _ _ _ _ _=>a
 |_=>{ posonlyargs:=[],args:=[],vararg:=none,kwonlyargs:=[],kw_defaults:=[],kwarg:=none,defaults:=[] }
noncomputable def az(s:Stmt):List Stmt:=match s with
 |.FunctionDef _ _ b _ _ _ _ _ _ _=>b
 |_=>[]
noncomputable def ah(s:Stmt):Scope:=match s with
 |.FunctionDef _ _ _ _ _ _ sc _ _ _=>sc
 |_=>{ kind:=.function,names:=[],isGenerator:=false,isCoroutine:=false }
abbrev A6:Gq:=λ_ _ _ _ _ _=>False
abbrev E0:XK:=λ_ _ _=>False
def bg{X:Cx}:gQ A6 X E0:=λ_ _ _ _ _ _ _ h=>h.elim
structure v9(K:W.Frag)(x qual:Str)(st:Stmt)(f:Addr)(fd:FuncData):Prop where
 ex:∃(oc:Value)(od:Option Addr)(kV doc pm:Value)(an:Option Addr)(m_ ct:Value)(Js:Array (Option Value)),
  fd=PySem.W.fnOf x qual (aD st) (az st) (ah st) .none kV doc pm an m_ ct/\K.lookup f=some ⟨oc,od,.func fd,Js⟩/\PySem.W.codeIn K m_ qual=true
 kp:PySem.W.keepIn K (.ref f)=true
variable{qual:Str}{st:Stmt}{f:Addr}
section
variable{P:Program}{w:World}{K:W.Frag}{mg:Str->Option Value}{base:Heap}
def v9.ok{x qual:Str}{st:Stmt}{f:Addr}{fd:FuncData}{N ps:List Str}{k:Nat}{sp:Sp}(F:v9 K x qual st f fd)(S:aF N ps (ah st))(len:∀vs H Q E,sp vs H Q E->vs.length=ps.length)(DU:∀(m_:Value) (A:Around) (outer:List Env) (s:Shared) (H:Hp) (vs:List V) (Q:VK) (E:XK),r6 k (A.deeper (envOfC qual (ah st) s.heap.objs.size f m_))->sp vs H Q E ->
 ∃t,HI (cg A6 P w K mg base N qual (ah st) f m_ A outer s H E).Pa (az st) t/\t { nx:=λ_ H'=>Q .q8 H',rt:=Q } (start N vs) H):i6 P w K mg base A6 (k+1) f fd ps sp:=by
 obtain⟨oc,od,kV,doc,pm,an,m_,ct,Js,rfl,lk,ER⟩:=F.ex;refine yF lk ER S len λA outer s H vs Q E hr A5=>?_;obtain⟨t,h,q⟩:=DU m_ A outer s H vs Q E hr A5;exact⟨t,h.Pa,q⟩
def v9.binds{ps:List Str}(F:v9 K x qual st f fd)(h:∀(kV doc pm:Value) (an:Option Addr) (m_ ct:Value) (us:List Value),us.length=ps.length->bindArgs (PySem.W.fnOf x qual (aD st) (az st) (ah st) .none kV doc pm an m_ ct) ⟨us,[]⟩=pure (ps.zip us)):Binds K fd ps []:=by obtain⟨oc,od,kV,doc,pm,an,m_,ct,Js,rfl,lk,ER⟩:=F.ex;exact .all (h kV doc pm an m_ ct)
def aQ{oc:Value}{od an:Option Addr}{Js:Array (Option Value)}{kV doc pm m_ ct:Value}(l:K.lookup f=some ⟨oc,od,.func (PySem.W.fnOf x qual (aD st) (az st) (ah st) .none kV doc pm an m_ ct),Js⟩)(c:PySem.W.codeIn K m_ qual=true)(k:PySem.W.keepIn K (.ref f)=true):v9 K x qual st f (PySem.W.fnOf x qual (aD st) (az st) (ah st) .none kV doc pm an m_ ct):=⟨⟨oc,od,kV,doc,pm,an,m_,ct,Js,rfl,l,c⟩,k⟩
end
section
variable{X:Cx}
def pv(i:Nat){x:Str}{pos:Pos}(hN:autoParam (X.N[i]?=some x) θ)(hv:V6 X.env.scope x:=by first|exact Or.inl rfl|exact Or.inr oI1|exact Or.inr oJ1)(hd:autoParam ((x == ("__debug__" : Str))=false) ξ)(ER:autoParam ((x == ("__classdict__" : Str))=false) ξ):PE X (.Name x pos) (Lw i):=AA hN hv hd ER
def ρ:Lean.Syntax:=pv._auto_1
end
variable{A B:Prop}
def lI(h:B):if false=true then A else B:=by rw[aaR aaQ];exact h
def zl(h:A):if true=true then A else B:=by rw[aaY rfl];exact h
def a_(H H':Hp):Prop:=∀b o,H b=some o->H' b=some o
def a_.refl(H:Hp):a_ H H:=λ_ _ h=>h
variable{H:Hp}
def a_.trans{H1 H2:Hp}(a:a_ H H1)(b:a_ H1 H2):a_ H H2:=λc o h=>b c o (a c o h)
variable{H':Hp}
theorem a_.free(e:a_ H H'){l:Addr}(h:H' l=none):H l=none:=by
 cases q:H l with
 |none=>rfl
 |some o=>
  rw[e l o q]at h;cases h
def a_.seq{xs:List V}(e:a_ H H')(h:d9 K H a xs):d9 K H' a xs:=by
 rcases h with(h|⟨o,h⟩)|h
 ·exact .inl (.inl (e _ _ h))
 ·exact .inl (.inr ⟨o,e _ _ h⟩)
 ·exact .inr h
end L2
set_option maxHeartbeats 4000000
namespace L2
open PySem PySem.Spec PyProof.Rows
set_option genInjectivity true in
inductive Da where
 |fl (v:V)
 |tup (ds:List Da)
 |lst (ds:List Da)
mutual
def w9(K:W.Frag)(H:Hp):Da->V->Prop
 |.fl x,v=>v=x/\vM x=true
 |.tup ds,v=>∃a xs,v=.ref a/\b9 K H a xs/\m5 K H ds xs
 |.lst ds,v=>∃a xs,v=.ref a/\d9 K H a xs/\m5 K H ds xs
def m5(K:W.Frag)(H:Hp):List Da->List V->Prop
 |[],xs=>xs=[]
 |d::ds,xs=>∃v vs,xs=v::vs/\w9 K H d v/\m5 K H ds vs
end
mutual
noncomputable def C9:Da->Da->Bool
 |.fl x,.fl y=>Mv x y
 |.tup a,.tup b=>cQ a b
 |.lst a,.lst b=>cQ a b
 |_,_=>false
noncomputable def cQ:List Da->List Da->Bool
 |[],[]=>true
 |a::r,b::t=>C9 a b&&cQ r t
 |_,_=>false
end
mutual
noncomputable def gX:Da->Nat
 |.fl _=>0
 |.tup ds=>bv ds+1
 |.lst ds=>bv ds+1
noncomputable def bv:List Da->Nat
 |[]=>0
 |d::ds=>max (gX d) (bv ds)
end
theorem m5.len{K:W.Frag}{H:Hp}:∀{ds:List Da}{xs:List V},m5 K H ds xs->ds.length=xs.length
 |[],xs,h=>by unfold m5 at h;subst h;rfl
 |d::ds,xs,h=>by unfold m5 at h;obtain⟨v,vs,rfl,_,t⟩:=h;rw[aaM,aaM,m5.len t]
theorem m5.get{K:W.Frag}{H:Hp}:∀{ds:List Da}{xs:List V}{i:Nat}{d:Da}{v:V},m5 K H ds xs->ds[i]?=some d->xs[i]?=some v->w9 K H d v
 |[],_,_,_,_,_,e,_=>by simp at e
 |d::ds,xs,0,_,_,h,e,q=>by
  unfold m5 at h;obtain⟨v,vs,rfl,hd,t⟩:=h;simp at e q;subst e q;exact hd
 |d::ds,xs,i+1,_,_,h,e,q=>by unfold m5 at h;obtain⟨v,vs,rfl,hd,t⟩:=h;exact m5.get t (by simpa using e) (by simpa using q)
theorem jd{x:V}(h:vM x=true):Mv x x=true:=by
 cases x with
 |q8=>rfl
 |bl b=>show(b == b)=true;simp
 |int i=>show(i == i)=true;simp
 |str z=>show(z == z)=true;simp
 |_=>exact absurd (show false=true from h) aaQ
variable{xs:List V}{K:W.Frag}{ds:List Da}{ws us:List Value}{n:Nat}
section
variable{X:Cx}{pins:List (Addr×Obj)}{σ:St}{H:Hp}{s:Shared}
def Inv.Hs(I:Inv X pins σ H s){a:Addr}{ys:List V}(h:d9 X.K H a xs)(h':b9 X.K H a ys):False:=by obtain⟨g8,_,⟨o1,n1,e1,c1,_⟩,_⟩:=I.list h;obtain⟨EV,_,⟨o,e2,c2,_⟩,_⟩:=I.tuple h';rw[e1]at e2;cases e2;rw[c1]at c2;exact absurd (Value.type.inj c2) (by decide)
def w9.DX{a:Addr}{x:V}(h:w9 K H (.fl x) (.ref a)):False:=by unfold w9 at h;obtain⟨e,f⟩:=h;subst e;exact absurd (show false=true from f) aaQ
mutual
theorem w9.inj(I:Inv X pins σ H s):∀(d e:Da){v:V},w9 X.K H d v->w9 X.K H e v->d=e
 |.fl x,.fl y,v,h,q=>by
  unfold w9 at h q;rw[<-h.1,<-q.1]
 |.fl x,.tup ys,v,h,q=>by
  unfold w9 at q;obtain⟨a,zs,e,_⟩:=q;subst e;exact h.DX.elim
 |.fl x,.lst ys,v,h,q=>by
  unfold w9 at q;obtain⟨a,zs,e,_⟩:=q;subst e;exact h.DX.elim
 |.tup xs,.fl y,v,h,q=>by
  unfold w9 at h;obtain⟨a,zs,e,_⟩:=h;subst e;exact q.DX.elim
 |.lst xs,.fl y,v,h,q=>by
  unfold w9 at h;obtain⟨a,zs,e,_⟩:=h;subst e;exact q.DX.elim
 |.tup xs,.tup ys,v,h,q=>by
  unfold w9 at h q;obtain⟨a,us,e,ha,hs⟩:=h;obtain⟨b,ws,e',hb,qs⟩:=q;subst e;cases e';rw[I.E5 ha hb]at hs;rw[m5.inj I xs ys hs qs]
 |.lst xs,.lst ys,v,h,q=>by
  unfold w9 at h q;obtain⟨a,us,e,ha,hs⟩:=h;obtain⟨b,ws,e',hb,qs⟩:=q;subst e;cases e';rw[I.FV ha hb]at hs;rw[m5.inj I xs ys hs qs]
 |.tup xs,.lst ys,v,h,q=>by
  unfold w9 at h q;obtain⟨a,us,e,ha,hs⟩:=h;obtain⟨b,ws,e',hb,qs⟩:=q;subst e;cases e';exact(I.Hs hb ha).elim
 |.lst xs,.tup ys,v,h,q=>by unfold w9 at h q;obtain⟨a,us,e,ha,hs⟩:=h;obtain⟨b,ws,e',hb,qs⟩:=q;subst e;cases e';exact(I.Hs ha hb).elim
theorem m5.inj(I:Inv X pins σ H s):∀(ds es:List Da){vs:List V},m5 X.K H ds vs->m5 X.K H es vs->ds=es
 |[],[],_,_,_=>rfl
 |[],e::es,vs,h,q=>by
  unfold m5 at h q;obtain⟨v,r,e1,_⟩:=q;rw[h]at e1;cases e1
 |d::ds,[],vs,h,q=>by
  unfold m5 at h q;obtain⟨v,r,e1,_⟩:=h;rw[q]at e1;cases e1
 |d::ds,e::es,vs,h,q=>by unfold m5 at h q;obtain⟨v,r,e1,h1,h2⟩:=h;obtain⟨v',r',e2,q1,q2⟩:=q;subst e1;cases e2;rw[w9.inj I d e h1 q1,m5.inj I ds es h2 q2]
end
mutual
theorem je{K:W.Frag}:∀(d:Da){v:V},w9 K H d v->C9 d d=true
 |.fl x,v,h=>by
  unfold w9 at h;unfold C9;exact jd h.2
 |.tup ds,v,h=>by
  unfold w9 at h;obtain⟨_,_,_,_,hs⟩:=h;unfold C9;exact gE ds hs
 |.lst ds,v,h=>by unfold w9 at h;obtain⟨_,_,_,_,hs⟩:=h;unfold C9;exact gE ds hs
theorem gE{K:W.Frag}:∀(ds:List Da){vs:List V},m5 K H ds vs->cQ ds ds=true
 |[],_,_=>by unfold cQ;rfl
 |d::ds,vs,h=>by unfold m5 at h;obtain⟨_,_,_,h1,h2⟩:=h;unfold cQ;rw[je d h1,gE ds h2];rfl
end
theorem dX:∀(ds es:List Da),ds.length=es.length->(List.range ds.length).all (λj=>match ds[j]?,es[j]? with|some a,some b=>C9 a b|_,_=>false)=cQ ds es
 |[],[],_=>by unfold cQ;rfl
 |[],_::_,h=>by simp at h
 |_::_,[],h=>by simp at h
 |d::ds,e::es,h=>by have ih:=dX ds es (by simpa using h);unfold cQ;rw[<-ih,aaM,List.range_succ_eq_map,List.all_cons,List.all_map];simp only[aep,Function.comp_def,acg]
theorem dW:∀(ds es:List Da),ds.length≠es.length->cQ ds es=false
 |[],[],h=>by simp at h
 |[],_::_,_=>by unfold cQ;rfl
 |_::_,[],_=>by unfold cQ;rfl
 |d::ds,e::es,h=>by unfold cQ;rw[dW ds es (by simpa using h),adE]
theorem jh:∀{ds:List Da}{d:Da}{j:Nat},ds[j]?=some d->gX d<=bv ds
 |[],_,_,h=>by simp at h
 |d::ds,_,0,h=>by
  simp at h;subst h;unfold bv;lia
 |d::ds,e,j+1,h=>by have:=jh (ds:=ds) (d:=e) (j:=j) (by simpa using h);unfold bv;lia
noncomputable def HH(ds es:List Da)(j:Nat):Bool:=match ds[j]?,es[j]? with
 |some a,some b=>C9 a b
 |_,_=>false
theorem lH{A:Around}(hE:∀(d e:Da) (v x:V) (u w:Value),gX d<=n->w9 K H d v->w9 K H e x->RelV v u->RelV x w->SeqAt.EqAt A s u w (C9 d e)){es:List Da}{ys:List V}(F':bv ds<=n)(h1:m5 K H ds xs)(h2:m5 K H es ys)(r1:Vals xs us)(r2:Vals ys ws)(j:Nat)(l1:j<us.toArray.size)(l2:j<ws.toArray.size):SeqAt.EqAt A s us.toArray[j] ws.toArray[j] (HH ds es j):=by
 have l1':j<us.length:=by simpa using l1
 have l2':j<ws.length:=by simpa using l2
 have q1:=h1.len;have q2:=h2.len;have q3:=r1.length;have q4:=r2.length;have a1:ds[j]?=some ds[j]:=aaO (by lia);have a2:es[j]?=some es[j]:=aaO (by lia);have a3:xs[j]?=some xs[j]:=aaO (by lia);have a4:ys[j]?=some ys[j]:=aaO (by lia);obtain⟨u1,b1,c1⟩:=r1.get a3;obtain⟨w1,b2,c2⟩:=r2.get a4;have e1:us.toArray[j]=u1:=by
  have:us[j]=u1:=by rw[aaO l1']at b1;exact aa0 b1
  simpa using this
 have e2:ws.toArray[j]=w1:=by
  have:ws[j]=w1:=by rw[aaO l2']at b2;exact aa0 b2
  simpa using this
 rw[e1,e2];unfold HH;rw[a1,a2];exact hE ds[j] es[j] _ _ _ _ (abg (jh a1) F') (h1.get a1 a3) (h2.get a2 a4) c1 c2
theorem nj(I:Inv X pins σ H s):∀(n:Nat)(d e:Da){A:Around}{v x:V}{u w:Value},gX d<=n->w9 X.K H d v->w9 X.K H e x->RelV v u->RelV x w->A.units+n<cLine->SeqAt.EqAt A s u w (C9 d e):=by
 intro n;induction n with
 |zero=>
  intro d e A v x u w hn hd he ru Dk hu;cases d with
  |tup ds=>unfold gX at hn;lia
  |lst ds=>unfold gX at hn;lia
  |fl y=>
   unfold w9 at hd;obtain⟨rfl,fy⟩:=hd;cases e with
   |fl z=>
    unfold w9 at he;obtain⟨rfl,fz⟩:=he;unfold C9;exact Bb ru Dk fy fz
   |tup es=>
    unfold w9 at he;obtain⟨a,xs,rfl,ha,_⟩:=he;obtain⟨g8,_,p,_⟩:=I.tuple ha;cases Dk;have p':s.heap.IsTuple a g8.toArray:=p;cases v with
    |q8=>cases ru;exact SeqAt.EqAt.none_tuple p' (by lia)
    |bl b=>cases ru;exact SeqAt.EqAt.bool_tuple b p' (by lia)
    |int i=>obtain⟨t,rfl⟩:=ru;exact SeqAt.EqAt.int_tuple i t p' (by lia)
    |str z=>obtain⟨t,rfl⟩:=ru;exact SeqAt.EqAt.str_tuple z t p' (by lia)
    |_=>exact absurd (show false=true from fy) aaQ
   |lst es=>
    unfold w9 at he;obtain⟨a,xs,rfl,ha,_⟩:=he;obtain⟨g8,_,p,_⟩:=I.list ha;cases Dk;have p':=p.isList;cases v with
    |q8=>cases ru;exact SeqAt.EqAt.none_list p' (by lia)
    |bl b=>cases ru;exact SeqAt.EqAt.bool_list b p' (by lia)
    |int i=>obtain⟨t,rfl⟩:=ru;exact SeqAt.EqAt.int_list i t p' (by lia)
    |str z=>obtain⟨t,rfl⟩:=ru;exact SeqAt.EqAt.str_list z t p' (by lia)
    |_=>exact absurd (show false=true from fy) aaQ
 |succ n ih=>
  intro d e A v x u w hn hd he ru Dk hu;have items:∀{ds es:List Da}{xs ys:List V}{us ws:List Value},bv ds<=n->m5 X.K H ds xs->m5 X.K H es ys->Vals xs us->Vals ys ws ->
   ∀j (h1:j<us.toArray.size) (h2:j<ws.toArray.size),SeqAt.EqAt A.in1 s us.toArray[j] ws.toArray[j] (HH ds es j):=
   lH (n:=n) λd e v x u w h1 h2 h3 h4 h5=>ih d e h1 h2 h3 h4 h5 (by show A.units+1+n<cLine;lia)
  cases d with
  |fl y=>
   exact ih (.fl y) e (by unfold gX;lia) hd he ru Dk (by lia)
  |tup ds=>
   cases e with
   |fl z=>
    unfold w9 at hd he;obtain⟨a,xs,rfl,ha,_⟩:=hd;obtain⟨rfl,fz⟩:=he;obtain⟨g8,_,p,_⟩:=I.tuple ha;cases ru;have p':s.heap.IsTuple a g8.toArray:=p;cases x with
    |q8=>cases Dk;exact SeqAt.EqAt.tuple_none p' (by lia)
    |bl b=>cases Dk;exact SeqAt.EqAt.tuple_bool b p' (by lia)
    |int i=>obtain⟨t,rfl⟩:=Dk;exact SeqAt.EqAt.tuple_int i t p' (by lia)
    |str z=>obtain⟨t,rfl⟩:=Dk;exact SeqAt.EqAt.tuple_str z t p' (by lia)
    |_=>exact absurd (show false=true from fz) aaQ
   |tup es=>
    have UJ:=hd;have JN:=he;unfold w9 at hd he;obtain⟨a,xs,rfl,ha,hs⟩:=hd;obtain⟨b,ys,rfl,hb,qs⟩:=he;cases ru;cases Dk;by_cases Lp:a=b
    ·subst Lp;rw[<-w9.inj I (.tup ds) (.tup es) UJ JN,je _ UJ];exact aeu _
    ·obtain⟨us,r1,p1,_⟩:=I.tuple ha;obtain⟨ws,r2,p2,_⟩:=I.tuple hb;have F':bv ds<=n:=by unfold gX at hn;lia
     have key:=SeqAt.RcAt.tuples (A:=A) (e:=HH ds es) (show s.heap.IsTuple a us.toArray from p1) (show s.heap.IsTuple b ws.toArray from p2) (by lia) (items F' hs qs r1 r2);have ev:((List.range (min us.toArray.size ws.toArray.size)).all (HH ds es)&&us.toArray.size == ws.toArray.size)=C9 (.tup ds) (.tup es):=by
      have q1:=hs.len;have q2:=qs.len;have q3:=r1.length;have q4:=r2.length;have z1:us.toArray.size=ds.length:=by simp;lia
      have z2:ws.toArray.size=es.length:=by simp;lia
      unfold C9;rw[z1,z2];by_cases hl:ds.length=es.length
      ·rw[<-dX ds es hl,hl,Nat.min_self,beq_self_eq_true,Bool.and_true];rfl
      ·rw[dW ds es hl,beq_eq_false_iff_ne.mpr hl,adE]
     rw[ev]at key;exact aeb Lp key
   |lst es=>
    unfold w9 at hd he;obtain⟨a,xs,rfl,ha,hs⟩:=hd;obtain⟨b,ys,rfl,hb,qs⟩:=he;cases ru;cases Dk;obtain⟨us,r1,p1,_⟩:=I.tuple ha;obtain⟨ws,r2,p2,_⟩:=I.list hb;unfold C9;exact SeqAt.EqAt.tuple_list (show s.heap.IsTuple a us.toArray from p1) p2.isList (by lia)
  |lst ds=>
   cases e with
   |fl z=>
    unfold w9 at hd he;obtain⟨a,xs,rfl,ha,_⟩:=hd;obtain⟨rfl,fz⟩:=he;obtain⟨g8,_,p,_⟩:=I.list ha;cases ru;have p':=p.isList;cases x with
    |q8=>cases Dk;exact SeqAt.EqAt.list_none p' (by lia)
    |bl b=>cases Dk;exact SeqAt.EqAt.list_bool b p' (by lia)
    |int i=>obtain⟨t,rfl⟩:=Dk;exact SeqAt.EqAt.list_int i t p' (by lia)
    |str z=>obtain⟨t,rfl⟩:=Dk;exact SeqAt.EqAt.list_str z t p' (by lia)
    |_=>exact absurd (show false=true from fz) aaQ
   |tup es=>
    unfold w9 at hd he;obtain⟨a,xs,rfl,ha,hs⟩:=hd;obtain⟨b,ys,rfl,hb,qs⟩:=he;cases ru;cases Dk;obtain⟨us,r1,p1,_⟩:=I.list ha;obtain⟨ws,r2,p2,_⟩:=I.tuple hb;unfold C9;exact SeqAt.EqAt.list_tuple p1.isList (show s.heap.IsTuple b ws.toArray from p2) (by lia)
   |lst es=>
    have UJ:=hd;have JN:=he;unfold w9 at hd he;obtain⟨a,xs,rfl,ha,hs⟩:=hd;obtain⟨b,ys,rfl,hb,qs⟩:=he;cases ru;cases Dk;by_cases Lp:a=b
    ·subst Lp;rw[<-w9.inj I (.lst ds) (.lst es) UJ JN,je _ UJ];exact aeu _
    ·obtain⟨us,r1,p1,_⟩:=I.list ha;obtain⟨ws,r2,p2,_⟩:=I.list hb;have F':bv ds<=n:=by unfold gX at hn;lia
     have q1:=hs.len;have q2:=qs.len;have q3:=r1.length;have q4:=r2.length;have z1:us.toArray.size=ds.length:=by simp;lia
     have z2:ws.toArray.size=es.length:=by simp;lia
     by_cases hl:ds.length=es.length
     ·have key:=SeqAt.RcAt.lists (A:=A) (e:=HH ds es) p1.isList p2.isList (by rw[z1,z2];exact hl) (by lia) (items F' hs qs r1 r2);have ev:(List.range us.toArray.size).all (HH ds es)=C9 (.lst ds) (.lst es):=by
       unfold C9;rw[z1,<-dX ds es hl];rfl
      rw[ev]at key;exact aeb Lp key
     ·have key:=SeqAt.RcAt.lists_lengths (A:=A) p1.isList p2.isList (by rw[z1,z2];exact bne_iff_ne.mpr hl) (by lia);have ev:false=C9 (.lst ds) (.lst es):=by
       unfold C9;rw[dW ds es hl]
      rw[ev]at key;exact aeb Lp key
theorem Bg{es:List Da}(q1:ds.length=us.length)(q2:es.length=ws.length):((List.range (min us.toArray.size ws.toArray.size)).all (HH ds es)&&us.toArray.size == ws.toArray.size)=cQ ds es:=by
 have z1:us.toArray.size=ds.length:=by simp;lia
 have z2:ws.toArray.size=es.length:=by simp;lia
 rw[z1,z2];by_cases hl:ds.length=es.length
 ·rw[<-dX ds es hl,hl,Nat.min_self,beq_self_eq_true,Bool.and_true];rfl
 ·rw[dW ds es hl,beq_eq_false_iff_ne.mpr hl,adE]
inductive xI(K:W.Frag)(f:Bool->Bool)(x y:V)(H:Hp)(Q:VK):Prop
 |mk:∀a b xs ys ds es,x=.ref a->y=.ref b->(b9 K H a xs/\b9 K H b ys)\/(d9 K H a xs/\d9 K H b ys)->m5 K H ds xs->m5 K H es ys->bv ds<=50->Q (.bl (f (cQ ds es))) H->xI K f x y H Q
theorem wK(hu:X.A.units+64<cLine):B8 X (compareOp .Eq) (xI X.K id):=by
 intro pins s σ H x y v u Q I rx ry h;obtain⟨a,b,xs,ys,ds,es,rfl,rfl,hq,hs,qs,hd,q⟩:=h;cases rx;cases ry;have items:=λ{us ws:List Value}(r1:Vals xs us)(r2:Vals ys ws)=>lH (s:=s) (H:=H) (n:=50) (A:=X.A.in1) (λd e v x u w h1 h2 h3 h4 h5=>nj I 50 d e h1 h2 h3 h4 h5 (by show X.A.units+1+50<cLine;lia)) hd hs qs r1 r2;rcases hq with⟨ha,hb⟩|⟨ha,hb⟩
 ·obtain⟨us,r1,p1,_⟩:=I.tuple ha;obtain⟨ws,r2,p2,_⟩:=I.tuple hb;refine SeqAt.eq_tupleAt (e:=HH ds es) (show s.heap.IsTuple a us.toArray from p1) (show s.heap.IsTuple b ws.toArray from p2) (by lia) (items r1 r2) ?_;rw[Bg (hs.len.trans r1.length) (qs.len.trans r2.length)];exact⟨.bl _,H,I,rfl,q⟩
 ·obtain⟨us,r1,p1,_⟩:=I.list ha;obtain⟨ws,r2,p2,_⟩:=I.list hb;have z1:us.toArray.size=ds.length:=by have q1:=hs.len;have q3:=r1.length;simp;lia
  have z2:ws.toArray.size=es.length:=by have q1:=qs.len;have q3:=r2.length;simp;lia
  by_cases hl:ds.length=es.length
  ·refine SeqAt.eq_listAt (e:=HH ds es) p1.isList p2.isList (by rw[z1,z2];exact hl) (by lia) (items r1 r2) ?_;have ev:(List.range us.toArray.size).all (HH ds es)=cQ ds es:=by
    rw[z1,<-dX ds es hl];rfl
   rw[ev];exact⟨.bl _,H,I,rfl,q⟩
  ·refine SeqAt.eq_list_lengthsAt p1.isList p2.isList (by rw[z1,z2];exact bne_iff_ne.mpr hl) (by lia) ?_;have ev:false=cQ ds es:=(dW ds es hl).symm;rw[ev];exact⟨.bl _,H,I,rfl,q⟩
theorem AE(hu:X.A.units+64<cLine):B8 X (compareOp .NotEq) (xI X.K not):=by
 intro pins s σ H x y v u Q I rx ry h;obtain⟨a,b,xs,ys,ds,es,rfl,rfl,hq,hs,qs,hd,q⟩:=h;cases rx;cases ry;have items:=λ{us ws:List Value}(r1:Vals xs us)(r2:Vals ys ws)=>lH (s:=s) (H:=H) (n:=50) (A:=X.A.in1) (λd e v x u w h1 h2 h3 h4 h5=>nj I 50 d e h1 h2 h3 h4 h5 (by show X.A.units+1+50<cLine;lia)) hd hs qs r1 r2;rcases hq with⟨ha,hb⟩|⟨ha,hb⟩
 ·obtain⟨us,r1,p1,_⟩:=I.tuple ha;obtain⟨ws,r2,p2,_⟩:=I.tuple hb;refine SeqAt.RcNeAt.tuples (e:=HH ds es) (show s.heap.IsTuple a us.toArray from p1) (show s.heap.IsTuple b ws.toArray from p2) (by lia) (items r1 r2) _ _ _ _ ?_;rw[Bg (hs.len.trans r1.length) (qs.len.trans r2.length)];exact⟨.bl _,H,I,rfl,q⟩
 ·obtain⟨us,r1,p1,_⟩:=I.list ha;obtain⟨ws,r2,p2,_⟩:=I.list hb;have z1:us.toArray.size=ds.length:=by have q1:=hs.len;have q3:=r1.length;simp;lia
  have z2:ws.toArray.size=es.length:=by have q1:=qs.len;have q3:=r2.length;simp;lia
  by_cases hl:ds.length=es.length
  ·refine SeqAt.RcNeAt.lists (e:=HH ds es) p1.isList p2.isList (by rw[z1,z2];exact hl) (by lia) (items r1 r2) _ _ _ _ ?_;have ev:(List.range us.toArray.size).all (HH ds es)=cQ ds es:=by
    rw[z1,<-dX ds es hl];rfl
   rw[ev];exact⟨.bl _,H,I,rfl,q⟩
  ·refine SeqAt.RcNeAt.lists_lengths p1.isList p2.isList (by rw[z1,z2];exact bne_iff_ne.mpr hl) (by lia) _ _ _ _ ?_;have ev:true=!cQ ds es:=by rw[dW ds es hl];rfl
   rw[ev];exact⟨.bl _,H,I,rfl,q⟩
end
theorem gN(env:Env):∀(names:List (Str×NameKind))(cs:List (Str×Addr)),(∀x,(x,NameKind.free)∈names->∃c,env.cells.lookup x=some c) ->
 (∀x c,cs.lookup x=some c->env.cells.lookup x=some c) ->
 ∃cl:List (Str×Addr),(forIn names cs λ(x:Str×NameKind)(r:List (Str×Addr))=>if(x.snd == NameKind.free)=true then do let a <- cellOf env x.fst;pure (ForInStep.yield ((x.fst,a)::r))else(pure (ForInStep.yield r):Sem _))=(pure cl:Sem _) /\
  (∀x c,cl.lookup x=some c->env.cells.lookup x=some c)/\∀x,((x,NameKind.free)∈names\/∃c,cs.lookup x=some c)->∃c,cl.lookup x=some c
 |[],cs,_,h2=>⟨cs,rfl,h2,λx hx=>hx.elim (λz=>nomatch z) λz=>z⟩
 |(n,k)::r,cs,h1,h2=>by
  cases hk:(k == NameKind.free)with
  |true=>
   have ek:k=.free:=by simpa using hk
   subst ek;obtain⟨c,hc⟩:=h1 n abd;obtain⟨cl,e,a,b⟩:=gN env r ((n,c)::cs) (λx hx=>h1 x (aa9 _ hx)) (λx d hd=>by
    rw[abB]at hd;cases hx:x == n with
    |true=>
     rw[hx]at hd;have:x=n:=by simpa using hx
     subst this;cases hd;exact hc
    |false=>rw[hx]at hd;exact h2 x d hd)
   refine⟨cl,?_,a,λx hx=>b x ?_⟩
   ·rw[<-e,ab4];have B4:cellOf env n=pure c:=by unfold cellOf;rw[hc]
    simp only[hk,ac6];rw[B4];rfl
   ·rcases hx with hx|⟨d,hd⟩
    ·rcases List.mem_cons.mp hx with q|q
     ·cases q;exact .inr ⟨c,by rw[abB];simp⟩
     ·exact .inl q
    ·refine .inr ?_;rw[abB];cases hx:x == n with
     |true=>exact⟨c,rfl⟩
     |false=>exact⟨d,hd⟩
  |false=>
   obtain⟨cl,e,a,b⟩:=gN env r cs (λx hx=>h1 x (aa9 _ hx)) h2;refine⟨cl,?_,a,λx hx=>b x ?_⟩
   ·rw[<-e,ab4];simp only[hk,abD,abV];rfl
   ·rcases hx with hx|hx
    ·rcases List.mem_cons.mp hx with q|q
     ·cases q;simp at hk
     ·exact .inl q
    ·exact .inr hx
variable{env:Env}
def lU{scope:Scope}(h1:∀x,(x,NameKind.free)∈scope.names->∃c,env.cells.lookup x=some c):
 ∃cl:List (Str×Addr),closureFor scope env=pure cl/\(∀x c,cl.lookup x=some c->env.cells.lookup x=some c)/\∀x,(x,NameKind.free)∈scope.names->∃c,cl.lookup x=some c:=by
 obtain⟨cl,e,a,b⟩:=gN env scope.names [] h1 (λx c h=>by simp at h);refine⟨cl,?_,a,λx hx=>b x (.inl hx)⟩;simp only[closureFor];rw[e];rfl
noncomputable def Cx.comp(X:Cx)(sc:Scope)(cl:List (Str×Addr))(C:Addr)(N:List Str)(s:Shared)(H:Hp)(fp:List Addr):Cx:=
 { X with N:=N,s₀:=s,H₀:=H,env:=compEnvC sc cl C X.env,outer:=X.stack,ex:=fp,fn:=λ_=>false,pn:=[],xe:=λ_ _=>False }
noncomputable def Dt(N:List Str)(HY sc:Scope)(t:Str)(ys:List Str)(js:List Nat):Bool:=
 sc.kind == .function&&sc.names.all (λy=>y.2 != .cell)&&sc.names.all (λy=>y.2 != .local||sc.names.lookup y.1 == some .local) &&
 sc.names.all (λy=>y.2 != .free||HY.names.lookup y.1 == some .cell)&&(ys.map some == js.map λj=>N[j]?) &&
 ys.all (λy=>sc.names.lookup y == some .free)&&sc.names.lookup t == some .local&&decide ((t::ys).Nodup)
structure Bn(N:List Str)(HY sc:Scope)(t:Str)(ys:List Str)(js:List Nat):Prop where
 kind:sc.kind=.function
 Ex:∀y∈sc.names,y.2≠.cell
 loc:∀y∈sc.names,y.2=.local->sc.names.lookup y.1=some .local
 Qj:∀y∈sc.names,y.2=.free->HY.names.lookup y.1=some .cell
 OF:ys.map some=js.map λj=>N[j]?
 WQ:∀y∈ys,sc.names.lookup y=some .free
 tl:sc.names.lookup t=some .local
 nd:(t::ys).Nodup
variable{js:List Nat}{ys:List Str}{sc:Scope}
def ko{N:List Str}{HY:Scope}{t:Str}(h:Dt N HY sc t ys js=true):Bn N HY sc t ys js:=by unfold Dt at h;simp only[abI,ad4,abJ,Bool.or_eq_true,bne_iff_ne,ado]at h;obtain⟨⟨⟨⟨⟨⟨⟨a,b⟩,c⟩,d⟩,e⟩,f⟩,g⟩,i⟩:=h;exact⟨a,λy hy=>b y hy,λy hy z=>(c y hy).resolve_left λq=>q z,λy hy z=>(d y hy).resolve_left λq=>q z,e,f,g,i⟩
noncomputable def bp(js:List Nat)(σ:St):St:=js.map λj=>(σ[j]?).join
theorem bR{env:Env}{x:Str}:∀{names:List (Str×NameKind)}{k:NameKind},(names.map λ(n,k)=>if(k == NameKind.free&&env.scope.kind == .function&&env.kindOf n == some .cell)then(n,NameKind.cell)else(n,k)).lookup x=some k ->
 names.lookup x=some k\/(k=.cell/\names.lookup x=some .free)
 |[],_,h=>by simp at h
 |(n,q)::r,k,h=>by
  have ih:=@bR env x r k;have h':List.lookup x ((if(q == NameKind.free&&env.scope.kind == .function&&env.kindOf n == some .cell)=true then(n,NameKind.cell)else(n,q))::_)=some k:=h;cases hx:x == n with
  |true=>
   by_cases hc:(q == NameKind.free&&env.scope.kind == .function&&env.kindOf n == some .cell)=true
   ·rw[aaY hc]at h';simp only[abB,hx]at h'⊢;have eq:q=.free:=by simp only[abI,ado]at hc;exact hc.1.1
    cases h';exact .inr ⟨rfl,by rw[eq]⟩
   ·rw[aaR hc]at h';simp only[abB,hx]at h'⊢;exact .inl h'
  |false=>
   by_cases hc:(q == NameKind.free&&env.scope.kind == .function&&env.kindOf n == some .cell)=true
   ·rw[aaY hc]at h';simp only[abB,hx]at h'⊢;exact ih h'
   ·rw[aaR hc]at h';simp only[abB,hx]at h'⊢;exact ih h'
theorem cM{env:Env}{x:Str}:∀{names:List (Str×NameKind)},names.lookup x=some .free ->
 (names.map λ(n,k)=>if(k == NameKind.free&&env.scope.kind == .function&&env.kindOf n == some .cell)then(n,NameKind.cell)else(n,k)).lookup x=some .cell \/
 (names.map λ(n,k)=>if(k == NameKind.free&&env.scope.kind == .function&&env.kindOf n == some .cell)then(n,NameKind.cell)else(n,k)).lookup x=some .free
 |[],h=>by simp at h
 |(n,q)::r,h=>by
  have ih:=@cM env x r;show List.lookup x ((if(q == NameKind.free&&env.scope.kind == .function&&env.kindOf n == some .cell)=true then(n,NameKind.cell)else(n,q))::_)=some .cell\/List.lookup x ((if(q == NameKind.free&&env.scope.kind == .function&&env.kindOf n == some .cell)=true then(n,NameKind.cell)else(n,q))::_)=some .free;cases hx:x == n with
  |true=>
   simp only[abB,hx]at h;cases h;by_cases hc:(NameKind.free == NameKind.free&&env.scope.kind == .function&&env.kindOf n == some .cell)=true
   ·rw[aaY hc];exact .inl (by simp only[abB,hx])
   ·rw[aaR hc];exact .inr (by simp only[abB,hx])
  |false=>
   simp only[abB,hx]at h;by_cases hc:(q == NameKind.free&&env.scope.kind == .function&&env.kindOf n == some .cell)=true
   ·rw[aaY hc];simp only[abB,hx];exact ih h
   ·rw[aaR hc];simp only[abB,hx];exact ih h
def Rq(X:Cx)(ifs:List Expr)(t:TT):Prop:=
 ∀(pins:List (Addr×Obj))(s:Shared)(σ:St)(H:Hp)(Q:Bool->Hp->Prop),Inv X pins σ H s->t σ H Q ->
  wpAny (model X.prog X.w) X.A (forIn ifs true λc r=>if r=true then do let ok <- isTrue c X.env (eval c X.env);pure (ForInStep.yield ok)else pure (ForInStep.yield r)) (TP X pins σ Q) X.xe s
def D8:TT:=λ_ H Q=>Q true H
def LM{X:Cx}:Rq X [] D8:=λ_ _ _ H _ I h=>wpAny_tests_nil ⟨H,I,h⟩
variable{c:Expr}
def LK{X:Cx}{t:TT}(h:PT X c t):Rq X [c] t:=λpins s σ H Q I q=>wpAny_tests_one (h pins s σ H Q I q)
theorem fq{prog:Program}{w:World}{A:Around}{R:Result->Shared->Prop}{s:Shared}{elt target iter:Expr}{ifs:List Expr}{scope:Scope}{pos:Pos}{it acc:Value}{env:Env}(J:Nat->Shared->Prop)(turn:∀n s0,J n s0->wpAny (model prog w) A (pyNext it) (λr s1=>match r with
 |none=>R (.ok .next) s1
 |some v=>wpAny (model prog w) A (letOwnedTupleGo target it v) (λ_ s2=>wpAny (model prog w) A (assign target env v) (λ_ s3=>
  wpAny (model prog w) A (forIn ifs true λc r=>if r=true then do let ok <- isTrue c env (eval c env);pure (ForInStep.yield ok)else pure (ForInStep.yield r)) (λok s4=>
   if ok=true then wpAny (model prog w) A (eval elt env) (λx s5=>
    wpAny (model prog w) A (call (.builtin "list.append") [acc,x]) (λ_ s6=>∃m,m<n/\J m s6) (λ_ _=>False) s5) (λ_ _=>False) s4
   else∃m,m<n/\J m s4) (λ_ _=>False) s3) (λ_ _=>False) s2) (λ_ _=>False) s1) (λ_ _=>False) s0)(n:Nat)(h:J n s):codeAny (model prog w) A (.compLoop (.ListComp elt [⟨target,iter,ifs,0⟩] scope pos) 0 it acc env) R s:=by
 have up:∀{α:Type}{t:Sem α}{Q Q':α->Shared->Prop}{E:Value->Shared->Prop}{s0:Shared},wpAny (model prog w) A t Q (λ_ _=>False) s0->(∀a s',Q a s'->Q' a s')->wpAny (model prog w) A t Q' E s0:=
  λh0 hq=>abp h0 hq λ_ _ z=>z.elim
 refine codeAny_loop rfl J ?_ n h;intro k s0 hJ;show wpAny _ A ((compTurn (.ListComp elt [⟨target,iter,ifs,0⟩] scope pos) 0 it acc env).onRaise (λx=>do noteFrame x env;theTreesLotGoes x)) _ _ s0;refine wpAny_noted ?_;rw[compTurn_list];refine aaC (acy (aaC (up (turn k s0 hJ) λr s1 h1=>?_)));cases r with
 |none=>exact aaE h1
 |some v=>
  refine aaC (up h1 λ_ s2 h2=>aaC (up h2 λ_ s3 h3=>aaC (up h3 λok s4 h4=>?_)));cases ok with
  |false=>exact aaE ⟨rfl,h4⟩
  |true=>exact aaC (aaC (up h4 λx s5 h5=>aaC (up h5 λ_ s6 h6=>aaE (aaE ⟨rfl,h6⟩))))
def gZ(J:It)(js:List Nat)(tc:TT)(te:TE)(σ:St)(Q:VK)(D:Addr)(H1:Hp):Prop:=∃W:Nat->Nat->List V->Hp->Prop,(∃m,W 0 m [] (upd H1 D (.lst []))) /\
 ∀i m acc H,W i m acc H->H D=some (.lst acc)/\acc.length<sizeLine/\((J.stop i H/\Q (.ref D) H)\/(J.go i H/\∀x H',J.Iz i H x H'->tc (some x::bp js σ) H' λc H3=>
  if c=true then te (some x::bp js σ) H3 λy H4=>H4 D=some (.lst acc)/\∃m',m'<m/\W (i+1) m' (acc++[y]) (upd H4 D (.lst (acc++[y])))else∃m',m'<m/\W (i+1) m' acc H3))
def Hm(wi:TI)(js:List Nat)(tc:TT)(te:TE):TE:=λσ H Q=>wi σ H λJ H1=>∀D,H1 D=none->gZ J js tc te σ Q D H1
variable{pos px:Pos}{te:TE}{iter elt:Expr}{ifs:List Expr}{tc:TT}{wi:TI}
theorem LR{X:Cx}{t:Str}(hc:X.calm=true)(E9:Dt X.N X.env.scope sc t ys js=true)(hi:PI X (.Name t px) iter wi)(hf:∀cl C s H fp,Rq (X.comp sc cl C (t::ys) s H fp) ifs tc)(he:∀cl C s H fp,PE (X.comp sc cl C (t::ys) s H fp) elt te)(hs:∀x,foldedSetIterable iter X.env x=pure x):PE X (.ListComp elt [⟨.Name t px,iter,ifs,0⟩] sc pos) (Hm wi js tc te):=by
 have ck:=ko E9;intro pins s σ H Q I h;have B1:∀x,(x,NameKind.free)∈sc.names->∃c,X.env.cells.lookup x=some c:=λx hx=>I.ok.has x (.inl (ck.Qj _ hx rfl));obtain⟨cl,Mn,Ef,Kx⟩:=lU B1;rw[eval_ListComp];refine adz (use:=none) rfl hs Mn ck.kind ck.loc (j9 (hi pins s σ H _ I h) λv s1 h1=>j9 h1 λSX s2 h2=>?_);obtain⟨it,fp,tn,J,H2,e,I2,T,Lc,f2,hR⟩:=h2;subst e;refine abx (adV ck.Ex (by intro y hy;simp at hy) (λh1 Ed Hx=>?_) ck.kind);dsimp only at Ed Hx⊢;generalize hp:s2.heap.push { cls:=.type "list",dict:=none,data:=.seq ([]:List Value).toArray }=hh at Ed Hx⊢;have hC:hh.objs.size=s2.heap.objs.size+1:=by rw[<-hp,ac2]
 have MT:∀{b:Addr},b<s2.heap.objs.size->b≠s2.heap.objs.size:=λhb=>aaU hb;have FE:∀{b:Addr},b<s2.heap.objs.size->b≠hh.objs.size:=λhb=>by rw[hC];exact aaU (adg hb)
 have Nv:s2.heap.objs.size≠hh.objs.size:=by rw[hC];exact aaU (ad2 _)
 have Fy:s2.heap.objs.size<=hh.objs.size:=by rw[hC];exact ach _
 have old:∀b o,s2.heap.get? b=some o->h1.get? b=some o:=λb o e=>Hx.extBut b o (FE (aaJ e)) (aaH _ (hp▸aaH _ e));have Dm:h1.get? s2.heap.objs.size=some { cls:=.type "list",dict:=none,data:=.seq ([]:List Value).toArray }:=Hx.extBut _ _ Nv (aaH _ (hp▸aaT _ rfl));have Ny:∀b∈fp,∃o,s2.heap.get? b=some o:=λb hb=>let⟨o,e,_⟩:=T.obj 0 _ Lc b hb;⟨o,e⟩
 have U5:∀b∈fp,b≠s2.heap.objs.size:=λb hb=>by obtain⟨o,e⟩:=Ny b hb;exact MT (aaJ e)
 have Nz:∀b∈fp,b≠hh.objs.size:=λb hb=>by obtain⟨o,e⟩:=Ny b hb;exact FE (aaJ e)
 have Nx:∀b∈fp,b∉n9 X.stack:=λb hb z=>(List.mem_cons.mp (I2.Ep b z)).elim (f2 b hb).2.1 (f2 b hb).2.2.1;have GW:(X.comp sc cl hh.objs.size (t::ys) s2 H2 fp).Ok:=by
  refine⟨I2.ok.mod,ck.kind,I2.ok.glob,I2.ok.blt,Fy,λx y c a b=>I2.ok.inj x y c (Ef x c a) (Ef y c b),λx hx=>?_,(λx c z=>nomatch z),I2.ok.hd,I2.ok.frames,.inl rfl,λb hb=>⟨Nz b hb,λx c a=>(f2 b hb).2.2.2.2.1 x c (Ef x c a)⟩,
   I2.bs,abg I2.ok.HF I2.sz,λb o e hb=>?_,λb hb=>Nx b hb,I2.stack,I2.A7⟩
  ·have DB:(sc.names.map λ(n,k)=>if(k == NameKind.free&&X.env.scope.kind == .function&&X.env.kindOf n == some .cell)then(n,NameKind.cell)else(n,k)).lookup x=some .cell\/(sc.names.map λ(n,k)=>if(k == NameKind.free&&X.env.scope.kind == .function&&X.env.kindOf n == some .cell)then(n,NameKind.cell)else(n,k)).lookup x=some .free:=hx;rcases DB with z|z
   ·rcases bR z with q|⟨_,q⟩
    ·exact absurd rfl (ck.Ex _ (aba q))
    ·exact Kx x (aba q)
   ·rcases bR z with q|⟨q,_⟩
    ·exact Kx x (aba q)
    ·cases q
  ·rcases(f2 b hb).2.2.2.1 with z|z
   ·exact I2.ok.FU b o e z
   ·exact absurd (aa1 (aaJ e) (abg I2.ok.HF z)) (abG _)
 have Wf:∀tk:Nat,Inv (X.comp sc cl hh.objs.size (t::ys) s2 H2 fp) [] (none::bp js σ) (upd H2 s2.heap.objs.size (.lst [])) { s2 with heap:=h1,toks:=tk }:=λtk=>by
  refine⟨GW,rfl,I2.bare,Un.laid old (aaI _) I2.fresh,⟨_,Ed,λi x v e1 e2 e3=>?_⟩,λx c e=>?_,?_,λx c e=>?_,λp hp=>absurd (show p∈([]:List (Addr×Obj))from hp) (by simp),I2.i4.laid old (aaI _) ⟨aa3 _,[],0,.nil,Dm⟩,?_⟩
  ·cases i with
   |zero=>simp at e2
   |succ k=>
    have Mw:ys[k]?=some x:=e1;have Ge:(bp js σ)[k]?=some (some v):=by simpa using e2
    unfold bp at Ge;rw[aaK]at Ge;have q:=abk (λl=>l[k]?) ck.OF;simp only[aaK,Mw,abN]at q;cases hj:js[k]? with
    |none=>rw[hj]at q;cases q
    |some j=>
     rw[hj]at q Ge;have q1:X.N[j]?=some x:=(aa0 q).symm;have q2:σ[j]?=some (some v):=by
      have z:(σ[j]?).join=some v:=aa0 Ge;cases hz:σ[j]? with
      |none=>rw[hz]at z;cases z
      |some y=>rw[hz]at z;exact abk some z
     have B7:=ck.WQ x (aaD Mw);have B4:=ck.Qj _ (aba B7) rfl;obtain⟨m2,Q7,Md⟩:=I2.loc;obtain⟨u,ru,lk⟩:=Md j x v q1 q2 (.inr (.inl B4));refine⟨u,ru,?_⟩;rcases lk with⟨kk,_⟩|⟨_,c,ec,ic⟩
     ·have Nb:X.env.scope.names.lookup x=some .local:=kk;have EE:X.env.scope.names.lookup x=some .cell:=B4;rw[EE]at Nb;cases Nb
     ·obtain⟨c',NC⟩:=Kx x (aba B7);have:c'=c:=aa0 ((Ef x c' NC).symm.trans ec);subst this;refine .inr ⟨cM B7,c',NC,?_⟩;obtain⟨o,ho,hd⟩:=ic;exact⟨o,old _ o ho,hd⟩
  ·obtain⟨v,o,ho,hd⟩:=I2.cell x c (Ef x c e);exact⟨v,o,old _ o ho,hd⟩
  ·show upd H2 s2.heap.objs.size _ hh.objs.size=none;rw[al (abF Nv)];exact I2.i4.fresh Fy
  ·obtain⟨v,o,ho,hd⟩:=I2.cell x c (Ef x c e);rw[al (MT (aaJ ho))];exact I2.x_ x c (Ef x c e)
  ·show(none::bp js σ).length=(t::ys).length;have q:=abk List.length ck.OF;simp only[aaG]at q;unfold bp;simp only[aaM,aaG];lia
 have MM:tn 0 h1:=T.keep _ _ _ Lc λb hb o e=>old b o e;obtain⟨W,⟨m0,w0⟩,turn⟩:=hR s2.heap.objs.size I2.fresh;have EF:∀{H':Hp},(∀b∈fp,H' b=none)->∀b∈fp,qe (X.comp sc cl hh.objs.size (t::ys) s2 H2 fp) [] H' b:=λhn b hb=>
  ⟨hn b hb,Nz b hb,Nx b hb,.inl hb,λx c a=>(f2 b hb).2.2.2.2.1 x c (Ef x c a),λp hp=>absurd (show p∈([]:List (Addr×Obj))from hp) (by simp)⟩
 have ndN:(t::ys).Nodup:=ck.nd;have loop:∀s3:Shared,s3={ s2 with heap:=h1,toks:=s2.toks+([]:List (Str×Value)).length } ->
  codeAny (model X.prog X.w) X.A (.compLoop (.ListComp elt [⟨.Name t px,iter,ifs,0⟩] sc pos) 0 (.ref it) (.ref s2.heap.objs.size) (compEnvC sc cl hh.objs.size X.env))
   (compPost (model X.prog X.w) X.A X.xe none (EP X pins σ Q) (.ref s2.heap.objs.size) hh.objs.size) s3:=by
  rintro s3 rfl;refine fq (λn s'=>∃i acc H',Inv (X.comp sc cl hh.objs.size (t::ys) s2 H2 fp) [] (none::bp js σ) H' s'/\tn i s'.heap/\(∀b∈fp,H' b=none)/\W i n acc H') ?_ m0
   ⟨0,[],_,Wf _,MM,λb hb=>by rw[al (U5 b hb)];exact(f2 b hb).1,w0⟩
  rintro n s3 ⟨i,acc,H3,I3,Ja,JT,w3⟩;obtain⟨hD,hz,alt⟩:=turn i n acc H3 w3;rcases alt with⟨stop,q⟩|⟨go,step⟩
  ·refine j9 (T.done (X.comp sc cl hh.objs.size (t::ys) s2 H2 fp) rfl rfl rfl hc i [] s3 _ H3 _ I3 (EF JT) Ja stop) ?_;rintro r s4 ⟨hr,I4⟩;subst hr;obtain⟨m,hn,_⟩:=id I4.loc;refine⟨m,hn,λh' sb=>⟨.ref s2.heap.objs.size,H3,?_,rfl,q⟩⟩;have M_:∀b o,s2.heap.get? b=some o->b≠hh.objs.size:=λb o e=>FE (aaJ e);have b4:Un (n9 X.stack) fp H2 H3 s2.heap s4.heap:=I4.base;refine I2.HE (s':={ s4 with heap:=h' }) (ch:=fp) I4.os ⟨λb o e n1 n2 n3=>(sb.2 b (M_ b o e)).trans (b4.keep b o e n1 n2 n3),λb o e n1 n2 n3=>?_,b4.free,λb o e n1=>?_,b4.B_,b4.B5,b4.B'⟩ (λb ob e=>?_) I4.bare
    (λb hb=>⟨(f2 b hb).2.2.2.1,(f2 b hb).2.1,(f2 b hb).2.2.2.2.1,(f2 b hb).2.2.2.2.2⟩)
   ·obtain⟨sl,e1⟩:=b4.slot b o e n1 n2 n3;exact⟨sl,(sb.2 b (M_ b o e)).trans e1⟩
   ·obtain⟨o',e1⟩:=b4.there b o e n1;exact⟨o',(sb.2 b (M_ b o e)).trans e1⟩
   ·have A2:H3 hh.objs.size=none:=I4.free;refine(I4.i4 b ob e).C0 (λc w' FI q'=>(sb.2 c ?_).trans q') (λ_ q'=>q') λ_ _ q'=>q';rintro rfl;rcases FI with rfl|FI
    ·rw[A2]at e;cases e
    ·rw[A2]at FI;cases FI
  ·refine j9 (T.item (X.comp sc cl hh.objs.size (t::ys) s2 H2 fp) rfl rfl rfl hc i [] s3 _ H3 _ I3 (EF JT) Ja go) ?_;rintro r s4 ⟨u,hr,h4⟩;subst hr;refine j9 h4 ?_;rintro _ s5 ⟨x,H5,I5,r5,y5,GI,Qk⟩;have Qz:=I5.pinned (EF Qk) (T.obj _ _ GI);refine aee (dO (i:=0) Qz ndN rfl (.inl (ac8 ck.tl)) r5 (λs6 I6=>?_) (.inr (ac8 ck.tl)));have again:∀{H7:Hp}{s7:Shared}{m':Nat}{EI:List V},Inv (X.comp sc cl hh.objs.size (t::ys) s2 H2 fp) ([]++gr fp s5.heap) (some x::bp js σ) H7 s7->m'<n->W (i+1) m' EI H7 ->
    ∃m,m<n/\∃i acc H',Inv (X.comp sc cl hh.objs.size (t::ys) s2 H2 fp) [] (none::bp js σ) H' s7/\tn i s7.heap/\(∀b∈fp,H' b=none)/\W i m acc H':=λ{H7 s7 m' EI} I7 hm w7=>by
    refine⟨m',hm,i+1,EI,H7,(I7.A0).weak rfl (λk v e=>?_),T.keep _ _ _ GI λb hb o e=>(I7.pin (b,o) (aaV _ (aaV _ (bV hb e)))).1,λb hb=>?_,w7⟩
    ·cases k with
     |zero=>simp at e
     |succ k=>simpa using e
    ·obtain⟨o,e,d⟩:=T.obj _ _ GI b hb;exact(I7.pin (b,o) (aaV _ (aaV _ (bV hb e)))).2.1
   refine j9 (hf _ _ _ _ _ _ s6 _ H5 _ I6 (step x H5 y5)) ?_;rintro ok s7 ⟨H7,I7,q7⟩;cases ok with
   |false=>
    obtain⟨m',hm,w7⟩:=q7;exact again I7 hm w7
   |true=>
    refine j9 (he _ _ _ _ _ _ s7 _ H7 _ I7 q7) ?_;rintro uy s8 ⟨y,H8,I8,r8,U0,m',hm,w8⟩;refine j9 (bo (X:=X.comp sc cl hh.objs.size (t::ys) s2 H2 fp) _ s8 _ H8 (.ref s2.heap.objs.size) [y] (.ref s2.heap.objs.size) [uy] (λ_ H9=>W (i+1) m' (acc++[y]) H9) I8 rfl (.cons r8 .nil) ⟨_,acc,y,rfl,rfl,U0,hz,w8⟩) ?_;rintro _ s9 ⟨_,H9,I9,_,q9⟩;exact again I9 hm q9
 exact adG (loop _ rfl) (T.self _ 0 _ _ _ MM (loop _ rfl))
variable{i:Nat}{A B:Prop}
theorem fH{m:Nat}(hi:i<n)(hm:m=n-i)(a:A)(b:B):A/\∃m',m'<m/\(m'=n-(i+1)/\i+1<=n/\B):=⟨a,n-(i+1),by lia,rfl,hi,b⟩
variable{D:Addr}{σ:St}{H1:Hp}
theorem cR{lo:Int}{Q:VK}(Pv:Nat->List V->Hp->Prop)(hz:n<sizeLine)(h0:Pv 0 [] (upd H1 D (.lst [])))(hl:∀i acc H,Pv i acc H->H D=some (.lst acc)/\acc.length=i)(hs:∀i m acc H,i<n->Pv i acc H->m=n-i->te (some (.int (lo+i))::bp js σ) H λy H4=>H4 D=some (.lst acc)/\∃m',m'<m/\(m'=n-(i+1)/\i+1<=n/\Pv (i+1) (acc++[y]) (upd H4 D (.lst (acc++[y])))))(hd:∀acc H,Pv n acc H->Q (.ref D) H):gZ (Qy lo n) js D8 te σ Q D H1:=by
 refine⟨λi m acc H=>m=n-i/\i<=n/\Pv i acc H,⟨n,by simp,aa3 _,h0⟩,?_⟩;rintro i m acc H ⟨hm,hi,p⟩;obtain⟨hD,hlen⟩:=hl i acc H p;refine⟨hD,by lia,?_⟩;by_cases o9:i<n
 ·refine .inr ⟨o9,λx H' y=>?_⟩;obtain⟨e,y⟩:=y;subst e y;unfold D8;dsimp only;rw[aaY rfl];exact hs i m acc _ o9 p hm
 ·have e:i=n:=by lia
  subst e;exact .inl ⟨aaI _,hd acc H p⟩
theorem ji{a:Addr}{Q:VK}(Pv:Nat->List V->Hp->Prop)(hz:xs.length<sizeLine)(h0:Pv 0 [] (upd H1 D (.lst [])))(hl:∀i acc H,Pv i acc H->H D=some (.lst acc)/\acc.length=i/\d9 K H a xs)(hs:∀i m x acc H,xs[i]?=some x->Pv i acc H->m=xs.length-i->te (some x::bp js σ) H λy H4=>H4 D=some (.lst acc)/\∃m',m'<m/\(m'=xs.length-(i+1)/\i+1<=xs.length/\Pv (i+1) (acc++[y]) (upd H4 D (.lst (acc++[y])))))(hd:∀acc H,Pv xs.length acc H->Q (.ref D) H):gZ (HK K a) js D8 te σ Q D H1:=by
 refine⟨λi m acc H=>m=xs.length-i/\i<=xs.length/\Pv i acc H,⟨xs.length,by simp,aa3 _,h0⟩,?_⟩;rintro i m acc H ⟨hm,hi,p⟩;obtain⟨hD,hlen,hq⟩:=hl i acc H p;refine⟨hD,by lia,?_⟩;by_cases o9:i<xs.length
 ·refine .inr ⟨⟨xs,xs[i],hq,by simp[o9]⟩,λx H' y=>?_⟩;obtain⟨e,y⟩:=y;subst e;unfold D8;dsimp only;rw[aaY rfl];exact hs i m x acc _ (y xs hq) p hm
 ·have e:i=xs.length:=by lia
  subst e;exact .inl ⟨⟨xs,hq,aaI _⟩,hd acc H p⟩
theorem nA{a:Addr}{Q:VK}(Pv:Nat->List V->Hp->Prop)(hz:xs.length<sizeLine)(h0:Pv 0 [] (upd H1 D (.lst [])))(hl:∀i acc H,Pv i acc H->H D=some (.lst acc)/\acc.length=i/\b9 K H a xs)(hs:∀i m x acc H,xs[i]?=some x->Pv i acc H->m=xs.length-i->te (some x::bp js σ) H λy H4=>H4 D=some (.lst acc)/\∃m',m'<m/\(m'=xs.length-(i+1)/\i+1<=xs.length/\Pv (i+1) (acc++[y]) (upd H4 D (.lst (acc++[y])))))(hd:∀acc H,Pv xs.length acc H->Q (.ref D) H):gZ (IT K a) js D8 te σ Q D H1:=by
 refine⟨λi m acc H=>m=xs.length-i/\i<=xs.length/\Pv i acc H,⟨xs.length,by simp,aa3 _,h0⟩,?_⟩;rintro i m acc H ⟨hm,hi,p⟩;obtain⟨hD,hlen,hq⟩:=hl i acc H p;refine⟨hD,by lia,?_⟩;by_cases o9:i<xs.length
 ·refine .inr ⟨⟨xs,xs[i],hq,by simp[o9]⟩,λx H' y=>?_⟩;obtain⟨e,y⟩:=y;subst e;unfold D8;dsimp only;rw[aaY rfl];exact hs i m x acc _ (y xs hq) p hm
 ·have e:i=xs.length:=by lia
  subst e;exact .inl ⟨⟨xs,hq,aaI _⟩,hd acc H p⟩
variable{X:Cx}
variable{H:Hp}
def ac{p:Addr}(h:H p=none)(o:HO):a_ H (upd H p o):=λb u q=>by rw[al (aI q h)];exact q
variable{H':Hp}
def a_.tupS{a:Addr}(e:a_ H H')(h:b9 K H a xs):b9 K H' a xs:=by
 rcases h with(h|⟨o,h⟩)|h
 ·exact .inl (.inl (e _ _ h))
 ·exact .inl (.inr ⟨o,e _ _ h⟩)
 ·exact .inr h
inductive Aq(x y:V)(H:Hp)(Q:VK):Prop
 |mk:∀a b xs ys,x=.ref a->y=.ref b->H a=some (.tup xs)->H b=some (.tup ys)->xs.length+ys.length<=sizeLine->(∀p H',a_ H H'->H' p=some (.tup (xs++ys))->Q (.ref p) H')->Aq x y H Q
variable{E Q:Value->Shared->Prop}{w:World}{prog:Program}
theorem vZ{A:Around}{s:Shared}{t b:Addr}{vs:List Value}(ht:IsTup s.heap t vs.toArray)(hb:IsTup s.heap b ws.toArray)(hv:vs=[])(h:Q (.ref b) s):
 wpAny (model prog w) A (binaryOp .Add (.ref t) (.ref b)) Q E s:=by
 obtain⟨⟨cls,dd,data,sl⟩,ho,hc,n,hd⟩:=id ht;obtain⟨⟨cls2,Yh,data2,QM⟩,PR,Qa,n2,hd2⟩:=id hb;simp only at hc hd Qa hd2;subst hc hd Qa hd2;refine concat_meets ⟨_,ho,rfl⟩ ⟨_,PR,rfl⟩ aej seq_tuple_add adp adj (adh _ _) (tuple_addW0 t b vs.toArray ws.toArray n n2 dd Yh sl QM (by simp[hv])) ⟨ho,PR,h⟩
def bZ:B8 X (binaryOp .Add) Aq:=by
 intro pins s σ H x y v u Q I rx ry h;obtain⟨a,b,xs,ys,e1,e2,ha,hb,hz,q⟩:=h;by_cases hx:xs=[]
 ·subst e1 e2 hx;cases rx;cases ry;obtain⟨g8,r1,p1,_⟩:=I.tuple (.of ha);obtain⟨EV,r2,p2,_⟩:=I.tuple (.of hb);exact vZ p1 p2 (by cases r1;rfl) ⟨.ref b,H,I,rfl,q b H (a_.refl H) hb⟩
 ·refine xY pins s σ H x y v u Q I rx ry ⟨a,b,xs,ys,e1,e2,.of ha,.of hb,hx,hz,λhy=>q a H (a_.refl H) (by rw[hy,aby];exact ha),λ_ p hp=>q p _ (ac hp _) aa⟩
theorem eF{A:Around}{s:Shared}{t sl:Addr}{items:Array Value}{vl vu:Value}{lo hi:Option Int}(ht:IsTup s.heap t items)(hs:s.heap.IsSliceOf sl vl vu .none)(pl:IsPart vl lo)(pu:IsPart vu hi)(hw:HT.p_ items.size 0 lo=0/\HT.p_ items.size items.size hi=items.size)(h:Q (.ref t) s):wpAny (model prog w) A (getItem (.ref t) (.ref sl)) Q E s:=by
 obtain⟨os,Ej,Ln,Im⟩:=id hs;have hTs:s.TypeIs (.ref sl) "slice":=⟨os,Ej,Ln⟩
 unfold getItem;try with_reducible refine abu ?_
 first|refine aaC (aaE ?_)|skip
 refine aaC (wpAny_sequenceKey ht.typeIs (by decide) ?_);refine aaC (abR (name:=Str.ofString "__getitem__") ht.typeIs acb (abK acb ht.typeIs entry_tuple_getitem ?_ (args_tuple_getitem _ _)));show wpAny _ _ (Builtin.Tuple.tupleItemsOf (.ref t) >>= _) _ _ s;refine aaC (tupleItemsOf_ ht ?_);refine aaC (acd hTs ?_);rw[aaY (by decide)];refine aaC (HT.B2 hs pl pu ?_);have yes:(((HT.p_ items.size 0 lo:Nat):Int) == 0&&(1:Int) == 1&&(HT.p_ items.size items.size hi-HT.p_ items.size 0 lo) == items.size)=true:=by rw[hw.1,hw.2];simp
 show wpAny _ _ (if(((HT.p_ items.size 0 lo:Nat):Int) == 0&&(1:Int) == 1&&(HT.p_ items.size items.size hi-HT.p_ items.size 0 lo) == items.size)=true then _ else _) _ _ s;rw[aaY yes];show wpAny _ _ (Builtin.Tuple.tupleIsExact (.ref t) >>= _) _ _ s;unfold Builtin.Tuple.tupleIsExact;refine aaC (aaC (acd ht.typeIs (aaE ?_)));rw[aaY (by decide)];first
  |exact aaC (acG (aaE ⟨_,rfl,aaE h⟩))
  |exact aaC (acG (aaC (aaE (aaE ⟨_,rfl,aaE h⟩))))
  |exact aaC (acG (aaC (aaE ⟨_,rfl,aaE h⟩)))
inductive Ak(x:V)(lo hi:Option Int)(H:Hp)(Q:VK):Prop
 |mk:∀a xs,x=.ref a->H a=some (.tup xs)->(∀p H',a_ H H'->H' p=some (.tup (gY xs lo hi))->Q (.ref p) H')->Ak x lo hi H Q
def eY:V8 X Ak:=by
 intro pins s σ H x v vl vu lo hi sl Q I rx hs pl pu h;obtain⟨a,xs,e,hx,q⟩:=h;by_cases hw:HT.p_ xs.length 0 lo=0/\HT.p_ xs.length xs.length hi=xs.length
 ·subst e;cases rx;obtain⟨g8,r,ht,hz⟩:=I.tuple (.of hx);have hlen:g8.toArray.size=xs.length:=by rw[aaP];exact r.length.symm
  refine⟨"tuple",_,PyProof.Rows.slot_tuple_getitem.lookup,ht.typeIs,eF ht hs pl pu (by rw[hlen];exact hw) ⟨.ref a,H,I,rfl,q a H (a_.refl H) ?_⟩⟩;have ec:gY xs lo hi=xs:=by unfold gY;rw[hw.1,hw.2];simp
  rw[ec];exact hx
 ·exact zR pins s σ H x v vl vu lo hi sl Q I rx hs pl pu ⟨a,xs,e,.of hx,hw,λp hp=>q p _ (ac hp _) aa⟩
inductive ul(K:W.Frag)(xs:List V)(H:Hp)(Q:VK):Prop
 |mk:∀x T t b,xs=[x,.ty T]->qb K H x t->PySem.W.kitOne K t (.type T)=some b->Q (.bl b) H->ul K xs H Q
def bU:eg X (.builtin "isinstance") (ul X.K):=by intro pins s σ H xs us Q I r h;obtain⟨x,T,t,b,rfl,ty,e,q⟩:=h;obtain⟨u,w,rfl,ru,Dk⟩:=xv r;cases Dk;exact sO I ru ty e λtk=>⟨.bl b,H,I.tok tk,rfl,q⟩
variable{p:Pos}{a e b l v f:Expr}{x:Str}{g:List Comprehension}{o:List CmpOp}{s:Scope}
section
variable{X:Cx}{es:List Expr}{te:TE}{t:TA}{env:Env}
variable{a:List Expr}
def Bx{k:Nat}:starEach (.Tuple a k p::es) env=(false,eval (.Tuple a k p) env)::starEach es env:=by first|rfl|(rw[starEach];intro _ _ z;cases z)
def paT{k:Nat}(ha:PE X (.Tuple a k p) te)(hr:PA X es t):PA X (.Tuple a k p::es) (o8 te t):=cz ha hr Bx
def BB:starEach (.List a p::es) env=(false,eval (.List a p) env)::starEach es env:=by first|rfl|(rw[starEach];intro _ _ z;cases z)
def paL(ha:PE X (.List a p) te)(hr:PA X es t):PA X (.List a p::es) (o8 te t):=cz ha hr BB
def BG{c:Const}{k:Nat}:starEach (.Constant c k p::es) env=(false,eval (.Constant c k p) env)::starEach es env:=by first|rfl|(rw[starEach];intro _ _ z;cases z)
def paC{c:Const}{k:Nat}(ha:PE X (.Constant c k p) te)(hr:PA X es t):PA X (.Constant c k p::es) (o8 te t):=cz ha hr BG
def Bz:starEach (.Name x p::es) env=(false,eval (.Name x p) env)::starEach es env:=by first|rfl|(rw[starEach];intro _ _ z;cases z)
def paN(ha:PE X (.Name x p) te)(hr:PA X es t):PA X (.Name x p::es) (o8 te t):=cz ha hr Bz
def BH{r:Expr}{o:Operator}:starEach (.BinOp l o r p::es) env=(false,eval (.BinOp l o r p) env)::starEach es env:=by first|rfl|(rw[starEach];intro _ _ z;cases z)
def paB{r:Expr}{o:Operator}(ha:PE X (.BinOp l o r p) te)(hr:PA X es t):PA X (.BinOp l o r p::es) (o8 te t):=cz ha hr BH
def By{i:Expr}:starEach (.Subscript v i p::es) env=(false,eval (.Subscript v i p) env)::starEach es env:=by first|rfl|(rw[starEach];intro _ _ z;cases z)
def paS{i:Expr}(ha:PE X (.Subscript v i p) te)(hr:PA X es t):PA X (.Subscript v i p::es) (o8 te t):=cz ha hr By
def BC{k:List Keyword}:starEach (.Call f a k p::es) env=(false,eval (.Call f a k p) env)::starEach es env:=by first|rfl|(rw[starEach];intro _ _ z;cases z)
def paK{k:List Keyword}(ha:PE X (.Call f a k p) te)(hr:PA X es t):PA X (.Call f a k p::es) (o8 te t):=cz ha hr BC
def BA{c:List Expr}:starEach (.Compare l o c p::es) env=(false,eval (.Compare l o c p) env)::starEach es env:=by first|rfl|(rw[starEach];intro _ _ z;cases z)
def paM{c:List Expr}(ha:PE X (.Compare l o c p) te)(hr:PA X es t):PA X (.Compare l o c p::es) (o8 te t):=cz ha hr BA
def BE{a:Expr}:starEach (.IfExp c a b p::es) env=(false,eval (.IfExp c a b p) env)::starEach es env:=by first|rfl|(rw[starEach];intro _ _ z;cases z)
def paI{a:Expr}(ha:PE X (.IfExp c a b p) te)(hr:PA X es t):PA X (.IfExp c a b p::es) (o8 te t):=cz ha hr BE
def Bw{o:UnaryOp}:starEach (.UnaryOp o v p::es) env=(false,eval (.UnaryOp o v p) env)::starEach es env:=by first|rfl|(rw[starEach];intro _ _ z;cases z)
def paU{o:UnaryOp}(ha:PE X (.UnaryOp o v p) te)(hr:PA X es t):PA X (.UnaryOp o v p::es) (o8 te t):=cz ha hr Bw
def BF:starEach (.ListComp e g s p::es) env=(false,eval (.ListComp e g s p) env)::starEach es env:=by first|rfl|(rw[starEach];intro _ _ z;cases z)
def paE(ha:PE X (.ListComp e g s p) te)(hr:PA X es t):PA X (.ListComp e g s p::es) (o8 te t):=cz ha hr BF
def BD{v:List Expr}:starEach (.JoinedStr v p::es) env=(false,eval (.JoinedStr v p) env)::starEach es env:=by first|rfl|(rw[starEach];intro _ _ z;cases z)
def paJ{v:List Expr}(ha:PE X (.JoinedStr v p) te)(hr:PA X es t):PA X (.JoinedStr v p::es) (o8 te t):=cz ha hr BD
end
abbrev Big:Int:=1000000000000000000
def wP{c:Bool}(h:c=true)(q:A):if c=true then A else B:=by rw[aaY h];exact q
def mY{c:Bool}(h:c=false)(q:B):if c=true then A else B:=by rw[aaR (by rw[h];decide)];exact q
def BZ{p:Prop}[Decidable p](h:p)(q:A):if decide p=true then A else B:=by rw[aaY (abb h)];exact q
def Ca{p:Prop}[Decidable p](h:¬p)(q:B):if decide p=true then A else B:=by rw[aaR (by rw[aaW h];decide)];exact q
def cL{p:Prop}[Decidable p](h1:p->A)(h2:¬p->B):if decide p=true then A else B:=by
 by_cases h:p
 ·exact BZ h (h1 h)
 ·exact Ca h (h2 h)
section
variable{K:W.Frag}
def CS:PySem.W.kitOne K (.type "str") (.type "str")=some true:=by with_unfolding_all rfl
def CD:PySem.W.kitOne K (.type "tuple") (.type "tuple")=some true:=by with_unfolding_all rfl
def CT:PySem.W.kitOne K (.type "int") (.type "int")=some true:=by with_unfolding_all rfl
def CU:PySem.W.kitOne K (.type "int") (.type "bool")=some false:=by with_unfolding_all rfl
def sR(n:Int):w9 K H (.fl (.int n)) (.int n):=by unfold w9;exact⟨rfl,rfl⟩
def yw(n:Str):w9 K H (.fl (.str n)) (.str n):=by unfold w9;exact⟨rfl,rfl⟩
def dj:m5 K H [] []:=by unfold m5;rfl
def eR{d:Da}{v:V}{vs:List V}(h:w9 K H d v)(t:m5 K H ds vs):m5 K H (d::ds) (v::vs):=by unfold m5;exact⟨_,_,rfl,h,t⟩
theorem jX{H:Hp}:∀ns:List Int,m5 K H (ns.map λn=>Da.fl (.int n)) (ns.map V.int)
 |[]=>dj
 |n::ns=>eR (sR n) (jX ns)
end
def cF(h:n<=100000):n<=sizeLine:=abg h (by decide)
def bO(h:n<=100000):n<sizeLine:=abz h (by decide)
def aL{o:HO}(hn:H D=none)(s:a_ H H'):a_ H (upd H' D o):=λb u q=>by rw[al (aI q hn)];exact s b u q
theorem qV{n:Int}(h0:0<=n)(h1:n<Big):n.natAbs.log2<1920:=by
 have h:n.natAbs<2 ^ 60:=by
  have:n<1152921504606846976:=by have:Big=1000000000000000000:=rfl;lia
  have e:(2:Nat) ^ 60=1152921504606846976:=by decide
  lia
 by_cases z:n.natAbs=0
 ·rw[z];decide
 ·exact aa1 ((Nat.log2_lt z).mpr h) (by decide)
section
variable{prog:Program}{w:World}{A:Around}{R:Result->Shared->Prop}{I S l:Addr}{d:Value}{xs:Array (Int×Tok)}
end
inductive nJ(x y:V)(H:Hp)(Q:VK):Prop
 |mk:∀z n,x=.str z->y=.int n->z.length<=1000->n<=1000->-1000<=n->Q (.str (Txt.mul z n)) H->nJ x y H Q
theorem ie:B8 X (binaryOp .Mult) nJ:=by
 intro pins s σ H x y v u Q I rx ry h;obtain⟨z,n,rfl,rfl,h1,h2,h3,q⟩:=h;obtain⟨t,rfl⟩:=rx;obtain⟨t',rfl⟩:=ry;refine SB.mul ⟨?_,λhn _=>?_,λhn _=>?_⟩ λt' k=>⟨.str _,H,I.tok k,⟨t',rfl⟩,q⟩
 ·rw[aaW (by lia),aaW (by lia)];rfl
 ·have e:(1000:Int)<=(2 ^ 63-1) / n:=Int.le_ediv_of_mul_le (by lia) (by lia);lia
 ·have hle:z.length*n.toNat<=1000*1000:=Nat.mul_le_mul h1 (by lia);unfold PySem.Builtin.Str.tooLong;simp only[decide_eq_false_iff_not];rw[adv];lia
inductive xj(K:W.Frag)(x y:V)(H:Hp)(Q:VK):Prop
 |mk:∀a b xs,x=.ref a->y=.ref b->d9 K H a xs->d9 K H b []->Q (.bl (decide (xs=[]))) H->xj K x y H Q
theorem mK(hu:X.A.units+64<cLine):B8 X (compareOp .Eq) (xj X.K):=by
 intro pins s σ H x y v u Q I rx ry h;obtain⟨a,b,xs,e1,e2,ha,hb,q⟩:=h;by_cases hx:xs=[]
 ·subst hx;refine wK hu pins s σ H x y v u Q I rx ry ⟨a,b,[],[],[],[],e1,e2,.inr ⟨ha,hb⟩,dj,dj,by unfold bv;lia,?_⟩;have e:id (cQ [] [])=decide (([]:List V)=[]):=by unfold cQ;rfl
  rw[e];exact q
 ·subst e1 e2;cases rx;cases ry;obtain⟨us,r1,p1,_⟩:=I.list ha;obtain⟨ws,r2,p2,_⟩:=I.list hb;cases r2;have EY:us≠[]:=λz=>hx ((Vals.DQ r1).mp z);refine SeqAt.eq_list_lengthsAt p1.isList p2.isList (by simpa using EY) (by lia) ⟨.bl _,H,I,?_,q⟩;rw[aaW hx];rfl
noncomputable def tz(K:W.Frag)(H:Hp)(d:Da)(u:Value):Bool:=@decide (∃e v,RelV v u/\w9 K H e v/\C9 e d=true) (Classical.propDecidable _)
theorem kF{pins:List (Addr×Obj)}{s:Shared}{σ:St}{H:Hp}(I:Inv X pins σ H s)(d:Da):∀{ds:List Da}{xs:List V}{us:List Value},m5 X.K H ds xs->Vals xs us ->
 (∀u∈us,∃e v,RelV v u/\w9 X.K H e v/\e∈ds/\tz X.K H d u=C9 e d)/\us.any (tz X.K H d)=ds.any (λe=>C9 e d)
 |[],xs,us,h,r=>by
  unfold m5 at h;subst h;cases r;exact⟨(λu hu=>nomatch hu),rfl⟩
 |e::ds,xs,us,h,r=>by
  unfold m5 at h;obtain⟨v,vs,rfl,he,hs⟩:=h;cases r with
  |cons r1 r2=>
   rename_i u Gu;obtain⟨ih1,ih2⟩:=kF I d hs r2;have ee:tz X.K H d u=C9 e d:=by
    unfold tz;cases hb:C9 e d with
    |true=>exact@abb _ (Classical.propDecidable _) ⟨e,v,r1,he,hb⟩
    |false=>
     refine@aaW _ (Classical.propDecidable _) ?_;rintro⟨e',v',r',Mj,Ee⟩;have:v'=v:=r'.inj r1;subst this;have:e'=e:=w9.inj I e' e Mj he;subst this;rw[hb]at Ee;cases Ee
   refine⟨λu' hu=>?_,by rw[acK,acK,ee,ih2]⟩;rcases List.mem_cons.mp hu with rfl|hu
   ·exact⟨e,v,r1,he,abd,ee⟩
   ·obtain⟨e',v',a,b,c,q⟩:=ih1 u' hu;exact⟨e',v',a,b,aa9 _ c,q⟩
def yR{e:Da}(h:e∈ds):gX e<=bv ds:=by obtain⟨i,hi,rfl⟩:=List.mem_iff_getElem.mp h;exact jh (j:=i) (aaO hi)
inductive BU(K:W.Frag)(f:Bool->Bool)(x y:V)(H:Hp)(Q:VK):Prop
 |mk:∀p xs d ds,y=.ref p->d9 K H p xs->w9 K H d x->m5 K H ds xs->bv ds<=50->Q (.bl (f (ds.any λe=>C9 e d))) H->BU K f x y H Q
theorem gz(hu:X.A.units+64<cLine):B8 X (compareOp .NotIn) (BU X.K not):=by
 intro pins s σ H x y v u Q I rx ry h;obtain⟨p,xs,d,ds,rfl,hq,hd,hs,hz,q⟩:=h;cases ry;obtain⟨us,r1,p1,_⟩:=I.list hq;obtain⟨a1,a2⟩:=kF I d hs r1;refine SeqAt.notIn_listAt (tz X.K H d) p1.isList (λw hw=>?_) ⟨.bl _,H,I,?_,q⟩
 ·obtain⟨e,z,r,he,hm,ee⟩:=a1 w (by simpa using hw);rw[ee];exact nj I 50 e d (abg (yR hm) hz) he hd r rx (by show X.A.units+1+50<cLine;lia)
 ·show Value.bool _=_;rw[<-a2];simp
section
variable{X:Cx}{K:W.Frag}
def bc(h:X.K=K):Qx X (BR K):=h▸ak
def fP(h:X.K=K):Qx X (BS K):=h▸aO
def pE(h:X.K=K)(hu:X.A.units+64<cLine):B8 X (compareOp .NotIn) (BU K not):=h▸gz hu
end
variable{α:Type}
def cV{xs:List α}{x:α}(h:xs[i]?=some x):xs.take (i+1)=xs.take i++[x]:=by rw[List.take_add_one,h];rfl
def ao{xs:List α}{x:α}(h:xs[i]?=some x):i<xs.length:=(List.getElem?_eq_some_iff.mp h).1
def ax{xs:List α}(h:i<xs.length):∃x,xs[i]?=some x:=⟨_,aaO h⟩
section
variable{K:W.Frag}{a:Addr}{xs ys:List V}{js:List Nat}{tc:TT}{te:TE}{σ:St}{Q:VK}{D:Addr}{H1:Hp}
theorem tU(hz:xs.length<sizeLine)(hlen:ys.length=xs.length)(ha:b9 K H1 a xs)(hD:H1 D=none)(he:∀(i:Nat) (x y:V) (H:Hp),xs[i]?=some x->ys[i]?=some y->a_ H1 H->∀Q':VK,(∀H',a_ H H'->Q' y H')->te (some x::bp js σ) H Q')(hq:∀H',a_ H1 H'->H' D=some (.lst ys)->Q (.ref D) H'):gZ (IT K a) js D8 te σ Q D H1:=by
 refine nA (K:=K) (a:=a) (xs:=xs) (λi acc H=>i<=xs.length/\acc=ys.take i/\a_ H1 H/\H D=some (.lst acc)) hz ⟨aa3 _,rfl,ac hD _,aa⟩ (λi acc H ⟨l,e,s,d⟩=>⟨d,?_,a_.tupS s ha⟩) ?_ ?_
 ·rw[e,aaZ];lia
 ·rintro i m x acc H hi ⟨l,e,s,d⟩ hm;have o9:=ao hi;obtain⟨y,hy⟩:=ax (xs:=ys) (i:=i) (by lia);exact he i x y H hi hy s _ λH' s'=>fH o9 hm (s' _ _ d) ⟨o9,by rw[e,cV hy],aL hD (s.trans s'),aa⟩
 ·rintro acc H ⟨l,e,s,d⟩;rw[aa2 (by lia)]at e;exact hq H s (by rw[d,e])
theorem tV(hz:xs.length<sizeLine)(hlen:ys.length=xs.length)(ha:d9 K H1 a xs)(hD:H1 D=none)(he:∀(i:Nat) (x y:V) (H:Hp),xs[i]?=some x->ys[i]?=some y->a_ H1 H->∀Q':VK,(∀H',a_ H H'->Q' y H')->te (some x::bp js σ) H Q')(hq:∀H',a_ H1 H'->H' D=some (.lst ys)->Q (.ref D) H'):gZ (HK K a) js D8 te σ Q D H1:=by
 refine ji (K:=K) (a:=a) (xs:=xs) (λi acc H=>i<=xs.length/\acc=ys.take i/\a_ H1 H/\H D=some (.lst acc)) hz ⟨aa3 _,rfl,ac hD _,aa⟩ (λi acc H ⟨l,e,s,d⟩=>⟨d,?_,a_.seq s ha⟩) ?_ ?_
 ·rw[e,aaZ];lia
 ·rintro i m x acc H hi ⟨l,e,s,d⟩ hm;have o9:=ao hi;obtain⟨y,hy⟩:=ax (xs:=ys) (i:=i) (by lia);exact he i x y H hi hy s _ λH' s'=>fH o9 hm (s' _ _ d) ⟨o9,by rw[e,cV hy],aL hD (s.trans s'),aa⟩
 ·rintro acc H ⟨l,e,s,d⟩;rw[aa2 (by lia)]at e;exact hq H s (by rw[d,e])
noncomputable def cX(xs:List V)(ks:List Bool):List V:=(xs.zip ks).filterMap λp=>if p.2=true then some p.1 else none
theorem sM{xs:List V}{ks:List Bool}{x:V}{k:Bool}(hx:xs[i]?=some x)(hk:ks[i]?=some k):cX (xs.take (i+1)) (ks.take (i+1))=cX (xs.take i) (ks.take i)++(if k=true then[x]else[]):=by have l1:=ao hx;have l2:=ao hk;unfold cX;rw[cV hx,cV hk,List.zip_append (by rw[aaZ,aaZ];lia),List.filterMap_append];congr 1;cases k<;>rfl
theorem iV(xs:List V)(ks:List Bool):(cX xs ks).length<=xs.length:=by unfold cX;refine abg (List.length_filterMap_le _ _) ?_;rw[List.length_zip];lia
theorem kn(ks:List Bool)(hz:xs.length<sizeLine)(hlen:ks.length=xs.length)(ha:d9 K H1 a xs)(hD:H1 D=none)(hc:∀(i:Nat) (x:V) (k:Bool) (H:Hp),xs[i]?=some x->ks[i]?=some k->a_ H1 H->∀Q':Bool->Hp->Prop,(∀H',a_ H H'->Q' k H')->tc (some x::bp js σ) H Q')(he:∀(x:V) (H:Hp) (Q':VK),Q' x H->te (some x::bp js σ) H Q')(hq:∀H',a_ H1 H'->H' D=some (.lst (cX xs ks))->Q (.ref D) H'):gZ (HK K a) js tc te σ Q D H1:=by
 refine⟨λi m acc H=>m=xs.length-i/\i<=xs.length/\acc=cX (xs.take i) (ks.take i)/\a_ H1 H/\H D=some (.lst acc),⟨xs.length,by simp,aa3 _,rfl,ac hD _,aa⟩,?_⟩;rintro i m acc H ⟨hm,hi,e,s,d⟩;have E8:acc.length<=i:=by rw[e];refine abg (iV _ _) ?_;rw[aaZ];lia
 refine⟨d,by lia,?_⟩;by_cases o9:i<xs.length
 ·refine .inr ⟨⟨xs,xs[i],a_.seq s ha,by simp[o9]⟩,λx H' y=>?_⟩;obtain⟨e1,y⟩:=y;subst e1;have hx:=y xs (a_.seq s ha);obtain⟨k,hk⟩:=ax (xs:=ks) (i:=i) (by lia);refine hc i x k _ hx hk s _ λH' s'=>?_;have step:=sM hx hk;cases k with
  |true=>
   rw[aaY rfl];rw[aaY rfl]at step;exact he x H' _ ⟨s' _ _ d,xs.length-(i+1),by lia,rfl,o9,by rw[step,e],aL hD (s.trans s'),aa⟩
  |false=>
   rw[aaR (by decide)];rw[aaR (by decide),aby]at step;exact⟨xs.length-(i+1),by lia,rfl,o9,by rw[step,e],s.trans s',s' _ _ d⟩
 ·have e0:i=xs.length:=by lia
  subst e0;refine .inl ⟨⟨xs,a_.seq s ha,aaI _⟩,hq H s ?_⟩;rw[d,e,aa2 (aaI _),aa2 (by lia)]
end
def vX{k:Nat}(h:k<=xs.length):gY xs none (some (k:Int))=xs.take k:=by unfold gY;rw[HT.DO,HT.Em,Nat.min_eq_left h];simp
theorem vY{k:Nat}(h:k<=xs.length):gY xs (some (k:Int)) none=xs.drop k:=by unfold gY;rw[HT.DO,HT.Em,Nat.min_eq_left h];rw[aa2 (by rw[abP];lia)]
theorem dM(xs:List V)(k:Nat):gY xs none (some (k:Int))=xs.take k:=by
 by_cases h:k<=xs.length
 ·exact vX h
 ·unfold gY;rw[HT.DO,HT.Em,Nat.min_eq_right (by lia),List.drop_zero,Nat.sub_zero,aa2 (aaI _),aa2 (by lia)]
theorem cZ(xs:List V)(k:Nat):gY xs (some (k:Int)) none=xs.drop k:=by
 by_cases h:k<=xs.length
 ·exact vY h
 ·unfold gY;rw[HT.DO,HT.Em,Nat.min_eq_right (by lia),acS (aaI _),acS (by lia)];exact adM
def dY(x:α)(r:List α):Dp (x::r) 0=some x:=aV (j:=0) rfl
theorem Bf{xs:List α}{i:Int}(h0:0<=i)(h1:i<xs.length):∃x,Dp xs i=some x/\x∈xs:=by
 obtain⟨k,rfl⟩:=abt h0;have hk:k<xs.length:=by lia
 exact⟨xs[k],aV (aaO hk),List.getElem_mem hk⟩
structure QE(X:Cx)(e:Expr)(t:TE):Prop where
 h:PE X e t
structure QA(X:Cx)(es:List Expr)(t:TA):Prop where
 h:PA X es t
structure QS(X:Cx)(st:Stmt)(t:TS):Prop where
 h:PS X st t
structure IS(X:Cx)(b:List Stmt)(t:TS):Prop where
 h:HI X b t
structure QT(X:Cx)(e:Expr)(t:TT):Prop where
 h:PT X e t
structure QW(X:Cx)(e:Expr)(t:TT):Prop where
 h:PW X e t
structure QI(X:Cx)(tg iter:Expr)(t:TI):Prop where
 h:PI X tg iter t
structure QG(X:Cx)(tg:Expr)(t:TG):Prop where
 h:PG X tg t
structure Ro(X:Cx)(ts:List Expr)(t:IQ):Prop where
 h:Wb X ts t
structure QO(X:Cx)(e:Option Expr)(t:TO):Prop where
 h:PO X e t
structure V_(X:Cx)(ifs:List Expr)(t:TT):Prop where
 h:Rq X ifs t
variable{st:Stmt}
def ag{X:Cx}{rest:List Stmt}{t u:TS}(h1:QS X st t)(h2:IS X rest u):IS X (st::rest) (IZ t u):=⟨Jm h1.h h2.h⟩
def ai{X:Cx}{t:TS}(h1:QS X st t):IS X [st] t:=⟨LD h1.h⟩
def au{X:Cx}{pos':Pos}(hN:List.Nodup X.N)(hi:X.N[i]?=some x)(hx:Loc X.env.scope x)(he:QE X e te)(hs:autoParam (PySem.swapsWith e (some (PySem.Expr.Name x pos')) (PySem.Pos.line pos) X.env=Pure.pure false) θ)(hf:autoParam (X.fn x=true\/List.lookup x X.env.scope.names=some NameKind.local) ι):QS X (Stmt.Assign [PySem.Expr.Name x pos'] e pos) (HU te (s_ i)):=⟨OS hN hi hx he.h hs hf⟩
variable{tg:Expr}
def jE{X:Cx}{g:TG}(he:QE X e te)(hg:QG X tg g)(hs:autoParam (PySem.swapsWithSole [tg] e (PySem.Pos.line pos) X.env=Pure.pure false) θ)(hw:autoParam (PySem.swappedStores [tg] e X.env=Pure.pure none) θ)(h1:autoParam (List.map (λ(x:Bool×(PySem.Value->PySem.Sem Unit))=>Prod.snd x) (PySem.assignEach [tg] X.env)=[PySem.assign tg X.env]) θ):QS X (Stmt.Assign [tg] e pos) (HU te g):=⟨OV he.h hg.h hs hw h1⟩
def bK{X:Cx}(he:QE X e te)(hs:autoParam (PySem.swapsWith e none (PySem.Pos.line pos) X.env=Pure.pure false) θ):QS X (Stmt.Expr e pos) (MJ te):=⟨LH he.h hs⟩
def aG{X:Cx}(he:QE X e te):QS X (Stmt.Return (some e) pos) (RH te):=⟨OT he.h⟩
def bz{X:Cx}{t u:TS}{a b:List Stmt}(hc:QT X c tc)(ha:IS X a t)(hb:IS X b u):QS X (Stmt.If c a b pos) (Lx tc t u):=⟨R3 hc.h ha.h hb.h⟩
variable{body:List Stmt}
def bh{X:Cx}{g:TG}{tb:TS}(hp:PySem.PassesOwn (PySem.model X.prog X.w) X.A X.env X.xe)(hc:X.calm=true)(hi:QI X tg iter wi)(hg:QG X tg g)(hb:IS X body tb)(hs:∀(x:Value),PySem.foldedSetIterable iter X.env x=Pure.pure x:=by intro _;rfl):QS X (Stmt.For tg iter body [] pos) (RL wi g tb):=⟨OU hp hc hi.h hg.h hb.h hs⟩
def τ:Lean.Syntax:=bh._auto_1
def iG{X:Cx}{tb:TS}(hp:PySem.PassesOwn (PySem.model X.prog X.w) X.A X.env X.xe)(hc:QT X c tc)(hb:IS X body tb):QS X (Stmt.While c body [] pos) (IY tc tb):=⟨Jn hp hc.h hb.h⟩
variable{ta tb:TE}
def ar{X:Cx}{op:Operator}{r:R2}(ho:B8 X (PySem.binaryOp op) r)(ha:QE X a ta)(hb:QE X b tb):QE X (PySem.Expr.BinOp a op b pos) (MH r ta tb):=⟨R5 ho ha.h hb.h⟩
def xM{X:Cx}{op:UnaryOp}{r:V->Hp->VK->Prop}(ho:Yk X (PySem.unaryOp op) r)(ha:QE X a ta):QE X (PySem.Expr.UnaryOp op a pos) (tUn r ta):=⟨R4 ho ha.h⟩
def wF{X:Cx}(ha:QE X a ta):QE X (PySem.Expr.UnaryOp UnaryOp.Not a pos) (MI ta):=⟨O3 ha.h⟩
def wE{X:Cx}{op:BoolOp}{t:TE}(h:QE X a t):QE X (PySem.Expr.BoolOp op [a] pos) t:=⟨O1 h.h⟩
variable{rest:List Expr}
def wG{X:Cx}(ha:QE X a ta)(hb:QE X (PySem.Expr.BoolOp BoolOp.And (b::rest) pos) tb):QE X (PySem.Expr.BoolOp BoolOp.And (a::b::rest) pos) (ML ta tb):=⟨O8 ha.h hb.h⟩
def fc{X:Cx}{op:CmpOp}{r:R2}(ho:B8 X (PySem.compareOp op) r)(ha:QE X a ta)(hb:QE X b tb)(hm:PySem.behindInMarks op b=false):QE X (PySem.Expr.Compare a [op] [b] pos) (MH r ta tb):=⟨LS ho ha.h hb.h hm⟩
variable{tA:TT}
def uN{X:Cx}(hc:QT X c tA)(ha:QE X a ta)(hb:QE X b tb):QE X (PySem.Expr.IfExp c a b pos) (tIf tA ta tb):=⟨Jq hc.h ha.h hb.h⟩
variable{es:List Expr}{t:TA}
def aR{X:Cx}(h:QA X es t):QE X (PySem.Expr.List es pos) (RK t):=⟨O5 h.h⟩
def aq{X:Cx}{x1:Nat}(h:QA X es t):QE X (PySem.Expr.Tuple es x1 pos) (RG t):=⟨OZ h.h⟩
def bQ{X:Cx}{lo hi:Option Expr}{tl th:TO}{p2:Pos}{r:V->Option Int->Option Int->Hp->VK->Prop}(hr:V8 X r)(he:QE X e te)(hl:QO X lo tl)(hu:QO X hi th):QE X (PySem.Expr.Subscript e (PySem.Expr.Slice lo hi none p2) pos) (tSl r te tl th):=⟨Jp hr he.h hl.h hu.h⟩
def aj{X:Cx}{r:R2}(hr:Qx X r)(ha:QE X a ta)(hb:QE X b tb)(hs:ue b:=by exactλ_ _=>rfl):QE X (PySem.Expr.Subscript a b pos) (MH r ta tb):=⟨R6 hr ha.h hb.h hs⟩
def bG{X:Cx}{t:Str}(hc:X.calm=true)(E9:Dt X.N X.env.scope sc t ys js=true)(hi:QI X (PySem.Expr.Name t px) iter wi)(hf:∀(cl:List (Str×Addr)) (C:Addr) (s:Shared) (H:Hp) (fp:List Addr),V_ (X.comp sc cl C (t::ys) s H fp) ifs tc)(he:∀(cl:List (Str×Addr)) (C:Addr) (s:Shared) (H:Hp) (fp:List Addr),QE (X.comp sc cl C (t::ys) s H fp) elt te)(hs:autoParam (∀(x:Value),PySem.foldedSetIterable iter X.env x=Pure.pure x) τ):QE X (PySem.Expr.ListComp elt [{ target:=PySem.Expr.Name t px,iter:=iter,ifs:=ifs,is_async:=0 }] sc pos) (Hm wi js tc te):=⟨LR hc E9 hi.h (λcl C s H fp=>(hf cl C s H fp).h) (λcl C s H fp=>(he cl C s H fp).h) hs⟩
def aw{X:Cx}{CX:Gq}{k:Nat}{f:Addr}{fd:FuncData}{ps:List Str}{sp:Sp}{IM:List V}{ds:List Value}{E:XK}(F:i6 X.prog X.w X.K X.mg X.base CX k f fd ps sp)(hr:r6 k X.A)(hg:Gl X x)(hm:X.mg x=some (Value.ref f))(hk:PySem.W.keepIn X.K (Value.ref f)=true)(hb:Binds X.K fd ps ds)(hd:Vals IM ds)(hx:gQ CX X E)(ha:QA X (e::es) t)(Io:autoParam ((x == PySem.Str.ofString "__debug__")=false) ξ)(he:autoParam (PySem.starEach (e::es) X.env=(false,PySem.eval e X.env)::PySem.starEach es X.env) θ)(E7:autoParam ((List.any (PySem.backTo pos (PySem.starEach es X.env)) λ(x:Bool×PySem.Sem Value)=>Prod.fst x)=false) θ):QE X (PySem.Expr.Call (PySem.Expr.Name x p) (e::es) [] pos) (MK sp IM E t):=⟨LU F hr hg hm hk hb hd hx ha.h Io he E7⟩
variable{id:String}
def aB{X:Cx}{r:List V->Hp->VK->Prop}(hc:eg X (Value.builtin id) r)(hg:Gl X x)(hm:X.mg x=none)(hv:PySem.bootBuiltins x=some (Value.builtin id))(ha:QA X (e::es) t)(hn:autoParam (x≠PySem.Str.ofString "__name__") ξ)(Io:autoParam ((x == PySem.Str.ofString "__debug__")=false) ξ)(he:autoParam (PySem.starEach (e::es) X.env=(false,PySem.eval e X.env)::PySem.starEach es X.env) θ)(E7:autoParam ((List.any (PySem.backTo pos (PySem.starEach es X.env)) λ(x:Bool×PySem.Sem Value)=>Prod.fst x)=false) θ):QE X (PySem.Expr.Call (PySem.Expr.Name x p) (e::es) [] pos) (WV r t):=⟨Jr hc hg hm hv ha.h hn Io he E7⟩
variable{T:String}
def bf{X:Cx}{r:List V->Hp->VK->Prop}(hc:eg X (Value.type T) r)(hg:Gl X x)(hm:X.mg x=none)(hv:PySem.bootBuiltins x=some (Value.type T))(ha:QA X (e::es) t)(hn:autoParam (x≠PySem.Str.ofString "__name__") ξ)(Io:autoParam ((x == PySem.Str.ofString "__debug__")=false) ξ)(he:autoParam (PySem.starEach (e::es) X.env=(false,PySem.eval e X.env)::PySem.starEach es X.env) θ)(E7:autoParam ((List.any (PySem.backTo pos (PySem.starEach es X.env)) λ(x:Bool×PySem.Sem Value)=>Prod.fst x)=false) θ):QE X (PySem.Expr.Call (PySem.Expr.Name x p) (e::es) [] pos) (WV r t):=⟨HX hc hg hm hv ha.h hn Io he E7⟩
variable{r:V->List V->Hp->VK->Prop}{l_ apos:Pos}{name:Str}
theorem eL{X:Cx}{o:Expr}{to:TE}(pa:PySem.PlainAttrs T)(slot:PySem.Slot T name id)(L4:PySem.typeOf (Value.builtin id)=Pure.pure (Value.type "method_descriptor"))(hm:Rr X id r)(ho:QE X o to)(ha:QA X (e::es) t)(DV:autoParam (PySem.attributeBase o name X.env (PySem.eval o X.env)=PySem.eval o X.env) θ)(JL:autoParam ((((List.all (PySem.backTo l_ (PySem.starEach (e::es) X.env)) λ(x:Bool×PySem.Sem Value)=>!Prod.fst x)&&List.all (PySem.backToKw l_ (PySem.keywordEach [] X.env)) λ(x:Option Str×PySem.Sem Value)=>Option.isSome (Prod.fst x))&&Decidable.decide ((List.length (e::es)+List.length ([]:List Keyword)+if List.isEmpty ([]:List Keyword)=true then 0 else 1)<30))=true) θ)(DR:autoParam ((PySem.Pos.endLine apos == PySem.Pos.line l_)=true) θ)(hs:autoParam (PySem.starEach (e::es) X.env=(false,PySem.eval e X.env)::PySem.starEach es X.env) θ)(EC:autoParam ((List.any (PySem.backTo l_ (PySem.starEach es X.env)) λ(x:Bool×PySem.Sem Value)=>Prod.fst x)=false) θ):QE X (PySem.Expr.Call (PySem.Expr.Attribute o name apos) (e::es) [] l_) (Yx X.K T r to t):=⟨R7 pa slot L4 hm ho.h ha.h DV JL DR hs EC⟩
theorem cI{X:Cx}{o:Expr}{to:TE}(pa:PySem.PlainAttrs T)(slot:PySem.Slot T name id)(L4:PySem.typeOf (Value.builtin id)=Pure.pure (Value.type "method_descriptor"))(hm:Rr X id r)(ho:QE X o to)(DV:autoParam (PySem.attributeBase o name X.env (PySem.eval o X.env)=PySem.eval o X.env) θ)(DR:autoParam ((PySem.Pos.endLine apos == PySem.Pos.line l_)=true) θ):QE X (PySem.Expr.Call (PySem.Expr.Attribute o name apos) [] [] l_) (RM X.K T r to):=⟨O7 pa slot L4 hm ho.h DV DR⟩
def dA{X:Cx}(ha:QT X a tA):QT X (PySem.Expr.UnaryOp UnaryOp.Not a pos) (RI tA):=⟨OR ha.h⟩
def dy{X:Cx}{t:TE}(h:QE X e t)(he:autoParam (∀(whole:PySem.Sem Value),PySem.isTrue e X.env whole=(do let v <- whole;PySem.standAt (PySem.Expr.pos e);PySem.holding [v] (PySem.truthy v))) τ):QT X e (tB t):=⟨OQ h.h he⟩
def aE{X:Cx}{op:CmpOp}{r:R2}(ho:B8 X (PySem.compareOp op) r)(ha:QE X a ta)(hb:QE X b tb)(hm:PySem.behindInMarks op b=false):QT X (PySem.Expr.Compare a [op] [b] pos) (Hk (MH r ta tb)):=⟨LC ho ha.h hb.h hm⟩
def uI{X:Cx}{tc:TE}{op O_:CmpOp}{r r':R2}(ho:B8 X (PySem.compareOp op) r)(FX:B8 X (PySem.compareOp O_) r')(ha:QE X a ta)(hb:QE X b tb)(hc:QE X c tc)(hm:PySem.lastMarks [op,O_] [b,c]=false:=by with_unfolding_all rfl):QT X (PySem.Expr.Compare a [op,O_] [b,c] pos) (Hk (I_ r r' ta tb tc)):=⟨Jl ho FX ha.h hb.h hc.h hm⟩
variable{Lb:TT}
def wD{X:Cx}(ha:QT X a tA)(hb:QW X (PySem.Expr.BoolOp BoolOp.And (b::rest) pos) Lb):QW X (PySem.Expr.BoolOp BoolOp.And (a::b::rest) pos) (RN tA Lb):=⟨OP ha.h hb.h⟩
def iF{X:Cx}(ha:QT X a tA)(hb:QW X (PySem.Expr.BoolOp BoolOp.Or (b::rest) pos) Lb):QW X (PySem.Expr.BoolOp BoolOp.Or (a::b::rest) pos) (tOr tA Lb):=⟨RZ ha.h hb.h⟩
def rD{X:Cx}(ha:QT X a tA):QW X (PySem.Expr.BoolOp BoolOp.And [a] pos) tA:=⟨LB ha.h⟩
def jD{X:Cx}(ha:QT X a tA):QW X (PySem.Expr.BoolOp BoolOp.Or [a] pos) tA:=⟨OO ha.h⟩
def kO{X:Cx}{t:TT}(h:QW X e t):QT X e t:=⟨@PW.pt _ _ _ h.h⟩
def cw{X:Cx}(h:QE X e te):QO X (some e) (MG te):=⟨LI h.h⟩
variable{tl:TE}
def bA{X:Cx}(hl:QE X l tl):QI X tg l (Nd X.K tl):=⟨LN hl.h⟩
def cr{X:Cx}(hl:QE X l tl):QI X tg l (SY X.K tl):=⟨OW hl.h⟩
def aZ{X:Cx}{ta:TA}(hg:Gl X (PySem.Str.ofString "range"))(hm:X.mg (PySem.Str.ofString "range")=none)(ha:QA X [a] ta)(hs:autoParam (PySem.starEach [a] X.env=[(false,PySem.eval a X.env)]) θ):QI X tg (PySem.Expr.Call (PySem.Expr.Name (PySem.Str.ofString "range") p) [a] [] pos) (Nc ta):=⟨HW hg hm ha.h hs⟩
def ay{X:Cx}(hN:List.Nodup X.N)(hi:X.N[i]?=some x)(hx:Loc X.env.scope x)(hf:autoParam (X.fn x=true\/List.lookup x X.env.scope.names=some NameKind.local) ι):QG X (PySem.Expr.Name x pos) (s_ i):=⟨LP hN hi hx hf⟩
def At{X:Cx}{o i:Expr}{to ti:TE}{t:ze}(ho:QE X o to)(hi:QE X i ti)(hs:zq X t)(ha:autoParam (∀(v:Value),PySem.assign (PySem.Expr.Subscript o i pos) X.env v=(do let ov <- PySem.holding [v] (PySem.eval o X.env);let iv <- PySem.holding [v,ov] (PySem.eval i X.env);PySem.standAt pos;PySem.holding [v,ov,iv] (PySem.setItem ov iv v);PySem.release [v,ov,iv] [])) τ):QG X (PySem.Expr.Subscript o i pos) (U3 to ti t):=⟨OY ho.h hi.h hs ha⟩
def fA{X:Cx}{k:Nat}{t:IQ}(hc:X.calm=true)(h:Ro X es t)(hn:autoParam (List.length (PySem.assignEach es X.env)=n) θ)(Ec:autoParam (List.findIdx? (λ(x:Bool×(PySem.Value->PySem.Sem Unit))=>Prod.fst x) (PySem.assignEach es X.env)=none) θ):QG X (PySem.Expr.Tuple es k pos) (Mt X.K n t):=⟨OX hc h.h hn Ec⟩
def aW{X:Cx}{t:TG}{u:IQ}(h1:QG X e t)(h2:Ro X es u)(hs:autoParam (List.map (λ(x:Bool×(PySem.Value->PySem.Sem Unit))=>Prod.snd x) (PySem.assignEach (e::es) X.env)=PySem.assign e X.env::List.map (λ(x:Bool×(PySem.Value->PySem.Sem Unit))=>Prod.snd x) (PySem.assignEach es X.env)) θ):Ro X (e::es) (JS t u):=⟨Jo h1.h h2.h hs⟩
def df{X:Cx}{t:TT}(h:QT X c t):V_ X [c] t:=⟨LK h.h⟩
def u9{X:Cx}{a:List Expr}{k:Nat}(ha:QE X (PySem.Expr.Tuple a k p) te)(hr:QA X es t):QA X (PySem.Expr.Tuple a k p::es) (o8 te t):=⟨paT ha.h hr.h⟩
def qaL{X:Cx}{a:List Expr}(ha:QE X (PySem.Expr.List a p) te)(hr:QA X es t):QA X (PySem.Expr.List a p::es) (o8 te t):=⟨paL ha.h hr.h⟩
def n_{X:Cx}{c:Const}{k:Nat}(ha:QE X (PySem.Expr.Constant c k p) te)(hr:QA X es t):QA X (PySem.Expr.Constant c k p::es) (o8 te t):=⟨paC ha.h hr.h⟩
def b_{X:Cx}(ha:QE X (PySem.Expr.Name x p) te)(hr:QA X es t):QA X (PySem.Expr.Name x p::es) (o8 te t):=⟨paN ha.h hr.h⟩
def Dx{X:Cx}{r:Expr}{o:Operator}(ha:QE X (PySem.Expr.BinOp l o r p) te)(hr:QA X es t):QA X (PySem.Expr.BinOp l o r p::es) (o8 te t):=⟨paB ha.h hr.h⟩
def q_{X:Cx}{i:Expr}(ha:QE X (PySem.Expr.Subscript v i p) te)(hr:QA X es t):QA X (PySem.Expr.Subscript v i p::es) (o8 te t):=⟨paS ha.h hr.h⟩
def Dw{X:Cx}{a:List Expr}{k:List Keyword}(ha:QE X (PySem.Expr.Call f a k p) te)(hr:QA X es t):QA X (PySem.Expr.Call f a k p::es) (o8 te t):=⟨paK ha.h hr.h⟩
def qaM{X:Cx}{c:List Expr}(ha:QE X (PySem.Expr.Compare l o c p) te)(hr:QA X es t):QA X (PySem.Expr.Compare l o c p::es) (o8 te t):=⟨paM ha.h hr.h⟩
def qaI{X:Cx}(ha:QE X (PySem.Expr.IfExp c a b p) te)(hr:QA X es t):QA X (PySem.Expr.IfExp c a b p::es) (o8 te t):=⟨paI ha.h hr.h⟩
def qaU{X:Cx}{o:UnaryOp}(ha:QE X (PySem.Expr.UnaryOp o v p) te)(hr:QA X es t):QA X (PySem.Expr.UnaryOp o v p::es) (o8 te t):=⟨paU ha.h hr.h⟩
def MP{X:Cx}{g:List PySem.Comprehension}(ha:QE X (PySem.Expr.ListComp e g s p) te)(hr:QA X es t):QA X (PySem.Expr.ListComp e g s p::es) (o8 te t):=⟨paE ha.h hr.h⟩
def Zh{X:Cx}{v:List Expr}(ha:QE X (PySem.Expr.JoinedStr v p) te)(hr:QA X es t):QA X (PySem.Expr.JoinedStr v p::es) (o8 te t):=⟨paJ ha.h hr.h⟩
def qv{X:Cx}(i:Nat)(hN:autoParam (X.N[i]?=some x) θ)(hv:autoParam (V6 X.env.scope x) ρ)(hd:autoParam ((x == PySem.Str.ofString "__debug__")=false) ξ)(ER:autoParam ((x == PySem.Str.ofString "__classdict__")=false) ξ):QE X (PySem.Expr.Name x pos) (Lw i):=⟨@pv _ i _ _ hN hv hd ER⟩
variable{j:Nat}
def af{X:Cx}{i:Int}:QE X (PySem.Expr.Constant (Const.int i) j pos) (tC (V.int i)):=⟨O6⟩
def aA{X:Cx}:QE X (PySem.Expr.Constant (Const.str x) j pos) (tC (V.str x)):=⟨O0⟩
def cJ{X:Cx}{b:Bool}:QE X (PySem.Expr.Constant (Const.bool b) j pos) (tC (V.bl b)):=⟨R8⟩
def Av{X:Cx}:QE X (PySem.Expr.Constant Const.none j pos) (tC V.q8):=⟨O4⟩
variable{u:Value}
def cT{X:Cx}{v:V}(hg:Gl X x)(hm:X.mg x=some u)(r:RelV v u)(hd:autoParam ((x == PySem.Str.ofString "__debug__")=false) ξ):QE X (PySem.Expr.Name x pos) (tC v):=⟨LQ hg hm r hd⟩
def dD{X:Cx}{v:V}(hg:Gl X x)(hm:X.mg x=none)(hv:PySem.bootBuiltins x=some u)(r:RelV v u)(hn:autoParam (x≠PySem.Str.ofString "__name__") ξ)(hd:autoParam ((x == PySem.Str.ofString "__debug__")=false) ξ):QE X (PySem.Expr.Name x pos) (tC v):=⟨LV hg hm hv r hn hd⟩
def aK{X:Cx}:IS X [] I0:=⟨LF⟩
def ae{X:Cx}:QA X [] RJ:=⟨O9⟩
def cx{X:Cx}:QO X none Hl:=⟨LJ⟩
def bE{X:Cx}:V_ X [] D8:=⟨LM⟩
def cH{X:Cx}:Ro X [] U4:=⟨LO⟩
def uH{X:Cx}(ha:QE X a ta)(he:∀(whole:PySem.Sem Value),PySem.isTrue a X.env whole=(do let v <- whole;PySem.standAt (PySem.Expr.pos a);PySem.holding [v] (PySem.truthy v))):QT X a λ(σ:St)(H:Hp)(Q:Bool->Hp->Prop)=>ta σ H λ(x:V)(H':Hp)=>∃(k:Bool),Ck X.K x H' k/\Q k H':=⟨Jk ha.h he⟩
section
variable{P:Program}{w:World}{K:W.Frag}{mg:Str->Option Value}{base:Heap}
def v9.Dy{x qual:Str}{st:Stmt}{f:Addr}{fd:FuncData}{N ps:List Str}{k:Nat}{sp:Sp}(F:v9 K x qual st f fd)(S:aF N ps (ah st))(len:∀vs H Q E,sp vs H Q E->vs.length=ps.length)(DU:∀(m_:Value) (A:Around) (outer:List Env) (s:Shared) (H:Hp) (vs:List V) (Q:VK) (E:XK),r6 k (A.deeper (envOfC qual (ah st) s.heap.objs.size f m_))->sp vs H Q E ->
 ∃t,IS (cg A6 P w K mg base N qual (ah st) f m_ A outer s H E).Pa (az st) t/\t { nx:=λ_ H'=>Q .q8 H',rt:=Q } (start N vs) H):i6 P w K mg base A6 (k+1) f fd ps sp:=
 F.ok S len λm_ A outer s H vs Q E hr h=>let⟨t,h1,h2⟩:=DU m_ A outer s H vs Q E hr h;⟨t,h1.h,h2⟩
end
abbrev OG:List Value:=[.type "ValueError",.type "Exception",.type "BaseException",.type "object"]
abbrev xp(K:W.Frag)(C:Addr):Prop:=PySem.W.excIn K C OG "ValueError.__new__" = true
variable{h:Heap}{C:Addr}
def tu{bmB:List Value}{newId:String}(X:K.In h)(q:PySem.W.excIn K C bmB newId=true):
 ∃bm N nm qn bs hdct sn sub ab col dd k0 k1 k2 k3 k5 mN,h.get? C=some (excClassObj nm qn C N bs bm hdct sn sub ab col dd k0 k1 k2 k3 k5 newId)/\h.Ns N mN/\mN "__init__" = none/\OwnTail h bmB bm /\
  ∀v b,PySem.W.mroIn K C v=some b->(Value.ref C::bm).contains v=b:=by
 unfold PySem.W.excIn at q;split at q
 ·rename_i dd cd sl ho;split at q
  ·rename_i C' bm k0 k1 k2 k3 n k5 hm hs;simp only[abI,ado,Bool.not_eq_true']at q;obtain⟨⟨⟨⟨⟨rfl,rfl⟩,JO⟩,ht⟩,i4⟩,Xp⟩:=q;obtain⟨nm,bs,mro,ns,qn,hd,sn,sub,ab,col,del⟩:=cd;dsimp only at hm JO i4 Xp;subst hm JO;have PD:sl=#[k0,k1,k2,k3,some (.builtin n),k5]:=by
    obtain⟨l⟩:=sl;simp only at hs;rw[hs]
   subst PD;refine⟨bm,ns,nm,qn,bs,hd,sn,sub,ab,col,dd,k0,k1,k2,k3,k5,_,X _ _ ho,.of_isNs (PySem.W.isNs_of_in X i4),PySem.W.nsMap_none_of_in X i4 Xp,PySem.W.tail_of_in X ht,λv b e=>?_⟩;unfold PySem.W.mroIn PySem.W.clsIn at e;rw[ho]at e;simpa using e
  ·cases q
 ·cases q
variable{P:Program}
theorem i9.there{a:Addr}{o:HO}(x:i9 P w H h a o):∃ob,h.get? a=some ob:=by
 cases o with
 |lst xs=>obtain⟨_,_,_,_,e⟩:=x;exact⟨_,e⟩
 |tup xs=>obtain⟨_,_,_,p⟩:=x;obtain⟨ob,e,_⟩:=p;exact⟨ob,e⟩
 |dK e_=>obtain⟨_,_,_,_,o,_,_,e,_⟩:=x;exact⟨_,e⟩
 |dT e_=>obtain⟨_,_,_,_,o,_,_,e,_⟩:=x;exact⟨_,e⟩
 |set S n=>obtain⟨o,_,_,_,e,_⟩:=x;exact⟨_,e⟩
 |ins C dx fs=>obtain⟨_,_,_,e,_⟩:=x;exact⟨_,e⟩
 |own y=>exact x
 |xd fs=>obtain⟨_,⟨_,_,_,e,_⟩,_⟩:=x;exact⟨_,e⟩
 |W6 lo hi=>obtain⟨_,_,_,e⟩:=x;exact⟨_,e⟩
 |Hd ob u=>obtain⟨e,_⟩:=x;exact⟨_,e⟩
 |MF ps=>exact⟨_,show h.get? a=some _ from x⟩
 |met f y=>exact⟨_,show h.get? a=some _ from x⟩
 |ext φ=>obtain⟨_,e,_⟩:=x;exact e
structure XO(P:Program)(w:World)(outer:List Env)(H:Hp)(s:Shared)(cls:Value)(a:Addr)(H':Hp)(s':Shared):Prop where
 os:s'.os=s.os
 bare:AllBare s'.gens
 un:Un (n9 outer) [] H H' s.heap s'.heap
 i4:A8 P w H' s'.heap
 new:s.heap.get? a=none
 free:H' a=none
 ES:∃B a0,Heap.FlyingW B outer a cls a0 s'.heap/\∀b o,(H' b≠none\/∃o',s.heap.get? b=some o')->b∉n9 outer->s'.heap.get? b=some o->B.get? b=some o
def GD(P:Program)(w:World):Gq:=λouter H s E e s'=>∃a cls H',e=.ref a/\XO P w outer H s cls a H' s'/\E cls none H'
variable{fr:List Addr}{h':Heap}
section
variable{X:Cx}{pins:List (Addr×Obj)}{σ:St}{H H':Hp}{s s':Shared}{M:Model}{E':Value->Shared->Prop}{a:Addr}{cls:Value}
def Un.ES{fs:List Addr}{H0:Hp}{h0 B:Heap}(u:Un fs [] H0 H h0 h)(P1:∀b∈fr,b∈fs\/∀o,h0.get? b≠some o)(C0:B.StaysIn h')(big:∀b o,h.get? b=some o->b∉fr->(H b≠none\/∃o',h0.get? b=some o')->B.get? b=some o)(slots:∀b o,h.get? b=some o->b∈fr->∃sl,h'.get? b=some { o with slots:=sl })(sub:∀b∈fs,b∈fr):Un fs [] H0 H h0 h' where
 keep:=λb o q n hb hx=>by
  have e:=u.keep b o q n hb hx;have hf:b∉fr:=λz=>by
   rcases P1 b z with y|y
   ·exact hb y
   ·exact y o q
  exact C0 b o (big b o e hf (.inr ⟨o,q⟩))
 slot:=λb o q n hb hx=>by obtain⟨sl,e⟩:=u.slot b o q n hb hx;obtain⟨RQ,e'⟩:=slots b _ e (sub b hb);exact⟨RQ,e'⟩
 free:=u.free
 there:=λb o q hx=>by
  obtain⟨o',e⟩:=u.there b o q hx;by_cases hf:b∈fr
  ·obtain⟨sl,e'⟩:=slots b o' e hf;exact⟨_,e'⟩
  ·exact⟨o',C0 b o' (big b o' e hf (.inr ⟨o,q⟩))⟩
 B_:=u.B_
 B5:=u.B5
 B':=u.B'
def A8.ES{H:Hp}{B:Heap}(ok:A8 P w H h)(B1:∀b∈fr,H b=none)(C0:B.StaysIn h')(big:∀b o,h.get? b=some o->b∉fr->H b≠none->B.get? b=some o):A8 P w H h':=λa o e=>by
 refine(ok a o e).C0 (λb u hb q=>?_) (λ_ q=>q) λ_ _ q=>q;have hn:H b≠none:=by
  rcases hb with rfl|hb
  ·rw[e];exactλz=>nomatch z
  ·rw[hb];exactλz=>nomatch z
 exact C0 b u (big b u q (λz=>hn (B1 b z)) hn)
def cc{l:List Env}{L:Addr}(h:env.frame=some L):n9 (env::l)=L::n9 l:=by unfold n9;rw[acE,h]
def Inv.raise(I:Inv X pins σ H s)(hs:X.stack=X.env::X.outer)(hf:X.env.frame=some X.env.locals)(hex:X.ex=[]){h1:Heap}{args:List Value}(hx:Heap.MadeExcOf s.heap h1 a cls args):
 wpAny M X.A (leaving X.env (.ref a)) (λ_ HV=>XO X.prog X.w X.outer X.H₀ X.s₀ cls a H HV) E' { s with heap:=h1 }:=by
 have B1:X.A.frames=some (X.env::X.outer):=by rw[<-hs];exact I.ok.frames
 have Mr:s.heap.FunFrames X.base (X.env::X.outer):=by rw[<-hs];exact I.stack
 have DT:∀env∈(X.env::X.outer),∀b,env.frame=some b->b∈n9 (X.env::X.outer):=λenv he b hb=>List.mem_filterMap.mpr ⟨env,he,hb⟩;have A2:∀b∈n9 (X.env::X.outer),H b=none:=by rw[<-hs];exact I.A7
 have ub:Un X.fs [] X.H₀ H X.s₀.heap s.heap:=by have:=I.base;rw[hex]at this;exact this
 have nL:∀o,X.s₀.heap.get? X.env.locals≠some o:=λo z=>absurd (aa1 (aaJ z) I.ok.above) (abG _);have big:∀b o,s.heap.get? b=some o->b∉n9 (X.env::X.outer)->(PySem.W.hideAll s.heap (n9 (X.env::X.outer))).get? b=some o:=λb o e n=>adH _ e n;refine wpAny_leaves_madeW (base:=PySem.W.hideAll s.heap (n9 (X.env::X.outer))) B1 hf (λb o q=>adP _ q) (aes Mr DT) hx λh' t fl _ _ up=>?_;have slots:∀b o,s.heap.get? b=some o->b∈n9 (X.env::X.outer)->∃sl,h'.get? b=some { o with slots:=sl }:=λb o e hb=>by obtain⟨_,o',e',nf⟩:=Mr.mem hb;rw[e]at e';cases e';exact up b o (hx.keeps b o e) nf
 have P1:∀b∈n9 (X.env::X.outer),b∈X.fs\/∀o,X.s₀.heap.get? b≠some o:=λb hb=>by
  rw[cc hf]at hb;rcases List.mem_cons.mp hb with rfl|hb
  ·exact .inr nL
  ·exact .inl hb
 have sub:∀b∈X.fs,b∈n9 (X.env::X.outer):=λb hb=>by rw[cc hf];exact aa9 _ hb
 refine⟨I.os,I.bare,ub.ES P1 fl.1 (λb o e n _=>big b o e n) slots sub,I.i4.ES A2 fl.1 (λb o e n _=>big b o e n),?_,?_,_,_,fl,λb o hb hn e=>?_⟩
 ·cases q:X.s₀.heap.get? a with
  |none=>rfl
  |some o=>
   obtain⟨o',e⟩:=ub.there a o q (by simp);have:=hx.new;rw[e]at this;cases this
 ·cases q:H a with
  |none=>rfl
  |some o=>
   obtain⟨ob,e⟩:=(I.i4 a o q).there;have:=hx.new;rw[e]at this;cases this
 ·have UN:∃ob,s.heap.get? b=some ob:=by
   rcases hb with hb|⟨o',hb⟩
   ·cases q:H b with
    |none=>exact absurd q hb
    |some u=>exact(I.i4 b u q).there
   ·exact ub.there b o' hb (by simp)
  have TN:b∉n9 (X.env::X.outer):=λz=>by
   rw[cc hf]at z;rcases List.mem_cons.mp z with rfl|z
   ·rcases hb with hb|⟨o',hb⟩
    ·exact hb I.free
    ·exact nL o' hb
   ·exact hn z
  obtain⟨ob,e1⟩:=UN;have e2:=big b ob e1 TN;have e3:=fl.1 b ob e2;rw[e]at e3;cases e3;exact e2
def Inv.pass(I:Inv X pins σ H s)(hs:X.stack=X.env::X.outer)(hf:X.env.frame=some X.env.locals)(hex:X.ex=[])(x:XO X.prog X.w X.stack H s cls a H' s'):
 wpAny M X.A (leaving X.env (.ref a)) (λ_ HV=>XO X.prog X.w X.outer X.H₀ X.s₀ cls a H' HV) E' s':=by
 rw[hs]at x;have B1:X.A.frames=some (X.env::X.outer):=by rw[<-hs];exact I.ok.frames
 obtain⟨B,a0,ES,big⟩:=x.ES;have ub:Un X.fs [] X.H₀ H X.s₀.heap s.heap:=by have:=I.base;rw[hex]at this;exact this
 have nL:∀o,X.s₀.heap.get? X.env.locals≠some o:=λo z=>absurd (aa1 (aaJ z) I.ok.above) (abG _);have A2:∀b∈n9 (X.env::X.outer),H b=none:=by rw[<-hs];exact I.A7
 have Mr:s.heap.FunFrames X.base (X.env::X.outer):=by rw[<-hs];exact I.stack
 have L6:∀b∈X.fs,b∈n9 (X.env::X.outer):=λb hb=>by rw[cc hf];exact aa9 _ hb
 have ut:Un X.fs [] X.H₀ H' X.s₀.heap s'.heap:=by
  have Pc:∀b o,X.s₀.heap.get? b=some o->b∉X.fs->b∉n9 (X.env::X.outer):=λb o q hb z=>by
   rw[cc hf]at z;rcases List.mem_cons.mp z with rfl|z
   ·exact nL o q
   ·exact hb z
  refine⟨λb o q n hb hx=>x.un.keep b o (ub.keep b o q n hb hx) (ub.free b o q n hx) (Pc b o q hb) (by simp),λb o q n hb hx=>?_,λb o q n hx=>?_,λb o q hx=>?_,λb xs q=>x.un.B_ b xs (ub.B_ b xs q),λb o u q=>x.un.B5 b o u (ub.B5 b o u q),λb ps q=>?_⟩
  ·obtain⟨sl,e⟩:=ub.slot b o q n hb hx;obtain⟨RQ,e'⟩:=x.un.slot b _ e (ub.free b o q n hx) (L6 b hb) (by simp);exact⟨RQ,e'⟩
  ·obtain⟨o',e⟩:=ub.there b o q hx;exact x.un.free b o' e (ub.free b o q n hx) (by simp)
  ·obtain⟨o',e⟩:=ub.there b o q hx;exact x.un.there b o' e (by simp)
  ·obtain⟨m1,e1⟩:=ub.B' b ps q;obtain⟨m2,e2⟩:=x.un.B' b _ e1;exact⟨m1++m2,by rw[e2,Array.append_assoc]⟩
 have Fw:∀b∈n9 (X.env::X.outer),H' b=none:=λb hb=>by obtain⟨_,o,e,_⟩:=Mr.mem hb;exact x.un.free b o e (A2 b hb) (by simp)
 refine wpAny_leaves_onW B1 hf ES λh' fl up=>?_;have Qr:∀b o,s'.heap.get? b=some o->b∉n9 (X.env::X.outer)->(H' b≠none\/∃o',X.s₀.heap.get? b=some o')->B.get? b=some o:=λb o e n hb=>by
  refine big b o ?_ n e;rcases hb with hb|⟨o',hb⟩
  ·exact .inl hb
  ·exact .inr (ub.there b o' hb (by simp))
 have slots:∀b o,s'.heap.get? b=some o->b∈n9 (X.env::X.outer)->∃sl,h'.get? b=some { o with slots:=sl }:=λb o e hb=>by obtain⟨_,o',e',nf⟩:=ES.2.2.1.mem hb;rw[e]at e';cases e';exact up b o e nf
 have P1:∀b∈n9 (X.env::X.outer),b∈X.fs\/∀o,X.s₀.heap.get? b≠some o:=λb hb=>by
  rw[cc hf]at hb;rcases List.mem_cons.mp hb with rfl|hb
  ·exact .inr nL
  ·exact .inl hb
 refine⟨x.os.trans I.os,x.bare,ut.ES P1 fl.1 Qr slots L6,x.i4.ES Fw fl.1 (λb o e n hb=>Qr b o e n (.inl hb)),?_,x.free,B,a0,fl,λb o hb hn e=>?_⟩
 ·cases q:X.s₀.heap.get? a with
  |none=>rfl
  |some o=>
   obtain⟨o',e⟩:=ub.there a o q (by simp);have:=x.new;rw[e]at this;cases this
 ·have TN:b∉n9 (X.env::X.outer):=λz=>by
   rw[cc hf]at z;rcases List.mem_cons.mp z with rfl|z
   ·rcases hb with hb|⟨o',hb⟩
    ·exact hb (Fw _ (by rw[cc hf];exact abd))
    ·exact nL o' hb
   ·exact hn z
  have UN:∃ob,s'.heap.get? b=some ob:=by
   rcases hb with hb|⟨o',hb⟩
   ·cases q:H' b with
    |none=>exact absurd q hb
    |some u=>exact(x.i4 b u q).there
   ·exact ut.there b o' hb (by simp)
  obtain⟨ob,e1⟩:=UN;have e2:=Qr b ob e1 TN hb;have e3:=fl.1 b ob e2;rw[e]at e3;cases e3;exact e2
end
noncomputable def Cx.hand(X:Cx)(a:Addr):Cx:={ X with A:=X.A.mark (some (.ref a)),calm:=false,xe:=λ_ _=>False }
theorem Cx.Ok.hand{X:Cx}(ok:X.Ok)(a:Addr):(X.hand a).Ok:=
 ⟨ok.mod,ok.kind,ok.glob,ok.blt,ok.above,ok.inj,ok.has,ok.Rk,(λz=>nomatch z),ok.frames,ok.RP,ok.exf,ok.bs,ok.HF,ok.FU,ok.JU,ok.Eb,ok.Nw⟩
section
variable{X:Cx}{pins:List (Addr×Obj)}{σ:St}{H H':Hp}{s s':Shared}{a:Addr}
theorem Inv.hand(I:Inv X pins σ H s)(a:Addr):Inv (X.hand a) pins σ H s:=⟨I.ok.hand a,I.os,I.bare,I.base,I.loc,I.cell,I.free,I.x_,I.pin,I.i4,I.len⟩
def Inv.OH(ok:X.Ok)(I:Inv (X.hand a) pins σ H s):Inv X pins σ H s:=⟨ok,I.os,I.bare,I.base,I.loc,I.cell,I.free,I.x_,I.pin,I.i4,I.len⟩
def Inv.IX{o:HO}(I:Inv X pins σ H s)(hn:H a=none)(Dm:∀u,X.s₀.heap.get? a≠some u)(i4:i9 X.prog X.w (upd H a o) s.heap a o)(Xc:a≠X.env.locals)(FE:∀x c,X.env.cells.lookup x=some c->c≠a)(neP:∀p∈X.pn++pins,p.1≠a):Inv X pins σ (upd H a o) s:=by
 have ne:∀{b:Addr}{u:HO},H b=some u->b≠a:=λe=>aI e hn;refine⟨I.ok,I.os,I.bare,⟨I.base.keep,I.base.slot,λb u q n hx=>?_,I.base.there,λb xs q=>?_,λb u v q=>?_,λb ps q=>?_⟩,I.loc,I.cell,?_,λx c e=>?_,λp hp=>?_,λb u q=>?_,I.len⟩
 ·rw[al (λz:b=a=>Dm u (by rw[<-z];exact q))];exact I.base.free b u q n hx
 ·have:=I.base.B_ b xs q;rw[al (ne this)];exact this
 ·have:=I.base.B5 b u v q;rw[al (ne this)];exact this
 ·obtain⟨m,e⟩:=I.base.B' b ps q;exact⟨m,by rw[al (ne e)];exact e⟩
 ·rw[al (abF Xc)];exact I.free
 ·rw[al (FE x c e)];exact I.x_ x c e
 ·obtain⟨e,n,y⟩:=I.pin p hp;exact⟨e,by rw[al (neP p hp)];exact n,y⟩
 ·by_cases hb:b=a
  ·subst hb;rw[aa]at q;cases q;exact i4
  ·rw[al hb]at q;exact(I.i4 b u q).C0 (λ_ _ _ z=>z) (λc z=>by rw[al (ne z)];exact z) λc xs z=>by rw[al (ne z)];exact z
theorem Inv.gone{v:Option Value}{m:Str->Option Value}{tk:Nat}(I:Inv X pins σ H s)(hN:X.N.Nodup)(hi:X.N[i]?=some x)(hn:s.heap.Ns X.env.locals m)(hl:∀(i:Nat) (x:Str) (v:V),X.N[i]?=some x->σ[i]?=some (some v)->V6 X.env.scope x->∃u,RelV v u/\CM X.env s.heap m x u)(Nk:h'.Ns X.env.locals (λy=>if y=x then v else m y))(hs:Heap.SameBut X.env.locals s.heap h'):Inv X pins (σ.set i none) H { s with heap:=h',toks:=tk }:=by
 have Kw:=I.Kw;obtain⟨oL,_,_,TC,_⟩:=id hn;refine⟨I.ok,I.os,I.bare,⟨λb o e n hb hx=>?_,λb o e n hb hx=>?_,I.base.free,λb o e hx=>?_,I.base.B_,I.base.B5,I.base.B'⟩,⟨_,Nk,λj y v' e1 e2 e3=>?_⟩,λy c e=>?_,I.free,I.x_,λp hp=>?_,λb ob e=>?_,by simpa using I.len⟩
 ·exact(hs.2 b (aaU (aa1 (aaJ e) I.ok.above))).trans (I.base.keep b o e n hb hx)
 ·obtain⟨sl,e1⟩:=I.base.slot b o e n hb hx;exact⟨sl,(hs.2 b (aaU (aa1 (aaJ e) I.ok.above))).trans e1⟩
 ·obtain⟨o',e1⟩:=I.base.there b o e hx;exact⟨o',(hs.2 b (aaU (aa1 (aaJ e) I.ok.above))).trans e1⟩
 ·by_cases hj:j=i
  ·subst hj;by_cases o9:j<σ.length
   ·rw[adt o9]at e2;cases e2
   ·rw[abL (by simp;lia)]at e2;cases e2
  ·rw[adD (abF hj)]at e2;obtain⟨u',r',q⟩:=hl j y v' e1 e2 e3;refine⟨u',r',?_⟩;rcases q with⟨k,e⟩|⟨k,c,e,z⟩
   ·refine .inl ⟨k,?_⟩;have:y≠x:=λe=>hj (iO hN e1 (e▸hi));simp[this,e]
   ·exact .inr ⟨k,c,e,z.sameBut hs (Kw y c e)⟩
 ·obtain⟨w',z⟩:=I.cell y c e;exact⟨w',z.sameBut hs (Kw y c e)⟩
 ·obtain⟨e,n,ne,nf,d⟩:=I.pin p hp;exact⟨(hs.2 p.1 ne).trans e,n,ne,nf,d⟩
 ·refine(I.i4 b ob e).C0 (λc w' hc q=>(hs.2 c ?_).trans q) (λ_ q=>q) λ_ _ q=>q;rintro rfl;rcases hc with rfl|hc
  ·rw[I.free]at e;cases e
  ·rw[I.free]at hc;cases hc
def wm(EX:Hp->Prop)(t:TA):TS:=λ_ σ H=>t σ H λvs H1=>vs.length<=10/\EX H1
theorem uR{np:Pos}{EX:Hp->Prop}(hc:X.calm=true)(hg:Gl X x)(hm:X.mg x=some (.ref C))(he:xp X.K C)(ha:PA X (e::es) t)(hx:∀pins σ H s h' a vs,Inv X pins σ H s->Heap.MadeExcOf s.heap h' a (.ref C) vs->EX H->X.xe (.ref a) { s with heap:=h' })(hd:(x == ("__debug__" : Str))=false)(Ec:starEach (e::es) X.env=(false,eval e X.env)::starEach es X.env)(E7:(backTo l_ (starEach es X.env)).any (·.1)=false):
 PS X (.Raise (some (.Call (.Name x np) (e::es) [] l_)) none pos) (wm EX t):=by
 intro pins s σ H D I h;obtain⟨bm,N,nm,qn,bs,hdct,sn,sub,ab,col,dd,k0,k1,k2,k3,k5,mN,oC,hN,Xp,TL,_⟩:=tu (I.ok.mod.FG) he;refine wpAny_Raise_call_subT (C:=C) (nm:=nm) (q:=qn) (N:=N) (bs:=bs) (bm:=bm) (hdct:=hdct) (sn:=sn) (sub:=sub) (ab:=ab) (col:=col) (dd:=dd) (k0:=k0) (k1:=k1) (k2:=k2) (k3:=k3) (k5:=k5)
  aef (mN:=mN) (TL.hasType (by decide)) (I.ok.hd hc) (by rw[Ec];show(false||(backTo l_ (starEach es X.env)).any (·.1))=false;rw[E7];rfl) Xp (fj I hg hm ⟨rfl,?_⟩ hd)
 have hA:=ha l_ pins s σ H _ I h;rw[Ec]at hA⊢;refine adY (j9 hA λus s1 ⟨vs,H1,I1,r,z,q⟩=>⟨rfl,?_,I1.bk _ _ oC,hN.keeps I1.bk,TL.keeps I1.bk,λh' a TV=>hx pins σ H1 s1 h' a us I1 TV q⟩);rw[<-r.length];exact cF (by lia)
end
section
variable{P:Program}{w:World}{K:W.Frag}{mg:Str->Option Value}{base:Heap}{N:List Str}{qual:Str}{scope:Scope}{f:Addr}{cd:Value}{A:Around}{outer:List Env}{s₀:Shared}{H₀:Hp}{E:XK}
def fJ:∀pins σ H s h' a vs,Inv (cg (GD P w) P w K mg base N qual scope f cd A outer s₀ H₀ E) pins σ H s->Heap.MadeExcOf s.heap h' a (.ref C) vs->E (.ref C) none H ->
 (cg (GD P w) P w K mg base N qual scope f cd A outer s₀ H₀ E).xe (.ref a) { s with heap:=h' }:=λpins σ H s h' a vs I TV q=>
 abp (Inv.raise (M:=model P w) (E':=λ_ _=>False) I rfl rfl rfl TV) (λ_ HV x=>⟨a,.ref C,H,rfl,x,q⟩) λ_ _ z=>z.elim
def cy:gQ (GD P w) (cg (GD P w) P w K mg base N qual scope f cd A outer s₀ H₀ E) E:=λpins σ H s e s' I h=>by obtain⟨a,cls,H',rfl,x,q⟩:=h;exact abp (Inv.pass (M:=model P w) (E':=λ_ _=>False) I rfl rfl rfl x) (λ_ HV y=>⟨a,cls,H',rfl,y,q⟩) λ_ _ z=>z.elim
def v9.LW{x qual:Str}{st:Stmt}{f:Addr}{fd:FuncData}{N ps:List Str}{k:Nat}{sp:Sp}(F:v9 K x qual st f fd)(S:aF N ps (ah st))(len:∀vs H Q E,sp vs H Q E->vs.length=ps.length)(DU:∀(m_:Value) (A:Around) (outer:List Env) (s:Shared) (H:Hp) (vs:List V) (Q:VK) (E:XK),r6 k (A.deeper (envOfC qual (ah st) s.heap.objs.size f m_))->sp vs H Q E ->
 ∃t,IS (cg (GD P w) P w K mg base N qual (ah st) f m_ A outer s H E) (az st) t/\t { nx:=λ_ H'=>Q .q8 H',rt:=Q } (start N vs) H):i6 P w K mg base (GD P w) (k+1) f fd ps sp:=by
 obtain⟨oc,od,kV,doc,pm,an,m_,ct,Js,rfl,lk,ER⟩:=F.ex;refine yF lk ER S len λA outer s H vs Q E hr A5=>?_;obtain⟨t,h,q⟩:=DU m_ A outer s H vs Q E hr A5;exact⟨t,h.h,q⟩
end
section
variable{X:Cx}{k:Nat}{f Dc:Addr}{fd:FuncData}{ps:List Str}{sp:Sp}{x dn n:Str}{i:Nat}{p l_ Fz np Dl pos:Pos}{e:Expr}{es:List Expr}{t:TA}{ts:TS}{b0:Stmt}{DN:List Stmt}
end
end L2
namespace L2
open PySem PySem.Spec PySem.Calls PyProof.Rows PySem.W Builtin Builtin.ObjectAttr Builtin.Getset_descriptor
structure Cj(K:Frag)(C:Addr):Prop where
 ex:xp K C
 ga:findIn K (.ref C) "__getattribute__" = some (some (.builtin "BaseException.__getattribute__"))
 gt:findIn K (.ref C) "__getattr__" = some none
 ca:findIn K (.ref C) "__class__" = some (some (.builtin "object.__class__"))
 sp:specialIn K (.builtin "object.__class__") "__get__" = some (some (.builtin "getset_descriptor.__get__"))
 tk:takesIn K (.builtin "object.__class__")=some true
 mo:mroIn K C (.type "object")=some true
 mb:mroIn K C (.type "BaseException")=some true
def lY(a C:Addr)(h:Heap):Prop:=∃o,h.get? a=some o/\o.cls=.ref C
variable{M:Model}
section
variable{prog:Program}{w:World}{A:Around}{E:Value->Shared->Prop}{K:Frag}{a C:Addr}{s:Shared}
def eS{h:Heap}(p:lY a C h):Looks M h (typeOf (.ref a)) (.ref C):=by obtain⟨o,h1,h2⟩:=p;exact h2▸(Looks.ld h1).andThen .now
def jc{R:Result->Shared->Prop}{tp:Value}(X:K.In s.heap)(I:lY a C s.heap)(hm:mroIn K C (.type "object")=some true)(h:R (.ok (.ret (.ref C))) s):codeAny (model prog w) A (.call (.builtin "getset_descriptor.__get__") ⟨[.builtin "object.__class__",.ref a,tp],[]⟩) R s:=by
 obtain⟨hh,g,dr,t,os⟩:=s;have L0:=eS (M:=model prog w) I;have L1:=looks_mroIn (M:=model prog w) X hm;refine ace KF.slot_gs.plain KF.entry_gs (KF.slot_gs.check _ _ _ _ _ _ _ _ KF.type_class (KF.args_gs _ _ _) ?_);unfold Builtin.«getset_descriptor.__get__» descrGet;rw[dga_obj];refine aaC (aaE ?_);unfold descrGetter descrCheckInstance descrNameAndClass isInstance;simp only[KF.owner_class];repeat lk
 refine⟨adk _ (by decide +kernel),acu KF.entry_class ?_⟩;unfold Builtin.«object.__class__» shownTypeOf;repeat lk
 exact h
def kf{MU:Value}{Q:Unit->Shared->Prop}(X:K.In s.heap)(I:lY a C s.heap)(hm:mroIn K C (.type "BaseException")=some true)(hq:Q () s):wpAny M A (checkBuiltinCall "BaseException.__getattribute__" ⟨[.ref a,MU],[]⟩) Q E s:=by
 obtain⟨hh,g,dr,t,os⟩:=s;have hk:builtinKind "BaseException.__getattribute__" = some .slot:=by decide +kernel
 have Pz:splitId "BaseException.__getattribute__" = some ("BaseException", "__getattribute__"):=by decide +kernel
 have ha:=F.args_bexc_ga (.ref a) MU;have L0:=eS (M:=M) I;have L1:=looks_mroIn (M:=M) X hm;simp only[checkBuiltinCall,hk,Pz];refine aaC ?_;unfold isInstance;refine aaC (L0.at (L1.at ?_));repeat (first|assumption|wp_step)
end
section
variable{X:Cx}
theorem jo:∀{ds:List Addr}{us:List Value},Vals (ds.map V.ref) us->us=ds.map Value.ref
 |[],_,r=>by cases r;rfl
 |d::ds,_,r=>by
  rw[aa7]at r;cases r with
  |cons r1 r2=>
   cases(show _=Value.ref d from r1);rw[jo r2];rfl
end
end L2
namespace L2
open PySem PySem.Spec PyProof.Rows
mutual
/-- what a value shows,read through the abstract heap -/
inductive Mz(K:W.Frag)(H:Hp):V->PyData->Prop
 |q8:Mz K H .q8 .none
 |bl (b:Bool):Mz K H (.bl b) (.bool b)
 |int (i:Int):Mz K H (.int i) (.int i)
 |str (x:Str):Mz K H (.str x) (.str x)
 |lst {a:Addr} {vs:List V} {ds:List PyData}:d9 K H a vs->zo K H vs ds->Mz K H (.ref a) (.list ds)
 |tup {a:Addr} {vs:List V} {ds:List PyData}:b9 K H a vs->zo K H vs ds->Mz K H (.ref a) (.tuple ds)
inductive zo(K:W.Frag)(H:Hp):List V->List PyData->Prop
 |nil:zo K H [] []
 |cons {v:V} {d:PyData} {vs:List V} {ds:List PyData}:Mz K H v d->zo K H vs ds->zo K H (v::vs) (d::ds)
end
section
variable{X:Cx}{pins:List (Addr×Obj)}{σ:St}{H:Hp}{s:Shared}
mutual
theorem Inv.reads(I:Inv X pins σ H s):∀{v:V}{d:PyData}{u:Value},Mz X.K H v d->RelV v u->∃as,Reads s.heap u d as
 |_,_,_,.q8,r=>by cases r;exact⟨_,.none⟩
 |_,_,_,.bl b,r=>by cases r;exact⟨_,.bool b⟩
 |_,_,_,.int i,r=>by obtain⟨t,rfl⟩:=r;exact⟨_,.int i t⟩
 |_,_,_,.str x,r=>by obtain⟨t,rfl⟩:=r;exact⟨_,.str x t⟩
 |_,_,_,.lst h1 h2,r=>by
  cases r;obtain⟨g8,rs,⟨o,n,e,c,_,dt⟩,_⟩:=I.list h1;obtain⟨as,ra⟩:=I.GL h2 rs;exact⟨_,.list e c dt (by simpa using ra)⟩
 |_,_,_,.tup h1 h2,r=>by cases r;obtain⟨g8,rs,⟨o,e,c,n,dt⟩,_⟩:=I.tuple h1;obtain⟨as,ra⟩:=I.GL h2 rs;exact⟨_,.tuple e c dt (by simpa using ra)⟩
theorem Inv.GL(I:Inv X pins σ H s):∀{vs:List V}{ds:List PyData}{us:List Value},zo X.K H vs ds->Vals vs us->∃as,ReadsAll s.heap us ds as
 |_,_,_,.nil,r=>by cases r;exact⟨_,.nil⟩
 |_,_,_,.cons h1 h2,r=>by
  cases r with
  |cons r1 r2=>
   obtain⟨as,ra⟩:=I.reads h1 r1;obtain⟨bs,rb⟩:=I.GL h2 r2;exact⟨_,.cons ra rb⟩
end
end
variable{es:List Expr}{ts:List TE}
section
variable{X:Cx}{pins:List (Addr×Obj)}{σ:St}{H:Hp}{s:Shared}{te:TE}{e:Expr}{pos:Pos}{k:Nat}
def Cs(te:TE):TE:=λσ H Q=>te σ H λv H1=>(∃x,v=.str x/\x.length<=sizeLine/\Q (.str x) H1)\/(∃i:Int,v=.int i/\i.natAbs.log2<1920/\Q (.str (toString i)) H1)
def AC(he:PE X e te):PE X (.FormattedValue e (-1) none pos) (Cs te):=λpins s σ H Q I h=>
 wpAny_FormattedValue_plain (j9 (he pins s σ H _ I h) λu s1 ⟨v,H1,I1,r,q⟩=>by
  rcases q with⟨x,rfl,hx,q⟩|⟨i,rfl,hi,q⟩
  ·obtain⟨t,rfl⟩:=r;exact wpAny_formatField_str ⟨.str x,H1,I1,⟨_,rfl⟩,q⟩ ⟨.str x,H1,I1.tok _,⟨_,rfl⟩,q⟩ hx
  ·obtain⟨t,rfl⟩:=r;exact wpAny_formatField_int hi ⟨.str _,H1,I1.tok _,⟨_,rfl⟩,q⟩)
def Cq(K:W.Frag)(te:TE):TE:=λσ H Q=>te σ H λv H1=>∃d:PyData,Mz K H1 v d/\d.showable=true/\d.hasDict=false/\d.depth<=64/\d.shown.length<=sizeLine/\Q (.str d.shown) H1
theorem AB(hr:r6 k X.A)(he:PE X e te):PE X (.FormattedValue e 114 none pos) (Cq X.K te):=λpins s σ H Q I h=>
 wpAny_FormattedValue_repr (j9 (he pins s σ H _ I h) λu s1 ⟨v,H1,I1,r,d,hw,h1,h2,h3,h4,q⟩=>by
  have fin:∀(h':Heap)(t tk:Nat),(∀b o,s1.heap.get? b=some o->h'.get? b=some o)->wpAny (model X.prog X.w) X.A (formatField (.str d.shown t) Str.empty) (EP X pins σ Q) X.xe { s1 with heap:=h',toks:=tk }:=λh' t tk kp=>
   have I2:∀tk,Inv X pins σ H1 { s1 with heap:=h',toks:=tk }:=λtk=>I1.un (t':=tk) (Un.kept λb o e=>kp b o e) (λa o e=>(I1.i4 a o e).C0 (λb u _ q=>kp b u q) (λ_ q=>q) λ_ _ q=>q)
   wpAny_formatField_str ⟨.str _,H1,I2 _,⟨_,rfl⟩,q⟩ ⟨.str _,H1,I2 _,⟨_,rfl⟩,q⟩ h4
  have hu:=hr.units;cases hw with
  |q8=>cases r;exact pyReprObj_none (fin _ _ _ λ_ _ e=>e)
  |bl b=>cases r;exact pyReprObj_bool (fin _ _ _ λ_ _ e=>e)
  |int i=>obtain⟨t,rfl⟩:=r;exact pyReprObj_int (by simpa [PyData.showable]using h1) (fin _ _ _ λ_ _ e=>e)
  |str x=>obtain⟨t,rfl⟩:=r;exact pyReprObj_str (fin _ _ _ λ_ _ e=>e) h4
  |lst a1 a2=>
   obtain⟨as,rd⟩:=I1.reads (.lst a1 a2) r;cases r;exact pyReprObj_of_reads rd h1 (PyData.noDict_hsm h2) hr.gd (by lia) (λ_ _ e=>e) (λh' u tk kp=>fin h' u tk kp) h4
  |tup a1 a2=>
   obtain⟨as,rd⟩:=I1.reads (.tup a1 a2) r;cases r;exact pyReprObj_of_reads rd h1 (PyData.noDict_hsm h2) hr.gd (by lia) (λ_ _ e=>e) (λh' u tk kp=>fin h' u tk kp) h4)
def qD:List TE->Str->TE
 |[],acc=>λ_ H Q=>Q (.str acc) H
 |t::ts,acc=>λσ H Q=>t σ H λv H1=>∃y,v=.str y/\(acc++y).length<=sizeLine/\qD ts (acc++y) σ H1 Q
structure QJ(X:Cx)(es:List Expr)(ts:List TE):Prop where
 h:∀(acc:Str)(pins:List (Addr×Obj))(s:Shared)(σ:St)(H:Hp)(Q:VK),acc.length<=sizeLine->Inv X pins σ H s->qD ts acc σ H Q->Joins (model X.prog X.w) X.A X.xe (evalEach es X.env) acc (λout s1=>out.length<=sizeLine/\EP X pins σ Q (.str out s1.toks) { s1 with toks:=s1.toks+1 }) s
def rG:QJ X [] []:=⟨λacc pins s σ H Q ha I h=>⟨ha,.str acc,H,I.tok _,⟨_,rfl⟩,h⟩⟩
def dB(he:QE X e te)(hr:QJ X es ts):QJ X (e::es) (te::ts):=⟨λacc pins s σ H Q ha I h=>by
 show wpAny _ _ (eval e X.env) _ _ _;refine j9 (he.h pins s σ H _ I h) ?_;rintro u s1 ⟨v,H1,I1,r,y,ev,hy,q⟩;subst ev;obtain⟨t,rfl⟩:=r;exact⟨y,t,rfl,hy,hr.h _ _ _ _ _ _ hy I1 q⟩⟩
def kQ{e2:Expr}(h:QJ X (e::e2::es) ts):QE X (.JoinedStr (e::e2::es) pos) (qD ts Str.empty):=⟨λpins s σ H Q I q=>wpAny_JoinedStr (h.h _ _ _ _ _ _ (by decide) I q)⟩
def Aw(he:QE X e te):QE X (.FormattedValue e (-1) none pos) (Cs te):=⟨AC he.h⟩
def rH(hr:r6 k X.A)(he:QE X e te):QE X (.FormattedValue e 114 none pos) (Cq X.K te):=⟨AB hr he.h⟩
end
section
variable{X:Cx}
def fK{x:Str}{C:Addr}{e:Expr}{es:List Expr}{t:TA}{np l_ pos:Pos}{EX:Hp->Prop}(hc:X.calm=true)(hg:Gl X x)(hm:X.mg x=some (.ref C))(he:xp X.K C)(ha:QA X (e::es) t)(hx:∀pins σ H s h' a vs,Inv X pins σ H s->Heap.MadeExcOf s.heap h' a (.ref C) vs->EX H->X.xe (.ref a) { s with heap:=h' })(hd:autoParam ((x == ("__debug__" : Str))=false) ξ)(Ec:autoParam (starEach (e::es) X.env=(false,eval e X.env)::starEach es X.env) θ)(E7:autoParam ((backTo l_ (starEach es X.env)).any (·.1)=false) θ):
 QS X (.Raise (some (.Call (.Name x np) (e::es) [] l_)) none pos) (wm EX t):=⟨uR hc hg hm he ha.h hx hd Ec E7⟩
variable{k:Nat}{f Dc:Addr}{fd:FuncData}{ps:List Str}{sp:Sp}{x dn n:Str}{i:Nat}{p l_ Fz np Dl pos:Pos}{e:Expr}{es:List Expr}{t:TA}{ts:TS}{b0:Stmt}{DN:List Stmt}
end
variable{κ:Type}[DecidableEq κ]
noncomputable def eH(e_:List (κ×V))(k:κ):Option V:=(e_.find? λkv=>decide (kv.1=k)).map (·.2)
noncomputable def qc(e_:List (κ×V))(k:κ)(v:V):List (κ×V):=
 if(e_.any λkv=>decide (kv.1=k))=true then e_.map (λkv=>if kv.1=k then(kv.1,v)else kv)else e_++[(k,v)]
def bW{p:κ×V}{r:List (κ×V)}{k:κ}(e:p.1=k):eH (p::r) k=some p.2:=by simp[eH,abE,e]
def bX{p:κ×V}{r:List (κ×V)}{k:κ}(e:¬p.1=k):eH (p::r) k=eH r k:=by simp[eH,abE,e]
theorem iA(k:κ):∀e_:List (κ×V),(e_.any λkv=>decide (kv.1=k))=(eH e_ k).isSome
 |[]=>rfl
 |p::r=>by
  rw[acK];by_cases e:p.1=k
  ·simp only[bW e,abb e,Bool.true_or,Option.isSome_some]
  ·rw[bX e,aaW e,Bool.false_or];exact iA k r
theorem me(k j:κ)(y:V):∀e_:List (κ×V),eH (e_.map λkv=>if kv.1=k then(kv.1,y)else kv) j=(eH e_ j).map λx=>if j=k then y else x
 |[]=>rfl
 |p::r=>by
  have ih:=me k j y r;rw[aa7];by_cases h:p.1=k
  ·rw[aaY h];by_cases e:p.1=j
   ·rw[bW (p:=(p.1,y)) e,bW e,abN,aaY (e.symm.trans h)]
   ·rw[bX (p:=(p.1,y)) e,bX e,ih]
  ·rw[aaR h];by_cases e:p.1=j
   ·rw[bW (p:=p) e,bW e,abN,aaR (λz=>h (e.trans z))]
   ·rw[bX (p:=p) e,bX e,ih]
theorem jq(k j:κ)(y:V):∀e_:List (κ×V),eH e_ k=none->eH (e_++[(k,y)]) j=if j=k then some y else eH e_ j
 |[],_=>by
  by_cases e:k=j
  ·rw[aaY e.symm];exact bW (p:=(k,y)) e
  ·rw[aaR (λz=>e z.symm)];exact bX (p:=(k,y)) e
 |p::r,hn=>by
  rw[abZ];have hk:¬p.1=k:=λz=>by rw[bW z]at hn;cases hn
  rw[bX hk]at hn;have ih:=jq k j y r hn;by_cases e:p.1=j
  ·rw[bW e,bW e,aaR (λz=>hk (e.trans z))]
  ·rw[bX e,bX e,ih]
def uu(e_:List (κ×V))(k j:κ)(y:V):eH (qc e_ k y) j=if j=k then some y else eH e_ j:=by
 unfold qc;by_cases a:(e_.any λkv=>decide (kv.1=k))=true
 ·rw[aaY a,me];rw[iA]at a;by_cases e:j=k
  ·obtain⟨x,hx⟩:=Option.isSome_iff_exists.mp a;rw[aaY e,e,hx,abN,aaY rfl]
  ·rw[aaR e];cases eH e_ j with
   |none=>rfl
   |some x=>rw[abN,aaR e]
 ·rw[aaR a];refine jq k j y e_ ?_;rw[iA]at a;cases q:eH e_ k with
  |none=>rfl
  |some x=>rw[q]at a;exact(a rfl).elim
theorem lC(e_:List (κ×V))(k:κ)(v:V):(qc e_ k v).length<=e_.length+1:=by
 unfold qc;split
 ·rw[aaG];lia
 ·rw[aaF,aaM,acL];lia
variable{o:Option V}
theorem DA.p7{u:Option Value}(r:DA o u):o.isSome=u.isSome:=by
 cases o with
 |none=>cases u with
  |none=>rfl
  |some _=>exact(show False from r).elim
 |some _=>cases u with
  |none=>exact(show False from r).elim
  |some _=>rfl
theorem KV.val{e_:List (κ×V)}{vs:List (κ×Value)}(r:KV e_ vs)(k:κ):DA (eH e_ k) (valueAt vs k):=by
 unfold KV at r;induction r with
 |nil=>exact True.intro
 |@cons p q ps qs h t ih=>
  obtain⟨h1,h2⟩:=h;by_cases e:p.1=k
  ·have e':q.1=k:=h1.symm.trans e;have b:valueAt (q::qs) k=some q.2:=by simp[valueAt,abE,e']
   rw[bW e,b];exact h2
  ·have e':¬q.1=k:=λz=>e (h1.trans z);have b:valueAt (q::qs) k=valueAt qs k:=by simp[valueAt,abE,e']
   rw[bX e,b];exact ih
theorem KV.any{e_:List (κ×V)}{vs:List (κ×Value)}(r:KV e_ vs)(k:κ):(e_.any λkv=>decide (kv.1=k))=vs.any λkv=>decide (kv.1=k):=by
 unfold KV at r;induction r with
 |nil=>rfl
 |cons h t ih=>rw[acK,acK,ih,h.1]
variable{u:Value}{y:V}
theorem KV.Ze{e_:List (κ×V)}{vs:List (κ×Value)}(r:KV e_ vs)(k:κ)(ry:RelV y u):
 KV (e_.map λkv=>if kv.1=k then(kv.1,y)else kv) (vs.map λkv=>if kv.1=k then(kv.1,u)else kv):=by
 unfold KV at r⊢;induction r with
 |nil=>exact .nil
 |@cons p q ps qs h t ih=>
  rw[aa7,aa7];refine .cons ?_ ih;obtain⟨h1,h2⟩:=h;by_cases e:p.1=k
  ·rw[aaY e,aaY (h1.symm.trans e)];exact⟨h1,ry⟩
  ·rw[aaR e,aaR (λz=>e (h1.trans z))];exact⟨h1,h2⟩
def KV.put{e_:List (κ×V)}{vs:List (κ×Value)}(r:KV e_ vs)(k:κ)(ry:RelV y u):KV (qc e_ k y) (stored vs k u):=by
 unfold qc stored;rw[r.any k];by_cases e:(vs.any λkv=>decide (kv.1=k))=true
 ·rw[aaY e,aaY e];exact r.Ze k ry
 ·rw[aaR e,aaR e];exact Paired.snoc r ⟨rfl,ry⟩
variable{w:World}{P:Program}
theorem lF{k:Key}(r:RelV (kV k) u):(aY P w).is k u=true:=by
 cases k with
 |inl i=>obtain⟨t,e⟩:=(show∃t,u=Value.int i t from r);subst e;exact lA P w i t
 |inr x=>obtain⟨t,e⟩:=(show∃t,u=Value.str x t from r);subst e;exact lx P w x t
theorem jW{P:Program}{w:World}:∀{ks:List Key}{us:List Value},Vals (ks.map kV) us->ItemsAre (aY P w) ks us
 |[],_,r=>by rw[acR]at r;cases r;exact .nil
 |k::ks,_,r=>by
  rw[aa7]at r;cases r with
  |cons h t=>exact .cons (lF h) (jW t)
abbrev KT(H:Hp):List (List Key×V)->List (List Key×Addr×Value)->Prop:=Paired λp q=>p.1=q.1/\H q.2.1=some (.tup (p.1.map kV))/\RelV p.2 q.2.2
variable{H:Hp}
theorem KT.val{e_:List (List Key×V)}{xs:List (List Key×Addr×Value)}(r:KT H e_ xs)(k:List Key):DA (eH e_ k) ((atKey xs k).map (·.2)):=by
 induction r with
 |nil=>exact True.intro
 |@cons p q ps qs h t ih=>
  obtain⟨h1,_,h2⟩:=h;by_cases e:p.1=k
  ·have e':q.1=k:=h1.symm.trans e;have b:atKey (q::qs) k=some q.2:=by simp[atKey,abE,e']
   rw[bW e,b];exact h2
  ·have e':¬q.1=k:=λz=>e (h1.trans z);have b:atKey (q::qs) k=atKey qs k:=by simp[atKey,abE,e']
   rw[bX e,b];exact ih
variable{e_:List (Key×V)}
section
variable{P:Program}{w:World}{H:Hp}{h:Heap}{a:Addr}
def Aj{u:HO}(ok:A8 P w H h)(e:Rd H a u):i9 P w H h a u:=e.ok ok
def tJ(ok:A8 P w H h)(e:Rd H a (.dK e_)):e_.length<=sizeLine/\(a == sysModules)=false/\∃vs,KV e_ vs/\h.DictOf (aY P w) a vs:=
 show i9 P w H h a (.dK e_)from Aj ok e
def Cf(ok:A8 P w H h)(e:H a=some (.dK e_)):e_.length<=sizeLine/\(a == sysModules)=false/\∃vs,KV e_ vs/\h.DictOf (aY P w) a vs:=tJ ok (.inl e)
def jV{ks:List Key}(ok:A8 P w H h)(e:H a=some (.tup (ks.map kV))):(tupleKind (aY P w)).is h ks a:=by
 obtain⟨_,g8,r,o,h1,h2,n,h3⟩:=(show i9 P w H h a (.tup (ks.map kV))from ok a _ e)
 exact⟨o,g8.toArray,n,h1,h2,h3,by simpa using jW r⟩
def vR{e_:List (List Key×V)}(ok:A8 P w H h)(e:Rd H a (.dT e_)):e_.length<=sizeLine/\(a == sysModules)=false /\
 ∃xs,KT H e_ xs/\h.DictOfH (tupleKind (aY P w)) a xs:=by
 obtain⟨z,y,xs,r,o,es,ep,h1,h2,h3,h4,h5⟩:=(show i9 P w H h a (.dT e_)from Aj ok e)
 refine⟨z,y,xs,r,o,es,ep,h1,h2,h3,h4,λx hx=>?_,h5⟩;have all:∀{l:List (List Key×V)}{m:List (List Key×Addr×Value)},KT H l m->∀x∈m,(tupleKind (aY P w)).is h x.1 x.2.1:=by
  intro l m q;induction q with
  |nil=>intro x hx;exact nomatch hx
  |@cons p q ps qs hq t ih=>
   intro x hx;rcases List.mem_cons.mp hx with e|hx
   ·subst e;exact jV ok (by rw[<-hq.1];exact hq.2.1)
   ·exact ih x hx
 exact all r x hx
end
def EL(H:Hp)(a:Addr)(y:V)(r:Option V):Prop:=
 (∃e_ k,Rd H a (.dK e_)/\y=kV k/\r=eH e_ k)\/∃e_ k b,Rd H a (.dT e_)/\y=.ref b/\H b=some (.tup (k.map kV))/\r=eH e_ k
theorem EL.k{H:Hp}{a:Addr}{e_:List (Key×V)}{k:Key}(e:H a=some (.dK e_)):EL H a (kV k) (eH e_ k):=.inl ⟨e_,k,.inl e,rfl,rfl⟩
variable{Q:Value->Shared->Prop}{h':Heap}
section
variable{X:Cx}{pins:List (Addr×Obj)}{σ:St}{H:Hp}{s:Shared}{a:Addr}{y v:V}{u r:Value}{o:Option V}{A:Around}{E:Value->Shared->Prop}
def Inv.big(I:Inv X pins σ H s):sysModules<s.heap.objs.size:=by have h:mainGlobals<s.heap.objs.size:=(I.mod.glob.keeps I.bk).lt;exact ac7 (by decide) h
def tT(hu:A.units+1<cLine)(I:Inv X pins σ H s)(g:EL H a y (some v))(ry:RelV y u)(h:∀w' s',Inv X pins σ H s'->RelV v w'->Q w' s'):
 wpAny (model X.prog X.w) A (getItem (.ref a) u) Q E s:=by
 rcases g with⟨e_,k,e,ey,l⟩|⟨e_,k,b,e,ey,eb,l⟩
 ·subst ey;obtain⟨z,hd,vs,rel,dd⟩:=tJ I.i4 e;obtain⟨w',hw,Dk⟩:=DA.some_of (v:=v) (o:=valueAt vs k) (by rw[l];exact rel.val k);exact wpAny_getItem_of (lF ry) dd.mapOf hw (h w' _ (I.tok _) Dk)
 ·subst ey;cases(show u=Value.ref b from ry);obtain⟨z,hd,xs,rel,dd⟩:=vR I.i4 e;obtain⟨w',hw,Dk⟩:=DA.some_of (v:=v) (o:=(atKey xs k).map (·.2)) (by rw[l];exact rel.val k);obtain⟨p,hp,IG⟩:=Option.map_eq_some_iff.mp hw;refine ad8 (aea hu) (jV I.i4 eb) dd hp ?_;rw[IG];exact h w' _ (I.tok _) Dk
def Dd(hu:A.units+1<cLine)(I:Inv X pins σ H s)(g:EL H a y o)(ry:RelV y u)(h:∀s',Inv X pins σ H s'->Q (.bool o.isSome) s'):
 wpAny (model X.prog X.w) A (compareOp .In u (.ref a)) Q E s:=by
 rcases g with⟨e_,k,e,ey,l⟩|⟨e_,k,b,e,ey,eb,l⟩
 ·subst ey;obtain⟨z,hd,vs,rel,dd⟩:=tJ I.i4 e;refine wpAny_in_of (lF ry) hd dd.mapOf ?_;rw[<-(rel.val k).p7,<-l];exact h _ (I.tok _)
 ·subst ey;cases(show u=Value.ref b from ry);obtain⟨z,hd,xs,rel,dd⟩:=vR I.i4 e;refine wpAny_in_heap (aea hu) (jV I.i4 eb) hd dd ?_;have q:=(rel.val k).p7;rw[abW]at q;rw[<-q,<-l];exact h _ (I.tok _)
def yW(hu:A.units+1<cLine)(I:Inv X pins σ H s)(g:EL H a y o)(ry:RelV y u)(h:∀s',Inv X pins σ H s'->Q (.bool (!o.isSome)) s'):
 wpAny (model X.prog X.w) A (compareOp .NotIn u (.ref a)) Q E s:=by
 rcases g with⟨e_,k,e,ey,l⟩|⟨e_,k,b,e,ey,eb,l⟩
 ·subst ey;obtain⟨z,hd,vs,rel,dd⟩:=tJ I.i4 e;refine wpAny_notIn_of (lF ry) hd dd.mapOf ?_;rw[<-(rel.val k).p7,<-l];exact h _ (I.tok _)
 ·subst ey;cases(show u=Value.ref b from ry);obtain⟨z,hd,xs,rel,dd⟩:=vR I.i4 e;refine wpAny_notIn_heap (aea hu) (jV I.i4 eb) hd dd ?_;have q:=(rel.val k).p7;rw[abW]at q;rw[<-q,<-l];exact h _ (I.tok _)
def lT{t':Nat}{ob:HO}(I:Inv X pins σ H s)(mu:Wc (H a))(hs:Heap.SameBut a s.heap h')(he:∃q,h'.get? a=some q)(new:i9 X.prog X.w (upd H a ob) h' a ob):
 Inv X pins σ (upd H a ob) { s with heap:=h',toks:=t' }:=
 I.write (x:=a) (e:=a) mu (.inl rfl) (λb q hb z=>(hs.2 b hb).trans z) he new
def Bd{H':Hp}{vs:List (Key×Value)}(z:e_.length<=sizeLine)(hd:(a == sysModules)=false)(rel:KV e_ vs)(dd:h'.DictOf (aY P w) a vs):
 i9 P w H' h' a (.dK e_):=⟨z,hd,vs,rel,dd⟩
end
section
variable{X:Cx}{pins:List (Addr×Obj)}{σ:St}{H:Hp}{s:Shared}{a:Addr}{e_:List (Key×V)}{k:Key}{u:Value}{A:Around}{E:Value->Shared->Prop}
end
def Bj(i:Expr):Prop:=∀ov iv,subscripted i false ov iv=operate [ov,iv] (getItem ov iv)
variable{pos:Pos}{s:Shared}
def kJ{prog:Program}{A:Around}{E:Value->Shared->Prop}{env:Env}{value slice:Expr}{T id:String}(hl:typeLookup (.type T) "__getitem__" = pure (some (.builtin id)))(hs:Bj slice)(h:wpAny (model prog w) A (eval value env) (λo i8=>wpAny (model prog w) A (eval slice env) (λi DM=>DM.TypeIs o T/\wpAny (model prog w) A (getItem o i) Q E DM) E i8) E s):
 wpAny (model prog w) A (eval (.Subscript value slice pos) env) Q E s:=by
 refine Subscript_ (abp h (λo i8 Jy=>abp Jy (λi DM Pk=>?_) λ_ _ x=>x) λ_ _ x=>x);obtain⟨hT,Pk⟩:=Pk;unfold subscriptTail;refine aaC ?_;rw[getitemInPython_of_ne hT.not_modules];refine aaC (abY hT hl ?_);have fin:wpAny (model prog w) A (subscripted slice false o i) (λr RO=>wpAny (model prog w) A (letTemporaryGo value o r >>= λ_=>pure r) Q E RO) E DM:=by rw[hs o i];exact wpAny_operating (abp Pk (λr RO h₃=>aaC (wpAny_letTemporaryGo (aaE h₃))) λ_ _ x=>x)
 first
  |exact aaE (aaC fin)
  |exact aaC (aaE (aaC fin))
  |exact aaC fin
variable{X:Cx}
def lQ{pins:List (Addr×Obj)}{σ:St}{a:Addr}(I:Inv X pins σ H s)(g:EL H a y o):s.TypeIs (.ref a) "dict":=by
 rcases g with⟨e_,k,e,_,_⟩|⟨e_,k,b,e,_,_,_⟩
 ·obtain⟨_,_,vs,_,dd⟩:=tJ I.i4 e;exact dd.typeIs
 ·obtain⟨_,_,xs,_,dd⟩:=vR I.i4 e;exact dd.typeIs
inductive xh(Q:VK)(x y:V)(H2:Hp):Prop
 |mk:∀a v,x=.ref a->EL H2 a y (some v)->Q v H2->xh Q x y H2
def zK(td ty:TE):TE:=λσ H Q=>td σ H λx H1=>ty σ H1 λy H2=>xh Q x y H2
section
variable{X:Cx}{o i e value:Expr}{pos pos' D7:Pos}{td ty tv:TE}
def xV(hu:X.A.units+1<cLine)(ho:PE X o td)(hi:PE X i ty)(hs:Bj i):PE X (.Subscript o i pos) (zK td ty):=by intro pins s σ H Q I h;refine kJ PySem.F.slot_dict_getitem.lookup hs (j9 (ho pins s σ H _ I h) λu s1 ⟨x,H1,I1,rx,q1⟩=>j9 (hi pins s1 σ H1 _ I1 q1) λiv s2 ⟨y,H2,I2,ry,a,v,ex,g,q2⟩=>?_);subst ex;obtain rfl:u=Value.ref a:=rx;exact⟨lQ I2 g,tT hu I2 g ry λw' s3 I3 Dk=>⟨v,H2,I3,Dk,q2⟩⟩
end
def vT(h:Heap)(hb:sysModules<h.objs.size):i9 P w H (h.push { cls:=.type "dict",data:=.dict #[] }) h.objs.size (.dK []):=
 ⟨aa3 _,beq_eq_false_iff_ne.mpr (abF (aaU hb)),[],.nil,Heap.DictOf.new h⟩
section
variable{X:Cx}{pos:Pos}
end
def qC:List (TE×TE)->St->Hp->(List (V×V)->Hp->Prop)->Prop
 |[],_,H,Q=>Q [] H
 |(tk,tv)::r,σ,H,Q=>tk σ H λx H1=>tv σ H1 λy H2=>qC r σ H2 λps H3=>Q ((x,y)::ps) H3
abbrev VV:List (V×V)->List (Value×Value)->Prop:=Paired λp q=>RelV p.1 q.1/\RelV p.2 q.2
def Qv(X:Cx)(pos:Pos)(keys:List (Option Expr))(values:List Expr)(GG:List (TE×TE)):Prop:=
 ∀(pins:List (Addr×Obj))(s:Shared)(σ:St)(H:Hp)(Q:List (V×V)->Hp->Prop),Inv X pins σ H s->qC GG σ H Q ->
  wpAny (model X.prog X.w) X.A (evalPairs (pairTrees keys values X.env pos)) (λvs s'=>∃ps H',Inv X pins σ H' s'/\VV ps vs/\Q ps H') X.xe s
def rN:Qv X pos [] [] []:=λpins s σ H Q I h=>pairTrees_nil_walk ⟨[],H,I,.nil,h⟩
variable{GG:List (TE×TE)}
def uT{k v:Expr}{ks:List (Option Expr)}{vs:List Expr}{tk tv:TE}(hk:PE X k tk)(hv:PE X v tv)(hr:Qv X pos ks vs GG):
 Qv X pos (some k::ks) (v::vs) ((tk,tv)::GG):=λpins s σ H Q I h=>
 pairTrees_cons_walk (j9 (hk pins s σ H _ I h) λu s1 ⟨x,H1,I1,rx,q1⟩=>j9 (hv pins s1 σ H1 _ I1 q1) λw2 s2 ⟨y,H2,I2,ry,q2⟩=>
  j9 (hr pins s2 σ H2 _ I2 q2) λws s3 ⟨ps,H3,I3,rel,q3⟩=>⟨(x,y)::ps,H3,I3,.cons ⟨rx,ry⟩ rel,q3⟩)
noncomputable def bC(e_ more:List (Key×V)):List (Key×V):=more.foldl (λacc kv=>qc acc kv.1 kv.2) e_
theorem KV.merge:∀{more:List (Key×V)}{rs:List (Key×Value)}{e_:List (Key×V)}{vs:List (Key×Value)},KV more rs->KV e_ vs->KV (bC e_ more) (merged vs rs):=by
 intro more rs e_ vs r;unfold KV at r;induction r generalizing e_ vs with
 |nil=>intro q;exact q
 |@cons p q ps qs h t ih=>
  intro r0;have e:KV (qc e_ p.1 p.2) (stored vs q.1 q.2):=by have:=r0.put p.1 h.2;rw[<-h.1];exact this
  exact ih e
theorem dg:∀(more e_:List (Key×V)),(bC e_ more).length<=e_.length+more.length
 |[],e_=>by show e_.length<=e_.length+0;lia
 |p::r,e_=>by have h1:=dg r (qc e_ p.1 p.2);have h2:=lC e_ p.1 p.2;show(bC (qc e_ p.1 p.2) r).length<=_;rw[aaM];lia
theorem iw{P:Program}{w:World}:∀{e_:List (Key×V)}{ws:List (Value×Value)},VV (e_.map λkv=>(kV kv.1,kv.2)) ws->∃rs,Carries (aY P w) ws rs/\KV e_ rs
 |[],_,r=>by rw[acR]at r;cases r;exact⟨[],True.intro,.nil⟩
 |p::e_,_,r=>by
  rw[aa7]at r;cases r with
  |@cons a b as bs h t=>
   obtain⟨rs,c,q⟩:=iw (P:=P) (w:=w) t;obtain⟨b1,b2⟩:=b;exact⟨(p.1,b2)::rs,⟨lF h.1,rfl,c⟩,.cons ⟨rfl,h.2⟩ q⟩
def zF(GG:List (TE×TE)):TE:=λσ H Q=>∀p,H p=none->qC GG σ (upd H p (.dK [])) λps H2=>H2 p=some (.dK [])/\∃e_:List (Key×V),ps=e_.map (λkv=>(kV kv.1,kv.2))/\e_.length<=15/\Q (.ref p) (upd H2 p (.dK (bC [] e_)))
theorem xU{keys:List (Option Expr)}{values:List Expr}(h:Qv X pos keys values GG)(G':keys.all (·.isSome)=true)(hl:keys.length=values.length)(h0:keys≠[])(h15:keys.length<=15):PE X (.Dict keys values pos) (zF GG):=by
 intro pins s σ H Q I q;have hn:=I.i4.fresh (aaI s.heap.objs.size);have I1:=I.laid (a:=s.heap.objs.size) (o:=.dK []) (h':=s.heap.push { cls:=.type "dict",data:=.dict #[] }) (t':=s.toks) (λ_ _ q=>aaH _ q) (aaI _) (vT s.heap I.big);refine wpAny_Dict_walk (knd:=aY X.prog X.w) G' hl h0 h15 (j9 (h pins _ σ _ _ I1 (q _ hn)) ?_);rintro ws s2 ⟨ps,H2,I2,rel,e,e_,ep,lk,q2⟩;subst ep;obtain⟨rs,c,rk⟩:=iw (P:=X.prog) (w:=X.w) rel;obtain⟨z,hd,vs0,r0,dd⟩:=Cf I2.i4 e;cases r0;refine⟨rs,c,dd,λh' JV hs=>⟨.ref s.heap.objs.size,_,?_,rfl,q2⟩⟩;have hz:(bC [] e_).length<=sizeLine:=by have h1:=dg e_ [];rw[acL]at h1;rw[adv];lia
 have he:∃q,h'.get? s.heap.objs.size=some q:=let⟨q,_,_,hq,_⟩:=JV;⟨q,hq⟩
 exact lT I2 (by rw[e];exact True.intro) hs he (Bd hz hd (rk.merge .nil) JV)
section
variable{X:Cx}{pins:List (Addr×Obj)}{σ:St}{H:Hp}{s:Shared}{a:Addr}{y d:V}{u r:Value}{o:Option V}{A:Around}{E:Value->Shared->Prop}
end
section
variable{X:Cx}{o e f:Expr}{apos l_:Pos}{td ty tx:TE}
end
section
variable{X:Cx}{pins:List (Addr×Obj)}{σ:St}{H:Hp}{s:Shared}{a:Addr}{e_:List (Key×V)}{A:Around}{E:Value->Shared->Prop}
end
section
variable{X:Cx}{pins:List (Addr×Obj)}{σ:St}{H:Hp}{s:Shared}{a:Addr}{y:V}{u:Value}{A:Around}{E:Value->Shared->Prop}
end
section
variable{X:Cx}
end
section
variable{X:Cx}
end
section
variable{X:Cx}{tg:Expr}
end
end L2
namespace L2
open PySem PySem.Spec PySem.Calls PyProof.Rows Builtin Builtin.Str
section
variable{X:Cx}
end
end L2
namespace L2
open PySem PySem.Spec PySem.Calls PyProof.Rows Builtin Builtin.Tuple
section
variable{X:Cx}
end
end L2
namespace L2
open PySem PySem.Spec PyProof.Rows
variable{wr:List Addr}{t':Nat}
section
variable{X:Cx}{pins:List (Addr×Obj)}{σ:St}{H:Hp}{s:Shared}{h':Heap}
def Inv.Lu{T:Addr}{vs:List V}{g8:List Value}(I:Inv X pins σ H s)(k:∀b o,b∉wr->s.heap.get? b=some o->h'.get? b=some o)(hf:∀b∈wr,qe X pins H b)(hT:s.heap.objs.size<=T)(hz:vs.length<=sizeLine)(hv:Vals vs g8)(ht:IsTup h' T g8.toArray)(II:KA vs h' T):Inv X pins σ (upd H T (.tup vs)) { s with heap:=h',toks:=t' }:=by
 have hn:H T=none:=I.i4.fresh hT;have nw:∀b u,H b=some u->b∉wr:=λb u e z=>by have:=(hf b z).1;rw[this]at e;cases e
 have nT:∀b o,s.heap.get? b=some o->b≠T:=λb o e z=>by subst z;exact absurd (aa1 (aaJ e) hT) (abG _)
 refine I.step (H':=upd H T (.tup vs)) (g':=s.gens) (d':=s.drawn) (ch:=wr) (λb hb=>?_) (λb o _ _ hc e _=>k b o hc e) (λb o _ _ hc e _=>⟨o.slots,k b o hc e⟩) (λb o _ e n=>by rw[al (nT b o e)];exact n)
  (λb o hc e=>⟨o,k b o hc e⟩) (λb xs e=>by rw[al (aI e hn)];exact e) (λb o u e=>by rw[al (aI e hn)];exact e) (λb ps e=>⟨#[],by rw[al (aI e hn),e];simp⟩) (λm hm=>?_) (λb u e=>?_) I.bare
 ·obtain⟨f0,f1,f2,f3,f4,f5⟩:=hf b hb;exact⟨f3,f1,f4,f5⟩
 ·obtain⟨o,es,ep,ho,r⟩:=hm;exact⟨o,es,ep,k _ o (λz=>(hf _ z).2.1 rfl) ho,r⟩
 ·by_cases hb:b=T
  ·subst hb;rw[aa]at e;cases e;exact⟨⟨hz,II⟩,g8,hv,ht⟩
  ·rw[al hb]at e;refine(I.i4 b u e).C0 (λc v hc q=>k c v ?_ q) (λc q=>by rw[al (aI q hn)];exact q) λc xs q=>by rw[al (aI q hn)];exact q
   rcases hc with z|z
   ·rw[z];exact nw b u e
   ·exact nw c _ z
def Inv.Lv(I:Inv X pins σ H s)(k:∀b o,b∉wr->s.heap.get? b=some o->h'.get? b=some o)(hf:∀b∈wr,qe X pins H b):Inv X pins σ H { s with heap:=h',toks:=t' }:=by
 have nw:∀b u,H b=some u->b∉wr:=λb u e z=>by have:=(hf b z).1;rw[this]at e;cases e
 refine I.step (g':=s.gens) (d':=s.drawn) (ch:=wr) (λb hb=>?_) (λb o _ _ hc e _=>k b o hc e) (λb o _ _ hc e _=>⟨o.slots,k b o hc e⟩) (λ_ _ _ _ n=>n)
  (λb o hc e=>⟨o,k b o hc e⟩) (λ_ _ e=>e) (λ_ _ _ e=>e) (λb ps e=>⟨#[],by rw[e];simp⟩) (λm hm=>?_) (λb u e=>?_) I.bare
 ·obtain⟨f0,f1,f2,f3,f4,f5⟩:=hf b hb;exact⟨f3,f1,f4,f5⟩
 ·obtain⟨o,es,ep,ho,r⟩:=hm;exact⟨o,es,ep,k _ o (λz=>(hf _ z).2.1 rfl) ho,r⟩
 ·refine(I.i4 b u e).C0 (λc v hc q=>k c v ?_ q) (λ_ q=>q) λ_ _ q=>q;rcases hc with z|z
  ·rw[z];exact nw b u e
  ·exact nw c _ z
end
def Wd(n:Nat)(G:Hp->Prop)(R:Nat->List V->Prop):It:=
 ⟨λi H=>i<n/\G H,λi H x H'=>∃T vs,x=.ref T/\H T=none/\R i vs/\H'=upd H T (.tup vs),λi H=>i=n/\G H⟩
variable{g:TG}
theorem AY{n:Nat}{G:Hp->Prop}{R:Nat->List V->Prop}{tb:TS}{D:gR}{σ:St}{H:Hp}(Pv:Nat->St->Hp->Prop)(h0:Pv 0 σ H)(hg:∀i σ H,i<=n->Pv i σ H->G H)(hs:∀i T vs σ H,i<n->R i vs->Pv i σ H->H T=none->g (.ref T) σ (upd H T (.tup vs)) λDu H2=>tb { D with nx:=Pv (i+1),ct:=Pv (i+1),bk:=D.nx } Du H2)(hd:∀σ H,Pv n σ H->D.nx σ H):
 ∃W:Nat->Nat->St->Hp->Prop,(∃m,W 0 m σ H)/\∀i m σ H,W i m σ H ->
  ((Wd n G R).stop i H/\D.nx σ H)\/((Wd n G R).go i H/\∃N:St->Hp->Prop,(∀k_ H',N k_ H'->∃m',m'<m/\W (i+1) m' k_ H')/\∀x H',(Wd n G R).Iz i H x H'->g x σ H' λDu H2=>tb { D with nx:=N,ct:=N,bk:=D.nx } Du H2):=by
 refine⟨λi m σ H=>m=n-i/\i<=n/\Pv i σ H,⟨n,by simp,aa3 _,h0⟩,?_⟩;rintro i m σ H ⟨rfl,hi,p⟩;have q:=hg i σ H hi p;by_cases o9:i<n
 ·refine .inr ⟨⟨o9,q⟩,Pv (i+1),λk_ H' p'=>⟨n-(i+1),by lia,rfl,o9,p'⟩,λx H' y=>?_⟩;obtain⟨T,vs,rfl,hT,r,rfl⟩:=y;exact hs i T vs σ H o9 r p hT
 ·have e:i=n:=by lia
  subst e;exact .inl ⟨⟨rfl,q⟩,hd σ H p⟩
section
variable{X:Cx}{elts:List Expr}{k:Nat}{D7:Pos}
end
variable{ys:List Str}{js:List Nat}{ifs:List Expr}{sc:Scope}{iter elt:Expr}{pos px py Jb:Pos}{wi:TI}{tc:TT}{te:TE}{X:Cx}{t y:Str}
theorem xQ(hc:X.calm=true)(E9:Dt X.N X.env.scope sc t ys js=true)(hi:PI X (.Name t px) iter wi)(hf:∀cl C s H fp,Rq (X.comp sc cl C (t::ys) s H fp) ifs tc)(he:∀cl C s H fp,PE (X.comp sc cl C (t::ys) s H fp) elt te)(hg:PG X (.Name y py) g)(Tj:swapsWith (.ListComp elt [⟨.Name t px,iter,ifs,0⟩] sc pos) (some (.Name y py)) Jb.line X.env=pure true)(hs:∀x,foldedSetIterable iter X.env x=pure x):
 PS X (.Assign [.Name y py] (.ListComp elt [⟨.Name t px,iter,ifs,0⟩] sc pos) Jb) (HU (Hm wi js tc te) g):=by
 have ck:=ko E9;intro pins s σ H D0 I h;have B1:∀x,(x,NameKind.free)∈sc.names->∃c,X.env.cells.lookup x=some c:=λx hx=>I.ok.has x (.inl (ck.Qj _ hx rfl));obtain⟨cl,Mn,Ef,Kx⟩:=lU B1;rw[exec_Assign_Name_used _ _ _ _ Tj];refine aaC (acy (aaC ?_));show wpAny _ X.A (do let _ <- comprehension (.ListComp elt [⟨.Name t px,iter,ifs,0⟩] sc pos) sc X.env _ (newList []) false (eval iter X.env) (some (assign (.Name y py) X.env))) _ _ s;refine aaC (abp (adz (use:=some (assign (.Name y py) X.env)) (Q:=λ_ s'=>SP X pins D0 .next s') rfl hs Mn ck.kind ck.loc (j9 (hi pins s σ H _ I h) λv s1 h1=>j9 h1 λSX s2 h2=>?_)) (λ_ s' hq=>aaE (aaE hq)) λ_ _ e=>e);obtain⟨it,fp,tn,J,H2,e,I2,T,Lc,f2,hR⟩:=h2;subst e;refine abx (adV ck.Ex (by intro y hy;simp at hy) (λh1 Ed Hx=>?_) ck.kind);dsimp only at Ed Hx⊢;generalize hp:s2.heap.push { cls:=.type "list",dict:=none,data:=.seq ([]:List Value).toArray }=hh at Ed Hx⊢;have hC:hh.objs.size=s2.heap.objs.size+1:=by rw[<-hp,ac2]
 have MT:∀{b:Addr},b<s2.heap.objs.size->b≠s2.heap.objs.size:=λhb=>aaU hb;have FE:∀{b:Addr},b<s2.heap.objs.size->b≠hh.objs.size:=λhb=>by rw[hC];exact aaU (adg hb)
 have Nv:s2.heap.objs.size≠hh.objs.size:=by rw[hC];exact aaU (ad2 _)
 have Fy:s2.heap.objs.size<=hh.objs.size:=by rw[hC];exact ach _
 have old:∀b o,s2.heap.get? b=some o->h1.get? b=some o:=λb o e=>Hx.extBut b o (FE (aaJ e)) (aaH _ (hp▸aaH _ e));have Dm:h1.get? s2.heap.objs.size=some { cls:=.type "list",dict:=none,data:=.seq ([]:List Value).toArray }:=Hx.extBut _ _ Nv (aaH _ (hp▸aaT _ rfl));have Ny:∀b∈fp,∃o,s2.heap.get? b=some o:=λb hb=>let⟨o,e,_⟩:=T.obj 0 _ Lc b hb;⟨o,e⟩
 have U5:∀b∈fp,b≠s2.heap.objs.size:=λb hb=>by obtain⟨o,e⟩:=Ny b hb;exact MT (aaJ e)
 have Nz:∀b∈fp,b≠hh.objs.size:=λb hb=>by obtain⟨o,e⟩:=Ny b hb;exact FE (aaJ e)
 have Nx:∀b∈fp,b∉n9 X.stack:=λb hb z=>(List.mem_cons.mp (I2.Ep b z)).elim (f2 b hb).2.1 (f2 b hb).2.2.1;have GW:(X.comp sc cl hh.objs.size (t::ys) s2 H2 fp).Ok:=by
  refine⟨I2.ok.mod,ck.kind,I2.ok.glob,I2.ok.blt,Fy,λx y c a b=>I2.ok.inj x y c (Ef x c a) (Ef y c b),λx hx=>?_,(λx c z=>nomatch z),I2.ok.hd,I2.ok.frames,.inl rfl,λb hb=>⟨Nz b hb,λx c a=>(f2 b hb).2.2.2.2.1 x c (Ef x c a)⟩,
   I2.bs,abg I2.ok.HF I2.sz,λb o e hb=>?_,λb hb=>Nx b hb,I2.stack,I2.A7⟩
  ·have DB:(sc.names.map λ(n,k)=>if(k == NameKind.free&&X.env.scope.kind == .function&&X.env.kindOf n == some .cell)then(n,NameKind.cell)else(n,k)).lookup x=some .cell\/(sc.names.map λ(n,k)=>if(k == NameKind.free&&X.env.scope.kind == .function&&X.env.kindOf n == some .cell)then(n,NameKind.cell)else(n,k)).lookup x=some .free:=hx;rcases DB with z|z
   ·rcases bR z with q|⟨_,q⟩
    ·exact absurd rfl (ck.Ex _ (aba q))
    ·exact Kx x (aba q)
   ·rcases bR z with q|⟨q,_⟩
    ·exact Kx x (aba q)
    ·cases q
  ·rcases(f2 b hb).2.2.2.1 with z|z
   ·exact I2.ok.FU b o e z
   ·exact absurd (aa1 (aaJ e) (abg I2.ok.HF z)) (abG _)
 have Wf:∀tk:Nat,Inv (X.comp sc cl hh.objs.size (t::ys) s2 H2 fp) [] (none::bp js σ) (upd H2 s2.heap.objs.size (.lst [])) { s2 with heap:=h1,toks:=tk }:=λtk=>by
  refine⟨GW,rfl,I2.bare,Un.laid old (aaI _) I2.fresh,⟨_,Ed,λi x v e1 e2 e3=>?_⟩,λx c e=>?_,?_,λx c e=>?_,λp hp=>absurd (show p∈([]:List (Addr×Obj))from hp) (by simp),I2.i4.laid old (aaI _) ⟨aa3 _,[],0,.nil,Dm⟩,?_⟩
  ·cases i with
   |zero=>simp at e2
   |succ k=>
    have Mw:ys[k]?=some x:=e1;have Ge:(bp js σ)[k]?=some (some v):=by simpa using e2
    unfold bp at Ge;rw[aaK]at Ge;have q:=abk (λl=>l[k]?) ck.OF;simp only[aaK,Mw,abN]at q;cases hj:js[k]? with
    |none=>rw[hj]at q;cases q
    |some j=>
     rw[hj]at q Ge;have q1:X.N[j]?=some x:=(aa0 q).symm;have q2:σ[j]?=some (some v):=by
      have z:(σ[j]?).join=some v:=aa0 Ge;cases hz:σ[j]? with
      |none=>rw[hz]at z;cases z
      |some y=>rw[hz]at z;exact abk some z
     have B7:=ck.WQ x (aaD Mw);have B4:=ck.Qj _ (aba B7) rfl;obtain⟨m2,Q7,Md⟩:=I2.loc;obtain⟨u,ru,lk⟩:=Md j x v q1 q2 (.inr (.inl B4));refine⟨u,ru,?_⟩;rcases lk with⟨kk,_⟩|⟨_,c,ec,ic⟩
     ·have Nb:X.env.scope.names.lookup x=some .local:=kk;have EE:X.env.scope.names.lookup x=some .cell:=B4;rw[EE]at Nb;cases Nb
     ·obtain⟨c',NC⟩:=Kx x (aba B7);have:c'=c:=aa0 ((Ef x c' NC).symm.trans ec);subst this;refine .inr ⟨cM B7,c',NC,?_⟩;obtain⟨o,ho,hd⟩:=ic;exact⟨o,old _ o ho,hd⟩
  ·obtain⟨v,o,ho,hd⟩:=I2.cell x c (Ef x c e);exact⟨v,o,old _ o ho,hd⟩
  ·show upd H2 s2.heap.objs.size _ hh.objs.size=none;rw[al (abF Nv)];exact I2.i4.fresh Fy
  ·obtain⟨v,o,ho,hd⟩:=I2.cell x c (Ef x c e);rw[al (MT (aaJ ho))];exact I2.x_ x c (Ef x c e)
  ·show(none::bp js σ).length=(t::ys).length;have q:=abk List.length ck.OF;simp only[aaG]at q;unfold bp;simp only[aaM,aaG];lia
 have MM:tn 0 h1:=T.keep _ _ _ Lc λb hb o e=>old b o e;obtain⟨W,⟨m0,w0⟩,turn⟩:=hR s2.heap.objs.size I2.fresh;have EF:∀{H':Hp},(∀b∈fp,H' b=none)->∀b∈fp,qe (X.comp sc cl hh.objs.size (t::ys) s2 H2 fp) [] H' b:=λhn b hb=>
  ⟨hn b hb,Nz b hb,Nx b hb,.inl hb,λx c a=>(f2 b hb).2.2.2.2.1 x c (Ef x c a),λp hp=>absurd (show p∈([]:List (Addr×Obj))from hp) (by simp)⟩
 have ndN:(t::ys).Nodup:=ck.nd;have loop:∀s3:Shared,s3={ s2 with heap:=h1,toks:=s2.toks+([]:List (Str×Value)).length } ->
  codeAny (model X.prog X.w) X.A (.compLoop (.ListComp elt [⟨.Name t px,iter,ifs,0⟩] sc pos) 0 (.ref it) (.ref s2.heap.objs.size) (compEnvC sc cl hh.objs.size X.env))
   (compPost (model X.prog X.w) X.A X.xe (some (assign (.Name y py) X.env)) (λ_ s'=>SP X pins D0 .next s') (.ref s2.heap.objs.size) hh.objs.size) s3:=by
  rintro s3 rfl;refine fq (λn s'=>∃i acc H',Inv (X.comp sc cl hh.objs.size (t::ys) s2 H2 fp) [] (none::bp js σ) H' s'/\tn i s'.heap/\(∀b∈fp,H' b=none)/\W i n acc H') ?_ m0
   ⟨0,[],_,Wf _,MM,λb hb=>by rw[al (U5 b hb)];exact(f2 b hb).1,w0⟩
  rintro n s3 ⟨i,acc,H3,I3,Ja,JT,w3⟩;obtain⟨hD,hz,alt⟩:=turn i n acc H3 w3;rcases alt with⟨stop,q⟩|⟨go,step⟩
  ·refine j9 (T.done (X.comp sc cl hh.objs.size (t::ys) s2 H2 fp) rfl rfl rfl hc i [] s3 _ H3 _ I3 (EF JT) Ja stop) ?_;rintro r s4 ⟨hr,I4⟩;subst hr;obtain⟨m,hn,_⟩:=id I4.loc;have M_:∀b o,s2.heap.get? b=some o->b≠hh.objs.size:=λb o e=>FE (aaJ e);have b4:Un (n9 X.stack) fp H2 H3 s2.heap s4.heap:=I4.base;have I5:Inv X pins σ H3 s4:=I2.HE (s':=s4) (ch:=fp) I4.os ⟨λb o e n1 n2 n3=>b4.keep b o e n1 n2 n3,λb o e n1 n2 n3=>b4.slot b o e n1 n2 n3,b4.free,λb o e n1=>b4.there b o e n1,b4.B_,b4.B5,b4.B'⟩ (λb ob e=>I4.i4 b ob e) I4.bare
    (λb hb=>⟨(f2 b hb).2.2.2.1,(f2 b hb).2.1,(f2 b hb).2.2.2.2.1,(f2 b hb).2.2.2.2.2⟩)
   have fC:qe X pins H3 hh.objs.size:=I2.Gb Fy I4.free;obtain⟨oC,es,ep,hoC,dC,rC⟩:=id hn;have I6:Inv X (pins++[(hh.objs.size,oC)]) σ H3 s4:=I5.Fq λp hp=>(List.mem_append.mp hp).elim (λz=>I5.pin p (aaV _ z)) λz=>by rw[List.mem_singleton.mp z];exact⟨hoC,fC.1,fC.2.1,fC.2.2.1,λv z=>by rw[dC]at z;cases z⟩
   show wpAny _ X.A (assign (.Name y py) X.env (.ref s2.heap.objs.size)) _ _ s4;refine j9 (hg _ s4 σ H3 (.ref s2.heap.objs.size) _ _ I6 rfl q) ?_;rintro _ s7 ⟨HR,H7,I7,q7⟩;obtain⟨p1,p2,p3,p4,p5⟩:=I7.pin (hh.objs.size,oC) (aaV _ (aaV _ (List.mem_singleton.mpr rfl)));refine⟨m,⟨oC,es,ep,p1,dC,rC⟩,λh' sb=>⟨HR,H7,?_,q7⟩⟩;exact I7.A0.turned (t':=s7.toks) (λb o hb e=>(sb.2 b hb).trans e) p2 p3 fC.2.2.2.1 fC.2.2.2.2.1 fC.2.2.2.2.2
  ·refine j9 (T.item (X.comp sc cl hh.objs.size (t::ys) s2 H2 fp) rfl rfl rfl hc i [] s3 _ H3 _ I3 (EF JT) Ja go) ?_;rintro r s4 ⟨u,hr,h4⟩;subst hr;refine j9 h4 ?_;rintro _ s5 ⟨x,H5,I5,r5,y5,GI,Qk⟩;have Qz:=I5.pinned (EF Qk) (T.obj _ _ GI);refine aee (dO (i:=0) Qz ndN rfl (.inl (ac8 ck.tl)) r5 (λs6 I6=>?_) (.inr (ac8 ck.tl)));have again:∀{H7:Hp}{s7:Shared}{m':Nat}{EI:List V},Inv (X.comp sc cl hh.objs.size (t::ys) s2 H2 fp) ([]++gr fp s5.heap) (some x::bp js σ) H7 s7->m'<n->W (i+1) m' EI H7 ->
    ∃m,m<n/\∃i acc H',Inv (X.comp sc cl hh.objs.size (t::ys) s2 H2 fp) [] (none::bp js σ) H' s7/\tn i s7.heap/\(∀b∈fp,H' b=none)/\W i m acc H':=λ{H7 s7 m' EI} I7 hm w7=>by
    refine⟨m',hm,i+1,EI,H7,(I7.A0).weak rfl (λk v e=>?_),T.keep _ _ _ GI λb hb o e=>(I7.pin (b,o) (aaV _ (aaV _ (bV hb e)))).1,λb hb=>?_,w7⟩
    ·cases k with
     |zero=>simp at e
     |succ k=>simpa using e
    ·obtain⟨o,e,d⟩:=T.obj _ _ GI b hb;exact(I7.pin (b,o) (aaV _ (aaV _ (bV hb e)))).2.1
   refine j9 (hf _ _ _ _ _ _ s6 _ H5 _ I6 (step x H5 y5)) ?_;rintro ok s7 ⟨H7,I7,q7⟩;cases ok with
   |false=>
    obtain⟨m',hm,w7⟩:=q7;exact again I7 hm w7
   |true=>
    refine j9 (he _ _ _ _ _ _ s7 _ H7 _ I7 q7) ?_;rintro uy s8 ⟨y,H8,I8,r8,U0,m',hm,w8⟩;refine j9 (bo (X:=X.comp sc cl hh.objs.size (t::ys) s2 H2 fp) _ s8 _ H8 (.ref s2.heap.objs.size) [y] (.ref s2.heap.objs.size) [uy] (λ_ H9=>W (i+1) m' (acc++[y]) H9) I8 rfl (.cons r8 .nil) ⟨_,acc,y,rfl,rfl,U0,hz,w8⟩) ?_;rintro _ s9 ⟨_,H9,I9,_,q9⟩;exact again I9 hm q9
 exact adG (loop _ rfl) (T.self _ 0 _ _ _ MM (loop _ rfl))
def eB(hc:X.calm=true)(E9:Dt X.N X.env.scope sc t ys js=true)(hi:QI X (.Name t px) iter wi)(hf:∀cl C s H fp,V_ (X.comp sc cl C (t::ys) s H fp) ifs tc)(he:∀cl C s H fp,QE (X.comp sc cl C (t::ys) s H fp) elt te)(hg:QG X (.Name y py) g)(Tj:swapsWith (.ListComp elt [⟨.Name t px,iter,ifs,0⟩] sc pos) (some (.Name y py)) Jb.line X.env=pure true)(hs:autoParam (∀x,foldedSetIterable iter X.env x=pure x) τ):
 QS X (.Assign [.Name y py] (.ListComp elt [⟨.Name t px,iter,ifs,0⟩] sc pos) Jb) (HU (Hm wi js tc te) g):=⟨xQ hc E9 hi.h (λcl C s H fp=>(hf cl C s H fp).h) (λcl C s H fp=>(he cl C s H fp).h) hg.h Tj hs⟩
noncomputable def fR(N:List Str)(HY sc:Scope)(ts ys:List Str)(js:List Nat):Bool:=
 sc.kind == .function&&sc.names.all (λy=>y.2 != .cell)&&sc.names.all (λy=>y.2 != .local||sc.names.lookup y.1 == some .local) &&
 sc.names.all (λy=>y.2 != .free||HY.names.lookup y.1 == some .cell)&&(ys.map some == js.map λj=>N[j]?) &&
 ys.all (λy=>sc.names.lookup y == some .free)
structure zg(N:List Str)(HY sc:Scope)(ys:List Str)(js:List Nat):Prop where
 kind:sc.kind=.function
 Ex:∀y∈sc.names,y.2≠.cell
 loc:∀y∈sc.names,y.2=.local->sc.names.lookup y.1=some .local
 Qj:∀y∈sc.names,y.2=.free->HY.names.lookup y.1=some .cell
 OF:ys.map some=js.map λj=>N[j]?
 WQ:∀y∈ys,sc.names.lookup y=some .free
variable{ts:List Str}
def pW{N:List Str}{HY:Scope}(h:fR N HY sc ts ys js=true):zg N HY sc ys js:=by unfold fR at h;simp only[abI,ad4,abJ,Bool.or_eq_true,bne_iff_ne,ado]at h;obtain⟨⟨⟨⟨⟨a,b⟩,c⟩,d⟩,e⟩,f⟩:=h;exact⟨a,λy hy=>b y hy,λy hy z=>(c y hy).resolve_left λq=>q z,λy hy z=>(d y hy).resolve_left λq=>q z,e,f⟩
def uk(J:It)(g:TG)(n:Nat)(js:List Nat)(tc:TT)(te:TE)(σ:St)(Q:VK)(D:Addr)(H1:Hp):Prop:=∃W:Nat->Nat->List V->Hp->Prop,(∃m,W 0 m [] (upd H1 D (.lst []))) /\
 ∀i m acc H,W i m acc H->H D=some (.lst acc)/\acc.length<sizeLine/\((J.stop i H/\Q (.ref D) H)\/(J.go i H/\∀x H',J.Iz i H x H'->g x (List.replicate n none++bp js σ) H' λIy H6=>∃us:List (Option V),us.length=n/\Iy=us++bp js σ/\tc Iy H6 λc H3=>
  if c=true then te Iy H3 λy H4=>H4 D=some (.lst acc)/\∃m',m'<m/\W (i+1) m' (acc++[y]) (upd H4 D (.lst (acc++[y])))else∃m',m'<m/\W (i+1) m' acc H3))
def wn(wi:TI)(g:TG)(n:Nat)(js:List Nat)(tc:TT)(te:TE):TE:=λσ H Q=>wi σ H λJ H1=>∀D,H1 D=none->uk J g n js tc te σ Q D H1
variable{tg:Expr}
theorem uV(hc:X.calm=true)(E9:fR X.N X.env.scope sc ts ys js=true)(hi:PI X tg iter wi)(hg:∀cl C s H fp,PG (X.comp sc cl C (ts++ys) s H fp) tg g)(hf:∀cl C s H fp,Rq (X.comp sc cl C (ts++ys) s H fp) ifs tc)(he:∀cl C s H fp,PE (X.comp sc cl C (ts++ys) s H fp) elt te)(hs:∀x,foldedSetIterable iter X.env x=pure x):PE X (.ListComp elt [⟨tg,iter,ifs,0⟩] sc pos) (wn wi g ts.length js tc te):=by
 have ck:=pW E9;intro pins s σ H Q I h;have B1:∀x,(x,NameKind.free)∈sc.names->∃c,X.env.cells.lookup x=some c:=λx hx=>I.ok.has x (.inl (ck.Qj _ hx rfl));obtain⟨cl,Mn,Ef,Kx⟩:=lU B1;rw[eval_ListComp];refine adz (use:=none) rfl hs Mn ck.kind ck.loc (j9 (hi pins s σ H _ I h) λv s1 h1=>j9 h1 λSX s2 h2=>?_);obtain⟨it,fp,tn,J,H2,e,I2,T,Lc,f2,hR⟩:=h2;subst e;refine abx (adV ck.Ex (by intro y hy;simp at hy) (λh1 Ed Hx=>?_) ck.kind);dsimp only at Ed Hx⊢;generalize hp:s2.heap.push { cls:=.type "list",dict:=none,data:=.seq ([]:List Value).toArray }=hh at Ed Hx⊢;have hC:hh.objs.size=s2.heap.objs.size+1:=by rw[<-hp,ac2]
 have MT:∀{b:Addr},b<s2.heap.objs.size->b≠s2.heap.objs.size:=λhb=>aaU hb;have FE:∀{b:Addr},b<s2.heap.objs.size->b≠hh.objs.size:=λhb=>by rw[hC];exact aaU (adg hb)
 have Nv:s2.heap.objs.size≠hh.objs.size:=by rw[hC];exact aaU (ad2 _)
 have Fy:s2.heap.objs.size<=hh.objs.size:=by rw[hC];exact ach _
 have old:∀b o,s2.heap.get? b=some o->h1.get? b=some o:=λb o e=>Hx.extBut b o (FE (aaJ e)) (aaH _ (hp▸aaH _ e));have Dm:h1.get? s2.heap.objs.size=some { cls:=.type "list",dict:=none,data:=.seq ([]:List Value).toArray }:=Hx.extBut _ _ Nv (aaH _ (hp▸aaT _ rfl));have Ny:∀b∈fp,∃o,s2.heap.get? b=some o:=λb hb=>let⟨o,e,_⟩:=T.obj 0 _ Lc b hb;⟨o,e⟩
 have U5:∀b∈fp,b≠s2.heap.objs.size:=λb hb=>by obtain⟨o,e⟩:=Ny b hb;exact MT (aaJ e)
 have Nz:∀b∈fp,b≠hh.objs.size:=λb hb=>by obtain⟨o,e⟩:=Ny b hb;exact FE (aaJ e)
 have Nx:∀b∈fp,b∉n9 X.stack:=λb hb z=>(List.mem_cons.mp (I2.Ep b z)).elim (f2 b hb).2.1 (f2 b hb).2.2.1;have GW:(X.comp sc cl hh.objs.size (ts++ys) s2 H2 fp).Ok:=by
  refine⟨I2.ok.mod,ck.kind,I2.ok.glob,I2.ok.blt,Fy,λx y c a b=>I2.ok.inj x y c (Ef x c a) (Ef y c b),λx hx=>?_,(λx c z=>nomatch z),I2.ok.hd,I2.ok.frames,.inl rfl,λb hb=>⟨Nz b hb,λx c a=>(f2 b hb).2.2.2.2.1 x c (Ef x c a)⟩,
   I2.bs,abg I2.ok.HF I2.sz,λb o e hb=>?_,λb hb=>Nx b hb,I2.stack,I2.A7⟩
  ·have DB:(sc.names.map λ(n,k)=>if(k == NameKind.free&&X.env.scope.kind == .function&&X.env.kindOf n == some .cell)then(n,NameKind.cell)else(n,k)).lookup x=some .cell\/(sc.names.map λ(n,k)=>if(k == NameKind.free&&X.env.scope.kind == .function&&X.env.kindOf n == some .cell)then(n,NameKind.cell)else(n,k)).lookup x=some .free:=hx;rcases DB with z|z
   ·rcases bR z with q|⟨_,q⟩
    ·exact absurd rfl (ck.Ex _ (aba q))
    ·exact Kx x (aba q)
   ·rcases bR z with q|⟨q,_⟩
    ·exact Kx x (aba q)
    ·cases q
  ·rcases(f2 b hb).2.2.2.1 with z|z
   ·exact I2.ok.FU b o e z
   ·exact absurd (aa1 (aaJ e) (abg I2.ok.HF z)) (abG _)
 have Wf:∀tk:Nat,Inv (X.comp sc cl hh.objs.size (ts++ys) s2 H2 fp) [] (List.replicate ts.length none++bp js σ) (upd H2 s2.heap.objs.size (.lst [])) { s2 with heap:=h1,toks:=tk }:=λtk=>by
  refine⟨GW,rfl,I2.bare,Un.laid old (aaI _) I2.fresh,⟨_,Ed,λi x v e1 e2 e3=>?_⟩,λx c e=>?_,?_,λx c e=>?_,λp hp=>absurd (show p∈([]:List (Addr×Obj))from hp) (by simp),I2.i4.laid old (aaI _) ⟨aa3 _,[],0,.nil,Dm⟩,?_⟩
  ·by_cases hik:i<ts.length
   ·rw[aa4 (by rw[abw];exact hik),adn,aaY hik]at e2;cases e2
   ·obtain⟨k,rfl⟩:∃k,i=ts.length+k:=⟨i-ts.length,by lia⟩
    have Mw:ys[k]?=some x:=by have:(ts++ys)[ts.length+k]?=some x:=e1;rw[abf (by lia)]at this;rw[<-this];congr 1;lia
    have Ge:(bp js σ)[k]?=some (some v):=by rw[abf (by rw[abw];lia),abw]at e2;rw[<-e2];congr 1;lia
    unfold bp at Ge;rw[aaK]at Ge;have q:=abk (λl=>l[k]?) ck.OF;simp only[aaK,Mw,abN]at q;cases hj:js[k]? with
    |none=>rw[hj]at q;cases q
    |some j=>
     rw[hj]at q Ge;have q1:X.N[j]?=some x:=(aa0 q).symm;have q2:σ[j]?=some (some v):=by
      have z:(σ[j]?).join=some v:=aa0 Ge;cases hz:σ[j]? with
      |none=>rw[hz]at z;cases z
      |some y=>rw[hz]at z;exact abk some z
     have B7:=ck.WQ x (aaD Mw);have B4:=ck.Qj _ (aba B7) rfl;obtain⟨m2,Q7,Md⟩:=I2.loc;obtain⟨u,ru,lk⟩:=Md j x v q1 q2 (.inr (.inl B4));refine⟨u,ru,?_⟩;rcases lk with⟨kk,_⟩|⟨_,c,ec,ic⟩
     ·have Nb:X.env.scope.names.lookup x=some .local:=kk;have EE:X.env.scope.names.lookup x=some .cell:=B4;rw[EE]at Nb;cases Nb
     ·obtain⟨c',NC⟩:=Kx x (aba B7);have:c'=c:=aa0 ((Ef x c' NC).symm.trans ec);subst this;refine .inr ⟨cM B7,c',NC,?_⟩;obtain⟨o,ho,hd⟩:=ic;exact⟨o,old _ o ho,hd⟩
  ·obtain⟨v,o,ho,hd⟩:=I2.cell x c (Ef x c e);exact⟨v,o,old _ o ho,hd⟩
  ·show upd H2 s2.heap.objs.size _ hh.objs.size=none;rw[al (abF Nv)];exact I2.i4.fresh Fy
  ·obtain⟨v,o,ho,hd⟩:=I2.cell x c (Ef x c e);rw[al (MT (aaJ ho))];exact I2.x_ x c (Ef x c e)
  ·show(List.replicate ts.length none++bp js σ).length=(ts++ys).length;have q:=abk List.length ck.OF;simp only[aaG]at q;unfold bp;simp only[aaF,abw,aaG];lia
 have MM:tn 0 h1:=T.keep _ _ _ Lc λb hb o e=>old b o e;obtain⟨W,⟨m0,w0⟩,turn⟩:=hR s2.heap.objs.size I2.fresh;have EF:∀{H':Hp},(∀b∈fp,H' b=none)->∀b∈fp,qe (X.comp sc cl hh.objs.size (ts++ys) s2 H2 fp) [] H' b:=λhn b hb=>
  ⟨hn b hb,Nz b hb,Nx b hb,.inl hb,λx c a=>(f2 b hb).2.2.2.2.1 x c (Ef x c a),λp hp=>absurd (show p∈([]:List (Addr×Obj))from hp) (by simp)⟩
 have loop:∀s3:Shared,s3={ s2 with heap:=h1,toks:=s2.toks+([]:List (Str×Value)).length } ->
  codeAny (model X.prog X.w) X.A (.compLoop (.ListComp elt [⟨tg,iter,ifs,0⟩] sc pos) 0 (.ref it) (.ref s2.heap.objs.size) (compEnvC sc cl hh.objs.size X.env))
   (compPost (model X.prog X.w) X.A X.xe none (EP X pins σ Q) (.ref s2.heap.objs.size) hh.objs.size) s3:=by
  rintro s3 rfl;refine fq (λn s'=>∃i acc H',Inv (X.comp sc cl hh.objs.size (ts++ys) s2 H2 fp) [] (List.replicate ts.length none++bp js σ) H' s'/\tn i s'.heap/\(∀b∈fp,H' b=none)/\W i n acc H') ?_ m0
   ⟨0,[],_,Wf _,MM,λb hb=>by rw[al (U5 b hb)];exact(f2 b hb).1,w0⟩
  rintro n s3 ⟨i,acc,H3,I3,Ja,JT,w3⟩;obtain⟨hD,hz,alt⟩:=turn i n acc H3 w3;rcases alt with⟨stop,q⟩|⟨go,step⟩
  ·refine j9 (T.done (X.comp sc cl hh.objs.size (ts++ys) s2 H2 fp) rfl rfl rfl hc i [] s3 _ H3 _ I3 (EF JT) Ja stop) ?_;rintro r s4 ⟨hr,I4⟩;subst hr;obtain⟨m,hn,_⟩:=id I4.loc;refine⟨m,hn,λh' sb=>⟨.ref s2.heap.objs.size,H3,?_,rfl,q⟩⟩;have M_:∀b o,s2.heap.get? b=some o->b≠hh.objs.size:=λb o e=>FE (aaJ e);have b4:Un (n9 X.stack) fp H2 H3 s2.heap s4.heap:=I4.base;refine I2.HE (s':={ s4 with heap:=h' }) (ch:=fp) I4.os ⟨λb o e n1 n2 n3=>(sb.2 b (M_ b o e)).trans (b4.keep b o e n1 n2 n3),λb o e n1 n2 n3=>?_,b4.free,λb o e n1=>?_,b4.B_,b4.B5,b4.B'⟩ (λb ob e=>?_) I4.bare
    (λb hb=>⟨(f2 b hb).2.2.2.1,(f2 b hb).2.1,(f2 b hb).2.2.2.2.1,(f2 b hb).2.2.2.2.2⟩)
   ·obtain⟨sl,e1⟩:=b4.slot b o e n1 n2 n3;exact⟨sl,(sb.2 b (M_ b o e)).trans e1⟩
   ·obtain⟨o',e1⟩:=b4.there b o e n1;exact⟨o',(sb.2 b (M_ b o e)).trans e1⟩
   ·have A2:H3 hh.objs.size=none:=I4.free;refine(I4.i4 b ob e).C0 (λc w' FI q'=>(sb.2 c ?_).trans q') (λ_ q'=>q') λ_ _ q'=>q';rintro rfl;rcases FI with rfl|FI
    ·rw[A2]at e;cases e
    ·rw[A2]at FI;cases FI
  ·refine j9 (T.item (X.comp sc cl hh.objs.size (ts++ys) s2 H2 fp) rfl rfl rfl hc i [] s3 _ H3 _ I3 (EF JT) Ja go) ?_;rintro r s4 ⟨u,hr,h4⟩;subst hr;refine j9 h4 ?_;rintro _ s5 ⟨x,H5,I5,r5,y5,GI,Qk⟩;have Qz:=I5.pinned (EF Qk) (T.obj _ _ GI);refine j9 (hg _ _ _ _ _ _ s5 _ H5 x _ _ Qz r5 (step x H5 y5)) ?_;rintro _ s6 ⟨Iy,H6,I6,us,hul,v_,q6⟩;subst v_;have again:∀{H7:Hp}{s7:Shared}{m':Nat}{EI:List V},Inv (X.comp sc cl hh.objs.size (ts++ys) s2 H2 fp) ([]++gr fp s5.heap) (us++bp js σ) H7 s7->m'<n->W (i+1) m' EI H7 ->
    ∃m,m<n/\∃i acc H',Inv (X.comp sc cl hh.objs.size (ts++ys) s2 H2 fp) [] (List.replicate ts.length none++bp js σ) H' s7/\tn i s7.heap/\(∀b∈fp,H' b=none)/\W i m acc H':=λ{H7 s7 m' EI} I7 hm w7=>by
    refine⟨m',hm,i+1,EI,H7,(I7.A0).weak (by rw[aaF,aaF,abw,hul]) (λk v e=>?_),T.keep _ _ _ GI λb hb o e=>(I7.pin (b,o) (aaV _ (aaV _ (bV hb e)))).1,λb hb=>?_,w7⟩
    ·by_cases hk:k<ts.length
     ·rw[aa4 (by rw[abw];exact hk),adn,aaY hk]at e;cases e
     ·rw[abf (by rw[abw];lia),abw]at e;rw[abf (by lia),hul];exact e
    ·obtain⟨o,e,d⟩:=T.obj _ _ GI b hb;exact(I7.pin (b,o) (aaV _ (aaV _ (bV hb e)))).2.1
   refine j9 (hf _ _ _ _ _ _ s6 _ H6 _ I6 q6) ?_;rintro ok s7 ⟨H7,I7,q7⟩;cases ok with
   |false=>
    obtain⟨m',hm,w7⟩:=q7;exact again I7 hm w7
   |true=>
    refine j9 (he _ _ _ _ _ _ s7 _ H7 _ I7 q7) ?_;rintro uy s8 ⟨y,H8,I8,r8,U0,m',hm,w8⟩;refine j9 (bo (X:=X.comp sc cl hh.objs.size (ts++ys) s2 H2 fp) _ s8 _ H8 (.ref s2.heap.objs.size) [y] (.ref s2.heap.objs.size) [uy] (λ_ H9=>W (i+1) m' (acc++[y]) H9) I8 rfl (.cons r8 .nil) ⟨_,acc,y,rfl,rfl,U0,hz,w8⟩) ?_;rintro _ s9 ⟨_,H9,I9,_,q9⟩;exact again I9 hm q9
 exact adG (loop _ rfl) (T.self _ 0 _ _ _ MM (loop _ rfl))
def iJ(hc:X.calm=true)(E9:fR X.N X.env.scope sc ts ys js=true)(hi:QI X tg iter wi)(hg:∀cl C s H fp,QG (X.comp sc cl C (ts++ys) s H fp) tg g)(hf:∀cl C s H fp,V_ (X.comp sc cl C (ts++ys) s H fp) ifs tc)(he:∀cl C s H fp,QE (X.comp sc cl C (ts++ys) s H fp) elt te)(hs:autoParam (∀x,foldedSetIterable iter X.env x=pure x) τ):QE X (.ListComp elt [⟨tg,iter,ifs,0⟩] sc pos) (wn wi g ts.length js tc te):=
 ⟨uV hc E9 hi.h (λcl C s H fp=>(hg cl C s H fp).h) (λcl C s H fp=>(hf cl C s H fp).h) (λcl C s H fp=>(he cl C s H fp).h) hs⟩
section
variable{K:W.Frag}{a:Addr}{xs ys:List V}{js:List Nat}{g:TG}{n:Nat}{te:TE}{σ:St}{Q:VK}{D:Addr}{H1:Hp}
end
def sD:typeLookup (.type "list_reverseiterator") "__len__" = pure none:=by rw[acU,ab8];kernel_rfl
def vD:typeLookup (.type "list_reverseiterator") "__length_hint__" = pure (some (.builtin "list_reverseiterator.__length_hint__")):=by rw[acU,ab8];kernel_rfl
variable{items:Array Value}{it l:Addr}
section
variable{prog:Program}{w:World}{A:Around}{E:Value->Shared->Prop}{s:Shared}
def pk{R:Result->Shared->Prop}(hh:A.handled=none)(hi:s.heap.IsRevIter it l ((items.size:Int)-1))(hl:s.heap.IsList l items)(nl:l≠it)(S:Addr)(nS:S≠it)(nSl:S≠l)(c0:Nat)(hS:s.heap.get? S=some { cls:=.type "list",data:=.seq #[] c0 })(hR:∀h' tk acc c',(∀b o,b≠S->b≠it->s.heap.get? b=some o->h'.get? b=some o)->h'.get? S=some { cls:=.type "list",dict:=none,data:=.seq acc c',slots:=#[] }->ItemsOf (λi v=>items[items.size-1-i]?=some v) acc items.size->R (.ok (.ret .none)) { s with heap:=h',toks:=tk })(hn:items.size<=sizeLine):wpAny (model prog w) A.in1 (Builtin.List.listExtendWith (.ref S) (.ref it) .none) (λfin s'=>match fin with|.done f=>R (.ok f) s'|.again c'=>c'.quiet=true/\codeAny (model prog w) A c' R s') (λe s'=>R (.error e) s') s:=by
 have W:=(Walks.listRev (prog:=prog) (w:=w) (A:=A.in1) hh it l nl items).toS;have st:(0:Nat)<=items.size/\s.heap.IsRevIter it l ((items.size:Int)-1-((0:Nat):Int))/\s.heap.IsList l items:=⟨aa3 _,by simpa using hi,hl⟩
 have same:Builtin.List.listSameRef (.ref S) (.ref it)=false:=by simp[Builtin.List.listSameRef,nS]
 unfold Builtin.List.listExtendWith;refine aaC (acd hi.typeIs ?_);rw[aaR (by rw[same];decide)];refine aaC (wpAny_pyIter_revIter hi (aaC (abu ?_)));unfold Builtin.List.listLengthHint;refine aaC (abY hi.typeIs sD (show wpAny _ A.in1 (specialOf (Value.ref it) (Str.ofString "__length_hint__") >>= _) _ _ _ from aaC (abY hi.typeIs vD ?_)));generalize EN:("list_reverseiterator.__length_hint__" : String)=id0
 wp_delta
 rw[show splitId id0=some ("list_reverseiterator", "__length_hint__")from by subst EN;decide +kernel];subst EN;refine aaC (acM (b:=true) hi.typeIs (by rw[adW];kernel_rfl) (aaE ?_));rw[aaR (by decide)];refine aaE ⟨acP F.plain_extend_loop _,codeAny_extend_loopS W hn S (by simp[nS,nSl]) .none items.size 0 _ #[] c0 rfl (aa3 _) st hS (ItemsOf.nil _) λs' acc c' hm Qh ha=>?_⟩;rw[Moved.eq_with hm];refine hR s'.heap s'.toks acc c' (λb o hb Xx e=>hm.heap b o (λz=>?_) e) Qh ha;rcases List.mem_cons.mp z with z|z
 ·exact hb z
 ·exact Xx (List.mem_singleton.mp z)
def uF{Q:Value->Shared->Prop}(hh:A.handled=none)(hi:s.heap.IsRevIter it l ((items.size:Int)-1))(hl:s.heap.IsList l items)(nl:l≠it)(q:∀h' tk acc c',(∀b o,b≠it->s.heap.get? b=some o->h'.get? b=some o)->h'.get? s.heap.objs.size=some { cls:=.type "list",dict:=none,data:=.seq acc c',slots:=#[] }->ItemsOf (λi v=>items[items.size-1-i]?=some v) acc items.size->Q (.ref s.heap.objs.size) { s with heap:=h',toks:=tk })(hn:items.size<=sizeLine):wpAny (model prog w) A (call (.type "list") [.ref it]) Q E s:=by
 refine adX (Q₁:=λobj i8=>obj=.ref s.heap.objs.size/\i8={ s with heap:=s.heap.push { cls:=.type "list",data:=.seq #[] } }) F.called_list (F.typeCall_list_1 _) F.entry_list_init (code_list_new _ ⟨rfl,rfl⟩) λobj i8 Jy=>?_;obtain⟨rfl,rfl⟩:=Jy;have hS:(s.heap.push { cls:=.type "list",data:=.seq #[] }).get? s.heap.objs.size=some { cls:=.type "list",data:=.seq #[] }:=aaT _ rfl;have li:it<s.heap.objs.size:=let⟨_,e,_⟩:=hi;aaJ e
 have ll:l<s.heap.objs.size:=let⟨_,e,_⟩:=hl;aaJ e
 refine⟨⟨_,hS,rfl⟩,F.args_list_init_2 _ _,?_⟩;show wpAny _ _ (do let old <- Builtin.List.listItems (.ref s.heap.objs.size);Builtin.List.listUpdate (.ref s.heap.objs.size) (λ_=>#[]);letGo old.toList.reverse;Builtin.List.listExtendWith (.ref s.heap.objs.size) (.ref it) .none) _ _ _;refine aaC ?_;unfold Builtin.List.listItems;refine aaC (acm hS rfl (aaE (show wpAny _ _ (updateSeq s.heap.objs.size (λ_=>#[]) >>= λ_=>letGo (#[]:Array Value).toList.reverse >>= λ_=>Builtin.List.listExtendWith (.ref s.heap.objs.size) (.ref it) .none) _ _ _ from aaC (adL hS rfl (aaC (wpAny_letGo ?_))))));have E4:=abC (Obj.mapSeq (λ_=>(#[]:Array Value))) hS rfl;have ot:∀b o,b≠s.heap.objs.size->s.heap.get? b=some o->((s.heap.push { cls:=.type "list",data:=.seq #[] }).update s.heap.objs.size (Obj.mapSeq (λ_=>(#[]:Array Value)))).get? b=some o:=λb o hb e=>(abA _ _ (abF hb)).trans (aaH _ e);have ni:it≠s.heap.objs.size:=aaU li;have Xb:l≠s.heap.objs.size:=aaU ll;refine pk (A:=A.in1) hh (hi.at λo e=>ot it o ni e) (hl.at λo e=>ot l o Xb e) nl _ (abF ni) (abF Xb) _ E4 (λh' tk acc c' hk Qh ha=>⟨rfl,q h' tk acc c' (λb o hb e=>?_) Qh ha⟩) hn;have nb:b≠s.heap.objs.size:=aaU (aaJ e);exact hk b o nb hb (ot b o nb e)
end
section
variable{X:Cx}{e:Expr}{te:TE}{p1 p2 q1 q2:Pos}
def zD(K:W.Frag)(te:TE):TE:=λσ H Q=>te σ H λx H1=>∃l ys,x=.ref l/\d9 K H1 l ys/\∀r,H1 r=none->Q (.ref r) (upd H1 r (.lst ys.reverse))
theorem rq{vs:List Value}{acc:Array Value}(h:ItemsOf (λi v=>vs.toArray[vs.toArray.size-1-i]?=some v) acc vs.toArray.size):acc.toList=vs.reverse:=by
 obtain⟨h1,h2⟩:=h;have hz:vs.toArray.size=vs.length:=by simp
 rw[hz]at h1 h2;refine ad1 λi=>?_;by_cases hi:i<vs.length
 ·have e:acc.toList[i]?=some (acc[i]'(by lia)):=by simp[h1,hi]
  have e2:=h2 i (acc[i]'(by lia)) (by simp[h1,hi]);rw[e,aeD hi,<-e2];simp
 ·rw[abL (by simp[h1];lia),abL (by simp;lia)]
theorem pD(hc:X.calm=true)(g1:Gl X "list")(m1:X.mg "list" = none)(g2:Gl X "reversed")(m2:X.mg "reversed" = none)(he:PE X e te)(L7:starEach [e] X.env=[(false,eval e X.env)])(IE:starEach [.Call (.Name "reversed" p2) [e] [] q2] X.env=[(false,eval (.Call (.Name "reversed" p2) [e] [] q2) X.env)]):
 PE X (.Call (.Name "list" p1) [.Call (.Name "reversed" p2) [e] [] q2] [] q1) (zD X.K te):=by
 intro pins s σ H Q I h;refine Call_ (eh I g1 m1 aci (abH ?_ IE rfl));rw[IE];show wpAny _ _ (spliced ((false,eval (.Call (.Name "reversed" p2) [e] [] q2) X.env)::backTo q1 [])) _ _ s;refine ab6 (Call_ (eh I g2 m2 boot_reversed (abH ?_ L7 rfl)));rw[L7];show wpAny _ _ (spliced ((false,eval e X.env)::backTo q2 [])) _ _ s;refine ab6 (j9 (he pins s σ H _ I h) ?_);rintro u s1 ⟨x,H1,I1,r1,l,ys,ex,hq,k⟩;subst ex;cases r1;refine acf ?_;obtain⟨vs,rv,pl,hz⟩:=I1.list hq;have hl:=pl.isList;have hlen:=rv.length;have ll:l<s1.heap.objs.size:=let⟨_,e,_⟩:=hl;aaJ e
 refine call_reversed_list hl (acf ?_);have nl:l≠s1.heap.objs.size:=aaU ll;refine uF (items:=vs.toArray) (I1.ok.hd hc) ⟨_,aaT _ rfl,rfl,rfl⟩ (hl.at λo e=>aaH _ e) nl (λh' tk acc c' hk hS ha=>?_) (by simp;lia);have e:=rq ha;have sz:(s1.heap.push (revObj l ((vs.toArray.size:Int)-1))).objs.size=s1.heap.objs.size+1:=ac2 ..;rw[sz]at hS⊢;have fr:H1 (s1.heap.objs.size+1)=none:=I1.i4.fresh (ach _);refine⟨.ref (s1.heap.objs.size+1),_,I1.laid (t':=tk) (λb u eb=>hk b u (aaU (aaJ eb)) (aaH _ eb)) (ach _) (show i9 X.prog X.w _ h' _ (.lst ys.reverse)from⟨by rw[adJ];lia,vs.reverse,c',rv.reverse,?_⟩),rfl,k _ fr⟩;rw[hS,<-e]
def pA(hc:X.calm=true)(g1:Gl X "list")(m1:X.mg "list" = none)(g2:Gl X "reversed")(m2:X.mg "reversed" = none)(he:QE X e te)(L7:autoParam (starEach [e] X.env=[(false,eval e X.env)]) θ)(IE:autoParam (starEach [.Call (.Name "reversed" p2) [e] [] q2] X.env=[(false,eval (.Call (.Name "reversed" p2) [e] [] q2) X.env)]) θ):
 QE X (.Call (.Name "list" p1) [.Call (.Name "reversed" p2) [e] [] q2] [] q1) (zD X.K te):=⟨pD hc g1 m1 g2 m2 he.h L7 IE⟩
end
end L2
namespace TM
open PySem L2
set_option genInjectivity true in
inductive Tm where
 |num (n:Int)
 |text (z:Str)
 |row
 |mark
 |val (k:Int) (z:Str)
 |call (w:Str) (ts:List Tm)
noncomputable def inner:Tm->List Tm
 |.call _ ts=>ts
 |_=>[]
mutual
noncomputable def bn:Tm->Int
 |.call _ ts=>1+bd ts
 |.num _=>1
 |.text _=>1
 |.row=>1
 |.mark=>1
 |.val _ _=>1
noncomputable def bd:List Tm->Int
 |[]=>0
 |t::ts=>bn t+bd ts
end
mutual
noncomputable def depth:Tm->Nat
 |.call _ ts=>1+bP ts
 |.num _=>1
 |.text _=>1
 |.row=>1
 |.mark=>1
 |.val _ _=>1
noncomputable def bP:List Tm->Nat
 |[]=>0
 |t::ts=>max (depth t) (bP ts)
end
abbrev Pr:=Int×Str
noncomputable def dv(acc:List Pr)(p:Pr):List Pr:=if p∈acc then acc else acc++[p]
noncomputable def DL(acc ps:List Pr):List Pr:=ps.foldl dv acc
mutual
noncomputable def named:Tm->List Pr
 |.val k z=>[(k,z)]
 |.call _ ts=>cN [] ts
 |.num _=>[]
 |.text _=>[]
 |.row=>[]
 |.mark=>[]
noncomputable def cN(acc:List Pr):List Tm->List Pr
 |[]=>acc
 |t::ts=>cN (DL acc (named t)) ts
end
theorem eO:∀ts:List Tm,bd ts=(ts.map bn).sum
 |[]=>by unfold bd;rfl
 |t::ts=>by unfold bd;rw[aa7,acZ,eO ts]
theorem mI(t:Tm):bn t=1+((inner t).map bn).sum:=by
 cases t with
 |call w ts=>rw[bn,eO];rfl
 |_=>rw[bn];rfl
theorem ir:∀{ts:List Tm}{t:Tm},t∈ts->depth t<=bP ts
 |[],_,h=>nomatch h
 |x::ts,t,h=>by
  unfold bP;rcases List.mem_cons.mp h with rfl|h
  ·lia
  ·have:=ir h;lia
theorem nq(t:Tm):depth t=1+bP (inner t):=by
 cases t with
 |call w ts=>rw[depth];rfl
 |_=>rw[depth];show 1=1+bP [];rw[bP]
variable{t u:Tm}
theorem gI(h:u∈inner t):depth u+1<=depth t:=by rw[nq t];have:=ir h;lia
theorem kj(t:Tm):1<=depth t:=by rw[nq];lia
theorem eQ:∀(ts:List Tm)(acc:List Pr),cN acc ts=ts.foldl (λa t=>DL a (named t)) acc
 |[],acc=>by unfold cN;rfl
 |t::ts,acc=>by unfold cN;rw[eQ ts,aed]
noncomputable def yy:Tm->Bool
 |.val _ _=>true
 |_=>false
theorem vB(h:yy t=false):named t=(inner t).foldl (λa t=>DL a (named t)) []:=by
 cases t with
 |call w ts=>rw[named,eQ];rfl
 |val k z=>cases h
 |_=>rw[named];rfl
def lX{acc:List Pr}(p:Pr)(h:acc.Nodup):(dv acc p).Nodup:=by
 unfold dv;split
 ·exact h
 ·rename_i hp;exact List.nodup_append.mpr ⟨h,List.nodup_cons.mpr ⟨by simp,acw⟩,λa ha b hb=>by
   rw[acN]at hb;subst hb;rintro rfl;exact hp ha⟩
theorem jr:∀{ps acc:List Pr},acc.Nodup->(DL acc ps).Nodup
 |[],_,h=>h
 |p::ps,acc,h=>jr (ps:=ps) (lX p h)
theorem fE:∀(ts:List Tm){acc:List Pr},acc.Nodup->(cN acc ts).Nodup
 |[],_,h=>by unfold cN;exact h
 |t::ts,acc,h=>by unfold cN;exact fE ts (jr h)
theorem lh(t:Tm):(named t).Nodup:=by
 cases t with
 |call w ts=>rw[named];exact fE ts acw
 |val k z=>rw[named];exact List.nodup_cons.mpr ⟨by simp,acw⟩
 |_=>rw[named];exact acw
theorem hI:∀{ps acc:List Pr},ps.Nodup->DL acc ps=acc++ps.filter λp=>!decide (p∈acc)
 |[],acc,_=>by simp[DL]
 |p::ps,acc,h=>by
  obtain⟨h1,h2⟩:=List.nodup_cons.mp h;show DL (dv acc p) ps=_;rw[hI h2];by_cases hp:p∈acc
  ·have e:dv acc p=acc:=by unfold dv;rw[aaY hp]
   rw[e,abX (by simp[hp])]
  ·have e:dv acc p=acc++[p]:=by unfold dv;rw[aaR hp]
   rw[e,abQ (by simp[hp]),abr];congr 1;rw[aeB];congr 1;refine List.filter_congr λq hq=>?_;have:q≠p:=λz=>h1 (z▸hq);simp[this]
def d_(H H':Hp):Prop:=∀b xs,H b=some (.tup xs)->H' b=some (.tup xs)
variable{H H':Hp}
def am(e:a_ H H'):d_ H H':=λb xs h=>e b _ h
def d_.refl(H:Hp):d_ H H:=λ_ _ h=>h
def d_.trans{H1 H2:Hp}(a:d_ H H1)(b:d_ H1 H2):d_ H H2:=λc xs h=>b c xs (a c xs h)
def aJ{r:Addr}{xs ys:List V}(h:H r=some (.lst xs)):d_ H (upd H r (.lst ys)):=λb zs q=>by rw[al (dZ q h (λz=>nomatch z))];exact q
mutual
def g9(H:Hp):Tm->V->Prop
 |.num n,v=>∃a,v=.ref a/\H a=some (.tup [.str "num",.int n])
 |.text z,v=>∃a,v=.ref a/\H a=some (.tup [.str "text",.str z])
 |.row,v=>∃a,v=.ref a/\H a=some (.tup [.str "row"])
 |.mark,v=>∃a,v=.ref a/\H a=some (.tup [.str "mark"])
 |.val k z,v=>∃a,v=.ref a/\H a=some (.tup [.str "of",.int k,.str z])
 |.call w ts,v=>∃a b vs,v=.ref a/\H a=some (.tup [.str "call",.str w,.ref b])/\H b=some (.tup vs)/\vs.length<=1000/\i7 H ts vs
def i7(H:Hp):List Tm->List V->Prop
 |[],vs=>vs=[]
 |t::ts,vs=>∃v r,vs=v::r/\g9 H t v/\i7 H ts r
end
mutual
theorem g9.same{H H':Hp}(e:d_ H H'):∀(t:Tm){v:V},g9 H t v->g9 H' t v
 |.num n,v,h=>by unfold g9 at h⊢;obtain⟨a,x,y⟩:=h;exact⟨a,x,e _ _ y⟩
 |.text z,v,h=>by unfold g9 at h⊢;obtain⟨a,x,y⟩:=h;exact⟨a,x,e _ _ y⟩
 |.row,v,h=>by unfold g9 at h⊢;obtain⟨a,x,y⟩:=h;exact⟨a,x,e _ _ y⟩
 |.mark,v,h=>by unfold g9 at h⊢;obtain⟨a,x,y⟩:=h;exact⟨a,x,e _ _ y⟩
 |.val k z,v,h=>by unfold g9 at h⊢;obtain⟨a,x,y⟩:=h;exact⟨a,x,e _ _ y⟩
 |.call w ts,v,h=>by unfold g9 at h⊢;obtain⟨a,b,vs,x,y,z,n,q⟩:=h;exact⟨a,b,vs,x,e _ _ y,e _ _ z,n,i7.same e ts q⟩
theorem i7.same{H H':Hp}(e:d_ H H'):∀(ts:List Tm){vs:List V},i7 H ts vs->i7 H' ts vs
 |[],vs,h=>by unfold i7 at h⊢;exact h
 |t::ts,vs,h=>by unfold i7 at h⊢;obtain⟨v,r,x,y,z⟩:=h;exact⟨v,r,x,g9.same e t y,i7.same e ts z⟩
end
theorem i7.len{H:Hp}:∀{ts:List Tm}{vs:List V},i7 H ts vs->ts.length=vs.length
 |[],vs,h=>by unfold i7 at h;subst h;rfl
 |t::ts,vs,h=>by unfold i7 at h;obtain⟨v,r,rfl,_,z⟩:=h;rw[aaM,aaM,i7.len z]
theorem i7.get{H:Hp}:∀{ts:List Tm}{vs:List V}{i:Nat}{v:V},i7 H ts vs->vs[i]?=some v->∃t,ts[i]?=some t/\g9 H t v
 |[],vs,i,v,h,e=>by unfold i7 at h;subst h;simp at e
 |t::ts,vs,0,v,h,e=>by
  unfold i7 at h;obtain⟨u,r,rfl,y,z⟩:=h;simp at e;subst e;exact⟨t,rfl,y⟩
 |t::ts,vs,i+1,v,h,e=>by unfold i7 at h;obtain⟨u,r,rfl,y,z⟩:=h;obtain⟨x,hx,q⟩:=i7.get (i:=i) z (by simpa using e);exact⟨x,by simpa using hx,q⟩
def HL(H:Hp)(p:Pr)(v:V):Prop:=∃a,v=.ref a/\H a=some (.tup [.int p.1,.str p.2])
def v8(H:Hp):List Pr->List V->Prop
 |[],vs=>vs=[]
 |p::ps,vs=>∃v r,vs=v::r/\HL H p v/\v8 H ps r
variable{p:Pr}{v:V}
def HL.same(e:d_ H H')(h:HL H p v):HL H' p v:=by obtain⟨a,x,y⟩:=h;exact⟨a,x,e _ _ y⟩
theorem v8.same{H H':Hp}(e:d_ H H'):∀{ps:List Pr}{vs:List V},v8 H ps vs->v8 H' ps vs
 |[],_,h=>h
 |_::_,_,⟨v,r,x,y,z⟩=>⟨v,r,x,y.same e,v8.same e z⟩
theorem v8.len{H:Hp}:∀{ps:List Pr}{vs:List V},v8 H ps vs->ps.length=vs.length
 |[],vs,h=>by cases h;rfl
 |p::ps,vs,⟨v,r,x,_,z⟩=>by subst x;rw[aaM,aaM,v8.len z]
theorem v8.get{H:Hp}:∀{ps:List Pr}{vs:List V}{i:Nat}{v:V},v8 H ps vs->vs[i]?=some v->∃p,ps[i]?=some p/\HL H p v
 |[],vs,i,v,h,e=>by cases h;simp at e
 |p::ps,vs,0,v,⟨u,r,x,y,z⟩,e=>by subst x;simp at e;subst e;exact⟨p,rfl,y⟩
 |p::ps,vs,i+1,v,⟨u,r,x,y,z⟩,e=>by subst x;obtain⟨q,hq,w⟩:=v8.get (i:=i) z (by simpa using e);exact⟨q,by simpa using hq,w⟩
theorem v8.app{H:Hp}:∀{ps qs:List Pr}{vs us:List V},v8 H ps vs->v8 H qs us->v8 H (ps++qs) (vs++us)
 |[],_,_,_,h,g=>by cases h;exact g
 |p::ps,qs,_,us,⟨v,r,x,y,z⟩,g=>by subst x;exact⟨v,r++us,rfl,y,v8.app z g⟩
def v8.one(h:HL H p v):v8 H [p] [v]:=⟨v,[],rfl,h,rfl⟩
theorem kH:∀(ps acc:List Pr),(DL acc ps).length<=acc.length+ps.length
 |[],acc=>by show acc.length<=acc.length+0;lia
 |p::ps,acc=>by
  have h1:=kH ps (dv acc p);have h2:(dv acc p).length<=acc.length+1:=by
   unfold dv;split
   ·lia
   ·rw[aaF];simp
  show(DL (dv acc p) ps).length<=_;rw[aaM];lia
mutual
theorem jI:∀t:Tm,1<=bn t
 |.call w ts=>by rw[bn];have:=eN ts;lia
 |.num _=>by rw[bn];lia
 |.text _=>by rw[bn];lia
 |.row=>by rw[bn];lia
 |.mark=>by rw[bn];lia
 |.val _ _=>by rw[bn];lia
theorem eN:∀ts:List Tm,0<=bd ts
 |[]=>by rw[bd];lia
 |t::ts=>by rw[bd];have h1:=jI t;have h2:=eN ts;lia
end
mutual
theorem dG:∀t:Tm,((named t).length:Int)<=bn t
 |.call w ts=>by
  rw[bn,named];have:=fh ts [];simp at this;lia
 |.num _=>by rw[bn,named];simp
 |.text _=>by rw[bn,named];simp
 |.row=>by rw[bn,named];simp
 |.mark=>by rw[bn,named];simp
 |.val _ _=>by rw[bn,named];simp
theorem fh:∀(ts:List Tm)(acc:List Pr),((cN acc ts).length:Int)<=acc.length+bd ts
 |[],acc=>by rw[cN,bd];lia
 |t::ts,acc=>by rw[cN,bd];have h1:=dG t;have h2:=fh ts (DL acc (named t));have h3:=kH (named t) acc;lia
end
theorem ia:∀{ts:List Tm}{t:Tm},t∈ts->bn t<=bd ts
 |x::ts,t,h=>by
  rw[bd];have h1:=jI x;have h2:=eN ts;rcases List.mem_cons.mp h with rfl|h
  ·lia
  ·have:=ia h;lia
theorem ib:∀(ts us:List Tm),bd (ts++us)=bd ts+bd us
 |[],us=>by rw[bd];simp
 |t::ts,us=>by rw[abZ,bd,bd,ib ts us];lia
theorem gu(h:u∈inner t):bn u<=bn t:=by have h1:=ia h;have h2:=mI t;rw[<-eO]at h2;lia
theorem ng(t:Tm)(i:Nat):((((inner t).take i).foldl (λa u=>DL a (named u)) []).length:Int)+1<=bn t:=by rw[<-eQ];have h1:=fh ((inner t).take i) [];have h2:=mI t;rw[<-eO]at h2;have h3:=ib ((inner t).take i) ((inner t).drop i);rw[ab0]at h3;have h4:=eN ((inner t).drop i);simp at h1;lia
noncomputable def He(p:Pr):Da:=.tup [.fl (.int p.1),.fl (.str p.2)]
def yx{K:W.Frag}(h:HL H p v):w9 K H (He p) v:=by obtain⟨a,rfl,e⟩:=h;unfold He w9;exact⟨a,_,rfl,b9.of e,eR (sR _) (eR (yw _) dj)⟩
theorem sQ{K:W.Frag}{H:Hp}:∀{ps:List Pr}{vs:List V},v8 H ps vs->m5 K H (ps.map He) vs
 |[],_,h=>by cases h;exact dj
 |_::_,_,⟨v,r,x,y,z⟩=>by subst x;exact eR (yx y) (sQ z)
theorem yS:∀ps:List Pr,bv (ps.map He)<=1
 |[]=>by rw[acR];unfold bv;lia
 |p::ps=>by
  rw[aa7];unfold bv;have:=yS ps;have:gX (He p)=1:=by unfold He gX bv bv bv gX;rfl
  lia
def Ce(p q:Pr):C9 (He p) (He q)=decide (p=q):=by
 obtain⟨a,b⟩:=p;obtain⟨c,d⟩:=q;have e:C9 (He (a,b)) (He (c,d))=(Mv (.int a) (.int c)&&(Mv (.str b) (.str d)&&true)):=by unfold He C9 cQ cQ cQ C9;rfl
 rw[e];by_cases h1:a=c
 ·subst h1;rw[jd (x:=V.int a) rfl];by_cases h2:b=d
  ·subst h2;rw[jd (x:=V.str b) rfl];simp
  ·have:Mv (V.str b) (V.str d)=false:=by simp[Mv,h2]
   rw[this];simp[h2]
 ·have:Mv (V.int a) (V.int c)=false:=by simp[Mv,h1]
  rw[this];simp[h1]
theorem wb(p:Pr):∀ps:List Pr,((ps.map He).any λe=>C9 e (He p))=decide (p∈ps)
 |[]=>by simp
 |q::ps=>by
  rw[aa7,acK,wb p ps,Ce];by_cases h:q=p
  ·subst h;simp
  ·have:p≠q:=λz=>h z.symm;simp[h,this]
end TM
namespace L2
open PySem PySem.Spec PyProof.Rows
section
variable{X:Cx}{o e value a:Expr}{f:Str}{pos pos' D7:Pos}{ta tv:TE}
def Ar{j:Nat}(ha:QE X a ta):QT X (.Compare a [.Is] [.Constant .none j pos'] pos) (tB (Cr ta)):=⟨Ay (AD ha.h)⟩
end
section
variable{X:Cx}{CX:Gq}{k:Nat}{f C:Addr}{fd:FuncData}{ps:List Str}{sp:Sp}{ds:List Value}{IM:List V}{E:XK}{x m:Str}{p pos apos:Pos}{e o:Expr}{es:List Expr}{ta:TE}{t:TA}
end
end L2
namespace TM
open PySem L2
open PySem.W PySem.W.KIN PySem.NumText in
def yQ(m:Nat):1<=(Nat.toDigits 10 m).length:=toDigits_len_ge 10 m
def jk(a b:Str):(a++b).cps.toList=a.cps.toList++b.cps.toList:=by show(a.cps++b.cps).toList=_;simp
def dh(a:Str):a.length=a.cps.toList.length:=by simp[Str.length]
noncomputable def mkS(l:List Nat):Str:=⟨l.toArray⟩
def lj(l:List Nat):(mkS l).cps.toList=l:=by simp[mkS]
def xB{a b:Str}(h:a.cps.toList=b.cps.toList):a=b:=by cases a with|mk x=>cases b with|mk y=>exact abk Str.mk (Array.toList_inj.mp h)
noncomputable def sE(c:Nat):Bool:=decide (97<=c)&&decide (c<=122)
def vo(m:Nat):(Str.ofString (toString ((m:Nat):Int))).cps.toList=(Nat.toDigits 10 m).map Char.toNat:=PySem.W.KIN.signs_num m
theorem vU:∀(k m:Nat),m<10 ^ (k+1)->(Nat.toDigits 10 m).length<=k+1:=by
 intro k;induction k with
 |zero=>
  intro m h;rw[adl (by simpa using h)];exact aaI _
 |succ k ih=>
  intro m h;by_cases XC:m<10
  ·rw[adl XC];simp
  ·have hm:m%10<10:=Nat.mod_lt m (by decide);have t:Nat.toDigits 10 (m / 10)++Nat.toDigits 10 (m%10)=Nat.toDigits 10 (10*(m / 10)+m%10):=Nat.toDigits_append_toDigits (by decide) (by lia) hm;rw[Nat.div_add_mod]at t;rw[<-t,aaF,adl hm];have:=ih (m / 10) (by rw[Nat.pow_succ]at h;lia);simp only[aaM,acL];lia
def yP(m:Nat):Nat.toDigits 10 m≠[]:=λz=>by have h:=yQ m;rw[z]at h;exact absurd h (by decide)
theorem yk{n:Int}(h0:0<=n)(h1:n<1000000000000000000):(Str.ofString (toString n)).cps.toList≠[]/\(Str.ofString (toString n)).cps.toList.length<=18:=by obtain⟨m,rfl⟩:=abt h0;rw[vo];refine⟨λz=>yP m (List.map_eq_nil_iff.mp z),?_⟩;rw[aaG];exact vU 17 m (by lia)
end TM
namespace TM
open PySem L2
open PySem.Builtin.Str (strSub occurrences partsBetween)
end TM
namespace L2
open PySem PySem.Spec PyProof.Rows
open PySem.Builtin.Str (strSub occurrences)
section
variable{X:Cx}
end
section
variable{X:Cx}{tg:Expr}
end
variable{es:List Expr}{K:W.Frag}{X:Cx}
def kP{pos:Pos}{k:Nat}{t:IQ}{n:Nat}(hK:X.K=K)(hc:X.calm=true)(h:Ro X es t)(hn:autoParam ((assignEach es X.env).length=n) θ)(Ec:autoParam ((assignEach es X.env).findIdx? (·.1)=none) θ):QG X (.Tuple es k pos) (Mt K n t):=by subst hK;exact fA hc h hn Ec
theorem Ax{o e:Expr}{to:TE}{t:TA}{name:Str}{apos l_:Pos}{T id:String}{r:V->List V->Hp->VK->Prop}(hK:X.K=K)(pa:PySem.PlainAttrs T)(slot:PySem.Slot T name id)(L4:PySem.typeOf (Value.builtin id)=Pure.pure (Value.type "method_descriptor"))(hm:Rr X id r)(ho:QE X o to)(ha:QA X (e::es) t)(DV:autoParam (PySem.attributeBase o name X.env (PySem.eval o X.env)=PySem.eval o X.env) θ)(JL:autoParam ((((List.all (PySem.backTo l_ (PySem.starEach (e::es) X.env)) λ(x:Bool×PySem.Sem Value)=>!Prod.fst x)&&List.all (PySem.backToKw l_ (PySem.keywordEach [] X.env)) λ(x:Option Str×PySem.Sem Value)=>Option.isSome (Prod.fst x))&&Decidable.decide ((List.length (e::es)+List.length ([]:List Keyword)+if List.isEmpty ([]:List Keyword)=true then 0 else 1)<30))=true) θ)(DR:autoParam ((PySem.Pos.endLine apos == PySem.Pos.line l_)=true) θ)(hs:autoParam (PySem.starEach (e::es) X.env=(false,PySem.eval e X.env)::PySem.starEach es X.env) θ)(EC:autoParam ((List.any (PySem.backTo l_ (PySem.starEach es X.env)) λ(x:Bool×PySem.Sem Value)=>Prod.fst x)=false) θ):QE X (PySem.Expr.Call (PySem.Expr.Attribute o name apos) (e::es) [] l_) (Yx K T r to t):=by subst hK;exact eL pa slot L4 hm ho ha DV JL DR hs EC
end L2
namespace L2
open PySem PySem.Spec PyProof.Rows
variable{a b:Addr}
section
variable{prog:Program}{w:World}{K N:Type}[DecidableEq K][DecidableEq N](κ:HeapKind prog w K)(ν:KeyKind prog w N)
def IsPair(h:Heap)(k:K×N)(a:Addr):Prop:=∃o b v n,h.get? a=some o/\o.cls=.type "tuple"/\o.data=.seq #[.ref b,v] n/\κ.is h k.1 b/\ν.is k.2 v=true
noncomputable def iN(k:K×N):Int:=reduceHash (Builtin.Tuple.tupleHashOf [κ.hash k.1,ν.hash k.2])
variable{κ ν}
def IsPair.typeIs{s:Shared}{k:K×N}(x:IsPair κ ν s.heap k a):s.TypeIs (.ref a) "tuple":=let⟨o,_,_,_,ho,hc,_⟩:=x;⟨o,ho,hc⟩
theorem IsPair.inj{h:Heap}{a:Addr}{x y:K×N}(hx:IsPair κ ν h x a)(hy:IsPair κ ν h y a):x=y:=by obtain⟨o,b,v,n,e1,_,d1,k1,n1⟩:=hx;obtain⟨o',b',v',n',e2,_,d2,k2,n2⟩:=hy;rw[e1]at e2;cases e2;rw[d1]at d2;cases d2;exact Prod.ext (κ.inj k1 k2) (ν.inj _ _ _ n1 n2)
theorem IsPair.keeps{h h':Heap}{k:K×N}{a d:Addr}{o:Obj}{es ep}(x:IsPair κ ν h k a)(ho:h.get? d=some o)(hd:o.data=.dict es ep)(hs:Heap.SameBut d h h'):IsPair κ ν h' k a:=by obtain⟨o',b,v,n,e1,c1,d1,k1,n1⟩:=x;refine⟨o',b,v,n,(hs.2 a λz=>?_).trans e1,c1,d1,κ.keeps k1 ho hd hs,n1⟩;rw[z,ho]at e1;cases e1;rw[hd]at d1;cases d1
variable{A:Around}{E:Value->Shared->Prop}{s:Shared}
theorem kR{k:K×N}{Q:Int->Shared->Prop}(hu:A.units+64<cLine)(hr:∀A':Around,A'.units<=A.units+16->κ.room A')(x:IsPair κ ν s.heap k a)(q:Q (iN κ ν k) { s with toks:=s.toks+(κ.draws k.1+2) }):
 wpAny (model prog w) A (pyHash (.ref a)) Q E s:=by
 have ty:=x.typeIs;obtain⟨o,b,v,n,e1,_,d1,k1,n1⟩:=x;unfold pyHash;first|unfold pyHashByItsType|skip
 first|refine aaC (wpAny_cRoomFor_or (.inr (by lia)) ?_)|skip
 refine aaC (abY ty F.slot_tuple_hash.lookup ?_);show wpAny _ _ (if(some (Value.builtin "tuple.__hash__") == some Value.none)=true then _ else _) Q E s;rw[aaR (by rw[beq_builtin_none];exact aaQ)];refine aaC (abY ty F.slot_tuple_hash.lookup ?_);show wpAny _ _ (callSpecialIfBoundUnlessNone? (.ref a) "__hash__" _ >>= _) Q E s;refine aaC (wpAny_callSpecialIfBoundUnlessNone?_slot ty F.slot_tuple_hash (abK F.slot_tuple_hash ty F.entry_tuple_hash ?_ (F.args_tuple_hash_1 _)));show wpAny _ _ (Builtin.Tuple.tupleItemsOf (.ref a) >>= _) _ _ s;refine aaC (ad7 e1 d1 (aaC ?_));rw[<-adT];show wpAny _ _ (forIn [Value.ref b,v] _ _) _ _ _;rw[ab4];refine aaC (aaC (κ.pyHash (hr _ (by show A.in1.units<=_;first|exact acX _ _|(unfold Around.in1;dsimp only;lia))) k1 (aaE ?_)));dsimp only;rw[ab4];refine aaC (aaC (ν.pyHash n1 (aaE ?_)));dsimp only;rw[aeg];refine aaE ?_;show wpAny _ _ (retInt (Builtin.Tuple.tupleHashOf [κ.hash k.1,ν.hash k.2])) _ _ _;refine wpAny_ret_mkInt ?_;unfold iN reduceHash at q;generalize Builtin.Tuple.tupleHashOf [κ.hash k.1,ν.hash k.2]=z at q⊢;show wpAny _ _ (if(decide (-(2:Int) ^ 63<=z)&&decide (z<2 ^ 63))=true then _ else _) Q E _;split at q
 ·rename_i hz;rw[aaY hz];exact aaE (by simpa [Nat.add_assoc]using q)
 ·rename_i hz;rw[aaR hz];exact aaC (acG (aaE (by simpa [Nat.add_assoc]using q)))
def xW{x y:K×N}{P:Fin->Shared->Prop}(hr:κ.room A)(hx:IsPair κ ν s.heap x a)(hy:IsPair κ ν s.heap y b)(q:P (.done (.ret (.bool (decide (x=y))))) s):
 wpAny (model prog w) A (Builtin.«tuple.__eq__» ⟨[.ref a,.ref b],[]⟩) P E s:=by
 have ty:=hy.typeIs;obtain⟨oa,ba,va,na,e1,_,d1,k1,n1⟩:=hx;obtain⟨ob,bb,vb,nb,e2,_,d2,k2,n2⟩:=hy;show wpAny _ _ (isInstance (.ref b) (.type "tuple") >>= _) _ _ s;refine aaC (acM ty adO ?_);simp only[aco,abD,abV];refine aaC (ad7 e1 d1 (aaC (ad7 e2 d2 (aaC ?_))));show wpAny _ _ (forIn [(Value.ref ba,Value.ref bb),(va,vb)] _ _) _ _ _;have out:∀c:Bool,c=decide (x=y)->P (.done (.ret (.bool c))) s:=λc e=>by rw[e];exact q
 rw[ab4];refine aaC (aaC (κ.eqBool hr k1 k2 ?_));by_cases h1:x.1=y.1
 ·rw[abb h1];simp only[aco,abD,abV];refine aaE ?_;dsimp only;rw[ab4];refine aaC (aaC (ν.eqBool n1 n2 ?_));by_cases h2:x.2=y.2
  ·rw[abb h2];simp only[aco,abD,abV];refine aaE ?_;dsimp only;rw[aeg];exact aaE (aaE (out true (abb (Prod.ext h1 h2)).symm))
  ·rw[aaW h2];simp only[Bool.not_false,ac6];exact aaC (aaE (aaE (aaE (aaE (out false (aaW λz=>h2 (by rw[z])).symm)))))
 ·rw[aaW h1];simp only[Bool.not_false,ac6];exact aaC (aaE (aaE (aaE (aaE (out false (aaW λz=>h1 (by rw[z])).symm)))))
theorem lN{x y:K×N}{Q:Bool->Shared->Prop}(hu:A.units+64<cLine)(hr:∀A':Around,A'.units<=A.units+16->κ.room A')(hx:IsPair κ ν s.heap x a)(hy:IsPair κ ν s.heap y b)(q:Q (decide (x=y)) s):
 wpAny (model prog w) A (eqBool (.ref a) (.ref b)) Q E s:=by
 unfold eqBool;try with_reducible refine abu ?_
 show wpAny _ _ (if(Value.ref a == Value.ref b)=true then _ else _) Q E s;by_cases Lp:(Value.ref a == Value.ref b)=true
 ·rw[aaY Lp];have e:=eq_of_beq Lp;cases e;have e:=hx.inj hy;cases e;exact aaC (acG (aaE (by simpa using q)))
 ·rw[aaR Lp];exact aaC (wpAny_richCompare_same_room (op:=.Eq) hx.typeIs hy.typeIs F.slot_tuple_eq (abK F.slot_tuple_eq hx.typeIs F.entry_tuple_eq (xW (hr _ (by show A.in1.units<=_;first|exact acX _ _|(unfold Around.in1;dsimp only;lia))) hx hy ⟨_,rfl,(λe=>nomatch e),abS q⟩) (F.args_tuple_eq_2 _ _)) (by lia))
end
variable{K:Type}
section
variable{prog:Program}{w:World}{A:Around}{E:Value->Shared->Prop}{s:Shared}
variable{Q:Bool->Shared->Prop}
def rE[DecidableEq K]{knd:KeyKind prog w K}{ks:List K}(m:Nat)(x:IsTupleKey knd s.heap ks a)(q:Q true s):wpAny (model prog w) A (eqIsQuiet (m+1) (.ref a)) Q E s:=by
 have ty:=x.typeIs;obtain⟨o,items,n,e1,_,d1,all⟩:=x;unfold eqIsQuiet;refine aaC (abY ty F.slot_tuple_eq.lookup ?_);show wpAny _ _ (isInstance (.ref a) (.type "tuple") >>= _) _ _ s;refine aaC (acM ty adO ?_);simp only[aco,abD,abV];refine aaC (acm e1 d1 (aaC ?_));show wpAny _ _ (forIn items _ _) _ _ s;rw[<-adT];refine wpAny_forIn_list _ (λrest r s'=>r.1=none/\s'=s/\∀v∈rest,carriedByValue v=true) _ (λv rest r s'=>?_) (λr s'=>?_) _ _ ⟨rfl,rfl,all.byValue⟩
 ·rintro⟨_,rfl,h⟩;rw[eqIsQuiet_byValue _ (h v abd)];refine aaC (aaE ?_);simp only[aco,abD,abV];exact aaE ⟨rfl,rfl,λu hu=>h u (aa9 _ hu)⟩
 ·rintro⟨hr,rfl,_⟩;obtain⟨r1,r2⟩:=r;cases hr;exact aaE q
def pw{N:Type}[DecidableEq K][DecidableEq N]{knd:KeyKind prog w K}{ν:KeyKind prog w N}{k:List K×N}(x:IsPair (tupleKind knd) ν s.heap k a)(q:Q true s):wpAny (model prog w) A (eqIsQuiet 8 (.ref a)) Q E s:=by have ty:=x.typeIs;obtain⟨o,b,v,n,e1,_,d1,k1,n1⟩:=x;have k1:IsTupleKey knd s.heap k.1 b:=k1;unfold eqIsQuiet;refine aaC (abY ty F.slot_tuple_eq.lookup ?_);show wpAny _ _ (isInstance (.ref a) (.type "tuple") >>= _) _ _ s;refine aaC (acM ty adO ?_);simp only[aco,abD,abV];refine aaC (acm e1 d1 (aaC ?_));show wpAny _ _ (forIn (#[Value.ref b,v]:Array Value) _ _) _ _ s;rw[<-adT];show wpAny _ _ (forIn [Value.ref b,v] _ _) _ _ _;rw[ab4];refine aaC (aaC (rE 6 k1 ?_));simp only[aco,abD,abV];refine aaE ?_;dsimp only;rw[ab4];refine aaC (aaC ?_);rw[eqIsQuiet_byValue _ (ν.byValue _ _ n1)];refine aaE ?_;simp only[aco,abD,abV];refine aaE ?_;dsimp only;rw[aeg];exact aaE (aaE q)
noncomputable def cA(prog:Program)(w:World):HeapKind prog w (List Key×Key) where
 is:=IsPair (tupleKind (aY prog w)) (aY prog w)
 hash:=iN (tupleKind (aY prog w)) (aY prog w)
 draws:=λk=>k.1.length+1+2
 room:=λA=>A.units+64<cLine
 inj:=λhx hy=>hx.inj hy
 keeps:=λx ho hd hs=>x.keeps ho hd hs
 pyHash:=λhu hk h=>kR hu (λA' hA=>show A'.units<cLine by lia) hk h
 eqBool:=λhu hx hy h=>lN hu (λA' hA=>show A'.units<cLine by lia) hx hy h
 quiet:=λhk h=>pw hk h
end
variable{pos:Pos}{o i:Expr}{td ty:TE}
section
variable{X:Cx}
def rK(hu:X.A.units+1<cLine)(ho:QE X o td)(hi:QE X i ty)(hs:Bj i:=by intro _ _;rfl):QE X (.Subscript o i pos) (zK td ty):=⟨xV hu ho.h hi.h hs⟩
def υ:Lean.Syntax:=rK._auto_1
end
abbrev A4:=List Key×Key
def w5(H:Hp)(k:A4)(a:Addr):Prop:=∃b,H a=some (.tup [.ref b,kV k.2])/\H b=some (.tup (k.1.map kV))
variable{H:Hp}
def w5.same{H':Hp}(e:∀b ys,H b=some (.tup ys)->H' b=some (.tup ys)){k:A4}(h:w5 H k a):w5 H' k a:=by obtain⟨b,h1,h2⟩:=h;exact⟨b,e _ _ h1,e _ _ h2⟩
variable{P:Program}{w:World}{h:Heap}
theorem dR{k:A4}(ok:A8 P w H h)(e:w5 H k a):(cA P w).is h k a:=by
 obtain⟨b,h1,h2⟩:=e;obtain⟨_,g8,r,o,e1,e2,n,e3⟩:=(show i9 P w H h a (.tup [.ref b,kV k.2])from ok a _ h1)
 cases r with
 |cons r1 r=>
  cases r with
  |cons r2 r=>
   cases r;cases r1;exact⟨o,b,_,n,e1,e2,e3,jV ok h2,lF r2⟩
noncomputable def fV(xs:List (A4×Addr×V))(k:A4):Option V:=(xs.find? λx=>decide (x.1=k)).map (·.2.2)
noncomputable def kS(xs:List (A4×Addr×V))(k:A4)(a:Addr)(v:V):List (A4×Addr×V):=if(fV xs k).isSome then xs.map (λx=>if x.1=k then(x.1,x.2.1,v)else x)else xs++[(k,a,v)]
theorem uO(xs:List (A4×Addr×V))(k:A4)(a:Addr)(v:V):(kS xs k a v).length<=xs.length+1:=by
 unfold kS;split
 ·rw[aaG];lia
 ·rw[aaF];exact aaI _
variable{xs:List (A4×Addr×V)}
def uP{k:A4}{v:V}(h:∀x∈xs,w5 H x.1 x.2.1)(hk:w5 H k a):∀x∈kS xs k a v,w5 H x.1 x.2.1:=λx hx=>by
 unfold kS at hx;split at hx
 ·obtain⟨y,hy,rfl⟩:=List.mem_map.mp hx;split
  ·exact h y hy
  ·exact h y hy
 ·rcases List.mem_append.mp hx with g|g
  ·exact h x g
  ·rw[List.mem_singleton.mp g];exact hk
abbrev SV:List (A4×Addr×V)->List (A4×Addr×Value)->Prop:=Paired λp q=>p.1=q.1/\p.2.1=q.2.1/\RelV p.2.2 q.2.2
variable{us:List (A4×Addr×Value)}
theorem SV.val(r:SV xs us)(k:A4):DA (fV xs k) ((atKey us k).map (·.2)):=by
 induction r with
 |nil=>exact True.intro
 |@cons p q ps qs h t ih=>
  obtain⟨h1,_,h3⟩:=h;unfold fV atKey at ih⊢;rw[abE,abE,<-h1];by_cases e:p.1=k
  ·rw[abb e];exact h3
  ·rw[aaW e];exact ih
def SV.put(r:SV xs us)(k:A4){v:V}{u:Value}(rv:RelV v u):SV (kS xs k a v) (storedH us k a u):=by
 have e:=(r.val k).p7;rw[abW]at e;unfold kS storedH;rw[e];split
 ·clear e;rename_i hh;clear hh;induction r with
  |nil=>exact .nil
  |@cons p q ps qs h t ih=>
   obtain⟨h1,h2,h3⟩:=h;refine .cons ?_ ih;unfold putAt;rw[<-h1];by_cases z:p.1=k
   ·simp only[z,ac6];exact⟨trivial,h2,rv⟩
   ·simp only[z,abV];exact⟨h1,h2,h3⟩
 ·exact Paired.snoc r ⟨rfl,rfl,rv⟩
noncomputable def GC(P:Program)(w:World)(a:Addr)(xs:List (A4×Addr×V)):HO:=.ext λh=>xs.length<=sizeLine/\(a == sysModules)=false/\∃us,SV xs us/\∃o es ep,h.get? a=some o/\o.ExactDict/\o.data=.dict es ep/\es.toList=us.map (entryOfKey (cA P w))/\(us.map (·.1)).Nodup
def DS(P:Program)(w:World)(H:Hp)(a:Addr)(xs:List (A4×Addr×V)):Prop:=H a=some (GC P w a xs)/\∀x∈xs,w5 H x.1 x.2.1
theorem DS.same{P:Program}{w:World}{H H':Hp}{a:Addr}{xs:List (A4×Addr×V)}(s:a_ H H')(h:DS P w H a xs):DS P w H' a xs:=⟨s _ _ h.1,λx hx=>(h.2 x hx).same λb ys e=>s _ _ e⟩
def pT(ok:A8 P w H h)(d:DS P w H a xs):xs.length<=sizeLine/\(a == sysModules)=false/\∃us,SV xs us/\h.DictOfH (cA P w) a us:=by
 obtain⟨⟨z,y,us,r,o,es,ep,e1,e2,e3,e4,e5⟩,_⟩:=(show i9 P w H h a (GC P w a xs)from ok a _ d.1)
 refine⟨z,y,us,r,o,es,ep,e1,e2,e3,e4,?_,e5⟩;have all:∀{l:List (A4×Addr×V)}{m:List (A4×Addr×Value)},SV l m->(∀x∈l,w5 H x.1 x.2.1)->∀x∈m,(cA P w).is h x.1 x.2.1:=by
  intro l m q;induction q with
  |nil=>intro _ x hx;exact nomatch hx
  |@cons p q ps qs hq t ih=>
   intro hk x hx;rcases List.mem_cons.mp hx with e|hx
   ·subst e;rw[<-hq.1,<-hq.2.1];exact dR ok (hk p abd)
   ·exact ih (λx hx=>hk x (aa9 _ hx)) x hx
 exact all r d.2
variable{Q:Value->Shared->Prop}
section
variable{X:Cx}{pins:List (Addr×Obj)}{σ:St}{H:Hp}{s:Shared}{a b:Addr}{v:V}{r:Value}{xs:List (A4×Addr×V)}{k:A4}{A:Around}{E:Value->Shared->Prop}
theorem rf(hu:A.units+80<cLine)(I:Inv X pins σ H s)(d:DS X.prog X.w H a xs)(ks:w5 H k b)(hv:fV xs k=some v)(h:∀w' s',Inv X pins σ H s'->RelV v w'->Q w' s'):
 wpAny (model X.prog X.w) A (getItem (.ref a) (.ref b)) Q E s:=by
 obtain⟨z,hd,us,rel,dd⟩:=pT I.i4 d;obtain⟨w',hw,Dk⟩:=DA.some_of (v:=v) (o:=(atKey us k).map (·.2)) (by rw[<-hv];exact rel.val k);obtain⟨p,hp,IG⟩:=Option.map_eq_some_iff.mp hw;refine ad8 (knd:=cA X.prog X.w) (show A.in1.units+64<cLine from by show A.units+_+64<cLine;lia) (dR I.i4 ks) dd hp ?_;rw[IG];exact h w' _ (I.tok _) Dk
theorem CP(hu:A.units+80<cLine)(I:Inv X pins σ H s)(d:DS X.prog X.w H a xs)(ks:w5 H k b)(h:∀s',Inv X pins σ H s'->Q (.bool (fV xs k).isSome) s'):
 wpAny (model X.prog X.w) A (compareOp .In (.ref b) (.ref a)) Q E s:=by
 obtain⟨z,hd,us,rel,dd⟩:=pT I.i4 d;refine wpAny_in_heap (knd:=cA X.prog X.w) (show A.in1.units+64<cLine from by show A.units+_+64<cLine;lia) (dR I.i4 ks) hd dd ?_;have q:=(rel.val k).p7;rw[abW]at q;rw[<-q];exact h _ (I.tok _)
theorem rc{Q:Unit->Shared->Prop}(hu:A.units+80<cLine)(I:Inv X pins σ H s)(d:DS X.prog X.w H a xs)(ks:w5 H k b)(l:xs.length<sizeLine)(rv:RelV v r)(h:∀s',Inv X pins σ (upd H a (GC X.prog X.w a (kS xs k b v))) s'->Q () s'):
 wpAny (model X.prog X.w) A (setItem (.ref a) (.ref b) r) Q E s:=by
 obtain⟨z,hd,us,rel,dd⟩:=pT I.i4 d;have hz:us.length<=sizeLine:=by rw[<-acz rel];exact z
 have hl:(kS xs k b v).length<=sizeLine:=by have:=uO xs k b v;lia
 refine wpAny_setItem_heap (hsz:=hz) (knd:=cA X.prog X.w) (show A.in1.units+64<cLine from by show A.units+_+64<cLine;lia) (dR I.i4 ks) dd λh' JV hs=>h _ ?_;obtain⟨q,es,ep,hq,h2,h3,h4,_,h5⟩:=JV;refine lT I (by rw[d.1];exact True.intro) hs ⟨q,hq⟩ ⟨⟨hl,hd,_,rel.put k rv,q,es,ep,hq,h2,h3,h4,h5⟩,⟨q,hq⟩,λg1 g2 ⟨y1,y2,Gu,y3,o',Mu,Qm,y4,y5⟩ st=>⟨y1,y2,Gu,y3,o',Mu,Qm,st _ y4,y5⟩⟩
def DS.put(d:DS P w H a xs)(ks:w5 H k b):DS P w (upd H a (GC P w a (kS xs k b v))) a (kS xs k b v):=by refine⟨aa,λx hx=>(uP d.2 ks x hx).same λc ys e=>?_⟩;rw[al (dZ e d.1 (λz=>nomatch z))];exact e
theorem xE(hu:A.units+80<cLine)(I:Inv X pins σ H s)(d:DS X.prog X.w H a xs)(ks:w5 H k b)(h:∀s',Inv X pins σ H s'->Q (.bool (!(fV xs k).isSome)) s'):
 wpAny (model X.prog X.w) A (compareOp .NotIn (.ref b) (.ref a)) Q E s:=by
 obtain⟨z,hd,us,rel,dd⟩:=pT I.i4 d;refine wpAny_notIn_heap (knd:=cA X.prog X.w) (show A.in1.units+64<cLine from by show A.units+_+64<cLine;lia) (dR I.i4 ks) hd dd ?_;have q:=(rel.val k).p7;rw[abW]at q;rw[<-q];exact h _ (I.tok _)
inductive CK(P:Program)(w:World)(x y:V)(H:Hp)(Q:VK):Prop
 |mk:∀a b xs k,x=.ref b->y=.ref a->DS P w H a xs->w5 H k b->Q (.bl (fV xs k).isSome) H->CK P w x y H Q
def wJ(hu:X.A.units+80<cLine):B8 X (compareOp .In) (CK X.prog X.w):=by intro pins s σ H x y v u Q I rx ry h;obtain⟨a,b,xs,k,rfl,rfl,d,ks,q⟩:=h;cases rx;cases ry;exact CP hu I d ks λs' I'=>⟨.bl _,H,I',rfl,q⟩
inductive uf(P:Program)(w:World)(x y:V)(H:Hp)(Q:VK):Prop
 |mk:∀a b xs k,x=.ref b->y=.ref a->DS P w H a xs->w5 H k b->Q (.bl (!(fV xs k).isSome)) H->uf P w x y H Q
def gv(hu:X.A.units+80<cLine):B8 X (compareOp .NotIn) (uf X.prog X.w):=by intro pins s σ H x y v u Q I rx ry h;obtain⟨a,b,xs,k,rfl,rfl,d,ks,q⟩:=h;cases rx;cases ry;exact xE hu I d ks λs' I'=>⟨.bl _,H,I',rfl,q⟩
def zI(P:Program)(w:World)(td ty:TE):TE:=λσ H Q=>td σ H λx H1=>ty σ H1 λy H2=>∃a b xs k v,x=.ref a/\y=.ref b/\DS P w H2 a xs/\w5 H2 k b/\fV xs k=some v/\Q v H2
def mE(hu:X.A.units+80<cLine)(ho:QE X o td)(hi:QE X i ty)(hs:autoParam (Bj i) υ):QE X (.Subscript o i pos) (zI X.prog X.w td ty):=⟨λpins s σ H Q I h=>by
 refine kJ PySem.F.slot_dict_getitem.lookup hs (j9 (ho.h pins s σ H _ I h) λu s1 ⟨x,H1,I1,rx,q1⟩=>j9 (hi.h pins s1 σ H1 _ I1 q1) λiv s2 ⟨y,H2,I2,ry,a,b,xs,k,v,ex,ey,d,ks,hv,q2⟩=>?_);subst ex ey;cases rx;cases ry;obtain⟨_,_,us,_,dd⟩:=pT I2.i4 d;exact⟨dd.typeIs,rf hu I2 d ks hv λw' s3 I3 Dk=>⟨v,H2,I3,Dk,q2⟩⟩⟩
def Ad(P:Program)(w:World)(td ty tv:TE):TS:=λD σ H=>tv σ H λv H1=>td σ H1 λx H2=>ty σ H2 λy H3=>∃a b xs k,x=.ref a/\y=.ref b/\DS P w H3 a xs/\w5 H3 k b/\xs.length<sizeLine/\D.nx σ (upd H3 a (GC P w a (kS xs k b v)))
def fM{value:Expr}{pos':Pos}{tv:TE}(hu:X.A.units+80<cLine)(ho:QE X o td)(hi:QE X i ty)(hv:QE X value tv)(hs:autoParam (swapsWith value (some (.Subscript o i pos')) pos.line X.env=pure false) θ):QS X (.Assign [.Subscript o i pos'] value pos) (Ad X.prog X.w td ty tv):=⟨λpins s σ H D I h=>by
 refine wpAny_Assign_Subscript (j9 (hv.h pins s σ H _ I h) λr s1 ⟨v,H1,I1,rv,q1⟩=>j9 (ho.h pins s1 σ H1 _ I1 q1) λu s2 ⟨x,H2,I2,rx,q2⟩=>j9 (hi.h pins s2 σ H2 _ I2 q2) λiv s3 ⟨y,H3,I3,ry,a,b,xs,k,ex,ey,d,ks,l,q3⟩=>?_) hs;subst ex ey;cases rx;cases ry;exact rc hu I3 d ks l rv λs4 I4=>⟨σ,_,I4,q3⟩⟩
def zG(P:Program)(w:World):TE:=λ_ H Q=>∀p,H p=none->Q (.ref p) (upd H p (GC P w p []))
def iI:QE X (.Dict [] [] pos) (zG X.prog X.w):=⟨λpins s σ H Q I h=>by
 refine wpAny_Dict_empty ⟨.ref s.heap.objs.size,_,I.laid (a:=s.heap.objs.size) (o:=GC X.prog X.w s.heap.objs.size []) (t':=s.toks) (λ_ _ q=>aaH _ q) (aaI _) ⟨⟨aa3 _,beq_eq_false_iff_ne.mpr (abF (aaU I.big)),[],.nil,_,#[],_,aaT _ rfl,?_,rfl,rfl,.nil⟩,⟨_,aaT _ rfl⟩,λg1 g2 ⟨y1,y2,Gu,y3,o',Mu,Qm,y4,y5⟩ st=>⟨y1,y2,Gu,y3,o',Mu,Qm,st _ y4,y5⟩⟩,rfl,h _ I.fresh⟩;first|exact⟨rfl,rfl⟩|(constructor<;>rfl)|(unfold Obj.ExactDict;simp)⟩
end
def DI(h:Heap)(d:Addr)(es:Array DictEntry)(ep:Nat):Prop:=∃o,h.get? d=some o/\o.ExactDict/\o.data=.dict es ep
variable{es:Array DictEntry}{d:Addr}{ep:Nat}
def DI.typeIs{s:Shared}(x:DI s.heap d es ep):s.TypeIs (.ref d) "dict":=let⟨o,e,c,_⟩:=x;⟨o,e,c.1⟩
def DI.to{h':Heap}(x:DI h d es ep)(k:∀o,h.get? d=some o->h'.get? d=some o):DI h' d es ep:=let⟨o,e,r⟩:=x;⟨o,k _ e,r⟩
section
variable{prog:Program}{w:World}{A:Around}{E:Value->Shared->Prop}{s:Shared}{d it:Addr}{es:Array DictEntry}{ep i:Nat}
def mB(ns:(d == sysModules)=false)(m:DI s.heap d es ep)(q:Q (.ref s.heap.objs.size) { s with heap:=s.heap.push { cls:=.type "dict_keyiterator",data:=.fields #[.ref d,.int 0 0,.int es.size 0,.int ep 0] } }):wpAny (model prog w) A (pyIter (.ref d)) Q E s:=by have ty:=m.typeIs;obtain⟨o,e1,_,e3⟩:=m;refine wpAny_pyIter_slot ty F.slot_dict_iter (abK F.slot_dict_iter ty F.entry_dict_iter ?_ (F.args_dict_iter_1 _));unfold Builtin.«dict.__iter__» Builtin.Dict.dictSlotNone;refine aaC (aaC (adN ty (aaE ?_)));show wpAny _ _ (Builtin.Dict.showsAll d >>= _) _ _ s;unfold Builtin.Dict.showsAll;rw[aaR (by rw[ns];exact aaQ)];exact aaC (aaE (aaC (adu e1 e3 (aaC (aeq e1 e3 (aaC (abx (aaE ⟨_,rfl, "dict_keyiterator",_,⟨_,aaT _ rfl,rfl⟩,F.slot_dict_keyiterator_next.lookup,by simpa [rawInt]using q⟩))))))))
variable{Q:Option Value->Shared->Prop}
theorem mz{e:DictEntry}(hi:s.heap.IsKeyIter it d i es.size ep)(m:DI s.heap d es ep)(hx:es[i]?=some e)(q:∀h',h'.IsKeyIter it d (i+1) es.size ep->Heap.SameBut it s.heap h'->Q (some e.key) { s with heap:=h' }):wpAny (model prog w) A (pyNext (.ref it)) Q E s:=by
 have ti:=hi.typeIs;obtain⟨o,e1,e2,e3⟩:=id hi;obtain⟨od,d1,d2,d3⟩:=m;have o9:=(Array.getElem?_eq_some_iff.mp hx).1;have hev:=(Array.getElem?_eq_some_iff.mp hx).2;have PM:Builtin.Dict_items.ownsTuple "dict_keyiterator" = false:=by decide
 unfold pyNext;refine aaC (wpAny_attempt (abR (name:=Str.ofString "__next__") ti acv (abK acv ti aeo ?_ (aem _))));refine aaC (aaE (aaC (aaC ?_)));first|refine aaC (acp ti (aaE ?_))|refine aaC (acO ti (aaE ?_))
 refine aaC (wpAny_fieldsOf e1 e3 ?_);simp only[PM,abD,abV];show wpAny _ _ (if(Value.ref d == Value.none)=true then _ else _) _ _ s;rw[aaR (by exact aaQ)];refine aaC (aaE (aaC (adu d1 d3 ?_)));rw[aaR (by simp)];refine aaC (aaE (aaC (aeq d1 d3 ?_)));rw[aaR (by simp)];refine aaE ?_;simp only[show¬((i:Int)<0)from by lia,abV,ab7,hx];refine aaC ?_;first|refine aaC (acp ti (aaE ?_))|refine aaC (acO ti (aaE ?_))
 refine aaC (wpAny_isOneOf_keyiter ti ?_);show wpAny _ _ (setField (.ref it) 1 (rawInt ((i:Int)+1)) >>= _) _ _ s;refine aaC (acF e1 e3 (by simp) (aaC (abu ?_)));have Nn:(s.heap.update it (Obj.mapFields (·.setIfInBounds 1 (rawInt ((i:Int)+1))))).IsKeyIter it d (i+1) es.size ep:=⟨_,abC _ e1 (ac4 (ab5 e3 _)),(Obj.cls_mapFields ..).trans e2,by rw[ab5 e3];simp[rawInt]⟩
 refine aaC (wpAny_isOneOf_keyiter (s:={ s with heap:=s.heap.update it (Obj.mapFields (·.setIfInBounds 1 (rawInt ((i:Int)+1)))) }) Nn.typeIs ?_);show wpAny _ _ (pure e.key) _ _ _;exact aaE (aaE ⟨_,rfl,aaE (q _ Nn (ade ..))⟩)
theorem rz(hh:A.handled=none)(hi:s.heap.IsKeyIter it d es.size es.size ep)(m:DI s.heap d es ep)(q:∀h',Heap.ExtBut it s.heap h'->Q none { s with heap:=h' }):wpAny (model prog w) A (pyNext (.ref it)) Q E s:=by
 have ti:=hi.typeIs;obtain⟨o,e1,e2,e3⟩:=id hi;obtain⟨od,d1,d2,d3⟩:=m;have PM:Builtin.Dict_items.ownsTuple "dict_keyiterator" = false:=by decide
 have hx:es[es.size]?=none:=by simp
 unfold pyNext;refine aaC (wpAny_attempt (abR (name:=Str.ofString "__next__") ti acv (abK acv ti aeo ?_ (aem _))));refine aaC (aaE (aaC (aaC ?_)));first|refine aaC (acp ti (aaE ?_))|refine aaC (acO ti (aaE ?_))
 refine aaC (wpAny_fieldsOf e1 e3 ?_);simp only[PM,abD,abV];show wpAny _ _ (if(Value.ref d == Value.none)=true then _ else _) _ _ s;rw[aaR (by exact aaQ)];refine aaC (aaE (aaC (adu d1 d3 ?_)));rw[aaR (by simp)];refine aaC (aaE (aaC (aeq d1 d3 ?_)));rw[aaR (by simp)];refine aaE ?_;simp only[show¬((es.size:Int)<0)from by lia,abV,ab7,hx];refine aaC ?_;first|refine aaC (acp ti (aaE ?_))|refine aaC (acO ti (aaE ?_))
 show wpAny _ _ (setField (.ref it) 0 .none >>= _) _ _ s;refine aaC (acF e1 e3 (by simp) ?_);show wpAny _ _ (newExc (.type "StopIteration") [] >>= _) _ _ _;refine aaC ?_;simp only[newExc,newTuple];refine aaC (abx ?_ (by size_fits));refine aaC (m:=firstArgMember _ _) (ab1 (a:=Value.none) (by first|rfl|(simp only[firstArgMember];rfl)) (abx ?_ (by size_fits)));simp only[raiseNew];refine aaC (wpAny_handled ?_);rw[show A.in1.handled=none from hh];refine aaC (aaE (wpAny_throw ?_));refine aaC (acM (T:="StopIteration") (b:=true) ⟨_,aaT _ rfl,rfl⟩ isSubtype_stop ?_);exact aaE (q _ (((ade ..).extBut.push _).push _))
def qg(hh:A.handled=none)(I d:Addr)(EY:d≠I)(es:Array DictEntry)(ep:Nat):
 Walks prog w A I [I,d] [I] es.size (λi v=>∃e,es[i]?=some e/\v=e.key) (λi h=>h.IsKeyIter I d i es.size ep/\DI h d es ep) where
 sub:=λb hb=>by simp at hb;simp[hb]
 frame:=λ_ _ _ st hk=>⟨st.1.at λo e=>hk I (by simp) o e,st.2.to λo e=>hk d (by simp) o e⟩
 item:=λi s Q E hi st hQ=>by
  obtain⟨e,hx⟩:∃e,es[i]?=some e:=⟨es[i],by simp[hi]⟩
  exact mz st.1 st.2 hx λh' k' sb=>hQ e.key h' s.toks ⟨e,hx,rfl⟩ ⟨k',st.2.to λo e=>(sb.2 d EY).trans e⟩ λb o hb e=>(sb.2 b λz=>hb (by simp[z])).trans e
 done:=λs Q E st hQ=>rz hh st.1 st.2 λh' he=>hQ h' s.toks λb o hb e=>he b o (λz=>hb (by simp[z])) e
 self:=λ_ _ _ _ st hQ=>wpAny_pyIter_keyiter st.1 hQ
def yV:typeLookup (.type "dict") "__len__" = pure (some (.builtin "dict.__len__")):=by rw[acU,ab8];kernel_rfl
def lE{R:Result->Shared->Prop}(hh:A.handled=none)(ns:(d == sysModules)=false)(m:DI s.heap d es ep)(S:Addr)(nS:S≠d)(c0:Nat)(hS:s.heap.get? S=some { cls:=.type "list",data:=.seq #[] c0 })(hR:∀h' tk acc c',(∀b o,b≠S->s.heap.get? b=some o->h'.get? b=some o)->h'.get? S=some { cls:=.type "list",dict:=none,data:=.seq acc c',slots:=#[] }->ItemsOf (λi v=>∃e,es[i]?=some e/\v=e.key) acc es.size->R (.ok (.ret .none)) { s with heap:=h',toks:=tk })(hn:es.size<=sizeLine):wpAny (model prog w) A.in1 (Builtin.List.listExtendWith (.ref S) (.ref d) .none) (λfin s'=>match fin with|.done f=>R (.ok f) s'|.again c'=>c'.quiet=true/\codeAny (model prog w) A c' R s') (λe s'=>R (.error e) s') s:=by
 have same:Builtin.List.listSameRef (.ref S) (.ref d)=false:=by simp[Builtin.List.listSameRef,nS]
 have ty:=m.typeIs;have ld:d<s.heap.objs.size:=let⟨_,e,_⟩:=m;aaJ e
 have lS:S<s.heap.objs.size:=aaJ hS;unfold Builtin.List.listExtendWith;refine aaC (acd ty ?_);rw[aaR (by rw[same];decide)];refine aaC (mB ns m (aaC (abu ?_)));have m1:DI (s.heap.push { cls:=.type "dict_keyiterator",data:=.fields #[.ref d,.int 0 0,.int es.size 0,.int ep 0] }) d es ep:=m.to λo e=>aaH _ e;unfold Builtin.List.listLengthHint;refine aaC (abY (DI.typeIs m1) yV ?_);generalize EN:("dict.__len__" : String)=id0
 wp_delta
 rw[show splitId id0=some ("dict", "__len__")from by subst EN;decide +kernel];subst EN;refine aaC (acM (b:=true) (DI.typeIs m1) (by rw[adW];kernel_rfl) ?_);rw[aaR (by decide)];show wpAny _ _ (if _=true then(typeOf (Value.ref d) >>= _)else _) _ _ _;rw[aaY (by decide +kernel)];refine aaC (acd (DI.typeIs m1) (aaE ?_));show wpAny _ A.in1 (rule "list.extend.makes-room" >>= λ_=>Builtin.List.listTouch (.ref S) >>= λ_=>again (.builtin "list.extend.loop" ⟨[.ref S,.ref s.heap.objs.size,.none],[]⟩)) _ _ _;refine aaC (acG (aaC ?_));show wpAny _ A.in1 (updateSeq S (·.push .none) >>= λ_=>updateSeq S (·.pop)) _ _ _;have Nu:=aaH { cls:=.type "dict_keyiterator",data:=.fields #[.ref d,.int 0 0,.int es.size 0,.int ep 0] } hS;refine aaC (adL Nu rfl ?_);have E4:=abC (Obj.mapSeq (·.push Value.none)) Nu rfl;refine adL (hz:=by seq_fits) E4 rfl ?_;have Xz:=abC (Obj.mapSeq (·.pop)) E4 rfl;have _v:∀b o,b≠S->(s.heap.push { cls:=.type "dict_keyiterator",data:=.fields #[.ref d,.int 0 0,.int es.size 0,.int ep 0] }).get? b=some o->(((s.heap.push { cls:=.type "dict_keyiterator",data:=.fields #[.ref d,.int 0 0,.int es.size 0,.int ep 0] }).update S (Obj.mapSeq (·.push Value.none))).update S (Obj.mapSeq (·.pop))).get? b=some o:=
  λb o hb e=>(abA _ _ (abF hb)).trans ((abA _ _ (abF hb)).trans e)
 have nI:S≠s.heap.objs.size:=aaU lS;have nd:d≠s.heap.objs.size:=aaU ld;have W:=(qg (prog:=prog) (w:=w) (A:=A.in1) hh s.heap.objs.size d nd es ep).toS;refine aaE ⟨acP F.plain_extend_loop _,codeAny_extend_loopS W hn S (by simp;exact⟨nI,nS⟩) .none es.size 0 _ _ _ rfl (aa3 _) ⟨⟨_,_v _ _ nI.symm (aaT _ rfl),rfl,rfl⟩,m1.to λo e=>_v d o nS.symm e⟩ Xz (ItemsOf.nil _) λs' acc c' hm Qh ha=>?_⟩;rw[Moved.eq_with hm];refine hR s'.heap s'.toks acc c' (λb o hb e=>hm.heap b o (λz=>?_) (_v b o hb (aaH _ e))) Qh ha;rcases List.mem_cons.mp z with z|z
 ·exact hb z
 ·have:=aaJ e;rw[List.mem_singleton.mp z]at this;exact abG _ this
def sI{Q:Value->Shared->Prop}(hh:A.handled=none)(ns:(d == sysModules)=false)(m:DI s.heap d es ep)(q:∀h' tk acc c',(∀b o,s.heap.get? b=some o->h'.get? b=some o)->h'.get? s.heap.objs.size=some { cls:=.type "list",dict:=none,data:=.seq acc c',slots:=#[] }->ItemsOf (λi v=>∃e,es[i]?=some e/\v=e.key) acc es.size->Q (.ref s.heap.objs.size) { s with heap:=h',toks:=tk })(hn:es.size<=sizeLine):wpAny (model prog w) A (call (.type "list") [.ref d]) Q E s:=by
 refine adX (Q₁:=λobj sx=>obj=.ref s.heap.objs.size/\sx={ s with heap:=s.heap.push { cls:=.type "list",data:=.seq #[] } }) F.called_list (F.typeCall_list_1 _) F.entry_list_init (code_list_new _ ⟨rfl,rfl⟩) λobj sx hx=>?_;obtain⟨rfl,rfl⟩:=hx;have hS:(s.heap.push { cls:=.type "list",data:=.seq #[] }).get? s.heap.objs.size=some { cls:=.type "list",data:=.seq #[] }:=aaT _ rfl;have ld:d<s.heap.objs.size:=let⟨_,e,_⟩:=m;aaJ e
 refine⟨⟨_,hS,rfl⟩,F.args_list_init_2 _ _,?_⟩;show wpAny _ _ (do let old <- Builtin.List.listItems (.ref s.heap.objs.size);Builtin.List.listUpdate (.ref s.heap.objs.size) (λ_=>#[]);letGo old.toList.reverse;Builtin.List.listExtendWith (.ref s.heap.objs.size) (.ref d) .none) _ _ _;refine aaC ?_;unfold Builtin.List.listItems;refine aaC (acm hS rfl (aaE (show wpAny _ _ (updateSeq s.heap.objs.size (λ_=>#[]) >>= λ_=>letGo (#[]:Array Value).toList.reverse >>= λ_=>Builtin.List.listExtendWith (.ref s.heap.objs.size) (.ref d) .none) _ _ _ from aaC (adL hS rfl (aaC (wpAny_letGo ?_))))));have E4:=abC (Obj.mapSeq (λ_=>(#[]:Array Value))) hS rfl;have ot:∀b o,b≠s.heap.objs.size->s.heap.get? b=some o->((s.heap.push { cls:=.type "list",data:=.seq #[] }).update s.heap.objs.size (Obj.mapSeq (λ_=>(#[]:Array Value)))).get? b=some o:=λb o hb e=>(abA _ _ (abF hb)).trans (aaH _ e);have nd:d≠s.heap.objs.size:=aaU ld;refine lE (A:=A.in1) hh ns (m.to λo e=>ot d o nd e) _ nd.symm _ E4 (λh' tk acc c' hk Qh ha=>⟨rfl,q h' tk acc c' (λb o e=>?_) Qh ha⟩) hn;have nb:b≠s.heap.objs.size:=aaU (aaJ e);exact hk b o nb (ot b o nb e)
end
section
variable{X:Cx}{e:Expr}{te:TE}{p1 q1:Pos}
end
section
variable{X:Cx}{elts:List Expr}{k:Nat}{D7:Pos}
end
noncomputable def ce(d:Addr)(o:Obj):HO:=.ext λh=>h.get? d=some o
def jH{o:Obj}(e:h.get? d=some o):i9 P w H h d (ce d o):=⟨e,⟨o,e⟩,λ_ _ a k=>k o a⟩
def eM{o:Obj}(ok:A8 P w H h)(e:H d=some (ce d o)):h.get? d=some o:=(show i9 P w H h d (ce d o)from ok d _ e).1
section
variable{P:Program}{w:World}{A:Around}{E:Value->Shared->Prop}{s:Shared}{it d:Addr}{o:Obj}{es:Array DictEntry}{i n ep:Nat}{ok ov:Value}
end
section
variable{P:Program}{w:World}{K:W.Frag}{elts:List Expr}{k:Nat}{D7:Pos}
end
section
variable{X:Cx}{elts:List Expr}{k:Nat}{D7:Pos}{e:Expr}{te:TE}{apos l_:Pos}
end
section
variable{X:Cx}{e:Expr}{te:TE}{apos l_:Pos}
end
end L2
namespace TM
open PySem L2
inductive g_{α:Type}(R:α->V->Prop):List α->List V->Prop
 |nil:g_ R [] []
 |cons {a:α} {v:V} {as:List α} {vs:List V}:R a v->g_ R as vs->g_ R (a::as) (v::vs)
variable{vs:List V}{v:V}
namespace g_
variable{α:Type}{R R':α->V->Prop}
theorem imp(h:∀a v,R a v->R' a v):∀{as:List α}{vs:List V},g_ R as vs->g_ R' as vs
 |_,_,.nil=>.nil
 |_,_,.cons x y=>.cons (h _ _ x) (imp h y)
theorem len:∀{as:List α}{vs:List V},g_ R as vs->vs.length=as.length
 |_,_,.nil=>rfl
 |_,_,.cons _ y=>by rw[aaM,aaM,len y]
theorem get:∀{as:List α}{vs:List V}{i:Nat}{v:V},g_ R as vs->vs[i]?=some v->∃a,as[i]?=some a/\R a v
 |_,_,i,v,.nil,e=>by simp at e
 |_,_,0,v,.cons (a:=a) x y,e=>by
  simp at e;subst e;exact⟨a,rfl,x⟩
 |_,_,i+1,v,.cons x y,e=>by obtain⟨b,hb,r⟩:=get (i:=i) y (by simpa using e);exact⟨b,by simpa using hb,r⟩
theorem app:∀{as bs:List α}{vs us:List V},g_ R as vs->g_ R bs us->g_ R (as++bs) (vs++us)
 |_,_,_,_,.nil,g=>g
 |_,_,_,_,.cons x y,g=>.cons x (app y g)
def one{a:α}(h:R a v):g_ R [a] [v]:=.cons h .nil
def snoc{as:List α}{a:α}(h:g_ R as vs)(g:R a v):g_ R (as++[a]) (vs++[v]):=h.app (one g)
def nil_of(h:g_ R [] vs):vs=[]:=by cases h;rfl
theorem B3{a:α}{as:List α}(h:g_ R (a::as) vs):∃v r,vs=v::r/\R a v/\g_ R as r:=by
 cases h with
 |cons x y=>exact⟨_,_,rfl,x,y⟩
end g_
structure Sg where
 nm:Str
 dn:List (Str×Str)
 up:List (Str×Str)
structure Ru where
 k:Int
 nm:Str
 tm:Tm
structure Fm where
 nm:Str
 hd:Str
 br:List Str
 ru:List Ru
structure Gr where
 sg:List Sg
 fm:List Fm
def w6(H:Hp)(p:Str×Str)(v:V):Prop:=∃a,v=.ref a/\H a=some (.tup [.str p.1,.str p.2])
def p8(H:Hp)(s:Sg)(v:V):Prop:=∃p a b us ws,v=.ref p/\H p=some (.tup [.str s.nm,.ref a,.ref b])/\H a=some (.tup us)/\g_ (w6 H) s.dn us/\H b=some (.tup ws)/\g_ (w6 H) s.up ws
def o_(H:Hp)(r:Ru)(v:V):Prop:=∃p u,v=.ref p/\H p=some (.tup [.int r.k,.str r.nm,u])/\g9 H r.tm u
def r_(H:Hp)(f:Fm)(v:V):Prop:=∃p a b us,v=.ref p/\H p=some (.tup [.str f.nm,.str f.hd,.ref a,.ref b])/\H a=some (.tup (f.br.map V.str))/\H b=some (.tup us)/\g_ (o_ H) f.ru us
def o7(H:Hp)(g:Gr)(v:V):Prop:=∃p a b us ws,v=.ref p/\H p=some (.tup [.ref a,.ref b])/\H a=some (.tup us)/\g_ (p8 H) g.sg us/\H b=some (.tup ws)/\g_ (r_ H) g.fm ws
section
variable{H H':Hp}
def w6.same(e:d_ H H'){p:Str×Str}(h:w6 H p v):w6 H' p v:=by obtain⟨a,x,y⟩:=h;exact⟨a,x,e _ _ y⟩
theorem p8.same(e:d_ H H'){p:Sg}{v:V}(h:p8 H p v):p8 H' p v:=by obtain⟨p,a,b,us,ws,x,y,z,l,z',l'⟩:=h;exact⟨p,a,b,us,ws,x,e _ _ y,e _ _ z,l.imp λ_ _=>w6.same e,e _ _ z',l'.imp λ_ _=>w6.same e⟩
theorem o_.same(e:d_ H H'){p:Ru}{v:V}(h:o_ H p v):o_ H' p v:=by obtain⟨p,u,x,y,z⟩:=h;exact⟨p,u,x,e _ _ y,g9.same e _ z⟩
theorem r_.same(e:d_ H H'){p:Fm}{v:V}(h:r_ H p v):r_ H' p v:=by obtain⟨p,a,b,us,x,y,z,z',l⟩:=h;exact⟨p,a,b,us,x,e _ _ y,e _ _ z,e _ _ z',l.imp λ_ _=>o_.same e⟩
theorem o7.same(e:d_ H H'){p:Gr}{v:V}(h:o7 H p v):o7 H' p v:=by obtain⟨p,a,b,us,ws,x,y,z,l,z',l'⟩:=h;exact⟨p,a,b,us,ws,x,e _ _ y,e _ _ z,l.imp λ_ _=>p8.same e,e _ _ z',l'.imp λ_ _=>r_.same e⟩
end
def wd(z:Str):Prop:=z.cps.toList≠[]/\z.cps.toList.length<=8/\∀c∈z.cps.toList,sE c=true
abbrev cK:List Str:=["num", "text", "row"]
def Dg(p:Str×Str):Prop:=wd p.1/\p.2∈cK
end TM
namespace L2
open PySem PySem.Spec PyProof.Rows TM
def aH{α:Type}{xs:List α}{i:Nat}{x:α}(h:xs[i]?=some x):xs.take (i+1)=xs.take i++[x]:=by rw[List.take_succ,h];rfl
section
variable{K:W.Frag}{a:Addr}{xs:List V}{js:List Nat}{g:TG}{n:Nat}{te:TE}{σ:St}{Q:VK}{D:Addr}{H1:Hp}{α:Type}{R:Hp->α->V->Prop}{as:List α}
def EJ(D:Addr)(R:Hp->α->V->Prop):Prop:=∀H H' acc b v,H D=some (.lst acc)->(∀c o,c≠D->H c=some o->H' c=some o)->R H b v->R H' b v
def EJ.ofT(h:∀H H' b v,d_ H H'->R H b v->R H' b v):EJ D R:=λH H' acc b v d k r=>h H H' b v (λc ys e=>k c _ (λz=>by rw[z,d]at e;cases e) e) r
theorem gM(st:EJ D R)(hz:xs.length<sizeLine)(hlen:as.length=xs.length)(ha:d9 K H1 a xs)(hD:H1 D=none)(he:∀(i:Nat) (x:V) (b:α) (H:Hp),xs[i]?=some x->as[i]?=some b->a_ H1 H->(∃acc,H D=some (.lst acc))->∀Q':VK,(∀y H',a_ H H'->R H' b y->Q' y H')->te (some x::bp js σ) H Q')(hq:∀ys H',a_ H1 H'->H' D=some (.lst ys)->g_ (R H') as ys->Q (.ref D) H'):gZ (HK K a) js D8 te σ Q D H1:=by
 refine ji (K:=K) (a:=a) (xs:=xs) (λi acc H=>i<=xs.length/\a_ H1 H/\H D=some (.lst acc)/\g_ (R H) (as.take i) acc) hz ⟨aa3 _,ac hD _,aa,.nil⟩ (λi acc H ⟨l,s,d,r⟩=>⟨d,?_,a_.seq s ha⟩) ?_ ?_
 ·rw[r.len,aaZ];lia
 ·rintro i m x acc H hi ⟨l,s,d,r⟩ hm;have o9:=ao hi;obtain⟨b,hb⟩:=ax (xs:=as) (i:=i) (by lia);refine he i x b H hi hb s ⟨_,d⟩ _ λy H4 s4 r4=>⟨s4 _ _ d,xs.length-(i+1),by lia,rfl,o9,o9,aL hD (s.trans s4),aa,?_⟩
  have k:∀c o,c≠D->H4 c=some o->upd H4 D (.lst (acc++[y])) c=some o:=λc o hc e=>by rw[al hc];exact e
  rw[aH hb];exact(r.imp λb v r=>st _ _ _ b v (s4 _ _ d) k (st _ _ _ b v d (λc o _ e=>s4 c o e) r)).snoc (st _ _ _ b y (s4 _ _ d) k r4)
 ·rintro acc H ⟨l,s,d,r⟩;rw[aa2 (by lia)]at r;exact hq acc H s d r
theorem pV(st:EJ D R)(hz:xs.length<sizeLine)(hlen:as.length=xs.length)(ha:d9 K H1 a xs)(hD:H1 D=none)(he:∀(i:Nat) (x:V) (b:α) (H:Hp),xs[i]?=some x->as[i]?=some b->a_ H1 H->∀Q':VK,(∀y H',a_ H H'->R H' b y->Q' y H')->g x (List.replicate n none++bp js σ) H λIy H6=>∃us:List (Option V),us.length=n/\Iy=us++bp js σ/\te Iy H6 Q')(hq:∀ys H',a_ H1 H'->H' D=some (.lst ys)->g_ (R H') as ys->Q (.ref D) H'):uk (HK K a) g n js D8 te σ Q D H1:=by
 refine⟨λi m acc H=>m=xs.length-i/\i<=xs.length/\a_ H1 H/\H D=some (.lst acc)/\g_ (R H) (as.take i) acc,⟨xs.length,by simp,aa3 _,ac hD _,aa,.nil⟩,?_⟩;rintro i m acc H ⟨hm,hi,s,d,r⟩;refine⟨d,by rw[r.len,aaZ];lia,?_⟩;by_cases o9:i<xs.length
 ·refine .inr ⟨?_,λx H' y=>?_⟩
  ·obtain⟨x,hx⟩:=ax o9;exact⟨xs,x,a_.seq s ha,hx⟩
  ·obtain⟨rfl,hx⟩:=y;have DB:=hx xs (a_.seq s ha);obtain⟨b,hb⟩:=ax (xs:=as) (i:=i) (by lia);refine he i x b H' DB hb s _ λy H4 s4 r4=>⟨s4 _ _ d,xs.length-(i+1),by lia,rfl,o9,aL hD (s.trans s4),aa,?_⟩
   have k:∀c o,c≠D->H4 c=some o->upd H4 D (.lst (acc++[y])) c=some o:=λc o hc e=>by rw[al hc];exact e
   rw[aH hb];exact(r.imp λb v r=>st _ _ _ b v (s4 _ _ d) k (st _ _ _ b v d (λc o _ e=>s4 c o e) r)).snoc (st _ _ _ b y (s4 _ _ d) k r4)
 ·rw[aa2 (by lia)]at r;exact .inl ⟨⟨xs,a_.seq s ha,by lia⟩,hq acc H s d r⟩
end
end L2
namespace L2
open PySem PySem.Spec PyProof.Rows
variable{prog:Program}{w:World}{A:Around}{E:Value->Shared->Prop}{s:Shared}
section
variable{X:Cx}{e:Expr}{te:TE}{p1 p2 q1 q2:Pos}
end
variable{pos:Pos}{e i:Expr}{te:TE}
section
variable{X:Cx}
inductive xi(K:W.Frag)(x y:V)(H:Hp)(Q:VK):Prop
 |mk:∀a b xs,x=.ref a->y=.ref b->d9 K H a xs->d9 K H b []->Q (.bl (!decide (xs=[]))) H->xi K x y H Q
theorem mJ(hu:X.A.units+64<cLine):B8 X (compareOp .NotEq) (xi X.K):=by
 intro pins s σ H x y v u Q I rx ry h;obtain⟨a,b,xs,e1,e2,ha,hb,q⟩:=h;by_cases hx:xs=[]
 ·subst hx;refine AE hu pins s σ H x y v u Q I rx ry ⟨a,b,[],[],[],[],e1,e2,.inr ⟨ha,hb⟩,dj,dj,by unfold bv;lia,?_⟩;have e:(!(cQ [] []))=!decide (([]:List V)=[]):=by unfold cQ;rfl
  rw[e];exact q
 ·subst e1 e2;cases rx;cases ry;obtain⟨us,r1,p1,_⟩:=I.list ha;obtain⟨ws,r2,p2,_⟩:=I.list hb;cases r2;have EY:us≠[]:=λz=>hx ((Vals.DQ r1).mp z);refine SeqAt.RcNeAt.lists_lengths p1.isList p2.isList (by simpa using EY) (by lia) _ _ _ _ ⟨.bl _,H,I,?_,q⟩;rw[aaW hx];rfl
def xK{o:Expr}{to ti:TE}{GH:V->V->Hp->VK->Prop}{OI:V7}{GF:ze}{op:Operator}{D7:Pos}(ho:QE X o to)(hi:QE X i ti)(hg:Cm X GH)(he:QE X e te)(hp:PIp X op OI)(hs:zq X GF)(ha:∀ov iv new,augStore i ov iv new=(do holding [new,ov,iv] (setItem ov iv new);release [new,ov,iv] [];pure .next):=by intros;rfl):QS X (.AugAssign (.Subscript o i D7) op e pos) (zL to ti te GH OI GF):=⟨xR ho.h hi.h hg he.h hp hs ha⟩
def χ:Lean.Syntax:=xK._auto_1
end
def xF{n:String}(h:n = "reversed"\/n = "range_iterator"):["enumerate", "zip", "dict_itemiterator", "dict_reverseitemiterator", "odict_iterator", "itertools.zip_longest", "itertools.pairwise"].contains n=false:=by rcases h with rfl|rfl<;>decide
section
variable{X:Cx}{tg e:Expr}{te:TE}{p q:Pos}
end
def zM:isSubtype (.type "range_iterator") (.type "reversed")=pure false:=by rw[adW];kernel_rfl
noncomputable def RU(n:Nat):Obj:={ cls:=.type "range_iterator",data:=.fields #[rawInt ((n:Int)-1),rawInt n,rawInt (-1)] }
variable{Q:Value->Shared->Prop}{n:Nat}{r:Addr}{u v:Tok}
theorem Ah{t:Tok}(hr:IsRange s.heap r 0 (n:Int) 1 t u v)(hn:n<=100000)(h:Q (.ref s.heap.objs.size) { s with heap:=s.heap.push (RU n) }):
 wpAny (model prog w) A (call (.builtin "range.__reversed__") [.ref r]) Q E s:=by
 have hT:s.TypeIs (.ref r) "range":=⟨_,hr,rfl⟩
 refine abK F.slot_range_reversed hT F.entry_range_reversed ?_ (F.args_range_reversed_1 _);unfold Builtin.«range.__reversed__»;refine aaC (ab1 (a:=Value.ref r) rfl ?_);have hsz:Builtin.Range.rangeSize 0 (n:Int) 1=n:=by unfold Builtin.Range.rangeSize;rw[aaY (by decide)];split<;>lia
 have hsm:(Builtin.Range.rangeFitsLong 0&&Builtin.Range.rangeFitsLong (n:Int)&&Builtin.Range.rangeFitsLong 1&&Builtin.Range.rangeFitsLong (-1)&&Builtin.Range.rangeFitsLong (0-1)&&Builtin.Range.rangeFitsLong (Builtin.Range.rangeSize 0 (n:Int) 1))=true:=by rw[hsz];simp only[Builtin.Range.rangeFitsLong,abI,abJ];lia
 have hf:wpAny (model prog w) A.in1 (Builtin.Range.rangeFields (.ref r)) (λx s'=>x=(0,(n:Int),1)/\s'=s) (λ_ _=>False) s:=by unfold Builtin.Range.rangeFields;refine aaC (abU hr rfl (x:=.int 0 t) rfl (aaC (ab1 (a:=some 0) rfl ?_)));refine aaC (abU hr rfl (x:=.int n u) rfl (aaC (ab1 (a:=some (n:Int)) rfl ?_)));refine aaC (abU hr rfl (x:=.int 1 v) rfl (aaC (ab1 (a:=some 1) rfl ?_)));exact aaE ⟨rfl,rfl⟩
 refine aaC (abp hf (λx s' hx=>?_) λ_ _ z=>z.elim);obtain⟨rfl,rfl⟩:=hx;dsimp only;rw[hsm,hsz];refine aaC (abx (aaE ⟨_,rfl,?_⟩) (by size_fits));have e:(0:Int)+((n:Int)-1)*1=(n:Int)-1:=by lia
 show Q _ { s' with heap:=s'.heap.push { cls:=.type "range_iterator",data:=.fields #[rawInt (0+((n:Int)-1)*1),rawInt n,rawInt (-1)] } };rw[e];exact h
def Ai{t:Tok}{Q₁:Value->Shared->Prop}(hr:IsRange s.heap r 0 (n:Int) 1 t u v)(hn:n<=100000)(h:Q₁ (.ref s.heap.objs.size) { s with heap:=s.heap.push (RU n) }):
 codeAny (model prog w) A (.call (.builtin "reversed.__new__") ⟨[.type "reversed",.ref r],[]⟩) (wants Q₁ E) s:=by
 have hT:s.TypeIs (.ref r) "range":=⟨_,hr,rfl⟩
 refine aer (show wpAny _ A.in1 (do checkBuiltinCall "reversed.__new__" ⟨[.type "reversed",.ref r],[]⟩;again (.builtin "reversed.__new__" ⟨[.type "reversed",.ref r],[]⟩)) _ _ s from aaC (ab1 (F.newCall_reversed_1 _) (aaE ⟨acP F.plain_reversed_new _,acu F.entry_reversed_new ?_⟩)));rw[acJ F.plain_reversed_new _,Builtin.«reversed.__new__»];refine aaC (ab1 (newClass_reversed _) (show wpAny _ _ (_ >>= _) _ _ _ from aaC (ab1 (a:=()) (by first|rfl|kernel_rfl) (aaC (ab1 (a:=()) (by first|rfl|kernel_rfl) ?_)))));refine(show wpAny _ _ (_ >>= _) _ _ _ from aaC (abY hT F.slot_range_reversed.lookup (show wpAny _ _ (_ >>= _) _ _ _ from aaC (ab1 (F.slot_range_reversed.bind _) ?_))));show wpAny _ _ (if(Value.builtin "range.__reversed__" == Value.none)=true then _ else _) _ _ _;rw[aaR (by decide)];refine aaC (acG (aaC (m:=runValue (.call (.builtin "range.__reversed__") ⟨[.ref r],[]⟩)) (show wpAny _ _ (call (.builtin "range.__reversed__") [.ref r]) _ _ _ from Ah hr hn ?_)));first|exact aaE h|exact aaC (aaE (aaE h))
def xH{t:Tok}(hr:IsRange s.heap r 0 (n:Int) 1 t u v)(hn:n<=100000)(h:Q (.ref s.heap.objs.size) { s with heap:=s.heap.push (RU n) }):wpAny (model prog w) A (call (.type "reversed") [.ref r]) Q E s:=by refine callType_other (T:="reversed") (U:="range_iterator") (Q₁:=λobj i8=>obj=.ref s.heap.objs.size/\i8={ s with heap:=s.heap.push (RU n) }) (by decide +kernel) F.create_reversed ⟨_,_,F.mro_reversed⟩ F.made_reversed zM (F.typeCall_reversed_1 _) (Ai hr hn ⟨rfl,rfl⟩) ?_;intro obj i8 hq;obtain⟨e1,e2⟩:=hq;subst e1 e2;exact⟨⟨_,aaT _ rfl,rfl⟩,h⟩
def Bl(n:Nat):It:=⟨λi _=>i<n,λi H x H'=>H'=H/\x=.int ((n:Int)-1-(i:Nat)),λi _=>n<=i⟩
variable{P:Program}{K:W.Frag}{tg:Expr}
theorem qp{w:World}(it:Addr)(n:Nat):zd P w K tg (Bl n) [it] it (λi h=>IsRangeIter h it (((n:Int)-1)+(i:Nat)*(-1)) ((n:Int)-(i:Nat)) (-1)) where
 mem:=by simp
 obj:=λi h st b hb=>by
  have e:b=it:=by simpa using hb
  subst e;exact⟨_,st,λv z=>by
   have z':Data.fields _=Data.cell v:=z;cases z'⟩
 keep:=λi h h' st k=>k it (by simp) _ st
 item:=by
  intro X hP hw hK hc i pins s σ H E I hf st hg;subst hP hw hK;obtain⟨f0,f1,f2,f3,f4,f5⟩:=hf it (by simp);have W:=Walks.range (prog:=X.prog) (w:=X.w) (I.ok.hd hc) it ((n:Int)-1) (-1) n;refine W.item i s _ _ hg st λv h' tk hv FC kk=>?_;obtain⟨t,rfl⟩:=hv;have I1:Inv X pins σ H { s with heap:=h',toks:=tk }:=I.turned (λb o hb e=>kk b o (by simpa using hb) e) f0 f1 f3 f4 f5;have e1:((n:Int)-1)+(i:Nat)*(-1)=(n:Int)-1-(i:Nat):=by lia
  refine⟨_,rfl,sX (s:={ s with heap:=h',toks:=tk }) (n:="range_iterator") FC rfl rfl (xF (.inr rfl)) ⟨.int (((n:Int)-1)+(i:Nat)*(-1)),H,I1,⟨t,rfl⟩,⟨rfl,by rw[e1]⟩,FC,λb hb=>(hf b hb).1⟩⟩
 done:=by intro X hP hw hK hc i pins s σ H E I hf st hg;subst hP hw hK;obtain⟨f0,f1,f2,f3,f4,f5⟩:=hf it (by simp);exact wpAny_pyNext_range_end (I.ok.hd hc) st (by have:n<=i:=hg;lia) λh' eb=>⟨rfl,I.turned (t':=s.toks) (λb o hb e=>eb b o hb e) f0 f1 f3 f4 f5⟩
 self:=λ_ _ _ _ _ st h=>adF st h
variable{H:Hp}{σ:St}{D:gR}{tb:TS}{g:TG}
section
variable{X:Cx}{tg e:Expr}{te:TE}{p1 p2 q1 q2:Pos}
inductive xn(R:It->Hp->Prop)(x:V)(H1:Hp):Prop
 |mk (n:Nat):(x=.int (n:Int))->n<=100000->R (Bl n) H1->xn R x H1
def AV(te:TE):TI:=λσ H R=>te σ H λx H1=>xn R x H1
def xT(hc:X.calm=true)(g1:Gl X "reversed")(m1:X.mg "reversed" = none)(g2:Gl X "range")(m2:X.mg "range" = none)(he:PE X e te)(L7:starEach [e] X.env=[(false,eval e X.env)])(IE:starEach [.Call (.Name "range" p2) [e] [] q2] X.env=[(false,eval (.Call (.Name "range" p2) [e] [] q2) X.env)]):
 PI X tg (.Call (.Name "reversed" p1) [.Call (.Name "range" p2) [e] [] q2] [] q1) (AV te):=by
 intro pins s σ H R I h;refine Call_ (eh I g1 m1 boot_reversed (abH ?_ IE rfl));rw[IE];show wpAny _ _ (spliced ((false,eval (.Call (.Name "range" p2) [e] [] q2) X.env)::backTo q1 [])) _ _ s;refine ab6 (Call_ (eh I g2 m2 boot_range (abH ?_ L7 rfl)));rw[L7];show wpAny _ _ (spliced ((false,eval e X.env)::backTo q2 [])) _ _ s;refine ab6 (j9 (he pins s σ H _ I h) ?_);rintro u s1 ⟨x,H1,I1,r1,n,ex,hn,k⟩;subst ex;obtain⟨t,rfl⟩:=r1;refine acf ?_;refine call_range_1 (acf ?_);have I2:Inv X pins σ H1 { s1 with heap:=s1.heap.push { cls:=.type "range",data:=.fields #[.int 0 s1.toks,.int n t,.int 1 (s1.toks+1)] },toks:=s1.toks+1+1 }:=I1.kept λb o e=>aaH _ e;refine xH (s:={ s1 with heap:=s1.heap.push { cls:=.type "range",data:=.fields #[.int 0 s1.toks,.int n t,.int 1 (s1.toks+1)] },toks:=s1.toks+1+1 }) (IsRange.new ..) hn ?_;have st:IsRangeIter ((s1.heap.push { cls:=.type "range",data:=.fields #[.int 0 s1.toks,.int n t,.int 1 (s1.toks+1)] }).push (RU n)) (s1.heap.push { cls:=.type "range",data:=.fields #[.int 0 s1.toks,.int n t,.int 1 (s1.toks+1)] }).objs.size (((n:Int)-1)+((0:Nat):Int)*(-1)) ((n:Int)-((0:Nat):Int)) (-1):=by
  have e1:((n:Int)-1)+((0:Nat):Int)*(-1)=(n:Int)-1:=by simp
  have e2:(n:Int)-((0:Nat):Int)=n:=by simp
  rw[e1,e2];exact aaT _ rfl
 refine adF st ⟨_,[(s1.heap.push { cls:=.type "range",data:=.fields #[.int 0 s1.toks,.int n t,.int 1 (s1.toks+1)] }).objs.size],_,_,H1,rfl,I2.kept (t':=s1.toks+1+1) λb o e=>aaH _ e,qp _ n,st,λb hb=>?_,k⟩;have e:b=(s1.heap.push { cls:=.type "range",data:=.fields #[.int 0 s1.toks,.int n t,.int 1 (s1.toks+1)] }).objs.size:=by simpa using hb
 subst e;exact I2.Gb (aaI _) (I2.i4.fresh (aaI _))
def xL(hc:X.calm=true)(g1:Gl X "reversed")(m1:X.mg "reversed" = none)(g2:Gl X "range")(m2:X.mg "range" = none)(he:QE X e te)(L7:autoParam (starEach [e] X.env=[(false,eval e X.env)]) θ)(IE:autoParam (starEach [.Call (.Name "range" p2) [e] [] q2] X.env=[(false,eval (.Call (.Name "range" p2) [e] [] q2) X.env)]) θ):
 QI X tg (.Call (.Name "reversed" p1) [.Call (.Name "range" p2) [e] [] q2] [] q1) (AV te):=⟨xT hc g1 m1 g2 m2 he.h L7 IE⟩
theorem vK(Pv:Nat->St->Hp->Prop)(h0:Pv 0 σ H)(hs:∀i σ H,i<n->Pv i σ H->g (.int ((n:Int)-1-(i:Nat))) σ H λDu H2=>tb { D with nx:=Pv (i+1),ct:=Pv (i+1),bk:=D.nx } Du H2)(hd:∀σ H,Pv n σ H->D.nx σ H):
 ∃W:Nat->Nat->St->Hp->Prop,(∃m,W 0 m σ H)/\∀i m σ H,W i m σ H ->
  ((Bl n).stop i H/\D.nx σ H)\/((Bl n).go i H/\∃N:St->Hp->Prop,(∀k_ H',N k_ H'->∃m',m'<m/\W (i+1) m' k_ H')/\∀x H',(Bl n).Iz i H x H'->g x σ H' λDu H2=>tb { D with nx:=N,ct:=N,bk:=D.nx } Du H2):=by
 refine⟨λi m σ H=>m=n-i/\i<=n/\Pv i σ H,⟨n,by simp,aa3 _,h0⟩,?_⟩;rintro i m σ H ⟨rfl,hi,p⟩;by_cases o9:i<n
 ·refine .inr ⟨o9,Pv (i+1),λk_ H' q=>⟨n-(i+1),by lia,rfl,o9,q⟩,?_⟩;rintro x H' ⟨rfl,rfl⟩;exact hs i σ H' o9 p
 ·have e:i=n:=by lia
  subst e;exact .inl ⟨aaI _,hd σ H p⟩
end
structure KH(P:Program)(w:World)(K:Type)[DecidableEq K] where
 kind:HeapKind P w K
 key:Hp->K->Addr->Prop
 same:∀{H H':Hp}{k:K}{a:Addr},(∀b ys,H b=some (.tup ys)->H' b=some (.tup ys))->key H k a->key H' k a
 is:∀{H:Hp}{h:Heap}{k:K}{a:Addr},A8 P w H h->key H k a->kind.is h k a
 room:∀{A:Around},A.units+80<cLine->kind.room A.in1
noncomputable def bD(P:Program)(w:World):KH P w A4:=⟨cA P w,w5,λe h=>h.same e,dR,λ{A} hu=>show A.in1.units+64<cLine from by show A.units+_+64<cLine;lia⟩
variable{a:Addr}{h:Heap}
section
variable{K:Type}[DecidableEq K]
noncomputable def eI(xs:List (K×Addr×V))(k:K):Option V:=(xs.find? λx=>decide (x.1=k)).map (·.2.2)
noncomputable def fB(xs:List (K×Addr×V))(k:K)(a:Addr)(v:V):List (K×Addr×V):=if(eI xs k).isSome then xs.map (λx=>if x.1=k then(x.1,x.2.1,v)else x)else xs++[(k,a,v)]
theorem mF(xs:List (K×Addr×V))(k:K)(a:Addr)(v:V):(fB xs k a v).length<=xs.length+1:=by
 unfold fB;split
 ·rw[aaG];lia
 ·rw[aaF];exact aaI _
def cU(p:K×Addr×V)(xs:List (K×Addr×V))(k:K):eI (p::xs) k=if p.1=k then some p.2.2 else eI xs k:=by
 unfold eI;rw[abE];by_cases e:p.1=k
 ·rw[abb e,aaY e];rfl
 ·rw[aaW e,aaR e]
theorem qm(xs:List (K×Addr×V))(p:K×Addr×V)(k:K):eI (xs++[p]) k=(eI xs k).or (if p.1=k then some p.2.2 else none):=by
 induction xs with
 |nil=>rw[ab2,cU];rfl
 |cons q xs ih=>
  rw[abZ,cU,cU,ih];split<;>rfl
theorem uw(xs:List (K×Addr×V))(k j:K)(v:V):eI (xs.map λx=>if x.1=k then(x.1,x.2.1,v)else x) j=(eI xs j).map λu=>if j=k then v else u:=by
 induction xs with
 |nil=>rfl
 |cons q xs ih=>
  rw[aa7,cU,cU,ih];by_cases e:q.1=k
  ·rw[aaY e];dsimp only;by_cases f:q.1=j
   ·rw[aaY f,aaY f,abN,aaY (f.symm.trans e)]
   ·rw[aaR f,aaR f]
  ·rw[aaR e];by_cases f:q.1=j
   ·rw[aaY f,aaY f,abN,aaR (λz=>e (f.trans z))]
   ·rw[aaR f,aaR f]
def uv(xs:List (K×Addr×V))(k j:K)(a:Addr)(v:V):eI (fB xs k a v) j=if j=k then some v else eI xs j:=by
 unfold fB;by_cases e:(eI xs k).isSome=true
 ·rw[aaY e,uw];by_cases f:j=k
  ·subst f;obtain⟨u,hu⟩:=Option.isSome_iff_exists.mp e;rw[hu,aaY rfl,abN,aaY rfl]
  ·rw[aaR f];cases eI xs j with
   |none=>rfl
   |some u=>rw[abN,aaR f]
 ·rw[aaR e,qm];dsimp only;by_cases f:j=k
  ·subst f;rw[aaY rfl,aaY rfl];cases q:eI xs j with
   |none=>rfl
   |some u=>rw[q]at e;exact absurd rfl e
  ·rw[aaR f,aaR (λz=>f z.symm),Option.or_none]
theorem dc(xs:List (K×Addr×V))(k:K):(eI xs k).isSome=true↔k∈xs.map (·.1):=by
 induction xs with
 |nil=>simp[eI]
 |cons p xs ih=>
  rw[cU,aa7,ab9];by_cases e:p.1=k
  ·rw[aaY e];simp[e]
  ·rw[aaR e,ih];exact⟨.inr,λz=>z.resolve_left λy=>e y.symm⟩
def jF(xs:List (K×Addr×V))(k:K)(a:Addr)(v:V):(fB xs k a v).map (·.1)=if k∈xs.map (·.1)then xs.map (·.1)else xs.map (·.1)++[k]:=by
 unfold fB;by_cases e:(eI xs k).isSome=true
 ·rw[aaY e,aaY ((dc xs k).mp e),acB];refine ac5 λx _=>?_;show(if x.1=k then(x.1,x.2.1,v)else x).1=x.1;split<;>rfl
 ·rw[aaR e,aaR (λz=>e ((dc xs k).mpr z)),aaX];rfl
abbrev VH:List (K×Addr×V)->List (K×Addr×Value)->Prop:=Paired λp q=>p.1=q.1/\p.2.1=q.2.1/\RelV p.2.2 q.2.2
theorem VH.val{xs:List (K×Addr×V)}{us:List (K×Addr×Value)}(r:VH xs us)(k:K):DA (eI xs k) ((atKey us k).map (·.2)):=by
 induction r with
 |nil=>exact True.intro
 |@cons p q ps qs h t ih=>
  obtain⟨h1,_,h3⟩:=h;unfold eI atKey at ih⊢;rw[abE,abE,<-h1];by_cases e:p.1=k
  ·rw[abb e];exact h3
  ·rw[aaW e];exact ih
def VH.put{xs:List (K×Addr×V)}{us:List (K×Addr×Value)}(r:VH xs us)(k:K){v:V}{u:Value}(rv:RelV v u):VH (fB xs k a v) (storedH us k a u):=by
 have e:=(r.val k).p7;rw[abW]at e;unfold fB storedH;rw[e];split
 ·clear e;rename_i hh;clear hh;induction r with
  |nil=>exact .nil
  |@cons p q ps qs h t ih=>
   obtain⟨h1,h2,h3⟩:=h;refine .cons ?_ ih;unfold putAt;rw[<-h1];by_cases z:p.1=k
   ·simp only[z,ac6];exact⟨trivial,h2,rv⟩
   ·simp only[z,abV];exact⟨h1,h2,h3⟩
 ·exact Paired.snoc r ⟨rfl,rfl,rv⟩
theorem VH.keys{xs:List (K×Addr×V)}{us:List (K×Addr×Value)}(r:VH xs us):xs.map (·.1)=us.map (·.1):=by
 induction r with
 |nil=>rfl
 |cons h t ih=>rw[aa7,aa7,ih,h.1]
variable{P:Program}{w:World}(κ:KH P w K)
def NZ(a:Addr)(xs:List (K×Addr×V))(o:Obj):Prop:=xs.length<=sizeLine/\(a == sysModules)=false/\∃us es ep,VH xs us/\o.ExactDict/\o.data=.dict es ep/\es.toList=us.map (entryOfKey κ.kind)/\(us.map (·.1)).Nodup
def DH(H:Hp)(a:Addr)(xs:List (K×Addr×V)):Prop:=(∃o,H a=some (ce a o)/\NZ κ a xs o)/\∀x∈xs,κ.key H x.1 x.2.1
variable{κ}
theorem DH.same{H H':Hp}{a:Addr}{xs:List (K×Addr×V)}(s:a_ H H')(h:DH κ H a xs):DH κ H' a xs:=let⟨⟨o,e,q⟩,k⟩:=h;⟨⟨o,s _ _ e,q⟩,λx hx=>κ.same (λb ys e=>s _ _ e) (k x hx)⟩
def DH.to{H':Hp}{xs:List (K×Addr×V)}(s:∀b ys,H b=some (.tup ys)->H' b=some (.tup ys))(e:H' a=H a)(h:DH κ H a xs):DH κ H' a xs:=let⟨⟨o,e',q⟩,k⟩:=h;⟨⟨o,e.trans e',q⟩,λx hx=>κ.same s (k x hx)⟩
def DH.nodup{xs:List (K×Addr×V)}(h:DH κ H a xs):(xs.map (·.1)).Nodup:=by obtain⟨⟨o,e,_,_,us,es,ep,r,_,_,_,n⟩,_⟩:=h;rw[r.keys];exact n
theorem vV{xs:List (K×Addr×V)}(ok:A8 P w H h)(d:DH κ H a xs):xs.length<=sizeLine/\(a == sysModules)=false/\∃us,VH xs us/\h.DictOfH κ.kind a us:=by
 obtain⟨⟨o,e0,z,y,us,es,ep,r,e2,e3,e4,e5⟩,kk⟩:=d;refine⟨z,y,us,r,o,es,ep,eM ok e0,e2,e3,e4,?_,e5⟩;clear e4 e5 z;induction r with
 |nil=>intro x hx;exact nomatch hx
 |@cons p q ps qs hq t ih=>
  intro x hx;rcases List.mem_cons.mp hx with e|hx
  ·subst e;rw[<-hq.1,<-hq.2.1];exact κ.is ok (kk p abd)
  ·exact ih (λx hx=>kk x (aa9 _ hx)) x hx
end
variable{o:Obj}{td ty:TE}
section
variable{X:Cx}{K:Type}[DecidableEq K]{κ:KH X.prog X.w K}{pins:List (Addr×Obj)}{σ:St}{H:Hp}{s:Shared}{a b:Addr}{v:V}{r:Value}{xs:List (K×Addr×V)}{k:K}{A:Around}{E:Value->Shared->Prop}
def jZ(hu:A.units+80<cLine)(I:Inv X pins σ H s)(d:DH κ H a xs)(ks:κ.key H k b)(hv:eI xs k=some v)(h:∀w' s',Inv X pins σ H s'->RelV v w'->Q w' s'):
 wpAny (model X.prog X.w) A (getItem (.ref a) (.ref b)) Q E s:=by
 obtain⟨z,hd,us,rel,dd⟩:=vV I.i4 d;obtain⟨w',hw,Dk⟩:=DA.some_of (v:=v) (o:=(atKey us k).map (·.2)) (by rw[<-hv];exact rel.val k);obtain⟨p,hp,IG⟩:=Option.map_eq_some_iff.mp hw;refine ad8 (knd:=κ.kind) (κ.room hu) (κ.is I.i4 ks) dd hp ?_;rw[IG];exact h w' _ (I.tok _) Dk
def yD(hu:A.units+80<cLine)(I:Inv X pins σ H s)(d:DH κ H a xs)(ks:κ.key H k b)(h:∀s',Inv X pins σ H s'->Q (.bool (!(eI xs k).isSome)) s'):
 wpAny (model X.prog X.w) A (compareOp .NotIn (.ref b) (.ref a)) Q E s:=by
 obtain⟨z,hd,us,rel,dd⟩:=vV I.i4 d;refine wpAny_notIn_heap (knd:=κ.kind) (κ.room hu) (κ.is I.i4 ks) hd dd ?_;have q:=(rel.val k).p7;rw[abW]at q;rw[<-q];exact h _ (I.tok _)
theorem jY{Q:Unit->Shared->Prop}(hu:A.units+80<cLine)(I:Inv X pins σ H s)(d:DH κ H a xs)(ks:κ.key H k b)(l:xs.length<sizeLine)(rv:RelV v r)(h:∀o s',NZ κ a (fB xs k b v) o->Inv X pins σ (upd H a (ce a o)) s'->Q () s'):
 wpAny (model X.prog X.w) A (setItem (.ref a) (.ref b) r) Q E s:=by
 obtain⟨z,hd,us,rel,dd⟩:=vV I.i4 d;have hz:us.length<=sizeLine:=by rw[<-acz rel];exact z
 have hl:(fB xs k b v).length<=sizeLine:=by have:=mF xs k b v;lia
 refine wpAny_setItem_heap (hsz:=hz) (knd:=κ.kind) (κ.room hu) (κ.is I.i4 ks) dd λh' JV hs=>?_;obtain⟨q,es,ep,hq,h2,h3,h4,_,h5⟩:=JV;obtain⟨⟨o0,e0,_⟩,_⟩:=d;exact h q _ ⟨hl,hd,_,es,ep,rel.put k rv,h2,h3,h4,h5⟩ (lT I (by rw[e0];exact True.intro) hs ⟨q,hq⟩ (jH hq))
def uQ{w:World}{κ:KH P w K}(h:∀x∈xs,κ.key H x.1 x.2.1)(hk:κ.key H k a):∀x∈fB xs k a v,κ.key H x.1 x.2.1:=λx hx=>by
 unfold fB at hx;split at hx
 ·obtain⟨y,hy,rfl⟩:=List.mem_map.mp hx;split
  ·exact h y hy
  ·exact h y hy
 ·rcases List.mem_append.mp hx with g|g
  ·exact h x g
  ·rw[List.mem_singleton.mp g];exact hk
def DH.put{w:World}{κ:KH P w K}(d:DH κ H a xs)(ks:κ.key H k b)(ob:NZ κ a (fB xs k b v) o):DH κ (upd H a (ce a o)) a (fB xs k b v):=by obtain⟨⟨o0,e0,_⟩,kk⟩:=d;refine⟨⟨o,aa,ob⟩,λx hx=>κ.same (λc ys e=>?_) (uQ kk ks x hx)⟩;rw[al (dZ e e0 (λz=>nomatch z))];exact e
inductive uh{P:Program}{w:World}{K:Type}[DecidableEq K](κ:KH P w K)(x y:V)(H:Hp)(Q:VK):Prop
 |mk:∀a b xs k,x=.ref b->y=.ref a->DH κ H a xs->κ.key H k b->Q (.bl (!(eI xs k).isSome)) H->uh κ x y H Q
def gy(hu:X.A.units+80<cLine):B8 X (compareOp .NotIn) (uh κ):=by intro pins s σ H x y v u Q I rx ry h;obtain⟨a,b,xs,k,rfl,rfl,d,ks,q⟩:=h;cases rx;cases ry;exact yD hu I d ks λs' I'=>⟨.bl _,H,I',rfl,q⟩
inductive ud(P:Program)(w:World)(κ:KH P w K)(Q:VK)(x y:V)(H2:Hp):Prop
 |mk:∀a b xs k v,x=.ref a->y=.ref b->DH κ H2 a xs->κ.key H2 k b->eI xs k=some v->Q v H2->ud P w κ Q x y H2
def zJ{w:World}(κ:KH P w K)(td ty:TE):TE:=λσ H Q=>td σ H λx H1=>ty σ H1 λy H2=>ud P w κ Q x y H2
def fN{o:Expr}(hu:X.A.units+80<cLine)(ho:QE X o td)(hi:QE X i ty)(hs:autoParam (Bj i) υ):QE X (.Subscript o i pos) (zJ κ td ty):=⟨λpins s σ H Q I h=>by
 refine kJ PySem.F.slot_dict_getitem.lookup hs (j9 (ho.h pins s σ H _ I h) λu s1 ⟨x,H1,I1,rx,q1⟩=>j9 (hi.h pins s1 σ H1 _ I1 q1) λiv s2 ⟨y,H2,I2,ry,a,b,xs,k,v,ex,ey,d,ks,hv,q2⟩=>?_);subst ex ey;cases rx;cases ry;obtain⟨_,_,us,_,dd⟩:=vV I2.i4 d;exact⟨dd.typeIs,jZ hu I2 d ks hv λw' s3 I3 Dk=>⟨v,H2,I3,Dk,q2⟩⟩⟩
def Ae{w:World}(κ:KH P w K)(td ty tv:TE):TS:=λD σ H=>tv σ H λv H1=>td σ H1 λx H2=>ty σ H2 λy H3=>∃a b xs k,x=.ref a/\y=.ref b/\DH κ H3 a xs/\κ.key H3 k b/\xs.length<sizeLine/\∀o,NZ κ a (fB xs k b v) o->D.nx σ (upd H3 a (ce a o))
def iH{o value:Expr}{pos':Pos}{tv:TE}(hu:X.A.units+80<cLine)(ho:QE X o td)(hi:QE X i ty)(hv:QE X value tv)(hs:autoParam (swapsWith value (some (.Subscript o i pos')) pos.line X.env=pure false) θ):QS X (.Assign [.Subscript o i pos'] value pos) (Ae κ td ty tv):=⟨λpins s σ H D I h=>by
 refine wpAny_Assign_Subscript (j9 (hv.h pins s σ H _ I h) λr s1 ⟨v,H1,I1,rv,q1⟩=>j9 (ho.h pins s1 σ H1 _ I1 q1) λu s2 ⟨x,H2,I2,rx,q2⟩=>j9 (hi.h pins s2 σ H2 _ I2 q2) λiv s3 ⟨y,H3,I3,ry,a,b,xs,k,ex,ey,d,ks,l,q3⟩=>?_) hs;subst ex ey;cases rx;cases ry;exact jY hu I3 d ks l rv λo s4 ob I4=>⟨σ,_,I4,q3 o ob⟩⟩
def zH{w:World}(κ:KH P w K):TE:=λ_ H Q=>∀p o,H p=none->NZ κ p [] o->Q (.ref p) (upd H p (ce p o))
def mD:QE X (.Dict [] [] pos) (zH κ):=⟨λpins s σ H Q I h=>by
 have e:(s.heap.push { cls:=.type "dict",data:=.dict #[] }).get? s.heap.objs.size=some { cls:=.type "dict",data:=.dict #[] }:=aaT _ rfl;refine wpAny_Dict_empty ⟨.ref s.heap.objs.size,_,I.laid (a:=s.heap.objs.size) (o:=ce s.heap.objs.size { cls:=.type "dict",data:=.dict #[] }) (t':=s.toks) (λ_ _ q=>aaH _ q) (aaI _) (jH e),rfl,h _ _ (I.i4.fresh (aaI _)) ⟨aa3 _,beq_eq_false_iff_ne.mpr (abF (aaU I.big)),[],#[],_,.nil,?_,rfl,rfl,.nil⟩⟩;first|exact⟨rfl,rfl⟩|(constructor<;>rfl)|(unfold Obj.ExactDict;simp)⟩
def DH.new{w:World}{κ:KH P w K}{H:Hp}{p:Addr}(ob:NZ κ p [] o):DH κ (upd H p (ce p o)) p []:=⟨⟨o,aa,ob⟩,λx hx=>nomatch hx⟩
end
def We(d:Addr)(o:Obj)(ks:List Addr):It:=⟨λi H=>i<ks.length/\H d=some (ce d o),λi H x H'=>H'=H/\∃a,ks[i]?=some a/\x=.ref a,λi H=>i=ks.length/\H d=some (ce d o)⟩
def ui(es:Array DictEntry)(ks:List Addr):Prop:=es.size=ks.length/\∀(i:Nat)(e:DictEntry),es[i]?=some e->∃a,ks[i]?=some a/\e.key=.ref a
variable{it d:Addr}{es:Array DictEntry}{ks:List Addr}
theorem qt{w:World}{F:W.Frag}{ep:Nat}(ne:d≠it)(hx:o.ExactDict)(hd:o.data=.dict es ep)(hk:ui es ks):
 zd P w F tg (We d o ks) [it] it (λi h=>h.IsKeyIter it d i es.size ep) where
 mem:=by simp
 obj:=λi h st b hb=>by
  have e:b=it:=by simpa using hb
  subst e;obtain⟨o,e,c,d⟩:=st;exact⟨o,e,λv z=>by rw[d]at z;cases z⟩
 keep:=λi h h' st k=>st.at λo e=>k it (by simp) o e
 item:=by
  intro X hP hw hK hc i pins s σ H E I hf st hg;subst hP hw hK;obtain⟨f0,f1,f2,f3,f4,f5⟩:=hf it (by simp);have o9:i<es.size:=by rw[hk.1];exact hg.1
  obtain⟨a,ha,IJ⟩:=hk.2 i _ (acD o9);refine mz st ⟨o,eM I.i4 hg.2,hx,hd⟩ (acD o9) λh' FC sb=>?_;have I1:Inv X pins σ H { s with heap:=h' }:=I.turned (t':=s.toks) (λb o hb e=>(sb.2 b hb).trans e) f0 f1 f3 f4 f5;obtain⟨oi,e1,c1,d1⟩:=id FC;rw[IJ];exact⟨_,rfl,sX (s:={ s with heap:=h' }) e1 c1 d1 (by decide) ⟨.ref a,H,I1,rfl,⟨rfl,a,ha,rfl⟩,FC,λb hb=>(hf b hb).1⟩⟩
 done:=by
  intro X hP hw hK hc i pins s σ H E I hf st hg;subst hP hw hK;obtain⟨f0,f1,f2,f3,f4,f5⟩:=hf it (by simp);have e:i=es.size:=by rw[hk.1];exact hg.1
  subst e;exact rz (I.ok.hd hc) st ⟨o,eM I.i4 hg.2,hx,hd⟩ λh' eb=>⟨rfl,I.turned (t':=s.toks) (λb o hb e=>eb b o hb e) f0 f1 f3 f4 f5⟩
 self:=λ_ _ _ _ _ st h=>wpAny_pyIter_keyiter st h
section
variable{K:Type}[DecidableEq K]
theorem mX{w:World}{κ:KH P w K}{xs:List (K×Addr×V)}{us:List (K×Addr×Value)}(r:VH xs us)(he:es.toList=us.map (entryOfKey κ.kind)):ui es (xs.map (·.2.1)):=by
 have e1:es.size=xs.length:=by rw[acz r,<-aaG (f:=entryOfKey κ.kind),<-he];simp
 refine⟨by rw[e1,aaG],λi e h=>?_⟩;have h2:es.toList[i]?=some e:=by rw[aeE];exact h
 rw[he,aaK]at h2;clear he e1 h;induction r generalizing i with
 |nil=>simp at h2
 |@cons p q ps qs hq t ih=>
  cases i with
  |zero=>
   rw[aep]at h2;cases h2;exact⟨p.2.1,rfl,by rw[hq.2.1];rfl⟩
  |succ i=>
   rw[acg]at h2;rw[aa7,acg];exact ih i h2
variable{X:Cx}{κ:KH X.prog X.w K}{tg:Expr}
inductive uj(P:Program)(w:World)(κ:KH P w K)(R:It->Hp->Prop)(x:V)(H1:Hp):Prop
 |mk:∀d xs,x=.ref d->DH κ H1 d xs->(∀o,H1 d=some (ce d o)->R (We d o (xs.map (·.2.1))) H1)->uj P w κ R x H1
def AW{w:World}(κ:KH P w K)(te:TE):TI:=λσ H R=>te σ H λx H1=>uj P w κ R x H1
def uK(he:QE X e te):QI X tg e (AW κ te):=⟨λpins s σ H R I h=>by
 refine j9 (he.h pins s σ H _ I h) ?_;rintro v s1 ⟨x,H1,I1,r1,d,xs,ex,dd,q⟩;subst ex;cases r1;obtain⟨⟨o,e0,z,ns,us,es,ep,rel,hx,hd,h4,_⟩,_⟩:=dd;have g:=eM I1.i4 e0;refine mB ns ⟨o,g,hx,hd⟩ ?_;refine⟨s1.heap.objs.size,[s1.heap.objs.size],_,_,H1,rfl,I1.kept (t':=s1.toks) λb o e=>aaH _ e,qt (aaU (aaJ g)) hx hd (mX rel h4),⟨_,aaT _ rfl,rfl,rfl⟩,λb hb=>?_,q o e0⟩;have e:b=s1.heap.objs.size:=by simpa using hb
 subst e;exact I1.Gb (aaI _) (I1.i4.fresh (aaI _))⟩
theorem vL(Pv:Nat->St->Hp->Prop)(h0:Pv 0 σ H)(hl:∀i σ H,i<=ks.length->Pv i σ H->H d=some (ce d o))(hs:∀i a σ H,ks[i]?=some a->Pv i σ H->g (.ref a) σ H λDu H2=>tb { D with nx:=Pv (i+1),ct:=Pv (i+1),bk:=D.nx } Du H2)(hd:∀σ H,Pv ks.length σ H->D.nx σ H):
 ∃W:Nat->Nat->St->Hp->Prop,(∃m,W 0 m σ H)/\∀i m σ H,W i m σ H ->
  ((We d o ks).stop i H/\D.nx σ H)\/((We d o ks).go i H/\∃N:St->Hp->Prop,(∀k_ H',N k_ H'->∃m',m'<m/\W (i+1) m' k_ H')/\∀x H',(We d o ks).Iz i H x H'->g x σ H' λDu H2=>tb { D with nx:=N,ct:=N,bk:=D.nx } Du H2):=by
 refine⟨λi m σ H=>m=ks.length-i/\i<=ks.length/\Pv i σ H,⟨_,rfl,aa3 _,h0⟩,?_⟩;rintro i m σ H ⟨rfl,hi,p⟩;have q:=hl i σ H hi p;by_cases o9:i<ks.length
 ·refine .inr ⟨⟨o9,q⟩,Pv (i+1),λk_ H' p'=>⟨ks.length-(i+1),by lia,rfl,o9,p'⟩,?_⟩;rintro x H' ⟨rfl,a,ha,rfl⟩;exact hs i a σ H' ha p
 ·have e:i=ks.length:=by lia
  subst e;exact .inl ⟨⟨rfl,q⟩,hd σ H p⟩
inductive uc(P:Program)(w:World)(κ:KH P w K)(Q:VK)(x:V)(H1:Hp):Prop
 |mk:∀a xs,x=.ref a->DH κ H1 a xs->(∀r,H1 r=none->Q (.ref r) (upd H1 r (.lst (xs.map λx=>V.ref x.2.1))))->uc P w κ Q x H1
def zE{w:World}(κ:KH P w K)(te:TE):TE:=λσ H Q=>te σ H λx H1=>uc P w κ Q x H1
theorem uM{p1 q1:Pos}(hc:X.calm=true)(g1:Gl X "list")(m1:X.mg "list" = none)(he:QE X e te)(IE:autoParam (starEach [e] X.env=[(false,eval e X.env)]) θ):
 QE X (.Call (.Name "list" p1) [e] [] q1) (zE κ te):=⟨λpins s σ H Q I h=>by
 refine Call_ (eh I g1 m1 aci (abH ?_ IE rfl));rw[IE];show wpAny _ _ (spliced ((false,eval e X.env)::backTo q1 [])) _ _ s;refine ab6 (j9 (he.h pins s σ H _ I h) ?_);rintro u s1 ⟨x,H1,I1,r1,a,xs,ex,ds,k⟩;subst ex;cases r1;refine acf ?_;obtain⟨⟨o,e0,z,ns,us,es,ep,rel,hx,hd,h4,_⟩,kk⟩:=ds;clear kk;have ka:=mX (κ:=κ) rel h4;refine sI (I1.ok.hd hc) ns ⟨o,eM I1.i4 e0,hx,hd⟩ (λh' tk acc c' hk hS ha=>?_) (by rw[ka.1,aaG];exact z);have rv:Vals (xs.map λx=>V.ref x.2.1) acc.toList:=by
  obtain⟨a1,a2⟩:=ha;have e1:acc.toList=(xs.map (·.2.1)).map Value.ref:=by
   refine ad1 λi=>?_;by_cases hi:i<es.size
   ·obtain⟨e,g1,g2⟩:=a2 i (acc[i]'(by lia)) (by simp[a1,hi]);obtain⟨b,b1,b2⟩:=ka.2 i e g1;have c1:acc.toList[i]?=some (acc[i]'(by lia)):=by simp[a1,hi]
    rw[c1,aaK,b1,g2,b2];rfl
   ·rw[abL (by simp[a1];lia),abL (by rw[aaG,<-ka.1];lia)]
  rw[e1,acB];clear e1 a1 a2 ka h4 rel z k;induction xs with
  |nil=>exact .nil
  |cons p ps ih=>exact .cons rfl ih
 refine⟨.ref s1.heap.objs.size,_,I1.laid (t':=tk) (λb u eb=>hk b u eb) (aaI _) (show i9 X.prog X.w _ h' _ (.lst (xs.map λx=>V.ref x.2.1))from⟨by rw[aaG];exact z,acc.toList,c',rv,?_⟩),rfl,k _ I1.fresh⟩;rw[hS]⟩
inductive An{P:Program}{w:World}(κ:KH P w K)(o i:V)(H:Hp)(Q:VK):Prop
 |mk:∀a b xs k v,o=.ref a->i=.ref b->DH κ H a xs->κ.key H k b->eI xs k=some v->Q v H->An κ o i H Q
inductive Am{P:Program}{w:World}(κ:KH P w K)(o i v:V)(H:Hp)(Q:Hp->Prop):Prop
 |mk:∀a b xs k,o=.ref a->i=.ref b->DH κ H a xs->κ.key H k b->xs.length<sizeLine->(∀ob,NZ κ a (fB xs k b v) ob->Q (upd H a (ce a ob)))->Am κ o i v H Q
def Cc(hu:X.A.units+80<cLine):Cm X (An κ):=by intro pins s σ H o i ov iv Q I ro ri h;obtain⟨a,b,xs,k,v,rfl,rfl,d,ks,hv,q⟩:=h;cases ro;cases ri;exact jZ hu I d ks hv λw' s' I' r'=>⟨v,H,I',r',q⟩
def BK(hu:X.A.units+80<cLine):zq X (Am κ):=by intro pins s σ H o i v ov iv u Q I ro ri rv h;obtain⟨a,b,xs,k,rfl,rfl,d,ks,l,q⟩:=h;cases ro;cases ri;exact jY hu I d ks l rv λob s' hob I'=>⟨_,I',q ob hob⟩
end
variable{xs:List V}
def kc(Pv:Nat->St->Hp->Prop)(h0:Pv 0 σ H)(hl:∀i σ H,i<=xs.length->Pv i σ H->d9 K H a xs)(hs:∀i x σ H,xs[i]?=some x->Pv i σ H->∀E:gR,(∀k_ H',Pv (i+1) k_ H'->E.nx k_ H')->(∀v H',D.rt v H'->E.rt v H')->g x σ H λDu H2=>tb E Du H2)(hd:∀σ H,Pv xs.length σ H->D.nx σ H):
 ∃W:Nat->Nat->St->Hp->Prop,(∃m,W 0 m σ H)/\∀i m σ H,W i m σ H ->
  ((HK K a).stop i H/\D.nx σ H)\/((HK K a).go i H/\∃N:St->Hp->Prop,(∀k_ H',N k_ H'->∃m',m'<m/\W (i+1) m' k_ H')/\∀x H',(HK K a).Iz i H x H'->g x σ H' λDu H2=>tb { D with nx:=N,ct:=N,bk:=D.nx } Du H2):=cE Pv h0 hl (λi x σ H p0 p1=>hs i x σ H p0 p1 _ (λ_ _ z=>z) (λ_ _ z=>z)) hd
def nc(Pv:Nat->St->Hp->Prop)(h0:Pv 0 σ H)(hl:∀i σ H,i<=xs.length->Pv i σ H->b9 K H a xs)(hs:∀i x σ H,xs[i]?=some x->Pv i σ H->∀E:gR,(∀k_ H',Pv (i+1) k_ H'->E.nx k_ H')->(∀v H',D.rt v H'->E.rt v H')->g x σ H λDu H2=>tb E Du H2)(hd:∀σ H,Pv xs.length σ H->D.nx σ H):
 ∃W:Nat->Nat->St->Hp->Prop,(∃m,W 0 m σ H)/\∀i m σ H,W i m σ H ->
  ((IT K a).stop i H/\D.nx σ H)\/((IT K a).go i H/\∃N:St->Hp->Prop,(∀k_ H',N k_ H'->∃m',m'<m/\W (i+1) m' k_ H')/\∀x H',(IT K a).Iz i H x H'->g x σ H' λDu H2=>tb { D with nx:=N,ct:=N,bk:=D.nx } Du H2):=fk Pv h0 hl (λi x σ H p0 p1=>hs i x σ H p0 p1 _ (λ_ _ z=>z) (λ_ _ z=>z)) hd
def bt{a b:TS}(h:∀N:St->Hp->Prop,(∀k_ H',b D k_ H'->N k_ H')->a { D with nx:=N } σ H):IZ a b D σ H:=h _ λ_ _ x=>x
section
variable{X:Cx}{Dc:Addr}{dn n:Str}{i:Nat}{np Dl:Pos}{ts:TS}{b0:Stmt}{DN:List Stmt}{pins:List (Addr×Obj)}{σ:St}{H1:Hp}{s1 s':Shared}{D:gR}{ev:Value}{Q:Flow->Shared->Prop}
variable{k:Nat}{f:Addr}{fd:FuncData}{ps:List Str}{sp:Sp}{x:Str}{p l_ Fz:Pos}{e:Expr}{es:List Expr}{t:TA}{EX:XK}{N:Hp->Prop}{H:Hp}{s:Shared}
end
section
variable{X:Cx}{Dc:Addr}{dn n:Str}{i:Nat}{np Dl pos ipos:Pos}{ts:TS}{b0:Stmt}{DN:List Stmt}{c:Expr}{tc:TT}{k1 k2:Nat}{f1 f2:Addr}{fd1 fd2:FuncData}{ps1 ps2:List Str}{sp1 sp2:Sp}{x1 x2:Str}{p1 p2 c1 c2 q1 q2:Pos}{e1 e2:Expr}{es1 es2:List Expr}{t1 t2:TA}
end
variable{vs:Array Value}{t:Addr}
theorem kI{i:Nat}{x:Value}(hi:s.heap.IsTupleIter it t i)(ht:s.heap.IsTuple t vs)(hx:vs[i]?=some x)(q:∀h',h'.IsTupleIter it t (i+1)->Heap.SameBut it s.heap h'->Q x { s with heap:=h' }):wpAny (model prog w) A (Builtin.SmallTypes.nextOf (.ref it)) Q E s:=by obtain⟨o,ho,hc,hd⟩:=id hi;obtain⟨ot,hot,_,nt,hdt⟩:=ht;unfold Builtin.SmallTypes.nextOf;refine aaC (abR (name:=Str.ofString "__next__") hi.typeIs acI (abK acI hi.typeIs aeA ?_ (aev _)));show wpAny _ _ (field (.ref it) 0 >>= _) _ _ s;refine aaC (abU ho hd (x:=.ref t) rfl (show wpAny _ _ (if(Value.ref t == Value.none)=true then _ else _) _ _ s from ?_));rw[aaR (show¬((Value.ref t == Value.none)=true)from aaQ)];show wpAny _ _ (field (.ref it) 1 >>= _) _ _ s;refine aaC (abU ho hd (x:=.int i 0) rfl (show wpAny _ _ (seqItems? (.ref t) >>= _) _ _ s from aaC (acm hot hdt ?_)));simp only[ab7,hx];refine aaC (acF ho hd (by simp) (aaE ⟨x,rfl,aaE (q _ ⟨_,abC _ ho (ac4 (ab5 hd _)),(Obj.cls_mapFields ..).trans hc,?_⟩ (ade ..))⟩));rw[ab5 hd];simp[rawInt]
theorem nU{i:Nat}(hh:A.handled=none)(hi:s.heap.IsTupleIter it t i)(ht:s.heap.IsTuple t vs)(hx:vs[i]?=none)(q:∀h' e,Heap.ExtBut it s.heap h'->(∃o,h'.get? e=some o/\o.cls=.type "StopIteration")->E (.ref e) { s with heap:=h' }):wpAny (model prog w) A (Builtin.SmallTypes.nextOf (.ref it)) Q E s:=by
 obtain⟨o,ho,hc,hd⟩:=id hi;obtain⟨ot,hot,_,nt,hdt⟩:=ht;unfold Builtin.SmallTypes.nextOf;refine aaC (abR (name:=Str.ofString "__next__") hi.typeIs acI (abK acI hi.typeIs aeA ?_ (aev _)));show wpAny _ _ (field (.ref it) 0 >>= _) _ _ s;refine aaC (abU ho hd (x:=.ref t) rfl (show wpAny _ _ (if(Value.ref t == Value.none)=true then _ else _) _ _ s from ?_));rw[aaR (show¬((Value.ref t == Value.none)=true)from aaQ)];show wpAny _ _ (field (.ref it) 1 >>= _) _ _ s;refine aaC (abU ho hd (x:=.int i 0) rfl (show wpAny _ _ (seqItems? (.ref t) >>= _) _ _ s from aaC (acm hot hdt ?_)));simp only[ab7,hx];refine aaC (acG (aaC (acF ho hd (by simp) (show wpAny _ _ (newExc (.type "StopIteration") [] >>= _) _ _ _ from aaC ?_))));simp only[newExc,newTuple];refine aaC (abx (aaC (m:=firstArgMember _ _) (ab1 (a:=Value.none) (by first|rfl|(simp only[firstArgMember];rfl)) (abx ?_ (by size_fits)))) (by size_fits));simp only[raiseNew];refine aaC (wpAny_handled ?_);first|rw[show A.in1.handled=none from hh]|rw[hh]
 exact aaC (aaE (wpAny_throw (q _ _ (((ade ..).extBut.push _).push _) ⟨_,aaT _ rfl,rfl⟩)))
variable{h':Heap}
def CW{i:Nat}(x:h.IsTupleIter it t i)(k:∀o,h.get? it=some o->h'.get? it=some o):h'.IsTupleIter it t i:=let⟨o,ho,r⟩:=x;⟨o,k o ho,r⟩
def Co(x:h.IsTuple t vs)(k:∀o,h.get? t=some o->h'.get? t=some o):h'.IsTuple t vs:=let⟨o,ho,r⟩:=x;⟨o,k o ho,r⟩
variable{X:Cx}{elts:List Expr}{k:Nat}{D7:Pos}
abbrev Pg(k:Tok):List (Str×Value):=[(Str.ofString "start",.int 1 k)]
def yH(a:Value)(k:Tok):checkTypeCall "enumerate" ⟨[a],Pg k⟩=pure ():=by kernel_rfl
def yI(a:Value)(k:Tok):checkBuiltinCall "enumerate.__new__" ⟨[.type "enumerate",a],Pg k⟩=pure ():=by kernel_rfl
def yM(o a:Value)(k:Tok):argsOk "object.__init__" ⟨[o,a],Pg k⟩:=by unfold argsOk;rw[signature?_of (id:="object.__init__") (n:=['_','_','t','i','n','i','_','_']) (o:=['t','c','e','j','b','o']) (by kernel_rfl) F.owner_object];kernel_rfl
def yJ(l:Addr)(vs:Array Value)(k:Tok):
 Meets (Builtin.«enumerate.__new__» ⟨[.type "enumerate",.ref l],Pg k⟩) (λ_ R s=>s.heap.IsTuple l vs /\
  ∀h0 h1 h2,h0=s.heap->h1=h0.push { cls:=.type "tuple_iterator",data:=.fields #[.ref l,.int 0 0] }->h2=h1.push { cls:=.type "enumerate",data:=.fields #[.none,.bool false,.ref h0.objs.size,rawInt 1,.none,.none] }->R (.ok (.ret (.ref h1.objs.size))) { s with heap:=h2 }):=
 .of_wp λprog w A R s h=>by
  obtain⟨hp,g,d,tk,os⟩:=s;obtain⟨T_,h⟩:=h;have L6:=sub_enumerate;have Mq:Heap.IsTuple (Shared.heap ⟨hp,g,d,tk,os⟩) l vs:=T_;have h:=h _ _ _ rfl rfl rfl
  wp_walk
  refine wpAny_stack_any λst=>aaE ?_;split
  ·rename_i c _ _ _ _ _;cases(c == Value.type "enumerate")
   ·wp_walk using acV Mq
    exact⟨_,rfl,h⟩
   ·wp_walk using acV Mq
    exact⟨_,rfl,h⟩
  ·wp_walk using acV Mq
   exact⟨_,rfl,h⟩
variable{T:String}
def yK{newId:String}{self a:Value}{k:Tok}(hl:typeLookup (.type T) "__init__" = pure (some (.builtin "object.__init__")))(hm:Bind.madeBy (.type T)=pure (some newId))(EY:(some newId != some "object.__new__")=true):
 Meets (Builtin.«object.__init__» ⟨[self,a],Pg k⟩) (λ_ R s=>s.TypeIs self T/\R (.ok (.ret .none)) s):=by
 refine Meets.of_wp λprog w A R s hs=>?_;obtain⟨hT,hq⟩:=hs;repeat any_goals (first|assumption|wp_step)
 exact⟨_,rfl,hq⟩
variable{l:Addr}
def yL{k:Tok}(g1:s.heap.IsTuple l vs)(q:∀h',IsEnum h' (s.heap.objs.size+1) s.heap.objs.size 1 .none->h'.IsTupleIter s.heap.objs.size l 0->(∀c o,s.heap.get? c=some o->h'.get? c=some o)->Q (.ref (s.heap.objs.size+1)) { s with heap:=h' }):
 wpAny (model prog w) A (call (.type "enumerate") [.ref l] (Pg k)) Q E s:=by
 obtain⟨c,tl,TU⟩:=F.called_enumerate.mro;have hmade:=F.called_enumerate.made;have L6:=F.called_enumerate.sub;have hct:=yH (.ref l) k;refine ad9 (aer (show wpAny _ _ (callAny (.type "enumerate") _) _ _ _ from aaE ⟨adk _ (by decide +kernel),acu F.entry_type_call ?_⟩));rw[Around.under_plain (weight_type_call_type "enumerate" [.ref l] (Pg k)) rfl];have h1:=F.called_enumerate.notType;have h2:=F.called_enumerate.canCreate;repeat any_goals (first|assumption|wp_step)
 have hS:(s.heap.push { cls:=.type "tuple_iterator",data:=.fields #[.ref l,.int 0 0] }).objs.size=s.heap.objs.size+1:=ac2 ..;refine acr (ace F.called_enumerate.plain F.entry_enumerate_new (ab1 (yI (.ref l) k) (yJ l vs k prog w A.in1 (wants (λobj i8=>i8.TypeIs obj "enumerate"/\Q obj i8) E) s ⟨g1,λh0 h1 h2 e0 e1 e2=>?_⟩))) λr i8 hr=>?_
 ·subst e0 e1 e2;have he:IsEnum ((s.heap.push { cls:=.type "tuple_iterator",data:=.fields #[.ref l,.int 0 0] }).push { cls:=.type "enumerate",data:=.fields #[.none,.bool false,.ref s.heap.objs.size,rawInt 1,.none,.none] }) (s.heap.objs.size+1) s.heap.objs.size 1 .none:=by
   have:=aaT (s.heap.push { cls:=.type "tuple_iterator",data:=.fields #[.ref l,.int 0 0] }) (o:={ cls:=.type "enumerate",data:=.fields #[.none,.bool false,.ref s.heap.objs.size,rawInt 1,.none,.none] }) rfl;rw[hS]at this;exact this
  show _/\_;rw[hS];exact⟨⟨_,he,rfl⟩,q _ he ⟨_,aaH _ (aaT _ rfl),rfl,rfl⟩ λc o x=>aaH _ (aaH _ x)⟩
 ·cases r with
  |error e=>exact hr
  |ok fl=>
   cases fl with
   |ret obj=>
    obtain⟨hT,hq⟩:=hr;have hli:=F.called_enumerate.init.lookup;have Xx:=F.called_enumerate.init.bind obj;repeat any_goals (first|assumption|wp_step)
    refine acr (ace F.called_enumerate.init.plain F.entry_object_init (F.called_enumerate.init.check _ _ _ _ _ _ _ _ hT (yM obj (.ref l) k) (yK F.called_enumerate.init.lookup F.called_enumerate.made (by decide) prog w A.in1 (wants (λr DM=>r=.none/\Q obj DM) E) i8 ⟨hT,rfl,hq⟩))) λZd DM JD=>?_;cases Zd with
    |error e=>exact JD
    |ok U7=>
     cases U7 with
     |ret r=>
      obtain⟨rfl,hq⟩:=JD;repeat any_goals (first|assumption|wp_step)
     |_=>exact JD.elim
   |_=>exact hr.elim
def ky{M:Model}{A:Around}{E:Value->Shared->Prop}{s:Shared}{env:Env}{Pf:List Keyword}(h:wpAny M A (spliced (backTo pos (starEach [e] env))) (λvs i8=>wpAny M A (evalAll ((backToKw pos (keywordEach Pf env)).map (·.2))) (λe_ DM=>wpAny M A (call (.type T) vs (((backToKw pos (keywordEach Pf env)).filterMap (·.1)).zip e_)) Q E DM) E i8) E s)(he:backTo pos (starEach [e] env)=(false,eval e env)::backTo pos (starEach [] env))(hp:(backTo pos (starEach [e] env)).any (·.1)=false)(ha:(backToKw pos (keywordEach Pf env)).all (·.1.isSome)=true)(hk:(backToKw pos (keywordEach Pf env)).any (·.1.isNone)=false):
 wpAny M A (callWith pos (.type T) [] (backTo pos (starEach [e] env)) (backToKw pos (keywordEach Pf env))) Q E s:=by
 have g:wpAny M A (evalArgs (.type T) true (backTo pos (starEach [e] env)) (backToKw pos (keywordEach Pf env))) (λa i8=>wpAny M A (call (.type T) ([]++a.pos) a.kw) Q E i8) E s:=by rw[he]at h⊢;exact evalArgs_kwB ha h
 unfold callWith;refine aaC (abu (abp g (λa i8 Jy=>aaC (acy ?_)) λ_ _ x=>x));rw[hp,hk];exact aaC (aaE (aaC (abp Jy (λr DM hr=>aaC (abu (wpAny_point (aaE hr)))) λ_ _ x=>x)))
theorem wX{prog:Program}{w:World}{A:Around}(hh:A.handled=none)(it t:Addr)(EY:t≠it)(vs:Array Value):
 Draws prog w A it [it,t] (vs.size+1) (λj v=>∃i,j=i+1/\vs[i]?=some v) (λj h=>∃i,j=i+1/\h.IsTupleIter it t i/\h.IsTuple t vs) where
 live:=λj h ⟨i,_,⟨o,ho,_⟩,_⟩=>⟨o,ho⟩
 frame:=λj h h' ⟨i,e,hi,ht⟩ k=>⟨i,e,CW hi λo x=>k it (by simp) o x,Co ht λo x=>k t (by simp) o x⟩
 item:=λj s Q E hj ⟨i,e,hi,ht⟩ hQ=>by
  have o9:i<vs.size:=by lia
  have hx:vs[i]?=some vs[i]:=acD o9;refine kI hi ht hx λh' Nn hs=>hQ _ h' s.toks ⟨i,e,hx⟩ ⟨i+1,by lia,Nn,Co ht λo x=>(hs.2 t EY).trans x⟩ hs
 done:=λs Q E ⟨i,e,hi,ht⟩ hE=>nU hh hi ht (Array.getElem?_eq_none (by lia)) hE
def CA(xs:List V):Nat->List V->Prop:=λi vs=>∃x,xs[i]?=some x/\vs=[.int ((i:Int)+1),x]
theorem ux{w:World}{elts:List Expr}{k:Nat}(xs:List V){e:Addr}(ne:e≠it)(le:l≠e)(li:l≠it):
 zd P w K (.Tuple elts k pos) (Wd xs.length (λH=>b9 K H l xs) (CA xs)) [e,it] e (λi h=>(∃old,IsEnum h e it ((i+1:Nat):Int) old)/\h.IsTupleIter it l i) where
 mem:=by simp
 obj:=λi h ht b hb=>by
  obtain⟨⟨old,he⟩,o,ho,c,d⟩:=ht;rcases List.mem_cons.mp hb with z|z
  ·rw[z];exact⟨_,he,λv z=>by cases z⟩
  ·rw[List.mem_singleton.mp z];exact⟨o,ho,λv z=>by rw[d]at z;cases z⟩
 keep:=λi h h' ht k=>by obtain⟨⟨old,he⟩,o,ho,r⟩:=ht;exact⟨⟨old,k e (by simp) _ he⟩,o,k it (by simp) o ho,r⟩
 item:=by
  intro X hP hw hK hc i pins s σ H E I hf ht ⟨hi,hG⟩;have hh:=I.ok.hd hc;subst hP hw hK;obtain⟨vs,rv,pl,hz⟩:=I.tuple hG;have hlen:=rv.length;have W:=WalksT.enumerateD (wX (prog:=X.prog) (w:=X.w) (A:=X.A.in1) hh it l li vs.toArray) e ne (by simp[ne,le.symm]) (by simp);refine W.item (i+1) s _ _ (by rw[aaP];lia) ⟨ht.1,i,rfl,ht.2,pl⟩ λT db h1 tk hv hT FW hm k1=>?_;refine⟨_,rfl,W.go elts k pos (i+1) T _ _ _ hm λh2 S2 k2=>?_⟩;obtain⟨t,v,⟨i',ei,hx⟩,rfl⟩:=hv;have ei':i'=i:=by lia
  subst ei';obtain⟨x,DB⟩:=ax hi;obtain⟨v',Ht,rx⟩:=rv.get DB;have ev:v'=v:=by
   have:vs[i']?=some v:=by simpa using hx
   rw[Ht]at this;exact aa0 this
  subst ev;have nT:T∉[e,it]:=W.apart (i' + 1) T _ hm;have t2:IsTup h2 T [Value.int ((i':Int)+1) t,v'].toArray:=by rw[show(i':Int)+1=((i' + 1:Nat):Int)by lia];obtain⟨o,ho,c,m,d⟩:=FW;exact⟨o,k2 T o nT ho,c,m,by rw[d]⟩
  obtain⟨S2a,i2,e2,S2b,S2c⟩:=S2;have Ge:i2=i' + 1:=by lia
  subst Ge;refine⟨.ref T,upd H T (.tup [.int ((i':Int)+1),x]),I.Lu (wr:=[e,it]) (λb o hb q=>k2 b o hb (k1 b o hb q)) hf hT Z2 (.cons ⟨t,rfl⟩ (.cons rx .nil)) t2 (.inl ⟨_,abd,λ_ z=>nomatch z⟩),rfl,⟨T,_,rfl,I.i4.fresh hT,⟨x,DB,rfl⟩,rfl⟩,⟨S2a,S2b⟩,λb hb=>?_⟩;have f:=(hf b hb).1;have G_:∃o,s.heap.get? b=some o:=by
   obtain⟨⟨old,he⟩,o,ho,c,d⟩:=ht;rcases List.mem_cons.mp hb with z|z
   ·rw[z];exact⟨_,he⟩
   ·rw[List.mem_singleton.mp z];exact⟨o,ho⟩
  obtain⟨o,ho⟩:=G_;have nb:b≠T:=λz=>by subst z;exact absurd (aa1 (aaJ ho) hT) (abG _)
  rw[al nb];exact f
 done:=by
  intro X hP hw hK hc i pins s σ H E I hf ht ⟨hi,hG⟩;have hh:=I.ok.hd hc;subst hP hw hK hi;obtain⟨vs,rv,pl,hz⟩:=I.tuple hG;have hlen:=rv.length;have W:=WalksT.enumerateD (wX (prog:=X.prog) (w:=X.w) (A:=X.A.in1) hh it l li vs.toArray) e ne (by simp[ne,le.symm]) (by simp);have e1:vs.toArray.size=xs.length:=by rw[aaP];lia
  refine W.done s _ _ ?_ λh1 tk k1=>⟨rfl,I.Lv (wr:=[e,it]) k1 λb hb=>hf b hb⟩
  rw[e1];exact⟨ht.1,_,rfl,ht.2,pl⟩
 self:=λA i s Q E ht q=>by obtain⟨⟨old,he⟩,_⟩:=ht;exact wpAny_pyIter_enum he q
def CG(K:W.Frag)(te:TE):TI:=λσ H R=>te σ H λx H1=>∃l xs,x=.ref l/\b9 K H1 l xs/\R (Wd xs.length (λH=>b9 K H l xs) (CA xs)) H1
variable{cp p:Pos}{j:Nat}
def Az{kp:Pos}(hg:Gl X "enumerate")(hm:X.mg "enumerate" = none)(he:PE X e te)(Ec:starEach [e] X.env=[(false,eval e X.env)]):PI X (.Tuple elts k D7) (.Call (.Name "enumerate" p) [e] [⟨some "start",.Constant (.int 1) j cp,kp⟩] pos) (CG X.K te):=by
 intro pins s σ H R I h;refine acW (eh I hg hm boot_enumerate ?_);refine ky ?_ (by rw[Ec];rfl) (by rw[Ec];rfl) rfl rfl;rw[Ec];refine ab6 (j9 (he pins s σ H _ I h) λu s1 ⟨x,H1,I1,r1,l,xs,ex,hq,q⟩=>acf (kws_cons (wpAny_Constant_int (kws_nil ?_))));subst ex;cases r1;have I2:=I1.tok (s1.toks+1);obtain⟨vs,rv,pl,hz⟩:=I2.tuple hq;have ll:l<s1.heap.objs.size:=let⟨_,e,_⟩:=pl;aaJ e
 refine yL (s:={ s1 with toks:=s1.toks+1 }) pl λh' he hi kp=>wpAny_pyIter_enum he ?_;have I3:Inv X pins σ H1 { s1 with heap:=h',toks:=s1.toks+1 }:=I2.kept (t':=s1.toks+1) kp;refine⟨s1.heap.objs.size+1,[s1.heap.objs.size+1,s1.heap.objs.size],_,_,H1,rfl,I3,ux xs (Nat.succ_ne_self _) (aaU (adg ll)) (aaU ll),⟨⟨_,he⟩,hi⟩,λb hb=>?_,q⟩;have Ee:b=s1.heap.objs.size+1\/b=s1.heap.objs.size:=by simpa using hb
 rcases Ee with z|z<;>subst z
 ·exact I1.Gb (ach _) (I1.i4.fresh (ach _))
 ·exact I1.Gb (aaI _) (I1.i4.fresh (aaI _))
def As{kp:Pos}(hg:Gl X "enumerate")(hm:X.mg "enumerate" = none)(he:QE X e te)(Ec:autoParam (starEach [e] X.env=[(false,eval e X.env)]) θ):QI X (.Tuple elts k D7) (.Call (.Name "enumerate" p) [e] [⟨some "start",.Constant (.int 1) j cp,kp⟩] pos) (CG X.K te):=⟨Az hg hm he.h Ec⟩
section
variable{X:Cx}
end
section
variable{X:Cx}{e:Expr}{te:TE}{p1 p2 q1 q2:Pos}
end
end L2
namespace TR
open PySem L2 TM
set_option genInjectivity true in
inductive Tr where
 |node (nm:Str) (mk:Int) (bs:List Tr)
noncomputable def Tr.nm:Tr->Str
 |.node n _ _=>n
noncomputable def Tr.mk':Tr->Int
 |.node _ m _=>m
noncomputable def Tr.bs:Tr->List Tr
 |.node _ _ b=>b
mutual
noncomputable def size:Tr->Nat
 |.node _ _ bs=>1+bj bs
noncomputable def bj:List Tr->Nat
 |[]=>0
 |t::ts=>size t+bj ts
end
mutual
noncomputable def nv:Tr->Nat
 |.node _ _ bs=>1+gK bs
noncomputable def gK:List Tr->Nat
 |[]=>0
 |t::ts=>max (nv t) (gK ts)
end
mutual
def i3(H:Hp):Tr->V->Prop
 |.node nm mk bs,v=>∃p b vs,v=.ref p/\H p=some (.tup [.str nm,.int mk,.ref b])/\H b=some (.tup vs)/\A3 H bs vs
def A3(H:Hp):List Tr->List V->Prop
 |[],vs=>vs=[]
 |t::ts,vs=>∃v r,vs=v::r/\i3 H t v/\A3 H ts r
end
theorem qu{H:Hp}:∀{ts:List Tr}{vs:List V},A3 H ts vs->g_ (i3 H) ts vs
 |[],vs,h=>by unfold A3 at h;subst h;exact .nil
 |t::ts,vs,h=>by unfold A3 at h;obtain⟨v,r,rfl,h1,h2⟩:=h;exact .cons h1 (qu h2)
theorem wj{H:Hp}:∀{ts:List Tr}{vs:List V},g_ (i3 H) ts vs->A3 H ts vs
 |_,_,.nil=>by unfold A3;rfl
 |_,_,.cons x y=>by unfold A3;exact⟨_,_,rfl,x,wj y⟩
mutual
theorem i3.same{H H':Hp}(e:d_ H H'):∀(t:Tr){v:V},i3 H t v->i3 H' t v
 |.node nm mk bs,v,h=>by unfold i3 at h⊢;obtain⟨p,b,vs,rfl,h1,h2,h3⟩:=h;exact⟨p,b,vs,rfl,e _ _ h1,e _ _ h2,A3.same e bs h3⟩
theorem A3.same{H H':Hp}(e:d_ H H'):∀(ts:List Tr){vs:List V},A3 H ts vs->A3 H' ts vs
 |[],vs,h=>by unfold A3 at h⊢;exact h
 |t::ts,vs,h=>by unfold A3 at h⊢;obtain⟨v,r,rfl,h1,h2⟩:=h;exact⟨v,r,rfl,i3.same e t h1,A3.same e ts h2⟩
end
variable{t:Tr}{H:Hp}
theorem i3.op{v:V}(h:i3 H t v):∃p b vs,v=.ref p/\H p=some (.tup [.str t.nm,.int t.mk',.ref b])/\H b=some (.tup vs)/\g_ (i3 H) t.bs vs:=by
 cases t with
 |node nm mk bs=>
  unfold i3 at h;obtain⟨p,b,vs,rfl,h1,h2,h3⟩:=h;exact⟨p,b,vs,rfl,h1,h2,qu h3⟩
def i3.cl{nm:Str}{mk:Int}{bs:List Tr}{p b:Addr}{vs:List V}(h1:H p=some (.tup [.str nm,.int mk,.ref b]))(h2:H b=some (.tup vs))(h3:g_ (i3 H) bs vs):i3 H (.node nm mk bs) (.ref p):=by unfold i3;exact⟨p,b,vs,rfl,h1,h2,wj h3⟩
def gj(t:Tr):size t=1+bj t.bs:=by cases t;rw[size];rfl
def tN(t:Tr):nv t=1+gK t.bs:=by cases t;rw[nv];rfl
theorem jB:∀{ts:List Tr}{t:Tr},t∈ts->size t<=bj ts
 |[],_,h=>nomatch h
 |x::ts,t,h=>by
  unfold bj;rcases List.mem_cons.mp h with rfl|h
  ·lia
  ·have:=jB h;lia
theorem km:∀{ts:List Tr}{t:Tr},t∈ts->nv t<=gK ts
 |[],_,h=>nomatch h
 |x::ts,t,h=>by
  unfold gK;rcases List.mem_cons.mp h with rfl|h
  ·lia
  ·have:=km h;lia
theorem mw(t:Tr):1<=size t:=by rw[gj];lia
theorem eK:∀ts:List Tr,ts.length<=bj ts
 |[]=>aa3 _
 |t::ts=>by unfold bj;have:=eK ts;have:=mw t;rw[aaM];lia
theorem Be{k:Nat}(h:size t<=k):t.bs.length<k:=by have:=eK t.bs;rw[gj]at h;lia
variable{u:Tr}
theorem xD(h:u∈t.bs):size u<size t:=by have:=jB h;rw[gj t];lia
theorem tO(h:u∈t.bs):nv u<nv t:=by have:=km h;rw[tN t];lia
mutual
theorem cY:∀t:Tr,nv t<=size t
 |.node _ _ bs=>by rw[nv,size];have:=gJ bs;lia
theorem gJ:∀ts:List Tr,gK ts<=bj ts
 |[]=>by rw[gK,bj];exact aaI _
 |t::ts=>by rw[gK,bj];have:=cY t;have:=gJ ts;lia
end
theorem hW:∀(i:Nat)(ts:List Tr),bj (ts.take i)<=bj ts
 |0,ts=>by rw[ac9,bj];exact aa3 _
 |i+1,[]=>by rw[adM];exact aaI _
 |i+1,t::ts=>by rw[adI,bj,bj];have:=hW i ts;lia
mutual
noncomputable def iL:Tr->List (List Int)
 |.node _ _ bs=>[]::bL 1 bs
noncomputable def bL(k:Int):List Tr->List (List Int)
 |[]=>[]
 |t::ts=>(iL t).map (k::·)++bL (k+1) ts
end
def xP(t:Tr):iL t=[]::bL 1 t.bs:=by cases t;rw[iL];rfl
mutual
theorem iK:∀t:Tr,(iL t).length=size t
 |.node _ _ bs=>by rw[iL,size,aaM,gq bs];lia
theorem gq:∀(ts:List Tr){k:Int},(bL k ts).length=bj ts
 |[],k=>by rw[bL,bj];rfl
 |t::ts,k=>by rw[bL,bj,aaF,aaG,iK t,gq ts]
end
theorem jG:∀(ts us:List Tr)(k:Int),bL k (ts++us)=bL k ts++bL (k+ts.length) us
 |[],us,k=>by rw[ab2,bL];simp
 |t::ts,us,k=>by
  rw[abZ,bL,bL,jG ts us,abr];have:k+1+(ts.length:Int)=k+((t::ts).length:Int):=by rw[aaM];lia
  rw[this]
def pB(ts:List Tr)(t:Tr):bL 1 (ts++[t])=bL 1 ts++(iL t).map ((1+(ts.length:Int))::·):=by rw[jG,bL,bL,aby]
mutual
theorem hX:∀(t:Tr){p:List Int},p∈iL t->p.length<nv t
 |.node _ _ bs,p,h=>by
  rw[iL]at h;rw[nv];rcases List.mem_cons.mp h with rfl|h
  ·show 0<1+gK bs;lia
  ·have:=gm bs h;lia
theorem gm:∀(ts:List Tr){k:Int}{p:List Int},p∈bL k ts->p.length<=gK ts
 |[],k,p,h=>by rw[bL]at h;cases h
 |t::ts,k,p,h=>by
  rw[bL]at h;rw[gK];rcases List.mem_append.mp h with h|h
  ·obtain⟨q,hq,rfl⟩:=List.mem_map.mp h;have:=hX t hq;rw[aaM];lia
  ·have:=gm ts h;lia
end
def C_(H:Hp)(p:List Int)(v:V):Prop:=∃a,v=.ref a/\H a=some (.tup (p.map V.int))
variable{p:List Int}
def C_.same{H':Hp}(e:d_ H H'){v:V}(h:C_ H p v):C_ H' p v:=by obtain⟨a,x,y⟩:=h;exact⟨a,x,e _ _ y⟩
noncomputable def atT:List Int->Tr->Option Tr
 |[],t=>some t
 |k::ks,t=>if 1<=k then(t.bs[(k-1).toNat]?).bind (atT ks)else none
theorem gP:∀(p q:List Int)(t:Tr),atT (p++q) t=(atT p t).bind (atT q)
 |[],q,t=>rfl
 |k::p,q,t=>by
  rw[abZ];unfold atT;split
  ·cases t.bs[(k-1).toNat]? with
   |none=>rfl
   |some c=>exact gP p q c
  ·rfl
theorem zc{r:List Int}{k:Int}(h:atT p t=some u)(hk:k<1\/(u.bs.length:Int)<k):atT (p++k::r) t=none:=by
 rw[gP,h];show atT (k::r) u=none;unfold atT;split
 ·rw[abL (by lia)];rfl
 ·rfl
theorem fT{k:Int}{ks:List Int}(h:atT (k::ks) t=some u):1<=k/\k<=t.bs.length/\∃c,t.bs[(k-1).toNat]?=some c/\c∈t.bs/\atT ks c=some u:=by
 unfold atT at h;split at h
 ·rename_i h1;cases hc:t.bs[(k-1).toNat]? with
  |none=>rw[hc]at h;cases h
  |some c=>
   rw[hc]at h;have:=ao (xs:=t.bs) hc;exact⟨h1,by lia,c,rfl,aaD hc,h⟩
 ·cases h
theorem fS:∀{p:List Int}{t u:Tr},atT p t=some u->nv u+p.length<=nv t
 |[],t,u,h=>by cases h;exact aaI _
 |k::p,t,u,h=>by obtain⟨_,_,c,_,hm,h'⟩:=fT h;have:=fS h';have:=tO hm;rw[aaM];lia
noncomputable def cW(p:List Int):Int->List Tr->List (List Int×Tr)
 |_,[]=>[]
 |k,t::ts=>(p++[k],t)::cW p (k+1) ts
mutual
noncomputable def A9(p:List Int):Tr->List (List Int×Tr)
 |.node nm mk bs=>(p,.node nm mk bs)::jO p 1 bs
noncomputable def jO(p:List Int)(k:Int):List Tr->List (List Int×Tr)
 |[]=>[]
 |t::ts=>A9 (p++[k]) t++jO p (k+1) ts
end
def mT(p:List Int)(t:Tr):A9 p t=(p,t)::jO p 1 t.bs:=by cases t;rw[A9];rfl
theorem kY(p:List Int):∀(ts:List Tr)(k:Int),jO p k ts=(cW p k ts).flatMap λx=>A9 x.1 x.2
 |[],k=>by rw[jO,cW];rfl
 |t::ts,k=>by rw[jO,cW,List.flatMap_cons,kY p ts]
theorem jU(p:List Int):∀(ts:List Tr)(k:Int),(cW p k ts).length=ts.length
 |[],k=>rfl
 |t::ts,k=>by rw[cW,aaM,aaM,jU p ts]
theorem gA(p:List Int):∀(ts:List Tr)(k:Int){i:Nat}{t:Tr},ts[i]?=some t->(cW p k ts)[i]?=some (p++[k+i],t)
 |[],k,i,t,h=>by simp at h
 |t'::ts,k,0,t,h=>by
  rw[cW];simp at h⊢;exact h
 |t'::ts,k,i+1,t,h=>by
  rw[cW,acg,gA p ts (k+1) (by simpa using h)];have:k+1+(i:Int)=k+((i+1:Nat):Int):=by lia
  rw[this]
mutual
theorem dF:∀(t:Tr){p:List Int},(A9 p t).length=size t
 |.node _ _ bs,p=>by rw[A9,size,aaM,mS bs];lia
theorem mS:∀(ts:List Tr){p:List Int}{k:Int},(jO p k ts).length=bj ts
 |[],p,k=>by rw[jO,bj];rfl
 |t::ts,p,k=>by rw[jO,bj,aaF,dF t,mS ts]
end
mutual
theorem sj:∀(t:Tr)(p:List Int),(A9 p t).map Prod.fst=(iL t).map (p++·)
 |.node _ _ bs,p=>by rw[A9,iL,aa7,aa7,mR bs,aby]
theorem mR:∀(ts:List Tr)(p:List Int)(k:Int),(jO p k ts).map Prod.fst=(bL k ts).map (p++·)
 |[],p,k=>by rw[jO,bL];rfl
 |t::ts,p,k=>by rw[jO,bL,aaX,aaX,sj t,mR ts,acB];congr 1;apply ac5;intro q _;simp
end
def sq(t:Tr):(A9 [] t).map Prod.fst=iL t:=by rw[sj];have:(λq:List Int=>[]++q)=id:=funext λq=>rfl;rw[this,List.map_id]
mutual
theorem sk:∀(t:Tr){p q:List Int}{u:Tr},(q,u)∈A9 p t->∃r,q=p++r/\atT r t=some u
 |.node nm mk bs,p,q,u,h=>by
  rw[A9]at h;rcases List.mem_cons.mp h with h|h
  ·cases h;exact⟨[],by simp,rfl⟩
  ·obtain⟨j,c,r,hc,e,h'⟩:=si bs h;refine⟨(1+(j:Int))::r,e,?_⟩;unfold atT;rw[aaY (by lia)];have:((1:Int)+j-1).toNat=j:=by lia
   rw[this];show(bs[j]?).bind _=_;rw[hc];exact h'
theorem si:∀(ts:List Tr){p q:List Int}{u:Tr}{k:Int},(q,u)∈jO p k ts->∃(j:Nat)(c:Tr)(r:List Int),ts[j]?=some c/\q=p++(k+j)::r/\atT r c=some u
 |[],p,q,u,k,h=>by rw[jO]at h;cases h
 |t::ts,p,q,u,k,h=>by
  rw[jO]at h;rcases List.mem_append.mp h with h|h
  ·obtain⟨r,e,h'⟩:=sk t h;exact⟨0,t,r,rfl,by rw[e];simp,h'⟩
  ·obtain⟨j,c,r,hc,e,h'⟩:=si ts h;refine⟨j+1,c,r,by simpa using hc,?_,h'⟩;rw[e];have:k+1+(j:Int)=k+((j+1:Nat):Int):=by lia
   rw[this]
end
def B0(H:Hp)(x:List Int×Tr)(v:V):Prop:=∃a b u,v=.ref a/\H a=some (.tup [.ref b,u])/\H b=some (.tup (x.1.map V.int))/\i3 H x.2 u
theorem B0.same{H H':Hp}(e:d_ H H'){x:List Int×Tr}{v:V}(h:B0 H x v):B0 H' x v:=by obtain⟨a,b,u,h1,h2,h3,h4⟩:=h;exact⟨a,b,u,h1,e _ _ h2,e _ _ h3,i3.same e _ h4⟩
section
variable{most n:Nat}{R:Nat->Rw}{tr:Nat->Tr}
end
end TR
namespace L2
open PySem PySem.Spec PyProof.Rows
section
variable{X:Cx}{C a:Addr}{cls a0 fl fl':Value}{H':Hp}{B h':Heap}{s':Shared}
end
variable{P:Program}{w:World}{K:W.Frag}{mg:Str->Option Value}{base:Heap}{N:List Str}{qual:Str}{scope:Scope}{f:Addr}{cd:Value}{A:Around}{outer:List Env}{s₀:Shared}{H₀:Hp}{E:XK}
section
variable{X:Cx}{k:Nat}{f Dc:Addr}{fd:FuncData}{ps:List Str}{sp:Sp}{x dn n y:Str}{i j:Nat}{p l_ Fz np Dl pos yp:Pos}{e:Expr}{es:List Expr}{t:TA}{ts:TS}{b0:Stmt}{DN:List Stmt}
end
structure h_{α:Type}(t:Sem α):Prop where
 out:∀(M:Model)(Γ:PySem.Ctx)(Q Q':α->Pos->Shared->Prop)(E E':Value->Pos->Shared->Prop)(p:Pos)(s:Shared),Sem.wp M Γ t Q E p s->Sem.wp M Γ t Q' E' p s->Sem.wp M Γ t (λa p s=>Q a p s/\Q' a p s) (λe p s=>E e p s/\E' e p s) p s
namespace h_
variable{α β:Type}
theorem pure(a:α):h_ (Pure.pure a:Sem α):=⟨λ_ _ _ _ _ _ _ _ h h'=>⟨h,h'⟩⟩
theorem unsupported(w:String):h_ (PySem.unsupported w:Sem α):=⟨λ_ _ _ _ _ _ _ _ h _=>h.elim⟩
def bind{m:Sem α}{f:α->Sem β}(hm:h_ m)(hf:∀a,h_ (f a)):h_ (m >>= f):=⟨λM Γ Q Q' E E' p s h h'=>by
 rw[Sem.wp_bind']at h h'⊢;exact Sem.wp_mono M Γ m (λa p' s' x=>(hf a).out M Γ Q Q' E E' p' s' x.1 x.2) (λ_ _ _ x=>x) p s (hm.out M Γ _ _ E E' p s h h')⟩
def ite{c:Prop}[Decidable c]{t u:Sem α}(ht:h_ t)(hu:h_ u):h_ (if c then t else u):=by split<;>assumption
theorem load(a:Addr):h_ (PySem.load a):=⟨λ_ _ _ _ _ _ _ _ h h'=>by
 unfold PySem.load at h h'⊢;rw[Sem.wp_load]at h h'⊢;obtain⟨o,e,q⟩:=h;obtain⟨o',e',q'⟩:=h';rw[e]at e';cases e';exact⟨o,e,q,q'⟩⟩
theorem update(a:Addr)(f:Obj->Obj):h_ (PySem.update a f):=⟨λ_ _ _ _ _ _ _ _ h h'=>⟨h.1,h.2,h'.2⟩⟩
theorem stack:h_ PySem.stack:=⟨λ_ _ _ _ _ _ _ _ h h'=>⟨h,h'⟩⟩
theorem alloc(o:Obj):h_ (PySem.alloc o):=⟨λ_ _ _ _ _ _ _ _ h h'=>⟨h,h'⟩⟩
theorem field(v:Value)(i:Nat):h_ (PySem.field v i):=⟨λM Γ Q Q' E E' p s h h'=>by
 rw[wp_field_iff]at h h'⊢;obtain⟨a,o,vs,x,rfl,ho,hd,hx,q⟩:=h;obtain⟨a',o',D6,x',e',FX,A_,DB,q'⟩:=h';cases e';rw[ho]at FX;cases FX;rw[hd]at A_;cases A_;rw[hx]at DB;cases DB;exact⟨a,o,vs,x,rfl,ho,hd,hx,q,q'⟩⟩
theorem setField(v:Value)(i:Nat)(x:Value):h_ (PySem.setField v i x):=⟨λM Γ Q Q' E E' p s h h'=>by
 rw[wp_setField_iff]at h h'⊢;obtain⟨a,o,vs,rfl,ho,hd,hi,q⟩:=h;obtain⟨a',o',D6,e',FX,A_,Nn,q'⟩:=h';cases e';exact⟨a,o,vs,rfl,ho,hd,hi,q,q'⟩⟩
end h_
def pU(env:Env)(outer:List Env):h_ (behindIsImport env outer):=by
 unfold behindIsImport
 repeat' with_reducible first|assumption|exact h_.pure _|exact h_.unsupported _|exact h_.field _ _|exact h_.setField _ _ _|exact h_.load _|exact h_.update _ _|exact h_.stack|exact h_.alloc _|apply h_.ite|apply h_.bind|intro _|split
def tK:h_ underTheClaimsCaller:=by
 unfold underTheClaimsCaller
 repeat' with_reducible first|assumption|exact h_.pure _|exact h_.unsupported _|exact h_.field _ _|exact h_.setField _ _ _|exact h_.load _|exact h_.update _ _|exact h_.stack|exact h_.alloc _|apply h_.ite|apply h_.bind|intro _|split
def vW(env:Env)(i:Bool)(l:List Env):h_ (keptBack env i l):=by have:=tK;cases l<;>unfold keptBack<;>(repeat' with_reducible first|assumption|exact h_.pure _|exact h_.unsupported _|exact h_.field _ _|exact h_.setField _ _ _|exact h_.load _|exact h_.update _ _|exact h_.stack|exact h_.alloc _|apply h_.ite|apply h_.bind|intro _|split)
theorem kh:∀l:List Env,h_ (readyFrames l)
 |[]=>h_.pure _
 |env::outer=>by
  have ih:=kh outer;have h1:=pU env outer;have h2:=λi=>vW env i outer;unfold readyFrames
  repeat' with_reducible first|assumption|exact h_.pure _|exact h_.unsupported _|exact h_.field _ _|exact h_.setField _ _ _|exact h_.load _|exact h_.update _ _|exact h_.stack|exact h_.alloc _|apply h_.ite|apply h_.bind|intro _|split
  all_goals first|exact h2 _|skip
theorem gH(l:List Env):h_ (frameObject l):=by
 cases l with
 |nil=>exact h_.pure _
 |cons env outer=>
  have:=kh (env::outer);unfold frameObject
  repeat' with_reducible first|assumption|exact h_.pure _|exact h_.unsupported _|exact h_.field _ _|exact h_.setField _ _ _|exact h_.load _|exact h_.update _ _|exact h_.stack|exact h_.alloc _|apply h_.ite|apply h_.bind|intro _|split
def jg:h_ frameEnvs:=by
 unfold frameEnvs
 repeat' with_reducible first|assumption|exact h_.pure _|exact h_.unsupported _|exact h_.field _ _|exact h_.setField _ _ _|exact h_.load _|exact h_.update _ _|exact h_.stack|exact h_.alloc _|apply h_.ite|apply h_.bind|intro _|split
def lR(env:Env):h_ (PySem.frameOf env):=by
 have h1:=jg;have h2:=gH;unfold PySem.frameOf
 repeat' with_reducible first|assumption|exact h_.pure _|exact h_.unsupported _|exact h_.field _ _|exact h_.setField _ _ _|exact h_.load _|exact h_.update _ _|exact h_.stack|exact h_.alloc _|apply h_.ite|apply h_.bind|intro _|split
 all_goals first|exact h2 _|skip
def gW(f:Addr)(b:Bool):h_ (entryPlaceOf f b):=by
 unfold entryPlaceOf
 repeat' with_reducible first|assumption|exact h_.pure _|exact h_.unsupported _|exact h_.field _ _|exact h_.setField _ _ _|exact h_.load _|exact h_.update _ _|exact h_.stack|exact h_.alloc _|apply h_.ite|apply h_.bind|intro _|split
def ki(a b c d e:Value)(l:List Value):h_ (EntryCells.newEntry a b c d e l):=by
 unfold EntryCells.newEntry newFields newObj newObjAsIs
 repeat' with_reducible first|assumption|exact h_.pure _|exact h_.unsupported _|exact h_.field _ _|exact h_.setField _ _ _|exact h_.load _|exact h_.update _ _|exact h_.stack|exact h_.alloc _|apply h_.ite|apply h_.bind|intro _|split
def nn(e:Value)(env:Env):h_ (noteFrame e env):=by
 have h1:=lR env;have h2:=gW;have h3:=ki;unfold noteFrame
 repeat' with_reducible first|assumption|exact h_.pure _|exact h_.unsupported _|exact h_.field _ _|exact h_.setField _ _ _|exact h_.load _|exact h_.update _ _|exact h_.stack|exact h_.alloc _|apply h_.ite|apply h_.bind|intro _|split
 all_goals first|exact h2 _ _|exact h3 _ _ _ _ _ _|skip
def fo(e:Value)(o:Option Addr):h_ (setFlight e o):=by
 unfold setFlight
 repeat' with_reducible first|assumption|exact h_.pure _|exact h_.unsupported _|exact h_.field _ _|exact h_.setField _ _ _|exact h_.load _|exact h_.update _ _|exact h_.stack|exact h_.alloc _|apply h_.ite|apply h_.bind|intro _|split
def gG(e:Value)(env:Env):h_ (leaving env e):=by
 have h1:=nn e env;have h2:=fo e;unfold leaving
 repeat' with_reducible first|assumption|exact h_.pure _|exact h_.unsupported _|exact h_.field _ _|exact h_.setField _ _ _|exact h_.load _|exact h_.update _ _|exact h_.stack|exact h_.alloc _|apply h_.ite|apply h_.bind|intro _|split
 all_goals first|exact h2 _|skip
def zn{α:Type}{M:Model}{A:Around}{t:Sem α}{Q Q':α->Shared->Prop}{E E':Value->Shared->Prop}{s:Shared}(d:h_ t)(h:wpAny M A t Q E s)(h':wpAny M A t Q' E' s):wpAny M A t (λa s=>Q a s/\Q' a s) (λe s=>E e s/\E' e s) s:=
 λΓ p hΓ=>d.out M Γ _ _ _ _ p s (h Γ p hΓ) (h' Γ p hΓ)
section
variable{M:Model}{A:Around}{E:Value->Shared->Prop}{s:Shared}
end
section
variable{prog:Program}{w:World}{A:Around}{E:Value->Shared->Prop}{s:Shared}{env:Env}
variable{nm q:Str}{C N:Addr}{bs bm bmB:List Value}{hdc:Bool}{sn:List Str}{sbc:List Value}{ab:Bool}{clt:Option Bool}{dd:Option Addr}{k0 k1 k2 k3 k5:Option Value}{B newId initId:String}
end
section
variable{X:Cx}{pins:List (Addr×Obj)}{σ:St}{H H':Hp}{s s':Shared}{M:Model}{E':Value->Shared->Prop}{a:Addr}{cls:Value}
end
section
variable{X:Cx}{k:Nat}{f Dc C2:Addr}{fd:FuncData}{ps:List Str}{sp:Sp}{x dn cn:Str}{p l_ Fz np Dl pos cnp cpos2 rpos2 kp:Pos}{ck:Nat}{e e2:Expr}{es es2:List Expr}{t t2:TA}{EX:Hp->Prop}
end
section
variable{P:Program}{w:World}{K:W.Frag}{mg:Str->Option Value}{base:Heap}
end
end L2
namespace TM
open PySem L2
end TM
namespace L2
open PySem PySem.Spec PyProof.Rows TM
section
variable{X:Cx}{K:W.Frag}{e:Expr}{te:TE}{p1 p2 q1 q2:Pos}
end
section
variable{K:W.Frag}{a:Addr}{xs:List V}{js:List Nat}{te:TE}{σ:St}{Q:VK}{D:Addr}{H1:Hp}{α:Type}{R:Hp->α->V->Prop}{as:List α}
end
end L2
namespace L2
open PySem PySem.Spec PyProof.Rows
variable{GG:List (TE×TE)}{pos:Pos}{X:Cx}
def dQ{k v:Expr}{ks:List (Option Expr)}{vs:List Expr}{tk tv:TE}(hk:QE X k tk)(hv:QE X v tv)(hr:Qv X pos ks vs GG):Qv X pos (some k::ks) (v::vs) ((tk,tv)::GG):=uT hk.h hv.h hr
def rJ{keys:List (Option Expr)}{values:List Expr}(h:Qv X pos keys values GG)(G':autoParam (keys.all (·.isSome)=true) θ)(hl:autoParam (keys.length=values.length) θ)(h0:keys≠[]:=by simp)(h15:autoParam (keys.length<=15) ξ):QE X (.Dict keys values pos) (zF GG):=⟨xU h G' hl h0 h15⟩
section
variable{prog:Program}{w:World}{A:Around}{E:Value->Shared->Prop}{s:Shared}
end
section
variable{X:Cx}{e:Expr}{te:TE}{p1 p2 q1 q2:Pos}
end
section
variable{X:Cx}
end
end L2
namespace L2
open PySem PySem.Spec PyProof.Rows TM
section
variable{K:W.Frag}{a:Addr}{xs:List V}{js:List Nat}{g:TG}{n:Nat}{te:TE}{σ:St}{Q:VK}{D:Addr}{H1:Hp}{α:Type}{R:Hp->α->V->Prop}{as:List α}
theorem iu(st:EJ D R)(hz:xs.length<sizeLine)(hlen:as.length=xs.length)(ha:b9 K H1 a xs)(hD:H1 D=none)(he:∀(i:Nat) (x:V) (b:α) (H:Hp),xs[i]?=some x->as[i]?=some b->a_ H1 H->∀Q':VK,(∀y H',a_ H H'->R H' b y->Q' y H')->g x (List.replicate n none++bp js σ) H λIy H6=>∃us:List (Option V),us.length=n/\Iy=us++bp js σ/\te Iy H6 Q')(hq:∀ys H',a_ H1 H'->H' D=some (.lst ys)->g_ (R H') as ys->Q (.ref D) H'):uk (IT K a) g n js D8 te σ Q D H1:=by
 refine⟨λi m acc H=>m=xs.length-i/\i<=xs.length/\a_ H1 H/\H D=some (.lst acc)/\g_ (R H) (as.take i) acc,⟨xs.length,by simp,aa3 _,ac hD _,aa,.nil⟩,?_⟩;rintro i m acc H ⟨hm,hi,s,d,r⟩;refine⟨d,by rw[r.len,aaZ];lia,?_⟩;by_cases o9:i<xs.length
 ·refine .inr ⟨?_,λx H' y=>?_⟩
  ·obtain⟨x,hx⟩:=ax o9;exact⟨xs,x,a_.tupS s ha,hx⟩
  ·obtain⟨rfl,hx⟩:=y;have DB:=hx xs (a_.tupS s ha);obtain⟨b,hb⟩:=ax (xs:=as) (i:=i) (by lia);refine he i x b H' DB hb s _ λy H4 s4 r4=>⟨s4 _ _ d,xs.length-(i+1),by lia,rfl,o9,aL hD (s.trans s4),aa,?_⟩
   have k:∀c o,c≠D->H4 c=some o->upd H4 D (.lst (acc++[y])) c=some o:=λc o hc e=>by rw[al hc];exact e
   rw[aH hb];exact(r.imp λb v r=>st _ _ _ b v (s4 _ _ d) k (st _ _ _ b v d (λc o _ e=>s4 c o e) r)).snoc (st _ _ _ b y (s4 _ _ d) k r4)
 ·rw[aa2 (by lia)]at r;exact .inl ⟨⟨xs,a_.tupS s ha,by lia⟩,hq acc H s d r⟩
end
end L2
namespace L2
open PySem PySem.Spec PyProof.Rows
section
variable{P:Program}{w:World}{A:Around}{E:Value->Shared->Prop}{s:Shared}
end
section
variable{X:Cx}{e:Expr}{te:TE}{p1 p2 q1 q2:Pos}
end
def eT:entryFor table "dict.update.loop" = some Builtin.«dict.update.loop»:=entryFor_of_tree (by kernel_rfl)
def cv:plainId "dict.update.loop" = true:=by decide +kernel
structure Qu where
 at_:Addr
 key:Key
 kv:Value
 val:Value
def Hh(h:Heap)(x:Qu):Prop:=∃o n,h.get? x.at_=some o/\o.cls=.type "tuple"/\o.data=.seq #[x.kv,x.val] n
variable{h:Heap}
def Hh.to{h':Heap}{x:Qu}(p:Hh h x)(k:∀o,h.get? x.at_=some o->h'.get? x.at_=some o):Hh h' x:=let⟨o,n,e,r⟩:=p;⟨o,n,k _ e,r⟩
noncomputable def nH(e_:List (Key×Value))(ps:List Qu):List (Key×Value):=ps.foldl (λacc x=>stored acc x.key x.val) e_
theorem nV(e_:List (Key×Value))(k:Key)(v:Value):(stored e_ k v).length<=e_.length+1:=by
 unfold stored;split
 ·rw[aaG];lia
 ·rw[aaF];exact aaI _
section
variable{P:Program}{w:World}{A:Around}{E:Value->Shared->Prop}
theorem yO{R:Result->Shared->Prop}{I:Addr}{fp wr:List Addr}{G:Array GenState->Array GenState->Prop}{n:Nat}{V':Nat->Value->Prop}{St:Nat->Shared->Prop}(W:WalksS P w A.in1 I fp wr G n V' St)(S:Addr)(nS:S∉fp)(ps:List Qu)(lp:ps.length=n)(hn:n<=1000)(hv:∀i v,V' i v->∃x,ps[i]?=some x/\v=.ref x.at_)(hk:∀x∈ps,(aY P w).is x.key x.kv=true/\x.at_≠S/\x.at_∉wr):
 ∀(k i:Nat)(s:Shared)(e_:List (Key×Value))(j:Int),n-i=k->i<=n->St i s->s.heap.DictOf (aY P w) S e_->e_.length<=i->(∀x∈ps,Hh s.heap x) ->
  (∀s',Moved (S::wr) G s s'->s'.heap.DictOf (aY P w) S (nH e_ (ps.drop i))->R (.ok (.ret .none)) s') ->
  codeAny (model P w) A (.builtin "dict.update.loop" ⟨[.ref S,.ref I,rawInt j,.none],[]⟩) R s:=by
 have nW:S∉wr:=λh=>nS (W.sub _ h);have sub:∀b∈wr,b∈S::wr:=λb hb=>.tail _ hb;intro k;induction k with
 |zero=>
  intro i s e_ j Xr hi st hS lk hp hR;obtain rfl:i=n:=by lia
  refine acu eT ?_;rw[acJ cv _];show wpAny _ _ (pyNext (.ref I) >>= _) _ _ _;refine aaC (W.done s _ _ st λs' mv=>?_);have Nu:s'.heap.DictOf (aY P w) S e_:=let⟨o,es,ep,e,r⟩:=hS;⟨o,es,ep,mv.heap S o nW e,r⟩
  rw[acS (by lia)]at hR;exact aaC (aaE (aaE (hR s' (mv.mono sub) Nu)))
 |succ k ih=>
  intro i s e_ j Xr hi st hS lk hp hR;refine acu eT ?_;rw[acJ cv _];show wpAny _ _ (pyNext (.ref I) >>= _) _ _ _;refine aaC (W.item i s _ _ (by lia) st λv s' pv FC mv=>?_);obtain⟨x,hx,rfl⟩:=hv i v pv;have xm:=aaD hx;obtain⟨hkx,nxS,nxW⟩:=hk x xm;have Nu:s'.heap.DictOf (aY P w) S e_:=let⟨o,es,ep,e,r⟩:=hS;⟨o,es,ep,mv.heap S o nW e,r⟩
  have IH:∀x∈ps,Hh s'.heap x:=λy hy=>(hp y hy).to λo e=>mv.heap _ o (hk y hy).2.2 e;obtain⟨o,m,e1,e2,e3⟩:=IH x xm;have tx:s'.TypeIs (.ref x.at_) "tuple":=⟨o,e1,e2⟩
  show wpAny _ _ (holding [Value.ref x.at_] _ >>= _) _ _ _;refine aaC (abu (aaC (wpAny_tryCatch ?_)));unfold Builtin.Dict.pairItems;refine aaC (acd tx ?_);rw[aaY (by decide)];refine aaC (acm e1 e3 (aaE ?_));show wpAny _ _ (holding [x.kv,x.val] (dictSet S x.kv x.val)) _ _ _;refine abu (wpAny_dictSet_pairs (hsz:=abg (show e_.length<=1000 by lia) (by decide)) hkx Nu λh' E4 sb=>?_);have ed:ps.drop i=x::ps.drop (i+1):=by obtain⟨hl,hxe⟩:=List.getElem?_eq_some_iff.mp hx;rw[acC hl,hxe]
  refine aaE ⟨acP cv _,ih (i+1) _ (stored e_ x.key x.val) (j+1) (by lia) (by lia) (W.frame _ s' _ _ FC (ach _) λb hb o e=>?_) E4 (by have:=nV e_ x.key x.val;lia) (λy hy=>(IH y hy).to λo e=>(sb.2 _ (hk y hy).2.1).trans e) λs2 mv2 Mp=>?_⟩
  ·exact(sb.2 b λz=>nS (z▸hb)).trans e
  ·refine hR s2 (Moved.trans W.gtrans ((mv.mono sub).then_heap (ach _) λb o hb e=>(sb.2 b λz=>hb (z▸.head _)).trans e) mv2) ?_;rw[ed];exact Mp
end
def iB:typeLookup (.type "tuple") "keys" = pure none:=by rw[acU,ab8];kernel_rfl
variable{w:World}{o:Obj}
def nR{prog:Program}{A:Around}{E:Value->Shared->Prop}{s:Shared}{a:Addr}{xs:Array Value}{k:Nat}{Q:Option Value->Shared->Prop}(hx:s.heap.get? a=some o)(hc:o.cls=.type "tuple")(GZ:o.data=.seq xs k)(hd:o.dict=none)(hA:A.handled=none)(q:∀h' tk,(∀b u,s.heap.get? b=some u->h'.get? b=some u)->Q none { s with heap:=h',toks:=tk }):
 wpAny (model prog w) A (getAttr? (.ref a) "keys") Q E s:=by
 obtain⟨c,dct,dat,sl⟩:=o;simp only at hc GZ hd;subst hc GZ hd;obtain⟨hp,g,d,tk,os⟩:=s;have hT:∀RF,(⟨hp,g,d,RF,os⟩:Shared).TypeIs (.ref a) "tuple":=λ_=>⟨_,hx,rfl⟩
 have f1:=sub_AttributeError;have f3:=F.slot_tuple_getattribute.lookup;have f4:=F.slot_tuple_getattribute.bind (.ref a);have f5:=am_tuple_getattr_none;unfold getAttr? getAttrBy? getAttrBy;repeat (any_goals (first|assumption|exact hT _|((with_reducible show wpAny _ _ (call (Value.builtin "tuple.__getattribute__") _ _) _ _ _);refine adi F.slot_tuple_getattribute (hT _) am_entry_tuple_getattribute (F.args_tuple_getattribute_2 _ _) (meets_getattribute_miss_tuple a xs k sl "keys" _ iB (by decide) (by decide)) ⟨hx,hA,λh' RF e DB=>?_⟩)|wp_step))
 obtain⟨t',u',he⟩:=DB.there;show wpAny _ _ (getattributeRaised _ _ _ _ _ _ _) _ _ _;unfold getattributeRaised;repeat (any_goals (first|assumption|wp_step))
 exact q _ _ DB.keeps
section
variable{prog:Program}{w:World}{A:Around}{E:Value->Shared->Prop}{s:Shared}
abbrev ur:Obj:={ cls:=.type "dict",data:=.dict #[] }
def pY{t:Addr}{items:Array Value}{m:Nat}{ps:List Qu}{Q:Value->Shared->Prop}(hh:A.handled=none)(ht:s.heap.get? t=some o)(hc:o.cls=.type "tuple")(hd:o.data=.seq items m)(hn:o.dict=none)(lp:ps.length=items.size)(h1:items.size<=1000)(hi:∀(i:Nat) v,items[i]?=some v->∃x,ps[i]?=some x/\v=.ref x.at_)(hk:∀x∈ps,(aY prog w).is x.key x.kv=true)(hp:∀x∈ps,Hh s.heap x)(q:∀h' tk,h'.DictOf (aY prog w) s.heap.objs.size (nH [] ps)->(∀b u,s.heap.get? b=some u->h'.get? b=some u)->Q (.ref s.heap.objs.size) { s with heap:=h',toks:=tk }):
 wpAny (model prog w) A (call (.type "dict") [.ref t]) Q E s:=by
 refine adX (Q₁:=λobj sx=>obj=.ref s.heap.objs.size/\sx={ s with heap:=s.heap.push ur }) F.kt_called_dict (F.kt_typeCall_dict_1 _) F.entry_dict_init (kt_code_dict_new _ ⟨rfl,rfl⟩) ?_;rintro obj sx ⟨rfl,rfl⟩;have new:(s.heap.push ur).DictOf (aY prog w) s.heap.objs.size []:=Heap.DictOf.new s.heap;have FW:(s.heap.push ur).get? t=some o:=aaH _ ht;refine⟨new.typeIs,F.args_dict_init_2 _ _,?_⟩;unfold Builtin.«dict.__init__» Builtin.Dict.selfAndRest;refine aaC (aaC (adN new.typeIs ?_));show wpAny _ _ (pure (s.heap.objs.size,[Value.ref t])) _ _ _;refine aaE ?_;show wpAny _ _ (Builtin.Dict.updateFrom "dict.__init__" s.heap.objs.size (.ref t) [] .none) _ _ _;unfold Builtin.Dict.updateFrom;refine aaC (acd (s:={ s with heap:=s.heap.push ur }) (T:="tuple") ⟨o,FW,hc⟩ ?_);rw[aaY (by decide)];refine aaC (nR (s:={ s with heap:=s.heap.push ur }) FW hc hd hn (by simp[hh]) λh' tk kp=>?_);rw[aaY (show(none:Option Value).isNone=true from rfl)];have GQ:h'.get? t=some o:=kp _ _ FW;have E4:h'.DictOf (aY prog w) s.heap.objs.size []:=let⟨o',es,ep,e,r⟩:=new;⟨o',es,ep,kp _ _ e,r⟩
 have lS:s.heap.objs.size<h'.objs.size:=let⟨_,_,_,e,_⟩:=E4;aaJ e
 have lt:t<s.heap.objs.size:=aaJ ht;refine aaC (acG (aaC (acV (items:=items) ⟨o,GQ,hc,m,hd⟩ (aaE ⟨acP cv _,?_⟩))));have nI:t≠h'.objs.size:=aaU (ac7 lt lS);have NV:∀x∈ps,x.at_<s.heap.objs.size:=λx hx=>let⟨_,_,e,_⟩:=hp x hx;aaJ e
 refine yO (A:=A.in1) ((Walks.tuple (show A.in1.in1.handled=none by simp[hh]) h'.objs.size t nI items).toS) s.heap.objs.size (by simp;exact⟨aaU lS,adZ lt⟩) ps lp h1 hi (λx hx=>⟨hk x hx,aaU (NV x hx),by simp;exact aaU (ac7 (NV x hx) lS)⟩) (items.size-0) 0 _ [] 0 rfl (aa3 _) ⟨⟨_,aaT _ rfl,rfl,rfl⟩,o,aaH _ GQ,hc,m,hd⟩ (E4.push _) (aaI _) (λx hx=>(hp x hx).to λo e=>aaH _ (kp _ _ (aaH _ e))) λs' mv dd=>?_;obtain⟨h2,g2,d2,Yw,_w⟩:=s';obtain rfl:g2=s.gens:=mv.gens;obtain rfl:d2=s.drawn:=mv.drawn;obtain rfl:_w=s.os:=mv.os;refine⟨rfl,q h2 Yw dd λb u e=>mv.heap b u ?_ (aaH _ (kp _ _ (aaH _ e)))⟩;have lb:=aaJ e;simp only[ab9,acN,List.not_mem_nil,adU,not_or];exact⟨aaU lb,aaU (ac7 lb lS)⟩
end
def Hg(H:Hp):List V->List (Key×V)->Prop:=Paired λ(u:V)(kv:Key×V)=>∃p,u=.ref p/\H p=some (.tup [kV kv.1,kv.2])
variable{H:Hp}
theorem Hg.mem:∀{us:List V}{e_:List (Key×V)},Hg H us e_->∀x∈us,∃p,x=.ref p:=by
 intro us e_ h;unfold Hg at h;induction h with
 |nil=>intro x hx;cases hx
 |cons r _ ih=>
  intro x hx;rcases List.mem_cons.mp hx with rfl|hx
  ·obtain⟨p,e,_⟩:=r;exact⟨p,e⟩
  ·exact ih x hx
theorem uS{P:Program}(ok:A8 P w H h):∀{us:List V}{e_:List (Key×V)}{g8:List Value},Hg H us e_->Vals us g8 ->
 ∃ps:List Qu,ps.length=g8.length/\(∀(i:Nat) v,g8[i]?=some v->∃x,ps[i]?=some x/\v=.ref x.at_)/\(∀x∈ps,(aY P w).is x.key x.kv=true)/\(∀x∈ps,Hh h x)/\KV e_ (ps.map λx=>(x.key,x.val)):=by
 intro us e_ g8 hp;unfold Hg at hp;induction hp generalizing g8 with
 |nil=>
  intro r;cases r;exact⟨[],rfl,(λi v hv=>by simp at hv),(λx hx=>by cases hx),(λx hx=>by cases hx),Paired.nil⟩
 |@cons u kv us e_ e _ ih=>
  intro r;cases r with
  |@cons _ v _ g8 r1 r2=>
  obtain⟨ps,l,h1,h2,h3,h4⟩:=ih r2;obtain⟨p,rfl,hp⟩:=e;cases r1;obtain⟨_,jts,rj,o,ho,hc,n,hd⟩:=(show i9 P w H h p (.tup [kV kv.1,kv.2])from ok p _ hp)
  cases rj with
  |@cons _ a _ _ ra rj=>
  cases rj with
  |@cons _ b _ _ rb rj=>
  cases rj;refine⟨⟨p,kv.1,a,b⟩::ps,by simp[l],λi v hv=>?_,λx hx=>?_,λx hx=>?_,.cons ⟨rfl,rb⟩ h4⟩
  ·cases i with
   |zero=>simp at hv;exact⟨_,rfl,hv.symm⟩
   |succ i=>
    obtain⟨x,y1,y2⟩:=h1 i v (by simpa using hv);exact⟨x,by simpa using y1,y2⟩
  ·rcases List.mem_cons.mp hx with rfl|hx
   ·exact lF ra
   ·exact h2 x hx
  ·rcases List.mem_cons.mp hx with rfl|hx
   ·exact⟨o,n,ho,hc,by simpa using hd⟩
   ·exact h3 x hx
def jl(ps:List Qu)(e_:List (Key×Value)):nH e_ ps=merged e_ (ps.map λx=>(x.key,x.val)):=by unfold nH merged;rw[List.foldl_map]
section
variable{X:Cx}
theorem ix(hc:X.calm=true):eg X (.type "dict") (λxs H Q=>∃a us e_,xs=[.ref a]/\H a=some (.tup us)/\us.length<=1000/\Hg H us e_/\∀d,H d=none->Q (.ref d) (upd H d (.dK (bC [] e_)))):=by
 intro pins s σ H xs us0 Q I r h;obtain⟨a,us,e_,rfl,ha,hl,hp,q⟩:=h;obtain⟨u,rfl,rx⟩:=gT r;cases rx;obtain⟨⟨_,nd⟩,g8,rv,o,ho,Mn,n,GZ⟩:=(show i9 X.prog X.w H s.heap a (.tup us)from I.i4 a _ ha)
 have II:o.dict=none:=by
  rcases nd with⟨x,hx,EY⟩|k
  ·obtain⟨p,e⟩:=hp.mem x hx;exact absurd e (EY p)
  ·exact k o ho
 obtain⟨ps,lp,hi,hk,DT,hkv⟩:=uS I.i4 hp rv;have lv:=rv.length;have lkv:e_.length=us.length:=(acz hp).symm;refine pY (I.ok.hd hc) ho Mn GZ II (by simpa using lp) (by simp;lia) (λi v hv=>hi i v (by simpa using hv)) hk DT λh' tk dd kp=>?_;have hf:H s.heap.objs.size=none:=I.i4.fresh (aaI _);rw[jl]at dd;have hz:(bC [] e_).length<=sizeLine:=by
  have h1:=dg e_ [];have h2:sizeLine=16777216:=by decide
  simp at h1;lia
 exact⟨.ref s.heap.objs.size,_,I.laid (t':=tk) kp (aaI _) (show i9 X.prog X.w _ _ _ (.dK (bC [] e_))from⟨hz,beq_eq_false_iff_ne.mpr (abF (aaU I.big)),_,KV.merge hkv .nil,dd⟩),rfl,q _ hf⟩
inductive CL(x y:V)(H:Hp)(Q:VK):Prop
 |mk:∀a e_ k,x=kV k->y=.ref a->H a=some (.dK e_)->Q (.bl (eH e_ k).isSome) H->CL x y H Q
def AH(hu:X.A.units+1<cLine):B8 X (compareOp .In) CL:=by intro pins s σ H x y v u Q I rx ry h;obtain⟨a,e_,k,rfl,rfl,ha,q⟩:=h;cases ry;exact Dd hu I (EL.k ha) rx λs' I'=>⟨.bl _,H,I',rfl,q⟩
inductive ug(x y:V)(H:Hp)(Q:VK):Prop
 |mk:∀a e_ k,x=kV k->y=.ref a->H a=some (.dK e_)->Q (.bl (!(eH e_ k).isSome)) H->ug x y H Q
def rQ(hu:X.A.units+1<cLine):B8 X (compareOp .NotIn) ug:=by intro pins s σ H x y v u Q I rx ry h;obtain⟨a,e_,k,rfl,rfl,ha,q⟩:=h;cases ry;exact yW hu I (EL.k ha) rx λs' I'=>⟨.bl _,H,I',rfl,q⟩
end
theorem jQ:∀(more e_:List (Key×V))(k:Key),(eH (bC e_ more) k).isSome=true↔((eH e_ k).isSome=true\/k∈more.map Prod.fst)
 |[],e_,k=>by
  show(eH e_ k).isSome=true↔_;simp
 |(j,y)::more,e_,k=>by
  show(eH (bC (qc e_ j y) more) k).isSome=true↔_;rw[jQ more (qc e_ j y) k,uu];by_cases h:k=j
  ·subst h;simp
  ·rw[aaR h,aa7,ab9];constructor
   ·rintro(z|z)
    ·exact .inl z
    ·exact .inr (.inr z)
   ·rintro(z|z|z)
    ·exact .inl z
    ·exact absurd z h
    ·exact .inr z
end L2
namespace L2
open PySem PySem.Spec PySem.Calls PyProof.Rows Builtin Builtin.Tuple
section
variable{X:Cx}
end
end L2
namespace L2
open PySem PySem.Spec PyProof.Rows
inductive CH(K:W.Frag)(n:Nat)(t:IQ)(v:V)(σ:St)(H:Hp)(Q:St->Hp->Prop):Prop
 |mk:∀a xs,v=.ref a->d9 K H a xs->xs.length=n->t xs σ H Q->CH K n t v σ H Q
def Au{X:Cx}{pos:Pos}{es:List Expr}{k:Nat}{t:IQ}{n:Nat}(hc:X.calm=true)(h:Ro X es t)(hn:autoParam ((assignEach es X.env).length=n) θ)(Ec:autoParam ((assignEach es X.env).findIdx? (·.1)=none) θ):QG X (.Tuple es k pos) (CH X.K n t):=⟨by
 intro pins s σ H v u Q I r hw;obtain⟨a,xs,e1,hq,hl,hw⟩:=hw;subst e1;cases r;obtain⟨g8,rv,ht,hz⟩:=I.list hq;rw[assign_Tuple];refine aaC (acy ?_);unfold unpack;rw[show(assignEach es X.env).length=g8.toArray.size by simp[hn,<-hl,rv.length],Ec];refine aaC (abu (PySem.W.kun_itemsOf (I.ok.hd hc) ht.isList λh' hx=>?_));have I1:Inv X pins σ H { s with heap:=h' }:=I.kept (t':=s.toks) λb o e=>hx b o (aaU (aaJ e)) e;exact h.h pins _ σ H xs _ Q I1 (by simpa using rv) hw⟩
end L2
namespace FT
open PySem L2 TR
structure Fr where
 nm:Str
 sg:Str
 br:List Str
abbrev names(G:List Fr):List Str:=G.map Fr.nm
noncomputable def vP(G:List Fr)(n:Str):Option Fr:=G.find? λf=>decide (f.nm=n)
variable{G:List Fr}{f:Fr}
def vO{n:Str}(h:vP G n=some f):f∈G/\f.nm=n:=⟨aeh h,by simpa using List.find?_some h⟩
theorem iZ:∀{G:List Fr},(names G).Nodup->∀{f:Fr},f∈G->vP G f.nm=some f
 |[],_,f,h=>nomatch h
 |g::G,hn,f,h=>by
  unfold vP;rw[abE];have hc:g.nm∉names G/\(names G).Nodup:=List.nodup_cons.mp hn;rcases List.mem_cons.mp h with rfl|h
  ·simp
  ·have ne:¬g.nm=f.nm:=λe=>hc.1 (by rw[e];exact List.mem_map.mpr ⟨f,h,rfl⟩);rw[aaW ne];exact iZ hc.2 h
mutual
noncomputable def fit(G:List Fr):Tr->Option Str
 |.node nm _ bs=>(vP G nm).bind λf=>(eJ G bs).bind λss=>if ss=f.br then some f.sg else none
noncomputable def eJ(G:List Fr):List Tr->Option (List Str)
 |[]=>some []
 |t::ts=>(fit G t).bind λs=>(eJ G ts).bind λss=>some (s::ss)
end
def wS(G:List Fr)(t:Tr):fit G t=(vP G t.nm).bind λf=>(eJ G t.bs).bind λss=>if ss=f.br then some f.sg else none:=by cases t;rw[fit];rfl
variable{t:Tr}{s:Str}
theorem iY(h:fit G t=some s):∃f,vP G t.nm=some f/\eJ G t.bs=some f.br/\f.sg=s:=by
 rw[wS]at h;cases hf:vP G t.nm with
 |none=>rw[hf]at h;cases h
 |some f=>
  rw[hf]at h;cases hs:eJ G t.bs with
  |none=>rw[hs]at h;cases h
  |some ss=>
   rw[hs]at h;have h:(if ss=f.br then some f.sg else none)=some s:=h;split at h
   ·rename_i e;cases h;exact⟨f,rfl,by rw[e],rfl⟩
   ·cases h
def tj(h:vP G t.nm=some f)(hb:eJ G t.bs=some f.br):fit G t=some f.sg:=by rw[wS,h,hb];show(if f.br=f.br then some f.sg else none)=_;rw[aaY rfl]
theorem fQ:∀{G:List Fr}{ts:List Tr}{ss:List Str},eJ G ts=some ss->ss.length=ts.length
 |G,[],ss,h=>by rw[eJ]at h;cases h;rfl
 |G,t::ts,ss,h=>by
  rw[eJ]at h;cases h1:fit G t with
  |none=>rw[h1]at h;cases h
  |some s=>
   rw[h1]at h;cases h2:eJ G ts with
   |none=>rw[h2]at h;cases h
   |some r=>
    rw[h2]at h;cases h;rw[aaM,aaM,fQ h2]
def ke{ts:List Tr}{ss:List Str}(h:fit G t=some s)(hs:eJ G ts=some ss):eJ G (t::ts)=some (s::ss):=by rw[eJ,h,hs];rfl
theorem lL:∀{G:List Fr}{ts:List Tr}{ss:List Str}{i:Nat}{t:Tr},eJ G ts=some ss->ts[i]?=some t->∃s,fit G t=some s/\ss[i]?=some s
 |G,[],ss,i,t,h,hi=>by simp at hi
 |G,u::ts,ss,i,t,h,hi=>by
  rw[eJ]at h;cases h1:fit G u with
  |none=>rw[h1]at h;cases h
  |some s=>
   rw[h1]at h;cases h2:eJ G ts with
   |none=>rw[h2]at h;cases h
   |some r=>
    rw[h2]at h;cases h;cases i with
    |zero=>
     simp at hi;subst hi;exact⟨s,h1,rfl⟩
    |succ i=>
     obtain⟨x,a,b⟩:=lL h2 (show ts[i]?=some t by simpa using hi);exact⟨x,a,by simpa using b⟩
theorem wT:∀{G:List Fr}{p:List Int}{t u:Tr}{s:Str},fit G t=some s->atT p t=some u->∃su,fit G u=some su
 |G,[],t,u,s,h,e=>by cases e;exact⟨s,h⟩
 |G,k::p,t,u,s,h,e=>by obtain⟨_,_,c,hc,_,e'⟩:=fT e;obtain⟨f,_,hb,_⟩:=iY h;obtain⟨sc,h1,_⟩:=lL hb hc;exact wT h1 e'
theorem gh:∀(ts us:List Tr),bj (ts++us)=bj ts+bj us
 |[],us=>by rw[ab2,bj];lia
 |t::ts,us=>by rw[abZ,bj,bj,gh ts us];lia
end FT
namespace SP
open PySem L2 TR FT
open TM
abbrev aP:=List Int×Str
noncomputable def vI(f:Fm):Fr:=⟨f.nm,f.hd,f.br⟩
noncomputable def n9(g:Gr):List Fr:=g.fm.map vI
noncomputable def Ds(g:Gr)(n:Str):Fm:=(g.fm.find? λf=>decide (f.nm=n)).getD ⟨n,n,[],[]⟩
noncomputable def Er(g:Gr)(n:Str):Sg:=(g.sg.find? λs=>decide (s.nm=n)).getD ⟨n,[],[]⟩
noncomputable def sgn(g:Gr)(u:Tr):Sg:=Er g (Ds g u.nm).hd
noncomputable def zk(s:Sg):List Str:=s.dn.map Prod.fst
noncomputable def uo(s:Sg):List Str:=s.up.map Prod.fst
noncomputable def db(s:Sg):List Str:=(s.dn++s.up).map Prod.fst
def eu(s:Sg):db s=zk s++uo s:=aaX
noncomputable def o4(r:Ru):Int×Str:=(r.k,r.nm)
def Due(g:Gr)(f:Fm)(k:Int)(n:Str):Prop:=(k=0/\n∈uo (Er g f.hd))\/∃(i:Nat)(b:Str),f.br[i]?=some b/\k=(i:Int)+1/\n∈zk (Er g b)
structure EK(g:Gr):Prop where
 sn:(g.sg.map Sg.nm).Nodup
 fn:(g.fm.map Fm.nm).Nodup
 ls:g.sg.length<=10
 lf:g.fm.length<=10
 vn:∀s∈g.sg,(db s).Nodup
 vl:∀s∈g.sg,s.dn.length<=2/\s.up.length<=2
 hd:∀f∈g.fm,∃s∈g.sg,s.nm=f.hd
 br:∀f∈g.fm,f.br.length<=3/\∀b∈f.br,∃s∈g.sg,s.nm=b
 rn:∀f∈g.fm,(f.ru.map o4).Nodup
 rl:∀f∈g.fm,f.ru.length<=10
 rd:∀f∈g.fm,∀k n,(k,n)∈f.ru.map o4↔Due g f k n
noncomputable def QK(f:Fm)(k:Int)(n:Str):Tm:=((f.ru.find? λr=>decide (o4 r=(k,n))).map Ru.tm).getD .mark
noncomputable def bM(p:List Int)(q:Pr):aP:=(if q.1=0 then p else p++[q.1],q.2)
noncomputable def zj(p:List Int)(t:Tm):List aP:=(named t).map (bM p)
noncomputable def bI(g:Gr)(xs:List (List Int×Tr)):List aP:=xs.flatMap λx=>(db (sgn g x.2)).map λn=>(x.1,n)
noncomputable def aM(g:Gr)(t:Tr):List aP:=bI g (A9 [] t)
noncomputable def aX(g:Gr)(t:Tr)(sp:aP):List aP:=
 match atT sp.1 t with
 |none=>[]
 |some u=>if sp.2∈uo (sgn g u)then zj sp.1 (QK (Ds g u.nm) 0 sp.2)else
  match sp.1.getLast? with
  |none=>[]
  |some k=>match atT sp.1.dropLast t with
   |none=>[]
   |some v=>zj sp.1.dropLast (QK (Ds g v.nm) k sp.2)
theorem ja{α β:Type}[DecidableEq β](f:α->β):∀{l:List α},(l.map f).Nodup->∀{a:α},a∈l->l.find? (λx=>decide (f x=f a))=some a
 |[],_,a,h=>nomatch h
 |b::l,hn,a,h=>by
  rw[abE];have hc:=List.nodup_cons.mp (show(f b::l.map f).Nodup from hn);rcases List.mem_cons.mp h with rfl|h
  ·simp
  ·have ne:¬f b=f a:=λe=>hc.1 (by rw[e];exact List.mem_map.mpr ⟨a,h,rfl⟩);rw[aaW ne];exact ja f hc.2 h
variable{g:Gr}{f:Fm}
def wR(h:(g.fm.map Fm.nm).Nodup)(m:f∈g.fm):Ds g f.nm=f:=by unfold Ds;rw[ja Fm.nm h m];rfl
def jC(h:(g.sg.map Sg.nm).Nodup){s:Sg}(m:s∈g.sg):Er g s.nm=s:=by unfold Er;rw[ja Sg.nm h m];rfl
variable{r:Ru}
def qz(h:(f.ru.map o4).Nodup)(m:r∈f.ru):QK f r.k r.nm=r.tm:=by unfold QK;have:=ja o4 h m;rw[show(λx=>decide (o4 x=o4 r))=(λx=>decide (o4 x=(r.k,r.nm)))from rfl]at this;rw[this];rfl
variable{n:Str}
def EK.sm(h:EK g)(e:∃s∈g.sg,s.nm=n):Er g n∈g.sg/\(Er g n).nm=n:=by obtain⟨s,m,rfl⟩:=e;rw[jC h.sn m];exact⟨m,rfl⟩
def tq{x:Fr}(h:vP (n9 g) n=some x):∃f∈g.fm,x=vI f/\f.nm=n:=by obtain⟨m,e⟩:=vO h;obtain⟨f,hf,rfl⟩:=List.mem_map.mp m;exact⟨f,hf,rfl,e⟩
variable{p:List Int}{t u:Tr}{s:Str}
def bT(G:EK g)(h:fit (n9 g) t=some s)(hu:atT p t=some u):
 Ds g u.nm∈g.fm/\(Ds g u.nm).nm=u.nm/\eJ (n9 g) u.bs=some (Ds g u.nm).br:=by
 obtain⟨su,hs⟩:=wT h hu;obtain⟨x,hx,hb,_⟩:=iY hs;obtain⟨f,m,rfl,e⟩:=tq hx;rw[<-e,wR G.fn m];exact⟨m,rfl,hb⟩
def Ba(G:EK g)(h:fit (n9 g) u=some s):(Ds g u.nm).hd=s:=by obtain⟨x,hx,hb,rfl⟩:=iY h;obtain⟨f,m,rfl,e⟩:=tq hx;rw[<-e,wR G.fn m];rfl
def cG(G:EK g)(h:fit (n9 g) t=some s)(hu:atT p t=some u):sgn g u∈g.sg/\(sgn g u).nm=(Ds g u.nm).hd:=G.sm (G.hd _ (bT G h hu).1)
variable{c:Tr}
def zb{k:Int}(h:atT [k] u=some c):1<=k/\k<=u.bs.length/\u.bs[(k-1).toNat]?=some c:=by obtain⟨h1,h2,c',h3,_,h4⟩:=fT h;cases h4;exact⟨h1,h2,h3⟩
variable{i:Nat}
theorem xZ(h:u.bs[i]?=some c):atT [(i:Int)+1] u=some c:=by unfold atT;rw[aaY (by lia),show((i:Int)+1-1).toNat=i by lia,h];rfl
theorem qU{k:Int}(h:atT (p++[k]) t=some c):∃u,atT p t=some u/\1<=k/\k<=u.bs.length/\u.bs[(k-1).toNat]?=some c:=by
 rw[gP]at h;cases hu:atT p t with
 |none=>rw[hu]at h;cases h
 |some u=>
  rw[hu]at h;exact⟨u,rfl,zb h⟩
def lV(hu:atT p t=some u)(hc:u.bs[i]?=some c):atT (p++[(i:Int)+1]) t=some c:=by rw[gP,hu];exact xZ hc
def dN(G:EK g)(h:fit (n9 g) t=some s)(hu:atT p t=some u)(hc:u.bs[i]?=some c):∃b,(Ds g u.nm).br[i]?=some b/\(Ds g c.nm).hd=b/\sgn g c=Er g b:=by obtain⟨_,_,hb⟩:=bT G h hu;obtain⟨b,h1,h2⟩:=lL hb hc;have e:=Ba G h1;exact⟨b,h2,e,by unfold sgn;rw[e]⟩
theorem wM:∀(r:List Int){t u:Tr}{p:List Int},atT r t=some u->(p++r,u)∈A9 p t
 |[],t,u,p,h=>by
  cases h;rw[aby,mT];exact abd
 |k::r,t,u,p,h=>by obtain⟨h1,h2,c,hc,_,hr⟩:=fT h;have:=wM r (p:=p++[k]) hr;rw[abr,aeB]at this;rw[mT,kY];refine aa9 _ (List.mem_flatMap.mpr ⟨(p++[k],c),?_,this⟩);have e:=gA p t.bs 1 hc;rw[show 1+(((k-1).toNat:Nat):Int)=k by lia]at e;exact aaD e
def u_:(p,u)∈A9 [] t↔atT p t=some u:=by
 constructor
 ·intro h;obtain⟨r,e,h'⟩:=sk t h;rw[e];exact h'
 ·intro h;exact wM p (p:=[]) h
variable{sp:aP}
def p6:sp∈aM g t↔∃u,atT sp.1 t=some u/\sp.2∈db (sgn g u):=by
 unfold aM bI;rw[List.mem_flatMap];constructor
 ·rintro⟨⟨p,u⟩,hm,hn⟩;obtain⟨n,h1,rfl⟩:=List.mem_map.mp hn;exact⟨u,u_.mp hm,h1⟩
 ·rintro⟨u,h1,h2⟩;exact⟨(sp.1,u),u_.mpr h1,List.mem_map.mpr ⟨sp.2,h2,rfl⟩⟩
def mP(hu:atT p t=some u)(hn:n∈uo (sgn g u)):aX g t (p,n)=zj p (QK (Ds g u.nm) 0 n):=by unfold aX;simp only[hu];rw[aaY hn]
def ij(hn:n∉uo (sgn g t)):aX g t ([],n)=[]:=by unfold aX;simp only[show atT [] t=some t from rfl];rw[aaR hn];rfl
def mQ{k:Int}(hc:atT (p++[k]) t=some c)(hu:atT p t=some u)(hn:n∉uo (sgn g c)):aX g t (p++[k],n)=zj p (QK (Ds g u.nm) k n):=by unfold aX;simp only[hc];rw[aaR hn];simp only[List.getLast?_append,List.getLast?_singleton,abh,hu];rfl
def tI{s:Sg}(h:(db s).Nodup)(hn:n∈zk s):n∉uo s:=λhu=>by rw[eu]at h;exact(List.nodup_append.mp h).2.2 n hn n hu rfl
theorem lO(G:EK g)(h:fit (n9 g) t=some s)(hu:atT p t=some u)(hr:r∈(Ds g u.nm).ru):bM p (o4 r)∈aM g t/\aX g t (bM p (o4 r))=zj p r.tm:=by
 obtain⟨fm,fn,fb⟩:=bT G h hu;have et:=qz (G.rn _ fm) hr;rcases(G.rd _ fm r.k r.nm).mp (List.mem_map.mpr ⟨r,hr,rfl⟩)with⟨e,hn⟩|⟨i,b,hb,e,hn⟩
 ·have es:bM p (o4 r)=(p,r.nm):=by
   unfold bM o4;rw[aaY e]
  rw[es];refine⟨p6.mpr ⟨u,hu,?_⟩,?_⟩
  ·rw[eu];exact aaV _ hn
  ·rw[mP hu hn,<-et,e]
 ·have hl:=fQ fb;obtain⟨c,hc⟩:=ax (xs:=u.bs) (i:=i) (by have:=ao hb;lia);obtain⟨b',Ee,_,es⟩:=dN G h hu hc;rw[hb]at Ee;cases Ee;have C8:=lV hu hc;have e2:bM p (o4 r)=(p++[(i:Int)+1],r.nm):=by
   unfold bM o4;rw[aaR (show¬r.k=0 by lia),e]
  have bm:=G.sm ((G.br _ fm).2 b (aaD hb));rw[e2];refine⟨p6.mpr ⟨c,C8,?_⟩,?_⟩
  ·rw[eu,es];exact abe _ hn
  ·rw[mQ C8 hu (by rw[es];exact tI (G.vn _ bm.1) hn),<-et,e]
theorem jf(G:EK g)(h:fit (n9 g) t=some s)(hs:sp∈aM g t):aX g t sp=[]\/∃p u r,atT p t=some u/\r∈(Ds g u.nm).ru/\bM p (o4 r)=sp:=by
 obtain⟨p,n⟩:=sp;obtain⟨u,hu,hn⟩:=p6.mp hs;obtain⟨fm,fn,fb⟩:=bT G h hu;by_cases Hu:n∈uo (sgn g u)
 ·obtain⟨r,hr,e⟩:=List.mem_map.mp ((G.rd _ fm 0 n).mpr (.inl ⟨rfl,Hu⟩));refine .inr ⟨p,u,r,hu,hr,?_⟩;rw[e];unfold bM;rw[aaY rfl]
 ·have Gz:n∈zk (sgn g u):=by
   have hn:n∈db (sgn g u):=hn;rw[eu]at hn;exact(List.mem_append.mp hn).resolve_right Hu
  cases hp:p.reverse with
  |nil=>
   have:p=[]:=List.reverse_eq_nil_iff.mp hp;subst this;cases hu;exact .inl (ij Hu)
  |cons k q=>
   have:p=q.reverse++[k]:=by rw[<-adB p,hp,acQ]
   subst this;obtain⟨v,hv,k1,k2,hc⟩:=qU hu;obtain⟨b,hb,_,es⟩:=dN G h hv hc;obtain⟨vm,_,_⟩:=bT G h hv;obtain⟨r,hr,e⟩:=List.mem_map.mp ((G.rd _ vm k n).mpr (.inr ⟨(k-1).toNat,b,hb,by lia,by rw[<-es];exact Gz⟩));refine .inr ⟨q.reverse,v,r,hv,hr,?_⟩;rw[e];unfold bM;rw[aaR (show¬k=0 by lia)]
theorem fe:∀(ts:List Tr){k:Int}{p:List Int},p∈bL k ts->∃j r,p=j::r/\k<=j
 |[],k,p,h=>by rw[bL]at h;cases h
 |t::ts,k,p,h=>by
  rw[bL]at h;rcases List.mem_append.mp h with h|h
  ·obtain⟨q,_,rfl⟩:=List.mem_map.mp h;exact⟨k,q,rfl,ad6 _⟩
  ·obtain⟨j,r,e,h2⟩:=fe ts h;exact⟨j,r,e,by lia⟩
mutual
theorem rL:∀t:Tr,(iL t).Nodup
 |.node nm mk bs=>by rw[iL];refine List.nodup_cons.mpr ⟨λh=>?_,mG bs 1⟩;obtain⟨_,_,e,_⟩:=fe bs h;cases e
theorem mG:∀(ts:List Tr)(k:Int),(bL k ts).Nodup
 |[],k=>by rw[bL];exact acw
 |t::ts,k=>by rw[bL];refine List.nodup_append.mpr ⟨List.pairwise_map.mpr ((rL t).imp λh e=>h (aca e).2),mG ts (k+1),λa ha b hb e=>?_⟩;obtain⟨q,_,rfl⟩:=List.mem_map.mp ha;obtain⟨j,r,e2,h2⟩:=fe ts hb;rw[<-e]at e2;have:=(aca e2).1;lia
end
def wN(t:Tr):((A9 [] t).map Prod.fst).Nodup:=by rw[sq];exact rL t
theorem fZ{g:Gr}:∀{xs:List (List Int×Tr)},(xs.map Prod.fst).Nodup->(∀x∈xs,(db (sgn g x.2)).Nodup)->(bI g xs).Nodup
 |[],_,_=>acw
 |x::xs,h,hv=>by obtain⟨h1,h2⟩:=List.nodup_cons.mp (show(x.1::xs.map Prod.fst).Nodup from h);show((db (sgn g x.2)).map (λn=>(x.1,n))++bI g xs).Nodup;refine List.nodup_append.mpr ⟨List.pairwise_map.mpr ((hv x (by simp)).imp λh e=>h (adf e).2),fZ h2 λy hy=>hv y (by simp[hy]),λa ha b hb e=>?_⟩;obtain⟨n,_,rfl⟩:=List.mem_map.mp ha;unfold bI at hb;obtain⟨y,hy,hb⟩:=List.mem_flatMap.mp hb;obtain⟨m,_,rfl⟩:=List.mem_map.mp hb;exact h1 (by rw[(adf e).1];exact List.mem_map.mpr ⟨y,hy,rfl⟩)
def eV(G:EK g)(h:fit (n9 g) t=some s):(aM g t).Nodup:=
 fZ (wN t) λx hx=>G.vn _ (cG G h (u_.mp (show(x.1,x.2)∈A9 [] t from hx))).1
def eX(g:Gr)(xs ys:List (List Int×Tr)):bI g (xs++ys)=bI g xs++bI g ys:=List.flatMap_append
def eW(g:Gr)(x:List Int×Tr):bI g [x]=(db (sgn g x.2)).map λn=>(x.1,n):=by unfold bI;simp
theorem md(G:EK g){s:Sg}(h:s∈g.sg):(db s).length<=4:=by have:=G.vl s h;unfold db;rw[aaG,aaF];lia
theorem dP{g:Gr}(G:EK g):∀{xs:List (List Int×Tr)},(∀x∈xs,sgn g x.2∈g.sg)->(bI g xs).length<=4*xs.length
 |[],_=>aa3 _
 |x::xs,h=>by show((db (sgn g x.2)).map (λn=>(x.1,n))++bI g xs).length<=_;rw[aaF,aaG,aaM];have h1:=md G (h x (by simp));have h2:=dP G (xs:=xs) λy hy=>h y (by simp[hy]);lia
def fY(G:EK g)(h:fit (n9 g) t=some s):(aM g t).length<=4*size t:=by have:=dP G (xs:=A9 [] t) λx hx=>(cG G h (u_.mp (show(x.1,x.2)∈A9 [] t from hx))).1;rw[dF]at this;exact this
end SP
namespace SP
open PySem L2
open TM
structure TB(S:List Pr)(d:Nat)(k:Int)(t:Tm):Prop where
 dp:depth t<=d
 pt:bn t<=k
 nm:∀p∈named t,p∈S
variable{p:Pr}
def sv{acc:List Pr}{q:Pr}:p∈dv acc q↔p∈acc\/p=q:=by
 unfold dv;split
 ·constructor
  ·exact .inl
  ·rintro(h|rfl)
   ·exact h
   ·assumption
 ·rw[adw,acN]
theorem sr:∀{ps acc:List Pr}{p:Pr},p∈DL acc ps↔p∈acc\/p∈ps
 |[],acc,p=>by unfold DL;simp
 |q::ps,acc,p=>by have:=sr (ps:=ps) (acc:=dv acc q) (p:=p);unfold DL at this⊢;rw[aed,this,sv,ab9,or_assoc]
theorem im:∀{ts:List Tm}{acc:List Pr}{p:Pr},p∈cN acc ts↔p∈acc\/∃t∈ts,p∈named t
 |[],acc,p=>by rw[cN];simp
 |t::ts,acc,p=>by rw[cN,im,sr,or_assoc];simp
variable{w:Str}
def A1{ts:List Tm}:p∈named (.call w ts)↔∃t∈ts,p∈named t:=by rw[named,im];simp
variable{S:List Pr}{d d':Nat}{t:Tm}{k':Int}
def TB.mono{S':List Pr}{k:Int}(h:TB S d k t)(hs:∀p∈S,p∈S')(hd:d<=d')(hk:k<=k'):TB S' d' k' t:=⟨abg h.dp hd,Int.le_trans h.pt hk,λp hp=>hs p (h.nm p hp)⟩
def TB.le{k:Int}(h:TB S d k t)(hd:d<=d')(hk:k<=k'):TB S d' k' t:=h.mono (λ_ h=>h) hd hk
theorem TB.mark{S:List Pr}:TB S 1 1 .mark:=⟨by rw[depth];decide,by rw[bn];decide,λp hp=>by rw[named]at hp;cases hp⟩
theorem TB.row{S:List Pr}:TB S 1 1 .row:=⟨by rw[depth];decide,by rw[bn];decide,λp hp=>by rw[named]at hp;cases hp⟩
theorem TB.num{S:List Pr}{n:Int}:TB S 1 1 (.num n):=⟨by rw[depth];decide,by rw[bn];decide,λp hp=>by rw[named]at hp;cases hp⟩
theorem TB.text{S:List Pr}{z:Str}:TB S 1 1 (.text z):=⟨by rw[depth];decide,by rw[bn];decide,λp hp=>by rw[named]at hp;cases hp⟩
theorem TB.val{S:List Pr}{k:Int}{z:Str}(h:(k,z)∈S):TB S 1 1 (.val k z):=⟨by rw[depth];decide,by rw[bn];decide,λp hp=>by
 rw[named,acN]at hp;rw[hp];exact h⟩
theorem TB.Ky{k:Int}(h:TB S d k t):TB S (1+d) (1+k) (.call w [t]):=⟨by
 rw[depth,bP,bP];have:=h.dp;lia,by
 rw[bn,bd,bd];have:=h.pt;lia,λp hp=>by
 obtain⟨x,hx,h2⟩:=A1.mp hp;rw[List.mem_singleton.mp hx]at h2;exact h.nm p h2⟩
variable{e:Nat}{l:Int}{u:Tm}
theorem TB.call2{k:Int}(h:TB S d k t)(g:TB S e l u):TB S (1+max d e) (1+k+l) (.call w [t,u]):=⟨by
 rw[depth,bP,bP,bP];have:=h.dp;have:=g.dp;lia,by
 rw[bn,bd,bd,bd];have:=h.pt;have:=g.pt;lia,λp hp=>by
 obtain⟨x,hx,h2⟩:=A1.mp hp;simp only[ab9,acY,adU]at hx;rcases hx with rfl|rfl
 ·exact h.nm p h2
 ·exact g.nm p h2⟩
theorem TB.NF{f:Nat}{k m:Int}{v:Tm}(h:TB S d k t)(g:TB S e l u)(i:TB S f m v):TB S (1+max d (max e f)) (1+k+l+m) (.call w [t,u,v]):=⟨by
 rw[depth,bP,bP,bP,bP];have:=h.dp;have:=g.dp;have:=i.dp;lia,by
 rw[bn,bd,bd,bd,bd];have:=h.pt;have:=g.pt;have:=i.pt;lia,λp hp=>by
 obtain⟨x,hx,h2⟩:=A1.mp hp;simp only[ab9,acY,adU]at hx;rcases hx with rfl|rfl|rfl
 ·exact h.nm p h2
 ·exact g.nm p h2
 ·exact i.nm p h2⟩
end SP
namespace L2
open PySem PySem.Spec PyProof.Rows
def E_:Slot "ValueError" "__getattribute__" "BaseException.__getattribute__":=
 .of (owner:="BaseException") (n:="__getattribute__") (by rw[acU,ab8];kernel_rfl) (by decide +kernel) (by decide +kernel) (by decide +kernel) (by first|exact .inl (by decide +kernel)|exact .inr (by decide +kernel)) (by rw[adW];kernel_rfl)
def sY:builtinKind "BaseException.__getattribute__" = some .slot:=by decide +kernel
def pQ:splitId "BaseException.__getattribute__" = some ("BaseException", "__getattribute__"):=by decide +kernel
def CY{prog:Program}{w:World}{A:Around}{E:Value->Shared->Prop}{s:Shared}{K:W.Frag}{x C:Addr}{ox:Obj}{od:Option Obj}{name:Str}{ex:Bool}{v:Value}{Q:Value->Shared->Prop}(X:K.In s.heap)(I:PySem.W.InstAt s.heap x ox C od)(ha:PySem.W.findIn K (.ref C) "__getattribute__" = some (some (.builtin "BaseException.__getattribute__")))(hn:PySem.W.findIn K (.ref C) "__getattr__" = some none)(hm:PySem.W.mroIn K C (.type "BaseException")=some true)(hf:PySem.W.findObj K C od name=some (.value v))(hv:PySem.W.handedIn v=true)(h:∀tk,Q v { s with toks:=tk }):wpAny (model prog w) A (getAttr (.ref x) name ex) Q E s:=by
 obtain⟨hh,g,d,t,os⟩:=s;have T0:=I.type (M:=model prog w);have T1:=ac0 (M:=model prog w) X ha;have T2:=PySem.W.looks_find (M:=model prog w) X I hf;have T3:=ac0 (M:=model prog w) X hn;have T4:PySem.W.Looks (model prog w) hh (isInstance (.ref x) (.type "BaseException")) true:=T0.andThen (PySem.W.looks_mroIn X hm);unfold getAttr getAttrBy;refine aaC (wpAny_mkText (abu (aaC (T0.at (aaC (T1.at ?_))))));show wpAny _ _ (getAttrByItsOwn _ _ _ _ _ _) _ _ _;unfold getAttrByItsOwn hookBefore;refine aaC (T3.at (aaC (wpAny_attempt ?_)));unfold callGetattribute;rw[show(ex&&onTheHeap (Value.builtin "BaseException.__getattribute__"))=false by cases ex<;>rfl];rw[aaR (by decide)];unfold boundAndCalled;repeat wp_step
 rw[E_.bind];refine aaE ?_;dsimp only;refine ad9 (ace E_.plain F.entry_bexc_ga ?_);have hA:=F.args_bexc_ga (.ref x) (.str name t);simp only[checkBuiltinCall,sY,pQ];refine aaC (T4.at ?_);rw[aaR (by decide)];have fin:wpAny (model prog w) A.in1 (Builtin.«object.__getattribute__» ⟨[.ref x,.str name t],[]⟩) (λfin s'=>match fin with|.done (.ret v)=>wpAny (model prog w) A (handedOut v) Q E s'|_=>False) (λ_ _=>False) ⟨hh,g,d,t+1,os⟩:=by unfold Builtin.«object.__getattribute__»;refine aaC (aaE (aaC (aaE (aaC (T0.at (aaC (T2.at ?_)))))));refine aaE ?_;show wpAny _ _ (handedOut v) _ _ _;rw[PySem.W.handedOut_of hv];exact aaE (h (t+1))
 refine abp (Q:=λ_ s1=>s1=⟨hh,g,d,t+1,os⟩) ?_ (λ_ s1 e1=>?_) λ_ _ z=>z
 ·cases Ie:Manifest.signature? "BaseException.__getattribute__" with
  |none=>exact aaE rfl
  |some sig=>
   simp only[argsOk,Ie]at hA;have h2:Bind.checkArgs "BaseException.__getattribute__" sig ⟨[.ref x,.str name t],[]⟩=pure ():=hA;show wpAny _ _ (Bind.checkArgs "BaseException.__getattribute__" sig ⟨[.ref x,.str name t],[]⟩) _ _ _;rw[h2];exact aaE rfl
 ·subst e1;refine abp fin (λfin s' z=>?_) λ_ _ z=>z.elim;rcases fin with(_|_|_|_)|_<;>first|exact z|exact z.elim
end L2
namespace L2
open PySem PySem.Spec PyProof.Rows
open Builtin Builtin.ObjectAttr
noncomputable def eG:List Value->Bool
 |.ref _::r=>eG r
 |[.type a,.type b,.type c,.type d]=>a == "ValueError" && b == "Exception" && c == "BaseException" && d == "object"
 |_=>false
theorem fG(self:Value):∀{l:List Value},eG l=true->refuseLoop self "__setattr__" l=pure ()/\l.contains (.type "object")=true
 |.ref c::r,e=>by
  obtain⟨e1,e2⟩:=fG self (l:=r) (by unfold eG at e;exact e);exact⟨by rw[refuseLoop_ref];exact e1,by rw[adS,e2,aez]⟩
 |[.type a,.type b,.type c,.type d],e=>by unfold eG at e;simp only[abI,ado]at e;obtain⟨⟨⟨rfl,rfl⟩,rfl⟩,rfl⟩:=e;exact⟨PySem.F.store_ValueError.passes self,by decide +kernel⟩
section
variable{prog:Program}{w:World}{A:Around}{E:Value->Shared->Prop}{s:Shared}{K:W.Frag}{x C:Addr}{vs:Array Value}{sl:Array (Option Value)}{name:Str}{v:Value}{Q:Unit->Shared->Prop}
theorem CO(X:K.In s.heap)(hx:s.heap.get? x=some ⟨.ref C,none,.fields vs,sl⟩)(hs:PySem.W.findIn K (.ref C) "__setattr__" = some (some (.builtin "object.__setattr__")))(hp:(PySem.W.clsIn K C).any (λcd=>eG cd.mro)=true)(ht:PySem.W.findIn K (.ref C) name=some none)(hh:PySem.W.hasDictIn K C=true)(h:∀h' tk,h'.get? x=some ⟨.ref C,some s.heap.objs.size,.fields vs,sl⟩->h'.Ns1 s.heap.objs.size (λy=>if y=name then some v else none)->(∀b o,b≠x->s.heap.get? b=some o->h'.get? b=some o)->Q () { s with heap:=h',toks:=tk }):
 wpAny (model prog w) A (setAttr (.ref x) name v) Q E s:=by
 obtain⟨Fv,g,d,t,os⟩:=s;have I:PySem.W.InstAt Fv x ⟨.ref C,none,.fields vs,sl⟩ C none:=⟨hx,rfl,rfl,trivial⟩
 have SF:=PySem.F.store_ValueError;obtain⟨cd,ER,ho⟩:=PySem.W.any_some hp;obtain⟨cd',UL,hdict⟩:=PySem.W.any_some hh;rw[ER]at UL;cases UL;obtain⟨pass,cont⟩:=fG (.ref x) ho;have ne:cd.mro.isEmpty=false:=by
  cases q:cd.mro with
  |nil=>rw[q]at cont;cases cont
  |cons _ _=>rfl
 have T0:=I.type (M:=model prog w);have sub:PySem.W.Looks (model prog w) Fv (isInstance (.ref x) (.type "object")) true:=T0.andThen (PySem.W.looks_mroIn X (by unfold PySem.W.mroIn;rw[ER,Option.bind_some,aaR (by rw[ne];decide),cont]));have hm:PySem.W.Looks (model prog w) Fv (mroOf (.ref C)) cd.mro:=(PySem.W.looks_clsIn X ER).andThen .now;have T1:=ac0 (M:=model prog w) X ht;refine PySem.W.set_plain X I hs ?_;refine ace SF.slot.plain SF.entry (@PySem.W.check_slot (model prog w) _ _ ⟨Fv,g,d,t+1,os⟩ "object.__setattr__" "object" "__setattr__" (.ref x) [.str name t,v] [] _ SF.kind SF.split sub (SF.args (.ref x) (.str name t) v) ?_);rw[PySem.W.osa_eq,refuse_eq];refine aaC (aaC (T0.at (aaC (hm.at ?_))));rw[pass];refine aaE (aaC (T0.at (aaC (T1.at (aaC (PySem.W.Looks.now.at ?_))))));show wpAny _ _ (storeInOwnDict (.ref x) (.ref C) (.str name t) name v false) _ _ _;unfold storeInOwnDict ownStreamTells ownDictForStores;have hx1:(Fv.push { cls:=.type "dict",data:=.dict #[] }).get? x=some ⟨.ref C,none,.fields vs,sl⟩:=aaH _ hx;have nx:x≠Fv.objs.size:=aaU (aaJ hx);have Tc:=PySem.W.looks_clsIn (M:=model prog w) X ER;have gd:((Fv.push { cls:=.type "dict",data:=.dict #[] }).update x λo=>{ cls:=o.cls,dict:=some Fv.objs.size,data:=o.data,slots:=o.slots }).get? Fv.objs.size=some { cls:=.type "dict",data:=.dict #[] }:=
  (Heap.get?_update_ne _ _ _ _ nx.symm).trans (Heap.get?_push_at rfl rfl)
 have gx:((Fv.push { cls:=.type "dict",data:=.dict #[] }).update x λo=>{ cls:=o.cls,dict:=some Fv.objs.size,data:=o.data,slots:=o.slots }).get? x=some ⟨.ref C,some Fv.objs.size,.fields vs,sl⟩:=abC _ hx1 rfl;have gk:∀b o,b≠x->Fv.get? b=some o->((Fv.push { cls:=.type "dict",data:=.dict #[] }).update x λo=>{ cls:=o.cls,dict:=some Fv.objs.size,data:=o.data,slots:=o.slots }).get? b=some o:=λb o nb e=>(Heap.get?_update_ne _ _ _ _ nb).trans (aaH _ e);have gn:=Heap.Ns1.of_empty ⟨_,#[],_,gd,rfl,(λe he=>absurd he (by simp)),λ_=>rfl⟩;repeat (first|with_reducible refine abT hx ?_|with_reducible refine Tc.at ?_|with_reducible refine wpAny_nsSet1 gn λh' n' sb=>?_|wp_step)
 obtain⟨oD,esD,epD,hoD,hdD,hcD⟩:=n'.count (Within.cons name v Within.nil);repeat wp_step
 rw[show oD.data.pastItsLine=none by rw[hdD];exact pastItsLine_dict (abg hcD (by rw[aaM,acL,adv];lia))];refine aaE (aaE ?_);exact h h' _ ((sb.2 x nx).trans gx) n' λb o nb e=>(sb.2 b (aaU (aaJ e))).trans (gk b o nb e)
end
end L2
namespace L2
open PySem PySem.Spec PyProof.Rows
noncomputable def dq(K:W.Frag)(C:Addr):Bool:=
 match K.lookup C with
 |some ⟨.type "type",_,.cls cd,sl⟩=>
  match cd.mro,sl.toList with
  |.ref D::bm,[_,_,_,_,some (.builtin n),_]=>(D == C&&n == "ValueError.__new__")&&(!cd.hasDel&&PySem.W.tailIn K OG bm)
  |_,_=>false
 |_=>false
variable{C:Addr}{K:W.Frag}{h:Heap}
def cP(X:K.In h)(q:dq K C=true):
 ∃bm N nm qn bs hdct sn sub ab col dd k0 k1 k2 k3 k5,h.get? C=some (excClassObj nm qn C N bs bm hdct sn sub ab col dd k0 k1 k2 k3 k5 "ValueError.__new__")/\OwnTail h OG bm /\
  ∀v b,PySem.W.mroIn K C v=some b->(Value.ref C::bm).contains v=b:=by
 unfold dq at q;split at q
 ·rename_i dd cd sl ho;split at q
  ·rename_i C' bm k0 k1 k2 k3 n k5 hm hs;simp only[abI,ado,Bool.not_eq_true']at q;obtain⟨⟨rfl,rfl⟩,JO,ht⟩:=q;obtain⟨nm,bs,mro,ns,qn,hd,sn,sub,ab,col,del⟩:=cd;dsimp only at hm JO;subst hm JO;have PD:sl=#[k0,k1,k2,k3,some (.builtin "ValueError.__new__"),k5]:=by
    obtain⟨l⟩:=sl;simp only at hs;rw[hs]
   subst PD;refine⟨bm,ns,nm,qn,bs,hd,sn,sub,ab,col,dd,k0,k1,k2,k3,k5,X _ _ ho,PySem.W.tail_of_in X ht,λv b e=>?_⟩;unfold PySem.W.mroIn PySem.W.clsIn at e;rw[ho]at e;simpa using e
  ·cases q
 ·cases q
section
variable{prog:Program}{w:World}{A:Around}{E:Value->Shared->Prop}{K:W.Frag}{s:Shared}{C fI:Addr}{rest:List Value}
abbrev newExc(C t:Addr):Obj:={ cls:=.ref C,data:=.fields #[.ref t,.none,.none,.none,.bool false,.none] }
def nN{Q:Fin->Shared->Prop}(X:K.In s.heap)(hC:dq K C=true)(hi:PySem.W.findIn K (.ref C) "__init__" = some (some (.ref fI)))(hf:PySem.W.typeIn K (.ref fI)=some (.type "function"))(E6:rest.length<=sizeLine)(hq:∀h' e t,(∀b o,s.heap.get? b=some o->h'.get? b=some o)->s.heap.get? e=none->h'.get? e=some (newExc C t) ->
 codeAny (model prog w) A (.call (.ref fI) ⟨.ref e::rest,[]⟩) (λr s'=>r=.ok (.ret .none)/\Q (.done (.ret (.ref e))) s') { s with heap:=h' }):
 wpAny (model prog w) A (Builtin.«type.__call__» ⟨.ref C::rest,[]⟩) Q E s:=by
 obtain⟨h,g,d,t,os⟩:=s;obtain⟨bm,N,nm,qn,bs,hdct,sn,sub,ab,col,dd,k0,k1,k2,k3,k5,oC,T,hm⟩:=cP X hC;have F:=aef;repeat (first|with_reducible refine abT oC ?_|with_reducible refine wpAny_madeBy_exc oC ?_|wp_step)
 refine codeAny_call_builtin_code (adk _ F.quiet) (wpAny_check_new_subT F T oC (codeAny_exc_new_subT F T oC ?_ E6));show wpAny _ _ _ _ _ _;have kp:∀b o,h.get? b=some o->((h.push { cls:=.type "tuple",data:=.seq rest.toArray }).push (newExc C h.objs.size)).get? b=some o:=λb o e=>aaH _ (aaH _ e);have X1:K.In ((h.push { cls:=.type "tuple",data:=.seq rest.toArray }).push (newExc C h.objs.size)):=λb o e=>kp b o (X b o e);have oE:((h.push { cls:=.type "tuple",data:=.seq rest.toArray }).push (newExc C h.objs.size)).get? (h.objs.size+1)=some (newExc C h.objs.size):=by have:=aaT (h.push { cls:=.type "tuple",data:=.seq rest.toArray }) (o:=newExc C h.objs.size) rfl;rwa [ac2]at this
 have cC:(Value.ref C::bm).contains (.ref C)=true:=by simp
 have T1:=ac0 (M:=model prog w) X1 hi;unfold isInstance;repeat (first|with_reducible refine abT oE ?_|(with_reducible refine adb (kp _ _ oC) ?_;rw[cC])|wp_step)
 have T2:=PySem.W.bind_fn (M:=model prog w) X1 (.ref (h.objs.size+1)) hf;repeat (first|with_reducible refine abT oE ?_|with_reducible refine T1.at ?_|with_reducible refine T2.at ?_|wp_step)
 refine acr (hq _ (h.objs.size+1) h.objs.size kp (acH (ach _)) oE) λr s' z=>?_;obtain⟨rfl,z⟩:=z;refine aaE ?_
 wp_walk
 exact z
def Cg{Q:Value->Shared->Prop}(X:K.In s.heap)(hC:dq K C=true)(hi:PySem.W.findIn K (.ref C) "__init__" = some (some (.ref fI)))(hf:PySem.W.typeIn K (.ref fI)=some (.type "function"))(E6:rest.length<=sizeLine)(hq:∀h' e t,(∀b o,s.heap.get? b=some o->h'.get? b=some o)->s.heap.get? e=none->h'.get? e=some (newExc C t) ->
 codeAny (model prog w) (A.under (.builtin "type.__call__" ⟨.ref C::rest,[]⟩)) (.call (.ref fI) ⟨.ref e::rest,[]⟩) (λr s'=>r=.ok (.ret .none)/\Q (.ref e) s') { s with heap:=h' }):
 wpAny (model prog w) A (call (.ref C) rest) Q E s:=by
 obtain⟨h,g,d,t,os⟩:=s;obtain⟨bm,N,nm,qn,bs,hdct,sn,sub,ab,col,dd,k0,k1,k2,k3,k5,oC,T,hm⟩:=cP X hC;have y1:=tc_lookup;have y2:=tc_bind (.ref C);have y3:(⟨h,g,d,t,os⟩:Shared).TypeIs (.ref C) "type":=⟨_,oC,rfl⟩
 refine ad9 (aer ?_);show wpAny _ _ (callAny (.ref C) _) _ _ _;repeat (any_goals (first|assumption|with_reducible refine abT oC ?_|wp_step))
 refine⟨rfl,codeAny_call_builtin_at (adk _ (by decide +kernel)) entry_typeCall (wpAny_check_type_call_sub oC (nN X hC hi hf E6 λh' e tt k1 k2 k3=>?_))⟩;exact hq h' e tt k1 k2 k3
end
variable{env:Env}{E:Value->Shared->Prop}{A:Around}{w:World}
def pq{prog:Program}{s:Shared}{x:Sem Value}{Q:Flow->Shared->Prop}(hC:dq K C=true)(hh:A.handled=none)(h:wpAny (model prog w) A x (λv sx=>∃e t od sl,v=.ref e/\K.In sx.heap/\sx.heap.get? e=some ⟨.ref C,od,.fields #[.ref t,.none,.none,.none,.bool false,.none],sl⟩/\E (.ref e) sx) E s):
 wpAny (model prog w) A (raiseStmt env (some x) none) Q E s:=by
 unfold raiseStmt;refine aaC (abp h (λv sx hx=>?_) λ_ _ x=>x);obtain⟨e,t,od,sl,rfl,X,oE,hE⟩:=hx;obtain⟨bm,N,nm,qn,bs,hdct,sn,sub,ab,col,dd,k0,k1,k2,k3,k5,oC,T,hm⟩:=cP X hC;have cB:(Value.ref C::bm).contains (.type "BaseException")=true:=by rw[adS,T.hasType (b:=true) (by decide +kernel),aez]
 obtain⟨hh0,g,d,tk,os⟩:=sx;repeat (first|with_reducible refine abT oE ?_|with_reducible refine abT oC ?_|(with_reducible refine adb oC ?_;rw[cB])|wp_step)
 unfold raiseNew;refine aaC (wpAny_handled ?_);rw[hh];exact wpAny_throw hE
def Bi{prog:Program}{w:World}{A:Around}{E:Value->Shared->Prop}{K:W.Frag}{s:Shared}{env:Env}{C fI:Addr}{x:Str}{np l_ pos:Pos}{args:List Expr}{Q:Flow->Shared->Prop}(hC:dq K C=true)(hi:PySem.W.findIn K (.ref C) "__init__" = some (some (.ref fI)))(hf:PySem.W.typeIn K (.ref fI)=some (.type "function"))(hh:A.handled=none)(hpln:(backTo l_ (starEach args env)).any (·.1)=false)(h:wpAny (model prog w) A (eval (.Name x np) env) (λf sx=>f=.ref C/\wpAny (model prog w) A (evalArgs (.ref C) true (backTo l_ (starEach args env)) []) (λa sy=>a.kw=[]/\a.pos.length<=sizeLine/\K.In sy.heap /\
 ∀h' e t,(∀b o,sy.heap.get? b=some o->h'.get? b=some o)->sy.heap.get? e=none->h'.get? e=some (newExc C t) ->
  codeAny (model prog w) (A.under (.builtin "type.__call__" ⟨.ref C::a.pos,[]⟩)) (.call (.ref fI) ⟨.ref e::a.pos,[]⟩) (λr s'=>r=.ok (.ret .none)/\∃t od sl,K.In s'.heap/\s'.heap.get? e=some ⟨.ref C,od,.fields #[.ref t,.none,.none,.none,.bool false,.none],sl⟩/\E (.ref e) s') { sy with heap:=h' }) E sx) E s):
 wpAny (model prog w) A (exec (.Raise (some (.Call (.Name x np) args [] l_)) none pos) env) Q E s:=by
 rw[arm_exec_Raise];simp only[evalOpt,Option.map];refine aaC (acy (pq (K:=K) hC hh (aaC (abp (wpAny_Call_ofName (abp h (λf sx hx=>?_) λ_ _ x=>x)) (λv sz hz=>aaC (acy (aaE hz))) λ_ _ x=>x))));obtain⟨rfl,hx⟩:=hx;unfold callWith;refine aaC (abu (abp hx (λa sy hy=>aaC (acy ?_)) λ_ _ x=>x));obtain⟨apos,akw⟩:=a;obtain⟨hkw,hle,X,hy⟩:=hy;obtain rfl:akw=[]:=hkw;simp only[hpln];obtain⟨bm,N,nm,qn,bs,hdct,sn,sub,ab,col,dd,k0,k1,k2,k3,k5,oC,T,hm⟩:=cP X hC;obtain⟨hh0,g,d,tk,os⟩:=sy;refine aaC (wpAny_keeperOf_exc oC ?_);refine aaC (Cg (K:=K) X hC hi hf hle λh' e t k1 k2 k3=>acr (hy h' e t k1 k2 k3) λr s' z=>⟨z.1,?_⟩);obtain⟨_,t',od,sl,X',o',z⟩:=z;exact aaC (abu (wpAny_point (aaE ⟨e,t',od,sl,rfl,X',o',z⟩)))
def gU(f:Array Value->Array Value)(o:Obj):(Obj.mapFields f o).dict=o.dict:=by unfold Obj.mapFields;split<;>rfl
def Gk(h:Heap)(e dx:Addr):Prop:=∃oe vs T oT ts,h.get? e=some oe/\oe.data=.fields vs/\vs[1]?=some (.ref T)/\oe.dict=some dx/\T≠e/\h.get? T=some oT/\oT.data=.fields ts/\3<ts.size
variable{outer l:List Env}{base:Heap}{e L:Addr}{Q:Unit->Shared->Prop}{vs:Array Value}{cls a0:Value}{oe:Obj}
section
variable{M:Model}{A:Around}{E:Value->Shared->Prop}{s:Shared}{dx:Addr}
theorem mh{head:Value}{had:Bool}(fr:A.frames=some (env::outer))(ff:s.heap.FunFrames base (env::outer))(ef:env.frame=some L)(he:s.heap.get? e=some oe)(hd:oe.data=.fields vs)(h1:1<vs.size)(h2:oe.dict=some dx):
 wpAny M A (do setField (.ref e) 1 (<- EntryCells.newEntry head (<- PySem.frameOf env) .none (rawInt L) .none (<- entryPlaceOf L had))) (λ_ s'=>Gk s'.heap e dx) E s:=by
 have out:e∉(env::outer).filterMap (·.frame):=λm=>by obtain⟨_,o,eo,no⟩:=ff.mem m;rw[he]at eo;cases eo;exact no vs hd
 refine aaC (wpAny_frameOf_fun fr ff ef λhA sA=>aaC (wpAny_entryPlaceOf λcells hc=>?_));have heA:hA.get? e=some oe:=(sA.2.1 e out).trans he;have ne:hA.objs.size≠e:=adZ (aaJ heA);unfold EntryCells.newEntry newFields;refine aaC (abx (acF (aaH _ heA) hd h1 ?_) (hc.sizeOk5 _ _ _ _ _));have dn:=ab5 hd (·.setIfInBounds 1 (Value.ref hA.objs.size));refine⟨_,_,hA.objs.size,_,_,abC _ (aaH _ heA) (ac4 dn),dn,by simp[h1],by rw[gU];exact h2,ne,(abA _ _ (abF ne)).trans (aaT hA rfl),rfl,?_⟩;simp only[aaP,aaF,aaM,acL]<;>lia
def mO(B1:A.frames=some (env::outer))(hl:s.heap.FunFrames base (env::outer))(hf:env.frame=some L)(x:Gk s.heap e dx):
 wpAny M A (noteFrame (.ref e) env) (λ_ s'=>Gk s'.heap e dx) E s:=by
 obtain⟨oe,vs,T,oT,ts,he,hd,h1,h2,UR,hT,Nt,h3⟩:=x;have hx:Gk s.heap e dx:=⟨oe,vs,T,oT,ts,he,hd,h1,h2,UR,hT,Nt,h3⟩
 unfold noteFrame;simp only[hf];refine aaC (abU he hd h1 ?_);rw[aaY (show(Value.ref T != Value.none)=true from by simp)];refine aaC (abU hT Nt (acD h3) ?_);by_cases hm:(ts[3]== rawInt L)=true
 ·rw[aaY hm];exact aaE hx
 rw[aaR hm];refine aaC (acF hT Nt h3 ?_);refine mh B1 (hl.of_keeps λb o hb nf=>⟨o,(abA _ _ λz=>?_).trans hb,rfl⟩) hf ((abA _ _ UR).trans he) hd (Array.getElem?_eq_some_iff.mp h1).1 h2;rw[<-z,hT]at hb;cases hb;exact nf ts Nt
def kX(B1:A.frames=some (env::outer))(hl:s.heap.FunFrames base (env::outer))(hf:env.frame=some L)(he:s.heap.get? e=some oe)(hd:oe.data=.fields vs)(h1:vs[1]?=some Value.none)(h2:oe.dict=some dx):
 wpAny M A (noteFrame (.ref e) env) (λ_ s'=>Gk s'.heap e dx) E s:=by
 unfold noteFrame;simp only[hf];refine aaC (abU he hd h1 ?_);rw[aaR (by decide)];exact mh B1 hl hf he hd (Array.getElem?_eq_some_iff.mp h1).1 h2
def dU(x:Gk s.heap e dx):wpAny M A (setFlight (.ref e) none) (λ_ s'=>Gk s'.heap e dx) E s:=by obtain⟨oe,vs,T,oT,ts,he,hd,h1,h2,UR,hT,Nt,h3⟩:=x;unfold setFlight;refine aaC (abU he hd h1 ?_);rw[aaY (show(Value.ref T != Value.none)=true from by simp)];refine acF hT Nt h3 ?_;exact⟨oe,vs,T,_,_,(abA _ _ UR).trans he,hd,h1,h2,UR,abC _ hT (ac4 (ab5 Nt _)),ab5 Nt _,by simpa using h3⟩
def sF(B1:A.frames=some (env::outer))(hl:s.heap.FunFrames base (env::outer))(hf:env.frame=some L)(x:Gk s.heap e dx):
 wpAny M A (leaving env (.ref e)) (λ_ s'=>Gk s'.heap e dx) E s:=by
 unfold leaving;exact aaC (abp (mO (E:=E) B1 hl hf x) (λ_ s' y=>dU y) λ_ _ z=>z)
def jT(B1:A.frames=some (env::outer))(hl:s.heap.FunFrames base (env::outer))(hf:env.frame=some L)(he:s.heap.get? e=some oe)(hd:oe.data=.fields vs)(h1:vs[1]?=some Value.none)(h2:oe.dict=some dx):
 wpAny M A (leaving env (.ref e)) (λ_ s'=>Gk s'.heap e dx) E s:=by
 unfold leaving;exact aaC (abp (kX (E:=E) B1 hl hf he hd h1 h2) (λ_ s' y=>dU y) λ_ _ z=>z)
def AL(B1:A.frames=some (env::outer))(hf:env.frame=some L)(Q9:Heap.FlyingW base (env::outer) e cls a0 s.heap)(x:Gk s.heap e dx)(hQ:∀h',Heap.HeldW base (env::outer) e cls a0 L h'->s.heap.UpToSlots h'->Gk h' e dx->Q () { s with heap:=h' }):wpAny M A (noteFrame (.ref e) env) Q E s:=by refine abp (zn (E:=E) (E':=E) (nn _ _) (wpAny_looks_onW (Q:=λ_ s'=>∃h',s'={ s with heap:=h' }/\Heap.HeldW base (env::outer) e cls a0 L h'/\s.heap.UpToSlots h') B1 hf Q9 λh' a b=>⟨h',rfl,a,b⟩) (mO B1 Q9.2.2.1 hf x)) (λ_ s' y=>?_) λ_ _ z=>z.1;obtain⟨⟨h',rfl,a,b⟩,c⟩:=y;exact hQ h' a b c
def AN(hh:Heap.HeldW base l e cls a0 L s.heap)(x:Gk s.heap e dx)(hQ:∀h',Heap.FlyingW base l e cls a0 h'->s.heap.UpToSlots h'->Gk h' e dx->Q () { s with heap:=h' }):wpAny M A (setFlight (.ref e) none) Q E s:=by refine abp (zn (E:=E) (E':=E) (fo _ _) (wpAny_landsW (Q:=λ_ s'=>∃h',s'={ s with heap:=h' }/\Heap.FlyingW base l e cls a0 h'/\s.heap.UpToSlots h') hh λh' a b=>⟨h',rfl,a,b⟩) (dU x)) (λ_ s' y=>?_) λ_ _ z=>z.1;obtain⟨⟨h',rfl,a,b⟩,c⟩:=y;exact hQ h' a b c
def Bh(hh:Heap.FlyingW base l e cls a0 s.heap)(x:Gk s.heap e dx)(hQ:∀h',Heap.FlyingW base l e cls a0 h'->s.heap.UpToSlots h'->Gk h' e dx->Q () { s with heap:=h' }):wpAny M A (setFlight (.ref e) none) Q E s:=by refine abp (zn (E:=E) (E':=E) (fo _ _) (lands_againW (Q:=λ_ s'=>∃h',s'={ s with heap:=h' }/\Heap.FlyingW base l e cls a0 h'/\s.heap.UpToSlots h') hh λh' a b=>⟨h',rfl,a,b⟩) (dU x)) (λ_ s' y=>?_) λ_ _ z=>z.1;obtain⟨⟨h',rfl,a,b⟩,c⟩:=y;exact hQ h' a b c
end
abbrev fx(t:Addr):Array Value:=#[.ref t,.none,.none,.none,.bool false,.none]
abbrev Lf(C dx t:Addr)(sl:Array (Option Value)):Obj:=⟨.ref C,some dx,.fields (fx t),sl⟩
structure MA(K:W.Frag)(C fI:Addr):Prop where
 ex:dq K C=true
 ini:PySem.W.findIn K (.ref C) "__init__" = some (some (.ref fI))
 fn:PySem.W.typeIn K (.ref fI)=some (.type "function")
 sa:PySem.W.findIn K (.ref C) "__setattr__" = some (some (.builtin "object.__setattr__"))
 ov:(PySem.W.clsIn K C).any (λcd=>eG cd.mro)=true
 rg:PySem.W.findIn K (.ref C) "ring" = some none
 hd:PySem.W.hasDictIn K C=true
 ga:PySem.W.findIn K (.ref C) "__getattribute__" = some (some (.builtin "BaseException.__getattribute__"))
 gt:PySem.W.findIn K (.ref C) "__getattr__" = some none
 ca:PySem.W.findIn K (.ref C) "__class__" = some (some (.builtin "object.__class__"))
 sp:PySem.W.specialIn K (.builtin "object.__class__") "__get__" = some (some (.builtin "getset_descriptor.__get__"))
 tk:PySem.W.takesIn K (.builtin "object.__class__")=some true
 mo:PySem.W.mroIn K C (.type "object")=some true
 mb:PySem.W.mroIn K C (.type "BaseException")=some true
def EN(H:Hp)(a:Addr):Hp:=λb=>if b=a then none else H b
variable{a:Addr}{H:Hp}
def el{b:Addr}(h:b≠a):EN H a b=H b:=aaR h
def dS:EN H a a=none:=aaY rfl
theorem A8.EN{P:Program}{w:World}{H:Hp}{h:Heap}{a:Addr}{ob:Obj}(ok:A8 P w H h)(ha:H a=some (ce a ob)):A8 P w (EN H a) h:=λb u q=>by
 have hb:b≠a:=λz=>by rw[z,dS]at q;cases q
 rw[el hb]at q;refine(ok b u q).C0 (λ_ _ _ z=>z) (λc z=>?_) λc xs z=>?_
 ·rw[el (λy=>by rw[y,ha]at z;cases z)];exact z
 ·rw[el (λy=>by rw[y,ha]at z;cases z)];exact z
theorem Un.EN{fs:List Addr}{H H':Hp}{h h':Heap}{a:Addr}{ob:Obj}(u:Un fs [] H H' h h')(ha:H' a=some (ce a ob)):Un fs [] H (EN H' a) h h' where
 keep:=u.keep
 slot:=u.slot
 free:=λb o q n hx=>by
  by_cases hb:b=a
  ·rw[hb,dS]
  ·rw[el hb];exact u.free b o q n hx
 there:=u.there
 B_:=λb xs q=>by have:=u.B_ b xs q;rw[el (λy=>by rw[y,ha]at this;cases this)];exact this
 B5:=λb o v q=>by have:=u.B5 b o v q;rw[el (λy=>by rw[y,ha]at this;cases this)];exact this
 B':=λb ps q=>by obtain⟨m,this⟩:=u.B' b ps q;exact⟨m,by rw[el (λy=>by rw[y,ha]at this;cases this)];exact this⟩
variable{dx:Addr}
section
variable{X:Cx}{pins:List (Addr×Obj)}{σ:St}{H H':Hp}{s s':Shared}{M:Model}{E':Value->Shared->Prop}{a:Addr}
def Inv.news(I:Inv X pins σ H s)(hex:X.ex=[])(ha:s.heap.get? a=none):H a=none/\(∀u,X.s₀.heap.get? a≠some u)/\a≠X.env.locals/\(∀x c,X.env.cells.lookup x=some c->c≠a)/\∀p∈X.pn++pins,p.1≠a:=by
 refine⟨?_,λu z=>?_,λz=>?_,λy c e z=>?_,λp hp z=>?_⟩
 ·cases q:H a with
  |none=>rfl
  |some o=>
   obtain⟨ob,e⟩:=(I.i4 a o q).there;rw[ha]at e;cases e
 ·obtain⟨o',e1⟩:=I.base.there a u z (by rw[hex];simp);rw[ha]at e1;cases e1
 ·obtain⟨m,Ed,_⟩:=I.loc;obtain⟨oL,_,_,TC,_⟩:=Ed;rw[<-z,ha]at TC;cases TC
 ·obtain⟨v,oc,Tz,_⟩:=I.cell y c e;rw[z,ha]at Tz;cases Tz
 ·obtain⟨e1,_⟩:=I.pin p hp;rw[z,ha]at e1;cases e1
def Inv.ON(I:Inv X pins σ H s)(hs:X.stack=X.env::X.outer)(hf:X.env.frame=some X.env.locals)(hex:X.ex=[]){t:Addr}{sl:Array (Option Value)}(ha:H a=some (ce a (Lf C dx t sl)))(Dm:X.s₀.heap.get? a=none):
 wpAny M X.A (leaving X.env (.ref a)) (λ_ HV=>XO X.prog X.w X.outer X.H₀ X.s₀ (.ref C) a (EN H a) HV) E' s:=by
 have B1:X.A.frames=some (X.env::X.outer):=by rw[<-hs];exact I.ok.frames
 have Mr:s.heap.FunFrames X.base (X.env::X.outer):=by rw[<-hs];exact I.stack
 have DT:∀env∈(X.env::X.outer),∀b,env.frame=some b->b∈a::n9 (X.env::X.outer):=λenv he b hb=>aa9 _ (List.mem_filterMap.mpr ⟨env,he,hb⟩);have A2:∀b∈n9 (X.env::X.outer),H b=none:=by rw[<-hs];exact I.A7
 have naf:a∉n9 (X.env::X.outer):=λz=>by rw[A2 a z]at ha;cases ha
 have ub:Un X.fs [] X.H₀ (EN H a) X.s₀.heap s.heap:=by have:=I.base;rw[hex]at this;exact this.EN ha
 have Tv:A8 X.prog X.w (EN H a) s.heap:=I.i4.EN ha;have nL:∀o,X.s₀.heap.get? X.env.locals≠some o:=λo z=>absurd (aa1 (aaJ z) I.ok.above) (abG _);have he:=eM I.i4 ha;have big:∀b o,s.heap.get? b=some o->b∉n9 (X.env::X.outer)->b≠a->(PySem.W.hideAll s.heap (a::n9 (X.env::X.outer))).get? b=some o:=λb o e n m=>adH _ e (λz=>(List.mem_cons.mp z).elim m n);have hkb:(PySem.W.hideAll s.heap (a::n9 (X.env::X.outer))).StaysIn s.heap:=λb o q=>adP _ q;have P8:(PySem.W.hideAll s.heap (a::n9 (X.env::X.outer))).get? a=none:=by exact PySem.W.hideAll_none _ abd
 refine wpAny_leaving_firstW (base:=PySem.W.hideAll s.heap (a::n9 (X.env::X.outer))) (a0:=.ref t) B1 (aes Mr DT) hf he hkb P8 rfl rfl rfl λh' hL=>?_;obtain⟨k1,⟨_,_,k2⟩,k3,up⟩:=hL;have fl:Heap.FlyingW (PySem.W.hideAll s.heap (a::n9 (X.env::X.outer))) X.outer a (.ref C) (.ref t) h':=⟨k1,P8,k2,k3⟩
 have slots:∀b o,s.heap.get? b=some o->b∈n9 (X.env::X.outer)->∃sl,h'.get? b=some { o with slots:=sl }:=λb o e hb=>by obtain⟨_,o',e',nf⟩:=Mr.mem hb;rw[e]at e';cases e';exact up b o e nf
 have P1:∀b∈n9 (X.env::X.outer),b∈X.fs\/∀o,X.s₀.heap.get? b≠some o:=λb hb=>by
  rw[cc hf]at hb;rcases List.mem_cons.mp hb with rfl|hb
  ·exact .inr nL
  ·exact .inl hb
 have sub:∀b∈X.fs,b∈n9 (X.env::X.outer):=λb hb=>by rw[cc hf];exact aa9 _ hb
 have nea:∀b,(EN H a b≠none\/∃o',X.s₀.heap.get? b=some o')->b≠a:=λb hb z=>by
  rcases hb with hb|⟨o',hb⟩
  ·exact hb (by rw[z,dS])
  ·rw[z,Dm]at hb;cases hb
 refine⟨I.os,I.bare,ub.ES P1 fl.1 (λb o e n hb=>big b o e n (nea b hb)) slots sub,Tv.ES (λb hb=>by rw[el (λz:b=a=>naf (z▸hb))];exact A2 b hb) fl.1 (λb o e n hb=>big b o e n (nea b (.inl hb))),Dm,dS,_,_,fl,λb o hb hn e=>?_⟩;have UN:∃ob,s.heap.get? b=some ob:=by
  rcases hb with hb|⟨o',hb⟩
  ·cases q:EN H a b with
   |none=>exact absurd q hb
   |some u=>exact(Tv b u q).there
  ·exact ub.there b o' hb (by simp)
 have TN:b∉n9 (X.env::X.outer):=λz=>by
  rw[cc hf]at z;rcases List.mem_cons.mp z with rfl|z
  ·rcases hb with hb|⟨o',hb⟩
   ·refine hb ?_;by_cases y:X.env.locals=a
    ·rw[y,dS]
    ·rw[el y];exact I.free
   ·exact nL o' hb
  ·exact hn z
 obtain⟨ob,e1⟩:=UN;have e2:=big b ob e1 TN (nea b hb);have e3:=fl.1 b ob e2;rw[e]at e3;cases e3;exact e2
end
def BN(K:W.Frag)(ta tv:TE)(f:Str):TS:=λD σ H=>tv σ H λy H1=>ta σ H1 λx H2=>∃a C fI t sl,x=.ref a/\f = "ring"/\MA K C fI/\H2 a=some (ce a ⟨.ref C,none,.fields (fx t),sl⟩) /\
 ∀dx,H2 dx=none->D.nx σ (upd (upd H2 a (ce a (Lf C dx t sl))) dx (.xd [(f,y)]))
variable{pos:Pos}{ta:TE}
def xJ{X:Cx}{o value:Expr}{f:Str}{pos':Pos}{tv:TE}(hex:X.ex=[])(ha:QE X o ta)(hv:QE X value tv)(hs:autoParam (swapsWith value (some (.Attribute o f pos')) pos.line X.env=pure false) θ):QS X (.Assign [.Attribute o f pos'] value pos) (BN X.K ta tv f):=⟨by
 intro pins s σ H D I h;refine plainObj_wpAny_Assign_Attribute (j9 (hv.h pins s σ H _ I h) λu s1 ⟨y,H1,I1,ry,q⟩=>j9 (ha.h pins s1 σ H1 _ I1 q) λov s2 ⟨x,H2,I2,rx,a,C,fI,t,sl,ex,ef,c,ea,q2⟩=>?_) hs;subst ex ef;obtain rfl:ov=Value.ref a:=rx;have hx:=eM I2.i4 ea;have sz:s2.heap.get? s2.heap.objs.size=none:=acH (aaI _);obtain⟨n1,n2,n3,n4,n5⟩:=I2.news hex sz;have nad:s2.heap.objs.size≠a:=λz=>by rw[z,hx]at sz;cases sz
 refine CO I2.DZ hx c.sa c.ov c.rg c.hd λh' tk DB ns' kp=>?_;have I3:=I2.write (x:=a) (e:=a) (o:=ce a (Lf C s2.heap.objs.size t sl)) (t':=tk) (by rw[ea];exact True.intro) (.inl rfl) (λb u hb z=>kp b u hb z) ⟨_,DB⟩ (jH DB);refine⟨σ,_,I3.IX (a:=s2.heap.objs.size) (o:=.xd [("ring",y)]) (by rw[al nad];exact n1) n2 ⟨_,ns',λg=>?_⟩ n3 n4 n5,q2 _ n1⟩;by_cases q:g = "ring"
 ·subst q;rw[aaY rfl];exact ry
 ·rw[aaR q,show List.lookup g [(("ring" : Str),y)]=none by
   have e:(g == ("ring" : Str))=false:=beq_eq_false_iff_ne.mpr q;show(match g == ("ring" : Str)with|true=>some y|false=>none)=none;rw[e]]
  exact True.intro⟩
def ww(K:W.Frag)(C fI:Addr):Sp:=λvs H Q _=>∃(e l t:Addr)(xs:List V)(sl:Array (Option Value)),vs=[.ref e,.ref l]/\MA K C fI/\H e=some (ce e ⟨.ref C,none,.fields (fx t),sl⟩)/\H l=some (.lst xs) /\
 ∀L dx:Addr,H L=none->H dx=none->L≠dx->Q .q8 (upd (upd (upd H L (.lst xs)) e (ce e (Lf C dx t sl))) dx (.xd [("ring",.ref L)]))
def xy(EX:Addr->Hp->Prop)(t:TA):TS:=λ_ σ H=>t σ H λvs H1=>∃(l:Addr)(xs:List V),vs=[.ref l]/\H1 l=some (.lst xs)/\∀L dx,H1 L=none->H1 dx=none->L≠dx->EX dx (upd (upd H1 L (.lst xs)) dx (.xd [("ring",.ref L)]))
section
variable{X:Cx}
def rF{k:Nat}{x:Str}{fI:Addr}{fd:FuncData}{e:Expr}{es:List Expr}{t:TA}{np l_:Pos}{EX:Addr->Hp->Prop}(F:i6 X.prog X.w X.K X.mg X.base A6 k fI fd ["self", "ring"] (ww X.K C fI))(hr:r6 (k+1) X.A)(c:MA X.K C fI)(hb:Binds X.K fd ["self", "ring"] [])(hc:X.calm=true)(hex:X.ex=[])(hg:Gl X x)(hm:X.mg x=some (.ref C))(ha:QA X (e::es) t)(hx:∀pins σ H s a dx t sl,Inv X pins σ H s->H a=some (ce a (Lf C dx t sl))->X.s₀.heap.get? a=none->EX dx (EN H a)->X.xe (.ref a) s)(hd:autoParam ((x == ("__debug__" : Str))=false) ξ)(Ec:autoParam (starEach (e::es) X.env=(false,eval e X.env)::starEach es X.env) θ)(E7:autoParam ((backTo l_ (starEach es X.env)).any (·.1)=false) θ):
 QS X (.Raise (some (.Call (.Name x np) (e::es) [] l_)) none pos) (xy EX t):=⟨by
 intro pins s σ H D I h;refine Bi (K:=X.K) (C:=C) (fI:=fI) c.ex c.ini c.fn (I.ok.hd hc) (by rw[Ec];show(false||(backTo l_ (starEach es X.env)).any (·.1))=false;rw[E7];rfl) (fj I hg hm ⟨rfl,?_⟩ hd);have hA:=ha.h l_ pins s σ H _ I h;rw[Ec]at hA⊢;refine adY (j9 hA λus s1 ⟨vs,H1,I1,r,l,xs,ev,hl,q⟩=>⟨rfl,?_,I1.DZ,λh' ea t kp nw at_=>?_⟩)
 ·rw[<-r.length,ev];exact cF (by show 1<=100000;decide)
 subst ev;obtain⟨u,rfl,ru⟩:=gT r;cases ru;obtain⟨n1,n2,n3,n4,n5⟩:=I1.news hex nw;have I2:Inv X pins σ (upd H1 ea (ce ea (newExc C t))) { s1 with heap:=h' }:=(I1.kept (t':=s1.toks) kp).IX n1 n2 (jH at_) n3 n4 n5;have nel:l≠ea:=λz=>by rw[z,n1]at hl;cases hl
 have IL:=hb { s1 with heap:=h' } [.ref ea,.ref l] I2.DZ rfl;rw[aby]at IL;refine acr (F.run _ X.stack { s1 with heap:=h' } _ ⟨[.ref ea,.ref l],[]⟩ [.ref ea,.ref l] [.ref ea,.ref l] (λv H3=>v=.q8/\∃L dx,H1 L=none/\H1 dx=none/\L≠dx/\L≠ea/\dx≠ea/\H3=upd (upd (upd (upd H1 ea (ce ea (newExc C t))) L (.lst xs)) ea (ce ea (Lf C dx t #[]))) dx (.xd [("ring",.ref L)])) (λ_ _ _=>False) (hr.make C [.ref l] []) (I2.Qn.make C [.ref l] []) IL (.cons rfl (.cons rfl .nil))
  ⟨ea,l,t,xs,#[],rfl,c,aa,by rw[al nel];exact hl,λL dx f1 f2 LX=>?_⟩) λres s' hq=>?_
 ·have g1:L≠ea:=λz=>by rw[z,aa]at f1;cases f1
  have g2:dx≠ea:=λz=>by rw[z,aa]at f2;cases f2
  rw[al g1]at f1;rw[al g2]at f2;exact⟨rfl,L,dx,f1,f2,LX,g1,g2,rfl⟩
 ·cases res with
  |error ev=>exact False.elim hq
  |ok flw=>
   cases flw with
   |next=>exact False.elim hq
   |brk=>exact False.elim hq
   |cont=>exact False.elim hq
   |ret u=>
    obtain⟨v,H3,I3,r3,rfl,L,dx,f1,f2,LX,g1,g2,rfl⟩:=I2.after hq;have h3:(upd (upd (upd (upd H1 ea (ce ea (newExc C t))) L (.lst xs)) ea (ce ea (Lf C dx t #[]))) dx (.xd [("ring",.ref L)])) ea=some (ce ea (Lf C dx t #[])):=by rw[al (abF g2),aa]
    refine⟨by cases r3;rfl,t,some dx,#[],I3.DZ,eM I3.i4 h3,hx pins σ _ s' ea dx t #[] I3 h3 (by
     cases z:X.s₀.heap.get? ea with
     |none=>rfl
     |some o=>exact absurd z (n2 o)) ?_⟩
    have e4:EN (upd (upd (upd (upd H1 ea (ce ea (newExc C t))) L (.lst xs)) ea (ce ea (Lf C dx t #[]))) dx (.xd [("ring",.ref L)])) ea=upd (upd H1 L (.lst xs)) dx (.xd [("ring",.ref L)]):=by
     funext b;by_cases b1:b=ea
     ·rw[b1,dS,al (abF g2),al (abF g1),n1]
     ·rw[el b1];by_cases b2:b=dx
      ·rw[b2,aa,aa]
      ·rw[al b2,al b1,al b2];by_cases b3:b=L
       ·rw[b3,aa,aa]
       ·rw[al b3,al b1,al b3]
    rw[e4];exact q L dx f1 f2 LX⟩
end
def Lr(P:Program)(w:World):Gq:=λouter H s E e s'=>∃a C H' dx,e=.ref a/\XO P w outer H s (.ref C) a H' s'/\Gk s'.heap a dx/\E (.ref C) (some dx) H'
section
variable{P:Program}{w:World}{K:W.Frag}{mg:Str->Option Value}{base:Heap}{N:List Str}{qual:Str}{scope:Scope}{f:Addr}{cd:Value}{A:Around}{outer:List Env}{s₀:Shared}{H₀:Hp}{E:XK}
def qf:∀pins σ H s a dx t sl,Inv (cg (Lr P w) P w K mg base N qual scope f cd A outer s₀ H₀ E) pins σ H s->H a=some (ce a (Lf C dx t sl))->s₀.heap.get? a=none->E (.ref C) (some dx) (EN H a) ->
 (cg (Lr P w) P w K mg base N qual scope f cd A outer s₀ H₀ E).xe (.ref a) s:=λpins σ H s a dx t sl I ha hn q=>by
 have Mr:s.heap.FunFrames base (envOfC qual scope s₀.heap.objs.size f cd::outer):=I.stack;exact abp (zn (gG _ _) (Inv.ON (M:=model P w) (E':=λ_ _=>False) I rfl rfl rfl ha hn) (jT (E:=λ_ _=>False) (base:=base) (dx:=dx) I.ok.frames Mr rfl (eM I.i4 ha) rfl rfl rfl)) (λ_ HV x=>⟨a,C,_,dx,rfl,x.1,x.2,q⟩) λ_ _ z=>z.1.elim
def mH:gQ (Lr P w) (cg (Lr P w) P w K mg base N qual scope f cd A outer s₀ H₀ E) E:=λpins σ H s e s' I h=>by obtain⟨a,C,H',dx,rfl,x,tr,q⟩:=h;obtain⟨B,a0,ES,big⟩:=x.ES;exact abp (zn (gG _ _) (Inv.pass (M:=model P w) (E':=λ_ _=>False) I rfl rfl rfl x) (sF (E:=λ_ _=>False) I.ok.frames ES.2.2.1 rfl tr)) (λ_ HV y=>⟨a,C,H',dx,rfl,y.1,y.2,q⟩) λ_ _ z=>z.1.elim
def v9._x{x qual:Str}{st:Stmt}{f:Addr}{fd:FuncData}{N ps:List Str}{k:Nat}{sp:Sp}(F:v9 K x qual st f fd)(S:aF N ps (ah st))(len:∀vs H Q E,sp vs H Q E->vs.length=ps.length)(DU:∀(m_:Value) (A:Around) (outer:List Env) (s:Shared) (H:Hp) (vs:List V) (Q:VK) (E:XK),r6 k (A.deeper (envOfC qual (ah st) s.heap.objs.size f m_))->sp vs H Q E ->
 ∃t,IS (cg (Lr P w) P w K mg base N qual (ah st) f m_ A outer s H E) (az st) t/\t { nx:=λ_ H'=>Q .q8 H',rt:=Q } (start N vs) H):i6 P w K mg base (Lr P w) (k+1) f fd ps sp:=by
 obtain⟨oc,od,kV,doc,pm,an,m_,ct,Js,rfl,lk,ER⟩:=F.ex;refine yF lk ER S len λA outer s H vs Q E hr A5=>?_;obtain⟨t,h,q⟩:=DU m_ A outer s H vs Q E hr A5;exact⟨t,h.h,q⟩
end
def lM{M:Model}{g:Array GenState}{d:Drawn}{t:Nat}{os:OsState}{D:Addr}{b:Bool}{Q:Bool->Shared->Prop}(X:K.In h)(hC:dq K C=true)(hD:xp K D\/dq K D=true)(he:h.get? e=some oe)(P':oe.cls=.ref C)(hm:PySem.W.mroIn K C (.ref D)=some b)(hq:Q b ⟨h,g,d,t,os⟩):
 wpAny M A (excMatches (.ref e) (.ref D)) Q E ⟨h,g,d,t,os⟩:=by
 obtain⟨bm,N,nm,qn,bs,hdct,sn,sub,ab,col,dd,k0,k1,k2,k3,k5,oC,_,mroC⟩:=cP X hC;have cC:(Value.ref C::bm).contains (.ref D)=b:=mroC _ _ hm;have nt:=tc_notTuple;have go:∀{Rl:List Value}{N':Addr}{MS Zg:Str}{bs':List Value}{JP:Bool}{YB:List Str}{OJ:List Value}{ab':Bool}{Qq:Option Bool}{JV:Option Addr}{l0 l1 l2 l3 l5:Option Value},h.get? D=some (excClassObj MS Zg D N' bs' Rl JP YB OJ ab' Qq JV l0 l1 l2 l3 l5 "ValueError.__new__")->OwnTail h OG Rl->wpAny M A (excMatches (.ref e) (.ref D)) Q E ⟨h,g,d,t,os⟩:=λ{Rl _ _ _ _ _ _ _ _ _ _ _ _ _ _ _} oD TD=>by
  have cB:(Value.ref D::Rl).contains (.type "BaseException")=true:=by rw[adS,TD.hasType (X:="BaseException") (b:=true) (by decide),aez]
  unfold excMatches;repeat (first|(with_reducible refine abT he ?_;rw[P'])|with_reducible refine abT oD ?_|(with_reducible refine adb oD ?_;rw[cB])|(with_reducible refine adb oC ?_;rw[cC])|wp_step)
  all_goals (cases b<;>first|exact hq|(wp_walk;exact hq))
 rcases hD with hD|hD
 ·obtain⟨Rl,N',MS,Zg,bs',JP,YB,OJ,ab',Qq,JV,l0,l1,l2,l3,l5,mN',oD,_,_,TD,_⟩:=tu X hD;exact go oD TD
 ·obtain⟨Rl,N',MS,Zg,bs',JP,YB,OJ,ab',Qq,JV,l0,l1,l2,l3,l5,oD,TD,_⟩:=cP X hD;exact go oD TD
def Br(a C dx:Addr)(h:Heap):Prop:=∃o vs,h.get? a=some o/\o.cls=.ref C/\o.dict=some dx/\o.data=.fields vs
noncomputable def vQ(a C dx:Addr):HO:=.ext (Br a C dx)
def yG{P:Program}(x:Br a C dx h):i9 P w H h a (vQ a C dx):=by refine⟨x,let⟨o,_,e,_⟩:=x;⟨o,e⟩,λh1 h2 ⟨o,vs,e1,e2,e3,e4⟩ st=>⟨o,vs,st o e1,e2,e3,e4⟩⟩
section
variable{X:Cx}{k:Nat}{f Dc:Addr}{fd:FuncData}{ps:List Str}{sp:Sp}{x dn n:Str}{i:Nat}{p l_ Fz np Dl pos:Pos}{e:Expr}{es:List Expr}{t:TA}{ts:TS}{b0:Stmt}{DN:List Stmt}
def zC(K:W.Frag)(ta:TE)(f:Str):TE:=λσ H Q=>ta σ H λx H1=>∃a C fI dx fs v,x=.ref a/\f = "ring"/\MA K C fI/\H1 a=some (vQ a C dx)/\H1 dx=some (.xd fs)/\fs.lookup f=some v/\Q v H1
def xN{X:Cx}{e:Expr}{f:Str}{pos:Pos}(he:QE X e ta)(hb:attributeBase e f X.env (eval e X.env)=eval e X.env):QE X (.Attribute e f pos) (zC X.K ta f):=⟨by
 intro pins s σ H Q I h;refine za hb (j9 (he.h pins s σ H _ I h) ?_);rintro u s1 ⟨x,H1,I1,rx,a,C,fI,dx,fs,v,ex,ef,c,ea,ed,l,q⟩;subst ex ef;obtain rfl:u=Value.ref a:=rx;obtain⟨o,vs,ho,Q6,hod,Mm⟩:Br a C dx s1.heap:=(I1.i4 a _ ea).1;obtain⟨mA,Ed,r⟩:i9 X.prog X.w H1 s1.heap dx (.xd fs):=I1.i4 dx _ ed;obtain⟨u,hu,ru⟩:=DA.some_of (v:=v) (o:=mA "ring") (by rw[<-l];exact r "ring");obtain⟨od,IK,hl⟩:=jS Ed;have J:PySem.W.InstAt s1.heap a o C (some od):=⟨ho,Q6,by unfold PySem.W.notCls;rw[Mm],by rw[hod];exact IK⟩
 exact CY I1.DZ J c.ga c.gt c.mb (PySem.W.findObj_own c.hd c.rg rfl (by rw[hl,hu])) (sW ru) λtk=>⟨v,H1,I1.tok tk,ru,q⟩⟩
end
end L2
namespace L2
open PySem PySem.Spec PySem.Calls PyProof.Rows PySem.W Builtin Builtin.ObjectAttr Builtin.Getset_descriptor
section
variable{prog:Program}{w:World}{A:Around}{E:Value->Shared->Prop}{K:Frag}{a C fI:Addr}{s:Shared}
def uD{tk:Tok}{Q:Fin->Shared->Prop}(X:K.In s.heap)(I:lY a C s.heap)(c:MA K C fI)(hq:Q (.done (.ret (.ref C))) s):wpAny (model prog w) A (Builtin.«object.__getattribute__» ⟨[.ref a,.str "__class__" tk],[]⟩) Q E s:=by
 obtain⟨hp,g,dr,t,os⟩:=s;have T0:=eS (M:=model prog w) I;have T1:=looks_findIn (M:=model prog w) X c.ca;have y5:=F.typeOf_object_class;have y6:=F.slot_gs_get.lookup;have y7:=F.slot_gs_set.lookup;have yT:(⟨hp,g,dr,t,os⟩:Shared).TypeIs (.builtin "object.__class__") "getset_descriptor":=F.typeOf_object_class;repeat (any_goals (first|assumption|with_reducible refine T0.at ?_|with_reducible refine T1.at ?_|wp_step))
 refine jc X I c.mo ?_;repeat (any_goals (first|assumption|wp_step))
def BQ{Q:Option Value->Shared->Prop}(X:K.In s.heap)(I:lY a C s.heap)(c:MA K C fI)(hq:Q (some (.ref C)) { s with toks:=s.toks+1 }):wpAny (model prog w) A (getAttr? (.ref a) "__class__") Q E s:=by
 obtain⟨hp,g,dr,t,os⟩:=s;have T0:=eS (M:=model prog w) I;have T1:=looks_findIn (M:=model prog w) X c.ga;have T2:=looks_findIn (M:=model prog w) X c.gt;have y3:=PySem.F.excAttr_ValueError.ga.bind (.ref a);have y2:(Value.builtin "BaseException.__getattribute__" == Value.builtin "object.__getattribute__")=false:=by decide +kernel
 have y1:(onTheHeap (Value.ref C)&&Value.builtin "BaseException.__getattribute__" == Value.builtin "object.__getattribute__")=false:=by rw[y2];rfl
 unfold getAttr? getAttrBy?;repeat (any_goals (first|assumption|with_reducible refine T0.at ?_|with_reducible refine T1.at ?_|with_reducible refine T2.at ?_|wp_step))
 refine ace PySem.F.excAttr_ValueError.ga.plain F.entry_bexc_ga (kf X I c.mb (uD X I c ?_));exact handed_on rfl (aaE hq)
def lD(c:MA K C fI):KitX K (.ref a) (.ref C) (lY a C) where
 ty:=λ_ _ _ I=>eS I
 it:=λ_ h X _=>by obtain⟨bm,N,nm,qn,bs,hdct,sn,sub,ab,col,dd,k0,k1,k2,k3,k5,oC,_⟩:=cP X c.ex;intro A' Q' E' s' k q;unfold isType loadHead;exact aaC (wpAny_loadPart (k _ _ oC) (aaE q))
 ne:=λh tp dd g8 n sl X htp=>by obtain⟨bm,N,nm,qn,bs,hdct,sn,sub,ab,col,JV,k0,k1,k2,k3,k5,oC,_⟩:=cP X c.ex;refine Bool.eq_false_iff.mpr λq=>?_;have e:C=tp:=Value.ref.inj (beq_iff_eq.mp q);subst e;have z:=abk (λo:Option Obj=>o.map (·.cls)) (oC.symm.trans htp);simp[excClassObj]at z
 ca:=λX I k=>BQ X I c k
end
section
variable{X:Cx}
inductive Cn(K:W.Frag)(xs:List V)(H:Hp)(Q:VK):Prop
 |mk (a C fI dx:Addr) (v:V) (b:Bool):(xs=[.ref a,v])->H a=some (vQ a C dx)->MA K C fI->(∃D,v=.ref D/\kitOne K (.ref C) (.ref D)=some b)\/(∃T,v=.ty T/\kitOne K (.ref C) (.type T)=some b)\/(∃(p:Addr)(ds:List Addr),v=.ref p/\H p=some (.tup (ds.map V.ref))/\kitAny K (.ref C) (ds.map Value.ref)=some b)->Q (.bl b) H->Cn K xs H Q
def wa:eg X (.builtin "isinstance") (Cn X.K):=by
 intro pins s σ H xs us Q I r h;obtain⟨a,C,fI,dx,v,b,rfl,ha,c,alt,q⟩:=h;obtain⟨u,u',rfl,ru,rv⟩:=xv r;cases ru;have at_:lY a C s.heap:=let⟨o,_,e1,e2,_⟩:=(I.i4 a _ ha).1;⟨o,e1,e2⟩
 have fin:∀tk,EP X pins σ Q (.bool b) { s with toks:=tk }:=λtk=>⟨.bl b,H,I.tok tk,rfl,q⟩
 rcases alt with⟨D,rfl,e⟩|⟨T,rfl,e⟩|⟨p,ds,rfl,hp,e⟩
 ·cases rv;exact kia_one (lD c) I.DZ at_ e (λz=>nomatch z) fin
 ·cases rv;exact kia_one (lD c) I.DZ at_ e (λz=>nomatch z) fin
 ·cases rv;obtain⟨g8,r1,⟨⟨cls,dd,data,sl⟩,ho,hc,n,hd⟩,_⟩:=I.tuple (.of hp);simp only at hc hd;subst hc hd;rw[jo r1]at ho;exact kia_tup (lD c) I.DZ at_ ho e (λz=>nomatch z) fin
end
end L2
namespace L2
open PySem PySem.Spec PyProof.Rows
section
variable{X:Cx}{k:Nat}{f Dc:Addr}{fd:FuncData}{ps:List Str}{sp:Sp}{x dn n:Str}{i:Nat}{p l_ Fz np Dl pos:Pos}{e:Expr}{es:List Expr}{t:TA}{ts:TS}{b0:Stmt}{DN:List Stmt}
end
def zB(K:W.Frag)(Dc:Addr)(i j:Nat)(sp:Sp)(t:TA)(ts:TS):TS:=λD σ H=>t σ H λvs H1=>sp vs H1 (λv H2=>D.nx (σ.set j (some v)) H2) λcls od H2=>∃C dx,cls=.ref C/\od=some dx/\dq K C=true/\PySem.W.mroIn K C (.ref Dc)=some true /\
 ∀a,H2 a=none->ts { nx:=λk_ H'=>D.nx (k_.set i none) H',rt:=λ_ _=>False,bk:=λ_ _=>False,ct:=λ_ _=>False } (σ.set i (some (.ref a))) (upd H2 a (vQ a C dx))
section
variable{X:Cx}{k:Nat}{f Dc:Addr}{fd:FuncData}{ps:List Str}{sp:Sp}{x dn n y:Str}{i j:Nat}{p l_ Fz np Dl pos yp:Pos}{e:Expr}{es:List Expr}{t:TA}{ts:TS}{b0:Stmt}{DN:List Stmt}
theorem uJ(F:i6 X.prog X.w X.K X.mg X.base (Lr X.prog X.w) k f fd ps sp)(hr:r6 k X.A)(hg:Gl X x)(hm:X.mg x=some (.ref f))(hk:PySem.W.keepIn X.K (.ref f)=true)(hb:Binds X.K fd ps [])(ha:QA X.Pa (e::es) t)(hgD:Gl X dn)(hmD:X.mg dn=some (.ref Dc))(hD:xp X.K Dc\/dq X.K Dc=true)(hN:X.N.Nodup)(hi:X.N[i]?=some n)(hn:X.env.scope.names.lookup n=some .local)(Px:X.stack=X.env::X.outer)(B1:X.env.frame=some X.env.locals)(hex:X.ex=[])(hj:X.N[j]?=some y)(hy:X.env.scope.names.lookup y=some .local)(hs:∀a,IS (X.hand a) (b0::DN) ts)(Io:autoParam ((x == ("__debug__" : Str))=false) ξ)(UI:autoParam ((dn == ("__debug__" : Str))=false) ξ)(he:autoParam (starEach (e::es) X.env=(false,eval e X.env)::starEach es X.env) θ)(E7:autoParam ((backTo l_ (starEach es X.env)).any (·.1)=false) θ)(Tj:autoParam (swapsWith (.Call (.Name x p) (e::es) [] l_) (some (.Name y yp)) Fz.line X.env=pure false) θ):
 QS X (.Try [.Assign [.Name y yp] (.Call (.Name x p) (e::es) [] l_) Fz] [.ExceptHandler (some (.Name dn np)) (some n) (b0::DN) Dl] [] [] pos) (zB X.K Dc i j sp t ts):=⟨by
 intro pins s σ H D I h;refine wpAny_Try_except (aei (wpAny_Assign_Name (acW (fj I hg hm ?_ Io)) Tj));refine PySem.W.callWith_K (h₀:=X.base) I.ok.mod.FG hk (abp (ha.h l_ pins s σ H _ (I.Eo _) h) (λus s1 ⟨vs,H1,I1n,r,q⟩=>⟨I1n.DZ,?_⟩) λ_ _ z=>z.elim) he E7;have I1:Inv X pins σ H1 s1:=I1n.B9;have hl:(us++[]).length=ps.length:=by rw[aby,<-r.length];exact F.len _ _ _ _ q
 have IL:=hb s1 us I1.DZ hl;rw[aby]at IL;refine ad9 (acr (F.run X.A X.stack s1 H1 ⟨us,[]⟩ us vs _ _ hr I1.Qn IL r q) λres s' hq=>?_);cases res with
 |ok fl=>
  cases fl with
  |ret u=>
   obtain⟨v,H2,I2,r2,q2⟩:=I1.after hq;exact dO I2 hN hj (.inl hy) r2 (λs2 I3=>acT (acT ⟨_,H2,I3,q2⟩)) (.inr hy)
  |next=>exact False.elim hq
  |brk=>exact False.elim hq
  |cont=>exact False.elim hq
 |error ev=>
  obtain⟨a,C',H2,dx',rfl,x,tr,C,dx,ec,ed,hC,TU,q2⟩:=hq;cases ec;cases ed;obtain⟨B,a0,ES,big⟩:=x.ES;have hfrm:X.A.frames=some (X.env::X.outer):=by rw[<-Px];exact I.ok.frames
  rw[Px]at ES;have keep:∀h6:Heap,B.StaysIn h6->s'.heap.UpToSlots h6->∀tk:Nat,Inv X pins σ H2 { s' with heap:=h6,toks:=tk }:=λh6 st up tk=>by
   have slots:∀b o,s'.heap.get? b=some o->b∈n9 X.stack->∃sl,h6.get? b=some { o with slots:=sl }:=λb o e hb=>by rw[Px]at hb;obtain⟨_,o',e',nf⟩:=ES.2.2.1.mem hb;rw[e]at e';cases e';exact up b o e nf
   have Fw:∀b∈n9 X.stack,H2 b=none:=λb hb=>by obtain⟨_,o,e,_⟩:=I1.stack.mem hb;exact x.un.free b o e (I1.A7 b hb) (by simp)
   refine I1.HE (ch:=[]) x.os (x.un.ES (λb hb=>.inl hb) st (λb o e n hb=>big b o hb n e) slots λb hb=>hb) (x.i4.ES Fw st (λb o e n hb=>big b o (.inl hb) n e)) x.bare (λb z=>absurd z (by simp))
  refine AL hfrm B1 ES tr λh4 Uv Gv tr4=>AN Uv tr4 λh5 fl5 sm5 tr5=>?_;have I5:=keep h5 fl5.1 (Gv.trans sm5) s'.toks;obtain⟨oe,hoe,Q6⟩:=fl5.there;refine wpAny_handleBy_cons (codeAny_handlers_test (fj (I5.hand a) hgD hmD (lM (K:=X.K) I5.DZ hC hD hoe Q6 TU ?_) UI)) (by intro z;cases z);refine codeAny_handlers_suite_as (Bh fl5 tr5 λh6 fl6 Ly tr6=>?_);have I6:=keep h6 fl6.1 ((Gv.trans sm5).trans Ly) s'.toks;obtain⟨oe6,Tw,hoc6⟩:=fl6.there;obtain⟨n1,n2,n3,n4,n5⟩:=I1.news hex x.new;have at6:Br a C' dx' h6:=by obtain⟨od,vs,_,_,_,e1,e2,_,e3,_⟩:=tr6;rw[Tw]at e1;cases e1;exact⟨oe6,vs,Tw,hoc6,e3,e2⟩
  have I7:Inv X pins σ (upd H2 a (vQ a C' dx')) { s' with heap:=h6 }:=I6.IX x.free n2 (yG at6) n3 n4 n5;refine dO (X:=X.hand a) (v:=.ref a) (I7.hand a) hN hi (.inl hn) rfl (λs7 I8=>?_) (.inr hn);refine abp ((hs a).h pins s7 _ _ _ I8 (q2 a x.free)) (λfw s8 Xt=>?_) λ_ _ z=>z.elim;cases fw with
  |next=>
   obtain⟨k_,H9,I9,q9⟩:=Xt;have I9':=I9.OH I.ok;obtain⟨m,Ed,hloc⟩:=I9'.loc;refine wpAny_nameGoes_keeps hn Ed (by rw[I.ok.kind];rfl) λXC v hn10 hs10=>?_;exact⟨k_.set i none,H9,I9'.gone hN hi Ed hloc hn10 hs10,q9⟩
  |ret u=>
   obtain⟨_,_,_,_,_,z⟩:=Xt;exact z.elim
  |brk=>
   obtain⟨_,_,_,z⟩:=Xt;exact z.elim
  |cont=>
   obtain⟨_,_,_,z⟩:=Xt;exact z.elim⟩
end
section
end
section
variable{X:Cx}
end
end L2
namespace WK
variable{α:Type}[DecidableEq α]
def Nr(E:α->List α)(p q:α):Prop:=∀S:α->Prop,(∀q,S q->∀e∈E q,S e)->(∀e∈E p,S e)->S q
def Nr.U8{E:α->List α}{p e:α}(h:e∈E p):Nr E p e:=λ_ _ b=>b e h
def Nr.on{E:α->List α}{p q e:α}(h:Nr E p q)(he:e∈E q):Nr E p e:=λS a b=>a q (h S a b) e he
structure DS(E:α->List α)(U tr:List α)(c:α->Option Nat)(z:List α):Prop where
 Pd:z.Nodup
 Gx:tr.Nodup
 Rj:∀p∈tr,p∉z
 lk:∀p,(c p).isSome=true↔p∈tr\/p∈z
 ut:∀p∈tr,p∈U
 uz:∀p∈z,p∈U
 cl:∀p k,c p=some k->k<=(E p).length
 ord:∀(i:Nat) p,z[i]?=some p->∀e∈E p,e∈z.take i
 top:∀t p k,tr=t++[p]->c p=some k->∀(j:Nat) e,j<k->(E p)[j]?=some e->e∈z
 mid:∀(i:Nat) p q,tr[i]?=some p->tr[i+1]?=some q->∃k,c p=some (k+1)/\(E p)[k]?=some q/\∀(j:Nat) e,j<k->(E p)[j]?=some e->e∈z
noncomputable def put(c:α->Option Nat)(p:α)(k:Nat):α->Option Nat:=λq=>if q=p then some k else c q
def aT{c:α->Option Nat}{p:α}{k:Nat}:put c p k p=some k:=aaY rfl
def bF{c:α->Option Nat}{p q:α}{k:Nat}(h:q≠p):put c p k q=c q:=aaR h
variable{E:α->List α}{U tr:List α}{c:α->Option Nat}{z:List α}
theorem DS.nil:DS E U [] (λ_=>none) []:=⟨.nil,.nil,(λ_ h=>nomatch h),λp=>by simp,(λ_ h=>nomatch h),(λ_ h=>nomatch h),(λ_ _ h=>nomatch h),λi p h=>by simp at h,λt p k h=>by simp at h,λi p q h=>by simp at h⟩
def DS.start{p:α}(d:DS E U [] c z)(hp:p∈U)(hn:p∉z):DS E U [p] (put c p 0) z where
 Pd:=d.Pd
 Gx:=by simp
 Rj:=λq hq=>by rw[List.mem_singleton.mp hq];exact hn
 lk:=λq=>by
  by_cases h:q=p
  ·subst h;rw[aT];simp
  ·rw[bF h,d.lk q];simp[h]
 ut:=λq hq=>by rw[List.mem_singleton.mp hq];exact hp
 uz:=d.uz
 cl:=λq k h=>by
  by_cases e:q=p
  ·subst e;rw[aT]at h;cases h;exact aa3 _
  ·rw[bF e]at h;exact d.cl q k h
 ord:=d.ord
 top:=λt q k e h j x hj=>by
  have:t=[]/\q=p:=by
   cases t with
   |nil=>simp at e;exact⟨rfl,e.symm⟩
   |cons a t=>simp at e
  rw[this.2,aT]at h;cases h;exact absurd hj (acn _)
 mid:=λi a b h1 h2=>by
  cases i with
  |zero=>simp at h2
  |succ i=>simp at h1
theorem DS.done{t:List α}{p:α}{k:Nat}(d:DS E U (t++[p]) c z)(hc:c p=some k)(hk:(E p).length<=k):DS E U t c (z++[p]):=by
 have Xn:p∉z:=d.Rj p (by simp);have G':∀e∈E p,e∈z:=λe he=>by obtain⟨j,hj⟩:=abm he;exact d.top t p k rfl hc j e (aa1 (List.getElem?_eq_some_iff.mp hj).1 hk) hj
 have Gx:=List.nodup_append.mp d.Gx;refine⟨?_,Gx.1,λq hq h=>?_,λq=>?_,λq hq=>d.ut q (abe _ hq),λq hq=>?_,d.cl,λi q hq e he=>?_,λt' q k' e h j x hj hx=>?_,λi a b h1 h2=>?_⟩
 ·exact List.nodup_append.mpr ⟨d.Pd,by simp,λa ha b hb=>by rw[List.mem_singleton.mp hb];exactλe=>Xn (e▸ha)⟩
 ·rcases List.mem_append.mp h with h|h
  ·exact d.Rj q (abe _ hq) h
  ·exact Gx.2.2 q hq p (by simp) (List.mem_singleton.mp h)
 ·rw[d.lk q];simp only[adw,acN];constructor
  ·rintro((h|h)|h)
   ·exact .inl h
   ·exact .inr (.inr h)
   ·exact .inr (.inl h)
  ·rintro(h|h|h)
   ·exact .inl (.inl h)
   ·exact .inr h
   ·exact .inl (.inr h)
 ·rcases List.mem_append.mp hq with h|h
  ·exact d.uz q h
  ·rw[List.mem_singleton.mp h];exact d.ut p (by simp)
 ·by_cases hi:i<z.length
  ·rw[aa4 hi]at hq;rw[ad5 (ads hi)];exact d.ord i q hq e he
  ·rw[abf (Nat.le_of_not_lt hi)]at hq;have hi0:i-z.length=0:=by
    have:=(List.getElem?_eq_some_iff.mp hq).1;simp at this;lia
   rw[hi0]at hq;have:p=q:=by simpa using hq
   subst this;have ei:i=z.length:=by lia
   rw[ei,ad5 (aaI _),abO];exact G' e he
 ·subst e;obtain⟨k2,h1,h2,h3⟩:=d.mid t'.length q p (by simp) (by simp);rw[h]at h1;cases h1;rcases Nat.lt_succ_iff_lt_or_eq.mp hj with hj|rfl
  ·exact abe _ (h3 j x hj hx)
  ·rw[h2]at hx;cases hx;simp
 ·have Lq:(t++[p])[i]?=some a:=by rw[aa4 (List.getElem?_eq_some_iff.mp h1).1];exact h1
  have Ri:(t++[p])[i+1]?=some b:=by rw[aa4 (List.getElem?_eq_some_iff.mp h2).1];exact h2
  obtain⟨k2,g1,g2,g3⟩:=d.mid i a b Lq Ri;exact⟨k2,g1,g2,λj e hj he=>abe _ (g3 j e hj he)⟩
def DS.cl'{t:List α}{p:α}{k:Nat}(d:DS E U (t++[p]) c z){e:α}(hc:c p=some k)(he:(E p)[k]?=some e):∀q j,put c p (k+1) q=some j->j<=(E q).length:=λq j h=>by
 by_cases hq:q=p
 ·subst hq;rw[aT]at h;cases h;exact(List.getElem?_eq_some_iff.mp he).1
 ·rw[bF hq]at h;exact d.cl q j h
theorem DS.skip{t:List α}{p e:α}{k:Nat}(d:DS E U (t++[p]) c z)(hc:c p=some k)(he:(E p)[k]?=some e)(hz:e∈z):DS E U (t++[p]) (put c p (k+1)) z:=by
 have Gx:=List.nodup_append.mp d.Gx;refine⟨d.Pd,d.Gx,d.Rj,λq=>?_,d.ut,d.uz,d.cl' hc he,d.ord,λt' q k' e' h j x hj hx=>?_,λi a b h1 h2=>?_⟩
 ·by_cases hq:q=p
  ·subst hq;rw[aT];simp
  ·rw[bF hq];exact d.lk q
 ·obtain⟨rfl,hqp⟩:=ad3 e' rfl;have hqp:p=q:=by simpa using hqp
  subst hqp;rw[aT]at h;cases h;rcases Nat.lt_succ_iff_lt_or_eq.mp hj with hj|rfl
  ·exact d.top t p k rfl hc j x hj hx
  ·rw[he]at hx;cases hx;exact hz
 ·obtain⟨k2,g1,g2,g3⟩:=d.mid i a b h1 h2;have ha:a≠p:=λz=>by
   have hi:i<t.length:=by have:=(List.getElem?_eq_some_iff.mp h2).1;simp at this;lia
   rw[aa4 hi]at h1;exact Gx.2.2 a (aaD h1) p (by simp) z
  exact⟨k2,by rw[bF ha];exact g1,g2,g3⟩
theorem DS.push{t:List α}{p e:α}{k:Nat}(d:DS E U (t++[p]) c z)(hc:c p=some k)(he:(E p)[k]?=some e)(hn:c e=none)(hu:e∈U):DS E U (t++[p]++[e]) (put (put c p (k+1)) e 0) z:=by
 have Gx:=List.nodup_append.mp d.Gx;have P8:e∉t++[p]/\e∉z:=by
  constructor
  ·intro h;have:=(d.lk e).mpr (.inl h);rw[hn]at this;cases this
  ·intro h;have:=(d.lk e).mpr (.inr h);rw[hn]at this;cases this
 have hep:e≠p:=λh=>P8.1 (by rw[h];simp);refine⟨d.Pd,List.nodup_append.mpr ⟨d.Gx,by simp,λa ha b hb=>by rw[List.mem_singleton.mp hb];exactλh=>P8.1 (h▸ha)⟩,λq hq=>?_,λq=>?_,λq hq=>?_,d.uz,λq j h=>?_,d.ord,λt' q k' e' h j x hj hx=>?_,λi a b h1 h2=>?_⟩
 ·rcases List.mem_append.mp hq with h|h
  ·exact d.Rj q h
  ·rw[List.mem_singleton.mp h];exact P8.2
 ·by_cases hq:q=e
  ·subst hq;rw[aT];simp
  ·rw[bF hq];by_cases hq2:q=p
   ·subst hq2;rw[aT];simp
   ·rw[bF hq2,d.lk q];simp[hq]
 ·rcases List.mem_append.mp hq with h|h
  ·exact d.ut q h
  ·rw[List.mem_singleton.mp h];exact hu
 ·by_cases hq:q=e
  ·subst hq;rw[aT]at h;cases h;exact aa3 _
  ·rw[bF hq]at h;exact d.cl' hc he q j h
 ·obtain⟨_,hqe⟩:=ad3 e' rfl;have hqe:e=q:=by simpa using hqe
  subst hqe;rw[aT]at h;cases h;exact absurd hj (acn _)
 ·by_cases hi:i+1<(t++[p]).length
  ·rw[aa4 (by lia)]at h1;rw[aa4 hi]at h2;obtain⟨k2,g1,g2,g3⟩:=d.mid i a b h1 h2;have hil:i<t.length:=by simp at hi;lia
   rw[aa4 hil]at h1;have ha:=aaD h1;have hap:a≠p:=λh=>Gx.2.2 a ha p (by simp) h;have hae:a≠e:=λh=>P8.1 (abe _ (h▸ha));exact⟨k2,by rw[bF hae,bF hap];exact g1,g2,g3⟩
  ·have l2:=(List.getElem?_eq_some_iff.mp h2).1;simp only[aaF,aaM,acL]at l2 hi;have ei:i=t.length:=by lia
   subst ei;have ha:p=a:=by simpa using h1
   have hb:e=b:=by
    have:(t++[p]++[e])[t.length+1]?=some e:=by rw[abf (by simp)];simp
    rw[this]at h2;cases h2;rfl
   subst ha hb;exact⟨k,by rw[bF (abF hep),aT],he,λj x hj hx=>d.top t p k rfl hc j x hj hx⟩
structure B6(E:α->List α)(r:List α):Prop where
 ne:r≠[]
 nd:r.Nodup
 st:∀(i:Nat) p q,r[i]?=some p->r[i+1]?=some q->q∈E p
 cl:∀p q,r.head?=some p->r.getLast?=some q->p∈E q
theorem DS.ring{t:List α}{p e:α}{k i:Nat}(d:DS E U (t++[p]) c z)(hc:c p=some k)(he:(E p)[k]?=some e)(hi:(t++[p])[i]?=some e):B6 E ((t++[p]).drop i):=by
 have il:=(List.getElem?_eq_some_iff.mp hi).1;refine⟨λh=>?_,?_,λj a b h1 h2=>?_,λa b h1 h2=>?_⟩
 ·have:=List.drop_eq_nil_iff.mp h;lia
 ·have:=d.Gx;rw[<-ab0 i (t++[p])]at this;exact(List.nodup_append.mp this).2.1
 ·rw[adR]at h1 h2;obtain⟨k2,_,g2,_⟩:=d.mid (i+j) a b h1 h2;exact aaD g2
 ·have ha:a=e:=by
   rw[List.head?_drop,hi]at h1;cases h1;rfl
  have hb:b=p:=by rw[List.getLast?_drop,aaR (by lia)]at h2;simpa using h2.symm
  subst ha hb;exact aaD he
theorem B6.from{r:List α}(g:B6 E r):∀(m i:Nat) p q,r[i]?=some p->r[i+m+1]?=some q->Nr E p q
 |0,i,p,q,h1,h2=>.U8 (g.st i p q h1 h2)
 |m+1,i,p,q,h1,h2=>by
  have hl:=(List.getElem?_eq_some_iff.mp h2).1;have hm:i+m+1<r.length:=by lia
  exact(g.from m i p _ h1 (aaO hm)).on (g.st (i+m+1) _ q (aaO hm) (by rw[show i+m+1+1=i+(m+1)+1 by lia];exact h2))
theorem B6.cyc{r:List α}(g:B6 E r):∃p∈r,Nr E p p:=by
 obtain⟨a,ra⟩:∃a,r.head?=some a:=by
  cases h:r with
  |nil=>exact absurd h g.ne
  |cons x xs=>exact⟨x,rfl⟩
 obtain⟨b,rb⟩:∃b,r.getLast?=some b:=by
  cases h:r.getLast? with
  |none=>exact absurd (List.getLast?_eq_none_iff.mp h) g.ne
  |some b=>exact⟨b,rfl⟩
 have e1:=g.cl a b ra rb;have ha:r[0]?=some a:=by rw[<-aey];exact ra
 have hb:r[r.length-1]?=some b:=by rw[<-List.getLast?_eq_getElem?];exact rb
 refine⟨a,aaD ha,?_⟩;by_cases h1:r.length=1
 ·rw[h1]at hb;rw[ha]at hb;cases hb;exact .U8 e1
 ·have hl:=(List.getElem?_eq_some_iff.mp ha).1;exact(g.from (r.length-2) 0 a b ha (by rw[show 0+(r.length-2)+1=r.length-1 by lia];exact hb)).on e1
noncomputable def left(E:α->List α)(U:List α)(c:α->Option Nat)(z:List α):Nat:=(U.map λp=>((E p).length-(c p).getD 0)+if p∈z then 0 else 1).sum
theorem wo(f g:α->Nat):∀(l:List α),(∀p∈l,g p<=f p)->(l.map g).sum<=(l.map f).sum
 |[],_=>aaI _
 |a::l,h=>by rw[aa7,aa7,acZ,acZ];exact Nat.add_le_add (h a abd) (wo f g l λp hp=>h p (aa9 _ hp))
theorem qE(f g:α->Nat){a:α}:∀(l:List α),(∀p∈l,g p<=f p)->a∈l->g a<f a->(l.map g).sum<(l.map f).sum
 |b::l,h,hm,hl=>by
  rw[aa7,aa7,acZ,acZ];have hb:=h b abd;have hr:=wo f g l λp hp=>h p (aa9 _ hp);rcases List.mem_cons.mp hm with rfl|hm
  ·lia
  ·have:=qE f g l (λp hp=>h p (aa9 _ hp)) hm hl;lia
theorem cb{p:α}(hp:p∈U)(hn:p∉z):left E U c (z++[p])<left E U c z:=by
 refine qE _ _ U (λq _=>Nat.add_le_add_left ?_ _) hp (Nat.add_lt_add_left ?_ _)
 ·by_cases h:q∈z
  ·rw[aaY (abe _ h)];exact aa3 _
  ·rw[aaR h];split<;>lia
 ·rw[aaR hn,aaY (by simp)];exact Nat.one_pos
theorem di{p:α}{k:Nat}(hp:p∈U)(hc:c p=some k)(hk:k<(E p).length):left E U (put c p (k+1)) z<left E U c z:=by
 refine qE _ _ U (λq _=>Nat.add_le_add_right ?_ _) hp (Nat.add_lt_add_right ?_ _)
 ·by_cases h:q=p
  ·subst h;rw[aT,hc];show(E q).length-(k+1)<=(E q).length-k;lia
  ·rw[bF h];exact aaI _
 ·rw[aT,hc];show(E p).length-(k+1)<(E p).length-k;lia
def cD{e:α}(hn:c e=none):left E U (put c e 0) z=left E U c z:=by
 unfold left;congr 1;refine ac5 λq _=>?_;by_cases h:q=e
 ·subst h;rw[aT,hn];rfl
 ·rw[bF h]
end WK
namespace HJ
open PySem L2
set_option genInjectivity false
set_option genSizeOf false
variable{fd:FuncData}{ps:List Str}{K:W.Frag}{qual x:Str}{st:Stmt}{f:Addr}
theorem Iv(F:v9 K x qual st f fd)(hl:ps.length=1)(h:∀(kV doc pm:Value) (an:Option Addr) (m_ ct:Value) (a:Value),bindArgs (PySem.W.fnOf x qual (aD st) (az st) (ah st) .none kV doc pm an m_ ct) ⟨[a],[]⟩=pure (ps.zip [a])):Binds K fd ps []:=F.binds λkV doc pm an m_ ct us e=>by
 rw[hl]at e;match us,e with
 |[a],_=>exact h kV doc pm an m_ ct a
theorem FN(F:v9 K x qual st f fd)(hl:ps.length=2)(h:∀(kV doc pm:Value) (an:Option Addr) (m_ ct:Value) (a b:Value),bindArgs (PySem.W.fnOf x qual (aD st) (az st) (ah st) .none kV doc pm an m_ ct) ⟨[a,b],[]⟩=pure (ps.zip [a,b])):Binds K fd ps []:=F.binds λkV doc pm an m_ ct us e=>by
 rw[hl]at e;match us,e with
 |[a,b],_=>exact h kV doc pm an m_ ct a b
theorem NG(F:v9 K x qual st f fd)(hl:ps.length=3)(h:∀(kV doc pm:Value) (an:Option Addr) (m_ ct:Value) (a b c:Value),bindArgs (PySem.W.fnOf x qual (aD st) (az st) (ah st) .none kV doc pm an m_ ct) ⟨[a,b,c],[]⟩=pure (ps.zip [a,b,c])):Binds K fd ps []:=F.binds λkV doc pm an m_ ct us e=>by
 rw[hl]at e;match us,e with
 |[a,b,c],_=>exact h kV doc pm an m_ ct a b c
theorem bd4(F:v9 K x qual st f fd)(hl:ps.length=4)(h:∀(kV doc pm:Value) (an:Option Addr) (m_ ct:Value) (a b c d:Value),bindArgs (PySem.W.fnOf x qual (aD st) (az st) (ah st) .none kV doc pm an m_ ct) ⟨[a,b,c,d],[]⟩=pure (ps.zip [a,b,c,d])):Binds K fd ps []:=F.binds λkV doc pm an m_ ct us e=>by
 rw[hl]at e;match us,e with
 |[a,b,c,d],_=>exact h kV doc pm an m_ ct a b c d
theorem bd5(F:v9 K x qual st f fd)(hl:ps.length=5)(h:∀(kV doc pm:Value) (an:Option Addr) (m_ ct:Value) (a b c d g:Value),bindArgs (PySem.W.fnOf x qual (aD st) (az st) (ah st) .none kV doc pm an m_ ct) ⟨[a,b,c,d,g],[]⟩=pure (ps.zip [a,b,c,d,g])):Binds K fd ps []:=F.binds λkV doc pm an m_ ct us e=>by
 rw[hl]at e;match us,e with
 |[a,b,c,d,g],_=>exact h kV doc pm an m_ ct a b c d g
noncomputable def top(i:Nat):Stmt:=PySem.Challenge.pw_leafsay_k42_an_order.main.body.getD i (.Pass ⟨0,0,0,0⟩)
abbrev om:Stmt:=yB (top 11) 0
abbrev oU:Stmt:=top 13
abbrev pd:Stmt:=top 14
abbrev zi:Stmt:=top 16
abbrev oK:Stmt:=top 17
abbrev oI:Stmt:=top 19
abbrev pc:Stmt:=top 20
abbrev oW:Stmt:=top 21
abbrev oO:Stmt:=top 22
abbrev oA:Stmt:=top 24
abbrev pe:Stmt:=top 25
abbrev oQ:Stmt:=top 27
abbrev oz:Stmt:=top 28
abbrev pb:Stmt:=top 29
abbrev oP:Stmt:=top 30
abbrev pf:Stmt:=top 31
abbrev oH:Stmt:=top 32
abbrev pi:Stmt:=top 33
abbrev oG:Stmt:=top 35
abbrev zh:Stmt:=top 37
abbrev oj:Stmt:=top 38
abbrev oo:Stmt:=top 39
abbrev oB:Stmt:=top 40
abbrev oN:Stmt:=top 41
abbrev oh:Stmt:=top 42
abbrev ou:Stmt:=top 43
abbrev nZ:Stmt:=top 44
abbrev ol:Stmt:=top 45
abbrev oY:Stmt:=top 46
abbrev oM:Stmt:=top 47
abbrev oV:Stmt:=top 48
abbrev ow:Stmt:=top 49
abbrev oq:Stmt:=top 50
abbrev oR:Stmt:=top 51
abbrev oJ:Stmt:=top 52
abbrev nY:Stmt:=top 53
abbrev oy:Stmt:=top 54
abbrev oF:Stmt:=top 55
abbrev oS:Stmt:=top 56
abbrev ph:Stmt:=top 57
abbrev oZ:Stmt:=top 58
abbrev oX:Stmt:=top 59
abbrev pj:Stmt:=top 60
def zT:aF ["self", "ring"] ["self", "ring"] (ah om):={}
def Fh:aF ["graph", "start", "looked_at", "settled", "trail", "node", "lower"] ["graph", "start", "looked_at", "settled"] (ah oU):={}
def Fj:aF ["graph", "looked_at", "settled", "node"] ["graph"] (ah pd):={}
def BM:aF ["term"] ["term"] (ah zi):={}
def Eu:aF ["term", "found", "inner", "pair"] ["term"] (ah oK):={}
def Jf:aF ["rows", "name", "row"] ["rows", "name"] (ah oI):={}
def zZ:aF ["grammar", "name"] ["grammar", "name"] (ah pc):={}
def zY:aF ["grammar", "name"] ["grammar", "name"] (ah oW):={}
def Jg:aF ["form", "k", "name", "rule"] ["form", "k", "name"] (ah oO):={}
def Ff:aF ["tree", "found", "k", "branch"] ["tree"] (ah oA):={}
def Fl:aF ["tree", "path", "node", "k"] ["tree", "path"] (ah pe):={}
def zW:aF ["grammar", "tree", "path"] ["grammar", "tree", "path"] (ah oQ):={}
def Fe:aF ["grammar", "tree", "found", "path", "sign"] ["grammar", "tree"] (ah oz):={}
def Jh:aF ["grammar", "tree", "path", "k", "name", "node"] ["grammar", "tree", "path", "k", "name"] (ah pb):={}
def Fg:aF ["grammar", "tree", "spot", "path", "name", "sign"] ["grammar", "tree", "spot"] (ah oP):={}
def Aa:aF ["path", "pair"] ["path", "pair"] (ah pf):={}
def Je:aF ["grammar", "tree", "spot", "rule"] ["grammar", "tree", "spot"] (ah oH):={}
def Ab:aF ["grammar", "tree"] ["grammar", "tree"] (ah pi):={}
def zV:aF ["grammar", "tree"] ["grammar", "tree"] (ah oG):={}
def BL:aF ["_law_found"] ["_law_found"] (ah zh):={}
def D9:aF ["_law_script", "_law_many_here", "_law_found", "_law_seed", "_law_cell"] ["_law_script", "_law_many_here"] (ah oj):={}
def Es:aF ["_law_cell", "_law_k", "_law_letters", "_law_long", "_law_at", "_law_fill"] ["_law_cell", "_law_k"] (ah oo):={}
def C4:aF ["_law_deck_here", "_law_word_here", "_law_kinds", "_law_found", "_law_k", "_law_cell", "_law_near", "_law_downs", "_law_ups"] ["_law_deck_here"] (ah oB):={}
def DD:aF ["_law_signs_here", "_law_at", "_law_found", "_law_k", "_law_side", "_law_some", "_law_j", "_law_rank"] ["_law_signs_here", "_law_at"] (ah oN):={}
def GK:aF ["_law_kind", "_law_one", "_law_spot_here"] ["_law_kind", "_law_one"] (ah oh):={}
def zU:aF ["_law_kind", "_law_cell"] ["_law_kind", "_law_cell"] (ah ou):={}
def C1:aF ["_law_kind", "_law_some", "_law_cell", "_law_made", "_law_one", "_law_pair", "_law_deed"] ["_law_kind", "_law_some", "_law_cell"] (ah nZ):={}
def C3:aF ["_law_signs_here", "_law_name", "_law_at", "_law_deck_here", "_law_some", "_law_rules", "_law_one", "_law_cell", "_law_low", "_law_drawn", "_law_turn"] ["_law_signs_here", "_law_name", "_law_at", "_law_deck_here"] (ah ol):={}
def DE:aF ["_law_deck_here", "_law_signs_here", "_law_shapes", "_law_k", "_law_cell", "_law_word_here", "_law_forms"] ["_law_deck_here"] (ah oY):={}
def Ea:aF ["_law_grammar_here", "_law_sign", "_law_deck_here", "_law_room", "_law_some", "_law_form_here", "_law_cell", "_law_mark"] ["_law_grammar_here", "_law_sign", "_law_deck_here", "_law_room"] (ah oM):={}
def C5:aF ["_law_cell", "_law_a", "_law_c", "_law_sign", "_law_names", "_law_leaf", "_law_three", "_law_forms"] ["_law_cell"] (ah oV):={}
def Fd:aF ["_law_forms", "_law_many_here", "_law_cell", "_law_share", "_law_some"] ["_law_forms", "_law_many_here", "_law_cell"] (ah ow):={}
def Et:aF ["_law_deck_here", "_law_cell", "_law_grammar_here", "_law_root"] ["_law_deck_here"] (ah oq):={}
def Ew:aF ["_law_term_here", "_law_found", "_law_one"] ["_law_term_here"] (ah oR):={}
def D_:aF ["_law_tree", "_law_found", "_law_left", "_law_path", "_law_node", "_law_k"] ["_law_tree"] (ah oJ):={}
def zS:aF ["_law_path", "_law_k", "_law_name"] ["_law_path", "_law_k", "_law_name"] (ah nY):={}
def t_:aF ["_law_grammar_here", "_law_tree", "_law_found", "_law_nodes_here", "_law_path", "_law_node", "_law_head", "_law_sign", "_law_pair", "_law_rules", "_law_k", "_law_name", "_law_term_here"] ["_law_grammar_here", "_law_tree"] (ah oy):={}
def r9:aF ["_law_grammar_here", "_law_cell", "_law_places", "_law_f", "_law_r", "_law_form_here", "_law_some", "_law_k", "_law_sign", "_law_kind", "_law_drawn", "_law_rule"] ["_law_grammar_here", "_law_cell"] (ah oF):={}
def zX:aF ["_law_spot_here"] ["_law_spot_here"] (ah oS):={}
def Fo:aF ["_law_ring", "_law_hang_here", "_law_seen_here", "_law_spot_here", "_law_k"] ["_law_ring", "_law_hang_here"] (ah ph):={}
def Fi:aF ["_law_found", "_law_hang_here", "_law_seen_here", "_law_spot_here", "_law_other"] ["_law_found", "_law_hang_here"] (ah oZ):={}
def Dq:aF ["_law_grammar_here", "_law_tree", "_law_ringed", "_law_hang_here", "_law_own", "_law_ring", "_law_found", "error"] ["_law_grammar_here", "_law_tree", "_law_ringed"] (ah oX):={}
def C6:aF ["_law_script", "_law_deck_here", "_law_cell", "_law_grammar_here", "_law_tree", "_law_freed_here", "_law_k"] ["_law_script"] (ah pj):={}
structure Rx where
 Lg:Addr
 J1:FuncData
 ZE:Addr
 Kg:FuncData
 ZM:Addr
 Ko:FuncData
 qA:Addr
 Qp:FuncData
 Zy:Addr
 Kb:FuncData
 Zw:Addr
 J':FuncData
 ZL:Addr
 Kn:FuncData
 ZG:Addr
 Ki:FuncData
 ZA:Addr
 Kd:FuncData
 RX:Addr
 Gg:FuncData
 ZN:Addr
 Kq:FuncData
 ZD:Addr
 Kf:FuncData
 Zr:Addr
 J6:FuncData
 ZK:Addr
 Km:FuncData
 ZC:Addr
 Ke:FuncData
 ZO:Addr
 Kr:FuncData
 Zv:Addr
 J_:FuncData
 ZQ:Addr
 Kt:FuncData
 Zu:Addr
 J9:FuncData
 qB:Addr
 Qo:FuncData
 Zl:Addr
 JZ:FuncData
 Zn:Addr
 J2:FuncData
 Zs:Addr
 J7:FuncData
 Zz:Addr
 Kc:FuncData
 Zk:Addr
 JY:FuncData
 Zp:Addr
 J4:FuncData
 Zj:Addr
 JX:FuncData
 Zm:Addr
 J0:FuncData
 ZI:Addr
 Kk:FuncData
 RY:Addr
 Gh:FuncData
 ZF:Addr
 Kh:FuncData
 RW:Addr
 Gf:FuncData
 Zo:Addr
 J3:FuncData
 W7:Addr
 HB:FuncData
 Zx:Addr
 Ka:FuncData
 Zi:Addr
 JW:FuncData
 Zq:Addr
 J5:FuncData
 Zt:Addr
 J8:FuncData
 W8:Addr
 HC:FuncData
 ZP:Addr
 Ks:FuncData
 ZJ:Addr
 Kl:FuncData
 ZH:Addr
 Kj:FuncData
 law:Addr
 HD:FuncData
 j8:Addr
 m8:Addr
 i5:Addr
 c_:Addr
 d7:Addr
 m9:Addr
 m7:Addr
 b8:Addr
 i_:Addr
 m6:Addr
 f_:Addr
structure Tx(K:W.Frag)(mg:Str->Option Value)(T:Rx):Prop where
 WI:v9 K "__init__" "Ring.__init__" om T.Lg T.J1
 VJ:Binds K T.J1 ["self", "ring"] []
 h_qBI:Dh K T.f_ "__init__" T.Lg
 Ou:v9 K "settle" "settle" oU T.ZE T.Kg
 VX:Binds K T.Kg ["graph", "start", "looked_at", "settled"] []
 Sw:mg "settle" = some (.ref T.ZE)
 Oz:v9 K "order_of" "order_of" pd T.ZM T.Ko
 V2:Binds K T.Ko ["graph"] []
 SD:mg "order_of" = some (.ref T.ZM)
 WL:v9 K "inner_terms" "inner_terms" zi T.qA T.Qp
 b_qA:Binds K T.Qp ["term"] []
 m_qA:mg "inner_terms" = some (.ref T.qA)
 HN:v9 K "named" "named" oK T.Zy T.Kb
 NN:Binds K T.Kb ["term"] []
 M1:mg "named" = some (.ref T.Zy)
 K2:v9 K "row_of" "row_of" oI T.Zw T.J'
 NM:Binds K T.J' ["rows", "name"] []
 M0:mg "row_of" = some (.ref T.Zw)
 Oy:v9 K "sign_row" "sign_row" pc T.ZL T.Kn
 V1:Binds K T.Kn ["grammar", "name"] []
 SA:mg "sign_row" = some (.ref T.ZL)
 K9:v9 K "form_row" "form_row" oW T.ZG T.Ki
 NS:Binds K T.Ki ["grammar", "name"] []
 M7:mg "form_row" = some (.ref T.ZG)
 Oq:v9 K "rule_of" "rule_of" oO T.ZA T.Kd
 VU:Binds K T.Kd ["form", "k", "name"] []
 Su:mg "rule_of" = some (.ref T.ZA)
 K0:v9 K "paths" "paths" oA T.RX T.Gg
 NL:Binds K T.Gg ["tree"] []
 MZ:mg "paths" = some (.ref T.RX)
 K':v9 K "branch_at" "branch_at" pe T.ZN T.Kq
 NU:Binds K T.Kq ["tree", "path"] []
 M9:mg "branch_at" = some (.ref T.ZN)
 K7:v9 K "sign_at" "sign_at" oQ T.ZD T.Kf
 NP:Binds K T.Kf ["grammar", "tree", "path"] []
 M4:mg "sign_at" = some (.ref T.ZD)
 Og:v9 K "spots" "spots" oz T.Zr T.J6
 VN:Binds K T.J6 ["grammar", "tree"] []
 Sl:mg "spots" = some (.ref T.Zr)
 K_:v9 K "ruled_by" "ruled_by" pb T.ZK T.Km
 NT:Binds K T.Km ["grammar", "tree", "path", "k", "name"] []
 M8:mg "ruled_by" = some (.ref T.ZK)
 Ot:v9 K "rule_at" "rule_at" oP T.ZC T.Ke
 VW:Binds K T.Ke ["grammar", "tree", "spot"] []
 Sv:mg "rule_at" = some (.ref T.ZC)
 OA:v9 K "named_spot" "named_spot" pf T.ZO T.Kr
 V3:Binds K T.Kr ["path", "pair"] []
 SE:mg "named_spot" = some (.ref T.ZO)
 Ol:v9 K "needs" "needs" oH T.Zv T.J_
 VR:Binds K T.J_ ["grammar", "tree", "spot"] []
 Sq:mg "needs" = some (.ref T.Zv)
 OC:v9 K "needs_of_all" "needs_of_all" pi T.ZQ T.Kt
 V5:Binds K T.Kt ["grammar", "tree"] []
 SH:mg "needs_of_all" = some (.ref T.ZQ)
 Oj:v9 K "order" "order" oG T.Zu T.J9
 VQ:Binds K T.J9 ["grammar", "tree"] []
 So:mg "order" = some (.ref T.Zu)
 WJ:v9 K "_law_whole" "_law_whole" zh T.qB T.Qo
 b_qB:Binds K T.Qo ["_law_found"] []
 m_qB:mg "_law_whole" = some (.ref T.qB)
 Oc:v9 K "_law_deck" "_law_deck" oj T.Zl T.JZ
 VG:Binds K T.JZ ["_law_script", "_law_many_here"] []
 Sh:mg "_law_deck" = some (.ref T.Zl)
 Eg:v9 K "_law_word" "_law_word" oo T.Zn T.J2
 EH:Binds K T.J2 ["_law_cell", "_law_k"] []
 Ey:mg "_law_word" = some (.ref T.Zn)
 Oh:v9 K "_law_signs" "_law_signs" oB T.Zs T.J7
 VO:Binds K T.J7 ["_law_deck_here"] []
 Sm:mg "_law_signs" = some (.ref T.Zs)
 Oo:v9 K "_law_values" "_law_values" oN T.Zz T.Kc
 VT:Binds K T.Kc ["_law_signs_here", "_law_at"] []
 Ss:mg "_law_values" = some (.ref T.Zz)
 Ob:v9 K "_law_seen" "_law_seen" oh T.Zk T.JY
 VF:Binds K T.JY ["_law_kind", "_law_one"] []
 Sf:mg "_law_seen" = some (.ref T.Zk)
 KY:v9 K "_law_base" "_law_base" ou T.Zp T.J4
 NJ:Binds K T.J4 ["_law_kind", "_law_cell"] []
 MX:mg "_law_base" = some (.ref T.Zp)
 KW:v9 K "_law_term" "_law_term" nZ T.Zj T.JX
 NI:Binds K T.JX ["_law_kind", "_law_some", "_law_cell"] []
 MW:mg "_law_term" = some (.ref T.Zj)
 Od:v9 K "_law_form" "_law_form" ol T.Zm T.J0
 VI:Binds K T.J0 ["_law_signs_here", "_law_name", "_law_at", "_law_deck_here"] []
 Si:mg "_law_form" = some (.ref T.Zm)
 Ow:v9 K "_law_grammar" "_law_grammar" oY T.ZI T.Kk
 VZ:Binds K T.Kk ["_law_deck_here"] []
 Sy:mg "_law_grammar" = some (.ref T.ZI)
 K6:v9 K "_law_grown" "_law_grown" oM T.RY T.Gh
 NO:Binds K T.Gh ["_law_grammar_here", "_law_sign", "_law_deck_here", "_law_room"] []
 M3:mg "_law_grown" = some (.ref T.RY)
 Ov:v9 K "_law_chained" "_law_chained" oV T.ZF T.Kh
 VY:Binds K T.Kh ["_law_cell"] []
 Sx:mg "_law_chained" = some (.ref T.ZF)
 KZ:v9 K "_law_many" "_law_many" ow T.RW T.Gf
 NK:Binds K T.Gf ["_law_forms", "_law_many_here", "_law_cell"] []
 MY:mg "_law_many" = some (.ref T.RW)
 Oe:v9 K "_law_case" "_law_case" oq T.Zo T.J3
 VL:Binds K T.J3 ["_law_deck_here"] []
 Sj:mg "_law_case" = some (.ref T.Zo)
 HP:v9 K "_law_named" "_law_named" oR T.W7 T.HB
 NQ:Binds K T.HB ["_law_term_here"] []
 M5:mg "_law_named" = some (.ref T.W7)
 Om:v9 K "_law_nodes" "_law_nodes" oJ T.Zx T.Ka
 VS:Binds K T.Ka ["_law_tree"] []
 Sr:mg "_law_nodes" = some (.ref T.Zx)
 KU:v9 K "_law_spot" "_law_spot" nY T.Zi T.JW
 NH:Binds K T.JW ["_law_path", "_law_k", "_law_name"] []
 MV:mg "_law_spot" = some (.ref T.Zi)
 Of:v9 K "_law_hang" "_law_hang" oy T.Zq T.J5
 VM:Binds K T.J5 ["_law_grammar_here", "_law_tree"] []
 Sk:mg "_law_hang" = some (.ref T.Zq)
 Oi:v9 K "_law_freed" "_law_freed" oF T.Zt T.J8
 VP:Binds K T.J8 ["_law_grammar_here", "_law_cell"] []
 Sn:mg "_law_freed" = some (.ref T.Zt)
 K8:v9 K "_law_is_spot" "_law_is_spot" oS T.W8 T.HC
 NR:Binds K T.HC ["_law_spot_here"] []
 M6:mg "_law_is_spot" = some (.ref T.W8)
 OB:v9 K "_law_ring_right" "_law_ring_right" ph T.ZP T.Ks
 V4:Binds K T.Ks ["_law_ring", "_law_hang_here"] []
 SG:mg "_law_ring_right" = some (.ref T.ZP)
 Ox:v9 K "_law_in_order" "_law_in_order" oZ T.ZJ T.Kl
 V0:Binds K T.Kl ["_law_found", "_law_hang_here"] []
 Sz:mg "_law_in_order" = some (.ref T.ZJ)
 HQ:v9 K "_law_ordered" "_law_ordered" oX T.ZH T.Kj
 Kz:Binds K T.Kj ["_law_grammar_here", "_law_tree", "_law_ringed"] []
 Jw:mg "_law_ordered" = some (.ref T.ZH)
 OD:v9 K "law" "law" pj T.law T.HD
 b_law:Binds K T.HD ["_law_script"] []
 SI:mg "law" = some (.ref T.law)
 z_ValueError:mg "ValueError" = none
 z_bool:mg "bool" = none
 z_dict:mg "dict" = none
 z_enumerate:mg "enumerate" = none
 z_int:mg "int" = none
 z_isinstance:mg "isinstance" = none
 z_len:mg "len" = none
 z_list:mg "list" = none
 z_min:mg "min" = none
 z_range:mg "range" = none
 z_reversed:mg "reversed" = none
 z_str:mg "str" = none
 z_tuple:mg "tuple" = none
 m_LeafError:mg "LeafError" = some (.ref T.j8)
 m_NoText:mg "NoText" = some (.ref T.m8)
 m_TooGreat:mg "TooGreat" = some (.ref T.i5)
 m_NoName:mg "NoName" = some (.ref T.c_)
 e_NoName:xp K T.c_
 RA:Cj K T.c_
 u_NoName_Ring:PySem.W.mroIn K T.c_ (.ref T.f_)=some false
 i_NoName_0:PySem.W.kitOne K (.ref T.c_) (.ref T.j8)=some true
 i_NoName_1:PySem.W.kitOne K (.ref T.c_) (.type "ValueError")=some true
 i_NoName_2:PySem.W.kitAny K (.ref T.c_) [.ref T.m8,.ref T.i5,.ref T.c_,.ref T.d7,.ref T.m9,.ref T.m7,.ref T.b8,.ref T.i_,.ref T.m6]=some true
 m_NoRule:mg "NoRule" = some (.ref T.d7)
 e_NoRule:xp K T.d7
 Rz:Cj K T.d7
 u_NoRule_Ring:PySem.W.mroIn K T.d7 (.ref T.f_)=some false
 i_NoRule_0:PySem.W.kitOne K (.ref T.d7) (.ref T.j8)=some true
 i_NoRule_1:PySem.W.kitOne K (.ref T.d7) (.type "ValueError")=some true
 i_NoRule_2:PySem.W.kitAny K (.ref T.d7) [.ref T.m8,.ref T.i5,.ref T.c_,.ref T.d7,.ref T.m9,.ref T.m7,.ref T.b8,.ref T.i_,.ref T.m6]=some true
 m_NoKind:mg "NoKind" = some (.ref T.m9)
 m_NoTree:mg "NoTree" = some (.ref T.m7)
 m_NoPlace:mg "NoPlace" = some (.ref T.b8)
 e_NoPlace:xp K T.b8
 QF:Cj K T.b8
 u_NoPlace_Ring:PySem.W.mroIn K T.b8 (.ref T.f_)=some false
 i_NoPlace_0:PySem.W.kitOne K (.ref T.b8) (.ref T.j8)=some true
 i_NoPlace_1:PySem.W.kitOne K (.ref T.b8) (.type "ValueError")=some true
 i_NoPlace_2:PySem.W.kitAny K (.ref T.b8) [.ref T.m8,.ref T.i5,.ref T.c_,.ref T.d7,.ref T.m9,.ref T.m7,.ref T.b8,.ref T.i_,.ref T.m6]=some true
 m_NoGiven:mg "NoGiven" = some (.ref T.i_)
 m_NoWalk:mg "NoWalk" = some (.ref T.m6)
 m_Ring:mg "Ring" = some (.ref T.f_)
 DF:MA K T.f_ T.Lg
 u_Ring_Ring:PySem.W.mroIn K T.f_ (.ref T.f_)=some true
 i_Ring_0:PySem.W.kitOne K (.ref T.f_) (.ref T.j8)=some true
 i_Ring_1:PySem.W.kitOne K (.ref T.f_) (.type "ValueError")=some true
 i_Ring_2:PySem.W.kitAny K (.ref T.f_) [.ref T.m8,.ref T.i5,.ref T.c_,.ref T.d7,.ref T.m9,.ref T.m7,.ref T.b8,.ref T.i_,.ref T.m6]=some false
def RE{h:Heap}{mg:Str->Option Value}(X:K.In h)(G:h.Ns mainGlobals mg){f0 f1 f2 f3 f4 f5 f6 f7 f8 f9 Yf Ye Yd Yc Yb Ya X_ X9 X8 X7 X6 X5 X4 X3 X2 X0 XZ XY XX XW XU XT XS XR XQ XN XM XJ XI XH XG XF XE:Addr}{od0 an0 od1 an1 od2 an2 od3 an3 od4 an4 od5 an5 od6 an6 od7 an7 od8 an8 od9 an9 _4 an10 _3 an11 _2 an12 _1 an13 _0 an14 _Z an15 _Y an16 _X an17 _W an18 _V an19 _U an20 _T an21 _S an22 _R an23 _Q an24 _P an25 _O an26 _N an27 _M an28 _L an29 _K an30 _J an31 _I an32 _H an33 _G an34 _F an35 _E an36 _D an37 _C an38 _B an39 _A an40 _z an41 _y an42:Option Addr}{sl0 sl1 QM sl3 sl4 sl5 sl6 sl7 sl8 sl9 Y_ Y9 Y8 Y7 Y6 Y5 Y4 Y3 Y2 Y1 Y0 YZ YY YX YW YV YU YT YS YR YQ YO YN YM YL YK YJ YI YH YG YF YE YD:Array (Option Value)}{oc0 kV0 dc0 pm0 cd0 ct0 oc1 kV1 dc1 pm1 cd1 ct1 oc2 kV2 dc2 pm2 cd2 ct2 oc3 kV3 dc3 pm3 cd3 ct3 oc4 kV4 dc4 pm4 cd4 ct4 oc5 kV5 dc5 pm5 cd5 ct5 oc6 kV6 dc6 pm6 cd6 ct6 oc7 kV7 dc7 pm7 cd7 ct7 oc8 kV8 dc8 pm8 cd8 ct8 oc9 kV9 dc9 pm9 cd9 ct9 aaA kV10 dc10 _u VE ct10 aaz kV11 dc11 _t VD ct11 aay kV12 dc12 _s VC ct12 aax kV13 dc13 _r VB ct13 aaw kV14 dc14 _q VA ct14 aav kV15 dc15 _p Vz ct15 aau kV16 dc16 _o Vy ct16 aat kV17 dc17 _n Vx ct17 aas kV18 dc18 _m Vw ct18 aar kV19 dc19 _l Vv ct19 aaq kV20 dc20 _k Vu ct20 aap kV21 dc21 _j Vt ct21 aao kV22 dc22 _i Vs ct22 aan kV23 dc23 _h Vr ct23 aam kV24 dc24 _g Vq ct24 aal kV25 dc25 _e Vp ct25 aak kV26 dc26 _d Vo ct26 aaj kV27 dc27 _c Vn ct27 aai kV28 dc28 _b Vm ct28 aah kV29 dc29 _a Vk ct29 aag kV30 dc30 Z' Vj ct30 aaf kV31 dc31 Z_ Vi ct31 aae kV32 dc32 Z8 Vh ct32 aad kV33 dc33 Z7 Vg ct33 aac kV34 dc34 Z6 Vf ct34 aab kV35 dc35 ZZ Ve ct35 aaa kV36 dc36 ZY Vd ct36 __ kV37 dc37 ZX Vc ct37 _9 kV38 dc38 ZW Vb ct38 _8 kV39 dc39 ZV Va ct39 _7 kV40 dc40 ZU U' ct40 _6 kV41 dc41 ZT U_ ct41 _5 kV42 dc42 ZS U9 ct42:Value}{j8 m8 i5 c_ d7 m9 m7 b8 i_ m6 f_:Addr}(m_LeafError:PySem.W.nsIn K mainGlobals "LeafError" = some (some (.ref j8)))(m_NoText:PySem.W.nsIn K mainGlobals "NoText" = some (some (.ref m8)))(m_TooGreat:PySem.W.nsIn K mainGlobals "TooGreat" = some (some (.ref i5)))(m_NoName:PySem.W.nsIn K mainGlobals "NoName" = some (some (.ref c_)))(m_NoRule:PySem.W.nsIn K mainGlobals "NoRule" = some (some (.ref d7)))(m_NoKind:PySem.W.nsIn K mainGlobals "NoKind" = some (some (.ref m9)))(m_NoTree:PySem.W.nsIn K mainGlobals "NoTree" = some (some (.ref m7)))(m_NoPlace:PySem.W.nsIn K mainGlobals "NoPlace" = some (some (.ref b8)))(m_NoGiven:PySem.W.nsIn K mainGlobals "NoGiven" = some (some (.ref i_)))(m_NoWalk:PySem.W.nsIn K mainGlobals "NoWalk" = some (some (.ref m6)))(m_Ring:PySem.W.nsIn K mainGlobals "Ring" = some (some (.ref f_)))(a0:PySem.W.findIn K (.ref f_) "__init__" = some (some (.ref f0)))(i0:PySem.W.isFn K (.ref f0)=true)(l0:K.lookup f0=some ⟨oc0,od0,.func (PySem.W.fnOf "__init__" "Ring.__init__" (aD om) (az om) (ah om) .none kV0 dc0 pm0 an0 cd0 ct0),sl0⟩)(c0:PySem.W.codeIn K cd0 "Ring.__init__" = true)(k0:PySem.W.keepIn K (.ref f0)=true)(a1:PySem.W.nsIn K mainGlobals "settle" = some (some (.ref f1)))(l1:K.lookup f1=some ⟨oc1,od1,.func (PySem.W.fnOf "settle" "settle" (aD oU) (az oU) (ah oU) .none kV1 dc1 pm1 an1 cd1 ct1),sl1⟩)(c1:PySem.W.codeIn K cd1 "settle" = true)(k1:PySem.W.keepIn K (.ref f1)=true)(a2:PySem.W.nsIn K mainGlobals "order_of" = some (some (.ref f2)))(l2:K.lookup f2=some ⟨oc2,od2,.func (PySem.W.fnOf "order_of" "order_of" (aD pd) (az pd) (ah pd) .none kV2 dc2 pm2 an2 cd2 ct2),QM⟩)(c2:PySem.W.codeIn K cd2 "order_of" = true)(k2:PySem.W.keepIn K (.ref f2)=true)(a3:PySem.W.nsIn K mainGlobals "inner_terms" = some (some (.ref f3)))(l3:K.lookup f3=some ⟨oc3,od3,.func (PySem.W.fnOf "inner_terms" "inner_terms" (aD zi) (az zi) (ah zi) .none kV3 dc3 pm3 an3 cd3 ct3),sl3⟩)(c3:PySem.W.codeIn K cd3 "inner_terms" = true)(k3:PySem.W.keepIn K (.ref f3)=true)(a4:PySem.W.nsIn K mainGlobals "named" = some (some (.ref f4)))(l4:K.lookup f4=some ⟨oc4,od4,.func (PySem.W.fnOf "named" "named" (aD oK) (az oK) (ah oK) .none kV4 dc4 pm4 an4 cd4 ct4),sl4⟩)(c4:PySem.W.codeIn K cd4 "named" = true)(k4:PySem.W.keepIn K (.ref f4)=true)(a5:PySem.W.nsIn K mainGlobals "row_of" = some (some (.ref f5)))(l5:K.lookup f5=some ⟨oc5,od5,.func (PySem.W.fnOf "row_of" "row_of" (aD oI) (az oI) (ah oI) .none kV5 dc5 pm5 an5 cd5 ct5),sl5⟩)(c5:PySem.W.codeIn K cd5 "row_of" = true)(k5:PySem.W.keepIn K (.ref f5)=true)(a6:PySem.W.nsIn K mainGlobals "sign_row" = some (some (.ref f6)))(l6:K.lookup f6=some ⟨oc6,od6,.func (PySem.W.fnOf "sign_row" "sign_row" (aD pc) (az pc) (ah pc) .none kV6 dc6 pm6 an6 cd6 ct6),sl6⟩)(c6:PySem.W.codeIn K cd6 "sign_row" = true)(k6:PySem.W.keepIn K (.ref f6)=true)(a7:PySem.W.nsIn K mainGlobals "form_row" = some (some (.ref f7)))(l7:K.lookup f7=some ⟨oc7,od7,.func (PySem.W.fnOf "form_row" "form_row" (aD oW) (az oW) (ah oW) .none kV7 dc7 pm7 an7 cd7 ct7),sl7⟩)(c7:PySem.W.codeIn K cd7 "form_row" = true)(k7:PySem.W.keepIn K (.ref f7)=true)(a8:PySem.W.nsIn K mainGlobals "rule_of" = some (some (.ref f8)))(l8:K.lookup f8=some ⟨oc8,od8,.func (PySem.W.fnOf "rule_of" "rule_of" (aD oO) (az oO) (ah oO) .none kV8 dc8 pm8 an8 cd8 ct8),sl8⟩)(c8:PySem.W.codeIn K cd8 "rule_of" = true)(k8:PySem.W.keepIn K (.ref f8)=true)(a9:PySem.W.nsIn K mainGlobals "paths" = some (some (.ref f9)))(l9:K.lookup f9=some ⟨oc9,od9,.func (PySem.W.fnOf "paths" "paths" (aD oA) (az oA) (ah oA) .none kV9 dc9 pm9 an9 cd9 ct9),sl9⟩)(c9:PySem.W.codeIn K cd9 "paths" = true)(k9:PySem.W.keepIn K (.ref f9)=true)(a10:PySem.W.nsIn K mainGlobals "branch_at" = some (some (.ref Yf)))(l10:K.lookup Yf=some ⟨aaA,_4,.func (PySem.W.fnOf "branch_at" "branch_at" (aD pe) (az pe) (ah pe) .none kV10 dc10 _u an10 VE ct10),Y_⟩)(c10:PySem.W.codeIn K VE "branch_at" = true)(k10:PySem.W.keepIn K (.ref Yf)=true)(a11:PySem.W.nsIn K mainGlobals "sign_at" = some (some (.ref Ye)))(l11:K.lookup Ye=some ⟨aaz,_3,.func (PySem.W.fnOf "sign_at" "sign_at" (aD oQ) (az oQ) (ah oQ) .none kV11 dc11 _t an11 VD ct11),Y9⟩)(c11:PySem.W.codeIn K VD "sign_at" = true)(k11:PySem.W.keepIn K (.ref Ye)=true)(a12:PySem.W.nsIn K mainGlobals "spots" = some (some (.ref Yd)))(l12:K.lookup Yd=some ⟨aay,_2,.func (PySem.W.fnOf "spots" "spots" (aD oz) (az oz) (ah oz) .none kV12 dc12 _s an12 VC ct12),Y8⟩)(c12:PySem.W.codeIn K VC "spots" = true)(k12:PySem.W.keepIn K (.ref Yd)=true)(a13:PySem.W.nsIn K mainGlobals "ruled_by" = some (some (.ref Yc)))(l13:K.lookup Yc=some ⟨aax,_1,.func (PySem.W.fnOf "ruled_by" "ruled_by" (aD pb) (az pb) (ah pb) .none kV13 dc13 _r an13 VB ct13),Y7⟩)(c13:PySem.W.codeIn K VB "ruled_by" = true)(k13:PySem.W.keepIn K (.ref Yc)=true)(a14:PySem.W.nsIn K mainGlobals "rule_at" = some (some (.ref Yb)))(l14:K.lookup Yb=some ⟨aaw,_0,.func (PySem.W.fnOf "rule_at" "rule_at" (aD oP) (az oP) (ah oP) .none kV14 dc14 _q an14 VA ct14),Y6⟩)(c14:PySem.W.codeIn K VA "rule_at" = true)(k14:PySem.W.keepIn K (.ref Yb)=true)(a15:PySem.W.nsIn K mainGlobals "named_spot" = some (some (.ref Ya)))(l15:K.lookup Ya=some ⟨aav,_Z,.func (PySem.W.fnOf "named_spot" "named_spot" (aD pf) (az pf) (ah pf) .none kV15 dc15 _p an15 Vz ct15),Y5⟩)(c15:PySem.W.codeIn K Vz "named_spot" = true)(k15:PySem.W.keepIn K (.ref Ya)=true)(a16:PySem.W.nsIn K mainGlobals "needs" = some (some (.ref X_)))(l16:K.lookup X_=some ⟨aau,_Y,.func (PySem.W.fnOf "needs" "needs" (aD oH) (az oH) (ah oH) .none kV16 dc16 _o an16 Vy ct16),Y4⟩)(c16:PySem.W.codeIn K Vy "needs" = true)(k16:PySem.W.keepIn K (.ref X_)=true)(a17:PySem.W.nsIn K mainGlobals "needs_of_all" = some (some (.ref X9)))(l17:K.lookup X9=some ⟨aat,_X,.func (PySem.W.fnOf "needs_of_all" "needs_of_all" (aD pi) (az pi) (ah pi) .none kV17 dc17 _n an17 Vx ct17),Y3⟩)(c17:PySem.W.codeIn K Vx "needs_of_all" = true)(k17:PySem.W.keepIn K (.ref X9)=true)(a18:PySem.W.nsIn K mainGlobals "order" = some (some (.ref X8)))(l18:K.lookup X8=some ⟨aas,_W,.func (PySem.W.fnOf "order" "order" (aD oG) (az oG) (ah oG) .none kV18 dc18 _m an18 Vw ct18),Y2⟩)(c18:PySem.W.codeIn K Vw "order" = true)(k18:PySem.W.keepIn K (.ref X8)=true)(a19:PySem.W.nsIn K mainGlobals "_law_whole" = some (some (.ref X7)))(l19:K.lookup X7=some ⟨aar,_V,.func (PySem.W.fnOf "_law_whole" "_law_whole" (aD zh) (az zh) (ah zh) .none kV19 dc19 _l an19 Vv ct19),Y1⟩)(c19:PySem.W.codeIn K Vv "_law_whole" = true)(k19:PySem.W.keepIn K (.ref X7)=true)(a20:PySem.W.nsIn K mainGlobals "_law_deck" = some (some (.ref X6)))(l20:K.lookup X6=some ⟨aaq,_U,.func (PySem.W.fnOf "_law_deck" "_law_deck" (aD oj) (az oj) (ah oj) .none kV20 dc20 _k an20 Vu ct20),Y0⟩)(c20:PySem.W.codeIn K Vu "_law_deck" = true)(k20:PySem.W.keepIn K (.ref X6)=true)(a21:PySem.W.nsIn K mainGlobals "_law_word" = some (some (.ref X5)))(l21:K.lookup X5=some ⟨aap,_T,.func (PySem.W.fnOf "_law_word" "_law_word" (aD oo) (az oo) (ah oo) .none kV21 dc21 _j an21 Vt ct21),YZ⟩)(c21:PySem.W.codeIn K Vt "_law_word" = true)(k21:PySem.W.keepIn K (.ref X5)=true)(a22:PySem.W.nsIn K mainGlobals "_law_signs" = some (some (.ref X4)))(l22:K.lookup X4=some ⟨aao,_S,.func (PySem.W.fnOf "_law_signs" "_law_signs" (aD oB) (az oB) (ah oB) .none kV22 dc22 _i an22 Vs ct22),YY⟩)(c22:PySem.W.codeIn K Vs "_law_signs" = true)(k22:PySem.W.keepIn K (.ref X4)=true)(a23:PySem.W.nsIn K mainGlobals "_law_values" = some (some (.ref X3)))(l23:K.lookup X3=some ⟨aan,_R,.func (PySem.W.fnOf "_law_values" "_law_values" (aD oN) (az oN) (ah oN) .none kV23 dc23 _h an23 Vr ct23),YX⟩)(c23:PySem.W.codeIn K Vr "_law_values" = true)(k23:PySem.W.keepIn K (.ref X3)=true)(a24:PySem.W.nsIn K mainGlobals "_law_seen" = some (some (.ref X2)))(l24:K.lookup X2=some ⟨aam,_Q,.func (PySem.W.fnOf "_law_seen" "_law_seen" (aD oh) (az oh) (ah oh) .none kV24 dc24 _g an24 Vq ct24),YW⟩)(c24:PySem.W.codeIn K Vq "_law_seen" = true)(k24:PySem.W.keepIn K (.ref X2)=true)(a25:PySem.W.nsIn K mainGlobals "_law_base" = some (some (.ref X0)))(l25:K.lookup X0=some ⟨aal,_P,.func (PySem.W.fnOf "_law_base" "_law_base" (aD ou) (az ou) (ah ou) .none kV25 dc25 _e an25 Vp ct25),YV⟩)(c25:PySem.W.codeIn K Vp "_law_base" = true)(k25:PySem.W.keepIn K (.ref X0)=true)(a26:PySem.W.nsIn K mainGlobals "_law_term" = some (some (.ref XZ)))(l26:K.lookup XZ=some ⟨aak,_O,.func (PySem.W.fnOf "_law_term" "_law_term" (aD nZ) (az nZ) (ah nZ) .none kV26 dc26 _d an26 Vo ct26),YU⟩)(c26:PySem.W.codeIn K Vo "_law_term" = true)(k26:PySem.W.keepIn K (.ref XZ)=true)(a27:PySem.W.nsIn K mainGlobals "_law_form" = some (some (.ref XY)))(l27:K.lookup XY=some ⟨aaj,_N,.func (PySem.W.fnOf "_law_form" "_law_form" (aD ol) (az ol) (ah ol) .none kV27 dc27 _c an27 Vn ct27),YT⟩)(c27:PySem.W.codeIn K Vn "_law_form" = true)(k27:PySem.W.keepIn K (.ref XY)=true)(a28:PySem.W.nsIn K mainGlobals "_law_grammar" = some (some (.ref XX)))(l28:K.lookup XX=some ⟨aai,_M,.func (PySem.W.fnOf "_law_grammar" "_law_grammar" (aD oY) (az oY) (ah oY) .none kV28 dc28 _b an28 Vm ct28),YS⟩)(c28:PySem.W.codeIn K Vm "_law_grammar" = true)(k28:PySem.W.keepIn K (.ref XX)=true)(a29:PySem.W.nsIn K mainGlobals "_law_grown" = some (some (.ref XW)))(l29:K.lookup XW=some ⟨aah,_L,.func (PySem.W.fnOf "_law_grown" "_law_grown" (aD oM) (az oM) (ah oM) .none kV29 dc29 _a an29 Vk ct29),YR⟩)(c29:PySem.W.codeIn K Vk "_law_grown" = true)(k29:PySem.W.keepIn K (.ref XW)=true)(a30:PySem.W.nsIn K mainGlobals "_law_chained" = some (some (.ref XU)))(l30:K.lookup XU=some ⟨aag,_K,.func (PySem.W.fnOf "_law_chained" "_law_chained" (aD oV) (az oV) (ah oV) .none kV30 dc30 Z' an30 Vj ct30),YQ⟩)(c30:PySem.W.codeIn K Vj "_law_chained" = true)(k30:PySem.W.keepIn K (.ref XU)=true)(a31:PySem.W.nsIn K mainGlobals "_law_many" = some (some (.ref XT)))(l31:K.lookup XT=some ⟨aaf,_J,.func (PySem.W.fnOf "_law_many" "_law_many" (aD ow) (az ow) (ah ow) .none kV31 dc31 Z_ an31 Vi ct31),YO⟩)(c31:PySem.W.codeIn K Vi "_law_many" = true)(k31:PySem.W.keepIn K (.ref XT)=true)(a32:PySem.W.nsIn K mainGlobals "_law_case" = some (some (.ref XS)))(l32:K.lookup XS=some ⟨aae,_I,.func (PySem.W.fnOf "_law_case" "_law_case" (aD oq) (az oq) (ah oq) .none kV32 dc32 Z8 an32 Vh ct32),YN⟩)(c32:PySem.W.codeIn K Vh "_law_case" = true)(k32:PySem.W.keepIn K (.ref XS)=true)(a33:PySem.W.nsIn K mainGlobals "_law_named" = some (some (.ref XR)))(l33:K.lookup XR=some ⟨aad,_H,.func (PySem.W.fnOf "_law_named" "_law_named" (aD oR) (az oR) (ah oR) .none kV33 dc33 Z7 an33 Vg ct33),YM⟩)(c33:PySem.W.codeIn K Vg "_law_named" = true)(k33:PySem.W.keepIn K (.ref XR)=true)(a34:PySem.W.nsIn K mainGlobals "_law_nodes" = some (some (.ref XQ)))(l34:K.lookup XQ=some ⟨aac,_G,.func (PySem.W.fnOf "_law_nodes" "_law_nodes" (aD oJ) (az oJ) (ah oJ) .none kV34 dc34 Z6 an34 Vf ct34),YL⟩)(c34:PySem.W.codeIn K Vf "_law_nodes" = true)(k34:PySem.W.keepIn K (.ref XQ)=true)(a35:PySem.W.nsIn K mainGlobals "_law_spot" = some (some (.ref XN)))(l35:K.lookup XN=some ⟨aab,_F,.func (PySem.W.fnOf "_law_spot" "_law_spot" (aD nY) (az nY) (ah nY) .none kV35 dc35 ZZ an35 Ve ct35),YK⟩)(c35:PySem.W.codeIn K Ve "_law_spot" = true)(k35:PySem.W.keepIn K (.ref XN)=true)(a36:PySem.W.nsIn K mainGlobals "_law_hang" = some (some (.ref XM)))(l36:K.lookup XM=some ⟨aaa,_E,.func (PySem.W.fnOf "_law_hang" "_law_hang" (aD oy) (az oy) (ah oy) .none kV36 dc36 ZY an36 Vd ct36),YJ⟩)(c36:PySem.W.codeIn K Vd "_law_hang" = true)(k36:PySem.W.keepIn K (.ref XM)=true)(a37:PySem.W.nsIn K mainGlobals "_law_freed" = some (some (.ref XJ)))(l37:K.lookup XJ=some ⟨__,_D,.func (PySem.W.fnOf "_law_freed" "_law_freed" (aD oF) (az oF) (ah oF) .none kV37 dc37 ZX an37 Vc ct37),YI⟩)(c37:PySem.W.codeIn K Vc "_law_freed" = true)(k37:PySem.W.keepIn K (.ref XJ)=true)(a38:PySem.W.nsIn K mainGlobals "_law_is_spot" = some (some (.ref XI)))(l38:K.lookup XI=some ⟨_9,_C,.func (PySem.W.fnOf "_law_is_spot" "_law_is_spot" (aD oS) (az oS) (ah oS) .none kV38 dc38 ZW an38 Vb ct38),YH⟩)(c38:PySem.W.codeIn K Vb "_law_is_spot" = true)(k38:PySem.W.keepIn K (.ref XI)=true)(a39:PySem.W.nsIn K mainGlobals "_law_ring_right" = some (some (.ref XH)))(l39:K.lookup XH=some ⟨_8,_B,.func (PySem.W.fnOf "_law_ring_right" "_law_ring_right" (aD ph) (az ph) (ah ph) .none kV39 dc39 ZV an39 Va ct39),YG⟩)(c39:PySem.W.codeIn K Va "_law_ring_right" = true)(k39:PySem.W.keepIn K (.ref XH)=true)(a40:PySem.W.nsIn K mainGlobals "_law_in_order" = some (some (.ref XG)))(l40:K.lookup XG=some ⟨_7,_A,.func (PySem.W.fnOf "_law_in_order" "_law_in_order" (aD oZ) (az oZ) (ah oZ) .none kV40 dc40 ZU an40 U' ct40),YF⟩)(c40:PySem.W.codeIn K U' "_law_in_order" = true)(k40:PySem.W.keepIn K (.ref XG)=true)(a41:PySem.W.nsIn K mainGlobals "_law_ordered" = some (some (.ref XF)))(l41:K.lookup XF=some ⟨_6,_z,.func (PySem.W.fnOf "_law_ordered" "_law_ordered" (aD oX) (az oX) (ah oX) .none kV41 dc41 ZT an41 U_ ct41),YE⟩)(c41:PySem.W.codeIn K U_ "_law_ordered" = true)(k41:PySem.W.keepIn K (.ref XF)=true)(a42:PySem.W.nsIn K mainGlobals "law" = some (some (.ref XE)))(l42:K.lookup XE=some ⟨_5,_y,.func (PySem.W.fnOf "law" "law" (aD pj) (az pj) (ah pj) .none kV42 dc42 ZS an42 U9 ct42),YD⟩)(c42:PySem.W.codeIn K U9 "law" = true)(k42:PySem.W.keepIn K (.ref XE)=true)(z_ValueError:PySem.W.nsIn K mainGlobals "ValueError" = some none)(z_bool:PySem.W.nsIn K mainGlobals "bool" = some none)(z_dict:PySem.W.nsIn K mainGlobals "dict" = some none)(z_enumerate:PySem.W.nsIn K mainGlobals "enumerate" = some none)(z_int:PySem.W.nsIn K mainGlobals "int" = some none)(z_isinstance:PySem.W.nsIn K mainGlobals "isinstance" = some none)(z_len:PySem.W.nsIn K mainGlobals "len" = some none)(z_list:PySem.W.nsIn K mainGlobals "list" = some none)(z_min:PySem.W.nsIn K mainGlobals "min" = some none)(z_range:PySem.W.nsIn K mainGlobals "range" = some none)(z_reversed:PySem.W.nsIn K mainGlobals "reversed" = some none)(z_str:PySem.W.nsIn K mainGlobals "str" = some none)(z_tuple:PySem.W.nsIn K mainGlobals "tuple" = some none)(e_NoName:PySem.W.excIn K c_ OG "ValueError.__new__" = true)(xga_NoName:PySem.W.findIn K (.ref c_) "__getattribute__" = some (some (.builtin "BaseException.__getattribute__")))(xgt_NoName:PySem.W.findIn K (.ref c_) "__getattr__" = some none)(xca_NoName:PySem.W.findIn K (.ref c_) "__class__" = some (some (.builtin "object.__class__")))(xsp_NoName:PySem.W.specialIn K (.builtin "object.__class__") "__get__" = some (some (.builtin "getset_descriptor.__get__")))(xtk_NoName:PySem.W.takesIn K (.builtin "object.__class__")=some true)(xmo_NoName:PySem.W.mroIn K c_ (.type "object")=some true)(xmb_NoName:PySem.W.mroIn K c_ (.type "BaseException")=some true)(u_NoName_Ring:PySem.W.mroIn K c_ (.ref f_)=some false)(i_NoName_0:PySem.W.kitOne K (.ref c_) (.ref j8)=some true)(i_NoName_1:PySem.W.kitOne K (.ref c_) (.type "ValueError")=some true)(i_NoName_2:PySem.W.kitAny K (.ref c_) [.ref m8,.ref i5,.ref c_,.ref d7,.ref m9,.ref m7,.ref b8,.ref i_,.ref m6]=some true)(e_NoRule:PySem.W.excIn K d7 OG "ValueError.__new__" = true)(xga_NoRule:PySem.W.findIn K (.ref d7) "__getattribute__" = some (some (.builtin "BaseException.__getattribute__")))(xgt_NoRule:PySem.W.findIn K (.ref d7) "__getattr__" = some none)(xca_NoRule:PySem.W.findIn K (.ref d7) "__class__" = some (some (.builtin "object.__class__")))(xsp_NoRule:PySem.W.specialIn K (.builtin "object.__class__") "__get__" = some (some (.builtin "getset_descriptor.__get__")))(xtk_NoRule:PySem.W.takesIn K (.builtin "object.__class__")=some true)(xmo_NoRule:PySem.W.mroIn K d7 (.type "object")=some true)(xmb_NoRule:PySem.W.mroIn K d7 (.type "BaseException")=some true)(u_NoRule_Ring:PySem.W.mroIn K d7 (.ref f_)=some false)(i_NoRule_0:PySem.W.kitOne K (.ref d7) (.ref j8)=some true)(i_NoRule_1:PySem.W.kitOne K (.ref d7) (.type "ValueError")=some true)(i_NoRule_2:PySem.W.kitAny K (.ref d7) [.ref m8,.ref i5,.ref c_,.ref d7,.ref m9,.ref m7,.ref b8,.ref i_,.ref m6]=some true)(e_NoPlace:PySem.W.excIn K b8 OG "ValueError.__new__" = true)(xga_NoPlace:PySem.W.findIn K (.ref b8) "__getattribute__" = some (some (.builtin "BaseException.__getattribute__")))(xgt_NoPlace:PySem.W.findIn K (.ref b8) "__getattr__" = some none)(xca_NoPlace:PySem.W.findIn K (.ref b8) "__class__" = some (some (.builtin "object.__class__")))(xsp_NoPlace:PySem.W.specialIn K (.builtin "object.__class__") "__get__" = some (some (.builtin "getset_descriptor.__get__")))(xtk_NoPlace:PySem.W.takesIn K (.builtin "object.__class__")=some true)(xmo_NoPlace:PySem.W.mroIn K b8 (.type "object")=some true)(xmb_NoPlace:PySem.W.mroIn K b8 (.type "BaseException")=some true)(u_NoPlace_Ring:PySem.W.mroIn K b8 (.ref f_)=some false)(i_NoPlace_0:PySem.W.kitOne K (.ref b8) (.ref j8)=some true)(i_NoPlace_1:PySem.W.kitOne K (.ref b8) (.type "ValueError")=some true)(i_NoPlace_2:PySem.W.kitAny K (.ref b8) [.ref m8,.ref i5,.ref c_,.ref d7,.ref m9,.ref m7,.ref b8,.ref i_,.ref m6]=some true)(rex_Ring:dq K f_=true)(rini_Ring:PySem.W.findIn K (.ref f_) "__init__" = some (some (.ref f0)))(rfn_Ring:PySem.W.typeIn K (.ref f0)=some (.type "function"))(rsa_Ring:PySem.W.findIn K (.ref f_) "__setattr__" = some (some (.builtin "object.__setattr__")))(rov_Ring:(PySem.W.clsIn K f_).any (λcd=>eG cd.mro)=true)(rrg_Ring:PySem.W.findIn K (.ref f_) "ring" = some none)(rhd_Ring:PySem.W.hasDictIn K f_=true)(xga_Ring:PySem.W.findIn K (.ref f_) "__getattribute__" = some (some (.builtin "BaseException.__getattribute__")))(xgt_Ring:PySem.W.findIn K (.ref f_) "__getattr__" = some none)(xca_Ring:PySem.W.findIn K (.ref f_) "__class__" = some (some (.builtin "object.__class__")))(xsp_Ring:PySem.W.specialIn K (.builtin "object.__class__") "__get__" = some (some (.builtin "getset_descriptor.__get__")))(xtk_Ring:PySem.W.takesIn K (.builtin "object.__class__")=some true)(xmo_Ring:PySem.W.mroIn K f_ (.type "object")=some true)(xmb_Ring:PySem.W.mroIn K f_ (.type "BaseException")=some true)(u_Ring_Ring:PySem.W.mroIn K f_ (.ref f_)=some true)(i_Ring_0:PySem.W.kitOne K (.ref f_) (.ref j8)=some true)(i_Ring_1:PySem.W.kitOne K (.ref f_) (.type "ValueError")=some true)(i_Ring_2:PySem.W.kitAny K (.ref f_) [.ref m8,.ref i5,.ref c_,.ref d7,.ref m9,.ref m7,.ref b8,.ref i_,.ref m6]=some false)
 : ∃T:Rx,Tx K mg T:=by
 have F0:=aQ (st:=om) l0 c0 k0;have F1:=aQ (st:=oU) l1 c1 k1;have F2:=aQ (st:=pd) l2 c2 k2;have F3:=aQ (st:=zi) l3 c3 k3;have F4:=aQ (st:=oK) l4 c4 k4;have F5:=aQ (st:=oI) l5 c5 k5;have F6:=aQ (st:=pc) l6 c6 k6;have F7:=aQ (st:=oW) l7 c7 k7;have F8:=aQ (st:=oO) l8 c8 k8;have F9:=aQ (st:=oA) l9 c9 k9;have F10:=aQ (st:=pe) l10 c10 k10;have F11:=aQ (st:=oQ) l11 c11 k11;have WM:=aQ (st:=oz) l12 c12 k12;have F13:=aQ (st:=pb) l13 c13 k13;have F14:=aQ (st:=oP) l14 c14 k14;have F15:=aQ (st:=pf) l15 c15 k15;have F16:=aQ (st:=oH) l16 c16 k16;have F17:=aQ (st:=pi) l17 c17 k17;have F18:=aQ (st:=oG) l18 c18 k18;have F19:=aQ (st:=zh) l19 c19 k19;have F20:=aQ (st:=oj) l20 c20 k20;have F21:=aQ (st:=oo) l21 c21 k21;have F22:=aQ (st:=oB) l22 c22 k22;have F23:=aQ (st:=oN) l23 c23 k23;have F24:=aQ (st:=oh) l24 c24 k24;have F25:=aQ (st:=ou) l25 c25 k25;have F26:=aQ (st:=nZ) l26 c26 k26;have F27:=aQ (st:=ol) l27 c27 k27;have F28:=aQ (st:=oY) l28 c28 k28;have F29:=aQ (st:=oM) l29 c29 k29;have F30:=aQ (st:=oV) l30 c30 k30;have F31:=aQ (st:=ow) l31 c31 k31;have F32:=aQ (st:=oq) l32 c32 k32;have F33:=aQ (st:=oR) l33 c33 k33;have F34:=aQ (st:=oJ) l34 c34 k34;have F35:=aQ (st:=nY) l35 c35 k35;have F36:=aQ (st:=oy) l36 c36 k36;have F37:=aQ (st:=oF) l37 c37 k37;have F38:=aQ (st:=oS) l38 c38 k38;have F39:=aQ (st:=ph) l39 c39 k39;have F40:=aQ (st:=oZ) l40 c40 k40;have F41:=aQ (st:=oX) l41 c41 k41;have F42:=aQ (st:=pj) l42 c42 k42;exact⟨⟨f0,_,f1,_,f2,_,f3,_,f4,_,f5,_,f6,_,f7,_,f8,_,f9,_,Yf,_,Ye,_,Yd,_,Yc,_,Yb,_,Ya,_,X_,_,X9,_,X8,_,X7,_,X6,_,X5,_,X4,_,X3,_,X2,_,X0,_,XZ,_,XY,_,XX,_,XW,_,XU,_,XT,_,XS,_,XR,_,XQ,_,XN,_,XM,_,XJ,_,XI,_,XH,_,XG,_,XF,_,XE,_,j8,m8,i5,c_,d7,m9,m7,b8,i_,m6,f_⟩,⟨F0,FN (ps:=["self", "ring"]) F0 rfl (λ_ _ _ _ _ _ _ _=>rfl),⟨a0,i0,k0⟩,F1,bd4 (ps:=["graph", "start", "looked_at", "settled"]) F1 rfl (λ_ _ _ _ _ _ _ _ _ _=>rfl),aaN X G a1,F2,Iv (ps:=["graph"]) F2 rfl (λ_ _ _ _ _ _ _=>rfl),aaN X G a2,F3,Iv (ps:=["term"]) F3 rfl (λ_ _ _ _ _ _ _=>rfl),aaN X G a3,F4,Iv (ps:=["term"]) F4 rfl (λ_ _ _ _ _ _ _=>rfl),aaN X G a4,F5,FN (ps:=["rows", "name"]) F5 rfl (λ_ _ _ _ _ _ _ _=>rfl),aaN X G a5,F6,FN (ps:=["grammar", "name"]) F6 rfl (λ_ _ _ _ _ _ _ _=>rfl),aaN X G a6,F7,FN (ps:=["grammar", "name"]) F7 rfl (λ_ _ _ _ _ _ _ _=>rfl),aaN X G a7,F8,NG (ps:=["form", "k", "name"]) F8 rfl (λ_ _ _ _ _ _ _ _ _=>rfl),aaN X G a8,F9,Iv (ps:=["tree"]) F9 rfl (λ_ _ _ _ _ _ _=>rfl),aaN X G a9,F10,FN (ps:=["tree", "path"]) F10 rfl (λ_ _ _ _ _ _ _ _=>rfl),aaN X G a10,F11,NG (ps:=["grammar", "tree", "path"]) F11 rfl (λ_ _ _ _ _ _ _ _ _=>rfl),aaN X G a11,WM,FN (ps:=["grammar", "tree"]) WM rfl (λ_ _ _ _ _ _ _ _=>rfl),aaN X G a12,F13,bd5 (ps:=["grammar", "tree", "path", "k", "name"]) F13 rfl (λ_ _ _ _ _ _ _ _ _ _ _=>rfl),aaN X G a13,F14,NG (ps:=["grammar", "tree", "spot"]) F14 rfl (λ_ _ _ _ _ _ _ _ _=>rfl),aaN X G a14,F15,FN (ps:=["path", "pair"]) F15 rfl (λ_ _ _ _ _ _ _ _=>rfl),aaN X G a15,F16,NG (ps:=["grammar", "tree", "spot"]) F16 rfl (λ_ _ _ _ _ _ _ _ _=>rfl),aaN X G a16,F17,FN (ps:=["grammar", "tree"]) F17 rfl (λ_ _ _ _ _ _ _ _=>rfl),aaN X G a17,F18,FN (ps:=["grammar", "tree"]) F18 rfl (λ_ _ _ _ _ _ _ _=>rfl),aaN X G a18,F19,Iv (ps:=["_law_found"]) F19 rfl (λ_ _ _ _ _ _ _=>rfl),aaN X G a19,F20,FN (ps:=["_law_script", "_law_many_here"]) F20 rfl (λ_ _ _ _ _ _ _ _=>rfl),aaN X G a20,F21,FN (ps:=["_law_cell", "_law_k"]) F21 rfl (λ_ _ _ _ _ _ _ _=>rfl),aaN X G a21,F22,Iv (ps:=["_law_deck_here"]) F22 rfl (λ_ _ _ _ _ _ _=>rfl),aaN X G a22,F23,FN (ps:=["_law_signs_here", "_law_at"]) F23 rfl (λ_ _ _ _ _ _ _ _=>rfl),aaN X G a23,F24,FN (ps:=["_law_kind", "_law_one"]) F24 rfl (λ_ _ _ _ _ _ _ _=>rfl),aaN X G a24,F25,FN (ps:=["_law_kind", "_law_cell"]) F25 rfl (λ_ _ _ _ _ _ _ _=>rfl),aaN X G a25,F26,NG (ps:=["_law_kind", "_law_some", "_law_cell"]) F26 rfl (λ_ _ _ _ _ _ _ _ _=>rfl),aaN X G a26,F27,bd4 (ps:=["_law_signs_here", "_law_name", "_law_at", "_law_deck_here"]) F27 rfl (λ_ _ _ _ _ _ _ _ _ _=>rfl),aaN X G a27,F28,Iv (ps:=["_law_deck_here"]) F28 rfl (λ_ _ _ _ _ _ _=>rfl),aaN X G a28,F29,bd4 (ps:=["_law_grammar_here", "_law_sign", "_law_deck_here", "_law_room"]) F29 rfl (λ_ _ _ _ _ _ _ _ _ _=>rfl),aaN X G a29,F30,Iv (ps:=["_law_cell"]) F30 rfl (λ_ _ _ _ _ _ _=>rfl),aaN X G a30,F31,NG (ps:=["_law_forms", "_law_many_here", "_law_cell"]) F31 rfl (λ_ _ _ _ _ _ _ _ _=>rfl),aaN X G a31,F32,Iv (ps:=["_law_deck_here"]) F32 rfl (λ_ _ _ _ _ _ _=>rfl),aaN X G a32,F33,Iv (ps:=["_law_term_here"]) F33 rfl (λ_ _ _ _ _ _ _=>rfl),aaN X G a33,F34,Iv (ps:=["_law_tree"]) F34 rfl (λ_ _ _ _ _ _ _=>rfl),aaN X G a34,F35,NG (ps:=["_law_path", "_law_k", "_law_name"]) F35 rfl (λ_ _ _ _ _ _ _ _ _=>rfl),aaN X G a35,F36,FN (ps:=["_law_grammar_here", "_law_tree"]) F36 rfl (λ_ _ _ _ _ _ _ _=>rfl),aaN X G a36,F37,FN (ps:=["_law_grammar_here", "_law_cell"]) F37 rfl (λ_ _ _ _ _ _ _ _=>rfl),aaN X G a37,F38,Iv (ps:=["_law_spot_here"]) F38 rfl (λ_ _ _ _ _ _ _=>rfl),aaN X G a38,F39,FN (ps:=["_law_ring", "_law_hang_here"]) F39 rfl (λ_ _ _ _ _ _ _ _=>rfl),aaN X G a39,F40,FN (ps:=["_law_found", "_law_hang_here"]) F40 rfl (λ_ _ _ _ _ _ _ _=>rfl),aaN X G a40,F41,NG (ps:=["_law_grammar_here", "_law_tree", "_law_ringed"]) F41 rfl (λ_ _ _ _ _ _ _ _ _=>rfl),aaN X G a41,F42,Iv (ps:=["_law_script"]) F42 rfl (λ_ _ _ _ _ _ _=>rfl),aaN X G a42,abv X G z_ValueError,abv X G z_bool,abv X G z_dict,abv X G z_enumerate,abv X G z_int,abv X G z_isinstance,abv X G z_len,abv X G z_list,abv X G z_min,abv X G z_range,abv X G z_reversed,abv X G z_str,abv X G z_tuple,aaN X G m_LeafError,aaN X G m_NoText,aaN X G m_TooGreat,aaN X G m_NoName,e_NoName,⟨e_NoName,xga_NoName,xgt_NoName,xca_NoName,xsp_NoName,xtk_NoName,xmo_NoName,xmb_NoName⟩,u_NoName_Ring,i_NoName_0,i_NoName_1,i_NoName_2,aaN X G m_NoRule,e_NoRule,⟨e_NoRule,xga_NoRule,xgt_NoRule,xca_NoRule,xsp_NoRule,xtk_NoRule,xmo_NoRule,xmb_NoRule⟩,u_NoRule_Ring,i_NoRule_0,i_NoRule_1,i_NoRule_2,aaN X G m_NoKind,aaN X G m_NoTree,aaN X G m_NoPlace,e_NoPlace,⟨e_NoPlace,xga_NoPlace,xgt_NoPlace,xca_NoPlace,xsp_NoPlace,xtk_NoPlace,xmo_NoPlace,xmb_NoPlace⟩,u_NoPlace_Ring,i_NoPlace_0,i_NoPlace_1,i_NoPlace_2,aaN X G m_NoGiven,aaN X G m_NoWalk,aaN X G m_Ring,⟨rex_Ring,rini_Ring,rfn_Ring,rsa_Ring,rov_Ring,rrg_Ring,rhd_Ring,xga_Ring,xgt_Ring,xca_Ring,xsp_Ring,xtk_Ring,xmo_Ring,xmb_Ring⟩,u_Ring_Ring,i_Ring_0,i_Ring_1,i_Ring_2⟩⟩
end HJ
namespace HJ
open PySem L2 TR FT SP
open TM
def bH(a b:Str):(a++b).length=a.length+b.length:=by rw[dh,dh,dh,jk,aaF]
def qd(z:Str):Prop:=z.length<=20000/\∀c∈z.cps.toList,c<128
theorem gl{d:Str}(h:qd d):(PyData.str d).shown.length<=300000:=by
 have:=PyData.shown_le_bulk 8 (by decide) (.str d) (by
  simp only[PyData.leavesShort,ad4,abJ];intro c hc;have:=h.2 c hc;have e:(16:Nat) ^ 8=4294967296:=by decide
  lia)
 have e:PyData.bulk (.str d)=d.cps.size:=by simp only[PyData.bulk]
 have h3:d.cps.size<=20000:=h.1;rw[e]at this;lia
variable{H:Hp}{σ:St}{D:gR}{u:TS}
def AU{c:TT}{t:TS}(A B:Hp->Prop)(hc:∀Q:Bool->Hp->Prop,(∀H1,A H1->Q true H1)->(∀H1,B H1->Q false H1)->c σ H Q)(h1:∀H1,A H1->t D σ H1)(h2:∀H1,B H1->u D σ H1):Lx c t u D σ H:=by
 refine hc _ (λH1 a=>?_) (λH1 b=>?_)
 ·exact zl (h1 H1 a)
 ·exact lI (h2 H1 b)
variable{A B:Prop}
def yv{c:Prop}[Decidable c](h1:¬c->A)(h2:c->B):if(!decide c)=true then A else B:=by
 by_cases h:c
 ·rw[abb h];exact lI (h2 h)
 ·rw[aaW h];exact zl (h1 h)
def Bk(H:Hp)(n:Str)(v:V):Prop:=∃p r,v=.ref p/\H p=some (.tup (.str n::r))
def CJ(H:Hp)(e:Int×Str)(v:V):Prop:=∃p t,v=.ref p/\H p=some (.tup [.int e.1,.str e.2,t])
inductive zO(N:Addr)(vs:List V)(H:Hp)(Q:VK)(E:XK):Prop
 |mk (a:Addr) (DP:List Str) (us:List V) (n:Str):(vs=[.ref a,.str n])->H a=some (.tup us)->g_ (Bk H) DP us->qd n->DP.Nodup->(∃(i:Nat)(v:V),us[i]?=some v/\DP[i]?=some n/\Q v H)\/(n∉DP/\E (.ref N) none H)->zO N vs H Q E
inductive wv(N:Addr)(vs:List V)(H:Hp)(Q:VK)(E:XK):Prop
 |mk (f a:Addr) (x y z:V) (es:List (Int×Str)) (us:List V) (k:Int) (n:Str):(vs=[.ref f,.int k,.str n])->H f=some (.tup [x,y,z,.ref a])->H a=some (.tup us)->g_ (CJ H) es us->qd n->0<=k->k<=1000->es.Nodup->(∃(i:Nat)(p:Addr)(t:V),us[i]?=some (.ref p)/\es[i]?=some (k,n)/\H p=some (.tup [.int k,.str n,t])/\Q t H)\/((k,n)∉es/\E (.ref N) none H)->wv N vs H Q E
inductive jt(N:Addr)(vs:List V)(H:Hp)(Q:VK)(E:XK):Prop
 |mk (g a:Addr) (y:V) (DP:List Str) (us:List V) (n:Str):(vs=[.ref g,.str n])->H g=some (.tup [.ref a,y])->H a=some (.tup us)->g_ (Bk H) DP us->qd n->DP.Nodup->(∃(i:Nat)(v:V),us[i]?=some v/\DP[i]?=some n/\Q v H)\/(n∉DP/\E (.ref N) none H)->jt N vs H Q E
inductive jx(N:Addr)(vs:List V)(H:Hp)(Q:VK)(E:XK):Prop
 |mk (g a:Addr) (y:V) (DP:List Str) (us:List V) (n:Str):(vs=[.ref g,.str n])->H g=some (.tup [y,.ref a])->H a=some (.tup us)->g_ (Bk H) DP us->qd n->DP.Nodup->(∃(i:Nat)(v:V),us[i]?=some v/\DP[i]?=some n/\Q v H)\/(n∉DP/\E (.ref N) none H)->jx N vs H Q E
variable{α:Type}{i:Nat}
def yn{l:List α}{j:Nat}{x:α}(h:l.Nodup)(a:l[i]?=some x)(b:l[j]?=some x):i=j:=by
 obtain⟨hi,ei⟩:=List.getElem?_eq_some_iff.mp a;obtain⟨hj,ej⟩:=List.getElem?_eq_some_iff.mp b;have:=List.pairwise_iff_getElem.mp h;rcases Nat.lt_trichotomy i j with c|c|c
 ·exact absurd (ei.trans ej.symm) (this i j hi hj c)
 ·exact c
 ·exact absurd (ej.trans ei.symm) (this j i hj hi c)
theorem vF{k:Nat}{A:Around}(r:r6 k A):A.units+1<cLine:=by have:=r.un;lia
variable{X:Cx}
def wI{P:Program}{w:World}:gQ (GD P w) X E0:=λ_ _ _ _ _ _ _ h=>by obtain⟨_,_,_,_,_,z⟩:=h;exact z.elim
theorem _root_.L2.r6.w_{k:Nat}{A:Around}(r:r6 k A):A.units+80<cLine:=by have:=r.un;lia
def eU{K:W.Frag}(h:X.K=K):eg X (.builtin "len") (jm K):=h▸av
variable{a b:Addr}{o:HO}
def bq(h:H a=some o)(n:H b=none):b≠a:=λz=>by rw[z,h]at n;cases n
inductive qR(vs:List V)(H:Hp)(Q:VK)(e0:XK):Prop
 |mk (B:Hp) (t:Tm) (v:V):(vs=[v])->d_ B H->g9 B t v->(∀b xs H',a_ H H'->H' b=some (.tup xs)->xs.length<=1000->i7 B (inner t) xs->Q (.ref b) H')->qR vs H Q e0
inductive kM(n:Nat)(vs:List V)(H:Hp)(Q:VK)(e0:XK):Prop
 |mk (t:Tm) (v:V):(vs=[v])->g9 H t v->depth t<=n->bn t<=1000->(∀p ys H',H p=none->a_ H H'->H' p=some (.lst ys)->v8 H' (named t) ys->Q (.ref p) H')->kM n vs H Q e0
noncomputable def tag:Tm->Str
 |.num _=>"num"
 |.text _=>"text"
 |.row=>"row"
 |.mark=>"mark"
 |.val _ _=>"of"
 |.call _ _=>"call"
variable{v:V}{t:Tm}
theorem yC(h:g9 H t v):∃a r,v=.ref a/\H a=some (.tup (.str (tag t)::r)):=by
 cases t with
 |call w ts=>
  unfold g9 at h;obtain⟨a,b,us,e,ha,_⟩:=h;exact⟨a,_,e,ha⟩
 |_=>
  unfold g9 at h;obtain⟨a,e,ha⟩:=h;exact⟨a,_,e,ha⟩
theorem zy(h:yy t=false):decide (V.str (tag t)=V.str "of")=false:=by
 cases t with
 |val k z=>cases h
 |num n=>exact(by decide +kernel:decide (V.str "num" = V.str "of")=false)
 |text n=>exact(by decide +kernel:decide (V.str "text" = V.str "of")=false)
 |row=>exact(by decide +kernel:decide (V.str "row" = V.str "of")=false)
 |mark=>exact(by decide +kernel:decide (V.str "mark" = V.str "of")=false)
 |call w ts=>exact(by decide +kernel:decide (V.str "call" = V.str "of")=false)
inductive kL(n:Nat)(vs:List V)(H:Hp)(Q:VK)(e0:XK):Prop
 |mk:∀t v,vs=[v]->i3 H t v->nv t<=n+1->size t<=1000->(∀D us H',a_ H H'->H D=none->H' D=some (.lst us)->g_ (C_ H') (iL t) us->Q (.ref D) H')->kL n vs H Q e0
inductive Ct(C:Addr)(vs:List V)(H:Hp)(Q:VK)(E:XK):Prop
 |mk (t:Tr) (v:V) (q:List Int) (a:Addr):(vs=[v,.ref a])->i3 H t v->H a=some (.tup (q.map V.int))->(∀u y,atT q t=some u->i3 H u y->Q y H)->(atT q t=none->∀H',a_ H H'->E (.ref C) none H')->Ct C vs H Q E
theorem _root_.TM.g_.ME{α:Type}{R:α->V->Prop}:∀{as bs:List α}{vs:List V},g_ R (as++bs) vs->∃xs ys,vs=xs++ys/\g_ R as xs/\g_ R bs ys
 |[],bs,vs,h=>⟨[],vs,rfl,.nil,h⟩
 |a::as,bs,_,.cons h1 h2=>by obtain⟨xs,ys,e,g1,g2⟩:=TM.g_.ME h2;exact⟨_::xs,ys,by rw[e];rfl,.cons h1 g1,g2⟩
variable{P:Program}{w:World}{K:W.Frag}{mg:Str->Option Value}{base:Heap}{T:Rx}
theorem wL(X:Tx K mg T):i6 P w K mg base (GD P w) 1 T.Zw T.J' ["rows", "name"] (zO T.c_):=by
 refine X.K2.LW Jf (λvs H Q E h=>?_) (λm_ A outer s H vs Q E hr h=>?_)
 ·obtain⟨_,_,_,_,rfl,_⟩:=h;rfl
 obtain⟨a,DP,us,n,rfl,ha,hn,tn,nd,JI⟩:=h;refine⟨_,(ag (bh ac1 rfl (cr (qv 0)) (ay (i:=2) Jf.nd rfl oI1) (ai (bz (aE bS (aj ak (qv 2) af) (qv 1) (aS _)) (ai (aG (qv 2))) aK))) (ai (fK rfl rfl X.m_NoName X.e_NoName (Zh (kQ (dB aA (dB (rH hr (qv 1)) rG))) ae) fJ))),?_⟩;dsimp only[cg];have ln:=hn.len;have ls:=gl tn;have e0:Str.empty.length=0:=rfl;have l1:(Str.ofString "nothing is called ").length=18:=by decide
 have hsz:sizeLine=16777216:=by decide
 refine⟨_,rfl,a,rfl,⟨_,b9.of ha⟩,fk (K:=K) (a:=a) (xs:=us) (λi σ H'=>H'=H/\(∃x2,σ=[some (.ref a),some (.str n),x2])/\∀j<i,DP[j]?≠some n) ⟨rfl,⟨none,rfl⟩,(λj hj=>absurd hj (acn j))⟩ (λi σ H' _ ⟨e,_⟩=>by rw[e];exact b9.of ha) ?_ ?_⟩
 ·rintro i v σ H' hv ⟨rfl,⟨x2,rfl⟩,Gy⟩;obtain⟨m,hm,p,r,rfl,hp⟩:=hn.get hv;refine⟨_,rfl,p,_,0,.str m,rfl,rfl,b9.of hp,dY _ _,_,rfl,rfl,_,rfl,cL (λh=>?_) (λh=>?_)⟩
  ·have hmn:m=n:=V.str.inj h;subst hmn;rcases JI with⟨i',v',h1,h2,q⟩|⟨Nk,_⟩
   ·have:=yn nd h2 hm;subst this;rw[hv]at h1;cases h1;exact⟨_,rfl,q⟩
   ·exact absurd (aaD hm) Nk
  ·refine⟨rfl,⟨_,rfl⟩,λj hj=>?_⟩;rcases Nat.lt_succ_iff_lt_or_eq.mp hj with hj|rfl
   ·exact Gy j hj
   ·intro z;rw[hm]at z;exact h (by rw[aa0 z])
 ·rintro σ H' ⟨rfl,⟨x2,rfl⟩,Gy⟩;rcases JI with⟨i,v,h1,h2,_⟩|⟨_,q⟩
  ·exact absurd h2 (Gy i (ao h1))
  ·exact⟨_,rfl,by rw[bH,e0,l1];lia,_,rfl,.str _,.str _,by simp only[PyData.showable],by simp only[PyData.hasDict],by simp only[PyData.depth];decide,by lia,_,rfl,by rw[bH,bH,e0,l1];lia,(by show 1<=10;decide),q⟩
def pF(X:Tx K mg T):i6 P w K mg base (GD P w) 2 T.ZL T.Kn ["grammar", "name"] (jt T.c_):=by
 have KJ:=wL (P:=P) (w:=w) (base:=base) X;refine X.Oy.LW zZ (λvs H Q E h=>?_) (λm_ A outer s H vs Q E hr h=>?_)
 ·obtain⟨_,_,_,_,_,_,rfl,_⟩:=h;rfl
 obtain⟨g,a,y,DP,us,n,rfl,hg,ha,hn,tn,nd,JI⟩:=h;refine⟨_,(ai (aG (aw KJ hr rfl X.M0 X.K2.kp X.NM .nil cy (q_ (aj ak (qv 0) af) (b_ (qv 1) ae))))),?_⟩;dsimp only[cg];exact⟨_,rfl,g,_,0,_,rfl,rfl,b9.of hg,rfl,_,rfl,a,DP,us,n,rfl,ha,hn,tn,nd,JI⟩
def ii(X:Tx K mg T):i6 P w K mg base (GD P w) 2 T.ZG T.Ki ["grammar", "name"] (jx T.c_):=by
 have KJ:=wL (P:=P) (w:=w) (base:=base) X;refine X.K9.LW zY (λvs H Q E h=>?_) (λm_ A outer s H vs Q E hr h=>?_)
 ·obtain⟨_,_,_,_,_,_,rfl,_⟩:=h;rfl
 obtain⟨g,a,y,DP,us,n,rfl,hg,ha,hn,tn,nd,JI⟩:=h;refine⟨_,(ai (aG (aw KJ hr rfl X.M0 X.K2.kp X.NM .nil cy (q_ (aj ak (qv 0) af) (b_ (qv 1) ae))))),?_⟩;dsimp only[cg];exact⟨_,rfl,g,_,1,_,rfl,rfl,b9.of hg,rfl,_,rfl,a,DP,us,n,rfl,ha,hn,tn,nd,JI⟩
theorem rW(X:Tx K mg T):i6 P w K mg base (GD P w) 1 T.ZA T.Kd ["form", "k", "name"] (wv T.d7):=by
 refine X.Oq.LW Jg (λvs H Q E h=>?_) (λm_ A outer s H vs Q E hr h=>?_)
 ·obtain⟨_,_,_,_,_,_,_,_,_,rfl,_⟩:=h;rfl
 obtain⟨f,a,x,y,z,es,us,k,n,rfl,hf,ha,hn,tn,k0,k1,nd,JI⟩:=h;refine⟨_,(ag (bh ac1 rfl (cr (aj ak (qv 0) af)) (ay (i:=3) Jg.nd rfl oI1) (ai (bz (kO (wD (aE bS (aj ak (qv 3) af) (qv 1) (aS _)) (rD (aE bS (aj ak (qv 3) af) (qv 2) (aS _))))) (ai (aG (aj ak (qv 3) af))) aK))) (ai (fK rfl rfl X.m_NoRule X.e_NoRule (Zh (kQ (dB aA (dB (rH hr (qv 2)) (dB aA (dB (Aw (qv 1)) rG))))) ae) fJ))),?_⟩;dsimp only[cg];have ln:=hn.len;have ls:=gl tn;have e0:Str.empty.length=0:=rfl;have l1:(Str.ofString "no rule is there for ").length=21:=by decide
 have l2:(Str.ofString " at ").length=4:=by decide
 have hsz:sizeLine=16777216:=by decide
 have lk:(Str.ofString (toString k)).length<=18:=by rw[dh];exact(yk k0 (by lia)).2
 refine⟨_,rfl,f,_,3,_,rfl,rfl,b9.of hf,rfl,a,rfl,⟨_,b9.of ha⟩,fk (K:=K) (a:=a) (xs:=us) (λi σ H'=>H'=H/\(∃x3,σ=[some (.ref f),some (.int k),some (.str n),x3])/\∀j<i,es[j]?≠some (k,n)) ⟨rfl,⟨none,rfl⟩,(λj hj=>absurd hj (acn j))⟩ (λi σ H' _ ⟨e,_⟩=>by rw[e];exact b9.of ha) ?_ ?_⟩
 ·rintro i v σ H' hv ⟨rfl,⟨x3,rfl⟩,Gy⟩;obtain⟨⟨k',n'⟩,hm,p,t,rfl,hp⟩:=hn.get hv;have hp:H' p=some (.tup [.int k',.str n',t]):=hp;have step:¬(k'=k/\n'=n)->∀j<i+1,es[j]?≠some (k,n):=λh j hj=>by
   rcases Nat.lt_succ_iff_lt_or_eq.mp hj with hj|rfl
   ·exact Gy j hj
   ·intro z;rw[hm]at z;have:=aa0 z;exact h ⟨abk Prod.fst this,abk Prod.snd this⟩
  try dsimp only
  refine AU (λH2=>H2=H'/\k'=k/\n'=n) (λH2=>H2=H'/\¬(k'=k/\n'=n)) (λQ' qT qF=>?_) (λH2 ⟨e,e1,e2⟩=>?_) (λH2 ⟨e,EY⟩=>?_)
  ·refine⟨_,rfl,p,_,0,.int k',rfl,rfl,b9.of hp,rfl,_,rfl,rfl,_,rfl,cL (λh=>⟨_,rfl,p,_,1,.str n',rfl,rfl,b9.of hp,rfl,_,rfl,rfl,_,rfl,?_⟩) (λh=>qF _ ⟨rfl,λz=>h (by rw[z.1])⟩)⟩;by_cases h2:V.str n'=V.str n
   ·rw[abb h2];exact qT _ ⟨rfl,V.int.inj h,V.str.inj h2⟩
   ·rw[aaW h2];exact qF _ ⟨rfl,λz=>h2 (by rw[z.2])⟩
  ·subst e e1 e2;rcases JI with⟨i',p',t',h1,h2,h3,q⟩|⟨Nk,_⟩
   ·have:=yn nd h2 hm;subst this;rw[hv]at h1;cases h1;rw[hp]at h3;cases h3;exact⟨_,rfl,p,_,2,_,rfl,rfl,b9.of hp,rfl,q⟩
   ·exact absurd (aaD hm) Nk
  ·subst e;exact⟨rfl,⟨_,rfl⟩,step EY⟩
 ·rintro σ H' ⟨rfl,⟨x3,rfl⟩,Gy⟩;rcases JI with⟨i,p,t,h1,h2,_⟩|⟨_,q⟩
  ·exact absurd h2 (Gy i (ao h1))
  ·exact⟨_,rfl,by rw[bH,e0,l1];lia,_,rfl,.str _,.str _,by simp only[PyData.showable],by simp only[PyData.hasDict],by simp only[PyData.depth];decide,by lia,_,rfl,by rw[bH,bH,e0,l1];lia,_,rfl,by rw[bH,bH,bH,e0,l1,l2];lia,_,rfl,.inr ⟨k,rfl,qV k0 (by show k<(1000000000000000000:Int);lia),_,rfl,by rw[bH,bH,bH,bH,e0,l1,l2];lia,(by show 1<=10;decide),q⟩⟩
theorem vi(X:Tx K mg T):i6 P w K mg base A6 1 T.qA T.Qp ["term"] qR:=by
 refine X.WL.Dy BM (λvs H Q E h=>?_) (λm_ A outer s H vs Q E hr h=>?_)
 ·obtain⟨_,_,_,rfl,_⟩:=h;rfl
 obtain⟨B,t,v,rfl,sB,hB,q⟩:=h;have hv:=g9.same sB t hB;refine⟨_,(ag (bz (aE bS (aj ak (qv 0) af) aA (aS _)) (ai (aG (aj ak (qv 0) af))) aK) (ai (aG (aq ae)))),?_⟩;dsimp only[cg];cases t with
 |call w ts=>
  unfold g9 at hv hB;obtain⟨a,b,us,rfl,ha,hb,hn,hs⟩:=hv;obtain⟨a',b',Gu,e,ha',Ee,Nk,Lh⟩:=hB;cases e;have e1:=(sB _ _ ha').symm.trans ha;cases e1;have e2:=(sB _ _ Ee).symm.trans hb;cases e2;refine⟨_,rfl,a,_,0,_,rfl,rfl,b9.of ha,rfl,rfl,_,rfl,wP (by decide +kernel) ?_⟩;exact⟨_,rfl,a,_,2,_,rfl,rfl,b9.of ha,rfl,q b _ H (a_.refl H) hb hn Lh⟩
 |num n=>
  unfold g9 at hv;obtain⟨a,rfl,ha⟩:=hv;refine⟨_,rfl,a,_,0,_,rfl,rfl,b9.of ha,rfl,rfl,_,rfl,mY (by decide +kernel) ?_⟩;exact⟨Z0,λp hp=>q p [] _ (ac hp _) aa (by decide) (by show i7 _ [] [];unfold i7;rfl)⟩
 |text z=>
  unfold g9 at hv;obtain⟨a,rfl,ha⟩:=hv;refine⟨_,rfl,a,_,0,_,rfl,rfl,b9.of ha,rfl,rfl,_,rfl,mY (by decide +kernel) ?_⟩;exact⟨Z0,λp hp=>q p [] _ (ac hp _) aa (by decide) (by show i7 _ [] [];unfold i7;rfl)⟩
 |row=>
  unfold g9 at hv;obtain⟨a,rfl,ha⟩:=hv;refine⟨_,rfl,a,_,0,_,rfl,rfl,b9.of ha,rfl,rfl,_,rfl,mY (by decide +kernel) ?_⟩;exact⟨Z0,λp hp=>q p [] _ (ac hp _) aa (by decide) (by show i7 _ [] [];unfold i7;rfl)⟩
 |mark=>
  unfold g9 at hv;obtain⟨a,rfl,ha⟩:=hv;refine⟨_,rfl,a,_,0,_,rfl,rfl,b9.of ha,rfl,rfl,_,rfl,mY (by decide +kernel) ?_⟩;exact⟨Z0,λp hp=>q p [] _ (ac hp _) aa (by decide) (by show i7 _ [] [];unfold i7;rfl)⟩
 |val k z=>
  unfold g9 at hv;obtain⟨a,rfl,ha⟩:=hv;refine⟨_,rfl,a,_,0,_,rfl,rfl,b9.of ha,rfl,rfl,_,rfl,mY (by decide +kernel) ?_⟩;exact⟨Z0,λp hp=>q p [] _ (ac hp _) aa (by decide) (by show i7 _ [] [];unfold i7;rfl)⟩
theorem mM(X:Tx K mg T):∀n,i6 P w K mg base A6 (n+2) T.Zy T.Kb ["term"] (kM n)
 |0=>by
  refine X.HN.Dy Eu (λvs H Q E h=>?_) (λm_ A outer s H vs Q E hr h=>?_)
  ·obtain⟨_,_,rfl,_⟩:=h;rfl
  ·obtain⟨t,_,_,_,hd,_⟩:=h;have:=kj t;lia
 |n+1=>by
  have G_qA:=(vi (P:=P) (w:=w) (base:=base) X).mono (show 1<=n+2 by lia);have KL:=mM X n;refine X.HN.Dy Eu (λvs H Q E h=>?_) (λm_ A outer s H vs Q E hr h=>?_)
  ·obtain⟨_,_,rfl,_⟩:=h;rfl
  obtain⟨t,v,rfl,hv,hd,hpt,q⟩:=h;refine⟨_,(ag (bz (aE bS (aj ak (qv 0) af) aA (aS _)) (ai (aG (aR (u9 (aq (q_ (aj ak (qv 0) af) (q_ (aj ak (qv 0) af) ae))) ae)))) aK) (ag (au (i:=1) Eu.nd rfl oI1 (aR ae)) (ag (bh aa8 rfl (cr (aw G_qA hr rfl X.m_qA X.WL.kp X.b_qA .nil bg (b_ (qv 0) ae))) (ay (i:=2) Eu.nd rfl oI1) (ai (bh aa8 rfl (bA (aw KL hr rfl X.M1 X.HN.kp X.NN .nil bg (b_ (qv 2) ae))) (ay (i:=3) Eu.nd rfl oI1) (ai (bz (aE (gz hr.units) (qv 3) (qv 1) rfl) (ai (bK (eL aaL abo abn bo (qv 1) (b_ (qv 3) ae)))) aK))))) (ai (aG (qv 1)))))),?_⟩;dsimp only[cg];cases EB:yy t with
  |true=>
   cases t with
   |val k z=>
    unfold g9 at hv;obtain⟨a,rfl,ha⟩:=hv;refine⟨_,rfl,a,_,0,_,rfl,rfl,b9.of ha,rfl,rfl,_,rfl,wP (by decide +kernel) ?_⟩;refine⟨_,rfl,a,_,1,_,rfl,rfl,b9.of ha,rfl,_,rfl,a,_,2,_,rfl,rfl,b9.of ha,rfl,Z2,λp hp=>⟨Z1,λl hl=>?_⟩⟩;have s1:=ac hp (.tup [V.int k,V.str z]);have s2:=ac hl (.lst [V.ref p]);refine q l _ _ (s1.free hl) (s1.trans s2) aa ?_;rw[named];exact v8.one ⟨p,rfl,s2 _ _ aa⟩
   |_=>cases EB
  |false=>
   obtain⟨a,r,rfl,ha⟩:=yC hv;refine⟨_,rfl,a,_,0,_,rfl,rfl,b9.of ha,dY _ _,rfl,_,rfl,mY (zy EB) ?_⟩;refine⟨Z0,λf hf=>?_⟩;have s1:=ac hf (.lst []);refine⟨_,rfl,H,t,_,rfl,am s1,hv,λb xs H2 s2 hb hn hs=>⟨b,rfl,⟨_,b9.of hb⟩,?_⟩⟩;refine fk (K:=K) (a:=b) (xs:=xs) (λi σ H'=>∃ys x y,σ=[some (.ref a),some (.ref f),x,y]/\a_ H H'/\H' b=some (.tup xs)/\H' f=some (.lst ys)/\v8 H' (((inner t).take i).foldl (λa u=>DL a (named u)) []) ys)
    ⟨[],none,none,rfl,s1.trans s2,hb,s2 _ _ aa,rfl⟩ (by rintro i σ H' _ ⟨_,_,_,_,_,h,_⟩;exact b9.of h) ?_ ?_
   ·rintro i x σ H' hx ⟨ys,x0,y0,rfl,sm,Ee,B7,DJ⟩;obtain⟨u,hu,hux⟩:=hs.get hx;have GX:=aaD hu;have hdu:=gI GX;have Lk:=gu GX;refine⟨_,rfl,u,x,rfl,g9.same (am sm) u hux,by lia,by lia,λp zs H3 Tu s3 S5 Ii=>⟨p,rfl,⟨_,d9.of S5⟩,?_⟩⟩;have Iq:=ng t i;generalize UQ:((inner t).take i).foldl (λa u=>DL a (named u)) []=acc at DJ Iq;have hnl:=dG u;have hzl:=Ii.len;have hpf:p≠f:=λz=>by rw[z,B7]at Tu;cases Tu
    refine cE (K:=K) (a:=p) (xs:=zs) (λj σ H4=>∃ys y,σ=[some (.ref a),some (.ref f),some x,y]/\a_ H H4/\H4 b=some (.tup xs)/\H4 p=some (.lst zs)/\H4 f=some (.lst ys)/\j<=zs.length/\v8 H4 (DL acc ((named u).take j)) ys/\v8 H4 (named u) zs)
     ⟨ys,_,rfl,sm.trans s3,s3 _ _ Ee,S5,s3 _ _ B7,aa3 _,DJ.same (am s3),Ii⟩ (by rintro j σ H4 _ ⟨_,_,_,_,_,h,_⟩;exact d9.of h) ?_ ?_
    ·rintro j pv σ H4 hj ⟨MD,y4,rfl,Gv,Qd,Tt,Nq,Mf,GV,L9⟩;obtain⟨pr,IF,L_⟩:=L9.get hj;refine⟨_,rfl,_,rfl,f,MD,He pr,_,rfl,d9.of Nq,yx L_,sQ GV,abg (yS _) (by decide),_,rfl,?_⟩;have Ec:DL acc ((named u).take (j+1))=dv (DL acc ((named u).take j)) pr:=by
      rw[cV IF];unfold DL;rw[ad0];rfl
     have Uh:=ao hj;by_cases DT:pr∈DL acc ((named u).take j)
     ·refine mY (by rw[wb,abb DT];rfl) ?_;refine⟨MD,_,rfl,Gv,Qd,Tt,Nq,Uh,?_,L9⟩;rw[Ec];unfold dv;rw[aaY DT];exact GV
     ·refine wP (by rw[wb,aaW DT];rfl) ?_;have hlen:MD.length<sizeLine:=by
       have h1:=kH ((named u).take j) acc;have h2:=GV.len;rw[aaZ]at h1;exact bO (by lia)
      refine⟨_,rfl,.inl ⟨rfl,_,d9.of Nq⟩,_,rfl,f,MD,pv,rfl,rfl,Nq,hlen,?_⟩;have sT:=aJ (ys:=MD++[pv]) Nq;refine⟨MD++[pv],_,rfl,aL hf Gv,?_,?_,aa,Uh,?_,L9.same sT⟩
      ·rw[al (dZ Qd Nq (λz=>nomatch z))];exact Qd
      ·rw[al hpf];exact Tt
      ·rw[Ec];unfold dv;rw[aaR DT];exact(GV.same sT).app (v8.one (L_.same sT))
    ·rintro σ H4 ⟨MD,y4,rfl,Gv,Qd,Tt,Nq,Mf,GV,L9⟩;refine⟨MD,_,_,rfl,Gv,Qd,Nq,?_⟩;rw[cV hu,ad0,UQ];rw[aa2 (by lia)]at GV;exact GV
   ·rintro σ H' ⟨ys,x0,y0,rfl,sm,Ee,B7,DJ⟩;refine⟨_,rfl,q f ys H' hf sm B7 ?_⟩;rw[vB EB];rw[aa2 (by have:=hs.len;lia)]at DJ;exact DJ
theorem vc(X:Tx K mg T):∀n:Nat,i6 P w K mg base A6 (n+1) T.RX T.Gg ["tree"] (kL n):=by
 have step:∀(n:Nat)(sp:Sp),i6 P w K mg base A6 n T.RX T.Gg ["tree"] sp->(∀(t:Tr)(v:V)(H:Hp)(Q:VK)(E:XK),i3 H t v->nv t<=n->size t<=1000->(∀D us H',a_ H H'->H D=none->H' D=some (.lst us)->g_ (C_ H') (iL t) us->Q (.ref D) H')->sp [v] H Q E)->i6 P w K mg base A6 (n+1) T.RX T.Gg ["tree"] (kL n):=by
  intro n sp KI A5;refine X.K0.Dy Ff (λvs H Q E h=>?_) (λm_ A outer s H vs Q E hr h=>?_)
  ·obtain⟨_,_,rfl,_⟩:=h;rfl
  obtain⟨t,v,rfl,hv,hd,hz,q⟩:=h;refine⟨_,(ag (au (i:=1) Ff.nd rfl oI1 (aR (u9 (aq ae) ae))) (ag (bh aa8 rfl (As rfl X.z_enumerate (aj ak (qv 0) af)) (fA rfl (aW (ay (i:=2) Ff.nd rfl oJ1) (aW (ay (i:=3) Ff.nd rfl oI1) cH))) (ai (bK (eL aaL ael aek jP (qv 1) (MP (bG (ys:=["k"]) (js:=[2]) rfl rfl (bA (aw KI hr rfl X.MZ X.K0.kp X.NL .nil bg (b_ (qv 3) ae))) (λ_ _ _ _ _=>bE) (λ_ _ _ _ _=>(ar bZ (aq (b_ (qv 1) ae)) (qv 0)))) ae))))) (ai (aG (qv 1))))),?_⟩;dsimp only[cg];obtain⟨p,b,vs,rfl,hp,hb,Xk⟩:=hv.op;have QX:=Xk.len;have lbs:=Be hz;refine⟨Z0,λe he=>⟨Z1,λD hD=>?_⟩⟩;have s1:=ac he (.tup []);have s2:=ac hD (.lst [.ref e]);have Xu:=s2 _ _ (aa (H:=H) (a:=e) (o:=.tup []));have Dz:=aa (H:=upd H e (.tup [])) (a:=D) (o:=.lst [.ref e]);have C7:=s1.trans s2;have fD:H D=none:=s1.free hD;generalize upd (upd H e (.tup [])) D (.lst [.ref e])=H2 at Xu Dz C7⊢;refine⟨_,rfl,p,_,2,_,rfl,rfl,b9.of (C7 _ _ hp),rfl,b,vs,rfl,b9.of (C7 _ _ hb),AY (λi σ H'=>∃x2 x3 us,σ=[some (.ref p),some (.ref D),x2,x3]/\a_ H H'/\H' D=some (.lst us)/\g_ (C_ H') ([]::bL 1 (t.bs.take i)) us)
   ⟨none,none,_,rfl,C7,Dz,?_⟩ (by rintro i σ H' _ ⟨_,_,_,_,sm,_⟩;exact b9.of (sm _ _ hb)) ?_ ?_⟩
  ·rw[ac9,bL];exact .cons ⟨e,rfl,Xu⟩ .nil
  ·rintro i T' D6 σ H' hi ⟨x,hx,rfl⟩ ⟨x2,x3,us,rfl,sm,Ir,v_⟩ hT;obtain⟨u,hu,hui⟩:=Xk.get hx;have um:u∈t.bs:=aaD hu;have du:=tO um;have zu:=xD um;have s3:=ac hT (.tup [.int ((i:Int)+1),x]);refine⟨T',_,rfl,b9.of aa,rfl,_,_,rfl,_,_,rfl,rfl,?_⟩;have GB:=s3 _ _ Ir;refine⟨_,rfl,.inl ⟨rfl,_,d9.of GB⟩,_,rfl,A5 u x _ _ _ (i3.same (am (sm.trans s3)) u hui) (by lia) (by lia) λD2 Yt H4 s4 nD2 JR Te=>?_⟩;have lu4:=Te.len;have lp:(iL u).length=size u:=iK u;have Gv:=sm.trans (s3.trans s4);refine⟨D2,rfl,⟨_,d9.of JR⟩,λD3 QR=>?_⟩;refine gM (K:=K) (R:=λH q v=>C_ H (((i:Int)+1)::q) v) (as:=iL u) (EJ.ofT λ_ _ _ _ e r=>C_.same e r) (bO (by lia)) (by lia) (d9.of JR) QR (λj y q H5 hy hq s5 _ Q' k=>?_) (λys H5 s5 GA Ez=>?_)
   ·obtain⟨q',Lj,c,rfl,hc⟩:=Te.get hy;rw[hq]at Lj;cases Lj;have pl:=hX u (aaD hq);have dl:=cY u;refine⟨_,rfl,Z1,λt1 FW=>?_⟩;have s6:=ac FW (.tup [.int ((i:Int)+1)]);refine⟨_,rfl,t1,c,_,_,rfl,rfl,aa,s6 _ _ (s5 _ _ hc),cF (by rw[aaG];show 1+q.length<=100000;lia),λt2 H7 s7 h7=>k _ _ (s6.trans s7) ⟨t2,rfl,h7⟩⟩
   ·have hDf:=s5 _ _ (s4 _ _ GB);have Ei:=v_.len;have ly:=Ez.len;have lt:([]::bL 1 (t.bs.take i)).length<=1001:=by
     rw[aaM,gq];have a:=hW i t.bs;have:=gj t;lia
    refine⟨D,D3,_,_,rfl,rfl,hDf,GA,cF (by lia),_,_,us++ys,rfl,aL fD (Gv.trans s5),aa,?_⟩;have ee:([]::bL 1 (t.bs.take (i+1)))=([]::bL 1 (t.bs.take i))++(iL u).map ((1+(i:Int))::·):=by
     rw[aH hu,pB];have li:(t.bs.take i).length=i:=by rw[aaZ];have:=ao hu;lia
     rw[li];rfl
    rw[ee];have tD:=aJ (ys:=us++ys) hDf;refine(v_.imp λ_ _=>C_.same (((am (s3.trans (s4.trans s5)))).trans tD)).app ?_;have:∀{qs:List (List Int)}{zs:List V},g_ (λq v=>C_ H5 (((i:Int)+1)::q) v) qs zs->g_ (C_ (upd H5 D (.lst (us++ys)))) (qs.map ((1+(i:Int))::·)) zs:=by
     intro qs zs h;induction h with
     |nil=>exact .nil
     |cons h1 _ ih=>
      refine .cons ?_ ih;rw[Int.add_comm];exact C_.same tD h1
    exact this Ez
  ·rintro σ H' ⟨x2,x3,us,rfl,sm,Ir,v_⟩;rw[QX,abO]at v_;exact⟨_,rfl,q D us H' sm fD Ir (by rw[xP];exact v_)⟩
 intro n;induction n with
 |zero=>exact step 0 (λ_ _ _ _=>False) ⟨λ_ _ _ _ h=>h.elim,λ_ _ _ _ _ _ _ _ _ _ _ _ _ h=>h.elim⟩ (λt v H Q E _ hd _ _=>by have:=tN t;lia)
 |succ n ih=>exact step (n+1) _ ih λt v H Q E hv hd hz q=>⟨t,v,rfl,hv,hd,hz,q⟩
theorem AJ(X:Tx K mg T):i6 P w K mg base (GD P w) 1 T.ZN T.Kq ["tree", "path"] (Ct T.b8):=by
 refine X.K'.LW Fl (λvs H Q E h=>?_) (λm_ A outer s H vs Q E hr h=>?_)
 ·obtain⟨_,_,_,_,rfl,_⟩:=h;rfl
 obtain⟨t,v,q,a,rfl,hv,ha,qy,qn⟩:=h;refine⟨_,(ag (au (i:=2) Fl.nd rfl oI1 (qv 0)) (ag (bh ac1 rfl (cr (qv 1)) (ay (i:=3) Fl.nd rfl oI1) (ag (bz (dA (uI AG AG af (qv 3) (aB av rfl X.z_len aa6 (q_ (aj ak (qv 2) af) ae)))) (ai (fK rfl rfl X.m_NoPlace X.e_NoPlace (n_ aA ae) fJ)) aK) (ai (au (i:=2) Fl.nd rfl oI1 (aj ak (aj ak (qv 2) af) (ar dm (qv 3) af)))))) (ai (aG (qv 2))))),?_⟩;dsimp only[cg];refine⟨_,rfl,?_⟩;refine⟨_,rfl,a,rfl,⟨_,b9.of ha⟩,fk (K:=K) (a:=a) (xs:=q.map V.int) (λi σ H'=>H'=H/\∃u y x3,σ=[some v,some (.ref a),some y,x3]/\i3 H u y/\atT (q.take i) t=some u) ⟨rfl,t,v,none,rfl,hv,rfl⟩ (λi σ H' _ ⟨e,_⟩=>by rw[e];exact b9.of ha) ?_ ?_⟩
 ·rintro i y σ H' hy ⟨rfl,u,y',x3,rfl,hu,C8⟩;rw[aaK]at hy;obtain⟨k,hk,rfl⟩:=Option.map_eq_some_iff.mp hy;obtain⟨p,b,us,rfl,hp,hb,v_⟩:=hu.op;have Ei:=v_.len;have Gy:(k<1\/(u.bs.length:Int)<k)->E (.ref T.b8) none H':=λh=>qn (by
   have e:q=q.take i++k::q.drop (i+1):=by obtain⟨hi,e⟩:=List.getElem?_eq_some_iff.mp hk;rw[<-e,<-acC hi,ab0]
   rw[e];exact zc C8 h) _ (a_.refl _)
  refine⟨_,rfl,_,_,rfl,rfl,_,rfl,cL (λh1=>?_) (λh1=>?_)⟩
  ·refine⟨_,rfl,p,_,2,_,rfl,rfl,b9.of hp,rfl,b,us,rfl,.inr (b9.of hb),_,_,rfl,rfl,_,rfl,yv (λh2=>?_) (λh2=>?_)⟩
   ·exact⟨(by show 1<=10;decide),Gy (.inr (by lia))⟩
   ·have hkj:(k-1).toNat<us.length:=by lia
    obtain⟨z,hz⟩:=ax hkj;obtain⟨c,hc,hcz⟩:=v_.get hz;have ek:k-1=(((k-1).toNat:Nat):Int):=by lia
    refine⟨_,rfl,p,_,2,_,rfl,rfl,b9.of hp,rfl,_,rfl,_,_,rfl,rfl,b,us,_,z,rfl,rfl,b9.of hb,by rw[ek];exact aV hz,rfl,c,z,_,rfl,hcz,?_⟩;rw[aH hk,gP,C8];show atT [k] u=some c;unfold atT;rw[aaY h1,hc];rfl
  ·exact⟨_,rfl,wP rfl ⟨(by show 1<=10;decide),Gy (.inl (by lia))⟩⟩
 ·rintro σ H' ⟨rfl,u,y,x3,rfl,hu,C8⟩;rw[aaG,abO]at C8;exact⟨_,rfl,qy u y C8 hu⟩
variable{s:Sg}
def BI(h:p8 H s v):Bk H s.nm v:=by obtain⟨p,a,b,us,ws,e,hp,_⟩:=h;exact⟨p,_,e,hp⟩
def AZ{s:Fm}(h:r_ H s v):Bk H s.nm v:=by obtain⟨p,a,b,us,e,hp,_⟩:=h;exact⟨p,_,e,hp⟩
theorem g_.Jv{α β:Type}{R:α->V->Prop}{S:β->V->Prop}(f:α->β)(h:∀a v,R a v->S (f a) v):∀{as:List α}{vs:List V},g_ R as vs->g_ S (as.map f) vs
 |_,_,.nil=>.nil
 |_,_,.cons x y=>.cons (h _ _ x) (g_.Jv f h y)
theorem bw{α:Type}{R:α->V->Prop}:∀{as:List α}{vs:List V}{i:Nat}{a:α},g_ R as vs->as[i]?=some a->∃v,vs[i]?=some v/\R a v
 |_,_,i,a,.nil,h=>by simp at h
 |_,_,0,a,.cons h1 h2,h=>by
  simp at h;subst h;exact⟨_,rfl,h1⟩
 |_,_,i+1,a,.cons h1 h2,h=>by obtain⟨v,x,y⟩:=bw h2 (show _=some a by simpa using h);exact⟨v,by simpa using x,y⟩
def Kp(S:List Addr)(H H':Hp):Prop:=∀b o,b∉S->H b=some o->H' b=some o
def Kp.refl(S:List Addr)(H:Hp):Kp S H H:=λ_ _ _ h=>h
variable{S:List Addr}{H1 H2:Hp}
def Kp.trans(a:Kp S H H1)(b:Kp S H1 H2):Kp S H H2:=λc o n h=>b c o n (a c o n h)
def Kp.same(a:Kp S H H1)(b:a_ H1 H2):Kp S H H2:=λc o n h=>b c o (a c o n h)
theorem Kp.upd{S:List Addr}{H H1:Hp}{a:Addr}{o:HO}(h:Kp S H H1)(m:a∈S):Kp S H (upd H1 a o):=λc u n e=>by have ne:c≠a:=λz=>n (by rw[z];exact m);rw[al ne];exact h c u n e
variable{H':Hp}
def Kp.of(s:a_ H H'):Kp S H H':=λc o _ h=>s c o h
def Kp.mono{S':List Addr}(h:Kp S H H')(m:∀a∈S,a∈S'):Kp S' H H':=λc o n e=>h c o (λz=>n (m c z)) e
def Kp.My(h:Kp S H H')(m:∀a∈S,∃xs,H a=some (.lst xs)):d_ H H':=λb xs e=>h b _ (λz=>by
 obtain⟨ys,q⟩:=m b z;rw[q]at e;cases e) e
theorem Kp.free(h:Kp S H H')(hn:H' a=none)(m:a∉S):H a=none:=by
 cases e:H a with
 |none=>rfl
 |some o=>rw[h a o m e]at hn;cases hn
theorem bY{l:List α}(h:0<l.length):∃a x,l=a++[x]:=by
 cases e:l.reverse with
 |nil=>rw[List.reverse_eq_nil_iff.mp e]at h;exact absurd h (by simp)
 |cons x r=>exact⟨r.reverse,x,by rw[<-adB l,e,acQ]⟩
variable{z:Str}
theorem vv(h:wd z):qd z:=by obtain⟨_,h2,h3⟩:=h;refine⟨by rw[dh];lia,λx hx=>?_⟩;have:=h3 x hx;unfold sE at this;rw[abI,abJ,abJ]at this;lia
structure Wh(g:Gr):Prop where
 sw:∀s∈g.sg,wd s.nm/\∀n∈db s,wd n
 fw:∀f∈g.fm,wd f.nm
 tw:∀f∈g.fm,∀r∈f.ru,depth r.tm<=12/\bn r.tm<=1000
structure GT(g:Gr)(t:Tr):Prop where
 G:EK g
 W:Wh g
 ft:∃s,fit (n9 g) t=some s
 sz:size t<=60
def j_(H:Hp)(sp:aP)(v:V):Prop:=∃a b,v=.ref a/\H a=some (.tup [.ref b,.str sp.2])/\H b=some (.tup (sp.1.map V.int))
variable{sp:aP}
def j_.same(e:d_ H H')(h:j_ H sp v):j_ H' sp v:=by obtain⟨a,b,x,y,z⟩:=h;exact⟨a,b,x,e _ _ y,e _ _ z⟩
def CV{b:Bool}{c:Prop}[Decidable c](e:b=decide c)(h1:c->A)(h2:¬c->B):if b=true then A else B:=by subst e;exact cL h1 h2
def Cb{b:Bool}{c:Prop}[Decidable c](e:b=decide c)(h1:¬c->A)(h2:c->B):if(!b)=true then A else B:=by subst e;exact yv h1 h2
abbrev LZ(p:Str×Str):Key×V:=(.inr p.1,.str p.2)
theorem kT{H:Hp}:∀{ps:List (Str×Str)}{us:List V},g_ (w6 H) ps us->Hg H us (ps.map LZ)
 |_,_,.nil=>.nil
 |_,_,.cons ⟨a,e,h⟩ r=>.cons ⟨a,e,h⟩ (kT r)
def nk(ps:List (Str×Str))(n:Str):(eH (bC [] (ps.map LZ)) (.inr n)).isSome=decide (n∈ps.map Prod.fst):=by
 have h:=jQ (ps.map LZ) [] (.inr n);have e:(Sum.inr n:Key)∈(ps.map LZ).map Prod.fst↔n∈ps.map Prod.fst:=by
  rw[acB];constructor
  ·intro h;obtain⟨p,hp,e⟩:=List.mem_map.mp h;exact List.mem_map.mpr ⟨p,hp,Sum.inr.inj e⟩
  ·intro h;obtain⟨p,hp,rfl⟩:=List.mem_map.mp h;exact List.mem_map.mpr ⟨p,hp,rfl⟩
 rw[e]at h;by_cases hn:n∈ps.map Prod.fst
 ·rw[abb hn];exact h.mpr (.inr hn)
 ·rw[aaW hn];cases hb:(eH (bC [] (ps.map LZ)) (.inr n)).isSome with
  |false=>rfl
  |true=>
   rcases h.mp hb with z|z
   ·cases z
   ·exact absurd z hn
def BO{r:Ru}(h:o_ H r v):CJ H (o4 r) v:=by obtain⟨p,u,e,hp,_⟩:=h;exact⟨p,u,e,hp⟩
inductive mj(N:Addr)(vs:List V)(H:Hp)(Q:VK)(E:XK):Prop
 |mk (g:Gr) (t:Tr) (vg vt:V) (a:Addr) (p:List Int):(vs=[vg,vt,.ref a])->o7 H g vg->GT g t->i3 H t vt->H a=some (.tup (p.map V.int))->(∀u v,atT p t=some u->p8 H (sgn g u) v->Q v H)->(atT p t=none->∀H',a_ H H'->E (.ref N) none H')->mj N vs H Q E
inductive qJ(vs:List V)(H:Hp)(Q:VK)(e0:XK):Prop
 |mk (g:Gr) (t:Tr) (vg vt:V):(vs=[vg,vt])->o7 H g vg->GT g t->i3 H t vt->(∀D us H',a_ H H'->H D=none->H' D=some (.lst us)->g_ (j_ H') (aM g t) us->Q (.ref D) H')->qJ vs H Q e0
inductive qL(vs:List V)(H:Hp)(Q:VK)(e0:XK):Prop
 |mk (g:Gr) (t u:Tr) (r:Ru) (vg vt:V) (a:Addr) (p:List Int) (k:Int) (n:Str):(vs=[vg,vt,.ref a,.int k,.str n])->o7 H g vg->GT g t->i3 H t vt->H a=some (.tup (p.map V.int))->atT p t=some u->r∈(Ds g u.nm).ru->o4 r=(k,n)->qd n->(∀x y H',a_ H H'->H' x=some (.tup [.ref a,.int u.mk',y])->g9 H' r.tm y->Q (.ref x) H')->qL vs H Q e0
inductive mr(vs:List V)(H:Hp)(Q:VK)(e0:XK):Prop
 |mk (a:Addr) (p:List Int) (q:Pr) (v:V):(vs=[.ref a,v])->H a=some (.tup (p.map V.int))->HL H q v->p.length<=1000->(∀y H',a_ H H'->j_ H' (bM p q) y->Q y H')->mr vs H Q e0
inductive mq(N:Addr)(vs:List V)(H:Hp)(Q:VK)(E:XK):Prop
 |mk (g:Gr) (t:Tr) (vg vt v:V) (sp:aP):(vs=[vg,vt,v])->o7 H g vg->GT g t->i3 H t vt->j_ H sp v->qd sp.2->sp.1.length<=1000->(∀(q:List Int)(r:Ru)(x b:Addr)(m:Int)(y:V) H',sp∈aM g t->aX g t sp=zj q r.tm->depth r.tm<=12->bn r.tm<=1000->q.length<=1000->a_ H H'->H' x=some (.tup [.ref b,.int m,y])->H' b=some (.tup (q.map V.int))->g9 H' r.tm y->Q (.ref x) H')->(sp∈aM g t->aX g t sp=[]->∀H',a_ H H'->Q .q8 H')->(sp∉aM g t->∀H',a_ H H'->E (.ref N) none H')->mq N vs H Q E
inductive qN(N:Addr)(vs:List V)(H:Hp)(Q:VK)(E:XK):Prop
 |mk (g:Gr) (t:Tr) (vg vt v:V) (sp:aP):(vs=[vg,vt,v])->o7 H g vg->GT g t->i3 H t vt->j_ H sp v->qd sp.2->sp.1.length<=1000->(sp∈aM g t->∀D us H',a_ H H'->H D=none->H' D=some (.lst us)->g_ (j_ H') (aX g t sp) us->Q (.ref D) H')->(sp∉aM g t->∀H',a_ H H'->E (.ref N) none H')->qN N vs H Q E
theorem iX{H:Hp}:∀{ps:List Pr}{vs:List V},v8 H ps vs->g_ (HL H) ps vs
 |[],vs,h=>by
  have:vs=[]:=h;subst this;exact .nil
 |p::ps,vs,h=>by obtain⟨v,r,rfl,h1,h2⟩:=h;exact .cons h1 (iX h2)
theorem g_.mapM{α β:Type}{R:β->V->Prop}(f:α->β):∀{as:List α}{vs:List V},g_ (λa v=>R (f a) v) as vs->g_ R (as.map f) vs
 |_,_,.nil=>.nil
 |_,_,.cons x y=>.cons x (g_.mapM f y)
theorem ym{t:Tr}{p:List Int}(h:(iL t)[i]?=some p):∃u,(A9 [] t)[i]?=some (p,u)/\atT p t=some u:=by
 rw[<-sq,aaK]at h;cases e:(A9 [] t)[i]? with
 |none=>rw[e]at h;cases h
 |some x=>
  obtain⟨q,u⟩:=x;rw[e]at h;cases h;exact⟨u,rfl,u_.mp (aaD e)⟩
def jJ(X:Tx K mg T):i6 P w K mg base (GD P w) 3 T.ZD T.Kf ["grammar", "tree", "path"] (mj T.b8):=by
 have WC:=pF (P:=P) (w:=w) (base:=base) X;have KQ:=ii (P:=P) (w:=w) (base:=base) X;have KS:=(AJ (P:=P) (w:=w) (base:=base) X).mono (show 1<=2 by decide);refine X.K7.LW zW (λvs H Q E h=>?_) (λm_ A outer s H vs Q E hr h=>?_)
 ·obtain⟨_,_,_,_,_,_,rfl,_⟩:=h;rfl
 obtain⟨g,t,vg,vt,a,p,rfl,hg,gt,ht,ha,qy,qn⟩:=h;refine⟨_,(ai (aG (aw WC hr rfl X.SA X.Oy.kp X.V1 .nil cy (b_ (qv 0) (q_ (aj ak (aw KQ hr rfl X.M7 X.K9.kp X.NS .nil cy (b_ (qv 0) (q_ (aj ak (aw KS hr rfl X.M9 X.K'.kp X.NU .nil cy (b_ (qv 1) (b_ (qv 2) ae))) af) ae))) af) ae))))),?_⟩;dsimp only[cg];obtain⟨gp,ga,gb,gus,gws,rfl,FY,hga,Ie,hgb,Uq⟩:=hg;refine⟨_,rfl,_,rfl,_,rfl,_,rfl,t,vt,p,a,rfl,ht,ha,λu y C8 hu=>?_,λhn H' s'=>qn hn H' s'⟩;obtain⟨s,hs⟩:=gt.ft;obtain⟨fm,fn,_⟩:=bT gt.G hs C8;obtain⟨sm,sn⟩:=cG gt.G hs C8;obtain⟨pu,bu,Yr,rfl,Lk,_,_⟩:=hu.op;obtain⟨i,hi⟩:=abm fm;obtain⟨vf,Jz,fis⟩:=bw Uq hi;obtain⟨fp,fa,fb,D4,rfl,En,_,_,_⟩:=fis;obtain⟨j,hj⟩:=abm sm;obtain⟨D6,Xk,RR⟩:=bw Ie hj;refine⟨pu,_,0,_,rfl,rfl,b9.of Lk,rfl,gp,gb,_,g.fm.map Fm.nm,gws,u.nm,rfl,FY,hgb,g_.Jv Fm.nm (λ_ _ h=>AZ h) Uq,by rw[<-fn];exact vv (gt.W.fw _ fm),gt.G.fn,.inl ⟨i,_,Jz,by rw[aaK,hi];show some (Ds g u.nm).nm=_;rw[fn],?_⟩⟩;exact⟨fp,_,1,_,rfl,rfl,b9.of En,rfl,gp,ga,_,g.sg.map Sg.nm,gus,_,rfl,FY,hga,g_.Jv Sg.nm (λ_ _ h=>BI h) Ie,by rw[<-sn];exact vv (gt.W.sw _ sm).1,gt.G.sn,.inl ⟨j,_,Xk,by rw[aaK,hj,<-sn];rfl,qy u _ C8 RR⟩⟩
theorem uX(X:Tx K mg T):i6 P w K mg base A6 70 T.Zr T.J6 ["grammar", "tree"] qJ:=by
 have KI:=(vc (P:=P) (w:=w) (base:=base) X 60).mono (show 61<=69 by decide);have KO:=(jJ (P:=P) (w:=w) (base:=base) X).mono (show 3<=69 by decide);refine X.Og.Dy Fe (λvs H Q E h=>?_) (λm_ A outer s H vs Q E hr h=>?_)
 ·obtain⟨_,_,_,_,rfl,_⟩:=h;rfl
 obtain⟨g,t,vg,vt,rfl,hg,gt,ht,q⟩:=h;refine⟨_,(ag (au (i:=2) Fe.nd rfl oI1 (aR ae)) (ag (bh aa8 rfl (bA (aw KI hr rfl X.MZ X.K0.kp X.NL .nil bg (b_ (qv 1) ae))) (ay (i:=3) Fe.nd rfl oJ1) (ag (au (i:=4) Fe.nd rfl oI1 (aw KO hr rfl X.M4 X.K7.kp X.NP .nil wI (b_ (qv 0) (b_ (qv 1) (b_ (qv 3) ae))))) (ai (bK (eL aaL ael aek jP (qv 2) (MP (iJ (ts:=["name", "kind"]) (ys:=["path"]) (js:=[3]) rfl rfl (cr (ar bZ (aj ak (qv 4) af) (aj ak (qv 4) af))) (λ_ _ _ _ _=>kP (K:=K) (n:=2) rfl rfl (aW (ay (i:=0) (show(["name", "kind", "path"]:List Str).Nodup by decide) rfl oI1) (aW (ay (i:=1) (show(["name", "kind", "path"]:List Str).Nodup by decide) rfl oI1) cH))) (λ_ _ _ _ _=>bE) (λ_ _ _ _ _=>(aq (b_ (qv 2) (b_ (qv 0) ae))))) ae)))))) (ai (aG (qv 2))))),?_⟩;dsimp only[cg];have sz:=gt.sz;have dz:=cY t;obtain⟨s0,hs⟩:=gt.ft;refine⟨Z0,λD nD=>?_⟩;have s1:=ac nD (.lst []);refine⟨_,rfl,t,vt,rfl,i3.same (am s1) t ht,by lia,by lia,λL us H2 s2 nL hL v_=>?_⟩;have Dz:=s2 _ _ (aa (H:=H) (a:=D) (o:=.lst []));have nLD:L≠D:=λe=>by rw[e,aa]at nL;cases nL
 have C7:=s1.trans s2;have Ei:=v_.len;rw[iK]at Ei;refine⟨L,rfl,⟨_,d9.of hL⟩,cE (K:=K) (a:=L) (xs:=us) (λi σ H'=>∃x3 x4 ws,σ=[some vg,some vt,some (.ref D),x3,x4]/\Kp [D] H2 H'/\H' D=some (.lst ws)/\g_ (j_ H') (bI g ((A9 [] t).take i)) ws)
  ⟨none,none,[],rfl,Kp.refl _ _,Dz,.nil⟩ (by rintro i σ H' _ ⟨_,_,_,_,kp,_⟩;exact d9.of (kp _ _ (by simpa using nLD) hL)) ?_ ?_⟩
 ·rintro i v σ H' hv ⟨x3,x4,ws,rfl,kp,Iu,EA⟩;have T1:d_ H2 H':=kp.My λx hx=>⟨[],by rw[List.mem_singleton.mp hx];exact Dz⟩
  have TH:=(am C7).trans T1;obtain⟨p,hp,c,rfl,hc⟩:=v_.get hv;obtain⟨u,Nj,C8⟩:=ym hp;refine⟨_,rfl,_,rfl,_,rfl,g,t,vg,vt,c,p,rfl,o7.same TH hg,gt,i3.same TH t ht,T1 _ _ hc,λu' v' JQ RR=>?_,λhn=>by rw[C8]at hn;cases hn⟩;rw[C8]at JQ;cases JQ;obtain⟨sm,_⟩:=cG gt.G hs C8;have vl:=gt.G.vl _ sm;obtain⟨ps,da,ua,IP,IA,rfl,DJ,Mm,Gz,Pt,Hu⟩:=RR;have ld:=Gz.len;have lu:=Hu.len;refine⟨_,rfl,.inl ⟨rfl,_,d9.of Iu⟩,_,rfl,ps,_,1,_,rfl,rfl,b9.of DJ,rfl,_,rfl,ps,_,2,_,rfl,rfl,b9.of DJ,rfl,da,ua,IP,IA,rfl,rfl,Mm,Pt,cF (by lia),λtt H3 s3 Nf=>⟨tt,rfl,⟨_,b9.of Nf⟩,λD3 QR=>?_⟩⟩;have EU:g_ (w6 H3) ((sgn g u).dn++(sgn g u).up) (IP++IA):=(Gz.imp λ_ _ h=>w6.same (am s3) h).app (Hu.imp λ_ _ h=>w6.same (am s3) h);have HZ:=EU.len;have UM:=s3 _ _ (T1 _ _ hc);refine iu (K:=K) (R:=λH (x:Str×Str) v=>j_ H (p,x.1) v) (as:=(sgn g u).dn++(sgn g u).up) (EJ.ofT λ_ _ _ _ e h=>j_.same e h) (bO (by rw[HZ,aaF];lia)) HZ.symm (b9.of Nf) QR (λj x b H4 hx hb s4 Q' k=>?_) (λys H4 s4 JR Ez=>?_)
  ·obtain⟨b',Ee,c',rfl,FI⟩:=EU.get hx;rw[hb]at Ee;cases Ee;refine⟨c',_,rfl,b9.of (s4 _ _ FI),rfl,_,_,rfl,_,_,rfl,rfl,[some (.str b.1),some (.str b.2)],rfl,rfl,?_⟩;refine⟨_,rfl,_,rfl,Z2,λy ny=>?_⟩;have s5:=ac ny (.tup [.ref c,.str b.1]);exact k _ _ s5 ⟨y,c,rfl,aa,s5 _ _ (s4 _ _ UM)⟩
  ·have Le:=s3.trans s4;have ly:=Ez.len;have lw:=EA.len;have lt4:(bI g ((A9 [] t).take i)).length<=4*size t:=by
    have:=dP gt.G (xs:=(A9 [] t).take i) λx hx=>(cG gt.G hs (u_.mp (show(x.1,x.2)∈A9 [] t from acx hx))).1;have l2:=dF t (p:=[]);rw[aaZ]at this;lia
   have GA:=Le _ _ Iu;have nDD:D3≠D:=bq (s3 _ _ Iu) QR;refine⟨D,D3,ws,ys,rfl,rfl,GA,JR,cF (by rw[aaF]at ly;lia),_,_,ws++ys,rfl,(kp.same Le).upd (by simp),aa,?_⟩;have tD:=aJ (ys:=ws++ys) GA;rw[aH Nj,eX,eW];refine(EA.imp λ_ _ h=>j_.same ((am Le).trans tD) h).app ?_;have e:(db (sgn g u)).map (λn=>(p,n))=((sgn g u).dn++(sgn g u).up).map λx=>(p,x.1):=by unfold db;rw[acB];rfl
   show g_ _ ((db (sgn g u)).map λn=>(p,n)) ys;rw[e];exact g_.mapM (R:=j_ _) (λ(x:Str×Str)=>(p,x.1)) (Ez.imp λ_ _ h=>j_.same tD h)
 ·rintro σ H' ⟨x3,x4,ws,rfl,kp,Iu,EA⟩;rw[Ei,<-dF t (p:=[]),abO]at EA;refine⟨_,rfl,q D ws H' (λb o hb=>kp _ _ (by simpa using aI hb nD) (C7 _ _ hb)) nD Iu EA⟩
theorem rY(X:Tx K mg T):i6 P w K mg base A6 1 T.ZO T.Kr ["path", "pair"] mr:=by
 refine X.OA.Dy Aa (λvs H Q E h=>?_) (λm_ A outer s H vs Q E hr h=>?_)
 ·obtain⟨_,_,_,_,rfl,_⟩:=h;rfl
 obtain⟨a,p,q,v,rfl,ha,⟨c,rfl,hc⟩,lp,k⟩:=h;refine⟨_,(ai (aG (aq (qaI (uN (aE bS (aj ak (qv 1) af) af (aS _)) (qv 0) (ar bZ (qv 0) (aq (q_ (aj ak (qv 1) af) ae)))) (q_ (aj ak (qv 1) af) ae))))),?_⟩;dsimp only[cg];refine⟨_,rfl,c,_,0,.int q.1,rfl,rfl,b9.of hc,rfl,rfl,_,rfl,cL (λh=>?_) (λh=>?_)⟩
 ·have h0:q.1=0:=V.int.inj h;refine⟨_,rfl,_,rfl,c,_,1,.str q.2,rfl,rfl,b9.of hc,rfl,Z2,λx nx=>?_⟩;have s1:=ac nx (.tup [.ref a,.str q.2]);refine k _ _ s1 ⟨x,a,rfl,aa,?_⟩;unfold bM;rw[aaY h0];exact s1 _ _ ha
 ·have h0:¬q.1=0:=λz=>h (by rw[z]);refine⟨_,rfl,_,rfl,c,_,0,.int q.1,rfl,rfl,b9.of hc,rfl,Z1,λx nx=>?_⟩;have s1:=ac nx (.tup [.int q.1]);refine⟨a,x,_,_,rfl,rfl,s1 _ _ ha,aa,cF (by rw[aaG];show p.length+1<=100000;lia),λy H2 s2 hy=>?_⟩;have C7:=s1.trans s2;refine⟨_,rfl,c,_,1,.str q.2,rfl,rfl,b9.of (C7 _ _ hc),rfl,Z2,λz nz=>?_⟩;have s3:=ac nz (.tup [.ref y,.str q.2]);refine k _ _ (C7.trans s3) ⟨z,y,rfl,aa,?_⟩;unfold bM;rw[aaR h0];show _=some (HO.tup ((p++[q.1]).map V.int));rw[aaX];exact s3 _ _ hy
theorem uZ(X:Tx K mg T):i6 P w K mg base (GD P w) 3 T.ZK T.Km ["grammar", "tree", "path", "k", "name"] qL:=by
 have KQ:=ii (P:=P) (w:=w) (base:=base) X;have KS:=(AJ (P:=P) (w:=w) (base:=base) X).mono (show 1<=2 by decide);have Ww:=(rW (P:=P) (w:=w) (base:=base) X).mono (show 1<=2 by decide);refine X.K_.LW Jh (λvs H Q E h=>?_) (λm_ A outer s H vs Q E hr h=>?_)
 ·obtain⟨_,_,_,_,_,_,_,_,_,_,rfl,_⟩:=h;rfl
 obtain⟨g,t,u,r,vg,vt,a,p,k,n,rfl,hg,gt,ht,ha,C8,y_,Me,tn,q⟩:=h;refine⟨_,(ag (au (i:=5) Jh.nd rfl oI1 (aw KS hr rfl X.M9 X.K'.kp X.NU .nil cy (b_ (qv 1) (b_ (qv 2) ae)))) (ai (aG (aq (b_ (qv 2) (q_ (aj ak (qv 5) af) (Dw (aw Ww hr rfl X.Su X.Oq.kp X.VU .nil cy (Dw (aw KQ hr rfl X.M7 X.K9.kp X.NS .nil cy (b_ (qv 0) (q_ (aj ak (qv 5) af) ae))) (b_ (qv 3) (b_ (qv 4) ae)))) ae))))))),?_⟩;dsimp only[cg];obtain⟨gp,ga,gb,gus,gws,rfl,FY,hga,Ie,hgb,Uq⟩:=hg;obtain⟨s,hs⟩:=gt.ft;obtain⟨fm,fn,_⟩:=bT gt.G hs C8;refine⟨_,rfl,_,rfl,t,vt,p,a,rfl,ht,ha,λu' y JQ hu=>?_,λhn=>by rw[C8]at hn;cases hn⟩;rw[C8]at JQ;cases JQ;obtain⟨pu,bu,Yr,rfl,Lk,_,_⟩:=hu.op;obtain⟨i,hi⟩:=abm fm;obtain⟨vf,Jz,fis⟩:=bw Uq hi;obtain⟨fp,fa,fb,D4,rfl,En,E3,P6,Nh⟩:=fis;obtain⟨j,hj⟩:=abm y_;obtain⟨vr,Pp,ris⟩:=bw Nh hj;obtain⟨pr,tv,rfl,IF,Ti⟩:=ris;have e1:r.k=k:=abk Prod.fst Me;have e2:r.nm=n:=abk Prod.snd Me;subst e1 e2;have kb:0<=r.k/\r.k<=1000:=by
  rcases(gt.G.rd _ fm r.k r.nm).mp (List.mem_map.mpr ⟨r,y_,rfl⟩)with⟨e,_⟩|⟨i',b',Ee,e,_⟩
  ·lia
  ·have:=ao Ee;have:=(gt.G.br _ fm).1;lia
 refine⟨_,rfl,_,rfl,pu,_,1,_,rfl,rfl,b9.of Lk,rfl,_,rfl,_,rfl,pu,_,0,_,rfl,rfl,b9.of Lk,rfl,gp,gb,_,g.fm.map Fm.nm,gws,u.nm,rfl,FY,hgb,g_.Jv Fm.nm (λ_ _ h=>AZ h) Uq,by rw[<-fn];exact vv (gt.W.fw _ fm),gt.G.fn,.inl ⟨i,_,Jz,by rw[aaK,hi];show some (Ds g u.nm).nm=_;rw[fn],?_⟩⟩;refine⟨_,rfl,_,rfl,fp,fb,_,_,_,(Ds g u.nm).ru.map o4,D4,r.k,r.nm,rfl,En,P6,g_.Jv o4 (λ_ _ h=>BO h) Nh,tn,kb.1,kb.2,gt.G.rn _ fm,.inl ⟨j,pr,tv,Pp,by rw[aaK,hj];rfl,IF,Z3,λx nx=>?_⟩⟩;have s1:=ac nx (.tup [.ref a,.int u.mk',tv]);exact q x tv _ s1 aa (g9.same (am s1) _ Ti)
theorem rX(X:Tx K mg T):i6 P w K mg base (GD P w) 4 T.ZC T.Ke ["grammar", "tree", "spot"] (mq T.b8):=by
 have KO:=jJ (P:=P) (w:=w) (base:=base) X;have Oa:=uZ (P:=P) (w:=w) (base:=base) X;refine X.Ot.LW Fg (λvs H Q E h=>?_) (λm_ A outer s H vs Q E hr h=>?_)
 ·obtain⟨_,_,_,_,_,_,rfl,_⟩:=h;rfl
 obtain⟨g,t,vg,vt,v,⟨p,n⟩,rfl,hg,gt,ht,⟨a,b,rfl,ha,hb⟩,tn,lp,qy,qr,qn⟩:=h;have ha:H a=some (.tup [.ref b,.str n]):=ha;have hb:H b=some (.tup (p.map V.int)):=hb;have tn:qd n:=tn;have lp:p.length<=1000:=lp;refine⟨_,(ag (au (i:=3) Fg.nd rfl oI1 (aj ak (qv 2) af)) (ag (au (i:=4) Fg.nd rfl oI1 (aj ak (qv 2) af)) (ag (au (i:=5) Fg.nd rfl oI1 (aw KO hr rfl X.M4 X.K7.kp X.NP .nil cy (b_ (qv 0) (b_ (qv 1) (b_ (qv 3) ae))))) (ag (bz (aE (AH (vF hr)) (qv 4) (bf (ix rfl) rfl X.z_dict adq (q_ (aj ak (qv 5) af) ae)) rfl) (ai (aG (aw Oa hr rfl X.M8 X.K_.kp X.NT .nil cy (b_ (qv 0) (b_ (qv 1) (b_ (qv 3) (n_ af (b_ (qv 4) ae)))))))) aK) (ag (bz (aE (rQ (vF hr)) (qv 4) (bf (ix rfl) rfl X.z_dict adq (q_ (aj ak (qv 5) af) ae)) rfl) (ai (fK rfl rfl X.m_NoPlace X.e_NoPlace (Zh (kQ (dB aA (dB (rH hr (qv 4)) rG))) ae) fJ)) aK) (ag (bz (aE bS (aB av rfl X.z_len aa6 (b_ (qv 3) ae)) af (aS _)) (ai (aG Av)) aK) (ai (aG (aw Oa hr rfl X.M8 X.K_.kp X.NT .nil cy (b_ (qv 0) (b_ (qv 1) (q_ (bQ eY (qv 3) cx (cw (xM qo af))) (q_ (aj ak (qv 3) (xM qo af)) (b_ (qv 4) ae)))))))))))))),?_⟩;dsimp only[cg];obtain⟨s0,hs⟩:=gt.ft;refine⟨_,rfl,a,_,0,_,rfl,rfl,b9.of ha,rfl,?_⟩;refine⟨_,rfl,a,_,1,_,rfl,rfl,b9.of ha,rfl,?_⟩;refine⟨_,rfl,_,rfl,_,rfl,g,t,vg,vt,b,p,rfl,hg,gt,ht,hb,λu v C8 RR=>?_,λhn H' s'=>qn (λhm=>by
  obtain⟨u,hu,_⟩:=p6.mp hm;have hu:atT p t=some u:=hu;rw[hn]at hu;cases hu) H' s'⟩
 obtain⟨fm,fn,_⟩:=bT gt.G hs C8;obtain⟨sm,_⟩:=cG gt.G hs C8;have vl:=gt.G.vl _ sm;obtain⟨ps,da,ua,IP,IA,rfl,DJ,Mm,Gz,Pt,Hu⟩:=RR;have ld:=Gz.len;have lu:=Hu.len;have inS:n∈db (sgn g u)->(p,n)∈aM g t:=λh=>p6.mpr ⟨u,C8,h⟩;refine⟨_,rfl,_,rfl,ps,_,2,_,rfl,rfl,b9.of DJ,rfl,ua,IA,_,rfl,Pt,by lia,kT Hu,λd nd=>?_⟩;have s1:=ac nd (.dK (bC [] ((sgn g u).up.map LZ)));refine⟨d,_,.inr n,rfl,rfl,aa,_,rfl,CV (nk _ n) (λhU=>?_) (λhU=>?_)⟩
 ·obtain⟨r,y_,ek⟩:=List.mem_map.mp ((gt.G.rd _ fm 0 n).mpr (.inl ⟨rfl,hU⟩));have tw:=gt.W.tw _ fm r y_;have T1:=am s1;refine⟨_,rfl,_,rfl,_,rfl,_,rfl,g,t,u,r,vg,vt,b,p,0,n,rfl,o7.same T1 hg,gt,i3.same T1 t ht,s1 _ _ hb,C8,y_,ek,tn,λx y H' s' hx hy=>?_⟩;refine qy p r x b _ y H' (inS (by rw[eu];exact aaV _ hU)) ?_ tw.1 tw.2 lp (s1.trans s') hx ((s1.trans s') _ _ hb) hy;have e1:r.k=0:=abk Prod.fst ek;have e2:r.nm=n:=abk Prod.snd ek;rw[mP C8 hU,<-qz (gt.G.rn _ fm) y_,e1,e2]
 ·generalize upd H d (.dK (bC [] ((sgn g u).up.map LZ)))=H1 at s1⊢;refine⟨_,rfl,_,rfl,ps,_,1,_,rfl,rfl,b9.of (s1 _ _ DJ),rfl,da,IP,_,rfl,s1 _ _ Mm,by lia,kT (Gz.imp λ_ _ h=>w6.same (am s1) h),λd2 nd2=>?_⟩;have s2:=ac nd2 (.dK (bC [] ((sgn g u).dn.map LZ)));have C7:=s1.trans s2;refine⟨d2,_,.inr n,rfl,rfl,aa,_,rfl,Cb (nk _ n) (λhD=>?_) (λhD=>?_)⟩
  ·have ls:=gl tn;have e0:Str.empty.length=0:=rfl;have l1:(Str.ofString "the node has no value ").length=22:=by decide
   have hsz:sizeLine=16777216:=by decide
   refine⟨_,rfl,by rw[bH,e0,l1];lia,_,rfl,.str _,.str _,by simp only[PyData.showable],by simp only[PyData.hasDict],by simp only[PyData.depth];decide,by lia,_,rfl,by rw[bH,bH,e0,l1];lia,(by show 1<=10;decide),qn (λhm=>?_) _ C7⟩;obtain⟨u',Ib,hn⟩:=p6.mp hm;have Ib:atT p t=some u':=Ib;rw[C8]at Ib;cases Ib;have hn:n∈db (sgn g u):=hn;rw[eu]at hn;rcases List.mem_append.mp hn with h|h
   ·exact hD h
   ·exact hU h
  ·generalize upd H1 d2 (.dK (bC [] ((sgn g u).dn.map LZ)))=H2 at s2 C7⊢;have DT:=inS (by rw[eu];exact abe _ hD);refine⟨_,rfl,b,_,rfl,.inr (b9.of (C7 _ _ hb)),rfl,_,rfl,cL (λh=>?_) (λh=>?_)⟩
   ·have l0:p=[]:=by
     have:=V.int.inj h;rw[aaG]at this;exact List.length_eq_zero_iff.mp (by lia)
    subst l0;cases C8;exact qr DT (ij hU) _ C7
   ·have l0:p≠[]:=λz=>h (by rw[z];rfl);obtain⟨p',k,rfl⟩:∃p' k,p=p'++[k]:=⟨p.dropLast,p.getLast l0,(ac3 l0).symm⟩
    obtain⟨v,hv,k1,k2,hc⟩:=qU C8;obtain⟨b',Ee,_,es⟩:=dN gt.G hs hv hc;obtain⟨vm,_,_⟩:=bT gt.G hs hv;obtain⟨r,y_,ek⟩:=List.mem_map.mp ((gt.G.rd _ vm k n).mpr (.inr ⟨(k-1).toNat,b',Ee,by lia,by rw[<-es];exact hD⟩));have tw:=gt.W.tw _ vm r y_;have T1:=am C7;have G_:=C7 _ _ hb;rw[aaX]at G_;have G_:H2 b=some (.tup (p'.map V.int++[.int k])):=G_;rw[aaF,aaS]at lp;refine⟨_,rfl,_,rfl,_,rfl,_,rfl,_,rfl,b,_,rfl,G_,λb3 H3 s3 Qe=>?_⟩;have ec:gY (p'.map V.int++[V.int k]) none (some (-1))=p'.map V.int:=by
     unfold gY;have e1:HT.p_ (p'.map V.int++[V.int k]).length 0 none=0:=rfl;have e2:HT.p_ (p'.map V.int++[V.int k]).length (p'.map V.int++[V.int k]).length (some (-1))=p'.length:=by rw[aaF,aaG,aaS];unfold HT.p_;first|(simp;lia)|(simp)|(rw[aaY (by lia)];lia)
     rw[e1,e2];simp
    rw[ec]at Qe;have s13:=C7.trans s3;have T3:=am s13;have T9:Dp (p'.map V.int++[V.int k]) (-1)=some (.int k):=by
     unfold Dp Jx;rw[aaR (by decide),aaF,aaG,aaS,aaY (by lia)];have e3:(-1+((p'.length+1:Nat):Int)).toNat=(p'.map V.int).length:=by rw[aaG];lia
     show(some (-1+((p'.length+1:Nat):Int)).toNat).bind _=_;rw[e3];simp
    refine⟨_,rfl,_,rfl,b,_,_,.int k,rfl,rfl,b9.of (s3 _ _ G_),T9,_,rfl,g,t,v,r,vg,vt,b3,p',k,n,rfl,o7.same T3 hg,gt,i3.same T3 t ht,Qe,hv,y_,ek,tn,λx y H' s' hx hy=>?_⟩;refine qy p' r x b3 _ y H' DT ?_ tw.1 tw.2 (by lia) (s13.trans s') hx (s' _ _ Qe) hy;have e1:r.k=k:=abk Prod.fst ek;have e2:r.nm=n:=abk Prod.snd ek;rw[mQ C8 hv hU,<-qz (gt.G.rn _ vm) y_,e1,e2]
theorem ve(X:Tx K mg T):i6 P w K mg base (GD P w) 20 T.Zv T.J_ ["grammar", "tree", "spot"] (qN T.b8):=by
 have Wx:=(rX (P:=P) (w:=w) (base:=base) X).mono (show 4<=19 by decide);have KL:=(mM (P:=P) (w:=w) (base:=base) X 12).mono (show 14<=19 by decide);have WE:=(rY (P:=P) (w:=w) (base:=base) X).mono (show 1<=19 by decide);refine X.Ol.LW Je (λvs H Q E h=>?_) (λm_ A outer s H vs Q E hr h=>?_)
 ·obtain⟨_,_,_,_,_,_,rfl,_⟩:=h;rfl
 obtain⟨g,t,vg,vt,v,sp,rfl,hg,gt,ht,A5,tn,lp,qy,qn⟩:=h;refine⟨_,(ag (au (i:=3) Je.nd rfl oJ1 (aw Wx hr rfl X.Sv X.Ot.kp X.VW .nil cy (b_ (qv 0) (b_ (qv 1) (b_ (qv 2) ae))))) (ag (bz (Ar (qv 3)) (ai (aG (aR ae))) aK) (ai (aG (bG (ys:=["rule"]) (js:=[3]) rfl rfl (bA (aw KL hr rfl X.M1 X.HN.kp X.NN .nil bg (q_ (aj ak (qv 3) af) ae))) (λ_ _ _ _ _=>bE) (λ_ _ _ _ _=>(aw WE hr rfl X.SE X.OA.kp X.V3 .nil bg (q_ (aj (bc (K:=K) rfl) (qv 1) af) (b_ (qv 0) ae))))))))),?_⟩;dsimp only[cg];refine⟨_,rfl,_,rfl,_,rfl,g,t,vg,vt,v,sp,rfl,hg,gt,ht,A5,tn,lp,λq r x b m y H1 DT EY hd hp lq s1 hx hb hy=>?_,λDT EY H1 s1=>?_,qn⟩
 ·refine⟨_,rfl,_,rfl,cL (λh=>nomatch h) (λ_=>?_)⟩;refine⟨_,rfl,x,_,2,_,rfl,rfl,b9.of hx,rfl,r.tm,y,rfl,hy,hd,hp,λl ys H2 nl s2 hl Ez=>⟨l,rfl,⟨_,d9.of hl⟩,λD nD=>?_⟩⟩;have QU:=Ez.len;have Xb:=dG r.tm;have Pm:=iX Ez;refine gM (K:=K) (R:=λH (z:Pr) v=>j_ H (bM q z) v) (as:=named r.tm) (EJ.ofT λ_ _ _ _ e h=>j_.same e h) (bO (by lia)) QU (d9.of hl) nD (λi z pr H3 hz IF s3 _ Q' k=>?_) (λzs H3 s3 GB GO=>?_)
  ·obtain⟨ZR,JH,his⟩:=Pm.get hz;rw[IF]at JH;cases JH;have W4:=s2.trans s3;exact⟨_,rfl,x,_,0,_,rfl,rfl,b9.of (W4 _ _ hx),rfl,_,rfl,b,q,pr,z,rfl,W4 _ _ hb,HL.same (am s3) his,lq,λy' H4 s4 h4=>k _ _ s4 h4⟩
  ·refine qy DT D zs H3 (s1.trans (s2.trans s3)) ((s1.trans s2).free nD) GB ?_;rw[EY];exact g_.mapM (R:=j_ H3) (bM q) GO
 ·refine⟨_,rfl,_,rfl,cL (λ_=>?_) (λh=>absurd rfl h)⟩;refine⟨Z0,λD nD=>?_⟩;refine qy DT D [] _ (s1.trans (ac nD _)) (s1.free nD) aa ?_;rw[EY];exact .nil
inductive zN(vs:List V)(H:Hp)(Q:VK)(e0:XK):Prop
 |mk (i:Int):(vs=[.int i])->Q (.bl true) H->zN vs H Q e0
theorem nh:∀(l:List (Array Nat))(acc:Array Nat),(l.foldl (·++·) acc).toList=acc.toList++(l.map Array.toList).flatten
 |[],acc=>by simp
 |a::l,acc=>by rw[aed,nh l];simp
def yo(g:Nat)(n:Int):∀c∈(Txt.mul ⟨#[g]⟩ n).cps.toList,c=g:=by
 intro c hc;unfold Txt.mul at hc;split at hc
 ·exact absurd hc (by simp[Str.empty])
 ·split at hc
  ·simpa using hc
  ·rw[show((⟨(List.replicate n.toNat (#[g]:Array Nat)).foldl (·++·) #[]⟩:Str)).cps.toList=_ from nh _ _]at hc;simp only[List.map_replicate,ab2,List.mem_flatten]at hc;obtain⟨l,hl,h⟩:=hc;have h1:0<n/\l=[g]:=by simpa using hl
   rw[h1.2]at h;simpa using h
abbrev n8:Str:="abcdefghijklmnopqrstuvwxyz"
def AM:∀c∈n8.cps.toList,sE c=true:=by decide +kernel
variable{n:Int}
theorem iP(g:Nat)(h0:0<=n):((Txt.mul ⟨#[g]⟩ n).length:Int)=n:=by have e:=PyProof.Rows.len_mul ⟨#[g]⟩ n;have e1:(Str.length ⟨#[g]⟩)=1:=rfl;rw[e1,aaR (by simpa using h0)]at e;lia
theorem mU(g:Nat)(h0:0<=n):(Txt.mul ⟨#[g]⟩ n).cps.toList=List.replicate n.toNat g:=by have l:=iP g h0;rw[dh]at l;refine List.eq_replicate_iff.mpr ⟨by lia,yo g n⟩
noncomputable def WS(c:Int):Nat:=(c / 8%(1+c%8)).toNat
noncomputable def jn(c:Int):Nat:=n8.cps.toList.getD (c / 64%26).toNat 97
noncomputable def qh(c k:Int):Nat:=n8.cps.toList.getD ((c / 1664+k)%26).toNat 97
noncomputable def we(c k:Int):List Nat:=List.replicate (WS c) (jn c)++qh c k::List.replicate ((1+c%8).toNat-WS c-1) (jn c)
noncomputable def Dv(c k:Int):Str:=mkS (we c k)
def yr:n8.cps.toList.length=26:=by decide +kernel
theorem kD(c:Int):Dp n8.cps.toList (c%26)=some (n8.cps.toList.getD (c%26).toNat 97)/\sE (n8.cps.toList.getD (c%26).toNat 97)=true:=by
 have h0:=abc c (show(26:Int)≠0 by decide);have h1:=aa5 c (show(0:Int)<26 by decide);generalize c%26=m at h0 h1;obtain⟨k,rfl⟩:=abt h0;have hl:=yr;have hk:k<n8.cps.toList.length:=by lia
 have e:n8.cps.toList.getD (Int.toNat (k:Int)) 97=n8.cps.toList[k]:=by rw[ada,show Int.toNat (k:Int)=k from rfl,aaO hk];rfl
 rw[e];exact⟨aV (aaO hk),AM _ (List.getElem_mem _)⟩
theorem fv(c k:Int):wd (Dv c k):=by
 have c0:=abc c (show(8:Int)≠0 by decide);have c1:=aa5 c (show(0:Int)<8 by decide);have a0:=abc (c / 8) (show(1+c%8:Int)≠0 by lia);have a1:=aa5 (c / 8) (show(0:Int)<1+c%8 by lia);unfold Dv wd;rw[lj];refine⟨by unfold we;simp,?_,λx hx=>?_⟩
 ·unfold we WS;rw[aaF,aaM,abw,abw];lia
 ·unfold we at hx;rcases List.mem_append.mp hx with h|h
  ·rw[aen h];exact(kD (c / 64)).2
  ·rcases List.mem_cons.mp h with rfl|h
   ·exact(kD (c / 1664+k)).2
   ·rw[aen h];exact(kD (c / 64)).2
def yt:∀i<26,∀j<26,n8.cps.toList.getD i 97=n8.cps.toList.getD j 97->i=j:=by decide +kernel
variable{c:Int}
theorem fU{k j:Int}(h0:0<=k)(h1:k<26)(g0:0<=j)(g1:j<26)(e:Dv c k=Dv c j):k=j:=by
 have e:we c k=we c j:=by have:=abk (λs:Str=>s.cps.toList) e;unfold Dv at this;simpa [lj]using this
 unfold we at e;have e2:=(aca (List.append_cancel_left e)).1;unfold qh at e2;have k0:=abc (c / 1664+k) (show(26:Int)≠0 by decide);have k1:=aa5 (c / 1664+k) (show(0:Int)<26 by decide);have j0:=abc (c / 1664+j) (show(26:Int)≠0 by decide);have j1:=aa5 (c / 1664+j) (show(0:Int)<26 by decide);have:=yt _ (by lia) _ (by lia) e2;lia
theorem zr(c k:Int):qd (Dv c k):=by obtain⟨_,h2,h3⟩:=fv c k;refine⟨by rw[dh];lia,λx hx=>?_⟩;have:=h3 x hx;unfold sE at this;rw[abI,abJ,abJ]at this;lia
inductive wq(vs:List V)(H:Hp)(Q:VK)(e0:XK):Prop
 |mk (c k:Int):(vs=[.int c,.int k])->Q (.str (Dv c k)) H->wq vs H Q e0
inductive wA(K:W.Frag)(vs:List V)(H:Hp)(Q:VK)(e0:XK):Prop
 |mk (a:Addr) (ns:List Int):(vs=[.ref a,.int 140])->d9 K H a (ns.map V.int)->ns.length<=63->(∀(D:Addr)(cs:List Int)(H':Hp),a_ H H'->H D=none->H' D=some (.lst (cs.map V.int))->cs.length=140->(∀c∈cs,0<=c/\c<1000000000000000000)->Q (.ref D) H')->wA K vs H Q e0
theorem kW(X:Tx K mg T):i6 P w K mg base A6 1 T.Zn T.J2 ["_law_cell", "_law_k"] wq:=by
 refine X.Eg.Dy Es (λvs H Q E h=>?_) (λm_ A outer s H vs Q E hr h=>?_)
 ·obtain⟨_,_,rfl,_⟩:=h;rfl
 obtain⟨c,k,rfl,q⟩:=h;refine⟨_,(ag (au (i:=2) Es.nd rfl oI1 aA) (ag (au (i:=3) Es.nd rfl oI1 (ar bJ af (ar aN (qv 0) af))) (ag (au (i:=4) Es.nd rfl oI1 (ar aN (ar aU (qv 0) af) (qv 3))) (ag (au (i:=5) Es.nd rfl oI1 (aj wO (qv 2) (ar aN (ar aU (qv 0) af) af))) (ai (aG (ar ig (ar ig (ar ie (qv 5) (qv 4)) (aj wO (qv 2) (ar aN (ar bJ (ar aU (qv 0) af) (qv 1)) af))) (ar ie (qv 5) (ar dm (ar dm (qv 3) (qv 4)) af))))))))),?_⟩;have c0:=abc c (show(8:Int)≠0 by decide);have c1:=aa5 c (show(0:Int)<8 by decide);have Dl:(0:Int)<1+c%8:=by lia
 have a0:=abc (c / 8) (show(1+c%8:Int)≠0 by lia);have a1:=aa5 (c / 8) Dl;have hg:=(kD (c / 64)).1;have P0:=(kD (c / 1664+k)).1;refine⟨_,rfl,_,_,rfl,rfl,(by show(0:Int)<8;decide),_,_,rfl,rfl,?_⟩;refine⟨_,rfl,_,_,rfl,rfl,⟨by decide,by decide⟩,_,rfl,_,_,rfl,rfl,Dl,?_⟩;refine⟨_,rfl,_,rfl,_,_,rfl,rfl,⟨by decide,by decide⟩,_,_,rfl,rfl,(by show(0:Int)<26;decide),n8,_,jn c,rfl,rfl,(by decide +kernel),hg,?_⟩;have l1:=iP (jn c) (n:=c / 8%(1+c%8)) (by lia);have l2:=iP (jn c) (n:=1+c%8-c / 8%(1+c%8)-1) (by lia);have e1:(Str.length ⟨#[jn c]⟩)=1:=rfl;have e2:(Str.length ⟨#[qh c k]⟩)=1:=rfl;refine⟨_,rfl,_,rfl,_,_,rfl,rfl,(by rw[e1];decide),by lia,by lia,_,rfl,_,rfl,_,_,rfl,rfl,⟨by decide,by decide⟩,_,rfl,_,_,rfl,rfl,_,_,rfl,rfl,(by show(0:Int)<26;decide),n8,_,qh c k,rfl,rfl,(by decide +kernel),P0,_,_,rfl,rfl,cF (by lia),?_⟩;refine⟨_,rfl,_,rfl,_,rfl,_,_,rfl,rfl,_,_,rfl,rfl,_,_,rfl,rfl,(by rw[e1];decide),by lia,by lia,_,_,rfl,rfl,cF (by rw[bH];lia),?_⟩;have ez:Txt.mul ⟨#[jn c]⟩ (c / 8%(1+c%8))++(⟨#[qh c k]⟩:Str)++Txt.mul ⟨#[jn c]⟩ (1+c%8-c / 8%(1+c%8)-1)=Dv c k:=by
  refine xB ?_;unfold Dv we WS;rw[lj,jk,jk,mU _ (by lia),mU _ (by lia)];have e:(1+c%8-c / 8%(1+c%8)-1).toNat=(1+c%8).toNat-(c / 8%(1+c%8)).toNat-1:=by lia
  rw[e];simp
 rw[ez];exact q
def rR(X:Tx K mg T):i6 P w K mg base A6 1 T.qB T.Qo ["_law_found"] zN:=by
 refine X.WJ.Dy BL (λvs H Q E h=>?_) (λm_ A outer s H vs Q E hr h=>?_)
 ·obtain⟨_,rfl,_⟩:=h;rfl
 obtain⟨i,rfl,q⟩:=h;refine⟨_,(ai (aG (wG (aB bU rfl X.z_isinstance abl (b_ (qv 0) (b_ (dD rfl X.z_int adA rfl (v:=.ty "int")) ae))) (wE (wF (aB bU rfl X.z_isinstance abl (b_ (qv 0) (b_ (dD rfl X.z_bool PyProof.Rows.boot_bool rfl (v:=.ty "bool")) ae)))))))),?_⟩;dsimp only[cg];exact⟨_,rfl,_, "int",_,_,rfl,.int i,CT,_,rfl,zl ⟨_,rfl,_, "bool",_,_,rfl,.int i,CU,_,rfl,q⟩⟩
theorem yg(X:Tx K mg T):i6 P w K mg base A6 1 T.Zl T.JZ ["_law_script", "_law_many_here"] (wA K):=by
 refine X.Oc.Dy D9 (λvs H Q E h=>?_) (λm_ A outer s H vs Q E hr h=>?_)
 ·obtain⟨_,_,rfl,_⟩:=h;rfl
 obtain⟨a,ns,rfl,hS,h63,q⟩:=h;refine⟨_,(ag (eB (ys:=[]) (js:=[]) rfl rfl (bA (bQ eZ (qv 0) cx (cw (qv 1)))) (λ_ _ _ _ _=>bE) (λ_ _ _ _ _=>(ar aN (qv 0) (ar rP af af))) (ay (i:=2) D9.nd rfl oI1) rfl) (ag (au (i:=3) D9.nd rfl oI1 (ar bJ af (aB av rfl X.z_len aa6 (b_ (qv 2) ae)))) (ag (bh aa8 rfl (bA (qv 2)) (ay (i:=4) D9.nd rfl oI1) (ai (au (i:=3) D9.nd rfl oI1 (ar aN (ar bJ (ar dE (qv 3) af) (qv 4)) af)))) (ag (iG aa8 (aE AF (aB av rfl X.z_len aa6 (b_ (qv 2) ae)) (qv 1) (aS _)) (ag (au (i:=3) D9.nd rfl oI1 (ar aN (ar bJ (ar dE (qv 3) af) af) af)) (ai (bK (eL aaL abo abn bo (qv 2) (b_ (qv 3) ae)))))) (ai (aG (pA rfl rfl X.z_list rfl X.z_reversed (qv 2)))))))),?_⟩;dsimp only[cg];refine⟨_,rfl,_,rfl,_,rfl,a,_,rfl,hS,λsl PD=>?_⟩;have ecs:gY (ns.map V.int) none (some 140)=(ns.take 140).map V.int:=by rw[show(some 140:Option Int)=some ((140:Nat):Int)from rfl,dM,List.map_take]
 rw[ecs];generalize Ed:ns.take 140=ms;have lms:ms.length<=140:=by rw[<-Ed,aaZ];lia
 clear Ed;have s0:=ac PD (.lst (ms.map V.int));refine⟨sl,rfl,⟨_,d9.of aa⟩,λD hD=>?_⟩;refine tV (K:=K) (ys:=(ms.map λn=>n%10 ^ Int.toNat 18).map V.int) (bO (by rw[aaG];lia)) (by simp) (d9.of aa) hD (λi x y H2 hx hy s2 Q' k=>?_) λH1 s1 HA=>?_
 ·rw[aaK]at hx;rw[aaK,aaK]at hy;cases e:ms[i]? with
  |none=>rw[e]at hx;cases hx
  |some n=>
   rw[e]at hx hy;cases hx;cases hy;exact⟨_,rfl,_,_,rfl,rfl,⟨by decide,by decide,by decide⟩,_,_,rfl,rfl,(by show(0:Int)<10 ^ Int.toNat 18;decide),k H2 (a_.refl H2)⟩
 have hD0:H D=none:=s0.free hD;have Ln:∀c∈(ms.map λn=>n%10 ^ Int.toNat 18),0<=c/\c<1000000000000000000:=λc hc=>by obtain⟨n,_,rfl⟩:=List.mem_map.mp hc;exact⟨abc _ (by decide),aa5 _ (by decide)⟩
 have lcs:(ms.map λn=>n%10 ^ Int.toNat 18).length<=140:=by rw[aaG];exact lms
 generalize (ms.map λn=>n%10 ^ Int.toNat 18)=cs at HA Ln lcs;refine⟨_,rfl,D,_,rfl,.inl (d9.of HA),_,_,rfl,rfl,?_⟩;refine⟨_,rfl,D,rfl,⟨_,d9.of HA⟩,?_⟩;refine cE (K:=K) (a:=D) (xs:=cs.map V.int) (λi σ H'=>(∃sd x4,σ=[some (.ref a),some (.int 140),some (.ref D),some (.int sd),x4])/\H'=H1) ⟨⟨_,_,rfl⟩,rfl⟩ (λi σ H' _ ⟨_,e⟩=>by rw[e];exact d9.of HA) ?_ ?_
 ·rintro i y σ H' hy ⟨⟨sd,x4,rfl⟩,rfl⟩;rw[aaK]at hy;cases e:cs[i]? with
  |none=>rw[e]at hy;cases hy
  |some n=>
   rw[e]at hy;cases hy;exact⟨_,rfl,_,_,rfl,rfl,.inr ⟨by decide,by decide⟩,_,rfl,_,_,rfl,rfl,_,_,rfl,rfl,(by show(0:Int)<999999937;decide),⟨_,_,rfl⟩,rfl⟩
 ·rintro σ H' ⟨⟨sd,x4,rfl⟩,rfl⟩;refine⟨λm σ H'=>∃(sd:Int)(x4:Option V)(cs:List Int),m=140-cs.length/\σ=[some (.ref a),some (.int 140),some (.ref D),some (.int sd),x4]/\a_ H H'/\H' D=some (.lst (cs.map V.int))/\cs.length<=140/\∀c∈cs,0<=c/\c<1000000000000000000,⟨_,sd,x4,cs,rfl,rfl,s0.trans s1,HA,lcs,Ln⟩,?_⟩;rintro m σ H2 ⟨sd,x4,cs,rfl,rfl,sm,hd,lc,hc⟩;refine⟨_,rfl,D,_,rfl,.inl (d9.of hd),_,rfl,_,_,rfl,rfl,_,rfl,cL (λo9=>⟨_,λk_ QB h=>h,?_⟩) (λhge=>?_)⟩
  ·rw[aaG]at o9;refine⟨_,rfl,_,_,rfl,rfl,.inr ⟨by decide,by decide⟩,_,_,rfl,rfl,_,_,rfl,rfl,(by show(0:Int)<2147483647;decide),?_⟩;have b0:=abc (sd*48271+11) (show(2147483647:Int)≠0 by decide);have b1:=aa5 (sd*48271+11) (show(0:Int)<2147483647 by decide);refine⟨_,rfl,.inl ⟨rfl,_,d9.of hd⟩,_,rfl,D,_,_,rfl,rfl,hd,bO (by rw[aaG];lia),?_⟩;refine⟨140-(cs++[(sd*48271+11)%2147483647]).length,by rw[aaF,aaS];lia,_,_,cs++[(sd*48271+11)%2147483647],rfl,rfl,aL hD0 sm,by rw[aa,aaX];rfl,by rw[aaF,aaS];lia,λc hm=>?_⟩;rcases List.mem_append.mp hm with h|h
   ·exact hc c h
   ·rw[List.mem_singleton.mp h];exact⟨b0,by lia⟩
  ·rw[aaG]at hge;refine⟨_,rfl,D,_,rfl,d9.of hd,λr hr=>?_⟩;refine q r cs.reverse _ (sm.trans (ac hr _)) (sm.free hr) (by rw[aa,List.map_reverse]) (by rw[adJ];lia) λc hm=>hc c (List.mem_reverse.mp hm)
variable{rest:TS}
def uC{t:TS}(R0:St->Hp->Prop)(key:∀k_ H',R0 k_ H'->rest D k_ H')(k:∀F:St->Hp->Prop,(∀k_ H',R0 k_ H'->F k_ H')->t { D with nx:=F } σ H):IZ t rest D σ H:=k (rest D) key
def cS{w:Str}{ts:List Tm}{vs:List V}(ha:H a=some (.tup [.str "call",.str w,.ref b]))(hb:H b=some (.tup vs))(hl:vs.length<=1000)(h:i7 H ts vs):g9 H (.call w ts) (.ref a):=by unfold g9;exact⟨a,b,vs,rfl,ha,hb,hl,h⟩
def Bv(h:g9 H t v):i7 H [t] [v]:=by unfold i7 i7;exact⟨v,[],rfl,h,rfl⟩
def zx{u:Tm}{x:V}(h:g9 H t v)(g:g9 H u x):i7 H [t,u] [v,x]:=by unfold i7 i7 i7;exact⟨v,_,rfl,h,x,_,rfl,g,rfl⟩
def Cp{u s:Tm}{x y:V}(h:g9 H t v)(g:g9 H u x)(k:g9 H s y):i7 H [t,u,s] [v,x,y]:=by unfold i7 i7 i7 i7;exact⟨v,_,rfl,h,x,_,rfl,g,y,_,rfl,k,rfl⟩
variable{p:Addr}
def eA(h:H p=some (.tup [.str "mark"])):g9 H .mark (.ref p):=by unfold g9;exact⟨p,rfl,h⟩
def qw(h:H p=some (.tup [.str "row"])):g9 H .row (.ref p):=by unfold g9;exact⟨p,rfl,h⟩
def wl(h:H p=some (.tup [.str "num",.int n])):g9 H (.num n) (.ref p):=by unfold g9;exact⟨p,rfl,h⟩
def xx(h:H p=some (.tup [.str "text",.str z])):g9 H (.text z) (.ref p):=by unfold g9;exact⟨p,rfl,h⟩
def tm_val{k:Int}(h:H p=some (.tup [.str "of",.int k,.str z])):g9 H (.val k z) (.ref p):=by unfold g9;exact⟨p,rfl,h⟩
abbrev Vl:=Int×Str×Str×Int×Int
def z0(H:Hp)(e:Vl)(v:V):Prop:=∃p,v=.ref p/\H p=some (.tup [.int e.1,.str e.2.1,.str e.2.2.1,.int e.2.2.2.1,.int e.2.2.2.2])
variable{e:Vl}
def z0.same(s:d_ H H')(h:z0 H e v):z0 H' e v:=by obtain⟨p,a,b⟩:=h;exact⟨p,a,s _ _ b⟩
def FO(H:Hp)(e:Vl)(v:V):Prop:=∃p xs,v=.ref p/\H p=some (.tup xs)/\Dp xs 0=some (.int e.1)/\Dp xs 1=some (.str e.2.1)/\Dp xs 2=some (.str e.2.2.1)
def FO.same(s:d_ H H')(h:FO H e v):FO H' e v:=by obtain⟨p,xs,a,b,c⟩:=h;exact⟨p,xs,a,s _ _ b,c⟩
def z0.v3(h:z0 H e v):FO H e v:=let⟨p,a,b⟩:=h;⟨p,_,a,b,rfl,rfl,rfl⟩
noncomputable def ip(e:Vl):Pr:=(e.1,e.2.1)
inductive wu(vs:List V)(H:Hp)(Q:VK)(e0:XK):Prop
 |mk (kd:Str) (e:Vl) (v:V):(vs=[.str kd,v])->kd∈cK->FO H e v->(∀t x H',a_ H H'->g9 H' t x->TB [ip e] 3 4 t->Q x H')->wu vs H Q e0
inductive wC(vs:List V)(H:Hp)(Q:VK)(e0:XK):Prop
 |mk (kd:Str) (c:Int):(vs=[.str kd,.int c])->(∀t x H',a_ H H'->g9 H' t x->TB [] 2 3 t->Q x H')->wC vs H Q e0
inductive wt(vs:List V)(H:Hp)(Q:VK)(e0:XK):Prop
 |mk (kd:Str) (l:Addr) (es:List Vl) (us:List V) (c:Int):(vs=[.str kd,.ref l,.int c])->kd∈cK->H l=some (.lst us)->g_ (FO H) es us->us.length<=3->(∀t x H',a_ H H'->g9 H' t x->TB (es.map ip) 12 100 t->Q x H')->wt vs H Q e0
def xS{kd:Str}(h:kd∈cK)(x y z:V):∃v,eH (bC [] [((.inr "num" : Key),x),(.inr "text",y),(.inr "row",z)]) (.inr kd)=some v/\((kd = "num"/\v=x)\/(kd = "text"/\v=y)\/(kd = "row"/\v=z)):=by
 simp only[cK,ab9,acY,adU]at h;rcases h with rfl|rfl|rfl
 ·exact⟨x,rfl,.inl ⟨rfl,rfl⟩⟩
 ·exact⟨y,rfl,.inr (.inl ⟨rfl,rfl⟩)⟩
 ·exact⟨z,rfl,.inr (.inr ⟨rfl,rfl⟩)⟩
def yU{kd:Str}(h:kd∈cK)(d:Str):∃dd:Str,eH (bC [] [((.inr "num" : Key),V.str d),(.inr "text",.str "glue"),(.inr "row",.str "link")]) (.inr kd)=some (.str dd):=by
 simp only[cK,ab9,acY,adU]at h;rcases h with rfl|rfl|rfl
 ·exact⟨d,rfl⟩
 ·exact⟨_,rfl⟩
 ·exact⟨_,rfl⟩
def ya(X:Tx K mg T):i6 P w K mg base A6 1 T.Zk T.JY ["_law_kind", "_law_one"] wu:=by
 refine X.Ob.Dy GK (λvs H Q E h=>?_) (λm_ A outer s H vs Q E hr h=>?_)
 ·obtain⟨_,_,_,rfl,_⟩:=h;rfl
 obtain⟨kd,⟨k,n,Pj,rk,sd⟩,v,rfl,hk,⟨p,xs,rfl,hp,i0,i1,i2⟩,q⟩:=h;dsimp only at i0 i1 i2;have DT:(k,n)∈[ip (k,n,Pj,rk,sd)]:=List.mem_singleton.mpr rfl;refine⟨_,(ag (au (i:=2) GK.nd rfl oI1 (aq (n_ aA (q_ (aj ak (qv 1) af) (q_ (aj ak (qv 1) af) ae))))) (ag (bz (aE bS (qv 0) (aj ak (qv 1) af) (aS _)) (ai (aG (qv 2))) aK) (ag (bz (aE xX (aj ak (qv 1) af) aA (aS _)) (ai (au (i:=2) GK.nd rfl oI1 (aq (n_ aA (q_ (aj aO (aR (n_ aA (n_ aA ae))) (bf kr rfl X.z_int adA (qaM (fc bS (aj ak (qv 1) af) aA (aS _)) ae))) (u9 (aq (b_ (qv 2) ae)) ae)))))) aK) (ai (aG (rK (vF hr) (rJ (dQ aA (qv 2) (dQ aA (aq (n_ aA (n_ aA (u9 (aq (b_ (qv 2) ae)) ae)))) (dQ aA (aq (n_ aA (n_ aA (u9 (aq (u9 (aq (n_ aA ae)) (b_ (qv 2) ae))) ae)))) rN)))) (qv 0))))))),?_⟩;dsimp only[cg];refine⟨_,rfl,p,xs,0,_,rfl,rfl,b9.of hp,i0,_,rfl,p,xs,1,_,rfl,rfl,b9.of hp,i1,Z3,λa1 h1=>?_⟩;have s1:=ac h1 (.tup [.str "of",.int k,.str n]);have IH:=s1 _ _ hp;have t1:=tm_val (aa (H:=H) (a:=a1) (o:=.tup [.str "of",.int k,.str n]));generalize upd H a1 (.tup [.str "of",.int k,.str n])=H1 at s1 IH t1⊢;refine⟨_,rfl,_,rfl,p,xs,2,.str Pj,rfl,rfl,b9.of IH,i2,rfl,_,rfl,cL (λ_=>?_) (λ_=>?_)⟩
 ·exact⟨_,rfl,q _ _ H1 s1 t1 ((TB.val DT).le (by decide) (by decide))⟩
 unfold I0;dsimp only;refine uC (λk_ H2=>∃t x,k_=[some (.str kd),some (.ref p),some x]/\a_ H H2/\g9 H2 t x/\TB [ip (k,n,Pj,rk,sd)] 2 2 t) ?_ ?_
 ·rintro k_ H2 ⟨t,x,rfl,s2,ht,d2⟩;intro dp F';have s4:=ac F' (.dK []);have UG:=aa (H:=H2) (a:=dp) (o:=.dK []);refine⟨_,rfl,_,rfl,Z1,λa3 h3=>⟨Z3,λa4 h4=>⟨Z1,λa5 h5=>⟨_,rfl,Z2,λa6 h6=>⟨Z3,λa7 h7=>?_⟩⟩⟩⟩⟩;have u3:=ac h3 (.tup [x]);have u4:=ac h4 (.tup [.str "call",.str "show",.ref a3]);have u5:=ac h5 (.tup [.str "row"]);have u6:=ac h6 (.tup [.ref a5,x]);have u7:=ac h7 (.tup [.str "call",.str "put",.ref a6]);have uA:=u3.trans (u4.trans (u5.trans (u6.trans u7)));refine⟨uA _ _ UG,[(.inr "num",x),(.inr "text",.ref a4),(.inr "row",.ref a7)],rfl,(by show 3<=15;decide),?_⟩;have g3:=(u4.trans (u5.trans (u6.trans u7))) _ _ (aa (H:=upd H2 dp (.dK [])) (a:=a3) (o:=.tup [x]));have g4:=(u5.trans (u6.trans u7)) _ _ (aa (H:=upd (upd H2 dp (.dK [])) a3 (.tup [x])) (a:=a4) (o:=.tup [.str "call",.str "show",.ref a3]));have g5:=(u6.trans u7) _ _ (aa (H:=upd (upd (upd H2 dp (.dK [])) a3 (.tup [x])) a4 (.tup [.str "call",.str "show",.ref a3])) (a:=a5) (o:=.tup [.str "row"]));have g6:=u7 _ _ (aa (H:=upd (upd (upd (upd H2 dp (.dK [])) a3 (.tup [x])) a4 (.tup [.str "call",.str "show",.ref a3])) a5 (.tup [.str "row"])) (a:=a6) (o:=.tup [.ref a5,x]));have g7:=aa (H:=upd (upd (upd (upd (upd H2 dp (.dK [])) a3 (.tup [x])) a4 (.tup [.str "call",.str "show",.ref a3])) a5 (.tup [.str "row"])) a6 (.tup [.ref a5,x])) (a:=a7) (o:=.tup [.str "call",.str "put",.ref a6]);have sB:=s4.trans uA;have UE:=uA _ _ UG;generalize upd (upd (upd (upd (upd (upd H2 dp (.dK [])) a3 (.tup [x])) a4 (.tup [.str "call",.str "show",.ref a3])) a5 (.tup [.str "row"])) a6 (.tup [.ref a5,x])) a7 (.tup [.str "call",.str "put",.ref a6])=H7 at g3 g4 g5 g6 g7 sB UE⊢;have s8:a_ H2 (upd H7 dp (.dK (bC [] [(.inr "num",x),(.inr "text",.ref a4),(.inr "row",.ref a7)]))):=aL F' sB;have T8:d_ H7 (upd H7 dp (.dK (bC [] [(.inr "num",x),(.inr "text",.ref a4),(.inr "row",.ref a7)]))):=λb xs e=>by
   rw[al (λz=>by rw[z,UE]at e;cases e)];exact e
  have hd8:=aa (H:=H7) (a:=dp) (o:=.dK (bC [] [(.inr "num",x),(.inr "text",.ref a4),(.inr "row",.ref a7)]));obtain⟨v,hv,JI⟩:=xS hk x (.ref a4) (.ref a7);have PY:=EL.k (k:=.inr kd) hd8;rw[hv]at PY;have t8:=g9.same (am s8) t ht;generalize upd H7 dp (.dK (bC [] [(.inr "num",x),(.inr "text",.ref a4),(.inr "row",.ref a7)]))=H8 at s8 T8 PY t8⊢;refine⟨_,rfl,dp,v,rfl,PY,?_⟩;rcases JI with⟨_,rfl⟩|⟨_,rfl⟩|⟨_,rfl⟩
  ·exact q t _ H8 (s2.trans s8) t8 (d2.le (by decide) (by decide))
  ·exact q _ _ H8 (s2.trans s8) (cS (T8 _ _ g4) (T8 _ _ g3) (by show 1<=1000;decide) (Bv t8)) (d2.Ky.le (by decide) (by decide))
  ·exact q _ _ H8 (s2.trans s8) (cS (T8 _ _ g7) (T8 _ _ g6) (by show 2<=1000;decide) (zx (qw (T8 _ _ g5)) t8)) ((TB.row.call2 d2).le (by decide) (by decide))
 ·intro F hF;refine⟨_,rfl,p,xs,2,.str Pj,rfl,rfl,b9.of IH,i2,rfl,_,rfl,yv (λ_=>?_) (λ_=>hF _ _ ⟨_,_,rfl,s1,t1,(TB.val DT).le (by decide) (by decide)⟩)⟩;refine⟨Z2,λa2 h2=>?_⟩;have s2:=ac h2 (.lst [.str "size",.str "many"]);have IG:=s2 _ _ IH;obtain⟨dd,UI⟩:∃dd:Str,Dp [V.str "size",V.str "many"] (if decide (V.str Pj=V.str "row")=true then 1 else 0)=some (.str dd):=by
   by_cases h:V.str Pj=V.str "row"
   ·rw[abb h];exact⟨_,rfl⟩
   ·rw[aaW h];exact⟨_,rfl⟩
  refine⟨_,rfl,p,xs,2,.str Pj,rfl,rfl,b9.of IG,i2,rfl,.inr ⟨_,rfl,a2,_,_,.str dd,rfl,rfl,d9.of aa,UI,_,rfl,Z1,λa3 h3=>⟨Z3,λa4 h4=>?_⟩⟩⟩;have s3:=ac h3 (.tup [.ref a1]);have s4:=ac h4 (.tup [.str "call",.str dd,.ref a3]);exact hF _ _ ⟨_,_,rfl,s1.trans (s2.trans (s3.trans s4)),cS aa (s4 _ _ aa) (by show 1<=1000;decide) (Bv (g9.same (am (s2.trans (s3.trans s4))) _ t1)),((TB.val DT).Ky).le (by decide) (by decide)⟩
theorem yi(X:Tx K mg T):i6 P w K mg base A6 1 T.Zp T.J4 ["_law_kind", "_law_cell"] wC:=by
 refine X.KY.Dy zU (λvs H Q E h=>?_) (λm_ A outer s H vs Q E hr h=>?_)
 ·obtain⟨_,_,rfl,_⟩:=h;rfl
 obtain⟨kd,c,rfl,q⟩:=h;refine⟨_,(ag (bz (aE bS (qv 0) aA (aS _)) (ai (aG (aj aO (aR (u9 (aq (n_ aA (Dx (ar aN (ar aU (qv 1) af) (ar rP af af)) ae))) (u9 (aq (n_ aA ae)) (u9 (aq (n_ aA (Dx (ar aN (ar aU (qv 1) af) af) ae))) ae)))) (ar aN (qv 1) af)))) aK) (ag (bz (aE bS (qv 0) aA (aS _)) (ai (aG (aj aO (aR (u9 (aq (n_ aA (n_ aA (u9 (aq (u9 (aq (n_ aA ae)) ae)) ae)))) (u9 (aq (n_ aA (q_ (aj aO (aR (n_ aA (n_ aA (n_ aA ae)))) (ar aN (ar aU (qv 1) af) af)) ae))) ae))) (ar aN (qv 1) af)))) aK) (ai (aG (aj aO (aR (u9 (aq (n_ aA ae)) (u9 (aq (n_ aA (n_ aA (u9 (aq (u9 (aq (n_ aA ae)) (u9 (aq (n_ aA ae)) ae))) ae)))) ae))) (ar aN (qv 1) af)))))),?_⟩;dsimp only[cg];refine⟨_,rfl,rfl,_,rfl,cL (λ_=>?_) (λ_=>?_)⟩
 ·refine⟨_,rfl,_,_,rfl,rfl,⟨by decide,by decide⟩,_,_,rfl,rfl,⟨by decide,by decide,by decide⟩,_,_,rfl,rfl,(by show(0:Int)<10 ^ Int.toNat 18;decide),Z2,λa1 h1=>⟨Z1,λa2 h2=>⟨_,rfl,_,_,rfl,rfl,⟨by decide,by decide⟩,_,_,rfl,rfl,(by show(0:Int)<3;decide),Z2,λa3 h3=>⟨Z3,λa4 h4=>?_⟩⟩⟩⟩;have s1:=ac h1 (.tup [.str "num",.int (c / 3%10 ^ Int.toNat 18)]);have s2:=ac h2 (.tup [.str "mark"]);have s3:=ac h3 (.tup [.str "num",.int (c / 3%3)]);have s4:=ac h4 (.lst [.ref a1,.ref a2,.ref a3]);have sA:=s1.trans (s2.trans (s3.trans s4));have g1:=(s2.trans (s3.trans s4)) _ _ (aa (H:=H) (a:=a1) (o:=.tup [.str "num",.int (c / 3%10 ^ Int.toNat 18)]));have hm:c%3=0\/c%3=1\/c%3=2:=by lia
  rcases hm with e|e|e
  ·exact⟨_,rfl,_,_,rfl,rfl,(by show(0:Int)<3;decide),a4,_,_,.ref a1,rfl,rfl,d9.of aa,by rw[e];rfl,q _ _ _ sA (wl g1) (TB.num.le (by decide) (by decide))⟩
  ·exact⟨_,rfl,_,_,rfl,rfl,(by show(0:Int)<3;decide),a4,_,_,.ref a2,rfl,rfl,d9.of aa,by rw[e];rfl,q _ _ _ sA (eA ((s3.trans s4) _ _ aa)) (TB.mark.le (by decide) (by decide))⟩
  ·exact⟨_,rfl,_,_,rfl,rfl,(by show(0:Int)<3;decide),a4,_,_,.ref a3,rfl,rfl,d9.of aa,by rw[e];rfl,q _ _ _ sA (wl (s4 _ _ aa)) (TB.num.le (by decide) (by decide))⟩
 refine⟨_,rfl,rfl,_,rfl,cL (λ_=>?_) (λ_=>?_)⟩
 ·refine⟨Z1,λa3 h3=>⟨Z1,λa4 h4=>⟨Z3,λa5 h5=>⟨Z3,λa1 h1=>?_⟩⟩⟩⟩;have s3:=ac h3 (.tup [.str "mark"]);have s4:=ac h4 (.tup [.ref a3]);have s5:=ac h5 (.tup [.str "call",.str "show",.ref a4]);have s1:=ac h1 (.lst [.str "",.str "ab3",.str "z9"]);obtain⟨z,hz⟩:∃z:Str,Dp [V.str "",V.str "ab3",V.str "z9"] (c / 2%3)=some (.str z):=by
   have h4:c / 2%3=0\/c / 2%3=1\/c / 2%3=2:=by lia
   rcases h4 with e|e|e<;>rw[e]<;>exact⟨_,rfl⟩
  refine⟨_,rfl,_,_,rfl,rfl,⟨by decide,by decide⟩,_,_,rfl,rfl,(by show(0:Int)<3;decide),a1,_,_,.str z,rfl,rfl,d9.of aa,hz,Z2,λa2 h2=>⟨Z2,λa6 h6=>?_⟩⟩;have s2:=ac h2 (.tup [.str "text",.str z]);have s6:=ac h6 (.lst [.ref a5,.ref a2]);have sB:=s1.trans (s2.trans s6);have sA:=s3.trans (s4.trans (s5.trans sB));have hm:c%2=0\/c%2=1:=by lia
  rcases hm with e|e
  ·exact⟨_,rfl,_,_,rfl,rfl,(by show(0:Int)<2;decide),a6,_,_,.ref a5,rfl,rfl,d9.of aa,by rw[e];rfl,q _ _ _ sA (cS (sB _ _ aa) ((s5.trans sB) _ _ aa) (by show 1<=1000;decide) (Bv (eA ((s4.trans (s5.trans sB)) _ _ aa)))) (TB.mark.Ky.le (by decide) (by decide))⟩
  ·exact⟨_,rfl,_,_,rfl,rfl,(by show(0:Int)<2;decide),a6,_,_,.ref a2,rfl,rfl,d9.of aa,by rw[e];rfl,q _ _ _ sA (xx (s6 _ _ aa)) (TB.text.le (by decide) (by decide))⟩
 ·refine⟨Z1,λa1 h1=>⟨Z1,λa2 h2=>⟨Z1,λa3 h3=>⟨Z2,λa4 h4=>⟨Z3,λa5 h5=>⟨Z2,λa6 h6=>?_⟩⟩⟩⟩⟩⟩;have s1:=ac h1 (.tup [.str "row"]);have s2:=ac h2 (.tup [.str "row"]);have s3:=ac h3 (.tup [.str "mark"]);have s4:=ac h4 (.tup [.ref a2,.ref a3]);have s5:=ac h5 (.tup [.str "call",.str "put",.ref a4]);have s6:=ac h6 (.lst [.ref a1,.ref a5]);have sA:=s1.trans (s2.trans (s3.trans (s4.trans (s5.trans s6))));have hm:c%2=0\/c%2=1:=by lia
  rcases hm with e|e
  ·exact⟨_,rfl,_,_,rfl,rfl,(by show(0:Int)<2;decide),a6,_,_,.ref a1,rfl,rfl,d9.of aa,by rw[e];rfl,q _ _ _ sA (qw ((s2.trans (s3.trans (s4.trans (s5.trans s6)))) _ _ aa)) (TB.row.le (by decide) (by decide))⟩
  ·exact⟨_,rfl,_,_,rfl,rfl,(by show(0:Int)<2;decide),a6,_,_,.ref a5,rfl,rfl,d9.of aa,by rw[e];rfl,q _ _ _ sA (cS (s6 _ _ aa) ((s5.trans s6) _ _ aa) (by show 2<=1000;decide) (zx (qw ((s3.trans (s4.trans (s5.trans s6))) _ _ aa)) (eA ((s4.trans (s5.trans s6)) _ _ aa)))) ((TB.row.call2 TB.mark).le (by decide) (by decide))⟩
theorem rT(X:Tx K mg T):i6 P w K mg base A6 2 T.Zj T.JX ["_law_kind", "_law_some", "_law_cell"] wt:=by
 have N_:=yi (P:=P) (w:=w) (base:=base) X;have Wi:=ya (P:=P) (w:=w) (base:=base) X;refine X.KW.Dy C1 (λvs H Q E h=>?_) (λm_ A outer s H vs Q E hr h=>?_)
 ·obtain⟨_,_,_,_,_,rfl,_⟩:=h;rfl
 obtain⟨kd,l,es,us,c,rfl,hk,hl,v_,Ei,q⟩:=h;refine⟨_,(ag (au (i:=3) C1.nd rfl oI1 (aw N_ hr rfl X.MX X.KY.kp X.NJ .nil bg (b_ (qv 0) (b_ (qv 2) ae)))) (ag (bh aa8 rfl (bA (qv 1)) (ay (i:=4) C1.nd rfl oI1) (ag (au (i:=2) C1.nd rfl oI1 (ar aU (qv 2) af)) (ag (au (i:=5) C1.nd rfl oI1 (aR (b_ (qv 3) (Dw (aw Wi hr rfl X.Sf X.Ob.kp X.VF .nil bg (b_ (qv 0) (b_ (qv 4) ae))) ae)))) (ag (au (i:=6) C1.nd rfl oI1 (rK (vF hr) (rJ (dQ aA (aj aO (aR (n_ aA (n_ aA (n_ aA (n_ aA ae))))) (ar aN (qv 2) af)) (dQ aA aA (dQ aA aA rN)))) (qv 0))) (ag (au (i:=3) C1.nd rfl oI1 (aq (n_ aA (b_ (qv 6) (u9 (aq (q_ (aj aO (qv 5) (ar aN (ar aU (qv 2) af) af)) (q_ (aj aO (qv 5) (ar dm af (ar aN (ar aU (qv 2) af) af))) ae))) ae))))) (ai (bz (aE bS (ar aN (ar aU (qv 2) af) af) af (aS _)) (ai (au (i:=3) C1.nd rfl oI1 (aq (n_ aA (n_ aA (Dx (ar bZ (aq (u9 (aq (n_ aA ae)) ae)) (aj ak (qv 3) af)) ae)))))) aK))))))) (ag (bz (aE bS (ar aN (ar aU (qv 2) af) af) af (aS _)) (ai (au (i:=3) C1.nd rfl oI1 (aq (n_ aA (n_ aA (u9 (aq (u9 (aq (n_ aA ae)) (b_ (qv 3) (Dw (aw N_ hr rfl X.MX X.KY.kp X.NJ .nil bg (b_ (qv 0) (Dx (ar aU (qv 2) af) ae))) ae)))) ae)))))) aK) (ai (aG (qv 3)))))),?_⟩;dsimp only[cg];refine⟨_,rfl,_,rfl,kd,c,rfl,λt0 x0 H0 s0 ht0 d0=>?_⟩;refine⟨_,rfl,l,rfl,⟨_,d9.of (s0 _ _ hl)⟩,cE (K:=K) (a:=l) (xs:=us) (λi σ H'=>a_ H H'/\∃(t:Tm)(x:V)(c':Int)(y4 y5 y6:Option V),σ=[some (.str kd),some (.ref l),some (.int c'),some x,y4,y5,y6]/\g9 H' t x/\TB (es.map ip) (3+i) (3+6*(i:Int)) t)
  ⟨s0,t0,x0,c,none,none,none,rfl,ht0,d0.mono (λ_ h=>nomatch h) (by lia) (by lia)⟩ (λi σ H' _ ⟨sm,_⟩=>d9.of (sm _ _ hl)) ?_ ?_⟩
 ·rintro i v σ H' hv ⟨sm,t,x,c',y4,y5,y6,rfl,ht,dt⟩;obtain⟨e,he,Tb⟩:=v_.get hv;refine⟨_,rfl,_,_,rfl,rfl,⟨by decide,by decide⟩,?_⟩;dsimp only;generalize c' / 7=c2;have hem:∀p∈[ip e],p∈es.map ip:=λp hp=>by rw[List.mem_singleton.mp hp];exact List.mem_map.mpr ⟨e,aaD he,rfl⟩
  refine⟨_,rfl,_,rfl,_,rfl,kd,e,v,rfl,hk,FO.same (am sm) Tb,λt2 x2 H2 s2 GQ d2=>⟨Z2,λa1 h1=>?_⟩⟩;have s3:=ac h1 (.lst [x,x2]);have IF:=aa (H:=H2) (a:=a1) (o:=.lst [x,x2]);have tA:=g9.same (am (s2.trans s3)) t ht;have tB:=g9.same (am s3) t2 GQ;have Lz:=sm.trans (s2.trans s3);generalize upd H2 a1 (.lst [x,x2])=H3 at s3 IF tA tB Lz⊢;intro dp F';have s4:=ac F' (.dK []);refine⟨Z4,λa2 h2=>?_⟩;have s5:=ac h2 (.lst [.str "add",.str "mul",.str "sub",.str "less"]);obtain⟨dd,UI⟩:∃dd:Str,Dp [V.str "add",V.str "mul",V.str "sub",V.str "less"] (c2%4)=some (.str dd):=by
   have h4:c2%4=0\/c2%4=1\/c2%4=2\/c2%4=3:=by lia
   rcases h4 with e|e|e|e<;>rw[e]<;>exact⟨_,rfl⟩
  refine⟨_,rfl,_,_,rfl,rfl,(by show(0:Int)<4;decide),a2,_,_,.str dd,rfl,rfl,d9.of aa,UI,s5 _ _ aa,[(.inr "num",.str dd),(.inr "text",.str "glue"),(.inr "row",.str "link")],rfl,(by show 3<=15;decide),?_⟩;obtain⟨de,Ra⟩:=yU hk dd;have ndp:∀o,o≠HO.dK []->True:=λ_ _=>trivial;have s6:a_ H3 (upd (upd (upd H3 dp (.dK [])) a2 (.lst [.str "add",.str "mul",.str "sub",.str "less"])) dp (.dK (bC [] [(.inr "num",.str dd),(.inr "text",.str "glue"),(.inr "row",.str "link")]))):=aL F' (s4.trans s5);refine⟨_,rfl,dp,.str de,rfl,by have:=EL.k (k:=.inr kd) (aa (H:=upd (upd H3 dp (.dK [])) a2 (.lst [.str "add",.str "mul",.str "sub",.str "less"])) (a:=dp) (o:=.dK (bC [] [(.inr "num",.str dd),(.inr "text",.str "glue"),(.inr "row",.str "link")])));rw[Ra]at this;exact this,?_⟩;have PL:=s6 _ _ IF;have Yz:=g9.same (am s6) t tA;have Yy:=g9.same (am s6) t2 tB;have Ly:=Lz.trans s6;generalize upd (upd (upd H3 dp (.dK [])) a2 (.lst [.str "add",.str "mul",.str "sub",.str "less"])) dp (.dK (bC [] [(.inr "num",.str dd),(.inr "text",.str "glue"),(.inr "row",.str "link")]))=H6 at s6 PL Yz Yy Ly⊢;obtain⟨u1,u2,v1,v2,hi1,Uj,g1,g2,Mw,Ge,f1',f2',Yj,b2',mx,sx⟩:∃(u1 u2:Tm)(v1 v2:V),Dp [x,x2] (c2 / 4%2)=some v1/\Dp [x,x2] (1-c2 / 4%2)=some v2/\g9 H6 u1 v1/\g9 H6 u2 v2/\∃(d1 d2:Nat)(k1 k2:Int),TB (es.map ip) d1 k1 u1/\TB (es.map ip) d2 k2 u2/\max d1 d2=3+i/\k1+k2=3+6*(i:Int)+4:=by
   have h2:c2 / 4%2=0\/c2 / 4%2=1:=by lia
   rcases h2 with e|e<;>rw[e]
   ·exact⟨t,t2,x,x2,rfl,rfl,Yz,Yy,_,_,_,_,dt,d2.mono hem (aaI _) (ad6 _),by lia,rfl⟩
   ·exact⟨t2,t,x2,x,rfl,rfl,Yy,Yz,_,_,_,_,d2.mono hem (aaI _) (ad6 _),dt,by lia,by lia⟩
  refine⟨_,rfl,_,rfl,_,rfl,_,_,rfl,rfl,⟨by decide,by decide⟩,_,_,rfl,rfl,(by show(0:Int)<2;decide),a1,_,_,v1,rfl,rfl,d9.of PL,hi1,_,rfl,_,rfl,_,_,rfl,rfl,⟨by decide,by decide⟩,_,_,rfl,rfl,(by show(0:Int)<2;decide),_,_,rfl,rfl,a1,_,_,v2,rfl,rfl,d9.of PL,Uj,Z2,λb1 UP=>⟨Z3,λb2 G_=>?_⟩⟩;have s7:=ac UP (.tup [v1,v2]);have s8:=ac G_ (.tup [.str "call",.str de,.ref b1]);have Gw:=s7.trans s8;have Qg:=s8 _ _ (aa (H:=H6) (a:=b1) (o:=.tup [v1,v2]));have Qf:=aa (H:=upd H6 b1 (.tup [v1,v2])) (a:=b2) (o:=.tup [.str "call",.str de,.ref b1]);have g1':=g9.same (am Gw) u1 g1;have g2':=g9.same (am Gw) u2 g2;generalize upd (upd H6 b1 (.tup [v1,v2])) b2 (.tup [.str "call",.str de,.ref b1])=H8 at Gw Qg Qf g1' g2'⊢;refine⟨_,rfl,_,_,rfl,rfl,⟨by decide,by decide⟩,_,_,rfl,rfl,(by show(0:Int)<3;decide),rfl,_,rfl,cL (λ_=>?_) (λ_=>?_)⟩
  ·refine⟨Z1,λm1 hm1=>⟨Z1,λm2 hm2=>?_⟩⟩;have s9:=ac hm1 (.tup [.str "mark"]);have OM:=ac hm2 (.tup [.ref m1]);refine⟨_,rfl,b2,_,2,_,rfl,rfl,b9.of ((s9.trans OM) _ _ Qf),rfl,m2,b1,[.ref m1],[v1,v2],rfl,rfl,aa,(s9.trans OM) _ _ Qg,cF (by show 1+2<=100000;decide),λm3 H11 Zc hm3=>⟨Z3,λm4 hm4=>?_⟩⟩;have C7:=ac hm4 (.tup [.str "call",.str "pick",.ref m3]);have sB:=Zc.trans C7;have sC:=s9.trans (OM.trans sB);refine⟨Ly.trans (Gw.trans sC),.call "pick" [.mark,u1,u2],_,_,_,_,_,rfl,cS aa (C7 _ _ hm3) (by show 3<=1000;decide) (Cp (eA ((OM.trans sB) _ _ aa)) (g9.same (am sC) u1 g1') (g9.same (am sC) u2 g2')),(TB.mark.NF Yj b2').le (by lia) (by lia)⟩
  ·exact⟨Ly.trans Gw,.call de [u1,u2],_,_,_,_,_,rfl,cS Qf Qg (by show 2<=1000;decide) (zx g1' g2'),(Yj.call2 b2').le (by lia) (by lia)⟩
 ·rintro σ H' ⟨sm,t,x,c',y4,y5,y6,rfl,ht,dt⟩;refine⟨_,rfl,_,_,rfl,rfl,⟨by decide,by decide⟩,_,_,rfl,rfl,(by show(0:Int)<4;decide),rfl,_,rfl,cL (λ_=>?_) (λ_=>⟨_,rfl,q t x H' sm ht (dt.le (by lia) (by lia))⟩)⟩;refine⟨Z1,λm1 hm1=>?_⟩;have s1:=ac hm1 (.tup [.str "mark"]);refine⟨_,rfl,_,rfl,_,rfl,_,_,rfl,rfl,⟨by decide,by decide⟩,kd,_,rfl,λt2 x2 H2 s2 GQ d2=>⟨Z3,λm2 hm2=>⟨Z3,λm3 hm3=>?_⟩⟩⟩;have s3:=ac hm2 (.tup [.ref m1,x,x2]);have s4:=ac hm3 (.tup [.str "call",.str "pick",.ref m2]);have sA:=s1.trans (s2.trans (s3.trans s4));refine⟨_,rfl,q (.call "pick" [.mark,t,t2]) _ _ (sm.trans sA) (cS aa (s4 _ _ aa) (by show 3<=1000;decide) (Cp (eA ((s2.trans (s3.trans s4)) _ _ aa)) (g9.same (am sA) t ht) (g9.same (am (s3.trans s4)) t2 GQ))) ((TB.mark.NF dt (d2.mono (λ_ h=>nomatch h) (aaI _) (ad6 _))).le (by lia) (by lia))⟩
theorem sH{m:Int}(h0:-1<=m)(h1:m<=3):∃kd:Str,Dp [V.str "num",V.str "text",V.str "row",V.str "num"] m=some (.str kd)/\kd∈cK:=by
 have:m=-1\/m=0\/m=1\/m=2\/m=3:=by lia
 rcases this with rfl|rfl|rfl|rfl|rfl
 ·exact⟨"num",rfl,by decide⟩
 ·exact⟨"num",rfl,by decide⟩
 ·exact⟨"text",rfl,by decide⟩
 ·exact⟨"row",rfl,by decide⟩
 ·exact⟨"num",rfl,by decide⟩
structure NX(s:Sg):Prop where
 ok:∀p∈s.dn++s.up,Dg p
 nd:((s.dn++s.up).map Prod.fst).Nodup
 ld:s.dn.length<=2
 lu:s.up.length<=2
 tx:qd s.nm
structure CI(sg:List Sg):Prop where
 nm:∀s∈sg,wd s.nm
 g:∀s∈sg,NX s
 nd:(sg.map Sg.nm).Nodup
 l1:1<=sg.length
 l6:sg.length<=3
inductive qK(vs:List V)(H:Hp)(Q:VK)(e0:XK):Prop
 |mk (d:Addr) (cs:List Int):(vs=[.ref d])->H d=some (.lst (cs.map V.int))->20<=cs.length->cs.length<=140->(∀(a:Addr)(us:List V)(sg:List Sg)(EG:List Int)(H':Hp),Kp [d] H H'->H' d=some (.lst (EG.map V.int))->cs.length<=EG.length+5->EG.length<=140->H' a=some (.tup us)->g_ (p8 H') sg us->CI sg->Q (.ref a) H')->qK vs H Q e0
theorem uW{dn up:List (Str×Str)}(h1:∀(j:Nat) p,dn[j]?=some p->p.1=Dv c j)(h2:∀(j:Nat) p,up[j]?=some p->p.1=Dv c (2+(j:Int)))(l1:dn.length<=2)(l2:up.length<=2):((dn++up).map Prod.fst).Nodup:=by
 have key:∀j x,((dn++up).map Prod.fst)[j]?=some x->∃m:Int,x=Dv c m/\0<=m/\m<26/\(if j<dn.length then m=j else m=2+((j-dn.length:Nat):Int))/\j<dn.length+up.length:=λj x hx=>by
  rw[aaK]at hx;cases e:(dn++up)[j]? with
  |none=>rw[e]at hx;cases hx
  |some p=>
   rw[e]at hx;have hx:x=p.1:=(aa0 hx).symm;have hj:=ao e;rw[aaF]at hj;by_cases o9:j<dn.length
   ·rw[aa4 o9]at e;exact⟨j,by rw[hx,h1 j p e],by lia,by lia,by rw[aaY o9],hj⟩
   ·rw[abf (by lia)]at e;exact⟨2+((j-dn.length:Nat):Int),by rw[hx,h2 _ p e],by lia,by lia,by rw[aaR o9],hj⟩
 refine List.pairwise_iff_getElem.mpr λi j hi hj o9 he=>?_;obtain⟨m1,e1,a1,b1,c1,d1⟩:=key i _ (aaO hi);obtain⟨m2,e2,a2,b2,c2,d2⟩:=key j _ (aaO hj);rw[e1,e2]at he;have:=fU a1 b1 a2 b2 he;split at c1<;>split at c2<;>lia
variable{sg:List Sg}
theorem vw(h:∀(j:Nat) s,sg[j]?=some s->s.nm=Dv c j)(l:sg.length<=26):(sg.map Sg.nm).Nodup:=by refine List.pairwise_iff_getElem.mpr λi j hi hj o9 he=>?_;rw[aaG]at hi hj;rw[adm,adm,h i _ (aaO hi),h j _ (aaO hj)]at he;have:=fU (by lia) (by lia) (by lia) (by lia) he;lia
def KC(near off:Int)(D:Addr)(H0:Hp)(i:Nat)(acc:List V)(H':Hp):Prop:=∃EU:List (Str×Str),EU.length=i/\(∀(j:Nat) p,EU[j]?=some p->p.1=Dv near (off+(j:Int))/\p.2∈cK)/\g_ (w6 H') EU acc/\a_ H0 H'/\H' D=some (.lst acc)
theorem KC.step{near off:Int}{D:Addr}{H0:Hp}{acc:List V}{kd:Str}{t:Addr}(h:KC near off D H0 i acc H')(hk:kd∈cK)(ht:H' t=none)(hD:H0 D=none):KC near off D H0 (i+1) (acc++[.ref t]) (upd (upd H' t (.tup [.str (Dv near (off+(i:Int))),.str kd])) D (.lst (acc++[.ref t]))):=by
 obtain⟨EU,l,e,r,s,d⟩:=h;have s1:=ac ht (.tup [.str (Dv near (off+(i:Int))),.str kd]);have d1:=s1 _ _ d;have nt:t≠D:=λz=>by rw[z,d]at ht;cases ht
 refine⟨EU++[(Dv near (off+(i:Int)),kd)],by rw[aaF,l];rfl,λj p hp=>?_,?_,aL hD (s.trans s1),aa⟩
 ·by_cases hj:j<EU.length
  ·rw[aa4 hj]at hp;exact e j p hp
  ·rw[abf (by lia)]at hp;have hj0:j-EU.length=0:=by
    rcases adQ (j-EU.length)with h|h
    ·exact h
    ·rw[abL (by simp;lia)]at hp;cases hp
   rw[hj0]at hp;have:j=i:=by lia
   subst this;cases hp;exact⟨rfl,hk⟩
 ·have tD:d_ (upd H' t (.tup [.str (Dv near (off+(i:Int))),.str kd])) (upd (upd H' t (.tup [.str (Dv near (off+(i:Int))),.str kd])) D (.lst (acc++[.ref t]))):=aJ d1;exact(r.imp λ_ _ h=>w6.same ((am s1).trans tD) h).snoc ⟨t,rfl,tD _ _ aa⟩
theorem uY(X:Tx K mg T):i6 P w K mg base A6 2 T.Zs T.J7 ["_law_deck_here"] qK:=by
 have DY:=kW (P:=P) (w:=w) (base:=base) X;refine X.Oh.Dy C4 (λvs H Q E h=>?_) (λm_ A outer s H vs Q E hr h=>?_)
 ·obtain⟨_,_,rfl,_⟩:=h;rfl
 obtain⟨d,cs,rfl,hd,l20,l90,q⟩:=h;refine⟨_,(ag (au (i:=1) C4.nd rfl oI1 (cI aaL abj abi cO (qv 0))) (ag (au (i:=2) C4.nd rfl oJ1 (aR (n_ aA (n_ aA (n_ aA (n_ aA ae)))))) (ag (au (i:=3) C4.nd rfl oI1 (aR ae)) (ag (bh aa8 rfl (aZ rfl X.z_range (Dx (ar bJ af (ar aN (cI aaL abj abi cO (qv 0)) af)) ae)) (ay (i:=4) C4.nd rfl oI1) (ag (au (i:=5) C4.nd rfl oJ1 (cI aaL abj abi cO (qv 0))) (ag (au (i:=6) C4.nd rfl oJ1 (aj aO (aR (b_ (qv 5) (b_ (qv 1) ae))) (ar aN (qv 1) af))) (ag (eB (ys:=["_law_kinds", "_law_cell", "_law_near"]) (js:=[2,5,6]) rfl rfl (aZ rfl X.z_range (Dx (ar aN (qv 5) af) ae)) (λ_ _ _ _ _=>bE) (λ_ _ _ _ _=>(aq (Dw (aw DY hr rfl X.Ey X.Eg.kp X.EH .nil bg (b_ (qv 3) (b_ (qv 0) ae))) (q_ (aj (fP (K:=K) rfl) (qv 1) (ar dm (ar aN (ar aU (qv 2) af) af) (qv 0))) ae)))) (ay (i:=7) C4.nd rfl oI1) rfl) (ag (eB (ys:=["_law_kinds", "_law_cell", "_law_near"]) (js:=[2,5,6]) rfl rfl (aZ rfl X.z_range (q_ (aj aO (aR (n_ af (n_ af (n_ af (n_ af (n_ af ae)))))) (ar aN (ar aU (qv 5) af) af)) ae)) (λ_ _ _ _ _=>bE) (λ_ _ _ _ _=>(aq (Dw (aw DY hr rfl X.Ey X.Eg.kp X.EH .nil bg (b_ (qv 3) (Dx (ar bJ af (qv 0)) ae))) (q_ (aj (fP (K:=K) rfl) (qv 1) (ar dm (ar aN (ar aU (qv 2) af) af) (qv 0))) ae)))) (ay (i:=8) C4.nd rfl oI1) rfl) (ai (bK (eL aaL abo abn bo (qv 3) (u9 (aq (Dw (aw DY hr rfl X.Ey X.Eg.kp X.EH .nil bg (b_ (qv 1) (b_ (qv 4) ae))) (Dw (bf be rfl X.z_tuple abq (b_ (qv 7) ae)) (Dw (bf be rfl X.z_tuple abq (b_ (qv 8) ae)) ae)))) ae))))))))) (ai (aG (bf be rfl X.z_tuple abq (b_ (qv 3) ae)))))))),?_⟩;dsimp only[cg];obtain⟨El,w0,rfl⟩:=bY (l:=cs) (by lia);rw[aaF,aaS]at l20 l90;have hd:H d=some (.lst (El.map V.int++[.int w0])):=by rw[hd,aaX];rfl
 refine⟨_,rfl,.inl ⟨rfl,_,d9.of hd⟩,d,_,.int w0,rfl,rfl,hd,by simp,?_⟩;dsimp only;rw[abh];have k2:Kp [d] H (upd H d (.lst (El.map V.int))):=(Kp.refl _ _).upd (by simp);have hd2:=aa (H:=H) (a:=d) (o:=.lst (El.map V.int));generalize upd H d (.lst (El.map V.int))=H2 at k2 hd2⊢;refine⟨Z4,λka hka=>?_⟩;have s3:=ac hka (.lst [V.str "num",V.str "text",V.str "row",V.str "num"]);have Ug:=aa (H:=H2) (a:=ka) (o:=.lst [V.str "num",V.str "text",V.str "row",V.str "num"]);have nka:ka≠d:=λz=>by rw[z,hd2]at hka;cases hka
 refine⟨Z0,λr y_=>?_⟩;have s4:=ac y_ (.lst []);have nr:r≠d:=λz=>by rw[z,s3 _ _ hd2]at y_;cases y_
 have nrk:ka≠r:=λz=>by rw[<-z,Ug]at y_;cases y_
 have Hy:=aa (H:=upd H2 ka (.lst [V.str "num",V.str "text",V.str "row",V.str "num"])) (a:=r) (o:=.lst []);have Ud:=s4 _ _ Ug;have Fp:=s3.trans s4;have FH:=Fp _ _ hd2;have r0:H r=none:=k2.free (s3.free y_) (by simpa using nr);have k5:=k2.same Fp;generalize upd (upd H2 ka (.lst [V.str "num",V.str "text",V.str "row",V.str "num"])) r (.lst [])=H5 at k5 Hy Ud FH⊢;obtain⟨Kv,c3,rfl⟩:=bY (l:=El) (by lia);rw[aaF,aaS]at l20 l90;have FH:H5 d=some (.lst (Kv.map V.int++[.int c3])):=by rw[FH,aaX];rfl
 refine⟨_,rfl,.inl ⟨rfl,_,d9.of FH⟩,d,_,.int c3,rfl,rfl,FH,by simp,?_⟩;rw[abh];have c40:=abc c3 (show(3:Int)≠0 by decide);have c41:=aa5 c3 (show(0:Int)<3 by decide);refine⟨_,_,rfl,rfl,(by show(0:Int)<3;decide),_,_,rfl,rfl,_,rfl,by lia,by lia,?_⟩;have k6:Kp [d] H (upd H5 d (.lst (Kv.map V.int))):=k5.upd (by simp);have Ip:=aa (H:=H5) (a:=d) (o:=.lst (Kv.map V.int));have Li:upd H5 d (.lst (Kv.map V.int)) r=some (.lst []):=by rw[al nr];exact Hy
 have Uc:upd H5 d (.lst (Kv.map V.int)) ka=some (.lst [V.str "num",V.str "text",V.str "row",V.str "num"]):=by rw[al nka];exact Ud
 generalize upd H5 d (.lst (Kv.map V.int))=H6 at k6 Ip Li Uc⊢;refine bN (n:=(1+c3%3).toNat) (λi σ H'=>∃(ds:List Int)(sg:List Sg)(us:List V)(x5 x6 x7 x8 x9:Option V),σ=[some (.ref d),some (.int w0),some (.ref ka),some (.ref r),x5,x6,x7,x8,x9]/\Kp [d,r] H6 H'/\H' d=some (.lst (ds.map V.int))/\ds.length+i=Kv.length/\H' r=some (.lst us)/\g_ (p8 H') sg us/\sg.length=i/\(∀s∈sg,NX s)/\(∀(j:Nat) s,sg[j]?=some s->s.nm=Dv w0 j))
  ⟨Kv,[],[],none,none,none,none,none,rfl,Kp.refl _ _,Ip,rfl,Li,.nil,rfl,(λs hs=>nomatch hs),(λj s h=>by simp at h)⟩ ?_ ?_
 ·rintro i σ H' hi ⟨ds,sg,us,x5,x6,x7,x8,x9,rfl,kp,A_,ld,Ih,v_,Xg,gd,DP⟩;have hi6:i<3:=by lia
  have Ei:=v_.len;obtain⟨z_,c,rfl⟩:=bY (l:=ds) (by simp at l20;lia);rw[aaF,aaS]at ld;have A_:H' d=some (.lst (z_.map V.int++[.int c])):=by rw[A_,aaX];rfl
  refine⟨_,rfl,.inl ⟨rfl,_,d9.of A_⟩,d,_,.int c,rfl,rfl,A_,by simp,?_⟩;dsimp only;rw[abh];have T1:d_ H' (upd H' d (.lst (z_.map V.int))):=aJ A_;have Ft:Kp [d,r] H6 (upd H' d (.lst (z_.map V.int))):=kp.upd (by simp);have EO:=aa (H:=H') (a:=d) (o:=.lst (z_.map V.int));have JG:upd H' d (.lst (z_.map V.int)) r=some (.lst us):=by rw[al nr];exact Ih
  have Tf:g_ (p8 (upd H' d (.lst (z_.map V.int)))) sg us:=v_.imp λ_ _ h=>p8.same T1 h;generalize upd H' d (.lst (z_.map V.int))=G1 at Ft EO JG Tf⊢;have hka1:=Ft _ _ (by simp;exact⟨nka,nrk⟩) Uc;refine⟨_,rfl,_,rfl,Z2,λa2 h2=>?_⟩;have s2:=ac h2 (.lst [.int c,.int w0]);obtain⟨near,TJ⟩:∃near:Int,Dp [V.int c,V.int w0] (w0%2)=some (.int near):=by
   have:w0%2=0\/w0%2=1:=by lia
   rcases this with e|e<;>rw[e]<;>exact⟨_,rfl⟩
  refine⟨_,rfl,_,_,rfl,rfl,(by show(0:Int)<2;decide),a2,_,_,.int near,rfl,rfl,d9.of aa,TJ,?_⟩;have PX:=s2 _ _ hka1;generalize upd G1 a2 (.lst [.int c,.int w0])=G2 at s2 PX⊢;have c30:=abc c (show(3:Int)≠0 by decide);have c31:=aa5 c (show(0:Int)<3 by decide);refine⟨_,rfl,_,_,rfl,rfl,(by show(0:Int)<3;decide),_,rfl,by lia,by lia,λD hD=>?_⟩;refine cR (λj acc G=>KC near 0 D G2 j acc G) (abz (show(c%3).toNat<=1000 by lia) (by decide)) ⟨[],rfl,(λj p h=>by simp at h),.nil,ac hD _,aa⟩ (by rintro j acc G ⟨EU,l,_,r,_,d⟩;exact⟨d,by rw[r.len,l]⟩) ?_ ?_
  ·rintro j m' acc G hj I Mb;have I':=I;obtain⟨EU,l,e,rr,sm,dd⟩:=I';obtain⟨kd,PV,mk⟩:=sH (m:=c / 27%4-(0+(j:Int))) (by lia) (by lia);refine⟨_,rfl,_,rfl,near,_,rfl,_,rfl,_,rfl,_,_,rfl,rfl,⟨by decide,by decide⟩,_,_,rfl,rfl,(by show(0:Int)<4;decide),_,rfl,_,_,rfl,rfl,ka,_,_,.str kd,rfl,rfl,d9.of (sm _ _ PX),PV,Z2,λt ht=>?_⟩;exact fH hj Mb (ac ht _ _ _ dd) (I.step mk ht hD)
  rintro FA G3 ⟨dn,ldn,edn,rdn,s3',GB⟩;have SS:dn.length<=2:=by lia
  have W4:=s2.trans s3';refine⟨Z5,λa4 h4=>?_⟩;have W3:=ac h4 (.lst [.int 1,.int 2,.int 2,.int 1,.int 0]);obtain⟨u,hu,u0,u2⟩:∃u:Int,Dp [V.int 1,V.int 2,V.int 2,V.int 1,V.int 0] (c / 3%5)=some (.int u)/\0<=u/\u<=2:=by
   have:c / 3%5=0\/c / 3%5=1\/c / 3%5=2\/c / 3%5=3\/c / 3%5=4:=by lia
   rcases this with e|e|e|e|e<;>rw[e]<;>exact⟨_,rfl,by decide,by decide⟩
  refine⟨_,rfl,_,_,rfl,rfl,⟨by decide,by decide⟩,_,_,rfl,rfl,(by show(0:Int)<5;decide),a4,_,_,.int u,rfl,rfl,d9.of aa,hu,?_⟩;have s24:=W4.trans W3;have Ue:=(s3'.trans W3) _ _ PX;have JR:=W3 _ _ GB;have RV:g_ (w6 (upd G3 a4 (.lst [.int 1,.int 2,.int 2,.int 1,.int 0]))) dn FA:=rdn.imp λ_ _ h=>w6.same (am W3) h;generalize upd G3 a4 (.lst [.int 1,.int 2,.int 2,.int 1,.int 0])=G4 at s24 Ue JR RV⊢;refine⟨_,rfl,by lia,by lia,λD2 Dz=>?_⟩;refine cR (λj acc G=>KC near 2 D2 G4 j acc G) (abz (show u.toNat<=1000 by lia) (by decide)) ⟨[],rfl,(λj p h=>by simp at h),.nil,ac Dz _,aa⟩ (by rintro j acc G ⟨EU,l,_,r,_,d⟩;exact⟨d,by rw[r.len,l]⟩) ?_ ?_
  ·rintro j m' acc G hj I Mb;have I':=I;obtain⟨EU,l,e,rr,sm,dd⟩:=I';obtain⟨kd,PV,mk⟩:=sH (m:=c / 108%4-(0+(j:Int))) (by lia) (by lia);have ej:(2:Int)+(0+(j:Int))=2+(j:Int):=by lia
   refine⟨_,rfl,_,rfl,_,_,rfl,rfl,near,_,rfl,_,rfl,_,rfl,_,_,rfl,rfl,⟨by decide,by decide⟩,_,_,rfl,rfl,(by show(0:Int)<4;decide),_,rfl,_,_,rfl,rfl,ka,_,_,.str kd,rfl,rfl,d9.of (sm _ _ Ue),PV,Z2,λt ht=>?_⟩;rw[ej];exact fH hj Mb (ac ht _ _ _ dd) (I.step mk ht Dz)
  rintro HS G5 ⟨up,lup,eup,rup,Zb,GA⟩;have SM:up.length<=2:=by lia
  have hD5':=Zb _ _ JR;have Zf:g_ (w6 G5) dn FA:=RV.imp λ_ _ h=>w6.same (am Zb) h;have sA:=s24.trans Zb;have hrA:=sA _ _ JG;have hdA:=sA _ _ EO;refine⟨_,rfl,.inl ⟨rfl,_,d9.of hrA⟩,_,rfl,_,rfl,w0,_,rfl,_,rfl,D,FA,rfl,.inl ⟨d9.of hD5',λt1 FW=>?_⟩⟩;have z1:=ac FW (.tup FA);refine⟨_,rfl,D2,HS,rfl,.inl ⟨d9.of (z1 _ _ GA),λt2 GQ=>?_⟩⟩;have z2:=ac GQ (.tup HS);refine⟨Z3,λt3 L5=>?_⟩;have e0:(0+(i:Int))=(i:Int):=by lia
  rw[e0];have z3:=ac L5 (.tup [.str (Dv w0 (i:Int)),.ref t1,.ref t2]);have zz:=z1.trans (z2.trans z3);have hrZ:=zz _ _ hrA;refine⟨r,us,_,rfl,rfl,hrZ,bO (by lia),?_⟩;have g1:=(z2.trans z3) _ _ (aa (H:=G5) (a:=t1) (o:=.tup FA));have g2:=z3 _ _ (aa (H:=upd G5 t1 (.tup FA)) (a:=t2) (o:=.tup HS));have g3:=aa (H:=upd (upd G5 t1 (.tup FA)) t2 (.tup HS)) (a:=t3) (o:=.tup [.str (Dv w0 (i:Int)),.ref t1,.ref t2]);generalize upd (upd (upd G5 t1 (.tup FA)) t2 (.tup HS)) t3 (.tup [.str (Dv w0 (i:Int)),.ref t1,.ref t2])=G6 at zz hrZ g1 g2 g3⊢;have TL:d_ G6 (upd G6 r (.lst (us++[.ref t3]))):=aJ hrZ;have TA:=(am (sA.trans zz)).trans TL;have TB:=(am zz).trans TL;refine⟨z_,sg++[⟨Dv w0 (i:Int),dn,up⟩],us++[.ref t3],_,_,_,_,_,rfl,(Ft.same (sA.trans zz)).upd (by simp),by rw[al nr.symm];exact zz _ _ hdA,by lia,aa,?_,by rw[aaF,Xg];rfl,?_,?_⟩
  ·exact(Tf.imp λ_ _ h=>p8.same TA h).snoc ⟨t3,t1,t2,FA,HS,rfl,TL _ _ g3,TL _ _ g1,Zf.imp λ_ _ h=>w6.same TB h,TL _ _ g2,rup.imp λ_ _ h=>w6.same TB h⟩
  ·intro s hs;rcases List.mem_append.mp hs with h|h
   ·exact gd s h
   ·rw[List.mem_singleton.mp h];refine⟨λp hp=>?_,uW (c:=near) (λj p hp=>by have:=(edn j p hp).1;rw[this,show(0:Int)+(j:Int)=(j:Int)by lia]) (λj p hp=>(eup j p hp).1) SS SM,SS,SM,zr _ _⟩;rcases List.mem_append.mp hp with h|h
    ·obtain⟨j,hj⟩:=abm h;obtain⟨h1,h2⟩:=edn j p hj;exact⟨by rw[h1];exact fv _ _,h2⟩
    ·obtain⟨j,hj⟩:=abm h;obtain⟨h1,h2⟩:=eup j p hj;exact⟨by rw[h1];exact fv _ _,h2⟩
  ·intro j s hs;by_cases hj:j<sg.length
   ·rw[aa4 hj]at hs;exact DP j s hs
   ·rw[abf (by lia)]at hs;have hj0:j-sg.length=0:=by
     rcases adQ (j-sg.length)with h|h
     ·exact h
     ·rw[abL (by simp;lia)]at hs;cases hs
    rw[hj0]at hs;cases hs;have:j=i:=by lia
    subst this;rfl
 ·rintro σ H' ⟨ds,sg,us,x5,x6,x7,x8,x9,rfl,kp,A_,ld,Ih,v_,Xg,gd,DP⟩;have Ei:=v_.len;refine⟨_,rfl,r,_,rfl,.inl ⟨d9.of Ih,λa ha=>?_⟩⟩;have s7:=ac ha (.tup us);refine q a us sg ds _ (λb o n h=>?_) (s7 _ _ A_) (by simp;lia) (by lia) aa (v_.imp λ_ _ h=>p8.same (am s7) h) ⟨λs hs=>by obtain⟨j,hj⟩:=abm hs;rw[DP j s hj];exact fv _ _,gd,vw DP (by lia),by lia,by lia⟩;have nb:b≠r:=λz=>by rw[z,r0]at h;cases h
  exact s7 _ _ (kp b o (by simp;exact⟨by simpa using n,nb⟩) (k6 b o n h))
noncomputable def rk(N k j b:Nat):Int:=100*(j:Int)+(if k=0 then 99*(b:Int)else 2*(if j=0 then(k:Int)else(N:Int)-k)+b)
noncomputable def Eh(N k b:Nat):Nat->List (Str×Str)->List Vl
 |_,[]=>[]
 |j,p::r=>((k:Int),p.1,p.2,rk N k j b,(b:Int))::Eh N k b (j+1) r
theorem wH(N k b:Nat):∀(ps:List (Str×Str))(j i:Nat)(p:Str×Str),ps[i]?=some p->(Eh N k b j ps)[i]?=some ((k:Int),p.1,p.2,rk N k (j+i) b,(b:Int))
 |[],j,i,p,h=>by simp at h
 |x::r,j,0,p,h=>by
  simp at h;subst h;rfl
 |x::r,j,i+1,p,h=>by have:=wH N k b r (j+1) i p (by simpa using h);rw[Eh,acg,this,show j+1+i=j+(i+1)by lia]
theorem iM(N k b:Nat):∀(ps:List (Str×Str))(j:Nat),(Eh N k b j ps).length=ps.length
 |[],j=>rfl
 |x::r,j=>by rw[Eh,aaM,aaM,iM N k b r (j+1)]
theorem eC(N k b:Nat):∀(ps:List (Str×Str))(j:Nat)(e:Vl),e∈Eh N k b j ps->∃(i:Nat)(p:Str×Str),ps[i]?=some p/\e=((k:Int),p.1,p.2,rk N k (j+i) b,(b:Int))
 |[],j,e,h=>nomatch h
 |x::r,j,e,h=>by
  rw[Eh]at h;rcases List.mem_cons.mp h with rfl|h
  ·exact⟨0,x,rfl,rfl⟩
  ·obtain⟨i,p,h1,h2⟩:=eC N k b r (j+1) e h;exact⟨i+1,p,by simpa using h1,by rw[h2,show j+1+i=j+(i+1)by lia]⟩
theorem kU(N k b:Nat):∀(ps:List (Str×Str))(j:Nat),(Eh N k b j ps).map ip=ps.map λp=>((k:Int),p.1)
 |[],j=>rfl
 |x::r,j=>by rw[Eh,aa7,aa7,kU N k b r (j+1)];rfl
noncomputable def cq(N k:Nat)(s:Sg)(b:Nat):List Vl:=Eh N k b 0 (if b=0 then s.dn else s.up)
noncomputable def z8(N k:Nat):List Sg->List Vl
 |[]=>[]
 |s::r=>cq N k s 0++cq N k s 1++z8 N (k+1) r
theorem ma(N:Nat):∀(ss:List Sg)(k:Nat)(s:Sg),z8 N k (ss++[s])=z8 N k ss++(cq N (k+ss.length) s 0++cq N (k+ss.length) s 1)
 |[],k,s=>by simp[z8]
 |x::ss,k,s=>by
  rw[abZ,z8,z8,ma N ss (k+1) s,abr,abr,abr,aaM];have e:k+1+ss.length=k+(ss.length+1):=by lia
  rw[e]
structure WO(sg:List Sg)(at_:List Nat)(ss:List Sg):Prop where
 l:ss.length=at_.length
 e:∀(i n:Nat),at_[i]?=some n->∃s,sg[n]?=some s/\ss[i]?=some s
noncomputable def Fb(at_:List Nat):List V:=at_.map λ(n:Nat)=>V.int (n:Int)
inductive mi(vs:List V)(H:Hp)(Q:VK)(e0:XK):Prop
 |mk (a l:Addr) (us:List V) (sg ss:List Sg) (at_:List Nat):(vs=[.ref a,.ref l])->H a=some (.tup us)->g_ (p8 H) sg us->H l=some (.tup (Fb at_))->WO sg at_ ss->at_.length<=10->(∀s∈sg,NX s)->(∀(D:Addr)(xs:List V)(H':Hp),a_ H H'->H D=none->H' D=some (.lst xs)->g_ (z0 H') (z8 at_.length 0 ss) xs->Q (.ref D) H')->mi vs H Q e0
theorem rS(X:Tx K mg T):i6 P w K mg base A6 1 T.Zz T.Kc ["_law_signs_here", "_law_at"] mi:=by
 refine X.Oo.Dy DD (λvs H Q E h=>?_) (λm_ A outer s H vs Q E hr h=>?_)
 ·obtain⟨_,_,_,_,_,_,rfl,_⟩:=h;rfl
 obtain⟨a,l,us,sg,ss,at_,rfl,ha,v_,hl,Iw,l10,gd,q⟩:=h;refine⟨_,(ag (au (i:=2) DD.nd rfl oI1 (aR ae)) (ag (bh aa8 rfl (aZ rfl X.z_range (Dw (aB av rfl X.z_len aa6 (b_ (qv 1) ae)) ae)) (ay (i:=3) DD.nd rfl oI1) (ai (bh aa8 rfl (aZ rfl X.z_range (n_ af ae)) (ay (i:=4) DD.nd rfl oI1) (ag (au (i:=5) DD.nd rfl oI1 (aj ak (aj ak (qv 0) (aj ak (qv 1) (qv 3))) (ar bJ af (qv 4)))) (ai (bh aa8 rfl (aZ rfl X.z_range (Dw (aB av rfl X.z_len aa6 (b_ (qv 5) ae)) ae)) (ay (i:=6) DD.nd rfl oI1) (ag (au (i:=7) DD.nd rfl oI1 (ar bJ (ar dE af (qv 6)) (aj aO (aR (Dx (ar bJ (ar dE af (aj aO (aR (b_ (qv 3) (Dx (ar dm (aB av rfl X.z_len aa6 (b_ (qv 1) ae)) (qv 3)) ae))) (qv 6))) (qv 4)) (Dx (ar dE af (qv 4)) ae))) (bf kr rfl X.z_int adA (qaM (fc bS (qv 3) af (aS _)) ae))))) (ai (bK (eL aaL abo abn bo (qv 2) (u9 (aq (b_ (qv 3) (q_ (aj ak (aj ak (qv 5) (qv 6)) af) (q_ (aj ak (aj ak (qv 5) (qv 6)) af) (b_ (qv 7) (b_ (qv 4) ae)))))) ae))))))))))) (ai (aG (qv 2))))),?_⟩;dsimp only[cg];have lss:=Iw.l;refine⟨Z0,λD hD=>?_⟩;have s0:=ac hD (.lst []);have lat:(Fb at_).length=at_.length:=by unfold Fb;rw[aaG]
 refine⟨_,rfl,l,_,rfl,.inr (b9.of (s0 _ _ hl)),_,rfl,by lia,by lia,?_⟩;refine bN (n:=((Fb at_).length:Int).toNat) (λi σ H'=>∃(xs:List V)(x3 x4 x5 x6 x7:Option V),σ=[some (.ref a),some (.ref l),some (.ref D),x3,x4,x5,x6,x7]/\a_ H H'/\H' D=some (.lst xs)/\g_ (z0 H') (z8 at_.length 0 (ss.take i)) xs/\xs.length<=4*i) ⟨[],none,none,none,none,none,rfl,s0,aa,.nil,aa3 _⟩ ?_ ?_
 ·rintro i σ H' hi ⟨xs,x3,x4,x5,x6,x7,rfl,sm,Iu,Po,QV⟩;have hi:i<at_.length:=by lia
  obtain⟨n,hn⟩:∃n,at_[i]?=some n:=⟨_,aaO hi⟩
  obtain⟨s,hs,Fu⟩:=Iw.e i n hn;have gs:=gd s (aaD hs);have ltk:(ss.take i).length=i:=by rw[aaZ];lia
  have e0:(0+(i:Int))=(i:Int):=by lia
  obtain⟨v,hv,hsv⟩:=bw v_ hs;obtain⟨p,da,ua,IP,IA,rfl,hp,Mm,Gz,Pt,Hu⟩:=hsv;refine⟨_,rfl,(by decide),(by decide),?_⟩;refine bN (n:=2) (λb σ H2=>∃(ys:List V)(y4 y5 y6 y7:Option V),σ=[some (.ref a),some (.ref l),some (.ref D),some (.int (i:Int)),y4,y5,y6,y7]/\a_ H H2/\H2 D=some (.lst ys)/\g_ (z0 H2) (z8 at_.length 0 (ss.take i)++(List.range b).flatMap (cq at_.length i s)) ys/\ys.length<=4*i+2*b/\b<=2) ⟨xs,_,_,_,_,by rw[e0];rfl,sm,Iu,by simpa using Po,by lia,by decide⟩ ?_ ?_
  ·rintro b σ H2 hb ⟨ys,y4,y5,y6,y7,rfl,Hn,Dz,Ez,QU,b2⟩;have IG:=Hn _ _ hp;have eb:(0+(b:Int))=(b:Int):=by lia
   obtain⟨ra,FD,Jj,Tp,PH,C8,lrp,erp⟩:∃(ra:Addr)(FD:List V)(Jj:List (Str×Str)),H ra=some (.tup FD)/\g_ (w6 H) Jj FD/\Dp [V.str s.nm,V.ref da,V.ref ua] (1+(0+(b:Int)))=some (.ref ra)/\Jj.length<=2/\cq at_.length i s b=Eh at_.length i b 0 Jj:=by
    have:b=0\/b=1:=by lia
    rcases this with rfl|rfl
    ·exact⟨da,IP,s.dn,Mm,Gz,rfl,gs.ld,rfl⟩
    ·exact⟨ua,IA,s.up,Pt,Hu,rfl,gs.lu,rfl⟩
   have lr:=PH.len;refine⟨_,rfl,_,rfl,_,rfl,l,_,_,.int (n:Int),rfl,rfl,b9.of (Hn _ _ hl),aV (by unfold Fb;rw[aaK,hn];rfl),a,_,_,.ref p,rfl,rfl,b9.of (Hn _ _ ha),aV hv,_,rfl,_,_,rfl,rfl,p,_,_,.ref ra,rfl,rfl,b9.of IG,C8,?_⟩;refine⟨_,rfl,ra,_,rfl,.inr (b9.of (Hn _ _ Tp)),_,rfl,by lia,by lia,?_⟩;have lpl:=iM at_.length i b Jj 0;refine bN (n:=(FD.length:Int).toNat) (λj σ H3=>∃(zs:List V)(z6 z7:Option V),σ=[some (.ref a),some (.ref l),some (.ref D),some (.int (i:Int)),some (.int (0+(b:Int))),some (.ref ra),z6,z7]/\a_ H H3/\H3 D=some (.lst zs)/\g_ (z0 H3) (z8 at_.length 0 (ss.take i)++(List.range b).flatMap (cq at_.length i s)++(Eh at_.length i b 0 Jj).take j) zs/\zs.length<=4*i+2*b+j) ⟨ys,_,_,rfl,Hn,Dz,by simpa using Ez,by lia⟩ ?_ ?_
   ·rintro j σ H3 hj ⟨zs,z6,z7,rfl,Lz,GB,GO,lzs⟩;have Mf:j<Jj.length:=by lia
    obtain⟨⟨nm,kd⟩,Xo⟩:=ax Mf;obtain⟨v3,hv3,q3,rfl,hq3⟩:=bw PH Xo;have ej:(0+(j:Int))=(j:Int):=by lia
    have hj2:j=0\/j=1:=by lia
    have Ek:=Lz _ _ hl;obtain⟨x,hx,ex⟩:∃x:Int,Dp [V.int (i:Int),V.int (((Fb at_).length:Int)-(i:Int))] (0+(j:Int))=some (.int x)/\x=if j=0 then(i:Int)else(at_.length:Int)-i:=by
     rw[lat];rcases hj2 with rfl|rfl
     ·exact⟨_,rfl,rfl⟩
     ·exact⟨_,rfl,rfl⟩
    refine⟨_,rfl,_,_,rfl,rfl,.inl ⟨by decide,by decide⟩,_,rfl,_,rfl,l,_,rfl,.inr (b9.of Ek),_,rfl,_,_,rfl,rfl,Z2,λl1 h1=>?_⟩;have u1:=ac h1 (.lst [V.int (i:Int),V.int (((Fb at_).length:Int)-(i:Int))]);refine⟨_,rfl,l1,_,_,.int x,rfl,rfl,d9.of aa,hx,_,_,rfl,rfl,.inl ⟨by decide,by decide⟩,_,rfl,_,_,rfl,rfl,_,rfl,_,_,rfl,rfl,.inl ⟨by decide,by decide⟩,Z2,λl2 h2=>?_⟩;have u2:=ac h2 (.lst [V.int (2*x+(0+(b:Int))),V.int (99*(0+(b:Int)))]);obtain⟨y,hy,ey⟩:∃y:Int,Dp [V.int (2*x+(0+(b:Int))),V.int (99*(0+(b:Int)))] (if decide (V.int (i:Int)=V.int 0)=true then 1 else 0)=some (.int y)/\y=if i=0 then 99*(b:Int)else 2*x+b:=by
     rw[eb];by_cases h:i=0
     ·subst h;rw[abb (show V.int ((0:Nat):Int)=V.int 0 from rfl),aaY rfl];exact⟨_,rfl,by rw[aaY rfl]⟩
     ·rw[aaW (λz=>h (by have:=V.int.inj z;lia)),aaR (by simp)];exact⟨_,rfl,by rw[aaR h]⟩
    refine⟨_,rfl,rfl,.inr ⟨_,rfl,l2,_,_,.int y,rfl,rfl,d9.of aa,hy,_,_,rfl,rfl,?_⟩⟩;have erk:100*(0+(j:Int))+y=rk at_.length i j b:=by unfold rk;rw[ej,ey,ex]
    have La:=u1.trans u2;have JR:=La _ _ GB;have PJ:=La _ _ (Lz _ _ Tp);have hq4:=La _ _ (Lz _ _ hq3);have Gv:=Lz.trans La;have S3:=GO.imp λ_ _ h=>z0.same (am La) h;dsimp only;rw[erk];generalize upd (upd H3 l1 (.lst [V.int (i:Int),V.int (((Fb at_).length:Int)-(i:Int))])) l2 (.lst [V.int (2*x+(0+(b:Int))),V.int (99*(0+(b:Int)))])=H4 at JR PJ hq4 Gv S3⊢;have Mo:Dp FD (0+(j:Int))=some (.ref q3):=by rw[ej];exact aV hv3
    refine⟨_,rfl,.inl ⟨rfl,_,d9.of JR⟩,_,rfl,_,rfl,_,rfl,ra,_,_,.ref q3,rfl,rfl,b9.of PJ,Mo,q3,_,0,.str nm,rfl,rfl,b9.of hq4,rfl,_,rfl,_,rfl,ra,_,_,.ref q3,rfl,rfl,b9.of PJ,Mo,q3,_,1,.str kd,rfl,rfl,b9.of hq4,rfl,_,rfl,_,rfl,Z5,λt ht=>?_⟩;have s4:=ac ht (.tup [.int (i:Int),.str nm,.str kd,.int (rk at_.length i j b),.int (0+(b:Int))]);have GA:=s4 _ _ JR;refine⟨D,zs,_,rfl,rfl,GA,bO (by lia),zs++[.ref t],_,_,rfl,aL hD (Gv.trans s4),aa,?_,by rw[aaF,aaS];lia⟩;have hpe:=wH at_.length i b Jj 0 j _ Xo;rw[aH hpe,<-abr];have TL:=aJ (ys:=zs++[.ref t]) GA;refine(S3.imp λ_ _ h=>z0.same ((am s4).trans TL) h).snoc ⟨t,rfl,TL _ _ ?_⟩;rw[aa,eb,acA]
   ·rintro σ H3 ⟨zs,z6,z7,rfl,Lz,GB,GO,lzs⟩;rw[show(Eh at_.length i b 0 Jj).take (FD.length:Int).toNat=Eh at_.length i b 0 Jj from aa2 (by lia)]at GO;refine⟨zs,_,_,_,_,rfl,Lz,GB,?_,by lia,by lia⟩;rw[List.range_succ,List.flatMap_append,<-abr];have e1:[b].flatMap (cq at_.length i s)=Eh at_.length i b 0 Jj:=by rw[<-erp];simp
    rw[e1];exact GO
  ·rintro σ H2 ⟨ys,y4,y5,y6,y7,rfl,Hn,Dz,Ez,QU,b2⟩;refine⟨ys,_,_,_,_,_,rfl,Hn,Dz,?_,by lia⟩;rw[aH Fu,ma,ltk,acA];have e:(List.range 2).flatMap (cq at_.length i s)=cq at_.length i s 0++cq at_.length i s 1:=by
    show(List.range 2).flatMap _=_;rw[show List.range 2=[0,1]from rfl];simp
   rw[<-e];exact Ez
 ·rintro σ H' ⟨xs,x3,x4,x5,x6,x7,rfl,sm,Iu,Po,QV⟩;rw[aa2 (by lia)]at Po;exact⟨_,rfl,q D xs H' sm hD Iu Po⟩
noncomputable def dL(k:Nat):List Sg->List (Int×Str)
 |[]=>[]
 |s::r=>(if k=0 then s.up else s.dn).map (λp=>((k:Int),p.1))++dL (k+1) r
theorem gF:∀(ss:List Sg)(k:Nat),(∀s∈ss,NX s)->(dL k ss).length<=2*ss.length
 |[],k,_=>by rw[dL];simp
 |s::r,k,h=>by rw[dL,aaF,aaG,aaM];have h1:=h s (by simp);have h2:=gF r (k+1) λx hx=>h x (by simp[hx]);have l1:=h1.ld;have l2:=h1.lu;split<;>lia
theorem iU{α:Type}{R:α->V->Prop}:∀{as:List α}{vs:List V}(k:Nat),g_ R as vs->g_ R (as.drop k) (vs.drop k)
 |_,_,_,.nil=>by rw[List.drop_nil,List.drop_nil];exact .nil
 |_,_,0,.cons x y=>.cons x y
 |_,_,k+1,.cons x y=>by rw[List.drop_succ_cons,List.drop_succ_cons];exact iU k y
theorem mV{α:Type}{R:α->V->Prop}:∀{as:List α}{vs:List V}(k:Nat),g_ R as vs->g_ R (as.take k) (vs.take k)
 |_,_,_,.nil=>by rw[adM,adM];exact .nil
 |_,_,0,.cons x y=>.nil
 |_,_,k+1,.cons x y=>by rw[adI,adI];exact .cons x (mV k y)
variable{at_:List Nat}{ss:List Sg}
theorem WO.mem(h:WO sg at_ ss):∀s∈ss,s∈sg:=λs hs=>by
 obtain⟨i,hi⟩:=abm hs;have hl:=ao hi;obtain⟨n,hn⟩:∃n,at_[i]?=some n:=⟨_,aaO (by have:=h.l;lia)⟩
 obtain⟨s',h1,h2⟩:=h.e i n hn;rw[hi]at h2;cases h2;exact aaD h1
noncomputable def lP(e:Vl):Bool:=decide (V.bl (decide (V.int e.1=V.int 0))=V.bl (decide (V.int e.2.2.2.2=V.int 1)))
noncomputable def pS(N:Nat)(ss:List Sg):List (Int×Str):=((z8 N 0 ss).filter lP).map ip
def tH(k:Int)(n kd:Str)(r b:Int):lP (k,n,kd,r,b)=decide (k=0↔b=1):=by
 unfold lP;refine decide_eq_decide.mpr ⟨λh=>?_,λh=>?_⟩
 ·have:=V.bl.inj h;have e:=decide_eq_decide.mp this;exact⟨λz=>V.int.inj (e.mp (by show V.int k=V.int 0;rw[z])),λz=>V.int.inj (e.mpr (by show V.int b=V.int 1;rw[z]))⟩
 ·show V.bl (decide (V.int k=V.int 0))=V.bl (decide (V.int b=V.int 1));congr 1;exact decide_eq_decide.mpr ⟨λz=>by rw[h.mp (V.int.inj z)],λz=>by rw[h.mpr (V.int.inj z)]⟩
variable{N:Nat}
def my{k:Nat}{b:Nat}(h:((k:Int)=0↔(b:Int)=1)):(cq N k s b).filter lP=cq N k s b:=List.filter_eq_self.mpr λe he=>by obtain⟨i,p,_,rfl⟩:=eC _ _ _ _ _ _ he;rw[tH,abb h]
def qW{k:Nat}{b:Nat}(h:¬((k:Int)=0↔(b:Int)=1)):(cq N k s b).filter lP=[]:=List.filter_eq_nil_iff.mpr λe he=>by obtain⟨i,p,_,rfl⟩:=eC _ _ _ _ _ _ he;rw[tH,aaW h];simp
theorem tG(N:Nat):∀(ss:List Sg)(k:Nat),((z8 N k ss).filter lP).map ip=dL k ss
 |[],k=>by rw[z8,dL];rfl
 |s::r,k=>by
  rw[z8,dL,acj,acj,aaX,tG N r (k+1)];by_cases hk:k=0
  ·subst hk;rw[qW (by decide),my (by decide),aaY rfl,ab2];congr 1;exact kU _ _ _ _ _
  ·rw[my (by lia),qW (by lia),aaR hk,aby];congr 1;exact kU _ _ _ _ _
def wV(N:Nat)(ss:List Sg):pS N ss=dL 0 ss:=tG N ss 0
theorem qi(N:Nat):∀(ss:List Sg)(k:Nat),∀e∈z8 N k ss,∃(i:Nat)(s:Sg),ss[i]?=some s/\e.1=((k+i:Nat):Int)/\∃p∈s.dn++s.up,e.2.1=p.1/\e.2.2.1=p.2
 |[],k,e,h=>by rw[z8]at h;cases h
 |s::r,k,e,h=>by
  rw[z8]at h;rcases List.mem_append.mp h with h|h
  ·refine⟨0,s,rfl,?_⟩;rcases List.mem_append.mp h with h|h
   ·obtain⟨i,p,hp,rfl⟩:=eC _ _ _ _ _ _ h;exact⟨rfl,p,List.mem_append.mpr (.inl (aaD hp)),rfl,rfl⟩
   ·obtain⟨i,p,hp,rfl⟩:=eC _ _ _ _ _ _ h;exact⟨rfl,p,List.mem_append.mpr (.inr (aaD hp)),rfl,rfl⟩
  ·obtain⟨i,s',h1,h2,h3⟩:=qi N r (k+1) e h;exact⟨i+1,s',by simpa using h1,by rw[h2];lia,h3⟩
def Bt(vl:List Vl)(q:Ru):Prop:=depth q.tm<=12/\bn q.tm<=100/\∃e∈vl,ip e=o4 q/\∀p∈named q.tm,∃e'∈vl,e'.2.2.2.1<e.2.2.2.1/\ip e'=p
structure FmG(f:Fm)(ss:List Sg):Prop where
 nm:ss.map Sg.nm=f.hd::f.br
 ru:∃t,f.ru.map o4=(dL 0 ss).drop t++(dL 0 ss).take t
 dp:∀r∈f.ru,Bt (z8 ss.length 0 ss) r
inductive wz(vs:List V)(H:Hp)(Q:VK)(e0:XK):Prop
 |mk (a l d:Addr) (us:List V) (sg ss:List Sg) (at_:List Nat) (nm:Str) (cs:List Int):(vs=[.ref a,.str nm,.ref l,.ref d])->H a=some (.tup us)->g_ (p8 H) sg us->H l=some (.tup (Fb at_))->WO sg at_ ss->1<=at_.length->at_.length<=4->(∀s∈sg,NX s)->H d=some (.lst (cs.map V.int))->4*at_.length+1<=cs.length->cs.length<=140->(∀(v:V)(f:Fm)(EG:List Int)(H':Hp),Kp [d] H H'->H' d=some (.lst (EG.map V.int))->cs.length<=EG.length+(4*at_.length+1)->EG.length<=140->r_ H' f v->f.nm=nm->FmG f ss->Q v H')->wz vs H Q e0
theorem iT{α:Type}{R:α->V->Prop}(pr:α->Bool):∀{as:List α}{xs:List V},g_ R as xs->g_ R (as.filter pr) (cX xs (as.map pr))
 |_,_,.nil=>.nil
 |a::as,x::xs,.cons h r=>by
  have ih:=iT pr r;unfold cX at ih⊢;rw[aa7,List.zip_cons_cons,acE];cases hp:pr a with
  |true=>
   rw[abQ hp];exact .cons h ih
  |false=>
   rw[abX (by simp[hp])];exact ih
theorem yf(X:Tx K mg T):i6 P w K mg base A6 3 T.Zm T.J0 ["_law_signs_here", "_law_name", "_law_at", "_law_deck_here"] wz:=by
 have Wv:=(rS (P:=P) (w:=w) (base:=base) X).mono (show 1<=2 by decide);have KD:=rT (P:=P) (w:=w) (base:=base) X;refine X.Od.Dy C3 (λvs H Q E h=>?_) (λm_ A outer s H vs Q E hr h=>?_)
 ·obtain⟨_,_,_,_,_,_,_,_,_,rfl,_⟩:=h;rfl
 obtain⟨a,l,d,us,sg,ss,at_,nm,cs,rfl,ha,v_,hl,Iw,l1,l4,gd,hd,lcs,l90,q⟩:=h;refine⟨_,(ag (au (i:=4) C3.nd rfl oI1 (aw Wv hr rfl X.Ss X.Oo.kp X.VT .nil bg (b_ (qv 0) (b_ (qv 2) ae)))) (ag (au (i:=5) C3.nd rfl oI1 (aR ae)) (ag (bh aa8 rfl (bA (qv 4)) (ay (i:=6) C3.nd rfl oJ1) (ai (bz (aE bS (fc bS (aj ak (qv 6) af) af (aS _)) (fc bS (aj ak (qv 6) af) af (aS _)) (aS _)) (ag (au (i:=7) C3.nd rfl oJ1 (cI aaL abj abi cO (qv 3))) (ag (au (i:=8) C3.nd rfl oJ1 (bG (ys:=["_law_one"]) (js:=[6]) rfl rfl (bA (qv 4)) (λ_ _ _ _ _=>df (aE AF (aj (bc (K:=K) rfl) (qv 0) af) (aj (bc (K:=K) rfl) (qv 1) af) (aS _))) (λ_ _ _ _ _=>(qv 0)))) (ag (eB (ys:=["_law_cell", "_law_low"]) (js:=[7,8]) rfl rfl (aZ rfl X.z_range (Dw (aB (tX rfl) rfl X.z_min PyProof.Rows.boot_min (q_ (aj aO (aR (n_ af (n_ af (n_ af (n_ af ae))))) (ar aN (qv 7) af)) (Dx (ar dE af (aB av rfl X.z_len aa6 (b_ (qv 8) ae))) ae))) ae)) (λ_ _ _ _ _=>bE) (λ_ _ _ _ _=>(aj (fP (K:=K) rfl) (qv 2) (ar aN (ar aU (qv 1) (ar bJ af (ar dE af (qv 0)))) (aB (eU (K:=K) rfl) rfl X.z_len aa6 (b_ (qv 2) ae))))) (ay (i:=9) C3.nd rfl oI1) rfl) (ai (bK (eL aaL abo abn bo (qv 5) (u9 (aq (q_ (aj ak (qv 6) af) (q_ (aj ak (qv 6) af) (Dw (aw KD hr rfl X.MW X.KW.kp X.NI .nil bg (q_ (aj ak (qv 6) af) (b_ (qv 9) (Dw (cI aaL abj abi cO (qv 3)) ae)))) ae)))) ae))))))) aK))) (ag (au (i:=10) C3.nd rfl oI1 (ar aN (cI aaL abj abi cO (qv 3)) (ar bJ (aB av rfl X.z_len aa6 (b_ (qv 5) ae)) af))) (ag (au (i:=5) C3.nd rfl oI1 (ar mL (bQ eZ (qv 5) (cw (qv 10)) cx) (bQ eZ (qv 5) cx (cw (qv 10))))) (ai (aG (aq (b_ (qv 1) (q_ (aj ak (aj ak (qv 0) (aj ak (qv 2) af)) af) (Dw (bf be rfl X.z_tuple abq (MP (bG (ys:=["_law_signs_here"]) (js:=[0]) rfl rfl (cr (bQ eY (qv 2) (cw af) cx)) (λ_ _ _ _ _=>bE) (λ_ _ _ _ _=>(aj (bc (K:=K) rfl) (aj (bc (K:=K) rfl) (qv 1) (qv 0)) af))) ae)) (Dw (bf be rfl X.z_tuple abq (b_ (qv 5) ae)) ae)))))))))))),?_⟩;dsimp only[cg];have gs:∀s∈ss,NX s:=λs hs=>gd s (Iw.mem s hs);have ldu:(pS at_.length ss).length<=2*at_.length:=by rw[wV,<-Iw.l];exact gF ss 0 gs
 refine bt λN1 y1=>?_;refine⟨_,rfl,_,rfl,a,l,us,sg,ss,at_,rfl,ha,v_,hl,Iw,by lia,gd,λD xs H1 s1 nD hD Po=>?_⟩;have QV:=Po.len;have EO:=s1 _ _ hd;have Hr:D≠d:=λz=>by rw[z,hd]at nD;cases nD
 refine y1 _ _ ?_;refine bt λN2 y2=>?_;refine⟨Z0,λr y_=>?_⟩;have s2:=ac y_ (.lst []);have MR:r≠d:=λz=>by rw[z,EO]at y_;cases y_
 have nrD:D≠r:=λz=>by rw[<-z,hD]at y_;cases y_
 have C7:=s1.trans s2;have hd2:=s2 _ _ EO;have Dz:=s2 _ _ hD;have Ih:=aa (H:=H1) (a:=r) (o:=.lst []);have r0:H r=none:=s1.free y_;have Pn:g_ (z0 (upd H1 r (.lst []))) (z8 at_.length 0 ss) xs:=Po.imp λ_ _ h=>z0.same (am s2) h;generalize upd H1 r (.lst [])=H2 at C7 hd2 Dz Ih Pn⊢;have Rt:∀b∈[d,r],∃ys,H2 b=some (.lst ys):=λb hb=>by
  simp at hb;rcases hb with rfl|rfl
  ·exact⟨_,hd2⟩
  ·exact⟨_,Ih⟩
 have lvl:(z8 at_.length 0 ss).length<=1000:=by
  have key:∀(ss:List Sg)(k:Nat),(∀s∈ss,NX s)->(z8 at_.length k ss).length<=4*ss.length:=λss=>by
   induction ss with
   |nil=>intro k _;exact aaI _
   |cons x r ih=>
    intro k h;have h1:=h x (by simp);have l1:=h1.ld;have l2:=h1.lu;have:=ih (k+1) λs hs=>h s (by simp[hs]);rw[z8,aaF,aaF,cq,cq,iM,iM,aaM];show(if(0:Nat)=0 then x.dn else x.up).length+(if(1:Nat)=0 then x.dn else x.up).length+_<=_;rw[aaY rfl,aaR (by decide)];lia
  have:=key ss 0 gs;have:=Iw.l;lia
 refine y2 _ _ ?_;refine bt λN3 y3=>?_;refine⟨_,rfl,D,rfl,⟨_,d9.of Dz⟩,cE (K:=K) (a:=D) (xs:=xs) (λi σ H'=>∃(ds:List Int)(rs:List Ru)(zs:List V)(x6 x7 x8 x9 Ls:Option V),σ=[some (.ref a),some (.str nm),some (.ref l),some (.ref d),some (.ref D),some (.ref r),x6,x7,x8,x9,Ls]/\Kp [d,r] H2 H'/\H' d=some (.lst (ds.map V.int))/\ds.length+2*rs.length=cs.length/\H' r=some (.lst zs)/\g_ (o_ H') rs zs/\rs.map o4=(((z8 at_.length 0 ss).take i).filter lP).map ip/\∀q∈rs,Bt (z8 at_.length 0 ss) q)
  ⟨cs,[],[],none,none,none,none,none,rfl,Kp.refl _ _,hd2,rfl,Ih,.nil,rfl,(λq h=>nomatch h)⟩ (by rintro i σ H' _ ⟨_,_,_,_,_,_,_,_,_,kp,_⟩;exact d9.of (kp _ _ (by simp;exact⟨Hr,nrD⟩) Dz)) ?_ ?_⟩
 ·rintro i v σ H' hv ⟨ds,rs,zs,x6,x7,x8,x9,Ls,rfl,kp,A_,SQ,JG,GO,IJ,F'⟩;obtain⟨⟨k,n,kd,rr,b⟩,he,Tb⟩:=Pn.get hv;have lzs:=GO.len;obtain⟨p,rfl,hp⟩:=z0.same (kp.My Rt) Tb;have hp:H' p=some (.tup [.int k,.str n,.str kd,.int rr,.int b]):=hp;have take1:((z8 at_.length 0 ss).take (i+1)).filter lP=((z8 at_.length 0 ss).take i).filter lP++(if lP (k,n,kd,rr,b)=true then[(k,n,kd,rr,b)]else[]):=by
   rw[aH he,acj];congr 1;by_cases h:lP (k,n,kd,rr,b)=true
   ·rw[aaY h,abQ h];rfl
   ·rw[aaR h,abX h];rfl
  refine⟨_,rfl,p,_,0,.int k,rfl,rfl,b9.of hp,rfl,rfl,_,rfl,p,_,4,.int b,rfl,rfl,b9.of hp,rfl,rfl,rfl,_,rfl,?_⟩;show if lP (k,n,kd,rr,b)=true then _ else _
  by_cases Ml:lP (k,n,kd,rr,b)=true
  ·rw[aaY Ml];rw[aaY Ml]at take1;have cnt:rs.length+1<=(pS at_.length ss).length:=by
    have e1:=abk List.length IJ;rw[aaG,aaG]at e1;have e2:(((z8 at_.length 0 ss).take (i+1)).filter lP).length<=((z8 at_.length 0 ss).filter lP).length:=((acq _ _).filter _).length_le;rw[take1,aaF,aaS]at e2;unfold pS;rw[aaG];lia
   obtain⟨ND,c,rfl⟩:=bY (l:=ds) (by lia);rw[aaF,aaS]at SQ;have A_:H' d=some (.lst (ND.map V.int++[.int c])):=by rw[A_,aaX];rfl
   refine bt λN4 y4=>?_;refine⟨_,rfl,.inl ⟨rfl,_,d9.of A_⟩,d,_,.int c,rfl,rfl,A_,by simp,?_⟩;dsimp only;rw[abh];have T1:d_ H' (upd H' d (.lst (ND.map V.int))):=aJ A_;have Ft:Kp [d,r] H2 (upd H' d (.lst (ND.map V.int))):=kp.upd (by simp);have Fx:=aa (H:=H') (a:=d) (o:=.lst (ND.map V.int));have GU:upd H' d (.lst (ND.map V.int)) r=some (.lst zs):=by rw[al MR];exact JG
   have Ia:g_ (o_ (upd H' d (.lst (ND.map V.int)))) rs zs:=GO.imp λ_ _ h=>o_.same T1 h;have IH:=T1 _ _ hp;generalize upd H' d (.lst (ND.map V.int))=G1 at Ft Fx GU Ia IH⊢;have HA:=Ft _ _ (by simp;exact⟨Hr,nrD⟩) Dz;have S6:g_ (z0 G1) (z8 at_.length 0 ss) xs:=Pn.imp λ_ _ h=>z0.same (Ft.My Rt) h;refine y4 _ _ ?_;refine bt λN5 y5=>?_;refine⟨_,rfl,D,rfl,⟨_,d9.of HA⟩,λL nL=>?_⟩;refine kn (K:=K) (xs:=xs) ((z8 at_.length 0 ss).map λe'=>decide (e'.2.2.2.1<rr)) (bO (by lia)) (by rw[aaG];lia) (d9.of HA) nL (λj x kb G hx hk sm Q' q'=>?_) (λx G Q' q'=>⟨_,rfl,q'⟩) (λG2 s3 hL=>?_)
   ·obtain⟨⟨k',n',SW,rr',b'⟩,Mj,p',rfl,DK⟩:=S6.get hx;have DK:G1 p'=some (.tup [.int k',.str n',.str SW,.int rr',.int b']):=DK;rw[aaK,Mj]at hk;cases hk;exact⟨_,rfl,p',_,3,.int rr',rfl,rfl,b9.of (sm _ _ DK),rfl,_,rfl,p,_,3,.int rr,rfl,rfl,b9.of (sm _ _ IH),rfl,_,_,rfl,rfl,_,rfl,q' _ (a_.refl _)⟩
   have TZ:g_ (z0 G2) ((z8 at_.length 0 ss).filter λe'=>decide (e'.2.2.2.1<rr)) (cX xs ((z8 at_.length 0 ss).map λe'=>decide (e'.2.2.2.1<rr))):=iT _ (S6.imp λ_ _ h=>z0.same (am s3) h);have lkp:=iV xs ((z8 at_.length 0 ss).map λe'=>decide (e'.2.2.2.1<rr));generalize cX xs ((z8 at_.length 0 ss).map λe'=>decide (e'.2.2.2.1<rr))=ks at hL TZ lkp;have c40:=abc c (show(4:Int)≠0 by decide);have c41:=aa5 c (show(0:Int)<4 by decide);obtain⟨cu,hcu,cu0,cu2⟩:∃cu:Int,Dp [V.int 0,V.int 1,V.int 2,V.int 2] (c%4)=some (.int cu)/\0<=cu/\cu<=2:=by
    have:c%4=0\/c%4=1\/c%4=2\/c%4=3:=by lia
    rcases this with e|e|e|e<;>rw[e]<;>exact⟨_,rfl,by decide,by decide⟩
   refine y5 _ _ ?_;refine bt λN6 y6=>?_;refine⟨Z4,λa4 h4=>?_⟩;have s4:=ac h4 (.lst [.int 0,.int 1,.int 2,.int 2]);have Qi:=s4 _ _ hL;refine⟨_,rfl,_,_,rfl,rfl,(by show(0:Int)<4;decide),a4,_,_,.int cu,rfl,rfl,d9.of aa,hcu,_,rfl,L,ks,rfl,.inl (d9.of Qi),_,_,rfl,rfl,.inl ⟨by decide,by decide⟩,_,_,rfl,?_⟩;obtain⟨mn,hmn,mn0,mn2,mnk⟩:∃mn:Int,(if 2*(ks.length:Int)<cu then 2*(ks.length:Int)else cu)=mn/\0<=mn/\mn<=2/\(0<mn->0<ks.length):=by refine⟨_,rfl,?_,?_,?_⟩<;>split<;>lia
   rw[hmn];have Le:=s3.trans s4;have Nl:=TZ.imp λ_ _ h=>z0.same (am s4) h;have Tt:=Le _ _ IH;generalize upd G2 a4 (.lst [.int 0,.int 1,.int 2,.int 2])=G4 at s4 Qi Le Nl Tt⊢;refine⟨_,rfl,by lia,by lia,λE1 XB=>?_⟩;refine cR (λj acc G=>∃es:List Vl,es.length=j/\g_ (z0 G) es acc/\(∀e'∈es,e'∈z8 at_.length 0 ss/\e'.2.2.2.1<rr)/\a_ G4 G/\G E1=some (.lst acc)) (abz (show mn.toNat<=1000 by lia) (by decide)) ⟨[],rfl,.nil,(λe' h=>nomatch h),ac XB _,aa⟩ (by rintro j acc G ⟨es,l,r,_,_,d⟩;exact⟨d,by rw[r.len,l]⟩) ?_ ?_
   ·rintro j m' acc G hj ⟨es,le,re,lo,sm,dd⟩ Mb;have hkp:0<ks.length:=mnk (by lia);have Dl:(0:Int)<((ks.length:Nat):Int):=by lia
    have i0:=abc (c / (4+3*(0+(j:Int)))) (show((ks.length:Nat):Int)≠0 by lia);have i1:=aa5 (c / (4+3*(0+(j:Int)))) Dl;obtain⟨y,hy1,e',hme,Mj⟩:∃y,Dp ks (c / (4+3*(0+(j:Int)))%((ks.length:Nat):Int))=some y/\∃e',e'∈(z8 at_.length 0 ss).filter (λe'=>decide (e'.2.2.2.1<rr))/\z0 G e' y:=by
     obtain⟨m,hm⟩:=abt i0;rw[hm];obtain⟨y,hy⟩:∃y,ks[m]?=some y:=⟨_,aaO (by lia)⟩
     obtain⟨e',h1,h2⟩:=Nl.get hy;exact⟨y,aV hy,e',aaD h1,z0.same (am sm) h2⟩
    refine⟨_,rfl,_,rfl,_,rfl,_,_,rfl,rfl,.inl ⟨by lia,by lia⟩,_,_,rfl,rfl,_,_,rfl,rfl,⟨by lia,by lia⟩,_,rfl,L,_,rfl,.inl (d9.of (sm _ _ Qi)),_,_,rfl,rfl,Dl,L,_,_,y,rfl,rfl,d9.of (sm _ _ Qi),hy1,?_⟩;have TE:=aJ (ys:=acc++[y]) dd;refine fH hj Mb dd ⟨es++[e'],by rw[aaF,le];rfl,(re.imp λ_ _ h=>z0.same TE h).snoc (z0.same TE Mj),λe'' h''=>?_,aL XB sm,aa⟩;rcases List.mem_append.mp h'' with h|h
    ·exact lo e'' h
    ·rw[List.mem_singleton.mp h];obtain⟨h1,h2⟩:=List.mem_filter.mp hme;exact⟨h1,by simpa using h2⟩
   rintro acc G5 ⟨es,le,re,lo,s5,hE5⟩;refine y6 _ _ ?_;have lre:=re.len;have Fp:=Le.trans s5;have Q5:=Fp _ _ IH;have Hy:=Fp _ _ GU;have FH:=Fp _ _ Fx;have PV:kd∈cK:=by obtain⟨i',s',h1,_,p',DK,_,h4⟩:=qi at_.length ss 0 _ (aaD he);have h4:kd=p'.2:=h4;rw[h4];exact((gs s' (aaD h1)).ok p' DK).2
   obtain⟨z_,c2,rfl⟩:=bY (l:=ND) (by lia);rw[aaF,aaS]at SQ;have FH:G5 d=some (.lst (z_.map V.int++[.int c2])):=by rw[FH,aaX];rfl
   have nEd:E1≠d:=λz=>by rw[z,Le _ _ Fx]at XB;cases XB
   refine⟨_,rfl,.inl ⟨rfl,_,d9.of Hy⟩,_,rfl,p,_,0,.int k,rfl,rfl,b9.of Q5,rfl,_,rfl,p,_,1,.str n,rfl,rfl,b9.of Q5,rfl,_,rfl,p,_,2,.str kd,rfl,rfl,b9.of Q5,rfl,_,rfl,_,rfl,.inl ⟨rfl,_,d9.of FH⟩,d,_,.int c2,rfl,rfl,FH,by simp,?_⟩;dsimp only;rw[abh];have T6:d_ G5 (upd G5 d (.lst (z_.map V.int))):=aJ FH;have Ip:=aa (H:=G5) (a:=d) (o:=.lst (z_.map V.int));have hE6:upd G5 d (.lst (z_.map V.int)) E1=some (.lst acc):=by rw[al nEd];exact hE5
   have Li:upd G5 d (.lst (z_.map V.int)) r=some (.lst zs):=by rw[al MR];exact Hy
   have QZ:Kp [d,r] H2 (upd G5 d (.lst (z_.map V.int))):=(Ft.same Fp).upd (by simp);have re6:=re.imp λ_ _ h=>z0.same T6 h;have S1:=Ia.imp λ_ _ h=>o_.same ((am Fp).trans T6) h;generalize upd G5 d (.lst (z_.map V.int))=G6 at Ip hE6 Li QZ re6 S1⊢;refine⟨kd,E1,es,acc,_,rfl,PV,hE6,re6.imp (λ_ _ h=>h.v3),by lia,λt x G7 s7 ht dt=>⟨Z3,λt8 ht8=>?_⟩⟩;have s8:=ac ht8 (.tup [.int k,.str n,x]);have Gw:=s7.trans s8;have Tq:=Gw _ _ Li;refine⟨r,zs,_,rfl,rfl,Tq,bO (by lia),z_,rs++[⟨k,n,t⟩],zs++[.ref t8],_,_,_,_,_,rfl,(QZ.same Gw).upd (by simp),by rw[al MR.symm];exact Gw _ _ Ip,by rw[aaF,aaS];lia,aa,?_,?_,?_⟩
   ·have TL:=aJ (ys:=zs++[.ref t8]) Tq;exact(S1.imp λ_ _ h=>o_.same ((am Gw).trans TL) h).snoc ⟨t8,x,rfl,TL _ _ aa,g9.same ((am s8).trans TL) t ht⟩
   ·rw[take1,aaX,aaX,IJ];rfl
   ·intro q' Lj;rcases List.mem_append.mp Lj with h|h
    ·exact F' q' h
    ·rw[List.mem_singleton.mp h];refine⟨dt.dp,dt.pt,(k,n,kd,rr,b),aaD he,rfl,λp' DK=>?_⟩;obtain⟨e',Mj,rfl⟩:=List.mem_map.mp (dt.nm p' DK);obtain⟨h1,h2⟩:=lo e' Mj;exact⟨e',h1,h2,rfl⟩
  ·rw[aaR Ml];rw[aaR Ml,aby]at take1;exact⟨ds,rs,zs,_,_,_,_,_,rfl,kp,A_,SQ,JG,GO,by rw[take1];exact IJ,F'⟩
 ·rintro σ H' ⟨ds,rs,zs,x6,x7,x8,x9,Ls,rfl,kp,A_,SQ,JG,GO,IJ,F'⟩;refine y3 _ _ ?_;rw[aa2 (by lia)]at IJ;have IJ:rs.map o4=pS at_.length ss:=IJ;have lrs:rs.length=(pS at_.length ss).length:=by have:=abk List.length IJ;rwa [aaG]at this
  rw[wV]at IJ;have lzs:=GO.len;obtain⟨z_,c,rfl⟩:=bY (l:=ds) (by lia);rw[aaF,aaS]at SQ;have A_:H' d=some (.lst (z_.map V.int++[.int c])):=by rw[A_,aaX];rfl
  refine bt λN7 y7=>?_;refine⟨_,rfl,.inl ⟨rfl,_,d9.of A_⟩,d,_,.int c,rfl,rfl,A_,by simp,?_⟩;rw[abh];have T1:d_ H' (upd H' d (.lst (z_.map V.int))):=aJ A_;have Ft:Kp [d,r] H2 (upd H' d (.lst (z_.map V.int))):=kp.upd (by simp);have Fx:=aa (H:=H') (a:=d) (o:=.lst (z_.map V.int));have GU:upd H' d (.lst (z_.map V.int)) r=some (.lst zs):=by rw[al MR];exact JG
  have Ia:g_ (o_ (upd H' d (.lst (z_.map V.int)))) rs zs:=GO.imp λ_ _ h=>o_.same T1 h;generalize upd H' d (.lst (z_.map V.int))=G1 at Ft Fx GU Ia⊢;have Dl:(0:Int)<((zs.length:Nat):Int)+1:=by lia
  have t0:=abc c (show((zs.length:Nat):Int)+1≠0 by lia);have t1:=aa5 c Dl;refine⟨_,rfl,r,_,rfl,.inl (d9.of GU),_,_,rfl,rfl,_,_,rfl,rfl,Dl,?_⟩;dsimp only;generalize c%(((zs.length:Nat):Int)+1)=tn at t0 t1⊢;obtain⟨m,rfl⟩:=abt t0;refine y7 _ _ ?_;refine bt λN8 y8=>?_;refine⟨_,rfl,_,rfl,_,rfl,r,_,rfl,d9.of GU,λb1 UP=>?_⟩;rw[cZ zs m];have s3:=ac UP (.lst (zs.drop m));refine⟨_,rfl,_,rfl,_,rfl,r,_,rfl,d9.of (s3 _ _ GU),λb2 G_=>?_⟩;rw[dM zs m];have s4:=ac G_ (.lst (zs.take m));refine⟨b1,b2,_,_,rfl,rfl,s4 _ _ aa,aa,cF (by rw[abP,aaZ];lia),λb3 Qe=>?_⟩;have s5:=ac Qe (.lst (zs.drop m++zs.take m));have Fp:=s3.trans (s4.trans s5);have Ga:=aa (H:=upd (upd G1 b1 (.lst (zs.drop m))) b2 (.lst (zs.take m))) (a:=b3) (o:=.lst (zs.drop m++zs.take m));have S4:g_ (o_ (upd (upd (upd G1 b1 (.lst (zs.drop m))) b2 (.lst (zs.take m))) b3 (.lst (zs.drop m++zs.take m)))) (rs.drop m++rs.take m) (zs.drop m++zs.take m):=(iU m (Ia.imp λ_ _ h=>o_.same (am Fp) h)).app (mV m (Ia.imp λ_ _ h=>o_.same (am Fp) h));generalize upd (upd (upd G1 b1 (.lst (zs.drop m))) b2 (.lst (zs.take m))) b3 (.lst (zs.drop m++zs.take m))=G3 at Fp Ga S4⊢;have kpG:Kp [d,r] H2 G3:=Ft.same Fp;have T3:=kpG.My Rt;have Rc:G3 a=some (.tup us):=T3 _ _ (C7 _ _ ha);have hl3:G3 l=some (.tup (Fb at_)):=T3 _ _ (C7 _ _ hl);have GP:g_ (p8 G3) sg us:=v_.imp λ_ _ h=>p8.same ((am C7).trans T3) h;obtain⟨n0,TQ⟩:∃n,at_[0]?=some n:=⟨_,aaO (by lia)⟩
  obtain⟨WZ,hs0,Py⟩:=Iw.e 0 n0 TQ;obtain⟨v0,Td,hsv0⟩:=bw GP hs0;obtain⟨p0,da0,ua0,dus0,uus0,rfl,Fv,_⟩:=hsv0;refine y8 _ _ ?_;refine⟨_,rfl,_,rfl,_,rfl,l,_,_,.int (n0:Int),rfl,rfl,b9.of hl3,aV (j:=0) (by unfold Fb;rw[aaK,TQ];rfl),a,_,_,.ref p0,rfl,rfl,b9.of Rc,aV Td,p0,_,_,.str WZ.nm,rfl,rfl,b9.of Fv,rfl,_,rfl,_,rfl,l,_,rfl,hl3,λb6 G4 s6 Qc=>?_⟩;rw[show gY (Fb at_) (some (1:Int)) none=(Fb at_).drop 1 from cZ _ 1]at Qc;have lss:=Iw.l;have latV:((Fb at_).drop 1).length=at_.length-1:=by unfold Fb;rw[abP,aaG]
  refine⟨b6,rfl,⟨_,b9.of Qc⟩,λE2 hE2=>?_⟩;refine tU (K:=K) (ys:=((ss.drop 1).map Sg.nm).map V.str) (bO (by lia)) (by rw[aaG,aaG,abP];lia) (b9.of Qc) hE2 (λj x y G hx hy sm Q' k'=>?_) λG5 s7 hE4=>?_
  ·obtain⟨n,hn⟩:∃n,at_[1+j]?=some n/\x=.int (n:Int):=by
    unfold Fb at hx;rw[adR,aaK]at hx;cases e:at_[1+j]? with
    |none=>rw[e]at hx;cases hx
    |some n=>rw[e]at hx;exact⟨n,rfl,(aa0 hx).symm⟩
   obtain⟨hn,rfl⟩:=hn;obtain⟨s',Lh,hss'⟩:=Iw.e (1+j) n hn;obtain⟨v',Ht,hsv'⟩:=bw GP Lh;obtain⟨p',da',ua',dus',Ys,rfl,DK,_⟩:=hsv';have ey:y=.str s'.nm:=by rw[aaK,aaK,adR,hss']at hy;exact(aa0 hy).symm
   subst ey;have WY:=s6.trans sm;exact⟨_,rfl,_,rfl,a,_,_,.ref p',rfl,rfl,b9.of (WY _ _ Rc),aV Ht,p',_,_,_,rfl,rfl,b9.of (WY _ _ DK),rfl,k' G (a_.refl _)⟩
  refine⟨E2,_,rfl,.inl ⟨d9.of hE4,λt1' FW=>?_⟩⟩;have z1:=ac FW (.tup (((ss.drop 1).map Sg.nm).map V.str));have sB:=s6.trans (s7.trans z1);refine⟨_,rfl,b3,_,rfl,.inl ⟨d9.of (sB _ _ Ga),λt2' GQ=>?_⟩⟩;have z2:=ac GQ (.tup (zs.drop m++zs.take m));refine⟨Z4,λt3' L5=>?_⟩;have z3:=ac L5 (.tup [.str nm,.str WZ.nm,.ref t1',.ref t2']);have z23:=z2.trans z3;have sC:=sB.trans z23;refine q (.ref t3') ⟨nm,WZ.nm,(ss.drop 1).map Sg.nm,rs.drop m++rs.take m⟩ z_ _ (λb o n h=>?_) (sC _ _ (Fp _ _ Fx)) (by lia) (by lia) ?_ rfl ?_
  ·have nb:b≠r:=λz=>by rw[z,r0]at h;cases h
   exact sC _ _ (kpG b o (by simp;exact⟨by simpa using n,nb⟩) (C7 _ _ h))
  ·exact⟨t3',t1',t2',_,rfl,aa,z23 _ _ aa,z3 _ _ aa,S4.imp λ_ _ h=>o_.same (am sC) h⟩
  ·refine⟨?_,⟨m,by show(rs.drop m++rs.take m).map o4=_;rw[aaX,List.map_drop,List.map_take,IJ]⟩,λr' y_=>?_⟩
   ·show ss.map Sg.nm=WZ.nm::(ss.drop 1).map Sg.nm;cases ss with
    |nil=>simp at Py
    |cons x ET=>simp at Py;subst Py;rfl
   ·rw[Iw.l];rcases List.mem_append.mp y_ with h|h
    ·exact F' r' (adC h)
    ·exact F' r' (acx h)
noncomputable def xC(sg:List Sg)(at_:List Nat):List Sg:=at_.map λn=>sg.getD n ⟨"",[],[]⟩
def iC(h:∀n∈at_,n<sg.length):WO sg at_ (xC sg at_):=by refine⟨by unfold xC;rw[aaG],λi n hn=>?_⟩;have hl:=h n (aaD hn);refine⟨sg[n],aaO hl,?_⟩;unfold xC;rw[aaK,hn];show some (sg.getD n _)=_;rw[ada,aaO hl];rfl
theorem sZ{fm:List Fm}(h:∀(j:Nat) s,fm[j]?=some s->s.nm=Dv c j)(l:fm.length<=26):(fm.map Fm.nm).Nodup:=by refine List.pairwise_iff_getElem.mpr λi j hi hj o9 he=>?_;rw[aaG]at hi hj;rw[adm,adm,h i _ (aaO hi),h j _ (aaO hj)]at he;have:=fU (by lia) (by lia) (by lia) (by lia) he;lia
def NW(H:Hp)(sh:List Nat)(v:V):Prop:=∃l,v=.ref l/\H l=some (.tup (Fb sh))
variable{sh:List Nat}
def NW.same(e:d_ H H')(h:NW H sh v):NW H' sh v:=by obtain⟨l,x,y⟩:=h;exact⟨l,x,e _ _ y⟩
structure V9(N:Nat)(GJ:List (List Nat)):Prop where
 one:∀k,k<N->GJ[k]?=some [k]
 all:∀sh∈GJ,sh≠[]/\sh.length<=4/\∀j∈sh,j<N
def CN(N:Nat):V9 N ((List.range N).map λk=>[k]):=by
 refine⟨λk hk=>?_,λsh hs=>?_⟩
 ·rw[aaK,List.getElem?_range hk];rfl
 ·obtain⟨k,hk,rfl⟩:=List.mem_map.mp hs;refine⟨(λz=>nomatch z),(by show 1<=4;decide),λj hj=>?_⟩;rw[List.mem_singleton.mp hj];exact List.mem_range.mp hk
def V9.snoc{GJ:List (List Nat)}(h:V9 N GJ)(h1:sh≠[])(h2:sh.length<=4)(h3:∀j∈sh,j<N):V9 N (GJ++[sh]):=by
 have ap:∀{k:Nat}{x},GJ[k]?=some x->(GJ++[sh])[k]?=some x:=λ{k x} e=>by rw[aa4 (ao e)];exact e
 refine⟨λk hk=>ap (h.one k hk),λx hx=>?_⟩;rcases List.mem_append.mp hx with g|g
 ·exact h.all x g
 ·rw[List.mem_singleton.mp g];exact⟨h1,h2,h3⟩
structure Gp(sg:List Sg)(f:Fm)(ss:List Sg):Prop where
 mem:∀s∈ss,s∈sg
 fm:FmG f ss
 l1:1<=ss.length
 l4:ss.length<=4
structure IU(g:Gr):Prop where
 sg:CI g.sg
 nw:∃w,∀(j:Nat) f,g.fm[j]?=some f->f.nm=Dv w j
 fm:∀f∈g.fm,∃ss,Gp g.sg f ss
 one:∀(k:Nat) s,g.sg[k]?=some s->∃f,g.fm[k]?=some f/\f.hd=s.nm/\f.br=[]
 l10:g.fm.length<=10
inductive wy(vs:List V)(H:Hp)(Q:VK)(e0:XK):Prop
 |mk (d:Addr) (cs:List Int):(vs=[.ref d])->H d=some (.lst (cs.map V.int))->cs.length=139->(∀(v:V)(g:Gr)(EG:List Int)(H':Hp),Kp [d] H H'->o7 H' g v->IU g->H' d=some (.lst (EG.map V.int))->30<=EG.length->Q v H')->wy vs H Q e0
noncomputable def cst(N i:Nat):Nat:=5*min i N+17*(i-N)
theorem ye(X:Tx K mg T):i6 P w K mg base A6 4 T.ZI T.Kk ["_law_deck_here"] wy:=by
 have DY:=(kW (P:=P) (w:=w) (base:=base) X).mono (show 1<=3 by decide);have Wq:=(uY (P:=P) (w:=w) (base:=base) X).mono (show 2<=3 by decide);have Wk:=yf (P:=P) (w:=w) (base:=base) X;refine X.Ow.Dy DE (λvs H Q E h=>?_) (λm_ A outer s H vs Q E hr h=>?_)
 ·obtain⟨_,_,rfl,_⟩:=h;rfl
 obtain⟨d,cs,rfl,hd,lcs,q⟩:=h;refine⟨_,(ag (au (i:=1) DE.nd rfl oJ1 (aw Wq hr rfl X.Sm X.Oh.kp X.VO .nil bg (b_ (qv 0) ae))) (ag (au (i:=2) DE.nd rfl oJ1 (bG (ys:=[]) (js:=[]) rfl rfl (aZ rfl X.z_range (Dw (aB av rfl X.z_len aa6 (b_ (qv 1) ae)) ae)) (λ_ _ _ _ _=>bE) (λ_ _ _ _ _=>(aq (b_ (qv 0) ae))))) (ag (bh aa8 rfl (aZ rfl X.z_range (Dx (ar bJ af (ar aN (cI aaL abj abi cO (qv 0)) af)) ae)) (ay (i:=3) DE.nd rfl oI1) (ag (au (i:=4) DE.nd rfl oJ1 (cI aaL abj abi cO (qv 0))) (ai (bK (eL aaL abo abn bo (qv 2) (Dw (bf be rfl X.z_tuple abq (MP (bG (ys:=["_law_signs_here", "_law_cell"]) (js:=[1,4]) rfl rfl (aZ rfl X.z_range (Dx (ar bJ af (ar aN (qv 4) af)) ae)) (λ_ _ _ _ _=>bE) (λ_ _ _ _ _=>(ar aN (ar aU (qv 2) (ar bJ af (ar dE af (qv 0)))) (aB (eU (K:=K) rfl) rfl X.z_len aa6 (b_ (qv 1) ae))))) ae)) ae)))))) (ag (au (i:=5) DE.nd rfl oJ1 (cI aaL abj abi cO (qv 0))) (ag (eB (ys:=["_law_deck_here", "_law_signs_here", "_law_shapes", "_law_word_here"]) (js:=[0,1,2,5]) rfl rfl (aZ rfl X.z_range (Dw (aB av rfl X.z_len aa6 (b_ (qv 2) ae)) ae)) (λ_ _ _ _ _=>bE) (λ_ _ _ _ _=>(aw Wk hr rfl X.Si X.Od.kp X.VI .nil bg (b_ (qv 2) (Dw (aw DY hr rfl X.Ey X.Eg.kp X.EH .nil bg (b_ (qv 4) (b_ (qv 0) ae))) (q_ (aj (fP (K:=K) rfl) (qv 3) (qv 0)) (b_ (qv 1) ae)))))) (ay (i:=6) DE.nd rfl oI1) rfl) (ai (aG (aq (b_ (qv 1) (Dw (bf be rfl X.z_tuple abq (b_ (qv 6) ae)) ae)))))))))),?_⟩;dsimp only[cg];refine⟨_,rfl,d,cs,rfl,hd,by lia,by lia,λa us sg Gi H1 k1 EO lc1 Na ha v_ W0=>?_⟩;have Ei:=v_.len;have n1:=W0.l1;have n3:=W0.l6;refine⟨_,rfl,a,us,rfl,.inr (b9.of ha),_,rfl,by lia,by lia,λD nD=>?_⟩;refine cR (λi acc H'=>a_ H1 H'/\H' D=some (.lst acc)/\acc.length=i/\g_ (NW H') ((List.range i).map λk=>[k]) acc) (bO (by lia)) ⟨ac nD _,aa,rfl,.nil⟩ (by rintro i acc H' ⟨_,x,y,_⟩;exact⟨x,y⟩) (λi m acc H' hi ⟨sm,hD,la,Ic⟩ hm=>?_) (λacc H2 ⟨s2,Dz,la,Ic⟩=>?_)
 ·refine⟨_,rfl,Z1,λl nl=>?_⟩;have sl:=ac nl (.tup [.int (0+(i:Int))]);have tD:=aJ (ys:=acc++[.ref l]) (sl _ _ hD);refine fH hi hm (sl _ _ hD) ⟨aL nD (sm.trans sl),aa,by rw[aaF,la];rfl,?_⟩;rw[List.range_succ,aaX];refine(Ic.imp λ_ _ h=>h.same ((am sl).trans tD)).snoc ⟨l,rfl,tD _ _ ?_⟩;rw[aa,ack];rfl
 have hN:(us.length:Int).toNat=sg.length:=by lia
 rw[hN]at Ic la;have Hr:D≠d:=bq EO nD;have D0:H D=none:=k1.free nD (by simpa using Hr);have hd2:=s2 _ _ EO;have k2:=k1.same s2;have ha2:=s2 _ _ ha;have L3:=v_.imp λ_ _ h=>p8.same (am s2) h;obtain⟨El,c0,rfl⟩:=bY (l:=Gi) (by lia);rw[aaF,aaS]at lc1 Na;have hd2:H2 d=some (.lst (El.map V.int++[.int c0])):=by rw[hd2,aaX];rfl
 refine⟨_,rfl,.inl ⟨rfl,_,d9.of hd2⟩,d,_,.int c0,rfl,rfl,hd2,by simp,?_⟩;rw[abh];have c40:=abc c0 (show(4:Int)≠0 by decide);have c41:=aa5 c0 (show(0:Int)<4 by decide);refine⟨_,_,rfl,rfl,(by show(0:Int)<4;decide),_,_,rfl,rfl,_,rfl,by lia,by lia,?_⟩;have k3:Kp [d] H (upd H2 d (.lst (El.map V.int))):=k2.upd (by simp);have G0:=aa (H:=H2) (a:=d) (o:=.lst (El.map V.int));have GB:upd H2 d (.lst (El.map V.int)) D=some (.lst acc):=by rw[al Hr];exact Dz
 have Rm:d_ H2 (upd H2 d (.lst (El.map V.int))):=aJ hd2;have Tn:=Ic.imp λ_ _ h=>NW.same Rm h;have Rc:=Rm _ _ ha2;have GP:=L3.imp λ_ _ h=>p8.same Rm h;generalize upd H2 d (.lst (El.map V.int))=H3 at k3 G0 GB Tn Rc GP⊢;have Rt:∀b∈[d,D],∃ys,H3 b=some (.lst ys):=λb hb=>by
  simp at hb;rcases hb with rfl|rfl
  ·exact⟨_,G0⟩
  ·exact⟨_,GB⟩
 refine bN (n:=(1+c0%4).toNat) (λi σ H'=>∃(ds:List Int)(GJ:List (List Nat))(ws:List V)(x3 x4 x5 x6:Option V),σ=[some (.ref d),some (.ref a),some (.ref D),x3,x4,x5,x6]/\Kp [d,D] H3 H'/\H' d=some (.lst (ds.map V.int))/\ds.length+i=El.length/\H' D=some (.lst ws)/\g_ (NW H') GJ ws/\GJ.length=sg.length+i/\V9 sg.length GJ)
  ⟨El,_,acc,none,none,none,none,rfl,Kp.refl _ _,G0,rfl,GB,Tn,by rw[aaG,List.length_range];rfl,CN _⟩ ?_ ?_
 ·rintro i σ H' hi ⟨ds,GJ,ws,x3,x4,x5,x6,rfl,kp,A_,ld,Iu,EA,lsh,Jd⟩;have lws:=EA.len;have Xs:i<4:=by lia
  obtain⟨z_,c,rfl⟩:=bY (l:=ds) (by lia);rw[aaF,aaS]at ld;have A_:H' d=some (.lst (z_.map V.int++[.int c])):=by rw[A_,aaX];rfl
  refine⟨_,rfl,.inl ⟨rfl,_,d9.of A_⟩,d,_,.int c,rfl,rfl,A_,by simp,?_⟩;dsimp only;rw[abh];have Ft:Kp [d,D] H3 (upd H' d (.lst (z_.map V.int))):=kp.upd (by simp);have Fx:=aa (H:=H') (a:=d) (o:=.lst (z_.map V.int));have HA:upd H' d (.lst (z_.map V.int)) D=some (.lst ws):=by rw[al Hr];exact Iu
  have T1:d_ H' (upd H' d (.lst (z_.map V.int))):=aJ A_;have Ta:=EA.imp λ_ _ h=>NW.same T1 h;generalize upd H' d (.lst (z_.map V.int))=G1 at Ft Fx HA Ta⊢;have haG:=Ft.My Rt _ _ Rc;have b0:=abc c (show(3:Int)≠0 by decide);have b1:=aa5 c (show(0:Int)<3 by decide);refine⟨_,rfl,.inl ⟨rfl,_,d9.of HA⟩,_,rfl,_,_,rfl,rfl,(by show(0:Int)<3;decide),_,_,rfl,rfl,_,rfl,by lia,by lia,λE1 nE1=>?_⟩;refine cR (λj acc QB=>∃sh:List Nat,acc=Fb sh/\sh.length=j/\(∀x∈sh,x<sg.length)/\a_ G1 QB/\QB E1=some (.lst acc)) (bO (by lia)) ⟨[],rfl,rfl,(λx hx=>nomatch hx),ac nE1 _,aa⟩ (by rintro j acc QB ⟨sh,e,l,_,_,x⟩;exact⟨x,by rw[e];unfold Fb;rw[aaG];exact l⟩) (λj m acc QB hj ⟨sh,e,l,o9,sm,hE⟩ hm=>?_) (λacc G2 ⟨sh,e,l,o9,sm,hE⟩=>?_)
  ·have hj4:(j:Int)<5:=by lia
   refine⟨_,rfl,_,rfl,_,_,rfl,rfl,.inl ⟨by decide,by decide⟩,_,_,rfl,rfl,_,_,rfl,rfl,⟨by lia,by lia⟩,_,rfl,a,us,rfl,.inr (b9.of (sm _ _ haG)),_,_,rfl,rfl,(by show(0:Int)<(us.length:Int);lia),?_⟩;have e0:=abc (c / (7+11*(0+(j:Int)))) (show(us.length:Int)≠0 by lia);have e1:=aa5 (c / (7+11*(0+(j:Int)))) (show(0:Int)<(us.length:Int)by lia);obtain⟨y,hy⟩:=abt e0;rw[hy];refine fH hj hm hE ⟨sh++[y],?_,by rw[aaF,l];rfl,λx hx=>?_,aL nE1 sm,aa⟩
   ·rw[e];show _=(sh++[y]).map _;rw[aaX];rfl
   ·rcases List.mem_append.mp hx with g|g
    ·exact o9 x g
    ·rw[List.mem_singleton.mp g];lia
  ·subst e;refine⟨E1,_,rfl,.inl ⟨d9.of hE,λt nt=>?_⟩⟩;have st:=ac nt (.tup (Fb sh));have WX:=sm.trans st;have hDt:=WX _ _ HA;refine⟨D,ws,_,rfl,rfl,hDt,bO (by lia),?_⟩;have tD:=aJ (ys:=ws++[.ref t]) hDt;refine⟨z_,GJ++[sh],ws++[.ref t],_,_,_,_,rfl,(Ft.same WX).upd (by simp),by rw[al Hr.symm];exact WX _ _ Fx,by lia,aa,(Ta.imp λ_ _ h=>h.same ((am WX).trans tD)).snoc ⟨t,rfl,tD _ _ aa⟩,by rw[aaF,aaS];lia,Jd.snoc (λz=>?_) (by lia) o9⟩;rw[z]at l;simp at l;lia
 rintro σ H5 ⟨ds,GJ,ws,x3,x4,x5,x6,rfl,kp,A_,ld,Iu,EA,lsh,Jd⟩;have lws:=EA.len;obtain⟨z_,c,rfl⟩:=bY (l:=ds) (by lia);rw[aaF,aaS]at ld;have A_:H5 d=some (.lst (z_.map V.int++[.int c])):=by rw[A_,aaX];rfl
 refine⟨_,rfl,.inl ⟨rfl,_,d9.of A_⟩,d,_,.int c,rfl,rfl,A_,by simp,?_⟩;dsimp only;rw[abh];have Ft:Kp [d,D] H3 (upd H5 d (.lst (z_.map V.int))):=kp.upd (by simp);have Ip:=aa (H:=H5) (a:=d) (o:=.lst (z_.map V.int));have Ms:upd H5 d (.lst (z_.map V.int)) D=some (.lst ws):=by rw[al Hr];exact Iu
 have T56:d_ H5 (upd H5 d (.lst (z_.map V.int))):=aJ A_;have S8:=EA.imp λ_ _ h=>NW.same T56 h;have T36:=Ft.My Rt;have ha6:=T36 _ _ Rc;have Pq:=GP.imp λ_ _ h=>p8.same T36 h;have k6:Kp [d] H (upd H5 d (.lst (z_.map V.int))):=λb o hb hB=>Ft b o (by simp;exact⟨by simpa using hb,aI hB D0⟩) (k3 b o hb hB);generalize upd H5 d (.lst (z_.map V.int))=H6 at Ft Ip Ms S8 ha6 Pq k6⊢;refine⟨_,rfl,D,ws,rfl,.inl (d9.of Ms),_,rfl,by lia,by lia,λF nF=>?_⟩;have Xe:F≠d:=bq Ip nF;have nFD:F≠D:=bq Ms nF;have F0:H F=none:=k6.free nF (by simpa using Xe);have w7:sg.length<=ws.length/\ws.length<=sg.length+4:=by lia
 have d8:128<=z_.length/\z_.length<=140:=by lia
 clear c40 c41 ld lc1 Na lcs hN lsh;refine cR (λi acc H'=>∃(fm:List Fm)(es:List Int),fm.length=i/\(∀(j:Nat) f,fm[j]?=some f->f.nm=Dv c j)/\(∀f∈fm,∃ss,Gp sg f ss)/\(∀(k:Nat) s,k<i->sg[k]?=some s->∃f,fm[k]?=some f/\f.hd=s.nm/\f.br=[])/\g_ (r_ H') fm acc/\Kp [d,F] H6 H'/\H' F=some (.lst acc)/\H' d=some (.lst (es.map V.int))/\z_.length<=es.length+cst sg.length i/\es.length<=140) (bO (by lia)) ⟨[],z_,rfl,(λj f h=>by simp at h),(λf h=>nomatch h),(λk s h=>absurd h (acn k)),.nil,(Kp.refl _ _).upd (by simp),aa,by rw[al Xe.symm];exact Ip,acX _ _,by lia⟩ (by rintro i acc H' ⟨fm,es,l,_,_,_,r,_,x,_⟩;exact⟨x,by rw[r.len,l]⟩) (λi m acc H' hi ⟨fm,es,l,DP,fg,ones,r,QY,hF,Ra,lde,M'⟩ hm=>?_) (λacc H7 ⟨fm,es,l,DP,fg,ones,r,QY,hF,Ra,lde,M'⟩=>?_)
 ·have Nn:i<GJ.length:=by lia
  obtain⟨sh,Ic⟩:=ax Nn;obtain⟨h1,h2,h3⟩:=Jd.all sh (aaD Ic);have SN:1<=sh.length:=List.length_pos_iff.mpr h1;have TF:d_ H6 H':=λb xs e=>QY b _ (by simp;exact⟨dZ e Ip (λz=>nomatch z),aI e nF⟩) e;obtain⟨v,hv,sl,rfl,PD⟩:=bw S8 Ic;have Ir:=QY _ _ (by simp;exact⟨Hr,nFD.symm⟩) Ms;have cs4:cst sg.length i+(4*sh.length+1)<=cst sg.length (i+1)/\cst sg.length i<=70:=by
   unfold cst;by_cases DT:i<sg.length
   ·have:=Jd.one i DT;rw[Ic]at this;cases this;simp only[aaS];lia
   ·lia
  refine⟨_,rfl,_,rfl,_,rfl,c,_,rfl,_,rfl,_,rfl,D,_,_,_,rfl,rfl,d9.of Ir,(by rw[ack];exact aV hv),_,rfl,a,sl,d,us,sg,xC sg sh,sh,_,es,rfl,TF _ _ ha6,Pq.imp λ_ _ h=>p8.same TF h,TF _ _ PD,iC h3,SN,h2,W0.g,Ra,by lia,M',λv f Mu H8 k8 hd8 le8 le8' hf8 nm8 fg8=>?_⟩;have hF8:=k8 _ _ (by simpa using Xe) hF;have T8:d_ H' H8:=k8.My λx hx=>by rw[List.mem_singleton.mp hx];exact⟨_,Ra⟩
  have tF:=aJ (ys:=acc++[v]) hF8;have fmG:Gp sg f (xC sg sh):=⟨(iC h3).mem,fg8,by rw[(iC h3).l];exact SN,by rw[(iC h3).l];exact h2⟩
  refine fH hi hm hF8 ⟨fm++[f],Mu,by rw[aaF,l];rfl,λj f' hj=>?_,λf' B7=>?_,λk s hk hs=>?_,(r.imp λ_ _ h=>r_.same (T8.trans tF) h).snoc (r_.same tF hf8),(QY.trans (k8.mono (by simp))).upd (by simp),aa,by rw[al Xe.symm];exact hd8,by lia,le8'⟩
  ·by_cases Mf:j<fm.length
   ·rw[aa4 Mf]at hj;exact DP j f' hj
   ·rw[abf (by lia)]at hj;have:j=i:=by
     have:=ao hj;simp at this;lia
    subst this;rw[l,Nat.sub_self]at hj;cases hj;rw[nm8,ack]
  ·rcases List.mem_append.mp B7 with h|h
   ·exact fg f' h
   ·rw[List.mem_singleton.mp h];exact⟨_,fmG⟩
  ·rcases Nat.lt_succ_iff_lt_or_eq.mp hk with hk|rfl
   ·obtain⟨f',Lq,Ri⟩:=ones k s hk hs;exact⟨f',by rw[aa4 (by lia)];exact Lq,Ri⟩
   ·refine⟨f,by rw[abf (by lia),l,Nat.sub_self];rfl,?_⟩;have Lq:=Jd.one k (ao hs);rw[Ic]at Lq;cases Lq;have e1:=fg8.nm;have e2:xC sg [k]=[s]:=by
     unfold xC;rw[aa7,acR,ada,hs];rfl
    rw[e2]at e1;have e3:=aca (show[s.nm]=f.hd::f.br from e1);exact⟨e3.1.symm,e3.2.symm⟩
 ·have T67:d_ H6 H7:=λb xs e=>QY b _ (by simp;exact⟨dZ e Ip (λz=>nomatch z),aI e nF⟩) e;refine⟨_,rfl,_,rfl,F,acc,rfl,.inl ⟨d9.of hF,λt7 nt7=>⟨Z2,λt8 nt8=>?_⟩⟩⟩;have s7:=ac nt7 (.tup acc);have s8:=ac nt8 (.tup [.ref a,.ref t7]);have Gw:=s7.trans s8;have hcst:cst sg.length (ws.length:Int).toNat<=90:=by unfold cst;lia
  refine q _ ⟨sg,fm⟩ es _ (λb o hb hB=>Gw _ _ (QY b o (by simp;exact⟨by simpa using hb,aI hB F0⟩) (k6 b o hb hB))) ⟨t8,a,t7,us,acc,rfl,aa,Gw _ _ (T67 _ _ ha6),Pq.imp λ_ _ h=>p8.same (T67.trans (am Gw)) h,s8 _ _ aa,r.imp λ_ _ h=>r_.same (am Gw) h⟩ ⟨W0,⟨c,DP⟩,fg,λk s hs=>ones k s (by have:k<sg.length:=ao (xs:=sg) hs;lia) hs,by show fm.length<=10;lia⟩ (Gw _ _ Ra) (by lia)
theorem iQ:∀(ss:List Sg)(k:Nat)(x:Int)(n:Str),(x,n)∈dL k ss↔∃(i:Nat)(s:Sg),ss[i]?=some s/\x=((k+i:Nat):Int)/\n∈(if k+i=0 then uo s else zk s)
 |[],k,x,n=>by
  rw[dL];constructor
  ·intro h;cases h
  ·rintro⟨i,s,h,_⟩;simp at h
 |s::r,k,x,n=>by
  rw[dL,adw,iQ r (k+1) x n];constructor
  ·rintro(h|⟨i,s',h1,h2,h3⟩)
   ·obtain⟨p,hp,e⟩:=List.mem_map.mp h;cases e;refine⟨0,s,rfl,rfl,?_⟩;rw[aew];split at hp
    ·rename_i h0;rw[aaY h0];exact List.mem_map.mpr ⟨p,hp,rfl⟩
    ·rename_i h0;rw[aaR h0];exact List.mem_map.mpr ⟨p,hp,rfl⟩
   ·refine⟨i+1,s',by simpa using h1,by rw[h2];lia,?_⟩;rw[show k+(i+1)=k+1+i by lia];exact h3
  ·rintro⟨i,s',h1,h2,h3⟩;cases i with
   |zero=>
    simp at h1;subst h1;rw[aew]at h3 h2;left;split at h3
    ·rename_i h0;obtain⟨p,hp,rfl⟩:=List.mem_map.mp h3;rw[aaY h0];exact List.mem_map.mpr ⟨p,hp,by rw[h2]⟩
    ·rename_i h0;obtain⟨p,hp,rfl⟩:=List.mem_map.mp h3;rw[aaR h0];exact List.mem_map.mpr ⟨p,hp,by rw[h2]⟩
   |succ i=>
    right;refine⟨i,s',by simpa using h1,by rw[h2];lia,?_⟩;rw[show k+1+i=k+(i+1)by lia];exact h3
theorem tE:∀(ss:List Sg)(k:Nat),(∀s∈ss,NX s)->(dL k ss).Nodup
 |[],k,_=>by rw[dL];exact acw
 |s::r,k,h=>by
  rw[dL];have hs:=(h s (by simp)).nd;rw[aaX]at hs;obtain⟨d1,d2,_⟩:=List.nodup_append.mp hs;refine List.nodup_append.mpr ⟨?_,tE r (k+1) λx hx=>h x (by simp[hx]),λa ha b hb e=>?_⟩
  ·split
   ·exact List.pairwise_map.mpr ((List.pairwise_map.mp d2).imp λh e=>h (adf e).2)
   ·exact List.pairwise_map.mpr ((List.pairwise_map.mp d1).imp λh e=>h (adf e).2)
  ·obtain⟨p,_,rfl⟩:=List.mem_map.mp ha;obtain⟨x,n⟩:=b;obtain⟨i,s',_,h2,_⟩:=(iQ r (k+1) x n).mp hb;have:=(adf e).1;lia
def xG{l:List α}{t:Nat}{x:α}:x∈l.drop t++l.take t↔x∈l:=by
 constructor
 ·intro h;rcases List.mem_append.mp h with h|h
  ·exact adC h
  ·exact acx h
 ·intro h;rw[<-ab0 t l]at h;exact List.mem_append.mpr (List.mem_append.mp h).symm
def Ag{l:List α}{t:Nat}(h:l.Nodup):(l.drop t++l.take t).Nodup:=by rw[<-ab0 t l]at h;obtain⟨h1,h2,h3⟩:=List.nodup_append.mp h;exact List.nodup_append.mpr ⟨h2,h1,λa ha b hb e=>h3 b hb a ha e.symm⟩
variable{g:Gr}
theorem Gp.due(sn:(g.sg.map Sg.nm).Nodup){f:Fm}(h:Gp g.sg f ss)(k:Int)(n:Str):(k,n)∈dL 0 ss↔Due g f k n:=by
 rw[iQ];have e:=h.fm.nm;have Qs:∀(i:Nat)(s:Sg),ss[i]?=some s->(f.hd::f.br)[i]?=some s.nm/\Er g s.nm=s:=λi s hs=>by refine⟨by rw[<-e,aaK,hs];rfl,jC sn (h.mem s (aaD hs))⟩
 constructor
 ·rintro⟨i,s,hs,rfl,hn⟩;obtain⟨h1,h2⟩:=Qs i s hs;cases i with
  |zero=>
   have h1:f.hd=s.nm:=aa0 h1;refine .inl ⟨rfl,?_⟩;rw[h1,h2];simpa using hn
  |succ i=>
   have h1:f.br[i]?=some s.nm:=by simpa using h1
   refine .inr ⟨i,s.nm,h1,by lia,?_⟩;rw[h2];rw[aaR (by lia)]at hn;exact hn
 ·rintro(⟨rfl,hn⟩|⟨i,b,hb,rfl,hn⟩)
  ·obtain⟨s,hs⟩:=ax (xs:=ss) (i:=0) (by have:=h.l1;lia);obtain⟨h1,h2⟩:=Qs 0 s hs;have h1:f.hd=s.nm:=aa0 h1;refine⟨0,s,hs,rfl,?_⟩;rw[h1,h2]at hn;simpa using hn
  ·have hl:i+1<ss.length:=by
    have:=abk List.length e;rw[aaG,aaM]at this;have:=ao hb;lia
   obtain⟨s,hs⟩:=ax hl;obtain⟨h1,h2⟩:=Qs (i+1) s hs;have h1:f.br[i]?=some s.nm:=by simpa using h1
   rw[hb]at h1;have h1:b=s.nm:=aa0 h1;refine⟨i+1,s,hs,by lia,?_⟩;rw[aaR (by lia)];rw[h1,h2]at hn;exact hn
theorem IU.F(h:IU g):EK g:=by
 have sn:=h.sg.nd;obtain⟨w0,nw⟩:=h.nw;have l10:=h.l10;have Ju:∀f∈g.fm,∀b∈f.hd::f.br,∃s∈g.sg,s.nm=b:=λf hf b hb=>by obtain⟨ss,Fu⟩:=h.fm f hf;rw[<-Fu.fm.nm]at hb;obtain⟨s,hs,rfl⟩:=List.mem_map.mp hb;exact⟨s,Fu.mem s hs,rfl⟩
 refine⟨sn,sZ nw (by lia),by have:=h.sg.l6;lia,l10,λs hs=>(h.sg.g s hs).nd,λs hs=>⟨(h.sg.g s hs).ld,(h.sg.g s hs).lu⟩,λf hf=>Ju f hf _ (by simp),λf hf=>⟨?_,λb hb=>Ju f hf b (by simp[hb])⟩,λf hf=>?_,λf hf=>?_,λf hf k n=>?_⟩
 ·obtain⟨ss,Fu⟩:=h.fm f hf;have:=abk List.length Fu.fm.nm;rw[aaG,aaM]at this;have:=Fu.l4;lia
 ·obtain⟨ss,Fu⟩:=h.fm f hf;obtain⟨t,ht⟩:=Fu.fm.ru;rw[show f.ru.map SP.o4=f.ru.map o4 from rfl,ht];exact Ag (tE ss 0 λs hs=>h.sg.g s (Fu.mem s hs))
 ·obtain⟨ss,Fu⟩:=h.fm f hf;obtain⟨t,ht⟩:=Fu.fm.ru;have e:=abk List.length ht;rw[aaG,aaF,abP,aaZ]at e;have:=gF ss 0 λs hs=>h.sg.g s (Fu.mem s hs);have:=Fu.l4;lia
 ·obtain⟨ss,Fu⟩:=h.fm f hf;obtain⟨t,ht⟩:=Fu.fm.ru;rw[show f.ru.map SP.o4=f.ru.map o4 from rfl,ht,xG];exact Fu.due sn k n
theorem IU.W(h:IU g):Wh g:=by
 obtain⟨w0,nw⟩:=h.nw;refine⟨λs hs=>⟨h.sg.nm s hs,λn hn=>?_⟩,λf hf=>?_,λf hf r hr=>?_⟩
 ·obtain⟨p,hp,rfl⟩:=List.mem_map.mp hn;exact((h.sg.g s hs).ok p hp).1
 ·obtain⟨j,hj⟩:=abm hf;rw[nw j f hj];exact fv _ _
 ·obtain⟨ss,Fu⟩:=h.fm f hf;obtain⟨h1,h2,_⟩:=Fu.fm.dp r hr;exact⟨h1,by lia⟩
variable{us:List V}
theorem fu{B:Hp->α->V->Prop}{K:W.Frag}{G:List α}{js:List Nat}{tc:TT}{te:TE}{Q:VK}{D:Addr}{R:Hp->α->V->Prop}(sB:∀H H' f v,d_ H H'->B H f v->B H' f v)(st:∀H H' f v,d_ H H'->R H f v->R H' f v)(pr:α->Bool)(hz:us.length<sizeLine)(ha:H1 a=some (.tup us))(v_:g_ (B H1) G us)(hD:H1 D=none)(hc:∀f v H,f∈G->B H f v->a_ H1 H->∀Q':Bool->Hp->Prop,(∀H',a_ H H'->Q' (pr f) H')->tc (some v::bp js σ) H Q')(he:∀f v H,f∈G->B H f v->a_ H1 H->∀Q':VK,(∀y H',a_ H H'->R H' f y->Q' y H')->te (some v::bp js σ) H Q')(hq:∀ys H',a_ H1 H'->H' D=some (.lst ys)->g_ (R H') (G.filter pr) ys->Q (.ref D) H'):gZ (IT K a) js tc te σ Q D H1:=by
 have Ei:=v_.len;refine⟨λi m acc H=>m=us.length-i/\i<=us.length/\a_ H1 H/\H D=some (.lst acc)/\g_ (R H) ((G.take i).filter pr) acc,⟨us.length,by simp,aa3 _,ac hD _,aa,.nil⟩,?_⟩;rintro i m acc H ⟨hm,hi,sm,Ir,hr⟩;have la:=hr.len;have lf:((G.take i).filter pr).length<=i:=abg (aeC _ _) (by rw[aaZ];lia);refine⟨Ir,by lia,?_⟩;by_cases o9:i<us.length
 ·refine .inr ⟨⟨us,us[i],b9.of (sm _ _ ha),by simp[o9]⟩,λx H' y=>?_⟩;obtain⟨e,y⟩:=y;subst e;have hx:=y us (b9.of (sm _ _ ha));obtain⟨f,hf,Ur⟩:=v_.get hx;have fm:=aaD hf;refine hc f x _ fm (sB _ _ _ _ (am sm) Ur) sm _ λH2 s2=>?_;have Dz:=s2 _ _ Ir;have et:(G.take (i+1)).filter pr=(G.take i).filter pr++[f].filter pr:=by rw[aH hf,acj]
  cases hp:pr f with
  |true=>
   rw[aaY rfl];refine he f x H2 fm (sB _ _ _ _ (am (sm.trans s2)) Ur) (sm.trans s2) _ λy H3 s3 hR=>⟨s3 _ _ Dz,us.length-(i+1),by lia,rfl,by lia,aL hD (sm.trans (s2.trans s3)),aa,?_⟩
   have tD:=aJ (ys:=acc++[y]) (s3 _ _ Dz);rw[et,abQ hp,adx];exact(hr.imp λf v h=>st _ _ f v ((am (s2.trans s3)).trans tD) h).snoc (st _ _ _ _ tD hR)
  |false=>
   rw[aaR (by simp)];refine⟨us.length-(i+1),by lia,rfl,by lia,sm.trans s2,Dz,?_⟩;rw[et,abX (by simp[hp]),adx,aby];exact hr.imp λf v h=>st _ _ f v (am s2) h
 ·have e:i=us.length:=by lia
  subst e;rw[Ei,abO]at hr;exact .inl ⟨⟨us,b9.of (sm _ _ ha),aaI _⟩,hq acc H sm Ir hr⟩
theorem gD:∀{G:List Fr}{ts:List Tr}{ss:List Str}{u:Tr}{s:Str},eJ G ts=some ss->fit G u=some s->eJ G (ts++[u])=some (ss++[s])
 |G,[],ss,u,s,h,hu=>by
  rw[eJ]at h;cases h;exact ke hu (by rw[eJ])
 |G,t::ts,ss,u,s,h,hu=>by
  rw[eJ]at h;cases h1:fit G t with
  |none=>rw[h1]at h;cases h
  |some s1=>
   rw[h1]at h;cases h2:eJ G ts with
   |none=>rw[h2]at h;cases h
   |some r=>
    rw[h2]at h;cases h;exact ke h1 (gD h2 hu)
def qY{c:TT}{t:TS}(R:St->Prop)(E6:∀k_,R k_->rest D k_ H)(hc:∀Q:Bool->Hp->Prop,(A->Q true H)->(B->Q false H)->c σ H Q)(h1:A->∀D':gR,(∀k_,R k_->D'.nx k_ H)->t D' σ H)(h2:B->∀D':gR,(∀k_,R k_->D'.nx k_ H)->u D' σ H):IZ (Lx c t u) rest D σ H:=
 hc _ (λa=>zl (h1 a _ E6)) (λb=>lI (h2 b _ E6))
def WN(g:Gr)(s:Str):Prop:=∃f0 r,(g.fm.filter λf=>decide (f.hd=s))=f0::r/\f0.br=[]
structure Wg(g:Gr):Prop where
 nd:(g.fm.map Fm.nm).Nodup
 len:g.fm.length<=10
 br:∀f∈g.fm,f.br.length<=3/\∀b∈f.br,WN g b
theorem IU.Yi(h:IU g){k:Nat}(hs:g.sg[k]?=some s):WN g s.nm:=by
 obtain⟨f,hf,e1,e2⟩:=h.one k s hs;have sn:=h.sg.nd;have e:g.fm=g.fm.take k++f::g.fm.drop (k+1):=by obtain⟨hi,e⟩:=List.getElem?_eq_some_iff.mp hf;rw[<-e,<-acC hi,ab0]
 unfold WN;rw[e,acj];have e3:(g.fm.take k).filter (λf=>decide (f.hd=s.nm))=[]:=by
  refine List.filter_eq_nil_iff.mpr λf' B7=>?_;obtain⟨j,hj⟩:=abm B7;have hjk:j<k:=by have:=ao hj;rw[aaZ]at this;lia
  rw[List.getElem?_take,aaY hjk]at hj;obtain⟨s',Lh⟩:=ax (xs:=g.sg) (i:=j) (by have:=ao hs;lia);obtain⟨f2,hf2,e4,_⟩:=h.one j s' Lh;rw[hj]at hf2;cases hf2;simp only[abJ];intro z;have z:s'.nm=s.nm:=by rw[<-e4,z]
  have:=yn sn (i:=j) (j:=k) (x:=s.nm) (by rw[aaK,Lh,<-z];rfl) (by rw[aaK,hs];rfl);lia
 rw[e3,ab2,abQ (by simpa using e1)];exact⟨f,_,rfl,e2⟩
theorem IU.Wg{g:Gr}(h:IU g):Wg g:=by have F:=h.F;refine⟨F.fn,h.l10,λf hf=>⟨(F.br f hf).1,λb hb=>?_⟩⟩;obtain⟨s,hs,rfl⟩:=(F.br f hf).2 b hb;obtain⟨k,hk⟩:=abm hs;exact h.Yi hk
inductive kN(n:Nat)(vs:List V)(H:Hp)(Q:VK)(e0:XK):Prop
 |mk (g:Gr) (vg:V) (sg:Str) (d rm:Addr) (room:Nat) (cs:List Int):(vs=[vg,.str sg,.ref d,.ref rm])->o7 H g vg->Wg g->WN g sg->room<=n->room<=100->d≠rm->H d=some (.lst (cs.map V.int))->H rm=some (.lst [.int (room:Int)])->2*room+2<=cs.length->(∀t v (EG:List Int) (FR:Nat) H',Kp [d,rm] H H'->i3 H' t v->fit (n9 g) t=some sg->size t+FR=room+1->H' d=some (.lst (EG.map V.int))->EG.length+2*size t=cs.length->H' rm=some (.lst [.int (FR:Int)])->Q v H')->kN n vs H Q e0
theorem vj(X:Tx K mg T):∀n:Nat,i6 P w K mg base A6 (n+1) T.RY T.Gh ["_law_grammar_here", "_law_sign", "_law_deck_here", "_law_room"] (kN n):=by
 have step:∀(n:Nat)(sp:Sp),i6 P w K mg base A6 n T.RY T.Gh ["_law_grammar_here", "_law_sign", "_law_deck_here", "_law_room"] sp->(∀(g:Gr)(vg:V)(sg:Str)(d rm:Addr)(room:Nat)(cs:List Int)(H:Hp)(Q:VK)(E:XK),o7 H g vg->Wg g->WN g sg->room<n->room<=100->d≠rm->H d=some (.lst (cs.map V.int))->H rm=some (.lst [.int (room:Int)])->2*room+2<=cs.length ->
  (∀t v (EG:List Int) (FR:Nat) H',Kp [d,rm] H H'->i3 H' t v->fit (n9 g) t=some sg->size t+FR=room+1->H' d=some (.lst (EG.map V.int))->EG.length+2*size t=cs.length->H' rm=some (.lst [.int (FR:Int)])->Q v H')->sp [vg,.str sg,.ref d,.ref rm] H Q E)->i6 P w K mg base A6 (n+1) T.RY T.Gh ["_law_grammar_here", "_law_sign", "_law_deck_here", "_law_room"] (kN n):=by
  intro n sp KN A5;refine X.K6.Dy Ea (λvs H Q E h=>?_) (λm_ A outer s H vs Q E hr h=>?_)
  ·obtain⟨_,_,_,_,_,_,_,rfl,_⟩:=h;rfl
  obtain⟨g,vg,sg,d,rm,room,cs,rfl,hg,gw,Yi,hL,r100,Xd,hd,hrm,Ni,q⟩:=h;refine⟨_,(ag (eB (ys:=["_law_sign"]) (js:=[1]) rfl rfl (cr (aj ak (qv 0) af)) (λ_ _ _ _ _=>df (aE bS (aj (bc (K:=K) rfl) (qv 0) af) (qv 1) (aS _))) (λ_ _ _ _ _=>(qv 0)) (ay (i:=4) Ea.nd rfl oI1) rfl) (ag (au (i:=5) Ea.nd rfl oI1 (aj aO (qv 4) (ar aN (cI aaL abj abi cO (qv 2)) (aB av rfl X.z_len aa6 (b_ (qv 4) ae))))) (ag (bz (aE BW (aB av rfl X.z_len aa6 (q_ (aj ak (qv 5) af) ae)) (aj aO (qv 3) af) (aS _)) (ai (au (i:=5) Ea.nd rfl oI1 (aj aO (qv 4) af))) aK) (ag (jE (ar dm (aj aO (qv 3) af) (aB av rfl X.z_len aa6 (q_ (aj ak (qv 5) af) ae))) (At (qv 3) af uB)) (ag (au (i:=6) Ea.nd rfl oI1 (cI aaL abj abi cO (qv 2))) (ag (au (i:=7) Ea.nd rfl oI1 (aj aO (aR (n_ af (Dx (ar aN (ar aU (qv 6) af) af) (Dx (ar aN (qv 6) (ar rP af af)) ae)))) (ar aN (qv 6) af))) (ai (aG (aq (q_ (aj ak (qv 5) af) (b_ (qv 7) (Dw (bf be rfl X.z_tuple abq (MP (bG (ys:=["_law_grammar_here", "_law_deck_here", "_law_room"]) (js:=[0,2,3]) rfl rfl (cr (aj ak (qv 5) af)) (λ_ _ _ _ _=>bE) (λ_ _ _ _ _=>(aw KN hr rfl X.M3 X.K6.kp X.NO .nil bg (b_ (qv 1) (b_ (qv 0) (b_ (qv 2) (b_ (qv 3) ae))))))) ae)) ae)))))))))))),?_⟩;dsimp only[cg];have Ik:=hg;obtain⟨gp,sa,fa,IB,D4,rfl,Q8,JC,Ie,E3,B1⟩:=hg;have lf:=B1.len;have lG:=gw.len;obtain⟨f0,frest,P4,hb0⟩:=Yi;refine⟨_,rfl,gp,_,1,_,rfl,rfl,b9.of Q8,rfl,fa,rfl,⟨_,b9.of E3⟩,λS nS=>?_⟩;refine fu (K:=K) (B:=r_) (a:=fa) (us:=D4) (G:=g.fm) (R:=r_) (λ_ _ _ _ e h=>r_.same e h) (λ_ _ _ _ e h=>r_.same e h) (λf=>decide (f.hd=sg)) (bO (by lia)) E3 B1 nS (λf' v' H2 Ql B7 s2 Q' k=>?_) (λf' v' H2 Ql B7 s2 Q' k=>⟨_,rfl,k _ _ (a_.refl _) B7⟩) (λos H1 s1 hS Ej=>?_)
  ·obtain⟨p,b,rr,Gu,rfl,hp,_⟩:=B7;refine⟨_,rfl,p,_,1,_,rfl,rfl,b9.of hp,rfl,_,rfl,rfl,_,rfl,?_⟩;have e:decide (V.str f'.hd=V.str sg)=decide (f'.hd=sg):=decide_eq_decide.mpr ⟨V.str.inj,λz=>by rw[z]⟩;rw[e];exact k _ (a_.refl _)
  have los:=Ej.len;rw[P4,aaM]at los;obtain⟨Gi,c,rfl⟩:=bY (l:=cs) (by lia);rw[aaF,aaS]at Ni q;have EO:H1 d=some (.lst (Gi.map V.int++[.int c])):=by rw[s1 _ _ hd,aaX];rfl
  refine⟨_,rfl,_,rfl,.inl ⟨rfl,_,d9.of EO⟩,d,_,.int c,rfl,rfl,EO,by simp,?_⟩;dsimp only;rw[abh];have nSd:S≠d:=bq hd nS;have nSr:S≠rm:=bq hrm nS;have k2:Kp [d,rm] H (upd H1 d (.lst (Gi.map V.int))):=(Kp.of s1).upd (by simp);have T2:d_ H1 (upd H1 d (.lst (Gi.map V.int))):=aJ EO;have hd2:=aa (H:=H1) (a:=d) (o:=.lst (Gi.map V.int));have E4:upd H1 d (.lst (Gi.map V.int)) S=some (.lst os):=by rw[al nSd];exact hS
  have Ih:upd H1 d (.lst (Gi.map V.int)) rm=some (.lst [.int (room:Int)]):=by rw[al Xd.symm];exact s1 _ _ hrm
  have PN:=Ej.imp λ_ _ h=>r_.same T2 h;have P0:=o7.same ((am s1).trans T2) Ik;generalize upd H1 d (.lst (Gi.map V.int))=H2 at k2 hd2 E4 Ih PN P0⊢;have m0:=abc c (show(os.length:Int)≠0 by lia);have m1:=aa5 c (show(0:Int)<(os.length:Int)by lia);obtain⟨k,hk⟩:=abt m0;obtain⟨vf,Jz⟩:=ax (xs:=os) (i:=k) (by lia);obtain⟨f,Us,fp,fb,frr,fru,rfl,En,P6,_⟩:=PN.get Jz;have U6:=List.mem_filter.mp (aaD Us);have fsg:f.hd=sg:=by simpa using U6.2
  have NB:=List.mem_filter.mp (show f0∈g.fm.filter λf=>decide (f.hd=sg)by rw[P4];exact abd);have f0sg:f0.hd=sg:=by simpa using NB.2
  obtain⟨v0,Td,fp0,fb0,frr0,fru0,rfl,P2,hfb0,_⟩:=bw PN (show(g.fm.filter λf=>decide (f.hd=sg))[0]?=some f0 by rw[P4];rfl);refine⟨_,rfl,S,os,rfl,.inl (d9.of E4),_,_,rfl,rfl,(by show(0:Int)<(os.length:Int);lia),S,_,_,_,rfl,rfl,d9.of E4,(by rw[hk];exact aV Jz),?_⟩;dsimp only[s_];refine qY (A:=room<f.br.length) (B:=f.br.length<=room) (λk_=>∃(f:Fm)(fp fb:Addr)(rr:V),k_=[some (.ref gp),some (.str sg),some (.ref d),some (.ref rm),some (.ref S),some (.ref fp),none,none]/\f∈g.fm/\f.hd=sg/\H2 fp=some (.tup [.str f.nm,.str f.hd,.ref fb,rr])/\H2 fb=some (.tup (f.br.map V.str))/\f.br.length<=room) ?_ (λQ' qT qF=>?_) (λ_ D' hn=>?_) (λhB D' hn=>hn _ ⟨f,fp,fb,_,rfl,U6.1,fsg,En,P6,hB⟩)
  ·rintro k_ ⟨f,fp,fb,rr,rfl,fm,fsg,En,P6,flen⟩;have fbr:=gw.br f fm;have ix0:Jx 1 0=some 0:=rfl;refine⟨_,rfl,rm,_,0,.int (room:Int),rfl,rfl,d9.of Ih,rfl,_,rfl,fp,_,2,_,rfl,rfl,b9.of En,rfl,fb,_,rfl,.inr (b9.of P6),_,_,rfl,rfl,_,rfl,rm,_,0,0,rfl,rfl,Ih,ix0,?_⟩;dsimp only;rw[aaG,show(room:Int)-(f.br.length:Int)=((room-f.br.length:Nat):Int)by lia];have e1:([V.int (room:Int)]:List V).set 0 (.int ((room-f.br.length:Nat):Int))=[.int ((room-f.br.length:Nat):Int)]:=rfl;rw[e1];have k3:Kp [d,rm] H (upd H2 rm (.lst [.int ((room-f.br.length:Nat):Int)])):=k2.upd (by simp);have T3:d_ H2 (upd H2 rm (.lst [.int ((room-f.br.length:Nat):Int)])):=aJ Ih;have hr3:=aa (H:=H2) (a:=rm) (o:=.lst [.int ((room-f.br.length:Nat):Int)]);have G0:upd H2 rm (.lst [.int ((room-f.br.length:Nat):Int)]) d=some (.lst (Gi.map V.int)):=by rw[al Xd];exact hd2
   have Uo:=T3 _ _ En;have Uu:=T3 _ _ P6;have PZ:=o7.same T3 P0;generalize upd H2 rm (.lst [.int ((room-f.br.length:Nat):Int)])=H3 at k3 hr3 G0 Uo Uu PZ⊢;obtain⟨El,c2,rfl⟩:=bY (l:=Gi) (by lia);rw[aaF,aaS]at Ni q;have G0:H3 d=some (.lst (El.map V.int++[.int c2])):=by rw[G0,aaX];rfl
   refine⟨_,rfl,.inl ⟨rfl,_,d9.of G0⟩,d,_,.int c2,rfl,rfl,G0,by simp,?_⟩;dsimp only;rw[abh];have k4:Kp [d,rm] H (upd H3 d (.lst (El.map V.int))):=k3.upd (by simp);have T4:d_ H3 (upd H3 d (.lst (El.map V.int))):=aJ G0;have Rb:=aa (H:=H3) (a:=d) (o:=.lst (El.map V.int));have hr4:upd H3 d (.lst (El.map V.int)) rm=some (.lst [.int ((room-f.br.length:Nat):Int)]):=by rw[al Xd.symm];exact hr3
   have Um:=T4 _ _ Uo;have Ut:=T4 _ _ Uu;have hg4:=o7.same T4 PZ;generalize upd H3 d (.lst (El.map V.int))=H4 at k4 hr4 Rb Um Ut hg4⊢;refine⟨_,rfl,_,_,rfl,rfl,⟨by decide,by decide⟩,_,_,rfl,rfl,(by show(0:Int)<10;decide),_,rfl,_,_,rfl,rfl,⟨by decide,by decide,by decide⟩,_,_,rfl,rfl,(by show(0:Int)<10 ^ Int.toNat 18;decide),Z3,λl1 n1=>?_⟩;have t1:=ac n1 (.lst [.int 0,.int (c2 / 3%10),.int (c2%10 ^ Int.toNat 18)]);obtain⟨mk,TV⟩:∃mk:Int,Dp [V.int 0,V.int (c2 / 3%10),V.int (c2%10 ^ Int.toNat 18)] (c2%3)=some (.int mk):=by
    have:c2%3=0\/c2%3=1\/c2%3=2:=by lia
    rcases this with e|e|e<;>rw[e]<;>exact⟨_,rfl⟩
   refine⟨_,rfl,_,_,rfl,rfl,(by show(0:Int)<3;decide),l1,_,_,.int mk,rfl,rfl,d9.of aa,TV,?_⟩;have k5:=k4.same t1;have Hy:=t1 _ _ hr4;have FH:=t1 _ _ Rb;have Mi:=t1 _ _ Um;have P5:=t1 _ _ Ut;have Uk:=o7.same (am t1) hg4;generalize upd H4 l1 (.lst [.int 0,.int (c2 / 3%10),.int (c2%10 ^ Int.toNat 18)])=H5 at k5 Hy FH Mi P5 Uk⊢;refine⟨_,rfl,fp,_,0,_,rfl,rfl,b9.of Mi,rfl,_,rfl,_,rfl,fp,_,2,_,rfl,rfl,b9.of Mi,rfl,fb,rfl,⟨_,b9.of P5⟩,λD nD=>?_⟩;have Hr:D≠d:=bq FH nD;have Xf:D≠rm:=bq Hy nD;have D0:H D=none:=k5.free nD (by simp;exact⟨Hr,Xf⟩);have TT:∀{H':Hp},Kp [d,rm,D] H5 H'->d_ H5 H':=λ{H'} kp b xs e=>kp b _ (by
    simp;exact⟨dZ e FH (λz=>nomatch z),dZ e Hy (λz=>nomatch z),aI e nD⟩) e
   refine nA (K:=K) (a:=fb) (xs:=f.br.map V.str) (λi acc H'=>i<=f.br.length/\Kp [d,rm,D] H5 H'/\H' D=some (.lst acc)/\∃(ts:List Tr)(EG:List Int)(r':Nat),ts.length=i/\g_ (i3 H') ts acc/\eJ (n9 g) ts=some (f.br.take i)/\H' d=some (.lst (EG.map V.int))/\EG.length+2*bj ts=El.length/\H' rm=some (.lst [.int (r':Int)])/\bj ts+r'=room-f.br.length+i) (bO (by rw[aaG];lia))
    ⟨aa3 _,(Kp.refl _ _).upd (by simp),aa,[],El,room-f.br.length,rfl,.nil,by rw[ac9,eJ],by rw[al Hr.symm];exact FH,by rw[bj];rfl,by rw[al Xf.symm];exact Hy,by rw[bj];lia⟩ (by rintro i acc H' ⟨li,kp,hD,ts,_,_,l,r,_⟩;exact⟨hD,by rw[r.len,l],b9.of (TT kp _ _ P5)⟩) (λi m x acc H' hx ⟨li,kp,hD,ts,EG,r',lt,Pu,F_,A_,lc,y_,lr⟩ hm=>?_) (λacc H' ⟨li,kp,hD,ts,EG,r',lt,Pu,F_,A_,lc,y_,lr⟩=>?_)
   ·rw[aaK]at hx;cases eb:f.br[i]? with
    |none=>rw[eb]at hx;cases hx
    |some b=>
     rw[eb]at hx;cases hx;have bm:=aaD eb;have hib:=ao eb;have sl:=eK ts;refine⟨_,rfl,_,rfl,_,rfl,_,rfl,?_⟩;refine A5 g _ b d rm r' EG H' _ _ (o7.same (TT kp) Uk) gw (fbr.2 b bm) (by lia) (by lia) Xd A_ y_ (by lia) λt v Kv r2 H6 QZ ht Lm hsz Ip lc6 Li=>?_;have T6:d_ H' H6:=QZ.My λx hx=>by
      have hx:x=d\/x=rm:=by simpa using hx
      rcases hx with rfl|rfl
      ·exact⟨_,A_⟩
      ·exact⟨_,y_⟩
     have Ms:=QZ _ _ (by simp;exact⟨Hr,Xf⟩) hD;have tD:=aJ (ys:=acc++[v]) Ms;have es:bj (ts++[t])=bj ts+size t:=by rw[gh,bj,bj];lia
     refine fH (n:=(f.br.map V.str).length) (i:=i) (by rw[aaG];exact hib) hm Ms ⟨by lia,(kp.trans (QZ.mono (by simp))).upd (by simp),aa,ts++[t],Kv,r2,by rw[aaF,lt];rfl,(Pu.imp λ_ _ h=>i3.same (T6.trans tD) _ h).snoc (i3.same tD t ht),?_,by rw[al Hr.symm];exact Ip,by rw[es];lia,by rw[al Xf.symm];exact Li,by rw[es];lia⟩;rw[aH eb];exact gD F_ Lm
   ·rw[aaG]at lt F_ lr;rw[abO]at F_;have hfp6:=TT kp _ _ Mi;refine⟨D,_,rfl,.inl ⟨d9.of hD,λt5 n5=>⟨Z3,λt6 n6=>?_⟩⟩⟩;have v1:=ac n5 (.tup acc);have v2:=ac n6 (.tup [.str f.nm,.int mk,.ref t5]);have WT:=v1.trans v2;have z1:size (.node f.nm mk ts)=1+bj ts:=by rw[size]
    refine q (.node f.nm mk ts) _ EG r' _ (λb o hb hB=>WT _ _ (kp b o (by simp;simp at hb;exact⟨hb.1,hb.2,aI hB D0⟩) (k5 b o hb hB))) (i3.cl aa (v2 _ _ aa) (Pu.imp λ_ _ h=>i3.same (am WT) _ h)) ?_ (by rw[z1];lia) (WT _ _ A_) (by rw[z1];lia) (WT _ _ y_);rw[<-fsg];have hm:vI f∈n9 g:=List.mem_map.mpr ⟨f,fm,rfl⟩;have II:(names (n9 g)).Nodup:=by unfold names SP.n9;rw[acB];exact gw.nd
    exact tj (t:=.node f.nm mk ts) (f:=vI f) (iZ II hm) F_
  ·refine⟨_,rfl,fp,_,2,_,rfl,rfl,b9.of En,rfl,fb,_,rfl,.inr (b9.of P6),_,rfl,rm,_,0,.int (room:Int),rfl,rfl,d9.of Ih,rfl,_,_,rfl,rfl,_,rfl,?_⟩;rw[aaG];by_cases h:(room:Int)<(f.br.length:Int)
   ·rw[abb h];exact qT (by lia)
   ·rw[aaW h];exact qF (by lia)
  ·exact⟨_,rfl,S,_,0,_,rfl,rfl,d9.of E4,aV Td,hn _ ⟨f0,fp0,fb0,_,rfl,NB.1,f0sg,P2,hfb0,by rw[hb0];exact aa3 _⟩⟩
 intro n;induction n with
 |zero=>exact step 0 (λ_ _ _ _=>False) ⟨λ_ _ _ _ h=>h.elim,λ_ _ _ _ _ _ _ _ _ _ _ _ _ h=>h.elim⟩ (λg vg sg d rm room cs H Q E _ _ _ hL _ _ _ _ _ _=>by lia)
 |succ n ih=>exact step (n+1) _ ih λg vg sg d rm room cs H Q E h1 h2 h3 h4 h5 h6 h7 h8 h9 XC=>⟨g,vg,sg,d,rm,room,cs,rfl,h1,h2,h3,by lia,h5,h6,h7,h8,h9,XC⟩
noncomputable def aC(c:Int):Str:=Dv (c / 7) 0
noncomputable def cC(c:Int):Str:=Dv (c / 7) 1
noncomputable def sC(c:Int):Str:=Dv (c / 11) 5
noncomputable def nC(c:Int):Str:=Dv (c / 13) 0
noncomputable def mC(c:Int):Str:=Dv (c / 13) 1
noncomputable def DC(c:Int):Sg:=⟨sC c,[(aC c, "num")],[(cC c, "num")]⟩
noncomputable def eE(c:Int):Fm:=⟨nC c,sC c,[],[⟨0,cC c,.call "add" [.val 0 (aC c),.mark]⟩]⟩
noncomputable def cm(c:Int):Fm:=⟨mC c,sC c,[sC c,sC c,sC c],[⟨2,aC c,.val 1 (cC c)⟩,⟨1,aC c,.val 0 (aC c)⟩,⟨0,cC c,.val 3 (cC c)⟩,⟨3,aC c,.call "sub" [.val 2 (cC c),.mark]⟩]⟩
noncomputable def gC(c:Int):Gr:=⟨[DC c],[eE c,cm c]⟩
theorem Ci(c:Int):aC c≠cC c:=λh=>by have:=fU (by decide) (by decide) (by decide) (by decide) h;lia
theorem yl(c:Int):nC c≠mC c:=λh=>by have:=fU (by decide) (by decide) (by decide) (by decide) h;lia
def BJ(c:Int):Er (gC c) (sC c)=DC c:=jC (g:=gC c) (by simp[gC]) (s:=DC c) (by simp[gC])
theorem Db(c:Int):EK (gC c):=by
 have hac:=Ci c;have hnm:=yl c;have hs:=BJ c;refine⟨by simp[gC],?_,by simp[gC],by simp[gC],λs hs=>?_,λs hs=>?_,λf hf=>?_,λf hf=>?_,λf hf=>?_,λf hf=>?_,λf hf k n=>?_⟩
 ·show([nC c,mC c]:List Str).Nodup;simp[hnm]
 ·have:s=DC c:=by simpa [gC]using hs
  subst this;show([aC c,cC c]:List Str).Nodup;simp[hac]
 ·have:s=DC c:=by simpa [gC]using hs
  subst this;exact⟨by show 1<=2;decide,by show 1<=2;decide⟩
 ·have:f=eE c\/f=cm c:=by simpa [gC]using hf
  rcases this with rfl|rfl
  ·exact⟨DC c,by simp[gC],rfl⟩
  ·exact⟨DC c,by simp[gC],rfl⟩
 ·have:f=eE c\/f=cm c:=by simpa [gC]using hf
  rcases this with rfl|rfl
  ·exact⟨by show 0<=3;decide,λb hb=>nomatch hb⟩
  ·refine⟨by show 3<=3;decide,λb hb=>⟨DC c,by simp[gC],?_⟩⟩;have hb:b=sC c:=by simpa [cm]using hb
   rw[hb];rfl
 ·have:f=eE c\/f=cm c:=by simpa [gC]using hf
  rcases this with rfl|rfl
  ·show([(0,cC c)]:List (Int×Str)).Nodup;simp
  ·show([(2,aC c),(1,aC c),(0,cC c),(3,aC c)]:List (Int×Str)).Nodup;simp
 ·have:f=eE c\/f=cm c:=by simpa [gC]using hf
  rcases this with rfl|rfl
  ·show 1<=10;decide
  ·show 4<=10;decide
 ·have:f=eE c\/f=cm c:=by simpa [gC]using hf
  have hU:uo (DC c)=[cC c]:=rfl;have hD:zk (DC c)=[aC c]:=rfl;rcases this with rfl|rfl
  ·unfold SP.Due;rw[show(eE c).hd=sC c from rfl,hs,hU];show(k,n)∈([(0,cC c)]:List (Int×Str))↔_;constructor
   ·intro h;have h:=List.mem_singleton.mp h;cases h;exact .inl ⟨rfl,by simp⟩
   ·rintro(⟨rfl,h⟩|⟨i,b,hb,_⟩)
    ·rw[List.mem_singleton.mp h];simp
    ·simp[eE]at hb
  ·unfold SP.Due;rw[show(cm c).hd=sC c from rfl,hs,hU];show(k,n)∈([(2,aC c),(1,aC c),(0,cC c),(3,aC c)]:List (Int×Str))↔_;constructor
   ·intro h;simp only[ab9,acY,adU]at h;rcases h with h|h|h|h<;>cases h
    ·exact .inr ⟨1,sC c,rfl,rfl,by rw[hs,hD];simp⟩
    ·exact .inr ⟨0,sC c,rfl,rfl,by rw[hs,hD];simp⟩
    ·exact .inl ⟨rfl,by simp⟩
    ·exact .inr ⟨2,sC c,rfl,rfl,by rw[hs,hD];simp⟩
   ·rintro(⟨rfl,h⟩|⟨i,b,hb,rfl,h⟩)
    ·rw[List.mem_singleton.mp h];simp
    ·have IL:b=sC c:=by
      have:=aaD hb;simpa [cm]using this
     rw[IL,hs,hD]at h;rw[List.mem_singleton.mp h];have hi:i<3:=ao hb;have:i=0\/i=1\/i=2:=by lia
     rcases this with rfl|rfl|rfl<;>simp
def CZ(c:Int):Wh (gC c):=by
 refine⟨λs hs=>?_,λf hf=>?_,λf hf r hr=>?_⟩
 ·have:s=DC c:=by simpa [gC]using hs
  subst this;refine⟨fv _ _,λn hn=>?_⟩;have hn:n=aC c\/n=cC c:=by simpa [db,DC]using hn
  rcases hn with rfl|rfl<;>exact fv _ _
 ·have:f=eE c\/f=cm c:=by simpa [gC]using hf
  rcases this with rfl|rfl<;>exact fv _ _
 ·have:f=eE c\/f=cm c:=by simpa [gC]using hf
  have hv:∀(k:Int)(z:Str),TB [(k,z)] 12 1000 (.val k z):=λk z=>(TB.val (by simp)).le (by decide) (by decide);have hw:∀(w:Str)(k:Int)(z:Str),TB [(k,z)] 12 1000 (.call w [.val k z,.mark]):=λw k z=>((TB.val (by simp)).call2 TB.mark).le (by decide) (by decide);rcases this with rfl|rfl
  ·have:r=⟨0,cC c,.call "add" [.val 0 (aC c),.mark]⟩:=by simpa [eE]using hr
   subst this;exact⟨(hw _ _ _).dp,(hw _ _ _).pt⟩
  ·have:r=⟨2,aC c,.val 1 (cC c)⟩\/r=⟨1,aC c,.val 0 (aC c)⟩\/r=⟨0,cC c,.val 3 (cC c)⟩\/r=⟨3,aC c,.call "sub" [.val 2 (cC c),.mark]⟩:=by simpa [cm]using hr
   rcases this with rfl|rfl|rfl|rfl
   ·exact⟨(hv _ _).dp,(hv _ _).pt⟩
   ·exact⟨(hv _ _).dp,(hv _ _).pt⟩
   ·exact⟨(hv _ _).dp,(hv _ _).pt⟩
   ·exact⟨(hw _ _ _).dp,(hw _ _ _).pt⟩
def vN(c mk:Int):fit (n9 (gC c)) (.node (nC c) mk [])=some (sC c):=by
 have II:(names (n9 (gC c))).Nodup:=by show([nC c,mC c]:List Str).Nodup;simp[yl c]
 exact tj (t:=.node (nC c) mk []) (f:=vI (eE c)) (iZ II (f:=vI (eE c)) (by simp[SP.n9,gC])) (by show eJ _ []=some [];rw[eJ])
def tf(c mk:Int){ts:List Tr}(h:eJ (n9 (gC c)) ts=some [sC c,sC c,sC c]):fit (n9 (gC c)) (.node (mC c) mk ts)=some (sC c):=by
 have II:(names (n9 (gC c))).Nodup:=by show([nC c,mC c]:List Str).Nodup;simp[yl c]
 exact tj (t:=.node (mC c) mk ts) (f:=vI (cm c)) (iZ II (f:=vI (cm c)) (by simp[SP.n9,gC])) h
inductive jy(vs:List V)(H:Hp)(Q:VK)(e0:XK):Prop
 |mk (c:Int):(vs=[.int c])->(∀v H',a_ H H'->o7 H' (gC c) v->Q v H')->jy vs H Q e0
inductive qO(m:Nat)(vs:List V)(H:Hp)(Q:VK)(e0:XK):Prop
 |mk (c0:Int) (fa:Addr) (D4:List V) (n:Nat) (c:Int):(vs=[.ref fa,.int (n:Int),.int c])->H fa=some (.tup D4)->g_ (r_ H) (gC c0).fm D4->n<=m->n<=1000->(∀t v H',a_ H H'->i3 H' t v->fit (n9 (gC c0)) t=some (sC c0)->size t=3*n+1->Q v H')->qO m vs H Q e0
theorem pJ(X:Tx K mg T):i6 P w K mg base A6 2 T.ZF T.Kh ["_law_cell"] jy:=by
 have DY:=kW (P:=P) (w:=w) (base:=base) X;refine X.Ov.Dy C5 (λvs H Q E h=>?_) (λm_ A outer s H vs Q E hr h=>?_)
 ·obtain⟨_,rfl,_⟩:=h;rfl
 obtain⟨c,rfl,q⟩:=h;refine⟨_,(ag (jE (bG (ys:=["_law_cell"]) (js:=[0]) rfl rfl (aZ rfl X.z_range (n_ af ae)) (λ_ _ _ _ _=>bE) (λ_ _ _ _ _=>(aw DY hr rfl X.Ey X.Eg.kp X.EH .nil bg (Dx (ar aU (qv 1) af) (b_ (qv 0) ae))))) (Au rfl (aW (ay (i:=1) C5.nd rfl oI1) (aW (ay (i:=2) C5.nd rfl oI1) cH)))) (ag (au (i:=3) C5.nd rfl oI1 (aw DY hr rfl X.Ey X.Eg.kp X.EH .nil bg (Dx (ar aU (qv 0) af) (n_ af ae)))) (ag (eB (ys:=["_law_cell"]) (js:=[0]) rfl rfl (aZ rfl X.z_range (n_ af ae)) (λ_ _ _ _ _=>bE) (λ_ _ _ _ _=>(aw DY hr rfl X.Ey X.Eg.kp X.EH .nil bg (Dx (ar aU (qv 1) af) (b_ (qv 0) ae)))) (ay (i:=4) C5.nd rfl oI1) rfl) (ag (au (i:=5) C5.nd rfl oI1 (aq (u9 (aq (n_ af (b_ (qv 2) (u9 (aq (n_ aA (n_ aA (u9 (aq (u9 (aq (n_ aA (n_ af (b_ (qv 1) ae)))) (u9 (aq (n_ aA ae)) ae))) ae)))) ae)))) ae))) (ag (au (i:=6) C5.nd rfl oI1 (aq (u9 (aq (n_ af (b_ (qv 1) (u9 (aq (n_ aA (n_ af (b_ (qv 2) ae)))) ae)))) (u9 (aq (n_ af (b_ (qv 1) (u9 (aq (n_ aA (n_ af (b_ (qv 1) ae)))) ae)))) (u9 (aq (n_ af (b_ (qv 2) (u9 (aq (n_ aA (n_ af (b_ (qv 2) ae)))) ae)))) ae))))) (ag (au (i:=6) C5.nd rfl oI1 (ar bZ (qv 6) (aq (u9 (aq (n_ af (b_ (qv 1) (u9 (aq (n_ aA (n_ aA (u9 (aq (u9 (aq (n_ aA (n_ af (b_ (qv 2) ae)))) (u9 (aq (n_ aA ae)) ae))) ae)))) ae)))) ae)))) (ag (au (i:=7) C5.nd rfl oI1 (aq (u9 (aq (q_ (aj aO (qv 4) af) (b_ (qv 3) (u9 (aq ae) (b_ (qv 5) ae))))) (u9 (aq (q_ (aj aO (qv 4) af) (b_ (qv 3) (u9 (aq (b_ (qv 3) (b_ (qv 3) (b_ (qv 3) ae)))) (b_ (qv 6) ae))))) ae)))) (ai (aG (aq (u9 (aq (u9 (aq (b_ (qv 3) (u9 (aq (u9 (aq (b_ (qv 1) (n_ aA ae))) ae)) (u9 (aq (u9 (aq (b_ (qv 2) (n_ aA ae))) ae)) ae)))) ae)) (b_ (qv 7) ae)))))))))))),?_⟩;dsimp only[cg];refine⟨_,rfl,(by decide),(by decide),λD1 n1=>?_⟩;refine cR (λi acc G=>acc=([V.str (aC c),V.str (cC c)]:List V).take i/\i<=2/\a_ H G/\G D1=some (.lst acc)) (by decide) ⟨rfl,by decide,ac n1 _,aa⟩ (by rintro i acc G ⟨e,l,_,d⟩;exact⟨d,by rw[e,aaZ];show min i 2=i;lia⟩) ?_ ?_
 ·rintro i m acc G hi ⟨e,l,sm,dd⟩ hm;have hi:i<2:=hi;refine⟨_,rfl,_,_,rfl,rfl,⟨by decide,by decide⟩,_,rfl,_,_,rfl,?_⟩;refine fH (n:=2) hi hm dd ⟨?_,by lia,aL n1 sm,aa⟩;have:i=0\/i=1:=by lia
  rcases this with rfl|rfl
  ·rw[e];rfl
  ·rw[e];rfl
 rintro acc H1 ⟨e,_,s1,HA⟩;have e:acc=[V.str (aC c),V.str (cC c)]:=e;subst e;refine⟨D1,_,rfl,d9.of HA,rfl,_,_,rfl,_,_,rfl,rfl,?_⟩;refine⟨_,rfl,_,_,rfl,rfl,⟨by decide,by decide⟩,_,_,rfl,?_⟩;dsimp only;rw[show Dv (c / 11) 5=sC c from rfl];refine⟨_,rfl,(by decide),(by decide),λD2 n2=>?_⟩;refine cR (λi acc G=>acc=([V.str (nC c),V.str (mC c)]:List V).take i/\i<=2/\a_ H1 G/\G D2=some (.lst acc)) (by decide) ⟨rfl,by decide,ac n2 _,aa⟩ (by rintro i acc G ⟨e,l,_,d⟩;exact⟨d,by rw[e,aaZ];show min i 2=i;lia⟩) ?_ ?_
 ·rintro i m acc G hi ⟨e,l,sm,dd⟩ hm;have hi:i<2:=hi;refine⟨_,rfl,_,_,rfl,rfl,⟨by decide,by decide⟩,_,rfl,_,_,rfl,?_⟩;refine fH (n:=2) hi hm dd ⟨?_,by lia,aL n2 sm,aa⟩;have:i=0\/i=1:=by lia
  rcases this with rfl|rfl
  ·rw[e];rfl
  ·rw[e];rfl
 rintro acc H2 ⟨e,_,s2,Dz⟩;have e:acc=[V.str (nC c),V.str (mC c)]:=e;subst e;have C7:=s1.trans s2;refine⟨_,rfl,_,rfl,Z3,λa1 h1=>⟨Z1,λa2 h2=>⟨Z2,λa3 h3=>⟨Z3,λa4 h4=>⟨Z3,λa5 h5=>⟨Z1,λa6 h6=>?_⟩⟩⟩⟩⟩⟩;have u1:=ac h1 (.tup [.str "of",.int 0,.str (aC c)]);have u2:=ac h2 (.tup [.str "mark"]);have u3:=ac h3 (.tup [.ref a1,.ref a2]);have u4:=ac h4 (.tup [.str "call",.str "add",.ref a3]);have u5:=ac h5 (.tup [.int 0,.str (cC c),.ref a4]);have u6:=ac h6 (.tup [.ref a5]);have uA:=u1.trans (u2.trans (u3.trans (u4.trans (u5.trans u6))));have R1:o_ _ ⟨0,cC c,.call "add" [.val 0 (aC c),.mark]⟩ (.ref a5):=⟨a5,.ref a4,rfl,u6 _ _ aa,cS ((u5.trans u6) _ _ aa) ((u4.trans (u5.trans u6)) _ _ aa) (by show 2<=1000;decide) (zx (tm_val ((u2.trans (u3.trans (u4.trans (u5.trans u6)))) _ _ aa)) (eA ((u3.trans (u4.trans (u5.trans u6))) _ _ aa)))⟩
 have g6:=aa (H:=upd (upd (upd (upd (upd H2 a1 (.tup [.str "of",.int 0,.str (aC c)])) a2 (.tup [.str "mark"])) a3 (.tup [.ref a1,.ref a2])) a4 (.tup [.str "call",.str "add",.ref a3])) a5 (.tup [.int 0,.str (cC c),.ref a4])) (a:=a6) (o:=.tup [.ref a5]);generalize upd (upd (upd (upd (upd (upd H2 a1 (.tup [.str "of",.int 0,.str (aC c)])) a2 (.tup [.str "mark"])) a3 (.tup [.ref a1,.ref a2])) a4 (.tup [.str "call",.str "add",.ref a3])) a5 (.tup [.int 0,.str (cC c),.ref a4])) a6 (.tup [.ref a5])=H3 at uA R1 g6⊢;refine⟨_,rfl,_,rfl,Z3,λb1 k1=>⟨Z3,λb2 k2=>⟨_,rfl,_,rfl,Z3,λb3 k3=>⟨Z3,λb4 k4=>⟨_,rfl,_,rfl,Z3,λb5 k5=>⟨Z3,λb6 k6=>⟨Z3,λb7 k7=>?_⟩⟩⟩⟩⟩⟩⟩;have v1:=ac k1 (.tup [.str "of",.int 1,.str (cC c)]);have v2:=ac k2 (.tup [.int 2,.str (aC c),.ref b1]);have v3:=ac k3 (.tup [.str "of",.int 0,.str (aC c)]);have v4:=ac k4 (.tup [.int 1,.str (aC c),.ref b3]);have v5:=ac k5 (.tup [.str "of",.int 3,.str (cC c)]);have v6:=ac k6 (.tup [.int 0,.str (cC c),.ref b5]);have v7:=ac k7 (.tup [.ref b2,.ref b4,.ref b6]);have w67:=v6.trans v7;have w57:=v5.trans w67;have w47:=v4.trans w57;have w37:=v3.trans w47;have w27:=v2.trans w37;have vA:=v1.trans w27;have Q1:o_ _ ⟨2,aC c,.val 1 (cC c)⟩ (.ref b2):=⟨b2,.ref b1,rfl,w37 _ _ aa,tm_val (w27 _ _ aa)⟩
 have Q2:o_ _ ⟨1,aC c,.val 0 (aC c)⟩ (.ref b4):=⟨b4,.ref b3,rfl,w57 _ _ aa,tm_val (w47 _ _ aa)⟩
 have Q3:o_ _ ⟨0,cC c,.val 3 (cC c)⟩ (.ref b6):=⟨b6,.ref b5,rfl,v7 _ _ aa,tm_val (w67 _ _ aa)⟩
 have g7:=aa (H:=upd (upd (upd (upd (upd (upd H3 b1 (.tup [.str "of",.int 1,.str (cC c)])) b2 (.tup [.int 2,.str (aC c),.ref b1])) b3 (.tup [.str "of",.int 0,.str (aC c)])) b4 (.tup [.int 1,.str (aC c),.ref b3])) b5 (.tup [.str "of",.int 3,.str (cC c)])) b6 (.tup [.int 0,.str (cC c),.ref b5])) (a:=b7) (o:=.tup [.ref b2,.ref b4,.ref b6]);generalize upd (upd (upd (upd (upd (upd (upd H3 b1 (.tup [.str "of",.int 1,.str (cC c)])) b2 (.tup [.int 2,.str (aC c),.ref b1])) b3 (.tup [.str "of",.int 0,.str (aC c)])) b4 (.tup [.int 1,.str (aC c),.ref b3])) b5 (.tup [.str "of",.int 3,.str (cC c)])) b6 (.tup [.int 0,.str (cC c),.ref b5])) b7 (.tup [.ref b2,.ref b4,.ref b6])=H4 at vA Q1 Q2 Q3 g7⊢;refine⟨_,rfl,_,rfl,_,rfl,Z3,λd1 l1=>⟨Z1,λd2 l2=>⟨Z2,λd3 l3=>⟨Z3,λd4 l4=>⟨Z3,λd5 l5=>⟨Z1,λd6 l6=>?_⟩⟩⟩⟩⟩⟩;have x1:=ac l1 (.tup [.str "of",.int 2,.str (cC c)]);have x2:=ac l2 (.tup [.str "mark"]);have x3:=ac l3 (.tup [.ref d1,.ref d2]);have x4:=ac l4 (.tup [.str "call",.str "sub",.ref d3]);have x5:=ac l5 (.tup [.int 3,.str (aC c),.ref d4]);have x6:=ac l6 (.tup [.ref d5]);have xA:=x1.trans (x2.trans (x3.trans (x4.trans (x5.trans x6))));have Q4:o_ _ ⟨3,aC c,.call "sub" [.val 2 (cC c),.mark]⟩ (.ref d5):=⟨d5,.ref d4,rfl,x6 _ _ aa,cS ((x5.trans x6) _ _ aa) ((x4.trans (x5.trans x6)) _ _ aa) (by show 2<=1000;decide) (zx (tm_val ((x2.trans (x3.trans (x4.trans (x5.trans x6)))) _ _ aa)) (eA ((x3.trans (x4.trans (x5.trans x6))) _ _ aa)))⟩
 have y6:=aa (H:=upd (upd (upd (upd (upd H4 d1 (.tup [.str "of",.int 2,.str (cC c)])) d2 (.tup [.str "mark"])) d3 (.tup [.ref d1,.ref d2])) d4 (.tup [.str "call",.str "sub",.ref d3])) d5 (.tup [.int 3,.str (aC c),.ref d4])) (a:=d6) (o:=.tup [.ref d5]);generalize upd (upd (upd (upd (upd (upd H4 d1 (.tup [.str "of",.int 2,.str (cC c)])) d2 (.tup [.str "mark"])) d3 (.tup [.ref d1,.ref d2])) d4 (.tup [.str "call",.str "sub",.ref d3])) d5 (.tup [.int 3,.str (aC c),.ref d4])) d6 (.tup [.ref d5])=H5 at xA Q4 y6⊢;refine⟨b7,d6,_,_,rfl,rfl,xA _ _ g7,y6,cF (by show 3+1<=100000;decide),λe7 H6 s6 he7=>?_⟩;have sC6:=C7.trans (uA.trans (vA.trans (xA.trans s6)));have hn6:=(uA.trans (vA.trans (xA.trans s6))) _ _ Dz;have TA:=am (vA.trans (xA.trans s6));have TB':=am (xA.trans s6);have R1':=o_.same TA R1;have g6':=TA _ _ g6;have Q1':=o_.same TB' Q1;have Q2':=o_.same TB' Q2;have Q3':=o_.same TB' Q3;have Q4':=o_.same (am s6) Q4;refine⟨_,rfl,D2,_,0,.str (nC c),rfl,rfl,d9.of hn6,rfl,_,rfl,Z0,λp1 r1=>⟨_,rfl,Z4,λp2 r2=>?_⟩⟩;have z1:=ac r1 (.tup []);have z2:=ac r2 (.tup [.str (nC c),.str (sC c),.ref p1,.ref a6]);refine⟨_,rfl,D2,_,1,.str (mC c),rfl,rfl,d9.of ((z1.trans z2) _ _ hn6),rfl,_,rfl,_,rfl,_,rfl,_,rfl,Z3,λp3 r3=>⟨_,rfl,Z4,λp4 r4=>⟨Z2,λp5 r5=>?_⟩⟩⟩;have z3:=ac r3 (.tup [.str (sC c),.str (sC c),.str (sC c)]);have z4:=ac r4 (.tup [.str (mC c),.str (sC c),.ref p3,.ref e7]);have z5:=ac r5 (.tup [.ref p2,.ref p4]);have z45:=z4.trans z5;have z35:=z3.trans z45;have z25:=z2.trans z35;have zA:=z1.trans z25;have F1:r_ _ (eE c) (.ref p2):=⟨p2,p1,a6,[.ref a5],rfl,z35 _ _ aa,z25 _ _ aa,zA _ _ g6',.cons (o_.same (am zA) R1') .nil⟩
 have F2:r_ _ (cm c) (.ref p4):=⟨p4,p3,e7,_,rfl,z5 _ _ aa,z45 _ _ aa,zA _ _ he7,.cons (o_.same (am zA) Q1') (.cons (o_.same (am zA) Q2') (.cons (o_.same (am zA) Q3') (.cons (o_.same (am zA) Q4') .nil)))⟩
 have Q5:=aa (H:=upd (upd (upd (upd H6 p1 (.tup [])) p2 (.tup [.str (nC c),.str (sC c),.ref p1,.ref a6])) p3 (.tup [.str (sC c),.str (sC c),.str (sC c)])) p4 (.tup [.str (mC c),.str (sC c),.ref p3,.ref e7])) (a:=p5) (o:=.tup [.ref p2,.ref p4]);generalize upd (upd (upd (upd (upd H6 p1 (.tup [])) p2 (.tup [.str (nC c),.str (sC c),.ref p1,.ref a6])) p3 (.tup [.str (sC c),.str (sC c),.str (sC c)])) p4 (.tup [.str (mC c),.str (sC c),.ref p3,.ref e7])) p5 (.tup [.ref p2,.ref p4])=H7 at zA F1 F2 Q5⊢;refine⟨_,rfl,_,rfl,Z2,λq1 t1=>⟨Z1,λq2 t2=>⟨_,rfl,Z2,λq3 t3=>⟨Z1,λq4 t4=>⟨Z3,λq5 t5=>⟨Z1,λq6 t6=>⟨_,rfl,Z2,λq7 t7=>?_⟩⟩⟩⟩⟩⟩⟩;have j1:=ac t1 (.tup [.str (aC c),.str "num"]);have j2:=ac t2 (.tup [.ref q1]);have j3:=ac t3 (.tup [.str (cC c),.str "num"]);have j4:=ac t4 (.tup [.ref q3]);have j5:=ac t5 (.tup [.str (sC c),.ref q2,.ref q4]);have j6:=ac t6 (.tup [.ref q5]);have j7:=ac t7 (.tup [.ref q6,.ref p5]);have j67:=j6.trans j7;have j57:=j5.trans j67;have j47:=j4.trans j57;have j37:=j3.trans j47;have j27:=j2.trans j37;have jA:=j1.trans j27;exact q _ _ (sC6.trans (zA.trans jA)) ⟨q7,q6,p5,[.ref q5],_,rfl,aa,j7 _ _ aa,.cons ⟨q5,q2,q4,_,_,rfl,j67 _ _ aa,j37 _ _ aa,.cons ⟨q1,rfl,j27 _ _ aa⟩ .nil,j57 _ _ aa,.cons ⟨q3,rfl,j47 _ _ aa⟩ .nil⟩ .nil,jA _ _ Q5,.cons (r_.same (am jA) F1) (.cons (r_.same (am jA) F2) .nil)⟩
theorem yb(X:Tx K mg T):∀m:Nat,i6 P w K mg base A6 (m+1) T.RW T.Gf ["_law_forms", "_law_many_here", "_law_cell"] (qO m):=by
 have step:∀(m:Nat)(sp:Sp),i6 P w K mg base A6 m T.RW T.Gf ["_law_forms", "_law_many_here", "_law_cell"] sp->(∀(c0:Int)(fa:Addr)(D4:List V)(n:Nat)(c:Int)(H:Hp)(Q:VK)(E:XK),H fa=some (.tup D4)->g_ (r_ H) (gC c0).fm D4->n<m->n<=1000->(∀t v H',a_ H H'->i3 H' t v->fit (n9 (gC c0)) t=some (sC c0)->size t=3*n+1->Q v H')->sp [.ref fa,.int (n:Int),.int c] H Q E)->i6 P w K mg base A6 (m+1) T.RW T.Gf ["_law_forms", "_law_many_here", "_law_cell"] (qO m):=by
  intro m sp KG A5;refine X.KZ.Dy Fd (λvs H Q E h=>?_) (λm_ A outer s H vs Q E hr h=>?_)
  ·obtain⟨_,_,_,_,_,rfl,_⟩:=h;rfl
  obtain⟨c0,fa,D4,n,c,rfl,E3,B1,hn,hn1,q⟩:=h;refine⟨_,(ag (bz (aE bS (qv 1) af (aS _)) (ai (aG (aq (q_ (aj ak (aj ak (qv 0) af) af) (Dx (ar aN (qv 2) af) (u9 (aq ae) ae)))))) aK) (ag (au (i:=3) Fd.nd rfl oI1 (ar aU (ar dm (qv 1) af) af)) (ag (au (i:=4) Fd.nd rfl oI1 (aR (b_ (qv 3) (b_ (qv 3) (Dx (ar dm (ar dm (qv 1) af) (ar dE af (qv 3))) ae))))) (ag (au (i:=4) Fd.nd rfl oI1 (ar mL (bQ eZ (qv 4) (cw (ar aN (qv 2) af)) cx) (bQ eZ (qv 4) cx (cw (ar aN (qv 2) af))))) (ai (aG (aq (q_ (aj ak (aj ak (qv 0) af) af) (Dx (ar aN (qv 2) af) (Dw (bf be rfl X.z_tuple abq (MP (bG (ys:=["_law_forms", "_law_cell"]) (js:=[0,2]) rfl rfl (bA (qv 4)) (λ_ _ _ _ _=>bE) (λ_ _ _ _ _=>(aw KG hr rfl X.MY X.KZ.kp X.NK .nil bg (b_ (qv 1) (b_ (qv 0) (Dx (ar bJ (ar aU (qv 2) af) (qv 0)) ae)))))) ae)) ae)))))))))),?_⟩;dsimp only[cg];obtain⟨v0,Td,fp0,fb0,frr0,fru0,rfl,P2,_⟩:=bw B1 (show(gC c0).fm[0]?=some (eE c0)from rfl);obtain⟨v1,hv1,fp1,fb1,frr1,fru1,rfl,hfp1,_⟩:=bw B1 (show(gC c0).fm[1]?=some (cm c0)from rfl);refine⟨_,rfl,rfl,_,rfl,cL (λh0=>?_) (λh0=>?_)⟩
  ·have TQ:n=0:=by have:=V.int.inj h0;lia
   subst TQ;refine⟨_,rfl,fa,_,0,_,rfl,rfl,b9.of E3,aV Td,fp0,_,0,_,rfl,rfl,b9.of P2,rfl,_,rfl,_,_,rfl,rfl,(by show(0:Int)<1000;decide),Z0,λa1 h1=>⟨Z3,λa2 h2=>?_⟩⟩;have u1:=ac h1 (.tup []);have u2:=ac h2 (.tup [.str (nC c0),.int (c%1000),.ref a1]);exact q (.node (nC c0) (c%1000) []) _ _ (u1.trans u2) (i3.cl aa (u2 _ _ aa) .nil) (vN c0 _) (by rw[size,bj])
  ·have TQ:1<=n:=by
    rcases adQ n with z|z
    ·exact absurd (by rw[z];rfl) h0
    ·exact z
   refine⟨_,rfl,_,_,rfl,rfl,_,_,rfl,rfl,⟨by decide,by decide⟩,?_⟩;obtain⟨sh,Ic,hsh2⟩:∃sh:Nat,((n:Int)-1) / 3=(sh:Int)/\2*sh<=n-1:=⟨(n-1) / 3,by lia,by lia⟩
   refine⟨_,rfl,_,rfl,_,rfl,_,_,rfl,rfl,_,rfl,_,_,rfl,rfl,.inl ⟨by decide,by decide⟩,_,_,rfl,rfl,Z3,λl1 h1=>?_⟩;dsimp only;rw[Ic,show(n:Int)-1-2*(sh:Int)=((n-1-2*sh:Nat):Int)by lia];have u1:=ac h1 (.lst [.int (sh:Int),.int (sh:Int),.int ((n-1-2*sh:Nat):Int)]);have T_:=aa (H:=H) (a:=l1) (o:=.lst [.int (sh:Int),.int (sh:Int),.int ((n-1-2*sh:Nat):Int)]);generalize upd H l1 (.lst [.int (sh:Int),.int (sh:Int),.int ((n-1-2*sh:Nat):Int)])=H1 at u1 T_⊢;have c0':=abc c (show(3:Int)≠0 by decide);have c1':=aa5 c (show(0:Int)<3 by decide);obtain⟨k,hk⟩:=abt c0';refine⟨_,rfl,_,rfl,_,_,rfl,rfl,(by show(0:Int)<3;decide),_,rfl,l1,_,rfl,d9.of T_,λb1 UP=>?_⟩;rw[hk,cZ];have u2:=ac UP (.lst (([V.int (sh:Int),.int (sh:Int),.int ((n-1-2*sh:Nat):Int)]:List V).drop k));refine⟨_,rfl,_,rfl,_,_,rfl,rfl,(by show(0:Int)<3;decide),_,rfl,l1,_,rfl,d9.of (u2 _ _ T_),λb2 G_=>?_⟩;rw[hk,dM];have u3:=ac G_ (.lst (([V.int (sh:Int),.int (sh:Int),.int ((n-1-2*sh:Nat):Int)]:List V).take k));refine⟨b1,b2,_,_,rfl,rfl,u3 _ _ aa,aa,cF (by rw[abP,aaZ];show 3-k+min k 3<=100000;lia),λb3 Qe=>?_⟩;have u4:=ac Qe (.lst (([V.int (sh:Int),.int (sh:Int),.int ((n-1-2*sh:Nat):Int)]:List V).drop k++([V.int (sh:Int),.int (sh:Int),.int ((n-1-2*sh:Nat):Int)]:List V).take k));have Ga:=aa (H:=upd (upd H1 b1 (.lst (([V.int (sh:Int),.int (sh:Int),.int ((n-1-2*sh:Nat):Int)]:List V).drop k))) b2 (.lst (([V.int (sh:Int),.int (sh:Int),.int ((n-1-2*sh:Nat):Int)]:List V).take k))) (a:=b3) (o:=.lst (([V.int (sh:Int),.int (sh:Int),.int ((n-1-2*sh:Nat):Int)]:List V).drop k++([V.int (sh:Int),.int (sh:Int),.int ((n-1-2*sh:Nat):Int)]:List V).take k));have uA:=u1.trans (u2.trans (u3.trans u4));obtain⟨ns,Ed,l3,hsum⟩:∃ns:List Nat,([V.int (sh:Int),.int (sh:Int),.int ((n-1-2*sh:Nat):Int)]:List V).drop k++([V.int (sh:Int),.int (sh:Int),.int ((n-1-2*sh:Nat):Int)]:List V).take k=ns.map (λ(x:Nat)=>V.int (x:Int))/\ns.length=3/\(ns.map λx=>3*x+1).sum=3*n:=by
    have:k=0\/k=1\/k=2:=by lia
    rcases this with rfl|rfl|rfl
    ·exact⟨[sh,sh,n-1-2*sh],rfl,rfl,by simp;lia⟩
    ·exact⟨[sh,n-1-2*sh,sh],rfl,rfl,by simp;lia⟩
    ·exact⟨[n-1-2*sh,sh,sh],rfl,rfl,by simp;lia⟩
   have Ga:=Ga.trans (abk (λl=>some (HO.lst l)) Ed);have P7:=uA _ _ E3;have Ul:=B1.imp λ_ _ h=>r_.same (am uA) h;generalize upd (upd (upd H1 b1 (.lst (([V.int (sh:Int),.int (sh:Int),.int ((n-1-2*sh:Nat):Int)]:List V).drop k))) b2 (.lst (([V.int (sh:Int),.int (sh:Int),.int ((n-1-2*sh:Nat):Int)]:List V).take k))) b3 (.lst (([V.int (sh:Int),.int (sh:Int),.int ((n-1-2*sh:Nat):Int)]:List V).drop k++([V.int (sh:Int),.int (sh:Int),.int ((n-1-2*sh:Nat):Int)]:List V).take k))=H4 at uA Ga P7 Ul⊢;have Up:=uA _ _ hfp1;refine⟨_,rfl,fa,_,1,_,rfl,rfl,b9.of P7,aV hv1,fp1,_,0,_,rfl,rfl,b9.of Up,rfl,_,rfl,_,_,rfl,rfl,(by show(0:Int)<7;decide),_,rfl,b3,rfl,⟨_,d9.of Ga⟩,λD nD=>?_⟩;have lm:(ns.map λ(x:Nat)=>V.int (x:Int)).length=3:=by rw[aaG];exact l3
   refine ji (K:=K) (a:=b3) (xs:=ns.map λ(x:Nat)=>V.int (x:Int)) (λi acc H'=>i<=3/\a_ H4 H'/\H' D=some (.lst acc)/\∃ts:List Tr,ts.length=i/\g_ (i3 H') ts acc/\eJ (n9 (gC c0)) ts=some (List.replicate i (sC c0))/\bj ts=((ns.take i).map λx=>3*x+1).sum) (bO (by lia)) ⟨by decide,ac nD _,aa,[],rfl,.nil,by rw[eJ];rfl,by rw[bj];rfl⟩ (by rintro i acc H' ⟨_,sm,x,ts,l,r,_⟩;exact⟨x,by rw[r.len,l],d9.of (sm _ _ Ga)⟩) ?_ ?_
   ·rintro i mm x acc H' hx ⟨li,sm,hD,ts,lt,Pu,Lm,hsz⟩ hm;rw[aaK]at hx;obtain⟨y,hy,rfl⟩:=Option.map_eq_some_iff.mp hx;have hyb:y<=n-1:=by
     have GX:=aaD hy;have:∀(l:List Nat)(y:Nat),y∈l->3*y+1<=(l.map λx=>3*x+1).sum:=λl=>by
      induction l with
      |nil=>intro y h;cases h
      |cons a l ih=>
       intro y h;rw[aa7,acZ];rcases List.mem_cons.mp h with rfl|h
       ·lia
       ·have:=ih y h;lia
     have:=this ns y GX;lia
    have hi3:=ao hy;refine⟨_,rfl,_,rfl,_,rfl,_,_,rfl,rfl,⟨by decide,by decide⟩,_,rfl,_,_,rfl,rfl,?_⟩;refine A5 c0 fa D4 y _ H' _ _ (sm _ _ P7) (Ul.imp λ_ _ h=>r_.same (am sm) h) (by lia) (by lia) λt v H5 s5 ht hft5 hsz5=>?_;have GA:=s5 _ _ hD;have tD:=aJ (ys:=acc++[v]) GA;refine fH (n:=(ns.map λ(x:Nat)=>V.int (x:Int)).length) (i:=i) (by lia) hm GA ⟨by lia,aL nD (sm.trans s5),aa,ts++[t],by rw[aaF,lt];rfl,(Pu.imp λ_ _ h=>i3.same ((am s5).trans tD) _ h).snoc (i3.same tD t ht),?_,?_⟩
    ·rw[List.replicate_succ'];exact gD Lm hft5
    ·rw[aH hy,aaX,List.sum_append,<-hsz,gh,bj,bj,hsz5];simp
   ·rintro acc H' ⟨li,sm,hD,ts,lt,Pu,Lm,hsz⟩;rw[lm]at lt Lm hsz;rw[aa2 (by lia),hsum]at hsz;refine⟨D,_,rfl,.inl ⟨d9.of hD,λt5 n5=>⟨Z3,λt6 n6=>?_⟩⟩⟩;have z1:=ac n5 (.tup acc);have z2:=ac n6 (.tup [.str (mC c0),.int (c%7),.ref t5]);have z12:=z1.trans z2;exact q (.node (mC c0) (c%7) ts) _ _ (uA.trans (sm.trans z12)) (i3.cl aa (z2 _ _ aa) (Pu.imp λ_ _ h=>i3.same (am z12) _ h)) (tf c0 _ Lm) (by rw[size,hsz];lia)
 intro m;induction m with
 |zero=>exact step 0 (λ_ _ _ _=>False) ⟨λ_ _ _ _ h=>h.elim,λ_ _ _ _ _ _ _ _ _ _ _ _ _ h=>h.elim⟩ (λc0 fa D4 n c H Q E _ _ hn _ _=>absurd hn (acn _))
 |succ m ih=>exact step (m+1) _ ih λc0 fa D4 n c H Q E h1 h2 h3 h4 h5=>⟨c0,fa,D4,n,c,rfl,h1,h2,by lia,h4,h5⟩
structure EM(g:Gr)(t:Tr):Prop where
 gt:GT g t
 kind:IU g\/∃c,g=gC c
inductive wB(vs:List V)(H:Hp)(Q:VK)(e0:XK):Prop
 |mk (d:Addr) (cs:List Int):(vs=[.ref d])->H d=some (.lst (cs.map V.int))->cs.length=140->(∀(x:Addr)(vg vt:V)(g:Gr)(t:Tr)(H':Hp),Kp [d] H H'->H' x=some (.tup [vg,vt])->o7 H' g vg->i3 H' t vt->EM g t->Q (.ref x) H')->wB vs H Q e0
theorem yh(X:Tx K mg T):i6 P w K mg base A6 30 T.Zo T.J3 ["_law_deck_here"] wB:=by
 have WA:=(ye (P:=P) (w:=w) (base:=base) X).mono (show 4<=29 by decide);have KN:=(vj (P:=P) (w:=w) (base:=base) X 11).mono (show 12<=29 by decide);have Wz:=(pJ (P:=P) (w:=w) (base:=base) X).mono (show 2<=29 by decide);have KG:=(yb (P:=P) (w:=w) (base:=base) X 19).mono (show 20<=29 by decide);refine X.Oe.Dy Et (λvs H Q E h=>?_) (λm_ A outer s H vs Q E hr h=>?_)
 ·obtain⟨_,_,rfl,_⟩:=h;rfl
 obtain⟨d,cs,rfl,hd,lcs,q⟩:=h;refine⟨_,(ag (au (i:=1) Et.nd rfl oI1 (cI aaL abj abi cO (qv 0))) (ag (bz (aE bS (ar aN (qv 1) af) af (aS _)) (ag (au (i:=2) Et.nd rfl oI1 (aw Wz hr rfl X.Sx X.Ov.kp X.VY .nil bg (Dx (ar aU (qv 1) af) ae))) (ai (aG (aq (b_ (qv 2) (Dw (aw KG hr rfl X.MY X.KZ.kp X.NK .nil bg (q_ (aj ak (qv 2) af) (Dx (ar bJ af (ar aN (ar aU (qv 1) af) af)) (Dx (ar aU (qv 1) af) ae)))) ae)))))) aK) (ag (au (i:=2) Et.nd rfl oI1 (aw WA hr rfl X.Sy X.Ow.kp X.VZ .nil bg (b_ (qv 0) ae))) (ag (au (i:=3) Et.nd rfl oI1 (aj ak (aj ak (aj ak (qv 2) af) (ar aN (ar aU (qv 1) af) (aB av rfl X.z_len aa6 (q_ (aj ak (qv 2) af) ae)))) af)) (ai (aG (aq (b_ (qv 2) (Dw (aw KN hr rfl X.M3 X.K6.kp X.NO .nil bg (b_ (qv 2) (b_ (qv 3) (b_ (qv 0) (qaL (aR (n_ af ae)) ae))))) ae))))))))),?_⟩;dsimp only[cg];obtain⟨Gi,c,rfl⟩:=bY (l:=cs) (by lia);rw[aaF,aaS]at lcs;have hd:H d=some (.lst (Gi.map V.int++[.int c])):=by rw[hd,aaX];rfl
 refine⟨_,rfl,.inl ⟨rfl,_,d9.of hd⟩,d,_,.int c,rfl,rfl,hd,by simp,?_⟩;dsimp only;rw[abh];have k1:Kp [d] H (upd H d (.lst (Gi.map V.int))):=(Kp.refl _ _).upd (by simp);have EO:=aa (H:=H) (a:=d) (o:=.lst (Gi.map V.int));generalize upd H d (.lst (Gi.map V.int))=H1 at k1 EO⊢;refine⟨_,rfl,_,_,rfl,rfl,(by show(0:Int)<8;decide),rfl,_,rfl,cL (λ_=>?_) (λ_=>?_)⟩
 ·refine⟨_,rfl,_,_,rfl,rfl,⟨by decide,by decide⟩,_,rfl,λvg H2 s2 hg=>?_⟩;have Ik:=hg;obtain⟨gp,sa,fa,IB,D4,rfl,Q8,_,_,E3,B1⟩:=hg;have e0:=abc (c / 8) (show(7:Int)≠0 by decide);have e1:=aa5 (c / 8) (show(0:Int)<7 by decide);obtain⟨n,hn⟩:=abt (show 0<=13+c / 8%7 by lia);refine⟨_,rfl,_,rfl,gp,_,1,_,rfl,rfl,b9.of Q8,rfl,_,rfl,_,_,rfl,rfl,⟨by decide,by decide⟩,_,_,rfl,rfl,(by show(0:Int)<7;decide),_,_,rfl,rfl,_,rfl,_,_,rfl,rfl,⟨by decide,by decide⟩,?_⟩;dsimp only;rw[hn];refine⟨c / 8,fa,D4,n,_,rfl,E3,B1,by lia,by lia,λt vt H3 s3 ht Lm hsz=>⟨Z2,λx nx=>?_⟩⟩;have s4:=ac nx (.tup [.ref gp,vt]);exact q x _ vt (gC (c / 8)) t _ (k1.same (s2.trans (s3.trans s4))) aa (o7.same (am (s3.trans s4)) Ik) (i3.same (am s4) t ht) ⟨⟨Db _,CZ _,⟨_,Lm⟩,by lia⟩,.inr ⟨_,rfl⟩⟩
 ·refine⟨_,rfl,d,Gi,rfl,EO,by lia,λvg g El H2 k2 hg gg hd2 l30=>?_⟩;have Ik:=hg;obtain⟨gp,sa,fa,IB,D4,rfl,Q8,JC,Ie,E3,B1⟩:=hg;have Xg:=Ie.len;have l1:=gg.sg.l1;have e0:=abc (c / 8) (show(IB.length:Int)≠0 by lia);have e1:=aa5 (c / 8) (show(0:Int)<(IB.length:Int)by lia);obtain⟨j,hj⟩:=abt e0;obtain⟨s,hs⟩:=ax (xs:=g.sg) (i:=j) (by lia);obtain⟨D6,hvs',IC,da,ua,IP,IA,rfl,A5,_⟩:=bw Ie hs;refine⟨_,rfl,gp,_,0,_,rfl,rfl,b9.of Q8,rfl,_,rfl,_,_,rfl,rfl,⟨by decide,by decide⟩,_,rfl,gp,_,0,_,rfl,rfl,b9.of Q8,rfl,sa,IB,rfl,.inr (b9.of JC),_,_,rfl,rfl,(by show(0:Int)<(IB.length:Int);lia),sa,_,_,_,rfl,rfl,b9.of JC,(by rw[hj];exact aV hvs'),IC,_,0,_,rfl,rfl,b9.of A5,rfl,?_⟩;refine⟨_,rfl,_,rfl,_,rfl,_,rfl,Z1,λrm nrm=>?_⟩;have s3:=ac nrm (.lst [.int 11]);have G0:=s3 _ _ hd2;have MR:d≠rm:=aI hd2 nrm;refine⟨g,_,s.nm,d,rm,11,El,rfl,o7.same (am s3) Ik,gg.Wg,gg.Yi hs,by decide,by decide,MR,G0,aa,by lia,λt vt Kv r3 H4 k4 ht Lm hsz Rb lc4 hr4=>⟨Z2,λx nx=>?_⟩⟩;have s5:=ac nx (.tup [.ref gp,vt]);have T4:d_ (upd H2 rm (.lst [.int 11])) H4:=k4.My λy hy=>by
   have hy:y=d\/y=rm:=by simpa using hy
   rcases hy with rfl|rfl
   ·exact⟨_,G0⟩
   ·exact⟨_,aa⟩
  have rm0:H rm=none:=by have:=k2.free nrm (by simpa using MR.symm);exact k1.free this (by simpa using MR.symm)
  refine q x _ vt g t _ (λb o hb hB=>s5 _ _ (k4 b o (by simp;exact⟨by simpa using hb,aI hB rm0⟩) (s3 _ _ (k2 b o hb (k1 b o hb hB))))) aa (o7.same ((am s3).trans (T4.trans (am s5))) Ik) (i3.same (am s5) t ht) ⟨⟨gg.F,gg.W,⟨_,Lm⟩,by lia⟩,.inl gg⟩
inductive qM(vs:List V)(H:Hp)(Q:VK)(e0:XK):Prop
 |mk:∀t v,vs=[v]->i3 H t v->size t<=200->(∀D us H',a_ H H'->H' D=some (.lst us)->g_ (B0 H') (A9 [] t) us->Q (.ref D) H')->qM vs H Q e0
noncomputable def Gs(xs:List (List Int×Tr)):Nat:=(xs.map λx=>size x.2).sum
def iy(xs ys:List (List Int×Tr)):Gs (xs++ys)=Gs xs+Gs ys:=by unfold Gs;rw[aaX,List.sum_append]
theorem lZ(p:List Int):∀(ts:List Tr)(k:Int),Gs (cW p k ts)=bj ts
 |[],k=>by rw[cW,bj];rfl
 |t::ts,k=>by rw[cW,bj,<-lZ p ts (k+1)];rfl
theorem xr(xs:List (List Int×Tr)):Gs xs.reverse=Gs xs:=by
 induction xs with
 |nil=>rfl
 |cons x xs ih=>
  rw[acQ,iy,ih];show Gs xs+(size x.2+0)=size x.2+Gs xs;lia
theorem xt(xs:List (List Int×Tr)):xs.length<=Gs xs:=by
 induction xs with
 |nil=>exact aaI _
 |cons x xs ih=>
  have:=mw x.2;show xs.length+1<=size x.2+Gs xs;lia
noncomputable def ID(xs:List (List Int×Tr)):List (List Int×Tr):=xs.reverse.flatMap λx=>A9 x.1 x.2
def kZ(xs ys:List (List Int×Tr)):ID (xs++ys)=ID ys++ID xs:=by unfold ID;simp
theorem vd(X:Tx K mg T):i6 P w K mg base A6 1 T.Zx T.Ka ["_law_tree"] qM:=by
 refine X.Om.Dy D_ (λvs H Q E h=>?_) (λm_ A outer s H vs Q E hr h=>?_)
 ·obtain⟨_,_,rfl,_⟩:=h;rfl
 obtain⟨t,v,rfl,hv,hz,q⟩:=h;refine⟨_,(ag (au (i:=1) D_.nd rfl oI1 (aR ae)) (ag (au (i:=2) D_.nd rfl oI1 (aR (u9 (aq (u9 (aq ae) (b_ (qv 0) ae))) ae))) (ag (iG aa8 (aE (mJ hr.units) (qv 2) (aR ae) (aS _)) (ag (jE (cI aaL abj abi cO (qv 2)) (fA rfl (aW (ay (i:=3) D_.nd rfl oI1) (aW (ay (i:=4) D_.nd rfl oI1) cH)))) (ag (bK (eL aaL abo abn bo (qv 1) (u9 (aq (b_ (qv 3) (b_ (qv 4) ae))) ae))) (ai (bh aa8 rfl (xL rfl rfl X.z_reversed rfl X.z_range (aB av rfl X.z_len aa6 (q_ (aj ak (qv 4) af) ae))) (ay (i:=5) D_.nd rfl oI1) (ai (bK (eL aaL abo abn bo (qv 2) (u9 (aq (Dx (ar bZ (qv 3) (aq (Dx (ar bJ (qv 5) af) ae))) (q_ (aj ak (aj ak (qv 4) af) (qv 5)) ae))) ae))))))))) (ai (aG (qv 1)))))),?_⟩;dsimp only[cg];refine⟨Z0,λR hR=>?_⟩;have s1:=ac hR (.lst []);refine⟨Z0,λe he=>⟨_,rfl,Z2,λp0 Fv=>⟨Z1,λL hL=>?_⟩⟩⟩;have s2:=ac he (.tup []);have s3:=ac Fv (.tup [.ref e,v]);have s4:=ac hL (.lst [.ref p0]);have hR4:=(s2.trans (s3.trans s4)) _ _ (aa (H:=H) (a:=R) (o:=.lst []));have nRL:R≠L:=aI ((s2.trans s3) _ _ aa) hL;have fL:H L=none:=(s1.trans (s2.trans s3)).free hL;have Ji:=s1.trans (s2.trans (s3.trans s4));have hn4:B0 (upd (upd (upd (upd H R (.lst [])) e (.tup [])) p0 (.tup [.ref e,v])) L (.lst [.ref p0])) ([],t) (.ref p0):=⟨p0,e,v,rfl,s4 _ _ aa,s4 _ _ (s3 _ _ aa),i3.same (am Ji) t hv⟩
 have Qi:=aa (H:=upd (upd (upd H R (.lst [])) e (.tup [])) p0 (.tup [.ref e,v])) (a:=L) (o:=.lst [.ref p0]);generalize upd (upd (upd (upd H R (.lst [])) e (.tup [])) p0 (.tup [.ref e,v])) L (.lst [.ref p0])=H4 at hR4 Ji hn4 Qi⊢;refine⟨λm σ H'=>∃(x3 x4 x5:Option V)(fs xs:List (List Int×Tr))(us vs:List V),m=Gs xs/\σ=[some v,some (.ref R),some (.ref L),x3,x4,x5]/\a_ H H'/\H' R=some (.lst us)/\g_ (B0 H') fs us/\H' L=some (.lst vs)/\g_ (B0 H') xs vs/\fs.length+Gs xs<=200/\fs++ID xs=A9 [] t,
  ⟨_,none,none,none,[],[([],t)],[],[.ref p0],rfl,rfl,Ji,hR4,.nil,Qi,.cons hn4 .nil,?_,?_⟩,?_⟩
 ·show 0+(size t+0)<=200;lia
 ·unfold ID;simp
 rintro m σ H5 ⟨x3,x4,x5,fs,xs,us,vs,rfl,rfl,sm,hR5,gf,hL5,gx,hcnt,heq⟩;have QX:=gx.len;have Ei:=gf.len;refine⟨_,rfl,Z0,λe1 he1=>?_⟩;have se:=ac he1 (.lst []);refine⟨L,e1,vs,rfl,rfl,d9.of (se _ _ hL5),d9.of aa,_,rfl,?_⟩;have hR6:=se _ _ hR5;have XA:=se _ _ hL5;have gx6:=gx.imp λ_ _=>B0.same (am se);have gf6:=gf.imp λ_ _=>B0.same (am se);have Ly:=sm.trans se;generalize upd H5 e1 (.lst [])=H6 at hR6 XA gx6 gf6 Ly⊢;by_cases ED:vs=[]
 ·have hx0:xs=[]:=by rw[ED]at QX;exact List.length_eq_zero_iff.mp QX.symm
  subst hx0;rw[abb ED];refine lI ⟨_,rfl,q R us H6 Ly hR6 ?_⟩;have e0:fs=A9 [] t:=by rw[<-heq];simp[ID]
  rw[<-e0];exact gf6
 ·rw[aaW ED];refine zl ⟨_,λk_ QB h=>h,?_⟩;obtain⟨D6,y,rfl⟩:∃D6 y,vs=D6++[y]:=⟨vs.dropLast,vs.getLast ED,(ac3 ED).symm⟩
  have hxn:xs≠[]:=λz=>by rw[z]at QX;simp at QX
  obtain⟨ET,x,rfl⟩:∃ET x,xs=ET++[x]:=⟨xs.dropLast,xs.getLast hxn,(ac3 hxn).symm⟩
  obtain⟨g1,g2⟩:g_ (B0 H6) ET D6/\B0 H6 x y:=by obtain⟨a,b,e,h1,h2⟩:=g_.ME gx6;obtain⟨z,r,e2,h3,h4⟩:=h2.B3;have:=h4.nil_of;subst this e2;obtain⟨rfl,e4⟩:=ad3 e rfl;cases e4;exact⟨h1,h3⟩
  obtain⟨pp,u⟩:=x;have lpp:pp.length<=1000:=by
   have hm:(pp,u)∈A9 [] t:=by rw[<-heq,kZ];unfold ID;simp[mT]
   obtain⟨r,e,h⟩:=sk t hm;have:=fS h;have:=cY t;rw[e,ab2];lia
  rw[iy]at hcnt⊢;have hw1:Gs [(pp,u)]=size u:=by show size u+0=_;lia
  refine⟨_,rfl,.inl ⟨rfl,_,d9.of XA⟩,L,_,y,rfl,rfl,XA,by simp,?_⟩;rw[abh];have UX:=aa (H:=H6) (a:=L) (o:=.lst D6);have UT:upd H6 L (.lst D6) R=some (.lst us):=by rw[al nRL];exact hR6
  have tL:=aJ (ys:=D6) XA;have sm7:a_ H (upd H6 L (.lst D6)):=aL fL Ly;have gx7:=g1.imp λ_ _=>B0.same tL;have gf7:=gf6.imp λ_ _=>B0.same tL;obtain⟨a,b,yu,rfl,ha,hb,hu⟩:=B0.same tL g2;generalize upd H6 L (.lst D6)=H7 at UX UT sm7 gx7 gf7 ha hb hu⊢;have Ee:H7 b=some (.tup (pp.map V.int)):=hb;have Ib:i3 H7 u yu:=hu;refine⟨a,_,rfl,b9.of ha,rfl,_,_,rfl,_,_,rfl,rfl,?_⟩;refine⟨_,rfl,.inl ⟨rfl,_,d9.of UT⟩,_,rfl,_,rfl,Z2,λn1 hn1=>?_⟩;have s8:=ac hn1 (.tup [.ref b,yu]);refine⟨R,us,_,rfl,rfl,s8 _ _ UT,bO (by lia),?_⟩;have nnR:n1≠R:=bq UT hn1;have hR9:=aa (H:=upd H7 n1 (.tup [.ref b,yu])) (a:=R) (o:=.lst (us++[.ref n1]));have t9:d_ H7 (upd (upd H7 n1 (.tup [.ref b,yu])) R (.lst (us++[.ref n1]))):=(am s8).trans (aJ (s8 _ _ UT));have hn9:upd (upd H7 n1 (.tup [.ref b,yu])) R (.lst (us++[.ref n1])) n1=some (.tup [.ref b,yu]):=by rw[al nnR,aa]
  have UW:upd (upd H7 n1 (.tup [.ref b,yu])) R (.lst (us++[.ref n1])) L=some (.lst D6):=by rw[al nRL.symm];exact s8 _ _ UX
  have sm9:a_ H (upd (upd H7 n1 (.tup [.ref b,yu])) R (.lst (us++[.ref n1]))):=aL hR (sm7.trans s8);generalize upd (upd H7 n1 (.tup [.ref b,yu])) R (.lst (us++[.ref n1]))=H9 at hR9 t9 hn9 UW sm9⊢;have gf9:g_ (B0 H9) (fs++[(pp,u)]) (us++[.ref n1]):=(gf7.imp λ_ _=>B0.same t9).snoc ⟨n1,b,yu,rfl,hn9,t9 _ _ Ee,i3.same t9 u Ib⟩;have gx9:=gx7.imp λ_ _=>B0.same t9;have hb9:=t9 _ _ Ee;obtain⟨p,bb,ws,rfl,hp,IL,EA⟩:=(i3.same t9 u Ib).op;have lws:=EA.len;have szu:=gj u;have slu:=eK u.bs;have kl:=jU pp u.bs 1;have lx':=xt ET;have lg:=gx9.len;refine⟨_,rfl,p,_,2,_,rfl,rfl,b9.of hp,rfl,bb,ws,rfl,.inr (b9.of IL),ws.length,rfl,by lia,?_⟩;refine vK (λi σ H'=>∃(x5:Option V)(QH:List V),σ=[some v,some (.ref R),some (.ref L),some (.ref b),some (.ref p),x5]/\a_ H H'/\d_ H9 H'/\H' R=some (.lst (us++[.ref n1]))/\H' L=some (.lst QH)/\g_ (B0 H') (ET++(cW pp 1 u.bs).reverse.take i) QH)
   ⟨_,_,rfl,sm9,d_.refl _,hR9,UW,by rw[ac9,aby];exact gx9⟩ ?_ ?_
  ·rintro i σ H' hi ⟨x5',QH,rfl,YC,tt,hRi,Rg,gi⟩;have ek:((ws.length:Int)-1-(i:Nat))=((ws.length-1-i:Nat):Int):=by lia
   rw[ek];generalize hk:ws.length-1-i=k;have Xq:k<ws.length:=by lia
   obtain⟨z,Q0⟩:=ax Xq;obtain⟨c,hc,hcz⟩:=EA.get Q0;have lgi:=gi.len;have DK:=tt _ _ hp;have hbb':=tt _ _ IL;have Xx:=tt _ _ hb9;refine⟨_,rfl,.inl ⟨rfl,_,d9.of Rg⟩,_,rfl,_,rfl,_,_,rfl,rfl,Z1,λt1 FW=>?_⟩;have OM:=ac FW (.tup [.int ((k:Int)+1)]);refine⟨b,t1,_,_,rfl,rfl,OM _ _ Xx,aa,cF (by rw[aaG,aaS];lia),λt2 H11 Zc GQ=>?_⟩;have Hq:=OM.trans Zc;refine⟨_,rfl,p,_,2,_,rfl,rfl,b9.of (Hq _ _ DK),rfl,_,rfl,bb,_,_,z,rfl,rfl,b9.of (Hq _ _ hbb'),aV Q0,Z2,λt3 L5=>?_⟩;have C7:=ac L5 (.tup [.ref t2,z]);have FQ:=Hq.trans C7;refine⟨L,_,_,rfl,rfl,FQ _ _ Rg,bO (by rw[lgi,aaF,aaZ];lia),?_⟩;have ntL:t3≠L:=bq (Hq _ _ Rg) L5;have tL2:=aJ (ys:=QH++[.ref t3]) (FQ _ _ Rg);have Yv:=(am FQ).trans tL2;refine⟨_,_,rfl,aL fL (YC.trans FQ),tt.trans Yv,by rw[al nRL];exact FQ _ _ hRi,aa,?_⟩;have PV:(cW pp 1 u.bs).reverse[i]?=some (pp++[1+(k:Int)],c):=by
    rw[aeD (by lia),kl];have e1:u.bs.length-1-i=k:=by lia
    rw[e1];exact gA pp u.bs 1 hc
   rw[aH PV,<-abr];refine(gi.imp λ_ _=>B0.same Yv).snoc ⟨t3,t2,z,rfl,by rw[al ntL,aa],?_,i3.same (tt.trans Yv) c hcz⟩;have e2:(pp++[1+(k:Int)]).map V.int=pp.map V.int++[V.int ((k:Int)+1)]:=by rw[aaX,Int.add_comm];rfl
   show _=some (HO.tup ((pp++[1+(k:Int)]).map V.int));rw[e2];exact tL2 _ _ (C7 _ _ GQ)
  ·rintro σ H' ⟨x5',QH,rfl,YC,tt,hRi,Rg,gi⟩;have et:(cW pp 1 u.bs).reverse.take ws.length=(cW pp 1 u.bs).reverse:=aa2 (by rw[adJ];lia);rw[et]at gi;have wk:Gs (cW pp 1 u.bs).reverse=bj u.bs:=by rw[xr,lZ]
   refine⟨Gs (ET++(cW pp 1 u.bs).reverse),by rw[iy];lia,_,_,_,fs++[(pp,u)],ET++(cW pp 1 u.bs).reverse,us++[.ref n1],QH,rfl,rfl,YC,hRi,gf9.imp λ_ _=>B0.same tt,Rg,gi,by rw[iy,aaF,aaS];lia,?_⟩;rw[<-heq,kZ,kZ];have e3:ID (cW pp 1 u.bs).reverse=jO pp 1 u.bs:=by unfold ID;rw[adB,kY]
   have e4:ID [(pp,u)]=(pp,u)::jO pp 1 u.bs:=by unfold ID;rw[List.reverse_singleton,List.flatMap_cons,List.flatMap_nil,aby,mT]
   rw[e3,e4];simp
theorem wQ{H:Hp}:∀{ps:List Pr}{vs:List V},g_ (HL H) ps vs->v8 H ps vs
 |_,_,.nil=>rfl
 |_,_,.cons h r=>⟨_,_,rfl,h,wQ r⟩
theorem dJ{α β:Type}[DecidableEq β](f:α->β):∀{l:List α},(l.map f).Nodup->∀{a:α},a∈l->l.filter (λx=>decide (f x=f a))=[a]
 |[],_,a,h=>nomatch h
 |b::l,hn,a,h=>by
  have hc:=List.nodup_cons.mp (show(f b::l.map f).Nodup from hn);rcases List.mem_cons.mp h with rfl|h
  ·rw[abQ (by simp)];congr 1;refine List.filter_eq_nil_iff.mpr λx hx=>?_;simp only[abJ]
   exactλe=>hc.1 (by rw[<-e];exact List.mem_map.mpr ⟨x,hx,rfl⟩)
  ·have ne:¬f b=f a:=λe=>hc.1 (by rw[e];exact List.mem_map.mpr ⟨a,h,rfl⟩);rw[abX (by simpa using ne)];exact dJ f hc.2 h
inductive qP(vs:List V)(H:Hp)(Q:VK)(e0:XK):Prop
 |mk (a:Addr) (p:List Int) (k:Int) (n:Str):(vs=[.ref a,.int k,.str n])->H a=some (.tup (p.map V.int))->p.length<=1000->(∀y H',a_ H H'->j_ H' (bM p (k,n)) y->Q y H')->qP vs H Q e0
theorem jL(X:Tx K mg T):∀n,i6 P w K mg base A6 (n+1) T.W7 T.HB ["_law_term_here"] (kM n)
 |0=>by
  have HM:i6 P w K mg base A6 0 T.W7 T.HB ["_law_term_here"] (λ_ _ _ _=>False):=⟨λ_ _ _ _ h=>h.elim,λ_ _ _ _ _ _ _ _ _ _ _ _ _ h=>h.elim⟩
  refine X.HP.Dy Ew (λvs H Q E h=>?_) (λm_ A outer s H vs Q E hr h=>?_)
  ·obtain⟨_,_,rfl,_⟩:=h;rfl
  ·obtain⟨t,_,_,_,hd,_⟩:=h;have:=kj t;lia
 |n+1=>by
  have HM:=jL X n;refine X.HP.Dy Ew (λvs H Q E h=>?_) (λm_ A outer s H vs Q E hr h=>?_)
  ·obtain⟨_,_,rfl,_⟩:=h;rfl
  obtain⟨t,v,rfl,hv,hd,hpt,q⟩:=h;refine⟨_,(ag (bz (aE bS (aj ak (qv 0) af) aA (aS _)) (ai (aG (aR (u9 (aq (q_ (aj ak (qv 0) af) (q_ (aj ak (qv 0) af) ae))) ae)))) aK) (ag (au (i:=1) Ew.nd rfl oJ1 (aR ae)) (ag (bz (aE bS (aj ak (qv 0) af) aA (aS _)) (ai (bh aa8 rfl (cr (aj ak (qv 0) af)) (ay (i:=2) Ew.nd rfl oI1) (ai (au (i:=1) Ew.nd rfl oJ1 (ar mL (qv 1) (bG (ys:=["_law_found"]) (js:=[1]) rfl rfl (bA (aw HM hr rfl X.M5 X.HP.kp X.NQ .nil bg (b_ (qv 2) ae))) (λ_ _ _ _ _=>df (aE (pE (K:=K) rfl hr.units) (qv 0) (qv 1) rfl)) (λ_ _ _ _ _=>(qv 0)))))))) aK) (ai (aG (qv 1)))))),?_⟩;dsimp only[cg];have Ln:(∃(a:Addr)(z:Str)(r:List V),v=.ref a/\H a=some (.tup (.str z::r))/\decide (V.str z=V.str "of")=false/\decide (V.str z=V.str "call")=false/\named t=[])\/(∃k z,t=.val k z)\/(∃w ts,t=.call w ts):=by
   cases t with
   |val k z=>exact .inr (.inl ⟨k,z,rfl⟩)
   |call w ts=>exact .inr (.inr ⟨w,ts,rfl⟩)
   |num z=>
    unfold g9 at hv;obtain⟨a,e,ha⟩:=hv;exact .inl ⟨a,_,_,e,ha,by decide +kernel,by decide +kernel,by rw[named]⟩
   |text z=>
    unfold g9 at hv;obtain⟨a,e,ha⟩:=hv;exact .inl ⟨a,_,_,e,ha,by decide +kernel,by decide +kernel,by rw[named]⟩
   |row=>
    unfold g9 at hv;obtain⟨a,e,ha⟩:=hv;exact .inl ⟨a,_,_,e,ha,by decide +kernel,by decide +kernel,by rw[named]⟩
   |mark=>
    unfold g9 at hv;obtain⟨a,e,ha⟩:=hv;exact .inl ⟨a,_,_,e,ha,by decide +kernel,by decide +kernel,by rw[named]⟩
  rcases Ln with⟨a,z,r,e,ha,h1,h2,h3⟩|⟨k,z,rfl⟩|⟨w,ts,rfl⟩
  ·subst e;refine⟨_,rfl,a,_,0,_,rfl,rfl,b9.of ha,dY _ _,rfl,_,rfl,mY h1 ?_⟩;refine⟨Z0,λf hf=>?_⟩;have s1:=ac hf (.lst []);refine⟨_,rfl,a,_,0,_,rfl,rfl,b9.of (s1 _ _ ha),dY _ _,rfl,_,rfl,mY h2 ?_⟩;refine⟨_,rfl,q f [] _ hf s1 aa ?_⟩;rw[h3];rfl
  ·unfold g9 at hv;obtain⟨a,rfl,ha⟩:=hv;refine⟨_,rfl,a,_,0,_,rfl,rfl,b9.of ha,rfl,rfl,_,rfl,wP (by decide +kernel) ?_⟩;refine⟨_,rfl,a,_,1,_,rfl,rfl,b9.of ha,rfl,_,rfl,a,_,2,_,rfl,rfl,b9.of ha,rfl,Z2,λp hp=>⟨Z1,λl hl=>?_⟩⟩;have s1:=ac hp (.tup [V.int k,V.str z]);have s2:=ac hl (.lst [V.ref p]);refine q l _ _ (s1.free hl) (s1.trans s2) aa ?_;rw[named];exact v8.one ⟨p,rfl,s2 _ _ aa⟩
  ·unfold g9 at hv;obtain⟨a,b,us,rfl,ha,hb,hn,hs⟩:=hv;refine⟨_,rfl,a,_,0,_,rfl,rfl,b9.of ha,rfl,rfl,_,rfl,mY (by decide +kernel) ?_⟩;refine⟨Z0,λf hf=>?_⟩;have s1:=ac hf (.lst []);have hlen:=hs.len;refine⟨_,rfl,a,_,0,_,rfl,rfl,b9.of (s1 _ _ ha),rfl,rfl,_,rfl,wP (by decide +kernel) ?_⟩;refine⟨_,rfl,a,_,2,_,rfl,rfl,b9.of (s1 _ _ ha),rfl,b,rfl,⟨_,b9.of (s1 _ _ hb)⟩,fk (K:=K) (a:=b) (xs:=us) (λi σ H'=>∃f ys x2,σ=[some (.ref a),some (.ref f),x2]/\a_ H H'/\H f=none/\H' f=some (.lst ys)/\v8 H' ((ts.take i).foldl (λa u=>DL a (named u)) []) ys)
    ⟨f,[],none,rfl,s1,hf,aa,rfl⟩ (by rintro i σ H' _ ⟨_,_,_,_,sm,_⟩;exact b9.of (sm _ _ hb)) ?_ ?_⟩
   ·rintro i x σ H' hx ⟨f,ys,x2,rfl,sm,nf,B7,DJ⟩;obtain⟨u,hu,hux⟩:=hs.get hx;have GX:u∈inner (.call w ts):=aaD hu;have hdu:=gI GX;have Lk:=gu GX;have Iq:=ng (.call w ts) i;rw[show inner (.call w ts)=ts from rfl]at Iq;have Ec:(ts.take (i+1)).foldl (λa u=>DL a (named u)) []=DL ((ts.take i).foldl (λa u=>DL a (named u)) []) (named u):=by
     rw[aH hu,ad0];rfl
    rw[Ec,hI (lh u)];generalize (ts.take i).foldl (λa u=>DL a (named u)) []=acc at DJ Iq;refine⟨_,rfl,_,rfl,u,x,rfl,g9.same (am sm) u hux,by lia,by lia,λp zs H3 Tu s3 S5 Ii=>⟨p,rfl,⟨_,d9.of S5⟩,λD nD=>?_⟩⟩;have lz:=Ii.len;have lnm:=dG u;have hf3:=s3 _ _ B7;have Ts:=DJ.same (am s3);refine kn (K:=K) (xs:=zs) ((named u).map λp=>!decide (p∈acc)) (bO (by lia)) (by rw[aaG];lia) (d9.of S5) nD (λj y kb G hy hk Gv Q' q'=>?_) (λy G Q' q'=>⟨_,rfl,q'⟩) (λG2 s4 hD=>?_)
    ·obtain⟨pr,IF,L_⟩:=Ii.get hy;rw[aaK,IF]at hk;cases hk;refine⟨_,rfl,_,rfl,f,ys,He pr,_,rfl,d9.of (Gv _ _ hf3),yx (HL.same (am Gv) L_),sQ (Ts.same (am Gv)),abg (yS _) (by decide),_,rfl,?_⟩;rw[wb];exact q' _ (a_.refl _)
    ·have lk:=iV zs ((named u).map λp=>!decide (p∈acc));have SO:=DJ.len;have hkp:g_ (HL G2) ((named u).filter λp=>!decide (p∈acc)) (cX zs ((named u).map λp=>!decide (p∈acc))):=iT _ (iX (Ii.same (am s4)));generalize cX zs ((named u).map λp=>!decide (p∈acc))=ks at hD lk hkp;refine⟨f,D,ys,ks,rfl,rfl,s4 _ _ hf3,hD,cF (by lia),λf2 nf2=>?_⟩;have s5:=ac nf2 (.lst (ys++ks));refine⟨f2,_,_,rfl,sm.trans (s3.trans (s4.trans s5)),(sm.trans (s3.trans s4)).free nf2,aa,?_⟩;exact((Ts.same (am s4)).same (am s5)).app (wQ (hkp.imp λ_ _ h=>HL.same (am s5) h))
   ·rintro σ H' ⟨f,ys,x2,rfl,sm,nf,B7,DJ⟩;rw[aa2 (by lia)]at DJ;refine⟨_,rfl,q f ys H' nf sm B7 ?_⟩;rw[named,eQ];exact DJ
theorem vh(X:Tx K mg T):i6 P w K mg base A6 1 T.Zi T.JW ["_law_path", "_law_k", "_law_name"] qP:=by
 refine X.KU.Dy zS (λvs H Q E h=>?_) (λm_ A outer s H vs Q E hr h=>?_)
 ·obtain⟨_,_,_,_,rfl,_⟩:=h;rfl
 obtain⟨a,p,k,n,rfl,ha,lp,q⟩:=h;refine⟨_,(ag (bz (aE bS (qv 1) af (aS _)) (ai (aG (aq (b_ (qv 0) (b_ (qv 2) ae))))) aK) (ai (aG (aq (Dx (ar bZ (qv 0) (aq (b_ (qv 1) ae))) (b_ (qv 2) ae)))))),?_⟩;refine⟨_,rfl,rfl,_,rfl,cL (λh=>?_) (λh=>?_)⟩
 ·have h0:k=0:=V.int.inj h;refine⟨_,rfl,_,rfl,Z2,λx nx=>?_⟩;have s1:=ac nx (.tup [.ref a,.str n]);refine q _ _ s1 ⟨x,a,rfl,aa,?_⟩;unfold bM;rw[aaY h0];exact s1 _ _ ha
 ·have h0:¬k=0:=λz=>h (by rw[z]);refine⟨_,rfl,_,rfl,Z1,λx nx=>?_⟩;have s1:=ac nx (.tup [.int k]);refine⟨a,x,_,_,rfl,rfl,s1 _ _ ha,aa,cF (by rw[aaG];show p.length+1<=100000;lia),λy H2 s2 hy=>?_⟩;refine⟨_,rfl,Z2,λz nz=>?_⟩;have s3:=ac nz (.tup [.ref y,.str n]);refine q _ _ (s1.trans (s2.trans s3)) ⟨z,y,rfl,aa,?_⟩;unfold bM;rw[aaR h0];show _=some (HO.tup ((p++[k]).map V.int));rw[aaX];exact s3 _ _ hy
noncomputable def o6(sp:aP):A4:=(sp.1.map Sum.inl,Sum.inr sp.2)
def dw{a b:aP}(h:o6 a=o6 b):a=b:=by
 obtain⟨p,n⟩:=a;obtain⟨q,m⟩:=b;unfold o6 at h;obtain⟨h1,h2⟩:=adf h;have e1:p=q:=by
  have:∀p q:List Int,p.map (Sum.inl:Int->Key)=q.map Sum.inl->p=q:=λp=>by
   induction p with
   |nil=>intro q h;cases q with
    |nil=>rfl
    |cons _ _=>cases h
   |cons x p ih=>intro q h;cases q with
    |nil=>cases h
    |cons y q=>
     obtain⟨a,b⟩:=aca h;rw[Sum.inl.inj a,ih q b]
  exact this p q h1
 have e2:n=m:=Sum.inr.inj h2;rw[e1,e2]
def sJ(p:List Int):(p.map (Sum.inl:Int->Key)).map kV=p.map V.int:=by rw[acB];rfl
def cj(h:j_ H sp (.ref a)):w5 H (o6 sp) a:=by obtain⟨a',b,e,ha,hb⟩:=h;cases e;exact⟨b,ha,by rw[hb];unfold o6;rw[sJ]⟩
def qQ(h:w5 H (o6 sp) a):j_ H sp (.ref a):=by obtain⟨b,ha,hb⟩:=h;refine⟨a,b,rfl,ha,?_⟩;rw[hb];unfold o6;rw[sJ]
variable{xs:List (A4×Addr×V)}
def qk{k:A4}(h:∀x∈xs,x.1≠k):fV xs k=none:=by unfold fV;rw[List.find?_eq_none.mpr λx hx=>by simpa using h x hx];rfl
theorem qj{k:A4}(h:∃x∈xs,x.1=k):(fV xs k).isSome=true:=by
 obtain⟨x,hx,e⟩:=h;unfold fV;cases hf:xs.find? (λx=>decide (x.1=k))with
 |none=>exact absurd (abb e) (by have:=List.find?_eq_none.mp hf x hx;exact this)
 |some y=>rfl
theorem ql{k:A4}(h:∃x∈xs,x.1=k):∃x∈xs,x.1=k/\fV xs k=some x.2.2:=by
 obtain⟨x,hx,e⟩:=h;unfold fV;cases hf:xs.find? (λx=>decide (x.1=k))with
 |none=>exact absurd (abb e) (by have:=List.find?_eq_none.mp hf x hx;exact this)
 |some y=>exact⟨y,aeh hf,by simpa using List.find?_some hf,rfl⟩
structure p9(w4:List aP)(val:aP->List aP)(Dn:aP->Prop)(H:Hp)(xs:List (A4×Addr×V)):Prop where
 keys:xs.map Prod.fst=w4.map o6
 vs:∀(sp:aP)(x:A4×Addr×V),x∈xs->x.1=o6 sp->∃l us,x.2.2=.ref l/\H l=some (.lst us)/\(Dn sp->g_ (j_ H) (val sp) us)/\(¬Dn sp->us=[])
variable{w4:List aP}{Dn:aP->Prop}
def p9.to{val:aP->List aP}(h:p9 w4 val Dn H xs)(kl:∀l us,H l=some (.lst us)->H' l=some (.lst us))(kt:d_ H H'):p9 w4 val Dn H' xs:=by refine⟨h.keys,λsp x hx e=>?_⟩;obtain⟨l,us,h1,h2,h3,h4⟩:=h.vs sp x hx e;exact⟨l,us,h1,kl _ _ h2,λd=>(h3 d).imp λ_ _ z=>j_.same kt z,h4⟩
def p9.same{val:aP->List aP}(h:p9 w4 val Dn H xs)(s:a_ H H'):p9 w4 val Dn H' xs:=h.to (λl us e=>s _ _ e) (am s)
def p9.dict{val:aP->List aP}{d:Addr}{φ:Heap->Prop}(h:p9 w4 val Dn H xs)(hd:H d=some (.ext φ)):p9 w4 val Dn (upd H d o) xs:=
 h.to (λl us e=>by rw[al (λz=>by rw[z,hd]at e;cases e)];exact e) (λb ys e=>by rw[al (λz=>by rw[z,hd]at e;cases e)];exact e)
def p9.dn{val:aP->List aP}{Dn':aP->Prop}(h:p9 w4 val Dn H xs)(e:∀sp,Dn' sp↔Dn sp):p9 w4 val Dn' H xs:=by have:Dn'=Dn:=funext λsp=>propext (e sp);rw[this];exact h
variable{l:Addr}
def p9.snoc{val:aP->List aP}(h:p9 w4 val (λ_=>False) H xs)(hn:sp∉w4)(hl:H l=some (.lst [])):p9 (w4++[sp]) val (λ_=>False) H (kS xs (o6 sp) a (.ref l)):=by
 have Gy:fV xs (o6 sp)=none:=qk λx hx e=>hn (by
  have:x.1∈w4.map o6:=by rw[<-h.keys];exact List.mem_map.mpr ⟨x,hx,rfl⟩
  obtain⟨IC,h1,h2⟩:=List.mem_map.mp this;rw[<-dw (h2.trans e)];exact h1)
 unfold kS;rw[Gy];show p9 _ _ _ _ (xs++[(o6 sp,a,.ref l)]);refine⟨by rw[aaX,aaX,h.keys];rfl,λIC x hx e=>?_⟩;rcases List.mem_append.mp hx with g|g
 ·exact h.vs IC x g e
 ·rw[List.mem_singleton.mp g];exact⟨l,[],rfl,hl,λz=>z.elim,λ_=>rfl⟩
def p9.has{val:aP->List aP}(h:p9 w4 val Dn H xs)(hm:sp∈w4):∃x∈xs,x.1=o6 sp:=by
 have:o6 sp∈xs.map Prod.fst:=by rw[h.keys];exact List.mem_map.mpr ⟨sp,hm,rfl⟩
 obtain⟨x,hx,e⟩:=List.mem_map.mp this;exact⟨x,hx,e⟩
def p9.put{val:aP->List aP}(h:p9 w4 val Dn H xs)(hm:sp∈w4)(hl:H l=some (.lst us))(hv:g_ (j_ H) (val sp) us):p9 w4 val (λs=>Dn s\/s=sp) H (kS xs (o6 sp) a (.ref l)):=by
 unfold kS;rw[aaY (qj (h.has hm))];refine⟨?_,λIC x hx e=>?_⟩
 ·rw[<-h.keys,acB];refine ac5 λx _=>?_;show Prod.fst (if x.1=o6 sp then(x.1,x.2.1,V.ref l)else x)=x.1;split<;>rfl
 ·obtain⟨y,hy,rfl⟩:=List.mem_map.mp hx;by_cases hk:y.1=o6 sp
  ·rw[aaY hk]at e⊢;have:IC=sp:=dw (e.symm.trans hk);subst this;exact⟨l,us,rfl,hl,λ_=>hv,λz=>absurd (.inr rfl) z⟩
  ·rw[aaR hk]at e⊢;obtain⟨l',Gu,h1,h2,h3,h4⟩:=h.vs IC y hy e;have ne:IC≠sp:=λz=>hk (by rw[e,z]);exact⟨l',Gu,h1,h2,λd=>h3 (d.resolve_right ne),λd=>h4 λz=>d (.inl z)⟩
def p9.len{val:aP->List aP}(h:p9 w4 val Dn H xs):xs.length=w4.length:=by have:=abk List.length h.keys;rwa [aaG,aaG]at this
def Bp(_:aP):Prop:=True
inductive wx(P:Program)(w:World)(vs:List V)(H:Hp)(Q:VK)(e0:XK):Prop
 |mk (g:Gr) (t:Tr) (vg vt:V):(vs=[vg,vt])->o7 H g vg->GT g t->i3 H t vt->(∀d xs H',a_ H H'->H d=none->DS P w H' d xs->p9 (aM g t) (aX g t) Bp H' xs->Q (.ref d) H')->wx P w vs H Q e0
theorem yd(X:Tx K mg T):i6 P w K mg base A6 20 T.Zq T.J5 ["_law_grammar_here", "_law_tree"] (wx P w):=by
 have Wu:=(vd (P:=P) (w:=w) (base:=base) X).mono (show 1<=19 by decide);have HM:=(jL (P:=P) (w:=w) (base:=base) X 12).mono (show 13<=19 by decide);have N0:=(vh (P:=P) (w:=w) (base:=base) X).mono (show 1<=19 by decide);refine X.Of.Dy t_ (λvs H Q E h=>?_) (λm_ A outer s H vs Q E hr h=>?_)
 ·obtain⟨_,_,_,_,rfl,_⟩:=h;rfl
 obtain⟨g,t,vg,vt,rfl,hg,gt,ht,q⟩:=h;refine⟨_,(ag (au (i:=2) t_.nd rfl oI1 iI) (ag (au (i:=3) t_.nd rfl oI1 (aw Wu hr rfl X.Sr X.Om.kp X.VS .nil bg (b_ (qv 1) ae))) (ag (bh aa8 rfl (bA (qv 3)) (fA rfl (aW (ay (i:=4) t_.nd rfl oJ1) (aW (ay (i:=5) t_.nd rfl oJ1) cH))) (ag (au (i:=6) t_.nd rfl oJ1 (aj aO (bG (ys:=["_law_node"]) (js:=[5]) rfl rfl (cr (aj ak (qv 0) af)) (λ_ _ _ _ _=>df (aE bS (aj (bc (K:=K) rfl) (qv 0) af) (aj (bc (K:=K) rfl) (qv 1) af) (aS _))) (λ_ _ _ _ _=>(aj (bc (K:=K) rfl) (qv 0) af))) af)) (ag (au (i:=7) t_.nd rfl oI1 (aj aO (bG (ys:=["_law_head"]) (js:=[6]) rfl rfl (cr (aj ak (qv 0) af)) (λ_ _ _ _ _=>df (aE bS (aj (bc (K:=K) rfl) (qv 0) af) (qv 1) (aS _))) (λ_ _ _ _ _=>(qv 0))) af)) (ai (bh aa8 rfl (cr (ar bZ (aj ak (qv 7) af) (aj ak (qv 7) af))) (ay (i:=8) t_.nd rfl oI1) (ai (fM hr.w_ (qv 2) (aq (b_ (qv 4) (q_ (aj ak (qv 8) af) ae))) (aR ae)))))))) (ag (bh aa8 rfl (bA (qv 3)) (fA rfl (aW (ay (i:=4) t_.nd rfl oJ1) (aW (ay (i:=5) t_.nd rfl oJ1) cH))) (ag (au (i:=9) t_.nd rfl oI1 (aj aO (bG (ys:=["_law_node"]) (js:=[5]) rfl rfl (cr (aj ak (qv 0) af)) (λ_ _ _ _ _=>df (aE bS (aj (bc (K:=K) rfl) (qv 0) af) (aj (bc (K:=K) rfl) (qv 1) af) (aS _))) (λ_ _ _ _ _=>(aj (bc (K:=K) rfl) (qv 0) af))) af)) (ai (bh aa8 rfl (cr (qv 9)) (fA rfl (aW (ay (i:=10) t_.nd rfl oI1) (aW (ay (i:=11) t_.nd rfl oI1) (aW (ay (i:=12) t_.nd rfl oI1) cH)))) (ai (fM hr.w_ (qv 2) (aw N0 hr rfl X.MV X.KU.kp X.NH .nil bg (b_ (qv 4) (b_ (qv 10) (b_ (qv 11) ae)))) (iJ (ts:=["_law_a", "_law_b"]) (ys:=["_law_path"]) (js:=[4]) rfl rfl (bA (aw HM hr rfl X.M5 X.HP.kp X.NQ .nil bg (b_ (qv 12) ae))) (λ_ _ _ _ _=>kP (K:=K) (n:=2) rfl rfl (aW (ay (i:=0) (show(["_law_a", "_law_b", "_law_path"]:List Str).Nodup by decide) rfl oI1) (aW (ay (i:=1) (show(["_law_a", "_law_b", "_law_path"]:List Str).Nodup by decide) rfl oI1) cH))) (λ_ _ _ _ _=>bE) (λ_ _ _ _ _=>(aw N0 hr rfl X.MV X.KU.kp X.NH .nil bg (b_ (qv 2) (b_ (qv 0) (b_ (qv 1) ae)))))))))))) (ai (aG (qv 2))))))),?_⟩;dsimp only[cg];have sz:=gt.sz;obtain⟨s0,hs⟩:=gt.ft;have G:=gt.G;have II:=eV G hs;have lsp:=fY G hs;intro d nd;have s1:=ac nd (GC P w d []);have EO:DS P w (upd H d (GC P w d [])) d []:=⟨aa,λx hx=>nomatch hx⟩
 refine⟨_,rfl,t,vt,rfl,i3.same (am s1) t ht,by lia,λL us H2 s2 hL v_=>?_⟩;have hd2:=EO.same s2;have C7:=s1.trans s2;have LX:L≠d:=dZ hL hd2.1 (λz=>nomatch z);have Ei:=v_.len;rw[dF]at Ei;have P0:=o7.same (am C7) hg;have lfm:g.fm.length<=10:=G.lf;have lsgn:g.sg.length<=10:=G.ls;have len4:∀i,(bI g ((A9 [] t).take i)).length<=4*size t:=λi=>by have:=dP G (xs:=(A9 [] t).take i) λx hx=>(cG G hs (u_.mp (show(x.1,x.2)∈A9 [] t from acx hx))).1;have l2:=dF t (p:=[]);rw[aaZ]at this;lia
 have TK:∀{H':Hp},Kp [d] H2 H'->d_ H2 H':=λ{H'} kp b xs e=>kp b _ (by simpa using dZ e hd2.1 (λz=>nomatch z)) e;refine⟨_,rfl,L,rfl,⟨_,d9.of hL⟩,kc (K:=K) (a:=L) (xs:=us) (λi σ H'=>∃x4 x5 x6 x7 x8 xs,σ=[some vg,some vt,some (.ref d),some (.ref L),x4,x5,x6,x7,x8,none,none,none,none]/\Kp [d] H2 H'/\DS P w H' d xs/\p9 (bI g ((A9 [] t).take i)) (aX g t) (λ_=>False) H' xs)
  ⟨none,none,none,none,none,[],rfl,Kp.refl _ _,hd2,rfl,(λsp x hx=>nomatch hx)⟩ (by rintro i σ H' _ ⟨_,_,_,_,_,_,_,kp,_⟩;exact d9.of (kp _ _ (by simpa using LX) hL)) ?_ ?_⟩
 ·rintro i v σ H' hv ⟨x4,x5,x6,x7,x8,xs,rfl,kp,Im,Nm⟩ E1 hN1 _;obtain⟨⟨p,u⟩,Nj,a,b,yu,rfl,ha,hb,hu⟩:=v_.get hv;have C8:=u_.mp (aaD Nj);have hb:H2 b=some (.tup (p.map V.int)):=hb;have hu:i3 H2 u yu:=hu;have T1:=TK kp;obtain⟨fm,fn,_⟩:=bT G hs C8;obtain⟨sm,sn⟩:=cG G hs C8;obtain⟨gp,sa,fa,IB,D4,rfl,FY,JC,Ie,E3,B1⟩:=o7.same T1 P0;obtain⟨pu,bu,Yr,rfl,Lk,_,_⟩:=(i3.same T1 u hu).op;have lf:=B1.len;have lg:=Ie.len;refine⟨a,_,rfl,b9.of (T1 _ _ ha),rfl,_,_,rfl,_,_,rfl,rfl,?_⟩;refine⟨_,rfl,gp,_,1,_,rfl,rfl,b9.of FY,rfl,fa,rfl,⟨_,b9.of E3⟩,λD nD=>?_⟩;refine fu (K:=K) (B:=r_) (a:=fa) (us:=D4) (G:=g.fm) (R:=λ_ f v=>v=.str f.hd) (λ_ _ _ _ e h=>r_.same e h) (λ_ _ _ _ _ h=>h) (λf=>decide (f.nm=(Ds g u.nm).nm)) (bO (by lia)) E3 B1 nD (λf' v' H3 Ql B7 s3 Q' k=>?_) (λf' v' H3 Ql B7 s3 Q' k=>?_) (λos H3 s3 hD Ej=>?_)
  ·obtain⟨p',b',rr,Gu,rfl,DK,_⟩:=B7;refine⟨_,rfl,p',_,0,_,rfl,rfl,b9.of DK,rfl,_,rfl,pu,_,0,_,rfl,rfl,b9.of (s3 _ _ Lk),rfl,rfl,_,rfl,?_⟩;have e:decide (V.str f'.nm=V.str u.nm)=decide (f'.nm=(Ds g u.nm).nm):=decide_eq_decide.mpr ⟨λz=>by rw[fn];exact V.str.inj z,λz=>by rw[z,fn]⟩;rw[e];exact k _ (a_.refl _)
  ·obtain⟨p',b',rr,Gu,rfl,DK,_⟩:=B7;exact⟨_,rfl,p',_,1,_,rfl,rfl,b9.of DK,rfl,k _ _ (a_.refl _) rfl⟩
  rw[dJ Fm.nm G.fn fm]at Ej;obtain⟨y,r,rfl,hy,ED⟩:=Ej.B3;have:=ED.nil_of;subst this hy;refine⟨D,_,0,_,rfl,rfl,d9.of hD,rfl,?_⟩;refine⟨_,rfl,gp,_,0,_,rfl,rfl,b9.of (s3 _ _ FY),rfl,sa,rfl,⟨_,b9.of (s3 _ _ JC)⟩,λD2 nD2=>?_⟩;refine fu (K:=K) (B:=p8) (a:=sa) (us:=IB) (G:=g.sg) (R:=p8) (λ_ _ _ _ e h=>p8.same e h) (λ_ _ _ _ e h=>p8.same e h) (λf=>decide (f.nm=(sgn g u).nm)) (bO (by lia)) (s3 _ _ JC) (Ie.imp λ_ _ h=>p8.same (am s3) h) nD2 (λf' v' H4 Ql B7 s4 Q' k=>?_) (λf' v' H4 Ql B7 s4 Q' k=>⟨_,rfl,k _ _ (a_.refl _) B7⟩) (λos H4 s4 Dz Ej=>?_)
  ·obtain⟨p',da',ua',dus',Ys,rfl,DK,_⟩:=B7;refine⟨_,rfl,p',_,0,_,rfl,rfl,b9.of DK,rfl,_,rfl,rfl,_,rfl,?_⟩;have e:decide (V.str f'.nm=V.str (Ds g u.nm).hd)=decide (f'.nm=(sgn g u).nm):=decide_eq_decide.mpr ⟨λz=>by rw[sn];exact V.str.inj z,λz=>by rw[z,sn]⟩;rw[e];exact k _ (a_.refl _)
  rw[dJ Sg.nm G.sn sm]at Ej;obtain⟨y,r,rfl,hy,ED⟩:=Ej.B3;have:=ED.nil_of;subst this;obtain⟨ps,da,ua,IP,IA,rfl,DJ,Mm,Gz,Pt,Hu⟩:=hy;refine⟨D2,_,0,_,rfl,rfl,d9.of Dz,rfl,?_⟩;have vl:=G.vl _ sm;have ld:=Gz.len;have lu:=Hu.len;have Le:=s3.trans s4;refine⟨_,rfl,ps,_,1,_,rfl,rfl,b9.of DJ,rfl,_,rfl,ps,_,2,_,rfl,rfl,b9.of DJ,rfl,da,ua,IP,IA,rfl,rfl,Mm,Pt,cF (by lia),λtt H5 s5 Nf=>?_⟩;have Fp:=Le.trans s5;have EU:g_ (w6 H5) ((sgn g u).dn++(sgn g u).up) (IP++IA):=(Gz.imp λ_ _ h=>w6.same (am s5) h).app (Hu.imp λ_ _ h=>w6.same (am s5) h);have HZ:=EU.len;have Xy:=Fp _ _ (T1 _ _ hb);have UC:=Im.same Fp;have hiv5:=Nm.same Fp;have kp5:=kp.same Fp;have TL:∀{H':Hp},Kp [d] H5 H'->d_ H5 H':=λ{H'} kp b xs e=>kp b _ (by simpa using dZ e UC.1 (λz=>nomatch z)) e;refine⟨tt,rfl,⟨_,b9.of Nf⟩,nc (K:=K) (a:=tt) (xs:=IP++IA) (λj σ H'=>∃x8 xs,σ=[some (.ref gp),some vt,some (.ref d),some (.ref L),some (.ref b),some (.ref pu),some (.str (Ds g u.nm).hd),some (.ref ps),x8,none,none,none,none]/\Kp [d] H5 H'/\DS P w H' d xs/\p9 (bI g ((A9 [] t).take i)++((db (sgn g u)).take j).map λn=>(p,n)) (aX g t) (λ_=>False) H' xs)
   ⟨_,xs,rfl,Kp.refl _ _,UC,by simpa using hiv5⟩ (by rintro j σ H' _ ⟨_,_,_,H_,_⟩;exact b9.of (TL H_ _ _ Nf)) ?_ ?_⟩
  ·rintro j v' σ H' Ht ⟨x8',ET,rfl,H_,GY,EZ⟩ E2 hN2 _;obtain⟨⟨nm,kd⟩,Xo,q',rfl,Lj⟩:=EU.get Ht;have Lj:H5 q'=some (.tup [.str nm,.str kd]):=Lj;have T5:=TL H_;have hvn:(db (sgn g u))[j]?=some nm:=by
    unfold db;rw[aaK,Xo];rfl
   refine⟨Z0,λl nl=>?_⟩;have u1:=ac nl (.lst []);refine⟨_,rfl,_,rfl,_,rfl,q',_,0,.str nm,rfl,rfl,b9.of (u1 _ _ (T5 _ _ Lj)),rfl,Z2,λkt nkt=>?_⟩;have u2:=ac nkt (.tup [.ref b,.str nm]);have La:=u1.trans u2;have P_:=GY.same La;have hiv2:=EZ.same La;have Md:=u2 _ _ (aa (H:=H') (a:=l) (o:=.lst []));have Ua:w5 (upd (upd H' l (.lst [])) kt (.tup [.ref b,.str nm])) (o6 (p,nm)) kt:=cj (sp:=(p,nm)) ⟨kt,b,rfl,aa,La _ _ (T5 _ _ Xy)⟩;have Dm:(p,nm)∉bI g ((A9 [] t).take i)++((db (sgn g u)).take j).map (λn=>(p,n)):=λhm=>by
    have Ij:(bI g ((A9 [] t).take i)++((db (sgn g u)).take j).map (λn=>(p,n))++[(p,nm)]).Nodup:=by
     have e1:bI g ((A9 [] t).take (i+1))=bI g ((A9 [] t).take i)++(db (sgn g u)).map λn=>(p,n):=by rw[aH Nj,eX,eW]
     have e2:(bI g ((A9 [] t).take (i+1))).Nodup:=fZ ((wN t).sublist ((acq _ _).map _)) λx hx=>G.vn _ (cG G hs (u_.mp (show(x.1,x.2)∈A9 [] t from acx hx))).1;rw[e1]at e2;refine e2.sublist ?_;rw[abr];refine List.Sublist.append_left ?_ _;rw[<-List.map_singleton,<-aaX,<-aH hvn];exact(acq _ _).map _
    exact(List.nodup_append.mp Ij).2.2 _ hm _ (by simp) rfl
   have QV:=EZ.len;have l4:=len4 i;have lv:=md G sm;refine⟨d,kt,ET,o6 (p,nm),rfl,rfl,P_,Ua,bO (by rw[QV,aaF,aaG,aaZ];lia),?_⟩;refine hN2 _ _ ⟨_,_,rfl,(H_.same La).upd (by simp),P_.put Ua,?_⟩;rw[aH hvn,aaX,<-abr];exact(hiv2.snoc Dm Md).dict P_.1
  ·rintro σ H' ⟨x8',ET,rfl,H_,GY,EZ⟩;refine hN1 _ _ ⟨_,_,_,_,_,ET,rfl,kp5.trans H_,GY,?_⟩;rw[aH Nj,eX,eW];have e:(db (sgn g u)).take (IP++IA).length=db (sgn g u):=aa2 (by
    unfold db;rw[aaG];lia)
   rw[e]at EZ;exact EZ
 rintro σ H3 ⟨x4,x5,x6,x7,x8,xs3,rfl,kp3,UD,Mg⟩;rw[Ei,<-dF t (p:=[]),abO]at Mg;have Mg:p9 (aM g t) (aX g t) (λ_=>False) H3 xs3:=Mg;have Rm:=TK kp3;have Rh:=kp3 _ _ (by simpa using LX) hL;have GP:=v_.imp λ_ _ h=>B0.same Rm h;have PZ:=o7.same Rm P0;have TK3:∀{H':Hp},Kp [d] H3 H'->d_ H3 H':=λ{H'} kp b xs e=>kp b _ (by simpa using dZ e UD.1 (λz=>nomatch z)) e;refine⟨_,rfl,L,rfl,⟨_,d9.of Rh⟩,kc (K:=K) (a:=L) (xs:=us) (λi σ H'=>∃x4 x5 x6 x7 x8 x9 Ls RC RB xs,σ=[some vg,some vt,some (.ref d),some (.ref L),x4,x5,x6,x7,x8,x9,Ls,RC,RB]/\Kp [d] H3 H'/\DS P w H' d xs/\p9 (aM g t) (aX g t) (λsp=>∃x∈(A9 [] t).take i,∃r∈(Ds g x.2.nm).ru,bM x.1 (o4 r)=sp) H' xs)
  ⟨_,_,_,_,_,_,_,_,_,xs3,rfl,Kp.refl _ _,UD,Mg.dn λsp=>⟨λ⟨x,hx,_⟩=>by simp at hx,λz=>z.elim⟩⟩ (by rintro i σ H' _ ⟨_,_,_,_,_,_,_,_,_,_,_,kp,_⟩;exact d9.of (kp _ _ (by simpa using LX) Rh)) ?_ ?_⟩
 ·rintro i v σ H' hv ⟨x4,x5,x6,x7,x8,x9,Ls,RC,RB,xs,rfl,kp,Im,Nm⟩ E1 hN1 _;obtain⟨⟨p,u⟩,Nj,a,b,yu,rfl,ha,hb,hu⟩:=GP.get hv;have C8:=u_.mp (aaD Nj);have hb:H3 b=some (.tup (p.map V.int)):=hb;have hu:i3 H3 u yu:=hu;have T1:=TK3 kp;obtain⟨fm,fn,_⟩:=bT G hs C8;obtain⟨gp,sa,fa,IB,D4,rfl,FY,JC,Ie,E3,B1⟩:=o7.same T1 PZ;obtain⟨pu,bu,Yr,rfl,Lk,_,_⟩:=(i3.same T1 u hu).op;have lf:=B1.len;have lp:p.length<=60:=by
   have:=fS C8;have:=cY t;lia
  refine⟨a,_,rfl,b9.of (T1 _ _ ha),rfl,_,_,rfl,_,_,rfl,rfl,?_⟩;refine⟨_,rfl,gp,_,1,_,rfl,rfl,b9.of FY,rfl,fa,rfl,⟨_,b9.of E3⟩,λD nD=>?_⟩;refine fu (K:=K) (B:=r_) (a:=fa) (us:=D4) (G:=g.fm) (R:=λH f v=>∃b us,v=.ref b/\H b=some (.tup us)/\g_ (o_ H) f.ru us) (λ_ _ _ _ e h=>r_.same e h) (by rintro _ _ _ _ e ⟨b,us,h1,h2,h3⟩;exact⟨b,us,h1,e _ _ h2,h3.imp λ_ _ z=>o_.same e z⟩) (λf=>decide (f.nm=(Ds g u.nm).nm)) (bO (by lia)) E3 B1 nD (λf' v' H4 Ql B7 s4 Q' k=>?_) (λf' v' H4 Ql B7 s4 Q' k=>?_) (λos H4 s4 hD Ej=>?_)
  ·obtain⟨p',b',rr,Gu,rfl,DK,_⟩:=B7;refine⟨_,rfl,p',_,0,_,rfl,rfl,b9.of DK,rfl,_,rfl,pu,_,0,_,rfl,rfl,b9.of (s4 _ _ Lk),rfl,rfl,_,rfl,?_⟩;have e:decide (V.str f'.nm=V.str u.nm)=decide (f'.nm=(Ds g u.nm).nm):=decide_eq_decide.mpr ⟨λz=>by rw[fn];exact V.str.inj z,λz=>by rw[z,fn]⟩;rw[e];exact k _ (a_.refl _)
  ·obtain⟨p',b',rr,Gu,rfl,DK,_,hrr,Nh⟩:=B7;exact⟨_,rfl,p',_,3,_,rfl,rfl,b9.of DK,rfl,k _ _ (a_.refl _) ⟨rr,Gu,rfl,hrr,Nh⟩⟩
  rw[dJ Fm.nm G.fn fm]at Ej;obtain⟨y,r,rfl,hy,ED⟩:=Ej.B3;have:=ED.nil_of;subst this;obtain⟨rb,FD,rfl,JF,Nh⟩:=hy;refine⟨D,_,0,_,rfl,rfl,d9.of hD,rfl,?_⟩;have Il:=Im.same s4;have hiv4:=Nm.same s4;have Qd:=s4 _ _ (T1 _ _ hb);have TL:∀{H':Hp},Kp [d] H4 H'->d_ H4 H':=λ{H'} kp b xs e=>kp b _ (by simpa using dZ e Il.1 (λz=>nomatch z)) e;have lru:=Nh.len;refine⟨_,rfl,rb,rfl,⟨_,b9.of JF⟩,nc (K:=K) (a:=rb) (xs:=FD) (λj σ H'=>∃Ls RC RB xs,σ=[some (.ref gp),some vt,some (.ref d),some (.ref L),some (.ref b),some (.ref pu),x6,x7,x8,some (.ref rb),Ls,RC,RB]/\Kp [d] H4 H'/\DS P w H' d xs/\p9 (aM g t) (aX g t) (λsp=>(∃x∈(A9 [] t).take i,∃r∈(Ds g x.2.nm).ru,bM x.1 (o4 r)=sp)\/∃r∈(Ds g u.nm).ru.take j,bM p (o4 r)=sp) H' xs)
   ⟨_,_,_,xs,rfl,Kp.refl _ _,Il,hiv4.dn λsp=>⟨λz=>z.elim id λ⟨r,hr,_⟩=>by simp at hr,.inl⟩⟩ (by rintro j σ H' _ ⟨_,_,_,_,_,H_,_⟩;exact b9.of (TL H_ _ _ JF)) ?_ ?_⟩
  ·rintro j v' σ H' Ht ⟨Yq,Yp,Yo,ET,rfl,H_,GY,EZ⟩ E2 hN2 _;have T5:=TL H_;obtain⟨ru,hrj,q',tv,rfl,Lj,Ti⟩:=Nh.get Ht;have RT:=aaD hrj;have tw:=gt.W.tw _ fm ru RT;obtain⟨DT,EY⟩:=lO G hs C8 RT;refine⟨q',_,rfl,b9.of (T5 _ _ Lj),rfl,_,_,rfl,_,_,rfl,_,_,rfl,rfl,?_⟩;refine⟨_,rfl,ru.tm,tv,rfl,g9.same T5 _ Ti,tw.1,tw.2,λl ys H5 nl s5 hl Ez=>⟨l,rfl,⟨_,d9.of hl⟩,λD5 nD5=>?_⟩⟩;have QU:=Ez.len;have Xb:=dG ru.tm;have Pm:=iX Ez;have Xy:=s5 _ _ (T5 _ _ Qd);refine pV (K:=K) (R:=λH (z:Pr) v=>j_ H (bM p z) v) (as:=named ru.tm) (EJ.ofT λ_ _ _ _ e h=>j_.same e h) (bO (by lia)) QU (d9.of hl) nD5 (λk z pr H6 hz IF s6 Q' kk=>?_) (λzs H6 s6 Ms GO=>?_)
   ·obtain⟨ZR,JH,c',rfl,FI⟩:=Pm.get hz;rw[IF]at JH;cases JH;refine⟨c',_,rfl,b9.of (s6 _ _ FI),rfl,_,_,rfl,_,_,rfl,rfl,[some (.int pr.1),some (.str pr.2)],rfl,rfl,?_⟩;exact⟨_,rfl,_,rfl,_,rfl,b,p,pr.1,pr.2,rfl,s6 _ _ Xy,by lia,λy H7 s7 h7=>kk _ _ s7 h7⟩
   ·have s56:=s5.trans s6;refine⟨_,rfl,_,rfl,_,rfl,_,rfl,b,p,ru.k,ru.nm,rfl,s6 _ _ Xy,by lia,λy H7 s7 h7=>?_⟩;obtain⟨kt,kb,rfl,hkt,hkb⟩:=h7;have Ua:w5 H7 (o6 (bM p (o4 ru))) kt:=cj (sp:=bM p (o4 ru)) ⟨kt,kb,rfl,hkt,hkb⟩;have Za:=s56.trans s7;have P9:=GY.same Za;have hiv7:=EZ.same Za;have QV:=EZ.len;have hzs7:g_ (j_ H7) (aX g t (bM p (o4 ru))) zs:=by
     rw[EY];exact g_.mapM (R:=j_ H7) (bM p) (GO.imp λ_ _ h=>j_.same (am s7) h)
    refine⟨d,kt,ET,o6 (bM p (o4 ru)),rfl,rfl,P9,Ua,bO (by lia),?_⟩;refine hN2 _ _ ⟨_,_,_,_,rfl,(H_.same Za).upd (by simp),P9.put Ua,?_⟩;refine((hiv7.put DT (s7 _ _ Ms) hzs7).dict P9.1).dn λsp=>?_;rw[aH hrj];constructor
    ·rintro(h|⟨r,hr,e⟩)
     ·exact .inl (.inl h)
     ·rcases List.mem_append.mp hr with z|z
      ·exact .inl (.inr ⟨r,z,e⟩)
      ·rw[List.mem_singleton.mp z]at e;exact .inr e.symm
    ·rintro((h|⟨r,hr,e⟩)|e)
     ·exact .inl h
     ·exact .inr ⟨r,abe _ hr,e⟩
     ·exact .inr ⟨ru,by simp,e.symm⟩
  ·rintro σ H' ⟨Yq,Yp,Yo,ET,rfl,H_,GY,EZ⟩;refine hN1 _ _ ⟨_,_,_,_,_,_,_,_,_,ET,rfl,(kp.same s4).trans H_,GY,EZ.dn λsp=>?_⟩;rw[aH Nj,aa2 (show(Ds g u.nm).ru.length<=FD.length by lia)];constructor
   ·rintro⟨x,hx,r,hr,e⟩;rcases List.mem_append.mp hx with z|z
    ·exact .inl ⟨x,z,r,hr,e⟩
    ·rw[List.mem_singleton.mp z]at hr e;exact .inr ⟨r,hr,e⟩
   ·rintro(⟨x,hx,r,hr,e⟩|⟨r,hr,e⟩)
    ·exact⟨x,abe _ hx,r,hr,e⟩
    ·exact⟨(p,u),by simp,r,hr,e⟩
 ·rintro σ H4 ⟨x4,x5,x6,x7,x8,x9,Ls,RC,RB,xs,rfl,kp,Im,Nm⟩;rw[Ei,<-dF t (p:=[]),abO]at Nm;refine⟨_,rfl,q d xs H4 (λb o hb=>kp _ _ (by simpa using aI hb nd) (kp3 _ _ (by simpa using aI hb nd) (C7 _ _ hb))) nd Im ⟨Nm.keys,λsp x hx e=>?_⟩⟩;obtain⟨l,Gu,h1,h2,h3,h4⟩:=Nm.vs sp x hx e;refine⟨l,Gu,h1,h2,λ_=>?_,λz=>absurd trivial z⟩;by_cases Gz:∃x∈A9 [] t,∃r∈(Ds g x.2.nm).ru,bM x.1 (o4 r)=sp
  ·exact h3 Gz
  ·have A5:sp∈aM g t:=by
    have:x.1∈(aM g t).map o6:=by rw[<-Nm.keys];exact List.mem_map.mpr ⟨x,hx,rfl⟩
    obtain⟨IC,h5,h6⟩:=List.mem_map.mp this;rw[<-dw (h6.trans e)];exact h5
   rcases jf G hs A5 with z|⟨p,u,r,z1,z2,z3⟩
   ·rw[z,h4 Gz];exact .nil
   ·exact absurd ⟨(p,u),u_.mpr z1,r,z2,z3⟩ Gz
end HJ
namespace L2
open PySem PySem.Spec PyProof.Rows
def iR:typeLookup (.type "list") "keys" = pure none:=by rw[acU,ab8];kernel_rfl
variable{o:Obj}
def pN{prog:Program}{w:World}{A:Around}{E:Value->Shared->Prop}{s:Shared}{a:Addr}{xs:Array Value}{k:Nat}{Q:Option Value->Shared->Prop}(hx:s.heap.get? a=some o)(hc:o.cls=.type "list")(GZ:o.data=.seq xs k)(hd:o.dict=none)(hA:A.handled=none)(q:∀h' tk,(∀b u,s.heap.get? b=some u->h'.get? b=some u)->Q none { s with heap:=h',toks:=tk }):
 wpAny (model prog w) A (getAttr? (.ref a) "keys") Q E s:=by
 obtain⟨c,dct,dat,sl⟩:=o;simp only at hc GZ hd;subst hc GZ hd;obtain⟨hp,g,d,tk,os⟩:=s;have hT:∀RF,(⟨hp,g,d,RF,os⟩:Shared).TypeIs (.ref a) "list":=λ_=>⟨_,hx,rfl⟩
 have f1:=sub_AttributeError;have f3:=F.slot_list_getattribute.lookup;have f4:=F.slot_list_getattribute.bind (.ref a);have f5:=am_list_getattr_none;unfold getAttr? getAttrBy? getAttrBy;repeat (any_goals (first|assumption|exact hT _|((with_reducible show wpAny _ _ (call (Value.builtin "list.__getattribute__") _ _) _ _ _);refine adi F.slot_list_getattribute (hT _) am_entry_list_getattribute (F.args_list_getattribute_2 _ _) (meets_getattribute_miss_list a xs k sl "keys" _ iR (by decide) (by decide)) ⟨hx,hA,λh' RF e DB=>?_⟩)|wp_step))
 obtain⟨t',u',he⟩:=DB.there;show wpAny _ _ (getattributeRaised _ _ _ _ _ _ _) _ _ _;unfold getattributeRaised;repeat (any_goals (first|assumption|wp_step))
 exact q _ _ DB.keeps
structure NY(K:Type) where
 at_:Addr
 key:K
 kb:Addr
 val:Value
def zf{K:Type}(h:Heap)(x:NY K):Prop:=∃o n,h.get? x.at_=some o/\o.cls=.type "tuple"/\o.data=.seq #[.ref x.kb,x.val] n
def Ext(h h':Heap):Prop:=∀b o,h.get? b=some o->h'.get? b=some o
section
variable{P:Program}{w:World}{A:Around}{E:Value->Shared->Prop}{K:Type}[DecidableEq K]{knd:HeapKind P w K}
noncomputable def Bq(xs:List (K×Addr×Value))(ps:List (NY K)):List (K×Addr×Value):=ps.foldl (λacc x=>storedH acc x.key x.kb x.val) xs
theorem kK(xs:List (K×Addr×Value))(k:K)(a:Addr)(v:Value):(storedH xs k a v).length<=xs.length+1:=by
 unfold storedH;split
 ·rw[aaG];lia
 ·rw[aaF];exact aaI _
theorem vS{R:Result->Shared->Prop}{I:Addr}{fp wr:List Addr}{G:Array GenState->Array GenState->Prop}{n:Nat}{V':Nat->Value->Prop}{St:Nat->Shared->Prop}(h0:Heap)(W:WalksS P w A.in1 I fp wr G n V' St)(S:Addr)(nS:S∉fp)(n0:∀b∈S::wr,h0.get? b=none)(hu:knd.room A.in1)(ps:List (NY K))(lp:ps.length=n)(hn:n<=1000)(hv:∀i v,V' i v->∃x,ps[i]?=some x/\v=.ref x.at_)(hk:∀x∈ps,∀h',Ext h0 h'->knd.is h' x.key x.kb)(hp:∀x∈ps,zf h0 x):
 ∀(k i:Nat)(s:Shared)(xs:List (K×Addr×Value))(j:Int),n-i=k->i<=n->St i s->Ext h0 s.heap->s.heap.DictOfH knd S xs->(∀x∈xs,∀hh,Ext h0 hh->knd.is hh x.1 x.2.1)->xs.length<=i ->
  (∀s',Moved (S::wr) G s s'->s'.heap.DictOfH knd S (Bq xs (ps.drop i))->R (.ok (.ret .none)) s') ->
  codeAny (model P w) A (.builtin "dict.update.loop" ⟨[.ref S,.ref I,rawInt j,.none],[]⟩) R s:=by
 have nW:S∉wr:=λh=>nS (W.sub _ h);have sub:∀b∈wr,b∈S::wr:=λb hb=>.tail _ hb;have ext1:∀{s s':Shared},Ext h0 s.heap->Moved wr G s s'->Ext h0 s'.heap:=λe mv b o hb=>mv.heap b o (λhw=>by rw[n0 b (sub b hw)]at hb;cases hb) (e b o hb);have dk:∀{h h':Heap}{xs:List (K×Addr×Value)},h.DictOfH knd S xs->(∀o,h.get? S=some o->h'.get? S=some o)->(∀x∈xs,∀hh,Ext h0 hh->knd.is hh x.1 x.2.1)->Ext h0 h'->h'.DictOfH knd S xs:=λhd e hx ex=>by obtain⟨o,es,ep,ho,hc,hd,he,his,hn⟩:=hd;exact⟨o,es,ep,e o ho,hc,hd,he,λx hxm=>hx x hxm _ ex,hn⟩
 intro k;induction k with
 |zero=>
  intro i s xs j Xr hi st ex hS hx lk hR;obtain rfl:i=n:=by lia
  refine acu eT ?_;rw[acJ cv _];show wpAny _ _ (pyNext (.ref I) >>= _) _ _ _;refine aaC (W.done s _ _ st λs' mv=>?_);rw[acS (by lia)]at hR;exact aaC (aaE (aaE (hR s' (mv.mono sub) (dk hS (λo e=>mv.heap S o nW e) hx (ext1 ex mv)))))
 |succ k ih=>
  intro i s xs j Xr hi st ex hS hx lk hR;refine acu eT ?_;rw[acJ cv _];show wpAny _ _ (pyNext (.ref I) >>= _) _ _ _;refine aaC (W.item i s _ _ (by lia) st λv s' pv FC mv=>?_);obtain⟨x,hxi,rfl⟩:=hv i v pv;have xm:=aaD hxi;have Yg:=ext1 ex mv;have Nu:s'.heap.DictOfH knd S xs:=dk hS (λo e=>mv.heap S o nW e) hx Yg;obtain⟨o,m,e1,e2,e3⟩:=hp x xm;have e1:=Yg _ _ e1;have tx:s'.TypeIs (.ref x.at_) "tuple":=⟨o,e1,e2⟩
  show wpAny _ _ (holding [Value.ref x.at_] _ >>= _) _ _ _;refine aaC (abu (aaC (wpAny_tryCatch ?_)));unfold Builtin.Dict.pairItems;refine aaC (acd tx ?_);rw[aaY (by decide)];refine aaC (acm e1 e3 (aaE ?_));show wpAny _ _ (holding [Value.ref x.kb,x.val] (dictSet S (.ref x.kb) x.val)) _ _ _;refine abu (wpAny_dictSet_heap (hsz:=abg (show xs.length<=1000 by lia) (by decide)) hu (hk x xm _ Yg) Nu λh' E4 sb=>?_);have ed:ps.drop i=x::ps.drop (i+1):=by obtain⟨hl,hxe⟩:=List.getElem?_eq_some_iff.mp hxi;rw[acC hl,hxe]
  have ex2:Ext h0 h':=λb o hb=>(sb.2 b λz=>by rw[z,n0 S (.head _)]at hb;cases hb).trans (Yg b o hb);have hx2:∀y∈storedH xs x.key x.kb x.val,∀hh,Ext h0 hh->knd.is hh y.1 y.2.1:=λy hy=>by
   unfold storedH at hy;split at hy
   ·obtain⟨u,Ib,rfl⟩:=List.mem_map.mp hy;unfold putAt;split
    ·exact hx u Ib
    ·exact hx u Ib
   ·rcases List.mem_append.mp hy with h|h
    ·exact hx y h
    ·rw[List.mem_singleton.mp h];exact hk x xm
  refine aaE ⟨acP cv _,ih (i+1) _ (storedH xs x.key x.kb x.val) (j+1) (by lia) (by lia) (W.frame _ s' _ _ FC (acX _ _) λb hb o e=>?_) ex2 E4 hx2 (by have:=kK xs x.key x.kb x.val;lia) λs2 mv2 Mp=>?_⟩
  ·exact(sb.2 b λz=>nS (z▸hb)).trans e
  ·refine hR s2 (Moved.trans W.gtrans ((mv.mono sub).then_heap (acX _ _) λb o hb e=>(sb.2 b λz=>hb (z▸.head _)).trans e) mv2) ?_;rw[ed];exact Mp
end
section
variable{prog:Program}{w:World}{A:Around}{E:Value->Shared->Prop}{s:Shared}{K:Type}[DecidableEq K]{knd:HeapKind prog w K}
def pX{t:Addr}{items:Array Value}{m:Nat}{ps:List (NY K)}{Q:Value->Shared->Prop}(hh:A.handled=none)(hu:knd.room A.in1.in1)(ht:s.heap.get? t=some o)(hc:o.cls=.type "list")(hd:o.data=.seq items m)(hn:o.dict=none)(lp:ps.length=items.size)(h1:items.size<=1000)(hi:∀(i:Nat) v,items[i]?=some v->∃x,ps[i]?=some x/\v=.ref x.at_)(hk:∀x∈ps,∀h',Ext s.heap h'->knd.is h' x.key x.kb)(hp:∀x∈ps,zf s.heap x)(q:∀h' tk,h'.DictOfH knd s.heap.objs.size (Bq [] ps)->(∀b u,s.heap.get? b=some u->h'.get? b=some u)->Q (.ref s.heap.objs.size) { s with heap:=h',toks:=tk }):
 wpAny (model prog w) A (call (.type "dict") [.ref t]) Q E s:=by
 refine adX (Q₁:=λobj sx=>obj=.ref s.heap.objs.size/\sx={ s with heap:=s.heap.push ur }) F.kt_called_dict (F.kt_typeCall_dict_1 _) F.entry_dict_init (kt_code_dict_new _ ⟨rfl,rfl⟩) ?_;rintro obj sx ⟨rfl,rfl⟩;have new:(s.heap.push ur).DictOfH knd s.heap.objs.size []:=Heap.DictOfH.new s.heap;have FW:(s.heap.push ur).get? t=some o:=aaH _ ht;refine⟨new.typeIs,F.args_dict_init_2 _ _,?_⟩;unfold Builtin.«dict.__init__» Builtin.Dict.selfAndRest;refine aaC (aaC (adN new.typeIs ?_));show wpAny _ _ (pure (s.heap.objs.size,[Value.ref t])) _ _ _;refine aaE ?_;show wpAny _ _ (Builtin.Dict.updateFrom "dict.__init__" s.heap.objs.size (.ref t) [] .none) _ _ _;unfold Builtin.Dict.updateFrom;refine aaC (acd (s:={ s with heap:=s.heap.push ur }) (T:="list") ⟨o,FW,hc⟩ ?_);rw[aaY (by decide)];refine aaC (pN (s:={ s with heap:=s.heap.push ur }) FW hc hd hn (by simp[hh]) λh' tk kp=>?_);rw[aaY (show(none:Option Value).isNone=true from rfl)];have GQ:h'.get? t=some o:=kp _ _ FW;have E4:h'.DictOfH knd s.heap.objs.size []:=let⟨o',es,ep,e,a,b,c,d,f⟩:=new;⟨o',es,ep,kp _ _ e,a,b,c,(λx hx=>nomatch hx),f⟩
 have lS:s.heap.objs.size<h'.objs.size:=let⟨_,_,_,e,_⟩:=E4;aaJ e
 have lt:t<s.heap.objs.size:=aaJ ht;refine aaC (acG (aaC (wpAny_pyIter_list (items:=items) ⟨o,GQ,hc,m,hd⟩ (aaE ⟨acP cv _,?_⟩))));have nI:t≠h'.objs.size:=aaU (ac7 lt lS);have ex0:Ext s.heap (h'.push { cls:=.type "list_iterator",data:=.fields #[.ref t,.int 0 0] }):=λb u e=>aaH _ (kp _ _ (aaH _ e));have fr:∀b∈s.heap.objs.size::[h'.objs.size],s.heap.get? b=none:=λb hb=>by
  rcases List.mem_cons.mp hb with rfl|hb
  ·exact acH (aaI _)
  ·rw[List.mem_singleton.mp hb];exact acH (ads lS)
 refine vS (A:=A.in1) s.heap ((Walks.list (show A.in1.in1.handled=none by simp[hh]) h'.objs.size t nI items).toS) s.heap.objs.size (by simp;exact⟨aaU lS,adZ lt⟩) fr hu ps lp h1 hi hk hp (items.size-0) 0 _ [] 0 rfl (aa3 _) ⟨⟨_,aaT _ rfl,rfl,rfl⟩,o,aaH _ GQ,hc,m,hd⟩ ex0 (let⟨o',es,ep,e,a,b,c,d,f⟩:=E4;⟨o',es,ep,aaH _ e,a,b,c,(λx hx=>nomatch hx),f⟩) (λx hx=>nomatch hx) (aaI _) λs' mv dd=>?_;obtain⟨h2,g2,d2,Yw,_w⟩:=s';obtain rfl:g2=s.gens:=mv.gens;obtain rfl:d2=s.drawn:=mv.drawn;obtain rfl:_w=s.os:=mv.os;refine⟨rfl,q h2 Yw dd λb u e=>mv.heap b u ?_ (ex0 _ _ e)⟩
 exactλhb=>by rw[fr b hb]at e;cases e
end
section
variable{P:Program}{w:World}{K:Type}[DecidableEq K](κ:KH P w K)
def zp(H:Hp):List V->List (K×Addr×V)->Prop:=Paired λ(u:V)(x:K×Addr×V)=>∃p,u=.ref p/\H p=some (.tup [.ref x.2.1,x.2.2])/\κ.key H x.1 x.2.1
noncomputable def wc(xs ps:List (K×Addr×V)):List (K×Addr×V):=ps.foldl (λacc x=>fB acc x.1 x.2.1 x.2.2) xs
variable{κ}
theorem rM{H:Hp}{h:Heap}(ok:A8 P w H h):∀{us:List V}{rows:List (K×Addr×V)}{g8:List Value},zp κ H us rows->Vals us g8 ->
 ∃ps:List (NY K),ps.length=g8.length/\(∀(i:Nat) v,g8[i]?=some v->∃x,ps[i]?=some x/\v=.ref x.at_)/\(∀x∈ps,κ.key H x.key x.kb)/\(∀x∈ps,zf h x)/\Paired (λ(p:K×Addr×V)(q:NY K)=>p.1=q.key/\p.2.1=q.kb/\RelV p.2.2 q.val) rows ps:=by
 intro us rows g8 hp;unfold zp at hp;induction hp generalizing g8 with
 |nil=>
  intro r;cases r;exact⟨[],rfl,(λi v hv=>by simp at hv),(λx hx=>nomatch hx),(λx hx=>nomatch hx),.nil⟩
 |@cons u x us rows e _ ih=>
  intro r;cases r with
  |@cons _ v _ g8 r1 r2=>
  obtain⟨ps,l,h1,h2,h3,h4⟩:=ih r2;obtain⟨p,rfl,hp,hk⟩:=e;cases r1;obtain⟨_,jts,rj,o,ho,hc,n,hd⟩:=(show i9 P w H h p (.tup [.ref x.2.1,x.2.2])from ok p _ hp)
  cases rj with
  |@cons _ a _ _ ra rj=>
  cases rj with
  |@cons _ b _ _ rb rj=>
  cases rj;cases ra;refine⟨⟨p,x.1,x.2.1,b⟩::ps,by simp[l],λi v hv=>?_,λy hy=>?_,λy hy=>?_,.cons ⟨rfl,rfl,rb⟩ h4⟩
  ·cases i with
   |zero=>simp at hv;exact⟨_,rfl,hv.symm⟩
   |succ i=>
    obtain⟨y,y1,y2⟩:=h1 i v (by simpa using hv);exact⟨y,by simpa using y1,y2⟩
  ·rcases List.mem_cons.mp hy with rfl|hy
   ·exact hk
   ·exact h2 y hy
  ·rcases List.mem_cons.mp hy with rfl|hy
   ·exact⟨o,n,ho,hc,by simpa using hd⟩
   ·exact h3 y hy
theorem nG:∀{rows:List (K×Addr×V)}{ps:List (NY K)}{xs:List (K×Addr×V)}{us:List (K×Addr×Value)},Paired (λ(p:K×Addr×V)(q:NY K)=>p.1=q.key/\p.2.1=q.kb/\RelV p.2.2 q.val) rows ps->VH xs us->VH (wc xs rows) (Bq us ps)
 |_,_,xs,us,.nil,r=>r
 |_,_,xs,us,.cons ⟨e1,e2,e3⟩ t,r=>by show VH (wc (fB xs _ _ _) _) (Bq (storedH us _ _ _) _);rw[<-e1,<-e2];exact nG t (r.put _ e3)
theorem nE:∀(rows xs:List (K×Addr×V)),(wc xs rows).length<=xs.length+rows.length
 |[],xs=>aaI _
 |x::rows,xs=>by
  have h1:=nE rows (fB xs x.1 x.2.1 x.2.2);have h2:=mF xs x.1 x.2.1 x.2.2;show(wc (fB xs x.1 x.2.1 x.2.2) rows).length<=xs.length+(rows.length+1)
  lia
end
section
variable{X:Cx}{K:Type}[DecidableEq K]
inductive xq{P:Program}{w:World}{K:Type}[DecidableEq K](κ:KH P w K)(xs:List V)(H:Hp)(Q:VK):Prop
 |mk:∀a us rows,xs=[.ref a]->H a=some (.lst us)->us.length<=1000->zp κ H us rows->(∀d o,H d=none->NZ κ d (wc [] rows) o->Q (.ref d) (upd H d (ce d o)))->xq κ xs H Q
theorem pZ{κ:KH X.prog X.w K}(hc:X.calm=true)(hu:X.A.units+80<cLine)(hr:κ.kind.room X.A.in1.in1):eg X (.type "dict") (xq κ):=by
 intro pins s σ H xs us0 Q I r h;obtain⟨a,us,rows,rfl,ha,hl,hp,q⟩:=h;obtain⟨u,rfl,rx⟩:=gT r;cases rx;obtain⟨g8,rv,pl,hz⟩:=I.list (d9.of ha);obtain⟨⟨cls,dd,data,sl⟩,n,ho,Mn,II,hs⟩:=pl;obtain⟨ps,lp,hi,hk,DT,hrel⟩:=rM I.i4 hp rv;have lv:=rv.length;refine pX (knd:=κ.kind) (I.ok.hd hc) hr ho Mn hs II (by simpa using lp) (by simp;lia) (λi v hv=>hi i v (by simpa using hv)) (λx hx h' e=>κ.is (I.kept (t':=s.toks) (h':=h') e).i4 (hk x hx)) DT λh' tk dd kp=>?_;have hf:H s.heap.objs.size=none:=I.i4.fresh (aaI _);obtain⟨o,es,ep,FX,hx,hd,he,his,hn⟩:=dd;have lr:=acz hp;have hz2:(wc [] rows).length<=sizeLine:=by
  have h1:=nE rows [];have h2:sizeLine=16777216:=by decide
  simp at h1;lia
 exact⟨.ref s.heap.objs.size,_,I.laid (t':=tk) kp (aaI _) (jH FX),rfl,q _ o hf ⟨hz2,beq_eq_false_iff_ne.mpr (abF (aaU I.big)),_,es,ep,nG hrel .nil,hx,hd,he,hn⟩⟩
end
end L2
namespace HJ
open PySem L2 TR FT SP
open TM
open WK (put aT bF left cb di cD B6 Nr)
theorem nX{P:Program}{w:World}{A:Around}(hu:A.units+80<cLine):(bD P w).kind.room A.in1.in1:=show A.units+_+_+64<cLine by lia
noncomputable def FK(sp:aP):Da:=.tup [.tup (sp.1.map λn=>.fl (.int n)),.fl (.str sp.2)]
variable{sp:aP}{H:Hp}
def mZ{K:W.Frag}{v:V}(h:j_ H sp v):w9 K H (FK sp) v:=by
 obtain⟨a,b,rfl,ha,hb⟩:=h;unfold FK w9;refine⟨a,_,rfl,b9.of ha,?_⟩;unfold m5;refine⟨_,_,rfl,?_,?_⟩
 ·unfold w9;exact⟨b,_,rfl,b9.of hb,jX _⟩
 ·unfold m5;refine⟨_,_,rfl,?_,?_⟩
  ·unfold w9;exact⟨rfl,rfl⟩
  ·unfold m5;rfl
theorem sP{K:W.Frag}{H:Hp}:∀{w4:List aP}{vs:List V},g_ (j_ H) w4 vs->m5 K H (w4.map FK) vs
 |_,_,.nil=>by show m5 K H [] [];unfold m5;rfl
 |sp::w4,v::vs,.cons h r=>by show m5 K H (FK sp::w4.map FK) (v::vs);unfold m5;exact⟨_,_,rfl,mZ h,sP r⟩
theorem kg:∀a b:List Int,cQ (a.map λn=>Da.fl (.int n)) (b.map λn=>Da.fl (.int n))=decide (a=b)
 |[],[]=>by show cQ [] []=_;unfold cQ;simp
 |[],b::bs=>by show cQ [] (_::_)=_;unfold cQ;simp
 |a::as,[]=>by show cQ (_::_) []=_;unfold cQ;simp
 |a::as,b::bs=>by
  show cQ (Da.fl (.int a)::as.map _) (Da.fl (.int b)::bs.map _)=_;unfold cQ;rw[kg as bs];have:C9 (Da.fl (.int a)) (Da.fl (.int b))=decide (a=b):=by unfold C9;show(a == b)=_;by_cases h:a=b<;>simp[h]
  rw[this];by_cases h:a=b<;>by_cases g:as=bs<;>simp[h,g]
def wU(a b:aP):C9 (FK a) (FK b)=decide (a=b):=by
 obtain⟨p,n⟩:=a;obtain⟨q,m⟩:=b;unfold FK C9 cQ cQ cQ;have h1:C9 (.tup (p.map λn=>Da.fl (.int n))) (.tup (q.map λn=>Da.fl (.int n)))=decide (p=q):=by unfold C9;exact kg p q
 have h2:C9 (Da.fl (.str n)) (Da.fl (.str m))=decide (n=m):=by unfold C9;show(n == m)=_;by_cases h:n=m<;>simp[h]
 rw[h1,h2];by_cases h:p=q<;>by_cases g:n=m<;>simp[h,g]
theorem nu:∀a:List Int,bv (a.map λn=>Da.fl (.int n))=0
 |[]=>by show bv []=0;unfold bv;rfl
 |a::as=>by show bv (Da.fl (.int a)::as.map _)=0;unfold bv;rw[nu as];unfold gX;rfl
def wY(sp:aP):gX (FK sp)<=2:=by
 unfold FK gX bv bv bv;have h1:gX (.tup (sp.1.map λn=>Da.fl (.int n)))=1:=by unfold gX;rw[nu]
 have h2:gX (Da.fl (.str sp.2))=0:=by unfold gX;rfl
 rw[h1,h2];decide
theorem tM:∀w4:List aP,bv (w4.map FK)<=2
 |[]=>by show bv []<=2;unfold bv;lia
 |sp::w4=>by show bv (FK sp::w4.map FK)<=2;unfold bv;have:=wY sp;have:=tM w4;lia
theorem xa(sp:aP):∀w4:List aP,((w4.map FK).any λe=>C9 e (FK sp))=decide (sp∈w4)
 |[]=>by simp
 |a::w4=>by
  rw[aa7,acK,wU,xa sp w4];by_cases h:a=sp
  ·subst h;simp
  ·have:sp≠a:=λz=>h z.symm;simp[h,this]
def BV(K:W.Frag):V->List V->Hp->VK->Prop:=λx vs H Q=>∃(l:Addr)(xs:List V)(u:V)(w4:List aP)(sp:aP)(j:Nat),x=.ref l/\vs=[u]/\d9 K H l xs/\g_ (j_ H) w4 xs/\j_ H sp u/\w4[j]?=some sp/\(∀m,m<j->w4[m]?≠some sp)/\Q (.int (j:Int)) H
open Classical in
theorem yq{X:Cx}(hu:X.A.units+80<cLine):Rr X "list.index" (BV X.K):=by
 intro pins s σ H x vs v us Q I rx rv h;obtain⟨l,xs,z,w4,sp,j,rfl,rfl,hq,A5,Q0,hj,Gy,q⟩:=h;cases rx;obtain⟨u,rfl,ru⟩:=gT rv;obtain⟨g8,r,pl,hz⟩:=I.list hq;obtain⟨⟨cls,dd,data,sl⟩,n,ho,hc,hd,hs⟩:=pl;simp only at hc hd hs;subst hc;have hlen:=r.length;have hlen2:=A5.len;have at_:∀(m:Nat)(y:Value),g8[m]?=some y->∃a w,w4[m]?=some a/\j_ H a w/\RelV w y:=λm y hy=>by
  have hm:m<w4.length:=by have:=ao hy;lia
  obtain⟨a,ha⟩:=ax hm;obtain⟨w,hw,hs⟩:=bw A5 ha;obtain⟨v',Ht,rv'⟩:=r.get (i:=m) hw;rw[hy]at Ht;cases Ht;exact⟨a,w,ha,hs,rv'⟩
 subst hs;have one:∀{a b:aP}{w w':V}{y:Value},j_ H a w->RelV w y->j_ H b w'->RelV w' y->a=b:=λ{a b w w' y} h1 r1 h2 r2=>by
  obtain⟨p,p',rfl,e1,e2⟩:=h1;obtain⟨q,q',rfl,e3,e4⟩:=h2;cases r1;cases r2;rw[e1]at e3;have e5:=HO.tup.inj (aa0 e3);obtain⟨e6,e7⟩:=aca e5;cases e6;have e8:=V.str.inj (aca e7).1;rw[e2]at e4;have e9:=HO.tup.inj (aa0 e4);have e10:a.1=b.1:=by
   have:∀p q:List Int,p.map V.int=q.map V.int->p=q:=λp=>by
    induction p with
    |nil=>intro q h;cases q with
     |nil=>rfl
     |cons _ _=>cases h
    |cons x p ih=>intro q h;cases q with
     |nil=>cases h
     |cons y q=>
      obtain⟨a,b⟩:=aca h;rw[V.int.inj a,ih q b]
   exact this _ _ e9
  exact Prod.ext e10 e8
 have eval:∀(a:aP)(w:V)(y:Value),j_ H a w->RelV w y->decide (∃w',j_ H sp w'/\RelV w' y)=decide (a=sp):=λa w y hw ry=>decide_eq_decide.mpr ⟨λ⟨w',h1,h2⟩=>one hw ry h1 h2,λe=>⟨w,e▸hw,ry⟩⟩;have Mf:j<g8.length:=by have:=ao hj;lia
 refine adi F.slot_list_index ⟨_,ho,rfl⟩ F.entry_list_index (F.args_list_index_2 _ _) (PySem.SeqAt.list_indexAt l g8.toArray n dd sl u (λy=>decide (∃w',j_ H sp w'/\RelV w' y)) j (by rw[aaP];exact Mf) ?_ ?_ ?_) ⟨ho,λy hy=>?_,⟨.int (j:Int),H,I.tok _,⟨_,rfl⟩,q⟩⟩
 ·have h1:(sizeLine:Int)<2 ^ 63-1:=by decide
  lia
 ·obtain⟨a,w,h1,h2,h3⟩:=at_ j g8[j] (aaO Mf);rw[hj]at h1;cases h1;show decide (∃w',j_ H sp w'/\RelV w' g8[j])=true;exact abb ⟨w,h2,h3⟩
 ·intro m hm o9;rw[aaP]at hm;obtain⟨a,w,h1,h2,h3⟩:=at_ m g8[m] (aaO hm);show decide (∃w',j_ H sp w'/\RelV w' g8[m])=false;rw[eval a w _ h2 h3];exact aaW λe=>Gy m o9 (e▸h1)
 ·obtain⟨m,hm⟩:=abm (show y∈g8 by simpa using hy);obtain⟨a,w,h1,h2,h3⟩:=at_ m y hm;show PySem.SeqAt.EqAt _ _ _ _ (decide (∃w',j_ H sp w'/\RelV w' y));rw[eval a w _ h2 h3];have e:=nj I (A:=X.A.in1) 2 (FK a) (FK sp) (wY _) (mZ h2) (mZ Q0) h3 ru (by show X.A.units+_+2<cLine;lia);rw[wU]at e;have e2:∀(d1 d2:Decidable (a=sp)),@decide _ d1=@decide _ d2:=λd1 d2=>by cases d1<;>cases d2<;>simp_all
  rw[e2 _ _]at e;exact e
def dI(i j:Int):decide (V.int i=V.int j)=decide (i=j):=decide_eq_decide.mpr ⟨V.int.inj,λh=>by rw[h]⟩
theorem eD{α:Type}[DecidableEq α]:∀{l m:List α},l.Nodup->(∀x∈l,x∈m)->l.length<=m.length
 |[],_,_,_=>aa3 _
 |x::l,m,h,hs=>by obtain⟨h1,h2⟩:=List.nodup_cons.mp h;have hx:=hs x abd;have:=eD (m:=m.erase x) h2 λy hy=>(List.mem_erase_of_ne (λz=>h1 (by rw[<-z];exact hy))).mpr (hs y (aa9 _ hy));rw[List.length_erase_of_mem hx]at this;have:0<m.length:=aex hx;rw[aaM];lia
def iW{p:Prop}[Decidable p]{A B:Prop}(h1:¬p->A)(h2:p->B):if(!decide p)=true then A else B:=by
 by_cases h:p
 ·rw[abb h,aaR (by decide)];exact h2 h
 ·rw[aaW h,aaY (by decide)];exact h1 h
theorem kE(xs:List V)(y:V):Dp (xs++[y]) (-1)=some y:=by
 have e:Jx (xs++[y]).length (-1)=some xs.length:=by unfold Jx;rw[aaF,aaS,aaR (by decide),aaY (by lia)];congr 1;lia
 unfold Dp;rw[e];show(xs++[y])[xs.length]?=_;simp
abbrev SR:=List (A4×Addr×V)
def MC(xs:SR)(c:aP->Option Nat):Prop:=∀sp:aP,eI xs (o6 sp)=(c sp).map λ(k:Nat)=>V.int (k:Int)
theorem MC.put{xs:SR}{c:aP->Option Nat}(h:MC xs c)(sp:aP)(a:Addr)(k:Nat):MC (fB xs (o6 sp) a (.int (k:Int))) (put c sp k):=λj=>by
 rw[uv];by_cases e:j=sp
 ·subst e;rw[aaY rfl,aT];rfl
 ·rw[aaR (λz=>e (dw z)),bF e];exact h j
variable{xs:SR}
def MC.has{c:aP->Option Nat}(h:MC xs c)(sp:aP):(eI xs (o6 sp)).isSome=(c sp).isSome:=by rw[h sp,abW]
def MB(xs:SR)(vs:List aP):Prop:=∀k∈xs.map (·.1),k∈vs.map o6
variable{vs:List aP}
def MB.put(h:MB xs vs)(a:Addr)(v:V)(hs:sp∈vs):MB (fB xs (o6 sp) a v) vs:=λk hk=>by
 rw[jF]at hk;split at hk
 ·exact h k hk
 ·rcases List.mem_append.mp hk with z|z
  ·exact h k z
  ·rw[List.mem_singleton.mp z];exact List.mem_map.mpr ⟨sp,hs,rfl⟩
variable{us:List V}{d L:Addr}{o1 o2:Obj}{o:HO}
section
variable{P:Program}{w:World}{H H':Hp}
def MB.len(h:MB xs vs)(dd:DH (bD P w) H d xs):xs.length<=vs.length:=by have:=eD dd.nodup h;rwa [aaG,aaG]at this
def tP(hd:H d=some (ce d o1)):d_ H (upd H d (ce d o2)):=λb ys e=>by rw[al (dZ e hd (λz=>nomatch z))];exact e
def tL(hL:H L=some (.lst us)):d_ H (upd H L o):=λb ys e=>by rw[al (dZ e hL (λz=>nomatch z))];exact e
def er(h:DH (bD P w) H d xs):∃o,H d=some (ce d o):=let⟨⟨o,e,_⟩,_⟩:=h;⟨o,e⟩
def fO{o':Obj}(hd:H d=some (ce d o1))(hL:H L=some (.lst us)):upd H d (ce d o') L=some (.lst us):=by rw[al (λz=>by subst z;rw[hd]at hL;cases hL)];exact hL
def _root_.L2.DH.Fs(h:DH (bD P w) H d xs)(hL:H L=some (.lst us)):DH (bD P w) (upd H L o) d xs:=by obtain⟨o1,e1⟩:=er h;exact h.to (tL hL) (by rw[al (dZ e1 hL (λz=>nomatch z))])
def _root_.L2.DH.LG{e:Addr}(h:DH (bD P w) H d xs)(he:H e=some (ce e o1))(ne:d≠e):DH (bD P w) (upd H e (ce e o2)) d xs:=h.to (tP he) (by rw[al ne])
def ci{w4:List aP}(h:g_ (j_ H) w4 us)(s:d_ H H'):g_ (j_ H') w4 us:=h.imp λ_ _ z=>z.same s
end
structure GS(P:Program)(w:World)(H:Hp)(g:Addr)(gx:SR)(vs:List aP)(E:aP->List aP):Prop where
 d:DH (bD P w) H g gx
 h:p9 vs E Bp H gx
 sub:∀sp∈vs,∀e∈E sp,e∈vs
variable{S:List Addr}
section
variable{P:Program}{w:World}{H H':Hp}{g:Addr}{gx:SR}{vs:List aP}{E:aP->List aP}
def GS.get(h:GS P w H g gx vs E)(hs:sp∈vs):∃l us,eI gx (o6 sp)=some (.ref l)/\H l=some (.lst us)/\g_ (j_ H) (E sp) us:=by obtain⟨x,hx,e,hv⟩:=ql (h.h.has hs);obtain⟨l,us,h1,h2,h3,_⟩:=h.h.vs sp x hx e;exact⟨l,us,by show fV gx (o6 sp)=_;rw[hv,h1],h2,h3 trivial⟩
theorem GS.same(h:GS P w H g gx vs E)(s:a_ H H'):GS P w H' g gx vs E:=⟨h.d.same s,h.h.same s,h.sub⟩
def GS.kp(h:GS P w H g gx vs E)(k:Kp S H H')(hS:∀a∈S,∃o,H a=some (ce a o))(hg:g∉S):GS P w H' g gx vs E:=by
 have t:d_ H H':=λb ys e=>k b _ (λhb=>by
  obtain⟨o,ho⟩:=hS b hb;rw[ho]at e;cases e) e
 obtain⟨o1,e1⟩:=er h.d;refine⟨h.d.to t (by rw[k g _ hg e1,e1]),h.h.to (λl us e=>k l _ (λhb=>?_) e) t,h.sub⟩;obtain⟨o,ho⟩:=hS l hb;rw[ho]at e;cases e
end
def Kp.RD{H':Hp}{a:Addr}(k:Kp S H H')(h:H a=none):Kp S H (L2.upd H' a o):=λb p n e=>by rw[al (λz=>by rw[z,h]at e;cases e)];exact k b p n e
inductive ml(P:Program)(w:World)(R:Addr)(as:List V)(H:Hp)(Q:VK)(X:XK):Prop
 |mk (g la se:Addr) (p:V) (sp:aP) (gx:SR) (vs:List aP) (E:aP->List aP) (xl:SR) (c:aP->Option Nat) (xz:SR) (z:List aP):(as=[.ref g,p,.ref la,.ref se])->GS P w H g gx vs E->j_ H sp p->sp∈vs->vs.length<=500->DH (bD P w) H la xl->MC xl c->MB xl vs->DH (bD P w) H se xz->xz.map (·.1)=z.map o6->WK.DS E vs [] c z->sp∉z->la≠se->g≠la->g≠se->(∀Ry c' WR z' H',Kp [la,se] H H'->DH (bD P w) H' la Ry->MC Ry c'->MB Ry vs->DH (bD P w) H' se WR->WR.map (·.1)=z'.map o6->WK.DS E vs [] c' z'->sp∈z'->(∀x∈z,x∈z')->Q .q8 H')->(∀dx L r us H',Kp [la,se] H H'->H' dx=some (.xd [("ring",.ref L)])->H' L=some (.lst us)->g_ (j_ H') r us->B6 E r->(∀x∈r,x∈vs)->X (.ref R) (some dx) H')->ml P w R as H Q X
variable{z:List aP}
def lK(h:xs.map (·.1)=z.map o6)(sp:aP):(eI xs (o6 sp)).isSome=decide (sp∈z):=by
 have e:(eI xs (o6 sp)).isSome=true↔sp∈z:=by
  rw[dc,h];exact⟨λhm=>by
   obtain⟨a,ha,e⟩:=List.mem_map.mp hm;rw[<-dw e];exact ha,λhm=>List.mem_map.mpr ⟨sp,hm,rfl⟩⟩
 by_cases hz:sp∈z
 ·rw[abb hz];exact e.mpr hz
 ·rw[aaW hz];cases hb:(eI xs (o6 sp)).isSome with
  |false=>rfl
  |true=>exact absurd (e.mp hb) hz
def xO(h:xs.map (·.1)=z.map o6)(hn:sp∉z)(a:Addr)(v:V):(fB xs (o6 sp) a v).map (·.1)=(z++[sp]).map o6:=by
 rw[jF,aaR,h,aaX]
 ·rfl
 ·rw[h];intro hm;obtain⟨b,hb,e⟩:=List.mem_map.mp hm;exact hn (dw e▸hb)
theorem fF{R:aP->V->Prop}{as:List aP}{a:aP}(h:g_ R (as++[a]) us):∃ws v,us=ws++[v]/\g_ R as ws/\R a v:=by
 induction as generalizing us with
 |nil=>
  cases h with
  |cons h1 h2=>
   cases h2;exact⟨[],_,rfl,.nil,h1⟩
 |cons b as ih=>
  cases h with
  |cons h1 h2=>
   obtain⟨ws,v,rfl,h3,h4⟩:=ih h2;exact⟨_::ws,v,rfl,.cons h1 h3,h4⟩
variable{P:Program}{w:World}{K:W.Frag}{mg:Str->Option Value}{base:Heap}{T:Rx}
def yc(X:Tx K mg T):i6 P w K mg base A6 1 T.Lg T.J1 ["self", "ring"] (ww K T.f_ T.Lg):=by
 refine X.WI.Dy zT (λvs H Q E h=>?_) (λm_ A outer s H vs Q E hr h=>?_)
 ·obtain⟨_,_,_,_,_,rfl,_⟩:=h;rfl
 obtain⟨e,l,t,xs,sl,rfl,rg,he,hl,q⟩:=h;refine⟨_,(ai (xJ rfl (qv 0) (bf kq rfl X.z_list aci (b_ (qv 1) ae)))),?_⟩;dsimp only[cg];refine⟨_,rfl,l,_,rfl,.inl (d9.of hl),λL hL=>?_⟩;have ne:e≠L:=λz=>by rw[z,hL]at he;cases he
 refine⟨_,rfl,e,T.f_,T.Lg,t,sl,rfl,rfl,rg,by rw[al ne];exact he,λdx IK=>?_⟩;have nd:dx≠L:=λz=>by rw[z,aa]at IK;cases IK
 exact q L dx hL (by rw[al nd]at IK;exact IK) (abF nd)
theorem rV(X:Tx K mg T):i6 P w K mg base (Lr P w) 3 T.ZE T.Kg ["graph", "start", "looked_at", "settled"] (ml P w T.f_):=by
 have Wl:=yc (P:=P) (w:=w) (base:=base) X;refine X.Ou._x Fh (λvs H Q E h=>?_) (λm_ A outer s H vs Q E hr h=>?_)
 ·obtain⟨_,_,_,_,_,_,_,_,_,_,_,_,rfl,_⟩:=h;rfl
 obtain⟨g,la,se,p,sp,gx,vs,G,xl,c,xz,z,rfl,gs,A5,hp,LY,E8,cf,FG,Hw,hz,ds,Xn,QQ,ngl,ngs,q,qx⟩:=h;refine⟨_,(ag (au (i:=4) Fh.nd rfl oI1 (aR (b_ (qv 1) ae))) (ag (iH (κ:=bD _ _) hr.w_ (qv 2) (qv 1) af) (ai (iG ac1 (uH (qv 4) (λ_=>rfl)) (ag (au (i:=5) Fh.nd rfl oI1 (aj aO (qv 4) (xM qo af))) (ai (bz (aE bS (fN (κ:=bD _ _) hr.w_ (qv 2) (qv 5)) (aB av rfl X.z_len aa6 (q_ (fN (κ:=bD _ _) hr.w_ (qv 0) (qv 5)) ae)) (aS _)) (ag (iH (κ:=bD _ _) hr.w_ (qv 3) (qv 5) cJ) (ai (bK (cI aaL abj abi cO (qv 4))))) (ag (au (i:=6) Fh.nd rfl oI1 (aj aO (fN (κ:=bD _ _) hr.w_ (qv 0) (qv 5)) (fN (κ:=bD _ _) hr.w_ (qv 2) (qv 5)))) (ag (xK (qv 2) (qv 5) (Cc (κ:=bD _ _) hr.w_) af AT (BK (κ:=bD _ _) hr.w_)) (ai (bz (aE (gy (κ:=bD _ _) hr.w_) (qv 6) (qv 2) rfl) (ag (bK (eL aaL abo abn bo (qv 4) (b_ (qv 6) ae))) (ai (iH (κ:=bD _ _) hr.w_ (qv 2) (qv 6) af))) (ai (bz (aE (gy (κ:=bD _ _) hr.w_) (qv 6) (qv 3) rfl) (ai (rF (EX:=λdx H'=>E (.ref T.f_) (some dx) H') Wl hr X.DF X.VJ rfl rfl rfl X.m_Ring (q_ (bQ eZ (qv 4) (cw (eL aaL PySem.F.slot_list_index PySem.F.type_list_index (yq hr.w_) (qv 4) (b_ (qv 6) ae))) cx) ae) qf)) aK))))))))))))),?_⟩;dsimp only[cg];have hS:∀x∈[la,se],∃o,H x=some (ce x o):=λx hx=>by
  rcases List.mem_cons.mp hx with rfl|hx
  ·exact er E8
  ·rw[List.mem_singleton.mp hx];exact er Hw
 have gS:g∉[la,se]:=by simp[ngl,ngs]
 refine⟨_,rfl,Z1,λTr hTr=>?_⟩;have s0:=ac hTr (.lst [p]);have hT0:=aa (H:=H) (a:=Tr) (o:=.lst [p]);have JK:=E8.same s0;have Ig:=Hw.same s0;have JB:=A5.same (am s0);generalize upd H Tr (.lst [p])=H0 at s0 hT0 JK Ig JB⊢;have lxl:=FG.len E8;obtain⟨b,b',rfl,_⟩:=id A5;refine⟨_,rfl,_,rfl,la,b,_,o6 sp,rfl,rfl,JK,cj JB,abz (show xl.length<=1000 by lia) (by decide),λo1 W'=>?_⟩;have PU:=DH.put JK (cj JB) W';obtain⟨ola,EW⟩:=er JK;have hT1:=fO (o':=o1) EW hT0;have PF:=Ig.LG (o2:=o1) EW (abF QQ);have PB:=JB.same (tP (o2:=o1) EW);have k1:Kp [la,se] H (upd H0 la (ce la o1)):=(Kp.of s0).upd (by simp);generalize upd H0 la (ce la o1)=H1 at PU hT1 PF PB k1⊢;clear hT0 JK Ig JB W' EW s0;refine⟨λm σ H'=>∃(tr:List aP)(tv:List V)(xl:SR)(c:aP->Option Nat)(xz:SR)(zz:List aP)(x5 x6:Option V),m=left G vs c zz/\σ=[some (.ref g),some (.ref b),some (.ref la),some (.ref se),some (.ref Tr),x5,x6]/\Kp [la,se] H H'/\DH (bD P w) H' la xl/\MC xl c/\MB xl vs/\DH (bD P w) H' se xz/\xz.map (·.1)=zz.map o6/\WK.DS G vs tr c zz/\H' Tr=some (.lst tv)/\g_ (j_ H') tr tv/\(sp∈tr\/sp∈zz)/\∀x∈z,x∈zz,
  ⟨_,[sp],[.ref b],_,_,xz,z,none,none,rfl,rfl,k1,PU,cf.put sp b 0,FG.put b _ hp,PF,hz,ds.start hp Xn,hT1,.cons PB .nil,.inl (by simp),λ_ h=>h⟩,?_⟩
 clear k1 PU PF hT1 PB E8 Hw cf FG hz ds lxl Xn xl c xz;rintro m σ H2 ⟨tr,tv,xl,c,xz,zz,x5,x6,rfl,rfl,kp,E8,cf,FG,Hw,hz,ds,hT,Xm,L',Xi⟩;have XD:=gs.kp kp hS gS;have lxl:=FG.len E8;have lzz:zz.length<=vs.length:=eD ds.Pd ds.uz;have ltr:tr.length<=vs.length:=eD ds.Gx ds.ut;have ltv:=Xm.len;have lxz:xz.length=zz.length:=by have:=abk List.length hz;simpa using this
 obtain⟨ola,EW⟩:=er E8;obtain⟨ose,Ma⟩:=er Hw;refine⟨_,rfl,_,.inl ⟨_,d9.of hT,rfl⟩,?_⟩;by_cases tne:tr=[]
 ·subst tne;cases Xm;refine mY rfl ?_;refine q xl c xz zz H2 kp E8 cf FG Hw hz ds ?_ Xi;rcases L' with h|h
  ·exact nomatch h
  ·exact h
 obtain⟨t,v,rfl⟩:=bY (l:=tr) (List.length_pos_iff.mpr tne);obtain⟨ws,u,rfl,EA,hu⟩:=fF Xm;refine wP (by cases ws<;>rfl) ⟨_,λk_ QB h=>h,?_⟩;have vm:v∈vs:=ds.ut v (by simp);have cs:(c v).isSome=true:=(ds.lk v).mpr (.inl (by simp));obtain⟨k,E9⟩:=Option.isSome_iff_exists.mp cs;have vz:v∉zz:=ds.Rj v (by simp);obtain⟨bu,bu',rfl,_⟩:=id hu;have ku:=cj hu;refine⟨_,rfl,_,rfl,Tr,_,_,.ref bu,rfl,rfl,d9.of hT,kE ws _,?_⟩;dsimp only[s_];obtain⟨lv,us,EB,hE,v_⟩:=XD.get vm;have Ei:=v_.len;have Xv:eI xl (o6 v)=some (.int (k:Int)):=by rw[cf v,E9];rfl
 refine⟨_,rfl,_,rfl,la,bu,_,o6 v,_,rfl,rfl,E8,ku,Xv,_,rfl,_,rfl,g,bu,_,o6 v,_,rfl,rfl,XD.d,ku,EB,lv,_,rfl,.inl (d9.of hE),rfl,_,rfl,?_⟩;try dsimp only
 rw[dI];refine cL (λhk=>?_) (λhk=>?_)
 ·refine⟨_,rfl,_,rfl,se,bu,_,o6 v,rfl,rfl,Hw,ku,abz (show xz.length<=1000 by lia) (by decide),λo3 W_=>?_⟩;have GR:=DH.put Hw ku W_;have FJ:=fO (o':=o3) Ma hT;have Ek:=E8.LG (o2:=o3) Ma QQ;have S9:=ci EA (tP (o2:=o3) Ma);have k3:Kp [la,se] H (upd H2 se (ce se o3)):=kp.upd (by simp);generalize upd H2 se (ce se o3)=H3 at GR FJ Ek k3 S9⊢;refine⟨_,rfl,.inl ⟨rfl,_,d9.of FJ⟩,Tr,_,.ref bu,rfl,rfl,FJ,by simp,?_⟩;refine⟨_,cb vm vz,t,ws,xl,c,_,zz++[v],_,_,rfl,rfl,k3.RD hTr,Ek.Fs FJ,cf,FG,GR.Fs FJ,xO hz vz _ _,ds.done E9 (by lia),by rw[aa,abh],ci S9 (tL FJ),?_,λx hx=>abe _ (Xi x hx)⟩;rcases L' with h|h
  ·rcases List.mem_append.mp h with h|h
   ·exact .inl h
   ·exact .inr (aaV _ h)
  ·exact .inr (abe _ h)
 ·have Xq:k<(G v).length:=by
   have:=ds.cl v k E9;lia
  obtain⟨e,he⟩:=ax Xq;have em:e∈vs:=gs.sub v vm e (aaD he);obtain⟨x,hx,hex⟩:=bw v_ he;obtain⟨bx,bx',rfl,_⟩:=id hex;refine⟨_,rfl,_,rfl,g,bu,_,o6 v,_,rfl,rfl,XD.d,ku,EB,_,rfl,_,rfl,la,bu,_,o6 v,_,rfl,rfl,E8,ku,Xv,lv,_,_,.ref bx,rfl,rfl,d9.of hE,aV hx,?_⟩;dsimp only[s_];refine⟨_,rfl,_,rfl,la,bu,_,o6 v,_,rfl,rfl,E8,ku,Xv,_,_,rfl,rfl,la,bu,_,o6 v,rfl,rfl,E8,ku,abz (show xl.length<=1000 by lia) (by decide),λo3 W_=>?_⟩;have Ek:=DH.put E8 ku W_;dsimp only at Ek;rw[show((k:Int)+1)=((k+1:Nat):Int)by lia]at Ek;have cf3:=cf.put v bu (k+1);have Ph:=FG.put (sp:=v) bu (.int ((k+1:Nat):Int)) vm;have FJ:=fO (o':=o3) EW hT;have GR:=Hw.LG (o2:=o3) EW (abF QQ);have JA:=ci Xm (tP (o2:=o3) EW);have JM:=hex.same (tP (o2:=o3) EW);have k3:Kp [la,se] H (upd H2 la (ce la o3)):=kp.upd (by simp);generalize upd H2 la (ce la o3)=H3 at Ek FJ GR JA JM k3⊢;clear W_ E8 hT Hw kp XD hE Xv EW Ma v_ hu ku hex EB;have kx:=cj JM;have lxl3:=Ph.len Ek;have less:=di (E:=G) (U:=vs) (c:=c) (z:=zz) vm E9 Xq;refine⟨_,rfl,_,rfl,la,bx,_,o6 e,rfl,rfl,Ek,kx,_,rfl,?_⟩;rw[cf3.has e];have sh:(put c v (k+1) e).isSome=(c e).isSome:=by
   by_cases ev:e=v
   ·subst ev;rw[aT,cs];rfl
   ·rw[bF ev]
  rw[sh];cases UK:c e with
  |none=>
   refine wP rfl ?_;refine⟨_,rfl,.inl ⟨rfl,_,d9.of FJ⟩,_,rfl,Tr,_,.ref bx,rfl,rfl,FJ,abz (show(ws++[V.ref bu]).length<=1000 by lia) (by decide),?_⟩;have k4:Kp [la,se] H (upd H3 Tr (.lst (ws++[V.ref bu]++[.ref bx]))):=k3.RD hTr;have hT4:=aa (H:=H3) (a:=Tr) (o:=.lst (ws++[V.ref bu]++[.ref bx]));have Mc:=Ek.Fs (o:=.lst (ws++[V.ref bu]++[.ref bx])) FJ;have To:=GR.Fs (o:=.lst (ws++[V.ref bu]++[.ref bx])) FJ;have Tg:=ci (JA.snoc JM) (tL (o:=.lst (ws++[V.ref bu]++[.ref bx])) FJ);have hex4:=JM.same (tL (o:=.lst (ws++[V.ref bu]++[.ref bx])) FJ);generalize upd H3 Tr (.lst (ws++[V.ref bu]++[.ref bx]))=H4 at k4 hT4 Mc To Tg hex4⊢;refine⟨_,rfl,_,rfl,la,bx,_,o6 e,rfl,rfl,Mc,cj hex4,abz (show _<=1000 by lia) (by decide),λo5 ob5=>?_⟩;have hla5:=DH.put Mc (cj hex4) ob5;obtain⟨ola4,JJ⟩:=er Mc;have hT5:=fO (o':=o5) JJ hT4;have hse5:=To.LG (o2:=o5) JJ (abF QQ);have htv5:=ci Tg (tP (o2:=o5) JJ);have pn:put c v (k+1) e=none:=by
    have:e≠v:=λz=>by rw[z,E9]at UK;cases UK
    rw[bF this];exact UK
   refine⟨left G vs (put (put c v (k+1)) e 0) zz,by rw[cD pn];exact less,t++[v]++[e],_,_,_,xz,zz,_,_,rfl,rfl,k4.upd (by simp),hla5,cf3.put e bx 0,Ph.put bx _ em,hse5,hz,ds.push E9 he UK em,hT5,htv5,?_,Xi⟩;rcases L' with h|h
   ·exact .inl (abe _ h)
   ·exact .inr h
  |some k'=>
   refine mY rfl ?_;refine⟨_,rfl,_,rfl,se,bx,_,o6 e,rfl,rfl,GR,kx,_,rfl,?_⟩;rw[lK hz e];refine iW (λhn=>?_) (λhzi=>?_)
   ·have etr:e∈t++[v]:=by
     rcases(ds.lk e).mp (by rw[UK];rfl)with h|h
     ·exact h
     ·exact absurd h hn
    obtain⟨i,hi⟩:=abm etr;refine⟨_,rfl,_,rfl,.inl ⟨rfl,_,d9.of FJ⟩,_,rfl,Tr,_,.ref bx,_,e,i,rfl,rfl,d9.of FJ,JA,JM,hi,λm hm hy=>?_,_,rfl,Tr,_,rfl,d9.of FJ,λB hB=>?_⟩
    ·have:=(List.getElem?_inj (ao hy) ds.Gx).mp (hy.trans hi.symm);lia
    ·rw[cZ];have s4:=ac hB (.lst ((ws++[V.ref bu]).drop i));refine⟨B,_,rfl,aa,λL dx hL IK LX=>?_⟩;have s5:=ac hL (.lst ((ws++[V.ref bu]).drop i));have hdx':upd (upd H3 B (.lst ((ws++[V.ref bu]).drop i))) L (.lst ((ws++[V.ref bu]).drop i)) dx=none:=by rw[al (abF LX)];exact IK
     have s6:=ac hdx' (.xd [("ring",.ref L)]);exact qx dx L ((t++[v]).drop i) _ _ (((k3.same s4).same s5).same s6) aa (s6 _ _ aa) (ci (iU i JA) (am ((s4.trans s5).trans s6))) (ds.ring E9 he hi) λx hx=>ds.ut x (adC hx)
   ·exact⟨_,less,t++[v],_,_,_,xz,zz,_,_,rfl,rfl,k3,Ek,cf3,Ph,GR,hz,ds.skip E9 he hzi,FJ,JA,L',Xi⟩
structure Ord(E:aP->List aP)(vs z:List aP):Prop where
 nd:z.Nodup
 all:∀v∈vs,v∈z
 sub:∀v∈z,v∈vs
 ord:∀(i:Nat) p,z[i]?=some p->∀e∈E p,e∈z.take i
inductive jv(P:Program)(w:World)(R:Addr)(as:List V)(H:Hp)(Q:VK)(X:XK):Prop
 |mk (g:Addr) (gx:SR) (vs:List aP) (E:aP->List aP):(as=[.ref g])->GS P w H g gx vs E->vs.length<=500->(∀r z us H',a_ H H'->H r=none->H' r=some (.lst us)->g_ (j_ H') z us->Ord E vs z->Q (.ref r) H')->(∀dx L r us H',a_ H H'->H' dx=some (.xd [("ring",.ref L)])->H' L=some (.lst us)->g_ (j_ H') r us->B6 E r->(∀x∈r,x∈vs)->X (.ref R) (some dx) H')->jv P w R as H Q X
theorem mW{H:Hp}:∀{xs:SR}{z:List aP},xs.map (·.1)=z.map o6->(∀x∈xs,w5 H x.1 x.2.1)->g_ (j_ H) z (xs.map λx=>.ref x.2.1)
 |[],[],_,_=>.nil
 |[],a::z,h,_=>by simp at h
 |x::xs,[],h,_=>by simp at h
 |x::xs,a::z,h,k=>by obtain⟨h1,h2⟩:=aca (show x.1::xs.map (·.1)=o6 a::z.map o6 from h);refine .cons (qQ ?_) (mW h2 λy hy=>k y (aa9 _ hy));rw[<-h1];exact k x abd
def pG(X:Tx K mg T):i6 P w K mg base (Lr P w) 4 T.ZM T.Ko ["graph"] (jv P w T.f_):=by
 have Wy:=rV (P:=P) (w:=w) (base:=base) X;refine X.Oz._x Fj (λvs H Q E h=>?_) (λm_ A outer s H vs Q E hr h=>?_)
 ·obtain⟨_,_,_,_,rfl,_⟩:=h;rfl
 obtain⟨g,gx,vs,G,rfl,gs,LY,q,qx⟩:=h;refine⟨_,(ag (au (i:=1) Fj.nd rfl oI1 (mD (κ:=bD _ _))) (ag (au (i:=2) Fj.nd rfl oI1 (mD (κ:=bD _ _))) (ag (bh ac1 rfl (uK (κ:=bD _ _) (qv 0)) (ay (i:=3) Fj.nd rfl oI1) (ai (bz (aE (gy (κ:=bD _ _) hr.w_) (qv 3) (qv 2) rfl) (ai (bK (aw Wy hr rfl X.Sw X.Ou.kp X.VX .nil mH (b_ (qv 0) (b_ (qv 3) (b_ (qv 1) (b_ (qv 2) ae))))))) aK))) (ai (aG (uM (κ:=bD _ _) rfl rfl X.z_list (qv 2))))))),?_⟩;dsimp only[cg];intro la o1 E8 W';have s1:=ac E8 (ce la o1);have F1:DH (bD P w) (upd H la (ce la o1)) la []:=DH.new (H:=H) W';generalize upd H la (ce la o1)=H1 at s1 F1⊢;dsimp only[s_];intro se o2 Hw ob2;have s2:=ac Hw (ce se o2);have F2:DH (bD P w) (upd H1 se (ce se o2)) se []:=DH.new (H:=H1) ob2;have WM:=F1.same s2;have Ig:H se=none:=s1.free Hw;have QQ:la≠se:=λz=>by obtain⟨o,e⟩:=er F1;rw[z,Hw]at e;cases e
 generalize upd H1 se (ce se o2)=H2 at s2 F2 WM⊢;dsimp only[s_];have C7:=s1.trans s2;obtain⟨og0,Ik⟩:=er gs.d;have ngl:g≠la:=λz=>by rw[z,E8]at Ik;cases Ik
 have ngs:g≠se:=λz=>by rw[z,Ig]at Ik;cases Ik
 have up:∀{Ha Hb:Hp},a_ H Ha->Kp [la,se] Ha Hb->a_ H Hb:=λsa kb b o e=>kb b o (by
  have h1:b≠la:=λz=>by rw[z,E8]at e;cases e
  have h2:b≠se:=λz=>by rw[z,Ig]at e;cases e
  simp[h1,h2]) (sa b o e)
 refine⟨_,rfl,g,_,rfl,gs.d.same C7,λog hog=>?_⟩;have hog':H g=some (ce g og):=by have:=C7 _ _ Ik;rw[hog]at this;rw[Ik,this]
 have lgx:gx.length=vs.length:=gs.h.len;have Iw:∀(i:Nat) a,(gx.map (·.2.1))[i]?=some a->∃v,vs[i]?=some v/\w5 H (o6 v) a:=λi a h=>by
  rw[aaK]at h;cases hx:gx[i]? with
  |none=>rw[hx]at h;cases h
  |some x=>
   rw[hx]at h;cases h;have e:(gx.map Prod.fst)[i]?=(vs.map o6)[i]?:=by rw[gs.h.keys]
   rw[aaK,aaK,hx]at e;cases hv:vs[i]? with
   |none=>rw[hv]at e;cases e
   |some v=>
    rw[hv]at e;refine⟨v,rfl,?_⟩;rw[<-(show x.1=o6 v from aa0 e)];exact gs.d.2 x (aaD hx)
 refine vL (ks:=gx.map (·.2.1)) (λi σ H'=>∃(x3:Option V)(xl:SR)(c:aP->Option Nat)(xz:SR)(z:List aP),σ=[some (.ref g),some (.ref la),some (.ref se),x3]/\a_ H H'/\DH (bD P w) H' la xl/\MC xl c/\MB xl vs/\DH (bD P w) H' se xz/\xz.map (·.1)=z.map o6/\WK.DS G vs [] c z/\∀v∈vs.take i,v∈z)
  ⟨none,[],λ_=>none,[],[],rfl,C7,WM,(λsp=>rfl),(λk hk=>nomatch hk),F2,rfl,WK.DS.nil,λv hv=>by rw[ac9]at hv;exact nomatch hv⟩ (by rintro i σ H' _ ⟨_,_,_,_,_,_,sm,_⟩;exact sm _ _ hog') ?_ ?_
 ·rintro i a σ H3 hx ⟨x3,xl,c,xz,z,rfl,sm,FL,cf,FG,FZ,hz,ds,all⟩;obtain⟨v,hv,kv⟩:=Iw i a hx;have vm:=aaD hv;have kv3:w5 H3 (o6 v) a:=kv.same (am sm);have tk:vs.take (i+1)=vs.take i++[v]:=aH hv;refine⟨_,rfl,_,rfl,se,a,_,o6 v,rfl,rfl,FZ,kv3,_,rfl,?_⟩;rw[lK hz v];refine iW (λhn=>?_) (λDT=>?_)
  ·refine⟨_,rfl,_,rfl,_,rfl,_,rfl,g,la,se,.ref a,v,gx,vs,G,xl,c,xz,z,rfl,gs.same sm,qQ kv3,vm,LY,FL,cf,FG,FZ,hz,ds,hn,QQ,ngl,ngs,λRy c' WR z' H4 k4 FL' cf' kin' FZ' Q0 z_ pz zz=>?_,λdx L r us H4 k4 IK hL hr rg rs=>qx dx L r us H4 (up sm k4) IK hL hr rg rs⟩;refine⟨_,Ry,c',WR,z',rfl,up sm k4,FL',cf',kin',FZ',Q0,z_,λu hu=>?_⟩;rw[tk]at hu;rcases List.mem_append.mp hu with h|h
   ·exact zz u (all u h)
   ·rw[List.mem_singleton.mp h];exact pz
  ·refine⟨_,xl,c,xz,z,rfl,sm,FL,cf,FG,FZ,hz,ds,λu hu=>?_⟩;rw[tk]at hu;rcases List.mem_append.mp hu with h|h
   ·exact all u h
   ·rw[List.mem_singleton.mp h];exact DT
 ·rintro σ H3 ⟨x3,xl,c,xz,z,rfl,sm,FL,cf,FG,FZ,hz,ds,all⟩;rw[aaG,lgx,abO]at all;refine⟨_,rfl,se,_,rfl,FZ,λr y_=>?_⟩;have s4:=ac y_ (.lst (xz.map λx=>V.ref x.2.1));exact q r z _ _ (sm.trans s4) (sm.free y_) aa (ci (mW hz FZ.2) (am s4)) ⟨ds.Pd,all,ds.uz,ds.ord⟩
variable{g:Gr}{t:Tr}
theorem qI(gt:GT g t)(h:sp∈aM g t):sp.1.length<=60/\wd sp.2:=by obtain⟨s,hs⟩:=gt.ft;obtain⟨u,hu,hn⟩:=p6.mp h;have:=fS hu;have:=cY t;have:=gt.sz;exact⟨by lia,(gt.W.sw _ (cG gt.G hs hu).1).2 _ hn⟩
def xb(g:Gr)(f:Fm)(q:Pr):Prop:=(q.1=0/\q.2∈db (Er g f.hd))\/∃(i:Nat)(b:Str),f.br[i]?=some b/\q.1=(i:Int)+1/\q.2∈db (Er g b)
def xk(g:Gr):Prop:=∀f∈g.fm,∀r∈f.ru,∀q∈named r.tm,xb g f q
theorem xw(G:EK g){u:Tr}{s:Str}{p:List Int}{q:Pr}(h:fit (n9 g) t=some s)(hu:atT p t=some u)(hq:xb g (Ds g u.nm) q):bM p q∈aM g t:=by
 rcases hq with⟨e,hn⟩|⟨i,b,hb,e,hn⟩
 ·refine p6.mpr ⟨u,?_,hn⟩;show atT (if q.1=0 then p else p++[q.1]) t=some u;rw[aaY e];exact hu
 ·obtain⟨_,_,fb⟩:=bT G h hu;have hl:=fQ fb;obtain⟨c,hc⟩:=ax (xs:=u.bs) (i:=i) (by have:=ao hb;lia);obtain⟨b',h1,h2,h3⟩:=dN G h hu hc;rw[hb]at h1;cases h1;refine p6.mpr ⟨c,?_,by rw[h3];exact hn⟩;show atT (if q.1=0 then p else p++[q.1]) t=some c;rw[aaR (by lia),e];exact lV hu hc
def eP(gt:GT g t)(nm:xk g)(h:sp∈aM g t):∀e∈aX g t sp,e∈aM g t:=by
 obtain⟨s,hs⟩:=gt.ft;rcases jf gt.G hs h with e|⟨p,u,r,hu,hr,rfl⟩
 ·rw[e]
  exactλx hx=>nomatch hx
 ·obtain⟨_,e⟩:=lO gt.G hs hu hr;rw[e];intro x hx;obtain⟨q,hq,rfl⟩:=List.mem_map.mp hx;exact xw gt.G hs hu (nm _ (bT gt.G hs hu).1 r hr q hq)
theorem fX(gt:GT g t):(aM g t).length<=240:=by obtain⟨s,hs⟩:=gt.ft;have:=fY gt.G hs;have:=gt.sz;lia
inductive zQ(P:Program)(w:World)(vs:List V)(H:Hp)(Q:VK)(e0:XK):Prop
 |mk (g:Gr) (t:Tr) (vg vt:V):(vs=[vg,vt])->o7 H g vg->GT g t->i3 H t vt->xk g->(∀d gx H',a_ H H'->GS P w H' d gx (aM g t) (aX g t)->Q (.ref d) H')->zQ P w vs H Q e0
inductive zP(P:Program)(w:World)(R:Addr)(vs:List V)(H:Hp)(Q:VK)(X:XK):Prop
 |mk (g:Gr) (t:Tr) (vg vt:V):(vs=[vg,vt])->o7 H g vg->GT g t->i3 H t vt->xk g->(∀r z us H',a_ H H'->H r=none->H' r=some (.lst us)->g_ (j_ H') z us->Ord (aX g t) (aM g t) z->Q (.ref r) H')->(∀dx L r us H',a_ H H'->H' dx=some (.xd [("ring",.ref L)])->H' L=some (.lst us)->g_ (j_ H') r us->B6 (aX g t) r->(∀x∈r,x∈aM g t)->X (.ref R) (some dx) H')->zP P w R vs H Q X
def Wa(D:Addr)(g:Gr)(t:Tr)(H:Hp)(sp:aP)(v:V):Prop:=∃p a l ws,v=.ref p/\H p=some (.tup [.ref a,.ref l])/\j_ H sp (.ref a)/\H l=some (.lst ws)/\g_ (j_ H) (aX g t sp) ws/\l≠D
def Wa.off{D:Addr}:EJ D (Wa D g t):=λH H' acc b v d k ⟨p,a,l,ws,h1,h2,h3,h4,h5,h6⟩=>by have st:d_ H H':=λc ys e=>k c _ (λz=>by rw[z,d]at e;cases e) e;exact⟨p,a,l,ws,h1,st _ _ h2,h3.same st,k l _ h6 h4,ci h5 st,h6⟩
theorem rh{P:Program}{w:World}{D:Addr}{g:Gr}{t:Tr}{H:Hp}:∀{w4:List aP}{us:List V},g_ (Wa D g t H) w4 us->∃rows:SR,zp (bD P w) H us rows/\rows.map (·.1)=w4.map o6/\∀(sp:aP) x,x∈rows->x.1=o6 sp->∃l ws,x.2.2=.ref l/\H l=some (.lst ws)/\g_ (j_ H) (aX g t sp) ws
 |_,_,.nil=>⟨[],.nil,rfl,λsp x hx=>nomatch hx⟩
 |sp::w4,u::us,.cons ⟨p,a,l,ws,h1,h2,h3,h4,h5,_⟩ r=>by
  obtain⟨rows,r1,r2,r3⟩:=rh (P:=P) (w:=w) r;refine⟨(o6 sp,a,.ref l)::rows,.cons ⟨p,h1,h2,cj h3⟩ r1,by rw[aa7,aa7,r2],λIC x hx e=>?_⟩;rcases List.mem_cons.mp hx with rfl|hx
  ·have:IC=sp:=(dw e).symm;subst this;exact⟨l,ws,rfl,h4,h5⟩
  ·exact r3 IC x hx e
theorem tZ:∀(rows xs:SR),((xs++rows).map (·.1)).Nodup->wc xs rows=xs++rows
 |[],xs,_=>by simp[wc]
 |x::rows,xs,h=>by
  have hn:x.1∉xs.map (·.1):=λhm=>by rw[aaX,aa7]at h;exact(List.nodup_append.mp h).2.2 x.1 hm x.1 abd rfl
  have e:fB xs x.1 x.2.1 x.2.2=xs++[x]:=by unfold fB;rw[aaR (λz=>hn ((dc xs x.1).mp z))]
  show wc (fB xs x.1 x.2.1 x.2.2) rows=_;rw[e,tZ rows (xs++[x]) (by rw[abr];exact h),abr];rfl
theorem AK(X:Tx K mg T):i6 P w K mg base A6 71 T.ZQ T.Kt ["grammar", "tree"] (zQ P w):=by
 have Wo:=uX (P:=P) (w:=w) (base:=base) X;have Wt:=(ve (P:=P) (w:=w) (base:=base) X).mono (show 20<=70 by decide);refine X.OC.Dy Ab (λvs H Q E h=>?_) (λm_ A outer s H vs Q E hr h=>?_)
 ·obtain⟨_,_,_,_,rfl,_⟩:=h;rfl
 obtain⟨g,t,vg,vt,rfl,hg,gt,ht,nm,q⟩:=h;refine⟨_,(ai (aG (bf (pZ (κ:=bD _ _) rfl hr.w_ (nX hr.w_)) rfl X.z_dict adq (MP (bG (ys:=["grammar", "tree"]) (js:=[0,1]) rfl rfl (bA (aw Wo hr rfl X.Sl X.Og.kp X.VN .nil bg (b_ (qv 0) (b_ (qv 1) ae)))) (λ_ _ _ _ _=>bE) (λ_ _ _ _ _=>(aq (b_ (qv 0) (Dw (aw Wt hr rfl X.Sq X.Ol.kp X.VR .nil wI (b_ (qv 1) (b_ (qv 2) (b_ (qv 0) ae)))) ae))))) ae)))),?_⟩;dsimp only[cg];obtain⟨sS,hsS⟩:=gt.ft;have SU:=fX gt;refine⟨_,rfl,_,rfl,g,t,vg,vt,rfl,hg,gt,ht,λD0 us H1 s1 hD0 v_ A5=>⟨D0,rfl,⟨_,d9.of v_⟩,λD hD=>?_⟩⟩;have Ei:=A5.len;refine gM (K:=K) (xs:=us) (as:=aM g t) (R:=Wa D g t) Wa.off (bO (by lia)) (by lia) (d9.of v_) hD (λi x sp G1 hx hb sm ⟨acc,Iq⟩ Q' k=>?_) (λys G1 s2 Dz Ez=>?_)
 ·have hm:=aaD hb;have so:=qI gt hm;have DG:j_ G1 sp x:=by
   obtain⟨x',e1,e2⟩:=bw A5 hb;rw[hx]at e1;cases e1;exact e2.same (am sm)
  obtain⟨bx,bx',rfl,_⟩:=id DG;have sA:=s1.trans sm;refine⟨_,rfl,_,rfl,_,rfl,_,rfl,g,t,vg,vt,.ref bx,sp,rfl,hg.same (am sA),gt,i3.same (am sA) _ ht,DG,vv so.2,by have:=so.1;lia,λ_ L ws G2 s3 nL hL EA=>?_,λh=>absurd hm h⟩;refine⟨Z2,λp hp=>?_⟩;have s4:=ac hp (.tup [.ref bx,.ref L]);have nLD:L≠D:=λz=>by rw[z,Iq]at nL;cases nL
  exact k _ _ (s3.trans s4) ⟨p,bx,L,ws,rfl,aa,DG.same (am (s3.trans s4)),s4 _ _ hL,ci EA (am s4),nLD⟩
 ·obtain⟨rows,r1,r2,r3⟩:=rh (P:=P) (w:=w) Ez;have QU:=Ez.len;refine⟨D,ys,rows,rfl,Dz,by lia,r1,λd o hd ob=>?_⟩;have nd:(rows.map (·.1)).Nodup:=by
   rw[r2];exact List.Pairwise.map o6 (λa b h e=>h (dw e)) (eV gt.G hsS)
  rw[tZ rows [] nd,ab2]at ob;have s3:=ac hd (ce d o);have keys:∀x∈rows,w5 G1 x.1 x.2.1:=λx hx=>by
   have:∀{us:List V}{rows:SR},zp (bD P w) G1 us rows->∀x∈rows,w5 G1 x.1 x.2.1:=λ{us rows} h=>by
    unfold zp at h;induction h with
    |nil=>intro x hx;exact nomatch hx
    |cons e _ ih=>
     intro x hx;obtain⟨_,_,_,e3⟩:=e;rcases List.mem_cons.mp hx with rfl|hx
     ·exact e3
     ·exact ih x hx
   exact this r1 x hx
  refine q d rows _ ((s1.trans s2).trans s3) ⟨⟨⟨o,aa,ob⟩,λx hx=>(keys x hx).same (am s3)⟩,⟨r2,λsp x hx e=>?_⟩,λsp hs=>eP gt nm hs⟩;obtain⟨l,ws,e1,e2,e3⟩:=r3 sp x hx e;exact⟨l,ws,e1,s3 _ _ e2,λ_=>ci e3 (am s3),λz=>absurd trivial z⟩
theorem AI(X:Tx K mg T):i6 P w K mg base (Lr P w) 72 T.Zu T.J9 ["grammar", "tree"] (zP P w T.f_):=by
 have WH:=AK (P:=P) (w:=w) (base:=base) X;have WD:=(pG (P:=P) (w:=w) (base:=base) X).mono (show 4<=71 by decide);refine X.Oj._x zV (λvs H Q E h=>?_) (λm_ A outer s H vs Q E hr h=>?_)
 ·obtain⟨_,_,_,_,rfl,_⟩:=h;rfl
 obtain⟨g,t,vg,vt,rfl,hg,gt,ht,nm,q,qx⟩:=h;refine⟨_,(ai (aG (aw WD hr rfl X.SD X.Oz.kp X.V2 .nil mH (Dw (aw WH hr rfl X.SH X.OC.kp X.V5 .nil bg (b_ (qv 0) (b_ (qv 1) ae))) ae)))),?_⟩;have SU:=fX gt;refine⟨_,rfl,_,rfl,g,t,vg,vt,rfl,hg,gt,ht,nm,λd gx H1 s1 gs=>?_⟩;exact⟨d,gx,_,_,rfl,gs,by lia,λr z us H2 s2 hr hrv hz od=>q r z us H2 (s1.trans s2) (s1.free hr) hrv hz od,λdx L r us H2 s2 h1 h2 h3 rg rs=>qx dx L r us H2 (s1.trans s2) h1 h2 h3 rg rs⟩
def CF{K:W.Frag}:PySem.W.kitOne K (.type "list") (.type "list")=some true:=by with_unfolding_all rfl
variable{X:Cx}
theorem tY:eg X (.builtin "len") (λxs H Q=>∃a ks,xs=[.ref a]/\DS X.prog X.w H a ks/\Q (.int ks.length) H):=by
 intro pins s σ H xs us Q I r h;obtain⟨a,ks,rfl,d,q⟩:=h;obtain⟨u,rfl,ru⟩:=gT r;cases ru;obtain⟨z,ns,vs,vm,dd⟩:=pT I.i4 d;have ty:=dd.typeIs;obtain⟨o,es,ep,ho,hx,hd,he,_,_⟩:=dd;have hsz:es.size=ks.length:=by rw[size_of_entries he];exact(acz vm).symm
 refine Calls.call_function_entry kind_len plain_len entry_len (args_len1 _) ?_;unfold Builtin.«len»;refine aaC (m:=oneArg "len" _) (aaE ?_);refine aaC (m:=callSpecial? (.ref a) (Str.ofString "__len__")) (abR (name:=Str.ofString "__len__") ty F.slot_dict_len
  (abK F.slot_dict_len ty F.entry_dict_len ?_ (F.args_dict_len_1 _)))
 show wpAny _ _ (dictSize a >>= _) _ _ s;unfold dictSize;refine aaC (aaC (adu ho hd (aaE ?_)));show wpAny _ _ (Builtin.Dict.pendingCount a >>= _) _ _ s;refine aaC (wpAny_pendingCount_other ns ?_);refine wpAny_ret_mkInt ?_;rw[show((es.size:Nat):Int)+((0:Nat):Int)=(ks.length:Int)by lia];show wpAny _ _ _ _ _ { s with toks:=s.toks+1 };refine aaC (abu (aaE ?_));refine aaC (wpAny_letGo ?_);show wpAny _ _ (if((ks.length:Nat):Int)<0 then _ else _) _ _ _;rw[aaR (by lia)];show wpAny _ _ (if((ks.length:Nat):Int)>=2 ^ 63 then _ else _) _ _ _;rw[aaR (by rw[adv]at z;lia)];exact aaC (wpAny_mkInt (aaE ⟨_,rfl,.int (ks.length:Int),H,I.tok _,⟨_,rfl⟩,q⟩))
inductive iD(vs:List V)(H:Hp)(Q:VK)(e0:XK):Prop
 |mk (v:V) (sp:aP):(vs=[v])->j_ H sp v->sp.1.length<=1000->(∀H',a_ H H'->Q (.bl true) H')->iD vs H Q e0
inductive jw(P:Program)(w:World)(vs:List V)(H:Hp)(Q:VK)(e0:XK):Prop
 |mk (r d:Addr) (us:List V) (z D6:List aP) (E:aP->List aP) (xs:SR):(vs=[.ref r,.ref d])->H r=some (.lst us)->g_ (j_ H) z us->DS P w H d xs->p9 D6 E Bp H xs->D6.Nodup->D6.length<=500->(∀sp∈D6,sp.1.length<=1000)->(∀sp∈D6,∀e∈E sp,e∈D6)->Ord E D6 z->(∀H',a_ H H'->Q (.bl true) H')->jw P w vs H Q e0
inductive gc(P:Program)(w:World)(vs:List V)(H:Hp)(Q:VK)(e0:XK):Prop
 |mk (r d:Addr) (us:List V) (z D6:List aP) (E:aP->List aP) (xs:SR):(vs=[.ref r,.ref d])->H r=some (.lst us)->g_ (j_ H) z us->DS P w H d xs->p9 D6 E Bp H xs->D6.length<=500->(∀sp∈D6,sp.1.length<=1000)->B6 E z->(∀x∈z,x∈D6)->(∀H',a_ H H'->Q (.bl true) H')->gc P w vs H Q e0
def AX{E:aP->List aP}(h:p9 vs E Bp H xs)(hs:sp∈vs):∃l us,fV xs (o6 sp)=some (.ref l)/\H l=some (.lst us)/\g_ (j_ H) (E sp) us:=by obtain⟨x,hx,e,hv⟩:=ql (h.has hs);obtain⟨l,us,h1,h2,h3,_⟩:=h.vs sp x hx e;exact⟨l,us,by rw[hv,h1],h2,h3 trivial⟩
def wW{P:Program}{w:World}{f:Addr}:DS P w (upd H f (GC P w f [])) f []:=⟨aa,λx hx=>nomatch hx⟩
theorem pI(X:Tx K mg T)(KP:i6 P w K mg base A6 3 T.W8 T.HC ["_law_spot_here"] iD):i6 P w K mg base A6 4 T.ZJ T.Kl ["_law_found", "_law_hang_here"] (jw P w):=by
 refine X.Ox.Dy Fi (λvs H Q E h=>?_) (λm_ A outer s H vs Q E hr h=>?_)
 ·obtain⟨_,_,_,_,_,_,_,rfl,_⟩:=h;rfl
 obtain⟨r,d,us,z,vs,G,xs,rfl,y_,hz,hd,hi,vn,LY,pl,gsub,od,q⟩:=h;refine⟨_,(ag (bz (kO (iF (dA (dy (aB bU rfl X.z_isinstance abl (b_ (qv 0) (b_ (dD rfl X.z_list aci rfl (v:=.ty "list")) ae))))) (jD (aE xX (aB av rfl X.z_len aa6 (b_ (qv 0) ae)) (aB tY rfl X.z_len aa6 (b_ (qv 1) ae)) (aS _))))) (ai (aG cJ)) aK) (ag (au (i:=2) Fi.nd rfl oI1 iI) (ag (bh aa8 rfl (bA (qv 0)) (ay (i:=3) Fi.nd rfl oI1) (ag (bz (kO (iF (dA (dy (aw KP hr rfl X.M6 X.K8.kp X.NR .nil bg (b_ (qv 3) ae)))) (iF (aE (gv hr.w_) (qv 3) (qv 1) rfl) (jD (aE (wJ hr.w_) (qv 3) (qv 2) rfl))))) (ai (aG cJ)) aK) (ag (bh aa8 rfl (bA (mE hr.w_ (qv 1) (qv 3))) (ay (i:=4) Fi.nd rfl oI1) (ai (bz (aE (gv hr.w_) (qv 4) (qv 2) rfl) (ai (aG cJ)) aK))) (ai (fM hr.w_ (qv 2) (qv 3) cJ))))) (ai (aG cJ))))),?_⟩;dsimp only[cg];have lz:z.length=vs.length:=Nat.le_antisymm (eD od.nd od.sub) (eD vn od.all);have Ei:=hz.len;have QV:=hi.len;refine⟨_,rfl,_, "list",_,_,rfl,.lst y_,CF,_,rfl,lI ⟨_,rfl,r,_,rfl,.inl (d9.of y_),_,rfl,d,_,rfl,hd,rfl,_,rfl,?_⟩⟩;dsimp only;rw[dI];refine iW (λh=>absurd (by lia) h) (λ_=>?_);intro f hf;dsimp only[s_,cg];have s0:=ac hf (GC P w f []);have F0:DS P w (upd H f (GC P w f [])) f []:=wW;generalize upd H f (GC P w f [])=H0 at s0 F0⊢;refine⟨_,rfl,r,rfl,⟨_,d9.of (s0 _ _ y_)⟩,?_⟩;refine cE (xs:=us) (λi σ H'=>a_ H H'/\∃(x3 x4:Option V)(fx:SR),σ=[some (.ref r),some (.ref d),some (.ref f),x3,x4]/\DS P w H' f fx/\fx.map (·.1)=(z.take i).map o6) ⟨s0,none,none,[],rfl,F0,rfl⟩ (λi σ H' _ ⟨sm,_⟩=>d9.of (sm _ _ y_)) ?_ ?_
 ·rintro i x σ H1 hx ⟨sm,x3,x4,fx,rfl,FF,Ll⟩;have hil:=ao hx;obtain⟨sp,A5⟩:=ax (xs:=z) (i:=i) (by lia);obtain⟨x',DB,DG⟩:=bw hz A5;rw[hx]at DB;cases DB;have DG:=DG.same (am sm);have QL:=od.sub sp (aaD A5);obtain⟨b,b',rfl,_⟩:=id DG;have tk:z.take (i+1)=z.take i++[sp]:=aH A5;have Dm:sp∉z.take i:=λzz=>by
   have:(z.take (i+1)).Nodup:=od.nd.sublist (acq _ _);rw[tk]at this;exact(List.nodup_append.mp this).2.2 sp zz sp (List.mem_singleton.mpr rfl) rfl
  refine⟨_,rfl,_,sp,rfl,DG,pl sp QL,λH2 s2=>⟨_,rfl,lI ?_⟩⟩;have Hn:=sm.trans s2;have OE:=FF.same s2;have hd2:=hd.same Hn;have Uj:=hi.same Hn;have kx:=cj (DG.same (am s2));refine⟨_,rfl,_,rfl,d,b,_,o6 sp,rfl,rfl,hd2,kx,_,rfl,?_⟩;rw[show(fV xs (o6 sp)).isSome=decide (sp∈vs)from lK hi.keys sp];refine iW (λh=>absurd QL h) (λ_=>?_);refine⟨_,rfl,_,rfl,f,b,_,o6 sp,rfl,rfl,OE,kx,_,rfl,?_⟩;rw[show(fV fx (o6 sp)).isSome=decide (sp∈z.take i)from lK Ll sp];refine cL (λh=>absurd h Dm) (λ_=>?_);obtain⟨lv,ws,EB,hL,EA⟩:=AX Uj QL;refine⟨_,rfl,_,rfl,d,b,_,o6 sp,_,rfl,rfl,hd2,kx,EB,lv,rfl,⟨_,d9.of hL⟩,?_⟩;refine cE (xs:=ws) (λj σ H'=>H'=H2/\∃(x4:Option V),σ=[some (.ref r),some (.ref d),some (.ref f),some (.ref b),x4]) ⟨rfl,_,rfl⟩ (λj σ H' _ ⟨e,_⟩=>by rw[e];exact d9.of hL) ?_ ?_
  ·rintro j y σ H' hy ⟨e,x4,rfl⟩;rw[e];have Mf:=ao hy;have lws:=EA.len;obtain⟨ey,hey⟩:=ax (xs:=G sp) (i:=j) (by lia);obtain⟨y',Xj,hyy⟩:=bw EA hey;rw[hy]at Xj;cases Xj;obtain⟨c,c',rfl,_⟩:=id hyy;have yz:=od.ord i sp A5 ey (aaD hey);refine⟨_,rfl,_,rfl,f,c,_,o6 ey,rfl,rfl,OE,cj hyy,_,rfl,?_⟩;rw[show(fV fx (o6 ey)).isSome=decide (ey∈z.take i)from lK Ll ey];exact iW (λh=>absurd yz h) (λ_=>⟨rfl,_,rfl⟩)
  ·rintro σ H' ⟨e,x4,rfl⟩;rw[e];have lfx:fx.length<=1000:=by
    have:=abk List.length Ll;rw[aaG,aaG,aaZ]at this;lia
   refine⟨_,rfl,_,rfl,f,b,_,o6 sp,rfl,rfl,OE,kx,abz lfx (by decide),?_⟩;exact⟨aL hf Hn,_,_,_,rfl,DS.put OE kx,by rw[tk];exact xO Ll Dm _ _⟩
 ·rintro σ H1 ⟨sm,x3,x4,fx,rfl,FF,Ll⟩;exact q H1 sm
theorem sG{H:Hp}:∀p:List Int,g_ (λ(i:Int)(v:V)=>v=.int i) p (p.map V.int)
 |[]=>.nil
 |i::p=>.cons rfl (sG (H:=H) p)
theorem jM(X:Tx K mg T):i6 P w K mg base A6 3 T.W8 T.HC ["_law_spot_here"] iD:=by
 have G_qB:=(rR (P:=P) (w:=w) (base:=base) X).mono (show 1<=2 by decide);refine X.K8.Dy zX (λvs H Q E h=>?_) (λm_ A outer s H vs Q E hr h=>?_)
 ·obtain⟨_,_,rfl,_⟩:=h;rfl
 obtain⟨v,sp,rfl,A5,l1000,q⟩:=h;refine⟨_,(ag (bz (kO (iF (dA (dy (aB bU rfl X.z_isinstance abl (b_ (qv 0) (b_ (dD rfl X.z_tuple abq rfl (v:=.ty "tuple")) ae))))) (iF (aE xX (aB av rfl X.z_len aa6 (b_ (qv 0) ae)) af (aS _)) (iF (dA (dy (aB bU rfl X.z_isinstance abl (q_ (aj ak (qv 0) af) (b_ (dD rfl X.z_tuple abq rfl (v:=.ty "tuple")) ae))))) (jD (dA (dy (aB bU rfl X.z_isinstance abl (q_ (aj ak (qv 0) af) (b_ (dD rfl X.z_str PyProof.Rows.boot_str rfl (v:=.ty "str")) ae)))))))))) (ai (aG cJ)) aK) (ai (aG (fc bS (aB av rfl X.z_len aa6 (MP (bG (ys:=[]) (js:=[]) rfl rfl (cr (aj ak (qv 0) af)) (λ_ _ _ _ _=>df (dy (aw G_qB hr rfl X.m_qB X.WJ.kp X.b_qB .nil bg (b_ (qv 0) ae)))) (λ_ _ _ _ _=>(qv 0))) ae)) (aB av rfl X.z_len aa6 (q_ (aj ak (qv 0) af) ae)) (aS _))))),?_⟩;dsimp only[cg];obtain⟨a,b,rfl,ha,hb⟩:=A5;refine⟨_,rfl,_, "tuple",_,_,rfl,.tup ha,CD,_,rfl,lI ⟨_,rfl,a,_,rfl,.inr (b9.of ha),rfl,_,rfl,mY (by rfl) ⟨_,rfl,a,_,_,.ref b,rfl,rfl,b9.of ha,rfl,_, "tuple",_,_,rfl,.tup hb,CD,_,rfl,lI ⟨_,rfl,a,_,_,.str sp.2,rfl,rfl,b9.of ha,rfl,_, "str",_,_,rfl,.str sp.2,CS,_,rfl,lI ?_⟩⟩⟩⟩;refine⟨_,rfl,a,_,_,.ref b,rfl,rfl,b9.of ha,rfl,b,rfl,⟨_,b9.of hb⟩,λD hD=>?_⟩;refine fu (K:=K) (B:=λ_ i v=>v=V.int i) (a:=b) (us:=sp.1.map V.int) (G:=sp.1) (R:=λ_ i v=>v=V.int i) (λ_ _ _ _ _ h=>h) (λ_ _ _ _ _ h=>h) (λ_=>true) (bO (by rw[aaG];lia)) hb (sG (H:=H) sp.1) hD (λi v H3 _ e s3 Q' k=>?_) (λi v H3 _ e s3 Q' k=>?_) (λys H3 s3 GB Ez=>?_)
 ·exact⟨_,rfl,i,by rw[e];rfl,_,rfl,k _ (a_.refl _)⟩
 ·exact⟨_,rfl,k _ _ (a_.refl _) e⟩
 ·have l1:=Ez.len;rw[List.filter_eq_self.mpr (λ_ _=>rfl)]at l1;refine⟨D,_,rfl,.inl (d9.of GB),_,rfl,a,_,_,.ref b,rfl,rfl,b9.of (s3 _ _ ha),rfl,b,_,rfl,.inr (b9.of (s3 _ _ hb)),rfl,?_⟩;dsimp only;rw[dI,aaG,l1,abb rfl];exact q H3 s3
theorem jK(X:Tx K mg T):i6 P w K mg base A6 4 T.ZP T.Ks ["_law_ring", "_law_hang_here"] (gc P w):=by
 have KP:=jM (P:=P) (w:=w) (base:=base) X;refine X.OB.Dy Fo (λvs H Q E h=>?_) (λm_ A outer s H vs Q E hr h=>?_)
 ·obtain⟨_,_,_,_,_,_,_,rfl,_⟩:=h;rfl
 obtain⟨r,d,us,z,vs,G,xs,rfl,y_,hz,hd,hi,LY,pl,rg,zs,q⟩:=h;refine⟨_,(ag (bz (kO (iF (dA (dy (aB bU rfl X.z_isinstance abl (b_ (qv 0) (b_ (dD rfl X.z_list aci rfl (v:=.ty "list")) ae))))) (jD (aE (mK hr.units) (qv 0) (aR ae) (aS _))))) (ai (aG cJ)) aK) (ag (au (i:=2) Fo.nd rfl oI1 iI) (ag (bh aa8 rfl (bA (qv 0)) (ay (i:=3) Fo.nd rfl oI1) (ag (bz (kO (iF (dA (dy (aw KP hr rfl X.M6 X.K8.kp X.NR .nil bg (b_ (qv 3) ae)))) (iF (aE (gv hr.w_) (qv 3) (qv 1) rfl) (jD (aE (wJ hr.w_) (qv 3) (qv 2) rfl))))) (ai (aG cJ)) aK) (ai (fM hr.w_ (qv 2) (qv 3) cJ)))) (ag (bh aa8 rfl (aZ rfl X.z_range (Dw (aB av rfl X.z_len aa6 (b_ (qv 0) ae)) ae)) (ay (i:=4) Fo.nd rfl oI1) (ai (bz (aE (gz hr.units) (aj aO (qv 0) (qv 4)) (mE hr.w_ (qv 1) (aj aO (qv 0) (ar dm (qv 4) af))) rfl) (ai (aG cJ)) aK))) (ai (aG cJ)))))),?_⟩;dsimp only[cg];have lz:z.length<=vs.length:=eD rg.nd zs;have Ei:=hz.len;have Yn:0<z.length:=List.length_pos_iff.mpr rg.ne;refine⟨_,rfl,_, "list",_,_,rfl,.lst y_,CF,_,rfl,lI ⟨_,rfl,Z0,λe0 JN=>?_⟩⟩;have W5:=ac JN (.lst []);refine⟨r,e0,_,rfl,rfl,d9.of (W5 _ _ y_),d9.of aa,_,rfl,?_⟩;refine mY (by cases us with|nil=>simp at Ei;lia|cons a b=>rfl) ?_;generalize upd H e0 (.lst [])=Ha at W5⊢;intro f hf;dsimp only[s_,cg,Cx.Pa];have s01:=ac hf (GC P w f []);have F0:DS P w (upd Ha f (GC P w f [])) f []:=wW;have hf0:=W5.free hf;generalize upd Ha f (GC P w f [])=H0 at s01 F0⊢;have s0:=W5.trans s01;refine⟨_,rfl,r,rfl,⟨_,d9.of (s0 _ _ y_)⟩,?_⟩;refine cE (xs:=us) (λi σ H'=>a_ H H'/\∃(x3:Option V)(fx:SR),σ=[some (.ref r),some (.ref d),some (.ref f),x3,none]/\DS P w H' f fx/\fx.map (·.1)=(z.take i).map o6) ⟨s0,none,[],rfl,F0,rfl⟩ (λi σ H' _ ⟨sm,_⟩=>d9.of (sm _ _ y_)) ?_ ?_
 ·rintro i x σ H1 hx ⟨sm,x3,fx,rfl,FF,Ll⟩;have hil:=ao hx;obtain⟨sp,A5⟩:=ax (xs:=z) (i:=i) (by lia);obtain⟨x',DB,DG⟩:=bw hz A5;rw[hx]at DB;cases DB;have DG:=DG.same (am sm);have QL:=zs sp (aaD A5);obtain⟨b,b',rfl,_⟩:=id DG;have tk:z.take (i+1)=z.take i++[sp]:=aH A5;have Dm:sp∉z.take i:=λzz=>by
   have:(z.take (i+1)).Nodup:=rg.nd.sublist (acq _ _);rw[tk]at this;exact(List.nodup_append.mp this).2.2 sp zz sp (List.mem_singleton.mpr rfl) rfl
  refine⟨_,rfl,_,sp,rfl,DG,pl sp QL,λH2 s2=>⟨_,rfl,lI ?_⟩⟩;have Hn:=sm.trans s2;have OE:=FF.same s2;have hd2:=hd.same Hn;have kx:=cj (DG.same (am s2));refine⟨_,rfl,_,rfl,d,b,_,o6 sp,rfl,rfl,hd2,kx,_,rfl,?_⟩;rw[show(fV xs (o6 sp)).isSome=decide (sp∈vs)from lK hi.keys sp];refine iW (λh=>absurd QL h) (λ_=>?_);refine⟨_,rfl,_,rfl,f,b,_,o6 sp,rfl,rfl,OE,kx,_,rfl,?_⟩;rw[show(fV fx (o6 sp)).isSome=decide (sp∈z.take i)from lK Ll sp];refine cL (λh=>absurd h Dm) (λ_=>?_);have lfx:fx.length<=1000:=by have:=abk List.length Ll;rw[aaG,aaG,aaZ]at this;lia
  refine⟨_,rfl,_,rfl,f,b,_,o6 sp,rfl,rfl,OE,kx,abz lfx (by decide),?_⟩;exact⟨aL hf0 Hn,_,_,rfl,DS.put OE kx,by rw[tk];exact xO Ll Dm _ _⟩
 rintro σ H1 ⟨sm,x3,fx,rfl,FF,Ll⟩;have JG:=sm _ _ y_;have hz1:=ci hz (am sm);have EO:=hd.same sm;have hi1:=hi.same sm;refine⟨_,rfl,r,_,rfl,.inl (d9.of JG),_,rfl,by lia,by lia,?_⟩;refine bN (n:=((us.length:Nat):Int).toNat) (λi σ H'=>H'=H1/\∃(x4:Option V),σ=[some (.ref r),some (.ref d),some (.ref f),x3,x4]) ⟨rfl,none,rfl⟩ ?_ ?_
 ·rintro i σ H' Nn ⟨e,x4,rfl⟩;rw[e];have Uj:i<z.length:=by lia
  obtain⟨x,hx⟩:=ax Uj;obtain⟨vx,hvx,hxx⟩:=bw hz1 hx;obtain⟨u,vu,hvu,Xl,um,uE⟩:∃u vu,Dp us (0+(i:Int)-1)=some vu/\j_ H1 u vu/\u∈z/\x∈G u:=by
   cases i with
   |zero=>
    obtain⟨tt,y,rfl⟩:=bY (l:=z) Yn;obtain⟨ws,vy,rfl,_,hy⟩:=fF hz1;exact⟨y,vy,kE ws vy,hy,by simp,rg.cl x y (by rw[aey];exact hx) (by simp)⟩
   |succ j=>
    obtain⟨u,hu⟩:=ax (xs:=z) (i:=j) (by lia);obtain⟨vu,hvu,Xl⟩:=bw hz1 hu;exact⟨u,vu,by rw[show 0+((j+1:Nat):Int)-1=((j:Nat):Int)by lia];exact aV hvu,Xl,aaD hu,rg.st j u x hu hx⟩
  obtain⟨bu,bu',rfl,_⟩:=id Xl;obtain⟨lv,ws,EB,hL,EA⟩:=AX hi1 (zs u um);have DB:Dp us (0+(i:Int))=some vx:=by rw[ack];exact aV hvx
  refine⟨_,rfl,_,rfl,r,_,_,vx,rfl,rfl,d9.of JG,DB,_,rfl,_,rfl,_,rfl,_,_,rfl,rfl,r,_,_,.ref bu,rfl,rfl,d9.of JG,hvu,d,bu,_,o6 u,_,rfl,rfl,EO,cj Xl,EB,lv,_,FK x,_,rfl,d9.of hL,mZ hxx,sP EA,abg (tM _) (by decide),_,rfl,?_⟩;rw[xa];exact iW (λh=>absurd uE h) (λ_=>⟨rfl,_,rfl⟩)
 ·rintro σ H' ⟨e,x4,rfl⟩;rw[e];exact q H1 sm
def yZ:bootBuiltins "ValueError" = some (.type "ValueError"):=by decide +kernel
def gO{K:W.Frag}(h:X.K=K):eg X (.builtin "isinstance") (Cn K):=h▸wa
def uL{K:W.Frag}(h:X.K=K){e:Expr}{f:Str}{pos:Pos}{ta:TE}(he:QE X e ta)(hb:autoParam (attributeBase e f X.env (eval e X.env)=eval e X.env) θ):QE X (.Attribute e f pos) (zC K ta f):=h▸xN he hb
noncomputable def Ku(b:Bool):Da:=.fl (.bl b)
theorem lJ{K:W.Frag}{H:Hp}:∀bs:List Bool,m5 K H (bs.map Ku) (bs.map V.bl)
 |[]=>by show m5 K H [] [];unfold m5;rfl
 |b::bs=>by show m5 K H (Ku b::bs.map Ku) (V.bl b::bs.map V.bl);unfold m5;refine⟨_,_,rfl,?_,lJ bs⟩;unfold Ku w9;exact⟨rfl,rfl⟩
def yE:cQ ([true,true,true,true].map Ku) ([true,true,true,true].map Ku)=true:=by simp only[aa7,acR,Ku];unfold cQ cQ cQ cQ cQ;unfold C9;rfl
def vJ:bv ([true,true,true,true].map Ku)<=50:=by simp only[aa7,acR,Ku];unfold bv bv bv bv bv;unfold gX;decide
inductive ju(P:Program)(w:World)(vs:List V)(H:Hp)(Q:VK)(e0:XK):Prop
 |mk (g:Gr) (t:Tr) (vg vt:V) (rd:Bool):(vs=[vg,vt,.bl rd])->o7 H g vg->GT g t->i3 H t vt->xk g->(rd=true\/∀r,B6 (aX g t) r->(∀x∈r,x∈aM g t)->False)->(∀H',a_ H H'->Q (.bl true) H')->ju P w vs H Q e0
theorem pH(X:Tx K mg T):i6 P w K mg base A6 73 T.ZH T.Kj ["_law_grammar_here", "_law_tree", "_law_ringed"] (ju P w):=by
 have Wn:=(yd (P:=P) (w:=w) (base:=base) X).mono (show 20<=72 by decide);have Ws:=AI (P:=P) (w:=w) (base:=base) X;have WG:=(jK (P:=P) (w:=w) (base:=base) X).mono (show 4<=72 by decide);have WB:=(pI (P:=P) (w:=w) (base:=base) X (jM X)).mono (show 4<=72 by decide);refine X.HQ.Dy Dq (λvs H Q E h=>?_) (λm_ A outer s H vs Q E hr h=>?_)
 ·obtain⟨_,_,_,_,_,rfl,_⟩:=h;rfl
 obtain⟨g,t,vg,vt,rd,rfl,hg,gt,ht,nm,hrd,q⟩:=h;refine⟨_,(ag (au (i:=3) Dq.nd rfl oI1 (aw Wn hr rfl X.Sk X.Of.kp X.VM .nil bg (b_ (qv 0) (b_ (qv 1) ae)))) (ag (au (i:=4) Dq.nd rfl oI1 (aR ae)) (ag (au (i:=5) Dq.nd rfl oI1 (aR ae)) (ag (au (i:=6) Dq.nd rfl oI1 (aR ae)) (ag (uJ (i:=7) (j:=6) Ws hr rfl X.So X.Oj.kp X.VQ (b_ (qv 0) (b_ (qv 1) ae)) rfl X.m_Ring (.inr X.DF.ex) Dq.nd rfl rfl rfl rfl rfl rfl rfl (λ_=>(ag (au (i:=4) Dq.nd rfl oI1 (aR (Dw (aB (gO (K:=K) rfl) rfl X.z_isinstance abl (b_ (qv 7) (b_ (cT rfl X.m_LeafError (v:=V.ref T.j8) rfl) ae))) (Dw (aB (gO (K:=K) rfl) rfl X.z_isinstance abl (b_ (qv 7) (b_ (dD rfl X.z_ValueError yZ rfl (v:=.ty "ValueError")) ae))) (b_ (qv 2) ae))))) (ag (bK (Ax (K:=K) rfl aaL abo abn bo (qv 4) (qaU (wF (aB (gO (K:=K) rfl) rfl X.z_isinstance abl (b_ (qv 7) (u9 (aq (b_ (cT rfl X.m_NoText (v:=V.ref T.m8) rfl) (b_ (cT rfl X.m_TooGreat (v:=V.ref T.i5) rfl) (b_ (cT rfl X.m_NoName (v:=V.ref T.c_) rfl) (b_ (cT rfl X.m_NoRule (v:=V.ref T.d7) rfl) (b_ (cT rfl X.m_NoKind (v:=V.ref T.m9) rfl) (b_ (cT rfl X.m_NoTree (v:=V.ref T.m7) rfl) (b_ (cT rfl X.m_NoPlace (v:=V.ref T.b8) rfl) (b_ (cT rfl X.m_NoGiven (v:=V.ref T.i_) rfl) (b_ (cT rfl X.m_NoWalk (v:=V.ref T.m6) rfl) ae)))))))))) ae)))) ae))) (ai (au (i:=5) Dq.nd rfl oI1 (uL (K:=K) rfl (qv 7)))))))) (ag (bz (aE (mJ hr.units) (qv 4) (aR ae) (aS _)) (ai (aG (wG (fc (wK hr.units) (qv 4) (aR (n_ cJ (n_ cJ (n_ cJ (n_ cJ ae))))) (aS _)) (wE (aw WG hr rfl X.SG X.OB.kp X.V4 .nil bg (b_ (qv 5) (b_ (qv 3) ae))))))) aK) (ag (bz (dA (dy (aw WB hr rfl X.Sz X.Ox.kp X.V0 .nil bg (b_ (qv 6) (b_ (qv 3) ae))))) (ai (aG cJ)) aK) (ag (bK (cI aaL PySem.F.slot_list_clear PySem.F.type_list_clear vC (qv 6))) (ai (aG cJ)))))))))),?_⟩;dsimp only[cg];obtain⟨sS,hsS⟩:=gt.ft;have SU:=fX gt;refine⟨_,rfl,_,rfl,g,t,vg,vt,rfl,hg,gt,ht,λd xs H1 s1 hd Im hi=>?_⟩;dsimp only[s_];refine⟨Z0,λO hO=>?_⟩;dsimp only[s_];have s2:=ac hO (.lst []);refine⟨Z0,λR hR=>?_⟩;dsimp only[s_];have s3:=ac hR (.lst []);refine⟨Z0,λF hF=>?_⟩;dsimp only[s_];have s4:=ac hF (.lst []);have hO4:=s4 _ _ (s3 _ _ (aa (H:=H1) (a:=O) (o:=.lst [])));have Ji:=s1.trans ((s2.trans s3).trans s4);have Il:=Im.same ((s2.trans s3).trans s4);have Xs:=hi.same ((s2.trans s3).trans s4);generalize upd (upd (upd H1 O (.lst [])) R (.lst [])) F (.lst [])=H4 at s4 hO4 Ji Il Xs⊢;clear s2 s3 s4 hF hR;have pl:∀sp∈aM g t,sp.1.length<=1000:=λsp hs=>by have:=(qI gt hs).1;lia
 refine⟨_,rfl,_,rfl,g,t,vg,vt,rfl,hg.same (am Ji),gt,i3.same (am Ji) _ ht,nm,λr z us H5 s5 Hy hrv hz od=>?_,λdx L r us H5 s5 IK hL Hy rg rs=>⟨T.f_,dx,rfl,rfl,X.DF.ex,X.u_Ring_Ring,λa ha=>?_⟩⟩
 ·have s15:=Ji.trans s5;refine⟨_,rfl,Z0,λe0 JN=>?_⟩;have s6:=ac JN (.lst []);refine⟨O,e0,_,rfl,rfl,d9.of (s6 _ _ (s5 _ _ hO4)),d9.of aa,_,rfl,?_⟩;refine iW (λh=>absurd rfl h) (λ_=>?_);have FP:=s5.trans s6;have L8:=s6 _ _ hrv;have hz6:=ci hz (am s6);generalize upd H5 e0 (.lst [])=H6 at s6 FP L8 hz6⊢;refine⟨_,rfl,_,rfl,r,d,us,z,aM g t,aX g t,xs,rfl,L8,hz6,Il.same FP,Xs.same FP,eV gt.G hsS,by lia,pl,λsp hs=>eP gt nm hs,od,λH7 s7=>⟨_,rfl,lI ?_⟩⟩;refine⟨_,rfl,.inl ⟨rfl,_,d9.of (s7 _ _ L8)⟩,r,_,rfl,rfl,s7 _ _ L8,?_⟩;exact q _ (aL (Ji.free Hy) (Ji.trans (FP.trans s7)))
 ·rcases hrd with rfl|no
  ·have s6:=ac ha (vQ a T.f_ dx);have hx:=aa (H:=H5) (a:=a) (o:=vQ a T.f_ dx);have UB:=s6 _ _ IK;have Hz:=s6 _ _ hL;have Li:=ci Hy (am s6);have FP:=s5.trans s6;generalize upd H5 a (vQ a T.f_ dx)=H6 at s6 hx UB Hz Li FP⊢;refine⟨_,rfl,a,T.f_,T.Lg,dx,_,_,rfl,hx,X.DF,.inl ⟨_,rfl,X.i_Ring_0⟩,_,rfl,a,T.f_,T.Lg,dx,_,_,rfl,hx,X.DF,.inr (.inl ⟨_,rfl,X.i_Ring_1⟩),_,rfl,Z3,λO2 hO2=>?_⟩;dsimp only[s_];have s7:=ac hO2 (.lst [.bl true,.bl true,.bl true]);have hO7:=aa (H:=H6) (a:=O2) (o:=.lst [.bl true,.bl true,.bl true]);have hx7:=s7 _ _ hx;have s47:=FP.trans s7;have UA:=s7 _ _ UB;have UX:=s7 _ _ Hz;have hr7:=ci Li (am s7);have nO:H4 O2=none:=FP.free hO2;generalize upd H6 O2 (.lst [.bl true,.bl true,.bl true])=H7 at s7 hO7 hx7 s47 UA UX hr7⊢;refine⟨_,rfl,.inl ⟨rfl,_,d9.of hO7⟩,_,rfl,Z9,λp hp=>?_⟩;have s8:=ac hp (.tup [.ref T.m8,.ref T.i5,.ref T.c_,.ref T.d7,.ref T.m9,.ref T.m7,.ref T.b8,.ref T.i_,.ref T.m6]);have hp8:=aa (H:=H7) (a:=p) (o:=.tup [.ref T.m8,.ref T.i5,.ref T.c_,.ref T.d7,.ref T.m9,.ref T.m7,.ref T.b8,.ref T.i_,.ref T.m6]);have UU:=s8 _ _ hO7;have S7:=s8 _ _ hx7;have Ld:=s47.trans s8;have Mk:=s8 _ _ UA;have hL8:=s8 _ _ UX;have Tq:=ci hr7 (am s8);generalize upd H7 p (.tup [.ref T.m8,.ref T.i5,.ref T.c_,.ref T.d7,.ref T.m9,.ref T.m7,.ref T.b8,.ref T.i_,.ref T.m6])=H8 at s8 hp8 UU S7 Ld Mk hL8 Tq⊢;refine⟨a,T.f_,T.Lg,dx,_,_,rfl,S7,X.DF,.inr (.inr ⟨p,[T.m8,T.i5,T.c_,T.d7,T.m9,T.m7,T.b8,T.i_,T.m6],rfl,hp8,X.i_Ring_2⟩),_,rfl,O2,_,.bl true,rfl,rfl,UU,(by show 3<sizeLine;decide),?_⟩;have W2:a_ H4 (upd H8 O2 (.lst ([.bl true,.bl true,.bl true]++[.bl true]))):=aL nO Ld;have hO9:=aa (H:=H8) (a:=O2) (o:=.lst ([.bl true,.bl true,.bl true]++[V.bl true]));have ne1:a≠O2:=λz=>by rw[z,UU]at S7;cases S7
   have ne2:dx≠O2:=λz=>by rw[z,UU]at Mk;cases Mk
   have ne3:L≠O2:=λz=>by rw[z,hO2]at Hz;cases Hz
   have hx9:upd H8 O2 (.lst ([.bl true,.bl true,.bl true]++[V.bl true])) a=some (vQ a T.f_ dx):=by rw[al ne1];exact S7
   have Uz:upd H8 O2 (.lst ([.bl true,.bl true,.bl true]++[V.bl true])) dx=some (.xd [("ring",.ref L)]):=by rw[al ne2];exact Mk
   have UW:upd H8 O2 (.lst ([.bl true,.bl true,.bl true]++[V.bl true])) L=some (.lst us):=by rw[al ne3];exact hL8
   have hr9:=ci Tq (tL (o:=.lst ([.bl true,.bl true,.bl true]++[V.bl true])) UU);generalize upd H8 O2 (.lst ([.bl true,.bl true,.bl true]++[V.bl true]))=H9 at W2 hO9 hx9 Uz UW hr9⊢;refine⟨_,rfl,a,T.f_,T.Lg,dx,_,.ref L,rfl,rfl,X.DF,hx9,Uz,rfl,?_⟩;dsimp only[s_];refine⟨_,rfl,Z0,λe0 JN=>?_⟩;have sa:=ac JN (.lst []);refine⟨O2,e0,_,rfl,rfl,d9.of (sa _ _ hO9),d9.of aa,_,rfl,?_⟩;refine iW (λ_=>?_) (λh=>nomatch h);have hOa:=sa _ _ hO9;have hLa:=sa _ _ UW;have Tp:=ci hr9 (am sa);have s4a:=W2.trans sa;generalize upd H9 e0 (.lst [])=Ha at sa hOa hLa Tp s4a⊢;refine⟨_,rfl,Z4,λB hB=>?_⟩;have sb:=ac hB (.lst [.bl true,.bl true,.bl true,.bl true]);refine⟨O2,B,_,_,[true,true,true,true].map Ku,[true,true,true,true].map Ku,rfl,rfl,.inr ⟨d9.of (sb _ _ hOa),d9.of aa⟩,lJ [true,true,true,true],lJ [true,true,true,true],vJ,?_⟩;rw[yE];refine⟨_,rfl,zl ?_⟩;have OL:=s4a.trans sb;exact⟨_,rfl,_,rfl,L,d,us,r,aM g t,aX g t,xs,rfl,sb _ _ hLa,ci Tp (am sb),Il.same OL,Xs.same OL,by lia,pl,rg,rs,λHc sc=>q Hc (Ji.trans (OL.trans sc))⟩
  ·exact(no r rg rs).elim
end HJ
namespace HJ
open PySem L2 TR FT SP
open TM
open WK (B6 Nr)
inductive LL:List Nat->List Nat->Prop
 |head {a b:Nat} {x y:List Nat}:a<b->LL (a::x) (b::y)
 |tail {a:Nat} {x y:List Nat}:LL x y->LL (a::x) (a::y)
theorem LL.Xh:∀{x:List Nat},¬LL x x
 |[],h=>nomatch h
 |a::x,h=>by
  cases h with
  |head h=>exact abG _ h
  |tail h=>exact LL.Xh h
theorem LL.trans:∀{x y z:List Nat},LL x y->LL y z->LL x z
 |_,_,_,.head h,.head g=>.head (ac7 h g)
 |_,_,_,.head h,.tail _=>.head h
 |_,_,_,.tail _,.head g=>.head g
 |_,_,_,.tail h,.tail g=>.tail (h.trans g)
theorem LL.pre:∀(q:List Nat){x y:List Nat},LL x y->LL (q++x) (q++y)
 |[],_,_,h=>h
 |a::q,_,_,h=>.tail (LL.pre q h)
noncomputable def WW(j:Nat)(k:Int):Nat:=if j=0 then 2*k.toNat else 2*(50-k.toNat)
noncomputable def yY(j b:Nat)(p:List Int):List Nat:=p.map (WW j)++[199*b]
def Rv(g:Gr)(t:Tr)(sp:aP)(j b:Nat):Prop:=∃u,atT sp.1 t=some u/\∃pr:Str×Str,((b=0/\(sgn g u).dn[j]?=some pr)\/(b=1/\(sgn g u).up[j]?=some pr))/\pr.1=sp.2
variable{α β:Type}{i j:Nat}
def BY{f:α->β}{l:List α}(h:(l.map f).Nodup){a c:α}(h1:l[i]?=some a)(h2:l[j]?=some c)(e:f a=f c):i=j:=by
 have e1:(l.map f)[i]?=some (f a):=by rw[aaK,h1];rfl
 have e2:(l.map f)[j]?=some (f c):=by rw[aaK,h2];rfl
 exact(List.getElem?_inj (List.getElem?_eq_some_iff.mp e1).1 h).mp (by rw[e1,e2,e])
variable{g:Gr}{t:Tr}{b b':Nat}{sp:aP}
theorem Rv.DL(gt:GT g t){j':Nat}(h:Rv g t sp j b)(h':Rv g t sp j' b'):j=j'/\b=b':=by
 obtain⟨s,hs⟩:=gt.ft;obtain⟨u,hu,pr,hp,e⟩:=h;obtain⟨u',Ib,ZR,DK,e'⟩:=h';rw[hu]at Ib;cases Ib;have vn:=gt.G.vn _ (cG gt.G hs hu).1;unfold db at vn;have lift:∀{j b:Nat}{pr:Str×Str},((b=0/\(sgn g u).dn[j]?=some pr)\/(b=1/\(sgn g u).up[j]?=some pr))->((sgn g u).dn++(sgn g u).up)[j+b*(sgn g u).dn.length]?=some pr/\(b=0->j<(sgn g u).dn.length)/\b<=1:=λ{j b pr} h=>by
  rcases h with⟨rfl,h⟩|⟨rfl,h⟩
  ·have:=ao h;exact⟨by rw[Nat.zero_mul,aew,aa4 this];exact h,λ_=>this,by lia⟩
  ·refine⟨?_,by lia,by lia⟩;rw[abf (by lia),show j+1*(sgn g u).dn.length-(sgn g u).dn.length=j by lia];exact h
 obtain⟨a1,a2,a3⟩:=lift hp;obtain⟨b1,b2,b3⟩:=lift DK;have:=BY vn a1 b1 (e.trans e'.symm);generalize (sgn g u).dn.length=n at this a2 b2;obtain rfl|rfl:b=0\/b=1:=by lia
 ·obtain rfl|rfl:b'=0\/b'=1:=by lia
  ·exact⟨by lia,rfl⟩
  ·have:=a2 rfl;lia
 ·obtain rfl|rfl:b'=0\/b'=1:=by lia
  ·have:=b2 rfl;lia
  ·exact⟨by lia,rfl⟩
def Gm(g:Gr)(t:Tr)(x y:aP):Prop:=∃j b j' b',Rv g t x j b/\Rv g t y j' b'/\(j<j'\/(j=j'/\LL (yY j b x.1) (yY j' b' y.1)))
theorem Gm.Xh{g:Gr}{t:Tr}(gt:GT g t){x:aP}:¬Gm g t x x:=λ⟨j,b,j',b',h1,h2,h3⟩=>by
 obtain⟨rfl,rfl⟩:=h1.DL gt h2;rcases h3 with h|⟨_,h⟩
 ·lia
 ·exact LL.Xh h
theorem Gm.trans{g:Gr}{t:Tr}(gt:GT g t){x y z:aP}:Gm g t x y->Gm g t y z->Gm g t x z:=λ⟨j,b,j',b',h1,h2,h3⟩ ⟨i,c,i',c',g1,g2,g3⟩=>by
 obtain⟨rfl,rfl⟩:=h2.DL gt g1;refine⟨j,b,i',c',h1,g2,?_⟩;rcases h3 with h|⟨rfl,h⟩
 ·rcases g3 with k|⟨rfl,k⟩
  ·exact .inl (by lia)
  ·exact .inl h
 ·rcases g3 with k|⟨rfl,k⟩
  ·exact .inl k
  ·exact .inr ⟨rfl,h.trans k⟩
def Qt(g:Gr):Prop:=∀f∈g.fm,∃ss:List Sg,ss.map Sg.nm=f.hd::f.br/\(∀s∈ss,s∈g.sg)/\ss.length<=4/\∀r∈f.ru,Bt (z8 ss.length 0 ss) r
theorem iz(N:Nat):∀(ss:List Sg)(k:Nat)(e:Vl),e∈z8 N k ss->∃(i j b:Nat)(s:Sg)(pr:Str×Str),ss[i]?=some s/\((b=0/\s.dn[j]?=some pr)\/(b=1/\s.up[j]?=some pr))/\e=(((k+i:Nat):Int),pr.1,pr.2,rk N (k+i) j b,(b:Int))
 |[],k,e,h=>nomatch h
 |s::r,k,e,h=>by
  rw[z8]at h;rcases List.mem_append.mp h with h|h
  ·rcases List.mem_append.mp h with h|h
   ·obtain⟨i,p,hp,rfl⟩:=eC _ _ _ _ _ _ h;exact⟨0,i,0,s,p,rfl,.inl ⟨rfl,hp⟩,by rw[acA];rfl⟩
   ·obtain⟨i,p,hp,rfl⟩:=eC _ _ _ _ _ _ h;exact⟨0,i,1,s,p,rfl,.inr ⟨rfl,hp⟩,by rw[acA];rfl⟩
  ·obtain⟨i,j,b,s',p,h1,h2,h3⟩:=iz N r (k+1) e h;exact⟨i+1,j,b,s',p,by simpa using h1,h2,by rw[h3,show k+1+i=k+(i+1)by lia]⟩
variable{ss:List Sg}{f:Fm}{s:Sg}
theorem qH(G:EK g)(hn:ss.map Sg.nm=f.hd::f.br)(hm:∀s∈ss,s∈g.sg)(hi:ss[i]?=some s):(i=0/\Er g f.hd=s)\/∃i' b,i=i' + 1/\f.br[i']?=some b/\Er g b=s:=by
 have e:(ss.map Sg.nm)[i]?=some s.nm:=by rw[aaK,hi];rfl
 rw[hn]at e;have es:=jC G.sn (hm s (aaD hi));cases i with
 |zero=>
  have e:f.hd=s.nm:=by simpa using e
  exact .inl ⟨rfl,by rw[e];exact es⟩
 |succ i'=>exact .inr ⟨i',s.nm,rfl,by simpa using e,es⟩
variable{N:Nat}{e:Vl}
theorem Bu(G:EK g)(hn:ss.map Sg.nm=f.hd::f.br)(hm:∀s∈ss,s∈g.sg)(he:e∈z8 N 0 ss):xb g f (ip e):=by
 obtain⟨i,j,b,s,pr,h1,h2,rfl⟩:=iz N ss 0 e he;have pv:pr.1∈db s:=by
  unfold db;refine List.mem_map.mpr ⟨pr,?_,rfl⟩;rcases h2 with⟨_,h⟩|⟨_,h⟩
  ·exact abe _ (aaD h)
  ·exact aaV _ (aaD h)
 rcases qH G hn hm h1 with⟨rfl,e⟩|⟨i',c,rfl,hb,e⟩
 ·exact .inl ⟨rfl,by rw[e];exact pv⟩
 ·exact .inr ⟨i',c,hb,by show(((0+(i' + 1):Nat)):Int)=_;lia,by rw[e];exact pv⟩
def Qt.nm(h:Qt g)(G:EK g):xk g:=λf hf r hr q hq=>by obtain⟨ss,h1,h2,_,h3⟩:=h f hf;obtain⟨_,_,e,_,_,hl⟩:=h3 r hr;obtain⟨e',Mj,_,rfl⟩:=hl q hq;exact Bu G h1 h2 Mj
variable{p:List Int}
theorem zt(G:EK g){u:Tr}{s0:Str}(h:fit (n9 g) t=some s0)(hu:atT p t=some u)(hn:ss.map Sg.nm=(Ds g u.nm).hd::(Ds g u.nm).br)(hm:∀s∈ss,s∈g.sg){pr:Str×Str}(h1:ss[i]?=some s)(h2:(b=0/\s.dn[j]?=some pr)\/(b=1/\s.up[j]?=some pr)):
 Rv g t (bM p ((i:Int),pr.1)) j b/\(bM p ((i:Int),pr.1)).1=(if i=0 then p else p++[(i:Int)]):=by
 rcases qH G hn hm h1 with⟨rfl,e⟩|⟨i',c,rfl,hb,e⟩
 ·refine⟨⟨u,?_,pr,by unfold sgn;rw[e];exact h2,rfl⟩,rfl⟩;exact hu
 ·obtain⟨_,_,fb⟩:=bT G h hu;have hl:=fQ fb;obtain⟨ch,hc⟩:=ax (xs:=u.bs) (i:=i') (by have:=ao hb;lia);obtain⟨b',g1,g2,g3⟩:=dN G h hu hc;rw[hb]at g1;cases g1;have es:(bM p (((i' + 1:Nat):Int),pr.1)).1=p++[((i' + 1:Nat):Int)]:=by
   show(if((i' + 1:Nat):Int)=0 then p else p++[((i' + 1:Nat):Int)])=_;rw[aaR (by lia)]
  refine⟨⟨ch,?_,pr,by rw[g3,e];exact h2,rfl⟩,by rw[es,aaR (by lia)]⟩;rw[es,show((i' + 1:Nat):Int)=(i':Int)+1 by lia];exact lV hu hc
theorem BP{k k':Nat}(hN:N<=4)(hk:k<N)(Xr:k'<N)(hj:j<=1)(hb:b<=1)(Ee:b'<=1)(h:rk N k' j b'<rk N k j b):LL (yY j b' (if k'=0 then p else p++[(k':Int)])) (yY j b (if k=0 then p else p++[(k:Int)])):=by
 have cd:∀(k b:Nat),yY j b (if k=0 then p else p++[(k:Int)])=p.map (WW j)++(if k=0 then[199*b]else[WW j (k:Int),199*b]):=λk b=>by
  unfold yY;by_cases e:k=0
  ·rw[aaY e,aaY e]
  ·rw[aaR e,aaR e,aaX,abr];rfl
 rw[cd,cd];refine LL.pre _ ?_;unfold rk at h;unfold WW;rw[ab7,ab7];obtain rfl|rfl:b=0\/b=1:=by lia
 all_goals obtain rfl|rfl:b'=0\/b'=1:=by lia
 all_goals by_cases e':k'=0
 all_goals by_cases e:k=0
 all_goals by_cases j0:j=0
 all_goals by_cases kk:k'=k
 all_goals simp only[e',e,j0,ac6,abV]at h⊢
 all_goals first
  |exact .head (by lia)
  |exact absurd h (by lia)
  |(subst kk;exact .tail (.head (by lia)))
  |(exfalso;lia)
theorem jN(gt:GT g t)(rg:Qt g){e:aP}(hs:sp∈aM g t)(he:e∈aX g t sp):Gm g t e sp:=by
 obtain⟨s0,h0⟩:=gt.ft;rcases jf gt.G h0 hs with z|⟨p,u,r,hu,hr,rfl⟩
 ·rw[z]at he;exact nomatch he
 obtain⟨_,z⟩:=lO gt.G h0 hu hr;rw[z]at he;obtain⟨q,hq,rfl⟩:=List.mem_map.mp he;obtain⟨ss,hn,hm,l4,hl⟩:=rg _ (bT gt.G h0 hu).1;obtain⟨_,_,ev,hev,kev,low⟩:=hl r hr;obtain⟨ev',hev',lt,rfl⟩:=low q hq;obtain⟨i,j,b,s,pr,h1,h2,rfl⟩:=iz _ ss 0 ev hev;obtain⟨i',j',b',s',ZR,Lq,Ri,rfl⟩:=iz _ ss 0 ev' hev';rw[<-kev];have A:=zt gt.G h0 hu hn hm h1 h2;have A':=zt gt.G h0 hu hn hm Lq Ri;have jb:∀{i j b:Nat}{s:Sg}{pr:Str×Str},ss[i]?=some s->((b=0/\s.dn[j]?=some pr)\/(b=1/\s.up[j]?=some pr))->j<=1/\b<=1:=λ{i j b s pr} h1 h2=>by
  have:=gt.G.vl s (hm s (aaD h1));rcases h2 with⟨rfl,h⟩|⟨rfl,h⟩
  ·have:=ao h;lia
  ·have:=ao h;lia
 obtain⟨j1,b1⟩:=jb h1 h2;obtain⟨j1',Yj⟩:=jb Lq Ri;have il:=ao h1;have il':=ao Lq;have lt:rk ss.length (0+i') j' b'<rk ss.length (0+i) j b:=lt;rw[acA,acA]at lt;have ek:∀(i:Nat)(pr:Str×Str)(x:Str)(y z:Int),ip ((((0+i:Nat):Int)),pr.1,x,y,z)=((i:Int),pr.1):=λi pr x y z=>by rw[acA];rfl
 rw[ek,ek];refine⟨j',b',j,b,A'.1,A.1,?_⟩;rw[A'.2,A.2];by_cases jj:j'=j
 ·subst jj;exact .inr ⟨rfl,BP l4 il il' j1 b1 Yj lt⟩
 ·refine .inl ?_;unfold rk at lt;by_cases e':i'=0
  ·rw[aaY e']at lt;by_cases e:i=0
   ·rw[aaY e]at lt;lia
   ·rw[aaR e]at lt;by_cases j0:j=0
    ·rw[aaY j0]at lt;lia
    ·lia
  ·rw[aaR e']at lt;by_cases e:i=0
   ·rw[aaY e]at lt;by_cases j0:j'=0
    ·lia
    ·rw[aaR j0]at lt;lia
   ·rw[aaR e]at lt;by_cases j0:j'=0
    ·lia
    ·rw[aaR j0]at lt;by_cases j2:j=0
     ·rw[aaY j2]at lt;lia
     ·lia
def sf(gt:GT g t)(rg:Qt g){r:List aP}(h:B6 (aX g t) r)(hs:∀x∈r,x∈aM g t):False:=by
 obtain⟨p,hp,n⟩:=h.cyc;have ps:=hs p hp;have nm:=rg.nm gt.G;have:=n (λx=>x∈aM g t/\Gm g t x p) (λq hq e he=>⟨eP gt nm hq.1 e he,(jN gt rg hq.1 he).trans gt hq.2⟩) λe he=>⟨eP gt nm ps e he,jN gt rg ps he⟩
 exact this.2.Xh gt
def IU.rk(h:IU g):Qt g:=λf hf=>by obtain⟨ss,fg⟩:=h.fm f hf;exact⟨ss,fg.fm.nm,fg.mem,fg.l4,fg.fm.dp⟩
def jR{vl:List Vl}{q:Ru}{n:Pr}(hd:depth q.tm<=12)(hp:bn q.tm<=100)(hn:named q.tm=[n])(e e':Vl)(h1:e∈vl)(h2:ip e=o4 q)(h3:e'∈vl)(h4:e'.2.2.2.1<e.2.2.2.1)(h5:ip e'=n):Bt vl q:=⟨hd,hp,e,h1,h2,λp hp=>⟨e',h3,h4,by rw[hn]at hp;rw[List.mem_singleton.mp hp];exact h5⟩⟩
def Cd(c:Int):Qt (gC c):=λf hf=>by
 have one:∀s∈[DC c],s∈(gC c).sg:=λs hs=>hs;rcases List.mem_cons.mp hf with rfl|hf
 ·refine⟨[DC c],rfl,one,(by show 1<=4;decide),λr hr=>?_⟩;rw[List.mem_singleton.mp hr];exact jR (n:=(0,aC c)) (by simp[depth,bP]) (by simp[bn,bd]) rfl (0,cC c, "num",rk 1 0 0 1,1) (0,aC c, "num",rk 1 0 0 0,0) (by simp[z8,cq,Eh,DC]) rfl (by simp[z8,cq,Eh,DC]) (by show rk 1 0 0 0<rk 1 0 0 1;decide) rfl
 ·rw[List.mem_singleton.mp hf];refine⟨[DC c,DC c,DC c,DC c],rfl,λs hs=>by
   have:s=DC c:=by simpa using hs
   rw[this];exact List.mem_singleton.mpr rfl,(by show 4<=4;decide),λr hr=>?_⟩
  have hr:r=⟨2,aC c,.val 1 (cC c)⟩\/r=⟨1,aC c,.val 0 (aC c)⟩\/r=⟨0,cC c,.val 3 (cC c)⟩\/r=⟨3,aC c,.call "sub" [.val 2 (cC c),.mark]⟩:=by simpa [cm]using hr
  rcases hr with rfl|rfl|rfl|rfl
  ·exact jR (n:=(1,cC c)) (by simp[depth,bP]) (by simp[bn,bd]) rfl (2,aC c, "num",rk 4 2 0 0,0) (1,cC c, "num",rk 4 1 0 1,1) (by simp[z8,cq,Eh,DC]) rfl (by simp[z8,cq,Eh,DC]) (by show rk 4 1 0 1<rk 4 2 0 0;decide) rfl
  ·exact jR (n:=(0,aC c)) (by simp[depth,bP]) (by simp[bn,bd]) rfl (1,aC c, "num",rk 4 1 0 0,0) (0,aC c, "num",rk 4 0 0 0,0) (by simp[z8,cq,Eh,DC]) rfl (by simp[z8,cq,Eh,DC]) (by show rk 4 0 0 0<rk 4 1 0 0;decide) rfl
  ·exact jR (n:=(3,cC c)) (by simp[depth,bP]) (by simp[bn,bd]) rfl (0,cC c, "num",rk 4 0 0 1,1) (3,cC c, "num",rk 4 3 0 1,1) (by simp[z8,cq,Eh,DC]) rfl (by simp[z8,cq,Eh,DC]) (by show rk 4 3 0 1<rk 4 0 0 1;decide) rfl
  ·exact jR (n:=(2,cC c)) (by simp[depth,bP]) (by simp[bn,bd]) rfl (3,aC c, "num",rk 4 3 0 0,0) (2,cC c, "num",rk 4 2 0 1,1) (by simp[z8,cq,Eh,DC]) rfl (by simp[z8,cq,Eh,DC]) (by show rk 4 2 0 1<rk 4 3 0 0;decide) rfl
theorem EM.rk{g:Gr}{t:Tr}(h:EM g t):Qt g:=by
 rcases h.kind with k|⟨c,rfl⟩
 ·exact k.rk
 ·exact Cd c
noncomputable def zm(f:Fm)(ri:Nat)(r:Ru)(tm:Tm):Fm:=⟨f.nm,f.hd,f.br,f.ru.set ri ⟨r.k,r.nm,tm⟩⟩
noncomputable def uq(g:Gr)(fi:Nat)(f:Fm)(ri:Nat)(r:Ru)(tm:Tm):Gr:=⟨g.sg,g.fm.set fi (zm f ri r tm)⟩
structure Hi(g:Gr)(fi:Nat)(f:Fm)(ri:Nat)(r:Ru)(tm:Tm):Prop where
 hf:g.fm[fi]?=some f
 hr:f.ru[ri]?=some r
 dp:depth tm<=12
 pt:bn tm<=1000
 nm:∀q∈named tm,xb g f q
variable{x y:Fm}
section
variable{g:Gr}{fi ri:Nat}{f:Fm}{r:Ru}{tm:Tm}
def dH(h:α->β){l:List α}{a b:α}(ha:l[i]?=some a)(e:h b=h a):(l.set i b).map h=l.map h:=by
 rw[List.map_set,e];refine ad1 λj=>?_;rw[List.getElem?_set];by_cases hj:i=j
 ·subst hj;have hl:=ao ha;rw[aaY rfl,aaG,aaY hl,aaK,ha];rfl
 ·rw[aaR hj]
def ik{l:List α}{b x:α}(h:x∈l.set i b):x∈l\/x=b:=by
 rcases List.mem_or_eq_of_mem_set h with h|h
 ·exact .inl h
 ·exact .inr h
def Hi.keys(h:Hi g fi f ri r tm):(zm f ri r tm).ru.map o4=f.ru.map o4:=dH o4 (b:=⟨r.k,r.nm,tm⟩) h.hr rfl
def Hi.Gd(h:Hi g fi f ri r tm)(hx:x∈(uq g fi f ri r tm).fm):∃y∈g.fm,x.nm=y.nm/\x.hd=y.hd/\x.br=y.br/\x.ru.map o4=y.ru.map o4/\∀q∈x.ru,q∈y.ru\/(y=f/\q=⟨r.k,r.nm,tm⟩):=by
 rcases ik hx with hx|rfl
 ·exact⟨x,hx,rfl,rfl,rfl,rfl,λq hq=>.inl hq⟩
 ·refine⟨f,aaD h.hf,rfl,rfl,rfl,h.keys,λq hq=>?_⟩;rcases ik (show q∈f.ru.set ri ⟨r.k,r.nm,tm⟩from hq)with z|z
  ·exact .inl z
  ·exact .inr ⟨rfl,z⟩
def qX(n:Str):Er (uq g fi f ri r tm) n=Er g n:=rfl
def yN(e1:x.hd=y.hd)(e2:x.br=y.br)(k:Int)(n:Str):SP.Due (uq g fi f ri r tm) x k n↔SP.Due g y k n:=by unfold SP.Due;simp only[qX,e1,e2]
def Hi.F(h:Hi g fi f ri r tm)(G:EK g):EK (uq g fi f ri r tm) where
 sn:=G.sn
 fn:=by show((g.fm.set fi (zm f ri r tm)).map Fm.nm).Nodup;rw[dH Fm.nm (b:=zm f ri r tm) h.hf rfl];exact G.fn
 ls:=G.ls
 lf:=by show(g.fm.set fi _).length<=10;rw[List.length_set];exact G.lf
 vn:=G.vn
 vl:=G.vl
 hd:=λx hx=>by obtain⟨y,hy,_,e,_⟩:=h.Gd hx;rw[e];exact G.hd y hy
 br:=λx hx=>by obtain⟨y,hy,_,_,e,_⟩:=h.Gd hx;rw[e];exact G.br y hy
 rn:=λx hx=>by obtain⟨y,hy,_,_,_,e,_⟩:=h.Gd hx;rw[e];exact G.rn y hy
 rl:=λx hx=>by obtain⟨y,hy,_,_,_,e,_⟩:=h.Gd hx;have:=abk List.length e;rw[aaG,aaG]at this;rw[this];exact G.rl y hy
 rd:=λx hx k n=>by obtain⟨y,hy,_,e1,e2,e,_⟩:=h.Gd hx;rw[e,yN e1 e2];exact G.rd y hy k n
theorem Hi.W(h:Hi g fi f ri r tm)(W:Wh g):Wh (uq g fi f ri r tm) where
 sw:=W.sw
 fw:=λx hx=>by obtain⟨y,hy,e,_⟩:=h.Gd hx;rw[e];exact W.fw y hy
 tw:=λx hx q hq=>by
  obtain⟨y,hy,_,_,_,_,hc⟩:=h.Gd hx;rcases hc q hq with z|⟨_,z⟩
  ·exact W.tw y hy q z
  ·rw[z];exact⟨h.dp,h.pt⟩
theorem Hi.n9(h:Hi g fi f ri r tm):n9 (uq g fi f ri r tm)=n9 g:=dH vI (b:=zm f ri r tm) h.hf rfl
theorem Hi.gt(h:Hi g fi f ri r tm){t:Tr}(gt:GT g t):GT (uq g fi f ri r tm) t:=⟨h.F gt.G,h.W gt.W,by rw[h.n9];exact gt.ft,gt.sz⟩
def wf(e1:x.hd=y.hd)(e2:x.br=y.br){q:Pr}(hq:xb g y q):xb (uq g fi f ri r tm) x q:=by unfold xb at hq⊢;simp only[qX,e1,e2];exact hq
def Hi.Sa(h:Hi g fi f ri r tm)(nm:xk g):xk (uq g fi f ri r tm):=λx hx q hq p hp=>by
 obtain⟨y,hy,_,e1,e2,_,hc⟩:=h.Gd hx;rcases hc q hq with z|⟨rfl,z⟩
 ·exact wf e1 e2 (nm y hy q z p hp)
 ·rw[z]at hp;exact wf e1 e2 (h.nm p hp)
end
def KdG(g:Gr):Prop:=∀s∈g.sg,∀p∈s.dn++s.up,p.2∈cK
def Rp(g:Gr)(H:Hp)(v:V):Prop:=∃(p:Addr)(fi ri:Nat)(f:Fm)(r:Ru),v=.ref p/\H p=some (.tup [.int (fi:Int),.int (ri:Int)])/\g.fm[fi]?=some f/\f.ru[ri]?=some r
def Rp.same{H H':Hp}{v:V}(s:d_ H H')(h:Rp g H v):Rp g H' v:=let⟨p,fi,ri,f,r,a,b,c⟩:=h;⟨p,fi,ri,f,r,a,s _ _ b,c⟩
noncomputable def Fc(g:Gr)(k:Nat):List Str->List Vl
 |[]=>[]
 |b::bs=>((Er g b).dn++(Er g b).up).map (λp=>((k:Int),p.1,p.2,0,0))++Fc g (k+1) bs
theorem mf(g:Gr):∀(l:List Str)(k:Nat)(b:Str),Fc g k (l++[b])=Fc g k l++((Er g b).dn++(Er g b).up).map (λp=>(((k+l.length:Nat):Int),p.1,p.2,0,0))
 |[],k,b=>by simp[Fc]
 |x::l,k,b=>by rw[abZ,Fc,Fc,mf g l (k+1) b,abr,aaM,show k+1+l.length=k+(l.length+1)by lia]
theorem yX{B:Hp->α->V->Prop}{K:W.Frag}{a:Addr}{us:List V}{G:List α}{js:List Nat}{tc:TT}{te:TE}{σ:St}{Q:VK}{D:Addr}{H1:Hp}{R:Hp->α->V->Prop}(sB:∀H H' f v,d_ H H'->B H f v->B H' f v)(st:∀H H' f v,d_ H H'->R H f v->R H' f v)(pr:α->Bool)(hz:us.length<sizeLine)(ha:H1 a=some (.lst us))(v_:g_ (B H1) G us)(hD:H1 D=none)(hc:∀f v H,f∈G->B H f v->a_ H1 H->∀Q':Bool->Hp->Prop,(∀H',a_ H H'->Q' (pr f) H')->tc (some v::bp js σ) H Q')(he:∀f v H,f∈G->B H f v->a_ H1 H->∀Q':VK,(∀y H',a_ H H'->R H' f y->Q' y H')->te (some v::bp js σ) H Q')(hq:∀ys H',a_ H1 H'->H' D=some (.lst ys)->g_ (R H') (G.filter pr) ys->Q (.ref D) H'):gZ (HK K a) js tc te σ Q D H1:=by
 have Ei:=v_.len;refine⟨λi m acc H=>m=us.length-i/\i<=us.length/\a_ H1 H/\H D=some (.lst acc)/\g_ (R H) ((G.take i).filter pr) acc,⟨us.length,by simp,aa3 _,ac hD _,aa,.nil⟩,?_⟩;rintro i m acc H ⟨hm,hi,sm,Ir,hr⟩;have la:=hr.len;have lf:((G.take i).filter pr).length<=i:=abg (aeC _ _) (by rw[aaZ];lia);refine⟨Ir,by lia,?_⟩;by_cases o9:i<us.length
 ·refine .inr ⟨⟨us,us[i],d9.of (sm _ _ ha),by simp[o9]⟩,λx H' y=>?_⟩;obtain⟨e,y⟩:=y;subst e;have hx:=y us (d9.of (sm _ _ ha));obtain⟨f,hf,Ur⟩:=v_.get hx;have fm:=aaD hf;refine hc f x _ fm (sB _ _ _ _ (am sm) Ur) sm _ λH2 s2=>?_;have Dz:=s2 _ _ Ir;have et:(G.take (i+1)).filter pr=(G.take i).filter pr++[f].filter pr:=by rw[aH hf,acj]
  cases hp:pr f with
  |true=>
   rw[aaY rfl];refine he f x H2 fm (sB _ _ _ _ (am (sm.trans s2)) Ur) (sm.trans s2) _ λy H3 s3 hR=>⟨s3 _ _ Dz,us.length-(i+1),by lia,rfl,by lia,aL hD (sm.trans (s2.trans s3)),aa,?_⟩
   have tD:=aJ (ys:=acc++[y]) (s3 _ _ Dz);rw[et,abQ hp,adx];exact(hr.imp λf v h=>st _ _ f v ((am (s2.trans s3)).trans tD) h).snoc (st _ _ _ _ tD hR)
  |false=>
   rw[aaR (by simp)];refine⟨us.length-(i+1),by lia,rfl,by lia,sm.trans s2,Dz,?_⟩;rw[et,abX (by simp[hp]),adx,aby];exact hr.imp λf v h=>st _ _ f v (am s2) h
 ·have e:i=us.length:=by lia
  subst e;rw[Ei,abO]at hr;exact .inl ⟨⟨us,d9.of (sm _ _ ha),aaI _⟩,hq acc H sm Ir hr⟩
theorem fW(g:Gr):∀(bs:List Str)(k:Nat)(e:Vl),e∈Fc g k bs↔∃(i:Nat)(b:Str)(p:Str×Str),bs[i]?=some b/\p∈(Er g b).dn++(Er g b).up/\e=(((k+i:Nat):Int),p.1,p.2,0,0)
 |[],k,e=>by
  rw[Fc];exact⟨(λh=>nomatch h),λ⟨i,b,p,h,_⟩=>by simp at h⟩
 |c::bs,k,e=>by
  rw[Fc,adw,fW g bs (k+1) e,List.mem_map];constructor
  ·rintro(⟨p,hp,rfl⟩|⟨i,b,p,h1,h2,rfl⟩)
   ·exact⟨0,c,p,rfl,hp,rfl⟩
   ·exact⟨i+1,b,p,by simpa using h1,h2,by rw[show k+1+i=k+(i+1)by lia]⟩
  ·rintro⟨i,b,p,h1,h2,rfl⟩;cases i with
   |zero=>cases h1;exact .inl ⟨p,h2,rfl⟩
   |succ i=>exact .inr ⟨i,b,p,by simpa using h1,h2,by rw[show k+1+i=k+(i+1)by lia]⟩
theorem zv(h:e∈Fc g 0 (f.hd::f.br)):xb g f (ip e):=by
 obtain⟨i,b,p,h1,h2,rfl⟩:=(fW g _ 0 e).mp h;have pv:p.1∈db (Er g b):=List.mem_map.mpr ⟨p,h2,rfl⟩;cases i with
 |zero=>cases h1;exact .inl ⟨rfl,pv⟩
 |succ i=>exact .inr ⟨i,b,by simpa using h1,by show(((0+(i+1):Nat)):Int)=_;lia,pv⟩
theorem Bc{k:Int}{n:Str}(h:SP.Due g f k n):∃e∈Fc g 0 (f.hd::f.br),e.1=k/\e.2.1=n:=by
 rcases h with⟨rfl,hn⟩|⟨i,b,hb,rfl,hn⟩
 ·obtain⟨p,hp,rfl⟩:=List.mem_map.mp hn;exact⟨_,(fW g _ 0 _).mpr ⟨0,f.hd,p,rfl,aaV _ hp,rfl⟩,rfl,rfl⟩
 ·obtain⟨p,hp,rfl⟩:=List.mem_map.mp hn;exact⟨_,(fW g _ 0 _).mpr ⟨i+1,b,p,by simpa using hb,abe _ hp,rfl⟩,by show(((0+(i+1):Nat)):Int)=_;lia,rfl⟩
theorem iS{α:Type}{R:α->V->Prop}:∀{as:List α}{us:List V}(i:Nat){a:α}{v:V},g_ R as us->i<as.length->R a v->g_ R (as.set i a) (us.take i++[v]++us.drop (i+1))
 |_,_,_,_,_,.nil,h,_=>absurd h (acn _)
 |_,_,0,_,_,.cons _ t,_,hR=>.cons hR t
 |_,_,i+1,_,_,.cons h t,hi,hR=>.cons h (iS i t (Nat.lt_of_succ_lt_succ hi) hR)
inductive qS(vs:List V)(H:Hp)(Q:VK)(e0:XK):Prop
 |mk (g:Gr) (vg:V) (c:Int):(vs=[vg,.int c])->o7 H g vg->EK g->KdG g->(∀H',a_ H H'->Q vg H')->(∀fi f ri r tm v H',a_ H H'->Hi g fi f ri r tm->o7 H' (uq g fi f ri r tm) v->Q v H')->qS vs H Q e0
variable{P:Program}{w:World}{K:W.Frag}{mg:Str->Option Value}{base:Heap}{T:Rx}
theorem vk(X:Tx K mg T):i6 P w K mg base A6 3 T.Zt T.J8 ["_law_grammar_here", "_law_cell"] qS:=by
 have KD:=rT (P:=P) (w:=w) (base:=base) X;refine X.Oi.Dy r9 (λvs H Q E h=>?_) (λm_ A outer s H vs Q E hr h=>?_)
 ·obtain⟨_,_,_,rfl,_⟩:=h;rfl
 obtain⟨g,vg,c,rfl,hg,G,kd,q0,q⟩:=h;refine⟨_,(ag (au (i:=2) r9.nd rfl oI1 (aR ae)) (ag (bh aa8 rfl (aZ rfl X.z_range (Dw (aB av rfl X.z_len aa6 (q_ (aj ak (qv 0) af) ae)) ae)) (ay (i:=3) r9.nd rfl oI1) (ai (bh aa8 rfl (aZ rfl X.z_range (Dw (aB av rfl X.z_len aa6 (q_ (aj ak (aj ak (aj ak (qv 0) af) (qv 3)) af) ae)) ae)) (ay (i:=4) r9.nd rfl oJ1) (ai (bK (eL aaL abo abn bo (qv 2) (u9 (aq (b_ (qv 3) (b_ (qv 4) ae))) ae))))))) (ag (bz (aE (mK hr.units) (qv 2) (aR ae) (aS _)) (ai (aG (qv 0))) aK) (ag (jE (aj aO (qv 2) (ar aN (qv 1) (aB av rfl X.z_len aa6 (b_ (qv 2) ae)))) (fA rfl (aW (ay (i:=3) r9.nd rfl oI1) (aW (ay (i:=4) r9.nd rfl oJ1) cH)))) (ag (au (i:=5) r9.nd rfl oJ1 (aj ak (aj ak (qv 0) af) (qv 3))) (ag (au (i:=6) r9.nd rfl oI1 (aR ae)) (ag (bh aa8 rfl (aZ rfl X.z_range (Dx (ar bJ af (aB av rfl X.z_len aa6 (q_ (aj ak (qv 5) af) ae))) ae)) (ay (i:=7) r9.nd rfl oJ1) (ag (au (i:=8) r9.nd rfl oI1 (aj aO (bG (ys:=["_law_form_here", "_law_k"]) (js:=[5,7]) rfl rfl (cr (aj ak (qv 0) af)) (λ_ _ _ _ _=>df (aE bS (aj (bc (K:=K) rfl) (qv 0) af) (aj (bc (K:=K) rfl) (ar bZ (aq (q_ (aj (bc (K:=K) rfl) (qv 1) af) ae)) (aj (bc (K:=K) rfl) (qv 1) af)) (qv 2)) (aS _))) (λ_ _ _ _ _=>(qv 0))) af)) (ai (au (i:=6) r9.nd rfl oI1 (ar mL (qv 6) (iJ (ts:=["_law_name", "_law_kind"]) (ys:=["_law_k"]) (js:=[7]) rfl rfl (cr (ar bZ (aj ak (qv 8) af) (aj ak (qv 8) af))) (λ_ _ _ _ _=>kP (K:=K) (n:=2) rfl rfl (aW (ay (i:=0) (show(["_law_name", "_law_kind", "_law_k"]:List Str).Nodup by decide) rfl oI1) (aW (ay (i:=1) (show(["_law_name", "_law_kind", "_law_k"]:List Str).Nodup by decide) rfl oI1) cH))) (λ_ _ _ _ _=>bE) (λ_ _ _ _ _=>(aq (b_ (qv 2) (b_ (qv 0) (b_ (qv 1) ae))))))))))) (ag (au (i:=9) r9.nd rfl oI1 (aj aO (bG (ys:=["_law_r", "_law_form_here"]) (js:=[4,5]) rfl rfl (bA (qv 6)) (λ_ _ _ _ _=>df (kO (wD (aE bS (aj (bc (K:=K) rfl) (qv 0) af) (aj (bc (K:=K) rfl) (aj (bc (K:=K) rfl) (aj (bc (K:=K) rfl) (qv 2) af) (qv 1)) af) (aS _)) (rD (aE bS (aj (bc (K:=K) rfl) (qv 0) af) (aj (bc (K:=K) rfl) (aj (bc (K:=K) rfl) (aj (bc (K:=K) rfl) (qv 2) af) (qv 1)) af) (aS _)))))) (λ_ _ _ _ _=>(aj (bc (K:=K) rfl) (qv 0) af))) af)) (ag (au (i:=10) r9.nd rfl oI1 (aR (q_ (aj aO (qv 6) (ar aN (ar aU (qv 1) af) (aB av rfl X.z_len aa6 (b_ (qv 6) ae)))) (q_ (aj aO (qv 6) (ar aN (ar aU (qv 1) af) (aB av rfl X.z_len aa6 (b_ (qv 6) ae)))) ae)))) (ag (au (i:=11) r9.nd rfl oI1 (aq (q_ (aj ak (aj ak (aj ak (qv 5) af) (qv 4)) af) (q_ (aj ak (aj ak (aj ak (qv 5) af) (qv 4)) af) (Dw (aw KD hr rfl X.MW X.KW.kp X.NI .nil bg (b_ (qv 9) (b_ (qv 10) (Dx (ar aU (qv 1) af) ae)))) ae))))) (ag (au (i:=5) r9.nd rfl oJ1 (aq (q_ (aj ak (qv 5) af) (q_ (aj ak (qv 5) af) (q_ (aj ak (qv 5) af) (Dx (ar bZ (ar bZ (bQ eY (aj ak (qv 5) af) cx (cw (qv 4))) (aq (b_ (qv 11) ae))) (bQ eY (aj ak (qv 5) af) (cw (ar bJ (qv 4) af)) cx)) ae)))))) (ai (aG (aq (q_ (aj ak (qv 0) af) (Dx (ar bZ (ar bZ (bQ eY (aj ak (qv 0) af) cx (cw (qv 3))) (aq (b_ (qv 5) ae))) (bQ eY (aj ak (qv 0) af) (cw (ar bJ (qv 3) af)) cx)) ae)))))))))))))))),?_⟩;dsimp only[cg];obtain⟨gp,QN,fa,IB,D4,rfl,FY,JC,Pw,E3,Mh⟩:=id hg;have lf:=G.lf;have lfus:=Mh.len;refine bt λN1 y1=>?_;refine⟨Z0,λL hL0=>?_⟩;refine y1 _ _ ?_;have s0:=ac hL0 (.lst []);have hL:=aa (H:=H) (a:=L) (o:=.lst []);generalize upd H L (.lst [])=H0 at s0 hL⊢;refine bt λN2 y2=>?_;refine⟨_,rfl,gp,_,1,.ref fa,rfl,rfl,b9.of (s0 _ _ FY),rfl,fa,_,rfl,.inr (b9.of (s0 _ _ E3)),_,rfl,by lia,by lia,?_⟩;refine bN (n:=((D4.length:Nat):Int).toNat) (λi σ H'=>∃(ps:List V)(x3 x4:Option V),σ=[some (.ref gp),some (.int c),some (.ref L),x3,x4,none,none,none,none,none,none,none]/\a_ H H'/\H' L=some (.lst ps)/\(∀v∈ps,Rp g H' v)/\ps.length<=10*i) ⟨[],none,none,rfl,s0,hL,(λv hv=>nomatch hv),aa3 _⟩ ?_ ?_
 ·rintro i σ H1 hi ⟨ps,x3,x4,rfl,sm,Mq,DJ,SO⟩;obtain⟨f,hf⟩:=ax (xs:=g.fm) (i:=i) (by lia);obtain⟨vf,Jz,Us⟩:=bw Mh hf;obtain⟨fp,br,rb,FD,rfl,En,Xw,JF,JE⟩:=id Us;have lrus:=JE.len;have lru:=G.rl f (aaD hf);refine⟨_,rfl,gp,_,1,.ref fa,rfl,rfl,b9.of (sm _ _ FY),rfl,_,rfl,fa,D4,_,.ref fp,rfl,rfl,b9.of (sm _ _ E3),by rw[ack];exact aV Jz,fp,_,3,.ref rb,rfl,rfl,b9.of (sm _ _ En),rfl,rb,_,rfl,.inr (b9.of (sm _ _ JF)),_,rfl,by lia,by lia,?_⟩;refine bN (n:=((FD.length:Nat):Int).toNat) (λj σ H'=>∃(ps:List V)(x4:Option V),σ=[some (.ref gp),some (.int c),some (.ref L),some (.int (0+(i:Int))),x4,none,none,none,none,none,none,none]/\a_ H H'/\H' L=some (.lst ps)/\(∀v∈ps,Rp g H' v)/\ps.length<=10*i+j) ⟨ps,x4,rfl,sm,Mq,DJ,by lia⟩ ?_ ?_
  ·rintro j σ H2 hj ⟨ps,x4,rfl,sm,Hz,DJ,SO⟩;obtain⟨r,y_⟩:=ax (xs:=f.ru) (i:=j) (by lia);refine⟨_,rfl,.inl ⟨rfl,_,d9.of Hz⟩,_,rfl,_,rfl,Z2,λp hp=>?_⟩;have s3:=ac hp (.tup [.int (0+(i:Int)),.int (0+(j:Int))]);have Tu:=aa (H:=H2) (a:=p) (o:=.tup [.int (0+(i:Int)),.int (0+(j:Int))]);have Rh:=s3 _ _ Hz;refine⟨L,_,.ref p,rfl,rfl,Rh,abz (show ps.length<=1000 by lia) (by decide),?_⟩;refine⟨ps++[.ref p],_,rfl,aL hL0 (sm.trans s3),aa,λv hv=>?_,by rw[aaF,aaS];lia⟩;rcases List.mem_append.mp hv with z|z
   ·exact((DJ v z).same (am s3)).same (tL Rh)
   ·rw[List.mem_singleton.mp z];exact⟨p,i,j,f,r,rfl,(tL Rh _ _ Tu).trans (by rw[ack,ack]),hf,y_⟩
  ·rintro σ H2 ⟨ps,x4,rfl,sm,Hz,DJ,SO⟩;exact⟨ps,_,_,rfl,sm,Hz,DJ,by lia⟩
 rintro σ H1 ⟨ps,x3,x4,rfl,sm,Mq,DJ,SO⟩;refine y2 _ _ ?_;refine bt λN3 y3=>?_;refine⟨_,rfl,Z0,λe0 JN=>?_⟩;have se:=ac JN (.lst []);refine⟨L,e0,_,rfl,rfl,d9.of (se _ _ Mq),d9.of aa,_,rfl,?_⟩;have RS:=sm.trans se;have Hz:=se _ _ Mq;have PK:∀v∈ps,Rp g (upd H1 e0 (.lst [])) v:=λv hv=>(DJ v hv).same (am se);generalize upd H1 e0 (.lst [])=H2 at se RS Hz PK⊢;refine cL (λ_=>⟨_,rfl,q0 _ RS⟩) (λEY=>?_);refine y3 _ _ ?_;have lpos:0<ps.length:=List.length_pos_iff.mpr EY;obtain⟨v,hv,vm⟩:=Bf (xs:=ps) (i:=c%((ps.length:Nat):Int)) (abc _ (by lia)) (aa5 _ (by lia));obtain⟨p,fi,ri,f,r,rfl,hp,hf,y_⟩:=PK v vm;refine bt λN4 y4=>?_;refine⟨_,rfl,_,rfl,_,rfl,L,_,rfl,.inl (d9.of Hz),_,_,rfl,rfl,(by show(0:Int)<(ps.length:Int);lia),L,_,_,.ref p,rfl,rfl,d9.of Hz,hv,p,_,rfl,b9.of hp,rfl,_,_,rfl,_,_,rfl,rfl,?_⟩;refine y4 _ _ ?_;obtain⟨vf,Jz,Us⟩:=bw Mh hf;obtain⟨fp,br,rb,FD,rfl,En,Xw,JF,JE⟩:=id Us;refine bt λN5 y5=>?_;refine⟨_,rfl,gp,_,1,.ref fa,rfl,rfl,b9.of (RS _ _ FY),rfl,_,rfl,fa,D4,_,.ref fp,rfl,rfl,b9.of (RS _ _ E3),aV Jz,?_⟩;refine y5 _ _ ?_;clear DJ PK EY lpos hv vm hp Hz Mq hL se sm s0 SO;refine bt λN6 y6=>?_;refine⟨Z0,λS0 hS0=>?_⟩;refine y6 _ _ ?_;have s3:=RS.trans (ac hS0 (.lst []));have Xz:=aa (H:=H2) (a:=S0) (o:=.lst []);generalize upd H2 S0 (.lst [])=H3 at s3 Xz⊢;have lbr:=(G.br f (aaD hf)).1;refine bt λN7 y7=>?_;refine⟨_,rfl,fp,_,2,.ref br,rfl,rfl,b9.of (s3 _ _ En),rfl,br,_,rfl,.inr (b9.of (s3 _ _ Xw)),_,_,rfl,rfl,_,rfl,by rw[aaG];lia,by rw[aaG];lia,?_⟩;have nbl:∀k,k<(1+((f.br.map V.str).length:Int)).toNat->∃b,(f.hd::f.br)[k]?=some b/\∃s∈g.sg,s.nm=b:=λk hk=>by
  rw[aaG]at hk;obtain⟨b,hb⟩:=ax (xs:=f.hd::f.br) (i:=k) (by rw[aaM];lia);refine⟨b,hb,?_⟩;rcases List.mem_cons.mp (aaD hb)with rfl|hm
  ·exact G.hd f (aaD hf)
  ·exact(G.br f (aaD hf)).2 b hm
 have Xg:=G.ls;have lsus:=Pw.len;refine bN (n:=(1+((f.br.map V.str).length:Int)).toNat) (λk σ H'=>∃(S:Addr)(us:List V)(x7 x8:Option V),σ=[some (.ref gp),some (.int c),some (.ref L),some (.int (fi:Int)),some (.int (ri:Int)),some (.ref fp),some (.ref S),x7,x8,none,none,none]/\a_ H H'/\H' S=some (.lst us)/\g_ (FO H') (Fc g 0 ((f.hd::f.br).take k)) us/\us.length<=4*k) ⟨S0,[],none,none,rfl,s3,Xz,.nil,aa3 _⟩ ?_ ?_
 ·rintro k σ H4 hk ⟨S,us,x7,x8,rfl,s4,Mp,v_,Ei⟩;obtain⟨b,hb,sx,hsx,hnm⟩:=nbl k hk;refine bt λN8 y8=>?_;refine⟨_,rfl,gp,_,0,.ref QN,rfl,rfl,b9.of (s4 _ _ FY),rfl,QN,rfl,⟨_,b9.of (s4 _ _ JC)⟩,λD hD=>?_⟩;refine fu (K:=K) (B:=p8) (a:=QN) (us:=IB) (G:=g.sg) (R:=p8) (λ_ _ _ _ e h=>p8.same e h) (λ_ _ _ _ e h=>p8.same e h) (λs=>decide (s.nm=b)) (bO (by lia)) (s4 _ _ JC) (Pw.imp λ_ _ h=>p8.same (am s4) h) hD (λs' v' G1 WY Lh s5 Q' kk=>?_) (λs' v' G1 WY Lh s5 Q' kk=>?_) (λos G1 s5 GA Ej=>?_)
  ·have Ho:=s4.trans s5;obtain⟨p',a',b',Gu,ws',rfl,DK,_⟩:=id Lh;refine⟨_,rfl,p',_,0,_,rfl,rfl,b9.of DK,rfl,_,rfl,fp,_,1,.str f.hd,rfl,rfl,b9.of (Ho _ _ En),rfl,Z1,λt1 h1=>?_⟩;have s6:=ac h1 (.tup [.str f.hd]);refine⟨_,rfl,fp,_,2,.ref br,rfl,rfl,b9.of (s6 _ _ (Ho _ _ En)),rfl,t1,br,_,_,rfl,rfl,aa,s6 _ _ (Ho _ _ Xw),cF (by rw[aaG];show 1+f.br.length<=100000;lia),λt2 G3 s7 h7=>?_⟩;have at_:Dp ([V.str f.hd]++f.br.map V.str) (0+(k:Int))=some (.str b):=by
    rw[ack];refine aV ?_;show((f.hd::f.br).map V.str)[k]?=_;rw[aaK,hb];rfl
   refine⟨_,rfl,t2,_,_,.str b,rfl,rfl,b9.of h7,at_,rfl,_,rfl,?_⟩;have e:decide (V.str s'.nm=V.str b)=decide (s'.nm=b):=decide_eq_decide.mpr ⟨V.str.inj,λz=>by rw[z]⟩;rw[e];exact kk _ (s6.trans s7)
  ·exact⟨_,rfl,kk _ _ (a_.refl _) Lh⟩
  subst hnm;rw[dJ Sg.nm G.sn hsx]at Ej;obtain⟨y,r0,rfl,hy,_⟩:=Ej.B3;refine⟨D,_,_,y,rfl,rfl,d9.of GA,dY y r0,?_⟩;refine y8 _ _ ?_;have Ho:=s4.trans s5;obtain⟨p2,a2,b2,Yt,ws2,rfl,IG,ha2,L3,G_,S_⟩:=hy;have ld:=L3.len;have lu:=S_.len;have vl:=G.vl sx hsx;have Rf:=s5 _ _ Mp;refine⟨_,rfl,_,rfl,p2,_,1,.ref a2,rfl,rfl,b9.of IG,rfl,_,rfl,p2,_,2,.ref b2,rfl,rfl,b9.of IG,rfl,a2,b2,Yt,ws2,rfl,rfl,ha2,G_,cF (by lia),λtt G2 s6 Nf=>⟨tt,rfl,⟨_,b9.of Nf⟩,λD3 QR=>?_⟩⟩;have EU:g_ (w6 G2) (sx.dn++sx.up) (Yt++ws2):=(L3.imp λ_ _ h=>w6.same (am s6) h).app (S_.imp λ_ _ h=>w6.same (am s6) h);have HZ:=EU.len;refine iu (K:=K) (R:=λH (x:Str×Str) v=>FO H ((k:Int),x.1,x.2,0,0) v) (as:=sx.dn++sx.up) (EJ.ofT λ_ _ _ _ e h=>FO.same e h) (bO (by rw[HZ,aaF];lia)) HZ.symm (b9.of Nf) QR (λj x b H4 hx hb s7 Q' kk=>?_) (λys H4 s7 hD7 Ez=>?_)
  ·obtain⟨b',Ee,c',rfl,FI⟩:=EU.get hx;rw[hb]at Ee;cases Ee;refine⟨c',_,rfl,b9.of (s7 _ _ FI),rfl,_,_,rfl,_,_,rfl,rfl,[some (.str b.1),some (.str b.2)],rfl,rfl,?_⟩;refine⟨_,rfl,_,rfl,_,rfl,Z3,λy ny=>?_⟩;have s8:=ac ny (.tup [.int (0+(k:Int)),.str b.1,.str b.2]);exact kk _ _ s8 ⟨y,_,rfl,aa,by rw[ack];rfl,rfl,rfl⟩
  ·have Y':=s6.trans s7;have ly:=Ez.len;have hS7:=Y' _ _ Rf;rw[aaF]at ly;rw[aaG]at hk;refine⟨S,D3,us,ys,rfl,rfl,hS7,hD7,cF (by lia),λZ hZ=>?_⟩;have s8:=ac hZ (.lst (us++ys));have tk:(f.hd::f.br).take (k+1)=(f.hd::f.br).take k++[sx.nm]:=aH hb;have lk:((f.hd::f.br).take k).length=k:=by rw[aaZ];have:=ao hb;lia
   refine⟨Z,us++ys,_,_,rfl,(Ho.trans Y').trans s8,aa,?_,by rw[aaF];lia⟩;rw[tk,mf,lk,jC G.sn hsx,acA];exact(v_.imp λ_ _ h=>FO.same (am ((s5.trans Y').trans s8)) h).app ((g_.mapM (λp:Str×Str=>((k:Int),p.1,p.2,(0:Int),(0:Int))) Ez).imp λ_ _ h=>FO.same (am s8) h)
 rintro σ H4 ⟨S,us,x7,x8,rfl,s4,Mp,v_,Ei⟩;refine y7 _ _ ?_;rw[aaG]at v_ Ei;have tl:(f.hd::f.br).take (1+(f.br.length:Int)).toNat=f.hd::f.br:=aa2 (by rw[aaM];lia);rw[tl]at v_;have lus':us.length<=16:=by lia
 try dsimp only
 have hm:=aaD hf;obtain⟨vr,Pp,hrr⟩:=bw JE y_;obtain⟨rp,ru,rfl,PH,Nh⟩:=id hrr;obtain⟨e0',Uy,ek,en⟩:=Bc ((G.rd f hm r.k r.nm).mp (List.mem_map.mpr ⟨r,aaD y_,rfl⟩));refine bt λN9 y9=>?_;refine⟨_,rfl,S,rfl,⟨_,d9.of Mp⟩,λD hD=>?_⟩;refine yX (K:=K) (B:=FO) (a:=S) (us:=us) (G:=Fc g 0 (f.hd::f.br)) (R:=λ_ e v=>v=V.str e.2.2.1) (λ_ _ _ _ e h=>FO.same e h) (λ_ _ _ _ _ h=>h) (λe=>decide (e.1=r.k)&&decide (e.2.1=r.nm)) (bO (by lia)) Mp v_ hD (λe' v' G1 em Ht s5 Q' kk=>?_) (λe' v' G1 em Ht s5 Q' kk=>?_) (λos G1 s5 GA Ej=>?_)
 ·have Ho:=s4.trans s5;obtain⟨p',ET,rfl,DK,i0,i1,i2⟩:=id Ht;refine⟨_,rfl,p',ET,0,_,rfl,rfl,b9.of DK,i0,_,rfl,fp,_,3,.ref rb,rfl,rfl,b9.of (Ho _ _ En),rfl,_,rfl,rb,FD,_,.ref rp,rfl,rfl,b9.of (Ho _ _ JF),aV Pp,rp,_,0,.int r.k,rfl,rfl,b9.of (Ho _ _ PH),rfl,rfl,_,rfl,?_⟩;try dsimp only
  rw[dI];refine cL (λh1=>?_) (λh1=>?_)
  ·refine⟨_,rfl,p',ET,1,_,rfl,rfl,b9.of DK,i1,_,rfl,fp,_,3,.ref rb,rfl,rfl,b9.of (Ho _ _ En),rfl,_,rfl,rb,FD,_,.ref rp,rfl,rfl,b9.of (Ho _ _ JF),aV Pp,rp,_,1,.str r.nm,rfl,rfl,b9.of (Ho _ _ PH),rfl,rfl,_,rfl,?_⟩;have e:decide (V.str e'.2.1=V.str r.nm)=(decide (e'.1=r.k)&&decide (e'.2.1=r.nm)):=by
    rw[abb h1,Bool.true_and];exact decide_eq_decide.mpr ⟨V.str.inj,λz=>by rw[z]⟩
   rw[e];exact kk _ (a_.refl _)
  ·have:=kk _ (a_.refl _);rw[aaW h1,Bool.false_and]at this;exact this
 ·obtain⟨p',ET,rfl,DK,i0,i1,i2⟩:=id Ht;exact⟨_,rfl,p',ET,2,_,rfl,rfl,b9.of DK,i2,kk _ _ (a_.refl _) rfl⟩
 have Sd:e0'∈(Fc g 0 (f.hd::f.br)).filter (λe=>decide (e.1=r.k)&&decide (e.2.1=r.nm)):=List.mem_filter.mpr ⟨Uy,by rw[ek,en];simp⟩;obtain⟨k1,hk1,y,QP,rfl,ey⟩:∃k1:Str,k1∈cK/\∃y QP,os=y::QP/\y=V.str k1:=by
  cases Q9:(Fc g 0 (f.hd::f.br)).filter (λe=>decide (e.1=r.k)&&decide (e.2.1=r.nm))with
  |nil=>rw[Q9]at Sd;exact nomatch Sd
  |cons e1 es1=>
   rw[Q9]at Ej;obtain⟨y,QP,rfl,hy,_⟩:=Ej.B3;have e1m:e1∈Fc g 0 (f.hd::f.br):=(List.mem_filter.mp (by rw[Q9];exact abd)).1;obtain⟨i,b,p,h1,h2,rfl⟩:=(fW g _ 0 e1).mp e1m;have hb:∃s∈g.sg,s.nm=b:=by
    rcases List.mem_cons.mp (aaD h1)with rfl|Mb
    ·exact G.hd f hm
    ·exact(G.br f hm).2 b Mb
   exact⟨p.2,kd _ (G.sm hb).1 p h2,y,QP,rfl,hy⟩
 subst ey;refine⟨D,_,_,.str k1,rfl,rfl,d9.of GA,dY _ _,?_⟩;refine y9 _ _ ?_;have Ho:=s4.trans s5;have Rf:=s5 _ _ Mp;have hus5:=v_.imp λ_ _ h=>FO.same (am s5) h;have lu1:=v_.len;have upos:0<us.length:=by have:0<(Fc g 0 (f.hd::f.br)).length:=aex Uy;lia
 have pick:∀d:Int,∃v e,Dp us (d%((us.length:Nat):Int))=some v/\e∈Fc g 0 (f.hd::f.br)/\FO G1 e v:=λd=>by have h0:=abc d (show((us.length:Nat):Int)≠0 by lia);have h1:=aa5 d (show(0:Int)<((us.length:Nat):Int)by lia);obtain⟨m,Mb⟩:=abt h0;obtain⟨e,he⟩:=ax (xs:=Fc g 0 (f.hd::f.br)) (i:=m) (by lia);obtain⟨v,hv,Tb⟩:=bw hus5 he;exact⟨v,e,by rw[Mb];exact aV hv,aaD he,Tb⟩
 obtain⟨v1,e1,hv1,me1,he1⟩:=pick (c / 7);obtain⟨v2,e2,hv2,me2,Xu⟩:=pick (c / 91);refine bt λN10 y10=>?_;refine⟨_,rfl,_,rfl,_,_,rfl,rfl,⟨by decide,by decide⟩,_,rfl,S,_,rfl,.inl (d9.of Rf),_,_,rfl,rfl,(by show(0:Int)<(us.length:Int);lia),S,_,_,v1,rfl,rfl,d9.of Rf,hv1,_,rfl,_,rfl,_,_,rfl,rfl,⟨by decide,by decide⟩,_,rfl,S,_,rfl,.inl (d9.of Rf),_,_,rfl,rfl,(by show(0:Int)<(us.length:Int);lia),S,_,_,v2,rfl,rfl,d9.of Rf,hv2,Z2,λDr hDr=>?_⟩;refine y10 _ _ ?_;have s6:=ac hDr (.lst [v1,v2]);have UZ:=aa (H:=G1) (a:=Dr) (o:=.lst [v1,v2]);have FP:=Ho.trans s6;have Ux:=FO.same (am s6) he1;have Uw:=FO.same (am s6) Xu;generalize upd G1 Dr (.lst [v1,v2])=G2 at s6 UZ FP Ux Uw⊢;refine bt λN11 y11=>?_;refine⟨_,rfl,fp,_,3,.ref rb,rfl,rfl,b9.of (FP _ _ En),rfl,_,rfl,rb,FD,_,.ref rp,rfl,rfl,b9.of (FP _ _ JF),aV Pp,rp,_,0,.int r.k,rfl,rfl,b9.of (FP _ _ PH),rfl,_,rfl,fp,_,3,.ref rb,rfl,rfl,b9.of (FP _ _ En),rfl,_,rfl,rb,FD,_,.ref rp,rfl,rfl,b9.of (FP _ _ JF),aV Pp,rp,_,1,.str r.nm,rfl,rfl,b9.of (FP _ _ PH),rfl,_,rfl,_,rfl,_,rfl,_,_,rfl,rfl,⟨by decide,by decide⟩,k1,Dr,[e1,e2],[v1,v2],_,rfl,hk1,UZ,.cons Ux (.cons Uw .nil),(by show 2<=3;decide),λtm x G3 s7 Ti tb=>⟨Z3,λRn hRn=>?_⟩⟩;refine y11 _ _ ?_;have s8:=ac hRn (.tup [.int r.k,.str r.nm,x]);have US:=aa (H:=G3) (a:=Rn) (o:=.tup [.int r.k,.str r.nm,x]);have Ld:=FP.trans (s7.trans s8);have Th:=g9.same (am s8) tm Ti;generalize upd G3 Rn (.tup [.int r.k,.str r.nm,x])=G4 at s8 US Ld Th⊢;have ril:=ao Pp;have lrus:=JE.len;have lru:=G.rl f hm;refine bt λN12 y12=>?_;refine⟨_,rfl,fp,_,0,.str f.nm,rfl,rfl,b9.of (Ld _ _ En),rfl,_,rfl,fp,_,1,.str f.hd,rfl,rfl,b9.of (Ld _ _ En),rfl,_,rfl,fp,_,2,.ref br,rfl,rfl,b9.of (Ld _ _ En),rfl,_,rfl,fp,_,3,.ref rb,rfl,rfl,b9.of (Ld _ _ En),rfl,_,rfl,_,rfl,rb,FD,rfl,Ld _ _ JF,λc1 G5 s9 hc1=>?_⟩;rw[dM]at hc1;have W2:=Ld.trans s9;refine⟨_,rfl,Z1,λc2 Qa=>?_⟩;have sa:=ac Qa (.tup [.ref Rn]);refine⟨c1,c2,_,_,rfl,rfl,sa _ _ hc1,aa,cF (by rw[aaZ];show _+1<=100000;lia),λc3 G6 sb UM=>?_⟩;have OL:=W2.trans (sa.trans sb);refine⟨_,rfl,fp,_,3,.ref rb,rfl,rfl,b9.of (OL _ _ En),rfl,_,rfl,_,_,rfl,rfl,_,rfl,rb,FD,rfl,OL _ _ JF,λc4 G7 sc hc4=>?_⟩;rw[show(ri:Int)+1=((ri+1:Nat):Int)by lia,cZ]at hc4;have s4c:=OL.trans sc;refine⟨c3,c4,_,_,rfl,rfl,sc _ _ UM,hc4,cF (by rw[aaF,aaZ,abP];show _+1+_<=100000;lia),λc5 G8 sd hc5=>⟨Z4,λFn hFn=>?_⟩⟩;refine y12 _ _ ?_;have se:=ac hFn (.tup [.str f.nm,.str f.hd,.ref br,.ref c5]);have UY:=aa (H:=G8) (a:=Fn) (o:=.tup [.str f.nm,.str f.hd,.ref br,.ref c5]);have MN:=s4c.trans (sd.trans se);have YA:d_ G4 (upd G8 Fn (.tup [.str f.nm,.str f.hd,.ref br,.ref c5])):=am ((s9.trans (sa.trans sb)).trans (sc.trans (sd.trans se)));have Ng:o_ (upd G8 Fn (.tup [.str f.nm,.str f.hd,.ref br,.ref c5])) ⟨r.k,r.nm,tm⟩ (.ref Rn):=⟨Rn,x,rfl,YA _ _ US,g9.same YA tm Th⟩
 have Np:r_ (upd G8 Fn (.tup [.str f.nm,.str f.hd,.ref br,.ref c5])) (zm f ri r tm) (.ref Fn):=⟨Fn,br,c5,_,rfl,UY,MN _ _ Xw,se _ _ hc5,iS ri (JE.imp λ_ _ h=>o_.same (am MN) h) (ao y_) Ng⟩
 generalize upd G8 Fn (.tup [.str f.nm,.str f.hd,.ref br,.ref c5])=G9 at se UY MN YA Ng Np⊢;have fil:=ao Jz;refine⟨_,rfl,gp,_,0,.ref QN,rfl,rfl,b9.of (MN _ _ FY),rfl,_,rfl,gp,_,1,.ref fa,rfl,rfl,b9.of (MN _ _ FY),rfl,_,rfl,_,rfl,fa,D4,rfl,MN _ _ E3,λd1 K1 z1 EO=>?_⟩;rw[dM]at EO;refine⟨_,rfl,Z1,λd2 hd2=>?_⟩;have z2:=ac hd2 (.tup [.ref Fn]);refine⟨d1,d2,_,_,rfl,rfl,z2 _ _ EO,aa,cF (by rw[aaZ];show _+1<=100000;lia),λd3 K3 z3 G0=>?_⟩;have sz3:=MN.trans (z1.trans (z2.trans z3));refine⟨_,rfl,gp,_,1,.ref fa,rfl,rfl,b9.of (sz3 _ _ FY),rfl,_,rfl,_,_,rfl,rfl,_,rfl,fa,D4,rfl,sz3 _ _ E3,λd4 K4 z4 Rb=>?_⟩;rw[show(fi:Int)+1=((fi+1:Nat):Int)by lia,cZ]at Rb;refine⟨d3,d4,_,_,rfl,rfl,z4 _ _ G0,Rb,cF (by rw[aaF,aaZ,abP];show _+1+_<=100000;lia),λd5 K5 z5 FH=>⟨Z2,λGn hGn=>?_⟩⟩;have z6:=ac hGn (.tup [.ref QN,.ref d5]);have z16:=(z1.trans (z2.trans z3)).trans (z4.trans (z5.trans z6));have LA:=MN.trans z16;refine q fi f ri r tm (.ref Gn) _ LA ⟨hf,y_,tb.dp,by have:=tb.pt;lia,λp hp=>?_⟩ ⟨Gn,QN,d5,IB,_,rfl,aa,LA _ _ JC,Pw.imp λ_ _ h=>p8.same (am LA) h,z6 _ _ FH,iS fi (Mh.imp λ_ _ h=>r_.same (am LA) h) (ao hf) (r_.same (am z16) Np)⟩;have:=tb.nm p hp;rcases List.mem_cons.mp this with rfl|this
 ·exact zv me1
 ·rw[List.mem_singleton.mp this];exact zv me2
inductive Jc(K:W.Frag)(vs:List V)(H:Hp)(Q:VK)(e0:XK):Prop
 |mk (a:Addr) (ns:List Int):(vs=[.ref a])->d9 K H a (ns.map V.int)->ns.length<=63->(∀H',Q (.bl true) H')->Jc K vs H Q e0
def EM.kd(h:EM g t):KdG g:=by
 rcases h.kind with k|⟨c,rfl⟩
 ·exactλs hs p hp=>((k.sg.g s hs).ok p hp).2
 ·intro s hs p hp;have:s=DC c:=by simpa [gC]using hs
  subst this;have hp:p=(aC c,("num" : Str))\/p=(cC c,("num" : Str)):=by simpa [DC]using hp
  rcases hp with rfl|rfl
  ·show("num" : Str)∈cK;decide
  ·show("num" : Str)∈cK;decide
theorem O'(X:Tx K mg T):i6 P w K mg base A6 140 T.law T.HD ["_law_script"] (Jc K):=by
 have Wj:=(yg (P:=P) (w:=w) (base:=base) X).mono (show 1<=139 by decide);have Wm:=(yh (P:=P) (w:=w) (base:=base) X).mono (show 30<=139 by decide);have KR:=(pH (P:=P) (w:=w) (base:=base) X).mono (show 73<=139 by decide);have Wr:=(vk (P:=P) (w:=w) (base:=base) X).mono (show 3<=139 by decide);refine X.OD.Dy C6 (λvs H Q E h=>?_) (λm_ A outer s H vs Q E hr h=>?_)
 ·obtain⟨_,_,rfl,_⟩:=h;rfl
 obtain⟨a,ns,rfl,hS,h63,q⟩:=h;refine⟨_,(ag (au (i:=1) C6.nd rfl oI1 (aw Wj hr rfl X.Sh X.Oc.kp X.VG .nil bg (b_ (qv 0) (n_ af ae)))) (ag (au (i:=2) C6.nd rfl oI1 (ar aN (ar dE (aj aO (qv 1) af) af) af)) (ag (jE (aw Wm hr rfl X.Sj X.Oe.kp X.VL .nil bg (b_ (qv 1) ae)) (fA rfl (aW (ay (i:=3) C6.nd rfl oI1) (aW (ay (i:=4) C6.nd rfl oI1) cH)))) (ag (bz (dA (dy (aw KR hr rfl X.Jw X.HQ.kp X.Kz .nil bg (b_ (qv 3) (b_ (qv 4) (n_ cJ ae)))))) (ai (aG cJ)) aK) (ag (au (i:=5) C6.nd rfl oI1 (qv 3)) (ag (bh aa8 rfl (aZ rfl X.z_range (Dx (ar bJ af (ar aN (qv 2) af)) ae)) (ay (i:=6) C6.nd rfl oI1) (ag (au (i:=2) C6.nd rfl oI1 (ar aN (ar dE (qv 2) af) af)) (ag (au (i:=5) C6.nd rfl oI1 (aw Wr hr rfl X.Sn X.Oi.kp X.VP .nil bg (b_ (qv 5) (b_ (qv 2) ae)))) (ai (bz (dA (dy (aw KR hr rfl X.Jw X.HQ.kp X.Kz .nil bg (b_ (qv 5) (b_ (qv 4) (n_ cJ ae)))))) (ai (aG cJ)) aK))))) (ai (aG (aw KR hr rfl X.Jw X.HQ.kp X.Kz .nil bg (b_ (qv 3) (b_ (qv 4) (n_ cJ ae)))))))))))),?_⟩;dsimp only[cg];refine⟨_,rfl,a,ns,rfl,hS,h63,λD cs H1 s1 nD hD lcs Ln=>?_⟩;obtain⟨c3,UM⟩:=ax (xs:=cs) (i:=3) (by lia);have Mo:Dp (cs.map V.int) 3=some (.int c3):=aV (j:=3) (by rw[aaK,UM];rfl);refine⟨_,rfl,D,_,3,.int c3,rfl,rfl,d9.of hD,Mo,_,_,rfl,rfl,.inr ⟨by decide,by decide⟩,_,_,rfl,rfl,(by show(0:Int)<2147483647;decide),?_⟩;dsimp only;generalize c3*48271%2147483647=c;refine⟨_,rfl,D,cs,rfl,hD,lcs,λx vg vt g t H2 k2 hx hg ht ok=>?_⟩;have gt:=ok.gt;have rg:=ok.rk;have nm:=rg.nm gt.G;have kd:=ok.kd;refine⟨x,_,rfl,b9.of hx,rfl,_,_,rfl,_,_,rfl,rfl,?_⟩;dsimp only[s_];refine⟨_,rfl,_,rfl,g,t,vg,vt,false,rfl,hg,gt,ht,nm,.inr λr h hs=>sf gt rg h hs,λH3 s3=>⟨_,rfl,lI ?_⟩⟩;have PZ:=o7.same (am s3) hg;have L5:=i3.same (am s3) _ ht;refine⟨_,rfl,?_⟩;dsimp only[s_];have c0:=abc c (show(3:Int)≠0 by decide);have c1:=aa5 c (show(0:Int)<3 by decide);refine⟨_,rfl,_,_,rfl,rfl,(by show(0:Int)<3;decide),_,_,rfl,rfl,_,rfl,by lia,by lia,?_⟩;refine bN (n:=(1+c%3).toNat) (λi σ H'=>∃(c':Int)(g':Gr)(v':V)(x6:Option V),σ=[some (.ref a),some (.ref D),some (.int c'),some vg,some vt,some v',x6]/\a_ H3 H'/\o7 H' g' v'/\GT g' t/\xk g'/\KdG g') ⟨c,g,vg,none,rfl,a_.refl _,PZ,gt,nm,kd⟩ ?_ ?_
 ·rintro i σ H4 hi ⟨c',g',v',x6,rfl,s4,hg',U2,MS,SW⟩;refine⟨_,rfl,_,_,rfl,rfl,.inr ⟨by decide,by decide⟩,_,_,rfl,rfl,(by show(0:Int)<2147483629;decide),?_⟩;dsimp only[s_];generalize c'*69621%2147483629=c2;have ht4:=i3.same (am s4) _ L5;refine⟨_,rfl,_,rfl,g',v',c2,rfl,hg',U2.G,SW,λH5 s5=>?_,λfi f ri r tm v5 H5 s5 fr Uk=>?_⟩
  ·exact⟨_,rfl,_,rfl,g',t,v',vt,true,rfl,o7.same (am s5) hg',U2,i3.same (am s5) _ ht4,MS,.inl rfl,λH6 s6=>⟨_,rfl,lI ⟨c2,g',v',_,rfl,s4.trans (s5.trans s6),o7.same (am (s5.trans s6)) hg',U2,MS,SW⟩⟩⟩
  ·exact⟨_,rfl,_,rfl,_,t,v5,vt,true,rfl,Uk,fr.gt U2,i3.same (am s5) _ ht4,fr.Sa MS,.inl rfl,λH6 s6=>⟨_,rfl,lI ⟨c2,_,v5,_,rfl,s4.trans (s5.trans s6),o7.same (am s6) Uk,fr.gt U2,fr.Sa MS,SW⟩⟩⟩
 ·rintro σ H4 ⟨c',g',v',x6,rfl,s4,_⟩;exact⟨_,rfl,_,rfl,g,t,vg,vt,false,rfl,o7.same (am s4) PZ,gt,i3.same (am s4) _ L5,nm,.inr λr h hs=>sf gt rg h hs,λH5 _=>q H5⟩
end HJ
namespace HJ
open PySem L2
end HJ
open PySem PySem.W PyProof.Rows
set_option maxRecDepth 100000 in
set_option maxHeartbeats 0 in
theorem PySem.Challenge.cw_leafsay_k42_an_order_holds : PySem.Challenge.rw_leafsay_k42_an_order.Holds := by
 w_on;o_law;k_head;(case hw=>w_witness2)
 k_fill
 refine L2.IW (l:=PySem.Challenge.rw_leafsay_k42_an_order) (n:=63) (k:=140) (x:="_law_script") (CX:=L2.A6) (sp:=HJ.Jc) rfl (by decide) rfl ⟨rfl,by decide,by decide,rfl⟩ (fun w h Y=>PySem.W.kIn_of Y) ?F (fun K H a ns hl _ hS=>⟨a,ns,rfl,hS,hl,fun _=>rfl⟩) (fun _ _ _ _ z=>z)
 case F=>
  intro w mg fa h KX G TY
  have T:∃ T:HJ.Rx,HJ.Tx (L2.KOf KX) mg T:=by
   dsimp only[L2.KOf]
   refine' HJ.RE KX G ?m_LeafError ?m_NoText ?m_TooGreat ?m_NoName ?m_NoRule ?m_NoKind ?m_NoTree ?m_NoPlace ?m_NoGiven ?m_NoWalk ?m_Ring ?a0 ?i0 ?l0 ?c0 ?k0 ?a1 ?l1 ?c1 ?k1 ?a2 ?l2 ?c2 ?k2 ?a3 ?l3 ?c3 ?k3 ?a4 ?l4 ?c4 ?k4 ?a5 ?l5 ?c5 ?k5 ?a6 ?l6 ?c6 ?k6 ?a7 ?l7 ?c7 ?k7 ?a8 ?l8 ?c8 ?k8 ?a9 ?l9 ?c9 ?k9 ?a10 ?l10 ?c10 ?k10 ?a11 ?l11 ?c11 ?k11 ?a12 ?l12 ?c12 ?k12 ?a13 ?l13 ?c13 ?k13 ?a14 ?l14 ?c14 ?k14 ?a15 ?l15 ?c15 ?k15 ?a16 ?l16 ?c16 ?k16 ?a17 ?l17 ?c17 ?k17 ?a18 ?l18 ?c18 ?k18 ?a19 ?l19 ?c19 ?k19 ?a20 ?l20 ?c20 ?k20 ?a21 ?l21 ?c21 ?k21 ?a22 ?l22 ?c22 ?k22 ?a23 ?l23 ?c23 ?k23 ?a24 ?l24 ?c24 ?k24 ?a25 ?l25 ?c25 ?k25 ?a26 ?l26 ?c26 ?k26 ?a27 ?l27 ?c27 ?k27 ?a28 ?l28 ?c28 ?k28 ?a29 ?l29 ?c29 ?k29 ?a30 ?l30 ?c30 ?k30 ?a31 ?l31 ?c31 ?k31 ?a32 ?l32 ?c32 ?k32 ?a33 ?l33 ?c33 ?k33 ?a34 ?l34 ?c34 ?k34 ?a35 ?l35 ?c35 ?k35 ?a36 ?l36 ?c36 ?k36 ?a37 ?l37 ?c37 ?k37 ?a38 ?l38 ?c38 ?k38 ?a39 ?l39 ?c39 ?k39 ?a40 ?l40 ?c40 ?k40 ?a41 ?l41 ?c41 ?k41 ?a42 ?l42 ?c42 ?k42 ?z_ValueError ?z_bool ?z_dict ?z_enumerate ?z_int ?z_isinstance ?z_len ?z_list ?z_min ?z_range ?z_reversed ?z_str ?z_tuple ?e_NoName ?xga_NoName ?xgt_NoName ?xca_NoName ?xsp_NoName ?xtk_NoName ?xmo_NoName ?xmb_NoName ?u_NoName_Ring ?i_NoName_0 ?i_NoName_1 ?i_NoName_2 ?e_NoRule ?xga_NoRule ?xgt_NoRule ?xca_NoRule ?xsp_NoRule ?xtk_NoRule ?xmo_NoRule ?xmb_NoRule ?u_NoRule_Ring ?i_NoRule_0 ?i_NoRule_1 ?i_NoRule_2 ?e_NoPlace ?xga_NoPlace ?xgt_NoPlace ?xca_NoPlace ?xsp_NoPlace ?xtk_NoPlace ?xmo_NoPlace ?xmb_NoPlace ?u_NoPlace_Ring ?i_NoPlace_0 ?i_NoPlace_1 ?i_NoPlace_2 ?rex_Ring ?rini_Ring ?rfn_Ring ?rsa_Ring ?rov_Ring ?rrg_Ring ?rhd_Ring ?xga_Ring ?xgt_Ring ?xca_Ring ?xsp_Ring ?xtk_Ring ?xmo_Ring ?xmb_Ring ?u_Ring_Ring ?i_Ring_0 ?i_Ring_1 ?i_Ring_2
   (case m_LeafError=>k_is)
   (case m_NoText=>k_is)
   (case m_TooGreat=>k_is)
   (case m_NoName=>k_is)
   (case m_NoRule=>k_is)
   (case m_NoKind=>k_is)
   (case m_NoTree=>k_is)
   (case m_NoPlace=>k_is)
   (case m_NoGiven=>k_is)
   (case m_NoWalk=>k_is)
   (case m_Ring=>k_is)
   (case a0=>k_is)
   (case i0=>k_is)
   (case l0=>k_is)
   (case c0=>k_is)
   (case k0=>k_is)
   (case a1=>k_is)
   (case l1=>k_is)
   (case c1=>k_is)
   (case k1=>k_is)
   (case a2=>k_is)
   (case l2=>k_is)
   (case c2=>k_is)
   (case k2=>k_is)
   (case a3=>k_is)
   (case l3=>k_is)
   (case c3=>k_is)
   (case k3=>k_is)
   (case a4=>k_is)
   (case l4=>k_is)
   (case c4=>k_is)
   (case k4=>k_is)
   (case a5=>k_is)
   (case l5=>k_is)
   (case c5=>k_is)
   (case k5=>k_is)
   (case a6=>k_is)
   (case l6=>k_is)
   (case c6=>k_is)
   (case k6=>k_is)
   (case a7=>k_is)
   (case l7=>k_is)
   (case c7=>k_is)
   (case k7=>k_is)
   (case a8=>k_is)
   (case l8=>k_is)
   (case c8=>k_is)
   (case k8=>k_is)
   (case a9=>k_is)
   (case l9=>k_is)
   (case c9=>k_is)
   (case k9=>k_is)
   (case a10=>k_is)
   (case l10=>k_is)
   (case c10=>k_is)
   (case k10=>k_is)
   (case a11=>k_is)
   (case l11=>k_is)
   (case c11=>k_is)
   (case k11=>k_is)
   (case a12=>k_is)
   (case l12=>k_is)
   (case c12=>k_is)
   (case k12=>k_is)
   (case a13=>k_is)
   (case l13=>k_is)
   (case c13=>k_is)
   (case k13=>k_is)
   (case a14=>k_is)
   (case l14=>k_is)
   (case c14=>k_is)
   (case k14=>k_is)
   (case a15=>k_is)
   (case l15=>k_is)
   (case c15=>k_is)
   (case k15=>k_is)
   (case a16=>k_is)
   (case l16=>k_is)
   (case c16=>k_is)
   (case k16=>k_is)
   (case a17=>k_is)
   (case l17=>k_is)
   (case c17=>k_is)
   (case k17=>k_is)
   (case a18=>k_is)
   (case l18=>k_is)
   (case c18=>k_is)
   (case k18=>k_is)
   (case a19=>k_is)
   (case l19=>k_is)
   (case c19=>k_is)
   (case k19=>k_is)
   (case a20=>k_is)
   (case l20=>k_is)
   (case c20=>k_is)
   (case k20=>k_is)
   (case a21=>k_is)
   (case l21=>k_is)
   (case c21=>k_is)
   (case k21=>k_is)
   (case a22=>k_is)
   (case l22=>k_is)
   (case c22=>k_is)
   (case k22=>k_is)
   (case a23=>k_is)
   (case l23=>k_is)
   (case c23=>k_is)
   (case k23=>k_is)
   (case a24=>k_is)
   (case l24=>k_is)
   (case c24=>k_is)
   (case k24=>k_is)
   (case a25=>k_is)
   (case l25=>k_is)
   (case c25=>k_is)
   (case k25=>k_is)
   (case a26=>k_is)
   (case l26=>k_is)
   (case c26=>k_is)
   (case k26=>k_is)
   (case a27=>k_is)
   (case l27=>k_is)
   (case c27=>k_is)
   (case k27=>k_is)
   (case a28=>k_is)
   (case l28=>k_is)
   (case c28=>k_is)
   (case k28=>k_is)
   (case a29=>k_is)
   (case l29=>k_is)
   (case c29=>k_is)
   (case k29=>k_is)
   (case a30=>k_is)
   (case l30=>k_is)
   (case c30=>k_is)
   (case k30=>k_is)
   (case a31=>k_is)
   (case l31=>k_is)
   (case c31=>k_is)
   (case k31=>k_is)
   (case a32=>k_is)
   (case l32=>k_is)
   (case c32=>k_is)
   (case k32=>k_is)
   (case a33=>k_is)
   (case l33=>k_is)
   (case c33=>k_is)
   (case k33=>k_is)
   (case a34=>k_is)
   (case l34=>k_is)
   (case c34=>k_is)
   (case k34=>k_is)
   (case a35=>k_is)
   (case l35=>k_is)
   (case c35=>k_is)
   (case k35=>k_is)
   (case a36=>k_is)
   (case l36=>k_is)
   (case c36=>k_is)
   (case k36=>k_is)
   (case a37=>k_is)
   (case l37=>k_is)
   (case c37=>k_is)
   (case k37=>k_is)
   (case a38=>k_is)
   (case l38=>k_is)
   (case c38=>k_is)
   (case k38=>k_is)
   (case a39=>k_is)
   (case l39=>k_is)
   (case c39=>k_is)
   (case k39=>k_is)
   (case a40=>k_is)
   (case l40=>k_is)
   (case c40=>k_is)
   (case k40=>k_is)
   (case a41=>k_is)
   (case l41=>k_is)
   (case c41=>k_is)
   (case k41=>k_is)
   (case a42=>k_is)
   (case l42=>k_is)
   (case c42=>k_is)
   (case k42=>k_is)
   (case z_ValueError=>k_is)
   (case z_bool=>k_is)
   (case z_dict=>k_is)
   (case z_enumerate=>k_is)
   (case z_int=>k_is)
   (case z_isinstance=>k_is)
   (case z_len=>k_is)
   (case z_list=>k_is)
   (case z_min=>k_is)
   (case z_range=>k_is)
   (case z_reversed=>k_is)
   (case z_str=>k_is)
   (case z_tuple=>k_is)
   (case e_NoName=>k_exc)
   (case xga_NoName=>k_is)
   (case xgt_NoName=>k_is)
   (case xca_NoName=>k_is)
   (case xsp_NoName=>k_is)
   (case xtk_NoName=>k_is)
   (case xmo_NoName=>k_is)
   (case xmb_NoName=>k_is)
   (case u_NoName_Ring=>k_is)
   (case i_NoName_0=>kit_is)
   (case i_NoName_1=>kit_is)
   (case i_NoName_2=>kit_is)
   (case e_NoRule=>k_exc)
   (case xga_NoRule=>k_is)
   (case xgt_NoRule=>k_is)
   (case xca_NoRule=>k_is)
   (case xsp_NoRule=>k_is)
   (case xtk_NoRule=>k_is)
   (case xmo_NoRule=>k_is)
   (case xmb_NoRule=>k_is)
   (case u_NoRule_Ring=>k_is)
   (case i_NoRule_0=>kit_is)
   (case i_NoRule_1=>kit_is)
   (case i_NoRule_2=>kit_is)
   (case e_NoPlace=>k_exc)
   (case xga_NoPlace=>k_is)
   (case xgt_NoPlace=>k_is)
   (case xca_NoPlace=>k_is)
   (case xsp_NoPlace=>k_is)
   (case xtk_NoPlace=>k_is)
   (case xmo_NoPlace=>k_is)
   (case xmb_NoPlace=>k_is)
   (case u_NoPlace_Ring=>k_is)
   (case i_NoPlace_0=>kit_is)
   (case i_NoPlace_1=>kit_is)
   (case i_NoPlace_2=>kit_is)
   (case rex_Ring=>kernel_rfl)
   (case rini_Ring=>(first | k_is | kernel_rfl))
   (case rfn_Ring=>(first | k_is | kernel_rfl))
   (case rsa_Ring=>(first | k_is | kernel_rfl))
   (case rov_Ring=>kernel_rfl)
   (case rrg_Ring=>(first | k_is | kernel_rfl))
   (case rhd_Ring=>(first | k_is | kernel_rfl))
   (case xga_Ring=>k_is)
   (case xgt_Ring=>k_is)
   (case xca_Ring=>k_is)
   (case xsp_Ring=>k_is)
   (case xtk_Ring=>k_is)
   (case xmo_Ring=>k_is)
   (case xmb_Ring=>k_is)
   (case u_Ring_Ring=>k_is)
   (case i_Ring_0=>kit_is)
   (case i_Ring_1=>kit_is)
   (case i_Ring_2=>kit_is)
  obtain⟨T,TX⟩:=T
  have e0:=TY.symm.trans TX.SI
  cases e0
  obtain⟨oc,od,kV,doc,pm,an,m_,ct,Js,efd,_,_⟩:=TX.OD.ex
  refine⟨T.HD,fun s u=>?_,fun base _ _=>HJ.O' TX⟩
  rw[efd]
  exact .of_eq rfl
