import PyProof.Rows.All
import Wide.All
import OpenK.AllK
import Wide.FinOn
import Lean
import PyProof.EqAt
import PyProof.EqKinds
import PyProof.TupleCall
import PyProof.NeKinds
import PyProof.FitsReplace
import PyProof.Rows.SumAny
import PyProof.Rows.MinMaxN
import PyProof.Rows.CallKwBuiltin
import PyProof.StrBlock2
import KE.KMinKey
import OpenK.KOwn
import PyProof.ExcArgsOwn
import KE.KIsAll
import PyProof.ReprRoads
import PyProof.ReprBulk
import PyProof.StrWalks
import PyProof.ConsumeWalk
import PyProof.StrCalls2
import PyProof.EnumMake
import PyProof.Draws
import PyProof.Rows.EnumRows
import PyProof.Rows.FactsT2
import PyProof.CompUse
import KE.KRevIter
import PyProof.ListStr
import KE.KIntText
import PyProof.StrLawsIdx
import PyProof.StrLawsNeg
import PyProof.StrLawsTight
import PyProof.StrLawsChain
import PyProof.Rows.StrItems
import PyProof.Rows.StrFirst
import PyProof.Rows.StrLawsPart
import PyProof.Rows.Range3
import PyProof.Rows.StrWeight2
import PyProof.AutoListH
import PyProof.TupleOfGen
import PyProof.WalksEnum
import PyProof.FactsAll.range_2
import PyProof.ZipIter
import PyProof.MeetsSeq
import PyProof.Rows.StrInSeq3
import PyProof.FactsAll.list_3
import KE.KTryOn
import OpenK.KRaise
import PyProof.DictWalks
import PyProof.DictItems
import KE.KPairComp
import KE.KUnpack
import PySem.Challenge.RW_leafsay_k15_grammars_refused
/-! Names that stand for nothing: where a name is taken, the head goes on without the twin of that name, and the compiled text stays small. -/
namespace PySem.W.Fast
def tw4863564683755531759:=Nat
def tw5997327342929236674:=Nat
def tw8072754870152242535:=Nat
def tw9496477704124036812:=Nat
def tw5123567872617140314:=Nat
def tw3944728870430089421:=Nat
def tw16182267041270139258:=Nat
def tw15461014818327930049:=Nat
def tw14270236795189770685:=Nat
def tw3521978285228520444:=Nat
def tw12525534946471216965:=Nat
def tw3260399495112177429:=Nat
def tw13123364879921222442:=Nat
def tw15778879991275308354:=Nat
def tw17474851872024935240:=Nat
def tw7714585030971845169:=Nat
def tw13885108680006907321:=Nat
def tw2843606035659322136:=Nat
def tw16673714280738718918:=Nat
def tw3808966704718371252:=Nat
def tw6566288792536835043:=Nat
def tw5866813020931903787:=Nat
def tw17917012112314271004:=Nat
def tw6298786600649816716:=Nat
def tw9522355554624373708:=Nat
def tw15208353423101993167:=Nat
def tw1908815527424424192:=Nat
def tw18404006166569702460:=Nat
def tw9801383829561222829:=Nat
def tw848616387823578590:=Nat
def tw3164889874938834655:=Nat
def tw1153770716434673103:=Nat
def tw14825850492150001469:=Nat
def tw15027045282989937459:=Nat
def tw4225342390608335131:=Nat
def tw897094357393732606:=Nat
def tw3139754450119949364:=Nat
def tw15320634347853531647:=Nat
def tw5628088438115423368:=Nat
def tw12697863217618568363:=Nat
def tw11431200679642892664:=Nat
def tw4338389479708524003:=Nat
def tw16485940712102762911:=Nat
def tw4051142670770031242:=Nat
def tw5197378992142490332:=Nat
def tw1072222728473812298:=Nat
def tw1041007353625077060:=Nat
def tw14253008592747828679:=Nat
def tw15717642928755923275:=Nat
def tw16373940142442434501:=Nat
def tw7781389247850306418:=Nat
def tw2702044742222952314:=Nat
def tw8630549166577134074:=Nat
def tw11063917901910329111:=Nat
def tw5476119270699107770:=Nat
def tw15594381711358808287:=Nat
def tw8823503535034258229:=Nat
def tw8774438248754869498:=Nat
def tw4056370944036184423:=Nat
def tw10531216429511955443:=Nat
def tw42844729836635660:=Nat
def tw18432767546704476665:=Nat
def tw18294365008973999970:=Nat
def tw16227650460959595025:=Nat
def tw16698838987209782145:=Nat
def tw12643713807768081569:=Nat
def tw9551607808792855016:=Nat
def tw10683276870294171362:=Nat
def tw16172701386100631239:=Nat
def tw5677115467070551606:=Nat
def tw145260529467878187:=Nat
def tw6478843672743729077:=Nat
def tw15758317872275828983:=Nat
def tw17793914121726342087:=Nat
def tw1798414707650809827:=Nat
def tw17434728485444750896:=Nat
def tw6680629140404114528:=Nat
def tw10316653534045822256:=Nat
def tw16919561645251453961:=Nat
def tw11537728967760319717:=Nat
def tw5353066087339917739:=Nat
def tw10394907897659719824:=Nat
def tw6817980525328786832:=Nat
def tw7430375187580431120:=Nat
def tw486913440651053044:=Nat
def tw7535560753021749990:=Nat
def tw1090593052788965056:=Nat
def tw8758322641263135726:=Nat
def tw15820219717655270239:=Nat
def tw7288007427529095098:=Nat
def tw9311203845670555345:=Nat
def tw2103687154444857428:=Nat
def tw9990078943146221918:=Nat
def tw11308761845251138655:=Nat
def tw1024174262150178509:=Nat
def tw8463851071208945717:=Nat
def tw9420316883333339627:=Nat
def tw3244526590930417329:=Nat
def tw10394944917236375312:=Nat
def tw1582886181007994091:=Nat
def tw14179133563968798611:=Nat
def tw6160604493924028719:=Nat
def tw15986998412776170318:=Nat
def tw14930539741154650300:=Nat
def tw12355289392502751979:=Nat
def tw10263967296693579604:=Nat
def tw18135358044853595098:=Nat
def tw4092768119653237378:=Nat
def tw13929807735443573105:=Nat
def tw2765628159191873905:=Nat
def tw13014081328501691269:=Nat
def tw13698069391169473902:=Nat
def tw11538693606285904270:=Nat
def tw15067643627822452994:=Nat
def tw17253813423453826420:=Nat
def tw9047113916218557224:=Nat
def tw1304286451595927819:=Nat
def tw4781865110278814031:=Nat
def tw168462122596285480:=Nat
def tw2586360994405644529:=Nat
def tw2757300370924411272:=Nat
def tw7518112767955748243:=Nat
def tw13737589072111644070:=Nat
def tw14291514362248512917:=Nat
def tw10022508118473017523:=Nat
def tw6944873139555044060:=Nat
def tw17389205063498020773:=Nat
def tw17739089516669064949:=Nat
def tw12133188964516985158:=Nat
def tw1637910247823006014:=Nat
def tw4540197918424818279:=Nat
def tw7609016917113022633:=Nat
def tw16014085183826772260:=Nat
def tw13884001206537477719:=Nat
def tw9855389054923314044:=Nat
def tw12243350168295190057:=Nat
def tw4327027841846671872:=Nat
def tw9307755586684681551:=Nat
def tw9264644135433286710:=Nat
def tw16440846264603365712:=Nat
def tw6890512327064536134:=Nat
def tw10842601815952694767:=Nat
def tw7526399923367813972:=Nat
def tw17791296409622044491:=Nat
def tw7495603988896956304:=Nat
def tw5013025778963594528:=Nat
def tw13124715727221446893:=Nat
def tw8867620034919055319:=Nat
def tw10407634667464933541:=Nat
def tw15027500542918525316:=Nat
def tw11205046694392951811:=Nat
def tw3374960238261928598:=Nat
def tw14036556489722307717:=Nat
def tw9776927581034204109:=Nat
def tw16610384290746443493:=Nat
def tw2431576833830628463:=Nat
def tw2376387171820115613:=Nat
def tw11994229450066878614:=Nat
def tw14191944026015389914:=Nat
def tw6475131564606128993:=Nat
def tw2195904790129267764:=Nat
def tw3842773466905680511:=Nat
def tw10429493279710372057:=Nat
def tw17990570113766178598:=Nat
def tw16357742585382550956:=Nat
def tw12726601455058596821:=Nat
def tw11550130233082547986:=Nat
def tw1122172181558022229:=Nat
def tw6409438265909712264:=Nat
def tw7132226579577763565:=Nat
def tw2071538389504447071:=Nat
def tw6989354804670009567:=Nat
def tw2604634557793122904:=Nat
def tw5204521150750941650:=Nat
def tw10173296536696307950:=Nat
def tw4561871340437303997:=Nat
def tw12588423924466927016:=Nat
def tw1967139151142136000:=Nat
def tw18415719516669766257:=Nat
def tw3024227624854863281:=Nat
def tw8827453105576595502:=Nat
def tw2421301892749902383:=Nat
def tw11856301203662194177:=Nat
def tw11538649958249597175:=Nat
def tw18235558952230706111:=Nat
def tw11712177581502035165:=Nat
def tw15035108113097430897:=Nat
def tw16238956381179501516:=Nat
def tw4127501739161382019:=Nat
def tw8590836213725455091:=Nat
def tw18137669969177152046:=Nat
def tw6009044463160914695:=Nat
def tw6567095558782013828:=Nat
def tw15414067806274414631:=Nat
def tw7309468758486491063:=Nat
def tw541987335273633783:=Nat
def tw5686584038135156315:=Nat
def tw10693668142295027425:=Nat
def tw982288185415240129:=Nat
def tw17481724152816968039:=Nat
def tw9511051134004028146:=Nat
def tw12083785010288928551:=Nat
def tw14495930385700057468:=Nat
def tw11501590651315691380:=Nat
def tw12474641431823939889:=Nat
def tw9992459114681297330:=Nat
def tw13509147068573713683:=Nat
def tw10919293863752282097:=Nat
def tw295774571712024919:=Nat
def tw11982768555287488422:=Nat
def tw1811774081207774329:=Nat
def tw13502403237132482987:=Nat
def tw833617274421380666:=Nat
def tw14625732331400707105:=Nat
def tw6292733680731688008:=Nat
def tw7165695837712528064:=Nat
def tw8355285380971988693:=Nat
def tw272704227776625910:=Nat
def tw2614975348160000321:=Nat
def tw6160942116124792990:=Nat
def tw314864096131850173:=Nat
def tw12995614698232441594:=Nat
def tw16433105458453182663:=Nat
def tw15817119680922581758:=Nat
def tw8787757579868424094:=Nat
def tw12852758158629284475:=Nat
def tw10107522318893556613:=Nat
def tw628085775226111191:=Nat
def tw18377174889568983903:=Nat
def tw10335811443526761615:=Nat
def tw7566937249098868335:=Nat
def tw6008112283616824168:=Nat
def tw17830190895108743362:=Nat
def tw18008568851588592722:=Nat
def tw7319255151430648884:=Nat
def tw9039725917001394775:=Nat
def tw13336408078450784951:=Nat
def tw15572753695541118178:=Nat
def tw17704477003460238514:=Nat
def tw9580941082364864866:=Nat
def tw540798514329401100:=Nat
def tw17999249059375236814:=Nat
def tw15542300320108633602:=Nat
def tw12829265253095794480:=Nat
def tw17123606914593656535:=Nat
def tw4762227878083565009:=Nat
def tw13101280390718661862:=Nat
def tw7775444539683044144:=Nat
def tw8922339142223097612:=Nat
def tw1279044391451403006:=Nat
def tw17918028707025652049:=Nat
def tw7243532462308224902:=Nat
def tw2785000209277963886:=Nat
def tw7165160567489705180:=Nat
def tw3859284600840234750:=Nat
def tw13679220083282628597:=Nat
def tw17101213750880505998:=Nat
def tw3051759215870714529:=Nat
def tw12480972950673762302:=Nat
def tw10853803626914433017:=Nat
def tw3664195449660343698:=Nat
def tw12505148237612243733:=Nat
def tw9011763164497053824:=Nat
def tw8899674502164458172:=Nat
def tw10798085431131078482:=Nat
def tw16090555884381890367:=Nat
def tw6574914119286654741:=Nat
def tw3518431661466290858:=Nat
def tw3446407810256347762:=Nat
def tw12105712780500022181:=Nat
def tw16801916037262723553:=Nat
def tw15992034029527132076:=Nat
def tw10628675789216831844:=Nat
def tw859941009120957103:=Nat
def tw2699519786220586062:=Nat
def tw16731749439832877260:=Nat
def tw7238510761835990528:=Nat
def tw8105136601497600639:=Nat
end PySem.W.Fast
def PySem.W.Fast.tw12666457499971675967 : PySem.Program := PySem.Challenge.pw_leafsay_k15_grammars_refused
theorem PySem.W.Fast.te12666457499971675967 : PySem.Challenge.pw_leafsay_k15_grammars_refused = PySem.W.Fast.tw12666457499971675967 := rfl
set_option Elab.async false
set_option linter.all false
set_option maxRecDepth 100000
noncomputable section
def aaa:=@List.length_append
def aab:=@List.cons.inj
def aac:=@List.length_cons
def aad:=@List.length_map
def aae:=@PySem.wpAny_bind
def aaf:=@List.mem_cons
def aag:=@PySem.Heap.get?_push_of_some
def aah:=@List.mem_cons_of_mem
def aai:=@PySem.W.mg_of
def aaj:=@List.not_mem_nil
def aak:=@List.mem_of_getElem?
def aal:=@PySem.F.plainAttrs_list
def aam:=@Nat.le_refl
def aan:=@Int.emod_lt_of_pos
def aao:=@PySem.Heap.lt_size
def aap:=@List.mem_cons_self
def aaq:=@Option.some.inj
def aar:=@Int.emod_nonneg
def aas:=@List.append_assoc
def aat:=@List.mem_append
def aau:=@decide_eq_true_eq
def aav:=@Nat.lt_of_lt_of_le
def aaw:=@Bool.false_ne_true
def aax:=@PySem.Heap.get?_push_size
def aay:=@PySem.boot_len
def aaz:=@List.getElem?_append_right
def aaA:=@List.size_toArray
def aaB:=@PySem.F.type_list_append
def aaC:=@PySem.F.slot_list_append
def aaD:=@List.length_take
def aaE:=@List.cons_append
def aaF:=@List.take_of_length_le
def aaG:=@Int.eq_ofNat_of_zero_le
def aaH:=@decide_eq_false
def aaI:=@List.getElem?_map
def aaJ:=@or_false
def aaK:=@if_neg
def aaL:=@List.mem_singleton
def aaM:=@PyProof.Rows.boot_isinstance
def aaN:=@congrArg
def aaO:=@List.length_singleton
def aaP:=@PyProof.Rows.boot_tuple
def aaQ:=@List.exists_cons_of_ne_nil
def aaR:=@PySem.wpAny_pure
def aaS:=@List.nil_append
def aaT:=@List.mem_append_right
def aaU:=@Bool.and_eq_true
def aaV:=@List.map_cons
def aaW:=@List.append_nil
def aaX:=@if_pos
def aaY:=@Nat.ne_of_lt
def aaZ:=@List.map_append
def aa0:=@decide_eq_true
def aa1:=@List.mem_of_mem_take
def aa2:=@List.mem_of_mem_drop
def aa3:=@List.getElem?_eq_getElem
def aa4:=@List.getElem?_append_left
def aa5:=@List.length_replicate
def aa6:=@List.flatMap_cons
def aa7:=@List.length_nil
def aa8:=@Nat.zero_le
def aa9:=@PySem.W.mg_none_of
def aba:=@PyProof.Rows.callWith_type1
def abb:=@Nat.le_trans
def abc:=@PySem.PassesOwn.never
def abd:=@Nat.lt_irrefl
def abe:=@List.length_drop
def abf:=@List.lookup_cons
def abg:=@Bool.or_eq_true
def abh:=@PySem.mem_of_lookup
def abi:=@PySem.F.type_list_pop
def abj:=@PySem.F.slot_list_pop
def abk:=@PyProof.Rows.boot_str
def abl:=@List.mem_nil_iff
def abm:=@List.flatMap_append
def abn:=@PySem.W.kia_one
def abo:=@PySem.wpAny_field
def abp:=@Nat.lt_of_le_of_lt
def abq:=@PySem.F.plainAttrs_str
def abr:=@PySem.wpAny_truthy_bool
def abt:=@List.drop_eq_getElem_cons
def abu:=@PySem.Heap.size_push
def abv:=@PySem.Calls.spliced_cons
def abw:=@Ne.symm
def abx:=@PySem.lookup_relabel_local
def aby:=@Nat.toDigits_of_lt_base
def abz:=@PySem.wpAny_seqItems
def abA:=@Nat.toDigits_append_toDigits
def abB:=@Array.getElem?_toList
def abC:=@List.flatten_cons
def abD:=@PySem.Heap.get?_update_other
def abE:=@PySem.wpAny_passesOwn
def abF:=@List.mem_append_left
def abG:=@List.getLast?_concat
def abH:=@Bool.false_and
def abI:=@Nat.le_add_right
def abJ:=@List.map_nil
def abK:=@List.all_eq_true
def abL:=@PySem.Calls.spliced_nil
def abM:=@List.replicate_succ
def abN:=@List.length_reverse
def abO:=@Array.length_toList
def abP:=@PySem.wpAny_mono
def abQ:=@PySem.F.slot_tuple_iterator_next
def abR:=@List.filterMap_cons_some
def abS:=@List.find?_cons
def abT:=@List.getElem?_replicate
def abU:=@PySem.F.slot_str_split
def abV:=@not_or
def abW:=@List.reverse_cons
def abX:=@List.drop_of_length_le
def abY:=@PySem.wpAny_execs_nil
def abZ:=@PySem.wpAny_setField_rec
def ab0:=@PySem.wpAny_Call_Name_kw
def ab1:=@PySem.call_meets
def ab2:=@PySem.wpAny_getItem_str_slice
def ab3:=@PySem.wpAny_callSpecial?_slot
def ab4:=@List.eq_nil_or_concat
def ab5:=@List.concat_eq_append
def ab6:=@List.mem_flatMap
def ab7:=@List.map_take
def ab8:=@PySem.wpAny_newObj_type
def ab9:=@PySem.PassesOwn.leaving
def aca:=@Nat.le_succ
def acb:=@Bool.eq_iff_iff
def acd:=@PySem.Heap.get?_update_self
def ace:=@List.length_take_le
def acf:=@List.filterMap_cons
def acg:=@Nat.sub_self
def ach:=@Nat.ne_of_gt
def aci:=@List.map_map
def acj:=@Int.zero_add
def ack:=@beq_iff_eq
def acm:=@Bool.and_false
def acn:=@List.count_append
def aco:=@Int.toNat_natCast
def acp:=@PySem.F.args_tuple_add_2
def acq:=@List.any_cons
def acr:=@decide_eq_false_iff_not
def acs:=@PySem.typeIs_str
def acu:=@PySem.Obj.data_mapFields
def acv:=@PySem.F.entry_tuple_add
def acw:=@List.append_inj'
def acx:=@if_true
def acy:=@PySem.F.slot_tuple_add
def acz:=@Nat.pow_succ
def acA:=@List.getElem?_set_self
def acB:=@Nat.min_eq_left
def acC:=@List.forIn_cons
def acD:=@List.foldl_cons
def acE:=@List.cons.injEq
def acF:=@PySem.F.type_str_join
def acG:=@PySem.F.slot_str_join
def acH:=@PyProof.Rows.boot_int
def acI:=@PyProof.Rows.boot_all
def acJ:=@List.take_append_drop
def acK:=@List.getElem?_eq_none
def acL:=@PySem.wpAny_call_entry
def acM:=@List.getElem?_set_ne
def acN:=@List.dropLast_concat
def acO:=@ne_true_of_eq_false
def acP:=@PySem.codeAny_mono
def acQ:=@PySem.W.plainGet_of
def acR:=@PySem.W.hideAll_get
def acS:=@PySem.Calls.callWith_builtin
def acT:=@Nat.mul_le_mul_left
def acU:=@PySem.wpAny_specialOf
def acV:=@PySem.codeAny_builtin
def acW:=@PySem.F.slot_zip_next
def acX:=@Nat.add_assoc
def acY:=@List.map_drop
def acZ:=@PySem.W.of_hideAll
def ac0:=@PySem.W.callWith_K
def ac1:=@List.getElem?_take
def ac2:=@Array.append_assoc
def ac3:=@PySem.wpAny_setField
def ac4:=@PySem.sizeLine_eq
def ac5:=@PySem.Calls.evalArgs_plain
def ac6:=@PySem.Around.under_plainId
def ac7:=@Nat.le_of_lt
def ac8:=@List.all_map
def ac9:=@Bool.or_true
def ada:=@Nat.lt_succ_self
def adb:=@List.take_length
def ade:=@List.getElem_mem
def adf:=@List.drop_length
def adg:=@List.cons_ne_nil
def adh:=@PySem.wpAny_standAt
def adi:=@PySem.plainId_quiet
def adj:=@List.drop_append_of_le_length
def adk:=@PySem.wpAny_pyIter_tuple
def adl:=@PySem.SeqAt.EqAt.of_refs
def adm:=@PySem.F.args_str_split_2
def adn:=@Nat.div_add_mod
def ado:=@List.sum_append
def adp:=@List.of_mem_zip
def adq:=@List.drop_left'
def ads:=@Nat.isDigit_of_mem_toDigits
def adt:=@PySem.seqIndex_neg
def adu:=@PySem.StrLaws.found_one
def adv:=@PySem.F.type_str_partition
def adw:=@PySem.F.slot_str_partition
def adx:=@PySem.F.entry_str_split
def ady:=@PySem.F.type_list_reverse
def adz:=@PySem.F.slot_list_reverse
def adA:=@PySem.wpAny_isInstance
def adB:=@PySem.wpAny_execs_cons
def adC:=@PySem.noFill_tuple_add
def adD:=@List.take_nil
def adE:=@List.sum_cons
def adF:=@List.append_cancel_right
def adG:=@List.all_cons
def adH:=@List.filter_cons_of_pos
def adI:=@PySem.W.cellsFrom_some
def adJ:=@PySem.SeqAt.EqAt.same
def adK:=@PySem.F.type_str_split
def adL:=@PySem.F.args_tuple_iterator_next_1
def adM:=@PyProof.noPylong_small
def adN:=@Nat.sub_zero
def adO:=@Nat.mul_comm
def adP:=@List.range_succ_eq_map
def adQ:=@List.drop_eq_nil_of_le
def adR:=@PySem.W.methodCall_KW
def adS:=@PySem.F.slot_dict_get
def adT:=@PySem.F.entry_tuple_iterator_next
def adU:=@List.set_append_right
def oI1{α:Sort _}{a:α}{b:Prop}:a=a\/b:=Or.inl rfl
def oJ1{α:Sort _}{a:α}{b:Prop}:b\/a=a:=Or.inr rfl
namespace L2
open PySem PySem.Spec PyProof.Rows
def Z0:0<=sizeLine:=by decide
def Z1:1<=sizeLine:=by decide
def Z2:2<=sizeLine:=by decide
def Z3:3<=sizeLine:=by decide
def Z4:4<=sizeLine:=by decide
def Z5:5<=sizeLine:=by decide
def Z6:6<=sizeLine:=by decide
def Z7:7<=sizeLine:=by decide
def Z8:8<=sizeLine:=by decide
def Z9:9<=sizeLine:=by decide
def Z12:12<=sizeLine:=by decide
abbrev Key:=Sum Int Str
noncomputable def qd:Key->Value->Bool
 |.inl k,v=>Value.isInt k v
 |.inr x,v=>Value.isStrOf x v
noncomputable def Gx(w:World):Key->Int
 |.inl k=>hashInt k
 |.inr x=>hashStr w x
theorem bQ:∀{k:Key}{v:Value},qd k v=true->(∃i t,k=Sum.inl i/\v=Value.int i t)\/(∃x t,k=Sum.inr x/\v=Value.str x t)
 |.inl i,v,h=>by
  obtain⟨t,e⟩:=Value.isInt_shape (k:=i) (v:=v) h;exact .inl ⟨i,t,rfl,e⟩
 |.inr x,v,h=>by obtain⟨t,e⟩:=Value.isStrOf_shape (x:=x) (v:=v) h;exact .inr ⟨x,t,rfl,e⟩
def sR(i:Int)(t:Tok):qd (.inl i) (.int i t)=true:=by simp[qd,Value.isInt]
def sQ(x:Str)(t:Tok):qd (.inr x) (.str x t)=true:=by simp[qd,Value.isStrOf]
def Dz(a b:Int):decide ((Sum.inl a:Key)=Sum.inl b)=(a == b):=by
 by_cases e:a=b
 ·subst e;simp
 ·have h:¬(Sum.inl a:Key)=Sum.inl b:=λq=>e (Sum.inl.inj q);rw[aaH h];exact(beq_eq_false_iff_ne.mpr e).symm
def Dv(a b:Str):decide ((Sum.inr a:Key)=Sum.inr b)=decide (a=b):=by
 by_cases e:a=b
 ·subst e;simp
 ·have h:¬(Sum.inr a:Key)=Sum.inr b:=λq=>e (Sum.inr.inj q);rw[aaH h,aaH e]
def Dy(a:Int)(b:Str):decide ((Sum.inl a:Key)=Sum.inr b)=false:=aaH (λq=>nomatch q)
def Dw(a:Str)(b:Int):decide ((Sum.inr a:Key)=Sum.inl b)=false:=aaH (λq=>nomatch q)
noncomputable def cc(prog:Program)(w:World):PySem.KeyKind prog w Key where
 is:=qd
 hash:=Gx w
 inj:=λv a b ha hb=>by
  rcases bQ ha with⟨i,t,rfl,rfl⟩|⟨x,t,rfl,rfl⟩
  ·rcases bQ hb with⟨j,u,rfl,e⟩|⟨y,u,rfl,e⟩
   ·injection e with e1 _;rw[e1]
   ·exact nomatch e
  ·rcases bQ hb with⟨j,u,rfl,e⟩|⟨y,u,rfl,e⟩
   ·exact nomatch e
   ·injection e with e1 _;rw[e1]
 byValue:=λk v h=>by rcases bQ h with⟨i,t,rfl,rfl⟩|⟨x,t,rfl,rfl⟩<;>rfl
 pyHash:=λhv h=>by
  rcases bQ hv with⟨i,t,rfl,rfl⟩|⟨x,t,rfl,rfl⟩
  ·exact wpAny_pyHash_int h
  ·exact wpAny_pyHash_str h
 eqBool:=λhu hv h=>by
  rcases bQ hu with⟨i,t,rfl,rfl⟩|⟨x,t,rfl,rfl⟩
  ·rcases bQ hv with⟨j,u,rfl,rfl⟩|⟨y,u,rfl,rfl⟩
   ·rw[Dz]at h;exact wpAny_eqBool_int h
   ·rw[Dy]at h;exact SeqAt.EqAt.int_str i t y u _ _ _ _ h
  ·rcases bQ hv with⟨j,u,rfl,rfl⟩|⟨y,u,rfl,rfl⟩
   ·rw[Dw]at h;exact SeqAt.EqAt.str_int x t j u _ _ _ _ h
   ·rw[Dv]at h;exact wpAny_eqBool_str h
 «strs»:=λk x t v h=>by
  rcases bQ h with⟨i,u,rfl,e⟩|⟨y,u,rfl,e⟩
  ·exact nomatch e
  ·injection e with e1 _;subst e1;cases v<;>rfl
def lW(prog:Program)(w:World)(i:Int)(t:Tok):(cc prog w).is (.inl i) (.int i t)=true:=sR i t
def lV(prog:Program)(w:World)(x:Str)(t:Tok):(cc prog w).is (.inr x) (.str x t)=true:=sQ x t
inductive V where
 |o_|bl (b:Bool)|int (i:Int)|str (x:Str)|MC (b:Array UInt8)|Uq (b:UInt64)|ref (a:Addr)|ty (n:String)
 deriving DecidableEq
def RelV:V->Value->Prop
 |.o_,u=>u=Value.none
 |.bl b,u=>u=Value.bool b
 |.int i,u=>∃t,u=Value.int i t
 |.str x,u=>∃t,u=Value.str x t
 |.MC b,u=>∃t,u=Value.bytes b t
 |.Uq b,u=>∃t,u=Value.float b t
 |.ref a,u=>u=Value.ref a
 |.ty n,u=>u=Value.type n
abbrev Vals:List V->List Value->Prop:=Paired RelV
theorem Vals.length{xs:List V}{us:List Value}(r:Vals xs us):xs.length=us.length:=Paired.length r
theorem Vals.get:∀{xs:List V}{us:List Value}{i:Nat}{x:V},Vals xs us->xs[i]?=some x->∃u,us[i]?=some u/\RelV x u
 |_,_,_,_,.nil,e=>by simp at e
 |_,_,0,_,.cons r _,e=>by simp at e;subst e;exact⟨_,rfl,r⟩
 |_,_,i+1,x,.cons _ t,e=>by obtain⟨u,h1,h2⟩:=Vals.get (i:=i) (x:=x) t (by simpa using e);exact⟨u,by simpa using h1,h2⟩
theorem Vals.set{x:V}{u:Value}(r:RelV x u):∀{xs:List V}{us:List Value}(i:Nat),Vals xs us->Vals (xs.set i x) (us.set i u)
 |_,_,_,.nil=>.nil
 |_,_,0,.cons _ t=>.cons r t
 |_,_,i+1,.cons q t=>.cons q (Vals.set r i t)
theorem Vals.append:∀{xs ys:List V}{us ws:List Value},Vals xs us->Vals ys ws->Vals (xs++ys) (us++ws)
 |_,_,_,_,.nil,s=>s
 |_,_,_,_,.cons r t,s=>.cons r (Vals.append t s)
theorem Vals.take:∀{xs:List V}{us:List Value}(n:Nat),Vals xs us->Vals (xs.take n) (us.take n)
 |_,_,0,_=>.nil
 |_,_,_+1,.nil=>.nil
 |_,_,n+1,.cons r t=>.cons r (Vals.take n t)
theorem Vals.drop:∀{xs:List V}{us:List Value}(n:Nat),Vals xs us->Vals (xs.drop n) (us.drop n)
 |_,_,0,r=>r
 |_,_,_+1,.nil=>.nil
 |_,_,n+1,.cons _ t=>Vals.drop n t
def HV:Option V->Option Value->Prop
 |some v,some u=>RelV v u
 |none,none=>True
 |_,_=>False
variable{κ:Type}
def KV:List (κ×V)->List (κ×Value)->Prop:=Paired λ(p:κ×V)(q:κ×Value)=>p.1=q.1/\RelV p.2 q.2
noncomputable def kV:Key->V
 |.inl i=>.int i
 |.inr x=>.str x
inductive HO where
 /-- a list -/
 |lst (xs:List V)
 /-- a tuple (never changes) -/
 |tup (xs:List V)
 /-- a dict whose keys are ints and texts;one whose keys are tuples of ints and texts (the empty one is both) -/
 |dK (e_:List (Key×V))|dT (e_:List (List Key×V))
 /-- a set of ints: its members,its size -/
 |set (S:Int->Bool) (n:Nat)
 /-- an instance of the class at C,its dict at dx,its attributes -/
 |ins (C dx:Addr) (fs:List (Str×V))
 /-- the dict of the instance at x -/
 |own (x:Addr)
 /-- the dict of an exception -/
 |xd (fs:List (Str×V))
 /-- a bound method,f of x -/
 |met (f x:Addr)
 /-- a range object lo,lo+1,.. below hi -/
 |ZH (lo hi:Int)
 /-- a thing that is known to the object (the script;a dict while a loop walks it): read,never written while it is so -/
 |LV (o:Obj) (u:HO)
 /-- a code object's table -/
 |Q3 (ps:Array Value)
 /-- any other thing,by what is true of its one object (a def of one's own: SetO a S n:=HO.ext λh=>..) -/
 |ext (φ:Heap->Prop)
abbrev Hp:=Addr->Option HO
def upd(H:Hp)(a:Addr)(o:HO):Hp:=λb=>if b=a then some o else H b
variable{H:Hp}
def aa{a:Addr}{o:HO}:upd H a o a=some o:=by unfold upd;rw[aaX rfl]
def aw{a b:Addr}{o:HO}(h:b≠a):upd H a o b=H b:=by unfold upd;rw[aaK h]
def dk{a b:Addr}{o u:HO}(h:H a=some o)(h':H b=some u)(d:o≠u):a≠b:=by intro e;subst e;rw[h]at h';exact d (aaq h')
def aS{a b:Addr}{o:HO}(h:H a=some o)(h':H b=none):a≠b:=by intro e;subst e;rw[h]at h';cases h'
def _8(h:Heap)(a:Addr):Prop:=∀o,h.get? a=some o->o.dict=none
def _8.new(h:Heap)(o:Obj)(e:o.dict=none)(f:o.isFreed=false:=by rfl):_8 (h.push o) h.objs.size:=λu q=>by rw[aax _ f]at q;cases q;exact e
def Pl(xs:List V):Prop:=∃x∈xs,∀a,x≠.ref a
def Nh(xs:List V)(h:Heap)(a:Addr):Prop:=Pl xs\/_8 h a
theorem Nh.new{xs:List V}(h:Heap)(o:Obj)(e:o.dict=none)(f:o.isFreed=false:=by rfl):Nh xs (h.push o) h.objs.size:=.inr (_8.new h o e f)
variable{h:Heap}{xs:List V}{o:Obj}
def Nh.to{h':Heap}{a:Addr}(x:Nh xs h a)(e:h.get? a=some o)(e':h'.get? a=some o):Nh xs h' a:=x.imp_right λk u q=>by rw[e']at q;cases q;exact k o e
section
variable(P:Program)(w:World)
def j5(H:Hp)(h:Heap)(a:Addr):HO->Prop
 |.lst xs=>xs.length<=sizeLine/\∃(d7:List Value)(n:Nat),Vals xs d7/\h.get? a=some { cls:=.type "list",data:=.seq d7.toArray n }
 |.tup xs=>(xs.length<=sizeLine/\Nh xs h a)/\∃d7:List Value,Vals xs d7/\IsTup h a d7.toArray
 |.dK e_=>e_.length<=sizeLine/\(a == sysModules)=false/\∃vs,KV e_ vs/\h.DictOf (cc P w) a vs
 |.dT e_=>e_.length<=sizeLine/\(a == sysModules)=false/\∃xs:List (List Key×Addr×Value),
  Paired (λ(p:List Key×V)(q:List Key×Addr×Value)=>p.1=q.1/\H q.2.1=some (.tup (p.1.map kV))/\RelV p.2 q.2.2) e_ xs /\
  ∃o es ep,h.get? a=some o/\o.ExactDict/\o.data=.dict es ep/\es.toList=xs.map (entryOfKey (tupleKind (cc P w)))/\(xs.map (·.1)).Nodup
 |.set S n=>h.SetOf (intKind P w) a S n
 |.ins C dx fs=>H dx=some (.own a)/\fs.length<=1000/\dx≠a/\h.get? a=some (PySem.W.instObj C dx) /\
  ∃mA,h.Ns1 dx mA/\(∀f,HV (fs.lookup f) (mA f))/\PySem.Within mA (fs.map (·.1))
 |.own _=>∃o,h.get? a=some o
 |.xd fs=>∃mA,h.Ns1 a mA/\∀f,HV (fs.lookup f) (mA f)
 |.ZH lo hi=>∃t u v,h.get? a=some { cls:=.type "range",data:=.fields #[.int lo t,.int hi u,.int 1 v] }
 |.LV o u=>h.get? a=some o/\j5 H h a u
 |.Q3 ps=>h.get? a=some { cls:=.none,data:=.fields ps }
 |.met f x=>h.get? a=some (PySem.W.methodObj (.ref f) (.ref x))
 |.ext φ=>φ h/\(∃o,h.get? a=some o)/\∀h1 h2:Heap,φ h1->(∀o,h1.get? a=some o->h2.get? a=some o)->φ h2
def G8(H:Hp)(h:Heap):Prop:=∀a o,H a=some o->j5 P w H h a o
end
section
variable{P:Program}{w:World}{H H':Hp}{h h':Heap}{a:Addr}{o:HO}
theorem j5.lt(x:j5 P w H h a o):a<h.objs.size:=by
 cases o with
 |lst xs=>obtain⟨_,_,_,_,e⟩:=x;exact aao e
 |tup xs=>obtain⟨_,_,_,p⟩:=x;exact p.lt
 |dK e_=>obtain⟨_,_,_,_,o,_,_,e,_⟩:=x;exact aao e
 |dT e_=>obtain⟨_,_,_,_,o,_,_,e,_⟩:=x;exact aao e
 |set S n=>obtain⟨o,_,_,_,e,_⟩:=x;exact aao e
 |ins C dx fs=>obtain⟨_,_,_,e,_⟩:=x;exact aao e
 |own y=>obtain⟨_,e⟩:=x;exact aao e
 |xd fs=>obtain⟨_,⟨_,_,_,e,_⟩,_⟩:=x;exact aao e
 |ZH lo hi=>obtain⟨_,_,_,e⟩:=x;exact aao e
 |LV ob u=>obtain⟨e,_⟩:=x;exact aao e
 |Q3 ps=>exact aao (show h.get? a=some _ from x)
 |met f y=>exact aao (show h.get? a=some _ from x)
 |ext φ=>obtain⟨_,⟨_,e⟩,_⟩:=x;exact aao e
theorem Paired.VQ{α β:Type}{F G:α->β->Prop}:∀{l₁:List α}{Wm:List β},Paired F l₁ Wm->(∀a b,F a b->G a b)->Paired G l₁ Wm
 |_,_,.nil,_=>.nil
 |_,_,.cons r t,f=>.cons (f _ _ r) (Paired.VQ t f)
theorem j5.GR(x:j5 P w H h a o)(k:∀b u,(b=a\/H b=some (.own a))->h.get? b=some u->h'.get? b=some u)(ho:∀b,H b=some (.own a)->H' b=some (.own a))(ht:∀b xs,H b=some (.tup xs)->H' b=some (.tup xs)):j5 P w H' h' a o:=by
 induction o with
 |lst xs=>obtain⟨z,d7,n,r,e⟩:=x;exact⟨z,d7,n,r,k _ _ (.inl rfl) e⟩
 |tup xs=>obtain⟨z,d7,r,ob,e,c⟩:=x;exact⟨⟨z.1,z.2.to e (k _ _ (.inl rfl) e)⟩,d7,r,ob,k _ _ (.inl rfl) e,c⟩
 |dK e_=>obtain⟨z,y,vs,r,ob,es,ep,e,c⟩:=x;exact⟨z,y,vs,r,ob,es,ep,k _ _ (.inl rfl) e,c⟩
 |dT e_=>
  obtain⟨z,y,xs,r,ob,es,ep,e,c⟩:=x;exact⟨z,y,xs,Paired.VQ r λp q z=>⟨z.1,ht _ _ z.2.1,z.2.2⟩,ob,es,ep,k _ _ (.inl rfl) e,c⟩
 |set S n=>obtain⟨ob,es,ep,t,e,c⟩:=x;exact⟨ob,es,ep,t,k _ _ (.inl rfl) e,c⟩
 |ins C dx fs=>
  obtain⟨d,z,ne,e,mA,⟨od,es,ep,e2,c⟩,r⟩:=x;exact⟨ho _ d,z,ne,k _ _ (.inl rfl) e,mA,⟨od,es,ep,k _ _ (.inr d) e2,c⟩,r⟩
 |own y=>obtain⟨ob,e⟩:=x;exact⟨ob,k _ _ (.inl rfl) e⟩
 |xd fs=>obtain⟨mA,⟨od,es,ep,e,c⟩,r⟩:=x;exact⟨mA,⟨od,es,ep,k _ _ (.inl rfl) e,c⟩,r⟩
 |ZH lo hi=>obtain⟨t,u,v,e⟩:=x;exact⟨t,u,v,k _ _ (.inl rfl) e⟩
 |LV ob u ih=>obtain⟨e,q⟩:=x;exact⟨k _ _ (.inl rfl) e,ih q⟩
 |Q3 ps=>
  have e:h.get? a=some { cls:=.none,data:=.fields ps }:=x;show h'.get? a=some { cls:=.none,data:=.fields ps };exact k a _ (.inl rfl) e
 |met f y=>
  have e:h.get? a=some (PySem.W.methodObj (.ref f) (.ref y)):=x;show h'.get? a=some (PySem.W.methodObj (.ref f) (.ref y));exact k a _ (.inl rfl) e
 |ext φ=>obtain⟨p,⟨o,e⟩,st⟩:=x;exact⟨st _ _ p λo q=>k _ _ (.inl rfl) q,⟨o,k _ _ (.inl rfl) e⟩,st⟩
theorem G8.lt(x:G8 P w H h)(e:H a=some o):a<h.objs.size:=(x a o e).lt
theorem G8.fresh(x:G8 P w H h)(e:h.objs.size<=a):H a=none:=by
 cases q:H a with
 |none=>rfl
 |some u=>exact absurd (aav (x.lt q) e) (abd _)
def G8.kept(x:G8 P w H h)(k:∀b u,h.get? b=some u->h'.get? b=some u):G8 P w H h':=λa o e=>
 (x a o e).GR (λb u _ q=>k b u q) (λ_ q=>q) λ_ _ q=>q
def G8.laid(x:G8 P w H h)(k:∀b u,h.get? b=some u->h'.get? b=some u)(hp:h.objs.size<=a)(new:j5 P w (upd H a o) h' a o):G8 P w (upd H a o) h':=λb u e=>by
 have hn:=x.fresh hp;by_cases hb:b=a
 ·subst hb;rw[aa]at e;cases e;exact new
 ·rw[aw hb]at e;exact(x b u e).GR (λc v _ q=>k c v q) (λc q=>by rw[aw (aS q hn)];exact q) λc xs q=>by rw[aw (aS q hn)];exact q
end
def Rd(H:Hp)(a:Addr)(u:HO):Prop:=H a=some u\/∃o,H a=some (.LV o u)
variable{P:Program}{w:World}
def Rd.ok{a:Addr}{u:HO}(r:Rd H a u)(x:G8 P w H h):j5 P w H h a u:=by
 rcases r with r|⟨o,r⟩
 ·exact x a u r
 ·obtain⟨_,q⟩:=x a _ r;exact q
def YT:Option HO->Prop
 |some (.lst _)=>True
 |some (.dK _)=>True
 |some (.dT _)=>True
 |some (.set _ _)=>True
 |some (.ins _ _ _)=>True
 |some (.ext _)=>True
 |_=>False
section
variable{P:Program}{w:World}{H:Hp}{h h':Heap}{x e:Addr}{o':HO}
def G8.write(ok:G8 P w H h)(mu:YT (H x))(he:e=x\/H e=some (.own x))(k:∀b u,b≠e->h.get? b=some u->h'.get? b=some u)(UZ:∃u,h'.get? e=some u)(new:j5 P w (upd H x o') h' x o'):G8 P w (upd H x o') h':=λb u q=>by
 have VL:∀c y,H c=some (.own y)->c≠x:=λc y r z=>by subst z;rw[r]at mu;exact mu
 have ntup:∀c xs,H c=some (.tup xs)->c≠x:=λc xs r z=>by subst z;rw[r]at mu;exact mu
 by_cases hb:b=x
 ·subst hb;rw[aa]at q;cases q;exact new
 ·rw[aw hb]at q;by_cases Uh:b=e
  ·have q':H b=some (.own x):=by
    rcases he with z|z
    ·exact absurd (Uh.trans z) hb
    ·rw[Uh];exact z
   rw[q]at q';cases q';obtain⟨v,hv⟩:=UZ;exact⟨v,by rw[Uh];exact hv⟩
  ·refine(ok b u q).GR (λc v hc r=>k c v ?_ r) (λc r=>by rw[aw (VL c b r)];exact r) λc xs r=>by rw[aw (ntup c xs r)];exact r
   rcases hc with rfl|hc
   ·exact Uh
   ·rintro rfl;rcases he with z|z
    ·exact VL c b hc z
    ·rw[hc]at z;cases z;exact hb rfl
end
structure Un(fs ex:List Addr)(H H':Hp)(h h':Heap):Prop where
 keep:∀b o,h.get? b=some o->H b=none->b∉fs->b∉ex->h'.get? b=some o
 slot:∀b o,h.get? b=some o->H b=none->b∈fs->b∉ex->∃sl,h'.get? b=some { o with slots:=sl }
 free:∀b o,h.get? b=some o->H b=none->b∉ex->H' b=none
 there:∀b o,h.get? b=some o->b∉ex->∃o',h'.get? b=some o'
 E8:∀b xs,H b=some (.tup xs)->H' b=some (.tup xs)
 C_:∀b o u,H b=some (.LV o u)->H' b=some (.LV o u)
 E9:∀b ps,H b=some (.Q3 ps)->∃more,H' b=some (.Q3 (ps++more))
section
variable{fs fs' ex ex':List Addr}{H H1 H2:Hp}{h h1 h2 h':Heap}{a x e:Addr}{o:HO}
def Un.any(u:Un fs ex H H1 h h1){b:Addr}{ob:Obj}(q:h.get? b=some ob)(n:H b=none)(hx:b∉ex):∃sl,h1.get? b=some { ob with slots:=sl }:=by
 by_cases hb:b∈fs
 ·exact u.slot b ob q n hb hx
 ·exact⟨ob.slots,u.keep b ob q n hb hx⟩
def Un.kept(k:∀b u,h.get? b=some u->h'.get? b=some u):Un fs ex H H h h':=
 ⟨λb ob q _ _ _=>k b ob q,λb ob q _ _ _=>⟨ob.slots,k b ob q⟩,λ_ _ _ n _=>n,λb ob q _=>⟨ob,k b ob q⟩,λ_ _ q=>q,λ_ _ _ q=>q,λ_ ps q=>⟨#[],by rw[q];simp⟩⟩
def Un.refl:Un fs ex H H h h:=Un.kept λ_ _ q=>q
def Un.laid(k:∀b u,h.get? b=some u->h'.get? b=some u)(hp:h.objs.size<=a)(hn:H a=none):Un fs ex H (upd H a o) h h' where
 keep:=λb u q _ _ _=>k b u q
 slot:=λb u q _ _ _=>⟨u.slots,k b u q⟩
 free:=λb u q n _=>by rw[aw (aaY (aav (aao q) hp))];exact n
 there:=λb u q _=>⟨u,k b u q⟩
 E8:=λb xs q=>by rw[aw (aS q hn)];exact q
 C_:=λb u xs q=>by rw[aw (aS q hn)];exact q
 E9:=λb ps q=>⟨#[],by rw[aw (aS q hn),q];simp⟩
def Un.write(mu:YT (H x))(he:e=x\/H e=some (.own x))(k:∀b u,b≠e->h.get? b=some u->h'.get? b=some u)(UZ:∃u,h'.get? e=some u):Un fs ex H (upd H x o) h h':=by
 have hx:∀b,H b=none->b≠x:=λb n z=>by subst z;rw[n]at mu;exact mu
 have hb:∀b,H b=none->b≠e:=λb n z=>by
  subst z;rcases he with r|r
  ·exact hx b n r
  ·rw[n]at r;cases r
 have hm:∀b u,H b=some u->¬YT (some u)->b≠x:=λb u q nm z=>by subst z;rw[q]at mu;exact nm mu
 refine⟨λb u q n _ _=>k b u (hb b n) q,λb u q n _ _=>⟨u.slots,k b u (hb b n) q⟩,λb u q n _=>by rw[aw (hx b n)];exact n,λb u q _=>?_,
  λb xs q=>by rw[aw (hm b _ q λz=>z)];exact q,λb u xs q=>by rw[aw (hm b _ q λz=>z)];exact q,λb ps q=>⟨#[],by rw[aw (hm b _ q λz=>z),q];simp⟩⟩
 by_cases Uh:b=e
 ·subst Uh;exact UZ
 ·exact⟨u,k b u Uh q⟩
end
noncomputable def Zy(h:Heap)(H:Hp):List Addr:=(List.range h.objs.size).filter λa=>(H a).isSome
noncomputable def wC(h:Heap)(H:Hp):Heap:=PySem.W.hideAll h (Zy h H)
def tu(h:Heap)(H:Hp):(wC h H).objs.size=h.objs.size:=PySem.W.hideAll_size _ _
def wB{b:Addr}(e:h.get? b=some o)(n:H b=none):(wC h H).get? b=some o:=
 acR _ e λhm=>by have q:(H b).isSome=true:=(List.mem_filter.mp hm).2;rw[n]at q;simp at q
theorem zP{b:Addr}(e:(wC h H).get? b=some o):h.get? b=some o/\H b=none:=by
 have e':h.get? b=some o:=acZ (Zy h H) e;refine⟨e',?_⟩;cases q:H b with
 |none=>rfl
 |some x=>
  have hm:b∈Zy h H:=List.mem_filter.mpr ⟨List.mem_range.mpr (aao e'),by simp[q]⟩;have z:(wC h H).get? b=none:=PySem.W.hideAll_none (Zy h H) hm;rw[z]at e;cases e
structure Mod(K:W.Frag)(mg:Str->Option Value)(base:Heap):Prop where
 UX:K.In base
 glob:base.Ns mainGlobals mg
 blt:∃mb,base.Ns builtinsNs mb/\∀x:Str,x ≠ "__name__"->mb x=bootBuiltins x
 nolimit:base.NoLimit
structure Cx where
 prog:Program
 w:World
 K:W.Frag
 mg:Str->Option Value
 base:Heap
 A:Around
 N:List Str
 s₀:Shared
 H₀:Hp
 env:Env
 outer:List Env
 stack:List Env
 ex:List Addr
 fn:Str->Bool
 calm:Bool
 pn:List (Addr×Obj)
 xe:Value->Shared->Prop
noncomputable def u_(l:List Env):List Addr:=l.filterMap (·.frame)
abbrev Cx.fs(X:Cx):List Addr:=u_ X.outer
def YQ(sc:Scope)(x:Str):Prop:=sc.names.lookup x=some .local\/sc.names.lookup x=some .cell\/sc.names.lookup x=some .free
def Loc(sc:Scope)(x:Str):Prop:=sc.names.lookup x=some .local\/sc.names.lookup x=some .cell
def Gi(env:Env)(h:Heap)(m:Str->Option Value)(x:Str)(u:Value):Prop:=
 (env.kindOf x=some .local/\m x=some u)\/((env.kindOf x=some .cell\/env.kindOf x=some .free)/\∃c,env.cells.lookup x=some c/\h.IsCell c (some u))
structure Cx.Ok(X:Cx):Prop where
 mod:Mod X.K X.mg X.base
 kind:X.env.scope.kind=.function
 glob:X.env.globals=mainGlobals
 blt:X.env.builtins=builtinsNs
 above:X.s₀.heap.objs.size<=X.env.locals
 inj:∀x y c,X.env.cells.lookup x=some c->X.env.cells.lookup y=some c->x=y
 has:∀x,(X.env.kindOf x=some .cell\/X.env.kindOf x=some .free)->∃c,X.env.cells.lookup x=some c
 Va:∀x c,X.fn x=true->X.env.cells.lookup x=some c->X.s₀.heap.objs.size<=c
 hd:X.calm=true->X.A.handled=none
 frames:X.A.frames=some X.stack
 Vt:X.stack=X.outer\/(X.stack=X.env::X.outer/\X.env.frame=some X.env.locals)
 exf:∀b∈X.ex,b≠X.env.locals/\∀x c,X.env.cells.lookup x=some c->c≠b
 bs:∀b o,X.base.get? b=some o->X.s₀.heap.get? b=some o/\X.H₀ b=none
 P1:X.base.objs.size<=X.s₀.heap.objs.size
 MU:∀b o,X.base.get? b=some o->b∉X.ex
 Oy:∀b∈X.ex,b∉X.fs
 HP:X.s₀.heap.FunFrames X.base X.outer
 RH:∀b∈X.fs,X.H₀ b=none
structure Inv(X:Cx)(pins:List (Addr×Obj))(σ:List (Option V))(H:Hp)(s:Shared):Prop where
 ok:X.Ok
 os:s.os=X.s₀.os
 bare:AllBare s.gens
 base:Un X.fs X.ex X.H₀ H X.s₀.heap s.heap
 loc:∃m,s.heap.Ns X.env.locals m/\∀(i:Nat)(x:Str)(v:V),X.N[i]?=some x->σ[i]?=some (some v)->YQ X.env.scope x->∃u,RelV v u/\Gi X.env s.heap m x u
 cell:∀x c,X.env.cells.lookup x=some c->∃v,s.heap.IsCell c v
 free:H X.env.locals=none
 y9:∀x c,X.env.cells.lookup x=some c->H c=none
 pin:∀p∈X.pn++pins,s.heap.get? p.1=some p.2/\H p.1=none/\p.1≠X.env.locals/\p.1∉X.fs/\∀v,p.2.data≠.cell v
 h_:G8 X.prog X.w H s.heap
 len:σ.length=X.N.length
variable{E:Value->Shared->Prop}{u:Value}{A:Around}{x:Str}{ch:List Addr}{i t' j:Nat}{g':Array GenState}{M:Model}{v:V}{N:List Str}{d':Drawn}{it:Addr}
section
variable{X:Cx}{pins:List (Addr×Obj)}{σ:List (Option V)}{H H':Hp}{s:Shared}{h':Heap}
def Cx.Ok.N8(ok:X.Ok){b:Addr}(e:X.base.get? b=some o):b∉X.fs:=λhb=>by have:=(ok.HP.mem hb).1;rw[e]at this;cases this
theorem Inv.bs(I:Inv X pins σ H s):∀b o,X.base.get? b=some o->s.heap.get? b=some o/\H b=none:=λb o e=>
 ⟨I.base.keep b o (I.ok.bs b o e).1 (I.ok.bs b o e).2 (I.ok.N8 e) (I.ok.MU b o e),I.base.free b o (I.ok.bs b o e).1 (I.ok.bs b o e).2 (I.ok.MU b o e)⟩
def Inv.bk(I:Inv X pins σ H s):∀b o,X.base.get? b=some o->s.heap.get? b=some o:=λb o e=>(I.bs b o e).1
theorem Inv.mod(I:Inv X pins σ H s):Mod X.K X.mg X.base:=I.ok.mod
def Inv.Hb(I:Inv X pins σ H s):X.K.In s.heap:=I.ok.mod.UX.keeps I.bk
theorem Inv.lt(I:Inv X pins σ H s):X.env.locals<s.heap.objs.size:=let⟨_,hn,_⟩:=I.loc;hn.lt
def Inv.sz(I:Inv X pins σ H s):X.s₀.heap.objs.size<=s.heap.objs.size:=abb I.ok.above (ac7 I.lt)
def Inv.nofs(I:Inv X pins σ H s){a:Addr}(h:s.heap.objs.size<=a):a∉X.fs:=λhb=>by obtain⟨_,o,ho,_⟩:=I.ok.HP.mem hb;exact absurd (aav (aao ho) (abb I.sz h)) (abd _)
def Inv.Pp(I:Inv X pins σ H s):∀x c,X.env.cells.lookup x=some c->c≠X.env.locals:=λx c e z=>by obtain⟨v,o,ho,hd⟩:=I.cell x c e;obtain⟨m,⟨o',es,ep,Oq,Ia,_⟩,_⟩:=I.loc;rw[z,Oq]at ho;cases ho;rw[Ia]at hd;cases hd
theorem Inv.HP(I:Inv X pins σ H s):s.heap.FunFrames X.base X.outer:=by
 have all:∀(l:List Env),(∀b∈u_ l,b∈X.fs)->X.s₀.heap.FunFrames X.base l->s.heap.FunFrames X.base l:=by
  intro l;induction l with
  |nil=>intro _ _;trivial
  |cons env r ih=>
   intro hs hl;obtain⟨hk,⟨L,o,hf,hn,ho,hd⟩,hr⟩:=hl;have hL:L∈X.fs:=hs L (by unfold u_;rw[acf,hf];exact aap);obtain⟨sl,e⟩:=I.base.slot L o ho (I.ok.RH L hL) hL λz=>I.ok.Oy L z hL;exact⟨hk,⟨L,_,hf,hn,e,hd⟩,ih (λb hb=>hs b (by unfold u_;rw[acf,hf];exact aah _ hb)) hr⟩
 exact all X.outer (λ_ hb=>hb) I.ok.HP
theorem Inv.stack(I:Inv X pins σ H s):s.heap.FunFrames X.base X.stack:=by
 rcases I.ok.Vt with e|⟨e,hf⟩
 ·rw[e];exact I.HP
 ·rw[e];obtain⟨m,hn,_⟩:=I.loc;refine .cons (by rw[I.ok.kind];decide) hf hn ?_ I.HP;exact Heap.get?_none_of_le (abb I.ok.P1 I.ok.above)
def Inv.Lr(I:Inv X pins σ H s):∀b∈u_ X.stack,b∈X.env.locals::X.fs:=λb hb=>by
 rcases I.ok.Vt with e|⟨e,hf⟩
 ·rw[e]at hb;exact aah _ hb
 ·rw[e]at hb;unfold u_ at hb;rw[acf,hf]at hb;exact hb
def Inv.G6(I:Inv X pins σ H s):∀b∈u_ X.stack,H b=none:=λb hb=>by
 rcases List.mem_cons.mp (I.Lr b hb)with e|hb
 ·rw[e];exact I.free
 ·obtain⟨_,o,ho,_⟩:=I.ok.HP.mem hb;exact I.base.free b o ho (I.ok.RH b hb) λz=>I.ok.Oy b z hb
def Inv.step(I:Inv X pins σ H s)(Mw:∀b∈ch,(b∈X.ex\/X.s₀.heap.objs.size<=b)/\b≠X.env.locals/\(∀x c,X.env.cells.lookup x=some c->c≠b)/\∀p∈X.pn++pins,p.1≠b)(keep:∀b o,b≠X.env.locals->b∉X.fs->b∉ch->s.heap.get? b=some o->H b=none->h'.get? b=some o)(slot:∀b o,b≠X.env.locals->b∈X.fs->b∉ch->s.heap.get? b=some o->H b=none->∃sl,h'.get? b=some { o with slots:=sl })(free:∀b o,b∉ch->s.heap.get? b=some o->H b=none->H' b=none)(there:∀b o,b∉ch->s.heap.get? b=some o->∃o',h'.get? b=some o')(E8:∀b xs,H b=some (.tup xs)->H' b=some (.tup xs))(C_:∀b o u,H b=some (.LV o u)->H' b=some (.LV o u))(E9:∀b ps,H b=some (.Q3 ps)->∃more,H' b=some (.Q3 (ps++more)))(ns:∀m,s.heap.Ns X.env.locals m->h'.Ns X.env.locals m)(h_:G8 X.prog X.w H' h')(hg:AllBare g'):
 Inv X pins σ H' { s with heap:=h',gens:=g',drawn:=d',toks:=t' }:=by
 have ZP:∀b o,X.s₀.heap.get? b=some o->b≠X.env.locals:=λb o e=>aaY (aav (aao e) I.ok.above);have N9:∀b o,X.s₀.heap.get? b=some o->b∉X.ex->b∉ch:=λb o e hx hb=>by
  rcases(Mw b hb).1 with z|z
  ·exact hx z
  ·exact absurd (aav (aao e) z) (abd _)
 have cellK:∀x c,X.env.cells.lookup x=some c->∀v,s.heap.IsCell c v->h'.IsCell c v:=λx c e v ⟨o,ho,hd⟩=>by
  have VO:c∉ch:=λz=>(Mw c z).2.2.1 x c e rfl;by_cases hc:c∈X.fs
  ·obtain⟨sl,q⟩:=slot c o (I.Pp x c e) hc VO ho (I.y9 x c e);exact⟨_,q,hd⟩
  ·exact⟨o,keep c o (I.Pp x c e) hc VO ho (I.y9 x c e),hd⟩
 refine⟨I.ok,I.os,hg,⟨λb o e n hb hx=>?_,λb o e n hb hx=>?_,λb o e n hx=>?_,λb o e hx=>?_,λb xs e=>E8 b xs (I.base.E8 b xs e),λb o xs e=>C_ b o xs (I.base.C_ b o xs e),λb ps e=>?_⟩,?_,λx c e=>?_,?_,λx c e=>?_,λp hp=>?_,h_,I.len⟩
 ·exact keep b o (ZP b o e) hb (N9 b o e hx) (I.base.keep b o e n hb hx) (I.base.free b o e n hx)
 ·obtain⟨sl,e1⟩:=I.base.slot b o e n hb hx;obtain⟨SG,e2⟩:=slot b _ (ZP b o e) hb (N9 b o e hx) e1 (I.base.free b o e n hx);exact⟨SG,e2⟩
 ·obtain⟨o',e1⟩:=I.base.there b o e hx;exact free b o' (N9 b o e hx) e1 (I.base.free b o e n hx)
 ·obtain⟨o',e1⟩:=I.base.there b o e hx;exact there b o' (N9 b o e hx) e1
 ·obtain⟨m1,e1⟩:=I.base.E9 b ps e;obtain⟨m2,e2⟩:=E9 b _ e1;exact⟨m1++m2,by rw[e2,ac2]⟩
 ·obtain⟨m,hn,hl⟩:=I.loc;refine⟨m,ns m hn,λi x v e1 e2 e3=>?_⟩;obtain⟨u,r,l⟩:=hl i x v e1 e2 e3;refine⟨u,r,?_⟩;rcases l with l|⟨k,c,e,z⟩
  ·exact .inl l
  ·exact .inr ⟨k,c,e,cellK x c e _ z⟩
 ·obtain⟨v,z⟩:=I.cell x c e;exact⟨v,cellK x c e v z⟩
 ·obtain⟨m,⟨o,_,_,ho,_⟩,_⟩:=I.loc;exact free _ o (λz=>(Mw _ z).2.1 rfl) ho I.free
 ·obtain⟨v,o,ho,hd⟩:=I.cell x c e;exact free c o (λz=>(Mw c z).2.2.1 x c e rfl) ho (I.y9 x c e)
 ·obtain⟨e,n,ne,nf,d⟩:=I.pin p hp;have VO:p.1∉ch:=λz=>(Mw p.1 z).2.2.2 p hp rfl;exact⟨keep p.1 p.2 ne nf VO e n,free p.1 p.2 VO e n,ne,nf,d⟩
theorem Inv.un(I:Inv X pins σ H s)(u:Un X.fs [] H H' s.heap h')(h_:G8 X.prog X.w H' h'):Inv X pins σ H' { s with heap:=h',toks:=t' }:=by
 obtain⟨m,⟨o,es,ep,ho,r⟩,_⟩:=id I.loc;obtain⟨sl,hL⟩:=u.any ho I.free (by simp);exact I.step (g':=s.gens) (d':=s.drawn) (ch:=[]) (λ_ z=>nomatch z) (λb o _ hb _ e n=>u.keep b o e n hb (by simp)) (λb o _ hb _ e n=>u.slot b o e n hb (by simp)) (λb o _ e n=>u.free b o e n (by simp)) (λb o _ e=>u.there b o e (by simp)) u.E8 u.C_ u.E9 (λm' hm=>by
  obtain⟨o',es',ep',Oq,r'⟩:=hm;rw[ho]at Oq;cases Oq;exact⟨_,es',ep',hL,r'⟩) h_ I.bare
theorem Inv.call(I:Inv X pins σ H s)(u:Un (u_ X.stack) ch H H' s.heap h')(h_:G8 X.prog X.w H' h')(hg:AllBare g')(Mw:∀b∈ch,(b∈X.ex\/X.s₀.heap.objs.size<=b)/\b≠X.env.locals/\(∀x c,X.env.cells.lookup x=some c->c≠b)/\∀p∈X.pn++pins,p.1≠b):
 Inv X pins σ H' { s with heap:=h',gens:=g',drawn:=d',toks:=t' }:=by
 obtain⟨m,⟨o,es,ep,ho,r⟩,_⟩:=id I.loc;obtain⟨sl,hL⟩:=u.any ho I.free λz=>(Mw _ z).2.1 rfl;exact I.step (ch:=ch) Mw (λb o hL hb hc e n=>u.keep b o e n (λz=>(List.mem_cons.mp (I.Lr b z)).elim hL hb) hc) (λb o _ _ hc e n=>u.any e n hc) (λb o hc e n=>u.free b o e n hc) (λb o hc e=>u.there b o e hc) u.E8 u.C_ u.E9 (λm' hm=>by
  obtain⟨o',es',ep',Oq,r'⟩:=hm;rw[ho]at Oq;cases Oq;exact⟨_,es',ep',hL,r'⟩) h_ hg
def Inv.turned(I:Inv X pins σ H s)(k:∀b o,b≠it->s.heap.get? b=some o->h'.get? b=some o)(hn:H it=none)(hL:it≠X.env.locals)(h1:it∈X.ex\/X.s₀.heap.objs.size<=it)(h2:∀x c,X.env.cells.lookup x=some c->c≠it)(h3:∀p∈X.pn++pins,p.1≠it):Inv X pins σ H { s with heap:=h',toks:=t' }:=by
 have nit:∀b u,H b=some u->b≠it:=λb u e z=>by rw[z,hn]at e;cases e
 refine I.step (g':=s.gens) (d':=s.drawn) (ch:=[it]) (λb hb=>?_) (λb o _ _ hc e _=>k b o (λz=>hc (by simp[z])) e) (λb o _ _ hc e _=>⟨o.slots,k b o (λz=>hc (by simp[z])) e⟩) (λ_ _ _ _ n=>n)
  (λb o hc e=>⟨o,k b o (λz=>hc (by simp[z])) e⟩) (λ_ _ e=>e) (λ_ _ _ e=>e) (λb ps e=>⟨#[],by rw[e];simp⟩) (λm hm=>?_) (λb u e=>?_) I.bare
 ·have e:b=it:=by simpa using hb
  subst e;exact⟨h1,hL,h2,h3⟩
 ·obtain⟨o,es,ep,ho,r⟩:=hm;exact⟨o,es,ep,k _ o (abw hL) ho,r⟩
 ·refine(I.h_ b u e).GR (λc v hc q=>k c v ?_ q) (λ_ q=>q) λ_ _ q=>q;rcases hc with z|z
  ·rw[z];exact nit b u e
  ·exact nit c _ z
def Inv.tok(I:Inv X pins σ H s)(t:Nat):Inv X pins σ H { s with toks:=t }:=I.un (h':=s.heap) (t':=t) Un.refl I.h_
theorem Inv.kept{t':Nat}(I:Inv X pins σ H s)(k:∀b u,s.heap.get? b=some u->h'.get? b=some u):Inv X pins σ H { s with heap:=h',toks:=t' }:=I.un (Un.kept k) (I.h_.kept k)
theorem Inv.laid{a:Addr}{o:HO}{t':Nat}(I:Inv X pins σ H s)(k:∀b u,s.heap.get? b=some u->h'.get? b=some u)(hp:s.heap.objs.size<=a)(new:j5 X.prog X.w (upd H a o) h' a o):
 Inv X pins σ (upd H a o) { s with heap:=h',toks:=t' }:=I.un (Un.laid k hp (I.h_.fresh hp)) (I.h_.laid k hp new)
theorem Inv.write{x e:Addr}{o:HO}{t':Nat}(I:Inv X pins σ H s)(mu:YT (H x))(he:e=x\/H e=some (.own x))(k:∀b u,b≠e->s.heap.get? b=some u->h'.get? b=some u)(UZ:∃u,h'.get? e=some u)(new:j5 X.prog X.w (upd H x o) h' x o):Inv X pins σ (upd H x o) { s with heap:=h',toks:=t' }:=I.un (Un.write mu he k UZ) (I.h_.write mu he k UZ new)
def Inv.weak{l_:List (Option V)}(I:Inv X pins σ H s)(hl:l_.length=σ.length)(w:∀(i:Nat) v,l_[i]?=some (some v)->σ[i]?=some (some v)):Inv X pins l_ H s:=
 ⟨I.ok,I.os,I.bare,I.base,let⟨m,hn,Jd⟩:=I.loc;⟨m,hn,λi x v e1 e2 e3=>Jd i x v e1 (w i v e2) e3⟩,I.cell,I.free,I.y9,I.pin,I.h_,hl.trans I.len⟩
def Inv.JW{Rc:List (Addr×Obj)}(I:Inv X pins σ H s)(h:∀p∈Rc,s.heap.get? p.1=some p.2/\H p.1=none/\p.1≠X.env.locals/\p.1∉X.fs/\∀v,p.2.data≠.cell v):Inv X Rc σ H s:=
 ⟨I.ok,I.os,I.bare,I.base,I.loc,I.cell,I.free,I.y9,λp hp=>(List.mem_append.mp hp).elim (λz=>I.pin p (abF _ z)) (h p),I.h_,I.len⟩
def jC(hN:N.Nodup)(a:N[i]?=some x)(b:N[j]?=some x):i=j:=by obtain⟨h1,e1⟩:=List.getElem?_eq_some_iff.mp a;obtain⟨h2,e2⟩:=List.getElem?_eq_some_iff.mp b;exact(List.getElem_inj hN).mp (e1.trans e2.symm)
variable{Q:Unit->Shared->Prop}
theorem qU(I:Inv X pins σ H s)(hN:X.N.Nodup)(hi:X.N[i]?=some x)(hx:Loc X.env.scope x)(r:RelV v u)(h:∀s',Inv X pins (σ.set i (some v)) H s'->(∃a,Heap.SameBut a s.heap s'.heap/\(a=X.env.locals\/X.env.cells.lookup x=some a))->Q () s')(hf:X.fn x=true\/X.env.scope.names.lookup x=some .local:=by first|exact .inl rfl|exact .inr rfl|assumption):wpAny M A (storeName X.env x u) Q E s:=by
 obtain⟨m,hn,hl⟩:=id I.loc;have Ud:(X.env.scope.kind == .class||(X.env.scope.kind == .module&&X.env.locals != X.env.globals))=false:=by rw[I.ok.kind];rfl
 have WT:i<σ.length:=by rw[I.len];exact(List.getElem?_eq_some_iff.mp hi).1
 have Pp:=I.Pp;have tracked:∀{a:Addr}{h':Heap},(∃o,s.heap.get? a=some o/\H a=none)->Heap.SameBut a s.heap h'->G8 X.prog X.w H h':=λ{a h'} ha hs b ob e=>by
  obtain⟨_,_,HZ⟩:=ha;refine(I.h_ b ob e).GR (λc w' hc q=>(hs.2 c ?_).trans q) (λ_ q=>q) λ_ _ q=>q;rintro rfl;rcases hc with rfl|hc
  ·rw[HZ]at e;cases e
  ·rw[HZ]at hc;cases hc
 rcases hx with hk|hk
 ·refine wpAny_storeName_local hk hn (λh' hn' hs=>?_) Ud;obtain⟨oL,_,_,WH,_⟩:=id hn;refine h _ ⟨I.ok,I.os,I.bare,⟨λb o e n hb hx=>?_,λb o e n hb hx=>?_,I.base.free,λb o e hx=>?_,I.base.E8,I.base.C_,I.base.E9⟩,⟨_,hn',λj y v' e1 e2 e3=>?_⟩,λy c e=>?_,I.free,I.y9,λp hp=>?_,tracked ⟨oL,WH,I.free⟩ hs,by simpa using I.len⟩ ⟨_,hs,.inl rfl⟩
  ·exact(hs.2 b (aaY (aav (aao e) I.ok.above))).trans (I.base.keep b o e n hb hx)
  ·obtain⟨sl,e1⟩:=I.base.slot b o e n hb hx;exact⟨sl,(hs.2 b (aaY (aav (aao e) I.ok.above))).trans e1⟩
  ·obtain⟨o',e1⟩:=I.base.there b o e hx;exact⟨o',(hs.2 b (aaY (aav (aao e) I.ok.above))).trans e1⟩
  ·by_cases hj:j=i
   ·subst hj;rw[hi]at e1;cases e1;rw[acA WT]at e2;cases e2;exact⟨u,r,.inl ⟨hk,by simp⟩⟩
   ·rw[acM (abw hj)]at e2;obtain⟨u',r',q⟩:=hl j y v' e1 e2 e3;refine⟨u',r',?_⟩;rcases q with⟨k,e⟩|⟨k,c,e,z⟩
    ·refine .inl ⟨k,?_⟩;have:y≠x:=λe=>hj (jC hN e1 (e▸hi));simp[this,e]
    ·exact .inr ⟨k,c,e,z.sameBut hs (Pp y c e)⟩
  ·obtain⟨w',z⟩:=I.cell y c e;exact⟨w',z.sameBut hs (Pp y c e)⟩
  ·obtain⟨e,n,ne,nf,d⟩:=I.pin p hp;exact⟨(hs.2 p.1 ne).trans e,n,ne,nf,d⟩
 ·have hfn:X.fn x=true:=by
   rcases hf with z|z
   ·exact z
   ·rw[z]at hk;cases hk
  obtain⟨c,hc⟩:=I.ok.has x (.inl hk);obtain⟨w',z⟩:=I.cell x c hc;refine wpAny_storeName_cell I.ok.kind hk hc z (λh' Ug hs=>?_);obtain⟨oc,_a,hocd⟩:=id z;refine h { s with heap:=h' } ⟨I.ok,I.os,I.bare,⟨λb o e n hb hx=>?_,λb o e n hb hx=>?_,I.base.free,λb o e hx=>?_,I.base.E8,I.base.C_,I.base.E9⟩,⟨m,hn.sameBut hs (abw (Pp x c hc)),λj y v' e1 e2 e3=>?_⟩,λy c' e=>?_,I.free,I.y9,λp hp=>?_,tracked ⟨oc,_a,I.y9 x c hc⟩ hs,by simpa using I.len⟩ ⟨c,hs,.inr hc⟩
  ·exact(hs.2 b (aaY (aav (aao e) (I.ok.Va x c hfn hc)))).trans (I.base.keep b o e n hb hx)
  ·obtain⟨sl,e1⟩:=I.base.slot b o e n hb hx;exact⟨sl,(hs.2 b (aaY (aav (aao e) (I.ok.Va x c hfn hc)))).trans e1⟩
  ·obtain⟨o',e1⟩:=I.base.there b o e hx;exact⟨o',(hs.2 b (aaY (aav (aao e) (I.ok.Va x c hfn hc)))).trans e1⟩
  ·by_cases hj:j=i
   ·subst hj;rw[hi]at e1;cases e1;rw[acA WT]at e2;cases e2;exact⟨u,r,.inr ⟨.inl hk,c,hc,Ug⟩⟩
   ·rw[acM (abw hj)]at e2;obtain⟨u',r',q⟩:=hl j y v' e1 e2 e3;refine⟨u',r',?_⟩;rcases q with q|⟨k,c',e,z'⟩
    ·exact .inl q
    ·refine .inr ⟨k,c',e,z'.sameBut hs ?_⟩;rintro rfl;exact hj (jC hN e1 (I.ok.inj _ _ _ e hc▸hi))
  ·by_cases hcc:c'=c
   ·subst hcc;exact⟨_,Ug⟩
   ·obtain⟨w2,z2⟩:=I.cell y c' e;exact⟨w2,z2.sameBut hs hcc⟩
  ·obtain⟨e,n,ne,nf,d⟩:=I.pin p hp;refine⟨(hs.2 p.1 ?_).trans e,n,ne,nf,d⟩;intro q;rw[q,_a]at e;have q':oc=p.2:=aaq e;exact d w' (by rw[<-q'];exact hocd)
def jg(I:Inv X pins σ H s)(hN:X.N.Nodup)(hi:X.N[i]?=some x)(hx:Loc X.env.scope x)(r:RelV v u)(h:∀s',Inv X pins (σ.set i (some v)) H s'->Q () s')(hf:X.fn x=true\/X.env.scope.names.lookup x=some .local:=by first|exact .inl rfl|exact .inr rfl|assumption):wpAny M A (storeName X.env x u) Q E s:=
 qU I hN hi hx r (λs' I' _=>h s' I') hf
def Inv.Pq{s':Shared}(I:Inv X pins σ H s)(ho:s'.os=s.os)(u:Un (u_ X.stack) ch H H' s.heap s'.heap)(h_:G8 X.prog X.w H' s'.heap)(hg:AllBare s'.gens)(Mw:∀b∈ch,(b∈X.ex\/X.s₀.heap.objs.size<=b)/\b≠X.env.locals/\(∀x c,X.env.cells.lookup x=some c->c≠b)/\∀p∈X.pn++pins,p.1≠b):Inv X pins σ H' s':=by obtain⟨h',g',d',t',o'⟩:=s';have e:o'=s.os:=ho;subst e;exact I.call (g':=g') (t':=t') (d':=d') u h_ hg Mw
end
abbrev XK:=Value->Option Addr->Hp->Prop
abbrev St:=List (Option V)
abbrev VK:=V->Hp->Prop
abbrev TE:=St->Hp->VK->Prop
abbrev TT:=St->Hp->(Bool->Hp->Prop)->Prop
abbrev TA:=St->Hp->(List V->Hp->Prop)->Prop
structure mC where
 nx:St->Hp->Prop
 rt:VK
 bk:St->Hp->Prop:=λ_ _=>False
 ct:St->Hp->Prop:=λ_ _=>False
abbrev TS:=mC->St->Hp->Prop
def EP(X:Cx)(pins:List (Addr×Obj))(σ:St)(Q:VK)(u:Value)(s':Shared):Prop:=∃v H',Inv X pins σ H' s'/\RelV v u/\Q v H'
def TP(X:Cx)(pins:List (Addr×Obj))(σ:St)(Q:Bool->Hp->Prop)(b:Bool)(s':Shared):Prop:=∃H',Inv X pins σ H' s'/\Q b H'
def AP(X:Cx)(pins:List (Addr×Obj))(σ:St)(Q:List V->Hp->Prop)(us:List Value)(s':Shared):Prop:=∃vs H',Inv X pins σ H' s'/\Vals vs us/\Q vs H'
def SP(X:Cx)(pins:List (Addr×Obj))(D:mC)(f:Flow)(s':Shared):Prop:=
 match f with
 |.next=>∃l_ H',Inv X pins l_ H' s'/\D.nx l_ H'
 |.brk=>∃l_ H',Inv X pins l_ H' s'/\D.bk l_ H'
 |.cont=>∃l_ H',Inv X pins l_ H' s'/\D.ct l_ H'
 |.ret u=>∃v l_ H',Inv X pins l_ H' s'/\RelV v u/\D.rt v H'
def PE(X:Cx)(e:Expr)(t:TE):Prop:=
 ∀(pins:List (Addr×Obj))(s:Shared)(σ:St)(H:Hp)(Q:VK),Inv X pins σ H s->t σ H Q->wpAny (model X.prog X.w) X.A (eval e X.env) (EP X pins σ Q) X.xe s
def PT(X:Cx)(e:Expr)(t:TT):Prop:=
 ∀(pins:List (Addr×Obj))(s:Shared)(σ:St)(H:Hp)(Q:Bool->Hp->Prop),Inv X pins σ H s->t σ H Q->wpAny (model X.prog X.w) X.A (isTrue e X.env (eval e X.env)) (TP X pins σ Q) X.xe s
def PW(X:Cx)(e:Expr)(t:TT):Prop:=
 ∀(whole:Sem Value)(pins:List (Addr×Obj))(s:Shared)(σ:St)(H:Hp)(Q:Bool->Hp->Prop),Inv X pins σ H s->t σ H Q->wpAny (model X.prog X.w) X.A (isTrue e X.env whole) (TP X pins σ Q) X.xe s
def PW.pt{X:Cx}{e:Expr}{t:TT}(h:PW X e t):PT X e t:=h _
def PA(X:Cx)(es:List Expr)(t:TA):Prop:=
 ∀(pos:Pos)(pins:List (Addr×Obj))(s:Shared)(σ:St)(H:Hp)(Q:List V->Hp->Prop),Inv X pins σ H s->t σ H Q->wpAny (model X.prog X.w) X.A (spliced (backTo pos (starEach es X.env))) (AP X pins σ Q) X.xe s
def PS(X:Cx)(st:Stmt)(t:TS):Prop:=
 ∀(pins:List (Addr×Obj))(s:Shared)(σ:St)(H:Hp)(D:mC),Inv X pins σ H s->t D σ H->wpAny (model X.prog X.w) X.A (exec st X.env) (SP X pins D) X.xe s
def Le(X:Cx)(st:List Stmt)(t:TS):Prop:=
 ∀(pins:List (Addr×Obj))(s:Shared)(σ:St)(H:Hp)(D:mC),Inv X pins σ H s->t D σ H->wpAny (model X.prog X.w) X.A (execs st X.env) (SP X pins D) X.xe s
variable{s:Shared}
def j9{α:Type}{t:Sem α}{Q Q':α->Shared->Prop}(h:wpAny M A t Q E s)(hQ:∀a s,Q a s->Q' a s):wpAny M A t Q' E s:=abP h hQ λ_ _ x=>x
variable{pins:List (Addr×Obj)}{Q:Value->Shared->Prop}{σ:St}{e:Expr}{t:TE}
section
variable{X:Cx}
def SA(i:Nat):TE:=λσ H Q=>∃v,σ[i]?=some (some v)/\Q v H
def tC(v:V):TE:=λ_ H Q=>Q v H
def CT{pos:Pos}(hN:X.N[i]?=some x)(hv:YQ X.env.scope x)(hd:(x == ("__debug__" : Str))=false:=by decide)(LS:(x == ("__classdict__" : Str))=false:=by decide):PE X (.Name x pos) (SA i):=by
 intro pins s σ H Q I h;obtain⟨v,e,h⟩:=h;obtain⟨m,hn,hl⟩:=I.loc;obtain⟨u,r,l⟩:=hl i x v hN e hv;have fin:EP X pins σ Q u s:=⟨v,H,I,r,h⟩
 rcases l with⟨hk,hm⟩|⟨hk,c,hc,IW⟩
 ·exact wpAny_Name (wpAny_loadName_local I.ok.kind hk hn hm fin) hd
 ·rcases hk with hk|hk
  ·exact wpAny_Name (wpAny_loadName_cell I.ok.kind hk hc IW fin) hd
  ·exact wpAny_Name (wpAny_loadName_free I.ok.kind hk hc IW fin LS) hd
def S_{i j pos}:PE X (.Constant (.int i) j pos) (tC (.int i)):=λ_ _ _ H _ I h=>wpAny_Constant_int ⟨.int i,H,I.tok _,⟨_,rfl⟩,h⟩
def VJ{b j pos}:PE X (.Constant (.bool b) j pos) (tC (.bl b)):=λ_ _ _ H _ I h=>Constant_bool ⟨.bl b,H,I,rfl,h⟩
def S6{x j pos}:PE X (.Constant (.str x) j pos) (tC (.str x)):=λ_ _ _ H _ I h=>Calls.Constant_str ⟨.str x,H,I.tok _,⟨_,rfl⟩,h⟩
def Gl(X:Cx)(x:Str):Prop:=X.env.kindOf x=some .globalImplicit
def fO{pos:Pos}(I:Inv X pins σ H s)(hg:Gl X x)(hm:X.mg x=some u)(h:Q u s)(hd:(x == ("__debug__" : Str))=false:=by decide):wpAny (model X.prog X.w) X.A (eval (.Name x pos) X.env) Q E s:=
 Calls.Name_function_global I.ok.kind hg (Calls.loadGlobal_global (by rw[I.ok.glob];exact I.mod.glob.keeps I.bk) hm h) hd
def dG{pos:Pos}(I:Inv X pins σ H s)(hg:Gl X x)(hm:X.mg x=none)(hv:bootBuiltins x=some u)(h:Q u s)(hn:x ≠ "__name__":=by decide)(hd:(x == ("__debug__" : Str))=false:=by decide):wpAny (model X.prog X.w) X.A (eval (.Name x pos) X.env) Q E s:=by obtain⟨mb,h1,h2⟩:=I.mod.blt;exact Calls.Name_function_global I.ok.kind hg (Calls.loadGlobal_builtin (by rw[I.ok.glob];exact I.mod.glob.keeps I.bk) hm (by rw[I.ok.blt];exact h1.keeps I.bk) ((h2 x hn).trans hv) h) hd
def Qn{pos:Pos}(hg:Gl X x)(hm:X.mg x=some u)(r:RelV v u)(hd:(x == ("__debug__" : Str))=false:=by decide):PE X (.Name x pos) (tC v):=
 λ_ _ _ H _ I h=>fO I hg hm ⟨v,H,I,r,h⟩ hd
def Qr{pos:Pos}(hg:Gl X x)(hm:X.mg x=none)(hv:bootBuiltins x=some u)(r:RelV v u)(hn:x ≠ "__name__":=by decide)(hd:(x == ("__debug__" : Str))=false:=by decide):PE X (.Name x pos) (tC v):=
 λ_ _ _ H _ I h=>dG I hg hm hv ⟨v,H,I,r,h⟩ hn hd
variable{a b:Expr}{ta tb:TE}{pos:Pos}
def tB(t:TE):TT:=λσ H Q=>t σ H λx H1=>∃c,x=.bl c/\Q c H1
def SQ(h:PE X e t)(he:∀whole,isTrue e X.env whole=(do let v <- whole;standAt e.pos;holding [v] (truthy v)):=by intro _;rfl):PT X e (tB t):=by intro pins s σ H Q I hw;refine isTrue_plain (j9 (h pins s σ H _ I hw) λv s1 ⟨x,H1,I1,r1,q1⟩=>?_) (he _);obtain⟨d,rfl,q⟩:=q1;cases r1;exact abr ⟨H1,I1,q⟩
variable{tA PR:TT}{rest:List Expr}
def Vs(t u:TT):TT:=λσ H Q=>t σ H λc H1=>if c=true then u σ H1 Q else Q false H1
def tOr(t u:TT):TT:=λσ H Q=>t σ H λc H1=>if c=true then Q true H1 else u σ H1 Q
def Vo(t:TT):TT:=λσ H Q=>t σ H λc H1=>Q (!c) H1
theorem Qb(ha:PT X a tA):PW X (.BoolOp .And [a] pos) tA:=by
 intro wh pins s σ H Q I h;refine isTrue_and (j9 (ha pins s σ H Q I h) λc s1 e=>?_);cases c with
 |true=>exact isTrue_and_nil e
 |false=>exact e
theorem SN(ha:PT X a tA):PW X (.BoolOp .Or [a] pos) tA:=by
 intro wh pins s σ H Q I h;refine isTrue_or (j9 (ha pins s σ H Q I h) λc s1 e=>?_);cases c with
 |false=>exact isTrue_or_nil e
 |true=>exact e
theorem SO(ha:PT X a tA)(hb:PW X (.BoolOp .And (b::rest) pos) PR):PW X (.BoolOp .And (a::b::rest) pos) (Vs tA PR):=by
 intro wh pins s σ H Q I h;refine isTrue_and (j9 (ha pins s σ H _ I h) λc s1 ⟨H1,I1,q1⟩=>?_);cases c with
 |true=>exact hb wh pins s1 σ H1 Q I1 q1
 |false=>exact⟨H1,I1,q1⟩
theorem VA(ha:PT X a tA)(hb:PW X (.BoolOp .Or (b::rest) pos) PR):PW X (.BoolOp .Or (a::b::rest) pos) (tOr tA PR):=by
 intro wh pins s σ H Q I h;refine isTrue_or (j9 (ha pins s σ H _ I h) λc s1 ⟨H1,I1,q1⟩=>?_);cases c with
 |true=>exact⟨H1,I1,q1⟩
 |false=>exact hb wh pins s1 σ H1 Q I1 q1
def SR(ha:PT X a tA):PT X (.UnaryOp .Not a pos) (Vo tA):=by intro pins s σ H Q I h;exact isTrue_not (ha pins s σ H (λc H1=>Q (!c) H1) I h)
def Q9(ta tb:TE):TE:=λσ H Q=>ta σ H λx H1=>∃c,x=.bl c/\if c=true then tb σ H1 Q else Q (.bl false) H1
def Vn(ta tb:TE):TE:=λσ H Q=>ta σ H λx H1=>∃c,x=.bl c/\if c=true then Q (.bl true) H1 else tb σ H1 Q
def Q6(ta:TE):TE:=λσ H Q=>ta σ H λx H1=>∃c,x=.bl c/\Q (.bl (!c)) H1
def S7{op}(h:PE X a t):PE X (.BoolOp op [a] pos) t:=λpins s σ H Q I hw=>BoolOp_one (h pins s σ H Q I hw)
theorem Tb(ha:PE X a ta)(hb:PE X (.BoolOp .And (b::rest) pos) tb):PE X (.BoolOp .And (a::b::rest) pos) (Q9 ta tb):=by
 intro pins s σ H Q I h;refine BoolOp_and (j9 (ha pins s σ H _ I h) λv s1 ⟨x,H1,I1,r1,q1⟩=>?_);obtain⟨c,rfl,q1⟩:=q1;cases r1;refine abr ?_;cases c with
 |true=>exact hb pins s1 σ H1 Q I1 q1
 |false=>exact⟨.bl false,H1,I1,rfl,q1⟩
theorem VF(ha:PE X a ta)(hb:PE X (.BoolOp .Or (b::rest) pos) tb):PE X (.BoolOp .Or (a::b::rest) pos) (Vn ta tb):=by
 intro pins s σ H Q I h;refine BoolOp_or (j9 (ha pins s σ H _ I h) λv s1 ⟨x,H1,I1,r1,q1⟩=>?_);obtain⟨c,rfl,q1⟩:=q1;cases r1;refine abr ?_;cases c with
 |false=>exact hb pins s1 σ H1 Q I1 q1
 |true=>exact⟨.bl true,H1,I1,rfl,q1⟩
def S8(ha:PE X a ta):PE X (.UnaryOp .Not a pos) (Q6 ta):=by intro pins s σ H Q I h;refine UnaryOp_ (j9 (ha pins s σ H _ I h) λv s1 ⟨x,H1,I1,r1,q1⟩=>?_);obtain⟨c,rfl,q1⟩:=q1;cases r1;exact not_of (abr ⟨.bl (!c),H1,I1,rfl,q1⟩)
def tIf(t:TT)(ta tb:TE):TE:=λσ H Q=>t σ H λc H1=>if c=true then ta σ H1 Q else tb σ H1 Q
theorem NX{c:Expr}(hc:PT X c tA)(ha:PE X a ta)(hb:PE X b tb):PE X (.IfExp c a b pos) (tIf tA ta tb):=by
 intro pins s σ H Q I h;refine wpAny_IfExp (j9 (hc pins s σ H _ I h) λd s1 ⟨H1,I1,q1⟩=>?_);cases d with
 |true=>exact ha pins s1 σ H1 Q I1 q1
 |false=>exact hb pins s1 σ H1 Q I1 q1
end
def c_(K:W.Frag)(H:Hp)(a:Addr)(xs:List V):Prop:=
 Rd H a (.lst xs) \/
  ∃(o:Obj)(d7:Array Value)(n:Nat),K.lookup a=some o/\o.cls=.type "list"/\o.dict=none/\o.data=.seq d7 n/\d7.size<=sizeLine/\Vals xs d7.toList
def k_(K:W.Frag)(H:Hp)(a:Addr)(xs:List V):Prop:=
 Rd H a (.tup xs) \/
  ∃(o:Obj)(d7:Array Value)(n:Nat),K.lookup a=some o/\o.cls=.type "tuple"/\o.data=.seq d7 n/\d7.size<=sizeLine/\Vals xs d7.toList
noncomputable def GF:Value->Option V
 |.none=>some .o_
 |.bool b=>some (.bl b)
 |.int i _=>some (.int i)
 |.str x _=>some (.str x)
 |.bytes b _=>some (.MC b)
 |.float b _=>some (.Uq b)
 |.ref a=>some (.ref a)
 |.type n=>some (.ty n)
 |_=>none
theorem RelV.abs{x:V}(r:RelV x u):GF u=some x:=by
 cases x with
 |o_=>cases r;rfl
 |bl _=>cases r;rfl
 |int _=>obtain⟨t,rfl⟩:=r;rfl
 |str _=>obtain⟨t,rfl⟩:=r;rfl
 |MC _=>obtain⟨t,rfl⟩:=r;rfl
 |Uq _=>obtain⟨t,rfl⟩:=r;rfl
 |ref _=>cases r;rfl
 |ty _=>cases r;rfl
variable{y:V}
def RelV.inj{x:V}(r:RelV x u)(q:RelV y u):x=y:=aaq (r.abs.symm.trans q.abs)
theorem Vals.inj:∀{xs ys:List V}{us:List Value},Vals xs us->Vals ys us->xs=ys
 |_,_,_,.nil,.nil=>rfl
 |_,_,_,.cons r t,.cons r' t'=>by rw[r.inj r',Vals.inj t t']
variable{K:W.Frag}
section
variable{X:Cx}{pins:List (Addr×Obj)}{σ:St}{H:Hp}{s:Shared}{a:Addr}{xs ys:List V}
def c_.of(h:H a=some (.lst xs)):c_ K H a xs:=.inl (.inl h)
def k_.of(h:H a=some (.tup xs)):k_ K H a xs:=.inl (.inl h)
theorem Inv.list(I:Inv X pins σ H s)(h:c_ X.K H a xs):∃d7:List Value,Vals xs d7/\PlainL s.heap a d7.toArray/\xs.length<=sizeLine:=by
 rcases h with h|⟨o,d7,n,hk,hc,hd,hs,hz,r⟩
 ·obtain⟨z,d7,n,r,e⟩:=h.ok I.h_;exact⟨d7,r,⟨_,n,e,rfl,rfl,rfl⟩,z⟩
 ·refine⟨d7.toList,r,⟨o,n,I.Hb a o hk,hc,hd,by simpa using hs⟩,?_⟩;have e:=r.length;simp only[abO]at e
  lia
theorem Inv.tuple(I:Inv X pins σ H s)(h:k_ X.K H a xs):∃d7:List Value,Vals xs d7/\IsTup s.heap a d7.toArray/\xs.length<=sizeLine:=by
 rcases h with h|⟨o,d7,n,hk,hc,hs,hz,r⟩
 ·obtain⟨z,d7,r,p⟩:=h.ok I.h_;exact⟨d7,r,p,z.1⟩
 ·refine⟨d7.toList,r,⟨o,I.Hb a o hk,hc,n,by simpa using hs⟩,?_⟩;have e:=r.length;simp only[abO]at e
  lia
def Inv.KQ(I:Inv X pins σ H s)(h:c_ X.K H a xs)(h':c_ X.K H a ys):xs=ys:=by
 obtain⟨d7,r,⟨o,n,e,_,_,d⟩,_⟩:=I.list h;obtain⟨its',r',⟨o',n',e',_,_,d'⟩,_⟩:=I.list h';rw[e]at e';cases e';rw[d]at d';injection d' with d1 _;have:d7=its':=by simpa using aaN Array.toList d1
 subst this;exact r.inj r'
def Inv.Jo(I:Inv X pins σ H s)(h:k_ X.K H a xs)(h':k_ X.K H a ys):xs=ys:=by
 obtain⟨d7,r,⟨o,e,_,n,d⟩,_⟩:=I.tuple h;obtain⟨its',r',⟨o',e',_,n',d'⟩,_⟩:=I.tuple h';rw[e]at e';cases e';rw[d]at d';injection d' with d1 _;have:d7=its':=by simpa using aaN Array.toList d1
 subst this;exact r.inj r'
end
abbrev Cx.Iy(X:Cx)(E:Value->Shared->Prop):Cx:={ X with xe:=E }
abbrev Cx.Tf(X:Cx):Cx:=X.Iy λ_ _=>False
theorem Cx.Ok.Iy{X:Cx}(ok:X.Ok)(E:Value->Shared->Prop):(X.Iy E).Ok:=
 ⟨ok.mod,ok.kind,ok.glob,ok.blt,ok.above,ok.inj,ok.has,ok.Va,ok.hd,ok.frames,ok.Vt,ok.exf,ok.bs,ok.P1,ok.MU,ok.Oy,ok.HP,ok.RH⟩
def Cx.Ok.C0{X:Cx}(ok:(X.Iy E).Ok):X.Ok:=
 ⟨ok.mod,ok.kind,ok.glob,ok.blt,ok.above,ok.inj,ok.has,ok.Va,ok.hd,ok.frames,ok.Vt,ok.exf,ok.bs,ok.P1,ok.MU,ok.Oy,ok.HP,ok.RH⟩
section
variable{X:Cx}{pins:List (Addr×Obj)}{σ:St}{H:Hp}{s:Shared}{E:Value->Shared->Prop}
theorem Inv.Iy(I:Inv X pins σ H s)(E:Value->Shared->Prop):Inv (X.Iy E) pins σ H s:=⟨I.ok.Iy E,I.os,I.bare,I.base,I.loc,I.cell,I.free,I.y9,I.pin,I.h_,I.len⟩
theorem Inv.C0(I:Inv (X.Iy E) pins σ H s):Inv X pins σ H s:=⟨I.ok.C0,I.os,I.bare,I.base,I.loc,I.cell,I.free,I.y9,I.pin,I.h_,I.len⟩
theorem SP.C0{D:mC}{f:Flow}{s':Shared}(h:SP (X.Iy E) pins D f s'):SP X pins D f s':=by
 cases f with
 |next=>obtain⟨l_,H',I,q⟩:=h;exact⟨l_,H',I.C0,q⟩
 |brk=>obtain⟨l_,H',I,q⟩:=h;exact⟨l_,H',I.C0,q⟩
 |cont=>obtain⟨l_,H',I,q⟩:=h;exact⟨l_,H',I.C0,q⟩
 |ret u=>obtain⟨v,l_,H',I,r,q⟩:=h;exact⟨v,l_,H',I.C0,r,q⟩
theorem Le.Tf{st:List Stmt}{t:TS}(h:Le X.Tf st t):Le X st t:=λpins s σ H D I hw=>
 abP (h pins s σ H D (I.Iy _) hw) (λ_ _ q=>q.C0) λ_ _ z=>False.elim z
end
section
variable{X:Cx}{st:Stmt}{rest:List Stmt}{t u:TS}{e:Expr}{te:TE}{pos:Pos}
def Jp:TS:=λD σ H=>D.nx σ H
def NH(t u:TS):TS:=λD σ H=>t { D with nx:=u D } σ H
def Qe:Le X [] Jp:=λ_ _ σ H _ I h=>abY ⟨σ,H,I,h⟩
theorem NR(h1:PS X st t)(h2:Le X rest u):Le X (st::rest) (NH t u):=by
 intro pins s σ H D I h;refine adB (j9 (h1 pins s σ H { D with nx:=u D } I h) λf s1 q=>?_);cases f with
 |next=>
  obtain⟨l_,H',I',q⟩:=q;exact h2 pins s1 l_ H' D I' q
 |ret v=>exact q
 |brk=>exact q
 |cont=>exact q
theorem Qd(h1:PS X st t):Le X [st] t:=by
 intro pins s σ H D I h;refine adB (j9 (h1 pins s σ H D I h) λf s1 q=>?_);cases f with
 |next=>exact abY q
 |ret v=>exact q
 |brk=>exact q
 |cont=>exact q
def Inv.quiet(I:Inv X pins σ H s):interactive X.env=false:=by simp[interactive,I.ok.kind]
def Q7(te:TE):TS:=λD σ H=>te σ H λ_ H1=>D.nx σ H1
def Qg(he:PE X e te)(hs:swapsWith e none pos.line X.env=pure false:=by rfl):PS X (.Expr e pos) (Q7 te):=by intro pins s σ H D I h;exact wpAny_Expr_any (j9 (he pins s σ H _ I h) λv s1 ⟨x,H1,I1,r1,q1⟩=>⟨σ,H1,I1,q1⟩) I.quiet hs
def Vm(te:TE):TS:=λD σ H=>te σ H D.rt
def SU(he:PE X e te):PS X (.Return (some e) pos) (Vm te):=by intro pins s σ H D I h;exact wpAny_Return_some (j9 (he pins s σ H _ I h) λv s1 ⟨x,H1,I1,r1,q1⟩=>⟨x,σ,H1,I1,r1,q1⟩)
def P9(c:TT)(t u:TS):TS:=λD σ H=>c σ H λb H1=>if b=true then t D σ H1 else u D σ H1
theorem VB{c:Expr}{a b:List Stmt}{tc:TT}(hc:PT X c tc)(ha:Le X a t)(hb:Le X b u):PS X (.If c a b pos) (P9 tc t u):=by
 intro pins s σ H D I h;refine wpAny_If (j9 (hc pins s σ H _ I h) λd s1 ⟨H1,I1,q1⟩=>?_);cases d with
 |true=>exact ha pins s1 σ H1 D I1 q1
 |false=>exact hb pins s1 σ H1 D I1 q1
def JO:TS:=λ_ _ _=>False
def NU:PS X st JO:=λ_ _ _ _ _ _ h=>h.elim
def MQ{sts:List Stmt}:Le X sts JO:=λ_ _ _ _ _ _ h=>h.elim
end
abbrev TG:=V->St->Hp->(St->Hp->Prop)->Prop
abbrev Ni:=List V->St->Hp->(St->Hp->Prop)->Prop
def PG(X:Cx)(target:Expr)(t:TG):Prop:=
 ∀(pins:List (Addr×Obj))(s:Shared)(σ:St)(H:Hp)(v:V)(u:Value)(Q:St->Hp->Prop),Inv X pins σ H s->RelV v u->t v σ H Q ->
  wpAny (model X.prog X.w) X.A (assign target X.env u) (λ_ s'=>∃l_ H',Inv X pins l_ H' s'/\Q l_ H') X.xe s
def YS(X:Cx)(ts:List Expr)(t:Ni):Prop:=
 ∀(pins:List (Addr×Obj))(s:Shared)(σ:St)(H:Hp)(vs:List V)(us:List Value)(Q:St->Hp->Prop),Inv X pins σ H s->Vals vs us->t vs σ H Q ->
  wpAny (model X.prog X.w) X.A (assignInOrder ((assignEach ts X.env).map (·.2)) us) (λ_ s'=>∃l_ H',Inv X pins l_ H' s'/\Q l_ H') X.xe s
abbrev En:=V->V->V->Hp->(Hp->Prop)->Prop
def FD(X:Cx)(t:En):Prop:=
 ∀(pins:List (Addr×Obj))(s:Shared)(σ:St)(H:Hp)(o i v:V)(ov iv u:Value)(Q:Hp->Prop),Inv X pins σ H s->RelV o ov->RelV i iv->RelV v u->t o i v H Q ->
  wpAny (model X.prog X.w) X.A (setItem ov iv u) (λ_ s'=>∃H',Inv X pins σ H' s'/\Q H') X.xe s
abbrev YR:=V->V->Hp->VK->Prop
def PIp(X:Cx)(op:Operator)(t:YR):Prop:=
 ∀(pins:List (Addr×Obj))(s:Shared)(σ:St)(H:Hp)(x y:V)(v u:Value)(Q:VK),Inv X pins σ H s->RelV x v->RelV y u->t x y H Q ->
  wpAny (model X.prog X.w) X.A (inplaceOp op v u) (EP X pins σ Q) X.xe s
variable{tg:Expr}{body:List Stmt}{es:List Expr}{k n:Nat}{te:TE}
section
variable{X:Cx}{pos:Pos}
def j4(i:Nat):TG:=λv σ H Q=>Q (σ.set i (some v)) H
def Ip(hN:X.N.Nodup)(hi:X.N[i]?=some x)(hx:Loc X.env.scope x)(hf:X.fn x=true\/X.env.scope.names.lookup x=some .local:=by first|exact .inl rfl|exact .inr rfl|assumption):PG X (.Name x pos) (j4 i):=by intro pins s σ H v u Q I r h;exact wpAny_assign_Name (jg I hN hi hx r (λs' I'=>⟨_,H,I',h⟩) hf)
def Xk:Ni:=λvs σ H Q=>vs=[]/\Q σ H
def RG(t:TG)(u:Ni):Ni:=λvs σ H Q=>∃v r,vs=v::r/\t v σ H λl_ H'=>u r l_ H' Q
def Qm:YS X [] Xk:=by intro pins s σ H vs us Q I r h;obtain⟨e,h⟩:=h;subst e;cases r;exact assignInOrder_nil ⟨σ,H,I,h⟩
theorem NV{t:TG}{u:Ni}(h1:PG X e t)(h2:YS X es u)(hs:(assignEach (e::es) X.env).map (·.2)=assign e X.env::(assignEach es X.env).map (·.2):=by rfl):YS X (e::es) (RG t u):=by
 intro pins s σ H vs us Q I r h;obtain⟨v,vr,e1,h⟩:=h;subst e1;cases r with
 |cons r rr=>
  rw[hs];refine assignInOrder_cons (j9 (h1 pins s σ H _ _ _ I r h) λ_ s1 ⟨UH,H1,I1,q1⟩=>?_);exact h2 pins s1 UH H1 _ _ Q I1 rr q1
def Um(K:W.Frag)(n:Nat)(t:Ni):TG:=λv σ H Q=>∃a xs,v=.ref a/\k_ K H a xs/\xs.length=n/\t xs σ H Q
def SY{t:Ni}(hc:X.calm=true)(h:YS X es t)(hn:(assignEach es X.env).length=n:=by rfl)(B5:(assignEach es X.env).findIdx? (·.1)=none:=by rfl):PG X (.Tuple es k pos) (Um X.K n t):=by intro pins s σ H v u Q I r hw;obtain⟨a,xs,e1,hq,hl,hw⟩:=hw;subst e1;cases r;obtain⟨d7,rv,ht,hz⟩:=I.tuple hq;refine assign_Tuple_tuple (I.ok.hd hc) ht (by simp[hn,<-hl,rv.length]) B5 λh' hx=>?_;have I1:Inv X pins σ H { s with heap:=h' }:=I.kept (t':=s.toks) λb o e=>hx b o (aaY (aao e)) e;exact h pins _ σ H xs _ Q I1 (by simpa using rv) hw
def Jg(te:TE)(g:TG):TS:=λD σ H=>te σ H λx H1=>g x σ H1 D.nx
def SW{g:TG}(he:PE X e te)(hg:PG X tg g)(hs:swapsWithSole [tg] e pos.line X.env=pure false:=by rfl)(hw:swappedStores [tg] e X.env=pure none:=by rfl)(h1:(assignEach [tg] X.env).map (·.2)=[assign tg X.env]:=by rfl):PS X (.Assign [tg] e pos) (Jg te g):=by intro pins s σ H D I h;refine wpAny_Assign_stores (j9 (he pins s σ H _ I h) λv s1 ⟨x,H1,I1,r1,q1⟩=>?_) hs hw;rw[h1];exact j9 (hg pins s1 σ H1 x v _ I1 r1 q1) λ_ s2 q=>q
def SS{pos':Pos}(hN:X.N.Nodup)(hi:X.N[i]?=some x)(hx:Loc X.env.scope x)(he:PE X e te)(hs:swapsWith e (some (.Name x pos')) pos.line X.env=pure false:=by rfl)(hf:X.fn x=true\/X.env.scope.names.lookup x=some .local:=by first|exact .inl rfl|exact .inr rfl|assumption):
 PS X (.Assign [.Name x pos'] e pos) (Jg te (j4 i)):=by
 intro pins s σ H D I h;refine wpAny_Assign_Name (j9 (he pins s σ H _ I h) λv s1 ⟨y,H1,I1,r1,q1⟩=>?_) hs;exact jg I1 hN hi hx r1 (λs2 I2=>⟨_,H1,I2,q1⟩) hf
def Bz(to ti te:TE)(Lq:V->V->Hp->VK->Prop)(Sz:YR)(Lo:En):TS:=λD σ H=>to σ H λo H1=>ti σ H1 λi H2=>Lq o i H2 λx H3=>te σ H3 λy H4=>Sz x y H4 λz H5=>Lo o i z H5 λH6=>D.nx σ H6
def FE(X:Cx)(t:V->V->Hp->VK->Prop):Prop:=
 ∀(pins:List (Addr×Obj))(s:Shared)(σ:St)(H:Hp)(o i:V)(ov iv:Value)(Q:VK),Inv X pins σ H s->RelV o ov->RelV i iv->t o i H Q ->
  wpAny (model X.prog X.w) X.A (getItem ov iv) (EP X pins σ Q) X.xe s
def zf{o i:Expr}{to ti:TE}{Lq:V->V->Hp->VK->Prop}{Sz:YR}{Lo:En}{op:Operator}{Iz:Pos}(ho:PE X o to)(hi:PE X i ti)(hg:FE X Lq)(he:PE X e te)(hp:PIp X op Sz)(hs:FD X Lo)(ha:∀ov iv new,augStore i ov iv new=(do holding [new,ov,iv] (setItem ov iv new);release [new,ov,iv] [];pure .next):=by intros;rfl):PS X (.AugAssign (.Subscript o i Iz) op e pos) (Bz to ti te Lq Sz Lo):=by intro pins s σ H D I h;refine wpAny_AugAssign_SubscriptAny (j9 (ho pins s σ H _ I h) λov s1 ⟨x1,H1,I1,r1,q1⟩=>?_) ha;refine j9 (hi pins s1 σ H1 _ I1 q1) λiv s2 ⟨x2,H2,I2,r2,q2⟩=>?_;refine j9 (hg pins s2 σ H2 x1 x2 ov iv _ I2 r1 r2 q2) λold s3 ⟨x3,H3,I3,r3,q3⟩=>?_;refine j9 (he pins s3 σ H3 _ I3 q3) λv s4 ⟨x4,H4,I4,r4,q4⟩=>?_;refine j9 (hp pins s4 σ H4 x3 x4 old v _ I4 r3 r4 q4) λnew s5 ⟨x5,H5,I5,r5,q5⟩=>?_;exact j9 (hs pins s5 σ H5 x1 x2 x5 ov iv new _ I5 r1 r2 r5 q5) λ_ s6 ⟨H6,I6,q6⟩=>⟨σ,H6,I6,q6⟩
def ipI(f:Int->Int->Int):YR:=λx y H Q=>∃i j,x=.int i/\y=.int j/\Q (.int (f i j)) H
def DG:PIp X .Add (ipI λi j=>i+j):=by intro pins s σ H x y v u Q I r1 r2 h;obtain⟨i,j,e1,e2,q⟩:=h;subst e1;subst e2;obtain⟨t,rfl⟩:=r1;obtain⟨t',rfl⟩:=r2;exact iadd_int ⟨.int _,H,I.tok _,⟨_,rfl⟩,q⟩
def NG(c:TT)(tb:TS):TS:=λD σ H=>∃W:Nat->St->Hp->Prop,(∃m,W m σ H)/\∀m σ H,W m σ H ->
 c σ H λb H1=>if b=true then∃N:St->Hp->Prop,(∀l_ H',N l_ H'->∃m',m'<m/\W m' l_ H')/\tb { D with nx:=N,ct:=N,bk:=D.nx } σ H1 else D.nx σ H1
theorem NT{c:Expr}{tc:TT}{tb:TS}(hp:PassesOwn (model X.prog X.w) X.A X.env X.xe)(hc:PT X c tc)(hb:Le X body tb):PS X (.While c body [] pos) (NG tc tb):=by
 intro pins s σ H D I h;obtain⟨W,⟨m0,w0⟩,turn⟩:=h;refine wpAny_While (codeAny_whileLoop (λn s'=>∃l_ H',Inv X pins l_ H' s'/\W n l_ H') ?_ m0 ⟨σ,H,I,w0⟩);rintro n s1 ⟨UH,H1,I1,w1⟩;refine abE hp (j9 (hc pins s1 UH H1 _ I1 (turn n UH H1 w1)) λb s2 ⟨H2,I2,q2⟩=>?_);cases b with
 |true=>
  obtain⟨N,hN,q2⟩:=q2;rw[aaX rfl];refine abE hp (j9 (hb pins s2 UH H2 _ I2 q2) λf s3 q3=>?_);cases f with
  |next=>
   obtain⟨Ny,H3,I3,n3⟩:=q3;obtain⟨m',hm,w3⟩:=hN Ny H3 n3;exact⟨m',hm,Ny,H3,I3,w3⟩
  |cont=>
   obtain⟨Ny,H3,I3,n3⟩:=q3;obtain⟨m',hm,w3⟩:=hN Ny H3 n3;exact⟨m',hm,Ny,H3,I3,w3⟩
  |brk=>exact q3
  |ret v=>exact q3
 |false=>
  rw[aaK aaw];exact abY ⟨UH,H2,I2,q2⟩
end
structure It where
 go:Nat->Hp->Prop
 P7:Nat->Hp->V->Hp->Prop
 stop:Nat->Hp->Prop
def mz(X:Cx)(pins:List (Addr×Obj))(H:Hp)(b:Addr):Prop:=
 H b=none/\b≠X.env.locals/\b∉X.fs/\(b∈X.ex\/X.s₀.heap.objs.size<=b)/\(∀x c,X.env.cells.lookup x=some c->c≠b)/\∀p∈X.pn++pins,p.1≠b
def Inv.J3{X:Cx}{H':Hp}{b:Addr}(I:Inv X pins σ H s)(hb:s.heap.objs.size<=b)(hn:H' b=none):mz X pins H' b:=by
 refine⟨hn,ach (aav I.lt hb),I.nofs hb,.inr (abb I.sz hb),λx c e z=>?_,λp hp z=>?_⟩
 ·obtain⟨v,q⟩:=I.cell x c e;exact absurd (aav q.lt (by rw[z];exact hb)) (abd _)
 ·exact absurd (aav (aao (I.pin p hp).1) (by rw[z];exact hb)) (abd _)
structure uC(P:Program)(w:World)(K:W.Frag)(tg:Expr)(J:It)(fp:List Addr)(it:Addr)(tn:Nat->Heap->Prop):Prop where
 mem:it∈fp
 obj:∀i h,tn i h->∀b∈fp,∃o,h.get? b=some o/\∀v,o.data≠.cell v
 keep:∀i h h',tn i h->(∀b∈fp,∀o,h.get? b=some o->h'.get? b=some o)->tn i h'
 item:∀(X:Cx),X.prog=P->X.w=w->X.K=K->X.calm=true->∀(i:Nat)(pins:List (Addr×Obj))(s:Shared)(σ:St)(H:Hp)(E:Value->Shared->Prop),Inv X pins σ H s->(∀b∈fp,mz X pins H b)->tn i s.heap->J.go i H ->
  wpAny (model P w) X.A (pyNext (.ref it)) (λr s1=>∃u,r=some u /\
   wpAny (model P w) X.A (letOwnedTupleGo tg (.ref it) u) (λ_ s2=>∃x H',Inv X pins σ H' s2/\RelV x u/\J.P7 i H x H'/\tn (i+1) s2.heap/\∀b∈fp,H' b=none) E s1) E s
 done:∀(X:Cx),X.prog=P->X.w=w->X.K=K->X.calm=true->∀(i:Nat)(pins:List (Addr×Obj))(s:Shared)(σ:St)(H:Hp)(E:Value->Shared->Prop),Inv X pins σ H s->(∀b∈fp,mz X pins H b)->tn i s.heap->J.stop i H ->
  wpAny (model P w) X.A (pyNext (.ref it)) (λr s1=>r=none/\Inv X pins σ H s1) E s
 self:∀(A:Around)(i:Nat)(s:Shared)(Q E:Value->Shared->Prop),tn i s.heap->Q (.ref it) s->wpAny (model P w) A (pyIter (.ref it)) Q E s
abbrev TI:=St->Hp->(It->Hp->Prop)->Prop
def PIE(X:Cx)(pins:List (Addr×Obj))(σ:St)(tg:Expr)(R:It->Hp->Prop)(itv:Value)(s2:Shared):Prop:=
 ∃(it:Addr)(fp:List Addr)(tn:Nat->Heap->Prop)(J:It)(H':Hp),itv=.ref it/\Inv X pins σ H' s2/\uC X.prog X.w X.K tg J fp it tn/\tn 0 s2.heap/\(∀b∈fp,mz X pins H' b)/\R J H'
def PI(X:Cx)(tg iter:Expr)(wi:TI):Prop:=
 ∀(pins:List (Addr×Obj))(s:Shared)(σ:St)(H:Hp)(R:It->Hp->Prop),Inv X pins σ H s->wi σ H R ->
  wpAny (model X.prog X.w) X.A (eval iter X.env) (λv s1=>wpAny (model X.prog X.w) X.A (pyIter v) (PIE X pins σ tg R) X.xe s1) X.xe s
def qj{n:String}{vs:Array Value}{Q:Unit->Shared->Prop}(ho:s.heap.get? it=some o)(hc:o.cls=.type n)(hd:o.data=.fields vs)(hn:["enumerate", "zip", "dict_itemiterator", "dict_reverseitemiterator", "odict_iterator", "itertools.zip_longest", "itertools.pairwise"].contains n=false)(hQ:Q () s):wpAny M A (letOwnedTupleGo tg (.ref it) u) Q E s:=by
 unfold letOwnedTupleGo;cases tg<;>first
  |exact aaR hQ
  |(cases u<;>first
   |exact aaR hQ
   |(refine aae (wpAny_load ho ?_);rw[hc,hd];show wpAny M A (if(["enumerate", "zip", "dict_itemiterator", "dict_reverseitemiterator", "odict_iterator", "itertools.zip_longest", "itertools.pairwise"].contains n&&vs[0]? == some (rawInt _))=true then _ else _) Q E s;rw[aaK (by intro h;rw[hn,abH]at h;cases h)];exact aaR hQ))
def PB(K:W.Frag)(a:Addr):It:=
 ⟨λi H=>∃xs x,c_ K H a xs/\xs[i]?=some x,λi H x H'=>H'=H/\∀xs,c_ K H a xs->xs[i]?=some x,λi H=>∃xs,c_ K H a xs/\xs.length<=i⟩
def YV(K:W.Frag)(a:Addr):It:=
 ⟨λi H=>∃xs x,k_ K H a xs/\xs[i]?=some x,λi H x H'=>H'=H/\∀xs,k_ K H a xs->xs[i]?=some x,λi H=>∃xs,k_ K H a xs/\xs.length<=i⟩
def RT(lo:Int)(n:Nat):It:=⟨λi _=>i<n,λi H x H'=>H'=H/\x=.int (lo+i),λi _=>n<=i⟩
theorem qK(a it:Addr):uC P w K tg (PB K a) [it] it (λi h=>h.IsListIter it a i) where
 mem:=by simp
 obj:=λi h st b hb=>by
  have e:b=it:=by simpa using hb
  subst e;obtain⟨o,e,c,d⟩:=st;exact⟨o,e,λv z=>by rw[d]at z;cases z⟩
 keep:=λi h h' st k=>st.at λo e=>k it (by simp) o e
 item:=by intro X hP hw hK hc i pins s σ H E I hf st hg;subst hP hw hK;obtain⟨xs,x,hq,hx⟩:=hg;obtain⟨d7,rv,p,hz⟩:=I.list hq;obtain⟨u,hu,ru⟩:=rv.get hx;obtain⟨f0,f1,f2,f3,f4,f5⟩:=hf it (by simp);refine wpAny_pyNext_list_item st p.isList (x:=u) (by simpa using hu) λh' Jh sb=>?_;have I1:Inv X pins σ H { s with heap:=h' }:=I.turned (t':=s.toks) (λb o hb e=>(sb.2 b hb).trans e) f0 f1 f3 f4 f5;obtain⟨o,e,c,d⟩:=id Jh;exact⟨u,rfl,qj (s:={ s with heap:=h' }) e c d (by decide) ⟨x,H,I1,ru,⟨rfl,λys hy=>by rw[I.KQ hy hq];exact hx⟩,Jh,λb hb=>(hf b hb).1⟩⟩
 done:=by intro X hP hw hK hc i pins s σ H E I hf st hg;subst hP hw hK;obtain⟨xs,hq,hx⟩:=hg;obtain⟨d7,rv,p,hz⟩:=I.list hq;obtain⟨f0,f1,f2,f3,f4,f5⟩:=hf it (by simp);have hl:=rv.length;exact wpAny_pyNext_list_end (I.ok.hd hc) st p.isList (by simp;lia) λh' eb=>⟨rfl,I.turned (t':=s.toks) (λb o hb e=>eb b o hb e) f0 f1 f3 f4 f5⟩
 self:=λ_ _ _ _ _ st h=>wpAny_pyIter_listiter st h
theorem ou(a it:Addr):uC P w K tg (YV K a) [it] it (λi h=>h.IsTupleIter it a i) where
 mem:=by simp
 obj:=λi h st b hb=>by
  have e:b=it:=by simpa using hb
  subst e;obtain⟨o,e,c,d⟩:=st;exact⟨o,e,λv z=>by rw[d]at z;cases z⟩
 keep:=λi h h' st k=>st.at λo e=>k it (by simp) o e
 item:=by intro X hP hw hK hc i pins s σ H E I hf st hg;subst hP hw hK;obtain⟨xs,x,hq,hx⟩:=hg;obtain⟨d7,rv,p,hz⟩:=I.tuple hq;obtain⟨u,hu,ru⟩:=rv.get hx;obtain⟨f0,f1,f2,f3,f4,f5⟩:=hf it (by simp);refine wpAny_pyNext_tuple_item st (show s.heap.IsTuple a d7.toArray from p) (x:=u) (by simpa using hu) λh' Jh sb=>?_;have I1:Inv X pins σ H { s with heap:=h' }:=I.turned (t':=s.toks) (λb o hb e=>(sb.2 b hb).trans e) f0 f1 f3 f4 f5;obtain⟨o,e,c,d⟩:=id Jh;exact⟨u,rfl,qj (s:={ s with heap:=h' }) e c d (by decide) ⟨x,H,I1,ru,⟨rfl,λys hy=>by rw[I.Jo hy hq];exact hx⟩,Jh,λb hb=>(hf b hb).1⟩⟩
 done:=by intro X hP hw hK hc i pins s σ H E I hf st hg;subst hP hw hK;obtain⟨xs,hq,hx⟩:=hg;obtain⟨d7,rv,p,hz⟩:=I.tuple hq;obtain⟨f0,f1,f2,f3,f4,f5⟩:=hf it (by simp);have hl:=rv.length;exact wpAny_pyNext_tuple_end (I.ok.hd hc) st (show s.heap.IsTuple a d7.toArray from p) (by simp;lia) λh' eb=>⟨rfl,I.turned (t':=s.toks) (λb o hb e=>eb b o hb e) f0 f1 f3 f4 f5⟩
 self:=λ_ _ _ _ _ st h=>wpAny_pyIter_tupleiter st h
theorem ow(it:Addr)(lo:Int)(n:Nat):uC P w K tg (RT lo n) [it] it (λi h=>IsRangeIter h it (lo+(i:Nat)*1) ((n:Int)-(i:Nat)) 1) where
 mem:=by simp
 obj:=λi h st b hb=>by
  have e:b=it:=by simpa using hb
  subst e;exact⟨_,st,λv z=>by
   have z':Data.fields _=Data.cell v:=z;cases z'⟩
 keep:=λi h h' st k=>k it (by simp) _ st
 item:=by intro X hP hw hK hc i pins s σ H E I hf st hg;subst hP hw hK;obtain⟨f0,f1,f2,f3,f4,f5⟩:=hf it (by simp);have W:=Walks.range (prog:=X.prog) (w:=X.w) (I.ok.hd hc) it lo 1 n;refine W.item i s _ _ hg st λv h' tk hv Jh kk=>?_;obtain⟨t,rfl⟩:=hv;have I1:Inv X pins σ H { s with heap:=h',toks:=tk }:=I.turned (λb o hb e=>kk b o (by simpa using hb) e) f0 f1 f3 f4 f5;refine⟨_,rfl,qj (s:={ s with heap:=h',toks:=tk }) (n:="range_iterator") Jh rfl rfl (by decide) ⟨.int (lo+i),H,I1,⟨t,?_⟩,⟨rfl,rfl⟩,Jh,λb hb=>(hf b hb).1⟩⟩;rw[Int.mul_one]
 done:=by intro X hP hw hK hc i pins s σ H E I hf st hg;subst hP hw hK;obtain⟨f0,f1,f2,f3,f4,f5⟩:=hf it (by simp);exact wpAny_pyNext_range_end (I.ok.hd hc) st (by have:n<=i:=hg;lia) λh' eb=>⟨rfl,I.turned (t':=s.toks) (λb o hb e=>eb b o hb e) f0 f1 f3 f4 f5⟩
 self:=λ_ _ _ _ _ st h=>wpAny_pyIter_rangeiter st h
variable{fp:List Addr}{l:Expr}{lo:Int}
section
variable{X:Cx}{tg:Expr}
def Rr(K:W.Frag)(tl:TE):TI:=λσ H R=>tl σ H λx H1=>∃a,x=.ref a/\(∃xs,c_ K H1 a xs)/\R (PB K a) H1
def Wu(K:W.Frag)(tl:TE):TI:=λσ H R=>tl σ H λx H1=>∃a,x=.ref a/\(∃xs,k_ K H1 a xs)/\R (YV K a) H1
def Ql{tl:TE}(hl:PE X l tl):PI X tg l (Rr X.K tl):=by
 intro pins s σ H R I h;refine j9 (hl pins s σ H _ I h) λv s1 ⟨x,H1,I1,r1,q1⟩=>?_;obtain⟨a,e,⟨xs,hq⟩,q⟩:=q1;subst e;cases r1;obtain⟨d7,rv,p,hz⟩:=I1.list hq;refine wpAny_pyIter_list p.isList ?_;refine⟨s1.heap.objs.size,[s1.heap.objs.size],_,_,H1,rfl,I1.kept (t':=s1.toks) λb o e=>aag _ e,qK a _,⟨_,aax _ rfl,rfl,rfl⟩,λb hb=>?_,q⟩;have e:b=s1.heap.objs.size:=by simpa using hb
 subst e;exact I1.J3 (aam _) (I1.h_.fresh (aam _))
def SX{tl:TE}(hl:PE X l tl):PI X tg l (Wu X.K tl):=by
 intro pins s σ H R I h;refine j9 (hl pins s σ H _ I h) λv s1 ⟨x,H1,I1,r1,q1⟩=>?_;obtain⟨a,e,⟨xs,hq⟩,q⟩:=q1;subst e;cases r1;obtain⟨d7,rv,p,hz⟩:=I1.tuple hq;refine adk (show s1.heap.IsTuple a d7.toArray from p) ?_;refine⟨s1.heap.objs.size,[s1.heap.objs.size],_,_,H1,rfl,I1.kept (t':=s1.toks) λb o e=>aag _ e,ou a _,⟨_,aax _ rfl,rfl,rfl⟩,λb hb=>?_,q⟩;have e:b=s1.heap.objs.size:=by simpa using hb
 subst e;exact I1.J3 (aam _) (I1.h_.fresh (aam _))
theorem va{R:It->Hp->Prop}{hi:Int}{t u v:Tok}{tk:Nat}(I:Inv X pins σ H s)(h1:-(2 ^ 62)<=lo)(h2:lo<2 ^ 62)(h3:-(2 ^ 62)<=hi)(h4:hi<2 ^ 62)(q:R (RT lo (hi-lo).toNat) H):wpAny (model X.prog X.w) X.A (pyIter (.ref s.heap.objs.size)) (PIE X pins σ tg R) E { s with heap:=s.heap.push { cls:=.type "range",data:=.fields #[.int lo t,.int hi u,.int 1 v] },toks:=tk }:=by
 refine wpAny_pyIter_range (IsRange.new ..) (small_one h1 h2 h3 h4) ?_;have I1:Inv X pins σ H { s with heap:=s.heap.push { cls:=.type "range",data:=.fields #[.int lo t,.int hi u,.int 1 v] },toks:=tk }:=I.kept λb o e=>aag _ e;refine⟨(s.heap.push { cls:=.type "range",data:=.fields #[.int lo t,.int hi u,.int 1 v] }).objs.size,[(s.heap.push { cls:=.type "range",data:=.fields #[.int lo t,.int hi u,.int 1 v] }).objs.size],_,_,H,rfl,
  I1.kept (t':=tk) λb o e=>aag _ e,ow _ lo (hi-lo).toNat,?_,λb hb=>?_,q⟩
 ·have e1:lo+((0:Nat):Int)*1=lo:=by simp
  have e2:(((hi-lo).toNat:Nat):Int)-((0:Nat):Int)=Builtin.Range.rangeSize lo hi 1:=by rw[rangeSize_one];split<;>lia
  show IsRangeIter _ _ (lo+((0:Nat):Int)*1) ((((hi-lo).toNat:Nat):Int)-((0:Nat):Int)) 1;rw[e1,e2];exact aax _ rfl
 ·have e:b=(s.heap.push { cls:=.type "range",data:=.fields #[.int lo t,.int hi u,.int 1 v] }).objs.size:=by simpa using hb
  subst e;exact I1.J3 (aam _) (I1.h_.fresh (aam _))
def Rq(ta:TA):TI:=λσ H R=>ta σ H λvs H1=>∃j:Int,vs=[.int j]/\-(2 ^ 62)<=j/\j<2 ^ 62/\R (RT 0 j.toNat) H1
theorem MS{a:Expr}{ta:TA}{p pos:Pos}(hg:Gl X "range")(hm:X.mg "range" = none)(ha:PA X [a] ta)(hs:starEach [a] X.env=[(false,eval a X.env)]:=by rfl):PI X tg (.Call (.Name "range" p) [a] [] pos) (Rq ta):=by
 intro pins s σ H R I h;refine Call_ (dG I hg hm boot_range (aba (j9 (ha pos pins s σ H _ I h) λus s1 ⟨vs,H1,I1,r1,q1⟩=>?_) hs rfl));obtain⟨j,e,q1,q2,q⟩:=q1;subst e;cases r1 with
 |cons r rr=>
  cases rr;obtain⟨t,rfl⟩:=r;exact call_range_1 (va I1 (by lia) (by lia) q1 q2 (by simpa using q))
def Vq(wi:TI)(g:TG)(tb:TS):TS:=λD σ H=>wi σ H λJ H1=>∃W:Nat->Nat->St->Hp->Prop,(∃m,W 0 m σ H1)/\∀i m σ H,W i m σ H ->
 (J.stop i H/\D.nx σ H)\/(J.go i H/\∃N:St->Hp->Prop,(∀l_ H',N l_ H'->∃m',m'<m/\W (i+1) m' l_ H')/\∀x H',J.P7 i H x H'->g x σ H' λJf H2=>tb { D with nx:=N,ct:=N,bk:=D.nx } Jf H2)
noncomputable def ky(fp:List Addr)(h:Heap):List (Addr×Obj):=fp.filterMap λb=>(h.get? b).map λo=>(b,o)
def dO{b:Addr}(hb:b∈fp)(e:h.get? b=some o):(b,o)∈ky fp h:=List.mem_filterMap.mpr ⟨b,hb,by rw[e];rfl⟩
theorem su{p:Addr×Obj}(hp:p∈ky fp h):p.1∈fp/\h.get? p.1=some p.2:=by
 obtain⟨b,hb,e⟩:=List.mem_filterMap.mp hp;cases q:h.get? b with
 |none=>rw[q]at e;cases e
 |some o=>
  rw[q]at e;have e':(b,o)=p:=aaq e;subst e';exact⟨hb,q⟩
def Inv.pinned(I:Inv X pins σ H s)(hf:∀b∈fp,mz X pins H b)(ho:∀b∈fp,∃o,s.heap.get? b=some o/\∀v,o.data≠.cell v):Inv X (pins++ky fp s.heap) σ H s:=
 I.JW λp hp=>(List.mem_append.mp hp).elim (λz=>I.pin p (aaT _ z)) λz=>by obtain⟨hb,e⟩:=su z;obtain⟨f0,f1,f2,_⟩:=hf p.1 hb;obtain⟨o,e',d⟩:=ho p.1 hb;rw[e]at e';cases e';exact⟨e,f0,f1,f2,d⟩
def Inv.GQ{pl:List (Addr×Obj)}(I:Inv X (pins++pl) σ H s):Inv X pins σ H s:=I.JW λp hp=>I.pin p (aaT _ (abF _ hp))
def SV{iter:Expr}{wi:TI}{g:TG}{tb:TS}{pos:Pos}(hp:PassesOwn (model X.prog X.w) X.A X.env X.xe)(hc:X.calm=true)(hi:PI X tg iter wi)(hg:PG X tg g)(hb:Le X body tb)(hs:∀x,foldedSetIterable iter X.env x=pure x:=by intro _;rfl):PS X (.For tg iter body [] pos) (Vq wi g tb):=by
 intro pins s σ H D I h;refine wpAny_For (j9 (hi pins s σ H _ I h) λv s1 h1=>j9 h1 λitv s2 h2=>?_) hs;obtain⟨it,fp,tn,J,H2,e,I2,T,ZA,f2,W,⟨m0,w0⟩,turn⟩:=h2;subst e;have SD:∀{H':Hp},(∀b∈fp,H' b=none)->∀b∈fp,mz X pins H' b:=λhn b hb=>⟨hn b hb,(f2 b hb).2⟩
 refine codeAny_forLoop_any (λn s'=>∃i l_ H',Inv X pins l_ H' s'/\tn i s'.heap/\(∀b∈fp,H' b=none)/\W i n l_ H') ?_ m0 ⟨0,σ,H2,I2,ZA,λb hb=>(f2 b hb).1,w0⟩;rintro n s3 ⟨i,Ny,H3,I3,SF,Xm,w3⟩;rcases turn i n Ny H3 w3 with⟨stop,qn⟩|⟨go,N,hN,step⟩
 ·refine abE hp (j9 (T.done X rfl rfl rfl hc i pins s3 Ny H3 X.xe I3 (SD Xm) SF stop) λr s4 ⟨hr,I4⟩=>?_);subst hr;exact abY ⟨Ny,H3,I4,qn⟩
 ·refine abE hp (j9 (T.item X rfl rfl rfl hc i pins s3 Ny H3 X.xe I3 (SD Xm) SF go) λr s4 ⟨u,hr,h4⟩=>?_);subst hr;refine abE hp (j9 h4 λ_ s5 ⟨x,H5,I5,r5,y5,SE,fr5⟩=>?_);have I5':=I5.pinned (SD fr5) (T.obj _ _ SE);refine abE hp (j9 (hg _ s5 Ny H5 x u _ I5' r5 (step x H5 y5)) λ_ s6 ⟨Nm,H6,I6,q6⟩=>?_);refine abE hp (j9 (hb _ s6 Nm H6 _ I6 q6) λf s7 q7=>?_);have again:∀{MK:St}{H7:Hp},Inv X (pins++ky fp s5.heap) MK H7 s7->N MK H7->∃m,m<n/\∃i l_ H',Inv X pins l_ H' s7/\tn i s7.heap/\(∀b∈fp,H' b=none)/\W i m l_ H':=λ{MK H7} I7 n7=>by
   obtain⟨m',hm,w7⟩:=hN MK H7 n7;refine⟨m',hm,i+1,MK,H7,I7.GQ,T.keep _ _ _ SE λb hb o e=>(I7.pin (b,o) (aaT _ (aaT _ (dO hb e)))).1,λb hb=>?_,w7⟩;obtain⟨o,e,d⟩:=T.obj _ _ SE b hb;exact(I7.pin (b,o) (aaT _ (aaT _ (dO hb e)))).2.1
  cases f with
  |next=>obtain⟨MK,H7,I7,n7⟩:=q7;exact again I7 n7
  |cont=>obtain⟨MK,H7,I7,n7⟩:=q7;exact again I7 n7
  |brk=>obtain⟨MK,H7,I7,q7⟩:=q7;exact⟨MK,H7,I7.GQ,q7⟩
  |ret v=>obtain⟨x7,MK,H7,I7,r7,q7⟩:=q7;exact⟨x7,MK,H7,I7.GQ,r7,q7⟩
end
variable{D:mC}
theorem dQ{a:Addr}{g:TG}{tb:TS}(Pv:Nat->St->Hp->Prop)(h0:Pv 0 σ H)(hl:∀i σ H,i<=xs.length->Pv i σ H->c_ K H a xs)(hs:∀i x σ H,xs[i]?=some x->Pv i σ H->g x σ H λJf H2=>tb { D with nx:=Pv (i+1),ct:=Pv (i+1),bk:=D.nx } Jf H2)(hd:∀σ H,Pv xs.length σ H->D.nx σ H):
 ∃W:Nat->Nat->St->Hp->Prop,(∃m,W 0 m σ H)/\∀i m σ H,W i m σ H ->
  ((PB K a).stop i H/\D.nx σ H)\/((PB K a).go i H/\∃N:St->Hp->Prop,(∀l_ H',N l_ H'->∃m',m'<m/\W (i+1) m' l_ H')/\∀x H',(PB K a).P7 i H x H'->g x σ H' λJf H2=>tb { D with nx:=N,ct:=N,bk:=D.nx } Jf H2):=by
 refine⟨λi m σ H=>m=xs.length-i/\i<=xs.length/\Pv i σ H,⟨xs.length,by simp,aa8 _,h0⟩,?_⟩;rintro i m σ H ⟨rfl,hi,p⟩;have q:=hl i σ H hi p;by_cases q_:i<xs.length
 ·refine .inr ⟨⟨xs,xs[i],q,by simp[q_]⟩,Pv (i+1),λl_ H' p'=>⟨xs.length-(i+1),by lia,rfl,q_,p'⟩,λx H' y=>?_⟩;obtain⟨e,y⟩:=y;subst e;exact hs i x σ _ (y xs q) p
 ·have e:i=xs.length:=by lia
  subst e;exact .inl ⟨⟨xs,q,aam _⟩,hd σ H p⟩
theorem tM{a:Addr}{g:TG}{tb:TS}(Pv:Nat->St->Hp->Prop)(h0:Pv 0 σ H)(hl:∀i σ H,i<=xs.length->Pv i σ H->k_ K H a xs)(hs:∀i x σ H,xs[i]?=some x->Pv i σ H->g x σ H λJf H2=>tb { D with nx:=Pv (i+1),ct:=Pv (i+1),bk:=D.nx } Jf H2)(hd:∀σ H,Pv xs.length σ H->D.nx σ H):
 ∃W:Nat->Nat->St->Hp->Prop,(∃m,W 0 m σ H)/\∀i m σ H,W i m σ H ->
  ((YV K a).stop i H/\D.nx σ H)\/((YV K a).go i H/\∃N:St->Hp->Prop,(∀l_ H',N l_ H'->∃m',m'<m/\W (i+1) m' l_ H')/\∀x H',(YV K a).P7 i H x H'->g x σ H' λJf H2=>tb { D with nx:=N,ct:=N,bk:=D.nx } Jf H2):=by
 refine⟨λi m σ H=>m=xs.length-i/\i<=xs.length/\Pv i σ H,⟨xs.length,by simp,aa8 _,h0⟩,?_⟩;rintro i m σ H ⟨rfl,hi,p⟩;have q:=hl i σ H hi p;by_cases q_:i<xs.length
 ·refine .inr ⟨⟨xs,xs[i],q,by simp[q_]⟩,Pv (i+1),λl_ H' p'=>⟨xs.length-(i+1),by lia,rfl,q_,p'⟩,λx H' y=>?_⟩;obtain⟨e,y⟩:=y;subst e;exact hs i x σ _ (y xs q) p
 ·have e:i=xs.length:=by lia
  subst e;exact .inl ⟨⟨xs,q,aam _⟩,hd σ H p⟩
theorem df{g:TG}{tb:TS}(Pv:Nat->St->Hp->Prop)(h0:Pv 0 σ H)(hs:∀i σ H,i<n->Pv i σ H->g (.int (lo+i)) σ H λJf H2=>tb { D with nx:=Pv (i+1),ct:=Pv (i+1),bk:=D.nx } Jf H2)(hd:∀σ H,Pv n σ H->D.nx σ H):
 ∃W:Nat->Nat->St->Hp->Prop,(∃m,W 0 m σ H)/\∀i m σ H,W i m σ H ->
  ((RT lo n).stop i H/\D.nx σ H)\/((RT lo n).go i H/\∃N:St->Hp->Prop,(∀l_ H',N l_ H'->∃m',m'<m/\W (i+1) m' l_ H')/\∀x H',(RT lo n).P7 i H x H'->g x σ H' λJf H2=>tb { D with nx:=N,ct:=N,bk:=D.nx } Jf H2):=by
 refine⟨λi m σ H=>m=n-i/\i<=n/\Pv i σ H,⟨n,by simp,aa8 _,h0⟩,?_⟩;rintro i m σ H ⟨rfl,hi,p⟩;by_cases q_:i<n
 ·refine .inr ⟨q_,Pv (i+1),λl_ H' p'=>⟨n-(i+1),by lia,rfl,q_,p'⟩,λx H' y=>?_⟩;obtain⟨e,y⟩:=y;subst e y;exact hs i σ _ q_ p
 ·have e:i=n:=by lia
  subst e;exact .inl ⟨aam _,hd σ H p⟩
abbrev R2:=V->V->Hp->VK->Prop
def GK(X:Cx)(f:Value->Value->Sem Value)(r:R2):Prop:=
 ∀(pins:List (Addr×Obj))(s:Shared)(σ:St)(H:Hp)(x y:V)(v u:Value)(Q:VK),Inv X pins σ H s->RelV x v->RelV y u->r x y H Q ->
  wpAny (model X.prog X.w) X.A (f v u) (EP X pins σ Q) X.xe s
def _5(X:Cx)(f:Value->Sem Value)(r:V->Hp->VK->Prop):Prop:=
 ∀(pins:List (Addr×Obj))(s:Shared)(σ:St)(H:Hp)(x:V)(v:Value)(Q:VK),Inv X pins σ H s->RelV x v->r x H Q ->
  wpAny (model X.prog X.w) X.A (f v) (EP X pins σ Q) X.xe s
def t4(X:Cx)(f:Value)(r:List V->Hp->VK->Prop):Prop:=
 ∀(pins:List (Addr×Obj))(s:Shared)(σ:St)(H:Hp)(xs:List V)(us:List Value)(Q:VK),Inv X pins σ H s->Vals xs us->r xs H Q ->
  wpAny (model X.prog X.w) X.A (call f us) (EP X pins σ Q) X.xe s
def GG(X:Cx)(r:V->Hp->(Bool->Hp->Prop)->Prop):Prop:=
 ∀(pins:List (Addr×Obj))(s:Shared)(σ:St)(H:Hp)(x:V)(v:Value)(Q:Bool->Hp->Prop),Inv X pins σ H s->RelV x v->r x H Q ->
  wpAny (model X.prog X.w) X.A (truthy v) (TP X pins σ Q) X.xe s
def Q5(r:R2)(ta tb:TE):TE:=λσ H Q=>ta σ H λx H1=>tb σ H1 λy H2=>r x y H2 Q
def tUn(r:V->Hp->VK->Prop)(ta:TE):TE:=λσ H Q=>ta σ H λx H1=>r x H1 Q
noncomputable def rI(C:Int->Int->Prop)(g:Int->Int->V):R2:=λx y H Q=>∃i j,x=.int i/\y=.int j/\C i j/\Q (g i j) H
noncomputable def SK(g:Int->Int->V):R2:=λx y H Q=>∃i j,x=.int i/\y=.int j/\Q (g i j) H
def rU(g:Int->V):V->Hp->VK->Prop:=λx H Q=>∃i,x=.int i/\Q (g i) H
variable{X:Cx}{a b c:Expr}{ta tb tc:TE}{pos:Pos}
variable{f:Value->Value->Sem Value}
def Fq(ha:PE X a ta)(hb:PE X b tb){R:V->V->Hp->Prop}(I:Inv X pins σ H s)(h:ta σ H λx H1=>tb σ H1 λy H2=>R x y H2)(hf:∀v u s2 x y H2,Inv X pins σ H2 s2->RelV x v->RelV y u->R x y H2->wpAny (model X.prog X.w) X.A (f v u) Q X.xe s2):
 wpAny (model X.prog X.w) X.A (eval a X.env) (λv i7=>wpAny (model X.prog X.w) X.A (eval b X.env) (λu s₂=>wpAny (model X.prog X.w) X.A (f v u) Q X.xe s₂) X.xe i7) X.xe s:=by
 refine j9 (ha pins s σ H _ I h) λv s1 ⟨x,H1,I1,r1,q1⟩=>?_;refine j9 (hb pins s1 σ H1 _ I1 q1) λu s2 ⟨y,H2,I2,r2,q2⟩=>?_;exact hf v u s2 x y H2 I2 r1 r2 q2
def VG{op:Operator}{r:R2}(ho:GK X (binaryOp op) r)(ha:PE X a ta)(hb:PE X b tb):PE X (.BinOp a op b pos) (Q5 r ta tb):=by intro pins s σ H Q I h;exact wpAny_BinOp (Fq ha hb I h λv u s2 x y H2 I2 rx ry q=>ho pins s2 σ H2 x y v u Q I2 rx ry q)
def VE{op:UnaryOp}{r:V->Hp->VK->Prop}(ho:_5 X (unaryOp op) r)(ha:PE X a ta):PE X (.UnaryOp op a pos) (tUn r ta):=by intro pins s σ H Q I h;exact UnaryOp_ (j9 (ha pins s σ H _ I h) λv s1 ⟨x,H1,I1,r1,q1⟩=>ho pins s1 σ H1 x v Q I1 r1 q1)
def ZM{C:Int->Int->Prop}{g:Int->Int->Int}(rule:∀(i j:Int) (t u:Tok) (s:Shared) (Q:Value->Shared->Prop) (E:Value->Shared->Prop),C i j->Q (.int (g i j) s.toks) { s with toks:=s.toks+1 }->wpAny (model X.prog X.w) X.A (f (.int i t) (.int j u)) Q E s):
 GK X f (rI C λi j=>.int (g i j)):=by
 intro pins s σ H x y v u Q I rx ry h;obtain⟨i,j,rfl,rfl,hc,q⟩:=h;obtain⟨t,rfl⟩:=rx;obtain⟨t',rfl⟩:=ry;exact rule i j t t' s _ _ hc ⟨.int (g i j),H,I.tok _,⟨_,rfl⟩,q⟩
def FR{g:Int->Int->Int}(rule:∀(i j:Int) (t u:Tok) (s:Shared) (Q:Value->Shared->Prop) (E:Value->Shared->Prop),Q (.int (g i j) s.toks) { s with toks:=s.toks+1 }->wpAny (model X.prog X.w) X.A (f (.int i t) (.int j u)) Q E s):
 GK X f (SK λi j=>.int (g i j)):=by
 intro pins s σ H x y v u Q I rx ry h;obtain⟨i,j,rfl,rfl,q⟩:=h;obtain⟨t,rfl⟩:=rx;obtain⟨t',rfl⟩:=ry;exact rule i j t t' s _ _ ⟨.int (g i j),H,I.tok _,⟨_,rfl⟩,q⟩
def Fa{g:Int->Int->Bool}(rule:∀(i j:Int) (t u:Tok) (s:Shared) (Q:Value->Shared->Prop) (E:Value->Shared->Prop),Q (.bool (g i j)) s->wpAny (model X.prog X.w) X.A (f (.int i t) (.int j u)) Q E s):
 GK X f (SK λi j=>.bl (g i j)):=by
 intro pins s σ H x y v u Q I rx ry h;obtain⟨i,j,rfl,rfl,q⟩:=h;obtain⟨t,rfl⟩:=rx;obtain⟨t',rfl⟩:=ry;exact rule i j t t' s _ _ ⟨.bl (g i j),H,I,rfl,q⟩
def GJ(i j:Int):Prop:=0<j/\j<1073741824
def GI(i j:Int):Prop:=0<=j/\j<=1000000/\i.natAbs<2 ^ 64
def UE(i j:Int):Prop:=(-(2 ^ 64)<i/\i<2 ^ 64)\/(-(2 ^ 64)<j/\j<2 ^ 64)
def UE.ok{i j:Int}(h:UE i j):IntMulOk i j:=by
 rcases h with⟨h1,h2⟩|⟨h1,h2⟩
 ·exact .of_left (intBits_le_64 h1 h2)
 ·exact .of_right (intBits_le_64 h1 h2)
def bA:GK X (binaryOp .Add) (SK λi j=>.int (i+j)):=FR λ_ _ _ _ _ _ _ q=>add_int q
def kB:GK X (binaryOp .Sub) (SK λi j=>.int (i-j)):=FR λ_ _ _ _ _ _ _ q=>sub_int q
def eS:GK X (binaryOp .Mult) (rI UE λi j=>.int (i*j)):=ZM λ_ _ _ _ _ _ _ hc q=>mul_int q hc.ok
theorem bh:GK X (binaryOp .FloorDiv) (rI GJ λi j=>.int (i / j)):=ZM λi j _ _ _ _ _ hc q=>by have h1:(0:Int)<j:=hc.1;have h2:j<1073741824:=hc.2;exact floordiv_int (by lia) (by rw[Int.fdiv_eq_ediv_of_nonneg i (by lia)];exact q) (.inl (adM (by lia)))
theorem aV:GK X (binaryOp .Mod) (rI (λ_ j=>0<j) λi j=>.int (i%j)):=ZM λi j _ _ _ _ _ hc q=>by have h1:(0:Int)<j:=hc;exact mod_int' (by lia) (by rw[Int.fmod_eq_emod_of_nonneg i (by lia)];exact q)
def xG:GK X (binaryOp .Pow) (rI GI λi j=>.int (i ^ j.toNat)):=ZM λ_ _ _ _ _ _ _ hc q=>pow_int_small hc.1 hc.2.1 hc.2.2 q
def unI{f:Value->Sem Value}{g:Int->Int}(rule:∀(i:Int) (t:Tok) (s:Shared) (Q:Value->Shared->Prop) (E:Value->Shared->Prop),Q (.int (g i) s.toks) { s with toks:=s.toks+1 }->wpAny (model X.prog X.w) X.A (f (.int i t)) Q E s):
 _5 X f (rU λi=>.int (g i)):=by
 intro pins s σ H x v Q I rx h;obtain⟨i,rfl,q⟩:=h;obtain⟨t,rfl⟩:=rx;exact rule i t s _ _ ⟨.int (g i),H,I.tok _,⟨_,rfl⟩,q⟩
def ke:_5 X (unaryOp .USub) (rU λi=>.int (-i)):=unI λ_ _ _ _ _ q=>neg_int q
noncomputable def FL:V->V->Bool
 |.o_,.o_=>true|.o_,.int _=>true|.int _,.o_=>true|.o_,.bl _=>true|.bl _,.o_=>true|.o_,.str _=>true|.str _,.o_=>true
 |.int _,.int _=>true|.bl _,.bl _=>true|.str _,.str _=>true|.MC _,.MC _=>true
 |.int _,.str _=>true|.str _,.int _=>true|.bl _,.str _=>true|.str _,.bl _=>true
 |_,_=>false
noncomputable def rEq:R2:=λx y H Q=>FL x y=true/\Q (.bl (decide (x=y))) H
noncomputable def rNe:R2:=λx y H Q=>FL x y=true/\Q (.bl (!decide (x=y))) H
def ua{i j:Int}:decide (V.int i=V.int j)=(i == j):=by rw[acb];simp
def yb{i j:Bool}:decide (V.bl i=V.bl j)=(i == j):=by rw[acb];simp
def tZ{i j:Str}:decide (V.str i=V.str j)=(i == j):=by rw[acb];simp
def uc{i j:Array UInt8}:decide (V.MC i=V.MC j)=(i.toList == j.toList):=by rw[acb];cases i;cases j;simp
def bB{Q:VK}{k k':Bool}(I:Inv X pins σ H s)(q:Q (.bl k) H)(e:k=k'):EP X pins σ Q (.bool k') s:=by subst e;exact⟨.bl k,H,I,rfl,q⟩
theorem bM:GK X (compareOp .Eq) rEq:=by
 intro pins s σ H x y v u Q I rx ry h;obtain⟨hs,q⟩:=h;cases x with
 |o_=>
  cases rx;cases y with
  |o_=>cases ry;exact PySem.EqNone.eq_none_none (bB I q (by simp))
  |bl j=>cases ry;exact PySem.EqNone.eq_none_bool (bB I q (by simp))
  |int j=>obtain⟨t',rfl⟩:=ry;exact PySem.EqNone.eq_none_int (bB I q (by simp))
  |str j=>obtain⟨t',rfl⟩:=ry;exact PySem.EqNone.eq_none_str (bB I q (by simp))
  |_=>exact absurd (show false=true from hs) aaw
 |bl i=>
  cases rx;cases y with
  |o_=>cases ry;exact PySem.EqNone.eq_bool_none (bB I q (by simp))
  |bl j=>cases ry;exact eq_bool (bB I q yb)
  |str j=>obtain⟨t',rfl⟩:=ry;exact PySem.EqMixed.eq_bool_str (bB I q (by simp))
  |_=>exact absurd (show false=true from hs) aaw
 |int i=>
  obtain⟨t,rfl⟩:=rx;cases y with
  |o_=>cases ry;exact PySem.EqNone.eq_int_none (bB I q (by simp))
  |int j=>obtain⟨t',rfl⟩:=ry;exact eq_int (bB I q ua)
  |str j=>obtain⟨t',rfl⟩:=ry;exact PySem.EqMixed.eq_int_str (bB I q (by simp))
  |_=>exact absurd (show false=true from hs) aaw
 |str i=>
  obtain⟨t,rfl⟩:=rx;cases y with
  |o_=>cases ry;exact PySem.EqNone.eq_str_none (bB I q (by simp))
  |bl j=>cases ry;exact PySem.EqMixed.eq_str_bool (bB I q (by simp))
  |int j=>obtain⟨t',rfl⟩:=ry;exact PySem.EqMixed.eq_str_int (bB I q (by simp))
  |str j=>obtain⟨t',rfl⟩:=ry;exact eq_str (bB I q tZ)
  |_=>exact absurd (show false=true from hs) aaw
 |MC i=>
  obtain⟨t,rfl⟩:=rx;cases y with
  |MC j=>obtain⟨t',rfl⟩:=ry;exact PySem.W.eq_bytes (bB I q uc)
  |_=>exact absurd (show false=true from hs) aaw
 |_=>cases y<;>exact absurd (show false=true from hs) aaw
theorem gY:GK X (compareOp .NotEq) rNe:=by
 intro pins s σ H x y v u Q I rx ry h;obtain⟨hs,q⟩:=h;cases x with
 |o_=>
  cases rx;cases y with
  |o_=>cases ry;exact PySem.EqNone.ne_none_none (bB I q (by simp))
  |bl j=>cases ry;exact PySem.EqNone.ne_none_bool (bB I q (by simp))
  |int j=>obtain⟨t',rfl⟩:=ry;exact PySem.EqNone.ne_none_int (bB I q (by simp))
  |str j=>obtain⟨t',rfl⟩:=ry;exact PySem.EqNone.ne_none_str (bB I q (by simp))
  |_=>exact absurd (show false=true from hs) aaw
 |bl i=>
  cases rx;cases y with
  |o_=>cases ry;exact PySem.EqNone.ne_bool_none (bB I q (by simp))
  |bl j=>cases ry;exact ne_bool (bB I q (aaN not yb))
  |str j=>obtain⟨t',rfl⟩:=ry;exact PySem.EqMixed.ne_bool_str (bB I q (by simp))
  |_=>exact absurd (show false=true from hs) aaw
 |int i=>
  obtain⟨t,rfl⟩:=rx;cases y with
  |o_=>cases ry;exact PySem.EqNone.ne_int_none (bB I q (by simp))
  |int j=>obtain⟨t',rfl⟩:=ry;exact ne_int (bB I q (aaN not ua))
  |str j=>obtain⟨t',rfl⟩:=ry;exact PySem.EqMixed.ne_int_str (bB I q (by simp))
  |_=>exact absurd (show false=true from hs) aaw
 |str i=>
  obtain⟨t,rfl⟩:=rx;cases y with
  |o_=>cases ry;exact PySem.EqNone.ne_str_none (bB I q (by simp))
  |bl j=>cases ry;exact PySem.EqMixed.ne_str_bool (bB I q (by simp))
  |int j=>obtain⟨t',rfl⟩:=ry;exact PySem.EqMixed.ne_str_int (bB I q (by simp))
  |str j=>obtain⟨t',rfl⟩:=ry;exact ne_str (bB I q (aaN not tZ))
  |_=>exact absurd (show false=true from hs) aaw
 |MC i=>
  obtain⟨t,rfl⟩:=rx;cases y with
  |MC j=>obtain⟨t',rfl⟩:=ry;exact PySem.W.ne_bytes (bB I q (aaN not uc))
  |_=>exact absurd (show false=true from hs) aaw
 |_=>cases y<;>exact absurd (show false=true from hs) aaw
def jv:GK X (compareOp .Lt) (SK λi j=>.bl (decide (i<j))):=Fa λ_ _ _ _ _ _ _ q=>lt_int q
def vw:GK X (compareOp .LtE) (SK λi j=>.bl (decide (i<=j))):=Fa λ_ _ _ _ _ _ _ q=>le_int q
def pW:GK X (compareOp .Gt) (SK λi j=>.bl (decide (j<i))):=Fa λ_ _ _ _ _ _ _ q=>gt_int q
def eU:GK X (compareOp .In) (λx y H Q=>∃i j,x=.str i/\y=.str j/\Q (.bl (!(Builtin.Str.occurrences j i 0 j.length 1).isEmpty)) H):=by intro pins s σ H x y v u Q I rx ry h;obtain⟨i,j,rfl,rfl,q⟩:=h;obtain⟨t,rfl⟩:=rx;obtain⟨t',rfl⟩:=ry;exact in_str (bB I q rfl)
def kC:GK X (compareOp .NotIn) (λx y H Q=>∃i j,x=.str i/\y=.str j/\Q (.bl (!(!(Builtin.Str.occurrences j i 0 j.length 1).isEmpty))) H):=by intro pins s σ H x y v u Q I rx ry h;obtain⟨i,j,rfl,rfl,q⟩:=h;obtain⟨t,rfl⟩:=rx;obtain⟨t',rfl⟩:=ry;exact notIn_str (bB I q rfl)
variable{op:CmpOp}
def aK(b:Expr)(h:op≠.In:=by decide)(h2:op≠.NotIn:=by decide):behindInMarks op b=false:=by
 have e1:(op == CmpOp.In)=false:=by cases op<;>first|rfl|exact absurd rfl h
 have e2:(op == CmpOp.NotIn)=false:=by cases op<;>first|rfl|exact absurd rfl h2
 cases b<;>simp[behindInMarks,e1,e2]
def Qp{r:R2}(ho:GK X (compareOp op) r)(ha:PE X a ta)(hb:PE X b tb)(hm:behindInMarks op b=false):PE X (.Compare a [op] [b] pos) (Q5 r ta tb):=by intro pins s σ H Q I h;exact wpAny_Compare1 (Fq ha hb I h λv u s2 x y H2 I2 rx ry q=>ho pins s2 σ H2 x y v u Q I2 rx ry q) hm
def Mh(t:TE):TT:=λσ H Q=>t σ H λx H'=>∃k,x=.bl k/\Q k H'
def Qc{r:R2}(ho:GK X (compareOp op) r)(ha:PE X a ta)(hb:PE X b tb)(hm:behindInMarks op b=false):PT X (.Compare a [op] [b] pos) (Mh (Q5 r ta tb)):=by
 intro pins s σ H Q I h;refine wpAny_isTrue_Compare1 (j9 (ha pins s σ H _ I h) λv s1 ⟨x,H1,I1,r1,q1⟩=>j9 (hb pins s1 σ H1 _ I1 q1) λu s2 ⟨y,H2,I2,r2,q2⟩=>
  j9 (ho pins s2 σ H2 x y v u _ I2 r1 r2 q2) λc s3 ⟨z,H3,I3,r3,k,e,q3⟩=>?_) hm
 subst e;cases r3;exact abr ⟨H3,I3,q3⟩
def NI(r r':R2)(ta tb tc:TE):TE:=λσ H Q=>ta σ H λx H1=>tb σ H1 λy H2=>r x y H2 λz H3=>∃k,z=.bl k /\
 (if k=true then tc σ H3 λw' H4=>r' y w' H4 Q else Q (.bl false) H3)
theorem NQ{Qt:CmpOp}{r r':R2}(ho:GK X (compareOp op) r)(Oq:GK X (compareOp Qt) r')(ha:PE X a ta)(hb:PE X b tb)(hc:PE X c tc)(hm:lastMarks [op,Qt] [b,c]=false:=by with_unfolding_all rfl):PT X (.Compare a [op,Qt] [b,c] pos) (Mh (NI r r' ta tb tc)):=by
 intro pins s σ H Q I h;refine isTrue_chain (j9 (ha pins s σ H _ I h) λv s1 ⟨x,H1,I1,r1,q1⟩=>test_link (j9 (hb pins s1 σ H1 _ I1 q1) λu s2 ⟨y,H2,I2,r2,q2⟩=>
  j9 (ho pins s2 σ H2 x y v u _ I2 r1 r2 q2) λd s3 ⟨z,H3,I3,r3,k,e,q3⟩=>?_)) hm
 subst e;cases r3;refine abr ?_;cases k with
 |false=>
  obtain⟨k',e',q'⟩:=q3;cases e';exact ite_ff ⟨H3,I3,q'⟩
 |true=>
  refine ite_tt (test_last (j9 (hc pins s3 σ H3 _ I3 q3) λw' s4 ⟨z',H4,I4,r4,q4⟩=>j9 (Oq pins s4 σ H4 y z' u w' _ I4 r2 r4 q4) λd' s5 ⟨z2,H5,I5,r5,k2,e2,q5⟩=>?_));subst e2;cases r5;exact abr ⟨H5,I5,q5⟩
def FB(K:W.Frag)(x:V)(H:Hp)(k:Bool):Prop:=
 match x with
 |.o_=>k=false
 |.bl b=>k=b
 |.int i=>k=(i != 0)
 |.str y=>y.length<=sizeLine/\k=((y.length:Int) != 0)
 |.MC y=>y.size<=sizeLine/\k=((y.size:Int) != 0)
 |.ref p=>(∃xs,c_ K H p xs/\k=!xs.isEmpty)\/(∃xs,k_ K H p xs/\k=!xs.isEmpty)\/∃e_,H p=some (.dK e_)/\k=!e_.isEmpty
 |_=>False
def qf{e_:List (κ×V)}{vs:List (κ×Value)}(r:KV e_ vs):(!vs.isEmpty)=!e_.isEmpty:=by cases r<;>rfl
def jb{d7:List Value}(r:Vals xs d7):(!d7.toArray.isEmpty)=!xs.isEmpty:=by cases r<;>simp
def fW:(sizeLine:Nat)<2 ^ 63:=by rw[ac4];decide
theorem Bq:GG X (λx H Q=>∃k,FB X.K x H k/\Q k H):=by
 intro pins s σ H x v Q I rx h;obtain⟨k,e,q⟩:=h;have hl:=fW;have hs:sizeLine=16777216:=ac4;cases x with
 |o_=>
  cases rx;have e':k=false:=e;subst e';exact truthy_none ⟨H,I,q⟩
 |bl b=>
  cases rx;have e':k=b:=e;subst e';exact abr ⟨H,I,q⟩
 |int i=>
  obtain⟨t,rfl⟩:=rx;have e':k=(i != 0):=e;subst e';exact PySem.P.truthy_int ⟨H,I,q⟩
 |str y=>
  obtain⟨t,rfl⟩:=rx;obtain⟨hy,e'⟩:y.length<=sizeLine/\k=((y.length:Int) != 0):=e;subst e';exact PySem.P.truthy_str (by lia) ⟨H,I.tok _,q⟩
 |MC y=>
  obtain⟨t,rfl⟩:=rx;obtain⟨hy,e'⟩:y.size<=sizeLine/\k=((y.size:Int) != 0):=e;subst e';exact PySem.W.truthy_bytes (by lia) ⟨H,I.tok _,q⟩
 |ref p=>
  cases rx;have e':(∃xs,c_ X.K H p xs/\k=!xs.isEmpty)\/(∃xs,k_ X.K H p xs/\k=!xs.isEmpty)\/∃e_,H p=some (.dK e_)/\k=!e_.isEmpty:=e;rcases e' with⟨xs,hx,e'⟩|⟨xs,hx,e'⟩|⟨e_,hx,e'⟩
  ·subst e';obtain⟨d7,r,pl,hz⟩:=I.list hx;have hlen:=r.length;exact wpAny_truthy_list pl.isList (by simp only[aaA];lia) ⟨H,I.tok _,by rw[jb r];exact q⟩
  ·subst e';obtain⟨d7,r,pl,hz⟩:=I.tuple hx;have hlen:=r.length;exact truthy_tuple pl (by simp only[aaA];lia) ⟨H,I.tok _,by rw[jb r];exact q⟩
  ·subst e';obtain⟨hz,hS,vs,r,m⟩:e_.length<=sizeLine/\(p == sysModules)=false/\∃vs,KV e_ vs/\s.heap.DictOf (cc X.prog X.w) p vs:=I.h_ p _ hx;have hlen:e_.length=vs.length:=Paired.length r;exact wpAny_truthy_dict hS m (by lia) ⟨H,I.tok _,by rw[qf r];exact q⟩
 |_=>exact(show False from e).elim
def NP(ha:PE X a ta)(he:∀whole,isTrue a X.env whole=(do let v <- whole;standAt a.pos;holding [v] (truthy v))):
 PT X a (λσ H Q=>ta σ H λx H'=>∃k,FB X.K x H' k/\Q k H'):=by
 intro pins s σ H Q I h;exact isTrue_plain (j9 (ha pins s σ H _ I h) λv s1 ⟨x,H1,I1,r1,q1⟩=>Bq pins s1 σ H1 x v Q I1 r1 q1) (he _)
def au:GK X (binaryOp .Add) (λx y H Q=>∃i j,x=.str i/\y=.str j/\i.length+j.length<=sizeLine/\Q (.str (i++j)) H):=by intro pins s σ H x y v u Q I rx ry h;obtain⟨i,j,rfl,rfl,hz,q⟩:=h;obtain⟨t,rfl⟩:=rx;obtain⟨t',rfl⟩:=ry;exact add_str (λt' tk=>⟨.str (i++j),H,I.tok _,⟨_,rfl⟩,q⟩) hz
variable{us:List Value}
theorem oo{x:V}(r:Vals [x] us):∃u,us=[u]/\RelV x u:=by
 cases r with
 |cons r1 r2=>cases r2;exact⟨_,rfl,r1⟩
theorem Bp{x:V}(r:Vals [x,y] us):∃u w',us=[u,w']/\RelV x u/\RelV y w':=by
 cases r with
 |cons r1 r2=>
  cases r2 with
  |cons r3 r4=>cases r4;exact⟨_,_,rfl,r1,r3⟩
def cX:t4 X (.type "str") (λxs H Q=>∃i,xs=[.int i]/\i.natAbs.log2<1920/\Q (.str (toString i)) H):=by intro pins s σ H xs us Q I r h;obtain⟨i,rfl,hz,q⟩:=h;obtain⟨u,rfl,t,rfl⟩:=oo r;exact PySem.P.str_of_int hz ⟨.str _,H,I.tok _,⟨_,rfl⟩,q⟩
structure Mb(h:Heap)(x dx C:Addr)(mA:Str->Option Value):Prop where
 obj:h.get? x=some (PySem.W.instObj C dx)
 ns:h.Ns1 dx mA
 ne:dx≠x
variable{mA:Str->Option Value}{dx:Addr}
def sK(n:h.Ns1 dx mA):∃od,h.get? dx=some od/\∀name,PySem.W.lookIn name od=some (mA name):=by
 obtain⟨o,es,ep,ho,hd,hk,_,hm⟩:=n;refine⟨o,ho,λname=>?_⟩;have e:=hm name;unfold nsFind findBy at e;rw[<-Array.find?_toList]at e;unfold PySem.W.lookIn;rw[hd];dsimp only;split
 ·rename_i y q;rw[q]at e;exact aaN some e
 ·rename_i q;rw[q]at e;have a:es.toList.any (·.refKey)=false:=by
   rw[List.any_eq_false];intro y hy;obtain⟨z,t,hkey⟩:=hk y (Array.mem_toList_iff.mp hy);simp[DictEntry.refKey,hkey]
  have a':¬es.toList.any (·.refKey)=true:=by rw[a];exact aaw
  rw[aaK a'];exact aaN some e
variable{C:Addr}
def Mb.look{x:Addr}(I:Mb h x dx C mA):∃od,PySem.W.InstAt h x (PySem.W.instObj C dx) C (some od)/\∀name,PySem.W.lookIn name od=some (mA name):=
 let⟨od,ho,hl⟩:=sK I.ns
 ⟨od,⟨I.obj,rfl,rfl,ho⟩,hl⟩
variable{pl:Sem Bool}
section
variable{prog:Program}{w:World}{A:Around}{E:Value->Shared->Prop}{s:Shared}{K:W.Frag}{x dx C f:Addr}{mA:Str->Option Value}{name:Str}{v:Value}
def AC{expr:Bool}(X:K.In s.heap)(I:Mb s.heap x dx C mA)(hg:PySem.W.plainGet K C name=true)(hh:PySem.W.hasDictIn K C=true)(ha:PySem.W.findIn K (.ref C) name=some none)(hv:mA name=some v)(Ww:PySem.W.handedIn v=true)(h:Q v { s with toks:=s.toks+1 }):
 wpAny (model prog w) A (getAttr (.ref x) name expr) Q E s:=by
 obtain⟨od,J,hl⟩:=I.look;exact PySem.W.get_value X J (acQ hg).1 (PySem.W.findObj_own hh ha rfl (by rw[hl,hv])) Ww h
def wF{Q:Value×List Value->Shared->Prop}(X:K.In s.heap)(I:Mb s.heap x dx C mA)(hg:PySem.W.plainGet K C name=true)(hf:PySem.W.findIn K (.ref C) name=some (some (.ref f)))(ht:PySem.W.isFn K (.ref f)=true)(hv:mA name=none)(h:Q (.ref f,[.ref x]) s):
 wpAny (model prog w) A (getMethod (.ref x) name pl) Q E s:=by
 obtain⟨od,J,hl⟩:=I.look;exact PySem.W.method_fn X J (acQ hg).1 (acQ hg).2 hf (beq_iff_eq.mp ht) (by show(PySem.W.lookIn name od).map (·.isSome)=some false;rw[hl,hv];rfl) h
theorem yV{ns:List Str}{Q:Unit->Shared->Prop}(X:K.In s.heap)(I:Mb s.heap x dx C mA)(hs:PySem.W.findIn K (.ref C) "__setattr__" = some (some (.builtin "object.__setattr__")))(hp:PySem.W.plainOver K C=true)(ht:PySem.W.takerIn K C name=some none)(hh:PySem.W.hasDictIn K C=true)(hw:PySem.Within mA ns)(M_:ns.length<=sizeLine)(h:∀h',Mb h' x dx C (λy=>if y=name then some v else mA y)->Heap.SameBut dx s.heap h'->Q () { s with heap:=h',toks:=s.toks+2 }):
 wpAny (model prog w) A (setAttr (.ref x) name v) Q E s:=by
 obtain⟨od,J,hl⟩:=I.look;refine PySem.W.set_plain X J hs (PySem.W.osa_open (s:={ s with toks:=s.toks+1 }) (r:=none) X J hp ht λb=>?_);obtain⟨cd,hc,Ia⟩:=PySem.W.any_some hh;have hx:s.heap.get? x=some ⟨.ref C,some dx,.plain,#[]⟩:=I.obj;refine aae (aaR (aae (aae (wpAny_loadPart hx (aae (PySem.W.Looks.here (s:={ s with toks:=s.toks+1 }) (PySem.W.looks_clsIn X hc) ?_))))));rw[Ia];refine aaR (a:=some dx) (aae (aaR (aae ?_)));refine wpAny_nsSet1 (s:={ s with toks:=s.toks+1 }) I.ns λh' TQ Jb=>?_;obtain⟨oD,esD,epD,hoD,hdD,hcD⟩:=TQ.count (PySem.Within.cons name v hw);refine aae (wpAny_lookBehind hoD (by rw[hdD];exact pastItsLine_dict (abb hcD (by rw[aac];lia))) ?_);exact aaR (h _ ⟨(Jb.2 _ (abw I.ne)).trans I.obj,TQ,I.ne⟩ Jb)
def vW{R:Result->Shared->Prop}{vs:List Value}{kw:List (Str×Value)}(X:K.In s.heap)(hm:PySem.W.makesIn K C=true)(hi:PySem.W.findIn K (.ref C) "__init__" = some (some (.ref f)))(hf:PySem.W.typeIn K (.ref f)=some (.type "function"))(h:codeAny (model prog w) (A.under (.builtin "type.__call__" ⟨.ref C::vs,kw⟩)) (.call (.ref f) ⟨.ref (s.heap.objs.size+1)::vs,kw⟩) (PySem.W.InitBack (s.heap.objs.size+1) R)
 { s with heap:=(s.heap.push PySem.W.emptyDict).push (PySem.W.instObj C s.heap.objs.size) }):
 codeAny (model prog w) A (.call (.ref C) ⟨vs,kw⟩) R s:=by
 obtain⟨hh,g,d,t,os⟩:=s;exact PySem.W.make_core (PySem.W.makes_of X hm) (PySem.W.looks_findIn X hi) (λself=>PySem.W.bind_fn X self hf) (.inl rfl) h
end
noncomputable def eG(f:Str)(v:V):List (Str×V)->List (Str×V)
 |[]=>[(f,v)]
 |(g,x)::r=>if g=f then(g,v)::r else(g,x)::eG f v r
theorem bb(f g:Str)(v:V):∀fs:List (Str×V),(eG f v fs).lookup g=if g=f then some v else fs.lookup g
 |[]=>by
  show List.lookup g [(f,v)]=_;by_cases h:g=f
  ·have hb:(g == f)=true:=beq_iff_eq.mpr h;simp only[List.lookup,hb,aaX h]
  ·have hb:(g == f)=false:=beq_eq_false_iff_ne.mpr h;simp only[List.lookup,hb,aaK h]
 |(k,x)::r=>by
  have ih:=bb f g v r;rw[show eG f v ((k,x)::r)=(if k=f then(k,v)::r else(k,x)::eG f v r)from rfl];by_cases hk:k=f
  ·rw[aaX hk];by_cases h:g=k
   ·have hb:(g == k)=true:=beq_iff_eq.mpr h;simp only[List.lookup,hb,aaX (h.trans hk)]
   ·have hb:(g == k)=false:=beq_eq_false_iff_ne.mpr h;simp only[List.lookup,hb,aaK (λe:g=f=>h (e.trans hk.symm))]
  ·rw[aaK hk];by_cases h:g=k
   ·have hb:(g == k)=true:=beq_iff_eq.mpr h;simp only[List.lookup,hb,aaK (λe:g=f=>hk (h.symm.trans e))]
   ·have hb:(g == k)=false:=beq_eq_false_iff_ne.mpr h;simp only[List.lookup,hb];exact ih
theorem ia(f:Str)(v:V):∀fs:List (Str×V),f∈(eG f v fs).map (·.1)/\∀g,g∈fs.map (·.1)->g∈(eG f v fs).map (·.1)
 |[]=>⟨by simp[eG],λg h=>by simp at h⟩
 |(k,x)::r=>by
  obtain⟨i1,i2⟩:=ia f v r;rw[show eG f v ((k,x)::r)=(if k=f then(k,v)::r else(k,x)::eG f v r)from rfl];by_cases hk:k=f
  ·rw[aaX hk];subst hk;exact⟨by simp,λg h=>by simpa using h⟩
  ·rw[aaK hk];refine⟨?_,λg h=>?_⟩
   ·rw[aaV];exact aah _ i1
   ·rw[aaV]at h⊢;rcases List.mem_cons.mp h with e|e
    ·exact List.mem_cons.mpr (.inl e)
    ·exact aah _ (i2 g e)
theorem eC(f:Str)(v:V):∀fs:List (Str×V),(eG f v fs).length<=fs.length+1
 |[]=>by simp[eG]
 |(k,x)::r=>by
  have ih:=eC f v r;rw[show eG f v ((k,x)::r)=(if k=f then(k,v)::r else(k,x)::eG f v r)from rfl];by_cases hk:k=f
  ·rw[aaX hk,aac,aac];lia
  ·rw[aaK hk,aac,aac];lia
theorem HV.some_of{o:Option Value}(r:HV (some v) o):∃u,o=some u/\RelV v u:=by
 cases o with
 |none=>exact(show False from r).elim
 |some u=>exact⟨u,rfl,r⟩
theorem HV.none_of{o:Option Value}(r:HV none o):o=none:=by
 cases o with
 |none=>rfl
 |some u=>exact(show False from r).elim
theorem tF(r:RelV v u):PySem.W.handedIn u=true:=by
 cases v with
 |o_=>cases(show u=Value.none from r);rfl
 |bl b=>cases(show u=Value.bool b from r);rfl
 |int i=>obtain⟨t,e⟩:=(show∃t,u=Value.int i t from r);cases e;rfl
 |str x=>obtain⟨t,e⟩:=(show∃t,u=Value.str x t from r);cases e;rfl
 |MC b=>obtain⟨t,e⟩:=(show∃t,u=Value.bytes b t from r);cases e;rfl
 |Uq b=>obtain⟨t,e⟩:=(show∃t,u=Value.float b t from r);cases e;rfl
 |ref a=>cases(show u=Value.ref a from r);rfl
 |ty n=>cases(show u=Value.type n from r);rfl
section
variable{P:Program}{w:World}{H H':Hp}{h h':Heap}{a C dx:Addr}{fs fs':List (Str×V)}
def jJ(h_:G8 P w H h)(e:H a=some (.ins C dx fs)):∃mA,Mb h a dx C mA/\(∀f,HV (fs.lookup f) (mA f))/\PySem.Within mA (fs.map (·.1))/\fs.length<=1000/\H dx=some (.own a):=by
 obtain⟨d,z,ne,ob,mA,n,r,q⟩:=(show j5 P w H h a (.ins C dx fs)from h_ a _ e)
 exact⟨mA,⟨ob,n,ne⟩,r,q,z,d⟩
end
structure Nl(K:W.Frag)(C:Addr):Prop where
 pg:PySem.W.plainGet K C Str.empty=true
 hd:PySem.W.hasDictIn K C=true
 po:PySem.W.plainOver K C=true
 sa:PySem.W.findIn K (.ref C) "__setattr__" = some (some (.builtin "object.__setattr__"))
def Nl.get(c:Nl K C)(f:Str):PySem.W.plainGet K C f=true:=c.pg
def A_(K:W.Frag)(C:Addr)(f:Str):Prop:=PySem.W.findIn K (.ref C) f=some none
def A_.Vk{f:Str}(n:A_ K C f):PySem.W.takerIn K C f=some none:=by unfold PySem.W.takerIn;rw[show PySem.W.findIn K (.ref C) f=some none from n];rfl
structure qC(K:W.Frag)(C:Addr)(m:Str)(f:Addr):Prop where
 at_:PySem.W.findIn K (.ref C) m=some (some (.ref f))
 fn:PySem.W.isFn K (.ref f)=true
 kp:PySem.W.keepIn K (.ref f)=true
section
variable{X:Cx}{pins:List (Addr×Obj)}{σ:St}{H:Hp}{s:Shared}{a C dx:Addr}{fs:List (Str×V)}{f:Str}{v:V}{A:Around}{E:Value->Shared->Prop}
def qk{b:Bool}(I:Inv X pins σ H s)(e:H a=some (.ins C dx fs))(c:Nl X.K C)(n:A_ X.K C f)(l:fs.lookup f=some v)(h:∀u s',Inv X pins σ H s'->RelV v u->Q u s'):wpAny (model X.prog X.w) A (getAttr (.ref a) f b) Q E s:=by obtain⟨mA,O,r,_,_,_⟩:=jJ I.h_ e;obtain⟨u,hu,ru⟩:=HV.some_of (v:=v) (o:=mA f) (by rw[<-l];exact r f);exact AC I.Hb O (c.get f) c.hd n hu (tF ru) (h u _ (I.tok _) ru)
def jd{m:Str}{g:Addr}{Q:Value×List Value->Shared->Prop}(I:Inv X pins σ H s)(e:H a=some (.ins C dx fs))(c:Nl X.K C)(k:qC X.K C m g)(l:fs.lookup m=none)(h:Q (.ref g,[.ref a]) s):wpAny (model X.prog X.w) A (getMethod (.ref a) m pl) Q E s:=by obtain⟨mA,O,r,_,_,_⟩:=jJ I.h_ e;have hn:mA m=none:=HV.none_of (by rw[<-l];exact r m);exact wF I.Hb O (c.get m) k.at_ k.fn hn h
theorem oA{Q:Unit->Shared->Prop}(I:Inv X pins σ H s)(e:H a=some (.ins C dx fs))(c:Nl X.K C)(n:A_ X.K C f)(hl:fs.length<1000)(ry:RelV y u)(h:∀s',Inv X pins σ (upd H a (.ins C dx (eG f y fs))) s'->Q () s'):wpAny (model X.prog X.w) A (setAttr (.ref a) f u) Q E s:=by
 obtain⟨mA,O,r,wi,_,ho⟩:=jJ I.h_ e;have hz:(fs.map (·.1)).length<=sizeLine:=by rw[aad,ac4];lia
 refine yV I.Hb O c.sa c.po n.Vk c.hd wi hz λh' O' sb=>h _ ?_;have hd:∃o,h'.get? dx=some o:=let⟨o,_,_,e',_⟩:=O'.ns;⟨o,e'⟩
 refine I.write (x:=a) (e:=dx) (by rw[e];exact True.intro) (.inr ho) (λb q hb z=>(sb.2 b hb).trans z) hd ?_;refine⟨by rw[aw O.ne];exact ho,?_,O.ne,O'.obj,_,O'.ns,λg=>?_,λg hg=>?_⟩
 ·have:=eC f y fs;lia
 ·show HV ((eG f y fs).lookup g) (if g=f then some u else mA g);rw[bb];by_cases q:g=f
  ·rw[aaX q,aaX q];exact ry
  ·rw[aaK q,aaK q];exact r g
 ·by_cases q:g=f
  ·rw[q];exact(ia f y fs).1
  ·refine(ia f y fs).2 g (wi g λz=>hg ?_);show(if g=f then some u else mA g)=none;rw[aaK q];exact z
def Inv.made(I:Inv X pins σ H s):Inv X pins σ (upd (upd H s.heap.objs.size (.own (s.heap.objs.size+1))) (s.heap.objs.size+1) (.ins C s.heap.objs.size []))
 { s with heap:=(s.heap.push PySem.W.emptyDict).push (PySem.W.instObj C s.heap.objs.size) }:=by
 have e1:(s.heap.push PySem.W.emptyDict).get? s.heap.objs.size=some PySem.W.emptyDict:=aax s.heap rfl;have e2:((s.heap.push PySem.W.emptyDict).push (PySem.W.instObj C s.heap.objs.size)).get? (s.heap.objs.size+1)=some (PySem.W.instObj C s.heap.objs.size):=by have:=aax (s.heap.push PySem.W.emptyDict) (o:=PySem.W.instObj C s.heap.objs.size) rfl;rwa [abu]at this
 have e3:(s.heap.push PySem.W.emptyDict).Ns s.heap.objs.size (λ_=>none):=⟨PySem.W.emptyDict,#[],_,e1,rfl,(λe he=>absurd he (by simp)),λ_=>rfl⟩
 have I1:=I.laid (a:=s.heap.objs.size) (o:=.own (s.heap.objs.size+1)) (h':=s.heap.push PySem.W.emptyDict) (t':=s.toks) (λb u q=>aag _ q) (aam _) ⟨_,e1⟩;refine I1.laid (a:=s.heap.objs.size+1) (o:=.ins C s.heap.objs.size []) (t':=s.toks) (λb u q=>aag _ q) (Nat.le_of_eq (abu _ _)) ?_;have ne:s.heap.objs.size≠s.heap.objs.size+1:=aaY (ada _);refine⟨by rw[aw ne,aa],aa8 _,ne,e2,λ_=>none,(Heap.Ns1.of_empty e3).at λo q=>aag _ q,λ_=>True.intro,λy hy=>absurd rfl hy⟩
def AY{prog:Program}{env:Env}{f:Str}{pos:Pos}{s:Shared}(hb:attributeBase e f env (eval e env)=eval e env)(h:wpAny (model prog w) A (eval e env) (λo i7=>wpAny (model prog w) A (getAttr o f true) Q E i7) E s):wpAny (model prog w) A (eval (.Attribute e f pos) env) Q E s:=
 Attribute_any_ h (by rw[arm_eval_Attribute,hb])
end
def FJ(K:W.Frag)(ta:TE)(f:Str):TE:=λσ H Q=>ta σ H λx H1=>∃a C dx fs v,x=.ref a/\H1 a=some (.ins C dx fs)/\Nl K C/\A_ K C f/\fs.lookup f=some v/\Q v H1
def FM(K:W.Frag)(ta tv:TE)(f:Str):TS:=λD σ H=>tv σ H λy H1=>ta σ H1 λx H2=>∃a C dx fs,x=.ref a/\H2 a=some (.ins C dx fs)/\Nl K C/\A_ K C f/\fs.length<1000 /\
 D.nx σ (upd H2 a (.ins C dx (eG f y fs)))
section
variable{X:Cx}{o e value:Expr}{f:Str}{pos pos' Iz:Pos}{ta tv:TE}
def CW(he:PE X e ta)(hb:attributeBase e f X.env (eval e X.env)=eval e X.env):PE X (.Attribute e f pos) (FJ X.K ta f):=by intro pins s σ H Q I h;refine AY hb (j9 (he pins s σ H _ I h) λu s1 ⟨x,H1,I1,rx,a,C,dx,fs,v,ex,ea,c,n,l,q⟩=>?_);subst ex;obtain rfl:u=Value.ref a:=rx;exact qk I1 ea c n l λu' s2 I2 ru=>⟨v,H1,I2,ru,q⟩
def CO(ha:PE X o ta)(hv:PE X value tv)(hs:swapsWith value (some (.Attribute o f pos')) pos.line X.env=pure false):PS X (.Assign [.Attribute o f pos'] value pos) (FM X.K ta tv f):=by intro pins s σ H D I h;refine plainObj_wpAny_Assign_Attribute (j9 (hv pins s σ H _ I h) λu s1 ⟨y,H1,I1,ry,q⟩=>j9 (ha pins s1 σ H1 _ I1 q) λov s2 ⟨x,H2,I2,rx,a,C,dx,fs,ex,ea,c,n,l,q2⟩=>?_) hs;subst ex;obtain rfl:ov=Value.ref a:=rx;exact oA I2 ea c n l ry λs3 I3=>⟨σ,_,I3,q2⟩
end
section
variable{X:Cx}{pins:List (Addr×Obj)}{σ:St}{H:Hp}{s:Shared}{A:Around}{E Q:Value->Shared->Prop}{c:Value}{b:Bool}
inductive qw(K:W.Frag)(H:Hp):V->Value->Prop where
 |o_:qw K H .o_ (.type "NoneType")
 |bl (x:Bool):qw K H (.bl x) (.type "bool")
 |int (i:Int):qw K H (.int i) (.type "int")
 |str (x:Str):qw K H (.str x) (.type "str")
 |Uq (x:UInt64):qw K H (.Uq x) (.type "float")
 |lst {a:Addr} {xs:List V} (e:H a=some (.lst xs)):qw K H (.ref a) (.type "list")
 |LV {a:Addr} {o:Obj} {xs:List V} (e:H a=some (.LV o (.lst xs))):qw K H (.ref a) (.type "list")
 |tup {a:Addr} {xs:List V} (e:H a=some (.tup xs)):qw K H (.ref a) (.type "tuple")
 |dK {a:Addr} {e_:List (Key×V)} (e:H a=some (.dK e_)):qw K H (.ref a) (.type "dict")
 |dT {a:Addr} {e_:List (List Key×V)} (e:H a=some (.dT e_)):qw K H (.ref a) (.type "dict")
 |ins {a C dx:Addr} {fs:List (Str×V)} (e:H a=some (.ins C dx fs)) (cl:Nl K C) (ha:PySem.W.findIn K (.ref C) "__class__" = some (some (.builtin "object.__class__")))
  (hn:PySem.W.specialIn K (.builtin "object.__class__") "__get__" = some (some (.builtin "getset_descriptor.__get__"))) (htk:PySem.W.takesIn K (.builtin "object.__class__")=some true)
  (hm:PySem.W.mroIn K C (.type "object")=some true):qw K H (.ref a) (.ref C)
theorem sX{x:V}{t:Value}(I:Inv X pins σ H s)(rx:RelV x u)(ty:qw X.K H x t)(e:PySem.W.kitOne X.K t c=some b)(h:∀tk,Q (.bool b) { s with toks:=tk }):
 wpAny (model X.prog X.w) A (call (.builtin "isinstance") [u,c]) Q E s:=by
 cases ty with
 |o_=>cases(show u=Value.none from rx);exact abn PySem.W.kitx_none I.Hb True.intro e (λz=>nomatch z) h
 |bl y=>cases(show u=Value.bool y from rx);exact abn PySem.W.kitx_bool I.Hb True.intro e (λz=>nomatch z) h
 |int i=>obtain⟨t,q⟩:=(show∃t,u=Value.int i t from rx);cases q;exact abn PySem.W.kitx_int I.Hb True.intro e (λz=>nomatch z) h
 |str y=>obtain⟨t,q⟩:=(show∃t,u=Value.str y t from rx);cases q;exact abn PySem.W.kitx_str I.Hb True.intro e (λz=>nomatch z) h
 |Uq y=>obtain⟨t,q⟩:=(show∃t,u=Value.float y t from rx);cases q;exact abn PySem.W.kitx_float I.Hb True.intro e (λz=>nomatch z) h
 |@lst a xs ea=>
  cases(show u=Value.ref a from rx);obtain⟨_,_,n,_,h1⟩:=(show j5 X.prog X.w H s.heap a (.lst xs)from I.h_ a _ ea)
  exact abn PySem.W.kitx_list I.Hb ⟨_,h1,rfl⟩ e (λz=>nomatch z) h
 |@LV a ob xs ea=>
  cases(show u=Value.ref a from rx);obtain⟨_,_,_,n,_,h1⟩:=(show j5 X.prog X.w H s.heap a (.LV ob (.lst xs))from I.h_ a _ ea)
  exact abn PySem.W.kitx_list I.Hb ⟨_,h1,rfl⟩ e (λz=>nomatch z) h
 |@tup a xs ea=>
  cases(show u=Value.ref a from rx);obtain⟨_,_,_,p⟩:=(show j5 X.prog X.w H s.heap a (.tup xs)from I.h_ a _ ea)
  obtain⟨o,h1,h2,_⟩:=p;exact abn PySem.W.kitx_tuple I.Hb ⟨o,h1,h2⟩ e (λz=>nomatch z) h
 |@dK a e_ ea=>
  cases(show u=Value.ref a from rx);obtain⟨_,_,vs,_,p⟩:=(show j5 X.prog X.w H s.heap a (.dK e_)from I.h_ a _ ea)
  obtain⟨o,es,ep,h1,h2,_⟩:=p;exact abn PySem.W.kitx_dict I.Hb ⟨o,h1,h2.1⟩ e (λz=>nomatch z) h
 |@dT a e_ ea=>
  cases(show u=Value.ref a from rx);obtain⟨_,_,xs,_,o,es,ep,h1,h2,_⟩:=(show j5 X.prog X.w H s.heap a (.dT e_)from I.h_ a _ ea)
  exact abn PySem.W.kitx_dict I.Hb ⟨o,h1,h2.1⟩ e (λz=>nomatch z) h
 |@ins a C dx fs ea cl ha hn htk hm=>
  cases(show u=Value.ref a from rx);obtain⟨mA,O,_⟩:=jJ I.h_ ea;obtain⟨od,J,_⟩:=O.look;exact abn (PySem.W.kitx_own (cl.get _) cl.hd ha hn htk hm) I.Hb J e (λz=>nomatch z) h
end
structure o5(k:Nat)(A:Around):Prop where
 hd:A.handled=none
 dp:A.depth+3*k+5<recursionLimit
 un:A.units+16*k+200<cLine
 gd:A.guards=some []
theorem o5.mono(r:o5 k A)(h:j<=k):o5 j A:=⟨r.hd,by have:=r.dp;lia,by have:=r.un;lia,r.gd⟩
theorem o5.deeper{k:Nat}{A:Around}(r:o5 (k+1) A)(env:Env):o5 k (A.deeper env):=
 ⟨r.hd,by have:=r.dp;show A.depth+1+3*k+5<_;lia,by have:=r.un;show A.units+3+16*k+200<_;lia,by first|exact r.gd|(show pushGuards _ A.guards=_;rw[r.gd];rfl)⟩
variable{kw:List (Str×Value)}
def qb:(A.under (.builtin "type.__call__" ⟨.ref C::us,kw⟩)).depth=A.depth+1:=by first|rfl|simp[Around.under,Code.weight,Code.isCreation,Code.isGuard,Code.isCaller,Code.frames,Code.isFrame,guardIds]
def qa:(A.under (.builtin "type.__call__" ⟨.ref C::us,kw⟩)).units=A.units+1:=by first|rfl|simp[Around.under,Code.cUnits,Code.frames,Code.isFrame]
def lX(h:A.guards=some []):(A.under (.builtin "type.__call__" ⟨.ref C::us,kw⟩)).guards=some []:=by
 have e:(Code.builtin "type.__call__" ⟨.ref C::us,kw⟩).guards=[]:=by
  unfold Code.guards;have:(Code.builtin "type.__call__" ⟨.ref C::us,kw⟩).isGuard=false:=by first|rfl|decide +kernel|simp[Code.isGuard,guardIds]
  rw[this];rfl
 unfold Around.under;simp only[e,h];rfl
theorem o5.make(r:o5 (k+1) A)(C:Addr)(us:List Value)(kw:List (Str×Value)):o5 k (A.under (.builtin "type.__call__" ⟨.ref C::us,kw⟩)):=
 ⟨r.hd,by have:=r.dp;rw[qb];lia,by have:=r.un;rw[qa];lia,lX r.gd⟩
theorem o5.depth{k:Nat}{A:Around}(r:o5 k A):A.depth<recursionLimit:=by have:=r.dp;lia
theorem o5.units{k:Nat}{A:Around}(r:o5 k A):A.units+64<cLine:=by have:=r.un;lia
noncomputable def KJ:TA:=λ_ H Q=>Q [] H
noncomputable def m6(ta:TE)(tr:TA):TA:=λσ H Q=>ta σ H λx H1=>tr σ H1 λxs H2=>Q (x::xs) H2
section
variable{X:Cx}{e:Expr}{es:List Expr}{te:TE}{t:TA}{pos:Pos}
def Tc:PA X [] KJ:=λ_ _ _ _ H Q I h=>abL ⟨[],H,I,.nil,h⟩
def cx(ha:PE X e te)(hr:PA X es t)(hs:starEach (e::es) X.env=(false,eval e X.env)::starEach es X.env:=by rfl):PA X (e::es) (m6 te t):=by intro pos pins s σ H Q I h;rw[hs];show wpAny _ _ (spliced ((false,eval e X.env)::backTo pos (starEach es X.env))) _ _ s;refine abv (j9 (ha pins s σ H _ I h) λu s1 ⟨x,H1,I1,r1,q1⟩=>?_);exact j9 (hr pos pins s1 σ H1 _ I1 q1) λus s2 ⟨xs,H2,I2,r2,q2⟩=>⟨x::xs,H2,I2,.cons r1 r2,q2⟩
def Vl(t:TA):TE:=λσ H Q=>t σ H λxs H1=>xs.length<=sizeLine/\∀p,H1 p=none->Q (.ref p) (upd H1 p (.tup xs))
def Vp(t:TA):TE:=λσ H Q=>t σ H λxs H1=>xs.length<=sizeLine/\∀p,H1 p=none->Q (.ref p) (upd H1 p (.lst xs))
def S5{x1}(h:PA X es t):PE X (.Tuple es x1 pos) (Vl t):=by intro pins s σ H Q I hq;refine wpAny_Tuple_spliced (j9 (h pos pins s σ H _ I hq) λus s1 ⟨xs,H1,I1,r,z,q⟩=>⟨by rw[<-r.length];exact z,?_⟩);have hf:H1 s1.heap.objs.size=none:=I1.h_.fresh (aam _);refine⟨.ref s1.heap.objs.size,upd H1 s1.heap.objs.size (.tup xs),I1.laid (t':=s1.toks) (λb u e=>aag _ e) (aam _) ?_,rfl,q _ hf⟩;exact⟨⟨z,Nh.new _ _ rfl⟩,us,r,⟨_,aax _ rfl,rfl,_,rfl⟩⟩
def S9(h:PA X es t):PE X (.List es pos) (Vp t):=by intro pins s σ H Q I hq;refine wpAny_List_spliced (j9 (h pos pins s σ H _ I hq) λus s1 ⟨xs,H1,I1,r,z,q⟩=>⟨by rw[<-r.length];exact z,?_⟩);have hf:H1 s1.heap.objs.size=none:=I1.h_.fresh (aam _);refine⟨.ref s1.heap.objs.size,upd H1 s1.heap.objs.size (.lst xs),I1.laid (t':=s1.toks) (λb u e=>aag _ e) (aam _) ?_,rfl,q _ hf⟩;exact⟨z,us,0,r,aax _ rfl⟩
end
abbrev Sp:=List V->Hp->VK->XK->Prop
abbrev Md:=List Env->Hp->Shared->XK->Value->Shared->Prop
structure Mc(P:Program)(w:World)(K:W.Frag)(mg:Str->Option Value)(base:Heap)(A:Around)(outer:List Env)(s:Shared)(H:Hp):Prop where
 frames:A.frames=some outer
 mod:Mod K mg base
 bs:∀b o,base.get? b=some o->s.heap.get? b=some o/\H b=none
 P1:base.objs.size<=s.heap.objs.size
 HP:s.heap.FunFrames base outer
 RH:∀b∈u_ outer,H b=none
 h_:G8 P w H s.heap
 bare:AllBare s.gens
def CE(outer:List Env)(P:Program)(w:World)(H:Hp)(s:Shared)(Q:VK)(u:Value)(s':Shared):Prop:=
 ∃v H',s'.os=s.os/\AllBare s'.gens/\Un (u_ outer) [] H H' s.heap s'.heap/\G8 P w H' s'.heap/\RelV v u/\Q v H'
def CR(CX:Md)(outer:List Env)(P:Program)(w:World)(H:Hp)(s:Shared)(Q:VK)(E:XK)(r:Result)(s':Shared):Prop:=
 match r with
 |.ok (.ret u)=>CE outer P w H s Q u s'
 |.ok _=>False
 |.error e=>CX outer H s E e s'
structure d9(P:Program)(w:World)(K:W.Frag)(mg:Str->Option Value)(base:Heap)(CX:Md)(k:Nat)(f:Addr)(fd:FuncData)(ps:List Str)(sp:Sp):Prop where
 len:∀vs H Q E,sp vs H Q E->vs.length=ps.length
 run:∀(A:Around)(outer:List Env)(s:Shared)(H:Hp)(args:Args)(us:List Value)(vs:List V)(Q:VK)(E:XK),o5 k A->Mc P w K mg base A outer s H->BindsTo s fd args (ps.zip us)->Vals vs us->sp vs H Q E ->
  codeAny (model P w) A (.call (.ref f) args) (CR CX outer P w H s Q E) s
theorem d9.mono{P:Program}{w:World}{K:W.Frag}{mg:Str->Option Value}{base:Heap}{CX:Md}{j k:Nat}{f:Addr}{fd:FuncData}{ps:List Str}{sp:Sp}(F:d9 P w K mg base CX j f fd ps sp)(h:j<=k):
 d9 P w K mg base CX k f fd ps sp:=⟨F.len,λA outer s H args us vs Q E hr=>F.run A outer s H args us vs Q E (hr.mono h)⟩
variable{mg:Str->Option Value}{outer:List Env}{base:Heap}
def Mc.make(e:Mc P w K mg base A outer s H)(C:Addr)(us:List Value)(kw:List (Str×Value)):
 Mc P w K mg base (A.under (.builtin "type.__call__" ⟨.ref C::us,kw⟩)) outer s H:=⟨by first|exact e.frames|(simpa [Around.under,Code.envs,Code.isFrame,pushEnvs]using e.frames),e.mod,e.bs,e.P1,e.HP,e.RH,e.h_,e.bare⟩
section
variable{X:Cx}{pins:List (Addr×Obj)}{σ:St}{H:Hp}{s s':Shared}
def Inv.Us(I:Inv X pins σ H s):Mc X.prog X.w X.K X.mg X.base X.A X.stack s H:=
 ⟨I.ok.frames,I.ok.mod,I.bs,abb I.ok.P1 I.sz,I.stack,I.G6,I.h_,I.bare⟩
def Inv.after{Q:VK}(I:Inv X pins σ H s)(h:CE X.stack X.prog X.w H s Q u s'):EP X pins σ Q u s':=by obtain⟨v,H',os,bare,un,h_,r,q⟩:=h;obtain⟨hh,g,d,t,os'⟩:=s';obtain rfl:os'=s.os:=os;exact⟨v,H',I.call (h':=hh) (g':=g) (d':=d) (t':=t) (ch:=[]) un h_ bare (λb z=>absurd z (by simp)),r,q⟩
end
def Q8(sp:Sp)(Hl:List V)(E:XK)(t:TA):TE:=λσ H Q=>t σ H λvs H1=>sp (vs++Hl) H1 Q E
def uJ(C:Addr)(m:Str)(sp:Sp)(Hl:List V)(E:XK)(ta:TE)(t:TA):TE:=λσ H Q=>ta σ H λx H1=>∃a dx fs,x=.ref a/\H1 a=some (.ins C dx fs)/\fs.lookup m=none /\
 t σ H1 λvs H2=>sp (x::(vs++Hl)) H2 Q E
def Bw(C:Addr)(sp:Sp)(Hl:List V)(E:XK)(t:TA):TE:=λσ H Q=>t σ H λvs H1=>∀x dx,H1 x=none->H1 dx=none->dx≠x ->
 sp (.ref x::(vs++Hl)) (upd (upd H1 dx (.own x)) x (.ins C dx [])) (λv H2=>v=.o_/\Q (.ref x) H2) E
def Binds(K:W.Frag)(fd:FuncData)(ps:List Str)(ds:List Value):Prop:=
 ∀(s:Shared)(us:List Value),K.In s.heap->(us++ds).length=ps.length->BindsTo s fd ⟨us,[]⟩ (ps.zip (us++ds))
variable{ps:List Str}
def Binds.all{fd:FuncData}(h:∀us:List Value,us.length=ps.length->bindArgs fd ⟨us,[]⟩=pure (ps.zip us)):Binds K fd ps []:=λs us _ hl=>by rw[aaW]at hl⊢;exact .of_eq (h us hl)
def cY(CX:Md)(X:Cx)(E:XK):Prop:=∀(pins:List (Addr×Obj))(σ:St)(H:Hp)(s:Shared)(e:Value)(s':Shared),Inv X pins σ H s->CX X.stack H s E e s'->X.xe e s'
variable{vs:List V}
section
variable{X:Cx}{CX:Md}{k:Nat}{f C:Addr}{fd:FuncData}{ps:List Str}{sp:Sp}{Hl:List V}{ds:List Value}{E:XK}{x m:Str}{p pos apos:Pos}{e o:Expr}{es:List Expr}{ta:TE}{t:TA}
theorem rE{Q:VK}(F:d9 X.prog X.w X.K X.mg X.base CX k f fd ps sp)(hr:o5 k X.A)(hb:Binds X.K fd ps ds)(hd:Vals Hl ds)(hx:cY CX X E)(I:Inv X pins σ H s)(r:Vals vs us)(h:sp (vs++Hl) H Q E):wpAny (model X.prog X.w) X.A (call (.ref f) us) (EP X pins σ Q) X.xe s:=by
 have r2:Vals (vs++Hl) (us++ds):=r.append hd;have hl:(us++ds).length=ps.length:=by rw[<-r2.length];exact F.len _ _ _ _ h
 refine wpAny_call (acP (F.run X.A X.stack s H ⟨us,[]⟩ (us++ds) (vs++Hl) Q E hr I.Us (hb s us I.Hb hl) r2 h) λr s' hq=>?_);cases r with
 |error e=>exact hx pins σ H s e s' I hq
 |ok fl=>
  cases fl with
  |ret u=>exact I.after hq
  |next=>exact False.elim hq
  |brk=>exact False.elim hq
  |cont=>exact False.elim hq
def Qq(F:d9 X.prog X.w X.K X.mg X.base CX k f fd ps sp)(hr:o5 k X.A)(hg:Gl X x)(hm:X.mg x=some (.ref f))(hk:PySem.W.keepIn X.K (.ref f)=true)(hb:Binds X.K fd ps ds)(hd:Vals Hl ds)(hx:cY CX X E)(ha:PA X (e::es) t)(J2:(x == ("__debug__" : Str))=false:=by decide)(he:starEach (e::es) X.env=(false,eval e X.env)::starEach es X.env:=by rfl)(HY:(backTo pos (starEach es X.env)).any (·.1)=false:=by rfl):
 PE X (.Call (.Name x p) (e::es) [] pos) (Q8 sp Hl E t):=by
 intro pins s σ H Q I h;refine ab0 (fO I hg hm ?_ J2);refine ac0 (h₀:=X.base) I.ok.mod.UX hk (j9 (ha pos pins s σ H _ I h) λus s1 ⟨vs,H1,I1,r,q⟩=>⟨I1.Hb,?_⟩) he HY;exact rE F hr hb hd hx I1 r q
def zk{pl:Sem Bool}(he:PE X o ta)(c:Nl X.K C)(hm:qC X.K C m f)(F:d9 X.prog X.w X.K X.mg X.base CX k f fd ps sp)(hr:o5 k X.A)(hb:Binds X.K fd ps ds)(hd:Vals Hl ds)(hx:cY CX X E)(ha:PA X (e::es) t)(B5:starEach (e::es) X.env=(false,eval e X.env)::starEach es X.env:=by rfl)(HY:(backTo pos (starEach es X.env)).any (·.1)=false:=by rfl)(ht:eval (.Call (.Attribute o m apos) (e::es) [] pos) X.env=(do
 let ov <- eval o X.env
 standAt apos.atName
 let(f,first) <- holding [ov] (getMethod ov m pl)
 callWith pos f first (backTo pos (starEach (e::es) X.env)) (backToKw pos (keywordEach [] X.env))):=by rfl):
 PE X (.Call (.Attribute o m apos) (e::es) [] pos) (uJ C m sp Hl E ta t):=by
 intro pins s σ H Q I h;refine adR (pl:=pl) (j9 (he pins s σ H _ I h) λu s1 ⟨x,H1,I1,rx,a,dx,fs,ex,ea,l,q⟩=>?_) ht;subst ex;obtain rfl:u=Value.ref a:=rx;refine jd I1 ea c hm l ?_;refine ac0 (first:=[.ref a]) (h₀:=X.base) I.ok.mod.UX hm.kp (j9 (ha pos pins s1 σ H1 _ I1 q) λus s2 ⟨vs,H2,I2,r,q2⟩=>⟨I2.Hb,?_⟩) B5 HY;exact rE (us:=.ref a::us) (vs:=.ref a::vs) F hr hb hd hx I2 (.cons rfl r) q2
def vq{pl:Sem Bool}(he:PE X o ta)(c:Nl X.K C)(hm:qC X.K C m f)(F:d9 X.prog X.w X.K X.mg X.base CX k f fd ps sp)(hr:o5 k X.A)(hb:Binds X.K fd ps ds)(hd:Vals Hl ds)(hx:cY CX X E)(ht:eval (.Call (.Attribute o m apos) [] [] pos) X.env=(do
 let ov <- eval o X.env
 standAt apos.atName
 let(f,first) <- holding [ov] (getMethod ov m pl)
 callWith pos f first (backTo pos (starEach [] X.env)) (backToKw pos (keywordEach [] X.env))):=by rfl):
 PE X (.Call (.Attribute o m apos) [] [] pos) (uJ C m sp Hl E ta KJ):=by
 intro pins s σ H Q I h;refine adR (pl:=pl) (j9 (he pins s σ H _ I h) λu s1 ⟨x,H1,I1,rx,a,dx,fs,ex,ea,l,q⟩=>?_) ht;subst ex;obtain rfl:u=Value.ref a:=rx;refine jd I1 ea c hm l ?_;exact PySem.W.callWith_K0 (first:=[.ref a]) I1.Hb hm.kp (rE (us:=[.ref a]) (vs:=[.ref a]) F hr hb hd hx I1 (.cons rfl .nil) q)
structure Mk(K:W.Frag)(C f:Addr):Prop where
 makes:PySem.W.makesIn K C=true
 init:PySem.W.findIn K (.ref C) "__init__" = some (some (.ref f))
 fn:PySem.W.isFn K (.ref f)=true
 kp:PySem.W.keepIn K (.ref C)=true
theorem uW{Q:VK}(M:Mk X.K C f)(F:d9 X.prog X.w X.K X.mg X.base CX k f fd ps sp)(hr:o5 (k+1) X.A)(hb:Binds X.K fd ps ds)(hd:Vals Hl ds)(hx:cY CX X E)(I:Inv X pins σ H s)(r:Vals vs us)(h:∀x dx,H x=none->H dx=none->dx≠x->sp (.ref x::(vs++Hl)) (upd (upd H dx (.own x)) x (.ins C dx [])) (λv H2=>v=.o_/\Q (.ref x) H2) E):
 wpAny (model X.prog X.w) X.A (call (.ref C) us) (EP X pins σ Q) X.xe s:=by
 have hq:=h (s.heap.objs.size+1) s.heap.objs.size (I.h_.fresh (aca _)) (I.h_.fresh (aam _)) (aaY (ada _));have I2:=Inv.made (C:=C) I;have r2:Vals (V.ref (s.heap.objs.size+1)::(vs++Hl)) (Value.ref (s.heap.objs.size+1)::(us++ds)):=.cons rfl (r.append hd);have hl:(Value.ref (s.heap.objs.size+1)::us++ds).length=ps.length:=by have e:=r2.length;rw[F.len _ _ _ _ hq]at e;exact e.symm
 refine wpAny_call (vW (f:=f) I.Hb M.makes M.init (beq_iff_eq.mp M.fn) (acP (F.run _ X.stack _ _ ⟨Value.ref (s.heap.objs.size+1)::us,[]⟩ (Value.ref (s.heap.objs.size+1)::(us++ds)) _ _ E (hr.make C us [])
  (I2.Us.make C us []) (hb _ (Value.ref (s.heap.objs.size+1)::us) I2.Hb hl) r2 hq) λr s' WC=>?_))
 cases r with
 |error e=>exact hx pins σ _ _ e s' I2 WC
 |ok fl=>
  cases fl with
  |ret u=>
   obtain⟨v,H',I3,rv,ev,q3⟩:=I2.after WC;subst ev;exact⟨rv,⟨V.ref (s.heap.objs.size+1),H',I3,rfl,q3⟩⟩
  |next=>exact False.elim WC
  |brk=>exact False.elim WC
  |cont=>exact False.elim WC
def vt(M:Mk X.K C f)(F:d9 X.prog X.w X.K X.mg X.base CX k f fd ps sp)(hr:o5 (k+1) X.A)(hg:Gl X x)(hm:X.mg x=some (.ref C))(hb:Binds X.K fd ps ds)(hd:Vals Hl ds)(hx:cY CX X E)(J2:(x == ("__debug__" : Str))=false:=by decide):PE X (.Call (.Name x p) [] [] pos) (Bw C sp Hl E KJ):=by intro pins s σ H Q I h;refine ab0 (fO I hg hm ?_ J2);exact PySem.W.callWith_K0 I.Hb M.kp (uW (us:=[]) M F hr hb hd hx I .nil h)
end
structure aJ(N P:List Str)(sc:Scope):Prop where
 kind:sc.kind=.function:=by exact rfl
 co:sc.isCoroutine=false:=by exact rfl
 gen:sc.isGenerator=false:=by exact rfl
 nd:N.Nodup:=by decide +kernel
 pre:N.take P.length=P:=by exact rfl
 par:∀x∈P,sc.names.lookup x=some .local\/sc.names.lookup x=some .cell:=by decide +kernel
 Th:∀y∈sc.names,y.2≠.free:=by decide +kernel
theorem lq{kindOf:Str->Option NameKind}{x:Str}:∀{binds:List (Str×Value)}{m:Str->Option Value},(∀v,(x,v)∉binds)->bindL kindOf binds m x=m x
 |[],_,_=>rfl
 |(n,v)::r,m,h=>by
  unfold bindL;rw[lq λw hw=>h w (aah _ hw)];split
  ·have:x≠n:=by rintro rfl;exact h v aap
   simp[this]
  ·rfl
theorem lB{kindOf:Str->Option NameKind}{x:Str}:∀{binds:List (Str×Value)}{m:Str->Option Value},(∀v,(x,v)∉binds)->bindC kindOf binds m x=m x
 |[],_,_=>rfl
 |(n,v)::r,m,h=>by
  unfold bindC;rw[lB λw hw=>h w (aah _ hw)];split
  ·rfl
  ·have:x≠n:=by rintro rfl;exact h v aap
   simp[this]
theorem lA{kindOf:Str->Option NameKind}{x:Str}{v:Value}:∀{P:List Str}{vs:List Value}{i:Nat}{m:Str->Option Value},P.Nodup->P[i]?=some x->vs[i]?=some v->kindOf x=some .local ->
 bindL kindOf (P.zip vs) m x=some v
 |[],_,_,_,_,h,_,_=>by simp at h
 |_::_,[],_,_,_,_,h,_=>by simp at h
 |p::P,w::vs,0,m,nd,h1,h2,hk=>by
  simp at h1 h2;subst h1;subst h2;show bindL kindOf ((p,w)::P.zip vs) m p=_;unfold bindL;rw[lq λv hv=>(List.nodup_cons.mp nd).1 (adp hv).1,aaX hk];simp
 |p::P,w::vs,i+1,m,nd,h1,h2,hk=>by show bindL kindOf ((p,w)::P.zip vs) m x=_;unfold bindL;exact lA (i:=i) (List.nodup_cons.mp nd).2 (by simpa using h1) (by simpa using h2) hk
theorem lC{kindOf:Str->Option NameKind}{x:Str}{v:Value}:∀{P:List Str}{vs:List Value}{i:Nat}{m:Str->Option Value},P.Nodup->P[i]?=some x->vs[i]?=some v->kindOf x≠some .local ->
 bindC kindOf (P.zip vs) m x=some v
 |[],_,_,_,_,h,_,_=>by simp at h
 |_::_,[],_,_,_,_,h,_=>by simp at h
 |p::P,w::vs,0,m,nd,h1,h2,hk=>by
  simp at h1 h2;subst h1;subst h2;show bindC kindOf ((p,w)::P.zip vs) m p=_;unfold bindC;rw[lB λv hv=>(List.nodup_cons.mp nd).1 (adp hv).1,aaK hk];simp
 |p::P,w::vs,i+1,m,nd,h1,h2,hk=>by show bindC kindOf ((p,w)::P.zip vs) m x=_;unfold bindC;exact lC (i:=i) (List.nodup_cons.mp nd).2 (by simpa using h1) (by simpa using h2) hk
noncomputable def start(N:List Str)(vs:List V):St:=vs.map some++List.replicate (N.length-vs.length) none
noncomputable def cq(CX:Md)(P:Program)(w:World)(K:W.Frag)(mg:Str->Option Value)(base:Heap)(N:List Str)(qual:Str)(scope:Scope)(f:Addr)(cd:Value)(A:Around)(outer:List Env)(s:Shared)(H:Hp)(E:XK):Cx where
 prog:=P
 w:=w
 K:=K
 mg:=mg
 base:=base
 A:=A.deeper (envOfC qual scope s.heap.objs.size f cd)
 N:=N
 s₀:=s
 H₀:=H
 env:=envOfC qual scope s.heap.objs.size f cd
 outer:=outer
 stack:=envOfC qual scope s.heap.objs.size f cd::outer
 ex:=[]
 calm:=true
 fn:=λ_=>true
 pn:=[]
 xe:=λe s'=>wpAny (model P w) (A.deeper (envOfC qual scope s.heap.objs.size f cd)) (leaving (envOfC qual scope s.heap.objs.size f cd) e) (λ_ He=>CX outer H s E e He) (λe' He=>CX outer H s E e' He) s'
def nW{sc:Scope}(h:sc.names.lookup x=some .cell):∃c,(cellsFrom n sc.names []).lookup x=some c:=by have q:=adI sc.names n [] (.inl h);exact Option.isSome_iff_exists.mp q
theorem tf{CX:Md}{qual:Str}{scope:Scope}{f:Addr}{cd:Value}{s1:Shared}{E:XK}(S:aJ N ps scope)(hd:A.handled=none)(e0:Mc P w K mg base A outer s H)(hl:vs.length=ps.length)(r:Vals vs us)(x:InCallC s s.heap.objs.size (bindL (envOfC qual scope s.heap.objs.size f cd).kindOf (ps.zip us) λ_=>none) (cellsFrom (s.heap.objs.size+1) scope.names []) (bindC (envOfC qual scope s.heap.objs.size f cd).kindOf (ps.zip us) λ_=>none) s1):
 Inv (cq CX P w K mg base N qual scope f cd A outer s H E) [] (start N vs) H s1:=by
 have HY:ps.length<=N.length:=by have:=aaN List.length S.pre;rw[aaD]at this;lia
 obtain⟨h1,tk,rfl,hk⟩:=x.done;have VM:∀b:Addr,b∉(cq CX P w K mg base N qual scope f cd A outer s H E).ex:=λb z=>absurd (show b∈([]:List Addr)from z) (by simp);refine⟨⟨e0.mod,S.kind,rfl,rfl,aam _,λy z c h1 h2=>?_,λy hy=>?_,λy c _ h=>?_,λ_=>hd,Around.frames_deeper e0.frames,.inr ⟨rfl,rfl⟩,λb z=>absurd z (VM b),e0.bs,e0.P1,λb _ _=>VM b,λb z=>absurd z (VM b),e0.HP,e0.RH⟩,
  rfl,e0.bare,Un.kept hk,⟨_,x.toInCall.ns,λi y v h1 h2 h3=>?_⟩,λy c h=>⟨_,x.cell y c h⟩,e0.h_.fresh (aam _),λy c h=>?_,λp hp=>absurd (show p∈([]:List (Addr×Obj))from hp) (by simp),e0.h_.kept hk,?_⟩
 ·exact name_of_addr x.apart (abh h1) (abh h2)
 ·have hy:scope.names.lookup y=some .cell\/scope.names.lookup y=some .free:=hy;rcases hy with hy|hy
  ·exact nW hy
  ·exact absurd rfl (S.Th _ (abh hy))
 ·exact ac7 (x.above y c (abh h))
 ·have hi:i<vs.length:=by
   unfold start at h2;by_cases hi:i<vs.length
   ·exact hi
   ·rw[aaz (by simpa using hi)]at h2;rw[abT]at h2;split at h2<;>cases h2
  have ha:vs[i]?=some v:=by
   unfold start at h2;rw[aa4 (by simpa using hi),aaI]at h2;cases e:vs[i]? with
   |none=>rw[e]at h2;cases h2
   |some a=>rw[e]at h2;cases h2;rfl
  obtain⟨u,hu,rv⟩:=r.get ha;have hp:ps[i]?=some y:=by rw[<-S.pre,List.getElem?_take_of_lt (by lia)];exact h1
  have ndP:ps.Nodup:=by rw[<-S.pre];exact S.nd.sublist (List.take_sublist _ _)
  refine⟨u,rv,?_⟩;rcases S.par y (aak hp)with k|k
  ·exact .inl ⟨k,lA ndP hp hu k⟩
  ·obtain⟨c,e⟩:=nW (n:=s.heap.objs.size+1) k;refine .inr ⟨.inl k,c,e,?_⟩;have q:=x.cell y c e;rw[lC ndP hp hu (by show scope.names.lookup y≠_;rw[k];decide)]at q;exact q
 ·exact e0.h_.fresh (ac7 (x.above y c (abh h)))
 ·unfold start;show _=N.length;rw[aaa,aad,aa5]
  lia
theorem DP{CX:Md}{P:Program}{w:World}{K:W.Frag}{mg:Str->Option Value}{base:Heap}{k:Nat}{f:Addr}{name qual:Str}{params:Arguments}{body:List Stmt}{scope:Scope}{dV kV doc pm j8 ct oc:Value}{an od:Option Addr}{PV:Array (Option Value)}{N ps:List Str}{sp:Sp}(lk:K.lookup f=some ⟨oc,od,.func (PySem.W.fnOf name qual params body scope dV kV doc pm an j8 ct),PV⟩)(LS:PySem.W.codeIn K j8 qual=true)(S:aJ N ps scope)(len:∀vs H Q E,sp vs H Q E->vs.length=ps.length)(IX:∀(A:Around) (outer:List Env) (s:Shared) (H:Hp) (vs:List V) (Q:VK) (E:XK),o5 k (A.deeper (envOfC qual scope s.heap.objs.size f j8))->sp vs H Q E ->
 ∃t,Le (cq CX P w K mg base N qual scope f j8 A outer s H E) body t/\t { nx:=λ_ H'=>Q .o_ H',rt:=Q } (start N vs) H):
 d9 P w K mg base CX (k+1) f (PySem.W.fnOf name qual params body scope dV kV doc pm an j8 ct) ps sp:=by
 refine⟨len,λA outer s H args us vs Q E hr e0 hb r Lc=>?_⟩;have hl:=len _ _ _ _ Lc;have KX:K.In s.heap:=e0.mod.UX.keeps λb o e=>(e0.bs b o e).1;have lim:s.heap.NoLimit:=e0.mod.nolimit.keeps λb o e=>(e0.bs b o e).1;have WO:∀y∈ps.zip us,scope.names.lookup y.1=some .local\/(scope.names.lookup y.1=some .cell/\((cellsFrom (s.heap.objs.size+1) scope.names []).lookup y.1).isSome=true):=λ⟨n,v⟩ hy=>by
  rcases S.par n (adp hy).1 with q|q
  ·exact .inl q
  ·exact .inr ⟨q,adI _ _ _ (.inl q)⟩
 refine codeAny_call_function hr.depth (KX _ _ lk) rfl S.co S.gen rfl (PySem.W.codeRec_of KX LS) (hb _ _ _ _ ?_);refine wpAny_newFunctionEnv_cells S.kind WO λenv he s1 x=>?_;subst he;refine⟨lim.keeps x.toInCall.keep,codeAny_func ?_⟩;obtain⟨t,ht,hq⟩:=IX A outer s H vs Q E (hr.deeper _) Lc;have I:Inv (cq CX P w K mg base N qual scope f j8 A outer s H E) [] (start N vs) H s1:=tf S hr.hd e0 hl r x;refine abP (ht [] s1 (start N vs) H _ I hq) (λfl s' hs=>?_) λe s' hs=>hs;have fin:∀{l_:St}{H':Hp}{v:V}{u:Value},Inv (cq CX P w K mg base N qual scope f j8 A outer s H E) [] l_ H' s'->RelV v u->Q v H'->CE outer P w H s Q u s':=
  λ{l_ H' v u} J rv q=>⟨v,H',J.os,J.bare,J.base,J.h_,rv,q⟩
 cases fl with
 |ret u=>
  obtain⟨v,l_,H',J,rv,q⟩:=hs;exact fin J rv q
 |next=>
  obtain⟨l_,H',J,q⟩:=hs;exact fin (v:=V.o_) (u:=Value.none) J rfl q
 |brk=>
  obtain⟨_,_,_,q⟩:=hs;exact False.elim q
 |cont=>
  obtain⟨_,_,_,q⟩:=hs;exact False.elim q
section
variable{X:Cx}{x:Str}{p pos:Pos}{e:Expr}{es:List Expr}{t:TA}{id T:String}{r:List V->Hp->VK->Prop}
def Zz(r:List V->Hp->VK->Prop)(t:TA):TE:=λσ H Q=>t σ H λvs H1=>r vs H1 Q
def NY(hc:t4 X (.builtin id) r)(hg:Gl X x)(hm:X.mg x=none)(hv:bootBuiltins x=some (.builtin id))(ha:PA X (e::es) t)(hn:x ≠ "__name__":=by decide)(J2:(x == ("__debug__" : Str))=false:=by decide)(he:starEach (e::es) X.env=(false,eval e X.env)::starEach es X.env:=by rfl)(HY:(backTo pos (starEach es X.env)).any (·.1)=false:=by rfl):PE X (.Call (.Name x p) (e::es) [] pos) (Zz r t):=by intro pins s σ H Q I h;refine ab0 (dG I hg hm hv ?_ hn J2);exact PyProof.Rows.callWith_builtin1 (j9 (ha pos pins s σ H _ I h) λus s1 ⟨vs,H1,I1,r1,q1⟩=>hc pins s1 σ H1 vs us Q I1 r1 q1) he HY
def MT(hc:t4 X (.type T) r)(hg:Gl X x)(hm:X.mg x=none)(hv:bootBuiltins x=some (.type T))(ha:PA X (e::es) t)(hn:x ≠ "__name__":=by decide)(J2:(x == ("__debug__" : Str))=false:=by decide)(he:starEach (e::es) X.env=(false,eval e X.env)::starEach es X.env:=by rfl)(HY:(backTo pos (starEach es X.env)).any (·.1)=false:=by rfl):PE X (.Call (.Name x p) (e::es) [] pos) (Zz r t):=by intro pins s σ H Q I h;refine ab0 (dG I hg hm hv ?_ hn J2);exact aba (j9 (ha pos pins s σ H _ I h) λus s1 ⟨vs,H1,I1,r1,q1⟩=>hc pins s1 σ H1 vs us Q I1 r1 q1) he HY
end
end L2
namespace HT
open PySem PyProof.Rows
section
open PySem.SeqAt
open PySem.AutoSeq1 (wpAny_loadPart')
open PySem.MeetsSeq PySem.MeetsSeq2 PySem.MeetsSeq3
end
section
variable{prog:Program}{w:World}{A:Around}{E:Value->Shared->Prop}{s:Shared}
theorem QV{t b:Addr}{vs ws:List Value}{Q:Value->Shared->Prop}(ht:IsTup s.heap t vs.toArray)(hb:IsTup s.heap b ws.toArray)(hv:vs≠[])(h1:ws=[]->Q (.ref t) s)(h2:ws≠[]->Q (.ref s.heap.objs.size) { s with heap:=s.heap.push { cls:=.type "tuple",data:=.seq (vs++ws).toArray } })(M_:vs.length+ws.length<=sizeLine):wpAny (model prog w) A (binaryOp .Add (.ref t) (.ref b)) Q E s:=by
 obtain⟨⟨cls,dd,data,sl⟩,ho,hc,n,hd⟩:=id ht;obtain⟨⟨cls2,_1,data2,UL⟩,QH,W6,n2,hd2⟩:=id hb;simp only at hc hd W6 hd2;subst hc hd W6 hd2;have e:vs.toArray++ws.toArray=(vs++ws).toArray:=by simp
 by_cases hw:ws=[]
 ·exact concat_meets ⟨_,ho,rfl⟩ ⟨_,QH,rfl⟩ adC seq_tuple_add acy acv (acp _ _)
   (tuple_addW1 t b vs.toArray ws.toArray n n2 dd _1 sl UL (by simpa using hv) (by simp[hw])) ⟨ho,QH,h1 hw⟩
 ·refine concat_meets ⟨_,ho,rfl⟩ ⟨_,QH,rfl⟩ adC seq_tuple_add acy acv (acp _ _)
   (tuple_addW2 t b vs.toArray ws.toArray n n2 dd _1 sl UL (by simpa using hv) (by simpa using hw) (by rw[aaA,aaA];exact M_)) ⟨ho,QH,?_⟩
  rw[e];exact h2 hw
noncomputable def KN(n d:Nat):Option Int->Nat
 |none=>d
 |some v=>if v<0 then(v+(n:Int)).toNat else min v.toNat n
def Hy(n d:Nat):KN n d none=d:=rfl
theorem Io(n d k:Nat):KN n d (some (k:Int))=min k n:=by show(if(k:Int)<0 then((k:Int)+(n:Int)).toNat else min (k:Int).toNat n)=min k n;rw[aaK (by lia),aco]
end
end HT
namespace L2
open PySem PySem.Spec PyProof.Rows
abbrev TO:=St->Hp->(Option Int->Hp->Prop)->Prop
def PO(X:Cx)(e:Option Expr)(t:TO):Prop:=
 ∀(pins:List (Addr×Obj))(s:Shared)(σ:St)(H:Hp)(Q:Option Int->Hp->Prop),Inv X pins σ H s->t σ H Q ->
  wpAny (model X.prog X.w) X.A (evalPart e X.env) (λu s'=>∃o H',Inv X pins σ H' s'/\IsPart u o/\Q o H') X.xe s
noncomputable def Mi:TO:=λ_ H Q=>Q none H
noncomputable def Q4(t:TE):TO:=λσ H Q=>t σ H λx H1=>∃i,x=.int i/\Q (some i) H1
theorem qi{ns:List Int}:∀{us:List Value},Vals (ns.map V.int) us->IntsAre us ns:=by
 induction ns with
 |nil=>intro us r;rw[abJ]at r;cases r;exact .nil
 |cons n ns ih=>
  intro us r;rw[aaV]at r;cases r with
  |cons r1 r2=>
   obtain⟨t,e⟩:=r1;subst e;exact .cons n t (ih r2)
variable{xs:List V}
section
variable{X:Cx}{e:Expr}{te:TE}{lo hi:Option Expr}{tl th:TO}{pos p2:Pos}
def Qi:PO X none Mi:=by intro pins s σ H Q I h;rw[evalPart_none];exact aaR ⟨none,H,I,.none,h⟩
def Qh(h:PE X e te):PO X (some e) (Q4 te):=by intro pins s σ H Q I hw;rw[evalPart_some];refine j9 (h pins s σ H _ I hw) λu s1 ⟨x,H1,I1,r1,q1⟩=>?_;obtain⟨i,rfl,q⟩:=q1;obtain⟨t,rfl⟩:=r1;exact⟨some i,H1,I1,.int i t,q⟩
def _7(X:Cx)(r:V->Option Int->Option Int->Hp->VK->Prop):Prop:=
 ∀(pins:List (Addr×Obj))(s:Shared)(σ:St)(H:Hp)(x:V)(v vl vu:Value)(lo hi:Option Int)(sl:Addr)(Q:VK),Inv X pins σ H s->RelV x v->s.heap.IsSliceOf sl vl vu .none->IsPart vl lo->IsPart vu hi->r x lo hi H Q ->
  ∃T id,typeLookup (.type T) "__getitem__" = pure (some (.builtin id))/\s.TypeIs v T/\wpAny (model X.prog X.w) X.A (getItem v (.ref sl)) (EP X pins σ Q) X.xe s
def tSl(r:V->Option Int->Option Int->Hp->VK->Prop)(te:TE)(tl th:TO):TE:=λσ H Q=>te σ H λx H1=>tl σ H1 λl H2=>th σ H2 λu H3=>r x l u H3 Q
def NW{r:V->Option Int->Option Int->Hp->VK->Prop}(hr:_7 X r)(he:PE X e te)(hl:PO X lo tl)(hu:PO X hi th):PE X (.Subscript e (.Slice lo hi none p2) pos) (tSl r te tl th):=by intro pins s σ H Q I h;refine Subscript_ (j9 (he pins s σ H _ I h) λv s1 ⟨x,H1,I1,r1,q1⟩=>?_);refine wpAny_Slice (j9 (hl pins s1 σ H1 _ I1 q1) λvl s2 ⟨l,H2,I2,pl,q2⟩=>j9 (hu pins s2 σ H2 _ I2 q2) λvu s3 ⟨u,H3,I3,pu,q3⟩=>?_);rw[evalPart_none];refine aaR ?_;have I4:Inv X pins σ H3 { s3 with heap:=s3.heap.push { cls:=.type "slice",data:=.fields #[vl,vu,.none] } }:=I3.kept (t':=s3.toks) λb ob q=>aag _ q;obtain⟨T,id,hT,ht,hg⟩:=hr pins { s3 with heap:=s3.heap.push { cls:=.type "slice",data:=.fields #[vl,vu,.none] } } σ H3 x v vl vu l u s3.heap.objs.size Q I4 r1 (Heap.IsSliceOf.new ..) pl pu q3;show wpAny (model X.prog X.w) X.A (subscriptTail e (.Slice lo hi none p2) v (.ref s3.heap.objs.size)) (EP X pins σ Q) X.xe { s3 with heap:=s3.heap.push { cls:=.type "slice",data:=.fields #[vl,vu,.none] } };exact tail_any (ops:=[.ref s3.heap.objs.size,v]) ht hT hg (by with_unfolding_all rfl)
noncomputable def kZ(xs:List V)(lo hi:Option Int):List V:=(xs.drop (HT.KN xs.length 0 lo)).take (HT.KN xs.length xs.length hi-HT.KN xs.length 0 lo)
theorem mq(xs:List V)(lo hi:Option Int):(kZ xs lo hi).length<=xs.length:=by
 unfold kZ;rw[aaD,abe]
 lia
noncomputable def EV(K:W.Frag):R2:=λx y H Q=>∃a b xs ys,x=.ref a/\y=.ref b/\k_ K H a xs/\k_ K H b ys/\xs≠[]/\xs.length+ys.length<=sizeLine /\
 (ys=[]->Q (.ref a) H)/\(ys≠[]->∀p,H p=none->Q (.ref p) (upd H p (.tup (xs++ys))))
theorem Vals.J0{us:List Value}(r:Vals xs us):us=[]↔xs=[]:=by
 cases r with
 |nil=>simp
 |cons _ _=>simp
def zq:GK X (binaryOp .Add) (EV X.K):=by intro pins s σ H x y v u Q I rx ry h;obtain⟨a,b,xs,ys,rfl,rfl,ha,hb,hx,hz,q1,q2⟩:=h;cases rx;cases ry;obtain⟨d7,r1,p1,_⟩:=I.tuple ha;obtain⟨Oe,r2,p2,_⟩:=I.tuple hb;refine HT.QV p1 p2 (λz=>hx (r1.J0.mp z)) (λz=>⟨.ref a,H,I,rfl,q1 (r2.J0.mp z)⟩) (λz=>?_) (by rw[<-r1.length,<-r2.length];exact hz);refine⟨.ref s.heap.objs.size,_,I.laid (t':=s.toks) (o:=.tup (xs++ys)) (λb ob q=>aag _ q) (aam _) ?_,rfl,q2 (λw=>z (r2.J0.mpr w)) _ (I.h_.fresh (aam _))⟩;exact⟨⟨by rw[aaa];exact hz,Nh.new _ _ rfl⟩,_,r1.append r2,IsTup.new _ _⟩
end
noncomputable def M8(n:Nat)(i:Int):Option Nat:=if 0<=i then(if i<n then some i.toNat else none)else if -(n:Int)<=i then some (i+n).toNat else none
variable{α:Type}
noncomputable def y6(xs:List α)(i:Int):Option α:=(M8 xs.length i).bind λj=>xs[j]?
variable{n j:Nat}{i:Int}
theorem sV(h:M8 n i=some j):seqIndex? i n=some j/\j<n/\-(n:Int)<=i/\i<n:=by
 unfold M8 at h;by_cases h0:0<=i
 ·rw[aaX h0]at h;by_cases h1:i<n
  ·rw[aaX h1]at h;have e:i.toNat=j:=aaq h;exact⟨by rw[seqIndex_of h0 h1,e],by lia,by lia,h1⟩
  ·rw[aaK h1]at h;cases h
 ·rw[aaK h0]at h;by_cases h1:-(n:Int)<=i
  ·rw[aaX h1]at h;have e:(i+n).toNat=j:=aaq h;exact⟨by rw[adt (by lia) h1,e],by lia,h1,by lia⟩
  ·rw[aaK h1]at h;cases h
theorem jX{xs:List α}{v:α}(h:y6 xs i=some v):∃j,seqIndex? i xs.length=some j/\xs[j]?=some v/\j<xs.length/\-(xs.length:Int)<=i/\i<xs.length:=by
 unfold y6 at h;cases e:M8 xs.length i with
 |none=>rw[e]at h;cases h
 |some j=>
  rw[e]at h;obtain⟨h1,h2,h3,h4⟩:=sV e;exact⟨j,h1,h,h2,h3,h4⟩
theorem bY{xs:List α}{v:α}(h:xs[j]?=some v):y6 xs (j:Int)=some v:=by
 have hj:j<xs.length:=(List.getElem?_eq_some_iff.mp h).1;have e:M8 xs.length (j:Int)=some j:=by unfold M8;rw[aaX (by lia),aaX (by lia)];simp
 unfold y6;rw[e];exact h
theorem oa(xs:List α)(v:α):y6 (xs++[v]) (-1)=some v:=by
 have hl:(xs++[v]).length=xs.length+1:=by simp
 have e:M8 (xs++[v]).length (-1)=some xs.length:=by
  unfold M8;rw[hl,aaK (by decide),aaX (by lia)];congr 1
  lia
 unfold y6;rw[e];show(xs++[v])[xs.length]?=some v;simp
def uv(b:Expr):Prop:=∀o i,subscripted b false o i=operate [o,i] (getItem o i)
def UB(X:Cx)(r:R2):Prop:=
 ∀(value slice:Expr)(pins:List (Addr×Obj))(s:Shared)(σ:St)(H:Hp)(x y:V)(v u:Value)(Q:VK),Inv X pins σ H s->RelV x v->RelV y u->r x y H Q ->
  subscripted slice false v u=operate [v,u] (getItem v u)->wpAny (model X.prog X.w) X.A (subscriptTail value slice v u) (EP X pins σ Q) X.xe s
def QY(X:Cx)(id:String)(r:V->List V->Hp->VK->Prop):Prop:=
 ∀(pins:List (Addr×Obj))(s:Shared)(σ:St)(H:Hp)(x:V)(xs:List V)(v:Value)(us:List Value)(Q:VK),Inv X pins σ H s->RelV x v->Vals xs us->r x xs H Q ->
  wpAny (model X.prog X.w) X.A (call (.builtin id) (v::us)) (EP X pins σ Q) X.xe s
variable{pins:List (Addr×Obj)}{d7 its':List Value}{s:Shared}{u v:Value}{x:V}{σ:St}{H:Hp}
section
variable{X:Cx}{a b:Expr}{ta tb:TE}{pos:Pos}
def VH{r:R2}(hr:UB X r)(ha:PE X a ta)(hb:PE X b tb)(hs:uv b):PE X (.Subscript a b pos) (Q5 r ta tb):=by intro pins s σ H Q I h;exact Subscript_ (Fq ha hb I h λv u s2 x y H2 I2 rx ry q=>hr a b pins s2 σ H2 x y v u Q I2 rx ry q (hs _ _))
noncomputable def FP(K:W.Frag):R2:=λx y H Q=>∃p xs i v,x=.ref p/\y=.int i/\c_ K H p xs/\y6 xs i=some v/\Q v H
noncomputable def FO(K:W.Frag):R2:=λx y H Q=>∃p xs i v,x=.ref p/\y=.int i/\k_ K H p xs/\y6 xs i=some v/\Q v H
noncomputable def Gu:R2:=λx y H Q=>∃z i c,x=.str z/\y=.int i/\z.length<=sizeLine/\y6 z.cps.toList i=some c/\Q (.str ⟨#[c]⟩) H
theorem aE:UB X (FP X.K):=by
 intro value slice pins s σ H x y v u Q I rx ry h hs;obtain⟨p,xs,i,z,rfl,rfl,hq,he,q⟩:=h;cases rx;obtain⟨t,rfl⟩:=ry;obtain⟨d7,r,pl,hz⟩:=I.list hq;obtain⟨j,h1,h2,h3,h4,h5⟩:=jX he;obtain⟨w,ew,Ih⟩:=r.get h2;have hl:=r.length;have hn:=fW;have fin:EP X pins σ Q w s:=⟨z,H,I,Ih,q⟩
 by_cases h0:0<=i
 ·have hj:i.toNat=j:=by
   rw[seqIndex_of h0 h5]at h1;exact aaq h1
  exact item_listR pl.isList h0 (by lia) (by rw[hj];simpa using ew) fin hs
 ·have hj:(i+(d7.toArray.size:Int)).toNat=j:=by
   rw[adt (by lia) h4]at h1;rw[aaA,<-hl];exact aaq h1
  exact subscriptTail_builtinR (x:=w) pl.isList.typeIs slot_list_getitem.lookup
   (wpAny_getItem_list_neg (Q:=λr s'=>r=w/\EP X pins σ Q r s') pl.isList (by lia) (by rw[aaA]<;>lia) (by lia) (by rw[hj];simpa using ew) ⟨rfl,fin⟩) hs
theorem dX:UB X (FO X.K):=by
 intro value slice pins s σ H x y v u Q I rx ry h hs;obtain⟨p,xs,i,z,rfl,rfl,hq,he,q⟩:=h;cases rx;obtain⟨t,rfl⟩:=ry;obtain⟨d7,r,pl,hz⟩:=I.tuple hq;obtain⟨j,h1,h2,h3,h4,h5⟩:=jX he;obtain⟨w,ew,Ih⟩:=r.get h2;have hl:=r.length;have hn:=fW;have fin:EP X pins σ Q w s:=⟨z,H,I,Ih,q⟩
 exact subscriptTail_builtinR (x:=w) pl.typeIs slot_tuple_getitem.lookup
  (getItem_tuple (j:=j) (Q:=λr s'=>r=w/\EP X pins σ Q r s') pl (by lia) (by lia) (by rw[aaA,<-hl];exact h1) (by simpa using ew) ⟨rfl,fin⟩) hs
theorem fq:UB X Gu:=by
 intro value slice pins s σ H x y v u Q I rx ry h hs;obtain⟨z,i,c,rfl,rfl,hz,he,q⟩:=h;obtain⟨t,rfl⟩:=rx;obtain⟨t',rfl⟩:=ry;obtain⟨j,h1,h2,h3,h4,h5⟩:=jX he;have hl:z.cps.toList.length=z.length:=by simp[Str.length]
 rw[hl]at h1 h4 h5;have hn:=fW;exact tail_any (acs s z t) slot_str_getitem.lookup (getItem_str (c:=c) (by
  have e1:decide (i < -(2 ^ 63:Int))=false:=aaH (by lia);have e2:decide (i>=2 ^ 63)=false:=aaH (by lia);rw[e1,e2,Bool.or_false]) (by rw[h1];simpa using h2) ⟨.str ⟨#[c]⟩,H,I.tok _,⟨_,rfl⟩,q⟩) hs
def pZ(d7:List Value)(n j:Nat)(u:Value):Obj.mapSeq (·.setIfInBounds j u) { cls:=.type "list",data:=.seq d7.toArray n }={ cls:=.type "list",data:=.seq (d7.set j u).toArray n }:=by simp[Obj.mapSeq]
theorem Inv.lst{pins:List (Addr×Obj)}{σ:St}{H:Hp}{s:Shared}{p:Addr}{xs:List V}(I:Inv X pins σ H s)(h:H p=some (.lst xs)):
 ∃(d7:List Value)(n:Nat),Vals xs d7/\s.heap.get? p=some { cls:=.type "list",data:=.seq d7.toArray n }/\xs.length<=sizeLine:=by
 obtain⟨z,d7,n,r,e⟩:=I.h_ p _ h;exact⟨d7,n,r,e,z⟩
def Inv.Tj{p:Addr}{ys:List V}{n':Nat}{f:Obj->Obj}(I:Inv X pins σ H s)(h:H p=some (.lst xs))(ho:s.heap.get? p=some { cls:=.type "list",data:=.seq d7.toArray n })(hf:f { cls:=.type "list",data:=.seq d7.toArray n }={ cls:=.type "list",data:=.seq its'.toArray n' })(r:Vals ys its')(hz:ys.length<=sizeLine)(t:Nat):
 Inv X pins σ (upd H p (.lst ys)) { s with heap:=s.heap.update p f,toks:=t }:=by
 have e:(s.heap.update p f).get? p=some { cls:=.type "list",data:=.seq its'.toArray n' }:=by rw[acd f ho (by rw[hf]<;>rfl),hf]
 refine I.write (x:=p) (e:=p) (by rw[h];trivial) (.inl rfl) (λb u hb q=>(abD _ _ (abw hb)).trans q) ⟨_,e⟩ ?_;exact⟨hz,its',n',r,e⟩
def ER:V->V->V->Hp->(Hp->Prop)->Prop:=λo i v H Q=>∃p xs k j,o=.ref p/\i=.int k/\H p=some (.lst xs)/\M8 xs.length k=some j/\Q (upd H p (.lst (xs.set j v)))
theorem uS:FD X ER:=by
 intro pins s σ H o i v ov iv u Q I ro ri rv h;obtain⟨p,xs,k,j,rfl,rfl,hp,hj,q⟩:=h;cases ro;obtain⟨t,rfl⟩:=ri;obtain⟨d7,n,r,ho,hz⟩:=I.lst hp;obtain⟨h1,h2,h3,h4⟩:=sV hj;have hl:=r.length;have hn:=fW;have I':Inv X pins σ (upd H p (.lst (xs.set j v))) { s with heap:=s.heap.update p (Obj.mapSeq (·.setIfInBounds j u)) }:=
  I.Tj hp ho (pZ d7 n j u) (r.set rv j) (by rw[List.length_set];exact hz) s.toks
 by_cases h0:0<=k
 ·have hk:k.toNat=j:=by
   rw[seqIndex_of h0 h4]at h1;exact aaq h1
  exact PySem.W.ki_setAt ho h0 (by lia) (by rw[aaA,<-hl];exact h4) (by rw[hk];exact⟨_,I',q⟩)
 ·have hk:(k+(d7.toArray.size:Int)).toNat=j:=by
   rw[adt (by lia) h3]at h1;rw[aaA,<-hl];exact aaq h1
  exact PySem.W.ki_setBack ho (by lia) (by rw[aaA,<-hl];exact h3) (by lia) (by rw[hk];exact⟨_,I',q⟩)
theorem kh(lo hi:Option Int)(n:Nat):(sliceBounds lo hi none n).1=((HT.KN n 0 lo:Nat):Int)/\(sliceBounds lo hi none n).2.1=((HT.KN n n hi:Nat):Int)/\(sliceBounds lo hi none n).2.2=1:=by
 refine⟨?_,?_,rfl⟩
 ·cases lo with
  |none=>simp[sliceBounds,HT.KN]
  |some i=>
   simp only[sliceBounds,HT.KN,Option.getD_none,show(1:Int)>0 by decide,acx];by_cases h:i<0
   ·simp only[h,acx]<;>lia
   ·simp only[h,if_false]<;>lia
 ·cases hi with
  |none=>simp[sliceBounds,HT.KN]
  |some i=>
   simp only[sliceBounds,HT.KN,Option.getD_none,show(1:Int)>0 by decide,acx];by_cases h:i<0
   ·simp only[h,acx]<;>lia
   ·simp only[h,if_false]<;>lia
def jj(d7:List Value)(lo hi:Option Int):slicePick d7.toArray lo hi none=((d7.drop (HT.KN d7.length 0 lo)).take (HT.KN d7.length d7.length hi-HT.KN d7.length 0 lo)).toArray:=by obtain⟨h1,h2,h3⟩:=kh lo hi d7.toArray.size;unfold slicePick;rw[h1,h2,h3];simp only[sliceRange_one,pick_run,aaA]<;>rfl
def Gp(K:W.Frag):V->Option Int->Option Int->Hp->VK->Prop:=λx lo hi H Q=>∃a xs,x=.ref a/\c_ K H a xs/\∀p,H p=none->Q (.ref p) (upd H p (.lst (kZ xs lo hi)))
theorem bT:_7 X (Gp X.K):=by intro pins s σ H x v vl vu lo hi sl Q I rx hs pl pu h;obtain⟨a,xs,rfl,hx,q⟩:=h;cases rx;obtain⟨d7,r,ht,hz⟩:=I.list hx;have hlen:=r.length;refine⟨"list",_,slot_list_getitem.lookup,ht.isList.typeIs,?_⟩;refine wpAny_getItem_list_slice ht.isList hs pl pu .none (by simp) ?_ (by rw[aaA]<;>lia);rw[jj,<-hlen];refine⟨.ref s.heap.objs.size,_,I.laid (t':=s.toks) (o:=.lst (kZ xs lo hi)) (λb ob q=>aag _ q) (aam _) ?_,rfl,q _ (I.h_.fresh (aam _))⟩;exact⟨abb (mq xs lo hi) hz,_,0,(r.drop (HT.KN xs.length 0 lo)).take (HT.KN xs.length xs.length hi-HT.KN xs.length 0 lo),aax _ rfl⟩
noncomputable def iI:V->Bool
 |.o_=>true
 |.bl _=>true
 |.int _=>true
 |.str _=>true
 |_=>false
noncomputable def Ng:V->V->Bool
 |.o_,.o_=>true
 |.bl a,.bl b=>a == b
 |.bl a,.int b=>(if a then 1 else 0) == b
 |.int a,.bl b=>a == (if b then 1 else 0)
 |.int a,.int b=>a == b
 |.str a,.str b=>a == b
 |_,_=>false
theorem ya{A:Around}{y:V}(ry:RelV y u)(rx:RelV x v)(fy:iI y=true)(fx:iI x=true):SeqAt.EqAt A s u v (Ng y x):=by
 cases y with
 |o_=>
  cases ry;cases x with
  |o_=>cases rx;exact adJ _
  |bl b=>cases rx;exact SeqAt.EqAt.none_bool b
  |int b=>obtain⟨t,rfl⟩:=rx;exact SeqAt.EqAt.none_int b t
  |str b=>obtain⟨t,rfl⟩:=rx;exact SeqAt.EqAt.none_str b t
  |_=>exact absurd (show false=true from fx) aaw
 |bl a=>
  cases ry;cases x with
  |o_=>cases rx;exact SeqAt.EqAt.bool_none a
  |bl b=>cases rx;exact SeqAt.EqAt.bool_bool a b
  |int b=>obtain⟨t,rfl⟩:=rx;exact SeqAt.EqAt.bool_int a b t
  |str b=>obtain⟨t,rfl⟩:=rx;exact SeqAt.EqAt.bool_str a b t
  |_=>exact absurd (show false=true from fx) aaw
 |int a=>
  obtain⟨t',rfl⟩:=ry;cases x with
  |o_=>cases rx;exact SeqAt.EqAt.int_none a t'
  |bl b=>cases rx;exact SeqAt.EqAt.int_bool a t' b
  |int b=>obtain⟨t,rfl⟩:=rx;exact SeqAt.EqAt.int_int a t' b t
  |str b=>obtain⟨t,rfl⟩:=rx;exact SeqAt.EqAt.int_str a t' b t
  |_=>exact absurd (show false=true from fx) aaw
 |str a=>
  obtain⟨t',rfl⟩:=ry;cases x with
  |o_=>cases rx;exact SeqAt.EqAt.str_none a t'
  |bl b=>cases rx;exact SeqAt.EqAt.str_bool a t' b
  |int b=>obtain⟨t,rfl⟩:=rx;exact SeqAt.EqAt.str_int a t' b t
  |str b=>obtain⟨t,rfl⟩:=rx;exact SeqAt.EqAt.str_str a t' b t
  |_=>exact absurd (show false=true from fx) aaw
 |_=>exact absurd (show false=true from fy) aaw
noncomputable def LW(x:V)(u:Value):Bool:=match u with
 |.none=>Ng .o_ x
 |.bool b=>Ng (.bl b) x
 |.int i _=>Ng (.int i) x
 |.str z _=>Ng (.str z) x
 |_=>false
theorem xZ{y:V}(r:RelV y u)(f:iI y=true):LW x u=Ng y x:=by
 cases y with
 |o_=>cases r;rfl
 |bl b=>cases r;rfl
 |int i=>obtain⟨t,rfl⟩:=r;rfl
 |str z=>obtain⟨t,rfl⟩:=r;rfl
 |_=>exact absurd (show false=true from f) aaw
theorem iB{x:V}:∀{xs:List V}{us:List Value},Vals xs us->xs.all iI=true->us.any (LW x)=xs.any λy=>Ng y x
 |_,_,.nil,_=>rfl
 |y::xs,u::us,.cons r t,f=>by rw[adG,aaU]at f;rw[acq,acq,xZ r f.1,iB t f.2]
theorem fc{A:Around}{s:Shared}{x:V}{v:Value}(rx:RelV x v)(fx:iI x=true):∀{xs:List V}{us:List Value},Vals xs us->xs.all iI=true->∀u∈us,SeqAt.EqAt A s u v (LW x u)
 |_,_,.nil,_=>λu hu=>by cases hu
 |y::xs,u::us,.cons r t,f=>λu' hu=>by
  rw[adG,aaU]at f;rcases List.mem_cons.mp hu with rfl|hu
  ·rw[xZ r f.1];exact ya r rx f.1 fx
  ·exact fc rx fx t f.2 u' hu
noncomputable def Og(x:V)(xs:List V):Bool:=xs.any λy=>Ng y x
noncomputable def rIn(K:W.Frag)(neg:Bool):R2:=λx y H Q=>∃p xs,y=.ref p/\(c_ K H p xs\/k_ K H p xs)/\iI x=true/\xs.all iI=true/\Q (.bl (if neg then !Og x xs else Og x xs)) H
def rW:GK X (compareOp .In) (rIn X.K false):=by
 intro pins s σ H x y v u Q I rx ry h;obtain⟨p,xs,rfl,hq,fx,fs,q⟩:=h;cases ry;rcases hq with hq|hq
 ·obtain⟨d7,r,pl,hz⟩:=I.list hq;refine SeqAt.in_listAt (LW x) pl.isList (λw hw=>fc rx fx r fs w (by simpa using hw)) ⟨.bl _,H,I,rfl,?_⟩;rw[show d7.toArray.any (LW x)=d7.any (LW x)by simp,iB r fs];exact q
 ·obtain⟨d7,r,pl,hz⟩:=I.tuple hq;refine SeqAt.in_tupleAt (LW x) pl (λw hw=>fc rx fx r fs w (by simpa using hw)) ⟨.bl _,H,I,rfl,?_⟩;rw[show d7.toArray.any (LW x)=d7.any (LW x)by simp,iB r fs];exact q
def fU:GK X (compareOp .NotIn) (rIn X.K true):=by
 intro pins s σ H x y v u Q I rx ry h;obtain⟨p,xs,rfl,hq,fx,fs,q⟩:=h;cases ry;rcases hq with hq|hq
 ·obtain⟨d7,r,pl,hz⟩:=I.list hq;refine SeqAt.notIn_listAt (LW x) pl.isList (λw hw=>fc rx fx r fs w (by simpa using hw)) ⟨.bl _,H,I,rfl,?_⟩;rw[show d7.toArray.any (LW x)=d7.any (LW x)by simp,iB r fs];exact q
 ·obtain⟨d7,r,pl,hz⟩:=I.tuple hq;refine SeqAt.notIn_tupleAt (LW x) pl (λw hw=>fc rx fx r fs w (by simpa using hw)) ⟨.bl _,H,I,rfl,?_⟩;rw[show d7.toArray.any (LW x)=d7.any (LW x)by simp,iB r fs];exact q
theorem b8:t4 X (.builtin "len") (λxs H Q=>∃p ys,xs=[.ref p]/\(c_ X.K H p ys\/k_ X.K H p ys)/\Q (.int ys.length) H):=by
 intro pins s σ H xs us Q I r h;obtain⟨p,ys,rfl,hq,q⟩:=h;obtain⟨u,rfl,rx⟩:=oo r;cases rx;have hn:=fW;rcases hq with hq|hq
 ·obtain⟨d7,r',pl,hz⟩:=I.list hq;have hlen:=r'.length;exact Calls.call_len_list pl.isList (by simp only[aaA]<;>lia) ⟨.int ys.length,H,I.tok _,⟨s.toks+1,by rw[aaA,hlen]⟩,q⟩
 ·obtain⟨d7,r',pl,hz⟩:=I.tuple hq;have hlen:=r'.length;exact len_tuple pl (by simp only[aaA]<;>lia) ⟨.int ys.length,H,I.tok _,⟨s.toks+1,by rw[aaA,hlen]⟩,q⟩
theorem bC:t4 X (.builtin "len") (λxs H Q=>∃z,xs=[.str z]/\z.length<=sizeLine/\Q (.int z.length) H):=by intro pins s σ H xs us Q I r h;obtain⟨z,rfl,hz,q⟩:=h;obtain⟨u,rfl,t,rfl⟩:=oo r;have hn:=fW;exact len_str (by lia) ⟨.int z.length,H,I.tok _,⟨_,rfl⟩,q⟩
def t4.or{f:Value}{r r':List V->Hp->VK->Prop}(h:t4 X f r)(h':t4 X f r'):t4 X f (λxs H Q=>r xs H Q\/r' xs H Q):=by
 intro pins s σ H xs us Q I rs q;rcases q with q|q
 ·exact h pins s σ H xs us Q I rs q
 ·exact h' pins s σ H xs us Q I rs q
theorem bg:t4 X (.type "tuple") (λxs H Q=>∃p ys,xs=[.ref p]/\((c_ X.K H p ys/\∀l,H l=none->Q (.ref l) (upd H l (.tup ys)))\/(k_ X.K H p ys/\Q (.ref p) H))):=by
 intro pins s σ H xs us Q I r h;obtain⟨p,ys,rfl,h⟩:=h;obtain⟨u,rfl,rx⟩:=oo r;cases rx;rcases h with⟨hq,q⟩|⟨hq,q⟩
 ·obtain⟨d7,r',pl,hz⟩:=I.list hq;have hlen:=r'.length;refine call_tuple_list pl.isList (λh' kp=>?_) (by simp only[aaA]<;>lia);have I1:Inv X pins σ H { s with heap:=h' }:=I.kept (t':=s.toks) kp;have I2:Inv X pins σ (upd H h'.objs.size (.tup ys)) { s with heap:=h'.push { cls:=.type "tuple",data:=.seq d7.toArray } }:=
   I1.laid (t':=s.toks) (λb o e=>aag _ e) (aam _) (show j5 X.prog X.w _ _ _ (.tup ys)from⟨⟨hz,Nh.new _ _ rfl⟩,d7,r',IsTup.new _ _⟩)
  exact⟨.ref h'.objs.size,_,I2,rfl,q _ (I1.h_.fresh (aam _))⟩
 ·obtain⟨d7,r',pl,hz⟩:=I.tuple hq;exact call_tuple_same pl ⟨.ref p,H,I,rfl,q⟩
def tyV(K:W.Frag)(T:String)(x:V)(H:Hp):Prop:=match x with
 |.str _=>T = "str"
 |.int _=>T = "int"
 |.ref p=>(T = "list"/\∃xs,c_ K H p xs)\/(T = "tuple"/\∃o,K.lookup p=some o/\o.cls=.type "tuple"/\o.dict=none) \/
  (T = "dict"/\((∃e_,H p=some (.dK e_))\/∃e_,H p=some (.dT e_)))\/(T = "set"/\∃S n,H p=some (.set S n))
 |_=>False
theorem xj{T:String}(I:Inv X pins σ H s)(r:RelV x v)(ty:tyV X.K T x H):
 s.TypeIs v T/\∀a,v=.ref a->∃ob,s.heap.get? a=some ob/\ob.dict=none:=by
 cases x with
 |str z=>
  obtain⟨t,rfl⟩:=r;cases(show T = "str" from ty);exact⟨acs s z t,λ_ e=>nomatch e⟩
 |int i=>
  obtain⟨t,rfl⟩:=r;cases(show T = "int" from ty);exact⟨typeIs_int s i t,λ_ e=>nomatch e⟩
 |ref p=>
  cases r;rcases ty with⟨rfl,xs,hq⟩|⟨rfl,o,hk,hc,hd⟩|⟨rfl,hk⟩|⟨rfl,S,n,hk⟩
  ·obtain⟨d7,_,pl,_⟩:=I.list hq;refine⟨pl.isList.typeIs,λa e=>?_⟩;cases e;obtain⟨o,n,e,c,hd,_⟩:=pl;exact⟨o,e,hd⟩
  ·refine⟨⟨o,I.Hb p o hk,hc⟩,λa e=>?_⟩;cases e;exact⟨o,I.Hb _ o hk,hd⟩
  ·have z:∃o,s.heap.get? p=some o/\o.ExactDict:=by
    rcases hk with⟨e_,hk⟩|⟨e_,hk⟩
    ·obtain⟨_,_,_,_,o,_,_,e,ex,_⟩:=I.h_ p _ hk;exact⟨o,e,ex⟩
    ·obtain⟨_,_,_,_,o,_,_,e,ex,_⟩:=I.h_ p _ hk;exact⟨o,e,ex⟩
   obtain⟨o,e,ex⟩:=z;refine⟨⟨o,e,ex.1⟩,λa e2=>?_⟩;cases e2;exact⟨o,e,ex.2.1⟩
  ·obtain⟨o,_,_,_,e,ex,_⟩:=I.h_ p _ hk;refine⟨⟨o,e,ex.1⟩,λa e2=>?_⟩;cases e2;exact⟨o,e,ex.2.1⟩
 |_=>exact False.elim ty
def Vr(K:W.Frag)(T:String)(r:V->List V->Hp->VK->Prop)(to:TE):TE:=λσ H Q=>to σ H λx H1=>tyV K T x H1/\r x [] H1 Q
def tBM(K:W.Frag)(T:String)(r:V->List V->Hp->VK->Prop)(to:TE)(t:TA):TE:=λσ H Q=>to σ H λx H1=>tyV K T x H1/\t σ H1 λxs H2=>r x xs H2 Q
variable{o e:Expr}{es:List Expr}{to:TE}{t:TA}{name:Str}{apos g6:Pos}{T id:String}{r:V->List V->Hp->VK->Prop}
theorem Ta(pa:PlainAttrs T)(slot:Slot T name id)(Qy:typeOf (.builtin id)=pure (.type "method_descriptor"))(hm:QY X id r)(ho:PE X o to)(HA:attributeBase o name X.env (eval o X.env)=eval o X.env:=by rfl)(A6:(apos.endLine == g6.line)=true:=by rfl):PE X (.Call (.Attribute o name apos) [] [] g6) (Vr X.K T r to):=by intro pins s σ H Q I h;refine wpAny_Call_method0_late HA A6 (j9 (ho pins s σ H _ I h) λv s1 ⟨x,H1,I1,r1,ty,q1⟩=>?_);obtain⟨h1,h2⟩:=xj I1 r1 ty;exact⟨T,id,pa,slot,Qy,h1,h2,acS rfl (PySem.evalArgs_none (hm pins s1 σ H1 x [] v [] Q I1 r1 .nil q1))⟩
theorem VI(pa:PlainAttrs T)(slot:Slot T name id)(Qy:typeOf (.builtin id)=pure (.type "method_descriptor"))(hm:QY X id r)(ho:PE X o to)(ha:PA X (e::es) t)(HA:attributeBase o name X.env (eval o X.env)=eval o X.env:=by rfl)(Ov:((backTo g6 (starEach (e::es) X.env)).all (λx=>!x.1)&&(backToKw g6 (keywordEach [] X.env)).all (λx=>x.1.isSome)
 && decide ((e::es).length+([]:List Keyword).length+(if([]:List Keyword).isEmpty then 0 else 1)<30))=true:=by rfl)(A6:(apos.endLine == g6.line)=true:=by rfl)(hs:starEach (e::es) X.env=(false,eval e X.env)::starEach es X.env:=by rfl)(IU:(backTo g6 (starEach es X.env)).any (·.1)=false:=by rfl):
 PE X (.Call (.Attribute o name apos) (e::es) [] g6) (tBM X.K T r to t):=by
 intro pins s σ H Q I h;refine wpAny_Call_method_late HA Ov A6 rfl (j9 (ho pins s σ H _ I h) λv s1 ⟨x,H1,I1,r1,ty,q1⟩=>?_);obtain⟨h1,h2⟩:=xj I1 r1 ty;refine⟨T,id,pa,slot,Qy,h1,h2,?_⟩;have hA:=ha g6 pins s1 σ H1 _ I1 q1;rw[hs]at hA⊢;refine acS (by show(false||(backTo g6 (starEach es X.env)).any (·.1))=false;rw[IU]<;>rfl) (ac5 ?_);exact j9 hA λus s2 ⟨vs,H2,I2,r2,q2⟩=>hm pins s2 σ H2 x vs v us Q I2 r1 r2 q2
end
def MtM(X:Cx)(id:String)(r:V->List V->Hp->VK->Prop):Prop:=
 ∀(pins:List (Addr×Obj))(s:Shared)(σ:St)(H:Hp)(x:V)(xs:List V)(v:Value)(us:List Value)(Q:VK),Inv X pins σ H s->RelV x v->Vals xs us->r x xs H Q ->
  wpAny (model X.prog X.w) X.A (call (.builtin id) (v::us)) (EP X pins σ Q) X.xe s
theorem Vals.one:∀{x:V}{us:List Value},Vals [x] us->∃u,us=[u]/\RelV x u
 |_,_,.cons r .nil=>⟨_,rfl,r⟩
theorem Vals.zero:∀{us:List Value},Vals [] us->us=[]
 |_,.nil=>rfl
theorem Vals.dropLast{xs:List V}{us:List Value}(h:Vals xs us):Vals xs.dropLast us.dropLast:=by
 induction h with
 |nil=>exact .nil
 |cons r t ih=>
  cases t with
  |nil=>exact .nil
  |cons q t'=>exact .cons r ih
theorem Vals.reverse{xs:List V}{us:List Value}(h:Vals xs us):Vals xs.reverse us.reverse:=by
 induction h with
 |nil=>exact .nil
 |cons r t ih=>rw[abW,abW];exact Vals.append ih (.cons r .nil)
theorem Vals.rep{xs:List V}{us:List Value}(h:Vals xs us):∀k:Nat,Vals (List.replicate k xs).flatten (List.replicate k us).flatten
 |0=>.nil
 |k+1=>by rw[abM,abM,abC,abC];exact Vals.append h (Vals.rep h k)
theorem qq(l:List α):l.eraseIdx (l.length-1)=l.dropLast:=by
 induction l with
 |nil=>rfl
 |cons a r ih=>
  cases r with
  |nil=>rfl
  |cons b r=>
   have e:(a::b::r).length-1=((b::r).length-1)+1:=by
    have h1:(a::b::r).length=r.length+2:=rfl;have h2:(b::r).length=r.length+1:=rfl
    lia
   rw[e,List.eraseIdx_cons_succ,ih];all_goals rfl
theorem kP(d7:List Value):∀(k:Nat)(acc:List Value),
 List.foldl (λx1 x2=>x1++x2) acc.toArray (List.replicate k d7.toArray)=(acc++(List.replicate k d7).flatten).toArray
 |0,acc=>by simp
 |k+1,acc=>by
  have e:acc.toArray++d7.toArray=(acc++d7).toArray:=by simp
  have e2:(acc++d7)++(List.replicate k d7).flatten=acc++(List.replicate (k+1) d7).flatten:=by rw[abM,abC,aas]
  rw[<-e2,<-kP d7 k (acc++d7),<-e,abM,acD]
variable{t':Nat}
section
variable{X:Cx}{pins:List (Addr×Obj)}{σ:St}{H:Hp}{s:Shared}{l b:Addr}{xs ys zs:List V}
def Inv.To{f:Array Value->Array Value}(I:Inv X pins σ H s)(hH:H l=some (.lst xs))(e:s.heap.get? l=some { cls:=.type "list",data:=.seq d7.toArray n })(hf:f d7.toArray=its'.toArray)(hv:Vals ys its')(hz:ys.length<=sizeLine):
 Inv X pins σ (upd H l (.lst ys)) { s with heap:=s.heap.update l (Obj.mapSeq f),toks:=t' }:=by
 have q:=PySem.IsL.update e f;rw[hf]at q;refine I.write (x:=l) (e:=l) (by rw[hH];exact trivial) (.inl rfl) (λb' u hb hu=>(abD s.heap (Obj.mapSeq f) (abw hb)).trans hu) ⟨_,q⟩ ?_;exact⟨hz,its',_,hv,q⟩
def Inv.Tq(I:Inv X pins σ H s)(hv:Vals ys d7)(hz:ys.length<=sizeLine):
 Inv X pins σ (upd H s.heap.objs.size (.lst ys)) { s with heap:=s.heap.push { cls:=.type "list",data:=.seq d7.toArray },toks:=t' }:=
 I.laid (λ_ _ q=>aag _ q) (aam _) ⟨hz,d7,0,hv,aax _ rfl⟩
theorem Inv.fresh(I:Inv X pins σ H s):H s.heap.objs.size=none:=I.h_.fresh (aam _)
def Inv.M7(I:Inv X pins σ H s)(hH:H l=some (.lst xs)):xs.length<=sizeLine/\∃(d7:List Value)(n:Nat),Vals xs d7/\xs.length=d7.length/\s.heap.get? l=some { cls:=.type "list",data:=.seq d7.toArray n }:=by obtain⟨z,d7,n,r,e⟩:=I.h_ l _ hH;exact⟨z,d7,n,r,r.length,e⟩
theorem vP(h:n<=sizeLine):Builtin.List.listTooLong n=false:=by unfold Builtin.List.listTooLong;exact aaH (by lia)
end
section
variable{X:Cx}
def zb:V->List V->Hp->VK->Prop:=λx vs H Q=>∃l xs y,x=.ref l/\vs=[y]/\H l=some (.lst xs)/\xs.length<sizeLine/\Q .o_ (upd H l (.lst (xs++[y])))
theorem bf:MtM X "list.append" zb:=by
 intro pins s σ H x vs v us Q I rx rv h;obtain⟨l,xs,y,rfl,rfl,hH,hz,q⟩:=h;cases rx;obtain⟨u,rfl,ru⟩:=rv.one;obtain⟨z,d7,n,r,hl,e⟩:=I.M7 hH;refine ab1 F.slot_list_append ⟨_,e,rfl⟩ F.entry_list_append (F.args_list_append_2 _ _) (PySem.list_append l d7.toArray n u (by rw[aaA];lia)) ⟨e,?_⟩;refine⟨.o_,_,I.To (its':=d7++[u]) hH e (by simp) (r.append (.cons ru .nil)) ?_,rfl,q⟩;rw[aaa,aaO]
 lia
def Gs:V->List V->Hp->VK->Prop:=λx vs H Q=>∃l xs y,x=.ref l/\vs=[]/\H l=some (.lst xs)/\xs[xs.length-1]?=some y/\Q y (upd H l (.lst xs.dropLast))
theorem eY:MtM X "list.pop" Gs:=by
 intro pins s σ H x vs v us Q I rx rv h;obtain⟨l,xs,y,rfl,rfl,hH,hy,q⟩:=h;cases rx;have A3:=rv.zero;subst A3;obtain⟨z,d7,n,r,hl,e⟩:=I.M7 hH;obtain⟨u,hu,ru⟩:=r.get hy;have Oi:d7.toArray[d7.toArray.size-1]?=some u:=by show d7.toArray[d7.length-1]?=some u;rw[<-abB,<-hl];exact hu
 refine ab1 F.slot_list_pop ⟨_,e,rfl⟩ F.entry_list_pop (F.args_list_pop_1 _) (MeetsSeq.list_pop_last l d7.toArray n u Oi (by rw[aaA];lia)) ⟨e,?_⟩;refine⟨y,_,I.To (its':=d7.dropLast) hH e ?_ r.dropLast ?_,ru,q⟩
 ·show d7.toArray.eraseIdxIfInBounds (d7.toArray.size-1)=d7.dropLast.toArray;rw[aaA,List.eraseIdxIfInBounds_toArray,qq]
 ·rw[List.length_dropLast]
  lia
def vb:V->List V->Hp->VK->Prop:=λx vs H Q=>∃l xs,x=.ref l/\vs=[]/\H l=some (.lst xs)/\Q .o_ (upd H l (.lst xs.reverse))
theorem iY:MtM X "list.reverse" vb:=by
 intro pins s σ H x vs v us Q I rx rv h;obtain⟨l,xs,rfl,rfl,hH,q⟩:=h;cases rx;have A3:=rv.zero;subst A3;obtain⟨z,d7,n,r,hl,e⟩:=I.M7 hH;refine ab1 F.slot_list_reverse ⟨_,e,rfl⟩ F.entry_list_reverse (F.args_list_reverse_1 _) (AutoSeq1.list_reverse_list_0 l d7.toArray n (by rw[aaA];lia)) ⟨e,?_⟩;refine⟨.o_,_,I.To (its':=d7.reverse) hH e (by simp) r.reverse ?_,rfl,q⟩;rw[abN]
 lia
noncomputable def Gv:R2:=λx y H Q=>∃l b xs zs,x=.ref l/\y=.ref b/\H l=some (.lst xs)/\H b=some (.lst zs)/\xs.length+zs.length<=sizeLine/\∀p,H p=none->Q (.ref p) (upd H p (.lst (xs++zs)))
theorem cu:GK X (binaryOp .Add) Gv:=by
 intro pins s σ H x y v u Q I rx ry h;obtain⟨l,b,xs,zs,rfl,rfl,hH,hB,hz,q⟩:=h;cases rx;cases ry;obtain⟨z,d7,n,r,hl,e⟩:=I.M7 hH;obtain⟨z2,Oe,n2,r2,Nu,e2⟩:=I.M7 hB;refine PySem.P.add_list e e2 ?_ (by rw[aaA,aaA];lia);have ea:d7.toArray++Oe.toArray=(d7++Oe).toArray:=by simp
 rw[ea];exact⟨.ref _,_,I.Tq (t':=s.toks) (r.append r2) (by rw[aaa];lia),rfl,q _ I.fresh⟩
noncomputable def Gq:R2:=λx y H Q=>∃l k xs,x=.ref l/\y=.int k/\H l=some (.lst xs)/\-(2 ^ 63)<=k/\k<2 ^ 63/\xs.length*k.toNat<=sizeLine /\
 ∀p,H p=none->Q (.ref p) (upd H p (.lst (List.replicate k.toNat xs).flatten))
theorem Ap(xs:List α)(k:Nat):(List.replicate k xs).flatten.length=k*xs.length:=by
 induction k with
 |zero=>simp
 |succ k ih=>rw[abM,abC,aaa,ih,Nat.succ_mul,Nat.add_comm]
theorem Db:GK X (binaryOp .Mult) Gq:=by
 intro pins s σ H x y v u Q I rx ry h;obtain⟨l,k,xs,rfl,rfl,hH,h1,h2,hz,q⟩:=h;cases rx;obtain⟨t,rfl⟩:=ry;obtain⟨z,d7,n,r,hl,e⟩:=I.M7 hH;have hlen:d7.toArray.size*k.toNat<=sizeLine:=by rw[aaA,<-hl];exact hz
 have hcap:¬d7.toArray.size*k.toNat>(2 ^ 63-1) / 8:=by
  have:(sizeLine:Nat)<=(2 ^ 63-1) / 8:=by decide
  lia
 have hfit:¬(!Builtin.List.listFitsIndex k)=true:=by rw[fitsIndex_both h1 h2];exact aaw
 have WJ:¬Builtin.List.listTooLong (d7.toArray.size*k.toNat)=true:=by rw[vP hlen];exact aaw
 have Ot:List.foldl (λx1 x2=>x1++x2) #[] (List.replicate (if d7.toArray.isEmpty=true then 0 else k.toNat) d7.toArray)=(List.replicate k.toNat d7).flatten.toArray:=by
  have f0:∀m:Nat,List.foldl (λx1 x2=>x1++x2) #[] (List.replicate m d7.toArray)=(List.replicate m d7).flatten.toArray:=λm=>by have:=kP d7 m [];rw[aaS]at this;exact this
  rw[f0];cases d7 with
  |nil=>simp
  |cons a r'=>rw[aaK (by simp)]
 refine wpAny_binaryOp_repeat_ref (T:="list") (U:="int") (by decide) ⟨_,e,rfl⟩ (λs'=>typeIs_int s' k t) noFill_list_mul F.fills_int_mul F.slot_int_rmul repeat_list F.slot_int_index.lookup
  (ab1 F.slot_int_rmul (typeIs_int s k t) F.entry_int_rmul (F.args_int_rmul_2 _ _) (int___rmul___int_list k t l d7.toArray n)
   ⟨e,rfl,⟨_,e,rfl⟩,ab1 F.slot_list_mul ⟨_,e,rfl⟩ F.entry_list_mul (F.args_list_mul_2 _ _) (AutoListH.list___mul___list_int_3 l d7.toArray n k t hfit hcap WJ) ⟨e,?_⟩⟩)
 rw[Ot];exact⟨.ref _,_,I.Tq (t':=s.toks) (r.rep k.toNat) (by rw[Ap,adO];exact hz),rfl,q _ I.fresh⟩
end
end L2
namespace Att
open PySem PySem.W PySem.Calls PyProof.Rows
variable{P:Params}{h:Heap}
theorem ig:∀(ns:List Int)(vs:List Value),WellAll P h vs (ns.map WData.int)->IntsAre vs ns:=by
 intro ns;induction ns with
 |nil=>
  intro vs w;rw[abJ]at w;cases w;exact .nil
 |cons n ns ih=>
  intro vs w;rw[aaV]at w;cases w with
  |cons a b=>
   cases a;exact .cons _ _ (ih _ b)
theorem rp{l:OpenLaw}{n:Nat}(hn:l.most=some n){args:List WData}{vals:List Value}(QD:l.row.toRowW.claim.pre args=true)(hwl:WellAll P h vals args):
 ∃a vs ns,vals=[Value.ref a]/\args=[WData.list (ns.map WData.int)]/\h.get? a=some { cls:=.type "list",data:=.seq vs.toArray }/\IntsAre vs ns/\ns.length<=n:=by
 have hsh:WShape.hasAll [] args [.list .int]=true:=(pre_splitW QD).1;have hc:l.pre.holds [] { args:=args }=true:=(pre_splitW QD).2;obtain⟨d,r,rfl,h1,h2⟩:=hasAllW_cons hsh;obtain rfl:=hasAllW_nil h2;obtain⟨xs,rfl,h3⟩:=hasW_list h1;obtain⟨ns,rfl⟩:=items_int h3;have hlen:ns.length<=n:=by
  unfold OpenLaw.pre at hc;have h4:(WTm.not (.lt (.lit (.int (n:Int))) (.len (.arg 0)))).holds [] { args:=[.list (ns.map .int)] }=true:=by have h4:=(holds_andW hc).1;rw[hn]at h4;exact h4
  have h5:=condW_of h4 (w_not (w_lt w_lit (w_len_list (w_arg rfl))));rw[aad]at h5;refine Nat.le_of_not_lt λq=>?_;have q':(n:Int)<((ns.length:Nat):Int):=by lia
  first
   |(rw[aa0 q']at h5;exact absurd h5 (by decide))
   |(simp at h5;lia)
 cases hwl with
 |cons w1 w2=>
  cases w2;cases w1 with
  |list ho Hk=>exact⟨_,_,ns,rfl,rfl,ho,ig ns _ Hk,hlen⟩
def rR(l:OpenLaw)(args:List WData):l.row.toRowW.claim.post args (.bool true) args=true:=
 postW_of (r:=l.row.toRowW) (X:=(true == true))
  (show WShape.has [] (.bool true) .bool=true by first|rfl|decide|simp[WShape.has,WShape.arms,WShape.armsAll])
  (show(WTm.eq .res (.lit (.bool true))).value [] { args:=args,res:=some (.bool true),after:=args }=some (.bool (true == true))from w_eq_bool (w_res rfl) w_lit) rfl
def KZ{l:OpenLaw}{n:Nat}{q:Program}{loose:List Str}{XP:(Str->Option Value)->Heap->Prop}{YP:World->Heap->Prop}{d:DefRec}(hn:l.most=some n)(W3:d.params.defaults=[])(call:∀(w:World) (s₀ i7:Shared) (mg mb:Str->Option Value) (fa:Addr) (o:Obj) (pm cd doc:Value) (a:Addr) (vs:List Value) (ns:List Int),
 Ground q loose [] XP w s₀ mg mb i7.heap->YP w i7.heap ->
 i7.heap.get? fa=some o->o.data=.func (docDef d.name d.params d.body d.scope pm cd doc)->i7.heap.CodeRec cd d.name->mg d.name=some (.ref fa) ->
 i7.heap.get? a=some { cls:=.type "list",data:=.seq vs.toArray }->IntsAre vs ns->ns.length<=n->i7.gens=#[] ->
 codeAny (model l.prog w) callerA (.call (.ref fa) ⟨[.ref a],[]⟩) (λr s'=>r=.ok (.ret (.bool true))/\OldK i7.heap s'.heap/\s'.os=i7.os/\AllBare s'.gens) i7):
 WalkO q loose XP YP l.row.toRowW d [] (λf vs=>PySem.call f vs):=by
 intro w s₀ i7 mg mb G Y fa o pm cd doc dV kV ho hd LS hD WI hg args vals as QD hlay hrd hwl Hj;obtain rfl:dV=.none:=Dflts.none hD W3;obtain rfl:kV=.none:=Dflts.noKw hD;obtain⟨a,vs,ns,rfl,rfl,TJ,hints,hlen⟩:=rp hn QD hwl;refine enter_call (acP (call w s₀ i7 mg mb fa o pm cd doc a vs ns G Y ho (fd_plain hd) LS WI TJ hints hlen hg) λr s' hq=>?_);obtain⟨rfl,h2,h3,h4⟩:=hq;exact⟨.inl ⟨.bool true,.bool true,[],rfl,λ_=>rfl,.bool true,rR l _,λ_=>⟨List.Pairwise.nil,λ_ hm=>(nomatch hm)⟩⟩,h2,h3,h4⟩
end Att
namespace L2
open PySem PySem.Spec PyProof.Rows
theorem kc:∀{vs:List Value}{ns:List Int},IntsAre vs ns->Vals (ns.map V.int) vs
 |_,_,.nil=>.nil
 |_,_,.cons n t h=>.cons ⟨t,rfl⟩ (kc h)
def Eo(H:Hp):Prop:=∀b,H b=none\/∃o xs,H b=some (.LV o (.lst xs))
variable{K:W.Frag}{fd:FuncData}{x:Str}{a:Addr}
theorem vZ{P:Program}{w:World}{mg mb:Str->Option Value}{CX:Md}{k:Nat}{fa:Addr}{sp:Sp}{i7:Shared}{vs:List Value}{ns:List Int}(KX:K.In i7.heap)(Ke:i7.heap.Ns mainGlobals mg)(hb:i7.heap.Ns builtinsNs mb)(_g:∀x:Str,x ≠ "__name__"->mb x=bootBuiltins x)(hlim:i7.heap.NoLimit)(hg:i7.gens=#[])(ha:i7.heap.get? a=some { cls:=.type "list",data:=.seq vs.toArray })(hi:IntsAre vs ns)(hl:ns.length<=sizeLine)(hr:o5 k callerA)(F:∀base:Heap,K.In base->base.Ns mainGlobals mg->d9 P w K mg base CX k fa fd [x] sp)(W7:∀(s:Shared) (u:Value),BindsTo s fd ⟨[u],[]⟩ [(x,u)])(Lc:∀H:Hp,Eo H->c_ K H a (ns.map V.int)->sp [.ref a] H (λv _=>v=.bl true) λ_ _ _=>False)(Xd:∀H e s',CX [] H i7 (λ_ _ _=>False) e s'->False):
 codeAny (model P w) callerA (.call (.ref fa) ⟨[.ref a],[]⟩) (λr s'=>r=.ok (.ret (.bool true))/\OldK i7.heap s'.heap/\s'.os=i7.os/\AllBare s'.gens) i7:=by
 have rv:=kc hi;have lenV:=hi.length;have core:∀H:Hp,Eo H->c_ K H a (ns.map V.int)->G8 P w H i7.heap->(∀b,H b≠none->b=a)->(H a≠none->K.lookup a=none) ->
  codeAny (model P w) callerA (.call (.ref fa) ⟨[.ref a],[]⟩) (λr s'=>r=.ok (.ret (.bool true))/\OldK i7.heap s'.heap/\s'.os=i7.os/\AllBare s'.gens) i7:=by
  intro H hO hS h_ hA hK;have MD:∀{b:Addr}{o:Obj},i7.heap.get? b=some o->H b=none->(wC i7.heap H).get? b=some o:=λe n=>wB e n;have VM:∀{b:Addr}{o:Obj}{es:Array DictEntry}{ep:Nat},i7.heap.get? b=some o->o.data=.dict es ep->H b=none:=λ{b o es ep} e d=>by
   cases q:H b with
   |none=>rfl
   |some u=>
    have e':b=a:=hA b (by rw[q];simp);subst e';rw[ha]at e;cases e;have d':Data.seq vs.toArray _=Data.dict es ep:=d;cases d'
  have ZN:∀{b:Addr}{m:Str->Option Value},i7.heap.Ns b m->(wC i7.heap H).Ns b m:=λ{b m} ⟨o,es,ep,e,d,r⟩=>⟨o,es,ep,MD e (VM e d),d,r⟩
  have hKb:K.In (wC i7.heap H):=λb o e=>MD (KX b o e) (by
   cases q:H b with
   |none=>rfl
   |some u=>
    have e':b=a:=hA b (by rw[q];simp);subst e';rw[hK (by rw[q];simp)]at e;cases e)
  have hM:Mod K mg (wC i7.heap H):=⟨hKb,ZN Ke,⟨mb,ZN hb,_g⟩,let⟨mc,h1,h2⟩:=hlim;⟨mc,ZN h1,h2⟩⟩
  have e0:Mc P w K mg (wC i7.heap H) callerA [] i7 H:=⟨rfl,hM,λb o e=>zP e,Nat.le_of_eq (tu _ _),trivial,λb hb=>absurd (show b∈([]:List Addr)from hb) (by simp),h_,.of_eq hg⟩
  refine acP ((F _ hKb (ZN Ke)).run callerA [] i7 H ⟨[.ref a],[]⟩ [.ref a] [.ref a] _ _ hr e0 (W7 i7 (.ref a)) (.cons rfl .nil) (Lc H hO hS)) λr s' h=>?_;cases r with
  |error e=>exact(Xd H e s' h).elim
  |ok fl=>
   cases fl with
   |next=>exact False.elim h
   |brk=>exact False.elim h
   |cont=>exact False.elim h
   |ret u=>
    obtain⟨v,H',os,bare,un,TH,r',q⟩:=h;have q':v=.bl true:=q;subst q';obtain rfl:u=Value.bool true:=r';refine⟨rfl,OldK.of_keep λb o e=>?_,os,bare⟩;cases q:H b with
    |none=>exact un.keep b o e q (by intro z;exact absurd (show b∈([]:List Addr)from z) (by simp)) (by simp)
    |some u=>
     rcases hO b with z|⟨ob,xs,z⟩
     ·rw[q]at z;cases z
     ·have z2:=un.C_ b ob _ z;obtain⟨e1,_⟩:=h_ b _ z;obtain⟨e2,_⟩:=TH b _ z2;rw[e]at e1;cases e1;exact e2
 cases hk:K.lookup a with
 |some o=>
  have e:=KX a o hk;rw[ha]at e;cases e;refine core (λ_=>none) (λ_=>.inl rfl) (.inr ⟨_,vs.toArray,_,hk,rfl,rfl,rfl,by rw[aaA,lenV];exact hl,by simpa using rv⟩) (λb u z=>by have z':(none:Option HO)=some u:=z;cases z') (λb z=>absurd rfl z) λz=>absurd rfl z
 |none=>
  refine core (λb=>if b=a then some (.LV { cls:=.type "list",data:=.seq vs.toArray } (.lst (ns.map V.int)))else none) (λb=>?_) (.inl (.inr ⟨{ cls:=.type "list",data:=.seq vs.toArray },aaX rfl⟩)) (λb u z=>?_) (λb z=>?_) λ_=>hk
  ·by_cases hb:b=a
   ·exact .inr ⟨_,_,aaX hb⟩
   ·exact .inl (aaK hb)
  ·by_cases hb:b=a
   ·have z':=(aaX hb).symm.trans z;cases z';subst hb;exact⟨ha,by rw[aad];exact hl,vs,_,rv,ha⟩
   ·have z':=(aaK hb).symm.trans z;cases z'
  ·by_cases hb:b=a
   ·exact hb
   ·exact absurd (aaK hb) z
abbrev KOf{h:Heap}(_:K.In h):W.Frag:=K
def ym{l:PySem.W.OpenLaw}{n k:Nat}{q:Program}{loose:List Str}{XP:(Str->Option Value)->Heap->Prop}{YP:World->Heap->Prop}{d:DefRec}{K:Params->W.Frag}{CX:World->Md}{sp:World->Sp}{x:Str}(hn:l.most=some n)(TQ:n<=sizeLine)(W3:d.params.defaults=[])(hr:o5 k callerA)(hY:∀(w:World) (h:Heap),YP w h->(K w.params).In h)(F:∀(w:World) (mg:Str->Option Value) (fa:Addr) (h:Heap),(K w.params).In h->h.Ns mainGlobals mg->mg d.name=some (.ref fa) ->
 ∃fd:FuncData,(∀(s:Shared) (u:Value),BindsTo s fd ⟨[u],[]⟩ [(x,u)]) /\
  ∀base:Heap,(K w.params).In base->base.Ns mainGlobals mg->d9 l.prog w (K w.params) mg base (CX w) k fa fd [x] (sp w))(Lc:∀(w:World) (H:Hp) (a:Addr) (ns:List Int),ns.length<=n->Eo H->c_ (K w.params) H a (ns.map V.int)->sp w [.ref a] H (λv _=>v=.bl true) λ_ _ _=>False)(Xd:∀(w:World) (H:Hp) (s:Shared) (e:Value) (s':Shared),CX w [] H s (λ_ _ _=>False) e s'->False):
 PySem.W.WalkO q loose XP YP l.row.toRowW d [] (λf vs=>PySem.call f vs):=by
 refine Att.KZ hn W3 λw s₀ i7 mg mb fa o pm cd doc a vs ns G Y ho hd LS WI TJ hints hlen hg=>?_;have KX:=hY w _ Y;obtain⟨fd,hb,hF⟩:=F w mg fa _ KX G.T.g WI;exact vZ KX G.T.g G.T.b G.T.builtins G.T.nolimit hg TJ hints (abb hlen TQ) hr hF hb (λH hO hS=>Lc w H a ns hlen hO hS) λH e s'=>Xd w H i7 e s'
def NB{l:PySem.W.OpenLaw}{n k:Nat}{q:Program}{loose:List Str}{XP:(Str->Option Value)->Heap->Prop}{YP:World->Heap->Prop}{d:DefRec}{K:Params->W.Frag}{CX:Md}{sp:W.Frag->Sp}{x:Str}(hn:l.most=some n)(TQ:n<=sizeLine)(W3:d.params.defaults=[])(hr:o5 k callerA)(hY:∀(w:World) (h:Heap),YP w h->(K w.params).In h)(F:∀(w:World) (mg:Str->Option Value) (fa:Addr) (h:Heap),(K w.params).In h->h.Ns mainGlobals mg->mg d.name=some (.ref fa) ->
 ∃fd:FuncData,(∀(s:Shared) (u:Value),BindsTo s fd ⟨[u],[]⟩ [(x,u)]) /\
  ∀base:Heap,(K w.params).In base->base.Ns mainGlobals mg->d9 l.prog w (K w.params) mg base CX k fa fd [x] (sp (K w.params)))(Lc:∀(K:W.Frag) (H:Hp) (a:Addr) (ns:List Int),ns.length<=n->Eo H->c_ K H a (ns.map V.int)->sp K [.ref a] H (λv _=>v=.bl true) λ_ _ _=>False)(Xd:∀(H:Hp) (s:Shared) (e:Value) (s':Shared),CX [] H s (λ_ _ _=>False) e s'->False):
 PySem.W.WalkO q loose XP YP l.row.toRowW d [] (λf vs=>PySem.call f vs):=
 ym (K:=K) (CX:=λ_=>CX) (sp:=λw=>sp (K w.params)) hn TQ W3 hr hY F (λw H a ns h1 h2 h3=>Lc (K w.params) H a ns h1 h2 h3) λ_ H s e s'=>Xd H s e s'
noncomputable def eE(s:Stmt)(j:Nat):Stmt:=match s with
 |.ClassDef _ _ _ body _ _ _ _ _ _ _=>body.getD j (.Pass ⟨0,0,0,0⟩)
 |_=>.Pass ⟨0,0,0,0⟩
noncomputable def aG(s:Stmt):Arguments:=match s with
 |.FunctionDef _ a _ _ _ _ _ _ _ _=>a
 |_=>{ posonlyargs:=[],args:=[],vararg:=none,kwonlyargs:=[],kw_defaults:=[],kwarg:=none,defaults:=[] }
noncomputable def aF(s:Stmt):List Stmt:=match s with
 |.FunctionDef _ _ b _ _ _ _ _ _ _=>b
 |_=>[]
noncomputable def am(s:Stmt):Scope:=match s with
 |.FunctionDef _ _ _ _ _ _ sc _ _ _=>sc
 |_=>{ kind:=.function,names:=[],isGenerator:=false,isCoroutine:=false }
abbrev E6:Md:=λ_ _ _ _ _ _=>False
abbrev E0:XK:=λ_ _ _=>False
def bu{X:Cx}:cY E6 X E0:=λ_ _ _ _ _ _ _ h=>h.elim
structure p_(K:W.Frag)(x qual:Str)(st:Stmt)(f:Addr)(fd:FuncData):Prop where
 ex:∃(oc:Value)(od:Option Addr)(kV doc pm:Value)(an:Option Addr)(j8 ct:Value)(PV:Array (Option Value)),
  fd=PySem.W.fnOf x qual (aG st) (aF st) (am st) .none kV doc pm an j8 ct/\K.lookup f=some ⟨oc,od,.func fd,PV⟩/\PySem.W.codeIn K j8 qual=true
 kp:PySem.W.keepIn K (.ref f)=true
variable{qual:Str}{st:Stmt}{f:Addr}
section
variable{P:Program}{w:World}{K:W.Frag}{mg:Str->Option Value}{base:Heap}
def p_.ok{x qual:Str}{st:Stmt}{f:Addr}{fd:FuncData}{N ps:List Str}{k:Nat}{sp:Sp}(F:p_ K x qual st f fd)(S:aJ N ps (am st))(len:∀vs H Q E,sp vs H Q E->vs.length=ps.length)(IX:∀(j8:Value) (A:Around) (outer:List Env) (s:Shared) (H:Hp) (vs:List V) (Q:VK) (E:XK),o5 k (A.deeper (envOfC qual (am st) s.heap.objs.size f j8))->sp vs H Q E ->
 ∃t,Le (cq E6 P w K mg base N qual (am st) f j8 A outer s H E).Tf (aF st) t/\t { nx:=λ_ H'=>Q .o_ H',rt:=Q } (start N vs) H):d9 P w K mg base E6 (k+1) f fd ps sp:=by
 obtain⟨oc,od,kV,doc,pm,an,j8,ct,PV,rfl,lk,LS⟩:=F.ex;refine DP lk LS S len λA outer s H vs Q E hr Lc=>?_;obtain⟨t,h,q⟩:=IX j8 A outer s H vs Q E hr Lc;exact⟨t,h.Tf,q⟩
def p_.binds{ps:List Str}(F:p_ K x qual st f fd)(h:∀(kV doc pm:Value) (an:Option Addr) (j8 ct:Value) (us:List Value),us.length=ps.length->bindArgs (PySem.W.fnOf x qual (aG st) (aF st) (am st) .none kV doc pm an j8 ct) ⟨us,[]⟩=pure (ps.zip us)):Binds K fd ps []:=by obtain⟨oc,od,kV,doc,pm,an,j8,ct,PV,rfl,lk,LS⟩:=F.ex;exact .all (h kV doc pm an j8 ct)
def aY{oc:Value}{od an:Option Addr}{PV:Array (Option Value)}{kV doc pm j8 ct:Value}(l:K.lookup f=some ⟨oc,od,.func (PySem.W.fnOf x qual (aG st) (aF st) (am st) .none kV doc pm an j8 ct),PV⟩)(c:PySem.W.codeIn K j8 qual=true)(k:PySem.W.keepIn K (.ref f)=true):p_ K x qual st f (PySem.W.fnOf x qual (aG st) (aF st) (am st) .none kV doc pm an j8 ct):=⟨⟨oc,od,kV,doc,pm,an,j8,ct,PV,rfl,l,c⟩,k⟩
end
section
variable{X:Cx}
def pv(i:Nat){x:Str}{pos:Pos}(hN:X.N[i]?=some x:=by rfl)(hv:YQ X.env.scope x:=by first|exact Or.inl rfl|exact Or.inr oI1|exact Or.inr oJ1)(hd:(x == ("__debug__" : Str))=false:=by decide)(LS:(x == ("__classdict__" : Str))=false:=by decide):PE X (.Name x pos) (SA i):=CT hN hv hd LS
end
variable{A B:Prop}
def fH(h:B):if false=true then A else B:=by rw[aaK aaw];exact h
def fX(h:A):if true=true then A else B:=by rw[aaX rfl];exact h
def DE{c:Prop}[Decidable c](hc:c)(h:B):if(!decide c)=true then A else B:=by rw[aa0 hc];exact fH h
def b6(H H':Hp):Prop:=∀b o,H b=some o->H' b=some o
def b6.refl(H:Hp):b6 H H:=λ_ _ h=>h
variable{H:Hp}
def b6.trans{H1 H2:Hp}(a:b6 H H1)(b:b6 H1 H2):b6 H H2:=λc o h=>b c o (a c o h)
variable{H':Hp}
theorem b6.free(e:b6 H H'){l:Addr}(h:H' l=none):H l=none:=by
 cases q:H l with
 |none=>rfl
 |some o=>
  rw[e l o q]at h;cases h
def b6.seq{xs:List V}(e:b6 H H')(h:c_ K H a xs):c_ K H' a xs:=by
 rcases h with(h|⟨o,h⟩)|h
 ·exact .inl (.inl (e _ _ h))
 ·exact .inl (.inr ⟨o,e _ _ h⟩)
 ·exact .inr h
end L2
set_option maxHeartbeats 4000000
namespace L2
open PySem PySem.Spec PyProof.Rows
inductive Da where
 |fl (v:V)
 |tup (ds:List Da)
 |lst (ds:List Da)
mutual
def B4(K:W.Frag)(H:Hp):Da->V->Prop
 |.fl x,v=>v=x/\iI x=true
 |.tup ds,v=>∃a xs,v=.ref a/\k_ K H a xs/\n8 K H ds xs
 |.lst ds,v=>∃a xs,v=.ref a/\c_ K H a xs/\n8 K H ds xs
def n8(K:W.Frag)(H:Hp):List Da->List V->Prop
 |[],xs=>xs=[]
 |d::ds,xs=>∃v vs,xs=v::vs/\B4 K H d v/\n8 K H ds vs
end
mutual
noncomputable def Kh:Da->Da->Bool
 |.fl x,.fl y=>Ng x y
 |.tup a,.tup b=>kT a b
 |.lst a,.lst b=>kT a b
 |_,_=>false
noncomputable def kT:List Da->List Da->Bool
 |[],[]=>true
 |a::r,b::t=>Kh a b&&kT r t
 |_,_=>false
end
mutual
noncomputable def wR:Da->Nat
 |.fl _=>0
 |.tup ds=>iu ds+1
 |.lst ds=>iu ds+1
noncomputable def iu:List Da->Nat
 |[]=>0
 |d::ds=>max (wR d) (iu ds)
end
theorem n8.len{K:W.Frag}{H:Hp}:∀{ds:List Da}{xs:List V},n8 K H ds xs->ds.length=xs.length
 |[],xs,h=>by unfold n8 at h;subst h;rfl
 |d::ds,xs,h=>by unfold n8 at h;obtain⟨v,vs,rfl,_,t⟩:=h;rw[aac,aac,n8.len t]
theorem n8.get{K:W.Frag}{H:Hp}:∀{ds:List Da}{xs:List V}{i:Nat}{d:Da}{v:V},n8 K H ds xs->ds[i]?=some d->xs[i]?=some v->B4 K H d v
 |[],_,_,_,_,_,e,_=>by simp at e
 |d::ds,xs,0,_,_,h,e,q=>by
  unfold n8 at h;obtain⟨v,vs,rfl,hd,t⟩:=h;simp at e q;subst e q;exact hd
 |d::ds,xs,i+1,_,_,h,e,q=>by unfold n8 at h;obtain⟨v,vs,rfl,hd,t⟩:=h;exact n8.get t (by simpa using e) (by simpa using q)
theorem wM{x:V}(h:iI x=true):Ng x x=true:=by
 cases x with
 |o_=>rfl
 |bl b=>show(b == b)=true;simp
 |int i=>show(i == i)=true;simp
 |str z=>show(z == z)=true;simp
 |_=>exact absurd (show false=true from h) aaw
variable{xs:List V}{K:W.Frag}{ws us:List Value}{n:Nat}{ds:List Da}
section
variable{X:Cx}{pins:List (Addr×Obj)}{σ:St}{H:Hp}{s:Shared}
def Inv.Mt(I:Inv X pins σ H s){a:Addr}{ys:List V}(h:c_ X.K H a xs)(h':k_ X.K H a ys):False:=by obtain⟨d7,_,⟨o1,n1,e1,c1,_⟩,_⟩:=I.list h;obtain⟨Oe,_,⟨o,e2,c2,_⟩,_⟩:=I.tuple h';rw[e1]at e2;cases e2;rw[c1]at c2;exact absurd (Value.type.inj c2) (by decide)
def B4.HB{a:Addr}{x:V}(h:B4 K H (.fl x) (.ref a)):False:=by unfold B4 at h;obtain⟨e,f⟩:=h;subst e;exact absurd (show false=true from f) aaw
mutual
theorem B4.inj(I:Inv X pins σ H s):∀(d e:Da){v:V},B4 X.K H d v->B4 X.K H e v->d=e
 |.fl x,.fl y,v,h,q=>by
  unfold B4 at h q;rw[<-h.1,<-q.1]
 |.fl x,.tup ys,v,h,q=>by
  unfold B4 at q;obtain⟨a,zs,e,_⟩:=q;subst e;exact h.HB.elim
 |.fl x,.lst ys,v,h,q=>by
  unfold B4 at q;obtain⟨a,zs,e,_⟩:=q;subst e;exact h.HB.elim
 |.tup xs,.fl y,v,h,q=>by
  unfold B4 at h;obtain⟨a,zs,e,_⟩:=h;subst e;exact q.HB.elim
 |.lst xs,.fl y,v,h,q=>by
  unfold B4 at h;obtain⟨a,zs,e,_⟩:=h;subst e;exact q.HB.elim
 |.tup xs,.tup ys,v,h,q=>by
  unfold B4 at h q;obtain⟨a,us,e,ha,hs⟩:=h;obtain⟨b,ws,e',hb,qs⟩:=q;subst e;cases e';rw[I.Jo ha hb]at hs;rw[n8.inj I xs ys hs qs]
 |.lst xs,.lst ys,v,h,q=>by
  unfold B4 at h q;obtain⟨a,us,e,ha,hs⟩:=h;obtain⟨b,ws,e',hb,qs⟩:=q;subst e;cases e';rw[I.KQ ha hb]at hs;rw[n8.inj I xs ys hs qs]
 |.tup xs,.lst ys,v,h,q=>by
  unfold B4 at h q;obtain⟨a,us,e,ha,hs⟩:=h;obtain⟨b,ws,e',hb,qs⟩:=q;subst e;cases e';exact(I.Mt hb ha).elim
 |.lst xs,.tup ys,v,h,q=>by unfold B4 at h q;obtain⟨a,us,e,ha,hs⟩:=h;obtain⟨b,ws,e',hb,qs⟩:=q;subst e;cases e';exact(I.Mt ha hb).elim
theorem n8.inj(I:Inv X pins σ H s):∀(ds es:List Da){vs:List V},n8 X.K H ds vs->n8 X.K H es vs->ds=es
 |[],[],_,_,_=>rfl
 |[],e::es,vs,h,q=>by
  unfold n8 at h q;obtain⟨v,r,e1,_⟩:=q;rw[h]at e1;cases e1
 |d::ds,[],vs,h,q=>by
  unfold n8 at h q;obtain⟨v,r,e1,_⟩:=h;rw[q]at e1;cases e1
 |d::ds,e::es,vs,h,q=>by unfold n8 at h q;obtain⟨v,r,e1,h1,h2⟩:=h;obtain⟨v',r',e2,q1,q2⟩:=q;subst e1;cases e2;rw[B4.inj I d e h1 q1,n8.inj I ds es h2 q2]
end
mutual
theorem jR{K:W.Frag}:∀(d:Da){v:V},B4 K H d v->Kh d d=true
 |.fl x,v,h=>by
  unfold B4 at h;unfold Kh;exact wM h.2
 |.tup ds,v,h=>by
  unfold B4 at h;obtain⟨_,_,_,_,hs⟩:=h;unfold Kh;exact ip ds hs
 |.lst ds,v,h=>by unfold B4 at h;obtain⟨_,_,_,_,hs⟩:=h;unfold Kh;exact ip ds hs
theorem ip{K:W.Frag}:∀(ds:List Da){vs:List V},n8 K H ds vs->kT ds ds=true
 |[],_,_=>by unfold kT;rfl
 |d::ds,vs,h=>by unfold n8 at h;obtain⟨_,_,_,h1,h2⟩:=h;unfold kT;rw[jR d h1,ip ds h2];rfl
end
theorem fD:∀(ds es:List Da),ds.length=es.length->(List.range ds.length).all (λj=>match ds[j]?,es[j]? with|some a,some b=>Kh a b|_,_=>false)=kT ds es
 |[],[],_=>by unfold kT;rfl
 |[],_::_,h=>by simp at h
 |_::_,[],h=>by simp at h
 |d::ds,e::es,h=>by have ih:=fD ds es (by simpa using h);unfold kT;rw[<-ih,aac,adP,adG,ac8];simp only[List.getElem?_cons_zero,Function.comp_def,List.getElem?_cons_succ]
theorem fB:∀(ds es:List Da),ds.length≠es.length->kT ds es=false
 |[],[],h=>by simp at h
 |[],_::_,_=>by unfold kT;rfl
 |_::_,[],_=>by unfold kT;rfl
 |d::ds,e::es,h=>by unfold kT;rw[fB ds es (by simpa using h),acm]
theorem nP:∀{ds:List Da}{d:Da}{j:Nat},ds[j]?=some d->wR d<=iu ds
 |[],_,_,h=>by simp at h
 |d::ds,_,0,h=>by
  simp at h;subst h;unfold iu
  lia
 |d::ds,e,j+1,h=>by
  have:=nP (ds:=ds) (d:=e) (j:=j) (by simpa using h);unfold iu
  lia
noncomputable def Py(ds es:List Da)(j:Nat):Bool:=match ds[j]?,es[j]? with
 |some a,some b=>Kh a b
 |_,_=>false
theorem sW{A:Around}(hE:∀(d e:Da) (v x:V) (u w:Value),wR d<=n->B4 K H d v->B4 K H e x->RelV v u->RelV x w->SeqAt.EqAt A s u w (Kh d e)){es:List Da}{ys:List V}(W2:iu ds<=n)(h1:n8 K H ds xs)(h2:n8 K H es ys)(r1:Vals xs us)(r2:Vals ys ws)(j:Nat)(l1:j<us.toArray.size)(l2:j<ws.toArray.size):SeqAt.EqAt A s us.toArray[j] ws.toArray[j] (Py ds es j):=by
 have l1':j<us.length:=by simpa using l1
 have l2':j<ws.length:=by simpa using l2
 have q1:=h1.len;have q2:=h2.len;have q3:=r1.length;have q4:=r2.length;have a1:ds[j]?=some ds[j]:=aa3 (by lia);have a2:es[j]?=some es[j]:=aa3 (by lia);have a3:xs[j]?=some xs[j]:=aa3 (by lia);have a4:ys[j]?=some ys[j]:=aa3 (by lia);obtain⟨u1,b1,c1⟩:=r1.get a3;obtain⟨w1,b2,c2⟩:=r2.get a4;have e1:us.toArray[j]=u1:=by
  have:us[j]=u1:=by rw[aa3 l1']at b1;exact aaq b1
  simpa using this
 have e2:ws.toArray[j]=w1:=by
  have:ws[j]=w1:=by rw[aa3 l2']at b2;exact aaq b2
  simpa using this
 rw[e1,e2];unfold Py;rw[a1,a2];exact hE ds[j] es[j] _ _ _ _ (abb (nP a1) W2) (h1.get a1 a3) (h2.get a2 a4) c1 c2
theorem DV(I:Inv X pins σ H s):∀(n:Nat)(d e:Da){A:Around}{v x:V}{u w:Value},wR d<=n->B4 X.K H d v->B4 X.K H e x->RelV v u->RelV x w->A.units+n<cLine->SeqAt.EqAt A s u w (Kh d e):=by
 intro n;induction n with
 |zero=>
  intro d e A v x u w hn hd he ru Ih hu;cases d with
  |tup ds=>unfold wR at hn;lia
  |lst ds=>unfold wR at hn;lia
  |fl y=>
   unfold B4 at hd;obtain⟨rfl,fy⟩:=hd;cases e with
   |fl z=>
    unfold B4 at he;obtain⟨rfl,fz⟩:=he;unfold Kh;exact ya ru Ih fy fz
   |tup es=>
    unfold B4 at he;obtain⟨a,xs,rfl,ha,_⟩:=he;obtain⟨d7,_,p,_⟩:=I.tuple ha;cases Ih;have p':s.heap.IsTuple a d7.toArray:=p;cases v with
    |o_=>cases ru;exact SeqAt.EqAt.none_tuple p' (by lia)
    |bl b=>cases ru;exact SeqAt.EqAt.bool_tuple b p' (by lia)
    |int i=>obtain⟨t,rfl⟩:=ru;exact SeqAt.EqAt.int_tuple i t p' (by lia)
    |str z=>obtain⟨t,rfl⟩:=ru;exact SeqAt.EqAt.str_tuple z t p' (by lia)
    |_=>exact absurd (show false=true from fy) aaw
   |lst es=>
    unfold B4 at he;obtain⟨a,xs,rfl,ha,_⟩:=he;obtain⟨d7,_,p,_⟩:=I.list ha;cases Ih;have p':=p.isList;cases v with
    |o_=>cases ru;exact SeqAt.EqAt.none_list p' (by lia)
    |bl b=>cases ru;exact SeqAt.EqAt.bool_list b p' (by lia)
    |int i=>obtain⟨t,rfl⟩:=ru;exact SeqAt.EqAt.int_list i t p' (by lia)
    |str z=>obtain⟨t,rfl⟩:=ru;exact SeqAt.EqAt.str_list z t p' (by lia)
    |_=>exact absurd (show false=true from fy) aaw
 |succ n ih=>
  intro d e A v x u w hn hd he ru Ih hu;have items:∀{ds es:List Da}{xs ys:List V}{us ws:List Value},iu ds<=n->n8 X.K H ds xs->n8 X.K H es ys->Vals xs us->Vals ys ws ->
   ∀j (h1:j<us.toArray.size) (h2:j<ws.toArray.size),SeqAt.EqAt A.in1 s us.toArray[j] ws.toArray[j] (Py ds es j):=
   sW (n:=n) λd e v x u w h1 h2 h3 h4 h5=>ih d e h1 h2 h3 h4 h5 (by show A.units+1+n<cLine;lia)
  cases d with
  |fl y=>
   exact ih (.fl y) e (by unfold wR;lia) hd he ru Ih (by lia)
  |tup ds=>
   cases e with
   |fl z=>
    unfold B4 at hd he;obtain⟨a,xs,rfl,ha,_⟩:=hd;obtain⟨rfl,fz⟩:=he;obtain⟨d7,_,p,_⟩:=I.tuple ha;cases ru;have p':s.heap.IsTuple a d7.toArray:=p;cases x with
    |o_=>cases Ih;exact SeqAt.EqAt.tuple_none p' (by lia)
    |bl b=>cases Ih;exact SeqAt.EqAt.tuple_bool b p' (by lia)
    |int i=>obtain⟨t,rfl⟩:=Ih;exact SeqAt.EqAt.tuple_int i t p' (by lia)
    |str z=>obtain⟨t,rfl⟩:=Ih;exact SeqAt.EqAt.tuple_str z t p' (by lia)
    |_=>exact absurd (show false=true from fz) aaw
   |tup es=>
    have W5:=hd;have he0:=he;unfold B4 at hd he;obtain⟨a,xs,rfl,ha,hs⟩:=hd;obtain⟨b,ys,rfl,hb,qs⟩:=he;cases ru;cases Ih;by_cases RB:a=b
    ·subst RB;rw[<-B4.inj I (.tup ds) (.tup es) W5 he0,jR _ W5];exact adJ _
    ·obtain⟨us,r1,p1,_⟩:=I.tuple ha;obtain⟨ws,r2,p2,_⟩:=I.tuple hb;have W2:iu ds<=n:=by unfold wR at hn;lia
     have key:=SeqAt.RcAt.tuples (A:=A) (e:=Py ds es) (show s.heap.IsTuple a us.toArray from p1) (show s.heap.IsTuple b ws.toArray from p2) (by lia) (items W2 hs qs r1 r2);have ev:((List.range (min us.toArray.size ws.toArray.size)).all (Py ds es)&&us.toArray.size == ws.toArray.size)=Kh (.tup ds) (.tup es):=by
      have q1:=hs.len;have q2:=qs.len;have q3:=r1.length;have q4:=r2.length;have z1:us.toArray.size=ds.length:=by simp;lia
      have z2:ws.toArray.size=es.length:=by simp;lia
      unfold Kh;rw[z1,z2];by_cases hl:ds.length=es.length
      ·rw[<-fD ds es hl,hl,Nat.min_self,beq_self_eq_true,Bool.and_true];rfl
      ·rw[fB ds es hl,beq_eq_false_iff_ne.mpr hl,acm]
     rw[ev]at key;exact adl RB key
   |lst es=>
    unfold B4 at hd he;obtain⟨a,xs,rfl,ha,hs⟩:=hd;obtain⟨b,ys,rfl,hb,qs⟩:=he;cases ru;cases Ih;obtain⟨us,r1,p1,_⟩:=I.tuple ha;obtain⟨ws,r2,p2,_⟩:=I.list hb;unfold Kh;exact SeqAt.EqAt.tuple_list (show s.heap.IsTuple a us.toArray from p1) p2.isList (by lia)
  |lst ds=>
   cases e with
   |fl z=>
    unfold B4 at hd he;obtain⟨a,xs,rfl,ha,_⟩:=hd;obtain⟨rfl,fz⟩:=he;obtain⟨d7,_,p,_⟩:=I.list ha;cases ru;have p':=p.isList;cases x with
    |o_=>cases Ih;exact SeqAt.EqAt.list_none p' (by lia)
    |bl b=>cases Ih;exact SeqAt.EqAt.list_bool b p' (by lia)
    |int i=>obtain⟨t,rfl⟩:=Ih;exact SeqAt.EqAt.list_int i t p' (by lia)
    |str z=>obtain⟨t,rfl⟩:=Ih;exact SeqAt.EqAt.list_str z t p' (by lia)
    |_=>exact absurd (show false=true from fz) aaw
   |tup es=>
    unfold B4 at hd he;obtain⟨a,xs,rfl,ha,hs⟩:=hd;obtain⟨b,ys,rfl,hb,qs⟩:=he;cases ru;cases Ih;obtain⟨us,r1,p1,_⟩:=I.list ha;obtain⟨ws,r2,p2,_⟩:=I.tuple hb;unfold Kh;exact SeqAt.EqAt.list_tuple p1.isList (show s.heap.IsTuple b ws.toArray from p2) (by lia)
   |lst es=>
    have W5:=hd;have he0:=he;unfold B4 at hd he;obtain⟨a,xs,rfl,ha,hs⟩:=hd;obtain⟨b,ys,rfl,hb,qs⟩:=he;cases ru;cases Ih;by_cases RB:a=b
    ·subst RB;rw[<-B4.inj I (.lst ds) (.lst es) W5 he0,jR _ W5];exact adJ _
    ·obtain⟨us,r1,p1,_⟩:=I.list ha;obtain⟨ws,r2,p2,_⟩:=I.list hb;have W2:iu ds<=n:=by unfold wR at hn;lia
     have q1:=hs.len;have q2:=qs.len;have q3:=r1.length;have q4:=r2.length;have z1:us.toArray.size=ds.length:=by simp;lia
     have z2:ws.toArray.size=es.length:=by simp;lia
     by_cases hl:ds.length=es.length
     ·have key:=SeqAt.RcAt.lists (A:=A) (e:=Py ds es) p1.isList p2.isList (by rw[z1,z2];exact hl) (by lia) (items W2 hs qs r1 r2);have ev:(List.range us.toArray.size).all (Py ds es)=Kh (.lst ds) (.lst es):=by
       unfold Kh;rw[z1,<-fD ds es hl];rfl
      rw[ev]at key;exact adl RB key
     ·have key:=SeqAt.RcAt.lists_lengths (A:=A) p1.isList p2.isList (by rw[z1,z2];exact bne_iff_ne.mpr hl) (by lia);have ev:false=Kh (.lst ds) (.lst es):=by
       unfold Kh;rw[fB ds es hl]
      rw[ev]at key;exact adl RB key
theorem Ft{es:List Da}(q1:ds.length=us.length)(q2:es.length=ws.length):((List.range (min us.toArray.size ws.toArray.size)).all (Py ds es)&&us.toArray.size == ws.toArray.size)=kT ds es:=by
 have z1:us.toArray.size=ds.length:=by simp;lia
 have z2:ws.toArray.size=es.length:=by simp;lia
 rw[z1,z2];by_cases hl:ds.length=es.length
 ·rw[<-fD ds es hl,hl,Nat.min_self,beq_self_eq_true,Bool.and_true];rfl
 ·rw[fB ds es hl,beq_eq_false_iff_ne.mpr hl,acm]
noncomputable def EU(K:W.Frag)(f:Bool->Bool):R2:=λx y H Q=>∃a b xs ys ds es,x=.ref a/\y=.ref b/\((k_ K H a xs/\k_ K H b ys)\/(c_ K H a xs/\c_ K H b ys))/\n8 K H ds xs/\n8 K H es ys/\iu ds<=50/\Q (.bl (f (kT ds es))) H
theorem Dd(hu:X.A.units+64<cLine):GK X (compareOp .Eq) (EU X.K id):=by
 intro pins s σ H x y v u Q I rx ry h;obtain⟨a,b,xs,ys,ds,es,rfl,rfl,hq,hs,qs,hd,q⟩:=h;cases rx;cases ry;have items:=λ{us ws:List Value}(r1:Vals xs us)(r2:Vals ys ws)=>sW (s:=s) (H:=H) (n:=50) (A:=X.A.in1) (λd e v x u w h1 h2 h3 h4 h5=>DV I 50 d e h1 h2 h3 h4 h5 (by show X.A.units+1+50<cLine;lia)) hd hs qs r1 r2;rcases hq with⟨ha,hb⟩|⟨ha,hb⟩
 ·obtain⟨us,r1,p1,_⟩:=I.tuple ha;obtain⟨ws,r2,p2,_⟩:=I.tuple hb;refine SeqAt.eq_tupleAt (e:=Py ds es) (show s.heap.IsTuple a us.toArray from p1) (show s.heap.IsTuple b ws.toArray from p2) (by lia) (items r1 r2) ?_;rw[Ft (hs.len.trans r1.length) (qs.len.trans r2.length)];exact⟨.bl _,H,I,rfl,q⟩
 ·obtain⟨us,r1,p1,_⟩:=I.list ha;obtain⟨ws,r2,p2,_⟩:=I.list hb;have z1:us.toArray.size=ds.length:=by have q1:=hs.len;have q3:=r1.length;simp;lia
  have z2:ws.toArray.size=es.length:=by have q1:=qs.len;have q3:=r2.length;simp;lia
  by_cases hl:ds.length=es.length
  ·refine SeqAt.eq_listAt (e:=Py ds es) p1.isList p2.isList (by rw[z1,z2];exact hl) (by lia) (items r1 r2) ?_;have ev:(List.range us.toArray.size).all (Py ds es)=kT ds es:=by
    rw[z1,<-fD ds es hl];rfl
   rw[ev];exact⟨.bl _,H,I,rfl,q⟩
  ·refine SeqAt.eq_list_lengthsAt p1.isList p2.isList (by rw[z1,z2];exact bne_iff_ne.mpr hl) (by lia) ?_;have ev:false=kT ds es:=(fB ds es hl).symm;rw[ev];exact⟨.bl _,H,I,rfl,q⟩
end
theorem iz(env:Env):∀(names:List (Str×NameKind))(cs:List (Str×Addr)),(∀x,(x,NameKind.free)∈names->∃c,env.cells.lookup x=some c) ->
 (∀x c,cs.lookup x=some c->env.cells.lookup x=some c) ->
 ∃cl:List (Str×Addr),(forIn names cs λ(x:Str×NameKind)(r:List (Str×Addr))=>if(x.snd == NameKind.free)=true then do let a <- cellOf env x.fst;pure (ForInStep.yield ((x.fst,a)::r))else(pure (ForInStep.yield r):Sem _))=(pure cl:Sem _) /\
  (∀x c,cl.lookup x=some c->env.cells.lookup x=some c)/\∀x,((x,NameKind.free)∈names\/∃c,cs.lookup x=some c)->∃c,cl.lookup x=some c
 |[],cs,_,h2=>⟨cs,rfl,h2,λx hx=>hx.elim (λz=>nomatch z) λz=>z⟩
 |(n,k)::r,cs,h1,h2=>by
  cases hk:(k == NameKind.free)with
  |true=>
   have ek:k=.free:=by simpa using hk
   subst ek;obtain⟨c,hc⟩:=h1 n aap;obtain⟨cl,e,a,b⟩:=iz env r ((n,c)::cs) (λx hx=>h1 x (aah _ hx)) (λx d hd=>by
    rw[abf]at hd;cases hx:x == n with
    |true=>
     rw[hx]at hd;have:x=n:=by simpa using hx
     subst this;cases hd;exact hc
    |false=>rw[hx]at hd;exact h2 x d hd)
   refine⟨cl,?_,a,λx hx=>b x ?_⟩
   ·rw[<-e,acC];have IW:cellOf env n=pure c:=by unfold cellOf;rw[hc]
    simp only[hk,acx];rw[IW];rfl
   ·rcases hx with hx|⟨d,hd⟩
    ·rcases List.mem_cons.mp hx with q|q
     ·cases q;exact .inr ⟨c,by rw[abf];simp⟩
     ·exact .inl q
    ·refine .inr ?_;rw[abf];cases hx:x == n with
     |true=>exact⟨c,rfl⟩
     |false=>exact⟨d,hd⟩
  |false=>
   obtain⟨cl,e,a,b⟩:=iz env r cs (λx hx=>h1 x (aah _ hx)) h2;refine⟨cl,?_,a,λx hx=>b x ?_⟩
   ·rw[<-e,acC];simp only[hk,Bool.false_eq_true,if_false];rfl
   ·rcases hx with hx|hx
    ·rcases List.mem_cons.mp hx with q|q
     ·cases q;simp at hk
     ·exact .inl q
    ·exact .inr hx
variable{env:Env}
def AU{scope:Scope}(h1:∀x,(x,NameKind.free)∈scope.names->∃c,env.cells.lookup x=some c):
 ∃cl:List (Str×Addr),closureFor scope env=pure cl/\(∀x c,cl.lookup x=some c->env.cells.lookup x=some c)/\∀x,(x,NameKind.free)∈scope.names->∃c,cl.lookup x=some c:=by
 obtain⟨cl,e,a,b⟩:=iz env scope.names [] h1 (λx c h=>by simp at h);refine⟨cl,?_,a,λx hx=>b x (.inl hx)⟩;simp only[closureFor];rw[e];rfl
noncomputable def Cx.comp(X:Cx)(sc:Scope)(cl:List (Str×Addr))(C:Addr)(N:List Str)(s:Shared)(H:Hp)(fp:List Addr):Cx:=
 { X with N:=N,s₀:=s,H₀:=H,env:=compEnvC sc cl C X.env,outer:=X.stack,ex:=fp,fn:=λ_=>false,pn:=[],xe:=λ_ _=>False }
noncomputable def t8(N:List Str)(Lb sc:Scope)(t:Str)(ys:List Str)(js:List Nat):Bool:=
 sc.kind == .function&&sc.names.all (λy=>y.2 != .cell)&&sc.names.all (λy=>y.2 != .local||sc.names.lookup y.1 == some .local) &&
 sc.names.all (λy=>y.2 != .free||Lb.names.lookup y.1 == some .cell)&&(ys.map some == js.map λj=>N[j]?) &&
 ys.all (λy=>sc.names.lookup y == some .free)&&sc.names.lookup t == some .local&&decide ((t::ys).Nodup)
structure El(N:List Str)(Lb sc:Scope)(t:Str)(ys:List Str)(js:List Nat):Prop where
 kind:sc.kind=.function
 N_:∀y∈sc.names,y.2≠.cell
 loc:∀y∈sc.names,y.2=.local->sc.names.lookup y.1=some .local
 fre:∀y∈sc.names,y.2=.free->Lb.names.lookup y.1=some .cell
 ysj:ys.map some=js.map λj=>N[j]?
 ysf:∀y∈ys,sc.names.lookup y=some .free
 tl:sc.names.lookup t=some .local
 nd:(t::ys).Nodup
variable{js:List Nat}{ys N:List Str}{sc Lb:Scope}
def iy{t:Str}(h:t8 N Lb sc t ys js=true):El N Lb sc t ys js:=by unfold t8 at h;simp only[aaU,abK,aau,abg,bne_iff_ne,ack]at h;obtain⟨⟨⟨⟨⟨⟨⟨a,b⟩,c⟩,d⟩,e⟩,f⟩,g⟩,i⟩:=h;exact⟨a,λy hy=>b y hy,λy hy z=>(c y hy).resolve_left λq=>q z,λy hy z=>(d y hy).resolve_left λq=>q z,e,f,g,i⟩
noncomputable def cP(js:List Nat)(σ:St):St:=js.map λj=>(σ[j]?).join
theorem dY{env:Env}{x:Str}:∀{names:List (Str×NameKind)}{k:NameKind},(names.map λ(n,k)=>if(k == NameKind.free&&env.scope.kind == .function&&env.kindOf n == some .cell)then(n,NameKind.cell)else(n,k)).lookup x=some k ->
 names.lookup x=some k\/(k=.cell/\names.lookup x=some .free)
 |[],_,h=>by simp at h
 |(n,q)::r,k,h=>by
  have ih:=@dY env x r k;have h':List.lookup x ((if(q == NameKind.free&&env.scope.kind == .function&&env.kindOf n == some .cell)=true then(n,NameKind.cell)else(n,q))::_)=some k:=h;cases hx:x == n with
  |true=>
   by_cases hc:(q == NameKind.free&&env.scope.kind == .function&&env.kindOf n == some .cell)=true
   ·rw[aaX hc]at h';simp only[abf,hx]at h'⊢;have eq:q=.free:=by simp only[aaU,ack]at hc;exact hc.1.1
    cases h';exact .inr ⟨rfl,by rw[eq]⟩
   ·rw[aaK hc]at h';simp only[abf,hx]at h'⊢;exact .inl h'
  |false=>
   by_cases hc:(q == NameKind.free&&env.scope.kind == .function&&env.kindOf n == some .cell)=true
   ·rw[aaX hc]at h';simp only[abf,hx]at h'⊢;exact ih h'
   ·rw[aaK hc]at h';simp only[abf,hx]at h'⊢;exact ih h'
theorem fS{env:Env}{x:Str}:∀{names:List (Str×NameKind)},names.lookup x=some .free ->
 (names.map λ(n,k)=>if(k == NameKind.free&&env.scope.kind == .function&&env.kindOf n == some .cell)then(n,NameKind.cell)else(n,k)).lookup x=some .cell \/
 (names.map λ(n,k)=>if(k == NameKind.free&&env.scope.kind == .function&&env.kindOf n == some .cell)then(n,NameKind.cell)else(n,k)).lookup x=some .free
 |[],h=>by simp at h
 |(n,q)::r,h=>by
  have ih:=@fS env x r;show List.lookup x ((if(q == NameKind.free&&env.scope.kind == .function&&env.kindOf n == some .cell)=true then(n,NameKind.cell)else(n,q))::_)=some .cell\/List.lookup x ((if(q == NameKind.free&&env.scope.kind == .function&&env.kindOf n == some .cell)=true then(n,NameKind.cell)else(n,q))::_)=some .free;cases hx:x == n with
  |true=>
   simp only[abf,hx]at h;cases h;by_cases hc:(NameKind.free == NameKind.free&&env.scope.kind == .function&&env.kindOf n == some .cell)=true
   ·rw[aaX hc];exact .inl (by simp only[abf,hx])
   ·rw[aaK hc];exact .inr (by simp only[abf,hx])
  |false=>
   simp only[abf,hx]at h;by_cases hc:(q == NameKind.free&&env.scope.kind == .function&&env.kindOf n == some .cell)=true
   ·rw[aaX hc];simp only[abf,hx];exact ih h
   ·rw[aaK hc];simp only[abf,hx];exact ih h
def P6(X:Cx)(ifs:List Expr)(t:TT):Prop:=
 ∀(pins:List (Addr×Obj))(s:Shared)(σ:St)(H:Hp)(Q:Bool->Hp->Prop),Inv X pins σ H s->t σ H Q ->
  wpAny (model X.prog X.w) X.A (forIn ifs true λc r=>if r=true then do let ok <- isTrue c X.env (eval c X.env);pure (ForInStep.yield ok)else pure (ForInStep.yield r)) (TP X pins σ Q) X.xe s
def HE:TT:=λ_ H Q=>Q true H
variable{X:Cx}
def Qk:P6 X [] HE:=λ_ _ _ H _ I h=>wpAny_tests_nil ⟨H,I,h⟩
variable{c:Expr}
def Qj{t:TT}(h:PT X c t):P6 X [c] t:=λpins s σ H Q I q=>wpAny_tests_one (h pins s σ H Q I q)
theorem mr{prog:Program}{w:World}{A:Around}{R:Result->Shared->Prop}{s:Shared}{elt target iter:Expr}{ifs:List Expr}{scope:Scope}{pos:Pos}{it acc:Value}{env:Env}(EI:Value->Shared->Prop)(err:∀e s',EI e s'->notedBy (model prog w) A env (λx He=>R (.error x) He) e s')(J:Nat->Shared->Prop)(turn:∀n s0,J n s0->wpAny (model prog w) A (pyNext it) (λr s1=>match r with
 |none=>R (.ok .next) s1
 |some v=>wpAny (model prog w) A (letOwnedTupleGo target it v) (λ_ s2=>wpAny (model prog w) A (assign target env v) (λ_ s3=>
  wpAny (model prog w) A (forIn ifs true λc r=>if r=true then do let ok <- isTrue c env (eval c env);pure (ForInStep.yield ok)else pure (ForInStep.yield r)) (λok s4=>
   if ok=true then wpAny (model prog w) A (eval elt env) (λx s5=>
    wpAny (model prog w) A (call (.builtin "list.append") [acc,x]) (λ_ s6=>∃m,m<n/\J m s6) EI s5) EI s4
   else∃m,m<n/\J m s4) EI s3) EI s2) EI s1) EI s0)(n:Nat)(h:J n s):codeAny (model prog w) A (.compLoop (.ListComp elt [⟨target,iter,ifs,0⟩] scope pos) 0 it acc env) R s:=by
 have up:∀{α:Type}{t:Sem α}{Q Q':α->Shared->Prop}{s0:Shared},wpAny (model prog w) A t Q EI s0->(∀a s',Q a s'->Q' a s')->wpAny (model prog w) A t Q' (notedBy (model prog w) A env (λx He=>R (.error x) He)) s0:=
  λh0 hq=>abP h0 hq err
 refine codeAny_loop rfl J ?_ n h;intro k s0 hJ;show wpAny _ A ((compTurn (.ListComp elt [⟨target,iter,ifs,0⟩] scope pos) 0 it acc env).onRaise (λx=>do noteFrame x env;theTreesLotGoes x)) _ _ s0;refine wpAny_noted ?_;rw[compTurn_list];refine aae (adh (aae (up (turn k s0 hJ) λr s1 h1=>?_)));cases r with
 |none=>exact aaR h1
 |some v=>
  refine aae (up h1 λ_ s2 h2=>aae (up h2 λ_ s3 h3=>aae (up h3 λok s4 h4=>?_)));cases ok with
  |false=>exact aaR ⟨rfl,h4⟩
  |true=>exact aae (aae (up h4 λx s5 h5=>aae (up h5 λ_ s6 h6=>aaR (aaR ⟨rfl,h6⟩))))
def jZ(J:It)(js:List Nat)(tc:TT)(te:TE)(σ:St)(Q:VK)(D:Addr)(H1:Hp):Prop:=∃W:Nat->Nat->List V->Hp->Prop,(∃m,W 0 m [] (upd H1 D (.lst []))) /\
 ∀i m acc H,W i m acc H->H D=some (.lst acc)/\acc.length<sizeLine/\((J.stop i H/\Q (.ref D) H)\/(J.go i H/\∀x H',J.P7 i H x H'->tc (some x::cP js σ) H' λc H3=>
  if c=true then te (some x::cP js σ) H3 λy H4=>H4 D=some (.lst acc)/\∃m',m'<m/\W (i+1) m' (acc++[y]) (upd H4 D (.lst (acc++[y])))else∃m',m'<m/\W (i+1) m' acc H3))
def HX(wi:TI)(js:List Nat)(tc:TT)(te:TE):TE:=λσ H Q=>wi σ H λJ H1=>∀D,H1 D=none->jZ J js tc te σ Q D H1
noncomputable def cC(N:List Str)(Lb sc:Scope)(ts ys:List Str)(js:List Nat):Bool:=
 sc.kind == .function&&sc.names.all (λy=>y.2 != .cell)&&sc.names.all (λy=>y.2 != .local||sc.names.lookup y.1 == some .local) &&
 sc.names.all (λy=>y.2 != .free||Lb.names.lookup y.1 == some .cell)&&(ys.map some == js.map λj=>N[j]?) &&
 ys.all (λy=>sc.names.lookup y == some .free)
structure Bg(N:List Str)(Lb sc:Scope)(ys:List Str)(js:List Nat):Prop where
 kind:sc.kind=.function
 N_:∀y∈sc.names,y.2≠.cell
 loc:∀y∈sc.names,y.2=.local->sc.names.lookup y.1=some .local
 fre:∀y∈sc.names,y.2=.free->Lb.names.lookup y.1=some .cell
 ysj:ys.map some=js.map λj=>N[j]?
 ysf:∀y∈ys,sc.names.lookup y=some .free
variable{ts:List Str}
def qt(h:cC N Lb sc ts ys js=true):Bg N Lb sc ys js:=by unfold cC at h;simp only[aaU,abK,aau,abg,bne_iff_ne,ack]at h;obtain⟨⟨⟨⟨⟨a,b⟩,c⟩,d⟩,e⟩,f⟩:=h;exact⟨a,λy hy=>b y hy,λy hy z=>(c y hy).resolve_left λq=>q z,λy hy z=>(d y hy).resolve_left λq=>q z,e,f⟩
def ol(J:It)(g:TG)(n:Nat)(js:List Nat)(tc:TT)(te:TE)(σ:St)(Q:VK)(D:Addr)(H1:Hp):Prop:=∃W:Nat->Nat->List V->Hp->Prop,(∃m,W 0 m [] (upd H1 D (.lst []))) /\
 ∀i m acc H,W i m acc H->H D=some (.lst acc)/\acc.length<sizeLine/\((J.stop i H/\Q (.ref D) H)\/(J.go i H/\∀x H',J.P7 i H x H'->g x (List.replicate n none++cP js σ) H' λNm H6=>∃us:List (Option V),us.length=n/\Nm=us++cP js σ/\tc Nm H6 λc H3=>
  if c=true then te Nm H3 λy H4=>H4 D=some (.lst acc)/\∃m',m'<m/\W (i+1) m' (acc++[y]) (upd H4 D (.lst (acc++[y])))else∃m',m'<m/\W (i+1) m' acc H3))
def fQ(wi:TI)(g:TG)(n:Nat)(js:List Nat)(tc:TT)(te:TE):TE:=λσ H Q=>wi σ H λJ H1=>∀D,H1 D=none->ol J g n js tc te σ Q D H1
noncomputable def Cx.B6(X:Cx)(xe:Value->Shared->Prop)(sc:Scope)(cl:List (Str×Addr))(C:Addr)(N:List Str)(s:Shared)(H:Hp)(fp:List Addr):Cx:={ X.comp sc cl C N s H fp with xe:=xe }
variable{pos p2:Pos}{te:TE}{tg iter elt:Expr}{ifs:List Expr}{tc:TT}{wi:TI}{H:Hp}{σ:St}{Q:VK}
theorem fF{g:TG}{use:Option (Value->Sem Unit)}{Qf:Value->Shared->Prop}{Bk:Addr->Shared->Hp->List Addr->Prop}{xf:Addr->Value->Shared->Prop}{pins:List (Addr×Obj)}{s:Shared}(hc:X.calm=true)(Ib:cC X.N X.env.scope sc ts ys js=true)(hi:PI X tg iter wi)(hg:∀cl C s H fp,PG (X.B6 (xf C) sc cl C (ts++ys) s H fp) tg g)(hf:∀cl C s H fp,P6 (X.B6 (xf C) sc cl C (ts++ys) s H fp) ifs tc)(he:∀cl C s H fp,Bk C s H fp->PE (X.B6 (xf C) sc cl C (ts++ys) s H fp) elt te)(hs:∀x,foldedSetIterable iter X.env x=pure x)(I:Inv X pins σ H s)(h:fQ wi g ts.length js tc te σ H Q)(hb:∀{C s2 H2 fp},Inv X pins σ H2 s2->(∀b∈fp,mz X pins H2 b)->s2.heap.objs.size<=C->Bk C s2 H2 fp)(err:∀cl C D e s',X.Ok->xf C e s'->notedBy (model X.prog X.w) X.A (compEnvC sc cl C X.env) (λx He=>compPost (model X.prog X.w) X.A X.xe use Qf (.ref D) C (.error x) He) e s')(fin:∀{D C H3 s4 m},Inv X pins σ H3 s4->mz X pins H3 C->s4.heap.Ns C m->Q (.ref D) H3->compPost (model X.prog X.w) X.A X.xe use Qf (.ref D) C (.ok .next) s4):
 wpAny (model X.prog X.w) X.A (comprehension (.ListComp elt [⟨tg,iter,ifs,0⟩] sc pos) sc X.env p2 (newList []) false (eval iter X.env) use) Qf X.xe s:=by
 have ck:=qt Ib;have H_:∀x,(x,NameKind.free)∈sc.names->∃c,X.env.cells.lookup x=some c:=λx hx=>I.ok.has x (.inl (ck.fre _ hx rfl));obtain⟨cl,Nc,RL,cl2⟩:=AU H_;refine wpAny_comprehension_free rfl hs Nc ck.kind ck.loc (j9 (hi pins s σ H _ I h) λv s1 h1=>j9 h1 λitv s2 h2=>?_);obtain⟨it,fp,tn,J,H2,e,I2,T,ZA,f2,hR⟩:=h2;subst e;refine ab8 (wpAny_newFunctionEnv ck.N_ (by intro y hy;simp at hy) (λh1 Ke Z'=>?_) ck.kind);dsimp only at Ke Z'⊢;generalize hp:s2.heap.push { cls:=.type "list",dict:=none,data:=.seq ([]:List Value).toArray }=hh at Ke Z'⊢;have hC:hh.objs.size=s2.heap.objs.size+1:=by rw[<-hp,abu]
 have neD:∀{b:Addr},b<s2.heap.objs.size->b≠s2.heap.objs.size:=λhb=>aaY hb;have N9:∀{b:Addr},b<s2.heap.objs.size->b≠hh.objs.size:=λhb=>by rw[hC];exact aaY (Nat.lt_succ_of_lt hb)
 have hDC:s2.heap.objs.size≠hh.objs.size:=by rw[hC];exact aaY (ada _)
 have QQ:s2.heap.objs.size<=hh.objs.size:=by rw[hC];exact aca _
 have old:∀b o,s2.heap.get? b=some o->h1.get? b=some o:=λb o e=>Z'.extBut b o (N9 (aao e)) (aag _ (hp▸aag _ e));have Ot:h1.get? s2.heap.objs.size=some { cls:=.type "list",dict:=none,data:=.seq ([]:List Value).toArray }:=Z'.extBut _ _ hDC (aag _ (hp▸aax _ rfl));have fpH:∀b∈fp,∃o,s2.heap.get? b=some o:=λb hb=>let⟨o,e,_⟩:=T.obj 0 _ ZA b hb;⟨o,e⟩
 have fpD:∀b∈fp,b≠s2.heap.objs.size:=λb hb=>by obtain⟨o,e⟩:=fpH b hb;exact neD (aao e)
 have fpC:∀b∈fp,b≠hh.objs.size:=λb hb=>by obtain⟨o,e⟩:=fpH b hb;exact N9 (aao e)
 have fpS:∀b∈fp,b∉u_ X.stack:=λb hb z=>(List.mem_cons.mp (I2.Lr b z)).elim (f2 b hb).2.1 (f2 b hb).2.2.1;have TH:(X.B6 (xf hh.objs.size) sc cl hh.objs.size (ts++ys) s2 H2 fp).Ok:=by
  refine⟨I2.ok.mod,ck.kind,I2.ok.glob,I2.ok.blt,QQ,λx y c a b=>I2.ok.inj x y c (RL x c a) (RL y c b),λx hx=>?_,(λx c z=>nomatch z),I2.ok.hd,I2.ok.frames,.inl rfl,λb hb=>⟨fpC b hb,λx c a=>(f2 b hb).2.2.2.2.1 x c (RL x c a)⟩,
   I2.bs,abb I2.ok.P1 I2.sz,λb o e hb=>?_,λb hb=>fpS b hb,I2.stack,I2.G6⟩
  ·have Tz:(sc.names.map λ(n,k)=>if(k == NameKind.free&&X.env.scope.kind == .function&&X.env.kindOf n == some .cell)then(n,NameKind.cell)else(n,k)).lookup x=some .cell\/(sc.names.map λ(n,k)=>if(k == NameKind.free&&X.env.scope.kind == .function&&X.env.kindOf n == some .cell)then(n,NameKind.cell)else(n,k)).lookup x=some .free:=hx;rcases Tz with z|z
   ·rcases dY z with q|⟨_,q⟩
    ·exact absurd rfl (ck.N_ _ (abh q))
    ·exact cl2 x (abh q)
   ·rcases dY z with q|⟨q,_⟩
    ·exact cl2 x (abh q)
    ·cases q
  ·rcases(f2 b hb).2.2.2.1 with z|z
   ·exact I2.ok.MU b o e z
   ·exact absurd (aav (aao e) (abb I2.ok.P1 z)) (abd _)
 have Iin:∀tk:Nat,Inv (X.B6 (xf hh.objs.size) sc cl hh.objs.size (ts++ys) s2 H2 fp) [] (List.replicate ts.length none++cP js σ) (upd H2 s2.heap.objs.size (.lst [])) { s2 with heap:=h1,toks:=tk }:=λtk=>by
  refine⟨TH,rfl,I2.bare,Un.laid old (aam _) I2.fresh,⟨_,Ke,λi x v e1 e2 e3=>?_⟩,λx c e=>?_,?_,λx c e=>?_,λp hp=>absurd (show p∈([]:List (Addr×Obj))from hp) (by simp),I2.h_.laid old (aam _) ⟨aa8 _,[],0,.nil,Ot⟩,?_⟩
  ·by_cases hik:i<ts.length
   ·rw[aa4 (by rw[aa5];exact hik),abT,aaX hik]at e2;cases e2
   ·obtain⟨k,rfl⟩:∃k,i=ts.length+k:=⟨i-ts.length,by lia⟩
    have e1':ys[k]?=some x:=by
     have:(ts++ys)[ts.length+k]?=some x:=e1;rw[aaz (by lia)]at this;rw[<-this];congr 1
     lia
    have _0:(cP js σ)[k]?=some (some v):=by
     rw[aaz (by rw[aa5];lia),aa5]at e2;rw[<-e2];congr 1
     lia
    unfold cP at _0;rw[aaI]at _0;have q:=aaN (λl=>l[k]?) ck.ysj;simp only[aaI,e1',Option.map_some]at q;cases hj:js[k]? with
    |none=>rw[hj]at q;cases q
    |some j=>
     rw[hj]at q _0;have q1:X.N[j]?=some x:=(aaq q).symm;have q2:σ[j]?=some (some v):=by
      have z:(σ[j]?).join=some v:=aaq _0;cases hz:σ[j]? with
      |none=>rw[hz]at z;cases z
      |some y=>rw[hz]at z;exact aaN some z
     have Ua:=ck.ysf x (aak e1');have IW:=ck.fre _ (abh Ua) rfl;obtain⟨m2,TQ,Nu⟩:=I2.loc;obtain⟨u,ru,lk⟩:=Nu j x v q1 q2 (.inr (.inl IW));refine⟨u,ru,?_⟩;rcases lk with⟨kk,_⟩|⟨_,c,ec,ic⟩
     ·have kk':X.env.scope.names.lookup x=some .local:=kk;have Ue:X.env.scope.names.lookup x=some .cell:=IW;rw[Ue]at kk';cases kk'
     ·obtain⟨c',ec'⟩:=cl2 x (abh Ua);have:c'=c:=aaq ((RL x c' ec').symm.trans ec);subst this;refine .inr ⟨fS Ua,c',ec',?_⟩;obtain⟨o,ho,hd⟩:=ic;exact⟨o,old _ o ho,hd⟩
  ·obtain⟨v,o,ho,hd⟩:=I2.cell x c (RL x c e);exact⟨v,o,old _ o ho,hd⟩
  ·show upd H2 s2.heap.objs.size _ hh.objs.size=none;rw[aw (abw hDC)];exact I2.h_.fresh QQ
  ·obtain⟨v,o,ho,hd⟩:=I2.cell x c (RL x c e);rw[aw (neD (aao ho))];exact I2.y9 x c (RL x c e)
  ·show(List.replicate ts.length none++cP js σ).length=(ts++ys).length;have q:=aaN List.length ck.ysj;simp only[aad]at q;unfold cP;simp only[aaa,aa5,aad]
   lia
 have A1:tn 0 h1:=T.keep _ _ _ ZA λb hb o e=>old b o e;obtain⟨W,⟨m0,w0⟩,turn⟩:=hR s2.heap.objs.size I2.fresh;have Up:∀{H':Hp},(∀b∈fp,H' b=none)->∀b∈fp,mz (X.B6 (xf hh.objs.size) sc cl hh.objs.size (ts++ys) s2 H2 fp) [] H' b:=λhn b hb=>
  ⟨hn b hb,fpC b hb,fpS b hb,.inl hb,λx c a=>(f2 b hb).2.2.2.2.1 x c (RL x c a),λp hp=>absurd (show p∈([]:List (Addr×Obj))from hp) (by simp)⟩
 have loop:∀s3:Shared,s3={ s2 with heap:=h1,toks:=s2.toks+([]:List (Str×Value)).length } ->
  codeAny (model X.prog X.w) X.A (.compLoop (.ListComp elt [⟨tg,iter,ifs,0⟩] sc pos) 0 (.ref it) (.ref s2.heap.objs.size) (compEnvC sc cl hh.objs.size X.env))
   (compPost (model X.prog X.w) X.A X.xe use Qf (.ref s2.heap.objs.size) hh.objs.size) s3:=by
  rintro s3 rfl;have blk:Bk hh.objs.size s2 H2 fp:=hb I2 f2 QQ;refine mr (X.B6 (xf hh.objs.size) sc cl hh.objs.size (ts++ys) s2 H2 fp).xe (λe s' z=>err _ _ _ _ _ I2.ok z) (λn s'=>∃i acc H',Inv (X.B6 (xf hh.objs.size) sc cl hh.objs.size (ts++ys) s2 H2 fp) [] (List.replicate ts.length none++cP js σ) H' s'/\tn i s'.heap/\(∀b∈fp,H' b=none)/\W i n acc H') ?_ m0
   ⟨0,[],_,Iin _,A1,λb hb=>by rw[aw (fpD b hb)];exact(f2 b hb).1,w0⟩
  rintro n s3 ⟨i,acc,H3,I3,SF,Xm,w3⟩;obtain⟨hD,hz,alt⟩:=turn i n acc H3 w3;rcases alt with⟨stop,q⟩|⟨go,step⟩
  ·refine j9 (T.done (X.B6 (xf hh.objs.size) sc cl hh.objs.size (ts++ys) s2 H2 fp) rfl rfl rfl hc i [] s3 _ H3 _ I3 (Up Xm) SF stop) λr s4 ⟨hr,I4⟩=>?_;subst hr;obtain⟨m,hn,_⟩:=id I4.loc;have b4:Un (u_ X.stack) fp H2 H3 s2.heap s4.heap:=I4.base;have I5:Inv X pins σ H3 s4:=I2.Pq (s':=s4) (ch:=fp) I4.os ⟨λb o e n1 n2 n3=>b4.keep b o e n1 n2 n3,λb o e n1 n2 n3=>b4.slot b o e n1 n2 n3,b4.free,λb o e n1=>b4.there b o e n1,b4.E8,b4.C_,b4.E9⟩ (λb ob e=>I4.h_ b ob e) I4.bare
    (λb hb=>⟨(f2 b hb).2.2.2.1,(f2 b hb).2.1,(f2 b hb).2.2.2.2.1,(f2 b hb).2.2.2.2.2⟩)
   exact fin I5 (I2.J3 QQ I4.free) hn q
  ·refine j9 (T.item (X.B6 (xf hh.objs.size) sc cl hh.objs.size (ts++ys) s2 H2 fp) rfl rfl rfl hc i [] s3 _ H3 _ I3 (Up Xm) SF go) λr s4 ⟨u,hr,h4⟩=>?_;subst hr;refine j9 h4 λ_ s5 ⟨x,H5,I5,r5,y5,SE,fr5⟩=>?_;have I5':=I5.pinned (Up fr5) (T.obj _ _ SE);refine j9 (hg _ _ _ _ _ _ s5 _ H5 x _ _ I5' r5 (step x H5 y5)) λ_ s6 ⟨Nm,H6,I6,us,hul,A3,q6⟩=>?_;subst A3;have again:∀{H7:Hp}{s7:Shared}{m':Nat}{Ux:List V},Inv (X.B6 (xf hh.objs.size) sc cl hh.objs.size (ts++ys) s2 H2 fp) ([]++ky fp s5.heap) (us++cP js σ) H7 s7->m'<n->W (i+1) m' Ux H7 ->
    ∃m,m<n/\∃i acc H',Inv (X.B6 (xf hh.objs.size) sc cl hh.objs.size (ts++ys) s2 H2 fp) [] (List.replicate ts.length none++cP js σ) H' s7/\tn i s7.heap/\(∀b∈fp,H' b=none)/\W i m acc H':=λ{H7 s7 m' Ux} I7 hm w7=>by
    refine⟨m',hm,i+1,Ux,H7,(I7.GQ).weak (by rw[aaa,aaa,aa5,hul]) (λk v e=>?_),T.keep _ _ _ SE λb hb o e=>(I7.pin (b,o) (aaT _ (aaT _ (dO hb e)))).1,λb hb=>?_,w7⟩
    ·by_cases hk:k<ts.length
     ·rw[aa4 (by rw[aa5];exact hk),abT,aaX hk]at e;cases e
     ·rw[aaz (by rw[aa5];lia),aa5]at e;rw[aaz (by lia),hul];exact e
    ·obtain⟨o,e,d⟩:=T.obj _ _ SE b hb;exact(I7.pin (b,o) (aaT _ (aaT _ (dO hb e)))).2.1
   refine j9 (hf _ _ _ _ _ _ s6 _ H6 _ I6 q6) λok s7 ⟨H7,I7,q7⟩=>?_;cases ok with
   |false=>
    obtain⟨m',hm,w7⟩:=q7;exact again I7 hm w7
   |true=>
    refine j9 (he _ _ _ _ _ blk _ s7 _ H7 _ I7 q7) λuy s8 ⟨y,H8,I8,r8,hD8,m',hm,w8⟩=>?_;refine j9 (bf (X:=X.B6 (xf hh.objs.size) sc cl hh.objs.size (ts++ys) s2 H2 fp) _ s8 _ H8 (.ref s2.heap.objs.size) [y] (.ref s2.heap.objs.size) [uy] (λ_ H9=>W (i+1) m' (acc++[y]) H9) I8 rfl (.cons r8 .nil) ⟨_,acc,y,rfl,rfl,hD8,hz,w8⟩) λ_ s9 ⟨_,H9,I9,_,q9⟩=>?_;exact again I9 hm q9
 exact codeAny_compStart_list (loop _ rfl) (T.self _ 0 _ _ _ A1 (loop _ rfl))
def mS{g:TG}(hc:X.calm=true)(Ib:cC X.N X.env.scope sc ts ys js=true)(hi:PI X tg iter wi)(hg:∀cl C s H fp,PG (X.comp sc cl C (ts++ys) s H fp) tg g)(hf:∀cl C s H fp,P6 (X.comp sc cl C (ts++ys) s H fp) ifs tc)(he:∀cl C s H fp,PE (X.comp sc cl C (ts++ys) s H fp) elt te)(hs:∀x,foldedSetIterable iter X.env x=pure x:=by intro _;rfl):PE X (.ListComp elt [⟨tg,iter,ifs,0⟩] sc pos) (fQ wi g ts.length js tc te):=by
 intro pins s σ H Q I h;rw[eval_ListComp];exact fF (xf:=λ_ _ _=>False) (Bk:=λ_ _ _ _=>True) hc Ib hi hg hf (λcl C s H fp _=>he cl C s H fp) hs I h (λ_ _ _=>trivial) (λ_ _ _ _ _ _ z=>z.elim)
  λ{D C H3 s4 m} I5 fC hn q=>⟨m,hn,λh' sb=>⟨.ref D,H3,I5.turned (t':=s4.toks) (λb o hb e=>(sb.2 b hb).trans e) fC.1 fC.2.1 fC.2.2.2.1 fC.2.2.2.2.1 fC.2.2.2.2.2,rfl,q⟩⟩
def mw{t:Str}(h:t8 N Lb sc t ys js=true):cC N Lb sc [t] ys js=true:=by unfold t8 at h;unfold cC;simp only[aaU]at h⊢;exact h.1.1
def AT{J:It}:jZ J js tc te=ol J (j4 0) 1 js tc te:=by
 funext σ Q D H1;exact propext ⟨λ⟨W,w0,hw⟩=>⟨W,w0,λi m acc H h=>let⟨a,b,c⟩:=hw i m acc H h;⟨a,b,c.imp_right λ⟨d,e⟩=>⟨d,λx H' y=>⟨[some x],rfl,rfl,e x H' y⟩⟩⟩⟩,
  λ⟨W,w0,hw⟩=>⟨W,w0,λi m acc H h=>let⟨a,b,c⟩:=hw i m acc H h;⟨a,b,c.imp_right λ⟨d,e⟩=>⟨d,λx H' y=>let⟨_,_,_,z⟩:=e x H' y;z⟩⟩⟩⟩
def lJ:HX wi js tc te=fQ wi (j4 0) 1 js tc te:=by unfold HX fQ;simp only[AT]
variable{px:Pos}
def Qo{t:Str}(hc:X.calm=true)(Ib:t8 X.N X.env.scope sc t ys js=true)(hi:PI X (.Name t px) iter wi)(hf:∀cl C s H fp,P6 (X.comp sc cl C (t::ys) s H fp) ifs tc)(he:∀cl C s H fp,PE (X.comp sc cl C (t::ys) s H fp) elt te)(hs:∀x,foldedSetIterable iter X.env x=pure x:=by intro _;rfl):PE X (.ListComp elt [⟨.Name t px,iter,ifs,0⟩] sc pos) (HX wi js tc te):=by have ck:=iy Ib;rw[lJ];exact mS (ts:=[t]) hc (mw Ib) hi (λ_ _ _ _ _=>Ip ck.nd rfl (.inl (abx ck.tl)) (.inr (abx ck.tl))) hf he hs
variable{i:Nat}{A B:Prop}
theorem wW{m:Nat}(hi:i<n)(hm:m=n-i)(a:A)(b:B):A/\∃m',m'<m/\(m'=n-(i+1)/\i+1<=n/\B):=⟨a,n-(i+1),by lia,rfl,hi,b⟩
variable{D:Addr}{H1:Hp}
theorem nU{lo:Int}(Pv:Nat->List V->Hp->Prop)(hz:n<sizeLine)(h0:Pv 0 [] (upd H1 D (.lst [])))(hl:∀i acc H,Pv i acc H->H D=some (.lst acc)/\acc.length=i)(hs:∀i m acc H,i<n->Pv i acc H->m=n-i->te (some (.int (lo+i))::cP js σ) H λy H4=>H4 D=some (.lst acc)/\∃m',m'<m/\(m'=n-(i+1)/\i+1<=n/\Pv (i+1) (acc++[y]) (upd H4 D (.lst (acc++[y])))))(hd:∀acc H,Pv n acc H->Q (.ref D) H):jZ (RT lo n) js HE te σ Q D H1:=by
 refine⟨λi m acc H=>m=n-i/\i<=n/\Pv i acc H,⟨n,by simp,aa8 _,h0⟩,?_⟩;rintro i m acc H ⟨hm,hi,p⟩;obtain⟨hD,hlen⟩:=hl i acc H p;refine⟨hD,by lia,?_⟩;by_cases q_:i<n
 ·refine .inr ⟨q_,λx H' y=>?_⟩;obtain⟨e,y⟩:=y;subst e y;unfold HE;dsimp only;rw[aaX rfl];exact hs i m acc _ q_ p hm
 ·have e:i=n:=by lia
  subst e;exact .inl ⟨aam _,hd acc H p⟩
theorem jU{a:Addr}(Pv:Nat->List V->Hp->Prop)(hz:xs.length<sizeLine)(h0:Pv 0 [] (upd H1 D (.lst [])))(hl:∀i acc H,Pv i acc H->H D=some (.lst acc)/\acc.length=i/\c_ K H a xs)(hs:∀i m x acc H,xs[i]?=some x->Pv i acc H->m=xs.length-i->te (some x::cP js σ) H λy H4=>H4 D=some (.lst acc)/\∃m',m'<m/\(m'=xs.length-(i+1)/\i+1<=xs.length/\Pv (i+1) (acc++[y]) (upd H4 D (.lst (acc++[y])))))(hd:∀acc H,Pv xs.length acc H->Q (.ref D) H):jZ (PB K a) js HE te σ Q D H1:=by
 refine⟨λi m acc H=>m=xs.length-i/\i<=xs.length/\Pv i acc H,⟨xs.length,by simp,aa8 _,h0⟩,?_⟩;rintro i m acc H ⟨hm,hi,p⟩;obtain⟨hD,hlen,hq⟩:=hl i acc H p;refine⟨hD,by lia,?_⟩;by_cases q_:i<xs.length
 ·refine .inr ⟨⟨xs,xs[i],hq,by simp[q_]⟩,λx H' y=>?_⟩;obtain⟨e,y⟩:=y;subst e;unfold HE;dsimp only;rw[aaX rfl];exact hs i m x acc _ (y xs hq) p hm
 ·have e:i=xs.length:=by lia
  subst e;exact .inl ⟨⟨xs,hq,aam _⟩,hd acc H p⟩
variable{E:Value->Shared->Prop}{w:World}
section
variable{X:Cx}
def Go:V->Option Int->Option Int->Hp->VK->Prop:=λx lo hi H Q=>∃z,x=.str z/\z.length<=sizeLine/\Q (.str (Txt.slice z lo hi)) H
theorem eK:_7 X Go:=by
 intro pins s σ H x v vl vu lo hi sl Q I rx hs pl pu h;obtain⟨z,rfl,hz,q⟩:=h;obtain⟨t,rfl⟩:=rx;have fin:∀(c:Prop)[Decidable c](y w:Str),(if c then y else w)=Txt.slice z lo hi->(if c then Made.val (.str y t)else Made.str w).post (EP X pins σ Q) s:=λc _ y w e=>
  post_val_or_str ⟨by rw[e];exact abb (Txt.slice_le z _ _) hz,λt' k=>by rw[e];exact⟨.str _,H,I.tok k,⟨t',rfl⟩,q⟩⟩
 refine⟨"str",_,F.slot_str_getitem.lookup,acs _ _ _,?_⟩;cases pl with
 |none=>
  cases pu with
  |none=>exact ab2 (l:=none) (u:=none) (st:=none) hs rfl (fin _ _ _ rfl)
  |int j tj=>exact ab2 (l:=none) (u:=some (j,tj)) (st:=none) hs rfl (fin _ _ _ rfl)
 |int i ti=>
  cases pu with
  |none=>exact ab2 (l:=some (i,ti)) (u:=none) (st:=none) hs rfl (fin _ _ _ rfl)
  |int j tj=>exact ab2 (l:=some (i,ti)) (u:=some (j,tj)) (st:=none) hs rfl (fin _ _ _ rfl)
theorem oz:∀{ys:List Str}{us:List Value},Vals (ys.map V.str) us->StrsAre us ys:=by
 intro ys;induction ys with
 |nil=>intro us r;rw[abJ]at r;cases r;exact .nil
 |cons n ns ih=>
  intro us r;rw[aaV]at r;cases r with
  |cons r1 r2=>
   obtain⟨t,e⟩:=r1;subst e;exact .cons n t (ih r2)
def CJ(K:W.Frag):V->List V->Hp->VK->Prop:=λx vs H Q=>∃z l ys,x=.str z/\vs=[.ref l]/\c_ K H l (ys.map V.str)/\(ys.map (·.length)).sum+ys.length*z.length<=16777216/\Q (.str (Txt.join z ys)) H
def lU:QY X "str.join" (CJ X.K):=by intro pins s σ H x vs v us Q I rx rv h;obtain⟨z,l,ys,rfl,rfl,hq,hz,q⟩:=h;obtain⟨t,rfl⟩:=rx;obtain⟨u,rfl,ru⟩:=rv.one;cases ru;obtain⟨d7,r,p,_⟩:=I.list hq;exact join_list p.isList (oz (by simpa using r)) hz λt' k=>⟨.str _,H,I.tok k,⟨t',rfl⟩,q⟩
def ae{p:Addr}(h:H p=none)(o:HO):b6 H (upd H p o):=λb u q=>by rw[aw (aS q h)];exact q
noncomputable def EW:R2:=λx y H Q=>∃a b xs ys,x=.ref a/\y=.ref b/\H a=some (.tup xs)/\H b=some (.tup ys)/\xs.length+ys.length<=sizeLine /\
 ∀p H',b6 H H'->H' p=some (.tup (xs++ys))->Q (.ref p) H'
theorem wX{prog:Program}{A:Around}{s:Shared}{t b:Addr}{vs:List Value}{Q:Value->Shared->Prop}(ht:IsTup s.heap t vs.toArray)(hb:IsTup s.heap b ws.toArray)(hv:vs=[])(h:Q (.ref b) s):
 wpAny (model prog w) A (binaryOp .Add (.ref t) (.ref b)) Q E s:=by
 obtain⟨⟨cls,dd,data,sl⟩,ho,hc,n,hd⟩:=id ht;obtain⟨⟨cls2,_1,data2,UL⟩,QH,W6,n2,hd2⟩:=id hb;simp only at hc hd W6 hd2;subst hc hd W6 hd2;refine concat_meets ⟨_,ho,rfl⟩ ⟨_,QH,rfl⟩ adC seq_tuple_add acy acv (acp _ _) (tuple_addW0 t b vs.toArray ws.toArray n n2 dd _1 sl UL (by simp[hv])) ⟨ho,QH,h⟩
def zt:GK X (binaryOp .Add) EW:=by
 intro pins s σ H x y v u Q I rx ry h;obtain⟨a,b,xs,ys,e1,e2,ha,hb,hz,q⟩:=h;by_cases hx:xs=[]
 ·subst e1 e2 hx;cases rx;cases ry;obtain⟨d7,r1,p1,_⟩:=I.tuple (.of ha);obtain⟨Oe,r2,p2,_⟩:=I.tuple (.of hb);exact wX p1 p2 (by cases r1;rfl) ⟨.ref b,H,I,rfl,q b H (b6.refl H) hb⟩
 ·refine zq pins s σ H x y v u Q I rx ry ⟨a,b,xs,ys,e1,e2,.of ha,.of hb,hx,hz,λhy=>q a H (b6.refl H) (by rw[hy,aaW];exact ha),λ_ p hp=>q p _ (ae hp _) aa⟩
def bF:t4 X (.builtin "isinstance") (λxs H Q=>∃x T t b,xs=[x,.ty T]/\qw X.K H x t/\PySem.W.kitOne X.K t (.type T)=some b/\Q (.bl b) H):=by intro pins s σ H xs us Q I r h;obtain⟨x,T,t,b,rfl,ty,e,q⟩:=h;obtain⟨u,w,rfl,ru,Ih⟩:=Bp r;cases Ih;exact sX I ru ty e λtk=>⟨.bl b,H,I.tok tk,rfl,q⟩
end
variable{p:Pos}{a e b v l f:Expr}{x:Str}{k:Nat}{o:List CmpOp}{s:Scope}
section
variable{X:Cx}{es:List Expr}{te:TE}{t:TA}{env:Env}
variable{a:List Expr}
def Eu:starEach (.Tuple a k p::es) env=(false,eval (.Tuple a k p) env)::starEach es env:=by first|rfl|(rw[starEach];intro _ _ z;cases z)
def paT(ha:PE X (.Tuple a k p) te)(hr:PA X es t):PA X (.Tuple a k p::es) (m6 te t):=cx ha hr Eu
def Ey:starEach (.List a p::es) env=(false,eval (.List a p) env)::starEach es env:=by first|rfl|(rw[starEach];intro _ _ z;cases z)
def paL(ha:PE X (.List a p) te)(hr:PA X es t):PA X (.List a p::es) (m6 te t):=cx ha hr Ey
def ED{c:Const}:starEach (.Constant c k p::es) env=(false,eval (.Constant c k p) env)::starEach es env:=by first|rfl|(rw[starEach];intro _ _ z;cases z)
def paC{c:Const}(ha:PE X (.Constant c k p) te)(hr:PA X es t):PA X (.Constant c k p::es) (m6 te t):=cx ha hr ED
def Ew:starEach (.Name x p::es) env=(false,eval (.Name x p) env)::starEach es env:=by first|rfl|(rw[starEach];intro _ _ z;cases z)
def paN(ha:PE X (.Name x p) te)(hr:PA X es t):PA X (.Name x p::es) (m6 te t):=cx ha hr Ew
def EE{r:Expr}{o:Operator}:starEach (.BinOp l o r p::es) env=(false,eval (.BinOp l o r p) env)::starEach es env:=by first|rfl|(rw[starEach];intro _ _ z;cases z)
def paB{r:Expr}{o:Operator}(ha:PE X (.BinOp l o r p) te)(hr:PA X es t):PA X (.BinOp l o r p::es) (m6 te t):=cx ha hr EE
def Ev{i:Expr}:starEach (.Subscript v i p::es) env=(false,eval (.Subscript v i p) env)::starEach es env:=by first|rfl|(rw[starEach];intro _ _ z;cases z)
def paS{i:Expr}(ha:PE X (.Subscript v i p) te)(hr:PA X es t):PA X (.Subscript v i p::es) (m6 te t):=cx ha hr Ev
variable{k:List Keyword}
def Ez:starEach (.Call f a k p::es) env=(false,eval (.Call f a k p) env)::starEach es env:=by first|rfl|(rw[starEach];intro _ _ z;cases z)
def paK(ha:PE X (.Call f a k p) te)(hr:PA X es t):PA X (.Call f a k p::es) (m6 te t):=cx ha hr Ez
def Ex{c:List Expr}:starEach (.Compare l o c p::es) env=(false,eval (.Compare l o c p) env)::starEach es env:=by first|rfl|(rw[starEach];intro _ _ z;cases z)
def paM{c:List Expr}(ha:PE X (.Compare l o c p) te)(hr:PA X es t):PA X (.Compare l o c p::es) (m6 te t):=cx ha hr Ex
def EB{a:Expr}:starEach (.IfExp c a b p::es) env=(false,eval (.IfExp c a b p) env)::starEach es env:=by first|rfl|(rw[starEach];intro _ _ z;cases z)
def paI{a:Expr}(ha:PE X (.IfExp c a b p) te)(hr:PA X es t):PA X (.IfExp c a b p::es) (m6 te t):=cx ha hr EB
def Et{o:UnaryOp}:starEach (.UnaryOp o v p::es) env=(false,eval (.UnaryOp o v p) env)::starEach es env:=by first|rfl|(rw[starEach];intro _ _ z;cases z)
def paU{o:UnaryOp}(ha:PE X (.UnaryOp o v p) te)(hr:PA X es t):PA X (.UnaryOp o v p::es) (m6 te t):=cx ha hr Et
def EC{g:List Comprehension}:starEach (.ListComp e g s p::es) env=(false,eval (.ListComp e g s p) env)::starEach es env:=by first|rfl|(rw[starEach];intro _ _ z;cases z)
def paE{g:List Comprehension}(ha:PE X (.ListComp e g s p) te)(hr:PA X es t):PA X (.ListComp e g s p::es) (m6 te t):=cx ha hr EC
def EA{v:List Expr}:starEach (.JoinedStr v p::es) env=(false,eval (.JoinedStr v p) env)::starEach es env:=by first|rfl|(rw[starEach];intro _ _ z;cases z)
def paJ{v:List Expr}(ha:PE X (.JoinedStr v p) te)(hr:PA X es t):PA X (.JoinedStr v p::es) (m6 te t):=cx ha hr EA
def EF{n:Str}:starEach (.Attribute v n p::es) env=(false,eval (.Attribute v n p) env)::starEach es env:=by first|rfl|(rw[starEach];intro _ _ z;cases z)
def paA{n:Str}(ha:PE X (.Attribute v n p) te)(hr:PA X es t):PA X (.Attribute v n p::es) (m6 te t):=cx ha hr EF
end
abbrev Big:Int:=1000000000000000000
def FX{c:Bool}(h:c=true)(q:A):if c=true then A else B:=by rw[aaX h];exact q
def FY{c:Bool}(h:c=false)(q:B):if c=true then A else B:=by rw[aaK (by rw[h];decide)];exact q
def me{p:Prop}[Decidable p](h:p)(q:A):if decide p=true then A else B:=by rw[aaX (aa0 h)];exact q
def kL{p:Prop}[Decidable p](h:¬p)(q:B):if decide p=true then A else B:=by rw[aaK (by rw[aaH h];decide)];exact q
def bI{p:Prop}[Decidable p](h1:p->A)(h2:¬p->B):if decide p=true then A else B:=by
 by_cases h:p
 ·exact me h (h1 h)
 ·exact kL h (h2 h)
section
variable{K:W.Frag}
def DA:PySem.W.kitOne K (.type "str") (.type "str")=some true:=by with_unfolding_all rfl
def Gy:PySem.W.kitOne K (.type "tuple") (.type "str")=some false:=by with_unfolding_all rfl
def DB:PySem.W.kitOne K (.type "int") (.type "str")=some false:=by with_unfolding_all rfl
def FV:PySem.W.kitOne K (.type "tuple") (.type "tuple")=some true:=by with_unfolding_all rfl
def FW:PySem.W.kitOne K (.type "int") (.type "tuple")=some false:=by with_unfolding_all rfl
def Gz:PySem.W.kitOne K (.type "int") (.type "int")=some true:=by with_unfolding_all rfl
def GA:PySem.W.kitOne K (.type "int") (.type "bool")=some false:=by with_unfolding_all rfl
def wm:n8 K H [] []:=by unfold n8;rfl
def ft{d:Da}{v:V}{vs:List V}(h:B4 K H d v)(t:n8 K H ds vs):n8 K H (d::ds) (v::vs):=by unfold n8;exact⟨_,_,rfl,h,t⟩
end
def aO(h:n<=100000):n<=sizeLine:=abb h (by decide)
def bX(h:n<=100000):n<sizeLine:=abp h (by decide)
def aL{H':Hp}{o:HO}(hn:H D=none)(s:b6 H H'):b6 H (upd H' D o):=λb u q=>by rw[aw (aS q hn)];exact s b u q
theorem db{n:Int}(h0:0<=n)(h1:n<Big):n.natAbs.log2<1920:=by
 have h:n.natAbs<2 ^ 60:=by
  have:n<1152921504606846976:=by have:Big=1000000000000000000:=rfl;lia
  have e:(2:Nat) ^ 60=1152921504606846976:=by decide
  lia
 by_cases z:n.natAbs=0
 ·rw[z];decide
 ·exact aav ((Nat.log2_lt z).mpr h) (by decide)
section
variable{X:Cx}
def qh{d7:List Value}{ns:List Int}(hi:IntsAre d7 ns):∃xs:Array (Int×Tok),d7.toArray=intItems xs/\ns=xs.toList.map (·.1):=by obtain⟨xs,e⟩:=hi.allInts.items;exact⟨xs,e,by rw[<-hi.numsOf,<-nums_intItems,<-e]⟩
theorem uh(hc:X.calm=true):t4 X (.builtin "max") (λxs H Q=>∃(p:Addr)(ns:List Int),xs=[.ref p]/\c_ X.K H p (ns.map V.int)/\ns≠[]/\∀M,M∈ns->(∀a∈ns,a<=M)->Q (.int M) H):=by
 intro pins s σ H xs us Q I r h;obtain⟨p,ns,rfl,hq,Ry,q⟩:=h;obtain⟨u,rfl,ru⟩:=oo r;cases ru;obtain⟨d7,rv,pl,_⟩:=I.list hq;obtain⟨xs,e,Ke⟩:=qh (qi rv);have hl:=pl.isList;rw[e]at hl;have M_:0<xs.size:=by have z:0<ns.length:=List.length_pos_iff.mpr Ry;rw[Ke,aad,abO]at z;exact z
 refine max_intList (I.ok.hd hc) hl M_ λv h' tk hv hk=>?_;obtain⟨t,rfl⟩:=intItems_at hv;obtain⟨h1,h2⟩:=argBest_gt (numAt xs) (xs.size-1);refine⟨.int _,H,I.kept hk,⟨t,rfl⟩,q _ ?_ λa ha=>?_⟩
 ·rw[Ke,numAt_eq];exact getD_mem (by rw[aad,abO];lia)
 ·rw[Ke]at ha;obtain⟨j,hj,rfl⟩:=mem_getD ha;rw[aad,abO]at hj;rw[<-numAt_eq];exact h2 j (by lia)
theorem dM:GK X (binaryOp .Mult) (λx y H Q=>∃z n,x=.str z/\y=.int n/\z.length<=1000/\n<=1000/\-1000<=n/\Q (.str (Txt.mul z n)) H):=by
 intro pins s σ H x y v u Q I rx ry h;obtain⟨z,n,rfl,rfl,h1,h2,h3,q⟩:=h;obtain⟨t,rfl⟩:=rx;obtain⟨t',rfl⟩:=ry;refine SB.mul ⟨?_,λhn _=>?_,λhn _=>?_⟩ λt' k=>⟨.str _,H,I.tok k,⟨t',rfl⟩,q⟩
 ·rw[aaH (by lia),aaH (by lia)];rfl
 ·have e:(1000:Int)<=(2 ^ 63-1) / n:=Int.le_ediv_of_mul_le (by lia) (by lia)
  lia
 ·have hle:z.length*n.toNat<=1000*1000:=Nat.mul_le_mul h1 (by lia);unfold PySem.Builtin.Str.tooLong;simp only[acr];rw[ac4]
  lia
end
section
variable{X:Cx}{K:W.Frag}
def sU(h:X.K=K):UB X (FO K):=h▸dX
def cW(h:X.K=K):UB X (FP K):=h▸aE
end
variable{α:Type}
def gN{xs:List α}{x:α}(h:xs[i]?=some x):xs.take (i+1)=xs.take i++[x]:=by rw[List.take_add_one,h];rfl
def bN{xs:List α}{x:α}(h:xs[i]?=some x):i<xs.length:=(List.getElem?_eq_some_iff.mp h).1
def aN{xs:List α}(h:i<xs.length):∃x,xs[i]?=some x:=⟨_,aa3 h⟩
section
variable{K:W.Frag}{a:Addr}{xs ys:List V}{js:List Nat}{tc:TT}{te:TE}{σ:St}{Q:VK}{D:Addr}{H1:Hp}
theorem lh(hz:xs.length<sizeLine)(hlen:ys.length=xs.length)(ha:c_ K H1 a xs)(hD:H1 D=none)(he:∀(i:Nat) (x y:V) (H:Hp),xs[i]?=some x->ys[i]?=some y->b6 H1 H->∀Q':VK,(∀H',b6 H H'->Q' y H')->te (some x::cP js σ) H Q')(hq:∀H',b6 H1 H'->H' D=some (.lst ys)->Q (.ref D) H'):jZ (PB K a) js HE te σ Q D H1:=by
 refine jU (K:=K) (a:=a) (xs:=xs) (λi acc H=>i<=xs.length/\acc=ys.take i/\b6 H1 H/\H D=some (.lst acc)) hz ⟨aa8 _,rfl,ae hD _,aa⟩ (λi acc H ⟨l,e,s,d⟩=>⟨d,?_,b6.seq s ha⟩) ?_ ?_
 ·rw[e,aaD]
  lia
 ·rintro i m x acc H hi ⟨l,e,s,d⟩ hm;have q_:=bN hi;obtain⟨y,hy⟩:=aN (xs:=ys) (i:=i) (by lia);exact he i x y H hi hy s _ λH' s'=>wW q_ hm (s' _ _ d) ⟨q_,by rw[e,gN hy],aL hD (s.trans s'),aa⟩
 ·rintro acc H ⟨l,e,s,d⟩;rw[aaF (by lia)]at e;exact hq H s (by rw[d,e])
end
def wU(h:k<=xs.length):kZ xs none (some (k:Int))=xs.take k:=by unfold kZ;rw[HT.Hy,HT.Io,acB h];simp
theorem wV(h:k<=xs.length):kZ xs (some (k:Int)) none=xs.drop k:=by unfold kZ;rw[HT.Hy,HT.Io,acB h];rw[aaF (by rw[abe];lia)]
theorem cT(xs:List V)(k:Nat):kZ xs none (some (k:Int))=xs.take k:=by
 by_cases h:k<=xs.length
 ·exact wU h
 ·unfold kZ;rw[HT.Hy,HT.Io,Nat.min_eq_right (by lia),List.drop_zero,adN,aaF (aam _),aaF (by lia)]
theorem cU(xs:List V)(k:Nat):kZ xs (some (k:Int)) none=xs.drop k:=by
 by_cases h:k<=xs.length
 ·exact wV h
 ·unfold kZ;rw[HT.Hy,HT.Io,Nat.min_eq_right (by lia),abX (aam _),abX (by lia)];exact adD
def cb(x:α)(r:List α):y6 (x::r) 0=some x:=bY (j:=0) rfl
theorem og{xs:List α}{i:Int}(h0:0<=i)(h1:i<xs.length):∃x,y6 xs i=some x/\x∈xs:=by
 obtain⟨k,rfl⟩:=aaG h0;have hk:k<xs.length:=by lia
 exact⟨xs[k],bY (aa3 hk),ade hk⟩
structure QE(X:Cx)(e:Expr)(t:TE):Prop where
 h:PE X e t
structure QA(X:Cx)(es:List Expr)(t:TA):Prop where
 h:PA X es t
structure QS(X:Cx)(st:Stmt)(t:TS):Prop where
 h:PS X st t
structure Nx(X:Cx)(b:List Stmt)(t:TS):Prop where
 h:Le X b t
structure QT(X:Cx)(e:Expr)(t:TT):Prop where
 h:PT X e t
structure QW(X:Cx)(e:Expr)(t:TT):Prop where
 h:PW X e t
structure QI(X:Cx)(tg iter:Expr)(t:TI):Prop where
 h:PI X tg iter t
structure QG(X:Cx)(tg:Expr)(t:TG):Prop where
 h:PG X tg t
structure Vd(X:Cx)(ts:List Expr)(t:Ni):Prop where
 h:YS X ts t
structure QO(X:Cx)(e:Option Expr)(t:TO):Prop where
 h:PO X e t
structure Uz(X:Cx)(ifs:List Expr)(t:TT):Prop where
 h:P6 X ifs t
variable{st:Stmt}
def af{rest:List Stmt}{t u:TS}(h1:QS X st t)(h2:Nx X rest u):Nx X (st::rest) (NH t u):=⟨NR h1.h h2.h⟩
def ao{t:TS}(h1:QS X st t):Nx X [st] t:=⟨Qd h1.h⟩
def aD{pos':Pos}(hN:List.Nodup X.N)(hi:X.N[i]?=some x)(hx:Loc X.env.scope x)(he:QE X e te)(hs:PySem.swapsWith e (some (PySem.Expr.Name x pos')) (PySem.Pos.line pos) X.env=Pure.pure false:=by rfl)(hf:X.fn x=true\/List.lookup x X.env.scope.names=some NameKind.local:=by first|exact .inl rfl|exact .inr rfl|assumption):QS X (Stmt.Assign [PySem.Expr.Name x pos'] e pos) (Jg te (j4 i)):=⟨SS hN hi hx he.h hs hf⟩
def kt{g:TG}(he:QE X e te)(hg:QG X tg g)(hs:PySem.swapsWithSole [tg] e (PySem.Pos.line pos) X.env=Pure.pure false:=by rfl)(hw:PySem.swappedStores [tg] e X.env=Pure.pure none:=by rfl)(h1:List.map (λ(x:Bool×(PySem.Value->PySem.Sem Unit))=>Prod.snd x) (PySem.assignEach [tg] X.env)=[PySem.assign tg X.env]:=by rfl):QS X (Stmt.Assign [tg] e pos) (Jg te g):=⟨SW he.h hg.h hs hw h1⟩
def bo(he:QE X e te)(hs:PySem.swapsWith e none (PySem.Pos.line pos) X.env=Pure.pure false:=by rfl):QS X (Stmt.Expr e pos) (Q7 te):=⟨Qg he.h hs⟩
def aH(he:QE X e te):QS X (Stmt.Return (some e) pos) (Vm te):=⟨SU he.h⟩
def be{t u:TS}{a b:List Stmt}(hc:QT X c tc)(ha:Nx X a t)(hb:Nx X b u):QS X (Stmt.If c a b pos) (P9 tc t u):=⟨VB hc.h ha.h hb.h⟩
variable{body:List Stmt}
def cF{g:TG}{tb:TS}(hp:PySem.PassesOwn (PySem.model X.prog X.w) X.A X.env X.xe)(hc:X.calm=true)(hi:QI X tg iter wi)(hg:QG X tg g)(hb:Nx X body tb)(hs:∀(x:Value),PySem.foldedSetIterable iter X.env x=Pure.pure x:=by intro _;rfl):QS X (Stmt.For tg iter body [] pos) (Vq wi g tb):=⟨SV hp hc hi.h hg.h hb.h hs⟩
def gx{tb:TS}(hp:PySem.PassesOwn (PySem.model X.prog X.w) X.A X.env X.xe)(hc:QT X c tc)(hb:Nx X body tb):QS X (Stmt.While c body [] pos) (NG tc tb):=⟨NT hp hc.h hb.h⟩
variable{ta tb:TE}
def ar{op:Operator}{r:R2}(ho:GK X (PySem.binaryOp op) r)(ha:QE X a ta)(hb:QE X b tb):QE X (PySem.Expr.BinOp a op b pos) (Q5 r ta tb):=⟨VG ho ha.h hb.h⟩
def rK{op:UnaryOp}{r:V->Hp->VK->Prop}(ho:_5 X (PySem.unaryOp op) r)(ha:QE X a ta):QE X (PySem.Expr.UnaryOp op a pos) (tUn r ta):=⟨VE ho ha.h⟩
def xB(ha:QE X a ta):QE X (PySem.Expr.UnaryOp UnaryOp.Not a pos) (Q6 ta):=⟨S8 ha.h⟩
def iU{op:BoolOp}{t:TE}(h:QE X a t):QE X (PySem.Expr.BoolOp op [a] pos) t:=⟨S7 h.h⟩
variable{rest:List Expr}
def kx(ha:QE X a ta)(hb:QE X (PySem.Expr.BoolOp BoolOp.And (b::rest) pos) tb):QE X (PySem.Expr.BoolOp BoolOp.And (a::b::rest) pos) (Q9 ta tb):=⟨Tb ha.h hb.h⟩
def EY(ha:QE X a ta)(hb:QE X (PySem.Expr.BoolOp BoolOp.Or (b::rest) pos) tb):QE X (PySem.Expr.BoolOp BoolOp.Or (a::b::rest) pos) (Vn ta tb):=⟨VF ha.h hb.h⟩
variable{op:CmpOp}
def cR{r:R2}(ho:GK X (PySem.compareOp op) r)(ha:QE X a ta)(hb:QE X b tb)(hm:PySem.behindInMarks op b=false):QE X (PySem.Expr.Compare a [op] [b] pos) (Q5 r ta tb):=⟨Qp ho ha.h hb.h hm⟩
variable{tA:TT}
def vi(hc:QT X c tA)(ha:QE X a ta)(hb:QE X b tb):QE X (PySem.Expr.IfExp c a b pos) (tIf tA ta tb):=⟨NX hc.h ha.h hb.h⟩
variable{es:List Expr}{t:TA}
def aR(h:QA X es t):QE X (PySem.Expr.List es pos) (Vp t):=⟨S9 h.h⟩
def bw{x1:Nat}(h:QA X es t):QE X (PySem.Expr.Tuple es x1 pos) (Vl t):=⟨S5 h.h⟩
def bc{lo hi:Option Expr}{tl th:TO}{r:V->Option Int->Option Int->Hp->VK->Prop}(hr:_7 X r)(he:QE X e te)(hl:QO X lo tl)(hu:QO X hi th):QE X (PySem.Expr.Subscript e (PySem.Expr.Slice lo hi none p2) pos) (tSl r te tl th):=⟨NW hr he.h hl.h hu.h⟩
def aU{r:R2}(hr:UB X r)(ha:QE X a ta)(hb:QE X b tb)(hs:uv b):QE X (PySem.Expr.Subscript a b pos) (Q5 r ta tb):=⟨VH hr ha.h hb.h hs⟩
def gV{t:Str}(hc:X.calm=true)(Ib:t8 X.N X.env.scope sc t ys js=true)(hi:QI X (PySem.Expr.Name t px) iter wi)(hf:∀(cl:List (Str×Addr)) (C:Addr) (s:Shared) (H:Hp) (fp:List Addr),Uz (X.comp sc cl C (t::ys) s H fp) ifs tc)(he:∀(cl:List (Str×Addr)) (C:Addr) (s:Shared) (H:Hp) (fp:List Addr),QE (X.comp sc cl C (t::ys) s H fp) elt te)(hs:∀(x:Value),PySem.foldedSetIterable iter X.env x=Pure.pure x:=by intro _;rfl):QE X (PySem.Expr.ListComp elt [{ target:=PySem.Expr.Name t px,iter:=iter,ifs:=ifs,is_async:=0 }] sc pos) (HX wi js tc te):=⟨Qo hc Ib hi.h (λcl C s H fp=>(hf cl C s H fp).h) (λcl C s H fp=>(he cl C s H fp).h) hs⟩
def aB{CX:Md}{f:Addr}{fd:FuncData}{ps:List Str}{sp:Sp}{Hl:List V}{ds:List Value}{E:XK}(F:d9 X.prog X.w X.K X.mg X.base CX k f fd ps sp)(hr:o5 k X.A)(hg:Gl X x)(hm:X.mg x=some (Value.ref f))(hk:PySem.W.keepIn X.K (Value.ref f)=true)(hb:Binds X.K fd ps ds)(hd:Vals Hl ds)(hx:cY CX X E)(ha:QA X (e::es) t)(J2:(x == PySem.Str.ofString "__debug__")=false:=by decide)(he:PySem.starEach (e::es) X.env=(false,PySem.eval e X.env)::PySem.starEach es X.env:=by rfl)(HY:(List.any (PySem.backTo pos (PySem.starEach es X.env)) λ(x:Bool×PySem.Sem Value)=>Prod.fst x)=false:=by rfl):QE X (PySem.Expr.Call (PySem.Expr.Name x p) (e::es) [] pos) (Q8 sp Hl E t):=⟨Qq F hr hg hm hk hb hd hx ha.h J2 he HY⟩
variable{id:String}
def aA{r:List V->Hp->VK->Prop}(hc:t4 X (Value.builtin id) r)(hg:Gl X x)(hm:X.mg x=none)(hv:PySem.bootBuiltins x=some (Value.builtin id))(ha:QA X (e::es) t)(hn:x≠PySem.Str.ofString "__name__":=by decide)(J2:(x == PySem.Str.ofString "__debug__")=false:=by decide)(he:PySem.starEach (e::es) X.env=(false,PySem.eval e X.env)::PySem.starEach es X.env:=by rfl)(HY:(List.any (PySem.backTo pos (PySem.starEach es X.env)) λ(x:Bool×PySem.Sem Value)=>Prod.fst x)=false:=by rfl):QE X (PySem.Expr.Call (PySem.Expr.Name x p) (e::es) [] pos) (Zz r t):=⟨NY hc hg hm hv ha.h hn J2 he HY⟩
variable{T:String}
def bp{r:List V->Hp->VK->Prop}(hc:t4 X (Value.type T) r)(hg:Gl X x)(hm:X.mg x=none)(hv:PySem.bootBuiltins x=some (Value.type T))(ha:QA X (e::es) t)(hn:x≠PySem.Str.ofString "__name__":=by decide)(J2:(x == PySem.Str.ofString "__debug__")=false:=by decide)(he:PySem.starEach (e::es) X.env=(false,PySem.eval e X.env)::PySem.starEach es X.env:=by rfl)(HY:(List.any (PySem.backTo pos (PySem.starEach es X.env)) λ(x:Bool×PySem.Sem Value)=>Prod.fst x)=false:=by rfl):QE X (PySem.Expr.Call (PySem.Expr.Name x p) (e::es) [] pos) (Zz r t):=⟨MT hc hg hm hv ha.h hn J2 he HY⟩
variable{g6 apos:Pos}{name:Str}
theorem cM{o:Expr}{to:TE}{r:V->List V->Hp->VK->Prop}(pa:PySem.PlainAttrs T)(slot:PySem.Slot T name id)(Qy:PySem.typeOf (Value.builtin id)=Pure.pure (Value.type "method_descriptor"))(hm:QY X id r)(ho:QE X o to)(ha:QA X (e::es) t)(HA:PySem.attributeBase o name X.env (PySem.eval o X.env)=PySem.eval o X.env:=by rfl)(Ov:(((List.all (PySem.backTo g6 (PySem.starEach (e::es) X.env)) λ(x:Bool×PySem.Sem Value)=>!Prod.fst x)&&List.all (PySem.backToKw g6 (PySem.keywordEach [] X.env)) λ(x:Option Str×PySem.Sem Value)=>Option.isSome (Prod.fst x))&&Decidable.decide ((List.length (e::es)+List.length ([]:List Keyword)+if List.isEmpty ([]:List Keyword)=true then 0 else 1)<30))=true:=by rfl)(A6:(PySem.Pos.endLine apos == PySem.Pos.line g6)=true:=by rfl)(hs:PySem.starEach (e::es) X.env=(false,PySem.eval e X.env)::PySem.starEach es X.env:=by rfl)(IU:(List.any (PySem.backTo g6 (PySem.starEach es X.env)) λ(x:Bool×PySem.Sem Value)=>Prod.fst x)=false:=by rfl):QE X (PySem.Expr.Call (PySem.Expr.Attribute o name apos) (e::es) [] g6) (tBM X.K T r to t):=⟨VI pa slot Qy hm ho.h ha.h HA Ov A6 hs IU⟩
theorem dD{o:Expr}{to:TE}{r:V->List V->Hp->VK->Prop}(pa:PySem.PlainAttrs T)(slot:PySem.Slot T name id)(Qy:PySem.typeOf (Value.builtin id)=Pure.pure (Value.type "method_descriptor"))(hm:QY X id r)(ho:QE X o to)(HA:PySem.attributeBase o name X.env (PySem.eval o X.env)=PySem.eval o X.env:=by rfl)(A6:(PySem.Pos.endLine apos == PySem.Pos.line g6)=true:=by rfl):QE X (PySem.Expr.Call (PySem.Expr.Attribute o name apos) [] [] g6) (Vr X.K T r to):=⟨Ta pa slot Qy hm ho.h HA A6⟩
def cE(ha:QT X a tA):QT X (PySem.Expr.UnaryOp UnaryOp.Not a pos) (Vo tA):=⟨SR ha.h⟩
def cr{t:TE}(h:QE X e t)(he:∀(whole:PySem.Sem Value),PySem.isTrue e X.env whole=(do let v <- whole;PySem.standAt (PySem.Expr.pos e);PySem.holding [v] (PySem.truthy v)):=by intro _;rfl):QT X e (tB t):=⟨SQ h.h he⟩
def aC{r:R2}(ho:GK X (PySem.compareOp op) r)(ha:QE X a ta)(hb:QE X b tb)(hm:PySem.behindInMarks op b=false):QT X (PySem.Expr.Compare a [op] [b] pos) (Mh (Q5 r ta tb)):=⟨Qc ho ha.h hb.h hm⟩
def mP{tc:TE}{Qt:CmpOp}{r r':R2}(ho:GK X (PySem.compareOp op) r)(Oq:GK X (PySem.compareOp Qt) r')(ha:QE X a ta)(hb:QE X b tb)(hc:QE X c tc)(hm:PySem.lastMarks [op,Qt] [b,c]=false:=by with_unfolding_all rfl):QT X (PySem.Expr.Compare a [op,Qt] [b,c] pos) (Mh (NI r r' ta tb tc)):=⟨NQ ho Oq ha.h hb.h hc.h hm⟩
variable{PR:TT}
def iS(ha:QT X a tA)(hb:QW X (PySem.Expr.BoolOp BoolOp.And (b::rest) pos) PR):QW X (PySem.Expr.BoolOp BoolOp.And (a::b::rest) pos) (Vs tA PR):=⟨SO ha.h hb.h⟩
def gU(ha:QT X a tA)(hb:QW X (PySem.Expr.BoolOp BoolOp.Or (b::rest) pos) PR):QW X (PySem.Expr.BoolOp BoolOp.Or (a::b::rest) pos) (tOr tA PR):=⟨VA ha.h hb.h⟩
def fK(ha:QT X a tA):QW X (PySem.Expr.BoolOp BoolOp.And [a] pos) tA:=⟨Qb ha.h⟩
def fT(ha:QT X a tA):QW X (PySem.Expr.BoolOp BoolOp.Or [a] pos) tA:=⟨SN ha.h⟩
def eN{t:TT}(h:QW X e t):QT X e t:=⟨@PW.pt _ _ _ h.h⟩
def bi(h:QE X e te):QO X (some e) (Q4 te):=⟨Qh h.h⟩
def cK{tl:TE}(hl:QE X l tl):QI X tg l (Rr X.K tl):=⟨Ql hl.h⟩
def xA{tl:TE}(hl:QE X l tl):QI X tg l (Wu X.K tl):=⟨SX hl.h⟩
def bV{ta:TA}(hg:Gl X (PySem.Str.ofString "range"))(hm:X.mg (PySem.Str.ofString "range")=none)(ha:QA X [a] ta)(hs:PySem.starEach [a] X.env=[(false,PySem.eval a X.env)]:=by rfl):QI X tg (PySem.Expr.Call (PySem.Expr.Name (PySem.Str.ofString "range") p) [a] [] pos) (Rq ta):=⟨MS hg hm ha.h hs⟩
def aM(hN:List.Nodup X.N)(hi:X.N[i]?=some x)(hx:Loc X.env.scope x)(hf:X.fn x=true\/List.lookup x X.env.scope.names=some NameKind.local:=by first|exact .inl rfl|exact .inr rfl|assumption):QG X (PySem.Expr.Name x pos) (j4 i):=⟨Ip hN hi hx hf⟩
def du{t:Ni}(hc:X.calm=true)(h:Vd X es t)(hn:List.length (PySem.assignEach es X.env)=n:=by rfl)(B5:List.findIdx? (λ(x:Bool×(PySem.Value->PySem.Sem Unit))=>Prod.fst x) (PySem.assignEach es X.env)=none:=by rfl):QG X (PySem.Expr.Tuple es k pos) (Um X.K n t):=⟨SY hc h.h hn B5⟩
def aW{t:TG}{u:Ni}(h1:QG X e t)(h2:Vd X es u)(hs:List.map (λ(x:Bool×(PySem.Value->PySem.Sem Unit))=>Prod.snd x) (PySem.assignEach (e::es) X.env)=PySem.assign e X.env::List.map (λ(x:Bool×(PySem.Value->PySem.Sem Unit))=>Prod.snd x) (PySem.assignEach es X.env):=by rfl):Vd X (e::es) (RG t u):=⟨NV h1.h h2.h hs⟩
def lQ{t:TT}(h:QT X c t):Uz X [c] t:=⟨Qj h.h⟩
def Ml{a:List Expr}(ha:QE X (PySem.Expr.Tuple a k p) te)(hr:QA X es t):QA X (PySem.Expr.Tuple a k p::es) (m6 te t):=⟨paT ha.h hr.h⟩
def UO{a:List Expr}(ha:QE X (PySem.Expr.List a p) te)(hr:QA X es t):QA X (PySem.Expr.List a p::es) (m6 te t):=⟨paL ha.h hr.h⟩
def d_{c:Const}(ha:QE X (PySem.Expr.Constant c k p) te)(hr:QA X es t):QA X (PySem.Expr.Constant c k p::es) (m6 te t):=⟨paC ha.h hr.h⟩
def d5(ha:QE X (PySem.Expr.Name x p) te)(hr:QA X es t):QA X (PySem.Expr.Name x p::es) (m6 te t):=⟨paN ha.h hr.h⟩
def o7{r:Expr}{o:Operator}(ha:QE X (PySem.Expr.BinOp l o r p) te)(hr:QA X es t):QA X (PySem.Expr.BinOp l o r p::es) (m6 te t):=⟨paB ha.h hr.h⟩
def x_{i:Expr}(ha:QE X (PySem.Expr.Subscript v i p) te)(hr:QA X es t):QA X (PySem.Expr.Subscript v i p::es) (m6 te t):=⟨paS ha.h hr.h⟩
def y8{a:List Expr}{k:List Keyword}(ha:QE X (PySem.Expr.Call f a k p) te)(hr:QA X es t):QA X (PySem.Expr.Call f a k p::es) (m6 te t):=⟨paK ha.h hr.h⟩
def qaM{c:List Expr}(ha:QE X (PySem.Expr.Compare l o c p) te)(hr:QA X es t):QA X (PySem.Expr.Compare l o c p::es) (m6 te t):=⟨paM ha.h hr.h⟩
def qaI(ha:QE X (PySem.Expr.IfExp c a b p) te)(hr:QA X es t):QA X (PySem.Expr.IfExp c a b p::es) (m6 te t):=⟨paI ha.h hr.h⟩
def qaU{o:UnaryOp}(ha:QE X (PySem.Expr.UnaryOp o v p) te)(hr:QA X es t):QA X (PySem.Expr.UnaryOp o v p::es) (m6 te t):=⟨paU ha.h hr.h⟩
def SM{g:List PySem.Comprehension}(ha:QE X (PySem.Expr.ListComp e g s p) te)(hr:QA X es t):QA X (PySem.Expr.ListComp e g s p::es) (m6 te t):=⟨paE ha.h hr.h⟩
def Nn{v:List Expr}(ha:QE X (PySem.Expr.JoinedStr v p) te)(hr:QA X es t):QA X (PySem.Expr.JoinedStr v p::es) (m6 te t):=⟨paJ ha.h hr.h⟩
def qaA{n:Str}(ha:QE X (PySem.Expr.Attribute v n p) te)(hr:QA X es t):QA X (PySem.Expr.Attribute v n p::es) (m6 te t):=⟨paA ha.h hr.h⟩
def qv(i:Nat)(hN:X.N[i]?=some x:=by rfl)(hv:YQ X.env.scope x:=by first|exact Or.inl rfl|exact Or.inr oI1|exact Or.inr oJ1)(hd:(x == PySem.Str.ofString "__debug__")=false:=by decide)(LS:(x == PySem.Str.ofString "__classdict__")=false:=by decide):QE X (PySem.Expr.Name x pos) (SA i):=⟨@pv _ i _ _ hN hv hd LS⟩
variable{j:Nat}
def aj{i:Int}:QE X (PySem.Expr.Constant (Const.int i) j pos) (tC (V.int i)):=⟨S_⟩
def ak:QE X (PySem.Expr.Constant (Const.str x) j pos) (tC (V.str x)):=⟨S6⟩
def dZ{b:Bool}:QE X (PySem.Expr.Constant (Const.bool b) j pos) (tC (V.bl b)):=⟨VJ⟩
variable{u:Value}
def bt{v:V}(hg:Gl X x)(hm:X.mg x=some u)(r:RelV v u)(hd:(x == PySem.Str.ofString "__debug__")=false:=by decide):QE X (PySem.Expr.Name x pos) (tC v):=⟨Qn hg hm r hd⟩
def cN{v:V}(hg:Gl X x)(hm:X.mg x=none)(hv:PySem.bootBuiltins x=some u)(r:RelV v u)(hn:x≠PySem.Str.ofString "__name__":=by decide)(hd:(x == PySem.Str.ofString "__debug__")=false:=by decide):QE X (PySem.Expr.Name x pos) (tC v):=⟨Qr hg hm hv r hn hd⟩
def aI:Nx X [] Jp:=⟨Qe⟩
def dB{sts:List Stmt}:Nx X sts JO:=⟨MQ⟩
def vf:QS X st JO:=⟨NU⟩
def ac:QA X [] KJ:=⟨Tc⟩
def bE:QO X none Mi:=⟨Qi⟩
def cJ:Uz X [] HE:=⟨Qk⟩
def cg:Vd X [] Xk:=⟨Qm⟩
def eO(ha:QE X a ta)(he:∀(whole:PySem.Sem Value),PySem.isTrue a X.env whole=(do let v <- whole;PySem.standAt (PySem.Expr.pos a);PySem.holding [v] (PySem.truthy v))):QT X a λ(σ:St)(H:Hp)(Q:Bool->Hp->Prop)=>ta σ H λ(x:V)(H':Hp)=>∃(k:Bool),FB X.K x H' k/\Q k H':=⟨NP ha.h he⟩
section
variable{P:Program}{w:World}{K:W.Frag}{mg:Str->Option Value}{base:Heap}
def p_.G9{x qual:Str}{st:Stmt}{f:Addr}{fd:FuncData}{N ps:List Str}{k:Nat}{sp:Sp}(F:p_ K x qual st f fd)(S:aJ N ps (am st))(len:∀vs H Q E,sp vs H Q E->vs.length=ps.length)(IX:∀(j8:Value) (A:Around) (outer:List Env) (s:Shared) (H:Hp) (vs:List V) (Q:VK) (E:XK),o5 k (A.deeper (envOfC qual (am st) s.heap.objs.size f j8))->sp vs H Q E ->
 ∃t,Nx (cq E6 P w K mg base N qual (am st) f j8 A outer s H E).Tf (aF st) t/\t { nx:=λ_ H'=>Q .o_ H',rt:=Q } (start N vs) H):d9 P w K mg base E6 (k+1) f fd ps sp:=
 F.ok S len λj8 A outer s H vs Q E hr h=>let⟨t,h1,h2⟩:=IX j8 A outer s H vs Q E hr h;⟨t,h1.h,h2⟩
end
abbrev Zx:List Value:=[.type "ValueError",.type "Exception",.type "BaseException",.type "object"]
abbrev uw(K:W.Frag)(C:Addr):Prop:=PySem.W.excIn K C Zx "ValueError.__new__" = true
variable{h:Heap}{C:Addr}
def io{bmB:List Value}{newId:String}(X:K.In h)(q:PySem.W.excIn K C bmB newId=true):
 ∃bm N nm qn bs hdct sn sub ab col dd k0 k1 k2 k3 k5 mN,h.get? C=some (excClassObj nm qn C N bs bm hdct sn sub ab col dd k0 k1 k2 k3 k5 newId)/\h.Ns N mN/\mN "__init__" = none/\OwnTail h bmB bm /\
  ∀v b,PySem.W.mroIn K C v=some b->(Value.ref C::bm).contains v=b:=by
 unfold PySem.W.excIn at q;split at q
 ·rename_i dd cd sl ho;split at q
  ·rename_i C' bm k0 k1 k2 k3 n k5 hm hs;simp only[aaU,ack,Bool.not_eq_true']at q;obtain⟨⟨⟨⟨⟨rfl,rfl⟩,W4⟩,ht⟩,h_⟩,_b⟩:=q;obtain⟨nm,bs,mro,ns,qn,hd,sn,sub,ab,col,del⟩:=cd;dsimp only at hm W4 h_ _b;subst hm W4;have QB:sl=#[k0,k1,k2,k3,some (.builtin n),k5]:=by
    obtain⟨l⟩:=sl;simp only at hs;rw[hs]
   subst QB;refine⟨bm,ns,nm,qn,bs,hd,sn,sub,ab,col,dd,k0,k1,k2,k3,k5,_,X _ _ ho,.of_isNs (PySem.W.isNs_of_in X h_),PySem.W.nsMap_none_of_in X h_ _b,PySem.W.tail_of_in X ht,λv b e=>?_⟩;unfold PySem.W.mroIn PySem.W.clsIn at e;rw[ho]at e;simpa using e
  ·cases q
 ·cases q
def iJ{M:Model}{A:Around}{g:Array GenState}{d:Drawn}{t:Nat}{os:OsState}{e:Addr}{oe:Obj}{b:Bool}{Q:Bool->Shared->Prop}(X:K.In h)(hC:uw K C)(hD:uw K D)(he:h.get? e=some oe)(Ud:oe.cls=.ref C)(hm:PySem.W.mroIn K C (.ref D)=some b)(hq:Q b ⟨h,g,d,t,os⟩):wpAny M A (excMatches (.ref e) (.ref D)) Q E ⟨h,g,d,t,os⟩:=by
 obtain⟨bm,N,nm,qn,bs,hdct,sn,sub,ab,col,dd,k0,k1,k2,k3,k5,mN,oC,_,_,_,mroC⟩:=io X hC;obtain⟨bm',N',nm',qn',bs',hdct',sn',sub',ab',col',QR,l0,l1,l2,l3,l5,mN',oD,_,_,TD,_⟩:=io X hD;have hcB:(Value.ref D::bm').contains (.type "BaseException")=true:=by rw[List.contains_cons,TD.hasType (X:="BaseException") (b:=true) (by decide),ac9]
 have hcC:(Value.ref C::bm).contains (.ref D)=b:=mroC _ _ hm;have f:=tc_notTuple;unfold excMatches;repeat (first|(with_reducible refine wpAny_loadPart_at he ?_;rw[Ud])|with_reducible refine wpAny_loadPart_at oD ?_|(with_reducible refine wpAny_isSubtype_exc oD ?_;rw[hcB])|(with_reducible refine wpAny_isSubtype_exc oC ?_;rw[hcC])|wp_step)
 all_goals (cases b<;>first|exact hq|(wp_walk;exact hq))
variable{P:Program}
theorem j5.there{a:Addr}{o:HO}(x:j5 P w H h a o):∃ob,h.get? a=some ob:=by
 cases o with
 |lst xs=>obtain⟨_,_,_,_,e⟩:=x;exact⟨_,e⟩
 |tup xs=>obtain⟨_,_,_,p⟩:=x;obtain⟨ob,e,_⟩:=p;exact⟨ob,e⟩
 |dK e_=>obtain⟨_,_,_,_,o,_,_,e,_⟩:=x;exact⟨_,e⟩
 |dT e_=>obtain⟨_,_,_,_,o,_,_,e,_⟩:=x;exact⟨_,e⟩
 |set S n=>obtain⟨o,_,_,_,e,_⟩:=x;exact⟨_,e⟩
 |ins C dx fs=>obtain⟨_,_,_,e,_⟩:=x;exact⟨_,e⟩
 |own y=>exact x
 |xd fs=>obtain⟨_,⟨_,_,_,e,_⟩,_⟩:=x;exact⟨_,e⟩
 |ZH lo hi=>obtain⟨_,_,_,e⟩:=x;exact⟨_,e⟩
 |LV ob u=>obtain⟨e,_⟩:=x;exact⟨_,e⟩
 |Q3 ps=>exact⟨_,show h.get? a=some _ from x⟩
 |met f y=>exact⟨_,show h.get? a=some _ from x⟩
 |ext φ=>obtain⟨_,e,_⟩:=x;exact e
structure XO(P:Program)(w:World)(outer:List Env)(H:Hp)(s:Shared)(cls:Value)(a:Addr)(H':Hp)(s':Shared):Prop where
 os:s'.os=s.os
 bare:AllBare s'.gens
 un:Un (u_ outer) [] H H' s.heap s'.heap
 h_:G8 P w H' s'.heap
 new:s.heap.get? a=none
 free:H' a=none
 GV:∃B a0,Heap.FlyingW B outer a cls a0 s'.heap/\∀b o,(H' b≠none\/∃o',s.heap.get? b=some o')->b∉u_ outer->s'.heap.get? b=some o->B.get? b=some o
def Hu(P:Program)(w:World):Md:=λouter H s E e s'=>∃a cls H',e=.ref a/\XO P w outer H s cls a H' s'/\E cls none H'
variable{fr:List Addr}{h':Heap}
section
variable{X:Cx}{pins:List (Addr×Obj)}{σ:St}{H H':Hp}{s s':Shared}{M:Model}{E':Value->Shared->Prop}{a:Addr}{cls:Value}
def Un.GV{fs:List Addr}{H0:Hp}{h0 B:Heap}(u:Un fs [] H0 H h0 h)(Nb:∀b∈fr,b∈fs\/∀o,h0.get? b≠some o)(GR:B.StaysIn h')(big:∀b o,h.get? b=some o->b∉fr->(H b≠none\/∃o',h0.get? b=some o')->B.get? b=some o)(slots:∀b o,h.get? b=some o->b∈fr->∃sl,h'.get? b=some { o with slots:=sl })(sub:∀b∈fs,b∈fr):Un fs [] H0 H h0 h' where
 keep:=λb o q n hb hx=>by
  have e:=u.keep b o q n hb hx;have hf:b∉fr:=λz=>by
   rcases Nb b z with y|y
   ·exact hb y
   ·exact y o q
  exact GR b o (big b o e hf (.inr ⟨o,q⟩))
 slot:=λb o q n hb hx=>by obtain⟨sl,e⟩:=u.slot b o q n hb hx;obtain⟨SG,e'⟩:=slots b _ e (sub b hb);exact⟨SG,e'⟩
 free:=u.free
 there:=λb o q hx=>by
  obtain⟨o',e⟩:=u.there b o q hx;by_cases hf:b∈fr
  ·obtain⟨sl,e'⟩:=slots b o' e hf;exact⟨_,e'⟩
  ·exact⟨o',GR b o' (big b o' e hf (.inr ⟨o,q⟩))⟩
 E8:=u.E8
 C_:=u.C_
 E9:=u.E9
def G8.GV{H:Hp}{B:Heap}(ok:G8 P w H h)(H_:∀b∈fr,H b=none)(GR:B.StaysIn h')(big:∀b o,h.get? b=some o->b∉fr->H b≠none->B.get? b=some o):G8 P w H h':=λa o e=>by
 refine(ok a o e).GR (λb u hb q=>?_) (λ_ q=>q) λ_ _ q=>q;have hn:H b≠none:=by
  rcases hb with rfl|hb
  ·rw[e];exactλz=>nomatch z
  ·rw[hb];exactλz=>nomatch z
 exact GR b u (big b u q (λz=>hn (H_ b z)) hn)
def bL{l:List Env}{L:Addr}(h:env.frame=some L):u_ (env::l)=L::u_ l:=by unfold u_;rw[acf,h]
def Inv.raise(I:Inv X pins σ H s)(hs:X.stack=X.env::X.outer)(hf:X.env.frame=some X.env.locals)(hex:X.ex=[]){h1:Heap}{args:List Value}(hx:Heap.MadeExcOf s.heap h1 a cls args):
 wpAny M X.A (leaving X.env (.ref a)) (λ_ He=>XO X.prog X.w X.outer X.H₀ X.s₀ cls a H He) E' { s with heap:=h1 }:=by
 have H_:X.A.frames=some (X.env::X.outer):=by rw[<-hs];exact I.ok.frames
 have U8:s.heap.FunFrames X.base (X.env::X.outer):=by rw[<-hs];exact I.stack
 have UY:∀env∈(X.env::X.outer),∀b,env.frame=some b->b∈u_ (X.env::X.outer):=λenv he b hb=>List.mem_filterMap.mpr ⟨env,he,hb⟩;have HZ:∀b∈u_ (X.env::X.outer),H b=none:=by rw[<-hs];exact I.G6
 have ub:Un X.fs [] X.H₀ H X.s₀.heap s.heap:=by have:=I.base;rw[hex]at this;exact this
 have nL:∀o,X.s₀.heap.get? X.env.locals≠some o:=λo z=>absurd (aav (aao z) I.ok.above) (abd _);have big:∀b o,s.heap.get? b=some o->b∉u_ (X.env::X.outer)->(PySem.W.hideAll s.heap (u_ (X.env::X.outer))).get? b=some o:=λb o e n=>acR _ e n;refine wpAny_leaves_madeW (base:=PySem.W.hideAll s.heap (u_ (X.env::X.outer))) H_ hf (λb o q=>acZ _ q) (PySem.W.funFrames_hide U8 UY) hx λh' t fl _ _ up=>?_;have slots:∀b o,s.heap.get? b=some o->b∈u_ (X.env::X.outer)->∃sl,h'.get? b=some { o with slots:=sl }:=λb o e hb=>by obtain⟨_,o',e',nf⟩:=U8.mem hb;rw[e]at e';cases e';exact up b o (hx.keeps b o e) nf
 have Nb:∀b∈u_ (X.env::X.outer),b∈X.fs\/∀o,X.s₀.heap.get? b≠some o:=λb hb=>by
  rw[bL hf]at hb;rcases List.mem_cons.mp hb with rfl|hb
  ·exact .inr nL
  ·exact .inl hb
 have sub:∀b∈X.fs,b∈u_ (X.env::X.outer):=λb hb=>by rw[bL hf];exact aah _ hb
 refine⟨I.os,I.bare,ub.GV Nb fl.1 (λb o e n _=>big b o e n) slots sub,I.h_.GV HZ fl.1 (λb o e n _=>big b o e n),?_,?_,_,_,fl,λb o hb hn e=>?_⟩
 ·cases q:X.s₀.heap.get? a with
  |none=>rfl
  |some o=>
   obtain⟨o',e⟩:=ub.there a o q (by simp);have:=hx.new;rw[e]at this;cases this
 ·cases q:H a with
  |none=>rfl
  |some o=>
   obtain⟨ob,e⟩:=(I.h_ a o q).there;have:=hx.new;rw[e]at this;cases this
 ·have hbs:∃ob,s.heap.get? b=some ob:=by
   rcases hb with hb|⟨o',hb⟩
   ·cases q:H b with
    |none=>exact absurd q hb
    |some u=>exact(I.h_ b u q).there
   ·exact ub.there b o' hb (by simp)
  have hnL:b∉u_ (X.env::X.outer):=λz=>by
   rw[bL hf]at z;rcases List.mem_cons.mp z with rfl|z
   ·rcases hb with hb|⟨o',hb⟩
    ·exact hb I.free
    ·exact nL o' hb
   ·exact hn z
  obtain⟨ob,e1⟩:=hbs;have e2:=big b ob e1 hnL;have e3:=fl.1 b ob e2;rw[e]at e3;cases e3;exact e2
def Inv.pass(I:Inv X pins σ H s)(hs:X.stack=X.env::X.outer)(hf:X.env.frame=some X.env.locals)(hex:X.ex=[])(x:XO X.prog X.w X.stack H s cls a H' s'):
 wpAny M X.A (leaving X.env (.ref a)) (λ_ He=>XO X.prog X.w X.outer X.H₀ X.s₀ cls a H' He) E' s':=by
 rw[hs]at x;have H_:X.A.frames=some (X.env::X.outer):=by rw[<-hs];exact I.ok.frames
 obtain⟨B,a0,GV,big⟩:=x.GV;have ub:Un X.fs [] X.H₀ H X.s₀.heap s.heap:=by have:=I.base;rw[hex]at this;exact this
 have nL:∀o,X.s₀.heap.get? X.env.locals≠some o:=λo z=>absurd (aav (aao z) I.ok.above) (abd _);have HZ:∀b∈u_ (X.env::X.outer),H b=none:=by rw[<-hs];exact I.G6
 have U8:s.heap.FunFrames X.base (X.env::X.outer):=by rw[<-hs];exact I.stack
 have KS:∀b∈X.fs,b∈u_ (X.env::X.outer):=λb hb=>by rw[bL hf];exact aah _ hb
 have ut:Un X.fs [] X.H₀ H' X.s₀.heap s'.heap:=by
  have N8:∀b o,X.s₀.heap.get? b=some o->b∉X.fs->b∉u_ (X.env::X.outer):=λb o q hb z=>by
   rw[bL hf]at z;rcases List.mem_cons.mp z with rfl|z
   ·exact nL o q
   ·exact hb z
  refine⟨λb o q n hb hx=>x.un.keep b o (ub.keep b o q n hb hx) (ub.free b o q n hx) (N8 b o q hb) (by simp),λb o q n hb hx=>?_,λb o q n hx=>?_,λb o q hx=>?_,λb xs q=>x.un.E8 b xs (ub.E8 b xs q),λb o u q=>x.un.C_ b o u (ub.C_ b o u q),λb ps q=>?_⟩
  ·obtain⟨sl,e⟩:=ub.slot b o q n hb hx;obtain⟨SG,e'⟩:=x.un.slot b _ e (ub.free b o q n hx) (KS b hb) (by simp);exact⟨SG,e'⟩
  ·obtain⟨o',e⟩:=ub.there b o q hx;exact x.un.free b o' e (ub.free b o q n hx) (by simp)
  ·obtain⟨o',e⟩:=ub.there b o q hx;exact x.un.there b o' e (by simp)
  ·obtain⟨m1,e1⟩:=ub.E9 b ps q;obtain⟨m2,e2⟩:=x.un.E9 b _ e1;exact⟨m1++m2,by rw[e2,ac2]⟩
 have HN:∀b∈u_ (X.env::X.outer),H' b=none:=λb hb=>by obtain⟨_,o,e,_⟩:=U8.mem hb;exact x.un.free b o e (HZ b hb) (by simp)
 refine wpAny_leaves_onW H_ hf GV λh' fl up=>?_;have eH:∀b o,s'.heap.get? b=some o->b∉u_ (X.env::X.outer)->(H' b≠none\/∃o',X.s₀.heap.get? b=some o')->B.get? b=some o:=λb o e n hb=>by
  refine big b o ?_ n e;rcases hb with hb|⟨o',hb⟩
  ·exact .inl hb
  ·exact .inr (ub.there b o' hb (by simp))
 have slots:∀b o,s'.heap.get? b=some o->b∈u_ (X.env::X.outer)->∃sl,h'.get? b=some { o with slots:=sl }:=λb o e hb=>by obtain⟨_,o',e',nf⟩:=GV.2.2.1.mem hb;rw[e]at e';cases e';exact up b o e nf
 have Nb:∀b∈u_ (X.env::X.outer),b∈X.fs\/∀o,X.s₀.heap.get? b≠some o:=λb hb=>by
  rw[bL hf]at hb;rcases List.mem_cons.mp hb with rfl|hb
  ·exact .inr nL
  ·exact .inl hb
 refine⟨x.os.trans I.os,x.bare,ut.GV Nb fl.1 eH slots KS,x.h_.GV HN fl.1 (λb o e n hb=>eH b o e n (.inl hb)),?_,x.free,B,a0,fl,λb o hb hn e=>?_⟩
 ·cases q:X.s₀.heap.get? a with
  |none=>rfl
  |some o=>
   obtain⟨o',e⟩:=ub.there a o q (by simp);have:=x.new;rw[e]at this;cases this
 ·have hnL:b∉u_ (X.env::X.outer):=λz=>by
   rw[bL hf]at z;rcases List.mem_cons.mp z with rfl|z
   ·rcases hb with hb|⟨o',hb⟩
    ·exact hb (HN _ (by rw[bL hf];exact aap))
    ·exact nL o' hb
   ·exact hn z
  have hbs:∃ob,s'.heap.get? b=some ob:=by
   rcases hb with hb|⟨o',hb⟩
   ·cases q:H' b with
    |none=>exact absurd q hb
    |some u=>exact(x.h_ b u q).there
   ·exact ut.there b o' hb (by simp)
  obtain⟨ob,e1⟩:=hbs;have e2:=eH b ob e1 hnL hb;have e3:=fl.1 b ob e2;rw[e]at e3;cases e3;exact e2
end
noncomputable def Cx.hand(X:Cx)(a:Addr):Cx:={ X with A:=X.A.mark (some (.ref a)),calm:=false,xe:=λ_ _=>False }
theorem Cx.Ok.hand{X:Cx}(ok:X.Ok)(a:Addr):(X.hand a).Ok:=
 ⟨ok.mod,ok.kind,ok.glob,ok.blt,ok.above,ok.inj,ok.has,ok.Va,(λz=>nomatch z),ok.frames,ok.Vt,ok.exf,ok.bs,ok.P1,ok.MU,ok.Oy,ok.HP,ok.RH⟩
section
variable{X:Cx}{pins:List (Addr×Obj)}{σ:St}{H H':Hp}{s s':Shared}{a:Addr}
theorem Inv.hand(I:Inv X pins σ H s)(a:Addr):Inv (X.hand a) pins σ H s:=⟨I.ok.hand a,I.os,I.bare,I.base,I.loc,I.cell,I.free,I.y9,I.pin,I.h_,I.len⟩
def Inv.Sy(ok:X.Ok)(I:Inv (X.hand a) pins σ H s):Inv X pins σ H s:=⟨ok,I.os,I.bare,I.base,I.loc,I.cell,I.free,I.y9,I.pin,I.h_,I.len⟩
def Inv.Vh{o:HO}(I:Inv X pins σ H s)(hn:H a=none)(Ot:∀u,X.s₀.heap.get? a≠some u)(h_:j5 X.prog X.w (upd H a o) s.heap a o)(ZP:a≠X.env.locals)(N9:∀x c,X.env.cells.lookup x=some c->c≠a)(neP:∀p∈X.pn++pins,p.1≠a):Inv X pins σ (upd H a o) s:=by
 have ne:∀{b:Addr}{u:HO},H b=some u->b≠a:=λe=>aS e hn;refine⟨I.ok,I.os,I.bare,⟨I.base.keep,I.base.slot,λb u q n hx=>?_,I.base.there,λb xs q=>?_,λb u v q=>?_,λb ps q=>?_⟩,I.loc,I.cell,?_,λx c e=>?_,λp hp=>?_,λb u q=>?_,I.len⟩
 ·rw[aw (λz:b=a=>Ot u (by rw[<-z];exact q))];exact I.base.free b u q n hx
 ·have:=I.base.E8 b xs q;rw[aw (ne this)];exact this
 ·have:=I.base.C_ b u v q;rw[aw (ne this)];exact this
 ·obtain⟨m,e⟩:=I.base.E9 b ps q;exact⟨m,by rw[aw (ne e)];exact e⟩
 ·rw[aw (abw ZP)];exact I.free
 ·rw[aw (N9 x c e)];exact I.y9 x c e
 ·obtain⟨e,n,y⟩:=I.pin p hp;exact⟨e,by rw[aw (neP p hp)];exact n,y⟩
 ·by_cases hb:b=a
  ·subst hb;rw[aa]at q;cases q;exact h_
  ·rw[aw hb]at q;exact(I.h_ b u q).GR (λ_ _ _ z=>z) (λc z=>by rw[aw (ne z)];exact z) λc xs z=>by rw[aw (ne z)];exact z
theorem Inv.gone{v:Option Value}{m:Str->Option Value}{tk:Nat}(I:Inv X pins σ H s)(hN:X.N.Nodup)(hi:X.N[i]?=some x)(hn:s.heap.Ns X.env.locals m)(hl:∀(i:Nat) (x:Str) (v:V),X.N[i]?=some x->σ[i]?=some (some v)->YQ X.env.scope x->∃u,RelV v u/\Gi X.env s.heap m x u)(hn':h'.Ns X.env.locals (λy=>if y=x then v else m y))(hs:Heap.SameBut X.env.locals s.heap h'):Inv X pins (σ.set i none) H { s with heap:=h',toks:=tk }:=by
 have Pp:=I.Pp;obtain⟨oL,_,_,WH,_⟩:=id hn;refine⟨I.ok,I.os,I.bare,⟨λb o e n hb hx=>?_,λb o e n hb hx=>?_,I.base.free,λb o e hx=>?_,I.base.E8,I.base.C_,I.base.E9⟩,⟨_,hn',λj y v' e1 e2 e3=>?_⟩,λy c e=>?_,I.free,I.y9,λp hp=>?_,λb ob e=>?_,by simpa using I.len⟩
 ·exact(hs.2 b (aaY (aav (aao e) I.ok.above))).trans (I.base.keep b o e n hb hx)
 ·obtain⟨sl,e1⟩:=I.base.slot b o e n hb hx;exact⟨sl,(hs.2 b (aaY (aav (aao e) I.ok.above))).trans e1⟩
 ·obtain⟨o',e1⟩:=I.base.there b o e hx;exact⟨o',(hs.2 b (aaY (aav (aao e) I.ok.above))).trans e1⟩
 ·by_cases hj:j=i
  ·subst hj;by_cases q_:j<σ.length
   ·rw[acA q_]at e2;cases e2
   ·rw[acK (by simp;lia)]at e2;cases e2
  ·rw[acM (abw hj)]at e2;obtain⟨u',r',q⟩:=hl j y v' e1 e2 e3;refine⟨u',r',?_⟩;rcases q with⟨k,e⟩|⟨k,c,e,z⟩
   ·refine .inl ⟨k,?_⟩;have:y≠x:=λe=>hj (jC hN e1 (e▸hi));simp[this,e]
   ·exact .inr ⟨k,c,e,z.sameBut hs (Pp y c e)⟩
 ·obtain⟨w',z⟩:=I.cell y c e;exact⟨w',z.sameBut hs (Pp y c e)⟩
 ·obtain⟨e,n,ne,nf,d⟩:=I.pin p hp;exact⟨(hs.2 p.1 ne).trans e,n,ne,nf,d⟩
 ·refine(I.h_ b ob e).GR (λc w' hc q=>(hs.2 c ?_).trans q) (λ_ q=>q) λ_ _ q=>q;rintro rfl;rcases hc with rfl|hc
  ·rw[I.free]at e;cases e
  ·rw[I.free]at hc;cases hc
def xq(EX:Hp->Prop)(t:TA):TS:=λ_ σ H=>t σ H λvs H1=>vs.length<=10/\EX H1
theorem vn{np:Pos}{EX:Hp->Prop}(hc:X.calm=true)(hg:Gl X x)(hm:X.mg x=some (.ref C))(he:uw X.K C)(ha:PA X (e::es) t)(hx:∀pins σ H s h' a vs,Inv X pins σ H s->Heap.MadeExcOf s.heap h' a (.ref C) vs->EX H->X.xe (.ref a) { s with heap:=h' })(hd:(x == ("__debug__" : Str))=false:=by decide)(B5:starEach (e::es) X.env=(false,eval e X.env)::starEach es X.env:=by rfl)(HY:(backTo g6 (starEach es X.env)).any (·.1)=false:=by rfl):
 PS X (.Raise (some (.Call (.Name x np) (e::es) [] g6)) none pos) (xq EX t):=by
 intro pins s σ H D I h;obtain⟨bm,N,nm,qn,bs,hdct,sn,sub,ab,col,dd,k0,k1,k2,k3,k5,mN,oC,hN,_b,TL,_⟩:=io (I.ok.mod.UX) he;refine wpAny_Raise_call_subT (C:=C) (nm:=nm) (q:=qn) (N:=N) (bs:=bs) (bm:=bm) (hdct:=hdct) (sn:=sn) (sub:=sub) (ab:=ab) (col:=col) (dd:=dd) (k0:=k0) (k1:=k1) (k2:=k2) (k3:=k3) (k5:=k5)
  PySem.F.excBase_ValueError (mN:=mN) (TL.hasType (by decide)) (I.ok.hd hc) (by rw[B5];show(false||(backTo g6 (starEach es X.env)).any (·.1))=false;rw[HY];rfl) _b (fO I hg hm ⟨rfl,?_⟩ hd)
 have hA:=ha g6 pins s σ H _ I h;rw[B5]at hA⊢;refine ac5 (j9 hA λus s1 ⟨vs,H1,I1,r,z,q⟩=>⟨rfl,?_,I1.bk _ _ oC,hN.keeps I1.bk,TL.keeps I1.bk,λh' a hmk=>hx pins σ H1 s1 h' a us I1 hmk q⟩);rw[<-r.length];exact aO (by lia)
end
section
variable{P:Program}{w:World}{K:W.Frag}{mg:Str->Option Value}{base:Heap}{N:List Str}{qual:Str}{scope:Scope}{f:Addr}{cd:Value}{A:Around}{outer:List Env}{s₀:Shared}{H₀:Hp}{E:XK}
def bO:∀pins σ H s h' a vs,Inv (cq (Hu P w) P w K mg base N qual scope f cd A outer s₀ H₀ E) pins σ H s->Heap.MadeExcOf s.heap h' a (.ref C) vs->E (.ref C) none H ->
 (cq (Hu P w) P w K mg base N qual scope f cd A outer s₀ H₀ E).xe (.ref a) { s with heap:=h' }:=λpins σ H s h' a vs I hmk q=>
 abP (Inv.raise (M:=model P w) (E':=λ_ _=>False) I rfl rfl rfl hmk) (λ_ He x=>⟨a,.ref C,H,rfl,x,q⟩) λ_ _ z=>z.elim
def bW:cY (Hu P w) (cq (Hu P w) P w K mg base N qual scope f cd A outer s₀ H₀ E) E:=λpins σ H s e s' I h=>by obtain⟨a,cls,H',rfl,x,q⟩:=h;exact abP (Inv.pass (M:=model P w) (E':=λ_ _=>False) I rfl rfl rfl x) (λ_ He y=>⟨a,cls,H',rfl,y,q⟩) λ_ _ z=>z.elim
def p_.KO{x qual:Str}{st:Stmt}{f:Addr}{fd:FuncData}{N ps:List Str}{k:Nat}{sp:Sp}(F:p_ K x qual st f fd)(S:aJ N ps (am st))(len:∀vs H Q E,sp vs H Q E->vs.length=ps.length)(IX:∀(j8:Value) (A:Around) (outer:List Env) (s:Shared) (H:Hp) (vs:List V) (Q:VK) (E:XK),o5 k (A.deeper (envOfC qual (am st) s.heap.objs.size f j8))->sp vs H Q E ->
 ∃t,Nx (cq (Hu P w) P w K mg base N qual (am st) f j8 A outer s H E) (aF st) t/\t { nx:=λ_ H'=>Q .o_ H',rt:=Q } (start N vs) H):d9 P w K mg base (Hu P w) (k+1) f fd ps sp:=by
 obtain⟨oc,od,kV,doc,pm,an,j8,ct,PV,rfl,lk,LS⟩:=F.ex;refine DP lk LS S len λA outer s H vs Q E hr Lc=>?_;obtain⟨t,h,q⟩:=IX j8 A outer s H vs Q E hr Lc;exact⟨t,h.h,q⟩
end
noncomputable def uB(a C:Addr):HO:=.ext λh=>∃o,h.get? a=some o/\o.cls=.ref C
def FG(K:W.Frag)(Dc:Addr)(i:Nat)(sp:Sp)(t:TA)(ts:TS):TS:=λD σ H=>t σ H λvs H1=>sp vs H1 (λ_ H2=>D.nx σ H2) λcls _ H2=>∃C,cls=.ref C/\uw K C/\PySem.W.mroIn K C (.ref Dc)=some true /\
 ∀a,H2 a=none->ts { nx:=λl_ H'=>D.nx (l_.set i none) H',rt:=λ_ _=>False,bk:=λ_ _=>False,ct:=λ_ _=>False } (σ.set i (some (.ref a))) (upd H2 a (uB a C))
section
variable{X:Cx}{k:Nat}{f Dc:Addr}{fd:FuncData}{ps:List Str}{sp:Sp}{x dn n:Str}{i:Nat}{p g6 Oz np LO pos:Pos}{e:Expr}{es:List Expr}{t:TA}{ts:TS}{b0:Stmt}{Jq:List Stmt}
theorem CN(F:d9 X.prog X.w X.K X.mg X.base (Hu X.prog X.w) k f fd ps sp)(hr:o5 k X.A)(hg:Gl X x)(hm:X.mg x=some (.ref f))(hk:PySem.W.keepIn X.K (.ref f)=true)(hb:Binds X.K fd ps [])(ha:PA X.Tf (e::es) t)(hgD:Gl X dn)(hmD:X.mg dn=some (.ref Dc))(hD:uw X.K Dc)(hN:X.N.Nodup)(hi:X.N[i]?=some n)(hn:X.env.scope.names.lookup n=some .local)(Oj:X.stack=X.env::X.outer)(H_:X.env.frame=some X.env.locals)(hex:X.ex=[])(hs:∀a,Le (X.hand a) (b0::Jq) ts)(J2:(x == ("__debug__" : Str))=false:=by decide)(hdd:(dn == ("__debug__" : Str))=false:=by decide)(he:starEach (e::es) X.env=(false,eval e X.env)::starEach es X.env:=by rfl)(HY:(backTo g6 (starEach es X.env)).any (·.1)=false:=by rfl)(M':swapsWith (.Call (.Name x p) (e::es) [] g6) none Oz.line X.env=pure false:=by rfl):
 PS X (.Try [.Expr (.Call (.Name x p) (e::es) [] g6) Oz] [.ExceptHandler (some (.Name dn np)) (some n) (b0::Jq) LO] [] [] pos) (FG X.K Dc i sp t ts):=by
 intro pins s σ H D I h;refine wpAny_Try_except (adB (wpAny_Expr_any (ab0 (fO I hg hm ?_ J2)) I.quiet M'));refine ac0 (h₀:=X.base) I.ok.mod.UX hk (abP (ha g6 pins s σ H _ (I.Iy _) h) (λus s1 ⟨vs,H1,I1n,r,q⟩=>⟨I1n.Hb,?_⟩) λ_ _ z=>z.elim) he HY;have I1:Inv X pins σ H1 s1:=I1n.C0;have hl:(us++[]).length=ps.length:=by rw[aaW,<-r.length];exact F.len _ _ _ _ q
 have _g:=hb s1 us I1.Hb hl;rw[aaW]at _g;refine wpAny_call (acP (F.run X.A X.stack s1 H1 ⟨us,[]⟩ us vs _ _ hr I1.Us _g r q) λres s' hq=>?_);cases res with
 |ok fl=>
  cases fl with
  |ret u=>
   obtain⟨v,H2,I2,_,q2⟩:=I1.after hq;exact abY (abY ⟨σ,H2,I2,q2⟩)
  |next=>exact False.elim hq
  |brk=>exact False.elim hq
  |cont=>exact False.elim hq
 |error ev=>
  obtain⟨a,cls,H2,rfl,x,C,rfl,hC,hmro,q2⟩:=hq;obtain⟨B,a0,GV,big⟩:=x.GV;have hfrm:X.A.frames=some (X.env::X.outer):=by rw[<-Oj];exact I.ok.frames
  rw[Oj]at GV;have keep:∀h6:Heap,B.StaysIn h6->s'.heap.UpToSlots h6->∀tk:Nat,Inv X pins σ H2 { s' with heap:=h6,toks:=tk }:=λh6 st up tk=>by
   have slots:∀b o,s'.heap.get? b=some o->b∈u_ X.stack->∃sl,h6.get? b=some { o with slots:=sl }:=λb o e hb=>by rw[Oj]at hb;obtain⟨_,o',e',nf⟩:=GV.2.2.1.mem hb;rw[e]at e';cases e';exact up b o e nf
   have HN:∀b∈u_ X.stack,H2 b=none:=λb hb=>by obtain⟨_,o,e,_⟩:=I1.stack.mem hb;exact x.un.free b o e (I1.G6 b hb) (by simp)
   refine I1.Pq (ch:=[]) x.os (x.un.GV (λb hb=>.inl hb) st (λb o e n hb=>big b o hb n e) slots λb hb=>hb) (x.h_.GV HN st (λb o e n hb=>big b o (.inl hb) n e)) x.bare (λb z=>absurd z (by simp))
  refine wpAny_looks_onW hfrm H_ GV λh4 WZ sm4=>wpAny_landsW WZ λh5 fl5 ZC=>?_;have I5:=keep h5 fl5.1 (sm4.trans ZC) s'.toks;obtain⟨oe,WE,_a⟩:=fl5.there;refine wpAny_handleBy_cons (codeAny_handlers_test (fO (I5.hand a) hgD hmD (iJ (K:=X.K) I5.Hb hC hD WE _a hmro ?_) hdd)) (by intro z;cases z);refine codeAny_handlers_suite_as (lands_againW fl5 λh6 fl6 sm6=>?_);have I6:=keep h6 fl6.1 ((sm4.trans ZC).trans sm6) s'.toks;obtain⟨oe6,WD,hoc6⟩:=fl6.there;have Mv:s1.heap.get? a=none:=x.new;have I7:Inv X pins σ (upd H2 a (uB a C)) { s' with heap:=h6 }:=by
   refine I6.Vh x.free (λu z=>?_) ⟨⟨oe6,WD,hoc6⟩,⟨oe6,WD⟩,λh1 h2 ⟨o,e1,e2⟩ st=>⟨o,st o e1,e2⟩⟩ (λz=>?_) (λy c e z=>?_) (λp hp z=>?_)
   ·obtain⟨o',e1⟩:=I1.base.there a u z (by rw[hex];simp);rw[Mv]at e1;cases e1
   ·obtain⟨m,Ke,_⟩:=I1.loc;obtain⟨oL,_,_,WH,_⟩:=Ke;rw[<-z,Mv]at WH;cases WH
   ·obtain⟨v,oc,WG,_⟩:=I1.cell y c e;rw[z,Mv]at WG;cases WG
   ·obtain⟨e1,_⟩:=I1.pin p hp;rw[z,Mv]at e1;cases e1
  refine jg (X:=X.hand a) (v:=.ref a) (I7.hand a) hN hi (.inl hn) rfl (λs7 I8=>?_) (.inr hn);refine abP (hs a pins s7 _ _ _ I8 (q2 a x.free)) (λfw s8 _e=>?_) λ_ _ z=>z.elim;cases fw with
  |next=>
   obtain⟨l_,H9,I9,q9⟩:=_e;have I9':=I9.Sy I.ok;obtain⟨m,Ke,hloc⟩:=I9'.loc;refine wpAny_nameGoes_keeps hn Ke (by rw[I.ok.kind];rfl) λUl v hn10 hs10=>?_;exact⟨l_.set i none,H9,I9'.gone hN hi Ke hloc hn10 hs10,q9⟩
  |ret u=>
   obtain⟨_,_,_,_,_,z⟩:=_e;exact z.elim
  |brk=>
   obtain⟨_,_,_,z⟩:=_e;exact z.elim
  |cont=>
   obtain⟨_,_,_,z⟩:=_e;exact z.elim
end
end L2
namespace L2
open PySem PySem.Spec PySem.Calls PyProof.Rows PySem.W Builtin Builtin.ObjectAttr Builtin.Getset_descriptor
structure Bc(K:Frag)(C:Addr):Prop where
 ex:uw K C
 ga:findIn K (.ref C) "__getattribute__" = some (some (.builtin "BaseException.__getattribute__"))
 gt:findIn K (.ref C) "__getattr__" = some none
 ca:findIn K (.ref C) "__class__" = some (some (.builtin "object.__class__"))
 sp:specialIn K (.builtin "object.__class__") "__get__" = some (some (.builtin "getset_descriptor.__get__"))
 tk:takesIn K (.builtin "object.__class__")=some true
 mo:mroIn K C (.type "object")=some true
 mb:mroIn K C (.type "BaseException")=some true
def mB(a C:Addr)(h:Heap):Prop:=∃o,h.get? a=some o/\o.cls=.ref C
variable{M:Model}
section
variable{prog:Program}{w:World}{A:Around}{E:Value->Shared->Prop}{K:Frag}{a C:Addr}{s:Shared}
def fA{h:Heap}(p:mB a C h):Looks M h (typeOf (.ref a)) (.ref C):=by obtain⟨o,h1,h2⟩:=p;exact h2▸(Looks.ld h1).andThen .now
def jQ{R:Result->Shared->Prop}{tp:Value}(X:K.In s.heap)(I:mB a C s.heap)(hm:mroIn K C (.type "object")=some true)(h:R (.ok (.ret (.ref C))) s):codeAny (model prog w) A (.call (.builtin "getset_descriptor.__get__") ⟨[.builtin "object.__class__",.ref a,tp],[]⟩) R s:=by
 obtain⟨hh,g,dr,t,os⟩:=s;have L0:=fA (M:=model prog w) I;have L1:=looks_mroIn (M:=model prog w) X hm;refine codeAny_call_builtin KF.slot_gs.plain KF.entry_gs (KF.slot_gs.check _ _ _ _ _ _ _ _ KF.type_class (KF.args_gs _ _ _) ?_);unfold Builtin.«getset_descriptor.__get__» descrGet;rw[dga_obj];refine aae (aaR ?_);unfold descrGetter descrCheckInstance descrNameAndClass isInstance;simp only[KF.owner_class];repeat lk
 refine⟨Code.quiet_builtin _ (by decide +kernel),acV KF.entry_class ?_⟩;unfold Builtin.«object.__class__» shownTypeOf;repeat lk
 exact h
def kS{Rg:Value}{Q:Unit->Shared->Prop}(X:K.In s.heap)(I:mB a C s.heap)(hm:mroIn K C (.type "BaseException")=some true)(hq:Q () s):wpAny M A (checkBuiltinCall "BaseException.__getattribute__" ⟨[.ref a,Rg],[]⟩) Q E s:=by
 obtain⟨hh,g,dr,t,os⟩:=s;have hk:builtinKind "BaseException.__getattribute__" = some .slot:=by decide +kernel
 have TC:splitId "BaseException.__getattribute__" = some ("BaseException", "__getattribute__"):=by decide +kernel
 have ha:=F.args_bexc_ga (.ref a) Rg;have L0:=fA (M:=M) I;have L1:=looks_mroIn (M:=M) X hm;simp only[checkBuiltinCall,hk,TC];refine aae ?_;unfold isInstance;refine aae (L0.at (L1.at ?_));repeat (first|assumption|wp_step)
def tS{tk:Tok}{Q:Fin->Shared->Prop}(X:K.In s.heap)(I:mB a C s.heap)(c:Bc K C)(hq:Q (.done (.ret (.ref C))) s):wpAny (model prog w) A (Builtin.«object.__getattribute__» ⟨[.ref a,.str "__class__" tk],[]⟩) Q E s:=by
 obtain⟨hh,g,dr,t,os⟩:=s;have L0:=fA (M:=model prog w) I;have L1:=looks_findIn (M:=model prog w) X c.ca;have f5:=F.typeOf_object_class;have f6:=F.slot_gs_get.lookup;have f7:=F.slot_gs_set.lookup;have hT5:(⟨hh,g,dr,t,os⟩:Shared).TypeIs (.builtin "object.__class__") "getset_descriptor":=F.typeOf_object_class;repeat (any_goals (first|assumption|with_reducible refine L0.at ?_|with_reducible refine L1.at ?_|wp_step))
 refine jQ X I c.mo ?_;repeat (any_goals (first|assumption|wp_step))
def DU{Q:Option Value->Shared->Prop}(X:K.In s.heap)(I:mB a C s.heap)(c:Bc K C)(hq:Q (some (.ref C)) { s with toks:=s.toks+1 }):wpAny (model prog w) A (getAttr? (.ref a) "__class__") Q E s:=by
 obtain⟨hh,g,dr,t,os⟩:=s;have L0:=fA (M:=model prog w) I;have L1:=looks_findIn (M:=model prog w) X c.ga;have L2':=looks_findIn (M:=model prog w) X c.gt;have f3:=PySem.F.excAttr_ValueError.ga.bind (.ref a);have hx2:(Value.builtin "BaseException.__getattribute__" == Value.builtin "object.__getattribute__")=false:=by decide +kernel
 have hx1:(onTheHeap (Value.ref C)&&Value.builtin "BaseException.__getattribute__" == Value.builtin "object.__getattribute__")=false:=by rw[hx2];rfl
 unfold getAttr? getAttrBy?;repeat (any_goals (first|assumption|with_reducible refine L0.at ?_|with_reducible refine L1.at ?_|with_reducible refine L2'.at ?_|wp_step))
 refine codeAny_call_builtin PySem.F.excAttr_ValueError.ga.plain F.entry_bexc_ga (kS X I c.mb (tS X I c ?_));exact handed_on rfl (aaR hq)
def jF(c:Bc K C):KitX K (.ref a) (.ref C) (mB a C) where
 ty:=λ_ _ _ I=>fA I
 it:=λ_ h X _=>by obtain⟨bm,N,nm,qn,bs,hdct,sn,sub,ab,col,dd,k0,k1,k2,k3,k5,mN,oC,_⟩:=io X c.ex;intro A' Q' E' s' k q;unfold isType loadHead;exact aae (wpAny_loadPart (k _ _ oC) (aaR q))
 ne:=λh tp dd d7 n sl X TB=>by obtain⟨bm,N,nm,qn,bs,hdct,sn,sub,ab,col,QR,k0,k1,k2,k3,k5,mN,oC,_⟩:=io X c.ex;refine Bool.eq_false_iff.mpr λq=>?_;have e:C=tp:=Value.ref.inj (beq_iff_eq.mp q);subst e;have z:=aaN (λo:Option Obj=>o.map (·.cls)) (oC.symm.trans TB);simp[excClassObj]at z
 ca:=λX I k=>DU X I c k
end
section
variable{X:Cx}
theorem kb:∀{ds:List Addr}{us:List Value},Vals (ds.map V.ref) us->us=ds.map Value.ref
 |[],_,r=>by cases r;rfl
 |d::ds,_,r=>by
  rw[aaV]at r;cases r with
  |cons r1 r2=>
   cases(show _=Value.ref d from r1);rw[kb r2];rfl
def wY:t4 X (.builtin "isinstance") (λxs H Q=>∃(a C:Addr)(v:V)(b:Bool),xs=[.ref a,v]/\H a=some (uB a C)/\Bc X.K C /\
 ((∃D,v=.ref D/\kitOne X.K (.ref C) (.ref D)=some b)\/(∃T,v=.ty T/\kitOne X.K (.ref C) (.type T)=some b)\/(∃(p:Addr)(ds:List Addr),v=.ref p/\H p=some (.tup (ds.map V.ref))/\kitAny X.K (.ref C) (ds.map Value.ref)=some b))/\Q (.bl b) H):=by
 intro pins s σ H xs us Q I r h;obtain⟨a,C,v,b,rfl,ha,c,alt,q⟩:=h;obtain⟨u,u',rfl,ru,rv⟩:=Bp r;cases ru;have hat:mB a C s.heap:=(I.h_ a _ ha).1;have fin:∀tk,EP X pins σ Q (.bool b) { s with toks:=tk }:=λtk=>⟨.bl b,H,I.tok tk,rfl,q⟩
 rcases alt with⟨D,rfl,e⟩|⟨T,rfl,e⟩|⟨p,ds,rfl,hp,e⟩
 ·cases rv;exact kia_one (jF c) I.Hb hat e (λz=>nomatch z) fin
 ·cases rv;exact kia_one (jF c) I.Hb hat e (λz=>nomatch z) fin
 ·cases rv;obtain⟨d7,r1,⟨⟨cls,dd,data,sl⟩,ho,hc,n,hd⟩,_⟩:=I.tuple (.of hp);simp only at hc hd;subst hc hd;rw[kb r1]at ho;exact kia_tup (jF c) I.Hb hat ho e (λz=>nomatch z) fin
end
end L2
namespace L2
open PySem PySem.Spec PyProof.Rows
mutual
/-- what a value shows,read through the abstract heap -/
inductive QX(K:W.Frag)(H:Hp):V->PyData->Prop
 |o_:QX K H .o_ .none
 |bl (b:Bool):QX K H (.bl b) (.bool b)
 |int (i:Int):QX K H (.int i) (.int i)
 |str (x:Str):QX K H (.str x) (.str x)
 |lst {a:Addr} {vs:List V} {ds:List PyData}:c_ K H a vs->Bf K H vs ds->QX K H (.ref a) (.list ds)
 |tup {a:Addr} {vs:List V} {ds:List PyData}:k_ K H a vs->Bf K H vs ds->QX K H (.ref a) (.tuple ds)
inductive Bf(K:W.Frag)(H:Hp):List V->List PyData->Prop
 |nil:Bf K H [] []
 |cons {v:V} {d:PyData} {vs:List V} {ds:List PyData}:QX K H v d->Bf K H vs ds->Bf K H (v::vs) (d::ds)
end
section
variable{X:Cx}{pins:List (Addr×Obj)}{σ:St}{H:Hp}{s:Shared}
mutual
theorem Inv.reads(I:Inv X pins σ H s):∀{v:V}{d:PyData}{u:Value},QX X.K H v d->RelV v u->∃as,Reads s.heap u d as
 |_,_,_,.o_,r=>by cases r;exact⟨_,.none⟩
 |_,_,_,.bl b,r=>by cases r;exact⟨_,.bool b⟩
 |_,_,_,.int i,r=>by obtain⟨t,rfl⟩:=r;exact⟨_,.int i t⟩
 |_,_,_,.str x,r=>by obtain⟨t,rfl⟩:=r;exact⟨_,.str x t⟩
 |_,_,_,.lst h1 h2,r=>by
  cases r;obtain⟨d7,rs,⟨o,n,e,c,_,dt⟩,_⟩:=I.list h1;obtain⟨as,ra⟩:=I.LI h2 rs;exact⟨_,.list e c dt (by simpa using ra)⟩
 |_,_,_,.tup h1 h2,r=>by cases r;obtain⟨d7,rs,⟨o,e,c,n,dt⟩,_⟩:=I.tuple h1;obtain⟨as,ra⟩:=I.LI h2 rs;exact⟨_,.tuple e c dt (by simpa using ra)⟩
theorem Inv.LI(I:Inv X pins σ H s):∀{vs:List V}{ds:List PyData}{us:List Value},Bf X.K H vs ds->Vals vs us->∃as,ReadsAll s.heap us ds as
 |_,_,_,.nil,r=>by cases r;exact⟨_,.nil⟩
 |_,_,_,.cons h1 h2,r=>by
  cases r with
  |cons r1 r2=>
   obtain⟨as,ra⟩:=I.reads h1 r1;obtain⟨bs,rb⟩:=I.LI h2 r2;exact⟨_,.cons ra rb⟩
end
end
variable{es:List Expr}{ts:List TE}
section
variable{X:Cx}{pins:List (Addr×Obj)}{σ:St}{H:Hp}{s:Shared}{te:TE}{e:Expr}{pos:Pos}{k:Nat}
def FI(te:TE):TE:=λσ H Q=>te σ H λv H1=>(∃x,v=.str x/\x.length<=sizeLine/\Q (.str x) H1)\/(∃i:Int,v=.int i/\i.natAbs.log2<1920/\Q (.str (toString i)) H1)
def CV(he:PE X e te):PE X (.FormattedValue e (-1) none pos) (FI te):=λpins s σ H Q I h=>
 wpAny_FormattedValue_plain (j9 (he pins s σ H _ I h) λu s1 ⟨v,H1,I1,r,q⟩=>by
  rcases q with⟨x,rfl,hx,q⟩|⟨i,rfl,hi,q⟩
  ·obtain⟨t,rfl⟩:=r;exact wpAny_formatField_str ⟨.str x,H1,I1,⟨_,rfl⟩,q⟩ ⟨.str x,H1,I1.tok _,⟨_,rfl⟩,q⟩ hx
  ·obtain⟨t,rfl⟩:=r;exact wpAny_formatField_int hi ⟨.str _,H1,I1.tok _,⟨_,rfl⟩,q⟩)
def FH(K:W.Frag)(te:TE):TE:=λσ H Q=>te σ H λv H1=>∃d:PyData,QX K H1 v d/\d.showable=true/\d.hasDict=false/\d.depth<=64/\d.shown.length<=sizeLine/\Q (.str d.shown) H1
theorem CU(hr:o5 k X.A)(he:PE X e te):PE X (.FormattedValue e 114 none pos) (FH X.K te):=λpins s σ H Q I h=>
 wpAny_FormattedValue_repr (j9 (he pins s σ H _ I h) λu s1 ⟨v,H1,I1,r,d,hw,h1,h2,h3,h4,q⟩=>by
  have fin:∀(h':Heap)(t tk:Nat),(∀b o,s1.heap.get? b=some o->h'.get? b=some o)->wpAny (model X.prog X.w) X.A (formatField (.str d.shown t) Str.empty) (EP X pins σ Q) X.xe { s1 with heap:=h',toks:=tk }:=λh' t tk kp=>
   have I2:∀tk,Inv X pins σ H1 { s1 with heap:=h',toks:=tk }:=λtk=>I1.un (t':=tk) (Un.kept λb o e=>kp b o e) (λa o e=>(I1.h_ a o e).GR (λb u _ q=>kp b u q) (λ_ q=>q) λ_ _ q=>q)
   wpAny_formatField_str ⟨.str _,H1,I2 _,⟨_,rfl⟩,q⟩ ⟨.str _,H1,I2 _,⟨_,rfl⟩,q⟩ h4
  have hu:=hr.units;cases hw with
  |o_=>cases r;exact pyReprObj_none (fin _ _ _ λ_ _ e=>e)
  |bl b=>cases r;exact pyReprObj_bool (fin _ _ _ λ_ _ e=>e)
  |int i=>obtain⟨t,rfl⟩:=r;exact pyReprObj_int (by simpa [PyData.showable]using h1) (fin _ _ _ λ_ _ e=>e)
  |str x=>obtain⟨t,rfl⟩:=r;exact pyReprObj_str (fin _ _ _ λ_ _ e=>e) h4
  |lst a1 a2=>
   obtain⟨as,rd⟩:=I1.reads (.lst a1 a2) r;cases r;exact pyReprObj_of_reads rd h1 (PyData.noDict_hsm h2) hr.gd (by lia) (λ_ _ e=>e) (λh' u tk kp=>fin h' u tk kp) h4
  |tup a1 a2=>
   obtain⟨as,rd⟩:=I1.reads (.tup a1 a2) r;cases r;exact pyReprObj_of_reads rd h1 (PyData.noDict_hsm h2) hr.gd (by lia) (λ_ _ e=>e) (λh' u tk kp=>fin h' u tk kp) h4)
def qO:List TE->Str->TE
 |[],acc=>λ_ H Q=>Q (.str acc) H
 |t::ts,acc=>λσ H Q=>t σ H λv H1=>∃y,v=.str y/\(acc++y).length<=sizeLine/\qO ts (acc++y) σ H1 Q
structure QJ(X:Cx)(es:List Expr)(ts:List TE):Prop where
 h:∀(acc:Str)(pins:List (Addr×Obj))(s:Shared)(σ:St)(H:Hp)(Q:VK),acc.length<=sizeLine->Inv X pins σ H s->qO ts acc σ H Q->Joins (model X.prog X.w) X.A X.xe (evalEach es X.env) acc (λout s1=>out.length<=sizeLine/\EP X pins σ Q (.str out s1.toks) { s1 with toks:=s1.toks+1 }) s
def dq:QJ X [] []:=⟨λacc pins s σ H Q ha I h=>⟨ha,.str acc,H,I.tok _,⟨_,rfl⟩,h⟩⟩
def bq(he:QE X e te)(hr:QJ X es ts):QJ X (e::es) (te::ts):=⟨λacc pins s σ H Q ha I h=>by
 show wpAny _ _ (eval e X.env) _ _ _;refine j9 (he.h pins s σ H _ I h) λu s1 ⟨v,H1,I1,r,y,ev,hy,q⟩=>?_;subst ev;obtain⟨t,rfl⟩:=r;exact⟨y,t,rfl,hy,hr.h _ _ _ _ _ _ hy I1 q⟩⟩
def cL{e2:Expr}(h:QJ X (e::e2::es) ts):QE X (.JoinedStr (e::e2::es) pos) (qO ts Str.empty):=⟨λpins s σ H Q I q=>wpAny_JoinedStr (h.h _ _ _ _ _ _ (by decide) I q)⟩
def rM(he:QE X e te):QE X (.FormattedValue e (-1) none pos) (FI te):=⟨CV he.h⟩
def dU(hr:o5 k X.A)(he:QE X e te):QE X (.FormattedValue e 114 none pos) (FH X.K te):=⟨CU hr he.h⟩
end
section
variable{X:Cx}
def bP{x:Str}{C:Addr}{e:Expr}{es:List Expr}{t:TA}{np g6 pos:Pos}{EX:Hp->Prop}(hc:X.calm=true)(hg:Gl X x)(hm:X.mg x=some (.ref C))(he:uw X.K C)(ha:QA X (e::es) t)(hx:∀pins σ H s h' a vs,Inv X pins σ H s->Heap.MadeExcOf s.heap h' a (.ref C) vs->EX H->X.xe (.ref a) { s with heap:=h' })(hd:(x == ("__debug__" : Str))=false:=by decide)(B5:starEach (e::es) X.env=(false,eval e X.env)::starEach es X.env:=by rfl)(HY:(backTo g6 (starEach es X.env)).any (·.1)=false:=by rfl):
 QS X (.Raise (some (.Call (.Name x np) (e::es) [] g6)) none pos) (xq EX t):=⟨vn hc hg hm he ha.h hx hd B5 HY⟩
variable{k:Nat}{f Dc:Addr}{fd:FuncData}{ps:List Str}{sp:Sp}{x dn n:Str}{i:Nat}{p g6 Oz np LO pos:Pos}{e:Expr}{es:List Expr}{t:TA}{ts:TS}{b0:Stmt}{Jq:List Stmt}
def CK(F:d9 X.prog X.w X.K X.mg X.base (Hu X.prog X.w) k f fd ps sp)(hr:o5 k X.A)(hg:Gl X x)(hm:X.mg x=some (.ref f))(hk:PySem.W.keepIn X.K (.ref f)=true)(hb:Binds X.K fd ps [])(ha:QA X.Tf (e::es) t)(hgD:Gl X dn)(hmD:X.mg dn=some (.ref Dc))(hD:uw X.K Dc)(hN:X.N.Nodup)(hi:X.N[i]?=some n)(hn:X.env.scope.names.lookup n=some .local)(Oj:X.stack=X.env::X.outer)(H_:X.env.frame=some X.env.locals)(hex:X.ex=[])(hs:∀a,Nx (X.hand a) (b0::Jq) ts)(J2:(x == ("__debug__" : Str))=false:=by decide)(hdd:(dn == ("__debug__" : Str))=false:=by decide)(he:starEach (e::es) X.env=(false,eval e X.env)::starEach es X.env:=by rfl)(HY:(backTo g6 (starEach es X.env)).any (·.1)=false:=by rfl)(M':swapsWith (.Call (.Name x p) (e::es) [] g6) none Oz.line X.env=pure false:=by rfl):
 QS X (.Try [.Expr (.Call (.Name x p) (e::es) [] g6) Oz] [.ExceptHandler (some (.Name dn np)) (some n) (b0::Jq) LO] [] [] pos) (FG X.K Dc i sp t ts):=
 ⟨CN F hr hg hm hk hb ha.h hgD hmD hD hN hi hn Oj H_ hex (λa=>(hs a).h) J2 hdd he HY M'⟩
end
variable{u:Value}
section
variable{κ:Type}[DecidableEq κ]
noncomputable def uG(e_:List (κ×V))(k:κ):Option V:=(e_.find? λkv=>decide (kv.1=k)).map (·.2)
noncomputable def xE(e_:List (κ×V))(k:κ)(v:V):List (κ×V):=
 if(e_.any λkv=>decide (kv.1=k))=true then e_.map (λkv=>if kv.1=k then(kv.1,v)else kv)else e_++[(k,v)]
def uE{p:κ×V}{r:List (κ×V)}{k:κ}(e:p.1=k):uG (p::r) k=some p.2:=by simp[uG,abS,e]
def uF{p:κ×V}{r:List (κ×V)}{k:κ}(e:¬p.1=k):uG (p::r) k=uG r k:=by simp[uG,abS,e]
theorem md(e_:List (κ×V))(k:κ)(v:V):(xE e_ k v).length<=e_.length+1:=by
 unfold xE;split
 ·rw[aad];lia
 ·rw[aaa,aac,aa7];lia
theorem HV.getD{o:Option V}{u:Option Value}{d:V}{d':Value}(r:HV o u)(rd:RelV d d'):RelV (o.getD d) (u.getD d'):=by
 cases o with
 |none=>cases u with
  |none=>exact rd
  |some _=>exact(show False from r).elim
 |some _=>cases u with
  |none=>exact(show False from r).elim
  |some _=>exact r
theorem KV.val{e_:List (κ×V)}{vs:List (κ×Value)}(r:KV e_ vs)(k:κ):HV (uG e_ k) (valueAt vs k):=by
 unfold KV at r;induction r with
 |nil=>exact True.intro
 |@cons p q ps qs h t ih=>
  obtain⟨h1,h2⟩:=h;by_cases e:p.1=k
  ·have e':q.1=k:=h1.symm.trans e;have b:valueAt (q::qs) k=some q.2:=by simp[valueAt,abS,e']
   rw[uE e,b];exact h2
  ·have e':¬q.1=k:=λz=>e (h1.trans z);have b:valueAt (q::qs) k=valueAt qs k:=by simp[valueAt,abS,e']
   rw[uF e,b];exact ih
theorem KV.any{e_:List (κ×V)}{vs:List (κ×Value)}(r:KV e_ vs)(k:κ):(e_.any λkv=>decide (kv.1=k))=vs.any λkv=>decide (kv.1=k):=by
 unfold KV at r;induction r with
 |nil=>rfl
 |cons h t ih=>rw[acq,acq,ih,h.1]
theorem KV.repl{e_:List (κ×V)}{vs:List (κ×Value)}(r:KV e_ vs)(k:κ){y:V}(ry:RelV y u):
 KV (e_.map λkv=>if kv.1=k then(kv.1,y)else kv) (vs.map λkv=>if kv.1=k then(kv.1,u)else kv):=by
 unfold KV at r⊢;induction r with
 |nil=>exact .nil
 |@cons p q ps qs h t ih=>
  rw[aaV,aaV];refine .cons ?_ ih;obtain⟨h1,h2⟩:=h;by_cases e:p.1=k
  ·rw[aaX e,aaX (h1.symm.trans e)];exact⟨h1,ry⟩
  ·rw[aaK e,aaK (λz=>e (h1.trans z))];exact⟨h1,h2⟩
def KV.put{e_:List (κ×V)}{vs:List (κ×Value)}(r:KV e_ vs)(k:κ){y:V}(ry:RelV y u):KV (xE e_ k y) (stored vs k u):=by
 unfold xE stored;rw[r.any k];by_cases e:(vs.any λkv=>decide (kv.1=k))=true
 ·rw[aaX e,aaX e];exact r.repl k ry
 ·rw[aaK e,aaK e];exact Paired.snoc r ⟨rfl,ry⟩
end
variable{P:Program}{w:World}
theorem As{k:Key}(r:RelV (kV k) u):(cc P w).is k u=true:=by
 cases k with
 |inl i=>obtain⟨t,e⟩:=(show∃t,u=Value.int i t from r);subst e;exact lW P w i t
 |inr x=>obtain⟨t,e⟩:=(show∃t,u=Value.str x t from r);subst e;exact lV P w x t
theorem kK{P:Program}{w:World}:∀{ks:List Key}{us:List Value},Vals (ks.map kV) us->ItemsAre (cc P w) ks us
 |[],_,r=>by rw[abJ]at r;cases r;exact .nil
 |k::ks,_,r=>by
  rw[aaV]at r;cases r with
  |cons h t=>exact .cons (As h) (kK t)
abbrev KT(H:Hp):List (List Key×V)->List (List Key×Addr×Value)->Prop:=Paired λp q=>p.1=q.1/\H q.2.1=some (.tup (p.1.map kV))/\RelV p.2 q.2.2
variable{e_:List (Key×V)}
section
variable{P:Program}{w:World}{H:Hp}{h:Heap}{a:Addr}
def CH{u:HO}(ok:G8 P w H h)(e:Rd H a u):j5 P w H h a u:=e.ok ok
def AK(ok:G8 P w H h)(e:Rd H a (.dK e_)):e_.length<=sizeLine/\(a == sysModules)=false/\∃vs,KV e_ vs/\h.DictOf (cc P w) a vs:=
 show j5 P w H h a (.dK e_)from CH ok e
def Fp(ok:G8 P w H h)(e:H a=some (.dK e_)):e_.length<=sizeLine/\(a == sysModules)=false/\∃vs,KV e_ vs/\h.DictOf (cc P w) a vs:=AK ok (.inl e)
def Dx{ks:List Key}(ok:G8 P w H h)(e:H a=some (.tup (ks.map kV))):(tupleKind (cc P w)).is h ks a:=by
 obtain⟨_,d7,r,o,h1,h2,n,h3⟩:=(show j5 P w H h a (.tup (ks.map kV))from ok a _ e)
 exact⟨o,d7.toArray,n,h1,h2,h3,by simpa using kK r⟩
def Fn{e_:List (List Key×V)}(ok:G8 P w H h)(e:Rd H a (.dT e_)):e_.length<=sizeLine/\(a == sysModules)=false /\
 ∃xs,KT H e_ xs/\h.DictOfH (tupleKind (cc P w)) a xs:=by
 obtain⟨z,y,xs,r,o,es,ep,h1,h2,h3,h4,h5⟩:=(show j5 P w H h a (.dT e_)from CH ok e)
 refine⟨z,y,xs,r,o,es,ep,h1,h2,h3,h4,λx hx=>?_,h5⟩;have all:∀{l:List (List Key×V)}{m:List (List Key×Addr×Value)},KT H l m->∀x∈m,(tupleKind (cc P w)).is h x.1 x.2.1:=by
  intro l m q;induction q with
  |nil=>intro x hx;exact nomatch hx
  |@cons p q ps qs hq t ih=>
   intro x hx;rcases List.mem_cons.mp hx with e|hx
   ·subst e;exact Dx ok (by rw[<-hq.1];exact hq.2.1)
   ·exact ih x hx
 exact all r x hx
end
variable{h':Heap}
section
variable{X:Cx}{pins:List (Addr×Obj)}{σ:St}{H:Hp}{s:Shared}{a:Addr}{y v:V}{u r:Value}{o:Option V}{A:Around}{E:Value->Shared->Prop}
def Inv.big(I:Inv X pins σ H s):sysModules<s.heap.objs.size:=by have h:mainGlobals<s.heap.objs.size:=(I.mod.glob.keeps I.bk).lt;exact Nat.lt_trans (by decide) h
def AQ{t':Nat}{ob:HO}(I:Inv X pins σ H s)(mu:YT (H a))(hs:Heap.SameBut a s.heap h')(he:∃q,h'.get? a=some q)(new:j5 X.prog X.w (upd H a ob) h' a ob):
 Inv X pins σ (upd H a ob) { s with heap:=h',toks:=t' }:=
 I.write (x:=a) (e:=a) mu (.inl rfl) (λb q hb z=>(hs.2 b hb).trans z) he new
def DX{H':Hp}{vs:List (Key×Value)}(z:e_.length<=sizeLine)(hd:(a == sysModules)=false)(rel:KV e_ vs)(dd:h'.DictOf (cc P w) a vs):
 j5 P w H' h' a (.dK e_):=⟨z,hd,vs,rel,dd⟩
end
variable{H:Hp}
def wO(h:Heap)(hb:sysModules<h.objs.size):j5 P w H (h.push { cls:=.type "dict",data:=.dict #[] }) h.objs.size (.dK []):=
 ⟨aa8 _,beq_eq_false_iff_ne.mpr (abw (aaY hb)),[],.nil,Heap.DictOf.new h⟩
def qM:List (TE×TE)->St->Hp->(List (V×V)->Hp->Prop)->Prop
 |[],_,H,Q=>Q [] H
 |(tk,tv)::r,σ,H,Q=>tk σ H λx H1=>tv σ H1 λy H2=>qM r σ H2 λps H3=>Q ((x,y)::ps) H3
abbrev VV:List (V×V)->List (Value×Value)->Prop:=Paired λp q=>RelV p.1 q.1/\RelV p.2 q.2
def UA(X:Cx)(pos:Pos)(keys:List (Option Expr))(values:List Expr)(Lp:List (TE×TE)):Prop:=
 ∀(pins:List (Addr×Obj))(s:Shared)(σ:St)(H:Hp)(Q:List (V×V)->Hp->Prop),Inv X pins σ H s->qM Lp σ H Q ->
  wpAny (model X.prog X.w) X.A (evalPairs (pairTrees keys values X.env pos)) (λvs s'=>∃ps H',Inv X pins σ H' s'/\VV ps vs/\Q ps H') X.xe s
variable{pos:Pos}{X:Cx}
def zh:UA X pos [] [] []:=λpins s σ H Q I h=>pairTrees_nil_walk ⟨[],H,I,.nil,h⟩
variable{Lp:List (TE×TE)}
def vo{k v:Expr}{ks:List (Option Expr)}{vs:List Expr}{tk tv:TE}(hk:PE X k tk)(hv:PE X v tv)(hr:UA X pos ks vs Lp):
 UA X pos (some k::ks) (v::vs) ((tk,tv)::Lp):=λpins s σ H Q I h=>
 pairTrees_cons_walk (j9 (hk pins s σ H _ I h) λu s1 ⟨x,H1,I1,rx,q1⟩=>j9 (hv pins s1 σ H1 _ I1 q1) λw2 s2 ⟨y,H2,I2,ry,q2⟩=>
  j9 (hr pins s2 σ H2 _ I2 q2) λws s3 ⟨ps,H3,I3,rel,q3⟩=>⟨(x,y)::ps,H3,I3,.cons ⟨rx,ry⟩ rel,q3⟩)
noncomputable def fb(e_ more:List (Key×V)):List (Key×V):=more.foldl (λacc kv=>xE acc kv.1 kv.2) e_
theorem KV.merge:∀{more:List (Key×V)}{rs:List (Key×Value)}{e_:List (Key×V)}{vs:List (Key×Value)},KV more rs->KV e_ vs->KV (fb e_ more) (merged vs rs):=by
 intro more rs e_ vs r;unfold KV at r;induction r generalizing e_ vs with
 |nil=>intro q;exact q
 |@cons p q ps qs h t ih=>
  intro r0;have e:KV (xE e_ p.1 p.2) (stored vs q.1 q.2):=by have:=r0.put p.1 h.2;rw[<-h.1];exact this
  exact ih e
theorem fk:∀(more e_:List (Key×V)),(fb e_ more).length<=e_.length+more.length
 |[],e_=>by show e_.length<=e_.length+0;lia
 |p::r,e_=>by have h1:=fk r (xE e_ p.1 p.2);have h2:=md e_ p.1 p.2;show(fb (xE e_ p.1 p.2) r).length<=_;rw[aac];lia
theorem jf{P:Program}{w:World}:∀{e_:List (Key×V)}{ws:List (Value×Value)},VV (e_.map λkv=>(kV kv.1,kv.2)) ws->∃rs,Carries (cc P w) ws rs/\KV e_ rs
 |[],_,r=>by rw[abJ]at r;cases r;exact⟨[],True.intro,.nil⟩
 |p::e_,_,r=>by
  rw[aaV]at r;cases r with
  |@cons a b as bs h t=>
   obtain⟨rs,c,q⟩:=jf (P:=P) (w:=w) t;obtain⟨b1,b2⟩:=b;exact⟨(p.1,b2)::rs,⟨As h.1,rfl,c⟩,.cons ⟨rfl,h.2⟩ q⟩
def By(Lp:List (TE×TE)):TE:=λσ H Q=>∀p,H p=none->qM Lp σ (upd H p (.dK [])) λps H2=>H2 p=some (.dK [])/\∃e_:List (Key×V),ps=e_.map (λkv=>(kV kv.1,kv.2))/\e_.length<=15/\Q (.ref p) (upd H2 p (.dK (fb [] e_)))
theorem zn{keys:List (Option Expr)}{values:List Expr}(h:UA X pos keys values Lp)(Hk:keys.all (·.isSome)=true)(hl:keys.length=values.length)(h0:keys≠[])(Xi:keys.length<=15):PE X (.Dict keys values pos) (By Lp):=by
 intro pins s σ H Q I q;have hn:=I.h_.fresh (aam s.heap.objs.size);have I1:=I.laid (a:=s.heap.objs.size) (o:=.dK []) (h':=s.heap.push { cls:=.type "dict",data:=.dict #[] }) (t':=s.toks) (λ_ _ q=>aag _ q) (aam _) (wO s.heap I.big);refine wpAny_Dict_walk (knd:=cc X.prog X.w) Hk hl h0 Xi (j9 (h pins _ σ _ _ I1 (q _ hn)) λws s2 ⟨ps,H2,I2,rel,e,e_,ep,lk,q2⟩=>?_);subst ep;obtain⟨rs,c,rk⟩:=jf (P:=X.prog) (w:=X.w) rel;obtain⟨z,hd,vs0,r0,dd⟩:=Fp I2.h_ e;cases r0;refine⟨rs,c,dd,λh' QR hs=>⟨.ref s.heap.objs.size,_,?_,rfl,q2⟩⟩;have hz:(fb [] e_).length<=sizeLine:=by have h1:=fk e_ [];rw[aa7]at h1;rw[ac4];lia
 have he:∃q,h'.get? s.heap.objs.size=some q:=let⟨q,_,_,hq,_⟩:=QR;⟨q,hq⟩
 exact AQ I2 (by rw[e];exact True.intro) hs he (DX hz hd (rk.merge .nil) QR)
structure M2(X:Cx)(o:Expr)(m:Str)(apos:Pos)(e f:Expr)(g6:Pos):Prop where
 base:attributeBase o m X.env (eval o X.env)=eval o X.env
 HQ:((backTo g6 (starEach [e,f] X.env)).all (λx=>!x.1)&&(backToKw g6 (keywordEach [] X.env)).all (λx=>x.1.isSome)
  && decide (([e,f]:List Expr).length+([]:List Keyword).length+(if([]:List Keyword).isEmpty then 0 else 1)<30))=true
 line:(apos.endLine == g6.line)=true
 trees:backTo g6 (starEach [e,f] X.env)=[(false,eval e X.env),(false,eval f X.env)]
def IsD(H:Hp)(a:Addr):Prop:=(∃e_,Rd H a (.dK e_))\/∃e_,Rd H a (.dT e_)
variable{a:Addr}
def DF{pins:List (Addr×Obj)}{σ:St}{s:Shared}(I:Inv X pins σ H s)(d:IsD H a):
 s.TypeIs (.ref a) "dict"/\(∀b,Value.ref a=.ref b->∃ob,s.heap.get? b=some ob/\ob.dict=none)/\(a == sysModules)=false:=by
 rcases d with⟨e_,e⟩|⟨e_,e⟩
 ·obtain⟨_,hd,vs,_,dd⟩:=AK I.h_ e;refine⟨dd.typeIs,λb q=>?_,hd⟩;cases q;obtain⟨ob,_,_,h1,h2,_⟩:=dd;exact⟨ob,h1,h2.2.1⟩
 ·obtain⟨_,hd,xs,_,dd⟩:=Fn I.h_ e;refine⟨dd.typeIs,λb q=>?_,hd⟩;cases q;obtain⟨ob,_,_,h1,h2,_⟩:=dd;exact⟨ob,h1,h2.2.1⟩
noncomputable def gM:List DictEntry->List (Str×Value)
 |[]=>[]
 |e::r=>match e.key with
  |.str x _=>(x,e.val)::gM r
  |_=>gM r
def MG(K:W.Frag)(w:World)(a:Addr)(e_:List (Str×Value)):Prop:=
 ∃(es:List DictEntry)(n:Nat),K.lookup a=some ⟨.type "dict",none,.dict es.toArray n,#[]⟩/\PySem.W.KeysLit w.params es/\gM es=e_
noncomputable def yp(e_:List (Str×Value))(x:Str):Option Value:=(e_.find? λp=>p.1 == x).map (·.2)
theorem jO:∀(es:List DictEntry)(x:Str),(es.find? λe=>Value.isStrOf x e.key).map (·.val)=yp (gM es) x
 |[],_=>rfl
 |e::r,x=>by
  unfold gM;rw[abS];cases hk:e.key with
  |str y t=>
   dsimp only;unfold yp;rw[abS];show Option.map _ (match(y == x)with|true=>some e|false=>_)=_;cases y == x
   ·exact jO r x
   ·rfl
  |_=>exact jO r x
variable{K:W.Frag}
def MG.map{e_:List (Str×Value)}{prog:Program}{h:Heap}(d:MG K w a e_)(X:K.In h):h.MapOf (strKind prog w) a (λk=>yp e_ k):=by
 obtain⟨es,n,hl,hk,rfl⟩:=d;have m:=PySem.W.mapOf_K (prog:=prog) X hl hk;have e:(λk=>findBy Value.isStrOf es.toArray k)=λk=>yp (gM es) k:=funext λx=>by unfold findBy;rw[List.find?_toArray];exact jO es x
 rw[e]at m;exact m
section
variable{X:Cx}
def vx:GK X (compareOp .In) (λx y H Q=>∃z a e_,x=.str z/\y=.ref a/\MG X.K X.w a e_/\(a == sysModules)=false/\Q (.bl (yp e_ z).isSome) H):=by intro pins s σ H x y v u Q I rx ry h;obtain⟨z,a,e_,rfl,rfl,d,lo,q⟩:=h;obtain⟨t,rfl⟩:=rx;cases ry;exact wpAny_in_of (strKind_is X.prog X.w z t) lo (d.map I.Hb) ⟨.bl _,H,I.tok _,rfl,q⟩
end
def _9(x:Str):It:=⟨λi _=>i<x.cps.size,λi H v H'=>H'=H/\∃c,x.cps[i]?=some c/\v=.str ⟨#[c]⟩,λi _=>x.cps.size<=i⟩
variable{tg:Expr}
theorem qJ(x:Str)(t:Tok)(it:Addr):uC P w K tg (_9 x) [it] it (λi h=>h.IsStrIter it "str_ascii_iterator" x t i) where
 mem:=by simp
 obj:=λi h st b hb=>by
  have e:b=it:=by simpa using hb
  subst e;obtain⟨o,e,c,d⟩:=st;exact⟨o,e,λv z=>by rw[d]at z;cases z⟩
 keep:=λi h h' st k=>let⟨o,e,r⟩:=st;⟨o,k it (by simp) o e,r⟩
 item:=by
  intro X hP hw hK hc i pins s σ H E I hf st hg;subst hP hw hK;have hg:i<x.cps.size:=hg;obtain⟨f0,f1,f2,f3,f4,f5⟩:=hf it (by simp);have hx:x.cps[i]?=some x.cps[i]:=by simp[hg]
  refine wpAny_pyNext_ascii_item st (c:=x.cps[i]) hx λh' Jh sb=>?_;have I1:∀tk,Inv X pins σ H { s with heap:=h',toks:=tk }:=λtk=>I.turned (t':=tk) (λb o hb e=>(sb.2 b hb).trans e) f0 f1 f3 f4 f5;obtain⟨o,e,c,d⟩:=id Jh;exact⟨_,rfl,qj (s:={ s with heap:=h',toks:=s.toks+1 }) e c d (by decide) ⟨.str ⟨#[x.cps[i]]⟩,H,I1 _,⟨_,rfl⟩,⟨rfl,_,hx,rfl⟩,Jh,λb hb=>(hf b hb).1⟩⟩
 done:=by intro X hP hw hK hc i pins s σ H E I hf st hg;subst hP hw hK;have hg:x.cps.size<=i:=hg;obtain⟨f0,f1,f2,f3,f4,f5⟩:=hf it (by simp);exact wpAny_pyNext_ascii_end (I.ok.hd hc) st (by simp[hg]) λh' eb=>⟨rfl,I.turned (t':=s.toks) (λb o hb e=>eb b o hb e) f0 f1 f3 f4 f5⟩
 self:=λ_ _ _ _ _ st h=>wpAny_pyIter_striter_ascii st h
theorem qI(x:Str)(t:Tok)(it:Addr):uC P w K tg (_9 x) [it] it (λi h=>h.IsStrIter it "str_iterator" x t i) where
 mem:=by simp
 obj:=λi h st b hb=>by
  have e:b=it:=by simpa using hb
  subst e;obtain⟨o,e,c,d⟩:=st;exact⟨o,e,λv z=>by rw[d]at z;cases z⟩
 keep:=λi h h' st k=>let⟨o,e,r⟩:=st;⟨o,k it (by simp) o e,r⟩
 item:=by
  intro X hP hw hK hc i pins s σ H E I hf st hg;subst hP hw hK;have hg:i<x.cps.size:=hg;obtain⟨f0,f1,f2,f3,f4,f5⟩:=hf it (by simp);have hx:x.cps[i]?=some x.cps[i]:=by simp[hg]
  refine wpAny_pyNext_wide_item st (c:=x.cps[i]) hx λh' Jh sb=>?_;have I1:∀tk,Inv X pins σ H { s with heap:=h',toks:=tk }:=λtk=>I.turned (t':=tk) (λb o hb e=>(sb.2 b hb).trans e) f0 f1 f3 f4 f5;obtain⟨o,e,c,d⟩:=id Jh;exact⟨_,rfl,qj (s:={ s with heap:=h',toks:=s.toks+1 }) e c d (by decide) ⟨.str ⟨#[x.cps[i]]⟩,H,I1 _,⟨_,rfl⟩,⟨rfl,_,hx,rfl⟩,Jh,λb hb=>(hf b hb).1⟩⟩
 done:=by intro X hP hw hK hc i pins s σ H E I hf st hg;subst hP hw hK;have hg:x.cps.size<=i:=hg;obtain⟨f0,f1,f2,f3,f4,f5⟩:=hf it (by simp);exact wpAny_pyNext_wide_end (I.ok.hd hc) st (by simp[hg]) λh' eb=>⟨rfl,I.turned (t':=s.toks) (λb o hb e=>eb b o hb e) f0 f1 f3 f4 f5⟩
 self:=λ_ _ _ _ _ st h=>wpAny_pyIter_striter_wide st h
variable{l:Expr}
section
variable{X:Cx}{tg:Expr}
def Gb(tl:TE):TI:=λσ H R=>tl σ H λv H1=>∃x,v=.str x/\R (_9 x) H1
def CS{tl:TE}(hl:PE X l tl):PI X tg l (Gb tl):=by
 intro pins s σ H R I h;refine j9 (hl pins s σ H _ I h) λv s1 ⟨v',H1,I1,r1,q1⟩=>?_;obtain⟨x,e,q⟩:=q1;subst e;obtain⟨t,rfl⟩:=r1;have fp:∀b∈[s1.heap.objs.size],mz X pins H1 b:=λb hb=>by
  have e:b=s1.heap.objs.size:=by simpa using hb
  subst e;exact I1.J3 (aam _) (I1.h_.fresh (aam _))
 cases ha:x.cps.all (· < 128)
 ·exact wpAny_pyIter_wide ha ⟨s1.heap.objs.size,[s1.heap.objs.size],_,_,H1,rfl,I1.kept (t':=s1.toks) λb o e=>aag _ e,qI x t _,⟨_,aax _ rfl,rfl,rfl⟩,fp,q⟩
 ·exact wpAny_pyIter_ascii ha ⟨s1.heap.objs.size,[s1.heap.objs.size],_,_,H1,rfl,I1.kept (t':=s1.toks) λb o e=>aag _ e,qJ x t _,⟨_,aax _ rfl,rfl,rfl⟩,fp,q⟩
def rH{tl:TE}(hl:QE X l tl):QI X tg l (Gb tl):=⟨CS hl.h⟩
end
end L2
namespace L2
open PySem PySem.Spec PySem.Calls PyProof.Rows Builtin Builtin.Str
section
variable{X:Cx}
def uq(bs:List Bool):(List.range bs.length).all (λi=>bs[i]?.getD true)=bs.all id:=by
 rw[acb,abK,abK];constructor
 ·intro h b hb;obtain⟨i,hi,rfl⟩:=List.mem_iff_getElem.mp hb;have:=h i (List.mem_range.mpr hi);rw[aa3 hi]at this;exact this
 ·intro h i hi;have hi:=List.mem_range.mp hi;rw[aa3 hi];exact h _ (ade hi)
theorem yn{bs:List Bool}{d7:List Value}(r:Vals (bs.map V.bl) d7){i:Nat}{v:Value}(h:d7[i]?=some v):v=.bool (bs[i]?.getD true):=by have hi:i<d7.length:=(List.getElem?_eq_some_iff.mp h).1;have hl:=r.length;rw[aad]at hl;have hb:bs[i]?=some (bs[i]'(by lia)):=aa3 (by lia);obtain⟨u,e,ru⟩:=r.get (i:=i) (x:=V.bl (bs[i]'(by lia))) (by rw[aaI,hb];rfl);rw[h]at e;cases e;rw[hb];exact ru
def jW(hc:X.calm=true):t4 X (.builtin "all") (λxs H Q=>∃(p:Addr)(bs:List Bool),xs=[.ref p]/\c_ X.K H p (bs.map V.bl)/\Q (.bl (bs.all id)) H):=by
 intro pins s σ H xs us Q I r h;obtain⟨p,bs,rfl,hq,q⟩:=h;obtain⟨u,rfl,ru⟩:=oo r;cases ru;obtain⟨d7,rv,pl,_⟩:=I.list hq;have hl:=pl.isList;have HY:p≠s.heap.objs.size:=by obtain⟨o,h1,_⟩:=hl;exact aaY (aao h1)
 have hlen:=rv.length;rw[aad]at hlen;refine call_all_walk (wpAny_pyIter_list hl ⟨s.heap.objs.size,_,_,_,_,_,λi=>bs[i]?.getD true,rfl,Walks.list (A:=X.A.in1) (I.ok.hd hc) _ p HY d7.toArray,⟨⟨_,aax _ rfl,rfl,rfl⟩,?_⟩,?_,λh' tk hk=>⟨.bl _,H,I.kept (λb o e=>hk b o ?_ (aag _ e)),?_,q⟩⟩)
 ·exact hl.at λo e=>aag _ e
 ·intro i v s' Q' E' hP hQ;have e:=yn rv (i:=i) (v:=v) (by simpa using hP);subst e;exact abr hQ
 ·intro z;rw[List.mem_singleton.mp z]at e;exact absurd (aao e) (abd _)
 ·show Value.bool _=Value.bool _;rw[aaA,<-hlen,uq]
def CI:V->List V->Hp->VK->Prop:=λx xs H Q=>∃z y,x=.str z/\xs=[.str y]/\(y.length == 0)=false/\z.length<=sizeLine/\(Txt.split z y).length<=sizeLine/\(partsBetween z (occurrences z y 0 z.length (z.length+1)) y.length).length<=sizeLine /\
 ∀l,H l=none->Q (.ref l) (upd H l (.lst ((Txt.split z y).map V.str)))
theorem kg:∀(l:List (Str×Tok)),Vals ((l.map (·.1)).map V.str) (strValues l)
 |[]=>.nil
 |p::r=>.cons ⟨p.2,rfl⟩ (kg r)
def nq:QY X "str.split" CI:=by
 intro pins s σ H x vs v us Q I rx rv h;obtain⟨z,y,rfl,rfl,hy,hz,hz2,hsz2,q⟩:=h;obtain⟨t,rfl⟩:=rx;obtain⟨u',rfl,ru⟩:=rv.one;obtain⟨u,rfl⟩:=ru;have fin:∀(l:List (Str×Tok))(tk:Nat),l.map (·.1)=Txt.split z y->EP X pins σ Q (.ref s.heap.objs.size) { s with toks:=tk,heap:=s.heap.push { cls:=.type "list",data:=.seq (strValues l).toArray } }:=λl tk e=>by have rl:=kg l;rw[e]at rl;exact⟨.ref _,_,I.Tq (t':=tk) rl (by rw[aad];exact hz2),rfl,q _ I.fresh⟩
 cases h1:(decide (z.length<y.length)||decide (strKind z<strKind y))
 ·cases hf:(occurrences z y 0 z.length (z.length+1)).isEmpty
  ·refine ab1 abU (acs _ _ _) adx (adm _ _) (meets_str_split_sep z y t u h1 hy hf hz hsz2) ?_;show wants _ _ _ { s with toks:=_,heap:=s.heap.push { cls:=.type "list",data:=.seq (strsFrom s.toks (partsBetween z (occurrences z y 0 z.length (z.length+1)) y.length)).toArray } };rw[strsFrom_eq];exact fin (numbered s.toks _) _ ((numbered_texts _ _).trans ((aaK (acO h1)).trans (aaK (acO hf))).symm)
  ·exact ab1 abU (acs _ _ _) adx (adm _ _) (meets_str_split_not_found z y t u h1 hy hf) (fin [(z,t)] _ ((aaK (acO h1)).trans (aaX hf)).symm)
 ·exact ab1 abU (acs _ _ _) adx (adm _ _) (meets_str_split_cannot_occur z y t u h1) (fin [(z,t)] _ (aaX h1).symm)
theorem iw{x:Str}{ys:List V}{js:List Nat}{te:TE}{σ:St}{Q:VK}{D:Addr}{H1:Hp}(hz:x.cps.size<sizeLine)(hlen:ys.length=x.cps.size)(hD:H1 D=none)(he:∀(i c:Nat) (y:V) (H:Hp),x.cps[i]?=some c->ys[i]?=some y->b6 H1 H->∀Q':VK,(∀H',b6 H H'->Q' y H')->te (some (.str ⟨#[c]⟩)::cP js σ) H Q')(hq:∀H',b6 H1 H'->H' D=some (.lst ys)->Q (.ref D) H'):jZ (_9 x) js HE te σ Q D H1:=by
 refine⟨λi m acc H=>m=x.cps.size-i/\i<=x.cps.size/\acc=ys.take i/\b6 H1 H/\H D=some (.lst acc),⟨x.cps.size,by simp,aa8 _,rfl,ae hD _,aa⟩,?_⟩;rintro i m acc H ⟨hm,hi,e,s,d⟩;refine⟨d,by rw[e,aaD];lia,?_⟩;by_cases q_:i<x.cps.size
 ·refine .inr ⟨q_,λv H' yl=>?_⟩;obtain⟨e',c,hc,rfl⟩:=yl;subst e';unfold HE;dsimp only;rw[aaX rfl];obtain⟨y,hy⟩:=aN (xs:=ys) (i:=i) (by lia);exact he i c y H' hc hy s _ λ__ s'=>wW q_ hm (s' _ _ d) ⟨by rw[e,gN hy],aL hD (s.trans s'),aa⟩
 ·have e0:i=x.cps.size:=by lia
  subst e0;refine .inl ⟨aam _,hq H s ?_⟩;rw[d,e,aaF (by lia)]
end
end L2
namespace L2
open PySem PySem.Spec PySem.Calls PyProof.Rows Builtin Builtin.Tuple
end L2
namespace L2
open PySem PySem.Spec PyProof.Rows
variable{t':Nat}
section
variable{X:Cx}{pins:List (Addr×Obj)}{σ:St}{H:Hp}{s:Shared}{h':Heap}
def Inv.Mf{wr:List Addr}{T:Addr}{vs:List V}{d7:List Value}(I:Inv X pins σ H s)(k:∀b o,b∉wr->s.heap.get? b=some o->h'.get? b=some o)(hf:∀b∈wr,mz X pins H b)(hT:s.heap.objs.size<=T)(hz:vs.length<=sizeLine)(hv:Vals vs d7)(ht:IsTup h' T d7.toArray)(hnd:Nh vs h' T):Inv X pins σ (upd H T (.tup vs)) { s with heap:=h',toks:=t' }:=by
 have hn:H T=none:=I.h_.fresh hT;have nw:∀b u,H b=some u->b∉wr:=λb u e z=>by have:=(hf b z).1;rw[this]at e;cases e
 have nT:∀b o,s.heap.get? b=some o->b≠T:=λb o e z=>by subst z;exact absurd (aav (aao e) hT) (abd _)
 refine I.step (H':=upd H T (.tup vs)) (g':=s.gens) (d':=s.drawn) (ch:=wr) (λb hb=>?_) (λb o _ _ hc e _=>k b o hc e) (λb o _ _ hc e _=>⟨o.slots,k b o hc e⟩) (λb o _ e n=>by rw[aw (nT b o e)];exact n)
  (λb o hc e=>⟨o,k b o hc e⟩) (λb xs e=>by rw[aw (aS e hn)];exact e) (λb o u e=>by rw[aw (aS e hn)];exact e) (λb ps e=>⟨#[],by rw[aw (aS e hn),e];simp⟩) (λm hm=>?_) (λb u e=>?_) I.bare
 ·obtain⟨f0,f1,f2,f3,f4,f5⟩:=hf b hb;exact⟨f3,f1,f4,f5⟩
 ·obtain⟨o,es,ep,ho,r⟩:=hm;exact⟨o,es,ep,k _ o (λz=>(hf _ z).2.1 rfl) ho,r⟩
 ·by_cases hb:b=T
  ·subst hb;rw[aa]at e;cases e;exact⟨⟨hz,hnd⟩,d7,hv,ht⟩
  ·rw[aw hb]at e;refine(I.h_ b u e).GR (λc v hc q=>k c v ?_ q) (λc q=>by rw[aw (aS q hn)];exact q) λc xs q=>by rw[aw (aS q hn)];exact q
   rcases hc with z|z
   ·rw[z];exact nw b u e
   ·exact nw c _ z
def Inv.Mg{wr:List Addr}(I:Inv X pins σ H s)(k:∀b o,b∉wr->s.heap.get? b=some o->h'.get? b=some o)(hf:∀b∈wr,mz X pins H b):Inv X pins σ H { s with heap:=h',toks:=t' }:=by
 have nw:∀b u,H b=some u->b∉wr:=λb u e z=>by have:=(hf b z).1;rw[this]at e;cases e
 refine I.step (g':=s.gens) (d':=s.drawn) (ch:=wr) (λb hb=>?_) (λb o _ _ hc e _=>k b o hc e) (λb o _ _ hc e _=>⟨o.slots,k b o hc e⟩) (λ_ _ _ _ n=>n)
  (λb o hc e=>⟨o,k b o hc e⟩) (λ_ _ e=>e) (λ_ _ _ e=>e) (λb ps e=>⟨#[],by rw[e];simp⟩) (λm hm=>?_) (λb u e=>?_) I.bare
 ·obtain⟨f0,f1,f2,f3,f4,f5⟩:=hf b hb;exact⟨f3,f1,f4,f5⟩
 ·obtain⟨o,es,ep,ho,r⟩:=hm;exact⟨o,es,ep,k _ o (λz=>(hf _ z).2.1 rfl) ho,r⟩
 ·refine(I.h_ b u e).GR (λc v hc q=>k c v ?_ q) (λ_ q=>q) λ_ _ q=>q;rcases hc with z|z
  ·rw[z];exact nw b u e
  ·exact nw c _ z
end
def RU(n:Nat)(G:Hp->Prop)(R:Nat->List V->Prop):It:=
 ⟨λi H=>i<n/\G H,λi H x H'=>∃T vs,x=.ref T/\H T=none/\R i vs/\H'=upd H T (.tup vs),λi H=>i=n/\G H⟩
variable{pos:Pos}{R:Nat->List V->Prop}{elts:List Expr}{G:Hp->Prop}{P:Program}{w:World}{k n:Nat}
def yt{K:W.Frag}{e:Addr}{fp own wr:List Addr}{Pt:Nat->Array Value->Prop}{_6:Nat->Heap->Prop}{Mid:Nat->Addr->Heap->Prop}{tn:Nat->Heap->Prop}(W:∀A:Around,A.handled=none->WalksT P w A e fp wr n Pt _6 Mid)(mem:e∈own)(sub:∀b∈wr,b∈own)(obj:∀i h,tn i h->∀b∈own,∃o,h.get? b=some o/\∀v,o.data≠.cell v)(keep:∀i h h',tn i h->(∀b∈own,∀o,h.get? b=some o->h'.get? b=some o)->tn i h')(st:∀(X:Cx),X.prog=P->X.w=w->X.K=K->∀(i:Nat) (pins:List (Addr×Obj)) (s:Shared) (σ:St) (H:Hp),Inv X pins σ H s->tn i s.heap->G H->_6 i s.heap)(back:∀i h,_6 i h->tn i h)(self:∀(A:Around) (i:Nat) (s:Shared) (Q:Value->Shared->Prop) (E:Value->Shared->Prop),tn i s.heap->Q (.ref e) s->wpAny (model P w) A (pyIter (.ref e)) Q E s)(hR:∀(X:Cx),X.prog=P->X.w=w->X.K=K->∀(i:Nat) (pins:List (Addr×Obj)) (s:Shared) (σ:St) (H:Hp) (vals:Array Value),Inv X pins σ H s->G H->_6 i s.heap->Pt i vals->∃vs,R i vs/\vs.length<=sizeLine/\Vals vs vals.toList/\∀T h,Mid i T h->Nh vs h T):
 uC P w K (.Tuple elts k pos) (RU n G R) own e tn where
 mem:=mem
 obj:=obj
 keep:=keep
 item:=by
  intro X hP hw hK hc i pins s σ H E I hf ht ⟨hi,hG⟩;have hh:=I.ok.hd hc;have S:=st X hP hw hK i pins s σ H I ht hG;subst hP hw hK;refine(W X.A hh).item i s _ _ hi S λT vals h1 tk hv hT ZY hm k1=>?_;refine⟨_,rfl,(W X.A hh).go elts k pos i T _ _ _ hm λh2 S2 k2=>?_⟩;obtain⟨vs,r,z,rv,mn⟩:=hR X rfl rfl rfl i pins s σ H vals I hG S hv;have nT:T∉wr:=(W X.A hh).apart i T _ hm;have fw:∀b∈wr,mz X pins H b:=λb hb=>hf b (sub b hb);have t2:IsTup h2 T vals.toList.toArray:=by obtain⟨o,ho,c,m,d⟩:=ZY;exact⟨o,k2 T o nT ho,c,m,by rw[d]⟩
  refine⟨.ref T,upd H T (.tup vs),I.Mf (wr:=wr) (λb o hb q=>k2 b o hb (k1 b o hb q)) fw hT z rv t2 (let⟨o,ho,_⟩:=ZY;(mn T _ hm).to ho (k2 T o nT ho)),rfl,⟨T,vs,rfl,I.h_.fresh hT,r,rfl⟩,back _ _ S2,λb hb=>?_⟩;have f:=(hf b hb).1;obtain⟨o,ho,_⟩:=obj i _ ht b hb;have nb:b≠T:=λz=>by subst z;exact absurd (aav (aao ho) hT) (abd _)
  rw[aw nb];exact f
 done:=by intro X hP hw hK hc i pins s σ H E I hf ht ⟨hi,hG⟩;have hh:=I.ok.hd hc;have S:=st X hP hw hK i pins s σ H I ht hG;subst hP hw hK hi;exact(W X.A hh).done s _ _ S λh1 tk k1=>⟨rfl,I.Mg (wr:=wr) k1 λb hb=>hf b (sub b hb)⟩
 self:=self
variable{σ:St}
theorem xV{g:TG}{tb:TS}{D:mC}{H:Hp}(Pv:Nat->St->Hp->Prop)(h0:Pv 0 σ H)(hg:∀i σ H,i<=n->Pv i σ H->G H)(hs:∀i T vs σ H,i<n->R i vs->Pv i σ H->H T=none->g (.ref T) σ (upd H T (.tup vs)) λJf H2=>tb { D with nx:=Pv (i+1),ct:=Pv (i+1),bk:=D.nx } Jf H2)(hd:∀σ H,Pv n σ H->D.nx σ H):
 ∃W:Nat->Nat->St->Hp->Prop,(∃m,W 0 m σ H)/\∀i m σ H,W i m σ H ->
  ((RU n G R).stop i H/\D.nx σ H)\/((RU n G R).go i H/\∃N:St->Hp->Prop,(∀l_ H',N l_ H'->∃m',m'<m/\W (i+1) m' l_ H')/\∀x H',(RU n G R).P7 i H x H'->g x σ H' λJf H2=>tb { D with nx:=N,ct:=N,bk:=D.nx } Jf H2):=by
 refine⟨λi m σ H=>m=n-i/\i<=n/\Pv i σ H,⟨n,by simp,aa8 _,h0⟩,?_⟩;rintro i m σ H ⟨rfl,hi,p⟩;have q:=hg i σ H hi p;by_cases q_:i<n
 ·refine .inr ⟨⟨q_,q⟩,Pv (i+1),λl_ H' p'=>⟨n-(i+1),by lia,rfl,q_,p'⟩,λx H' y=>?_⟩;obtain⟨T,vs,rfl,hT,r,rfl⟩:=y;exact hs i T vs σ H q_ r p hT
 ·have e:i=n:=by lia
  subst e;exact .inl ⟨⟨rfl,q⟩,hd σ H p⟩
def FQ(x:Str):Nat->List V->Prop:=λi vs=>∃c,x.cps[i]?=some c/\vs=[.int i,.str ⟨#[c]⟩]
def ox{K:W.Frag}(x:Str)(t:Tok)(e it:Addr)(ne:e≠it):
 uC P w K (.Tuple elts k pos) (RU x.cps.size (λ_=>True) (FQ x)) [e,it] e (λi h=>(∃old,IsEnum h e it i old)/\h.IsStrIter it (strIterType x) x t i):=by
 have D:∀A:Around,A.handled=none->Draws P w A.in1 it [it] x.cps.size (λi v=>∃c u,x.cps[i]?=some c/\v=.str ⟨#[c]⟩ u) (λi h=>h.IsStrIter it (strIterType x) x t i):=λA hh=>by
  unfold strIterType;cases x.cps.all (· < 128)
  ·exact Draws.strWide (A:=A.in1) hh it x t
  ·exact Draws.strAscii (A:=A.in1) hh it x t
 refine yt (fp:=[e,it]) (wr:=[e,it]) (λA hh=>WalksT.enumerateD (D A hh) e ne (by simpa using ne) (by simp)) (by simp) (λb hb=>hb) (λi h ht b hb=>?_) (λi h h' ht k=>?_) (λX _ _ _ i pins s σ H I ht _=>ht) (λi h S=>S) (λA i s Q E ht q=>?_) (λX _ _ _ i pins s σ H vals I _ S hv=>?_)
 ·obtain⟨⟨old,he⟩,o,ho,c,d⟩:=ht;rcases List.mem_cons.mp hb with z|z
  ·rw[z];exact⟨_,he,λv z=>by cases z⟩
  ·rw[List.mem_singleton.mp z];exact⟨o,ho,λv z=>by rw[d]at z;cases z⟩
 ·obtain⟨⟨old,he⟩,o,ho,r⟩:=ht;exact⟨⟨old,k e (by simp) _ he⟩,o,k it (by simp) o ho,r⟩
 ·obtain⟨⟨old,he⟩,_⟩:=ht;exact wpAny_pyIter_enum he q
 ·obtain⟨u,v,⟨c,tc,hc,rfl⟩,rfl⟩:=hv;exact⟨[.int i,.str ⟨#[c]⟩],⟨c,hc,rfl⟩,Z2,.cons ⟨_,rfl⟩ (.cons ⟨_,rfl⟩ .nil),λ_ _ _=>.inl ⟨_,aap,λ_ z=>nomatch z⟩⟩
variable{a:Expr}{ta:TA}{p:Pos}
section
variable{X:Cx}{elts:List Expr}{k:Nat}{Iz:Pos}
def Gc(ta:TA):TI:=λσ H R=>ta σ H λvs H1=>∃x,vs=[.str x]/\R (RU x.cps.size (λ_=>True) (FQ x)) H1
theorem vp(hg:Gl X "enumerate")(hm:X.mg "enumerate" = none)(ha:PA X [a] ta)(hs:starEach [a] X.env=[(false,eval a X.env)]:=by rfl):PI X (.Tuple elts k Iz) (.Call (.Name "enumerate" p) [a] [] pos) (Gc ta):=by
 intro pins s σ H R I h;refine Call_ (dG I hg hm boot_enumerate (aba (j9 (ha pos pins s σ H _ I h) λus s1 ⟨vs,H1,I1,r1,q1⟩=>?_) hs rfl));obtain⟨x,e,q⟩:=q1;subst e;cases r1 with
 |cons r rr=>
  cases rr;obtain⟨t,rfl⟩:=r;refine call_enumerate_str λh' he hi hz kp=>wpAny_pyIter_enum he ?_;have I2:Inv X pins σ H1 { s1 with heap:=h' }:=I1.kept (t':=s1.toks) kp;refine⟨s1.heap.objs.size+1,[s1.heap.objs.size+1,s1.heap.objs.size],_,_,H1,rfl,I2,ox x t _ _ (Nat.succ_ne_self _),⟨⟨_,he⟩,hi⟩,λb hb=>?_,q⟩;have Nv:b=s1.heap.objs.size+1\/b=s1.heap.objs.size:=by simpa using hb
  rcases Nv with z|z<;>subst z
  ·exact I1.J3 (aca _) (I1.h_.fresh (aca _))
  ·exact I1.J3 (aam _) (I1.h_.fresh (aam _))
def vg(hg:Gl X "enumerate")(hm:X.mg "enumerate" = none)(ha:QA X [a] ta)(hs:starEach [a] X.env=[(false,eval a X.env)]:=by rfl):QI X (.Tuple elts k Iz) (.Call (.Name "enumerate" p) [a] [] pos) (Gc ta):=⟨vp hg hm ha.h hs⟩
end
variable{py:Pos}{X:Cx}{y:Str}{ga:TG}
theorem rm{pins:List (Addr×Obj)}{D0:mC}(hga:PG X (.Name y py) ga){D C:Addr}{H3:Hp}{s4:Shared}{m:Str->Option Value}(I5:Inv X pins σ H3 s4)(fC:mz X pins H3 C)(hn:s4.heap.Ns C m)(q:ga (.ref D) σ H3 D0.nx):
 compPost (model X.prog X.w) X.A X.xe (some (assign (.Name y py) X.env)) (λ_ s'=>SP X pins D0 .next s') (.ref D) C (.ok .next) s4:=by
 obtain⟨oC,es,ep,TK,dC,rC⟩:=id hn;have I6:Inv X (pins++[(C,oC)]) σ H3 s4:=I5.JW λp hp=>(List.mem_append.mp hp).elim (λz=>I5.pin p (aaT _ z)) λz=>by rw[List.mem_singleton.mp z];exact⟨TK,fC.1,fC.2.1,fC.2.2.1,λv z=>by rw[dC]at z;cases z⟩
 show wpAny _ X.A (assign (.Name y py) X.env (.ref D)) _ _ s4;refine j9 (hga _ s4 σ H3 (.ref D) _ _ I6 rfl q) λ_ s7 ⟨MK,H7,I7,q7⟩=>?_;obtain⟨p1,p2,p3,p4,p5⟩:=I7.pin (C,oC) (aaT _ (aaT _ (List.mem_singleton.mpr rfl)));exact⟨m,⟨oC,es,ep,p1,dC,rC⟩,λh' sb=>⟨MK,H7,I7.GQ.turned (t':=s7.toks) (λb o hb e=>(sb.2 b hb).trans e) p2 p3 fC.2.2.2.1 fC.2.2.2.2.1 fC.2.2.2.2.2,q7⟩⟩
variable{ifs:List Expr}{ys ts:List Str}{js:List Nat}{iter elt tg:Expr}{sc:Scope}{wi:TI}{tc:TT}{te:TE}{Hx:Pos}
def vk{g:TG}(hc:X.calm=true)(Ib:cC X.N X.env.scope sc ts ys js=true)(hi:PI X tg iter wi)(hg:∀cl C s H fp,PG (X.comp sc cl C (ts++ys) s H fp) tg g)(hf:∀cl C s H fp,P6 (X.comp sc cl C (ts++ys) s H fp) ifs tc)(he:∀cl C s H fp,PE (X.comp sc cl C (ts++ys) s H fp) elt te)(hga:PG X (.Name y py) ga)(M':swapsWith (.ListComp elt [⟨tg,iter,ifs,0⟩] sc pos) (some (.Name y py)) Hx.line X.env=pure true)(hs:∀x,foldedSetIterable iter X.env x=pure x:=by intro _;rfl):
 PS X (.Assign [.Name y py] (.ListComp elt [⟨tg,iter,ifs,0⟩] sc pos) Hx) (Jg (fQ wi g ts.length js tc te) ga):=by
 intro pins s σ H D0 I h;rw[exec_Assign_Name_used _ _ _ _ M'];refine aae (adh (aae ?_));show wpAny _ X.A (do let _ <- comprehension (.ListComp elt [⟨tg,iter,ifs,0⟩] sc pos) sc X.env _ (newList []) false (eval iter X.env) (some (assign (.Name y py) X.env))) _ _ s;exact aae (abP (fF (Qf:=λ_ s'=>SP X pins D0 .next s') (Q:=λv H'=>ga v σ H' D0.nx) (xf:=λ_ _ _=>False) (Bk:=λ_ _ _ _=>True) hc Ib hi hg hf (λcl C s H fp _=>he cl C s H fp) hs I h (λ_ _ _=>trivial) (λ_ _ _ _ _ _ z=>z.elim) (rm hga)) (λ_ s' hq=>aaR (aaR hq)) λ_ _ e=>e)
variable{px:Pos}{t:Str}
def ze{g:TG}(hc:X.calm=true)(Ib:t8 X.N X.env.scope sc t ys js=true)(hi:PI X (.Name t px) iter wi)(hf:∀cl C s H fp,P6 (X.comp sc cl C (t::ys) s H fp) ifs tc)(he:∀cl C s H fp,PE (X.comp sc cl C (t::ys) s H fp) elt te)(hg:PG X (.Name y py) g)(M':swapsWith (.ListComp elt [⟨.Name t px,iter,ifs,0⟩] sc pos) (some (.Name y py)) Hx.line X.env=pure true)(hs:∀x,foldedSetIterable iter X.env x=pure x:=by intro _;rfl):
 PS X (.Assign [.Name y py] (.ListComp elt [⟨.Name t px,iter,ifs,0⟩] sc pos) Hx) (Jg (HX wi js tc te) g):=by
 have ck:=iy Ib;rw[lJ];exact vk (ts:=[t]) hc (mw Ib) hi (λ_ _ _ _ _=>Ip ck.nd rfl (.inl (abx ck.tl)) (.inr (abx ck.tl))) hf he hg M' hs
def fL{g:TG}(hc:X.calm=true)(Ib:t8 X.N X.env.scope sc t ys js=true)(hi:QI X (.Name t px) iter wi)(hf:∀cl C s H fp,Uz (X.comp sc cl C (t::ys) s H fp) ifs tc)(he:∀cl C s H fp,QE (X.comp sc cl C (t::ys) s H fp) elt te)(hg:QG X (.Name y py) g)(M':swapsWith (.ListComp elt [⟨.Name t px,iter,ifs,0⟩] sc pos) (some (.Name y py)) Hx.line X.env=pure true)(hs:∀x,foldedSetIterable iter X.env x=pure x:=by intro _;rfl):
 QS X (.Assign [.Name y py] (.ListComp elt [⟨.Name t px,iter,ifs,0⟩] sc pos) Hx) (Jg (HX wi js tc te) g):=⟨ze hc Ib hi.h (λcl C s H fp=>(hf cl C s H fp).h) (λcl C s H fp=>(he cl C s H fp).h) hg.h M' hs⟩
def vj{g:TG}(hc:X.calm=true)(Ib:cC X.N X.env.scope sc ts ys js=true)(hi:QI X tg iter wi)(hg:∀cl C s H fp,QG (X.comp sc cl C (ts++ys) s H fp) tg g)(hf:∀cl C s H fp,Uz (X.comp sc cl C (ts++ys) s H fp) ifs tc)(he:∀cl C s H fp,QE (X.comp sc cl C (ts++ys) s H fp) elt te)(hs:∀x,foldedSetIterable iter X.env x=pure x:=by intro _;rfl):QE X (.ListComp elt [⟨tg,iter,ifs,0⟩] sc pos) (fQ wi g ts.length js tc te):=
 ⟨mS hc Ib hi.h (λcl C s H fp=>(hg cl C s H fp).h) (λcl C s H fp=>(hf cl C s H fp).h) (λcl C s H fp=>(he cl C s H fp).h) hs⟩
section
variable{K:W.Frag}{a:Addr}{xs ys:List V}{js:List Nat}{g:TG}{n:Nat}{te:TE}{σ:St}{Q:VK}{D:Addr}{H1:Hp}
theorem ug(hz:xs.length<sizeLine)(hlen:ys.length=xs.length)(ha:c_ K H1 a xs)(hD:H1 D=none)(he:∀(i:Nat) (x y:V) (H:Hp),xs[i]?=some x->ys[i]?=some y->b6 H1 H->∀Q':VK,(∀H',b6 H H'->Q' y H')->g x (List.replicate n none++cP js σ) H λNm H6=>∃us:List (Option V),us.length=n/\Nm=us++cP js σ/\te Nm H6 Q')(hq:∀H',b6 H1 H'->H' D=some (.lst ys)->Q (.ref D) H'):ol (PB K a) g n js HE te σ Q D H1:=by
 refine⟨λi m acc H=>m=xs.length-i/\i<=xs.length/\acc=ys.take i/\b6 H1 H/\H D=some (.lst acc),⟨xs.length,by simp,aa8 _,rfl,ae hD _,aa⟩,?_⟩;rintro i m acc H ⟨hm,hi,e,s,d⟩;refine⟨d,by rw[e,aaD];lia,?_⟩;by_cases q_:i<xs.length
 ·refine .inr ⟨?_,λx H' y=>?_⟩
  ·obtain⟨x,hx⟩:=aN q_;exact⟨xs,x,b6.seq s ha,hx⟩
  ·obtain⟨rfl,hx⟩:=y;have Tz:=hx xs (b6.seq s ha);obtain⟨y,hy⟩:=aN (xs:=ys) (i:=i) (by lia);refine he i x y H' Tz hy s _ λH4 s4=>⟨s4 _ _ d,xs.length-(i+1),by lia,rfl,q_,by rw[e,gN hy],aL hD (s.trans s4),aa⟩
 ·refine .inl ⟨⟨xs,b6.seq s ha,by lia⟩,hq H s ?_⟩;rw[d,e,aaF (by lia)]
end
def kG:typeLookup (.type "list_reverseiterator") "__len__" = pure none:=by rw[typeLookup_type,builtinLookup_eq_fast];kernel_rfl
def nB:typeLookup (.type "list_reverseiterator") "__length_hint__" = pure (some (.builtin "list_reverseiterator.__length_hint__")):=by rw[typeLookup_type,builtinLookup_eq_fast];kernel_rfl
variable{items:Array Value}{it l:Addr}
section
variable{prog:Program}{w:World}{A:Around}{E:Value->Shared->Prop}{s:Shared}
def pR{R:Result->Shared->Prop}(hh:A.handled=none)(hi:s.heap.IsRevIter it l ((items.size:Int)-1))(hl:s.heap.IsList l items)(nl:l≠it)(S:Addr)(nS:S≠it)(nSl:S≠l)(c0:Nat)(hS:s.heap.get? S=some { cls:=.type "list",data:=.seq #[] c0 })(hR:∀h' tk acc c',(∀b o,b≠S->b≠it->s.heap.get? b=some o->h'.get? b=some o)->h'.get? S=some { cls:=.type "list",dict:=none,data:=.seq acc c',slots:=#[] }->ItemsOf (λi v=>items[items.size-1-i]?=some v) acc items.size->R (.ok (.ret .none)) { s with heap:=h',toks:=tk })(hn:items.size<=sizeLine):wpAny (model prog w) A.in1 (Builtin.List.listExtendWith (.ref S) (.ref it) .none) (λfin s'=>match fin with|.done f=>R (.ok f) s'|.again c'=>c'.quiet=true/\codeAny (model prog w) A c' R s') (λe s'=>R (.error e) s') s:=by
 have W:=(Walks.listRev (prog:=prog) (w:=w) (A:=A.in1) hh it l nl items).toS;have st:(0:Nat)<=items.size/\s.heap.IsRevIter it l ((items.size:Int)-1-((0:Nat):Int))/\s.heap.IsList l items:=⟨aa8 _,by simpa using hi,hl⟩
 have same:Builtin.List.listSameRef (.ref S) (.ref it)=false:=by simp[Builtin.List.listSameRef,nS]
 unfold Builtin.List.listExtendWith;refine aae (wpAny_typeOf hi.typeIs ?_);rw[aaK (by rw[same];decide)];refine aae (wpAny_pyIter_revIter hi (aae (wpAny_holding ?_)));unfold Builtin.List.listLengthHint;refine aae (acU hi.typeIs kG (show wpAny _ A.in1 (specialOf (Value.ref it) (Str.ofString "__length_hint__") >>= _) _ _ _ from aae (acU hi.typeIs nB ?_)));generalize TY:("list_reverseiterator.__length_hint__" : String)=id0
 wp_delta
 rw[show splitId id0=some ("list_reverseiterator", "__length_hint__")from by subst TY;decide +kernel];subst TY;refine aae (adA (b:=true) hi.typeIs (by rw[isSubtype_type];kernel_rfl) (aaR ?_));rw[aaK (by decide)];refine aaR ⟨adi F.plain_extend_loop _,codeAny_extend_loopS W hn S (by simp[nS,nSl]) .none items.size 0 _ #[] c0 rfl (aa8 _) st hS (ItemsOf.nil _) λs' acc c' hm Jl ha=>?_⟩;rw[Moved.eq_with hm];refine hR s'.heap s'.toks acc c' (λb o hb hbi e=>hm.heap b o (λz=>?_) e) Jl ha;rcases List.mem_cons.mp z with z|z
 ·exact hb z
 ·exact hbi (List.mem_singleton.mp z)
def uZ{Q:Value->Shared->Prop}(hh:A.handled=none)(hi:s.heap.IsRevIter it l ((items.size:Int)-1))(hl:s.heap.IsList l items)(nl:l≠it)(q:∀h' tk acc c',(∀b o,b≠it->s.heap.get? b=some o->h'.get? b=some o)->h'.get? s.heap.objs.size=some { cls:=.type "list",dict:=none,data:=.seq acc c',slots:=#[] }->ItemsOf (λi v=>items[items.size-1-i]?=some v) acc items.size->Q (.ref s.heap.objs.size) { s with heap:=h',toks:=tk })(hn:items.size<=sizeLine):wpAny (model prog w) A (call (.type "list") [.ref it]) Q E s:=by
 refine callType_codes (Q₁:=λobj i7=>obj=.ref s.heap.objs.size/\i7={ s with heap:=s.heap.push { cls:=.type "list",data:=.seq #[] } }) F.called_list (F.typeCall_list_1 _) F.entry_list_init (code_list_new _ ⟨rfl,rfl⟩) λobj i7 Oh=>?_;obtain⟨rfl,rfl⟩:=Oh;have hS:(s.heap.push { cls:=.type "list",data:=.seq #[] }).get? s.heap.objs.size=some { cls:=.type "list",data:=.seq #[] }:=aax _ rfl;have li:it<s.heap.objs.size:=let⟨_,e,_⟩:=hi;aao e
 have ll:l<s.heap.objs.size:=let⟨_,e,_⟩:=hl;aao e
 refine⟨⟨_,hS,rfl⟩,F.args_list_init_2 _ _,?_⟩;show wpAny _ _ (do let old <- Builtin.List.listItems (.ref s.heap.objs.size);Builtin.List.listUpdate (.ref s.heap.objs.size) (λ_=>#[]);letGo old.toList.reverse;Builtin.List.listExtendWith (.ref s.heap.objs.size) (.ref it) .none) _ _ _;refine aae ?_;unfold Builtin.List.listItems;refine aae (abz hS rfl (aaR (show wpAny _ _ (updateSeq s.heap.objs.size (λ_=>#[]) >>= λ_=>letGo (#[]:Array Value).toList.reverse >>= λ_=>Builtin.List.listExtendWith (.ref s.heap.objs.size) (.ref it) .none) _ _ _ from aae (wpAny_updateSeq hS rfl (aae (wpAny_letGo ?_))))));have hS2:=acd (Obj.mapSeq (λ_=>(#[]:Array Value))) hS rfl;have ot:∀b o,b≠s.heap.objs.size->s.heap.get? b=some o->((s.heap.push { cls:=.type "list",data:=.seq #[] }).update s.heap.objs.size (Obj.mapSeq (λ_=>(#[]:Array Value)))).get? b=some o:=λb o hb e=>(abD _ _ (abw hb)).trans (aag _ e);have ni:it≠s.heap.objs.size:=aaY li;have nl2:l≠s.heap.objs.size:=aaY ll;refine pR (A:=A.in1) hh (hi.at λo e=>ot it o ni e) (hl.at λo e=>ot l o nl2 e) nl _ (abw ni) (abw nl2) _ hS2 (λh' tk acc c' hk Jl ha=>⟨rfl,q h' tk acc c' (λb o hb e=>?_) Jl ha⟩) hn;have nb:b≠s.heap.objs.size:=aaY (aao e);exact hk b o nb hb (ot b o nb e)
end
section
variable{X:Cx}{e:Expr}{te:TE}{p1 p2 q1 q2:Pos}
def Bv(K:W.Frag)(te:TE):TE:=λσ H Q=>te σ H λx H1=>∃l ys,x=.ref l/\c_ K H1 l ys/\∀r,H1 r=none->Q (.ref r) (upd H1 r (.lst ys.reverse))
theorem kr{vs:List Value}{acc:Array Value}(h:ItemsOf (λi v=>vs.toArray[vs.toArray.size-1-i]?=some v) acc vs.toArray.size):acc.toList=vs.reverse:=by
 obtain⟨h1,h2⟩:=h;have hz:vs.toArray.size=vs.length:=by simp
 rw[hz]at h1 h2;refine List.ext_getElem? λi=>?_;by_cases hi:i<vs.length
 ·have e:acc.toList[i]?=some (acc[i]'(by lia)):=by simp[h1,hi]
  have e2:=h2 i (acc[i]'(by lia)) (by simp[h1,hi]);rw[e,List.getElem?_reverse hi,<-e2];simp
 ·rw[acK (by simp[h1];lia),acK (by simp;lia)]
theorem pV(hc:X.calm=true)(g1:Gl X "list")(m1:X.mg "list" = none)(g2:Gl X "reversed")(m2:X.mg "reversed" = none)(he:PE X e te)(Jb:starEach [e] X.env=[(false,eval e X.env)]:=by rfl)(QC:starEach [.Call (.Name "reversed" p2) [e] [] q2] X.env=[(false,eval (.Call (.Name "reversed" p2) [e] [] q2) X.env)]:=by rfl):
 PE X (.Call (.Name "list" p1) [.Call (.Name "reversed" p2) [e] [] q2] [] q1) (Bv X.K te):=by
 intro pins s σ H Q I h;refine Call_ (dG I g1 m1 PyProof.Rows.boot_list (aba ?_ QC rfl));rw[QC];show wpAny _ _ (spliced ((false,eval (.Call (.Name "reversed" p2) [e] [] q2) X.env)::backTo q1 [])) _ _ s;refine abv (Call_ (dG I g2 m2 boot_reversed (aba ?_ Jb rfl)));rw[Jb];show wpAny _ _ (spliced ((false,eval e X.env)::backTo q2 [])) _ _ s;refine abv (j9 (he pins s σ H _ I h) λu s1 ⟨x,H1,I1,r1,l,ys,ex,hq,k⟩=>?_);subst ex;cases r1;refine abL ?_;obtain⟨vs,rv,pl,hz⟩:=I1.list hq;have hl:=pl.isList;have hlen:=rv.length;have ll:l<s1.heap.objs.size:=let⟨_,e,_⟩:=hl;aao e
 refine call_reversed_list hl (abL ?_);have nl:l≠s1.heap.objs.size:=aaY ll;refine uZ (items:=vs.toArray) (I1.ok.hd hc) ⟨_,aax _ rfl,rfl,rfl⟩ (hl.at λo e=>aag _ e) nl (λh' tk acc c' hk hS ha=>?_) (by simp;lia);have e:=kr ha;have sz:(s1.heap.push (revObj l ((vs.toArray.size:Int)-1))).objs.size=s1.heap.objs.size+1:=abu ..;rw[sz]at hS⊢;have fr:H1 (s1.heap.objs.size+1)=none:=I1.h_.fresh (aca _);refine⟨.ref (s1.heap.objs.size+1),_,I1.laid (t':=tk) (λb u eb=>hk b u (aaY (aao eb)) (aag _ eb)) (aca _) (show j5 X.prog X.w _ h' _ (.lst ys.reverse)from⟨by rw[abN];lia,vs.reverse,c',rv.reverse,?_⟩),rfl,k _ fr⟩;rw[hS,<-e]
def pT(hc:X.calm=true)(g1:Gl X "list")(m1:X.mg "list" = none)(g2:Gl X "reversed")(m2:X.mg "reversed" = none)(he:QE X e te)(Jb:starEach [e] X.env=[(false,eval e X.env)]:=by rfl)(QC:starEach [.Call (.Name "reversed" p2) [e] [] q2] X.env=[(false,eval (.Call (.Name "reversed" p2) [e] [] q2) X.env)]:=by rfl):
 QE X (.Call (.Name "list" p1) [.Call (.Name "reversed" p2) [e] [] q2] [] q1) (Bv X.K te):=⟨pV hc g1 m1 g2 m2 he.h Jb QC⟩
end
end L2
namespace TM
open PySem L2
inductive Tm where
 |num (n:Int)
 |text (z:Str)
 |row
 |mark
 |val (k:Int) (z:Str)
 |call (w:Str) (ts:List Tm)
noncomputable def inner:Tm->List Tm
 |.call _ ts=>ts
 |_=>[]
mutual
noncomputable def aX:Tm->Int
 |.call _ ts=>1+bj ts
 |.num _=>1
 |.text _=>1
 |.row=>1
 |.mark=>1
 |.val _ _=>1
noncomputable def bj:List Tm->Int
 |[]=>0
 |t::ts=>aX t+bj ts
end
mutual
noncomputable def depth:Tm->Nat
 |.call _ ts=>1+aZ ts
 |.num _=>1
 |.text _=>1
 |.row=>1
 |.mark=>1
 |.val _ _=>1
noncomputable def aZ:List Tm->Nat
 |[]=>0
 |t::ts=>max (depth t) (aZ ts)
end
theorem ir:∀{ts:List Tm},ts≠[]->∃t∈ts,depth t=aZ ts
 |[],h=>absurd rfl h
 |x::ts,_=>by
  by_cases h:ts=[]
  ·subst h;exact⟨x,by simp,by unfold aZ;unfold aZ;lia⟩
  ·obtain⟨t,ht,e⟩:=ir h;by_cases hl:depth x<=depth t
   ·exact⟨t,aah _ ht,by unfold aZ;lia⟩
   ·exact⟨x,aap,by unfold aZ;lia⟩
theorem wQ(t:Tm):depth t=1+aZ (inner t):=by
 cases t with
 |call w ts=>rw[depth];rfl
 |_=>rw[depth];show 1=1+aZ [];rw[aZ]
theorem fE(t:Tm):1<=depth t:=by rw[wQ];lia
def n6(H H':Hp):Prop:=∀b xs,H b=some (.tup xs)->H' b=some (.tup xs)
variable{H:Hp}
def bG{H':Hp}(e:b6 H H'):n6 H H':=λb xs h=>e b _ h
def n6.trans{H1 H2:Hp}(a:n6 H H1)(b:n6 H1 H2):n6 H H2:=λc xs h=>b c xs (a c xs h)
def aQ{r:Addr}{xs ys:List V}(h:H r=some (.lst xs)):n6 H (upd H r (.lst ys)):=λb zs q=>by rw[aw (dk q h (λz=>nomatch z))];exact q
mutual
def j0(H:Hp):Tm->V->Prop
 |.num n,v=>∃a,v=.ref a/\H a=some (.tup [.str "num",.int n])
 |.text z,v=>∃a,v=.ref a/\H a=some (.tup [.str "text",.str z])
 |.row,v=>∃a,v=.ref a/\H a=some (.tup [.str "row"])
 |.mark,v=>∃a,v=.ref a/\H a=some (.tup [.str "mark"])
 |.val k z,v=>∃a,v=.ref a/\H a=some (.tup [.str "of",.int k,.str z])
 |.call w ts,v=>∃a b vs,v=.ref a/\H a=some (.tup [.str "call",.str w,.ref b])/\H b=some (.tup vs)/\vs.length<=1000/\j' H ts vs
def j'(H:Hp):List Tm->List V->Prop
 |[],vs=>vs=[]
 |t::ts,vs=>∃v r,vs=v::r/\j0 H t v/\j' H ts r
end
mutual
theorem j0.same{H H':Hp}(e:n6 H H'):∀(t:Tm){v:V},j0 H t v->j0 H' t v
 |.num n,v,h=>by unfold j0 at h⊢;obtain⟨a,x,y⟩:=h;exact⟨a,x,e _ _ y⟩
 |.text z,v,h=>by unfold j0 at h⊢;obtain⟨a,x,y⟩:=h;exact⟨a,x,e _ _ y⟩
 |.row,v,h=>by unfold j0 at h⊢;obtain⟨a,x,y⟩:=h;exact⟨a,x,e _ _ y⟩
 |.mark,v,h=>by unfold j0 at h⊢;obtain⟨a,x,y⟩:=h;exact⟨a,x,e _ _ y⟩
 |.val k z,v,h=>by unfold j0 at h⊢;obtain⟨a,x,y⟩:=h;exact⟨a,x,e _ _ y⟩
 |.call w ts,v,h=>by unfold j0 at h⊢;obtain⟨a,b,vs,x,y,z,n,q⟩:=h;exact⟨a,b,vs,x,e _ _ y,e _ _ z,n,j'.same e ts q⟩
theorem j'.same{H H':Hp}(e:n6 H H'):∀(ts:List Tm){vs:List V},j' H ts vs->j' H' ts vs
 |[],vs,h=>by unfold j' at h⊢;exact h
 |t::ts,vs,h=>by unfold j' at h⊢;obtain⟨v,r,x,y,z⟩:=h;exact⟨v,r,x,j0.same e t y,j'.same e ts z⟩
end
theorem j'.len{H:Hp}:∀{ts:List Tm}{vs:List V},j' H ts vs->ts.length=vs.length
 |[],vs,h=>by unfold j' at h;subst h;rfl
 |t::ts,vs,h=>by unfold j' at h;obtain⟨v,r,rfl,_,z⟩:=h;rw[aac,aac,j'.len z]
mutual
theorem kA:∀t:Tm,1<=aX t
 |.call w ts=>by rw[aX];have:=kz ts;lia
 |.num _=>by rw[aX];lia
 |.text _=>by rw[aX];lia
 |.row=>by rw[aX];lia
 |.mark=>by rw[aX];lia
 |.val _ _=>by rw[aX];lia
theorem kz:∀ts:List Tm,0<=bj ts
 |[]=>by rw[bj];lia
 |t::ts=>by
  rw[bj];have h1:=kA t;have h2:=kz ts
  lia
end
end TM
namespace L2
open PySem PySem.Spec PyProof.Rows
section
variable{X:Cx}{o e value a:Expr}{f:Str}{pos pos' Iz:Pos}{ta tv:TE}
def dv(he:QE X e ta)(hb:attributeBase e f X.env (eval e X.env)=eval e X.env):QE X (.Attribute e f pos) (FJ X.K ta f):=⟨CW he.h hb⟩
def iT(ha:QE X o ta)(hv:QE X value tv)(hs:swapsWith value (some (.Attribute o f pos')) pos.line X.env=pure false):QS X (.Assign [.Attribute o f pos'] value pos) (FM X.K ta tv f):=⟨CO ha.h hv.h hs⟩
end
section
variable{X:Cx}{CX:Md}{k:Nat}{f C:Addr}{fd:FuncData}{ps:List Str}{sp:Sp}{ds:List Value}{Hl:List V}{E:XK}{x m:Str}{p pos apos:Pos}{e o:Expr}{es:List Expr}{ta:TE}{t:TA}
def jq{pl:Sem Bool}(he:QE X o ta)(c:Nl X.K C)(hm:qC X.K C m f)(F:d9 X.prog X.w X.K X.mg X.base CX k f fd ps sp)(hr:o5 k X.A)(hb:Binds X.K fd ps ds)(hd:Vals Hl ds)(hx:cY CX X E)(ha:QA X (e::es) t)(B5:starEach (e::es) X.env=(false,eval e X.env)::starEach es X.env:=by rfl)(HY:(backTo pos (starEach es X.env)).any (·.1)=false:=by rfl)(ht:eval (.Call (.Attribute o m apos) (e::es) [] pos) X.env=(do
 let ov <- eval o X.env
 standAt apos.atName
 let(f,first) <- holding [ov] (getMethod ov m pl)
 callWith pos f first (backTo pos (starEach (e::es) X.env)) (backToKw pos (keywordEach [] X.env))):=by rfl):
 QE X (.Call (.Attribute o m apos) (e::es) [] pos) (uJ C m sp Hl E ta t):=⟨zk he.h c hm F hr hb hd hx ha.h B5 HY ht⟩
def jp{pl:Sem Bool}(he:QE X o ta)(c:Nl X.K C)(hm:qC X.K C m f)(F:d9 X.prog X.w X.K X.mg X.base CX k f fd ps sp)(hr:o5 k X.A)(hb:Binds X.K fd ps ds)(hd:Vals Hl ds)(hx:cY CX X E)(ht:eval (.Call (.Attribute o m apos) [] [] pos) X.env=(do
 let ov <- eval o X.env
 standAt apos.atName
 let(f,first) <- holding [ov] (getMethod ov m pl)
 callWith pos f first (backTo pos (starEach [] X.env)) (backToKw pos (keywordEach [] X.env))):=by rfl):
 QE X (.Call (.Attribute o m apos) [] [] pos) (uJ C m sp Hl E ta KJ):=⟨vq he.h c hm F hr hb hd hx ht⟩
def vh(M:Mk X.K C f)(F:d9 X.prog X.w X.K X.mg X.base CX k f fd ps sp)(hr:o5 (k+1) X.A)(hg:Gl X x)(hm:X.mg x=some (.ref C))(hb:Binds X.K fd ps ds)(hd:Vals Hl ds)(hx:cY CX X E)(J2:(x == ("__debug__" : Str))=false:=by decide):QE X (.Call (.Name x p) [] [] pos) (Bw C sp Hl E KJ):=⟨vt M F hr hg hm hb hd hx J2⟩
theorem fZ:t4 X (.type "int") (λxs H Q=>∃z n,xs=[.str z]/\PySem.intText? z=some n/\z.length<=640/\Q (.int n) H):=by
 intro pins s σ H vs us Q I r q;obtain⟨z,n,rfl,hn,hl,q⟩:=q;cases r with
 |cons r rr=>
  cases rr;obtain⟨t,rfl⟩:=r;exact PySem.W.KIN.call_text hn hl ⟨.int n,H,I.tok _,⟨_,rfl⟩,q⟩
end
open PySem.W PySem.W.KIN PySem.NumText in
def iX{n:Int}(h0:0<=n)(hl:(PySem.Str.ofString (toString n)).length<=640):PySem.intText? (PySem.Str.ofString (toString n))=some n:=by
 obtain⟨m,rfl⟩:=aaG h0;have e1:=signs_num m;have Ry:(Nat.toDigits 10 m)≠[]:=λz=>by have h:=toDigits_len_ge 10 m;rw[z]at h;exact absurd h (by decide)
 have e:=intText_digits (x:=PySem.Str.ofString (toString ((m:Nat):Int))) (λc hc=>by
  rw[e1]at hc;obtain⟨ch,Mw,q⟩:=List.mem_map.mp hc;rw[<-q];exact digit_range (ads (by decide) (by decide) Mw)) (by rw[e1];exactλz=>Ry (List.map_eq_nil_iff.mp z)) (abb hl (by decide))
 rw[e1,val_back]at e;exact e
end L2
namespace TM
open PySem L2
open PySem.W PySem.W.KIN PySem.NumText in
def tW{ch:Char}{m:Nat}(h:ch∈Nat.toDigits 10 m):48<=ch.toNat/\ch.toNat<=57:=PyProof.Rows.digit_range (ads (by decide) (by decide) h)
open PySem.W PySem.W.KIN PySem.NumText in
def tV(m:Nat):1<=(Nat.toDigits 10 m).length:=toDigits_len_ge 10 m
def ap(a b:Str):(a++b).cps.toList=a.cps.toList++b.cps.toList:=by show(a.cps++b.cps).toList=_;simp
def aq(a:Str):a.length=a.cps.toList.length:=by simp[Str.length]
noncomputable def i8(l:List Nat):Str:=⟨l.toArray⟩
def bz(l:List Nat):(i8 l).cps.toList=l:=by simp[i8]
def bx{a b:Str}(h:a.cps.toList=b.cps.toList):a=b:=by cases a with|mk x=>cases b with|mk y=>exact aaN Str.mk (Array.toList_inj.mp h)
def jD{l:List Nat}{x:Str}(h:x.cps.toList=l):x=i8 l:=bx (by rw[h,bz])
mutual
noncomputable def sh:Tm->Str
 |.num n=>Str.ofString (toString n)
 |.text z=>"\""++z++"\""
 |.row=>"[]"
 |.mark=>"mark"
 |.val k z=>Str.ofString (toString k)++"."++z
 |.call w ts=>w++"("++Txt.join "," (P_ ts)++")"
noncomputable def P_:List Tm->List Str
 |[]=>[]
 |t::ts=>sh t::P_ ts
end
theorem lL:∀ts:List Tm,P_ ts=ts.map sh
 |[]=>by unfold P_;rfl
 |t::ts=>by unfold P_;rw[lL ts];rfl
noncomputable def ce(c:Nat):Bool:=decide (97<=c)&&decide (c<=122)
noncomputable def cy(c:Nat):Bool:=decide (48<=c)&&decide (c<=57)
noncomputable def bR(c:Nat):Bool:=ce c||cy c
noncomputable def bJ(c:Nat):Bool:=c == 40||c == 44||c == 41
noncomputable def i6:List Str:=["add", "sub", "mul", "less", "pick", "glue", "show", "size", "put", "link", "at", "many"]
mutual
def Wf:Tm->Prop
 |.num n=>0<=n/\n<1000000000000000000
 |.text z=>z.cps.toList.length<=40/\∀c∈z.cps.toList,bR c=true
 |.row=>True
 |.mark=>True
 |.val k z=>(k=0\/k=1\/k=2\/k=3)/\z.cps.toList≠[]/\z.cps.toList.length<=8/\∀c∈z.cps.toList,ce c=true
 |.call w ts=>w∈i6/\ts≠[]/\ts.length<=3/\r_ ts
def r_:List Tm->Prop
 |[]=>True
 |t::ts=>Wf t/\r_ ts
end
theorem xi:∀{ts:List Tm},(∀t∈ts,Wf t)->r_ ts
 |[],_=>by unfold r_;trivial
 |x::ts,w=>by unfold r_;exact⟨w x (by simp),xi λt h=>w t (by simp[h])⟩
def iC:Tm->Prop
 |.call _ _=>False
 |_=>True
def dN(m:Nat):(Str.ofString (toString ((m:Nat):Int))).cps.toList=(Nat.toDigits 10 m).map Char.toNat:=PySem.W.KIN.signs_num m
variable{n:Int}
def bK(h:0<=n):∀c∈(Str.ofString (toString n)).cps.toList,cy c=true:=by obtain⟨m,rfl⟩:=aaG h;intro c hc;rw[dN]at hc;obtain⟨ch,Mw,e⟩:=List.mem_map.mp hc;have r:=tW Mw;unfold cy;rw[aaU,aau,aau,<-e];exact r
theorem nO:∀(k m:Nat),m<10 ^ (k+1)->(Nat.toDigits 10 m).length<=k+1:=by
 intro k;induction k with
 |zero=>
  intro m h;rw[aby (by simpa using h)];exact aam _
 |succ k ih=>
  intro m h;by_cases Ul:m<10
  ·rw[aby Ul];simp
  ·have hm:m%10<10:=Nat.mod_lt m (by decide);have t:Nat.toDigits 10 (m / 10)++Nat.toDigits 10 (m%10)=Nat.toDigits 10 (10*(m / 10)+m%10):=abA (by decide) (by lia) hm;rw[adn]at t;rw[<-t,aaa,aby hm];have:=ih (m / 10) (by rw[acz]at h;lia);simp only[aac,aa7]
   lia
def tT(m:Nat):Nat.toDigits 10 m≠[]:=λz=>by have h:=tV m;rw[z]at h;exact absurd h (by decide)
theorem di(h0:0<=n)(h1:n<1000000000000000000):(Str.ofString (toString n)).cps.toList≠[]/\(Str.ofString (toString n)).cps.toList.length<=18:=by obtain⟨m,rfl⟩:=aaG h0;rw[dN];refine⟨λz=>tT m (List.map_eq_nil_iff.mp z),?_⟩;rw[aad];exact nO 17 m (by lia)
theorem nH{α:Type}{a b:List α}(h:a≠[]):(a++b).head?=a.head?:=by
 cases a with
 |nil=>exact absurd rfl h
 |cons x r=>rfl
theorem tU:∀(m:Nat),0<m->(Nat.toDigits 10 m).head?≠some '0':=by
 intro m;induction m using Nat.strongRecOn with
 |_ m ih=>
  intro hp;by_cases Ul:m<10
  ·rw[aby Ul];have:m=1\/m=2\/m=3\/m=4\/m=5\/m=6\/m=7\/m=8\/m=9:=by lia
   rcases this with rfl|rfl|rfl|rfl|rfl|rfl|rfl|rfl|rfl<;>decide
  ·have hm:m%10<10:=Nat.mod_lt m (by decide);have t:Nat.toDigits 10 (m / 10)++Nat.toDigits 10 (m%10)=Nat.toDigits 10 (10*(m / 10)+m%10):=abA (by decide) (by lia) hm;rw[adn]at t;rw[<-t,nH (tT _)];exact ih (m / 10) (by lia) (by lia)
theorem jz(h0:0<=n)(h:(Str.ofString (toString n)).cps.toList.head?=some 48):n=0:=by
 obtain⟨m,rfl⟩:=aaG h0;rw[dN,List.head?_map]at h;by_cases hp:0<m
 ·exfalso;cases e:(Nat.toDigits 10 m).head? with
  |none=>rw[e]at h;cases h
  |some ch=>
   rw[e]at h;have h2:ch.toNat=48:=aaq h;have h3:ch='0':=Char.toNat_inj.mp (by rw[h2];rfl);exact tU m hp (by rw[e,h3])
 ·lia
variable{c:Nat}
theorem jP(h:cy c=true):bJ c=false:=by unfold cy at h;rw[aaU,aau,aau]at h;unfold bJ;rw[beq_eq_false_iff_ne.mpr (by lia),beq_eq_false_iff_ne.mpr (by lia),beq_eq_false_iff_ne.mpr (by lia)];rfl
theorem gF(h:ce c=true):bJ c=false:=by unfold ce at h;rw[aaU,aau,aau]at h;unfold bJ;rw[beq_eq_false_iff_ne.mpr (by lia),beq_eq_false_iff_ne.mpr (by lia),beq_eq_false_iff_ne.mpr (by lia)];rfl
def mJ(h:bR c=true):bJ c=false:=by
 unfold bR at h;rcases abg _ _ |>.mp h with h|h
 ·exact gF h
 ·exact jP h
def dW:("\"" : Str).cps.toList=[34]:=by decide
def cn:("." : Str).cps.toList=[46]:=by decide
variable{t:Tm}
theorem cG(hl:iC t)(w:Wf t):∀c∈(sh t).cps.toList,bJ c=false:=by
 intro c hc;cases t with
 |num n=>unfold sh at hc;unfold Wf at w;exact jP (bK w.1 c hc)
 |text z=>
  unfold sh at hc;unfold Wf at w;rw[ap,ap,dW]at hc;simp only[aat,aaL]at hc;rcases hc with(rfl|hc)|rfl
  ·decide
  ·exact mJ (w.2 c hc)
  ·decide
 |row=>unfold sh at hc;revert c;decide
 |mark=>unfold sh at hc;revert c;decide
 |val k z=>
  unfold sh at hc;unfold Wf at w;rw[ap,ap,cn]at hc;simp only[aat,aaL]at hc;rcases hc with(hc|rfl)|hc
  ·exact jP (bK (by rcases w.1 with h|h|h|h<;>lia) c hc)
  ·decide
  ·exact gF (w.2.2.2 c hc)
 |call _ _=>cases hl
def dg:∀d∈i6,∀c∈d.cps.toList,bJ c=false:=by decide +kernel
def dR:∀d∈i6,d.cps.toList.length<=4:=by decide +kernel
noncomputable def o6(acc:List Nat):List Nat->List (Str×Str)
 |[]=>[(i8 acc,i8 [])]
 |c::r=>if bJ c=true then(i8 acc,i8 [c])::o6 [] r else o6 (acc++[c]) r
theorem ee:∀(u acc r:List Nat),(∀c∈u,bJ c=false)->o6 acc (u++r)=o6 (acc++u) r
 |[],acc,r,_=>by rw[aaS,aaW]
 |c::u,acc,r,h=>by rw[aaE,o6,aaK (by rw[h c (by simp)];decide),ee u (acc++[c]) r λd hd=>h d (by simp[hd]),aas];rfl
structure Ms where
 op:List (Str×List Tm)
 rd:Option Tm
 cnt:Int
 dp:Int
inductive j_:Ms->Str->Ms->Prop
 |leaf {op:List (Str×List Tm)} {cnt dp:Int} {t:Tm}:iC t->Wf t->j_ ⟨op,none,cnt,dp⟩ (sh t) ⟨op,some t,cnt+1,max dp ((op.length:Int)+1)⟩
 |again {op:List (Str×List Tm)} {cnt dp:Int} {t:Tm}:j_ ⟨op,some t,cnt,dp⟩ (i8 []) ⟨op,some t,cnt,dp⟩
inductive Step:Ms->Str×Str->Ms->Prop
 |Nr {op:List (Str×List Tm)} {cnt dp:Int} {d:Str}:d∈i6->Step ⟨op,none,cnt,dp⟩ (d,i8 [40]) ⟨op++[(d,[])],none,cnt+1,dp⟩
 |fin {st A1:Ms} {z:Str}:j_ st z A1->Step st (z,i8 []) A1
 |comma {st:Ms} {z d:Str} {op:List (Str×List Tm)} {ts:List Tm} {t:Tm} {cnt dp:Int}:j_ st z ⟨op++[(d,ts)],some t,cnt,dp⟩->Step st (z,i8 [44]) ⟨op++[(d,ts++[t])],none,cnt,dp⟩
 |close {st:Ms} {z d:Str} {op:List (Str×List Tm)} {ts:List Tm} {t:Tm} {cnt dp:Int}:j_ st z ⟨op++[(d,ts)],some t,cnt,dp⟩->ts.length+1<=3->Step st (z,i8 [41]) ⟨op,some (.call d (ts++[t])),cnt,dp⟩
def Run:Ms->List (Str×Str)->Ms->Prop
 |st,[],fin=>st=fin
 |st,p::ps,fin=>∃A1,Step st p A1/\Run A1 ps fin
def Gk(op:List (Str×List Tm))(t:Tm)(cnt dp:Int):List Nat->Ms->Prop
 |[],fin=>fin=⟨op,some t,cnt,dp⟩
 |c::r,fin=>(c=44/\∃pre d ts,op=pre++[(d,ts)]/\Run ⟨pre++[(d,ts++[t])],none,cnt,dp⟩ (o6 [] r) fin) \/
  (c=41/\∃pre d ts,op=pre++[(d,ts)]/\ts.length+1<=3/\Run ⟨pre,some (.call d (ts++[t])),cnt,dp⟩ (o6 [] r) fin)
theorem dP{st:Ms}{z:Str}{op:List (Str×List Tm)}{cnt dp:Int}{r:List Nat}{fin:Ms}(he:j_ st z ⟨op,some t,cnt,dp⟩)(hg:Gk op t cnt dp r fin):Run st (o6 z.cps.toList r) fin:=by
 have hz:i8 z.cps.toList=z:=(jD rfl).symm;cases r with
 |nil=>
  have e:fin=⟨op,some t,cnt,dp⟩:=hg;rw[o6,hz];exact⟨_,.fin he,e.symm⟩
 |cons c r=>
  rcases hg with⟨rfl,pre,d,ts,rfl,h⟩|⟨rfl,pre,d,ts,rfl,hl,h⟩
  ·rw[o6,aaX (by decide),hz];exact⟨_,.comma he,h⟩
  ·rw[o6,aaX (by decide),hz];exact⟨_,.close he hl,h⟩
noncomputable def aT:List Tm->List Nat
 |[]=>[]
 |[t]=>(sh t).cps.toList
 |t::t2::ts=>(sh t).cps.toList++44::aT (t2::ts)
theorem eD:∀(ts:List Tm)(t:Tm),aT (t::ts)=(sh t).cps.toList++((ts.map sh).map λz=>44::z.cps.toList).flatten
 |[],t=>by unfold aT;simp
 |u::us,t=>by unfold aT;rw[eD us u];simp
theorem xU:∀(zs:List Str)(acc:Array Nat),(zs.foldl (λacc p=>acc++(Str.ofString ",").cps++p.cps) acc).toList=acc.toList++(zs.map λz=>44::z.cps.toList).flatten
 |[],acc=>by simp
 |p::zs,acc=>by
  rw[acD,xU zs];have e:(Str.ofString ",").cps=#[44]:=by decide
  rw[e];simp
theorem wc:∀ts:List Tm,(Txt.join "," (P_ ts)).cps.toList=aT ts
 |[]=>by unfold P_ aT;rfl
 |t::ts=>by unfold P_;show((P_ ts).foldl (λacc p=>acc++(Str.ofString ",").cps++p.cps) (sh t).cps).toList=_;rw[xU,eD,lL]
def ba(w:Str)(ts:List Tm):(sh (.call w ts)).cps.toList=w.cps.toList++40::(aT ts++[41]):=by unfold sh;rw[ap,ap,ap,wc,show(Str.ofString "(").cps.toList=[40]by decide,show(Str.ofString ")").cps.toList=[41]by decide];simp
def bZ(h:iC t):aX t=1:=by cases t with|call _ _=>cases h|_=>rw[aX]
def cj(h:iC t):depth t=1:=by cases t with|call _ _=>cases h|_=>rw[depth]
mutual
theorem jn:∀(t:Tm),Wf t->∀(op:List (Str×List Tm))(cnt dp:Int)(r:List Nat)(fin:Ms),Gk op t (cnt+aX t) (max dp ((op.length:Int)+depth t)) r fin->Run ⟨op,none,cnt,dp⟩ (o6 [] ((sh t).cps.toList++r)) fin
 |.call w ts,hw,op,cnt,dp,r,fin,hg=>by
  unfold Wf at hw;obtain⟨h1,h2,h3,h4⟩:=hw;rw[ba,aas,ee _ _ _ (dg w h1),aaS,aaE,o6,aaX (by decide),<-jD (x:=w) rfl];refine⟨_,.Nr h1,?_⟩;rw[aas];refine ko ts h4 h2 op w [] (cnt+1) dp r fin (by rw[aa7];lia) ?_;have e:((i8 []).cps.toList)=[]:=bz [];have g:=dP (z:=i8 []) (op:=op) (t:=.call w ts) (j_.again) hg;rw[e]at g;rw[aaS];have e1:cnt+1+bj ts=cnt+aX (.call w ts):=by rw[aX];lia
  have e2:max dp ((op.length:Int)+1+aZ ts)=max dp ((op.length:Int)+(depth (.call w ts):Nat)):=by rw[depth];congr 1;lia
  rw[e1,e2];exact g
 |.num n,hw,op,cnt,dp,r,fin,hg=>by
  rw[ee _ _ _ (cG (t:=.num n) trivial hw),aaS];exact dP (j_.leaf (t:=.num n) trivial hw) (by rw[bZ (t:=.num n) trivial,cj (t:=.num n) trivial]at hg;exact hg)
 |.text z,hw,op,cnt,dp,r,fin,hg=>by
  rw[ee _ _ _ (cG (t:=.text z) trivial hw),aaS];exact dP (j_.leaf (t:=.text z) trivial hw) (by rw[bZ (t:=.text z) trivial,cj (t:=.text z) trivial]at hg;exact hg)
 |.row,hw,op,cnt,dp,r,fin,hg=>by
  rw[ee _ _ _ (cG (t:=.row) trivial hw),aaS];exact dP (j_.leaf (t:=.row) trivial hw) (by rw[bZ (t:=.row) trivial,cj (t:=.row) trivial]at hg;exact hg)
 |.mark,hw,op,cnt,dp,r,fin,hg=>by
  rw[ee _ _ _ (cG (t:=.mark) trivial hw),aaS];exact dP (j_.leaf (t:=.mark) trivial hw) (by rw[bZ (t:=.mark) trivial,cj (t:=.mark) trivial]at hg;exact hg)
 |.val k z,hw,op,cnt,dp,r,fin,hg=>by rw[ee _ _ _ (cG (t:=.val k z) trivial hw),aaS];exact dP (j_.leaf (t:=.val k z) trivial hw) (by rw[bZ (t:=.val k z) trivial,cj (t:=.val k z) trivial]at hg;exact hg)
theorem ko:∀(ts:List Tm),r_ ts->ts≠[]->∀(op:List (Str×List Tm))(w:Str)(PQ:List Tm)(cnt dp:Int)(r:List Nat)(fin:Ms),PQ.length+ts.length<=3 ->
 Run ⟨op,some (.call w (PQ++ts)),cnt+bj ts,max dp ((op.length:Int)+1+aZ ts)⟩ (o6 [] r) fin->Run ⟨op++[(w,PQ)],none,cnt,dp⟩ (o6 [] (aT ts++([41]++r))) fin
 |[],_,hn,_,_,_,_,_,_,_,_,_=>absurd rfl hn
 |[t],hw,_,op,w,PQ,cnt,dp,r,fin,hl,hr=>by
  unfold r_ at hw;unfold aT;refine jn t hw.1 _ cnt dp _ fin (.inr ⟨rfl,op,w,PQ,rfl,by simpa using hl,?_⟩);rw[bj,bj,aZ,aZ]at hr;have e1:cnt+(aX t+0)=cnt+aX t:=by lia
  have e2:max dp ((op.length:Int)+1+(max (depth t) 0:Nat))=max dp (((op++[(w,PQ)]).length:Int)+depth t):=by rw[aaa,aaO,Nat.max_zero];congr 1
  rw[e1,e2]at hr;exact hr
 |t::t2::ts,hw,_,op,w,PQ,cnt,dp,r,fin,hl,hr=>by
  unfold r_ at hw;unfold aT;rw[aas,aaE];refine jn t hw.1 _ cnt dp _ fin (.inl ⟨rfl,op,w,PQ,rfl,?_⟩);refine ko (t2::ts) hw.2 (by simp) op w (PQ++[t]) _ _ r fin (by rw[aaa,aaO];simp only[aac]at hl⊢;lia) ?_;rw[bj,aZ]at hr;have e1:cnt+(aX t+bj (t2::ts))=cnt+aX t+bj (t2::ts):=by lia
  have e2:max dp ((op.length:Int)+1+(max (depth t) (aZ (t2::ts)):Nat))=max (max dp (((op++[(w,PQ)]).length:Int)+depth t)) ((op.length:Int)+1+aZ (t2::ts)):=by
   rw[aaa,aaO]
   lia
  rw[e1,e2]at hr;rw[aas];exact hr
end
theorem t7(hw:Wf t):Run ⟨[],none,0,0⟩ (o6 [] (sh t).cps.toList) ⟨[],some t,aX t,depth t⟩:=by
 have h:=jn t hw [] 0 0 [] ⟨[],some t,aX t,depth t⟩ (by
  show _=_;have h1:=fE t;rw[show(0:Int)+aX t=aX t by lia,show max (0:Int) (((([]:List (Str×List Tm)).length:Nat):Int)+depth t)=depth t by rw[aa7];lia])
 rw[aaW]at h;exact h
mutual
theorem kj:∀(t:Tm),Wf t->((sh t).length:Int)<=50*aX t
 |.call w ts,hw=>by
  unfold Wf at hw;obtain⟨h1,h2,h3,h4⟩:=hw;have a:=dR w h1;have b:=iZ ts h4;have e:=ba w ts;rw[aq,e,aX];simp only[aaa,aac,aa7]
  lia
 |.num n,hw=>by
  unfold Wf at hw;have:=(di hw.1 hw.2).2;rw[aq,aX];unfold sh
  lia
 |.text z,hw=>by
  unfold Wf at hw;rw[aq,aX];unfold sh;rw[ap,ap,dW];simp only[aaa,aac,aa7]
  lia
 |.row,_=>by rw[aX];decide
 |.mark,_=>by rw[aX];decide
 |.val k z,hw=>by
  unfold Wf at hw;have:=(di (n:=k) (by rcases hw.1 with h|h|h|h<;>lia) (by rcases hw.1 with h|h|h|h<;>lia)).2;rw[aq,aX];unfold sh;rw[ap,ap,cn];simp only[aaa,aac,aa7]
  lia
theorem iZ:∀(ts:List Tm),r_ ts->((aT ts).length:Int)<=50*bj ts+ts.length
 |[],_=>by unfold aT;rw[bj];decide
 |[t],hw=>by
  unfold r_ at hw;have:=kj t hw.1;unfold aT;rw[bj,bj];rw[aq]at this;simp only[aac,aa7]
  lia
 |t::t2::ts,hw=>by
  unfold r_ at hw;have h1:=kj t hw.1;have h2:=iZ (t2::ts) hw.2;unfold aT;rw[bj];rw[aq]at h1;simp only[aaa,aac]at h2⊢
  lia
end
def K_(l:List Nat):Prop:=∀c∈l,c<128
def K_.app{a b:List Nat}(h:K_ a)(g:K_ b):K_ (a++b):=λc hc=>(List.mem_append.mp hc).elim (h c) (g c)
def gJ:∀d∈i6,∀c∈d.cps.toList,c<128:=by decide +kernel
theorem gT(h:bR c=true):c<128:=by
 unfold bR ce cy at h;simp only[abg,aaU,aau]at h
 lia
def eF(h:cy c=true):c<128:=gT (by unfold bR;rw[h,ac9])
def An(h:ce c=true):c<128:=gT (by unfold bR;rw[h];rfl)
mutual
theorem gQ:∀(t:Tm),Wf t->K_ (sh t).cps.toList
 |.call w ts,hw=>by
  unfold Wf at hw;rw[ba];exact K_.app (gJ w hw.1) (K_.app (a:=[40]) (λc hc=>by rw[List.mem_singleton.mp hc];decide) (K_.app (ja ts hw.2.2.2) λc hc=>by rw[List.mem_singleton.mp hc];decide))
 |.num n,hw=>by
  unfold Wf at hw;unfold sh
  exactλc hc=>eF (bK hw.1 c hc)
 |.text z,hw=>by
  unfold Wf at hw;unfold sh;rw[ap,ap,dW];exact K_.app (K_.app (λc hc=>by rw[List.mem_singleton.mp hc];decide) λc hc=>gT (hw.2 c hc)) λc hc=>by rw[List.mem_singleton.mp hc];decide
 |.row,_=>by unfold sh;unfold K_;decide
 |.mark,_=>by unfold sh;unfold K_;decide
 |.val k z,hw=>by unfold Wf at hw;unfold sh;rw[ap,ap,cn];exact K_.app (K_.app (λc hc=>eF (bK (by rcases hw.1 with h|h|h|h<;>lia) c hc)) λc hc=>by rw[List.mem_singleton.mp hc];decide) λc hc=>An (hw.2.2.2 c hc)
theorem ja:∀(ts:List Tm),r_ ts->K_ (aT ts)
 |[],_=>by unfold aT;exactλc hc=>nomatch hc
 |[t],hw=>by
  unfold r_ at hw;unfold aT;exact gQ t hw.1
 |t::t2::ts,hw=>by unfold r_ at hw;unfold aT;exact K_.app (gQ t hw.1) (K_.app (a:=[44]) (λc hc=>by rw[List.mem_singleton.mp hc];decide) (ja (t2::ts) hw.2))
end
end TM
namespace TM
open PySem L2
open PySem.Builtin.Str (strSub occurrences partsBetween)
theorem jT{c:Nat}:∀{a a' b b':List Nat},c∉a->c∉a'->a++c::b=a'++c::b'->a=a'/\b=b'
 |[],[],b,b',_,_,h=>⟨rfl,by simpa using h⟩
 |[],x::a',b,b',_,h2,h=>by
  simp only[aaS,aaE,acE]at h;exact absurd (by rw[h.1];simp) h2
 |x::a,[],b,b',h1,_,h=>by
  simp only[aaS,aaE,acE]at h;exact absurd (by rw[h.1];simp) h1
 |x::a,y::a',b,b',h1,h2,h=>by simp only[aaE,acE]at h;obtain⟨e1,e2⟩:=jT (λz=>h1 (by simp[z])) (λz=>h2 (by simp[z])) h.2;exact⟨by rw[h.1,e1],e2⟩
variable{c:Nat}
def nQ{a a' b':List Nat}(h1:c∉a)(h:a=a'++c::b'):False:=h1 (by rw[h];simp)
def fJ(c:Nat)(p q:Str)(r:List Str):(Str.join ⟨#[c]⟩ (p::q::r)).cps.toList=p.cps.toList++c::(Str.join ⟨#[c]⟩ (q::r)).cps.toList:=by show(p++⟨#[c]⟩++Str.join ⟨#[c]⟩ (q::r)).cps.toList=_;rw[ap,ap];simp
theorem kJ{c:Nat}:∀{ps qs:List Str},ps≠[]->qs≠[]->(∀p∈ps,c∉p.cps.toList)->(∀p∈qs,c∉p.cps.toList)->Str.join ⟨#[c]⟩ ps=Str.join ⟨#[c]⟩ qs->ps=qs
 |[],_,h,_,_,_,_=>absurd rfl h
 |_,[],_,h,_,_,_=>absurd rfl h
 |[p],[q],_,_,_,_,h=>by
  have e:p=q:=h;rw[e]
 |[p],q::q2::r,_,_,h1,_,h=>by
  have e:=aaN (λs:Str=>s.cps.toList) h;simp only[fJ]at e;exact(nQ (h1 p (by simp)) e).elim
 |p::p2::r,[q],_,_,_,h2,h=>by
  have e:=aaN (λs:Str=>s.cps.toList) h;simp only[fJ]at e;exact(nQ (h2 q (by simp)) e.symm).elim
 |p::p2::r,q::q2::r',_,_,h1,h2,h=>by have e:=aaN (λs:Str=>s.cps.toList) h;simp only[fJ]at e;obtain⟨e1,e2⟩:=jT (h1 p (by simp)) (h2 q (by simp)) e;have ih:=kJ (ps:=p2::r) (qs:=q2::r') (by simp) (by simp) (λx hx=>h1 x (by simp[hx])) (λx hx=>h2 x (by simp[hx])) (bx e2);rw[bx e1,ih]
def Ep(s:Str)(ps:List Str):Txt.join s ps=Str.join s ps:=StrLaws.glued_eq_join s ps
def iP{ps:List Str}(hn:ps≠[])(hf:∀p∈ps,c∉p.cps.toList):Txt.split (Txt.join ⟨#[c]⟩ ps) ⟨#[c]⟩=ps:=by
 have h1:=StrLaws.join_split (Txt.join ⟨#[c]⟩ ps) ⟨#[c]⟩;have h2:=StrLaws.split_free (Txt.join ⟨#[c]⟩ ps) c;have h3:=PyProof.Rows.split_pos (Txt.join ⟨#[c]⟩ ps) ⟨#[c]⟩;refine kJ (λz=>?_) hn h2 hf ?_
 ·rw[z]at h3;exact absurd h3 (by decide)
 ·rw[h1,Ep]
theorem zX(x y:Str):(partsBetween x (occurrences x y 0 x.length (x.length+1)) y.length).length<=x.length+2:=by
 rw[PyProof.Rows.len_partsBetween];have:=StrLaws.occ_length_le x y 0 x.length (x.length+1)
 lia
theorem fM{a b:Str}(hf:c∉a.cps.toList):Txt.partition (a++⟨#[c]⟩++b) ⟨#[c]⟩=(a,⟨#[c]⟩,b):=by
 have hs:=StrLaws.partition_sum (a++⟨#[c]⟩++b) ⟨#[c]⟩;have hm:c∈(a++⟨#[c]⟩++b).cps.toList:=by rw[ap,ap];simp
 have QL:=adu (a++⟨#[c]⟩++b) c;have hl:=aaN (λs:Str=>s.cps.toList) hs;have h2:(Txt.partition (a++⟨#[c]⟩++b) ⟨#[c]⟩).2.1=⟨#[c]⟩:=by
  unfold Txt.partition;cases e:occurrences (a++⟨#[c]⟩++b) ⟨#[c]⟩ 0 (a++⟨#[c]⟩++b).length 1 with
  |nil=>rw[e,aa0 hm]at QL;exact absurd QL (by decide)
  |cons i r=>rfl
 have h1:c∉(Txt.partition (a++⟨#[c]⟩++b) ⟨#[c]⟩).1.cps.toList:=by
  rcases PyProof.Rows.partition_head (a++⟨#[c]⟩++b) ⟨#[c]⟩with⟨_,h⟩|⟨i,e,hi,h⟩
  ·obtain⟨i,hi⟩:=List.getElem?_of_mem hm;exact absurd ((StrLaws.subAt_one _ c i).mpr hi) (h i)
  ·rw[e];exact StrLaws.part_free _ c 0 i (by have:=hi.1;lia) λk _ hk=>h k hk
 simp only[ap,h2]at hl;rw[aas,aas]at hl;obtain⟨e1,e2⟩:=jT h1 hf (b:=(Txt.partition (a++⟨#[c]⟩++b) ⟨#[c]⟩).2.2.cps.toList) (b':=b.cps.toList) (by simpa using hl);exact Prod.ext (bx e1) (Prod.ext h2 (bx e2))
end TM
namespace L2
open PySem PySem.Spec PyProof.Rows
open PySem.Builtin.Str (strSub occurrences)
section
variable{X:Cx}
def ES:V->List V->Hp->VK->Prop:=λx xs H Q=>∃z y,x=.str z/\xs=[.str y]/\(y.length == 0)=false/\z.length<=sizeLine /\
 ∀l,H l=none->Q (.ref l) (upd H l (.tup [.str (Txt.partition z y).1,.str (Txt.partition z y).2.1,.str (Txt.partition z y).2.2]))
theorem fV:QY X "str.partition" ES:=by
 intro pins s σ H x vs v us Q I rx rv h;obtain⟨z,y,rfl,rfl,hy,hz,q⟩:=h;obtain⟨t,rfl⟩:=rx;obtain⟨u',rfl,ru⟩:=rv.one;obtain⟨u,rfl⟩:=ru;have fin:∀(a b c:Str)(ta tb tc:Tok)(tk:Nat),Txt.partition z y=(a,b,c)->EP X pins σ Q (.ref s.heap.objs.size) { s with toks:=tk,heap:=s.heap.push { cls:=.type "tuple",data:=.seq [Value.str a ta,.str b tb,.str c tc].toArray } }:=λa b c ta tb tc tk e=>by rw[e]at q;exact⟨.ref _,_,I.laid (t':=tk) (λb o e=>aag _ e) (aam _) (show j5 X.prog X.w _ _ _ (.tup [.str a,.str b,.str c])from⟨⟨Z3,Nh.new _ _ rfl⟩,_,.cons ⟨ta,rfl⟩ (.cons ⟨tb,rfl⟩ (.cons ⟨tc,rfl⟩ .nil)),IsTup.new _ _⟩),rfl,q _ I.fresh⟩
 refine ab1 F.slot_str_partition (acs _ _ _) F.entry_str_partition (F.args_str_partition_2 _ _) (meets_str_partition z y t u hy hz) ?_;cases e:occurrences z y 0 z.length 1 with
 |nil=>exact fin _ _ _ _ _ _ _ (by unfold Txt.partition;rw[e])
 |cons i r=>exact fin _ _ _ _ _ _ _ (by unfold Txt.partition;rw[e])
end
def Ek(lo:Int)(n:Nat):It:=⟨λi _=>i<n,λi H x H'=>H'=H/\x=.int (lo+(i:Nat)*2),λi _=>n<=i⟩
variable{K:W.Frag}
theorem lH{P:Program}{w:World}{tg:Expr}(it:Addr)(lo:Int)(n:Nat):uC P w K tg (Ek lo n) [it] it (λi h=>IsRangeIter h it (lo+(i:Nat)*2) ((n:Int)-(i:Nat)) 2) where
 mem:=by simp
 obj:=λi h st b hb=>by
  have e:b=it:=by simpa using hb
  subst e;exact⟨_,st,λv z=>by
   have z':Data.fields _=Data.cell v:=z;cases z'⟩
 keep:=λi h h' st k=>k it (by simp) _ st
 item:=by intro X hP hw hK hc i pins s σ H E I hf st hg;subst hP hw hK;obtain⟨f0,f1,f2,f3,f4,f5⟩:=hf it (by simp);have W:=Walks.range (prog:=X.prog) (w:=X.w) (I.ok.hd hc) it lo 2 n;refine W.item i s _ _ hg st λv h' tk hv Jh kk=>?_;obtain⟨t,rfl⟩:=hv;have I1:Inv X pins σ H { s with heap:=h',toks:=tk }:=I.turned (λb o hb e=>kk b o (by simpa using hb) e) f0 f1 f3 f4 f5;exact⟨_,rfl,qj (s:={ s with heap:=h',toks:=tk }) (n:="range_iterator") Jh rfl rfl (by decide) ⟨.int (lo+(i:Nat)*2),H,I1,⟨t,rfl⟩,⟨rfl,rfl⟩,Jh,λb hb=>(hf b hb).1⟩⟩
 done:=by intro X hP hw hK hc i pins s σ H E I hf st hg;subst hP hw hK;obtain⟨f0,f1,f2,f3,f4,f5⟩:=hf it (by simp);exact wpAny_pyNext_range_end (I.ok.hd hc) st (by have:n<=i:=hg;lia) λh' eb=>⟨rfl,I.turned (t':=s.toks) (λb o hb e=>eb b o hb e) f0 f1 f3 f4 f5⟩
 self:=λ_ _ _ _ _ st h=>wpAny_pyIter_rangeiter st h
theorem xz(lo:Int)(n:Nat):Builtin.Range.rangeSize lo (lo+2*n) 2=n:=by unfold Builtin.Range.rangeSize;rw[aaX (by decide)];split<;>lia
variable{pos p:Pos}{a b c:Expr}{ta:TA}{n:Nat}
section
variable{X:Cx}{tg:Expr}
def DK(ta:TA):TI:=λσ H R=>ta σ H λvs H1=>∃(lo hi:Int)(n:Nat),vs=[.int lo,.int hi,.int 2]/\0<=lo/\lo<=100000/\n<=100000/\hi=lo+2*n/\R (Ek lo n) H1
theorem rS(hg:Gl X "range")(hm:X.mg "range" = none)(ha:PA X [a,b,c] ta)(hs:starEach [a,b,c] X.env=[(false,eval a X.env),(false,eval b X.env),(false,eval c X.env)]:=by rfl)(Jb:starEach [b,c] X.env=[(false,eval b X.env),(false,eval c X.env)]:=by rfl)(hs3:starEach [c] X.env=[(false,eval c X.env)]:=by rfl):
 PI X tg (.Call (.Name "range" p) [a,b,c] [] pos) (DK ta):=by
 intro pins s σ H R I h;refine Call_ (dG I hg hm boot_range (aba (j9 (ha pos pins s σ H _ I h) λus s1 ⟨vs,H1,I1,r1,q1⟩=>?_) (by rw[hs,Jb]) (by rw[Jb];rfl)));obtain⟨lo,hi,n,e,q1,q2,q3,ehi,q⟩:=q1;subst e ehi;cases r1 with
 |cons r rr=>
  cases rr with
  |cons r' rr=>
   cases rr with
   |cons r'' rr=>
    cases rr;obtain⟨t,rfl⟩:=r;obtain⟨u,rfl⟩:=r';obtain⟨v,rfl⟩:=r'';refine call_range_3 (by decide) ?_ (Or.inl (adM (by lia)));refine wpAny_pyIter_range (IsRange.new ..) ?_ ?_
    ·unfold Builtin.Range.small;rw[xz];simp only[Builtin.Range.rangeFitsLong,aaU,abg,aau,ack,show(2:Int)>0 by decide,acx]
     lia
    have I2:Inv X pins σ H1 { s1 with heap:=s1.heap.push { cls:=.type "range",data:=.fields #[.int lo t,.int (lo+2*n) u,.int 2 v] },toks:=s1.toks }:=I1.kept λb o e=>aag _ e;refine⟨(s1.heap.push { cls:=.type "range",data:=.fields #[.int lo t,.int (lo+2*n) u,.int 2 v] }).objs.size,[(s1.heap.push { cls:=.type "range",data:=.fields #[.int lo t,.int (lo+2*n) u,.int 2 v] }).objs.size],_,_,H1,rfl,
     I2.kept (t':=s1.toks) λb o e=>aag _ e,lH _ lo n,?_,λb hb=>?_,q⟩
    ·have e1:lo+((0:Nat):Int)*2=lo:=by simp
     have e2:((n:Nat):Int)-((0:Nat):Int)=Builtin.Range.rangeSize lo (lo+2*n) 2:=by rw[xz];simp
     show IsRangeIter _ _ (lo+((0:Nat):Int)*2) (((n:Nat):Int)-((0:Nat):Int)) 2;rw[e1,e2];exact aax _ rfl
    ·have e:b=(s1.heap.push { cls:=.type "range",data:=.fields #[.int lo t,.int (lo+2*n) u,.int 2 v] }).objs.size:=by simpa using hb
     subst e;exact I2.J3 (aam _) (I2.h_.fresh (aam _))
def rJ(hg:Gl X "range")(hm:X.mg "range" = none)(ha:QA X [a,b,c] ta)(hs:starEach [a,b,c] X.env=[(false,eval a X.env),(false,eval b X.env),(false,eval c X.env)]:=by rfl)(Jb:starEach [b,c] X.env=[(false,eval b X.env),(false,eval c X.env)]:=by rfl)(hs3:starEach [c] X.env=[(false,eval c X.env)]:=by rfl):
 QI X tg (.Call (.Name "range" p) [a,b,c] [] pos) (DK ta):=⟨rS hg hm ha.h hs Jb hs3⟩
theorem qm{lo:Int}{g:TG}{tb:TS}{D:mC}{σ:St}{H:Hp}(Pv:Nat->St->Hp->Prop)(h0:Pv 0 σ H)(hs:∀i σ H,i<n->Pv i σ H->g (.int (lo+(i:Nat)*2)) σ H λJf H2=>tb { D with nx:=Pv (i+1),ct:=Pv (i+1),bk:=D.nx } Jf H2)(hd:∀σ H,Pv n σ H->D.nx σ H):
 ∃W:Nat->Nat->St->Hp->Prop,(∃m,W 0 m σ H)/\∀i m σ H,W i m σ H ->
  ((Ek lo n).stop i H/\D.nx σ H)\/((Ek lo n).go i H/\∃N:St->Hp->Prop,(∀l_ H',N l_ H'->∃m',m'<m/\W (i+1) m' l_ H')/\∀x H',(Ek lo n).P7 i H x H'->g x σ H' λJf H2=>tb { D with nx:=N,ct:=N,bk:=D.nx } Jf H2):=by
 refine⟨λi m σ H=>m=n-i/\i<=n/\Pv i σ H,⟨n,by simp,aa8 _,h0⟩,?_⟩;rintro i m σ H ⟨rfl,hi,p⟩;by_cases q_:i<n
 ·refine .inr ⟨q_,Pv (i+1),λl_ H' q=>⟨n-(i+1),by lia,rfl,q_,q⟩,λx H' y=>?_⟩;obtain⟨rfl,rfl⟩:=y;exact hs i σ H' q_ p
 ·refine .inl ⟨Nat.le_of_not_lt q_,hd σ H ?_⟩;have e:i=n:=by lia
  rw[<-e];exact p
end
variable{es:List Expr}{X:Cx}
def lR{k:Nat}{t:Ni}(hK:X.K=K)(hc:X.calm=true)(h:Vd X es t)(hn:(assignEach es X.env).length=n:=by rfl)(B5:(assignEach es X.env).findIdx? (·.1)=none:=by rfl):QG X (.Tuple es k pos) (Um K n t):=by subst hK;exact du hc h hn B5
theorem rN{o e:Expr}{to:TE}{t:TA}{name:Str}{apos g6:Pos}{T id:String}{r:V->List V->Hp->VK->Prop}(hK:X.K=K)(pa:PySem.PlainAttrs T)(slot:PySem.Slot T name id)(Qy:PySem.typeOf (Value.builtin id)=Pure.pure (Value.type "method_descriptor"))(hm:QY X id r)(ho:QE X o to)(ha:QA X (e::es) t)(HA:PySem.attributeBase o name X.env (PySem.eval o X.env)=PySem.eval o X.env:=by rfl)(Ov:(((List.all (PySem.backTo g6 (PySem.starEach (e::es) X.env)) λ(x:Bool×PySem.Sem Value)=>!Prod.fst x)&&List.all (PySem.backToKw g6 (PySem.keywordEach [] X.env)) λ(x:Option Str×PySem.Sem Value)=>Option.isSome (Prod.fst x))&&Decidable.decide ((List.length (e::es)+List.length ([]:List Keyword)+if List.isEmpty ([]:List Keyword)=true then 0 else 1)<30))=true:=by rfl)(A6:(PySem.Pos.endLine apos == PySem.Pos.line g6)=true:=by rfl)(hs:PySem.starEach (e::es) X.env=(false,PySem.eval e X.env)::PySem.starEach es X.env:=by rfl)(IU:(List.any (PySem.backTo g6 (PySem.starEach es X.env)) λ(x:Bool×PySem.Sem Value)=>Prod.fst x)=false:=by rfl):QE X (PySem.Expr.Call (PySem.Expr.Attribute o name apos) (e::es) [] g6) (tBM K T r to t):=by subst hK;exact cM pa slot Qy hm ho ha HA Ov A6 hs IU
end L2
namespace TM
open PySem L2
inductive g9{α:Type}(R:α->V->Prop):List α->List V->Prop
 |nil:g9 R [] []
 |cons {a:α} {v:V} {as:List α} {vs:List V}:R a v->g9 R as vs->g9 R (a::as) (v::vs)
variable{vs:List V}{v:V}
namespace g9
variable{α:Type}{R R':α->V->Prop}
theorem imp(h:∀a v,R a v->R' a v):∀{as:List α}{vs:List V},g9 R as vs->g9 R' as vs
 |_,_,.nil=>.nil
 |_,_,.cons x y=>.cons (h _ _ x) (imp h y)
theorem len:∀{as:List α}{vs:List V},g9 R as vs->vs.length=as.length
 |_,_,.nil=>rfl
 |_,_,.cons _ y=>by rw[aac,aac,len y]
theorem get:∀{as:List α}{vs:List V}{i:Nat}{v:V},g9 R as vs->vs[i]?=some v->∃a,as[i]?=some a/\R a v
 |_,_,i,v,.nil,e=>by simp at e
 |_,_,0,v,.cons (a:=a) x y,e=>by
  simp at e;subst e;exact⟨a,rfl,x⟩
 |_,_,i+1,v,.cons x y,e=>by obtain⟨b,hb,r⟩:=get (i:=i) y (by simpa using e);exact⟨b,by simpa using hb,r⟩
theorem app:∀{as bs:List α}{vs us:List V},g9 R as vs->g9 R bs us->g9 R (as++bs) (vs++us)
 |_,_,_,_,.nil,g=>g
 |_,_,_,_,.cons x y,g=>.cons x (app y g)
def one{a:α}(h:R a v):g9 R [a] [v]:=.cons h .nil
def snoc{as:List α}{a:α}(h:g9 R as vs)(g:R a v):g9 R (as++[a]) (vs++[v]):=h.app (one g)
def nil_of(h:g9 R [] vs):vs=[]:=by cases h;rfl
theorem Of{a:α}{as:List α}(h:g9 R (a::as) vs):∃v r,vs=v::r/\R a v/\g9 R as r:=by
 cases h with
 |cons x y=>exact⟨_,_,rfl,x,y⟩
end g9
structure Sg where
 nm:Str
 dn:List (Str×Str)
 up:List (Str×Str)
structure Ru where
 k:Int
 nm:Str
 tm:Tm
structure Fm where
 nm:Str
 hd:Str
 br:List Str
 ru:List Ru
structure Gr where
 sg:List Sg
 fm:List Fm
def w_(H:Hp)(p:Str×Str)(v:V):Prop:=∃a,v=.ref a/\H a=some (.tup [.str p.1,.str p.2])
def E_(H:Hp)(s:Sg)(v:V):Prop:=∃p a b us ws,v=.ref p/\H p=some (.tup [.str s.nm,.ref a,.ref b])/\H a=some (.tup us)/\g9 (w_ H) s.dn us/\H b=some (.tup ws)/\g9 (w_ H) s.up ws
def F_(H:Hp)(r:Ru)(v:V):Prop:=∃p u,v=.ref p/\H p=some (.tup [.int r.k,.str r.nm,u])/\j0 H r.tm u
def G_(H:Hp)(f:Fm)(v:V):Prop:=∃p a b us,v=.ref p/\H p=some (.tup [.str f.nm,.str f.hd,.ref a,.ref b])/\H a=some (.tup (f.br.map V.str))/\H b=some (.tup us)/\g9 (F_ H) f.ru us
def K2(H:Hp)(g:Gr)(v:V):Prop:=∃p a b us ws,v=.ref p/\H p=some (.tup [.ref a,.ref b])/\H a=some (.tup us)/\g9 (E_ H) g.sg us/\H b=some (.tup ws)/\g9 (G_ H) g.fm ws
section
variable{H H':Hp}
def w_.same(e:n6 H H'){p:Str×Str}(h:w_ H p v):w_ H' p v:=by obtain⟨a,x,y⟩:=h;exact⟨a,x,e _ _ y⟩
theorem E_.same(e:n6 H H'){p:Sg}{v:V}(h:E_ H p v):E_ H' p v:=by obtain⟨p,a,b,us,ws,x,y,z,l,z',l'⟩:=h;exact⟨p,a,b,us,ws,x,e _ _ y,e _ _ z,l.imp λ_ _=>w_.same e,e _ _ z',l'.imp λ_ _=>w_.same e⟩
theorem F_.same(e:n6 H H'){p:Ru}{v:V}(h:F_ H p v):F_ H' p v:=by obtain⟨p,u,x,y,z⟩:=h;exact⟨p,u,x,e _ _ y,j0.same e _ z⟩
theorem G_.same(e:n6 H H'){p:Fm}{v:V}(h:G_ H p v):G_ H' p v:=by obtain⟨p,a,b,us,x,y,z,z',l⟩:=h;exact⟨p,a,b,us,x,e _ _ y,e _ _ z,e _ _ z',l.imp λ_ _=>F_.same e⟩
theorem K2.same(e:n6 H H'){p:Gr}{v:V}(h:K2 H p v):K2 H' p v:=by obtain⟨p,a,b,us,ws,x,y,z,l,z',l'⟩:=h;exact⟨p,a,b,us,ws,x,e _ _ y,e _ _ z,l.imp λ_ _=>E_.same e,e _ _ z',l'.imp λ_ _=>G_.same e⟩
end
def g7(z:Str):Prop:=z.cps.toList≠[]/\z.cps.toList.length<=8/\∀c∈z.cps.toList,ce c=true
abbrev cV:List Str:=["num", "text", "row"]
def gb(p:Str×Str):Prop:=g7 p.1/\p.2∈cV
structure uu(s:Sg):Prop where
 nm:g7 s.nm
 d3:s.dn.length<=3
 u3:s.up.length<=3
 dn:∀p∈s.dn,gb p
 up:∀p∈s.up,gb p
structure oj(r:Ru):Prop where
 vl:Wf (.val r.k r.nm)
 wf:Wf r.tm
 p30:aX r.tm<=30
 d6:depth r.tm<=6
structure qz(f:Fm):Prop where
 nm:g7 f.nm
 hd:g7 f.hd
 b5:f.br.length<=5
 br:∀b∈f.br,g7 b
 r3:f.ru.length<=3
 ru:∀r∈f.ru,oj r
structure Gj(g:Gr):Prop where
 s7:g.sg.length<=7
 f5:g.fm.length<=5
 sg:∀s∈g.sg,uu s
 fm:∀f∈g.fm,qz f
noncomputable def GN(w:Str)(p:Str×Str):List Str:=[w,p.1++":"++p.2]
noncomputable def n9(s:Sg):List Str:="sign"::s.nm::(s.dn.flatMap (GN "down")++s.up.flatMap (GN "up"))
noncomputable def J4(f:Fm):List Str:="form"::f.nm::f.hd::f.br
noncomputable def MP(r:Ru):List Str:=[sh (.val r.k r.nm), "=",sh r.tm]
noncomputable def J5(f:Fm):List (List Str):=J4 f::f.ru.map MP
noncomputable def i_(g:Gr):List (List Str):=g.sg.map n9++g.fm.flatMap J5
noncomputable def ln(ws:List Str):Str:=Txt.join " " ws
def Em(w:Str):Prop:=(∀c∈w.cps.toList,c≠32/\c≠10)/\w.cps.toList.length<=1500
noncomputable def tl(c:Nat)(zs:List Str):List Nat:=(zs.map λz=>c::z.cps.toList).flatten
def Bu(c:Nat)(a b:List Str):tl c (a++b)=tl c a++tl c b:=by unfold tl;rw[aaZ,List.flatten_append]
def fI(c:Nat)(a:Str)(b:List Str):tl c (a::b)=c::a.cps.toList++tl c b:=rfl
def Br(c:Nat):tl c []=[]:=rfl
theorem DN(c:Nat):∀(zs:List Str)(acc:Array Nat),(zs.foldl (λacc p=>acc++(⟨#[c]⟩:Str).cps++p.cps) acc).toList=acc.toList++tl c zs
 |[],acc=>by simp[tl]
 |p::zs,acc=>by rw[acD,DN c zs,fI];simp
def jH(c:Nat)(z:Str)(zs:List Str):(Txt.join ⟨#[c]⟩ (z::zs)).cps.toList=z.cps.toList++tl c zs:=DN c zs z.cps
def uj:(Str.ofString " ")=⟨#[32]⟩:=by decide
def Ag:(Str.ofString "\n")=⟨#[10]⟩:=by decide
def colon:(Str.ofString ":")=⟨#[58]⟩:=by decide
def hX(z:Str)(zs:List Str):(ln (z::zs)).cps.toList=z.cps.toList++tl 32 zs:=by unfold ln;rw[uj];exact jH 32 z zs
variable{c:Nat}
def Bs{d:Nat}{zs:List Str}(h:d∈tl c zs):d=c\/∃z∈zs,d∈z.cps.toList:=by
 unfold tl at h;obtain⟨l,hl,hd⟩:=List.mem_flatten.mp h;obtain⟨z,hz,rfl⟩:=List.mem_map.mp hl;rcases List.mem_cons.mp hd with h|h
 ·exact .inl h
 ·exact .inr ⟨z,hz,h⟩
variable{ws:List Str}
theorem Aj(h:∀w∈ws,Em w):10∉(ln ws).cps.toList:=by
 intro m;cases ws with
 |nil=>exact absurd m (by decide)
 |cons z zs=>
  rw[hX]at m;rcases List.mem_append.mp m with m|m
  ·exact((h z (by simp)).1 10 m).2 rfl
  ·rcases Bs m with e|⟨y,hy,m⟩
   ·exact absurd e (by decide)
   ·exact((h y (by simp[hy])).1 10 m).2 rfl
def vX(hn:ws≠[])(h:∀w∈ws,Em w):Txt.split (ln ws) " " = ws:=by unfold ln;rw[uj];exact iP hn λp hp m=>((h p hp).1 32 m).1 rfl
def uI{ls:List (List Str)}(hn:ls≠[])(h:∀l∈ls,∀w∈l,Em w):Txt.split (Txt.join "\n" (ls.map ln)) "\n" = ls.map ln:=by rw[Ag];refine iP (by simpa using hn) λp hp=>?_;obtain⟨l,hl,rfl⟩:=List.mem_map.mp hp;exact Aj (h l hl)
theorem fi(h:ce c=true):c≠32/\c≠10/\c≠58:=by
 unfold ce at h;rw[aaU,aau,aau]at h
 lia
theorem nM(h:cy c=true):c≠32/\c≠10:=by
 unfold cy at h;rw[aaU,aau,aau]at h
 lia
def Cb(h:bR c=true):c≠32/\c≠10:=by
 unfold bR at h;rcases abg _ _ |>.mp h with h|h
 ·exact⟨(fi h).1,(fi h).2.1⟩
 ·exact nM h
def g7.colon{z:Str}(h:g7 z):58∉z.cps.toList:=λm=>(fi (h.2.2 _ m)).2.2 rfl
def AO:∀d∈i6,∀c∈d.cps.toList,c≠32/\c≠10:=by decide +kernel
mutual
theorem yO:∀(t:Tm),Wf t->∀c∈(sh t).cps.toList,c≠32/\c≠10
 |.num n,w,c,h=>by unfold sh at h;unfold Wf at w;exact nM (bK w.1 c h)
 |.text z,w,c,h=>by
  unfold sh at h;unfold Wf at w;rw[ap,ap,dW]at h;simp only[aat,aaL]at h;rcases h with(rfl|h)|rfl
  ·decide
  ·exact Cb (w.2 c h)
  ·decide
 |.row,w,c,h=>by unfold sh at h;revert c;decide
 |.mark,w,c,h=>by unfold sh at h;revert c;decide
 |.val k z,w,c,h=>by
  unfold sh at h;unfold Wf at w;rw[ap,ap,cn]at h;simp only[aat,aaL]at h;rcases h with(h|rfl)|h
  ·exact nM (bK (by rcases w.1 with h|h|h|h<;>lia) c h)
  ·decide
  ·exact⟨(fi (w.2.2.2 c h)).1,(fi (w.2.2.2 c h)).2.1⟩
 |.call d ts,w,c,h=>by
  unfold Wf at w;rw[ba]at h;simp only[aat,aaf,aaL,abl,aaJ]at h;rcases h with h|rfl|h|rfl
  ·exact AO d w.1 c h
  ·decide
  ·exact xt ts w.2.2.2 c h
  ·decide
theorem xt:∀(ts:List Tm),r_ ts->∀c∈aT ts,c≠32/\c≠10
 |[],w,c,h=>by unfold aT at h;cases h
 |[t],w,c,h=>by unfold aT at h;unfold r_ at w;exact yO t w.1 c h
 |t::u::ts,w,c,h=>by
  unfold aT at h;unfold r_ at w;simp only[aat,aaf]at h;rcases h with h|rfl|h
  ·exact yO t w.1 c h
  ·decide
  ·exact xt (u::ts) w.2 c h
end
end TM
namespace L2
open PySem PySem.Spec PyProof.Rows TM
def bD{α:Type}{xs:List α}{i:Nat}{x:α}(h:xs[i]?=some x):xs.take (i+1)=xs.take i++[x]:=by rw[List.take_succ,h];rfl
section
variable{K:W.Frag}{a:Addr}{xs:List V}{js:List Nat}{g:TG}{n:Nat}{te:TE}{σ:St}{Q:VK}{D:Addr}{H1:Hp}{α:Type}{R:Hp->α->V->Prop}{as:List α}
def K1(D:Addr)(R:Hp->α->V->Prop):Prop:=∀H H' acc b v,H D=some (.lst acc)->(∀c o,c≠D->H c=some o->H' c=some o)->R H b v->R H' b v
def K1.ofT(h:∀H H' b v,n6 H H'->R H b v->R H' b v):K1 D R:=λH H' acc b v d k r=>h H H' b v (λc ys e=>k c _ (λz=>by rw[z,d]at e;cases e) e) r
theorem uf(st:K1 D R)(hz:xs.length<sizeLine)(hlen:as.length=xs.length)(ha:c_ K H1 a xs)(hD:H1 D=none)(he:∀(i:Nat) (x:V) (b:α) (H:Hp),xs[i]?=some x->as[i]?=some b->b6 H1 H->(∃acc,H D=some (.lst acc))->∀Q':VK,(∀y H',b6 H H'->R H' b y->Q' y H')->te (some x::cP js σ) H Q')(hq:∀ys H',b6 H1 H'->H' D=some (.lst ys)->g9 (R H') as ys->Q (.ref D) H'):jZ (PB K a) js HE te σ Q D H1:=by
 refine jU (K:=K) (a:=a) (xs:=xs) (λi acc H=>i<=xs.length/\b6 H1 H/\H D=some (.lst acc)/\g9 (R H) (as.take i) acc) hz ⟨aa8 _,ae hD _,aa,.nil⟩ (λi acc H ⟨l,s,d,r⟩=>⟨d,?_,b6.seq s ha⟩) ?_ ?_
 ·rw[r.len,aaD]
  lia
 ·rintro i m x acc H hi ⟨l,s,d,r⟩ hm;have q_:=bN hi;obtain⟨b,hb⟩:=aN (xs:=as) (i:=i) (by lia);refine he i x b H hi hb s ⟨_,d⟩ _ λy H4 s4 r4=>⟨s4 _ _ d,xs.length-(i+1),by lia,rfl,q_,q_,aL hD (s.trans s4),aa,?_⟩
  have k:∀c o,c≠D->H4 c=some o->upd H4 D (.lst (acc++[y])) c=some o:=λc o hc e=>by rw[aw hc];exact e
  rw[bD hb];exact(r.imp λb v r=>st _ _ _ b v (s4 _ _ d) k (st _ _ _ b v d (λc o _ e=>s4 c o e) r)).snoc (st _ _ _ b y (s4 _ _ d) k r4)
 ·rintro acc H ⟨l,s,d,r⟩;rw[aaF (by lia)]at r;exact hq acc H s d r
end
end L2
namespace L2
open PySem PySem.Spec PyProof.Rows
variable{pos:Pos}{te:TE}
section
variable{X:Cx}
def ET(K:W.Frag):V->V->Hp->VK->Prop:=λo i H Q=>∃p xs k v,o=.ref p/\i=.int k/\k<0/\c_ K H p xs/\y6 xs k=some v/\Q v H
theorem wG:FE X (ET X.K):=by
 intro pins s σ H o i ov iv Q I ro ri h;obtain⟨p,xs,k,z,rfl,rfl,hk,hq,he,q⟩:=h;cases ro;obtain⟨t,rfl⟩:=ri;obtain⟨d7,r,pl,hz⟩:=I.list hq;obtain⟨j,h1,h2,h3,h4,h5⟩:=jX he;obtain⟨w,ew,Ih⟩:=r.get h2;have hl:=r.length;have hn:=fW;have hj:(k+(d7.toArray.size:Int)).toNat=j:=by rw[adt (by lia) h4]at h1;rw[aaA,<-hl];exact aaq h1
 exact wpAny_getItem_list_neg pl.isList (by lia) (by rw[aaA]<;>lia) (by lia) (by rw[hj];simpa using ew) ⟨z,H,I,Ih,q⟩
def zc{o i e:Expr}{to ti:TE}{Lq:V->V->Hp->VK->Prop}{Sz:YR}{Lo:En}{op:Operator}{Iz:Pos}(ho:QE X o to)(hi:QE X i ti)(hg:FE X Lq)(he:QE X e te)(hp:PIp X op Sz)(hs:FD X Lo)(ha:∀ov iv new,augStore i ov iv new=(do holding [new,ov,iv] (setItem ov iv new);release [new,ov,iv] [];pure .next):=by intros;rfl):QS X (.AugAssign (.Subscript o i Iz) op e pos) (Bz to ti te Lq Sz Lo):=⟨zf ho.h hi.h hg he.h hp hs ha⟩
end
section
variable{X:Cx}{Dc:Addr}{dn n:Str}{i:Nat}{np LO pos ipos:Pos}{ts:TS}{b0:Stmt}{Jq:List Stmt}{c:Expr}{tc:TT}{k1 k2:Nat}{f1 f2:Addr}{fd1 fd2:FuncData}{ps1 ps2:List Str}{sp1 sp2:Sp}{x1 x2:Str}{p1 p2 c1 c2 q1 q2:Pos}{e1 e2:Expr}{es1 es2:List Expr}{t1 t2:TA}
end
variable{prog:Program}{w:World}{A:Around}{E:Value->Shared->Prop}{s:Shared}
variable{Q:Value->Shared->Prop}{vs:Array Value}{it t:Addr}{i:Nat}{x:Value}
theorem gL(hi:s.heap.IsTupleIter it t i)(ht:s.heap.IsTuple t vs)(hx:vs[i]?=some x)(q:∀h',h'.IsTupleIter it t (i+1)->Heap.SameBut it s.heap h'->Q x { s with heap:=h' }):wpAny (model prog w) A (Builtin.SmallTypes.nextOf (.ref it)) Q E s:=by obtain⟨o,ho,hc,hd⟩:=id hi;obtain⟨ot,hot,_,nt,hdt⟩:=ht;unfold Builtin.SmallTypes.nextOf;refine aae (ab3 (name:=Str.ofString "__next__") hi.typeIs abQ (acL abQ hi.typeIs adT ?_ (adL _)));show wpAny _ _ (field (.ref it) 0 >>= _) _ _ s;refine aae (abo ho hd (x:=.ref t) rfl (show wpAny _ _ (if(Value.ref t == Value.none)=true then _ else _) _ _ s from ?_));rw[aaK (show¬((Value.ref t == Value.none)=true)from aaw)];show wpAny _ _ (field (.ref it) 1 >>= _) _ _ s;refine aae (abo ho hd (x:=.int i 0) rfl (show wpAny _ _ (seqItems? (.ref t) >>= _) _ _ s from aae (abz hot hdt ?_)));simp only[aco,hx];refine aae (ac3 ho hd (by simp) (aaR ⟨x,rfl,aaR (q _ ⟨_,acd _ ho (Obj.isFreed_of_fields (acu hd _)),(Obj.cls_mapFields ..).trans hc,?_⟩ (Heap.SameBut.update ..))⟩));rw[acu hd];simp[rawInt]
theorem oy(hh:A.handled=none)(hi:s.heap.IsTupleIter it t i)(ht:s.heap.IsTuple t vs)(hx:vs[i]?=none)(q:∀h' e,Heap.ExtBut it s.heap h'->(∃o,h'.get? e=some o/\o.cls=.type "StopIteration")->E (.ref e) { s with heap:=h' }):wpAny (model prog w) A (Builtin.SmallTypes.nextOf (.ref it)) Q E s:=by
 obtain⟨o,ho,hc,hd⟩:=id hi;obtain⟨ot,hot,_,nt,hdt⟩:=ht;unfold Builtin.SmallTypes.nextOf;refine aae (ab3 (name:=Str.ofString "__next__") hi.typeIs abQ (acL abQ hi.typeIs adT ?_ (adL _)));show wpAny _ _ (field (.ref it) 0 >>= _) _ _ s;refine aae (abo ho hd (x:=.ref t) rfl (show wpAny _ _ (if(Value.ref t == Value.none)=true then _ else _) _ _ s from ?_));rw[aaK (show¬((Value.ref t == Value.none)=true)from aaw)];show wpAny _ _ (field (.ref it) 1 >>= _) _ _ s;refine aae (abo ho hd (x:=.int i 0) rfl (show wpAny _ _ (seqItems? (.ref t) >>= _) _ _ s from aae (abz hot hdt ?_)));simp only[aco,hx];refine aae (wpAny_rule (aae (ac3 ho hd (by simp) (show wpAny _ _ (newExc (.type "StopIteration") [] >>= _) _ _ _ from aae ?_))));simp only[newExc,newTuple];refine aae (ab8 (aae (m:=firstArgMember _ _) (wpAny_of_eq (a:=Value.none) (by first|rfl|(simp only[firstArgMember];rfl)) (ab8 ?_ (by size_fits)))) (by size_fits));simp only[raiseNew];refine aae (wpAny_handled ?_);first|rw[show A.in1.handled=none from hh]|rw[hh]
 exact aae (aaR (wpAny_throw (q _ _ (((Heap.SameBut.update ..).extBut.push _).push _) ⟨_,aax _ rfl,rfl⟩)))
structure ZAp(z TI TO i1 i2 t1 t2:Addr):Prop where
 a1:TI≠z
 a2:TO≠z
 a3:i1≠z
 a4:i2≠z
 a5:TI≠TO
 a6:TI≠i1
 a7:TI≠i2
 a8:TO≠i1
 a9:TO≠i2
 b1:i1≠i2
 c1:t1≠z
 c2:t1≠TO
 c3:t1≠i1
 c4:t1≠i2
 d1:t2≠z
 d2:t2≠TO
 d3:t2≠i1
 d4:t2≠i2
structure _4(h:Heap)(z TI TO i1 i2 t1 t2:Addr)(k:Nat)(vs us:Array Value)(f:Value):Prop where
 zz:IsZip h z TI TO f
 ti:IsPair h TI (.ref i1) (.ref i2)
 to:∃a b,IsPair h TO a b
 n1:h.IsTupleIter i1 t1 k
 n2:h.IsTupleIter i2 t2 k
 g1:h.IsTuple t1 vs
 g2:h.IsTuple t2 us
theorem ndA{a b:Nat}(h:a<b\/b<a):a≠b:=by lia
variable{h' h:Heap}
def wj(x:h.IsTupleIter it t i)(k:∀o,h.get? it=some o->h'.get? it=some o):h'.IsTupleIter it t i:=let⟨o,ho,r⟩:=x;⟨o,k o ho,r⟩
def yu(x:h.IsTuple t vs)(k:∀o,h.get? t=some o->h'.get? t=some o):h'.IsTuple t vs:=let⟨o,ho,r⟩:=x;⟨o,k o ho,r⟩
variable{us:Array Value}{i1 i2 t1 t2 z:Addr}{k:Nat}
def lF{TI TO:Addr}{y:Value}{Q:Option Value->Shared->Prop}(D:ZAp z TI TO i1 i2 t1 t2)(S:_4 s.heap z TI TO i1 i2 t1 t2 k vs us .none)(hx:vs[k]?=some x)(hy:us[k]?=some y)(q:∀h',_4 h' z TI TO i1 i2 t1 t2 (k+1) vs us (rawInt s.heap.objs.size)->IsPair h' s.heap.objs.size x y->(∀c o,c≠z->c≠TO->c≠i1->c≠i2->s.heap.get? c=some o->h'.get? c=some o)->Q (some (.ref s.heap.objs.size)) { s with heap:=h' }):
 wpAny (model prog w) A (pyNext (.ref z)) Q E s:=by
 obtain⟨zz,ti,⟨a,b,to⟩,n1,n2,g1,g2⟩:=S;have ty:s.TypeIs (.ref z) "zip":=⟨_,zz,rfl⟩
 unfold pyNext;refine aae (wpAny_attempt (ab3 (name:=Str.ofString "__next__") ty acW (acL acW ty F.entry_zip_next ?_ (F.args_zip_next_1 _))));show wpAny _ _ (field (.ref z) 2 >>= _) _ _ _;refine aae (abo zz rfl (x:=.bool false) rfl (show wpAny _ _ (field (.ref z) 3 >>= _) _ _ _ from aae (abo zz rfl (x:=.ref TI) rfl (aae (abz ti rfl ?_)))));refine aae (show wpAny _ _ (Builtin.SmallTypes.ownedTupleIsFree (.ref z)) _ _ _ from ?_);unfold Builtin.SmallTypes.ownedTupleIsFree;refine aae (abo zz rfl (x:=.none) rfl (aaR ?_));simp only[acx];refine aae (wpAny_rule (aae (abo zz rfl (x:=.ref TO) rfl (aae (abZ zz (by simp) λu1 z1 k1=>?_)))));have e1:∀c o,c≠z->s.heap.get? c=some o->u1.get? c=some o:=k1.extBut;have m1:u1.objs.size=s.heap.objs.size:=k1.1;refine aae ?_;simp only[List.zipIdx_nil,List.zipIdx_cons,List.forIn_nil,acC];refine aae (aae (wpAny_onRaise (show wpAny _ _ (Builtin.SmallTypes.nextOf (.ref i1) >>= _) _ _ _ from aae (gL (wj n1 λo=>e1 i1 o D.a3) (yu g1 λo=>e1 t1 o D.c1) hx λu2 j1 k2=>aaR ?_))));have e2:∀c o,c≠z->c≠i1->s.heap.get? c=some o->u2.get? c=some o:=λc o h1 h2 e=>k2.extBut c o h2 (e1 c o h1 e);have z2:=k2.extBut _ _ D.a3.symm z1;have to2:IsPair u2 TO a b:=e2 _ _ D.a2 D.a8 to;refine aae (abz to2 rfl (aae (wpAny_updateSeq_pair to2 λu3 to3 k3=>aae (wpAny_letGo (aaR ?_)))));have to3':IsPair u3 TO x b:=to3;have e3:∀c o,c≠z->c≠i1->c≠TO->s.heap.get? c=some o->u3.get? c=some o:=λc o h1 h2 h3 e=>k3.extBut c o h3 (e2 c o h1 h2 e);have z3:=k3.extBut _ _ D.a2.symm z2;refine aae (aae (wpAny_onRaise (show wpAny _ _ (Builtin.SmallTypes.nextOf (.ref i2) >>= _) _ _ _ from aae (gL (wj n2 λo=>e3 i2 o D.a4 D.b1.symm D.a9.symm) (yu g2 λo=>e3 t2 o D.d1 D.d3 D.d2) hy λu4 j2 k4=>aaR ?_))));have to4:IsPair u4 TO x b:=k4.extBut _ _ D.a9 to3';refine aae (abz to4 rfl (aae (wpAny_updateSeq_pair to4 λu5 to5 k5=>aae (wpAny_letGo (aaR (aaR ?_))))));have Vi:IsPair u5 TO x y:=to5;have e5:∀c o,c≠z->c≠i1->c≠TO->c≠i2->s.heap.get? c=some o->u5.get? c=some o:=λc o h1 h2 h3 h4 e=>k5.extBut c o h3 (k4.extBut c o h4 (e3 c o h1 h2 h3 e));have z5:=k5.extBut _ _ D.a2.symm (k4.extBut _ _ D.a4.symm z3);have m5:u5.objs.size=s.heap.objs.size:=by rw[k5.1,k4.1,k3.1,k2.1,m1]
 have lz:z<s.heap.objs.size:=aao zz;refine aae (abz Vi rfl (aae (wpAny_newTuple ?_)));refine aae (show wpAny _ _ (Builtin.SmallTypes.ownedTupleHandOut (.ref z) (.ref u5.objs.size)) _ _ _ from ?_);unfold Builtin.SmallTypes.ownedTupleHandOut;have z6:=aag { cls:=.type "tuple",data:=.seq #[x,y] } z5;refine aae (abZ z6 (by simp) λu7 z7 k7=>abZ z7 (by simp) λu8 z8 k8=>aaR ⟨_,rfl,?_⟩);have e8:∀c o,c≠z->u5.get? c=some o->u8.get? c=some o:=λc o h e=>k8.extBut c o h (k7.extBut c o h (aag _ e));have p8:IsPair u8 u5.objs.size x y:=k8.extBut _ _ (by rw[m5];exact ach lz) (k7.extBut _ _ (by rw[m5];exact ach lz) (aax _ rfl));refine aaR ?_;show Q (some (.ref u5.objs.size)) { s with heap:=u8 };have z8':IsZip u8 z TI TO (rawInt u5.objs.size):=z8;rw[m5]at p8 z8'⊢;refine q u8 ⟨z8',e8 _ _ D.a1 (e5 _ _ D.a1 D.a6 D.a5 D.a7 ti),⟨x,y,e8 _ _ D.a2 Vi⟩,?_,?_,yu g1 λo e=>e8 _ _ D.c1 (e5 _ _ D.c1 D.c3 D.c2 D.c4 e),yu g2 λo e=>e8 _ _ D.d1 (e5 _ _ D.d1 D.d3 D.d2 D.d4 e)⟩ p8 λc o h1 h2 h3 h4 e=>e8 c o h1 (e5 c o h1 h3 h2 h4 e)
 ·exact wj j1 λo e=>e8 _ _ D.a3 (k5.extBut _ _ D.a8.symm (k4.extBut _ _ D.b1 (k3.extBut _ _ D.a8.symm e)))
 ·exact wj j2 λo e=>e8 _ _ D.a4 (k5.extBut _ _ D.a9.symm e)
def om{TI TO:Addr}{Q:Option Value->Shared->Prop}(hh:A.handled=none)(D:ZAp z TI TO i1 i2 t1 t2)(S:_4 s.heap z TI TO i1 i2 t1 t2 k vs us .none)(hx:vs[k]?=none)(q:∀h',(∀c o,c≠z->c≠TO->c≠i1->c≠i2->s.heap.get? c=some o->h'.get? c=some o)->Q none { s with heap:=h' }):wpAny (model prog w) A (pyNext (.ref z)) Q E s:=by
 obtain⟨zz,ti,⟨a,b,to⟩,n1,n2,g1,g2⟩:=S;have ty:s.TypeIs (.ref z) "zip":=⟨_,zz,rfl⟩
 unfold pyNext;refine aae (wpAny_attempt (ab3 (name:=Str.ofString "__next__") ty acW (acL acW ty F.entry_zip_next ?_ (F.args_zip_next_1 _))));show wpAny _ _ (field (.ref z) 2 >>= _) _ _ _;refine aae (abo zz rfl (x:=.bool false) rfl (show wpAny _ _ (field (.ref z) 3 >>= _) _ _ _ from aae (abo zz rfl (x:=.ref TI) rfl (aae (abz ti rfl ?_)))));refine aae (show wpAny _ _ (Builtin.SmallTypes.ownedTupleIsFree (.ref z)) _ _ _ from ?_);unfold Builtin.SmallTypes.ownedTupleIsFree;refine aae (abo zz rfl (x:=.none) rfl (aaR ?_));simp only[acx];refine aae (wpAny_rule (aae (abo zz rfl (x:=.ref TO) rfl (aae (abZ zz (by simp) λu1 z1 k1=>?_)))));refine aae ?_;simp only[List.zipIdx_nil,List.zipIdx_cons,List.forIn_nil,acC];refine aae (aae (wpAny_onRaise (show wpAny _ _ (Builtin.SmallTypes.nextOf (.ref i1) >>= _) _ _ _ from aae (oy hh (wj n1 λo=>k1.extBut i1 o D.a3) (yu g1 λo=>k1.extBut t1 o D.c1) hx λu2 e k2 he=>?_))));obtain⟨oe,WE,hce⟩:=he;have z2:=k2 _ _ D.a3.symm z1;have nz:e≠z:=λc=>by subst c;rw[z2]at WE;cases WE;simp at hce
 refine abZ z2 (by simp) λu3 _ k3=>?_;refine aae (adA (T:="StopIteration") (b:=true) ⟨oe,k3.extBut _ _ nz WE,hce⟩ isSubtype_stop (aaR (q u3 λc o h1 _ h3 _ e=>k3.extBut _ _ h1 (k2 _ _ h3 (k1.extBut _ _ h1 e)))))
def yg(l1 l2:Addr)(vs us:Array Value):
 Meets (Builtin.«zip.__new__» ⟨[.type "zip",.ref l1,.ref l2],[]⟩) (λ_ R s=>s.heap.IsTuple l1 vs/\s.heap.IsTuple l2 us /\
  ∀h0 h1 h2 h3 h4 h5,h0=s.heap->h1=h0.push { cls:=.type "tuple_iterator",data:=.fields #[.ref l1,.int 0 0] }->h2=h1.push { cls:=.type "tuple_iterator",data:=.fields #[.ref l2,.int 0 0] }->h3=h2.push { cls:=.type "tuple",data:=.seq #[.ref h0.objs.size,.ref h1.objs.size] } ->
   h4=h3.push { cls:=.type "tuple",data:=.seq #[.none,.none] }->h5=h4.push { cls:=.type "zip",data:=.fields #[.none,.bool false,.bool false,.ref h2.objs.size,.ref h3.objs.size] }->R (.ok (.ret (.ref h4.objs.size))) { s with heap:=h5 }):=
 .of_wp λprog w A R s h=>by
  obtain⟨hp,g,d,tk,os⟩:=s;obtain⟨IV,Nu,h⟩:=h;have KS:=sub_zip;have Uk:Heap.IsTuple (Shared.heap ⟨hp,g,d,tk,os⟩) l1 vs:=IV;have Xb:Heap.IsTuple (Shared.heap ⟨hp.push { cls:=.type "tuple_iterator",data:=.fields #[.ref l1,.int 0 0] },g,d,tk,os⟩) l2 us:=Heap.IsTuple.push Nu _;have h:=h _ _ _ _ _ _ rfl rfl rfl rfl rfl rfl
  wp_walk using adk Uk,adk Xb
  exact⟨_,rfl,h⟩
def yh{l1 l2:Addr}(g1:s.heap.IsTuple l1 vs)(g2:s.heap.IsTuple l2 us)(q:∀h',_4 h' (s.heap.objs.size+4) (s.heap.objs.size+2) (s.heap.objs.size+3) s.heap.objs.size (s.heap.objs.size+1) l1 l2 0 vs us .none->(∀c o,s.heap.get? c=some o->h'.get? c=some o)->Q (.ref (s.heap.objs.size+4)) { s with heap:=h' }):
 wpAny (model prog w) A (call (.type "zip") [.ref l1,.ref l2]) Q E s:=by
 refine callType_new F.called_zip (by decide) (F.typeCall_zip_2 _ _) (F.newCall_zip_2 _ _) (λobj=>F.args_object_init_3 obj _ _) F.entry_zip_new (yg l1 l2 vs us) ⟨g1,g2,λh0 h1 h2 h3 h4 h5 e0 e1 e2 e3 e4 e5=>?_⟩;have s1:h1.objs.size=h0.objs.size+1:=by rw[e1];exact abu ..
 have s2:h2.objs.size=h0.objs.size+2:=by rw[e2,abu,s1]
 have s3:h3.objs.size=h0.objs.size+3:=by rw[e3,abu,s2]
 have s4:h4.objs.size=h0.objs.size+4:=by rw[e4,abu,s3]
 have k1:∀c o,h0.get? c=some o->h1.get? c=some o:=λc o e=>by rw[e1];exact aag _ e
 have k2:∀c o,h1.get? c=some o->h2.get? c=some o:=λc o e=>by rw[e2];exact aag _ e
 have k3:∀c o,h2.get? c=some o->h3.get? c=some o:=λc o e=>by rw[e3];exact aag _ e
 have k4:∀c o,h3.get? c=some o->h4.get? c=some o:=λc o e=>by rw[e4];exact aag _ e
 have k5:∀c o,h4.get? c=some o->h5.get? c=some o:=λc o e=>by rw[e5];exact aag _ e
 have p5:h5.get? h4.objs.size=some { cls:=.type "zip",data:=.fields #[.none,.bool false,.bool false,.ref h2.objs.size,.ref h3.objs.size] }:=by rw[e5];exact aax _ rfl
 have p4:h5.get? h3.objs.size=some { cls:=.type "tuple",data:=.seq #[.none,.none] }:=k5 _ _ (by rw[e4];exact aax _ rfl);have p3:h5.get? h2.objs.size=some { cls:=.type "tuple",data:=.seq #[.ref h0.objs.size,.ref h1.objs.size] }:=k5 _ _ (k4 _ _ (by rw[e3];exact aax _ rfl));have p2:h5.get? h1.objs.size=some { cls:=.type "tuple_iterator",data:=.fields #[.ref l2,.int 0 0] }:=k5 _ _ (k4 _ _ (k3 _ _ (by rw[e2];exact aax _ rfl)));have p1:h5.get? h0.objs.size=some { cls:=.type "tuple_iterator",data:=.fields #[.ref l1,.int 0 0] }:=k5 _ _ (k4 _ _ (k3 _ _ (k2 _ _ (by rw[e1];exact aax _ rfl))));have kk:∀c o,h0.get? c=some o->h5.get? c=some o:=λc o e=>k5 _ _ (k4 _ _ (k3 _ _ (k2 _ _ (k1 _ _ e))));rw[s1]at p2 p3;rw[s2]at p3 p5;rw[s3]at p4 p5;rw[s4]at p5⊢;subst e0;exact⟨⟨_,p5,rfl⟩,q h5 ⟨p5,p3,⟨_,_,p4⟩,⟨_,p1,rfl,rfl⟩,⟨_,p2,rfl,rfl⟩,yu g1 λo e=>kk _ _ e,yu g2 λo e=>kk _ _ e⟩ kk⟩
def FN(xs ys:List V):Nat->List V->Prop:=λi vs=>∃x y,xs[i]?=some x/\ys[i]?=some y/\vs=[x,y]
variable{P:Program}{K:W.Frag}
theorem qH{w:World}{elts:List Expr}{m:Nat}{TI TO:Addr}{xs ys:List V}(D:ZAp z TI TO i1 i2 t1 t2)(hl:ys.length=xs.length):
 uC P w K (.Tuple elts m pos) (RU xs.length (λH=>k_ K H t1 xs/\k_ K H t2 ys) (FN xs ys)) [z,TI,TO,i1,i2] z (λi h=>IsZip h z TI TO .none/\IsPair h TI (.ref i1) (.ref i2)/\(∃a b,IsPair h TO a b)/\h.IsTupleIter i1 t1 i/\h.IsTupleIter i2 t2 i) where
 mem:=by simp
 obj:=λi h ⟨zz,ti,⟨a,b,to⟩,⟨o1,h1,c1,d1⟩,⟨o2,h2,c2,d2⟩⟩ c hc=>by
  simp only[aaf,abl,aaJ]at hc;rcases hc with rfl|rfl|rfl|rfl|rfl
  ·exact⟨_,zz,λv q=>by cases q⟩
  ·exact⟨_,ti,λv q=>by cases q⟩
  ·exact⟨_,to,λv q=>by cases q⟩
  ·exact⟨o1,h1,λv q=>by rw[d1]at q;cases q⟩
  ·exact⟨o2,h2,λv q=>by rw[d2]at q;cases q⟩
 keep:=λi h h' ⟨zz,ti,⟨a,b,to⟩,n1,n2⟩ k=>⟨k z (by simp) _ zz,k TI (by simp) _ ti,⟨a,b,k TO (by simp) _ to⟩,wj n1 λo e=>k i1 (by simp) o e,wj n2 λo e=>k i2 (by simp) o e⟩
 item:=by
  intro X hP hw hK hc i pins s σ H E I hf ht hg;obtain⟨hi,q1,q2⟩:=hg;subst hP hw hK;obtain⟨vs,r1,p1,_⟩:=I.tuple q1;obtain⟨us,r2,p2,_⟩:=I.tuple q2;obtain⟨x,hx⟩:=aN hi;obtain⟨y,hy⟩:=aN (show i<ys.length by rw[hl];exact hi);obtain⟨x',Tz,rx⟩:=r1.get hx;obtain⟨y',Oi,ry⟩:=r2.get hy;obtain⟨zz,ti,to,n1,n2⟩:=ht;refine lF (x:=x') (y:=y') D ⟨zz,ti,to,n1,n2,p1,p2⟩ (by simpa using Tz) (by simpa using Oi) λh1 S1 pr k1=>?_;refine⟨_,rfl,wpAny_letOwnedTupleGo_zip S1.zz λh2 z2 k2=>?_⟩;have lt:∀{c:Addr}{o:Obj},s.heap.get? c=some o->s.heap.objs.size≠c:=λe=>ach (aao e);have e2:∀c o,c∉[z,TO,i1,i2]->s.heap.get? c=some o->h2.get? c=some o:=λc o hc e=>by simp only[aaf,abl,aaJ,abV]at hc;exact k2.extBut _ _ hc.1 (k1 c o hc.1 hc.2.1 hc.2.2.1 hc.2.2.2 e)
  have tp:IsTup h2 s.heap.objs.size [x',y'].toArray:=⟨_,k2.extBut _ _ (lt zz) pr,rfl,_,rfl⟩
  refine⟨.ref s.heap.objs.size,upd H s.heap.objs.size (.tup [x,y]),I.Mf (wr:=[z,TO,i1,i2]) e2 (λb hb=>hf b ?_) (aam _) Z2 (.cons rx (.cons ry .nil)) tp (.inr λu q=>by rw[k2.extBut _ _ (lt zz) pr]at q;cases q;rfl),rfl,⟨_,_,rfl,I.h_.fresh (aam _),⟨x,y,hx,hy,rfl⟩,rfl⟩,?_,λb hb=>?_⟩
  ·simp only[aaf,abl,aaJ]at hb⊢;rcases hb with h|h|h|h
   ·exact .inl h
   ·exact .inr (.inr (.inl h))
   ·exact .inr (.inr (.inr (.inl h)))
   ·exact .inr (.inr (.inr (.inr h)))
  ·obtain⟨a,b,to1⟩:=S1.to;exact⟨z2,k2.extBut _ _ D.a1 S1.ti,⟨a,b,k2.extBut _ _ D.a2 to1⟩,wj S1.n1 λo e=>k2.extBut _ _ D.a3 e,wj S1.n2 λo e=>k2.extBut _ _ D.a4 e⟩
  ·obtain⟨a',b',to0⟩:=to;obtain⟨o1,ho1,_⟩:=n1;obtain⟨o2,QH,_⟩:=n2;have f:=(hf b hb).1;simp only[aaf,abl,aaJ]at hb;rw[aw]
   ·exact f
   ·rcases hb with rfl|rfl|rfl|rfl|rfl
    ·exact(lt zz).symm
    ·exact(lt ti).symm
    ·exact(lt to0).symm
    ·exact(lt ho1).symm
    ·exact(lt QH).symm
 done:=by
  intro X hP hw hK hc i pins s σ H E I hf ht hg;obtain⟨hi,q1,q2⟩:=hg;subst hP hw hK hi;obtain⟨vs,r1,p1,_⟩:=I.tuple q1;obtain⟨us,r2,p2,_⟩:=I.tuple q2;obtain⟨zz,ti,to,n1,n2⟩:=ht;have IV:=r1.length;refine om (I.ok.hd hc) D ⟨zz,ti,to,n1,n2,p1,p2⟩ (by simp;lia) λh1 k1=>⟨rfl,I.Mg (t':=s.toks) (wr:=[z,TO,i1,i2]) (λc o hc e=>?_) λb hb=>hf b ?_⟩
  ·simp only[aaf,abl,aaJ,abV]at hc;exact k1 c o hc.1 hc.2.1 hc.2.2.1 hc.2.2.2 e
  ·simp only[aaf,abl,aaJ]at hb⊢;rcases hb with h|h|h|h
   ·exact .inl h
   ·exact .inr (.inr (.inl h))
   ·exact .inr (.inr (.inr (.inl h)))
   ·exact .inr (.inr (.inr (.inr h)))
 self:=λ_ _ _ _ _ st h=>wpAny_pyIter_zip st.1 h
variable{a b:Expr}{ta:TA}{p:Pos}
section
variable{X:Cx}{elts:List Expr}{k:Nat}{Iz:Pos}
def Ga(K:W.Frag)(ta:TA):TI:=λσ H R=>ta σ H λvs H1=>∃a b xs ys,vs=[.ref a,.ref b]/\k_ K H1 a xs/\k_ K H1 b ys/\ys.length=xs.length/\R (RU xs.length (λH=>k_ K H a xs/\k_ K H b ys) (FN xs ys)) H1
theorem zi(hg:Gl X "zip")(hm:X.mg "zip" = none)(ha:PA X [a,b] ta)(hs:starEach [a,b] X.env=[(false,eval a X.env),(false,eval b X.env)]:=by rfl)(Jb:starEach [b] X.env=[(false,eval b X.env)]:=by rfl):
 PI X (.Tuple elts k Iz) (.Call (.Name "zip" p) [a,b] [] pos) (Ga X.K ta):=by
 intro pins s σ H R I h;refine Call_ (dG I hg hm boot_zip (aba (j9 (ha pos pins s σ H _ I h) λus s1 ⟨vs,H1,I1,r1,q1⟩=>?_) (by rw[hs,Jb]) (by rw[Jb];rfl)));obtain⟨a,b,xs,ys,e,h1,h2,hl,q⟩:=q1;subst e;cases r1 with
 |cons r rr=>
  cases rr with
  |cons r' rr=>
   cases rr;cases r;cases r';obtain⟨vs1,_,p1,_⟩:=I1.tuple h1;obtain⟨vs2,_,p2,_⟩:=I1.tuple h2;have la:a<s1.heap.objs.size:=let⟨_,e,_⟩:=p1;aao e
   have lb:b<s1.heap.objs.size:=let⟨_,e,_⟩:=p2;aao e
   refine yh (show s1.heap.IsTuple a vs1.toArray from p1) (show s1.heap.IsTuple b vs2.toArray from p2) λh' S kp=>wpAny_pyIter_zip S.zz ?_;have I2:Inv X pins σ H1 { s1 with heap:=h' }:=I1.kept (t':=s1.toks) kp;refine⟨s1.heap.objs.size+4,[s1.heap.objs.size+4,s1.heap.objs.size+2,s1.heap.objs.size+3,s1.heap.objs.size,s1.heap.objs.size+1],_,_,H1,rfl,I2,qH (t1:=a) (t2:=b) ⟨?_,?_,?_,?_,?_,?_,?_,?_,?_,?_,?_,?_,?_,?_,?_,?_,?_,?_⟩ hl,⟨S.zz,S.ti,S.to,S.n1,S.n2⟩,?fp,q⟩;case fp=>
    intro b hb;have Nv:s1.heap.objs.size<=b:=by
     simp only[aaf,abl,aaJ]at hb;rcases hb with rfl|rfl|rfl|rfl|rfl
     ·exact abI _ _
     ·exact abI _ _
     ·exact abI _ _
     ·exact aam _
     ·exact abI _ _
    exact I1.J3 Nv (I1.h_.fresh Nv)
   all_goals first
    |exact ndA (by lia)
    |exact aaY (aav la (abI _ _))
    |exact aaY (aav lb (abI _ _))
    |exact aaY la
    |exact aaY lb
def rG(hg:Gl X "zip")(hm:X.mg "zip" = none)(ha:QA X [a,b] ta)(hs:starEach [a,b] X.env=[(false,eval a X.env),(false,eval b X.env)]:=by rfl)(Jb:starEach [b] X.env=[(false,eval b X.env)]:=by rfl):
 QI X (.Tuple elts k Iz) (.Call (.Name "zip" p) [a,b] [] pos) (Ga X.K ta):=⟨zi hg hm ha.h hs Jb⟩
end
variable{items:Array Value}{l:Addr}
def qc{Q:List Value->Shared->Prop}(hh:A.handled=none)(hi:s.heap.IsRevIter it l ((items.size:Int)-1))(hl:s.heap.IsList l items)(nl:l≠it)(hn:items.size<=sizeLine)(hQ:∀(h':Heap) tk acc,s.heap.objs.size<=h'.objs.size->(∀b o,b≠it->s.heap.get? b=some o->h'.get? b=some o)->ItemsOf (λi v=>items[items.size-1-i]?=some v) acc items.size->Q acc.toList { s with heap:=h',toks:=tk }):
 wpAny (model prog w) A (collect (.ref it)) Q E s:=by
 have li:it<s.heap.objs.size:=let⟨_,e,_⟩:=hi;aao e
 have ll:l<s.heap.objs.size:=let⟨_,e,_⟩:=hl;aao e
 have nS:s.heap.objs.size≠it:=ach li;have nSl:s.heap.objs.size≠l:=ach ll;have W:=(Walks.listRev (prog:=prog) (w:=w) (A:=A.in1) hh it l nl items).toS;unfold collect;refine aae (wpAny_runValue (acV F.entry_proto_collect ?_));rw[ac6 F.plain_proto_collect _];show wpAny _ A.in1 (newList [] >>= λl=>again (.builtin "list.__iadd__" ⟨[l,.ref it],[]⟩)) _ _ s;refine aae (ab8 (aaR ⟨adi F.plain_list_iadd _,acV F.entry_list_iadd ?_⟩));rw[ac6 F.plain_list_iadd _];have hS:(s.heap.push { cls:=.type "list",data:=.seq ([]:List Value).toArray }).get? s.heap.objs.size=some { cls:=.type "list",data:=.seq ([]:List Value).toArray }:=aax _ rfl;have TZ:(s.heap.push { cls:=.type "list",data:=.seq ([]:List Value).toArray }).IsRevIter it l ((items.size:Int)-1):=hi.at λo e=>aag _ e;have IV:(s.heap.push { cls:=.type "list",data:=.seq ([]:List Value).toArray }).IsList l items:=hl.at λo e=>aag _ e;show wpAny _ A.in1 (Builtin.List.listExtendWith (.ref s.heap.objs.size) (.ref it) (.ref s.heap.objs.size)) _ _ _;unfold Builtin.List.listExtendWith;have _h:Shared.TypeIs { s with heap:=s.heap.push { cls:=.type "list",data:=.seq ([]:List Value).toArray } } (.ref it) "list_reverseiterator":=Heap.IsRevIter.typeIs (s:={ s with heap:=s.heap.push { cls:=.type "list",data:=.seq ([]:List Value).toArray } }) TZ;refine aae (wpAny_typeOf _h ?_);have same:Builtin.List.listSameRef (.ref s.heap.objs.size) (.ref it)=false:=by simp[Builtin.List.listSameRef,nS]
 rw[aaK (by rw[same];decide)];refine aae (wpAny_pyIter_revIter TZ (aae (wpAny_holding ?_)));unfold Builtin.List.listLengthHint;refine aae (acU _h kG (show wpAny _ A.in1 (specialOf (Value.ref it) (Str.ofString "__length_hint__") >>= _) _ _ _ from aae (acU _h nB ?_)));generalize TY:("list_reverseiterator.__length_hint__" : String)=id0
 wp_delta
 rw[show splitId id0=some ("list_reverseiterator", "__length_hint__")from by subst TY;decide +kernel];subst TY;refine aae (adA (b:=true) _h (by rw[isSubtype_type];kernel_rfl) (aaR ?_));rw[aaK (by decide)];refine aaR ⟨adi F.plain_extend_loop _,codeAny_extend_loopS W hn s.heap.objs.size (by simp[nS,nSl]) _ items.size 0 _ #[] _ rfl (aa8 _) ⟨aa8 _,by simpa using TZ,IV⟩ hS (ItemsOf.nil _) λs' acc c' hm Jl ha=>?_⟩;show wpAny _ A (load s.heap.objs.size >>= _) _ _ s';refine aae (wpAny_load Jl ?_);have e':=Moved.eq_with hm;have lt:=aao Jl;have hmh:=hm.heap;generalize s'.heap=h' at e' lt hmh;generalize s'.toks=tk' at e';subst e';refine aaR (hQ h' tk' acc (ac7 lt) (λb o hb e=>hmh b o (λz=>?_) (aag _ e)) ha);rcases List.mem_cons.mp z with z|z
 ·rw[z]at e;exact absurd (aao e) (abd _)
 ·exact hb (List.mem_singleton.mp z)
def Dp{Q₁:Value->Shared->Prop}(hh:A.handled=none)(hi:s.heap.IsRevIter it l ((items.size:Int)-1))(hl:s.heap.IsList l items)(nl:l≠it)(hn:items.size<=sizeLine)(h:∀(h':Heap) tk acc,s.heap.objs.size<=h'.objs.size->(∀b o,b≠it->s.heap.get? b=some o->h'.get? b=some o)->ItemsOf (λi v=>items[items.size-1-i]?=some v) acc items.size->Q₁ (.ref h'.objs.size) { s with heap:=h'.push { cls:=.type "tuple",data:=.seq acc },toks:=tk }):
 codeAny (model prog w) A (.call (.builtin "tuple.__new__") ⟨[.type "tuple",.ref it],[]⟩) (wants Q₁ E) s:=by
 refine codeAny_of_tree ?_;show wpAny _ A.in1 (do checkBuiltinCall "tuple.__new__" ⟨[.type "tuple",.ref it],[]⟩;again (.builtin "tuple.__new__" ⟨[.type "tuple",.ref it],[]⟩)) _ _ s;refine aae (wpAny_of_eq (F.newCall_tuple_1 _) (aaR ⟨adi F.plain_tuple_new _,acV F.entry_tuple_new ?_⟩));rw[ac6 F.plain_tuple_new _];have KS:=sub_tuple_self;have hinit:=init_tuple_lookup;have hmh:=madeHere_tuple;have hTI:=hi.typeIs
 wp_walk using wpAny_typeOf hTI,qc (A:=A.in1) hh hi hl nl hn
 intro h' tk acc hz hm QM;show wpAny _ _ (Builtin.Tuple.tupleExact acc.toList.toArray >>= λv=>ret v) _ _ _;unfold Builtin.Tuple.tupleExact;refine aae (ab8 ?_ (by show acc.toList.toArray.size<=sizeLine;simp only[Array.toArray_toList];rw[QM.1];exact hn));refine aaR ?_;have e:acc.toList.toArray=acc:=by simp
 rw[e];exact h h' tk acc hz hm QM
def Ai(hh:A.handled=none)(hi:s.heap.IsRevIter it l ((items.size:Int)-1))(hl:s.heap.IsList l items)(nl:l≠it)(hn:items.size<=sizeLine)(h:∀(h':Heap) tk acc,s.heap.objs.size<=h'.objs.size->(∀b o,b≠it->s.heap.get? b=some o->h'.get? b=some o)->ItemsOf (λi v=>items[items.size-1-i]?=some v) acc items.size->Q (.ref h'.objs.size) { s with heap:=h'.push { cls:=.type "tuple",data:=.seq acc },toks:=tk }):
 wpAny (model prog w) A (call (.type "tuple") [.ref it]) Q E s:=by
 refine callType_codes (Q₁:=λobj i7=>i7.TypeIs obj "tuple"/\Q obj i7) F.called_tuple (F.typeCall_tuple_1 _) F.entry_object_init
  (Dp (A:=A.in1) hh hi hl nl hn λh' tk acc hz hm QM=>⟨⟨_,aax _ rfl,rfl⟩,h h' tk acc hz hm QM⟩) λobj i7 Oh=>?_
 exact⟨Oh.1,F.args_object_init_2 obj _,object_init_meets F.called_tuple.init.lookup F.called_tuple.made (by decide) prog w A.in1 _ i7 ⟨Oh.1,rfl,Oh.2⟩⟩
section
variable{X:Cx}{e:Expr}{te:TE}{p1 p2 q1 q2:Pos}
def xp(K:W.Frag)(te:TE):TE:=λσ H Q=>te σ H λx H1=>∃l ys,x=.ref l/\c_ K H1 l ys/\∀r,H1 r=none->Q (.ref r) (upd H1 r (.tup ys.reverse))
theorem pU(hc:X.calm=true)(g1:Gl X "tuple")(m1:X.mg "tuple" = none)(g2:Gl X "reversed")(m2:X.mg "reversed" = none)(he:PE X e te)(Jb:starEach [e] X.env=[(false,eval e X.env)]:=by rfl)(QC:starEach [.Call (.Name "reversed" p2) [e] [] q2] X.env=[(false,eval (.Call (.Name "reversed" p2) [e] [] q2) X.env)]:=by rfl):
 PE X (.Call (.Name "tuple" p1) [.Call (.Name "reversed" p2) [e] [] q2] [] q1) (xp X.K te):=by
 intro pins s σ H Q I h;refine Call_ (dG I g1 m1 aaP (aba ?_ QC rfl));rw[QC];show wpAny _ _ (spliced ((false,eval (.Call (.Name "reversed" p2) [e] [] q2) X.env)::backTo q1 [])) _ _ s;refine abv (Call_ (dG I g2 m2 boot_reversed (aba ?_ Jb rfl)));rw[Jb];show wpAny _ _ (spliced ((false,eval e X.env)::backTo q2 [])) _ _ s;refine abv (j9 (he pins s σ H _ I h) λu s1 ⟨x,H1,I1,r1,l,ys,ex,hq,k⟩=>?_);subst ex;cases r1;refine abL ?_;obtain⟨vs,rv,pl,hz⟩:=I1.list hq;have hl:=pl.isList;have hlen:=rv.length;have ll:l<s1.heap.objs.size:=let⟨_,e,_⟩:=hl;aao e
 have nl:l≠s1.heap.objs.size:=aaY ll;have Tu:vs.toArray.size<=sizeLine:=by rw[aaA];lia
 refine call_reversed_list hl (abL ?_);refine Ai (items:=vs.toArray) (I1.ok.hd hc) ⟨_,aax _ rfl,rfl,rfl⟩ (hl.at λo e=>aag _ e) nl Tu (λh' tk acc hzz hk ha=>?_);have e:=kr ha;have sz:(s1.heap.push (revObj l ((vs.toArray.size:Int)-1))).objs.size=s1.heap.objs.size+1:=abu ..;rw[sz]at hzz;have fr:H1 h'.objs.size=none:=I1.h_.fresh (by lia);refine⟨.ref h'.objs.size,_,I1.laid (t':=tk) (λb u eb=>aag _ (hk b u (aaY (aao eb)) (aag _ eb))) (by lia) (show j5 X.prog X.w _ _ _ (.tup ys.reverse)from⟨⟨by rw[abN];lia,Nh.new _ _ rfl⟩,vs.reverse,rv.reverse,?_⟩),rfl,k _ fr⟩;rw[<-e];have e2:acc.toList.toArray=acc:=by simp
 rw[e2];exact IsTup.new _ _
def pS(hc:X.calm=true)(g1:Gl X "tuple")(m1:X.mg "tuple" = none)(g2:Gl X "reversed")(m2:X.mg "reversed" = none)(he:QE X e te)(Jb:starEach [e] X.env=[(false,eval e X.env)]:=by rfl)(QC:starEach [.Call (.Name "reversed" p2) [e] [] q2] X.env=[(false,eval (.Call (.Name "reversed" p2) [e] [] q2) X.env)]:=by rfl):
 QE X (.Call (.Name "tuple" p1) [.Call (.Name "reversed" p2) [e] [] q2] [] q1) (xp X.K te):=⟨pU hc g1 m1 g2 m2 he.h Jb QC⟩
end
variable{env Jm:Env}
def kF{e:Value}(h:env.frame=Jm.frame):noteFrame e env=noteFrame e Jm:=by unfold noteFrame PySem.frameOf;rw[h]
theorem kO{h h' base:Heap}:∀{l:List Env},h.FunFrames base l->(∀b∈u_ l,h'.get? b=h.get? b)->h'.FunFrames base l
 |[],_,_=>trivial
 |env::rest,x,k=>by obtain⟨x1,⟨L,o,x2,x3,x4,x5⟩,x6⟩:=x;exact⟨x1,⟨L,o,x2,x3,(k L (by rw[bL x2];exact aap)).trans x4,x5⟩,kO x6 λb hb=>k b (by rw[bL x2];exact aah _ hb)⟩
def ye(B:Heap)(l:List Env)(e:Addr)(cls a0 fl:Value)(h:Heap):Prop:=B.StaysIn h/\B.get? e=none/\h.FunFrames B l/\h.TracedAtW B e cls a0 fl
variable{cls a0 fl:Value}{B:Heap}{M:Model}{e L:Addr}
def iE{A:Around}{E:Value->Shared->Prop}{s:Shared}{l:List Env}{Q:Unit->Shared->Prop}(R:ye B l e cls a0 fl s.heap)(q:∀h',ye B l e cls a0 (rawInt L) h'->s.heap.UpToSlots h'->Q () { s with heap:=h' }):wpAny M A (setFlight (.ref e) (some L)) Q E s:=by
 obtain⟨r1,r2,r3,oe,vs,T,oT,ts,he,Nc,hd,h1,nT,ne,hT,dT,h3⟩:=R;have z3:3<ts.size:=(Array.getElem?_eq_some_iff.mp h3).1;have Qs:∀b,b≠T->(s.heap.update T (Obj.mapFields (·.setIfInBounds 3 (rawInt L)))).get? b=s.heap.get? b:=λb hb=>abD _ _ (abw hb);have N7:∀b o,s.heap.get? b=some o->(∀vs,o.data≠.fields vs)->b≠T:=λb o hb hn z=>by rw[z,hT]at hb;cases hb;exact hn ts dT
 unfold setFlight;refine aae (abo he hd h1 ?_);rw[aaX (by simp)];refine ac3 hT dT z3 (q _ ⟨λb o x=>(Qs b λz=>by rw[z,nT]at x;cases x).trans (r1 b o x),r2,r3.of_keeps λb o hb hn=>⟨o,(Qs b (N7 b o hb hn)).trans hb,rfl⟩,?_⟩ λb o hb hn=>⟨o.slots,(Qs b (N7 b o hb hn)).trans hb⟩);exact⟨oe,vs,T,_,_,(Qs e (abw ne)).trans he,Nc,hd,h1,nT,ne,acd _ hT (Obj.isFreed_of_fields (acu dT _)),acu dT _,by simp[z3]⟩
structure XB(X:Cx)(C:Addr)(cls:Value)(a:Addr)(H':Hp)(B:Heap)(a0 fl:Value)(s':Shared):Prop where
 os:s'.os=X.s₀.os
 bare:AllBare s'.gens
 un:Un X.fs [] X.H₀ H' X.s₀.heap s'.heap
 h_:G8 X.prog X.w H' s'.heap
 new:X.s₀.heap.get? a=none
 free:H' a=none
 _m:∀b∈u_ (X.env::X.outer),H' b=none
 U':C∉u_ (X.env::X.outer)
 c0:X.s₀.heap.get? C=none
 cH:H' C=none
 cB:B.get? C=none
 GV:ye B (X.env::X.outer) a cls a0 fl s'.heap
 big:∀b o,s'.heap.get? b=some o->b∉u_ (X.env::X.outer)->(H' b≠none\/∃o',X.s₀.heap.get? b=some o')->B.get? b=some o
variable{m:Str->Option Value}
section
variable{X:Cx}{C a:Addr}{cls a0 fl fl':Value}{H':Hp}{B h':Heap}{s':Shared}
theorem XB.there(x:XB X C cls a H' B a0 fl s'){b:Addr}(hb:H' b≠none\/∃o',X.s₀.heap.get? b=some o'):∃ob,s'.heap.get? b=some ob:=by
 rcases hb with hb|⟨o',hb⟩
 ·cases q:H' b with
  |none=>exact absurd q hb
  |some u=>exact(x.h_ b u q).there
 ·exact x.un.there b o' hb (by simp)
def XB.turn(x:XB X C cls a H' B a0 fl s')(hf:X.env.frame=some X.env.locals)(ab:X.s₀.heap.objs.size<=X.env.locals)(f2:ye B (X.env::X.outer) a cls a0 fl' h')(up:s'.heap.UpToSlots h'):XB X C cls a H' B a0 fl' { s' with heap:=h' }:=by
 have nL:∀o,X.s₀.heap.get? X.env.locals≠some o:=λo z=>absurd (aav (aao z) ab) (abd _);have slots:∀b o,s'.heap.get? b=some o->b∈u_ (X.env::X.outer)->∃sl,h'.get? b=some { o with slots:=sl }:=λb o e hb=>by obtain⟨_,o',e',nf⟩:=x.GV.2.2.1.mem hb;rw[e]at e';cases e';exact up b o e nf
 have Nb:∀b∈u_ (X.env::X.outer),b∈X.fs\/∀o,X.s₀.heap.get? b≠some o:=λb hb=>by
  rw[bL hf]at hb;rcases List.mem_cons.mp hb with rfl|hb
  ·exact .inr nL
  ·exact .inl hb
 have KS:∀b∈X.fs,b∈u_ (X.env::X.outer):=λb hb=>by rw[bL hf];exact aah _ hb
 refine⟨x.os,x.bare,x.un.GV Nb f2.1 x.big slots KS,x.h_.GV x._m f2.1 (λb o e n hb=>x.big b o e n (.inl hb)),x.new,x.free,x._m,x.U',x.c0,x.cH,x.cB,f2,λb o e n hb=>?_⟩;obtain⟨ob,e1⟩:=x.there hb;have e2:=x.big b ob e1 n hb;have e3:=f2.1 b ob e2;rw[e]at e3;cases e3;exact e2
def XB.cut(x:XB X C cls a H' B a0 fl s')(hn:s'.heap.Ns C m)(sb:Heap.SameBut C s'.heap h'):XB X C cls a H' B a0 fl { s' with heap:=h' }:=by
 obtain⟨oC,es,ep,TK,dC,_⟩:=hn;have k:∀b,b≠C->h'.get? b=s'.heap.get? b:=λb hb=>sb.2 b hb;have c0:∀b o,X.s₀.heap.get? b=some o->b≠C:=λb o e z=>by rw[z,x.c0]at e;cases e
 refine⟨x.os,x.bare,⟨λb o q n hb hx=>(k b (c0 b o q)).trans (x.un.keep b o q n hb hx),λb o q n hb hx=>?_,x.un.free,λb o q hx=>?_,x.un.E8,x.un.C_,x.un.E9⟩,λb ob e=>?_,x.new,x.free,x._m,x.U',x.c0,x.cH,x.cB,?_,λb o e n hb=>?_⟩
 ·obtain⟨sl,e⟩:=x.un.slot b o q n hb hx;exact⟨sl,(k b (c0 b o q)).trans e⟩
 ·obtain⟨o',e⟩:=x.un.there b o q hx;exact⟨o',(k b (c0 b o q)).trans e⟩
 ·refine(x.h_ b ob e).GR (λc w' Ug q'=>(k c ?_).trans q') (λ_ q'=>q') λ_ _ q'=>q';rintro rfl;rcases Ug with rfl|Ug
  ·rw[x.cH]at e;cases e
  ·rw[x.cH]at Ug;cases Ug
 ·obtain⟨f1,f2,f3,oe,vs,T,oT,ts,he,Nc,hd,h1,nT,ne,hT,dT,h3⟩:=x.GV;have N9:a≠C:=λz=>by rw[z,TK]at he;cases he;rw[dC]at hd;cases hd
  have nTC:T≠C:=λz=>by rw[z,TK]at hT;cases hT;rw[dC]at dT;cases dT
  exact⟨λb o e=>(k b λz=>by rw[z,x.cB]at e;cases e).trans (f1 b o e),f2,kO f3 λb hb=>k b λz=>x.U' (z▸hb),oe,vs,T,oT,ts,(k a N9).trans he,Nc,hd,h1,nT,ne,(k T nTC).trans hT,dT,h3⟩
 ·have nb:b≠C:=λz=>by
   rcases hb with hb|⟨o',hb⟩
   ·exact hb (z▸x.cH)
   ·exact c0 b o' hb z
  exact x.big b o ((k b nb).symm.trans e) n hb
end
variable{C:Addr}{s':Shared}{sc:Scope}{H':Hp}{X:Cx}
section
variable{P:Program}{w:World}{K:W.Frag}{mg:Str->Option Value}{base:Heap}{N:List Str}{qual:Str}{scope:Scope}{f:Addr}{cd:Value}{A:Around}{outer:List Env}{s₀:Shared}{H₀:Hp}{E:XK}
abbrev HR(P:Program)(w:World)(K:W.Frag)(mg:Str->Option Value)(base:Heap)(N:List Str)(qual:Str)(scope:Scope)(f:Addr)(cd:Value)(A:Around)(outer:List Env)(s₀:Shared)(H₀:Hp)(E:XK):Cx:=cq (Hu P w) P w K mg base N qual scope f cd A outer s₀ H₀ E
noncomputable def Cx.GX(X:Cx)(E:XK)(sc:Scope)(cl:List (Str×Addr))(C:Addr)(N:List Str)(s:Shared)(H:Hp)(fp:List Addr):Cx:=
 { X.comp sc cl C N s H fp with xe:=λe s'=>∃a cls H' B a0 m,e=.ref a/\XB X C cls a H' B a0 .none s'/\s'.heap.Ns C m/\E cls none H' }
structure UG(X:Cx)(C:Addr)(s:Shared)(H:Hp)(fp:List Addr):Prop where
 inv:∃pins σ,Inv X pins σ H s/\∀b∈fp,mz X pins H b
 c:s.heap.objs.size<=C
 st:X.stack=X.env::X.outer
 fr:X.env.frame=some X.env.locals
 ex:X.ex=[]
theorem jt{cl:List (Str×Addr)}{N':List Str}{s:Shared}{H:Hp}{fp:List Addr}(b:UG X C s H fp):cY (Hu X.prog X.w) (X.GX E sc cl C N' s H fp) E:=λpins σ H1 s1 e s' I h=>by
 obtain⟨a,cls,H',rfl,x,q⟩:=h;obtain⟨⟨VD,σ0,I2,f2⟩,hC,hs,hf,hex⟩:=b;have bs:Un (u_ X.stack) fp H H1 s.heap s1.heap:=I.base;have I5:Inv X VD σ0 H1 s1:=I2.Pq (s':=s1) (ch:=fp) I.os bs I.h_ I.bare (λb hb=>⟨(f2 b hb).2.2.2.1,(f2 b hb).2.1,(f2 b hb).2.2.2.2.1,(f2 b hb).2.2.2.2.2⟩);have x':XO X.prog X.w X.stack H1 s1 cls a H' s':=x;rw[hs]at x';obtain⟨B,a0,GV,big⟩:=x'.GV;have ub:Un X.fs [] X.H₀ H1 X.s₀.heap s1.heap:=by have:=I5.base;rw[hex]at this;exact this
 have nL:∀o,X.s₀.heap.get? X.env.locals≠some o:=λo z=>absurd (aav (aao z) I2.ok.above) (abd _);have HZ:∀b∈u_ (X.env::X.outer),H1 b=none:=by rw[<-hs];exact I5.G6
 have U8:s1.heap.FunFrames X.base (X.env::X.outer):=by rw[<-hs];exact I5.stack
 have KS:∀b∈X.fs,b∈u_ (X.env::X.outer):=λb hb=>by rw[bL hf];exact aah _ hb
 have ut:Un X.fs [] X.H₀ H' X.s₀.heap s'.heap:=by
  have N8:∀b o,X.s₀.heap.get? b=some o->b∉X.fs->b∉u_ (X.env::X.outer):=λb o q hb z=>by
   rw[bL hf]at z;rcases List.mem_cons.mp z with rfl|z
   ·exact nL o q
   ·exact hb z
  refine⟨λb o q n hb hx=>x'.un.keep b o (ub.keep b o q n hb hx) (ub.free b o q n hx) (N8 b o q hb) (by simp),λb o q n hb hx=>?_,λb o q n hx=>?_,λb o q hx=>?_,λb xs q=>x'.un.E8 b xs (ub.E8 b xs q),λb o u q=>x'.un.C_ b o u (ub.C_ b o u q),λb ps q=>?_⟩
  ·obtain⟨sl,e⟩:=ub.slot b o q n hb hx;obtain⟨SG,e'⟩:=x'.un.slot b _ e (ub.free b o q n hx) (KS b hb) (by simp);exact⟨SG,e'⟩
  ·obtain⟨o',e⟩:=ub.there b o q hx;exact x'.un.free b o' e (ub.free b o q n hx) (by simp)
  ·obtain⟨o',e⟩:=ub.there b o q hx;exact x'.un.there b o' e (by simp)
  ·obtain⟨m1,e1⟩:=ub.E9 b ps q;obtain⟨m2,e2⟩:=x'.un.E9 b _ e1;exact⟨m1++m2,by rw[e2,ac2]⟩
 have HN:∀b∈u_ (X.env::X.outer),H' b=none:=λb hb=>by obtain⟨_,o,e,_⟩:=U8.mem hb;exact x'.un.free b o e (HZ b hb) (by simp)
 obtain⟨m,hn,_⟩:=id I.loc;have hn:s1.heap.Ns C m:=hn;obtain⟨oC,es,ep,TK,dC,rC⟩:=id hn;have U':C∉u_ (X.env::X.outer):=λz=>by rw[<-hs]at z;obtain⟨_,o,e,_⟩:=(show s.heap.FunFrames X.base X.stack from I2.stack).mem z;exact absurd (aav (aao e) hC) (abd _)
 have c0:X.s₀.heap.get? C=none:=by
  cases q:X.s₀.heap.get? C with
  |none=>rfl
  |some o=>exact absurd (aav (aao q) (abb I2.sz hC)) (abd _)
 have hCH:H1 C=none:=I.free;have cH:H' C=none:=x'.un.free C oC TK hCH (by simp);have hoC':s'.heap.get? C=some oC:=x'.un.keep C oC TK hCH U' (by simp);have stays:(PySem.W.hideAll B [C]).StaysIn B:=λb o e=>acZ _ e;have TY:(PySem.W.hideAll B [C]).get? C=none:=by
  cases q:(PySem.W.hideAll B [C]).get? C with
  |none=>rfl
  |some o=>exact absurd q (by show(B.hide C).get? C≠some o;rw[Heap.hide_self];exactλz=>nomatch z)
 refine⟨a,cls,H',PySem.W.hideAll B [C],a0,m,rfl,⟨x'.os.trans I5.os,x'.bare,ut,x'.h_,?_,x'.free,HN,U',c0,cH,TY,PySem.W.flyingW_base stays GV,λb o e n hb=>?_⟩,⟨oC,es,ep,hoC',dC,rC⟩,q⟩
 ·cases q:X.s₀.heap.get? a with
  |none=>rfl
  |some o=>
   obtain⟨o',e⟩:=ub.there a o q (by simp);have:=x'.new;rw[e]at this;cases this
 ·have nb:b∉[C]:=λz=>by
   rw[List.mem_singleton.mp z]at hb;rcases hb with hb|⟨o',hb⟩
   ·exact hb cH
   ·rw[c0]at hb;cases hb
  refine acR _ (big b o ?_ n e) nb;rcases hb with hb|⟨o',hb⟩
  ·exact .inl hb
  ·exact .inr (ub.there b o' hb (by simp))
def jB{A:Around}{E:Value->Shared->Prop}{s:Shared}{outer:List Env}{Q:Unit->Shared->Prop}(H_:A.frames=some (env::outer))(hf:env.frame=some L)(R:ye B (env::outer) e cls a0 fl s.heap)(Ry:fl≠rawInt L)(q:∀h',ye B (env::outer) e cls a0 (rawInt L) h'->s.heap.UpToSlots h'->Q () { s with heap:=h' }):wpAny M A (noteFrame (.ref e) env) Q E s:=by
 obtain⟨r1,r2,r3,oe,vs,T,oT,ts,he,⟨Nc,h0⟩,hd,h1,nT,ne,hT,dT,h3⟩:=R;subst Nc;have Qs:∀b,b≠T->(s.heap.update T (Obj.mapFields (·.setIfInBounds 3 Value.none))).get? b=s.heap.get? b:=λb hb=>abD _ _ (abw hb);have N7:∀b o,s.heap.get? b=some o->(∀vs,o.data≠.fields vs)->b≠T:=λb o hb hn z=>by rw[z,hT]at hb;cases hb;exact hn ts dT
 unfold noteFrame;simp only[hf];refine aae (abo he hd h1 ?_);rw[aaX (by simp)];refine aae (abo hT dT h3 ?_);rw[aaK (by simpa using Ry)];refine aae (ac3 hT dT (Array.getElem?_eq_some_iff.mp h3).1 ?_);refine wpAny_entryW H_ (r3.of_keeps λb o hb hn=>⟨o,(Qs b (N7 b o hb hn)).trans hb,rfl⟩) hf ((Qs e (abw ne)).trans he) (λb o x=>(Qs b λz=>by rw[z,nT]at x;cases x).trans (r1 b o x)) r2 hd (Array.getElem?_eq_some_iff.mp h1).1 h0 λh' y=>?_;obtain⟨x1,x2,x3,x4⟩:=y;exact q h' ⟨x1,r2,x2,x3⟩ λb o hb hn=>x4 b o ((Qs b (N7 b o hb hn)).trans hb) hn
def sO{a:Addr}(ab:s₀.heap.objs.size<=(HR P w K mg base N qual scope f cd A outer s₀ H₀ E).env.locals)(H_:(HR P w K mg base N qual scope f cd A outer s₀ H₀ E).A.frames=some ((HR P w K mg base N qual scope f cd A outer s₀ H₀ E).env::outer))(x:XB (HR P w K mg base N qual scope f cd A outer s₀ H₀ E) C cls a H' B a0 fl s')(q:E cls none H'):(HR P w K mg base N qual scope f cd A outer s₀ H₀ E).xe (.ref a) s':=by
 have nL:∀o,s₀.heap.get? (HR P w K mg base N qual scope f cd A outer s₀ H₀ E).env.locals≠some o:=λo z=>absurd (aav (aao z) ab) (abd _);have fin:∀h',ye B ((HR P w K mg base N qual scope f cd A outer s₀ H₀ E).env::outer) a cls a0 (rawInt (HR P w K mg base N qual scope f cd A outer s₀ H₀ E).env.locals) h'->s'.heap.UpToSlots h' ->
  wpAny (model P w) (HR P w K mg base N qual scope f cd A outer s₀ H₀ E).A (setFlight (.ref a) none) (λ_ He=>Hu P w outer H₀ s₀ E (.ref a) He) (λe' He=>Hu P w outer H₀ s₀ E e' He) { s' with heap:=h' }:=λh1 f1 u1=>by
  refine wpAny_landsW (s:={ s' with heap:=h1 }) f1 λh2 f2 u2=>?_;have y:=(x.turn rfl ab f1 u1).turn rfl ab (fl':=.none) f2 u2;obtain⟨k1,k2,⟨_,_,k3⟩,k4⟩:=f2;refine⟨a,cls,H',rfl,⟨y.os,y.bare,y.un,y.h_,y.new,y.free,B,a0,⟨k1,k2,k3,k4⟩,λb o hb hn e=>y.big b o e (λz=>?_) hb⟩,q⟩;rw[bL (L:=(HR P w K mg base N qual scope f cd A outer s₀ H₀ E).env.locals) rfl]at z;rcases List.mem_cons.mp z with rfl|z
  ·rcases hb with hb|⟨o',hb⟩
   ·exact hb (y._m _ (by rw[bL (L:=(HR P w K mg base N qual scope f cd A outer s₀ H₀ E).env.locals) rfl];exact aap))
   ·exact nL o' hb
  ·exact hn z
 show wpAny (model P w) (HR P w K mg base N qual scope f cd A outer s₀ H₀ E).A (leaving (HR P w K mg base N qual scope f cd A outer s₀ H₀ E).env (.ref a)) _ _ s';unfold leaving;by_cases e:fl=rawInt (HR P w K mg base N qual scope f cd A outer s₀ H₀ E).env.locals
 ·subst e;exact aae (wpAny_noteFrame_againW rfl x.GV.2.2.2 (fin _ x.GV (Heap.UpToSlots.refl _)))
 ·exact aae (jB H_ rfl x.GV e fin)
theorem AW{a:Addr}{acc:Value}(ab:s₀.heap.objs.size<=(HR P w K mg base N qual scope f cd A outer s₀ H₀ E).env.locals)(H_:(HR P w K mg base N qual scope f cd A outer s₀ H₀ E).A.frames=some ((HR P w K mg base N qual scope f cd A outer s₀ H₀ E).env::outer))(U0:Jm.frame=(HR P w K mg base N qual scope f cd A outer s₀ H₀ E).env.frame)(x:XB (HR P w K mg base N qual scope f cd A outer s₀ H₀ E) C cls a H' B a0 .none s')(hn:s'.heap.Ns C m)(q:E cls none H'){R:Result->Shared->Prop}(hR:∀He,compPost (model P w) (HR P w K mg base N qual scope f cd A outer s₀ H₀ E).A (HR P w K mg base N qual scope f cd A outer s₀ H₀ E).xe none Q acc C (.error (.ref a)) He->R (.error (.ref a)) He):
 notedBy (model P w) (HR P w K mg base N qual scope f cd A outer s₀ H₀ E).A Jm (λe He=>R (.error e) He) (.ref a) s':=by
 show wpAny _ _ (noteFrame (.ref a) Jm) (λ_ He=>R (.error (.ref a)) He) _ s';rw[kF U0];refine wpAny_looks_onW H_ rfl x.GV λh1 f1 u1=>hR _ ?_;have x1:=x.turn rfl ab f1 u1;refine⟨m,u1.ns hn,λh2 sb Xx _=>?_⟩;have x2:=x1.cut (u1.ns hn) sb;obtain⟨_,_,_,oe,vs,T,oT,ts,he,_,hd,h1',_⟩:=id x2.GV;unfold PySem.passOn;refine aae (abo he hd h1' ?_);rw[aaK (by simp)];have fin:∀fl',∀h3,ye B ((HR P w K mg base N qual scope f cd A outer s₀ H₀ E).env::outer) a cls a0 fl' h3->Heap.UpToSlots h2 h3->(HR P w K mg base N qual scope f cd A outer s₀ H₀ E).xe (.ref a) { s' with heap:=h3 }:=λfl' h3 f3 u3=>sO ab H_ (x2.turn rfl ab f3 u3) q;have go:wpAny (model P w) (HR P w K mg base N qual scope f cd A outer s₀ H₀ E).A (setFlight (.ref a) Xx.frame >>= λ_=>(throw (.ref a):Sem Value)) (λ_ _=>False) (HR P w K mg base N qual scope f cd A outer s₀ H₀ E).xe { s' with heap:=h2 }:=by
  cases Xx.frame with
  |none=>exact aae (wpAny_setFlight_noneW (s:={ s' with heap:=h2 }) x2.GV.1 x2.GV.2.2.1 x2.GV.2.2.2 λh3 k1 k2 k3 k4=>wpAny_throw (fin .none h3 ⟨k1,x2.GV.2.1,k2,k3⟩ λb o hb hn=>⟨o.slots,k4 b o hb hn⟩))
  |some L'=>exact aae (iE (s:={ s' with heap:=h2 }) (L:=L') x2.GV λh3 f3 u3=>wpAny_throw (fin _ h3 f3 u3))
 first
  |exact go
  |exact aae (aaR go)
end
def Eh(X:Cx)(E:XK):Prop:=X.Ok->∀(C a:Addr)(cls:Value)(H':Hp)(B:Heap)(a0:Value)(m:Str->Option Value)(s':Shared)(Q:Value->Shared->Prop)(acc:Value)(Jm:Env)(R:Result->Shared->Prop),Jm.frame=X.env.frame->XB X C cls a H' B a0 .none s'->s'.heap.Ns C m->E cls none H' ->
 (∀He,compPost (model X.prog X.w) X.A X.xe none Q acc C (.error (.ref a)) He->R (.error (.ref a)) He)->notedBy (model X.prog X.w) X.A Jm (λe He=>R (.error e) He) (.ref a) s'
def EZ{w:World}{mg:Str->Option Value}{base:Heap}{N:List Str}{qual:Str}{scope:Scope}{f:Addr}{cd:Value}{A:Around}{outer:List Env}{s₀:Shared}{H₀:Hp}{E:XK}:Eh (HR P w K mg base N qual scope f cd A outer s₀ H₀ E) E:=
 λok C a cls H' B a0 m s' Q acc Jm R he x hn q hR=>AW ok.above ok.frames he x hn q hR
def rT{E:XK}{elt iter tg:Expr}{ifs:List Expr}{ts ys:List Str}{js:List Nat}{wi:TI}{g:TG}{tc:TT}(ob:Eh X E)(B5:X.stack=X.env::X.outer)(LQ:X.env.frame=some X.env.locals)(LR:X.ex=[])(hc:X.calm=true)(Ib:cC X.N X.env.scope sc ts ys js=true)(hi:PI X tg iter wi)(hg:∀cl C s H fp,PG (X.GX E sc cl C (ts++ys) s H fp) tg g)(hf:∀cl C s H fp,P6 (X.GX E sc cl C (ts++ys) s H fp) ifs tc)(he:∀cl C s H fp,UG X C s H fp->PE (X.GX E sc cl C (ts++ys) s H fp) elt te)(hs:∀x,foldedSetIterable iter X.env x=pure x:=by intro _;rfl):PE X (.ListComp elt [⟨tg,iter,ifs,0⟩] sc pos) (fQ wi g ts.length js tc te):=by
 intro pins s σ H Q I h;rw[eval_ListComp];exact fF (xf:=λC e s'=>∃a cls H' B a0 m,e=.ref a/\XB X C cls a H' B a0 .none s'/\s'.heap.Ns C m/\E cls none H') (Bk:=UG X) hc Ib hi hg hf he hs I h (λI2 f2 hC=>⟨⟨_,_,I2,f2⟩,hC,B5,LQ,LR⟩)
  (λcl C D e s' ok ⟨a,cls,H',B,a0,m,e1,x1,n1,q1⟩=>by subst e1;exact ob ok _ _ _ _ _ _ _ _ _ (.ref D) (compEnvC sc cl C X.env) _ rfl x1 n1 q1 λ_ z=>z)
  λ{D C H3 s4 m} I5 fC hn q=>⟨m,hn,λh' sb=>⟨.ref D,H3,I5.turned (t':=s4.toks) (λb o hb e=>(sb.2 b hb).trans e) fC.1 fC.2.1 fC.2.2.2.1 fC.2.2.2.2.1 fC.2.2.2.2.2,rfl,q⟩⟩
namespace Det
variable{α β:Type}
end Det
end L2
namespace Je
open PySem L2
open PySem.W(nsIn codeIn keepIn fnOf findIn isFn mroIn kitOne kitAny excIn specialIn takesIn plainGet hasDictIn plainOver makesIn KeysLit)
set_option genInjectivity false
set_option genSizeOf false
variable{K:W.Frag}{fd:FuncData}{ps:List Str}{qual x:Str}{st:Stmt}{f:Addr}
theorem Hs(F:p_ K x qual st f fd)(hl:ps.length=1)(h:∀(kV doc pm:Value) (an:Option Addr) (j8 ct:Value) (a:Value),bindArgs (fnOf x qual (aG st) (aF st) (am st) .none kV doc pm an j8 ct) ⟨[a],[]⟩=pure (ps.zip [a])):Binds K fd ps []:=F.binds λkV doc pm an j8 ct us e=>by
 rw[hl]at e;match us,e with
 |[a],_=>exact h kV doc pm an j8 ct a
theorem Kk(F:p_ K x qual st f fd)(hl:ps.length=2)(h:∀(kV doc pm:Value) (an:Option Addr) (j8 ct:Value) (a b:Value),bindArgs (fnOf x qual (aG st) (aF st) (am st) .none kV doc pm an j8 ct) ⟨[a,b],[]⟩=pure (ps.zip [a,b])):Binds K fd ps []:=F.binds λkV doc pm an j8 ct us e=>by
 rw[hl]at e;match us,e with
 |[a,b],_=>exact h kV doc pm an j8 ct a b
theorem Pr(F:p_ K x qual st f fd)(hl:ps.length=3)(h:∀(kV doc pm:Value) (an:Option Addr) (j8 ct:Value) (a b c:Value),bindArgs (fnOf x qual (aG st) (aF st) (am st) .none kV doc pm an j8 ct) ⟨[a,b,c],[]⟩=pure (ps.zip [a,b,c])):Binds K fd ps []:=F.binds λkV doc pm an j8 ct us e=>by
 rw[hl]at e;match us,e with
 |[a,b,c],_=>exact h kV doc pm an j8 ct a b c
noncomputable def top(i:Nat):Stmt:=PySem.Challenge.pw_leafsay_k15_grammars_refused.main.body.getD i (.Pass ⟨0,0,0,0⟩)
abbrev rA:Stmt:=top 19
abbrev oZ:Stmt:=top 20
abbrev rq:Stmt:=top 21
abbrev oY:Stmt:=top 22
abbrev oW:Stmt:=top 23
abbrev Bh:Stmt:=top 30
abbrev pE:Stmt:=top 31
abbrev pK:Stmt:=top 32
abbrev oV:Stmt:=top 34
abbrev oN:Stmt:=eE (top 35) 0
abbrev oX:Stmt:=eE (top 35) 1
abbrev oS:Stmt:=eE (top 35) 2
abbrev pd:Stmt:=eE (top 35) 3
abbrev pb:Stmt:=eE (top 35) 4
abbrev Bi:Stmt:=eE (top 35) 5
abbrev pi:Stmt:=eE (top 35) 6
abbrev pF:Stmt:=top 36
abbrev pq:Stmt:=top 37
abbrev pH:Stmt:=top 38
abbrev pI:Stmt:=top 44
abbrev pG:Stmt:=top 45
abbrev pz:Stmt:=top 46
abbrev pB:Stmt:=top 47
abbrev pJ:Stmt:=top 49
abbrev pO:Stmt:=top 50
abbrev pA:Stmt:=top 51
abbrev pC:Stmt:=top 52
abbrev pD:Stmt:=top 53
abbrev pM:Stmt:=top 54
abbrev pL:Stmt:=top 55
abbrev pP:Stmt:=top 56
abbrev oF:Stmt:=top 58
abbrev oI:Stmt:=top 59
abbrev oO:Stmt:=top 60
abbrev oH:Stmt:=top 61
abbrev oQ:Stmt:=top 62
abbrev oM:Stmt:=top 63
abbrev oG:Stmt:=top 64
abbrev oE:Stmt:=top 65
abbrev oR:Stmt:=top 66
abbrev oK:Stmt:=top 67
abbrev oJ:Stmt:=top 68
abbrev oB:Stmt:=top 69
abbrev pN:Stmt:=top 70
abbrev pj:Stmt:=top 71
abbrev ph:Stmt:=top 72
abbrev pc:Stmt:=top 73
abbrev oP:Stmt:=top 74
abbrev oU:Stmt:=top 75
abbrev pe:Stmt:=top 76
abbrev pQ:Stmt:=top 77
def Co:aJ ["thing"] ["thing"] (am oZ):={}
def Cn:aJ ["kind", "thing"] ["kind", "thing"] (am oY):={}
def Ck:aJ ["word"] ["word"] (am oW):={}
def EO:aJ ["word"] ["word"] (am Bh):={}
def Cw:aJ ["word"] ["word"] (am pE):={}
def CA:aJ ["word"] ["word"] (am pK):={}
def HI:aJ ["text", "stops", "found", "start", "place", "sign"] ["text", "stops"] (am oV):={}
def Ch:aJ ["self"] ["self"] (am oN):={}
def Cm:aJ ["self", "word", "count"] ["self", "word", "count"] (am oX):={}
def Cj:aJ ["self", "word"] ["self", "word"] (am oS):={}
def Cq:aJ ["self", "word"] ["self", "word"] (am pd):={}
def Cp:aJ ["self"] ["self"] (am pb):={}
def Ra:aJ ["self", "word"] ["self"] (am Bi):={}
def Cr:aJ ["self"] ["self"] (am pi):={}
def JT:aJ ["text", "between", "reader", "word", "stop"] ["text", "between"] (am pF):={}
def Ct:aJ ["rows"] ["rows"] (am pq):={}
def NM:aJ ["ready", "count", "taken"] ["ready", "count"] (am pH):={}
def Cy:aJ ["word"] ["word"] (am pI):={}
def NL:aJ ["word", "pair"] ["word"] (am pG):={}
def Cu:aJ ["deed", "terms"] ["deed", "terms"] (am pz):={}
def Hd:aJ ["text", "rows", "ready", "word", "count", "level", "inner"] ["text"] (am pB):={}
def Cz:aJ ["word"] ["word"] (am pJ):={}
def NN:aJ ["word", "halves"] ["word"] (am pO):={}
def JS:aJ ["words", "downs", "ups", "place"] ["words"] (am pA):={}
def NK:aJ ["words", "names"] ["words"] (am pC):={}
def Cv:aJ ["words"] ["words"] (am pD):={}
def LH:aJ ["lines", "forms", "words"] ["lines"] (am pM):={}
def CB:aJ ["rules"] ["rules"] (am pL):={}
def JU:aJ ["text", "lines", "signs", "forms"] ["text"] (am pP):={}
def HF:aJ ["_law_script", "_law_many", "_law_found", "_law_seed", "_law_cell"] ["_law_script", "_law_many"] (am oF):={}
def HH:aJ ["_law_cell", "_law_k", "_law_letters", "_law_words", "_law_long", "_law_at", "_law_fill"] ["_law_cell", "_law_k"] (am oI):={}
def Ci:aJ ["_law_found"] ["_law_found"] (am oO):={}
def HG:aJ ["_law_found", "_law_due", "_law_one", "_law_other"] ["_law_found", "_law_due"] (am oH):={}
def JP:aJ ["_law_cell", "_law_word_here", "_law_many", "_law_found", "_law_k", "_law_number"] ["_law_cell", "_law_word_here", "_law_many"] (am oQ):={}
def u0:aJ ["_law_cell", "_law_word_here", "_law_words", "_law_made", "_law_written", "_law_k", "_law_leaf", "_law_told", "_law_some", "_law_rows"] ["_law_cell", "_law_word_here"] (am oM):={}
def y7:aJ ["_law_cell", "_law_word_here", "_law_downs", "_law_ups", "_law_name", "_law_words", "_law_value", "_law_kind"] ["_law_cell", "_law_word_here"] (am oG):={}
def C1:aJ ["_law_cell", "_law_deck_here", "_law_word_here", "_law_names", "_law_lines", "_law_rules", "_law_k", "_law_number", "_law_value", "_law_term_here", "_law_written"] ["_law_cell", "_law_deck_here", "_law_word_here"] (am oE):={}
def u6:aJ ["_law_deck_here", "_law_word_here", "_law_lines", "_law_signs", "_law_forms", "_law_k", "_law_sign_here", "_law_words", "_law_form_here", "_law_some"] ["_law_deck_here"] (am oR):={}
def Cg:aJ ["_law_lines"] ["_law_lines"] (am oK):={}
def Cf:aJ ["_law_rows", "_law_at", "_law_new"] ["_law_rows", "_law_at", "_law_new"] (am oJ):={}
def Ce:aJ ["_law_rows", "_law_at", "_law_new"] ["_law_rows", "_law_at", "_law_new"] (am oB):={}
def IA:aJ ["_law_lines", "_law_way", "_law_cell", "_law_heads", "_law_at", "_law_text_here"] ["_law_lines", "_law_way", "_law_cell"] (am pN):={}
def Cs:aJ ["_law_cell", "_law_name"] ["_law_cell", "_law_name"] (am pj):={}
def JR:aJ ["_law_words", "_law_way", "_law_cell", "_law_name", "_law_odd"] ["_law_words", "_law_way", "_law_cell"] (am ph):={}
def A8:aJ ["_law_words", "_law_way", "_law_cell", "_law_figure", "_law_point", "_law_name", "_law_odd"] ["_law_words", "_law_way", "_law_cell"] (am pc):={}
def Hc:aJ ["_law_cell", "_law_leaves", "_law_rows", "_law_k"] ["_law_cell"] (am oP):={}
def o9:aJ ["_law_lines", "_law_way", "_law_cell", "_law_kinds", "_law_some", "_law_at", "_law_words", "_law_made", "_law_place"] ["_law_lines", "_law_way", "_law_cell"] (am oU):={}
def JQ:aJ ["_law_text_here", "_law_great_here", "_law_own", "error"] ["_law_text_here", "_law_great_here"] (am pe):={}
def C2:aJ ["_law_script", "_law_deck_here", "_law_cells", "_law_grammar", "_law_lines", "_law_text_here", "_law_cell", "_law_number", "_law_way"] ["_law_script"] (am pQ):={}
structure Q0 where
 qBI:Addr
 RJ:FuncData
 qAZ:Addr
 OX:FuncData
 qBJ:Addr
 RI:FuncData
 qBA:Addr
 OW:FuncData
 qBC:Addr
 OU:FuncData
 qB:Addr
 Uu:FuncData
 qAL:Addr
 Pb:FuncData
 qAF:Addr
 Ph:FuncData
 qBD:Addr
 OT:FuncData
 ZK:Addr
 OM:FuncData
 qBB:Addr
 OV:FuncData
 qBF:Addr
 OR:FuncData
 qAW:Addr
 O0:FuncData
 qAY:Addr
 OY:FuncData
 qA:Addr
 Uv:FuncData
 qAT:Addr
 O4:FuncData
 qAK:Addr
 Pc:FuncData
 qAR:Addr
 O6:FuncData
 qAI:Addr
 Pe:FuncData
 qAH:Addr
 Pf:FuncData
 qAJ:Addr
 Pd:FuncData
 qAQ:Addr
 O7:FuncData
 qAO:Addr
 O9:FuncData
 qAG:Addr
 Pg:FuncData
 qAB:Addr
 Pn:FuncData
 qAP:Addr
 O8:FuncData
 qAN:Addr
 O_:FuncData
 qAM:Addr
 Pa:FuncData
 qAD:Addr
 Pk:FuncData
 qAE:Addr
 Pj:FuncData
 qAA:Addr
 Po:FuncData
 qBT:Addr
 OG:FuncData
 qBQ:Addr
 OI:FuncData
 qBL:Addr
 ON:FuncData
 ZJ:Addr
 Mz:FuncData
 qBH:Addr
 OP:FuncData
 qBN:Addr
 OL:FuncData
 qBS:Addr
 OH:FuncData
 qBU:Addr
 OF:FuncData
 qBG:Addr
 OQ:FuncData
 qBO:Addr
 OK:FuncData
 qBP:Addr
 OJ:FuncData
 qBV:Addr
 OE:FuncData
 qAC:Addr
 Pm:FuncData
 qAS:Addr
 O5:FuncData
 qAU:Addr
 O3:FuncData
 qAX:Addr
 OZ:FuncData
 qBK:Addr
 OO:FuncData
 qBE:Addr
 OS:FuncData
 qAV:Addr
 O2:FuncData
 law:Addr
 MA:FuncData
 Im:Tok
 v5:Tok
 A5:Tok
 q0:Tok
 q8:Tok
 v7:Tok
 v8:Tok
 v3:Tok
 Ik:Tok
 GZ:Tok
 G0:Tok
 Hw:Tok
 Il:Tok
 j3:Addr
 b7:Addr
 b_:Addr
 n4:Addr
 m_:Addr
 n5:Addr
 m9:Addr
 j6:Addr
 j7:Addr
 m8:Addr
 t6:Addr
 a_:Addr
 t9:Addr
 E4:Addr
 D':Addr
 D_:Addr
 D9:Addr
 D8:Addr
 D7:Addr
 D6:Addr
 D5:Addr
 D4:Addr
 D3:Addr
 z_:Addr
 A7:Addr
structure Tx(K:W.Frag)(w:World)(mg:Str->Option Value)(T:Q0):Prop where
 F_qBI:p_ K "is_num" "is_num" rA T.qBI T.RJ
 b_qBI:Binds K T.RJ ["thing"] []
 m_qBI:mg "is_num" = some (.ref T.qBI)
 Sb:p_ K "is_text" "is_text" oZ T.qAZ T.OX
 Yu:Binds K T.OX ["thing"] []
 V3:mg "is_text" = some (.ref T.qAZ)
 F_qBJ:p_ K "is_row" "is_row" rq T.qBJ T.RI
 b_qBJ:Binds K T.RI ["thing"] []
 m_qBJ:mg "is_row" = some (.ref T.qBJ)
 Sa:p_ K "is_kind" "is_kind" oY T.qBA T.OW
 Ys:Binds K T.OW ["kind", "thing"] []
 V1:mg "is_kind" = some (.ref T.qBA)
 R_:p_ K "is_deed" "is_deed" oW T.qBC T.OU
 Yr:Binds K T.OU ["word"] []
 V0:mg "is_deed" = some (.ref T.qBC)
 UD:p_ K "is_name" "is_name" Bh T.qB T.Uu
 Yt:Binds K T.Uu ["word"] []
 V2:mg "is_name" = some (.ref T.qB)
 Sn:p_ K "is_number" "is_number" pE T.qAL T.Pb
 YH:Binds K T.Pb ["word"] []
 Wb:mg "is_number" = some (.ref T.qAL)
 PL:p_ K "read_value" "read_value" pK T.qAF T.Ph
 RP:Binds K T.Ph ["word"] []
 Rl:mg "read_value" = some (.ref T.qAF)
 R9:p_ K "pieces" "pieces" oV T.qBD T.OT
 Yq:Binds K T.OT ["text", "stops"] []
 VZ:mg "pieces" = some (.ref T.qBD)
 Zr:p_ K "__init__" "NestReader.__init__" oN T.ZK T.OM
 Yl:Binds K T.OM ["self"] []
 h_qBM:qC K T.a_ "__init__" T.ZK
 Zt:p_ K "add_row" "NestReader.add_row" oX T.qBB T.OV
 RO:Binds K T.OV ["self", "word", "count"] []
 RD:qC K T.a_ "add_row" T.qBB
 Zs:p_ K "begin" "NestReader.begin" oS T.qBF T.OR
 Yo:Binds K T.OR ["self", "word"] []
 W8:qC K T.a_ "begin" T.qBF
 Zv:p_ K "end_word" "NestReader.end_word" pd T.qAW T.O0
 Yx:Binds K T.O0 ["self", "word"] []
 W_:qC K T.a_ "end_word" T.qAW
 Zu:p_ K "count_in" "NestReader.count_in" pb T.qAY T.OY
 Yv:Binds K T.OY ["self"] []
 W9:qC K T.a_ "count_in" T.qAY
 F_qA:p_ K "close_bracket" "NestReader.close_bracket" Bi T.qA T.Uv
 b_qA:Binds K T.Uv ["self"] []
 h_qA:qC K T.a_ "close_bracket" T.qA
 Zw:p_ K "all_rows" "NestReader.all_rows" pi T.qAT T.O4
 YA:Binds K T.O4 ["self"] []
 W':qC K T.a_ "all_rows" T.qAT
 So:p_ K "nest_rows" "nest_rows" pF T.qAK T.Pc
 YI:Binds K T.Pc ["text", "between"] []
 Wc:mg "nest_rows" = some (.ref T.qAK)
 Sh:p_ K "deepest" "deepest" pq T.qAR T.O6
 YB:Binds K T.O6 ["rows"] []
 V7:mg "deepest" = some (.ref T.qAR)
 Sr:p_ K "taken_off" "taken_off" pH T.qAI T.Pe
 YK:Binds K T.Pe ["ready", "count"] []
 Wg:mg "taken_off" = some (.ref T.qAI)
 Ss:p_ K "is_quoted" "is_quoted" pI T.qAH T.Pf
 YL:Binds K T.Pf ["word"] []
 Wh:mg "is_quoted" = some (.ref T.qAH)
 Sq:p_ K "read_leaf" "read_leaf" pG T.qAJ T.Pd
 YJ:Binds K T.Pd ["word"] []
 We:mg "read_leaf" = some (.ref T.qAJ)
 Si:p_ K "made_call" "made_call" pz T.qAQ T.O7
 YC:Binds K T.O7 ["deed", "terms"] []
 V8:mg "made_call" = some (.ref T.qAQ)
 Sk:p_ K "read_term" "read_term" pB T.qAO T.O9
 YE:Binds K T.O9 ["text"] []
 V_:mg "read_term" = some (.ref T.qAO)
 MJ:p_ K "read_named" "read_named" pJ T.qAG T.Pg
 Px:Binds K T.Pg ["word"] []
 Oc:mg "read_named" = some (.ref T.qAG)
 PM:p_ K "read_carried" "read_carried" pO T.qAB T.Pn
 RQ:Binds K T.Pn ["word"] []
 Rm:mg "read_carried" = some (.ref T.qAB)
 Sj:p_ K "read_sign" "read_sign" pA T.qAP T.O8
 YD:Binds K T.O8 ["words"] []
 V9:mg "read_sign" = some (.ref T.qAP)
 Sl:p_ K "read_form" "read_form" pC T.qAN T.O_
 YF:Binds K T.O_ ["words"] []
 V':mg "read_form" = some (.ref T.qAN)
 Sm:p_ K "read_rule" "read_rule" pD T.qAM T.Pa
 YG:Binds K T.Pa ["words"] []
 Wa:mg "read_rule" = some (.ref T.qAM)
 Sv:p_ K "read_forms" "read_forms" pM T.qAD T.Pk
 YN:Binds K T.Pk ["lines"] []
 Wj:mg "read_forms" = some (.ref T.qAD)
 Su:p_ K "with_terms" "with_terms" pL T.qAE T.Pj
 YM:Binds K T.Pj ["rules"] []
 Wi:mg "with_terms" = some (.ref T.qAE)
 PN:p_ K "read_grammar" "read_grammar" pP T.qAA T.Po
 RR:Binds K T.Po ["text"] []
 Rn:mg "read_grammar" = some (.ref T.qAA)
 RY:p_ K "_law_deck" "_law_deck" oF T.qBT T.OG
 Yi:Binds K T.OG ["_law_script", "_law_many"] []
 VS:mg "_law_deck" = some (.ref T.qBT)
 JC:p_ K "_law_word" "_law_word" oI T.qBQ T.OI
 KY:Binds K T.OI ["_law_cell", "_law_k"] []
 KP:mg "_law_word" = some (.ref T.qBQ)
 PJ:p_ K "_law_whole" "_law_whole" oO T.qBL T.ON
 RM:Binds K T.ON ["_law_found"] []
 Rj:mg "_law_whole" = some (.ref T.qBL)
 K8:p_ K "_law_same" "_law_same" oH T.ZJ T.Mz
 Pu:Binds K T.Mz ["_law_found", "_law_due"] []
 Oa:mg "_law_same" = some (.ref T.ZJ)
 PK:p_ K "_law_pairs" "_law_pairs" oQ T.qBH T.OP
 RN:Binds K T.OP ["_law_cell", "_law_word_here", "_law_many"] []
 Rk:mg "_law_pairs" = some (.ref T.qBH)
 R0:p_ K "_law_term" "_law_term" oM T.qBN T.OL
 Yk:Binds K T.OL ["_law_cell", "_law_word_here"] []
 VU:mg "_law_term" = some (.ref T.qBN)
 RZ:p_ K "_law_sign" "_law_sign" oG T.qBS T.OH
 Yj:Binds K T.OH ["_law_cell", "_law_word_here"] []
 VT:mg "_law_sign" = some (.ref T.qBS)
 RX:p_ K "_law_form" "_law_form" oE T.qBU T.OF
 Yh:Binds K T.OF ["_law_cell", "_law_deck_here", "_law_word_here"] []
 VR:mg "_law_form" = some (.ref T.qBU)
 R7:p_ K "_law_drawn" "_law_drawn" oR T.qBG T.OQ
 Yn:Binds K T.OQ ["_law_deck_here"] []
 VX:mg "_law_drawn" = some (.ref T.qBG)
 Ig:p_ K "_law_text" "_law_text" oK T.qBO T.OK
 I0:Binds K T.OK ["_law_lines"] []
 IJ:mg "_law_text" = some (.ref T.qBO)
 K9:p_ K "_law_with" "_law_with" oJ T.qBP T.OJ
 MF:Binds K T.OJ ["_law_rows", "_law_at", "_law_new"] []
 Mr:mg "_law_with" = some (.ref T.qBP)
 K7:p_ K "_law_put" "_law_put" oB T.qBV T.OE
 ME:Binds K T.OE ["_law_rows", "_law_at", "_law_new"] []
 Mq:mg "_law_put" = some (.ref T.qBV)
 Sw:p_ K "_law_out_of_place" "_law_out_of_place" pN T.qAC T.Pm
 YO:Binds K T.Pm ["_law_lines", "_law_way", "_law_cell"] []
 Wk:mg "_law_out_of_place" = some (.ref T.qAC)
 MI:p_ K "_law_bad_name" "_law_bad_name" pj T.qAS T.O5
 Pw:Binds K T.O5 ["_law_cell", "_law_name"] []
 Ob:mg "_law_bad_name" = some (.ref T.qAS)
 Sf:p_ K "_law_bad_sign" "_law_bad_sign" ph T.qAU T.O3
 Yz:Binds K T.O3 ["_law_words", "_law_way", "_law_cell"] []
 V6:mg "_law_bad_sign" = some (.ref T.qAU)
 Sd:p_ K "_law_bad_rule" "_law_bad_rule" pc T.qAX T.OZ
 Yw:Binds K T.OZ ["_law_words", "_law_way", "_law_cell"] []
 V4:mg "_law_bad_rule" = some (.ref T.qAX)
 R6:p_ K "_law_great" "_law_great" oP T.qBK T.OO
 Ym:Binds K T.OO ["_law_cell"] []
 VW:mg "_law_great" = some (.ref T.qBK)
 R8:p_ K "_law_faulty" "_law_faulty" oU T.qBE T.OS
 Yp:Binds K T.OS ["_law_lines", "_law_way", "_law_cell"] []
 VY:mg "_law_faulty" = some (.ref T.qBE)
 Se:p_ K "_law_refused" "_law_refused" pe T.qAV T.O2
 Yy:Binds K T.O2 ["_law_text_here", "_law_great_here"] []
 V5:mg "_law_refused" = some (.ref T.qAV)
 Sx:p_ K "law" "law" pQ T.law T.MA
 b_law:Binds K T.MA ["_law_script"] []
 Wl:mg "law" = some (.ref T.law)
 B8:mg "ValueError" = none
 Km:mg "all" = none
 Lg:mg "bool" = none
 GP:mg "enumerate" = none
 Kl:mg "int" = none
 d8:mg "isinstance" = none
 ff:mg "len" = none
 Lf:mg "list" = none
 Nz:mg "max" = none
 n_:mg "range" = none
 B7:mg "reversed" = none
 GO:mg "str" = none
 i':mg "tuple" = none
 Me:mg "zip" = none
 MB:mg "LIMIT" = some (.int 1000000000000000000 T.Im)
 D1:mg "MOST_SIGNS" = some (.int 40 T.v5)
 Ic:mg "MOST_NUMS" = some (.int 12 T.A5)
 z4:mg "MOST_LETTERS" = some (.int 8 T.q0)
 z9:mg "MOST_FIGURES" = some (.int 18 T.q8)
 v_:mg "MOST_PARTS" = some (.int 30 T.v7)
 w9:mg "MOST_DEPTH" = some (.int 6 T.v8)
 v9:mg "MOST_TERMS" = some (.int 3 T.v3)
 J7:mg "SIGNS" = some (.str "abcdefghijklmnopqrstuvwxyz0123456789" T.Ik)
 HS:mg "LETTERS" = some (.str "abcdefghijklmnopqrstuvwxyz" T.GZ)
 HU:mg "FIGURES" = some (.str "0123456789" T.G0)
 IZ:mg "PLACES" = some (.str "0123" T.Hw)
 Iw:mg "QUOTE" = some (.str "\"" T.Il)
 GS:mg "LeafError" = some (.ref T.j3)
 GW:uw K T.j3
 g_:mg "NoText" = some (.ref T.b7)
 f_:uw K T.b7
 Hv:Bc K T.b7
 o8:mroIn K T.b7 (.ref T.j3)=some true
 Hi:kitOne K (.ref T.b7) (.ref T.b7)=some true
 Hh:kitOne K (.ref T.b7) (.ref T.b_)=some false
 Hg:kitOne K (.ref T.b7) (.type "ValueError")=some true
 Hf:kitAny K (.ref T.b7) [.ref T.n5,.ref T.n4,.ref T.m_,.ref T.m9,.ref T.j6,.ref T.j7,.ref T.m8,.ref T.t6]=some false
 C4:mg "TooGreat" = some (.ref T.b_)
 y_:uw K T.b_
 B9:Bc K T.b_
 o4:mroIn K T.b_ (.ref T.j3)=some true
 C9:kitOne K (.ref T.b_) (.ref T.b7)=some false
 C8:kitOne K (.ref T.b_) (.ref T.b_)=some true
 C7:kitOne K (.ref T.b_) (.type "ValueError")=some true
 C6:kitAny K (.ref T.b_) [.ref T.n5,.ref T.n4,.ref T.m_,.ref T.m9,.ref T.j6,.ref T.j7,.ref T.m8,.ref T.t6]=some false
 IP:mg "NoName" = some (.ref T.n4)
 IM:mg "NoRule" = some (.ref T.m_)
 IQ:mg "NoKind" = some (.ref T.n5)
 IL:mg "NoTree" = some (.ref T.m9)
 HK:mg "NoPlace" = some (.ref T.j6)
 HL:mg "NoGiven" = some (.ref T.j7)
 IK:mg "NoWalk" = some (.ref T.m8)
 LM:mg "Ring" = some (.ref T.t6)
 C5:mg "NestReader" = some (.ref T.a_)
 J8:mg "NEEDS" = some (.ref T.t9)
 QU:MG K w T.t9 [(("add" : Str),Value.ref T.E4),(("sub" : Str),Value.ref T.D'),(("mul" : Str),Value.ref T.D_),(("less" : Str),Value.ref T.D9),(("glue" : Str),Value.ref T.D8),(("show" : Str),Value.ref T.D7),(("size" : Str),Value.ref T.D6),(("put" : Str),Value.ref T.D5),(("link" : Str),Value.ref T.D4),(("at" : Str),Value.ref T.D3),(("many" : Str),Value.ref T.z_)]
 JD:(T.t9 == sysModules)=false
 JA:∀H,k_ K H T.E4 [V.str "num",V.str "num"]
 Jz:∀H,k_ K H T.D' [V.str "num",V.str "num"]
 Jy:∀H,k_ K H T.D_ [V.str "num",V.str "num"]
 Jx:∀H,k_ K H T.D9 [V.str "num",V.str "num"]
 Jw:∀H,k_ K H T.D8 [V.str "text",V.str "text"]
 Jv:∀H,k_ K H T.D7 [V.str "num"]
 Ju:∀H,k_ K H T.D6 [V.str "text"]
 Jt:∀H,k_ K H T.D5 [V.str "row",V.str "num"]
 Js:∀H,k_ K H T.D4 [V.str "row",V.str "row"]
 Jr:∀H,k_ K H T.D3 [V.str "row",V.str "num"]
 IB:∀H,k_ K H T.z_ [V.str "row"]
 J9:mg "KINDS" = some (.ref T.A7)
 JV:∀H,k_ K H T.A7 [V.str "num",V.str "text",V.str "row"]
 b9:Nl K T.a_
 Ji:Mk K T.a_ T.ZK
 II:A_ K T.a_ "rows"
 g8:A_ K T.a_ "open_words"
 m7:A_ K T.a_ "inner_counts"
 t_:A_ K T.a_ "closed"
def Vg{w:World}{h:Heap}{mg:Str->Option Value}(X:K.In h)(G:h.Ns mainGlobals mg){f0 f1 f2 f3 f4 f5 f6 f7 f8 f9 Xu Xt Xs Xr Xq Xp _V _U _T _S _R _Q _P _O _N _M _L _K _J _I _H _G _F _E _D _C _B _A _z _y _x _w _v _u _t _s _r _q _p _o _n:Addr}{od0 an0 od1 an1 od2 an2 od3 an3 od4 an4 od5 an5 od6 an6 od7 an7 od8 an8 od9 an9 od10 an10 od11 an11 od12 an12 od13 an13 od14 an14 od15 an15 od16 an16 od17 an17 od18 an18 od19 an19 od20 an20 od21 an21 od22 an22 od23 an23 od24 an24 od25 an25 od26 an26 od27 an27 od28 an28 od29 an29 od30 an30 od31 an31 od32 an32 od33 an33 od34 an34 od35 an35 od36 an36 od37 an37 od38 an38 od39 an39 od40 an40 od41 an41 od42 an42 od43 an43 od44 an44 od45 an45 od46 an46 od47 an47 od48 an48 od49 an49 od50 an50:Option Addr}{sl0 sl1 UL sl3 sl4 sl5 sl6 sl7 sl8 sl9 sl10 sl11 sl12 sl13 sl14 sl15 sl16 sl17 sl18 sl19 sl20 sl21 sl22 sl23 sl24 sl25 sl26 sl27 sl28 sl29 sl30 sl31 sl32 sl33 sl34 sl35 sl36 sl37 sl38 sl39 sl40 sl41 sl42 sl43 sl44 sl45 sl46 sl47 sl48 sl49 sl50:Array (Option Value)}{oc0 kV0 dc0 pm0 cd0 ct0 oc1 kV1 dc1 pm1 cd1 ct1 oc2 kV2 dc2 pm2 cd2 ct2 oc3 kV3 dc3 pm3 cd3 ct3 oc4 kV4 dc4 pm4 cd4 ct4 oc5 kV5 dc5 pm5 cd5 ct5 oc6 kV6 dc6 pm6 cd6 ct6 oc7 kV7 dc7 pm7 cd7 ct7 oc8 kV8 dc8 pm8 cd8 ct8 oc9 kV9 dc9 pm9 cd9 ct9 oc10 kV10 dc10 pm10 Yg ct10 oc11 kV11 dc11 pm11 Yf ct11 oc12 kV12 dc12 pm12 Ye ct12 oc13 kV13 dc13 pm13 Yd ct13 oc14 kV14 dc14 pm14 Yc ct14 oc15 kV15 dc15 pm15 Yb ct15 oc16 kV16 dc16 pm16 Ya ct16 oc17 kV17 dc17 pm17 X' ct17 oc18 kV18 dc18 pm18 X_ ct18 oc19 kV19 dc19 pm19 X9 ct19 oc20 kV20 dc20 pm20 X8 ct20 oc21 kV21 dc21 pm21 X7 ct21 oc22 kV22 dc22 pm22 X6 ct22 oc23 kV23 dc23 pm23 X5 ct23 oc24 kV24 dc24 pm24 X4 ct24 oc25 kV25 dc25 pm25 X3 ct25 oc26 kV26 dc26 pm26 X2 ct26 oc27 kV27 dc27 pm27 X1 ct27 oc28 kV28 dc28 pm28 X0 ct28 oc29 kV29 dc29 pm29 XZ ct29 oc30 kV30 dc30 pm30 XY ct30 oc31 kV31 dc31 pm31 XX ct31 oc32 kV32 dc32 pm32 XW ct32 oc33 kV33 dc33 pm33 XU ct33 oc34 kV34 dc34 pm34 XT ct34 oc35 kV35 dc35 pm35 XS ct35 oc36 kV36 dc36 pm36 XR ct36 oc37 kV37 dc37 pm37 XQ ct37 oc38 kV38 dc38 pm38 XN ct38 oc39 kV39 dc39 pm39 XM ct39 oc40 kV40 dc40 pm40 XJ ct40 oc41 kV41 dc41 pm41 XI ct41 oc42 kV42 dc42 pm42 XH ct42 oc43 kV43 dc43 pm43 XG ct43 oc44 kV44 dc44 pm44 XF ct44 oc45 kV45 dc45 pm45 XE ct45 oc46 kV46 dc46 pm46 XD ct46 oc47 kV47 dc47 pm47 XC ct47 oc48 kV48 dc48 pm48 XA ct48 oc49 kV49 dc49 pm49 Xz ct49 oc50 kV50 dc50 pm50 Xy ct50:Value}{Im v5 A5 q0 q8 v7 v8 v3 Ik GZ G0 Hw Il:Tok}{j3 b7 b_ n4 m_ n5 m9 j6 j7 m8 t6 a_:Addr}(GS:nsIn K mainGlobals "LeafError" = some (some (.ref j3)))(g_:nsIn K mainGlobals "NoText" = some (some (.ref b7)))(C4:nsIn K mainGlobals "TooGreat" = some (some (.ref b_)))(IP:nsIn K mainGlobals "NoName" = some (some (.ref n4)))(IM:nsIn K mainGlobals "NoRule" = some (some (.ref m_)))(IQ:nsIn K mainGlobals "NoKind" = some (some (.ref n5)))(IL:nsIn K mainGlobals "NoTree" = some (some (.ref m9)))(HK:nsIn K mainGlobals "NoPlace" = some (some (.ref j6)))(HL:nsIn K mainGlobals "NoGiven" = some (some (.ref j7)))(IK:nsIn K mainGlobals "NoWalk" = some (some (.ref m8)))(LM:nsIn K mainGlobals "Ring" = some (some (.ref t6)))(C5:nsIn K mainGlobals "NestReader" = some (some (.ref a_)))(a0:nsIn K mainGlobals "is_num" = some (some (.ref f0)))(l0:K.lookup f0=some ⟨oc0,od0,.func (fnOf "is_num" "is_num" (aG rA) (aF rA) (am rA) .none kV0 dc0 pm0 an0 cd0 ct0),sl0⟩)(c0:codeIn K cd0 "is_num" = true)(k0:keepIn K (.ref f0)=true)(a1:nsIn K mainGlobals "is_text" = some (some (.ref f1)))(l1:K.lookup f1=some ⟨oc1,od1,.func (fnOf "is_text" "is_text" (aG oZ) (aF oZ) (am oZ) .none kV1 dc1 pm1 an1 cd1 ct1),sl1⟩)(c1:codeIn K cd1 "is_text" = true)(k1:keepIn K (.ref f1)=true)(a2:nsIn K mainGlobals "is_row" = some (some (.ref f2)))(l2:K.lookup f2=some ⟨oc2,od2,.func (fnOf "is_row" "is_row" (aG rq) (aF rq) (am rq) .none kV2 dc2 pm2 an2 cd2 ct2),UL⟩)(c2:codeIn K cd2 "is_row" = true)(k2:keepIn K (.ref f2)=true)(a3:nsIn K mainGlobals "is_kind" = some (some (.ref f3)))(l3:K.lookup f3=some ⟨oc3,od3,.func (fnOf "is_kind" "is_kind" (aG oY) (aF oY) (am oY) .none kV3 dc3 pm3 an3 cd3 ct3),sl3⟩)(c3:codeIn K cd3 "is_kind" = true)(k3:keepIn K (.ref f3)=true)(a4:nsIn K mainGlobals "is_deed" = some (some (.ref f4)))(l4:K.lookup f4=some ⟨oc4,od4,.func (fnOf "is_deed" "is_deed" (aG oW) (aF oW) (am oW) .none kV4 dc4 pm4 an4 cd4 ct4),sl4⟩)(c4:codeIn K cd4 "is_deed" = true)(k4:keepIn K (.ref f4)=true)(a5:nsIn K mainGlobals "is_name" = some (some (.ref f5)))(l5:K.lookup f5=some ⟨oc5,od5,.func (fnOf "is_name" "is_name" (aG Bh) (aF Bh) (am Bh) .none kV5 dc5 pm5 an5 cd5 ct5),sl5⟩)(c5:codeIn K cd5 "is_name" = true)(k5:keepIn K (.ref f5)=true)(a6:nsIn K mainGlobals "is_number" = some (some (.ref f6)))(l6:K.lookup f6=some ⟨oc6,od6,.func (fnOf "is_number" "is_number" (aG pE) (aF pE) (am pE) .none kV6 dc6 pm6 an6 cd6 ct6),sl6⟩)(c6:codeIn K cd6 "is_number" = true)(k6:keepIn K (.ref f6)=true)(a7:nsIn K mainGlobals "read_value" = some (some (.ref f7)))(l7:K.lookup f7=some ⟨oc7,od7,.func (fnOf "read_value" "read_value" (aG pK) (aF pK) (am pK) .none kV7 dc7 pm7 an7 cd7 ct7),sl7⟩)(c7:codeIn K cd7 "read_value" = true)(k7:keepIn K (.ref f7)=true)(a8:nsIn K mainGlobals "pieces" = some (some (.ref f8)))(l8:K.lookup f8=some ⟨oc8,od8,.func (fnOf "pieces" "pieces" (aG oV) (aF oV) (am oV) .none kV8 dc8 pm8 an8 cd8 ct8),sl8⟩)(c8:codeIn K cd8 "pieces" = true)(k8:keepIn K (.ref f8)=true)(a9:findIn K (.ref a_) "__init__" = some (some (.ref f9)))(i9:isFn K (.ref f9)=true)(l9:K.lookup f9=some ⟨oc9,od9,.func (fnOf "__init__" "NestReader.__init__" (aG oN) (aF oN) (am oN) .none kV9 dc9 pm9 an9 cd9 ct9),sl9⟩)(c9:codeIn K cd9 "NestReader.__init__" = true)(k9:keepIn K (.ref f9)=true)(a10:findIn K (.ref a_) "add_row" = some (some (.ref Xu)))(i10:isFn K (.ref Xu)=true)(l10:K.lookup Xu=some ⟨oc10,od10,.func (fnOf "add_row" "NestReader.add_row" (aG oX) (aF oX) (am oX) .none kV10 dc10 pm10 an10 Yg ct10),sl10⟩)(c10:codeIn K Yg "NestReader.add_row" = true)(k10:keepIn K (.ref Xu)=true)(a11:findIn K (.ref a_) "begin" = some (some (.ref Xt)))(i11:isFn K (.ref Xt)=true)(l11:K.lookup Xt=some ⟨oc11,od11,.func (fnOf "begin" "NestReader.begin" (aG oS) (aF oS) (am oS) .none kV11 dc11 pm11 an11 Yf ct11),sl11⟩)(c11:codeIn K Yf "NestReader.begin" = true)(k11:keepIn K (.ref Xt)=true)(a12:findIn K (.ref a_) "end_word" = some (some (.ref Xs)))(i12:isFn K (.ref Xs)=true)(l12:K.lookup Xs=some ⟨oc12,od12,.func (fnOf "end_word" "NestReader.end_word" (aG pd) (aF pd) (am pd) .none kV12 dc12 pm12 an12 Ye ct12),sl12⟩)(c12:codeIn K Ye "NestReader.end_word" = true)(k12:keepIn K (.ref Xs)=true)(a13:findIn K (.ref a_) "count_in" = some (some (.ref Xr)))(i13:isFn K (.ref Xr)=true)(l13:K.lookup Xr=some ⟨oc13,od13,.func (fnOf "count_in" "NestReader.count_in" (aG pb) (aF pb) (am pb) .none kV13 dc13 pm13 an13 Yd ct13),sl13⟩)(c13:codeIn K Yd "NestReader.count_in" = true)(k13:keepIn K (.ref Xr)=true)(a14:findIn K (.ref a_) "close_bracket" = some (some (.ref Xq)))(i14:isFn K (.ref Xq)=true)(l14:K.lookup Xq=some ⟨oc14,od14,.func (fnOf "close_bracket" "NestReader.close_bracket" (aG Bi) (aF Bi) (am Bi) .none kV14 dc14 pm14 an14 Yc ct14),sl14⟩)(c14:codeIn K Yc "NestReader.close_bracket" = true)(k14:keepIn K (.ref Xq)=true)(a15:findIn K (.ref a_) "all_rows" = some (some (.ref Xp)))(i15:isFn K (.ref Xp)=true)(l15:K.lookup Xp=some ⟨oc15,od15,.func (fnOf "all_rows" "NestReader.all_rows" (aG pi) (aF pi) (am pi) .none kV15 dc15 pm15 an15 Yb ct15),sl15⟩)(c15:codeIn K Yb "NestReader.all_rows" = true)(k15:keepIn K (.ref Xp)=true)(a16:nsIn K mainGlobals "nest_rows" = some (some (.ref _V)))(l16:K.lookup _V=some ⟨oc16,od16,.func (fnOf "nest_rows" "nest_rows" (aG pF) (aF pF) (am pF) .none kV16 dc16 pm16 an16 Ya ct16),sl16⟩)(c16:codeIn K Ya "nest_rows" = true)(k16:keepIn K (.ref _V)=true)(a17:nsIn K mainGlobals "deepest" = some (some (.ref _U)))(l17:K.lookup _U=some ⟨oc17,od17,.func (fnOf "deepest" "deepest" (aG pq) (aF pq) (am pq) .none kV17 dc17 pm17 an17 X' ct17),sl17⟩)(c17:codeIn K X' "deepest" = true)(k17:keepIn K (.ref _U)=true)(a18:nsIn K mainGlobals "taken_off" = some (some (.ref _T)))(l18:K.lookup _T=some ⟨oc18,od18,.func (fnOf "taken_off" "taken_off" (aG pH) (aF pH) (am pH) .none kV18 dc18 pm18 an18 X_ ct18),sl18⟩)(c18:codeIn K X_ "taken_off" = true)(k18:keepIn K (.ref _T)=true)(a19:nsIn K mainGlobals "is_quoted" = some (some (.ref _S)))(Wo:K.lookup _S=some ⟨oc19,od19,.func (fnOf "is_quoted" "is_quoted" (aG pI) (aF pI) (am pI) .none kV19 dc19 pm19 an19 X9 ct19),sl19⟩)(c19:codeIn K X9 "is_quoted" = true)(k19:keepIn K (.ref _S)=true)(a20:nsIn K mainGlobals "read_leaf" = some (some (.ref _R)))(l20:K.lookup _R=some ⟨oc20,od20,.func (fnOf "read_leaf" "read_leaf" (aG pG) (aF pG) (am pG) .none kV20 dc20 pm20 an20 X8 ct20),sl20⟩)(c20:codeIn K X8 "read_leaf" = true)(k20:keepIn K (.ref _R)=true)(a21:nsIn K mainGlobals "made_call" = some (some (.ref _Q)))(l21:K.lookup _Q=some ⟨oc21,od21,.func (fnOf "made_call" "made_call" (aG pz) (aF pz) (am pz) .none kV21 dc21 pm21 an21 X7 ct21),sl21⟩)(c21:codeIn K X7 "made_call" = true)(k21:keepIn K (.ref _Q)=true)(a22:nsIn K mainGlobals "read_term" = some (some (.ref _P)))(l22:K.lookup _P=some ⟨oc22,od22,.func (fnOf "read_term" "read_term" (aG pB) (aF pB) (am pB) .none kV22 dc22 pm22 an22 X6 ct22),sl22⟩)(c22:codeIn K X6 "read_term" = true)(k22:keepIn K (.ref _P)=true)(a23:nsIn K mainGlobals "read_named" = some (some (.ref _O)))(l23:K.lookup _O=some ⟨oc23,od23,.func (fnOf "read_named" "read_named" (aG pJ) (aF pJ) (am pJ) .none kV23 dc23 pm23 an23 X5 ct23),sl23⟩)(c23:codeIn K X5 "read_named" = true)(k23:keepIn K (.ref _O)=true)(a24:nsIn K mainGlobals "read_carried" = some (some (.ref _N)))(l24:K.lookup _N=some ⟨oc24,od24,.func (fnOf "read_carried" "read_carried" (aG pO) (aF pO) (am pO) .none kV24 dc24 pm24 an24 X4 ct24),sl24⟩)(c24:codeIn K X4 "read_carried" = true)(k24:keepIn K (.ref _N)=true)(a25:nsIn K mainGlobals "read_sign" = some (some (.ref _M)))(l25:K.lookup _M=some ⟨oc25,od25,.func (fnOf "read_sign" "read_sign" (aG pA) (aF pA) (am pA) .none kV25 dc25 pm25 an25 X3 ct25),sl25⟩)(c25:codeIn K X3 "read_sign" = true)(k25:keepIn K (.ref _M)=true)(a26:nsIn K mainGlobals "read_form" = some (some (.ref _L)))(l26:K.lookup _L=some ⟨oc26,od26,.func (fnOf "read_form" "read_form" (aG pC) (aF pC) (am pC) .none kV26 dc26 pm26 an26 X2 ct26),sl26⟩)(c26:codeIn K X2 "read_form" = true)(k26:keepIn K (.ref _L)=true)(a27:nsIn K mainGlobals "read_rule" = some (some (.ref _K)))(l27:K.lookup _K=some ⟨oc27,od27,.func (fnOf "read_rule" "read_rule" (aG pD) (aF pD) (am pD) .none kV27 dc27 pm27 an27 X1 ct27),sl27⟩)(c27:codeIn K X1 "read_rule" = true)(k27:keepIn K (.ref _K)=true)(a28:nsIn K mainGlobals "read_forms" = some (some (.ref _J)))(l28:K.lookup _J=some ⟨oc28,od28,.func (fnOf "read_forms" "read_forms" (aG pM) (aF pM) (am pM) .none kV28 dc28 pm28 an28 X0 ct28),sl28⟩)(c28:codeIn K X0 "read_forms" = true)(k28:keepIn K (.ref _J)=true)(a29:nsIn K mainGlobals "with_terms" = some (some (.ref _I)))(l29:K.lookup _I=some ⟨oc29,od29,.func (fnOf "with_terms" "with_terms" (aG pL) (aF pL) (am pL) .none kV29 dc29 pm29 an29 XZ ct29),sl29⟩)(c29:codeIn K XZ "with_terms" = true)(k29:keepIn K (.ref _I)=true)(a30:nsIn K mainGlobals "read_grammar" = some (some (.ref _H)))(l30:K.lookup _H=some ⟨oc30,od30,.func (fnOf "read_grammar" "read_grammar" (aG pP) (aF pP) (am pP) .none kV30 dc30 pm30 an30 XY ct30),sl30⟩)(c30:codeIn K XY "read_grammar" = true)(k30:keepIn K (.ref _H)=true)(a31:nsIn K mainGlobals "_law_deck" = some (some (.ref _G)))(l31:K.lookup _G=some ⟨oc31,od31,.func (fnOf "_law_deck" "_law_deck" (aG oF) (aF oF) (am oF) .none kV31 dc31 pm31 an31 XX ct31),sl31⟩)(c31:codeIn K XX "_law_deck" = true)(k31:keepIn K (.ref _G)=true)(a32:nsIn K mainGlobals "_law_word" = some (some (.ref _F)))(l32:K.lookup _F=some ⟨oc32,od32,.func (fnOf "_law_word" "_law_word" (aG oI) (aF oI) (am oI) .none kV32 dc32 pm32 an32 XW ct32),sl32⟩)(c32:codeIn K XW "_law_word" = true)(k32:keepIn K (.ref _F)=true)(a33:nsIn K mainGlobals "_law_whole" = some (some (.ref _E)))(l33:K.lookup _E=some ⟨oc33,od33,.func (fnOf "_law_whole" "_law_whole" (aG oO) (aF oO) (am oO) .none kV33 dc33 pm33 an33 XU ct33),sl33⟩)(c33:codeIn K XU "_law_whole" = true)(k33:keepIn K (.ref _E)=true)(a34:nsIn K mainGlobals "_law_same" = some (some (.ref _D)))(l34:K.lookup _D=some ⟨oc34,od34,.func (fnOf "_law_same" "_law_same" (aG oH) (aF oH) (am oH) .none kV34 dc34 pm34 an34 XT ct34),sl34⟩)(c34:codeIn K XT "_law_same" = true)(k34:keepIn K (.ref _D)=true)(a35:nsIn K mainGlobals "_law_pairs" = some (some (.ref _C)))(l35:K.lookup _C=some ⟨oc35,od35,.func (fnOf "_law_pairs" "_law_pairs" (aG oQ) (aF oQ) (am oQ) .none kV35 dc35 pm35 an35 XS ct35),sl35⟩)(c35:codeIn K XS "_law_pairs" = true)(k35:keepIn K (.ref _C)=true)(a36:nsIn K mainGlobals "_law_term" = some (some (.ref _B)))(l36:K.lookup _B=some ⟨oc36,od36,.func (fnOf "_law_term" "_law_term" (aG oM) (aF oM) (am oM) .none kV36 dc36 pm36 an36 XR ct36),sl36⟩)(c36:codeIn K XR "_law_term" = true)(k36:keepIn K (.ref _B)=true)(a37:nsIn K mainGlobals "_law_sign" = some (some (.ref _A)))(l37:K.lookup _A=some ⟨oc37,od37,.func (fnOf "_law_sign" "_law_sign" (aG oG) (aF oG) (am oG) .none kV37 dc37 pm37 an37 XQ ct37),sl37⟩)(c37:codeIn K XQ "_law_sign" = true)(k37:keepIn K (.ref _A)=true)(a38:nsIn K mainGlobals "_law_form" = some (some (.ref _z)))(l38:K.lookup _z=some ⟨oc38,od38,.func (fnOf "_law_form" "_law_form" (aG oE) (aF oE) (am oE) .none kV38 dc38 pm38 an38 XN ct38),sl38⟩)(c38:codeIn K XN "_law_form" = true)(k38:keepIn K (.ref _z)=true)(a39:nsIn K mainGlobals "_law_drawn" = some (some (.ref _y)))(l39:K.lookup _y=some ⟨oc39,od39,.func (fnOf "_law_drawn" "_law_drawn" (aG oR) (aF oR) (am oR) .none kV39 dc39 pm39 an39 XM ct39),sl39⟩)(c39:codeIn K XM "_law_drawn" = true)(k39:keepIn K (.ref _y)=true)(a40:nsIn K mainGlobals "_law_text" = some (some (.ref _x)))(Rp:K.lookup _x=some ⟨oc40,od40,.func (fnOf "_law_text" "_law_text" (aG oK) (aF oK) (am oK) .none kV40 dc40 pm40 an40 XJ ct40),sl40⟩)(c40:codeIn K XJ "_law_text" = true)(k40:keepIn K (.ref _x)=true)(Uy:nsIn K mainGlobals "_law_with" = some (some (.ref _w)))(l41:K.lookup _w=some ⟨oc41,od41,.func (fnOf "_law_with" "_law_with" (aG oJ) (aF oJ) (am oJ) .none kV41 dc41 pm41 an41 XI ct41),sl41⟩)(c41:codeIn K XI "_law_with" = true)(k41:keepIn K (.ref _w)=true)(a42:nsIn K mainGlobals "_law_put" = some (some (.ref _v)))(l42:K.lookup _v=some ⟨oc42,od42,.func (fnOf "_law_put" "_law_put" (aG oB) (aF oB) (am oB) .none kV42 dc42 pm42 an42 XH ct42),sl42⟩)(c42:codeIn K XH "_law_put" = true)(k42:keepIn K (.ref _v)=true)(a43:nsIn K mainGlobals "_law_out_of_place" = some (some (.ref _u)))(l43:K.lookup _u=some ⟨oc43,od43,.func (fnOf "_law_out_of_place" "_law_out_of_place" (aG pN) (aF pN) (am pN) .none kV43 dc43 pm43 an43 XG ct43),sl43⟩)(c43:codeIn K XG "_law_out_of_place" = true)(k43:keepIn K (.ref _u)=true)(a44:nsIn K mainGlobals "_law_bad_name" = some (some (.ref _t)))(l44:K.lookup _t=some ⟨oc44,od44,.func (fnOf "_law_bad_name" "_law_bad_name" (aG pj) (aF pj) (am pj) .none kV44 dc44 pm44 an44 XF ct44),sl44⟩)(c44:codeIn K XF "_law_bad_name" = true)(k44:keepIn K (.ref _t)=true)(a45:nsIn K mainGlobals "_law_bad_sign" = some (some (.ref _s)))(l45:K.lookup _s=some ⟨oc45,od45,.func (fnOf "_law_bad_sign" "_law_bad_sign" (aG ph) (aF ph) (am ph) .none kV45 dc45 pm45 an45 XE ct45),sl45⟩)(c45:codeIn K XE "_law_bad_sign" = true)(k45:keepIn K (.ref _s)=true)(a46:nsIn K mainGlobals "_law_bad_rule" = some (some (.ref _r)))(l46:K.lookup _r=some ⟨oc46,od46,.func (fnOf "_law_bad_rule" "_law_bad_rule" (aG pc) (aF pc) (am pc) .none kV46 dc46 pm46 an46 XD ct46),sl46⟩)(c46:codeIn K XD "_law_bad_rule" = true)(k46:keepIn K (.ref _r)=true)(a47:nsIn K mainGlobals "_law_great" = some (some (.ref _q)))(l47:K.lookup _q=some ⟨oc47,od47,.func (fnOf "_law_great" "_law_great" (aG oP) (aF oP) (am oP) .none kV47 dc47 pm47 an47 XC ct47),sl47⟩)(c47:codeIn K XC "_law_great" = true)(k47:keepIn K (.ref _q)=true)(a48:nsIn K mainGlobals "_law_faulty" = some (some (.ref _p)))(l48:K.lookup _p=some ⟨oc48,od48,.func (fnOf "_law_faulty" "_law_faulty" (aG oU) (aF oU) (am oU) .none kV48 dc48 pm48 an48 XA ct48),sl48⟩)(c48:codeIn K XA "_law_faulty" = true)(k48:keepIn K (.ref _p)=true)(a49:nsIn K mainGlobals "_law_refused" = some (some (.ref _o)))(l49:K.lookup _o=some ⟨oc49,od49,.func (fnOf "_law_refused" "_law_refused" (aG pe) (aF pe) (am pe) .none kV49 dc49 pm49 an49 Xz ct49),sl49⟩)(c49:codeIn K Xz "_law_refused" = true)(k49:keepIn K (.ref _o)=true)(a50:nsIn K mainGlobals "law" = some (some (.ref _n)))(l50:K.lookup _n=some ⟨oc50,od50,.func (fnOf "law" "law" (aG pQ) (aF pQ) (am pQ) .none kV50 dc50 pm50 an50 Xy ct50),sl50⟩)(c50:codeIn K Xy "law" = true)(k50:keepIn K (.ref _n)=true)(B8:nsIn K mainGlobals "ValueError" = some none)(Km:nsIn K mainGlobals "all" = some none)(Lg:nsIn K mainGlobals "bool" = some none)(GP:nsIn K mainGlobals "enumerate" = some none)(Kl:nsIn K mainGlobals "int" = some none)(d8:nsIn K mainGlobals "isinstance" = some none)(ff:nsIn K mainGlobals "len" = some none)(Lf:nsIn K mainGlobals "list" = some none)(Nz:nsIn K mainGlobals "max" = some none)(n_:nsIn K mainGlobals "range" = some none)(B7:nsIn K mainGlobals "reversed" = some none)(GO:nsIn K mainGlobals "str" = some none)(i':nsIn K mainGlobals "tuple" = some none)(Me:nsIn K mainGlobals "zip" = some none)(MB:nsIn K mainGlobals "LIMIT" = some (some (.int 1000000000000000000 Im)))(D1:nsIn K mainGlobals "MOST_SIGNS" = some (some (.int 40 v5)))(Ic:nsIn K mainGlobals "MOST_NUMS" = some (some (.int 12 A5)))(z4:nsIn K mainGlobals "MOST_LETTERS" = some (some (.int 8 q0)))(z9:nsIn K mainGlobals "MOST_FIGURES" = some (some (.int 18 q8)))(v_:nsIn K mainGlobals "MOST_PARTS" = some (some (.int 30 v7)))(w9:nsIn K mainGlobals "MOST_DEPTH" = some (some (.int 6 v8)))(v9:nsIn K mainGlobals "MOST_TERMS" = some (some (.int 3 v3)))(J7:nsIn K mainGlobals "SIGNS" = some (some (.str "abcdefghijklmnopqrstuvwxyz0123456789" Ik)))(HS:nsIn K mainGlobals "LETTERS" = some (some (.str "abcdefghijklmnopqrstuvwxyz" GZ)))(HU:nsIn K mainGlobals "FIGURES" = some (some (.str "0123456789" G0)))(IZ:nsIn K mainGlobals "PLACES" = some (some (.str "0123" Hw)))(Iw:nsIn K mainGlobals "QUOTE" = some (some (.str "\"" Il)))(GW:excIn K j3 Zx "ValueError.__new__" = true)(f_:excIn K b7 Zx "ValueError.__new__" = true)(Lm:findIn K (.ref b7) "__getattribute__" = some (some (.builtin "BaseException.__getattribute__")))(Ll:findIn K (.ref b7) "__getattr__" = some none)(Ln:findIn K (.ref b7) "__class__" = some (some (.builtin "object.__class__")))(Li:specialIn K (.builtin "object.__class__") "__get__" = some (some (.builtin "getset_descriptor.__get__")))(Lh:takesIn K (.builtin "object.__class__")=some true)(Lj:mroIn K b7 (.type "object")=some true)(Lk:mroIn K b7 (.type "BaseException")=some true)(o8:mroIn K b7 (.ref j3)=some true)(Hi:kitOne K (.ref b7) (.ref b7)=some true)(Hh:kitOne K (.ref b7) (.ref b_)=some false)(Hg:kitOne K (.ref b7) (.type "ValueError")=some true)(Hf:kitAny K (.ref b7) [.ref n5,.ref n4,.ref m_,.ref m9,.ref j6,.ref j7,.ref m8,.ref t6]=some false)(y_:excIn K b_ Zx "ValueError.__new__" = true)(JK:findIn K (.ref b_) "__getattribute__" = some (some (.builtin "BaseException.__getattribute__")))(JI:findIn K (.ref b_) "__getattr__" = some none)(JL:findIn K (.ref b_) "__class__" = some (some (.builtin "object.__class__")))(JF:specialIn K (.builtin "object.__class__") "__get__" = some (some (.builtin "getset_descriptor.__get__")))(JE:takesIn K (.builtin "object.__class__")=some true)(JG:mroIn K b_ (.type "object")=some true)(JH:mroIn K b_ (.type "BaseException")=some true)(o4:mroIn K b_ (.ref j3)=some true)(C9:kitOne K (.ref b_) (.ref b7)=some false)(C8:kitOne K (.ref b_) (.ref b_)=some true)(C7:kitOne K (.ref b_) (.type "ValueError")=some true)(C6:kitAny K (.ref b_) [.ref n5,.ref n4,.ref m_,.ref m9,.ref j6,.ref j7,.ref m8,.ref t6]=some false)(IE:plainGet K a_ Str.empty=true)(IH:hasDictIn K a_=true)(ID:plainOver K a_=true)(IC:findIn K (.ref a_) "__setattr__" = some (some (.builtin "object.__setattr__")))(IF:makesIn K a_=true)(IG:keepIn K (.ref a_)=true)(II:findIn K (.ref a_) "rows" = some none)(g8:findIn K (.ref a_) "open_words" = some none)(m7:findIn K (.ref a_) "inner_counts" = some none)(t_:findIn K (.ref a_) "closed" = some none){t9:Addr}{HC:List DictEntry}{Mp:Nat}{E4 D' D_ D9 D8 D7 D6 D5 D4 D3 z_:Addr}(J8:nsIn K mainGlobals "NEEDS" = some (some (.ref t9)))(OB:K.lookup t9=some ⟨.type "dict",none,.dict HC.toArray Mp,#[]⟩)(OC:KeysLit w.params HC)(OA:gM HC=[(("add" : Str),Value.ref E4),(("sub" : Str),Value.ref D'),(("mul" : Str),Value.ref D_),(("less" : Str),Value.ref D9),(("glue" : Str),Value.ref D8),(("show" : Str),Value.ref D7),(("size" : Str),Value.ref D6),(("put" : Str),Value.ref D5),(("link" : Str),Value.ref D4),(("at" : Str),Value.ref D3),(("many" : Str),Value.ref z_)])(JD:(t9 == sysModules)=false){L_:Option Addr}{M6:Nat}{LG:Array (Option Value)}{KI KH:Tok}(JA:K.lookup E4=some ⟨.type "tuple",L_,.seq #[.str "num" KI,.str "num" KH] M6,LG⟩){L9:Option Addr}{M5:Nat}{LF:Array (Option Value)}{KG KD:Tok}(Jz:K.lookup D'=some ⟨.type "tuple",L9,.seq #[.str "num" KG,.str "num" KD] M5,LF⟩){L8:Option Addr}{M4:Nat}{LD:Array (Option Value)}{KC KA:Tok}(Jy:K.lookup D_=some ⟨.type "tuple",L8,.seq #[.str "num" KC,.str "num" KA] M4,LD⟩){L7:Option Addr}{M3:Nat}{LC:Array (Option Value)}{Kz Ky:Tok}(Jx:K.lookup D9=some ⟨.type "tuple",L7,.seq #[.str "num" Kz,.str "num" Ky] M3,LC⟩){L6:Option Addr}{M1:Nat}{LB:Array (Option Value)}{Kx Kw:Tok}(Jw:K.lookup D8=some ⟨.type "tuple",L6,.seq #[.str "text" Kx,.str "text" Kw] M1,LB⟩){L5:Option Addr}{M0:Nat}{LA:Array (Option Value)}{Kv:Tok}(Jv:K.lookup D7=some ⟨.type "tuple",L5,.seq #[.str "num" Kv] M0,LA⟩){L4:Option Addr}{MZ:Nat}{Lz:Array (Option Value)}{Ku:Tok}(Ju:K.lookup D6=some ⟨.type "tuple",L4,.seq #[.str "text" Ku] MZ,Lz⟩){LZ:Option Addr}{MY:Nat}{Ly:Array (Option Value)}{Kt Ks:Tok}(Jt:K.lookup D5=some ⟨.type "tuple",LZ,.seq #[.str "row" Kt,.str "num" Ks] MY,Ly⟩){LY:Option Addr}{MX:Nat}{Lw:Array (Option Value)}{Kr Kq:Tok}(Js:K.lookup D4=some ⟨.type "tuple",LY,.seq #[.str "row" Kr,.str "row" Kq] MX,Lw⟩){LX:Option Addr}{MW:Nat}{Lu:Array (Option Value)}{Ko Kn:Tok}(Jr:K.lookup D3=some ⟨.type "tuple",LX,.seq #[.str "row" Ko,.str "num" Kn] MW,Lu⟩){KW:Option Addr}{LN:Nat}{KL:Array (Option Value)}{JN:Tok}(IB:K.lookup z_=some ⟨.type "tuple",KW,.seq #[.str "row" JN] LN,KL⟩){A7:Addr}{OD:Option Addr}{Qu:Nat}{NJ:Array (Option Value)}{MN MM ML:Tok}(J9:nsIn K mainGlobals "KINDS" = some (some (.ref A7)))(JV:K.lookup A7=some ⟨.type "tuple",OD,.seq #[.str "num" MN,.str "text" MM,.str "row" ML] Qu,NJ⟩)
 : ∃T:Q0,Tx K w mg T:=by
 have F0:=aY (st:=rA) l0 c0 k0;have F1:=aY (st:=oZ) l1 c1 k1;have F2:=aY (st:=rq) l2 c2 k2;have F3:=aY (st:=oY) l3 c3 k3;have F4:=aY (st:=oW) l4 c4 k4;have F5:=aY (st:=Bh) l5 c5 k5;have F6:=aY (st:=pE) l6 c6 k6;have F7:=aY (st:=pK) l7 c7 k7;have F8:=aY (st:=oV) l8 c8 k8;have F9:=aY (st:=oN) l9 c9 k9;have F10:=aY (st:=oX) l10 c10 k10;have F11:=aY (st:=oS) l11 c11 k11;have F12:=aY (st:=pd) l12 c12 k12;have F13:=aY (st:=pb) l13 c13 k13;have F14:=aY (st:=Bi) l14 c14 k14;have F15:=aY (st:=pi) l15 c15 k15;have F16:=aY (st:=pF) l16 c16 k16;have F17:=aY (st:=pq) l17 c17 k17;have F18:=aY (st:=pH) l18 c18 k18;have F19:=aY (st:=pI) Wo c19 k19;have F20:=aY (st:=pG) l20 c20 k20;have F21:=aY (st:=pz) l21 c21 k21;have F22:=aY (st:=pB) l22 c22 k22;have F23:=aY (st:=pJ) l23 c23 k23;have F24:=aY (st:=pO) l24 c24 k24;have F25:=aY (st:=pA) l25 c25 k25;have F26:=aY (st:=pC) l26 c26 k26;have F27:=aY (st:=pD) l27 c27 k27;have F28:=aY (st:=pM) l28 c28 k28;have F29:=aY (st:=pL) l29 c29 k29;have F30:=aY (st:=pP) l30 c30 k30;have F31:=aY (st:=oF) l31 c31 k31;have F32:=aY (st:=oI) l32 c32 k32;have F33:=aY (st:=oO) l33 c33 k33;have F34:=aY (st:=oH) l34 c34 k34;have F35:=aY (st:=oQ) l35 c35 k35;have F36:=aY (st:=oM) l36 c36 k36;have F37:=aY (st:=oG) l37 c37 k37;have F38:=aY (st:=oE) l38 c38 k38;have F39:=aY (st:=oR) l39 c39 k39;have F40:=aY (st:=oK) Rp c40 k40;have F41:=aY (st:=oJ) l41 c41 k41;have F42:=aY (st:=oB) l42 c42 k42;have F43:=aY (st:=pN) l43 c43 k43;have F44:=aY (st:=pj) l44 c44 k44;have F45:=aY (st:=ph) l45 c45 k45;have F46:=aY (st:=pc) l46 c46 k46;have F47:=aY (st:=oP) l47 c47 k47;have F48:=aY (st:=oU) l48 c48 k48;have F49:=aY (st:=pe) l49 c49 k49;have F50:=aY (st:=pQ) l50 c50 k50;exact⟨⟨f0,_,f1,_,f2,_,f3,_,f4,_,f5,_,f6,_,f7,_,f8,_,f9,_,Xu,_,Xt,_,Xs,_,Xr,_,Xq,_,Xp,_,_V,_,_U,_,_T,_,_S,_,_R,_,_Q,_,_P,_,_O,_,_N,_,_M,_,_L,_,_K,_,_J,_,_I,_,_H,_,_G,_,_F,_,_E,_,_D,_,_C,_,_B,_,_A,_,_z,_,_y,_,_x,_,_w,_,_v,_,_u,_,_t,_,_s,_,_r,_,_q,_,_p,_,_o,_,_n,_,Im,v5,A5,q0,q8,v7,v8,v3,Ik,GZ,G0,Hw,Il,j3,b7,b_,n4,m_,n5,m9,j6,j7,m8,t6,a_,t9,E4,D',D_,D9,D8,D7,D6,D5,D4,D3,z_,A7⟩,⟨F0,Hs (ps:=["thing"]) F0 rfl (λ_ _ _ _ _ _ _=>rfl),aai X G a0,F1,Hs (ps:=["thing"]) F1 rfl (λ_ _ _ _ _ _ _=>rfl),aai X G a1,F2,Hs (ps:=["thing"]) F2 rfl (λ_ _ _ _ _ _ _=>rfl),aai X G a2,F3,Kk (ps:=["kind", "thing"]) F3 rfl (λ_ _ _ _ _ _ _ _=>rfl),aai X G a3,F4,Hs (ps:=["word"]) F4 rfl (λ_ _ _ _ _ _ _=>rfl),aai X G a4,F5,Hs (ps:=["word"]) F5 rfl (λ_ _ _ _ _ _ _=>rfl),aai X G a5,F6,Hs (ps:=["word"]) F6 rfl (λ_ _ _ _ _ _ _=>rfl),aai X G a6,F7,Hs (ps:=["word"]) F7 rfl (λ_ _ _ _ _ _ _=>rfl),aai X G a7,F8,Kk (ps:=["text", "stops"]) F8 rfl (λ_ _ _ _ _ _ _ _=>rfl),aai X G a8,F9,Hs (ps:=["self"]) F9 rfl (λ_ _ _ _ _ _ _=>rfl),⟨a9,i9,k9⟩,F10,Pr (ps:=["self", "word", "count"]) F10 rfl (λ_ _ _ _ _ _ _ _ _=>rfl),⟨a10,i10,k10⟩,F11,Kk (ps:=["self", "word"]) F11 rfl (λ_ _ _ _ _ _ _ _=>rfl),⟨a11,i11,k11⟩,F12,Kk (ps:=["self", "word"]) F12 rfl (λ_ _ _ _ _ _ _ _=>rfl),⟨a12,i12,k12⟩,F13,Hs (ps:=["self"]) F13 rfl (λ_ _ _ _ _ _ _=>rfl),⟨a13,i13,k13⟩,F14,Hs (ps:=["self"]) F14 rfl (λ_ _ _ _ _ _ _=>rfl),⟨a14,i14,k14⟩,F15,Hs (ps:=["self"]) F15 rfl (λ_ _ _ _ _ _ _=>rfl),⟨a15,i15,k15⟩,F16,Kk (ps:=["text", "between"]) F16 rfl (λ_ _ _ _ _ _ _ _=>rfl),aai X G a16,F17,Hs (ps:=["rows"]) F17 rfl (λ_ _ _ _ _ _ _=>rfl),aai X G a17,F18,Kk (ps:=["ready", "count"]) F18 rfl (λ_ _ _ _ _ _ _ _=>rfl),aai X G a18,F19,Hs (ps:=["word"]) F19 rfl (λ_ _ _ _ _ _ _=>rfl),aai X G a19,F20,Hs (ps:=["word"]) F20 rfl (λ_ _ _ _ _ _ _=>rfl),aai X G a20,F21,Kk (ps:=["deed", "terms"]) F21 rfl (λ_ _ _ _ _ _ _ _=>rfl),aai X G a21,F22,Hs (ps:=["text"]) F22 rfl (λ_ _ _ _ _ _ _=>rfl),aai X G a22,F23,Hs (ps:=["word"]) F23 rfl (λ_ _ _ _ _ _ _=>rfl),aai X G a23,F24,Hs (ps:=["word"]) F24 rfl (λ_ _ _ _ _ _ _=>rfl),aai X G a24,F25,Hs (ps:=["words"]) F25 rfl (λ_ _ _ _ _ _ _=>rfl),aai X G a25,F26,Hs (ps:=["words"]) F26 rfl (λ_ _ _ _ _ _ _=>rfl),aai X G a26,F27,Hs (ps:=["words"]) F27 rfl (λ_ _ _ _ _ _ _=>rfl),aai X G a27,F28,Hs (ps:=["lines"]) F28 rfl (λ_ _ _ _ _ _ _=>rfl),aai X G a28,F29,Hs (ps:=["rules"]) F29 rfl (λ_ _ _ _ _ _ _=>rfl),aai X G a29,F30,Hs (ps:=["text"]) F30 rfl (λ_ _ _ _ _ _ _=>rfl),aai X G a30,F31,Kk (ps:=["_law_script", "_law_many"]) F31 rfl (λ_ _ _ _ _ _ _ _=>rfl),aai X G a31,F32,Kk (ps:=["_law_cell", "_law_k"]) F32 rfl (λ_ _ _ _ _ _ _ _=>rfl),aai X G a32,F33,Hs (ps:=["_law_found"]) F33 rfl (λ_ _ _ _ _ _ _=>rfl),aai X G a33,F34,Kk (ps:=["_law_found", "_law_due"]) F34 rfl (λ_ _ _ _ _ _ _ _=>rfl),aai X G a34,F35,Pr (ps:=["_law_cell", "_law_word_here", "_law_many"]) F35 rfl (λ_ _ _ _ _ _ _ _ _=>rfl),aai X G a35,F36,Kk (ps:=["_law_cell", "_law_word_here"]) F36 rfl (λ_ _ _ _ _ _ _ _=>rfl),aai X G a36,F37,Kk (ps:=["_law_cell", "_law_word_here"]) F37 rfl (λ_ _ _ _ _ _ _ _=>rfl),aai X G a37,F38,Pr (ps:=["_law_cell", "_law_deck_here", "_law_word_here"]) F38 rfl (λ_ _ _ _ _ _ _ _ _=>rfl),aai X G a38,F39,Hs (ps:=["_law_deck_here"]) F39 rfl (λ_ _ _ _ _ _ _=>rfl),aai X G a39,F40,Hs (ps:=["_law_lines"]) F40 rfl (λ_ _ _ _ _ _ _=>rfl),aai X G a40,F41,Pr (ps:=["_law_rows", "_law_at", "_law_new"]) F41 rfl (λ_ _ _ _ _ _ _ _ _=>rfl),aai X G Uy,F42,Pr (ps:=["_law_rows", "_law_at", "_law_new"]) F42 rfl (λ_ _ _ _ _ _ _ _ _=>rfl),aai X G a42,F43,Pr (ps:=["_law_lines", "_law_way", "_law_cell"]) F43 rfl (λ_ _ _ _ _ _ _ _ _=>rfl),aai X G a43,F44,Kk (ps:=["_law_cell", "_law_name"]) F44 rfl (λ_ _ _ _ _ _ _ _=>rfl),aai X G a44,F45,Pr (ps:=["_law_words", "_law_way", "_law_cell"]) F45 rfl (λ_ _ _ _ _ _ _ _ _=>rfl),aai X G a45,F46,Pr (ps:=["_law_words", "_law_way", "_law_cell"]) F46 rfl (λ_ _ _ _ _ _ _ _ _=>rfl),aai X G a46,F47,Hs (ps:=["_law_cell"]) F47 rfl (λ_ _ _ _ _ _ _=>rfl),aai X G a47,F48,Pr (ps:=["_law_lines", "_law_way", "_law_cell"]) F48 rfl (λ_ _ _ _ _ _ _ _ _=>rfl),aai X G a48,F49,Kk (ps:=["_law_text_here", "_law_great_here"]) F49 rfl (λ_ _ _ _ _ _ _ _=>rfl),aai X G a49,F50,Hs (ps:=["_law_script"]) F50 rfl (λ_ _ _ _ _ _ _=>rfl),aai X G a50,aa9 X G B8,aa9 X G Km,aa9 X G Lg,aa9 X G GP,aa9 X G Kl,aa9 X G d8,aa9 X G ff,aa9 X G Lf,aa9 X G Nz,aa9 X G n_,aa9 X G B7,aa9 X G GO,aa9 X G i',aa9 X G Me,aai X G MB,aai X G D1,aai X G Ic,aai X G z4,aai X G z9,aai X G v_,aai X G w9,aai X G v9,aai X G J7,aai X G HS,aai X G HU,aai X G IZ,aai X G Iw,aai X G GS,GW,aai X G g_,f_,⟨f_,Lm,Ll,Ln,Li,Lh,Lj,Lk⟩,o8,Hi,Hh,Hg,Hf,aai X G C4,y_,⟨y_,JK,JI,JL,JF,JE,JG,JH⟩,o4,C9,C8,C7,C6,aai X G IP,aai X G IM,aai X G IQ,aai X G IL,aai X G HK,aai X G HL,aai X G IK,aai X G LM,aai X G C5,aai X G J8,⟨HC,Mp,OB,OC,OA⟩,JD,λ_=>.inr ⟨_,_,_,JA,rfl,rfl,Z2,.cons ⟨_,rfl⟩ (.cons ⟨_,rfl⟩ (.nil))⟩,λ_=>.inr ⟨_,_,_,Jz,rfl,rfl,Z2,.cons ⟨_,rfl⟩ (.cons ⟨_,rfl⟩ (.nil))⟩,λ_=>.inr ⟨_,_,_,Jy,rfl,rfl,Z2,.cons ⟨_,rfl⟩ (.cons ⟨_,rfl⟩ (.nil))⟩,λ_=>.inr ⟨_,_,_,Jx,rfl,rfl,Z2,.cons ⟨_,rfl⟩ (.cons ⟨_,rfl⟩ (.nil))⟩,λ_=>.inr ⟨_,_,_,Jw,rfl,rfl,Z2,.cons ⟨_,rfl⟩ (.cons ⟨_,rfl⟩ (.nil))⟩,λ_=>.inr ⟨_,_,_,Jv,rfl,rfl,Z1,.cons ⟨_,rfl⟩ (.nil)⟩,λ_=>.inr ⟨_,_,_,Ju,rfl,rfl,Z1,.cons ⟨_,rfl⟩ (.nil)⟩,λ_=>.inr ⟨_,_,_,Jt,rfl,rfl,Z2,.cons ⟨_,rfl⟩ (.cons ⟨_,rfl⟩ (.nil))⟩,λ_=>.inr ⟨_,_,_,Js,rfl,rfl,Z2,.cons ⟨_,rfl⟩ (.cons ⟨_,rfl⟩ (.nil))⟩,λ_=>.inr ⟨_,_,_,Jr,rfl,rfl,Z2,.cons ⟨_,rfl⟩ (.cons ⟨_,rfl⟩ (.nil))⟩,λ_=>.inr ⟨_,_,_,IB,rfl,rfl,Z1,.cons ⟨_,rfl⟩ (.nil)⟩,aai X G J9,λ_=>.inr ⟨_,_,_,JV,rfl,rfl,Z3,.cons ⟨_,rfl⟩ (.cons ⟨_,rfl⟩ (.cons ⟨_,rfl⟩ (.nil)))⟩,⟨IE,IH,ID,IC⟩,⟨IF,a9,i9,IG⟩,II,g8,m7,t_⟩⟩
end Je
namespace TR
open PySem L2 TM
end TR
namespace NS
open PySem L2 TM
inductive Ns where
 |n (w:List Nat) (ins:List Ns)
mutual
noncomputable def txt(sep:Nat):Ns->List Nat
 |.n w ins=>w++brk sep ins
noncomputable def brk(sep:Nat):List Ns->List Nat
 |[]=>[]
 |i::is=>40::(txt sep i++(uH sep is++[41]))
noncomputable def uH(sep:Nat):List Ns->List Nat
 |[]=>[]
 |i::is=>sep::(txt sep i++uH sep is)
end
noncomputable def Wt(sep:Nat):List Ns->List Nat
 |[]=>[]
 |i::is=>txt sep i++uH sep is
abbrev Row:=Str×Nat×Nat
mutual
noncomputable def rws(l:Nat):Ns->List Row
 |.n w ins=>gc (l+1) ins++[(i8 w,ins.length,l)]
noncomputable def gc(l:Nat):List Ns->List Row
 |[]=>[]
 |i::is=>rws l i++gc l is
end
noncomputable def Kb(sep c:Nat):Bool:=c == 40||c == sep||c == 41
inductive Cl(sep:Nat):Ns->Prop
 |n {w:List Nat} {ins:List Ns}:(∀c∈w,Kb sep c=false)->(∀i∈ins,Cl sep i)->Cl sep (.n w ins)
noncomputable def o6(sep:Nat)(acc:List Nat):List Nat->List (Str×Str)
 |[]=>[(i8 acc,i8 [])]
 |c::r=>if Kb sep c=true then(i8 acc,i8 [c])::o6 sep [] r else o6 sep (acc++[c]) r
theorem mT(sep:Nat){w:List Nat}:∀{acc r:List Nat},(∀c∈w,Kb sep c=false)->o6 sep acc (w++r)=o6 sep (acc++w) r:=by
 induction w with
 |nil=>intro acc r _;rw[aaS,aaW]
 |cons c w ih=>
  intro acc r h;rw[aaE,o6,aaK (by rw[h c (by simp)];decide),ih λx hx=>h x (by simp[hx]),aas];rfl
def gz{sep c:Nat}{acc r:List Nat}(h:Kb sep c=true):o6 sep acc (c::r)=(i8 acc,i8 [c])::o6 sep [] r:=by rw[o6,aaX h]
def Es(sep:Nat):Kb sep 40=true:=by unfold Kb;simp
def Er(sep:Nat):Kb sep 41=true:=by unfold Kb;simp
def Gn(sep:Nat):Kb sep sep=true:=by unfold Kb;simp
theorem Iq(sep:Nat):∀(z acc:List Nat),(o6 sep acc z).length<=z.length+1
 |[],acc=>by rw[o6];simp
 |c::z,acc=>by
  rw[o6];split
  ·rw[aac,aac];have:=Iq sep z []
   lia
  ·have:=Iq sep z (acc++[c]);rw[aac]
   lia
structure Ms where
 rs:List Row
 op:List (Str×Nat)
 cl:Bool
inductive j_:Ms->Str->List Row->Prop
 |word {rs:List Row} {op:List (Str×Nat)} {w:Str}:j_ ⟨rs,op,false⟩ w (rs++[(w,0,op.length+1)])
 |again {rs:List Row} {op:List (Str×Nat)}:j_ ⟨rs,op,true⟩ (i8 []) rs
inductive Step(sep:Nat):Ms->Str×Str->Ms->Prop
 |Nr {rs:List Row} {op:List (Str×Nat)} {w:Str}:Step sep ⟨rs,op,false⟩ (w,i8 [40]) ⟨rs,op++[(w,0)],false⟩
 |mid {rs C3:List Row} {op:List (Str×Nat)} {cl:Bool} {o w:Str} {c:Nat}:j_ ⟨rs,op++[(o,c)],cl⟩ w C3->Step sep ⟨rs,op++[(o,c)],cl⟩ (w,i8 [sep]) ⟨C3,op++[(o,c+1)],false⟩
 |cls {rs C3:List Row} {op:List (Str×Nat)} {cl:Bool} {o w:Str} {c:Nat}:j_ ⟨rs,op++[(o,c)],cl⟩ w C3->Step sep ⟨rs,op++[(o,c)],cl⟩ (w,i8 [41]) ⟨C3++[(o,c+1,op.length+1)],op,true⟩
 |fin {rs C3:List Row} {op:List (Str×Nat)} {cl:Bool} {w:Str}:j_ ⟨rs,op,cl⟩ w C3->Step sep ⟨rs,op,cl⟩ (w,i8 []) ⟨C3,op,cl⟩
def Run(sep:Nat):Ms->List (Str×Str)->Ms->Prop
 |st,[],Jh=>st=Jh
 |st,p::ps,Jh=>∃A1,Step sep st p A1/\Run sep A1 ps Jh
noncomputable def Vb(rs:List Row)(op:List (Str×Nat))(i:Ns):Ms×List Nat:=
 match i with
 |.n w []=>(⟨rs,op,false⟩,w)
 |.n w (j::js)=>(⟨rs++rws (op.length+1) (.n w (j::js)),op,true⟩,[])
theorem my(rs:List Row)(op:List (Str×Nat))(i:Ns):∃cl,(Vb rs op i).1=⟨(Vb rs op i).1.rs,op,cl⟩/\j_ ⟨(Vb rs op i).1.rs,op,cl⟩ (i8 (Vb rs op i).2) (rs++rws (op.length+1) i):=by
 match i with
 |.n w []=>
  refine⟨false,rfl,?_⟩;have e:rws (op.length+1) (.n w [])=[(i8 w,0,op.length+1)]:=by rw[rws,gc];rfl
  rw[e];exact .word
 |.n w (j::js)=>exact⟨true,rfl,.again⟩
mutual
theorem lN{sep:Nat}:∀(i:Ns),Cl sep i->∀(rs:List Row)(op:List (Str×Nat))(r:List Nat)(st:Ms),Run sep (Vb rs op i).1 (o6 sep (Vb rs op i).2 r) st->Run sep ⟨rs,op,false⟩ (o6 sep [] (txt sep i++r)) st
 |.n w [],h,rs,op,r,st,g=>by
  cases h with
  |n hw hi=>
   rw[txt,brk,aaW,mT sep hw];exact g
 |.n w (j::js),h,rs,op,r,st,g=>by
  cases h with
  |n hw hi=>
   rw[txt,brk,aas,mT sep hw,aaE,gz (Es sep)];refine⟨_,.Nr,?_⟩;have et:(txt sep j++(uH sep js++[41]))++r=Wt sep (j::js)++([41]++r):=by rw[Wt];simp
   rw[et];have e:rws (op.length+1) (.n w (j::js))=gc (op.length+2) (j::js)++[(i8 w,js.length+1,op.length+1)]:=by rw[rws];rfl
   have g':Run sep ⟨rs++rws (op.length+1) (.n w (j::js)),op,true⟩ (o6 sep [] r) st:=g;rw[e,<-aas]at g';refine mM (j::js) hi rs op (i8 w) 0 r st (adg _ _) ?_;rw[Nat.zero_add];exact g'
theorem mM{sep:Nat}:∀(js:List Ns),(∀x∈js,Cl sep x)->∀(rs:List Row)(op:List (Str×Nat))(o:Str)(c:Nat)(r:List Nat)(st:Ms),js≠[] ->
 Run sep ⟨(rs++gc (op.length+2) js)++[(o,c+js.length,op.length+1)],op,true⟩ (o6 sep [] r) st->Run sep ⟨rs,op++[(o,c)],false⟩ (o6 sep [] (Wt sep js++([41]++r))) st
 |[],WR,rs,op,o,c,r,st,hn,g=>absurd rfl hn
 |[j],WR,rs,op,o,c,r,st,hn,g=>by
  have hj:=WR j (by simp);rw[Wt,uH,aaW];refine lN j hj rs (op++[(o,c)]) _ st ?_;obtain⟨cl,es,he⟩:=my rs (op++[(o,c)]) j;rw[aaE,aaS,gz (Er sep),es];refine⟨_,.cls he,?_⟩;have e:gc (op.length+2) [j]=rws ((op++[(o,c)]).length+1) j:=by rw[gc,gc,aaW,aaa];rfl
  rw[e]at g;exact g
 |j::k::ks,WR,rs,op,o,c,r,st,hn,g=>by
  have hj:=WR j (by simp);rw[Wt,aas];refine lN j hj rs (op++[(o,c)]) _ st ?_;obtain⟨cl,es,he⟩:=my rs (op++[(o,c)]) j;rw[uH,aaE,gz (Gn sep),es];refine⟨_,.mid he,?_⟩;refine mM (k::ks) (λx hx=>WR x (by simp[hx])) _ op o (c+1) r st (adg _ _) ?_;have e:rs++gc (op.length+2) (j::k::ks)=(rs++rws ((op++[(o,c)]).length+1) j)++gc (op.length+2) (k::ks):=by rw[gc,aas,aaa];rfl
  have ec:c+(j::k::ks).length=c+1+(k::ks).length:=by rw[aac,aac];lia
  rw[e,ec]at g;exact g
end
def t7{sep:Nat}{i:Ns}(h:Cl sep i):∃cl,Run sep ⟨[],[],false⟩ (o6 sep [] (txt sep i)) ⟨rws 1 i,[],cl⟩:=by
 obtain⟨cl,es,he⟩:=my [] [] i;refine⟨cl,?_⟩;have g:=lN i h [] [] [] ⟨rws 1 i,[],cl⟩ ?_
 ·rw[aaW]at g;exact g
 ·rw[o6,es];exact⟨_,.fin he,rfl⟩
variable{st:Ms}
theorem Iv{w:Str}{rs:List Row}(h:j_ st w rs):rs.length<=st.rs.length+1:=by
 cases h with
 |word=>rw[aaa];simp
 |again=>exact aca _
theorem Mj{sep:Nat}{A1:Ms}{p:Str×Str}(h:Step sep st p A1):A1.rs.length<=st.rs.length+2/\A1.op.length<=st.op.length+1:=by
 cases h with
 |Nr=>simp
 |mid he=>have:=Iv he;simp at this⊢;lia
 |cls he=>have:=Iv he;simp at this⊢;lia
 |fin he=>have:=Iv he;simp at this⊢;lia
mutual
noncomputable def many:Ns->Nat
 |.n _ ins=>1+jE ins
noncomputable def jE:List Ns->Nat
 |[]=>0
 |i::is=>many i+jE is
end
mutual
theorem rD:∀(i:Ns){l:Nat},(rws l i).length=many i
 |.n w ins,l=>by rw[rws,many,aaa,mL ins];simp;lia
theorem mL:∀(is:List Ns){l:Nat},(gc l is).length=jE is
 |[],l=>by rw[gc,jE];rfl
 |i::is,l=>by rw[gc,jE,aaa,rD i,mL is]
end
end NS
namespace TR
open PySem L2 TM NS
end TR
namespace Je
open PySem L2 NS TR
open TM hiding j_ Ms Run Step o6 t7
noncomputable def HM(s:Str)(c:Nat):Bool:=!(Builtin.Str.occurrences s ⟨#[c]⟩ 0 s.length 1).isEmpty
abbrev P4:Str:="abcdefghijklmnopqrstuvwxyz"
abbrev P5:Str:="0123456789"
abbrev S3:Str:="(,)"
def GC:∀c,c<128->ce c=true->HM P4 c=true:=by decide +kernel
def GD:∀c,c<128->cy c=true->HM P5 c=true:=by decide +kernel
def in3:∀c,c<128->HM S3 c=Kb 44 c:=by decide +kernel
variable{c:Nat}
theorem re(h:bR c=true):c<128:=by
 unfold bR ce cy at h;simp only[abg,aaU,aau]at h
 lia
def Dt(h:ce c=true):c<128:=re (by unfold bR;rw[h];rfl)
def DS(h:cy c=true):c<128:=re (by unfold bR;rw[h,ac9])
noncomputable def oh(s z:Str):Bool:=z.cps.toList.all λc=>HM s c
variable{s z:Str}
def AZ(h:∀c∈z.cps.toList,HM s c=true):oh s z=true:=List.all_eq_true.mpr h
noncomputable def MV(z:Str):Bool:=(decide (1<=z.length)&&decide (z.length<=8))&&oh P4 z
noncomputable def uA(z:Str):Bool:=(decide (1<=z.length)&&decide (z.length<=18))&&(!(decide (z.cps.toList.head?=some 48)&&!decide (z = "0"))&&oh P5 z)
def BN:Sp:=λvs H Q _=>∃z,vs=[.str z]/\z.length<=20000/\∀H',b6 H H'->Q (.bl (MV z)) H'
def uM:Sp:=λvs H Q _=>∃z,vs=[.str z]/\z.length<=20000/\∀H',b6 H H'->Q (.bl (uA z)) H'
variable{x:Str}
theorem kN{j:Nat}(h:j<=x.cps.toList.length):(Txt.slice x (some (j:Int)) none).cps.toList=x.cps.toList.drop j:=by have:=PySem.StrLaws.sliceText_from (x:=x) (i:=(j:Int)) ⟨by lia,by lia⟩;have e:Txt.slice x (some (j:Int)) none=PySem.StrLaws.sliceText x (some (j:Int)) none:=rfl;rw[e,this];simp;rw[aaF (by simp)]
variable{k:Int}
def fP(j:Nat)(e:k=(j:Int))(h:j<=x.cps.toList.length):(Txt.slice x (some k) none).cps.toList=x.cps.toList.drop j:=by rw[e];exact kN h
theorem Fs{l:List Nat}(h:l.head?=some c):y6 l 0=some c:=by
 cases l with
 |nil=>cases h
 |cons a r=>exact(cb a r).trans h
variable{H:Hp}{σ:St}{t u:TS}{D:mC}
def DJ{c:TT}(A B:Hp->Prop)(hc:∀Q:Bool->Hp->Prop,(∀H1,A H1->Q true H1)->(∀H1,B H1->Q false H1)->c σ H Q)(h1:∀H1,A H1->t D σ H1)(h2:∀H1,B H1->u D σ H1):P9 c t u D σ H:=by
 refine hc _ (λH1 a=>?_) (λH1 b=>?_)
 ·exact fX (h1 H1 a)
 ·exact fH (h2 H1 b)
def dc{c:TT}{rest:TS}(A B:Hp->Prop)(hc:∀Q:Bool->Hp->Prop,(∀H1,A H1->Q true H1)->(∀H1,B H1->Q false H1)->c σ H Q)(h1:∀H1,A H1->t { D with nx:=rest D } σ H1)(h2:∀H1,B H1->u { D with nx:=rest D } σ H1):NH (P9 c t u) rest D σ H:=DJ A B hc h1 h2
def iF{c A B:Prop}[Decidable c](h1:¬c->A)(h2:c->B):if(!decide c)=true then A else B:=by
 by_cases h:c
 ·rw[aa0 h];exact fH (h2 h)
 ·rw[aaH h];exact fX (h1 h)
def JX{d:Nat}:(V.str ⟨#[c]⟩=V.str ⟨#[d]⟩)↔c=d:=⟨λh=>by
 have:=aaN (λs:Str=>s.cps.toList) (V.str.inj h);simpa using this,λh=>by rw[h]⟩
def xK:(Str.ofString "0")=⟨#[48]⟩:=by decide
theorem AA{l:List Nat}(h:l≠[]):∃c,l.head?=some c/\c∈l:=by
 cases l with
 |nil=>exact absurd rfl h
 |cons a r=>exact⟨a,rfl,by simp⟩
def sF(h:1<=z.length):z.cps.toList≠[]:=λe=>by rw[aq,e]at h;exact absurd h (by decide)
def ay(a b:Str):(a++b).length=a.length+b.length:=by rw[aq,aq,aq,ap,aaa]
def nv{l:Int}(a b:Nat)(ea:k=(a:Int))(eb:l=(b:Int))(RB:a<=b)(hb:b<=x.cps.toList.length):(Txt.slice x (some k) (some l)).cps.toList=(x.cps.toList.take b).drop a:=by subst ea eb;have e:Txt.slice x (some (a:Int)) (some (b:Int))=PySem.StrLaws.sliceText x (some (a:Int)) (some (b:Int)):=rfl;rw[e,PySem.StrLaws.sliceText_nat x RB (by rw[aq];exact hb)];show((x.cps.toList.drop a).take (b-a)).toArray.toList=_;rw[List.toList_toArray,<-List.drop_take]
variable{P:Program}{w:World}{K:W.Frag}{mg:Str->Option Value}{base:Heap}{T:Q0}
theorem sj(X:Tx K w mg T):d9 P w K mg base E6 1 T.qB T.Uu ["word"] BN:=by
 refine X.UD.G9 EO (λvs H Q E h=>?_) (λj8 A outer s H vs Q E hr h=>?_)
 ·obtain⟨_,rfl,_⟩:=h;rfl
 obtain⟨x,rfl,hx,q⟩:=h;refine⟨_,(af (be (cE (mP vw vw aj (aA bC rfl X.ff aay (d5 (qv 0) ac)) (bt rfl X.z4 (v:=V.int 8) ⟨_,rfl⟩))) (ao (aH dZ)) aI) (ao (aH (aA (jW rfl) rfl X.Km acI (SM (gV (ys:=[]) (js:=[]) rfl rfl (rH (qv 0)) (λ_ _ _ _ _=>cJ) (λ_ _ _ _ _=>(cR eU (qv 0) (bt rfl X.HS (v:=V.str "abcdefghijklmnopqrstuvwxyz") ⟨_,rfl⟩) rfl))) ac))))),?_⟩;dsimp only[cq];refine⟨_,rfl,x,rfl,aO (by lia),_,_,rfl,rfl,_,rfl,bI (λh1=>⟨_,_,rfl,rfl,_,rfl,iF (λh8=>?_) (λh8=>?_)⟩) (λh1=>?_)⟩
 ·have e:MV x=false:=by
   unfold MV;rw[aaH (show¬x.length<=8 by lia),acm,abH]
  rw[e]at q;exact q H (b6.refl _)
 ·have e:MV x=oh P4 x:=by
   unfold MV;rw[aa0 (show 1<=x.length by lia),aa0 (show x.length<=8 by lia)];rfl
  rw[e]at q;refine⟨_,rfl,x,rfl,λD hD=>iw (ys:=x.cps.toList.map λc=>V.bl (HM P4 c)) (bX (by show x.length<=_;lia)) (by simp) hD (λi c y H' hc hy sm Q' q'=>?_) (λH' sm hl=>⟨D,x.cps.toList.map (HM P4),rfl,c_.of (by rw[hl,aci];rfl),?_⟩)⟩
  ·refine⟨_,rfl,_,_,rfl,rfl,?_⟩;have e:y=V.bl (HM P4 c):=by
    rw[aaI,abB,hc]at hy;exact(aaq hy).symm
   rw[e]at q';exact q' _ (b6.refl _)
  ·have e:(x.cps.toList.map (HM P4)).all id=oh P4 x:=by
    rw[ac8];rfl
   rw[e];exact q H' sm
 ·have e:MV x=false:=by
   unfold MV;rw[aaH (show¬1<=x.length by lia),abH,abH]
  rw[e]at q;exact⟨_,rfl,FX rfl (q H (b6.refl _))⟩
theorem sf(X:Tx K w mg T):d9 P w K mg base E6 1 T.qAL T.Pb ["word"] uM:=by
 refine X.Sn.G9 Cw (λvs H Q E h=>?_) (λj8 A outer s H vs Q E hr h=>?_)
 ·obtain⟨_,rfl,_⟩:=h;rfl
 obtain⟨x,rfl,hx,q⟩:=h;refine⟨_,(af (be (cE (mP vw vw aj (aA bC rfl X.ff aay (d5 (qv 0) ac)) (bt rfl X.z9 (v:=V.int 18) ⟨_,rfl⟩))) (ao (aH dZ)) aI) (af (be (eN (iS (aC bM (aU fq (qv 0) aj (λ_ _=>rfl)) ak (aK _)) (fK (aC gY (qv 0) ak (aK _))))) (ao (aH dZ)) aI) (ao (aH (aA (jW rfl) rfl X.Km acI (SM (gV (ys:=[]) (js:=[]) rfl rfl (rH (qv 0)) (λ_ _ _ _ _=>cJ) (λ_ _ _ _ _=>(cR eU (qv 0) (bt rfl X.HU (v:=V.str "0123456789") ⟨_,rfl⟩) rfl))) ac)))))),?_⟩;dsimp only[cq];refine⟨_,rfl,x,rfl,aO (by lia),_,_,rfl,rfl,_,rfl,bI (λh1=>⟨_,_,rfl,rfl,_,rfl,iF (λh8=>?_) (λh8=>?_)⟩) (λh1=>?_)⟩
 ·have e:uA x=false:=by
   unfold uA;rw[aaH (show¬x.length<=18 by lia),acm,abH]
  rw[e]at q;exact q H (b6.refl _)
 ·have e:uA x=(!(decide (x.cps.toList.head?=some 48)&&!decide (x = "0"))&&oh P5 x):=by
   unfold uA;rw[aa0 (show 1<=x.length by lia),aa0 (show x.length<=18 by lia)];rfl
  rw[e]at q;obtain⟨c,hc,hm⟩:=AA (sF (z:=x) (by lia));unfold Jp;dsimp only;refine dc (λH1=>Q (.bl false) H1) (λH1=>H1=H/\(decide (x.cps.toList.head?=some 48)&&!decide (x = "0"))=false) (λQ' qT qF=>?_) (λH1 q=>q) (λH1 e=>?_)
  ·refine⟨_,rfl,x,0,c,rfl,rfl,aO (by lia),Fs hc,rfl,_,rfl,bI (λh=>?_) (λh=>qF H ⟨rfl,?_⟩)⟩
   ·have h48:c=48:=JX.mp (h.trans (by rw[xK]));refine⟨_,rfl,rfl,_,rfl,?_⟩;by_cases Tw:V.str x=V.str "0"
    ·rw[aa0 Tw];exact qF H ⟨rfl,by rw[aa0 (V.str.inj Tw)];simp⟩
    ·rw[aaH Tw];refine qT H ?_;have e2:(decide (x.cps.toList.head?=some 48)&&!decide (x = "0"))=true:=by
      rw[hc,h48,aa0 rfl,aaH (λz=>Tw (by rw[z]))];rfl
     rw[e2]at q;exact q H (b6.refl _)
   ·have:¬x.cps.toList.head?=some 48:=λz=>h (by rw[hc]at z;rw[aaq z,xK]);rw[aaH this];rfl
  ·obtain⟨rfl,e⟩:=e;rw[e]at q;refine⟨_,rfl,x,rfl,λD hD=>iw (ys:=x.cps.toList.map λc=>V.bl (HM P5 c)) (bX (by show x.length<=_;lia)) (by simp) hD (λi c y H' hc hy sm Q' q'=>?_) (λH' sm hl=>⟨D,x.cps.toList.map (HM P5),rfl,c_.of (by rw[hl,aci];rfl),?_⟩)⟩
   ·refine⟨_,rfl,_,_,rfl,rfl,?_⟩;have e:y=V.bl (HM P5 c):=by
     rw[aaI,abB,hc]at hy;exact(aaq hy).symm
    rw[e]at q';exact q' _ (b6.refl _)
   ·have e:(x.cps.toList.map (HM P5)).all id=oh P5 x:=by
     rw[ac8];rfl
    rw[e];exact q H' sm
 ·have e:uA x=false:=by
   unfold uA;rw[aaH (show¬1<=x.length by lia),abH,abH]
  rw[e]at q;exact⟨_,rfl,FX rfl (q H (b6.refl _))⟩
def Jn(H:Hp)(p:Str×Str)(v:V):Prop:=∃a,v=.ref a/\H a=some (.tup [.str p.1,.str p.2])
variable{p:Str×Str}{v:V}{H':Hp}
def Jn.same(e:n6 H H')(h:Jn H p v):Jn H' p v:=by obtain⟨a,x,y⟩:=h;exact⟨a,x,e _ _ y⟩
variable{b:Addr}{o:HO}
def aP{a:Addr}(h:H a=some o)(n:H b=none):b≠a:=λz=>by rw[z,h]at n;cases n
def uL:Sp:=λvs H Q _=>∃(z st:Str)(sep:Nat),vs=[.str z,.str st]/\z.length<=20000/\(∀c∈z.cps.toList,HM st c=Kb sep c)/\st.length<=3 /\
 ∀l us H',b6 H H'->H l=none->H' l=some (.lst us)->g9 (Jn H') (o6 sep [] z.cps.toList) us->Q (.ref l) H'
variable{L:List Nat}{i:Nat}
theorem iK{s:Nat}(hs:s<=i)(hc:L[i]?=some c):(L.take (i+1)).drop s=(L.take i).drop s++[c]:=by have hi:i<L.length:=(List.getElem?_eq_some_iff.mp hc).1;rw[List.take_succ,hc,adj (by rw[aaD];lia)];rfl
def kX(hc:L[i]?=some c):L.drop i=c::L.drop (i+1):=by obtain⟨hi,e⟩:=List.getElem?_eq_some_iff.mp hc;rw[abt hi,e]
theorem se(X:Tx K w mg T):d9 P w K mg base E6 1 T.qBD T.OT ["text", "stops"] uL:=by
 refine X.R9.G9 HI (λvs H Q E h=>?_) (λj8 A outer s H vs Q E hr h=>?_)
 ·obtain⟨_,_,_,rfl,_⟩:=h;rfl
 obtain⟨z,st,sep,rfl,hz,UY,hst3,q⟩:=h;refine⟨_,(af (aD (i:=2) HI.nd rfl oI1 (aR ac)) (af (aD (i:=3) HI.nd rfl oI1 aj) (af (cF abc rfl (vg rfl X.GP (d5 (qv 0) ac)) (du rfl (aW (aM (i:=4) HI.nd rfl oI1) (aW (aM (i:=5) HI.nd rfl oI1) cg))) (ao (be (aC eU (qv 5) (qv 1) rfl) (af (bo (cM aal aaC aaB bf (qv 2) (Ml (bw (x_ (bc eK (qv 0) (bi (qv 3)) (bi (qv 4))) (d5 (qv 5) ac))) ac))) (ao (aD (i:=3) HI.nd rfl oI1 (ar bA (qv 4) aj)))) aI))) (af (bo (cM aal aaC aaB bf (qv 2) (Ml (bw (x_ (bc eK (qv 0) (bi (qv 3)) bE) (d_ ak ac))) ac))) (ao (aH (qv 2))))))),?_⟩;dsimp only[cq];refine⟨Z0,λl hl=>?_⟩;have Rt:z.cps.size=z.cps.toList.length:=by simp
 have hzl2:z.length=z.cps.toList.length:=aq z;refine⟨_,rfl,z,rfl,xV (λi σ H'=>∃(s:Nat)(ps:List (Str×Str))(us:List V)(x3 x4:Option V),σ=[some (.str z),some (.str st),some (.ref l),some (.int (s:Int)),x3,x4]/\s<=i/\b6 H H'/\H' l=some (.lst us)/\g9 (Jn H') ps us/\us.length<=i /\
  o6 sep [] z.cps.toList=ps++o6 sep ((z.cps.toList.take i).drop s) (z.cps.toList.drop i))
  ⟨0,[],[],none,none,rfl,aam _,ae hl _,aa,.nil,aam _,rfl⟩ (λ_ _ _ _ _=>trivial) ?_ ?_⟩
 ·rintro i T' UJ σ H' hi ⟨c,hc,rfl⟩ ⟨s,ps,us,x3,x4,rfl,hs,sm,A3,Om,hlen,he⟩ hT;have Nc:z.cps.toList[i]?=some c:=by rw[abB];exact hc
  have i1:i<z.cps.toList.length:=bN Nc;have s1:=ae hT (.tup [.int i,.str ⟨#[c]⟩]);refine⟨T',_,rfl,k_.of aa,rfl,_,_,rfl,_,_,rfl,rfl,?_⟩;refine⟨_,rfl,_,rfl,_,_,rfl,rfl,_,rfl,?_⟩;show if HM st c=true then _ else _
  rw[UY c (aak Nc)];by_cases B5:Kb sep c=true
  ·rw[aaX B5];have Jk:=s1 _ _ A3;refine⟨_,rfl,.inl ⟨rfl,_,c_.of Jk⟩,_,rfl,_,rfl,_,rfl,_,rfl,_,rfl,z,rfl,aO (by lia),_,rfl,Z2,λt ht=>?_⟩;have s2:=ae ht (.tup [.str (Txt.slice z (some (s:Int)) (some (i:Int))),.str ⟨#[c]⟩]);have IT:=s2 _ _ Jk;refine⟨l,us,_,rfl,rfl,IT,bX (by lia),?_⟩;refine⟨_,rfl,_,_,rfl,rfl,?_⟩;have es:Txt.slice z (some (s:Int)) (some (i:Int))=i8 ((z.cps.toList.take i).drop s):=jD (nv s i rfl rfl hs (by lia));have nl:t≠l:=aP Jk ht;refine⟨i+1,ps++[(i8 ((z.cps.toList.take i).drop s),i8 [c])],us++[.ref t],_,_,rfl,aam _,aL hl ((sm.trans s1).trans s2),aa,?_,by rw[aaa];simp only[aaO];lia,?_⟩
   ·refine(Om.imp λ_ _=>Jn.same ((bG (s1.trans s2)).trans (aQ IT))).snoc ⟨t,rfl,?_⟩;rw[aw nl,aa,es];rfl
   ·have en:List.drop (i+1) (List.take (i+1) z.cps.toList)=[]:=adQ (by rw[aaD];lia);rw[he,kX Nc,gz B5,aas,en];rfl
  ·rw[aaK B5];refine⟨s,ps,us,_,_,rfl,by lia,sm.trans s1,s1 _ _ A3,Om.imp λ_ _=>Jn.same (bG s1),by lia,?_⟩;rw[he,kX Nc,NS.o6,aaK B5,iK hs Nc]
 ·rintro σ H' ⟨s,ps,us,x3,x4,rfl,hs,sm,A3,Om,hlen,he⟩;refine⟨_,rfl,.inl ⟨rfl,_,c_.of A3⟩,_,rfl,_,rfl,_,rfl,z,rfl,aO (by lia),Z2,λt ht=>?_⟩;have s2:=ae ht (.tup [.str (Txt.slice z (some (s:Int)) none),.str ""]);have IT:=s2 _ _ A3;refine⟨l,us,_,rfl,rfl,IT,bX (by lia),?_⟩;have es:Txt.slice z (some (s:Int)) none=i8 (z.cps.toList.drop s):=jD (kN (by lia));have nl:t≠l:=aP A3 ht;refine⟨_,rfl,q l (us++[.ref t]) _ (aL hl (sm.trans s2)) hl aa ?_⟩;rw[he,Rt,adf,adb,NS.o6];refine(Om.imp λ_ _=>Jn.same ((bG s2).trans (aQ IT))).snoc ⟨t,rfl,?_⟩;rw[aw nl,aa,es];rfl
def n12:¬(("rows" : Str) = "open_words"):=by decide +kernel
def n13:¬(("rows" : Str) = "inner_counts"):=by decide +kernel
def n14:¬(("rows" : Str) = "closed"):=by decide +kernel
def n23:¬(("open_words" : Str) = "inner_counts"):=by decide +kernel
def n24:¬(("open_words" : Str) = "closed"):=by decide +kernel
def n34:¬(("inner_counts" : Str) = "closed"):=by decide +kernel
noncomputable def fY(r o i c:V):List (Str×V):=eG "closed" c (eG "inner_counts" i (eG "open_words" o (eG "rows" r [])))
def mi(r o i c:V):fY r o i c=([("rows",r),("open_words",o),("inner_counts",i),("closed",c)]:List (Str×V)):=by unfold fY;simp only[eG,aaK n12,aaK n13,aaK n14,aaK n23,aaK n24,aaK n34]
def Gd(r o i c:V):(fY r o i c).lookup ("rows" : Str)=some r:=by unfold fY;rw[bb,aaK n14,bb,aaK n13,bb,aaK n12,bb,aaX rfl]
def AE(r o i c:V):(fY r o i c).lookup ("open_words" : Str)=some o:=by unfold fY;rw[bb,aaK n24,bb,aaK n23,bb,aaX rfl]
def Fj(r o i c:V):(fY r o i c).lookup ("inner_counts" : Str)=some i:=by unfold fY;rw[bb,aaK n34,bb,aaX rfl]
def Fk(r o i c:V):(fY r o i c).lookup ("closed" : Str)=some c:=by unfold fY;rw[bb,aaX rfl]
def qo(r o i c:V){m:Str}(h1:¬m = "closed")(h2:¬m = "inner_counts")(h3:¬m = "open_words")(h4:¬m = "rows"):(fY r o i c).lookup m=none:=by unfold fY;rw[bb,aaK h1,bb,aaK h2,bb,aaK h3,bb,aaK h4];rfl
def CM(r o i c y:V):eG "closed" y (fY r o i c)=fY r o i y:=by rw[mi,mi];simp only[eG,aaK n14,aaK n24,aaK n34,acx]
def xX(r o i c:V):(fY r o i c).length<1000:=by rw[mi];show 4<1000;decide
def lp{f:Str}{fs:List (Str×V)}{k:Nat}(h:fs.length<=k):(eG f v fs).length<=k+1:=abb (eC f v fs) (Nat.succ_le_succ h)
variable{C:Addr}
def kn{p dx:Addr}{fs:List (Str×V)}(h:H p=some (.ins C dx fs)):n6 H (upd H p o):=λb xs q=>by rw[aw (dk q h (λz=>nomatch z))];exact q
def Hn(H:Hp)(x:Row)(v:V):Prop:=∃a,v=.ref a/\H a=some (.tup [.str x.1,.int x.2.1,.int x.2.2])
def Hn.same(e:n6 H H'){x:Row}(h:Hn H x v):Hn H' x v:=by obtain⟨a,x,y⟩:=h;exact⟨a,x,e _ _ y⟩
abbrev Mn(op:List (Str×Nat)):List V:=op.map λx=>V.str x.1
abbrev Nt(op:List (Str×Nat)):List V:=op.map λx=>V.int (x.2:Int)
structure F'(C:Addr)(B H:Hp)(p:Addr)(st:Ms):Prop where
 sm:b6 B H
 np:B p=none
 ex:∃dx lr lo lc us,H p=some (.ins C dx (fY (.ref lr) (.ref lo) (.ref lc) (.bl st.cl)))/\B lr=none/\B lo=none/\B lc=none/\lr≠lo/\lr≠lc/\lo≠lc/\H lr=some (.lst us)/\g9 (Hn H) st.rs us/\H lo=some (.lst (Mn st.op))/\H lc=some (.lst (Nt st.op))
def BP(C:Addr):Sp:=λvs H Q _=>∃(B:Hp)(p dx:Addr),vs=[.ref p]/\H p=some (.ins C dx [])/\b6 B H/\B p=none/\∀H',F' C B H' p ⟨[],[],false⟩->Q .o_ H'
def EL(C:Addr):Sp:=λvs H Q _=>∃(B:Hp)(p:Addr)(z:Str)(c:Nat)(st:Ms),vs=[.ref p,.str z,.int (c:Int)]/\st.rs.length<=90000/\F' C B H p st/\∀H',F' C B H' p ⟨st.rs++[(z,c,st.op.length+1)],st.op,st.cl⟩->Q .o_ H'
def eI(z:Str):Prop:=z.length<=20000/\∀c∈z.cps.toList,c<128
theorem dz{d:Str}(h:eI d):(PyData.str d).shown.length<=300000:=by
 have:=PyData.shown_le_bulk 8 (by decide) (.str d) (by
  simp only[PyData.leavesShort,abK,aau];intro c hc;have:=h.2 c hc;have e:(16:Nat) ^ 8=4294967296:=by decide
  lia)
 have e:PyData.bulk (.str d)=d.cps.size:=by simp only[PyData.bulk]
 have h3:d.cps.size<=20000:=h.1;rw[e]at this
 lia
def yM(C N:Addr):Sp:=λvs H Q E=>∃(B:Hp)(p:Addr)(z:Str)(rs:List Row)(op:List (Str×Nat))(cl:Bool),vs=[.ref p,.str z]/\op.length<=90000/\F' C B H p ⟨rs,op,cl⟩/\(cl=false->∀H',F' C B H' p ⟨rs,op++[(z,0)],false⟩->Q .o_ H')/\(cl=true->E (.ref N) none H)
def EJ(C N:Addr):Sp:=λvs H Q E=>∃(B:Hp)(p:Addr)(z:Str)(st:Ms),vs=[.ref p,.str z]/\eI z/\st.rs.length<=90000/\F' C B H p st/\(∀rs,j_ st z rs->∀H',F' C B H' p ⟨rs,st.op,st.cl⟩->Q .o_ H')/\((¬∃rs,j_ st z rs)->E (.ref N) none H)
def yJ(C N:Addr):Sp:=λvs H Q E=>∃(B:Hp)(p:Addr)(rs:List Row)(op:List (Str×Nat))(cl:Bool),vs=[.ref p]/\F' C B H p ⟨rs,op,cl⟩/\(∀o z c,op=o++[(z,c)]->∀H',F' C B H' p ⟨rs,o++[(z,c+1)],false⟩->Q .o_ H')/\(op=[]->E (.ref N) none H)
def yK(C:Addr):Sp:=λvs H Q _=>∃(B:Hp)(p:Addr)(z:Str)(c:Nat)(rs:List Row)(op:List (Str×Nat))(cl:Bool),vs=[.ref p]/\rs.length<=90000/\F' C B H p ⟨rs,op++[(z,c)],cl⟩/\∀H',F' C B H' p ⟨rs++[(z,c,op.length+1)],op,true⟩->Q .o_ H'
def EK(C N:Addr):Sp:=λvs H Q E=>∃(B:Hp)(p:Addr)(rs:List Row)(op:List (Str×Nat))(cl:Bool),vs=[.ref p]/\F' C B H p ⟨rs,op,cl⟩/\(op=[]->∀lr us,B lr=none->H lr=some (.lst us)->g9 (Hn H) rs us->Q (.ref lr) H)/\(op≠[]->E (.ref N) none H)
variable{α:Type}
theorem yN(l:List α):l=[]\/∃a x,l=a++[x]:=by
 cases h:l.reverse with
 |nil=>exact .inl (List.reverse_eq_nil_iff.mp h)
 |cons x r=>exact .inr ⟨r.reverse,x,by rw[<-List.reverse_reverse l,h,abW]⟩
def FU(r o i c:V):(fY r o i c).lookup ("add_row" : Str)=none:=qo _ _ _ _ (by decide +kernel) (by decide +kernel) (by decide +kernel) (by decide +kernel)
def gA(op:List (Str×Nat))(z:Str)(c:Nat):Mn (op++[(z,c)])=Mn op++[.str z]:=by simp[Mn]
def gB(op:List (Str×Nat))(z:Str)(c:Nat):Nt (op++[(z,c)])=Nt op++[.int c]:=by simp[Nt]
theorem uo(xs:List V)(y:V):y6 (xs++[y]) (-1)=some y:=by
 have e:M8 (xs++[y]).length (-1)=some xs.length:=by
  unfold M8;rw[aaa,aaO,aaK (by decide),aaX (by lia)];congr 1
  lia
 unfold y6;rw[e];show(xs++[y])[xs.length]?=_;rw[aaz (aam _),acg];rfl
theorem we(xs:List V)(y:V):M8 (xs++[y]).length (-1)=some xs.length:=by
 unfold M8;rw[aaa,aaO,aaK (by decide),aaX (by lia)];congr 1
 lia
def uT(xs:List V)(y z:V):(xs++[y]).set xs.length z=xs++[z]:=by simp
def zI(X:Tx K w mg T):d9 P w K mg base E6 1 T.ZK T.OM ["self"] (BP T.a_):=by
 refine X.Zr.G9 Ch (λvs H Q E h=>?_) (λj8 A outer s H vs Q E hr h=>?_)
 ·obtain⟨_,_,_,rfl,_⟩:=h;rfl
 obtain⟨B,p,dx,rfl,hp,sm,np,q⟩:=h;refine⟨_,(af (iT (qv 0) (aR ac) rfl) (af (iT (qv 0) (aR ac) rfl) (af (iT (qv 0) (aR ac) rfl) (ao (iT (qv 0) dZ rfl))))),?_⟩;dsimp only[cq];refine⟨Z0,λlr Hq=>?_⟩;have LK:lr≠p:=aP hp Hq;refine⟨_,rfl,p,_,dx,_,rfl,(by rw[aw LK.symm];exact hp),X.b9,X.II,(by show 0<1000;decide),?_⟩;refine⟨Z0,λlo Hj=>?_⟩;have VN:lo≠p:=aP aa Hj;have Kc:lr≠lo:=λz=>by rw[<-z,aw LK,aa]at Hj;cases Hj
 refine⟨_,rfl,p,_,dx,_,rfl,(by rw[aw VN.symm];exact aa),X.b9,X.g8,abp (lp (fs:=[]) (k:=0) (aam 0)) (by decide),?_⟩;refine⟨Z0,λlc E7=>?_⟩;have nlc:lc≠p:=aP aa E7;have JZ:lo≠lc:=λz=>by rw[<-z,aw VN,aa]at E7;cases E7
 have Kd:lr≠lc:=λz=>by rw[<-z,aw LK,aw Kc,aw LK,aa]at E7;cases E7
 refine⟨_,rfl,p,_,dx,_,rfl,(by rw[aw nlc.symm];exact aa),X.b9,X.m7,abp (lp (lp (fs:=[]) (k:=0) (aam 0))) (by decide),?_⟩;refine⟨_,rfl,p,_,dx,_,rfl,aa,X.b9,X.t_,abp (lp (lp (lp (fs:=[]) (k:=0) (aam 0)))) (by decide),?_⟩;have B1:B lr=none:=sm.free Hq;have S1:=aL (o:=.ins T.a_ dx (eG "rows" (.ref lr) [])) np (sm.trans (ae Hq (.lst [])));have B2:B lo=none:=S1.free Hj;have S2:=aL (o:=.ins T.a_ dx (eG "open_words" (.ref lo) (eG "rows" (.ref lr) []))) np (S1.trans (ae Hj (.lst [])));have B3:B lc=none:=S2.free E7;have S3:=aL (o:=.ins T.a_ dx (eG "inner_counts" (.ref lc) (eG "open_words" (.ref lo) (eG "rows" (.ref lr) [])))) np (S2.trans (ae E7 (.lst [])));refine q _ ⟨aL np S3,np,dx,lr,lo,lc,[],aa,B1,B2,B3,Kc,Kd,JZ,?_,.nil,?_,?_⟩
 ·rw[aw LK,aw LK,aw Kd,aw LK,aw Kc,aw LK,aa]
 ·rw[aw VN,aw VN,aw JZ,aw VN,aa];rfl
 ·rw[aw nlc,aw nlc,aa];rfl
theorem xH(X:Tx K w mg T):d9 P w K mg base E6 1 T.qBB T.OV ["self", "word", "count"] (EL T.a_):=by
 refine X.Zt.G9 Cm (λvs H Q E h=>?_) (λj8 A outer s H vs Q E hr h=>?_)
 ·obtain⟨_,_,_,_,_,rfl,_⟩:=h;rfl
 obtain⟨B,p,z,c,st,rfl,hw,R,q⟩:=h;refine⟨_,(ao (bo (cM aal aaC aaB bf (dv (qv 0) rfl) (Ml (bw (d5 (qv 1) (d5 (qv 2) (o7 (ar bA (aA b8 rfl X.ff aay (qaA (dv (qv 0) rfl) ac)) aj) ac)))) ac)))),?_⟩;dsimp only[cq];obtain⟨sm,np,dx,lr,lo,lc,us,hp,b1,b2,b3,Kc,Kd,JZ,Hq,G7,Hj,E7⟩:=R;have hul:=G7.len;refine⟨_,rfl,p,_,dx,_,_,rfl,hp,X.b9,X.II,Gd _ _ _ _,.inl ⟨rfl,_,c_.of Hq⟩,_,rfl,_,rfl,_,rfl,p,_,dx,_,_,rfl,hp,X.b9,X.g8,AE _ _ _ _,lo,_,rfl,.inl (c_.of Hj),_,_,rfl,rfl,Z3,λt ht=>?_⟩;have s1:=ae ht (.tup [.str z,.int (c:Int),.int (((Mn st.op).length:Int)+1)]);refine⟨lr,us,_,rfl,rfl,s1 _ _ Hq,bX (by lia),?_⟩;have ntr:t≠lr:=aP Hq ht;have npr:p≠lr:=dk hp Hq (λz=>nomatch z);have hlr1:=s1 _ _ Hq;refine q _ ⟨aL b1 (sm.trans s1),np,dx,lr,lo,lc,us++[.ref t],by rw[aw npr];exact s1 _ _ hp,b1,b2,b3,Kc,Kd,JZ,aa,?_,by rw[aw Kc.symm];exact s1 _ _ Hj,by rw[aw Kd.symm];exact s1 _ _ E7⟩;refine(G7.imp λ_ _=>Hn.same ((bG s1).trans (aQ hlr1))).snoc ⟨t,rfl,?_⟩;rw[aw ntr,aa,aad];rfl
theorem vG(X:Tx K w mg T):d9 P w K mg base (Hu P w) 1 T.qBF T.OR ["self", "word"] (yM T.a_ T.b7):=by
 refine X.Zs.KO Cj (λvs H Q E h=>?_) (λj8 A outer s H vs Q E hr h=>?_)
 ·obtain⟨_,_,_,_,_,_,rfl,_⟩:=h;rfl
 obtain⟨B,p,z,rs,op,cl,rfl,hw,R,q,qe⟩:=h;refine⟨_,(af (be (cr (dv (qv 0) rfl)) (ao (bP rfl rfl X.g_ X.f_ (d_ ak ac) bO)) aI) (af (bo (cM aal aaC aaB bf (dv (qv 0) rfl) (d5 (qv 1) ac))) (ao (bo (cM aal aaC aaB bf (dv (qv 0) rfl) (d_ aj ac)))))),?_⟩;dsimp only[cq];obtain⟨sm,np,dx,lr,lo,lc,us,hp,b1,b2,b3,Kc,Kd,JZ,Hq,G7,Hj,E7⟩:=R;refine⟨_,rfl,p,_,dx,_,_,rfl,hp,X.b9,X.t_,Fk _ _ _ _,_,rfl,?_⟩;cases cl with
 |true=>exact fX ⟨(by show 1<=10;decide),qe rfl⟩
 |false=>
 refine fH ?_;have q:=q rfl;have npo:p≠lo:=dk hp Hj (λz=>nomatch z);have UT:p≠lc:=dk hp E7 (λz=>nomatch z);have lw:(Mn op).length<=90000:=by rw[aad];exact hw
 have lk:(Nt op).length<=90000:=by rw[aad];exact hw
 refine⟨_,rfl,p,_,dx,_,_,rfl,hp,X.b9,X.g8,AE _ _ _ _,.inl ⟨rfl,_,c_.of Hj⟩,_,rfl,lo,_,_,rfl,rfl,Hj,bX (by show(Mn op).length<=100000;lia),?_⟩;have Jc:upd H lo (.lst (Mn op++[.str z])) p=some (.ins T.a_ dx (fY (.ref lr) (.ref lo) (.ref lc) (.bl false))):=by rw[aw npo];exact hp
 have LP:upd H lo (.lst (Mn op++[.str z])) lc=some (.lst (Nt op)):=by rw[aw JZ.symm];exact E7
 refine⟨_,rfl,p,_,dx,_,_,rfl,Jc,X.b9,X.m7,Fj _ _ _ _,.inl ⟨rfl,_,c_.of LP⟩,lc,_,_,rfl,rfl,LP,bX (by show(Nt op).length<=100000;lia),?_⟩;refine q _ ⟨aL b3 (aL b2 sm),np,dx,lr,lo,lc,us,by rw[aw UT];exact Jc,b1,b2,b3,Kc,Kd,JZ,by rw[aw Kd,aw Kc];exact Hq,G7.imp λ_ _=>Hn.same ((aQ Hj).trans (aQ LP)),by rw[aw JZ,aa,gA],by rw[aa,gB];rfl⟩
theorem Df(X:Tx K w mg T):d9 P w K mg base (Hu P w) 2 T.qAW T.O0 ["self", "word"] (EJ T.a_ T.b7):=by
 have PD:=xH (P:=P) (w:=w) (base:=base) X;refine X.Zv.KO Cq (λvs H Q E h=>?_) (λj8 A outer s H vs Q E hr h=>?_)
 ·obtain⟨_,_,_,_,rfl,_⟩:=h;rfl
 obtain⟨B,p,z,⟨rs,op,cl⟩,rfl,hz,hw,R,q,qe⟩:=h;refine⟨_,(ao (be (cE (cr (dv (qv 0) rfl))) (ao (bo (jq (qv 0) X.b9 X.RD PD hr X.RO .nil bu (d5 (qv 1) (d_ aj ac))))) (ao (be (aC gY (qv 1) ak (aK _)) (ao (bP rfl rfl X.g_ X.f_ (Nn (cL (bq (dU hr (qv 1)) (bq ak dq))) ac) bO)) aI)))),?_⟩;dsimp only[cq];obtain⟨dx,lr,lo,lc,us,hp,_⟩:=R.ex;cases cl with
 |false=>
  refine⟨_,rfl,p,_,dx,_,_,rfl,hp,X.b9,X.t_,Fk _ _ _ _,_,rfl,fX ?_⟩;exact⟨_,rfl,p,dx,_,rfl,hp,FU _ _ _ _,_,rfl,B,p,z,0,_,rfl,hw,R,λH' R'=>q _ .word H' R'⟩
 |true=>
  refine⟨_,rfl,p,_,dx,_,_,rfl,hp,X.b9,X.t_,Fk _ _ _ _,_,rfl,fH ?_⟩;refine⟨_,rfl,rfl,_,rfl,iF (λhn=>?_) (λhe=>?_)⟩
  ·have ls:=dz hz;have e0:Str.empty.length=0:=rfl;have l1:(Str.ofString " stands behind a closed bracket").length=31:=by decide
   have M_:sizeLine=16777216:=by decide
   refine⟨_,rfl,.str z,.str z,by simp only[PyData.showable],by simp only[PyData.hasDict],by simp only[PyData.depth];decide,by lia,_,rfl,by rw[ay,e0];lia,_,rfl,by rw[ay,ay,e0,l1];lia,(by show 1<=10;decide),qe ?_⟩;rintro⟨C3,h⟩;cases h with
   |again=>exact hn (by decide)
  ·have ez:z=i8 []:=by
    rw[V.str.inj he];decide
   subst ez;exact q _ .again H R
def vD(X:Tx K w mg T):d9 P w K mg base (Hu P w) 1 T.qAY T.OY ["self"] (yJ T.a_ T.b7):=by
 refine X.Zu.KO Cp (λvs H Q E h=>?_) (λj8 A outer s H vs Q E hr h=>?_)
 ·obtain⟨_,_,_,_,_,rfl,_⟩:=h;rfl
 obtain⟨B,p,rs,opp,cl,rfl,R,q,qe⟩:=h;refine⟨_,(af (be (cE (eO (dv (qv 0) rfl) (λ_=>rfl))) (ao (bP rfl rfl X.g_ X.f_ (d_ ak ac) bO)) aI) (af (zc (dv (qv 0) rfl) (rK ke aj) wG aj DG uS) (ao (iT (qv 0) dZ rfl)))),?_⟩;dsimp only[cq];rcases yN opp with rfl|⟨op,⟨z,c⟩,rfl⟩
 ·obtain⟨sm,np,dx,lr,lo,lc,us,hp,b1,b2,b3,Kc,Kd,JZ,Hq,G7,Hj,E7⟩:=R;exact⟨_,rfl,p,_,dx,_,_,rfl,hp,X.b9,X.g8,AE _ _ _ _,false,.inl ⟨_,c_.of Hj,rfl⟩,fX ⟨(by show 1<=10;decide),qe rfl⟩⟩
 have q:=q op z c rfl;obtain⟨sm,np,dx,lr,lo,lc,us,hp,b1,b2,b3,Kc,Kd,JZ,Hq,G7,Hj,E7⟩:=R;have J1:H lc=some (.lst (Nt op++[.int (c:Int)])):=by rw[E7];exact aaN (λx=>some (HO.lst x)) (gB op z c)
 have UT:p≠lc:=dk hp E7 (λz=>nomatch z);refine⟨_,rfl,p,_,dx,_,_,rfl,hp,X.b9,X.g8,AE _ _ _ _,true,.inl ⟨_,c_.of Hj,by simp[Mn]⟩,fH ?_⟩;refine⟨_,rfl,p,_,dx,_,_,rfl,hp,X.b9,X.m7,Fj _ _ _ _,_,rfl,lc,_,-1,_,rfl,rfl,(by decide),c_.of J1,uo _ _,_,_,rfl,rfl,lc,_,-1,_,rfl,rfl,J1,we _ _,?_⟩;rw[uT];have Jc:upd H lc (.lst (Nt op++[.int ((c:Int)+1)])) p=some (.ins T.a_ dx (fY (.ref lr) (.ref lo) (.ref lc) (.bl cl))):=by rw[aw UT];exact hp
 refine⟨_,rfl,p,_,dx,_,rfl,Jc,X.b9,X.t_,xX _ _ _ _,?_⟩;rw[CM];have nrp:lr≠p:=dk Hq hp (λz=>nomatch z);have nop:lo≠p:=dk Hj hp (λz=>nomatch z);refine q _ ⟨aL np (aL b3 sm),np,dx,lr,lo,lc,us,aa,b1,b2,b3,Kc,Kd,JZ,by rw[aw nrp,aw Kd];exact Hq,G7.imp λ_ _=>Hn.same ((aQ E7).trans (kn Jc)),?_,?_⟩
 ·rw[aw nop,aw JZ,Hj,gA,gA]
 ·rw[aw UT.symm,aa,gB];rfl
def vE(X:Tx K w mg T):d9 P w K mg base E6 2 T.qA T.Uv ["self"] (yK T.a_):=by
 have PD:=xH (P:=P) (w:=w) (base:=base) X;refine X.F_qA.G9 Ra (λvs H Q E h=>?_) (λj8 A outer s H vs Q E hr h=>?_)
 ·obtain⟨_,_,_,_,_,_,_,rfl,_⟩:=h;rfl
 obtain⟨B,p,z,c,rs,op,cl,rfl,hw,R,q⟩:=h;refine⟨_,(af (aD (i:=1) Ra.nd rfl oI1 (dD aal abj abi eY (dv (qv 0) rfl))) (af (bo (jq (qv 0) X.b9 X.RD PD hr X.RO .nil bu (d5 (qv 1) (y8 (dD aal abj abi eY (dv (qv 0) rfl)) ac)))) (ao (iT (qv 0) dZ rfl)))),?_⟩;dsimp only[cq];obtain⟨sm,np,dx,lr,lo,lc,us,hp,b1,b2,b3,Kc,Kd,JZ,Hq,G7,Hj,E7⟩:=R;have WK:H lo=some (.lst (Mn op++[.str z])):=by rw[Hj];exact aaN (λx=>some (HO.lst x)) (gA op z c)
 have J1:H lc=some (.lst (Nt op++[.int (c:Int)])):=by rw[E7];exact aaN (λx=>some (HO.lst x)) (gB op z c)
 have npo:p≠lo:=dk hp Hj (λz=>nomatch z);have UT:p≠lc:=dk hp E7 (λz=>nomatch z);refine⟨_,rfl,p,_,dx,_,_,rfl,hp,X.b9,X.g8,AE _ _ _ _,.inl ⟨rfl,_,c_.of WK⟩,lo,_,.str z,rfl,rfl,WK,by simp,?_⟩;rw[acN];have Jc:upd H lo (.lst (Mn op)) p=some (.ins T.a_ dx (fY (.ref lr) (.ref lo) (.ref lc) (.bl cl))):=by rw[aw npo];exact hp
 have LP:upd H lo (.lst (Mn op)) lc=some (.lst (Nt op++[.int (c:Int)])):=by rw[aw JZ.symm];exact J1
 refine⟨_,rfl,p,dx,_,rfl,Jc,FU _ _ _ _,_,rfl,_,rfl,p,_,dx,_,_,rfl,Jc,X.b9,X.m7,Fj _ _ _ _,.inl ⟨rfl,_,c_.of LP⟩,lc,_,.int (c:Int),rfl,rfl,LP,by simp,?_⟩;rw[acN];have R1:F' T.a_ B (upd (upd H lo (.lst (Mn op))) lc (.lst (Nt op))) p ⟨rs,op,cl⟩:=by refine⟨aL b3 (aL b2 sm),np,dx,lr,lo,lc,us,by rw[aw UT];exact Jc,b1,b2,b3,Kc,Kd,JZ,by rw[aw Kd,aw Kc];exact Hq,G7.imp λ_ _=>Hn.same ((aQ Hj).trans (aQ LP)),by rw[aw JZ,aa],aa⟩
 refine⟨B,p,z,c,⟨rs,op,cl⟩,rfl,hw,R1,λH2 R2=>?_⟩;obtain⟨UK,_,dx2,lr2,lo2,lc2,us2,QF,c1,c2,c3,mro,mrc,moc,klr,krs,klo,klc⟩:=R2;refine⟨_,rfl,p,_,dx2,_,rfl,QF,X.b9,X.t_,xX _ _ _ _,?_⟩;rw[CM];have nrp:lr2≠p:=dk klr QF (λz=>nomatch z);have nop:lo2≠p:=dk klo QF (λz=>nomatch z);have ncp:lc2≠p:=dk klc QF (λz=>nomatch z);exact q _ ⟨aL np UK,np,dx2,lr2,lo2,lc2,us2,aa,c1,c2,c3,mro,mrc,moc,by rw[aw nrp];exact klr,krs.imp λ_ _=>Hn.same (kn QF),by rw[aw nop];exact klo,by rw[aw ncp];exact klc⟩
theorem Dg(X:Tx K w mg T):d9 P w K mg base (Hu P w) 1 T.qAT T.O4 ["self"] (EK T.a_ T.b7):=by
 refine X.Zw.KO Cr (λvs H Q E h=>?_) (λj8 A outer s H vs Q E hr h=>?_)
 ·obtain⟨_,_,_,_,_,rfl,_⟩:=h;rfl
 obtain⟨B,p,rs,op,cl,rfl,R,q,qe⟩:=h;refine⟨_,(af (be (eO (dv (qv 0) rfl) (λ_=>rfl)) (ao (bP rfl rfl X.g_ X.f_ (d_ ak ac) bO)) aI) (ao (aH (dv (qv 0) rfl)))),?_⟩;dsimp only[cq];obtain⟨sm,np,dx,lr,lo,lc,us,hp,b1,b2,b3,Kc,Kd,JZ,Hq,G7,Hj,E7⟩:=R;cases op with
 |nil=>
  refine⟨_,rfl,p,_,dx,_,_,rfl,hp,X.b9,X.g8,AE _ _ _ _,false,.inl ⟨_,c_.of Hj,rfl⟩,fH ?_⟩;exact⟨_,rfl,p,_,dx,_,_,rfl,hp,X.b9,X.II,Gd _ _ _ _,q rfl lr us b1 Hq G7⟩
 |cons x xs=>
  exact⟨_,rfl,p,_,dx,_,_,rfl,hp,X.b9,X.g8,AE _ _ _ _,true,.inl ⟨_,c_.of Hj,rfl⟩,fX ⟨(by show 1<=10;decide),qe (adg _ _)⟩⟩
variable{st:Ms}
def CG{B H1 H2:Hp}{p:Addr}(R:F' C B H1 p st)(s:b6 H1 H2):
 ∃B',F' C B' H2 p st/\b6 B B'/\(∀b o,H2 b=some o->H1 b=none->B' b=some o)/\n6 H2 B':=by
 obtain⟨sm,np,dx,lr,lo,lc,us,hp,b1,b2,b3,Kc,Kd,JZ,Hq,G7,Hj,E7⟩:=R;have nn:∀b,b≠p->b≠lr->b≠lo->b≠lc->(λb=>if b=p\/b=lr\/b=lo\/b=lc then none else H2 b) b=H2 b:=λb h1 h2 h3 h4=>aaK (by rintro(h|h|h|h);exact h1 h;exact h2 h;exact h3 h;exact h4 h);refine⟨λb=>if b=p\/b=lr\/b=lo\/b=lc then none else H2 b,⟨λb o e=>?_,aaX (.inl rfl),dx,lr,lo,lc,us,s _ _ hp,aaX (.inr (.inl rfl)),aaX (.inr (.inr (.inl rfl))),aaX (.inr (.inr (.inr rfl))),Kc,Kd,JZ,s _ _ Hq,G7.imp λ_ _=>Hn.same (bG s),s _ _ Hj,s _ _ E7⟩,λb o e=>?_,λb o e n=>?_,λb xs e=>?_⟩
 ·by_cases h:b=p\/b=lr\/b=lo\/b=lc
  ·rw[aaX h]at e;cases e
  ·rw[aaK h]at e;exact e
 ·rw[nn b (aS e np) (aS e b1) (aS e b2) (aS e b3)];exact s _ _ (sm _ _ e)
 ·rw[nn b (λz=>by rw[z,hp]at n;cases n) (λz=>by rw[z,Hq]at n;cases n) (λz=>by rw[z,Hj]at n;cases n) (λz=>by rw[z,E7]at n;cases n)];exact e
 ·rw[nn b (dk e (s _ _ hp) (λz=>nomatch z)) (dk e (s _ _ Hq) (λz=>nomatch z)) (dk e (s _ _ Hj) (λz=>nomatch z)) (dk e (s _ _ E7) (λz=>nomatch z))];exact e
def m40:V.str (i8 [40])=V.str "(":=by decide
def m41:¬V.str (i8 [41])=V.str "(":=by decide
def m44:¬V.str (i8 [44])=V.str "(":=by decide
def m0:¬V.str (i8 [])=V.str "(":=by decide
def e0:V.str (i8 [])=V.str "":=by decide
def _Y:¬V.str (i8 [41])=V.str "":=by decide
def _X:¬V.str (i8 [44])=V.str "":=by decide
def c41:V.str (i8 [41])=V.str ")":=by decide
def c44:¬V.str (i8 [44])=V.str ")":=by decide
def c0:¬V.str (i8 [])=V.str ")":=by decide
def Do(r o i c:V):(fY r o i c).lookup ("begin" : Str)=none:=qo _ _ _ _ (by decide +kernel) (by decide +kernel) (by decide +kernel) (by decide +kernel)
def Fd(r o i c:V):(fY r o i c).lookup ("end_word" : Str)=none:=qo _ _ _ _ (by decide +kernel) (by decide +kernel) (by decide +kernel) (by decide +kernel)
def xN(r o i c:V):(fY r o i c).lookup ("count_in" : Str)=none:=qo _ _ _ _ (by decide +kernel) (by decide +kernel) (by decide +kernel) (by decide +kernel)
def Dn(r o i c:V):(fY r o i c).lookup ("close_bracket" : Str)=none:=qo _ _ _ _ (by decide +kernel) (by decide +kernel) (by decide +kernel) (by decide +kernel)
def Gw(r o i c:V):(fY r o i c).lookup ("all_rows" : Str)=none:=qo _ _ _ _ (by decide +kernel) (by decide +kernel) (by decide +kernel) (by decide +kernel)
theorem F'.ins{C:Addr}{B H:Hp}{p:Addr}{st:Ms}(R:F' C B H p st):∃dx lr lo lc,H p=some (.ins C dx (fY lr lo lc (.bl st.cl))):=by obtain⟨_,_,dx,lr,lo,lc,_,h,_⟩:=R;exact⟨dx,_,_,_,h⟩
def BR:Sp:=λvs H Q _=>∃(l:Addr)(us:List V)(rs:List Row),vs=[.ref l]/\H l=some (.lst us)/\g9 (Hn H) rs us/\rs≠[]/\rs.length<=50000/\∀(M:Int)(H':Hp),(∃x∈rs,M=(x.2.2:Int))->(∀x∈rs,(x.2.2:Int)<=M)->b6 H H'->Q (.int M) H'
def cS{a b:List Nat}(h:i8 a=i8 b):a=b:=by have:=aaN (λs:Str=>s.cps.toList) h;simpa [bz]using this
def gI{w:Str}{a b:List Row}(h1:j_ st w a)(h2:j_ st w b):a=b:=by cases h1<;>cases h2<;>rfl
theorem cA{A1:Ms}{w:Str}(h:NS.Step 44 st (w,s) A1):(s=i8 [40]/\st.cl=false/\A1=⟨st.rs,st.op++[(w,0)],false⟩) \/
 (∃C3 op o c,st.op=op++[(o,c)]/\j_ st w C3/\((s=i8 [44]/\A1=⟨C3,op++[(o,c+1)],false⟩)\/(s=i8 [41]/\A1=⟨C3++[(o,c+1,op.length+1)],op,true⟩))) \/
 (∃C3,j_ st w C3/\s=i8 []/\A1=⟨C3,st.op,st.cl⟩):=by
 generalize hp:(w,s)=p at h;cases h with
 |Nr=>cases hp;exact .inl ⟨rfl,rfl,rfl⟩
 |mid he=>cases hp;exact .inr (.inl ⟨_,_,_,_,rfl,he,.inl ⟨rfl,rfl⟩⟩)
 |cls he=>cases hp;exact .inr (.inl ⟨_,_,_,_,rfl,he,.inr ⟨rfl,rfl⟩⟩)
 |fin he=>cases hp;exact .inr (.inr ⟨_,he,rfl,rfl⟩)
def uP{a b:List α}{x y:α}(h:a++[x]=b++[y]):a=b/\x=y:=by have h1:=acw h rfl;exact⟨h1.1,by simpa using h1.2⟩
theorem ji{s1 s2:Ms}(h1:NS.Step 44 st p s1)(h2:NS.Step 44 st p s2):s1=s2:=by
 obtain⟨w,s⟩:=p;rcases cA h1 with⟨e1,c1,rfl⟩|⟨r1,o1,w1,n1,q1,d1,⟨e1,rfl⟩|⟨e1,rfl⟩⟩|⟨r1,d1,e1,rfl⟩<;>subst e1 <;>
 rcases cA h2 with⟨e2,c2,rfl⟩|⟨r2,o2,w2,n2,q2,d2,⟨e2,rfl⟩|⟨e2,rfl⟩⟩|⟨r2,d2,e2,rfl⟩ <;>
 first
 |rfl
 |(exact absurd (cS e2) (by decide))
 |(have hr:=gI d1 d2;subst hr;first|rfl|(rw[q1]at q2;obtain⟨rfl,e⟩:=uP q2;cases e;rfl))
variable{ps:List (Str×Str)}{a:Ms}
theorem uV{b c:Ms}:NS.Run 44 a ps b->NS.Step 44 b p c->NS.Run 44 a (ps++[p]) c:=by
 induction ps generalizing a with
 |nil=>intro h1 h2;have h1:a=b:=h1;subst h1;exact⟨c,h2,rfl⟩
 |cons x xs ih=>rintro⟨d,h,g⟩ h2;exact⟨d,h,ih g h2⟩
theorem yY{c:Ms}{qs:List (Str×Str)}:NS.Run 44 a (ps++qs) c->∃b,NS.Run 44 a ps b/\NS.Run 44 b qs c:=by
 induction ps generalizing a with
 |nil=>intro h;exact⟨a,rfl,h⟩
 |cons x xs ih=>
  rintro⟨d,h,g⟩;obtain⟨b,g1,g2⟩:=ih g;exact⟨b,⟨d,h,g1⟩,g2⟩
theorem lO{b c:Ms}:NS.Run 44 a ps b->NS.Run 44 a ps c->b=c:=by
 induction ps generalizing a with
 |nil=>intro h1 h2;exact(show a=b from h1).symm.trans h2
 |cons x xs ih=>rintro⟨d,h,g⟩ ⟨d',h',g'⟩;have:=ji h h';subst this;exact ih g g'
theorem mU{sep:Nat}:∀{z acc:List Nat}{p:Str×Str},p∈NS.o6 sep acc z->(∀c∈p.1.cps.toList,c∈acc\/c∈z)/\p.1.cps.toList.length<=acc.length+z.length/\(p.2=i8 []\/∃c,Kb sep c=true/\p.2=i8 [c])
 |[],acc,p,h=>by
  rw[NS.o6]at h;rw[List.mem_singleton.mp h];exact⟨λc hc=>.inl (by rw[bz]at hc;exact hc),by rw[bz];simp,.inl rfl⟩
 |c::r,acc,p,h=>by
  rw[NS.o6]at h;split at h
  ·rename_i hc;rcases List.mem_cons.mp h with rfl|h
   ·exact⟨λd hd=>.inl (by rw[bz]at hd;exact hd),by rw[bz];simp,.inr ⟨c,hc,rfl⟩⟩
   ·obtain⟨a,b,d⟩:=mU h;refine⟨λx hx=>?_,by simp at b⊢;lia,d⟩;rcases a x hx with h|h
    ·cases h
    ·exact .inr (aah _ h)
  ·obtain⟨a,b,d⟩:=mU h;refine⟨λx hx=>?_,by simp at b⊢;lia,d⟩;rcases a x hx with h|h
   ·rcases List.mem_append.mp h with h|h
    ·exact .inl h
    ·exact .inr (by rw[List.mem_singleton.mp h];exact aap)
   ·exact .inr (aah _ h)
theorem qS(h:Kb 44 c=true):c=40\/c=44\/c=41:=by
 unfold Kb at h;simp only[abg,ack]at h
 lia
abbrev Tr:Ms:=⟨[],[],false⟩
def BM(N:Addr):Sp:=λvs H Q E=>∃(z:Str),vs=[.str z,.str ","]/\eI z /\
 (∀st,NS.Run 44 Tr (NS.o6 44 [] z.cps.toList) st->st.op=[]->∀D us H',b6 H H'->H D=none->H' D=some (.lst us)->g9 (Hn H') st.rs us->Q (.ref D) H') /\
 ((∀st,NS.Run 44 Tr (NS.o6 44 [] z.cps.toList) st->st.op≠[])->∀H',b6 H H'->E (.ref N) none H')
def SF:(Str.ofString "("++Str.ofString ","++Str.ofString ")")=S3:=by decide +kernel
theorem zG(X:Tx K w mg T):d9 P w K mg base (Hu P w) 4 T.qAK T.Pc ["text", "between"] (BM T.b7):=by
 have Y0:=(zI (P:=P) (w:=w) (base:=base) X).mono (show 1<=2 by decide);have Y5:=(se (P:=P) (w:=w) (base:=base) X).mono (show 1<=3 by decide);have Y3:=(vG (P:=P) (w:=w) (base:=base) X).mono (show 1<=3 by decide);have Y':=(Df (P:=P) (w:=w) (base:=base) X).mono (show 2<=3 by decide);have Y9:=(vD (P:=P) (w:=w) (base:=base) X).mono (show 1<=3 by decide);have G_qA:=(vE (P:=P) (w:=w) (base:=base) X).mono (show 2<=3 by decide);have Zc:=(Dg (P:=P) (w:=w) (base:=base) X).mono (show 1<=3 by decide);refine X.So.KO JT (λvs H Q E h=>?_) (λj8 A outer s H vs Q E hr h=>?_)
 ·obtain⟨_,rfl,_⟩:=h;rfl
 obtain⟨z,rfl,hz,q,qe⟩:=h;refine⟨_,(af (aD (i:=2) JT.nd rfl oI1 (vh X.Ji Y0 hr rfl X.C5 X.Yl .nil bu)) (af (cF ab9 rfl (cK (aB Y5 hr rfl X.VZ X.R9.kp X.Yq .nil bu (d5 (qv 0) (o7 (ar au (ar au ak (qv 1)) ak) ac)))) (du rfl (aW (aM (i:=3) JT.nd rfl oI1) (aW (aM (i:=4) JT.nd rfl oI1) cg))) (ao (be (aC bM (qv 4) ak (aK _)) (ao (bo (jq (qv 2) X.b9 X.W8 Y3 hr X.Yo .nil bW (d5 (qv 3) ac)))) (af (bo (jq (qv 2) X.b9 X.W_ Y' hr X.Yx .nil bW (d5 (qv 3) ac))) (af (be (aC gY (qv 4) ak (aK _)) (ao (bo (jp (qv 2) X.b9 X.W9 Y9 hr X.Yv .nil bW))) aI) (ao (be (aC bM (qv 4) ak (aK _)) (ao (bo (jp (qv 2) X.b9 X.h_qA G_qA hr X.b_qA .nil bu))) aI))))))) (ao (aH (jp (qv 2) X.b9 X.W' Zc hr X.YA .nil bW))))),?_⟩;dsimp only[cq];intro p dx nx ndx nex;have s0:b6 H (upd (upd H dx (.own p)) p (.ins T.a_ dx [])):=λb o e=>by rw[aw (aS e nx),aw (aS e ndx)];exact e
 refine⟨H,p,dx,rfl,aa,s0,nx,λH1 R1=>⟨rfl,?_⟩⟩;have JB:=hz.1;refine⟨_,rfl,_,rfl,_,_,rfl,rfl,aO (by decide),_,_,rfl,rfl,aO (by decide),z,_,44,rfl,by lia,λc hc=>by rw[SF];exact in3 c (hz.2 c hc),by decide,λl us H2 s2 nl hl Om=>?_⟩;obtain⟨B,R2,sB,new,sT⟩:=CG R1 s2;have hlB:B l=some (.lst us):=new _ _ hl nl;have TF:g9 (Jn B) (NS.o6 44 [] z.cps.toList) us:=Om.imp λ_ _=>Jn.same sT;have VC:=NS.Iq 44 z.cps.toList [];have ulen:=TF.len;have pin:∀p∈NS.o6 44 [] z.cps.toList,eI p.1/\(p.2=i8 []\/∃c,Kb 44 c=true/\p.2=i8 [c]):=λp hp=>by
  obtain⟨a,b,c⟩:=mU hp;refine⟨⟨by rw[aq];rw[aq]at JB;simp at b JB⊢;lia,λx hx=>?_⟩,c⟩;rcases a x hx with h|h
  ·cases h
  ·exact hz.2 x h
 rw[<-aq]at VC;generalize hpp:NS.o6 44 [] z.cps.toList=pp at TF VC ulen pin q qe;refine⟨l,rfl,⟨_,c_.of hl⟩,dQ (K:=K) (a:=l) (xs:=us) (λj σ H'=>(∃x3 x4,σ=[some (.str z),some (.str ","),some (.ref p),x3,x4])/\∃st,F' T.a_ B H' p st/\NS.Run 44 Tr (pp.take j) st/\st.rs.length<=2*j/\st.op.length<=j)
  ⟨⟨none,none,rfl⟩,_,R2,rfl,aam _,aam _⟩ (λj σ H' _ ⟨_,st,R,_⟩=>c_.of (R.sm _ _ hlB)) ?_ ?_⟩
 ·rintro j y σ H' hy ⟨⟨x3,x4,rfl⟩,⟨rs,op,cl⟩,R,Ii,ZW,hw2⟩;obtain⟨⟨wd,sp⟩,hpr,a,rfl,ha⟩:=TF.get hy;have hj:=bN hy;have RC:=R.sm _ _ ha;have ZW:rs.length<=2*j:=ZW;have hw2:op.length<=j:=hw2;have no:(¬∃A1,NS.Step 44 ⟨rs,op,cl⟩ (wd,sp) A1)->∀H3,b6 B H3->E (.ref T.b7) none H3:=λh H3 s3=>qe (λst B5=>by
   obtain⟨WS,epr⟩:=List.getElem?_eq_some_iff.mp hpr;rw[<-acJ j pp,abt WS,epr]at B5;obtain⟨b,g1,d,g2,g3⟩:=yY B5;have:=lO g1 Ii;subst this;exact absurd ⟨_,g2⟩ h) H3 (sB.trans s3)
  have nx:∀A1,NS.Step 44 ⟨rs,op,cl⟩ (wd,sp) A1->NS.Run 44 Tr (pp.take (j+1)) A1/\A1.rs.length<=2*(j+1)/\A1.op.length<=j+1:=λA1 h=>by have w1:=NS.Mj h;have w3:A1.rs.length<=rs.length+2/\A1.op.length<=op.length+1:=w1;refine⟨?_,by lia,by lia⟩;rw[bD hpr];exact uV Ii h
  obtain⟨tw,Lc⟩:=pin (wd,sp) (aak hpr);refine⟨a,_,rfl,k_.of RC,rfl,_,_,rfl,_,_,rfl,rfl,?_⟩;obtain⟨U9,lr1,lo1,lc1,Jc⟩:=R.ins;have Lc:sp=i8 [40]\/sp=i8 []\/sp=i8 [44]\/sp=i8 [41]:=by
   rcases Lc with h|⟨c,h1,h2⟩
   ·exact .inr (.inl h)
   ·rcases qS h1 with rfl|rfl|rfl
    ·exact .inl h2
    ·exact .inr (.inr (.inl h2))
    ·exact .inr (.inr (.inr h2))
  rcases Lc with rfl|rfl|rfl|rfl
  ·refine⟨_,rfl,rfl,_,rfl,me m40 ⟨_,rfl,p,U9,_,rfl,Jc,Do _ _ _ _,_,rfl,B,p,wd,rs,op,cl,rfl,by lia,R,(λhc H3 R3=>?_),λhc=>no ?_ _ R.sm⟩⟩
   ·subst hc;obtain⟨n1,n2,n3⟩:=nx _ .Nr;exact⟨⟨_,_,rfl⟩,_,R3,n1,n2,n3⟩
   ·rintro⟨A1,h⟩;rcases cA h with⟨_,e,_⟩|⟨_,_,_,_,_,_,⟨e,_⟩|⟨e,_⟩⟩|⟨_,_,e,_⟩
    ·rw[hc]at e;cases e
    ·exact absurd (cS e) (by decide)
    ·exact absurd (cS e) (by decide)
    ·exact absurd (cS e) (by decide)
  ·refine⟨_,rfl,rfl,_,rfl,kL m0 ⟨_,rfl,p,U9,_,rfl,Jc,Fd _ _ _ _,_,rfl,B,p,wd,_,rfl,tw,by show rs.length<=90000;lia,R,(λC3 he H3 R3=>?_),λhn=>no ?_ _ R.sm⟩⟩
   ·obtain⟨n1,n2,n3⟩:=nx _ (.fin he);exact⟨_,rfl,rfl,_,rfl,DE e0 ⟨_,rfl,rfl,_,rfl,kL c0 ⟨⟨_,_,rfl⟩,_,R3,n1,n2,n3⟩⟩⟩
   ·rintro⟨A1,h⟩;rcases cA h with⟨e,_⟩|⟨_,_,_,_,_,d,_⟩|⟨_,d,_⟩
    ·exact absurd (cS e) (by decide)
    ·exact hn ⟨_,d⟩
    ·exact hn ⟨_,d⟩
  ·refine⟨_,rfl,rfl,_,rfl,kL m44 ⟨_,rfl,p,U9,_,rfl,Jc,Fd _ _ _ _,_,rfl,B,p,wd,_,rfl,tw,by show rs.length<=90000;lia,R,(λC3 he H3 R3=>?_),λhn=>no ?_ _ R.sm⟩⟩
   ·obtain⟨dx3,lr3,lo3,lc3,hp3⟩:=R3.ins;refine⟨_,rfl,rfl,_,rfl,iF (λ_=>?_) (λz=>absurd z _X)⟩;refine⟨_,rfl,p,dx3,_,rfl,hp3,xN _ _ _ _,B,p,C3,op,cl,rfl,R3,(λo zz c eo H4 R4=>?_),λeo=>no ?_ _ R3.sm⟩
    ·subst eo;obtain⟨n1,n2,n3⟩:=nx _ (.mid he);exact⟨_,rfl,rfl,_,rfl,kL c44 ⟨⟨_,_,rfl⟩,_,R4,n1,n2,n3⟩⟩
    ·subst eo;rintro⟨A1,h⟩;rcases cA h with⟨e,_⟩|⟨_,o,_,_,eo,_,_⟩|⟨_,_,e,_⟩
     ·exact absurd (cS e) (by decide)
     ·exact absurd eo.symm (by simp)
     ·exact absurd (cS e) (by decide)
   ·rintro⟨A1,h⟩;rcases cA h with⟨e,_⟩|⟨_,_,_,_,_,d,_⟩|⟨_,d,_⟩
    ·exact absurd (cS e) (by decide)
    ·exact hn ⟨_,d⟩
    ·exact hn ⟨_,d⟩
  ·refine⟨_,rfl,rfl,_,rfl,kL m41 ⟨_,rfl,p,U9,_,rfl,Jc,Fd _ _ _ _,_,rfl,B,p,wd,_,rfl,tw,by show rs.length<=90000;lia,R,(λC3 he H3 R3=>?_),λhn=>no ?_ _ R.sm⟩⟩
   ·obtain⟨dx3,lr3,lo3,lc3,hp3⟩:=R3.ins;have er':C3.length<=rs.length+1:=NS.Iv he;refine⟨_,rfl,rfl,_,rfl,iF (λ_=>?_) (λz=>absurd z _Y)⟩;refine⟨_,rfl,p,dx3,_,rfl,hp3,xN _ _ _ _,B,p,C3,op,cl,rfl,R3,(λo zz c eo H4 R4=>?_),λeo=>no ?_ _ R3.sm⟩
    ·subst eo;obtain⟨n1,n2,n3⟩:=nx _ (.cls he);obtain⟨dx4,lr4,lo4,lc4,hp4⟩:=R4.ins;refine⟨_,rfl,rfl,_,rfl,me c41 ⟨_,rfl,p,dx4,_,rfl,hp4,Dn _ _ _ _,B,p,zz,c+1,C3,o,false,rfl,by lia,R4,λH5 R5=>?_⟩⟩;exact⟨⟨_,_,rfl⟩,_,R5,n1,n2,n3⟩
    ·subst eo;rintro⟨A1,h⟩;rcases cA h with⟨e,_⟩|⟨_,o,_,_,eo,_,_⟩|⟨_,_,e,_⟩
     ·exact absurd (cS e) (by decide)
     ·exact absurd eo.symm (by simp)
     ·exact absurd (cS e) (by decide)
   ·rintro⟨A1,h⟩;rcases cA h with⟨e,_⟩|⟨_,_,_,_,_,d,_⟩|⟨_,d,_⟩
    ·exact absurd (cS e) (by decide)
    ·exact hn ⟨_,d⟩
    ·exact hn ⟨_,d⟩
 ·rintro σ H' ⟨⟨x3,x4,rfl⟩,⟨rs,op,cl⟩,R,Ii,ZW,hw2⟩;rw[aaF (by lia)]at Ii;obtain⟨U9,lr1,lo1,lc1,Jc⟩:=R.ins;refine⟨_,rfl,p,U9,_,rfl,Jc,Gw _ _ _ _,B,p,rs,op,cl,rfl,R,(λeo lr HW LK Hq G7=>q _ Ii eo lr HW H' (sB.trans R.sm) (sB.free LK) Hq G7),λeo=>qe (λst B5=>?_) _ (sB.trans R.sm)⟩;have:=lO B5 Ii;subst this;exact eo
theorem zJ(X:Tx K w mg T):d9 P w K mg base E6 1 T.qAR T.O6 ["rows"] BR:=by
 refine X.Sh.G9 Ct (λvs H Q E h=>?_) (λj8 A outer s H vs Q E hr h=>?_)
 ·obtain⟨_,_,_,rfl,_⟩:=h;rfl
 obtain⟨l,us,rs,rfl,hl,G7,Ry,hlen,q⟩:=h;refine⟨_,(ao (aH (aA (uh rfl) rfl X.Nz PyProof.Rows.boot_max (SM (vj (ts:=["word", "count", "level"]) (ys:=[]) (js:=[]) rfl rfl (cK (qv 0)) (λ_ _ _ _ _=>lR (K:=K) (n:=3) rfl rfl (aW (aM (i:=0) (show(["word", "count", "level"]:List Str).Nodup by decide) rfl oI1) (aW (aM (i:=1) (show(["word", "count", "level"]:List Str).Nodup by decide) rfl oI1) (aW (aM (i:=2) (show(["word", "count", "level"]:List Str).Nodup by decide) rfl oI1) cg)))) (λ_ _ _ _ _=>cJ) (λ_ _ _ _ _=>(qv 2))) ac)))),?_⟩;dsimp only[cq];have Ir:=G7.len;refine⟨_,rfl,l,rfl,⟨_,c_.of hl⟩,λD hD=>?_⟩;refine ug (K:=K) (xs:=us) (ys:=(rs.map λx=>(x.2.2:Int)).map V.int) (bX (by lia)) (by rw[aad,aad,Ir]) (c_.of hl) hD (λi x y H' hx hy sm Q' q'=>?_) (λH' sm hd=>?_)
 ·obtain⟨r,s_,t,rfl,ht⟩:=G7.get hx;have e:y=V.int (r.2.2:Int):=by
   rw[aaI,aaI,s_]at hy;exact(aaq hy).symm
  rw[e]at q';exact⟨t,_,rfl,k_.of (sm _ _ ht),rfl,_,_,rfl,_,_,rfl,_,_,rfl,rfl,[some _,some _,some _],rfl,rfl,_,rfl,q' _ (b6.refl _)⟩
 ·refine⟨D,rs.map λx=>(x.2.2:Int),rfl,c_.of hd,λz=>Ry (List.map_eq_nil_iff.mp z),λM hM hB=>q M H' ?_ (λx hx=>hB _ (List.mem_map.mpr ⟨x,hx,rfl⟩)) sm⟩;obtain⟨x,hx,rfl⟩:=List.mem_map.mp hM;exact⟨x,hx,rfl⟩
def hide(H:Hp)(l:Addr):Hp:=λb=>if b=l then none else H b
variable{l:Addr}
def ii(h:b≠l):hide H l b=H b:=aaK h
def hide_self:hide H l l=none:=aaX rfl
def Ay(h:hide H l b=some o):b≠l/\H b=some o:=by
 by_cases e:b=l
 ·rw[e,hide_self]at h;cases h
 ·rw[ii e]at h;exact⟨e,h⟩
def tq:b6 (hide H l) H:=λb o h=>(Ay h).2
def BD:Sp:=λvs H Q _=>∃(r:Addr)(c:Nat)(xs ys:List V),vs=[.ref r,.int (c:Int)]/\H r=some (.lst (xs++ys))/\ys.length=c/\c<=50000/\∀t H',b6 (hide H r) H'->H' r=some (.lst xs)->H' t=some (.tup ys)->Q (.ref t) H'
theorem zw(X:Tx K w mg T):d9 P w K mg base E6 1 T.qAI T.Pe ["ready", "count"] BD:=by
 refine X.Sr.G9 NM (λvs H Q E h=>?_) (λj8 A outer s H vs Q E hr h=>?_)
 ·obtain⟨_,_,_,_,rfl,_⟩:=h;rfl
 obtain⟨r,c,xs,ys,rfl,s_,hc,hc1,q⟩:=h;refine⟨_,(af (aD (i:=2) NM.nd rfl oI1 (aR ac)) (af (gx abc (aC jv (aA b8 rfl X.ff aay (d5 (qv 2) ac)) (qv 1) (aK _)) (ao (bo (cM aal aaC aaB bf (qv 2) (y8 (dD aal abj abi eY (qv 0)) ac))))) (ao (aH (pS rfl rfl X.i' rfl X.B7 (qv 2)))))),?_⟩;dsimp only[cq];refine⟨Z0,λl hl=>?_⟩;have LK:l≠r:=aP s_ hl;have hhl:hide H r l=none:=by rw[ii LK];exact hl
 refine⟨λm σ H'=>∃k,k<=c/\m=c-k/\σ=[some (.ref r),some (.int (c:Int)),some (.ref l)]/\b6 (hide H r) H'/\H' r=some (.lst (xs++ys.take (c-k)))/\H' l=some (.lst (ys.drop (c-k)).reverse),
  ⟨_,0,aa8 _,rfl,rfl,aL hhl tq,?_,?_⟩,?_⟩
 ·rw[aw LK.symm,s_,adN,<-hc,adb]
 ·rw[aa,adN,<-hc,adf];rfl
 rintro m σ H1 ⟨k,hk,rfl,rfl,sm,h1,h2⟩;have ll:(ys.drop (c-k)).reverse.length=k:=by rw[abN,abe];lia
 refine⟨_,rfl,l,_,rfl,.inl (c_.of h2),_,rfl,_,_,rfl,rfl,_,rfl,bI (λq_=>⟨_,λl_ __ h=>h,?_⟩) (λWU=>?_)⟩
 ·rw[ll]at q_;have hkc:k<c:=by lia
  obtain⟨y,hy⟩:=aN (xs:=ys) (i:=c-k-1) (by lia);have e1:ys.take (c-k)=ys.take (c-(k+1))++[y]:=by have:=bD hy;rw[show c-k-1+1=c-k by lia]at this;exact this
  have e2:ys.drop (c-(k+1))=y::ys.drop (c-k):=by obtain⟨hi,e⟩:=List.getElem?_eq_some_iff.mp hy;rw[show c-(k+1)=c-k-1 by lia,abt hi,e,show c-k-1+1=c-k by lia]
  rw[e1,<-aas]at h1;refine⟨_,rfl,.inl ⟨rfl,_,c_.of h2⟩,_,rfl,.inl ⟨rfl,_,c_.of h1⟩,r,_,y,rfl,rfl,h1,by simp,l,_,_,rfl,rfl,by rw[aw LK];exact h2,bX (by rw[ll];lia),?_⟩;refine⟨c-(k+1),by lia,k+1,hkc,rfl,rfl,aL hhl (aL hide_self sm),?_,?_⟩
  ·rw[aw LK.symm,aa,acN]
  ·rw[aa,e2,abW]
 ·rw[ll]at WU;have hkc:k=c:=by lia
  subst hkc;rw[acg]at h1 h2;refine⟨_,rfl,l,_,rfl,c_.of h2,λt ht=>?_⟩;have s1:=ae ht (.tup (ys.drop 0).reverse.reverse);refine q t _ (sm.trans s1) ?_ ?_
  ·rw[s1 _ _ h1];simp
  ·rw[aa];simp
end Je
namespace Je
open PySem L2 TM
def eZ{a b:List Nat}(h:i8 a=i8 b):a=b:=by have:=aaN (λs:Str=>s.cps.toList) h;simpa [bz]using this
noncomputable def Nq:List Tm->List Nat
 |[]=>[]
 |t::ts=>(sh t).cps.toList++44::Nq ts
noncomputable def Np:List (Str×List Tm)->List Nat
 |[]=>[]
 |p::op=>p.1.cps.toList++40::(Nq p.2++Np op)
theorem mR:∀(ts:List Tm)(t:Tm),Nq (ts++[t])=Nq ts++((sh t).cps.toList++[44])
 |[],t=>by simp[Nq]
 |u::ts,t=>by rw[aaE,Nq,Nq,mR ts t];simp
theorem eQ:∀(op:List (Str×List Tm))(d:Str)(ts:List Tm),Np (op++[(d,ts)])=Np op++(d.cps.toList++40::Nq ts)
 |[],d,ts=>by simp[Np]
 |p::op,d,ts=>by rw[aaE,Np,Np,eQ op d ts];simp
noncomputable def ZL:Option Tm->List Nat
 |none=>[]
 |some t=>(sh t).cps.toList
noncomputable def MR(m:Ms):List Nat:=Np m.op++ZL m.rd
theorem kI:∀(ts:List Tm)(t:Tm),aT (ts++[t])=Nq ts++(sh t).cps.toList
 |[],t=>by simp[aT,Nq]
 |u::ts,t=>by
  have e:=kI ts t;rw[aaE,Nq];cases h:ts++[t]with
  |nil=>simp at h
  |cons x r=>
   rw[aT,<-h,e];simp
structure Vc(m:Ms):Prop where
 op:∀p∈m.op,p.1∈i6/\∀t∈p.2,Wf t
 rd:∀t,m.rd=some t->Wf t
variable{m1 m:Ms}{w:Str}
theorem mm(h:j_ m w m1)(g:Vc m):MR m1=MR m++w.cps.toList/\Vc m1:=by
 cases h with
 |leaf hl hw=>exact⟨by simp[MR,ZL],g.op,λt e=>by cases e;exact hw⟩
 |again=>exact⟨by rw[bz,aaW],g⟩
variable{p:Str×Str}
theorem yA(h:Step m p m1)(g:Vc m):MR m1=MR m++(p.1.cps.toList++p.2.cps.toList)/\Vc m1:=by
 cases h with
 |Nr hd=>
  refine⟨by simp[MR,ZL,eQ,Nq,bz],λp hp=>?_,λt e=>by cases e⟩;rcases List.mem_append.mp hp with h|h
  ·exact g.op p h
  ·rw[List.mem_singleton.mp h];exact⟨hd,λt ht=>by cases ht⟩
 |fin he=>
  obtain⟨e,g1⟩:=mm he g;exact⟨by rw[e];simp[bz],g1⟩
 |@comma st z d op ts t cnt dp he=>
  obtain⟨e,g1⟩:=mm he g;have e:Np (op++[(d,ts)])++(sh t).cps.toList=MR m++z.cps.toList:=e;refine⟨?_,λp hp=>?_,λt e=>by cases e⟩
  ·show Np (op++[(d,ts++[t])])++[]=MR m++(z.cps.toList++(i8 [44]).cps.toList)
   rw[<-aas,<-e,eQ,eQ,mR,bz];simp
  ·rcases List.mem_append.mp hp with h|h
   ·exact g1.op p (List.mem_append.mpr (.inl h))
   ·rw[List.mem_singleton.mp h];obtain⟨a,b⟩:=g1.op (d,ts) (List.mem_append.mpr (.inr (by simp)));refine⟨a,λu hu=>?_⟩;rcases List.mem_append.mp hu with h|h
    ·exact b u h
    ·rw[List.mem_singleton.mp h];exact g1.rd t rfl
 |@close st z d op ts t cnt dp he h3=>
  obtain⟨e,g1⟩:=mm he g;have e:Np (op++[(d,ts)])++(sh t).cps.toList=MR m++z.cps.toList:=e;obtain⟨a,b⟩:=g1.op (d,ts) (List.mem_append.mpr (.inr (by simp)));refine⟨?_,λp hp=>g1.op p (List.mem_append.mpr (.inl hp)),λu e=>?_⟩
  ·show Np op++(sh (.call d (ts++[t]))).cps.toList=MR m++(z.cps.toList++(i8 [41]).cps.toList)
   rw[<-aas,<-e,eQ,ba,kI,bz];simp
  ·cases e;unfold Wf;refine⟨a,by simp,by rw[aaa];exact h3,xi λu hu=>?_⟩;rcases List.mem_append.mp hu with h|h
   ·exact b u h
   ·rw[List.mem_singleton.mp h];exact g1.rd t rfl
noncomputable def Bl(ps:List (Str×Str)):List Nat:=(ps.map λp=>p.1.cps.toList++p.2.cps.toList).flatten
theorem xv:∀{ps:List (Str×Str)}{m m1:Ms},Run m ps m1->Vc m->MR m1=MR m++Bl ps/\Vc m1
 |[],m,m1,h,g=>by have h:m=m1:=h;subst h;exact⟨by simp[Bl],g⟩
 |p::ps,m,m1,⟨d,h1,h2⟩,g=>by obtain⟨e1,g1⟩:=yA h1 g;obtain⟨e2,g2⟩:=xv h2 g1;exact⟨by rw[e2,e1];simp[Bl],g2⟩
theorem jr:∀(L acc:List Nat),Bl (o6 acc L)=acc++L
 |[],acc=>by simp[o6,Bl,bz]
 |c::L,acc=>by
  rw[o6];split
  ·have:=jr L [];unfold Bl at this⊢;rw[aaV,abC,this];simp[bz]
  ·rw[jr L];simp
abbrev ZR:Ms:=⟨[],none,0,0⟩
variable{L:List Nat}{t:Tm}
def BZ{c d:Int}(h:Run ZR (o6 [] L) ⟨[],some t,c,d⟩):L=(sh t).cps.toList/\Wf t:=by obtain⟨e,g⟩:=xv h ⟨(λp hp=>nomatch hp),(λt e=>nomatch e)⟩;rw[jr]at e;exact⟨by simpa [MR,Np,ZL]using e.symm,g.rd t rfl⟩
def ux(x:NS.Row):Prop:=(x.2.1=0/\∃t,iC t/\Wf t/\x.1=sh t)\/(0<x.2.1/\x.2.1<=3/\x.1∈i6)
def opG(x:Str×Nat):Prop:=x.2<=2/\x.1∈i6
structure AG(st:NS.Ms):Prop where
 rs:∀x∈st.rs,ux x
 op:∀x∈st.op,opG x
theorem rV:∀(L acc:List Nat),NS.o6 44 acc L=o6 acc L
 |[],acc=>rfl
 |c::L,acc=>by rw[NS.o6,o6];have e:NS.Kb 44 c=bJ c:=rfl;rw[e,rV L,rV L]
variable{rs:List NS.Row}{st:NS.Ms}
theorem jS(h:NS.j_ st w rs)(g:∀x∈rs,ux x):(∀x∈st.rs,ux x)/\((st.cl=false/\∃t,iC t/\Wf t/\w=sh t)\/(st.cl=true/\w=i8 [])):=by
 cases h with
 |word=>
  refine⟨λx hx=>g x (List.mem_append.mpr (.inl hx)),.inl ⟨rfl,?_⟩⟩;rcases g _ (List.mem_append.mpr (.inr (List.mem_singleton.mpr rfl)))with⟨_,h⟩|⟨h,_⟩
  ·exact h
  ·exact absurd h (abd 0)
 |again=>exact⟨g,.inr ⟨rfl,rfl⟩⟩
theorem yB{A1:NS.Ms}(h:NS.Step 44 st p A1)(g:AG A1):AG st:=by
 cases h with
 |Nr=>exact⟨g.rs,λx hx=>g.op x (List.mem_append.mpr (.inl hx))⟩
 |@mid rs C3 op cl o w c d=>
  refine⟨(jS d g.rs).1,λx hx=>?_⟩;rcases List.mem_append.mp hx with h|h
  ·exact g.op x (List.mem_append.mpr (.inl h))
  ·rw[List.mem_singleton.mp h];obtain⟨a,b⟩:=g.op (o,c+1) (List.mem_append.mpr (.inr (by simp)));exact⟨Nat.le_of_succ_le a,b⟩
 |@cls rs C3 op cl o w c d=>
  refine⟨(jS d λx hx=>g.rs x (List.mem_append.mpr (.inl hx))).1,λx hx=>?_⟩;rcases List.mem_append.mp hx with h|h
  ·exact g.op x h
  ·rw[List.mem_singleton.mp h];rcases g.rs (o,c+1,op.length+1) (List.mem_append.mpr (.inr (by simp)))with⟨h,_⟩|⟨_,h,e⟩
   ·exact absurd h (by simp)
   ·exact⟨Nat.le_of_succ_le_succ h,e⟩
 |fin d=>exact⟨(jS d g.rs).1,g.op⟩
theorem xw:∀{ps:List (Str×Str)}{a b:NS.Ms},NS.Run 44 a ps b->AG b->AG a
 |[],a,b,h,g=>by have h:a=b:=h;subst h;exact g
 |p::ps,a,b,⟨d,h1,h2⟩,g=>yB h1 (xw h2 g)
structure Sim(a:NS.Ms)(m:Ms):Prop where
 op:a.op=m.op.map λp=>(p.1,p.2.length)
 cl:a.cl=m.rd.isSome
def nA{α β:Type}{f:α->β}{l:List α}{a:List β}{x:β}(h:a++[x]=l.map f):∃l' y,l=l'++[y]/\a=l'.map f/\x=f y:=by
 rcases ab4 l with rfl|⟨l',y,rfl⟩
 ·simp at h
 ·rw[ab5,aaZ,List.map_singleton]at h;obtain⟨e1,e2⟩:=acw h rfl;exact⟨l',y,ab5 ..,e1,by simpa using e2⟩
def lK{a:NS.Ms}(s:Sim a m)(h:NS.j_ a w rs)(g:∀x∈rs,ux x):∃t c d,j_ m w ⟨m.op,some t,c,d⟩:=by
 obtain⟨op,rd,cnt,dp⟩:=m;rcases(jS h g).2 with⟨e,t,hl,hw,rfl⟩|⟨e,rfl⟩
 ·have:=s.cl;rw[e]at this;cases rd with
  |none=>exact⟨t,_,_,.leaf hl hw⟩
  |some _=>cases this
 ·have:=s.cl;rw[e]at this;cases rd with
  |none=>cases this
  |some t=>exact⟨t,_,_,.again⟩
theorem gP:∀(L acc:List Nat){a b:NS.Ms}{m:Ms},NS.Run 44 a (o6 acc L) b->AG b->b.op=[]->Sim a m->∃t c d,Run m (o6 acc L) ⟨[],some t,c,d⟩
 |[],acc,a,b,m,h,g,hb,s=>by
  obtain⟨b',h,e⟩:=h;have e:b'=b:=e;subst e;obtain⟨w,hw⟩:∃w,w=(i8 acc,i8 []):=⟨_,rfl⟩
  rw[<-hw]at h;cases h with
  |Nr=>exact absurd (eZ (aaN Prod.snd hw:i8 [_]=i8 [])) (by simp)
  |mid d=>exact absurd (eZ (aaN Prod.snd hw:i8 [_]=i8 [])) (by simp)
  |cls d=>exact absurd (eZ (aaN Prod.snd hw:i8 [_]=i8 [])) (by simp)
  |@fin rs C3 op cl w d=>
   have hb:op=[]:=hb;obtain⟨t,c,d',e⟩:=lK s d g.rs;have ho:m.op=[]:=by have:=s.op;rw[show(NS.Ms.mk rs op cl).op=op from rfl,hb]at this;exact(List.map_eq_nil_iff.mp this.symm)
   rw[ho]at e;have hw:w=i8 acc:=aaN Prod.fst hw;rw[hw]at e;exact⟨t,c,d',_,.fin e,rfl⟩
 |x::L,acc,a,b,m,h,g,hb,s=>by
  rw[o6]at h⊢;split at h
  ·rename_i hx;rw[aaX hx];obtain⟨b',h,h2⟩:=h;have g':=xw h2 g;obtain⟨w,hw⟩:∃w,w=(i8 acc,i8 [x]):=⟨_,rfl⟩
   rw[<-hw]at h⊢;cases h with
   |@Nr rs op w=>
    have ZW:w=i8 acc:=aaN Prod.fst hw;obtain⟨mo,rd,cnt,dp⟩:=m;have hc:=s.cl;have ho:=s.op;cases rd with
    |some _=>cases hc
    |none=>
     obtain⟨_,hd⟩:=g'.op (w,0) (List.mem_append.mpr (.inr (by simp)));obtain⟨t,c,d,r⟩:=gP L [] (m:=⟨mo++[(w,[])],none,cnt+1,dp⟩) h2 g hb ⟨by
      show op++[(w,0)]=_;have ho:op=_:=ho;rw[ho];simp,rfl⟩
     exact⟨t,c,d,_,.Nr hd,r⟩
   |@mid rs C3 op cl o w c d=>
    obtain⟨t,c1,d1,e⟩:=lK s d g'.rs;obtain⟨l',⟨dd,ts⟩,e1,e2,e3⟩:=nA s.op;rw[e1]at e;obtain⟨e3,e4⟩:=Prod.mk.inj e3;have e3:o=dd:=e3;have e4:c=ts.length:=e4;subst e3 e4;obtain⟨t',c',d',r⟩:=gP L [] (m:=⟨l'++[(o,ts++[t])],none,c1,d1⟩) h2 g hb ⟨by
     show op++[(o,ts.length+1)]=_;rw[e2];simp,rfl⟩
    exact⟨t',c',d',_,.comma e,r⟩
   |@cls rs C3 op cl o w c d=>
    obtain⟨t,c1,d1,e⟩:=lK s d λx hx=>g'.rs x (List.mem_append.mpr (.inl hx));obtain⟨l',⟨dd,ts⟩,e1,e2,e3⟩:=nA s.op;rw[e1]at e;obtain⟨e3,e4⟩:=Prod.mk.inj e3;have e3:o=dd:=e3;have e4:c=ts.length:=e4;subst e3 e4;have h3:ts.length+1<=3:=by
     rcases g'.rs (o,ts.length+1,op.length+1) (List.mem_append.mpr (.inr (by simp)))with⟨h,_⟩|⟨_,h,_⟩
     ·exact absurd h (by simp)
     ·exact h
    obtain⟨t',c',d',r⟩:=gP L [] (m:=⟨l',some (.call o (ts++[t])),c1,d1⟩) h2 g hb ⟨e2,rfl⟩;exact⟨t',c',d',_,.close e h3,r⟩
   |fin d=>exact absurd (eZ (aaN Prod.snd hw:i8 []=i8 [_])) (by simp)
  ·rename_i hx;rw[aaK hx];exact gP L (acc++[x]) h g hb s
def Bad(z:Str):Prop:=∀st,NS.Run 44 ⟨[],[],false⟩ (NS.o6 44 [] z.cps.toList) st->st.op=[]->∃x∈st.rs,¬ux x
variable{z:Str}
def Ed(h:¬∃t,z=sh t/\Wf t):Bad z:=λst h1 h2=>by
 by_cases g:∃x∈st.rs,¬ux x
 ·exact g
 ·exfalso;rw[rV]at h1;have ag:AG st:=⟨λx hx=>by
   by_cases e:ux x
   ·exact e
   ·exact absurd ⟨x,hx,e⟩ g,λx hx=>by rw[h2]at hx;cases hx⟩
  obtain⟨t,c,d,r⟩:=gP z.cps.toList [] h1 ag h2 (m:=ZR) ⟨rfl,rfl⟩;obtain⟨e,w⟩:=BZ r;exact h ⟨t,bx e,w⟩
noncomputable def JY(L:List Nat):Int:=(L.count 40:Int)+(L.count 44:Int)
noncomputable def Jj(L:List Nat):Int:=(L.count 40:Int)-(L.count 41:Int)
theorem gZ(a b:List Nat):JY (a++b)=JY a+JY b:=by unfold JY;rw[acn,acn];lia
theorem dm(a b:List Nat):Jj (a++b)=Jj a+Jj b:=by unfold Jj;rw[acn,acn];lia
def mY(c:Nat)(a:List Nat):JY (c::a)=JY [c]+JY a:=gZ [c] a
def gE(c:Nat)(a:List Nat):Jj (c::a)=Jj [c]+Jj a:=dm [c] a
def sA(h:∀c∈L,bJ c=false):JY L=0:=by unfold JY;rw[List.count_eq_zero.mpr λm=>by have:=h 40 m;exact absurd this (by decide),List.count_eq_zero.mpr λm=>by have:=h 44 m;exact absurd this (by decide)];rfl
def sN(h:∀c∈L,bJ c=false):Jj L=0:=by unfold Jj;rw[List.count_eq_zero.mpr λm=>by have:=h 40 m;exact absurd this (by decide),List.count_eq_zero.mpr λm=>by have:=h 41 m;exact absurd this (by decide)];rfl
def lZ:Jj []=0:=rfl
structure Lv(L:List Nat)(d:Nat):Prop where
 z:Jj L=0
 up:∀p q,L=p++q->Jj p<=(d:Int)
variable{d:Nat}
theorem Lv.mono{e:Nat}(h:Lv L d)(g:d<=e):Lv L e:=⟨h.z,λp q x=>by have:=h.up p q x;lia⟩
theorem Lv.app{A B:List Nat}(a:Lv A d)(b:Lv B d):Lv (A++B) d:=by
 refine⟨by rw[dm,a.z,b.z];rfl,λp q e=>?_⟩;rcases List.append_eq_append_iff.mp e with⟨x,h1,h2⟩|⟨x,h1,h2⟩
 ·rw[h1,dm,a.z];have:=b.up x q h2
  lia
 ·exact a.up p x h1
theorem Lv.no(h:∀c∈L,bJ c=false)(d:Nat):Lv L d:=⟨sN h,λp q e=>by
 rw[sN λc hc=>h c (by rw[e];simp[hc])]
 lia⟩
theorem Lv.brk(a:Lv L d):Lv (40::(L++[41])) (d+1):=by
 have _Z:Jj [40]=1:=rfl;have _Y:Jj [41]=-1:=rfl;refine⟨by rw[gE,dm,a.z,_Z,_Y];rfl,λp q e=>?_⟩;cases p with
 |nil=>rw[lZ];lia
 |cons x p=>
  obtain⟨e0,e1⟩:=aab e;subst e0;rw[gE,_Z];rcases List.append_eq_append_iff.mp e1 with⟨x,h1,h2⟩|⟨x,h1,h2⟩
  ·rw[h1,dm,a.z];cases x with
   |nil=>rw[lZ];lia
   |cons y r=>
    obtain⟨e0,e5⟩:=aab h2;subst e0;have:r=[]:=(List.append_eq_nil_iff.mp e5.symm).1;subst this;rw[_Y];lia
  ·have:=a.up p x h1
   lia
def Lx(L:List Nat)(d:Nat):Prop:=∃p q,L=p++q/\Jj p=(d:Int)
def cI(t u:Tm)(us:List Tm):aT (t::u::us)=(sh t).cps.toList++44::aT (u::us):=by rw[aT]
mutual
theorem kf:∀t:Tm,Wf t->JY (sh t).cps.toList+1=aX t/\Lv (sh t).cps.toList (depth t-1)/\Lx (sh t).cps.toList (depth t-1)
 |.num n,w=>kH (t:=.num n) trivial w
 |.text z,w=>kH (t:=.text z) trivial w
 |.row,w=>kH (t:=.row) trivial w
 |.mark,w=>kH (t:=.mark) trivial w
 |.val k z,w=>kH (t:=.val k z) trivial w
 |.call d ts,w=>by
  unfold Wf at w;obtain⟨hd,hn,_,hw⟩:=w;obtain⟨a,b,p,q,e,l⟩:=lI ts hn hw;have nd:=dg d hd;have _Z:Jj [40]=1:=rfl;rw[ba,aX,depth];refine⟨?_,?_,d.cps.toList++40::p,q++[41],by rw[e];simp,?_⟩
  ·rw[gZ,sA nd,mY,gZ,show JY [40]=1 from rfl,show JY [41]=0 from rfl]
   lia
  ·have:=(Lv.no nd (aZ ts-1+1)).app b.brk;refine this.mono ?_;have:1<=aZ ts:=by
    obtain⟨t,_,e⟩:=ir hn;rw[<-e];exact fE t
   lia
  ·rw[dm,sN nd,gE,_Z,l];have:1<=aZ ts:=by
    obtain⟨t,_,e⟩:=ir hn;rw[<-e];exact fE t
   lia
theorem lI:∀ts:List Tm,ts≠[]->r_ ts->JY (aT ts)+1=bj ts/\Lv (aT ts) (aZ ts-1)/\Lx (aT ts) (aZ ts-1)
 |[],h,_=>absurd rfl h
 |[t],_,w=>by
  unfold r_ at w;have:=kf t w.1;rw[aT,bj,bj,aZ,aZ];rw[Nat.max_eq_left (aa8 _),Int.add_zero];exact this
 |t::u::us,_,w=>by
  unfold r_ at w;obtain⟨a1,a2,p1,q1,e1,l1⟩:=kf t w.1;obtain⟨b1,b2,p2,q2,e2,l2⟩:=lI (u::us) (by simp) w.2;rw[cI,bj,aZ];have d1:=fE t;have _X:Jj [44]=0:=rfl;refine⟨?_,?_,?_⟩
  ·rw[gZ,mY,show JY [44]=1 from rfl]
   lia
  ·have c:Lv [44] (max (depth t) (aZ (u::us))-1):=⟨rfl,λp q e=>by
    cases p with
    |nil=>rw[lZ];lia
    |cons x p=>
     obtain⟨e0,e5⟩:=aab e;subst e0;have:p=[]:=(List.append_eq_nil_iff.mp e5.symm).1;subst this;rw[_X];lia⟩
   have:=(a2.mono (by lia)).app (c.app (b2.mono (e:=max (depth t) (aZ (u::us))-1) (by lia)));exact this
  ·by_cases h:aZ (u::us)<=depth t
   ·refine⟨p1,q1++44::aT (u::us),by rw[e1];simp,?_⟩;rw[l1,Nat.max_eq_left h]
   ·refine⟨(sh t).cps.toList++44::p2,q2,by rw[e2];simp,?_⟩;rw[dm,a2.z,gE,_X,l2,Nat.max_eq_right (by lia)]
    lia
theorem kH:∀{t:Tm},iC t->Wf t->JY (sh t).cps.toList+1=aX t/\Lv (sh t).cps.toList (depth t-1)/\Lx (sh t).cps.toList (depth t-1):=λ{t} hl w=>by have h:=cG hl w;rw[bZ hl,cj hl];exact⟨by rw[sA h];rfl,Lv.no h _,[],_,rfl,rfl⟩
end
variable{c:Nat}
theorem Ge(h1:48<=c)(h2:c<=57):(Nat.toDigits 10 (c-48)).map Char.toNat=[c]:=by
 obtain⟨k,rfl⟩:=Nat.exists_eq_add_of_le h1;have:k=0\/k=1\/k=2\/k=3\/k=4\/k=5\/k=6\/k=7\/k=8\/k=9:=by lia
 rcases this with rfl|rfl|rfl|rfl|rfl|rfl|rfl|rfl|rfl|rfl<;>decide
def mG{P:List Nat->Prop}(h0:P [])(hs:∀v c,P v->P (v++[c])):∀u,P u:=λu=>by
 have:∀w:List Nat,P w.reverse:=λw=>by
  induction w with
  |nil=>exact h0
  |cons c w ih=>rw[abW];exact hs _ _ ih
 have:=this u.reverse;rwa [List.reverse_reverse]at this
theorem wP:∀u:List Nat,u≠[]->(∀c∈u,48<=c/\c<=57)->(u.head?=some 48->u=[48])->(Nat.toDigits 10 (NumText.digitsVal u)).map Char.toNat=u:=by
 refine mG (λh=>absurd rfl h) λv c ih _ hf hh=>?_;obtain⟨c1,c2⟩:=hf c (by simp);rw[NumText.digitsVal_snoc];by_cases hv:v=[]
 ·subst hv;have:NumText.digitsVal []*10+(c-48)=c-48:=by show 0*10+_=_;lia
  rw[this];exact Ge c1 c2
 ·have hn:v.head?≠some 48:=λe=>by
   have:=hh (by rw[nH hv];exact e);have l:=aaN List.length this;rw[aaa]at l;have:v.length=0:=by simpa using l
   exact hv (List.length_eq_zero_iff.mp this)
  have e:=ih hv (λx hx=>hf x (by simp[hx])) λz=>absurd z hn;have hp:0<NumText.digitsVal v:=by
   rcases Nat.eq_zero_or_pos (NumText.digitsVal v)with h|h
   ·rw[h]at e;have:v=[48]:=by rw[<-e];decide
    exact absurd (by rw[this];rfl) hn
   ·exact h
  have t:=abA (b:=10) (n:=NumText.digitsVal v) (d:=c-48) (by decide) hp (by lia);rw[adO]at t;rw[<-t,aaZ,e,Ge c1 c2]
theorem DZ:∀u:List Nat,(∀c∈u,48<=c/\c<=57)->NumText.digitsVal u<10 ^ u.length:=by
 refine mG (λ_=>by decide) λv c ih hf=>?_;have h:=ih λx hx=>hf x (by simp[hx]);obtain⟨c1,c2⟩:=hf c (by simp);rw[NumText.digitsVal_snoc,aaa,aaO,acz]
 lia
variable{u:List Nat}
theorem tX(hf:∀c∈u,48<=c/\c<=57)(hl:u.length<=18):(NumText.digitsVal u:Int)<1000000000000000000:=by
 have h1:=DZ u hf;have h2:10 ^ u.length<=10 ^ 18:=Nat.pow_le_pow_right (by decide) hl;have h3:(10:Nat) ^ 18=1000000000000000000:=by decide
 lia
def My:cy c=true↔48<=c/\c<=57:=by unfold cy;rw[aaU,aau,aau]
def DY(hn:u≠[])(hf:∀c∈u,48<=c/\c<=57)(hh:u.head?=some 48->u=[48]):(sh (.num (NumText.digitsVal u))).cps.toList=u:=by unfold sh;rw[dN];exact wP u hn hf hh
theorem AL{n:Int}(h0:0<=n)(h1:n<1000000000000000000):(NumText.digitsVal (sh (.num n)).cps.toList:Int)=n:=by have l:=di h0 h1;have a:=iX h0 (by rw[aq];lia);have b:=intText_digits (x:=Str.ofString (toString n)) (λc hc=>My.mp (bK h0 c hc)) l.1 (by rw[aq];lia);rw[a]at b;unfold sh;exact(aaq b).symm
noncomputable def wr(acc:List Nat):List Nat->List (List Nat)
 |[]=>[acc]
 |c::r=>if bR c=true then wr (acc++[c]) r else acc::[c]::wr [] r
noncomputable def sp:List Nat->List (List Nat)
 |[]=>[]
 |c::r=>[c]::wr [] r
def Sep(R:List Nat):Prop:=∀x r,R=x::r->bR x=false
def yW:Sep []:=λ_ _ h=>nomatch h
theorem yj:∀{acc R:List Nat},(∀c∈u,bR c=true)->Sep R->wr acc (u++R)=(acc++u)::sp R:=by
 induction u with
 |nil=>
  intro acc R _ hR;cases R with
  |nil=>simp[wr,sp]
  |cons x r=>rw[aaS,wr,aaK (by rw[hR x r rfl];decide),aaW,sp]
 |cons c u ih=>
  intro acc R hu hR;rw[aaE,wr,aaX (hu c (by simp)),ih (λd hd=>hu d (by simp[hd])) hR];simp
variable{R:List Nat}
def ka(hu:∀c∈u,bR c=true)(hR:Sep R):wr [] (u++R)=u::sp R:=by rw[yj hu hR];simp
theorem FK:∀R:List Nat,∃u R1,R=u++R1/\(∀c∈u,bR c=true)/\Sep R1
 |[]=>⟨[],[],rfl,(λ_ h=>nomatch h),yW⟩
 |c::R=>by
  by_cases h:bR c=true
  ·obtain⟨u,R1,e,h1,h2⟩:=FK R;refine⟨c::u,R1,by rw[e];rfl,λd hd=>?_,h2⟩;rcases List.mem_cons.mp hd with rfl|hd
   ·exact h
   ·exact h1 d hd
  ·exact⟨[],c::R,rfl,(λ_ h=>nomatch h),λx r e=>by cases e;simpa using h⟩
theorem da:∀{u v R S:List Nat},u++R=v++S->(∀c∈u,bR c=true)->(∀c∈v,bR c=true)->Sep R->Sep S->u=v/\R=S
 |[],[],_,_,h,_,_,_,_=>⟨rfl,h⟩
 |[],d::v,R,S,h,_,hv,hR,_=>by
  have:=hR d (v++S) h;rw[hv d (by simp)]at this;cases this
 |c::u,[],R,S,h,hu,_,_,hS=>by
  have:=hS c (u++R) h.symm;rw[hu c (by simp)]at this;cases this
 |c::u,d::v,R,S,h,hu,hv,hR,hS=>by obtain⟨e0,e1⟩:=aab h;subst e0;obtain⟨rfl,rfl⟩:=da e1 (λx hx=>hu x (by simp[hx])) (λx hx=>hv x (by simp[hx])) hR hS;exact⟨rfl,rfl⟩
theorem tks{v:List Nat}{l:List (List Nat)}{n:Nat}(h:(sp R).take (n+1)=v::l):∃c r,R=c::r/\v=[c]/\(wr [] r).take n=l:=by
 cases R with
 |nil=>simp[sp]at h
 |cons c r=>
  rw[sp,List.take_succ_cons]at h;obtain⟨h0,h⟩:=aab h;exact⟨c,r,rfl,h0.symm,h⟩
noncomputable def sI:List Nat:=[109,97,114,107]
noncomputable def Dl(ah:List (List Nat)):List Nat:=ah.getD 1 []
def Gg(u nm:List Nat):Prop:=(u=[48]\/u=[49]\/u=[50]\/u=[51])/\(1<=nm.length/\nm.length<=8)/\∀c∈nm,ce c=true
def cNo(u:List Nat):Prop:=u=[]\/18<u.length\/(¬∀c∈u,cy c=true)\/(u.head?=some 48/\u≠[48])
open Classical in
noncomputable def Bj(u:List Nat)(ah:List (List Nat)):Option (Tm×Nat):=
 if u=[]/\ah=[[91],[],[93],[]]then some (.row,5)
 else if u=[]/\ah.take 1=[[34]]/\ah.drop 2=[[34],[]]/\(Dl ah).length<=40 then some (.text (i8 (Dl ah)),5)
 else if ah.take 1=[[46]]then(if Gg u (Dl ah)then some (.val ((u.headD 48-48:Nat):Int) (i8 (Dl ah)),3)else none)
 else if u=sI then some (.mark,1)
 else if cNo u then none
 else some (.num (NumText.digitsVal u),1)
def Am(h:ce c=true):bR c=true:=by unfold bR;rw[h];rfl
def AF(h:cy c=true):bR c=true:=by unfold bR;rw[h,ac9]
structure GH(R:List Nat)(t:Tm)(R':List Nat):Prop where
 e:R=(sh t).cps.toList++R'
 lf:iC t
 wf:Wf t
def tk1(h:((sp R).take 4).take 1=[[c]]):∃r,R=c::r:=by rw[List.take_take]at h;obtain⟨d,r,e,h1,_⟩:=tks (n:=0) h;cases h1;exact⟨r,e⟩
def Hm(R:List Nat):Prop:=∀x r,R=x::r->bJ x=true
theorem yz(h:bJ c=true):bR c=false:=by
 cases e:bR c with
 |false=>rfl
 |true=>rw[mJ e]at h;cases h
def Hm.sep(h:Hm R):Sep R:=λx r e=>yz (h x r e)
def Dk(h:Hm R)(hc:bJ c=false):¬((sp R).take 4).take 1=[[c]]:=λe=>by obtain⟨r,rfl⟩:=tk1 e;rw[h c r rfl]at hc;cases hc
def wH(h:∀c∈u,cy c=true):u≠sI:=λe=>by
 have:=h 109 (by rw[e];decide)
 revert this
 decide
theorem kD{R1 R':List Nat}(hu:∀c∈u,bR c=true)(hR:Sep R1)(h:GH (u++R1) t R')(hs:Hm R'):∃n,Bj u ((sp R1).take 4)=some (t,n)/\(u::sp R1).drop n=sp R':=by
 obtain⟨e,lf,wf⟩:=h;have Wy:=hs.sep;cases t with
 |call _ _=>cases lf
 |num n=>
  unfold Wf at wf;have fg:=bK wf.1;have fg':∀c∈(sh (.num n)).cps.toList,cy c=true:=by unfold sh;exact fg
  obtain⟨rfl,rfl⟩:=da e hu (λc hc=>AF (fg' c hc)) hR Wy;have l:=di wf.1 wf.2;have l':(sh (.num n)).cps.toList≠[]/\(sh (.num n)).cps.toList.length<=18:=by unfold sh;exact l
  refine⟨1,?_,rfl⟩;unfold Bj;rw[aaK (λz=>l'.1 z.1),aaK (λz=>l'.1 z.1),aaK (Dk hs (by decide)),aaK (wH fg'),aaK ?_,AL wf.1 wf.2];rintro(z|z|z|⟨z,z2⟩)
  ·exact l'.1 z
  ·lia
  ·exact z fg'
  ·have:n=0:=jz wf.1 (by unfold sh at z;exact z);subst this;exact z2 (by unfold sh;decide +kernel)
 |text z=>
  unfold Wf at wf;unfold sh at e;rw[ap,ap,dW]at e;have e2:u++R1=[]++34::(z.cps.toList++34::R'):=by rw[e];simp
  have Vx:∀r,Sep (34::r):=λr x y e=>by cases e;decide
  obtain⟨rfl,rfl⟩:=da e2 hu (λ_ h=>nomatch h) hR (Vx _);have w1:wr [] (z.cps.toList++34::R')=z.cps.toList::sp (34::R'):=ka wf.2 (Vx _);have w2:wr [] ([]++R')=[]::sp R':=ka (λ_ h=>nomatch h) Wy;have w2:wr [] R'=[]::sp R':=w2;have e3:sp (34::(z.cps.toList++34::R'))=[34]::z.cps.toList::[34]::[]::sp R':=by rw[sp,w1,sp,w2]
  refine⟨5,?_,by rw[e3];rfl⟩;rw[e3];unfold Bj;have ez:i8 z.cps.toList=z:=(jD rfl).symm;rw[aaK (λz=>absurd (aab z.2).1 (by decide)),aaX ⟨rfl,rfl,rfl,wf.1⟩];show some (Tm.text (i8 z.cps.toList),5)=_;rw[ez]
 |row=>
  unfold sh at e;have e2:u++R1=[]++91::93::R':=by rw[e];rfl
  have s91:∀r,Sep (91::r):=λr x y e=>by cases e;decide
  have s93:∀r,Sep (93::r):=λr x y e=>by cases e;decide
  obtain⟨rfl,rfl⟩:=da e2 hu (λ_ h=>nomatch h) hR (s91 _);have w1:wr [] ([]++93::R')=[]::sp (93::R'):=ka (λ_ h=>nomatch h) (s93 _);have w1:wr [] (93::R')=[]::sp (93::R'):=w1;have w2:wr [] ([]++R')=[]::sp R':=ka (λ_ h=>nomatch h) Wy;have w2:wr [] R'=[]::sp R':=w2;have e3:sp (91::93::R')=[91]::[]::[93]::[]::sp R':=by rw[sp,w1,sp,w2]
  refine⟨5,?_,by rw[e3];rfl⟩;rw[e3];unfold Bj;rw[aaX ⟨rfl,rfl⟩]
 |mark=>
  unfold sh at e;have e2:u++R1=sI++R':=by rw[e];rfl
  obtain⟨rfl,rfl⟩:=da e2 hu (by decide) hR Wy;refine⟨1,?_,rfl⟩;unfold Bj;rw[aaK (λz=>absurd z.1 (by decide)),aaK (λz=>absurd z.1 (by decide)),aaK (Dk hs (by decide)),aaX rfl]
 |val k z=>
  unfold Wf at wf;obtain⟨wk,w1,w2,w3⟩:=wf;unfold sh at e;rw[ap,ap,cn]at e;obtain⟨d,ed,ek,d1⟩:∃d:Nat,(Str.ofString (toString k)).cps.toList=[d]/\k=((d-48:Nat):Int)/\(d=48\/d=49\/d=50\/d=51):=by
   rcases wk with rfl|rfl|rfl|rfl
   ·exact⟨48,by decide +kernel,by decide,by decide⟩
   ·exact⟨49,by decide +kernel,by decide,by decide⟩
   ·exact⟨50,by decide +kernel,by decide,by decide⟩
   ·exact⟨51,by decide +kernel,by decide,by decide⟩
  rw[ed]at e;have e2:u++R1=[d]++46::(z.cps.toList++R'):=by rw[e];simp
  have s46:∀r,Sep (46::r):=λr x y e=>by cases e;decide
  have sd:∀c∈[d],bR c=true:=λc hc=>by rw[List.mem_singleton.mp hc];rcases d1 with rfl|rfl|rfl|rfl<;>decide
  obtain⟨rfl,rfl⟩:=da e2 hu sd hR (s46 _);have w4:wr [] (z.cps.toList++R')=z.cps.toList::sp R':=ka (λc hc=>Am (w3 c hc)) Wy;have e3:sp (46::(z.cps.toList++R'))=[46]::z.cps.toList::sp R':=by rw[sp,w4]
  refine⟨3,?_,by rw[e3];rfl⟩;rw[e3];unfold Bj;have ez:i8 z.cps.toList=z:=(jD rfl).symm;have en:Dl (List.take 4 ([46]::z.cps.toList::sp R'))=z.cps.toList:=rfl;have cv:Gg [d] z.cps.toList:=⟨by rcases d1 with rfl|rfl|rfl|rfl<;>simp,⟨List.length_pos_iff.mpr w1,w2⟩,w3⟩
  rw[aaK (λz=>absurd z.1 (by simp)),aaK (λz=>absurd z.1 (by simp)),aaX (by rfl),en,aaX cv,ez,ek];rfl
theorem gO:∀{u v R S:List Nat},u++R=v++S->(∀c∈u,bJ c=false)->(∀c∈v,bJ c=false)->Hm R->Hm S->u=v/\R=S
 |[],[],_,_,h,_,_,_,_=>⟨rfl,h⟩
 |[],d::v,R,S,h,_,hv,hR,_=>by
  have:=hR d (v++S) h;rw[hv d (by simp)]at this;cases this
 |c::u,[],R,S,h,hu,_,_,hS=>by
  have:=hS c (u++R) h.symm;rw[hu c (by simp)]at this;cases this
 |c::u,d::v,R,S,h,hu,hv,hR,hS=>by obtain⟨e0,e1⟩:=aab h;subst e0;obtain⟨rfl,rfl⟩:=gO e1 (λx hx=>hu x (by simp[hx])) (λx hx=>hv x (by simp[hx])) hR hS;exact⟨rfl,rfl⟩
def jh{r:List Nat}(h:bJ c=true):Hm (c::r):=λx y e=>by cases e;exact h
variable{op:List (Str×List Tm)}{dp:Int}
theorem nN{c:Int}(h:j_ ⟨op,none,c,dp⟩ z m1):∃t,iC t/\Wf t/\z=sh t/\m1=⟨op,some t,c+1,max dp ((op.length:Int)+1)⟩:=by
 generalize e:(⟨op,none,c,dp⟩:Ms)=m at h;cases h with
 |leaf hl hw=>cases e;exact⟨_,hl,hw,rfl,rfl⟩
 |again=>cases e
theorem kU{c:Int}(h:j_ ⟨op,some t,c,dp⟩ z m1):z=i8 []/\m1=⟨op,some t,c,dp⟩:=by
 generalize e:(⟨op,some t,c,dp⟩:Ms)=m at h;cases h with
 |leaf hl hw=>cases e
 |again=>cases e;exact⟨rfl,rfl⟩
theorem iO{s:Str}(h:Step m (z,s) m1):(s=i8 [40]/\z∈i6/\m.rd=none/\m1=⟨m.op++[(z,[])],none,m.cnt+1,m.dp⟩)\/(s=i8 []/\j_ m z m1) \/
 (s=i8 [44]/\∃op d ts t c dp,j_ m z ⟨op++[(d,ts)],some t,c,dp⟩/\m1=⟨op++[(d,ts++[t])],none,c,dp⟩) \/
 (s=i8 [41]/\∃op d ts t c dp,j_ m z ⟨op++[(d,ts)],some t,c,dp⟩/\ts.length+1<=3/\m1=⟨op,some (.call d (ts++[t])),c,dp⟩):=by
 cases h with
 |Nr hd=>exact .inl ⟨rfl,hd,rfl,rfl⟩
 |fin he=>exact .inr (.inl ⟨rfl,he⟩)
 |comma he=>exact .inr (.inr (.inl ⟨rfl,_,_,_,_,_,_,he,rfl⟩))
 |close he h3=>exact .inr (.inr (.inr ⟨rfl,_,_,_,_,_,_,he,h3,rfl⟩))
theorem yy(h:bJ c=true):c=40\/c=44\/c=41:=by
 unfold bJ at h;simp only[abg,ack]at h
 lia
def sH(z:Str):i8 z.cps.toList=z:=(jD rfl).symm
def wT:∀d∈i6,∀c∈d.cps.toList,ce c=true:=by decide +kernel
def JM{u:Tm}{c:Int}(h:Run ZR (o6 [] L) ⟨[],some t,c,dp⟩)(e:L=(sh u).cps.toList)(w:Wf u):t=u:=by
 have a:=BZ h;have b:=TM.t7 w;rw[<-e]at b;have:∀(ps:List (Str×Str))(m a b:Ms),Run m ps a->Run m ps b->a=b:=by
  intro ps;induction ps with
  |nil=>intro m a b h1 h2;have h1:m=a:=h1;have h2:m=b:=h2;rw[<-h1,<-h2]
  |cons p ps ih=>
   rintro m a b ⟨x,h1,h2⟩ ⟨y,h3,h4⟩;have:x=y:=ji h1 h3;subst this;exact ih x a b h2 h4
 have:=this _ _ _ _ h b;cases this;rfl
where
 IS {t u:Tm} (ht:iC t) (wt:Wf t) (hu:iC u) (wu:Wf u) (e:sh t=sh u):t=u:=by obtain⟨v,R1,e1,hv,hR⟩:=FK ((sh t).cps.toList++[]);obtain⟨n,h1,_⟩:=kD (t:=t) (R':=[]) hv hR ⟨e1.symm,ht,wt⟩ (λ_ _ h=>nomatch h);obtain⟨n',h2,_⟩:=kD (t:=u) (R':=[]) hv hR ⟨by rw[<-e1,e],hu,wu⟩ (λ_ _ h=>nomatch h);rw[h1]at h2;cases h2;rfl
 gI {m a b:Ms} {z:Str} (h1:j_ m z a) (h2:j_ m z b):a=b:=by
  obtain⟨op,rd,c,dp⟩:=m;cases rd with
  |none=>
   obtain⟨t,l1,w1,e1,q1⟩:=nN h1;obtain⟨u,l2,w2,e2,q2⟩:=nN h2;have:=IS l1 w1 l2 w2 (e1.symm.trans e2);subst this;rw[q1,q2]
  |some t=>rw[(kU h1).2,(kU h2).2]
 ji {m a b:Ms} {p:Str×Str} (h1:Step m p a) (h2:Step m p b):a=b:=by
  obtain⟨z,s⟩:=p;have nz:∀{x y:List Nat},s=i8 x->s=i8 y->x=y:=λa b=>eZ (a.symm.trans b);rcases iO h1 with⟨e,_,_,rfl⟩|⟨e,he⟩|⟨e,op,d,ts,t,c,dp,he,rfl⟩|⟨e,op,d,ts,t,c,dp,he,_,rfl⟩ <;>
  rcases iO h2 with⟨e',_,_,rfl⟩|⟨e',U0⟩|⟨e',Qt,d',Ka,t',c',dp',U0,rfl⟩|⟨e',Qt,d',Ka,t',c',dp',U0,_,rfl⟩ <;>
  first
   |exact absurd (nz e e') (by decide)
   |rfl
   |exact gI he U0
   |(have q:=gI he U0;injection q with q1 q2 q3 q4;obtain⟨e1,e2⟩:=acw q1 rfl;cases e2;cases q2;subst e1 q3 q4;rfl)
def CD{u:Tm}(w:Wf u):Run ZR (o6 [] (sh u).cps.toList) ⟨[],some u,aX u,depth u⟩:=TM.t7 w
end Je
namespace Je
open PySem L2 NS TR
open TM hiding j_ Ms Run Step o6 t7
abbrev P2:Str:="abcdefghijklmnopqrstuvwxyz0123456789"
abbrev S4:Str:="0123"
def DI(s:Str)(c:Nat):HM s c=decide (c∈s.cps.toList):=by have QL:=adu s c;unfold HM;first|exact QL|simpa using QL
def m36:∀c∈P2.cps.toList,bR c=true:=by decide +kernel
def m26:∀c∈P4.cps.toList,ce c=true:=by decide +kernel
def m10:∀c∈P5.cps.toList,cy c=true:=by decide +kernel
def m4:∀c∈S4.cps.toList,c=48\/c=49\/c=50\/c=51:=by decide +kernel
variable{s:Str}{c:Nat}
def Dh(h:HM s c=true):c∈s.cps.toList:=by rw[DI]at h;exact of_decide_eq_true h
def GB:∀c,c<128->bR c=true->HM P2 c=true:=by decide +kernel
variable{x:Str}
def mx{p:Nat->Bool}(h1:∀c∈s.cps.toList,p c=true)(h2:∀c,c<128->p c=true->HM s c=true)(h3:∀c,p c=true->c<128):oh s x=true↔∀c∈x.cps.toList,p c=true:=by
 constructor
 ·intro h c hc;exact h1 c (Dh (List.all_eq_true.mp h c hc))
 ·intro h;exact AZ λc hc=>h2 c (h3 c (h c hc)) (h c hc)
def Fv:oh P4 x=true↔∀c∈x.cps.toList,ce c=true:=mx m26 GC (λ_=>Dt)
def Fw:oh P5 x=true↔∀c∈x.cps.toList,cy c=true:=mx m10 GD (λ_=>DS)
def Fu:oh P2 x=true↔∀c∈x.cps.toList,bR c=true:=mx m36 GB (λ_=>re)
noncomputable def P8(z:Str):Bool:=decide (z.length<=40)&&oh P2 z
variable{z:Str}
def ND:P8 z=true↔Wf (.text z):=by unfold P8 Wf;rw[aaU,aau,Fu,aq]
def LJ:MV z=true↔z.cps.toList≠[]/\z.cps.toList.length<=8/\∀c∈z.cps.toList,ce c=true:=by
 unfold MV;rw[aaU,aaU,aau,aau,Fv,aq];constructor
 ·rintro⟨⟨a,b⟩,c⟩;exact⟨List.length_pos_iff.mp a,b,c⟩
 ·rintro⟨a,b,c⟩;exact⟨⟨List.length_pos_iff.mpr a,b⟩,c⟩
theorem Mo:uA z=true↔∃n,z=sh (.num n)/\Wf (.num n):=by
 unfold uA;simp only[aaU,aau,Bool.not_eq_true',Bool.and_eq_false_iff,acr,Bool.not_eq_false',Fw,aq];constructor
 ·rintro⟨⟨a,b⟩,c,d⟩;have hf:∀c∈z.cps.toList,48<=c/\c<=57:=λc hc=>My.mp (d c hc);refine⟨_,bx (DY (List.length_pos_iff.mp a) hf λe=>?_).symm,by unfold Wf;exact⟨by lia,tX hf b⟩⟩;rcases c with c|c
  ·exact absurd e c
  ·rw[c];rfl
 ·rintro⟨n,rfl,wf⟩;unfold Wf at wf;unfold sh;have l:=di wf.1 wf.2;refine⟨⟨List.length_pos_iff.mpr l.1,l.2⟩,?_,bK wf.1⟩;by_cases e:(Str.ofString (toString n)).cps.toList.head?=some 48
  ·have:=jz wf.1 e;subst this;exact .inr (by decide +kernel)
  ·exact .inl e
def vc:(Str.ofString "\"")=⟨#[34]⟩:=by decide
def dot:(Str.ofString ".")=⟨#[46]⟩:=by decide
theorem jc{l:List Nat}{d:Nat}(h:x.cps.toList=c::(l++[d])):(Txt.slice x (some 1) (some (-1))).cps.toList=l:=by
 have hl:x.length=l.length+2:=by rw[aq,h];simp
 have e:Txt.slice x (some 1) (some (-1))=PySem.StrLaws.sliceText x (some 1) (some (-1)):=rfl;have e2:Txt.slice x (some 1) (some ((-1)+(x.length:Int)))=PySem.StrLaws.sliceText x (some 1) (some ((-1)+(x.length:Int))):=rfl;rw[e,PySem.StrLaws.sliceText_neg_hi x (some 1) (by decide) (by lia),<-e2,nv (k:=1) 1 (l.length+1) rfl (by lia) (by lia) (by rw[h];simp),h];simp
def dH(k:Int)(x:Str):(sh (.val k x)).cps.toList=(Str.ofString (toString k)).cps.toList++46::x.cps.toList:=by unfold sh;rw[ap,ap,cn];simp
def nF{k:Int}(h:k=0\/k=1\/k=2\/k=3):∃c,(Str.ofString (toString k)).cps.toList=[c]/\cy c=true/\HM S4 c=true/\PySem.intText? ⟨#[c]⟩=some k:=by
 rcases h with rfl|rfl|rfl|rfl
 ·exact⟨48,by decide +kernel,by decide,by decide +kernel,by decide +kernel⟩
 ·exact⟨49,by decide +kernel,by decide,by decide +kernel,by decide +kernel⟩
 ·exact⟨50,by decide +kernel,by decide,by decide +kernel,by decide +kernel⟩
 ·exact⟨51,by decide +kernel,by decide,by decide +kernel,by decide +kernel⟩
def dy(x:Str):(sh (.text x)).cps.toList=34::(x.cps.toList++[34]):=by unfold sh;rw[ap,ap,dW];rfl
def BC:Sp:=λvs H Q _=>∃z,vs=[.str z]/\z.length<=20000/\∀H',b6 H H'->Q (.bl (P8 z)) H'
def BO:Sp:=λvs H Q _=>∃z,vs=[.str "text",.str z]/\z.length<=20000/\∀H',b6 H H'->Q (.bl (P8 z)) H'
def BS:Sp:=λvs H Q _=>∃d,vs=[.str d]/\Q (.bl (decide (d∈i6))) H
def Wr(z:Str):Prop:=∃k x,z=sh (.val k x)/\Wf (.val k x)
def isQ(z:Str):Prop:=∃x,z=sh (.text x)/\Wf (.text x)
def Ws(z:Str):Prop:=∃t,iC t/\Wf t/\z=sh t
def yE(N:Addr):Sp:=λvs H Q E=>∃z:Str,vs=[.str z]/\eI z/\((∃k x,z=sh (.val k x)/\Wf (.val k x)/\∀p H',b6 H H'->H' p=some (.tup [.int k,.str x])->Q (.ref p) H')\/(¬Wr z/\∀H',b6 H H'->E (.ref N) none H'))
def uK:Sp:=λvs H Q _=>∃z:Str,vs=[.str z]/\z.length<=20000/\((isQ z/\∀H',b6 H H'->Q (.bl true) H')\/(¬isQ z/\∀H',b6 H H'->Q (.bl false) H'))
def yH(N:Addr):Sp:=λvs H Q E=>∃z:Str,vs=[.str z]/\eI z/\((∃t,iC t/\Wf t/\z=sh t/\∀v H',b6 H H'->j0 H' t v->Q v H')\/(¬Ws z/\∀H',b6 H H'->E (.ref N) none H'))
theorem yx(h:2<=z.length):∃a l b,z.cps.toList=a::(l++[b]):=by
 rw[aq]at h;cases e:z.cps.toList with
 |nil=>rw[e]at h;exact absurd h (by decide)
 |cons a r=>
  rcases ab4 r with rfl|⟨l,b,rfl⟩
  ·rw[e]at h;exact absurd h (by simp)
  ·exact⟨a,l,b,by rw[ab5]⟩
variable{P:Program}{w:World}{K:W.Frag}{mg:Str->Option Value}{base:Heap}{T:Q0}
variable{t:Tm}
theorem leaf_len(hl:iC t)(w:Wf t):1<=(sh t).length/\(sh t).length<=50:=by
 have h2:=kj t w;rw[bZ hl]at h2;refine⟨?_,by lia⟩;rw[aq];cases t with
 |num n=>
  unfold Wf at w;unfold sh;have:=(di w.1 w.2).1;exact List.length_pos_iff.mpr this
 |text z=>rw[dy];simp
 |row=>decide
 |mark=>decide
 |val k z=>rw[dH,aaa,aac];lia
 |call _ _=>cases hl
theorem zv(X:Tx K w mg T):d9 P w K mg base E6 1 T.qAZ T.OX ["thing"] BC:=by
 refine X.Sb.G9 Co (λvs H Q E h=>?_) (λj8 A outer s H vs Q E hr h=>?_)
 ·obtain⟨_,rfl,_⟩:=h;rfl
 obtain⟨x,rfl,hx,q⟩:=h;refine⟨_,(af (be (eN (gU (cE (cr (aA bF rfl X.d8 aaM (d5 (qv 0) (d5 (cN rfl X.GO abk rfl (v:=.ty "str")) ac))))) (fT (aC pW (aA bC rfl X.ff aay (d5 (qv 0) ac)) (bt rfl X.D1 (v:=V.int 40) ⟨_,rfl⟩) (aK _))))) (ao (aH dZ)) aI) (ao (aH (aA (jW rfl) rfl X.Km acI (SM (gV (ys:=[]) (js:=[]) rfl rfl (rH (qv 0)) (λ_ _ _ _ _=>cJ) (λ_ _ _ _ _=>(cR eU (qv 0) (bt rfl X.J7 (v:=V.str "abcdefghijklmnopqrstuvwxyz0123456789") ⟨_,rfl⟩) rfl))) ac))))),?_⟩;dsimp only[cq];refine⟨_,rfl,_, "str",_,_,rfl,.str x,DA,_,rfl,_,rfl,x,rfl,aO (by lia),_,_,rfl,rfl,_,rfl,bI (λh=>?_) (λh=>?_)⟩
 ·have e:P8 x=false:=by unfold P8;rw[aaH (show¬x.length<=40 by lia)];rfl
  rw[e]at q;exact q H (b6.refl _)
 have e:P8 x=oh P2 x:=by unfold P8;rw[aa0 (show x.length<=40 by lia)];rfl
 rw[e]at q;refine⟨_,rfl,x,rfl,λD hD=>iw (ys:=x.cps.toList.map λc=>V.bl (HM P2 c)) (bX (by show x.length<=_;lia)) (by simp) hD (λi c y H' hc hy sm Q' q'=>?_) (λH' sm hl=>⟨D,x.cps.toList.map (HM P2),rfl,c_.of (by rw[hl,aci];rfl),?_⟩)⟩
 ·refine⟨_,rfl,_,_,rfl,rfl,?_⟩;have e:y=V.bl (HM P2 c):=by
   rw[aaI,abB,hc]at hy;exact(aaq hy).symm
  rw[e]at q';exact q' _ (b6.refl _)
 ·have e:(x.cps.toList.map (HM P2)).all id=oh P2 x:=by
   rw[ac8];rfl
  rw[e];exact q H' sm
def zH(X:Tx K w mg T):d9 P w K mg base E6 2 T.qBA T.OW ["kind", "thing"] BO:=by
 have Y8:=zv (P:=P) (w:=w) (base:=base) X;refine X.Sa.G9 Cn (λvs H Q E h=>?_) (λj8 A outer s H vs Q E hr h=>?_)
 ·obtain⟨_,rfl,_⟩:=h;rfl
 obtain⟨x,rfl,hx,q⟩:=h;refine⟨_,(af (be (aC bM (qv 0) ak (aK _)) dB aI) (af (be (aC bM (qv 0) ak (aK _)) (ao (aH (aB Y8 hr rfl X.V3 X.Sb.kp X.Yu .nil bu (d5 (qv 1) ac)))) aI) (ao vf))),?_⟩;exact⟨_,rfl,rfl,_,rfl,kL (by decide) ⟨_,rfl,rfl,_,rfl,me rfl ⟨_,rfl,x,rfl,hx,q⟩⟩⟩
def Ah(X:Tx K w mg T){d:Str}(hp:¬d = "pick"):(yp [(("add" : Str),Value.ref T.E4),(("sub" : Str),Value.ref T.D'),(("mul" : Str),Value.ref T.D_),(("less" : Str),Value.ref T.D9),(("glue" : Str),Value.ref T.D8),(("show" : Str),Value.ref T.D7),(("size" : Str),Value.ref T.D6),(("put" : Str),Value.ref T.D5),(("link" : Str),Value.ref T.D4),(("at" : Str),Value.ref T.D3),(("many" : Str),Value.ref T.z_)] d).isSome=decide (d∈i6):=by
 by_cases h:d∈i6
 ·rw[aa0 h];unfold i6 at h;simp only[aaf,abl,aaJ]at h;rcases h with rfl|rfl|rfl|rfl|rfl|rfl|rfl|rfl|rfl|rfl|rfl|rfl<;>first|rfl|exact absurd rfl hp
 ·rw[aaH h];unfold yp;rw[Option.isSome_map,<-Bool.not_eq_true,List.find?_isSome];rintro⟨p,hp,e⟩;refine h ?_;have e:p.1=d:=by simpa using e
  rw[<-e];have hp:=List.mem_map_of_mem (f:=Prod.fst) hp;exact(by decide +kernel:∀x∈[("add" : Str), "sub", "mul", "less", "glue", "show", "size", "put", "link", "at", "many"],x∈i6) _ hp
def zK(X:Tx K w mg T):d9 P w K mg base E6 1 T.qBC T.OU ["word"] BS:=by
 refine X.R_.G9 Ck (λvs H Q E h=>?_) (λj8 A outer s H vs Q E hr h=>?_)
 ·obtain⟨_,rfl,_⟩:=h;rfl
 obtain⟨d,rfl,q⟩:=h;refine⟨_,(ao (aH (EY (cR bM (qv 0) ak (aK _)) (iU (cR vx (qv 0) (bt rfl X.J8 (v:=V.ref T.t9) rfl) rfl))))),?_⟩;dsimp only[cq];refine⟨_,rfl,rfl,_,rfl,bI (λh=>?_) (λh=>?_)⟩
 ·have hd:d = "pick":=V.str.inj h;subst hd;have e:decide (("pick" : Str)∈i6)=true:=by decide +kernel
  rw[e]at q;exact q
 ·refine⟨_,rfl,d,T.t9,_,rfl,rfl,X.QU,X.JD,?_⟩;rw[Ah X λe=>h (by rw[e])];exact q
theorem mW(X:Tx K w mg T):d9 P w K mg base (Hu P w) 2 T.qAF T.Ph ["word"] (yE T.b7):=by
 have UC:=sj (P:=P) (w:=w) (base:=base) X;refine X.PL.KO CA (λvs H Q E h=>?_) (λj8 A outer s H vs Q E hr h=>?_)
 ·obtain⟨_,rfl,_⟩:=h;rfl
 obtain⟨z,rfl,tz,KU⟩:=h;refine⟨_,(af (be (eN (gU (aC jv (aA bC rfl X.ff aay (d5 (qv 0) ac)) aj (aK _)) (gU (aC kC (aU fq (qv 0) aj (λ_ _=>rfl)) (bt rfl X.IZ (v:=V.str "0123") ⟨_,rfl⟩) rfl) (gU (aC gY (aU fq (qv 0) aj (λ_ _=>rfl)) ak (aK _)) (fT (cE (cr (aB UC hr rfl X.V2 X.UD.kp X.Yt .nil bu (x_ (bc eK (qv 0) (bi aj) bE) ac))))))))) (ao (bP rfl rfl X.g_ X.f_ (Nn (cL (bq (dU hr (qv 0)) (bq ak dq))) ac) bO)) aI) (ao (aH (bw (y8 (bp fZ rfl X.Kl acH (x_ (aU fq (qv 0) aj (λ_ _=>rfl)) ac)) (x_ (bc eK (qv 0) (bi aj) bE) ac)))))),?_⟩;have Rt:=tz.1;have ls:=dz tz;have e0:Str.empty.length=0:=rfl;have l1:(Str.ofString " writes no value of a form").length=26:=by decide
 have M_:sizeLine=16777216:=by decide
 unfold Jp;refine dc (λH1=>b6 H H1/\¬Wr z) (λH1=>b6 H H1/\∃(c:Nat)(x:Str),z.cps.toList=c::46::x.cps.toList/\(c=48\/c=49\/c=50\/c=51)/\x.cps.toList≠[]/\x.cps.toList.length<=8/\∀c∈x.cps.toList,ce c=true) (λQ' qT qF=>?_) (λH1 ⟨s1,hn⟩=>?_) (λH1 ⟨s1,c,x,L,hc,hx⟩=>?_)
 ·refine⟨_,rfl,z,rfl,aO (by lia),_,_,rfl,rfl,_,rfl,bI (λh=>qT H ⟨b6.refl _,?_⟩) (λh=>?_)⟩
  ·rintro⟨k,x,rfl,wf⟩;unfold Wf at wf;have lx:=List.length_pos_iff.mpr wf.2.1;obtain⟨c,ec,_⟩:=nF wf.1;have hl:(sh (.val k x)).length=x.cps.toList.length+2:=by rw[aq,dH,ec];rfl
   lia
  obtain⟨c,c1,r,L⟩:∃c c1 r,z.cps.toList=c::c1::r:=by
   have h:3<=z.cps.toList.length:=by rw[<-aq];lia
   match e:z.cps.toList,h with
   |a::b::r,_=>exact⟨a,b,r,rfl⟩
  have a0:y6 z.cps.toList 0=some c:=by rw[L];exact cb _ _
  have a1:y6 z.cps.toList 1=some c1:=by rw[L];exact bY (j:=1) rfl
  have a2:Txt.slice z (some 2) none=i8 r:=bx (by rw[fP (k:=2) 2 rfl (by rw[L];simp),L,bz];rfl);have Tg:∀{p:Prop},(∀k x,Wf (.val k x)->c=c->c::c1::r=(Str.ofString (toString k)).cps.toList++46::x.cps.toList->p)->Wr z->p:=λg ⟨k,x,e,wf⟩=>g k x wf rfl (by rw[<-L,e,dH]);refine⟨_,rfl,z,0,c,rfl,rfl,aO (by lia),a0,_,_,rfl,rfl,_,rfl,?_⟩;show if(!HM S4 c)=true then _ else _
  cases h4:HM S4 c with
  |false=>
   refine fX (qT H ⟨b6.refl _,Tg λk x wf _ e=>?_⟩);unfold Wf at wf;obtain⟨d,ed,_,d4,_⟩:=nF wf.1;rw[ed]at e;cases e;rw[h4]at d4;cases d4
  |true=>
  refine fH ?_;refine⟨_,rfl,z,1,c1,rfl,rfl,aO (by lia),a1,rfl,_,rfl,iF (λh1=>qT H ⟨b6.refl _,Tg λk x wf _ e=>?_⟩) (λh1=>?_)⟩
  ·unfold Wf at wf;obtain⟨d,ed,_,d4,_⟩:=nF wf.1;rw[ed]at e;cases e;exact h1 (by rw[dot])
  have h46:c1=46:=JX.mp (h1.trans (by rw[dot]));subst h46;refine⟨_,rfl,_,rfl,z,rfl,aO (by lia),_,rfl,by rw[a2,aq,bz];rw[aq,L]at Rt;simp at Rt⊢;lia,λH1 s1=>⟨_,rfl,?_⟩⟩;rw[a2];cases hn:MV (i8 r)with
  |false=>
   refine qT H1 ⟨s1,Tg λk x wf _ e=>?_⟩;unfold Wf at wf;obtain⟨d,ed,_,d4,_⟩:=nF wf.1;rw[ed]at e;have er:r=x.cps.toList:=by cases e;rfl
   rw[er,sH,LJ.mpr wf.2]at hn;cases hn
  |true=>
   refine qF H1 ⟨s1,c,i8 r,by rw[bz];exact L,m4 c (Dh h4),LJ.mp hn⟩
 ·rcases KU with⟨k,x,rfl,wf,_⟩|⟨_,qe⟩
  ·exact absurd ⟨k,x,rfl,wf⟩ hn
  ·exact⟨_,rfl,.str _,.str _,by simp only[PyData.showable],by simp only[PyData.hasDict],by simp only[PyData.depth];decide,by lia,_,rfl,by rw[ay,e0];lia,_,rfl,by rw[ay,ay,e0,l1];lia,(by show 1<=10;decide),qe _ s1⟩
 ·have a0:y6 z.cps.toList 0=some c:=by rw[L];exact cb _ _
  have a2:Txt.slice z (some 2) none=x:=bx (by rw[fP (k:=2) 2 rfl (by rw[L];simp),L];rfl);obtain⟨k,ek,ci,wk⟩:∃k:Int,(Str.ofString (toString k)).cps.toList=[c]/\PySem.intText? ⟨#[c]⟩=some k/\(k=0\/k=1\/k=2\/k=3):=by
   rcases hc with rfl|rfl|rfl|rfl
   ·exact⟨0,by decide +kernel,by decide +kernel,by decide⟩
   ·exact⟨1,by decide +kernel,by decide +kernel,by decide⟩
   ·exact⟨2,by decide +kernel,by decide +kernel,by decide⟩
   ·exact⟨3,by decide +kernel,by decide +kernel,by decide⟩
  have ez:z=sh (.val k x):=bx (by rw[dH,ek,L];rfl);have wv:Wf (.val k x):=by unfold Wf;exact⟨wk,hx⟩
  refine⟨_,rfl,z,0,c,rfl,rfl,aO (by lia),a0,_,k,rfl,ci,(by show 1<=640;decide),_,rfl,_,rfl,z,rfl,aO (by lia),Z2,λp hp=>?_⟩;rw[a2];rcases KU with⟨k',x',e,UI,q⟩|⟨hn,_⟩
  ·have:Tm.val k x=Tm.val k' x':=JM.IS trivial wv trivial UI (ez.symm.trans e);cases this;exact q p _ (s1.trans (ae hp _)) aa
  ·exact absurd ⟨k,x,ez,wv⟩ hn
theorem rY(X:Tx K w mg T):d9 P w K mg base E6 3 T.qAH T.Pf ["word"] uK:=by
 have Y7:=zH (P:=P) (w:=w) (base:=base) X;refine X.Ss.G9 Cy (λvs H Q E h=>?_) (λj8 A outer s H vs Q E hr h=>?_)
 ·obtain⟨_,rfl,_⟩:=h;rfl
 obtain⟨z,rfl,hz,KU⟩:=h;refine⟨_,(af (be (eN (gU (aC jv (aA bC rfl X.ff aay (d5 (qv 0) ac)) aj (aK _)) (gU (aC gY (aU fq (qv 0) aj (λ_ _=>rfl)) (bt rfl X.Iw (v:=V.str "\"") ⟨_,rfl⟩) (aK _)) (fT (aC gY (aU fq (qv 0) (rK ke aj) (λ_ _=>rfl)) (bt rfl X.Iw (v:=V.str "\"") ⟨_,rfl⟩) (aK _)))))) (ao (aH dZ)) aI) (ao (aH (aB Y7 hr rfl X.V1 X.Sa.kp X.Ys .nil bu (d_ ak (x_ (bc eK (qv 0) (bi aj) (bi (rK ke aj))) ac)))))),?_⟩;have no:¬isQ z->∀H',b6 H H'->Q (.bl false) H':=λhn=>by
  rcases KU with⟨h,_⟩|⟨_,q⟩
  ·exact absurd h hn
  ·exact q
 refine⟨_,rfl,z,rfl,aO (by lia),_,_,rfl,rfl,_,rfl,bI (λh=>no ?_ H (b6.refl _)) (λh=>?_)⟩
 ·rintro⟨x,rfl,_⟩;rw[aq,dy,aac,aaa]at h;simp at h
  lia
 obtain⟨a,l,b,L⟩:=yx (z:=z) (by lia);have e0:y6 z.cps.toList 0=some a:=by rw[L];exact cb _ _
 have e1:y6 z.cps.toList (-1)=some b:=by rw[L,<-aaE];exact oa _ _
 have e2:Txt.slice z (some 1) (some (-1))=i8 l:=bx (by rw[jc L,bz]);have isq:isQ z->a=34/\b=34/\Wf (.text (i8 l)):=λ⟨x,e,wf⟩=>by rw[e,dy]at L;obtain⟨h0,h1⟩:=aab L;obtain⟨h2,h3⟩:=acw h1 rfl;cases h3;rw[<-h2,sH];exact⟨h0.symm,rfl,wf⟩
 refine⟨_,rfl,z,0,a,rfl,rfl,aO (by lia),e0,rfl,_,rfl,iF (λh=>no (λg=>h (by rw[(isq g).1,vc])) H (b6.refl _)) (λh=>?_)⟩;refine⟨_,rfl,_,rfl,z,-1,b,rfl,rfl,aO (by lia),e1,rfl,_,rfl,iF (λh=>no (λg=>h (by rw[(isq g).2.1,vc])) H (b6.refl _)) (λh'=>?_)⟩;have a34:a=34:=JX.mp (h.trans (by rw[vc]));have b34:b=34:=JX.mp (h'.trans (by rw[vc]));subst a34 b34;refine⟨_,rfl,_,rfl,_,rfl,_,rfl,z,rfl,aO (by lia),_,rfl,by rw[e2,aq,bz];rw[aq,L]at hz;simp at hz;lia,λH1 s1=>?_⟩;rw[e2];cases ht:P8 (i8 l)with
 |false=>
  refine no (λg=>?_) H1 s1;rw[ND.mpr (isq g).2.2]at ht;cases ht
 |true=>
  rcases KU with⟨_,q⟩|⟨hn,_⟩
  ·exact q H1 s1
  ·exact absurd ⟨i8 l,bx (by rw[dy,bz,L]),ND.mp ht⟩ hn
theorem vA(X:Tx K w mg T):d9 P w K mg base (Hu P w) 4 T.qAJ T.Pd ["word"] (yH T.b7):=by
 have Zj:=(sf (P:=P) (w:=w) (base:=base) X).mono (show 1<=3 by decide);have Zn:=rY (P:=P) (w:=w) (base:=base) X;have PF:=(mW (P:=P) (w:=w) (base:=base) X).mono (show 2<=3 by decide);refine X.Sq.KO NL (λvs H Q E h=>?_) (λj8 A outer s H vs Q E hr h=>?_)
 ·obtain⟨_,rfl,_⟩:=h;rfl
 obtain⟨z,rfl,tz,KU⟩:=h;refine⟨_,(af (be (aC bM (qv 0) ak (aK _)) (ao (aH (bw (d_ ak ac)))) aI) (af (be (aC bM (qv 0) ak (aK _)) (ao (aH (bw (d_ ak ac)))) aI) (af (be (cr (aB Zj hr rfl X.Wb X.Sn.kp X.YH .nil bu (d5 (qv 0) ac))) (ao (aH (bw (d_ ak (y8 (bp fZ rfl X.Kl acH (d5 (qv 0) ac)) ac))))) aI) (af (be (cr (aB Zn hr rfl X.Wh X.Ss.kp X.YL .nil bu (d5 (qv 0) ac))) (ao (aH (bw (d_ ak (x_ (bc eK (qv 0) (bi aj) (bi (rK ke aj))) ac))))) aI) (af (aD (i:=1) NL.nd rfl oI1 (aB PF hr rfl X.Rl X.PL.kp X.RP .nil bW (d5 (qv 0) ac))) (ao (aH (bw (d_ ak (x_ (aU dX (qv 1) aj (λ_ _=>rfl)) (x_ (aU dX (qv 1) aj (λ_ _=>rfl)) ac))))))))))),?_⟩;dsimp only[cq];have Rt:=tz.1;have got:∀t,iC t->Wf t->z=sh t->∀v H',b6 H H'->j0 H' t v->Q v H':=λt hl wf e=>by
  rcases KU with⟨t',Jd,UI,e',q⟩|⟨hn,_⟩
  ·have:t=t':=JM.IS hl wf Jd UI (e.symm.trans e');subst this;exact q
  ·exact absurd ⟨t,hl,wf,e⟩ hn
 refine⟨_,rfl,rfl,_,rfl,bI (λh=>⟨Z1,λp hp=>?_⟩) (λh1=>?_)⟩
 ·exact got .mark trivial (by unfold Wf;trivial) (by rw[V.str.inj h];unfold sh;rfl) _ _ (ae hp _) (by unfold j0;exact⟨p,rfl,aa⟩)
 refine⟨_,rfl,rfl,_,rfl,bI (λh=>⟨Z1,λp hp=>?_⟩) (λh2=>?_)⟩
 ·exact got .row trivial (by unfold Wf;trivial) (by rw[V.str.inj h];unfold sh;rfl) _ _ (ae hp _) (by unfold j0;exact⟨p,rfl,aa⟩)
 refine⟨_,rfl,z,rfl,Rt,λH1 s1=>⟨_,rfl,?_⟩⟩;cases TN:uA z with
 |true=>
  obtain⟨n,ez,wf⟩:=Mo.mp TN;have UI:=wf;unfold Wf at UI;have es:sh (.num n)=Str.ofString (toString n):=by unfold sh;rfl
  have ll:=(leaf_len (t:=.num n) trivial wf).2;refine fX ⟨_,rfl,_,n,rfl,by rw[ez,es];exact iX UI.1 (by rw[<-es];lia),by rw[ez];lia,Z2,λp hp=>?_⟩;exact got (.num n) trivial wf ez _ _ (s1.trans (ae hp _)) (by unfold j0;exact⟨p,rfl,aa⟩)
 |false=>
 refine fH ?_;by_cases hq:isQ z
 ·obtain⟨x,ez,wf⟩:=hq;have e2:Txt.slice z (some 1) (some (-1))=x:=by rw[ez];exact bx (jc (dy x))
  refine⟨_,rfl,z,rfl,Rt,.inl ⟨⟨x,ez,wf⟩,λH2 s2=>⟨_,rfl,fX ?_⟩⟩⟩;refine⟨_,rfl,_,rfl,_,rfl,_,rfl,z,rfl,aO (by lia),Z2,λp hp=>?_⟩;rw[e2];exact got (.text x) trivial wf ez _ _ (s1.trans (s2.trans (ae hp _))) (by unfold j0;exact⟨p,rfl,aa⟩)
 refine⟨_,rfl,z,rfl,Rt,.inr ⟨hq,λH2 s2=>⟨_,rfl,fH ?_⟩⟩⟩;by_cases hv:Wr z
 ·obtain⟨k,x,ez,wf⟩:=hv;refine⟨_,rfl,z,rfl,tz,.inl ⟨k,x,ez,wf,λp H3 s3 hp=>?_⟩⟩;refine⟨_,rfl,p,_,0,_,rfl,rfl,k_.of hp,rfl,_,rfl,p,_,1,_,rfl,rfl,k_.of hp,rfl,Z3,λp2 QF=>?_⟩;exact got (.val k x) trivial wf ez _ _ (s1.trans (s2.trans (s3.trans (ae QF _)))) (by unfold j0;exact⟨p2,rfl,aa⟩)
 ·refine⟨_,rfl,z,rfl,tz,.inr ⟨hv,λH3 s3=>?_⟩⟩;rcases KU with⟨t,hl,wf,e,_⟩|⟨_,qe⟩
  ·exfalso;cases t with
   |mark=>exact h1 (by rw[e];unfold sh;rfl)
   |row=>exact h2 (by rw[e];unfold sh;rfl)
   |num n=>rw[Mo.mpr ⟨n,e,wf⟩]at TN;cases TN
   |text x=>exact hq ⟨x,e,wf⟩
   |val k x=>exact hv ⟨k,x,e,wf⟩
   |call _ _=>cases hl
  ·exact qe _ (s1.trans (s2.trans s3))
mutual
noncomputable def Ha:Tm->Ns
 |.call w ts=>.n w.cps.toList (hI ts)
 |.num n=>.n (sh (.num n)).cps.toList []
 |.text z=>.n (sh (.text z)).cps.toList []
 |.row=>.n (sh .row).cps.toList []
 |.mark=>.n (sh .mark).cps.toList []
 |.val k z=>.n (sh (.val k z)).cps.toList []
noncomputable def hI:List Tm->List Ns
 |[]=>[]
 |t::ts=>Ha t::hI ts
end
def eW(h:iC t):Ha t=.n (sh t).cps.toList []:=by cases t with|call _ _=>cases h|_=>rw[Ha]
theorem mZ:∀ts:List Tm,(hI ts).length=ts.length
 |[]=>by rw[hI];rfl
 |t::ts=>by rw[hI,aac,aac,mZ ts]
mutual
theorem yr:∀t:Tm,Wf t->txt 44 (Ha t)=(sh t).cps.toList
 |.call w ts,h=>by
  unfold Wf at h;obtain⟨_,hn,_,hw⟩:=h;rw[ba,Ha,txt];congr 1;cases ts with
  |nil=>exact absurd rfl hn
  |cons t ts=>
   unfold r_ at hw;rw[hI,brk,yr t hw.1,xk ts hw.2,eD,aas]
 |.num n,_=>by rw[Ha,txt,brk,aaW]
 |.text z,_=>by rw[Ha,txt,brk,aaW]
 |.row,_=>by rw[Ha,txt,brk,aaW]
 |.mark,_=>by rw[Ha,txt,brk,aaW]
 |.val k z,_=>by rw[Ha,txt,brk,aaW]
theorem xk:∀ts:List Tm,r_ ts->uH 44 (hI ts)=((ts.map sh).map λz=>44::z.cps.toList).flatten
 |[],_=>by rw[hI,uH];rfl
 |t::ts,h=>by unfold r_ at h;rw[hI,uH,yr t h.1,xk ts h.2,aaV,aaV,abC];rfl
end
def iA(h:iC t)(w:Wf t):Cl 44 (Ha t):=by rw[eW h];exact .n (cG h w) (λi hi=>nomatch hi)
mutual
theorem Gf:∀t:Tm,Wf t->Cl 44 (Ha t)
 |.call w ts,h=>by
  unfold Wf at h;rw[Ha];exact .n (dg w h.1) (Ea ts h.2.2.2)
 |.num n,h=>iA trivial h
 |.text z,h=>iA trivial h
 |.row,h=>iA trivial h
 |.mark,h=>iA trivial h
 |.val k z,h=>iA trivial h
theorem Ea:∀ts:List Tm,r_ ts->∀i∈hI ts,Cl 44 i
 |[],_,i,hi=>by rw[hI]at hi;cases hi
 |t::ts,h,i,hi=>by
  unfold r_ at h;rw[hI]at hi;rcases List.mem_cons.mp hi with e|hi
  ·rw[e];exact Gf t h.1
  ·exact Ea ts h.2 i hi
end
def dF(h:iC t):((many (Ha t):Nat):Int)=aX t:=by rw[eW h,many,jE,bZ h];rfl
mutual
theorem xM:∀t:Tm,((many (Ha t):Nat):Int)=aX t
 |.call w ts=>by
  rw[Ha,many,aX];have:=sJ ts
  lia
 |.num n=>dF trivial
 |.text z=>dF trivial
 |.row=>dF trivial
 |.mark=>dF trivial
 |.val k z=>dF trivial
theorem sJ:∀ts:List Tm,((jE (hI ts):Nat):Int)=bj ts
 |[]=>by rw[hI,jE,bj];rfl
 |t::ts=>by
  rw[hI,jE,bj];have:=xM t;have:=sJ ts
  lia
end
def fe(h:iC t){l:Nat}{x:Row}(hx:x∈rws l (Ha t)):x.2.2+1<=l+depth t:=by rw[eW h,rws,gc,aaS]at hx;rw[List.mem_singleton.mp hx,cj h];exact aam _
mutual
theorem Ds:∀(t:Tm){l:Nat}{x:Row},x∈rws l (Ha t)->x.2.2+1<=l+depth t
 |.call w ts,l,x,h=>by
  rw[Ha,rws]at h;rw[depth];rcases List.mem_append.mp h with h|h
  ·have:=xQ ts h
   lia
  ·rw[List.mem_singleton.mp h];show l+1<=_
   lia
 |.num n,l,x,h=>fe (t:=.num n) trivial h
 |.text z,l,x,h=>fe (t:=.text z) trivial h
 |.row,l,x,h=>fe (t:=.row) trivial h
 |.mark,l,x,h=>fe (t:=.mark) trivial h
 |.val k z,l,x,h=>fe (t:=.val k z) trivial h
theorem xQ:∀(ts:List Tm){l:Nat}{x:Row},x∈gc l (hI ts)->x.2.2+1<=l+aZ ts
 |[],l,x,h=>by rw[hI,gc]at h;cases h
 |t::ts,l,x,h=>by
  rw[hI,gc]at h;rw[aZ];rcases List.mem_append.mp h with h|h
  ·have:=Ds t h
   lia
  ·have:=xQ ts h
   lia
end
def xc:List Tm->List Row->List Tm->Prop
 |S,[],S'=>S=S'
 |S,x::rs,S'=>∃S0 ts t,S=S0++ts/\ts.length=x.2.1/\Wf t/\((ts=[]/\iC t/\x.1=sh t)\/(ts≠[]/\t=.call x.1 ts))/\xc (S0++[t]) rs S'
def dA(hl:iC t)(hw:Wf t)(l:Nat)(S S':List Tm)(rs:List Row)(g:xc (S++[t]) rs S'):xc S (rws l (Ha t)++rs) S':=by rw[eW hl,rws,gc,aaS,aaE,aaS];exact⟨S,[],t,by rw[aaW],rfl,hw,.inl ⟨rfl,hl,(jD rfl).symm⟩,g⟩
mutual
theorem mO:∀(t:Tm),Wf t->∀(l:Nat)(S S':List Tm)(rs:List Row),xc (S++[t]) rs S'->xc S (rws l (Ha t)++rs) S'
 |.call w ts,h,l,S,S',rs,g=>by
  have h':=h;unfold Wf at h';rw[Ha,rws,aas];refine kq ts h'.2.2.2 (l+1) S S' _ ?_;rw[aaE,aaS];have e:i8 w.cps.toList=w:=(jD rfl).symm;exact⟨S,ts,.call w ts,rfl,(mZ ts).symm,h,.inr ⟨h'.2.1,by rw[e]⟩,g⟩
 |.num n,h,l,S,S',rs,g=>dA (t:=.num n) trivial h l S S' rs g
 |.text z,h,l,S,S',rs,g=>dA (t:=.text z) trivial h l S S' rs g
 |.row,h,l,S,S',rs,g=>dA (t:=.row) trivial h l S S' rs g
 |.mark,h,l,S,S',rs,g=>dA (t:=.mark) trivial h l S S' rs g
 |.val k z,h,l,S,S',rs,g=>dA (t:=.val k z) trivial h l S S' rs g
theorem kq:∀(ts:List Tm),r_ ts->∀(l:Nat)(S S':List Tm)(rs:List Row),xc (S++ts) rs S'->xc S (gc l (hI ts)++rs) S'
 |[],h,l,S,S',rs,g=>by
  rw[hI,gc,aaS];rw[aaW]at g;exact g
 |t::ts,h,l,S,S',rs,g=>by unfold r_ at h;rw[hI,gc,aas];refine mO t h.1 l S S' _ ?_;refine kq ts h.2 l (S++[t]) S' rs ?_;rw[aas];exact g
end
def uX(h:Wf t):xc [] (rws 1 (Ha t)) [t]:=by have:=mO t h 1 [] [t] [] rfl;rw[aaW]at this;exact this
theorem xm{H:Hp}:∀{ts:List Tm}{vs:List V},g9 (j0 H) ts vs->j' H ts vs
 |_,_,.nil=>by unfold j';rfl
 |_,_,.cons x y=>by unfold j';exact⟨_,_,rfl,x,xm y⟩
theorem _root_.TM.g9.Q1{α:Type}{R:α->V->Prop}:∀{as bs:List α}{vs:List V},g9 R (as++bs) vs->∃xs ys,vs=xs++ys/\g9 R as xs/\g9 R bs ys
 |[],bs,vs,h=>⟨[],vs,rfl,.nil,h⟩
 |a::as,bs,_,.cons h1 h2=>by obtain⟨xs,ys,e,g1,g2⟩:=TM.g9.Q1 h2;exact⟨_::xs,ys,by rw[e];rfl,.cons h1 g1,g2⟩
noncomputable def hg:Nat->List Row->Option Nat
 |n,[]=>some n
 |n,x::rs=>if x.2.1<=n then hg (n-x.2.1+1) rs else none
theorem mf(x:Row):∀(rs:List Row)(n:Nat),hg n (rs++[x])=(hg n rs).bind λm=>if x.2.1<=m then some (m-x.2.1+1)else none
 |[],n=>by simp[hg]
 |y::rs,n=>by
  rw[aaE,hg,hg];split
  ·exact mf x rs _
  ·rfl
def JJ(st:Ms):Prop:=∃m,hg 0 st.rs=some m/\(st.op.map (·.2)).sum+(if st.cl=true then 1 else 0)<=m
variable{rs:List Row}{st:Ms}
theorem sS{w:Str}(j:JJ st)(h:j_ st w rs):∃m,hg 0 rs=some m/\(st.op.map (·.2)).sum+1<=m:=by
 obtain⟨m,h1,h2⟩:=j;cases h with
 |word=>
  have h1:hg 0 _=some m:=h1;refine⟨m+1,by rw[mf,h1];simp,?_⟩;simp at h2⊢
  lia
 |again=>exact⟨m,h1,by simpa using h2⟩
variable{p:Str×Str}{A1:Ms}
theorem At(j:JJ st)(h:NS.Step 44 st p A1):JJ A1:=by
 obtain⟨w,s⟩:=p;rcases cA h with⟨_,c,rfl⟩|⟨C3,op,o,c,e,d,⟨_,rfl⟩|⟨_,rfl⟩⟩|⟨C3,d,_,rfl⟩
 ·obtain⟨m,h1,h2⟩:=j;rw[c]at h2;exact⟨m,h1,by simpa using h2⟩
 ·obtain⟨m,h1,h2⟩:=sS j d;rw[e]at h2;refine⟨m,h1,?_⟩;simp at h2⊢
  lia
 ·obtain⟨m,h1,h2⟩:=sS j d;rw[e]at h2;simp at h2;refine⟨m-(c+1)+1,?_,?_⟩
  ·show hg 0 (C3++[(o,c+1,op.length+1)])=_;rw[mf,h1];show(if c+1<=m then _ else _)=_;rw[aaX (by lia)]
  ·simp
   lia
 ·obtain⟨m,h1,h2⟩:=sS j d;refine⟨m,h1,?_⟩;show(st.op.map (·.2)).sum+(if st.cl=true then 1 else 0)<=m;split<;>lia
variable{ps:List (Str×Str)}{a b:Ms}
theorem DC:JJ a->NS.Run 44 a ps b->JJ b:=by
 induction ps generalizing a with
 |nil=>intro j h;have h:a=b:=h;subst h;exact j
 |cons x xs ih=>rintro j ⟨d,h,g⟩;exact ih (At j h) g
def DD:JJ Tr:=⟨0,rfl,by simp⟩
theorem mj{w:Str}(h:j_ st w rs)(hw:eI w)(hr:∀x∈st.rs,eI x.1):∀x∈rs,eI x.1:=by
 cases h with
 |word=>
  intro x hx;rcases List.mem_append.mp hx with h|h
  ·exact hr x h
  ·rw[List.mem_singleton.mp h];exact hw
 |again=>exact hr
def WW(st:Ms):Prop:=(∀x∈st.rs,eI x.1)/\∀x∈st.op,eI x.1
def Bo:WW Tr:=⟨λx hx=>absurd (show x∈([]:List Row)from hx) aaj,λx hx=>absurd (show x∈([]:List (Str×Nat))from hx) aaj⟩
def yi(j:WW st)(hp:eI p.1)(h:NS.Step 44 st p A1):WW A1:=by
 obtain⟨w,s⟩:=p;rcases cA h with⟨_,c,rfl⟩|⟨C3,op,o,c,e,d,⟨_,rfl⟩|⟨_,rfl⟩⟩|⟨C3,d,_,rfl⟩
 ·refine⟨j.1,λx hx=>?_⟩;rcases List.mem_append.mp hx with h|h
  ·exact j.2 x h
  ·rw[List.mem_singleton.mp h];exact hp
 ·have j2:=j.2;rw[e]at j2;refine⟨mj d hp j.1,λx hx=>?_⟩;rcases List.mem_append.mp hx with h|h
  ·exact j2 x (List.mem_append.mpr (.inl h))
  ·rw[List.mem_singleton.mp h];exact j2 (o,c) (List.mem_append.mpr (.inr (by simp)))
 ·have j2:=j.2;rw[e]at j2;refine⟨λx hx=>?_,λx hx=>j2 x (List.mem_append.mpr (.inl hx))⟩;rcases List.mem_append.mp hx with h|h
  ·exact mj d hp j.1 x h
  ·rw[List.mem_singleton.mp h];exact j2 (o,c) (List.mem_append.mpr (.inr (by simp)))
 ·exact⟨mj d hp j.1,j.2⟩
theorem Bn:WW a->(∀p∈ps,eI p.1)->NS.Run 44 a ps b->WW b:=by
 induction ps generalizing a with
 |nil=>intro j _ h;have h:a=b:=h;subst h;exact j
 |cons x xs ih=>rintro j hp ⟨d,h,g⟩;exact ih (yi j (hp x (by simp)) h) (λp hx=>hp p (by simp[hx])) g
theorem Ao:NS.Run 44 a ps b->b.rs.length<=a.rs.length+2*ps.length:=by
 induction ps generalizing a with
 |nil=>intro h;have h:a=b:=h;subst h;simp
 |cons x xs ih=>
  rintro⟨d,h,g⟩;have w1:=(NS.Mj h).1;have:=ih g;rw[aac]
  lia
theorem CY(hz:eI z):∀p∈NS.o6 44 [] z.cps.toList,eI p.1:=λp hp=>by
 obtain⟨a,b,c⟩:=mU hp;have JB:=hz.1;refine⟨by rw[aq];rw[aq]at JB;simp at b JB⊢;lia,λx hx=>?_⟩;rcases a x hx with h|h
 ·cases h
 ·exact hz.2 x h
def Az{n m:Nat}{x:Row}(h:hg n (x::rs)=some m):x.2.1<=n/\hg (n-x.2.1+1) rs=some m:=by
 rw[hg]at h;split at h
 ·rename_i h1;exact⟨h1,h⟩
 ·cases h
def hZ(h:iC t)(l:Nat):∃x∈rws l (Ha t),x.2.2+1=l+depth t:=by rw[eW h,rws,gc,cj h];exact⟨_,List.mem_append.mpr (.inr (List.mem_singleton.mpr rfl)),rfl⟩
mutual
theorem ma:∀(t:Tm)(l:Nat),∃x∈rws l (Ha t),x.2.2+1=l+depth t
 |.call w ts,l=>by
  rw[Ha,rws,depth];by_cases h:ts=[]
  ·subst h;exact⟨_,List.mem_append.mpr (.inr (List.mem_singleton.mpr rfl)),by show l+1=l+(1+aZ []);rw[aZ]⟩
  ·obtain⟨x,hx,e⟩:=nE ts (l+1) h;exact⟨x,List.mem_append.mpr (.inl hx),by lia⟩
 |.num n,l=>hZ (t:=.num n) trivial l
 |.text z,l=>hZ (t:=.text z) trivial l
 |.row,l=>hZ (t:=.row) trivial l
 |.mark,l=>hZ (t:=.mark) trivial l
 |.val k z,l=>hZ (t:=.val k z) trivial l
theorem nE:∀(ts:List Tm)(l:Nat),ts≠[]->∃x∈gc l (hI ts),x.2.2+1=l+aZ ts
 |[],_,h=>absurd rfl h
 |t::ts,l,_=>by
  rw[hI,gc,aZ];by_cases h:ts=[]
  ·subst h;obtain⟨x,hx,e⟩:=ma t l;exact⟨x,List.mem_append.mpr (.inl hx),by rw[aZ];lia⟩
  ·obtain⟨x,hx,e⟩:=ma t l;obtain⟨y,hy,f⟩:=nE ts l h;by_cases g:depth t<=aZ ts
   ·exact⟨y,List.mem_append.mpr (.inr hy),by lia⟩
   ·exact⟨x,List.mem_append.mpr (.inl hx),by lia⟩
end
def yL(N:Addr):Sp:=λvs H Q E=>∃(d:Str)(a:Addr)(us:List V),vs=[.str d,.ref a]/\eI d/\H a=some (.tup us)/\us.length<=50000/\(((d∈i6/\us.length<=3)/\∀p H',b6 H H'->H' p=some (.tup [.str "call",.str d,.ref a])->Q (.ref p) H')\/(¬(d∈i6/\us.length<=3)/\∀H',b6 H H'->E (.ref N) none H'))
def BH(N G:Addr):Sp:=λvs H Q E=>∃z:Str,vs=[.str z]/\eI z/\((∃t,z=sh t/\Wf t/\aX t<=100/\(aX t<=30->depth t<=6->∀v H',b6 H H'->j0 H' t v->Q v H')/\((30<aX t\/6<depth t)->∀H',b6 H H'->E (.ref G) none H'))\/(Bad z/\∀H',b6 H H'->E (.ref N) none H'))
theorem EM(h:Wf t)(hz:aX t<=100):eI (sh t):=⟨by have:=kj t h;lia,gQ t h⟩
theorem vF(X:Tx K w mg T):d9 P w K mg base (Hu P w) 2 T.qAQ T.O7 ["deed", "terms"] (yL T.b7):=by
 have Y6:=zK (P:=P) (w:=w) (base:=base) X;refine X.Si.KO Cu (λvs H Q E h=>?_) (λj8 A outer s H vs Q E hr h=>?_)
 ·obtain⟨_,_,_,rfl,_⟩:=h;rfl
 obtain⟨d,a,us,rfl,td,ha,hl,KU⟩:=h;refine⟨_,(af (be (cE (cr (aB Y6 hr rfl X.V0 X.R_.kp X.Yr .nil bu (d5 (qv 0) ac)))) (ao (bP rfl rfl X.g_ X.f_ (Nn (cL (bq ak (bq (dU hr (qv 0)) dq))) ac) bO)) aI) (af (be (aC pW (aA b8 rfl X.ff aay (d5 (qv 1) ac)) (bt rfl X.v9 (v:=V.int 3) ⟨_,rfl⟩) (aK _)) (ao (bP rfl rfl X.g_ X.f_ (Nn (cL (bq ak (bq (rM (bt rfl X.v9 (v:=V.int 3) ⟨_,rfl⟩)) (bq ak dq)))) ac) bO)) aI) (ao (aH (bw (d_ ak (d5 (qv 0) (d5 (qv 1) ac)))))))),?_⟩;dsimp only[cq];have ls:=dz td;have e0:Str.empty.length=0:=rfl;have l1:(Str.ofString "there is no deed ").length=17:=by decide
 have M_:sizeLine=16777216:=by decide
 refine⟨_,rfl,d,rfl,_,rfl,?_⟩;have no:¬(d∈i6/\us.length<=3)->∀H',b6 H H'->E (.ref T.b7) none H':=λhn=>by
  rcases KU with⟨h,_⟩|⟨_,q⟩
  ·exact absurd h hn
  ·exact q
 by_cases hd:d∈i6
 ·rw[aa0 hd];refine fH ⟨_,rfl,a,us,rfl,.inr (k_.of ha),_,_,rfl,rfl,_,rfl,bI (λh=>?_) (λh=>?_)⟩
  ·exact⟨_,rfl,aO (by decide +kernel),.inr ⟨3,rfl,db (by decide) (by decide),_,rfl,aO (by decide +kernel),_,rfl,aO (by decide +kernel),(by show 1<=10;decide),no (λg=>by lia) _ (b6.refl _)⟩⟩
  ·refine⟨_,rfl,_,rfl,Z3,λp hp=>?_⟩;rcases KU with⟨_,q⟩|⟨hn,_⟩
   ·exact q p _ (ae hp _) aa
   ·exact absurd ⟨hd,by lia⟩ hn
 ·rw[aaH hd];exact fX ⟨_,rfl,by rw[ay,e0,l1];lia,_,rfl,.str _,.str _,by simp only[PyData.showable],by simp only[PyData.hasDict],by simp only[PyData.depth];decide,by lia,_,rfl,by rw[ay,ay,e0,l1];lia,(by show 1<=10;decide),no (λg=>hd g.1) _ (b6.refl _)⟩
theorem zB(X:Tx K w mg T):d9 P w K mg base (Hu P w) 6 T.qAO T.O9 ["text"] (BH T.b7 T.b_):=by
 have Zk:=(zG (P:=P) (w:=w) (base:=base) X).mono (show 4<=5 by decide);have Zm:=(zw (P:=P) (w:=w) (base:=base) X).mono (show 1<=5 by decide);have Ze:=(vF (P:=P) (w:=w) (base:=base) X).mono (show 2<=5 by decide);have Zl:=(vA (P:=P) (w:=w) (base:=base) X).mono (show 4<=5 by decide);have Zd:=(zJ (P:=P) (w:=w) (base:=base) X).mono (show 1<=5 by decide);refine X.Sk.KO Hd (λvs H Q E h=>?_) (λj8 A outer s H vs Q E hr h=>?_)
 ·obtain⟨_,rfl,_⟩:=h;rfl
 obtain⟨z,rfl,tz,KU⟩:=h;refine⟨_,(af (aD (i:=1) Hd.nd rfl oI1 (aB Zk hr rfl X.Wc X.So.kp X.YI .nil bW (d5 (qv 0) (d_ ak ac)))) (af (aD (i:=2) Hd.nd rfl oI1 (aR ac)) (af (cF ab9 rfl (cK (qv 1)) (du rfl (aW (aM (i:=3) Hd.nd rfl oI1) (aW (aM (i:=4) Hd.nd rfl oI1) (aW (aM (i:=5) Hd.nd rfl oI1) cg)))) (af (aD (i:=6) Hd.nd rfl oI1 (aB Zm hr rfl X.Wg X.Sr.kp X.YK .nil bu (d5 (qv 2) (d5 (qv 4) ac)))) (ao (bo (cM aal aaC aaB bf (qv 2) (qaI (vi (eO (qv 6) (λ_=>rfl)) (aB Ze hr rfl X.V8 X.Si.kp X.YC .nil bW (d5 (qv 3) (d5 (qv 6) ac))) (aB Zl hr rfl X.We X.Sq.kp X.YJ .nil bW (d5 (qv 3) ac))) ac)))))) (af (be (eN (gU (aC pW (aA b8 rfl X.ff aay (d5 (qv 1) ac)) (bt rfl X.v_ (v:=V.int 30) ⟨_,rfl⟩) (aK _)) (fT (aC pW (aB Zd hr rfl X.V7 X.Sh.kp X.YB .nil bu (d5 (qv 1) ac)) (bt rfl X.w9 (v:=V.int 6) ⟨_,rfl⟩) (aK _))))) (ao (bP rfl rfl X.C4 X.y_ (Nn (cL (bq ak (bq (rM (bt rfl X.v_ (v:=V.int 30) ⟨_,rfl⟩)) (bq ak (bq (rM (bt rfl X.w9 (v:=V.int 6) ⟨_,rfl⟩)) dq))))) ac) bO)) aI) (ao (aH (aU aE (qv 2) aj (λ_ _=>rfl)))))))),?_⟩;dsimp only[cq];rcases KU with⟨t,ez,wf,hz,q,qg⟩|⟨bad,qe⟩
 ·have el:z.cps.toList=txt 44 (Ha t):=by rw[ez];exact(yr t wf).symm
  have run:=uX wf;have lrw:(((rws 1 (Ha t)).length:Nat):Int)=aX t:=by rw[rD];exact xM t
  have lvl:∀x∈rws 1 (Ha t),x.2.2<=depth t:=λx hx=>by have:=Ds t hx;lia
  have lmx:∃x∈rws 1 (Ha t),x.2.2=depth t:=by obtain⟨x,hx,e⟩:=ma t 1;exact⟨x,hx,by lia⟩
  obtain⟨cl,SJ⟩:=NS.t7 (Gf t wf);rw[<-el]at SJ;refine⟨_,rfl,z,rfl,tz,(λst B5 hop D us H1 s1 nD hD G7=>?_),λPY=>absurd rfl (PY _ SJ)⟩;have est:=lO B5 SJ;subst est;have G7:g9 (Hn H1) (rws 1 (Ha t)) us:=G7;have Ir:=G7.len;generalize rws 1 (Ha t)=rows at G7 Ir run lrw lvl lmx;have pp:=kA t;refine⟨Z0,λr s_=>?_⟩;have s2:=ae s_ (.lst []);refine⟨_,rfl,D,rfl,⟨_,c_.of (s2 _ _ hD)⟩,dQ (K:=K) (a:=D) (xs:=us) (λj σ H'=>(∃x3 x4 x5 x6,σ=[some (.str z),some (.ref D),some (.ref r),x3,x4,x5,x6])/\b6 H1 H'/\∃S vs,H' r=some (.lst vs)/\g9 (j0 H') S vs/\xc S (rows.drop j) [t]/\S.length<=j)
   ⟨⟨none,none,none,none,rfl⟩,s2,[],[],aa,.nil,run,aam _⟩ (λj σ H' _ ⟨_,sm,_⟩=>c_.of (sm _ _ hD)) ?_ ?_⟩
  ·rintro j y σ H' hy ⟨⟨x3,x4,x5,x6,rfl⟩,sm,S,vs,Mu,hS,Ii,hlen⟩;obtain⟨x,hx,a,rfl,ha⟩:=G7.get hy;have hj:=bN hy;obtain⟨WS,ex⟩:=List.getElem?_eq_some_iff.mp hx;rw[abt WS,ex]at Ii;obtain⟨S0,ts,t',rfl,hts,hwt,KU,Rw⟩:=Ii;obtain⟨xs,ys,rfl,g1,g2⟩:=hS.Q1;have ly:=g2.len;have lx:=g1.len;rw[aaa]at hlen;refine⟨a,_,rfl,k_.of (sm _ _ ha),rfl,_,_,rfl,_,_,rfl,_,_,rfl,rfl,?_⟩;refine⟨_,rfl,_,rfl,r,x.2.1,xs,ys,rfl,Mu,by lia,by lia,λtb H2 ZD Nw Ow=>?_⟩;have tt:n6 H' H2:=λb zs e=>ZD b _ (by rw[ii (dk e Mu (λz=>nomatch z))];exact e);have P':b6 H1 H2:=λb o e=>by
    have nb:b≠r:=aS e s_;exact ZD b o (by rw[ii nb];exact sm _ _ e)
   have fin:∀(v:V)(H5:Hp),b6 H2 H5->j0 H5 t' v->(upd H5 r (.lst (xs++[v]))) r=some (.lst (xs++[v]))/\b6 H1 (upd H5 r (.lst (xs++[v])))/\g9 (j0 (upd H5 r (.lst (xs++[v])))) (S0++[t']) (xs++[v]):=λv H5 HJ hv=>by have hr5:=HJ _ _ Nw;have tL:n6 H5 (upd H5 r (.lst (xs++[v]))):=aQ hr5;exact⟨aa,aL s_ (P'.trans HJ),(g1.imp λ_ _ h=>j0.same (tt.trans ((bG HJ).trans tL)) _ h).snoc (j0.same tL t' hv)⟩
   rcases KU with⟨rfl,Rz,hwd⟩|⟨hn,rfl⟩
   ·have hy0:ys=[]:=g2.nil_of;subst hy0;have Ti:eI x.1:=by rw[hwd];exact EM hwt (by rw[bZ Rz];decide)
    refine⟨_,rfl,.inl ⟨rfl,_,c_.of Nw⟩,_,rfl,false,(.inr (.inl ⟨_,k_.of Ow,rfl⟩)),fH ⟨_,rfl,x.1,rfl,Ti,.inl ⟨t',Rz,hwt,hwd,λv H5 HJ hv=>?_⟩⟩⟩;obtain⟨f1,f2,f3⟩:=fin v H5 HJ hv;exact⟨r,xs,v,rfl,rfl,HJ _ _ Nw,bX (by lia),⟨_,_,_,_,rfl⟩,f2,_,_,f1,f3,Rw,by rw[aaa,aaO];lia⟩
   ·have ZV:ys≠[]:=λz=>hn (by rw[z]at ly;exact List.length_eq_zero_iff.mp ly.symm);have Wv:=hwt;unfold Wf at Wv;have l3:=Wv.2.2.1;have dtx:eI x.1:=⟨by rw[aq];have:=dR x.1 Wv.1;lia,gJ x.1 Wv.1⟩
    refine⟨_,rfl,.inl ⟨rfl,_,c_.of Nw⟩,_,rfl,true,(.inr (.inl ⟨_,k_.of Ow,by cases ys with|nil=>exact absurd rfl ZV|cons a b=>rfl⟩)),fX ⟨_,rfl,_,rfl,x.1,tb,ys,rfl,dtx,Ow,by lia,.inl ⟨⟨Wv.1,by lia⟩,λp H5 HJ hp=>?_⟩⟩⟩;have hv:j0 H5 (.call x.1 ts) (.ref p):=by unfold j0;exact⟨p,tb,ys,rfl,hp,HJ _ _ Ow,by lia,xm (g2.imp λ_ _ h=>j0.same (tt.trans (bG HJ)) _ h)⟩
    obtain⟨f1,f2,f3⟩:=fin _ H5 HJ hv;exact⟨r,xs,_,rfl,rfl,HJ _ _ Nw,bX (by lia),⟨_,_,_,_,rfl⟩,f2,_,_,f1,f3,Rw,by rw[aaa,aaO];lia⟩
  ·rintro σ H' ⟨⟨x3,x4,x5,x6,rfl⟩,sm,S,vs,Mu,hS,Ii,hlen⟩;rw[adQ (by lia)]at Ii;have e:S=[t]:=Ii;subst e;obtain⟨v,r',rfl,hv,hnil⟩:=hS.Of;have:=hnil.nil_of;subst this;unfold Jp;dsimp only;refine dc (λH2=>b6 H1 H2/\(30<aX t\/6<depth t)) (λH2=>b6 H1 H2/\H2 r=some (.lst [v])/\j0 H2 t v/\aX t<=30/\depth t<=6) (λQ' qT qF=>?_) (λH2 ⟨s3,hgr⟩=>?_) (λH2 ⟨s3,Rx,hv2,h60,h20⟩=>?_)
   ·refine⟨_,rfl,D,_,rfl,.inl (c_.of (sm _ _ hD)),_,_,rfl,rfl,_,rfl,bI (λh=>qT H' ⟨sm,.inl (by lia)⟩) (λh=>?_)⟩;refine⟨_,rfl,D,us,rows,rfl,sm _ _ hD,G7.imp λ_ _=>Hn.same (bG sm),(λz=>by rw[z]at lrw;have:(0:Int)=aX t:=lrw;lia),by lia,λM H2 hM hB s3=>?_⟩;refine⟨_,_,rfl,rfl,_,rfl,?_⟩;obtain⟨x,hx,eM⟩:=hM;obtain⟨y,hy,ey⟩:=lmx;have b1:=lvl x hx;have b2:=hB y hy;by_cases hM:6<M
    ·rw[aa0 hM];exact qT H2 ⟨sm.trans s3,.inr (by lia)⟩
    ·rw[aaH hM];exact qF H2 ⟨sm.trans s3,s3 _ _ Mu,j0.same (bG s3) t hv,by lia,by lia⟩
   ·exact⟨_,rfl,aO (by decide +kernel),.inr ⟨30,rfl,db (by decide) (by decide),_,rfl,aO (by decide +kernel),_,rfl,aO (by decide +kernel),.inr ⟨6,rfl,db (by decide) (by decide),_,rfl,aO (by decide +kernel),(by show 1<=10;decide),qg hgr _ (s1.trans s3)⟩⟩⟩
   ·exact⟨_,rfl,r,_,0,_,rfl,rfl,c_.of Rx,rfl,q h60 h20 v H2 (s1.trans s3) hv2⟩
 ·refine⟨_,rfl,z,rfl,tz,(λst B5 hop D us H1 s1 nD hD G7=>?_),λPY=>qe⟩;obtain⟨x0,Tw,ebad⟩:=bad st B5 hop;obtain⟨m,hm,_⟩:=DC DD B5;have ww:=(Bn Bo (CY tz) B5).1;have lr:=Ao B5;have lp:=NS.Iq 44 z.cps.toList [];have lz:=tz.1;rw[aq]at lz;have ZS:st.rs.length<=40010:=by
   have e:(Tr:Ms).rs.length=0:=rfl;rw[e]at lr
   lia
  have Ir:=G7.len;generalize st.rs=rows at G7 Ir hm ww ZS Tw;refine⟨Z0,λr s_=>?_⟩;have s2:=ae s_ (.lst []);refine⟨_,rfl,D,rfl,⟨_,c_.of (s2 _ _ hD)⟩,dQ (K:=K) (a:=D) (xs:=us) (λj σ H'=>(∃x3 x4 x5 x6,σ=[some (.str z),some (.ref D),some (.ref r),x3,x4,x5,x6])/\b6 H1 H'/\∃vs,H' r=some (.lst vs)/\hg vs.length (rows.drop j)=some m/\vs.length<=j/\∀x∈rows.take j,ux x)
   ⟨⟨none,none,none,none,rfl⟩,s2,[],aa,hm,aam _,(λx hx=>nomatch hx)⟩ (λj σ H' _ ⟨_,sm,_⟩=>c_.of (sm _ _ hD)) ?_ ?_⟩
  ·rintro j y σ H' hy ⟨⟨x3,x4,x5,x6,rfl⟩,sm,vs,Mu,hh,hlen,Hk⟩;obtain⟨x,hx,a,rfl,ha⟩:=G7.get hy;have hj:=bN hy;obtain⟨WS,ex⟩:=List.getElem?_eq_some_iff.mp hx;rw[abt WS,ex]at hh;obtain⟨hc,hh⟩:=Az hh;have tx:=ww x (aak hx);have evs:vs=vs.take (vs.length-x.2.1)++vs.drop (vs.length-x.2.1):=(acJ _ _).symm;have ldr:(vs.drop (vs.length-x.2.1)).length=x.2.1:=by rw[abe];lia
   refine⟨a,_,rfl,k_.of (sm _ _ ha),rfl,_,_,rfl,_,_,rfl,_,_,rfl,rfl,?_⟩;refine⟨_,rfl,_,rfl,r,x.2.1,vs.take (vs.length-x.2.1),vs.drop (vs.length-x.2.1),rfl,by rw[<-evs];exact Mu,ldr,by lia,λtb H2 ZD Nw Ow=>?_⟩;have P':b6 H1 H2:=λb o e=>by have nb:b≠r:=aS e s_;exact ZD b o (by rw[ii nb];exact sm _ _ e)
   have ltk:(vs.take (vs.length-x.2.1)).length=vs.length-x.2.1:=by rw[aaD];lia
   generalize vs.take (vs.length-x.2.1)=xs at *;generalize vs.drop (vs.length-x.2.1)=ys at *;have fin:ux x->∀(v:V)(H5:Hp),b6 H2 H5->(∃x3' x4' x5' x6',[some (.str z),some (.ref D),some (.ref r),some (V.str x.1),some (V.int x.2.1),some (V.int x.2.2),some (V.ref tb)]=[some (.str z),some (.ref D),some (.ref r),x3',x4',x5',x6'])/\b6 H1 (upd H5 r (.lst (xs++[v])))/\∃UJ,upd H5 r (.lst (xs++[v])) r=some (.lst UJ)/\hg UJ.length (rows.drop (j+1))=some m/\UJ.length<=j+1/\∀y∈rows.take (j+1),ux y:=λgd v H5 HJ=>by
    refine⟨⟨_,_,_,_,rfl⟩,aL s_ (P'.trans HJ),_,aa,by rw[aaa,ltk];exact hh,by rw[aaa,ltk,aaO];lia,λy hy=>?_⟩;rw[bD hx]at hy;rcases List.mem_append.mp hy with h|h
    ·exact Hk y h
    ·rw[List.mem_singleton.mp h];exact gd
   by_cases h0:x.2.1=0
   ·have hy0:ys=[]:=List.length_eq_zero_iff.mp (by lia);subst hy0;by_cases hL:Ws x.1
    ·obtain⟨t,hl,hw,e⟩:=hL;refine⟨_,rfl,.inl ⟨rfl,_,c_.of Nw⟩,_,rfl,false,(.inr (.inl ⟨_,k_.of Ow,rfl⟩)),fH ⟨_,rfl,x.1,rfl,tx,.inl ⟨t,hl,hw,e,λv H5 HJ hv=>?_⟩⟩⟩;exact⟨r,xs,v,rfl,rfl,HJ _ _ Nw,bX (by lia),fin (.inl ⟨h0,t,hl,hw,e⟩) v H5 HJ⟩
    ·exact⟨_,rfl,.inl ⟨rfl,_,c_.of Nw⟩,_,rfl,false,(.inr (.inl ⟨_,k_.of Ow,rfl⟩)),fH ⟨_,rfl,x.1,rfl,tx,.inr ⟨hL,λH5 HJ=>qe _ (s1.trans (P'.trans HJ))⟩⟩⟩
   ·have ZV:ys≠[]:=λz=>h0 (by rw[z]at ldr;exact ldr.symm);by_cases Nd:x.1∈i6/\ys.length<=3
    ·refine⟨_,rfl,.inl ⟨rfl,_,c_.of Nw⟩,_,rfl,true,(.inr (.inl ⟨_,k_.of Ow,by cases ys with|nil=>exact absurd rfl ZV|cons a b=>rfl⟩)),fX ⟨_,rfl,_,rfl,x.1,tb,ys,rfl,tx,Ow,by lia,.inl ⟨Nd,λp H5 HJ hp=>?_⟩⟩⟩;exact⟨r,xs,_,rfl,rfl,HJ _ _ Nw,bX (by lia),fin (.inr ⟨by lia,by lia,Nd.1⟩) _ H5 HJ⟩
    ·exact⟨_,rfl,.inl ⟨rfl,_,c_.of Nw⟩,_,rfl,true,(.inr (.inl ⟨_,k_.of Ow,by cases ys with|nil=>exact absurd rfl ZV|cons a b=>rfl⟩)),fX ⟨_,rfl,_,rfl,x.1,tb,ys,rfl,tx,Ow,by lia,.inr ⟨Nd,λH5 HJ=>qe _ (s1.trans (P'.trans HJ))⟩⟩⟩
  ·rintro σ H' ⟨⟨x3,x4,x5,x6,rfl⟩,sm,vs,Mu,hh,hlen,Hk⟩;rw[aaF (by lia)]at Hk;exact absurd (Hk x0 Tw) ebad
end Je
namespace L2
open PySem PySem.Spec PyProof.Rows
def ku{X:Cx}{E:XK}{elt iter tg:Expr}{ifs:List Expr}{sc:Scope}{pos:Pos}{ts ys:List Str}{js:List Nat}{wi:TI}{g:TG}{tc:TT}{te:TE}(ob:Eh X E)(B5:X.stack=X.env::X.outer)(LQ:X.env.frame=some X.env.locals)(LR:X.ex=[])(hc:X.calm=true)(Ib:cC X.N X.env.scope sc ts ys js=true)(hi:QI X tg iter wi)(hg:∀cl C s H fp,QG (X.GX E sc cl C (ts++ys) s H fp) tg g)(hf:∀cl C s H fp,Uz (X.GX E sc cl C (ts++ys) s H fp) ifs tc)(he:∀cl C s H fp,UG X C s H fp->QE (X.GX E sc cl C (ts++ys) s H fp) elt te)(hs:∀x,foldedSetIterable iter X.env x=pure x:=by intro _;rfl):QE X (.ListComp elt [⟨tg,iter,ifs,0⟩] sc pos) (fQ wi g ts.length js tc te):=
 ⟨rT ob B5 LQ LR hc Ib hi.h (λcl C s H fp=>(hg cl C s H fp).h) (λcl C s H fp=>(hf cl C s H fp).h) (λcl C s H fp b=>(he cl C s H fp b).h) hs⟩
end L2
namespace L2
open PySem PySem.Spec PyProof.Rows TM
variable{i:Nat}
section
variable{K:W.Frag}{a:Addr}{xs:List V}{js:List Nat}{g:TG}{n:Nat}{te:TE}{σ:St}{Q:VK}{D:Addr}{H1:Hp}{α β:Type}{R:Hp->α->V->Prop}{bs:List β}{F:β->Option α}
def Good(F:β->Option α)(bs:List β):Prop:=∀b∈bs,∃x,F b=some x
def Good.snoc{b:β}(h:Good F (bs.take i))(hb:bs[i]?=some b){x:α}(e:F b=some x):Good F (bs.take (i+1)):=λc hc=>by
 rw[bD hb]at hc;rcases List.mem_append.mp hc with hc|hc
 ·exact h c hc
 ·rw[List.mem_singleton.mp hc];exact⟨x,e⟩
def kR{b:β}(hb:bs[i]?=some b){x:α}(e:F b=some x):(bs.take (i+1)).filterMap F=(bs.take i).filterMap F++[x]:=by rw[bD hb,List.filterMap_append];simp[e]
def nJ:Good F (bs.take 0):=λb hb=>by rw[List.take_zero]at hb;cases hb
theorem nK(h:Good F (bs.take i)):((bs.take i).filterMap F).length=(bs.take i).length:=by
 generalize bs.take i=l at h;induction l with
 |nil=>rfl
 |cons b l ih=>
  obtain⟨x,e⟩:=h b aap;rw[abR e,aac,aac,ih λc hc=>h c (aah _ hc)]
theorem ue(st:K1 D R)(hz:xs.length<sizeLine)(hlen:bs.length=xs.length)(ha:c_ K H1 a xs)(hD:H1 D=none)(he:∀(i:Nat) (x:V) (b:β) (H:Hp),xs[i]?=some x->bs[i]?=some b->Good F (bs.take i)->b6 H1 H->(∃acc,H D=some (.lst acc))->∀Q':VK,(∀z y H',F b=some z->b6 H H'->R H' z y->Q' y H')->te (some x::cP js σ) H Q')(hq:∀ys H',Good F bs->b6 H1 H'->H' D=some (.lst ys)->g9 (R H') (bs.filterMap F) ys->Q (.ref D) H'):jZ (PB K a) js HE te σ Q D H1:=by
 refine jU (K:=K) (a:=a) (xs:=xs) (λi acc H=>i<=xs.length/\b6 H1 H/\H D=some (.lst acc)/\Good F (bs.take i)/\g9 (R H) ((bs.take i).filterMap F) acc) hz ⟨aa8 _,ae hD _,aa,nJ,.nil⟩ (λi acc H ⟨l,s,d,gd,r⟩=>⟨d,?_,b6.seq s ha⟩) ?_ ?_
 ·rw[r.len,nK gd,aaD]
  lia
 ·rintro i m x acc H hi ⟨l,s,d,gd,r⟩ hm;have q_:=bN hi;obtain⟨b,hb⟩:=aN (xs:=bs) (i:=i) (by lia);refine he i x b H hi hb gd s ⟨_,d⟩ _ λz y H4 ez s4 r4=>⟨s4 _ _ d,xs.length-(i+1),by lia,rfl,q_,q_,aL hD (s.trans s4),aa,gd.snoc hb ez,?_⟩
  have k:∀c o,c≠D->H4 c=some o->upd H4 D (.lst (acc++[y])) c=some o:=λc o hc e=>by rw[aw hc];exact e
  rw[kR hb ez];exact(r.imp λb v r=>st _ _ _ b v (s4 _ _ d) k (st _ _ _ b v d (λc o _ e=>s4 c o e) r)).snoc (st _ _ _ z y (s4 _ _ d) k r4)
 ·rintro acc H ⟨l,s,d,gd,r⟩;rw[aaF (by lia)]at gd r;exact hq acc H gd s d r
theorem je(st:K1 D R)(hz:xs.length<sizeLine)(hlen:bs.length=xs.length)(ha:c_ K H1 a xs)(hD:H1 D=none)(he:∀(i:Nat) (x:V) (b:β) (H:Hp),xs[i]?=some x->bs[i]?=some b->Good F (bs.take i)->b6 H1 H->∀Q':VK,(∀z y H',F b=some z->b6 H H'->R H' z y->Q' y H')->g x (List.replicate n none++cP js σ) H λNm H6=>∃us:List (Option V),us.length=n/\Nm=us++cP js σ/\te Nm H6 Q')(hq:∀ys H',Good F bs->b6 H1 H'->H' D=some (.lst ys)->g9 (R H') (bs.filterMap F) ys->Q (.ref D) H'):ol (PB K a) g n js HE te σ Q D H1:=by
 refine⟨λi m acc H=>m=xs.length-i/\i<=xs.length/\b6 H1 H/\H D=some (.lst acc)/\Good F (bs.take i)/\g9 (R H) ((bs.take i).filterMap F) acc,⟨xs.length,by simp,aa8 _,ae hD _,aa,nJ,.nil⟩,?_⟩;rintro i m acc H ⟨hm,hi,s,d,gd,r⟩;refine⟨d,by rw[r.len,nK gd,aaD];lia,?_⟩;by_cases q_:i<xs.length
 ·refine .inr ⟨?_,λx H' y=>?_⟩
  ·obtain⟨x,hx⟩:=aN q_;exact⟨xs,x,b6.seq s ha,hx⟩
  ·obtain⟨rfl,hx⟩:=y;have Tz:=hx xs (b6.seq s ha);obtain⟨b,hb⟩:=aN (xs:=bs) (i:=i) (by lia);refine he i x b H' Tz hb gd s _ λz y H4 ez s4 r4=>⟨s4 _ _ d,xs.length-(i+1),by lia,rfl,q_,aL hD (s.trans s4),aa,gd.snoc hb ez,?_⟩
   have k:∀c o,c≠D->H4 c=some o->upd H4 D (.lst (acc++[y])) c=some o:=λc o hc e=>by rw[aw hc];exact e
   rw[kR hb ez];exact(r.imp λb v r=>st _ _ _ b v (s4 _ _ d) k (st _ _ _ b v d (λc o _ e=>s4 c o e) r)).snoc (st _ _ _ z y (s4 _ _ d) k r4)
 ·rw[aaF (by lia)]at gd r;exact .inl ⟨⟨xs,b6.seq s ha,by lia⟩,hq acc H gd s d r⟩
end
end L2
namespace L2
open PySem PySem.Spec PyProof.Rows
variable{ifs:List Expr}{ys:List Str}{js:List Nat}{iter elt:Expr}{sc:Scope}{pos px py Hx:Pos}{t y:Str}{wi:TI}{tc:TT}{te:TE}{X:Cx}{E:XK}
def vm{g:TG}(ob:Eh X E)(B5:X.stack=X.env::X.outer)(LQ:X.env.frame=some X.env.locals)(LR:X.ex=[])(hc:X.calm=true)(Ib:t8 X.N X.env.scope sc t ys js=true)(hi:PI X (.Name t px) iter wi)(hf:∀cl C s H fp,P6 (X.GX E sc cl C (t::ys) s H fp) ifs tc)(he:∀cl C s H fp,UG X C s H fp->PE (X.GX E sc cl C (t::ys) s H fp) elt te)(hg:PG X (.Name y py) g)(M':swapsWith (.ListComp elt [⟨.Name t px,iter,ifs,0⟩] sc pos) (some (.Name y py)) Hx.line X.env=pure true)(hs:∀x,foldedSetIterable iter X.env x=pure x:=by intro _;rfl):
 PS X (.Assign [.Name y py] (.ListComp elt [⟨.Name t px,iter,ifs,0⟩] sc pos) Hx) (Jg (HX wi js tc te) g):=by
 have ck:=iy Ib;rw[lJ];intro pins s σ H D0 I h;rw[exec_Assign_Name_used _ _ _ _ M'];refine aae (adh (aae ?_));show wpAny _ X.A (do let _ <- comprehension (.ListComp elt [⟨.Name t px,iter,ifs,0⟩] sc pos) sc X.env _ (newList []) false (eval iter X.env) (some (assign (.Name y py) X.env))) _ _ s;exact aae (abP (fF (Qf:=λ_ s'=>SP X pins D0 .next s') (Q:=λv H'=>g v σ H' D0.nx) (xf:=λC e s'=>∃a cls H' B a0 m,e=.ref a/\XB X C cls a H' B a0 .none s'/\s'.heap.Ns C m/\E cls none H') (Bk:=UG X) (ts:=[t]) hc (mw Ib) hi (λ_ _ _ _ _=>Ip ck.nd rfl (.inl (abx ck.tl)) (.inr (abx ck.tl))) hf he hs I h (λI2 f2 hC=>⟨⟨_,_,I2,f2⟩,hC,B5,LQ,LR⟩) (λcl C D e s' ok ⟨a,cls,H',B,a0,m,e1,x1,n1,q1⟩=>by subst e1;exact ob ok _ _ _ _ _ _ _ _ (λ_ s'=>SP X pins D0 .next s') (.ref D) (compEnvC sc cl C X.env) _ rfl x1 n1 q1 λ_ z=>z) (rm hg)) (λ_ s' hq=>aaR (aaR hq)) λ_ _ e=>e)
def ve{g:TG}(ob:Eh X E)(B5:X.stack=X.env::X.outer)(LQ:X.env.frame=some X.env.locals)(LR:X.ex=[])(hc:X.calm=true)(Ib:t8 X.N X.env.scope sc t ys js=true)(hi:QI X (.Name t px) iter wi)(hf:∀cl C s H fp,Uz (X.GX E sc cl C (t::ys) s H fp) ifs tc)(he:∀cl C s H fp,UG X C s H fp->QE (X.GX E sc cl C (t::ys) s H fp) elt te)(hg:QG X (.Name y py) g)(M':swapsWith (.ListComp elt [⟨.Name t px,iter,ifs,0⟩] sc pos) (some (.Name y py)) Hx.line X.env=pure true)(hs:∀x,foldedSetIterable iter X.env x=pure x:=by intro _;rfl):
 QS X (.Assign [.Name y py] (.ListComp elt [⟨.Name t px,iter,ifs,0⟩] sc pos) Hx) (Jg (HX wi js tc te) g):=⟨vm ob B5 LQ LR hc Ib hi.h (λcl C s H fp=>(hf cl C s H fp).h) (λcl C s H fp b=>(he cl C s H fp b).h) hg.h M' hs⟩
end L2
namespace Je
open PySem L2 NS TR
open TM hiding j_ Ms Run Step o6 t7
structure K0(ws:List Str):Prop where
 wd:∀w∈ws,w.length<=800/\∀c∈w.cps.toList,c<128
 HQ:ws.length<=1000
variable{ws:List Str}
theorem K0.tx(h:K0 ws){w:Str}(hw:w∈ws):eI w:=⟨by have:=(h.wd w hw).1;lia,(h.wd w hw).2⟩
theorem cQ{K:W.Frag}{H:Hp}:∀ss:List Str,Bf K H (ss.map V.str) (ss.map PyData.str)
 |[]=>.nil
 |s::ss=>.cons (.str s) (cQ ss)
theorem lj{N:Nat}:∀ss:List Str,(∀s∈ss,s.length<=N/\∀c∈s.cps.toList,c<128)->PyData.bulkAll (ss.map PyData.str)<=(N+1)*ss.length/\PyData.leavesShortAll 8 (ss.map PyData.str)=true/\PyData.showableAll (ss.map PyData.str)=true/\PyData.hasDictAll (ss.map PyData.str)=false/\PyData.depthAll (ss.map PyData.str)=0
 |[],_=>by simp[PyData.bulkAll,PyData.leavesShortAll,PyData.showableAll,PyData.hasDictAll,PyData.depthAll]
 |s::ss,h=>by
  have e16:(16:Nat) ^ 8=4294967296:=by decide
  obtain⟨i1,i2,i3,i4,i5⟩:=lj ss λx hx=>h x (aah _ hx);have h1:s.cps.size<=N:=(h s aap).1;have h2:(PyData.str s).leavesShort 8=true:=by
   simp only[PyData.leavesShort,abK,aau];intro c hc;have:=(h s aap).2 c hc
   lia
  rw[aaV,PyData.bulkAll,PyData.bulk,aac,PyData.leavesShortAll,PyData.showableAll,PyData.hasDictAll,PyData.depthAll,h2,i2,i3,i4,i5];refine⟨by rw[Nat.mul_add,Nat.mul_one];lia,rfl,?_,?_,?_⟩
  ·simp only[PyData.showable];rfl
  ·simp only[PyData.hasDict];rfl
  ·simp only[PyData.depth];rfl
theorem gh(ok:K0 ws):(PyData.list (ws.map PyData.str)).shown.length<=12000000/\(PyData.list (ws.map PyData.str)).showable=true/\(PyData.list (ws.map PyData.str)).hasDict=false/\(PyData.list (ws.map PyData.str)).depth<=64:=by
 obtain⟨a1,a2,a3,a4,a5⟩:=lj ws ok.wd;have hl:=ok.HQ;have b:=PyData.shown_le_bulk 8 (by decide) (.list (ws.map PyData.str)) (by simp only[PyData.leavesShort];exact a2);have e:PyData.bulk (.list (ws.map PyData.str))=PyData.bulkAll (ws.map PyData.str):=by simp only[PyData.bulk]
 rw[e]at b;have hm:(800+1)*ws.length<=801*1000:=acT _ hl;refine⟨by lia,by simp only[PyData.showable];exact a3,by simp only[PyData.hasDict];exact a4,?_⟩;simp only[PyData.depth]
 lia
structure Rh where
 k:Int
 nm:Str
 tx:Str
structure Fh where
 nm:Str
 hd:Str
 br:List Str
 ru:List Rh
noncomputable def u9(r:Rh):List Str:=[sh (.val r.k r.nm), "=",r.tx]
noncomputable def Iu(f:Fh):List Str:="form"::f.nm::f.hd::f.br
noncomputable def A9(f:Fh):List (List Str):=Iu f::f.ru.map u9
def qy(r:Rh):Prop:=Wf (.val r.k r.nm)
structure xh(f:Fh):Prop where
 nm:g7 f.nm
 hd:g7 f.hd
 br:∀b∈f.br,g7 b
 ru:∀r∈f.ru,qy r
structure Ma(s:Sg):Prop where
 nm:g7 s.nm
 dn:∀p∈s.dn,gb p
 up:∀p∈s.up,gb p
def Nk(H:Hp)(f:Fh)(v:V):Prop:=∃p a,v=.ref p/\H p=some (.tup [.str f.nm,.str f.hd,.ref a])/\H a=some (.tup (f.br.map V.str))
def J'(H:Hp)(r:Rh)(v:V):Prop:=∃p a,v=.ref p/\H p=some (.tup [.ref a,.str r.tx])/\H a=some (.tup [.int r.k,.str r.nm])
variable{H H':Hp}{v:V}{f:Fh}
def Nk.same(e:n6 H H')(h:Nk H f v):Nk H' f v:=by obtain⟨p,a,x,y,z⟩:=h;exact⟨p,a,x,e _ _ y,e _ _ z⟩
def J'.same(e:n6 H H'){r:Rh}(h:J' H r v):J' H' r v:=by obtain⟨p,a,x,y,z⟩:=h;exact⟨p,a,x,e _ _ y,e _ _ z⟩
def ZT(z:Str):Prop:=∃p:Str×Str,gb p/\z=p.1++":"++p.2
def yG(N:Addr):Sp:=λvs H Q E=>∃z,vs=[.str z]/\eI z/\(g7 z->∀H',b6 H H'->Q (.str z) H')/\(¬g7 z->∀H',b6 H H'->E (.ref N) none H')
def BV(N:Addr):Sp:=λvs H Q E=>∃z,vs=[.str z]/\eI z/\(∀p:Str×Str,gb p->z=p.1++":"++p.2->∀v H',b6 H H'->w_ H' p v->Q v H')/\(¬ZT z->∀H',b6 H H'->E (.ref N) none H')
def BJ(N:Addr):Sp:=λvs H Q E=>∃(l:Addr)(ws:List Str),vs=[.ref l]/\H l=some (.lst (ws.map V.str))/\K0 ws/\ws≠[]/\(∀r,qy r->ws=u9 r->∀v H',b6 H H'->J' H' r v->Q v H')/\((¬∃r,qy r/\ws=u9 r)->∀H',b6 H H'->E (.ref N) none H')
def BL(N:Addr):Sp:=λvs H Q E=>∃(l:Addr)(r:List Str),vs=[.ref l]/\H l=some (.lst ((("form" : Str)::r).map V.str))/\K0 ("form"::r)/\(∀f:Fh,xh f->f.ru=[]->("form" : Str)::r=Iu f->∀v H',b6 H H'->Nk H' f v->Q v H')/\((¬∃f,xh f/\f.ru=[]/\("form" : Str)::r=Iu f)->∀H',b6 H H'->E (.ref N) none H')
def BI(N:Addr):Sp:=λvs H Q E=>∃(l:Addr)(r:List Str),vs=[.ref l]/\H l=some (.lst ((("sign" : Str)::r).map V.str))/\K0 ("sign"::r)/\(∀s,Ma s->("sign" : Str)::r=n9 s->∀v H',b6 H H'->E_ H' s v->Q v H')/\((¬∃s,Ma s/\("sign" : Str)::r=n9 s)->∀H',b6 H H'->E (.ref N) none H')
variable{z:Str}
def Hz:MV z=true↔g7 z:=LJ
def wA:∀k∈cV,Og (.str k) [V.str "num",V.str "text",V.str "row"]=true:=by decide +kernel
def sC{k:Str}(h:k∉cV):Og (.str k) [V.str "num",V.str "text",V.str "row"]=false:=by
 simp only[cV,aaf,aaj,aaJ,abV]at h;have e:∀a:Str,¬k=a->Ng (.str a) (.str k)=false:=λa ha=>by unfold Ng;exact aaH λz=>ha z.symm
 unfold Og;simp only[acq,List.any_nil,e _ h.1,e _ h.2.1,e _ h.2.2,Bool.or_false]
variable{zs:List Str}
def cz{j:Nat}{n:Int}(e:n=(j:Int))(h:zs[j]?=some z):y6 (zs.map V.str) n=some (.str z):=by rw[e];exact bY (by rw[aaI,h];rfl)
variable{c:Nat}
theorem zo(h:c∉z.cps.toList):Txt.partition z ⟨#[c]⟩=(z,Str.empty,Str.empty):=by
 have QL:=adu z c;rw[aaH h]at QL;unfold Txt.partition;cases e:Builtin.Str.occurrences z ⟨#[c]⟩ 0 z.length 1 with
 |nil=>rfl
 |cons i r=>rw[e]at QL;exact absurd QL (by simp)
def ud(h:c∈z.cps.toList):∃a b:Str,z=a++⟨#[c]⟩++b/\c∉a.cps.toList:=by obtain⟨as,bs,e,n⟩:=List.eq_append_cons_of_mem h;exact⟨i8 as,i8 bs,bx (by rw[ap,ap,bz,bz,e];simp),by rw[bz];exact n⟩
theorem yc{a b:Str}(h:eI (a++b)):eI a/\eI b:=by
 have l:=h.1;rw[ay]at l;refine⟨⟨by lia,λc hc=>h.2 c ?_⟩,⟨by lia,λc hc=>h.2 c ?_⟩⟩
 ·rw[ap];exact abF _ hc
 ·rw[ap];exact aaT _ hc
def nj(h:g7 z):(58:Nat)∉z.cps.toList:=λm=>absurd (h.2.2 58 m) (by decide)
variable{P:Program}{w:World}{K:W.Frag}{mg:Str->Option Value}{base:Heap}{T:Q0}
theorem jy(X:Tx K w mg T):d9 P w K mg base (Hu P w) 2 T.qAG T.Pg ["word"] (yG T.b7):=by
 have UC:=sj (P:=P) (w:=w) (base:=base) X;refine X.MJ.KO Cz (λvs H Q E h=>?_) (λj8 A outer s H vs Q E hr h=>?_)
 ·obtain⟨_,rfl,_⟩:=h;rfl
 obtain⟨z,rfl,tz,q,qe⟩:=h;refine⟨_,(af (be (cE (cr (aB UC hr rfl X.V2 X.UD.kp X.Yt .nil bu (d5 (qv 0) ac)))) (ao (bP rfl rfl X.g_ X.f_ (Nn (cL (bq (dU hr (qv 0)) (bq ak dq))) ac) bO)) aI) (ao (aH (qv 0)))),?_⟩;dsimp only[cq];have ls:=dz tz;have e0:Str.empty.length=0:=rfl;have l1:(Str.ofString " is no name").length=11:=by decide
 have M_:sizeLine=16777216:=by decide
 refine⟨_,rfl,z,rfl,tz.1,λH1 s1=>⟨_,rfl,?_⟩⟩;cases hn:MV z with
 |true=>exact fH ⟨_,rfl,q (Hz.mp hn) _ s1⟩
 |false=>exact fX ⟨_,rfl,.str _,.str _,by simp only[PyData.showable],by simp only[PyData.hasDict],by simp only[PyData.depth];decide,by lia,_,rfl,by rw[ay,e0];lia,_,rfl,by rw[ay,ay,e0,l1];lia,(by show 1<=10;decide),qe (λz=>by rw[Hz.mpr z]at hn;cases hn) _ s1⟩
theorem zM(X:Tx K w mg T):d9 P w K mg base (Hu P w) 3 T.qAB T.Pn ["word"] (BV T.b7):=by
 have K6:=jy (P:=P) (w:=w) (base:=base) X;refine X.PM.KO NN (λvs H Q E h=>?_) (λj8 A outer s H vs Q E hr h=>?_)
 ·obtain⟨_,rfl,_⟩:=h;rfl
 obtain⟨z,rfl,tz,q,qe⟩:=h;refine⟨_,(af (aD (i:=1) NN.nd rfl oI1 (cM abq adw adv fV (qv 0) (d_ ak ac))) (af (be (aC fU (aU dX (qv 1) aj (λ_ _=>rfl)) (bt rfl X.J9 (v:=V.ref T.A7) rfl) rfl) (ao (bP rfl rfl X.g_ X.f_ (Nn (cL (bq (dU hr (qv 0)) (bq ak dq))) ac) bO)) aI) (ao (aH (bw (y8 (aB K6 hr rfl X.Oc X.MJ.kp X.Px .nil bW (x_ (aU dX (qv 1) aj (λ_ _=>rfl)) ac)) (x_ (aU dX (qv 1) aj (λ_ _=>rfl)) ac))))))),?_⟩;dsimp only[cq];have ls:=dz tz;have hl:=tz.1;have e0:Str.empty.length=0:=rfl;have l1:(Str.ofString " ends with no kind").length=18:=by decide
 have M_:sizeLine=16777216:=by decide
 obtain⟨a,m,b,ep,ta,no,yes⟩:∃a m b:Str,Txt.partition z ":" = (a,m,b)/\eI a/\(b∉cV->¬ZT z)/\(b∈cV->z=a++":"++b/\(¬g7 a->¬ZT z)):=by
  rw[colon];by_cases hc:(58:Nat)∈z.cps.toList
  ·obtain⟨a,b,rfl,hn⟩:=ud hc;refine⟨a,_,b,fM hn,(yc (yc tz).1).1,λhb=>?_,λhb=>⟨rfl,λQK=>?_⟩⟩
   ·rintro⟨p,ok,e⟩;rw[colon]at e;have:=(fM (b:=b) hn).symm.trans ((aaN (λx=>Txt.partition x ⟨#[58]⟩) e).trans (fM (nj ok.1)));have e2:b=p.2:=aaN (λx=>x.2.2) this;exact hb (e2▸ok.2)
   ·rintro⟨p,ok,e⟩;rw[colon]at e;have:=(fM (b:=b) hn).symm.trans ((aaN (λx=>Txt.partition x ⟨#[58]⟩) e).trans (fM (nj ok.1)));have e2:a=p.1:=aaN (λx=>x.1) this;exact QK (e2▸ok.1)
  ·refine⟨z,_,_,zo hc,tz,λ_=>?_,λhb=>absurd hb (by decide)⟩;rintro⟨p,ok,e⟩;rw[e,colon,ap,ap]at hc;simp at hc
 refine⟨_,rfl,rfl,_,_,rfl,rfl,(by decide),aO (by lia),λl hl=>?_⟩;rw[ep];have s1:=ae hl (.tup [.str a,.str m,.str b]);have h1:=aa (H:=H) (a:=l) (o:=.tup [.str a,.str m,.str b]);generalize upd H l (.tup [.str a,.str m,.str b])=H1 at s1 h1⊢;refine⟨_,rfl,l,_,2,_,rfl,rfl,k_.of h1,rfl,T.A7,_,rfl,.inr (X.JV _),rfl,rfl,_,rfl,?_⟩;show if(!Og (.str b) [V.str "num",V.str "text",V.str "row"])=true then _ else _
 by_cases hb:b∈cV
 ·rw[wA _ hb];obtain⟨ez,no2⟩:=yes hb;refine fH ⟨_,rfl,l,_,0,_,rfl,rfl,k_.of h1,rfl,a,rfl,ta,λQK H2 s2=>?_,λQK H2 s2=>qe (no2 QK) _ (s1.trans s2)⟩;refine⟨_,rfl,l,_,2,_,rfl,rfl,k_.of (s2 _ _ h1),rfl,Z2,λt ht=>q (a,b) ⟨QK,hb⟩ ez _ _ (s1.trans (s2.trans (ae ht _))) ⟨t,rfl,aa⟩⟩
 ·rw[sC hb];exact fX ⟨_,rfl,.str _,.str _,by simp only[PyData.showable],by simp only[PyData.hasDict],by simp only[PyData.depth];decide,by lia,_,rfl,by rw[ay,e0];lia,_,rfl,by rw[ay,ay,e0,l1];lia,(by show 1<=10;decide),qe (no hb) _ s1⟩
noncomputable def UU(z:Str):Option Str:=if MV z=true then some z else none
variable{y:Str}
def vT(h:UU z=some y):g7 z:=by
 unfold UU at h;split at h
 ·rename_i e;exact Hz.mp e
 ·cases h
def xL(h:g7 z):UU z=some z:=by unfold UU;exact aaX (Hz.mpr h)
theorem sE:∀{r:List Str},(∀z∈r,g7 z)->r.filterMap UU=r
 |[],_=>rfl
 |z::r,h=>by rw[abR (xL (h z aap)),sE λy hy=>h y (aah _ hy)]
theorem qR:∀{r:List Str}{ys:List V},g9 (λz v=>v=V.str z) r ys->ys=r.map V.str
 |_,_,.nil=>rfl
 |_,_,.cons x y=>by rw[x,qR y];rfl
theorem zD(X:Tx K w mg T):d9 P w K mg base (Hu P w) 3 T.qAM T.Pa ["words"] (BJ T.b7):=by
 have PF:=mW (P:=P) (w:=w) (base:=base) X;refine X.Sm.KO Cv (λvs H Q E h=>?_) (λj8 A outer s H vs Q E hr h=>?_)
 ·obtain⟨_,_,rfl,_⟩:=h;rfl
 obtain⟨l,ws,rfl,hl,ok,Ry,q,qe⟩:=h;refine⟨_,(af (be (eN (gU (aC gY (aA b8 rfl X.ff aay (d5 (qv 0) ac)) aj (aK _)) (fT (aC gY (aU aE (qv 0) aj (λ_ _=>rfl)) ak (aK _))))) (ao (bP rfl rfl X.g_ X.f_ (Nn (cL (bq (dU hr (qv 0)) (bq ak dq))) ac) bO)) aI) (ao (aH (bw (y8 (aB PF hr rfl X.Rl X.PL.kp X.RP .nil bW (x_ (aU aE (qv 0) aj (λ_ _=>rfl)) ac)) (x_ (aU aE (qv 0) aj (λ_ _=>rfl)) ac)))))),?_⟩;dsimp only[cq];have e0:Str.empty.length=0:=rfl;have l1:(Str.ofString " is no line of a rule").length=21:=by decide
 have M_:sizeLine=16777216:=by decide
 obtain⟨w1,w2,w3,w4⟩:=gh ok;have no:(¬∃a b c:Str,ws=[a,b,c]/\b = "=")->(¬∃r,qy r/\ws=u9 r):=λh ⟨r,_,e⟩=>h ⟨_,_,_,e,rfl⟩;unfold Jp;refine dc (λH1=>H1=H/\¬∃r,qy r/\ws=u9 r) (λH1=>H1=H/\∃a c:Str,ws=[a, "=",c]) (λQ' qT qF=>?_) (λH1 ⟨e1,hn⟩=>?_) (λH1 ⟨e1,a,c,ew⟩=>?_)
 ·refine⟨_,rfl,l,_,rfl,.inl (c_.of hl),rfl,_,rfl,iF (λh=>qT H ⟨rfl,no ?_⟩) (λh=>?_)⟩
  ·rintro⟨a,b,c,e,_⟩;apply h;rw[e];rfl
  ·have h3:ws.length=3:=by
    have:=V.int.inj h;rw[aad]at this
    lia
   match ws,h3 with
   |[a,b,c],_=>
    refine⟨_,rfl,l,_,1,_,rfl,rfl,c_.of hl,rfl,rfl,_,rfl,?_⟩;by_cases hb:V.str b=V.str (Str.ofString "=")
    ·rw[aa0 hb];exact qF H ⟨rfl,a,c,by rw[V.str.inj hb]⟩
    ·rw[aaH hb];refine qT H ⟨rfl,no ?_⟩;rintro⟨a',b',c',e,e2⟩;cases e;exact hb (by rw[e2])
 ·subst e1;exact⟨_,rfl,.list _,.lst (c_.of hl) (cQ ws),w2,w3,w4,by lia,_,rfl,by rw[ay,e0];lia,_,rfl,by rw[ay,ay,e0,l1];lia,(by show 1<=10;decide),qe hn _ (b6.refl _)⟩
 ·subst e1;subst ew;refine⟨_,rfl,l,_,0,_,rfl,rfl,c_.of hl,rfl,a,rfl,ok.tx (by simp),?_⟩;by_cases hv:Wr a
  ·obtain⟨k,x,ea,wf⟩:=hv;refine .inl ⟨k,x,ea,wf,λp H1 s1 hp=>?_⟩;refine⟨_,rfl,l,_,2,_,rfl,rfl,c_.of (s1 _ _ hl),rfl,Z2,λt ht=>q ⟨k,x,c⟩ wf (by rw[ea];rfl) _ _ (s1.trans (ae ht _)) ⟨t,p,rfl,aa,ae ht _ _ _ hp⟩⟩
  ·refine .inr ⟨hv,λH1 s1=>qe ?_ _ s1⟩;rintro⟨r,UR,e⟩;cases e;exact hv ⟨_,_,rfl,UR⟩
theorem zF(X:Tx K w mg T):d9 P w K mg base (Hu P w) 3 T.qAN T.O_ ["words"] (BL T.b7):=by
 have K6:=jy (P:=P) (w:=w) (base:=base) X;refine X.Sl.KO NK (λvs H Q E h=>?_) (λj8 A outer s H vs Q E hr h=>?_)
 ·obtain⟨_,_,rfl,_⟩:=h;rfl
 obtain⟨l,r,rfl,hl,ok,q,qe⟩:=h;refine⟨_,(af (be (aC jv (aA b8 rfl X.ff aay (d5 (qv 0) ac)) aj (aK _)) (ao (bP rfl rfl X.g_ X.f_ (Nn (cL (bq (dU hr (qv 0)) (bq ak dq))) ac) bO)) aI) (af (ve (ys:=[]) (js:=[]) EZ rfl rfl rfl rfl rfl (cK (bc bT (qv 0) (bi aj) bE)) (λ_ _ _ _ _=>cJ) (λ_ _ _ _ _ b=>(aB K6 hr rfl X.Oc X.MJ.kp X.Px .nil (jt b) (d5 (qv 0) ac))) (aM (i:=1) NK.nd rfl oI1) rfl) (ao (aH (bw (x_ (aU aE (qv 1) aj (λ_ _=>rfl)) (x_ (aU aE (qv 1) aj (λ_ _=>rfl)) (y8 (bp bg rfl X.i' aaP (x_ (bc bT (qv 1) (bi aj) bE) ac)) ac)))))))),?_⟩;dsimp only[cq];have e0:Str.empty.length=0:=rfl;have l1:(Str.ofString " is no line of a form").length=21:=by decide
 have M_:sizeLine=16777216:=by decide
 obtain⟨w1,w2,w3,w4⟩:=gh ok;have HQ:=ok.HQ;have J6:((("form" : Str)::r).map V.str).length=r.length+1:=by simp
 refine⟨_,rfl,l,_,rfl,.inl (c_.of hl),_,_,rfl,rfl,_,rfl,bI (λh=>?_) (λh=>?_)⟩
 ·refine⟨_,rfl,.list _,.lst (c_.of hl) (cQ _),w2,w3,w4,by lia,_,rfl,by rw[ay,e0];lia,_,rfl,by rw[ay,ay,e0,l1];lia,(by show 1<=10;decide),qe ?_ _ (b6.refl _)⟩;rintro⟨f,_,_,e⟩;unfold Iu at e;rw[J6,(aab e).2]at h;simp at h
  lia
 ·rw[J6]at h;refine⟨_,rfl,_,rfl,l,_,rfl,c_.of hl,λsl QB=>?_⟩;have ec:kZ ((("form" : Str)::r).map V.str) (some 1) none=r.map V.str:=by
   rw[show(some 1:Option Int)=some ((1:Nat):Int)from rfl,cU];rfl
  rw[ec];have s1:=ae QB (.lst (r.map V.str));have h1:=aa (H:=H) (a:=sl) (o:=.lst (r.map V.str));generalize upd H sl (.lst (r.map V.str))=H1 at s1 h1⊢;rw[aac]at HQ;refine⟨sl,rfl,⟨_,c_.of h1⟩,λD hD=>?_⟩;refine ue (K:=K) (xs:=r.map V.str) (bs:=r) (F:=UU) (R:=λ_ z v=>v=.str z) (λ_ _ _ _ _ _ _ x=>x) (bX (by rw[aad];lia)) (by rw[aad]) (c_.of h1) hD (λi x z H' hx hz gd sm Nd Q' q'=>?_) (λys H2 gd s2 h2 Tv=>?_)
  ·rw[aaI,hz]at hx;cases hx;have zm:=aak hz;refine⟨_,rfl,z,rfl,ok.tx (aah _ zm),λhn H2 s2=>q' z _ _ (xL hn) s2 rfl,λhn H2 s2=>qe ?_ _ (s1.trans (sm.trans s2))⟩;rintro⟨f,NZ,_,e⟩;rw[(aab e).2]at zm;simp only[aaf]at zm;rcases zm with rfl|rfl|zm
   ·exact hn NZ.nm
   ·exact hn NZ.hd
   ·exact hn (NZ.br z zm)
  ·have Hk:∀z∈r,g7 z:=λz hz=>by
    obtain⟨y,hy⟩:=gd z hz;exact vT hy
   rw[sE Hk]at Tv;have ey:=qR Tv;subst ey;have h22:2<=r.length:=by lia
   clear h;match r,h22 with
   |nm::hd::br,_=>
    have h2':H2 D=some (.lst (.str nm::.str hd::br.map V.str)):=h2;refine⟨_,rfl,D,_,0,_,rfl,rfl,c_.of h2',cb _ _,_,rfl,D,_,1,_,rfl,rfl,c_.of h2',bY (j:=1) rfl,_,rfl,_,rfl,D,_,rfl,c_.of h2',λsl3 hsl3=>?_⟩;have ec2:kZ (V.str nm::.str hd::br.map V.str) (some 2) none=br.map V.str:=by rw[show(some 2:Option Int)=some ((2:Nat):Int)from rfl,cU];rfl
    rw[ec2];have s3:=ae hsl3 (.lst (br.map V.str));refine⟨sl3,_,rfl,.inl ⟨c_.of aa,λt ht=>⟨Z3,λu hu=>?_⟩⟩⟩;have s4:=ae ht (.tup (br.map V.str));have s5:=ae hu (.tup [.str nm,.str hd,.ref t]);exact q ⟨nm,hd,br,[]⟩ ⟨Hk nm (by simp),Hk hd (by simp),λb hb=>Hk b (by simp[hb]),λ_ z=>nomatch z⟩ rfl rfl _ _ (s1.trans (s2.trans (s3.trans (s4.trans s5)))) ⟨u,t,rfl,aa,s5 _ _ aa⟩
theorem dE(w:Str)(ps:List (Str×Str)):(ps.flatMap (GN w)).length=2*ps.length:=by
 induction ps with
 |nil=>rfl
 |cons p ps ih=>
  rw[aa6,aaa,ih,aac];unfold GN;simp only[aac,aa7]
  lia
theorem rQ(w:Str):∀(ps:List (Str×Str))(i:Nat)(p:Str×Str)(rest:List Str),ps[i]?=some p->(ps.flatMap (GN w)++rest)[2*i]?=some w/\(ps.flatMap (GN w)++rest)[2*i+1]?=some (p.1++":"++p.2)
 |[],i,p,rest,h=>by simp at h
 |x::ps,0,p,rest,h=>by
  simp at h;subst h;rw[aa6];exact⟨rfl,rfl⟩
 |x::ps,i+1,p,rest,h=>by have ih:=rQ w ps i p rest (by simpa using h);rw[aa6,show 2*(i+1)=2*i+2 by lia];exact ih
theorem mH(s:Sg):(n9 s).length=2+2*(s.dn.length+s.up.length):=by
 unfold n9;rw[aac,aac,aaa,dE,dE]
 lia
variable{i:Nat}
theorem Ca(s:Sg)(hi:i<s.dn.length+s.up.length):(∃p,s.dn[i]?=some p/\(n9 s)[2+2*i]?=some ("down" : Str)/\(n9 s)[2+2*i+1]?=some (p.1++":"++p.2)) \/
 (s.dn.length<=i/\∃p,s.up[i-s.dn.length]?=some p/\(n9 s)[2+2*i]?=some ("up" : Str)/\(n9 s)[2+2*i+1]?=some (p.1++":"++p.2)):=by
 unfold n9;have e:∀(a b:Str)(l:List Str)(k:Nat),(a::b::l)[2+k]?=l[k]?:=λa b l k=>by rw[show 2+k=k+2 by lia];rfl
 by_cases h:i<s.dn.length
 ·obtain⟨p,hp⟩:=aN h;have:=rQ "down" s.dn i p (s.up.flatMap (GN "up")) hp;exact .inl ⟨p,hp,by rw[e];exact this.1,by rw[acX,e];exact this.2⟩
 ·obtain⟨p,hp⟩:=aN (xs:=s.up) (i:=i-s.dn.length) (by lia);have h2:=rQ "up" s.up (i-s.dn.length) p [] hp;rw[aaW]at h2;have hl:=dE "down" s.dn;refine .inr ⟨by lia,p,hp,?_,?_⟩
  ·rw[e,aaz (by lia),hl,show 2*i-2*s.dn.length=2*(i-s.dn.length)by lia];exact h2.1
  ·rw[acX,e,aaz (by lia),hl,show 2*i+1-2*s.dn.length=2*(i-s.dn.length)+1 by lia];exact h2.2
variable{a b:Addr}
def ik{o:HO}(h:upd H a o b=none):b≠a/\H b=none:=by
 by_cases e:b=a
 ·rw[e,aa]at h;cases h
 ·rw[aw e]at h;exact⟨e,h⟩
structure Pz(rest:List Str)(i:Nat)(ds us:List (Str×Str)):Prop where
 e:rest.take (2*i)=ds.flatMap (GN "down")++us.flatMap (GN "up")
 n:ds.length+us.length=i
 d:∀p∈ds,gb p
 u:∀p∈us,gb p
variable{rest:List Str}
def zj:Pz rest 0 [] []:=⟨rfl,rfl,λ_ z=>(nomatch z),λ_ z=>nomatch z⟩
theorem mD{a v:Str}(ha:rest[2*i]?=some a)(hv:rest[2*i+1]?=some v):rest.take (2*(i+1))=rest.take (2*i)++[a,v]:=by rw[show 2*(i+1)=2*i+1+1 by lia,bD hv,bD ha,aas];rfl
theorem Pz.up{rest:List Str}{i:Nat}{ds us:List (Str×Str)}{p:Str×Str}(h:Pz rest i ds us)(ok:gb p)(ha:rest[2*i]?=some "up")(hv:rest[2*i+1]?=some (p.1++":"++p.2)):Pz rest (i+1) ds (us++[p]):=by
 refine⟨?_,by rw[aaa];simp;have:=h.n;lia,h.d,λq hq=>?_⟩
 ·rw[mD ha hv,h.e,abm,aas];rfl
 ·rcases List.mem_append.mp hq with hq|hq
  ·exact h.u q hq
  ·rw[List.mem_singleton.mp hq];exact ok
theorem Pz.down{rest:List Str}{i:Nat}{ds:List (Str×Str)}{p:Str×Str}(h:Pz rest i ds [])(ok:gb p)(ha:rest[2*i]?=some "down")(hv:rest[2*i+1]?=some (p.1++":"++p.2)):Pz rest (i+1) (ds++[p]) []:=by
 refine⟨?_,by rw[aaa];simp;have:=h.n;simp at this;lia,λq hq=>?_,h.u⟩
 ·rw[mD ha hv,h.e,abm];simp[GN]
 ·rcases List.mem_append.mp hq with hq|hq
  ·exact h.d q hq
  ·rw[List.mem_singleton.mp hq];exact ok
variable{ds us:List (Str×Str)}
theorem Pz.has(h:Pz rest i ds us)(hu:us≠[]):ds.length<i/\rest[2*ds.length]?=some "up":=by
 obtain⟨p,HW,rfl⟩:=aaQ hu;have n:=h.n;rw[aac]at n;refine⟨by lia,?_⟩;have e:(rest.take (2*i))[2*ds.length]?=some ("up" : Str):=by rw[h.e,aaz (by rw[dE];exact aam _),dE,acg];rfl
 rw[ac1,aaX (by lia)]at e;exact e
variable{nm:Str}{s:Sg}
theorem lM(e:("sign" : Str)::nm::rest=n9 s):s.nm=nm/\rest.length=2*(s.dn.length+s.up.length)/\∀i,i<s.dn.length+s.up.length->(∃p,s.dn[i]?=some p/\rest[2*i]?=some ("down" : Str)/\rest[2*i+1]?=some (p.1++":"++p.2)) \/
 (s.dn.length<=i/\∃p,s.up[i-s.dn.length]?=some p/\rest[2*i]?=some ("up" : Str)/\rest[2*i+1]?=some (p.1++":"++p.2)):=by
 have l:=mH s;have at_:=λi=>Ca s (i:=i);rw[<-e]at l at_;have g:∀k,(("sign" : Str)::nm::rest)[2+k]?=rest[k]?:=λk=>by rw[show 2+k=k+2 by lia];rfl
 refine⟨?_,by simp at l;lia,λi hi=>?_⟩
 ·unfold n9 at e;exact(aab (aab e).2).1.symm
 ·have:=at_ i hi;rw[acX,g,g]at this;exact this
def Fo:("down" : Str) ≠ "up":=by decide
theorem Cc{a:Str}(h:Pz rest i ds us)(hi:2*i<rest.length)(ha:rest[2*i]?=some a)(h1:a ≠ "up")(h2:a = "down"->us≠[]):¬∃s,Ma s/\("sign" : Str)::nm::rest=n9 s:=by
 rintro⟨s,ok,e⟩;obtain⟨_,l,w⟩:=lM e;rcases w i (by lia)with⟨p,hp,x,_⟩|⟨_,p,hp,x,_⟩
 ·rw[ha]at x;obtain⟨k1,k2⟩:=h.has (h2 (aaq x));have:=bN hp;rcases w ds.length (by lia)with⟨_,_,y,_⟩|⟨z,_⟩
  ·rw[k2]at y;exact Fo (aaq y).symm
  ·lia
 ·rw[ha]at x;exact h1 (aaq x)
theorem xu{v:Str}(hi:2*i<rest.length)(hv:rest[2*i+1]?=some v)(h:¬ZT v):¬∃s,Ma s/\("sign" : Str)::nm::rest=n9 s:=by
 rintro⟨s,ok,e⟩;obtain⟨_,l,w⟩:=lM e;rcases w i (by lia)with⟨p,hp,_,x⟩|⟨_,p,hp,_,x⟩
 ·rw[hv]at x;exact h ⟨p,ok.dn p (aak hp),aaq x⟩
 ·rw[hv]at x;exact h ⟨p,ok.up p (aak hp),aaq x⟩
theorem zC(X:Tx K w mg T):d9 P w K mg base (Hu P w) 4 T.qAP T.O8 ["words"] (BI T.b7):=by
 have K6:=(jy (P:=P) (w:=w) (base:=base) X).mono (show 2<=3 by decide);have RW:=zM (P:=P) (w:=w) (base:=base) X;refine X.Sj.KO JS (λvs H Q E h=>?_) (λj8 A outer s H vs Q E hr h=>?_)
 ·obtain⟨_,_,rfl,_⟩:=h;rfl
 obtain⟨l,r,rfl,hl,ok,q,qe⟩:=h;refine⟨_,(af (be (aC gY (ar aV (aA b8 rfl X.ff aay (d5 (qv 0) ac)) aj) aj (aK _)) (ao (bP rfl rfl X.g_ X.f_ (Nn (cL (bq (dU hr (qv 0)) (bq ak dq))) ac) bO)) aI) (af (aD (i:=1) JS.nd rfl oI1 (aR ac)) (af (aD (i:=2) JS.nd rfl oI1 (aR ac)) (af (cF ab9 rfl (rJ rfl X.n_ (d_ aj (y8 (aA b8 rfl X.ff aay (d5 (qv 0) ac)) (d_ aj ac)))) (aM (i:=3) JS.nd rfl oI1) (ao (be (aC bM (aU aE (qv 0) (qv 3) (λ_ _=>rfl)) ak (aK _)) (ao (bo (cM aal aaC aaB bf (qv 2) (y8 (aB RW hr rfl X.Rm X.PM.kp X.RQ .nil bW (x_ (aU aE (qv 0) (ar bA (qv 3) aj) (λ_ _=>rfl)) ac)) ac)))) (ao (be (eN (iS (aC bM (aU aE (qv 0) (qv 3) (λ_ _=>rfl)) ak (aK _)) (fK (cE (eO (qv 2) (λ_=>rfl)))))) (ao (bo (cM aal aaC aaB bf (qv 1) (y8 (aB RW hr rfl X.Rm X.PM.kp X.RQ .nil bW (x_ (aU aE (qv 0) (ar bA (qv 3) aj) (λ_ _=>rfl)) ac)) ac)))) (ao (bP rfl rfl X.g_ X.f_ (Nn (cL (bq ak (bq (dU hr (qv 0)) dq))) ac) bO))))))) (ao (aH (bw (y8 (aB K6 hr rfl X.Oc X.MJ.kp X.Px .nil bW (x_ (aU aE (qv 0) aj (λ_ _=>rfl)) ac)) (y8 (bp bg rfl X.i' aaP (d5 (qv 1) ac)) (y8 (bp bg rfl X.i' aaP (d5 (qv 2) ac)) ac)))))))))),?_⟩;dsimp only[cq];have e0:Str.empty.length=0:=rfl;have l1:(Str.ofString " is no line of a sign").length=21:=by decide
 have l2:(Str.ofString "neither a down nor an up is told in ").length=36:=by decide
 have M_:sizeLine=16777216:=by decide
 obtain⟨w1,w2,w3,w4⟩:=gh ok;have HQ:=ok.HQ;rw[aac]at HQ;have J6:((("sign" : Str)::r).map V.str).length=r.length+1:=by simp
 refine⟨_,rfl,l,_,rfl,.inl (c_.of hl),_,_,rfl,rfl,(by show(0:Int)<2;decide),rfl,_,rfl,iF (λh=>?_) (λh=>?_)⟩
 ·refine⟨_,rfl,.list _,.lst (c_.of hl) (cQ _),w2,w3,w4,by lia,_,rfl,by rw[ay,e0];lia,_,rfl,by rw[ay,ay,e0,l1];lia,(by show 1<=10;decide),qe ?_ _ (b6.refl _)⟩;rintro⟨s,_,e⟩;have:=mH s;rw[<-e,aac]at this;apply h;show V.int _=V.int _;rw[J6,this];congr 1
  lia
 have h2:((r.length+1:Nat):Int)%2=0:=by have:=V.int.inj h;rw[J6]at this;exact this
 match r,hl,ok,q,qe,w1,w2,w3,w4,HQ,J6,h,h2 with
 |[],_,_,_,_,_,_,_,_,_,_,_,h2=>exact absurd h2 (by decide)
 |nm::rest,hl,ok,q,qe,w1,w2,w3,w4,HQ,J6,_,h2=>
 rw[aac]at h2 J6 HQ;obtain⟨n,hn⟩:∃n,rest.length=2*n:=⟨rest.length / 2,by lia⟩
 refine⟨Z0,λd hd=>⟨Z0,λu hu=>?_⟩⟩;obtain⟨nud,hu0⟩:=ik hu;have s1:=ae hd (.lst []);have s2:=ae hu (.lst []);have g:∀k,(("sign" : Str)::nm::rest)[2+k]?=rest[k]?:=λk=>by rw[show 2+k=k+2 by lia];rfl
 refine⟨_,rfl,l,_,rfl,.inl (c_.of ((s1.trans s2) _ _ hl)),2,_,n,rfl,by decide,by decide,by lia,by rw[J6];lia,?_⟩;refine qm (λi σ H'=>(∃x3,σ=[some (.ref l),some (.ref d),some (.ref u),x3])/\b6 H H'/\∃ds ups us ws,Pz rest i ds ups/\H' d=some (.lst us)/\H' u=some (.lst ws)/\g9 (w_ H') ds us/\g9 (w_ H') ups ws)
  ⟨⟨none,rfl⟩,s1.trans s2,[],[],[],[],zj,s2 _ _ aa,aa,.nil,.nil⟩ ?_ ?_
 ·rintro i σ H' hi ⟨⟨x3,rfl⟩,sm,ds,ups,us,ws,pf,Ia,Qx,A3,Ho⟩;have Jd:=sm _ _ hl;have Ir:=A3.len;have Ro:=Ho.len;have pn:=pf.n;obtain⟨a,ha⟩:=aN (xs:=rest) (i:=2*i) (by lia);obtain⟨v,hv⟩:=aN (xs:=rest) (i:=2*i+1) (by lia);have RC:(("sign" : Str)::nm::rest)[2+2*i]?=some a:=by rw[g];exact ha
  have Ww:(("sign" : Str)::nm::rest)[2+2*i+1]?=some v:=by rw[acX,g];exact hv
  have tv:eI v:=ok.tx (aah _ (aah _ (aak hv)));refine⟨_,rfl,_,rfl,l,_,_,_,rfl,rfl,c_.of Jd,cz (j:=2+2*i) (by lia) RC,rfl,_,rfl,bI (λh=>?_) (λh=>?_)⟩
  ·have ea:a = "up":=V.str.inj h;subst ea;refine⟨_,rfl,.inl ⟨rfl,_,c_.of Qx⟩,_,rfl,_,rfl,_,_,rfl,rfl,l,_,_,_,rfl,rfl,c_.of Jd,cz (j:=2+2*i+1) (by lia) Ww,v,rfl,tv,λp okp ev v2 H2 s2 pr=>?_,λhn H2 s2=>qe (xu (by lia) hv hn) _ (sm.trans s2)⟩;refine⟨u,ws,v2,rfl,rfl,s2 _ _ Qx,bX (by lia),?_⟩;have t2:=(bG s2).trans (aQ (s2 _ _ Qx) (ys:=ws++[v2]));exact⟨⟨_,rfl⟩,aL hu0 (sm.trans s2),ds,ups++[p],us,ws++[v2],pf.up okp ha (by rw[hv,ev]),by rw[aw nud.symm];exact s2 _ _ Ia,aa,A3.imp λ_ _=>w_.same t2,(Ho.imp λ_ _=>w_.same t2).snoc (pr.same (aQ (s2 _ _ Qx)))⟩
  ·have na:a ≠ "up":=λz=>h (by rw[z]);by_cases hdn:a = "down"
   ·subst hdn;refine⟨_,rfl,_,rfl,l,_,_,_,rfl,rfl,c_.of Jd,cz (j:=2+2*i) (by lia) RC,rfl,_,rfl,me rfl ⟨_,rfl,_,.inl ⟨_,c_.of Qx,rfl⟩,?_⟩⟩;by_cases hup:ups=[]
    ·subst hup;have P0:=Ho.nil_of;subst P0;refine fX ?_;refine⟨_,rfl,.inl ⟨rfl,_,c_.of Ia⟩,_,rfl,_,rfl,_,_,rfl,rfl,l,_,_,_,rfl,rfl,c_.of Jd,cz (j:=2+2*i+1) (by lia) Ww,v,rfl,tv,λp okp ev v2 H2 s2 pr=>?_,λhn H2 s2=>qe (xu (by lia) hv hn) _ (sm.trans s2)⟩;refine⟨d,us,v2,rfl,rfl,s2 _ _ Ia,bX (by lia),?_⟩;have t2:=(bG s2).trans (aQ (s2 _ _ Ia) (ys:=us++[v2]));exact⟨⟨_,rfl⟩,aL hd (sm.trans s2),ds++[p],[],us++[v2],[],pf.down okp ha (by rw[hv,ev]),aa,by rw[aw nud];exact s2 _ _ Qx,(A3.imp λ_ _=>w_.same t2).snoc (pr.same (aQ (s2 _ _ Ia))),.nil⟩
    ·match ws,Ro,Qx with
     |[],Ro,_=>exact absurd (List.length_eq_zero_iff.mp Ro.symm) hup
     |y::NA,_,_=>exact fH ⟨_,rfl,by rw[ay,e0,l2];lia,_,rfl,.list _,.lst (c_.of Jd) (cQ _),w2,w3,w4,by lia,_,rfl,by rw[ay,ay,e0,l2];lia,(by show 1<=10;decide),qe (Cc pf (by lia) ha na λ_=>hup) _ sm⟩
   ·refine⟨_,rfl,_,rfl,l,_,_,_,rfl,rfl,c_.of Jd,cz (j:=2+2*i) (by lia) RC,rfl,_,rfl,kL (λz=>hdn (V.str.inj z)) (fH ?_)⟩;exact⟨_,rfl,by rw[ay,e0,l2];lia,_,rfl,.list _,.lst (c_.of Jd) (cQ _),w2,w3,w4,by lia,_,rfl,by rw[ay,ay,e0,l2];lia,(by show 1<=10;decide),qe (Cc pf (by lia) ha na λz=>absurd z hdn) _ sm⟩
 ·rintro σ H' ⟨⟨x3,rfl⟩,sm,ds,ups,us,ws,pf,Ia,Qx,A3,Ho⟩;have er:=pf.e;rw[aaF (by lia)]at er;refine⟨_,rfl,l,_,1,_,rfl,rfl,c_.of (sm _ _ hl),cz (j:=1) rfl rfl,nm,rfl,ok.tx (by simp),λQK H2 s2=>?_,λQK H2 s2=>qe ?_ _ (sm.trans s2)⟩
  ·refine⟨_,rfl,d,us,rfl,.inl ⟨c_.of (s2 _ _ Ia),λt ht=>?_⟩⟩;have s3:=ae ht (.tup us);refine⟨_,rfl,u,ws,rfl,.inl ⟨c_.of (s3 _ _ (s2 _ _ Qx)),λt2 Qz=>⟨Z3,λp hp=>?_⟩⟩⟩;have s4:=ae Qz (.tup ws);have s5:=ae hp (.tup [.str nm,.ref t,.ref t2]);have HJ:=s2.trans (s3.trans (s4.trans s5));exact q ⟨nm,ds,ups⟩ ⟨QK,pf.d,pf.u⟩ (by unfold n9;rw[er]) _ _ (sm.trans HJ) ⟨p,t,t2,us,ws,rfl,aa,s5 _ _ (s4 _ _ aa),A3.imp λ_ _=>w_.same (bG HJ),s5 _ _ aa,Ho.imp λ_ _=>w_.same (bG HJ)⟩
  ·rintro⟨s,Rf,e⟩;exact QK ((lM e).1▸Rf.nm)
def B0(H:Hp)(ws:List Str)(v:V):Prop:=∃b,v=.ref b/\H b=some (.lst (ws.map V.str))
def B0.same(e:b6 H H')(h:B0 H ws v):B0 H' ws v:=by obtain⟨b,x,y⟩:=h;exact⟨b,x,e _ _ y⟩
def xg(H:Hp)(f:Fh)(v:V)(l:Addr):Prop:=∃p h rs,v=.ref p/\H p=some (.tup [h,.ref l])/\Nk H f h/\H l=some (.lst rs)/\g9 (J' H) f.ru rs
def Ij(H:Hp):List Fh->List V->List Addr->Prop
 |[],us,ls=>us=[]/\ls=[]
 |f::fs,us,ls=>∃v r l k,us=v::r/\ls=l::k/\xg H f v l/\Ij H fs r k
theorem Ij.len{H:Hp}:∀{fs:List Fh}{us:List V}{ls:List Addr},Ij H fs us ls->us.length=fs.length
 |[],us,ls,⟨h,_⟩=>by rw[h];rfl
 |f::fs,us,ls,⟨v,r,l,k,e1,e2,_,h⟩=>by rw[e1,aac,aac,Ij.len h]
theorem Ij.snoc{H:Hp}{f:Fh}{v:V}{l:Addr}(h:xg H f v l):∀{fs:List Fh}{us:List V}{ls:List Addr},Ij H fs us ls->Ij H (fs++[f]) (us++[v]) (ls++[l])
 |[],us,ls,⟨e1,e2⟩=>by subst e1 e2;exact⟨v,[],l,[],rfl,rfl,h,rfl,rfl⟩
 |f'::fs,us,ls,⟨v',r,l',k,e1,e2,h1,h2⟩=>by subst e1 e2;exact⟨v',_,l',_,rfl,rfl,h1,Ij.snoc h h2⟩
theorem Ij.NC{H:Hp}{f:Fh}:∀{fs:List Fh}{us:List V}{ls:List Addr},Ij H (fs++[f]) us ls->∃HW v Tp l,us=HW++[v]/\ls=Tp++[l]/\Ij H fs HW Tp/\xg H f v l
 |[],us,ls,⟨v,r,l,k,e1,e2,h1,h2,h3⟩=>by subst e1 e2 h2 h3;exact⟨[],v,[],l,rfl,rfl,⟨rfl,rfl⟩,h1⟩
 |f'::fs,us,ls,⟨v',r,l',k,e1,e2,h1,h2⟩=>by obtain⟨HW,v,Tp,l,q1,q2,q3,q4⟩:=Ij.NC h2;subst e1 e2 q1 q2;exact⟨v'::HW,v,l'::Tp,l,rfl,rfl,⟨v',HW,l',Tp,rfl,rfl,h1,q3⟩,q4⟩
theorem Ij.keep{H H':Hp}(s:n6 H H'):∀{fs:List Fh}{us:List V}{ls:List Addr},(∀l∈ls,∀o,H l=some o->H' l=some o)->Ij H fs us ls->Ij H' fs us ls
 |[],_,_,_,h=>h
 |f::fs,us,ls,k,⟨v,r,l,q,e1,e2,⟨p,h,rs,e3,hp,hh,hl,hr⟩,g⟩=>by subst e2;exact⟨v,r,l,q,e1,rfl,⟨p,h,rs,e3,s _ _ hp,hh.same s,k l (by simp) _ hl,hr.imp λ_ _=>J'.same s⟩,Ij.keep s (λm hm=>k m (by simp[hm])) g⟩
theorem Ij.Ws{H:Hp}:∀{fs:List Fh}{us:List V}{ls:List Addr},Ij H fs us ls->∀l∈ls,∃xs,H l=some (.lst xs)
 |[],us,ls,⟨_,h⟩,l,hl=>by rw[h]at hl;cases hl
 |f::fs,us,ls,⟨v,r,l',k,e1,e2,⟨p,h,rs,_,_,_,Jd,_⟩,g⟩,l,hl=>by
  subst e2;rcases List.mem_cons.mp hl with rfl|hl
  ·exact⟨rs,Jd⟩
  ·exact Ij.Ws g l hl
def Gm(H:Hp)(f:Fh)(v:V):Prop:=∃l,xg H f v l
theorem Ij.is{H:Hp}:∀{fs:List Fh}{us:List V}{ls:List Addr},Ij H fs us ls->g9 (Gm H) fs us
 |[],us,ls,⟨h,_⟩=>by rw[h];exact .nil
 |f::fs,us,ls,⟨v,r,l,k,e1,e2,h1,h2⟩=>by rw[e1];exact .cons ⟨l,h1⟩ (Ij.is h2)
def wI{r:Rh}:sh (.val r.k r.nm) ≠ "form":=λe=>by
 have L:=dH r.k r.nm;rw[e]at L;have h46:(46:Nat)∈("form" : Str).cps.toList:=by rw[L];simp
 exact absurd h46 (by decide)
def iM(fs:List Fh):Prop:=∀f∈fs,xh f
def ZU(LL:List (List Str)):Prop:=∃fs,iM fs/\LL=fs.flatMap A9
variable{LL:List (List Str)}{l:List Str}
def gH(h:ZU LL)(hl:l∈LL):(∃f,xh f/\f.ru=[]/\l=Iu f)\/∃r,qy r/\l=u9 r:=by
 obtain⟨fs,ok,rfl⟩:=h;obtain⟨f,hf,hl⟩:=List.mem_flatMap.mp hl;unfold A9 at hl;rcases List.mem_cons.mp hl with rfl|hl
 ·exact .inl ⟨{ f with ru:=[] },⟨(ok f hf).nm,(ok f hf).hd,(ok f hf).br,λ_ z=>nomatch z⟩,rfl,rfl⟩
 ·obtain⟨r,hr,rfl⟩:=List.mem_map.mp hl;exact .inr ⟨r,(ok f hf).ru r hr,rfl⟩
theorem nG(h:ZU LL){r:List (List Str)}(e:LL=l::r):∃f,l=Iu f:=by
 obtain⟨fs,ok,rfl⟩:=h;cases fs with
 |nil=>cases e
 |cons f fs=>
  rw[aa6]at e;unfold A9 at e;rw[aaE]at e;exact⟨f,(aab e).1.symm⟩
def wK{gs:List Fh}(e:LL.take i=gs.flatMap A9)(h:LL[i]?=some (Iu f))(hf:f.ru=[]):LL.take (i+1)=(gs++[f]).flatMap A9:=by rw[bD h,e,abm];unfold A9;simp[hf]
def wJ{ds:List Fh}{r:Rh}(e:LL.take i=(ds++[f]).flatMap A9)(h:LL[i]?=some (u9 r)):LL.take (i+1)=(ds++[{ f with ru:=f.ru++[r] }]).flatMap A9:=by rw[bD h,e,abm,abm,aas];congr 1;simp[A9,Iu]
def BK(N:Addr):Sp:=λvs H Q E=>∃(l:Addr)(us:List V)(LL:List (List Str)),vs=[.ref l]/\H l=some (.lst us)/\g9 (B0 H) LL us/\LL.length<=1000/\(∀ws∈LL,K0 ws/\ws≠[]) /\
 (∀fs,iM fs->LL=fs.flatMap A9->∀D ws H',b6 H H'->H' D=some (.lst ws)->g9 (Gm H') fs ws->Q (.ref D) H')/\(¬ZU LL->∀H',b6 H H'->E (.ref N) none H')
theorem zE(X:Tx K w mg T):d9 P w K mg base (Hu P w) 4 T.qAD T.Pk ["lines"] (BK T.b7):=by
 have Zh:=zF (P:=P) (w:=w) (base:=base) X;have Zi:=zD (P:=P) (w:=w) (base:=base) X;refine X.Sv.KO LH (λvs H Q E h=>?_) (λj8 A outer s H vs Q E hr h=>?_)
 ·obtain⟨_,_,_,rfl,_⟩:=h;rfl
 obtain⟨l,us,LL,rfl,hl,A3,h1k,ok,q,qe⟩:=h;refine⟨_,(af (aD (i:=1) LH.nd rfl oI1 (aR ac)) (af (cF ab9 rfl (cK (qv 0)) (aM (i:=2) LH.nd rfl oI1) (ao (be (aC bM (aU aE (qv 2) aj (λ_ _=>rfl)) ak (aK _)) (ao (bo (cM aal aaC aaB bf (qv 1) (Ml (bw (y8 (aB Zh hr rfl X.V' X.Sl.kp X.YF .nil bW (d5 (qv 2) ac)) (UO (aR ac) ac))) ac)))) (ao (be (eO (qv 1) (λ_=>rfl)) (ao (bo (cM aal aaC aaB bf (aU dX (aU aE (qv 1) (rK ke aj) (λ_ _=>rfl)) aj (λ_ _=>rfl)) (y8 (aB Zi hr rfl X.Wa X.Sm.kp X.YG .nil bW (d5 (qv 2) ac)) ac)))) (ao (bP rfl rfl X.g_ X.f_ (Nn (cL (bq (dU hr (qv 2)) (bq ak dq))) ac) bO))))))) (ao (aH (qv 1))))),?_⟩;dsimp only[cq];have e0:Str.empty.length=0:=rfl;have l1:(Str.ofString " stands ahead of all forms").length=26:=by decide
 have M_:sizeLine=16777216:=by decide
 have Ir:=A3.len;refine⟨Z0,λD hD=>?_⟩;have s1:=ae hD (.lst []);refine⟨_,rfl,l,rfl,⟨_,c_.of (s1 _ _ hl)⟩,?_⟩;refine dQ (K:=K) (a:=l) (xs:=us) (λi σ H'=>(∃x2,σ=[some (.ref l),some (.ref D),x2])/\b6 H H'/\∃gs ws ls,H' D=some (.lst ws)/\Ij H' gs ws ls/\ls.Nodup/\D∉ls/\(∀m∈ls,H m=none)/\iM gs/\gs.length<=i/\(gs.map λg=>g.ru.length).sum<=i/\LL.take i=gs.flatMap A9)
  ⟨⟨none,rfl⟩,s1,[],[],[],aa,⟨rfl,rfl⟩,List.nodup_nil,(λz=>nomatch z),(λm z=>nomatch z),(λf z=>nomatch z),aam _,aam _,rfl⟩ (λi σ H' _ ⟨_,sm,_⟩=>c_.of (sm _ _ hl)) ?_ ?_
 ·rintro i y σ H' hy ⟨⟨x2,rfl⟩,sm,gs,ws,ls,hd,H_,nd,nD,new,US,HQ,Ur,eL⟩;obtain⟨ln1,Kf,b,rfl,hb⟩:=A3.get hy;have Nv:=sm _ _ hb;have Ro:=H_.len;have hi:=bN Kf;obtain⟨okl,nel⟩:=ok ln1 (aak Kf);obtain⟨w0,wr,rfl⟩:=aaQ nel;refine⟨_,rfl,b,_,0,_,rfl,rfl,c_.of Nv,cz (j:=0) rfl rfl,rfl,_,rfl,bI (λh=>?_) (λh=>?_)⟩
  ·have ew:w0 = "form":=V.str.inj h;subst ew;refine⟨_,rfl,.inl ⟨rfl,_,c_.of hd⟩,_,rfl,b,wr,rfl,Nv,okl,λf NZ fr ef v H2 s2 fh=>⟨Z0,λm hm=>⟨Z2,λt ht=>?_⟩⟩,λPY H2 s2=>qe (λhF=>?_) _ (sm.trans s2)⟩
   ·have s3:=ae hm (.lst []);have s4:=ae ht (.tup [v,.ref m]);have ZE:=s2.trans (s3.trans s4);have Kg:=ZE _ _ hd;have hm4:=s4 _ _ (aa (H:=H2) (a:=m) (o:=.lst []));have ZX:=aa (H:=upd H2 m (.lst [])) (a:=t) (o:=.tup [v,.ref m]);refine⟨D,ws,_,rfl,rfl,Kg,bX (by lia),?_⟩;have nmD:m≠D:=aP (s2 _ _ hd) hm;have ntD:t≠D:=dk ZX Kg (λz=>nomatch z);have nml:m∉ls:=λz=>by
     obtain⟨xs,e⟩:=H_.Ws m z;rw[s2 _ _ e]at hm;cases hm
    refine⟨⟨_,rfl⟩,aL hD (sm.trans ZE),gs++[f],ws++[.ref t],ls++[m],aa,?_,?_,?_,?_,?_,by rw[aaa];exact Nat.succ_le_succ HQ,by rw[aaZ,ado];simp[fr];lia,wK eL (by rw[Kf,ef]) fr⟩
    ·refine Ij.snoc ⟨t,v,[],rfl,?_,?_,?_,by rw[fr];exact .nil⟩ (H_.keep ((bG ZE).trans (aQ Kg)) λc hc o e=>?_)
     ·rw[aw ntD];exact ZX
     ·exact(fh.same (bG (s3.trans s4))).same (aQ Kg)
     ·rw[aw nmD];exact hm4
     ·rw[aw (λz=>nD (by rw[<-z];exact hc))];exact ZE _ _ e
    ·exact List.nodup_append.mpr ⟨nd,List.nodup_cons.mpr ⟨by simp,List.nodup_nil⟩,λa ha b hb=>by
      rw[aaL]at hb;subst hb;rintro rfl;exact nml ha⟩
    ·intro z;rcases List.mem_append.mp z with z|z
     ·exact nD z
     ·exact nmD (List.mem_singleton.mp z).symm
    ·intro c hc;rcases List.mem_append.mp hc with z|z
     ·exact new c z
     ·rw[List.mem_singleton.mp z];exact(sm.trans s2).free hm
    ·intro g hg;rcases List.mem_append.mp hg with z|z
     ·exact US g z
     ·rw[List.mem_singleton.mp z];exact NZ
   ·rcases gH hF (aak Kf)with⟨f,a1,a2,a3⟩|⟨r,_,a3⟩
    ·exact PY ⟨f,a1,a2,a3⟩
    ·exact wI (aab a3).1.symm
  ·have nw:w0 ≠ "form":=λz=>h (by rw[z]);refine⟨_,rfl,_,.inl ⟨_,c_.of hd,rfl⟩,?_⟩;rcases ab4 gs with rfl|⟨ds,f,rfl⟩
   ·have P0:ws=[]:=List.length_eq_zero_iff.mp Ro;subst P0;obtain⟨w1,w2,w3,w4⟩:=gh okl;refine fH ⟨_,rfl,.list _,.lst (c_.of Nv) (cQ _),w2,w3,w4,by lia,_,rfl,by rw[ay,e0];lia,_,rfl,by rw[ay,ay,e0,l1];lia,(by show 1<=10;decide),qe (λhF=>?_) _ sm⟩;have ei:i=0:=by
     have:=aaN List.length eL;rw[aaD,List.flatMap_nil,aa7]at this
     lia
    subst ei;cases LL with
    |nil=>cases Kf
    |cons l0 LL=>
     cases Kf;obtain⟨f,ef⟩:=nG hF rfl;exact nw (aab ef).1
   ·rw[ab5]at H_ US HQ Ur eL;obtain⟨HW,v,Tp,m,rfl,rfl,hfr',p,hh,rs,rfl,hp,fh,hm,G7⟩:=H_.NC;have ZS:=G7.len;have ne:(!(HW++[V.ref p]).isEmpty)=true:=by simp
    rw[ne];rw[aaZ,ado]at Ur;simp at Ur;refine fX ⟨_,rfl,_,rfl,D,_,-1,_,rfl,rfl,c_.of hd,oa _ _,p,_,1,_,rfl,rfl,k_.of hp,rfl,.inl ⟨rfl,_,c_.of hm⟩,_,rfl,b,w0::wr,rfl,Nv,okl,nel,λx okx ex v2 H2 s2 rh=>?_,λPY H2 s2=>qe (λhF=>?_) _ (sm.trans s2)⟩
    ·have hm2:=s2 _ _ hm;refine⟨m,rs,v2,rfl,rfl,hm2,bX (by lia),?_⟩;have hnm:H m=none:=new m (by simp);have nDm:D≠m:=λz=>nD (by rw[z];simp);have tt:=(bG s2).trans (aQ hm2 (ys:=rs++[v2]));refine⟨⟨_,rfl⟩,aL hnm (sm.trans s2),ds++[{ f with ru:=f.ru++[x] }],HW++[.ref p],Tp++[m],by rw[aw nDm];exact s2 _ _ hd,?_,nd,nD,new,?_,by rw[aaa]at HQ⊢;simp at HQ⊢;lia,by rw[aaZ,ado];simp;lia,wJ eL (by rw[Kf,ex])⟩
     ·refine Ij.snoc (f:={ f with ru:=f.ru++[x] }) ⟨p,hh,rs++[v2],rfl,tt _ _ hp,(show Nk _ { f with ru:=f.ru++[x] } hh from fh.same tt),aa,?_⟩ (hfr'.keep tt λc hc o e=>?_)
      ·exact(G7.imp λ_ _=>J'.same tt).snoc (rh.same (aQ hm2))
      ·have ncm:c≠m:=λz=>by
        have:=(List.nodup_append.mp nd).2.2 c hc m (by simp);exact this z
       rw[aw ncm];exact s2 _ _ e
     ·intro g hg;rcases List.mem_append.mp hg with z|z
      ·exact US g (abF _ z)
      ·rw[List.mem_singleton.mp z];have o:=US f (by simp);refine⟨o.nm,o.hd,o.br,λy hy=>?_⟩;rcases List.mem_append.mp hy with hy|hy
       ·exact o.ru y hy
       ·rw[List.mem_singleton.mp hy];exact okx
    ·rcases gH hF (aak Kf)with⟨f,_,_,a3⟩|⟨r,a1,a3⟩
     ·exact nw (aab a3).1
     ·exact PY ⟨r,a1,a3⟩
 ·rintro σ H' ⟨⟨x2,rfl⟩,sm,gs,ws,ls,hd,H_,nd,nD,new,US,_,_,eL⟩;rw[aaF (by lia)]at eL;exact⟨_,rfl,q gs US eL D ws H' sm hd H_.is⟩
variable{t:Tm}
def iR{u:Tm}(wt:Wf t)(wu:Wf u)(e:sh t=sh u):t=u:=JM (CD wt) (by rw[e]) wu
def GU(y:Str):Prop:=∃t,y=sh t/\Wf t
def KR(y:Str):Prop:=∃t,y=sh t/\Wf t/\(30<aX t\/6<depth t)
def isS(y:Str)(t:Tm):Prop:=y=sh t/\Wf t/\aX t<=30/\depth t<=6
open Classical in
noncomputable def NF(y:Str):Option Tm:=if h:∃t,isS y t then some h.choose else none
def dI(h:NF y=some t):isS y t:=by
 unfold NF at h;split at h
 ·rename_i g;cases h;exact g.choose_spec
 ·cases h
def xo(h:isS y t):∃u,NF y=some u:=by unfold NF;exact⟨_,dif_pos ⟨t,h⟩⟩
noncomputable def La(r:Rh):Option Ru:=(NF r.tx).map λt=>⟨r.k,r.nm,t⟩
def xy{r:Rh}(h:NF r.tx=some t):La r=some ⟨r.k,r.nm,t⟩:=by unfold La;rw[h];rfl
open Classical in
noncomputable def Ox(f:Fh):Option Fm:=if Good La f.ru then some ⟨f.nm,f.hd,f.br,f.ru.filterMap La⟩else none
def xW(h:Good La f.ru):Ox f=some ⟨f.nm,f.hd,f.br,f.ru.filterMap La⟩:=by unfold Ox;exact aaX h
def FC(H:Hp)(rs:List Ru)(v:V):Prop:=∃a us,v=.ref a/\H a=some (.tup us)/\g9 (F_ H) rs us
def BB(N G:Addr):Sp:=λvs H Q E=>∃(l:Addr)(us:List V)(rs:List Rh),vs=[.ref l]/\H l=some (.lst us)/\g9 (J' H) rs us/\rs.length<=1000/\(∀r∈rs,eI r.tx/\∀t,r.tx=sh t->Wf t->aX t<=100) /\
 (Good La rs->∀v H',b6 H H'->FC H' (rs.filterMap La) v->Q v H') /\
 (∀i r,rs[i]?=some r->Good La (rs.take i)->(¬GU r.tx->∀H',b6 H H'->E (.ref N) none H')/\(KR r.tx->∀H',b6 H H'->E (.ref G) none H'))
def qx(ss:List Sg):Prop:=∀s∈ss,Ma s
def sY(LL:List (List Str)):Prop:=∃ss fs,qx ss/\iM fs/\LL=ss.map n9++fs.flatMap A9
noncomputable def GL(LL:List (List Str)):Str:=Txt.join "\n" (LL.map ln)
structure Ei(LL:List (List Str)):Prop where
 ne:LL≠[]
 HQ:LL.length<=1000
 ws:∀ws∈LL,K0 ws/\ws≠[]
 wd:∀ws∈LL,∀w∈ws,∀c∈w.cps.toList,c≠32/\c≠10
 len:(GL LL).length<=800000
 p:∀ws∈LL,∀w∈ws,∀t,w=sh t->Wf t->aX t<=100
def mE(N G:Addr):Sp:=λvs H Q E=>∃LL,vs=[.str (GL LL)]/\Ei LL /\
 (∀ss fs,qx ss->iM fs->LL=ss.map n9++fs.flatMap A9->(Good Ox fs->∀v H',b6 H H'->K2 H' ⟨ss,fs.filterMap Ox⟩ v->Q v H') /\
  (∀j f i r,fs[j]?=some f->Good Ox (fs.take j)->f.ru[i]?=some r->Good La (f.ru.take i)->(¬GU r.tx->∀H',b6 H H'->E (.ref N) none H')/\(KR r.tx->∀H',b6 H H'->E (.ref G) none H'))) /\
 (¬sY LL->∀H',b6 H H'->E (.ref N) none H')
def B0.offD{D:Addr}:K1 D (λ(H:Hp)(ws:List Str)(v:V)=>∃b,v=.ref b/\b≠D/\H b=some (.lst (ws.map V.str))):=by rintro H H' acc ws v d k ⟨b,x,n,y⟩;exact⟨b,x,n,k _ _ n y⟩
variable{n:Nat}
def cp(h:n<=1000000):n<=sizeLine:=abb h (by decide)
theorem mX(x y:Str)(h:x.length<=900000):(Builtin.Str.partsBetween x (Builtin.Str.occurrences x y 0 x.length (x.length+1)) y.length).length<=sizeLine:=cp (by have:=zX x y;lia)
theorem iQ(x y:Str)(h:x.length<=900000):(Txt.split x y).length<=sizeLine:=cp (by have:=PyProof.Rows.split_le x y;lia)
variable{σ:St}
def AS{c:TT}{Q:Bool->Hp->Prop}(h:∀Q':Bool->Hp->Prop,Q' false H->c σ H Q')(q:Q false H):c σ H Q:=h Q q
theorem _root_.TM.g9.drop{α:Type}{R:α->V->Prop}:∀{as:List α}{vs:List V},g9 R as vs->∀n,g9 R (as.drop n) (vs.drop n)
 |_,_,.nil,n=>by rw[List.drop_nil,List.drop_nil];exact .nil
 |_,_,.cons x y,0=>.cons x y
 |_,_,.cons x y,n+1=>by rw[List.drop_succ_cons,List.drop_succ_cons];exact TM.g9.drop y n
theorem zu(X:Tx K w mg T):d9 P w K mg base (Hu P w) 7 T.qAE T.Pj ["rules"] (BB T.b7 T.b_):=by
 have Zg:=zB (P:=P) (w:=w) (base:=base) X;refine X.Su.KO CB (λvs H Q E h=>?_) (λj8 A outer s H vs Q E hr h=>?_)
 ·obtain⟨_,_,_,rfl,_⟩:=h;rfl
 obtain⟨l,us,rs,rfl,hl,A3,h3,ok,q,qe⟩:=h;refine⟨_,(ao (aH (bp bg rfl X.i' aaP (SM (ku (ts:=["pair", "written"]) (ys:=[]) (js:=[]) EZ rfl rfl rfl rfl rfl (cK (qv 0)) (λ_ _ _ _ _=>lR (K:=K) (n:=2) rfl rfl (aW (aM (i:=0) (show(["pair", "written"]:List Str).Nodup by decide) rfl oI1) (aW (aM (i:=1) (show(["pair", "written"]:List Str).Nodup by decide) rfl oI1) cg))) (λ_ _ _ _ _=>cJ) (λ_ _ _ _ _ b=>(bw (x_ (aU (sU (K:=K) rfl) (qv 0) aj (λ_ _=>rfl)) (x_ (aU (sU (K:=K) rfl) (qv 0) aj (λ_ _=>rfl)) (y8 (aB Zg hr rfl X.V_ X.Sk.kp X.YE .nil (jt b) (d5 (qv 1) ac)) ac)))))) ac)))),?_⟩;dsimp only[cq];have Ir:=A3.len;refine⟨_,rfl,l,rfl,⟨_,c_.of hl⟩,λD hD=>?_⟩;refine je (K:=K) (xs:=us) (bs:=rs) (F:=La) (R:=F_) (K1.ofT λ_ _ _ _ e r=>r.same e) (bX (by lia)) (by lia) (c_.of hl) hD (λi x r H' hx s_ gd sm Q' q'=>?_) (λys H1 gd s1 h1 Tv=>?_)
 ·obtain⟨r2,Rx,p,a,rfl,hp,ha⟩:=A3.get hx;rw[s_]at Rx;cases Rx;obtain⟨tr,pr⟩:=ok r (aak s_);obtain⟨qN,qG⟩:=qe i r s_ gd;have RC:=sm _ _ ha;refine⟨p,_,rfl,k_.of (sm _ _ hp),rfl,_,_,rfl,_,_,rfl,rfl,[some _,some _],rfl,rfl,?_⟩;refine⟨_,rfl,a,_,0,_,rfl,rfl,k_.of RC,rfl,_,rfl,a,_,1,_,rfl,rfl,k_.of RC,rfl,_,rfl,r.tx,rfl,tr,?_⟩;by_cases hT:GU r.tx
  ·obtain⟨t,et,wt⟩:=hT;refine .inl ⟨t,et,wt,pr t et wt,λh30 h6 v H2 s2 tm=>⟨Z3,λc hc=>?_⟩,λhg H2 s2=>qG ⟨t,et,wt,hg⟩ _ (sm.trans s2)⟩;have s3:=ae hc (.tup [.int r.k,.str r.nm,v]);obtain⟨t',e'⟩:=xo (y:=r.tx) ⟨et,wt,h30,h6⟩;obtain⟨e1,w1,_,_⟩:=dI e';have ett:t'=t:=iR w1 wt (e1.symm.trans et);subst ett;exact q' _ _ _ (xy e') (s2.trans s3) ⟨c,v,rfl,aa,j0.same (bG s3) _ tm⟩
  ·exact .inr ⟨Ed hT,λH2 s2=>qN hT _ (sm.trans s2)⟩
 ·refine⟨D,ys,rfl,.inl ⟨c_.of h1,λt ht=>?_⟩⟩;have s2:=ae ht (.tup ys);exact q gd _ _ (s1.trans s2) ⟨t,ys,rfl,aa,Tv.imp λ_ _=>F_.same (bG s2)⟩
def cO{r:Rh}(h:(46:Nat)∉z.cps.toList):sh (.val r.k r.nm)≠z:=λe=>by have L:=dH r.k r.nm;rw[e]at L;exact h (by rw[L];simp)
def mI:(n9 s).head?=some ("sign" : Str):=rfl
def tK{fs:List Fh}(h:l∈fs.flatMap A9):l.head?≠some ("sign" : Str):=λe=>by
 obtain⟨f,hf,hl⟩:=List.mem_flatMap.mp h;unfold A9 at hl;rcases List.mem_cons.mp hl with rfl|hl
 ·have:=aaq e;exact absurd this (by decide)
 ·obtain⟨r,hr,rfl⟩:=List.mem_map.mp hl;exact cO (by decide) (aaq e)
def tI{ss:List Sg}{fs:List Fh}(e:LL=ss.map n9++fs.flatMap A9)(h1:∀j,j<i->∃l,LL[j]?=some l/\l.head?=some ("sign" : Str))(h2:∀l,LL[i]?=some l->l.head?≠some ("sign" : Str)):ss.length=i:=by
 have a:∀j,j<ss.length->∃s,LL[j]?=some (n9 s):=λj hj=>by obtain⟨s,hs⟩:=aN hj;exact⟨s,by rw[e,aa4 (by rw[aad];exact hj),aaI,hs];rfl⟩
 have b:∀j l,ss.length<=j->LL[j]?=some l->l.head?≠some ("sign" : Str):=λj l hj hl=>by rw[e,aaz (by rw[aad];exact hj)]at hl;exact tK (aak hl)
 rcases Nat.lt_trichotomy ss.length i with h|h|h
 ·obtain⟨l,hl,hh⟩:=h1 _ h;exact absurd hh (b _ l (aam _) hl)
 ·exact h
 ·obtain⟨s,hs⟩:=a i h;exact absurd mI (h2 _ hs)
def AB(h:sY LL){r:List Str}(hl:("sign" : Str)::r∈LL):∃s,Ma s/\("sign" : Str)::r=n9 s:=by
 obtain⟨ss,fs,o1,o2,rfl⟩:=h;rcases List.mem_append.mp hl with hl|hl
 ·obtain⟨s,hs,e⟩:=List.mem_map.mp hl;exact⟨s,o1 s hs,e.symm⟩
 ·exact absurd rfl (tK hl)
theorem Bt{c:Nat}:∀{zs:List Str}{z:Str},z∈zs->z.length<=(tl c zs).length
 |x::zs,z,h=>by
  rw[fI,aaa,aac,<-aq];rcases List.mem_cons.mp h with rfl|h
  ·lia
  ·have:=Bt (c:=c) h
   lia
theorem zp(h:z∈zs):z.length<=(Txt.join ⟨#[c]⟩ zs).length:=by
 cases zs with
 |nil=>cases h
 |cons x zs=>
  rw[aq (Txt.join ⟨#[c]⟩ (x::zs)),jH,aaa,<-aq];rcases List.mem_cons.mp h with rfl|h
  ·lia
  ·have:=Bt (c:=c) h
   lia
theorem rX(X:Tx K w mg T):d9 P w K mg base (Hu P w) 8 T.qAA T.Po ["text"] (mE T.b7 T.b_):=by
 have Zf:=(zC (P:=P) (w:=w) (base:=base) X).mono (show 4<=7 by decide);have Zp:=(zE (P:=P) (w:=w) (base:=base) X).mono (show 4<=7 by decide);have Zo:=zu (P:=P) (w:=w) (base:=base) X;refine X.PN.KO JU (λvs H Q E h=>?_) (λj8 A outer s H vs Q E hr h=>?_)
 ·obtain⟨_,rfl,_⟩:=h;rfl
 obtain⟨LL,rfl,ok,q,qe⟩:=h;refine⟨_,(af (fL (ys:=[]) (js:=[]) rfl rfl (cK (cM abq abU adK nq (qv 0) (d_ ak ac))) (λ_ _ _ _ _=>cJ) (λ_ _ _ _ _=>(rN (K:=K) rfl abq abU adK nq (qv 0) (d_ ak ac))) (aM (i:=1) JU.nd rfl oI1) rfl) (af (aD (i:=2) JU.nd rfl oI1 (aR ac)) (af (gx ab9 (eN (iS (aC jv (aA b8 rfl X.ff aay (d5 (qv 2) ac)) (aA b8 rfl X.ff aay (d5 (qv 1) ac)) (aK _)) (fK (aC bM (aU aE (aU aE (qv 1) (aA b8 rfl X.ff aay (d5 (qv 2) ac)) (λ_ _=>rfl)) aj (λ_ _=>rfl)) ak (aK _))))) (ao (bo (cM aal aaC aaB bf (qv 2) (y8 (aB Zf hr rfl X.V9 X.Sj.kp X.YD .nil bW (x_ (aU aE (qv 1) (aA b8 rfl X.ff aay (d5 (qv 2) ac)) (λ_ _=>rfl)) ac)) ac))))) (af (aD (i:=3) JU.nd rfl oI1 (aB Zp hr rfl X.Wj X.Sv.kp X.YN .nil bW (x_ (bc bT (qv 1) (bi (aA b8 rfl X.ff aay (d5 (qv 2) ac))) bE) ac))) (ao (aH (bw (y8 (bp bg rfl X.i' aaP (d5 (qv 2) ac)) (y8 (bp bg rfl X.i' aaP (SM (ku (ts:=["head", "rules"]) (ys:=[]) (js:=[]) EZ rfl rfl rfl rfl rfl (cK (qv 3)) (λ_ _ _ _ _=>lR (K:=K) (n:=2) rfl rfl (aW (aM (i:=0) (show(["head", "rules"]:List Str).Nodup by decide) rfl oI1) (aW (aM (i:=1) (show(["head", "rules"]:List Str).Nodup by decide) rfl oI1) cg))) (λ_ _ _ _ _=>cJ) (λ_ _ _ _ _ b=>(ar zt (qv 0) (bw (y8 (aB Zo hr rfl X.Wi X.Su.kp X.YM .nil (jt b) (d5 (qv 1) ac)) ac))))) ac)) ac))))))))),?_⟩;dsimp only[cq];have l27:=ok.HQ;have Ti:=ok.len;have wdo:∀l∈LL,∀w∈l,Em w:=λl hl w hw=>⟨ok.wd l hl w hw,by have:=((ok.ws l hl).1.wd w hw).1;rw[<-aq];lia⟩
 have etx:Txt.split (GL LL) "\n" = LL.map ln:=uI ok.ne wdo;have lln:∀l∈LL,(ln l).length<=900000:=λl hl=>by
  have:=zp (c:=10) (List.mem_map.mpr ⟨l,hl,rfl⟩:ln l∈LL.map ln);rw[<-Ag]at this;unfold GL at Ti
  lia
 refine⟨_,rfl,rfl,_,_,rfl,rfl,(by decide),cp (by lia),iQ _ _ (by lia),mX _ _ (by lia),λl0 JB=>?_⟩;rw[etx];have s0:=ae JB (.lst ((LL.map ln).map V.str));refine⟨l0,rfl,⟨_,c_.of aa⟩,λD hD=>?_⟩;refine uf (K:=K) (xs:=(LL.map ln).map V.str) (as:=LL) (R:=λ(H:Hp)(ws:List Str)(v:V)=>∃b,v=.ref b/\b≠D/\H b=some (.lst (ws.map V.str))) B0.offD (bX (by rw[aad,aad];lia)) (by rw[aad,aad]) (c_.of aa) hD (λi x ws H' hx hw sm Nd Q' q'=>?_) (λys H1 s1 h1 Tv=>?_)
 ·rw[aaI,aaI,hw]at hx;have ex:x=V.str (ln ws):=(aaq hx).symm;have hm:=aak hw;have lw:=lln ws hm;rw[ex];refine⟨_,rfl,rfl,_,_,rfl,rfl,(by decide),cp (by lia),iQ _ _ (by lia),mX _ _ (by lia),λb hb=>?_⟩;rw[vX (ok.ws ws hm).2 (wdo ws hm)];refine q' _ _ (ae hb _) ⟨b,rfl,λz=>?_,aa⟩;obtain⟨acc,e⟩:=Nd;rw[z,e]at hb;cases hb
 have lys:=Tv.len;have TV:g9 (B0 H1) LL ys:=Tv.imp λws v ⟨b,e,_,h⟩=>⟨b,e,h⟩
 refine⟨Z0,λS hS=>?_⟩;have s2:=ae hS (.lst []);refine⟨λm σ H'=>∃i ss us,m=LL.length-i/\i<=LL.length/\σ=[some (.str (GL LL)),some (.ref D),some (.ref S),none]/\b6 H1 H'/\H' S=some (.lst us)/\qx ss/\ss.length=i/\LL.take i=ss.map n9/\g9 (E_ H') ss us,⟨_,0,[],[],rfl,aa8 _,rfl,s2,aa,(λ_ z=>nomatch z),rfl,rfl,.nil⟩,?_⟩;rintro m σ H' ⟨i,ss,us,rfl,hi,rfl,sm,Jl,Rf,Tn,ess,A3⟩;have Ir:us.length=i:=by rw[A3.len,Tn]
 have Nd:=sm _ _ h1;have Od:=TV.imp λ_ _=>B0.same sm;have ZG:=s0.trans (s1.trans sm);have gy:∀{l:List Str},LL[i]?=some l->∃b,ys[i]?=some (.ref b)/\H' b=some (.lst (l.map V.str)):=λ{l} hl=>by obtain⟨y,Oi⟩:=aN (xs:=ys) (i:=i) (by rw[lys];exact bN hl);obtain⟨ws,Ho,b,rfl,hb⟩:=Od.get Oi;rw[hl]at Ho;cases Ho;exact⟨b,Oi,hb⟩
 by_cases Z_:∃r,LL[i]?=some (("sign" : Str)::r)
 ·obtain⟨r,A6⟩:=Z_;have q_:=bN A6;have hm:=aak A6;obtain⟨b,Oi,hb⟩:=gy A6;refine⟨_,rfl,S,_,rfl,.inl (c_.of Jl),_,rfl,D,_,rfl,.inl (c_.of Nd),_,_,rfl,rfl,_,rfl,me (by lia) ?_⟩;refine⟨_,rfl,_,rfl,S,_,rfl,.inl (c_.of Jl),D,_,_,_,rfl,rfl,c_.of Nd,bY (by rw[Ir];exact Oi),b,_,0,_,rfl,rfl,c_.of hb,cz (j:=0) rfl rfl,rfl,_,rfl,me rfl ?_⟩;refine⟨_,λl_ __ h=>h,?_⟩;refine⟨_,rfl,.inl ⟨rfl,_,c_.of Jl⟩,_,rfl,_,rfl,S,_,rfl,.inl (c_.of Jl),D,_,_,_,rfl,rfl,c_.of Nd,bY (by rw[Ir];exact Oi),b,r,rfl,hb,(ok.ws _ hm).1,λsg Td esg v H2 UM hv=>?_,λPY H2 UM=>qe (λhG=>PY (AB hG hm)) _ (ZG.trans UM)⟩;refine⟨S,us,v,rfl,rfl,UM _ _ Jl,bX (by lia),?_⟩;have tt:=aQ (UM _ _ Jl) (ys:=us++[v]);refine⟨LL.length-(i+1),by lia,i+1,ss++[sg],us++[v],rfl,q_,rfl,aL hS (sm.trans UM),aa,?_,by rw[aaa,Tn];rfl,?_,(A3.imp λ_ _ h=>(h.same (bG UM)).same tt).snoc (hv.same tt)⟩
  ·intro x hx;rcases List.mem_append.mp hx with hx|hx
   ·exact Rf x hx
   ·rw[List.mem_singleton.mp hx];exact Td
  ·rw[bD A6,ess,aaZ,esg];rfl
 have h2:∀l,LL[i]?=some l->l.head?≠some ("sign" : Str):=λl hl e=>by
  cases l with
  |nil=>cases e
  |cons a r=>
   have ea:a = "sign":=aaq e;subst ea;exact Z_ ⟨r,hl⟩
 have h1':∀j,j<i->∃l,LL[j]?=some l/\l.head?=some ("sign" : Str):=λj hj=>by
  obtain⟨s,hs⟩:=aN (xs:=ss) (i:=j) (by lia);have e:(LL.take i)[j]?=some (n9 s):=by rw[ess,aaI,hs];rfl
  rw[ac1,aaX hj]at e;exact⟨_,e,mI⟩
 refine AS (λQ' q'=>?_) ?_
 ·refine⟨_,rfl,S,_,rfl,.inl (c_.of Jl),_,rfl,D,_,rfl,.inl (c_.of Nd),_,_,rfl,rfl,_,rfl,bI (λh=>?_) (λ_=>q')⟩;obtain⟨l,hl⟩:=aN (xs:=LL) (i:=i) (by lia);obtain⟨b,Oi,hb⟩:=gy hl;obtain⟨a,r,rfl⟩:=aaQ (ok.ws l (aak hl)).2;refine⟨_,rfl,_,rfl,S,_,rfl,.inl (c_.of Jl),D,_,_,_,rfl,rfl,c_.of Nd,bY (by rw[Ir];exact Oi),b,_,0,_,rfl,rfl,c_.of hb,cz (j:=0) rfl rfl,rfl,_,rfl,?_⟩;rw[aaH (λz=>h2 _ hl (by rw[V.str.inj z];rfl))];exact q'
 show _;refine fH ?_;refine⟨_,rfl,_,rfl,S,_,rfl,.inl (c_.of Jl),_,rfl,D,_,rfl,c_.of Nd,λsl QB=>?_⟩;rw[Ir,cU];have s3:=ae QB (.lst (ys.drop i));have hdl:g9 (B0 (upd H' sl (.lst (ys.drop i)))) (LL.drop i) (ys.drop i):=(Od.imp λ_ _=>B0.same s3).drop i;refine⟨sl,_,LL.drop i,rfl,aa,hdl,by rw[abe];lia,λws hw=>ok.ws ws (aa2 hw),λfs NZ efs F ws H4 s4 hF Ho=>?_,λPY H4 s4=>qe (λhG=>?_) _ (ZG.trans (s3.trans s4))⟩
 ·have _W:LL=ss.map n9++fs.flatMap A9:=by rw[<-ess,<-efs,acJ]
  obtain⟨qQ,qE⟩:=q ss fs Rf NZ _W;have U6:=s4 _ _ (s3 _ _ Jl);have M9:=A3.imp λ_ _ h=>(h.same (bG s3)).same (bG s4);have rtx:∀f∈fs,f.ru.length<=1000/\∀r∈f.ru,eI r.tx/\∀t,r.tx=sh t->Wf t->aX t<=100:=λf hf=>by
   have UY:∀r∈f.ru,u9 r∈LL:=λr hr=>by rw[_W];exact aaT _ (List.mem_flatMap.mpr ⟨f,hf,aah _ (List.mem_map.mpr ⟨r,hr,rfl⟩)⟩)
   refine⟨?_,λr hr=>⟨(ok.ws _ (UY r hr)).1.tx (by unfold u9;simp),λt e wt=>ok.p _ (UY r hr) r.tx (by unfold u9;simp) t e wt⟩⟩;have e1:f.ru.length<=(fs.flatMap A9).length:=by
    obtain⟨A,B,rfl⟩:=List.append_of_mem hf;rw[abm,aa6,aaa,aaa];unfold A9;rw[aac,aad]
    lia
   have e2:(fs.flatMap A9).length<=LL.length:=by rw[_W,aaa];lia
   lia
  have Wn:fs.length<=1000:=by
   have e1:∀gs:List Fh,gs.length<=(gs.flatMap A9).length:=λgs=>by
    induction gs with
    |nil=>exact aam _
    |cons g gs ih=>rw[aa6,aaa];unfold A9 at ih⊢;simp at ih⊢;lia
   have e2:(fs.flatMap A9).length<=LL.length:=by rw[_W,aaa];lia
   have:=e1 fs
   lia
  refine⟨_,rfl,S,us,rfl,.inl ⟨c_.of U6,λt ht=>?_⟩⟩;have s5:=ae ht (.tup us);have Ro:=Ho.len;refine⟨_,rfl,F,rfl,⟨_,c_.of (s5 _ _ hF)⟩,λD2 LU=>?_⟩;refine je (K:=K) (xs:=ws) (bs:=fs) (F:=Ox) (R:=G_) (K1.ofT λ_ _ _ _ e r=>r.same e) (bX (by lia)) (by lia) (c_.of (s5 _ _ hF)) LU (λj x f H5 hx hf gd ZC Q' q'=>?_) (λzs H6 gd s6 h6 Tu=>?_)
  ·obtain⟨f2,hf2,l2,p,hh,rs,rfl,hp,⟨QF,ha,rfl,hhp,hha⟩,Nu,G7⟩:=Ho.get hx;rw[hf]at hf2;cases hf2;obtain⟨r1k,rok⟩:=rtx f (aak hf);have NO:=s5.trans ZC;have Vv:=ZG.trans (s3.trans (s4.trans NO));refine⟨p,_,rfl,k_.of (NO _ _ hp),rfl,_,_,rfl,_,_,rfl,rfl,[some _,some _],rfl,rfl,?_⟩;refine⟨_,rfl,_,rfl,l2,rs,f.ru,rfl,NO _ _ Nu,G7.imp λ_ _=>J'.same (bG NO),r1k,rok,λgru v H7 s7 ⟨ra,rus,e,hra,hrus⟩=>⟨Z1,λt2 Qz=>?_⟩,λk r hr gk=>?_⟩
   ·subst e;have s8:=ae Qz (.tup [.ref ra]);have s58:=NO.trans (s7.trans s8);refine⟨QF,t2,_,_,rfl,rfl,s58 _ _ hhp,aa,Z4,λp3 H9 s9 h9=>?_⟩;exact q' _ _ _ (xW gru) (s7.trans (s8.trans s9)) ⟨p3,ha,ra,rus,rfl,h9,s9 _ _ (s58 _ _ hha),s9 _ _ (s8 _ _ hra),hrus.imp λ_ _=>F_.same (bG (s8.trans s9))⟩
   ·obtain⟨a1,a2⟩:=qE j f k r hf gd hr gk;exact⟨λhn H7 s7=>a1 hn _ (Vv.trans s7),λhg H7 s7=>a2 hg _ (Vv.trans s7)⟩
  ·refine⟨D2,zs,rfl,.inl ⟨c_.of h6,λt2 Qz=>⟨Z2,λp hp=>?_⟩⟩⟩;have s7':=ae Qz (.tup zs);have s8:=ae hp (.tup [.ref t,.ref t2]);have s68:=s6.trans (s7'.trans s8);exact qQ gd _ _ (ZG.trans (s3.trans (s4.trans (s5.trans s68)))) ⟨p,t,t2,us,zs,rfl,aa,s68 _ _ aa,M9.imp λ_ _ h=>(h.same (bG s5)).same (bG s68),s8 _ _ aa,Tu.imp λ_ _ h=>h.same (bG (s7'.trans s8))⟩
 ·obtain⟨ss',fs',o1,o2,e⟩:=hG;have el:=tI e h1' h2;refine PY ⟨fs',o2,?_⟩;rw[e,<-el,adq (by rw[aad])]
inductive Al(H:Hp):Nat->V->V->Prop
 |str {n:Nat} (z:Str):Al H n (.str z) (.str z)
 |int {n:Nat} (i:Int):Al H n (.int i) (.int i)
 |tup {n:Nat} {a b:Addr} {xs ys:List V}:H a=some (.tup xs)->H b=some (.tup ys)->ys.length=xs.length->xs.length<=1000->(∀(i:Nat)(x y:V),xs[i]?=some x->ys[i]?=some y->Al H n x y)->Al H (n+1) (.ref a) (.ref b)
theorem Al.same(s:b6 H H'){u:V}(h:Al H n v u):Al H' n v u:=by
 induction h with
 |str z=>exact .str z
 |int i=>exact .int i
 |tup ha hb e hl _ ih=>exact .tup (s _ _ ha) (s _ _ hb) e hl ih
theorem Al.mono{u:V}(h:Al H n v u):∀{m:Nat},n<=m->Al H m v u:=by
 induction h with
 |str z=>exactλ_=>.str z
 |int i=>exactλ_=>.int i
 |tup ha hb e hl _ ih=>
  intro m hm;obtain⟨k,rfl⟩:∃k,m=k+1:=⟨m-1,by lia⟩
  exact .tup ha hb e hl λi x y hx hy=>ih i x y hx hy (by lia)
variable{x1 x2:V}
def yd(ha:H a=some (.tup [x1]))(hb:H b=some (.tup [x2]))(h1:Al H n x1 x2):Al H (n+1) (.ref a) (.ref b):=
 .tup ha hb rfl (by show 1<=1000;decide) λi x y hx hy=>by
  match i with
  |0=>cases hx;cases hy;exact h1
  |i+1=>simp at hx
variable{y1 y2:V}
def oi(ha:H a=some (.tup [x1,y1]))(hb:H b=some (.tup [x2,y2]))(h1:Al H n x1 x2)(h2:Al H n y1 y2):Al H (n+1) (.ref a) (.ref b):=
 .tup ha hb rfl (by show 2<=1000;decide) λi x y hx hy=>by
  match i with
  |0=>cases hx;cases hy;exact h1
  |1=>cases hx;cases hy;exact h2
  |i+2=>simp at hx
def gK{z1 z2:V}(ha:H a=some (.tup [x1,y1,z1]))(hb:H b=some (.tup [x2,y2,z2]))(h1:Al H n x1 x2)(h2:Al H n y1 y2)(h3:Al H n z1 z2):Al H (n+1) (.ref a) (.ref b):=
 .tup ha hb rfl (by show 3<=1000;decide) λi x y hx hy=>by
  match i with
  |0=>cases hx;cases hy;exact h1
  |1=>cases hx;cases hy;exact h2
  |2=>cases hx;cases hy;exact h3
  |i+3=>simp at hx
mutual
theorem Gh{H:Hp}:∀(t:Tm){v u:V},j0 H t v->j0 H t u->Al H (2*depth t) v u
 |.num n,v,u,h,g=>by
  unfold j0 at h g;obtain⟨a,rfl,e⟩:=h;obtain⟨b,rfl,e'⟩:=g;rw[depth];exact oi e e' (.str _) (.int _)
 |.text z,v,u,h,g=>by
  unfold j0 at h g;obtain⟨a,rfl,e⟩:=h;obtain⟨b,rfl,e'⟩:=g;rw[depth];exact oi e e' (.str _) (.str _)
 |.row,v,u,h,g=>by
  unfold j0 at h g;obtain⟨a,rfl,e⟩:=h;obtain⟨b,rfl,e'⟩:=g;rw[depth];exact yd e e' (.str _)
 |.mark,v,u,h,g=>by
  unfold j0 at h g;obtain⟨a,rfl,e⟩:=h;obtain⟨b,rfl,e'⟩:=g;rw[depth];exact yd e e' (.str _)
 |.val k z,v,u,h,g=>by
  unfold j0 at h g;obtain⟨a,rfl,e⟩:=h;obtain⟨b,rfl,e'⟩:=g;rw[depth];exact gK e e' (.str _) (.int _) (.str _)
 |.call w ts,v,u,h,g=>by
  unfold j0 at h g;obtain⟨a,b,vs,rfl,e,eb,hv,hts⟩:=h;obtain⟨a',b',UJ,rfl,e',Ut,Ww,Wx⟩:=g;rw[depth];have q:2*(1+aZ ts)=(2*aZ ts+1)+1:=by lia
  rw[q];have l1:=hts.len;have l2:=Wx.len;exact gK e e' (.str _) (.str _) (.tup eb Ut (by lia) hv λi x y hx hy=>Eg ts hts Wx i hx hy)
theorem Eg{H:Hp}:∀(ts:List Tm){vs us:List V},j' H ts vs->j' H ts us->∀(i:Nat){x y:V},vs[i]?=some x->us[i]?=some y->Al H (2*aZ ts) x y
 |[],vs,us,h,g,i,x,y,hx,hy=>by unfold j' at h;subst h;simp at hx
 |t::ts,vs,us,h,g,i,x,y,hx,hy=>by
  unfold j' at h g;obtain⟨v,r,rfl,h1,h2⟩:=h;obtain⟨v',r',rfl,g1,g2⟩:=g;have e:2*aZ (t::ts)=max (2*depth t) (2*aZ ts):=by rw[aZ];lia
  rw[e];cases i with
  |zero=>
   simp at hx hy;subst hx hy;exact(Gh t h1 g1).mono (by lia)
  |succ i=>exact(Eg ts h2 g2 i (by simpa using hx) (by simpa using hy)).mono (by lia)
end
def BF(n:Nat):Sp:=λvs H Q _=>∃v1 v2,vs=[v1,v2]/\Al H n v1 v2/\∀H',b6 H H'->Q (.bl true) H'
def EG:Sp:=λvs H Q _=>∃i:Int,vs=[.int i]/\Q (.bl true) H
def BA:Sp:=λvs H Q _=>∃c k:Int,vs=[.int c,.int k]/\∀z H',g7 z->b6 H H'->Q (.str z) H'
def BU(K:W.Frag):Sp:=λvs H Q _=>∃(a:Addr)(ns:List Int),vs=[.ref a,.int 40]/\c_ K H a (ns.map V.int)/\ns.length<=63 /\
 ∀(D:Addr)(cs:List Int)(H':Hp),b6 H H'->H D=none->H' D=some (.lst (cs.map V.int))->cs.length=40->(∀c∈cs,0<=c/\c<1000000000000000000)->Q (.ref D) H'
theorem jN:∀(l:List (Array Nat))(acc:Array Nat),(l.foldl (·++·) acc).toList=acc.toList++(l.map Array.toList).flatten
 |[],acc=>by simp
 |a::l,acc=>by rw[acD,jN l];simp
def sG(g:Nat)(n:Int):∀c∈(Txt.mul ⟨#[g]⟩ n).cps.toList,c=g:=by
 intro c hc;unfold Txt.mul at hc;split at hc
 ·exact absurd hc (by simp[Str.empty])
 ·split at hc
  ·simpa using hc
  ·rw[show((⟨(List.replicate n.toNat (#[g]:Array Nat)).foldl (·++·) #[]⟩:Str)).cps.toList=_ from jN _ _]at hc;simp only[List.map_replicate,aaS,List.mem_flatten]at hc;obtain⟨l,hl,h⟩:=hc;have h1:0<n/\l=[g]:=by simpa using hl
   rw[h1.2]at h;simpa using h
abbrev t5:Str:="abcdefghijklmnopqrstuvwxyz"
variable{m:Int}
theorem qu(h0:0<=m)(h1:m<26):∃c,y6 t5.cps.toList m=some c/\c∈t5.cps.toList:=by
 obtain⟨k,rfl⟩:=aaG h0;have hl:t5.cps.toList.length=26:=by decide +kernel
 exact⟨_,bY (aa3 (by lia)),ade _⟩
def Du:∀c∈t5.cps.toList,ce c=true:=by decide +kernel
def nZ(c:Int):∃g,y6 t5.cps.toList (c%26)=some g/\ce g=true:=by obtain⟨g,h,m⟩:=qu (aar c (show(26:Int)≠0 by decide)) (aan c (show(0:Int)<26 by decide));exact⟨g,h,Du g m⟩
theorem nk(g:Nat){n:Int}(h0:0<=n):((Txt.mul ⟨#[g]⟩ n).length:Int)=n:=by
 have e:=PyProof.Rows.len_mul ⟨#[g]⟩ n;have e1:(Str.length ⟨#[g]⟩)=1:=rfl;rw[e1,aaK (by simpa using h0)]at e
 lia
def iL(h0:0<=m)(h1:m<zs.length):∃z,y6 (zs.map V.str) m=some (.str z)/\z∈zs:=by obtain⟨x,hx,hm⟩:=og (xs:=zs.map V.str) h0 (by rw[aad];exact h1);obtain⟨d,hd,rfl⟩:=List.mem_map.mp hm;exact⟨d,hx,hd⟩
def uU{rest:TS}{D:mC}(h:rest D (σ.set i (some v)) H):NH (Jg (tC v) (j4 i)) rest D σ H:=h
abbrev names12:List Str:=["mark", "text", "up", "sign", "down", "form", "num", "row", "add", "many", "show", "a"]
def pY:∀z∈names12,z.cps.toList≠[]/\z.cps.toList.length<=8/\∀c∈z.cps.toList,ce c=true:=by decide +kernel
def kE(X:Tx K w mg T):d9 P w K mg base E6 1 T.qBL T.ON ["_law_found"] EG:=by
 refine X.PJ.G9 Ci (λvs H Q E h=>?_) (λj8 A outer s H vs Q E hr h=>?_)
 ·obtain⟨_,rfl,_⟩:=h;rfl
 obtain⟨i,rfl,q⟩:=h;refine⟨_,(ao (aH (kx (aA bF rfl X.d8 aaM (d5 (qv 0) (d5 (cN rfl X.Kl acH rfl (v:=.ty "int")) ac))) (iU (xB (aA bF rfl X.d8 aaM (d5 (qv 0) (d5 (cN rfl X.Lg PyProof.Rows.boot_bool rfl (v:=.ty "bool")) ac)))))))),?_⟩;dsimp only[cq];exact⟨_,rfl,_, "int",_,_,rfl,.int i,Gz,_,rfl,fX ⟨_,rfl,_, "bool",_,_,rfl,.int i,GA,_,rfl,q⟩⟩
theorem zy(X:Tx K w mg T):∀n:Nat,d9 P w K mg base E6 (n+2) T.ZJ T.Mz ["_law_found", "_law_due"] (BF n):=by
 intro n;induction n with
 |zero=>
  have PC:=kE (P:=P) (w:=w) (base:=base) X;have I_:d9 P w K mg base E6 0 T.ZJ T.Mz ["_law_found", "_law_due"] (λ_ _ _ _=>False):=⟨λ_ _ _ _ h=>h.elim,λ_ _ _ _ _ _ _ _ _ _ _ _ _ h=>h.elim⟩
  have I_:=I_.mono (show 0<=1 by decide);refine X.K8.G9 HG (λvs H Q E h=>?_) (λj8 A outer s H vs Q E hr h=>?_)
  ·obtain⟨_,_,rfl,_⟩:=h;rfl
  obtain⟨v1,v2,rfl,al,q⟩:=h;refine⟨_,(af (be (cr (aA bF rfl X.d8 aaM (d5 (qv 1) (d5 (cN rfl X.GO abk rfl (v:=.ty "str")) ac)))) (ao (aH (kx (aA bF rfl X.d8 aaM (d5 (qv 0) (d5 (cN rfl X.GO abk rfl (v:=.ty "str")) ac))) (iU (cR bM (qv 0) (qv 1) (aK _)))))) aI) (af (be (cE (cr (aA bF rfl X.d8 aaM (d5 (qv 1) (d5 (cN rfl X.i' aaP rfl (v:=.ty "tuple")) ac))))) (ao (aH (kx (aB PC hr rfl X.Rj X.PJ.kp X.RM .nil bu (d5 (qv 0) ac)) (iU (cR bM (qv 0) (qv 1) (aK _)))))) aI) (af (be (eN (gU (cE (cr (aA bF rfl X.d8 aaM (d5 (qv 0) (d5 (cN rfl X.i' aaP rfl (v:=.ty "tuple")) ac))))) (fT (aC gY (aA (b8.or bC) rfl X.ff aay (d5 (qv 0) ac)) (aA (b8.or bC) rfl X.ff aay (d5 (qv 1) ac)) (aK _))))) dB aI) (af (cF abc rfl (rG rfl X.Me (d5 (qv 0) (d5 (qv 1) ac))) (du rfl (aW (aM (i:=2) HG.nd rfl oI1) (aW (aM (i:=3) HG.nd rfl oI1) cg))) (ao (be (cE (cr (aB I_ hr rfl X.Oa X.K8.kp X.Pu .nil bu (d5 (qv 2) (d5 (qv 3) ac))))) dB aI))) (ao (aH dZ)))))),?_⟩;dsimp only[cq];have qs:=q H (b6.refl H);cases al with
  |str z=>exact⟨_,rfl,_, "str",_,_,rfl,.str z,DA,_,rfl,fX ⟨_,rfl,_, "str",_,_,rfl,.str z,DA,_,rfl,fX ⟨_,rfl,_,rfl,rfl,by rw[aa0 rfl];exact qs⟩⟩⟩
  |int i=>exact⟨_,rfl,_, "str",_,_,rfl,.int i,DB,_,rfl,fH ⟨_,rfl,_, "tuple",_,_,rfl,.int i,FW,_,rfl,fX ⟨_,rfl,i,rfl,_,rfl,fX ⟨_,rfl,_,rfl,rfl,by rw[aa0 rfl];exact qs⟩⟩⟩⟩
 |succ n ih=>
  have PC:=(kE (P:=P) (w:=w) (base:=base) X).mono (show 1<=n+2 by lia);have I_:=ih;refine X.K8.G9 HG (λvs H Q E h=>?_) (λj8 A outer s H vs Q E hr h=>?_)
  ·obtain⟨_,_,rfl,_⟩:=h;rfl
  obtain⟨v1,v2,rfl,al,q⟩:=h;refine⟨_,(af (be (cr (aA bF rfl X.d8 aaM (d5 (qv 1) (d5 (cN rfl X.GO abk rfl (v:=.ty "str")) ac)))) (ao (aH (kx (aA bF rfl X.d8 aaM (d5 (qv 0) (d5 (cN rfl X.GO abk rfl (v:=.ty "str")) ac))) (iU (cR bM (qv 0) (qv 1) (aK _)))))) aI) (af (be (cE (cr (aA bF rfl X.d8 aaM (d5 (qv 1) (d5 (cN rfl X.i' aaP rfl (v:=.ty "tuple")) ac))))) (ao (aH (kx (aB PC hr rfl X.Rj X.PJ.kp X.RM .nil bu (d5 (qv 0) ac)) (iU (cR bM (qv 0) (qv 1) (aK _)))))) aI) (af (be (eN (gU (cE (cr (aA bF rfl X.d8 aaM (d5 (qv 0) (d5 (cN rfl X.i' aaP rfl (v:=.ty "tuple")) ac))))) (fT (aC gY (aA (b8.or bC) rfl X.ff aay (d5 (qv 0) ac)) (aA (b8.or bC) rfl X.ff aay (d5 (qv 1) ac)) (aK _))))) dB aI) (af (cF abc rfl (rG rfl X.Me (d5 (qv 0) (d5 (qv 1) ac))) (du rfl (aW (aM (i:=2) HG.nd rfl oI1) (aW (aM (i:=3) HG.nd rfl oI1) cg))) (ao (be (cE (cr (aB I_ hr rfl X.Oa X.K8.kp X.Pu .nil bu (d5 (qv 2) (d5 (qv 3) ac))))) dB aI))) (ao (aH dZ)))))),?_⟩;dsimp only[cq];have qs:=q H (b6.refl H);cases al with
  |str z=>exact⟨_,rfl,_, "str",_,_,rfl,.str z,DA,_,rfl,fX ⟨_,rfl,_, "str",_,_,rfl,.str z,DA,_,rfl,fX ⟨_,rfl,_,rfl,rfl,by rw[aa0 rfl];exact qs⟩⟩⟩
  |int i=>exact⟨_,rfl,_, "str",_,_,rfl,.int i,DB,_,rfl,fH ⟨_,rfl,_, "tuple",_,_,rfl,.int i,FW,_,rfl,fX ⟨_,rfl,i,rfl,_,rfl,fX ⟨_,rfl,_,rfl,rfl,by rw[aa0 rfl];exact qs⟩⟩⟩⟩
  |@tup _ a b xs ys ha hb e hl hi=>
   refine⟨_,rfl,_, "str",_,_,rfl,.tup hb,Gy,_,rfl,fH ⟨_,rfl,_, "tuple",_,_,rfl,.tup hb,FV,_,rfl,fH ⟨_,rfl,_, "tuple",_,_,rfl,.tup ha,FV,_,rfl,fH ?_⟩⟩⟩;refine⟨_,rfl,.inl ⟨a,xs,rfl,.inr (k_.of ha),_,rfl,.inl ⟨b,ys,rfl,.inr (k_.of hb),rfl,_,rfl,DE (by rw[e]) ?_⟩⟩⟩;refine⟨_,rfl,_,rfl,a,b,xs,ys,rfl,k_.of ha,k_.of hb,e,xV (λi σ H'=>(∃x2 x3,σ=[some (.ref a),some (.ref b),x2,x3])/\b6 H H') ⟨⟨none,none,rfl⟩,b6.refl _⟩ (λi σ H' _ ⟨_,sm⟩=>⟨k_.of (sm _ _ ha),k_.of (sm _ _ hb)⟩) ?_ ?_⟩
   ·rintro i T' UJ σ H' q_ ⟨x,y,hx,hy,rfl⟩ ⟨⟨x2,x3,rfl⟩,sm⟩ hT;have s1:=ae hT (.tup [x,y]);refine⟨T',_,rfl,k_.of aa,rfl,_,_,rfl,_,_,rfl,rfl,?_⟩;exact⟨_,rfl,_,rfl,x,y,rfl,((hi i x y hx hy).same sm).same s1,λH2 s2=>⟨_,rfl,fH ⟨⟨_,_,rfl⟩,(sm.trans s1).trans s2⟩⟩⟩
   ·rintro σ H' ⟨⟨x2,x3,rfl⟩,sm⟩;exact q H' sm
theorem jw(X:Tx K w mg T):d9 P w K mg base E6 1 T.qBQ T.OI ["_law_cell", "_law_k"] BA:=by
 refine X.JC.G9 HH (λvs H Q E h=>?_) (λj8 A outer s H vs Q E hr h=>?_)
 ·obtain⟨_,_,rfl,_⟩:=h;rfl
 obtain⟨c,k,rfl,q⟩:=h;refine⟨_,(af (aD (i:=2) HH.nd rfl oI1 ak) (af (be (eN (iS (aC bM (ar aV (qv 0) aj) aj (aK _)) (fK (aC jv (qv 1) aj (aK _))))) (af (aD (i:=3) HH.nd rfl oI1 (aR (d_ ak (d_ ak (d_ ak (d_ ak (d_ ak (d_ ak (d_ ak (d_ ak (d_ ak (d_ ak (d_ ak (d_ ak ac)))))))))))))) (ao (aH (aU aE (qv 3) (ar aV (ar bA (ar bh (qv 0) aj) (qv 1)) aj) (λ_ _=>rfl))))) aI) (af (aD (i:=4) HH.nd rfl oI1 (ar bA aj (ar aV (qv 0) aj))) (af (aD (i:=5) HH.nd rfl oI1 (ar aV (ar bh (qv 0) aj) (qv 4))) (af (aD (i:=6) HH.nd rfl oI1 (aU fq (qv 2) (ar aV (ar bh (qv 0) aj) aj) (λ_ _=>rfl))) (ao (aH (ar au (ar au (ar dM (qv 6) (qv 5)) (aU fq (qv 2) (ar aV (ar bA (ar bh (qv 0) aj) (qv 1)) aj) (λ_ _=>rfl))) (ar dM (qv 6) (ar kB (ar kB (qv 4) (qv 5)) aj)))))))))),?_⟩;refine uU ?_;refine dc (λH1=>H1=H) (λH1=>H1=H) (λQ' qT qF=>?_) (λH1 e=>?_) (λH1 e=>?_)
 ·refine⟨_,rfl,_,_,rfl,rfl,(by show(0:Int)<3;decide),rfl,_,rfl,bI (λ_=>⟨_,rfl,_,_,rfl,rfl,_,rfl,?_⟩) (λ_=>qF H rfl)⟩;by_cases h0:k<12
  ·rw[aa0 h0];exact qT H rfl
  ·rw[aaH h0];exact qF H rfl
 ·subst e;refine⟨Z12,λp hp=>?_⟩;have s1:=ae hp (.lst (names12.map V.str));obtain⟨z,hz,hm⟩:=iL (zs:=names12) (m:=(c / 3+k)%12) (aar _ (by decide)) (aan _ (by decide));exact⟨_,rfl,_,rfl,_,_,rfl,rfl,⟨by decide,by decide⟩,_,rfl,_,_,rfl,rfl,_,_,rfl,rfl,(by show(0:Int)<12;decide),p,_,_,_,rfl,rfl,c_.of aa,hz,q z _ (pY z hm) s1⟩
 subst e;have c0:=aar c (show(8:Int)≠0 by decide);have c1:=aan c (show(0:Int)<8 by decide);have LO:(0:Int)<1+c%8:=by lia
 have a0:=aar (c / 8) (show(1+c%8:Int)≠0 by lia);have a1:=aan (c / 8) LO;obtain⟨g,hg,lg⟩:=nZ (c / 64);obtain⟨g2,hg2,lg2⟩:=nZ (c / 1664+k);refine⟨_,rfl,_,_,rfl,rfl,(by show(0:Int)<8;decide),_,_,rfl,rfl,?_⟩;refine⟨_,rfl,_,_,rfl,rfl,⟨by decide,by decide⟩,_,rfl,_,_,rfl,rfl,LO,?_⟩;refine⟨_,rfl,_,rfl,_,_,rfl,rfl,⟨by decide,by decide⟩,_,_,rfl,rfl,(by show(0:Int)<26;decide),t5,_,g,rfl,rfl,(by decide +kernel),hg,?_⟩;have l1:=nk g (n:=c / 8%(1+c%8)) (by lia);have l2:=nk g (n:=1+c%8-c / 8%(1+c%8)-1) (by lia);have e1:(Str.length ⟨#[g]⟩)=1:=rfl;have e2:(Str.length ⟨#[g2]⟩)=1:=rfl;refine⟨_,rfl,_,rfl,_,_,rfl,rfl,(by rw[e1];decide),by lia,by lia,_,rfl,_,rfl,_,_,rfl,rfl,⟨by decide,by decide⟩,_,rfl,_,_,rfl,rfl,_,_,rfl,rfl,(by show(0:Int)<26;decide),t5,_,g2,rfl,rfl,(by decide +kernel),hg2,_,_,rfl,rfl,aO (by lia),?_⟩;refine⟨_,rfl,_,rfl,_,rfl,_,_,rfl,rfl,_,_,rfl,rfl,_,_,rfl,rfl,(by rw[e1];decide),by lia,by lia,_,_,rfl,rfl,aO (by rw[ay];lia),q _ _ ⟨?_,?_,?_⟩ (b6.refl _)⟩
 ·rw[ap,ap];simp
 ·rw[<-aq,ay,ay]
  lia
 ·intro x hx;rw[ap,ap]at hx;simp only[aat]at hx;rcases hx with(h|h)|h
  ·rw[sG g _ x h];exact lg
  ·have:x=g2:=by simpa using h
   rw[this];exact lg2
  ·rw[sG g _ x h];exact lg
theorem zL(X:Tx K w mg T):d9 P w K mg base E6 1 T.qBT T.OG ["_law_script", "_law_many"] (BU K):=by
 refine X.RY.G9 HF (λvs H Q E h=>?_) (λj8 A outer s H vs Q E hr h=>?_)
 ·obtain⟨_,_,rfl,_⟩:=h;rfl
 obtain⟨a,ns,rfl,hS,h63,q⟩:=h;refine⟨_,(af (fL (ys:=[]) (js:=[]) rfl rfl (cK (bc bT (qv 0) bE (bi (qv 1)))) (λ_ _ _ _ _=>cJ) (λ_ _ _ _ _=>(ar aV (qv 0) (ar xG aj aj))) (aM (i:=2) HF.nd rfl oI1) rfl) (af (aD (i:=3) HF.nd rfl oI1 (ar bA aj (aA b8 rfl X.ff aay (d5 (qv 2) ac)))) (af (cF abc rfl (cK (qv 2)) (aM (i:=4) HF.nd rfl oI1) (ao (aD (i:=3) HF.nd rfl oI1 (ar aV (ar bA (ar eS (qv 3) aj) (qv 4)) aj)))) (af (gx abc (aC jv (aA b8 rfl X.ff aay (d5 (qv 2) ac)) (qv 1) (aK _)) (af (aD (i:=3) HF.nd rfl oI1 (ar aV (ar bA (ar eS (qv 3) aj) aj) aj)) (ao (bo (cM aal aaC aaB bf (qv 2) (d5 (qv 3) ac)))))) (ao (aH (pT rfl rfl X.Lf rfl X.B7 (qv 2)))))))),?_⟩;dsimp only[cq];refine⟨_,rfl,_,rfl,_,rfl,a,_,rfl,hS,λsl QB=>?_⟩;have ecs:kZ (ns.map V.int) none (some 40)=(ns.take 40).map V.int:=by rw[show(some 40:Option Int)=some ((40:Nat):Int)from rfl,cT,ab7]
 rw[ecs];generalize Ke:ns.take 40=ms;have lms:ms.length<=40:=by rw[<-Ke,aaD];lia
 clear Ke;have s0:=ae QB (.lst (ms.map V.int));refine⟨sl,rfl,⟨_,c_.of aa⟩,λD hD=>?_⟩;refine lh (K:=K) (ys:=(ms.map λn=>n%10 ^ Int.toNat 18).map V.int) (bX (by rw[aad];lia)) (by simp) (c_.of aa) hD (λi x y H2 hx hy s2 Q' k=>?_) λH1 s1 RF=>?_
 ·rw[aaI]at hx;rw[aaI,aaI]at hy;cases e:ms[i]? with
  |none=>rw[e]at hx;cases hx
  |some n=>
   rw[e]at hx hy;cases hx;cases hy;exact⟨_,rfl,_,_,rfl,rfl,⟨by decide,by decide,by decide⟩,_,_,rfl,rfl,(by show(0:Int)<10 ^ Int.toNat 18;decide),k H2 (b6.refl H2)⟩
 have hD0:H D=none:=(ik hD).2;have hcs:∀c∈(ms.map λn=>n%10 ^ Int.toNat 18),0<=c/\c<1000000000000000000:=λc hc=>by obtain⟨n,_,rfl⟩:=List.mem_map.mp hc;exact⟨aar _ (by decide),aan _ (by decide)⟩
 have lcs:(ms.map λn=>n%10 ^ Int.toNat 18).length<=40:=by rw[aad];exact lms
 generalize (ms.map λn=>n%10 ^ Int.toNat 18)=cs at RF hcs lcs;refine⟨_,rfl,D,_,rfl,.inl (c_.of RF),_,_,rfl,rfl,?_⟩;refine⟨_,rfl,D,rfl,⟨_,c_.of RF⟩,?_⟩;refine dQ (K:=K) (a:=D) (xs:=cs.map V.int) (λi σ H'=>(∃sd x4,σ=[some (.ref a),some (.int 40),some (.ref D),some (.int sd),x4])/\H'=H1) ⟨⟨_,_,rfl⟩,rfl⟩ (λi σ H' _ ⟨_,e⟩=>by rw[e];exact c_.of RF) ?_ ?_
 ·rintro i y σ H' hy ⟨⟨sd,x4,rfl⟩,rfl⟩;rw[aaI]at hy;cases e:cs[i]? with
  |none=>rw[e]at hy;cases hy
  |some n=>
   rw[e]at hy;cases hy;exact⟨_,rfl,_,_,rfl,rfl,.inr ⟨by decide,by decide⟩,_,rfl,_,_,rfl,rfl,_,_,rfl,rfl,(by show(0:Int)<999999937;decide),⟨_,_,rfl⟩,rfl⟩
 ·rintro σ H' ⟨⟨sd,x4,rfl⟩,rfl⟩;refine⟨λm σ H'=>∃(sd:Int)(x4:Option V)(cs:List Int),m=40-cs.length/\σ=[some (.ref a),some (.int 40),some (.ref D),some (.int sd),x4]/\b6 H H'/\H' D=some (.lst (cs.map V.int))/\cs.length<=40/\∀c∈cs,0<=c/\c<1000000000000000000,⟨_,sd,x4,cs,rfl,rfl,s0.trans s1,RF,lcs,hcs⟩,?_⟩;rintro m σ H2 ⟨sd,x4,cs,rfl,rfl,sm,hd,lc,hc⟩;refine⟨_,rfl,D,_,rfl,.inl (c_.of hd),_,rfl,_,_,rfl,rfl,_,rfl,bI (λq_=>⟨_,λl_ __ h=>h,?_⟩) (λWU=>?_)⟩
  ·rw[aad]at q_;refine⟨_,rfl,_,_,rfl,rfl,.inr ⟨by decide,by decide⟩,_,_,rfl,rfl,_,_,rfl,rfl,(by show(0:Int)<2147483647;decide),?_⟩;have b0:=aar (sd*48271+11) (show(2147483647:Int)≠0 by decide);have b1:=aan (sd*48271+11) (show(0:Int)<2147483647 by decide);refine⟨_,rfl,.inl ⟨rfl,_,c_.of hd⟩,_,rfl,D,_,_,rfl,rfl,hd,bX (by rw[aad];lia),?_⟩;refine⟨40-(cs++[(sd*48271+11)%2147483647]).length,by rw[aaa,aaO];lia,_,_,cs++[(sd*48271+11)%2147483647],rfl,rfl,aL hD0 sm,by rw[aa,aaZ];rfl,by rw[aaa,aaO];lia,λc hm=>?_⟩;rcases List.mem_append.mp hm with h|h
   ·exact hc c h
   ·rw[List.mem_singleton.mp h];exact⟨b0,by lia⟩
  ·rw[aad]at WU;refine⟨_,rfl,D,_,rfl,c_.of hd,λr hr=>?_⟩;refine q r cs.reverse _ (sm.trans (ae hr _)) (sm.free hr) (by rw[aa,List.map_reverse]) (by rw[abN];lia) λc hm=>hc c (List.mem_reverse.mp hm)
def MH(H:Hp)(ps:List (Str×Str))(v:V):Prop:=∃a us,v=.ref a/\H a=some (.tup us)/\g9 (w_ H) ps us
theorem MH.same{H H':Hp}(e:n6 H H'){ps:List (Str×Str)}{v:V}(h:MH H ps v):MH H' ps v:=by obtain⟨a,us,x,y,z⟩:=h;exact⟨a,us,x,e _ _ y,z.imp λ_ _=>w_.same e⟩
def yF:Sp:=λvs H Q _=>∃c k m:Int,vs=[.int c,.int k,.int m]/\0<=m/\m<=3/\∀(ps:List (Str×Str))(v:V)(H':Hp),b6 H H'->MH H' ps v->ps.length<=3->(∀p∈ps,gb p)->Q v H'
theorem at3{x y z:V}(h0:0<=m)(h3:m<3):(m=0/\y6 [x,y,z] m=some x)\/(m=1/\y6 [x,y,z] m=some y)\/(m=2/\y6 [x,y,z] m=some z):=by
 have:m=0\/m=1\/m=2:=by lia
 rcases this with rfl|rfl|rfl
 ·exact .inl ⟨rfl,rfl⟩
 ·exact .inr (.inl ⟨rfl,rfl⟩)
 ·exact .inr (.inr ⟨rfl,rfl⟩)
theorem vz(X:Tx K w mg T):d9 P w K mg base E6 3 T.qBH T.OP ["_law_cell", "_law_word_here", "_law_many"] yF:=by
 have Ie:=(jw (P:=P) (w:=w) (base:=base) X).mono (show 1<=2 by decide);refine X.PK.G9 JP (λvs H Q E h=>?_) (λj8 A outer s H vs Q E hr h=>?_)
 ·obtain⟨_,_,_,rfl,_⟩:=h;rfl
 obtain⟨c,k,m,rfl,m0,m3,q⟩:=h;refine⟨_,(af (aD (i:=3) JP.nd rfl oI1 (aR ac)) (af (cF abc rfl (bV rfl X.n_ (d5 (qv 2) ac)) (aM (i:=4) JP.nd rfl oI1) (af (aD (i:=5) JP.nd rfl oI1 (ar aV (ar eS (qv 0) (aU aE (aR (d_ aj (d_ aj (d_ aj ac)))) (qv 4) (λ_ _=>rfl))) aj)) (ao (bo (cM aal aaC aaB bf (qv 3) (Ml (bw (y8 (aB Ie hr rfl X.KP X.JC.kp X.KY .nil bu (d5 (qv 1) (o7 (ar aV (qv 5) aj) ac))) (x_ (aU aE (aR (d_ ak (d_ ak (d_ ak ac)))) (ar aV (ar bh (qv 5) aj) aj) (λ_ _=>rfl)) ac))) ac)))))) (ao (aH (bp bg rfl X.i' aaP (d5 (qv 3) ac)))))),?_⟩;dsimp only[cq];refine⟨Z0,λD hD=>?_⟩;refine⟨_,rfl,_,rfl,by lia,by lia,?_⟩;refine df (λi σ H'=>(∃x4 x5,σ=[some (.int c),some (.int k),some (.int m),some (.ref D),x4,x5])/\b6 H H'/\∃ps us,H' D=some (.lst us)/\g9 (w_ H') ps us/\ps.length=i/\∀p∈ps,gb p)
  ⟨⟨none,none,rfl⟩,ae hD _,[],[],aa,.nil,rfl,λ_ z=>nomatch z⟩ ?_ ?_
 ·rintro i σ H' hi ⟨⟨x4,x5,rfl⟩,sm,ps,us,hd,Om,hl,ok⟩;have Ir:=Om.len;refine⟨_,rfl,Z3,λp1 h1=>?_⟩;have s1:=ae h1 (.lst [.int 48271,.int 69621,.int 39373]);have hj:∃j:Int,y6 [V.int 48271,V.int 69621,V.int 39373] (0+(i:Int))=some (.int j)/\-(2 ^ 64)<j/\j<2 ^ 64:=by
   rcases at3 (x:=V.int 48271) (y:=V.int 69621) (z:=V.int 39373) (m:=0+(i:Int)) (by lia) (by lia)with⟨_,e⟩|⟨_,e⟩|⟨_,e⟩
   ·exact⟨_,e,by decide,by decide⟩
   ·exact⟨_,e,by decide,by decide⟩
   ·exact⟨_,e,by decide,by decide⟩
  obtain⟨j,ej,j1,j2⟩:=hj;refine⟨_,rfl,p1,_,_,_,rfl,rfl,c_.of aa,ej,_,_,rfl,rfl,.inr ⟨j1,j2⟩,_,_,rfl,rfl,(by show(0:Int)<2147483647;decide),?_⟩;have PZ:=s1 _ _ hd;refine⟨_,rfl,.inl ⟨rfl,_,c_.of PZ⟩,_,rfl,_,rfl,_,_,rfl,rfl,(by show(0:Int)<5;decide),_,_,rfl,λz H2 nz s2=>⟨Z3,λp3 h3=>?_⟩⟩;have s3:=ae h3 (.lst [.str "num",.str "text",.str "row"]);obtain⟨kd,hk,hkm⟩:=iL (zs:=cV) (m:=c*j%2147483647 / 11%3) (aar _ (by decide)) (aan _ (by decide));refine⟨_,rfl,_,_,rfl,rfl,⟨by decide,by decide⟩,_,_,rfl,rfl,(by show(0:Int)<3;decide),p3,_,_,_,rfl,rfl,c_.of aa,hk,Z2,λt ht=>?_⟩;have s4:=ae ht (.tup [.str z,.str kd]);have PU:=s1.trans (s2.trans (s3.trans s4));have Kg:=PU _ _ hd;have ZX:=aa (H:=upd H2 p3 (.lst [.str "num",.str "text",.str "row"])) (a:=t) (o:=.tup [.str z,.str kd]);refine⟨D,us,_,rfl,rfl,Kg,bX (by lia),?_⟩;have tt:=(bG PU).trans (aQ Kg (ys:=us++[.ref t]));refine⟨⟨_,_,rfl⟩,aL hD (sm.trans PU),ps++[(z,kd)],us++[.ref t],aa,(Om.imp λ_ _=>w_.same tt).snoc ⟨t,rfl,aQ Kg _ _ ZX⟩,by rw[aaa,hl];rfl,λp hp=>?_⟩;rcases List.mem_append.mp hp with h|h
  ·exact ok p h
  ·rw[List.mem_singleton.mp h];exact⟨nz,hkm⟩
 ·rintro σ H' ⟨⟨x4,x5,rfl⟩,sm,ps,us,hd,Om,hl,ok⟩;refine⟨_,rfl,D,us,rfl,.inl ⟨c_.of hd,λt ht=>?_⟩⟩;have s1:=ae ht (.tup us);exact q ps _ _ (sm.trans s1) ⟨t,us,rfl,aa,Om.imp λ_ _=>w_.same (bG s1)⟩ (by lia) ok
def BE:Sp:=λvs H Q _=>∃c k:Int,vs=[.int c,.int k]/\∀(s:Sg)(t l:Addr)(v:V)(H':Hp),uu s->b6 H H'->E_ H' s v->H' t=some (.tup [v,.ref l])->H' l=some (.lst ((n9 s).map V.str))->Q (.ref t) H'
def mQ{p:Str×Str}(h:gb p):p.1.length<=8/\p.2.length<=4:=by refine⟨by rw[aq];exact h.1.2.1,?_⟩;have h2:=h.2;simp only[cV,aaf,aaj,aaJ]at h2;rcases h2 with e|e|e<;>rw[e]<;>decide
theorem zx(X:Tx K w mg T):d9 P w K mg base E6 4 T.qBS T.OH ["_law_cell", "_law_word_here"] BE:=by
 have RV:=vz (P:=P) (w:=w) (base:=base) X;have Ie:=(jw (P:=P) (w:=w) (base:=base) X).mono (show 1<=3 by decide);refine X.RZ.G9 y7 (λvs H Q E h=>?_) (λj8 A outer s H vs Q E hr h=>?_)
 ·obtain⟨_,_,rfl,_⟩:=h;rfl
 obtain⟨c,k,rfl,q⟩:=h;refine⟨_,(af (aD (i:=2) y7.nd rfl oI1 (aB RV hr rfl X.Rk X.PK.kp X.RN .nil bu (o7 (ar bh (qv 0) aj) (d5 (qv 1) (o7 (ar aV (qv 0) aj) ac))))) (af (aD (i:=3) y7.nd rfl oI1 (aB RV hr rfl X.Rk X.PK.kp X.RN .nil bu (o7 (ar bA (ar bh (qv 0) aj) aj) (d5 (qv 1) (o7 (ar aV (ar bh (qv 0) aj) aj) ac))))) (af (aD (i:=4) y7.nd rfl oI1 (aB Ie hr rfl X.KP X.JC.kp X.KY .nil bu (d5 (qv 1) (o7 (ar aV (ar bh (qv 0) aj) aj) ac)))) (af (aD (i:=5) y7.nd rfl oI1 (aR (d_ ak (d5 (qv 4) ac)))) (af (cF abc rfl (xA (qv 2)) (du rfl (aW (aM (i:=6) y7.nd rfl oI1) (aW (aM (i:=7) y7.nd rfl oI1) cg))) (ao (aD (i:=5) y7.nd rfl oI1 (ar cu (qv 5) (aR (d_ ak (o7 (ar au (ar au (qv 6) ak) (qv 7)) ac))))))) (af (cF abc rfl (xA (qv 3)) (du rfl (aW (aM (i:=6) y7.nd rfl oI1) (aW (aM (i:=7) y7.nd rfl oI1) cg))) (ao (aD (i:=5) y7.nd rfl oI1 (ar cu (qv 5) (aR (d_ ak (o7 (ar au (ar au (qv 6) ak) (qv 7)) ac))))))) (ao (aH (bw (Ml (bw (d5 (qv 4) (d5 (qv 2) (d5 (qv 3) ac)))) (d5 (qv 5) ac))))))))))),?_⟩;dsimp only[cq];refine⟨_,rfl,_,_,rfl,rfl,⟨by decide,by decide⟩,_,rfl,_,rfl,_,_,rfl,rfl,(by show(0:Int)<4;decide),_,_,_,rfl,aar _ (by decide),(by have:=aan c (show(0:Int)<4 by decide);lia),λds vd H1 s1 hds ld okd=>?_⟩;refine⟨_,rfl,_,_,rfl,rfl,⟨by decide,by decide⟩,_,_,rfl,rfl,_,rfl,_,rfl,_,_,rfl,rfl,⟨by decide,by decide⟩,_,_,rfl,rfl,(by show(0:Int)<4;decide),_,_,_,rfl,aar _ (by decide),(by have:=aan (c / 4) (show(0:Int)<4 by decide);lia),λus vu H2 s2 A3 lu oku=>?_⟩;refine⟨_,rfl,_,rfl,_,_,rfl,rfl,⟨by decide,by decide⟩,_,_,rfl,rfl,(by show(0:Int)<9;decide),_,_,rfl,λnm H3 nn s3=>?_⟩;refine⟨_,rfl,Z2,λw0 hw0=>?_⟩;have s4:=ae hw0 (.lst [.str "sign",.str nm]);have hw4:=aa (H:=H3) (a:=w0) (o:=.lst [.str "sign",.str nm]);have PU:=s2.trans (s3.trans s4);have W0:=hds.same (bG PU);have M9:=A3.same (bG (s3.trans s4));generalize upd H3 w0 (.lst [.str "sign",.str nm])=H4 at s4 hw4 PU W0 M9⊢;obtain⟨a,xs,rfl,ha,hxs⟩:=W0;obtain⟨b,zs,rfl,hb,Tu⟩:=M9;have lxs:=hxs.len;have lzs:=Tu.len;have hc:(Str.ofString ":").length=1:=by decide
 refine⟨_,rfl,a,rfl,⟨_,k_.of ha⟩,tM (K:=K) (a:=a) (xs:=xs) (λi σ H'=>∃(l:Addr)(x6 x7:Option V),σ=[some (.int c),some (.int k),some (.ref a),some (.ref b),some (.str nm),some (.ref l),x6,x7]/\b6 H4 H'/\H' l=some (.lst ((("sign" : Str)::nm::(ds.take i).flatMap (GN "down")).map V.str)))
  ⟨w0,none,none,rfl,b6.refl _,hw4⟩ (λi σ H' _ ⟨_,_,_,_,sm,_⟩=>k_.of (sm _ _ ha)) ?_ ?_⟩
 ·rintro i x σ H' hx ⟨l,x6,x7,rfl,sm,hl⟩;obtain⟨p,hp,t,rfl,ht⟩:=hxs.get hx;obtain⟨l1,l2⟩:=mQ (okd p (aak hp));refine⟨t,_,rfl,k_.of (sm _ _ ht),rfl,_,_,rfl,_,_,rfl,rfl,?_⟩;refine⟨_,rfl,_,rfl,_,_,rfl,rfl,aO (by lia),_,rfl,_,_,rfl,rfl,aO (by rw[ay];lia),Z2,λy hy=>?_⟩;have s5:=ae hy (.lst [.str "down",.str (p.1++":"++p.2)]);refine⟨l,y,_,_,rfl,rfl,s5 _ _ hl,aa,bX (by have:=dE "down" (ds.take i);have:=ace i ds;simp at *;lia),λz hz=>?_⟩;have s6:=ae hz (.lst (((("sign" : Str)::nm::(ds.take i).flatMap (GN "down")).map V.str)++[.str "down",.str (p.1++":"++p.2)]));refine⟨z,_,_,rfl,sm.trans (s5.trans s6),?_⟩;rw[aa,bD hp,abm];simp[GN]
 rintro σ H5 ⟨l,x6,x7,rfl,s5,hl⟩;rw[aaF (by lia)]at hl;have hb5:=s5 _ _ hb;refine⟨_,rfl,b,rfl,⟨_,k_.of hb5⟩,tM (K:=K) (a:=b) (xs:=zs) (λi σ H'=>∃(l:Addr)(x6 x7:Option V),σ=[some (.int c),some (.int k),some (.ref a),some (.ref b),some (.str nm),some (.ref l),x6,x7]/\b6 H5 H'/\H' l=some (.lst ((("sign" : Str)::nm::(ds.flatMap (GN "down")++(us.take i).flatMap (GN "up"))).map V.str)))
  ⟨l,x6,x7,rfl,b6.refl _,by simpa using hl⟩ (λi σ H' _ ⟨_,_,_,_,sm,_⟩=>k_.of (sm _ _ hb5)) ?_ ?_⟩
 ·rintro i x σ H' hx ⟨l,x6,x7,rfl,sm,hl⟩;obtain⟨p,hp,t,rfl,ht⟩:=Tu.get hx;obtain⟨l1,l2⟩:=mQ (oku p (aak hp));refine⟨t,_,rfl,k_.of (sm _ _ (s5 _ _ ht)),rfl,_,_,rfl,_,_,rfl,rfl,?_⟩;refine⟨_,rfl,_,rfl,_,_,rfl,rfl,aO (by lia),_,rfl,_,_,rfl,rfl,aO (by rw[ay];lia),Z2,λy hy=>?_⟩;have s6:=ae hy (.lst [.str "up",.str (p.1++":"++p.2)]);refine⟨l,y,_,_,rfl,rfl,s6 _ _ hl,aa,bX (by have:=dE "down" ds;have:=dE "up" (us.take i);have:=ace i us;simp at *;lia),λz hz=>?_⟩;have s7:=ae hz (.lst (((("sign" : Str)::nm::(ds.flatMap (GN "down")++(us.take i).flatMap (GN "up"))).map V.str)++[.str "up",.str (p.1++":"++p.2)]));refine⟨z,_,_,rfl,sm.trans (s6.trans s7),?_⟩;rw[aa,bD hp,abm];simp[GN]
 rintro σ H6 ⟨l,x6,x7,rfl,s6,hl⟩;rw[aaF (by lia)]at hl;refine⟨_,rfl,_,rfl,_,rfl,Z3,λt ht=>?_⟩;have s7:=ae ht (.tup [.str nm,.ref a,.ref b]);refine⟨_,rfl,Z2,λr s_=>?_⟩;have s8:=ae s_ (.tup [.ref t,.ref l]);have Rb:=s5.trans (s6.trans (s7.trans s8));exact q ⟨nm,ds,us⟩ r l (.ref t) _ ⟨nn,ld,lu,okd,oku⟩ (s1.trans (PU.trans Rb)) ⟨t,a,b,xs,zs,rfl,s8 _ _ aa,Rb _ _ ha,hxs.imp λ_ _ h=>w_.same (bG Rb) h,Rb _ _ hb,Tu.imp λ_ _ h=>w_.same (bG Rb) h⟩ aa (s8 _ _ (s7 _ _ hl))
end Je
namespace L2
open PySem PySem.Spec PyProof.Rows
def bU{a b:TS}{D:mC}{σ:St}{H:Hp}(h:∀N:St->Hp->Prop,(∀l_ H',b D l_ H'->N l_ H')->a { D with nx:=N } σ H):NH a b D σ H:=h _ λ_ _ x=>x
end L2
namespace Je
open PySem L2 NS TR
open TM hiding j_ Ms Run Step o6 t7
structure J_(t:Tm)(n:Nat):Prop where
 wf:Wf t
 p:aX t<=1+2*(n:Int)
 d:depth t<=1+n
 l:(sh t).length<=10+30*n
def yD:Sp:=λvs H Q _=>∃c k:Int,vs=[.int c,.int k]/\0<=c/\c<1000000000000000000/\∀(t:Tm)(r:Addr)(v:V)(H':Hp),J_ t 4->b6 H H'->j0 H' t v->H' r=some (.tup [v,.str (sh t)])->Q (.ref r) H'
def dR:∀d∈i6,d.length<=4:=by decide +kernel
def sx{n:Int}(h0:0<=n)(h1:n<1000000000000000000):(sh (.num n)).length<=18:=by have:=(di h0 h1).2;unfold sh;rw[aq];exact this
structure TmL(u:Tm):Prop where
 wf:Wf u
 p:aX u<=1
 d:depth u<=1
 l:(sh u).length<=18
variable{t:Tm}{n:Nat}{d:Str}
theorem nY(hd:d∈i6)(h:J_ t n):J_ (.call d [t]) (n+1):=by
 have dl:=dR d hd;have:=h.p;have:=h.d;have:=h.l
 refine⟨?_,?_,?_,?_⟩
 ·unfold Wf;exact⟨hd,by simp,by simp,by unfold r_ r_;exact⟨h.wf,trivial⟩⟩
 ·simp only[aX,bj];lia
 ·simp only[depth,aZ];lia
 ·rw[aq,ba];unfold aT;rw[aaa,aac,aaa,<-aq,<-aq];simp
  lia
theorem nX{u:Tm}(hd:d∈i6)(h:J_ t n)(hu:TmL u):J_ (.call d [t,u]) (n+1)/\J_ (.call d [u,t]) (n+1):=by
 have dl:=dR d hd;have:=h.p;have:=h.d;have:=h.l;have:=hu.p;have:=hu.d;have:=hu.l
 refine⟨⟨?_,?_,?_,?_⟩,⟨?_,?_,?_,?_⟩⟩
 ·unfold Wf;exact⟨hd,by simp,by simp,by unfold r_ r_ r_;exact⟨h.wf,hu.wf,trivial⟩⟩
 ·simp only[aX,bj];lia
 ·simp only[depth,aZ];lia
 ·rw[aq,ba];unfold aT aT;rw[aaa,aac,aaa,aaa,aac,<-aq,<-aq,<-aq];simp
  lia
 ·unfold Wf;exact⟨hd,by simp,by simp,by unfold r_ r_ r_;exact⟨hu.wf,h.wf,trivial⟩⟩
 ·simp only[aX,bj];lia
 ·simp only[depth,aZ];lia
 ·rw[aq,ba];unfold aT aT;rw[aaa,aac,aaa,aaa,aac,<-aq,<-aq,<-aq];simp
  lia
theorem jG(c:Nat):∀(zs:List Str),(Txt.join ⟨#[c]⟩ zs).length<=(zs.map (·.length)).sum+zs.length
 |[]=>by rw[aq];exact aa8 _
 |z::zs=>by
  rw[aq,jH,aaa,aaV,adE,aac,<-aq];have:(tl c zs).length=(zs.map (·.length)).sum+zs.length:=by
   clear z;induction zs with
   |nil=>rfl
   |cons z zs ih=>
    rw[fI,aaa,aac,ih,aaV,adE,aac,aq]
    lia
  lia
def comma:(Str.ofString ",")=⟨#[44]⟩:=by decide
noncomputable def dw(c:Int):Int->Tm
 |0=>.num (c / 3)
 |1=>.text "a1"
 |2=>.row
 |_=>.mark
variable{m:Int}
theorem Aq{c:Int}(h0:0<=c)(h1:c<2147483629)(hm:m=0\/m=1\/m=2\/m=3):TmL (dw c m):=by
 rcases hm with rfl|rfl|rfl|rfl
 ·have a0:0<=c / 3:=Int.ediv_nonneg h0 (by decide);have a1:c / 3<1000000000000000000:=by lia
  exact⟨by show Wf (.num (c / 3));unfold Wf;exact⟨a0,a1⟩,by simp[dw,aX],by simp[dw,depth],sx a0 a1⟩
 ·exact⟨by show Wf (.text "a1");unfold Wf;exact⟨by decide,by decide +kernel⟩,by simp[dw,aX],by simp[dw,depth],by show(sh (.text "a1")).length<=18;decide +kernel⟩
 ·exact⟨by show Wf .row;unfold Wf;trivial,by simp[dw,aX],by simp[dw,depth],by show(sh .row).length<=18;decide +kernel⟩
 ·exact⟨by show Wf .mark;unfold Wf;trivial,by simp[dw,aX],by simp[dw,depth],by show(sh .mark).length<=18;decide +kernel⟩
def yP:sh (.text "a1") = "\"a1\"":=by decide +kernel
theorem at4{x0 x1 x2 x3:V}(h0:0<=m)(h3:m<4):(m=0/\y6 [x0,x1,x2,x3] m=some x0)\/(m=1/\y6 [x0,x1,x2,x3] m=some x1)\/(m=2/\y6 [x0,x1,x2,x3] m=some x2)\/(m=3/\y6 [x0,x1,x2,x3] m=some x3):=by
 have:m=0\/m=1\/m=2\/m=3:=by lia
 rcases this with rfl|rfl|rfl|rfl
 ·exact .inl ⟨rfl,rfl⟩
 ·exact .inr (.inl ⟨rfl,rfl⟩)
 ·exact .inr (.inr (.inl ⟨rfl,rfl⟩))
 ·exact .inr (.inr (.inr ⟨rfl,rfl⟩))
variable{P:Program}{w:World}{K:W.Frag}{mg:Str->Option Value}{base:Heap}{T:Q0}
theorem vy(X:Tx K w mg T):d9 P w K mg base E6 3 T.qBN T.OL ["_law_cell", "_law_word_here"] yD:=by
 have Ie:=(jw (P:=P) (w:=w) (base:=base) X).mono (show 1<=2 by decide);refine X.R0.G9 u0 (λvs H Q E h=>?_) (λj8 A outer s H vs Q E hr h=>?_)
 ·obtain⟨_,_,rfl,_⟩:=h;rfl
 obtain⟨c,k,rfl,c0,c18,q⟩:=h;refine⟨_,(af (aD (i:=2) u0.nd rfl oI1 (aR (d_ ak (d_ ak (d_ ak (d_ ak (d_ ak (d_ ak (d_ ak (d_ ak (d_ ak (d_ ak (d_ ak (d_ ak ac)))))))))))))) (af (aD (i:=3) u0.nd rfl oI1 (bw (d_ ak (o7 (ar aV (ar bh (qv 0) aj) aj) (y8 (aB Ie hr rfl X.KP X.JC.kp X.KY .nil bu (d5 (qv 1) (o7 (ar aV (ar bh (qv 0) aj) aj) ac))) ac))))) (af (aD (i:=4) u0.nd rfl oI1 (ar au (ar au (bp cX rfl X.GO abk (x_ (aU dX (qv 3) aj (λ_ _=>rfl)) ac)) ak) (aU dX (qv 3) aj (λ_ _=>rfl)))) (af (cF abc rfl (bV rfl X.n_ (o7 (ar aV (qv 0) aj) ac)) (aM (i:=5) u0.nd rfl oI1) (af (aD (i:=0) u0.nd rfl oI1 (ar aV (ar bA (ar eS (qv 0) aj) (qv 5)) aj)) (af (aD (i:=6) u0.nd rfl oI1 (aU aE (aR (Ml (bw (d_ ak (o7 (ar bh (qv 0) aj) ac))) (Ml (bw (d_ ak (d_ ak ac))) (Ml (bw (d_ ak ac)) (Ml (bw (d_ ak ac)) ac))))) (ar aV (ar bh (qv 0) aj) aj) (λ_ _=>rfl))) (af (aD (i:=7) u0.nd rfl oI1 (aU aE (aR (y8 (bp cX rfl X.GO abk (o7 (ar bh (qv 0) aj) ac)) (d_ ak (d_ ak (d_ ak ac))))) (ar aV (ar bh (qv 0) aj) aj) (λ_ _=>rfl))) (af (aD (i:=8) u0.nd rfl oI1 (bc bT (aR (d5 (qv 3) (d5 (qv 6) ac))) bE (bi (ar bA aj (ar aV (qv 0) aj))))) (af (aD (i:=9) u0.nd rfl oI1 (bc bT (aR (d5 (qv 4) (d5 (qv 7) ac))) bE (bi (ar bA aj (ar aV (qv 0) aj))))) (af (be (aC bM (ar aV (ar bh (qv 0) aj) aj) aj (aK _)) (af (bo (dD aal adz ady iY (qv 8))) (ao (bo (dD aal adz ady iY (qv 9))))) aI) (af (aD (i:=3) u0.nd rfl oI1 (bw (d_ ak (x_ (aU aE (qv 2) (ar aV (ar bh (qv 0) aj) aj) (λ_ _=>rfl)) (y8 (bp bg rfl X.i' aaP (d5 (qv 8) ac)) ac))))) (ao (aD (i:=4) u0.nd rfl oI1 (ar au (ar au (ar au (aU dX (qv 3) aj (λ_ _=>rfl)) ak) (cM abq acG acF lU ak (d5 (qv 9) ac))) ak))))))))))) (ao (aH (bw (d5 (qv 3) (d5 (qv 4) ac))))))))),?_⟩;dsimp only[cq];refine⟨Z12,λL hL=>?_⟩;have s1:=ae hL (.lst (i6.map V.str));have Uk:=aa (H:=H) (a:=L) (o:=.lst (i6.map V.str));have hgen:upd H L (.lst (i6.map V.str))=upd H L (.lst [.str "add",.str "sub",.str "mul",.str "less",.str "pick",.str "glue",.str "show",.str "size",.str "put",.str "link",.str "at",.str "many"]):=rfl;rw[<-hgen];generalize upd H L (.lst (i6.map V.str))=H1 at s1 Uk⊢;refine⟨_,rfl,_,_,rfl,rfl,⟨by decide,by decide⟩,_,_,rfl,rfl,(by show(0:Int)<4;decide),_,rfl,_,rfl,_,_,rfl,rfl,⟨by decide,by decide⟩,_,_,rfl,rfl,(by show(0:Int)<5;decide),_,_,rfl,λz H2 nz s2=>⟨Z3,λm0 hm0=>?_⟩⟩;dsimp only;have k0:=aar (c / 5) (show(4:Int)≠0 by decide);have k4:=aan (c / 5) (show(0:Int)<4 by decide);have hk:c / 5%4=0\/c / 5%4=1\/c / 5%4=2\/c / 5%4=3:=by lia
 generalize c / 5%4=kk at k0 k4 hk⊢;have lz:z.length<=8:=by rw[aq];exact nz.2.1
 have lk:(Str.ofString (toString kk)).length=1:=by rcases hk with rfl|rfl|rfl|rfl<;>decide +kernel
 have ld:(Str.ofString ".").length=1:=by decide
 have s3:=ae hm0 (.tup [.str "of",.int kk,.str z]);have _c:=aa (H:=H2) (a:=m0) (o:=.tup [.str "of",.int kk,.str z]);have MO:=s1.trans (s2.trans s3);have QP:=s3 _ _ (s2 _ _ Uk);generalize upd H2 m0 (.tup [.str "of",.int kk,.str z])=H3 at s3 _c MO QP⊢;refine⟨_,rfl,m0,_,1,_,rfl,rfl,k_.of _c,rfl,kk,rfl,db k0 (by show kk<1000000000000000000;lia),_,_,rfl,rfl,aO (by rw[lk,ld];lia),_,rfl,m0,_,2,_,rfl,rfl,k_.of _c,rfl,_,_,rfl,rfl,aO (by rw[ay,lk,ld];lia),?_⟩;have T0:J_ (.val kk z) 0:=⟨by unfold Wf;exact⟨hk,nz⟩,by simp[aX],by simp[depth],by unfold sh;rw[ay,ay,lk,ld];lia⟩
 have e5:=aar c (show(5:Int)≠0 by decide);have e6:=aan c (show(0:Int)<5 by decide);refine⟨_,rfl,_,_,rfl,rfl,(by show(0:Int)<5;decide),_,rfl,by lia,by lia,?_⟩;refine df (n:=(c%5).toNat) (λi σ H'=>∃(c':Int)(t:Tm)(mv:V)(x5 x6 x7 x8 x9:Option V),σ=[some (.int c'),some (.int k),some (.ref L),some mv,some (.str (sh t)),x5,x6,x7,x8,x9]/\b6 H H'/\H' L=some (.lst (i6.map V.str))/\J_ t i/\j0 H' t mv)
  ⟨c,.val kk z,.ref m0,none,none,none,none,none,rfl,MO,QP,T0,⟨m0,rfl,_c⟩⟩ ?_ ?_
 ·rintro i σ H' hi ⟨c',t,mv,x5,x6,x7,x8,x9,rfl,sm,hl,ts,ht⟩;refine⟨_,rfl,_,_,rfl,rfl,.inr ⟨by decide,by decide⟩,_,rfl,_,_,rfl,rfl,_,_,rfl,rfl,(by show(0:Int)<2147483629;decide),?_⟩;dsimp only[j4];have c0':=aar (c'*48271+(0+(i:Int))) (show(2147483629:Int)≠0 by decide);have c1':=aan (c'*48271+(0+(i:Int))) (show(0:Int)<2147483629 by decide);generalize (c'*48271+(0+(i:Int)))%2147483629=e at c0' c1'⊢;have a0:0<=e / 3:=Int.ediv_nonneg c0' (by decide);have m0':=aar (e / 7) (show(4:Int)≠0 by decide);have m4':=aan (e / 7) (show(0:Int)<4 by decide);have hm4:e / 7%4=0\/e / 7%4=1\/e / 7%4=2\/e / 7%4=3:=by lia
  refine⟨_,rfl,_,_,rfl,rfl,⟨by decide,by decide⟩,Z2,λp1 h1=>⟨Z2,λp2 h2=>⟨Z1,λp3 h3=>⟨Z1,λp4 h4=>⟨Z4,λl5 h5=>?_⟩⟩⟩⟩⟩;dsimp only at h2 h3 h4 h5⊢;have r1:=ae h1 (.tup [.str "num",.int (e / 3)]);have r2:=ae h2 (.tup [.str "text",.str "a1"]);have r3:=ae h3 (.tup [.str "row"]);have r4:=ae h4 (.tup [.str "mark"]);have r5:=ae h5 (.lst [.ref p1,.ref p2,.ref p3,.ref p4]);have g1:=r5 _ _ (r4 _ _ (r3 _ _ (r2 _ _ (aa (H:=H') (a:=p1) (o:=.tup [.str "num",.int (e / 3)])))));have g2:=r5 _ _ (r4 _ _ (r3 _ _ (aa (H:=upd H' p1 (.tup [.str "num",.int (e / 3)])) (a:=p2) (o:=.tup [.str "text",.str "a1"]))));have g3:=r5 _ _ (r4 _ _ (aa (H:=upd (upd H' p1 (.tup [.str "num",.int (e / 3)])) p2 (.tup [.str "text",.str "a1"])) (a:=p3) (o:=.tup [.str "row"])));have g4:=r5 _ _ (aa (H:=upd (upd (upd H' p1 (.tup [.str "num",.int (e / 3)])) p2 (.tup [.str "text",.str "a1"])) p3 (.tup [.str "row"])) (a:=p4) (o:=.tup [.str "mark"]));have g5:=aa (H:=upd (upd (upd (upd H' p1 (.tup [.str "num",.int (e / 3)])) p2 (.tup [.str "text",.str "a1"])) p3 (.tup [.str "row"])) p4 (.tup [.str "mark"])) (a:=l5) (o:=.lst [.ref p1,.ref p2,.ref p3,.ref p4]);have r15:=r1.trans (r2.trans (r3.trans (r4.trans r5)));generalize upd (upd (upd (upd (upd H' p1 (.tup [.str "num",.int (e / 3)])) p2 (.tup [.str "text",.str "a1"])) p3 (.tup [.str "row"])) p4 (.tup [.str "mark"])) l5 (.lst [.ref p1,.ref p2,.ref p3,.ref p4])=G at g1 g2 g3 g4 g5 r15⊢;obtain⟨lv,alv,hlv⟩:∃lv,y6 [V.ref p1,.ref p2,.ref p3,.ref p4] (e / 7%4)=some lv/\j0 G (dw e (e / 7%4)) lv:=by
   rcases at4 (x0:=V.ref p1) (x1:=.ref p2) (x2:=.ref p3) (x3:=.ref p4) m0' m4' with⟨hm,ha⟩|⟨hm,ha⟩|⟨hm,ha⟩|⟨hm,ha⟩
   ·exact⟨_,ha,by rw[hm];exact⟨p1,rfl,g1⟩⟩
   ·exact⟨_,ha,by rw[hm];exact⟨p2,rfl,g2⟩⟩
   ·exact⟨_,ha,by rw[hm];exact⟨p3,rfl,g3⟩⟩
   ·exact⟨_,ha,by rw[hm];exact⟨p4,rfl,g4⟩⟩
  have ats:y6 [V.str (Str.ofString (toString (e / 3))),.str "\"a1\"",.str "[]",.str "mark"] (e / 7%4)=some (.str (sh (dw e (e / 7%4)))):=by
   rcases at4 (x0:=V.str (Str.ofString (toString (e / 3)))) (x1:=.str "\"a1\"") (x2:=.str "[]") (x3:=.str "mark") m0' m4' with⟨hm,ha⟩|⟨hm,ha⟩|⟨hm,ha⟩|⟨hm,ha⟩
   ·rw[ha,hm];rfl
   ·rw[ha,hm];show _=some (V.str (sh (.text "a1")));rw[yP]
   ·rw[ha,hm];rfl
   ·rw[ha,hm];rfl
  have lf:=Aq c0' c1' hm4;generalize dw e (e / 7%4)=u at hlv ats lf;refine⟨_,rfl,_,_,rfl,rfl,⟨by decide,by decide⟩,_,_,rfl,rfl,(by show(0:Int)<4;decide),l5,_,_,lv,rfl,rfl,c_.of g5,alv,?_⟩;refine⟨_,rfl,_,_,rfl,rfl,⟨by decide,by decide⟩,_,rfl,db a0 (by show e / 3<1000000000000000000;lia),Z4,λl6 h6=>⟨_,rfl,_,_,rfl,rfl,⟨by decide,by decide⟩,_,_,rfl,rfl,(by show(0:Int)<4;decide),l6,_,_,_,rfl,rfl,c_.of aa,ats,?_⟩⟩;have r6:=ae h6 (.lst [V.str (Str.ofString (toString (e / 3))),.str "\"a1\"",.str "[]",.str "mark"]);generalize upd G l6 _=G1 at r6⊢;dsimp only[j4];have b0:=aar e (show(2:Int)≠0 by decide);have b2:=aan e (show(0:Int)<2 by decide);obtain⟨n,hn,n1⟩:∃n:Nat,1+e%2=(n:Int)/\(n=1\/n=2):=⟨(1+e%2).toNat,by lia,by lia⟩
  refine⟨_,rfl,_,rfl,Z2,λl7 h7=>⟨_,rfl,_,_,rfl,rfl,(by show(0:Int)<2;decide),_,_,rfl,rfl,_,rfl,l7,_,rfl,c_.of aa,λS hS=>?_⟩⟩;have r7:=ae h7 (.lst [mv,lv]);dsimp only[j4]at hS⊢;rw[hn,cT];have r8:=ae hS (.lst ([mv,lv].take n));have gS:=aa (H:=upd G1 l7 (.lst [mv,lv])) (a:=S) (o:=.lst ([mv,lv].take n));have r18:=r15.trans (r6.trans (r7.trans r8));have nS:H' S=none:=(r15.trans (r6.trans r7)).free hS;generalize upd (upd G1 l7 (.lst [mv,lv])) S (.lst ([mv,lv].take n))=G2 at r8 gS r18⊢;refine⟨_,rfl,_,rfl,Z2,λl8 h8=>⟨_,rfl,_,_,rfl,rfl,(by show(0:Int)<2;decide),_,_,rfl,rfl,_,rfl,l8,_,rfl,c_.of aa,λR hR=>?_⟩⟩;have r9:=ae h8 (.lst [.str (sh t),.str (sh u)]);dsimp only[j4]at hR⊢;rw[hn,cT];have ra:=ae hR (.lst ([V.str (sh t),.str (sh u)].take n));have gR:=aa (H:=upd G2 l8 (.lst [.str (sh t),.str (sh u)])) (a:=R) (o:=.lst ([V.str (sh t),.str (sh u)].take n));have UN:=r18.trans (r9.trans ra);have Uo:=ra _ _ (r9 _ _ gS);have nR:H' R=none:=(r18.trans r9).free hR;have nSR:S≠R:=λz=>by rw[z]at Uo;rw[<-z,r9 _ _ gS]at hR;cases hR
  generalize upd (upd G2 l8 (.lst [.str (sh t),.str (sh u)])) R (.lst ([V.str (sh t),.str (sh u)].take n))=G3 at ra gR UN Uo⊢;have ht3:=j0.same (bG UN) t ht;have hu3:j0 G3 u lv:=j0.same (bG (r6.trans (r7.trans (r8.trans (r9.trans ra))))) u hlv;have Ou:=UN _ _ hl;refine bU λN y=>?_;have fin:∀(Ka:List Tm)(vs:List V)(G4:Hp),b6 H' G4->G4 S=some (.lst vs)->G4 R=some (.lst (Ka.map λt=>V.str (sh t)))->j' G4 Ka vs->vs.length<=2->(Ka.map λt=>(sh t).length).sum+Ka.length<=1000->(∀d∈i6,J_ (.call d Ka) (i+1))->N [some (.int e),some (.int k),some (.ref L),some mv,some (.str (sh t)),some (.int (0+(i:Int))),some lv,some (.str (sh u)),some (.ref S),some (.ref R)] G4:=by
   intro Ka vs G4 sg gs gr tis lv2 lsum tcl;refine y _ _ ?_;obtain⟨d,ad,hd⟩:=iL (zs:=i6) (m:=e / 28%12) (aar _ (by decide)) (aan _ (by decide));refine⟨_,rfl,_,rfl,_,_,rfl,rfl,⟨by decide,by decide⟩,_,_,rfl,rfl,(by show(0:Int)<12;decide),L,_,_,.str d,rfl,rfl,c_.of (sg _ _ hl),ad,_,rfl,S,_,rfl,.inl ⟨c_.of gs,λq1 hq1=>⟨Z3,λq2 hq2=>?_⟩⟩⟩;have rb:=ae hq1 (.tup vs);have rc:=ae hq2 (.tup [.str "call",.str d,.ref q1]);have gq:=aa (H:=upd G4 q1 (.tup vs)) (a:=q2) (o:=.tup [.str "call",.str d,.ref q1]);have dl:=dR d hd;have l1:(Str.ofString "(").length=1:=by decide
   have l2:(Str.ofString ")").length=1:=by decide
   have l3:(Str.ofString ",").length=1:=by decide
   have emap:(Ka.map λt=>V.str (sh t))=(Ka.map sh).map V.str:=by rw[aci];rfl
   rw[emap]at gr;have Xv:((Ka.map sh).map (·.length)).sum=(Ka.map λt=>(sh t).length).sum:=by rw[aci];rfl
   have jl:=jG 44 (Ka.map sh);rw[<-comma,Xv,aad]at jl;have Vy:=rb.trans rc;have gr2:=Vy _ _ gr;have gv:=rc _ _ (aa (H:=G4) (a:=q1) (o:=.tup vs));have gl:=Vy _ _ (sg _ _ hl);have gt:=j'.same (bG Vy) Ka tis;generalize upd (upd G4 q1 (.tup vs)) q2 (.tup [.str "call",.str d,.ref q1])=G5 at rc gq Vy gr2 gv gl gt⊢;dsimp only[j4];refine⟨_,rfl,q2,_,1,_,rfl,rfl,k_.of gq,rfl,_,_,rfl,rfl,aO (by rw[l1];lia),rfl,_,rfl,_,_,Ka.map sh,rfl,rfl,c_.of gr2,(by rw[Xv,aad,l3];lia),_,_,rfl,rfl,aO (by rw[ay,l1];lia),_,_,rfl,rfl,aO (by rw[ay,ay,l1,l2];lia),?_⟩;have es:d++"("++Txt.join "," (Ka.map sh)++")" = sh (.call d Ka):=by unfold sh;rw[lL]
   rw[es];exact⟨e,.call d Ka,.ref q2,_,_,_,_,_,rfl,sm.trans (sg.trans Vy),gl,tcl d hd,⟨q2,q1,vs,rfl,gq,gv,by lia,gt⟩⟩
  have tl:=ts.l;have il:i<=4:=by lia
  have ul:=lf.l;have T1:j' G3 [t] [mv]:=⟨mv,[],rfl,ht3,rfl⟩
  have T2:j' G3 [t,u] [mv,lv]:=⟨mv,[lv],rfl,ht3,lv,[],rfl,hu3,rfl⟩
  have T3:j' G3 [u,t] [lv,mv]:=⟨lv,[mv],rfl,hu3,mv,[],rfl,ht3,rfl⟩
  refine⟨_,rfl,_,_,rfl,rfl,⟨by decide,by decide⟩,_,_,rfl,rfl,(by show(0:Int)<2;decide),rfl,_,rfl,bI (λhrev=>?_) (λhrev=>?_)⟩
  ·refine⟨_,rfl,.inl ⟨rfl,_,c_.of Uo⟩,S,_,rfl,rfl,Uo,?_⟩;have gR2:upd G3 S (.lst ([mv,lv].take n).reverse) R=some (.lst ([V.str (sh t),.str (sh u)].take n)):=by rw[aw nSR.symm];exact gR
   refine⟨_,rfl,.inl ⟨rfl,_,c_.of gR2⟩,R,_,rfl,rfl,gR2,?_⟩;have sr:b6 H' (upd (upd G3 S (.lst ([mv,lv].take n).reverse)) R (.lst ([V.str (sh t),.str (sh u)].take n).reverse)):=aL nR (aL nS UN);have TT:n6 G3 (upd (upd G3 S (.lst ([mv,lv].take n).reverse)) R (.lst ([V.str (sh t),.str (sh u)].take n).reverse)):=(aQ Uo).trans (aQ gR2);rcases n1 with rfl|rfl
   ·exact fin [t] [mv] _ sr (by rw[aw nSR];exact aa) aa (j'.same TT _ T1) (by simp) (by simp;lia) λd hd=>nY hd ts
   ·exact fin [u,t] [lv,mv] _ sr (by rw[aw nSR];exact aa) aa (j'.same TT _ T3) (by simp) (by simp;lia) λd hd=>(nX hd ts lf).2
  ·rcases n1 with rfl|rfl
   ·exact fin [t] [mv] _ UN Uo gR T1 (by simp) (by simp;lia) λd hd=>nY hd ts
   ·exact fin [t,u] [mv,lv] _ UN Uo gR T2 (by simp) (by simp;lia) λd hd=>(nX hd ts lf).1
 ·rintro σ H' ⟨c',t,mv,x5,x6,x7,x8,x9,rfl,sm,hl,ts,ht⟩;have hn:(c%5).toNat<=4:=by lia
  refine⟨_,rfl,_,rfl,Z2,λr s_=>?_⟩;have sr:=ae s_ (.tup [mv,.str (sh t)]);exact q t r mv _ ⟨ts.wf,by have:=ts.p;lia,by have:=ts.d;lia,by have:=ts.l;lia⟩ (sm.trans sr) (j0.same (bG sr) t ht) aa
def Kp(S:List Addr)(H H':Hp):Prop:=∀b o,b∉S->H b=some o->H' b=some o
def Kp.refl(S:List Addr)(H:Hp):Kp S H H:=λ_ _ _ h=>h
variable{S:List Addr}{H H1:Hp}
def Kp.trans{H2:Hp}(a:Kp S H H1)(b:Kp S H1 H2):Kp S H H2:=λc o n h=>b c o n (a c o n h)
theorem Kp.upd{S:List Addr}{H H1:Hp}{a:Addr}{o:HO}(h:Kp S H H1)(m:a∈S):Kp S H (upd H1 a o):=λc u n e=>by have ne:c≠a:=λz=>n (by rw[z];exact m);rw[aw ne];exact h c u n e
variable{H':Hp}
def Kp.of(s:b6 H H'):Kp S H H':=λc o _ h=>s c o h
def Kp.mono{S':List Addr}(h:Kp S H H')(m:∀a∈S,a∈S'):Kp S' H H':=λc o n e=>h c o (λz=>n (m c z)) e
def Kp.TT0(h:Kp S H H')(m:∀a∈S,∃xs,H a=some (.lst xs)):n6 H H':=λb xs e=>h b _ (λz=>by
 obtain⟨ys,q⟩:=m b z;rw[q]at e;cases e) e
def Bd(cs:List Int):Prop:=∀c∈cs,0<=c/\c<1000000000000000000
def iV{cs:List Int}(h:cs≠[]):∃c RK,cs=RK++[c]:=by
 rcases ab4 cs with rfl|⟨l,b,rfl⟩
 ·exact absurd rfl h
 ·exact⟨b,l,by simp⟩
def dL(cs:List Int)(c:Int):((cs++[c]).map V.int)[((cs++[c]).map V.int).length-1]?=some (V.int c):=by simp
def dh(cs:List Int)(c:Int):((cs++[c]).map V.int).dropLast=cs.map V.int:=by simp
def QZ(S:List Addr)(H:Hp)(ws:List Str)(v:V):Prop:=∃b,v=.ref b/\b∉S/\H b=some (.lst (ws.map V.str))
variable{ws:List Str}
def QZ.kp(k:Kp S H H'){v:V}(h:QZ S H ws v):QZ S H' ws v:=by obtain⟨b,e,n,x⟩:=h;exact⟨b,e,n,k b _ n x⟩
structure _'(f:Fm):Prop where
 ok:qz f
 one:f.ru≠[]
 tm:∀r∈f.ru,J_ r.tm 4
def BQ:Sp:=λvs H Q _=>∃(c:Int)(d:Addr)(k:Int)(cs:List Int),vs=[.int c,.ref d,.int k]/\H d=some (.lst (cs.map V.int))/\3<=cs.length/\Bd cs /\
 ∀(f:Fm)(r ll:Addr)(us:List V)(v:V)(cs':List Int)(H':Hp),Kp [d] H H'->H' d=some (.lst (cs'.map V.int))->cs.length<=cs'.length+3->Bd cs'->G_ H' f v->_' f->H' r=some (.tup [v,.ref ll])->H' ll=some (.lst us)->H ll=none->g9 (QZ [d] H') (J5 f) us->Q (.ref r) H'
variable{z:Str}{k:Int}
theorem J_.ru(hk:k=0\/k=1\/k=2\/k=3)(n:g7 z)(h:J_ t 4):oj ⟨k,z,t⟩:=⟨by unfold Wf;exact⟨hk,n⟩,h.wf,by have:=h.p;show aX t<=30;lia,by have:=h.d;show depth t<=6;lia⟩
theorem vB(X:Tx K w mg T):d9 P w K mg base E6 4 T.qBU T.OF ["_law_cell", "_law_deck_here", "_law_word_here"] BQ:=by
 have Ie:=(jw (P:=P) (w:=w) (base:=base) X).mono (show 1<=3 by decide);have YZ:=vy (P:=P) (w:=w) (base:=base) X;refine X.RX.G9 C1 (λvs H Q E h=>?_) (λj8 A outer s H vs Q E hr h=>?_)
 ·obtain⟨_,_,_,_,rfl,_⟩:=h;rfl
 obtain⟨c,d,k,cs,rfl,hd,h3,bd,q⟩:=h;refine⟨_,(af (fL (ys:=["_law_cell", "_law_word_here"]) (js:=[0,2]) rfl rfl (bV rfl X.n_ (o7 (ar bA aj (ar aV (ar bh (qv 0) aj) aj)) ac)) (λ_ _ _ _ _=>cJ) (λ_ _ _ _ _=>(aB Ie hr rfl X.KP X.JC.kp X.KY .nil bu (d5 (qv 2) (o7 (ar aV (ar bh (qv 1) (ar bA aj (ar eS aj (qv 0)))) aj) ac)))) (aM (i:=3) C1.nd rfl oI1) rfl) (af (aD (i:=4) C1.nd rfl oI1 (aR (o7 (ar cu (aR (d_ ak ac)) (qv 3)) ac))) (af (aD (i:=5) C1.nd rfl oI1 (aR ac)) (af (cF abc rfl (bV rfl X.n_ (o7 (ar bA aj (ar aV (qv 0) aj)) ac)) (aM (i:=6) C1.nd rfl oI1) (af (aD (i:=7) C1.nd rfl oI1 (dD aal abj abi eY (qv 1))) (af (aD (i:=8) C1.nd rfl oI1 (aB Ie hr rfl X.KP X.JC.kp X.KY .nil bu (d5 (qv 2) (o7 (ar aV (ar bh (qv 7) aj) aj) ac)))) (af (kt (aB YZ hr rfl X.VU X.R0.kp X.Yk .nil bu (o7 (ar bh (qv 7) aj) (d5 (qv 2) ac))) (du rfl (aW (aM (i:=9) C1.nd rfl oI1) (aW (aM (i:=10) C1.nd rfl oI1) cg)))) (af (bo (cM aal aaC aaB bf (qv 5) (Ml (bw (o7 (ar aV (qv 7) aj) (d5 (qv 8) (d5 (qv 9) ac)))) ac))) (ao (bo (cM aal aaC aaB bf (qv 4) (UO (aR (o7 (ar au (ar au (bp cX rfl X.GO abk (o7 (ar aV (qv 7) aj) ac)) ak) (qv 8)) (d_ ak (d5 (qv 10) ac)))) ac))))))))) (ao (aH (bw (Ml (bw (x_ (aU aE (qv 3) aj (λ_ _=>rfl)) (x_ (aU aE (qv 3) aj (λ_ _=>rfl)) (y8 (bp bg rfl X.i' aaP (x_ (bc bT (qv 3) (bi aj) bE) ac)) (y8 (bp bg rfl X.i' aaP (d5 (qv 5) ac)) ac))))) (d5 (qv 4) ac))))))))),?_⟩;dsimp only[cq];have g2:=aar (c / 3) (show(4:Int)≠0 by decide);have g3:=aan (c / 3) (show(0:Int)<4 by decide);refine⟨_,rfl,_,_,rfl,rfl,⟨by decide,by decide⟩,_,_,rfl,rfl,(by show(0:Int)<4;decide),_,_,rfl,rfl,_,rfl,by lia,by lia,λD hD=>?_⟩;refine nU (λi acc H2=>∃zs:List Str,acc=zs.map V.str/\zs.length=i/\(∀z∈zs,g7 z)/\b6 H H2/\H2 D=some (.lst acc)) (abp (show(2+c / 3%4).toNat<=1000 by lia) (by decide))
  ⟨[],rfl,rfl,(λz hz=>nomatch hz),ae hD _,aa⟩ (λi acc H' ⟨zs,e,l,_,_,d⟩=>⟨d,by rw[e,aad];exact l⟩) ?_ ?_
 ·rintro i m' acc H2 hi ⟨zs,e,l,o,UK,dd⟩ hm;refine⟨_,rfl,_,rfl,_,rfl,_,_,rfl,rfl,.inl ⟨by decide,by decide⟩,_,_,rfl,rfl,_,_,rfl,rfl,⟨by lia,by lia⟩,_,_,rfl,rfl,(by show(0:Int)<9;decide),_,_,rfl,λz H3 nz s3=>wW hi hm (s3 _ _ dd) ⟨zs++[z],by rw[e,aaZ];rfl,by rw[aaa,l];rfl,λy hy=>?_,aL hD (UK.trans s3),aa⟩⟩;rcases List.mem_append.mp hy with h|h
  ·exact o y h
  ·rw[List.mem_singleton.mp h];exact nz
 rintro acc H1 ⟨zs,rfl,l,o,s1,dd⟩;obtain⟨z0,z1,zr,rfl⟩:∃z0 z1 zr,zs=z0::z1::zr:=by
  cases zs with
  |nil=>simp at l;lia
  |cons z0 zs=>
   cases zs with
   |nil=>simp at l;lia
   |cons z1 zr=>exact⟨z0,z1,zr,rfl⟩
 have l':zr.length+2=(2+c / 3%4).toNat:=by simpa using l
 have QR:H1 D=some (.lst (.str z0::.str z1::zr.map V.str)):=dd;refine⟨Z1,λf0 hf0=>⟨_,rfl,f0,D,_,_,rfl,rfl,aa,ae hf0 _ _ _ QR,bX (by simp;lia),λb0 hb0=>⟨Z1,λLs RE=>?_⟩⟩⟩;have r1:=ae hf0 (.lst [.str "form"]);have r2:=ae hb0 (.lst ([.str "form"]++(.str z0::.str z1::zr.map V.str)));have r3:=ae RE (.lst [.ref b0]);have hb1:=aa (H:=upd H1 f0 (.lst [.str "form"])) (a:=b0) (o:=.lst ([.str "form"]++(.str z0::.str z1::zr.map V.str)));have U4:=r3 _ _ hb1;have Xb:=aa (H:=upd (upd H1 f0 (.lst [.str "form"])) b0 (.lst ([.str "form"]++(.str z0::.str z1::zr.map V.str)))) (a:=Ls) (o:=.lst [.ref b0]);have Qa:=r1.trans (r2.trans r3);have nLb:Ls≠b0:=aP hb1 RE;have ZQ:b0≠d:=aP (r1 _ _ (s1 _ _ hd)) hb0;have Ri:Ls≠d:=aP (r2 _ _ (r1 _ _ (s1 _ _ hd))) RE;have QN:H1 Ls=none:=(r1.trans r2).free RE;generalize upd (upd (upd H1 f0 (.lst [.str "form"])) b0 (.lst ([.str "form"]++(.str z0::.str z1::zr.map V.str)))) Ls (.lst [.ref b0])=H2 at U4 Xb Qa⊢;refine⟨Z0,λR hR=>?_⟩;have r4:=ae hR (.lst []);have hR3:=aa (H:=H2) (a:=R) (o:=.lst []);have ZI:=Qa.trans r4;have hb3:=r4 _ _ U4;have QP:=r4 _ _ Xb;have U3:=ZI _ _ (s1 _ _ hd);have dd3:=ZI _ _ QR;have nRb:b0≠R:=λz=>by rw[<-z,U4]at hR;cases hR
 have nRL:Ls≠R:=λz=>by rw[<-z,Xb]at hR;cases hR
 have nRd:R≠d:=aP (Qa _ _ (s1 _ _ hd)) hR;have nDd:D≠d:=λz=>by rw[z,hd]at hD;cases hD
 have nDL:D≠Ls:=λz=>by rw[<-z,QR]at QN;cases QN
 have nDR:D≠R:=λz=>by rw[<-z,Qa _ _ QR]at hR;cases hR
 have hR1:H1 R=none:=Qa.free hR;generalize upd H2 R (.lst [])=H3 at hR3 ZI hb3 QP U3 dd3⊢;have LST:∀a∈[d,Ls,R],∃xs,H3 a=some (.lst xs):=by
  intro a ha;simp only[aaf,aaj,aaJ]at ha;rcases ha with rfl|rfl|rfl
  ·exact⟨_,U3⟩
  ·exact⟨_,QP⟩
  ·exact⟨_,hR3⟩
 have e2:=aar c (show(3:Int)≠0 by decide);have e3:=aan c (show(0:Int)<3 by decide);have nb0:b0∉[d,Ls,R]:=by simp only[aaf,aaj,aaJ,abV];exact⟨ZQ,nLb.symm,nRb⟩
 have fwd:([.str "form"]++(.str z0::.str z1::zr.map V.str):List V)=(("form" : Str)::z0::z1::zr).map V.str:=rfl;rw[fwd]at hb3;refine⟨_,rfl,_,_,rfl,rfl,(by show(0:Int)<3;decide),_,_,rfl,rfl,_,rfl,by lia,by lia,?_⟩;refine df (n:=(1+c%3).toNat) (λi σ H'=>∃(Kj:List Int)(ru:List Ru)(rs us:List V)(x6 x7 x8 x9 x10:Option V),σ=[some (.int c),some (.ref d),some (.int k),some (.ref D),some (.ref Ls),some (.ref R),x6,x7,x8,x9,x10]/\Kp [d,Ls,R] H3 H'/\H' d=some (.lst (Kj.map V.int))/\cs.length=Kj.length+i/\Bd Kj/\H' R=some (.lst rs)/\g9 (F_ H') ru rs/\ru.length=i/\(∀r∈ru,oj r/\J_ r.tm 4)/\H' Ls=some (.lst us)/\g9 (QZ [d,Ls,R] H') ((("form" : Str)::z0::z1::zr)::ru.map MP) us)
  ⟨cs,[],[],[.ref b0],none,none,none,none,none,rfl,Kp.refl _ _,U3,rfl,bd,hR3,.nil,rfl,(λ_ z=>nomatch z),QP,.one ⟨b0,rfl,nb0,hb3⟩⟩ ?_ ?_
 ·rintro i σ H' hi ⟨Kj,ru,rs,us,x6,x7,x8,x9,x10,rfl,kp,Ia,E7,_2,hR',WB,Hq,UR,Xc,Kf⟩;have ZS:=WB.len;have Ir:=Kf.len;rw[aac,aad]at Ir;obtain⟨n,Ki,rfl⟩:=iV (cs:=Kj) (λz=>by rw[z]at E7;simp at E7;lia);rw[aaa,aaO]at E7;have bn:=_2 n (by simp);refine⟨_,rfl,.inl ⟨rfl,_,c_.of Ia⟩,d,_,_,rfl,rfl,Ia,dL Ki n,?_⟩;rw[dh];have Wq:Kp [d,Ls,R] H3 (upd H' d (.lst (Ki.map V.int))):=kp.upd (by simp);have k4:Kp [d,Ls,R] H' (upd H' d (.lst (Ki.map V.int))):=(Kp.refl _ _).upd (by simp);have Kg:=aa (H:=H') (a:=d) (o:=.lst (Ki.map V.int));have hR4:upd H' d (.lst (Ki.map V.int)) R=some (.lst rs):=by rw[aw nRd];exact hR'
  have Uj:upd H' d (.lst (Ki.map V.int)) Ls=some (.lst us):=by rw[aw Ri];exact Xc
  have WA:=WB.imp λ_ _ h=>F_.same (aQ Ia (ys:=Ki.map V.int)) h;have WM:=Kf.imp λ_ _ h=>h.kp k4;generalize upd H' d (.lst (Ki.map V.int))=H4 at Wq k4 Kg hR4 Uj WA WM⊢;have n0:=aar n (show(4:Int)≠0 by decide);have n1:=aan n (show(0:Int)<4 by decide);have hk:n%4=0\/n%4=1\/n%4=2\/n%4=3:=by lia
  refine⟨_,rfl,_,rfl,_,_,rfl,rfl,⟨by decide,by decide⟩,_,_,rfl,rfl,(by show(0:Int)<5;decide),_,_,rfl,λz H5 nz s5=>?_⟩;refine⟨_,rfl,_,_,rfl,rfl,⟨by decide,by decide⟩,_,rfl,_,_,rfl,by show 0<=n / 7;lia,by show n / 7<1000000000000000000;lia,λt r v H6 ts s6 tm hr6=>?_⟩;refine⟨r,_,rfl,k_.of hr6,rfl,_,_,rfl,_,_,rfl,rfl,?_⟩;have NO:=s5.trans s6;have hR6:=NO _ _ hR4;have U7:=NO _ _ Uj;refine⟨_,rfl,.inl ⟨rfl,_,c_.of hR6⟩,_,rfl,_,_,rfl,rfl,(by show(0:Int)<4;decide),_,rfl,_,rfl,Z3,λtp TB=>?_⟩;have s7:=ae TB (.tup [.int (n%4),.str z,v]);have htp7:=aa (H:=H6) (a:=tp) (o:=.tup [.int (n%4),.str z,v]);have hR7:=s7 _ _ hR6;refine⟨R,rs,_,rfl,rfl,hR7,bX (by lia),?_⟩;have _i:upd (upd H6 tp (.tup [.int (n%4),.str z,v])) R (.lst (rs++[.ref tp])) Ls=some (.lst us):=by rw[aw nRL];exact s7 _ _ U7
  have Uc:upd (upd H6 tp (.tup [.int (n%4),.str z,v])) R (.lst (rs++[.ref tp])) d=some (.lst (Ki.map V.int)):=by rw[aw nRd.symm];exact s7 _ _ (NO _ _ Kg)
  have k8:Kp [d,Ls,R] H4 (upd (upd H6 tp (.tup [.int (n%4),.str z,v])) R (.lst (rs++[.ref tp]))):=(Kp.of (NO.trans s7)).upd (by simp);have TT:=aQ hR7 (ys:=rs++[.ref tp]);have hR8:=aa (H:=upd H6 tp (.tup [.int (n%4),.str z,v])) (a:=R) (o:=.lst (rs++[.ref tp]));have Wz:g9 (F_ (upd (upd H6 tp (.tup [.int (n%4),.str z,v])) R (.lst (rs++[.ref tp])))) (ru++[⟨n%4,z,t⟩]) (rs++[.ref tp]):=(WA.imp λ_ _ h=>F_.same ((bG (NO.trans s7)).trans TT) h).snoc ⟨tp,v,rfl,TT _ _ htp7,j0.same ((bG s7).trans TT) _ tm⟩;generalize upd (upd H6 tp (.tup [.int (n%4),.str z,v])) R (.lst (rs++[.ref tp]))=H8 at _i Uc k8 hR8 Wz⊢;have lz:z.length<=8:=by rw[aq];exact nz.2.1
  have ld:(Str.ofString ".").length=1:=by decide
  have lk:(Str.ofString (toString (n%4))).length=1:=by rcases hk with e|e|e|e<;>rw[e]<;>decide +kernel
  refine⟨_,rfl,.inl ⟨rfl,_,c_.of _i⟩,_,rfl,_,_,rfl,rfl,(by show(0:Int)<4;decide),n%4,rfl,db n0 (by show n%4<1000000000000000000;lia),_,_,rfl,rfl,aO (by rw[lk,ld];lia),_,rfl,_,_,rfl,rfl,aO (by rw[ay,lk,ld];lia),_,rfl,Z3,λlp _d=>?_⟩;have es:Str.ofString (toString (n%4))++"."++z=sh (.val (n%4) z):=by unfold sh;rfl
  rw[es];have s9:=ae _d (.lst [.str (sh (.val (n%4) z)),.str "=",.str (sh t)]);have hlp9:=aa (H:=H8) (a:=lp) (o:=.lst [.str (sh (.val (n%4) z)),.str "=",.str (sh t)]);have hL9:=s9 _ _ _i;have nlp:lp∉[d,Ls,R]:=by simp only[aaf,aaj,aaJ,abV];exact⟨aP Uc _d,aP _i _d,aP hR8 _d⟩
  refine⟨Ls,us,_,rfl,rfl,hL9,bX (by lia),?_⟩;have T9:=aQ hL9 (ys:=us++[.ref lp]);have k9:Kp [d,Ls,R] H8 (upd (upd H8 lp (.lst [.str (sh (.val (n%4) z)),.str "=",.str (sh t)])) Ls (.lst (us++[.ref lp]))):=(Kp.of s9).upd (by simp);refine⟨Ki,ru++[⟨n%4,z,t⟩],rs++[.ref tp],us++[.ref lp],_,_,_,_,_,rfl,Wq.trans (k8.trans k9),by rw[aw Ri.symm];exact s9 _ _ Uc,by lia,λx hx=>_2 x (by simp[hx]),by rw[aw nRL.symm];exact s9 _ _ hR8,Wz.imp λ_ _ h=>F_.same ((bG s9).trans T9) h,by rw[aaa,Hq];rfl,λx hx=>?_,aa,?_⟩
  ·rcases List.mem_append.mp hx with h|h
   ·exact UR x h
   ·rw[List.mem_singleton.mp h];exact⟨ts.ru hk nz,ts⟩
  ·rw[aaZ,<-aaE];refine((WM.imp λ_ _ h=>h.kp k8).imp λ_ _ h=>h.kp k9).snoc ⟨lp,rfl,nlp,?_⟩;rw[aw (λz=>nlp (by rw[z];simp))];exact hlp9
 ·rintro σ H' ⟨Kj,ru,rs,us,x6,x7,x8,x9,x10,rfl,kp,Ia,E7,_2,hR',WB,Hq,UR,Xc,Kf⟩;have nD:D∉[d,Ls,R]:=by
   simp only[aaf,aaj,aaJ,abV];exact⟨nDd,nDL,nDR⟩
  have dd4:=kp _ _ nD dd3;have ZS:=WB.len;refine⟨_,rfl,D,_,0,_,rfl,rfl,c_.of dd4,cb _ _,_,rfl,D,_,1,_,rfl,rfl,c_.of dd4,bY (j:=1) rfl,_,rfl,_,rfl,D,_,rfl,c_.of dd4,λsl QB=>?_⟩;have ec2:kZ (V.str z0::.str z1::zr.map V.str) (some 2) none=zr.map V.str:=by rw[show(some 2:Option Int)=some ((2:Nat):Int)from rfl,cU];rfl
  rw[ec2];have s3:=ae QB (.lst (zr.map V.str));refine⟨sl,_,rfl,.inl ⟨c_.of aa,λt ht=>?_⟩⟩;have s4:=ae ht (.tup (zr.map V.str));have Vx:=s3.trans s4;refine⟨_,rfl,R,rs,rfl,.inl ⟨c_.of (Vx _ _ hR'),λt2 Qz=>⟨Z4,λp hp=>?_⟩⟩⟩;have s5:=ae Qz (.tup rs);have s6:=ae hp (.tup [.str z0,.str z1,.ref t,.ref t2]);refine⟨_,rfl,Z2,λr s_=>?_⟩;have s7:=ae s_ (.tup [.ref p,.ref Ls]);have Vw:=Vx.trans (s5.trans (s6.trans s7));have s67:=s6.trans s7;have ht7:=s67 _ _ (s5 _ _ (aa (H:=upd H' sl (.lst (zr.map V.str))) (a:=t) (o:=.tup (zr.map V.str))));have ht27:=s67 _ _ (aa (H:=upd (upd H' sl (.lst (zr.map V.str))) t (.tup (zr.map V.str))) (a:=t2) (o:=.tup rs));have hp7:=s7 _ _ (aa (H:=upd (upd (upd H' sl (.lst (zr.map V.str))) t (.tup (zr.map V.str))) t2 (.tup rs)) (a:=p) (o:=.tup [.str z0,.str z1,.ref t,.ref t2]));refine q ⟨z0,z1,zr,ru⟩ r Ls us (.ref p) Kj _ (λb o hb e=>?_) (Vw _ _ Ia) (by lia) _2 ⟨p,t,t2,rs,rfl,hp7,ht7,ht27,WB.imp λ_ _ h=>F_.same (bG Vw) h⟩ ⟨⟨o z0 (by simp),o z1 (by simp),by show zr.length<=5;lia,λb hb=>o b (by simp[hb]),by show ru.length<=3;lia,λx hx=>(UR x hx).1⟩,λz=>?_,λx hx=>(UR x hx).2⟩ aa (Vw _ _ Xc) (s1.free QN) ?_
  ·refine Vw _ _ (kp b o ?_ (ZI _ _ (s1 _ _ e)));simp only[aaf,aaj,aaJ,abV];exact⟨by simpa using hb,aS (s1 _ _ e) QN,aS (s1 _ _ e) hR1⟩
  ·have z:ru=[]:=z;rw[z]at Hq;simp at Hq
   lia
  ·refine Kf.imp λws v ⟨b,e,n,x⟩=>⟨b,e,λz=>n ?_,Vw _ _ x⟩
   rw[List.mem_singleton.mp z];simp
structure Ht(g:Gr):Prop where
 s1:g.sg≠[]
 s3:g.sg.length<=3
 sg:∀s∈g.sg,uu s
 f1:g.fm≠[]
 f3:g.fm.length<=3
 fm:∀f∈g.fm,_' f
variable{vs:List V}
def sL{b F:Addr}(hb:H b=some (.lst (ws.map V.str)))(hw:ws≠[])(hF:H F=some (.lst vs))(hv:∀z r,vs≠V.str z::r):b≠F:=λe=>by rw[e,hF]at hb;obtain⟨z,r,rfl⟩:=aaQ hw;exact hv z (r.map V.str) (HO.lst.inj (aaq hb))
def Aw(cs:List Int):∀z r,cs.map V.int≠V.str z::r:=λz r e=>by cases cs<;>cases e
variable{α:Type}
theorem lP{R:α->V->Prop}(h:∀a v,R a v->∃p,v=.ref p){as:List α}(l:g9 R as vs):∀z r,vs≠V.str z::r:=λz r e=>by
 cases l with
 |nil=>cases e
 |cons x _=>
  obtain⟨p,hp⟩:=h _ _ x;rw[hp]at e;cases e
def yI:Sp:=λvs H Q _=>∃(d:Addr)(cs:List Int),vs=[.ref d]/\H d=some (.lst (cs.map V.int))/\cs.length=40/\Bd cs /\
 ∀(g:Gr)(r ll:Addr)(us:List V)(v:V)(H':Hp),Kp [d] H H'->K2 H' g v->Ht g->H' r=some (.lst [v,.ref ll])->H' ll=some (.lst us)->g9 (B0 H') (i_ g) us->Q (.ref r) H'
def DQ{f:Fm}:∀l∈J5 f,l≠[]:=by
 intro l hl;unfold J5 at hl;rcases List.mem_cons.mp hl with rfl|hl
 ·unfold J4;simp
 ·obtain⟨r,_,rfl⟩:=List.mem_map.mp hl;unfold MP;simp
theorem _root_.TM.g9.Tt{α:Type}{R R':α->V->Prop}:∀{as:List α}{vs:List V},(∀a∈as,∀v,R a v->R' a v)->g9 R as vs->g9 R' as vs
 |_,_,_,.nil=>.nil
 |_,_,h,.cons x y=>.cons (h _ aap _ x) (TM.g9.Tt (λa ha=>h a (aah _ ha)) y)
theorem vC(X:Tx K w mg T):d9 P w K mg base E6 5 T.qBG T.OQ ["_law_deck_here"] yI:=by
 have YY:=zx (P:=P) (w:=w) (base:=base) X;have YW:=vB (P:=P) (w:=w) (base:=base) X;refine X.R7.G9 u6 (λvs H Q E h=>?_) (λj8 A outer s H vs Q E hr h=>?_)
 ·obtain⟨_,_,rfl,_⟩:=h;rfl
 obtain⟨d,cs,rfl,hd,Rp,bd,q⟩:=h;refine⟨_,(af (aD (i:=1) u6.nd rfl oI1 (dD aal abj abi eY (qv 0))) (af (aD (i:=2) u6.nd rfl oI1 (aR ac)) (af (aD (i:=3) u6.nd rfl oI1 (aR ac)) (af (aD (i:=4) u6.nd rfl oI1 (aR ac)) (af (cF abc rfl (bV rfl X.n_ (o7 (ar bA aj (ar aV (dD aal abj abi eY (qv 0)) aj)) ac)) (aM (i:=5) u6.nd rfl oI1) (af (kt (aB YY hr rfl X.VT X.RZ.kp X.Yj .nil bu (y8 (dD aal abj abi eY (qv 0)) (d5 (qv 1) ac))) (du rfl (aW (aM (i:=6) u6.nd rfl oI1) (aW (aM (i:=7) u6.nd rfl oI1) cg)))) (af (bo (cM aal aaC aaB bf (qv 3) (d5 (qv 6) ac))) (ao (bo (cM aal aaC aaB bf (qv 2) (d5 (qv 7) ac))))))) (af (cF abc rfl (bV rfl X.n_ (o7 (ar bA aj (ar aV (dD aal abj abi eY (qv 0)) aj)) ac)) (aM (i:=5) u6.nd rfl oI1) (af (kt (aB YW hr rfl X.VR X.RX.kp X.Yh .nil bu (y8 (dD aal abj abi eY (qv 0)) (d5 (qv 0) (d5 (qv 1) ac)))) (du rfl (aW (aM (i:=8) u6.nd rfl oI1) (aW (aM (i:=9) u6.nd rfl oI1) cg)))) (af (bo (cM aal aaC aaB bf (qv 4) (d5 (qv 8) ac))) (ao (aD (i:=2) u6.nd rfl oI1 (ar cu (qv 2) (qv 9))))))) (ao (aH (aR (Ml (bw (y8 (bp bg rfl X.i' aaP (d5 (qv 3) ac)) (y8 (bp bg rfl X.i' aaP (d5 (qv 4) ac)) ac))) (d5 (qv 2) ac))))))))))),?_⟩;dsimp only[cq];obtain⟨c0,RK,rfl⟩:=iV (cs:=cs) (λz=>by rw[z]at Rp;cases Rp);rw[aaa,aaO]at Rp;refine⟨_,rfl,.inl ⟨rfl,_,c_.of hd⟩,d,_,_,rfl,rfl,hd,dL RK c0,?_⟩;rw[dh];have k1:Kp [d] H (upd H d (.lst (RK.map V.int))):=(Kp.refl _ _).upd (by simp);have PZ:=aa (H:=H) (a:=d) (o:=.lst (RK.map V.int));have bd0:Bd RK:=λx hx=>bd x (by simp[hx]);generalize upd H d (.lst (RK.map V.int))=H1 at k1 PZ⊢;refine⟨Z0,λLs RE=>⟨Z0,λS hS=>⟨Z0,λF hF=>?_⟩⟩⟩;have r1:=ae RE (.lst []);have r2:=ae hS (.lst []);have r3:=ae hF (.lst []);have Uk:=r3 _ _ (r2 _ _ (aa (H:=H1) (a:=Ls) (o:=.lst [])));have hS1:=r3 _ _ (aa (H:=upd H1 Ls (.lst [])) (a:=S) (o:=.lst []));have hF1:=aa (H:=upd (upd H1 Ls (.lst [])) S (.lst [])) (a:=F) (o:=.lst []);have Qa:=r1.trans (r2.trans r3);have Ri:Ls≠d:=aP PZ RE;have VP:S≠d:=aP (r1 _ _ PZ) hS;have UW:F≠d:=aP (r2 _ _ (r1 _ _ PZ)) hF;have nSL:S≠Ls:=aP (aa (H:=H1) (a:=Ls) (o:=.lst [])) hS;have nFL:F≠Ls:=aP (r2 _ _ (aa (H:=H1) (a:=Ls) (o:=.lst []))) hF;have nFS:F≠S:=aP (aa (H:=upd H1 Ls (.lst [])) (a:=S) (o:=.lst [])) hF;have hS0:H1 S=none:=r1.free hS;have hF0:H1 F=none:=(r1.trans r2).free hF;have hd2:=Qa _ _ PZ;generalize upd (upd (upd H1 Ls (.lst [])) S (.lst [])) F (.lst [])=H2 at Uk hS1 hF1 Qa hd2⊢;obtain⟨c1,Kj,rfl⟩:=iV (cs:=RK) (λz=>by rw[z]at Rp;cases Rp);rw[aaa,aaO]at Rp;have e1:=aar c1 (show(3:Int)≠0 by decide);have e2:=aan c1 (show(0:Int)<3 by decide);refine⟨_,rfl,.inl ⟨rfl,_,c_.of hd2⟩,d,_,_,rfl,rfl,hd2,dL Kj c1,_,_,rfl,rfl,(by show(0:Int)<3;decide),_,_,rfl,rfl,_,rfl,by lia,by lia,?_⟩;rw[dh];have k3:Kp [d] H2 (upd H2 d (.lst (Kj.map V.int))):=(Kp.refl _ _).upd (by simp);have U3:=aa (H:=H2) (a:=d) (o:=.lst (Kj.map V.int));have QP:upd H2 d (.lst (Kj.map V.int)) Ls=some (.lst []):=by rw[aw Ri];exact Uk
 have hS3:upd H2 d (.lst (Kj.map V.int)) S=some (.lst []):=by rw[aw VP];exact hS1
 have hF3:upd H2 d (.lst (Kj.map V.int)) F=some (.lst []):=by rw[aw UW];exact hF1
 have Hs:Bd Kj:=λx hx=>bd0 x (by simp[hx]);generalize upd H2 d (.lst (Kj.map V.int))=H3 at k3 U3 QP hS3 hF3⊢;refine df (n:=(1+c1%3).toNat) (λi σ H'=>∃(Ki:List Int)(ss:List Sg)(vs us:List V)(x5 x6 x7:Option V),σ=[some (.ref d),some (.int c0),some (.ref Ls),some (.ref S),some (.ref F),x5,x6,x7,none,none]/\Kp [d,Ls,S] H3 H'/\H' d=some (.lst (Ki.map V.int))/\Kj.length=Ki.length+i/\Bd Ki/\H' S=some (.lst vs)/\g9 (E_ H') ss vs/\ss.length=i/\(∀s∈ss,uu s)/\H' Ls=some (.lst us)/\g9 (QZ [d,Ls,S] H') (ss.map n9) us)
  ⟨Kj,[],[],[],none,none,none,rfl,Kp.refl _ _,U3,rfl,Hs,hS3,.nil,rfl,(λ_ z=>nomatch z),QP,.nil⟩ ?_ ?_
 ·rintro i σ H' hi ⟨Ki,ss,vs,us,x5,x6,x7,rfl,kp,Ia,E7,Kk,Jl,ZZ,Tn,Rf,Xc,Kf⟩;have lvs:=ZZ.len;have Ir:=Kf.len;rw[aad]at Ir;obtain⟨n,IY,rfl⟩:=iV (cs:=Ki) (λz=>by rw[z]at E7;simp at E7;lia);rw[aaa,aaO]at E7;refine⟨_,rfl,.inl ⟨rfl,_,c_.of Ia⟩,d,_,_,rfl,rfl,Ia,dL IY n,_,rfl,_,_,rfl,λsg t l v H5 Td s5 Z_ ht hl=>?_⟩;rw[dh]at s5;have k4:Kp [d,Ls,S] H' (upd H' d (.lst (IY.map V.int))):=(Kp.refl _ _).upd (by simp);have T4:=aQ Ia (ys:=IY.map V.int);have Kg:=aa (H:=H') (a:=d) (o:=.lst (IY.map V.int));have U6:upd H' d (.lst (IY.map V.int)) S=some (.lst vs):=by rw[aw VP];exact Jl
  have Uj:upd H' d (.lst (IY.map V.int)) Ls=some (.lst us):=by rw[aw Ri];exact Xc
  generalize upd H' d (.lst (IY.map V.int))=H4 at s5 k4 T4 Kg U6 Uj;have Ol:=(ZZ.imp λ_ _ h=>E_.same T4 h).imp λ_ _ h=>E_.same (bG s5) h;have Na:=(Kf.imp λ_ _ h=>h.kp k4).imp λ_ _ h=>h.kp (Kp.of s5);have U2:=s5 _ _ Kg;have Ui:=s5 _ _ U6;have Xa:=s5 _ _ Uj;have Vu:n9 sg≠[]:=by unfold n9;simp
  have nl:l∉[d,Ls,S]:=by simp only[aaf,aaj,aaJ,abV];exact⟨sL hl Vu U2 (Aw _),sL hl Vu Xa (lP (λ_ _ ⟨b,e,_⟩=>⟨b,e⟩) Na),sL hl Vu Ui (lP (λ_ _ ⟨p,_,_,_,_,e,_⟩=>⟨p,e⟩) Ol)⟩
  have k45:Kp [d,Ls,S] H' H5:=k4.trans (Kp.of s5);refine⟨t,_,rfl,k_.of ht,rfl,_,_,rfl,_,_,rfl,rfl,?_⟩;refine⟨_,rfl,.inl ⟨rfl,_,c_.of Ui⟩,_,rfl,S,vs,v,rfl,rfl,Ui,bX (by lia),?_⟩;have k6:Kp [d,Ls,S] H5 (upd H5 S (.lst (vs++[v]))):=(Kp.refl _ _).upd (by simp);have T6:=aQ Ui (ys:=vs++[v]);have U7:upd H5 S (.lst (vs++[v])) Ls=some (.lst us):=by rw[aw nSL.symm];exact Xa
  have U1:upd H5 S (.lst (vs++[v])) d=some (.lst (IY.map V.int)):=by rw[aw VP.symm];exact U2
  have hS6:=aa (H:=H5) (a:=S) (o:=.lst (vs++[v]));generalize upd H5 S (.lst (vs++[v]))=H6 at k6 T6 U7 U1 hS6⊢;refine⟨_,rfl,.inl ⟨rfl,_,c_.of U7⟩,_,rfl,Ls,us,_,rfl,rfl,U7,bX (by lia),?_⟩;have k7:Kp [d,Ls,S] H6 (upd H6 Ls (.lst (us++[.ref l]))):=(Kp.refl _ _).upd (by simp);have T7:=aQ U7 (ys:=us++[.ref l]);refine⟨IY,ss++[sg],vs++[v],us++[.ref l],_,_,_,rfl,kp.trans (k45.trans (k6.trans k7)),by rw[aw Ri.symm];exact U1,by lia,λx hx=>Kk x (by simp[hx]),by rw[aw nSL];exact hS6,?_,by rw[aaa,Tn];rfl,λx hx=>?_,aa,?_⟩
  ·exact(Ol.imp λ_ _ h=>E_.same (T6.trans T7) h).snoc (E_.same (T6.trans T7) Z_)
  ·rcases List.mem_append.mp hx with h|h
   ·exact Rf x h
   ·rw[List.mem_singleton.mp h];exact Td
  ·rw[aaZ];exact(Na.imp λ_ _ h=>h.kp (k6.trans k7)).snoc ⟨l,rfl,nl,(k6.trans k7) _ _ nl hl⟩
 rintro σ H4 ⟨Ki,ss,vs,us,x5,x6,x7,rfl,Wq,Kg,E7,Kk,U6,ZZ,Tn,Rf,Uj,Kf⟩;have nF3:F∉[d,Ls,S]:=by simp only[aaf,aaj,aaJ,abV];exact⟨UW,nFL,nFS⟩
 have hF4:=Wq _ _ nF3 hF3;obtain⟨c2,IY,rfl⟩:=iV (cs:=Ki) (λz=>by rw[z]at E7;simp at E7;lia);rw[aaa,aaO]at E7;have e3:=aar c2 (show(3:Int)≠0 by decide);have e4:=aan c2 (show(0:Int)<3 by decide);refine⟨_,rfl,.inl ⟨rfl,_,c_.of Kg⟩,d,_,_,rfl,rfl,Kg,dL IY c2,_,_,rfl,rfl,(by show(0:Int)<3;decide),_,_,rfl,rfl,_,rfl,by lia,by lia,?_⟩;rw[dh];have k5:Kp [d] H4 (upd H4 d (.lst (IY.map V.int))):=(Kp.refl _ _).upd (by simp);have T5:=aQ Kg (ys:=IY.map V.int);have U2:=aa (H:=H4) (a:=d) (o:=.lst (IY.map V.int));have Xa:upd H4 d (.lst (IY.map V.int)) Ls=some (.lst us):=by rw[aw Ri];exact Uj
 have Ui:upd H4 d (.lst (IY.map V.int)) S=some (.lst vs):=by rw[aw VP];exact U6
 have _k:upd H4 d (.lst (IY.map V.int)) F=some (.lst []):=by rw[aw UW];exact hF4
 have Pr:Bd IY:=λx hx=>Kk x (by simp[hx]);have Ol:=ZZ.imp λ_ _ h=>E_.same T5 h;have Vu:∀l∈ss.map n9,l≠[]:=λl hl=>by obtain⟨s,_,rfl⟩:=List.mem_map.mp hl;unfold n9;simp
 have Na:g9 (QZ [d,F] (upd H4 d (.lst (IY.map V.int)))) (ss.map n9) us:=g9.Tt (λl hl v ⟨b,e,n,x⟩=>by
  have ZQ:b≠d:=λz=>n (by rw[z];simp);have hb:upd H4 d (.lst (IY.map V.int)) b=some (.lst (l.map V.str)):=by rw[aw ZQ];exact x
  refine⟨b,e,?_,hb⟩;simp only[aaf,aaj,aaJ,abV];exact⟨ZQ,sL hb (Vu l hl) _k (λ_ _ z=>nomatch z)⟩) Kf
 generalize upd H4 d (.lst (IY.map V.int))=H5 at k5 T5 U2 Xa Ui _k Ol Na⊢;have nSF:S∉[d,F]:=by simp only[aaf,aaj,aaJ,abV];exact⟨VP,nFS.symm⟩
 have LST:∀a∈[d,F],∃xs,H5 a=some (.lst xs):=by
  intro a ha;simp only[aaf,aaj,aaJ]at ha;rcases ha with rfl|rfl
  ·exact⟨_,U2⟩
  ·exact⟨_,_k⟩
 have lss3:ss.length<=3:=by lia
 have Ir:=Na.len;rw[aad]at Ir;refine df (n:=(1+c2%3).toNat) (λi σ H'=>∃(U_:List Int)(fs:List Fm)(ws HW:List V)(ll:Addr)(x5 x6 x7 x8 x9:Option V),σ=[some (.ref d),some (.int c0),some (.ref ll),some (.ref S),some (.ref F),x5,x6,x7,x8,x9]/\Kp [d,F] H5 H'/\H' d=some (.lst (U_.map V.int))/\IY.length<=U_.length+4*i/\Bd U_/\H' F=some (.lst ws)/\g9 (G_ H') fs ws/\fs.length=i/\(∀f∈fs,_' f)/\ll∉[d,F]/\H' ll=some (.lst HW)/\g9 (QZ [d,F] H') (ss.map n9++fs.flatMap J5) HW/\HW.length<=3+4*i)
  ⟨IY,[],[],us,Ls,_,_,_,_,_,rfl,Kp.refl _ _,U2,by lia,Pr,_k,.nil,rfl,(λ_ z=>nomatch z),by simp only[aaf,aaj,aaJ,abV];exact⟨Ri,nFL.symm⟩,Xa,by simpa using Na,by lia⟩ ?_ ?_
 ·rintro i σ H' hi ⟨U_,fs,ws,HW,ll,x5,x6,x7,x8,x9,rfl,kp,Ia,J1,bd4,hF',Nb,Wn,NZ,nll,hll,TU,lus'⟩;have Ro:=Nb.len;obtain⟨n,Uw,rfl⟩:=iV (cs:=U_) (λz=>by rw[z]at J1;simp at J1;lia);rw[aaa,aaO]at J1;have U1:=aa (H:=H') (a:=d) (o:=.lst (Uw.map V.int));refine⟨_,rfl,.inl ⟨rfl,_,c_.of Ia⟩,d,_,_,rfl,rfl,Ia,dL Uw n,_,rfl,_,rfl,n,d,c0,Uw,rfl,by rw[dh];exact U1,by lia,λx hx=>bd4 x (by simp[hx]),λf r fl Xl v cs6 H7 k7 hd7 lc7 bd7 hf fd hr7 hfl T_ hfln=>?_⟩;rw[dh]at k7 T_;have k6:Kp [d,F] H' (upd H' d (.lst (Uw.map V.int))):=(Kp.refl _ _).upd (by simp);have T6:=aQ Ia (ys:=Uw.map V.int);have hF6:upd H' d (.lst (Uw.map V.int)) F=some (.lst ws):=by rw[aw UW];exact hF'
  generalize upd H' d (.lst (Uw.map V.int))=H6 at k7 k6 T6 hF6 U1 T_;have k67:Kp [d,F] H' H7:=k6.trans (k7.mono (by simp));have T7:n6 H6 H7:=k7.TT0 λa ha=>by rw[List.mem_singleton.mp ha];exact⟨_,U1⟩
  have _j:=k7 _ _ (by simpa using UW) hF6;have WX:=Nb.imp λ_ _ h=>G_.same (T6.trans T7) h;have hln7:=TU.imp λ_ _ h=>h.kp k67;have hll7:=k67 _ _ nll hll;have RA:g9 (QZ [d,F] H7) (J5 f) Xl:=g9.Tt (λl hl v ⟨b,e,nb,x⟩=>by
   refine⟨b,e,?_,x⟩;simp only[aaf,aaj,aaJ,abV];exact⟨by simpa using nb,sL x (DQ l hl) _j (lP (λ_ _ ⟨p,_,_,_,e,_⟩=>⟨p,e⟩) WX)⟩) hfln
  have lfu:=RA.len;have r3:=fd.ok.r3;have lfl:(J5 f).length<=4:=by unfold J5;rw[aac,aad];lia
  refine⟨r,_,rfl,k_.of hr7,rfl,_,_,rfl,_,_,rfl,rfl,?_⟩;refine⟨_,rfl,.inl ⟨rfl,_,c_.of _j⟩,_,rfl,F,ws,v,rfl,rfl,_j,bX (by lia),?_⟩;have k8:Kp [d,F] H7 (upd H7 F (.lst (ws++[v]))):=(Kp.refl _ _).upd (by simp);have T8:=aQ _j (ys:=ws++[v]);have nflF:fl≠F:=aP hF6 T_;have WN:upd H7 F (.lst (ws++[v])) ll=some (.lst HW):=k8 _ _ nll hll7;have WY:upd H7 F (.lst (ws++[v])) fl=some (.lst Xl):=by rw[aw nflF];exact hfl
  have Uc:upd H7 F (.lst (ws++[v])) d=some (.lst (cs6.map V.int)):=by rw[aw UW.symm];exact hd7
  have hF8:=aa (H:=H7) (a:=F) (o:=.lst (ws++[v]));have WV:=(WX.imp λ_ _ h=>G_.same T8 h).snoc (G_.same T8 hf);have WL:=(hln7.imp λ_ _ h=>h.kp k8).app (RA.imp λ_ _ h=>h.kp k8);generalize upd H7 F (.lst (ws++[v]))=H8 at k8 WN WY Uc hF8 WV WL⊢;refine⟨_,rfl,_,rfl,ll,fl,HW,Xl,rfl,rfl,WN,WY,aO (by lia),λz hz=>?_⟩;have s9:=ae hz (.lst (HW++Xl));have nz:z∉[d,F]:=by simp only[aaf,aaj,aaJ,abV];exact⟨aP Uc hz,aP hF8 hz⟩
  refine⟨cs6,fs++[f],ws++[v],HW++Xl,z,_,_,_,_,_,rfl,kp.trans (k67.trans (k8.trans (Kp.of s9))),s9 _ _ Uc,by lia,bd7,s9 _ _ hF8,WV.imp λ_ _ h=>G_.same (bG s9) h,by rw[aaa,Wn];rfl,λx hx=>?_,nz,aa,?_,by rw[aaa];lia⟩
  ·rcases List.mem_append.mp hx with h|h
   ·exact NZ x h
   ·rw[List.mem_singleton.mp h];exact fd
  ·rw[abm,<-aas];simpa using WL.imp λ_ _ h=>h.kp (Kp.of s9)
 ·rintro σ H' ⟨U_,fs,ws,HW,ll,x5,x6,x7,x8,x9,rfl,kp,Ia,J1,bd4,hF',Nb,Wn,NZ,nll,hll,TU,lus'⟩;have T9:=kp.TT0 LST;have Jl:=kp _ _ nSF Ui;have Ro:=Nb.len;refine⟨_,rfl,S,vs,rfl,.inl ⟨c_.of Jl,λt1 ZY=>?_⟩⟩;have r4:=ae ZY (.tup vs);refine⟨_,rfl,F,ws,rfl,.inl ⟨c_.of (r4 _ _ hF'),λt2 Qz=>⟨Z2,λgp hgp=>?_⟩⟩⟩;have r5:=ae Qz (.tup ws);have r6:=ae hgp (.tup [.ref t1,.ref t2]);refine⟨_,rfl,Z2,λrr hrr=>?_⟩;have r7:=ae hrr (.lst [.ref gp,.ref ll]);have Vz:=r4.trans (r5.trans (r6.trans r7));have g1:=r7 _ _ (r6 _ _ (r5 _ _ (aa (H:=H') (a:=t1) (o:=.tup vs))));have g2:=r7 _ _ (r6 _ _ (aa (H:=upd H' t1 (.tup vs)) (a:=t2) (o:=.tup ws)));have g3:=r7 _ _ (aa (H:=upd (upd H' t1 (.tup vs)) t2 (.tup ws)) (a:=gp) (o:=.tup [.ref t1,.ref t2]));have hss9:=Ol.imp λ_ _ h=>E_.same (T9.trans (bG Vz)) h;refine q ⟨ss,fs⟩ rr ll HW (.ref gp) _ (λb o hb e=>?_) ⟨gp,t1,t2,vs,ws,rfl,g3,g1,hss9,g2,Nb.imp λ_ _ h=>G_.same (bG Vz) h⟩ ⟨λz=>?_,lss3,Rf,λz=>?_,by show fs.length<=3;lia,NZ⟩ aa (Vz _ _ hll) ?_
  ·have Nv:b≠d:=by simpa using hb
   have e1:=k1 _ _ hb e;have e2:=Qa _ _ e1;have e3:=k3 _ _ hb e2;have e4:=Wq b o (by
    simp only[aaf,aaj,aaJ,abV];exact⟨Nv,aS e1 RE,aS e1 hS0⟩) e3
   have e5:=k5 _ _ hb e4;exact Vz _ _ (kp b o (by
    simp only[aaf,aaj,aaJ,abV];exact⟨Nv,aS e1 hF0⟩) e5)
  ·have z:ss=[]:=z;rw[z]at Tn;simp at Tn
   lia
  ·have z:fs=[]:=z;rw[z]at Wn;simp at Wn
   lia
  ·show g9 _ (ss.map n9++fs.flatMap J5) HW;exact TU.imp λws v ⟨b,e,_,x⟩=>⟨b,e,Vz _ _ x⟩
def vV{X:Cx}{K:W.Frag}(h:X.K=K):QY X "str.join" (CJ K):=h▸lU
structure Ej(LL:List (List Str)):Prop where
 HQ:LL.length<=60
 ws:∀ws∈LL,ws.length<=60/\ws≠[]/\∀w∈ws,w.length<=200
theorem qP{k:Nat}:∀{zs:List Str},(∀z∈zs,z.length<=k)->(zs.map (·.length)).sum<=k*zs.length
 |[],_=>by simp
 |z::zs,h=>by
  have h1:=h z aap;have h2:=qP λy hy=>h y (aah _ hy);rw[aaV,adE,aac,Nat.mul_add,Nat.mul_one]
  lia
theorem xP(h1:ws.length<=60)(h:∀w∈ws,w.length<=200):(ln ws).length<=12060/\(ws.map (·.length)).sum<=12000:=by
 have a:=qP h;have b:=jG 32 ws;have c:200*ws.length<=200*60:=acT _ h1;unfold ln;rw[uj]
 lia
variable{LL:List (List Str)}
theorem lG(ok:Ej LL):(GL LL).length<=723660/\((LL.map ln).map (·.length)).sum<=723600:=by
 have a:=qP (k:=12060) (zs:=LL.map ln) λz hz=>by obtain⟨l,hl,rfl⟩:=List.mem_map.mp hz;obtain⟨x,_,y⟩:=ok.ws l hl;exact(xP x y).1
 have b:=jG 10 (LL.map ln);rw[aad]at a b;have c:12060*LL.length<=12060*60:=acT _ ok.HQ;have d:=ok.HQ;unfold GL;rw[Ag]
 lia
def qV:Sp:=λvs H Q _=>∃(l:Addr)(us:List V)(LL:List (List Str)),vs=[.ref l]/\H l=some (.lst us)/\g9 (B0 H) LL us/\Ej LL/\∀H',b6 H H'->Q (.str (GL LL)) H'
def yC:Sp:=λvs H Q _=>∃(l:Addr)(xs:List V)(n:Nat)(v:V),vs=[.ref l,.int n,v]/\H l=some (.lst xs)/\xs.length<=1000/\∀r H',b6 H H'->H r=none->H' r=some (.lst (xs.take n++[v]++xs.drop (n+1)))->Q (.ref r) H'
def xr:Sp:=λvs H Q _=>∃(l:Addr)(xs:List V)(n:Nat)(v:V),vs=[.ref l,.int n,v]/\H l=some (.lst xs)/\xs.length<=1000/\∀r H',b6 H H'->H r=none->H' r=some (.lst (xs.take n++[v]++xs.drop n))->Q (.ref r) H'
theorem jx(X:Tx K w mg T):d9 P w K mg base E6 1 T.qBO T.OK ["_law_lines"] qV:=by
 refine X.Ig.G9 Cg (λvs H Q E h=>?_) (λj8 A outer s H vs Q E hr h=>?_)
 ·obtain⟨_,_,_,rfl,_⟩:=h;rfl
 obtain⟨l,us,LL,rfl,hl,A3,ok,q⟩:=h;refine⟨_,(ao (aH (cM abq acG acF lU ak (SM (gV (ys:=[]) (js:=[]) rfl rfl (cK (qv 0)) (λ_ _ _ _ _=>cJ) (λ_ _ _ _ _=>(rN (K:=K) rfl abq acG acF (vV (K:=K) rfl) ak (d5 (qv 0) ac)))) ac)))),?_⟩;dsimp only[cq];have Ir:=A3.len;have HQ:=ok.HQ;have l1:(Str.ofString " ").length=1:=by decide
 have l2:(Str.ofString "\n").length=1:=by decide
 refine⟨rfl,_,rfl,l,rfl,⟨_,c_.of hl⟩,λD hD=>?_⟩;refine lh (K:=K) (xs:=us) (ys:=(LL.map ln).map V.str) (bX (by lia)) (by rw[aad,aad,Ir]) (c_.of hl) hD (λi x y H' hx hy sm Q' q'=>?_) (λH2 s2 h2=>?_)
 ·obtain⟨ws,Ho,b,rfl,hb⟩:=A3.get hx;rw[aaI,aaI,Ho]at hy;have ey:y=V.str (ln ws):=(aaq hy).symm;obtain⟨w1,_,w2⟩:=ok.ws ws (aak Ho);have lw:=(xP w1 w2).2;refine⟨rfl,_,rfl,_,_,ws,rfl,rfl,c_.of (sm _ _ hb),by rw[l1];lia,?_⟩;rw[ey]at q';exact q' _ (b6.refl _)
 ·have ll:=(lG ok).2;refine⟨_,_,LL.map ln,rfl,rfl,c_.of h2,by rw[aad,l2];lia,q _ s2⟩
theorem mV(X:Tx K w mg T):d9 P w K mg base E6 1 T.qBP T.OJ ["_law_rows", "_law_at", "_law_new"] yC:=by
 refine X.K9.G9 Cf (λvs H Q E h=>?_) (λj8 A outer s H vs Q E hr h=>?_)
 ·obtain⟨_,_,_,_,rfl,_⟩:=h;rfl
 obtain⟨l,xs,n,v,rfl,hl,l1,q⟩:=h;refine⟨_,(ao (aH (ar cu (ar cu (bc bT (qv 0) bE (bi (qv 1))) (aR (d5 (qv 2) ac))) (bc bT (qv 0) (bi (ar bA (qv 1) aj)) bE)))),?_⟩;dsimp only[cq];refine⟨_,rfl,_,rfl,_,rfl,l,_,rfl,c_.of hl,λa ha=>?_⟩;rw[cT];have s1:=ae ha (.lst (xs.take n));refine⟨_,rfl,Z1,λb hb=>?_⟩;have s2:=ae hb (.lst [v]);have lt:=ace n xs;refine⟨a,b,_,_,rfl,rfl,s2 _ _ aa,aa,aO (by simp;lia),λc hc=>?_⟩;have s3:=ae hc (.lst (xs.take n++[v]));have MO:=s1.trans (s2.trans s3);refine⟨_,rfl,_,rfl,_,_,rfl,rfl,_,rfl,l,_,rfl,c_.of (MO _ _ hl),λe he=>?_⟩;have en:((n:Int)+1)=((n+1:Nat):Int):=by lia
 rw[en,cU];have s4:=ae he (.lst (xs.drop (n+1)));refine⟨c,e,_,_,rfl,rfl,s4 _ _ aa,aa,aO (by simp;lia),λf hf=>?_⟩;have s5:=ae hf (.lst (xs.take n++[v]++xs.drop (n+1)));exact q f _ (MO.trans (s4.trans s5)) ((MO.trans s4).free hf) aa
theorem rZ(X:Tx K w mg T):d9 P w K mg base E6 1 T.qBV T.OE ["_law_rows", "_law_at", "_law_new"] xr:=by
 refine X.K7.G9 Ce (λvs H Q E h=>?_) (λj8 A outer s H vs Q E hr h=>?_)
 ·obtain⟨_,_,_,_,rfl,_⟩:=h;rfl
 obtain⟨l,xs,n,v,rfl,hl,l1,q⟩:=h;refine⟨_,(ao (aH (ar cu (ar cu (bc bT (qv 0) bE (bi (qv 1))) (aR (d5 (qv 2) ac))) (bc bT (qv 0) (bi (qv 1)) bE)))),?_⟩;dsimp only[cq];refine⟨_,rfl,_,rfl,_,rfl,l,_,rfl,c_.of hl,λa ha=>?_⟩;rw[cT];have s1:=ae ha (.lst (xs.take n));refine⟨_,rfl,Z1,λb hb=>?_⟩;have s2:=ae hb (.lst [v]);have lt:=ace n xs;refine⟨a,b,_,_,rfl,rfl,s2 _ _ aa,aa,aO (by simp;lia),λc hc=>?_⟩;have s3:=ae hc (.lst (xs.take n++[v]));have MO:=s1.trans (s2.trans s3);refine⟨_,rfl,_,rfl,_,rfl,l,_,rfl,c_.of (MO _ _ hl),λe he=>?_⟩;rw[cU];have s4:=ae he (.lst (xs.drop n));refine⟨c,e,_,_,rfl,rfl,s4 _ _ aa,aa,aO (by simp;lia),λf hf=>?_⟩;have s5:=ae hf (.lst (xs.take n++[v]++xs.drop n));exact q f _ (MO.trans (s4.trans s5)) ((MO.trans s4).free hf) aa
structure Wd(z:Str):Prop where
 len:z.length<=200
 ch:∀c∈z.cps.toList,c<128/\c≠32/\c≠10
variable{c:Nat}
theorem fi(h:ce c=true):c<128/\c≠32/\c≠10:=by
 unfold ce at h;simp only[aaU,aau]at h
 lia
theorem hU(h:g7 z):Wd z:=⟨by rw[aq];have:=h.2.1;lia,λc hc=>fi (h.2.2 c hc)⟩
variable{a b:Str}
def bH(ha:∀c∈a.cps.toList,c<128/\c≠32/\c≠10)(hb:∀c∈b.cps.toList,c<128/\c≠32/\c≠10):∀c∈(a++b).cps.toList,c<128/\c≠32/\c≠10:=by
 intro c hc;rw[ap]at hc;rcases List.mem_append.mp hc with h|h
 ·exact ha c h
 ·exact hb c h
def fN(hc:c∈b.cps.toList)(hn:ce c=false):¬g7 (a++b):=λh=>by have:=h.2.2 c (by rw[ap];exact aaT _ hc);rw[hn]at this;cases this
def BY:Sp:=λvs H Q _=>∃(c:Int)(nm:Str),vs=[.int c,.str nm]/\g7 nm/\∀z H',b6 H H'->¬g7 z->Wd z->z.length<=100->Q (.str z) H'
def FT(x:Str):(Txt.mul x 9).cps.toList=(List.replicate 9 x.cps.toList).flatten:=by
 unfold Txt.mul;rw[aaK (by decide)];split
 ·rename_i h;have h0:x.length=0:=by
   rcases Bool.or_eq_true_iff.mp h with h|h
   ·exact absurd h (by decide)
   ·simpa using h
  have:x.cps.toList=[]:=List.length_eq_zero_iff.mp (by rw[<-aq];exact h0);rw[this];rfl
 ·rw[show((⟨(List.replicate (9:Int).toNat x.cps).foldl (·++·) #[]⟩:Str)).cps.toList=_ from jN _ _];simp only[List.map_replicate];rfl
theorem gD(x:Str):(Txt.mul x 9).length=9*x.length:=by
 rw[aq,FT,aq];simp
 lia
variable{x:Str}
def vU(h:c∈(Txt.mul x 9).cps.toList):c∈x.cps.toList:=by rw[FT]at h;obtain⟨l,hl,hc⟩:=List.mem_flatten.mp h;rw[(List.mem_replicate.mp hl).2]at hc;exact hc
theorem lT(X:Tx K w mg T):d9 P w K mg base E6 1 T.qAS T.O5 ["_law_cell", "_law_name"] BY:=by
 refine X.MI.G9 Cs (λvs H Q E h=>?_) (λj8 A outer s H vs Q E hr h=>?_)
 ·obtain⟨_,_,rfl,_⟩:=h;rfl
 obtain⟨c,nm,rfl,nn,q⟩:=h;refine⟨_,(ao (aH (aU aE (aR (d_ ak (d_ ak (o7 (ar au (qv 1) ak) (d_ ak (o7 (ar au (qv 1) ak) (o7 (ar au (qv 1) ak) (d_ ak (o7 (ar au ak (ar dM (qv 1) aj)) ac))))))))) (ar aV (qv 0) aj) (λ_ _=>rfl)))),?_⟩;dsimp only[cq];have ln8:nm.length<=8:=by rw[aq];exact nn.2.1
 have ln1:1<=nm.length:=by rw[aq];exact List.length_pos_iff.mpr nn.1
 have l1:(Str.ofString "1").length=1:=by decide
 have l2:(Str.ofString ".").length=1:=by decide
 have l3:(Str.ofString ":").length=1:=by decide
 have l4:(Str.ofString "a").length=1:=by decide
 have w0:=(hU nn).ch;refine⟨_,rfl,_,_,rfl,rfl,aO (by rw[l1];lia),_,rfl,_,_,rfl,rfl,aO (by rw[l2];lia),_,rfl,_,_,rfl,rfl,aO (by rw[l3];lia),_,rfl,_,_,rfl,rfl,by lia,by decide,by decide,_,_,rfl,rfl,aO (by rw[l4,gD];lia),Z8,λp hp=>?_⟩;have s1:=ae hp (.lst ((["", "abcdefghi",nm++"1", "A",nm++".",nm++":", "0", "a"++Txt.mul nm 9]:List Str).map V.str));obtain⟨z,az,hz⟩:=iL (zs:=["", "abcdefghi",nm++"1", "A",nm++".",nm++":", "0", "a"++Txt.mul nm 9]) (m:=c%8) (aar _ (by decide)) (aan _ (by decide));refine⟨_,rfl,_,_,rfl,rfl,(by show(0:Int)<8;decide),p,_,_,.str z,rfl,rfl,c_.of aa,az,q z _ s1 ?_ ?_ ?_⟩
 ·simp only[aaf,aaj,aaJ]at hz;rcases hz with rfl|rfl|rfl|rfl|rfl|rfl|rfl|rfl
  ·intro h;exact h.1 (by decide)
  ·intro h;exact absurd h.2.1 (by decide)
  ·exact fN (c:=49) (by decide) (by decide)
  ·intro h;exact absurd (h.2.2 65 (by decide)) (by decide)
  ·exact fN (c:=46) (by decide) (by decide)
  ·exact fN (c:=58) (by decide) (by decide)
  ·intro h;exact absurd (h.2.2 48 (by decide)) (by decide)
  ·intro h;have:=h.2.1;rw[<-aq,ay,l4,gD]at this
   lia
 ·simp only[aaf,aaj,aaJ]at hz;rcases hz with rfl|rfl|rfl|rfl|rfl|rfl|rfl|rfl
  ·exact⟨by decide,by decide⟩
  ·exact⟨by decide,by decide⟩
  ·exact⟨by rw[ay,l1];lia,bH w0 (by decide)⟩
  ·exact⟨by decide,by decide⟩
  ·exact⟨by rw[ay,l2];lia,bH w0 (by decide)⟩
  ·exact⟨by rw[ay,l3];lia,bH w0 (by decide)⟩
  ·exact⟨by decide,by decide⟩
  ·exact⟨by rw[ay,l4,gD];lia,bH (by decide) λc hc=>w0 c (vU hc)⟩
 ·simp only[aaf,aaj,aaJ]at hz;rcases hz with rfl|rfl|rfl|rfl|rfl|rfl|rfl|rfl
  ·decide
  ·decide
  ·rw[ay,l1];lia
  ·decide
  ·rw[ay,l2];lia
  ·rw[ay,l3];lia
  ·decide
  ·rw[ay,l4,gD];lia
noncomputable def eH:Nat->Tm
 |0=>.mark
 |n+1=>.call "add" [eH n,eH n]
noncomputable def dS:Nat->Tm
 |0=>.num 1
 |n+1=>.call "show" [dS n]
structure Gt(t:Tm):Prop where
 wf:Wf t
 g:30<aX t\/6<depth t
 p:aX t<=100
 l:(sh t).length<=200
 nn:∀c∈(sh t).cps.toList,c<128/\c≠32/\c≠10
theorem uk:∀n,Wf (eH n)
 |0=>by unfold eH Wf;trivial
 |n+1=>by unfold eH Wf;exact⟨by decide,by simp,by simp,by unfold r_ r_ r_;exact⟨uk n,uk n,trivial⟩⟩
theorem tY:∀n,Wf (dS n)
 |0=>by unfold dS Wf;decide
 |n+1=>by unfold dS Wf;exact⟨by decide,by simp,by simp,by unfold r_ r_;exact⟨tY n,trivial⟩⟩
def Ec:Gt (eH 4):=by
 refine⟨uk 4,?_,?_,by decide +kernel,by decide +kernel⟩
 ·left;simp[eH,aX,bj]
 ·simp[eH,aX,bj]
def AN:Gt (dS 6):=by
 refine⟨tY 6,?_,?_,by decide +kernel,by decide +kernel⟩
 ·right;simp[dS,depth,aZ]
 ·simp[dS,aX,bj]
def EQ:(Str.ofString "add(").cps.toList=(Str.ofString "add").cps.toList++[40]:=by decide
def CC:(Str.ofString "show(").cps.toList=(Str.ofString "show").cps.toList++[40]:=by decide
def rB:(Str.ofString ")").cps.toList=[41]:=by decide
def yX:(Str.ofString ",").cps.toList=[44]:=by decide
def Eb(n:Nat): "add("++sh (eH n)++","++sh (eH n)++")" = sh (eH (n+1)):=by apply bx;rw[eH,ba];unfold aT aT;simp only[ap,EQ,rB,yX,aas,aaE,aaS]
def AM(n:Nat): "show("++sh (dS n)++")" = sh (dS (n+1)):=by apply bx;rw[dS,ba];unfold aT;simp only[ap,CC,rB,aas,aaE,aaS]
def AX:∀n,n<=4->(sh (eH n)).length<=200:=by decide +kernel
def wS:∀n,n<=6->(sh (dS n)).length<=200:=by decide +kernel
def uN:Sp:=λvs H Q _=>∃c:Int,vs=[.int c]/\∀t H',Gt t->b6 H H'->Q (.str (sh t)) H'
theorem sk(X:Tx K w mg T):d9 P w K mg base E6 1 T.qBK T.OO ["_law_cell"] uN:=by
 refine X.R6.G9 Hc (λvs H Q E h=>?_) (λj8 A outer s H vs Q E hr h=>?_)
 ·obtain⟨_,rfl,_⟩:=h;rfl
 obtain⟨c,rfl,q⟩:=h;refine⟨_,(af (aD (i:=1) Hc.nd rfl oI1 aj) (af (aD (i:=2) Hc.nd rfl oJ1 (ar Db (aR (d_ ak ac)) (qv 1))) (af (be (aC bM (ar aV (qv 0) aj) aj (aK _)) (af (aD (i:=2) Hc.nd rfl oJ1 (aR (d_ ak ac))) (ao (cF abc rfl (bV rfl X.n_ (d_ aj ac)) (aM (i:=3) Hc.nd rfl oI1) (ao (aD (i:=2) Hc.nd rfl oJ1 (aR (o7 (ar au (ar au ak (aU aE (qv 2) aj (λ_ _=>rfl))) ak) ac))))))) aI) (af (gx abc (aC pW (aA b8 rfl X.ff aay (d5 (qv 2) ac)) aj (aK _)) (ao (aD (i:=2) Hc.nd rfl oJ1 (gV (ys:=["_law_rows"]) (js:=[2]) rfl rfl (bV rfl X.n_ (o7 (ar bh (aA b8 rfl X.ff aay (d5 (qv 2) ac)) aj) ac)) (λ_ _ _ _ _=>cJ) (λ_ _ _ _ _=>(ar au (ar au (ar au (ar au ak (aU (cW (K:=K) rfl) (qv 1) (ar eS aj (qv 0)) (λ_ _=>rfl))) ak) (aU (cW (K:=K) rfl) (qv 1) (ar bA (ar eS aj (qv 0)) aj) (λ_ _=>rfl))) ak)))))) (ao (aH (aU aE (qv 2) aj (λ_ _=>rfl)))))))),?_⟩;dsimp only[cq];refine⟨Z1,λa ha=>?_⟩;have s1:=ae ha (.lst [.str "mark"]);refine⟨_,rfl,a,_,_,rfl,rfl,aa,(by decide),(by decide),(by decide),λb hb=>?_⟩;have e16:(List.replicate (16:Int).toNat [V.str "mark"]).flatten=List.replicate 16 (V.str (sh (eH 0))):=by decide +kernel
 rw[e16];have s2:=ae hb (.lst (List.replicate 16 (V.str (sh (eH 0)))));have U4:=aa (H:=upd H a (.lst [.str "mark"])) (a:=b) (o:=.lst (List.replicate 16 (V.str (sh (eH 0)))));have P':=s1.trans s2;generalize upd (upd H a (.lst [.str "mark"])) b (.lst (List.replicate 16 (V.str (sh (eH 0)))))=H2 at s2 U4 P'⊢;dsimp only[j4];refine bU λN y=>?_;have fin:∀(l:Addr)(x3:Option V)(G:Hp)(m:Nat)(t:Tm),b6 H G->G l=some (.lst (List.replicate (2 ^ m) (V.str (sh t))))->(m<=4/\t=eH (4-m))\/(m=0/\t=dS 6)->N [some (.int c),some (.int 16),some (.ref l),x3] G:=by
  intro l x3 G m t sg hl hm;refine y _ _ ?_;refine⟨λm σ H'=>∃(l:Addr)(x3:Option V)(t:Tm),σ=[some (.int c),some (.int 16),some (.ref l),x3]/\b6 H H'/\H' l=some (.lst (List.replicate (2 ^ m) (V.str (sh t))))/\((m<=4/\t=eH (4-m))\/(m=0/\t=dS 6)),⟨m,l,x3,t,rfl,sg,hl,hm⟩,?_⟩;rintro m σ G1 ⟨l,x3,t,rfl,sg,hl,hm⟩;refine⟨_,rfl,l,_,rfl,.inl (c_.of hl),_,_,rfl,rfl,_,rfl,bI (λq_=>⟨_,λl_ __ h=>h,?_⟩) (λWU=>?_)⟩
  ·rw[aa5]at q_;obtain⟨k,rfl⟩:∃k,m=k+1:=by
    cases m with
    |zero=>simp at q_
    |succ k=>exact⟨k,rfl⟩
   obtain⟨m4,rfl⟩:k+1<=4/\t=eH (4-(k+1)):=by
    rcases hm with h|h
    ·exact h
    ·exact absurd h.1 (by lia)
   have pw:2 ^ (k+1)=2*2 ^ k:=by rw[acz,adO]
   have pk:2 ^ k<=8:=abb (Nat.pow_le_pow_right (by decide) (show k<=3 by lia)) (by decide);have ej:4-k=4-(k+1)+1:=by lia
   have bl:=AX (4-(k+1)) (by lia);generalize 4-(k+1)=j at hl bl ej;have l4:(Str.ofString "add(").length=4:=by decide
   have l1:(Str.ofString ",").length=1:=by decide
   have l2:(Str.ofString ")").length=1:=by decide
   have eh:((List.replicate (2 ^ (k+1)) (V.str (sh (eH j)))).length:Int) / 2=((2 ^ k:Nat):Int):=by rw[aa5,pw];lia
   refine⟨_,rfl,l,_,rfl,.inl (c_.of hl),_,_,rfl,rfl,⟨by decide,by decide⟩,_,rfl,by rw[eh];lia,by rw[eh];lia,λD hD=>?_⟩;rw[eh];have en:(((2 ^ k:Nat):Int)).toNat=2 ^ k:=aco _;refine nU (n:=(((2 ^ k:Nat):Int)).toNat) (λi acc G=>acc=List.replicate i (V.str (sh (eH (j+1))))/\b6 G1 G/\G D=some (.lst acc)) (abp (show _<=1000 by rw[en];lia) (by decide)) ⟨rfl,ae hD _,aa⟩ (λi acc G ⟨e,_,d⟩=>⟨d,by rw[e,aa5]⟩) ?_ ?_
   ·rintro i m' acc G hi ⟨e,sm,dd⟩ hm';rw[en]at hi;have at1:∀n:Nat,n<2 ^ (k+1)->y6 (List.replicate (2 ^ (k+1)) (V.str (sh (eH j)))) (n:Int)=some (V.str (sh (eH j))):=λn hn=>bY (by rw[abT,aaX hn]);refine⟨_,rfl,_,rfl,_,_,rfl,rfl,.inl ⟨by decide,by decide⟩,l,_,_,_,rfl,rfl,c_.of (sm _ _ hl),(show y6 _ (2*(0+(i:Int)))=_ by rw[show(2*(0+(i:Int)))=((2*i:Nat):Int)by lia];exact at1 _ (by lia)),_,_,rfl,rfl,aO (by rw[l4];lia),_,_,rfl,rfl,aO (by rw[ay,l4,l1];lia),_,rfl,_,rfl,_,_,rfl,rfl,.inl ⟨by decide,by decide⟩,_,_,rfl,rfl,l,_,_,_,rfl,rfl,c_.of (sm _ _ hl),(show y6 _ (2*(0+(i:Int))+1)=_ by rw[show(2*(0+(i:Int))+1)=((2*i+1:Nat):Int)by lia];exact at1 _ (by lia)),_,_,rfl,rfl,aO (by rw[ay,ay,l4,l1];lia),_,_,rfl,rfl,aO (by rw[ay,ay,ay,l4,l1,l2];lia),?_⟩;rw[Eb];exact wW (by rw[en];exact hi) hm' dd ⟨by rw[e,List.replicate_succ'],aL hD sm,aa⟩
   ·rintro acc G ⟨e,sm,dd⟩;rw[en]at e;refine⟨k,by lia,D,_,eH (j+1),rfl,sg.trans sm,by rw[dd,e],.inl ⟨by lia,by rw[ej]⟩⟩
  ·have m0:m=0:=by
    cases m with
    |zero=>rfl
    |succ m=>
     rw[aa5]at WU;have:2 ^ (m+1)>=2:=by have:=Nat.one_le_two_pow (n:=m);lia
     lia
   subst m0;have Jd:G1 l=some (.lst [V.str (sh t)]):=hl;have gt:Gt t:=by
    rcases hm with⟨_,rfl⟩|⟨_,rfl⟩
    ·exact Ec
    ·exact AN
   exact⟨_,rfl,l,_,0,_,rfl,rfl,c_.of Jd,cb _ _,q t _ gt sg⟩
 refine⟨_,rfl,_,_,rfl,rfl,(by show(0:Int)<2;decide),rfl,_,rfl,bI (λh1=>?_) (λh1=>?_)⟩
 ·refine⟨Z1,λr s_=>?_⟩;have s3:=ae s_ (.lst [.str "1"]);refine⟨_,rfl,by decide,by decide,?_⟩;refine df (n:=6) (λi σ H'=>∃(l:Addr)(x3:Option V),σ=[some (.int c),some (.int 16),some (.ref l),x3]/\b6 H H'/\H' l=some (.lst [.str (sh (dS i))]))
   ⟨r,none,rfl,P'.trans s3,by rw[aa,show sh (dS 0) = "1" by decide +kernel]⟩ ?_ ?_
  ·rintro i σ H' hi ⟨l,x3,rfl,sm,hl⟩;have dl:=wS i (by lia);have l5:(Str.ofString "show(").length=5:=by decide
   have l1:(Str.ofString ")").length=1:=by decide
   refine⟨_,rfl,l,_,0,_,rfl,rfl,c_.of hl,cb _ _,_,_,rfl,rfl,aO (by rw[l5];lia),_,_,rfl,rfl,aO (by rw[ay,l5,l1];lia),Z1,λp hp=>?_⟩;rw[AM];exact⟨p,_,rfl,sm.trans (ae hp _),aa⟩
  ·rintro σ H' ⟨l,x3,rfl,sm,hl⟩;exact fin l x3 H' 0 (dS 6) sm hl (.inr ⟨rfl,rfl⟩)
 ·exact fin b none H2 4 (eH 0) P' U4 (.inl ⟨aam _,rfl⟩)
structure RS(LL:List (List Str)):Prop where
 ne:LL≠[]
 ll:Ej LL
 wd:∀ws∈LL,∀w∈ws,Wd w
 p:∀ws∈LL,∀w∈ws,∀t,w=sh t->Wf t->aX t<=100
theorem RS.ok(h:RS LL):Ei LL where
 ne:=h.ne
 HQ:=abb h.ll.HQ (by decide)
 ws:=λws hw=>⟨⟨λw Rv=>⟨by have:=(h.wd ws hw w Rv).len;lia,λc hc=>((h.wd ws hw w Rv).ch c hc).1⟩,by have:=(h.ll.ws ws hw).1;lia⟩,(h.ll.ws ws hw).2.1⟩
 wd:=λws hw w Rv c hc=>((h.wd ws hw w Rv).ch c hc).2
 len:=by have:=(lG h.ll).1;lia
 p:=h.p
structure GY(LL:List (List Str)):Prop where
 l:RS LL
 ng:∀r,u9 r∈LL->¬KR r.tx
 no:¬sY LL\/∃r,u9 r∈LL/\¬GU r.tx
structure Nj(LL:List (List Str)):Prop where
 l:RS LL
 gr:sY LL
 all:∀r,u9 r∈LL->GU r.tx
 g:∃r,u9 r∈LL/\KR r.tx
def iD(l:List Str):Prop:=(∃s,Ma s/\l=n9 s)\/(∃f,xh f/\f.ru=[]/\l=Iu f)\/∃r,qy r/\l=u9 r
variable{l:List Str}
def jL(h:sY LL)(hl:l∈LL):iD l:=by
 obtain⟨ss,fs,o1,o2,rfl⟩:=h;rcases List.mem_append.mp hl with hl|hl
 ·obtain⟨s,hs,rfl⟩:=List.mem_map.mp hl;exact .inl ⟨s,o1 s hs,rfl⟩
 ·exact .inr (gH ⟨fs,o2,rfl⟩ hl)
variable{s:Sg}{f:Fh}
def mK:n9 s≠Iu f:=λe=>by have:=(aab e).1;exact absurd this (by decide)
def jk{r:Rh}:n9 s≠u9 r:=λe=>cO (r:=r) (z:="sign") (by decide) (aab e).1.symm
def fu{r:Rh}:Iu f≠u9 r:=λe=>cO (r:=r) (z:="form") (by decide) (aab e).1.symm
def uY{r r':Rh}(e:u9 r=u9 r'):r.tx=r'.tx:=by unfold u9 at e;exact(aab (aab (aab e).2).2).1
variable{ss:List Sg}
def jo{fs:List Fh}{r:Rh}(h:u9 r∈ss.map n9++fs.flatMap A9):∃f∈fs,∃r'∈f.ru,r'.tx=r.tx:=by
 rcases List.mem_append.mp h with h|h
 ·obtain⟨s,_,e⟩:=List.mem_map.mp h;exact absurd e jk
 ·obtain⟨f,hf,h⟩:=List.mem_flatMap.mp h;unfold A9 at h;rcases List.mem_cons.mp h with e|h
  ·exact absurd e.symm fu
  ·obtain⟨r',s_,e⟩:=List.mem_map.mp h;exact⟨f,hf,r',s_,uY e⟩
def jK{fs:List Fh}{r:Rh}(hf:f∈fs)(hr:r∈f.ru):u9 r∈ss.map n9++fs.flatMap A9:=aaT _ (List.mem_flatMap.mpr ⟨f,hf,aah _ (List.mem_map.mpr ⟨r,hr,rfl⟩)⟩)
variable{y:Str}
theorem Au(h:¬GU y):NF y=none:=by
 cases e:NF y with
 |none=>rfl
 |some t=>exact absurd ⟨t,(dI e).1,(dI e).2.1⟩ h
theorem Av(h:KR y):NF y=none:=by
 cases e:NF y with
 |none=>rfl
 |some t=>
  obtain⟨u,eu,wu,gu⟩:=h;obtain⟨et,wt,p,d⟩:=dI e;have:=iR wt wu (et.symm.trans eu);subst this
  lia
def nh{fs:List Fh}{r:Rh}(hf:f∈fs)(hr:r∈f.ru)(h:NF r.tx=none):¬Good Ox fs:=λg=>by
 obtain⟨x,e⟩:=g f hf;unfold Ox at e;split at e
 ·rename_i gr;obtain⟨y,e'⟩:=gr r hr;unfold La at e';rw[h]at e';cases e'
 ·cases e
variable{Q:VK}{N G:Addr}{E:XK}
def GY.asks(h:GY LL)(qe:∀H',b6 H H'->E (.ref N) none H'):mE N G [.str (GL LL)] H Q E:=by
 refine⟨LL,rfl,h.l.ok,λss fs o1 o2 e=>⟨λg=>?_,λj f i r hf _ hr _=>⟨λ_=>qe,λhg=>?_⟩⟩,λ_=>qe⟩
 ·rcases h.no with hn|⟨r,hr,ht⟩
  ·exact absurd ⟨ss,fs,o1,o2,e⟩ hn
  ·rw[e]at hr;obtain⟨f,hf,r',s_,e'⟩:=jo hr;exact absurd g (nh hf s_ (by rw[e'];exact Au ht))
 ·exact absurd hg (h.ng r (by rw[e];exact jK (aak hf) (aak hr)))
def Nj.asks(h:Nj LL)(qe:∀H',b6 H H'->E (.ref G) none H'):mE N G [.str (GL LL)] H Q E:=by
 refine⟨LL,rfl,h.l.ok,λss fs o1 o2 e=>⟨λg=>?_,λj f i r hf _ hr _=>⟨λht=>?_,λ_=>qe⟩⟩,λhn=>absurd h.gr hn⟩
 ·obtain⟨r,hr,hg⟩:=h.g;rw[e]at hr;obtain⟨f,hf,r',s_,e'⟩:=jo hr;exact absurd g (nh hf s_ (by rw[e'];exact Av hg))
 ·exact absurd (h.all r (by rw[e];exact jK (aak hf) (aak hr))) ht
noncomputable def lE(r:Ru):Rh:=⟨r.k,r.nm,sh r.tm⟩
noncomputable def qp(f:Fm):Fh:=⟨f.nm,f.hd,f.br,f.ru.map lE⟩
def DT(f:Fm):A9 (qp f)=J5 f:=by unfold A9 J5;show Iu (qp f)::(f.ru.map lE).map u9=_;rw[aci];rfl
def nI(g:Gr):i_ g=g.sg.map n9++(g.fm.map qp).flatMap A9:=by
 have e:∀fs:List Fm,fs.flatMap J5=(fs.map qp).flatMap A9:=λfs=>by
  induction fs with
  |nil=>rfl
  |cons f fs ih=>rw[aa6,aaV,aa6,DT,ih]
 unfold i_;rw[e]
def yZ{r:Ru}(h:oj r):La (lE r)=some r:=by obtain⟨t,e⟩:=xo (y:=sh r.tm) (t:=r.tm) ⟨rfl,h.wf,h.p30,h.d6⟩;have:=iR (dI e).2.1 h.wf (dI e).1.symm;subst this;exact xy (r:=lE r) e
theorem rF:∀{rs:List Ru},(∀r∈rs,oj r)->Good La (rs.map lE)/\(rs.map lE).filterMap La=rs
 |[],_=>⟨(λ_ z=>nomatch z),rfl⟩
 |r::rs,h=>by
  obtain⟨a,b⟩:=rF λx hx=>h x (aah _ hx);have e:=yZ (h r aap);refine⟨λx hx=>?_,?_⟩
  ·rcases List.mem_cons.mp hx with rfl|hx
   ·exact⟨_,e⟩
   ·exact a x hx
  ·rw[aaV,abR e,b]
def AD{f:Fm}(h:qz f):Ox (qp f)=some f:=by obtain⟨a,b⟩:=rF h.ru;have e:=xW (f:=qp f) a;rw[e];show some (Fm.mk f.nm f.hd f.br ((f.ru.map lE).filterMap La))=_;rw[b]
theorem tO:∀{fs:List Fm},(∀f∈fs,qz f)->Good Ox (fs.map qp)/\(fs.map qp).filterMap Ox=fs
 |[],_=>⟨(λ_ z=>nomatch z),rfl⟩
 |f::fs,h=>by
  obtain⟨a,b⟩:=tO λx hx=>h x (aah _ hx);have e:=AD (h f aap);refine⟨λx hx=>?_,?_⟩
  ·rcases List.mem_cons.mp hx with rfl|hx
   ·exact⟨_,e⟩
   ·exact a x hx
  ·rw[aaV,abR e,b]
def AH{f:Fm}(h:qz f):xh (qp f):=⟨h.nm,h.hd,h.br,λr hr=>by
 obtain⟨x,hx,rfl⟩:=List.mem_map.mp hr;exact(h.ru x hx).vl⟩
def rj(h:uu s):Ma s:=⟨h.nm,h.dn,h.up⟩
def xY{fs:List Fm}(h:∀f∈fs,_' f):iM (fs.map qp):=λx hx=>by obtain⟨f,hf,rfl⟩:=List.mem_map.mp hx;exact AH (h f hf).ok
def DL{g:Gr}(h:Ht g):sY (i_ g):=⟨g.sg,g.fm.map qp,λs hs=>rj (h.sg s hs),xY h.fm,nI g⟩
def Ar{k:Str}(h:k∈cV):Wd k:=by
 simp only[cV,aaf,aaj,aaJ]at h;rcases h with rfl|rfl|rfl
 ·exact⟨by decide,by decide⟩
 ·exact⟨by decide,by decide⟩
 ·exact⟨by decide,by decide⟩
theorem xF{p:Str×Str}(h:gb p):Wd (p.1++":"++p.2):=by
 have l3:(Str.ofString ":").length=1:=by decide
 obtain⟨a,b⟩:=mQ h;exact⟨by rw[ay,ay,l3];lia,bH (bH (hU h.1).ch (by decide)) (Ar h.2).ch⟩
theorem eF(h:cy c=true):c<128:=by
 unfold cy at h;rw[aaU,aau,aau]at h
 lia
def gT(h:bR c=true):c<128:=by
 unfold bR at h;rcases abg _ _ |>.mp h with h|h
 ·exact(fi h).1
 ·exact eF h
def gJ:∀d∈i6,∀c∈d.cps.toList,c<128:=by decide +kernel
mutual
theorem gQ:∀(t:Tm),Wf t->∀c∈(sh t).cps.toList,c<128
 |.num n,w,c,h=>by unfold sh at h;unfold Wf at w;exact eF (bK w.1 c h)
 |.text z,w,c,h=>by
  unfold sh at h;unfold Wf at w;rw[ap,ap,dW]at h;simp only[aat,aaL]at h;rcases h with(rfl|h)|rfl
  ·decide
  ·exact gT (w.2 c h)
  ·decide
 |.row,w,c,h=>by unfold sh at h;revert c;decide
 |.mark,w,c,h=>by unfold sh at h;revert c;decide
 |.val k z,w,c,h=>by
  unfold sh at h;unfold Wf at w;rw[ap,ap,cn]at h;simp only[aat,aaL]at h;rcases h with(h|rfl)|h
  ·exact eF (bK (by rcases w.1 with h|h|h|h<;>lia) c h)
  ·decide
  ·exact(fi (w.2.2.2 c h)).1
 |.call d ts,w,c,h=>by
  unfold Wf at w;rw[ba]at h;simp only[aat,aaf,aaL,abl,aaJ]at h;rcases h with h|rfl|h|rfl
  ·exact gJ d w.1 c h
  ·decide
  ·exact qX ts w.2.2.2 c h
  ·decide
theorem qX:∀(ts:List Tm),r_ ts->∀c∈aT ts,c<128
 |[],w,c,h=>by unfold aT at h;cases h
 |[t],w,c,h=>by unfold aT at h;unfold r_ at w;exact gQ t w.1 c h
 |t::u::ts,w,c,h=>by
  unfold aT at h;unfold r_ at w;simp only[aat,aaf]at h;rcases h with h|rfl|h
  ·exact gQ t w.1 c h
  ·decide
  ·exact qX (u::ts) w.2 c h
end
theorem fR(w:Wf t):1<=(sh t).cps.toList.length:=by
 cases t with
 |num n=>
  unfold Wf at w;unfold sh;exact List.length_pos_iff.mpr (di w.1 w.2).1
 |text z=>unfold sh;rw[ap,ap,dW];simp
 |row=>decide
 |mark=>decide
 |val k z=>unfold sh;rw[ap,ap,cn];simp;lia
 |call d ts=>rw[ba];simp;lia
mutual
theorem gX:∀(t:Tm),Wf t->2*aX t<=(sh t).cps.toList.length+1
 |.num n,w=>by have:=fR w;rw[aX];lia
 |.text z,w=>by have:=fR w;rw[aX];lia
 |.row,w=>by have:=fR w;rw[aX];lia
 |.mark,w=>by have:=fR w;rw[aX];lia
 |.val k z,w=>by have:=fR w;rw[aX];lia
 |.call d ts,w=>by
  unfold Wf at w;have:=iW ts w.2.2.2;rw[ba,aX];simp only[aaa,aac,aa7]
  lia
theorem iW:∀(ts:List Tm),r_ ts->2*bj ts<=(aT ts).length+1
 |[],_=>by rw[bj];lia
 |[t],w=>by
  unfold r_ at w;have:=gX t w.1;rw[bj,bj,aT]
  lia
 |t::u::ts,w=>by
  unfold r_ at w;have a:=gX t w.1;have b:=iW (u::ts) w.2;rw[bj,aT,aaa,aac]
  lia
end
def km(w:Wf t)(l:(sh t).length<=200):Wd (sh t):=⟨l,λc hc=>⟨gQ t w c hc,yO t w c hc⟩⟩
theorem nC(h0:LL≠[])(h1:LL.length<=60)(h:∀ws∈LL,ws.length<=60/\ws≠[]/\∀w∈ws,Wd w):RS LL where
 ne:=h0
 ll:=⟨h1,λws hw=>⟨(h ws hw).1,(h ws hw).2.1,λw Rv=>((h ws hw).2.2 w Rv).len⟩⟩
 wd:=λws hw=>(h ws hw).2.2
 p:=λws hw w Rv t e wt=>by
  have a:=((h ws hw).2.2 w Rv).len;have b:=gX t wt;rw[e,aq]at a
  lia
structure YU(ws:List Str):Prop where
 len:ws.length<=20
 two:2<=ws.length
 wd:∀w∈ws,Wd w
theorem bS(w:Str)(ps:List (Str×Str)):(ps.flatMap (GN w)).length=2*ps.length:=by
 induction ps with
 |nil=>rfl
 |cons p ps ih=>
  rw[aa6,aaa,ih,aac];show 2+_=_
  lia
theorem yT(h:uu s):YU (n9 s):=by
 have a:=h.d3;have b:=h.u3;have l:(n9 s).length=2+(2*s.dn.length+2*s.up.length):=by
  unfold n9;rw[aac,aac,aaa,bS,bS]
  lia
 refine⟨by lia,by lia,λw hw=>?_⟩;unfold n9 at hw;simp only[GN,aaf,aat,ab6,aaj,aaJ]at hw;rcases hw with e|e|⟨p,hp,e|e⟩|⟨p,hp,e|e⟩
 ·rw[e];exact⟨by decide,by decide⟩
 ·rw[e];exact hU h.nm
 ·rw[e];exact⟨by decide,by decide⟩
 ·rw[e];exact xF (h.dn p hp)
 ·rw[e];exact⟨by decide,by decide⟩
 ·rw[e];exact xF (h.up p hp)
theorem cD(w:Wf (.val k z)):(sh (.val k z)).length<=50:=by
 have:=kj _ w;rw[aX]at this
 lia
theorem CF{r:Ru}(h:oj r)(t:J_ r.tm 4):YU (MP r):=by
 refine⟨by show 3<=20;decide,by show 2<=3;decide,λw hw=>?_⟩;unfold MP at hw;simp only[aaf,aaj,aaJ]at hw;rcases hw with e|e|e
 ·rw[e];exact km h.vl (by have:=cD h.vl;lia)
 ·rw[e];exact⟨by decide,by decide⟩
 ·rw[e];exact km h.wf (by have:=t.l;lia)
theorem DR{f:Fm}(h:qz f):YU (J4 f):=by
 have b:=h.b5;refine⟨by show f.br.length+3<=20;lia,by show 2<=f.br.length+3;lia,λw hw=>?_⟩;unfold J4 at hw;simp only[aaf]at hw;rcases hw with e|e|e|e
 ·rw[e];exact⟨by decide,by decide⟩
 ·rw[e];exact hU h.nm
 ·rw[e];exact hU h.hd
 ·exact hU (h.br w e)
theorem iH{g:Gr}(h:Ht g):(∀ws∈i_ g,YU ws)/\2<=(i_ g).length/\(i_ g).length<=15:=by
 have h1:∀fs:List Fm,(∀f∈fs,qz f)->(fs.flatMap J5).length<=4*fs.length:=by
  intro fs hf;induction fs with
  |nil=>simp
  |cons f fs ih=>
   rw[aa6,aaa,aac];have:=ih λx hx=>hf x (aah _ hx);have:=(hf f aap).r3;have e:(J5 f).length=f.ru.length+1:=by unfold J5;rw[aac,aad]
   lia
 have h2:=h1 g.fm λf hf=>(h.fm f hf).ok;have s3:=h.s3;have f3:=h.f3;have s1:=List.length_pos_iff.mpr h.s1;refine⟨λws hw=>?_,?_,?_⟩
 ·unfold i_ at hw;rcases List.mem_append.mp hw with hw|hw
  ·obtain⟨s,hs,rfl⟩:=List.mem_map.mp hw;exact yT (h.sg s hs)
  ·obtain⟨f,hf,hw⟩:=List.mem_flatMap.mp hw;unfold J5 at hw;rcases List.mem_cons.mp hw with rfl|hw
   ·exact DR (h.fm f hf).ok
   ·obtain⟨r,hr,rfl⟩:=List.mem_map.mp hw;exact CF ((h.fm f hf).ok.ru r hr) ((h.fm f hf).tm r hr)
 ·unfold i_;rw[aaa,aad];obtain⟨f,fs,e⟩:=aaQ h.f1;rw[e,aa6,aaa];unfold J5;rw[aac]
  lia
 ·unfold i_;rw[aaa,aad]
  lia
theorem jM{g:Gr}(h:Ht g):RS (i_ g):=by
 obtain⟨a,b,c⟩:=iH h;refine nC (λe=>?_) (by lia) λws hw=>⟨?_,λe=>?_,(a ws hw).wd⟩
 ·rw[e]at b;exact absurd b (by decide)
 ·have:=(a ws hw).len;lia
 ·have:=(a ws hw).two;rw[e]at this;exact absurd this (by decide)
theorem gj{g:Gr}(h:Ht g)(n:Nat)(h1:ws.length<=60)(h2:ws≠[])(h3:∀w∈ws,Wd w):RS ((i_ g).take n++[ws]++(i_ g).drop (n+1)):=by
 obtain⟨a,b,c⟩:=iH h;refine nC (by simp) ?_ λw hw=>?_
 ·simp only[aaa,aaD,abe,aac,aa7]
  lia
 ·simp only[aat,aaL]at hw;rcases hw with(hw|rfl)|hw
  ·have:=a w (aa1 hw);exact⟨by have:=this.len;lia,λe=>by have:=this.two;rw[e]at this;exact absurd this (by decide),this.wd⟩
  ·exact⟨h1,h2,h3⟩
  ·have:=a w (aa2 hw);exact⟨by have:=this.len;lia,λe=>by have:=this.two;rw[e]at this;exact absurd this (by decide),this.wd⟩
theorem rP{g:Gr}(h:Ht g)(n:Nat)(h1:ws.length<=60)(h2:ws≠[])(h3:∀w∈ws,Wd w):RS ((i_ g).take n++[ws]++(i_ g).drop n):=by
 obtain⟨a,b,c⟩:=iH h;refine nC (by simp) ?_ λw hw=>?_
 ·simp only[aaa,aaD,abe,aac,aa7]
  lia
 ·simp only[aat,aaL]at hw;rcases hw with(hw|rfl)|hw
  ·have:=a w (aa1 hw);exact⟨by have:=this.len;lia,λe=>by have:=this.two;rw[e]at this;exact absurd this (by decide),this.wd⟩
  ·exact⟨h1,h2,h3⟩
  ·have:=a w (aa2 hw);exact⟨by have:=this.len;lia,λe=>by have:=this.two;rw[e]at this;exact absurd this (by decide),this.wd⟩
theorem Ae(p q:List Nat):Jj p<=JY (p++q):=by
 rw[gZ];unfold Jj JY
 lia
theorem Dm{w:Str}(h:JY w.cps.toList<6):¬KR w:=λ⟨t,e,wt,g⟩=>by
 obtain⟨a,_,p,q,e',l⟩:=kf t wt;rw[e]at h;have:=Ae p q;rw[<-e']at this
 lia
def pX{w:Str}(h:∀c∈w.cps.toList,bJ c=false):¬KR w:=Dm (by rw[sA h];decide)
theorem Af(h:J_ t 4):¬KR (sh t):=λ⟨u,e,wu,g⟩=>by
 have:=iR h.wf wu e;subst this;have:=h.p;have:=h.d
 lia
theorem gF(h:ce c=true):bJ c=false:=by
 unfold ce at h;simp only[aaU,aau]at h;unfold bJ;simp
 lia
def hV(h:g7 z):∀c∈z.cps.toList,bJ c=false:=λc hc=>gF (h.2.2 c hc)
structure o3(ws:List Str):Prop where
 len:ws.length<=60
 ne:ws≠[]
 wd:∀w∈ws,Wd w
 ng:∀r,ws=u9 r->¬KR r.tx
 no:¬iD ws
def gf{g:Gr}(h:Ht g){r:Rh}(hr:u9 r∈i_ g):¬KR r.tx:=by rw[nI]at hr;obtain⟨f,hf,r',s_,e⟩:=jo hr;obtain⟨f',Ua,rfl⟩:=List.mem_map.mp hf;obtain⟨r2,Rx,rfl⟩:=List.mem_map.mp (show r'∈f'.ru.map lE from s_);rw[<-e];exact Af ((h.fm f' Ua).tm r2 Rx)
def wZ{g:Gr}(h:Ht g)(b:o3 ws)(n:Nat):GY ((i_ g).take n++[ws]++(i_ g).drop (n+1)) where
 l:=gj h n b.len b.ne b.wd
 ng:=λr hr=>by
  simp only[aat,aaL]at hr;rcases hr with(hr|hr)|hr
  ·exact gf h (aa1 hr)
  ·exact b.ng r hr.symm
  ·exact gf h (aa2 hr)
 no:=.inl λg=>b.no (jL g (by simp))
def um{g:Gr}(h:Ht g)(b:o3 ws)(n:Nat):GY ((i_ g).take n++[ws]++(i_ g).drop n) where
 l:=rP h n b.len b.ne b.wd
 ng:=λr hr=>by
  simp only[aat,aaL]at hr;rcases hr with(hr|hr)|hr
  ·exact gf h (aa1 hr)
  ·exact b.ng r hr.symm
  ·exact gf h (aa2 hr)
 no:=.inl λg=>b.no (jL g (by simp))
def xb{g:Gr}(h:Ht g){r:Rh}(w:∀w∈u9 r,Wd w)(t:¬GU r.tx)(n:Nat):GY ((i_ g).take n++[u9 r]++(i_ g).drop (n+1)) where
 l:=gj h n (by show 3<=60;decide) (by unfold u9;simp) w
 ng:=λr' hr=>by
  simp only[aat,aaL]at hr;rcases hr with(hr|hr)|hr
  ·exact gf h (aa1 hr)
  ·rw[uY hr]
   exactλ⟨u,e,wu,_⟩=>t ⟨u,e,wu⟩
  ·exact gf h (aa2 hr)
 no:=.inr ⟨r,by simp,t⟩
def vY(h1:x ≠ "sign")(h2:x ≠ "form")(h3:∀k nm,Wf (.val k nm)->x≠sh (.val k nm)):¬iD (x::ws):=λh=>by
 rcases h with⟨s,_,e⟩|⟨f,_,_,e⟩|⟨r,o,e⟩
 ·exact h1 (aab e).1
 ·exact h2 (aab e).1
 ·exact h3 r.k r.nm o (aab e).1
variable{nm:Str}
def eJ(w:Wf (.val k nm)):∃c l,(sh (.val k nm)).cps.toList=c::46::l/\(c=48\/c=49\/c=50\/c=51)/\l=nm.cps.toList:=by
 unfold Wf at w;have hk:=w.1;unfold sh;rw[ap,ap,cn];rcases hk with rfl|rfl|rfl|rfl
 ·exact⟨48,_,rfl,.inl rfl,rfl⟩
 ·exact⟨49,_,rfl,.inr (.inl rfl),rfl⟩
 ·exact⟨50,_,rfl,.inr (.inr (.inl rfl)),rfl⟩
 ·exact⟨51,_,rfl,.inr (.inr (.inr rfl)),rfl⟩
def tQ(h:x∈(["signs", "Form", "fo", "rule", "si", "0", "forms", "Sign"]:List Str)):¬iD (x::ws):=by
 have:∀x∈(["signs", "Form", "fo", "rule", "si", "0", "forms", "Sign"]:List Str),x ≠ "sign"/\x ≠ "form"/\x.cps.toList[1]?≠some 46:=by decide
 obtain⟨a,b,c⟩:=this x h;refine vY a b λk nm w e=>?_;obtain⟨d,l,e',_⟩:=eJ w;rw[e,e']at c;exact c rfl
def kW:¬iD [""]:=λh=>by
 rcases h with⟨s,_,e⟩|⟨f,_,_,e⟩|⟨r,o,e⟩
 ·exact absurd (aab e).1 (by decide)
 ·exact absurd (aab e).1 (by decide)
 ·exact absurd (aab e).2 (by simp)
def iq:o3 [""]:=⟨by decide,by decide,λw hw=>by rw[List.mem_singleton.mp hw];exact⟨by decide,by decide⟩,λr e=>absurd (aab e).2 (by simp),kW⟩
def vS(h:g7 z):z ≠ "":=λe=>h.1 (by rw[e];decide)
theorem rf(s:Sg):(n9 s).length=2+(2*s.dn.length+2*s.up.length):=by
 unfold n9;rw[aac,aac,aaa,bS,bS]
 lia
def lY(h:iD ("sign"::ws)):∃s,Ma s/\("sign" : Str)::ws=n9 s:=by
 rcases h with h|⟨f,_,_,e⟩|⟨r,o,e⟩
 ·exact h
 ·exact absurd (aab e).1 (by decide)
 ·exact absurd (aab e).1.symm (cO (r:=r) (z:="sign") (by decide))
def sM(h:iD ("form"::ws)):∃f,xh f/\("form" : Str)::ws=Iu f:=by
 rcases h with⟨s,_,e⟩|⟨f,o,_,e⟩|⟨r,o,e⟩
 ·exact absurd (aab e).1 (by decide)
 ·exact⟨f,o,e⟩
 ·exact absurd (aab e).1.symm (cO (r:=r) (z:="form") (by decide))
def Dq(w:Wf (.val k nm))(h:iD (sh (.val k nm)::ws)):∃y,ws=[("=" : Str),y]:=by
 rcases h with⟨s,_,e⟩|⟨f,_,_,e⟩|⟨r,o,e⟩
 ·exact absurd (aab e).1 (cO (r:=⟨k,nm, ""⟩) (z:="sign") (by decide))
 ·exact absurd (aab e).1 (cO (r:=⟨k,nm, ""⟩) (z:="form") (by decide))
 ·exact⟨r.tx,(aab e).2⟩
def Fe(h:iD [x, "=",y]):∃k nm,Wf (.val k nm)/\x=sh (.val k nm):=by
 have n:¬g7 "=":=λh=>absurd (h.2.2 61 (by decide)) (by decide);rcases h with⟨s,g,e⟩|⟨f,o,_,e⟩|⟨r,o,e⟩
 ·have:=(aab (aab e).2).1;exact absurd (this▸g.nm) n
 ·have:=(aab (aab e).2).1;exact absurd (this▸o.nm) n
 ·exact⟨r.k,r.nm,o,(aab e).1⟩
theorem EN(g:Ma s):("" : Str)∉n9 s:=λhw=>by
 have c:∀p:Str×Str,(p.1++":"++p.2) ≠ "":=λp e=>by
  have:=aaN (λz:Str=>z.cps.toList.length) e;simp only[ap,aaa]at this;have e58:(Str.ofString ":").cps.toList.length=1:=by decide
  have e0:(Str.ofString "").cps.toList.length=0:=by decide
  lia
 unfold n9 at hw;simp only[GN,aaf,aat,ab6,aaj,aaJ]at hw;rcases hw with e|e|⟨p,hp,e|e⟩|⟨p,hp,e|e⟩
 ·exact absurd e (by decide)
 ·exact vS g.nm e.symm
 ·exact absurd e (by decide)
 ·exact c p e.symm
 ·exact absurd e (by decide)
 ·exact c p e.symm
def Fl(o:xh f):("" : Str)∉Iu f:=λhw=>by
 unfold Iu at hw;simp only[aaf]at hw;rcases hw with e|e|e|e
 ·exact absurd e (by decide)
 ·exact vS o.nm e.symm
 ·exact vS o.hd e.symm
 ·exact vS (o.br _ e) rfl
inductive Gl(ws:List Str):Prop
 |s:∀s,uu s->ws=n9 s->Gl ws
 |f:∀f,qz f->ws=J4 f->Gl ws
 |r:∀r,oj r->J_ r.tm 4->ws=MP r->Gl ws
def DO{g:Gr}(h:Ht g)(hw:ws∈i_ g):Gl ws:=by
 unfold i_ at hw;rcases List.mem_append.mp hw with hw|hw
 ·obtain⟨s,hs,rfl⟩:=List.mem_map.mp hw;exact .s s (h.sg s hs) rfl
 ·obtain⟨f,hf,hw⟩:=List.mem_flatMap.mp hw;unfold J5 at hw;rcases List.mem_cons.mp hw with rfl|hw
  ·exact .f f (h.fm f hf).ok rfl
  ·obtain⟨r,hr,rfl⟩:=List.mem_map.mp hw;exact .r r ((h.fm f hf).ok.ru r hr) ((h.fm f hf).tm r hr) rfl
theorem Gl.g(h:Gl ws):YU ws:=by
 cases h with
 |s s o e=>rw[e];exact yT o
 |f f o e=>rw[e];exact DR o
 |r r o t e=>rw[e];exact CF o t
theorem ui(h:Gl ws)(n:Nat):¬iD (ws.take n++[("" : Str)]++ws.drop n):=λhl=>by
 have m:("" : Str)∈ws.take n++[("" : Str)]++ws.drop n:=by simp
 have ll:(ws.take n++[("" : Str)]++ws.drop n).length=ws.length+1:=by simp;lia
 rcases hl with⟨s,g,e⟩|⟨f,o,_,e⟩|⟨r,o,e⟩
 ·rw[e]at m;exact EN g m
 ·rw[e]at m;exact Fl o m
 ·have v0:sh (.val r.k r.nm) ≠ "":=λe=>by
   obtain⟨c,l,e',_⟩:=eJ o;rw[e]at e';cases e'
  have l3:(u9 r).length=3:=rfl;cases n with
  |zero=>exact v0 (aab e).1.symm
  |succ n=>
   cases h with
   |s s o' e'=>
    rw[e']at e;exact cO (r:=r) (z:="sign") (by decide) (aab e).1.symm
   |f f o' e'=>
    rw[e']at e;exact cO (r:=r) (z:="form") (by decide) (aab e).1.symm
   |r r' o' t e'=>
    have:ws.length=3:=by rw[e'];rfl
    rw[e]at ll
    lia
def qW(h:¬g7 z):¬iD ("sign"::z::ws):=λhl=>by obtain⟨s,g,e⟩:=lY hl;have:=(aab (aab e).2).1;exact h (this▸g.nm)
theorem mF(h:ws.length%2=0):¬iD ("sign"::ws):=λhl=>by
 obtain⟨s,g,e⟩:=lY hl;have:=aaN List.length e;rw[rf,aac]at this
 lia
theorem ql(h:ws.length<=1):¬iD ("form"::ws):=λhl=>by
 obtain⟨f,o,e⟩:=sM hl;have:=aaN List.length e;unfold Iu at this;simp only[aac]at this
 lia
def tN(hz:z∈ws)(h:¬g7 z):¬iD ("form"::ws):=λhl=>by
 obtain⟨f,o,e⟩:=sM hl;have e2:=(aab e).2;rw[e2]at hz;simp only[aaf]at hz;rcases hz with rfl|rfl|hz
 ·exact h o.nm
 ·exact h o.hd
 ·exact h (o.br _ hz)
def yo(w:Wf (.val k nm))(h:∀y,ws≠[("=" : Str),y]):¬iD (sh (.val k nm)::ws):=λhl=>by obtain⟨y,e⟩:=Dq w hl;exact h y e
def qD(h:∀c l,x.cps.toList=c::46::l->(c=48\/c=49\/c=50\/c=51)->g7 ⟨l.toArray⟩->False):¬iD [x, "=",y]:=λhl=>by obtain⟨k,nm,w,e⟩:=Fe hl;obtain⟨c,l,e1,e2,e3⟩:=eJ w;unfold Wf at w;refine h c l (by rw[e,e1]) e2 ?_;rw[e3];exact w.2
noncomputable def Mm(p:Str×Str):Str:=p.1++":"++p.2
theorem gW(w:Str):∀(ps:List (Str×Str))(k:Nat),(ps.flatMap (GN w))[2*k]?=(ps[k]?).map (λ_=>w)/\(ps.flatMap (GN w))[2*k+1]?=(ps[k]?).map Mm
 |[],k=>⟨rfl,rfl⟩
 |p::ps,0=>⟨rfl,rfl⟩
 |p::ps,k+1=>by obtain⟨a,b⟩:=gW w ps k;exact⟨a,b⟩
noncomputable def Ja(s:Sg):List Str:=s.dn.flatMap (GN "down")++s.up.flatMap (GN "up")
theorem yU(g:Ma s){k:Nat}(h:(Ja s)[2*k+1]?=some z):∃p,gb p/\z=Mm p:=by
 unfold Ja at h;by_cases c:k<s.dn.length
 ·rw[aa4 (by rw[bS];lia),(gW _ s.dn k).2]at h;obtain⟨p,hp,rfl⟩:=Option.map_eq_some_iff.mp h;exact⟨p,g.dn p (aak hp),rfl⟩
 ·rw[aaz (by rw[bS];lia),bS,show 2*k+1-2*s.dn.length=2*(k-s.dn.length)+1 by lia,(gW _ s.up _).2]at h;obtain⟨p,hp,rfl⟩:=Option.map_eq_some_iff.mp h;exact⟨p,g.up p (aak hp),rfl⟩
theorem gn{k:Nat}(h:(Ja s)[2*k]?=some z):(k<s.dn.length/\z = "down")\/(s.dn.length<=k/\z = "up"):=by
 unfold Ja at h;by_cases c:k<s.dn.length
 ·rw[aa4 (by rw[bS];lia),(gW _ s.dn k).1]at h;obtain⟨p,hp,rfl⟩:=Option.map_eq_some_iff.mp h;exact .inl ⟨c,rfl⟩
 ·rw[aaz (by rw[bS];lia),bS,show 2*k-2*s.dn.length=2*(k-s.dn.length)by lia,(gW _ s.up _).1]at h;obtain⟨p,hp,rfl⟩:=Option.map_eq_some_iff.mp h;exact .inr ⟨by lia,rfl⟩
variable{L:List Str}
def xO(h:iD ("sign"::nm::L)):∃s,Ma s/\L=Ja s:=by obtain⟨s,g,e⟩:=lY h;exact⟨s,g,(aab (aab e).2).2⟩
def vv{k:Nat}(h:L[2*k+1]?=some z)(n:∀p,gb p->z≠Mm p):¬iD ("sign"::nm::L):=λhl=>by obtain⟨s,g,rfl⟩:=xO hl;obtain⟨p,o,e⟩:=yU g h;exact n p o e
theorem oq(h:L.length%2=0):¬iD ("sign"::nm::(L++[("up" : Str),a, "down",b])):=λhl=>by
 obtain⟨s,g,e⟩:=xO hl;obtain⟨k,hk⟩:∃k,L.length=2*k:=⟨L.length / 2,by lia⟩
 have h1:(Ja s)[2*k]?=some ("up" : Str):=by rw[<-e,<-hk];simp
 have h2:(Ja s)[2*(k+1)]?=some ("down" : Str):=by rw[<-e,show 2*(k+1)=L.length+2 by lia];simp
 have ne:(Str.ofString "up")≠Str.ofString "down":=by decide
 rcases gn h1 with⟨a,x⟩|⟨a,x⟩
 ·exact ne x
 ·rcases gn h2 with⟨b,y⟩|⟨b,y⟩
  ·lia
  ·exact ne y.symm
theorem AR:∀{A A' B B':List Nat},A++58::B=A'++58::B'->58∉A->58∉A'->A=A'/\B=B'
 |[],[],_,_,e,_,_=>⟨rfl,(aab e).2⟩
 |[],x::A',_,_,e,_,h=>absurd (by rw[(aab e).1];exact aap) h
 |x::A,[],_,_,e,h,_=>absurd (by rw[<-(aab e).1];exact aap) h
 |x::A,y::A',_,_,e,h,h'=>by obtain⟨e1,e2⟩:=aab e;obtain⟨a,b⟩:=AR e2 (λm=>h (aah _ m)) (λm=>h' (aah _ m));exact⟨by rw[e1,a],b⟩
def eP(p:Str×Str):(Mm p).cps.toList=p.1.cps.toList++58::p.2.cps.toList:=by
 have e58:(Str.ofString ":").cps.toList=[58]:=by decide
 unfold Mm;rw[ap,ap,e58];simp
def cZ{A B:List Nat}(e:z.cps.toList=A++58::B)(h:58∉A)(n:¬g7 ⟨A.toArray⟩\/∀k∈cV,k.cps.toList≠B):∀p,gb p->z≠Mm p:=λp o ez=>by
 rw[ez,eP]at e;obtain⟨a,b⟩:=AR e (g7.colon o.1) h;rcases n with n|n
 ·exact n (by rw[<-a];exact o.1)
 ·exact n p.2 o.2 b
def nc(h:58∉z.cps.toList):∀p,gb p->z≠Mm p:=λp o ez=>by rw[ez,eP]at h;exact h (by simp)
noncomputable def zV(nm:Str):List Str:=[nm++":nums",nm++":", ":num",nm,nm++":num:num",nm++"::num",nm++"9:num", "abcdefghi:num",nm++":Num",nm++".num",nm++":num,",nm++":val"]
def vJ(n:g7 nm)(h:z∈zV nm):∀p,gb p->z≠Mm p:=by
 have c:=g7.colon n;unfold zV at h;simp only[aaf,aaj,aaJ]at h;rcases h with rfl|rfl|rfl|rfl|rfl|rfl|rfl|rfl|rfl|rfl|rfl|rfl
 ·exact cZ (A:=nm.cps.toList) (B:=[110,117,109,115]) (by rw[ap];rfl) c (.inr (by decide))
 ·exact cZ (A:=nm.cps.toList) (B:=[]) (by rw[ap];rfl) c (.inr (by decide))
 ·exact cZ (A:=[]) (B:=[110,117,109]) (by rfl) (by simp) (.inl λh=>h.1 (by simp))
 ·exact nc c
 ·exact cZ (A:=nm.cps.toList) (B:=[110,117,109,58,110,117,109]) (by rw[ap];rfl) c (.inr (by decide))
 ·exact cZ (A:=nm.cps.toList) (B:=[58,110,117,109]) (by rw[ap];rfl) c (.inr (by decide))
 ·exact cZ (A:=nm.cps.toList++[57]) (B:=[110,117,109]) (by rw[ap,aas];rfl) (by simp[c]) (.inl λh=>absurd (h.2.2 57 (by simp)) (by decide))
 ·exact cZ (A:=[97,98,99,100,101,102,103,104,105]) (B:=[110,117,109]) (by rfl) (by decide) (.inl λh=>absurd h.2.1 (by decide))
 ·exact cZ (A:=nm.cps.toList) (B:=[78,117,109]) (by rw[ap];rfl) c (.inr (by decide))
 ·refine nc ?_;rw[ap];intro m;rcases List.mem_append.mp m with m|m
  ·exact c m
  ·exact absurd m (by decide)
 ·exact cZ (A:=nm.cps.toList) (B:=[110,117,109,44]) (by rw[ap];rfl) c (.inr (by decide))
 ·exact cZ (A:=nm.cps.toList) (B:=[118,97,108]) (by rw[ap];rfl) c (.inr (by decide))
theorem zU(n:g7 nm)(h:z∈zV nm):Wd z:=by
 have w:=hU n;have l8:nm.length<=8:=by rw[aq];exact n.2.1
 have one:∀x:Str,x.length<=8->(∀c∈x.cps.toList,c<128/\c≠32/\c≠10)->Wd (nm++x):=λx hx hc=>⟨by rw[ay];lia,bH w.ch hc⟩
 unfold zV at h;simp only[aaf,aaj,aaJ]at h;rcases h with rfl|rfl|rfl|rfl|rfl|rfl|rfl|rfl|rfl|rfl|rfl|rfl
 ·exact one _ (by decide) (by decide)
 ·exact one _ (by decide) (by decide)
 ·exact⟨by decide,by decide⟩
 ·exact w
 ·exact one _ (by decide) (by decide)
 ·exact one _ (by decide) (by decide)
 ·exact one _ (by decide) (by decide)
 ·exact⟨by decide,by decide⟩
 ·exact one _ (by decide) (by decide)
 ·exact one _ (by decide) (by decide)
 ·exact one _ (by decide) (by decide)
 ·exact one _ (by decide) (by decide)
theorem Ee(h:ws.length<=59)(w:∀w∈ws,Wd w)(n:¬iD ("sign"::ws)):o3 ("sign"::ws) where
 len:=by rw[aac];lia
 ne:=by simp
 wd:=λx hx=>by
  rcases List.mem_cons.mp hx with rfl|hx
  ·exact⟨by decide,by decide⟩
  ·exact w x hx
 ng:=λr e=>absurd (aab e).1.symm (cO (r:=r) (z:="sign") (by decide))
 no:=n
variable{j:Nat}
theorem qL(h:j<=x.cps.toList.length):(Txt.slice x none (some (j:Int))).cps.toList=x.cps.toList.take j:=by have:=PySem.StrLaws.sliceText_to (x:=x) (j:=(j:Int)) ⟨by lia,by lia⟩;have e:Txt.slice x none (some (j:Int))=PySem.StrLaws.sliceText x none (some (j:Int)):=rfl;rw[e,this];simp
theorem yv(h:x.length<=j):Txt.slice x none (some (j:Int))=Txt.slice x none (some (x.length:Int)):=by
 show PySem.StrLaws.sliceText x none (some (j:Int))=PySem.StrLaws.sliceText x none (some (x.length:Int));unfold PySem.StrLaws.sliceText;have e:Builtin.Str.strSliceIndices none (some (j:Int)) 1 x.length=Builtin.Str.strSliceIndices none (some (x.length:Int)) 1 x.length:=by unfold Builtin.Str.strSliceIndices;dsimp only;rw[aaK (show¬(j:Int)<0 by lia),aaK (show¬(x.length:Int)<0 by lia),Int.min_eq_right (show(x.length:Int)<=(j:Int)by lia),Int.min_eq_right (Int.le_refl _)];rfl
 rw[e]
theorem xl(x:Str)(k:Int)(j:Nat)(e:k=(j:Int)):(Txt.slice x none (some k)).cps.toList=x.cps.toList.take j:=by
 subst e;by_cases h:j<=x.cps.toList.length
 ·exact qL h
 ·rw[yv (by rw[aq];lia),aq,qL (aam _),aaF (aam _),aaF (by lia)]
def BW:Sp:=λvs H Q _=>∃(l:Addr)(s:Sg)(wy c:Int),vs=[.ref l,.int wy,.int c]/\H l=some (.lst ((n9 s).map V.str))/\uu s/\0<=c/\c<1000000000000000000/\∀(r:Addr)(ws:List Str)(H':Hp),b6 H H'->H' r=some (.lst (ws.map V.str))->o3 ws->Q (.ref r) H'
def jm(s:Sg):(Ja s).length=2*s.dn.length+2*s.up.length:=by unfold Ja;rw[aaa,bS,bS]
theorem zN(X:Tx K w mg T):d9 P w K mg base E6 2 T.qAU T.O3 ["_law_words", "_law_way", "_law_cell"] BW:=by
 have K4:=mV (P:=P) (w:=w) (base:=base) X;have K5:=lT (P:=P) (w:=w) (base:=base) X;refine X.Sf.G9 JR (λvs H Q E h=>?_) (λj8 A outer s H vs Q E hr h=>?_)
 ·obtain⟨_,_,_,_,rfl,_⟩:=h;rfl
 obtain⟨l,s,wy,c,rfl,hl,o,c0,c1,q⟩:=h;refine⟨_,(af (aD (i:=3) JR.nd rfl oI1 (aU aE (qv 0) aj (λ_ _=>rfl))) (af (be (aC bM (qv 1) aj (aK _)) (ao (aH (aB K4 hr rfl X.Mr X.K9.kp X.MF .nil bu (d5 (qv 0) (d_ aj (y8 (aB K5 hr rfl X.Ob X.MI.kp X.Pw .nil bu (d5 (qv 2) (d5 (qv 3) ac))) ac)))))) aI) (af (be (eN (iS (aC bM (qv 1) aj (aK _)) (fK (aC pW (aA b8 rfl X.ff aay (d5 (qv 0) ac)) aj (aK _))))) (af (aD (i:=4) JR.nd rfl oI1 (aR (o7 (ar au (qv 3) ak) (o7 (ar au (qv 3) ak) (d_ ak (d5 (qv 3) (o7 (ar au (qv 3) ak) (o7 (ar au (qv 3) ak) (o7 (ar au (qv 3) ak) ac))))))))) (af (aD (i:=4) JR.nd rfl oI1 (ar cu (qv 4) (aR (d_ ak (o7 (ar au (qv 3) ak) (o7 (ar au (qv 3) ak) (o7 (ar au (qv 3) ak) (o7 (ar au (qv 3) ak) ac)))))))) (ao (aH (aB K4 hr rfl X.Mr X.K9.kp X.MF .nil bu (d5 (qv 0) (o7 (ar bA aj (ar eS aj (ar aV (qv 2) (ar kB (ar bh (aA b8 rfl X.ff aay (d5 (qv 0) ac)) aj) aj)))) (x_ (aU aE (qv 4) (ar aV (ar bh (qv 2) aj) aj) (λ_ _=>rfl)) ac)))))))) aI) (af (be (aC bM (qv 1) aj (aK _)) (ao (aH (ar cu (qv 0) (aR (d_ ak (o7 (ar au (qv 3) ak) (d_ ak (o7 (ar au (ar au ak (bc eK (qv 3) bE (bi aj))) ak) ac)))))))) aI) (af (be (eN (iS (aC bM (qv 1) aj (aK _)) (fK (aC bM (ar aV (qv 2) aj) aj (aK _))))) (ao (aH (bc bT (qv 0) bE (bi aj)))) aI) (ao (aH (ar cu (qv 0) (aR (x_ (aU aE (aR (d_ ak (d_ ak (o7 (ar au (qv 3) ak) (d5 (qv 3) (d_ ak ac)))))) (ar aV (qv 2) aj) (λ_ _=>rfl)) ac)))))))))),?_⟩;dsimp only[cq];have tl:=jm s;have d3:=o.d3;have u3:=o.u3;have nn:=o.nm;have ln8:s.nm.length<=8:=by rw[aq];exact nn.2.1
 have Ve:=hU nn;have gw:=(yT o).wd;have tw:∀w∈Ja s,Wd w:=λw hw=>gw w (aah _ (aah _ hw));have sw:∀w∈s.nm::Ja s,Wd w:=λw hw=>gw w (aah _ hw);have lw:((n9 s).map V.str).length=2+(2*s.dn.length+2*s.up.length):=by rw[aad,rf]
 refine⟨_,rfl,l,_,_,.str s.nm,rfl,rfl,c_.of hl,cz (zs:=n9 s) (j:=1) rfl rfl,?_⟩;refine⟨_,rfl,rfl,_,rfl,bI (λh8=>?_) (λh8=>?_)⟩
 ·-- the name
  refine⟨_,rfl,_,rfl,_,rfl,_,_,rfl,nn,λz H1 s1 nz wz _=>?_⟩;refine⟨l,_,1,_,rfl,s1 _ _ hl,by lia,λr H2 s2 _ hr=>?_⟩;refine q r ("sign"::z::Ja s) _ (s1.trans s2) hr (Ee (by rw[aac];lia) (λw hw=>?_) (qW nz));rcases List.mem_cons.mp hw with rfl|hw
  ·exact wz
  ·exact tw w hw
 dsimp only[j4];refine bU λN0 y0=>y0 _ _ ?_;refine bU λN y=>?_;have l5:(Str.ofString ":num").length=4:=by decide
 have fin:N [some (.ref l),some (.int wy),some (.int c),some (.str s.nm),none] H:=by
  refine y _ _ ?_;refine⟨_,rfl,rfl,_,rfl,bI (λUl=>?_) (λUl=>?_)⟩
  ·-- a down behind an up
   have l6:(Str.ofString ":row").length=4:=by decide
   have l7:(Str.ofString "z").length=1:=by decide
   refine⟨_,rfl,_,rfl,_,_,rfl,rfl,aO (by rw[l5];lia),_,rfl,_,rfl,_,rfl,aO (by lia),?_⟩;obtain⟨z7,e7,w7⟩:∃z7,Txt.slice s.nm none (some 7)=z7/\z7.length<=8/\∀c∈z7.cps.toList,c<128/\c≠32/\c≠10:=by
    have e:=xl s.nm 7 7 rfl;refine⟨_,rfl,?_,λc hc=>?_⟩
    ·rw[aq,e,aaD];lia
    ·rw[e]at hc;exact Ve.ch c (aa1 hc)
   rw[e7];refine⟨_,_,rfl,rfl,aO (by rw[l7];lia),_,_,rfl,rfl,aO (by rw[ay,l6,l7];lia),Z4,λp hp=>?_⟩;have s1:=ae hp (.lst (([("up" : Str),s.nm++":num", "down", "z"++z7++":row"]:List Str).map V.str));refine⟨l,p,_,_,rfl,rfl,s1 _ _ hl,aa,aO (by rw[lw];show _+4<=_;lia),λr hr=>?_⟩;have e:((n9 s).map V.str++(([("up" : Str),s.nm++":num", "down", "z"++z7++":row"]:List Str).map V.str))=(("sign" : Str)::s.nm::(Ja s++[("up" : Str),s.nm++":num", "down", "z"++z7++":row"])).map V.str:=by rw[<-aaZ];rfl
   refine q r _ _ (s1.trans (ae hr _)) (by rw[<-e];exact aa) (Ee (by simp;lia) (λw hw=>?_) (oq (by lia)));rw[<-aaE]at hw;rcases List.mem_append.mp hw with hw|hw
   ·exact sw w hw
   ·simp only[aaf,aaj,aaJ]at hw;rcases hw with rfl|rfl|rfl|rfl
    ·exact⟨by decide,by decide⟩
    ·exact⟨by rw[ay,l5];lia,bH Ve.ch (by decide)⟩
    ·exact⟨by decide,by decide⟩
    ·exact⟨by rw[ay,ay,l6,l7];lia,bH (bH (by decide) w7.2) (by decide)⟩
  refine bU λN0 y0=>y0 _ _ ?_;refine bU λN1 y1=>?_;have Xo:N1 [some (.ref l),some (.int wy),some (.int c),some (.str s.nm),none] H:=by
   refine y1 _ _ ?_;refine⟨_,rfl,_,rfl,_,_,rfl,rfl,aO (by rw[l5];lia),_,rfl,Z5,λp hp=>?_⟩;have s1:=ae hp (.lst (([("down" : Str), "up",s.nm++":num",s.nm, "up"]:List Str).map V.str));obtain⟨z,az,hz⟩:=iL (zs:=[("down" : Str), "up",s.nm++":num",s.nm, "up"]) (m:=c%5) (aar _ (by decide)) (aan _ (by decide));refine⟨_,rfl,_,_,rfl,rfl,(by show(0:Int)<5;decide),p,_,_,.str z,rfl,rfl,c_.of aa,az,Z1,λa ha=>?_⟩;have s2:=ae ha (.lst (([z]:List Str).map V.str));refine⟨l,a,_,_,rfl,rfl,(s1.trans s2) _ _ hl,aa,aO (by rw[lw];show _+1<=_;lia),λr hr=>?_⟩;have e:((n9 s).map V.str++(([z]:List Str).map V.str))=(("sign" : Str)::(s.nm::Ja s++[z])).map V.str:=by rw[<-aaZ];rfl
   refine q r _ _ ((s1.trans s2).trans (ae hr _)) (by rw[<-e];exact aa) (Ee (by simp;lia) (λw hw=>?_) (mF (by simp;lia)));rcases List.mem_append.mp hw with hw|hw
   ·exact sw w hw
   ·rw[List.mem_singleton.mp hw];simp only[aaf,aaj,aaJ]at hz;rcases hz with rfl|rfl|rfl|rfl|rfl
    ·exact⟨by decide,by decide⟩
    ·exact⟨by decide,by decide⟩
    ·exact⟨by rw[ay,l5];lia,bH Ve.ch (by decide)⟩
    ·exact Ve
    ·exact⟨by decide,by decide⟩
  refine⟨_,rfl,rfl,_,rfl,bI (λh11=>?_) (λh11=>FY rfl Xo)⟩;refine⟨_,rfl,_,_,rfl,rfl,(by show(0:Int)<5;decide),rfl,_,rfl,bI (λh4=>?_) (λh4=>Xo)⟩;refine⟨_,rfl,_,rfl,l,_,rfl,c_.of hl,λa ha=>?_⟩;exact q a ["sign"] _ (ae ha _) aa (Ee (by decide) (λw hw=>nomatch hw) (mF rfl))
 refine⟨_,rfl,rfl,_,rfl,bI (λh9=>?_) (λh9=>FY rfl fin)⟩;refine⟨_,rfl,l,_,rfl,.inl (c_.of hl),_,_,rfl,rfl,_,rfl,bI (λhg=>?_) (λhg=>fin)⟩;have p1:(Str.ofString ":nums").length=5:=by decide
 have p2:(Str.ofString ":").length=1:=by decide
 have p3:(Str.ofString ":num:num").length=8:=by decide
 have p4:(Str.ofString "::num").length=5:=by decide
 have p5:(Str.ofString "9:num").length=5:=by decide
 refine⟨_,rfl,_,_,rfl,rfl,aO (by rw[p1];lia),_,rfl,_,_,rfl,rfl,aO (by rw[p2];lia),_,rfl,_,rfl,_,_,rfl,rfl,aO (by rw[p3];lia),_,rfl,_,_,rfl,rfl,aO (by rw[p4];lia),_,rfl,_,_,rfl,rfl,aO (by rw[p5];lia),Z7,λa ha=>?_⟩;have s1:=ae ha (.lst (([s.nm++":nums",s.nm++":", ":num",s.nm,s.nm++":num:num",s.nm++"::num",s.nm++"9:num"]:List Str).map V.str));have p6:(Str.ofString ":Num").length=4:=by decide
 have p7:(Str.ofString ".num").length=4:=by decide
 have p8:(Str.ofString ":num,").length=5:=by decide
 have p9:(Str.ofString ":val").length=4:=by decide
 refine⟨_,rfl,_,rfl,_,_,rfl,rfl,aO (by rw[p6];lia),_,rfl,_,_,rfl,rfl,aO (by rw[p7];lia),_,rfl,_,_,rfl,rfl,aO (by rw[p8];lia),_,rfl,_,_,rfl,rfl,aO (by rw[p9];lia),Z5,λb hb=>?_⟩;have s2:=ae hb (.lst ((["abcdefghi:num",s.nm++":Num",s.nm++".num",s.nm++":num,",s.nm++":val"]:List Str).map V.str));refine⟨a,b,_,_,rfl,rfl,s2 _ _ aa,aa,aO (by show 7+5<=_;decide),λe he=>?_⟩;have s3:=ae he (.lst ((zV s.nm).map V.str));have MO:=(s1.trans s2).trans s3;have hev:((n9 s).length:Int) / 2-1=((s.dn.length+s.up.length:Nat):Int):=by rw[rf];lia
 have hp:0<s.dn.length+s.up.length:=by
  rw[lw]at hg
  lia
 have Ou:=MO _ _ hl;have he3:=aa (H:=upd (upd H a (.lst (([s.nm++":nums",s.nm++":", ":num",s.nm,s.nm++":num:num",s.nm++"::num",s.nm++"9:num"]:List Str).map V.str))) b (.lst ((["abcdefghi:num",s.nm++":Num",s.nm++".num",s.nm++":num,",s.nm++":val"]:List Str).map V.str))) (a:=e) (o:=.lst ((zV s.nm).map V.str));obtain⟨z,az,hz⟩:=iL (zs:=zV s.nm) (m:=c / 5%12) (aar _ (by decide)) (aan _ (by decide));have m0:=aar c (show((s.dn.length+s.up.length:Nat):Int)≠0 by lia);have m1:=aan c (show(0:Int)<((s.dn.length+s.up.length:Nat):Int)by lia);obtain⟨k,hk⟩:=aaG m0;refine⟨_,rfl,_,rfl,_,rfl,l,_,rfl,.inl (c_.of Ou),_,_,rfl,rfl,⟨by decide,by decide⟩,_,_,rfl,rfl,_,_,rfl,rfl,?_,_,_,rfl,rfl,.inl ⟨by decide,by decide⟩,_,_,rfl,rfl,_,rfl,_,rfl,_,_,rfl,rfl,⟨by decide,by decide⟩,_,_,rfl,rfl,(by show(0:Int)<12;decide),e,_,_,.str z,rfl,rfl,c_.of he3,az,?_⟩
 ·show(0:Int)<((((n9 s).map V.str).length:Nat):Int) / 2-1;rw[aad,hev]
  lia
 ·have ek:(3:Int)+2*(c%(((((n9 s).map V.str).length:Nat):Int) / 2-1))=((3+2*k:Nat):Int):=by
   rw[aad,hev,hk]
   lia
  refine⟨l,_,3+2*k,_,aaN (λn:Int=>[V.ref l,V.int n,V.str z]) ek,Ou,by lia,λr H2 s4 _ hr=>?_⟩;rw[hk]at m1;have kl:2*k+1<(Ja s).length:=by lia
  have e1:((n9 s).map V.str).take (3+2*k)++[V.str z]++((n9 s).map V.str).drop (3+2*k+1)=(("sign" : Str)::s.nm::((Ja s).take (2*k+1)++[z]++(Ja s).drop (2*k+2))).map V.str:=by rw[show 3+2*k=(2*k+1)+1+1 by lia,show(2*k+1)+1+1+1=(2*k+2)+1+1 by lia];show _=V.str "sign"::V.str s.nm::_;rw[aaZ,aaZ,ab7,acY];rfl
  rw[e1]at hr;refine q r _ _ (MO.trans s4) hr (Ee (by simp;lia) (λw hw=>?_) (vv (k:=k) (z:=z) ?_ (vJ nn hz)))
  ·rcases List.mem_cons.mp hw with rfl|hw
   ·exact Ve
   ·simp only[aat,aaL]at hw;rcases hw with(hw|rfl)|hw
    ·exact tw w (aa1 hw)
    ·exact zU nn hz
    ·exact tw w (aa2 hw)
  ·rw[aas,aaz (by rw[aaD];lia),aaD,acB (by lia),acg];rfl
noncomputable def zR(w0 Hr nm bad:Str):List Str:=["4."++nm, "0"++w0, "x."++nm, "."++nm,Hr++nm,Hr++".."++nm,nm,w0++"."++nm,Hr++"."++bad,Hr++".", "9."++nm]
def sD(n:g7 nm):∃c l,nm.cps.toList=c::l/\ce c=true:=by obtain⟨c,l,e⟩:=aaQ n.1;exact⟨c,l,e,n.2.2 c (by rw[e];exact aap)⟩
def FS{l:List Nat}(h:46∈l):¬g7 ⟨l.toArray⟩:=λn=>absurd (n.2.2 46 (by simpa using h)) (by decide)
variable{bad w0 Hr:Str}
theorem vI(ef:Hr.cps.toList=[c])(hc:c=48\/c=49\/c=50\/c=51)(ew:w0.cps.toList=c::46::nm.cps.toList)(n:g7 nm)(nb:¬g7 bad)(h:z∈zR w0 Hr nm bad):¬iD [z, "=",y]:=by
 obtain⟨d,l,en,hd⟩:=sD n;have d46:d≠46:=λe=>by rw[e]at hd;exact absurd hd (by decide)
 have dfig:¬(d=48\/d=49\/d=50\/d=51):=λe=>by rcases e with rfl|rfl|rfl|rfl<;>exact absurd hd (by decide)
 have e4:(Str.ofString "4.").cps.toList=[52,46]:=by decide
 have e0:(Str.ofString "0").cps.toList=[48]:=by decide
 have ex:(Str.ofString "x.").cps.toList=[120,46]:=by decide
 have e1:(Str.ofString ".").cps.toList=[46]:=by decide
 have e2:(Str.ofString "..").cps.toList=[46,46]:=by decide
 have e9:(Str.ofString "9.").cps.toList=[57,46]:=by decide
 refine qD λb r e hb nr=>?_;unfold zR at h;simp only[aaf,aaj,aaJ]at h;rcases h with rfl|rfl|rfl|rfl|rfl|rfl|rfl|rfl|rfl|rfl|rfl
 ·rw[ap,e4]at e;have:=(aab e).1;lia
 ·rw[ap,e0,ew]at e;have:=(aab (aab e).2).1;lia
 ·rw[ap,ex]at e;have:=(aab e).1;lia
 ·rw[ap,e1]at e;have:=(aab e).1;lia
 ·rw[ap,ef,en]at e;exact d46 (aab (aab e).2).1
 ·rw[ap,ap,ef,e2]at e;have:=(aab (aab e).2).2;exact FS (l:=r) (by rw[<-this];simp) nr
 ·rw[en]at e;exact dfig ((aab e).1▸hb)
 ·rw[ap,ap,ew,e1]at e;have:=(aab (aab e).2).2;exact FS (l:=r) (by rw[<-this];simp) nr
 ·rw[ap,ap,ef,e1]at e;have:=(aab (aab e).2).2;refine nb ?_;have e':bad=⟨r.toArray⟩:=by
   have:bad.cps.toList=r:=this;rw[<-this]
  rw[e'];exact nr
 ·rw[ap,ef,e1]at e;have:=(aab (aab e).2).2;exact nr.1 (by rw[<-this])
 ·rw[ap,e9]at e;have:=(aab e).1;lia
theorem zQ(ef:Hr.cps.toList=[c])(hc:c=48\/c=49\/c=50\/c=51)(ew:w0.cps.toList=c::46::nm.cps.toList)(n:g7 nm)(wb:Wd bad)(lb:bad.length<=100)(h:z∈zR w0 Hr nm bad):Wd z:=by
 have wn:=hU n;have l8:nm.length<=8:=by rw[aq];exact n.2.1
 have lf:Hr.length=1:=by rw[aq,ef];rfl
 have l0:w0.length<=10:=by rw[aq,ew,aac,aac,<-aq];lia
 have wf:∀x∈Hr.cps.toList,x<128/\x≠32/\x≠10:=λx hx=>by
  rw[ef]at hx;have:=List.mem_singleton.mp hx
  lia
 have ww:∀x∈w0.cps.toList,x<128/\x≠32/\x≠10:=λx hx=>by
  rw[ew]at hx;rcases List.mem_cons.mp hx with rfl|hx
  ·lia
  ·rcases List.mem_cons.mp hx with rfl|hx
   ·decide
   ·exact wn.ch x hx
 have k1:(Str.ofString "4.").length=2:=by decide
 have k2:(Str.ofString "0").length=1:=by decide
 have k3:(Str.ofString "x.").length=2:=by decide
 have k4:(Str.ofString ".").length=1:=by decide
 have k5:(Str.ofString "..").length=2:=by decide
 have k6:(Str.ofString "9.").length=2:=by decide
 unfold zR at h;simp only[aaf,aaj,aaJ]at h;rcases h with rfl|rfl|rfl|rfl|rfl|rfl|rfl|rfl|rfl|rfl|rfl
 ·exact⟨by rw[ay,k1];lia,bH (by decide) wn.ch⟩
 ·exact⟨by rw[ay,k2];lia,bH (by decide) ww⟩
 ·exact⟨by rw[ay,k3];lia,bH (by decide) wn.ch⟩
 ·exact⟨by rw[ay,k4];lia,bH (by decide) wn.ch⟩
 ·exact⟨by rw[ay];lia,bH wf wn.ch⟩
 ·exact⟨by rw[ay,ay,k5];lia,bH (bH wf (by decide)) wn.ch⟩
 ·exact wn
 ·exact⟨by rw[ay,ay,k4];lia,bH (bH ww (by decide)) wn.ch⟩
 ·exact⟨by rw[ay,ay,k4];lia,bH (bH wf (by decide)) wb.ch⟩
 ·exact⟨by rw[ay,k4];lia,bH wf (by decide)⟩
 ·exact⟨by rw[ay,k6];lia,bH (by decide) wn.ch⟩
noncomputable def plain(c:Nat):Bool:=ce c||cy c||c == 34||c == 40||c == 41||c == 44||c == 46||c == 91||c == 93
def fj(h:ce c=true):plain c=true:=by unfold plain;rw[h];rfl
def im(h:cy c=true):plain c=true:=by unfold plain;rw[h];simp
def qZ(h:bR c=true):plain c=true:=by
 unfold bR at h;rcases abg _ _ |>.mp h with h|h
 ·exact fj h
 ·exact im h
mutual
theorem gm:∀(t:Tm),Wf t->∀c∈(sh t).cps.toList,plain c=true
 |.num n,w,c,h=>by unfold sh at h;unfold Wf at w;exact im (bK w.1 c h)
 |.text z,w,c,h=>by
  unfold sh at h;unfold Wf at w;rw[ap,ap,dW]at h;simp only[aat,aaL]at h;rcases h with(rfl|h)|rfl
  ·decide
  ·exact qZ (w.2 c h)
  ·decide
 |.row,w,c,h=>by unfold sh at h;revert c;decide
 |.mark,w,c,h=>by unfold sh at h;revert c;decide
 |.val k z,w,c,h=>by
  unfold sh at h;unfold Wf at w;rw[ap,ap,cn]at h;simp only[aat,aaL]at h;rcases h with(h|rfl)|h
  ·exact im (bK (by rcases w.1 with h|h|h|h<;>lia) c h)
  ·decide
  ·exact fj (w.2.2.2 c h)
 |.call d ts,w,c,h=>by
  unfold Wf at w;rw[ba]at h;simp only[aat,aaf,aaL,abl,aaJ]at h;rcases h with h|rfl|h|rfl
  ·exact fj (wT d w.1 c h)
  ·decide
  ·exact ki ts w.2.2.2 c h
  ·decide
theorem ki:∀(ts:List Tm),r_ ts->∀c∈aT ts,plain c=true
 |[],w,c,h=>by unfold aT at h;cases h
 |[t],w,c,h=>by unfold aT at h;unfold r_ at w;exact gm t w.1 c h
 |t::u::ts,w,c,h=>by
  unfold aT at h;unfold r_ at w;simp only[aat,aaf]at h;rcases h with h|rfl|h
  ·exact gm t w.1 c h
  ·decide
  ·exact ki (u::ts) w.2 c h
end
def eV(h:c∈y.cps.toList)(n:plain c=false):¬GU y:=λ⟨t,e,w⟩=>by rw[e]at h;rw[gm t w c h]at n;cases n
def vN(h:y.cps.toList=[]):¬GU y:=λ⟨t,e,w⟩=>by have:=fR w;rw[<-e,h]at this;exact absurd this (by decide)
def xI(h:Jj y.cps.toList≠0):¬GU y:=λ⟨t,e,w⟩=>by rw[e]at h;exact h (kf t w).2.1.z
def xn(w:Wf t):Jj (sh t).cps.toList=0:=(kf t w).2.1.z
theorem jV(w:Wf t)(hc:c∈(sh t).cps.toList)(hs:bJ c=true):∃d ts,t=.call d ts:=by
 have no:iC t->∃d ts,t=.call d ts:=λl=>by rw[cG l w c hc]at hs;cases hs
 cases t with
 |call d ts=>exact⟨d,ts,rfl⟩
 |num n=>exact no trivial
 |text z=>exact no trivial
 |row=>exact no trivial
 |mark=>exact no trivial
 |val k z=>exact no trivial
def xJ(hc:c∈y.cps.toList)(hs:bJ c=true)(hl:y.cps.toList.getLast?≠some 41):¬GU y:=λ⟨t,e,w⟩=>by rw[e]at hc hl;obtain⟨d,ts,rfl⟩:=jV w hc hs;rw[ba,<-aaE,<-aas,abG]at hl;exact hl rfl
def jA{W R:List Nat}(e:y.cps.toList=W++40::R)(hW:∀c∈W,bJ c=false)(hd:∀d∈i6,d.cps.toList≠W):¬GU y:=λ⟨t,et,w⟩=>by rw[et]at e;obtain⟨d,ts,rfl⟩:=jV w (c:=40) (by rw[e];simp) (by decide);rw[ba]at e;unfold Wf at w;have:=gO e (dg d w.1) hW (jh (by decide)) (jh (by decide));exact hd d w.1 this.1
def jY{D J:List Nat}(e:y.cps.toList=D++40::(J++[41]))(hD:∀c∈D,bJ c=false)(h:GU y):∃ts,ts≠[]/\ts.length<=3/\r_ ts/\aT ts=J:=by obtain⟨t,et,w⟩:=h;rw[et]at e;obtain⟨d,ts,rfl⟩:=jV w (c:=40) (by rw[e];simp) (by decide);rw[ba]at e;unfold Wf at w;have:=(gO e (dg d w.1) hD (jh (by decide)) (jh (by decide))).2;exact⟨ts,w.2.1,w.2.2.1,w.2.2.2,adF (aab this).2⟩
theorem yR(w:Wf t):∃c r,(sh t).cps.toList=c::r/\c≠44:=by
 obtain⟨c,r,e⟩:=aaQ (l:=(sh t).cps.toList) (λz=>by have:=fR w;rw[z]at this;exact absurd this (by decide));refine⟨c,r,e,λXf=>?_⟩;have hm:c∈(sh t).cps.toList:=by rw[e];exact aap
 obtain⟨d,ts,rfl⟩:=jV w hm (by rw[Xf];decide);unfold Wf at w;rw[ba]at e;cases ed:d.cps.toList with
 |nil=>exact absurd ed ((by decide +kernel:∀d∈i6,d.cps.toList≠[]) d w.1)
 |cons x l=>
  rw[ed]at e;have e1:=(aab e).1;have:=dg d w.1 x (by rw[ed];exact aap);rw[e1,Xf]at this;exact absurd this (by decide)
def yQ(w:Wf t):∃c r,(sh t).cps.toList=r++[c]/\c≠44:=by
 obtain⟨r,c,e⟩:∃r c,(sh t).cps.toList=r++[c]:=by
  have ne:(sh t).cps.toList≠[]:=λz=>by have:=fR w;rw[z]at this;exact absurd this (by decide)
  exact⟨_,_,(List.dropLast_concat_getLast ne).symm⟩
 refine⟨c,r,e,λXf=>?_⟩;have hm:c∈(sh t).cps.toList:=by rw[e];simp
 refine xJ (y:=sh t) (c:=c) hm (by rw[Xf];decide) ?_ ⟨t,rfl,w⟩;rw[e,abG,Xf];decide
theorem ie{ts:List Tm}(h:ts≠[])(w:r_ ts):∃c r,aT ts=c::r/\c≠44:=by
 cases ts with
 |nil=>exact absurd rfl h
 |cons t ts=>
  unfold r_ at w;obtain⟨c,r,e,n⟩:=yR w.1;cases ts with
  |nil=>exact⟨c,r,by rw[aT,e],n⟩
  |cons u us=>exact⟨c,r++44::aT (u::us),by rw[cI,e];rfl,n⟩
theorem ib:∀{ts:List Tm},ts≠[]->r_ ts->∃c r,aT ts=r++[c]/\c≠44
 |[],h,_=>absurd rfl h
 |[t],_,w=>by
  unfold r_ at w;obtain⟨c,r,e,n⟩:=yQ w.1;exact⟨c,r,by rw[aT,e],n⟩
 |t::u::us,_,w=>by unfold r_ at w;obtain⟨c,r,e,n⟩:=ib (ts:=u::us) (by simp) w.2;exact⟨c,(sh t).cps.toList++44::r,by rw[cI,e];simp,n⟩
theorem xR:∀{ts:List Tm},r_ ts->40∉aT ts->bj ts=ts.length
 |[],_,_=>by rw[bj];rfl
 |t::ts,w,h=>by
  unfold r_ at w;have h1:40∉(sh t).cps.toList:=λm=>h (by
   cases ts with
   |nil=>rw[aT];exact m
   |cons u us=>rw[cI];exact abF _ m)
  have h2:40∉aT ts:=λm=>h (by
   cases ts with
   |nil=>unfold aT at m;cases m
   |cons u us=>rw[cI];exact aaT _ (aah _ m))
  have p1:aX t=1:=by
   cases t with
   |call d us=>exact absurd (by rw[ba];simp) h1
   |num n=>rw[aX]
   |text z=>rw[aX]
   |row=>rw[aX]
   |mark=>rw[aX]
   |val k z=>rw[aX]
  rw[bj,p1,xR w.2 h2,aac]
  lia
inductive Bm(L:List Nat):Prop
 |num:∀n:Int,0<=n->n<1000000000000000000->L=(Str.ofString (toString n)).cps.toList->Bm L
 |text:∀l:List Nat,l.length<=40->(∀c∈l,bR c=true)->L=34::(l++[34])->Bm L
 |row:L=[91,93]->Bm L
 |mark:L=sI->Bm L
 |val:∀c l,(c=48\/c=49\/c=50\/c=51)->l≠[]->l.length<=8->(∀c∈l,ce c=true)->L=c::46::l->Bm L
theorem Ak(hs:∀c∈y.cps.toList,bJ c=false)(h:GU y):Bm y.cps.toList:=by
 obtain⟨t,rfl,w⟩:=h;cases t with
 |call d ts=>exact absurd (hs 40 (by rw[ba];simp)) (by decide)
 |num n=>have w':=w;unfold Wf at w';exact .num n w'.1 w'.2 (by unfold sh;rfl)
 |text z=>have w':=w;unfold Wf at w';exact .text z.cps.toList w'.1 w'.2 (by unfold sh;rw[ap,ap,dW];rfl)
 |row=>exact .row (by decide)
 |mark=>exact .mark (by decide)
 |val k z=>
  obtain⟨c,l,e,hc,el⟩:=eJ w;unfold Wf at w;exact .val c l hc (by rw[el];exact w.2.1) (by rw[el];exact w.2.2.1) (by rw[el];exact w.2.2.2) e
def Dj(w:Wf t):¬GU ("add("++sh t):=xI (by
 rw[ap,dm,xn w];decide)
def vO(w:Wf t):¬GU (sh t++")"):=xI (by
 rw[ap,dm,xn w];decide)
def Di(x:Str):¬GU (x++",1"):=by
 have e:(x++",1" : Str).cps.toList=x.cps.toList++[44]++[49]:=by rw[ap];simp;rfl
 refine xJ (c:=44) (by rw[e];simp) (by decide) ?_;rw[e,abG];decide
def zY:¬GU "add()":=λh=>by obtain⟨ts,a,_,w,e⟩:=jY (D:=[97,100,100]) (J:=[]) (by decide) (by decide) h;obtain⟨c,r,e',_⟩:=ie a w;rw[e]at e';cases e'
def vM:¬GU "add(,1)":=λh=>by obtain⟨ts,a,_,w,e⟩:=jY (D:=[97,100,100]) (J:=[44,49]) (by decide) (by decide) h;obtain⟨c,r,e',n⟩:=ie a w;rw[e]at e';exact n (aab e').1.symm
def Aa:¬GU "add(1,)":=λh=>by obtain⟨ts,a,_,w,e⟩:=jY (D:=[97,100,100]) (J:=[49,44]) (by decide) (by decide) h;obtain⟨c,r,e',n⟩:=ib a w;rw[e]at e';have:=aaN List.getLast? e';rw[abG]at this;exact n (aaq this).symm
theorem Ab:¬GU "add(1,2,3,4)":=λh=>by
 obtain⟨ts,a,l,w,e⟩:=jY (D:=[97,100,100]) (J:=[49,44,50,44,51,44,52]) (by decide) (by decide) h;have p:=(lI ts a w).1;have q:=xR w (by rw[e];decide);rw[e,q]at p;have:JY [49,44,50,44,51,44,52]=3:=by decide
 lia
def gC:∀y∈(["mark()", "(1)", "plus(1,2)", "[](1)"]:List Str),¬GU y:=by
 intro y h;simp only[aaf,aaj,aaJ]at h;rcases h with rfl|rfl|rfl|rfl
 ·exact jA (W:=[109,97,114,107]) (R:=[41]) (by decide) (by decide) (by decide +kernel)
 ·exact jA (W:=[]) (R:=[49,41]) (by decide) (by decide) (by decide +kernel)
 ·exact jA (W:=[112,108,117,115]) (R:=[49,44,50,41]) (by decide) (by decide) (by decide +kernel)
 ·exact jA (W:=[91,93]) (R:=[49,41]) (by decide) (by decide) (by decide +kernel)
theorem dj(hs:∀c∈y.cps.toList,bJ c=false)(h1:∃c∈y.cps.toList,cy c=false)(h2:∀l:List Nat,l.length<=40->y.cps.toList≠34::(l++[34]))(h3:y.cps.toList≠[91,93])(h4:y.cps.toList≠sI)(h5:∀c l,(c=48\/c=49\/c=50\/c=51)->l≠[]->l.length<=8->(∀c∈l,ce c=true)->y.cps.toList≠c::46::l):¬GU y:=λh=>by
 cases Ak hs h with
 |num n a b e=>
  obtain⟨c,hc,f⟩:=h1;rw[e]at hc;rw[bK a c hc]at f;cases f
 |text l a b e=>exact h2 l a e
 |row e=>exact h3 e
 |mark e=>exact h4 e
 |val c l a b d f e=>exact h5 c l a b d f e
def de:∀y∈(["0.abcdefghi", "\"a", "[", "0.", "1.", "."]:List Str),¬GU y:=by
 intro y h;simp only[aaf,aaj,aaJ]at h;rcases h with rfl|rfl|rfl|rfl|rfl|rfl
 ·refine dj (by decide) ⟨46,by decide,by decide⟩ (λl _ e=>?_) (by decide) (by decide) (λc l _ _ b _ e=>?_)
  ·exact absurd (aab e).1 (by decide)
  ·have:=(aab (aab e).2).2;rw[<-this]at b;exact absurd b (by decide)
 ·refine dj (by decide) ⟨34,by decide,by decide⟩ (λl _ e=>?_) (by decide) (by decide) (λc l a _ _ _ e=>?_)
  ·have:=aaN List.getLast? e;rw[<-aaE,abG]at this;exact absurd this (by decide)
  ·rcases a with rfl|rfl|rfl|rfl<;>exact absurd (aab e).1 (by decide)
 ·refine dj (by decide) ⟨91,by decide,by decide⟩ (λl _ e=>?_) (by decide) (by decide) (λc l a _ _ _ e=>?_)
  ·exact absurd (aab e).1 (by decide)
  ·rcases a with rfl|rfl|rfl|rfl<;>exact absurd (aab e).1 (by decide)
 ·refine dj (by decide) ⟨46,by decide,by decide⟩ (λl _ e=>?_) (by decide) (by decide) (λc l a b _ _ e=>?_)
  ·exact absurd (aab e).1 (by decide)
  ·exact b (aab (aab e).2).2.symm
 ·refine dj (by decide) ⟨46,by decide,by decide⟩ (λl _ e=>?_) (by decide) (by decide) (λc l a b _ _ e=>?_)
  ·exact absurd (aab e).1 (by decide)
  ·exact b (aab (aab e).2).2.symm
 ·refine dj (by decide) ⟨46,by decide,by decide⟩ (λl _ e=>?_) (by decide) (by decide) (λc l a b _ _ e=>?_)
  ·exact absurd (aab e).1 (by decide)
  ·have e':[46]=c::46::l:=e;exact absurd (aab e').2 (by simp)
theorem sy:∀y∈(["01", "00"]:List Str),¬GU y:=by
 intro y h ht;have hs:∀c∈y.cps.toList,bJ c=false:=by simp only[aaf,aaj,aaJ]at h;rcases h with rfl|rfl<;>decide
 have h2:y.cps.toList.head?=some 48/\y.cps.toList.length=2/\y.cps.toList[1]?≠some 46:=by simp only[aaf,aaj,aaJ]at h;rcases h with rfl|rfl<;>decide
 cases Ak hs ht with
 |num n a b e=>
  rw[e]at h2;have:=jz a h2.1;subst this;exact absurd h2.2.1 (by decide)
 |text l a b e=>rw[e]at h2;exact absurd h2.1 (by simp)
 |row e=>rw[e]at h2;exact absurd h2.1 (by decide)
 |mark e=>rw[e]at h2;exact absurd h2.1 (by decide)
 |val c l a b d f e=>rw[e]at h2;exact h2.2.2 rfl
theorem Ac(n:g7 nm):¬GU ("4."++nm):=by
 have e4:("4."++nm:Str).cps.toList=52::46::nm.cps.toList:=by rw[ap];rfl
 refine dj (λc hc=>?_) ⟨46,by rw[e4];simp,by decide⟩ (λl _ e=>?_) (λe=>?_) (λe=>?_) (λc l a b _ _ e=>?_)
 ·rw[e4]at hc;rcases List.mem_cons.mp hc with rfl|hc
  ·decide
  ·rcases List.mem_cons.mp hc with rfl|hc
   ·decide
   ·exact hV n c hc
 ·rw[e4]at e;exact absurd (aab e).1 (by decide)
 ·rw[e4]at e;exact absurd (aab e).1 (by decide)
 ·rw[e4]at e;exact absurd (aab e).1 (by decide)
 ·rw[e4]at e;have:=(aab e).1;lia
theorem Ad(n:g7 nm):¬GU ("1"++nm):=by
 obtain⟨d,r,en,hd⟩:=sD n;have e4:("1"++nm:Str).cps.toList=49::nm.cps.toList:=by rw[ap];rfl
 refine dj (λc hc=>?_) ⟨d,by rw[e4,en];simp,?_⟩ (λl _ e=>?_) (λe=>?_) (λe=>?_) (λc l a b _ _ e=>?_)
 ·rw[e4]at hc;rcases List.mem_cons.mp hc with rfl|hc
  ·decide
  ·exact hV n c hc
 ·unfold ce at hd;unfold cy;simp only[aaU,aau]at hd;simp
  lia
 ·rw[e4]at e;exact absurd (aab e).1 (by decide)
 ·rw[e4]at e;exact absurd (aab e).1 (by decide)
 ·rw[e4]at e;exact absurd (aab e).1 (by decide)
 ·rw[e4,en]at e;have:=(aab (aab e).2).1;rw[this]at hd;exact absurd hd (by decide)
theorem zZ{l:List Nat}(e:y.cps.toList=34::(l++[34]))(h:40<l.length)(hl:∀c∈l,bJ c=false):¬GU y:=by
 refine dj (λc hc=>?_) ⟨34,by rw[e];simp,by decide⟩ (λl' a e'=>?_) (λe'=>?_) (λe'=>?_) (λc l a b _ _ e'=>?_)
 ·rw[e]at hc;simp only[aaf,aat,aaj,aaJ]at hc;rcases hc with rfl|hc|rfl
  ·decide
  ·exact hl c hc
  ·decide
 ·rw[e]at e';have:=adF (aab e').2;rw[this]at h
  lia
 ·rw[e]at e';exact absurd (aab e').1 (by decide)
 ·rw[e]at e';exact absurd (aab e').1 (by decide)
 ·rw[e]at e';have:=(aab e').1;lia
theorem kY:∀(k m:Nat),10 ^ k<=m->k<(Nat.toDigits 10 m).length
 |0,m,_=>tV m
 |k+1,m,h=>by
  have Ul:¬m<10:=λz=>by
   have:10 ^ (k+1)=10*10 ^ k:=by rw[acz];lia
   have:0<10 ^ k:=Nat.pow_pos (by decide)
   lia
  have hm:m%10<10:=Nat.mod_lt _ (by decide);have t:Nat.toDigits 10 (m / 10)++Nat.toDigits 10 (m%10)=Nat.toDigits 10 (10*(m / 10)+m%10):=abA (by decide) (by lia) hm;have ih:=kY k (m / 10) (by
   have:10 ^ (k+1)=10*10 ^ k:=by rw[acz];lia
   lia)
  rw[adn]at t;rw[<-t,aaa,aby hm];simp only[aac,aa7]
  lia
theorem vL(h:1000000000000000000<=m):¬GU (Str.ofString (toString m)):=λht=>by
 obtain⟨k,rfl⟩:=aaG (show 0<=m by lia);have Wo:18<(Str.ofString (toString ((k:Nat):Int))).cps.toList.length:=by rw[dN,aad];exact kY 18 k (by have:(10:Nat) ^ 18=1000000000000000000:=(by decide);lia)
 have fg:=bK (n:=((k:Nat):Int)) (by lia);have hs:∀c∈(Str.ofString (toString ((k:Nat):Int))).cps.toList,bJ c=false:=λc hc=>by
  have:=fg c hc;cases e:bJ c with
  |false=>rfl
  |true=>rcases yy e with rfl|rfl|rfl<;>exact absurd this (by decide)
 cases Ak hs ht with
 |num n a b e=>
  have:=(di a b).2;rw[<-e]at this
  lia
 |text l a b e=>exact absurd (fg 34 (by rw[e];simp)) (by decide)
 |row e=>exact absurd (fg 91 (by rw[e];simp)) (by decide)
 |mark e=>rw[e]at Wo;exact absurd Wo (by decide)
 |val c l a b d f e=>exact absurd (fg 46 (by rw[e];simp)) (by decide)
noncomputable def Uy:Str:=Txt.mul "a" 41
noncomputable def uz(tx nm gr:Str):List Str:=
 ([("" : Str), "add("++tx,tx++")",tx++",1", "add()", "add(1,2,3,4)", "01", "mark()", "(1)"]:List Str) ++
 ([("plus(1,2)" : Str), "0.abcdefghi", "4."++nm, "[ ]", "\"A\"", "[](1)", "\""++Uy++"\"", "add(1,)"]:List Str) ++
 ([gr, "add(,1)", "\"a", "[", "1"++nm, "0.", "add(1 2)", "add(1;2)", "00"]:List Str)++([("=1" : Str), "1.", "."]:List Str)
variable{gr:Str}
def zT(w:Wf t)(n:g7 nm)(hg:¬GU gr)(h:z∈uz (sh t) nm gr):z = "[ ]"\/z = "add(1 2)"\/¬GU z:=by
 unfold uz at h;simp only[aaE,aaS,aaf,aaj,aaJ]at h;rcases h with h|h|h|h|h|h|h|h|h|h|h|h|h|h|h|h|h|h|h|h|h|h|h|h|h|h|h|h|h
 ·rw[h];exact .inr (.inr (vN (by decide)))
 ·rw[h];exact .inr (.inr (Dj w))
 ·rw[h];exact .inr (.inr (vO w))
 ·rw[h];exact .inr (.inr (Di _))
 ·rw[h];exact .inr (.inr zY)
 ·rw[h];exact .inr (.inr Ab)
 ·rw[h];exact .inr (.inr (sy _ (by simp)))
 ·rw[h];exact .inr (.inr (gC _ (by simp)))
 ·rw[h];exact .inr (.inr (gC _ (by simp)))
 ·rw[h];exact .inr (.inr (gC _ (by simp)))
 ·rw[h];exact .inr (.inr (de _ (by simp)))
 ·rw[h];exact .inr (.inr (Ac n))
 ·exact .inl h
 ·rw[h];exact .inr (.inr (eV (c:=65) (by decide) (by decide)))
 ·rw[h];exact .inr (.inr (gC _ (by simp)))
 ·rw[h];exact .inr (.inr (zZ (l:=List.replicate 41 97) (by decide +kernel) (by decide) (by decide)))
 ·rw[h];exact .inr (.inr Aa)
 ·rw[h];exact .inr (.inr hg)
 ·rw[h];exact .inr (.inr vM)
 ·rw[h];exact .inr (.inr (de _ (by simp)))
 ·rw[h];exact .inr (.inr (de _ (by simp)))
 ·rw[h];exact .inr (.inr (Ad n))
 ·rw[h];exact .inr (.inr (de _ (by simp)))
 ·exact .inr (.inl h)
 ·rw[h];exact .inr (.inr (eV (c:=59) (by decide) (by decide)))
 ·rw[h];exact .inr (.inr (sy _ (by simp)))
 ·rw[h];exact .inr (.inr (eV (c:=61) (by decide) (by decide)))
 ·rw[h];exact .inr (.inr (de _ (by simp)))
 ·rw[h];exact .inr (.inr (de _ (by simp)))
theorem zS(w:Wf t)(l:(sh t).length<=150)(n:g7 nm)(wg:Wd gr)(h:z∈uz (sh t) nm gr):z = "[ ]"\/z = "add(1 2)"\/Wd z:=by
 have wt:=km w (by lia);have wn:=hU n;have l8:nm.length<=8:=by rw[aq];exact n.2.1
 have k1:(Str.ofString "add(").length=4:=by decide
 have k2:(Str.ofString ")").length=1:=by decide
 have k3:(Str.ofString ",1").length=2:=by decide
 have k4:(Str.ofString "4.").length=2:=by decide
 have k5:(Str.ofString "1").length=1:=by decide
 unfold uz at h;simp only[aaE,aaS,aaf,aaj,aaJ]at h;rcases h with h|h|h|h|h|h|h|h|h|h|h|h|h|h|h|h|h|h|h|h|h|h|h|h|h|h|h|h|h
 ·rw[h];exact .inr (.inr ⟨by decide,by decide⟩)
 ·rw[h];exact .inr (.inr ⟨by rw[ay,k1];lia,bH (by decide) wt.ch⟩)
 ·rw[h];exact .inr (.inr ⟨by rw[ay,k2];lia,bH wt.ch (by decide)⟩)
 ·rw[h];exact .inr (.inr ⟨by rw[ay,k3];lia,bH wt.ch (by decide)⟩)
 ·rw[h];exact .inr (.inr ⟨by decide,by decide⟩)
 ·rw[h];exact .inr (.inr ⟨by decide,by decide⟩)
 ·rw[h];exact .inr (.inr ⟨by decide,by decide⟩)
 ·rw[h];exact .inr (.inr ⟨by decide,by decide⟩)
 ·rw[h];exact .inr (.inr ⟨by decide,by decide⟩)
 ·rw[h];exact .inr (.inr ⟨by decide,by decide⟩)
 ·rw[h];exact .inr (.inr ⟨by decide,by decide⟩)
 ·rw[h];exact .inr (.inr ⟨by rw[ay,k4];lia,bH (by decide) wn.ch⟩)
 ·exact .inl h
 ·rw[h];exact .inr (.inr ⟨by decide,by decide⟩)
 ·rw[h];exact .inr (.inr ⟨by decide,by decide⟩)
 ·rw[h];exact .inr (.inr ⟨by decide +kernel,by decide +kernel⟩)
 ·rw[h];exact .inr (.inr ⟨by decide,by decide⟩)
 ·rw[h];exact .inr (.inr wg)
 ·rw[h];exact .inr (.inr ⟨by decide,by decide⟩)
 ·rw[h];exact .inr (.inr ⟨by decide,by decide⟩)
 ·rw[h];exact .inr (.inr ⟨by decide,by decide⟩)
 ·rw[h];exact .inr (.inr ⟨by rw[ay,k5];lia,bH (by decide) wn.ch⟩)
 ·rw[h];exact .inr (.inr ⟨by decide,by decide⟩)
 ·exact .inr (.inl h)
 ·rw[h];exact .inr (.inr ⟨by decide,by decide⟩)
 ·rw[h];exact .inr (.inr ⟨by decide,by decide⟩)
 ·rw[h];exact .inr (.inr ⟨by decide,by decide⟩)
 ·rw[h];exact .inr (.inr ⟨by decide,by decide⟩)
 ·rw[h];exact .inr (.inr ⟨by decide,by decide⟩)
inductive How(ws:List Str):Prop
 |bad:o3 ws->How ws
 |term:∀r,ws=u9 r->(∀w∈ws,Wd w)->¬GU r.tx->How ws
structure yf(ws:List Str):Prop where
 len:ws.length<=60
 ne:ws≠[]
 wl:∀w∈ws,w.length<=200
 how:∃NA,ln NA=ln ws/\How NA
def o3.r(h:o3 ws):yf ws:=⟨h.len,h.ne,λw hw=>(h.wd w hw).len,ws,rfl,.bad h⟩
theorem uD(w:Wf (.val k nm)):∃(Hr:Str)(c:Nat),Hr.cps.toList=[c]/\(c=48\/c=49\/c=50\/c=51)/\(sh (.val k nm)).cps.toList=c::46::nm.cps.toList/\Txt.partition (sh (.val k nm)) "." = (Hr,("." : Str),nm):=by
 unfold Wf at w;have e46:(Str.ofString ".")=⟨#[46]⟩:=by decide
 have h:∀(f:Str)(c:Nat),f.cps.toList=[c]->(c=48\/c=49\/c=50\/c=51)->(f++"."++nm).cps.toList=c::46::nm.cps.toList/\Txt.partition (f++"."++nm) "." = (f,("." : Str),nm):=λf c ef hc=>by refine⟨by rw[ap,ap,cn,ef];rfl,?_⟩;rw[e46];exact fM (by rw[ef];intro m;have:=List.mem_singleton.mp m;lia)
 unfold sh;have hk:=w.1;rcases hk with rfl|rfl|rfl|rfl
 ·exact⟨Str.ofString (toString (0:Int)),48,by rfl,.inl rfl,h _ 48 (by rfl) (.inl rfl)⟩
 ·exact⟨Str.ofString (toString (1:Int)),49,by rfl,.inr (.inl rfl),h _ 49 (by rfl) (.inr (.inl rfl))⟩
 ·exact⟨Str.ofString (toString (2:Int)),50,by rfl,.inr (.inr (.inl rfl)),h _ 50 (by rfl) (.inr (.inr (.inl rfl)))⟩
 ·exact⟨Str.ofString (toString (3:Int)),51,by rfl,.inr (.inr (.inr rfl)),h _ 51 (by rfl) (.inr (.inr (.inr rfl)))⟩
theorem wD(h0:0<=m)(h:m<10000000000000000000):Wd (Str.ofString (toString m)):=by
 have fg:=bK (n:=m) h0;obtain⟨k,rfl⟩:=aaG h0;have Wo:(Str.ofString (toString ((k:Nat):Int))).cps.toList.length<=19:=by rw[dN,aad];exact nO 18 k (by lia)
 exact⟨by rw[aq];lia,λc hc=>⟨eF (fg c hc),nM (fg c hc)⟩⟩
theorem tH{n:Int}(h0:0<=n)(h1:n<10000000000000000000):n.natAbs.log2<1920:=by
 have h:n.natAbs<2 ^ 64:=by
  have e:(2:Nat) ^ 64=18446744073709551616:=by decide
  lia
 by_cases z:n.natAbs=0
 ·rw[z];decide
 ·exact aav ((Nat.log2_lt z).mpr h) (by decide)
theorem FF(v:Wf (.val k nm))(l:ws.length<=50)(w:∀w∈ws,Wd w)(n:∀y,ws≠[("=" : Str),y]):o3 (sh (.val k nm)::ws) where
 len:=by rw[aac];lia
 ne:=by simp
 wd:=λx hx=>by
  rcases List.mem_cons.mp hx with rfl|hx
  ·exact km v (by have:=cD v;lia)
  ·exact w x hx
 ng:=λr e=>absurd (aab e).2 (n r.tx)
 no:=yo v n
variable{p q:Str}
def Dr(h:z.cps.toList=p.cps.toList++32::q.cps.toList):ln [a,b,p,q]=ln [a,b,z]:=by apply bx;rw[hX,hX];unfold tl;simp[h]
theorem sv{r:Ru}(o:oj r)(e:z.cps.toList=p.cps.toList++32::q.cps.toList)(wp:Wd p)(wq:Wd q)(lz:z.length<=200):yf [sh (.val r.k r.nm), "=",z]:=by
 refine⟨by simp,by simp,λw hw=>?_,[sh (.val r.k r.nm), "=",p,q],Dr e,.bad (FF o.vl (by simp) (λw hw=>?_) (λy e=>?_))⟩
 ·simp only[aaf,aaj,aaJ]at hw;rcases hw with rfl|rfl|rfl
  ·have:=cD o.vl;lia
  ·decide
  ·exact lz
 ·simp only[aaf,aaj,aaJ]at hw;rcases hw with rfl|rfl|rfl
  ·exact⟨by decide,by decide⟩
  ·exact wp
  ·exact wq
 ·exact absurd (aaN List.length e) (by simp)
theorem Fb{r:Ru}(o:oj r)(t:J_ r.tm 4)(n:g7 r.nm)(hg:¬GU gr)(wg:Wd gr)(h:z∈uz (sh r.tm) r.nm gr):yf [sh (.val r.k r.nm), "=",z]:=by
 have a:yf [sh (.val r.k r.nm), "=", "[ ]"]:=sv (p:="[") (q:="]") o (by decide) ⟨by decide,by decide⟩ ⟨by decide,by decide⟩ (by decide);have b:yf [sh (.val r.k r.nm), "=", "add(1 2)"]:=sv (p:="add(1") (q:="2)") o (by decide) ⟨by decide,by decide⟩ ⟨by decide,by decide⟩ (by decide);rcases zT t.wf n hg h with rfl|rfl|nt
 ·exact a
 ·exact b
 ·rcases zS t.wf (by have:=t.l;lia) n wg h with rfl|rfl|wz
  ·exact a
  ·exact b
  ·have wv:=km o.vl (by have:=cD o.vl;lia);have all:∀w∈[sh (.val r.k r.nm),("=" : Str),z],Wd w:=λw hw=>by
    simp only[aaf,aaj,aaJ]at hw;rcases hw with rfl|rfl|rfl
    ·exact wv
    ·exact⟨by decide,by decide⟩
    ·exact wz
   exact⟨by simp,by simp,λw hw=>(all w hw).len,_,rfl,.term ⟨r.k,r.nm,z⟩ rfl all nt⟩
def BX:Sp:=λvs H Q _=>∃(l:Addr)(r:Ru)(wy c:Int),vs=[.ref l,.int wy,.int c]/\H l=some (.lst ((MP r).map V.str))/\oj r/\J_ r.tm 4/\0<=c/\c<1000000000000000000/\∀(p:Addr)(ws:List Str)(H':Hp),b6 H H'->H' p=some (.lst (ws.map V.str))->yf ws->Q (.ref p) H'
theorem zO(X:Tx K w mg T):d9 P w K mg base E6 2 T.qAX T.OZ ["_law_words", "_law_way", "_law_cell"] BX:=by
 have K5:=lT (P:=P) (w:=w) (base:=base) X;refine X.Sd.G9 A8 (λvs H Q E h=>?_) (λj8 A outer s H vs Q E hr h=>?_)
 ·obtain⟨_,_,_,_,rfl,_⟩:=h;rfl
 obtain⟨l,r,wy,c,rfl,hl,o,ts,c0,c1,q⟩:=h;refine⟨_,(af (kt (cM abq adw adv fV (aU aE (qv 0) aj (λ_ _=>rfl)) (d_ ak ac)) (du rfl (aW (aM (i:=3) A8.nd rfl oI1) (aW (aM (i:=4) A8.nd rfl oI1) (aW (aM (i:=5) A8.nd rfl oI1) cg))))) (af (be (aC bM (qv 1) aj (aK _)) (af (aD (i:=6) A8.nd rfl oI1 (aR (o7 (ar au ak (qv 5)) (o7 (ar au ak (aU aE (qv 0) aj (λ_ _=>rfl))) (o7 (ar au ak (qv 5)) (o7 (ar au ak (qv 5)) (o7 (ar au (qv 3) (qv 5)) (o7 (ar au (ar au (qv 3) ak) (qv 5)) (d5 (qv 5) ac))))))))) (af (aD (i:=6) A8.nd rfl oI1 (ar cu (qv 6) (aR (o7 (ar au (ar au (aU aE (qv 0) aj (λ_ _=>rfl)) ak) (qv 5)) (o7 (ar au (ar au (qv 3) ak) (aB K5 hr rfl X.Ob X.MI.kp X.Pw .nil bu (o7 (ar bh (qv 2) aj) (d5 (qv 5) ac)))) (o7 (ar au (qv 3) ak) (o7 (ar au ak (qv 5)) ac))))))) (ao (aH (ar cu (aR (x_ (aU aE (qv 6) (ar aV (qv 2) aj) (λ_ _=>rfl)) ac)) (bc bT (qv 0) (bi aj) bE)))))) aI) (af (be (aC bM (qv 1) aj (aK _)) (ao (aH (aU aE (aR (UO (aR (x_ (aU aE (qv 0) aj (λ_ _=>rfl)) (d_ ak (x_ (aU aE (qv 0) aj (λ_ _=>rfl)) ac)))) (UO (aR (x_ (aU aE (qv 0) aj (λ_ _=>rfl)) (x_ (aU aE (qv 0) aj (λ_ _=>rfl)) ac))) (x_ (bc bT (qv 0) bE (bi aj)) (UO (aR (x_ (aU aE (qv 0) aj (λ_ _=>rfl)) (d_ ak (x_ (aU aE (qv 0) aj (λ_ _=>rfl)) ac)))) ac))))) (ar aV (qv 2) aj) (λ_ _=>rfl)))) aI) (af (be (aC bM (qv 1) aj (aK _)) (ao (aH (ar cu (qv 0) (aR (x_ (aU aE (aR (d_ ak (d_ ak (x_ (aU aE (qv 0) aj (λ_ _=>rfl)) (d_ ak ac))))) (ar aV (qv 2) aj) (λ_ _=>rfl)) ac))))) aI) (af (aD (i:=6) A8.nd rfl oI1 (aR (d_ ak (o7 (ar au ak (aU aE (qv 0) aj (λ_ _=>rfl))) (o7 (ar au (aU aE (qv 0) aj (λ_ _=>rfl)) ak) (o7 (ar au (aU aE (qv 0) aj (λ_ _=>rfl)) ak) (d_ ak (d_ ak (d_ ak (d_ ak (d_ ak ac))))))))))) (af (aD (i:=6) A8.nd rfl oI1 (ar cu (qv 6) (aR (d_ ak (d_ ak (o7 (ar au ak (qv 5)) (d_ ak (d_ ak (d_ ak (o7 (ar au (ar au ak (ar dM ak aj)) ak) (d_ ak ac))))))))))) (af (aD (i:=6) A8.nd rfl oI1 (ar cu (qv 6) (aR (y8 (bp cX rfl X.GO abk (o7 (ar bA (ar xG aj aj) (ar bh (qv 2) aj)) ac)) (d_ ak (d_ ak (d_ ak (o7 (ar au ak (qv 5)) (d_ ak (d_ ak (d_ ak (d_ ak ac)))))))))))) (af (aD (i:=6) A8.nd rfl oI1 (ar cu (qv 6) (aR (d_ ak (d_ ak (d_ ak ac)))))) (ao (aH (aR (x_ (aU aE (qv 0) aj (λ_ _=>rfl)) (d_ ak (x_ (aU aE (qv 6) (ar aV (qv 2) aj) (λ_ _=>rfl)) ac)))))))))))))),?_⟩;dsimp only[cq];have nn:g7 r.nm:=by have:=o.vl;unfold Wf at this;exact this.2
 obtain⟨Hr,cf,ef,hc,ew,ep⟩:=uD o.vl;have wn:=hU nn;have l8:r.nm.length<=8:=by rw[aq];exact nn.2.1
 have lf:Hr.length=1:=by rw[aq,ef];rfl
 have wt:=km ts.wf (by have:=ts.l;lia);have Ti:=ts.l;have wv:=km o.vl (by have:=cD o.vl;lia);have bv:=λ(ws:List Str)=>FF (ws:=ws) o.vl;have br:=λ(z gr:Str)=>Fb (z:=z) (gr:=gr) o ts nn;obtain⟨w0,e0⟩:∃w0,sh (.val r.k r.nm)=w0:=⟨_,rfl⟩
 obtain⟨tx,et⟩:∃tx,sh r.tm=tx:=⟨_,rfl⟩
 have Jd:H l=some (.lst ([w0, "=",tx].map V.str)):=by rw[<-e0,<-et];exact hl
 rw[e0]at ew ep wv bv br;rw[et]at wt Ti br;have lw0:w0.length<=10:=by rw[aq,ew,aac,aac,<-aq];lia
 have A0:y6 ([w0,("=" : Str),tx].map V.str) 0=some (.str w0):=cz (zs:=[w0, "=",tx]) (j:=0) rfl rfl;have A2:y6 ([w0,("=" : Str),tx].map V.str) 2=some (.str tx):=cz (zs:=[w0, "=",tx]) (j:=2) rfl rfl;refine⟨_,rfl,l,_,_,.str w0,rfl,rfl,c_.of Jd,A0,rfl,w0, ".",rfl,rfl,rfl,cp (by lia),λp hp=>?_⟩;rw[ep];have s0:=ae hp (.tup [.str Hr,.str ".",.str r.nm]);refine⟨p,_,rfl,k_.of aa,rfl,_,_,rfl,_,_,rfl,_,_,rfl,rfl,?_⟩;have JB:=s0 _ _ Jd;dsimp only[j4];generalize upd H p (.tup [.str Hr,.str ".",.str r.nm])=H0 at s0 JB⊢;refine⟨_,rfl,rfl,_,rfl,bI (λh13=>?_) (λh13=>?_)⟩
 ·-- values Vj are none
  have k1:(Str.ofString "4.").length=2:=by decide
  have k2:(Str.ofString "0").length=1:=by decide
  have k3:(Str.ofString "x.").length=2:=by decide
  have k4:(Str.ofString ".").length=1:=by decide
  have k5:(Str.ofString "..").length=2:=by decide
  have k6:(Str.ofString "9.").length=2:=by decide
  refine⟨_,rfl,_,_,rfl,rfl,aO (by rw[k1];lia),_,rfl,l,_,_,.str w0,rfl,rfl,c_.of JB,A0,_,_,rfl,rfl,aO (by rw[k2];lia),_,rfl,_,_,rfl,rfl,aO (by rw[k3];lia),_,rfl,_,_,rfl,rfl,aO (by rw[k4];lia),_,rfl,_,rfl,_,_,rfl,rfl,aO (by lia),_,rfl,_,_,rfl,rfl,aO (by rw[k5];lia),_,rfl,_,_,rfl,rfl,aO (by rw[ay,k5];lia),_,rfl,Z7,λa ha=>?_⟩;have s1:=ae ha (.lst ((["4."++r.nm, "0"++w0, "x."++r.nm, "."++r.nm,Hr++r.nm,Hr++".."++r.nm,r.nm]:List Str).map V.str));have U5:=aa (H:=H0) (a:=a) (o:=.lst ((["4."++r.nm, "0"++w0, "x."++r.nm, "."++r.nm,Hr++r.nm,Hr++".."++r.nm,r.nm]:List Str).map V.str));have IV:=s1 _ _ JB;refine⟨_,rfl,_,rfl,l,_,_,.str w0,rfl,rfl,c_.of IV,A0,_,_,rfl,rfl,aO (by rw[k4];lia),_,rfl,_,_,rfl,rfl,aO (by rw[ay,k4];lia),_,rfl,_,_,rfl,rfl,aO (by rw[k4];lia),_,rfl,_,_,rfl,rfl,⟨by decide,by decide⟩,_,rfl,_,_,rfl,nn,λbad H2 s2 nb wb lb=>?_⟩;refine⟨_,_,rfl,rfl,aO (by rw[ay,k4];lia),_,rfl,_,_,rfl,rfl,aO (by rw[k4];lia),_,rfl,_,_,rfl,rfl,aO (by rw[k6];lia),Z4,λb hb=>?_⟩;have s3:=ae hb (.lst (([w0++"."++r.nm,Hr++"."++bad,Hr++".", "9."++r.nm]:List Str).map V.str));refine⟨a,b,_,_,rfl,rfl,s3 _ _ (s2 _ _ U5),aa,aO (by show 7+4<=_;decide),λe he=>?_⟩;have s4:=ae he (.lst ((zR w0 Hr r.nm bad).map V.str));have he4:=aa (H:=upd H2 b (.lst (([w0++"."++r.nm,Hr++"."++bad,Hr++".", "9."++r.nm]:List Str).map V.str))) (a:=e) (o:=.lst ((zR w0 Hr r.nm bad).map V.str));have PU:=(s0.trans s1).trans (s2.trans (s3.trans s4));have hl4:=PU _ _ Jd;obtain⟨z,az,hz⟩:=iL (zs:=zR w0 Hr r.nm bad) (m:=c%11) (aar _ (by decide)) (aan _ (by decide));refine⟨_,rfl,_,rfl,_,_,rfl,rfl,(by show(0:Int)<11;decide),e,_,_,.str z,rfl,rfl,c_.of he4,az,Z1,λf hf=>?_⟩;have s5:=ae hf (.lst (([z]:List Str).map V.str));refine⟨_,rfl,_,rfl,l,_,rfl,c_.of (s5 _ _ hl4),λg hg=>?_⟩;have s6:=ae hg (.lst ((["=",tx]:List Str).map V.str));refine⟨f,g,[.str z],[.str "=",.str tx],rfl,rfl,s6 _ _ aa,aa,aO (by show 1+2<=_;decide),λi hi=>?_⟩;refine q i [z, "=",tx] _ (PU.trans (s5.trans (s6.trans (ae hi _)))) aa (o3.r ⟨by simp,by simp,λw hw=>?_,λr' e'=>?_,vI ef hc ew nn nb hz⟩)
  ·simp only[aaf,aaj,aaJ]at hw;rcases hw with rfl|rfl|rfl
   ·exact zQ ef hc ew nn wb lb hz
   ·exact⟨by decide,by decide⟩
   ·exact wt
  ·unfold u9 at e';rw[<-(aab (aab (aab e').2).2).1,<-et];exact Af ts
 refine bU λN0 y0=>y0 _ _ ?_;refine⟨_,rfl,rfl,_,rfl,bI (λh14=>?_) (λh14=>?_)⟩
 ·-- no sign of equality
  refine⟨_,rfl,l,_,_,.str w0,rfl,rfl,c_.of JB,A0,_,rfl,l,_,_,.str tx,rfl,rfl,c_.of JB,A2,Z3,λa ha=>?_⟩;have s1:=ae ha (.lst (([w0, "==",tx]:List Str).map V.str));have U5:=aa (H:=H0) (a:=a) (o:=.lst (([w0, "==",tx]:List Str).map V.str));have IV:=s1 _ _ JB;refine⟨_,rfl,l,_,_,.str w0,rfl,rfl,c_.of IV,A0,_,rfl,l,_,_,.str tx,rfl,rfl,c_.of IV,A2,Z2,λb hb=>?_⟩;have s2:=ae hb (.lst (([w0,tx]:List Str).map V.str));have Nu:=s2 _ _ IV;refine⟨_,rfl,_,rfl,l,_,rfl,c_.of Nu,λd hd=>?_⟩;have s3:=ae hd (.lst (([w0, "="]:List Str).map V.str));have Ou:=s3 _ _ Nu;refine⟨_,rfl,l,_,_,.str w0,rfl,rfl,c_.of Ou,A0,_,rfl,l,_,_,.str tx,rfl,rfl,c_.of Ou,A2,Z3,λe he=>⟨Z4,λf hf=>?_⟩⟩;have s4:=ae he (.lst (([w0, ":",tx]:List Str).map V.str));have s5:=ae hf (.lst [.ref a,.ref b,.ref d,.ref e]);have ZF:=s0.trans (s1.trans (s2.trans (s3.trans (s4.trans s5))));have g0:=aar c (show(4:Int)≠0 by decide);have g1:=aan c (show(0:Int)<4 by decide);have A4:∃v,y6 [V.ref a,.ref b,.ref d,.ref e] (c%4)=some v/\(v=.ref a\/v=.ref b\/v=.ref d\/v=.ref e):=by obtain⟨x,hx,hm⟩:=og (xs:=[V.ref a,.ref b,.ref d,.ref e]) g0 (by simpa using g1);exact⟨x,hx,by simpa using hm⟩
  obtain⟨v,av,hv⟩:=A4;have eq1:∀x:Str,x ≠ "="->∀y ys,(x::ys)≠[("=" : Str),y]:=λx hx y ys e=>hx (aab e).1;refine⟨_,rfl,_,_,rfl,rfl,(by show(0:Int)<4;decide),f,_,_,v,rfl,rfl,c_.of aa,av,?_⟩;rcases hv with rfl|rfl|rfl|rfl
  ·refine q a [w0, "==",tx] _ ZF ((s2.trans (s3.trans (s4.trans s5))) _ _ U5) (o3.r (bv ["==",tx] (by simp) (λw hw=>?_) (λy=>eq1 _ (by decide) y _)));simp only[aaf,aaj,aaJ]at hw;rcases hw with rfl|rfl
   ·exact⟨by decide,by decide⟩
   ·exact wt
  ·refine q b [w0,tx] _ ZF ((s3.trans (s4.trans s5)) _ _ aa) (o3.r (bv [tx] (by simp) (λw hw=>?_) (λy e=>absurd (aaN List.length e) (by simp))));rw[List.mem_singleton.mp hw];exact wt
  ·refine q d [w0, "="] _ ZF ((s4.trans s5) _ _ aa) (o3.r (bv ["="] (by simp) (λw hw=>?_) (λy e=>absurd (aaN List.length e) (by simp))));rw[List.mem_singleton.mp hw];exact⟨by decide,by decide⟩
  ·refine q e [w0, ":",tx] _ ZF (s5 _ _ aa) (o3.r (bv [":",tx] (by simp) (λw hw=>?_) (λy=>eq1 _ (by decide) y _)));simp only[aaf,aaj,aaJ]at hw;rcases hw with rfl|rfl
   ·exact⟨by decide,by decide⟩
   ·exact wt
 refine bU λN1 y1=>y1 _ _ ?_;refine⟨_,rfl,rfl,_,rfl,bI (λXi=>?_) (λXi=>?_)⟩
 ·-- a word too many
  refine⟨_,rfl,_,rfl,l,_,_,.str tx,rfl,rfl,c_.of JB,A2,Z4,λa ha=>?_⟩;have s1:=ae ha (.lst ((["1", "=",tx, ""]:List Str).map V.str));obtain⟨z,az,hz⟩:=iL (zs:=[("1" : Str), "=",tx, ""]) (m:=c%4) (aar _ (by decide)) (aan _ (by decide));refine⟨_,rfl,_,_,rfl,rfl,(by show(0:Int)<4;decide),a,_,_,.str z,rfl,rfl,c_.of aa,az,Z1,λb hb=>?_⟩;have s2:=ae hb (.lst (([z]:List Str).map V.str));refine⟨l,b,_,_,rfl,rfl,s2 _ _ (s1 _ _ JB),aa,aO (by show 3+1<=_;decide),λd hd=>?_⟩;refine q d [w0, "=",tx,z] _ (s0.trans (s1.trans (s2.trans (ae hd _)))) aa (o3.r (bv ["=",tx,z] (by simp) (λw hw=>?_) (λy e=>absurd (aaN List.length e) (by simp))));simp only[aaf,aaj,aaJ]at hw;rcases hw with rfl|rfl|rfl
  ·exact⟨by decide,by decide⟩
  ·exact wt
  ·simp only[aaf,aaj,aaJ]at hz;rcases hz with rfl|rfl|rfl|rfl
   ·exact⟨by decide,by decide⟩
   ·exact⟨by decide,by decide⟩
   ·exact wt
   ·exact⟨by decide,by decide⟩
 refine bU λN2 y2=>y2 _ _ ?_;have k1:(Str.ofString "add(").length=4:=by decide
 have k2:(Str.ofString ")").length=1:=by decide
 have k3:(Str.ofString ",1").length=2:=by decide
 have k4:(Str.ofString "4.").length=2:=by decide
 have k5:(Str.ofString "1").length=1:=by decide
 have k6:(Str.ofString "\"").length=1:=by decide
 have k7:Uy.length=41:=by decide +kernel
 refine⟨_,rfl,l,_,_,.str tx,rfl,rfl,c_.of JB,A2,_,_,rfl,rfl,aO (by rw[k1];lia),_,rfl,l,_,_,.str tx,rfl,rfl,c_.of JB,A2,_,_,rfl,rfl,aO (by rw[k2];lia),_,rfl,l,_,_,.str tx,rfl,rfl,c_.of JB,A2,_,_,rfl,rfl,aO (by rw[k3];lia),Z9,λa ha=>?_⟩;obtain⟨L1,e1⟩:∃L1,([("" : Str), "add("++tx,tx++")",tx++",1", "add()", "add(1,2,3,4)", "01", "mark()", "(1)"]:List Str)=L1:=⟨_,rfl⟩
 have l1:L1.length=9:=by rw[<-e1];rfl
 dsimp only[j4];rw[show([V.str "",V.str ("add("++tx),V.str (tx++")"),V.str (tx++",1"),V.str "add()",V.str "add(1,2,3,4)",V.str "01",V.str "mark()",V.str "(1)"]:List V)=L1.map V.str by rw[<-e1];rfl];have s1:=ae ha (.lst (L1.map V.str));have U5:=aa (H:=H0) (a:=a) (o:=.lst (L1.map V.str));have IV:=s1 _ _ JB;have s01:=s0.trans s1;generalize upd H0 a (.lst (L1.map V.str))=H1 at s1 s01 U5 IV⊢;refine⟨_,rfl,_,rfl,_,_,rfl,rfl,aO (by rw[k4];lia),_,_,rfl,rfl,(by decide),(by decide),(by decide),?_⟩;rw[show Txt.mul "a" 41=Uy from rfl];refine⟨_,_,rfl,rfl,aO (by rw[k6,k7];lia),_,_,rfl,rfl,aO (by rw[ay,k6,k7];lia),Z8,λb hb=>?_⟩;obtain⟨L2,e2⟩:∃L2,([("plus(1,2)" : Str), "0.abcdefghi", "4."++r.nm, "[ ]", "\"A\"", "[](1)", "\""++Uy++"\"", "add(1,)"]:List Str)=L2:=⟨_,rfl⟩
 have l2:L2.length=8:=by rw[<-e2];rfl
 rw[show([V.str "plus(1,2)",V.str "0.abcdefghi",V.str ("4."++r.nm),V.str "[ ]",V.str "\"A\"",V.str "[](1)",V.str ("\""++Uy++"\""),V.str "add(1,)"]:List V)=L2.map V.str by rw[<-e2];rfl];have s2:=ae hb (.lst (L2.map V.str));refine⟨a,b,_,_,rfl,rfl,s2 _ _ U5,aa,aO (by rw[aad,aad,l1,l2];decide),λd hd=>?_⟩;have s3:=ae hd (.lst (L1.map V.str++L2.map V.str));have PZ:=aa (H:=upd H1 b (.lst (L2.map V.str))) (a:=d) (o:=.lst (L1.map V.str++L2.map V.str));have s03:=s01.trans (s2.trans s3);have Ou:=s03 _ _ Jd;dsimp only[j4];generalize upd (upd H1 b (.lst (L2.map V.str))) d (.lst (L1.map V.str++L2.map V.str))=H3 at s03 PZ Ou⊢;obtain⟨m,em,m0,m1⟩:∃m:Int,(10:Int) ^ Int.toNat 18+c / 40=m/\1000000000000000000<=m/\m<10000000000000000000:=by
  have:(10:Int) ^ Int.toNat 18=1000000000000000000:=by decide
  refine⟨_,rfl,?_,?_⟩
  ·rw[this];lia
  ·rw[this];lia
 obtain⟨gr,eg⟩:∃gr,Str.ofString (toString m)=gr:=⟨_,rfl⟩
 have ng:¬GU gr:=by rw[<-eg];exact vL m0
 have wg:Wd gr:=by rw[<-eg];exact wD (by lia) m1
 refine⟨_,rfl,_,_,rfl,rfl,⟨by decide,by decide,by decide⟩,_,rfl,_,_,rfl,rfl,⟨by decide,by decide⟩,_,_,rfl,rfl,m,aaN (λn:Int=>[V.int n]) em,tH (by lia) m1,_,rfl,_,_,rfl,rfl,aO (by rw[k5];lia),Z9,λe he=>?_⟩;rw[eg];obtain⟨L3,e3⟩:∃L3,([gr, "add(,1)", "\"a", "[", "1"++r.nm, "0.", "add(1 2)", "add(1;2)", "00"]:List Str)=L3:=⟨_,rfl⟩
 have l3:L3.length=9:=by rw[<-e3];rfl
 rw[show([V.str gr,V.str "add(,1)",V.str "\"a",V.str "[",V.str ("1"++r.nm),V.str "0.",V.str "add(1 2)",V.str "add(1;2)",V.str "00"]:List V)=L3.map V.str by rw[<-e3];rfl];have s4:=ae he (.lst (L3.map V.str));refine⟨d,e,_,_,rfl,rfl,s4 _ _ PZ,aa,aO (by rw[aaa,aad,aad,aad,l1,l2,l3];decide),λf hf=>?_⟩;have s5:=ae hf (.lst (L1.map V.str++L2.map V.str++L3.map V.str));have hf1:=aa (H:=upd H3 e (.lst (L3.map V.str))) (a:=f) (o:=.lst (L1.map V.str++L2.map V.str++L3.map V.str));have s05:=s03.trans (s4.trans s5);have hl5:=s05 _ _ Jd;dsimp only[j4];generalize upd (upd H3 e (.lst (L3.map V.str))) f (.lst (L1.map V.str++L2.map V.str++L3.map V.str))=H5 at s05 hf1 hl5⊢;refine⟨_,rfl,Z3,λg hg=>?_⟩;have s6:=ae hg (.lst ((["=1", "1.", "."]:List Str).map V.str));refine⟨f,g,_,_,rfl,rfl,s6 _ _ hf1,aa,aO (by rw[aaa,aaa,aad,aad,aad,l1,l2,l3];decide),λi hi=>?_⟩;have eT:L1.map V.str++L2.map V.str++L3.map V.str++[V.str "=1",V.str "1.",V.str "."]=(uz tx r.nm gr).map V.str:=by unfold uz;rw[aaZ,aaZ,aaZ,e1,e2,e3];rfl
 rw[eT];have s7:=ae hi (.lst ((uz tx r.nm gr).map V.str));have TZ:=aa (H:=upd H5 g (.lst ((["=1", "1.", "."]:List Str).map V.str))) (a:=i) (o:=.lst ((uz tx r.nm gr).map V.str));have s07:=s05.trans (s6.trans s7);obtain⟨z,az,hz⟩:=iL (zs:=uz tx r.nm gr) (m:=c%29) (aar _ (by decide)) (aan _ (by decide));dsimp only[j4];refine⟨_,rfl,l,_,_,.str w0,rfl,rfl,c_.of (s07 _ _ Jd),A0,_,rfl,_,rfl,_,_,rfl,rfl,(by show(0:Int)<29;decide),i,_,_,.str z,rfl,rfl,c_.of TZ,az,Z3,λj hj=>?_⟩;exact q j [w0, "=",z] _ (s07.trans (ae hj _)) aa (br z gr ng wg hz)
theorem rO{g:Gr}(h:Ht g)(hw:ws∈i_ g)(n:Nat)(no:¬sY ((i_ g).take n++[ws]++(i_ g).drop n)):GY ((i_ g).take n++[ws]++(i_ g).drop n) where
 l:=by have:=(iH h).1 ws hw;exact rP h n (by have:=this.len;lia) (λe=>by have:=this.two;rw[e]at this;exact absurd this (by decide)) this.wd
 ng:=λr hr=>by
  simp only[aat,aaL]at hr;rcases hr with(hr|hr)|hr
  ·exact gf h (aa1 hr)
  ·exact gf h (hr▸hw)
  ·exact gf h (aa2 hr)
 no:=.inl no
variable{i:Nat}
def uR{g:Gr}(hi:i<g.sg.length):∃s,s∈g.sg/\(i_ g)[i]?=some (n9 s):=by obtain⟨s,hs⟩:=aN hi;refine⟨s,aak hs,?_⟩;unfold i_;rw[aa4 (by rw[aad];exact hi),aaI,hs];rfl
theorem mh{g:Gr}(h:Ht g):∃f r,f∈g.fm/\r∈f.ru/\(i_ g)[g.sg.length]?=some (J4 f)/\(i_ g)[g.sg.length+1]?=some (MP r):=by
 obtain⟨f,fs,e⟩:=aaQ h.f1;have hf:f∈g.fm:=by rw[e];exact aap
 obtain⟨r,rs,er⟩:=aaQ (h.fm f hf).one;refine⟨f,r,hf,by rw[er];exact aap,?_,?_⟩
 ·unfold i_;rw[aaz (by rw[aad];exact aam _),aad,acg,e,aa6];rfl
 ·unfold i_;rw[aaz (by rw[aad];lia),aad,show g.sg.length+1-g.sg.length=1 by lia,e,aa6];unfold J5;rw[er];rfl
theorem wE(h:sY LL)(hi:LL[i]?=some l)(hl:∀s,l≠n9 s)(ij:i<j)(hj:LL[j]?=some (n9 s)):False:=by
 obtain⟨ss,fs,o1,o2,e⟩:=h;have a:ss.length<=i:=by
  by_cases c:i<ss.length
  ·obtain⟨s,hs⟩:=aN c;rw[e,aa4 (by rw[aad];exact c),aaI,hs]at hi;exact absurd (aaq hi).symm (hl s)
  ·lia
 rw[e,aaz (by rw[aad];lia)]at hj;rcases gH ⟨fs,o2,rfl⟩ (aak hj)with⟨f,_,_,e⟩|⟨r,_,e⟩
 ·exact mK e
 ·exact jk e
theorem xD{L:List α}(hn:n<=L.length)(x:α):(L.take n++[x]++L.drop n)[n]?=some x:=by rw[aas,aaz (by rw[aaD];lia),aaD,acB hn,acg];rfl
theorem xC{L:List α}(hi:i<n)(hn:n<=L.length)(x:α):(L.take n++[x]++L.drop n)[i]?=L[i]?:=by rw[aas,aa4 (by rw[aaD];lia),ac1,aaX hi]
def sP{g:Gr}(h:Ht g)(hi:i<g.sg.length)(h1:g.sg.length<n)(h2:n<=(i_ g).length):∃l,(i_ g)[i]?=some l/\l∈i_ g/\GY ((i_ g).take n++[l]++(i_ g).drop n):=by obtain⟨s,hs,es⟩:=uR hi;obtain⟨f,r,hf,hr,ef,er⟩:=mh h;refine⟨_,es,aak es,rO h (aak es) n λgr=>?_⟩;exact wE gr (i:=g.sg.length) (j:=n) (l:=J4 f) (s:=s) (by rw[xC h1 h2];exact ef) (λs e=>mK (f:=qp f) e.symm) h1 (xD h2 _)
theorem qr{g:Gr}(h:Ht g)(h1:n<=g.sg.length):∃l,(i_ g)[g.sg.length+1]?=some l/\l∈i_ g/\GY ((i_ g).take n++[l]++(i_ g).drop n):=by
 obtain⟨f,r,hf,hr,ef,er⟩:=mh h;have hn:n<=(i_ g).length:=by
  have:=(List.getElem?_eq_some_iff.mp er).1
  lia
 refine⟨_,er,aak er,rO h (aak er) n λgr=>?_⟩;obtain⟨ss,fs,o1,o2,e⟩:=gr;have hd:(MP r).head?≠some ("sign" : Str):=λe=>cO (r:=lE r) (z:="sign") (by decide) (aaq e);have c:=tI (i:=n) e (λj hj=>by
  obtain⟨s,_,es⟩:=uR (g:=g) (i:=j) (by lia);exact⟨n9 s,by rw[xC hj hn];exact es,rfl⟩) (λl hl=>by
  rw[xD hn]at hl;rw[<-aaq hl];exact hd)
 have e2:fs.flatMap A9=MP r::(i_ g).drop n:=by have:=aaN (List.drop n) e;rw[aas,adq (l₁:=(i_ g).take n) (by rw[aaD];lia),adq (l₁:=ss.map n9) (by rw[aad];exact c)]at this;exact this.symm
 obtain⟨f',e'⟩:=nG ⟨fs,o2,rfl⟩ e2;exact fu (r:=lE r) e'.symm
noncomputable def iG(y:Str)(j c:Nat):Str:=⟨(y.cps.toList.take j++c::y.cps.toList.drop j).toArray⟩
def cm(y:Str)(j c:Nat):(iG y j c).cps.toList=y.cps.toList.take j++c::y.cps.toList.drop j:=by unfold iG;simp
def yw(sep:Nat)(h:L≠[]):tl sep L=sep::(Txt.join ⟨#[sep]⟩ L).cps.toList:=by obtain⟨z,zs,rfl⟩:=aaQ h;rw[jH,fI];rfl
theorem jI(sep c:Nat):∀(zs:List Str)(z:Str)(k:Nat),k<=(z.cps.toList++tl sep zs).length->∃(as:List Str)(y:Str)(bs:List Str)(j:Nat),z::zs=as++y::bs/\(Txt.join ⟨#[sep]⟩ (as++iG y j c::bs)).cps.toList=(z.cps.toList++tl sep zs).take k++c::(z.cps.toList++tl sep zs).drop k
 |zs,z,k,h=>by
  by_cases hk:k<=z.cps.toList.length
  ·refine⟨[],z,zs,k,rfl,?_⟩;rw[aaS,jH,cm,List.take_append_of_le_length hk,adj hk];simp
  ·cases zs with
   |nil=>rw[Br,aaW]at h;exact absurd h hk
   |cons z2 rest=>
    have ht:(tl sep (z2::rest)).length=1+(z2.cps.toList++tl sep rest).length:=by rw[fI];simp;lia
    rw[aaa,ht]at h;obtain⟨as,y,bs,j,e,ej⟩:=jI sep c rest z2 (k-z.cps.toList.length-1) (by lia);refine⟨z::as,y,bs,j,by rw[e];rfl,?_⟩;have ne:as++iG y j c::bs≠[]:=by simp
    obtain⟨m,hm⟩:∃m,k=z.cps.toList.length+(m+1):=⟨k-z.cps.toList.length-1,by lia⟩
    have hm':k-z.cps.toList.length-1=m:=by lia
    rw[hm']at ej;rw[aaE,jH,yw sep ne,ej,hm,List.take_length_add_append,List.drop_length_add_append,fI];simp
def DH(h:ws≠[]){k:Nat}:∃(as:List Str)(w:Str)(bs:List Str)(j:Nat),ws=as++w::bs/\iG (ln ws) k c=ln (as++iG w j c::bs):=by
 obtain⟨z,zs,rfl⟩:=aaQ h;obtain⟨m,hm,e0⟩:∃m,m<=(ln (z::zs)).cps.toList.length/\iG (ln (z::zs)) k c=iG (ln (z::zs)) m c:=by
  by_cases q:k<=(ln (z::zs)).cps.toList.length
  ·exact⟨k,q,rfl⟩
  ·refine⟨_,aam _,?_⟩;apply bx;rw[cm,cm,aaF (Nat.le_of_not_le q),aaF (aam _),abX (Nat.le_of_not_le q),abX (aam _)]
 obtain⟨as,w,bs,j,e,ej⟩:=jI 32 c zs z m (by rw[<-hX];exact hm);refine⟨as,w,bs,j,e,?_⟩;rw[e0];apply bx;rw[cm,hX,<-ej];unfold ln;rw[uj]
def Ax(h:LL≠[])(hw:∀ws∈LL,ws≠[]){k:Nat}(hk:k<=(GL LL).cps.toList.length):∃(A:List (List Str))(as:List Str)(w:Str)(bs:List Str)(B:List (List Str))(j:Nat),LL=A++(as++w::bs)::B/\iG (GL LL) k c=GL (A++(as++iG w j c::bs)::B):=by
 obtain⟨l0,ls,rfl⟩:=aaQ h;have el:(GL (l0::ls)).cps.toList=(ln l0).cps.toList++tl 10 (ls.map ln):=by unfold GL;rw[Ag,aaV,jH]
 obtain⟨as,y,bs,j,e,ej⟩:=jI 10 c (ls.map ln) (ln l0) k (by rw[<-el];exact hk);rw[<-aaV]at e;obtain⟨A,R,eL,eA,eR⟩:=List.map_eq_append_iff.mp e;obtain⟨ws,B,eR',ew,eB⟩:=List.map_eq_cons_iff.mp eR;subst eR';have Ho:ws∈l0::ls:=by rw[eL];simp
 obtain⟨a2,w,b2,i,e2,ei⟩:=DH (hw ws Ho) (k:=j) (c:=c);refine⟨A,a2,w,b2,B,i,by rw[eL,e2],?_⟩;apply bx;rw[cm,el,<-ej];unfold GL;rw[Ag,aaZ,aaV,<-ei,eA,eB,ew]
noncomputable def N6:Str:="!#$&'*+-/;<>?@ABZ\\^_`{|}~\t"
def vK:N6.cps.toList.length=26:=by decide +kernel
def zW:∀c∈N6.cps.toList,plain c=false/\c≠58/\c≠61/\c<128/\c≠32/\c≠10:=by decide +kernel
def eX(h:g7 z):∀c∈z.cps.toList,plain c=true:=λc hc=>fj (h.2.2 c hc)
def uQ(g:Ma s){w:Str}(hw:w∈n9 s):∀c∈w.cps.toList,plain c=true\/c=58:=by
 have kp:∀k∈cV,∀c∈k.cps.toList,plain c=true:=by decide +kernel
 have pr:∀p:Str×Str,gb p->∀c∈(p.1++":"++p.2).cps.toList,plain c=true\/c=58:=λp o c hc=>by
  rw[show(p.1++":"++p.2)=Mm p from rfl,eP]at hc;simp only[aat,aaf]at hc;rcases hc with hc|hc|hc
  ·exact .inl (eX o.1 c hc)
  ·exact .inr hc
  ·exact .inl (kp _ o.2 c hc)
 have l1:∀c∈(Str.ofString "sign").cps.toList,plain c=true:=by decide +kernel
 have l2:∀c∈(Str.ofString "down").cps.toList,plain c=true:=by decide +kernel
 have l3:∀c∈(Str.ofString "up").cps.toList,plain c=true:=by decide +kernel
 unfold n9 at hw;simp only[GN,aaf,aat,ab6,aaj,aaJ]at hw;intro c hc;rcases hw with e|e|⟨p,hp,e|e⟩|⟨p,hp,e|e⟩
 ·rw[e]at hc;exact .inl (l1 c hc)
 ·rw[e]at hc;exact .inl (eX g.nm c hc)
 ·rw[e]at hc;exact .inl (l2 c hc)
 ·rw[e]at hc;exact pr p (g.dn p hp) c hc
 ·rw[e]at hc;exact .inl (l3 c hc)
 ·rw[e]at hc;exact pr p (g.up p hp) c hc
def wL(o:xh f){w:Str}(hw:w∈Iu f):∀c∈w.cps.toList,plain c=true:=by
 have l1:∀c∈(Str.ofString "form").cps.toList,plain c=true:=by decide +kernel
 unfold Iu at hw;simp only[aaf]at hw;rcases hw with e|e|e|e
 ·rw[e];exact l1
 ·rw[e];exact eX o.nm
 ·rw[e];exact eX o.hd
 ·exact eX (o.br w e)
theorem Gl.short(h:Gl ws){w:Str}(hw:w∈ws):w.length<=150/\¬KR w:=by
 have ZO:∀{z:Str},g7 z->z.length<=150/\¬KR z:=λn=>⟨by rw[aq];have:=n.2.1;lia,pX (hV n)⟩
 cases h with
 |s s o e=>
  rw[e]at hw;have g:=rj o;refine⟨?_,λ⟨t,et,wt,gt⟩=>?_⟩
  ·have pr:∀p:Str×Str,gb p->(p.1++":"++p.2).length<=150:=λp o=>by
    have l3:(Str.ofString ":").length=1:=by decide
    obtain⟨a,b⟩:=mQ o;rw[ay,ay,l3];lia
   unfold n9 at hw;simp only[GN,aaf,aat,ab6,aaj,aaJ]at hw;rcases hw with e|e|⟨p,hp,e|e⟩|⟨p,hp,e|e⟩
   ·rw[e];decide
   ·rw[e];exact(ZO o.nm).1
   ·rw[e];decide
   ·rw[e];exact pr p (o.dn p hp)
   ·rw[e];decide
   ·rw[e];exact pr p (o.up p hp)
  ·-- no bracket in it
   have ns:∀c∈w.cps.toList,bJ c=false:=by
    have kp:∀k∈cV,∀c∈k.cps.toList,bJ c=false:=by decide +kernel
    have pr:∀p:Str×Str,gb p->∀c∈(p.1++":"++p.2).cps.toList,bJ c=false:=λp o c hc=>by
     rw[show(p.1++":"++p.2)=Mm p from rfl,eP]at hc;simp only[aat,aaf]at hc;rcases hc with hc|hc|hc
     ·exact hV o.1 c hc
     ·rw[hc];decide
     ·exact kp _ o.2 c hc
    have l1:∀c∈(Str.ofString "sign").cps.toList,bJ c=false:=by decide +kernel
    have l2:∀c∈(Str.ofString "down").cps.toList,bJ c=false:=by decide +kernel
    have l3:∀c∈(Str.ofString "up").cps.toList,bJ c=false:=by decide +kernel
    unfold n9 at hw;simp only[GN,aaf,aat,ab6,aaj,aaJ]at hw;rcases hw with e|e|⟨p,hp,e|e⟩|⟨p,hp,e|e⟩
    ·rw[e];exact l1
    ·rw[e];exact hV o.nm
    ·rw[e];exact l2
    ·rw[e];exact pr p (o.dn p hp)
    ·rw[e];exact l3
    ·rw[e];exact pr p (o.up p hp)
   exact pX ns ⟨t,et,wt,gt⟩
 |f f o e=>
  rw[e]at hw;unfold J4 at hw;simp only[aaf]at hw;rcases hw with e|e|e|e
  ·rw[e];exact⟨by decide,pX (by decide +kernel)⟩
  ·rw[e];exact ZO o.nm
  ·rw[e];exact ZO o.hd
  ·exact ZO (o.br w e)
 |r r o t e=>
  rw[e]at hw;unfold MP at hw;simp only[aaf,aaj,aaJ]at hw;rcases hw with e|e|e
  ·rw[e];refine⟨by have:=cD o.vl;lia,λ⟨u,eu,wu,gu⟩=>?_⟩;have:=iR o.vl wu eu;subst this;rw[aX,depth]at gu
   lia
  ·rw[e];exact⟨by decide,pX (by decide +kernel)⟩
  ·rw[e];exact⟨by have:=t.l;lia,Af t⟩
theorem vH{g:Gr}(h:Ht g){k:Nat}(hk:k<=(GL (i_ g)).cps.toList.length)(hc:c∈N6.cps.toList):∃LL,GY LL/\iG (GL (i_ g)) k c=GL LL:=by
 obtain⟨p0,p58,p61,pa⟩:=zW c hc;have G:=iH h;have ne:i_ g≠[]:=λe=>by have:=G.2.1;rw[e]at this;exact absurd this (by decide)
 obtain⟨A,as,w,bs,B,j,e,ei⟩:=Ax (c:=c) ne (λws hw z=>by have:=(G.1 ws hw).two;rw[z]at this;exact absurd this (by decide)) hk;have Ho:as++w::bs∈i_ g:=by rw[e];simp
 have gl:=DO h Ho;have gg:=G.1 _ Ho;have cw:c∈(iG w j c).cps.toList:=by rw[cm];simp
 have e':A++(as++iG w j c::bs)::B=(i_ g).take A.length++[as++iG w j c::bs]++(i_ g).drop (A.length+1):=by rw[e];simp
 have ww:=gg.wd w (by simp);have wl:=(gl.short (w:=w) (by simp)).1;rw[e']at ei;refine⟨_,⟨gj h A.length ?_ (by simp) (λx hx=>?_),λr hr=>?_,?_⟩,ei⟩
 ·have:=gg.len;simp only[aaa,aac]at this⊢
  lia
 ·simp only[aat,aaf]at hx;rcases hx with hx|rfl|hx
  ·exact gg.wd x (by simp[hx])
  ·refine⟨?_,λd hd=>?_⟩
   ·rw[aq]at wl;rw[aq,cm];simp only[aaa,aac,aaD,abe]
    lia
   ·rw[cm]at hd;simp only[aat,aaf]at hd;rcases hd with hd|rfl|hd
    ·exact ww.ch d (aa1 hd)
    ·exact pa
    ·exact ww.ch d (aa2 hd)
  ·exact gg.wd x (by simp[hx])
 ·simp only[aat,aaL]at hr;rcases hr with(hr|hr)|hr
  ·exact gf h (aa1 hr)
  ·have m:r.tx∈as++iG w j c::bs:=by rw[<-hr];unfold u9;simp
   simp only[aat,aaf]at m;rcases m with m|m|m
   ·exact(gl.short (w:=r.tx) (by simp[m])).2
   ·rw[m]
    exactλ⟨t,et,wt,_⟩=>eV cw p0 ⟨t,et,wt⟩
   ·exact(gl.short (w:=r.tx) (by simp[m])).2
  ·exact gf h (aa2 hr)
 ·by_cases gr:sY ((i_ g).take A.length++[as++iG w j c::bs]++(i_ g).drop (A.length+1))
  ·right;have bad:∀{P:Nat->Prop},(∀x∈(iG w j c).cps.toList,P x)->P c:=λf=>f c cw;rcases jL gr (l:=as++iG w j c::bs) (by simp)with⟨s,sg,el⟩|⟨f,fo,_,el⟩|⟨r,ro,el⟩
   ·have m:iG w j c∈n9 s:=by rw[<-el];simp
    rcases bad (uQ sg m)with q|q
    ·rw[q]at p0;cases p0
    ·exact absurd q p58
   ·have m:iG w j c∈Iu f:=by rw[<-el];simp
    have q:=bad (P:=λc=>plain c=true) (wL fo m);rw[q]at p0;cases p0
   ·refine⟨r,by rw[<-el];simp,?_⟩;have m:iG w j c∈u9 r:=by rw[<-el];simp
    unfold u9 at m;simp only[aaf,aaj,aaJ]at m;rcases m with m|m|m
    ·have q:=bad (P:=λc=>plain c=true) (by rw[m];exact gm _ ro);rw[q]at p0;cases p0
    ·have q:=bad (P:=λc=>c=61) (by rw[m];decide);exact absurd q p61
    ·rw[<-m];exact eV cw p0
  ·exact .inl gr
def vR:GY [[""]] where
 l:=nC (by simp) (by simp) λws hw=>by rw[List.mem_singleton.mp hw];exact⟨by simp,by simp,λw hw=>by rw[List.mem_singleton.mp hw];exact⟨by decide,by decide⟩⟩
 ng:=λr hr=>by have:=aaN List.length (List.mem_singleton.mp hr);unfold u9 at this;exact absurd this (by simp)
 no:=.inl λg=>kW (jL g (l:=[""]) (by simp))
def vQ:GL [[""]]= "":=by decide
def AI(h:LL≠[]):GL (LL++[[("" : Str)]])=GL LL++"\n":=by
 obtain⟨l,r,rfl⟩:=aaQ h;apply bx;unfold GL;have e1:(Txt.join "\n" (List.map ln (l::r))).cps.toList=(ln l).cps.toList++tl 10 (r.map ln):=by rw[Ag,aaV,jH]
 have e2:tl 10 (List.map ln [[("" : Str)]])=[10]:=by decide
 rw[ap,e1,Ag,aaE,aaV,jH,aaZ,Bu,e2,aas]
def AJ{g:Gr}(h:Ht g):GY (i_ g++[[("" : Str)]]):=by have:=um h iq (i_ g).length;rw[adb,adf,aaW]at this;exact this
noncomputable def nV(ns:List Nat):List V:=ns.map λ(i:Nat)=>V.int (i:Int)
def iN(i:Nat)(pr:Nat->Bool):(List.range (i+1)).filter pr=(List.range i).filter pr++[i].filter pr:=by rw[List.range_succ,List.filter_append]
theorem ix{js:List Nat}{tc:TT}{te:TE}{σ:L2.St}{D:Addr}(pr:Nat->Bool)(hz:n<sizeLine)(hD:H1 D=none)(hc:∀i H,i<n->b6 H1 H->∀Q':Bool->Hp->Prop,(∀H',b6 H H'->Q' (pr i) H')->tc (some (.int (0+(i:Int)))::cP js σ) H Q')(he:∀i H,i<n->∀Q':VK,Q' (.int (i:Int)) H->te (some (.int (0+(i:Int)))::cP js σ) H Q')(hq:∀H',b6 H1 H'->H' D=some (.lst (nV ((List.range n).filter pr)))->Q (.ref D) H'):jZ (RT 0 n) js tc te σ Q D H1:=by
 refine⟨λi m acc H=>m=n-i/\i<=n/\b6 H1 H/\H D=some (.lst acc)/\acc=nV ((List.range i).filter pr),⟨n,by simp,aa8 _,ae hD _,aa,rfl⟩,?_⟩;rintro i m acc H ⟨hm,hi,sm,hDi,rfl⟩;have lf:((List.range i).filter pr).length<=i:=abb (List.length_filter_le _ _) (by rw[List.length_range];exact aam _);refine⟨hDi,by unfold nV;rw[aad];lia,?_⟩;by_cases q_:i<n
 ·refine .inr ⟨q_,λx H' y=>?_⟩;obtain⟨e,y⟩:=y;subst e y;refine hc i _ q_ sm _ λH2 s2=>?_;have LU:=s2 _ _ hDi;have UK:=sm.trans s2;cases hp:pr i with
  |true=>
   rw[aaX rfl];refine he i _ q_ _ ⟨LU,n-(i+1),by lia,rfl,by lia,aL hD UK,aa,?_⟩;rw[iN,adH hp,List.filter_nil];unfold nV;rw[aaZ];rfl
  |false=>
   rw[aaK (by simp)];refine⟨n-(i+1),by lia,rfl,by lia,UK,LU,?_⟩;rw[iN,List.filter_cons_of_neg (by simp[hp]),List.filter_nil,aaW]
 ·have e:i=n:=by lia
  subst e;exact .inl ⟨aam _,hq H sm hDi⟩
theorem kQ{m:Nat}{pr:Nat->Bool}(hm:m<n)(h1:∀i,i<m->pr i=false)(h2:pr m=true):∃r,(List.range n).filter pr=m::r:=by
 obtain⟨k,rfl⟩:∃k,n=m+(k+1):=⟨n-m-1,by lia⟩
 refine⟨((List.range k).map Nat.succ |>.map (m + ·)).filter pr,?_⟩;rw[List.range_add,List.filter_append,List.filter_eq_nil_iff.mpr (λi hi=>by rw[h1 i (List.mem_range.mp hi)];simp),aaS,adP,aaV,Nat.add_zero,adH h2]
theorem _root_.TM.g9.take{α:Type}{R:α->V->Prop}:∀{as:List α}{vs:List V},g9 R as vs->∀n,g9 R (as.take n) (vs.take n)
 |_,_,.nil,n=>by rw[adD,adD];exact .nil
 |_,_,.cons x y,0=>.nil
 |_,_,.cons x y,n+1=>.cons x (TM.g9.take y n)
noncomputable def Ld(g:Gr)(i:Nat):Str:=(((i_ g)[i]?).bind List.head?).getD ""
def kM{g:Gr}{w:Str}(h:(i_ g)[i]?=some (w::ws)):Ld g i=w:=by unfold Ld;rw[h];rfl
def tD{g:Gr}(hi:i<g.sg.length):Ld g i = "sign":=by obtain⟨s,_,e⟩:=uR hi;exact kM e
def tE{g:Gr}(h:Ht g):Ld g g.sg.length = "form":=by obtain⟨f,r,_,_,e,_⟩:=mh h;exact kM e
def yq(h:Ej LL):(GL LL).length<=723660:=(lG h).1
def EH:Sp:=λvs H Q _=>∃(ll:Addr)(us:List V)(g:Gr)(wy c:Int),vs=[.ref ll,.int wy,.int c]/\H ll=some (.lst us)/\g9 (B0 H) (i_ g) us/\Ht g/\0<=c/\c<1000000000000000000/\∀LL H',b6 H H'->GY LL->Q (.str (GL LL)) H'
theorem De(X:Tx K w mg T):d9 P w K mg base E6 2 T.qAC T.Pm ["_law_lines", "_law_way", "_law_cell"] EH:=by
 have HD:=jx (P:=P) (w:=w) (base:=base) X;have K3:=rZ (P:=P) (w:=w) (base:=base) X;refine X.Sw.G9 IA (λvs H Q E h=>?_) (λj8 A outer s H vs Q E hr h=>?_)
 ·obtain⟨_,_,_,_,_,rfl,_⟩:=h;rfl
 obtain⟨ll,us,g,wy,c,rfl,hl,A3,gd,c0,c1,q⟩:=h;refine⟨_,(af (fL (ys:=["_law_lines"]) (js:=[0]) rfl rfl (bV rfl X.n_ (y8 (aA b8 rfl X.ff aay (d5 (qv 0) ac)) ac)) (λ_ _ _ _ _=>lQ (aC bM (aU (cW (K:=K) rfl) (aU (cW (K:=K) rfl) (qv 1) (qv 0) (λ_ _=>rfl)) aj (λ_ _=>rfl)) ak (aK _))) (λ_ _ _ _ _=>(qv 0)) (aM (i:=3) IA.nd rfl oI1) rfl) (af (be (aC bM (qv 1) aj (aK _)) (ao (aH (ar au (aB HD hr rfl X.IJ X.Ig.kp X.I0 .nil bu (d5 (qv 0) ac)) ak))) aI) (af (be (aC bM (qv 1) aj (aK _)) (ao (aH (aB HD hr rfl X.IJ X.Ig.kp X.I0 .nil bu (y8 (aB K3 hr rfl X.Mq X.K7.kp X.ME .nil bu (d5 (qv 0) (o7 (ar aV (qv 2) (ar bA (aA b8 rfl X.ff aay (d5 (qv 0) ac)) aj)) (UO (aR (d_ ak ac)) ac)))) ac)))) aI) (af (be (aC bM (qv 1) aj (aK _)) (af (aD (i:=4) IA.nd rfl oI1 (ar bA (ar bA (aU aE (qv 3) aj (λ_ _=>rfl)) aj) (ar aV (qv 2) (ar kB (aA b8 rfl X.ff aay (d5 (qv 0) ac)) (aU aE (qv 3) aj (λ_ _=>rfl)))))) (ao (aH (aB HD hr rfl X.IJ X.Ig.kp X.I0 .nil bu (y8 (aB K3 hr rfl X.Mq X.K7.kp X.ME .nil bu (d5 (qv 0) (d5 (qv 4) (x_ (aU aE (qv 0) (ar aV (ar bh (qv 2) aj) (aU aE (qv 3) aj (λ_ _=>rfl))) (λ_ _=>rfl)) ac)))) ac))))) aI) (af (be (aC bM (qv 1) aj (aK _)) (ao (aH (aB HD hr rfl X.IJ X.Ig.kp X.I0 .nil bu (y8 (aB K3 hr rfl X.Mq X.K7.kp X.ME .nil bu (d5 (qv 0) (o7 (ar aV (qv 2) (ar bA (aU aE (qv 3) aj (λ_ _=>rfl)) aj)) (x_ (aU aE (qv 0) (ar bA (aU aE (qv 3) aj (λ_ _=>rfl)) aj) (λ_ _=>rfl)) ac)))) ac)))) aI) (af (be (aC bM (qv 1) aj (aK _)) (af (aD (i:=5) IA.nd rfl oI1 (aB HD hr rfl X.IJ X.Ig.kp X.I0 .nil bu (d5 (qv 0) ac))) (af (aD (i:=4) IA.nd rfl oI1 (ar aV (ar bh (qv 2) aj) (ar bA (aA bC rfl X.ff aay (d5 (qv 5) ac)) aj))) (ao (aH (ar au (ar au (bc eK (qv 5) bE (bi (qv 4))) (aU fq ak (ar aV (qv 2) aj) (λ_ _=>rfl))) (bc eK (qv 5) (bi (qv 4)) bE)))))) aI) (ao (aH ak)))))))),?_⟩;dsimp only[cq];obtain⟨gG,g2,g15⟩:=iH gd;have Ir:=A3.len;have ms:=gd.s3;have m1:=List.length_pos_iff.mpr gd.s1;have lns:=jM gd;have Qv:=lns.ll;have Ti:=yq Qv;have hms:g.sg.length+1<(i_ g).length:=by obtain⟨_,_,_,_,_,er⟩:=mh gd;exact(List.getElem?_eq_some_iff.mp er).1
 refine⟨_,rfl,ll,_,rfl,.inl (c_.of hl),_,rfl,by lia,by lia,λD hD=>?_⟩;refine ix (n:=((us.length:Nat):Int).toNat) (λi=>decide (V.str (Ld g i)=V.str "form")) (abp (show _<=1000 by lia) (by decide)) hD (λi G hi sm Q' q'=>?_) (λi G hi Q' q'=>?_) (λH1 s1 RF=>?_)
 ·obtain⟨v,hv⟩:=aN (xs:=us) (i:=i) (by lia);obtain⟨ws,Ho,b,rfl,hb⟩:=A3.get hv;have two:=(gG ws (aak Ho)).two;obtain⟨w0,wr,rfl⟩:=aaQ (l:=ws) (λe=>by rw[e]at two;exact absurd two (by decide));have e:=kM Ho;refine⟨_,rfl,_,rfl,ll,_,_,.ref b,rfl,rfl,c_.of (sm _ _ hl),(show y6 us (0+(i:Int))=_ by rw[acj];exact bY hv),b,_,_,.str w0,rfl,rfl,c_.of (sm _ _ hb),cb _ _,rfl,_,rfl,?_⟩;have:=q' _ (b6.refl _);rw[e]at this;exact this
 ·refine⟨_,rfl,?_⟩;rw[acj];exact q'
 have IV:=s1 _ _ hl;have Jk:g9 (B0 H1) (i_ g) us:=A3.imp λa v h=>h.same s1;obtain⟨Mu,eh⟩:=kQ (n:=((us.length:Nat):Int).toNat) (m:=g.sg.length) (pr:=λi=>decide (V.str (Ld g i)=V.str "form")) (by lia) (λi hi=>by rw[tD hi];decide) (by rw[tE gd];decide);rw[eh]at RF;have LU:H1 D=some (.lst (V.int (g.sg.length:Int)::nV Mu)):=RF;have A0:y6 (V.int (g.sg.length:Int)::nV Mu) 0=some (.int (g.sg.length:Int)):=cb _ _;have fin:∀(G:Hp)(n:Nat)(k:Int)(ws:List Str)(v:V),k=(n:Int)->b6 H G->B0 G ws v->(ws.length<=60/\ws≠[]/\∀w∈ws,w.length<=200)->GY ((i_ g).take n++[ws]++(i_ g).drop n)->xr [.ref ll,.int k,v] G (λx G'=>qV [x] G' Q (λ_ _ _=>True)) (λ_ _ _=>True):=by intro G n k ws v ek sg hv hw rn;subst ek;refine⟨ll,us,n,v,rfl,sg _ _ hl,by lia,λr G' sg' _ hr=>?_⟩;refine⟨r,_,(i_ g).take n++[ws]++(i_ g).drop n,rfl,hr,?_,rn.l.ll,λG2 s2=>q _ _ (sg.trans (sg'.trans s2)) rn⟩;have IT:g9 (B0 G') (i_ g) us:=A3.imp λa v h=>h.same (sg.trans sg');exact((IT.take n).app (.one (hv.same sg'))).app (IT.drop n)
 have okG:∀ws∈i_ g,ws.length<=60/\ws≠[]/\∀w∈ws,w.length<=200:=λws hw=>Qv.ws ws hw;dsimp only[j4];refine⟨_,rfl,rfl,_,rfl,bI (λw1=>?_) (λw1=>?_)⟩
 ·-- a line end behind
  have l1:(Str.ofString "\n").length=1:=by decide
  refine⟨_,rfl,ll,us,i_ g,rfl,IV,Jk,Qv,λH2 s2=>⟨_,_,rfl,rfl,cp (by rw[l1];lia),?_⟩⟩;rw[<-AI lns.ne];exact q _ _ (s1.trans s2) (AJ gd)
 refine bU λN1 y1=>y1 _ _ ?_;refine⟨_,rfl,rfl,_,rfl,bI (λw2=>?_) (λw2=>?_)⟩
 ·-- an empty line
  have b0:=aar c (show((us.length:Int)+1)≠0 by lia);obtain⟨n,hn⟩:=aaG b0;refine⟨_,rfl,_,rfl,_,rfl,ll,_,rfl,.inl (c_.of IV),_,_,rfl,rfl,_,_,rfl,rfl,(by show(0:Int)<(us.length:Int)+1;lia),Z1,λp hp=>?_⟩;have s2:=ae hp (.lst (([("" : Str)]:List Str).map V.str));exact fin _ n _ [""] (.ref p) hn (s1.trans s2) ⟨p,rfl,aa⟩ ⟨by simp,by simp,λw hw=>by rw[List.mem_singleton.mp hw];decide⟩ (um gd iq n)
 refine bU λN2 y2=>y2 _ _ ?_;refine⟨_,rfl,rfl,_,rfl,bI (λw3=>?_) (λw3=>?_)⟩
 ·-- a SH line behind a form's
  have b0:=aar c (show((us.length:Int)-(g.sg.length:Int))≠0 by lia);have b1:=aan c (show(0:Int)<((us.length:Int)-(g.sg.length:Int))by lia);obtain⟨k,hk⟩:=aaG b0;have d0:=aar (c / 50) (show((g.sg.length:Int))≠0 by lia);have d1:=aan (c / 50) (show(0:Int)<(g.sg.length:Int)by lia);obtain⟨i,hi⟩:=aaG d0;obtain⟨l,el,ml,rl⟩:=sP gd (i:=i) (n:=g.sg.length+1+k) (by lia) (by lia) (by lia);obtain⟨v,hv⟩:=aN (xs:=us) (i:=i) (by lia);obtain⟨l',el',lv⟩:=Jk.get hv;have:l'=l:=aaq (el'.symm.trans el);subst this;refine⟨_,rfl,D,_,_,_,rfl,rfl,c_.of LU,A0,_,_,rfl,rfl,_,rfl,_,rfl,ll,_,rfl,.inl (c_.of IV),_,rfl,D,_,_,_,rfl,rfl,c_.of LU,A0,_,_,rfl,rfl,_,_,rfl,rfl,(by show(0:Int)<(us.length:Int)-(g.sg.length:Int);lia),_,_,rfl,rfl,?_⟩;refine⟨_,rfl,_,rfl,_,rfl,_,rfl,_,_,rfl,rfl,⟨by decide,by decide⟩,_,rfl,D,_,_,_,rfl,rfl,c_.of LU,A0,_,_,rfl,rfl,(by show(0:Int)<(g.sg.length:Int);lia),ll,_,_,v,rfl,rfl,c_.of IV,(show y6 us (c / 50%(g.sg.length:Int))=some v by rw[hi];exact bY hv),?_⟩;exact fin H1 (g.sg.length+1+k) _ l' v (by rw[hk];lia) s1 lv (okG _ ml) rl
 refine bU λN3 y3=>y3 _ _ ?_;refine⟨_,rfl,rfl,_,rfl,bI (λw4=>?_) (λw4=>?_)⟩
 ·-- a SI line ahead of all forms
  have b0:=aar c (show((g.sg.length:Int)+1)≠0 by lia);have b1:=aan c (show(0:Int)<((g.sg.length:Int)+1)by lia);obtain⟨n,hn⟩:=aaG b0;obtain⟨l,el,ml,rl⟩:=qr gd (n:=n) (by lia);obtain⟨v,hv⟩:=aN (xs:=us) (i:=g.sg.length+1) (by lia);obtain⟨l',el',lv⟩:=Jk.get hv;have:l'=l:=aaq (el'.symm.trans el);subst this;refine⟨_,rfl,_,rfl,_,rfl,D,_,_,_,rfl,rfl,c_.of LU,A0,_,_,rfl,rfl,_,_,rfl,rfl,(by show(0:Int)<(g.sg.length:Int)+1;lia),_,rfl,_,rfl,D,_,_,_,rfl,rfl,c_.of LU,A0,_,_,rfl,rfl,ll,_,_,v,rfl,rfl,c_.of IV,(show y6 us ((g.sg.length:Int)+1)=some v from bY (j:=g.sg.length+1) hv),?_⟩;exact fin H1 n _ l' v hn s1 lv (okG _ ml) rl
 refine bU λN4 y4=>y4 _ _ ?_;refine⟨_,rfl,rfl,_,rfl,bI (λw5=>?_) (λw5=>?_)⟩
 ·-- a sign Vj stands in no text
  refine⟨_,rfl,ll,us,i_ g,rfl,IV,Jk,Qv,λH2 s2=>?_⟩;obtain⟨tx,et⟩:∃tx,GL (i_ g)=tx:=⟨_,rfl⟩
  rw[et];rw[et]at Ti;dsimp only[j4];have b0:=aar (c / 26) (show((tx.length:Int)+1)≠0 by lia);have b1:=aan (c / 26) (show(0:Int)<((tx.length:Int)+1)by lia);obtain⟨n,hn⟩:=aaG b0;refine⟨_,rfl,_,_,rfl,rfl,⟨by decide,by decide⟩,_,rfl,tx,rfl,cp (by lia),_,_,rfl,rfl,_,_,rfl,rfl,(by show(0:Int)<(tx.length:Int)+1;lia),?_⟩;dsimp only[j4];obtain⟨x,ax,hx⟩:=og (xs:=N6.cps.toList) (i:=c%26) (aar _ (by decide)) (by rw[vK];exact aan _ (by decide));obtain⟨LL,rn,el⟩:=vH gd (k:=n) (c:=x) (by rw[et,<-aq];lia) hx;have l1:(Txt.slice tx none (some (c / 26%((tx.length:Int)+1)))).cps.toList=tx.cps.toList.take n:=xl tx _ n hn;have l2:(Txt.slice tx (some (c / 26%((tx.length:Int)+1))) none).cps.toList=tx.cps.toList.drop n:=fP n hn (by rw[<-aq];lia);have e1:(Txt.slice tx none (some (c / 26%((tx.length:Int)+1)))).length=n:=by rw[aq,l1,aaD,<-aq];lia
  have e2:(Txt.slice tx (some (c / 26%((tx.length:Int)+1))) none).length=tx.length-n:=by rw[aq,l2,abe,<-aq]
  have e3:(Txt.slice tx none (some (c / 26%((tx.length:Int)+1))))++⟨#[x]⟩++(Txt.slice tx (some (c / 26%((tx.length:Int)+1))) none)=GL LL:=by rw[<-el,et];apply bx;rw[ap,ap,l1,l2,cm];simp
  have lx:(⟨#[x]⟩:Str).length=1:=rfl;refine⟨_,rfl,_,rfl,_,rfl,tx,rfl,cp (by lia),_,rfl,_,_,rfl,rfl,(by show(0:Int)<26;decide),N6,_,x,rfl,rfl,(by decide +kernel),ax,_,_,rfl,rfl,cp (by rw[lx];lia),_,rfl,_,rfl,_,rfl,tx,rfl,cp (by lia),_,_,rfl,rfl,cp (by rw[ay,lx];lia),?_⟩;have:=q LL H2 (s1.trans s2) rn;rw[<-e3]at this;exact this
 refine bU λN5 y5=>y5 _ _ ?_;have:=q [[""]] H1 s1 vR;rw[vQ]at this;exact this
end Je
namespace L2
open PySem PySem.Spec PyProof.Rows
variable{Lp:List (TE×TE)}{X:Cx}{pos:Pos}
def dJ{k v:Expr}{ks:List (Option Expr)}{vs:List Expr}{tk tv:TE}(hk:QE X k tk)(hv:QE X v tv)(hr:UA X pos ks vs Lp):UA X pos (some k::ks) (v::vs) ((tk,tv)::Lp):=vo hk.h hv.h hr
def zd{keys:List (Option Expr)}{values:List Expr}(h:UA X pos keys values Lp)(Hk:keys.all (·.isSome)=true:=by rfl)(hl:keys.length=values.length:=by rfl)(h0:keys≠[]:=by simp)(Xi:keys.length<=15:=by decide):QE X (.Dict keys values pos) (By Lp):=⟨zn h Hk hl h0 Xi⟩
def Bx(td ty tx:TE):TE:=λσ H Q=>td σ H λx H1=>∃a,x=.ref a/\IsD H1 a/\ty σ H1 λy H2=>tx σ H2 λz H3=>∃e_ k,H3 a=some (.dK e_)/\y=kV k/\Q ((uG e_ k).getD z) H3
variable{apos g6:Pos}{o e f:Expr}{td ty:TE}
def zl{tx:TE}(ho:PE X o td)(he:PE X e ty)(hf:PE X f tx)(m:M2 X o "get" apos e f g6):PE X (.Call (.Attribute o "get" apos) [e,f] [] g6) (Bx td ty tx):=by
 intro pins s σ H Q I h;refine wpAny_Call_method m.base m.HQ m.line PySem.F.plainAttrs_dict adS PySem.F.type_dict_get (j9 (ho pins s σ H _ I h) λu s1 ⟨x,H1,I1,rx,a,ex,d,q1⟩=>?_);subst ex;obtain rfl:u=Value.ref a:=rx;obtain⟨t1,t2,_⟩:=DF I1 d;refine⟨t1,t2,?_⟩;rw[m.trees];refine acS rfl (ac5 (abv (j9 (he pins s1 σ H1 _ I1 q1) λiv s2 ⟨y,H2,I2,ry,q2⟩=>
  abv (j9 (hf pins s2 σ H2 _ I2 q2) λfv s3 ⟨z,H3,I3,rz,e_,k,e,ey,q3⟩=>abL ?_))))
 subst ey;obtain⟨z,hd,vs,rel,dd⟩:=AK I3.h_ (.inl e);exact call_meetsIn adS dd.typeIs PySem.F.entry_dict_get (PySem.F.args_dict_get_3 _ _ _) (meets_dict_get_default (cc X.prog X.w) a (As ry) hd fv) ⟨_,dd.mapOf,⟨_,H3,I3.tok _,(rel.val k).getD rz,q3⟩⟩
def rL{tx:TE}(ho:QE X o td)(he:QE X e ty)(hf:QE X f tx)(h1:attributeBase o "get" X.env (eval o X.env)=eval o X.env:=by rfl)(h2:((backTo g6 (starEach [e,f] X.env)).all (λx=>!x.1)&&(backToKw g6 (keywordEach [] X.env)).all (λx=>x.1.isSome)&&decide (([e,f]:List Expr).length+([]:List Keyword).length+(if([]:List Keyword).isEmpty then 0 else 1)<30))=true:=by rfl)(h3:(apos.endLine == g6.line)=true:=by rfl)(h4:backTo g6 (starEach [e,f] X.env)=[(false,eval e X.env),(false,eval f X.env)]:=by rfl):QE X (.Call (.Attribute o "get" apos) [e,f] [] g6) (Bx td ty tx):=⟨zl ho.h he.h hf.h ⟨h1,h2,h3,h4⟩⟩
def ju{K:W.Frag}(h:X.K=K):GK X (compareOp .NotIn) (rIn K true):=h▸fU
end L2
namespace Je
open PySem L2 NS TR
open TM hiding j_ Ms Run Step o6 t7
variable{ws:List Str}
def ngw(h:∀w∈ws,¬KR w):∀r,ws=u9 r->¬KR r.tx:=λr e=>h _ (by rw[e];unfold u9;simp)
def o3.of(h1:ws.length<=60)(h2:ws≠[])(h:∀w∈ws,Wd w/\¬KR w)(n:¬iD ws):o3 ws:=⟨h1,h2,λw hw=>(h w hw).1,ngw λw hw=>(h w hw).2,n⟩
def wN:Wd ""/\¬KR "":=⟨⟨by decide,by decide⟩,pX (by decide)⟩
def Gl.Vf(h:Gl ws):∀w∈ws,Wd w/\¬KR w:=λw hw=>⟨h.g.wd w hw,(h.short hw).2⟩
theorem w6(h:Gl ws)(n:Nat):o3 (ws.take n++[("" : Str)]++ws.drop n):=by
 have l:=h.g.len;refine o3.of ?_ (by simp) (λw hw=>?_) (ui h n)
 ·simp only[aaa,aaD,abe,aac,aa7]
  lia
 ·simp only[aat,aaL]at hw;rcases hw with(hw|rfl)|hw
  ·exact h.Vf w (aa1 hw)
  ·exact wN
  ·exact h.Vf w (aa2 hw)
theorem w7(h:Gl ws){x:Str}(hx:x∈(["signs", "Form", "fo", "rule", "si", "0", "forms", "Sign"]:List Str)):o3 (x::ws.drop 1):=by
 have l:=h.g.len;refine o3.of ?_ (by simp) (λw hw=>?_) (tQ hx)
 ·simp only[aac,abe]
  lia
 ·rcases List.mem_cons.mp hw with rfl|hw
  ·have:∀x∈(["signs", "Form", "fo", "rule", "si", "0", "forms", "Sign"]:List Str),(x.length<=200/\∀c∈x.cps.toList,c<128/\c≠32/\c≠10)/\∀c∈x.cps.toList,bJ c=false:=by decide +kernel
   obtain⟨⟨a,b⟩,c⟩:=this w hx;exact⟨⟨a,b⟩,pX c⟩
  ·exact h.Vf w (aa2 hw)
variable{n:Nat}{f:Fm}
theorem w12(o:qz f)(h1:1<=n)(h2:n<=2):o3 ((J4 f).take n):=by
 have g:=Gl.Vf (.f f o rfl);refine o3.of (by rw[aaD];lia) ?_ (λw hw=>g w (aa1 hw)) ?_
 ·obtain⟨k,rfl⟩:∃k,n=k+1:=⟨n-1,by lia⟩
  unfold J4;simp
 ·obtain⟨k,rfl⟩:∃k,n=k+1:=⟨n-1,by lia⟩
  unfold J4;rw[List.take_succ_cons];exact ql (by rw[aaD];lia)
theorem w16(o:qz f){z:Str}(hz:¬g7 z)(wz:Wd z)(h1:1<=n)(h2:n<(J4 f).length):o3 ((J4 f).take n++[z]++(J4 f).drop (n+1)):=by
 have G:Gl (J4 f):=.f f o rfl;have g:=G.Vf;have l:=G.g.len;obtain⟨k,rfl⟩:∃k,n=k+1:=⟨n-1,by lia⟩
 have e:(J4 f).take (k+1)++[z]++(J4 f).drop (k+1+1)=("form" : Str)::((f.nm::f.hd::f.br).take k++[z]++(J4 f).drop (k+1+1)):=rfl;refine⟨?_,by simp,λw hw=>?_,λr er=>?_,?_⟩
 ·simp only[aaa,aaD,abe,aac,aa7]
  lia
 ·simp only[aat,aaL]at hw;rcases hw with(hw|rfl)|hw
  ·exact(g w (aa1 hw)).1
  ·exact wz
  ·exact(g w (aa2 hw)).1
 ·rw[e]at er;exact absurd (aab er).1.symm (cO (r:=r) (z:="form") (by decide))
 ·rw[e];exact tN (z:=z) (by simp) hz
def xa{g:Gr}(h:Ht g)(b:yf ws)(n:Nat):∃LL,GL LL=GL ((i_ g).take n++[ws]++(i_ g).drop (n+1))/\GY LL:=by
 obtain⟨NA,e,w⟩:=b.how;refine⟨(i_ g).take n++[NA]++(i_ g).drop (n+1),?_,?_⟩
 ·unfold GL;simp only[aaZ,aaV,abJ,e]
 ·cases w with
  |bad b=>exact wZ h b n
  |term r er w t=>
   subst er;exact xb h w t n
theorem yk{g:Gr}(h:Ht g)(n:Nat)(h1:ws.length<=60)(h2:ws≠[])(h3:∀w∈ws,w.length<=200):Ej ((i_ g).take n++[ws]++(i_ g).drop (n+1)):=by
 obtain⟨a,b,c⟩:=iH h;refine⟨?_,λw hw=>?_⟩
 ·simp only[aaa,aaD,abe,aac,aa7]
  lia
 ·have one:∀w∈i_ g,w.length<=60/\w≠[]/\∀x∈w,x.length<=200:=(jM h).ll.ws;simp only[aat,aaL]at hw;rcases hw with(hw|rfl)|hw
  ·exact one w (aa1 hw)
  ·exact⟨h1,h2,h3⟩
  ·exact one w (aa2 hw)
def Cd{α:Type}{L:List α}(h:n<L.length)(x:α):L.take n++[x]++L.drop (n+1)=L.set n x:=by rw[List.set_eq_take_append_cons_drop,aaX h];simp
theorem sZ:∀(fs:List Fh){n:Nat}{r r':Rh},iM fs->(fs.flatMap A9)[n]?=some (u9 r)->qy r'->ZU ((fs.flatMap A9).set n (u9 r'))
 |[],n,r,r',_,e,_=>by cases e
 |f::fs,n,r,r',ok,e,o=>by
  rw[aa6]at e⊢;have lf:(A9 f).length=f.ru.length+1:=by unfold A9;rw[aac,aad]
  by_cases c:n<(A9 f).length
  ·rw[List.set_append_left _ _ c];rw[aa4 c]at e;cases n with
   |zero=>exact absurd (aaq e) fu
   |succ j=>
    refine⟨⟨f.nm,f.hd,f.br,f.ru.set j r'⟩::fs,λx hx=>?_,?_⟩
    ·rcases List.mem_cons.mp hx with rfl|hx
     ·have k:=ok f aap;refine⟨k.nm,k.hd,k.br,λy hy=>?_⟩;rcases List.mem_or_eq_of_mem_set hy with hy|rfl
      ·exact k.ru y hy
      ·exact o
     ·exact ok x (aah _ hx)
    ·rw[aa6];unfold A9;rw[List.set_cons_succ,<-List.map_set];rfl
  ·rw[adU _ _ (by lia)];rw[aaz (by lia)]at e;obtain⟨gs,gok,eg⟩:=sZ fs (λx hx=>ok x (aah _ hx)) e o;refine⟨f::gs,λx hx=>?_,?_⟩
   ·rcases List.mem_cons.mp hx with rfl|hx
    ·exact ok x aap
    ·exact gok x hx
   ·rw[eg,aa6]
theorem wx{LL:List (List Str)}(h:sY LL){r r':Rh}(e:LL[n]?=some (u9 r))(o:qy r'):sY (LL.set n (u9 r')):=by
 obtain⟨ss,fs,o1,o2,rfl⟩:=h;by_cases c:n<ss.length
 ·obtain⟨s,hs⟩:=aN c;rw[aa4 (by rw[aad];exact c),aaI,hs]at e;exact absurd (aaq e) jk
 ·rw[aaz (by rw[aad];lia)]at e;rw[adU _ _ (by rw[aad];lia)];obtain⟨gs,gok,eg⟩:=sZ fs o2 e o;exact⟨ss,gs,o1,gok,by rw[eg]⟩
def Fi{g:Gr}(h:Ht g){r:Rh}(hr:u9 r∈i_ g):GU r.tx:=by rw[nI]at hr;obtain⟨f,hf,r',s_,e⟩:=jo hr;obtain⟨f',Ua,rfl⟩:=List.mem_map.mp hf;obtain⟨r2,Rx,rfl⟩:=List.mem_map.mp (show r'∈f'.ru.map lE from s_);rw[<-e];exact⟨r2.tm,rfl,((h.fm f' Ua).ok.ru r2 Rx).wf⟩
theorem tG{g:Gr}(h:Ht g){r:Ru}{t:Tm}(er:(i_ g)[n]?=some (MP r))(o:oj r)(gt:Gt t):Nj ((i_ g).take n++[[sh (.val r.k r.nm), "=",sh t]]++(i_ g).drop (n+1)):=by
 have ws:[sh (.val r.k r.nm),("=" : Str),sh t]=u9 ⟨r.k,r.nm,sh t⟩:=rfl;have hn:n<(i_ g).length:=(List.getElem?_eq_some_iff.mp er).1;refine⟨gj h n (by simp) (by simp) (λw hw=>?_),?_,λr' s_=>?_,⟨r.k,r.nm,sh t⟩,by rw[ws];simp,t,rfl,gt.wf,gt.g⟩
 ·simp only[aaf,aaj,aaJ]at hw;rcases hw with rfl|rfl|rfl
  ·exact km o.vl (by have:=cD o.vl;lia)
  ·exact⟨by decide,by decide⟩
  ·exact⟨gt.l,gt.nn⟩
 ·rw[ws,Cd hn];exact wx (DL h) (r:=lE r) er o.vl
 ·simp only[aat,aaL]at s_;rcases s_ with(s_|s_)|s_
  ·exact Fi h (aa1 s_)
  ·rw[ws]at s_;rw[uY s_];exact⟨t,rfl,gt.wf⟩
  ·exact Fi h (aa2 s_)
theorem Gl.sign{ws wr:List Str}(h:Gl ws)(e:ws=("sign" : Str)::wr):∃s,uu s/\ws=n9 s:=by
 cases h with
 |s s o e'=>exact⟨s,o,e'⟩
 |f f o e'=>rw[e]at e';exact absurd (aab e').1 (by decide)
 |r r o t e'=>rw[e]at e';exact absurd (aab e').1.symm (cO (r:=lE r) (z:="sign") (by decide))
theorem Gl.Xn{wr:List Str}(h:Gl ws)(e:ws=("form" : Str)::wr):∃f,qz f/\ws=J4 f:=by
 cases h with
 |s s o e'=>rw[e]at e';exact absurd (aab e').1 (by decide)
 |f f o e'=>exact⟨f,o,e'⟩
 |r r o t e'=>rw[e]at e';exact absurd (aab e').1.symm (cO (r:=lE r) (z:="form") (by decide))
theorem Gl.rule{wr:List Str}{w0:Str}(h:Gl ws)(e:ws=w0::wr)(h1:w0 ≠ "sign")(h2:w0 ≠ "form"):∃r,oj r/\J_ r.tm 4/\ws=MP r:=by
 cases h with
 |s s o e'=>rw[e]at e';exact absurd (aab e').1 h1
 |f f o e'=>rw[e]at e';exact absurd (aab e').1 h2
 |r r o t e'=>exact⟨r,o,t,e'⟩
noncomputable def PX:List (Key×V):=[(.inl 8,.str "sign"),(.inl 9,.str "sign"),(.inl 10,.str "sign"),(.inl 11,.str "sign"),(.inl 12,.str "form"),(.inl 16,.str "form")]
noncomputable def Qw(wy:Int):Str:=if 8<=wy/\wy<=11 then "sign" else if wy=12\/wy=16 then "form" else ""
def wa:fb [] PX=PX:=by decide +kernel
theorem xS:∀wy:Int,0<=wy->wy<20->(uG PX (.inl wy)).getD (.str "")=.str (Qw wy):=by
 intro wy h0 h1;obtain⟨k,rfl⟩:=aaG h0;have:∀k:Nat,k<20->(uG PX (.inl (k:Int))).getD (.str "")=.str (Qw (k:Int)):=by decide +kernel
 exact this k (by lia)
def Be(wy:Int)(w0:Str):Prop:=(8<=wy->wy<=11->w0 = "sign")/\(wy=12\/wy=16->w0 = "form")/\((13<=wy/\wy<=15)\/17<=wy->w0 ≠ "sign"/\w0 ≠ "form")
noncomputable def UQ(g:Gr)(wy:Int)(i:Nat):Bool:=decide (wy<8)||decide (V.str (Qw wy)=V.str (Ld g i))
noncomputable def UP(g:Gr)(i:Nat):Bool:=!Og (.str (Ld g i)) [.str "sign",.str "form"]
noncomputable def Ts(wy:Int):Bool:=Og (.int wy) [.int 13,.int 14,.int 15,.int 17,.int 18,.int 19]
variable{wy:Int}
theorem xT(h0:6<=wy)(h1:wy<20):Ts wy=decide ((13<=wy/\wy<=15)\/17<=wy):=by
 obtain⟨k,rfl⟩:=aaG (show 0<=wy by lia);have:∀k:Nat,k<20->6<=k->Ts (k:Int)=decide ((13<=(k:Int)/\(k:Int)<=15)\/17<=(k:Int)):=by decide +kernel
 exact this k (by lia) (by lia)
theorem CQ{g:Gr}(h:Ht g)(h0:6<=wy)(h1:wy<20)(n:Ts wy=false):(∀i,UQ g wy i=true->Be wy (Ld g i))/\∃i,i<(i_ g).length/\UQ g wy i=true:=by
 rw[xT h0 h1,acr]at n;have two:=(iH h).2.1;have hms:g.sg.length+1<(i_ g).length:=by obtain⟨_,_,_,_,_,er⟩:=mh h;exact(List.getElem?_eq_some_iff.mp er).1
 have m1:=List.length_pos_iff.mpr h.s1;unfold UQ;by_cases c:wy<8
 ·refine⟨λi _=>⟨λa=>absurd c (by lia),λa=>by lia,λa=>by lia⟩,0,by lia,by simp[c]⟩
 ·by_cases d:wy<=11
  ·have e:Qw wy = "sign":=by unfold Qw;rw[aaX ⟨by lia,d⟩]
   refine⟨λi hi=>?_,0,by lia,by rw[e,tD m1];simp⟩;rw[abg,aau,aau]at hi;rcases hi with hi|hi
   ·exact absurd hi c
   ·rw[e]at hi;exact⟨λ_ _=>(V.str.inj hi).symm,λa=>by lia,λa=>by lia⟩
  ·have e:Qw wy = "form":=by unfold Qw;rw[aaK (by lia),aaX (by lia)]
   refine⟨λi hi=>?_,g.sg.length,by lia,by rw[e,tE h];simp⟩;rw[abg,aau,aau]at hi;rcases hi with hi|hi
   ·exact absurd hi c
   ·rw[e]at hi;exact⟨λa b=>absurd b d,λa=>(V.str.inj hi).symm,λa=>by lia⟩
def FZ(w:Str):Og (.str w) [.str "sign",.str "form"]=true↔w = "sign"\/w = "form":=by
 unfold Og Ng;simp;constructor
 ·rintro(h|h)
  ·exact .inl h.symm
  ·exact .inr h.symm
 ·rintro(h|h)
  ·exact .inl h.symm
  ·exact .inr h.symm
theorem CP{g:Gr}(h:Ht g)(h0:6<=wy)(h1:wy<20)(n:Ts wy=true):(∀i,UP g i=true->Be wy (Ld g i))/\∃i,i<(i_ g).length/\UP g i=true:=by
 rw[xT h0 h1,aau]at n;have two:=(iH h).2.1;unfold UP;obtain⟨f,r,hf,hr,_,er⟩:=mh h;refine⟨λi hi=>?_,g.sg.length+1,(List.getElem?_eq_some_iff.mp er).1,?_⟩
 ·have:¬(Ld g i = "sign"\/Ld g i = "form"):=λq=>by
   rw[(FZ _).mpr q]at hi;exact absurd hi (by decide)
  exact⟨λa b=>by lia,λa=>by lia,λ_=>⟨λq=>this (.inl q),λq=>this (.inr q)⟩⟩
 ·have e:Ld g (g.sg.length+1)=sh (.val r.k r.nm):=kM er;cases q:Og (.str (Ld g (g.sg.length+1))) [.str "sign",.str "form"]with
  |false=>rfl
  |true=>
   rcases(FZ _).mp q with q|q
   ·rw[e]at q;exact absurd q (cO (r:=lE r) (z:="sign") (by decide))
   ·rw[e]at q;exact absurd q (cO (r:=lE r) (z:="form") (by decide))
def uO:Sp:=λvs H Q _=>∃(ll:Addr)(us:List V)(g:Gr)(wy c:Int),vs=[.ref ll,.int wy,.int c]/\H ll=some (.lst us)/\g9 (B0 H) (i_ g) us/\Ht g/\0<=wy/\wy<20/\0<=c/\c<1000000000000000000/\∀LL H',b6 H H'->(wy≠19->GY LL)->(wy=19->Nj LL)->Q (.str (GL LL)) H'
def Fc{L:List Nat}{m:Int}(h0:0<=m)(h1:m<((nV L).length:Int)):∃i,i∈L/\y6 (nV L) m=some (.int (i:Int)):=by obtain⟨x,hx,hm⟩:=og (xs:=nV L) h0 h1;obtain⟨i,hi,rfl⟩:=List.mem_map.mp hm;exact⟨i,hi,hx⟩
section
variable{P:Program}{w:World}{K:W.Frag}{mg:Str->Option Value}{base:Heap}{T:Q0}
theorem sq(X:Tx K w mg T):d9 P w K mg base E6 3 T.qBE T.OS ["_law_lines", "_law_way", "_law_cell"] uO:=by
 have HD:=(jx (P:=P) (w:=w) (base:=base) X).mono (show 1<=2 by decide);have K3:=(rZ (P:=P) (w:=w) (base:=base) X).mono (show 1<=2 by decide);have K4:=(mV (P:=P) (w:=w) (base:=base) X).mono (show 1<=2 by decide);have K5:=(lT (P:=P) (w:=w) (base:=base) X).mono (show 1<=2 by decide);have Y1:=(sk (P:=P) (w:=w) (base:=base) X).mono (show 1<=2 by decide);have Zb:=zN (P:=P) (w:=w) (base:=base) X;have Y_:=zO (P:=P) (w:=w) (base:=base) X;have Zq:=De (P:=P) (w:=w) (base:=base) X;refine X.R8.G9 o9 (λvs H Q E h=>?_) (λj8 A outer s H vs Q E hr h=>?_)
 ·obtain⟨_,_,_,_,_,rfl,_⟩:=h;rfl
 obtain⟨ll,us,g,wy,c,rfl,hl,A3,gd,y0,y1,c0,c1,q⟩:=h;refine⟨_,(af (be (aC jv (qv 1) aj (aK _)) (ao (aH (aB Zq hr rfl X.Wk X.Sw.kp X.YO .nil bu (d5 (qv 0) (d5 (qv 1) (d5 (qv 2) ac)))))) aI) (af (aD (i:=3) o9.nd rfl oJ1 (zd (dJ aj ak (dJ aj ak (dJ aj ak (dJ aj ak (dJ aj ak (dJ aj ak zh)))))))) (af (fL (ys:=["_law_lines", "_law_way", "_law_kinds"]) (js:=[0,1,3]) rfl rfl (bV rfl X.n_ (y8 (aA b8 rfl X.ff aay (d5 (qv 0) ac)) ac)) (λ_ _ _ _ _=>lQ (eN (gU (aC jv (qv 2) aj (aK _)) (fT (aC bM (rL (qv 3) (qv 2) ak) (aU (cW (K:=K) rfl) (aU (cW (K:=K) rfl) (qv 1) (qv 0) (λ_ _=>rfl)) aj (λ_ _=>rfl)) (aK _)))))) (λ_ _ _ _ _=>(qv 0)) (aM (i:=4) o9.nd rfl oI1) rfl) (af (be (aC rW (qv 1) (bw (d_ aj (d_ aj (d_ aj (d_ aj (d_ aj (d_ aj ac))))))) rfl) (ao (fL (ys:=["_law_lines"]) (js:=[0]) rfl rfl (bV rfl X.n_ (y8 (aA b8 rfl X.ff aay (d5 (qv 0) ac)) ac)) (λ_ _ _ _ _=>lQ (aC (ju (K:=K) rfl) (aU (cW (K:=K) rfl) (aU (cW (K:=K) rfl) (qv 1) (qv 0) (λ_ _=>rfl)) aj (λ_ _=>rfl)) (bw (d_ ak (d_ ak ac))) rfl)) (λ_ _ _ _ _=>(qv 0)) (aM (i:=4) o9.nd rfl oI1) rfl)) aI) (af (aD (i:=5) o9.nd rfl oI1 (aU aE (qv 4) (ar aV (qv 2) (aA b8 rfl X.ff aay (d5 (qv 4) ac))) (λ_ _=>rfl))) (af (aD (i:=6) o9.nd rfl oI1 (aU aE (qv 0) (qv 5) (λ_ _=>rfl))) (af (aD (i:=2) o9.nd rfl oI1 (ar bh (qv 2) aj)) (af (be (aC bM (qv 1) aj (aK _)) (ao (aD (i:=7) o9.nd rfl oI1 (aB K3 hr rfl X.Mq X.K7.kp X.ME .nil bu (d5 (qv 6) (o7 (ar aV (qv 2) (ar bA (aA b8 rfl X.ff aay (d5 (qv 6) ac)) aj)) (d_ ak ac)))))) (ao (be (aC bM (qv 1) aj (aK _)) (ao (aD (i:=7) o9.nd rfl oI1 (ar cu (aR (x_ (aU aE (aR (d_ ak (d_ ak (d_ ak (d_ ak (d_ ak (d_ ak (d_ ak (d_ ak ac))))))))) (ar aV (qv 2) aj) (λ_ _=>rfl)) ac)) (bc bT (qv 6) (bi aj) bE)))) (ao (be (aC bM (qv 1) aj (aK _)) (ao (aD (i:=7) o9.nd rfl oI1 (bc bT (qv 6) bE (bi (ar bA aj (ar aV (qv 2) aj)))))) (ao (be (aC bM (qv 1) aj (aK _)) (af (aD (i:=8) o9.nd rfl oI1 (ar bA aj (ar aV (qv 2) (ar kB (aA b8 rfl X.ff aay (d5 (qv 6) ac)) aj)))) (ao (aD (i:=7) o9.nd rfl oI1 (aB K4 hr rfl X.Mr X.K9.kp X.MF .nil bu (d5 (qv 6) (d5 (qv 8) (y8 (aB K5 hr rfl X.Ob X.MI.kp X.Pw .nil bu (o7 (ar bh (qv 2) aj) (x_ (aU aE (qv 6) (qv 8) (λ_ _=>rfl)) ac))) ac))))))) (ao (be (aC bM (qv 1) aj (aK _)) (ao (aD (i:=7) o9.nd rfl oI1 (aR (x_ (aU aE (qv 6) aj (λ_ _=>rfl)) (d_ ak (y8 (aB Y1 hr rfl X.VW X.R6.kp X.Ym .nil bu (d5 (qv 2) ac)) ac)))))) (ao (be (aC bM (rL (qv 3) (qv 1) ak) ak (aK _)) (ao (aD (i:=7) o9.nd rfl oI1 (aB Zb hr rfl X.V6 X.Sf.kp X.Yz .nil bu (d5 (qv 6) (d5 (qv 1) (d5 (qv 2) ac)))))) (ao (aD (i:=7) o9.nd rfl oI1 (aB Y_ hr rfl X.V4 X.Sd.kp X.Yw .nil bu (d5 (qv 6) (d5 (qv 1) (d5 (qv 2) ac))))))))))))))))) (ao (aH (aB HD hr rfl X.IJ X.Ig.kp X.I0 .nil bu (y8 (aB K4 hr rfl X.Mr X.K9.kp X.MF .nil bu (d5 (qv 0) (d5 (qv 5) (d5 (qv 7) ac)))) ac)))))))))))),?_⟩;dsimp only[cq];obtain⟨gG,g2,g15⟩:=iH gd;have Ir:=A3.len;refine⟨_,rfl,_,_,rfl,rfl,_,rfl,bI (λh6=>?_) (λh6=>?_)⟩
 ·exact⟨_,rfl,_,rfl,_,rfl,ll,us,g,wy,c,rfl,hl,A3,gd,c0,c1,λLL H' sm rn=>q LL H' sm (λ_=>rn) (λe=>by lia)⟩
 dsimp only[j4];refine bU λN0 z0=>z0 _ _ ?_
 refineλkd hkd=>⟨aa,PX,rfl,by decide,?_⟩
 have s1:b6 H (upd (upd H kd (.dK [])) kd (.dK (fb [] PX))):=aL hkd (ae hkd _);have WQ:=aa (H:=upd H kd (.dK [])) (a:=kd) (o:=.dK (fb [] PX));generalize upd (upd H kd (.dK [])) kd (.dK (fb [] PX))=H1 at s1 WQ⊢;rw[wa]at WQ;have IV:=s1 _ _ hl;have Jk:g9 (B0 H1) (i_ g) us:=A3.imp λa v h=>h.same s1;dsimp only[j4];have line:∀i,i<us.length->∃b w0 wr,us[i]?=some (V.ref b)/\(i_ g)[i]?=some (w0::wr)/\Ld g i=w0/\H1 b=some (.lst ((w0::wr).map V.str)):=λi hi=>by obtain⟨v,hv⟩:=aN (xs:=us) (i:=i) hi;obtain⟨ws,Ho,b,rfl,hb⟩:=Jk.get hv;have two:=(gG ws (aak Ho)).two;obtain⟨w0,wr,rfl⟩:=aaQ (l:=ws) (λe=>by rw[e]at two;exact absurd two (by decide));exact⟨b,w0,wr,hv,Ho,kM Ho,hb⟩
 refine⟨_,rfl,ll,_,rfl,.inl (c_.of IV),_,rfl,by lia,by lia,λD hD=>?_⟩;refine ix (n:=((us.length:Nat):Int).toNat) (UQ g wy) (abp (show _<=1000 by lia) (by decide)) hD (λi G hi sm Q' q'=>?_) (λi G hi Q' q'=>?_) (λH2 s2 LU=>?_)
 ·have q2:=q' _ (b6.refl _);unfold UQ at q2;refine⟨_,rfl,_,_,rfl,rfl,_,rfl,bI (λh8=>?_) (λh8=>?_)⟩
  ·rw[aa0 h8,Bool.true_or]at q2;exact q2
  ·rw[aaH h8,Bool.false_or]at q2;obtain⟨b,w0,wr,hv,_,e,hb⟩:=line i (by lia);refine⟨_,rfl,kd,rfl,.inl ⟨_,.inl (sm _ _ WQ)⟩,_,rfl,PX,.inl wy,sm _ _ WQ,rfl,?_⟩;rw[xS wy y0 y1];rw[e]at q2;exact⟨_,rfl,_,rfl,ll,_,_,.ref b,rfl,rfl,c_.of (sm _ _ IV),(show y6 us (0+(i:Int))=_ by rw[acj];exact bY hv),b,_,_,.str w0,rfl,rfl,c_.of (sm _ _ hb),cb _ _,rfl,_,rfl,q2⟩
 ·refine⟨_,rfl,?_⟩;rw[acj];exact q'
 have Nu:=s2 _ _ IV;have hk2:=s2 _ _ WQ;dsimp only[j4];refine bU λN2 z2=>?_;have fin2:∀(so:Addr)(pr:Nat->Bool)(G:Hp),b6 H2 G->G so=some (.lst (nV ((List.range ((us.length:Nat):Int).toNat).filter pr)))->(∀i,pr i=true->Be wy (Ld g i))->(∃i,i<(i_ g).length/\pr i=true)->N2 [some (.ref ll),some (.int wy),some (.int c),some (.ref kd),some (.ref so),none,none,none,none] G:=by
  intro so pr G sg hso tk ⟨i0,hi0,p0⟩;refine z2 _ _ ?_;have i0m:i0∈(List.range ((us.length:Nat):Int).toNat).filter pr:=List.mem_filter.mpr ⟨List.mem_range.mpr (by lia),p0⟩;have lp:0<(nV ((List.range ((us.length:Nat):Int).toNat).filter pr)).length:=by unfold nV;rw[aad];exact List.length_pos_of_mem i0m
  have m0:=aar c (show((nV ((List.range ((us.length:Nat):Int).toNat).filter pr)).length:Int)≠0 by lia);have m1:=aan c (show(0:Int)<((nV ((List.range ((us.length:Nat):Int).toNat).filter pr)).length:Int)by lia);obtain⟨i,hi,ai⟩:=Fc m0 m1;obtain⟨TZ,hi2⟩:=List.mem_filter.mp hi;have Q2:=tk i hi2;have q_:i<us.length:=by have:=List.mem_range.mp TZ;lia
  obtain⟨b,w0,wr,hv,Ho,e,hb⟩:=line i q_;rw[e]at Q2;have s02:=s1.trans (s2.trans sg);have hlG:=sg _ _ Nu;have Mx:=(s2.trans sg) _ _ hb;have hkG:=sg _ _ hk2;refine⟨_,rfl,_,rfl,_,rfl,so,_,rfl,.inl (c_.of hso),_,_,rfl,rfl,(by show(0:Int)<((nV ((List.range ((us.length:Nat):Int).toNat).filter pr)).length:Int);lia),so,_,_,_,rfl,rfl,c_.of hso,ai,?_⟩;dsimp only[j4];refine⟨_,rfl,_,rfl,ll,_,_,.ref b,rfl,rfl,c_.of hlG,bY hv,?_⟩;dsimp only[j4];refine⟨_,rfl,_,_,rfl,rfl,⟨by decide,by decide⟩,?_⟩;dsimp only[j4];generalize (List.range ((us.length:Nat):Int).toNat).filter pr=L at *;obtain⟨d,ed⟩:∃d:Int,c / 11=d:=⟨_,rfl⟩
  have d0:0<=d:=by lia
  have d1:d<1000000000000000000:=by lia
  rw[ed];refine bU λN3 z3=>?_;have fin:∀(r:Addr)(x8:Option V)(G2:Hp)(ws:List Str),b6 G G2->G2 r=some (.lst (ws.map V.str))->(ws.length<=60/\ws≠[]/\∀w∈ws,w.length<=200)->(∃LL,GL LL=GL ((i_ g).take i++[ws]++(i_ g).drop (i+1))/\(wy≠19->GY LL)/\(wy=19->Nj LL))->N3 [some (.ref ll),some (.int wy),some (.int d),some (.ref kd),some (.ref so),some (.int (i:Int)),some (.ref b),some (.ref r),x8] G2:=by
   intro r x8 G2 ws K' hr hw ⟨LL,el,r1,r2⟩;refine z3 _ _ ?_;refine⟨_,rfl,_,rfl,_,rfl,ll,us,i,.ref r,rfl,K' _ _ hlG,by lia,λt G3 s3 _ ht=>?_⟩;refine⟨t,_,(i_ g).take i++[ws]++(i_ g).drop (i+1),rfl,ht,?_,yk gd i hw.1 hw.2.1 hw.2.2,λG4 s4=>?_⟩
   ·have IT:g9 (B0 G3) (i_ g) us:=A3.imp λa v h=>h.same (s02.trans (K'.trans s3));exact((IT.take i).app (.one ⟨r,rfl,s3 _ _ hr⟩)).app (IT.drop (i+1))
   ·rw[<-el];exact q LL _ (s02.trans (K'.trans (s3.trans s4))) r1 r2
  have Nf:∀(r:Addr)(x8:Option V)(G2:Hp)(ws:List Str),wy≠19->b6 G G2->G2 r=some (.lst (ws.map V.str))->yf ws->N3 [some (.ref ll),some (.int wy),some (.int d),some (.ref kd),some (.ref so),some (.int (i:Int)),some (.ref b),some (.ref r),x8] G2:=by intro r x8 G2 ws ny K' hr bd;obtain⟨LL,el,rn⟩:=xa gd bd i;exact fin r x8 G2 ws K' hr ⟨bd.len,bd.ne,bd.wl⟩ ⟨LL,el,λ_=>rn,λe=>absurd e ny⟩
  have gl:=DO gd (aak Ho);obtain⟨ws,P0⟩:∃ws,w0::wr=ws:=⟨_,rfl⟩
  rw[P0]at Mx gl Ho;have l20:=gl.g.len;have l2:=gl.g.two;have lm:(ws.map V.str).length=ws.length:=aad _;refine⟨_,rfl,rfl,_,rfl,bI (λ_l=>?_) (λ_l=>?_)⟩
  ·-- a uj more
   have _l:=V.int.inj _l;have b0:=aar d (show(((ws.map V.str).length:Int)+1)≠0 by lia);obtain⟨n,hn⟩:=aaG b0;refine⟨_,rfl,_,rfl,_,rfl,b,_,rfl,.inl (c_.of Mx),_,_,rfl,rfl,_,_,rfl,rfl,(by show(0:Int)<((ws.map V.str).length:Int)+1;lia),b,_,n,_,aaN (λk:Int=>[V.ref b,V.int k,V.str ""]) hn,Mx,by lia,λr G2 K' _ hr=>?_⟩;refine Nf r none G2 (ws.take n++[("" : Str)]++ws.drop n) (by lia) K' ?_ (w6 gl n).r;rw[hr];simp only[aaZ,ab7,acY,aaV,abJ]
  have nh6':wy≠6:=λe=>_l (aaN V.int e);refine⟨_,rfl,rfl,_,rfl,bI (λh7=>?_) (λh7=>?_)⟩
  ·-- _3 first word
   have h7:=V.int.inj h7;refine⟨Z8,λp hp=>?_⟩;have t1:=ae hp (.lst ((["signs", "Form", "fo", "rule", "si", "0", "forms", "Sign"]:List Str).map V.str));obtain⟨z,az,hz⟩:=iL (zs:=["signs", "Form", "fo", "rule", "si", "0", "forms", "Sign"]) (m:=d%8) (aar _ (by decide)) (aan _ (by decide));refine⟨_,rfl,_,_,rfl,rfl,(by show(0:Int)<8;decide),p,_,_,.str z,rfl,rfl,c_.of aa,az,Z1,λf hf=>?_⟩;have t2:=ae hf (.lst (([z]:List Str).map V.str));refine⟨_,rfl,_,rfl,b,_,rfl,c_.of ((t1.trans t2) _ _ Mx),λk hk=>?_⟩;rw[show(some 1:Option Int)=some ((1:Nat):Int)from rfl,cU];have t3:=ae hk (.lst ((ws.map V.str).drop 1));refine⟨f,k,_,_,rfl,rfl,t3 _ _ aa,aa,aO (by rw[abe,lm];show 1+_<=_;lia),λr s_=>?_⟩;refine Nf r none _ (z::ws.drop 1) (by lia) (t1.trans (t2.trans (t3.trans (ae s_ _)))) ?_ (w7 gl hz).r;rw[aaV,acY];exact aa
  have nh7:wy≠7:=λe=>h7 (aaN V.int e);refine⟨_,rfl,rfl,_,rfl,bI (λXj=>?_) (λXj=>?_)⟩
  ·-- too HQ words
   have Xj:=V.int.inj Xj;obtain⟨f,fo,ef⟩:=gl.Xn (by rw[<-P0,Q2.2.1 (.inl Xj)]);have b0:=aar d (show(2:Int)≠0 by decide);have b1:=aan d (show(0:Int)<2 by decide);obtain⟨n,hn⟩:=aaG b0;refine⟨_,rfl,_,rfl,_,_,rfl,rfl,(by show(0:Int)<2;decide),_,_,rfl,rfl,_,rfl,b,_,rfl,c_.of Mx,λr s_=>?_⟩;rw[show(1+d%2:Int)=((1+n:Nat):Int)by rw[hn];lia,cT];refine Nf r none _ (ws.take (1+n)) (by lia) (ae s_ _) ?_ (by rw[ef];exact(w12 fo (n:=1+n) (by lia) (by lia)).r);rw[ab7];exact aa
  have nh12:wy≠12:=λe=>Xj (aaN V.int e);refine⟨_,rfl,rfl,_,rfl,bI (λXh=>?_) (λXh=>?_)⟩
  ·-- names Vj are none
   have Xh:=V.int.inj Xh;obtain⟨f,fo,ef⟩:=gl.Xn (by rw[<-P0,Q2.2.1 (.inr Xh)]);have b0:=aar d (show(((ws.map V.str).length:Int)-1)≠0 by lia);have b1:=aan d (show(0:Int)<(((ws.map V.str).length:Int)-1)by lia);obtain⟨n,hn⟩:=aaG b0;have en:(1+d%(((ws.map V.str).length:Int)-1))=((1+n:Nat):Int):=by rw[hn];lia
   obtain⟨x,hx⟩:=aN (xs:=ws) (i:=1+n) (by lia);have nx:g7 x:=by
    rw[ef]at hx;have:x∈f.nm::f.hd::f.br:=by rw[show 1+n=n+1 by lia]at hx;exact aak (show(f.nm::f.hd::f.br)[n]?=some x from hx)
    simp only[aaf]at this;rcases this with rfl|rfl|h
    ·exact fo.nm
    ·exact fo.hd
    ·exact fo.br x h
   refine⟨_,rfl,_,rfl,b,_,rfl,.inl (c_.of Mx),_,_,rfl,rfl,_,_,rfl,rfl,(by show(0:Int)<((ws.map V.str).length:Int)-1;lia),_,_,rfl,rfl,?_⟩;dsimp only[j4];refine⟨_,rfl,_,rfl,_,rfl,_,_,rfl,rfl,⟨by decide,by decide⟩,_,rfl,_,rfl,b,_,_,.str x,rfl,rfl,c_.of Mx,(show y6 (ws.map V.str) (1+d%(((ws.map V.str).length:Int)-1))=_ from cz en hx),_,_,rfl,nx,λz G2 K' nz wz _=>?_⟩;refine⟨b,_,1+n,_,aaN (λk:Int=>[V.ref b,V.int k,V.str z]) en,K' _ _ Mx,by lia,λr G3 s3 _ s_=>?_⟩;refine Nf r _ G3 (ws.take (1+n)++[z]++ws.drop (1+n+1)) (by lia) (K'.trans s3) ?_ (by rw[ef];exact(w16 fo nz wz (by lia) (by rw[<-ef];lia)).r);rw[s_];simp only[aaZ,ab7,acY,aaV,abJ]
  have nh16:wy≠16:=λe=>Xh (aaN V.int e);refine⟨_,rfl,rfl,_,rfl,bI (λXg=>?_) (λXg=>?_)⟩
  ·-- a term too great
   have Xg:=V.int.inj Xg;obtain⟨r,ro,rt,er⟩:=gl.rule P0.symm (Q2.2.2 (.inr (by lia))).1 (Q2.2.2 (.inr (by lia))).2;have hx:(ws.map V.str)=[.str (sh (.val r.k r.nm)),.str "=",.str (sh r.tm)]:=by rw[er];rfl
   rw[hx]at Mx;refine⟨_,rfl,b,_,_,_,rfl,rfl,c_.of Mx,cb _ _,_,rfl,d,rfl,λt G2 gt K'=>⟨Z3,λp hp=>?_⟩⟩;refine fin p none _ [sh (.val r.k r.nm), "=",sh t] (K'.trans (ae hp _)) aa ⟨by simp,by simp,λw hw=>?_⟩ ⟨_,rfl,λe=>absurd Xg e,λ_=>tG gd (by rw[<-er];exact Ho) ro gt⟩;simp only[aaf,aaj,aaJ]at hw;rcases hw with rfl|rfl|rfl
   ·have:=cD ro.vl;lia
   ·decide
   ·exact gt.l
  have nh19:wy≠19:=λe=>Xg (aaN V.int e);refine⟨_,rfl,kd,rfl,.inl ⟨_,.inl hkG⟩,_,rfl,PX,.inl wy,hkG,rfl,?_⟩;rw[xS wy y0 y1];refine⟨rfl,_,rfl,bI (λhS=>?_) (λhS=>?_)⟩
  ·-- a SH line
   have Xe:8<=wy/\wy<=11:=by
    unfold Qw at hS;by_cases c1:8<=wy/\wy<=11
    ·exact c1
    ·rw[aaK c1]at hS;split at hS<;>exact absurd (V.str.inj hS) (by decide)
   obtain⟨s',so',es⟩:=gl.sign (by rw[<-P0,Q2.1 Xe.1 Xe.2]);rw[es]at Mx;exact⟨_,rfl,_,rfl,_,rfl,b,s',wy,d,rfl,Mx,so',d0,d1,λr NA G2 K' s_ bl=>Nf r none G2 NA (by lia) K' s_ bl.r⟩
  ·-- a SI line
   have hR:(13<=wy/\wy<=15)\/17<=wy:=by
    have n811:¬(8<=wy/\wy<=11):=λc1=>hS (by unfold Qw;rw[aaX c1])
    lia
   obtain⟨r,ro,rt,er⟩:=gl.rule P0.symm (Q2.2.2 hR).1 (Q2.2.2 hR).2;rw[er]at Mx;exact⟨_,rfl,_,rfl,_,rfl,b,r,wy,d,rfl,Mx,ro,rt,d0,d1,λp NA G2 K' s_ bl=>Nf p none G2 NA (by lia) K' s_ bl⟩
 refine⟨_,rfl,Z6,λp hp=>⟨p,_,rfl,.inr (k_.of aa),rfl,rfl,_,rfl,?_⟩⟩;have t1:=ae hp (.tup [.int 13,.int 14,.int 15,.int 17,.int 18,.int 19]);have Ou:=t1 _ _ Nu;show if Ts wy=true then _ else _
 by_cases hw:Ts wy=true
 ·rw[aaX hw];obtain⟨tk,ex⟩:=CP gd (by lia) y1 hw;refine⟨_,rfl,ll,_,rfl,.inl (c_.of Ou),_,rfl,by lia,by lia,λD2 hD2'=>?_⟩;refine ix (n:=((us.length:Nat):Int).toNat) (UP g) (abp (show _<=1000 by lia) (by decide)) hD2' (λi G hi sm Q' q'=>?_) (λi G hi Q' q'=>?_) (λH4 s4 hD4=>?_)
  ·obtain⟨b,w0,wr,hv,_,e,hb⟩:=line i (by lia);refine⟨_,rfl,_,rfl,ll,_,_,.ref b,rfl,rfl,c_.of (sm _ _ Ou),(show y6 us (0+(i:Int))=_ by rw[acj];exact bY hv),b,_,_,.str w0,rfl,rfl,c_.of ((s2.trans (t1.trans sm)) _ _ hb),cb _ _,Z2,λa ha=>⟨a,_,rfl,.inr (k_.of aa),rfl,rfl,_,rfl,?_⟩⟩;have q2:=q' _ (ae ha (.tup [.str "sign",.str "form"]));unfold UP at q2;rw[e]at q2;exact q2
  ·refine⟨_,rfl,?_⟩;rw[acj];exact q'
  ·exact fin2 D2 (UP g) H4 (t1.trans s4) hD4 tk ex
 ·rw[aaK hw];obtain⟨tk,ex⟩:=CQ gd (by lia) y1 (by cases e:Ts wy with|true=>exact absurd e hw|false=>rfl);exact fin2 D (UQ g wy) _ t1 (t1 _ _ LU) tk ex
end
end Je
namespace L2
open PySem PySem.Spec PyProof.Rows
def GE(K:W.Frag)(n:Nat)(t:Ni):TG:=λv σ H Q=>∃a xs,v=.ref a/\c_ K H a xs/\xs.length=n/\t xs σ H Q
def CL{X:Cx}{pos:Pos}{es:List Expr}{k:Nat}{t:Ni}{n:Nat}(hc:X.calm=true)(h:Vd X es t)(hn:(assignEach es X.env).length=n:=by rfl)(B5:(assignEach es X.env).findIdx? (·.1)=none:=by rfl):QG X (.Tuple es k pos) (GE X.K n t):=⟨by
 intro pins s σ H v u Q I r hw;obtain⟨a,xs,e1,hq,hl,hw⟩:=hw;subst e1;cases r;obtain⟨d7,rv,ht,hz⟩:=I.list hq;rw[assign_Tuple];refine aae (adh ?_);unfold unpack;rw[show(assignEach es X.env).length=d7.toArray.size by simp[hn,<-hl,rv.length],B5];refine aae (wpAny_holding (PySem.W.kun_itemsOf (I.ok.hd hc) ht.isList λh' hx=>?_));have I1:Inv X pins σ H { s with heap:=h' }:=I.kept (t':=s.toks) λb o e=>hx b o (aaY (aao e)) e;exact h.h pins _ σ H xs _ Q I1 (by simpa using rv) hw⟩
end L2
namespace Je
open PySem L2 NS TR
open TM hiding j_ Ms Run Step o6 t7
theorem ur{H:Hp}{α:Type}{R:α->V->Prop}{n:Nat}(h:∀a v u,R a v->R a u->Al H n v u):∀{as:List α}{vs us:List V},g9 R as vs->g9 R as us->∀(i:Nat)(x y:V),vs[i]?=some x->us[i]?=some y->Al H n x y
 |_,_,_,.nil,.nil,i,x,y,e,_=>by simp at e
 |_,_,_,.cons a b,.cons c d,0,x,y,e,e'=>by
  simp at e e';subst e e';exact h _ _ _ a c
 |_,_,_,.cons a b,.cons c d,i+1,x,y,e,e'=>ur h b d i x y (by simpa using e) (by simpa using e')
variable{H:Hp}{a b:Addr}{n:Nat}
def lD{α:Type}{R:α->V->Prop}{as:List α}{vs us:List V}(h:∀a v u,R a v->R a u->Al H n v u)(hl:as.length<=1000)(ha:H a=some (.tup vs))(hv:g9 R as vs)(hb:H b=some (.tup us))(hu:g9 R as us):Al H (n+1) (.ref a) (.ref b):=
 .tup ha hb (by rw[hu.len,hv.len]) (by rw[hv.len];exact hl) (ur h hv hu)
def Bb{x1 x2 y1 y2 z1 z2 w1 w2:V}(ha:H a=some (.tup [x1,y1,z1,w1]))(hb:H b=some (.tup [x2,y2,z2,w2]))(h1:Al H n x1 x2)(h2:Al H n y1 y2)(h3:Al H n z1 z2)(h4:Al H n w1 w2):Al H (n+1) (.ref a) (.ref b):=
 .tup ha hb rfl (by show 4<=1000;decide) λi x y hx hy=>by
  match i with
  |0=>cases hx;cases hy;exact h1
  |1=>cases hx;cases hy;exact h2
  |2=>cases hx;cases hy;exact h3
  |3=>cases hx;cases hy;exact h4
  |i+4=>simp at hx
def Ef(p:Str×Str)(v u:V)(h:w_ H p v)(g:w_ H p u):Al H 1 v u:=by obtain⟨a,rfl,e⟩:=h;obtain⟨b,rfl,e'⟩:=g;exact oi e e' (.str _) (.str _)
variable{s:Sg}
theorem Fx(ok:uu s)(v u:V)(h:E_ H s v)(g:E_ H s u):Al H 3 v u:=by obtain⟨p,a,b,us,ws,rfl,e,ea,la,eb,lb⟩:=h;obtain⟨p',a',b',HW,NA,rfl,e',Xw,la',Ut,lb'⟩:=g;have:=ok.d3;have:=ok.u3;exact gK e e' (.str _) (lD Ef (by lia) ea la Xw la') (lD Ef (by lia) eb lb Ut lb')
theorem Fy{r:Ru}(ok:oj r)(v u:V)(h:F_ H r v)(g:F_ H r u):Al H 13 v u:=by obtain⟨p,x,rfl,e,t⟩:=h;obtain⟨p',x',rfl,e',t'⟩:=g;have:=ok.d6;exact gK e e' (.int _) (.str _) ((Gh r.tm t t').mono (by lia))
def Ba{zs:List Str}(hl:zs.length<=1000)(ha:H a=some (.tup (zs.map V.str)))(hb:H b=some (.tup (zs.map V.str))):Al H 1 (.ref a) (.ref b):=
 .tup ha hb rfl (by rw[aad];exact hl) λi x y hx hy=>by
  rw[hx]at hy;cases hy;rw[aaI]at hx;cases e:zs[i]? with
  |none=>rw[e]at hx;cases hx
  |some z=>rw[e]at hx;cases hx;exact .str z
theorem g9.B_{α:Type}{R:α->V->Prop}{S:α->Prop}:∀{as:List α}{vs:List V},g9 R as vs->(∀a∈as,S a)->g9 (λa v=>R a v/\S a) as vs
 |_,_,.nil,_=>.nil
 |_,_,.cons x y,h=>.cons ⟨x,h _ (by simp)⟩ (g9.B_ y λa ha=>h a (by simp[ha]))
theorem FA{f:Fm}(ok:qz f)(v u:V)(h:G_ H f v)(g:G_ H f u):Al H 15 v u:=by obtain⟨p,a,b,us,rfl,e,ea,eb,l⟩:=h;obtain⟨p',a',b',HW,rfl,e',Xw,Ut,l'⟩:=g;have:=ok.b5;have:=ok.r3;exact Bb e e' (.str _) (.str _) ((Ba (by lia) ea Xw).mono (by decide)) (lD (n:=13) (R:=λr v=>F_ H r v/\oj r) (λr v u x y=>Fy x.2 v u x.1 y.1) (by lia) eb (g9.B_ l ok.ru) Ut (g9.B_ l' ok.ru))
theorem Fz{g:Gr}(ok:Gj g){v u:V}(h:K2 H g v)(k:K2 H g u):Al H 17 v u:=by obtain⟨p,a,b,us,ws,rfl,e,ea,la,eb,lb⟩:=h;obtain⟨p',a',b',HW,NA,rfl,e',Xw,la',Ut,lb'⟩:=k;have:=ok.s7;have:=ok.f5;exact oi e e' ((lD (n:=3) (R:=λr v=>E_ H r v/\uu r) (λr v u x y=>Fx x.2 v u x.1 y.1) (by lia) ea (g9.B_ la ok.sg) Xw (g9.B_ la' ok.sg)).mono (by decide)) (lD (n:=15) (R:=λr v=>G_ H r v/\qz r) (λr v u x y=>FA x.2 v u x.1 y.1) (by lia) eb (g9.B_ lb ok.fm) Ut (g9.B_ lb' ok.fm))theorem Ht.ok {g:Gr} (h:Ht g):Gj g:=⟨by have:=h.s3;lia,by have:=h.f3;lia,h.sg,λf hf=>(h.fm f hf).ok⟩
def AV:bootBuiltins "ValueError" = some (.type "ValueError"):=by decide +kernel
variable{X:Cx}
def fG{K:W.Frag}(h:X.K=K):t4 X (.builtin "isinstance") (λxs H Q=>∃(a C:Addr)(v:V)(b:Bool),xs=[.ref a,v]/\H a=some (uB a C)/\Bc K C /\
 ((∃D,v=.ref D/\PySem.W.kitOne K (.ref C) (.ref D)=some b)\/(∃T,v=.ty T/\PySem.W.kitOne K (.ref C) (.type T)=some b)\/(∃(p:Addr)(ds:List Addr),v=.ref p/\H p=some (.tup (ds.map V.ref))/\PySem.W.kitAny K (.ref C) (ds.map Value.ref)=some b))/\Q (.bl b) H):=h▸wY
def Fg{K:W.Frag}{b:Bool}:n8 K H [.fl (.bl b)] [.bl b]:=ft (by unfold B4;exact⟨rfl,rfl⟩) wm
variable{c:Bool}
def Ff{K:W.Frag}{a b:Bool}:n8 K H [.fl (.bl a),.fl (.bl b),.fl (.bl c)] [.bl a,.bl b,.bl c]:=ft (by unfold B4;exact⟨rfl,rfl⟩) (ft (by unfold B4;exact⟨rfl,rfl⟩) Fg)
def wo{K:W.Frag}{a b d:Bool}:n8 K H [.fl (.bl a),.fl (.bl b),.fl (.bl c),.fl (.bl d)] [.bl a,.bl b,.bl c,.bl d]:=ft (by unfold B4;exact⟨rfl,rfl⟩) Ff
def BG:Sp:=λvs H Q _=>∃(LL:List (List Str))(g:Bool),vs=[.str (GL LL),.bl g]/\((g=false/\GY LL)\/(g=true/\Nj LL))/\∀H',b6 H H'->Q (.bl true) H'
variable{P:Program}{w:World}{K:W.Frag}{mg:Str->Option Value}{base:Heap}{T:Q0}
def zA(X:Tx K w mg T):d9 P w K mg base E6 9 T.qAV T.O2 ["_law_text_here", "_law_great_here"] BG:=by
 have PH:=rX (P:=P) (w:=w) (base:=base) X;refine X.Se.G9 JQ (λvs H Q E h=>?_) (λj8 A outer s H vs Q E hr h=>?_)
 ·obtain⟨_,_,rfl,_⟩:=h;rfl
 obtain⟨LL,g,rfl,KU,k⟩:=h;refine⟨_,(af (aD (i:=2) JQ.nd rfl oI1 (aR ac)) (af (CK (i:=3) PH hr rfl X.Rn X.PN.kp X.RR (d5 (qv 0) ac) rfl X.GS X.GW JQ.nd rfl rfl rfl rfl rfl (λ_=>(af (aD (i:=2) JQ.nd rfl oI1 (aR (y8 (aA (fG (K:=K) rfl) rfl X.d8 aaM (d5 (qv 3) (d5 (bt rfl X.g_ (v:=V.ref T.b7) rfl) ac))) (y8 (aA (fG (K:=K) rfl) rfl X.d8 aaM (d5 (qv 3) (d5 (bt rfl X.C4 (v:=V.ref T.b_) rfl) ac))) (y8 (aA (fG (K:=K) rfl) rfl X.d8 aaM (d5 (qv 3) (d5 (cN rfl X.B8 AV rfl (v:=.ty "ValueError")) ac))) ac))))) (ao (bo (rN (K:=K) rfl aal aaC aaB bf (qv 2) (y8 (aA (fG (K:=K) rfl) rfl X.d8 aaM (d5 (qv 3) (Ml (bw (d5 (bt rfl X.IQ (v:=V.ref T.n5) rfl) (d5 (bt rfl X.IP (v:=V.ref T.n4) rfl) (d5 (bt rfl X.IM (v:=V.ref T.m_) rfl) (d5 (bt rfl X.IL (v:=V.ref T.m9) rfl) (d5 (bt rfl X.HK (v:=V.ref T.j6) rfl) (d5 (bt rfl X.HL (v:=V.ref T.j7) rfl) (d5 (bt rfl X.IK (v:=V.ref T.m8) rfl) (d5 (bt rfl X.LM (v:=V.ref T.t6) rfl) ac))))))))) ac))) ac))))))) (ao (aH (cR (Dd hr.units) (qv 2) (aR (qaU (xB (qv 1)) (d5 (qv 1) (d_ dZ (d_ dZ ac))))) (aK _)))))),?_⟩;dsimp only[cq];refine⟨Z0,λo1 ho1=>?_⟩;have O1:=ae ho1 (.lst []);generalize upd H o1 (.lst [])=H1 at O1⊢;rcases KU with⟨rfl,bad⟩|⟨rfl,bad⟩
 ·refine⟨_,rfl,?_⟩;dsimp only[KJ];refine bad.asks λH2 s2=>?_;refine⟨T.b7,rfl,X.f_,X.o8,λex hex=>?_⟩;have E1:=ae hex (uB ex T.b7);refine⟨_,rfl,ex,T.b7,_,_,rfl,aa,X.Hv,.inl ⟨_,rfl,X.Hi⟩,?_⟩;refine⟨_,rfl,ex,T.b7,_,_,rfl,aa,X.Hv,.inl ⟨_,rfl,X.Hh⟩,?_⟩;refine⟨_,rfl,ex,T.b7,_,_,rfl,aa,X.Hv,.inr (.inl ⟨_,rfl,X.Hg⟩),Z3,λp1 Jc=>?_⟩;have E2:=ae Jc (.lst [.bl true,.bl false,.bl true]);have Oo:=aa (H:=upd H2 ex (uB ex T.b7)) (a:=p1) (o:=.lst [.bl true,.bl false,.bl true]);have Ub:=E2 _ _ (aa (H:=H2) (a:=ex) (o:=uB ex T.b7));have np1:H p1=none:=(O1.trans (s2.trans E1)).free Jc;refine⟨_,rfl,.inl ⟨rfl,_,c_.of Oo⟩,_,rfl,Z8,λtp TB=>?_⟩;have E3:=ae TB (.tup ([T.n5,T.n4,T.m_,T.m9,T.j6,T.j7,T.m8,T.t6].map V.ref));refine⟨ex,T.b7,_,_,rfl,E3 _ _ Ub,X.Hv,.inr (.inr ⟨tp,[T.n5,T.n4,T.m_,T.m9,T.j6,T.j7,T.m8,T.t6],rfl,aa,X.Hf⟩),p1,_,_,rfl,rfl,E3 _ _ Oo,(by show 3<sizeLine;decide),?_⟩;refine⟨_,rfl,_,rfl,_,rfl,_,rfl,Z4,λr1 Mu=>?_⟩;have E5:=ae Mu (.lst [.bl true,.bl false,.bl true,.bl false]);refine⟨p1,r1,[.bl true,.bl false,.bl true,.bl false],[.bl true,.bl false,.bl true,.bl false],[.fl (.bl true),.fl (.bl false),.fl (.bl true),.fl (.bl false)],[.fl (.bl true),.fl (.bl false),.fl (.bl true),.fl (.bl false)],rfl,rfl,.inr ⟨c_.of (E5 _ _ aa),c_.of aa⟩,wo,wo,by decide,?_⟩;exact k _ ((aL np1 (O1.trans (s2.trans (E1.trans (E2.trans E3))))).trans E5)
 ·refine⟨_,rfl,?_⟩;dsimp only[KJ];refine bad.asks λH2 s2=>?_;refine⟨T.b_,rfl,X.y_,X.o4,λex hex=>?_⟩;have E1:=ae hex (uB ex T.b_);refine⟨_,rfl,ex,T.b_,_,_,rfl,aa,X.B9,.inl ⟨_,rfl,X.C9⟩,?_⟩;refine⟨_,rfl,ex,T.b_,_,_,rfl,aa,X.B9,.inl ⟨_,rfl,X.C8⟩,?_⟩;refine⟨_,rfl,ex,T.b_,_,_,rfl,aa,X.B9,.inr (.inl ⟨_,rfl,X.C7⟩),Z3,λp1 Jc=>?_⟩;have E2:=ae Jc (.lst [.bl false,.bl true,.bl true]);have Oo:=aa (H:=upd H2 ex (uB ex T.b_)) (a:=p1) (o:=.lst [.bl false,.bl true,.bl true]);have Ub:=E2 _ _ (aa (H:=H2) (a:=ex) (o:=uB ex T.b_));have np1:H p1=none:=(O1.trans (s2.trans E1)).free Jc;refine⟨_,rfl,.inl ⟨rfl,_,c_.of Oo⟩,_,rfl,Z8,λtp TB=>?_⟩;have E3:=ae TB (.tup ([T.n5,T.n4,T.m_,T.m9,T.j6,T.j7,T.m8,T.t6].map V.ref));refine⟨ex,T.b_,_,_,rfl,E3 _ _ Ub,X.B9,.inr (.inr ⟨tp,[T.n5,T.n4,T.m_,T.m9,T.j6,T.j7,T.m8,T.t6],rfl,aa,X.C6⟩),p1,_,_,rfl,rfl,E3 _ _ Oo,(by show 3<sizeLine;decide),?_⟩;refine⟨_,rfl,_,rfl,_,rfl,_,rfl,Z4,λr1 Mu=>?_⟩;have E5:=ae Mu (.lst [.bl false,.bl true,.bl true,.bl false]);refine⟨p1,r1,[.bl false,.bl true,.bl true,.bl false],[.bl false,.bl true,.bl true,.bl false],[.fl (.bl false),.fl (.bl true),.fl (.bl true),.fl (.bl false)],[.fl (.bl false),.fl (.bl true),.fl (.bl true),.fl (.bl false)],rfl,rfl,.inr ⟨c_.of (E5 _ _ aa),c_.of aa⟩,wo,wo,by decide,?_⟩;exact k _ ((aL np1 (O1.trans (s2.trans (E1.trans (E2.trans E3))))).trans E5)
def CZ{P:Program}{w:World}:cY (Hu P w) X E0:=λ_ _ _ _ _ _ _ h=>by obtain⟨_,_,_,_,_,z⟩:=h;exact z.elim
def zg{p q:Str×Str}(hp:gb p)(hq:gb q)(e:Mm p=Mm q):p=q:=by have:=aaN (λz:Str=>z.cps.toList) e;simp only[eP]at this;obtain⟨a,b⟩:=AR this (g7.colon hp.1) (g7.colon hq.1);exact Prod.ext (bx a) (bx b)
theorem lS{w:Str}:∀{ps qs:List (Str×Str)},(∀p∈ps,gb p)->(∀p∈qs,gb p)->ps.flatMap (GN w)=qs.flatMap (GN w)->ps=qs
 |[],[],_,_,_=>rfl
 |[],q::qs,_,_,e=>by cases e
 |p::ps,[],_,_,e=>by cases e
 |p::ps,q::qs,hp,hq,e=>by have e1:w::Mm p::ps.flatMap (GN w)=w::Mm q::qs.flatMap (GN w):=e;have e2:=aab (aab e1).2;rw[zg (hp p aap) (hq q aap) e2.1,lS (λx hx=>hp x (aah _ hx)) (λx hx=>hq x (aah _ hx)) e2.2]
variable{s':Sg}
theorem DW(e:Ja s=Ja s'):s'.dn.length<=s.dn.length:=by
 have ne:(Str.ofString "up")≠Str.ofString "down":=by decide
 by_cases c:s.dn.length<s'.dn.length
 ·have l:=aaN List.length e;rw[jm,jm]at l;obtain⟨z,hz⟩:=aN (xs:=Ja s) (i:=2*s.dn.length) (by rw[jm];lia);have a:z = "up":=by
   rcases gn hz with⟨h,_⟩|⟨_,h⟩
   ·lia
   ·exact h
  rw[e]at hz;have b:z = "down":=by
   rcases gn hz with⟨_,h⟩|⟨h,_⟩
   ·exact h
   ·lia
  exact absurd (a.symm.trans b) ne
 ·lia
def yS(g:Ma s)(g':Ma s')(e:n9 s=n9 s'):s=s':=by
 have e1:=(aab (aab e).2)
 have e2:Ja s=Ja s':=e1.2;have l:s.dn.length=s'.dn.length:=Nat.le_antisymm (DW e2.symm) (DW e2);have e3:=List.append_inj (show s.dn.flatMap (GN "down")++s.up.flatMap (GN "up")=s'.dn.flatMap (GN "down")++s'.up.flatMap (GN "up")from e2) (by rw[bS,bS,l]);have d:=lS g.dn g'.dn e3.1;have u:=lS g.up g'.up e3.2;cases s;cases s';simp only[Sg.mk.injEq];exact⟨e1.1,d,u⟩
theorem qY:∀{ss ts:List Sg},qx ss->qx ts->ss.map n9=ts.map n9->ss=ts
 |[],[],_,_,_=>rfl
 |[],t::ts,_,_,e=>by cases e
 |s::ss,[],_,_,e=>by cases e
 |s::ss,t::ts,h,k,e=>by have e1:=aab e;rw[yS (h s aap) (k t aap) e1.1,qY (λx hx=>h x (aah _ hx)) (λx hx=>k x (aah _ hx)) e1.2]
def za{r r':Rh}(o:qy r)(o':qy r')(e:u9 r=u9 r'):r=r':=by have e1:=(aab e).1;have t:=uY e;have:=iR o o' e1;cases r;cases r';simp only[Rh.mk.injEq];injection this with a b;exact⟨a,b,t⟩
theorem xx:∀{rs C3:List Rh}{R R':List (List Str)},(∀r∈rs,qy r)->(∀r∈C3,qy r)->(∀l,R.head?=some l->∃f,l=Iu f)->(∀l,R'.head?=some l->∃f,l=Iu f)->rs.map u9++R=C3.map u9++R'->rs=C3/\R=R'
 |[],[],_,_,_,_,_,_,e=>⟨rfl,e⟩
 |[],r::C3,R,R',_,_,h,_,e=>by
  obtain⟨f,ef⟩:=h (u9 r) (by rw[show R=_ from e];rfl);exact absurd ef.symm fu
 |r::rs,[],R,R',_,_,_,h,e=>by
  obtain⟨f,ef⟩:=h (u9 r) (by rw[show R'=_ from e.symm];rfl);exact absurd ef.symm fu
 |r::rs,r'::C3,R,R',o,o',h,h',e=>by have e1:=aab e;obtain⟨a,b⟩:=xx (λx hx=>o x (aah _ hx)) (λx hx=>o' x (aah _ hx)) h h' e1.2;rw[za (o r aap) (o' r' aap) e1.1,a];exact⟨rfl,b⟩
theorem tP(fs:List Fh):∀l,(fs.flatMap A9).head?=some l->∃f,l=Iu f:=by
 intro l e;cases fs with
 |nil=>cases e
 |cons f fs=>exact⟨f,(aaq e).symm⟩
theorem tR:∀{fs gs:List Fh},iM fs->iM gs->fs.flatMap A9=gs.flatMap A9->fs=gs
 |[],[],_,_,_=>rfl
 |[],t::ts,_,_,e=>by cases e
 |s::ss,[],_,_,e=>by cases e
 |f::fs,g::gs,h,k,e=>by have e0:Iu f::(f.ru.map u9++fs.flatMap A9)=Iu g::(g.ru.map u9++gs.flatMap A9):=e;have e1:=aab e0;have hf:=h f aap;have hg:=k g aap;obtain⟨a,b⟩:=xx hf.ru hg.ru (tP fs) (tP gs) e1.2;have c:=tR (λx hx=>h x (aah _ hx)) (λx hx=>k x (aah _ hx)) b;have e2:=(aab e1.1).2;have e3:=aab e2;have e4:=aab e3.2;rw[c];cases f;cases g;simp only[acE,Fh.mk.injEq,and_true];exact⟨e3.1,e4.1,e4.2,a⟩
def DM{g:Gr}(h:Ht g){ss:List Sg}{fs:List Fh}(o1:qx ss)(o2:iM fs)(e:i_ g=ss.map n9++fs.flatMap A9):ss=g.sg/\fs=g.fm.map qp:=by
 have c:ss.length=g.sg.length:=tI e (λj hj=>by
  obtain⟨s,_,es⟩:=uR hj;exact⟨_,es,rfl⟩) (λl hl=>by
  obtain⟨f,r,_,_,ef,_⟩:=mh h;rw[ef]at hl;rw[<-aaq hl];show some ("form" : Str)≠some ("sign" : Str);decide)
 have e2:=List.append_inj (e.symm.trans (nI g)) (by rw[aad,aad,c]);exact⟨qY o1 (λs hs=>rj (h.sg s hs)) e2.1,tR o2 (xY h.fm) e2.2⟩
def tJ{N G:Addr}{g:Gr}(h:Ht g){Q:VK}{E:XK}(q:∀v H',b6 H H'->K2 H' g v->Q v H'):mE N G [.str (GL (i_ g))] H Q E:=by
 obtain⟨hg,eg⟩:=tO λf hf=>(h.fm f hf).ok;refine⟨i_ g,rfl,(jM h).ok,λss fs o1 o2 e=>?_,λn=>absurd (DL h) n⟩;obtain⟨rfl,rfl⟩:=DM h o1 o2 e;refine⟨λ_ v H' s gi=>q v H' s (by rw[eg]at gi;exact gi),λj f i r hf gt hr gr=>⟨λnt=>?_,λng=>?_⟩⟩
 ·exact absurd (Fi h (by rw[e];exact jK (aak hf) (aak hr))) nt
 ·exact absurd ng (gf h (by rw[e];exact jK (aak hf) (aak hr)))
def Q_(K:W.Frag):Sp:=λvs H Q _=>∃(a:Addr)(ns:List Int),vs=[.ref a]/\c_ K H a (ns.map V.int)/\ns.length<=63/\∀H',Q (.bl true) H'
theorem Te(X:Tx K w mg T):d9 P w K mg base E6 120 T.law T.MA ["_law_script"] (Q_ K):=by
 have YX:=(zL (P:=P) (w:=w) (base:=base) X).mono (show 1<=119 by decide);have Y2:=(vC (P:=P) (w:=w) (base:=base) X).mono (show 5<=119 by decide);have HD:=(jx (P:=P) (w:=w) (base:=base) X).mono (show 1<=119 by decide);have Y4:=(sq (P:=P) (w:=w) (base:=base) X).mono (show 3<=119 by decide);have Za:=(zA (P:=P) (w:=w) (base:=base) X).mono (show 9<=119 by decide);have PH:=(rX (P:=P) (w:=w) (base:=base) X).mono (show 8<=119 by decide);have I_:=(zy (P:=P) (w:=w) (base:=base) X 17).mono (show 19<=119 by decide);refine X.Sx.G9 C2 (λvs H Q E h=>?_) (λj8 A outer s H vs Q E hr h=>?_)
 ·obtain⟨_,_,rfl,_⟩:=h;rfl
 obtain⟨a0,ns,rfl,hS,h63,k⟩:=h;refine⟨_,(af (aD (i:=1) C2.nd rfl oI1 (aB YX hr rfl X.VS X.RY.kp X.Yi .nil bu (d5 (qv 0) (d_ aj ac)))) (af (aD (i:=2) C2.nd rfl oI1 (bc bT (qv 1) bE (bi aj))) (af (kt (aB Y2 hr rfl X.VX X.R7.kp X.Yn .nil bu (d5 (qv 1) ac)) (CL rfl (aW (aM (i:=3) C2.nd rfl oI1) (aW (aM (i:=4) C2.nd rfl oI1) cg)))) (af (aD (i:=5) C2.nd rfl oI1 (aB HD hr rfl X.IJ X.Ig.kp X.I0 .nil bu (d5 (qv 4) ac))) (af (cF abc rfl (cK (qv 2)) (aM (i:=6) C2.nd rfl oI1) (af (aD (i:=7) C2.nd rfl oI1 (ar aV (ar eS (qv 6) aj) aj)) (af (aD (i:=8) C2.nd rfl oI1 (ar aV (qv 7) aj)) (af (be (cE (cr (aB Za hr rfl X.V5 X.Se.kp X.Yy .nil bu (y8 (aB Y4 hr rfl X.VY X.R8.kp X.Yp .nil bu (d5 (qv 4) (d5 (qv 8) (o7 (ar bh (qv 7) aj) ac)))) (qaM (cR bM (qv 8) aj (aK _)) ac))))) (ao (aH dZ)) aI) (ao (be (cE (cr (aB I_ hr rfl X.Oa X.K8.kp X.Pu .nil bu (y8 (aB PH hr rfl X.Rn X.PN.kp X.RR .nil CZ (d5 (qv 5) ac)) (d5 (qv 3) ac))))) (ao (aH dZ)) aI)))))) (ao (aH dZ))))))),?_⟩;dsimp only[cq];refine⟨_,rfl,a0,ns,rfl,hS,h63,λD cs H1 s1 nD hD lc bd=>?_⟩;refine⟨_,rfl,_,rfl,D,_,rfl,c_.of hD,λC hC=>?_⟩;have ecs:kZ (cs.map V.int) none (some 5)=(cs.take 5).map V.int:=by rw[show(some 5:Option Int)=some ((5:Nat):Int)from rfl,cT,ab7]
 rw[ecs];have s2:=ae hC (.lst ((cs.take 5).map V.int));have hC2:=aa (H:=H1) (a:=C) (o:=.lst ((cs.take 5).map V.int));have nCD:C≠D:=λe=>by rw[e,hD]at hC;cases hC
 have LU:=s2 _ _ hD;generalize upd H1 C (.lst ((cs.take 5).map V.int))=H2 at s2 hC2 LU⊢;refine⟨_,rfl,D,cs,rfl,LU,lc,bd,λg r ll us v H3 kp gi gd s_ hl A3=>?_⟩;refine⟨r,_,rfl,c_.of s_,rfl,_,_,rfl,_,_,rfl,rfl,?_⟩;have hC3:=kp C _ (by simpa using nCD) hC2;have ok:=(jM gd).ll;refine⟨_,rfl,ll,us,i_ g,rfl,hl,A3,ok,λH4 s4=>?_⟩;have hC4:=s4 _ _ hC3;have hl4:=s4 _ _ hl;have M9:g9 (B0 H4) (i_ g) us:=A3.imp λa v h=>h.same s4;have gi4:=gi.same (bG s4);dsimp only[j4];refine⟨_,rfl,C,rfl,⟨_,c_.of hC4⟩,dQ (K:=K) (a:=C) (xs:=(cs.take 5).map V.int) (λi σ H'=>(∃x6 x7 x8,σ=[some (.ref a0),some (.ref D),some (.ref C),some v,some (.ref ll),some (.str (GL (i_ g))),x6,x7,x8])/\b6 H4 H') ⟨⟨_,_,_,rfl⟩,b6.refl _⟩ (λi σ H' _ ⟨_,e⟩=>c_.of (e _ _ hC4)) ?_ ?_⟩
 ·rintro i y σ H5 hy ⟨⟨x6,x7,x8,rfl⟩,s5⟩;rw[aaI]at hy;obtain⟨c,hc,rfl⟩:=Option.map_eq_some_iff.mp hy;obtain⟨c0,c1⟩:=bd c (aa1 (aak hc));refine⟨_,rfl,_,_,rfl,rfl,.inr ⟨by decide,by decide⟩,_,_,rfl,rfl,(by show(0:Int)<2147483647;decide),?_⟩;dsimp only[j4];have n0:=aar (c*48271) (show(2147483647:Int)≠0 by decide);have n1:=aan (c*48271) (show(0:Int)<2147483647 by decide);generalize c*48271%2147483647=nu at n0 n1⊢;have w0:=aar nu (show(20:Int)≠0 by decide);have w1:=aan nu (show(0:Int)<20 by decide);refine⟨_,rfl,_,_,rfl,rfl,(by show(0:Int)<20;decide),?_⟩;dsimp only[j4];have hus5:g9 (B0 H5) (i_ g) us:=M9.imp λa v h=>h.same s5;refine⟨_,rfl,_,rfl,_,rfl,_,_,rfl,rfl,⟨by decide,by decide⟩,ll,us,g,nu%20,nu / 20,rfl,s5 _ _ hl4,hus5,gd,w0,w1,by lia,by lia,λLL H6 s6 rn rg=>?_⟩;have s46:=s5.trans s6;refine⟨_,rfl,rfl,LL,decide (V.int (nu%20)=V.int 19),rfl,?_,λH7 s7=>⟨_,rfl,fH ?_⟩⟩
  ·by_cases e:nu%20=19
   ·exact .inr ⟨aa0 (aaN V.int e),rg e⟩
   ·exact .inl ⟨aaH λz=>e (V.int.inj z),rn e⟩
  have s47:=s46.trans s7;refine⟨_,rfl,tJ gd λv2 H8 s8 gi8=>?_⟩;have Rb:=s47.trans s8;exact⟨_,rfl,v2,v,rfl,Fz gd.ok gi8 (gi4.same (bG Rb)),λH9 s9=>⟨_,rfl,fH ⟨⟨_,_,_,rfl⟩,Rb.trans s9⟩⟩⟩
 ·rintro σ H5 ⟨⟨x6,x7,x8,rfl⟩,s5⟩;exact k _
end Je
namespace Je
open PySem L2
end Je
open PySem PySem.W PyProof.Rows
set_option maxRecDepth 100000 in
set_option maxHeartbeats 0 in
theorem PySem.Challenge.cw_leafsay_k15_grammars_refused_holds : PySem.Challenge.rw_leafsay_k15_grammars_refused.Holds := by
 w_on;o_law;k_head;(case hw=>w_witness2)
 k_fill
 refine L2.NB (l:=PySem.Challenge.rw_leafsay_k15_grammars_refused) (n:=63) (k:=120) (x:="_law_script") (CX:=L2.E6) (sp:=Je.Q_) rfl (by decide) rfl ⟨rfl,by decide,by decide,rfl⟩ (fun w h Y=>PySem.W.kIn_of Y) ?F (fun K H a ns hl _ hS=>⟨a,ns,rfl,hS,hl,fun _=>rfl⟩) (fun _ _ _ _ z=>z)
 case F=>
  intro w mg fa h KX G WI
  have T:∃ T:Je.Q0,Je.Tx (L2.KOf KX) w mg T:=by
   dsimp only[L2.KOf]
   apply Je.Vg KX G
   all_goals first | (k_is;done) | (kit_is;done) | (k_exc;done) | (k_keys;done) | rfl | decide
  obtain⟨T,TX⟩:=T
  have e0:=WI.symm.trans TX.Wl
  cases e0
  obtain⟨oc,od,kV,doc,pm,an,j8,ct,PV,efd,_,_⟩:=TX.Sx.ex
  refine⟨T.MA,fun s u=>?_,fun base _ _=>Je.Te TX⟩
  rw[efd]
  exact .of_eq rfl
