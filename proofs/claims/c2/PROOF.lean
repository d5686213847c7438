import PyProof.Rows.All
import Open.SpecLaws
import KE.OsHead
import KE.OsGo
import KE.KSortTupG
import KE.KDictSum
import KE.KLam
import KE.KStateDown
import PySem.Challenge.RW_fighterbreeding_s01_answers
set_option Elab.async false
set_option linter.all false
set_option maxRecDepth 100000
namespace PySem.W.Fast
def tw10633613403895073116:=True
def tw2856883744143666749:=True
def tw15300643235848975790:=True
def tw17056488141324311208:=True
def tw12994751068939847132:=True
def tw14614116342430524792:=True
def tw4190760528964479242:=True
def tw11288505974778204480:=True
def tw16782295249844927994:=True
def tw1807667038309465489:=True
def tw8681090776534890919:=True
def tw13155622138385828399:=True
def tw6297558499361806708:=True
def tw9963804329144552800:=True
def tw15978730222769262563:=True
def tw9530907146086595227:=True
def tw1690209362466918195:=True
def tw16873248654528981265:=True
def tw14708319492611006713:=True
def tw8588366902501440176:=True
def tw14689599339386262157:=True
def tw13139742932070106704:=True
def tw11723106680272710341:=True
def tw4191526148788193304:=True
def tw14237349209497519380:=True
def tw15911491254763787351:=True
def tw10892692744508847983:=True
def tw17958289801299194292:=True
def tw9205700622754541665:=True
def tw1512892809788580244:=True
def tw15712037668599594807:=True
def tw6551816589730504145:=True
def tw4896414405345331438:=True
def tw2977448817432863119:=True
def tw4854913086031295348:=True
def tw5723709281358477198:=True
def tw1257607738561684466:=True
def tw1829114903988964971:=True
def tw12467763474811102443:=True
def tw16168272392801651831:=True
def tw10619787435392450419:=True
def tw345155698894374314:=True
def tw1829019935565776464:=True
def tw8840141489110917729:=True
def tw6287814843726258883:=True
def tw8729213987528089566:=True
def tw5565192788897698486:=True
def tw13092081946641197157:=True
def tw4949338377529267161:=True
def tw12562099397482878815:=True
def tw10498168464846992599:=True
def tw11430703679939586474:=True
def tw59681108892316168:=True
def tw4998320546076762916:=True
def tw17244784208614703589:=True
def tw11694060223603468107:=True
def tw6080286566809998090:=True
def tw12514194924409833877:=True
def tw6763671492777421489:=True
def tw18367937474940444947:=True
def tw5209943533700929950:=True
def tw11589727377325977583:=True
def tw17796916955384862391:=True
def tw2832144096225689568:=True
def tw15928493461603742189:=True
def tw2241332513293215216:=True
def tw5414818458651502421:=True
def tw14261183966524110121:=True
def tw1208961584537370824:=True
def tw4820946366562552834:=True
def tw4336031886528409530:=True
def tw11343198862754869347:=True
def tw7849527463473135699:=True
def tw1750588657450953570:=True
def tw7258844709644173496:=True
def tw17822537278526661657:=True
def tw10728105812140851995:=True
def tw629259871785501288:=True
def tw18237074334077017147:=True
def tw18118490991910401449:=True
def tw8798843366958074687:=True
def tw11287638458232410853:=True
def tw13852674129593266720:=True
def tw6488981769275377955:=True
def tw2265792627065745452:=True
def tw11992894606794852504:=True
def tw8796295290100716325:=True
def tw1082298763354657369:=True
def tw518955182591015226:=True
def tw538234824911129864:=True
def tw5613132557331054341:=True
def tw41012247302523908:=True
def tw16909852046960692909:=True
def tw10643599795402835383:=True
def tw3137990709193394408:=True
def tw8127088963690243580:=True
def tw1104737669479945634:=True
def tw9527750327921180879:=True
def tw4014570794565403042:=True
def tw11802837504331344195:=True
def tw6324956062833439874:=True
def tw13373234320112084650:=True
def tw1316694395966461543:=True
def tw13406145404574733793:=True
def tw1282104810946969512:=True
def tw11670125881888486137:=True
def tw15166850007732108748:=True
def tw7306305679231927276:=True
def tw14441463909366981214:=True
def tw14543143499629595069:=True
def tw16202510249353185578:=True
def tw1556322458849266159:=True
def tw12261713870221271909:=True
def tw4161868577506894094:=True
def tw13987595446740902446:=True
def tw9877087277127831564:=True
def tw4445783999384547959:=True
def tw9215653066447323622:=True
def tw13242684044178401988:=True
def tw12472809121064009799:=True
def tw9057136866111639436:=True
def tw6497199948596378514:=True
def tw7955883799817195945:=True
def tw18433067028463070464:=True
def tw11067753417726420377:=True
def tw14383966243118605498:=True
def tw541458178833448911:=True
def tw10467140102819026607:=True
def tw12669617341279528041:=True
def tw6000526796859193717:=True
def tw4775329406193062708:=True
def tw10928875357847357236:=True
def tw13550013865370673694:=True
def tw17652482861048735420:=True
def tw6070153187669005745:=True
def tw4110180243450281666:=True
def tw13350387469898373876:=True
def tw9984652151872838311:=True
def tw6992397094652137021:=True
def tw6479301426100651762:=True
def tw3997631186921560014:=True
def tw4187269455356488722:=True
def tw15992083742869103586:=True
def tw8929131632945794588:=True
def tw1583052995602696722:=True
def tw5032634861270752492:=True
def tw10895660300275984024:=True
def tw11636059529697131438:=True
def tw10868658118462504574:=True
def tw7604644400281467833:=True
def tw9680665147705837420:=True
def tw12330724141906413608:=True
def tw1954597738624216349:=True
def tw14033911132113118550:=True
def tw5623554040494531904:=True
def tw15102717926330539588:=True
def tw7766820740409255849:=True
def tw16292599148358891269:=True
def tw2481929203568060367:=True
def tw1469681754045572647:=True
def tw3340757059563387053:=True
def tw18359838689326742301:=True
def tw1252982920459798199:=True
def tw18316183945664952791:=True
def tw3372225856166688928:=True
def tw15872400493334884751:=True
def tw11820882579646252662:=True
def tw2711130383172488642:=True
def tw4365326079726977205:=True
def tw15469607478671542296:=True
def tw37177990559255266:=True
def tw6618515727464858856:=True
def tw11021820966151139986:=True
def tw17867249870046633653:=True
def tw11908008635955285617:=True
def tw14289273330737075162:=True
def tw2790518511855774036:=True
def tw5977950909263260912:=True
def tw15942674644580203172:=True
def tw2742310773455095135:=True
def tw16708771705799309839:=True
def tw1758997142753071536:=True
def tw17422255829511478394:=True
def tw6427420898036714006:=True
def tw6274018223532830863:=True
def tw15775244212023277187:=True
def tw4584784445212296238:=True
def tw8059076953744420650:=True
def tw12222929743509652300:=True
def tw7184230054500277584:=True
def tw6154726242201704189:=True
def tw13149467010932665695:=True
def tw9241068104517178624:=True
def tw10653664465641270763:=True
def tw7447059212646495198:=True
def tw9395151467275183021:=True
def tw10763382548137261193:=True
def tw3978144482122291969:=True
def tw3212554161436313104:=True
def tw5226386578752241783:=True
def tw14057430899626060576:=True
def tw16069941230287327145:=True
def tw4741944792308626080:=True
def tw12095472538964915178:=True
def tw1312136896095097667:=True
def tw11112166534060273826:=True
def tw18316418903001509695:=True
def tw3753017695989509022:=True
def tw7039703733566454793:=True
def tw9273169931505928192:=True
def tw658874706404603973:=True
def tw6318072738741563902:=True
def tw17203251675981886452:=True
def tw6623825389701655068:=True
def tw8437104300607102614:=True
def tw5597788016382879595:=True
def tw5366122299830413222:=True
def tw16099998338571883445:=True
def tw14968872632710092329:=True
def tw8903952548129340010:=True
def tw3767930286661056461:=True
def tw4749191268397391277:=True
def tw14404044692592575382:=True
def tw18057353627431742126:=True
def tw11499697890075321242:=True
def tw4034445159775590226:=True
def tw945450684395296052:=True
def tw16215160060409248104:=True
def tw1664175989899608012:=True
def tw9416025658016649192:=True
def tw1430325844137136785:=True
def tw16846797829633522476:=True
def tw13317930218019559081:=True
def tw13627566212668946635:=True
def tw17908142925061566478:=True
def tw17713422706421918980:=True
def tw677422146635003912:=True
def tw1301342540400667171:=True
def tw12282399455508719135:=True
def tw16067051050313522566:=True
def tw18070800167203706667:=True
def tw3861610424869459091:=True
def tw15504229717290483520:=True
def tw2126224911817954595:=True
def tw3456328532780537481:=True
def tw11386170541656342023:=True
def tw15249136474527787245:=True
def tw802126892628767203:=True
def tw14869535949825770587:=True
def tw7111380278652349511:=True
def tw2953718203041578048:=True
def tw14651650855172892564:=True
def tw1597864556680704705:=True
def tw10997848586945020483:=True
def tw16893955208353457324:=True
def tw15495032577588692745:=True
def tw14498070471663310953:=True
def tw11840595029341321833:=True
def tw1983896436748725935:=True
def tw14261444789449099989:=True
def tw8870246162860088934:=True
def tw3345652349608550410:=True
def tw321779254383062352:=True
def tw14110744104814347375:=True
def tw5472634515745423960:=True
def tw14177938322805879966:=True
def tw16357341351650343125:=True
def tw18217701308679675876:=True
def tw16366289556652528256:=True
def tw5042029219097494431:=True
def tw9416156799651976604:=True
def tw12832069179697530593:=True
def tw5610555167407112725:=True
def tw15135695537653456072:=True
def tw11245162807892011718:=True
def tw8525386177573393018:=True
def tw1526678524680634897:=True
def tw3249120995949483735:=True
def tw4151654807771693074:=True
def tw17081042482545384110:=True
def tw10494728915906130345:=True
def tw12603425377197817612:=True
def tw2330268928346846409:=True
def tw8659503932788723253:=True
def tw18225337921090453510:=True
def tw3873076287675685216:=True
def tw9567222717837260897:=True
def tw4283936079837296541:=True
def tw216398318884361623:=True
def tw10842790978338469020:=True
def tw12495961294838065820:=True
def tw411199423340723582:=True
def tw707474572732431706:=True
def tw5844228886783126944:=True
def tw999675545708134471:=True
def tw13013964810088754617:=True
def tw7717410802292134879:=True
def tw15083492812968754256:=True
def tw3788020386875991702:=True
def tw2240291821606043703:=True
def tw12924985592813710767:=True
def tw9553098999792779163:=True
def tw10858201917094010307:=True
def tw6614206397700748723:=True
def tw25244538368485765:=True
def tw17052898528667570050:=True
def tw12317823256203315065:=True
def tw17708958958831368990:=True
def tw18061558042273033452:=True
def tw9049911819488572489:=True
def tw12158533180649815619:=True
def tw7487235460118656994:=True
def tw4750071943694673577:=True
def tw10195304227873907353:=True
def tw8266871828171911790:=True
def tw4527665931635079025:=True
def tw10936146169428724135:=True
def tw1322225967136772048:=True
def tw16164967827884393265:=True
def tw9681038750716347815:=True
def tw11138337279151022001:=True
def tw684010668810957999:=True
def tw16007383229245862161:=True
def tw11221733082237552283:=True
def tw13933114762468876847:=True
def tw3864373561169900319:=True
def tw5876627219241732654:=True
def tw961900602127738136:=True
def tw8719862663247613537:=True
def tw12989691089654561088:=True
def tw12292101107683281774:=True
def tw11547364102393255339:=True
def tw11370180380162114285:=True
def tw15714545770500973584:=True
def tw7696519841338064044:=True
def tw14913502806881475794:=True
def tw10236707163793084561:=True
def tw7911678451411686859:=True
def tw2015346599180503031:=True
def tw14847028588642133058:=True
def tw3026315256020811413:=True
def tw17757357331030379072:=True
def tw7632589318915077059:=True
def tw14766609454264414247:=True
def tw12580623238293470131:=True
def tw13159252290050942484:=True
def tw1491811708028825430:=True
def tw5792176624623058513:=True
def tw5344046351678580038:=True
def tw2213214177961384710:=True
def tw9123942014075662388:=True
def tw10761686869636909290:=True
def tw15215506597497443100:=True
def tw3887225191625782357:=True
def tw8668505366906044266:=True
def tw16159197470864529816:=True
def tw16142434811409229676:=True
def tw11403539411194130018:=True
def tw3639274408604027463:=True
def tw14262155210831754483:=True
def tw12010759807943212441:=True
def tw18287043498007640333:=True
def tw13369638851903052713:=True
def tw12867038884112496814:=True
def tw9161544793202873412:=True
def tw13064803570722230658:=True
def tw8212001851513676359:=True
def tw417950186111693725:=True
def tw7839746944299428550:=True
def tw7960469959990134254:=True
def tw11605247481266213033:=True
def tw7770373881239220698:=True
def tw8103841443087681939:=True
def tw10170969705602355027:=True
def tw10473592805897426925:=True
def tw6111789266522386999:=True
def tw4962813854106095936:=True
def tw10515388790598776160:=True
def tw2354748969870081731:=True
def tw11544656667370959738:=True
def tw16935003465332142763:=True
def tw12588010415104919108:=True
def tw5993514262385093681:=True
def tw14749410873499064203:=True
def tw16777347964378622794:=True
def tw11873018576999883536:=True
def tw3340180511641926145:=True
def tw421904888264521829:=True
def tw10025825299185684660:=True
def tw12309630322635619118:=True
def tw5535346701667604651:=True
def tw896759166281824020:=True
def tw9813163744536624295:=True
def tw4638943574343488577:=True
def tw3129716180295593021:=True
def tw1461333346019832662:=True
def tw1717367325177877411:=True
def tw1785611270582649239:=True
def tw2152643189655546529:=True
def tw14219869336269229264:=True
def tw548056781103823171:=True
def tw11641799545500196356:=True
def tw8246530871509295926:=True
def tw2393166709920797541:=True
def tw11755291691310603865:=True
def tw10384892311435557867:=True
def tw1203175548966270839:=True
def tw17070115787214306867:=True
def tw11166233083616225523:=True
def tw12767493347889353311:=True
def tw16197690254594185021:=True
def tw1411581550319636917:=True
def tw12717283466033011879:=True
def tw15019173370871623837:=True
def tw12079566219740687707:=True
def tw12901412773155671736:=True
def tw2707984727445196089:=True
def tw577208539187204115:=True
def tw9003407254920793111:=True
def tw8248808723185131947:=True
def tw9255933720445370535:=True
def tw5457285097250617663:=True
def tw11342838487779043841:=True
def tw1162828496038414933:=True
def tw12993290782417594412:=True
def tw17909157430806933148:=True
def tw8270923958753607702:=True
def tw16561194607256253959:=True
def tw17054989879940397624:=True
def tw4773529484080091775:=True
def tw82220272187903264:=True
def tw16861071272890153449:=True
def tw10404698134639653700:=True
def tw2043603598284416299:=True
def tw7159222621541451557:=True
def tw2076985730046631317:=True
def tw17387916055787289391:=True
def tw16639572370050833909:=True
def tw6904528561262958235:=True
def tw18327895102947461129:=True
def tw5338407310914310046:=True
def tw11208231919698150510:=True
def tw17300417287307743550:=True
def tw5626684821257589888:=True
def tw980117926636904527:=True
def tw17879251864025982536:=True
def tw10421067996885946923:=True
def tw4887855549392491992:=True
def tw6876256248451800597:=True
def tw13376122423808775864:=True
def tw7540444071679043568:=True
def tw14064308296315403843:=True
def tw8051439494501050610:=True
def tw5373870602663634737:=True
def tw13417705183549928166:=True
def tw12325252521696926681:=True
def tw10644395652078965537:=True
def tw2510626629329529898:=True
def tw6072532242774102006:=True
def tw4470844348280337933:=True
def tw11457676773902804324:=True
def tw11763144278245716184:=True
def tw11227716677505366747:=True
def tw2124485195322597221:=True
def tw17198100997107125953:=True
def tw8787610205704992185:=True
def tw16145927382530962159:=True
def tw1073474251101189047:=True
def tw9456748970688868610:=True
def tw17069284882475131312:=True
def tw12712705112309936378:=True
def tw4858629352588385115:=True
def tw10576182162126143421:=True
def tw9066079250474427107:=True
def tw10636899260971590106:=True
def tw16150912635456484983:=True
def tw13383161492404821962:=True
def tw1446702611191563644:=True
def tw11494587449344896640:=True
def tw13685370318249312477:=True
def tw7191056781511688010:=True
def tw2965080797052919965:=True
def tw5233862985999342294:=True
def tw16862817948083629905:=True
def tw10313779908940424227:=True
def tw16970059573228461639:=True
def tw6578432771642939917:=True
def tw557660048309711851:=True
def tw14008135695420341985:=True
def tw9481517643683961933:=True
def tw15603996638577915188:=True
def tw11079284403003463285:=True
def tw5215067505472029209:=True
def tw202577223194845671:=True
def tw642562027110488289:=True
def tw14083012522654158319:=True
def tw9060084001256362037:=True
def tw10680520239942313240:=True
def tw6579586413271926960:=True
def tw17737944468892490044:=True
def tw7910060597789189641:=True
def tw10623808841031004505:=True
def tw7975205445888325044:=True
def tw6689658575966815817:=True
def tw2556299272583058779:=True
def tw9794533114776596688:=True
def tw15803705518045186877:=True
def tw1112267265703346890:=True
def tw7234488319834749693:=True
def tw10509736759908165085:=True
def tw5315277033370228895:=True
def tw5844875672663992518:=True
def tw793013390720583092:=True
def tw2684226928294440307:=True
def tw1699914401437406845:=True
def tw8039538235851952777:=True
def tw10760909760052296133:=True
def tw642180277054633386:=True
def tw1957090502437602674:=True
def tw3139090028001749003:=True
def tw4504816064595489207:=True
def tw1609557236649914865:=True
def tw333235258301353317:=True
def tw14459610485958783443:=True
def tw2371258548909915138:=True
def tw5399429775291274733:=True
def tw6574163169685684968:=True
def tw4057761010891603048:=True
def tw18129735099626938164:=True
def tw5191938530483667922:=True
def tw7712243839542645491:=True
def tw13399960868773494593:=True
def tw15106914466782038475:=True
def tw7045745088518462213:=True
def tw11345924615623657197:=True
def tw4887837328349789937:=True
def tw12162504747946163803:=True
def tw12537452082582511906:=True
def tw14772356561266005023:=True
def tw5126975223100830076:=True
def tw11397231674409716526:=True
def tw627819106382147713:=True
def tw8158260599737923356:=True
def tw9728890280027250067:=True
def tw5307854265530768005:=True
def tw66978472705250958:=True
def tw3163945688044370336:=True
def tw72087275167707091:=True
def tw138668134586336204:=True
def tw16830293204818657170:=True
def tw1945535743694760709:=True
def tw17771535065677905547:=True
def tw4610604698650240869:=True
def tw6567261054371194065:=True
def tw17249080130973748073:=True
def tw13244871704608936344:=True
def tw3143164708906181726:=True
def tw14350025510362565649:=True
def tw12028308665605826328:=True
def tw2174113100863223198:=True
def tw10351084716585575825:=True
def tw10556303036680813508:=True
def tw14197147839593069925:=True
def tw18208858910024731733:=True
def tw10117004005159803754:=True
def tw9476352279806186324:=True
def tw5280306965009884832:=True
def tw6371674811411367043:=True
def tw14094702845303980564:=True
def tw309591393110431928:=True
def tw262688188414004652:=True
def tw9254860945294674923:=True
def tw10767587517718834848:=True
def tw18317248817394507094:=True
def tw13643540217582381088:=True
def tw4376324583341632887:=True
def tw16625454495957229436:=True
def tw11175556778666983515:=True
def tw3622390628844679160:=True
def tw12019640746867949594:=True
def tw2848158209646448811:=True
def tw416812152179136434:=True
def tw6785967558427919573:=True
def tw16410140331494787303:=True
def tw9375685275875104807:=True
def tw9773922055398219336:=True
def tw5480889872412640535:=True
def tw8574460491372451822:=True
def tw9735788125759123622:=True
def tw6466308561013138376:=True
def tw2488257909776393786:=True
def tw3177800299705102988:=True
def tw16146892228703720598:=True
def tw10653527840915831302:=True
def tw12093804469353845854:=True
def tw3170311517011031473:=True
def tw9904326386385023234:=True
def tw13368763918863696702:=True
def tw12643686956751224907:=True
def tw12605557076852119328:=True
def tw8991162332107872466:=True
def tw849205208525677962:=True
def tw8818196066187290118:=True
def tw459729144372522288:=True
def tw2620811461675673992:=True
def tw14039610757861158564:=True
def tw3066355313179016725:=True
def tw8397119604094987038:=True
def tw717908403734406764:=True
def tw6426789797049374999:=True
def tw9448575059623559343:=True
def tw4307722014998609064:=True
def tw534900059690965241:=True
def tw7635571074732072788:=True
def tw6528431891155007779:=True
def tw8811969301825253643:=True
def tw6500637168103860224:=True
def tw16600940876828094968:=True
def tw947938793123887315:=True
def tw13382438793021503666:=True
def tw14680770187805243502:=True
def tw9863054573061438762:=True
def tw9287376264717181381:=True
def tw2240407996507787566:=True
def tw10881578664454587714:=True
def tw9657105011793792998:=True
def tw9923978555390020277:=True
def tw8185001561972642217:=True
def tw14371797951127987222:=True
def tw18095683470400620656:=True
def tw6223113569722147051:=True
def tw2193407497713281726:=True
def tw2154136661246300967:=True
def tw8855846940867720971:=True
def tw7816447856232478:=True
def tw13682119688309610360:=True
def tw17044048560588045733:=True
def tw6457299914554403470:=True
def tw3789696626297691260:=True
def tw8137106299062236823:=True
def tw7726161721991173920:=True
def tw2738446223497975343:=True
def tw16558879959557630139:=True
def tw11591581115120981053:=True
def tw149578394921466865:=True
def tw6061837346232585664:=True
def tw12518146976633540630:=True
def tw10409612989517082692:=True
def tw2758182551894001628:=True
def tw7004620769273590471:=True
def tw14067902923016826389:=True
def tw17374597105622109556:=True
def tw6556040302946156519:=True
def tw11025016260221967862:=True
def tw12328633652275285701:=True
def tw10531500209642152999:=True
def tw16312582965764373557:=True
def tw16690449595222001388:=True
def tw16855914141372227195:=True
def tw7356409673227421477:=True
def tw3646518075310342252:=True
def tw7333514697707710166:=True
def tw862820807187176439:=True
def tw8255808380919509238:=True
def tw3677159036603685416:=True
def tw17337152174176407685:=True
def tw16570747937898629459:=True
def tw14703833637305482739:=True
def tw10134295674239567089:=True
def tw3381745490465563901:=True
def tw10372492478070582918:=True
def tw1221013452099544260:=True
def tw7231125225705910797:=True
def tw521135301192516380:=True
def tw5420533451721974537:=True
end PySem.W.Fast
namespace L2
open PySem PySem.Spec PyProof.Rows
abbrev Key:=Sum Int Str
def CU:Key->Value->Bool
 | .inl k,v=>Value.isInt k v
 | .inr x,v=>Value.isStrOf x v
def Z6 (w:World):Key->Int
 | .inl k=>hashInt k
 | .inr x=>hashStr w x
theorem cX:∀ {k:Key} {v:Value},CU k v=true->(∃ i t,k=Sum.inl i/\v=Value.int i t)∨(∃ x t,k=Sum.inr x/\v=Value.str x t)
 | .inl i,v,h=>by
  obtain ⟨t,e⟩:=Value.isInt_shape (k:=i) (v:=v) h;exact .inl ⟨i,t,rfl,e⟩
 | .inr x,v,h=>by
  obtain ⟨t,e⟩:=Value.isStrOf_shape (x:=x) (v:=v) h;exact .inr ⟨x,t,rfl,e⟩
theorem Oh (i:Int) (t:Tok):CU (.inl i) (.int i t)=true:=by simp [CU,Value.isInt]
theorem Oi (x:Str) (t:Tok):CU (.inr x) (.str x t)=true:=by simp [CU,Value.isStrOf]
theorem UR (a b:Int):decide ((Sum.inl a:Key)=Sum.inl b)=(a==b):=by
 by_cases e:a=b
 ·subst e;simp
 ·have h:¬ (Sum.inl a:Key)=Sum.inl b:=fun q=>e (Sum.inl.inj q)
  rw [decide_eq_false h];exact (beq_eq_false_iff_ne.mpr e).symm
theorem US (a b:Str):decide ((Sum.inr a:Key)=Sum.inr b)=decide (a=b):=by
 by_cases e:a=b
 ·subst e;simp
 ·have h:¬ (Sum.inr a:Key)=Sum.inr b:=fun q=>e (Sum.inr.inj q)
  rw [decide_eq_false h,decide_eq_false e]
theorem UT (a:Int) (b:Str):decide ((Sum.inl a:Key)=Sum.inr b)=false:=decide_eq_false (fun q=>nomatch q)
theorem UU (a:Str) (b:Int):decide ((Sum.inr a:Key)=Sum.inl b)=false:=decide_eq_false (fun q=>nomatch q)
def bO (prog:Program) (w:World):PySem.KeyKind prog w Key where
 is:=CU
 hash:=Z6 w
 inj:=fun v a b ha hb=>by
  rcases cX ha with ⟨i,t,rfl,rfl⟩|⟨x,t,rfl,rfl⟩
  ·rcases cX hb with ⟨j,u,rfl,e⟩|⟨y,u,rfl,e⟩
   ·injection e with e1 _;rw [e1]
   ·exact nomatch e
  ·rcases cX hb with ⟨j,u,rfl,e⟩|⟨y,u,rfl,e⟩
   ·exact nomatch e
   ·injection e with e1 _;rw [e1]
 byValue:=fun k v h=>by
  rcases cX h with ⟨i,t,rfl,rfl⟩|⟨x,t,rfl,rfl⟩<;>rfl
 pyHash:=fun hv h=>by
  rcases cX hv with ⟨i,t,rfl,rfl⟩|⟨x,t,rfl,rfl⟩
  ·exact wpAny_pyHash_int h
  ·exact wpAny_pyHash_str h
 eqBool:=fun hu hv h=>by
  rcases cX hu with ⟨i,t,rfl,rfl⟩|⟨x,t,rfl,rfl⟩
  ·rcases cX hv with ⟨j,u,rfl,rfl⟩|⟨y,u,rfl,rfl⟩
   ·rw [UR] at h;exact wpAny_eqBool_int h
   ·rw [UT] at h;exact SeqAt.EqAt.int_str i t y u _ _ _ _ h
  ·rcases cX hv with ⟨j,u,rfl,rfl⟩|⟨y,u,rfl,rfl⟩
   ·rw [UU] at h;exact SeqAt.EqAt.str_int x t j u _ _ _ _ h
   ·rw [US] at h;exact wpAny_eqBool_str h
 «strs»:=fun k x t v h=>by
  rcases cX h with ⟨i,u,rfl,e⟩|⟨y,u,rfl,e⟩
  ·exact nomatch e
  ·injection e with e1 _
   subst e1;cases v<;>rfl
theorem AJ (prog:Program) (w:World) (i:Int) (t:Tok):(bO prog w).is (.inl i) (.int i t)=true:=Oh i t
theorem J6 (prog:Program) (w:World) (x:Str) (t:Tok):(bO prog w).is (.inr x) (.str x t)=true:=Oi x t
end L2
namespace L2
open PySem PySem.Spec PyProof.Rows
inductive V where
 |cx|bl (b:Bool)|int (i:Int)|str (x:Str)|LK (b:Array UInt8)|Zi (b:UInt64)|ref (a:Addr)|ty (n:String)
 deriving DecidableEq
def RelV:V->Value->Prop
 | .cx,u=>u=Value.none
 | .bl b,u=>u=Value.bool b
 | .int i,u=>∃ t,u=Value.int i t
 | .str x,u=>∃ t,u=Value.str x t
 | .LK b,u=>∃ t,u=Value.bytes b t
 | .Zi b,u=>∃ t,u=Value.float b t
 | .ref a,u=>u=Value.ref a
 | .ty n,u=>u=Value.type n
abbrev Vals:List V->List Value->Prop:=Paired RelV
theorem Vals.length {xs:List V} {us:List Value} (r:Vals xs us):xs.length=us.length:=Paired.length r
theorem Vals.get:∀ {xs:List V} {us:List Value} {i:Nat} {x:V},Vals xs us->xs[i]? =some x->∃ u,us[i]? =some u/\RelV x u
 |_,_,_,_,.nil,e=>by simp at e
 |_,_,0,_,.cons r _,e=>by simp at e;subst e;exact ⟨_,rfl,r⟩
 |_,_,i+1,x,.cons _ t,e=>by
  obtain ⟨u,h1,h2⟩:=Vals.get (i:=i) (x:=x) t (by simpa using e);exact ⟨u,by simpa using h1,h2⟩
theorem Vals.set {x:V} {u:Value} (r:RelV x u):∀ {xs:List V} {us:List Value} (i:Nat),Vals xs us->Vals (xs.set i x) (us.set i u)
 |_,_,_,.nil=>.nil
 |_,_,0,.cons _ t=>.cons r t
 |_,_,i+1,.cons q t=>.cons q (Vals.set r i t)
theorem Vals.append:∀ {xs ys:List V} {us ws:List Value},Vals xs us->Vals ys ws->Vals (xs++ys) (us++ws)
 |_,_,_,_,.nil,s=>s
 |_,_,_,_,.cons r t,s=>.cons r (Vals.append t s)
theorem Vals.take:∀ {xs:List V} {us:List Value} (n:Nat),Vals xs us->Vals (xs.take n) (us.take n)
 |_,_,0,_=>.nil
 |_,_,_+1,.nil=>.nil
 |_,_,n+1,.cons r t=>.cons r (Vals.take n t)
theorem Vals.drop:∀ {xs:List V} {us:List Value} (n:Nat),Vals xs us->Vals (xs.drop n) (us.drop n)
 |_,_,0,r=>r
 |_,_,_+1,.nil=>.nil
 |_,_,n+1,.cons _ t=>Vals.drop n t
def wA:Option V->Option Value->Prop
 |some v,some u=>RelV v u
 |none,none=>True
 |_,_=>False
def KV {κ:Type}:List (κ×V)->List (κ×Value)->Prop:=Paired fun (p:κ×V) (q:κ×Value)=>p.1=q.1/\RelV p.2 q.2
def kV:Key->V
 | .inl i=>.int i
 | .inr x=>.str x
inductive HO where
 |lst (xs:List V)
 |tup (xs:List V)
 |dK (kvs:List (Key×V))|dT (kvs:List (List Key×V))
 |set (S:Int->Bool) (n:Nat)
 |ins (C dx:Addr) (fs:List (Str×V))
 |own (x:Addr)
 |xd (fs:List (Str×V))
 |met (f x:Addr)
 |TM (lo hi:Int)
 |GK (o:Obj) (u:HO)
 |CC (ps:Array Value)
 |ext (φ:Heap->Prop)
abbrev Hp:=Addr->Option HO
def upd (H:Hp) (a:Addr) (o:HO):Hp:=fun b=>if b=a then some o else H b
theorem ah {H:Hp} {a:Addr} {o:HO}:upd H a o a=some o:=by unfold upd;rw [if_pos rfl]
theorem az {H:Hp} {a b:Addr} {o:HO} (h:b≠a):upd H a o b=H b:=by unfold upd;rw [if_neg h]
theorem RQ {H:Hp} {a:Addr} {o u:HO}:upd (upd H a o) a u=upd H a u:=by
 funext b;unfold upd;split<;>rfl
theorem TN {H:Hp} {a b:Addr} {o u:HO} (h:H a=some o) (h':H b=some u) (d:o≠u):a≠b:=by
 intro e;subst e;rw [h] at h';exact d (Option.some.inj h')
theorem aw {H:Hp} {a b:Addr} {o:HO} (h:H a=some o) (h':H b=none):a≠b:=by
 intro e;subst e;rw [h] at h';cases h'
section
variable (P:Program) (w:World)
def cJ (H:Hp) (h:Heap) (a:Addr):HO->Prop
 | .lst xs=>xs.length<=sizeLine/\∃ (its:List Value) (n:Nat),Vals xs its/\h.get? a=some {cls:= .type "list",data:= .seq its.toArray n}
 | .tup xs=>xs.length<=sizeLine/\∃ its:List Value,Vals xs its/\IsTup h a its.toArray
 | .dK kvs=>kvs.length<=sizeLine/\(a==sysModules)=false/\∃ vs,KV kvs vs/\h.DictOf (bO P w) a vs
 | .dT kvs=>kvs.length<=sizeLine/\(a==sysModules)=false/\∃ xs:List (List Key×Addr×Value),
   Paired (fun (p:List Key×V) (q:List Key×Addr×Value)=>p.1=q.1/\H q.2.1=some (.tup (p.1.map kV))/\RelV p.2 q.2.2) kvs xs/\
   ∃ o es ep,h.get? a=some o/\o.ExactDict/\o.data=.dict es ep/\es.toList=xs.map (entryOfKey (tupleKind (bO P w)))/\(xs.map (·.1)).Nodup
 | .set S n=>h.SetOf (intKind P w) a S n
 | .ins C dx fs=>H dx=some (.own a)/\fs.length<=1000/\dx≠a/\h.get? a=some (PySem.W.instObj C dx)/\
   ∃ mA,h.Ns1 dx mA/\(∀ f,wA (fs.lookup f) (mA f))/\PySem.Within mA (fs.map (·.1))
 | .own _=>∃ o,h.get? a=some o
 | .xd fs=>∃ mA,h.Ns1 a mA/\∀ f,wA (fs.lookup f) (mA f)
 | .TM lo hi=>∃ t u v,h.get? a=some {cls:= .type "range",data:= .fields #[.int lo t,.int hi u,.int 1 v]}
 | .GK o u=>h.get? a=some o/\cJ H h a u
 | .CC ps=>h.get? a=some {cls:= .none,data:= .fields ps}
 | .met f x=>h.get? a=some (PySem.W.methodObj (.ref f) (.ref x))
 | .ext φ=>φ h/\(∃ o,h.get? a=some o)/\∀ h1 h2:Heap,φ h1->(∀ o,h1.get? a=some o->h2.get? a=some o)->φ h2
def rY (H:Hp) (h:Heap):Prop:=∀ a o,H a=some o->cJ P w H h a o
end
section
variable {P:Program} {w:World} {H H':Hp} {h h':Heap} {a:Addr} {o:HO}
theorem cJ.lt (x:cJ P w H h a o):a<h.objs.size:=by
 cases o with
 |lst xs=>obtain ⟨_,_,_,_,e⟩:=x;exact Heap.lt_size e
 |tup xs=>obtain ⟨_,_,_,p⟩:=x;exact p.lt
 |dK kvs=>obtain ⟨_,_,_,_,o,_,_,e,_⟩:=x;exact Heap.lt_size e
 |dT kvs=>obtain ⟨_,_,_,_,o,_,_,e,_⟩:=x;exact Heap.lt_size e
 |set S n=>obtain ⟨o,_,_,_,e,_⟩:=x;exact Heap.lt_size e
 |ins C dx fs=>obtain ⟨_,_,_,e,_⟩:=x;exact Heap.lt_size e
 |own y=>obtain ⟨_,e⟩:=x;exact Heap.lt_size e
 |xd fs=>obtain ⟨_,⟨_,_,_,e,_⟩,_⟩:=x;exact Heap.lt_size e
 |TM lo hi=>obtain ⟨_,_,_,e⟩:=x;exact Heap.lt_size e
 |GK ob u=>obtain ⟨e,_⟩:=x;exact Heap.lt_size e
 |CC ps=>exact Heap.lt_size (show h.get? a=some _ from x)
 |met f y=>exact Heap.lt_size (show h.get? a=some _ from x)
 |ext φ=>obtain ⟨_,⟨_,e⟩,_⟩:=x;exact Heap.lt_size e
theorem Paired.dw {α β:Type} {F G:α->β->Prop}:∀ {W0:List α} {W2:List β},Paired F W0 W2->(∀ a b,F a b->G a b)->Paired G W0 W2
 |_,_,.nil,_=>.nil
 |_,_,.cons r t,f=>.cons (f _ _ r) (Paired.dw t f)
theorem cJ.LQ (x:cJ P w H h a o) (k:∀ b u,(b=a∨H b=some (.own a))->h.get? b=some u->h'.get? b=some u)
  (ho:∀ b,H b=some (.own a)->H' b=some (.own a)) (ht:∀ b xs,H b=some (.tup xs)->H' b=some (.tup xs)):cJ P w H' h' a o:=by
 induction o with
 |lst xs=>obtain ⟨z,its,n,r,e⟩:=x;exact ⟨z,its,n,r,k _ _ (.inl rfl) e⟩
 |tup xs=>obtain ⟨z,its,r,ob,e,c⟩:=x;exact ⟨z,its,r,ob,k _ _ (.inl rfl) e,c⟩
 |dK kvs=>obtain ⟨z,y,vs,r,ob,es,ep,e,c⟩:=x;exact ⟨z,y,vs,r,ob,es,ep,k _ _ (.inl rfl) e,c⟩
 |dT kvs=>
  obtain ⟨z,y,xs,r,ob,es,ep,e,c⟩:=x;exact ⟨z,y,xs,Paired.dw r fun p q z=>⟨z.1,ht _ _ z.2.1,z.2.2⟩,ob,es,ep,k _ _ (.inl rfl) e,c⟩
 |set S n=>obtain ⟨ob,es,ep,t,e,c⟩:=x;exact ⟨ob,es,ep,t,k _ _ (.inl rfl) e,c⟩
 |ins C dx fs=>
  obtain ⟨d,z,ne,e,mA,⟨od,es,ep,e2,c⟩,r⟩:=x;exact ⟨ho _ d,z,ne,k _ _ (.inl rfl) e,mA,⟨od,es,ep,k _ _ (.inr d) e2,c⟩,r⟩
 |own y=>obtain ⟨ob,e⟩:=x;exact ⟨ob,k _ _ (.inl rfl) e⟩
 |xd fs=>obtain ⟨mA,⟨od,es,ep,e,c⟩,r⟩:=x;exact ⟨mA,⟨od,es,ep,k _ _ (.inl rfl) e,c⟩,r⟩
 |TM lo hi=>obtain ⟨t,u,v,e⟩:=x;exact ⟨t,u,v,k _ _ (.inl rfl) e⟩
 |GK ob u ih=>obtain ⟨e,q⟩:=x;exact ⟨k _ _ (.inl rfl) e,ih q⟩
 |CC ps=>
  have e:h.get? a=some {cls:= .none,data:= .fields ps}:=x;show h'.get? a=some {cls:= .none,data:= .fields ps};exact k a _ (.inl rfl) e
 |met f y=>
  have e:h.get? a=some (PySem.W.methodObj (.ref f) (.ref y)):=x;show h'.get? a=some (PySem.W.methodObj (.ref f) (.ref y));exact k a _ (.inl rfl) e
 |ext φ=>obtain ⟨p,⟨o,e⟩,st⟩:=x;exact ⟨st _ _ p fun o q=>k _ _ (.inl rfl) q,⟨o,k _ _ (.inl rfl) e⟩,st⟩
theorem rY.lt (x:rY P w H h) (e:H a=some o):a<h.objs.size:=(x a o e).lt
theorem rY.fresh (x:rY P w H h) (e:h.objs.size<=a):H a=none:=by
 cases q:H a with
 |none=>rfl
 |some u=>exact absurd (Nat.lt_of_lt_of_le (x.lt q) e) (Nat.lt_irrefl _)
theorem rY.kept (x:rY P w H h) (k:∀ b u,h.get? b=some u->h'.get? b=some u):rY P w H h':=fun a o e=>
 (x a o e).LQ (fun b u _ q=>k b u q) (fun _ q=>q) fun _ _ q=>q
theorem rY.laid (x:rY P w H h) (k:∀ b u,h.get? b=some u->h'.get? b=some u) (hp:h.objs.size<=a) (new:cJ P w (upd H a o) h' a o):rY P w (upd H a o) h':=fun b u e=>by
 have hn:=x.fresh hp;by_cases hb:b=a
 ·subst hb;rw [ah] at e;cases e;exact new
 ·rw [az hb] at e;exact (x b u e).LQ (fun c v _ q=>k c v q) (fun c q=>by rw [az (aw q hn)];exact q) fun c xs q=>by rw [az (aw q hn)];exact q
end
def Rd (H:Hp) (a:Addr) (u:HO):Prop:=H a=some u∨∃ o,H a=some (.GK o u)
theorem Rd.ok {P:Program} {w:World} {H:Hp} {h:Heap} {a:Addr} {u:HO} (r:Rd H a u) (x:rY P w H h):cJ P w H h a u:=by
 rcases r with r|⟨o,r⟩
 ·exact x a u r
 ·obtain ⟨_,q⟩:=x a _ r;exact q
def W3:Option HO->Prop
 |some (.lst _)=>True
 |some (.dK _)=>True
 |some (.dT _)=>True
 |some (.set _ _)=>True
 |some (.ins _ _ _)=>True
 |some (.ext _)=>True
 |_=>False
section
variable {P:Program} {w:World} {H:Hp} {h h':Heap} {x e:Addr} {o':HO}
theorem rY.write (ok:rY P w H h) (mu:W3 (H x)) (he:e=x∨H e=some (.own x)) (k:∀ b u,b≠e->h.get? b=some u->h'.get? b=some u) (WB:∃ u,h'.get? e=some u)
  (new:cJ P w (upd H x o') h' x o'):rY P w (upd H x o') h':=fun b u q=>by
 have W4:∀ c y,H c=some (.own y)->c≠x:=fun c y r z=>by subst z;rw [r] at mu;exact mu
 have Z7:∀ c xs,H c=some (.tup xs)->c≠x:=fun c xs r z=>by subst z;rw [r] at mu;exact mu
 by_cases hb:b=x
 ·subst hb;rw [ah] at q;cases q;exact new
 ·rw [az hb] at q;by_cases UW:b=e
  ·have q':H b=some (.own x):=by
    rcases he with z|z
    ·exact absurd (UW.trans z) hb
    ·rw [UW];exact z
   rw [q] at q';cases q'
   obtain ⟨v,hv⟩:=WB;exact ⟨v,by rw [UW];exact hv⟩
  ·refine (ok b u q).LQ (fun c v hc r=>k c v ?_ r) (fun c r=>by rw [az (W4 c b r)];exact r) fun c xs r=>by rw [az (Z7 c xs r)];exact r
   rcases hc with rfl|hc
   ·exact UW
   ·rintro rfl;rcases he with z|z
    ·exact W4 c b hc z
    ·rw [hc] at z;cases z;exact hb rfl
end
structure Un (fs ex:List Addr) (H H':Hp) (h h':Heap):Prop where
 keep:∀ b o,h.get? b=some o->H b=none->b∉fs->b∉ex->h'.get? b=some o
 slot:∀ b o,h.get? b=some o->H b=none->b∈fs->b∉ex->∃ sl,h'.get? b=some {o with slots:=sl}
 free:∀ b o,h.get? b=some o->H b=none->b∉ex->H' b=none
 there:∀ b o,h.get? b=some o->b∉ex->∃ o',h'.get? b=some o'
 J7:∀ b xs,H b=some (.tup xs)->H' b=some (.tup xs)
 Ia:∀ b o u,H b=some (.GK o u)->H' b=some (.GK o u)
 Ib:∀ b ps,H b=some (.CC ps)->∃ more,H' b=some (.CC (ps++more))
section
variable {fs fs' ex J1:List Addr} {H H1 H2:Hp} {h h1 h2 h':Heap} {a x e:Addr} {o:HO}
theorem Un.any (u:Un fs ex H H1 h h1) {b:Addr} {ob:Obj} (q:h.get? b=some ob) (n:H b=none) (hx:b∉ex):∃ sl,h1.get? b=some {ob with slots:=sl}:=by
 by_cases hb:b∈fs
 ·exact u.slot b ob q n hb hx
 ·exact ⟨ob.slots,u.keep b ob q n hb hx⟩
theorem Un.kept (k:∀ b u,h.get? b=some u->h'.get? b=some u):Un fs ex H H h h':=
 ⟨fun b ob q _ _ _=>k b ob q,fun b ob q _ _ _=>⟨ob.slots,k b ob q⟩,fun _ _ _ n _=>n,fun b ob q _=>⟨ob,k b ob q⟩,fun _ _ q=>q,fun _ _ _ q=>q,fun _ ps q=>⟨#[],by rw [q];simp⟩⟩
theorem Un.refl:Un fs ex H H h h:=Un.kept fun _ _ q=>q
theorem Un.laid (k:∀ b u,h.get? b=some u->h'.get? b=some u) (hp:h.objs.size<=a) (hn:H a=none):Un fs ex H (upd H a o) h h' where
 keep:=fun b u q _ _ _=>k b u q
 slot:=fun b u q _ _ _=>⟨u.slots,k b u q⟩
 free:=fun b u q n _=>by rw [az (Nat.ne_of_lt (Nat.lt_of_lt_of_le (Heap.lt_size q) hp))];exact n
 there:=fun b u q _=>⟨u,k b u q⟩
 J7:=fun b xs q=>by rw [az (aw q hn)];exact q
 Ia:=fun b u xs q=>by rw [az (aw q hn)];exact q
 Ib:=fun b ps q=>⟨#[],by rw [az (aw q hn),q];simp⟩
theorem Un.write (mu:W3 (H x)) (he:e=x∨H e=some (.own x)) (k:∀ b u,b≠e->h.get? b=some u->h'.get? b=some u) (WB:∃ u,h'.get? e=some u):Un fs ex H (upd H x o) h h':=by
 have hx:∀ b,H b=none->b≠x:=fun b n z=>by subst z;rw [n] at mu;exact mu
 have hb:∀ b,H b=none->b≠e:=fun b n z=>by
  subst z;rcases he with r|r
  ·exact hx b n r
  ·rw [n] at r;cases r
 have hm:∀ b u,H b=some u->¬ W3 (some u)->b≠x:=fun b u q nm z=>by subst z;rw [q] at mu;exact nm mu
 refine ⟨fun b u q n _ _=>k b u (hb b n) q,fun b u q n _ _=>⟨u.slots,k b u (hb b n) q⟩,fun b u q n _=>by rw [az (hx b n)];exact n,fun b u q _=>?_,
  fun b xs q=>by rw [az (hm b _ q fun z=>z)];exact q,fun b u xs q=>by rw [az (hm b _ q fun z=>z)];exact q,fun b ps q=>⟨#[],by rw [az (hm b _ q fun z=>z),q];simp⟩⟩
 by_cases UW:b=e
 ·subst UW;exact WB
 ·exact ⟨u,k b u UW q⟩
end
def Pp (h:Heap) (H:Hp):List Addr:=(List.range h.objs.size).filter fun a=>(H a).isSome
def CV (h:Heap) (H:Hp):Heap:=PySem.W.hideAll h (Pp h H)
theorem Oj (h:Heap) (H:Hp):(CV h H).objs.size=h.objs.size:=PySem.W.hideAll_size _ _
theorem Py {h:Heap} {H:Hp} {b:Addr} {o:Obj} (e:h.get? b=some o) (n:H b=none):(CV h H).get? b=some o:=
 PySem.W.hideAll_get _ e fun hm=>by
  have q:(H b).isSome=true:=(List.mem_filter.mp hm).2;rw [n] at q;simp at q
theorem RR {h:Heap} {H:Hp} {b:Addr} {o:Obj} (e:(CV h H).get? b=some o):h.get? b=some o/\H b=none:=by
 have e':h.get? b=some o:=PySem.W.of_hideAll (Pp h H) e;refine ⟨e',?_⟩;cases q:H b with
 |none=>rfl
 |some x=>
  have hm:b∈Pp h H:=List.mem_filter.mpr ⟨List.mem_range.mpr (Heap.lt_size e'),by simp [q]⟩;have z:(CV h H).get? b=none:=PySem.W.hideAll_none (Pp h H) hm;rw [z] at e;cases e
end L2
namespace L2
open PySem PySem.Spec PyProof.Rows
structure Mod (K:PySem.W.Frag) (mg:Str->Option Value) (base:Heap):Prop where
 WC:K.In base
 glob:base.Ns mainGlobals mg
 blt:∃ mb,base.Ns builtinsNs mb/\∀ x:Str,x≠"__name__"->mb x=bootBuiltins x
 nolimit:base.NoLimit
structure Cx where
 prog:Program
 w:World
 K:PySem.W.Frag
 mg:Str->Option Value
 base:Heap
 A:Around
 N:List Str
 Fs:Shared
 WD:Hp
 env:Env
 outer:List Env
 stack:List Env
 ex:List Addr
 fn:Str->Bool
 calm:Bool
 pn:List (Addr×Obj)
 xe:Value->Shared->Prop
def Pz (l:List Env):List Addr:=l.filterMap (·.frame)
abbrev Cx.fs (X:Cx):List Addr:=Pz X.outer
def UX (sc:Scope) (x:Str):Prop:=sc.names.lookup x=some .local∨sc.names.lookup x=some .cell∨sc.names.lookup x=some .free
def Loc (sc:Scope) (x:Str):Prop:=sc.names.lookup x=some .local∨sc.names.lookup x=some .cell
def Look (env:Env) (h:Heap) (m:Str->Option Value) (x:Str) (u:Value):Prop:=
 (env.kindOf x=some .local/\m x=some u)∨((env.kindOf x=some .cell∨env.kindOf x=some .free)/\∃ c,env.cells.lookup x=some c/\h.IsCell c (some u))
structure Cx.Ok (X:Cx):Prop where
 mod:Mod X.K X.mg X.base
 kind:X.env.scope.kind=.function
 glob:X.env.globals=mainGlobals
 blt:X.env.builtins=builtinsNs
 above:X.Fs.heap.objs.size<=X.env.locals
 inj:∀ x y c,X.env.cells.lookup x=some c->X.env.cells.lookup y=some c->x=y
 has:∀ x,(X.env.kindOf x=some .cell∨X.env.kindOf x=some .free)->∃ c,X.env.cells.lookup x=some c
 W5:∀ x c,X.fn x=true->X.env.cells.lookup x=some c->X.Fs.heap.objs.size<=c
 hd:X.calm=true->X.A.handled=none
 frames:X.A.frames=some X.stack
 Zj:X.stack=X.outer∨(X.stack=X.env::X.outer/\X.env.frame=some X.env.locals)
 Zk:∀ b∈X.ex,b≠X.env.locals/\∀ x c,X.env.cells.lookup x=some c->c≠b
 bs:∀ b o,X.base.get? b=some o->X.Fs.heap.get? b=some o/\X.WD b=none
 Pq:X.base.objs.size<=X.Fs.heap.objs.size
 PB:∀ b o,X.base.get? b=some o->b∉X.ex
 PD:∀ b∈X.ex,b∉X.fs
 xl:X.Fs.heap.FunFrames X.base X.outer
 RS:∀ b∈X.fs,X.WD b=none
structure Inv (X:Cx) (pins:List (Addr×Obj)) (σ:List (Option V)) (H:Hp) (s:Shared):Prop where
 ok:X.Ok
 os:s.os=X.Fs.os
 bare:AllBare s.gens
 base:Un X.fs X.ex X.WD H X.Fs.heap s.heap
 loc:∃ m,s.heap.Ns X.env.locals m/\∀ (i:Nat) (x:Str) (v:V),X.N[i]? =some x->σ[i]? =some (some v)->UX X.env.scope x->∃ u,RelV v u/\Look X.env s.heap m x u
 cell:∀ x c,X.env.cells.lookup x=some c->∃ v,s.heap.IsCell c v
 free:H X.env.locals=none
 qy:∀ x c,X.env.cells.lookup x=some c->H c=none
 pin:∀ p∈X.pn++pins,s.heap.get? p.1=some p.2/\H p.1=none/\p.1≠X.env.locals/\p.1∉X.fs/\∀ v,p.2.data≠.cell v
 cf:rY X.prog X.w H s.heap
 len:σ.length=X.N.length
section
variable {X:Cx} {pins:List (Addr×Obj)} {σ:List (Option V)} {H H':Hp} {s:Shared} {h':Heap}
theorem Cx.Ok.Z8 (ok:X.Ok) {b:Addr} {o:Obj} (e:X.base.get? b=some o):b∉X.fs:=fun hb=>by
 have:=(ok.xl.mem hb).1;rw [e] at this;cases this
theorem Inv.bs (I:Inv X pins σ H s):∀ b o,X.base.get? b=some o->s.heap.get? b=some o/\H b=none:=fun b o e=>
 ⟨I.base.keep b o (I.ok.bs b o e).1 (I.ok.bs b o e).2 (I.ok.Z8 e) (I.ok.PB b o e),I.base.free b o (I.ok.bs b o e).1 (I.ok.bs b o e).2 (I.ok.PB b o e)⟩
theorem Inv.bk (I:Inv X pins σ H s):∀ b o,X.base.get? b=some o->s.heap.get? b=some o:=fun b o e=>(I.bs b o e).1
theorem Inv.mod (I:Inv X pins σ H s):Mod X.K X.mg X.base:=I.ok.mod
theorem Inv.LL (I:Inv X pins σ H s):X.K.In s.heap:=I.ok.mod.WC.keeps I.bk
theorem Inv.nolimit (I:Inv X pins σ H s):s.heap.NoLimit:=I.ok.mod.nolimit.keeps I.bk
theorem Inv.fr (I:Inv X pins σ H s):∃ m,Fr X.base X.env.locals s.heap m:=
 let ⟨m,hn,_⟩:=I.loc
 ⟨m,hn,I.bk,Nat.le_trans I.ok.Pq I.ok.above⟩
theorem Inv.lt (I:Inv X pins σ H s):X.env.locals<s.heap.objs.size:=let ⟨_,hn,_⟩:=I.loc;hn.lt
theorem Inv.sz (I:Inv X pins σ H s):X.Fs.heap.objs.size<=s.heap.objs.size:=Nat.le_trans I.ok.above (Nat.le_of_lt I.lt)
theorem Inv.Z9 (I:Inv X pins σ H s) {a:Addr} (h:s.heap.objs.size<=a):a∉X.fs:=fun hb=>by
 obtain ⟨_,o,ho,_⟩:=I.ok.xl.mem hb;exact absurd (Nat.lt_of_lt_of_le (Heap.lt_size ho) (Nat.le_trans I.sz h)) (Nat.lt_irrefl _)
theorem Inv.UY (I:Inv X pins σ H s):∀ x c,X.env.cells.lookup x=some c->c≠X.env.locals:=fun x c e z=>by
 obtain ⟨v,o,ho,hd⟩:=I.cell x c e;obtain ⟨m,⟨o',es,ep,RH,W6,_⟩,_⟩:=I.loc;rw [z,RH] at ho;cases ho;rw [W6] at hd;cases hd
theorem Inv.xl (I:Inv X pins σ H s):s.heap.FunFrames X.base X.outer:=by
 have all:∀ (l:List Env),(∀ b∈Pz l,b∈X.fs)->X.Fs.heap.FunFrames X.base l->s.heap.FunFrames X.base l:=by
  intro l
  induction l with
  |nil=>intro _ _;trivial
  |cons env r ih=>
   intro hs hl;obtain ⟨hk,⟨L,o,hf,hn,ho,hd⟩,hr⟩:=hl;have hL:L∈X.fs:=hs L (by unfold Pz;rw [List.filterMap_cons,hf];exact List.mem_cons_self);obtain ⟨sl,e⟩:=I.base.slot L o ho (I.ok.RS L hL) hL fun z=>I.ok.PD L z hL
   exact ⟨hk,⟨L,_,hf,hn,e,hd⟩,ih (fun b hb=>hs b (by unfold Pz;rw [List.filterMap_cons,hf];exact List.mem_cons_of_mem _ hb)) hr⟩
 exact all X.outer (fun _ hb=>hb) I.ok.xl
theorem Inv.stack (I:Inv X pins σ H s):s.heap.FunFrames X.base X.stack:=by
 rcases I.ok.Zj with e|⟨e,hf⟩
 ·rw [e];exact I.xl
 ·rw [e];obtain ⟨m,hn,_⟩:=I.loc;refine .cons (by rw [I.ok.kind];decide) hf hn ?_ I.xl;exact Heap.get?_none_of_le (Nat.le_trans I.ok.Pq I.ok.above)
theorem Inv.LR (I:Inv X pins σ H s):∀ b∈Pz X.stack,b∈X.env.locals::X.fs:=fun b hb=>by
 rcases I.ok.Zj with e|⟨e,hf⟩
 ·rw [e] at hb;exact List.mem_cons_of_mem _ hb
 ·rw [e] at hb;unfold Pz at hb;rw [List.filterMap_cons,hf] at hb;exact hb
theorem Inv.Nn (I:Inv X pins σ H s):∀ b∈Pz X.stack,H b=none:=fun b hb=>by
 rcases List.mem_cons.mp (I.LR b hb) with e|hb
 ·rw [e];exact I.free
 ·obtain ⟨_,o,ho,_⟩:=I.ok.xl.mem hb;exact I.base.free b o ho (I.ok.RS b hb) fun z=>I.ok.PD b z hb
theorem Inv.step {g':Array GenState} {t':Nat} {d':Drawn} {ch:List Addr} (I:Inv X pins σ H s)
  (RI:∀ b∈ch,(b∈X.ex∨X.Fs.heap.objs.size<=b)/\b≠X.env.locals/\(∀ x c,X.env.cells.lookup x=some c->c≠b)/\∀ p∈X.pn++pins,p.1≠b)
  (keep:∀ b o,b≠X.env.locals->b∉X.fs->b∉ch->s.heap.get? b=some o->H b=none->h'.get? b=some o)
  (slot:∀ b o,b≠X.env.locals->b∈X.fs->b∉ch->s.heap.get? b=some o->H b=none->∃ sl,h'.get? b=some {o with slots:=sl}) (free:∀ b o,b∉ch->s.heap.get? b=some o->H b=none->H' b=none)
  (there:∀ b o,b∉ch->s.heap.get? b=some o->∃ o',h'.get? b=some o')
  (J7:∀ b xs,H b=some (.tup xs)->H' b=some (.tup xs)) (Ia:∀ b o u,H b=some (.GK o u)->H' b=some (.GK o u)) (Ib:∀ b ps,H b=some (.CC ps)->∃ more,H' b=some (.CC (ps++more)))
  (ns:∀ m,s.heap.Ns X.env.locals m->h'.Ns X.env.locals m) (cf:rY X.prog X.w H' h') (hg:AllBare g'):
  Inv X pins σ H' {s with heap:=h',gens:=g',drawn:=d',toks:=t'}:=by
 have neL:∀ b o,X.Fs.heap.get? b=some o->b≠X.env.locals:=fun b o e=>Nat.ne_of_lt (Nat.lt_of_lt_of_le (Heap.lt_size e) I.ok.above)
 have Zl:∀ b o,X.Fs.heap.get? b=some o->b∉X.ex->b∉ch:=fun b o e hx hb=>by
  rcases (RI b hb).1 with z|z
  ·exact hx z
  ·exact absurd (Nat.lt_of_lt_of_le (Heap.lt_size e) z) (Nat.lt_irrefl _)
 have cellK:∀ x c,X.env.cells.lookup x=some c->∀ v,s.heap.IsCell c v->h'.IsCell c v:=fun x c e v ⟨o,ho,hd⟩=>by
  have UZ:c∉ch:=fun z=>(RI c z).2.2.1 x c e rfl
  by_cases hc:c∈X.fs
  ·obtain ⟨sl,q⟩:=slot c o (I.UY x c e) hc UZ ho (I.qy x c e);exact ⟨_,q,hd⟩
  ·exact ⟨o,keep c o (I.UY x c e) hc UZ ho (I.qy x c e),hd⟩
 refine ⟨I.ok,I.os,hg,⟨fun b o e n hb hx=>?_,fun b o e n hb hx=>?_,fun b o e n hx=>?_,fun b o e hx=>?_,fun b xs e=>J7 b xs (I.base.J7 b xs e),fun b o xs e=>Ia b o xs (I.base.Ia b o xs e),fun b ps e=>?_⟩,?_,fun x c e=>?_,?_,fun x c e=>?_,fun p hp=>?_,cf,I.len⟩
 ·exact keep b o (neL b o e) hb (Zl b o e hx) (I.base.keep b o e n hb hx) (I.base.free b o e n hx)
 ·obtain ⟨sl,e1⟩:=I.base.slot b o e n hb hx;obtain ⟨sl',e2⟩:=slot b _ (neL b o e) hb (Zl b o e hx) e1 (I.base.free b o e n hx);exact ⟨sl',e2⟩
 ·obtain ⟨o',e1⟩:=I.base.there b o e hx;exact free b o' (Zl b o e hx) e1 (I.base.free b o e n hx)
 ·obtain ⟨o',e1⟩:=I.base.there b o e hx;exact there b o' (Zl b o e hx) e1
 ·obtain ⟨m1,e1⟩:=I.base.Ib b ps e;obtain ⟨m2,e2⟩:=Ib b _ e1;exact ⟨m1++m2,by rw [e2,Array.append_assoc]⟩
 ·obtain ⟨m,hn,hl⟩:=I.loc;refine ⟨m,ns m hn,fun i x v e1 e2 e3=>?_⟩;obtain ⟨u,r,l⟩:=hl i x v e1 e2 e3;refine ⟨u,r,?_⟩;rcases l with l|⟨k,c,e,z⟩
  ·exact .inl l
  ·exact .inr ⟨k,c,e,cellK x c e _ z⟩
 ·obtain ⟨v,z⟩:=I.cell x c e;exact ⟨v,cellK x c e v z⟩
 ·obtain ⟨m,⟨o,_,_,ho,_⟩,_⟩:=I.loc;exact free _ o (fun z=>(RI _ z).2.1 rfl) ho I.free
 ·obtain ⟨v,o,ho,hd⟩:=I.cell x c e;exact free c o (fun z=>(RI c z).2.2.1 x c e rfl) ho (I.qy x c e)
 ·obtain ⟨e,n,ne,nf,d⟩:=I.pin p hp;have UZ:p.1∉ch:=fun z=>(RI p.1 z).2.2.2 p hp rfl
  exact ⟨keep p.1 p.2 ne nf UZ e n,free p.1 p.2 UZ e n,ne,nf,d⟩
theorem Inv.un {t':Nat} (I:Inv X pins σ H s) (u:Un X.fs [] H H' s.heap h') (cf:rY X.prog X.w H' h'):Inv X pins σ H' {s with heap:=h',toks:=t'}:=by
 obtain ⟨m,⟨o,es,ep,ho,r⟩,_⟩:=id I.loc;obtain ⟨sl,hL⟩:=u.any ho I.free (by simp);exact I.step (g':=s.gens) (d':=s.drawn) (ch:=[]) (fun _ z=>nomatch z) (fun b o _ hb _ e n=>u.keep b o e n hb (by simp)) (fun b o _ hb _ e n=>u.slot b o e n hb (by simp)) (fun b o _ e n=>u.free b o e n (by simp)) (fun b o _ e=>u.there b o e (by simp)) u.J7 u.Ia u.Ib (fun m' hm=>by
  obtain ⟨o',W7,W8,RH,r'⟩:=hm;rw [ho] at RH;cases RH
  exact ⟨_,W7,W8,hL,r'⟩) cf I.bare
theorem Inv.call {g':Array GenState} {t':Nat} {d':Drawn} {ch:List Addr} (I:Inv X pins σ H s) (u:Un (Pz X.stack) ch H H' s.heap h') (cf:rY X.prog X.w H' h') (hg:AllBare g')
  (RI:∀ b∈ch,(b∈X.ex∨X.Fs.heap.objs.size<=b)/\b≠X.env.locals/\(∀ x c,X.env.cells.lookup x=some c->c≠b)/\∀ p∈X.pn++pins,p.1≠b):
  Inv X pins σ H' {s with heap:=h',gens:=g',drawn:=d',toks:=t'}:=by
 obtain ⟨m,⟨o,es,ep,ho,r⟩,_⟩:=id I.loc;obtain ⟨sl,hL⟩:=u.any ho I.free fun z=>(RI _ z).2.1 rfl
 exact I.step (ch:=ch) RI (fun b o hL hb hc e n=>u.keep b o e n (fun z=>(List.mem_cons.mp (I.LR b z)).elim hL hb) hc) (fun b o _ _ hc e n=>u.any e n hc) (fun b o hc e n=>u.free b o e n hc) (fun b o hc e=>u.there b o e hc) u.J7 u.Ia u.Ib (fun m' hm=>by
  obtain ⟨o',W7,W8,RH,r'⟩:=hm;rw [ho] at RH;cases RH
  exact ⟨_,W7,W8,hL,r'⟩) cf hg
theorem Inv.turned {t':Nat} {it:Addr} (I:Inv X pins σ H s) (k:∀ b o,b≠it->s.heap.get? b=some o->h'.get? b=some o) (hn:H it=none) (hL:it≠X.env.locals)
  (h1:it∈X.ex∨X.Fs.heap.objs.size<=it) (h2:∀ x c,X.env.cells.lookup x=some c->c≠it) (h3:∀ p∈X.pn++pins,p.1≠it):Inv X pins σ H {s with heap:=h',toks:=t'}:=by
 have nit:∀ b u,H b=some u->b≠it:=fun b u e z=>by rw [z,hn] at e;cases e
 refine I.step (g':=s.gens) (d':=s.drawn) (ch:=[it]) (fun b hb=>?_) (fun b o _ _ hc e _=>k b o (fun z=>hc (by simp [z])) e) (fun b o _ _ hc e _=>⟨o.slots,k b o (fun z=>hc (by simp [z])) e⟩) (fun _ _ _ _ n=>n)
  (fun b o hc e=>⟨o,k b o (fun z=>hc (by simp [z])) e⟩) (fun _ _ e=>e) (fun _ _ _ e=>e) (fun b ps e=>⟨#[],by rw [e];simp⟩) (fun m hm=>?_) (fun b u e=>?_) I.bare
 ·have e:b=it:=by simpa using hb
  subst e;exact ⟨h1,hL,h2,h3⟩
 ·obtain ⟨o,es,ep,ho,r⟩:=hm;exact ⟨o,es,ep,k _ o (Ne.symm hL) ho,r⟩
 ·refine (I.cf b u e).LQ (fun c v hc q=>k c v ?_ q) (fun _ q=>q) fun _ _ q=>q
  rcases hc with z|z
  ·rw [z];exact nit b u e
  ·exact nit c _ z
theorem Inv.tok (I:Inv X pins σ H s) (t:Nat):Inv X pins σ H {s with toks:=t}:=I.un (h':=s.heap) (t':=t) Un.refl I.cf
theorem Inv.kept {t':Nat} (I:Inv X pins σ H s) (k:∀ b u,s.heap.get? b=some u->h'.get? b=some u):Inv X pins σ H {s with heap:=h',toks:=t'}:=I.un (Un.kept k) (I.cf.kept k)
theorem Inv.laid {a:Addr} {o:HO} {t':Nat} (I:Inv X pins σ H s) (k:∀ b u,s.heap.get? b=some u->h'.get? b=some u) (hp:s.heap.objs.size<=a) (new:cJ X.prog X.w (upd H a o) h' a o):
  Inv X pins σ (upd H a o) {s with heap:=h',toks:=t'}:=I.un (Un.laid k hp (I.cf.fresh hp)) (I.cf.laid k hp new)
theorem Inv.write {x e:Addr} {o:HO} {t':Nat} (I:Inv X pins σ H s) (mu:W3 (H x)) (he:e=x∨H e=some (.own x)) (k:∀ b u,b≠e->s.heap.get? b=some u->h'.get? b=some u) (WB:∃ u,h'.get? e=some u)
  (new:cJ X.prog X.w (upd H x o) h' x o):Inv X pins σ (upd H x o) {s with heap:=h',toks:=t'}:=I.un (Un.write mu he k WB) (I.cf.write mu he k WB new)
theorem Inv.weak {σ':List (Option V)} (I:Inv X pins σ H s) (hl:σ'.length=σ.length) (w:∀ (i:Nat) v,σ'[i]? =some (some v)->σ[i]? =some (some v)):Inv X pins σ' H s:=
 ⟨I.ok,I.os,I.bare,I.base,let ⟨m,hn,PF⟩:=I.loc;⟨m,hn,fun i x v e1 e2 e3=>PF i x v e1 (w i v e2) e3⟩,I.cell,I.free,I.qy,I.pin,I.cf,hl.trans I.len⟩
theorem Inv.Np {PH:List (Addr×Obj)} (I:Inv X pins σ H s) (h:∀ p∈PH,s.heap.get? p.1=some p.2/\H p.1=none/\p.1≠X.env.locals/\p.1∉X.fs/\∀ v,p.2.data≠.cell v):Inv X PH σ H s:=
 ⟨I.ok,I.os,I.bare,I.base,I.loc,I.cell,I.free,I.qy,fun p hp=>(List.mem_append.mp hp).elim (fun z=>I.pin p (List.mem_append_left _ z)) (h p),I.cf,I.len⟩
theorem CW {N:List Str} (hN:N.Nodup) {i j:Nat} {x:Str} (a:N[i]? =some x) (b:N[j]? =some x):i=j:=by
 obtain ⟨h1,e1⟩:=List.getElem?_eq_some_iff.mp a;obtain ⟨h2,e2⟩:=List.getElem?_eq_some_iff.mp b;exact (List.getElem_inj hN).mp (e1.trans e2.symm)
theorem GL {M:Model} {A:Around} {E:Value->Shared->Prop} {i:Nat} {x:Str} {v:V} {u:Value} {Q:Unit->Shared->Prop} (I:Inv X pins σ H s) (hN:X.N.Nodup) (hi:X.N[i]? =some x) (hx:Loc X.env.scope x) (r:RelV v u)
  (h:∀ s',Inv X pins (σ.set i (some v)) H s'->(∃ a,Heap.SameBut a s.heap s'.heap/\(a=X.env.locals∨X.env.cells.lookup x=some a))->Q () s') (hf:X.fn x=true∨X.env.scope.names.lookup x=some .local:=by first|exact .inl rfl|exact .inr rfl|assumption):wpAny M A (storeName X.env x u) Q E s:=by
 obtain ⟨m,hn,hl⟩:=id I.loc;have aaa:(X.env.scope.kind==.class||(X.env.scope.kind==.module&&X.env.locals != X.env.globals))=false:=by rw [I.ok.kind];rfl
 have W9:i<σ.length:=by rw [I.len];exact (List.getElem?_eq_some_iff.mp hi).1
 have UY:=I.UY;have tracked:∀ {a:Addr} {h':Heap},(∃ o,s.heap.get? a=some o/\H a=none)->Heap.SameBut a s.heap h'->rY X.prog X.w H h':=fun {a h'} ha hs b ob e=>by
  obtain ⟨_,_,u0⟩:=ha;refine (I.cf b ob e).LQ (fun c w' hc q=>(hs.2 c ?_).trans q) (fun _ q=>q) fun _ _ q=>q
  rintro rfl;rcases hc with rfl|hc
  ·rw [u0] at e;cases e
  ·rw [u0] at hc;cases hc
 rcases hx with hk|hk
 ·refine wpAny_storeName_local hk hn (fun h' hn' hs=>?_) aaa;obtain ⟨oL,_,_,PJ,_⟩:=id hn;refine h _ ⟨I.ok,I.os,I.bare,⟨fun b o e n hb hx=>?_,fun b o e n hb hx=>?_,I.base.free,fun b o e hx=>?_,I.base.J7,I.base.Ia,I.base.Ib⟩,⟨_,hn',fun j y v' e1 e2 e3=>?_⟩,fun y c e=>?_,I.free,I.qy,fun p hp=>?_,tracked ⟨oL,PJ,I.free⟩ hs,by simpa using I.len⟩ ⟨_,hs,.inl rfl⟩
  ·exact (hs.2 b (Nat.ne_of_lt (Nat.lt_of_lt_of_le (Heap.lt_size e) I.ok.above))).trans (I.base.keep b o e n hb hx)
  ·obtain ⟨sl,e1⟩:=I.base.slot b o e n hb hx;exact ⟨sl,(hs.2 b (Nat.ne_of_lt (Nat.lt_of_lt_of_le (Heap.lt_size e) I.ok.above))).trans e1⟩
  ·obtain ⟨o',e1⟩:=I.base.there b o e hx;exact ⟨o',(hs.2 b (Nat.ne_of_lt (Nat.lt_of_lt_of_le (Heap.lt_size e) I.ok.above))).trans e1⟩
  ·by_cases hj:j=i
   ·subst hj;rw [hi] at e1;cases e1
    rw [List.getElem?_set_self W9] at e2;cases e2;exact ⟨u,r,.inl ⟨hk,by simp⟩⟩
   ·rw [List.getElem?_set_ne (Ne.symm hj)] at e2;obtain ⟨u',r',q⟩:=hl j y v' e1 e2 e3;refine ⟨u',r',?_⟩;rcases q with ⟨k,e⟩|⟨k,c,e,z⟩
    ·refine .inl ⟨k,?_⟩;have:y≠x:=fun e=>hj (CW hN e1 (e▸hi))
     simp [this,e]
    ·exact .inr ⟨k,c,e,z.sameBut hs (UY y c e)⟩
  ·obtain ⟨w',z⟩:=I.cell y c e;exact ⟨w',z.sameBut hs (UY y c e)⟩
  ·obtain ⟨e,n,ne,nf,d⟩:=I.pin p hp;exact ⟨(hs.2 p.1 ne).trans e,n,ne,nf,d⟩
 ·have hfn:X.fn x=true:=by
   rcases hf with z|z
   ·exact z
   ·rw [z] at hk;cases hk
  obtain ⟨c,hc⟩:=I.ok.has x (.inl hk);obtain ⟨w',z⟩:=I.cell x c hc;refine wpAny_storeName_cell I.ok.kind hk hc z (fun h' Zm hs=>?_);obtain ⟨oc,hoc,aab⟩:=id z;refine h {s with heap:=h'} ⟨I.ok,I.os,I.bare,⟨fun b o e n hb hx=>?_,fun b o e n hb hx=>?_,I.base.free,fun b o e hx=>?_,I.base.J7,I.base.Ia,I.base.Ib⟩,⟨m,hn.sameBut hs (Ne.symm (UY x c hc)),fun j y v' e1 e2 e3=>?_⟩,fun y c' e=>?_,I.free,I.qy,fun p hp=>?_,tracked ⟨oc,hoc,I.qy x c hc⟩ hs,by simpa using I.len⟩ ⟨c,hs,.inr hc⟩
  ·exact (hs.2 b (Nat.ne_of_lt (Nat.lt_of_lt_of_le (Heap.lt_size e) (I.ok.W5 x c hfn hc)))).trans (I.base.keep b o e n hb hx)
  ·obtain ⟨sl,e1⟩:=I.base.slot b o e n hb hx;exact ⟨sl,(hs.2 b (Nat.ne_of_lt (Nat.lt_of_lt_of_le (Heap.lt_size e) (I.ok.W5 x c hfn hc)))).trans e1⟩
  ·obtain ⟨o',e1⟩:=I.base.there b o e hx;exact ⟨o',(hs.2 b (Nat.ne_of_lt (Nat.lt_of_lt_of_le (Heap.lt_size e) (I.ok.W5 x c hfn hc)))).trans e1⟩
  ·by_cases hj:j=i
   ·subst hj;rw [hi] at e1;cases e1
    rw [List.getElem?_set_self W9] at e2;cases e2;exact ⟨u,r,.inr ⟨.inl hk,c,hc,Zm⟩⟩
   ·rw [List.getElem?_set_ne (Ne.symm hj)] at e2;obtain ⟨u',r',q⟩:=hl j y v' e1 e2 e3;refine ⟨u',r',?_⟩;rcases q with q|⟨k,c',e,z'⟩
    ·exact .inl q
    ·refine .inr ⟨k,c',e,z'.sameBut hs ?_⟩;rintro rfl;exact hj (CW hN e1 (I.ok.inj _ _ _ e hc▸hi))
  ·by_cases hcc:c'=c
   ·subst hcc;exact ⟨_,Zm⟩
   ·obtain ⟨w2,z2⟩:=I.cell y c' e;exact ⟨w2,z2.sameBut hs hcc⟩
  ·obtain ⟨e,n,ne,nf,d⟩:=I.pin p hp;refine ⟨(hs.2 p.1 ?_).trans e,n,ne,nf,d⟩;intro q;rw [q,hoc] at e;have q':oc=p.2:=Option.some.inj e;exact d w' (by rw [<-q'];exact aab)
theorem J8 {M:Model} {A:Around} {E:Value->Shared->Prop} {i:Nat} {x:Str} {v:V} {u:Value} {Q:Unit->Shared->Prop} (I:Inv X pins σ H s) (hN:X.N.Nodup) (hi:X.N[i]? =some x) (hx:Loc X.env.scope x) (r:RelV v u)
  (h:∀ s',Inv X pins (σ.set i (some v)) H s'->Q () s') (hf:X.fn x=true∨X.env.scope.names.lookup x=some .local:=by first|exact .inl rfl|exact .inr rfl|assumption):wpAny M A (storeName X.env x u) Q E s:=
 GL I hN hi hx r (fun s' I' _=>h s' I') hf
theorem Inv.TQ {s':Shared} {ch:List Addr} (I:Inv X pins σ H s) (ho:s'.os=s.os) (u:Un (Pz X.stack) ch H H' s.heap s'.heap) (cf:rY X.prog X.w H' s'.heap) (hg:AllBare s'.gens)
  (RI:∀ b∈ch,(b∈X.ex∨X.Fs.heap.objs.size<=b)/\b≠X.env.locals/\(∀ x c,X.env.cells.lookup x=some c->c≠b)/\∀ p∈X.pn++pins,p.1≠b):Inv X pins σ H' s':=by
 obtain ⟨h',g',d',t',o'⟩:=s';have e:o'=s.os:=ho;subst e;exact I.call (g':=g') (t':=t') (d':=d') u cf hg RI
end
abbrev XK:=Value->Option Addr->Hp->Prop
abbrev St:=List (Option V)
abbrev VK:=V->Hp->Prop
abbrev TE:=St->Hp->VK->Prop
abbrev TT:=St->Hp->(Bool->Hp->Prop)->Prop
abbrev TA:=St->Hp->(List V->Hp->Prop)->Prop
structure Ends where
 nx:St->Hp->Prop
 rt:VK
 bk:St->Hp->Prop:=fun _ _=>False
 ct:St->Hp->Prop:=fun _ _=>False
abbrev TS:=Ends->St->Hp->Prop
def EP (X:Cx) (pins:List (Addr×Obj)) (σ:St) (Q:VK) (u:Value) (s':Shared):Prop:=∃ v H',Inv X pins σ H' s'/\RelV v u/\Q v H'
def TP (X:Cx) (pins:List (Addr×Obj)) (σ:St) (Q:Bool->Hp->Prop) (b:Bool) (s':Shared):Prop:=∃ H',Inv X pins σ H' s'/\Q b H'
def AP (X:Cx) (pins:List (Addr×Obj)) (σ:St) (Q:List V->Hp->Prop) (us:List Value) (s':Shared):Prop:=∃ vs H',Inv X pins σ H' s'/\Vals vs us/\Q vs H'
def SP (X:Cx) (pins:List (Addr×Obj)) (D:Ends) (f:Flow) (s':Shared):Prop:=
 match f with
 | .next=>∃ σ' H',Inv X pins σ' H' s'/\D.nx σ' H'
 | .brk=>∃ σ' H',Inv X pins σ' H' s'/\D.bk σ' H'
 | .cont=>∃ σ' H',Inv X pins σ' H' s'/\D.ct σ' H'
 | .ret u=>∃ v σ' H',Inv X pins σ' H' s'/\RelV v u/\D.rt v H'
def PE (X:Cx) (e:Expr) (t:TE):Prop:=
 ∀ (pins:List (Addr×Obj)) (s:Shared) (σ:St) (H:Hp) (Q:VK),Inv X pins σ H s->t σ H Q->wpAny (model X.prog X.w) X.A (eval e X.env) (EP X pins σ Q) X.xe s
def PT (X:Cx) (e:Expr) (t:TT):Prop:=
 ∀ (pins:List (Addr×Obj)) (s:Shared) (σ:St) (H:Hp) (Q:Bool->Hp->Prop),Inv X pins σ H s->t σ H Q->wpAny (model X.prog X.w) X.A (isTrue e X.env (eval e X.env)) (TP X pins σ Q) X.xe s
def PW (X:Cx) (e:Expr) (t:TT):Prop:=
 ∀ (whole:Sem Value) (pins:List (Addr×Obj)) (s:Shared) (σ:St) (H:Hp) (Q:Bool->Hp->Prop),Inv X pins σ H s->t σ H Q->wpAny (model X.prog X.w) X.A (isTrue e X.env whole) (TP X pins σ Q) X.xe s
theorem PW.pt {X:Cx} {e:Expr} {t:TT} (h:PW X e t):PT X e t:=h _
def PA (X:Cx) (es:List Expr) (t:TA):Prop:=
 ∀ (pos:Pos) (pins:List (Addr×Obj)) (s:Shared) (σ:St) (H:Hp) (Q:List V->Hp->Prop),Inv X pins σ H s->t σ H Q->wpAny (model X.prog X.w) X.A (spliced (backTo pos (starEach es X.env))) (AP X pins σ Q) X.xe s
def PS (X:Cx) (st:Stmt) (t:TS):Prop:=
 ∀ (pins:List (Addr×Obj)) (s:Shared) (σ:St) (H:Hp) (D:Ends),Inv X pins σ H s->t D σ H->wpAny (model X.prog X.w) X.A (exec st X.env) (SP X pins D) X.xe s
def LS (X:Cx) (st:List Stmt) (t:TS):Prop:=
 ∀ (pins:List (Addr×Obj)) (s:Shared) (σ:St) (H:Hp) (D:Ends),Inv X pins σ H s->t D σ H->wpAny (model X.prog X.w) X.A (execs st X.env) (SP X pins D) X.xe s
theorem cY {α:Type} {t:Sem α} {Q Q':α->Shared->Prop} {M:Model} {A:Around} {E:Value->Shared->Prop} {s:Shared} (h:wpAny M A t Q E s) (hQ:∀ a s,Q a s->Q' a s):wpAny M A t Q' E s:=wpAny_mono h hQ fun _ _ x=>x
end L2
namespace L2
open PySem PySem.Spec PyProof.Rows
section
variable {X:Cx}
theorem bin {a b:Expr} {ta tb:TE} (ha:PE X a ta) (hb:PE X b tb) {pins:List (Addr×Obj)} {s:Shared} {σ:St} {H:Hp} {R:V->V->Hp->Prop} (I:Inv X pins σ H s) (h:ta σ H fun x H1=>tb σ H1 fun y H2=>R x y H2)
  {α:Type} {Q:α->Shared->Prop} {f:Value->Value->Sem α}
  (hf:∀ v u s2 x y H2,Inv X pins σ H2 s2->RelV x v->RelV y u->R x y H2->wpAny (model X.prog X.w) X.A (f v u) Q X.xe s2):
  wpAny (model X.prog X.w) X.A (eval a X.env) (fun v cg=>wpAny (model X.prog X.w) X.A (eval b X.env) (fun u pN=>wpAny (model X.prog X.w) X.A (f v u) Q X.xe pN) X.xe cg) X.xe s:=by
 refine cY (ha pins s σ H _ I h) fun v s1 ⟨x,H1,I1,r1,q1⟩=>?_
 refine cY (hb pins s1 σ H1 _ I1 q1) fun u s2 ⟨y,H2,I2,r2,q2⟩=>?_
 exact hf v u s2 x y H2 I2 r1 r2 q2
def LU (i:Nat):TE:=fun σ H Q=>∃ v,σ[i]? =some (some v)/\Q v H
def tC (v:V):TE:=fun _ H Q=>Q v H
theorem LV {i:Nat} {x:Str} {pos:Pos} (hN:X.N[i]? =some x) (hv:UX X.env.scope x) (hd:(x==("__debug__":Str))=false:=by decide) (J9:(x==("__classdict__":Str))=false:=by decide):PE X (.Name x pos) (LU i):=by
 intro pins s σ H Q I h;obtain ⟨v,e,h⟩:=h;obtain ⟨m,hn,hl⟩:=I.loc;obtain ⟨u,r,l⟩:=hl i x v hN e hv;have fin:EP X pins σ Q u s:=⟨v,H,I,r,h⟩;rcases l with ⟨hk,hm⟩|⟨hk,c,hc,qz⟩
 ·exact wpAny_Name (wpAny_loadName_local I.ok.kind hk hn hm fin) hd
 ·rcases hk with hk|hk
  ·exact wpAny_Name (wpAny_loadName_cell I.ok.kind hk hc qz fin) hd
  ·exact wpAny_Name (wpAny_loadName_free I.ok.kind hk hc qz fin J9) hd
theorem ab {i j pos}:PE X (.Constant (.int i) j pos) (tC (.int i)):=fun _ _ _ H _ I h=>wpAny_Constant_int ⟨.int i,H,I.tok _,⟨_,rfl⟩,h⟩
theorem xm {b j pos}:PE X (.Constant (.bool b) j pos) (tC (.bl b)):=fun _ _ _ H _ I h=>Constant_bool ⟨.bl b,H,I,rfl,h⟩
theorem CY {j pos}:PE X (.Constant .none j pos) (tC .cx):=fun _ _ _ H _ I h=>Constant_none ⟨.cx,H,I,rfl,h⟩
def Gl (X:Cx) (x:Str):Prop:=X.env.kindOf x=some .globalImplicit
theorem CD {E:Value->Shared->Prop} {pins:List (Addr×Obj)} {s:Shared} {σ:St} {H:Hp} {x:Str} {u:Value} {pos:Pos} {Q:Value->Shared->Prop} (I:Inv X pins σ H s) (hg:Gl X x) (hm:X.mg x=some u) (h:Q u s)
  (hd:(x==("__debug__":Str))=false:=by decide):wpAny (model X.prog X.w) X.A (eval (.Name x pos) X.env) Q E s:=
 Calls.Name_function_global I.ok.kind hg (Calls.loadGlobal_global (by rw [I.ok.glob];exact I.mod.glob.keeps I.bk) hm h) hd
theorem CZ {E:Value->Shared->Prop} {pins:List (Addr×Obj)} {s:Shared} {σ:St} {H:Hp} {x:Str} {u:Value} {pos:Pos} {Q:Value->Shared->Prop} (I:Inv X pins σ H s) (hg:Gl X x) (hm:X.mg x=none) (hv:bootBuiltins x=some u) (h:Q u s)
  (hn:x≠"__name__":=by decide) (hd:(x==("__debug__":Str))=false:=by decide):wpAny (model X.prog X.w) X.A (eval (.Name x pos) X.env) Q E s:=by
 obtain ⟨mb,h1,h2⟩:=I.mod.blt;exact Calls.Name_function_global I.ok.kind hg (Calls.loadGlobal_builtin (by rw [I.ok.glob];exact I.mod.glob.keeps I.bk) hm (by rw [I.ok.blt];exact h1.keeps I.bk) ((h2 x hn).trans hv) h) hd
theorem RT {x:Str} {v:V} {u:Value} {pos:Pos} (hg:Gl X x) (hm:X.mg x=some u) (r:RelV v u) (hd:(x==("__debug__":Str))=false:=by decide):PE X (.Name x pos) (tC v):=
 fun _ _ _ H _ I h=>CD I hg hm ⟨v,H,I,r,h⟩ hd
variable {a b:Expr} {ta tb:TE} {pos:Pos}
def PC (X:Cx) (op:CmpOp) (a b:Expr) (t:TE):Prop:=
 ∀ (pins:List (Addr×Obj)) (s:Shared) (σ:St) (H:Hp) (Q:VK),Inv X pins σ H s->t σ H Q->
  wpAny (model X.prog X.w) X.A (eval a X.env) (fun v cg=>wpAny (model X.prog X.w) X.A (eval b X.env) (fun u pN=>wpAny (model X.prog X.w) X.A (compareOp op v u) (EP X pins σ Q) X.xe pN) X.xe cg) X.xe s
def tB (t:TE):TT:=fun σ H Q=>t σ H fun x H1=>∃ c,x=.bl c/\Q c H1
theorem PK {op:CmpOp} {t:TE} (h:PC X op a b t) (h1:behindInMarks op b=false:=by first|exact Xa _ (by decide) (by decide)|rfl):PT X (.Compare a [op] [b] pos) (tB t):=by
 intro pins s σ H Q I hw;refine wpAny_isTrue_Compare1 (cY (h pins s σ H _ I hw) fun v s1 h1=>cY h1 fun u s2 h2=>cY h2 fun c s3 ⟨x,H1,I1,r1,q1⟩=>?_) h1;obtain ⟨d,rfl,q⟩:=q1;cases r1;exact wpAny_truthy_bool ⟨H1,I1,q⟩
theorem bx {e:Expr} {t:TE} (h:PE X e t) (he:∀ whole,isTrue e X.env whole=(do let v<-whole;standAt e.pos;holding [v] (truthy v)):=by intro _;rfl):PT X e (tB t):=by
 intro pins s σ H Q I hw;refine isTrue_plain (cY (h pins s σ H _ I hw) fun v s1 ⟨x,H1,I1,r1,q1⟩=>?_) (he _);obtain ⟨d,rfl,q⟩:=q1;cases r1;exact wpAny_truthy_bool ⟨H1,I1,q⟩
variable {tA Zn:TT} {rest:List Expr}
def aac (t u:TT):TT:=fun σ H Q=>t σ H fun c H1=>if c=true then u σ H1 Q else Q false H1
def tOr (t u:TT):TT:=fun σ H Q=>t σ H fun c H1=>if c=true then Q true H1 else u σ H1 Q
def aad (t:TT):TT:=fun σ H Q=>t σ H fun c H1=>Q (!c) H1
theorem kC (ha:PT X a tA):PW X (.BoolOp .And [a] pos) tA:=by
 intro wh pins s σ H Q I h;refine isTrue_and (cY (ha pins s σ H Q I h) fun c s1 e=>?_);cases c with
 |true=>exact isTrue_and_nil e
 |false=>exact e
theorem LW (ha:PT X a tA):PW X (.BoolOp .Or [a] pos) tA:=by
 intro wh pins s σ H Q I h;refine isTrue_or (cY (ha pins s σ H Q I h) fun c s1 e=>?_);cases c with
 |false=>exact isTrue_or_nil e
 |true=>exact e
theorem kW (ha:PT X a tA) (hb:PW X (.BoolOp .And (b::rest) pos) Zn):PW X (.BoolOp .And (a::b::rest) pos) (aac tA Zn):=by
 intro wh pins s σ H Q I h;refine isTrue_and (cY (ha pins s σ H _ I h) fun c s1 ⟨H1,I1,q1⟩=>?_);cases c with
 |true=>exact hb wh pins s1 σ H1 Q I1 q1
 |false=>exact ⟨H1,I1,q1⟩
theorem PL (ha:PT X a tA) (hb:PW X (.BoolOp .Or (b::rest) pos) Zn):PW X (.BoolOp .Or (a::b::rest) pos) (tOr tA Zn):=by
 intro wh pins s σ H Q I h;refine isTrue_or (cY (ha pins s σ H _ I h) fun c s1 ⟨H1,I1,q1⟩=>?_);cases c with
 |true=>exact ⟨H1,I1,q1⟩
 |false=>exact hb wh pins s1 σ H1 Q I1 q1
theorem cK (ha:PT X a tA):PT X (.UnaryOp .Not a pos) (aad tA):=by
 intro pins s σ H Q I h;exact isTrue_not (ha pins s σ H (fun c H1=>Q (!c) H1) I h)
def Xb (ta tb:TE):TE:=fun σ H Q=>ta σ H fun x H1=>∃ c,x=.bl c/\if c=true then tb σ H1 Q else Q (.bl false) H1
def aae (ta tb:TE):TE:=fun σ H Q=>ta σ H fun x H1=>∃ c,x=.bl c/\if c=true then Q (.bl true) H1 else tb σ H1 Q
theorem nL {op} {t:TE} (h:PE X a t):PE X (.BoolOp op [a] pos) t:=fun pins s σ H Q I hw=>BoolOp_one (h pins s σ H Q I hw)
theorem jb (ha:PE X a ta) (hb:PE X (.BoolOp .And (b::rest) pos) tb):PE X (.BoolOp .And (a::b::rest) pos) (Xb ta tb):=by
 intro pins s σ H Q I h;refine BoolOp_and (cY (ha pins s σ H _ I h) fun v s1 ⟨x,H1,I1,r1,q1⟩=>?_);obtain ⟨c,rfl,q1⟩:=q1;cases r1;refine wpAny_truthy_bool ?_;cases c with
 |true=>exact hb pins s1 σ H1 Q I1 q1
 |false=>exact ⟨.bl false,H1,I1,rfl,q1⟩
theorem TR (ha:PE X a ta) (hb:PE X (.BoolOp .Or (b::rest) pos) tb):PE X (.BoolOp .Or (a::b::rest) pos) (aae ta tb):=by
 intro pins s σ H Q I h;refine BoolOp_or (cY (ha pins s σ H _ I h) fun v s1 ⟨x,H1,I1,r1,q1⟩=>?_);obtain ⟨c,rfl,q1⟩:=q1;cases r1;refine wpAny_truthy_bool ?_;cases c with
 |false=>exact hb pins s1 σ H1 Q I1 q1
 |true=>exact ⟨.bl true,H1,I1,rfl,q1⟩
end
end L2
namespace L2
open PySem PySem.Spec PyProof.Rows
def aH (K:PySem.W.Frag) (H:Hp) (a:Addr) (xs:List V):Prop:=
 Rd H a (.lst xs)∨
  ∃ (o:Obj) (its:Array Value) (n:Nat),K.lookup a=some o/\o.cls=.type "list"/\o.dict=none/\o.data=.seq its n/\its.size<=sizeLine/\Vals xs its.toList
def pO (K:PySem.W.Frag) (H:Hp) (a:Addr) (xs:List V):Prop:=
 Rd H a (.tup xs)∨
  ∃ (o:Obj) (its:Array Value) (n:Nat),K.lookup a=some o/\o.cls=.type "tuple"/\o.data=.seq its n/\its.size<=sizeLine/\Vals xs its.toList
def aaf:Value->Option V
 | .none=>some .cx
 | .bool b=>some (.bl b)
 | .int i _=>some (.int i)
 | .str x _=>some (.str x)
 | .bytes b _=>some (.LK b)
 | .float b _=>some (.Zi b)
 | .ref a=>some (.ref a)
 | .type n=>some (.ty n)
 |_=>none
theorem RelV.abs {x:V} {u:Value} (r:RelV x u):aaf u=some x:=by
 cases x with
 |cx=>cases r;rfl
 |bl _=>cases r;rfl
 |int _=>obtain ⟨t,rfl⟩:=r;rfl
 |str _=>obtain ⟨t,rfl⟩:=r;rfl
 |LK _=>obtain ⟨t,rfl⟩:=r;rfl
 |Zi _=>obtain ⟨t,rfl⟩:=r;rfl
 |ref _=>cases r;rfl
 |ty _=>cases r;rfl
theorem RelV.inj {x y:V} {u:Value} (r:RelV x u) (q:RelV y u):x=y:=Option.some.inj (r.abs.symm.trans q.abs)
theorem Vals.inj:∀ {xs ys:List V} {us:List Value},Vals xs us->Vals ys us->xs=ys
 |_,_,_,.nil,.nil=>rfl
 |_,_,_,.cons r t,.cons r' t'=>by rw [r.inj r',Vals.inj t t']
section
variable {X:Cx} {pins:List (Addr×Obj)} {σ:St} {H:Hp} {s:Shared} {a:Addr} {xs ys:List V}
theorem aH.of {K:PySem.W.Frag} (h:H a=some (.lst xs)):aH K H a xs:= .inl (.inl h)
theorem pO.of {K:PySem.W.Frag} (h:H a=some (.tup xs)):pO K H a xs:= .inl (.inl h)
theorem Inv.list (I:Inv X pins σ H s) (h:aH X.K H a xs):∃ its:List Value,Vals xs its/\PlainL s.heap a its.toArray/\xs.length<=sizeLine:=by
 rcases h with h|⟨o,its,n,hk,hc,hd,hs,hz,r⟩
 ·obtain ⟨z,its,n,r,e⟩:=h.ok I.cf;exact ⟨its,r,⟨_,n,e,rfl,rfl,rfl⟩,z⟩
 ·refine ⟨its.toList,r,⟨o,n,I.LL a o hk,hc,hd,by simpa using hs⟩,?_⟩;have e:=r.length;simp only [Array.length_toList] at e
  lia
theorem Inv.tuple (I:Inv X pins σ H s) (h:pO X.K H a xs):∃ its:List Value,Vals xs its/\IsTup s.heap a its.toArray/\xs.length<=sizeLine:=by
 rcases h with h|⟨o,its,n,hk,hc,hs,hz,r⟩
 ·obtain ⟨z,its,r,p⟩:=h.ok I.cf;exact ⟨its,r,p,z⟩
 ·refine ⟨its.toList,r,⟨o,I.LL a o hk,hc,n,by simpa using hs⟩,?_⟩;have e:=r.length;simp only [Array.length_toList] at e
  lia
theorem Inv.PM (I:Inv X pins σ H s) (h:aH X.K H a xs) (h':aH X.K H a ys):xs=ys:=by
 obtain ⟨its,r,⟨o,n,e,_,_,d⟩,_⟩:=I.list h;obtain ⟨its',r',⟨o',n',e',_,_,d'⟩,_⟩:=I.list h';rw [e] at e';cases e'
 rw [d] at d';injection d' with d1 _
 have:its=its':=by simpa using congrArg Array.toList d1
 subst this;exact r.inj r'
theorem Inv.Ol (I:Inv X pins σ H s) (h:pO X.K H a xs) (h':pO X.K H a ys):xs=ys:=by
 obtain ⟨its,r,⟨o,e,_,n,d⟩,_⟩:=I.tuple h;obtain ⟨its',r',⟨o',e',_,n',d'⟩,_⟩:=I.tuple h';rw [e] at e';cases e'
 rw [d] at d';injection d' with d1 _
 have:its=its':=by simpa using congrArg Array.toList d1
 subst this;exact r.inj r'
end
abbrev Cx.Ft (X:Cx) (E:Value->Shared->Prop):Cx:={X with xe:=E}
abbrev Cx.WE (X:Cx):Cx:=X.Ft fun _ _=>False
theorem Cx.Ok.Ft {X:Cx} (ok:X.Ok) (E:Value->Shared->Prop):(X.Ft E).Ok:=
 ⟨ok.mod,ok.kind,ok.glob,ok.blt,ok.above,ok.inj,ok.has,ok.W5,ok.hd,ok.frames,ok.Zj,ok.Zk,ok.bs,ok.Pq,ok.PB,ok.PD,ok.xl,ok.RS⟩
theorem Cx.Ok.rZ {X:Cx} {E:Value->Shared->Prop} (ok:(X.Ft E).Ok):X.Ok:=
 ⟨ok.mod,ok.kind,ok.glob,ok.blt,ok.above,ok.inj,ok.has,ok.W5,ok.hd,ok.frames,ok.Zj,ok.Zk,ok.bs,ok.Pq,ok.PB,ok.PD,ok.xl,ok.RS⟩
section
variable {X:Cx} {pins:List (Addr×Obj)} {σ:St} {H:Hp} {s:Shared} {E:Value->Shared->Prop}
theorem Inv.Ft (I:Inv X pins σ H s) (E:Value->Shared->Prop):Inv (X.Ft E) pins σ H s:=⟨I.ok.Ft E,I.os,I.bare,I.base,I.loc,I.cell,I.free,I.qy,I.pin,I.cf,I.len⟩
theorem Inv.rZ (I:Inv (X.Ft E) pins σ H s):Inv X pins σ H s:=⟨I.ok.rZ,I.os,I.bare,I.base,I.loc,I.cell,I.free,I.qy,I.pin,I.cf,I.len⟩
theorem SP.rZ {D:Ends} {f:Flow} {s':Shared} (h:SP (X.Ft E) pins D f s'):SP X pins D f s':=by
 cases f with
 |next=>obtain ⟨σ',H',I,q⟩:=h;exact ⟨σ',H',I.rZ,q⟩
 |brk=>obtain ⟨σ',H',I,q⟩:=h;exact ⟨σ',H',I.rZ,q⟩
 |cont=>obtain ⟨σ',H',I,q⟩:=h;exact ⟨σ',H',I.rZ,q⟩
 |ret u=>obtain ⟨v,σ',H',I,r,q⟩:=h;exact ⟨v,σ',H',I.rZ,r,q⟩
theorem LS.WE {st:List Stmt} {t:TS} (h:LS X.WE st t):LS X st t:=fun pins s σ H D I hw=>
 wpAny_mono (h pins s σ H D (I.Ft _) hw) (fun _ _ q=>q.rZ) fun _ _ z=>False.elim z
end
section
variable {X:Cx} {st:Stmt} {rest:List Stmt} {t u:TS} {e:Expr} {te:TE} {pos:Pos}
def Xc:TS:=fun D σ H=>D.nx σ H
def RU (t u:TS):TS:=fun D σ H=>t {D with nx:=u D} σ H
theorem aJ:LS X [] Xc:=fun _ _ σ H _ I h=>wpAny_execs_nil ⟨σ,H,I,h⟩
theorem aa (h1:PS X st t) (h2:LS X rest u):LS X (st::rest) (RU t u):=by
 intro pins s σ H D I h;refine wpAny_execs_cons (cY (h1 pins s σ H {D with nx:=u D} I h) fun f s1 q=>?_);cases f with
 |next=>
  obtain ⟨σ',H',I',q⟩:=q;exact h2 pins s1 σ' H' D I' q
 |ret v=>exact q
 |brk=>exact q
 |cont=>exact q
theorem ae (h1:PS X st t):LS X [st] t:=by
 intro pins s σ H D I h;refine wpAny_execs_cons (cY (h1 pins s σ H D I h) fun f s1 q=>?_);cases f with
 |next=>exact wpAny_execs_nil q
 |ret v=>exact q
 |brk=>exact q
 |cont=>exact q
theorem Inv.quiet {pins:List (Addr×Obj)} {σ:St} {H:Hp} {s:Shared} (I:Inv X pins σ H s):interactive X.env=false:=by simp [interactive,I.ok.kind]
def Ka (te:TE):TS:=fun D σ H=>te σ H fun _ H1=>D.nx σ H1
theorem bH (he:PE X e te) (hs:swapsWith e none pos.line X.env=pure false:=by rfl):PS X (.Expr e pos) (Ka te):=by
 intro pins s σ H D I h;exact wpAny_Expr_any (cY (he pins s σ H _ I h) fun v s1 ⟨x,H1,I1,r1,q1⟩=>⟨σ,H1,I1,q1⟩) I.quiet hs
def aag (te:TE):TS:=fun D σ H=>te σ H D.rt
theorem aq (he:PE X e te):PS X (.Return (some e) pos) (aag te):=by
 intro pins s σ H D I h;exact wpAny_Return_some (cY (he pins s σ H _ I h) fun v s1 ⟨x,H1,I1,r1,q1⟩=>⟨x,σ,H1,I1,r1,q1⟩)
def aah (c:TT) (t u:TS):TS:=fun D σ H=>c σ H fun b H1=>if b=true then t D σ H1 else u D σ H1
theorem aZ {c:Expr} {a b:List Stmt} {tc:TT} (hc:PT X c tc) (ha:LS X a t) (hb:LS X b u):PS X (.If c a b pos) (aah tc t u):=by
 intro pins s σ H D I h;refine wpAny_If (cY (hc pins s σ H _ I h) fun d s1 ⟨H1,I1,q1⟩=>?_);cases d with
 |true=>exact ha pins s1 σ H1 D I1 q1
 |false=>exact hb pins s1 σ H1 D I1 q1
end
abbrev TG:=V->St->Hp->(St->Hp->Prop)->Prop
def PG (X:Cx) (target:Expr) (t:TG):Prop:=
 ∀ (pins:List (Addr×Obj)) (s:Shared) (σ:St) (H:Hp) (v:V) (u:Value) (Q:St->Hp->Prop),Inv X pins σ H s->RelV v u->t v σ H Q->
  wpAny (model X.prog X.w) X.A (assign target X.env u) (fun _ s'=>∃ σ' H',Inv X pins σ' H' s'/\Q σ' H') X.xe s
abbrev U0:=V->V->V->Hp->(Hp->Prop)->Prop
def Xd (X:Cx) (t:U0):Prop:=
 ∀ (pins:List (Addr×Obj)) (s:Shared) (σ:St) (H:Hp) (o i v:V) (ov iv u:Value) (Q:Hp->Prop),Inv X pins σ H s->RelV o ov->RelV i iv->RelV v u->t o i v H Q->
  wpAny (model X.prog X.w) X.A (setItem ov iv u) (fun _ s'=>∃ H',Inv X pins σ H' s'/\Q H') X.xe s
section
variable {X:Cx} {pos:Pos}
def oz (i:Nat):TG:=fun v σ H Q=>Q (σ.set i (some v)) H
theorem RV {i:Nat} {x:Str} (hN:X.N.Nodup) (hi:X.N[i]? =some x) (hx:Loc X.env.scope x) (hf:X.fn x=true∨X.env.scope.names.lookup x=some .local:=by first|exact .inl rfl|exact .inr rfl|assumption):PG X (.Name x pos) (oz i):=by
 intro pins s σ H v u Q I r h;exact wpAny_assign_Name (J8 I hN hi hx r (fun s' I'=>⟨_,H,I',h⟩) hf)
def aai (to ti:TE) (t:U0):TG:=fun v σ H Q=>to σ H fun o H1=>ti σ H1 fun i H2=>t o i v H2 fun H3=>Q σ H3
theorem wB {o i:Expr} {to ti:TE} {t:U0} (ho:PE X o to) (hi:PE X i ti) (hs:Xd X t)
  (ha:∀ v,assign (.Subscript o i pos) X.env v=(do
   let ov<-holding [v] (eval o X.env)
   let iv<-holding [v,ov] (eval i X.env)
   standAt pos
   holding [v,ov,iv] (setItem ov iv v)
   release [v,ov,iv] []):=by intro _;rfl):PG X (.Subscript o i pos) (aai to ti t):=by
 intro pins s σ H v u Q I r h;rw [ha];refine wpAny_bind (wpAny_holding (cY (ho pins s σ H _ I h) fun ov s1 ⟨x,H1,I1,r1,q1⟩=>?_));refine wpAny_bind (wpAny_holding (cY (hi pins s1 σ H1 _ I1 q1) fun iv s2 ⟨y,H2,I2,r2,q2⟩=>?_));refine wpAny_bind (wpAny_standAt (wpAny_bind (wpAny_holding (cY (hs pins s2 σ H2 x y v ov iv u _ I2 r1 r2 r q2) fun _ s3 ⟨H3,I3,q3⟩=>?_))));exact wpAny_release ⟨σ,H3,I3,q3⟩
def RW (te:TE) (g:TG):TS:=fun D σ H=>te σ H fun x H1=>g x σ H1 D.nx
theorem wC {tg e:Expr} {te:TE} {g:TG} (he:PE X e te) (hg:PG X tg g) (hs:swapsWithSole [tg] e pos.line X.env=pure false:=by rfl) (hw:swappedStores [tg] e X.env=pure none:=by rfl)
  (h1:(assignEach [tg] X.env).map (·.2)=[assign tg X.env]:=by rfl):PS X (.Assign [tg] e pos) (RW te g):=by
 intro pins s σ H D I h;refine wpAny_Assign_stores (cY (he pins s σ H _ I h) fun v s1 ⟨x,H1,I1,r1,q1⟩=>?_) hs hw;rw [h1];exact cY (hg pins s1 σ H1 x v _ I1 r1 q1) fun _ s2 q=>q
theorem U1 {i:Nat} {x:Str} {e:Expr} {te:TE} {pos':Pos} (hN:X.N.Nodup) (hi:X.N[i]? =some x) (hx:Loc X.env.scope x) (he:PE X e te) (hs:swapsWith e (some (.Name x pos')) pos.line X.env=pure false:=by rfl) (hf:X.fn x=true∨X.env.scope.names.lookup x=some .local:=by first|exact .inl rfl|exact .inr rfl|assumption):
  PS X (.Assign [.Name x pos'] e pos) (RW te (oz i)):=by
 intro pins s σ H D I h;refine wpAny_Assign_Name (cY (he pins s σ H _ I h) fun v s1 ⟨y,H1,I1,r1,q1⟩=>?_) hs;exact J8 I1 hN hi hx r1 (fun s2 I2=>⟨_,H1,I2,q1⟩) hf
def U2 (c:TT) (tb:TS):TS:=fun D σ H=>∃ W:Nat->St->Hp->Prop,(∃ m,W m σ H)/\∀ m σ H,W m σ H->
 c σ H fun b H1=>if b=true then ∃ N:St->Hp->Prop,(∀ σ' H',N σ' H'->∃ m',m'<m/\W m' σ' H')/\tb {D with nx:=N,ct:=N,bk:=D.nx} σ H1 else D.nx σ H1
theorem oA {c:Expr} {body:List Stmt} {tc:TT} {tb:TS} (hp:PassesOwn (model X.prog X.w) X.A X.env X.xe) (hc:PT X c tc) (hb:LS X body tb):PS X (.While c body [] pos) (U2 tc tb):=by
 intro pins s σ H D I h;obtain ⟨W,⟨m0,w0⟩,turn⟩:=h;refine wpAny_While (codeAny_whileLoop (fun n s'=>∃ σ' H',Inv X pins σ' H' s'/\W n σ' H') ?_ m0 ⟨σ,H,I,w0⟩);rintro n s1 ⟨σ1,H1,I1,w1⟩;refine wpAny_passesOwn hp (cY (hc pins s1 σ1 H1 _ I1 (turn n σ1 H1 w1)) fun b s2 ⟨H2,I2,q2⟩=>?_);cases b with
 |true=>
  obtain ⟨N,hN,q2⟩:=q2;rw [if_pos rfl];refine wpAny_passesOwn hp (cY (hb pins s2 σ1 H2 _ I2 q2) fun f s3 q3=>?_);cases f with
  |next=>
   obtain ⟨σ3,H3,I3,n3⟩:=q3;obtain ⟨m',hm,w3⟩:=hN σ3 H3 n3;exact ⟨m',hm,σ3,H3,I3,w3⟩
  |cont=>
   obtain ⟨σ3,H3,I3,n3⟩:=q3;obtain ⟨m',hm,w3⟩:=hN σ3 H3 n3;exact ⟨m',hm,σ3,H3,I3,w3⟩
  |brk=>exact q3
  |ret v=>exact q3
 |false=>
  rw [if_neg Bool.false_ne_true];exact wpAny_execs_nil ⟨σ1,H2,I2,q2⟩
end
structure It where
 go:Nat->Hp->Prop
 LM:Nat->Hp->V->Hp->Prop
 stop:Nat->Hp->Prop
def Fu (X:Cx) (pins:List (Addr×Obj)) (H:Hp) (b:Addr):Prop:=
 H b=none/\b≠X.env.locals/\b∉X.fs/\(b∈X.ex∨X.Fs.heap.objs.size<=b)/\(∀ x c,X.env.cells.lookup x=some c->c≠b)/\∀ p∈X.pn++pins,p.1≠b
theorem Inv.PN {X:Cx} {pins:List (Addr×Obj)} {σ:St} {H H':Hp} {s:Shared} {b:Addr} (I:Inv X pins σ H s) (hb:s.heap.objs.size<=b) (hn:H' b=none):Fu X pins H' b:=by
 refine ⟨hn,Nat.ne_of_gt (Nat.lt_of_lt_of_le I.lt hb),I.Z9 hb,.inr (Nat.le_trans I.sz hb),fun x c e z=>?_,fun p hp z=>?_⟩
 ·obtain ⟨v,q⟩:=I.cell x c e;exact absurd (Nat.lt_of_lt_of_le q.lt (by rw [z];exact hb)) (Nat.lt_irrefl _)
 ·exact absurd (Nat.lt_of_lt_of_le (Heap.lt_size (I.pin p hp).1) (by rw [z];exact hb)) (Nat.lt_irrefl _)
structure Turn (P:Program) (w:World) (K:PySem.W.Frag) (tg:Expr) (J:It) (fp:List Addr) (it:Addr) (tn:Nat->Heap->Prop):Prop where
 mem:it∈fp
 obj:∀ i h,tn i h->∀ b∈fp,∃ o,h.get? b=some o/\∀ v,o.data≠.cell v
 keep:∀ i h h',tn i h->(∀ b∈fp,∀ o,h.get? b=some o->h'.get? b=some o)->tn i h'
 item:∀ (X:Cx),X.prog=P->X.w=w->X.K=K->X.calm=true->∀ (i:Nat) (pins:List (Addr×Obj)) (s:Shared) (σ:St) (H:Hp) (E:Value->Shared->Prop),Inv X pins σ H s->(∀ b∈fp,Fu X pins H b)->tn i s.heap->J.go i H->
  wpAny (model P w) X.A (pyNext (.ref it)) (fun r s1=>∃ u,r=some u/\
   wpAny (model P w) X.A (letOwnedTupleGo tg (.ref it) u) (fun _ s2=>∃ x H',Inv X pins σ H' s2/\RelV x u/\J.LM i H x H'/\tn (i+1) s2.heap/\∀ b∈fp,H' b=none) E s1) E s
 done:∀ (X:Cx),X.prog=P->X.w=w->X.K=K->X.calm=true->∀ (i:Nat) (pins:List (Addr×Obj)) (s:Shared) (σ:St) (H:Hp) (E:Value->Shared->Prop),Inv X pins σ H s->(∀ b∈fp,Fu X pins H b)->tn i s.heap->J.stop i H->
  wpAny (model P w) X.A (pyNext (.ref it)) (fun r s1=>r=none/\Inv X pins σ H s1) E s
 self:∀ (A:Around) (i:Nat) (s:Shared) (Q:Value->Shared->Prop) (E:Value->Shared->Prop),tn i s.heap->Q (.ref it) s->wpAny (model P w) A (pyIter (.ref it)) Q E s
abbrev TI:=St->Hp->(It->Hp->Prop)->Prop
def PIE (X:Cx) (pins:List (Addr×Obj)) (σ:St) (tg:Expr) (R:It->Hp->Prop) (itv:Value) (s2:Shared):Prop:=
 ∃ (it:Addr) (fp:List Addr) (tn:Nat->Heap->Prop) (J:It) (H':Hp),itv=.ref it/\Inv X pins σ H' s2/\Turn X.prog X.w X.K tg J fp it tn/\tn 0 s2.heap/\(∀ b∈fp,Fu X pins H' b)/\R J H'
def PI (X:Cx) (tg iter:Expr) (wi:TI):Prop:=
 ∀ (pins:List (Addr×Obj)) (s:Shared) (σ:St) (H:Hp) (R:It->Hp->Prop),Inv X pins σ H s->wi σ H R->
  wpAny (model X.prog X.w) X.A (eval iter X.env) (fun v s1=>wpAny (model X.prog X.w) X.A (pyIter v) (PIE X pins σ tg R) X.xe s1) X.xe s
theorem Nq {M:Model} {A:Around} {E:Value->Shared->Prop} {s:Shared} {tg:Expr} {it:Addr} {u:Value} {o:Obj} {n:String} {vs:Array Value} {Q:Unit->Shared->Prop} (ho:s.heap.get? it=some o) (hc:o.cls=.type n) (hd:o.data=.fields vs)
  (hn:["enumerate","zip","dict_itemiterator","dict_reverseitemiterator","odict_iterator","itertools.zip_longest","itertools.pairwise"].contains n=false) (hQ:Q () s):wpAny M A (letOwnedTupleGo tg (.ref it) u) Q E s:=by
 unfold letOwnedTupleGo;cases tg<;>first
  |exact wpAny_pure hQ
  |(cases u<;>first
    |exact wpAny_pure hQ
    |(refine wpAny_bind (wpAny_load ho ?_)
      rw [hc,hd];show wpAny M A (if (["enumerate","zip","dict_itemiterator","dict_reverseitemiterator","odict_iterator","itertools.zip_longest","itertools.pairwise"].contains n&&vs[0]? ==some (rawInt _))=true then _ else _) Q E s;rw [if_neg (by intro h;rw [hn,Bool.false_and] at h;cases h)];exact wpAny_pure hQ))
def Kb (K:PySem.W.Frag) (a:Addr):It:=
 ⟨fun i H=>∃ xs x,aH K H a xs/\xs[i]? =some x,fun i H x H'=>H'=H/\∀ xs,aH K H a xs->xs[i]? =some x,fun i H=>∃ xs,aH K H a xs/\xs.length<=i⟩
def TU (K:PySem.W.Frag) (a:Addr):It:=
 ⟨fun i H=>∃ xs x,pO K H a xs/\xs[i]? =some x,fun i H x H'=>H'=H/\∀ xs,pO K H a xs->xs[i]? =some x,fun i H=>∃ xs,pO K H a xs/\xs.length<=i⟩
def LX (lo:Int) (n:Nat):It:=⟨fun i _=>i<n,fun i H x H'=>H'=H/\x=.int (lo+i),fun i _=>n<=i⟩
theorem Om {P:Program} {w:World} {K:PySem.W.Frag} {tg:Expr} (a it:Addr):Turn P w K tg (Kb K a) [it] it (fun i h=>h.IsListIter it a i) where
 mem:=by simp
 obj:=fun i h st b hb=>by
  have e:b=it:=by simpa using hb
  subst e;obtain ⟨o,e,c,d⟩:=st;exact ⟨o,e,fun v z=>by rw [d] at z;cases z⟩
 keep:=fun i h h' st k=>st.at fun o e=>k it (by simp) o e
 item:=by
  intro X hP hw hK hc i pins s σ H E I hf st hg;subst hP hw hK;obtain ⟨xs,x,hq,hx⟩:=hg;obtain ⟨its,rv,p,hz⟩:=I.list hq;obtain ⟨u,hu,ru⟩:=rv.get hx;obtain ⟨f0,f1,f2,f3,f4,f5⟩:=hf it (by simp);refine wpAny_pyNext_list_item st p.isList (x:=u) (by simpa using hu) fun h' Kc sb=>?_
  have I1:Inv X pins σ H {s with heap:=h'}:=I.turned (t':=s.toks) (fun b o hb e=>(sb.2 b hb).trans e) f0 f1 f3 f4 f5;obtain ⟨o,e,c,d⟩:=id Kc;exact ⟨u,rfl,Nq (s:={s with heap:=h'}) e c d (by decide) ⟨x,H,I1,ru,⟨rfl,fun ys hy=>by rw [I.PM hy hq];exact hx⟩,Kc,fun b hb=>(hf b hb).1⟩⟩
 done:=by
  intro X hP hw hK hc i pins s σ H E I hf st hg;subst hP hw hK;obtain ⟨xs,hq,hx⟩:=hg;obtain ⟨its,rv,p,hz⟩:=I.list hq;obtain ⟨f0,f1,f2,f3,f4,f5⟩:=hf it (by simp);have hl:=rv.length;exact wpAny_pyNext_list_end (I.ok.hd hc) st p.isList (by simp;lia) fun h' eb=>⟨rfl,I.turned (t':=s.toks) (fun b o hb e=>eb b o hb e) f0 f1 f3 f4 f5⟩
 self:=fun _ _ _ _ _ st h=>wpAny_pyIter_listiter st h
theorem LY {P:Program} {w:World} {K:PySem.W.Frag} {tg:Expr} (a it:Addr):Turn P w K tg (TU K a) [it] it (fun i h=>h.IsTupleIter it a i) where
 mem:=by simp
 obj:=fun i h st b hb=>by
  have e:b=it:=by simpa using hb
  subst e;obtain ⟨o,e,c,d⟩:=st;exact ⟨o,e,fun v z=>by rw [d] at z;cases z⟩
 keep:=fun i h h' st k=>st.at fun o e=>k it (by simp) o e
 item:=by
  intro X hP hw hK hc i pins s σ H E I hf st hg;subst hP hw hK;obtain ⟨xs,x,hq,hx⟩:=hg;obtain ⟨its,rv,p,hz⟩:=I.tuple hq;obtain ⟨u,hu,ru⟩:=rv.get hx;obtain ⟨f0,f1,f2,f3,f4,f5⟩:=hf it (by simp);refine wpAny_pyNext_tuple_item st (show s.heap.IsTuple a its.toArray from p) (x:=u) (by simpa using hu) fun h' Kc sb=>?_
  have I1:Inv X pins σ H {s with heap:=h'}:=I.turned (t':=s.toks) (fun b o hb e=>(sb.2 b hb).trans e) f0 f1 f3 f4 f5;obtain ⟨o,e,c,d⟩:=id Kc;exact ⟨u,rfl,Nq (s:={s with heap:=h'}) e c d (by decide) ⟨x,H,I1,ru,⟨rfl,fun ys hy=>by rw [I.Ol hy hq];exact hx⟩,Kc,fun b hb=>(hf b hb).1⟩⟩
 done:=by
  intro X hP hw hK hc i pins s σ H E I hf st hg;subst hP hw hK;obtain ⟨xs,hq,hx⟩:=hg;obtain ⟨its,rv,p,hz⟩:=I.tuple hq;obtain ⟨f0,f1,f2,f3,f4,f5⟩:=hf it (by simp);have hl:=rv.length;exact wpAny_pyNext_tuple_end (I.ok.hd hc) st (show s.heap.IsTuple a its.toArray from p) (by simp;lia) fun h' eb=>⟨rfl,I.turned (t':=s.toks) (fun b o hb e=>eb b o hb e) f0 f1 f3 f4 f5⟩
 self:=fun _ _ _ _ _ st h=>wpAny_pyIter_tupleiter st h
theorem LZ {P:Program} {w:World} {K:PySem.W.Frag} {tg:Expr} (it:Addr) (lo:Int) (n:Nat):Turn P w K tg (LX lo n) [it] it (fun i h=>IsRangeIter h it (lo+(i:Nat)*1) ((n:Int)-(i:Nat)) 1) where
 mem:=by simp
 obj:=fun i h st b hb=>by
  have e:b=it:=by simpa using hb
  subst e;exact ⟨_,st,fun v z=>by
   have z':Data.fields _=Data.cell v:=z;cases z'⟩
 keep:=fun i h h' st k=>k it (by simp) _ st
 item:=by
  intro X hP hw hK hc i pins s σ H E I hf st hg;subst hP hw hK;obtain ⟨f0,f1,f2,f3,f4,f5⟩:=hf it (by simp);have W:=Walks.range (prog:=X.prog) (w:=X.w) (I.ok.hd hc) it lo 1 n;refine W.item i s _ _ hg st fun v h' tk hv Kc kk=>?_
  obtain ⟨t,rfl⟩:=hv;have I1:Inv X pins σ H {s with heap:=h',toks:=tk}:=I.turned (fun b o hb e=>kk b o (by simpa using hb) e) f0 f1 f3 f4 f5;refine ⟨_,rfl,Nq (s:={s with heap:=h',toks:=tk}) (n:="range_iterator") Kc rfl rfl (by decide) ⟨.int (lo+i),H,I1,⟨t,?_⟩,⟨rfl,rfl⟩,Kc,fun b hb=>(hf b hb).1⟩⟩;rw [Int.mul_one]
 done:=by
  intro X hP hw hK hc i pins s σ H E I hf st hg;subst hP hw hK;obtain ⟨f0,f1,f2,f3,f4,f5⟩:=hf it (by simp);exact wpAny_pyNext_range_end (I.ok.hd hc) st (by have:n<=i:=hg;lia) fun h' eb=>⟨rfl,I.turned (t':=s.toks) (fun b o hb e=>eb b o hb e) f0 f1 f3 f4 f5⟩
 self:=fun _ _ _ _ _ st h=>wpAny_pyIter_rangeiter st h
end L2
namespace L2
open PySem PySem.Spec PyProof.Rows
section
variable {X:Cx} {tg:Expr}
def TV (K:PySem.W.Frag) (tl:TE):TI:=fun σ H R=>tl σ H fun x H1=>∃ a,x=.ref a/\(∃ xs,aH K H1 a xs)/\R (Kb K a) H1
def Xe (K:PySem.W.Frag) (tl:TE):TI:=fun σ H R=>tl σ H fun x H1=>∃ a,x=.ref a/\(∃ xs,pO K H1 a xs)/\R (TU K a) H1
theorem RX {l:Expr} {tl:TE} (hl:PE X l tl):PI X tg l (TV X.K tl):=by
 intro pins s σ H R I h;refine cY (hl pins s σ H _ I h) fun v s1 ⟨x,H1,I1,r1,q1⟩=>?_
 obtain ⟨a,e,⟨xs,hq⟩,q⟩:=q1;subst e;cases r1;obtain ⟨its,rv,p,hz⟩:=I1.list hq;refine wpAny_pyIter_list p.isList ?_;refine ⟨s1.heap.objs.size,[s1.heap.objs.size],_,_,H1,rfl,I1.kept (t':=s1.toks) fun b o e=>Heap.get?_push_of_some _ e,Om a _,⟨_,Heap.get?_push_size _ rfl,rfl,rfl⟩,fun b hb=>?_,q⟩;have e:b=s1.heap.objs.size:=by simpa using hb
 subst e;exact I1.PN (Nat.le_refl _) (I1.cf.fresh (Nat.le_refl _))
theorem U3 {l:Expr} {tl:TE} (hl:PE X l tl):PI X tg l (Xe X.K tl):=by
 intro pins s σ H R I h;refine cY (hl pins s σ H _ I h) fun v s1 ⟨x,H1,I1,r1,q1⟩=>?_
 obtain ⟨a,e,⟨xs,hq⟩,q⟩:=q1;subst e;cases r1;obtain ⟨its,rv,p,hz⟩:=I1.tuple hq;refine wpAny_pyIter_tuple (show s1.heap.IsTuple a its.toArray from p) ?_;refine ⟨s1.heap.objs.size,[s1.heap.objs.size],_,_,H1,rfl,I1.kept (t':=s1.toks) fun b o e=>Heap.get?_push_of_some _ e,LY a _,⟨_,Heap.get?_push_size _ rfl,rfl,rfl⟩,fun b hb=>?_,q⟩;have e:b=s1.heap.objs.size:=by simpa using hb
 subst e;exact I1.PN (Nat.le_refl _) (I1.cf.fresh (Nat.le_refl _))
theorem PQ {pins:List (Addr×Obj)} {σ:St} {H:Hp} {s:Shared} {R:It->Hp->Prop} {E:Value->Shared->Prop} {lo hi:Int} {t u v:Tok} {tk:Nat} (I:Inv X pins σ H s) (h1: -(2 ^ 62)<=lo) (h2:lo<2 ^ 62) (h3: -(2 ^ 62)<=hi) (h4:hi<2 ^ 62)
  (q:R (LX lo (hi-lo).toNat) H):wpAny (model X.prog X.w) X.A (pyIter (.ref s.heap.objs.size)) (PIE X pins σ tg R) E {s with heap:=s.heap.push {cls:= .type "range",data:= .fields #[.int lo t,.int hi u,.int 1 v]},toks:=tk}:=by
 refine wpAny_pyIter_range (IsRange.new ..) (small_one h1 h2 h3 h4) ?_;have I1:Inv X pins σ H {s with heap:=s.heap.push {cls:= .type "range",data:= .fields #[.int lo t,.int hi u,.int 1 v]},toks:=tk}:=I.kept fun b o e=>Heap.get?_push_of_some _ e
 refine ⟨(s.heap.push {cls:= .type "range",data:= .fields #[.int lo t,.int hi u,.int 1 v]}).objs.size,[(s.heap.push {cls:= .type "range",data:= .fields #[.int lo t,.int hi u,.int 1 v]}).objs.size],_,_,H,rfl,
  I1.kept (t':=tk) fun b o e=>Heap.get?_push_of_some _ e,LZ _ lo (hi-lo).toNat,?_,fun b hb=>?_,q⟩
 ·have e1:lo+((0:Nat):Int)*1=lo:=by simp
  have e2:(((hi-lo).toNat:Nat):Int)-((0:Nat):Int)=Builtin.Range.rangeSize lo hi 1:=by rw [rangeSize_one];split<;>lia
  show IsRangeIter _ _ (lo+((0:Nat):Int)*1) ((((hi-lo).toNat:Nat):Int)-((0:Nat):Int)) 1;rw [e1,e2];exact Heap.get?_push_size _ rfl
 ·have e:b=(s.heap.push {cls:= .type "range",data:= .fields #[.int lo t,.int hi u,.int 1 v]}).objs.size:=by simpa using hb
  subst e;exact I1.PN (Nat.le_refl _) (I1.cf.fresh (Nat.le_refl _))
def Xf (ta:TA):TI:=fun σ H R=>ta σ H fun vs H1=>∃ j:Int,vs=[.int j]/\ -(2 ^ 62)<=j/\j<2 ^ 62/\R (LX 0 j.toNat) H1
theorem fO {a:Expr} {ta:TA} {p pos:Pos} (hg:Gl X "range") (hm:X.mg "range"=none) (ha:PA X [a] ta) (hs:starEach [a] X.env=[(false,eval a X.env)]:=by rfl):PI X tg (.Call (.Name "range" p) [a] [] pos) (Xf ta):=by
 intro pins s σ H R I h;refine Call_ (CZ I hg hm boot_range (PyProof.Rows.callWith_type1 (cY (ha pos pins s σ H _ I h) fun us s1 ⟨vs,H1,I1,r1,q1⟩=>?_) hs rfl));obtain ⟨j,e,q1,q2,q⟩:=q1;subst e;cases r1 with
 |cons r rr=>
  cases rr;obtain ⟨t,rfl⟩:=r;exact call_range_1 (PQ I1 (by lia) (by lia) q1 q2 (by simpa using q))
def aaj (wi:TI) (g:TG) (tb:TS):TS:=fun D σ H=>wi σ H fun J H1=>∃ W:Nat->Nat->St->Hp->Prop,(∃ m,W 0 m σ H1)/\∀ i m σ H,W i m σ H->
 (J.stop i H/\D.nx σ H)∨(J.go i H/\∃ N:St->Hp->Prop,(∀ σ' H',N σ' H'->∃ m',m'<m/\W (i+1) m' σ' H')/\∀ x H',J.LM i H x H'->g x σ H' fun σ2 H2=>tb {D with nx:=N,ct:=N,bk:=D.nx} σ2 H2)
def C0 (fp:List Addr) (h:Heap):List (Addr×Obj):=fp.filterMap fun b=>(h.get? b).map fun o=>(b,o)
theorem wD {fp:List Addr} {h:Heap} {b:Addr} {o:Obj} (hb:b∈fp) (e:h.get? b=some o):(b,o)∈C0 fp h:=List.mem_filterMap.mpr ⟨b,hb,by rw [e];rfl⟩
theorem Oo {fp:List Addr} {h:Heap} {p:Addr×Obj} (hp:p∈C0 fp h):p.1∈fp/\h.get? p.1=some p.2:=by
 obtain ⟨b,hb,e⟩:=List.mem_filterMap.mp hp;cases q:h.get? b with
 |none=>rw [q] at e;cases e
 |some o=>
  rw [q] at e;have e':(b,o)=p:=Option.some.inj e;subst e';exact ⟨hb,q⟩
theorem Inv.pinned {pins:List (Addr×Obj)} {σ:St} {H:Hp} {s:Shared} {fp:List Addr} (I:Inv X pins σ H s) (hf:∀ b∈fp,Fu X pins H b) (ho:∀ b∈fp,∃ o,s.heap.get? b=some o/\∀ v,o.data≠.cell v):Inv X (pins++C0 fp s.heap) σ H s:=
 I.Np fun p hp=>(List.mem_append.mp hp).elim (fun z=>I.pin p (List.mem_append_right _ z)) fun z=>by
  obtain ⟨hb,e⟩:=Oo z;obtain ⟨f0,f1,f2,_⟩:=hf p.1 hb;obtain ⟨o,e',d⟩:=ho p.1 hb;rw [e] at e';cases e'
  exact ⟨e,f0,f1,f2,d⟩
theorem Inv.xn {pins pl:List (Addr×Obj)} {σ:St} {H:Hp} {s:Shared} (I:Inv X (pins++pl) σ H s):Inv X pins σ H s:=I.Np fun p hp=>I.pin p (List.mem_append_right _ (List.mem_append_left _ hp))
theorem jc {iter:Expr} {body:List Stmt} {wi:TI} {g:TG} {tb:TS} {pos:Pos} (hp:PassesOwn (model X.prog X.w) X.A X.env X.xe) (hc:X.calm=true) (hi:PI X tg iter wi) (hg:PG X tg g) (hb:LS X body tb)
  (hs:∀ x,foldedSetIterable iter X.env x=pure x:=by intro _;rfl):PS X (.For tg iter body [] pos) (aaj wi g tb):=by
 intro pins s σ H D I h;refine wpAny_For (cY (hi pins s σ H _ I h) fun v s1 h1=>cY h1 fun itv s2 h2=>?_) hs;obtain ⟨it,fp,tn,J,H2,e,I2,T,Zo,f2,W,⟨m0,w0⟩,turn⟩:=h2;subst e;have stat:∀ {H':Hp},(∀ b∈fp,H' b=none)->∀ b∈fp,Fu X pins H' b:=fun hn b hb=>⟨hn b hb,(f2 b hb).2⟩
 refine codeAny_forLoop_any (fun n s'=>∃ i σ' H',Inv X pins σ' H' s'/\tn i s'.heap/\(∀ b∈fp,H' b=none)/\W i n σ' H') ?_ m0 ⟨0,σ,H2,I2,Zo,fun b hb=>(f2 b hb).1,w0⟩;rintro n s3 ⟨i,σ3,H3,I3,Zp,fr3,w3⟩;rcases turn i n σ3 H3 w3 with ⟨stop,qn⟩|⟨go,N,hN,step⟩
 ·refine wpAny_passesOwn hp (cY (T.done X rfl rfl rfl hc i pins s3 σ3 H3 X.xe I3 (stat fr3) Zp stop) fun r s4 ⟨hr,I4⟩=>?_);subst hr;exact wpAny_execs_nil ⟨σ3,H3,I4,qn⟩
 ·refine wpAny_passesOwn hp (cY (T.item X rfl rfl rfl hc i pins s3 σ3 H3 X.xe I3 (stat fr3) Zp go) fun r s4 ⟨u,hr,h4⟩=>?_);subst hr;refine wpAny_passesOwn hp (cY h4 fun _ s5 ⟨x,H5,I5,r5,y5,WG,fr5⟩=>?_);have I5':=I5.pinned (stat fr5) (T.obj _ _ WG);refine wpAny_passesOwn hp (cY (hg _ s5 σ3 H5 x u _ I5' r5 (step x H5 y5)) fun _ s6 ⟨σ6,H6,I6,q6⟩=>?_);refine wpAny_passesOwn hp (cY (hb _ s6 σ6 H6 _ I6 q6) fun f s7 q7=>?_);have again:∀ {σ7:St} {H7:Hp},Inv X (pins++C0 fp s5.heap) σ7 H7 s7->N σ7 H7->∃ m,m<n/\∃ i σ' H',Inv X pins σ' H' s7/\tn i s7.heap/\(∀ b∈fp,H' b=none)/\W i m σ' H':=fun {σ7 H7} I7 n7=>by
   obtain ⟨m',hm,w7⟩:=hN σ7 H7 n7;refine ⟨m',hm,i+1,σ7,H7,I7.xn,T.keep _ _ _ WG fun b hb o e=>(I7.pin (b,o) (List.mem_append_right _ (List.mem_append_right _ (wD hb e)))).1,fun b hb=>?_,w7⟩;obtain ⟨o,e,d⟩:=T.obj _ _ WG b hb;exact (I7.pin (b,o) (List.mem_append_right _ (List.mem_append_right _ (wD hb e)))).2.1
  cases f with
  |next=>obtain ⟨σ7,H7,I7,n7⟩:=q7;exact again I7 n7
  |cont=>obtain ⟨σ7,H7,I7,n7⟩:=q7;exact again I7 n7
  |brk=>obtain ⟨σ7,H7,I7,q7⟩:=q7;exact ⟨σ7,H7,I7.xn,q7⟩
  |ret v=>obtain ⟨x7,σ7,H7,I7,r7,q7⟩:=q7;exact ⟨x7,σ7,H7,I7.xn,r7,q7⟩
end
theorem jC {K:PySem.W.Frag} {a:Addr} {xs:List V} {g:TG} {tb:TS} {D:Ends} {σ:St} {H:Hp} (Pv:Nat->St->Hp->Prop) (h0:Pv 0 σ H) (hl:∀ i σ H,i<=xs.length->Pv i σ H->aH K H a xs)
  (hs:∀ i x σ H,xs[i]? =some x->Pv i σ H->g x σ H fun σ2 H2=>tb {D with nx:=Pv (i+1),ct:=Pv (i+1),bk:=D.nx} σ2 H2) (hd:∀ σ H,Pv xs.length σ H->D.nx σ H):
  ∃ W:Nat->Nat->St->Hp->Prop,(∃ m,W 0 m σ H)/\∀ i m σ H,W i m σ H->
   ((Kb K a).stop i H/\D.nx σ H)∨((Kb K a).go i H/\∃ N:St->Hp->Prop,(∀ σ' H',N σ' H'->∃ m',m'<m/\W (i+1) m' σ' H')/\∀ x H',(Kb K a).LM i H x H'->g x σ H' fun σ2 H2=>tb {D with nx:=N,ct:=N,bk:=D.nx} σ2 H2):=by
 refine ⟨fun i m σ H=>m=xs.length-i/\i<=xs.length/\Pv i σ H,⟨xs.length,by simp,Nat.zero_le _,h0⟩,?_⟩;rintro i m σ H ⟨rfl,hi,p⟩;have q:=hl i σ H hi p;by_cases eW:i<xs.length
 ·refine .inr ⟨⟨xs,xs[i],q,by simp [eW]⟩,Pv (i+1),fun σ' H' p'=>⟨xs.length-(i+1),by lia,rfl,eW,p'⟩,fun x H' y=>?_⟩;obtain ⟨e,y⟩:=y;subst e;exact hs i x σ _ (y xs q) p
 ·have e:i=xs.length:=by lia
  subst e;exact .inl ⟨⟨xs,q,Nat.le_refl _⟩,hd σ H p⟩
theorem uE {lo:Int} {n:Nat} {g:TG} {tb:TS} {D:Ends} {σ:St} {H:Hp} (Pv:Nat->St->Hp->Prop) (h0:Pv 0 σ H)
  (hs:∀ i σ H,i<n->Pv i σ H->g (.int (lo+i)) σ H fun σ2 H2=>tb {D with nx:=Pv (i+1),ct:=Pv (i+1),bk:=D.nx} σ2 H2) (hd:∀ σ H,Pv n σ H->D.nx σ H):
  ∃ W:Nat->Nat->St->Hp->Prop,(∃ m,W 0 m σ H)/\∀ i m σ H,W i m σ H->
   ((LX lo n).stop i H/\D.nx σ H)∨((LX lo n).go i H/\∃ N:St->Hp->Prop,(∀ σ' H',N σ' H'->∃ m',m'<m/\W (i+1) m' σ' H')/\∀ x H',(LX lo n).LM i H x H'->g x σ H' fun σ2 H2=>tb {D with nx:=N,ct:=N,bk:=D.nx} σ2 H2):=by
 refine ⟨fun i m σ H=>m=n-i/\i<=n/\Pv i σ H,⟨n,by simp,Nat.zero_le _,h0⟩,?_⟩;rintro i m σ H ⟨rfl,hi,p⟩;by_cases eW:i<n
 ·refine .inr ⟨eW,Pv (i+1),fun σ' H' p'=>⟨n-(i+1),by lia,rfl,eW,p'⟩,fun x H' y=>?_⟩;obtain ⟨e,y⟩:=y;subst e y;exact hs i σ _ eW p
 ·have e:i=n:=by lia
  subst e;exact .inl ⟨Nat.le_refl _,hd σ H p⟩
end L2
namespace L2
open PySem PySem.Spec PyProof.Rows
abbrev R2:=V->V->Hp->VK->Prop
def zq (X:Cx) (f:Value->Value->Sem Value) (r:R2):Prop:=
 ∀ (pins:List (Addr×Obj)) (s:Shared) (σ:St) (H:Hp) (x y:V) (v u:Value) (Q:VK),Inv X pins σ H s->RelV x v->RelV y u->r x y H Q->
  wpAny (model X.prog X.w) X.A (f v u) (EP X pins σ Q) X.xe s
def UnR (X:Cx) (f:Value->Sem Value) (r:V->Hp->VK->Prop):Prop:=
 ∀ (pins:List (Addr×Obj)) (s:Shared) (σ:St) (H:Hp) (x:V) (v:Value) (Q:VK),Inv X pins σ H s->RelV x v->r x H Q->
  wpAny (model X.prog X.w) X.A (f v) (EP X pins σ Q) X.xe s
def fq (X:Cx) (f:Value) (r:List V->Hp->VK->Prop):Prop:=
 ∀ (pins:List (Addr×Obj)) (s:Shared) (σ:St) (H:Hp) (xs:List V) (us:List Value) (Q:VK),Inv X pins σ H s->Vals xs us->r xs H Q->
  wpAny (model X.prog X.w) X.A (call f us) (EP X pins σ Q) X.xe s
def TX (r:R2) (ta tb:TE):TE:=fun σ H Q=>ta σ H fun x H1=>tb σ H1 fun y H2=>r x y H2 Q
def tUn (r:V->Hp->VK->Prop) (ta:TE):TE:=fun σ H Q=>ta σ H fun x H1=>r x H1 Q
def rI (C:Int->Int->Prop) (g:Int->Int->V):R2:=fun x y H Q=>∃ i j,x=.int i/\y=.int j/\C i j/\Q (g i j) H
def TY (g:Int->Int->V):R2:=fun x y H Q=>∃ i j,x=.int i/\y=.int j/\Q (g i j) H
def rU (g:Int->V):V->Hp->VK->Prop:=fun x H Q=>∃ i,x=.int i/\Q (g i) H
section
variable {X:Cx} {a b c:Expr} {ta tb tc:TE} {pos:Pos}
theorem U4 (ha:PE X a ta) (hb:PE X b tb) {pins:List (Addr×Obj)} {s:Shared} {σ:St} {H:Hp} {R:V->V->Hp->Prop} (I:Inv X pins σ H s)
  (h:ta σ H fun x H1=>tb σ H1 fun y H2=>R x y H2) {Q:Value->Shared->Prop} {f:Value->Value->Sem Value}
  (hf:∀ v u s2 x y H2,Inv X pins σ H2 s2->RelV x v->RelV y u->R x y H2->wpAny (model X.prog X.w) X.A (f v u) Q X.xe s2):
  wpAny (model X.prog X.w) X.A (eval a X.env) (fun v cg=>wpAny (model X.prog X.w) X.A (eval b X.env) (fun u pN=>wpAny (model X.prog X.w) X.A (f v u) Q X.xe pN) X.xe cg) X.xe s:=by
 refine cY (ha pins s σ H _ I h) fun v s1 ⟨x,H1,I1,r1,q1⟩=>?_
 refine cY (hb pins s1 σ H1 _ I1 q1) fun u s2 ⟨y,H2,I2,r2,q2⟩=>?_
 exact hf v u s2 x y H2 I2 r1 r2 q2
theorem aB {op:Operator} {r:R2} (ho:zq X (binaryOp op) r) (ha:PE X a ta) (hb:PE X b tb):PE X (.BinOp a op b pos) (TX r ta tb):=by
 intro pins s σ H Q I h;exact wpAny_BinOp (U4 ha hb I h fun v u s2 x y H2 I2 rx ry q=>ho pins s2 σ H2 x y v u Q I2 rx ry q)
theorem GN {op:UnaryOp} {r:V->Hp->VK->Prop} (ho:UnR X (unaryOp op) r) (ha:PE X a ta):PE X (.UnaryOp op a pos) (tUn r ta):=by
 intro pins s σ H Q I h;exact UnaryOp_ (cY (ha pins s σ H _ I h) fun v s1 ⟨x,H1,I1,r1,q1⟩=>ho pins s1 σ H1 x v Q I1 r1 q1)
theorem opI {f:Value->Value->Sem Value} {C:Int->Int->Prop} {g:Int->Int->Int}
  (rule:∀ (i j:Int) (t u:Tok) (s:Shared) (Q:Value->Shared->Prop) (E:Value->Shared->Prop),C i j->Q (.int (g i j) s.toks) {s with toks:=s.toks+1}->wpAny (model X.prog X.w) X.A (f (.int i t) (.int j u)) Q E s):
  zq X f (rI C fun i j=>.int (g i j)):=by
 intro pins s σ H x y v u Q I rx ry h;obtain ⟨i,j,rfl,rfl,hc,q⟩:=h;obtain ⟨t,rfl⟩:=rx;obtain ⟨t',rfl⟩:=ry;exact rule i j t t' s _ _ hc ⟨.int (g i j),H,I.tok _,⟨_,rfl⟩,q⟩
theorem Xg {f:Value->Value->Sem Value} {g:Int->Int->Int}
  (rule:∀ (i j:Int) (t u:Tok) (s:Shared) (Q:Value->Shared->Prop) (E:Value->Shared->Prop),Q (.int (g i j) s.toks) {s with toks:=s.toks+1}->wpAny (model X.prog X.w) X.A (f (.int i t) (.int j u)) Q E s):
  zq X f (TY fun i j=>.int (g i j)):=by
 intro pins s σ H x y v u Q I rx ry h;obtain ⟨i,j,rfl,rfl,q⟩:=h;obtain ⟨t,rfl⟩:=rx;obtain ⟨t',rfl⟩:=ry;exact rule i j t t' s _ _ ⟨.int (g i j),H,I.tok _,⟨_,rfl⟩,q⟩
theorem RY {f:Value->Value->Sem Value} {g:Int->Int->Bool}
  (rule:∀ (i j:Int) (t u:Tok) (s:Shared) (Q:Value->Shared->Prop) (E:Value->Shared->Prop),Q (.bool (g i j)) s->wpAny (model X.prog X.w) X.A (f (.int i t) (.int j u)) Q E s):
  zq X f (TY fun i j=>.bl (g i j)):=by
 intro pins s σ H x y v u Q I rx ry h;obtain ⟨i,j,rfl,rfl,q⟩:=h;obtain ⟨t,rfl⟩:=rx;obtain ⟨t',rfl⟩:=ry;exact rule i j t t' s _ _ ⟨.bl (g i j),H,I,rfl,q⟩
def aak (i j:Int):Prop:=0<j/\j<1073741824
def U5 (i j:Int):Prop:=(-(2 ^ 64)<i/\i<2 ^ 64)∨(-(2 ^ 64)<j/\j<2 ^ 64)
theorem U5.ok {i j:Int} (h:U5 i j):IntMulOk i j:=by
 rcases h with ⟨h1,h2⟩|⟨h1,h2⟩
 ·exact .of_left (intBits_le_64 h1 h2)
 ·exact .of_right (intBits_le_64 h1 h2)
theorem bh:zq X (binaryOp .Add) (TY fun i j=>.int (i+j)):=Xg fun _ _ _ _ _ _ _ q=>add_int q
theorem cV:zq X (binaryOp .Sub) (TY fun i j=>.int (i-j)):=Xg fun _ _ _ _ _ _ _ q=>sub_int q
theorem jd:zq X (binaryOp .Mult) (rI U5 fun i j=>.int (i*j)):=opI fun _ _ _ _ _ _ _ hc q=>mul_int q hc.ok
theorem Nr:zq X (binaryOp .FloorDiv) (rI aak fun i j=>.int (i/j)):=opI fun i j _ _ _ _ _ hc q=>by
 have h1:(0:Int)<j:=hc.1;have h2:j<1073741824:=hc.2;exact floordiv_int (by lia) (by rw [Int.fdiv_eq_ediv_of_nonneg i (by lia)];exact q) (.inl (PyProof.noPylong_small (by lia)))
theorem dj:zq X (binaryOp .Mod) (rI (fun _ j=>0<j) fun i j=>.int (i%j)):=opI fun i j _ _ _ _ _ hc q=>by
 have h1:(0:Int)<j:=hc;exact mod_int' (by lia) (by rw [Int.fmod_eq_emod_of_nonneg i (by lia)];exact q)
theorem unI {f:Value->Sem Value} {g:Int->Int}
  (rule:∀ (i:Int) (t:Tok) (s:Shared) (Q:Value->Shared->Prop) (E:Value->Shared->Prop),Q (.int (g i) s.toks) {s with toks:=s.toks+1}->wpAny (model X.prog X.w) X.A (f (.int i t)) Q E s):
  UnR X f (rU fun i=>.int (g i)):=by
 intro pins s σ H x v Q I rx h;obtain ⟨i,rfl,q⟩:=h;obtain ⟨t,rfl⟩:=rx;exact rule i t s _ _ ⟨.int (g i),H,I.tok _,⟨_,rfl⟩,q⟩
theorem zr:UnR X (unaryOp .USub) (rU fun i=>.int (-i)):=unI fun _ _ _ _ _ q=>neg_int q
end
def Xh:V->V->Bool
 | .cx,.cx=>true| .cx,.int _=>true| .int _,.cx=>true| .cx,.bl _=>true| .bl _,.cx=>true| .cx,.str _=>true| .str _,.cx=>true
 | .int _,.int _=>true| .bl _,.bl _=>true| .str _,.str _=>true| .LK _,.LK _=>true
 | .int _,.str _=>true| .str _,.int _=>true| .bl _,.str _=>true| .str _,.bl _=>true
 |_,_=>false
def rEq:R2:=fun x y H Q=>Xh x y=true/\Q (.bl (decide (x=y))) H
def rNe:R2:=fun x y H Q=>Xh x y=true/\Q (.bl (!decide (x=y))) H
theorem Nt {i j:Int}:decide (V.int i=V.int j)=(i==j):=by
 rw [Bool.eq_iff_iff];simp
theorem PR {i j:Bool}:decide (V.bl i=V.bl j)=(i==j):=by
 rw [Bool.eq_iff_iff];simp
theorem Nu {i j:Str}:decide (V.str i=V.str j)=(i==j):=by
 rw [Bool.eq_iff_iff];simp
theorem Nv {i j:Array UInt8}:decide (V.LK i=V.LK j)=(i.toList==j.toList):=by
 rw [Bool.eq_iff_iff];cases i;cases j;simp
section
variable {X:Cx} {a b c:Expr} {ta tb tc:TE} {pos:Pos}
theorem bF {pins:List (Addr×Obj)} {σ:St} {H:Hp} {s:Shared} {Q:VK} {k k':Bool} (I:Inv X pins σ H s) (q:Q (.bl k) H) (e:k=k'):EP X pins σ Q (.bool k') s:=by
 subst e;exact ⟨.bl k,H,I,rfl,q⟩
theorem du:zq X (compareOp .Eq) rEq:=by
 intro pins s σ H x y v u Q I rx ry h;obtain ⟨hs,q⟩:=h;cases x with
 |cx=>
  cases rx;cases y with
  |cx=>cases ry;exact PySem.EqNone.eq_none_none (bF I q (by simp))
  |bl j=>cases ry;exact PySem.EqNone.eq_none_bool (bF I q (by simp))
  |int j=>obtain ⟨t',rfl⟩:=ry;exact PySem.EqNone.eq_none_int (bF I q (by simp))
  |str j=>obtain ⟨t',rfl⟩:=ry;exact PySem.EqNone.eq_none_str (bF I q (by simp))
  |_=>exact absurd (show false=true from hs) Bool.false_ne_true
 |bl i=>
  cases rx;cases y with
  |cx=>cases ry;exact PySem.EqNone.eq_bool_none (bF I q (by simp))
  |bl j=>cases ry;exact eq_bool (bF I q PR)
  |str j=>obtain ⟨t',rfl⟩:=ry;exact PySem.EqMixed.eq_bool_str (bF I q (by simp))
  |_=>exact absurd (show false=true from hs) Bool.false_ne_true
 |int i=>
  obtain ⟨t,rfl⟩:=rx;cases y with
  |cx=>cases ry;exact PySem.EqNone.eq_int_none (bF I q (by simp))
  |int j=>obtain ⟨t',rfl⟩:=ry;exact eq_int (bF I q Nt)
  |str j=>obtain ⟨t',rfl⟩:=ry;exact PySem.EqMixed.eq_int_str (bF I q (by simp))
  |_=>exact absurd (show false=true from hs) Bool.false_ne_true
 |str i=>
  obtain ⟨t,rfl⟩:=rx;cases y with
  |cx=>cases ry;exact PySem.EqNone.eq_str_none (bF I q (by simp))
  |bl j=>cases ry;exact PySem.EqMixed.eq_str_bool (bF I q (by simp))
  |int j=>obtain ⟨t',rfl⟩:=ry;exact PySem.EqMixed.eq_str_int (bF I q (by simp))
  |str j=>obtain ⟨t',rfl⟩:=ry;exact eq_str (bF I q Nu)
  |_=>exact absurd (show false=true from hs) Bool.false_ne_true
 |LK i=>
  obtain ⟨t,rfl⟩:=rx;cases y with
  |LK j=>obtain ⟨t',rfl⟩:=ry;exact PySem.W.eq_bytes (bF I q Nv)
  |_=>exact absurd (show false=true from hs) Bool.false_ne_true
 |_=>cases y<;>exact absurd (show false=true from hs) Bool.false_ne_true
theorem Kd:zq X (compareOp .NotEq) rNe:=by
 intro pins s σ H x y v u Q I rx ry h;obtain ⟨hs,q⟩:=h;cases x with
 |cx=>
  cases rx;cases y with
  |cx=>cases ry;exact PySem.EqNone.ne_none_none (bF I q (by simp))
  |bl j=>cases ry;exact PySem.EqNone.ne_none_bool (bF I q (by simp))
  |int j=>obtain ⟨t',rfl⟩:=ry;exact PySem.EqNone.ne_none_int (bF I q (by simp))
  |str j=>obtain ⟨t',rfl⟩:=ry;exact PySem.EqNone.ne_none_str (bF I q (by simp))
  |_=>exact absurd (show false=true from hs) Bool.false_ne_true
 |bl i=>
  cases rx;cases y with
  |cx=>cases ry;exact PySem.EqNone.ne_bool_none (bF I q (by simp))
  |bl j=>cases ry;exact ne_bool (bF I q (congrArg not PR))
  |str j=>obtain ⟨t',rfl⟩:=ry;exact PySem.EqMixed.ne_bool_str (bF I q (by simp))
  |_=>exact absurd (show false=true from hs) Bool.false_ne_true
 |int i=>
  obtain ⟨t,rfl⟩:=rx;cases y with
  |cx=>cases ry;exact PySem.EqNone.ne_int_none (bF I q (by simp))
  |int j=>obtain ⟨t',rfl⟩:=ry;exact ne_int (bF I q (congrArg not Nt))
  |str j=>obtain ⟨t',rfl⟩:=ry;exact PySem.EqMixed.ne_int_str (bF I q (by simp))
  |_=>exact absurd (show false=true from hs) Bool.false_ne_true
 |str i=>
  obtain ⟨t,rfl⟩:=rx;cases y with
  |cx=>cases ry;exact PySem.EqNone.ne_str_none (bF I q (by simp))
  |bl j=>cases ry;exact PySem.EqMixed.ne_str_bool (bF I q (by simp))
  |int j=>obtain ⟨t',rfl⟩:=ry;exact PySem.EqMixed.ne_str_int (bF I q (by simp))
  |str j=>obtain ⟨t',rfl⟩:=ry;exact ne_str (bF I q (congrArg not Nu))
  |_=>exact absurd (show false=true from hs) Bool.false_ne_true
 |LK i=>
  obtain ⟨t,rfl⟩:=rx;cases y with
  |LK j=>obtain ⟨t',rfl⟩:=ry;exact PySem.W.ne_bytes (bF I q (congrArg not Nv))
  |_=>exact absurd (show false=true from hs) Bool.false_ne_true
 |_=>cases y<;>exact absurd (show false=true from hs) Bool.false_ne_true
theorem GO:zq X (compareOp .Lt) (TY fun i j=>.bl (decide (i<j))):=RY fun _ _ _ _ _ _ _ q=>lt_int q
theorem Ny:zq X (compareOp .LtE) (TY fun i j=>.bl (decide (i<=j))):=RY fun _ _ _ _ _ _ _ q=>le_int q
theorem GP:zq X (compareOp .Gt) (TY fun i j=>.bl (decide (j<i))):=RY fun _ _ _ _ _ _ _ q=>gt_int q
theorem PU:zq X (compareOp .GtE) (TY fun i j=>.bl (decide (j<=i))):=RY fun _ _ _ _ _ _ _ q=>ge_int q
theorem U6:zq X (compareOp .Is) (fun x y H Q=>y=.cx/\Q (.bl (decide (x=.cx))) H):=by
 intro pins s σ H x y v u Q I rx ry h;obtain ⟨rfl,q⟩:=h;cases ry;refine is_none_gen (bF I q ?_);cases x<;>first
  |(cases rx;rfl)
  |(obtain ⟨t,rfl⟩:=rx;rfl)
theorem RZ:zq X (compareOp .IsNot) (fun x y H Q=>y=.cx/\Q (.bl (!decide (x=.cx))) H):=by
 intro pins s σ H x y v u Q I rx ry h;obtain ⟨rfl,q⟩:=h;cases ry;refine isnot_none_gen (bF I q ?_);cases x<;>first
  |(cases rx;rfl)
  |(obtain ⟨t,rfl⟩:=rx;rfl)
theorem L1 (b:Expr) {op:CmpOp} (h:op≠.In:=by decide) (h2:op≠.NotIn:=by decide):behindInMarks op b=false:=by
 have e1:(op==CmpOp.In)=false:=by cases op<;>first|rfl|exact absurd rfl h
 have e2:(op==CmpOp.NotIn)=false:=by cases op<;>first|rfl|exact absurd rfl h2
 cases b<;>simp [behindInMarks,e1,e2]
theorem R0 {op:CmpOp} {r:R2} (ho:zq X (compareOp op) r) (ha:PE X a ta) (hb:PE X b tb) (hm:behindInMarks op b=false):PE X (.Compare a [op] [b] pos) (TX r ta tb):=by
 intro pins s σ H Q I h;exact wpAny_Compare1 (U4 ha hb I h fun v u s2 x y H2 I2 rx ry q=>ho pins s2 σ H2 x y v u Q I2 rx ry q) hm
def TZ (t:TE):TT:=fun σ H Q=>t σ H fun x H'=>∃ k,x=.bl k/\Q k H'
theorem Ic {op:CmpOp} {r:R2} (ho:zq X (compareOp op) r) (ha:PE X a ta) (hb:PE X b tb) (hm:behindInMarks op b=false):PT X (.Compare a [op] [b] pos) (TZ (TX r ta tb)):=by
 intro pins s σ H Q I h;refine wpAny_isTrue_Compare1 (cY (ha pins s σ H _ I h) fun v s1 ⟨x,H1,I1,r1,q1⟩=>cY (hb pins s1 σ H1 _ I1 q1) fun u s2 ⟨y,H2,I2,r2,q2⟩=>
  cY (ho pins s2 σ H2 x y v u _ I2 r1 r2 q2) fun c s3 ⟨z,H3,I3,r3,k,e,q3⟩=>?_) hm
 subst e;cases r3;exact wpAny_truthy_bool ⟨H3,I3,q3⟩
theorem Ie:(sizeLine:Nat)<2 ^ 63:=by rw [sizeLine_eq];decide
theorem vals1 {x:V} {us:List Value} (r:Vals [x] us):∃ u,us=[u]/\RelV x u:=by
 cases r with
 |cons r1 r2=>cases r2;exact ⟨_,rfl,r1⟩
theorem vals2 {x y:V} {us:List Value} (r:Vals [x,y] us):∃ u w',us=[u,w']/\RelV x u/\RelV y w':=by
 cases r with
 |cons r1 r2=>
  cases r2 with
  |cons r3 r4=>cases r4;exact ⟨_,_,rfl,r1,r3⟩
theorem Oq (hc:X.calm=true):fq X (.builtin "min") (fun xs H Q=>∃ i j,xs=[.int i,.int j]/\Q (.int (if j<i then j else i)) H):=by
 intro pins s σ H xs us Q I r h;obtain ⟨i,j,rfl,q⟩:=h;obtain ⟨u,w',rfl,⟨t,rfl⟩,⟨t',rfl⟩⟩:=vals2 r;refine min_two_ints (I.ok.hd hc) fun h' tk k=>⟨_,H,I.kept k,?_,q⟩
 by_cases hj:j<i
 ·rw [if_pos hj,if_pos hj];exact ⟨_,rfl⟩
 ·rw [if_neg hj,if_neg hj];exact ⟨_,rfl⟩
end
end L2
namespace L2
open PySem PySem.Spec PyProof.Rows
structure L3 (h:Heap) (x dx C:Addr) (mA:Str->Option Value):Prop where
 obj:h.get? x=some (PySem.W.instObj C dx)
 ns:h.Ns1 dx mA
 ne:dx≠x
theorem Ot {h:Heap} {dx:Addr} {mA:Str->Option Value} (n:h.Ns1 dx mA):∃ od,h.get? dx=some od/\∀ name,PySem.W.lookIn name od=some (mA name):=by
 obtain ⟨o,es,ep,ho,hd,hk,_,hm⟩:=n;refine ⟨o,ho,fun name=>?_⟩;have e:=hm name;unfold nsFind findBy at e;rw [<-Array.find?_toList] at e;unfold PySem.W.lookIn;rw [hd];dsimp only;split
 ·rename_i y q;rw [q] at e;exact congrArg some e
 ·rename_i q;rw [q] at e;have a:es.toList.any (·.refKey)=false:=by
   rw [List.any_eq_false];intro y hy;obtain ⟨z,t,aal⟩:=hk y (Array.mem_toList_iff.mp hy);simp [DictEntry.refKey,aal]
  have a':¬ es.toList.any (·.refKey)=true:=by rw [a];exact Bool.false_ne_true
  rw [if_neg a'];exact congrArg some e
theorem L3.look {h:Heap} {x dx C:Addr} {mA:Str->Option Value} (I:L3 h x dx C mA):∃ od,PySem.W.InstAt h x (PySem.W.instObj C dx) C (some od)/\∀ name,PySem.W.lookIn name od=some (mA name):=
 let ⟨od,ho,hl⟩:=Ot I.ns
 ⟨od,⟨I.obj,rfl,rfl,ho⟩,hl⟩
section
variable {prog:Program} {w:World} {A:Around} {E:Value->Shared->Prop} {s:Shared} {K:PySem.W.Frag} {x dx C f:Addr} {mA:Str->Option Value} {name:Str} {v:Value}
theorem get_map {expr:Bool} {Q:Value->Shared->Prop} (X:K.In s.heap) (I:L3 s.heap x dx C mA) (hg:PySem.W.plainGet K C name=true) (hh:PySem.W.hasDictIn K C=true)
  (ha:PySem.W.findIn K (.ref C) name=some none) (hv:mA name=some v) (Zq:PySem.W.handedIn v=true) (h:Q v {s with toks:=s.toks+1}):
  wpAny (model prog w) A (getAttr (.ref x) name expr) Q E s:=by
 obtain ⟨od,J,hl⟩:=I.look;exact PySem.W.get_value X J (PySem.W.plainGet_of hg).1 (PySem.W.findObj_own hh ha rfl (by rw [hl,hv])) Zq h
theorem PV {pl:Sem Bool} {Q:Value×List Value->Shared->Prop} (X:K.In s.heap) (I:L3 s.heap x dx C mA) (hg:PySem.W.plainGet K C name=true)
  (hf:PySem.W.findIn K (.ref C) name=some (some (.ref f))) (ht:PySem.W.isFn K (.ref f)=true) (hv:mA name=none) (h:Q (.ref f,[.ref x]) s):
  wpAny (model prog w) A (getMethod (.ref x) name pl) Q E s:=by
 obtain ⟨od,J,hl⟩:=I.look;exact PySem.W.method_fn X J (PySem.W.plainGet_of hg).1 (PySem.W.plainGet_of hg).2 hf (beq_iff_eq.mp ht) (by show (PySem.W.lookIn name od).map (·.isSome)=some false;rw [hl,hv];rfl) h
theorem R4 {ns:List Str} {Q:Unit->Shared->Prop} (X:K.In s.heap) (I:L3 s.heap x dx C mA)
  (hs:PySem.W.findIn K (.ref C) "__setattr__"=some (some (.builtin "object.__setattr__"))) (hp:PySem.W.plainOver K C=true) (ht:PySem.W.takerIn K C name=some none) (hh:PySem.W.hasDictIn K C=true)
  (hw:PySem.Within mA ns) (hsz:ns.length<=sizeLine)
  (h:∀ h',L3 h' x dx C (fun y=>if y=name then some v else mA y)->Heap.SameBut dx s.heap h'->Q () {s with heap:=h',toks:=s.toks+2}):
  wpAny (model prog w) A (setAttr (.ref x) name v) Q E s:=by
 obtain ⟨od,J,hl⟩:=I.look;refine PySem.W.set_plain X J hs (PySem.W.osa_open (s:={s with toks:=s.toks+1}) (r:=none) X J hp ht fun b=>?_);obtain ⟨cd,hc,W6⟩:=PySem.W.any_some hh;have hx:s.heap.get? x=some ⟨.ref C,some dx,.plain, #[]⟩:=I.obj;refine wpAny_bind (wpAny_pure (wpAny_bind (wpAny_bind (wpAny_loadPart hx (wpAny_bind (PySem.W.Looks.here (s:={s with toks:=s.toks+1}) (PySem.W.looks_clsIn X hc) ?_))))));rw [W6];refine wpAny_pure (a:=some dx) (wpAny_bind (wpAny_pure (wpAny_bind ?_)));refine wpAny_nsSet1 (s:={s with toks:=s.toks+1}) I.ns fun h' Zr Zs=>?_
 obtain ⟨oD,esD,epD,hoD,hdD,hcD⟩:=Zr.count (PySem.Within.cons name v hw);refine wpAny_bind (wpAny_lookBehind hoD (by rw [hdD];exact pastItsLine_dict (Nat.le_trans hcD (by rw [List.length_cons];lia))) ?_);exact wpAny_pure (h _ ⟨(Zs.2 _ (Ne.symm I.ne)).trans I.obj,Zr,I.ne⟩ Zs)
theorem PX {R:Result->Shared->Prop} {vs:List Value} {kw:List (Str×Value)} (X:K.In s.heap) (hm:PySem.W.makesIn K C=true)
  (hi:PySem.W.findIn K (.ref C) "__init__"=some (some (.ref f))) (hf:PySem.W.typeIn K (.ref f)=some (.type "function"))
  (h:codeAny (model prog w) (A.under (.builtin "type.__call__" ⟨.ref C::vs,kw⟩)) (.call (.ref f) ⟨.ref (s.heap.objs.size+1)::vs,kw⟩) (PySem.W.InitBack (s.heap.objs.size+1) R)
   {s with heap:=(s.heap.push PySem.W.emptyDict).push (PySem.W.instObj C s.heap.objs.size)}):
  codeAny (model prog w) A (.call (.ref C) ⟨vs,kw⟩) R s:=by
 obtain ⟨hh,g,d,t,os⟩:=s;exact PySem.W.make_core (PySem.W.makes_of X hm) (PySem.W.looks_findIn X hi) (fun self=>PySem.W.bind_fn X self hf) (.inl rfl) h
end
def kD (f:Str) (v:V):List (Str×V)->List (Str×V)
 |[]=>[(f,v)]
 |(g,x)::r=>if g=f then (g,v)::r else (g,x)::kD f v r
theorem AK (f g:Str) (v:V):∀ fs:List (Str×V),(kD f v fs).lookup g=if g=f then some v else fs.lookup g
 |[]=>by
  show List.lookup g [(f,v)]=_;by_cases h:g=f
  ·have hb:(g==f)=true:=beq_iff_eq.mpr h;simp only [List.lookup,hb,if_pos h]
  ·have hb:(g==f)=false:=beq_eq_false_iff_ne.mpr h;simp only [List.lookup,hb,if_neg h]
 |(k,x)::r=>by
  have ih:=AK f g v r;rw [show kD f v ((k,x)::r)=(if k=f then (k,v)::r else (k,x)::kD f v r) from rfl];by_cases hk:k=f
  ·rw [if_pos hk];by_cases h:g=k
   ·have hb:(g==k)=true:=beq_iff_eq.mpr h;simp only [List.lookup,hb,if_pos (h.trans hk)]
   ·have hb:(g==k)=false:=beq_eq_false_iff_ne.mpr h;simp only [List.lookup,hb,if_neg (fun e:g=f=>h (e.trans hk.symm))]
  ·rw [if_neg hk];by_cases h:g=k
   ·have hb:(g==k)=true:=beq_iff_eq.mpr h;simp only [List.lookup,hb,if_neg (fun e:g=f=>hk (h.symm.trans e))]
   ·have hb:(g==k)=false:=beq_eq_false_iff_ne.mpr h;simp only [List.lookup,hb];exact ih
theorem zt (f:Str) (v:V):∀ fs:List (Str×V),f∈(kD f v fs).map (·.1)/\∀ g,g∈fs.map (·.1)->g∈(kD f v fs).map (·.1)
 |[]=>⟨by simp [kD],fun g h=>by simp at h⟩
 |(k,x)::r=>by
  obtain ⟨i1,i2⟩:=zt f v r;rw [show kD f v ((k,x)::r)=(if k=f then (k,v)::r else (k,x)::kD f v r) from rfl];by_cases hk:k=f
  ·rw [if_pos hk];subst hk;exact ⟨by simp,fun g h=>by simpa using h⟩
  ·rw [if_neg hk];refine ⟨?_,fun g h=>?_⟩
   ·rw [List.map_cons];exact List.mem_cons_of_mem _ i1
   ·rw [List.map_cons] at h ⊢;rcases List.mem_cons.mp h with e|e
    ·exact List.mem_cons.mpr (.inl e)
    ·exact List.mem_cons_of_mem _ (i2 g e)
theorem AL (f:Str) (v:V):∀ fs:List (Str×V),(kD f v fs).length<=fs.length+1
 |[]=>by simp [kD]
 |(k,x)::r=>by
  have ih:=AL f v r;rw [show kD f v ((k,x)::r)=(if k=f then (k,v)::r else (k,x)::kD f v r) from rfl];by_cases hk:k=f
  ·rw [if_pos hk,List.length_cons,List.length_cons];lia
  ·rw [if_neg hk,List.length_cons,List.length_cons];lia
theorem wA.some_of {v:V} {o:Option Value} (r:wA (some v) o):∃ u,o=some u/\RelV v u:=by
 cases o with
 |none=>exact (show False from r).elim
 |some u=>exact ⟨u,rfl,r⟩
theorem wA.none_of {o:Option Value} (r:wA none o):o=none:=by
 cases o with
 |none=>rfl
 |some u=>exact (show False from r).elim
theorem Ou {v:V} {u:Value} (r:RelV v u):PySem.W.handedIn u=true:=by
 cases v with
 |cx=>cases (show u=Value.none from r);rfl
 |bl b=>cases (show u=Value.bool b from r);rfl
 |int i=>obtain ⟨t,e⟩:=(show ∃ t,u=Value.int i t from r);cases e;rfl
 |str x=>obtain ⟨t,e⟩:=(show ∃ t,u=Value.str x t from r);cases e;rfl
 |LK b=>obtain ⟨t,e⟩:=(show ∃ t,u=Value.bytes b t from r);cases e;rfl
 |Zi b=>obtain ⟨t,e⟩:=(show ∃ t,u=Value.float b t from r);cases e;rfl
 |ref a=>cases (show u=Value.ref a from r);rfl
 |ty n=>cases (show u=Value.type n from r);rfl
section
variable {P:Program} {w:World} {H H':Hp} {h h':Heap} {a C dx:Addr} {fs fs':List (Str×V)}
theorem Ig (cf:rY P w H h) (e:H a=some (.ins C dx fs)):∃ mA,L3 h a dx C mA/\(∀ f,wA (fs.lookup f) (mA f))/\PySem.Within mA (fs.map (·.1))/\fs.length<=1000/\H dx=some (.own a):=by
 obtain ⟨d,z,ne,ob,mA,n,r,q⟩:=(show cJ P w H h a (.ins C dx fs) from cf a _ e);exact ⟨mA,⟨ob,n,ne⟩,r,q,z,d⟩
end
structure Fv (K:PySem.W.Frag) (C:Addr):Prop where
 pg:PySem.W.plainGet K C Str.empty=true
 hd:PySem.W.hasDictIn K C=true
 po:PySem.W.plainOver K C=true
 sa:PySem.W.findIn K (.ref C) "__setattr__"=some (some (.builtin "object.__setattr__"))
theorem Fv.get {K:PySem.W.Frag} {C:Addr} (c:Fv K C) (f:Str):PySem.W.plainGet K C f=true:=c.pg
def aD (K:PySem.W.Frag) (C:Addr) (f:Str):Prop:=PySem.W.findIn K (.ref C) f=some none
theorem aD.Xi {K:PySem.W.Frag} {C:Addr} {f:Str} (n:aD K C f):PySem.W.takerIn K C f=some none:=by
 unfold PySem.W.takerIn;rw [show PySem.W.findIn K (.ref C) f=some none from n];rfl
structure Meth (K:PySem.W.Frag) (C:Addr) (m:Str) (f:Addr):Prop where
 at_:PySem.W.findIn K (.ref C) m=some (some (.ref f))
 fn:PySem.W.isFn K (.ref f)=true
 kp:PySem.W.keepIn K (.ref f)=true
section
variable {X:Cx} {pins:List (Addr×Obj)} {σ:St} {H:Hp} {s:Shared} {a C dx:Addr} {fs:List (Str×V)} {f:Str} {v:V} {A:Around} {E:Value->Shared->Prop}
theorem L4 {b:Bool} {Q:Value->Shared->Prop} (I:Inv X pins σ H s) (e:H a=some (.ins C dx fs)) (c:Fv X.K C) (n:aD X.K C f) (l:fs.lookup f=some v)
  (h:∀ u s',Inv X pins σ H s'->RelV v u->Q u s'):wpAny (model X.prog X.w) A (getAttr (.ref a) f b) Q E s:=by
 obtain ⟨mA,O,r,_,_,_⟩:=Ig I.cf e;obtain ⟨u,hu,ru⟩:=wA.some_of (v:=v) (o:=mA f) (by rw [<-l];exact r f);exact get_map I.LL O (c.get f) c.hd n hu (Ou ru) (h u _ (I.tok _) ru)
theorem C1 {m:Str} {g:Addr} {pl:Sem Bool} {Q:Value×List Value->Shared->Prop} (I:Inv X pins σ H s) (e:H a=some (.ins C dx fs)) (c:Fv X.K C) (k:Meth X.K C m g) (l:fs.lookup m=none)
  (h:Q (.ref g,[.ref a]) s):wpAny (model X.prog X.w) A (getMethod (.ref a) m pl) Q E s:=by
 obtain ⟨mA,O,r,_,_,_⟩:=Ig I.cf e;have hn:mA m=none:=wA.none_of (by rw [<-l];exact r m);exact PV I.LL O (c.get m) k.at_ k.fn hn h
theorem L7 {y:V} {u:Value} {Q:Unit->Shared->Prop} (I:Inv X pins σ H s) (e:H a=some (.ins C dx fs)) (c:Fv X.K C) (n:aD X.K C f) (hl:fs.length<1000) (ry:RelV y u)
  (h:∀ s',Inv X pins σ (upd H a (.ins C dx (kD f y fs))) s'->Q () s'):wpAny (model X.prog X.w) A (setAttr (.ref a) f u) Q E s:=by
 obtain ⟨mA,O,r,wi,_,ho⟩:=Ig I.cf e;have hz:(fs.map (·.1)).length<=sizeLine:=by rw [List.length_map,sizeLine_eq];lia
 refine R4 I.LL O c.sa c.po n.Xi c.hd wi hz fun h' O' sb=>h _ ?_
 have hd:∃ o,h'.get? dx=some o:=let ⟨o,_,_,e',_⟩:=O'.ns;⟨o,e'⟩
 refine I.write (x:=a) (e:=dx) (by rw [e];exact True.intro) (.inr ho) (fun b q hb z=>(sb.2 b hb).trans z) hd ?_;refine ⟨by rw [az O.ne];exact ho,?_,O.ne,O'.obj,_,O'.ns,fun g=>?_,fun g hg=>?_⟩
 ·have:=AL f y fs;lia
 ·show wA ((kD f y fs).lookup g) (if g=f then some u else mA g);rw [AK];by_cases q:g=f
  ·rw [if_pos q,if_pos q];exact ry
  ·rw [if_neg q,if_neg q];exact r g
 ·by_cases q:g=f
  ·rw [q];exact (zt f y fs).1
  ·refine (zt f y fs).2 g (wi g fun z=>hg ?_);show (if g=f then some u else mA g)=none;rw [if_neg q];exact z
theorem Inv.made (I:Inv X pins σ H s):Inv X pins σ (upd (upd H s.heap.objs.size (.own (s.heap.objs.size+1))) (s.heap.objs.size+1) (.ins C s.heap.objs.size []))
  {s with heap:=(s.heap.push PySem.W.emptyDict).push (PySem.W.instObj C s.heap.objs.size)}:=by
 have e1:(s.heap.push PySem.W.emptyDict).get? s.heap.objs.size=some PySem.W.emptyDict:=Heap.get?_push_size s.heap rfl;have e2:((s.heap.push PySem.W.emptyDict).push (PySem.W.instObj C s.heap.objs.size)).get? (s.heap.objs.size+1)=some (PySem.W.instObj C s.heap.objs.size):=by
  have:=Heap.get?_push_size (s.heap.push PySem.W.emptyDict) (o:=PySem.W.instObj C s.heap.objs.size) rfl
  rwa [Heap.size_push] at this
 have e3:(s.heap.push PySem.W.emptyDict).Ns s.heap.objs.size (fun _=>none):=⟨PySem.W.emptyDict, #[],_,e1,rfl,(fun e he=>absurd he (by simp)),fun _=>rfl⟩;have I1:=I.laid (a:=s.heap.objs.size) (o:= .own (s.heap.objs.size+1)) (h':=s.heap.push PySem.W.emptyDict) (t':=s.toks) (fun b u q=>Heap.get?_push_of_some _ q) (Nat.le_refl _) ⟨_,e1⟩;refine I1.laid (a:=s.heap.objs.size+1) (o:= .ins C s.heap.objs.size []) (t':=s.toks) (fun b u q=>Heap.get?_push_of_some _ q) (Nat.le_of_eq (Heap.size_push _ _)) ?_;have ne:s.heap.objs.size≠s.heap.objs.size+1:=Nat.ne_of_lt (Nat.lt_succ_self _);refine ⟨by rw [az ne,ah],Nat.zero_le _,ne,e2,fun _=>none,(Heap.Ns1.of_empty e3).at fun o q=>Heap.get?_push_of_some _ q,fun _=>True.intro,fun y hy=>absurd rfl hy⟩
theorem R5 {prog:Program} {w:World} {env:Env} {e:Expr} {f:Str} {pos:Pos} {s:Shared} {Q:Value->Shared->Prop} (hb:attributeBase e f env (eval e env)=eval e env)
  (h:wpAny (model prog w) A (eval e env) (fun o cg=>wpAny (model prog w) A (getAttr o f true) Q E cg) E s):wpAny (model prog w) A (eval (.Attribute e f pos) env) Q E s:=
 Attribute_any_ h (by rw [arm_eval_Attribute,hb])
end
def R6 (K:PySem.W.Frag) (ta:TE) (f:Str):TE:=fun σ H Q=>ta σ H fun x H1=>∃ a C dx fs v,x=.ref a/\H1 a=some (.ins C dx fs)/\Fv K C/\aD K C f/\fs.lookup f=some v/\Q v H1
def aam (K:PySem.W.Frag) (ta tv:TE) (f:Str):TS:=fun D σ H=>tv σ H fun y H1=>ta σ H1 fun x H2=>∃ a C dx fs,x=.ref a/\H2 a=some (.ins C dx fs)/\Fv K C/\aD K C f/\fs.length<1000/\
 D.nx σ (upd H2 a (.ins C dx (kD f y fs)))
section
variable {X:Cx} {o e value:Expr} {f:Str} {pos pos' aan:Pos} {ta tv:TE}
theorem U7 (he:PE X e ta) (hb:attributeBase e f X.env (eval e X.env)=eval e X.env):PE X (.Attribute e f pos) (R6 X.K ta f):=by
 intro pins s σ H Q I h;refine R5 hb (cY (he pins s σ H _ I h) fun u s1 ⟨x,H1,I1,rx,a,C,dx,fs,v,ex,ea,c,n,l,q⟩=>?_);subst ex;obtain rfl:u=Value.ref a:=rx;exact L4 I1 ea c n l fun u' s2 I2 ru=>⟨v,H1,I2,ru,q⟩
theorem aY (ha:PE X o ta) (hv:PE X value tv) (hs:swapsWith value (some (.Attribute o f pos')) pos.line X.env=pure false):PS X (.Assign [.Attribute o f pos'] value pos) (aam X.K ta tv f):=by
 intro pins s σ H D I h;refine plainObj_wpAny_Assign_Attribute (cY (hv pins s σ H _ I h) fun u s1 ⟨y,H1,I1,ry,q⟩=>cY (ha pins s1 σ H1 _ I1 q) fun ov s2 ⟨x,H2,I2,rx,a,C,dx,fs,ex,ea,c,n,l,q2⟩=>?_) hs;subst ex;obtain rfl:ov=Value.ref a:=rx;exact L7 I2 ea c n l ry fun s3 I3=>⟨σ,_,I3,q2⟩
theorem T1 {pl:Sem Bool} {m:Str} {apos:Pos} {args:List Expr} {pins:List (Addr×Obj)} {s:Shared} {σ:St} {H:Hp} {Q:Value->Shared->Prop} {te:TE} (he:PE X e te) (I:Inv X pins σ H s)
  (h:te σ H fun x H1=>∃ a C dx fs g,x=.ref a/\H1 a=some (.ins C dx fs)/\Fv X.K C/\Meth X.K C m g/\fs.lookup m=none/\
   ∀ s1,Inv X pins σ H1 s1->wpAny (model X.prog X.w) X.A (callWith pos (.ref g) [.ref a] (backTo pos (starEach args X.env)) (backToKw pos (keywordEach [] X.env))) Q X.xe s1)
  (ht:eval (.Call (.Attribute e m apos) args [] pos) X.env=(do
   let ov<-eval e X.env
   standAt apos.atName
   let (f,first)<-holding [ov] (getMethod ov m pl)
   callWith pos f first (backTo pos (starEach args X.env)) (backToKw pos (keywordEach [] X.env)))):
  wpAny (model X.prog X.w) X.A (eval (.Call (.Attribute e m apos) args [] pos) X.env) Q X.xe s:=by
 refine PySem.W.methodCall_KW (pl:=pl) (cY (he pins s σ H _ I h) fun u s1 ⟨x,H1,I1,rx,a,C,dx,fs,g,ex,ea,c,k,l,q⟩=>?_) ht;subst ex;obtain rfl:u=Value.ref a:=rx;exact C1 I1 ea c k l (q s1 I1)
end
end L2
namespace L2
open PySem PySem.Spec PyProof.Rows
structure fP (k:Nat) (A:Around):Prop where
 hd:A.handled=none
 dp:A.depth+3*k+5<recursionLimit
 un:A.units+16*k+200<cLine
theorem fP.mono {j k:Nat} {A:Around} (r:fP k A) (h:j<=k):fP j A:=⟨r.hd,by have:=r.dp;lia,by have:=r.un;lia⟩
theorem fP.deeper {k:Nat} {A:Around} (r:fP (k+1) A) (env:Env):fP k (A.deeper env):=
 ⟨r.hd,by have:=r.dp;show A.depth+1+3*k+5<_;lia,by have:=r.un;show A.units+3+16*k+200<_;lia⟩
theorem L8 {A:Around} {C:Addr} {us:List Value} {kw:List (Str×Value)}:(A.under (.builtin "type.__call__" ⟨.ref C::us,kw⟩)).depth=A.depth+1:=by
 first|rfl|simp [Around.under,Code.weight,Code.isCreation,Code.isGuard,Code.isCaller,Code.frames,Code.isFrame,guardIds]
theorem L9 {A:Around} {C:Addr} {us:List Value} {kw:List (Str×Value)}:(A.under (.builtin "type.__call__" ⟨.ref C::us,kw⟩)).units=A.units+1:=by
 first|rfl|simp [Around.under,Code.cUnits,Code.frames,Code.isFrame]
theorem fP.make {k:Nat} {A:Around} (r:fP (k+1) A) (C:Addr) (us:List Value) (kw:List (Str×Value)):fP k (A.under (.builtin "type.__call__" ⟨.ref C::us,kw⟩)):=
 ⟨r.hd,by have:=r.dp;rw [L8];lia,by have:=r.un;rw [L9];lia⟩
theorem fP.depth {k:Nat} {A:Around} (r:fP k A):A.depth<recursionLimit:=by have:=r.dp;lia
theorem fP.units {k:Nat} {A:Around} (r:fP k A):A.units+64<cLine:=by have:=r.un;lia
def C2:TA:=fun _ H Q=>Q [] H
def oB (ta:TE) (tr:TA):TA:=fun σ H Q=>ta σ H fun x H1=>tr σ H1 fun xs H2=>Q (x::xs) H2
section
variable {X:Cx} {e:Expr} {es:List Expr} {te:TE} {t:TA} {pos:Pos}
theorem ft:PA X [] C2:=fun _ _ _ _ H Q I h=>Calls.spliced_nil ⟨[],H,I,.nil,h⟩
theorem aQ (ha:PE X e te) (hr:PA X es t) (hs:starEach (e::es) X.env=(false,eval e X.env)::starEach es X.env:=by rfl):PA X (e::es) (oB te t):=by
 intro pos pins s σ H Q I h;rw [hs];show wpAny _ _ (spliced ((false,eval e X.env)::backTo pos (starEach es X.env))) _ _ s;refine Calls.spliced_cons (cY (ha pins s σ H _ I h) fun u s1 ⟨x,H1,I1,r1,q1⟩=>?_);exact cY (hr pos pins s1 σ H1 _ I1 q1) fun us s2 ⟨xs,H2,I2,r2,q2⟩=>⟨x::xs,H2,I2,.cons r1 r2,q2⟩
def aao (t:TA):TE:=fun σ H Q=>t σ H fun xs H1=>xs.length<=sizeLine/\∀ p,H1 p=none->Q (.ref p) (upd H1 p (.tup xs))
def aap (t:TA):TE:=fun σ H Q=>t σ H fun xs H1=>xs.length<=sizeLine/\∀ p,H1 p=none->Q (.ref p) (upd H1 p (.lst xs))
theorem C3 {x1} (h:PA X es t):PE X (.Tuple es x1 pos) (aao t):=by
 intro pins s σ H Q I hq;refine wpAny_Tuple_spliced (cY (h pos pins s σ H _ I hq) fun us s1 ⟨xs,H1,I1,r,z,q⟩=>⟨by rw [<-r.length];exact z,?_⟩);have hf:H1 s1.heap.objs.size=none:=I1.cf.fresh (Nat.le_refl _);refine ⟨.ref s1.heap.objs.size,upd H1 s1.heap.objs.size (.tup xs),I1.laid (t':=s1.toks) (fun b u e=>Heap.get?_push_of_some _ e) (Nat.le_refl _) ?_,rfl,q _ hf⟩;exact ⟨z,us,r,⟨_,Heap.get?_push_size _ rfl,rfl,_,rfl⟩⟩
theorem aE (h:PA X es t):PE X (.List es pos) (aap t):=by
 intro pins s σ H Q I hq;refine wpAny_List_spliced (cY (h pos pins s σ H _ I hq) fun us s1 ⟨xs,H1,I1,r,z,q⟩=>⟨by rw [<-r.length];exact z,?_⟩);have hf:H1 s1.heap.objs.size=none:=I1.cf.fresh (Nat.le_refl _);refine ⟨.ref s1.heap.objs.size,upd H1 s1.heap.objs.size (.lst xs),I1.laid (t':=s1.toks) (fun b u e=>Heap.get?_push_of_some _ e) (Nat.le_refl _) ?_,rfl,q _ hf⟩;exact ⟨z,us,0,r,Heap.get?_push_size _ rfl⟩
end
abbrev Sp:=List V->Hp->VK->XK->Prop
abbrev R7:=List Env->Hp->Shared->XK->Value->Shared->Prop
structure Fw (P:Program) (w:World) (K:PySem.W.Frag) (mg:Str->Option Value) (base:Heap) (A:Around) (outer:List Env) (s:Shared) (H:Hp):Prop where
 frames:A.frames=some outer
 mod:Mod K mg base
 bs:∀ b o,base.get? b=some o->s.heap.get? b=some o/\H b=none
 Pq:base.objs.size<=s.heap.objs.size
 xl:s.heap.FunFrames base outer
 RS:∀ b∈Pz outer,H b=none
 cf:rY P w H s.heap
 bare:AllBare s.gens
def CE (outer:List Env) (P:Program) (w:World) (H:Hp) (s:Shared) (Q:VK) (u:Value) (s':Shared):Prop:=
 ∃ v H',s'.os=s.os/\AllBare s'.gens/\Un (Pz outer) [] H H' s.heap s'.heap/\rY P w H' s'.heap/\RelV v u/\Q v H'
def CR (CX:R7) (outer:List Env) (P:Program) (w:World) (H:Hp) (s:Shared) (Q:VK) (E:XK) (r:Result) (s':Shared):Prop:=
 match r with
 | .ok (.ret u)=>CE outer P w H s Q u s'
 | .ok _=>False
 | .error e=>CX outer H s E e s'
structure uP (P:Program) (w:World) (K:PySem.W.Frag) (mg:Str->Option Value) (base:Heap) (CX:R7) (k:Nat) (f:Addr) (fd:FuncData) (ps:List Str) (sp:Sp):Prop where
 len:∀ vs H Q E,sp vs H Q E->vs.length=ps.length
 run:∀ (A:Around) (outer:List Env) (s:Shared) (H:Hp) (args:Args) (us:List Value) (vs:List V) (Q:VK) (E:XK),fP k A->Fw P w K mg base A outer s H->BindsTo s fd args (ps.zip us)->Vals vs us->sp vs H Q E->
  codeAny (model P w) A (.call (.ref f) args) (CR CX outer P w H s Q E) s
theorem Fw.make {P:Program} {w:World} {K:PySem.W.Frag} {mg:Str->Option Value} {base:Heap} {A:Around} {outer:List Env} {s:Shared} {H:Hp} (e:Fw P w K mg base A outer s H) (C:Addr) (us:List Value) (kw:List (Str×Value)):
  Fw P w K mg base (A.under (.builtin "type.__call__" ⟨.ref C::us,kw⟩)) outer s H:=⟨by first|exact e.frames|(simpa [Around.under,Code.envs,Code.isFrame,pushEnvs] using e.frames),e.mod,e.bs,e.Pq,e.xl,e.RS,e.cf,e.bare⟩
theorem Fw.in1 {P:Program} {w:World} {K:PySem.W.Frag} {mg:Str->Option Value} {base:Heap} {A:Around} {outer:List Env} {s:Shared} {H:Hp} (e:Fw P w K mg base A outer s H):
  Fw P w K mg base A.in1 outer s H:=⟨e.frames,e.mod,e.bs,e.Pq,e.xl,e.RS,e.cf,e.bare⟩
section
variable {X:Cx} {pins:List (Addr×Obj)} {σ:St} {H:Hp} {s s':Shared}
theorem Inv.U8 (I:Inv X pins σ H s):Fw X.prog X.w X.K X.mg X.base X.A X.stack s H:=
 ⟨I.ok.frames,I.ok.mod,I.bs,Nat.le_trans I.ok.Pq I.sz,I.stack,I.Nn,I.cf,I.bare⟩
theorem Inv.after {Q:VK} {u:Value} (I:Inv X pins σ H s) (h:CE X.stack X.prog X.w H s Q u s'):EP X pins σ Q u s':=by
 obtain ⟨v,H',os,bare,un,cf,r,q⟩:=h;obtain ⟨hh,g,d,t,os'⟩:=s';obtain rfl:os'=s.os:=os;exact ⟨v,H',I.call (h':=hh) (g':=g) (d':=d) (t':=t) (ch:=[]) un cf bare (fun b z=>absurd z (by simp)),r,q⟩
end
def Nz (sp:Sp) (dvs:List V) (E:XK) (t:TA):TE:=fun σ H Q=>t σ H fun vs H1=>sp (vs++dvs) H1 Q E
def Xj (C:Addr) (m:Str) (sp:Sp) (dvs:List V) (E:XK) (ta:TE) (t:TA):TE:=fun σ H Q=>ta σ H fun x H1=>∃ a dx fs,x=.ref a/\H1 a=some (.ins C dx fs)/\fs.lookup m=none/\
 t σ H1 fun vs H2=>sp (x::(vs++dvs)) H2 Q E
def T2 (C:Addr) (sp:Sp) (dvs:List V) (E:XK) (t:TA):TE:=fun σ H Q=>t σ H fun vs H1=>∀ x dx,H1 x=none->H1 dx=none->dx≠x->
 sp (.ref x::(vs++dvs)) (upd (upd H1 dx (.own x)) x (.ins C dx [])) (fun v H2=>v=.cx/\Q (.ref x) H2) E
def Binds (K:PySem.W.Frag) (fd:FuncData) (ps:List Str) (ds:List Value):Prop:=
 ∀ (s:Shared) (us:List Value),K.In s.heap->(us++ds).length=ps.length->BindsTo s fd ⟨us,[]⟩ (ps.zip (us++ds))
theorem Binds.all {K:PySem.W.Frag} {fd:FuncData} {ps:List Str} (h:∀ us:List Value,us.length=ps.length->bindArgs fd ⟨us,[]⟩=pure (ps.zip us)):Binds K fd ps []:=fun s us _ hl=>by
 rw [List.append_nil] at hl ⊢;exact .of_eq (h us hl)
def Passes (CX:R7) (X:Cx) (E:XK):Prop:=∀ (pins:List (Addr×Obj)) (σ:St) (H:Hp) (s:Shared) (e:Value) (s':Shared),Inv X pins σ H s->CX X.stack H s E e s'->X.xe e s'
section
variable {X:Cx} {CX:R7} {k:Nat} {f C:Addr} {fd:FuncData} {ps:List Str} {sp:Sp} {dvs:List V} {ds:List Value} {E:XK} {x m:Str} {p pos apos:Pos} {e o:Expr} {es:List Expr} {ta:TE} {t:TA}
theorem Ma {pins:List (Addr×Obj)} {σ:St} {H:Hp} {s:Shared} {Q:VK} {us:List Value} {vs:List V} (F:uP X.prog X.w X.K X.mg X.base CX k f fd ps sp) (hr:fP k X.A) (hb:Binds X.K fd ps ds) (hd:Vals dvs ds) (hx:Passes CX X E)
  (I:Inv X pins σ H s) (r:Vals vs us) (h:sp (vs++dvs) H Q E):wpAny (model X.prog X.w) X.A (call (.ref f) us) (EP X pins σ Q) X.xe s:=by
 have r2:Vals (vs++dvs) (us++ds):=r.append hd;have hl:(us++ds).length=ps.length:=by rw [<-r2.length];exact F.len _ _ _ _ h
 refine wpAny_call (codeAny_mono (F.run X.A X.stack s H ⟨us,[]⟩ (us++ds) (vs++dvs) Q E hr I.U8 (hb s us I.LL hl) r2 h) fun r s' hq=>?_);cases r with
 |error e=>exact hx pins σ H s e s' I hq
 |ok fl=>
  cases fl with
  |ret u=>exact I.after hq
  |next=>exact False.elim hq
  |brk=>exact False.elim hq
  |cont=>exact False.elim hq
theorem R8 (F:uP X.prog X.w X.K X.mg X.base CX k f fd ps sp) (hr:fP k X.A) (hg:Gl X x) (hm:X.mg x=some (.ref f)) (hk:PySem.W.keepIn X.K (.ref f)=true) (hb:Binds X.K fd ps ds) (hd:Vals dvs ds) (hx:Passes CX X E)
  (ha:PA X (e::es) t) (Ov:(x==("__debug__":Str))=false:=by decide) (he:starEach (e::es) X.env=(false,eval e X.env)::starEach es X.env:=by rfl) (jP:(backTo pos (starEach es X.env)).any (·.1)=false:=by rfl):
  PE X (.Call (.Name x p) (e::es) [] pos) (Nz sp dvs E t):=by
 intro pins s σ H Q I h;refine wpAny_Call_Name_kw (CD I hg hm ?_ Ov);refine PySem.W.callWith_K (h₀:=X.base) I.ok.mod.WC hk (cY (ha pos pins s σ H _ I h) fun us s1 ⟨vs,H1,I1,r,q⟩=>⟨I1.LL,?_⟩) he jP;exact Ma F hr hb hd hx I1 r q
theorem mO {pl:Sem Bool} (he:PE X o ta) (c:Fv X.K C) (hm:Meth X.K C m f) (F:uP X.prog X.w X.K X.mg X.base CX k f fd ps sp) (hr:fP k X.A) (hb:Binds X.K fd ps ds) (hd:Vals dvs ds) (hx:Passes CX X E) (ha:PA X (e::es) t)
  (bN:starEach (e::es) X.env=(false,eval e X.env)::starEach es X.env:=by rfl) (jP:(backTo pos (starEach es X.env)).any (·.1)=false:=by rfl)
  (ht:eval (.Call (.Attribute o m apos) (e::es) [] pos) X.env=(do
   let ov<-eval o X.env
   standAt apos.atName
   let (f,first)<-holding [ov] (getMethod ov m pl)
   callWith pos f first (backTo pos (starEach (e::es) X.env)) (backToKw pos (keywordEach [] X.env))):=by rfl):
  PE X (.Call (.Attribute o m apos) (e::es) [] pos) (Xj C m sp dvs E ta t):=by
 intro pins s σ H Q I h;refine PySem.W.methodCall_KW (pl:=pl) (cY (he pins s σ H _ I h) fun u s1 ⟨x,H1,I1,rx,a,dx,fs,ex,ea,l,q⟩=>?_) ht;subst ex;obtain rfl:u=Value.ref a:=rx;refine C1 I1 ea c hm l ?_;refine PySem.W.callWith_K (first:=[.ref a]) (h₀:=X.base) I.ok.mod.WC hm.kp (cY (ha pos pins s1 σ H1 _ I1 q) fun us s2 ⟨vs,H2,I2,r,q2⟩=>⟨I2.LL,?_⟩) bN jP;exact Ma (us:= .ref a::us) (vs:= .ref a::vs) F hr hb hd hx I2 (.cons rfl r) q2
structure Mk (K:PySem.W.Frag) (C f:Addr):Prop where
 makes:PySem.W.makesIn K C=true
 init:PySem.W.findIn K (.ref C) "__init__"=some (some (.ref f))
 fn:PySem.W.isFn K (.ref f)=true
 kp:PySem.W.keepIn K (.ref C)=true
theorem Ke {pins:List (Addr×Obj)} {σ:St} {H:Hp} {s:Shared} {Q:VK} {us:List Value} {vs:List V} (M:Mk X.K C f) (F:uP X.prog X.w X.K X.mg X.base CX k f fd ps sp) (hr:fP (k+1) X.A) (hb:Binds X.K fd ps ds) (hd:Vals dvs ds)
  (hx:Passes CX X E) (I:Inv X pins σ H s) (r:Vals vs us)
  (h:∀ x dx,H x=none->H dx=none->dx≠x->sp (.ref x::(vs++dvs)) (upd (upd H dx (.own x)) x (.ins C dx [])) (fun v H2=>v=.cx/\Q (.ref x) H2) E):
  wpAny (model X.prog X.w) X.A (call (.ref C) us) (EP X pins σ Q) X.xe s:=by
 have hq:=h (s.heap.objs.size+1) s.heap.objs.size (I.cf.fresh (Nat.le_succ _)) (I.cf.fresh (Nat.le_refl _)) (Nat.ne_of_lt (Nat.lt_succ_self _));have I2:=Inv.made (C:=C) I;have r2:Vals (V.ref (s.heap.objs.size+1)::(vs++dvs)) (Value.ref (s.heap.objs.size+1)::(us++ds)):= .cons rfl (r.append hd);have hl:(Value.ref (s.heap.objs.size+1)::us++ds).length=ps.length:=by
  have e:=r2.length;rw [F.len _ _ _ _ hq] at e;exact e.symm
 refine wpAny_call (PX (f:=f) I.LL M.makes M.init (beq_iff_eq.mp M.fn) (codeAny_mono (F.run _ X.stack _ _ ⟨Value.ref (s.heap.objs.size+1)::us,[]⟩ (Value.ref (s.heap.objs.size+1)::(us++ds)) _ _ E (hr.make C us [])
  (I2.U8.make C us []) (hb _ (Value.ref (s.heap.objs.size+1)::us) I2.LL hl) r2 hq) fun r s' T3=>?_))
 cases r with
 |error e=>exact hx pins σ _ _ e s' I2 T3
 |ok fl=>
  cases fl with
  |ret u=>
   obtain ⟨v,H',I3,rv,ev,q3⟩:=I2.after T3;subst ev;exact ⟨rv,⟨V.ref (s.heap.objs.size+1),H',I3,rfl,q3⟩⟩
  |next=>exact False.elim T3
  |brk=>exact False.elim T3
  |cont=>exact False.elim T3
theorem pP (M:Mk X.K C f) (F:uP X.prog X.w X.K X.mg X.base CX k f fd ps sp) (hr:fP (k+1) X.A) (hg:Gl X x) (hm:X.mg x=some (.ref C)) (hb:Binds X.K fd ps ds) (hd:Vals dvs ds) (hx:Passes CX X E)
  (ha:PA X (e::es) t) (Ov:(x==("__debug__":Str))=false:=by decide) (he:starEach (e::es) X.env=(false,eval e X.env)::starEach es X.env:=by rfl) (jP:(backTo pos (starEach es X.env)).any (·.1)=false:=by rfl):
  PE X (.Call (.Name x p) (e::es) [] pos) (T2 C sp dvs E t):=by
 intro pins s σ H Q I h;refine wpAny_Call_Name_kw (CD I hg hm ?_ Ov);refine PySem.W.callWith_K (h₀:=X.base) I.ok.mod.WC M.kp (cY (ha pos pins s σ H _ I h) fun us s1 ⟨vs,H1,I1,r,q⟩=>⟨I1.LL,?_⟩) he jP;exact Ke M F hr hb hd hx I1 r q
theorem PY (M:Mk X.K C f) (F:uP X.prog X.w X.K X.mg X.base CX k f fd ps sp) (hr:fP (k+1) X.A) (hg:Gl X x) (hm:X.mg x=some (.ref C)) (hb:Binds X.K fd ps ds) (hd:Vals dvs ds) (hx:Passes CX X E)
  (Ov:(x==("__debug__":Str))=false:=by decide):PE X (.Call (.Name x p) [] [] pos) (T2 C sp dvs E C2):=by
 intro pins s σ H Q I h;refine wpAny_Call_Name_kw (CD I hg hm ?_ Ov);exact PySem.W.callWith_K0 I.LL M.kp (Ke (us:=[]) M F hr hb hd hx I .nil h)
end
structure ak (N P:List Str) (sc:Scope):Prop where
 kind:sc.kind=.function
 co:sc.isCoroutine=false
 gen:sc.isGenerator=false
 nd:N.Nodup
 pre:N.take P.length=P
 par:∀ x∈P,sc.names.lookup x=some .local∨sc.names.lookup x=some .cell
 U9:∀ y∈sc.names,y.2≠.free
theorem GQ {kindOf:Str->Option NameKind} {x:Str}:∀ {binds:List (Str×Value)} {m:Str->Option Value},(∀ v,(x,v)∉binds)->bindL kindOf binds m x=m x
 |[],_,_=>rfl
 |(n,v)::r,m,h=>by
  unfold bindL;rw [GQ fun w hw=>h w (List.mem_cons_of_mem _ hw)];split
  ·have:x≠n:=by rintro rfl;exact h v List.mem_cons_self
   simp [this]
  ·rfl
theorem GR {kindOf:Str->Option NameKind} {x:Str}:∀ {binds:List (Str×Value)} {m:Str->Option Value},(∀ v,(x,v)∉binds)->bindC kindOf binds m x=m x
 |[],_,_=>rfl
 |(n,v)::r,m,h=>by
  unfold bindC;rw [GR fun w hw=>h w (List.mem_cons_of_mem _ hw)];split
  ·rfl
  ·have:x≠n:=by rintro rfl;exact h v List.mem_cons_self
   simp [this]
theorem GS {kindOf:Str->Option NameKind} {x:Str} {v:Value}:∀ {P:List Str} {vs:List Value} {i:Nat} {m:Str->Option Value},P.Nodup->P[i]? =some x->vs[i]? =some v->kindOf x=some .local->
  bindL kindOf (P.zip vs) m x=some v
 |[],_,_,_,_,h,_,_=>by simp at h
 |_::_,[],_,_,_,_,h,_=>by simp at h
 |p::P,w::vs,0,m,nd,h1,h2,hk=>by
  simp at h1 h2;subst h1;subst h2
  show bindL kindOf ((p,w)::P.zip vs) m p=_;unfold bindL;rw [GQ fun v hv=>(List.nodup_cons.mp nd).1 (List.of_mem_zip hv).1,if_pos hk];simp
 |p::P,w::vs,i+1,m,nd,h1,h2,hk=>by
  show bindL kindOf ((p,w)::P.zip vs) m x=_;unfold bindL;exact GS (i:=i) (List.nodup_cons.mp nd).2 (by simpa using h1) (by simpa using h2) hk
theorem GU {kindOf:Str->Option NameKind} {x:Str} {v:Value}:∀ {P:List Str} {vs:List Value} {i:Nat} {m:Str->Option Value},P.Nodup->P[i]? =some x->vs[i]? =some v->kindOf x≠some .local->
  bindC kindOf (P.zip vs) m x=some v
 |[],_,_,_,_,h,_,_=>by simp at h
 |_::_,[],_,_,_,_,h,_=>by simp at h
 |p::P,w::vs,0,m,nd,h1,h2,hk=>by
  simp at h1 h2;subst h1;subst h2
  show bindC kindOf ((p,w)::P.zip vs) m p=_;unfold bindC;rw [GR fun v hv=>(List.nodup_cons.mp nd).1 (List.of_mem_zip hv).1,if_neg hk];simp
 |p::P,w::vs,i+1,m,nd,h1,h2,hk=>by
  show bindC kindOf ((p,w)::P.zip vs) m x=_;unfold bindC;exact GU (i:=i) (List.nodup_cons.mp nd).2 (by simpa using h1) (by simpa using h2) hk
def start (N:List Str) (vs:List V):St:=vs.map some++List.replicate (N.length-vs.length) none
def Mb (CX:R7) (P:Program) (w:World) (K:PySem.W.Frag) (mg:Str->Option Value) (base:Heap) (N:List Str) (qual:Str) (scope:Scope) (f:Addr) (cd:Value) (A:Around) (outer:List Env) (s:Shared) (H:Hp) (E:XK):Cx where
 prog:=P
 w:=w
 K:=K
 mg:=mg
 base:=base
 A:=A.deeper (envOfC qual scope s.heap.objs.size f cd)
 N:=N
 Fs:=s
 WD:=H
 env:=envOfC qual scope s.heap.objs.size f cd
 outer:=outer
 stack:=envOfC qual scope s.heap.objs.size f cd::outer
 ex:=[]
 calm:=true
 fn:=fun _=>true
 pn:=[]
 xe:=fun e s'=>wpAny (model P w) (A.deeper (envOfC qual scope s.heap.objs.size f cd)) (leaving (envOfC qual scope s.heap.objs.size f cd) e) (fun _ T4=>CX outer H s E e T4) (fun e' T4=>CX outer H s E e' T4) s'
theorem Kf {sc:Scope} {n:Nat} {x:Str} (h:sc.names.lookup x=some .cell):∃ c,(cellsFrom n sc.names []).lookup x=some c:=by
 have q:=PySem.W.cellsFrom_some sc.names n [] (.inl h);exact Option.isSome_iff_exists.mp q
theorem Ow {CX:R7} {P:Program} {w:World} {K:PySem.W.Frag} {mg:Str->Option Value} {base:Heap} {N ps:List Str} {qual:Str} {scope:Scope} {f:Addr} {cd:Value} {A:Around} {outer:List Env} {s s1:Shared} {H:Hp} {E:XK} {us:List Value} {vs:List V}
  (S:ak N ps scope) (hd:A.handled=none) (e0:Fw P w K mg base A outer s H) (hl:vs.length=ps.length) (r:Vals vs us)
  (x:InCallC s s.heap.objs.size (bindL (envOfC qual scope s.heap.objs.size f cd).kindOf (ps.zip us) fun _=>none) (cellsFrom (s.heap.objs.size+1) scope.names []) (bindC (envOfC qual scope s.heap.objs.size f cd).kindOf (ps.zip us) fun _=>none) s1):
  Inv (Mb CX P w K mg base N qual scope f cd A outer s H E) [] (start N vs) H s1:=by
 have jP:ps.length<=N.length:=by have:=congrArg List.length S.pre;rw [List.length_take] at this;lia
 obtain ⟨h1,tk,rfl,hk⟩:=x.done;have PZ:∀ b:Addr,b∉(Mb CX P w K mg base N qual scope f cd A outer s H E).ex:=fun b z=>absurd (show b∈([]:List Addr) from z) (by simp)
 refine ⟨⟨e0.mod,S.kind,rfl,rfl,Nat.le_refl _,fun y z c h1 h2=>?_,fun y hy=>?_,fun y c _ h=>?_,fun _=>hd,Around.frames_deeper e0.frames,.inr ⟨rfl,rfl⟩,fun b z=>absurd z (PZ b),e0.bs,e0.Pq,fun b _ _=>PZ b,fun b z=>absurd z (PZ b),e0.xl,e0.RS⟩,
  rfl,e0.bare,Un.kept hk,⟨_,x.toInCall.ns,fun i y v h1 h2 h3=>?_⟩,fun y c h=>⟨_,x.cell y c h⟩,e0.cf.fresh (Nat.le_refl _),fun y c h=>?_,fun p hp=>absurd (show p∈([]:List (Addr×Obj)) from hp) (by simp),e0.cf.kept hk,?_⟩
 ·exact name_of_addr x.apart (PySem.mem_of_lookup h1) (PySem.mem_of_lookup h2)
 ·have hy:scope.names.lookup y=some .cell∨scope.names.lookup y=some .free:=hy;rcases hy with hy|hy
  ·exact Kf hy
  ·exact absurd rfl (S.U9 _ (PySem.mem_of_lookup hy))
 ·exact Nat.le_of_lt (x.above y c (PySem.mem_of_lookup h))
 ·have hi:i<vs.length:=by
   unfold start at h2;by_cases hi:i<vs.length
   ·exact hi
   ·rw [List.getElem?_append_right (by simpa using hi)] at h2;rw [List.getElem?_replicate] at h2;split at h2<;>cases h2
  have ha:vs[i]? =some v:=by
   unfold start at h2;rw [List.getElem?_append_left (by simpa using hi),List.getElem?_map] at h2;cases e:vs[i]? with
   |none=>rw [e] at h2;cases h2
   |some a=>rw [e] at h2;cases h2;rfl
  obtain ⟨u,hu,rv⟩:=r.get ha;have hp:ps[i]? =some y:=by
   rw [<-S.pre,List.getElem?_take_of_lt (by lia)];exact h1
  have ndP:ps.Nodup:=by rw [<-S.pre];exact S.nd.sublist (List.take_sublist _ _)
  refine ⟨u,rv,?_⟩;rcases S.par y (List.mem_of_getElem? hp) with k|k
  ·exact .inl ⟨k,GS ndP hp hu k⟩
  ·obtain ⟨c,e⟩:=Kf (n:=s.heap.objs.size+1) k;refine .inr ⟨.inl k,c,e,?_⟩;have q:=x.cell y c e;rw [GU ndP hp hu (by show scope.names.lookup y≠_;rw [k];decide)] at q;exact q
 ·exact e0.cf.fresh (Nat.le_of_lt (x.above y c (PySem.mem_of_lookup h)))
 ·unfold start;show _=N.length;rw [List.length_append,List.length_map,List.length_replicate]
  lia
theorem T5 {CX:R7} {P:Program} {w:World} {K:PySem.W.Frag} {mg:Str->Option Value} {base:Heap} {k:Nat} {f:Addr} {name qual:Str} {params:Arguments} {body:List Stmt} {scope:Scope} {dV kV doc pm bB ct oc:Value} {an od:Option Addr}
  {Ih:Array (Option Value)} {N ps:List Str} {sp:Sp} (lk:K.lookup f=some ⟨oc,od,.func (PySem.W.fnOf name qual params body scope dV kV doc pm an bB ct),Ih⟩) (J9:PySem.W.codeIn K bB qual=true) (S:ak N ps scope)
  (len:∀ vs H Q E,sp vs H Q E->vs.length=ps.length)
  (C4:∀ (A:Around) (outer:List Env) (s:Shared) (H:Hp) (vs:List V) (Q:VK) (E:XK),fP k (A.deeper (envOfC qual scope s.heap.objs.size f bB))->sp vs H Q E->
   ∃ t,LS (Mb CX P w K mg base N qual scope f bB A outer s H E) body t/\t {nx:=fun _ H'=>Q .cx H',rt:=Q} (start N vs) H):
  uP P w K mg base CX (k+1) f (PySem.W.fnOf name qual params body scope dV kV doc pm an bB ct) ps sp:=by
 refine ⟨len,fun A outer s H args us vs Q E hr e0 hb r T6=>?_⟩;have hl:=len _ _ _ _ T6;have KX:K.In s.heap:=e0.mod.WC.keeps fun b o e=>(e0.bs b o e).1
 have lim:s.heap.NoLimit:=e0.mod.nolimit.keeps fun b o e=>(e0.bs b o e).1
 have P0:∀ y∈ps.zip us,scope.names.lookup y.1=some .local∨(scope.names.lookup y.1=some .cell/\((cellsFrom (s.heap.objs.size+1) scope.names []).lookup y.1).isSome=true):=fun ⟨n,v⟩ hy=>by
  rcases S.par n (List.of_mem_zip hy).1 with q|q
  ·exact .inl q
  ·exact .inr ⟨q,PySem.W.cellsFrom_some _ _ _ (.inl q)⟩
 refine codeAny_call_function hr.depth (KX _ _ lk) rfl S.co S.gen rfl (PySem.W.codeRec_of KX J9) (hb _ _ _ _ ?_);refine wpAny_newFunctionEnv_cells S.kind P0 fun env he s1 x=>?_
 subst he;refine ⟨lim.keeps x.toInCall.keep,codeAny_func ?_⟩;obtain ⟨t,ht,hq⟩:=C4 A outer s H vs Q E (hr.deeper _) T6;have I:Inv (Mb CX P w K mg base N qual scope f bB A outer s H E) [] (start N vs) H s1:=Ow S hr.hd e0 hl r x;refine wpAny_mono (ht [] s1 (start N vs) H _ I hq) (fun fl s' hs=>?_) fun e s' hs=>hs
 have fin:∀ {σ':St} {H':Hp} {v:V} {u:Value},Inv (Mb CX P w K mg base N qual scope f bB A outer s H E) [] σ' H' s'->RelV v u->Q v H'->CE outer P w H s Q u s':=
  fun {σ' H' v u} J rv q=>⟨v,H',J.os,J.bare,J.base,J.cf,rv,q⟩
 cases fl with
 |ret u=>
  obtain ⟨v,σ',H',J,rv,q⟩:=hs;exact fin J rv q
 |next=>
  obtain ⟨σ',H',J,q⟩:=hs;exact fin (v:=V.cx) (u:=Value.none) J rfl q
 |brk=>
  obtain ⟨_,_,_,q⟩:=hs;exact False.elim q
 |cont=>
  obtain ⟨_,_,_,q⟩:=hs;exact False.elim q
end L2
namespace L2
open PySem PySem.Spec PyProof.Rows
section
variable {X:Cx} {x:Str} {p pos:Pos} {e:Expr} {es:List Expr} {t:TA} {id T:String} {r:List V->Hp->VK->Prop}
def tCB (r:List V->Hp->VK->Prop) (t:TA):TE:=fun σ H Q=>t σ H fun vs H1=>r vs H1 Q
theorem cj (hc:fq X (.builtin id) r) (hg:Gl X x) (hm:X.mg x=none) (hv:bootBuiltins x=some (.builtin id)) (ha:PA X (e::es) t) (hn:x≠"__name__":=by decide) (Ov:(x==("__debug__":Str))=false:=by decide)
  (he:starEach (e::es) X.env=(false,eval e X.env)::starEach es X.env:=by rfl) (jP:(backTo pos (starEach es X.env)).any (·.1)=false:=by rfl):PE X (.Call (.Name x p) (e::es) [] pos) (tCB r t):=by
 intro pins s σ H Q I h;refine wpAny_Call_Name_kw (CZ I hg hm hv ?_ hn Ov);exact PyProof.Rows.callWith_builtin1 (cY (ha pos pins s σ H _ I h) fun us s1 ⟨vs,H1,I1,r1,q1⟩=>hc pins s1 σ H1 vs us Q I1 r1 q1) he jP
theorem je (hc:fq X (.type T) r) (hg:Gl X x) (hm:X.mg x=none) (hv:bootBuiltins x=some (.type T)) (ha:PA X (e::es) t) (hn:x≠"__name__":=by decide) (Ov:(x==("__debug__":Str))=false:=by decide)
  (he:starEach (e::es) X.env=(false,eval e X.env)::starEach es X.env:=by rfl) (jP:(backTo pos (starEach es X.env)).any (·.1)=false:=by rfl):PE X (.Call (.Name x p) (e::es) [] pos) (tCB r t):=by
 intro pins s σ H Q I h;refine wpAny_Call_Name_kw (CZ I hg hm hv ?_ hn Ov);exact PyProof.Rows.callWith_type1 (cY (ha pos pins s σ H _ I h) fun us s1 ⟨vs,H1,I1,r1,q1⟩=>hc pins s1 σ H1 vs us Q I1 r1 q1) he jP
end
end L2
namespace HT
open PySem PyProof.Rows
section
variable {prog:Program} {w:World} {A:Around} {E:Value->Shared->Prop} {s:Shared}
def Ii (n d:Nat):Option Int->Nat
 |none=>d
 |some v=>if v<0 then (v+(n:Int)).toNat else min v.toNat n
theorem xo (n d:Nat):Ii n d none=d:=rfl
theorem CF (n d k:Nat):Ii n d (some (k:Int))=min k n:=by
 show (if (k:Int)<0 then ((k:Int)+(n:Int)).toNat else min (k:Int).toNat n)=min k n;rw [if_neg (by lia),Int.toNat_natCast]
end
end HT
namespace L2
open PySem PySem.Spec PyProof.Rows
abbrev TO:=St->Hp->(Option Int->Hp->Prop)->Prop
def PO (X:Cx) (e:Option Expr) (t:TO):Prop:=
 ∀ (pins:List (Addr×Obj)) (s:Shared) (σ:St) (H:Hp) (Q:Option Int->Hp->Prop),Inv X pins σ H s->t σ H Q->
  wpAny (model X.prog X.w) X.A (evalPart e X.env) (fun u s'=>∃ o H',Inv X pins σ H' s'/\IsPart u o/\Q o H') X.xe s
def NA:TO:=fun _ H Q=>Q none H
def Xk (t:TE):TO:=fun σ H Q=>t σ H fun x H1=>∃ i,x=.int i/\Q (some i) H1
section
variable {X:Cx} {e:Expr} {te:TE} {lo hi:Option Expr} {tl th:TO} {pos p2:Pos}
theorem dX:PO X none NA:=by
 intro pins s σ H Q I h;rw [evalPart_none];exact wpAny_pure ⟨none,H,I,.none,h⟩
theorem cB (h:PE X e te):PO X (some e) (Xk te):=by
 intro pins s σ H Q I hw;rw [evalPart_some];refine cY (h pins s σ H _ I hw) fun u s1 ⟨x,H1,I1,r1,q1⟩=>?_
 obtain ⟨i,rfl,q⟩:=q1;obtain ⟨t,rfl⟩:=r1;exact ⟨some i,H1,I1,.int i t,q⟩
def SlR (X:Cx) (r:V->Option Int->Option Int->Hp->VK->Prop):Prop:=
 ∀ (pins:List (Addr×Obj)) (s:Shared) (σ:St) (H:Hp) (x:V) (v vl vu:Value) (lo hi:Option Int) (sl:Addr) (Q:VK),Inv X pins σ H s->RelV x v->s.heap.IsSliceOf sl vl vu .none->IsPart vl lo->IsPart vu hi->r x lo hi H Q->
  ∃ T id,typeLookup (.type T) "__getitem__"=pure (some (.builtin id))/\s.TypeIs v T/\wpAny (model X.prog X.w) X.A (getItem v (.ref sl)) (EP X pins σ Q) X.xe s
def tSl (r:V->Option Int->Option Int->Hp->VK->Prop) (te:TE) (tl th:TO):TE:=fun σ H Q=>te σ H fun x H1=>tl σ H1 fun l H2=>th σ H2 fun u H3=>r x l u H3 Q
theorem ck {r:V->Option Int->Option Int->Hp->VK->Prop} (hr:SlR X r) (he:PE X e te) (hl:PO X lo tl) (hu:PO X hi th):PE X (.Subscript e (.Slice lo hi none p2) pos) (tSl r te tl th):=by
 intro pins s σ H Q I h;refine Subscript_ (cY (he pins s σ H _ I h) fun v s1 ⟨x,H1,I1,r1,q1⟩=>?_);refine wpAny_Slice (cY (hl pins s1 σ H1 _ I1 q1) fun vl s2 ⟨l,H2,I2,pl,q2⟩=>cY (hu pins s2 σ H2 _ I2 q2) fun vu s3 ⟨u,H3,I3,pu,q3⟩=>?_);rw [evalPart_none];refine wpAny_pure ?_;have I4:Inv X pins σ H3 {s3 with heap:=s3.heap.push {cls:= .type "slice",data:= .fields #[vl,vu,.none]}}:=I3.kept (t':=s3.toks) fun b ob q=>Heap.get?_push_of_some _ q
 obtain ⟨T,id,hT,ht,hg⟩:=hr pins {s3 with heap:=s3.heap.push {cls:= .type "slice",data:= .fields #[vl,vu,.none]}} σ H3 x v vl vu l u s3.heap.objs.size Q I4 r1 (Heap.IsSliceOf.new ..) pl pu q3;show wpAny (model X.prog X.w) X.A (subscriptTail e (.Slice lo hi none p2) v (.ref s3.heap.objs.size)) (EP X pins σ Q) X.xe {s3 with heap:=s3.heap.push {cls:= .type "slice",data:= .fields #[vl,vu,.none]}};exact tail_any (ops:=[.ref s3.heap.objs.size,v]) ht hT hg (by with_unfolding_all rfl)
def r6 (xs:List V) (lo hi:Option Int):List V:=(xs.drop (HT.Ii xs.length 0 lo)).take (HT.Ii xs.length xs.length hi-HT.Ii xs.length 0 lo)
theorem Kg (xs:List V) (lo hi:Option Int):(r6 xs lo hi).length<=xs.length:=by
 unfold r6;rw [List.length_take,List.length_drop]
 lia
end
end L2
namespace L2
open PySem PySem.Spec PyProof.Rows
def NB (n:Nat) (i:Int):Option Nat:=if 0<=i then (if i<n then some i.toNat else none) else if -(n:Int)<=i then some (i+n).toNat else none
def J2 {α:Type} (xs:List α) (i:Int):Option α:=(NB xs.length i).bind fun j=>xs[j]?
theorem Ij {n:Nat} {i:Int} {j:Nat} (h:NB n i=some j):seqIndex? i n=some j/\j<n/\ -(n:Int)<=i/\i<n:=by
 unfold NB at h;by_cases h0:0<=i
 ·rw [if_pos h0] at h;by_cases h1:i<n
  ·rw [if_pos h1] at h;have e:i.toNat=j:=Option.some.inj h;exact ⟨by rw [seqIndex_of h0 h1,e],by lia,by lia,h1⟩
  ·rw [if_neg h1] at h;cases h
 ·rw [if_neg h0] at h;by_cases h1: -(n:Int)<=i
  ·rw [if_pos h1] at h;have e:(i+n).toNat=j:=Option.some.inj h;exact ⟨by rw [seqIndex_neg (by lia) h1,e],by lia,h1,by lia⟩
  ·rw [if_neg h1] at h;cases h
theorem NC {α:Type} {xs:List α} {i:Int} {v:α} (h:J2 xs i=some v):∃ j,seqIndex? i xs.length=some j/\xs[j]? =some v/\j<xs.length/\ -(xs.length:Int)<=i/\i<xs.length:=by
 unfold J2 at h;cases e:NB xs.length i with
 |none=>rw [e] at h;cases h
 |some j=>
  rw [e] at h;obtain ⟨h1,h2,h3,h4⟩:=Ij e;exact ⟨j,h1,h,h2,h3,h4⟩
theorem uF {α:Type} {xs:List α} {j:Nat} {v:α} (h:xs[j]? =some v):J2 xs (j:Int)=some v:=by
 have hj:j<xs.length:=(List.getElem?_eq_some_iff.mp h).1;have e:NB xs.length (j:Int)=some j:=by
  unfold NB;rw [if_pos (by lia),if_pos (by lia)];simp
 unfold J2;rw [e];exact h
theorem P1 {α:Type} (xs:List α) (v:α):J2 (xs++[v]) (-1)=some v:=by
 have hl:(xs++[v]).length=xs.length+1:=by simp
 have e:NB (xs++[v]).length (-1)=some xs.length:=by
  unfold NB;rw [hl,if_neg (by decide),if_pos (by lia)]
  congr 1
  lia
 unfold J2;rw [e];show (xs++[v])[xs.length]? =some v;simp
def Ik (b:Expr):Prop:=∀ o i,subscripted b false o i=operate [o,i] (getItem o i)
def Xl (X:Cx) (r:R2):Prop:=
 ∀ (value slice:Expr) (pins:List (Addr×Obj)) (s:Shared) (σ:St) (H:Hp) (x y:V) (v u:Value) (Q:VK),Inv X pins σ H s->RelV x v->RelV y u->r x y H Q->
  subscripted slice false v u=operate [v,u] (getItem v u)->wpAny (model X.prog X.w) X.A (subscriptTail value slice v u) (EP X pins σ Q) X.xe s
def MtR (X:Cx) (id:String) (r:V->List V->Hp->VK->Prop):Prop:=
 ∀ (pins:List (Addr×Obj)) (s:Shared) (σ:St) (H:Hp) (x:V) (xs:List V) (v:Value) (us:List Value) (Q:VK),Inv X pins σ H s->RelV x v->Vals xs us->r x xs H Q->
  wpAny (model X.prog X.w) X.A (call (.builtin id) (v::us)) (EP X pins σ Q) X.xe s
section
variable {X:Cx} {a b:Expr} {ta tb:TE} {pos:Pos}
theorem P2 {r:R2} (hr:Xl X r) (ha:PE X a ta) (hb:PE X b tb) (hs:Ik b):PE X (.Subscript a b pos) (TX r ta tb):=by
 intro pins s σ H Q I h;exact Subscript_ (U4 ha hb I h fun v u s2 x y H2 I2 rx ry q=>hr a b pins s2 σ H2 x y v u Q I2 rx ry q (hs _ _))
def Va (K:PySem.W.Frag):R2:=fun x y H Q=>∃ p xs i v,x=.ref p/\y=.int i/\aH K H p xs/\J2 xs i=some v/\Q v H
def Vb (K:PySem.W.Frag):R2:=fun x y H Q=>∃ p xs i v,x=.ref p/\y=.int i/\pO K H p xs/\J2 xs i=some v/\Q v H
theorem R9:Xl X (Va X.K):=by
 intro value slice pins s σ H x y v u Q I rx ry h hs;obtain ⟨p,xs,i,z,rfl,rfl,hq,he,q⟩:=h;cases rx;obtain ⟨t,rfl⟩:=ry;obtain ⟨its,r,pl,hz⟩:=I.list hq;obtain ⟨j,h1,h2,h3,h4,h5⟩:=NC he;obtain ⟨w,ew,Kh⟩:=r.get h2;have hl:=r.length;have hn:=Ie;have fin:EP X pins σ Q w s:=⟨z,H,I,Kh,q⟩;by_cases h0:0<=i
 ·have hj:i.toNat=j:=by
   rw [seqIndex_of h0 h5] at h1;exact Option.some.inj h1
  exact item_listR pl.isList h0 (by lia) (by rw [hj];simpa using ew) fin hs
 ·have hj:(i+(its.toArray.size:Int)).toNat=j:=by
   rw [seqIndex_neg (by lia) h4] at h1;rw [List.size_toArray, <-hl];exact Option.some.inj h1
  exact subscriptTail_builtinR (x:=w) pl.isList.typeIs slot_list_getitem.lookup
   (wpAny_getItem_list_neg (Q:=fun r s'=>r=w/\EP X pins σ Q r s') pl.isList (by lia) (by rw [List.size_toArray]<;>lia) (by lia) (by rw [hj];simpa using ew) ⟨rfl,fin⟩) hs
theorem Vc:Xl X (Vb X.K):=by
 intro value slice pins s σ H x y v u Q I rx ry h hs;obtain ⟨p,xs,i,z,rfl,rfl,hq,he,q⟩:=h;cases rx;obtain ⟨t,rfl⟩:=ry;obtain ⟨its,r,pl,hz⟩:=I.tuple hq;obtain ⟨j,h1,h2,h3,h4,h5⟩:=NC he;obtain ⟨w,ew,Kh⟩:=r.get h2;have hl:=r.length;have hn:=Ie;have fin:EP X pins σ Q w s:=⟨z,H,I,Kh,q⟩;exact subscriptTail_builtinR (x:=w) pl.typeIs slot_tuple_getitem.lookup
  (getItem_tuple (j:=j) (Q:=fun r s'=>r=w/\EP X pins σ Q r s') pl (by lia) (by lia) (by rw [List.size_toArray, <-hl];exact h1) (by simpa using ew) ⟨rfl,fin⟩) hs
theorem Mc (its:List Value) (n j:Nat) (u:Value):Obj.mapSeq (·.setIfInBounds j u) {cls:= .type "list",data:= .seq its.toArray n}={cls:= .type "list",data:= .seq (its.set j u).toArray n}:=by
 simp [Obj.mapSeq]
theorem Inv.lst {pins:List (Addr×Obj)} {σ:St} {H:Hp} {s:Shared} {p:Addr} {xs:List V} (I:Inv X pins σ H s) (h:H p=some (.lst xs)):
  ∃ (its:List Value) (n:Nat),Vals xs its/\s.heap.get? p=some {cls:= .type "list",data:= .seq its.toArray n}/\xs.length<=sizeLine:=by
 obtain ⟨z,its,n,r,e⟩:=I.cf p _ h;exact ⟨its,n,r,e,z⟩
theorem Inv.Vd {pins:List (Addr×Obj)} {σ:St} {H:Hp} {s:Shared} {p:Addr} {xs ys:List V} {its its':List Value} {n n':Nat} {f:Obj->Obj} (I:Inv X pins σ H s) (h:H p=some (.lst xs))
  (ho:s.heap.get? p=some {cls:= .type "list",data:= .seq its.toArray n}) (hf:f {cls:= .type "list",data:= .seq its.toArray n}={cls:= .type "list",data:= .seq its'.toArray n'}) (r:Vals ys its') (hz:ys.length<=sizeLine) (t:Nat):
  Inv X pins σ (upd H p (.lst ys)) {s with heap:=s.heap.update p f,toks:=t}:=by
 have e:(s.heap.update p f).get? p=some {cls:= .type "list",data:= .seq its'.toArray n'}:=by
  rw [Heap.get?_update_self f ho (by rw [hf]<;>rfl),hf]
 refine I.write (x:=p) (e:=p) (by rw [h];trivial) (.inl rfl) (fun b u hb q=>(Heap.get?_update_other _ _ (Ne.symm hb)).trans q) ⟨_,e⟩ ?_;exact ⟨hz,its',n',r,e⟩
def Xm:V->V->V->Hp->(Hp->Prop)->Prop:=fun o i v H Q=>∃ p xs k j,o=.ref p/\i=.int k/\H p=some (.lst xs)/\NB xs.length k=some j/\Q (upd H p (.lst (xs.set j v)))
theorem set_list:Xd X Xm:=by
 intro pins s σ H o i v ov iv u Q I ro ri rv h;obtain ⟨p,xs,k,j,rfl,rfl,hp,hj,q⟩:=h;cases ro;obtain ⟨t,rfl⟩:=ri;obtain ⟨its,n,r,ho,hz⟩:=I.lst hp;obtain ⟨h1,h2,h3,h4⟩:=Ij hj;have hl:=r.length;have hn:=Ie;have I':Inv X pins σ (upd H p (.lst (xs.set j v))) {s with heap:=s.heap.update p (Obj.mapSeq (·.setIfInBounds j u))}:=
  I.Vd hp ho (Mc its n j u) (r.set rv j) (by rw [List.length_set];exact hz) s.toks
 by_cases h0:0<=k
 ·have hk:k.toNat=j:=by
   rw [seqIndex_of h0 h4] at h1;exact Option.some.inj h1
  exact PySem.W.ki_setAt ho h0 (by lia) (by rw [List.size_toArray, <-hl];exact h4) (by rw [hk];exact ⟨_,I',q⟩)
 ·have hk:(k+(its.toArray.size:Int)).toNat=j:=by
   rw [seqIndex_neg (by lia) h3] at h1;rw [List.size_toArray, <-hl];exact Option.some.inj h1
  exact PySem.W.ki_setBack ho (by lia) (by rw [List.size_toArray, <-hl];exact h3) (by lia) (by rw [hk];exact ⟨_,I',q⟩)
theorem Il (lo hi:Option Int) (n:Nat):(sliceBounds lo hi none n).1=((HT.Ii n 0 lo:Nat):Int)/\(sliceBounds lo hi none n).2.1=((HT.Ii n n hi:Nat):Int)/\(sliceBounds lo hi none n).2.2=1:=by
 refine ⟨?_,?_,rfl⟩
 ·cases lo with
  |none=>simp [sliceBounds,HT.Ii]
  |some i=>
   simp only [sliceBounds,HT.Ii,Option.getD_none,show (1:Int)>0 by decide,if_true];by_cases h:i<0
   ·simp only [h,if_true]<;>lia
   ·simp only [h,if_false]<;>lia
 ·cases hi with
  |none=>simp [sliceBounds,HT.Ii]
  |some i=>
   simp only [sliceBounds,HT.Ii,Option.getD_none,show (1:Int)>0 by decide,if_true];by_cases h:i<0
   ·simp only [h,if_true]<;>lia
   ·simp only [h,if_false]<;>lia
theorem Fx (its:List Value) (lo hi:Option Int):slicePick its.toArray lo hi none=((its.drop (HT.Ii its.length 0 lo)).take (HT.Ii its.length its.length hi-HT.Ii its.length 0 lo)).toArray:=by
 obtain ⟨h1,h2,h3⟩:=Il lo hi its.toArray.size;unfold slicePick;rw [h1,h2,h3];simp only [sliceRange_one,pick_run,List.size_toArray]<;>rfl
def Sa (K:PySem.W.Frag):V->Option Int->Option Int->Hp->VK->Prop:=fun x lo hi H Q=>∃ a xs,x=.ref a/\aH K H a xs/\∀ p,H p=none->Q (.ref p) (upd H p (.lst (r6 xs lo hi)))
theorem Sb:SlR X (Sa X.K):=by
 intro pins s σ H x v vl vu lo hi sl Q I rx hs pl pu h;obtain ⟨a,xs,rfl,hx,q⟩:=h;cases rx;obtain ⟨its,r,ht,hz⟩:=I.list hx;have hlen:=r.length;refine ⟨"list",_,slot_list_getitem.lookup,ht.isList.typeIs,?_⟩;refine wpAny_getItem_list_slice ht.isList hs pl pu .none (by simp) ?_ (by rw [List.size_toArray]<;>lia);rw [Fx, <-hlen];refine ⟨.ref s.heap.objs.size,_,I.laid (t':=s.toks) (o:= .lst (r6 xs lo hi)) (fun b ob q=>Heap.get?_push_of_some _ q) (Nat.le_refl _) ?_,rfl,q _ (I.cf.fresh (Nat.le_refl _))⟩;exact ⟨Nat.le_trans (Kg xs lo hi) hz,_,0,(r.drop (HT.Ii xs.length 0 lo)).take (HT.Ii xs.length xs.length hi-HT.Ii xs.length 0 lo),Heap.get?_push_size _ rfl⟩
def xp:V->Bool
 | .cx=>true
 | .bl _=>true
 | .int _=>true
 | .str _=>true
 |_=>false
def T7:V->V->Bool
 | .cx,.cx=>true
 | .bl a,.bl b=>a==b
 | .bl a,.int b=>(if a then 1 else 0)==b
 | .int a,.bl b=>a==(if b then 1 else 0)
 | .int a,.int b=>a==b
 | .str a,.str b=>a==b
 |_,_=>false
theorem Ve {A:Around} {s:Shared} {y x:V} {u v:Value} (ry:RelV y u) (rx:RelV x v) (fy:xp y=true) (fx:xp x=true):SeqAt.EqAt A s u v (T7 y x):=by
 cases y with
 |cx=>
  cases ry;cases x with
  |cx=>cases rx;exact SeqAt.EqAt.same _
  |bl b=>cases rx;exact SeqAt.EqAt.none_bool b
  |int b=>obtain ⟨t,rfl⟩:=rx;exact SeqAt.EqAt.none_int b t
  |str b=>obtain ⟨t,rfl⟩:=rx;exact SeqAt.EqAt.none_str b t
  |_=>exact absurd (show false=true from fx) Bool.false_ne_true
 |bl a=>
  cases ry;cases x with
  |cx=>cases rx;exact SeqAt.EqAt.bool_none a
  |bl b=>cases rx;exact SeqAt.EqAt.bool_bool a b
  |int b=>obtain ⟨t,rfl⟩:=rx;exact SeqAt.EqAt.bool_int a b t
  |str b=>obtain ⟨t,rfl⟩:=rx;exact SeqAt.EqAt.bool_str a b t
  |_=>exact absurd (show false=true from fx) Bool.false_ne_true
 |int a=>
  obtain ⟨t',rfl⟩:=ry;cases x with
  |cx=>cases rx;exact SeqAt.EqAt.int_none a t'
  |bl b=>cases rx;exact SeqAt.EqAt.int_bool a t' b
  |int b=>obtain ⟨t,rfl⟩:=rx;exact SeqAt.EqAt.int_int a t' b t
  |str b=>obtain ⟨t,rfl⟩:=rx;exact SeqAt.EqAt.int_str a t' b t
  |_=>exact absurd (show false=true from fx) Bool.false_ne_true
 |str a=>
  obtain ⟨t',rfl⟩:=ry;cases x with
  |cx=>cases rx;exact SeqAt.EqAt.str_none a t'
  |bl b=>cases rx;exact SeqAt.EqAt.str_bool a t' b
  |int b=>obtain ⟨t,rfl⟩:=rx;exact SeqAt.EqAt.str_int a t' b t
  |str b=>obtain ⟨t,rfl⟩:=rx;exact SeqAt.EqAt.str_str a t' b t
  |_=>exact absurd (show false=true from fx) Bool.false_ne_true
 |_=>exact absurd (show false=true from fy) Bool.false_ne_true
def Sd (x:V) (u:Value):Bool:=match u with
 | .none=>T7 .cx x
 | .bool b=>T7 (.bl b) x
 | .int i _=>T7 (.int i) x
 | .str z _=>T7 (.str z) x
 |_=>false
theorem P4 {x y:V} {u:Value} (r:RelV y u) (f:xp y=true):Sd x u=T7 y x:=by
 cases y with
 |cx=>cases r;rfl
 |bl b=>cases r;rfl
 |int i=>obtain ⟨t,rfl⟩:=r;rfl
 |str z=>obtain ⟨t,rfl⟩:=r;rfl
 |_=>exact absurd (show false=true from f) Bool.false_ne_true
theorem Im {x:V}:∀ {xs:List V} {us:List Value},Vals xs us->xs.all xp=true->us.any (Sd x)=xs.any fun y=>T7 y x
 |_,_,.nil,_=>rfl
 |y::xs,u::us,.cons r t,f=>by
  rw [List.all_cons,Bool.and_eq_true] at f;rw [List.any_cons,List.any_cons,P4 r f.1,Im t f.2]
theorem C5 {A:Around} {s:Shared} {x:V} {v:Value} (rx:RelV x v) (fx:xp x=true):∀ {xs:List V} {us:List Value},Vals xs us->xs.all xp=true->∀ u∈us,SeqAt.EqAt A s u v (Sd x u)
 |_,_,.nil,_=>fun u hu=>by cases hu
 |y::xs,u::us,.cons r t,f=>fun u' hu=>by
  rw [List.all_cons,Bool.and_eq_true] at f;rcases List.mem_cons.mp hu with rfl|hu
  ·rw [P4 r f.1];exact Ve r rx f.1 fx
  ·exact C5 rx fx t f.2 u' hu
def Xn (x:V) (xs:List V):Bool:=xs.any fun y=>T7 y x
def rIn (K:PySem.W.Frag) (neg:Bool):R2:=fun x y H Q=>∃ p xs,y=.ref p/\(aH K H p xs∨pO K H p xs)/\xp x=true/\xs.all xp=true/\Q (.bl (if neg then !Xn x xs else Xn x xs)) H
theorem Ox:zq X (compareOp .In) (rIn X.K false):=by
 intro pins s σ H x y v u Q I rx ry h;obtain ⟨p,xs,rfl,hq,fx,fs,q⟩:=h;cases ry;rcases hq with hq|hq
 ·obtain ⟨its,r,pl,hz⟩:=I.list hq;refine SeqAt.in_listAt (Sd x) pl.isList (fun w hw=>C5 rx fx r fs w (by simpa using hw)) ⟨.bl _,H,I,rfl,?_⟩;rw [show its.toArray.any (Sd x)=its.any (Sd x) by simp,Im r fs];exact q
 ·obtain ⟨its,r,pl,hz⟩:=I.tuple hq;refine SeqAt.in_tupleAt (Sd x) pl (fun w hw=>C5 rx fx r fs w (by simpa using hw)) ⟨.bl _,H,I,rfl,?_⟩;rw [show its.toArray.any (Sd x)=its.any (Sd x) by simp,Im r fs];exact q
theorem Io:fq X (.builtin "len") (fun xs H Q=>∃ p ys,xs=[.ref p]/\(aH X.K H p ys∨pO X.K H p ys)/\Q (.int ys.length) H):=by
 intro pins s σ H xs us Q I r h;obtain ⟨p,ys,rfl,hq,q⟩:=h;obtain ⟨u,rfl,rx⟩:=vals1 r;cases rx;have hn:=Ie;rcases hq with hq|hq
 ·obtain ⟨its,r',pl,hz⟩:=I.list hq;have hlen:=r'.length;exact Calls.call_len_list pl.isList (by simp only [List.size_toArray]<;>lia) ⟨.int ys.length,H,I.tok _,⟨s.toks+1,by rw [List.size_toArray,hlen]⟩,q⟩
 ·obtain ⟨its,r',pl,hz⟩:=I.tuple hq;have hlen:=r'.length;exact len_tuple pl (by simp only [List.size_toArray]<;>lia) ⟨.int ys.length,H,I.tok _,⟨s.toks+1,by rw [List.size_toArray,hlen]⟩,q⟩
theorem Ip:fq X (.type "list") (fun xs H Q=>∃ p ys,xs=[.ref p]/\(aH X.K H p ys∨pO X.K H p ys)/\∀ l,H l=none->Q (.ref l) (upd H l (.lst ys))):=by
 intro pins s σ H xs us Q I r h;obtain ⟨p,ys,rfl,hq,q⟩:=h;obtain ⟨u,rfl,rx⟩:=vals1 r;cases rx;have fin:∀ (its:List Value),Vals ys its->ys.length<=sizeLine->∀ (h':Heap) (c':Nat),(∀ b o',s.heap.get? b=some o'->h'.get? b=some o')->
   h'.get? s.heap.objs.size=some {cls:= .type "list",dict:=none,data:= .seq its.toArray c',slots:= #[]}->EP X pins σ Q (.ref s.heap.objs.size) {s with heap:=h'}:=fun its r' hz h' c' kp e=>
  ⟨.ref s.heap.objs.size,_,I.laid (t':=s.toks) kp (Nat.le_refl _) (show cJ X.prog X.w _ h' _ (.lst ys) from ⟨hz,its,c',r',e⟩),rfl,q _ (I.cf.fresh (Nat.le_refl _))⟩
 rcases hq with hq|hq
 ·obtain ⟨its,r',pl,hz⟩:=I.list hq;have hlen:=r'.length;obtain ⟨o,ho,hc,n,hd⟩:=pl.isList;exact call_list_seq p (.inl rfl) ho hc hd (fun h' c' kp e=>fin its r' hz h' c' kp e) (by simp only [List.size_toArray]<;>lia)
 ·obtain ⟨its,r',pl,hz⟩:=I.tuple hq;have hlen:=r'.length;obtain ⟨o,ho,hc,n,hd⟩:=pl;exact call_list_seq p (.inr rfl) ho hc hd (fun h' c' kp e=>fin its r' hz h' c' kp e) (by simp only [List.size_toArray]<;>lia)
theorem Fy:fq X (.type "tuple") (fun xs H Q=>∃ p ys,xs=[.ref p]/\((aH X.K H p ys/\∀ l,H l=none->Q (.ref l) (upd H l (.tup ys)))∨(pO X.K H p ys/\Q (.ref p) H))):=by
 intro pins s σ H xs us Q I r h;obtain ⟨p,ys,rfl,h⟩:=h;obtain ⟨u,rfl,rx⟩:=vals1 r;cases rx;rcases h with ⟨hq,q⟩|⟨hq,q⟩
 ·obtain ⟨its,r',pl,hz⟩:=I.list hq;have hlen:=r'.length;refine call_tuple_list pl.isList (fun h' kp=>?_) (by simp only [List.size_toArray]<;>lia);have I1:Inv X pins σ H {s with heap:=h'}:=I.kept (t':=s.toks) kp;have I2:Inv X pins σ (upd H h'.objs.size (.tup ys)) {s with heap:=h'.push {cls:= .type "tuple",data:= .seq its.toArray}}:=
   I1.laid (t':=s.toks) (fun b o e=>Heap.get?_push_of_some _ e) (Nat.le_refl _) (show cJ X.prog X.w _ _ _ (.tup ys) from ⟨hz,its,r',IsTup.new _ _⟩)
  exact ⟨.ref h'.objs.size,_,I2,rfl,q _ (I1.cf.fresh (Nat.le_refl _))⟩
 ·obtain ⟨its,r',pl,hz⟩:=I.tuple hq;exact call_tuple_same pl ⟨.ref p,H,I,rfl,q⟩
def tyV (K:PySem.W.Frag) (T:String) (x:V) (H:Hp):Prop:=match x with
 | .str _=>T="str"
 | .int _=>T="int"
 | .ref p=>(T="list"/\∃ xs,aH K H p xs)∨(T="tuple"/\∃ o,K.lookup p=some o/\o.cls=.type "tuple"/\o.dict=none)∨
   (T="dict"/\((∃ kvs,H p=some (.dK kvs))∨∃ kvs,H p=some (.dT kvs)))∨(T="set"/\∃ S n,H p=some (.set S n))
 |_=>False
theorem P5 {pins:List (Addr×Obj)} {σ:St} {H:Hp} {s:Shared} {T:String} {x:V} {v:Value} (I:Inv X pins σ H s) (r:RelV x v) (ty:tyV X.K T x H):
  s.TypeIs v T/\∀ a,v=.ref a->∃ ob,s.heap.get? a=some ob/\ob.dict=none:=by
 cases x with
 |str z=>
  obtain ⟨t,rfl⟩:=r;cases (show T="str" from ty);exact ⟨typeIs_str s z t,fun _ e=>nomatch e⟩
 |int i=>
  obtain ⟨t,rfl⟩:=r;cases (show T="int" from ty);exact ⟨typeIs_int s i t,fun _ e=>nomatch e⟩
 |ref p=>
  cases r;rcases ty with ⟨rfl,xs,hq⟩|⟨rfl,o,hk,hc,hd⟩|⟨rfl,hk⟩|⟨rfl,S,n,hk⟩
  ·obtain ⟨its,_,pl,_⟩:=I.list hq;refine ⟨pl.isList.typeIs,fun a e=>?_⟩;cases e;obtain ⟨o,n,e,c,hd,_⟩:=pl;exact ⟨o,e,hd⟩
  ·refine ⟨⟨o,I.LL p o hk,hc⟩,fun a e=>?_⟩;cases e;exact ⟨o,I.LL _ o hk,hd⟩
  ·have z:∃ o,s.heap.get? p=some o/\o.ExactDict:=by
    rcases hk with ⟨kvs,hk⟩|⟨kvs,hk⟩
    ·obtain ⟨_,_,_,_,o,_,_,e,ex,_⟩:=I.cf p _ hk;exact ⟨o,e,ex⟩
    ·obtain ⟨_,_,_,_,o,_,_,e,ex,_⟩:=I.cf p _ hk;exact ⟨o,e,ex⟩
   obtain ⟨o,e,ex⟩:=z;refine ⟨⟨o,e,ex.1⟩,fun a e2=>?_⟩;cases e2;exact ⟨o,e,ex.2.1⟩
  ·obtain ⟨o,_,_,_,e,ex,_⟩:=I.cf p _ hk;refine ⟨⟨o,e,ex.1⟩,fun a e2=>?_⟩;cases e2;exact ⟨o,e,ex.2.1⟩
 |_=>exact False.elim ty
def aaq (K:PySem.W.Frag) (T:String) (r:V->List V->Hp->VK->Prop) (to:TE):TE:=fun σ H Q=>to σ H fun x H1=>tyV K T x H1/\r x [] H1 Q
def tBM (K:PySem.W.Frag) (T:String) (r:V->List V->Hp->VK->Prop) (to:TE) (t:TA):TE:=fun σ H Q=>to σ H fun x H1=>tyV K T x H1/\t σ H1 fun xs H2=>r x xs H2 Q
variable {o e:Expr} {es:List Expr} {to:TE} {t:TA} {name:Str} {apos r9:Pos} {T id:String} {r:V->List V->Hp->VK->Prop}
theorem Vf (pa:PlainAttrs T) (slot:Slot T name id) (hty:typeOf (.builtin id)=pure (.type "method_descriptor")) (hm:MtR X id r) (ho:PE X o to)
  (P6:attributeBase o name X.env (eval o X.env)=eval o X.env:=by rfl) (P7:(apos.endLine==r9.line)=true:=by rfl):PE X (.Call (.Attribute o name apos) [] [] r9) (aaq X.K T r to):=by
 intro pins s σ H Q I h;refine wpAny_Call_method0_late P6 P7 (cY (ho pins s σ H _ I h) fun v s1 ⟨x,H1,I1,r1,ty,q1⟩=>?_);obtain ⟨h1,h2⟩:=P5 I1 r1 ty;exact ⟨T,id,pa,slot,hty,h1,h2,Calls.callWith_builtin rfl (PySem.evalArgs_none (hm pins s1 σ H1 x [] v [] Q I1 r1 .nil q1))⟩
theorem hZ (pa:PlainAttrs T) (slot:Slot T name id) (hty:typeOf (.builtin id)=pure (.type "method_descriptor")) (hm:MtR X id r) (ho:PE X o to) (ha:PA X (e::es) t)
  (P6:attributeBase o name X.env (eval o X.env)=eval o X.env:=by rfl)
  (aar:((backTo r9 (starEach (e::es) X.env)).all (fun x=> !x.1)&&(backToKw r9 (keywordEach [] X.env)).all (fun x=>x.1.isSome)
   &&decide ((e::es).length+([]:List Keyword).length+(if ([]:List Keyword).isEmpty then 0 else 1)<30))=true:=by rfl)
  (P7:(apos.endLine==r9.line)=true:=by rfl) (hs:starEach (e::es) X.env=(false,eval e X.env)::starEach es X.env:=by rfl) (Vg:(backTo r9 (starEach es X.env)).any (·.1)=false:=by rfl):
  PE X (.Call (.Attribute o name apos) (e::es) [] r9) (tBM X.K T r to t):=by
 intro pins s σ H Q I h;refine wpAny_Call_method_late P6 aar P7 rfl (cY (ho pins s σ H _ I h) fun v s1 ⟨x,H1,I1,r1,ty,q1⟩=>?_);obtain ⟨h1,h2⟩:=P5 I1 r1 ty;refine ⟨T,id,pa,slot,hty,h1,h2,?_⟩;have hA:=ha r9 pins s1 σ H1 _ I1 q1;rw [hs] at hA ⊢;refine Calls.callWith_builtin (by show (false||(backTo r9 (starEach es X.env)).any (·.1))=false;rw [Vg]<;>rfl) (Calls.evalArgs_plain ?_);exact cY hA fun us s2 ⟨vs,H2,I2,r2,q2⟩=>hm pins s2 σ H2 x vs v us Q I2 r1 r2 q2
end
end L2
namespace L2
open PySem PySem.Spec PyProof.Rows
def WH (X:Cx) (id:String) (r:V->List V->Hp->VK->Prop):Prop:=
 ∀ (pins:List (Addr×Obj)) (s:Shared) (σ:St) (H:Hp) (x:V) (xs:List V) (v:Value) (us:List Value) (Q:VK),Inv X pins σ H s->RelV x v->Vals xs us->r x xs H Q->
  wpAny (model X.prog X.w) X.A (call (.builtin id) (v::us)) (EP X pins σ Q) X.xe s
theorem Vals.one:∀ {x:V} {us:List Value},Vals [x] us->∃ u,us=[u]/\RelV x u
 |_,_,.cons r .nil=>⟨_,rfl,r⟩
theorem Vals.zero:∀ {us:List Value},Vals [] us->us=[]
 |_,.nil=>rfl
theorem Vals.eraseIdx:∀ {xs:List V} {us:List Value} (i:Nat),Vals xs us->Vals (xs.eraseIdx i) (us.eraseIdx i)
 |_,_,_,.nil=>.nil
 |_,_,0,.cons _ t=>t
 |_,_,i+1,.cons r t=>.cons r (Vals.eraseIdx i t)
theorem Vals.rep {xs:List V} {us:List Value} (h:Vals xs us):∀ k:Nat,Vals (List.replicate k xs).flatten (List.replicate k us).flatten
 |0=>.nil
 |k+1=>by
  rw [List.replicate_succ,List.replicate_succ,List.flatten_cons,List.flatten_cons];exact Vals.append h (Vals.rep h k)
theorem GV {α:Type}:∀ (l:List α) (i:Nat),(l.eraseIdx i).length<=l.length
 |[],_=>Nat.le_refl _
 |_::_,0=>Nat.le_succ _
 |_::r,i+1=>Nat.succ_le_succ (GV r i)
theorem foldl_rep (its:List Value):∀ (k:Nat) (acc:List Value),
  List.foldl (fun x1 x2=>x1++x2) acc.toArray (List.replicate k its.toArray)=(acc++(List.replicate k its).flatten).toArray
 |0,acc=>by simp
 |k+1,acc=>by
  have e:acc.toArray++its.toArray=(acc++its).toArray:=by simp
  have e2:(acc++its)++(List.replicate k its).flatten=acc++(List.replicate (k+1) its).flatten:=by
   rw [List.replicate_succ,List.flatten_cons,List.append_assoc]
  rw [<-e2, <-foldl_rep its k (acc++its), <-e,List.replicate_succ,List.foldl_cons]
section
variable {X:Cx} {pins:List (Addr×Obj)} {σ:St} {H:Hp} {s:Shared} {l b:Addr} {xs ys zs:List V}
theorem Inv.Oy {its its':List Value} {n:Nat} {f:Array Value->Array Value} {t':Nat} (I:Inv X pins σ H s) (hH:H l=some (.lst xs))
  (e:s.heap.get? l=some {cls:= .type "list",data:= .seq its.toArray n}) (hf:f its.toArray=its'.toArray) (hv:Vals ys its') (hz:ys.length<=sizeLine):
  Inv X pins σ (upd H l (.lst ys)) {s with heap:=s.heap.update l (Obj.mapSeq f),toks:=t'}:=by
 have q:=PySem.IsL.update e f;rw [hf] at q;refine I.write (x:=l) (e:=l) (by rw [hH];exact trivial) (.inl rfl) (fun b' u hb hu=>(Heap.get?_update_other s.heap (Obj.mapSeq f) (Ne.symm hb)).trans hu) ⟨_,q⟩ ?_;exact ⟨hz,its',_,hv,q⟩
theorem Inv.Se {its:List Value} {t':Nat} (I:Inv X pins σ H s) (hv:Vals ys its) (hz:ys.length<=sizeLine):
  Inv X pins σ (upd H s.heap.objs.size (.lst ys)) {s with heap:=s.heap.push {cls:= .type "list",data:= .seq its.toArray},toks:=t'}:=
 I.laid (fun _ _ q=>Heap.get?_push_of_some _ q) (Nat.le_refl _) ⟨hz,its,0,hv,Heap.get?_push_size _ rfl⟩
theorem Inv.fresh (I:Inv X pins σ H s):H s.heap.objs.size=none:=I.cf.fresh (Nat.le_refl _)
theorem Inv.BV (I:Inv X pins σ H s) (hH:H l=some (.lst xs)):xs.length<=sizeLine/\∃ (its:List Value) (n:Nat),Vals xs its/\xs.length=its.length/\s.heap.get? l=some {cls:= .type "list",data:= .seq its.toArray n}:=by
 obtain ⟨z,its,n,r,e⟩:=I.cf l _ hH;exact ⟨z,its,n,r,r.length,e⟩
theorem C6 {n:Nat} (h:n<=sizeLine):Builtin.List.listTooLong n=false:=by
 unfold Builtin.List.listTooLong;exact decide_eq_false (by lia)
end
section
variable {X:Cx}
def Iq:V->List V->Hp->VK->Prop:=fun x vs H Q=>∃ l xs y,x=.ref l/\vs=[y]/\H l=some (.lst xs)/\xs.length<sizeLine/\Q .cx (upd H l (.lst (xs++[y])))
theorem cq:WH X "list.append" Iq:=by
 intro pins s σ H x vs v us Q I rx rv h;obtain ⟨l,xs,y,rfl,rfl,hH,hz,q⟩:=h;cases rx;obtain ⟨u,rfl,ru⟩:=rv.one;obtain ⟨z,its,n,r,hl,e⟩:=I.BV hH;refine call_meets F.slot_list_append ⟨_,e,rfl⟩ F.entry_list_append (F.args_list_append_2 _ _) (PySem.list_append l its.toArray n u (by rw [List.size_toArray];lia)) ⟨e,?_⟩;refine ⟨.cx,_,I.Oy (its':=its++[u]) hH e (by simp) (r.append (.cons ru .nil)) ?_,rfl,q⟩;rw [List.length_append,List.length_singleton]
 lia
def Sf:V->List V->Hp->VK->Prop:=fun x vs H Q=>∃ l b xs zs,x=.ref l/\vs=[.ref b]/\H l=some (.lst xs)/\H b=some (.lst zs)/\xs.length+zs.length<=sizeLine/\Q .cx (upd H l (.lst (xs++zs)))
theorem Oz:WH X "list.extend" Sf:=by
 intro pins s σ H x vs v us Q I rx rv h;obtain ⟨l,b,xs,zs,rfl,rfl,hH,hB,hz,q⟩:=h;cases rx;obtain ⟨u,rfl,ru⟩:=rv.one;cases ru;obtain ⟨z,its,n,r,hl,e⟩:=I.BV hH;obtain ⟨z2,BW,n2,r2,Md,e2⟩:=I.BV hB;have hsz:its.toArray.size+BW.toArray.size<=sizeLine:=by rw [List.size_toArray,List.size_toArray];lia
 have Ki:¬ (!its.toArray.isEmpty&&Builtin.List.listTooLong (its.toArray.size+BW.toArray.size))=true:=by
  rw [C6 hsz,Bool.and_false];exact Bool.false_ne_true
 refine call_meets F.slot_list_extend ⟨_,e,rfl⟩ F.entry_list_extend (F.args_list_extend_2 _ _)
  (AutoSeq1.list_extend_list_list_0 l its.toArray n b BW.toArray n2 Ki (by rw [List.size_toArray];lia) (by lia)) ⟨e,e2,?_⟩
 refine ⟨.cx,_,I.Oy (its':=its++BW) hH e (by simp) (r.append r2) ?_,rfl,q⟩;rw [List.length_append]
 lia
def Vh:V->List V->Hp->VK->Prop:=fun x vs H Q=>∃ l xs i k y,x=.ref l/\vs=[.int i]/\H l=some (.lst xs)/\ -(2 ^ 63)<=i/\i<2 ^ 63/\seqIndex? i xs.length=some k/\xs[k]? =some y/\Q y (upd H l (.lst (xs.eraseIdx k)))
theorem P8:WH X "list.pop" Vh:=by
 intro pins s σ H x vs v us Q I rx rv h;obtain ⟨l,xs,i,k,y,rfl,rfl,hH,h1,h2,hk,hy,q⟩:=h;cases rx;obtain ⟨u,rfl,ru⟩:=rv.one;obtain ⟨t,rfl⟩:=ru;obtain ⟨z,its,n,r,hl,e⟩:=I.BV hH;obtain ⟨w,hw,Kh⟩:=r.get hy;refine call_meets F.slot_list_pop ⟨_,e,rfl⟩ F.entry_list_pop (F.args_list_pop_2 _ _)
  (MeetsSeq.list_pop_at l its.toArray n i t k w (fitsIndex_both h1 h2) (by rw [List.size_toArray, <-hl];exact hk) (by rw [<-Array.getElem?_toList];exact hw) (by rw [List.size_toArray];lia)) ⟨e,?_⟩
 refine ⟨y,_,I.Oy (its':=its.eraseIdx k) hH e ?_ (r.eraseIdx k) ?_,Kh,q⟩
 ·show its.toArray.eraseIdxIfInBounds k=(its.eraseIdx k).toArray;rw [List.eraseIdxIfInBounds_toArray]
 ·have:=GV xs k
  lia
def Xo:R2:=fun x y H Q=>∃ l b xs zs,x=.ref l/\y=.ref b/\H l=some (.lst xs)/\H b=some (.lst zs)/\xs.length+zs.length<=sizeLine/\∀ p,H p=none->Q (.ref p) (upd H p (.lst (xs++zs)))
theorem fW:zq X (binaryOp .Add) Xo:=by
 intro pins s σ H x y v u Q I rx ry h;obtain ⟨l,b,xs,zs,rfl,rfl,hH,hB,hz,q⟩:=h;cases rx;cases ry;obtain ⟨z,its,n,r,hl,e⟩:=I.BV hH;obtain ⟨z2,BW,n2,r2,Md,e2⟩:=I.BV hB;refine PySem.P.add_list e e2 ?_ (by rw [List.size_toArray,List.size_toArray];lia);have ea:its.toArray++BW.toArray=(its++BW).toArray:=by simp
 rw [ea];exact ⟨.ref _,_,I.Se (t':=s.toks) (r.append r2) (by rw [List.length_append];lia),rfl,q _ I.fresh⟩
def aas:R2:=fun x y H Q=>∃ l k xs,x=.ref l/\y=.int k/\H l=some (.lst xs)/\ -(2 ^ 63)<=k/\k<2 ^ 63/\xs.length*k.toNat<=sizeLine/\
 ∀ p,H p=none->Q (.ref p) (upd H p (.lst (List.replicate k.toNat xs).flatten))
theorem len_rep {α:Type} (xs:List α) (k:Nat):(List.replicate k xs).flatten.length=k*xs.length:=by
 induction k with
 |zero=>simp
 |succ k ih=>rw [List.replicate_succ,List.flatten_cons,List.length_append,ih,Nat.succ_mul,Nat.add_comm]
theorem Me:zq X (binaryOp .Mult) aas:=by
 intro pins s σ H x y v u Q I rx ry h;obtain ⟨l,k,xs,rfl,rfl,hH,h1,h2,hz,q⟩:=h;cases rx;obtain ⟨t,rfl⟩:=ry;obtain ⟨z,its,n,r,hl,e⟩:=I.BV hH;have hlen:its.toArray.size*k.toNat<=sizeLine:=by rw [List.size_toArray, <-hl];exact hz
 have aat:¬ its.toArray.size*k.toNat>(2 ^ 63-1)/8:=by
  have:(sizeLine:Nat)<=(2 ^ 63-1)/8:=by decide
  lia
 have aau:¬ (!Builtin.List.listFitsIndex k)=true:=by
  rw [fitsIndex_both h1 h2];exact Bool.false_ne_true
 have Ki:¬ Builtin.List.listTooLong (its.toArray.size*k.toNat)=true:=by
  rw [C6 hlen];exact Bool.false_ne_true
 have Mf:List.foldl (fun x1 x2=>x1++x2) #[] (List.replicate (if its.toArray.isEmpty=true then 0 else k.toNat) its.toArray)=(List.replicate k.toNat its).flatten.toArray:=by
  have f0:∀ m:Nat,List.foldl (fun x1 x2=>x1++x2) #[] (List.replicate m its.toArray)=(List.replicate m its).flatten.toArray:=fun m=>by
   have:=foldl_rep its m [];rw [List.nil_append] at this;exact this
  rw [f0];cases its with
  |nil=>simp
  |cons a r'=>rw [if_neg (by simp)]
 refine wpAny_binaryOp_repeat_ref (T:="list") (U:="int") (by decide) ⟨_,e,rfl⟩ (fun s'=>typeIs_int s' k t) noFill_list_mul F.fills_int_mul F.slot_int_rmul repeat_list F.slot_int_index.lookup
  (call_meets F.slot_int_rmul (typeIs_int s k t) F.entry_int_rmul (F.args_int_rmul_2 _ _) (int___rmul___int_list k t l its.toArray n)
   ⟨e,rfl,⟨_,e,rfl⟩,call_meets F.slot_list_mul ⟨_,e,rfl⟩ F.entry_list_mul (F.args_list_mul_2 _ _) (AutoListH.list___mul___list_int_3 l its.toArray n k t aau aat Ki) ⟨e,?_⟩⟩)
 rw [Mf];exact ⟨.ref _,_,I.Se (t':=s.toks) (r.rep k.toNat) (by rw [len_rep,Nat.mul_comm];exact hz),rfl,q _ I.fresh⟩
end
end L2
namespace L2
open PySem PySem.Spec PyProof.Rows
theorem Vals.ints:∀ {ns:List Int} {us:List Value},Vals (ns.map V.int) us->IntsAre us ns
 |[],us,h=>by
  rw [List.map_nil] at h;cases h;exact IntsAre.nil
 |n::ns,us,h=>by
  rw [List.map_cons] at h;cases h with
  |cons r t=>
   obtain ⟨k,rfl⟩:=r;exact IntsAre.cons n k (Vals.ints t)
theorem xq:∀ {us:List Value} {ns:List Int},IntsAre us ns->Vals (ns.map V.int) us
 |_,_,.nil=>by rw [List.map_nil];exact Paired.nil
 |_,_,.cons n t h=>by rw [List.map_cons];exact Paired.cons (show RelV (V.int n) (Value.int n t) from ⟨t,rfl⟩) (xq h)
theorem Vals.bls:∀ {bs:List Bool} {us:List Value},Vals (bs.map V.bl) us->us=bs.map Value.bool
 |[],us,h=>by
  rw [List.map_nil] at h;cases h;rfl
 |b::bs,us,h=>by
  rw [List.map_cons] at h;cases h with
  |cons r t=>
   cases r;rw [Vals.bls t,List.map_cons]
theorem Vals.Sg {a:Addr} {us:List Value} (r:Vals [V.ref a] us):us=[Value.ref a]:=by
 cases r with
 |cons r t=>
  cases t;cases r;rfl
section
variable {prog:Program} {w:World} {A:Around} {E:Value->Shared->Prop} {s:Shared} {l:Addr} {its:List Value} {ns:List Int} {Q:Value->Shared->Prop}
theorem Sh (hh:A.handled=none) (hl:s.heap.IsList l its.toArray) (hi:IntsAre its ns)
  (h:∀ h' tk t',(∀ b o,s.heap.get? b=some o->h'.get? b=some o)->Q (.int ns.sum t') {s with heap:=h',toks:=tk}):wpAny (model prog w) A (call (.builtin "sum") [.ref l]) Q E s:=by
 obtain ⟨xs,e⟩:=hi.allInts.items;have hn:numsOf (intItems xs).toList=ns:=by rw [<-e];exact hi.numsOf
 rw [nums_intItems] at hn;rw [e] at hl;refine PySem.sum_intListG hh hl fun h' tk t' hk=>?_
 have:=h h' tk t' hk;rw [preSum_eq,List.take_of_length_le (by simp),hn];exact this
theorem Si (hh:A.handled=none) (hl:s.heap.IsList l its.toArray) (hi:IntsAre its ns) (xk:0<ns.length)
  (h:∀ h' tk M t',(∀ b o,s.heap.get? b=some o->h'.get? b=some o)->M∈ns->(∀ a,a∈ns->a<=M)->Q (.int M t') {s with heap:=h',toks:=tk}):wpAny (model prog w) A (call (.builtin "max") [.ref l]) Q E s:=by
 obtain ⟨xs,e⟩:=hi.allInts.items;have hn:numsOf (intItems xs).toList=ns:=by rw [<-e];exact hi.numsOf
 rw [nums_intItems] at hn;subst hn;rw [e] at hl;have hsz:0<xs.size:=by simpa using xk
 refine PySem.max_intList hh hl hsz fun v h' tk hv hk=>?_
 obtain ⟨t,rfl⟩:=intItems_at hv;obtain ⟨h1,h2⟩:=argBest_gt (numAt xs) (xs.size-1);refine h h' tk _ t hk ?_ fun a ha=>?_
 ·rw [numAt_eq];exact PySem.getD_mem (by rw [List.length_map,Array.length_toList];lia)
 ·obtain ⟨j,hj,rfl⟩:=mem_getD ha;rw [List.length_map,Array.length_toList] at hj;rw [<-numAt_eq];exact h2 j (by lia)
theorem Sj (hh:A.handled=none) (hl:s.heap.IsList l its.toArray) (hi:IntsAre its ns) (xk:0<ns.length)
  (h:∀ h' tk M t',(∀ b o,s.heap.get? b=some o->h'.get? b=some o)->M∈ns->(∀ a,a∈ns->M<=a)->Q (.int M t') {s with heap:=h',toks:=tk}):wpAny (model prog w) A (call (.builtin "min") [.ref l]) Q E s:=by
 obtain ⟨xs,e⟩:=hi.allInts.items;have hn:numsOf (intItems xs).toList=ns:=by rw [<-e];exact hi.numsOf
 rw [nums_intItems] at hn;subst hn;rw [e] at hl;have hsz:0<xs.size:=by simpa using xk
 refine PySem.min_intList hh hl hsz fun v h' tk hv hk=>?_
 obtain ⟨t,rfl⟩:=intItems_at hv;obtain ⟨h1,h2⟩:=argBest_lt (numAt xs) (xs.size-1);refine h h' tk _ t hk ?_ fun a ha=>?_
 ·rw [numAt_eq];exact PySem.getD_mem (by rw [List.length_map,Array.length_toList];lia)
 ·obtain ⟨j,hj,rfl⟩:=mem_getD ha;rw [List.length_map,Array.length_toList] at hj;rw [<-numAt_eq];exact h2 j (by lia)
end
section
variable {X:Cx}
def Xp (K:PySem.W.Frag):List V->Hp->VK->Prop:=fun vs H Q=>∃ (a:Addr) (ns:List Int),vs=[V.ref a]/\aH K H a (ns.map V.int)/\Q (.int ns.sum) H
def Xq (K:PySem.W.Frag):List V->Hp->VK->Prop:=fun vs H Q=>∃ (a:Addr) (ns:List Int),vs=[V.ref a]/\aH K H a (ns.map V.int)/\0<ns.length/\∀ m,m∈ns->(∀ y,y∈ns->y<=m)->Q (.int m) H
def Xr (K:PySem.W.Frag):List V->Hp->VK->Prop:=fun vs H Q=>∃ (a:Addr) (ns:List Int),vs=[V.ref a]/\aH K H a (ns.map V.int)/\0<ns.length/\∀ m,m∈ns->(∀ y,y∈ns->m<=y)->Q (.int m) H
theorem Vi (hc:X.calm=true):fq X (.builtin "sum") (Xp X.K):=by
 intro pins s σ H vs us Q I r h;obtain ⟨a,ns,rfl,hs,q⟩:=h;obtain ⟨its,rv,hl,_⟩:=I.list hs;rw [Vals.Sg r];exact Sh (I.ok.hd hc) hl.isList rv.ints fun h' tk t' hk=>⟨.int _,H,I.kept hk,⟨_,rfl⟩,q⟩
theorem Vj (hc:X.calm=true):fq X (.builtin "max") (Xq X.K):=by
 intro pins s σ H vs us Q I r h;obtain ⟨a,ns,rfl,hs,xk,q⟩:=h;obtain ⟨its,rv,hl,_⟩:=I.list hs;rw [Vals.Sg r];exact Si (I.ok.hd hc) hl.isList rv.ints xk fun h' tk m t' hk h1 h2=>⟨.int _,H,I.kept hk,⟨_,rfl⟩,q m h1 h2⟩
theorem Vk (hc:X.calm=true):fq X (.builtin "min") (Xr X.K):=by
 intro pins s σ H vs us Q I r h;obtain ⟨a,ns,rfl,hs,xk,q⟩:=h;obtain ⟨its,rv,hl,_⟩:=I.list hs;rw [Vals.Sg r];exact Sj (I.ok.hd hc) hl.isList rv.ints xk fun h' tk m t' hk h1 h2=>⟨.int _,H,I.kept hk,⟨_,rfl⟩,q m h1 h2⟩
end
theorem P9 {prog:Program} {w:World} {A:Around} {E:Value->Shared->Prop} {s:Shared} {l:Addr} {items:Array Value} {Q:Value->Shared->Prop} (hl:s.heap.IsList l items)
  (h:∀ pN:Shared,pN={s with heap:=s.heap.push {cls:= .type "list_iterator",data:= .fields #[.ref l,.int 0 0]}}->
   (pN.heap.IsListIter s.heap.objs.size l 0/\pN.heap.IsList l items)->l≠s.heap.objs.size->Q (.ref s.heap.objs.size) pN):wpAny (model prog w) A (pyIter (.ref l)) Q E s:=by
 have eW:l<s.heap.objs.size:=by obtain ⟨_,e,_⟩:=hl;exact Heap.lt_size e
 exact wpAny_pyIter_list hl (h _ rfl ⟨⟨_,Heap.get?_push_size _ rfl,rfl,rfl⟩,hl.push _⟩ (Nat.ne_of_lt eW))
theorem Kj {prog:Program} {w:World} {A:Around} {bs:List Bool} {its:List Value} (e:its=bs.map Value.bool):
  TruthOf prog w A (fun i v=>its.toArray[i]? =some v) (fun i=>bs.getD i false):=fun i v s Q E hv hq=>by
 have Zq:its[i]? =some v:=by simpa using hv
 rw [e,List.getElem?_map] at Zq;obtain ⟨b,hb,rfl⟩:=Option.map_eq_some_iff.mp Zq;have hg:bs.getD i false=b:=by rw [List.getD_eq_getElem?_getD,hb]<;>rfl
 have T3:Q (bs.getD i false) s:=hq;rw [hg] at T3;exact wpAny_truthy_bool T3
theorem any_range:∀ bs:List Bool,(List.range bs.length).any (fun i=>bs.getD i false)=bs.any id
 |[]=>rfl
 |b::bs=>by
  rw [List.length_cons,List.range_succ_eq_map,List.any_cons,List.any_map,List.any_cons, <-any_range bs]
  all_goals rfl
theorem all_range:∀ bs:List Bool,(List.range bs.length).all (fun i=>bs.getD i false)=bs.all id
 |[]=>rfl
 |b::bs=>by
  rw [List.length_cons,List.range_succ_eq_map,List.all_cons,List.all_map,List.all_cons, <-all_range bs]
  all_goals rfl
section
variable {X:Cx}
def Xs (K:PySem.W.Frag):List V->Hp->VK->Prop:=fun vs H Q=>∃ (a:Addr) (bs:List Bool),vs=[V.ref a]/\aH K H a (bs.map V.bl)/\Q (.bl (bs.all id)) H
theorem Vl (hc:X.calm=true):fq X (.builtin "all") (Xs X.K):=by
 intro pins s σ H vs us Q I r h;obtain ⟨a,bs,rfl,hs,q⟩:=h;obtain ⟨its,rv,hl,_⟩:=I.list hs;rw [Vals.Sg r];have hb:=rv.bls;refine call_all_walk (P9 hl.isList fun pN e2 st xk=>?_);subst e2;refine ⟨_,_,_,_,_,_,_,rfl,Walks.list (A:=X.A.in1) (I.ok.hd hc) _ a xk its.toArray,st,Kj hb,fun h' tk hk=>?_⟩;refine ⟨.bl _,H,I.kept fun b o eo=>hk b o (fun Vm=>?_) (Heap.get?_push_of_some _ eo),?_,q⟩
 ·rcases List.mem_cons.mp Vm with e1|Vm
  ·exact absurd (e1▸Heap.lt_size eo) (Nat.lt_irrefl _)
  ·cases Vm
 ·show Value.bool _=Value.bool _;rw [<-all_range,hb,List.size_toArray,List.length_map]
end
mutual
inductive Dp (K:PySem.W.Frag) (H:Hp):V->PyData->Prop
 |cx:Dp K H .cx .none
 |bl (b:Bool):Dp K H (.bl b) (.bool b)
 |int (i:Int):Dp K H (.int i) (.int i)
 |str (x:Str):Dp K H (.str x) (.str x)
 |lst {a:Addr} {xs:List V} {ds:List PyData}:aH K H a xs->GW K H xs ds->Dp K H (.ref a) (.list ds)
 |tup {a:Addr} {xs:List V} {ds:List PyData}:pO K H a xs->GW K H xs ds->Dp K H (.ref a) (.tuple ds)
inductive GW (K:PySem.W.Frag) (H:Hp):List V->List PyData->Prop
 |nil:GW K H [] []
 |cons {v:V} {vs:List V} {d:PyData} {ds:List PyData}:Dp K H v d->GW K H vs ds->GW K H (v::vs) (d::ds)
end
section
variable {X:Cx} {pins:List (Addr×Obj)} {σ:St} {H:Hp} {s:Shared}
mutual
theorem Dp.reads (I:Inv X pins σ H s):∀ (d:PyData) (v:V) (u:Value),Dp X.K H v d->RelV v u->∃ as,Reads s.heap u d as
 | .none,_,_,h,r=>by
  cases h;cases r;exact ⟨_,Reads.none⟩
 | .bool b,_,_,h,r=>by
  cases h;cases r;exact ⟨_,Reads.bool b⟩
 | .int i,_,_,h,r=>by
  cases h;obtain ⟨t,rfl⟩:=r;exact ⟨_,Reads.int i t⟩
 | .str x,_,_,h,r=>by
  cases h;obtain ⟨t,rfl⟩:=r;exact ⟨_,Reads.str x t⟩
 | .list ds,_,_,h,r=>by
  cases h with
  |lst hs ha=>
   cases r;obtain ⟨its,rv,⟨o,n,ho,hc,_,hd⟩,_⟩:=I.list hs;obtain ⟨as,hr⟩:=Dp.readsAll I ds _ its ha rv;exact ⟨_,Reads.list ho hc hd hr⟩
 | .tuple ds,_,_,h,r=>by
  cases h with
  |tup hs ha=>
   cases r;obtain ⟨its,rv,⟨o,ho,hc,n,hd⟩,_⟩:=I.tuple hs;obtain ⟨as,hr⟩:=Dp.readsAll I ds _ its ha rv;exact ⟨_,Reads.tuple ho hc hd hr⟩
 | .dict _,_,_,h,_=>by cases h
theorem Dp.readsAll (I:Inv X pins σ H s):∀ (ds:List PyData) (vs:List V) (us:List Value),GW X.K H vs ds->Vals vs us->∃ as,ReadsAll s.heap us ds as
 |[],_,_,h,r=>by
  cases h;cases r;exact ⟨_,ReadsAll.nil⟩
 |d::ds,_,_,h,r=>by
  cases h with
  |cons h1 h2=>
   cases r with
   |cons r1 r2=>
    obtain ⟨as,q1⟩:=Dp.reads I d _ _ h1 r1;obtain ⟨bs,q2⟩:=Dp.readsAll I ds _ _ h2 r2;exact ⟨_,ReadsAll.cons q1 q2⟩
end
end
section
variable {X:Cx}
def Xt (K:PySem.W.Frag):R2:=fun x y H Q=>∃ d e,Dp K H x d/\Dp K H y e/\SeqAt.shaped d=true/\SeqAt.shaped e=true/\Q (.bl (PyData.eqv d e)) H
theorem Vn (hu:X.A.units+64<cLine):zq X (compareOp .Eq) (Xt X.K):=by
 intro pins s σ H x y v u Q I rx ry h;obtain ⟨d,e,hd,he,sd,se,q⟩:=h;obtain ⟨as,r1⟩:=Dp.reads I d x v hd rx;obtain ⟨bs,r2⟩:=Dp.reads I e y u he ry;exact SeqAt.compareEq_shaped r1 r2 sd se hu ⟨.bl _,H,I,rfl,q⟩
end
end L2
namespace L2
open PySem PySem.Spec PyProof.Rows
abbrev Qa (h:Heap) (c:Addr) (v:Option Value):Prop:=h.IsCell c v
def aav (scope sc:Scope):Scope:=
 {scope with names:=scope.names.map fun (n,k)=>if (k==.free&&sc.kind==.function&&sc.names.lookup n==some .cell) then (n,.cell) else (n,k)}
def bI (cells:List (Str×Addr)):List (Str×NameKind)->List (Str×Addr)->List (Str×Addr)
 |[],acc=>acc
 |(n,k)::r,acc=>if k==.free then bI cells r ((n,(cells.lookup n).getD 0)::acc) else bI cells r acc
theorem xr (env:Env) (f:Str×NameKind->List (Str×Addr)->Sem (ForInStep (List (Str×Addr))))
  (hf:∀ n k c,f (n,k) c=if k==.free then (do let a<-cellOf env n;pure (.yield ((n,a)::c))) else pure (.yield c)):
  ∀ (names:List (Str×NameKind)) (acc:List (Str×Addr)),(∀ y∈names,y.2=.free->∃ c,env.cells.lookup y.1=some c)->forIn names acc f=pure (bI env.cells names acc)
 |[],acc,_=>by rw [List.forIn_nil];rfl
 |(n,k)::r,acc,h=>by
  rw [List.forIn_cons,hf];have ih:=fun acc=>xr env f hf r acc fun y hy=>h y (List.mem_cons_of_mem _ hy)
  unfold bI;by_cases hk:(k==NameKind.free)=true
  ·rw [if_pos hk,if_pos hk];obtain ⟨c,hc⟩:=h (n,k) List.mem_cons_self (by simpa using hk);have e:cellOf env n=pure c:=by unfold cellOf;rw [hc]
   rw [e];have e2:(env.cells.lookup n).getD 0=c:=by rw [hc];rfl
   rw [e2];exact ih _
  ·rw [if_neg hk,if_neg hk];exact ih _
theorem C7 {scope:Scope} {env:Env} (h:∀ y∈scope.names,y.2=.free->∃ c,env.cells.lookup y.1=some c):closureFor scope env=pure (bI env.cells scope.names []):=by
 simp only [closureFor];rw [xr env _ (fun n k c=>rfl) scope.names [] h];rfl
theorem mem_lookup {α:Type}:∀ {l:List (Str×α)} {n:Str} {c:α},(n,c)∈l->∃ c',l.lookup n=some c'
 |(k,v)::r,n,c,h=>by
  rw [List.lookup_cons];cases hb:n==k with
  |true=>exact ⟨_,rfl⟩
  |false=>
   rcases List.mem_cons.mp h with e|h
   ·cases e;simp at hb
   ·exact mem_lookup h
theorem mQ {cells:List (Str×Addr)}:∀ {names:List (Str×NameKind)} {acc:List (Str×Addr)} {n:Str} {c:Addr},(n,c)∈bI cells names acc->(n,c)∈acc∨((n,.free)∈names/\c=(cells.lookup n).getD 0)
 |[],_,_,_,h=>.inl h
 |(m,k)::r,acc,n,c,h=>by
  unfold bI at h;split at h
  ·rename_i hk;have hk:k=.free:=by simpa using hk
   rcases mQ h with h|⟨h1,h2⟩
   ·rcases List.mem_cons.mp h with e|h
    ·cases e;exact .inr ⟨hk▸List.mem_cons_self,rfl⟩
    ·exact .inl h
   ·exact .inr ⟨List.mem_cons_of_mem _ h1,h2⟩
  ·rcases mQ h with h|⟨h1,h2⟩
   ·exact .inl h
   ·exact .inr ⟨List.mem_cons_of_mem _ h1,h2⟩
theorem sf {cells:List (Str×Addr)}:∀ {names:List (Str×NameKind)} {acc:List (Str×Addr)} {p:Str×Addr},p∈acc->p∈bI cells names acc
 |[],_,_,h=>h
 |(m,k)::r,acc,p,h=>by
  unfold bI;split
  ·exact sf (List.mem_cons_of_mem _ h)
  ·exact sf h
theorem sg {cells:List (Str×Addr)}:∀ {names:List (Str×NameKind)} {acc:List (Str×Addr)} {n:Str},(n,.free)∈names->(n,(cells.lookup n).getD 0)∈bI cells names acc
 |(m,k)::r,acc,n,h=>by
  unfold bI;rcases List.mem_cons.mp h with e|h
  ·cases e;exact sf List.mem_cons_self
  ·split
   ·exact sg h
   ·exact sg h
theorem oC:∀ {names:List (Str×NameKind)} {h:Heap} {acc:List (Str×Addr)} {x:Str} {c:Addr},(x,c)∈cellsFrom h.objs.size names acc->
  (x,c)∈acc∨((x,.cell)∈names/\h.objs.size<=c/\Qa (pushCells h names) c none)
 |[],_,_,_,_,h=>.inl h
 |(n,k)::r,h,acc,x,c,hm=>by
  unfold cellsFrom at hm;unfold pushCells;split at hm
  ·rename_i hk;rw [if_pos hk];have hk:k=.cell:=by simpa using hk
   rw [<-Heap.size_push h {cls:= .type "cell",data:= .cell none}] at hm;rcases oC hm with hm|⟨h1,h2,h3⟩
   ·rcases List.mem_cons.mp hm with e|hm
    ·cases e;exact .inr ⟨hk▸List.mem_cons_self,Nat.le_refl _,_,pushCells_keeps r _ _ _ (Heap.get?_push_size _ rfl),rfl⟩
    ·exact .inl hm
   ·rw [Heap.size_push] at h2;exact .inr ⟨List.mem_cons_of_mem _ h1,Nat.le_of_succ_le h2,h3⟩
  ·rename_i hk;rw [if_neg hk];rcases oC hm with hm|⟨h1,h2,h3⟩
   ·exact .inl hm
   ·exact .inr ⟨List.mem_cons_of_mem _ h1,h2,h3⟩
theorem uG:∀ {names:List (Str×NameKind)} {n:Nat} {acc:List (Str×Addr)} {p:Str×Addr},p∈acc->p∈cellsFrom n names acc
 |[],_,_,_,h=>h
 |(m,k)::r,n,acc,p,h=>by
  unfold cellsFrom;split
  ·exact uG (List.mem_cons_of_mem _ h)
  ·exact uG h
theorem zu:∀ {names:List (Str×NameKind)} {n:Nat} {acc:List (Str×Addr)} {x:Str},(x,.cell)∈names->∃ c,(x,c)∈cellsFrom n names acc
 |(m,k)::r,n,acc,x,h=>by
  unfold cellsFrom;rcases List.mem_cons.mp h with e|h
  ·cases e;exact ⟨n,uG List.mem_cons_self⟩
  ·split
   ·exact zu h
   ·exact zu h
theorem zv:∀ {names:List (Str×NameKind)} {h:Heap} {acc:List (Str×Addr)} {x y:Str} {c:Addr},(∀ p∈acc,p.2<h.objs.size)->(∀ x y c,(x,c)∈acc->(y,c)∈acc->x=y)->
  (x,c)∈cellsFrom h.objs.size names acc->(y,c)∈cellsFrom h.objs.size names acc->x=y
 |[],_,_,_,_,_,_,hi,h1,h2=>hi _ _ _ h1 h2
 |(n,k)::r,h,acc,x,y,c,hl,hi,h1,h2=>by
  unfold cellsFrom at h1 h2;split at h1
  ·rename_i hk;rw [if_pos hk] at h2;rw [<-Heap.size_push h {cls:= .type "cell",data:= .cell none}] at h1 h2;refine zv (h:=h.push _) (fun p hp=>?_) (fun x y c a b=>?_) h1 h2
   ·rw [Heap.size_push];rcases List.mem_cons.mp hp with rfl|hp
    ·exact Nat.lt_succ_self _
    ·exact Nat.lt_succ_of_lt (hl p hp)
   ·rcases List.mem_cons.mp a with e|a<;>rcases List.mem_cons.mp b with e'|b
    ·cases e;cases e';rfl
    ·cases e;exact absurd (hl _ b) (Nat.lt_irrefl _)
    ·cases e';exact absurd (hl _ a) (Nat.lt_irrefl _)
    ·exact hi _ _ _ a b
  ·rename_i hk;rw [if_neg hk] at h2;exact zv hl hi h1 h2
theorem Kk {M:Model} {A:Around} {E:Value->Shared->Prop} {s:Shared} {scope:Scope} {globals:Addr} {closure:List (Str×Addr)} {qual:Str} {func:Option Addr} {code:Value} {around:Env} {builtins:Addr} {Q:Env->Shared->Prop}
  (h:Q (newEnv scope s.heap.objs.size globals (cellsFrom (s.heap.objs.size+1) scope.names closure) qual func code (some around) builtins)
   {s with heap:=pushCells (s.heap.push {cls:= .type "dict",data:= .dict #[]}) scope.names}):
  wpAny M A (newFunctionEnv scope globals closure [] qual func code (some around) builtins) Q E s:=by
 simp only [newFunctionEnv,Option.isSome_some,if_true];refine wpAny_bind (wpAny_alloc ?_);refine wpAny_bind (wpAny_layCells _ (fun n k c=>rfl) scope.names closure _ _ ?_);rw [show ({s with heap:=s.heap.push {cls:= .type "dict",data:= .dict #[]}}:Shared).heap.objs.size=s.heap.objs.size+1 from Heap.size_push ..];rw [List.forIn_nil];exact wpAny_bind (wpAny_pure (wpAny_pure h))
theorem sh {sc:Scope}:∀ {names:List (Str×NameKind)} {x:Str} {k:NameKind},
  (names.map fun (n,k)=>if (k==NameKind.free&&sc.kind==.function&&sc.names.lookup n==some .cell) then (n,NameKind.cell) else (n,k)).lookup x=some k->
  ∃ k',names.lookup x=some k'/\(k=k'∨(k'=.free/\k=.cell))
 |[],_,_,h=>by simp at h
 |(n,Qb)::r,x,k,h=>by
  have ih:=@sh sc r x k;have h':List.lookup x ((if (Qb==NameKind.free&&sc.kind==.function&&sc.names.lookup n==some .cell)=true then (n,NameKind.cell) else (n,Qb))::(r.map _))=some k:=h;cases hx:x==n with
  |true=>
   simp only [List.lookup_cons,hx];by_cases hc:(Qb==NameKind.free&&sc.kind==.function&&sc.names.lookup n==some .cell)=true
   ·rw [if_pos hc] at h';simp only [List.lookup_cons,hx] at h';cases h';simp only [Bool.and_eq_true,beq_iff_eq] at hc;exact ⟨Qb,rfl,.inr ⟨hc.1.1,rfl⟩⟩
   ·rw [if_neg hc] at h';simp only [List.lookup_cons,hx] at h';cases h';exact ⟨_,rfl,.inl rfl⟩
  |false=>
   simp only [List.lookup_cons,hx];by_cases hc:(Qb==NameKind.free&&sc.kind==.function&&sc.names.lookup n==some .cell)=true
   ·rw [if_pos hc] at h';simp only [List.lookup_cons,hx] at h';exact ih h'
   ·rw [if_neg hc] at h';simp only [List.lookup_cons,hx] at h';exact ih h'
structure Kl (N:List Str) (sc scope:Scope) (own:List (Str×Nat)):Prop where
 kind:scope.kind=.function
 uniq:∀ y∈scope.names,scope.names.lookup y.1=some y.2
 ix:∀ p∈own,N[p.2]? =some p.1
 free:∀ y∈scope.names,y.2=.free->sc.names.lookup y.1=some .cell∨sc.names.lookup y.1=some .free
 own:∀ y∈scope.names,y.2=.local∨y.2=.cell->y.1∈own.map (·.1)∨y.1∉N
def wipe (σ:St):List Nat->St
 |[]=>σ
 |v::vs=>(wipe σ vs).set v none
theorem si (σ:St):∀ vs:List Nat,(wipe σ vs).length=σ.length
 |[]=>rfl
 |v::vs=>by unfold wipe;rw [List.length_set,si σ vs]
theorem zw {σ:St} {i:Nat} {x:V}:∀ {vs:List Nat},(wipe σ vs)[i]? =some (some x)->σ[i]? =some (some x)/\i∉vs
 |[],h=>⟨h,by simp⟩
 |v::vs,h=>by
  unfold wipe at h;by_cases hi:v=i
  ·subst hi;by_cases hv:v<(wipe σ vs).length
   ·rw [List.getElem?_set_self hv] at h;cases h
   ·rw [List.getElem?_eq_none (by simpa using hv)] at h;cases h
  ·rw [List.getElem?_set_ne hi] at h;obtain ⟨h1,h2⟩:=zw h;exact ⟨h1,by simp only [List.mem_cons,not_or];exact ⟨fun e=>hi e.symm,h2⟩⟩
abbrev Cx.Ir (X:Cx) (s:Shared) (H:Hp) (scope:Scope) (hJ:Env) (fp:List Addr):Cx:={X with Fs:=s,WD:=H,env:=hJ,outer:=X.stack,ex:=fp,fn:=fun x=>scope.names.lookup x==some .cell,pn:=[],xe:=fun _ _=>False}
section
variable {X:Cx} {pins:List (Addr×Obj)} {σ:St} {H:Hp} {s:Shared}
theorem Km {scope:Scope} {own:List (Str×Nat)} {fp:List Addr} (I:Inv X pins σ H s) (ok:Kl X.N X.env.scope scope own) (hN:X.N.Nodup) (WI:∀ b∈fp,Fu X pins H b/\b<s.heap.objs.size):
  Inv (X.Ir s H scope (compEnvC scope (cellsFrom (s.heap.objs.size+1) scope.names (bI X.env.cells scope.names [])) s.heap.objs.size X.env) fp) [] (wipe σ (own.map (·.2))) H {s with heap:=pushCells (s.heap.push {cls:= .type "dict",data:= .dict #[]}) scope.names}:=by
 have u0:∀ y∈scope.names,y.2=.free->∃ c,X.env.cells.lookup y.1=some c:=fun y hy e=>by
  rcases ok.free y hy e with k|k
  ·exact I.ok.has _ (.inl k)
  ·exact I.ok.has _ (.inr k)
 generalize Kn:compEnvC scope (cellsFrom (s.heap.objs.size+1) scope.names (bI X.env.cells scope.names [])) s.heap.objs.size X.env=hJ;have kp:∀ b o,s.heap.get? b=some o->(pushCells (s.heap.push {cls:= .type "dict",data:= .dict #[]}) scope.names).get? b=some o:=fun b o e=>pushCells_keeps _ _ _ _ (Heap.get?_push_of_some _ e)
 have hL:hJ.locals=s.heap.objs.size:=by rw [<-Kn];rfl
 have ND:hJ.cells=cellsFrom (s.heap.objs.size+1) scope.names (bI X.env.cells scope.names []):=by rw [<-Kn];rfl
 have Vo:hJ.scope=aav scope X.env.scope:=by rw [<-Kn];rfl
 rw [<-Heap.size_push s.heap {cls:= .type "dict",data:= .dict #[]}] at ND;have cm:∀ {y c},(y,c)∈bI X.env.cells scope.names []->X.env.cells.lookup y=some c/\c<s.heap.objs.size:=fun {y c} hm=>by
  rcases mQ hm with hm|⟨h1,rfl⟩
  ·cases hm
  ·obtain ⟨c,hc⟩:=u0 _ h1 rfl;rw [hc];obtain ⟨w,z⟩:=I.cell _ _ hc;exact ⟨rfl,z.lt⟩
 have mem:∀ {y c},hJ.cells.lookup y=some c->(X.env.cells.lookup y=some c/\c<s.heap.objs.size)∨(s.heap.objs.size+1<=c/\Qa (pushCells (s.heap.push {cls:= .type "dict",data:= .dict #[]}) scope.names) c none):=fun {y c} e=>by
  rw [ND] at e;rcases oC (PySem.mem_of_lookup e) with hm|⟨_,h2,h3⟩
  ·exact .inl (cm hm)
  ·rw [Heap.size_push] at h2;exact .inr ⟨h2,h3⟩
 have look:∀ {y},scope.names.lookup y=some .free->∃ c,hJ.cells.lookup y=some c/\X.env.cells.lookup y=some c:=fun {y} hl=>by
  have hy:(y,NameKind.free)∈scope.names:=PySem.mem_of_lookup hl;obtain ⟨c',e'⟩:=mem_lookup (uG (names:=scope.names) (n:=(s.heap.push {cls:= .type "dict",data:= .dict #[]}).objs.size) (sg (cells:=X.env.cells) (acc:=[]) hy));rw [<-ND] at e';refine ⟨c',e',?_⟩;rw [ND] at e';rcases oC (PySem.mem_of_lookup e') with hm|⟨h1,_,_⟩
  ·exact (cm hm).1
  ·have:=ok.uniq _ h1;rw [hl] at this;cases this
 have okB:(X.Ir s H scope hJ fp).Ok:=by
  refine ⟨I.ok.mod,by show hJ.scope.kind=_;rw [Vo];exact ok.kind,by show hJ.globals=_;rw [<-Kn];exact I.ok.glob,by show hJ.builtins=_;rw [<-Kn];exact I.ok.blt,by show s.heap.objs.size<=hJ.locals;rw [hL];exact Nat.le_refl _,
   fun y z c e1 e2=>?_,fun y hy=>?_,fun y c z e=>?_,I.ok.hd,I.ok.frames,.inl rfl,fun b hb=>⟨?_,fun y c e z=>?_⟩,I.bs,Nat.le_trans I.ok.Pq I.sz,fun b o e hb=>?_,fun b hb z=>?_,I.stack,I.Nn⟩
  ·have e1:hJ.cells.lookup y=some c:=e1;have e2:hJ.cells.lookup z=some c:=e2;rw [ND] at e1 e2;refine zv (fun p hp=>?_) (fun y z c a b=>I.ok.inj y z c (cm a).1 (cm b).1) (PySem.mem_of_lookup e1) (PySem.mem_of_lookup e2);rw [Heap.size_push];exact Nat.lt_succ_of_lt (cm (y:=p.1) (c:=p.2) hp).2
  ·show ∃ c,hJ.cells.lookup y=some c;have key:∀ k,hJ.kindOf y=some k->(k=.cell∨k=.free)->∃ c,hJ.cells.lookup y=some c:=fun k hk Sk=>by
    unfold Env.kindOf at hk;rw [Vo] at hk;obtain ⟨k',e,r⟩:=sh hk;have:k'=.cell∨k'=.free:=by
     rcases r with rfl|⟨rfl,_⟩
     ·exact Sk
     ·exact .inr rfl
    rcases this with rfl|rfl
    ·obtain ⟨c,hm⟩:=zu (n:=(s.heap.push {cls:= .type "dict",data:= .dict #[]}).objs.size) (acc:=bI X.env.cells scope.names []) (PySem.mem_of_lookup e);obtain ⟨c',e'⟩:=mem_lookup hm;exact ⟨c',by rw [ND];exact e'⟩
    ·obtain ⟨c,h1,_⟩:=look e;exact ⟨c,h1⟩
   rcases hy with hy|hy
   ·exact key _ hy (.inl rfl)
   ·exact key _ hy (.inr rfl)
  ·have z:(scope.names.lookup y==some NameKind.cell)=true:=z;have z:scope.names.lookup y=some .cell:=by simpa using z
   have e:hJ.cells.lookup y=some c:=e;rw [ND] at e;rcases oC (PySem.mem_of_lookup e) with hm|⟨_,h2,_⟩
   ·rcases mQ hm with hm|⟨h1,_⟩
    ·cases hm
    ·have q:=ok.uniq _ h1;rw [z] at q;cases q
   ·rw [Heap.size_push] at h2;exact Nat.le_of_succ_le h2
  ·show b≠hJ.locals;rw [hL];exact Nat.ne_of_lt (WI b hb).2
  ·have e:hJ.cells.lookup y=some c:=e;rcases mem e with ⟨h1,_⟩|⟨h1,_⟩
   ·exact (WI b hb).1.2.2.2.2.1 y c h1 z
   ·have h2:s.heap.objs.size+1<=b:=by rw [<-z];exact h1
    exact absurd (Nat.lt_of_lt_of_le (WI b hb).2 (Nat.le_of_succ_le h2)) (Nat.lt_irrefl _)
  ·rcases (WI b hb).1.2.2.2.1 with z|z
   ·exact I.ok.PB b o e z
   ·exact absurd (Nat.lt_of_lt_of_le (Heap.lt_size e) (Nat.le_trans I.ok.Pq z)) (Nat.lt_irrefl _)
  ·rcases List.mem_cons.mp (I.LR b z) with z|z
   ·exact (WI b hb).1.2.1 z
   ·exact (WI b hb).1.2.2.1 z
 refine ⟨okB,rfl,I.bare,Un.kept kp,⟨fun _=>none,?_,fun i y av e1 e2 e3=>?_⟩,fun y c e=>?_,?_,fun y c e=>?_,fun p hp=>?_,I.cf.kept kp,by rw [si];exact I.len⟩
 ·show Heap.Ns _ hJ.locals _;rw [hL];exact Heap.Ns.keeps (Heap.Ns.new ..) fun b o e=>pushCells_keeps _ _ _ _ e
 ·obtain ⟨e2,xk⟩:=zw e2;have Zt:scope.names.lookup y=some .free/\(hJ.kindOf y=some .cell∨hJ.kindOf y=some .free):=by
   have key:∀ k,hJ.scope.names.lookup y=some k->k=.local∨k=.cell∨k=.free->scope.names.lookup y=some .free/\(hJ.kindOf y=some .cell∨hJ.kindOf y=some .free):=fun k hk Sk=>by
    have hk0:=hk;rw [Vo] at hk;obtain ⟨k',e,r⟩:=sh hk;have no:¬ (k'=.local∨k'=.cell):=fun hh=>by
     rcases ok.own _ (PySem.mem_of_lookup e) hh with e'|e'
     ·obtain ⟨p,hp,WJ⟩:=List.mem_map.mp e';have e3:=ok.ix p hp;have:p.1=y:=WJ;rw [this] at e3;exact xk (List.mem_map.mpr ⟨p,hp,CW hN e3 e1⟩)
     ·exact e' (List.mem_of_getElem? e1)
    rcases r with rfl|⟨rfl,rfl⟩
    ·rcases Sk with rfl|rfl|rfl
     ·exact absurd (.inl rfl) no
     ·exact absurd (.inr rfl) no
     ·exact ⟨e,.inr hk0⟩
    ·exact ⟨e,.inl hk0⟩
   have e3:UX hJ.scope y:=e3;rcases e3 with e3|e3|e3
   ·exact key _ e3 (.inl rfl)
   ·exact key _ e3 (.inr (.inl rfl))
   ·exact key _ e3 (.inr (.inr rfl))
  obtain ⟨m,hn,hl⟩:=I.loc;have aaw:UX X.env.scope y:=(ok.free _ (PySem.mem_of_lookup Zt.1) rfl).elim (fun k=>.inr (.inl k)) (fun k=>.inr (.inr k));obtain ⟨w,r,q⟩:=hl i y av e1 e2 aaw;refine ⟨w,r,.inr ⟨Zt.2,?_⟩⟩;obtain ⟨c,h1,h2⟩:=look Zt.1;rcases q with ⟨k,_⟩|⟨_,c',e',z⟩
  ·have k:X.env.scope.names.lookup y=some .local:=k;rcases ok.free _ (PySem.mem_of_lookup Zt.1) rfl with k'|k'<;>rw [show X.env.scope.names.lookup y=_ from k'] at k<;>cases k
  ·rw [h2] at e';cases e'
   exact ⟨c,h1,z.keeps kp⟩
 ·have e:hJ.cells.lookup y=some c:=e;rcases mem e with ⟨h1,_⟩|⟨_,z⟩
  ·obtain ⟨w,z⟩:=I.cell y c h1;exact ⟨w,z.keeps kp⟩
  ·exact ⟨_,z⟩
 ·show H hJ.locals=none;rw [hL];exact I.cf.fresh (Nat.le_refl _)
 ·have e:hJ.cells.lookup y=some c:=e;rcases mem e with ⟨h1,_⟩|⟨h1,_⟩
  ·exact I.qy y c h1
  ·exact I.cf.fresh (Nat.le_of_succ_le h1)
 ·exact absurd (show p∈([]:List (Addr×Obj))++[] from hp) (by simp)
theorem Vp {E:Value->Shared->Prop} {D:Addr} {xs:List V} {y:V} {v:Value} {Q:Value->Shared->Prop} (I:Inv X pins σ H s) (hD:H D=some (.lst xs)) (hz:xs.length<sizeLine) (r:RelV y v)
  (h:∀ s',Inv X pins σ (upd H D (.lst (xs++[y]))) s'->Q .none s'):wpAny (model X.prog X.w) X.A (call (.builtin "list.append") [.ref D,v]) Q E s:=by
 obtain ⟨hz',its,n,ri,e⟩:=I.cf D _ hD;have hl:=ri.length;refine append_at (hsz:=by rw [List.size_toArray];lia) e fun h' sb RH=>?_
 refine h {s with heap:=h'} (I.write (t':=s.toks) (by rw [hD];trivial) (.inl rfl) (fun b u hb q=>(sb.2 b hb).trans q) ⟨_,RH⟩ ⟨by rw [List.length_append];exact hz,its++[v],n+1,ri.append (.cons r .nil),?_⟩);rw [RH];simp
def Xu (X:Cx) (ifs:List Expr) (t:TT):Prop:=
 ∀ (pins:List (Addr×Obj)) (s:Shared) (σ:St) (H:Hp) (Q:Bool->Hp->Prop),Inv X pins σ H s->t σ H Q->
  wpAny (model X.prog X.w) X.A (forIn ifs true fun c r=>if r=true then do let ok<-isTrue c X.env (eval c X.env);pure (ForInStep.yield ok) else pure (ForInStep.yield r)) (TP X pins σ Q) X.xe s
def Mg:TT:=fun _ H Q=>Q true H
theorem cu:Xu X [] Mg:=fun _ _ _ H _ I h=>wpAny_tests_nil ⟨H,I,h⟩
theorem NF {c:Expr} {t:TT} (h:PT X c t):Xu X [c] t:=fun pins s σ H Q I hw=>wpAny_tests_one (h pins s σ H Q I hw)
end
theorem Mh {α:Type} {t:Sem α} {Q Q':α->Shared->Prop} {M:Model} {A:Around} {E:Value->Shared->Prop} {s:Shared} (h:wpAny M A t Q (fun _ _=>False) s) (hQ:∀ a s,Q a s->Q' a s):wpAny M A t Q' E s:=wpAny_mono h hQ fun _ _ z=>False.elim z
theorem Iu {prog:Program} {w:World} {A:Around} {R:Result->Shared->Prop} {s:Shared} {elt target iter:Expr} {ifs:List Expr} {scope:Scope} {pos:Pos} {it acc:Value} {env:Env} (I:Nat->Shared->Prop)
  (turn:∀ n s,I n s->wpAny (model prog w) A (pyNext it) (fun r cg=>match r with
   |none=>R (.ok .next) cg
   |some v=>wpAny (model prog w) A (letOwnedTupleGo target it v) (fun _ T8=>wpAny (model prog w) A (assign target env v) (fun _ pN=>
     wpAny (model prog w) A (forIn ifs true fun c r=>if r=true then do let ok<-isTrue c env (eval c env);pure (ForInStep.yield ok) else pure (ForInStep.yield r)) (fun ok OA=>
      if ok=true then wpAny (model prog w) A (eval elt env) (fun x Xv=>
       wpAny (model prog w) A (call (.builtin "list.append") [acc,x]) (fun _ Xw=>∃ m,m<n/\I m Xw) (notedBy (model prog w) A env fun e s'=>R (.error e) s') Xv) (notedBy (model prog w) A env fun e s'=>R (.error e) s') OA
      else ∃ m,m<n/\I m OA) (notedBy (model prog w) A env fun e s'=>R (.error e) s') pN) (notedBy (model prog w) A env fun e s'=>R (.error e) s') T8) (notedBy (model prog w) A env fun e s'=>R (.error e) s') cg) (notedBy (model prog w) A env fun e s'=>R (.error e) s') s)
  (n:Nat) (h:I n s):
  codeAny (model prog w) A (.compLoop (.ListComp elt [⟨target,iter,ifs,0⟩] scope pos) 0 it acc env) R s:=by
 refine codeAny_loop rfl I (fun n s hI=>?_) n h;show wpAny _ A ((compTurn (.ListComp elt [⟨target,iter,ifs,0⟩] scope pos) 0 it acc env).onRaise (fun x=>do noteFrame x env;theTreesLotGoes x)) _ _ s;refine wpAny_noted ?_;rw [compTurn_list];refine wpAny_bind (wpAny_standAt (wpAny_bind (wpAny_mono (turn n s hI) (fun r cg Sl=>?_) fun _ _ h'=>h')));cases r with
 |none=>exact wpAny_pure Sl
 |some v=>
  refine wpAny_bind (wpAny_mono Sl (fun _ T8 Xx=>?_) fun _ _ h'=>h');refine wpAny_bind (wpAny_mono Xx (fun _ pN Qc=>wpAny_bind (wpAny_mono Qc (fun ok OA Sm=>?_) fun _ _ h'=>h')) fun _ _ h'=>h');cases ok with
  |false=>exact wpAny_pure ⟨rfl,Sm⟩
  |true=>
   exact wpAny_bind (wpAny_bind (wpAny_mono Sm (fun x Xv aax=>wpAny_bind (wpAny_mono aax (fun _ Xw aay=>wpAny_pure (wpAny_pure ⟨rfl,aay⟩)) fun _ _ h'=>h')) fun _ _ h'=>h'))
section
variable {X:Cx}
def Zu (wi:TI) (g:TG) (tt:TT) (te:TE) (vs:List Nat):TE:=fun σ H Q=>wi σ H fun J H1=>∀ D,H1 D=none->∃ W:Nat->Nat->Hp->Prop,(∃ m,W 0 m (upd H1 D (.lst [])))/\∀ i m H,W i m H->
 (J.stop i H/\Q (.ref D) H)∨(J.go i H/\∃ Nx:Hp->Prop,(∀ H',Nx H'->∃ m',m'<m/\W (i+1) m' H')/\∀ x H',J.LM i H x H'->g x (wipe σ vs) H' fun σ2 H2=>wipe σ2 vs=wipe σ vs/\tt σ2 H2 fun b H3=>
  if b=true then te σ2 H3 fun y H4=>∃ acc,H4 D=some (.lst acc)/\acc.length<sizeLine/\Nx (upd H4 D (.lst (acc++[y]))) else Nx H3)
theorem NG {pins:List (Addr×Obj)} {s:Shared} {σ:St} {H:Hp} {Q:VK} {elt tg iter:Expr} {ifs:List Expr} {scope:Scope} {own:List (Str×Nat)} {pos pos':Pos} {wi:TI} {g:TG} {tt:TT} {te:TE} {use:Option (Value->Sem Unit)} {Qf:Value->Shared->Prop}
  (hc:X.calm=true) (hN:X.N.Nodup) (I:Inv X pins σ H s) (hi:PI X tg iter wi) (ok:Kl X.N X.env.scope scope own)
  (hg:∀ (s:Shared) (H:Hp) (C:Addr) (cl:List (Str×Addr)) (fp:List Addr),PG (X.Ir s H scope (compEnvC scope cl C X.env) fp) tg g) (ht:∀ (s:Shared) (H:Hp) (C:Addr) (cl:List (Str×Addr)) (fp:List Addr),Xu (X.Ir s H scope (compEnvC scope cl C X.env) fp) ifs tt)
  (he:∀ (s:Shared) (H:Hp) (C:Addr) (cl:List (Str×Addr)) (fp:List Addr),PE (X.Ir s H scope (compEnvC scope cl C X.env) fp) elt te) (hs:∀ x,foldedSetIterable iter X.env x=pure x)
  (h:Zu wi g tt te (own.map (·.2)) σ H Q)
  (hRR:∀ D C s' m H',Inv X pins σ H' s'->Q (.ref D) H'->s'.heap.Ns C m->Fu X pins H' C->compPost (model X.prog X.w) X.A X.xe use Qf (.ref D) C (.ok .next) s'):
  wpAny (model X.prog X.w) X.A (comprehension (.ListComp elt [⟨tg,iter,ifs,0⟩] scope pos) scope X.env pos' (newList []) false (eval iter X.env) use) Qf X.xe s:=by
 have u0:∀ y∈scope.names,y.2=.free->∃ c,X.env.cells.lookup y.1=some c:=fun y hy e=>by
  rcases ok.free y hy e with k|k
  ·exact I.ok.has _ (.inl k)
  ·exact I.ok.has _ (.inr k)
 refine wpAny_comprehension_free (use:=use) rfl hs (C7 u0) ok.kind (fun y hy e=>by rw [ok.uniq y hy,e])
  (cY (hi pins s σ H _ I h) fun xv s1 hx=>cY hx fun itv s2 h2=>?_)
 obtain ⟨it,fp,tn,J,H2,e,I2,T,Zo,f2,q⟩:=h2;subst e;refine wpAny_newObj_type (Kk ?_) (by show 0<=sizeLine;decide);generalize hD:s2.heap.objs.size=D;have C8:H2 D=none:=I2.cf.fresh (Nat.le_of_eq hD);obtain ⟨W,⟨m0,w0⟩,turn⟩:=q D C8;generalize hs3:({s2 with heap:=s2.heap.push {cls:= .type "list",data:= .seq ([]:List Value).toArray}}:Shared)=s3;have I3:Inv X pins σ (upd H2 D (.lst [])) s3:=by
  rw [<-hs3];refine I2.laid (t':=s2.toks) (fun b o e=>Heap.get?_push_of_some _ e) (Nat.le_of_eq hD) ⟨Nat.zero_le _,[],0,.nil,?_⟩;rw [<-hD];exact Heap.get?_push_size _ rfl
 have h3:s3.heap=s2.heap.push {cls:= .type "list",data:= .seq ([]:List Value).toArray}:=by rw [<-hs3]
 have sz:∀ b∈fp,b<s2.heap.objs.size:=fun b hb=>by
  obtain ⟨o,e,_⟩:=T.obj _ _ Zo b hb;exact Heap.lt_size e
 have f3:∀ b∈fp,Fu X pins (upd H2 D (.lst [])) b/\b<s3.heap.objs.size:=fun b hb=>by
  have eW:=sz b hb;refine ⟨⟨?_,(f2 b hb).2⟩,by rw [h3,Heap.size_push];exact Nat.lt_succ_of_lt eW⟩;rw [az (by rw [<-hD];exact Nat.ne_of_lt eW)];exact (f2 b hb).1
 have Zp:tn 0 s3.heap:=T.keep _ _ _ Zo fun b _ o e=>by rw [h3];exact Heap.get?_push_of_some _ e
 have I4:=Km I3 ok hN f3;have pg:=hg s3 (upd H2 D (.lst [])) s3.heap.objs.size (cellsFrom (s3.heap.objs.size+1) scope.names (bI X.env.cells scope.names [])) fp;have pt:=ht s3 (upd H2 D (.lst [])) s3.heap.objs.size (cellsFrom (s3.heap.objs.size+1) scope.names (bI X.env.cells scope.names [])) fp;have pe:=he s3 (upd H2 D (.lst [])) s3.heap.objs.size (cellsFrom (s3.heap.objs.size+1) scope.names (bI X.env.cells scope.names [])) fp;show codeAny _ _ (.compStart (.ListComp elt [⟨tg,iter,ifs,0⟩] scope pos) 0 (.ref it) (.ref D) (compEnvC scope (cellsFrom (s3.heap.objs.size+1) scope.names (bI X.env.cells scope.names [])) s3.heap.objs.size X.env)) (compPost (model X.prog X.w) X.A X.xe use Qf (.ref D) s3.heap.objs.size) {s3 with heap:=pushCells (s3.heap.push {cls:= .type "dict",data:= .dict #[]}) scope.names};have nfp:∀ b∈fp,(upd H2 D (.lst [])) b=none:=fun b hb=>(f3 b hb).1.1
 generalize hce:compEnvC scope (cellsFrom (s3.heap.objs.size+1) scope.names (bI X.env.cells scope.names [])) s3.heap.objs.size X.env=ce at I4 pg pt pe ⊢;have cL:ce.locals=s3.heap.objs.size:=by subst hce;rfl
 generalize hH3:upd H2 D (.lst [])=H3 at I3 I4 pg pt pe w0 nfp f3;generalize hs4:({s3 with heap:=pushCells (s3.heap.push {cls:= .type "dict",data:= .dict #[]}) scope.names}:Shared)=s4 at I4 ⊢;have st4:tn 0 s4.heap:=T.keep _ _ _ Zp fun b _ o e=>by rw [<-hs4];exact pushCells_keeps _ _ _ _ (Heap.get?_push_of_some _ e)
 have stat:∀ {σ':St} {H':Hp} {s':Shared},Inv (X.Ir s3 H3 scope ce fp) [] σ' H' s'->(∀ b∈fp,H' b=none)->∀ b∈fp,Fu (X.Ir s3 H3 scope ce fp) [] H' b:=fun {σ' H' s'} I' hn b hb=>
  ⟨hn b hb,(I'.ok.Zk b hb).1,I'.ok.PD b hb,.inl hb,fun x c e=>(I'.ok.Zk b hb).2 x c e,fun p hp=>absurd (show p∈([]:List (Addr×Obj))++[] from hp) (by simp)⟩
 have loop:codeAny (model X.prog X.w) X.A (.compLoop (.ListComp elt [⟨tg,iter,ifs,0⟩] scope pos) 0 (.ref it) (.ref D) ce) (compPost (model X.prog X.w) X.A X.xe use Qf (.ref D) s3.heap.objs.size) s4:=by
  refine Iu (fun n s'=>∃ i H',Inv (X.Ir s3 H3 scope ce fp) [] (wipe σ (own.map (·.2))) H' s'/\tn i s'.heap/\(∀ b∈fp,H' b=none)/\W i n H') ?_ m0 ⟨0,H3,I4,st4,nfp,w0⟩;rintro n s5 ⟨i,H5,I5,WG,n5,w5⟩;rcases turn i n H5 w5 with ⟨stop,qq⟩|⟨go,Nx,hNx,step⟩
  ·have td:=T.done (X.Ir s3 H3 scope ce fp) rfl rfl rfl hc i [] s5 _ H5 (fun _ _=>False) I5 (stat I5 n5) WG stop;refine Mh td fun r s6 ⟨hr,I6⟩=>?_
   subst hr;have I7:Inv X pins σ H5 s6:=I3.TQ (ch:=fp) I6.os I6.base I6.cf I6.bare fun b hb=>⟨(f3 b hb).1.2.2.2.1,(f3 b hb).1.2.1,(f3 b hb).1.2.2.2.2.1,(f3 b hb).1.2.2.2.2.2⟩
   have nC:H5 s3.heap.objs.size=none:=by
    have z:H5 ce.locals=none:=I6.free;rw [cL] at z;exact z
   obtain ⟨m,hn,_⟩:=I6.loc;have hn:s6.heap.Ns ce.locals m:=hn;rw [cL] at hn;exact hRR D s3.heap.objs.size s6 m H5 I7 qq hn (I3.PN (Nat.le_refl _) nC)
  ·have ti:=T.item (X.Ir s3 H3 scope ce fp) rfl rfl rfl hc i [] s5 _ H5 (fun _ _=>False) I5 (stat I5 n5) WG go;refine Mh ti fun r s6 ⟨u,hr,h6⟩=>?_
   subst hr;refine Mh h6 fun _ s7 ⟨x,H7,I7,r7,y7,st7,n7⟩=>?_
   have I7':=I7.pinned (stat I7 n7) (T.obj _ _ st7);refine Mh (pg _ s7 _ H7 x u _ I7' r7 (step x H7 y7)) fun _ s8 ⟨σ8,H8,I8,hw8,q8⟩=>?_
   refine Mh (pt _ s8 σ8 H8 _ I8 q8) fun b s9 ⟨H9,I9,q9⟩=>?_
   have fin:∀ {s':Shared} {H':Hp},Inv (X.Ir s3 H3 scope ce fp) ([]++C0 fp s7.heap) σ8 H' s'->Nx H'->∃ m,m<n/\∃ i H',Inv (X.Ir s3 H3 scope ce fp) [] (wipe σ (own.map (·.2))) H' s'/\tn i s'.heap/\(∀ b∈fp,H' b=none)/\W i m H':=fun {s' H'} I' nx=>by
    obtain ⟨m',hm,w'⟩:=hNx H' nx;have Xy:∀ b∈fp,∀ o,s7.heap.get? b=some o->s'.heap.get? b=some o/\H' b=none:=fun b hb o e=>
     let z:=I'.pin (b,o) (List.mem_append_right _ (List.mem_append_right _ (wD hb e)))
     ⟨z.1,z.2.1⟩
    have hl:(wipe σ (own.map (·.2))).length=σ8.length:=by rw [<-hw8,si]
    refine ⟨m',hm,i+1,H',(I'.xn (pins:=[])).weak hl (fun j v e=>?_),T.keep _ _ _ st7 fun b hb o e=>(Xy b hb o e).1,fun b hb=>?_,w'⟩
    ·rw [<-hw8] at e;exact (zw e).1
    ·obtain ⟨o,e,_⟩:=T.obj _ _ st7 b hb;exact (Xy b hb o e).2
   cases b with
   |false=>
    simp only [Bool.false_eq_true,if_false] at q9 ⊢;exact fin I9 q9
   |true=>
    simp only [if_true] at q9 ⊢;refine Mh (pe _ s9 σ8 H9 _ I9 q9) fun z s10 ⟨yv,H10,I10,r10,acc,aaz,aaA,nx⟩=>?_
    exact Vp (X:=X.Ir s3 H3 scope ce fp) I10 aaz aaA r10 fun s11 I11=>fin I11 nx
 exact codeAny_compStart_list loop (T.self X.A 0 _ _ _ st4 loop)
theorem iZ {elt tg iter:Expr} {ifs:List Expr} {scope:Scope} {own:List (Str×Nat)} {pos:Pos} {wi:TI} {g:TG} {tt:TT} {te:TE} (hc:X.calm=true) (hN:X.N.Nodup) (hi:PI X tg iter wi) (ok:Kl X.N X.env.scope scope own)
  (hg:∀ (s:Shared) (H:Hp) (C:Addr) (cl:List (Str×Addr)) (fp:List Addr),PG (X.Ir s H scope (compEnvC scope cl C X.env) fp) tg g) (ht:∀ (s:Shared) (H:Hp) (C:Addr) (cl:List (Str×Addr)) (fp:List Addr),Xu (X.Ir s H scope (compEnvC scope cl C X.env) fp) ifs tt)
  (he:∀ (s:Shared) (H:Hp) (C:Addr) (cl:List (Str×Addr)) (fp:List Addr),PE (X.Ir s H scope (compEnvC scope cl C X.env) fp) elt te) (hs:∀ x,foldedSetIterable iter X.env x=pure x:=by intro _;rfl):
  PE X (.ListComp elt [⟨tg,iter,ifs,0⟩] scope pos) (Zu wi g tt te (own.map (·.2))):=by
 intro pins s σ H Q I h;rw [eval_ListComp];refine NG hc hN I hi ok hg ht he hs h fun D C s' m H' I' q hn f=>⟨m,hn,fun h'' sb=>?_⟩
 obtain ⟨f0,f1,f2,f3,f4,f5⟩:=f;exact ⟨.ref D,H',I'.turned (t':=s'.toks) (fun b o hb e=>(sb.2 b hb).trans e) f0 f1 f3 f4 f5,rfl,q⟩
theorem xu {i:Nat} {y:Str} {py:Pos} {elt tg iter:Expr} {ifs:List Expr} {scope:Scope} {own:List (Str×Nat)} {pos Xz:Pos} {wi:TI} {g:TG} {tt:TT} {te:TE} (hc:X.calm=true) (hN:X.N.Nodup) (hy:X.N[i]? =some y) (hyl:X.env.scope.names.lookup y=some .local)
  (hsw:swapsWith (.ListComp elt [⟨tg,iter,ifs,0⟩] scope pos) (some (.Name y py)) Xz.line X.env=pure true) (hi:PI X tg iter wi) (ok:Kl X.N X.env.scope scope own)
  (hg:∀ (s:Shared) (H:Hp) (C:Addr) (cl:List (Str×Addr)) (fp:List Addr),PG (X.Ir s H scope (compEnvC scope cl C X.env) fp) tg g) (ht:∀ (s:Shared) (H:Hp) (C:Addr) (cl:List (Str×Addr)) (fp:List Addr),Xu (X.Ir s H scope (compEnvC scope cl C X.env) fp) ifs tt)
  (he:∀ (s:Shared) (H:Hp) (C:Addr) (cl:List (Str×Addr)) (fp:List Addr),PE (X.Ir s H scope (compEnvC scope cl C X.env) fp) elt te) (hs:∀ x,foldedSetIterable iter X.env x=pure x:=by intro _;rfl):
  PS X (.Assign [.Name y py] (.ListComp elt [⟨tg,iter,ifs,0⟩] scope pos) Xz) (RW (Zu wi g tt te (own.map (·.2))) (oz i)):=by
 intro pins s σ H D I h;rw [exec_Assign_Name_used _ _ _ _ hsw];refine wpAny_bind (wpAny_standAt (wpAny_bind ?_));show wpAny _ X.A (do let _<-comprehension (.ListComp elt [⟨tg,iter,ifs,0⟩] scope pos) scope X.env (firstIterPos [⟨tg,iter,ifs,0⟩] pos) (newList []) false (eval iter X.env) (some (assign (.Name y py) X.env))) _ _ s;have h:Zu wi g tt te (own.map (·.2)) σ H (fun x H1=>oz i x σ H1 D.nx):=h;refine wpAny_bind (cY (NG (Qf:=fun _ s'=>SP X pins D .next s') hc hN I hi ok hg ht he hs h fun L C s' m H' I' q hn f=>?_) fun _ s' hq=>wpAny_pure (wpAny_pure hq));show wpAny _ _ (assign (.Name y py) X.env (.ref L)) _ _ _;refine wpAny_assign_Name (GL (v:=V.ref L) I' hN hy (.inl hyl) rfl (fun s2 I2 ⟨a,sb,ha⟩=>?_) (.inr hyl));obtain ⟨f0,f1,f2,f3,f4,f5⟩:=f;have haC:C≠a:=by
  rcases ha with z|z
  ·rw [z];exact f1
  ·exact fun e=>f4 y a z e.symm
 refine ⟨m,hn.sameBut sb haC,fun h3 sb3=>?_⟩;exact ⟨_,H',I2.turned (t':=s2.toks) (fun b o hb e=>(sb3.2 b hb).trans e) f0 f1 f3 f4 f5,q⟩
end
theorem Ko {lo:Int} {n:Nat} {g:TG} {tt:TT} {te:TE} {vs:List Nat} {σ:St} {H1:Hp} {D:Addr} {Qd:Hp->Prop} (Pv:Nat->Hp->Prop) (h0:Pv 0 (upd H1 D (.lst [])))
  (hs:∀ i H,i<n->Pv i H->g (.int (lo+i)) (wipe σ vs) H fun σ2 H2=>wipe σ2 vs=wipe σ vs/\tt σ2 H2 fun b H3=>
   if b=true then te σ2 H3 fun y H4=>∃ acc,H4 D=some (.lst acc)/\acc.length<sizeLine/\Pv (i+1) (upd H4 D (.lst (acc++[y]))) else Pv (i+1) H3) (hd:∀ H,Pv n H->Qd H):
  ∃ W:Nat->Nat->Hp->Prop,(∃ m,W 0 m (upd H1 D (.lst [])))/\∀ i m H,W i m H->
   ((LX lo n).stop i H/\Qd H)∨((LX lo n).go i H/\∃ Nx:Hp->Prop,(∀ H',Nx H'->∃ m',m'<m/\W (i+1) m' H')/\∀ x H',(LX lo n).LM i H x H'->g x (wipe σ vs) H' fun σ2 H2=>wipe σ2 vs=wipe σ vs/\tt σ2 H2 fun b H3=>
    if b=true then te σ2 H3 fun y H4=>∃ acc,H4 D=some (.lst acc)/\acc.length<sizeLine/\Nx (upd H4 D (.lst (acc++[y]))) else Nx H3):=by
 refine ⟨fun i m H=>m=n-i/\i<=n/\Pv i H,⟨n,by simp,Nat.zero_le _,h0⟩,?_⟩;rintro i m H ⟨rfl,hi,p⟩;by_cases eW:i<n
 ·refine .inr ⟨eW,Pv (i+1),fun H' p'=>⟨n-(i+1),by lia,rfl,eW,p'⟩,fun x H' y=>?_⟩;obtain ⟨e,y⟩:=y;subst e y;exact hs i _ eW p
 ·have e:i=n:=by lia
  subst e;exact .inl ⟨Nat.le_refl _,hd H p⟩
theorem Iv {K:PySem.W.Frag} {a:Addr} {xs:List V} {g:TG} {tt:TT} {te:TE} {vs:List Nat} {σ:St} {H1:Hp} {D:Addr} {Qd:Hp->Prop} (Pv:Nat->Hp->Prop) (h0:Pv 0 (upd H1 D (.lst []))) (hl:∀ i H,i<=xs.length->Pv i H->aH K H a xs)
  (hs:∀ i x H,xs[i]? =some x->Pv i H->g x (wipe σ vs) H fun σ2 H2=>wipe σ2 vs=wipe σ vs/\tt σ2 H2 fun b H3=>
   if b=true then te σ2 H3 fun y H4=>∃ acc,H4 D=some (.lst acc)/\acc.length<sizeLine/\Pv (i+1) (upd H4 D (.lst (acc++[y]))) else Pv (i+1) H3) (hd:∀ H,Pv xs.length H->Qd H):
  ∃ W:Nat->Nat->Hp->Prop,(∃ m,W 0 m (upd H1 D (.lst [])))/\∀ i m H,W i m H->
   ((Kb K a).stop i H/\Qd H)∨((Kb K a).go i H/\∃ Nx:Hp->Prop,(∀ H',Nx H'->∃ m',m'<m/\W (i+1) m' H')/\∀ x H',(Kb K a).LM i H x H'->g x (wipe σ vs) H' fun σ2 H2=>wipe σ2 vs=wipe σ vs/\tt σ2 H2 fun b H3=>
    if b=true then te σ2 H3 fun y H4=>∃ acc,H4 D=some (.lst acc)/\acc.length<sizeLine/\Nx (upd H4 D (.lst (acc++[y]))) else Nx H3):=by
 refine ⟨fun i m H=>m=xs.length-i/\i<=xs.length/\Pv i H,⟨xs.length,by simp,Nat.zero_le _,h0⟩,?_⟩;rintro i m H ⟨rfl,hi,p⟩;have q:=hl i H hi p;by_cases eW:i<xs.length
 ·refine .inr ⟨⟨xs,xs[i],q,by simp [eW]⟩,Pv (i+1),fun H' p'=>⟨xs.length-(i+1),by lia,rfl,eW,p'⟩,fun x H' y=>?_⟩;obtain ⟨e,y⟩:=y;subst e;exact hs i x _ (y xs q) p
 ·have e:i=xs.length:=by lia
  subst e;exact .inl ⟨⟨xs,q,Nat.le_refl _⟩,hd H p⟩
theorem Vq {K:PySem.W.Frag} {a:Addr} {xs:List V} {g:TG} {tt:TT} {te:TE} {vs:List Nat} {σ:St} {H1:Hp} {D:Addr} {Qd:Hp->Prop} (Pv:Nat->Hp->Prop) (h0:Pv 0 (upd H1 D (.lst []))) (hl:∀ i H,i<=xs.length->Pv i H->pO K H a xs)
  (hs:∀ i x H,xs[i]? =some x->Pv i H->g x (wipe σ vs) H fun σ2 H2=>wipe σ2 vs=wipe σ vs/\tt σ2 H2 fun b H3=>
   if b=true then te σ2 H3 fun y H4=>∃ acc,H4 D=some (.lst acc)/\acc.length<sizeLine/\Pv (i+1) (upd H4 D (.lst (acc++[y]))) else Pv (i+1) H3) (hd:∀ H,Pv xs.length H->Qd H):
  ∃ W:Nat->Nat->Hp->Prop,(∃ m,W 0 m (upd H1 D (.lst [])))/\∀ i m H,W i m H->
   ((TU K a).stop i H/\Qd H)∨((TU K a).go i H/\∃ Nx:Hp->Prop,(∀ H',Nx H'->∃ m',m'<m/\W (i+1) m' H')/\∀ x H',(TU K a).LM i H x H'->g x (wipe σ vs) H' fun σ2 H2=>wipe σ2 vs=wipe σ vs/\tt σ2 H2 fun b H3=>
    if b=true then te σ2 H3 fun y H4=>∃ acc,H4 D=some (.lst acc)/\acc.length<sizeLine/\Nx (upd H4 D (.lst (acc++[y]))) else Nx H3):=by
 refine ⟨fun i m H=>m=xs.length-i/\i<=xs.length/\Pv i H,⟨xs.length,by simp,Nat.zero_le _,h0⟩,?_⟩;rintro i m H ⟨rfl,hi,p⟩;have q:=hl i H hi p;by_cases eW:i<xs.length
 ·refine .inr ⟨⟨xs,xs[i],q,by simp [eW]⟩,Pv (i+1),fun H' p'=>⟨xs.length-(i+1),by lia,rfl,eW,p'⟩,fun x H' y=>?_⟩;obtain ⟨e,y⟩:=y;subst e;exact hs i x _ (y xs q) p
 ·have e:i=xs.length:=by lia
  subst e;exact .inl ⟨⟨xs,q,Nat.le_refl _⟩,hd H p⟩
def kE (N:List Str) (sc scope:Scope) (own:List (Str×Nat)):Bool:=
 (match scope.kind with| .function=>true|_=>false)&&(scope.names.all fun y=>decide (scope.names.lookup y.1=some y.2))&&(own.all fun p=>decide (N[p.2]? =some p.1))&&
  (scope.names.all fun y=>match y.2 with
   | .free=>(match sc.names.lookup y.1 with|some .cell=>true|some .free=>true|_=>false)
   | .local=>decide (y.1∈own.map (·.1))||decide (y.1∉N)
   | .cell=>decide (y.1∈own.map (·.1))||decide (y.1∉N)
   |_=>true)
theorem bC {N:List Str} {sc scope:Scope} {own:List (Str×Nat)} (h:kE N sc scope own=true):Kl N sc scope own:=by
 unfold kE at h;simp only [Bool.and_eq_true,List.all_eq_true,decide_eq_true_eq] at h;obtain ⟨⟨⟨h1,h2⟩,h3⟩,h4⟩:=h;refine ⟨?_,h2,h3,fun y hy e=>?_,fun y hy e=>?_⟩
 ·split at h1
  ·assumption
  ·cases h1
 ·have q:=h4 y hy;simp only [e] at q;split at q<;>first|exact .inl (by assumption)|exact .inr (by assumption)|cases q
 ·have q:=h4 y hy;rcases e with e|e<;>(simp only [e,Bool.or_eq_true,decide_eq_true_eq] at q;exact q)
end L2
namespace L2
open PySem PySem.Spec PyProof.Rows
section
variable {κ:Type} [DecidableEq κ]
def wF (kvs:List (κ×V)) (k:κ):Option V:=(kvs.find? fun kv=>decide (kv.1=k)).map (·.2)
def putK (kvs:List (κ×V)) (k:κ) (v:V):List (κ×V):=
 if (kvs.any fun kv=>decide (kv.1=k))=true then kvs.map (fun kv=>if kv.1=k then (kv.1,v) else kv) else kvs++[(k,v)]
theorem C9 {p:κ×V} {r:List (κ×V)} {k:κ} (e:p.1=k):wF (p::r) k=some p.2:=by simp [wF,List.find?_cons,e]
theorem Dc {p:κ×V} {r:List (κ×V)} {k:κ} (e:¬ p.1=k):wF (p::r) k=wF r k:=by simp [wF,List.find?_cons,e]
theorem Dd (k:κ):∀ kvs:List (κ×V),(kvs.any fun kv=>decide (kv.1=k))=(wF kvs k).isSome
 |[]=>rfl
 |p::r=>by
  rw [List.any_cons];by_cases e:p.1=k
  ·simp only [C9 e,decide_eq_true e,Bool.true_or,Option.isSome_some]
  ·rw [Dc e,decide_eq_false e,Bool.false_or];exact Dd k r
theorem sj (kvs:List (κ×V)) (k:κ) (v:V):(putK kvs k v).length<=kvs.length+1:=by
 unfold putK;split
 ·rw [List.length_map];lia
 ·rw [List.length_append,List.length_cons,List.length_nil];lia
theorem wA.zx {o:Option V} {u:Option Value} (r:wA o u):o.isSome=u.isSome:=by
 cases o with
 |none=>cases u with
  |none=>rfl
  |some _=>exact (show False from r).elim
 |some _=>cases u with
  |none=>exact (show False from r).elim
  |some _=>rfl
theorem KV.val {kvs:List (κ×V)} {vs:List (κ×Value)} (r:KV kvs vs) (k:κ):wA (wF kvs k) (valueAt vs k):=by
 unfold KV at r
 induction r with
 |nil=>exact True.intro
 |@cons p q ps qs h t ih=>
  obtain ⟨h1,h2⟩:=h;by_cases e:p.1=k
  ·have e':q.1=k:=h1.symm.trans e;have b:valueAt (q::qs) k=some q.2:=by simp [valueAt,List.find?_cons,e']
   rw [C9 e,b];exact h2
  ·have e':¬ q.1=k:=fun z=>e (h1.trans z)
   have b:valueAt (q::qs) k=valueAt qs k:=by simp [valueAt,List.find?_cons,e']
   rw [Dc e,b];exact ih
theorem KV.any {kvs:List (κ×V)} {vs:List (κ×Value)} (r:KV kvs vs) (k:κ):(kvs.any fun kv=>decide (kv.1=k))=vs.any fun kv=>decide (kv.1=k):=by
 unfold KV at r
 induction r with
 |nil=>rfl
 |cons h t ih=>rw [List.any_cons,List.any_cons,ih,h.1]
theorem KV.Vr {kvs:List (κ×V)} {vs:List (κ×Value)} (r:KV kvs vs) (k:κ) {y:V} {u:Value} (ry:RelV y u):
  KV (kvs.map fun kv=>if kv.1=k then (kv.1,y) else kv) (vs.map fun kv=>if kv.1=k then (kv.1,u) else kv):=by
 unfold KV at r ⊢
 induction r with
 |nil=>exact .nil
 |@cons p q ps qs h t ih=>
  rw [List.map_cons,List.map_cons];refine .cons ?_ ih;obtain ⟨h1,h2⟩:=h;by_cases e:p.1=k
  ·rw [if_pos e,if_pos (h1.symm.trans e)];exact ⟨h1,ry⟩
  ·rw [if_neg e,if_neg (fun z=>e (h1.trans z))];exact ⟨h1,h2⟩
theorem KV.put {kvs:List (κ×V)} {vs:List (κ×Value)} (r:KV kvs vs) (k:κ) {y:V} {u:Value} (ry:RelV y u):KV (putK kvs k y) (stored vs k u):=by
 unfold putK stored;rw [r.any k];by_cases e:(vs.any fun kv=>decide (kv.1=k))=true
 ·rw [if_pos e,if_pos e];exact r.Vr k ry
 ·rw [if_neg e,if_neg e];exact Paired.snoc r ⟨rfl,ry⟩
theorem KV.length {kvs:List (κ×V)} {vs:List (κ×Value)} (r:KV kvs vs):kvs.length=vs.length:=Paired.length r
end
theorem Kq {P:Program} {w:World} {k:Key} {u:Value} (r:RelV (kV k) u):(bO P w).is k u=true:=by
 cases k with
 |inl i=>obtain ⟨t,e⟩:=(show ∃ t,u=Value.int i t from r);subst e;exact AJ P w i t
 |inr x=>obtain ⟨t,e⟩:=(show ∃ t,u=Value.str x t from r);subst e;exact J6 P w x t
theorem zy {P:Program} {w:World}:∀ {ks:List Key} {us:List Value},Vals (ks.map kV) us->ItemsAre (bO P w) ks us
 |[],_,r=>by rw [List.map_nil] at r;cases r;exact .nil
 |k::ks,_,r=>by
  rw [List.map_cons] at r;cases r with
  |cons h t=>exact .cons (Kq h) (zy t)
abbrev KT (H:Hp):List (List Key×V)->List (List Key×Addr×Value)->Prop:=Paired fun p q=>p.1=q.1/\H q.2.1=some (.tup (p.1.map kV))/\RelV p.2 q.2.2
theorem KT.val {H:Hp} {kvs:List (List Key×V)} {xs:List (List Key×Addr×Value)} (r:KT H kvs xs) (k:List Key):wA (wF kvs k) ((atKey xs k).map (·.2)):=by
 induction r with
 |nil=>exact True.intro
 |@cons p q ps qs h t ih=>
  obtain ⟨h1,_,h2⟩:=h;by_cases e:p.1=k
  ·have e':q.1=k:=h1.symm.trans e;have b:atKey (q::qs) k=some q.2:=by simp [atKey,List.find?_cons,e']
   rw [C9 e,b];exact h2
  ·have e':¬ q.1=k:=fun z=>e (h1.trans z)
   have b:atKey (q::qs) k=atKey qs k:=by simp [atKey,List.find?_cons,e']
   rw [Dc e,b];exact ih
theorem KT.Vr {H:Hp} {kvs:List (List Key×V)} {xs:List (List Key×Addr×Value)} (r:KT H kvs xs) (k:List Key) {y:V} {u:Value} (ry:RelV y u):
  KT H (kvs.map fun kv=>if kv.1=k then (kv.1,y) else kv) (xs.map (putAt k u)):=by
 induction r with
 |nil=>exact .nil
 |@cons p q ps qs h t ih=>
  rw [List.map_cons,List.map_cons];refine .cons ?_ ih;obtain ⟨h1,h2,h3⟩:=h;unfold putAt;by_cases e:p.1=k
  ·rw [if_pos e,if_pos (h1.symm.trans e)];exact ⟨h1,h2,ry⟩
  ·rw [if_neg e,if_neg (fun z=>e (h1.trans z))];exact ⟨h1,h2,h3⟩
theorem KT.put {H:Hp} {kvs:List (List Key×V)} {xs:List (List Key×Addr×Value)} (r:KT H kvs xs) (k:List Key) {b:Addr} {y:V} {u:Value} (hb:H b=some (.tup (k.map kV))) (ry:RelV y u):
  KT H (putK kvs k y) (storedH xs k b u):=by
 have e:(kvs.any fun kv=>decide (kv.1=k))=(atKey xs k).isSome:=by
  rw [Dd,(r.val k).zx,Option.isSome_map]
 unfold putK storedH;rw [e];by_cases q:(atKey xs k).isSome=true
 ·rw [if_pos q,if_pos q];exact r.Vr k ry
 ·rw [if_neg q,if_neg q];exact Paired.snoc r ⟨rfl,hb,ry⟩
theorem KT.keeps {H H':Hp} {kvs:List (List Key×V)} {xs:List (List Key×Addr×Value)} (r:KT H kvs xs) (ht:∀ b ys,H b=some (.tup ys)->H' b=some (.tup ys)):KT H' kvs xs:=
 Paired.dw r fun _ _ z=>⟨z.1,ht _ _ z.2.1,z.2.2⟩
section
variable {P:Program} {w:World} {H:Hp} {h:Heap} {a:Addr}
theorem T9 {u:HO} (ok:rY P w H h) (e:Rd H a u):cJ P w H h a u:=e.ok ok
theorem Ua {kvs:List (Key×V)} (ok:rY P w H h) (e:Rd H a (.dK kvs)):kvs.length<=sizeLine/\(a==sysModules)=false/\∃ vs,KV kvs vs/\h.DictOf (bO P w) a vs:=
 show cJ P w H h a (.dK kvs) from T9 ok e
theorem Qe {kvs:List (Key×V)} (ok:rY P w H h) (e:H a=some (.dK kvs)):kvs.length<=sizeLine/\(a==sysModules)=false/\∃ vs,KV kvs vs/\h.DictOf (bO P w) a vs:=Ua ok (.inl e)
theorem Mi {ks:List Key} (ok:rY P w H h) (e:H a=some (.tup (ks.map kV))):(tupleKind (bO P w)).is h ks a:=by
 obtain ⟨_,its,r,o,h1,h2,n,h3⟩:=(show cJ P w H h a (.tup (ks.map kV)) from ok a _ e);exact ⟨o,its.toArray,n,h1,h2,h3,by simpa using zy r⟩
theorem Ub {kvs:List (List Key×V)} (ok:rY P w H h) (e:Rd H a (.dT kvs)):kvs.length<=sizeLine/\(a==sysModules)=false/\
  ∃ xs,KT H kvs xs/\h.DictOfH (tupleKind (bO P w)) a xs:=by
 obtain ⟨z,y,xs,r,o,es,ep,h1,h2,h3,h4,h5⟩:=(show cJ P w H h a (.dT kvs) from T9 ok e);refine ⟨z,y,xs,r,o,es,ep,h1,h2,h3,h4,fun x hx=>?_,h5⟩;have all:∀ {l:List (List Key×V)} {m:List (List Key×Addr×Value)},KT H l m->∀ x∈m,(tupleKind (bO P w)).is h x.1 x.2.1:=by
  intro l m q
  induction q with
  |nil=>intro x hx;exact nomatch hx
  |@cons p q ps qs hq t ih=>
   intro x hx;rcases List.mem_cons.mp hx with e|hx
   ·subst e;exact Mi ok (by rw [<-hq.1];exact hq.2.1)
   ·exact ih x hx
 exact all r x hx
theorem XA {kvs:List (List Key×V)} (ok:rY P w H h) (e:H a=some (.dT kvs)):kvs.length<=sizeLine/\(a==sysModules)=false/\
  ∃ xs,KT H kvs xs/\h.DictOfH (tupleKind (bO P w)) a xs:=Ub ok (.inl e)
end
def OB (H:Hp) (a:Addr) (y:V) (r:Option V):Prop:=
 (∃ kvs k,Rd H a (.dK kvs)/\y=kV k/\r=wF kvs k)∨∃ kvs k b,Rd H a (.dT kvs)/\y=.ref b/\H b=some (.tup (k.map kV))/\r=wF kvs k
def Qg (H:Hp) (a:Addr) (y v:V) (H':Hp):Prop:=
 (∃ kvs k,H a=some (.dK kvs)/\y=kV k/\kvs.length<sizeLine/\H'=upd H a (.dK (putK kvs k v)))∨
 ∃ kvs k b,H a=some (.dT kvs)/\y=.ref b/\H b=some (.tup (k.map kV))/\kvs.length<sizeLine/\H'=upd H a (.dT (putK kvs k v))
theorem OB.k {H:Hp} {a:Addr} {kvs:List (Key×V)} {k:Key} (e:H a=some (.dK kvs)):OB H a (kV k) (wF kvs k):= .inl ⟨kvs,k,.inl e,rfl,rfl⟩
theorem Qg.k {H:Hp} {a:Addr} {kvs:List (Key×V)} {k:Key} {v:V} (e:H a=some (.dK kvs)) (hl:kvs.length<sizeLine):Qg H a (kV k) v (upd H a (.dK (putK kvs k v))):= .inl ⟨kvs,k,e,rfl,hl,rfl⟩
section
variable {X:Cx} {pins:List (Addr×Obj)} {σ:St} {H:Hp} {s:Shared} {a:Addr} {y v:V} {u r:Value} {o:Option V} {A:Around} {E:Value->Shared->Prop}
theorem Inv.big (I:Inv X pins σ H s):sysModules<s.heap.objs.size:=by
 have h:mainGlobals<s.heap.objs.size:=(I.mod.glob.keeps I.bk).lt;exact Nat.lt_trans (by decide) h
theorem aaB {Q:Value->Shared->Prop} (hu:A.units+1<cLine) (I:Inv X pins σ H s) (g:OB H a y o) (ry:RelV y u) (h:∀ s',Inv X pins σ H s'->Q (.bool o.isSome) s'):
  wpAny (model X.prog X.w) A (compareOp .In u (.ref a)) Q E s:=by
 rcases g with ⟨kvs,k,e,ey,l⟩|⟨kvs,k,b,e,ey,eb,l⟩
 ·subst ey;obtain ⟨z,hd,vs,rel,dd⟩:=Ua I.cf e;refine wpAny_in_of (Kq ry) hd dd.mapOf ?_;rw [<-(rel.val k).zx, <-l];exact h _ (I.tok _)
 ·subst ey;cases (show u=Value.ref b from ry);obtain ⟨z,hd,xs,rel,dd⟩:=Ub I.cf e;refine wpAny_in_heap (tupleKind_room_in1 hu) (Mi I.cf eb) hd dd ?_;have q:=(rel.val k).zx;rw [Option.isSome_map] at q;rw [<-q, <-l];exact h _ (I.tok _)
theorem CG {h':Heap} {t':Nat} {ob:HO} (I:Inv X pins σ H s) (mu:W3 (H a)) (hs:Heap.SameBut a s.heap h') (he:∃ q,h'.get? a=some q) (new:cJ X.prog X.w (upd H a ob) h' a ob):
  Inv X pins σ (upd H a ob) {s with heap:=h',toks:=t'}:=
 I.write (x:=a) (e:=a) mu (.inl rfl) (fun b q hb z=>(hs.2 b hb).trans z) he new
theorem Qh {P:Program} {w:World} {H':Hp} {h':Heap} {kvs:List (Key×V)} {vs:List (Key×Value)} (z:kvs.length<=sizeLine) (hd:(a==sysModules)=false) (rel:KV kvs vs) (dd:h'.DictOf (bO P w) a vs):
  cJ P w H' h' a (.dK kvs):=⟨z,hd,vs,rel,dd⟩
theorem OC {H':Hp} {Q:Unit->Shared->Prop} (hu:A.units+1<cLine) (I:Inv X pins σ H s) (g:Qg H a y v H') (ry:RelV y u) (rv:RelV v r) (h:∀ s',Inv X pins σ H' s'->Q () s'):
  wpAny (model X.prog X.w) A (setItem (.ref a) u r) Q E s:=by
 rcases g with ⟨kvs,k,e,ey,l,eH⟩|⟨kvs,k,b,e,ey,eb,l,eH⟩
 ·subst ey eH;obtain ⟨z,hd,vs,rel,dd⟩:=Qe I.cf e;have hz:vs.length<=sizeLine:=by rw [<-rel.length];exact z
  have hl:(putK kvs k v).length<=sizeLine:=by have:=sj kvs k v;lia
  refine wpAny_setItem_pairs (hsz:=hz) (Kq ry) dd fun h' RJ hs=>h _ ?_
  have he:∃ q,h'.get? a=some q:=let ⟨q,_,_,hq,_⟩:=RJ;⟨q,hq⟩
  exact CG I (by rw [e];exact True.intro) hs he (Qh hl hd (rel.put k rv) RJ)
 ·subst ey eH;cases (show u=Value.ref b from ry);obtain ⟨z,hd,xs,rel,dd⟩:=XA I.cf e;have hz:xs.length<=sizeLine:=by rw [<-Paired.length rel];exact z
  have hl:(putK kvs k v).length<=sizeLine:=by have:=sj kvs k v;lia
  refine wpAny_setItem_heap (hsz:=hz) (tupleKind_room_in1 hu) (Mi I.cf eb) dd fun h' RJ hs=>h _ ?_
  obtain ⟨q,es,ep,hq,h2,h3,h4,_,h5⟩:=RJ;refine CG I (by rw [e];exact True.intro) hs ⟨q,hq⟩ ⟨hl,hd,_,(rel.put k eb rv).keeps fun c ys ec=>?_,q,es,ep,hq,h2,h3,h4,h5⟩;rw [az (TN ec e (fun z=>nomatch z))];exact ec
end
def Sn (i:Expr):Prop:=∀ ov iv,subscripted i false ov iv=operate [ov,iv] (getItem ov iv)
theorem NH {prog:Program} {w:World} {A:Around} {E:Value->Shared->Prop} {s:Shared} {env:Env} {value slice:Expr} {pos:Pos} {T id:String} {Q:Value->Shared->Prop}
  (hl:typeLookup (.type T) "__getitem__"=pure (some (.builtin id))) (hs:Sn slice)
  (h:wpAny (model prog w) A (eval value env) (fun o cg=>wpAny (model prog w) A (eval slice env) (fun i pN=>pN.TypeIs o T/\wpAny (model prog w) A (getItem o i) Q E pN) E cg) E s):
  wpAny (model prog w) A (eval (.Subscript value slice pos) env) Q E s:=by
 refine Subscript_ (wpAny_mono h (fun o cg Sl=>wpAny_mono Sl (fun i pN Qc=>?_) fun _ _ x=>x) fun _ _ x=>x);obtain ⟨hT,Qc⟩:=Qc;unfold subscriptTail;refine wpAny_bind ?_;rw [getitemInPython_of_ne hT.not_modules];refine wpAny_bind (wpAny_specialOf hT hl ?_);have fin:wpAny (model prog w) A (subscripted slice false o i) (fun r OA=>wpAny (model prog w) A (letTemporaryGo value o r>>=fun _=>pure r) Q E OA) E pN:=by
  rw [hs o i];exact wpAny_operating (wpAny_mono Qc (fun r OA Sm=>wpAny_bind (wpAny_letTemporaryGo (wpAny_pure Sm))) fun _ _ x=>x)
 first
  |exact wpAny_pure (wpAny_bind fin)
  |exact wpAny_bind (wpAny_pure (wpAny_bind fin))
  |exact wpAny_bind fin
def aaC (ty td:TE):TE:=fun σ H Q=>ty σ H fun y H1=>td σ H1 fun x H2=>∃ a o,x=.ref a/\OB H2 a y o/\Q (.bl o.isSome) H2
def XB (td ty tv:TE):TS:=fun D σ H=>tv σ H fun v H1=>td σ H1 fun x H2=>ty σ H2 fun y H3=>∃ a H4,x=.ref a/\Qg H3 a y v H4/\D.nx σ H4
section
variable {X:Cx} {o i e value:Expr} {pos pos' aan:Pos} {td ty tv:TE}
theorem Qi (hu:X.A.units+1<cLine) (hi:PE X i ty) (ho:PE X o td):PC X .In i o (aaC ty td):=by
 intro pins s σ H Q I h;refine cY (hi pins s σ H _ I h) fun iv s1 ⟨y,H1,I1,ry,q1⟩=>cY (ho pins s1 σ H1 _ I1 q1) fun u s2 ⟨x,H2,I2,rx,a,ov,ex,g,q2⟩=>?_
 subst ex;obtain rfl:u=Value.ref a:=rx;exact aaB hu I2 g ry fun s3 I3=>⟨.bl ov.isSome,H2,I3,rfl,q2⟩
theorem So (hu:X.A.units+1<cLine) (ho:PE X o td) (hi:PE X i ty) (hv:PE X value tv) (hs:swapsWith value (some (.Subscript o i pos')) pos.line X.env=pure false):
  PS X (.Assign [.Subscript o i pos'] value pos) (XB td ty tv):=by
 intro pins s σ H D I h;refine wpAny_Assign_Subscript (cY (hv pins s σ H _ I h) fun r s1 ⟨v,H1,I1,rv,q1⟩=>cY (ho pins s1 σ H1 _ I1 q1) fun u s2 ⟨x,H2,I2,rx,q2⟩=>cY (hi pins s2 σ H2 _ I2 q2) fun iv s3 ⟨y,H3,I3,ry,a,H4,ex,g,q3⟩=>?_) hs;subst ex;obtain rfl:u=Value.ref a:=rx;exact OC hu I3 g ry rv fun s4 I4=>⟨σ,H4,I4,q3⟩
end
theorem Qj {P:Program} {w:World} {H:Hp} (h:Heap) (hb:sysModules<h.objs.size):cJ P w H (h.push {cls:= .type "dict",data:= .dict #[]}) h.objs.size (.dK []):=
 ⟨Nat.zero_le _,beq_eq_false_iff_ne.mpr (Ne.symm (Nat.ne_of_lt hb)),[],.nil,Heap.DictOf.new h⟩
def Mj:List (TE×TE)->St->Hp->(List (V×V)->Hp->Prop)->Prop
 |[],_,H,Q=>Q [] H
 |(tk,tv)::r,σ,H,Q=>tk σ H fun x H1=>tv σ H1 fun y H2=>Mj r σ H2 fun ps H3=>Q ((x,y)::ps) H3
abbrev VV:List (V×V)->List (Value×Value)->Prop:=Paired fun p q=>RelV p.1 q.1/\RelV p.2 q.2
def Zv (X:Cx) (pos:Pos) (keys:List (Option Expr)) (values:List Expr) (Sq:List (TE×TE)):Prop:=
 ∀ (pins:List (Addr×Obj)) (s:Shared) (σ:St) (H:Hp) (Q:List (V×V)->Hp->Prop),Inv X pins σ H s->Mj Sq σ H Q->
  wpAny (model X.prog X.w) X.A (evalPairs (pairTrees keys values X.env pos)) (fun vs s'=>∃ ps H',Inv X pins σ H' s'/\VV ps vs/\Q ps H') X.xe s
theorem Sr {X:Cx} {pos:Pos}:Zv X pos [] [] []:=fun pins s σ H Q I h=>pairTrees_nil_walk ⟨[],H,I,.nil,h⟩
theorem Qk {X:Cx} {pos:Pos} {k v:Expr} {ks:List (Option Expr)} {vs:List Expr} {tk tv:TE} {Sq:List (TE×TE)} (hk:PE X k tk) (hv:PE X v tv) (hr:Zv X pos ks vs Sq):
  Zv X pos (some k::ks) (v::vs) ((tk,tv)::Sq):=fun pins s σ H Q I h=>
 pairTrees_cons_walk (cY (hk pins s σ H _ I h) fun u s1 ⟨x,H1,I1,rx,q1⟩=>cY (hv pins s1 σ H1 _ I1 q1) fun w2 s2 ⟨y,H2,I2,ry,q2⟩=>
  cY (hr pins s2 σ H2 _ I2 q2) fun ws s3 ⟨ps,H3,I3,rel,q3⟩=>⟨(x,y)::ps,H3,I3,.cons ⟨rx,ry⟩ rel,q3⟩)
def De (kvs more:List (Key×V)):List (Key×V):=more.foldl (fun acc kv=>putK acc kv.1 kv.2) kvs
theorem KV.merge:∀ {more:List (Key×V)} {rs:List (Key×Value)} {kvs:List (Key×V)} {vs:List (Key×Value)},KV more rs->KV kvs vs->KV (De kvs more) (merged vs rs):=by
 intro more rs kvs vs r;unfold KV at r
 induction r generalizing kvs vs with
 |nil=>intro q;exact q
 |@cons p q ps qs h t ih=>
  intro r0;have e:KV (putK kvs p.1 p.2) (stored vs q.1 q.2):=by
   have:=r0.put p.1 h.2;rw [<-h.1];exact this
  exact ih e
theorem u9:∀ (more kvs:List (Key×V)),(De kvs more).length<=kvs.length+more.length
 |[],kvs=>by show kvs.length<=kvs.length+0;lia
 |p::r,kvs=>by
  have h1:=u9 r (putK kvs p.1 p.2);have h2:=sj kvs p.1 p.2;show (De (putK kvs p.1 p.2) r).length<=_;rw [List.length_cons];lia
theorem Df {P:Program} {w:World}:∀ {kvs:List (Key×V)} {ws:List (Value×Value)},VV (kvs.map fun kv=>(kV kv.1,kv.2)) ws->∃ rs,Carries (bO P w) ws rs/\KV kvs rs
 |[],_,r=>by rw [List.map_nil] at r;cases r;exact ⟨[],True.intro,.nil⟩
 |p::kvs,_,r=>by
  rw [List.map_cons] at r;cases r with
  |@cons a b as bs h t=>
   obtain ⟨rs,c,q⟩:=Df (P:=P) (w:=w) t;obtain ⟨b1,b2⟩:=b;exact ⟨(p.1,b2)::rs,⟨Kq h.1,rfl,c⟩,.cons ⟨rfl,h.2⟩ q⟩
def XC (Sq:List (TE×TE)):TE:=fun σ H Q=>∀ p,H p=none->Mj Sq σ (upd H p (.dK [])) fun ps H2=>H2 p=some (.dK [])/\∃ kvs:List (Key×V),ps=kvs.map (fun kv=>(kV kv.1,kv.2))/\kvs.length<=15/\Q (.ref p) (upd H2 p (.dK (De [] kvs)))
theorem Ss {X:Cx} {pos:Pos} {keys:List (Option Expr)} {values:List Expr} {Sq:List (TE×TE)} (h:Zv X pos keys values Sq) (jf:keys.all (·.isSome)=true) (hl:keys.length=values.length) (h0:keys≠[])
  (XD:keys.length<=15):PE X (.Dict keys values pos) (XC Sq):=by
 intro pins s σ H Q I q;have hn:=I.cf.fresh (Nat.le_refl s.heap.objs.size);have I1:=I.laid (a:=s.heap.objs.size) (o:= .dK []) (h':=s.heap.push {cls:= .type "dict",data:= .dict #[]}) (t':=s.toks) (fun _ _ q=>Heap.get?_push_of_some _ q) (Nat.le_refl _) (Qj s.heap I.big);refine wpAny_Dict_walk (knd:=bO X.prog X.w) jf hl h0 XD (cY (h pins _ σ _ _ I1 (q _ hn)) fun ws s2 ⟨ps,H2,I2,rel,e,kvs,ep,lk,q2⟩=>?_);subst ep;obtain ⟨rs,c,rk⟩:=Df (P:=X.prog) (w:=X.w) rel;obtain ⟨z,hd,vs0,r0,dd⟩:=Qe I2.cf e;cases r0;refine ⟨rs,c,dd,fun h' RJ hs=>⟨.ref s.heap.objs.size,_,?_,rfl,q2⟩⟩;have hz:(De [] kvs).length<=sizeLine:=by
  have h1:=u9 kvs [];rw [List.length_nil] at h1;rw [sizeLine_eq];lia
 have he:∃ q,h'.get? s.heap.objs.size=some q:=let ⟨q,_,_,hq,_⟩:=RJ;⟨q,hq⟩
 exact CG I2 (by rw [e];exact True.intro) hs he (Qh hz hd (rk.merge .nil) RJ)
structure M2 (X:Cx) (o:Expr) (m:Str) (apos:Pos) (e f:Expr) (r9:Pos):Prop where
 base:attributeBase o m X.env (eval o X.env)=eval o X.env
 XE:((backTo r9 (starEach [e,f] X.env)).all (fun x=> !x.1)&&(backToKw r9 (keywordEach [] X.env)).all (fun x=>x.1.isSome)
  &&decide (([e,f]:List Expr).length+([]:List Keyword).length+(if ([]:List Keyword).isEmpty then 0 else 1)<30))=true
 line:(apos.endLine==r9.line)=true
 trees:backTo r9 (starEach [e,f] X.env)=[(false,eval e X.env),(false,eval f X.env)]
end L2
namespace L2
open PySem PySem.Spec PyProof.Rows
section
variable {X:Cx}
theorem Vs {tg:Expr} {pins:List (Addr×Obj)} {σ:St} {H:Hp} {s:Shared} {R:It->Hp->Prop} {J:It} {tn:Nat->Heap->Prop} {tk:Nat} (I:Inv X pins σ H s) (o:Obj)
  (T:Turn X.prog X.w X.K tg J [s.heap.objs.size] s.heap.objs.size tn) (st:tn 0 (s.heap.push o)) (q:R J H):PIE X pins σ tg R (.ref s.heap.objs.size) {s with heap:=s.heap.push o,toks:=tk}:=by
 refine ⟨s.heap.objs.size,[s.heap.objs.size],tn,J,H,rfl,I.kept fun b ob e=>Heap.get?_push_of_some _ e,T,st,fun b hb=>?_,q⟩;have e:b=s.heap.objs.size:=by simpa using hb
 subst e;exact I.PN (Nat.le_refl _) (I.cf.fresh (Nat.le_refl _))
end
def Uc (lo c:Int) (n:Nat):It:=⟨fun i _=>i<n,fun i H x H'=>H'=H/\x=.int (lo+(i:Nat)*c),fun i _=>n<=i⟩
theorem Kr {P:Program} {w:World} {K:PySem.W.Frag} {tg:Expr} (it:Addr) (lo c:Int) (n:Nat):Turn P w K tg (Uc lo c n) [it] it (fun i h=>IsRangeIter h it (lo+(i:Nat)*c) ((n:Int)-(i:Nat)) c) where
 mem:=by simp
 obj:=fun i h st b hb=>by
  have e:b=it:=by simpa using hb
  subst e;exact ⟨_,st,fun v z=>nomatch z⟩
 keep:=fun i h h' st k=>k it (by simp) _ st
 item:=by
  intro X hP hw hK hc i pins s σ H E I hf st hg;subst hP hw hK;obtain ⟨f0,f1,f2,f3,f4,f5⟩:=hf it (by simp);have W:=Walks.range (prog:=X.prog) (w:=X.w) (I.ok.hd hc) it lo c n;refine W.item i s _ _ hg st fun v h' tk hv Kc kk=>?_
  obtain ⟨t,rfl⟩:=hv;have I1:Inv X pins σ H {s with heap:=h',toks:=tk}:=I.turned (fun b o hb e=>kk b o (by simpa using hb) e) f0 f1 f3 f4 f5;exact ⟨_,rfl,Nq (s:={s with heap:=h',toks:=tk}) (n:="range_iterator") Kc rfl rfl (by decide) ⟨.int (lo+(i:Nat)*c),H,I1,⟨t,rfl⟩,⟨rfl,rfl⟩,Kc,fun b hb=>(hf b hb).1⟩⟩
 done:=by
  intro X hP hw hK hc i pins s σ H E I hf st hg;subst hP hw hK;obtain ⟨f0,f1,f2,f3,f4,f5⟩:=hf it (by simp);exact wpAny_pyNext_range_end (I.ok.hd hc) st (by have:n<=i:=hg;lia) fun h' eb=>⟨rfl,I.turned (t':=s.toks) (fun b o hb e=>eb b o hb e) f0 f1 f3 f4 f5⟩
 self:=fun A i s Q E st h=>wpAny_pyIter_rangeiter st h
def Vt (i j c:Int) (n:Nat):Prop:=c≠0/\c.natAbs<1073741824/\Builtin.Range.small i j c=true/\Builtin.Range.rangeSize i j c=n
theorem Vt.neg {i j:Int} (ha: -(2 ^ 62)<=i) (XF:i<2 ^ 62) (hb: -(2 ^ 62)<=j) (XG:j<2 ^ 62):Vt i j (-1) (i-j).toNat:=
 ⟨by decide,by decide,PySem.W.small_down ha XF hb XG,PySem.W.rangeSize_downNat i j⟩
def XH (ta:TA):TI:=fun σ H R=>ta σ H fun vs H1=>∃ (i j c:Int) (n:Nat),vs=[.int i,.int j,.int c]/\Vt i j c n/\R (Uc i c n) H1
section
variable {X:Cx} {tg:Expr}
theorem GX {a b c:Expr} {ta:TA} {p pos:Pos} (hg:Gl X "range") (hm:X.mg "range"=none) (ha:PA X [a,b,c] ta)
  (hs:starEach [a,b,c] X.env=(false,eval a X.env)::starEach [b,c] X.env:=by rfl) (jP:(backTo pos (starEach [b,c] X.env)).any (·.1)=false:=by rfl):
  PI X tg (.Call (.Name "range" p) [a,b,c] [] pos) (XH ta):=by
 intro pins s σ H R I h;refine Call_ (CZ I hg hm boot_range (PyProof.Rows.callWith_type1 (cY (ha pos pins s σ H _ I h) fun us s1 ⟨vs,H1,I1,r1,q1⟩=>?_) hs jP));obtain ⟨i,j,k,n,e,⟨c0,c1,c2,c3⟩,q⟩:=q1;subst e;cases r1 with
 |cons r rr=>
  cases rr with
  |cons r' rr=>
   cases rr with
   |cons r'' rr=>
    cases rr;obtain ⟨t,rfl⟩:=r;obtain ⟨t',rfl⟩:=r';obtain ⟨t'',rfl⟩:=r'';refine call_range_3 c0 ?_ (.inl (PyProof.noPylong_small c1));refine wpAny_pyIter_range (IsRange.new ..) c2 ?_;have I2:Inv X pins σ H1 {s1 with heap:=s1.heap.push {cls:= .type "range",data:= .fields #[.int i t,.int j t',.int k t'']}}:=I1.kept (t':=s1.toks) fun b o e=>Heap.get?_push_of_some _ e
    refine Vs (tk:=s1.toks) I2 _ (Kr _ i k n) ?_ q;have e1:i+((0:Nat):Int)*k=i:=by simp
    have e2:(n:Int)-((0:Nat):Int)=Builtin.Range.rangeSize i j k:=by rw [c3];simp
    show IsRangeIter _ _ (i+((0:Nat):Int)*k) ((n:Int)-((0:Nat):Int)) k;rw [e1,e2];exact Heap.get?_push_size _ rfl
end
theorem Ml {lo c:Int} {n:Nat} {g:TG} {tb:TS} {D:Ends} {σ:St} {H:Hp} (Pv:Nat->St->Hp->Prop) (h0:Pv 0 σ H)
  (hs:∀ i σ H,i<n->Pv i σ H->g (.int (lo+(i:Nat)*c)) σ H fun σ2 H2=>tb {D with nx:=Pv (i+1),ct:=Pv (i+1),bk:=D.nx} σ2 H2) (hd:∀ σ H,Pv n σ H->D.nx σ H):
  ∃ W:Nat->Nat->St->Hp->Prop,(∃ m,W 0 m σ H)/\∀ i m σ H,W i m σ H->
   ((Uc lo c n).stop i H/\D.nx σ H)∨((Uc lo c n).go i H/\∃ N:St->Hp->Prop,(∀ σ' H',N σ' H'->∃ m',m'<m/\W (i+1) m' σ' H')/\∀ x H',(Uc lo c n).LM i H x H'->g x σ H' fun σ2 H2=>tb {D with nx:=N,ct:=N,bk:=D.nx} σ2 H2):=by
 refine ⟨fun i m σ H=>m=n-i/\i<=n/\Pv i σ H,⟨n,by simp,Nat.zero_le _,h0⟩,?_⟩;rintro i m σ H ⟨rfl,hi,p⟩;by_cases eW:i<n
 ·refine .inr ⟨eW,Pv (i+1),fun σ' H' p'=>⟨n-(i+1),by lia,rfl,eW,p'⟩,fun x H' y=>?_⟩;obtain ⟨e,y⟩:=y;subst e y;exact hs i σ _ eW p
 ·have e:i=n:=by lia
  subst e;exact .inl ⟨Nat.le_refl _,hd σ H p⟩
end L2
namespace L2
open PySem PySem.Spec PyProof.Rows
def inClass (s:Stmt) (j:Nat):Stmt:=match s with
 | .ClassDef _ _ _ body _ _ _ _ _ _ _=>body.getD j (.Pass ⟨0,0,0,0⟩)
 |_=>.Pass ⟨0,0,0,0⟩
def gG (s:Stmt):Arguments:=match s with
 | .FunctionDef _ a _ _ _ _ _ _ _ _=>a
 |_=>{posonlyargs:=[],args:=[],vararg:=none,kwonlyargs:=[],kw_defaults:=[],kwarg:=none,defaults:=[]}
def dY (s:Stmt):List Stmt:=match s with
 | .FunctionDef _ _ b _ _ _ _ _ _ _=>b
 |_=>[]
def af (s:Stmt):Scope:=match s with
 | .FunctionDef _ _ _ _ _ _ sc _ _ _=>sc
 |_=>{kind:= .function,names:=[],isGenerator:=false,isCoroutine:=false}
abbrev Ql:R7:=fun _ _ _ _ _ _=>False
abbrev E0:XK:=fun _ _ _=>False
theorem i0 {X:Cx}:Passes Ql X E0:=fun _ _ _ _ _ _ _ h=>h.elim
structure Iw (K:PySem.W.Frag) (x qual:Str) (st:Stmt) (f:Addr) (fd:FuncData):Prop where
 ex:∃ (oc:Value) (od:Option Addr) (kV doc pm:Value) (an:Option Addr) (bB ct:Value) (Ih:Array (Option Value)),
  fd=PySem.W.fnOf x qual (gG st) (dY st) (af st) .none kV doc pm an bB ct/\K.lookup f=some ⟨oc,od,.func fd,Ih⟩/\PySem.W.codeIn K bB qual=true
 kp:PySem.W.keepIn K (.ref f)=true
section
variable {P:Program} {w:World} {K:PySem.W.Frag} {mg:Str->Option Value} {base:Heap}
theorem Iw.ok {x qual:Str} {st:Stmt} {f:Addr} {fd:FuncData} {N ps:List Str} {k:Nat} {sp:Sp} (F:Iw K x qual st f fd) (S:ak N ps (af st)) (len:∀ vs H Q E,sp vs H Q E->vs.length=ps.length)
  (C4:∀ (bB:Value) (A:Around) (outer:List Env) (s:Shared) (H:Hp) (vs:List V) (Q:VK) (E:XK),fP k (A.deeper (envOfC qual (af st) s.heap.objs.size f bB))->sp vs H Q E->
   ∃ t,LS (Mb Ql P w K mg base N qual (af st) f bB A outer s H E).WE (dY st) t/\t {nx:=fun _ H'=>Q .cx H',rt:=Q} (start N vs) H):uP P w K mg base Ql (k+1) f fd ps sp:=by
 obtain ⟨oc,od,kV,doc,pm,an,bB,ct,Ih,rfl,lk,J9⟩:=F.ex;refine T5 lk J9 S len fun A outer s H vs Q E hr T6=>?_
 obtain ⟨t,h,q⟩:=C4 bB A outer s H vs Q E hr T6;exact ⟨t,h.WE,q⟩
theorem Iw.binds {x qual:Str} {st:Stmt} {f:Addr} {fd:FuncData} {ps:List Str} (F:Iw K x qual st f fd)
  (h:∀ (kV doc pm:Value) (an:Option Addr) (bB ct:Value) (us:List Value),us.length=ps.length->bindArgs (PySem.W.fnOf x qual (gG st) (dY st) (af st) .none kV doc pm an bB ct) ⟨us,[]⟩=pure (ps.zip us)):Binds K fd ps []:=by
 obtain ⟨oc,od,kV,doc,pm,an,bB,ct,Ih,rfl,lk,J9⟩:=F.ex;exact .all (h kV doc pm an bB ct)
theorem sk {x qual:Str} {st:Stmt} {f:Addr} {oc:Value} {od an:Option Addr} {Ih:Array (Option Value)} {kV doc pm bB ct:Value} (l:K.lookup f=some ⟨oc,od,.func (PySem.W.fnOf x qual (gG st) (dY st) (af st) .none kV doc pm an bB ct),Ih⟩)
  (c:PySem.W.codeIn K bB qual=true) (k:PySem.W.keepIn K (.ref f)=true):Iw K x qual st f (PySem.W.fnOf x qual (gG st) (dY st) (af st) .none kV doc pm an bB ct):=⟨⟨oc,od,kV,doc,pm,an,bB,ct,Ih,rfl,l,c⟩,k⟩
end
theorem NI {A:Around} {k:Nat} (hr:fP k A):A.units+1<cLine:=Nat.lt_of_le_of_lt (Nat.add_le_add_left (by decide:1<=64) _) hr.units
section
variable {X:Cx}
theorem pv (i:Nat) {x:Str} {pos:Pos} (hN:X.N[i]? =some x:=by rfl) (hv:UX X.env.scope x:=by first|exact Or.inl rfl|exact Or.inr (Or.inl rfl)|exact Or.inr (Or.inr rfl)) (hd:(x==("__debug__":Str))=false:=by decide)
  (J9:(x==("__classdict__":Str))=false:=by decide):PE X (.Name x pos) (LU i):=LV hN hv hd J9
end
def au (H H':Hp):Prop:=∀ b o,H b=some o->H' b=some o
theorem au.refl (H:Hp):au H H:=fun _ _ h=>h
theorem au.trans {H H1 H2:Hp} (a:au H H1) (b:au H1 H2):au H H2:=fun c o h=>b c o (a c o h)
theorem au.free {H H':Hp} (e:au H H') {l:Addr} (h:H' l=Option.none):H l=Option.none:=by
 cases q:H l with
 |none=>rfl
 |some o=>
  rw [e l o q] at h;cases h
theorem au.seq {K:PySem.W.Frag} {H H':Hp} {a:Addr} {xs:List V} (e:au H H') (h:aH K H a xs):aH K H' a xs:=by
 rcases h with (h|⟨o,h⟩)|h
 ·exact .inl (.inl (e _ _ h))
 ·exact .inl (.inr ⟨o,e _ _ h⟩)
 ·exact .inr h
theorem at_of {xs:List V} {z:Int} {j:Nat} {v:V} (e:z=(j:Int)) (h:xs[j]? =some v):J2 xs z=some v:=by
 rw [e];exact uF h
theorem au.made {H H1:Hp} {x dx C:Addr} (nx:H x=Option.none) (nd:H dx=Option.none) (k:∀ b o,(upd (upd H dx (.own x)) x (.ins C dx [])) b=some o->b≠x->H1 b=some o):au H H1:=fun b o e=>
 k b o (by rw [az (aw e nx),az (aw e nd)];exact e) (aw e nx)
end L2
section
set_option maxHeartbeats 2000000
namespace L2
open PySem PySem.Spec PyProof.Rows
open PySem.W (WData Codec OpenSpec Well WellAll ReadsW ReadsAllW)
mutual
inductive Dw (K:PySem.W.Frag) (H:Hp):V->WData->Prop
 |cx:Dw K H .cx .none
 |bl (b:Bool):Dw K H (.bl b) (.bool b)
 |int (i:Int):Dw K H (.int i) (.int i)
 |str (x:Str):Dw K H (.str x) (.str x)
 |LK (b:Array UInt8):Dw K H (.LK b) (.bytes b.toList)
 |lst {a:Addr} {xs:List V} {ds:List WData}:aH K H a xs->qA K H xs ds->Dw K H (.ref a) (.list ds)
 |tup {a:Addr} {xs:List V} {ds:List WData}:pO K H a xs->qA K H xs ds->Dw K H (.ref a) (.tuple ds)
inductive qA (K:PySem.W.Frag) (H:Hp):List V->List WData->Prop
 |nil:qA K H [] []
 |cons {v:V} {vs:List V} {d:WData} {ds:List WData}:Dw K H v d->qA K H vs ds->qA K H (v::vs) (d::ds)
end
theorem NJ {K:PySem.W.Frag} {H:Hp}:∀ ns:List Int,qA K H (ns.map V.int) (ns.map WData.int)
 |[]=>.nil
 |n::r=>.cons (.int n) (NJ r)
theorem NK {K:PySem.W.Frag} {H:Hp}:∀ (ns:List Int) (xs:List V),qA K H xs (ns.map WData.int)->xs=ns.map V.int
 |[],xs,h=>by
  cases h;rfl
 |n::r,xs,h=>by
  cases h with
  |cons h1 h2=>
   cases h1;rw [NK r _ h2]<;>rfl
section
variable {P:Program} {w:World} {K:PySem.W.Frag} {H:Hp} {h:Heap} {R:PySem.W.WRecords} {cl:Str->Option Addr}
theorem Vu {a:Addr} {xs:List V} (cf:rY P w H h) (KX:K.In h) (q:aH K H a xs):∃ (its:List Value) (o:Obj) (n:Nat),Vals xs its/\h.get? a=some o/\o.cls=.type "list"/\o.data=.seq its.toArray n:=by
 rcases q with q|⟨o,its,n,e,hc,_,hd,_,hv⟩
 ·obtain ⟨_,its,n,hv,e⟩:=(show cJ P w H h a (.lst xs) from q.ok cf);exact ⟨its,_,n,hv,e,rfl,rfl⟩
 ·exact ⟨its.toList,o,n,hv,KX _ _ e,hc,by simp [hd]⟩
theorem Vv {a:Addr} {xs:List V} (cf:rY P w H h) (KX:K.In h) (q:pO K H a xs):∃ (its:List Value) (o:Obj) (n:Nat),Vals xs its/\h.get? a=some o/\o.cls=.type "tuple"/\o.data=.seq its.toArray n:=by
 rcases q with q|⟨o,its,n,e,hc,hd,_,hv⟩
 ·obtain ⟨_,its,hv,o,e,hc,n,hd⟩:=(show cJ P w H h a (.tup xs) from q.ok cf);exact ⟨its,o,n,hv,e,hc,hd⟩
 ·exact ⟨its.toList,o,n,hv,KX _ _ e,hc,by simp [hd]⟩
mutual
theorem Dw.reads (cf:rY P w H h) (KX:K.In h):∀ (d:WData) (v:V) (u:Value),Dw K H v d->RelV v u->∃ as,ReadsW R cl h u d as
 | .none,_,_,x,r=>by
  cases x;cases r;exact ⟨_,ReadsW.none⟩
 | .bool b,_,_,x,r=>by
  cases x;cases r;exact ⟨_,ReadsW.bool b⟩
 | .int i,_,_,x,r=>by
  cases x;obtain ⟨t,rfl⟩:=r;exact ⟨_,ReadsW.int i t⟩
 | .str s,_,_,x,r=>by
  cases x;obtain ⟨t,rfl⟩:=r;exact ⟨_,ReadsW.str s t⟩
 | .bytes b,_,_,x,r=>by
  cases x;obtain ⟨t,rfl⟩:=r;exact ⟨_,ReadsW.bytes _ t⟩
 | .list ds,_,_,x,r=>by
  cases x with
  |lst hs ha=>
   cases r;obtain ⟨its,o,n,rv,ho,hc,hd⟩:=Vu cf KX hs;obtain ⟨as,hr⟩:=Dw.readsAll cf KX ds _ its ha rv;exact ⟨_,ReadsW.list ho hc hd hr⟩
 | .tuple ds,_,_,x,r=>by
  cases x with
  |tup hs ha=>
   cases r;obtain ⟨its,o,n,rv,ho,hc,hd⟩:=Vv cf KX hs;obtain ⟨as,hr⟩:=Dw.readsAll cf KX ds _ its ha rv;exact ⟨_,ReadsW.tuple ho hc hd hr⟩
 | .float _,_,_,x,_=>by cases x
 | .dict _,_,_,x,_=>by cases x
 | .bytearray _,_,_,x,_=>by cases x
 | .set _,_,_,x,_=>by cases x
 | .frozenset _,_,_,x,_=>by cases x
 | .obj _ _,_,_,x,_=>by cases x
theorem Dw.readsAll (cf:rY P w H h) (KX:K.In h):∀ (ds:List WData) (vs:List V) (us:List Value),qA K H vs ds->Vals vs us->∃ as,ReadsAllW R cl h us ds as
 |[],_,_,x,r=>by
  cases x;cases r;exact ⟨_,ReadsAllW.nil⟩
 |d::ds,_,_,x,r=>by
  cases x with
  |cons h1 h2=>
   cases r with
   |cons r1 r2=>
    obtain ⟨as,q1⟩:=Dw.reads cf KX d _ _ h1 r1;obtain ⟨bs,q2⟩:=Dw.readsAll cf KX ds _ _ h2 r2;exact ⟨_,ReadsAllW.cons q1 q2⟩
end
end
mutual
def NL:WData->Bool
 | .none=>true
 | .bool _=>true
 | .int _=>true
 | .str _=>true
 | .bytes _=>true
 | .list xs=>BX xs
 | .tuple xs=>BX xs
 |_=>false
def BX:List WData->Bool
 |[]=>true
 |x::r=>NL x&&BX r
end
theorem Ks {α:Type} {f:α->WData} (h:∀ a,NL (f a)=true):∀ l:List α,BX (l.map f)=true
 |[]=>rfl
 |x::r=>by
  show (NL (f x)&&BX (r.map f))=true;rw [h x,Ks h r]<;>rfl
theorem so:∀ (c:Codec) (a:c.denote),NL (c.enc a)=true
 | .unit,_=>rfl
 | .bool,_=>rfl
 | .int _ _,_=>rfl
 | .nat _ _,_=>rfl
 | .u8,_=>rfl
 | .bytes _ _,_=>rfl
 | .text _ _ _ _,_=>rfl
 | .list _ _ c,a=>Ks (fun x=>so c x) a
 | .pair c d,a=>by
  show (NL (c.enc a.1)&&(NL (d.enc a.2)&&true))=true;rw [so c a.1,so d a.2]<;>rfl
 | .triple c d e,a=>by
  show (NL (c.enc a.1)&&(NL (d.enc a.2.1)&&(NL (e.enc a.2.2)&&true)))=true;rw [so c a.1,so d a.2.1,so e a.2.2]<;>rfl
 | .option c,none=>rfl
 | .option c,some x=>so c x
theorem GY:∀ (cs:List Codec) (a:Codec.denoteAll cs),BX (Codec.encAll cs a)=true
 |[],_=>rfl
 |c::cs,a=>by
  show (NL (c.enc a.1)&&BX (Codec.encAll cs a.2))=true;rw [so c a.1,GY cs a.2]<;>rfl
theorem wG:∀ {xs:List WData} {d:WData},d∈xs->d.weight<=WData.weightAll xs
 |[],d,h=>absurd h (by simp)
 |x::r,d,h=>by
  show d.weight<=x.weight+1+WData.weightAll r;rcases List.mem_cons.mp h with e|m
  ·rw [e]
   lia
  ·have z:=wG m
   lia
def toV:Value->V
 | .none=>.cx
 | .bool b=>.bl b
 | .int i _=>.int i
 | .str x _=>.str x
 | .bytes b _=>.LK b
 | .ref a=>.ref a
 |_=>.cx
def OD (A:List Addr):Value->Prop
 | .none=>True
 | .bool _=>True
 | .int _ _=>True
 | .str _ _=>True
 | .bytes _ _=>True
 | .ref a=>a∈A
 |_=>False
theorem OD.mono {A B:List Addr} (h:∀ a∈A,a∈B):∀ {u:Value},OD A u->OD B u:=fun {u} x=>by
 cases u with
 |ref a=>exact h a x
 |none=>trivial
 |bool b=>trivial
 |int i t=>trivial
 |str s t=>trivial
 |bytes b t=>trivial
 |_=>exact False.elim x
theorem Qm {A:List Addr} {u:Value} (x:OD A u):RelV (toV u) u:=by
 cases u with
 |ref a=>rfl
 |none=>rfl
 |bool b=>rfl
 |int i t=>exact ⟨t,rfl⟩
 |str s t=>exact ⟨t,rfl⟩
 |bytes b t=>exact ⟨t,rfl⟩
 |_=>exact False.elim x
theorem oE {A:List Addr}:∀ {vs:List Value},(∀ u∈vs,OD A u)->Vals (vs.map toV) vs
 |[],_=>.nil
 |u::r,h=>.cons (Qm (h u (List.mem_cons_self ..))) (oE fun x hx=>h x (List.mem_cons_of_mem _ hx))
def qB (h:Heap) (A:List Addr) (a:Addr):Prop:=∃ vs:List Value,vs.length<=sizeLine/\(∀ u∈vs,OD A u)/\
 (h.get? a=some {cls:= .type "list",data:= .seq vs.toArray}∨h.get? a=some {cls:= .type "tuple",data:= .seq vs.toArray})
theorem qB.mono {h:Heap} {A B:List Addr} {a:Addr} (k:∀ a∈A,a∈B) (x:qB h A a):qB h B a:=by
 obtain ⟨vs,h1,h2,h3⟩:=x;exact ⟨vs,h1,fun u hu=>(h2 u hu).mono k,h3⟩
theorem mR {P:Params} {h:Heap}:∀ {vs:List Value} {ds:List WData},WellAll P h vs ds->vs.length=ds.length
 |_,_,.nil=>rfl
 |_,_,.cons _ b=>by
  show _+1=_+1;rw [mR b]
theorem GZ {P:Params} {h:Heap} {v:Value} {ds:List WData} (x:Well P h v (.list ds)):∃ (a:Addr) (vs:List Value),v=.ref a/\h.get? a=some {cls:= .type "list",data:= .seq vs.toArray}/\WellAll P h vs ds:=by
 cases x with
 |list ho jf=>exact ⟨_,_,rfl,ho,jf⟩
theorem Dg {P:Params} {h:Heap} {v:Value} {ds:List WData} (x:Well P h v (.tuple ds)):∃ (a:Addr) (vs:List Value),v=.ref a/\h.get? a=some {cls:= .type "tuple",data:= .seq vs.toArray}/\WellAll P h vs ds:=by
 cases x with
 |tuple ho jf=>exact ⟨_,_,rfl,ho,jf⟩
theorem G7 {P:Params} {h:Heap} {us:List Value} {d:WData} {ds:List WData} (x:WellAll P h us (d::ds)):∃ (v:Value) (vs:List Value),us=v::vs/\Well P h v d/\WellAll P h vs ds:=by
 cases x with
 |cons a b=>exact ⟨_,_,rfl,a,b⟩
theorem NM {n:Nat} (h:n<=1048576):n<=sizeLine:=Nat.le_trans h (by decide)
section
variable {P:Params} {h:Heap}
mutual
theorem Qn:∀ (d:WData) (v:Value),Well P h v d->NL d=true->d.weight<=1048576->∃ A:List Addr,OD A v/\∀ a∈A,qB h A a
 | .none,_,x,_,_=>by
  cases x;exact ⟨[],trivial,fun a m=>absurd m (by simp)⟩
 | .bool b,_,x,_,_=>by
  cases x;exact ⟨[],trivial,fun a m=>absurd m (by simp)⟩
 | .int i,_,x,_,_=>by
  cases x;exact ⟨[],trivial,fun a m=>absurd m (by simp)⟩
 | .str s,_,x,_,_=>by
  cases x;exact ⟨[],trivial,fun a m=>absurd m (by simp)⟩
 | .bytes b,_,x,_,_=>by
  cases x;exact ⟨[],trivial,fun a m=>absurd m (by simp)⟩
 | .list ds,_,x,p,z=>by
  obtain ⟨a,vs,rfl,ho,jf⟩:=GZ x;have z2:WData.weightAll ds<=1048576:=z;obtain ⟨A,h1,h2⟩:=xw ds _ jf p fun d hd=>Nat.le_trans (wG hd) z2
  have k:∀ b∈A,b∈a::A:=fun b hb=>List.mem_cons_of_mem _ hb
  refine ⟨a::A,List.mem_cons_self ..,fun b hb=>?_⟩;rcases List.mem_cons.mp hb with e|m
  ·rw [e];exact ⟨vs,NM (by rw [mR jf];exact Nat.le_trans (PySem.W.length_le_weightAllW ds) z2),fun u hu=>(h1 u hu).mono k,.inl ho⟩
  ·exact (h2 b m).mono k
 | .tuple ds,_,x,p,z=>by
  obtain ⟨a,vs,rfl,ho,jf⟩:=Dg x;have z2:WData.weightAll ds<=1048576:=z;obtain ⟨A,h1,h2⟩:=xw ds _ jf p fun d hd=>Nat.le_trans (wG hd) z2
  have k:∀ b∈A,b∈a::A:=fun b hb=>List.mem_cons_of_mem _ hb
  refine ⟨a::A,List.mem_cons_self ..,fun b hb=>?_⟩;rcases List.mem_cons.mp hb with e|m
  ·rw [e];exact ⟨vs,NM (by rw [mR jf];exact Nat.le_trans (PySem.W.length_le_weightAllW ds) z2),fun u hu=>(h1 u hu).mono k,.inr ho⟩
  ·exact (h2 b m).mono k
 | .float _,_,_,p,_=>Bool.noConfusion (show false=true from p)
 | .dict _,_,_,p,_=>Bool.noConfusion (show false=true from p)
 | .bytearray _,_,_,p,_=>Bool.noConfusion (show false=true from p)
 | .set _,_,_,p,_=>Bool.noConfusion (show false=true from p)
 | .frozenset _,_,_,p,_=>Bool.noConfusion (show false=true from p)
 | .obj _ _,_,_,p,_=>Bool.noConfusion (show false=true from p)
theorem xw:∀ (ds:List WData) (vs:List Value),WellAll P h vs ds->BX ds=true->(∀ d∈ds,d.weight<=1048576)->∃ A:List Addr,(∀ u∈vs,OD A u)/\∀ a∈A,qB h A a
 |[],_,x,_,_=>by
  cases x;exact ⟨[],fun u m=>absurd m (by simp),fun a m=>absurd m (by simp)⟩
 |d::ds,_,x,p,z=>by
  obtain ⟨v,vs,rfl,x1,x2⟩:=G7 x;have q:NL d=true/\BX ds=true:=Bool.and_eq_true_iff.mp p;obtain ⟨A,a1,a2⟩:=Qn d v x1 q.1 (z d (List.mem_cons_self ..));obtain ⟨B,b1,b2⟩:=xw ds vs x2 q.2 fun e he=>z e (List.mem_cons_of_mem _ he)
  have kA:∀ b∈A,b∈A++B:=fun b hb=>List.mem_append.mpr (.inl hb)
  have kB:∀ b∈B,b∈A++B:=fun b hb=>List.mem_append.mpr (.inr hb)
  refine ⟨A++B,fun u hu=>?_,fun b hb=>?_⟩
  ·rcases List.mem_cons.mp hu with e|m
   ·rw [e];exact a1.mono kA
   ·exact (b1 u m).mono kB
  ·rcases List.mem_append.mp hb with m|m
   ·exact (a2 b m).mono kA
   ·exact (b2 b m).mono kB
end
end
def Su (o:Obj):Option HO:=match o.data with
 | .seq vs _=>if (o.cls==Value.type "list")=true then some (.GK o (.lst (vs.toList.map toV))) else some (.GK o (.tup (vs.toList.map toV)))
 |_=>none
def oF (K:PySem.W.Frag) (h:Heap) (A:List Addr):Hp:=fun b=>if b∈A then (if (K.lookup b).isNone=true then (h.get? b).bind Su else none) else none
def Ud (H:Hp):Prop:=∀ b,H b=none∨∃ o u,H b=some (.GK o u)
theorem Kt (vs:List Value):Su {cls:= .type "list",data:= .seq vs.toArray}=some (.GK {cls:= .type "list",data:= .seq vs.toArray} (.lst (vs.map toV))):=by
 show (if (Value.type "list"==Value.type "list")=true then some (HO.GK {cls:= .type "list",data:= .seq vs.toArray} (.lst (vs.toArray.toList.map toV))) else some (HO.GK {cls:= .type "list",data:= .seq vs.toArray} (.tup (vs.toArray.toList.map toV))))=_;rw [if_pos (beq_self_eq_true _)]
theorem Ku (vs:List Value):Su {cls:= .type "tuple",data:= .seq vs.toArray}=some (.GK {cls:= .type "tuple",data:= .seq vs.toArray} (.tup (vs.map toV))):=by
 show (if (Value.type "tuple"==Value.type "list")=true then some (HO.GK {cls:= .type "tuple",data:= .seq vs.toArray} (.lst (vs.toArray.toList.map toV))) else some (HO.GK {cls:= .type "tuple",data:= .seq vs.toArray} (.tup (vs.toArray.toList.map toV))))=_;rw [if_neg (by decide)]
section
variable {P:Program} {w:World} {K:PySem.W.Frag} {h:Heap} {A:List Addr}
theorem CH {b:Addr} {o:Obj} (hb:b∈A) (hk:K.lookup b=none) (e:h.get? b=some o):oF K h A b=Su o:=by
 unfold oF;rw [if_pos hb,hk,if_pos (show (none:Option Obj).isNone=true from rfl),e]<;>rfl
theorem Sv {b:Addr} {u:HO} (q:oF K h A b=some u):b∈A/\K.lookup b=none:=by
 unfold oF at q;by_cases hb:b∈A
 ·rw [if_pos hb] at q;cases hk:K.lookup b with
  |none=>exact ⟨hb,rfl⟩
  |some o=>
   rw [hk,if_neg (by simp)] at q;cases q
 ·rw [if_neg hb] at q;cases q
theorem CI (ar:∀ a∈A,qB h A a) {b:Addr} {u:HO} (q:oF K h A b=some u):K.lookup b=none/\∃ vs:List Value,vs.length<=sizeLine/\(∀ u∈vs,OD A u)/\
  ((h.get? b=some {cls:= .type "list",data:= .seq vs.toArray}/\u=.GK {cls:= .type "list",data:= .seq vs.toArray} (.lst (vs.map toV)))∨
   (h.get? b=some {cls:= .type "tuple",data:= .seq vs.toArray}/\u=.GK {cls:= .type "tuple",data:= .seq vs.toArray} (.tup (vs.map toV)))):=by
 obtain ⟨hb,hk⟩:=Sv q;obtain ⟨vs,h1,h2,h3⟩:=ar b hb;refine ⟨hk,vs,h1,h2,?_⟩;rcases h3 with e|e
 ·rw [CH hb hk e,Kt] at q;exact .inl ⟨e,(Option.some.inj q).symm⟩
 ·rw [CH hb hk e,Ku] at q;exact .inr ⟨e,(Option.some.inj q).symm⟩
theorem OE (ar:∀ a∈A,qB h A a):Ud (oF K h A):=fun b=>by
 cases q:oF K h A b with
 |none=>exact .inl rfl
 |some u=>
  obtain ⟨_,vs,_,_,⟨_,e⟩|⟨_,e⟩⟩:=CI ar q
  ·exact .inr ⟨_,_,by rw [e]⟩
  ·exact .inr ⟨_,_,by rw [e]⟩
theorem Sw (ar:∀ a∈A,qB h A a):rY P w (oF K h A) h:=fun b u q=>by
 obtain ⟨_,vs,h1,h2,⟨e,rfl⟩|⟨e,rfl⟩⟩:=CI ar q
 ·exact ⟨e,by rw [List.length_map];exact h1,vs,_,oE h2,e⟩
 ·exact ⟨e,by rw [List.length_map];exact h1,vs,oE h2,_,e,rfl,_,rfl⟩
theorem CJ {c c':Value} {vs us:List Value} (e:(some {cls:=c,data:= .seq vs.toArray}:Option Obj)=some {cls:=c',data:= .seq us.toArray}):c=c'/\vs=us:=by
 have e1:=Option.some.inj e;have e2:c=c':=congrArg Obj.cls e1;have e3:Data.seq vs.toArray=Data.seq us.toArray:=congrArg Obj.data e1;injection e3 with e4
 refine ⟨e2,?_⟩;have e5:=congrArg Array.toList e4;simpa using e5
theorem aaD (KX:K.In h) (ar:∀ a∈A,qB h A a) {a:Addr} {vs:List Value} (ha:a∈A) (e:h.get? a=some {cls:= .type "list",data:= .seq vs.toArray}):(∀ u∈vs,OD A u)/\aH K (oF K h A) a (vs.map toV):=by
 obtain ⟨us,h1,h2,h3⟩:=ar a ha;have hu:us=vs:=by
  rcases h3 with q|q
  ·rw [e] at q;exact (CJ q).2.symm
  ·rw [e] at q;exact absurd (Value.type.inj (CJ q).1) (by decide)
 subst hu;refine ⟨h2,?_⟩;cases hk:K.lookup a with
 |none=>exact .inl (.inr ⟨_,by rw [CH ha hk e,Kt]⟩)
 |some o=>
  have e2:=KX a o hk;rw [e] at e2;obtain rfl:=Option.some.inj e2;exact .inr ⟨_,us.toArray,_,hk,rfl,rfl,rfl,by rw [List.size_toArray];exact h1,by simpa using oE h2⟩
theorem aaE (KX:K.In h) (ar:∀ a∈A,qB h A a) {a:Addr} {vs:List Value} (ha:a∈A) (e:h.get? a=some {cls:= .type "tuple",data:= .seq vs.toArray}):(∀ u∈vs,OD A u)/\pO K (oF K h A) a (vs.map toV):=by
 obtain ⟨us,h1,h2,h3⟩:=ar a ha;have hu:us=vs:=by
  rcases h3 with q|q
  ·rw [e] at q;exact absurd (Value.type.inj (CJ q).1) (by decide)
  ·rw [e] at q;exact (CJ q).2.symm
 subst hu;refine ⟨h2,?_⟩;cases hk:K.lookup a with
 |none=>exact .inl (.inr ⟨_,by rw [CH ha hk e,Ku]⟩)
 |some o=>
  have e2:=KX a o hk;rw [e] at e2;obtain rfl:=Option.some.inj e2;exact .inr ⟨_,us.toArray,_,hk,rfl,rfl,by rw [List.size_toArray];exact h1,by simpa using oE h2⟩
mutual
theorem Vw {Pm:Params} (KX:K.In h) (ar:∀ a∈A,qB h A a):∀ (d:WData) (v:Value),Well Pm h v d->NL d=true->OD A v->Dw K (oF K h A) (toV v) d
 | .none,_,x,_,_=>by
  cases x;exact .cx
 | .bool b,_,x,_,_=>by
  cases x;exact .bl b
 | .int i,_,x,_,_=>by
  cases x;exact .int i
 | .str s,_,x,_,_=>by
  cases x;exact .str s
 | .bytes b,_,x,_,_=>by
  cases x;have z:=Dw.LK (K:=K) (H:=oF K h A) b.toArray;exact z
 | .list ds,_,x,p,hu=>by
  obtain ⟨a,vs,rfl,ho,jf⟩:=GZ x;obtain ⟨h2,hs⟩:=aaD KX ar hu ho;exact .lst hs (Iy KX ar ds _ jf p h2)
 | .tuple ds,_,x,p,hu=>by
  obtain ⟨a,vs,rfl,ho,jf⟩:=Dg x;obtain ⟨h2,hs⟩:=aaE KX ar hu ho;exact .tup hs (Iy KX ar ds _ jf p h2)
 | .float _,_,_,p,_=>Bool.noConfusion (show false=true from p)
 | .dict _,_,_,p,_=>Bool.noConfusion (show false=true from p)
 | .bytearray _,_,_,p,_=>Bool.noConfusion (show false=true from p)
 | .set _,_,_,p,_=>Bool.noConfusion (show false=true from p)
 | .frozenset _,_,_,p,_=>Bool.noConfusion (show false=true from p)
 | .obj _ _,_,_,p,_=>Bool.noConfusion (show false=true from p)
theorem Iy {Pm:Params} (KX:K.In h) (ar:∀ a∈A,qB h A a):∀ (ds:List WData) (vs:List Value),WellAll Pm h vs ds->BX ds=true->(∀ u∈vs,OD A u)->qA K (oF K h A) (vs.map toV) ds
 |[],_,x,_,_=>by
  cases x;exact .nil
 |d::ds,_,x,p,hu=>by
  obtain ⟨v,vs,rfl,x1,x2⟩:=G7 x;have q:NL d=true/\BX ds=true:=Bool.and_eq_true_iff.mp p;exact .cons (Vw KX ar d v x1 q.1 (hu _ (List.mem_cons_self ..))) (Iy KX ar ds vs x2 q.2 fun u m=>hu u (List.mem_cons_of_mem _ m))
end
end
theorem Dh {ds:List WData} (h:WData.layableAll ds=true):∀ d∈ds,d.weight<=1048576:=fun d hd=>
 (PySem.W.layableW_iff.mp (List.all_eq_true.mp h d hd)).2.2
theorem Di:∀ (cs:List Codec) (a:Codec.denoteAll cs),(Codec.encAll cs a).length=cs.length
 |[],_=>rfl
 |c::cs,a=>by
  show (Codec.encAll cs a.2).length+1=cs.length+1;rw [Di cs a.2]
end L2
end
namespace Fb
open Vbapah
theorem CK (x:Nat):nextDraw x<PRIME:=Nat.mod_lt _ (by decide)
theorem Sx {x t a k p q:Nat} (e:x*a=p*t) (hk:a*k=1+p*q):x=p*(t*k-x*q):=by
 have e2:x*(a*k)=p*(t*k):=by rw [<-Nat.mul_assoc,e,Nat.mul_assoc]
 rw [hk,Nat.mul_add,Nat.mul_one,Nat.mul_left_comm x p q] at e2;rw [Nat.mul_sub]
 lia
theorem xx {x:Nat} (h1:1<=x) (h2:x<PRIME):1<=nextDraw x:=by
 apply Nat.pos_of_ne_zero;intro h;have e:x*FACTOR=PRIME*(x*FACTOR/PRIME):=by
  have:=Nat.div_add_mod (x*FACTOR) PRIME;have h':x*FACTOR%PRIME=0:=h
  lia
 have hx:=Sx (k:=1899818559) (q:=42704) e (by decide);generalize x*FACTOR/PRIME*1899818559-x*42704=w at hx;cases w with
 |zero=>lia
 |succ w=>rw [Nat.mul_succ] at hx;lia
def oG (m:Nat):Nat->Nat->Nat×Nat
 |0,y=>((y-1)%m,y)
 |f+1,y=>if y-1<(PRIME-1)/m*m then ((y-1)%m,y) else oG m f (nextDraw y)
theorem jQ (m:Nat):∀ f x,drawBelow m f x=oG m f (nextDraw x)
 |0,_=>rfl
 |f+1,x=>by
  unfold drawBelow oG;simp only [jQ m f]
theorem Mm {m f y:Nat} (h:y-1<(PRIME-1)/m*m∨f=0):oG m f y=((y-1)%m,y):=by
 cases f with
 |zero=>rfl
 |succ f=>
  unfold oG;rw [if_pos (h.resolve_right (by simp))]
theorem Qo {m f y:Nat} (h:¬ y-1<(PRIME-1)/m*m):oG m (f+1) y=oG m f (nextDraw y):=by
 rw [oG,if_neg h]
theorem Kv {m:Nat} (hm:0<m):∀ {f y:Nat},1<=y->y<PRIME->(oG m f y).1<m/\1<=(oG m f y).2/\(oG m f y).2<PRIME
 |0,y,h1,h2=>⟨Nat.mod_lt _ hm,h1,h2⟩
 |f+1,y,h1,h2=>by
  unfold oG;split
  ·exact ⟨Nat.mod_lt _ hm,h1,h2⟩
  ·exact Kv hm (xx h1 h2) (CK y)
theorem gH {m x:Nat} (hm:0<m) (h1:1<=x) (h2:x<PRIME):(draw m x).1<m/\1<=(draw m x).2/\(draw m x).2<PRIME:=by
 unfold draw;rw [jQ];exact Kv hm (xx h1 h2) (CK x)
section
variable {ones:List One}
theorem kY {i j:Nat}:better ones i j=true↔scoreAt ones j<scoreAt ones i∨(scoreAt ones i=scoreAt ones j/\i<j):=by
 unfold better;simp
theorem Fz (i:Nat):better ones i i=false:=by
 cases h:better ones i i with
 |false=>rfl
 |true=>rw [kY] at h;lia
theorem xy {i j:Nat} (h:i≠j):better ones i j=true∨better ones j i=true:=by
 rw [kY,kY]
 lia
theorem Iz {i j:Nat} (a:better ones i j=true):better ones j i=false:=by
 cases h:better ones j i with
 |false=>rfl
 |true=>rw [kY] at *;lia
theorem zz {i j k:Nat} (a:better ones j i=false) (b:better ones k j=false):better ones k i=false:=by
 cases h:better ones k i with
 |false=>rfl
 |true=>
  have a':¬ better ones j i=true:=by rw [a];simp
  have b':¬ better ones k j=true:=by rw [b];simp
  rw [kY] at *
  lia
end
theorem nM (b:Nat->Nat->Bool) (x:Nat):∀ l:List Nat,(insertBy b x l).Perm (x::l)
 |[]=>.refl _
 |y::r=>by
  unfold insertBy;split
  ·exact .refl _
  ·exact ((nM b x r).cons y).trans (.swap x y r)
theorem ia (b:Nat->Nat->Bool):∀ l:List Nat,(l.foldr (insertBy b) []).Perm l
 |[]=>.refl _
 |x::r=>(nM b x _).trans ((ia b r).cons x)
theorem cZ (ones:List One) (l:List Nat):(ordered ones l).Perm l:=ia _ l
theorem Dj (ones:List One) (l:List Nat):(ordered ones l).length=l.length:=(cZ ones l).length_eq
theorem qC {b:Nat->Nat->Bool} (WK:∀ i j,b i j=true->b j i=false) (tr:∀ i j k,b j i=false->b k j=false->b k i=false) (x:Nat):
  ∀ {l:List Nat},l.Pairwise (fun i j=>b j i=false)->(insertBy b x l).Pairwise (fun i j=>b j i=false)
 |[],_=>by
  unfold insertBy;simp
 |y::r,h=>by
  obtain ⟨h1,h2⟩:=List.pairwise_cons.mp h;unfold insertBy;split
  ·rename_i hb;refine List.pairwise_cons.mpr ⟨fun z hz=>?_,h⟩;rcases List.mem_cons.mp hz with rfl|hz
   ·exact WK _ _ hb
   ·exact tr x y z (WK _ _ hb) (h1 z hz)
  ·rename_i hb;refine List.pairwise_cons.mpr ⟨fun z hz=>?_,qC WK tr x h2⟩;rcases List.mem_cons.mp ((nM b x r).mem_iff.mp hz) with rfl|hz
   ·simpa using hb
   ·exact h1 z hz
theorem fX {b:Nat->Nat->Bool} (WK:∀ i j,b i j=true->b j i=false) (tr:∀ i j k,b j i=false->b k j=false->b k i=false):
  ∀ l:List Nat,(l.foldr (insertBy b) []).Pairwise (fun i j=>b j i=false)
 |[]=>.nil
 |x::r=>qC WK tr x (fX WK tr r)
theorem ib (ones:List One) (l:List Nat):(ordered ones l).Pairwise (fun i j=>better ones j i=false):=
 fX (b:=better ones) (fun _ _=>Iz) (fun _ _ _=>zz) l
theorem nO {b:Nat->Nat->Bool} (tot:∀ i j,i≠j->b i j=true∨b j i=true):∀ {l k:List Nat},l.Perm k->l.Pairwise (fun i j=>b j i=false)->k.Pairwise (fun i j=>b j i=false)->l=k
 |[],k,p,_,_=>(List.nil_perm.mp p).symm
 |x::r,[],p,_,_=>by simpa using p.length_eq
 |x::r,y::t,p,hl,hk=>by
  obtain ⟨h1,h2⟩:=List.pairwise_cons.mp hl;obtain ⟨k1,k2⟩:=List.pairwise_cons.mp hk;have e:x=y:=by
   apply Classical.byContradiction;intro ne;have hx:x∈t:=by
    have:=p.mem_iff.mp (List.mem_cons_self (a:=x) (l:=r));exact (List.mem_cons.mp this).resolve_left ne
   have hy:y∈r:=by
    have:=p.mem_iff.mpr (List.mem_cons_self (a:=y) (l:=t));exact (List.mem_cons.mp this).resolve_left fun e=>ne e.symm
   have a:=h1 y hy;have c:=k1 x hx;rcases tot x y ne with q|q
   ·rw [q] at c;cases c
   ·rw [q] at a;cases a
  subst e;rw [nO tot ((List.perm_cons x).mp p) h2 k2]
theorem kZ {ones:List One} {l out:List Nat} (p:out.Perm l) (h:out.Pairwise (fun i j=>better ones j i=false)):out=ordered ones l:=
 nO (b:=better ones) (fun _ _=>xy) (p.trans (cZ ones l).symm) h (ib ones l)
theorem IA {ones:List One} {l:List Nat} (h:l.Pairwise (fun i j=>better ones j i=false)):ordered ones l=l:=(kZ (.refl l) h).symm
theorem IB {ones:List One} {l:List Nat} {m:Nat} (hm:m∈l) (h:∀ z∈l,better ones z m=false):(ordered ones l).headD 0=m:=by
 have p:=cZ ones l;have s:=ib ones l;generalize ordered ones l=k at p s;cases k with
 |nil=>simpa using p.mem_iff.mpr hm
 |cons a r=>
  show a=m;apply Classical.byContradiction;intro ne;have ha:a∈l:=p.mem_iff.mp List.mem_cons_self;have hr:m∈r:=(List.mem_cons.mp (p.mem_iff.mpr hm)).resolve_left fun e=>ne e.symm
  have q:=(List.pairwise_cons.mp s).1 m hr;rcases xy (ones:=ones) ne with z|z
  ·rw [h a ha] at z;cases z
  ·rw [q] at z;cases z
theorem OF {ones:List One} {row:List Nat} (h:row.Pairwise (fun i j=>better ones j i=false)) {p q a b:Nat} (hp:row[p]? =some a) (hq:row[q]? =some b) (le:p<=q):better ones b a=false:=by
 obtain ⟨lp,rfl⟩:=List.getElem?_eq_some_iff.mp hp;obtain ⟨lq,rfl⟩:=List.getElem?_eq_some_iff.mp hq;rcases Nat.lt_or_eq_of_le le with lt|e
 ·exact List.pairwise_iff_getElem.mp h p q lp lq lt
 ·subst e;exact Fz _
theorem Mn {ones:List One} {row ps:List Nat} (h:row.Pairwise (fun i j=>better ones j i=false)) (hb:∀ p∈ps,p<row.length) {m:Nat} (hm:m∈ps) (Vx:∀ p∈ps,m<=p):
  (ordered ones (ps.map fun i=>row.getD i 0)).headD 0=row.getD m 0:=by
 refine IB (List.mem_map.mpr ⟨m,hm,rfl⟩) fun z hz=>?_
 obtain ⟨p,hp,rfl⟩:=List.mem_map.mp hz;have e1:row[m]? =some (row.getD m 0):=by
  have:=hb m hm;simp [List.getD,this]
 have e2:row[p]? =some (row.getD p 0):=by
  have:=hb p hp;simp [List.getD,this]
 exact OF h e1 e2 (Vx p hp)
theorem sr {ones more:List One} {i:Nat} (h:i<ones.length):scoreAt (ones++more) i=scoreAt ones i:=by
 unfold scoreAt;rw [List.getElem?_append_left h]
theorem oH {ones more:List One} {i:Nat} (h:i<ones.length):programAt (ones++more) i=programAt ones i:=by
 unfold programAt;rw [List.getElem?_append_left h]
theorem FA {ones more:List One} {i j:Nat} (hi:i<ones.length) (hj:j<ones.length):better (ones++more) i j=better ones i j:=by
 unfold better;rw [sr hi,sr hj]
theorem va {ones more:List One} {l:List Nat} (hl:∀ i∈l,i<ones.length) (h:l.Pairwise (fun i j=>better ones j i=false)):l.Pairwise (fun i j=>better (ones++more) j i=false):=
 h.imp_of_mem fun {a b} ha hb e=>by rw [FA (hl b hb) (hl a ha)];exact e
theorem Vy:∀ i j:Nat,decide (i<j)=true->decide (j<i)=false:=by
 intro i j h;simp at *
 lia
theorem XI:∀ i j k:Nat,decide (j<i)=false->decide (k<j)=false->decide (k<i)=false:=by
 intro i j k;simp
 lia
theorem Vz:∀ i j:Nat,i≠j->decide (i<j)=true∨decide (j<i)=true:=by
 intro i j;simp
 lia
theorem c5 (l:List Nat):(rising l).Perm l:=ia _ l
theorem jx (l:List Nat):(rising l).Pairwise (fun i j=>decide (j<i)=false):=fX (b:=fun a b=>decide (a<b)) Vy XI l
theorem vb {l out:List Nat} (p:out.Perm l) (h:out.Pairwise (fun i j=>decide (j<i)=false)):out=rising l:=
 nO (b:=fun a b=>decide (a<b)) Vz (p.trans (c5 l).symm) h (jx l)
theorem su:∀ {l k:List Nat},l.Nodup->k.Nodup->(∀ x,x∈l↔x∈k)->l.Perm k
 |[],k,_,_,h=>by
  cases k with
  |nil=>exact .refl _
  |cons a r=>exact absurd ((h a).mpr List.mem_cons_self) (by simp)
 |a::r,k,hl,hk,h=>by
  obtain ⟨h1,h2⟩:=List.nodup_cons.mp hl;have ha:a∈k:=(h a).mp List.mem_cons_self;refine List.Perm.trans ?_ (List.perm_cons_erase ha).symm;refine .cons a (su h2 (hk.erase a) fun x=>?_);rw [hk.mem_erase_iff, <-h x];constructor
  ·intro hx;exact ⟨fun e=>h1 (e▸hx),List.mem_cons_of_mem _ hx⟩
  ·rintro ⟨ne,hx⟩;exact (List.mem_cons.mp hx).resolve_left ne
theorem xA {l k:List Nat} (p:l.Perm k):rising l=rising k:=vb ((c5 l).trans p) (jx l)
theorem FC (p:Nat->Bool) (l:List Nat):(rising l).filter p=rising (l.filter p):=
 vb ((c5 l).filter p) ((jx l).sublist List.filter_sublist)
theorem sv:∀ {l k:List Int},l.Perm k->l.Pairwise (· <= ·)->k.Pairwise (· <= ·)->l=k
 |[],k,p,_,_=>(List.nil_perm.mp p).symm
 |x::r,[],p,_,_=>by simpa using p.length_eq
 |x::r,y::t,p,hl,hk=>by
  obtain ⟨h1,h2⟩:=List.pairwise_cons.mp hl;obtain ⟨k1,k2⟩:=List.pairwise_cons.mp hk;have e:x=y:=by
   have a:x<=y:=by
    rcases List.mem_cons.mp (p.mem_iff.mpr (List.mem_cons_self (a:=y) (l:=t))) with e|e
    ·lia
    ·exact h1 y e
   have b:y<=x:=by
    rcases List.mem_cons.mp (p.mem_iff.mp (List.mem_cons_self (a:=x) (l:=r))) with e|e
    ·lia
    ·exact k1 x e
   lia
  subst e;rw [sv ((List.perm_cons x).mp p) h2 k2]
theorem sx {out:List Int} {ks:List Nat} (p:out.Perm (ks.map fun (n:Nat)=>(n:Int))) (h:out.Pairwise (· <= ·)):out=(rising ks).map fun (n:Nat)=>(n:Int):=by
 refine sv (p.trans ((c5 ks).map _).symm) h ?_;rw [List.pairwise_map];refine (jx ks).imp fun {a b} e=>?_
 simp at e
 lia
def bY (ones:List One) (i:Nat):List Nat:=match (ones[i]?).bind fun o=>o.parents with
 |none=>[]
 |some (p,q)=>[p,q]
def jD (ones:List One):Prop:=∀ i p,p∈bY ones i->p<i
inductive Kw (ones:List One) (i:Nat):Nat->Prop
 |par {p:Nat}:p∈bY ones i->Kw ones i p
 |up {j p:Nat}:Kw ones i j->p∈bY ones j->Kw ones i p
theorem Kw.lt {ones:List One} (E:jD ones) {i j:Nat} (h:Kw ones i j):j<i:=by
 induction h with
 |par h=>exact E _ _ h
 |up _ h ih=>exact Nat.lt_trans (E _ _ h) ih
theorem pQ:∀ (n:Nat) (l:List Nat),l.Nodup->(∀ x∈l,x<n)->l.length<=n
 |0,l,_,h=>by
  cases l with
  |nil=>exact Nat.le_refl _
  |cons a r=>exact absurd (h a List.mem_cons_self) (Nat.not_lt_zero _)
 |n+1,l,hn,h=>by
  by_cases hm:n∈l
  ·have e:=List.length_erase_of_mem hm;have q:=pQ n (l.erase n) (hn.erase n) fun x hx=>by
    obtain ⟨ne,hx⟩:=hn.mem_erase_iff.mp hx;have:=h x hx
    lia
   lia
  ·have q:=pQ n l hn fun x hx=>by
    have:=h x hx;have:x≠n:=fun e=>hm (e▸hx)
    lia
   lia
theorem vc (p q:Nat):[p,q].eraseDups=if p=q then [p] else [p,q]:=by
 by_cases h:p=q
 ·subst h;simp [List.eraseDups_cons]
 ·rw [if_neg h];have h':¬ q=p:=fun e=>h e.symm
  simp [List.eraseDups_cons,h']
theorem OG {ones:List One} {f a:Nat} {got r:List Nat} (h:((ones[a]?).bind fun o=>o.parents)=none):forebears ones (f+1) got (a::r)=forebears ones f got r:=by
 simp only [forebears,h]
theorem OH {ones:List One} {f a p q:Nat} {got r:List Nat} (h:((ones[a]?).bind fun o=>o.parents)=some (p,q)):
  forebears ones (f+1) got (a::r)=forebears ones f (got++([p,q].eraseDups).filter fun z=> !got.contains z) (r++([p,q].eraseDups).filter fun z=> !got.contains z):=by
 simp only [forebears,h]
structure Bfs (ones:List One) (i:Nat) (got todo:List Nat):Prop where
 nd:got.Nodup
 snd:∀ j∈got,Kw ones i j
 sub:∀ j∈todo,j=i∨j∈got
 Zw:∀ d,d=i∨d∈got->d∉todo->∀ p∈bY ones d,p∈got
theorem zA {ones:List One} (E:jD ones) {i:Nat}:∀ (f:Nat) (got todo:List Nat),Bfs ones i got todo->todo.length+(i-got.length)<=f->
  (forebears ones f got todo).Nodup/\∀ j,j∈forebears ones f got todo↔Kw ones i j
 |f,got,[],B,hf=>by
  have e:forebears ones f got []=got:=by cases f<;>rfl
  rw [e];refine ⟨B.nd,fun j=>⟨B.snd j,fun h=>?_⟩⟩
  induction h with
  |par h=>exact B.Zw i (.inl rfl) (by simp) _ h
  |up _ h ih=>exact B.Zw _ (.inr ih) (by simp) _ h
 |0,got,a::r,B,hf=>by simp at hf
 |f+1,got,a::r,B,hf=>by
  have hlen:got.length<=i:=pQ i got B.nd fun x hx=>(B.snd x hx).lt E
  have XJ:∀ p∈bY ones a,Kw ones i p:=fun p hp=>by
   rcases B.sub a List.mem_cons_self with e|e
   ·subst e;exact .par hp
   ·exact .up (B.snd a e) hp
  cases Sy:(ones[a]?).bind fun o=>o.parents with
  |none=>
   have e0:bY ones a=[]:=by unfold bY;rw [Sy]
   rw [OG Sy];refine zA E f got r ⟨B.nd,B.snd,fun j hj=>B.sub j (List.mem_cons_of_mem _ hj),fun d hd Pr p hp=>?_⟩ (by simp at hf;lia);by_cases ed:d=a
   ·subst ed;rw [e0] at hp;cases hp
   ·exact B.Zw d hd (by simp [ed,Pr]) p hp
  |some pq=>
   obtain ⟨p,q⟩:=pq;have e0:bY ones a=[p,q]:=by unfold bY;rw [Sy]
   rw [OH Sy];generalize Mf:(([p,q].eraseDups).filter fun z=> !got.contains z)=new;have VA:∀ z,z∈new↔(z=p∨z=q)/\z∉got:=fun z=>by
    rw [<-Mf,List.mem_filter,vc];by_cases XM:p=q
    ·subst XM;simp
    ·simp [XM]
   have ndn:new.Nodup:=by
    rw [<-Mf];refine List.Nodup.sublist List.filter_sublist ?_;rw [vc];by_cases XM:p=q
    ·simp [XM]
    ·simp [XM]
   have ndg:(got++new).Nodup:=List.nodup_append.mpr ⟨B.nd,ndn,fun x hx y hy e=>((VA y).mp hy).2 (e▸hx)⟩;have XN:∀ j∈got++new,Kw ones i j:=fun j hj=>by
    rcases List.mem_append.mp hj with h|h
    ·exact B.snd j h
    ·exact XJ j (by rw [e0];rcases ((VA j).mp h).1 with e|e<;>simp [e])
   have vd:(got++new).length<=i:=pQ i _ ndg fun x hx=>(XN x hx).lt E
   refine zA E f (got++new) (r++new) ⟨ndg,XN,fun j hj=>?_,fun d hd Pr z hz=>?_⟩ ?_
   ·rcases List.mem_append.mp hj with h|h
    ·rcases B.sub j (List.mem_cons_of_mem _ h) with e|e
     ·exact .inl e
     ·exact .inr (List.mem_append_left _ e)
    ·exact .inr (List.mem_append_right _ h)
   ·by_cases ed:d=a
    ·subst ed;rw [e0] at hz;by_cases hg:z∈got
     ·exact List.mem_append_left _ hg
     ·exact List.mem_append_right _ ((VA z).mpr ⟨by simpa using hz,hg⟩)
    ·have W6:d=i∨d∈got:=by
      rcases hd with e|e
      ·exact .inl e
      ·rcases List.mem_append.mp e with e|e
       ·exact .inr e
       ·exact absurd (List.mem_append_right r e) Pr
     exact List.mem_append_left _ (B.Zw d W6 (by
      intro hm;rcases List.mem_cons.mp hm with e|e
      ·exact ed e
      ·exact Pr (List.mem_append_left _ e)) z hz)
   ·simp only [List.length_append,List.length_cons] at *
    lia
theorem k0 {ones:List One} (E:jD ones) {i:Nat} (hi:i<ones.length):(forebears ones (ones.length+1) [] [i]).Nodup/\∀ j,j∈forebears ones (ones.length+1) [] [i]↔Kw ones i j:=by
 refine zA E _ [] [i] ⟨List.nodup_nil,(fun j h=>by cases h),fun j h=>.inl (by simpa using h),fun d hd hn=>?_⟩ (by simp;lia);rcases hd with e|e
 ·exact absurd (by simp [e]) hn
 ·cases e
theorem gd {ones:List One} (E:jD ones) {i:Nat} (hi:i<ones.length) {j:Nat}:j∈ancestors ones i↔Kw ones i j:=by
 unfold ancestors;rw [(c5 _).mem_iff];exact (k0 E hi).2 j
theorem jR {ones:List One} (E:jD ones) {i:Nat} (hi:i<ones.length):(ancestors ones i).Nodup:=
 (c5 _).nodup_iff.mpr (k0 E hi).1
theorem Sz {ones:List One} (E:jD ones) {i:Nat} (hi:i<ones.length) {ks:List Nat} (nd:ks.Nodup) (hk:∀ j,j∈ks↔j=i∨Kw ones i j):(rising ks).filter (fun j=> !decide (j=i))=ancestors ones i:=by
 have ha:=k0 E hi;rw [FC];refine xA (su (nd.sublist List.filter_sublist) ha.1 fun x=>?_);rw [List.mem_filter,hk,ha.2];constructor
 ·rintro ⟨h1,h2⟩;exact h1.resolve_left (by simpa using h2)
 ·intro h;exact ⟨.inr h,by have:=h.lt E;simp;lia⟩
theorem OI {ones:List One} (E:jD ones) {i j:Nat} (hi:i<ones.length) (hj:j<ones.length) {ks:List Nat} {f:Nat->Bool} (nd:ks.Nodup) (hk:∀ z,z∈ks↔z=i∨Kw ones i z) (hf:∀ z,f z=true↔z=j∨Kw ones j z):
  (rising ks).filter f=(rising (i::ancestors ones i)).filter fun k=>(j::ancestors ones j).contains k:=by
 have nd2:(i::ancestors ones i).Nodup:=List.nodup_cons.mpr ⟨fun h=>by have:=((gd E hi).mp h).lt E;lia,jR E hi⟩;have p:ks.Perm (i::ancestors ones i):=su nd nd2 fun x=>by rw [hk,List.mem_cons,gd E hi]
 rw [xA p];refine List.filter_congr fun z _=>?_
 rw [Bool.eq_iff_iff,hf];simp [gd E hj]
def cw (n:Nat) (cells:List Cell) (c x y:Cell) (i j:Nat):List Cell:=
 if c.op=1 then cells.set j x
 else if c.op=2 then cells.set j {y with b:=(y.b+x.b)%n}
 else if c.op=6 then cells.set i {x with b:=c.b}
 else if c.op=7 then (cells.set i y).set j x
 else cells
def lg (op G9 i bn:Nat):List Nat:=
 if op=0 then [] else if op=3 then [i] else if op=4/\bn≠0 then [i] else if op=5 then [G9,i] else [G9]
theorem lh (n:Nat) (cells:List Cell) (c x y:Cell) (i j:Nat):(cw n cells c x y i j).length=cells.length:=by
 unfold cw;split
 ·simp
 ·split
  ·simp
  ·split
   ·simp
   ·split
    ·simp
    ·rfl
structure VB (m:Machine):Prop where
 two:∃ r0 r1,m.rows=[r0,r1]
 turn:m.turn=0∨m.turn=1
 pos:0<m.cells.length
 hands:∀ r∈m.rows,∀ p∈r,p<m.cells.length
 ops:∀ c∈m.cells,c.op<8
theorem Qp {a n:Nat} (h:a<n):a%n=a:=Nat.mod_eq_of_lt h
theorem eX {m:Machine} {i:Nat} {c:Cell} (h:i<m.cells.length):setCell m i c={m with cells:=m.cells.set i c}:=by
 unfold setCell size;rw [Qp h]
theorem zB {m:Machine} (ok:VB m) (he:ended m=false) {p:Nat} {r:List Nat} (hr:rowAt m m.turn=p::r):
  turnOf m=⟨m.cap,cw m.cells.length m.cells (m.cells.getD p blank) (m.cells.getD ((p+(m.cells.getD p blank).a)%m.cells.length) blank) (m.cells.getD ((p+(m.cells.getD p blank).b)%m.cells.length) blank) ((p+(m.cells.getD p blank).a)%m.cells.length) ((p+(m.cells.getD p blank).b)%m.cells.length),
   m.rows.set m.turn (r++(lg (m.cells.getD p blank).op ((p+1)%m.cells.length) ((p+(m.cells.getD p blank).a)%m.cells.length) (m.cells.getD ((p+(m.cells.getD p blank).b)%m.cells.length) blank).b).take (m.cap-r.length)),
   1-m.turn,m.left-1⟩:=by
 have hp:p<m.cells.length:=by
  obtain ⟨r0,r1,e⟩:=ok.two;have hm:rowAt m m.turn∈m.rows:=by
   unfold rowAt;rw [e];rcases ok.turn with t|t<;>rw [t]<;>simp
  exact ok.hands _ hm p (by rw [hr];simp)
 have hop:(m.cells.getD p blank).op<8:=by
  have:m.cells.getD p blank∈m.cells:=by
   rw [List.getD_eq_getElem?_getD,List.getElem?_eq_getElem hp];simp
  exact ok.ops _ this
 unfold turnOf;rw [if_neg (by rw [he];simp),hr];dsimp only;unfold effect;simp only [cellAt,size,Qp hp,Nat.mod_mod];generalize m.cells.getD p blank=c at hop ⊢;have hi:(p+c.a)%m.cells.length<m.cells.length:=Nat.mod_lt _ ok.pos;have hj:(p+c.b)%m.cells.length<m.cells.length:=Nat.mod_lt _ ok.pos;generalize (p+c.a)%m.cells.length=i at hi ⊢;generalize (p+c.b)%m.cells.length=j at hj ⊢;unfold cw lg;have h8:c.op=0∨c.op=1∨c.op=2∨c.op=3∨c.op=4∨c.op=5∨c.op=6∨c.op=7:=by lia
 rcases h8 with h|h|h|h|h|h|h|h
 ·simp [h]
 ·simp [h,eX hj]
 ·simp [h,eX hj]
 ·simp [h]
 ·by_cases hb:(m.cells.getD j blank).b=0
  ·simp only [List.getD_eq_getElem?_getD] at hb;simp [h,hb]
  ·simp only [List.getD_eq_getElem?_getD] at hb;simp [h,hb]
 ·simp [h]
 ·simp [h,eX hi]
 ·have hj':j<({m with cells:=m.cells.set i (m.cells[j]?.getD blank)}:Machine).cells.length:=by simpa using hj
  simp [h,eX hi,eX hj']
theorem mem_set {α:Type} {l:List α} {i:Nat} {a x:α} (h:x∈l.set i a):x∈l∨x=a:=List.mem_or_eq_of_mem_set h
theorem NN {l:List Cell} (h:∀ c∈l,c.op<8) (i:Nat):(l.getD i blank).op<8:=by
 rw [List.getD_eq_getElem?_getD];cases e:l[i]? with
 |none=>show 0<8;decide
 |some c=>exact h c (List.mem_of_getElem? e)
theorem Ky {n:Nat} {cells:List Cell} {c x y:Cell} {i j:Nat} (h:∀ c∈cells,c.op<8) (hx:x.op<8) (hy:y.op<8):∀ d∈cw n cells c x y i j,d.op<8:=by
 intro d hd;unfold cw at hd;split at hd
 ·rcases mem_set hd with e|e
  ·exact h d e
  ·rw [e];exact hx
 ·split at hd
  ·rcases mem_set hd with e|e
   ·exact h d e
   ·rw [e];exact hy
  ·split at hd
   ·rcases mem_set hd with e|e
    ·exact h d e
    ·rw [e];exact hx
   ·split at hd
    ·rcases mem_set hd with e|e
     ·rcases mem_set e with e|e
      ·exact h d e
      ·rw [e];exact hy
     ·rw [e];exact hx
    ·exact h d hd
theorem Kz {op f i bn n:Nat} (hf:f<n) (hi:i<n):∀ p∈lg op f i bn,p<n:=by
 intro p hp;unfold lg at hp
 repeat' split at hp
 all_goals simp at hp
 all_goals (first|(subst hp;assumption)|(rcases hp with rfl|rfl<;>assumption))
theorem VB.next {m:Machine} (ok:VB m):VB (turnOf m):=by
 by_cases he:ended m=true
 ·unfold turnOf;rw [if_pos he];exact ok
 ·have he:ended m=false:=by simpa using he
  cases hr:rowAt m m.turn with
  |nil=>unfold turnOf;rw [if_neg (by rw [he];simp),hr];exact ok
  |cons p r=>
   rw [zB ok he hr];obtain ⟨r0,r1,e⟩:=ok.two;have hm:rowAt m m.turn∈m.rows:=by
    unfold rowAt;rw [e];rcases ok.turn with t|t<;>rw [t]<;>simp
   refine ⟨?_,?_,?_,?_,?_⟩
   ·show ∃ r0 r1,m.rows.set m.turn _=[r0,r1];rw [e];rcases ok.turn with t|t<;>rw [t]<;>simp
   ·show 1-m.turn=0∨1-m.turn=1;rcases ok.turn with t|t<;>rw [t]<;>simp
   ·show 0<(cw _ _ _ _ _ _ _).length;rw [lh];exact ok.pos
   ·intro q hq z hz;show z<(cw _ _ _ _ _ _ _).length;rw [lh];rcases mem_set hq with h|h
    ·exact ok.hands q h z hz
    ·rw [h] at hz;rcases List.mem_append.mp hz with h|h
     ·exact ok.hands _ hm z (by rw [hr];exact List.mem_cons_of_mem _ h)
     ·exact Kz (Nat.mod_lt _ ok.pos) (Nat.mod_lt _ ok.pos) z (List.mem_of_mem_take h)
   ·exact Ky ok.ops (NN ok.ops _) (NN ok.ops _)
theorem Mo {k:Nat} {m:Machine} (h:ended m=false):turns (k+1) m=turns k (turnOf m):=by
 rw [turns,if_neg (by rw [h];simp)]
theorem OJ {m:Machine} (h:ended m=true):∀ k,turns k m=m
 |0=>rfl
 |k+1=>by rw [turns,if_pos h]
theorem Mp {m:Machine} (h:ended m=false):turns m.left m=turns (m.left-1) (turnOf m):=by
 cases e:m.left with
 |zero=>unfold ended at h;rw [e] at h;simp at h
 |succ k=>exact Mo h
theorem AM {m:Machine} (ok:VB m) (h:ended m=false):(turnOf m).left=m.left-1:=by
 cases hr:rowAt m m.turn with
 |nil=>
  exfalso;unfold ended lives at h;simp at h;rcases ok.turn with t|t<;>rw [t] at hr<;>simp [hr] at h
 |cons p r=>rw [zB ok h hr]
theorem IC:∀ (x:Program) (m:Machine) (p:Nat),p+x.length<=m.cells.length->laid m p x={m with cells:=m.cells.take p++x++m.cells.drop (p+x.length)}
 |[],m,p,h=>by
  unfold laid;simp
 |c::r,m,p,h=>by
  unfold laid;have h':p+(r.length+1)<=m.cells.length:=h;have hp:p<m.cells.length:=by lia
  rw [eX hp];have h2:p+1+r.length<=({m with cells:=m.cells.set p c}:Machine).cells.length:=by simp;lia
  rw [IC r _ (p+1) h2];simp only;have e:(m.cells.set p c).take (p+1)=m.cells.take p++[c]:=by
   rw [List.set_eq_take_append_cons_drop,if_pos hp];rw [List.take_append];simp [List.length_take,Nat.min_eq_left (Nat.le_of_lt hp),List.take_of_length_le,Nat.le_succ]
  have e2:(m.cells.set p c).drop (p+1+r.length)=m.cells.drop (p+(c::r).length):=by
   rw [List.drop_set_of_lt (by lia)]
   congr 1
   simp;lia
  rw [e,e2];simp
theorem jE {w:World} {x y:Program} {s f:Nat} (hx:x.length<=s) (hy:s+y.length<=w.n):
  setUp w x y s f=⟨w.hands,x++List.replicate (s-x.length) blank++y++List.replicate (w.n-s-y.length) blank,[[0],[s]],f,2*w.rounds⟩:=by
 unfold setUp;rw [IC x _ 0 (by simp;lia)];rw [IC y _ s (by simp;lia)];simp only [List.take_zero,List.nil_append,Nat.zero_add,List.drop_replicate]
 congr 1
 have e1:(x++List.replicate (w.n-x.length) blank).take s=x++List.replicate (s-x.length) blank:=by
  rw [List.take_append,List.take_of_length_le hx,List.take_replicate,Nat.min_eq_left (by lia)]
 have e2:(x++List.replicate (w.n-x.length) blank).drop (s+y.length)=List.replicate (w.n-s-y.length) blank:=by
  rw [List.drop_append,List.drop_of_length_le (by lia),List.nil_append,List.drop_replicate]
  congr 1
  lia
 rw [e1,e2]
structure rT (w:World) (x:Program):Prop where
 pos:1<=x.length
 len:x.length<=w.longest
 cell:∀ c∈x,c.op<8/\c.a<w.n/\c.b<w.n
theorem NO {w:World} {x:Program}:programOk w x=true↔rT w x:=by
 unfold programOk cellOk;rw [Bool.and_eq_true,decide_eq_true_eq,List.all_eq_true];constructor
 ·rintro ⟨⟨a,b⟩,c⟩;exact ⟨a,b,fun z hz=>by simpa using c z hz⟩
 ·rintro ⟨a,b,c⟩;exact ⟨⟨a,b⟩,fun z hz=>by simpa using c z hz⟩
def Dk (w:World) (kind:Nat) (nums:List Nat) (x y:Program):Program:=
 if kind=1 then x.take (nums.getD 0 0%x.length)++[putNumber w.n (nums.getD 1 0%3) (nums.getD 2 0) (x.getD (nums.getD 0 0%x.length) blank)]++x.drop (nums.getD 0 0%x.length+1)
 else if kind=2 then x.take (nums.getD 0 0%(x.length+1))++[drawnCell w.n (nums.getD 1 0) (nums.getD 2 0) (nums.getD 3 0)]++x.drop (nums.getD 0 0%(x.length+1))
 else if kind=3 then (if x.length=1 then x else x.take (nums.getD 0 0%x.length)++x.drop (nums.getD 0 0%x.length+1))
 else if kind=4 then x.take (nums.getD 0 0%x.length+1+nums.getD 1 0%(x.length-nums.getD 0 0%x.length))++x.drop (nums.getD 0 0%x.length)
 else x.take (1+nums.getD 0 0%x.length)++y.drop (nums.getD 1 0%y.length)
theorem modify_eq {α:Type} {f:α->α} {d:α}:∀ {l:List α} {i:Nat},i<l.length->l.modify i f=l.take i++[f (l.getD i d)]++l.drop (i+1)
 |a::r,0,_=>by simp
 |a::r,i+1,h=>by
  have ih:=modify_eq (f:=f) (d:=d) (l:=r) (i:=i) (by simpa using h);simp only [List.modify_succ_cons,ih];simp
theorem NP {w:World} {kind:Nat} {nums:List Nat} {x y:Program} (hk:1<=kind/\kind<=5) (hx:rT w x):(Dk w kind nums x y).take w.longest=made w ⟨kind,nums⟩ x y:=by
 have hp:0<x.length:=hx.pos;have hl:x.length<=w.longest:=hx.len;have h5:kind=1∨kind=2∨kind=3∨kind=4∨kind=5:=by lia
 unfold Dk made num;rcases h5 with h|h|h|h|h<;>subst h
 ·rw [if_pos rfl];simp only [if_true];have hi:nums.getD 0 0%x.length<x.length:=Nat.mod_lt _ hp;rw [<-modify_eq hi,List.take_of_length_le (by rw [List.length_modify];exact hl)]
 ·simp only [show ¬ (2=1) by decide,if_false,if_true];rw [List.append_assoc];rfl
 ·simp only [show ¬ (3=1) by decide,show ¬ (3=2) by decide,if_false,if_true];by_cases h1:x.length=1
  ·rw [if_pos h1,if_pos (by lia),List.take_of_length_le hl]
  ·rw [if_neg h1,if_neg (by lia), <-List.eraseIdx_eq_take_drop_succ,List.take_of_length_le];have:=List.length_eraseIdx_le x (nums.getD 0 0%x.length)
   lia
 ·simp only [show ¬ (4=1) by decide,show ¬ (4=2) by decide,show ¬ (4=3) by decide,if_false,if_true];generalize nums.getD 0 0%x.length=i;generalize nums.getD 1 0%(x.length-i)=k;have e:(x.drop i).take (1+k)++x.drop (i+(1+k))=x.drop i:=by
   rw [<-List.drop_drop,List.take_append_drop]
  rw [e,Nat.add_assoc]
 ·simp only [show ¬ (5=1) by decide,show ¬ (5=2) by decide,show ¬ (5=3) by decide,show ¬ (5=4) by decide,if_false,if_true]
theorem ID {w:World} {kind:Nat} {nums:List Nat} {x y:Program} (hk:1<=kind/\kind<=5) (hn:0<w.n) (hx:rT w x) (hy:rT w y):rT w (made w ⟨kind,nums⟩ x y):=by
 have hp:0<x.length:=hx.pos;have hl:x.length<=w.longest:=hx.len;have hL:1<=w.longest:=Nat.le_trans hx.pos hl;rw [<-NP hk hx];have h5:kind=1∨kind=2∨kind=3∨kind=4∨kind=5:=by lia
 have key:1<=(Dk w kind nums x y).length/\∀ c∈Dk w kind nums x y,c.op<8/\c.a<w.n/\c.b<w.n:=by
  unfold Dk;rcases h5 with h|h|h|h|h<;>subst h
  ·rw [if_pos rfl];generalize nums.getD 0 0%x.length=i;refine ⟨by simp;lia,fun c hc=>?_⟩;rcases List.mem_append.mp hc with hc|hc
   ·rcases List.mem_append.mp hc with hc|hc
    ·exact hx.cell c (List.mem_of_mem_take hc)
    ·have e:c=_:=List.mem_singleton.mp hc;have hb:(x.getD i blank).op<8/\(x.getD i blank).a<w.n/\(x.getD i blank).b<w.n:=by
      rw [List.getD_eq_getElem?_getD];cases q:x[i]? with
      |none=>exact ⟨by decide,hn,hn⟩
      |some z=>exact hx.cell z (List.mem_of_getElem? q)
     generalize x.getD i blank=d at e hb;rw [e];unfold putNumber;split
     ·exact ⟨Nat.mod_lt _ (by decide),hb.2⟩
     ·split
      ·exact ⟨hb.1,Nat.mod_lt _ hn,hb.2.2⟩
      ·exact ⟨hb.1,hb.2.1,Nat.mod_lt _ hn⟩
   ·exact hx.cell c (List.mem_of_mem_drop hc)
  ·simp only [show ¬ (2=1) by decide,if_false,if_true];refine ⟨by simp;lia,fun c hc=>?_⟩;rcases List.mem_append.mp hc with hc|hc
   ·rcases List.mem_append.mp hc with hc|hc
    ·exact hx.cell c (List.mem_of_mem_take hc)
    ·have e:c=_:=List.mem_singleton.mp hc;rw [e];exact ⟨Nat.mod_lt _ (by decide),Nat.mod_lt _ hn,Nat.mod_lt _ hn⟩
   ·exact hx.cell c (List.mem_of_mem_drop hc)
  ·simp only [show ¬ (3=1) by decide,show ¬ (3=2) by decide,if_false,if_true];split
   ·exact ⟨hx.pos,hx.cell⟩
   ·have hi:nums.getD 0 0%x.length<x.length:=Nat.mod_lt _ hp;refine ⟨by simp;lia,fun c hc=>?_⟩;rcases List.mem_append.mp hc with hc|hc
    ·exact hx.cell c (List.mem_of_mem_take hc)
    ·exact hx.cell c (List.mem_of_mem_drop hc)
  ·simp only [show ¬ (4=1) by decide,show ¬ (4=2) by decide,show ¬ (4=3) by decide,if_false,if_true];have hi:nums.getD 0 0%x.length<x.length:=Nat.mod_lt _ hp;refine ⟨by simp;lia,fun c hc=>?_⟩;rcases List.mem_append.mp hc with hc|hc
   ·exact hx.cell c (List.mem_of_mem_take hc)
   ·exact hx.cell c (List.mem_of_mem_drop hc)
  ·simp only [show ¬ (5=1) by decide,show ¬ (5=2) by decide,show ¬ (5=3) by decide,show ¬ (5=4) by decide,if_false];refine ⟨by simp;lia,fun c hc=>?_⟩;rcases List.mem_append.mp hc with hc|hc
   ·exact hx.cell c (List.mem_of_mem_take hc)
   ·exact hy.cell c (List.mem_of_mem_drop hc)
 exact ⟨by rw [List.length_take];lia,by rw [List.length_take];lia,fun c hc=>key.2 c (List.mem_of_mem_take hc)⟩
theorem ll (l:List Nat):total l=l.sum:=by
 unfold total;have h:∀ (l:List Nat) (a:Nat),l.foldl (fun a b=>a+b) a=a+l.sum:=by
  intro l
  induction l with
  |nil=>intro a;simp
  |cons x r ih=>intro a;rw [List.foldl_cons,ih,List.sum_cons];lia
 rw [h,Nat.zero_add]
theorem nP:∀ (l:List Nat) (v k:Nat),v<l.sum->k<=kindFor v l k/\kindFor v l k<k+l.length
 |[],v,k,h=>by simp at h
 |a::r,v,k,h=>by
  unfold kindFor;rw [List.sum_cons] at h;split
  ·simp
  ·have:=nP r (v-a) (k+1) (by lia);simp only [List.length_cons]
   lia
theorem fQ (m:Nat) (r:List Nat) (x:Nat):drawAll (m::r) x=((draw m x).1::(drawAll r (draw m x).2).1,(drawAll r (draw m x).2).2):=by
 rw [drawAll]
theorem sy:∀ (l k:List Nat) (x:Nat),drawAll (l++k) x=((drawAll l x).1++(drawAll k (drawAll l x).2).1,(drawAll k (drawAll l x).2).2)
 |[],k,x=>by simp only [drawAll,List.nil_append]
 |a::r,k,x=>by simp only [List.cons_append,fQ,sy r k]
theorem cC (l:List Nat) (m x:Nat):drawAll (l++[m]) x=((drawAll l x).1++[(draw m (drawAll l x).2).1],(draw m (drawAll l x).2).2):=by
 simp only [sy,fQ,drawAll]
theorem bS:∀ (l:List Nat) (x:Nat),(drawAll l x).1.length=l.length
 |[],_=>by simp only [drawAll,List.length_nil]
 |a::r,x=>by simp only [fQ,List.length_cons,bS r]
theorem fu:∀ (l:List Nat) {x:Nat},(∀ m∈l,0<m)->1<=x->x<PRIME->1<=(drawAll l x).2/\(drawAll l x).2<PRIME
 |[],x,_,h1,h2=>⟨h1,h2⟩
 |a::r,x,hm,h1,h2=>by
  have q:=gH (hm a List.mem_cons_self) h1 h2;rw [fQ];exact fu r (fun m h=>hm m (List.mem_cons_of_mem _ h)) q.2.1 q.2.2
theorem wH:∀ (l:List Nat) {x:Nat},(∀ m∈l,0<m)->1<=x->x<PRIME->∀ (i m v:Nat),l[i]? =some m->(drawAll l x).1[i]? =some v->v<m
 |[],x,_,_,_,i,m,v,h,_=>by simp at h
 |a::r,x,hm,h1,h2,0,m,v,h,hv=>by
  have q:=gH (hm a List.mem_cons_self) h1 h2;have e1:a=m:=by simpa using h
  have e2:(draw a x).1=v:=by simpa [fQ] using hv
  rw [<-e1, <-e2];exact q.1
 |a::r,x,hm,h1,h2,i+1,m,v,h,hv=>by
  have q:=gH (hm a List.mem_cons_self) h1 h2;exact wH r (fun m h=>hm m (List.mem_cons_of_mem _ h)) q.2.1 q.2.2 i m v (by simpa using h) (by simpa [fQ] using hv)
def chunk:List Nat->Program
 |o::a::b::r=>⟨o,a,b⟩::chunk r
 |_=>[]
def bP:Nat->Nat->List Nat
 |_,0=>[]
 |n,k+1=>bP n k++[8,n,n]
theorem Ha (n:Nat):∀ k,(List.range k).flatMap (fun _=>[8,n,n])=bP n k
 |0=>rfl
 |k+1=>by rw [List.range_succ,List.flatMap_append,Ha n k];rfl
theorem gf (n:Nat):∀ k,(bP n k).length=3*k
 |0=>rfl
 |k+1=>by
  show (bP n k++[8,n,n]).length=_;rw [List.length_append,gf n k];simp
  lia
theorem pR {n:Nat} (hn:0<n):∀ k,∀ m∈bP n k,0<m
 |0,m,h=>by cases h
 |k+1,m,h=>by
  rcases List.mem_append.mp (show m∈bP n k++[8,n,n] from h) with h|h
  ·exact pR hn k m h
  ·simp at h;rcases h with rfl|rfl
   ·decide
   ·exact hn
theorem pS:∀ (k:Nat) (l:List Nat),l.length=3*k->(chunk l).length=k
 |0,l,h=>by
  have:l=[]:=List.length_eq_zero_iff.mp (by lia);subst this;rfl
 |k+1,l,h=>by
  match l,h with
  |x::y::z::r,h=>
   have e:=pS k r (by simp at h;lia);show (chunk r).length+1=_;rw [e]
  |[],h=>simp at h
  |[_],h=>simp at h;lia
  |[_,_],h=>simp at h;lia
theorem KA:∀ (k:Nat) (l:List Nat),l.length=3*k->∀ i,i<k->(chunk l)[i]? =some ⟨l.getD (3*i) 0,l.getD (3*i+1) 0,l.getD (3*i+2) 0⟩
 |0,l,h,i,hi=>by lia
 |k+1,l,h,i,hi=>by
  match l,h with
  |x::y::z::r,h=>
   cases i with
   |zero=>rfl
   |succ i=>
    have e:=KA k r (by simp at h;lia) i (by lia);show (chunk r)[i]? =_;rw [e];rfl
  |[],h=>simp at h
  |[_],h=>simp at h;lia
  |[_,_],h=>simp at h;lia
theorem Hb (n:Nat):∀ (k i:Nat),i<k->(bP n k)[3*i]? =some 8/\(bP n k)[3*i+1]? =some n/\(bP n k)[3*i+2]? =some n
 |0,i,h=>by lia
 |k+1,i,h=>by
  have hl:=gf n k;show (bP n k++[8,n,n])[3*i]? =_/\(bP n k++[8,n,n])[3*i+1]? =_/\(bP n k++[8,n,n])[3*i+2]? =_;by_cases hi:i<k
  ·rw [List.getElem?_append_left (by lia),List.getElem?_append_left (by lia),List.getElem?_append_left (by lia)];exact Hb n k i hi
  ·have e:i=k:=by lia
   subst e;rw [List.getElem?_append_right (by lia),List.getElem?_append_right (by lia),List.getElem?_append_right (by lia)];simp [hl,show 3*i+1-3*i=1 by lia,show 3*i+2-3*i=2 by lia]
theorem jS {w:World} {x:Nat} (hL:0<w.longest) (hn:0<w.n) (h1:1<=x) (h2:x<PRIME):
  drawnProgram w x=(chunk (drawAll (bP w.n ((draw w.longest x).1+1)) (draw w.longest x).2).1,(drawAll (bP w.n ((draw w.longest x).1+1)) (draw w.longest x).2).1,(drawAll (bP w.n ((draw w.longest x).1+1)) (draw w.longest x).2).2):=by
 have q:=gH hL h1 h2;unfold drawnProgram;simp only [Ha];generalize (draw w.longest x).1+1=k;generalize (draw w.longest x).2=y at q;have hl:(drawAll (bP w.n k) y).1.length=3*k:=by rw [bS,gf]
 have lt:=wH (bP w.n k) (pR hn k) q.2.1 q.2.2;generalize drawAll (bP w.n k) y=e at hl lt
 congr 1
 apply List.ext_getElem?;intro i;by_cases hi:i<k
 ·rw [KA k _ hl i hi];obtain ⟨t0,t1,t2⟩:=Hb w.n k i hi;have g:∀ j,j<3*k->e.1[j]? =some (e.1.getD j 0):=fun j hj=>by
   rw [List.getD_eq_getElem?_getD,List.getElem?_eq_getElem (by lia)];rfl
  have a0:=lt (3*i) 8 _ t0 (g _ (by lia));have a1:=lt (3*i+1) w.n _ t1 (g _ (by lia));have a2:=lt (3*i+2) w.n _ t2 (g _ (by lia));rw [List.getElem?_map,List.getElem?_range hi];show some (drawnCell w.n _ _ _)=_;unfold drawnCell;rw [Nat.mod_eq_of_lt a0,Nat.mod_eq_of_lt a1,Nat.mod_eq_of_lt a2]
 ·rw [List.getElem?_eq_none (by simp;lia),List.getElem?_eq_none (by rw [pS k _ hl];lia)]
theorem jT {w:World} {x:Nat} (hL:0<w.longest) (hn:0<w.n) (h1:1<=x) (h2:x<PRIME):rT w (drawnProgram w x).1/\1<=(drawnProgram w x).2.2/\(drawnProgram w x).2.2<PRIME:=by
 have q:=gH hL h1 h2;have r:=fu (bP w.n ((draw w.longest x).1+1)) (pR hn _) q.2.1 q.2.2;refine ⟨?_,by rw [jS hL hn h1 h2];exact r.1,by rw [jS hL hn h1 h2];exact r.2⟩;unfold drawnProgram;refine ⟨by simp,by simp;lia,fun c hc=>?_⟩;obtain ⟨i,_,rfl⟩:=List.mem_map.mp hc;exact ⟨Nat.mod_lt _ (by decide),Nat.mod_lt _ hn,Nat.mod_lt _ hn⟩
theorem nQ (w:World) (panel:List Program):∀ (k x:Nat),(filled w panel k x).1.length=k
 |0,_=>by simp only [filled,List.length_nil]
 |k+1,x=>by
  rw [filled];simp only [List.length_cons,nQ w panel k]
theorem nR (w:World) (panel:List Program) (rt:Rates) (ones:List One) (living:List Nat) (gen k x:Nat):
  children w panel rt ones living gen (k+1) x=((child w panel rt ones living gen x).1::(children w panel rt ones living gen k (child w panel rt ones living gen x).2).1,(children w panel rt ones living gen k (child w panel rt ones living gen x).2).2):=by
 rw [children]
theorem jy (w:World) (panel:List Program) (rt:Rates) (ones:List One) (living:List Nat) (gen:Nat):∀ (k x:Nat),
  children w panel rt ones living gen (k+1) x=((children w panel rt ones living gen k x).1++[(child w panel rt ones living gen (children w panel rt ones living gen k x).2).1],(child w panel rt ones living gen (children w panel rt ones living gen k x).2).2)
 |0,x=>by simp only [nR,children,List.nil_append]
 |k+1,x=>by
  rw [nR,jy w panel rt ones living gen k,nR w panel rt ones living gen k x];simp only [List.cons_append]
theorem eu (w:World) (panel:List Program) (rt:Rates) (ones:List One) (living:List Nat) (gen:Nat):∀ (k x:Nat),(children w panel rt ones living gen k x).1.length=k
 |0,_=>by simp only [children,List.length_nil]
 |k+1,x=>by
  rw [jy,List.length_append,eu w panel rt ones living gen k,List.length_cons,List.length_nil]
theorem Dl {ones more:List One} {l:List Nat} (hl:∀ i∈l,i<ones.length):ordered (ones++more) l=ordered ones l:=by
 refine (kZ (cZ ones l) ?_).symm;exact va (fun i hi=>hl i ((cZ ones l).mem_iff.mp hi)) (ib ones l)
theorem AN {l:List Nat} {b:Nat} (hl:∀ i∈l,i<b) (hb:0<b) (i:Nat):l.getD i 0<b:=by
 rw [List.getD_eq_getElem?_getD];cases e:l[i]? with
 |none=>exact hb
 |some v=>exact hl v (List.mem_of_getElem? e)
theorem FD {ones more:List One} {living:List Nat} {k x:Nat} (hl:∀ i∈living,i<ones.length) (h0:0<ones.length):picked (ones++more) living k x=picked ones living k x:=by
 unfold picked;simp only;rw [Dl];intro i hi;obtain ⟨j,_,rfl⟩:=List.mem_map.mp hi;exact AN hl h0 j
theorem Qq {l:List Nat} {b:Nat} (hl:∀ i∈l,i<b) (hb:0<b):l.headD 0<b:=by
 cases l with
 |nil=>exact hb
 |cons a r=>exact hl a List.mem_cons_self
theorem jg {ones:List One} {living:List Nat} {k x:Nat} (hl:∀ i∈living,i<ones.length) (h0:0<ones.length):(picked ones living k x).1<ones.length:=by
 unfold picked;simp only;refine Qq (fun i hi=>?_) h0;obtain ⟨j,_,rfl⟩:=List.mem_map.mp ((cZ _ _).mem_iff.mp hi);exact AN hl h0 j
theorem IE {w:World} {panel:List Program} {rt:Rates} {ones more:List One} {living:List Nat} {gen x:Nat} (hl:∀ i∈living,i<ones.length) (h0:0<ones.length):
  child w panel rt (ones++more) living gen x=child w panel rt ones living gen x:=by
 unfold child;simp only [FD hl h0];generalize hk:kindFor (draw (total rt.weights) (picked ones living rt.pick x).2).1 rt.weights 1=kind;rw [oH (jg hl h0)];have e:programAt (ones++more) (if kind=5 then picked ones living rt.pick (draw (total rt.weights) (picked ones living rt.pick x).2).2 else ((picked ones living rt.pick x).1,(draw (total rt.weights) (picked ones living rt.pick x).2).2)).1
   =programAt ones (if kind=5 then picked ones living rt.pick (draw (total rt.weights) (picked ones living rt.pick x).2).2 else ((picked ones living rt.pick x).1,(draw (total rt.weights) (picked ones living rt.pick x).2).2)).1:=by
  refine oH ?_;split
  ·exact jg hl h0
  ·exact jg hl h0
 rw [e]
def depthOf (l:List Nat) (o:One):Nat:=match o.parents with
 |none=>0
 |some (p,q)=>1+max (l.getD p 0) (l.getD q 0)
theorem KC (ones:List One) (o:One):depths (ones++[o])=depths ones++[depthOf (depths ones) o]:=by
 unfold depths;rw [List.foldl_append];rfl
theorem jz (ones:List One):(depths ones).length=ones.length:=by
 have h:∀ (k:List One) (l:List Nat),(k.foldl (fun l o=>l++[depthOf l o]) l).length=l.length+k.length:=by
  intro k
  induction k with
  |nil=>intro l;rfl
  |cons a r ih=>intro l;rw [List.foldl_cons,ih];simp;lia
 have:=h ones [];rw [List.length_nil,Nat.zero_add] at this;exact this
structure sA (w:World):Prop where
 n:8<=w.n/\w.n<=32
 h:1<=w.hands/\w.hands<=4
 r:1<=w.rounds/\w.rounds<=40
 d:1<=w.apart/\w.apart<=8/\2*w.apart<=w.n
 l:1<=w.longest/\w.longest<=8/\w.longest<=w.apart
 q:1<=w.starts/\w.starts<=4
theorem sA.pos {w:World} (o:sA w):0<w.n:=by have:=o.n;lia
structure xB (rt:Rates):Prop where
 i:1<=rt.islands/\rt.islands<=3
 s:2<=rt.size/\rt.size<=10
 e:rt.elite<rt.size
 p:1<=rt.pick/\rt.pick<=4
 v:rt.every<=10
 wl:rt.weights.length=5
 w9:∀ z∈rt.weights,z<=9
 ws:0<rt.weights.sum
structure Fo (w:World) (ones:List One):Prop where
 prog:∀ o∈ones,rT w o.program
 early:∀ (i:Nat) (o:Vbapah.One) (p q:Nat),ones[i]? =some o->o.parents=some (p,q)->p<i/\q<i
theorem Fo.nil (w:World):Fo w []:=⟨fun _ h=>(by cases h),fun i o p q h=>(by simp at h)⟩
theorem Fo.snoc {w:World} {ones:List One} {o:One} (k:Fo w ones) (hp:rT w o.program) (he:∀ p q,o.parents=some (p,q)->p<ones.length/\q<ones.length):Fo w (ones++[o]):=by
 refine ⟨fun z hz=>?_,fun i z p q hi hz=>?_⟩
 ·rcases List.mem_append.mp hz with h|h
  ·exact k.prog z h
  ·rw [List.mem_singleton.mp h];exact hp
 ·by_cases hl:i<ones.length
  ·rw [List.getElem?_append_left hl] at hi;exact k.early i z p q hi hz
  ·rw [List.getElem?_append_right (by lia)] at hi;cases e:i-ones.length with
   |zero=>
    rw [e] at hi;have:o=z:=by simpa using hi
    subst this;have:=he p q hz
    lia
   |succ n=>rw [e] at hi;simp at hi
theorem Fo.jD {w:World} {ones:List One} (k:Fo w ones):jD ones:=by
 intro i p hp;unfold bY at hp;cases e:ones[i]? with
 |none=>rw [e] at hp;cases hp
 |some o=>
  rw [e] at hp;cases e2:o.parents with
  |none=>simp [e2] at hp
  |some pq=>
   obtain ⟨a,b⟩:=pq;have:=k.early i o a b e e2;simp [e2] at hp;rcases hp with rfl|rfl
   ·exact this.1
   ·exact this.2
theorem Fo.at {w:World} {ones:List One} (k:Fo w ones) {i:Nat} (h:i<ones.length):rT w (programAt ones i):=by
 unfold programAt;rw [List.getElem?_eq_getElem h];exact k.prog _ (List.getElem_mem h)
theorem Mq (kind:Nat):∀ m∈(if kind=1 then [64,3,64] else if kind=2 then [64,8,64,64] else if kind=3 then [64] else if kind=4 then [64,64] else if kind=5 then [64,64] else ([]:List Nat)),0<m:=by
 intro m hm;split at hm
 ·simp at hm;lia
 ·split at hm
  ·simp at hm;lia
  ·split at hm
   ·simp at hm;lia
   ·split at hm
    ·simp at hm;lia
    ·split at hm
     ·simp at hm;lia
     ·cases hm
theorem Dm (kind:Nat) {x:Nat} (h1:1<=x) (h2:x<PRIME):1<=(drawnRecipe kind x).2/\(drawnRecipe kind x).2<PRIME:=by
 unfold drawnRecipe;exact fu _ (Mq kind) h1 h2
theorem uH {ones:List One} {living:List Nat} {k x:Nat} (hn:0<living.length) (h1:1<=x) (h2:x<PRIME):1<=(picked ones living k x).2/\(picked ones living k x).2<PRIME:=by
 unfold picked;exact fu _ (fun m hm=>by rw [(List.mem_replicate.mp hm).2];exact hn) h1 h2
structure aaF (w:World) (n:Nat) (c:One×Nat):Prop where
 prog:rT w c.1.program
 par:∀ p q,c.1.parents=some (p,q)->p<n/\q<n
 x1:1<=c.2
 x2:c.2<PRIME
theorem Qr {w:World} {panel:List Program} {rt:Rates} {ones:List One} {living:List Nat} {gen x:Nat} (W:sA w) (R:xB rt) (O:Fo w ones) (hl:∀ i∈living,i<ones.length) (hn:0<living.length)
  (h1:1<=x) (h2:x<PRIME):aaF w ones.length (child w panel rt ones living gen x):=by
 have h0:0<ones.length:=by
  cases living with
  |nil=>simp at hn
  |cons a r=>have:=hl a List.mem_cons_self;lia
 unfold child;simp only;have p1:=uH (ones:=ones) (k:=rt.pick) hn h1 h2;have pl:=jg (k:=rt.pick) (x:=x) hl h0;generalize picked ones living rt.pick x=p at p1 pl;have ht:0<total rt.weights:=by rw [ll];exact R.ws
 have d1:=gH ht p1.1 p1.2;generalize draw (total rt.weights) p.2=k at d1;have kr:=nP rt.weights k.1 1 (by rw [<-ll];exact d1.1);rw [R.wl] at kr;generalize kindFor k.1 rt.weights 1=kind at kr;have q1:(if kind=5 then picked ones living rt.pick k.2 else (p.1,k.2)).1<ones.length/\1<=(if kind=5 then picked ones living rt.pick k.2 else (p.1,k.2)).2/\(if kind=5 then picked ones living rt.pick k.2 else (p.1,k.2)).2<PRIME:=by
  split
  ·exact ⟨jg hl h0,uH hn d1.2.1 d1.2.2⟩
  ·exact ⟨pl,d1.2⟩
 generalize (if kind=5 then picked ones living rt.pick k.2 else (p.1,k.2))=q at q1;have r1:=Dm kind q1.2.1 q1.2.2;have rk:(drawnRecipe kind q.2).1.kind=kind:=rfl;generalize drawnRecipe kind q.2=r at r1 rk;refine ⟨?_,fun a b e=>?_,r1.1,r1.2⟩
 ·show rT w (made w r.1 (programAt ones p.1) (programAt ones q.1));have e:r.1=⟨kind,r.1.nums⟩:=by
   cases hr:r.1;rw [hr] at rk;simp at rk;rw [rk]
  rw [e];exact ID (by lia) W.pos (O.at pl) (O.at q1.1)
 ·have e:some (p.1,q.1)=some (a,b):=e;have e:=Option.some.inj e;have e1:p.1=a:=congrArg Prod.fst e;have e2:q.1=b:=congrArg Prod.snd e;rw [<-e1, <-e2];exact ⟨pl,q1.1⟩
theorem sC {w:World} {panel:List Program} {rt:Rates} {ones:List One} {living:List Nat} {gen x:Nat} (W:sA w) (R:xB rt) (O:Fo w ones) (hl:∀ i∈living,i<ones.length) (hn:0<living.length)
  (h1:1<=x) (h2:x<PRIME):∀ k,Fo w (ones++(children w panel rt ones living gen k x).1)/\1<=(children w panel rt ones living gen k x).2/\(children w panel rt ones living gen k x).2<PRIME
 |0=>by simp only [children,List.append_nil];exact ⟨O,h1,h2⟩
 |k+1=>by
  obtain ⟨a,b,c⟩:=sC (panel:=panel) (gen:=gen) W R O hl hn h1 h2 k;rw [jy];have q:=Qr (panel:=panel) (gen:=gen) W R O hl hn b c;refine ⟨?_,q.x1,q.x2⟩;rw [<-List.append_assoc];refine a.snoc q.prog fun p r e=>?_
  have:=q.par p r e;rw [List.length_append]
  lia
structure eA (ones:List One) (size:Nat) (row:List Nat):Prop where
 len:row.length=size
 lt:∀ i∈row,i<ones.length
 srt:row.Pairwise (fun i j=>better ones j i=false)
theorem eA.append {ones more:List One} {size:Nat} {row:List Nat} (r:eA ones size row):eA (ones++more) size row:=
 ⟨r.len,fun i hi=>by rw [List.length_append];have:=r.lt i hi;lia,va r.lt r.srt⟩
theorem eA.ordered {ones:List One} {size:Nat} {l:List Nat} (h:l.length=size) (lt:∀ i∈l,i<ones.length):eA ones size (ordered ones l):=
 ⟨by rw [Dj,h],fun i hi=>lt i ((cZ ones l).mem_iff.mp hi),ib ones l⟩
theorem ve {w:World} {panel:List Program} {rt:Rates} {gen:Nat} {ones:List One} {row:List Nat} {x:Nat} (R:xB rt) (r:eA ones rt.size row):
  islandBred w panel rt gen ones row x=(ones++(children w panel rt ones row gen (rt.size-rt.elite) x).1,
   ordered (ones++(children w panel rt ones row gen (rt.size-rt.elite) x).1) (row.take rt.elite++(List.range (rt.size-rt.elite)).map fun i=>ones.length+i),(children w panel rt ones row gen (rt.size-rt.elite) x).2):=by
 unfold islandBred;rw [IA r.srt];have e:(row.take rt.elite).length=rt.elite:=by rw [List.length_take,r.len];have:=R.e;lia
 simp only [e,eu]
theorem FE {w:World} {panel:List Program} {rt:Rates} {gen:Nat} {ones:List One} {row:List Nat} {x:Nat} (W:sA w) (R:xB rt) (O:Fo w ones) (r:eA ones rt.size row) (h1:1<=x) (h2:x<PRIME):
  Fo w (islandBred w panel rt gen ones row x).1/\eA (islandBred w panel rt gen ones row x).1 rt.size (islandBred w panel rt gen ones row x).2.1/\1<=(islandBred w panel rt gen ones row x).2.2/\(islandBred w panel rt gen ones row x).2.2<PRIME/\
   (islandBred w panel rt gen ones row x).1.length=ones.length+(rt.size-rt.elite)/\∃ more,(islandBred w panel rt gen ones row x).1=ones++more:=by
 have hn:0<row.length:=by rw [r.len];have:=R.s;lia
 obtain ⟨a,b,c⟩:=sC (panel:=panel) (gen:=gen) W R O r.lt hn h1 h2 (rt.size-rt.elite);rw [ve R r];have hl:=eu w panel rt ones row gen (rt.size-rt.elite) x;refine ⟨a,eA.ordered ?_ fun i hi=>?_,b,c,by rw [List.length_append,hl],_,rfl⟩
 ·rw [List.length_append,List.length_take,List.length_map,List.length_range,r.len];have:=R.e
  lia
 ·rw [List.length_append,hl];rcases List.mem_append.mp hi with h|h
  ·have:=r.lt i (List.mem_of_mem_take h);lia
  ·obtain ⟨j,hj,rfl⟩:=List.mem_map.mp h;have:=List.mem_range.mp hj
   lia
theorem AO {ones:List One} {size:Nat} {l:List (List Nat)} (hs:0<size) (h:∀ r∈l,eA ones size r):(goneOver ones l).length=l.length/\∀ r∈goneOver ones l,eA ones size r:=by
 unfold goneOver;refine ⟨by simp,fun r hr=>?_⟩;obtain ⟨i,hi,rfl⟩:=List.mem_map.mp hr;have hi:=List.mem_range.mp hi;have VC:0<l.length:=by lia
 have e1:(l[i]?).getD []∈l:=by
  rw [List.getElem?_eq_getElem hi];exact List.getElem_mem hi
 have hj:(i+l.length-1)%l.length<l.length:=Nat.mod_lt _ VC;have e2:(l[(i+l.length-1)%l.length]?).getD []∈l:=by
  rw [List.getElem?_eq_getElem hj];exact List.getElem_mem hj
 have r1:=h _ e1;have r2:=h _ e2;simp only;generalize (l[i]?).getD []=here at r1;generalize (l[(i+l.length-1)%l.length]?).getD []=there at r2;split
 ·exact r1
 ·refine eA.ordered ?_ fun z hz=>?_
  ·rw [List.length_append,List.length_dropLast,r1.len];simp
   lia
  ·rcases List.mem_append.mp hz with q|q
   ·exact r1.lt z (List.dropLast_subset _ q)
   ·rw [List.mem_singleton.mp q];cases there with
    |nil=>have:=r2.len;simp at this;lia
    |cons a t=>exact r2.lt a List.mem_cons_self
def fld (w:World) (panel:List Program) (rt:Rates) (gen:Nat) (t:List Vbapah.One×List (List Nat)×Nat) (Mr:List Nat):List Vbapah.One×List (List Nat)×Nat:=
 ((islandBred w panel rt gen t.1 Mr t.2.2).1,t.2.1++[(islandBred w panel rt gen t.1 Mr t.2.2).2.1],(islandBred w panel rt gen t.1 Mr t.2.2).2.2)
structure NQ (w:World) (rt:Rates) (ones:List Vbapah.One) (k:Nat) (t:List Vbapah.One×List (List Nat)×Nat):Prop where
 O:Fo w t.1
 len:t.2.1.length=k
 rows:∀ r∈t.2.1,eA t.1 rt.size r
 x1:1<=t.2.2
 x2:t.2.2<PRIME
 ol:t.1.length=ones.length+k*(rt.size-rt.elite)
 pre:∃ more,t.1=ones++more
theorem NQ.step {w:World} {panel:List Program} {rt:Rates} {gen:Nat} {ones:List Vbapah.One} {k:Nat} {t:List Vbapah.One×List (List Nat)×Nat} {row:List Nat} (W:sA w) (R:xB rt) (f:NQ w rt ones k t) (r:eA ones rt.size row):
  NQ w rt ones (k+1) (fld w panel rt gen t row):=by
 obtain ⟨m0,e0⟩:=f.pre;have r':eA t.1 rt.size row:=by rw [e0];exact r.append
 obtain ⟨a,b,c,d,e,m1,e1⟩:=FE (panel:=panel) (gen:=gen) W R f.O r' f.x1 f.x2;refine ⟨a,?_,fun z hz=>?_,c,d,?_,?_⟩
 ·show (t.2.1++[_]).length=_;rw [List.length_append,f.len];rfl
 ·rcases List.mem_append.mp (show z∈t.2.1++[_] from hz) with h|h
  ·show eA (islandBred w panel rt gen t.1 row t.2.2).1 rt.size z;rw [e1];exact (f.rows z h).append
  ·rw [List.mem_singleton.mp h];exact b
 ·show (islandBred w panel rt gen t.1 row t.2.2).1.length=_;rw [e,f.ol,Nat.add_mul,Nat.one_mul]
  lia
 ·exact ⟨m0++m1,by show (islandBred w panel rt gen t.1 row t.2.2).1=_;rw [e1,e0,List.append_assoc]⟩
theorem NQ.start {w:World} {rt:Rates} {ones:List Vbapah.One} {x:Nat} (O:Fo w ones) (h1:1<=x) (h2:x<PRIME):NQ w rt ones 0 (ones,[],x):=
 ⟨O,rfl,fun _ h=>(by cases h),h1,h2,(by simp),[],(by simp)⟩
theorem NQ.fold {w:World} {panel:List Program} {rt:Rates} {gen:Nat} {ones:List Vbapah.One} (W:sA w) (R:xB rt):∀ (l:List (List Nat)) (k:Nat) (t:List Vbapah.One×List (List Nat)×Nat),NQ w rt ones k t->(∀ r∈l,eA ones rt.size r)->
  NQ w rt ones (k+l.length) (l.foldl (fld w panel rt gen) t)
 |[],k,t,f,_=>f
 |a::r,k,t,f,h=>by
  have:=NQ.fold (panel:=panel) (gen:=gen) W R r (k+1) _ (f.step (panel:=panel) (gen:=gen) W R (h a List.mem_cons_self)) fun z hz=>h z (List.mem_cons_of_mem _ hz)
  rw [List.foldl_cons,List.length_cons,show k+(r.length+1)=k+1+r.length by lia];exact this
theorem Ms {α β:Type} (f:β->α->β) (b:β) (l:List α) {i:Nat} {a:α} (h:l[i]? =some a):(l.take (i+1)).foldl f b=f ((l.take i).foldl f b) a:=by
 have e:l.take (i+1)=l.take i++[a]:=by rw [List.take_add_one,h];rfl
 rw [e,List.foldl_append];rfl
structure XO (s:State) (rt:Rates):Prop where
 R:xB rt
 pn:s.panel≠[]
 il:s.living.length=rt.islands
 rows:∀ r∈s.living,eA s.ones rt.size r
 x1:1<=s.x
 x2:s.x<PRIME
 bl:s.bests.length=s.gen+1
structure WL (w:World) (s:State):Prop where
 world:s.world=some w
 W:sA w
 pL:∀ x∈s.panel,rT w x
 pl:s.panel.length<=4
 O:Fo w s.ones
 ol:s.ones.length<=300
 none_:s.rates=none->s.living=[]/\s.bests=[]/\s.gen=0/\s.x=0/\s.ones.length<=10
 qD:∀ rt,s.rates=some rt->XO s rt
def over (rt:Rates) (gen:Nat) (ones:List Vbapah.One) (rows:List (List Nat)):List (List Nat):=if rt.every≠0/\1<rt.islands/\gen%rt.every=0 then goneOver ones rows else rows
theorem xC {w:World} {s:State} {rt:Rates} (hw:s.world=some w) (hr:s.rates=some rt):
  bred s={s with x:=(s.living.foldl (fld w s.panel rt (s.gen+1)) (s.ones,[],s.x)).2.2,gen:=s.gen+1,ones:=(s.living.foldl (fld w s.panel rt (s.gen+1)) (s.ones,[],s.x)).1,living:=over rt (s.gen+1) (s.living.foldl (fld w s.panel rt (s.gen+1)) (s.ones,[],s.x)).1 (s.living.foldl (fld w s.panel rt (s.gen+1)) (s.ones,[],s.x)).2.1,bests:=s.bests++[(over rt (s.gen+1) (s.living.foldl (fld w s.panel rt (s.gen+1)) (s.ones,[],s.x)).1 (s.living.foldl (fld w s.panel rt (s.gen+1)) (s.ones,[],s.x)).2.1).map fun l=>scoreAt (s.living.foldl (fld w s.panel rt (s.gen+1)) (s.ones,[],s.x)).1 (l.headD 0)]}:=by
 unfold bred;rw [hw,hr];rfl
theorem NR {w:World} {s:State} {rt:Rates} (S:WL w s) (hr:s.rates=some rt) (hb:s.ones.length+rt.islands*(rt.size-rt.elite)<=300):WL w (bred s)/\(bred s).rates=some rt/\(bred s).ones.length=s.ones.length+rt.islands*(rt.size-rt.elite)/\(bred s).gen=s.gen+1:=by
 have B:=S.qD rt hr;have F:=NQ.fold (panel:=s.panel) (gen:=s.gen+1) S.W B.R s.living 0 (s.ones,[],s.x) (NQ.start S.O B.x1 B.x2) B.rows;rw [xC S.world hr];rw [Nat.zero_add,B.il] at F;generalize s.living.foldl (fld w s.panel rt (s.gen+1)) (s.ones,[],s.x)=t at F;have hs:0<rt.size:=by have:=B.R.s;lia
 have L:(over rt (s.gen+1) t.1 t.2.1).length=rt.islands/\∀ r∈over rt (s.gen+1) t.1 t.2.1,eA t.1 rt.size r:=by
  unfold over;split
  ·have:=AO hs F.rows;rw [F.len] at this;exact this
  ·exact ⟨F.len,F.rows⟩
 refine ⟨⟨S.world,S.W,S.pL,S.pl,F.O,?_,fun h=>?_,fun WM h=>?_⟩,hr,F.ol,rfl⟩
 ·show t.1.length<=300;rw [F.ol];exact hb
 ·have h:s.rates=none:=h;rw [hr] at h;cases h
 ·have h:s.rates=some WM:=h;rw [hr] at h;cases h;refine ⟨B.R,B.pn,L.1,L.2,F.x1,F.x2,?_⟩;show (s.bests++[_]).length=s.gen+1+1;rw [List.length_append,B.bl];rfl
theorem lu:∀ (k:Nat) (s:State),bredTimes (k+1) s=bred (bredTimes k s)
 |0,s=>rfl
 |k+1,s=>by
  show bredTimes (k+1) (bred s)=_;rw [lu k];rfl
end Fb
namespace Fb
theorem KD {r x t:List Int} (h:PyFlat.row r=some (x,t)):∃ (n:Nat) (r':List Int),r=(n:Int)::r'/\n<=r'.length/\x=r'.take n/\t=r'.drop n:=by
 cases r with
 |nil=>cases h
 |cons a r'=>
  have h:(if 0<=a/\a.toNat<=r'.length then some (r'.take a.toNat,r'.drop a.toNat) else none)=some (x,t):=h;by_cases hc:0<=a/\a.toNat<=r'.length
  ·rw [if_pos hc] at h;have e:=Option.some.inj h;refine ⟨a.toNat,r',by rw [Int.toNat_of_nonneg hc.1],hc.2,?_,?_⟩
   ·exact (congrArg Prod.fst e).symm
   ·exact (congrArg Prod.snd e).symm
  ·rw [if_neg hc] at h;cases h
theorem zC {k:Nat} {r:List Int} {xs:List (List Int)} {t:List Int} (h:PyFlat.rows (k+1) r=some (xs,t)):∃ x s ys,PyFlat.row r=some (x,s)/\PyFlat.rows k s=some (ys,t)/\xs=x::ys:=by
 unfold PyFlat.rows at h;cases e:PyFlat.row r with
 |none=>rw [e] at h;cases h
 |some p=>
  obtain ⟨x,s⟩:=p;rw [e] at h;simp only at h;cases e2:PyFlat.rows k s with
  |none=>rw [e2] at h;cases h
  |some q=>
   obtain ⟨ys,t'⟩:=q;rw [e2] at h;have z:=Option.some.inj h;have z1:x::ys=xs:=congrArg Prod.fst z;have z2:t'=t:=congrArg Prod.snd z;subst z2;exact ⟨x,s,ys,rfl,e2,z1.symm⟩
theorem sD:∀ {k:Nat} {r:List Int} {xs:List (List Int)} {t:List Int},PyFlat.rows k r=some (xs,t)->xs.length=k
 |0,r,xs,t,h=>by
  have z:=Option.some.inj h;have e:xs=[]:=(congrArg Prod.fst z).symm;rw [e];rfl
 |k+1,r,xs,t,h=>by
  obtain ⟨x,s,ys,_,e2,rfl⟩:=zC h;rw [List.length_cons,sD e2]
theorem Hc:∀ {k:Nat} {r:List Int} {xs:List (List Int)} {t:List Int},PyFlat.rows k r=some (xs,t)->t=r.drop (k+(xs.map List.length).sum)/\k+(xs.map List.length).sum<=r.length
 |0,r,xs,t,h=>by
  have z:=Option.some.inj h;have e:xs=[]:=(congrArg Prod.fst z).symm;have e2:t=r:=(congrArg Prod.snd z).symm;subst e e2;simp
 |k+1,r,xs,t,h=>by
  obtain ⟨x,s,ys,e1,e2,rfl⟩:=zC h;obtain ⟨n,r',rfl,hn,rfl,rfl⟩:=KD e1;obtain ⟨q1,q2⟩:=Hc e2;rw [List.length_drop] at q2;simp only [List.map_cons,List.sum_cons,List.length_take,Nat.min_eq_left hn,List.length_cons];refine ⟨?_,by lia⟩;rw [q1,List.drop_drop,show k+1+(n+(ys.map List.length).sum)=(n+(k+(ys.map List.length).sum))+1 by lia,List.drop_succ_cons]
theorem Dq {shape:Int->Option (Nat×Nat)} {f:Nat} {p:Int} {r:List Int} {cs:List (List (List Int))} (h:PyFlat.calls shape (f+1) (p::r)=some cs):
  ∃ n k xs t Ue,shape p=some (n,k)/\n<=r.length/\PyFlat.rows k (r.drop n)=some (xs,t)/\cs=((p::r.take n)::xs)::Ue/\PyFlat.calls shape f t=some Ue:=by
 unfold PyFlat.calls at h;unfold PyFlat.call at h;cases e:shape p with
 |none=>simp [e] at h
 |some nk=>
  obtain ⟨n,k⟩:=nk;simp only [e] at h;by_cases hl:r.length<n
  ·simp [hl] at h
  ·rw [if_neg hl] at h;cases e2:PyFlat.rows k (r.drop n) with
   |none=>simp [e2] at h
   |some q=>
    obtain ⟨xs,t⟩:=q;simp only [e2] at h;cases e3:PyFlat.calls shape f t with
    |none=>simp [e3] at h
    |some Ue=>
     simp only [e3] at h;exact ⟨n,k,xs,t,Ue,rfl,by lia,e2,(Option.some.inj h).symm,e3⟩
theorem AQ {p:Int} {nk:Nat×Nat} (h:PyVbapah.shape p=some nk):∃ c:Nat,p=c/\c<=16/\nk=([(6,0),(0,1),(0,1),(6,1),(1,0),(1,0),(1,0),(1,0),(2,0),(0,1),(2,2),(1,3),(0,2),(3,0),(0,0),(0,0),(0,0)]:List (Nat×Nat)).getD c (0,0):=by
 have key:∀ c:Nat,c<=16->PyVbapah.shape (c:Int)=some (([(6,0),(0,1),(0,1),(6,1),(1,0),(1,0),(1,0),(1,0),(2,0),(0,1),(2,2),(1,3),(0,2),(3,0),(0,0),(0,0),(0,0)]:List (Nat×Nat)).getD c (0,0)):=by
  intro c hc
  match c,hc with
  |0,_=>rfl
  |1,_=>rfl
  |2,_=>rfl
  |3,_=>rfl
  |4,_=>rfl
  |5,_=>rfl
  |6,_=>rfl
  |7,_=>rfl
  |8,_=>rfl
  |9,_=>rfl
  |10,_=>rfl
  |11,_=>rfl
  |12,_=>rfl
  |13,_=>rfl
  |14,_=>rfl
  |15,_=>rfl
  |16,_=>rfl
  |c+17,h=>lia
 have hr:0<=p/\p<=16:=by
  apply Classical.byContradiction;intro hn;have z:∀ k:Int,(decide (0<=k)&&decide (k<=16))=true->p≠k:=fun k hk e=>hn (by rw [e];rw [Bool.and_eq_true] at hk;exact ⟨of_decide_eq_true hk.1,of_decide_eq_true hk.2⟩)
  unfold PyVbapah.shape at h;rw [if_neg (z 0 rfl),if_neg (z 1 rfl),if_neg (z 2 rfl),if_neg (z 3 rfl),if_neg (z 4 rfl),if_neg (z 5 rfl),if_neg (z 6 rfl),if_neg (z 7 rfl),if_neg (z 8 rfl),if_neg (z 9 rfl),if_neg (z 10 rfl),if_neg (z 11 rfl),if_neg (z 12 rfl),if_neg (z 13 rfl),if_neg (z 14 rfl),if_neg (z 15 rfl),if_neg (z 16 rfl)] at h;cases h
 refine ⟨p.toNat,by lia,by lia,?_⟩;have k:=key p.toNat (by lia);rw [Int.toNat_of_nonneg hr.1] at k;rw [k] at h;exact (Option.some.inj h).symm
theorem jh {α:Type} {l:List α} (h:l.length=1):∃ a,l=[a]:=by
 match l,h with
 |[a],_=>exact ⟨a,rfl⟩
theorem BY {α:Type} {l:List α} (h:l.length=2):∃ a b,l=[a,b]:=by
 match l,h with
 |[a,b],_=>exact ⟨a,b,rfl⟩
theorem Qs {α:Type} {l:List α} (h:l.length=3):∃ a b c,l=[a,b,c]:=by
 match l,h with
 |[a,b,c],_=>exact ⟨a,b,c,rfl⟩
theorem Qt {α:Type} {l:List α} (h:l.length=6):∃ a b c d e f,l=[a,b,c,d,e,f]:=by
 match l,h with
 |[a,b,c,d,e,f],_=>exact ⟨a,b,c,d,e,f,rfl⟩
theorem wI {a b:Nat} {p:Nat×Nat} (e:(a,b)=p):a=p.1:=congrArg Prod.fst e
theorem wJ {a b:Nat} {p:Nat×Nat} (e:(a,b)=p):b=p.2:=congrArg Prod.snd e
theorem Mt {p:Int} {n k:Nat} {as:List Int} {xs:List (List Int)} (h:PyVbapah.shape p=some (n,k)) (ha:as.length=n) (hx:xs.length=k):PyVbapah.whole ((p::as)::xs)=(p::as)::xs:=by
 obtain ⟨c,rfl,hc,e⟩:=AQ h;rw [wI e] at ha;rw [wJ e] at hx
 match c,hc,ha,hx with
 |0,_,ha,hx=>obtain ⟨x0,x1,x2,x3,x4,x5,rfl⟩:=Qt ha;obtain rfl:=List.length_eq_zero_iff.mp hx;rfl
 |1,_,ha,hx=>obtain rfl:=List.length_eq_zero_iff.mp ha;obtain ⟨y0,rfl⟩:=jh hx;rfl
 |2,_,ha,hx=>obtain rfl:=List.length_eq_zero_iff.mp ha;obtain ⟨y0,rfl⟩:=jh hx;rfl
 |3,_,ha,hx=>obtain ⟨x0,x1,x2,x3,x4,x5,rfl⟩:=Qt ha;obtain ⟨y0,rfl⟩:=jh hx;rfl
 |4,_,ha,hx=>obtain ⟨x0,rfl⟩:=jh ha;obtain rfl:=List.length_eq_zero_iff.mp hx;rfl
 |5,_,ha,hx=>obtain ⟨x0,rfl⟩:=jh ha;obtain rfl:=List.length_eq_zero_iff.mp hx;rfl
 |6,_,ha,hx=>obtain ⟨x0,rfl⟩:=jh ha;obtain rfl:=List.length_eq_zero_iff.mp hx;rfl
 |7,_,ha,hx=>obtain ⟨x0,rfl⟩:=jh ha;obtain rfl:=List.length_eq_zero_iff.mp hx;rfl
 |8,_,ha,hx=>obtain ⟨x0,x1,rfl⟩:=BY ha;obtain rfl:=List.length_eq_zero_iff.mp hx;rfl
 |9,_,ha,hx=>obtain rfl:=List.length_eq_zero_iff.mp ha;obtain ⟨y0,rfl⟩:=jh hx;rfl
 |10,_,ha,hx=>obtain ⟨x0,x1,rfl⟩:=BY ha;obtain ⟨y0,y1,rfl⟩:=BY hx;rfl
 |11,_,ha,hx=>obtain ⟨x0,rfl⟩:=jh ha;obtain ⟨y0,y1,y2,rfl⟩:=Qs hx;rfl
 |12,_,ha,hx=>obtain rfl:=List.length_eq_zero_iff.mp ha;obtain ⟨y0,y1,rfl⟩:=BY hx;rfl
 |13,_,ha,hx=>obtain ⟨x0,x1,x2,rfl⟩:=Qs ha;obtain rfl:=List.length_eq_zero_iff.mp hx;rfl
 |14,_,ha,hx=>obtain rfl:=List.length_eq_zero_iff.mp ha;obtain rfl:=List.length_eq_zero_iff.mp hx;rfl
 |15,_,ha,hx=>obtain rfl:=List.length_eq_zero_iff.mp ha;obtain rfl:=List.length_eq_zero_iff.mp hx;rfl
 |16,_,ha,hx=>obtain rfl:=List.length_eq_zero_iff.mp ha;obtain rfl:=List.length_eq_zero_iff.mp hx;rfl
 |c+17,h,_,_=>lia
theorem Hd:∀ {f:Nat} {l:List Int} {cs:List (List (List Int))},PyFlat.calls PyVbapah.shape f l=some cs->cs.map PyVbapah.whole=cs
 |f,[],cs,h=>by
  have e:[]=cs:=by cases f<;>exact Option.some.inj h
  rw [<-e];rfl
 |0,_::_,cs,h=>by cases h
 |f+1,p::r,cs,h=>by
  obtain ⟨n,k,xs,t,Ue,h1,h2,h3,rfl,h5⟩:=Dq h;rw [List.map_cons,Hd h5,Mt h1 (by rw [List.length_take,Nat.min_eq_left h2]) (sD h3)]
theorem KG (l:List Int):PyVbapah.calls l=PyFlat.calls PyVbapah.shape l.length l:=by
 unfold PyVbapah.calls;cases e:PyFlat.calls PyVbapah.shape l.length l with
 |none=>rfl
 |some cs=>
  show some (cs.map PyVbapah.whole)=some cs;rw [Hd e]
end Fb
namespace Fb
open Vbapah
abbrev FF:=Int×Int×Int
def hU (c:Cell):FF:=((c.op:Int),(c.a:Int),(c.b:Int))
def dA:List Int->List FF
 |o::a::b::r=>(o,a,b)::dA r
 |_=>[]
def AR (n:Nat) (t:FF):Bool:=(decide ((0:Int)<=t.1)&&decide (t.1<=7))&&((decide ((0:Int)<=t.2.1)&&decide (t.2.1<=(n:Int)-1))&&(decide ((0:Int)<=t.2.2)&&decide (t.2.2<=(n:Int)-1)))
def cF (w:World) (ns:List Int):Bool:=decide (ns.length%3=0)&&(decide (3<=ns.length/\ns.length<=3*w.longest)&&(dA ns).all (AR w.n))
theorem mU:∀ l:List Nat,dA (l.map fun (n:Nat)=>(n:Int))=(chunk l).map hU
 |[]=>rfl
 |[_]=>rfl
 |[_,_]=>rfl
 |o::a::b::r=>by
  show ((o:Int),(a:Int),(b:Int))::dA (r.map _)=hU ⟨o,a,b⟩::(chunk r).map hU;rw [mU r];rfl
theorem xD:∀ (f:Nat) (l:List Nat) (p:Program),cellsOf f l=some p->p=chunk l/\l.length=3*p.length
 |0,l,p,h=>by cases h
 |f+1,l,p,h=>by
  unfold cellsOf at h
  match l,h with
  |[],h=>
   have:=Option.some.inj h;subst this;exact ⟨rfl,rfl⟩
  |o::a::b::r,h=>
   cases e:cellsOf f r with
   |none=>simp [e] at h
   |some q=>
    obtain ⟨h1,h2⟩:=xD f r q e;simp [e] at h;subst h;refine ⟨by rw [h1];rfl,by simp [h2];lia⟩
  |[_],h=>cases h
  |[_,_],h=>cases h
theorem sE:∀ (k f:Nat) (l:List Nat),l.length=3*k->k<f->cellsOf f l=some (chunk l)
 |0,f,l,h,hf=>by
  have:l=[]:=List.length_eq_zero_iff.mp (by lia);subst this;cases f with
  |zero=>lia
  |succ f=>rfl
 |k+1,f,l,h,hf=>by
  match l,h with
  |o::a::b::r,h=>
   cases f with
   |zero=>lia
   |succ f=>
    have e:=sE k f r (by simp at h;lia) (by lia);unfold cellsOf;simp [e,chunk]
  |[],h=>simp at h
  |[_],h=>simp at h;lia
  |[_,_],h=>simp at h;lia
theorem uI {ns:List Int} (h:∀ z∈ns,0<=z):ns=(nats ns).map fun (n:Nat)=>(n:Int):=by
 unfold nats;rw [List.map_map]
 conv=>lhs;rw [<-List.map_id ns]
 refine List.map_congr_left fun z hz=>?_
 have:=h z hz;simp
 lia
theorem Dr {z:Int} {lo hi:Nat}:inside z lo hi=true↔(lo:Int)<=z/\z<=(hi:Int):=by
 unfold inside;simp
theorem Ds:∀ (k:Nat) (l:List Int),l.length=3*k->∀ z∈l,∃ t∈dA l,z=t.1∨z=t.2.1∨z=t.2.2
 |0,l,h,z,hz=>by
  have:l=[]:=List.length_eq_zero_iff.mp (by lia);subst this;cases hz
 |k+1,l,h,z,hz=>by
  match l,h with
  |o::a::b::r,h=>
   simp only [List.mem_cons] at hz;have hm:∀ t,t∈dA r->t∈dA (o::a::b::r):=fun t ht=>List.mem_cons_of_mem _ ht
   have h0:(o,a,b)∈dA (o::a::b::r):=List.mem_cons_self;rcases hz with rfl|rfl|rfl|hz
   ·exact ⟨_,h0,.inl rfl⟩
   ·exact ⟨_,h0,.inr (.inl rfl)⟩
   ·exact ⟨_,h0,.inr (.inr rfl)⟩
   ·obtain ⟨t,ht,e⟩:=Ds k r (by simp at h;lia) z hz;exact ⟨t,hm t ht,e⟩
  |[],h=>simp at h
  |[_],h=>simp at h;lia
  |[_,_],h=>simp at h;lia
theorem He {n:Nat} (hn:0<n) (c:Cell):AR n (hU c)=true↔c.op<8/\c.a<n/\c.b<n:=by
 unfold AR hU;simp
 lia
theorem bZ {w:World} (W:sA w) {ns:List Int} (h:cF w ns=true):∃ p,programOf w ns=some p/\dA ns=p.map hU/\rT w p/\ns.length=3*p.length/\ns=(nats ns).map (fun (n:Nat)=>(n:Int))/\p=chunk (nats ns):=by
 unfold cF at h;simp only [Bool.and_eq_true,decide_eq_true_eq] at h;obtain ⟨h1,⟨h2,h3⟩,h4⟩:=h;have hk:ns.length=3*(ns.length/3):=by lia
 have jf:∀ z∈ns,0<=z/\z<=31:=fun z hz=>by
  obtain ⟨t,ht,e⟩:=Ds _ ns hk z hz;have q:=List.all_eq_true.mp h4 t ht;unfold AR at q;simp only [Bool.and_eq_true,decide_eq_true_eq] at q;have:=W.n;rcases e with e|e|e<;>lia
 have hc:=uI fun z hz=>(jf z hz).1
 have hl:(nats ns).length=ns.length:=by unfold nats;simp
 have e1:cellsOf (ns.length+1) (nats ns)=some (chunk (nats ns)):=sE (ns.length/3) _ _ (by rw [hl];exact hk) (by lia);have e2:dA ns=(chunk (nats ns)).map hU:=by
  conv=>lhs;rw [hc]
  exact mU _
 have e3:(chunk (nats ns)).length=ns.length/3:=pS _ _ (by rw [hl];exact hk);have ok:rT w (chunk (nats ns)):=by
  refine ⟨by rw [e3];lia,by rw [e3];lia,fun c hc=>?_⟩;refine (He W.pos c).mp (List.all_eq_true.mp h4 (hU c) ?_);rw [e2];exact List.mem_map.mpr ⟨c,hc,rfl⟩
 refine ⟨_,?_,e2,ok,by rw [e3];exact hk,hc,rfl⟩;unfold programOf;rw [if_neg ?_,e1]
 ·show (if programOk w (chunk (nats ns))=true then some _ else none)=_;rw [if_pos (NO.mpr ok)]
 ·rw [Bool.not_eq_false,List.all_eq_true];intro z hz;have:=jf z hz;exact Dr.mpr ⟨by simpa using this.1,by lia⟩
theorem ji {w:World} (W:sA w) {ns:List Int} (h:cF w ns=false):programOf w ns=none:=by
 unfold programOf;split
 ·rfl
 ·rename_i XQ;rw [Bool.not_eq_false,List.all_eq_true] at XQ;cases e:cellsOf (ns.length+1) (nats ns) with
  |none=>rfl
  |some p=>
   show (if programOk w p=true then some p else none)=none;rw [if_neg];intro hp;have ok:=NO.mp hp;obtain ⟨e1,e2⟩:=xD _ _ _ e;have hl:(nats ns).length=ns.length:=by unfold nats;simp
   rw [hl] at e2;have hc:=uI fun z hz=>by have:=Dr.mp (XQ z hz);lia
   have e3:dA ns=p.map hU:=by
    conv=>lhs;rw [hc]
    rw [mU,e1]
   have q:cF w ns=true:=by
    unfold cF;simp only [Bool.and_eq_true,decide_eq_true_eq];refine ⟨by lia,⟨by have:=ok.pos;lia,by have:=ok.len;lia⟩,?_⟩;rw [e3,List.all_eq_true];intro t ht;obtain ⟨c,hc,rfl⟩:=List.mem_map.mp ht;exact (He W.pos c).mpr (ok.cell c hc)
   rw [h] at q;cases q
theorem Qu {w:World} (W:sA w) (ns:List Int):cF w ns=(programOf w ns).isSome:=by
 cases h:cF w ns with
 |true=>obtain ⟨p,e,_⟩:=bZ W h;rw [e];rfl
 |false=>rw [ji W h];rfl
theorem foldl_add (l:List Nat):l.foldl (fun a b=>a+b) 0=l.sum:=by
 have:=ll l;unfold total at this;exact this
def pts (o:Nat):Nat:=if o=1 then 2 else if o=0 then 1 else 0
def gp (w:World) (x y:Program) (s f:Nat):Nat:=pts (played w x y s f)
theorem xE (g:Nat->Nat->Nat):∀ l:List Nat,(l.flatMap fun s=>[g s 0,g s 1]).sum=(l.map fun s=>g s 0+g s 1).sum
 |[]=>rfl
 |a::r=>by
  rw [List.flatMap_cons,List.sum_append,xE g r,List.map_cons,List.sum_cons];simp
theorem zD (w:World) (x y:Program):pointsAgainst w x y=((startsOf w).map fun s=>gp w x y s 0+gp w x y s 1).sum:=by
 unfold pointsAgainst;rw [foldl_add, <-xE];rfl
theorem Dt (w:World) (panel:List Program) (x:Program):scoreOf w panel x=(panel.map (pointsAgainst w x)).sum:=foldl_add _
theorem Du {w:World} (W:sA w):∀ s∈startsOf w,w.apart<=s/\s<=w.n-w.apart:=by
 intro s hs;unfold startsOf at hs;obtain ⟨i,hi,rfl⟩:=List.mem_map.mp hs;have hi:=List.mem_range.mp hi;have hd:=W.d;generalize hc:min w.starts (legal w)=c at hi;have hl:legal w=w.n-2*w.apart+1:=rfl;have h1:i*legal w/c<legal w:=by
  rw [Nat.div_lt_iff_lt_mul (by lia),Nat.mul_comm i];exact Nat.mul_lt_mul_of_pos_left hi (by lia)
 generalize i*legal w/c=z at h1 ⊢
 lia
theorem aG {α:Type} {l:List α} {i:Nat} {a:α} (h:l[i]? =some a):l.take (i+1)=l.take i++[a]:=by
 rw [List.take_add_one,h];rfl
theorem vf {l:List Nat} {i:Nat} {a:Nat} (h:l[i]? =some a):(l.take (i+1)).sum=(l.take i).sum+a:=by
 rw [aG h,List.sum_append];simp
theorem ic (l:List Nat):(l.map fun (n:Nat)=>(n:Int)).sum=((l.sum:Nat):Int):=by
 induction l with
 |nil=>rfl
 |cons a r ih=>rw [List.map_cons,List.sum_cons,List.sum_cons,ih];lia
end Fb
namespace Fb
open PySem PySem.Spec PyProof.Rows L2
section
open PySem.SeqAt
open PySem.AutoSeq1 (wpAny_loadPart' idx_int)
open PySem.MeetsSeq PySem.MeetsSeq2 PySem.MeetsSeq3
set_option maxRecDepth 8000 in
theorem OK (l:Addr) (items:Array Value) (n:Nat) (b:Addr) (Dv:Array Value) (n2:Nat) (dd:Option Addr) (sl:Array (Option Value)) (hs0:¬(!items.isEmpty&&Builtin.List.listTooLong (items.size+Dv.size))=true) (hs1:items.size<=sizeLine) (Zs:items.size+Dv.size<=sizeLine+1):
  Meets (Builtin.«list.extend» ⟨[.ref l,.ref b],[]⟩) (fun _ R s=>s.heap.get? l=some {cls:= .type "list",dict:=none,data:= .seq items n,slots:= #[]}/\s.heap.get? b=some {cls:= .type "tuple",dict:=dd,data:= .seq Dv n2,slots:=sl}/\R (.ok (.ret Value.none)) {s with heap:=s.heap.update l (Obj.mapSeq fun x=>x++Dv),toks:=s.toks}):=
 .of_wp fun prog w A R s h=>by
  obtain ⟨hp,g,d,tk,os⟩:=s;obtain ⟨hl,hb,h⟩:=h;have f1:=idx_int;have f2:=AutoSeq1.sub_tuple_tuple;have f3:=AutoSeq1.sub_list_list;have f4:=AutoSeq1.sub_tuple_list;have f5:=AutoSeq1.sub_list_tuple;have hz':(items++Dv).size<=sizeLine+1:=by rw [Array.size_append];exact Zs
  wp_walk using (wpAny_updateSeq hl rfl (hz:=hs1) (_hz':=hz')),wpAny_loadPart' hl,wpAny_loadPart' hb
  exact ⟨_,rfl,h⟩
end
section
variable {X:Cx} {a b c:Expr} {ta tb tc:TE} {pos:Pos}
theorem ay {x:Str} {v:V} (hg:Gl X x) (hm:∃ u,X.mg x=some u/\RelV v u) (hd:(x==("__debug__":Str))=false:=by decide):PE X (.Name x pos) (tC v):=by
 obtain ⟨u,h1,h2⟩:=hm;exact RT hg h1 h2 hd
def Ug (K:PySem.W.Frag):V->List V->Hp->VK->Prop:=fun x vs H Q=>∃ l b xs zs,x=.ref l/\vs=[.ref b]/\H l=some (.lst xs)/\(H b=some (.lst zs)∨pO K H b zs)/\xs.length+zs.length<=sizeLine/\Q .cx (upd H l (.lst (xs++zs)))
theorem Mu:WH X "list.extend" (Ug X.K):=by
 intro pins s σ H x vs v us Q I rx rv h;obtain ⟨l,b,xs,zs,rfl,rfl,hH,hB|hB,hz,q⟩:=h
 ·exact Oz pins s σ H _ _ v us Q I rx rv ⟨l,b,xs,zs,rfl,rfl,hH,hB,hz,q⟩
 ·cases rx;obtain ⟨u,rfl,ru⟩:=rv.one;cases ru;obtain ⟨z,its,n,r,hl,e⟩:=I.BV hH;obtain ⟨BW,r2,⟨o2,e2,c2,n2,d2⟩,hz2⟩:=I.tuple hB;have Md:=r2.length;obtain ⟨oc,od,odt,Ih⟩:=o2;cases c2;cases d2;have hsz:its.toArray.size+BW.toArray.size<=sizeLine:=by rw [List.size_toArray,List.size_toArray];lia
  have Ki:¬ (!its.toArray.isEmpty&&Builtin.List.listTooLong (its.toArray.size+BW.toArray.size))=true:=by
   rw [C6 hsz,Bool.and_false];exact Bool.false_ne_true
  refine call_meets F.slot_list_extend ⟨_,e,rfl⟩ F.entry_list_extend (F.args_list_extend_2 _ _)
   (OK l its.toArray n b BW.toArray n2 od Ih Ki (by rw [List.size_toArray];lia) (by lia)) ⟨e,e2,?_⟩
  refine ⟨.cx,_,I.Oy (its':=its++BW) hH e (by simp) (r.append r2) ?_,rfl,q⟩;rw [List.length_append]
  lia
def XR:V->List V->Hp->VK->Prop:=fun x vs H Q=>∃ l xs,x=.ref l/\vs=[]/\H l=some (.lst xs)/\∀ p,H p=none->Q (.ref p) (upd H p (.lst xs))
theorem SA:WH X "list.copy" XR:=by
 intro pins s σ H x vs v us Q I rx rv h;obtain ⟨l,xs,rfl,rfl,hH,q⟩:=h;cases rx;have ev:=rv.zero;subst ev;obtain ⟨z,its,n,r,hl,e⟩:=I.BV hH;refine call_meets F.slot_list_copy ⟨_,e,rfl⟩ F.entry_list_copy (F.args_list_copy_1 _) (PySem.AutoSeq1.list_copy_list_0 l its.toArray n (by rw [List.size_toArray];lia)) ⟨e,?_⟩;exact ⟨.ref s.heap.objs.size,_,I.Se r z,rfl,q _ I.fresh⟩
theorem OL (hc:X.calm=true):fq X (.builtin "min") (fun xs H Q=>∃ i j k,xs=[.int i,.int j,.int k]/\∀ m,(m=i∨m=j∨m=k)->m<=i->m<=j->m<=k->Q (.int m) H):=by
 intro pins s σ H xs us Q I r h;obtain ⟨i,j,k,rfl,q⟩:=h;cases r with
 |cons r1 r=>
  cases r with
  |cons r2 r=>
   cases r with
   |cons r3 r=>
    cases r;obtain ⟨t1,rfl⟩:=r1;obtain ⟨t2,rfl⟩:=r2;obtain ⟨t3,rfl⟩:=r3;refine min_three_ints (I.ok.hd hc) ?_;intro h' tk kp;have I':=I.kept (t':=tk) kp;by_cases h1:j<i
    ·rw [if_pos h1];by_cases h2:k<j
     ·rw [if_pos h2];exact ⟨.int k,H,I',⟨_,rfl⟩,q k (by lia) (by lia) (by lia) (by lia)⟩
     ·rw [if_neg h2];exact ⟨.int j,H,I',⟨_,rfl⟩,q j (by lia) (by lia) (by lia) (by lia)⟩
    ·rw [if_neg h1];by_cases h2:k<i
     ·rw [if_pos h2];exact ⟨.int k,H,I',⟨_,rfl⟩,q k (by lia) (by lia) (by lia) (by lia)⟩
     ·rw [if_neg h2];exact ⟨.int i,H,I',⟨_,rfl⟩,q i (by lia) (by lia) (by lia) (by lia)⟩
def pT (lo:Int) (n:Nat):List V:=(List.range n).map fun (i:Nat)=>V.int (lo+(i:Int))
theorem FG (lo:Int) (n:Nat):(pT lo n).length=n:=by unfold pT;rw [List.length_map,List.length_range]
theorem Dx {f:Nat->Int}:∀ (n:Nat) (acc:List Value),acc.length=n->(∀ j v,acc[j]? =some v->∃ t,v=Value.int (f j) t)->Vals ((List.range n).map fun i=>V.int (f i)) acc
 |0,acc,hl,_=>by
  have:acc=[]:=List.length_eq_zero_iff.mp hl;subst this;exact .nil
 |n+1,acc,hl,h=>by
  obtain ⟨l,x,rfl⟩:∃ l x,acc=l++[x]:=⟨acc.dropLast,acc.getLast (fun z=>by rw [z] at hl;cases hl),(List.dropLast_concat_getLast _).symm⟩;have PF:l.length=n:=by rw [List.length_append,List.length_singleton] at hl;lia
  rw [List.range_succ,List.map_append];refine Vals.append (Dx n l PF fun j v e=>h j v ?_) ?_
  ·rw [List.getElem?_append_left (List.getElem?_eq_some_iff.mp e).1];exact e
  ·exact .cons (h n x (by rw [List.getElem?_append_right (by lia),PF];simp)) .nil
theorem OM:fq X (.type "range") (fun xs H Q=>∃ j:Int,xs=[.int j]/\∀ p,H p=none->Q (.ref p) (upd H p (.TM 0 j))):=by
 intro pins s σ H xs us Q I r h;obtain ⟨j,rfl,q⟩:=h;obtain ⟨u,rfl,⟨t,rfl⟩⟩:=vals1 r;refine call_range_1 ?_;exact ⟨.ref s.heap.objs.size,_,I.laid (fun b o e=>Heap.get?_push_of_some _ e) (Nat.le_refl _) (show cJ X.prog X.w _ _ _ (.TM 0 j) from ⟨_,_,_,Heap.get?_push_size _ rfl⟩),rfl,q _ (I.cf.fresh (Nat.le_refl _))⟩
theorem ON:fq X (.type "range") (fun xs H Q=>∃ i j:Int,xs=[.int i,.int j]/\∀ p,H p=none->Q (.ref p) (upd H p (.TM i j))):=by
 intro pins s σ H xs us Q I r h;obtain ⟨i,j,rfl,q⟩:=h;obtain ⟨u,w',rfl,⟨t,rfl⟩,⟨t',rfl⟩⟩:=vals2 r;refine call_range_2 ?_;exact ⟨.ref s.heap.objs.size,_,I.laid (fun b o e=>Heap.get?_push_of_some _ e) (Nat.le_refl _) (show cJ X.prog X.w _ _ _ (.TM i j) from ⟨_,_,_,Heap.get?_push_size _ rfl⟩),rfl,q _ (I.cf.fresh (Nat.le_refl _))⟩
theorem vg (hc:X.calm=true):fq X (.type "list") (fun xs H Q=>∃ p lo hi,xs=[.ref p]/\H p=some (.TM lo hi)/\(-(2 ^ 62)<=lo/\lo<2 ^ 62/\ -(2 ^ 62)<=hi/\hi<2 ^ 62)/\(hi-lo).toNat<=sizeLine/\∀ l,H l=none->Q (.ref l) (upd H l (.lst (pT lo (hi-lo).toNat)))):=by
 intro pins s σ H xs us Q I r h;obtain ⟨p,lo,hi,rfl,hp,⟨h1,h2,h3,h4⟩,h5,q⟩:=h;obtain ⟨u,rfl,rx⟩:=vals1 r;cases rx;obtain ⟨t,u,v,e⟩:=I.cf p _ hp;refine call_list_range (n:=(hi-lo).toNat) (I.ok.hd hc) (show IsRange s.heap p lo hi 1 t u v from e) (small_one h1 h2 h3 h4) (by rw [rangeSize_one];split<;>lia) (by rw [sizeLine_eq] at h5;lia) fun h' tk' aaG c' kp e aR=>?_
 refine ⟨.ref _,_,I.laid (t':=tk') kp (Nat.le_refl _) (show cJ X.prog X.w _ h' _ (.lst (pT lo (hi-lo).toNat)) from ⟨by rw [FG];exact h5,aaG.toList,c',?_,e⟩),rfl,q _ (I.cf.fresh (Nat.le_refl _))⟩;exact Dx (f:=fun i=>lo+(i:Int)) _ _ (by rw [Array.length_toList];exact aR.1) fun j w' ej=>by
  obtain ⟨t',et⟩:=aR.2 j w' (by rw [<-Array.getElem?_toList];exact ej);exact ⟨t',by rw [et,Int.mul_one]⟩
theorem IF:bootBuiltins "list"=some (.type "list"):=by decide+kernel
theorem KH:bootBuiltins "tuple"=some (.type "tuple"):=by decide+kernel
theorem VD:bootBuiltins "max"=some (.builtin "max"):=by decide+kernel
theorem Mv:bootBuiltins "min"=some (.builtin "min"):=by decide+kernel
theorem Dy:bootBuiltins "sum"=some (.builtin "sum"):=by decide+kernel
theorem IG:bootBuiltins "all"=some (.builtin "all"):=by decide+kernel
theorem zE:bootBuiltins "sorted"=some (.builtin "sorted"):=by decide+kernel
theorem KI:bootBuiltins "range"=some (.type "range"):=by decide+kernel
def Qv:List V->Hp->VK->Prop:=fun vs H Q=>∃ (d:Addr) (kvs:List (Key×V)) (ks:List Int),vs=[V.ref d]/\H d=some (.dK kvs)/\kvs.map (·.1)=ks.map Sum.inl/\
 ∀ (WN:List Int) (p:Addr),WN.Perm ks->WN.Pairwise (· <= ·)->H p=none->Q (.ref p) (upd H p (.lst (WN.map V.int)))
theorem vh:∀ (ks:List Int) (vs:List (Key×Value)) (acc:List Value),vs.map (·.1)=ks.map Sum.inl->acc.length=vs.length->(∀ (j:Nat) (v:Value),acc[j]? =some v->∃ k x,vs[j]? =some (k,x)/\CU k v=true)->IntsAre acc ks
 |[],[],[],_,_,_=>.nil
 |[],[],_::_,_,h,_=>by simp at h
 |[],_::_,_,h,_,_=>by simp at h
 |_::_,[],_,h,_,_=>by simp at h
 |_::_,_::_,[],_,h,_=>by simp at h
 |k::ks,(k',x)::vs,v::acc,e,hl,h=>by
  rw [List.map_cons,List.map_cons] at e;obtain ⟨e1,e2⟩:=List.cons.inj e;obtain ⟨k2,x2,h1,h2⟩:=h 0 v rfl;have e3:(k',x)=(k2,x2):=Option.some.inj h1;cases e3;have e4:k'=Sum.inl k:=e1;subst e4;obtain ⟨t,rfl⟩:=Value.isInt_shape (k:=k) (v:=v) h2;exact .cons k t (vh ks vs acc e2 (by simpa using hl) fun j w' hj=>h (j+1) w' (by simpa using hj))
theorem SD {kvs:List (Key×V)} {vs:List (Key×Value)} (r:KV kvs vs):vs.map (·.1)=kvs.map (·.1):=by
 induction r with
 |nil=>rfl
 |cons h _ ih=>rw [List.map_cons,List.map_cons,ih,h.1]
theorem Dz (hc:X.calm=true):fq X (.builtin "sorted") Qv:=by
 intro pins s σ H vs us Q I r h;obtain ⟨d,kvs,ks,rfl,hd,hk,q⟩:=h;obtain ⟨u,rfl,rx⟩:=vals1 r;cases rx;obtain ⟨z,hm,ws,rel,dd⟩:=Qe I.cf hd;obtain ⟨ep,VE⟩:=dd.dictAt;have hlen:ws.length=kvs.length:=(Paired.length rel).symm;refine Calls.call_function_entry kind_sorted plain_sorted entry_sorted (args_sorted1 _) ?_;unfold Builtin.«sorted»;refine wpAny_bind (m:=checkCount "sorted" 1 1 _) (wpAny_pure ?_);refine wpAny_bind (PySem.W.kdu_collect (A:=X.A.in1) (PySem.W.kdl_dict (knd:=bO X.prog X.w) (kvs:=ws) (ep:=ep) hm) (I.ok.hd hc) VE (by lia) fun h' tk acc hkp aR=>?_);have hl:acc.toList.length=ws.length:=by rw [Array.length_toList];exact aR.1
 have hI:IntsAre acc.toList ks:=vh ks ws acc.toList (by rw [SD rel];exact hk) hl fun j v e=>aR.2 j v (by rw [<-Array.getElem?_toList];exact e)
 refine wpAny_bind (wpAny_newList ?_ (by rw [hl];lia));have I1:=I.kept (t':=tk) hkp;have PJ:(h'.push (seqObj "list" acc.toList.toArray 0)).get? h'.objs.size=some (seqObj "list" acc.toList.toArray 0):=Heap.get?_push_size _ rfl;have hks:ks.length=ws.length:=by
  have:=congrArg List.length hk;rw [List.length_map,List.length_map] at this
  lia
 refine wpAny_bind (wpAny_holding (wpAny_call_entry slot_list_sort ⟨_,PJ,rfl⟩ entry_list_sort (list_sort_treeAny PJ hI (by lia) fun out WN h1 h2 h3=>⟨_,rfl,?_⟩) (args_list_sort _)));obtain ⟨c,he'⟩:=sortedHeap_at (vs:=acc.toList) (out:=out) PJ;refine wpAny_pure ⟨_,rfl,?_⟩;refine ⟨.ref h'.objs.size,_,I1.laid (t':=tk) (a:=h'.objs.size) (o:= .lst (WN.map V.int)) (fun b o e=>?_) (Nat.le_refl _) ⟨by rw [List.length_map,h2.length_eq];lia,out.toList,c,xq h1,he'⟩,rfl,q WN _ h2 h3 (I1.cf.fresh (Nat.le_refl _))⟩;have hb:=Heap.lt_size e;rw [sortedHeap_old (Nat.ne_of_lt hb) (by rw [size_push'];exact Nat.lt_succ_of_lt hb)];exact Heap.get?_push_of_some _ e
def Cal (X:Cx) (f:Addr) (vs:List V) (H:Hp) (Q:VK):Prop:=∃ (k:Nat) (fd:FuncData) (ps:List Str) (sp:Sp),uP X.prog X.w X.K X.mg X.base Ql k f fd ps sp/\fP k X.A/\Binds X.K fd ps []/\sp vs H Q E0
theorem Qw (i:Nat) {x:Str} {e:Expr} {es:List Expr} {p:Pos} {t:TA} (ha:PA X (e::es) t) (hN:X.N[i]? =some x:=by rfl) (hv:UX X.env.scope x:=by first|exact Or.inl rfl|exact Or.inr (Or.inl rfl)|exact Or.inr (Or.inr rfl)) (hd:(x==("__debug__":Str))=false:=by decide)
  (J9:(x==("__classdict__":Str))=false:=by decide) (he:starEach (e::es) X.env=(false,eval e X.env)::starEach es X.env:=by rfl) (jP:(backTo pos (starEach es X.env)).any (·.1)=false:=by rfl):
  PE X (.Call (.Name x p) (e::es) [] pos) (fun σ H Q=>∃ f,σ[i]? =some (some (.ref f))/\PySem.W.keepIn X.K (.ref f)=true/\t σ H fun vs H1=>Cal X f vs H1 Q):=by
 intro pins s σ H Q I h;obtain ⟨f,h1,h2,h3⟩:=h;refine wpAny_Call_Name_kw (cY (LV hN hv hd J9 pins s σ H (fun v H'=>v=.ref f/\H'=H) I ⟨_,h1,rfl,rfl⟩) fun u s1 ⟨v,H1,I1,r1,e1,e2⟩=>?_);subst e1;subst e2;cases r1;refine PySem.W.callWith_K (h₀:=X.base) I.ok.mod.WC h2 (cY (ha pos pins s1 σ _ _ I1 h3) fun us s2 ⟨vs,H2,I2,r2,q⟩=>⟨I2.LL,?_⟩) he jP;obtain ⟨k,fd,ps,sp,F,hr,hb,q⟩:=q;exact Ma (dvs:=[]) F hr hb .nil i0 I2 r2 (by rw [List.append_nil];exact q)
def xF (K:PySem.W.Frag) (P:Program) (w:World) (d:Addr) (kvs:List (Key×V)):Prop:=∃ vs,KV kvs vs/\∀ h:Heap,K.In h->h.DictOf (bO P w) d vs
def XS (X:Cx) (td ty:TE):TE:=fun σ H Q=>td σ H fun x H1=>ty σ H1 fun y H2=>∃ a kvs k v,x=.ref a/\xF X.K X.prog X.w a kvs/\y=kV k/\wF kvs k=some v/\Q v H2
theorem Qx {o i:Expr} {td ty:TE} (ho:PE X o td) (hi:PE X i ty) (hs:Sn i):PE X (.Subscript o i pos) (XS X td ty):=by
 intro pins s σ H Q I h;refine NH PySem.F.slot_dict_getitem.lookup hs (cY (ho pins s σ H _ I h) fun u s1 ⟨x,H1,I1,rx,q1⟩=>cY (hi pins s1 σ H1 _ I1 q1) fun iv s2 ⟨y,H2,I2,ry,a,kvs,k,v,ex,⟨vs,rel,dd⟩,ey,l,q2⟩=>?_);subst ex;subst ey;obtain rfl:u=Value.ref a:=rx;have dd:=dd _ I2.LL;obtain ⟨w',hw,Kh⟩:=wA.some_of (v:=v) (o:=valueAt vs k) (by rw [<-l];exact rel.val k);exact ⟨dd.typeIs,wpAny_getItem_of (Kq ry) dd.mapOf hw ⟨v,H2,I2.tok _,Kh,q2⟩⟩
theorem ixL (K:PySem.W.Frag) (h:X.K=K:=by rfl):Xl X (Va K):=by subst h;exact R9
theorem ixT (K:PySem.W.Frag) (h:X.K=K:=by rfl):Xl X (Vb K):=by subst h;exact Vc
theorem KJ (K:PySem.W.Frag) (h:X.K=K:=by rfl):SlR X (Sa K):=by subst h;exact Sb
theorem inS (K:PySem.W.Frag) (h:X.K=K:=by rfl):zq X (compareOp .In) (rIn K false):=by subst h;exact Ox
theorem aaH (K:PySem.W.Frag) (h:X.K=K:=by rfl):fq X (.builtin "len") (fun xs H Q=>∃ p ys,xs=[.ref p]/\(aH K H p ys∨pO K H p ys)/\Q (.int ys.length) H):=by subst h;exact Io
theorem listS (K:PySem.W.Frag) (h:X.K=K:=by rfl):fq X (.type "list") (fun xs H Q=>∃ p ys,xs=[.ref p]/\(aH K H p ys∨pO K H p ys)/\∀ l,H l=none->Q (.ref l) (upd H l (.lst ys))):=by subst h;exact Ip
theorem Qy (K:PySem.W.Frag) (h:X.K=K:=by rfl):fq X (.type "tuple") (fun xs H Q=>∃ p ys,xs=[.ref p]/\((aH K H p ys/\∀ l,H l=none->Q (.ref l) (upd H l (.tup ys)))∨(pO K H p ys/\Q (.ref p) H))):=by subst h;exact Fy
theorem Qz (K:PySem.W.Frag) (hc:X.calm=true:=by rfl) (h:X.K=K:=by rfl):fq X (.builtin "sum") (Xp K):=by subst h;exact Vi hc
theorem aaI (K:PySem.W.Frag) (hc:X.calm=true:=by rfl) (h:X.K=K:=by rfl):fq X (.builtin "max") (Xq K):=by subst h;exact Vj hc
theorem aaJ (K:PySem.W.Frag) (hc:X.calm=true:=by rfl) (h:X.K=K:=by rfl):fq X (.builtin "min") (Xr K):=by subst h;exact Vk hc
theorem SE (K:PySem.W.Frag) (hc:X.calm=true:=by rfl) (h:X.K=K:=by rfl):fq X (.builtin "all") (Xs K):=by subst h;exact Vl hc
theorem SF (K:PySem.W.Frag) (h:X.K=K:=by rfl):WH X "list.extend" (Ug K):=by subst h;exact Mu
theorem aF (K:PySem.W.Frag) {e:Expr} {f:Str} {ta:TE} (he:PE X e ta) (h:X.K=K:=by rfl) (hb:attributeBase e f X.env (eval e X.env)=eval e X.env:=by rfl):PE X (.Attribute e f pos) (R6 K ta f):=by subst h;exact U7 he hb
theorem DA (K:PySem.W.Frag) {tg l:Expr} {tl:TE} (hl:PE X l tl) (h:X.K=K:=by rfl):PI X tg l (TV K tl):=by subst h;exact RX hl
theorem piT (K:PySem.W.Frag) {tg l:Expr} {tl:TE} (hl:PE X l tl) (h:X.K=K:=by rfl):PI X tg l (Xe K tl):=by subst h;exact U3 hl
theorem Uh (K:PySem.W.Frag) {P:Program} {w:World} {o i:Expr} {td ty:TE} (ho:PE X o td) (hi:PE X i ty) (hs:Sn i) (h:X.K=K:=by rfl) (h1:X.prog=P:=by rfl) (h2:X.w=w:=by rfl):
  PE X (.Subscript o i pos) (fun σ H Q=>td σ H fun x H1=>ty σ H1 fun y H2=>∃ a kvs k v,x=.ref a/\xF K P w a kvs/\y=kV k/\wF kvs k=some v/\Q v H2):=by subst h h1 h2;exact Qx ho hi hs
theorem xL (K:PySem.W.Frag) (ha:PE X a ta) (hb:PE X b tb) (hs:Ik b:=by exact fun _ _=>rfl) (h:X.K=K:=by rfl):PE X (.Subscript a b pos) (TX (Va K) ta tb):=P2 (ixL K h) ha hb hs
theorem xT (K:PySem.W.Frag) (ha:PE X a ta) (hb:PE X b tb) (hs:Ik b:=by exact fun _ _=>rfl) (h:X.K=K:=by rfl):PE X (.Subscript a b pos) (TX (Vb K) ta tb):=P2 (ixT K h) ha hb hs
theorem eL (K:PySem.W.Frag) {p:Pos} (m:X.mg "len"=none) (ha:PE X a ta) (hg:Gl X "len":=by rfl) (he:starEach [a] X.env=(false,eval a X.env)::starEach [] X.env:=by rfl) (h:X.K=K:=by rfl):
  PE X (.Call (.Name "len" p) [a] [] pos) (tCB (fun xs H Q=>∃ p ys,xs=[.ref p]/\(aH K H p ys∨pO K H p ys)/\Q (.int ys.length) H) (oB ta C2)):=cj (aaH K h) hg m PySem.boot_len (aQ ha ft he) (he:=he)
theorem fR {op:CmpOp} {r:R2} (ho:zq X (compareOp op) r) (ha:PE X a ta) (hb:PE X b tb) (hm:behindInMarks op b=false:=by exact L1 _):PE X (.Compare a [op] [b] pos) (TX r ta tb):=R0 ho ha hb hm
theorem aS {op:CmpOp} {r:R2} (ho:zq X (compareOp op) r) (ha:PE X a ta) (hb:PE X b tb) (hm:behindInMarks op b=false:=by exact L1 _):PT X (.Compare a [op] [b] pos) (TZ (TX r ta tb)):=Ic ho ha hb hm
theorem bj (ha:PE X a ta) (h1:starEach [a] X.env=(false,eval a X.env)::starEach [] X.env:=by rfl):PA X [a] (oB ta C2):=aQ ha ft h1
theorem ie (ha:PE X a ta) (hb:PE X b tb) (h1:starEach [a,b] X.env=(false,eval a X.env)::starEach [b] X.env:=by rfl) (h2:starEach [b] X.env=(false,eval b X.env)::starEach [] X.env:=by rfl):PA X [a,b] (oB ta (oB tb C2)):=aQ ha (bj hb h2) h1
theorem fY (ha:PE X a ta) (hb:PE X b tb) (hc:PE X c tc) (h1:starEach [a,b,c] X.env=(false,eval a X.env)::starEach [b,c] X.env:=by rfl) (h2:starEach [b,c] X.env=(false,eval b X.env)::starEach [c] X.env:=by rfl) (h3:starEach [c] X.env=(false,eval c X.env)::starEach [] X.env:=by rfl):PA X [a,b,c] (oB ta (oB tb (oB tc C2))):=aQ ha (ie hb hc h2 h3) h1
theorem gN (i:Nat) {x:Str} (hN:X.N.Nodup) (hi:X.N[i]? =some x:=by rfl) (hx:Loc X.env.scope x:=by first|exact Or.inl rfl|exact Or.inr rfl) (hf:X.fn x=true∨X.env.scope.names.lookup x=some .local:=by first|exact .inl rfl|exact .inr rfl|assumption):PG X (.Name x pos) (oz i):=RV hN hi hx hf
theorem sS (i:Nat) {x:Str} {pos':Pos} (hN:X.N.Nodup) (he:PE X a ta) (hi:X.N[i]? =some x:=by rfl) (hx:Loc X.env.scope x:=by first|exact Or.inl rfl|exact Or.inr rfl) (hs:swapsWith a (some (.Name x pos')) pos.line X.env=pure false:=by rfl) (hf:X.fn x=true∨X.env.scope.names.lookup x=some .local:=by first|exact .inl rfl|exact .inr rfl|assumption):
  PS X (.Assign [.Name x pos'] a pos) (RW ta (oz i)):=U1 hN hi hx he hs hf
end
section
variable {P:Program} {w:World} {K:PySem.W.Frag} {mg:Str->Option Value} {base:Heap} {x:Str} {st:Stmt} {f:Addr} {fd:FuncData} {N ps:List Str}
structure Dn (K:PySem.W.Frag) (mg:Str->Option Value) (x:Str) (st:Stmt) (f:Addr) (fd:FuncData) (ps:List Str):Prop where
 fn:Iw K x x st f fd
 bd:Binds K fd ps []
 gl:mg x=some (.ref f)
theorem eC {X:Cx} {k j:Nat} {sp:Sp} {e:Expr} {es:List Expr} {p pos:Pos} {t:TA} (F:uP P w K mg base Ql k f fd ps sp) (hr:fP j X.A) (D:Dn K mg x st f fd ps) (ha:PA X (e::es) t) (hj:k<=j:=by decide) (hg:Gl X x:=by rfl)
  (h1:X.prog=P:=by rfl) (h2:X.w=w:=by rfl) (h3:X.K=K:=by rfl) (h4:X.mg=mg:=by rfl) (h5:X.base=base:=by rfl)
  (Ov:(x==("__debug__":Str))=false:=by decide) (he:starEach (e::es) X.env=(false,eval e X.env)::starEach es X.env:=by rfl) (jP:(backTo pos (starEach es X.env)).any (·.1)=false:=by rfl):PE X (.Call (.Name x p) (e::es) [] pos) (Nz sp [] E0 t):=by
 subst h1 h2 h3 h4 h5;exact R8 F (hr.mono hj) hg D.gl D.fn.kp D.bd .nil i0 ha Ov he jP
abbrev Bd (P:Program) (w:World) (K:PySem.W.Frag) (mg:Str->Option Value) (base:Heap) (N:List Str) (x:Str) (st:Stmt) (f:Addr) (bB:Value) (A:Around) (outer:List Env) (s:Shared) (H:Hp) (vs:List V) (Q:VK) (E:XK):Prop:=
 ∃ t,LS (Mb Ql P w K mg base N x (af st) f bB A outer s H E).WE (dY st) t/\t {nx:=fun _ H'=>Q .cx H',rt:=Q} (start N vs) H
theorem _root_.L2.Iw.Ui {y:Str} {k:Nat} {sp:Sp} (F:Iw K x y st f fd) (S:ak N ps (af st)) (len:∀ vs H Q E,sp vs H Q E->vs.length=ps.length)
  (C4:N.Nodup->∀ (bB:Value) (A:Around) (outer:List Env) (s:Shared) (H:Hp) (vs:List V) (Q:VK) (E:XK),fP k (A.deeper (envOfC y (af st) s.heap.objs.size f bB))->sp vs H Q E->
   Bd P w K mg base N y st f bB A outer s H vs Q E):uP P w K mg base Ql (k+1) f fd ps sp:=F.ok S len (C4 S.nd)
theorem Dn.ok {k:Nat} {sp:Sp} (D:Dn K mg x st f fd ps) (S:ak N ps (af st)) (len:∀ vs H Q E,sp vs H Q E->vs.length=ps.length)
  (C4:N.Nodup->∀ (bB:Value) (A:Around) (outer:List Env) (s:Shared) (H:Hp) (vs:List V) (Q:VK) (E:XK),fP k (A.deeper (envOfC x (af st) s.heap.objs.size f bB))->sp vs H Q E->
   Bd P w K mg base N x st f bB A outer s H vs Q E):uP P w K mg base Ql (k+1) f fd ps sp:=D.fn.ok S len (C4 S.nd)
def scB (N ps:List Str) (sc:Scope):Bool:=decide N.Nodup&&decide (∀ x∈ps,sc.names.lookup x=some .local∨sc.names.lookup x=some .cell)&&decide (∀ y∈sc.names,y.2≠.free)
theorem cU {sc:Scope} (h1:sc.kind=.function:=by rfl) (h2:sc.isCoroutine=false:=by rfl) (h3:sc.isGenerator=false:=by rfl) (h5:N.take ps.length=ps:=by rfl) (h:scB N ps sc=true:=by decide+kernel):ak N ps sc:=by
 unfold scB at h;rw [Bool.and_eq_true,Bool.and_eq_true] at h;exact ⟨h1,h2,h3,of_decide_eq_true h.1.1,h5,of_decide_eq_true h.1.2,of_decide_eq_true h.2⟩
end
def kF (K:PySem.W.Frag) (a:Addr) (xs:List V):Prop:=∃ (o:Obj) (its:Array Value) (n:Nat),K.lookup a=some o/\o.cls=.type "tuple"/\o.data=.seq its n/\its.size<=sizeLine/\Vals xs its.toList
theorem kF.sq {K:PySem.W.Frag} {H:Hp} {a:Addr} {xs:List V} (h:kF K a xs):pO K H a xs:= .inr h
def top (i:Nat):Stmt:=PySem.Challenge.pw_fighterbreeding_s01_answers.main.body.getD i (.Pass ⟨0,0,0,0⟩)
abbrev xG:Stmt:=inClass (top 2) 0
abbrev AS:Stmt:=top 3
abbrev lx:Stmt:=top 4
abbrev sF:Stmt:=top 5
abbrev Hf:Stmt:=top 6
abbrev jj:Stmt:=top 7
abbrev Hg:Stmt:=top 16
abbrev qE:Stmt:=top 17
abbrev qF:Stmt:=top 18
abbrev Hh:Stmt:=top 19
abbrev Hi:Stmt:=top 20
abbrev sG:Stmt:=top 21
abbrev Hj:Stmt:=top 22
abbrev jU:Stmt:=top 23
abbrev AU:Stmt:=inClass (top 33) 0
abbrev AV:Stmt:=top 34
abbrev vi:Stmt:=top 35
abbrev qG:Stmt:=top 36
abbrev AW:Stmt:=top 37
abbrev xH:Stmt:=top 38
abbrev mV:Stmt:=top 45
abbrev jV:Stmt:=top 46
abbrev vj:Stmt:=top 47
abbrev oI:Stmt:=top 48
abbrev vk:Stmt:=top 49
abbrev xI:Stmt:=top 50
abbrev vm:Stmt:=top 51
abbrev oJ:Stmt:=top 52
abbrev fg:Stmt:=top 53
abbrev DB:Stmt:=top 54
abbrev qH:Stmt:=inClass (top 58) 0
abbrev xJ:Stmt:=inClass (top 59) 0
abbrev xK:Stmt:=inClass (top 60) 0
abbrev pU:Stmt:=top 61
abbrev QA:Stmt:=top 62
abbrev AX:Stmt:=top 63
abbrev xM:Stmt:=top 64
abbrev pV:Stmt:=top 65
abbrev nS:Stmt:=top 66
abbrev ig:Stmt:=top 67
abbrev xN:Stmt:=top 68
abbrev jk:Stmt:=top 69
abbrev DC:Stmt:=top 70
abbrev xO:Stmt:=top 71
abbrev xP:Stmt:=top 72
abbrev pW:Stmt:=top 73
abbrev jF:Stmt:=top 74
abbrev Hk:Stmt:=top 75
abbrev gO:Stmt:=top 76
abbrev vn:Stmt:=top 77
abbrev oK:Stmt:=top 79
abbrev qI:Stmt:=top 80
abbrev oM:Stmt:=top 85
abbrev qJ:Stmt:=top 86
abbrev xQ:Stmt:=top 87
abbrev xR:Stmt:=inClass (top 88) 0
abbrev nU:Stmt:=inClass (top 88) 1
abbrev AY:Stmt:=top 90
abbrev sH:Stmt:=top 91
abbrev sI:Stmt:=top 92
abbrev AZ:Stmt:=inClass (top 110) 0
abbrev A0:Stmt:=top 111
abbrev DD:Stmt:=top 112
abbrev xS:Stmt:=top 113
abbrev Ba:Stmt:=top 114
abbrev sJ:Stmt:=top 115
abbrev sL:Stmt:=top 116
abbrev nV:Stmt:=top 117
abbrev Bb:Stmt:=top 118
abbrev sM:Stmt:=top 119
abbrev sO:Stmt:=top 120
abbrev jW:Stmt:=top 121
abbrev vo:Stmt:=top 122
abbrev xU:Stmt:=top 123
abbrev vp:Stmt:=top 124
abbrev qK:Stmt:=top 125
abbrev gP:Stmt:=top 126
abbrev sP:Stmt:=top 127
abbrev Hl:Stmt:=top 128
abbrev vq:Stmt:=top 129
abbrev sQ:Stmt:=top 130
abbrev qL:Stmt:=top 131
abbrev sR:Stmt:=top 132
abbrev Bc:Stmt:=top 133
abbrev ly:Stmt:=top 134
abbrev sT:Stmt:=top 135
abbrev gI:Stmt:=top 136
abbrev mW:Stmt:=top 137
abbrev qM:Stmt:=top 138
abbrev vr:Stmt:=top 142
abbrev Be:Stmt:=top 144
abbrev lz:Stmt:=top 145
abbrev zF:Stmt:=top 146
theorem vt:ak ["self","cells","hands","rounds","apart","longest","starts"] ["self","cells","hands","rounds","apart","longest","starts"] (af xG):=cU
theorem xV:ak ["number","least","greatest"] ["number","least","greatest"] (af AS):=cU
theorem qN:ak ["row","at"] ["row"] (af lx):=cU
theorem qO:ak ["program","row","cell"] ["program"] (af sF):=cU
theorem DE:ak ["world","cell","last"] ["world","cell"] (af Hf):=cU
theorem mX:ak ["world","row","cell"] ["world","row"] (af jj):=cU
theorem DF:ak ["program","numbers","ring_size","place","part","cell"] ["program","numbers","ring_size"] (af Hg):=cU
theorem oN:ak ["program","numbers","ring_size","place","cell"] ["program","numbers","ring_size"] (af qE):=cU
theorem oO:ak ["program","numbers","place"] ["program","numbers"] (af qF):=cU
theorem DG:ak ["program","numbers","place","behind"] ["program","numbers"] (af Hh):=cU
theorem DH:ak ["program","other","numbers"] ["program","other","numbers"] (af Hi):=cU
theorem qP:ak ["world","kind","numbers","program","other"] ["world","kind","numbers","program","other"] (af sG):=cU
theorem DI:ak ["world","kind","numbers","program","other","filled"] ["world","kind","numbers","program","other"] (af Hj):=cU
theorem oP:ak ["draws","kind","bound"] ["draws","kind"] (af jU):=cU
theorem xW:ak ["self","cells","hands","turn","left","most"] ["self","cells","hands","turn","left","most"] (af AU):=cU
theorem xX:ak ["ring"] ["ring"] (af AV):=cU
theorem sU:ak ["cells","cell","at_a","at_b","op","a_cell","b_cell"] ["cells","cell","at_a","at_b"] (af vi):=cU
theorem oQ:ak ["op","following","at_a","b_number"] ["op","following","at_a","b_number"] (af qG):=cU
theorem xY:ak ["ring","cells","row","place","cell","at_a","at_b","following","places","going"] ["ring"] (af AW):=cU
theorem vw:ak ["ring"] ["ring"] (af xH):=cU
theorem lA:ak ["world"] ["world"] (af mV):=cU
theorem oR:ak ["world","total","played","i"] ["world"] (af jV):=cU
theorem sV:ak ["world","program","other","start","turn","between","behind","cells"] ["world","program","other","start","turn"] (af vj):=cU
theorem mY:ak ["ring"] ["ring"] (af oI):=cU
theorem sW:ak ["world","program","other","start","turn","ring"] ["world","program","other","start","turn"] (af vk):=cU
theorem vx:ak ["world","ring"] ["world","ring"] (af xI):=cU
theorem sX:ak ["world","program","other","start","turn"] ["world","program","other","start","turn"] (af vm):=cU
theorem mZ:ak ["world","program","other","total","start"] ["world","program","other"] (af oJ):=cU
theorem ij:ak ["world","panel","program","other"] ["world","panel","program"] (af fg):=cU
theorem Bf:ak ["world","panel","program"] ["world","panel","program"] (af DB):=cU
theorem oS:ak ["self","program","score","generation","parents","recipe","steps"] ["self","program","score","generation","parents","recipe","steps"] (af qH):=cU
theorem vy:ak ["self","islands","size","elite","pick","every","weights"] ["self","islands","size","elite","pick","every","weights"] (af xJ):=cU
theorem vz:ak ["self","world"] ["self","world"] (af xK):=cU
theorem vA:ak ["arena","parents","parent"] ["arena","parents"] (af pU):=cU
theorem NS:ak ["arena","program","parents","recipe","score","steps"] ["arena","program","parents","recipe"] (af QA):=cU
theorem xZ:ak ["arena","program"] ["arena","program"] (af AX):=cU
theorem vB:ak ["arena","draws","length","numbers","place"] ["arena"] (af xM):=cU
theorem sY:ak ["arena","numbers"] ["arena","numbers"] (af pV):=cU
theorem sZ:ak ["arena","row"] ["arena"] (af nS):=cU
theorem lB:ak ["arena","programs","row","number"] ["arena"] (af ig):=cU
theorem vC:ak ["size","island"] ["size","island"] (af xN):=cU
theorem nc:ak ["arena","rates","draws","island"] ["arena","rates","draws"] (af jk):=cU
theorem Hm:ak ["arena","row","places","time_picked"] ["arena","row"] (af DC):=cU
theorem vD:ak ["arena","number","kind","bound"] ["arena"] (af xO):=cU
theorem vE:ak ["arena","row","parent","kind","second","numbers","program"] ["arena","row"] (af xP):=cU
theorem vF:ak ["arena","row","staying","children","place"] ["arena","row"] (af pW):=cU
theorem i7:ak ["arena","every"] ["arena"] (af jF):=cU
theorem DJ:ak ["arena","rows","place","row","comer"] ["arena"] (af Hk):=cU
theorem ko:ak ["arena","row"] ["arena"] (af gO):=cU
theorem tj:ak ["arena","generations","rates"] ["arena","generations"] (af vn):=cU
theorem ng:ak ["before","cell","other","found","at","kept_or_changed"] ["before","cell","other"] (af oK):=cU
theorem oT:ak ["program","other","distances","cell"] ["program","other"] (af qI):=cU
theorem nh:ak ["number"] ["number"] (af oM):=cU
theorem oU:ak ["number"] ["number"] (af qJ):=cU
theorem vG:ak ["m"] ["m"] (af xQ):=cU
theorem vH:ak ["self","number"] ["self","number"] (af xR):=cU
theorem DK:ak ["self","m","bound","again"] ["self","m"] (af nU):=cU
theorem x9:ak ["born","number","family","at","parent"] ["born","number"] (af AY):=cU
theorem ya:ak ["born","number","one"] ["born","number"] (af sH):=cU
theorem yb:ak ["born","number","other","others","one"] ["born","number","other"] (af sI):=cU
theorem yc:ak ["self"] ["self"] (af AZ):=cU
theorem yd:ak ["value","rows","answer","row"] ["value","rows"] (af A0):=cU
theorem Bg:ak ["numbers","n","d","longest"] ["numbers"] (af DD):=cU
theorem vJ:ak ["line","numbers","world"] ["line","numbers"] (af xS):=cU
theorem ye:ak ["arena"] ["arena"] (af Ba):=cU
theorem qQ:ak ["arena","numbers","rows"] ["arena","numbers","rows"] (af sJ):=cU
theorem qR:ak ["arena","numbers","rows","number"] ["arena","numbers","rows"] (af sL):=cU
theorem tm:ak ["weights","weight"] ["weights"] (af nV):=cU
theorem yf:ak ["numbers","weights","size"] ["numbers","weights"] (af Bb):=cU
theorem qS:ak ["arena","numbers","rows","rates"] ["arena","numbers","rows"] (af sM):=cU
theorem qT:ak ["arena","numbers","rows","generation"] ["arena","numbers","rows"] (af sO):=cU
theorem oV:ak ["arena","numbers","rows","living","number"] ["arena","numbers","rows"] (af jW):=cU
theorem tp:ak ["arena","number"] ["arena","number"] (af vo):=cU
theorem vK:ak ["arena","numbers","rows","one"] ["arena","numbers","rows"] (af xU):=cU
theorem tq:ak ["arena","numbers","rows","found"] ["arena","numbers","rows"] (af vp):=cU
theorem oW:ak ["arena","numbers","rows","found"] ["arena","numbers","rows"] (af qK):=cU
theorem kq:ak ["world","rows","row"] ["world","rows"] (af gP):=cU
theorem qU:ak ["arena","numbers","rows","points"] ["arena","numbers","rows"] (af sP):=cU
theorem DL:ak ["world","start","turn"] ["world","start","turn"] (af Hl):=cU
theorem tu:ak ["arena","numbers","rows","world","ring"] ["arena","numbers","rows"] (af vq):=cU
theorem yg:ak ["kind","numbers","number"] ["kind","numbers"] (af sQ):=cU
theorem oX:ak ["arena","numbers","rows","program"] ["arena","numbers","rows"] (af qL):=cU
theorem qV:ak ["arena","numbers","rows"] ["arena","numbers","rows"] (af sR):=cU
theorem yh:ak ["number","m","how_many"] ["number","m","how_many"] (af Bc):=cU
theorem qW:ak ["numbers","draws","drawn","time_drawn"] ["numbers"] (af ly):=cU
theorem qX:ak ["arena","numbers","rows"] ["arena","numbers","rows"] (af sT):=cU
theorem oY:ak ["arena","numbers","rows","living","times","program"] ["arena","numbers","rows"] (af gI):=cU
theorem lC:ak ["arena"] ["arena"] (af mW):=cU
theorem oZ:ak ["arena","numbers","rows","told"] ["arena","numbers","rows"] (af qM):=cU
theorem tw:ak ["line","call","numbers","rows","answering"] ["line","call","numbers","rows"] (af vr):=cU
theorem yi:ak ["calls","at","how_many","rows","end"] ["calls","at","how_many"] (af Be):=cU
theorem qY:ak ["at","rows","row"] ["at","rows"] (af lz):=cU
theorem DM:ak ["calls","line","written","at","call","rows_at","numbers","rows","answer"] ["calls"] (af zF):=cU
set_option genInjectivity false in
set_option genSizeOf false in
structure Ad where
 (tb wK Hn yj yk NT tD pointed vL vM doubled NU ym changed vO zG Ho Bh vP Hq DO qZ vQ Bi tE Bj DP Bk tF ku KL nW wL wN DQ SG Hr DR KN Bl q4 DS tG picked DT DU DV lD NV o5 Bm tH vR tI vS DW wO tJ Hs forebears Ht zH Hu KO DX Hv ik ip Bn Hw iq iu gg Bo lE jG gh o7 iw NW jH Hx gk iy Hy yn iz gm q5 gn Bp Hz yo answers dZ gQ bK d7 bJ iA lF tK jl jm jn jo jq c6 cM cN eB bc:Addr)
 (eY iB eD eE lG c7 lH dB dC lI lJ eF lK dD fS iC fw dE iD gq cO dF fz c8 fA gr fB c9 bT jI cI eZ fb gs yp iE gu gZ fC cP gv da o8 gw gx gy bX lL cy fD dc dG de dH gz fe dI iF iG iH fT iI jJ gA iJ eG eI fE iK eJ eO dJ fF gB fG dN cz eQ lM fH iL dO eR iM eS eT dP cQ dQ fI iN eU jr:FuncData)
structure Tx (P:Program) (w:World) (K:PySem.W.Frag) (mg:Str->Option Value) (base:Heap) (ad:Ad):Prop where
 aaK:base.BuiltinsAt mg ad.tb
 aaL:∃ c,ad.gZ.code=.ref c/\PySem.W.CodeHd base c ad.tb
 kG:Iw K "__init__" "World.__init__" xG ad.wK ad.eY
 pX:Binds K ad.eY ["self","cells","hands","rounds","apart","longest","starts"] []
 aP:Dn K mg "is_within" AS ad.Hn ad.iB ["number","least","greatest"]
 bp:Dn K mg "cells_of_row" lx ad.yj ad.eD ["row"]
 lN:Dn K mg "row_of_cells" sF ad.yk ad.eE ["program"]
 HA:Dn K mg "is_cell" Hf ad.NT ad.lG ["world","cell"]
 dR:Dn K mg "is_program_row" jj ad.tD ad.c7 ["world","row"]
 HB:Dn K mg "pointed" Hg ad.pointed ad.lH ["program","numbers","ring_size"]
 rd:Dn K mg "with_one_more" qE ad.vL ad.dB ["program","numbers","ring_size"]
 rf:Dn K mg "with_one_less" qF ad.vM ad.dC ["program","numbers"]
 HC:Dn K mg "doubled" Hh ad.doubled ad.lI ["program","numbers"]
 HD:Dn K mg "crossed" Hi ad.NU ad.lJ ["program","other","numbers"]
 tL:Dn K mg "uncut_change" sG ad.ym ad.eF ["world","kind","numbers","program","other"]
 zI:Dn K mg "changed" Hj ad.changed ad.lK ["world","kind","numbers","program","other"]
 rg:Dn K mg "numbers_drawn" jU ad.vO ad.dD ["draws","kind"]
 ni:Iw K "__init__" "Ring.__init__" AU ad.zG ad.fS
 tM:Binds K ad.fS ["self","cells","hands","turn","left","most"] []
 Bq:Dn K mg "has_ended" AV ad.Ho ad.iC ["ring"]
 vT:Dn K mg "write_cells" vi ad.Bh ad.fw ["cells","cell","at_a","at_b"]
 rh:Dn K mg "places_behind" qG ad.vP ad.dE ["op","following","at_a","b_number"]
 Br:Dn K mg "take_turn" AW ad.Hq ad.iD ["ring"]
 yq:Dn K mg "run_to_end" xH ad.DO ad.gq ["ring"]
 iO:Dn K mg "how_many_starts" mV ad.qZ ad.cO ["world"]
 jX:Dn K mg "starts_played" jV ad.vQ ad.dF ["world"]
 vU:Dn K mg "ring_before" vj ad.Bi ad.fz ["world","program","other","start","turn"]
 js:Dn K mg "result_of_ring" oI ad.tE ad.c8 ["ring"]
 nX:Dn K mg "ring_behind" vk ad.Bj ad.fA ["world","program","other","start","turn"]
 yr:Dn K mg "turns_done" xI ad.DP ad.gr ["world","ring"]
 nY:Dn K mg "game_points" vm ad.Bk ad.fB ["world","program","other","start","turn"]
 o9:Dn K mg "points_against" oJ ad.tF ad.c9 ["world","program","other"]
 fh:Dn K mg "points_against_each" fg ad.ku ad.bT ["world","panel","program"]
 DY:Dn K mg "score_of" DB ad.KL ad.jI ["world","panel","program"]
 gJ:Iw K "__init__" "Somebody.__init__" qH ad.nW ad.cI
 jY:Binds K ad.cI ["self","program","score","generation","parents","recipe","steps"] []
 kH:Iw K "__init__" "Rates.__init__" xJ ad.wL ad.eZ
 pY:Binds K ad.eZ ["self","islands","size","elite","pick","every","weights"] []
 kI:Iw K "__init__" "Arena.__init__" xK ad.wN ad.fb
 pZ:Binds K ad.fb ["self","world"] []
 yt:Dn K mg "steps_back" pU ad.DQ ad.gs ["arena","parents"]
 IH:Dn K mg "bear" QA ad.SG ad.yp ["arena","program","parents","recipe"]
 Bs:Dn K mg "bear_told" AX ad.Hr ad.iE ["arena","program"]
 yu:Dn K mg "bear_drawn" xM ad.DR ad.gu ["arena"]
 p7:Dn K mg "in_order" pV ad.KN ad.gZ ["arena","numbers"]
 nZ:Dn K mg "best_scores" nS ad.Bl ad.fC ["arena"]
 nj:Dn K mg "living_programs" ig ad.q4 ad.cP ["arena"]
 yw:Dn K mg "first_ones" xN ad.DS ad.gv ["size","island"]
 pd:Dn K mg "begin_breeding" jk ad.tG ad.da ["arena","rates","draws"]
 DZ:Dn K mg "picked" DC ad.picked ad.o8 ["arena","row"]
 yx:Dn K mg "kind_drawn" xO ad.DT ad.gw ["arena"]
 yy:Dn K mg "bear_child" xP ad.DU ad.gx ["arena","row"]
 yz:Dn K mg "row_behind" pW ad.DV ad.gy ["arena","row"]
 jK:Dn K mg "is_time_to_go_over" jF ad.lD ad.bX ["arena"]
 HE:Dn K mg "go_over" Hk ad.NV ad.lL ["arena"]
 lO:Dn K mg "breed_generation" gO ad.o5 ad.cy ["arena"]
 vV:Dn K mg "born_behind" vn ad.Bm ad.fD ["arena","generations"]
 pf:Dn K mg "distances_with" oK ad.tH ad.dc ["before","cell","other"]
 rj:Dn K mg "how_far_apart" qI ad.vR ad.dG ["program","other"]
 jt:Dn K mg "is_draw_number" oM ad.tI ad.de ["number"]
 jZ:Dn K mg "number_behind" qJ ad.vS ad.dH ["number"]
 yA:Dn K mg "fair_bound" xQ ad.DW ad.gz ["m"]
 kJ:Iw K "__init__" "Draws.__init__" xR ad.wO ad.fe
 kK:Binds K ad.fe ["self","number"] []
 jA:Iw K "below" "Draws.below" nU ad.tJ ad.dI
 bQ:Binds K ad.dI ["self","m"] []
 cG:Meth K ad.iA "below" ad.tJ
 nq:Dn K mg "family_of" AY ad.Hs ad.iF ["born","number"]
 Bt:Dn K mg "forebears" sH ad.forebears ad.iG ["born","number"]
 Bu:Dn K mg "in_common" sI ad.Ht ad.iH ["born","number","other"]
 nt:Iw K "__init__" "Line.__init__" AZ ad.zH ad.fT
 tN:Binds K ad.fT ["self"] []
 bt:Dn K mg "with_rows" A0 ad.Hu ad.iI ["value","rows"]
 D0:Dn K mg "is_world" DD ad.KO ad.jJ ["numbers"]
 yB:Dn K mg "answer_new" xS ad.DX ad.gA ["line","numbers"]
 g6:Dn K mg "has_begun" Ba ad.Hv ad.iJ ["arena"]
 lP:Dn K mg "answer_panel" sJ ad.ik ad.eG ["arena","numbers","rows"]
 lQ:Dn K mg "answer_first" sL ad.ip ad.eI ["arena","numbers","rows"]
 vW:Dn K mg "are_weights" nV ad.Bn ad.fE ["weights"]
 Bv:Dn K mg "are_rates" Bb ad.Hw ad.iK ["numbers","weights"]
 lR:Dn K mg "answer_begin" sM ad.iq ad.eJ ["arena","numbers","rows"]
 lS:Dn K mg "answer_breed" sO ad.iu ad.eO ["arena","numbers","rows"]
 j0:Dn K mg "answer_living" jW ad.gg ad.dJ ["arena","numbers","rows"]
 gC:Dn K mg "is_somebody" vo ad.Bo ad.fF ["arena","number"]
 p9:Dn K mg "answer_one" xU ad.lE ad.gB ["arena","numbers","rows"]
 oe:Dn K mg "answer_tree" vp ad.jG ad.fG ["arena","numbers","rows"]
 j1:Dn K mg "answer_common" qK ad.gh ad.dN ["arena","numbers","rows"]
 d8:Dn K mg "are_program_rows" gP ad.o7 ad.cz ["world","rows"]
 lT:Dn K mg "answer_score" sP ad.iw ad.eQ ["arena","numbers","rows"]
 HF:Dn K mg "is_game" Hl ad.NW ad.lM ["world","start","turn"]
 og:Dn K mg "answer_game" vq ad.jH ad.fH ["arena","numbers","rows"]
 Bw:Dn K mg "is_recipe" sQ ad.Hx ad.iL ["kind","numbers"]
 j3:Dn K mg "answer_change" qL ad.gk ad.dO ["arena","numbers","rows"]
 lU:Dn K mg "answer_apart" sR ad.iy ad.eR ["arena","numbers","rows"]
 Bx:Dn K mg "are_draws" Bc ad.Hy ad.iM ["number","m","how_many"]
 tO:Dn K mg "answer_draws" ly ad.yn ad.eS ["numbers"]
 lV:Dn K mg "answer_bests" sT ad.iz ad.eT ["arena","numbers","rows"]
 j4:Dn K mg "answer_unlike" gI ad.gm ad.dP ["arena","numbers","rows"]
 nu:Dn K mg "draw_number_now" mW ad.q5 ad.cQ ["arena"]
 j5:Dn K mg "answer_counts" qM ad.gn ad.dQ ["arena","numbers","rows"]
 vX:Dn K mg "answer_call" vr ad.Bp ad.fI ["line","call","numbers","rows"]
 By:Dn K mg "rows_from" Be ad.Hz ad.iN ["calls","at","how_many"]
 tP:Dn K mg "place_behind" lz ad.yo ad.eU ["at","rows"]
 OO:Dn K mg "answers" zF ad.answers ad.jr ["calls"]
 II:mg "World"=some (.ref ad.dZ)
 df:Fv K ad.dZ
 SH:Mk K ad.dZ ad.wK
 vY:aD K ad.dZ "cells"
 vZ:aD K ad.dZ "hands"
 tQ:aD K ad.dZ "rounds"
 v3:aD K ad.dZ "apart"
 rm:aD K ad.dZ "longest"
 tR:aD K ad.dZ "starts"
 Mw:mg "Ring"=some (.ref ad.gQ)
 fj:Fv K ad.gQ
 VF:Mk K ad.gQ ad.zG
 yC:aD K ad.gQ "cells"
 yD:aD K ad.gQ "hands"
 tS:aD K ad.gQ "turn"
 tT:aD K ad.gQ "left"
 Bz:aD K ad.gQ "most"
 wQ:mg "Somebody"=some (.ref ad.bK)
 bE:Fv K ad.bK
 Mx:Mk K ad.bK ad.nW
 lW:aD K ad.bK "program"
 ph:aD K ad.bK "score"
 i8:aD K ad.bK "generation"
 lX:aD K ad.bK "parents"
 nv:aD K ad.bK "recipe"
 pj:aD K ad.bK "steps"
 IJ:mg "Rates"=some (.ref ad.d7)
 dg:Fv K ad.d7
 SI:Mk K ad.d7 ad.wL
 rA:aD K ad.d7 "islands"
 yE:aD K ad.d7 "size"
 v5:aD K ad.d7 "elite"
 yF:aD K ad.d7 "pick"
 v7:aD K ad.d7 "every"
 rB:aD K ad.d7 "weights"
 IK:mg "Arena"=some (.ref ad.bJ)
 bD:Fv K ad.bJ
 SJ:Mk K ad.bJ ad.wN
 v8:aD K ad.bJ "world"
 v9:aD K ad.bJ "panel"
 yG:aD K ad.bJ "born"
 oh:aD K ad.bJ "rates"
 oi:aD K ad.bJ "draws"
 qc:aD K ad.bJ "rows"
 gR:aD K ad.bJ "generation"
 wb:aD K ad.bJ "bests"
 CL:mg "Draws"=some (.ref ad.iA)
 dS:Fv K ad.iA
 NY:Mk K ad.iA ad.wO
 lY:aD K ad.iA "number"
 My:mg "Line"=some (.ref ad.lF)
 yH:Fv K ad.lF
 VG:Mk K ad.lF ad.zH
 qd:aD K ad.lF "arena"
 aX:mg "len"=none
 D9:mg "sum"=none
 KP:mg "min"=none
 QB:mg "max"=none
 HG:mg "all"=none
 Uj:mg "any"=none
 tU:mg "sorted"=none
 Ea:mg "list"=none
 CM:mg "tuple"=none
 d9:mg "range"=none
 HH:∃ u,mg "OPS"=some u/\RelV (.int 8) u
 CN:∃ u,mg "POINT"=some u/\RelV (.int 1) u
 Eb:∃ u,mg "PUT_IN"=some u/\RelV (.int 2) u
 tV:∃ u,mg "TAKEN_OUT"=some u/\RelV (.int 3) u
 zJ:∃ u,mg "DOUBLED"=some u/\RelV (.int 4) u
 uJ:∃ u,mg "CROSSED"=some u/\RelV (.int 5) u
 iP:∃ u,mg "MOST_NUMBERS"=some u/\RelV (.int 4) u
 lZ:∃ u,mg "BOUNDS_DRAWN"=some u/\RelV (.ref ad.tK) u
 zK:kF K ad.jl [.int 64,.int 3,.int 64]
 zL:kF K ad.jm [.int 64,.int 8,.int 64,.int 64]
 zM:kF K ad.jn [.int 64]
 zN:kF K ad.jo [.int 64,.int 64]
 zO:kF K ad.jq [.int 64,.int 64]
 l5:xF K P w ad.tK [(Sum.inl 1,V.ref ad.jl),(Sum.inl 2,V.ref ad.jm),(Sum.inl 3,V.ref ad.jn),(Sum.inl 4,V.ref ad.jo),(Sum.inl 5,V.ref ad.jq)]
 QC:∃ u,mg "DIE"=some u/\RelV (.int 0) u
 Mz:∃ u,mg "COPY"=some u/\RelV (.int 1) u
 QD:∃ u,mg "ADD"=some u/\RelV (.int 2) u
 VH:∃ u,mg "GO"=some u/\RelV (.int 3) u
 MA:∃ u,mg "GOIF"=some u/\RelV (.int 4) u
 MB:∃ u,mg "FORK"=some u/\RelV (.int 5) u
 QE:∃ u,mg "SET"=some u/\RelV (.int 6) u
 MC:∃ u,mg "SWAP"=some u/\RelV (.int 7) u
 kL:∃ u,mg "EMPTY_CELL"=some u/\RelV (.ref ad.c6) u
 qe:kF K ad.c6 [.int 0,.int 0,.int 0]
 tW:∃ u,mg "BOTH_LEFT"=some u/\RelV (.int 0) u
 oj:∃ u,mg "FIRST_ALONE"=some u/\RelV (.int 1) u
 tX:∃ u,mg "ELSE_LEFT"=some u/\RelV (.int 2) u
 gS:∃ u,mg "POINTS_OF_RESULT"=some u/\RelV (.ref ad.cM) u
 gT:kF K ad.cM [.int 1,.int 2,.int 0]
 MD:∃ u,mg "TOLD"=some u/\RelV (.int 9) u
 IL:∃ u,mg "DRAWN"=some u/\RelV (.int 0) u
 pk:∃ u,mg "MODULUS"=some u/\RelV (.int 2147483647) u
 Ec:∃ u,mg "FACTOR"=some u/\RelV (.int 48271) u
 om:∃ u,mg "TIMES_AGAIN"=some u/\RelV (.int 20) u
 gK:∃ u,mg "WRONG"=some u/\RelV (.int (-1)) u
 wR:∃ u,mg "NO_WORLD"=some u/\RelV (.int (-2)) u
 l6:∃ u,mg "TOO_LATE"=some u/\RelV (.int (-3)) u
 ny:∃ u,mg "TOO_EARLY"=some u/\RelV (.int (-4)) u
 l7:∃ u,mg "TOO_MANY"=some u/\RelV (.int (-5)) u
 g9:∃ u,mg "NONE_SUCH"=some u/\RelV (.int (-6)) u
 j6:∃ u,mg "TOO_MANY_BORN"=some u/\RelV (.int (-8)) u
 j7:∃ u,mg "MOST_IN_PANEL"=some u/\RelV (.int 4) u
 tY:∃ u,mg "MOST_TOLD"=some u/\RelV (.int 10) u
 tZ:∃ u,mg "MOST_BORN"=some u/\RelV (.int 300) u
 gU:∃ u,mg "HOW_MANY_WEIGHTS"=some u/\RelV (.int 5) u
 dk:∃ u,mg "GREATEST_RECIPE_NUMBER"=some u/\RelV (.int 1000) u
 fi:∃ u,mg "GREATEST_DRAW_BOUND"=some u/\RelV (.int 1000000) u
 qf:∃ u,mg "MOST_DRAWS"=some u/\RelV (.int 50) u
 QF:∃ u,mg "NEW"=some u/\RelV (.int 0) u
 IM:∃ u,mg "DRAWS"=some u/\RelV (.int 13) u
 gV:∃ u,mg "HOW_MANY_NUMBERS"=some u/\RelV (.ref ad.cN) u
 gW:kF K ad.cN [.int 6,.int 0,.int 0,.int 6,.int 1,.int 1,.int 1,.int 1,.int 2,.int 0,.int 2,.int 1,.int 0,.int 3,.int 0,.int 0,.int 0]
 j8:∃ u,mg "HOW_MANY_ROWS"=some u/\RelV (.ref ad.eB) u
 j9:kF K ad.eB [.int 0,.int 1,.int 1,.int 1,.int 0,.int 0,.int 0,.int 0,.int 0,.int 1,.int 2,.int 3,.int 2,.int 0,.int 0,.int 0,.int 0]
 ua:∃ u,mg "ANSWERING"=some u/\RelV (.ref ad.bc) u
 bf:xF K P w ad.bc [(Sum.inl 1,V.ref ad.ik),(Sum.inl 2,V.ref ad.ip),(Sum.inl 3,V.ref ad.iq),(Sum.inl 4,V.ref ad.iu),(Sum.inl 5,V.ref ad.gg),(Sum.inl 6,V.ref ad.lE),(Sum.inl 7,V.ref ad.jG),(Sum.inl 8,V.ref ad.gh),(Sum.inl 9,V.ref ad.iw),(Sum.inl 10,V.ref ad.jH),(Sum.inl 11,V.ref ad.gk),(Sum.inl 12,V.ref ad.iy),(Sum.inl 14,V.ref ad.iz),(Sum.inl 15,V.ref ad.gm),(Sum.inl 16,V.ref ad.gn)]
abbrev Ok {P:Program} {w:World} {K:PySem.W.Frag} {mg:Str->Option Value} {base:Heap} {ad:Ad} (_:Tx P w K mg base ad) (k:Nat) (f:Addr) (fd:FuncData) (ps:List Str) (sp:PySem.W.Frag->Ad->Sp):Prop:=uP P w K mg base Ql k f fd ps (sp K ad)
theorem KQ {f:Str} {y v0:V}:∀ {L:List (Str×V)} {i:Nat},(L.map (·.1)).Nodup->L[i]? =some (f,v0)->kD f y L=L.set i (f,y)
 |[],i,_,h=>by simp at h
 |(g,x)::r,0,_,h=>by
  have e:(g,x)=(f,v0):=Option.some.inj h;cases e;show (if f=f then (f,y)::r else (f,v0)::kD f y r)=_;rw [if_pos rfl];rfl
 |(g,x)::r,i+1,nd,h=>by
  obtain ⟨h1,h2⟩:=List.nodup_cons.mp (show (g::r.map (·.1)).Nodup from nd);have h':r[i]? =some (f,v0):=h;have ne:g≠f:=fun e=>h1 (by rw [e];exact List.mem_map.mpr ⟨(f,v0),List.mem_of_getElem? h',rfl⟩)
  show (if g=f then (g,y)::r else (g,x)::kD f y r)=_;rw [if_neg ne,KQ h2 h'];rfl
theorem fJ {f:Str} {y:V}:∀ {L:List (Str×V)},f∉L.map (·.1)->kD f y L=L++[(f,y)]
 |[],_=>rfl
 |(g,x)::r,h=>by
  have ne:g≠f:=fun e=>h (by rw [e];exact List.mem_cons_self ..)
  show (if g=f then (g,y)::r else (g,x)::kD f y r)=_;rw [if_neg ne,fJ fun z=>h (List.mem_cons_of_mem _ z)];rfl
theorem lookup_at {f:Str} {v:V}:∀ {L:List (Str×V)} {i:Nat},(L.map (·.1)).Nodup->L[i]? =some (f,v)->L.lookup f=some v
 |[],i,_,h=>by simp at h
 |(g,x)::r,0,_,h=>by
  have e:(g,x)=(f,v):=Option.some.inj h;cases e;rw [List.lookup_cons,beq_self_eq_true]
 |(g,x)::r,i+1,nd,h=>by
  obtain ⟨h1,h2⟩:=List.nodup_cons.mp (show (g::r.map (·.1)).Nodup from nd);have h':r[i]? =some (f,v):=h;have ne:¬ f=g:=fun e=>h1 (by rw [<-e];exact List.mem_map.mpr ⟨(f,v),List.mem_of_getElem? h',rfl⟩)
  rw [List.lookup_cons,show (f==g)=false from beq_eq_false_iff_ne.mpr ne];exact lookup_at h2 h'
theorem HI {f:Str}:∀ {L:List (Str×V)},f∉L.map (·.1)->L.lookup f=none
 |[],_=>rfl
 |(g,x)::r,h=>by
  have ne:¬ f=g:=fun e=>h (by rw [e];exact List.mem_cons_self ..)
  rw [List.lookup_cons,show (f==g)=false from beq_eq_false_iff_ne.mpr ne];exact HI fun z=>h (List.mem_cons_of_mem _ z)
abbrev Kx (a:Addr) (H H2:Hp):Prop:=∀ b o,H b=some o->b≠a->H2 b=some o
abbrev uK (K:PySem.W.Frag) (H:Hp) (a:Addr) (f:Str) (Q:V->Prop):Prop:=∃ a2 C dx fs v,V.ref a=.ref a2/\H a2=some (.ins C dx fs)/\Fv K C/\aD K C f/\fs.lookup f=some v/\Q v
abbrev SK (K:PySem.W.Frag) (H:Hp) (a:Addr) (f:Str) (y:V) (R:Hp->Prop):Prop:=∃ a2 C dx fs,V.ref a=.ref a2/\H a2=some (.ins C dx fs)/\Fv K C/\aD K C f/\fs.length<1000/\R (upd H a2 (.ins C dx (kD f y fs)))
section
variable {P:Program} {w:World} {K:PySem.W.Frag} {mg:Str->Option Value} {base:Heap} {ad:Ad} {H:Hp} {a:Addr} {x0 x1 x2 x3 x4 x5 x6 x7 y:V} {Q:V->Prop} {R:Hp->Prop}
theorem uQ {C:Addr} {fs:List (Str×V)} {f:Str} {v:V} (c:Fv K C) (n:aD K C f) (h:∃ dx,H a=some (.ins C dx fs)) (nd:(fs.map (·.1)).Nodup) (i:Nat) (q:Q v) (e:fs[i]? =some (f,v):=by rfl):uK K H a f Q:=
 let ⟨dx,h⟩:=h;⟨a,_,dx,_,_,rfl,h,c,n,lookup_at nd e,q⟩
theorem Uk {C:Addr} {fs:List (Str×V)} {f:Str} {v:V} (c:Fv K C) (n:aD K C f) (h:∃ dx,H a=some (.ins C dx fs)) (nd:(fs.map (·.1)).Nodup) (i:Nat) (q:∀ H2,(∃ dx,H2 a=some (.ins C dx (fs.set i (f,y))))->Kx a H H2->R H2) (e:fs[i]? =some (f,v):=by rfl) (hl:Nat.ble (fs.length+1) 1000=true:=by rfl):SK K H a f y R:=by
 obtain ⟨dx,h⟩:=h;refine ⟨a,_,dx,_,rfl,h,c,n,Nat.le_of_ble_eq_true hl,q _ ⟨dx,?_⟩ fun b o hb ne=>by rw [az ne];exact hb⟩;rw [ah,KQ nd e]
theorem putN {H H0 G:Hp} {C dx:Addr} {L:List (Str×V)} {f:Str} (h:H a=some (.ins C dx L)) (k:Kx a H0 H) (hn:¬ f∈L.map (·.1)) (e:upd H a (.ins C dx (kD f y L))=G):G a=some (.ins C dx (L++[(f,y)]))/\Kx a H0 G:=by
 subst e;rw [fJ hn];exact ⟨ah,fun b o hb ne=>by rw [az ne];exact k b o hb ne⟩
def CO (x0 x1 x2 x3 x4 x5:V):List (Str×V):=[("cells",x0),("hands",x1),("rounds",x2),("apart",x3),("longest",x4),("starts",x5)]
theorem QG:(CO x0 x1 x2 x3 x4 x5).map (·.1)=(["cells","hands","rounds","apart","longest","starts"]:List Str):=rfl
theorem pw:((CO x0 x1 x2 x3 x4 x5).map (·.1)).Nodup:=by rw [QG];decide+kernel
def fK (ad:Ad) (H:Hp) (a:Addr) (x0 x1 x2 x3 x4 x5:V):Prop:=∃ dx,H a=some (.ins ad.dZ dx (CO x0 x1 x2 x3 x4 x5))
theorem fK.mono {H2:Hp} (h:fK ad H a x0 x1 x2 x3 x4 x5) (s:au H H2):fK ad H2 a x0 x1 x2 x3 x4 x5:=let ⟨dx,e⟩:=h;⟨dx,s _ _ e⟩
theorem cn (T:Tx P w K mg base ad) (h:fK ad H a x0 x1 x2 x3 x4 x5) (q:Q x0):uK K H a "cells" Q:=uQ T.df T.vY h pw 0 q
theorem Ed (T:Tx P w K mg base ad) (h:fK ad H a x0 x1 x2 x3 x4 x5) (q:Q x1):uK K H a "hands" Q:=uQ T.df T.vZ h pw 1 q
theorem rC (T:Tx P w K mg base ad) (h:fK ad H a x0 x1 x2 x3 x4 x5) (q:Q x2):uK K H a "rounds" Q:=uQ T.df T.tQ h pw 2 q
theorem iQ (T:Tx P w K mg base ad) (h:fK ad H a x0 x1 x2 x3 x4 x5) (q:Q x3):uK K H a "apart" Q:=uQ T.df T.v3 h pw 3 q
theorem ju (T:Tx P w K mg base ad) (h:fK ad H a x0 x1 x2 x3 x4 x5) (q:Q x4):uK K H a "longest" Q:=uQ T.df T.rm h pw 4 q
theorem BZ (T:Tx P w K mg base ad) (h:fK ad H a x0 x1 x2 x3 x4 x5) (q:Q x5):uK K H a "starts" Q:=uQ T.df T.tR h pw 5 q
def FH (K:PySem.W.Frag) (ad:Ad):Sp:=fun vs H Q _=>∃ (p dx:Addr) (x0 x1 x2 x3 x4 x5:V),vs=[.ref p,x0,x1,x2,x3,x4,x5]/\H p=some (.ins ad.dZ dx [])/\∀ H2:Hp,H2 p=some (.ins ad.dZ dx (CO x0 x1 x2 x3 x4 x5))->Kx p H H2->Q .cx H2
theorem FI (T:Tx P w K mg base ad):Ok T 1 ad.wK ad.eY ["self","cells","hands","rounds","apart","longest","starts"] FH:=by
 refine T.kG.Ui vt (fun vs H Q E h=>?_) (fun nd bB A outer s H vs Q E hr h=>?_)
 ·obtain ⟨p,dx,x0,x1,x2,x3,x4,x5,rfl,_⟩:=h;rfl
 ·obtain ⟨p,dx,x0,x1,x2,x3,x4,x5,rfl,h,q⟩:=h;have k:Kx p H H:=fun b o e _=>e
  refine ⟨_,(aa (aY (pv 0) (pv 1) rfl)
   (aa (aY (pv 0) (pv 2) rfl)
   (aa (aY (pv 0) (pv 3) rfl)
   (aa (aY (pv 0) (pv 4) rfl)
   (aa (aY (pv 0) (pv 5) rfl)
   (ae (aY (pv 0) (pv 6) rfl))))))),?_⟩
  refine ⟨_,rfl,_,rfl,p,_,dx,_,rfl,h,T.df,T.vY,(by show 0<1000;decide),?_⟩;generalize e0:upd _ p _=G0;obtain ⟨h,k⟩:=putN h k (show ¬ ("cells":Str)∈([]:List Str) by decide+kernel) e0;refine ⟨_,rfl,_,rfl,p,_,dx,_,rfl,h,T.df,T.vZ,(by show 1<1000;decide),?_⟩;generalize e1:upd _ p _=G1;obtain ⟨h,k⟩:=putN h k (show ¬ ("hands":Str)∈(["cells"]:List Str) by decide+kernel) e1;refine ⟨_,rfl,_,rfl,p,_,dx,_,rfl,h,T.df,T.tQ,(by show 2<1000;decide),?_⟩;generalize e2:upd _ p _=G2;obtain ⟨h,k⟩:=putN h k (show ¬ ("rounds":Str)∈(["cells","hands"]:List Str) by decide+kernel) e2;refine ⟨_,rfl,_,rfl,p,_,dx,_,rfl,h,T.df,T.v3,(by show 3<1000;decide),?_⟩;generalize e3:upd _ p _=G3;obtain ⟨h,k⟩:=putN h k (show ¬ ("apart":Str)∈(["cells","hands","rounds"]:List Str) by decide+kernel) e3;refine ⟨_,rfl,_,rfl,p,_,dx,_,rfl,h,T.df,T.rm,(by show 4<1000;decide),?_⟩;generalize e4:upd _ p _=G4;obtain ⟨h,k⟩:=putN h k (show ¬ ("longest":Str)∈(["cells","hands","rounds","apart"]:List Str) by decide+kernel) e4;refine ⟨_,rfl,_,rfl,p,_,dx,_,rfl,h,T.df,T.tR,(by show 5<1000;decide),?_⟩;generalize e5:upd _ p _=G5
  obtain ⟨h,k⟩:=putN h k (show ¬ ("starts":Str)∈(["cells","hands","rounds","apart","longest"]:List Str) by decide+kernel) e5;exact q _ h k
def IP (x0 x1 x2 x3 x4:V):List (Str×V):=[("cells",x0),("hands",x1),("turn",x2),("left",x3),("most",x4)]
theorem SM:(IP x0 x1 x2 x3 x4).map (·.1)=(["cells","hands","turn","left","most"]:List Str):=rfl
theorem qg:((IP x0 x1 x2 x3 x4).map (·.1)).Nodup:=by rw [SM];decide+kernel
def bu (ad:Ad) (H:Hp) (a:Addr) (x0 x1 x2 x3 x4:V):Prop:=∃ dx,H a=some (.ins ad.gQ dx (IP x0 x1 x2 x3 x4))
theorem bu.mono {H2:Hp} (h:bu ad H a x0 x1 x2 x3 x4) (s:au H H2):bu ad H2 a x0 x1 x2 x3 x4:=let ⟨dx,e⟩:=h;⟨dx,s _ _ e⟩
theorem FJ (T:Tx P w K mg base ad) (h:bu ad H a x0 x1 x2 x3 x4) (q:Q x0):uK K H a "cells" Q:=uQ T.fj T.yC h qg 0 q
theorem dm (T:Tx P w K mg base ad) (h:bu ad H a x0 x1 x2 x3 x4) (q:Q x1):uK K H a "hands" Q:=uQ T.fj T.yD h qg 1 q
theorem yI (T:Tx P w K mg base ad) (h:bu ad H a x0 x1 x2 x3 x4) (q:Q x2):uK K H a "turn" Q:=uQ T.fj T.tS h qg 2 q
theorem IQ (T:Tx P w K mg base ad) (h:bu ad H a x0 x1 x2 x3 x4) (q:∀ H2,bu ad H2 a x0 x1 y x3 x4->Kx a H H2->R H2):SK K H a "turn" y R:=Uk T.fj T.tS h qg 2 q
theorem qh (T:Tx P w K mg base ad) (h:bu ad H a x0 x1 x2 x3 x4) (q:Q x3):uK K H a "left" Q:=uQ T.fj T.tT h qg 3 q
theorem IS (T:Tx P w K mg base ad) (h:bu ad H a x0 x1 x2 x3 x4) (q:∀ H2,bu ad H2 a x0 x1 x2 y x4->Kx a H H2->R H2):SK K H a "left" y R:=Uk T.fj T.tT h qg 3 q
theorem IT (T:Tx P w K mg base ad) (h:bu ad H a x0 x1 x2 x3 x4) (q:Q x4):uK K H a "most" Q:=uQ T.fj T.Bz h qg 4 q
def yJ (K:PySem.W.Frag) (ad:Ad):Sp:=fun vs H Q _=>∃ (p dx:Addr) (x0 x1 x2 x3 x4:V),vs=[.ref p,x0,x1,x2,x3,x4]/\H p=some (.ins ad.gQ dx [])/\∀ H2:Hp,H2 p=some (.ins ad.gQ dx (IP x0 x1 x2 x3 x4))->Kx p H H2->Q .cx H2
theorem IU (T:Tx P w K mg base ad):Ok T 1 ad.zG ad.fS ["self","cells","hands","turn","left","most"] yJ:=by
 refine T.ni.Ui xW (fun vs H Q E h=>?_) (fun nd bB A outer s H vs Q E hr h=>?_)
 ·obtain ⟨p,dx,x0,x1,x2,x3,x4,rfl,_⟩:=h;rfl
 ·obtain ⟨p,dx,x0,x1,x2,x3,x4,rfl,h,q⟩:=h;have k:Kx p H H:=fun b o e _=>e
  refine ⟨_,(aa (aY (pv 0) (pv 1) rfl)
   (aa (aY (pv 0) (pv 2) rfl)
   (aa (aY (pv 0) (pv 3) rfl)
   (aa (aY (pv 0) (pv 4) rfl)
   (ae (aY (pv 0) (pv 5) rfl)))))),?_⟩
  refine ⟨_,rfl,_,rfl,p,_,dx,_,rfl,h,T.fj,T.yC,(by show 0<1000;decide),?_⟩;generalize e0:upd _ p _=G0;obtain ⟨h,k⟩:=putN h k (show ¬ ("cells":Str)∈([]:List Str) by decide+kernel) e0;refine ⟨_,rfl,_,rfl,p,_,dx,_,rfl,h,T.fj,T.yD,(by show 1<1000;decide),?_⟩;generalize e1:upd _ p _=G1;obtain ⟨h,k⟩:=putN h k (show ¬ ("hands":Str)∈(["cells"]:List Str) by decide+kernel) e1;refine ⟨_,rfl,_,rfl,p,_,dx,_,rfl,h,T.fj,T.tS,(by show 2<1000;decide),?_⟩;generalize e2:upd _ p _=G2;obtain ⟨h,k⟩:=putN h k (show ¬ ("turn":Str)∈(["cells","hands"]:List Str) by decide+kernel) e2;refine ⟨_,rfl,_,rfl,p,_,dx,_,rfl,h,T.fj,T.tT,(by show 3<1000;decide),?_⟩;generalize e3:upd _ p _=G3;obtain ⟨h,k⟩:=putN h k (show ¬ ("left":Str)∈(["cells","hands","turn"]:List Str) by decide+kernel) e3;refine ⟨_,rfl,_,rfl,p,_,dx,_,rfl,h,T.fj,T.Bz,(by show 4<1000;decide),?_⟩;generalize e4:upd _ p _=G4;obtain ⟨h,k⟩:=putN h k (show ¬ ("most":Str)∈(["cells","hands","turn","left"]:List Str) by decide+kernel) e4;exact q _ h k
theorem IV {Q:VK} (q:∀ a H2,H a=none->bu ad H2 a x0 x1 x2 x3 x4->au H H2->Q (.ref a) H2):∀ x dx,H x=none->H dx=none->dx≠x->yJ K ad (.ref x::([x0,x1,x2,x3,x4]++[])) (upd (upd H dx (.own x)) x (.ins ad.gQ dx [])) (fun v H2=>v=.cx/\Q (.ref x) H2) E0:=fun x dx hx hd _=>⟨x,dx,_,_,_,_,_,rfl,ah,fun H2 h2 k2=>⟨rfl,q x H2 hx ⟨dx,h2⟩ (au.made hx hd k2)⟩⟩
def qi (x0 x1 x2 x3 x4 x5:V):List (Str×V):=[("program",x0),("score",x1),("generation",x2),("parents",x3),("recipe",x4),("steps",x5)]
theorem KR:(qi x0 x1 x2 x3 x4 x5).map (·.1)=(["program","score","generation","parents","recipe","steps"]:List Str):=rfl
theorem hE:((qi x0 x1 x2 x3 x4 x5).map (·.1)).Nodup:=by rw [KR];decide+kernel
def cH (ad:Ad) (H:Hp) (a:Addr) (x0 x1 x2 x3 x4 x5:V):Prop:=∃ dx,H a=some (.ins ad.bK dx (qi x0 x1 x2 x3 x4 x5))
theorem cH.mono {H2:Hp} (h:cH ad H a x0 x1 x2 x3 x4 x5) (s:au H H2):cH ad H2 a x0 x1 x2 x3 x4 x5:=let ⟨dx,e⟩:=h;⟨dx,s _ _ e⟩
theorem dz (T:Tx P w K mg base ad) (h:cH ad H a x0 x1 x2 x3 x4 x5) (q:Q x0):uK K H a "program" Q:=uQ T.bE T.lW h hE 0 q
theorem dh (T:Tx P w K mg base ad) (h:cH ad H a x0 x1 x2 x3 x4 x5) (q:Q x1):uK K H a "score" Q:=uQ T.bE T.ph h hE 1 q
theorem qj (T:Tx P w K mg base ad) (h:cH ad H a x0 x1 x2 x3 x4 x5) (q:Q x2):uK K H a "generation" Q:=uQ T.bE T.i8 h hE 2 q
theorem ky (T:Tx P w K mg base ad) (h:cH ad H a x0 x1 x2 x3 x4 x5) (q:Q x3):uK K H a "parents" Q:=uQ T.bE T.lX h hE 3 q
theorem wU (T:Tx P w K mg base ad) (h:cH ad H a x0 x1 x2 x3 x4 x5) (q:Q x4):uK K H a "recipe" Q:=uQ T.bE T.nv h hE 4 q
theorem nz (T:Tx P w K mg base ad) (h:cH ad H a x0 x1 x2 x3 x4 x5) (q:Q x5):uK K H a "steps" Q:=uQ T.bE T.pj h hE 5 q
def zP (K:PySem.W.Frag) (ad:Ad):Sp:=fun vs H Q _=>∃ (p dx:Addr) (x0 x1 x2 x3 x4 x5:V),vs=[.ref p,x0,x1,x2,x3,x4,x5]/\H p=some (.ins ad.bK dx [])/\∀ H2:Hp,H2 p=some (.ins ad.bK dx (qi x0 x1 x2 x3 x4 x5))->Kx p H H2->Q .cx H2
theorem zQ (T:Tx P w K mg base ad):Ok T 1 ad.nW ad.cI ["self","program","score","generation","parents","recipe","steps"] zP:=by
 refine T.gJ.Ui oS (fun vs H Q E h=>?_) (fun nd bB A outer s H vs Q E hr h=>?_)
 ·obtain ⟨p,dx,x0,x1,x2,x3,x4,x5,rfl,_⟩:=h;rfl
 ·obtain ⟨p,dx,x0,x1,x2,x3,x4,x5,rfl,h,q⟩:=h;have k:Kx p H H:=fun b o e _=>e
  refine ⟨_,(aa (aY (pv 0) (pv 1) rfl)
   (aa (aY (pv 0) (pv 2) rfl)
   (aa (aY (pv 0) (pv 3) rfl)
   (aa (aY (pv 0) (pv 4) rfl)
   (aa (aY (pv 0) (pv 5) rfl)
   (ae (aY (pv 0) (pv 6) rfl))))))),?_⟩
  refine ⟨_,rfl,_,rfl,p,_,dx,_,rfl,h,T.bE,T.lW,(by show 0<1000;decide),?_⟩;generalize e0:upd _ p _=G0;obtain ⟨h,k⟩:=putN h k (show ¬ ("program":Str)∈([]:List Str) by decide+kernel) e0;refine ⟨_,rfl,_,rfl,p,_,dx,_,rfl,h,T.bE,T.ph,(by show 1<1000;decide),?_⟩;generalize e1:upd _ p _=G1;obtain ⟨h,k⟩:=putN h k (show ¬ ("score":Str)∈(["program"]:List Str) by decide+kernel) e1;refine ⟨_,rfl,_,rfl,p,_,dx,_,rfl,h,T.bE,T.i8,(by show 2<1000;decide),?_⟩;generalize e2:upd _ p _=G2;obtain ⟨h,k⟩:=putN h k (show ¬ ("generation":Str)∈(["program","score"]:List Str) by decide+kernel) e2;refine ⟨_,rfl,_,rfl,p,_,dx,_,rfl,h,T.bE,T.lX,(by show 3<1000;decide),?_⟩;generalize e3:upd _ p _=G3;obtain ⟨h,k⟩:=putN h k (show ¬ ("parents":Str)∈(["program","score","generation"]:List Str) by decide+kernel) e3;refine ⟨_,rfl,_,rfl,p,_,dx,_,rfl,h,T.bE,T.nv,(by show 4<1000;decide),?_⟩;generalize e4:upd _ p _=G4;obtain ⟨h,k⟩:=putN h k (show ¬ ("recipe":Str)∈(["program","score","generation","parents"]:List Str) by decide+kernel) e4;refine ⟨_,rfl,_,rfl,p,_,dx,_,rfl,h,T.bE,T.pj,(by show 5<1000;decide),?_⟩;generalize e5:upd _ p _=G5
  obtain ⟨h,k⟩:=putN h k (show ¬ ("steps":Str)∈(["program","score","generation","parents","recipe"]:List Str) by decide+kernel) e5;exact q _ h k
def CP (x0 x1 x2 x3 x4 x5:V):List (Str×V):=[("islands",x0),("size",x1),("elite",x2),("pick",x3),("every",x4),("weights",x5)]
theorem QH:(CP x0 x1 x2 x3 x4 x5).map (·.1)=(["islands","size","elite","pick","every","weights"]:List Str):=rfl
theorem pz:((CP x0 x1 x2 x3 x4 x5).map (·.1)).Nodup:=by rw [QH];decide+kernel
def fM (ad:Ad) (H:Hp) (a:Addr) (x0 x1 x2 x3 x4 x5:V):Prop:=∃ dx,H a=some (.ins ad.d7 dx (CP x0 x1 x2 x3 x4 x5))
theorem fM.mono {H2:Hp} (h:fM ad H a x0 x1 x2 x3 x4 x5) (s:au H H2):fM ad H2 a x0 x1 x2 x3 x4 x5:=let ⟨dx,e⟩:=h;⟨dx,s _ _ e⟩
theorem jv (T:Tx P w K mg base ad) (h:fM ad H a x0 x1 x2 x3 x4 x5) (q:Q x0):uK K H a "islands" Q:=uQ T.dg T.rA h pz 0 q
theorem gD (T:Tx P w K mg base ad) (h:fM ad H a x0 x1 x2 x3 x4 x5) (q:Q x1):uK K H a "size" Q:=uQ T.dg T.yE h pz 1 q
theorem l9 (T:Tx P w K mg base ad) (h:fM ad H a x0 x1 x2 x3 x4 x5) (q:Q x2):uK K H a "elite" Q:=uQ T.dg T.v5 h pz 2 q
theorem FK (T:Tx P w K mg base ad) (h:fM ad H a x0 x1 x2 x3 x4 x5) (q:Q x3):uK K H a "pick" Q:=uQ T.dg T.yF h pz 3 q
theorem Ee (T:Tx P w K mg base ad) (h:fM ad H a x0 x1 x2 x3 x4 x5) (q:Q x4):uK K H a "every" Q:=uQ T.dg T.v7 h pz 4 q
theorem jw (T:Tx P w K mg base ad) (h:fM ad H a x0 x1 x2 x3 x4 x5) (q:Q x5):uK K H a "weights" Q:=uQ T.dg T.rB h pz 5 q
def FL (K:PySem.W.Frag) (ad:Ad):Sp:=fun vs H Q _=>∃ (p dx:Addr) (x0 x1 x2 x3 x4 x5:V),vs=[.ref p,x0,x1,x2,x3,x4,x5]/\H p=some (.ins ad.d7 dx [])/\∀ H2:Hp,H2 p=some (.ins ad.d7 dx (CP x0 x1 x2 x3 x4 x5))->Kx p H H2->Q .cx H2
theorem FN (T:Tx P w K mg base ad):Ok T 1 ad.wL ad.eZ ["self","islands","size","elite","pick","every","weights"] FL:=by
 refine T.kH.Ui vy (fun vs H Q E h=>?_) (fun nd bB A outer s H vs Q E hr h=>?_)
 ·obtain ⟨p,dx,x0,x1,x2,x3,x4,x5,rfl,_⟩:=h;rfl
 ·obtain ⟨p,dx,x0,x1,x2,x3,x4,x5,rfl,h,q⟩:=h;have k:Kx p H H:=fun b o e _=>e
  refine ⟨_,(aa (aY (pv 0) (pv 1) rfl)
   (aa (aY (pv 0) (pv 2) rfl)
   (aa (aY (pv 0) (pv 3) rfl)
   (aa (aY (pv 0) (pv 4) rfl)
   (aa (aY (pv 0) (pv 5) rfl)
   (ae (aY (pv 0) (pv 6) rfl))))))),?_⟩
  refine ⟨_,rfl,_,rfl,p,_,dx,_,rfl,h,T.dg,T.rA,(by show 0<1000;decide),?_⟩;generalize e0:upd _ p _=G0;obtain ⟨h,k⟩:=putN h k (show ¬ ("islands":Str)∈([]:List Str) by decide+kernel) e0;refine ⟨_,rfl,_,rfl,p,_,dx,_,rfl,h,T.dg,T.yE,(by show 1<1000;decide),?_⟩;generalize e1:upd _ p _=G1;obtain ⟨h,k⟩:=putN h k (show ¬ ("size":Str)∈(["islands"]:List Str) by decide+kernel) e1;refine ⟨_,rfl,_,rfl,p,_,dx,_,rfl,h,T.dg,T.v5,(by show 2<1000;decide),?_⟩;generalize e2:upd _ p _=G2;obtain ⟨h,k⟩:=putN h k (show ¬ ("elite":Str)∈(["islands","size"]:List Str) by decide+kernel) e2;refine ⟨_,rfl,_,rfl,p,_,dx,_,rfl,h,T.dg,T.yF,(by show 3<1000;decide),?_⟩;generalize e3:upd _ p _=G3;obtain ⟨h,k⟩:=putN h k (show ¬ ("pick":Str)∈(["islands","size","elite"]:List Str) by decide+kernel) e3;refine ⟨_,rfl,_,rfl,p,_,dx,_,rfl,h,T.dg,T.v7,(by show 4<1000;decide),?_⟩;generalize e4:upd _ p _=G4;obtain ⟨h,k⟩:=putN h k (show ¬ ("every":Str)∈(["islands","size","elite","pick"]:List Str) by decide+kernel) e4;refine ⟨_,rfl,_,rfl,p,_,dx,_,rfl,h,T.dg,T.rB,(by show 5<1000;decide),?_⟩;generalize e5:upd _ p _=G5
  obtain ⟨h,k⟩:=putN h k (show ¬ ("weights":Str)∈(["islands","size","elite","pick","every"]:List Str) by decide+kernel) e5;exact q _ h k
def yK (x0 x1 x2 x3 x4 x5 x6 x7:V):List (Str×V):=[("world",x0),("panel",x1),("born",x2),("rates",x3),("draws",x4),("rows",x5),("generation",x6),("bests",x7)]
theorem QI:(yK x0 x1 x2 x3 x4 x5 x6 x7).map (·.1)=(["world","panel","born","rates","draws","rows","generation","bests"]:List Str):=rfl
theorem eV:((yK x0 x1 x2 x3 x4 x5 x6 x7).map (·.1)).Nodup:=by rw [QI];decide+kernel
def bg (ad:Ad) (H:Hp) (a:Addr) (x0 x1 x2 x3 x4 x5 x6 x7:V):Prop:=∃ dx,H a=some (.ins ad.bJ dx (yK x0 x1 x2 x3 x4 x5 x6 x7))
theorem bg.mono {H2:Hp} (h:bg ad H a x0 x1 x2 x3 x4 x5 x6 x7) (s:au H H2):bg ad H2 a x0 x1 x2 x3 x4 x5 x6 x7:=let ⟨dx,e⟩:=h;⟨dx,s _ _ e⟩
theorem ba (T:Tx P w K mg base ad) (h:bg ad H a x0 x1 x2 x3 x4 x5 x6 x7) (q:Q x0):uK K H a "world" Q:=uQ T.bD T.v8 h eV 0 q
theorem cR (T:Tx P w K mg base ad) (h:bg ad H a x0 x1 x2 x3 x4 x5 x6 x7) (q:Q x1):uK K H a "panel" Q:=uQ T.bD T.v9 h eV 1 q
theorem aM (T:Tx P w K mg base ad) (h:bg ad H a x0 x1 x2 x3 x4 x5 x6 x7) (q:Q x2):uK K H a "born" Q:=uQ T.bD T.yG h eV 2 q
theorem bz (T:Tx P w K mg base ad) (h:bg ad H a x0 x1 x2 x3 x4 x5 x6 x7) (q:Q x3):uK K H a "rates" Q:=uQ T.bD T.oh h eV 3 q
theorem Ef (T:Tx P w K mg base ad) (h:bg ad H a x0 x1 x2 x3 x4 x5 x6 x7) (q:∀ H2,bg ad H2 a x0 x1 x2 y x4 x5 x6 x7->Kx a H H2->R H2):SK K H a "rates" y R:=Uk T.bD T.oh h eV 3 q
theorem fN (T:Tx P w K mg base ad) (h:bg ad H a x0 x1 x2 x3 x4 x5 x6 x7) (q:Q x4):uK K H a "draws" Q:=uQ T.bD T.oi h eV 4 q
theorem Eg (T:Tx P w K mg base ad) (h:bg ad H a x0 x1 x2 x3 x4 x5 x6 x7) (q:∀ H2,bg ad H2 a x0 x1 x2 x3 y x5 x6 x7->Kx a H H2->R H2):SK K H a "draws" y R:=Uk T.bD T.oi h eV 4 q
theorem bR (T:Tx P w K mg base ad) (h:bg ad H a x0 x1 x2 x3 x4 x5 x6 x7) (q:Q x5):uK K H a "rows" Q:=uQ T.bD T.qc h eV 5 q
theorem oo (T:Tx P w K mg base ad) (h:bg ad H a x0 x1 x2 x3 x4 x5 x6 x7) (q:∀ H2,bg ad H2 a x0 x1 x2 x3 x4 y x6 x7->Kx a H H2->R H2):SK K H a "rows" y R:=Uk T.bD T.qc h eV 5 q
theorem cA (T:Tx P w K mg base ad) (h:bg ad H a x0 x1 x2 x3 x4 x5 x6 x7) (q:Q x6):uK K H a "generation" Q:=uQ T.bD T.gR h eV 6 q
theorem uR (T:Tx P w K mg base ad) (h:bg ad H a x0 x1 x2 x3 x4 x5 x6 x7) (q:∀ H2,bg ad H2 a x0 x1 x2 x3 x4 x5 y x7->Kx a H H2->R H2):SK K H a "generation" y R:=Uk T.bD T.gR h eV 6 q
theorem dU (T:Tx P w K mg base ad) (h:bg ad H a x0 x1 x2 x3 x4 x5 x6 x7) (q:Q x7):uK K H a "bests" Q:=uQ T.bD T.wb h eV 7 q
def yL (x0:V):List (Str×V):=[("number",x0)]
theorem KS:(yL x0).map (·.1)=(["number"]:List Str):=rfl
theorem KU:((yL x0).map (·.1)).Nodup:=by rw [KS];decide+kernel
def jL (ad:Ad) (H:Hp) (a:Addr) (x0:V):Prop:=∃ dx,H a=some (.ins ad.iA dx (yL x0))
theorem jL.mono {H2:Hp} (h:jL ad H a x0) (s:au H H2):jL ad H2 a x0:=let ⟨dx,e⟩:=h;⟨dx,s _ _ e⟩
theorem cW (T:Tx P w K mg base ad) (h:jL ad H a x0) (q:Q x0):uK K H a "number" Q:=uQ T.dS T.lY h KU 0 q
theorem rD (T:Tx P w K mg base ad) (h:jL ad H a x0) (q:∀ H2,jL ad H2 a y->Kx a H H2->R H2):SK K H a "number" y R:=Uk T.dS T.lY h KU 0 q
theorem bV:(yL x0).lookup ("below":Str)=none:=HI (by rw [KS];decide+kernel)
def FP (K:PySem.W.Frag) (ad:Ad):Sp:=fun vs H Q _=>∃ (p dx:Addr) (x0:V),vs=[.ref p,x0]/\H p=some (.ins ad.iA dx [])/\∀ H2:Hp,H2 p=some (.ins ad.iA dx (yL x0))->Kx p H H2->Q .cx H2
theorem wc (T:Tx P w K mg base ad):Ok T 1 ad.wO ad.fe ["self","number"] FP:=by
 refine T.kJ.Ui vH (fun vs H Q E h=>?_) (fun nd bB A outer s H vs Q E hr h=>?_)
 ·obtain ⟨p,dx,x0,rfl,_⟩:=h;rfl
 ·obtain ⟨p,dx,x0,rfl,h,q⟩:=h;have k:Kx p H H:=fun b o e _=>e
  refine ⟨_,(ae (aY (pv 0) (pv 1) rfl)),?_⟩;refine ⟨_,rfl,_,rfl,p,_,dx,_,rfl,h,T.dS,T.lY,(by show 0<1000;decide),?_⟩;generalize e0:upd _ p _=G0;obtain ⟨h,k⟩:=putN h k (show ¬ ("number":Str)∈([]:List Str) by decide+kernel) e0;exact q _ h k
def IW (x0:V):List (Str×V):=[("arena",x0)]
theorem SN:(IW x0).map (·.1)=(["arena"]:List Str):=rfl
theorem NZ:((IW x0).map (·.1)).Nodup:=by rw [SN];decide+kernel
def ee (ad:Ad) (H:Hp) (a:Addr) (x0:V):Prop:=∃ dx,H a=some (.ins ad.lF dx (IW x0))
theorem ee.mono {H2:Hp} (h:ee ad H a x0) (s:au H H2):ee ad H2 a x0:=let ⟨dx,e⟩:=h;⟨dx,s _ _ e⟩
theorem aU (T:Tx P w K mg base ad) (h:ee ad H a x0) (q:Q x0):uK K H a "arena" Q:=uQ T.yH T.qd h NZ 0 q
theorem FQ (T:Tx P w K mg base ad) (h:ee ad H a x0) (q:∀ H2,ee ad H2 a y->Kx a H H2->R H2):SK K H a "arena" y R:=Uk T.yH T.qd h NZ 0 q
end
theorem eh {c:Bool} {A:Prop} {F:Bool->Prop} (d:Bool) (h:F (c&&d)) (k:F d->A):if c=true then A else F false:=by
 cases c with
 |true=>rw [if_pos rfl];exact k h
 |false=>rw [if_neg Bool.false_ne_true];exact h
theorem KW {c:Bool} {A:Prop} {F:Bool->Prop} (d:Bool) (h:F (c||d)) (k:F d->A):if c=true then F true else A:=by
 cases c with
 |true=>rw [if_pos rfl];exact h
 |false=>rw [if_neg Bool.false_ne_true];exact k h
theorem aW {c:Bool} {A B:Prop} (h1:c=true->A) (h2:c=false->B):if c=true then A else B:=by
 cases c with
 |true=>rw [if_pos rfl];exact h1 rfl
 |false=>rw [if_neg Bool.false_ne_true];exact h2 rfl
theorem au.tup {K:PySem.W.Frag} {H H':Hp} {a:Addr} {xs:List V} (e:au H H') (h:pO K H a xs):pO K H' a xs:=by
 rcases h with (h|⟨o,h⟩)|h
 ·exact .inl (.inl (e _ _ h))
 ·exact .inl (.inr ⟨o,e _ _ h⟩)
 ·exact .inr h
theorem au.laid {H:Hp} {p:Addr} {o:HO} (hp:H p=none):au H (upd H p o):=fun b u e=>by rw [az (aw e hp)];exact e
def kO (D:Addr) (H:Hp):Hp:=fun b=>if b=D then none else H b
theorem aN {D:Addr} {H:Hp}:au (kO D H) H:=fun b o e=>by
 unfold kO at e;by_cases h:b=D
 ·rw [if_pos h] at e;cases e
 ·rw [if_neg h] at e;exact e
theorem QJ {D b:Addr} {H:Hp} {o:HO} (h:kO D H b=some o):b≠D:=fun e=>by
 unfold kO at h;rw [if_pos e] at h;cases h
theorem ma {D b:Addr} {H:Hp} {o:HO} (ne:b≠D) (h:H b=some o):kO D H b=some o:=by unfold kO;rw [if_neg ne];exact h
theorem iR {D:Addr} {H:Hp} {o:HO}:kO D (upd H D o)=kO D H:=funext fun b=>by
 unfold kO;by_cases h:b=D
 ·rw [if_pos h,if_pos h]
 ·rw [if_neg h,if_neg h,az h]
theorem ub {D:Addr} {H:Hp} (h:H D=none):kO D H=H:=funext fun b=>by
 unfold kO;by_cases e:b=D
 ·rw [if_pos e,e,h]
 ·rw [if_neg e]
theorem gE {D:Addr} {H H':Hp} (s:au H H'):au (kO D H) (kO D H'):=fun b o e=>ma (QJ e) (s _ _ (aN _ _ e))
theorem KY {D:Addr} {H H':Hp} (hD:H D=none) (s:au H H'):au H (kO D H'):=fun b o e=>ma (aw e hD) (s _ _ e)
def Kp (M:List Addr) (H H':Hp):Prop:=∀ b o,H b=some o->b∉M->H' b=some o
theorem Kp.refl (M:List Addr) (H:Hp):Kp M H H:=fun _ _ e _=>e
theorem Kp.trans {M:List Addr} {H H1 H2:Hp} (a:Kp M H H1) (b:Kp M H1 H2):Kp M H H2:=fun c o e n=>b c o (a c o e n) n
theorem Kp.of {M:List Addr} {H H':Hp} (s:au H H'):Kp M H H':=fun b o e _=>s b o e
theorem Kp.mono {M M':List Addr} {H H':Hp} (k:Kp M H H') (h:∀ a∈M,a∈M'):Kp M' H H':=fun b o e n=>k b o e fun z=>n (h b z)
def Eh (D:Addr) (R:Nat->List V->Hp->Prop) (i:Nat) (y:V) (H4:Hp):Prop:=
 ∃ acc,H4 D=some (.lst acc)/\acc.length<sizeLine/\∃ Ei,upd H4 D (.lst (acc++[y])) D=some (.lst Ei)/\Ei.length=i+1/\R (i+1) Ei (kO D (upd H4 D (.lst (acc++[y]))))
theorem Eh.mk {D:Addr} {R:Nat->List V->Hp->Prop} {i:Nat} {y:V} {H4:Hp} {acc:List V} (e:H4 D=some (.lst acc)) (l:acc.length=i) (hz:i<sizeLine) (r:R (i+1) (acc++[y]) (kO D H4)):Eh D R i y H4:=
 ⟨acc,e,by rw [l];exact hz,acc++[y],ah,by rw [List.length_append,l];rfl,by rw [iR];exact r⟩
section
variable {te:TE} {j:Nat} {σ:L2.St} {H1:Hp} {D:Addr} {Qd:Hp->Prop}
theorem md (x:V):wipe ((wipe σ [j]).set j (some x)) [j]=wipe σ [j]:=by
 show ((σ.set j none).set j (some x)).set j none=σ.set j none;rw [List.set_set,List.set_set]
theorem Pt {K:PySem.W.Frag} {a:Addr} {xs:List V} (hD:H1 D=none) (hz:xs.length<=sizeLine) (R:Nat->List V->Hp->Prop) (h0:R 0 [] H1) (hl:∀ i acc H,R i acc H->aH K H a xs)
  (hs:∀ i x acc H,xs[i]? =some x->H D=some (.lst acc)->acc.length=i->i<sizeLine->R i acc (kO D H)->te (σ.set j (some x)) H fun y H4=>Eh D R i y H4)
  (hd:∀ acc H,H D=some (.lst acc)->acc.length=xs.length->R xs.length acc (kO D H)->Qd H):
  ∃ W:Nat->Nat->Hp->Prop,(∃ m,W 0 m (upd H1 D (.lst [])))/\∀ i m H,W i m H->
   ((Kb K a).stop i H/\Qd H)∨((Kb K a).go i H/\∃ Nx:Hp->Prop,(∀ H',Nx H'->∃ m',m'<m/\W (i+1) m' H')/\∀ x H',(Kb K a).LM i H x H'->oz j x (wipe σ [j]) H' fun σ2 H2=>wipe σ2 [j]=wipe σ [j]/\Mg σ2 H2 fun b H3=>
    if b=true then te σ2 H3 fun y H4=>∃ acc,H4 D=some (.lst acc)/\acc.length<sizeLine/\Nx (upd H4 D (.lst (acc++[y]))) else Nx H3):=by
 refine Iv (K:=K) (a:=a) (xs:=xs) (fun i H=>∃ acc,H D=some (.lst acc)/\acc.length=i/\R i acc (kO D H)) ⟨[],ah,rfl,?_⟩ (fun i H _ ⟨acc,_,_,r⟩=>aN.seq (hl i acc _ r)) ?_ (fun H ⟨acc,e1,e2,r⟩=>hd acc H e1 e2 r)
 ·rw [iR,ub hD];exact h0
 ·rintro i x H hx ⟨acc,e1,e2,r⟩;have q:=hs i x acc H hx e1 e2 (Nat.lt_of_lt_of_le (List.getElem?_eq_some_iff.mp hx).1 hz) r;have e:(wipe σ [j]).set j (some x)=σ.set j (some x):=List.set_set ..;rw [<-e] at q;exact ⟨md x,q⟩
theorem lcT {K:PySem.W.Frag} {a:Addr} {xs:List V} (hD:H1 D=none) (hz:xs.length<=sizeLine) (R:Nat->List V->Hp->Prop) (h0:R 0 [] H1) (hl:∀ i acc H,R i acc H->pO K H a xs)
  (hs:∀ i x acc H,xs[i]? =some x->H D=some (.lst acc)->acc.length=i->i<sizeLine->R i acc (kO D H)->te (σ.set j (some x)) H fun y H4=>Eh D R i y H4)
  (hd:∀ acc H,H D=some (.lst acc)->acc.length=xs.length->R xs.length acc (kO D H)->Qd H):
  ∃ W:Nat->Nat->Hp->Prop,(∃ m,W 0 m (upd H1 D (.lst [])))/\∀ i m H,W i m H->
   ((TU K a).stop i H/\Qd H)∨((TU K a).go i H/\∃ Nx:Hp->Prop,(∀ H',Nx H'->∃ m',m'<m/\W (i+1) m' H')/\∀ x H',(TU K a).LM i H x H'->oz j x (wipe σ [j]) H' fun σ2 H2=>wipe σ2 [j]=wipe σ [j]/\Mg σ2 H2 fun b H3=>
    if b=true then te σ2 H3 fun y H4=>∃ acc,H4 D=some (.lst acc)/\acc.length<sizeLine/\Nx (upd H4 D (.lst (acc++[y]))) else Nx H3):=by
 refine Vq (K:=K) (a:=a) (xs:=xs) (fun i H=>∃ acc,H D=some (.lst acc)/\acc.length=i/\R i acc (kO D H)) ⟨[],ah,rfl,?_⟩ (fun i H _ ⟨acc,_,_,r⟩=>au.tup aN (hl i acc _ r)) ?_ (fun H ⟨acc,e1,e2,r⟩=>hd acc H e1 e2 r)
 ·rw [iR,ub hD];exact h0
 ·rintro i x H hx ⟨acc,e1,e2,r⟩;have q:=hs i x acc H hx e1 e2 (Nat.lt_of_lt_of_le (List.getElem?_eq_some_iff.mp hx).1 hz) r;have e:(wipe σ [j]).set j (some x)=σ.set j (some x):=List.set_set ..;rw [<-e] at q;exact ⟨md x,q⟩
theorem lcR {lo:Int} {n:Nat} (hD:H1 D=none) (hz:n<=sizeLine) (R:Nat->List V->Hp->Prop) (h0:R 0 [] H1)
  (hs:∀ i acc H,i<n->H D=some (.lst acc)->acc.length=i->i<sizeLine->R i acc (kO D H)->te (σ.set j (some (.int (lo+(i:Int))))) H fun y H4=>Eh D R i y H4)
  (hd:∀ acc H,H D=some (.lst acc)->acc.length=n->R n acc (kO D H)->Qd H):
  ∃ W:Nat->Nat->Hp->Prop,(∃ m,W 0 m (upd H1 D (.lst [])))/\∀ i m H,W i m H->
   ((LX lo n).stop i H/\Qd H)∨((LX lo n).go i H/\∃ Nx:Hp->Prop,(∀ H',Nx H'->∃ m',m'<m/\W (i+1) m' H')/\∀ x H',(LX lo n).LM i H x H'->oz j x (wipe σ [j]) H' fun σ2 H2=>wipe σ2 [j]=wipe σ [j]/\Mg σ2 H2 fun b H3=>
    if b=true then te σ2 H3 fun y H4=>∃ acc,H4 D=some (.lst acc)/\acc.length<sizeLine/\Nx (upd H4 D (.lst (acc++[y]))) else Nx H3):=by
 refine Ko (lo:=lo) (n:=n) (fun i H=>∃ acc,H D=some (.lst acc)/\acc.length=i/\R i acc (kO D H)) ⟨[],ah,rfl,?_⟩ ?_ (fun H ⟨acc,e1,e2,r⟩=>hd acc H e1 e2 r)
 ·rw [iR,ub hD];exact h0
 ·rintro i H hi ⟨acc,e1,e2,r⟩;have q:=hs i acc H hi e1 e2 (Nat.lt_of_lt_of_le hi hz) r;have e:(wipe σ [j]).set j (some (.int (lo+(i:Int))))=σ.set j (some (.int (lo+(i:Int)))):=List.set_set ..;rw [<-e] at q;exact ⟨md _,q⟩
theorem lcC {lo c:Int} {n:Nat} (hD:H1 D=none) (hz:n<=sizeLine) (R:Nat->List V->Hp->Prop) (h0:R 0 [] H1)
  (hs:∀ i acc H,i<n->H D=some (.lst acc)->acc.length=i->i<sizeLine->R i acc (kO D H)->te (σ.set j (some (.int (lo+(i:Nat)*c)))) H fun y H4=>Eh D R i y H4)
  (hd:∀ acc H,H D=some (.lst acc)->acc.length=n->R n acc (kO D H)->Qd H):
  ∃ W:Nat->Nat->Hp->Prop,(∃ m,W 0 m (upd H1 D (.lst [])))/\∀ i m H,W i m H->
   ((Uc lo c n).stop i H/\Qd H)∨((Uc lo c n).go i H/\∃ Nx:Hp->Prop,(∀ H',Nx H'->∃ m',m'<m/\W (i+1) m' H')/\∀ x H',(Uc lo c n).LM i H x H'->oz j x (wipe σ [j]) H' fun σ2 H2=>wipe σ2 [j]=wipe σ [j]/\Mg σ2 H2 fun b H3=>
    if b=true then te σ2 H3 fun y H4=>∃ acc,H4 D=some (.lst acc)/\acc.length<sizeLine/\Nx (upd H4 D (.lst (acc++[y]))) else Nx H3):=by
 refine ⟨fun i m H=>m=n-i/\i<=n/\∃ acc,H D=some (.lst acc)/\acc.length=i/\R i acc (kO D H),⟨n,by simp,Nat.zero_le _,[],ah,rfl,by rw [iR,ub hD];exact h0⟩,?_⟩;rintro i m H ⟨rfl,hi,acc,e1,e2,r⟩;by_cases eW:i<n
 ·refine .inr ⟨eW,fun H'=>∃ acc,H' D=some (.lst acc)/\acc.length=i+1/\R (i+1) acc (kO D H'),fun H' p'=>⟨n-(i+1),by lia,rfl,eW,p'⟩,fun x H' y=>?_⟩;obtain ⟨e,y⟩:=y;subst e y;have q:=hs i acc _ eW e1 e2 (Nat.lt_of_lt_of_le eW hz) r;have e:(wipe σ [j]).set j (some (.int (lo+(i:Nat)*c)))=σ.set j (some (.int (lo+(i:Nat)*c))):=List.set_set ..;rw [<-e] at q;exact ⟨md _,q⟩
 ·have e:i=n:=by lia
  subst e;exact .inl ⟨Nat.le_refl _,hd acc H e1 e2 r⟩
end
def vI (l:List Int):List V:=l.map V.int
def vN (l:List Nat):List V:=l.map fun (n:Nat)=>V.int (n:Int)
theorem gL (l:List Nat):vI (Vbapah.ints l)=vN l:=by unfold vI vN Vbapah.ints;rw [List.map_map];rfl
def i9 (K:PySem.W.Frag) (H:Hp) (a:Addr) (t:FF):Prop:=pO K H a [.int t.1,.int t.2.1,.int t.2.2]
abbrev gF (K:PySem.W.Frag) (H:Hp):List Addr->List FF->Prop:=Paired (i9 K H)
theorem i9.mono {K:PySem.W.Frag} {H H':Hp} {a:Addr} {t:FF} (h:i9 K H a t) (s:au H H'):i9 K H' a t:=au.tup s h
theorem gF.mono {K:PySem.W.Frag} {H H':Hp} {as:List Addr} {ts:List FF} (h:gF K H as ts) (s:au H H'):gF K H' as ts:=Paired.dw h fun _ _ z=>i9.mono z s
def aV (K:PySem.W.Frag) (H:Hp) (p:Addr) (ts:List FF):Prop:=∃ as:List Addr,H p=some (.lst (as.map V.ref))/\gF K H as ts
theorem aV.mono {K:PySem.W.Frag} {H H':Hp} {p:Addr} {ts:List FF} (h:aV K H p ts) (s:au H H'):aV K H' p ts:=let ⟨as,e,r⟩:=h;⟨as,s _ _ e,gF.mono r s⟩
abbrev bG (K:PySem.W.Frag) (H:Hp) (p:Addr) (x:Vbapah.Program):Prop:=aV K H p (x.map hU)
theorem Paired.at {α β:Type} {F:α->β->Prop}:∀ {l:List α} {k:List β} {i:Nat} {a:α},Paired F l k->l[i]? =some a->∃ b,k[i]? =some b/\F a b
 |_,_,_,_,.nil,h=>by simp at h
 |_,_,0,_,.cons r _,h=>by
  have e:=Option.some.inj h;subst e;exact ⟨_,rfl,r⟩
 |_,_,i+1,_,.cons _ t,h=>Paired.at (i:=i) t h
theorem Paired.at' {α β:Type} {F:α->β->Prop}:∀ {l:List α} {k:List β} {i:Nat} {b:β},Paired F l k->k[i]? =some b->∃ a,l[i]? =some a/\F a b
 |_,_,_,_,.nil,h=>by simp at h
 |_,_,0,_,.cons r _,h=>by
  have e:=Option.some.inj h;subst e;exact ⟨_,rfl,r⟩
 |_,_,i+1,_,.cons _ t,h=>Paired.at' (i:=i) t h
theorem Paired.app {α β:Type} {F:α->β->Prop}:∀ {l l':List α} {k k':List β},Paired F l k->Paired F l' k'->Paired F (l++l') (k++k')
 |_,_,_,_,.nil,s=>s
 |_,_,_,_,.cons r t,s=>.cons r (Paired.app t s)
theorem Paired.tk {α β:Type} {F:α->β->Prop}:∀ {l:List α} {k:List β} (n:Nat),Paired F l k->Paired F (l.take n) (k.take n)
 |_,_,0,_=>.nil
 |_,_,_+1,.nil=>.nil
 |_,_,n+1,.cons r t=>.cons r (Paired.tk n t)
theorem Paired.dr {α β:Type} {F:α->β->Prop}:∀ {l:List α} {k:List β} (n:Nat),Paired F l k->Paired F (l.drop n) (k.drop n)
 |_,_,0,h=>h
 |_,_,_+1,.nil=>.nil
 |_,_,n+1,.cons _ t=>Paired.dr n t
theorem Paired.st {α β:Type} {F:α->β->Prop} {a:α} {b:β} (h:F a b):∀ {l:List α} {k:List β} (n:Nat),Paired F l k->Paired F (l.set n a) (k.set n b)
 |_,_,_,.nil=>.nil
 |_,_,0,.cons _ t=>.cons h t
 |_,_,n+1,.cons r t=>.cons r (Paired.st h n t)
theorem Paired.rep {α β:Type} {F:α->β->Prop} {a:α} {b:β} (h:F a b):∀ n:Nat,Paired F (List.replicate n a) (List.replicate n b)
 |0=>.nil
 |n+1=>.cons h (Paired.rep h n)
theorem fU {as:List Addr} {i:Nat} {v:V} (h:(as.map V.ref)[i]? =some v):∃ a,as[i]? =some a/\v=.ref a:=by
 rw [List.getElem?_map] at h;obtain ⟨a,h1,h2⟩:=Option.map_eq_some_iff.mp h;exact ⟨a,h1,h2.symm⟩
theorem N0 {ns:List Int} {i:Nat} {v:V} (h:(vI ns)[i]? =some v):∃ n,ns[i]? =some n/\v=.int n:=by
 unfold vI at h;rw [List.getElem?_map] at h;obtain ⟨a,h1,h2⟩:=Option.map_eq_some_iff.mp h;exact ⟨a,h1,h2.symm⟩
theorem kP {ns:List Nat} {i:Nat} {v:V} (h:(vN ns)[i]? =some v):∃ n,ns[i]? =some n/\v=.int (n:Nat):=by
 unfold vN at h;rw [List.getElem?_map] at h;obtain ⟨a,h1,h2⟩:=Option.map_eq_some_iff.mp h;exact ⟨a,h1,h2.symm⟩
theorem br (l:List Int):(vI l).length=l.length:=List.length_map _
theorem aO (l:List Nat):(vN l).length=l.length:=List.length_map _
theorem VI {l:List Int} {i:Nat} {n:Int} (h:l[i]? =some n):(vI l)[i]? =some (.int n):=by unfold vI;rw [List.getElem?_map,h];rfl
theorem ME {l:List Nat} {i n:Nat} (h:l[i]? =some n):(vN l)[i]? =some (.int (n:Nat)):=by unfold vN;rw [List.getElem?_map,h];rfl
theorem KZ {l:List Int} {i:Nat} {n:Int} {z:Int} (e:z=(i:Int)) (h:l[i]? =some n):J2 (vI l) z=some (.int n):=at_of e (VI h)
theorem wd {l:List Nat} {i n:Nat} {z:Int} (e:z=(i:Int)) (h:l[i]? =some n):J2 (vN l) z=some (.int (n:Nat)):=at_of e (ME h)
theorem QK (l k:List Int):vI (l++k)=vI l++vI k:=List.map_append
theorem cS (l k:List Nat):vN (l++k)=vN l++vN k:=List.map_append
theorem MF (n:Nat):pT 0 n=vN (List.range n):=by
 unfold pT vN;exact List.map_congr_left fun i _=>by rw [Int.zero_add]
section
variable {P:Program} {w:World} {K:PySem.W.Frag} {mg:Str->Option Value} {base:Heap} {ad:Ad}
def IX (K:PySem.W.Frag) (ad:Ad):Sp:=fun vs H Q _=>∃ n l g:Int,vs=[.int n,.int l,.int g]/\Q (.bl (decide (l<=n)&&decide (n<=g))) H
theorem aK (T:Tx P w K mg base ad):Ok T 1 ad.Hn ad.iB ["number","least","greatest"] IX:=by
 refine T.aP.ok xV (fun vs H Q E h=>?_) (fun nd bB A outer s H vs Q E hr h=>?_)
 ·obtain ⟨n,l,g,rfl,_⟩:=h;rfl
 ·obtain ⟨n,l,g,rfl,q⟩:=h;refine ⟨_,(ae (aq (jb (fR Ny (pv 1) (pv 0)) (nL (fR Ny (pv 0) (pv 2)))))),?_⟩;exact ⟨_,rfl,_,rfl,_,_,rfl,rfl,_,rfl,eh (F:=fun b=>Q (.bl b) H) _ q fun q=>⟨_,rfl,_,rfl,_,_,rfl,rfl,q⟩⟩
theorem Vt.three {n:Nat} (h:n<=1000000):Vt 0 ((3*n:Nat):Int) 3 n:=by
 have e:Builtin.Range.rangeSize 0 ((3*n:Nat):Int) 3=n:=by
  unfold Builtin.Range.rangeSize;simp only [show (3:Int)>0 by decide,if_true];split<;>lia
 refine ⟨by decide,by decide,?_,e⟩;unfold Builtin.Range.small;rw [e,if_pos (show (3:Int)>0 by decide)];unfold Builtin.Range.rangeFitsLong;refine Bool.and_eq_true_iff.mpr ⟨Bool.and_eq_true_iff.mpr ⟨Bool.and_eq_true_iff.mpr ⟨Bool.and_eq_true_iff.mpr ⟨?_,?_⟩,?_⟩,?_⟩,Bool.or_eq_true_iff.mpr (.inr ?_)⟩
 all_goals (simp;try lia)
theorem HJ:∀ {k:Nat} {l:List Int},l.length=3*k->∀ {i:Nat},i<k->∃ a b c,l[3*i]? =some a/\l[3*i+1]? =some b/\l[3*i+2]? =some c/\(dA l)[i]? =some (a,b,c)
 |0,_,_,i,h=>by lia
 |k+1,[],hl,_,_=>by simp at hl
 |k+1,[_],hl,_,_=>by simp at hl;lia
 |k+1,[_,_],hl,_,_=>by simp at hl;lia
 |k+1,a::b::c::r,hl,0,_=>⟨a,b,c,rfl,rfl,rfl,rfl⟩
 |k+1,a::b::c::r,hl,i+1,h=>by
  obtain ⟨x,y,z,h1,h2,h3,h4⟩:=HJ (k:=k) (l:=r) (by simp at hl;lia) (i:=i) (by lia);refine ⟨x,y,z,?_,?_,?_,?_⟩
  ·rw [show 3*(i+1)=3*i+1+1+1 by lia];exact h1
  ·rw [show 3*(i+1)+1=3*i+1+1+1+1 by lia];exact h2
  ·rw [show 3*(i+1)+2=3*i+2+1+1+1 by lia];exact h3
  ·exact h4
theorem oq:∀ {k:Nat} {l:List Int},l.length=3*k->(dA l).length=k
 |0,[],_=>rfl
 |0,_::_,h=>by simp at h
 |k+1,[],hl=>by simp at hl
 |k+1,[_],hl=>by simp at hl;lia
 |k+1,[_,_],hl=>by simp at hl;lia
 |k+1,a::b::c::r,hl=>by
  show (dA r).length+1=k+1;rw [oq (k:=k) (by simp at hl;lia)]
def B0 (K:PySem.W.Frag) (ad:Ad):Sp:=fun vs H Q _=>∃ (a:Addr) (ns:List Int) (k:Nat),vs=[.ref a]/\aH K H a (vI ns)/\ns.length=3*k/\k<=1000/\∀ (H':Hp) (p:Addr),H p=none->au H H'->aV K H' p (dA ns)->Q (.ref p) H'
theorem bq (T:Tx P w K mg base ad):Ok T 1 ad.yj ad.eD ["row"] B0:=by
 refine T.bp.ok qN (fun vs H Q E h=>?_) (fun nd bB A outer s H vs Q E hr h=>?_)
 ·obtain ⟨a,ns,k,rfl,_⟩:=h;rfl
 ·obtain ⟨a,ns,k,rfl,hs,hl,hk,q⟩:=h;refine ⟨_,(ae (aq (iZ rfl nd (GX rfl T.d9 (fY ab (eL K T.aX (pv 0)) ab)) (own:=[("at",1)]) (bC (show kE ["row","at"] (af lx) _ [("at",1)]=true by decide+kernel)) (fun _ _ _ _ _=>gN 1 nd) (fun _ _ _ _ _=>cu) (fun _ _ _ _ _=>(C3 (fY (xL K (pv 0) (pv 1)) (xL K (pv 0) (aB bh (pv 1) ab)) (xL K (pv 0) (aB bh (pv 1) ab)))))))),?_⟩;refine ⟨_,rfl,a,_,rfl,.inl hs,0,((3*k:Nat):Int),3,k,by rw [br,hl],Vt.three (by lia),fun D hD=>?_⟩;refine lcC (te:=_) hD (Nat.le_trans hk (by decide)) (fun i acc H2=>au H H2/\∃ as,acc=as.map V.ref/\gF K H2 as ((dA ns).take i)) ⟨au.refl H,[],rfl,.nil⟩ ?_ ?_
  ·rintro i acc H2 hi aR hlen hsz ⟨s,as,rfl,r⟩;obtain ⟨x,y,z,h1,h2,h3,h4⟩:=HJ hl hi;have s2:au H H2:=s.trans aN;have e1:(0:Int)+(i:Nat)*3=((3*i:Nat):Int):=by lia
   refine ⟨_,rfl,_,rfl,a,_,_,_,rfl,rfl,s2.seq hs,KZ e1 h1,?_⟩;refine ⟨_,rfl,_,rfl,_,_,rfl,rfl,a,_,_,_,rfl,rfl,s2.seq hs,KZ (i:=3*i+1) (by lia) h2,?_⟩;refine ⟨_,rfl,_,rfl,_,_,rfl,rfl,a,_,_,_,rfl,rfl,s2.seq hs,KZ (i:=3*i+2) (by lia) h3,(by show 3<=sizeLine;decide),fun p hp=>?_⟩;have s3:au H2 (upd H2 p (.tup [.int x,.int y,.int z])):=au.laid hp;have nD:p≠D:=fun e=>by rw [e,aR] at hp;cases hp
   refine Eh.mk (s3 _ _ aR) hlen hsz ⟨s.trans (gE s3),as++[p],by rw [List.map_append];rfl,?_⟩;rw [aG h4];exact Paired.app (gF.mono r (gE s3)) (.cons (show i9 K _ p (x,y,z) from pO.of (ma nD ah)) .nil)
  ·rintro acc H2 aR hlen ⟨s,as,rfl,r⟩;rw [List.take_of_length_le (Nat.le_of_eq (oq hl))] at r;exact q H2 D hD (s.trans aN) ⟨as,aR,gF.mono r aN⟩
def wV (ts:List FF):List Int:=ts.flatMap fun t=>[t.1,t.2.1,t.2.2]
def B1 (K:PySem.W.Frag) (ad:Ad):Sp:=fun vs H Q _=>∃ (a:Addr) (ts:List FF),vs=[.ref a]/\aV K H a ts/\ts.length<=1000/\∀ (H':Hp) (p:Addr),H p=none->au H H'->H' p=some (.lst (vI (wV ts)))->Q (.ref p) H'
theorem rE (T:Tx P w K mg base ad):Ok T 1 ad.yk ad.eE ["program"] B1:=by
 refine T.lN.ok qO (fun vs H Q E h=>?_) (fun nd bB A outer s H vs Q E hr h=>?_)
 ·obtain ⟨a,ts,rfl,_⟩:=h;rfl
 ·obtain ⟨a,ts,rfl,⟨as,ha,r⟩,hk,q⟩:=h;refine ⟨_,(aa (sS 1 nd (aE ft))
   (aa (jc PassesOwn.never rfl (DA K (pv 0)) (gN 2 nd) (ae (bH (hZ PySem.F.plainAttrs_list PySem.F.slot_list_extend PySem.F.type_list_extend (SF K) (pv 1) (bj (pv 2))))))
   (ae (aq (pv 1))))),?_⟩
  refine ⟨Nat.zero_le _,fun p hp=>?_⟩;have s0:au H (upd H p (.lst [])):=au.laid hp;refine ⟨_,rfl,a,rfl,⟨_,aH.of (s0 _ _ ha)⟩,jC (K:=K) (a:=a) (xs:=as.map V.ref) (fun i σ H2=>∃ v:Option V,σ=[some (.ref a),some (.ref p),v]/\au H H2/\H2 p=some (.lst (vI (wV (ts.take i)))))
   ⟨none,rfl,s0,ah⟩ (fun i σ H2 _ ⟨_,_,s1,_⟩=>aH.of (s1 _ _ ha)) ?_ ?_⟩
  ·rintro i y σ H2 hi ⟨v,rfl,s1,e1⟩;obtain ⟨c,hc,rfl⟩:=fU hi;obtain ⟨t,ht,hT⟩:=Paired.at r hc;have eW:=(List.getElem?_eq_some_iff.mp ht).1;have hlen:(vI (wV (ts.take i))).length<=3*i:=by
    rw [br];unfold wV;rw [List.length_flatMap];have:∀ l:List FF,(l.map fun t=>([t.1,t.2.1,t.2.2]:List Int).length).sum=3*l.length:=fun l=>by
     induction l with
     |nil=>rfl
     |cons b r ih=>rw [List.map_cons,List.sum_cons,ih,List.length_cons];show 3+3*r.length=3*(r.length+1);lia
    rw [this,List.length_take]
    lia
   refine ⟨_,rfl,.inl ⟨rfl,_,aH.of e1⟩,_,rfl,p,c,_,_,rfl,rfl,e1,.inr (hT.mono s1),?_,?_⟩
   ·refine Nat.le_trans (Nat.add_le_add hlen (Nat.le_refl 3)) ?_;rw [sizeLine_eq]
    lia
   ·refine ⟨_,rfl,fun b o e=>by rw [az (aw e hp)];exact s1 b o e,?_⟩;rw [ah,aG ht];unfold wV;rw [List.flatMap_append,QK];rfl
  ·rintro σ H2 ⟨v,rfl,s1,e1⟩;refine ⟨_,rfl,q H2 p hp s1 ?_⟩;rw [List.length_map,r.length,List.take_of_length_le (Nat.le_refl _)] at e1;exact e1
def cD (ad:Ad) (H:Hp) (a:Addr) (v:Vbapah.World):Prop:=fK ad H a (.int (v.n:Nat)) (.int (v.hands:Nat)) (.int (v.rounds:Nat)) (.int (v.apart:Nat)) (.int (v.longest:Nat)) (.int (v.starts:Nat))
theorem cD.mono {H H2:Hp} {a:Addr} {v:Vbapah.World} (h:cD ad H a v) (s:au H H2):cD ad H2 a v:=fK.mono h s
def MG (K:PySem.W.Frag) (ad:Ad):Sp:=fun vs H Q _=>∃ (a c:Addr) (v:Vbapah.World) (t:FF),vs=[.ref a,.ref c]/\cD ad H a v/\i9 K H c t/\Q (.bl (AR v.n t)) H
theorem MH (T:Tx P w K mg base ad):Ok T 2 ad.NT ad.lG ["world","cell"] MG:=by
 refine T.HA.ok DE (fun vs H Q E h=>?_) (fun nd bB A outer s H vs Q E hr h=>?_)
 ·obtain ⟨a,c,v,t,rfl,_⟩:=h;rfl
 ·obtain ⟨a,c,v,t,rfl,hW,hT,q⟩:=h;refine ⟨_,(aa (sS 2 nd (aB cV (aF K (pv 0)) ab))
   (ae (aq (jb (eC (aK T) hr T.aP (fY (xT K (pv 1) ab) ab (aB cV (ay rfl T.HH) ab))) (jb (eC (aK T) hr T.aP (fY (xT K (pv 1) ab) ab (pv 2))) (nL (eC (aK T) hr T.aP (fY (xT K (pv 1) ab) ab (pv 2))))))))),?_⟩
  refine ⟨_,rfl,cn T hW ⟨_,_,rfl,rfl,?_⟩⟩;refine ⟨_,rfl,c,_,_,_,rfl,rfl,hT,rfl,_,_,rfl,rfl,_,_,_,rfl,_,rfl,?_⟩;refine eh (F:=fun b=>Q (.bl b) H) _ q fun q=>?_
  refine ⟨_,rfl,c,_,_,_,rfl,rfl,hT,rfl,_,rfl,_,_,_,rfl,_,rfl,?_⟩;refine eh (F:=fun b=>Q (.bl b) H) _ q fun q=>?_
  exact ⟨_,rfl,c,_,_,_,rfl,rfl,hT,rfl,_,rfl,_,_,_,rfl,q⟩
def yM (K:PySem.W.Frag) (ad:Ad):Sp:=fun vs H Q _=>∃ (a b:Addr) (v:Vbapah.World) (ns:List Int),vs=[.ref a,.ref b]/\cD ad H a v/\v.longest<=8/\aH K H b (vI ns)/\∀ H',au H H'->Q (.bl (cF v ns)) H'
theorem fm (T:Tx P w K mg base ad):Ok T 3 ad.tD ad.c7 ["world","row"] yM:=by
 refine T.dR.ok mX (fun vs H Q E h=>?_) (fun nd bB A outer s H vs Q E hr h=>?_)
 ·obtain ⟨a,b,v,ns,rfl,_⟩:=h;rfl
 ·obtain ⟨a,b,v,ns,rfl,hW,hL8,hS,q⟩:=h;refine ⟨_,(aa (aZ (PW.pt (PL (aS Kd (aB dj (eL K T.aX (pv 1)) ab) ab) (LW (cK (bx (eC (aK T) hr T.aP (fY (eL K T.aX (pv 1)) ab (aB jd ab (aF K (pv 0)))))))))) (ae (aq xm)) aJ)
   (ae (aq (cj (SE K) (by rfl) T.HG IG (bj (iZ rfl nd (DA K (eC (bq T) hr T.bp (bj (pv 1)))) (own:=[("cell",2)]) (bC (show kE ["world","row","cell"] (af jj) _ [("cell",2)]=true by decide+kernel)) (fun _ _ _ _ _=>gN 2 nd) (fun _ _ _ _ _=>cu) (fun _ _ _ _ _=>(eC (MH T) hr T.HA (ie (pv 0) (pv 2)))))))))),?_⟩
  refine ⟨_,rfl,b,_,rfl,.inl hS,_,_,rfl,rfl,(by show (0:Int)<3;decide),rfl,_,rfl,?_⟩;refine KW (F:=fun z=>if z=true then _ else _) (!(decide ((3:Int)<=(vI ns).length)&&decide (((vI ns).length:Int)<=3*(v.longest:Nat)))) ?_ fun q=>?_
  ·refine aW (fun hc=>?_) fun hc=>?_
   ·have e:cF v ns=false:=by
     cases z:cF v ns with
     |false=>rfl
     |true=>
      unfold cF at z;rw [Bool.and_eq_true,Bool.and_eq_true,decide_eq_true_eq,decide_eq_true_eq] at z;obtain ⟨z1,⟨z2,z3⟩,_⟩:=z;rw [br,Bool.or_eq_true,Bool.not_eq_true',Bool.not_eq_true',decide_eq_false_iff_not,Bool.and_eq_false_iff,decide_eq_false_iff_not,decide_eq_false_iff_not] at hc;simp only [V.int.injEq] at hc
      lia
    rw [<-e];exact q H (au.refl H)
   ·rw [br,Bool.or_eq_false_iff,Bool.not_eq_false',Bool.not_eq_false',decide_eq_true_eq,Bool.and_eq_true,decide_eq_true_eq,decide_eq_true_eq] at hc;obtain ⟨c1,c2,c3⟩:=hc;simp only [V.int.injEq] at c1;obtain ⟨k,hk⟩:∃ k,ns.length=3*k:=⟨ns.length/3,by lia⟩;refine ⟨_,rfl,b,ns,k,rfl,hS,hk,by lia,fun H1 p hp s1 hC=>?_⟩;obtain ⟨as,ha,r⟩:=hC;refine ⟨p,rfl,⟨_,aH.of ha⟩,fun D hD=>?_⟩;refine Pt (xs:=as.map V.ref) hD ?_ (fun i acc H2=>au H1 H2/\acc=((dA ns).take i).map fun t=>V.bl (AR v.n t)) ⟨au.refl _,rfl⟩ (fun i acc H2 ⟨s2,_⟩=>aH.of (s2 _ _ ha)) ?_ ?_
    ·rw [List.length_map,r.length,oq hk];exact Nat.le_trans (show k<=1000 by lia) (by decide)
    ·rintro i x acc H2 hi aR hlen hsz ⟨s2,rfl⟩;obtain ⟨c,hc,rfl⟩:=fU hi;obtain ⟨t,ht,hT⟩:=Paired.at r hc;have s3:au H1 H2:=s2.trans aN;refine ⟨_,rfl,_,rfl,a,c,v,t,rfl,hW.mono (s1.trans s3),hT.mono s3,Eh.mk aR hlen hsz ⟨s2,?_⟩⟩;rw [aG ht,List.map_append];rfl
    ·rintro acc H2 aR hlen ⟨s2,rfl⟩;refine ⟨D,(dA ns).map (AR v.n),rfl,aH.of ?_,?_⟩
     ·rw [aR,List.length_map,r.length,List.take_of_length_le (Nat.le_refl _),List.map_map];rfl
     ·have e:cF v ns=((dA ns).map (AR v.n)).all id:=by
       unfold cF;rw [decide_eq_true (show ns.length%3=0 by lia),decide_eq_true (show 3<=ns.length/\ns.length<=3*v.longest by lia),List.all_map];rfl
      rw [<-e];exact q H2 (s1.trans (s2.trans aN))
  ·exact ⟨_,rfl,b,_,rfl,.inl hS,_,rfl,ju T hW ⟨_,_,rfl,rfl,.inl ⟨by lia,by lia⟩,_,_,_,rfl,_,rfl,q⟩⟩
def yN (K:PySem.W.Frag) (ad:Ad):Sp:=fun vs H Q _=>∃ n:Int,vs=[.int n]/\Q (.bl (decide (1<=n)&&decide (n<2147483647))) H
theorem nA (T:Tx P w K mg base ad):Ok T 1 ad.tI ad.de ["number"] yN:=by
 refine T.jt.ok nh (fun vs H Q E h=>?_) (fun nd bB A outer s H vs Q E hr h=>?_)
 ·obtain ⟨n,rfl,_⟩:=h;rfl
 ·obtain ⟨n,rfl,q⟩:=h;refine ⟨_,(ae (aq (jb (fR Ny ab (pv 0)) (nL (fR GO (pv 0) (ay rfl T.pk)))))),?_⟩;exact ⟨_,rfl,_,_,rfl,rfl,_,rfl,eh (F:=fun b=>Q (.bl b) H) _ q fun q=>⟨_,rfl,_,_,rfl,rfl,q⟩⟩
def zR (K:PySem.W.Frag) (ad:Ad):Sp:=fun vs H Q _=>∃ x:Nat,vs=[.int (x:Nat)]/\Q (.int (Vbapah.nextDraw x:Nat)) H
theorem pA (T:Tx P w K mg base ad):Ok T 1 ad.vS ad.dH ["number"] zR:=by
 refine T.jZ.ok oU (fun vs H Q E h=>?_) (fun nd bB A outer s H vs Q E hr h=>?_)
 ·obtain ⟨x,rfl,_⟩:=h;rfl
 ·obtain ⟨x,rfl,q⟩:=h;refine ⟨_,(ae (aq (aB dj (aB jd (ay rfl T.Ec) (pv 0)) (ay rfl T.pk)))),?_⟩;refine ⟨_,rfl,_,_,rfl,rfl,.inl ⟨by decide,by decide⟩,_,_,rfl,rfl,(by show (0:Int)<2147483647;decide),?_⟩;have e:(48271:Int)*(x:Nat)%2147483647=((Vbapah.nextDraw x:Nat):Int):=by
   unfold Vbapah.nextDraw Vbapah.FACTOR Vbapah.PRIME
   lia
  show Q (.int ((48271:Int)*(x:Nat)%2147483647)) H;rw [e];exact q
def SO (m:Nat):Nat:=(Vbapah.PRIME-1)/m*m
def FR (K:PySem.W.Frag) (ad:Ad):Sp:=fun vs H Q _=>∃ m:Nat,vs=[.int (m:Nat)]/\0<m/\m<=1000000/\Q (.int (SO m:Nat)) H
theorem FT (T:Tx P w K mg base ad):Ok T 1 ad.DW ad.gz ["m"] FR:=by
 refine T.yA.ok vG (fun vs H Q E h=>?_) (fun nd bB A outer s H vs Q E hr h=>?_)
 ·obtain ⟨x,rfl,_⟩:=h;rfl
 ·obtain ⟨m,rfl,h1,h2,q⟩:=h;refine ⟨_,(ae (aq (aB jd (aB Nr (aB cV (ay rfl T.pk) ab) (pv 0)) (pv 0)))),?_⟩;have e:(2147483647-1:Int)/(m:Nat)=((((Vbapah.PRIME-1)/m:Nat)):Int):=by
   rw [Int.natCast_ediv];rfl
  have hb:(Vbapah.PRIME-1)/m<=2147483646:=Nat.div_le_self _ _;refine ⟨_,_,rfl,rfl,_,rfl,_,_,rfl,rfl,⟨by lia,by lia⟩,_,rfl,_,_,rfl,rfl,.inl ?_,?_⟩
  ·rw [e];generalize (Vbapah.PRIME-1)/m=z at hb
   lia
  ·show Q (.int ((2147483647-1:Int)/(m:Nat)*(m:Nat))) H;rw [e, <-Int.natCast_mul];exact q
def bw (ad:Ad) (H:Hp) (a:Addr) (x:Nat):Prop:=jL ad H a (.int (x:Nat))
def Ej (K:PySem.W.Frag) (ad:Ad):Sp:=fun vs H Q _=>∃ (a:Addr) (m x:Nat),vs=[.ref a,.int (m:Nat)]/\bw ad H a x/\0<m/\m<=1000000/\1<=x/\x<Vbapah.PRIME/\
 ∀ H',bw ad H' a (Vbapah.draw m x).2->Kp [a] H H'->Q (.int ((Vbapah.draw m x).1:Nat)) H'
theorem Kp.one {a:Addr} {H H':Hp} (h:∀ b o,H b=some o->b≠a->H' b=some o):Kp [a] H H':=fun b o e n=>h b o e fun z=>n (by rw [z];exact List.mem_singleton.mpr rfl)
theorem Kp.hG {a b:Addr} {H H':Hp} {o:HO} (h:Kp [a] H H') (e:H b=some o) (ne:b≠a):H' b=some o:=h b o e fun z=>ne (List.mem_singleton.mp z)
theorem cp (T:Tx P w K mg base ad):Ok T 2 ad.tJ ad.dI ["self","m"] Ej:=by
 refine T.jA.Ui DK (fun vs H Q E h=>?_) (fun nd bB A outer s H vs Q E hr h=>?_)
 ·obtain ⟨a,m,x,rfl,_⟩:=h;rfl
 ·obtain ⟨a,m,x,rfl,hD,m1,m2,x1,x2,q⟩:=h;refine ⟨_,(aa (sS 2 nd (eC (FT T) hr T.yA (bj (pv 1))))
   (aa (aY (pv 0) (eC (pA T) hr T.jZ (bj (aF K (pv 0)))) rfl)
   (aa (sS 3 nd ab)
   (aa (oA PassesOwn.never (PW.pt (kW (aS PU (aB cV (aF K (pv 0)) ab) (pv 2)) (kC (aS GO (pv 3) (ay rfl T.om))))) (aa (aY (pv 0) (eC (pA T) hr T.jZ (bj (aF K (pv 0)))) rfl)
   (ae (sS 3 nd (aB bh (pv 3) ab)))))
   (ae (aq (aB dj (aB cV (aF K (pv 0)) ab) (pv 1)))))))),?_⟩
  refine ⟨_,rfl,m,rfl,m1,m2,?_⟩;refine ⟨_,rfl,cW T hD ⟨x,rfl,_,rfl,rD T hD fun H1 h1 k1=>?_⟩⟩;refine ⟨fun f σ H2=>∃ (g y:Nat),σ=[some (.ref a),some (.int (m:Nat)),some (.int (SO m:Nat)),some (.int (g:Nat))]/\g+f=20/\bw ad H2 a y/\1<=y/\y<Vbapah.PRIME/\oG m f y=Vbapah.draw m x/\Kp [a] H H2,
   ⟨20,0,Vbapah.nextDraw x,rfl,rfl,h1,xx x1 x2,CK x,(jQ m 20 x).symm,Kp.one k1⟩,?_⟩
  rintro f σ H2 ⟨g,y,rfl,hg,hy,y1,y2,ey,k2⟩;refine ⟨_,rfl,cW T hy ⟨_,_,rfl,rfl,_,rfl,_,_,rfl,rfl,_,rfl,?_⟩⟩;refine eh (F:=fun z=>if z=true then _ else _) (decide ((g:Int)<20)) ?_ fun q=>⟨_,rfl,_,_,rfl,rfl,_,rfl,q⟩
  refine aW (fun hc=>?_) fun hc=>?_
  ·rw [Bool.and_eq_true,decide_eq_true_eq,decide_eq_true_eq] at hc;obtain ⟨c1,c2⟩:=hc;obtain ⟨f',rfl⟩:∃ f',f=f'+1:=⟨f-1,by lia⟩;refine ⟨fun σ' H'=>_,fun σ' H' z=>⟨f',Nat.lt_succ_self _,z⟩,?_⟩;refine ⟨_,rfl,cW T hy ⟨y,rfl,_,rfl,rD T hy fun H3 h3 k3=>?_⟩⟩;refine ⟨_,rfl,_,_,rfl,rfl,g+1,Vbapah.nextDraw y,rfl,by lia,h3,xx y1 y2,CK y,?_,k2.trans (Kp.one k3)⟩;rw [<-ey,Qo (by unfold SO at c1;lia)]
  ·have hs:y-1<(Vbapah.PRIME-1)/m*m∨f=0:=by
    rw [Bool.and_eq_false_iff,decide_eq_false_iff_not,decide_eq_false_iff_not] at hc;unfold SO at hc
    lia
   rw [Mm hs] at ey;refine ⟨_,rfl,cW T hy ⟨_,_,rfl,rfl,_,rfl,_,_,rfl,rfl,by lia,?_⟩⟩;have e:((y:Nat)-1:Int)%(m:Nat)=((Vbapah.draw m x).1:Nat):=by
    rw [<-ey];show _=(((y-1)%m:Nat):Int);rw [Int.natCast_emod]
    congr 1
    lia
   show Q (.int (((y:Nat)-1:Int)%(m:Nat))) H2;rw [e];exact q H2 (by rw [<-ey];exact hy) k2
end
theorem mf {xs:List V} {z:Int} {k:Nat} (e:z=(k:Int)):r6 xs none (some z)=xs.take k:=by
 subst e;unfold r6;rw [HT.xo,HT.CF,List.drop_zero,Nat.sub_zero, <-List.take_take,List.take_of_length_le (Nat.le_refl _)]
theorem pB {xs:List V} {z:Int} {k:Nat} (e:z=(k:Int)):r6 xs (some z) none=xs.drop k:=by
 subst e;unfold r6;rw [HT.xo,HT.CF];by_cases h:k<=xs.length
 ·rw [Nat.min_eq_left h,List.take_of_length_le (by rw [List.length_drop];exact Nat.le_refl _)]
 ·rw [Nat.min_eq_right (by lia),List.drop_eq_nil_of_le (Nat.le_refl _),List.drop_eq_nil_of_le (by lia),List.take_nil]
theorem N1 {H:Hp} {o:HO} {Q:VK} (q:∀ p H2,H p=none->au H H2->H2 p=some o->Q (.ref p) H2):∀ p,H p=none->Q (.ref p) (upd H p o):=fun p hp=>q p _ hp (au.laid hp) ah
theorem uc {K:PySem.W.Frag} {H:Hp} {a:Addr} {xs:List V} {lo hi:Option Int} {Q:VK} (h:aH K H a xs) (q:∀ p H2,H p=none->au H H2->H2 p=some (.lst (r6 xs lo hi))->Q (.ref p) H2):Sa K (.ref a) lo hi H Q:=⟨a,xs,rfl,h,N1 q⟩
theorem wW {K:PySem.W.Frag} {H:Hp} {a:Addr} {xs:List V} {lo:Option Int} {Q:VK} {σ:L2.St} (h:aH K H a xs) (q:∀ p H2,H p=none->au H H2->H2 p=some (.lst (r6 xs lo none))->Q (.ref p) H2):NA σ H fun u H3=>Sa K (.ref a) lo u H3 Q:=uc h q
theorem fZ {H:Hp} {l b:Addr} {xs zs:List V} {Q:VK} (h1:H l=some (.lst xs)) (h2:H b=some (.lst zs)) (hz:xs.length+zs.length<=sizeLine) (q:∀ p H2,H p=none->au H H2->H2 p=some (.lst (xs++zs))->Q (.ref p) H2):Xo (.ref l) (.ref b) H Q:=⟨l,b,xs,zs,rfl,rfl,h1,h2,hz,N1 q⟩
theorem aT {n:Nat} (h:n<=1000000):n<=sizeLine:=Nat.le_trans h (by decide)
theorem au.QL {H H1:Hp} {l:Addr} {o:HO} (s:au H H1) (hl:H l=none):au H (upd H1 l o):=fun b u e=>by rw [az (aw e hl)];exact s b u e
theorem aI {H H2:Hp} {p:Addr} {o:HO} (hp:H p=none) (e:upd H p o=H2):au H H2/\H2 p=some o:=by subst e;exact ⟨au.laid hp,ah⟩
section
variable {P:Program} {w:World} {K:PySem.W.Frag} {mg:Str->Option Value} {base:Heap} {ad:Ad}
theorem Ek {x:Vbapah.Program} {i:Nat} (h:i<x.length):(x.map hU)[i]? =some (hU (x.getD i Vbapah.blank)):=by
 rw [List.getElem?_map,List.getElem?_eq_getElem h,List.getD_eq_getElem?_getD,List.getElem?_eq_getElem h];rfl
def kU (ad:Ad) (K:PySem.W.Frag) (a b:Addr) (x:Vbapah.Program) (n0 n1 n2 n3:Nat) (H:Hp):Prop:=bG K H a x/\1<=x.length/\x.length<=8/\H b=some (.lst (vN [n0,n1,n2,n3]))
def Made (K:PySem.W.Frag) (H:Hp) (Q:VK) (y:Vbapah.Program):Prop:=∀ (H':Hp) (p:Addr),H p=none->au H H'->bG K H' p y->Q (.ref p) H'
def MI (K:PySem.W.Frag) (ad:Ad):Sp:=fun vs H Q _=>∃ (a b:Addr) (x:Vbapah.Program) (n n0 n1 n2 n3:Nat),vs=[.ref a,.ref b,.int (n:Nat)]/\kU ad K a b x n0 n1 n2 n3 H/\0<n/\
 Made K H Q (x.take (n0%x.length)++[Vbapah.putNumber n (n1%3) n2 (x.getD (n0%x.length) Vbapah.blank)]++x.drop (n0%x.length+1))
theorem MJ (T:Tx P w K mg base ad):Ok T 1 ad.pointed ad.lH ["program","numbers","ring_size"] MI:=by
 refine T.HB.ok DF (fun vs H Q E h=>?_) (fun nd bB A outer s H vs Q E hr h=>?_)
 ·obtain ⟨a,b,x,n,n0,n1,n2,n3,rfl,_⟩:=h;rfl
 ·obtain ⟨a,b,x,n,n0,n1,n2,n3,rfl,⟨⟨as,ha,r⟩,x1,x8,hb⟩,hn,q⟩:=h;refine ⟨_,(aa (sS 3 nd (aB dj (xL K (pv 1) ab) (eL K T.aX (pv 0))))
   (aa (sS 4 nd (aB dj (xL K (pv 1) ab) ab))
   (aa (sS 5 nd (je (listS K) (by rfl) T.Ea IF (bj (xL K (pv 0) (pv 3)))))
   (aa (aZ (aS du (pv 4) ab) (ae (wC (aB dj (xL K (pv 1) ab) (ay rfl T.HH)) (wB (pv 5) ab set_list))) (ae (wC (aB dj (xL K (pv 1) ab) (pv 2)) (wB (pv 5) (pv 4) set_list))))
   (ae (aq (aB fW (aB fW (ck (KJ K) (pv 0) dX (cB (pv 3))) (aE (bj (je (Qy K) (by rfl) T.CM KH (bj (pv 5)))))) (ck (KJ K) (pv 0) (cB (aB bh (pv 3) ab)) dX)))))))),?_⟩
  have hl:(as.map V.ref).length=x.length:=by rw [List.length_map,r.length,List.length_map]
  have XT:as.length=x.length:=by rw [r.length,List.length_map]
  refine ⟨_,rfl,b,_,_,_,rfl,rfl,aH.of hb,rfl,_,rfl,a,_,rfl,.inl (aH.of ha),_,_,rfl,rfl,by lia,?_⟩;have e0:((n0:Nat):Int)%((as.map V.ref).length:Nat)=((n0%x.length:Nat):Int):=by rw [hl,Int.natCast_emod]
  have e1:((n1:Nat):Int)%3=((n1%3:Nat):Int):=by lia
  have hp:n0%x.length<x.length:=Nat.mod_lt _ x1;obtain ⟨c,hc,hT⟩:=Paired.at' r (Ek hp);refine ⟨_,rfl,b,_,_,_,rfl,rfl,aH.of hb,rfl,_,_,rfl,rfl,(by show (0:Int)<3;decide),?_⟩;refine ⟨_,rfl,_,rfl,a,_,_,_,rfl,rfl,aH.of ha,at_of e0 (by rw [List.getElem?_map,hc];rfl),c,_,rfl,.inr hT,?_⟩;intro l n_l;generalize e_l:upd H l _=H1;obtain ⟨s1,VJ⟩:=aI n_l e_l
  generalize qz:x.getD (n0%x.length) Vbapah.blank=cell at hT VJ q;generalize Mf:Vbapah.putNumber n (n1%3) n2 cell=new at q;refine ⟨_,rfl,rfl,_,rfl,aW (fun hc=>?g1) fun hc=>?g2⟩
  case' g1=>
   have h0:n1%3=0:=by
    have:=of_decide_eq_true hc;simp only [V.int.injEq] at this
    lia
   have en:new={cell with op:=n2%8}:=by rw [<-Mf];unfold Vbapah.putNumber;rw [if_pos h0]
   refine ⟨_,rfl,b,_,_,_,rfl,rfl,aH.of (s1 _ _ hb),rfl,_,_,rfl,rfl,(by show (0:Int)<8;decide),_,rfl,l,_,_,0,rfl,rfl,VJ,rfl,?_⟩;have s2:=au.QL (o:= .lst ([V.int (hU cell).1,V.int (hU cell).2.1,V.int (hU cell).2.2].set 0 (V.int ((n2:Nat)%8)))) s1 n_l;have e2:upd H1 l (.lst ([V.int (hU cell).1,V.int (hU cell).2.1,V.int (hU cell).2.2].set 0 (V.int ((n2:Nat)%8)))) l=some (.lst [.int (hU new).1,.int (hU new).2.1,.int (hU new).2.2]):=by
    rw [ah,en];rfl
  case' g2=>
   have hz:=of_decide_eq_false hc;simp only [V.int.injEq] at hz;have em:((n2:Nat):Int)%(n:Nat)=((n2%n:Nat):Int):=by rw [Int.natCast_emod]
   obtain ⟨j,hj,ej⟩:∃ j,n1%3=j+1/\j<2:=⟨n1%3-1,by lia,by lia⟩;have hix:NB 3 (((n1:Nat):Int)%3)=some (j+1):=by
    rw [e1,hj];unfold NB;rw [if_pos (by lia),if_pos (by lia),Int.toNat_natCast]
   refine ⟨_,rfl,b,_,_,_,rfl,rfl,aH.of (s1 _ _ hb),rfl,_,rfl,_,_,rfl,rfl,by lia,_,rfl,_,rfl,l,_,_,j+1,rfl,rfl,VJ,hix,?_⟩;have s2:=au.QL (o:= .lst ([V.int (hU cell).1,V.int (hU cell).2.1,V.int (hU cell).2.2].set (j+1) (V.int ((n2:Nat)%(n:Nat))))) s1 n_l;have e2:upd H1 l (.lst ([V.int (hU cell).1,V.int (hU cell).2.1,V.int (hU cell).2.2].set (j+1) (V.int ((n2:Nat)%(n:Nat))))) l=some (.lst [.int (hU new).1,.int (hU new).2.1,.int (hU new).2.2]):=by
    rw [ah, <-Mf,em];unfold Vbapah.putNumber;rw [if_neg (by lia)]
    match j,ej with
    |0,_=>rw [if_pos hj];rfl
    |1,_=>rw [if_neg (by lia)];rfl
  all_goals
   refine ⟨_,rfl,_,rfl,_,rfl,uc (aH.of (s2 _ _ ha)) fun p1 H3 XU s3 h3=>?_⟩;have l3:=s3 _ _ e2;refine ⟨_,rfl,l,_,rfl,.inl ⟨aH.of l3,?_⟩⟩;intro t VL;generalize VM:upd H3 t _=H4;obtain ⟨s4,h4⟩:=aI VL VM
   refine ⟨by show 1<=sizeLine;decide,?_⟩;intro p2 ke;generalize kf:upd H4 p2 _=H5;obtain ⟨s5,h5⟩:=aI ke kf
   rw [mf e0] at h3;refine fZ (s5 _ _ (s4 _ _ h3)) h5 (aT (by rw [List.length_take,hl];show _+1<=_;lia)) fun p3 H6 LN s6 h6=>?_
   have XW:=((s3.trans s4).trans s5).trans s6;refine ⟨_,rfl,_,rfl,_,_,rfl,rfl,_,rfl,wW (aH.of (XW _ _ (s2 _ _ ha))) fun p4 H7 XX s7 h7=>?_⟩;rw [pB (k:=n0%x.length+1) (by lia)] at h7;refine fZ (s7 _ _ h6) h7 (aT (by rw [List.length_append,List.length_take,List.length_drop,hl];show _+1+_<=_;lia)) fun p H8 hp s8 h8=>?_
   have N2:=XW.trans s7;have MK:=N2.trans s8;refine q H8 p (s2.free (N2.free hp)) (s2.trans MK) ⟨as.take (n0%x.length)++[t]++as.drop (n0%x.length+1),?_,?_⟩
   ·rw [h8,List.map_append,List.map_append,List.map_take,List.map_drop];rfl
   ·rw [List.map_append,List.map_append,List.map_take,List.map_drop];have r8:=gF.mono r (s2.trans MK);refine Paired.app (Paired.app (Paired.tk _ r8) (.cons ?_ .nil)) (Paired.dr _ r8);exact pO.of (s8 _ _ (s7 _ _ (s6 _ _ (s5 _ _ h4))))
def zS (K:PySem.W.Frag) (ad:Ad):Sp:=fun vs H Q _=>∃ (a b:Addr) (x:Vbapah.Program) (n n0 n1 n2 n3:Nat),vs=[.ref a,.ref b,.int (n:Nat)]/\kU ad K a b x n0 n1 n2 n3 H/\0<n/\
 Made K H Q (x.take (n0%(x.length+1))++[Vbapah.drawnCell n n1 n2 n3]++x.drop (n0%(x.length+1)))
theorem zT (T:Tx P w K mg base ad):Ok T 1 ad.vL ad.dB ["program","numbers","ring_size"] zS:=by
 refine T.rd.ok oN (fun vs H Q E h=>?_) (fun nd bB A outer s H vs Q E hr h=>?_)
 ·obtain ⟨a,b,x,n,n0,n1,n2,n3,rfl,_⟩:=h;rfl
 ·obtain ⟨a,b,x,n,n0,n1,n2,n3,rfl,⟨⟨as,ha,r⟩,x1,x8,hb⟩,hn,q⟩:=h;refine ⟨_,(aa (sS 3 nd (aB dj (xL K (pv 1) ab) (aB bh (eL K T.aX (pv 0)) ab)))
   (aa (sS 4 nd (C3 (fY (aB dj (xL K (pv 1) ab) (ay rfl T.HH)) (aB dj (xL K (pv 1) ab) (pv 2)) (aB dj (xL K (pv 1) ab) (pv 2)))))
   (ae (aq (aB fW (aB fW (ck (KJ K) (pv 0) dX (cB (pv 3))) (aE (bj (pv 4)))) (ck (KJ K) (pv 0) (cB (pv 3)) dX)))))),?_⟩
  have hl:(as.map V.ref).length=x.length:=by rw [List.length_map,r.length,List.length_map]
  refine ⟨_,rfl,b,_,_,_,rfl,rfl,aH.of hb,rfl,_,rfl,a,_,rfl,.inl (aH.of ha),_,_,rfl,rfl,_,_,rfl,rfl,by lia,?_⟩;have e0:((n0:Nat):Int)%(((as.map V.ref).length:Nat)+1)=((n0%(x.length+1):Nat):Int):=by rw [hl,Int.natCast_emod];rfl
  refine ⟨_,rfl,b,_,_,_,rfl,rfl,aH.of hb,rfl,_,_,rfl,rfl,(by show (0:Int)<8;decide),?_⟩;refine ⟨_,rfl,b,_,_,_,rfl,rfl,aH.of hb,rfl,_,rfl,_,_,rfl,rfl,by lia,?_⟩;refine ⟨_,rfl,b,_,_,_,rfl,rfl,aH.of hb,rfl,_,rfl,_,_,rfl,rfl,by lia,(by show 3<=sizeLine;decide),?_⟩;intro t VL;generalize VM:upd H t _=H4;obtain ⟨s4,h4⟩:=aI VL VM
  refine ⟨_,rfl,_,rfl,_,rfl,uc (aH.of (s4 _ _ ha)) fun p1 H3 XU s3 h3=>?_⟩;refine ⟨_,rfl,(by show 1<=sizeLine;decide),?_⟩;intro p2 ke;generalize kf:upd H3 p2 _=H5;obtain ⟨s5,h5⟩:=aI ke kf
  rw [mf e0] at h3;refine fZ (s5 _ _ h3) h5 (aT (by rw [List.length_take,hl];show _+1<=_;lia)) fun p3 H6 LN s6 h6=>?_
  have XW:=((s4.trans s3).trans s5).trans s6;refine ⟨_,rfl,_,rfl,_,rfl,wW (aH.of (XW _ _ ha)) fun p4 H7 XX s7 h7=>?_⟩;rw [pB e0] at h7;refine fZ (s7 _ _ h6) h7 (aT (by rw [List.length_append,List.length_take,List.length_drop,hl];show _+1+_<=_;lia)) fun p H8 hp s8 h8=>?_
  have N2:=XW.trans s7;have MK:=N2.trans s8;refine q H8 p (N2.free hp) MK ⟨as.take (n0%(x.length+1))++[t]++as.drop (n0%(x.length+1)),?_,?_⟩
  ·rw [h8,List.map_append,List.map_append,List.map_take,List.map_drop];rfl
  ·rw [List.map_append,List.map_append,List.map_take,List.map_drop];have r8:=gF.mono r MK;refine Paired.app (Paired.app (Paired.tk _ r8) (.cons ?_ .nil)) (Paired.dr _ r8);have h9:=s8 _ _ (s7 _ _ (s6 _ _ (s5 _ _ (s3 _ _ h4))));have en:[V.int ((n1:Nat)%8),V.int ((n2:Nat)%(n:Nat)),V.int ((n3:Nat)%(n:Nat))]=[V.int (hU (Vbapah.drawnCell n n1 n2 n3)).1,V.int (hU (Vbapah.drawnCell n n1 n2 n3)).2.1,V.int (hU (Vbapah.drawnCell n n1 n2 n3)).2.2]:=by
    show _=[V.int ((n1%8:Nat):Int),V.int ((n2%n:Nat):Int),V.int ((n3%n:Nat):Int)];rw [Int.natCast_emod,Int.natCast_emod,Int.natCast_emod];rfl
   exact pO.of (h9.trans (congrArg (fun z=>some (HO.tup z)) en))
def zU (K:PySem.W.Frag) (ad:Ad):Sp:=fun vs H Q _=>∃ (a b:Addr) (x:Vbapah.Program) (n0 n1 n2 n3:Nat),vs=[.ref a,.ref b]/\kU ad K a b x n0 n1 n2 n3 H/\
 Made K H Q (if x.length=1 then x else x.take (n0%x.length)++x.drop (n0%x.length+1))
theorem zV (T:Tx P w K mg base ad):Ok T 1 ad.vM ad.dC ["program","numbers"] zU:=by
 refine T.rf.ok oO (fun vs H Q E h=>?_) (fun nd bB A outer s H vs Q E hr h=>?_)
 ·obtain ⟨a,b,x,n0,n1,n2,n3,rfl,_⟩:=h;rfl
 ·obtain ⟨a,b,x,n0,n1,n2,n3,rfl,⟨⟨as,ha,r⟩,x1,x8,hb⟩,q⟩:=h;refine ⟨_,(aa (aZ (aS du (eL K T.aX (pv 0)) ab) (ae (aq (Vf PySem.F.plainAttrs_list PySem.F.slot_list_copy PySem.F.type_list_copy SA (pv 0)))) aJ)
   (aa (sS 2 nd (aB dj (xL K (pv 1) ab) (eL K T.aX (pv 0))))
   (ae (aq (aB fW (ck (KJ K) (pv 0) dX (cB (pv 2))) (ck (KJ K) (pv 0) (cB (aB bh (pv 2) ab)) dX)))))),?_⟩
  have hl:(as.map V.ref).length=x.length:=by rw [List.length_map,r.length,List.length_map]
  refine ⟨_,rfl,a,_,rfl,.inl (aH.of ha),rfl,_,rfl,aW (fun hc=>?_) fun hc=>?_⟩
  ·have h1:x.length=1:=by
    have:=of_decide_eq_true hc;simp only [V.int.injEq] at this
    lia
   rw [if_pos h1] at q;refine ⟨_,rfl,.inl ⟨rfl,_,aH.of ha⟩,a,_,rfl,rfl,ha,?_⟩;intro p mN;generalize B2:upd H p _=H2;obtain ⟨s2,h2⟩:=aI mN B2
   exact q H2 p mN s2 ⟨as,h2,gF.mono r s2⟩
  ·have h1:¬ x.length=1:=by
    have:=of_decide_eq_false hc;simp only [V.int.injEq] at this
    lia
   rw [if_neg h1] at q;have e0:((n0:Nat):Int)%((as.map V.ref).length:Nat)=((n0%x.length:Nat):Int):=by rw [hl,Int.natCast_emod]
   refine ⟨_,rfl,b,_,_,_,rfl,rfl,aH.of hb,rfl,_,rfl,a,_,rfl,.inl (aH.of ha),_,_,rfl,rfl,by lia,?_⟩;refine ⟨_,rfl,_,rfl,_,rfl,uc (aH.of ha) fun p1 H3 XU s3 h3=>?_⟩;refine ⟨_,rfl,_,rfl,_,_,rfl,rfl,_,rfl,wW (aH.of (s3 _ _ ha)) fun p4 H7 XX s7 h7=>?_⟩;rw [mf e0] at h3;rw [pB (k:=n0%x.length+1) (by lia)] at h7;refine fZ (s7 _ _ h3) h7 (aT (by rw [List.length_take,List.length_drop,hl];lia)) fun p H8 hp s8 h8=>?_
   have N2:=s3.trans s7;have MK:=N2.trans s8;refine q H8 p (N2.free hp) MK ⟨as.take (n0%x.length)++as.drop (n0%x.length+1),?_,?_⟩
   ·rw [h8,List.map_append,List.map_take,List.map_drop]
   ·rw [List.map_append,List.map_take,List.map_drop];have r8:=gF.mono r MK;exact Paired.app (Paired.tk _ r8) (Paired.dr _ r8)
def ML (K:PySem.W.Frag) (ad:Ad):Sp:=fun vs H Q _=>∃ (a b:Addr) (x:Vbapah.Program) (n0 n1 n2 n3:Nat),vs=[.ref a,.ref b]/\kU ad K a b x n0 n1 n2 n3 H/\
 Made K H Q (x.take (n0%x.length+1+n1%(x.length-n0%x.length))++x.drop (n0%x.length))
theorem MM (T:Tx P w K mg base ad):Ok T 1 ad.doubled ad.lI ["program","numbers"] ML:=by
 refine T.HC.ok DG (fun vs H Q E h=>?_) (fun nd bB A outer s H vs Q E hr h=>?_)
 ·obtain ⟨a,b,x,n0,n1,n2,n3,rfl,_⟩:=h;rfl
 ·obtain ⟨a,b,x,n0,n1,n2,n3,rfl,⟨⟨as,ha,r⟩,x1,x8,hb⟩,q⟩:=h;refine ⟨_,(aa (sS 2 nd (aB dj (xL K (pv 1) ab) (eL K T.aX (pv 0))))
   (aa (sS 3 nd (aB bh (aB bh (pv 2) ab) (aB dj (xL K (pv 1) ab) (aB cV (eL K T.aX (pv 0)) (pv 2)))))
   (ae (aq (aB fW (ck (KJ K) (pv 0) dX (cB (pv 3))) (ck (KJ K) (pv 0) (cB (pv 2)) dX)))))),?_⟩
  have hl:(as.map V.ref).length=x.length:=by rw [List.length_map,r.length,List.length_map]
  have e0:((n0:Nat):Int)%((as.map V.ref).length:Nat)=((n0%x.length:Nat):Int):=by rw [hl,Int.natCast_emod]
  have hp:n0%x.length<x.length:=Nat.mod_lt _ x1;refine ⟨_,rfl,b,_,_,_,rfl,rfl,aH.of hb,rfl,_,rfl,a,_,rfl,.inl (aH.of ha),_,_,rfl,rfl,by lia,?_⟩;refine ⟨_,rfl,_,_,rfl,rfl,_,rfl,b,_,_,_,rfl,rfl,aH.of hb,rfl,_,rfl,a,_,rfl,.inl (aH.of ha),_,rfl,_,_,rfl,rfl,_,_,rfl,rfl,by lia,_,_,rfl,rfl,?_⟩;have e1:((n0:Nat):Int)%((as.map V.ref).length:Nat)+1+((n1:Nat):Int)%(((as.map V.ref).length:Nat)-((n0:Nat):Int)%((as.map V.ref).length:Nat))=((n0%x.length+1+n1%(x.length-n0%x.length):Nat):Int):=by
   rw [e0,hl, <-Int.natCast_sub (Nat.le_of_lt hp), <-Int.natCast_emod];rfl
  refine ⟨_,rfl,_,rfl,_,rfl,uc (aH.of ha) fun p1 H3 XU s3 h3=>?_⟩;refine ⟨_,rfl,_,rfl,_,rfl,wW (aH.of (s3 _ _ ha)) fun p4 H7 XX s7 h7=>?_⟩;rw [mf e1] at h3;rw [pB e0] at h7;refine fZ (s7 _ _ h3) h7 (aT (by rw [List.length_take,List.length_drop,hl];lia)) fun p H8 hp s8 h8=>?_
  have N2:=s3.trans s7;have MK:=N2.trans s8;refine q H8 p (N2.free hp) MK ⟨as.take (n0%x.length+1+n1%(x.length-n0%x.length))++as.drop (n0%x.length),?_,?_⟩
  ·rw [h8,List.map_append,List.map_take,List.map_drop]
  ·rw [List.map_append,List.map_take,List.map_drop];have r8:=gF.mono r MK;exact Paired.app (Paired.tk _ r8) (Paired.dr _ r8)
def MN (K:PySem.W.Frag) (ad:Ad):Sp:=fun vs H Q _=>∃ (a c b:Addr) (x y:Vbapah.Program) (n0 n1 n2 n3:Nat),vs=[.ref a,.ref c,.ref b]/\kU ad K a b x n0 n1 n2 n3 H/\bG K H c y/\1<=y.length/\y.length<=8/\
 Made K H Q (x.take (1+n0%x.length)++y.drop (n1%y.length))
theorem MO (T:Tx P w K mg base ad):Ok T 1 ad.NU ad.lJ ["program","other","numbers"] MN:=by
 refine T.HD.ok DH (fun vs H Q E h=>?_) (fun nd bB A outer s H vs Q E hr h=>?_)
 ·obtain ⟨a,c,b,x,y,n0,n1,n2,n3,rfl,_⟩:=h;rfl
 ·obtain ⟨a,c,b,x,y,n0,n1,n2,n3,rfl,⟨⟨as,ha,r⟩,x1,x8,hb⟩,⟨cs,hc,rc⟩,y1,y8,q⟩:=h;refine ⟨_,(ae (aq (aB fW (ck (KJ K) (pv 0) dX (cB (aB bh ab (aB dj (xL K (pv 2) ab) (eL K T.aX (pv 0)))))) (ck (KJ K) (pv 1) (cB (aB dj (xL K (pv 2) ab) (eL K T.aX (pv 1)))) dX)))),?_⟩;have hl:(as.map V.ref).length=x.length:=by rw [List.length_map,r.length,List.length_map]
  have hlc:(cs.map V.ref).length=y.length:=by rw [List.length_map,rc.length,List.length_map]
  have e0:1+((n0:Nat):Int)%((as.map V.ref).length:Nat)=((1+n0%x.length:Nat):Int):=by rw [hl, <-Int.natCast_emod];rfl
  have e1:((n1:Nat):Int)%((cs.map V.ref).length:Nat)=((n1%y.length:Nat):Int):=by rw [hlc,Int.natCast_emod]
  refine ⟨_,rfl,_,rfl,b,_,_,_,rfl,rfl,aH.of hb,rfl,_,rfl,a,_,rfl,.inl (aH.of ha),_,_,rfl,rfl,by lia,_,_,rfl,rfl,_,rfl,uc (aH.of ha) fun p1 H3 XU s3 h3=>?_⟩;refine ⟨_,rfl,_,rfl,b,_,_,_,rfl,rfl,aH.of (s3 _ _ hb),rfl,_,rfl,c,_,rfl,.inl (aH.of (s3 _ _ hc)),_,_,rfl,rfl,by lia,_,rfl,wW (aH.of (s3 _ _ hc)) fun p4 H7 XX s7 h7=>?_⟩;rw [mf e0] at h3;rw [pB e1] at h7;refine fZ (s7 _ _ h3) h7 (aT (by rw [List.length_take,List.length_drop,hl,hlc];lia)) fun p H8 hp s8 h8=>?_
  have N2:=s3.trans s7;have MK:=N2.trans s8;refine q H8 p (N2.free hp) MK ⟨as.take (1+n0%x.length)++cs.drop (n1%y.length),?_,?_⟩
  ·rw [h8,List.map_append,List.map_take,List.map_drop]
  ·rw [List.map_append,List.map_take,List.map_drop];exact Paired.app (Paired.tk _ (gF.mono r MK)) (Paired.dr _ (gF.mono rc MK))
def B3 (K:PySem.W.Frag) (ad:Ad):Sp:=fun vs H Q _=>∃ (a b px py:Addr) (v:Vbapah.World) (kind:Nat) (x y:Vbapah.Program) (n0 n1 n2 n3:Nat),vs=[.ref a,.int (kind:Nat),.ref b,.ref px,.ref py]/\cD ad H a v/\0<v.n/\1<=kind/\kind<=5/\
 kU ad K px b x n0 n1 n2 n3 H/\bG K H py y/\1<=y.length/\y.length<=8/\Made K H Q (Dk v kind [n0,n1,n2,n3] x y)
theorem cE {i:Nat} {j:Int} {b:Bool} (h:decide (V.int (i:Nat)=V.int j)=b):(b=true->(i:Int)=j)/\(b=false->¬ (i:Int)=j):=by
 subst h;exact ⟨fun e=>V.int.inj (of_decide_eq_true e),fun e z=>of_decide_eq_false e (by rw [z])⟩
theorem B4 (T:Tx P w K mg base ad):Ok T 2 ad.ym ad.eF ["world","kind","numbers","program","other"] B3:=by
 refine T.tL.ok qP (fun vs H Q E h=>?_) (fun nd bB A outer s H vs Q E hr h=>?_)
 ·obtain ⟨a,b,px,py,v,kind,x,y,n0,n1,n2,n3,rfl,_⟩:=h;rfl
 ·obtain ⟨a,b,px,py,v,kind,x,y,n0,n1,n2,n3,rfl,hW,hn,k1,k5,hp,hy,y1,y8,q⟩:=h;refine ⟨_,(aa (aZ (aS du (pv 1) (ay rfl T.CN)) (ae (aq (eC (MJ T) hr T.HB (fY (pv 3) (pv 2) (aF K (pv 0)))))) aJ)
   (aa (aZ (aS du (pv 1) (ay rfl T.Eb)) (ae (aq (eC (zT T) hr T.rd (fY (pv 3) (pv 2) (aF K (pv 0)))))) aJ)
   (aa (aZ (aS du (pv 1) (ay rfl T.tV)) (ae (aq (eC (zV T) hr T.rf (ie (pv 3) (pv 2))))) aJ)
   (aa (aZ (aS du (pv 1) (ay rfl T.zJ)) (ae (aq (eC (MM T) hr T.HC (ie (pv 3) (pv 2))))) aJ)
   (ae (aq (eC (MO T) hr T.HD (fY (pv 3) (pv 4) (pv 2))))))))),?_⟩
  unfold Dk at q;refine ⟨_,rfl,rfl,_,rfl,aW (fun hc=>?_) fun hc=>?_⟩
  ·have e:=(cE hc).1 rfl;rw [if_pos (by lia)] at q;exact ⟨_,rfl,_,rfl,_,rfl,cn T hW ⟨px,b,x,v.n,n0,n1,n2,n3,rfl,hp,hn,q⟩⟩
  have e1:=(cE hc).2 rfl;rw [if_neg (by lia)] at q;refine ⟨_,rfl,rfl,_,rfl,aW (fun hc=>?_) fun hc=>?_⟩
  ·have e:=(cE hc).1 rfl;rw [if_pos (by lia)] at q;exact ⟨_,rfl,_,rfl,_,rfl,cn T hW ⟨px,b,x,v.n,n0,n1,n2,n3,rfl,hp,hn,q⟩⟩
  have e2:=(cE hc).2 rfl;rw [if_neg (by lia)] at q;refine ⟨_,rfl,rfl,_,rfl,aW (fun hc=>?_) fun hc=>?_⟩
  ·have e:=(cE hc).1 rfl;rw [if_pos (by lia)] at q;exact ⟨_,rfl,_,rfl,px,b,x,n0,n1,n2,n3,rfl,hp,q⟩
  have e3:=(cE hc).2 rfl;rw [if_neg (by lia)] at q;refine ⟨_,rfl,rfl,_,rfl,aW (fun hc=>?_) fun hc=>?_⟩
  ·have e:=(cE hc).1 rfl;rw [if_pos (by lia)] at q;exact ⟨_,rfl,_,rfl,px,b,x,n0,n1,n2,n3,rfl,hp,q⟩
  have e4:=(cE hc).2 rfl;rw [if_neg (by lia)] at q;exact ⟨_,rfl,_,rfl,_,rfl,px,py,b,x,y,n0,n1,n2,n3,rfl,hp,hy,y1,y8,q⟩
def MP (K:PySem.W.Frag) (ad:Ad):Sp:=fun vs H Q _=>∃ (a b px py:Addr) (v:Vbapah.World) (kind:Nat) (x y:Vbapah.Program) (nums:List Nat),vs=[.ref a,.int (kind:Nat),.ref b,.ref px,.ref py]/\cD ad H a v/\sA v/\1<=kind/\kind<=5/\
 H b=some (.lst (vN nums))/\nums.length<=4/\bG K H px x/\rT v x/\bG K H py y/\rT v y/\Made K H Q (Vbapah.made v ⟨kind,nums⟩ x y)
theorem aaM {nums:List Nat} (h:nums.length<=4):nums++List.replicate (4-nums.length) 0=[nums.getD 0 0,nums.getD 1 0,nums.getD 2 0,nums.getD 3 0]:=by
 match nums,h with
 |[],_=>rfl
 |[_],_=>rfl
 |[_,_],_=>rfl
 |[_,_,_],_=>rfl
 |[_,_,_,_],_=>rfl
 |_::_::_::_::_::_,h=>simp at h
theorem El (T:Tx P w K mg base ad):Ok T 3 ad.changed ad.lK ["world","kind","numbers","program","other"] MP:=by
 refine T.zI.ok DI (fun vs H Q E h=>?_) (fun nd bB A outer s H vs Q E hr h=>?_)
 ·obtain ⟨a,b,px,py,v,kind,x,y,nums,rfl,_⟩:=h;rfl
 ·obtain ⟨a,b,px,py,v,kind,x,y,nums,rfl,hW,W,k1,k5,hb,hn,hx,X,hy,Y,q⟩:=h;refine ⟨_,(aa (sS 5 nd (aB fW (pv 2) (aB Me (aE (bj ab)) (aB cV (ay rfl T.iP) (eL K T.aX (pv 2))))))
   (ae (aq (ck (KJ K) (eC (B4 T) hr T.tL (aQ (pv 0) (aQ (pv 1) (fY (pv 5) (pv 3) (pv 4))))) dX (cB (aF K (pv 0))))))),?_⟩
  refine ⟨_,rfl,(by show 1<=sizeLine;decide),?_⟩;intro p1 wX;generalize Em:upd H p1 _=H1;obtain ⟨s1,h1⟩:=aI wX Em
  have hl:(vN nums).length=nums.length:=aO nums;refine ⟨_,rfl,b,_,rfl,.inl (aH.of (s1 _ _ hb)),_,_,rfl,rfl,p1,_,_,rfl,rfl,h1,by lia,by lia,?_,?_⟩
  ·show 1*_<=_;exact aT (by lia)
  intro p2 ke;generalize kf:upd H1 p2 _=H2;obtain ⟨s2,h2⟩:=aI ke kf
  refine fZ (s2 _ _ (s1 _ _ hb)) h2 (aT ?_) fun p3 H3 LN s3 h3=>?_
  ·rw [len_rep,hl];show _+_*1<=_
   lia
  have zW:=(s1.trans s2).trans s3;have e3:H3 p3=some (.lst (vN [nums.getD 0 0,nums.getD 1 0,nums.getD 2 0,nums.getD 3 0])):=by
   rw [h3, <-aaM hn,cS,hl];have:((4:Int)-(nums.length:Nat)).toNat=4-nums.length:=by lia
   rw [this]
   congr 3
   generalize 4-nums.length=k
   induction k with
   |zero=>rfl
   |succ k ih=>rw [List.replicate_succ,List.flatten_cons,ih,List.replicate_succ];rfl
  have x8:x.length<=8:=Nat.le_trans X.len W.l.2.1;have y8:y.length<=8:=Nat.le_trans Y.len W.l.2.1;refine ⟨_,rfl,_,rfl,_,rfl,_,rfl,_,rfl,a,p3,px,py,v,kind,x,y,_,_,_,_,rfl,hW.mono zW,W.pos,k1,k5,⟨hx.mono zW,X.pos,x8,e3⟩,hy.mono zW,Y.pos,y8,fun H4 p4 XX s4 h4=>?_⟩;obtain ⟨as,e4,r⟩:=h4;refine ⟨_,rfl,ju T (hW.mono (zW.trans s4)) ⟨_,rfl,uc (aH.of e4) fun p H5 hp s5 h5=>?_⟩⟩;rw [mf rfl] at h5;refine q H5 p (zW.free (s4.free hp)) ((zW.trans s4).trans s5) ⟨as.take v.longest,by rw [h5,List.map_take],?_⟩;rw [<-NP ⟨k1,k5⟩ X,List.map_take];exact Paired.tk _ (gF.mono r s5)
def bounds (kind:Nat):List Nat:=if kind=1 then [64,3,64] else if kind=2 then [64,8,64,64] else if kind=3 then [64] else if kind=4 then [64,64] else if kind=5 then [64,64] else []
theorem bw.kO {H:Hp} {d D:Addr} {x:Nat} (h:bw ad H d x) (ne:d≠D):bw ad (kO D H) d x:=let ⟨dx,e⟩:=h;⟨dx,ma ne e⟩
theorem bw.mono {H H2:Hp} {a:Addr} {x:Nat} (h:bw ad H a x) (s:au H H2):bw ad H2 a x:=jL.mono h s
theorem bw.ne {H:Hp} {d D:Addr} {x:Nat} (h:bw ad H d x) (hD:H D=none):d≠D:=let ⟨dx,e⟩:=h;aw e hD
theorem En (kind:Nat):∀ m∈bounds kind,0<m/\m<=64:=by
 unfold bounds;intro m;split
 ·simp;lia
 split
 ·simp;lia
 split
 ·simp;lia
 split
 ·simp;lia
 split
 ·simp;lia
 ·simp
theorem Eo (kind:Nat):(bounds kind).length<=4:=by
 unfold bounds;split<;>first|decide|skip
 split<;>first|decide|skip
 split<;>first|decide|skip
 split<;>first|decide|skip
 split<;>decide
theorem MQ (T:Tx P w K mg base ad) {kind:Nat} (k1:1<=kind) (k5:kind<=5):∃ (t:Addr),wF [(Sum.inl 1,V.ref ad.jl),(Sum.inl 2,V.ref ad.jm),(Sum.inl 3,V.ref ad.jn),(Sum.inl 4,V.ref ad.jo),(Sum.inl 5,V.ref ad.jq)] (Sum.inl (kind:Int):Key)=some (.ref t)/\kF K t (vN (bounds kind)):=by
 have h:kind=1∨kind=2∨kind=3∨kind=4∨kind=5:=by lia
 rcases h with rfl|rfl|rfl|rfl|rfl
 ·exact ⟨_,rfl,T.zK⟩
 ·exact ⟨_,rfl,T.zL⟩
 ·exact ⟨_,rfl,T.zM⟩
 ·exact ⟨_,rfl,T.zN⟩
 ·exact ⟨_,rfl,T.zO⟩
def zX (K:PySem.W.Frag) (ad:Ad):Sp:=fun vs H Q _=>∃ (d:Addr) (kind x:Nat),vs=[.ref d,.int (kind:Nat)]/\bw ad H d x/\1<=kind/\kind<=5/\1<=x/\x<Vbapah.PRIME/\
 ∀ H' p,H p=none->H' p=some (.lst (vN (Vbapah.drawnRecipe kind x).1.nums))->bw ad H' d (Vbapah.drawnRecipe kind x).2->Kp [d] H H'->Q (.ref p) H'
theorem zY (T:Tx P w K mg base ad):Ok T 3 ad.vO ad.dD ["draws","kind"] zX:=by
 refine T.rg.ok oP (fun vs H Q E h=>?_) (fun nd bB A outer s H vs Q E hr h=>?_)
 ·obtain ⟨d,kind,x,rfl,_⟩:=h;rfl
 ·obtain ⟨d,kind,x,rfl,hd,k1,k5,x1,x2,q⟩:=h;refine ⟨_,(ae (aq (iZ rfl nd (piT K (Uh K (P:=P) (w:=w) (ay rfl T.lZ) (pv 1) (fun _ _=>rfl))) (own:=[("bound",2)]) (bC (show kE ["draws","kind","bound"] (af jU) _ [("bound",2)]=true by decide+kernel)) (fun _ _ _ _ _=>gN 2 nd) (fun _ _ _ _ _=>cu) (fun _ _ _ _ _=>(mO (pv 0) T.dS T.cG (cp (K:=K) T) hr T.bQ .nil i0 (bj (pv 2))))))),?_⟩;obtain ⟨t,ht,hT⟩:=MQ T k1 k5;refine ⟨_,rfl,_,_,_,_,rfl,T.l5,(show V.int _=kV (Sum.inl _) from rfl),ht,t,rfl,⟨_,hT.sq⟩,fun D hD=>?_⟩;have ne:=hd.ne hD;refine lcT (xs:=vN (bounds kind)) hD (by rw [aO];exact Nat.le_trans (Eo kind) (by decide)) (fun i acc H2=>acc=vN (Vbapah.drawAll ((bounds kind).take i) x).1/\bw ad H2 d (Vbapah.drawAll ((bounds kind).take i) x).2/\Kp [d] H H2) ⟨rfl,hd,Kp.refl _ _⟩ (fun _ _ _ _=>hT.sq) ?_ ?_
  ·rintro i y acc H2 hi aR hlen hsz ⟨rfl,hd2,k2⟩;obtain ⟨m,hm,rfl⟩:=kP hi;obtain ⟨m1,m2⟩:=En kind m (List.mem_of_getElem? hm);obtain ⟨z1,z2⟩:=fu ((bounds kind).take i) (fun z hz=>(En kind z (List.mem_of_mem_take hz)).1) x1 x2;have Zx:=hd2.mono aN;obtain ⟨dx,ed⟩:=id Zx;refine ⟨_,rfl,d,dx,_,rfl,ed,bV,_,rfl,d,m,_,rfl,Zx,m1,by lia,z1,z2,fun H4 h4 k4=>?_⟩;have e4:=k4.hG aR (fun z=>ne z.symm);refine Eh.mk e4 hlen hsz ⟨?_,?_,?_⟩
   ·rw [aG hm,cC,cS];rfl
   ·rw [aG hm,cC];exact h4.kO ne
   ·exact fun b o e n=>ma (aw e hD) (k4 b o (aN _ _ (k2 b o e n)) n)
  ·rintro acc H2 aR hlen ⟨rfl,hd2,k2⟩;rw [aO,List.take_of_length_le (Nat.le_refl _)] at aR hd2;exact q H2 D hD aR (hd2.mono aN) fun b o e n=>aN _ _ (k2 b o e n)
end
def Ul:HO->Bool
 | .tup _=>true
 | .GK _ (.tup _)=>true
 |_=>false
def FU (H:Hp) (a:Addr):Prop:=∀ o,H a=some o->Ul o=false
theorem FU.lst {H:Hp} {a:Addr} {xs:List V} (h:H a=some (.lst xs)):FU H a:=fun o e=>by rw [h] at e;cases e;rfl
theorem FU.ins {H:Hp} {a C dx:Addr} {fs:List (Str×V)} (h:H a=some (.ins C dx fs)):FU H a:=fun o e=>by rw [h] at e;cases e;rfl
theorem pO.kp {K:PySem.W.Frag} {H H':Hp} {M:List Addr} {a:Addr} {xs:List V} (h:pO K H a xs) (k:Kp M H H') (hM:∀ m∈M,FU H m):pO K H' a xs:=by
 rcases h with (h|⟨o,h⟩)|h
 ·exact .inl (.inl (k _ _ h fun z=>by have:=hM a z _ h;cases this))
 ·exact .inl (.inr ⟨o,k _ _ h fun z=>by have:=hM a z _ h;cases this⟩)
 ·exact .inr h
theorem i9.kp {K:PySem.W.Frag} {H H':Hp} {M:List Addr} {a:Addr} {t:FF} (h:i9 K H a t) (k:Kp M H H') (hM:∀ m∈M,FU H m):i9 K H' a t:=pO.kp h k hM
theorem gF.kp {K:PySem.W.Frag} {H H':Hp} {M:List Addr} {as:List Addr} {ts:List FF} (h:gF K H as ts) (k:Kp M H H') (hM:∀ m∈M,FU H m):gF K H' as ts:=Paired.dw h fun _ _ z=>i9.kp z k hM
theorem Kp.upd {H:Hp} {a:Addr} {o:HO}:Kp [a] H (upd H a o):=Kp.one fun b u e ne=>by rw [az ne];exact e
section
variable {P:Program} {w:World} {K:PySem.W.Frag} {mg:Str->Option Value} {base:Heap} {ad:Ad}
structure mh (K:PySem.W.Frag) (ad:Ad) (H:Hp) (a cs hs r0 r1:Addr) (m:Vbapah.Machine):Prop where
 ins:bu ad H a (.ref cs) (.ref hs) (.int (m.turn:Nat)) (.int (m.left:Nat)) (.int (m.cap:Nat))
 cel:bG K H cs m.cells
 Um:H hs=some (.lst [.ref r0,.ref r1])
 h0:H r0=some (.lst (vN (Vbapah.rowAt m 0)))
 h1:H r1=some (.lst (vN (Vbapah.rowAt m 1)))
 nd:[cs,hs,r0,r1].Nodup
 ok:VB m
 len:m.cells.length<=1000
 cap:m.cap<=1000
def IY (K:PySem.W.Frag) (ad:Ad):Sp:=fun vs H Q _=>∃ (a cs hs r0 r1:Addr) (m:Vbapah.Machine),vs=[.ref a]/\mh K ad H a cs hs r0 r1 m/\Q (.bl (Vbapah.ended m)) H
theorem len0 (l:List Nat):decide (V.int ((vN l).length:Nat)=V.int 0)=l.isEmpty:=by
 cases l with
 |nil=>rfl
 |cons x r=>
  rw [decide_eq_false]
  ·rfl
  ·intro e;have:=V.int.inj e;rw [aO,List.length_cons] at this
   lia
theorem IZ (T:Tx P w K mg base ad):Ok T 1 ad.Ho ad.iC ["ring"] IY:=by
 refine T.Bq.ok xX (fun vs H Q E h=>?_) (fun nd bB A outer s H vs Q E hr h=>?_)
 ·obtain ⟨a,cs,hs,r0,r1,m,rfl,_⟩:=h;rfl
 ·obtain ⟨a,cs,hs,r0,r1,m,rfl,R,q⟩:=h;refine ⟨_,(ae (aq (TR (fR du (aF K (pv 0)) ab) (TR (fR du (eL K T.aX (xL K (aF K (pv 0)) ab)) ab) (nL (fR du (eL K T.aX (xL K (aF K (pv 0)) ab)) ab)))))),?_⟩;have e:Vbapah.ended m=(decide (V.int (m.left:Nat)=V.int 0)||(decide (V.int ((vN (Vbapah.rowAt m 0)).length:Nat)=V.int 0)||decide (V.int ((vN (Vbapah.rowAt m 1)).length:Nat)=V.int 0))):=by
   rw [len0,len0];unfold Vbapah.ended Vbapah.lives;have e1:decide (V.int (m.left:Nat)=V.int 0)=(m.left==0):=by
    by_cases h:m.left=0
    ·rw [h];rfl
    ·rw [decide_eq_false (fun z=>h (by have:=V.int.inj z;lia)),beq_eq_false_iff_ne.mpr h]
   rw [e1];cases (Vbapah.rowAt m 0).isEmpty<;>cases (Vbapah.rowAt m 1).isEmpty<;>rfl
  rw [e] at q;refine ⟨_,rfl,qh T R.ins ⟨rfl,_,rfl,?_⟩⟩;refine KW (F:=fun b=>Q (.bl b) H) _ q fun q=>?_
  refine ⟨_,rfl,dm T R.ins ⟨hs,_,_,_,rfl,rfl,aH.of R.Um,rfl,r0,_,rfl,.inl (aH.of R.h0),rfl,_,rfl,?_⟩⟩;refine KW (F:=fun b=>Q (.bl b) H) _ q fun q=>?_
  exact ⟨_,rfl,dm T R.ins ⟨hs,_,_,_,rfl,rfl,aH.of R.Um,rfl,r1,_,rfl,.inl (aH.of R.h1),rfl,q⟩⟩
theorem uL {n i:Nat} {z:Int} (e:z=(i:Int)) (h:i<n):NB n z=some i:=by
 subst e;unfold NB;rw [if_pos (by lia),if_pos (by lia),Int.toNat_natCast]
def Ep (K:PySem.W.Frag) (ad:Ad):Sp:=fun vs H Q _=>∃ (cs c:Addr) (cells:List Vbapah.Cell) (cell:Vbapah.Cell) (i j:Nat),vs=[.ref cs,.ref c,.int (i:Nat),.int (j:Nat)]/\bG K H cs cells/\i9 K H c (hU cell)/\i<cells.length/\j<cells.length/\
 ∀ H',bG K H' cs (cw cells.length cells cell (cells.getD i Vbapah.blank) (cells.getD j Vbapah.blank) i j)->Kp [cs] H H'->Q .cx H'
theorem Er (T:Tx P w K mg base ad):Ok T 1 ad.Bh ad.fw ["cells","cell","at_a","at_b"] Ep:=by
 refine T.vT.ok sU (fun vs H Q E h=>?_) (fun nd bB A outer s H vs Q E hr h=>?_)
 ·obtain ⟨cs,c,cells,cell,i,j,rfl,_⟩:=h;rfl
 ·obtain ⟨cs,c,cells,cell,i,j,rfl,⟨as,ha,r⟩,hT,hi,hj,q⟩:=h;refine ⟨_,(aa (sS 4 nd (xT K (pv 1) ab))
   (aa (sS 5 nd (xL K (pv 0) (pv 2)))
   (aa (sS 6 nd (xL K (pv 0) (pv 3)))
   (ae (aZ (aS du (pv 4) (ay rfl T.Mz)) (ae (wC (pv 5) (wB (pv 0) (pv 3) set_list))) (ae (aZ (aS du (pv 4) (ay rfl T.QD)) (ae (wC (C3 (fY (xT K (pv 6) ab) (xT K (pv 6) ab) (aB dj (aB bh (xT K (pv 6) ab) (xT K (pv 5) ab)) (eL K T.aX (pv 0))))) (wB (pv 0) (pv 3) set_list))) (ae (aZ (aS du (pv 4) (ay rfl T.QE)) (ae (wC (C3 (fY (xT K (pv 5) ab) (xT K (pv 5) ab) (xT K (pv 1) ab))) (wB (pv 0) (pv 2) set_list))) (ae (aZ (aS du (pv 4) (ay rfl T.MC)) (aa (wC (pv 6) (wB (pv 0) (pv 2) set_list))
   (ae (wC (pv 5) (wB (pv 0) (pv 3) set_list)))) aJ))))))))))),?_⟩
  have hl:(as.map V.ref).length=cells.length:=by rw [List.length_map,r.length,List.length_map]
  obtain ⟨ai,hai,WO⟩:=Paired.at' r (Ek hi);obtain ⟨aj,haj,VN⟩:=Paired.at' r (Ek hj);have gi:(as.map V.ref)[i]? =some (V.ref ai):=by rw [List.getElem?_map,hai];rfl
  have gj:(as.map V.ref)[j]? =some (V.ref aj):=by rw [List.getElem?_map,haj];rfl
  generalize cells.getD i Vbapah.blank=x at WO q;generalize cells.getD j Vbapah.blank=y at VN q;refine ⟨_,rfl,c,_,_,_,rfl,rfl,hT,rfl,?_⟩;refine ⟨_,rfl,_,rfl,cs,_,_,_,rfl,rfl,aH.of ha,uF gi,?_⟩;refine ⟨_,rfl,_,rfl,cs,_,_,_,rfl,rfl,aH.of ha,uF gj,?_⟩;have Pu:∀ m∈[cs],FU H m:=fun m hm=>by rw [List.mem_singleton.mp hm];exact FU.lst ha
  refine ⟨_,rfl,rfl,_,rfl,aW (fun hc=>?_) fun hc=>?_⟩
  ·have e:cell.op=1:=by have:=(cE (i:=cell.op) hc).1 rfl;lia
   refine ⟨_,rfl,_,rfl,_,rfl,cs,_,_,j,rfl,rfl,ha,uL rfl (by lia),?_⟩;refine q _ ⟨as.set j ai,by rw [ah,List.map_set],?_⟩ Kp.upd;have ep:cw cells.length cells cell x y i j=cells.set j x:=by unfold cw;rw [if_pos e]
   rw [ep,List.map_set];exact gF.kp (Paired.st WO j r) Kp.upd Pu
  have n1:¬ cell.op=1:=fun z=>(cE (i:=cell.op) hc).2 rfl (by lia)
  refine ⟨_,rfl,rfl,_,rfl,aW (fun hc=>?_) fun hc=>?_⟩
  ·have e:cell.op=2:=by have:=(cE (i:=cell.op) hc).1 rfl;lia
   refine ⟨_,rfl,aj,_,_,_,rfl,rfl,VN,rfl,_,rfl,aj,_,_,_,rfl,rfl,VN,rfl,_,rfl,aj,_,_,_,rfl,rfl,VN,rfl,_,rfl,ai,_,_,_,rfl,rfl,WO,rfl,_,_,rfl,rfl,_,rfl,cs,_,rfl,.inl (aH.of ha),_,_,rfl,rfl,by lia,(by show 3<=sizeLine;decide),?_⟩;intro t VL;generalize VM:upd H t _=H2;obtain ⟨s2,h2⟩:=aI VL VM
   refine ⟨_,rfl,_,rfl,cs,_,_,j,rfl,rfl,s2 _ _ ha,uL rfl (by lia),?_⟩;have ep:cw cells.length cells cell x y i j=cells.set j {y with b:=(y.b+x.b)%cells.length}:=by unfold cw;rw [if_neg n1,if_pos e]
   have VO:∀ m∈[cs],FU H2 m:=fun m hm=>by rw [List.mem_singleton.mp hm];exact FU.lst (s2 _ _ ha)
   have ht:i9 K H2 t (hU {y with b:=(y.b+x.b)%cells.length}):=by
    refine pO.of (h2.trans (congrArg (fun z=>some (HO.tup z)) ?_));show [V.int (hU y).1,V.int (hU y).2.1,V.int (((hU y).2.2+(hU x).2.2)%((as.map V.ref).length:Nat))]=[V.int (hU y).1,V.int (hU y).2.1,V.int (((y.b+x.b)%cells.length:Nat):Int)];rw [hl,Int.natCast_emod];rfl
   refine q _ ⟨as.set j t,by rw [ah,List.map_set],?_⟩ ((Kp.of s2).trans Kp.upd);rw [ep,List.map_set];exact gF.kp (Paired.st ht j (gF.mono r s2)) Kp.upd VO
  have n2:¬ cell.op=2:=fun z=>(cE (i:=cell.op) hc).2 rfl (by lia)
  refine ⟨_,rfl,rfl,_,rfl,aW (fun hc=>?_) fun hc=>?_⟩
  ·have e:cell.op=6:=by have:=(cE (i:=cell.op) hc).1 rfl;lia
   refine ⟨_,rfl,ai,_,_,_,rfl,rfl,WO,rfl,_,rfl,ai,_,_,_,rfl,rfl,WO,rfl,_,rfl,c,_,_,_,rfl,rfl,hT,rfl,(by show 3<=sizeLine;decide),?_⟩;intro t VL;generalize VM:upd H t _=H2;obtain ⟨s2,h2⟩:=aI VL VM
   refine ⟨_,rfl,_,rfl,cs,_,_,i,rfl,rfl,s2 _ _ ha,uL rfl (by lia),?_⟩;have ep:cw cells.length cells cell x y i j=cells.set i {x with b:=cell.b}:=by unfold cw;rw [if_neg n1,if_neg n2,if_pos e]
   have VO:∀ m∈[cs],FU H2 m:=fun m hm=>by rw [List.mem_singleton.mp hm];exact FU.lst (s2 _ _ ha)
   have ht:i9 K H2 t (hU {x with b:=cell.b}):=pO.of h2;refine q _ ⟨as.set i t,by rw [ah,List.map_set],?_⟩ ((Kp.of s2).trans Kp.upd);rw [ep,List.map_set];exact gF.kp (Paired.st ht i (gF.mono r s2)) Kp.upd VO
  have n6:¬ cell.op=6:=fun z=>(cE (i:=cell.op) hc).2 rfl (by lia)
  refine ⟨_,rfl,rfl,_,rfl,aW (fun hc=>?_) fun hc=>?_⟩
  ·have e:cell.op=7:=by have:=(cE (i:=cell.op) hc).1 rfl;lia
   refine ⟨_,rfl,_,rfl,_,rfl,cs,_,_,i,rfl,rfl,ha,uL rfl (by lia),?_⟩;refine ⟨_,rfl,_,rfl,_,rfl,cs,_,_,j,rfl,rfl,ah,uL rfl (by rw [List.length_set];lia),?_⟩;have ep:cw cells.length cells cell x y i j=(cells.set i y).set j x:=by unfold cw;rw [if_neg n1,if_neg n2,if_neg n6,if_pos e]
   refine q _ ⟨(as.set i aj).set j ai,by rw [ah,List.map_set,List.map_set],?_⟩ (Kp.upd.trans Kp.upd);rw [ep,List.map_set,List.map_set];exact gF.kp (Paired.st WO j (Paired.st VN i r)) (Kp.upd.trans Kp.upd) Pu
  ·have n7:¬ cell.op=7:=fun z=>(cE (i:=cell.op) hc).2 rfl (by lia)
   have ep:cw cells.length cells cell x y i j=cells:=by unfold cw;rw [if_neg n1,if_neg n2,if_neg n6,if_neg n7]
   exact q H ⟨as,ha,by rw [ep];exact r⟩ (Kp.refl _ _)
def zZ (K:PySem.W.Frag) (ad:Ad):Sp:=fun vs H Q _=>∃ (op f i bn:Nat),vs=[.int (op:Nat),.int (f:Nat),.int (i:Nat),.int (bn:Nat)]/\∀ H' p,H p=none->au H H'->H' p=some (.lst (vN (lg op f i bn)))->Q (.ref p) H'
theorem z0 (T:Tx P w K mg base ad):Ok T 1 ad.vP ad.dE ["op","following","at_a","b_number"] zZ:=by
 refine T.rh.ok oQ (fun vs H Q E h=>?_) (fun nd bB A outer s H vs Q E hr h=>?_)
 ·obtain ⟨op,f,i,bn,rfl,_⟩:=h;rfl
 ·obtain ⟨op,f,i,bn,rfl,q⟩:=h;refine ⟨_,(aa (aZ (aS du (pv 0) (ay rfl T.QC)) (ae (aq (aE ft))) aJ)
   (aa (aZ (aS du (pv 0) (ay rfl T.VH)) (ae (aq (aE (bj (pv 2))))) aJ)
   (aa (aZ (PW.pt (kW (aS du (pv 0) (ay rfl T.MA)) (kC (aS Kd (pv 3) ab)))) (ae (aq (aE (bj (pv 2))))) aJ)
   (aa (aZ (aS du (pv 0) (ay rfl T.MB)) (ae (aq (aE (ie (pv 1) (pv 2))))) aJ)
   (ae (aq (aE (bj (pv 1))))))))),?_⟩
  unfold lg at q;refine ⟨_,rfl,rfl,_,rfl,aW (fun hc=>?_) fun hc=>?_⟩
  ·rw [if_pos (by have:=(cE hc).1 rfl;lia)] at q;refine ⟨Nat.zero_le _,?_⟩;intro p mN;generalize B2:upd H p _=H2;obtain ⟨s2,h2⟩:=aI mN B2
   exact q H2 p mN s2 h2
  rw [if_neg (fun z=>(cE hc).2 rfl (by lia))] at q;refine ⟨_,rfl,rfl,_,rfl,aW (fun hc=>?_) fun hc=>?_⟩
  ·rw [if_pos (by have:=(cE hc).1 rfl;lia)] at q;refine ⟨_,rfl,(by show 1<=sizeLine;decide),?_⟩;intro p mN;generalize B2:upd H p _=H2;obtain ⟨s2,h2⟩:=aI mN B2
   exact q H2 p mN s2 h2
  rw [if_neg (fun z=>(cE hc).2 rfl (by lia))] at q;refine ⟨_,rfl,rfl,_,rfl,?_⟩;refine eh (F:=fun z=>if z=true then _ else _) (!decide (V.int (bn:Nat)=V.int 0)) ?_ fun q=>⟨_,rfl,rfl,_,rfl,q⟩
  refine aW (fun hc=>?_) fun hc=>?_
  ·rw [Bool.and_eq_true,decide_eq_true_eq,Bool.not_eq_true',decide_eq_false_iff_not,V.int.injEq,V.int.injEq] at hc;rw [if_pos (by lia)] at q;refine ⟨_,rfl,(by show 1<=sizeLine;decide),?_⟩;intro p mN;generalize B2:upd H p _=H2;obtain ⟨s2,h2⟩:=aI mN B2
   exact q H2 p mN s2 h2
  rw [Bool.and_eq_false_iff,decide_eq_false_iff_not,Bool.not_eq_false',decide_eq_true_eq,V.int.injEq,V.int.injEq] at hc;rw [if_neg (by lia)] at q;refine ⟨_,rfl,rfl,_,rfl,aW (fun hc=>?_) fun hc=>?_⟩
  ·rw [if_pos (by have:=(cE hc).1 rfl;lia)] at q;refine ⟨_,rfl,_,rfl,(by show 2<=sizeLine;decide),?_⟩;intro p mN;generalize B2:upd H p _=H2;obtain ⟨s2,h2⟩:=aI mN B2
   exact q H2 p mN s2 h2
  ·rw [if_neg (fun z=>(cE hc).2 rfl (by lia))] at q;refine ⟨_,rfl,(by show 1<=sizeLine;decide),?_⟩;intro p mN;generalize B2:upd H p _=H2;obtain ⟨s2,h2⟩:=aI mN B2
   exact q H2 p mN s2 h2
end
theorem aV.kp {K:PySem.W.Frag} {H H':Hp} {M:List Addr} {p:Addr} {ts:List FF} (h:aV K H p ts) (k:Kp M H H') (hp:p∉M) (hM:∀ m∈M,FU H m):aV K H' p ts:=let ⟨as,e,r⟩:=h;⟨as,k _ _ e hp,gF.kp r k hM⟩
theorem bu.kp {ad:Ad} {H H':Hp} {M:List Addr} {a:Addr} {x0 x1 x2 x3 x4:V} (h:bu ad H a x0 x1 x2 x3 x4) (k:Kp M H H') (ha:a∉M):bu ad H' a x0 x1 x2 x3 x4:=let ⟨dx,e⟩:=h;⟨dx,k _ _ e ha⟩
theorem bu.ne {ad:Ad} {H:Hp} {a b:Addr} {x0 x1 x2 x3 x4:V} {xs:List V} (h:bu ad H a x0 x1 x2 x3 x4) (hb:H b=some (.lst xs)):a≠b:=let ⟨dx,e⟩:=h;TN e hb (by intro z;cases z)
theorem l4 {a b c d a' b' c' d':Int} (e1:a=a') (e2:b=b') (e3:c=c') (e4:d=d'):[V.int a,V.int b,V.int c,V.int d]=[V.int a',V.int b',V.int c',V.int d']:=by rw [e1,e2,e3,e4]
theorem l22 {x y:Addr} {c d c' d':Int} (e3:c=c') (e4:d=d'):[V.ref x,V.ref y,V.int c,V.int d]=[V.ref x,V.ref y,V.int c',V.int d']:=by rw [e3,e4]
theorem OP {r ps:List Nat} {i cap g:Nat} (hg:ps[i]? =some g) (h:(r++(ps.take i).take (cap-r.length)).length<cap):r++(ps.take (i+1)).take (cap-r.length)=r++(ps.take i).take (cap-r.length)++[g]:=by
 rw [List.length_append,List.length_take,List.length_take] at h;have hi:=(List.getElem?_eq_some_iff.mp hg).1;rw [List.append_assoc,aG hg,List.take_of_length_le (l:=ps.take i++[g]) (by rw [List.length_append,List.length_take];show _+1<=_;lia),List.take_of_length_le (l:=ps.take i) (by rw [List.length_take];lia)]
theorem OQ {r ps:List Nat} {i cap g:Nat} (hg:ps[i]? =some g) (h:¬ (r++(ps.take i).take (cap-r.length)).length<cap):r++(ps.take (i+1)).take (cap-r.length)=r++(ps.take i).take (cap-r.length):=by
 rw [List.length_append,List.length_take,List.length_take] at h;have hi:=(List.getElem?_eq_some_iff.mp hg).1;rw [List.take_take,List.take_take,Nat.min_eq_left (by lia),Nat.min_eq_left (by lia)]
section
variable {P:Program} {w:World} {K:PySem.W.Frag} {mg:Str->Option Value} {base:Heap} {ad:Ad}
def I0 (K:PySem.W.Frag) (ad:Ad):Sp:=fun vs H Q _=>∃ (a cs hs r0 r1:Addr) (m:Vbapah.Machine),vs=[.ref a]/\mh K ad H a cs hs r0 r1 m/\Vbapah.ended m=false/\
 ∀ H',mh K ad H' a cs hs r0 r1 (Vbapah.turnOf m)->Kp [a,cs,r0,r1] H H'->Q .cx H'
theorem Ja (T:Tx P w K mg base ad):Ok T 2 ad.Hq ad.iD ["ring"] I0:=by
 refine T.Br.ok xY (fun vs H Q E h=>?_) (fun nd bB A outer s H vs Q E hr h=>?_)
 ·obtain ⟨a,cs,hs,r0,r1,m,rfl,_⟩:=h;rfl
 ·obtain ⟨a,cs,hs,r0,r1,m,rfl,R,he,q⟩:=h;refine ⟨_,(aa (sS 1 nd (aF K (pv 0)))
   (aa (sS 2 nd (xL K (aF K (pv 0)) (aF K (pv 0))))
   (aa (sS 3 nd (hZ PySem.F.plainAttrs_list PySem.F.slot_list_pop PySem.F.type_list_pop P8 (pv 2) (bj ab)))
   (aa (sS 4 nd (xL K (pv 1) (pv 3)))
   (aa (sS 5 nd (aB dj (aB bh (pv 3) (xT K (pv 4) ab)) (eL K T.aX (pv 1))))
   (aa (sS 6 nd (aB dj (aB bh (pv 3) (xT K (pv 4) ab)) (eL K T.aX (pv 1))))
   (aa (sS 7 nd (aB dj (aB bh (pv 3) ab) (eL K T.aX (pv 1))))
   (aa (sS 8 nd (eC (z0 T) hr T.rh (aQ (xT K (pv 4) ab) (fY (pv 7) (pv 5) (xT K (xL K (pv 1) (pv 6)) ab)))))
   (aa (bH (eC (Er T) hr T.vT (aQ (pv 1) (fY (pv 4) (pv 5) (pv 6)))))
   (aa (jc PassesOwn.never rfl (DA K (pv 8)) (gN 9 nd) (ae (aZ (aS GO (eL K T.aX (pv 2)) (aF K (pv 0))) (ae (bH (hZ PySem.F.plainAttrs_list PySem.F.slot_list_append PySem.F.type_list_append cq (pv 2) (bj (pv 9))))) aJ)))
   (aa (aY (pv 0) (aB cV ab (aF K (pv 0))) rfl)
   (ae (aY (pv 0) (aB cV (aF K (pv 0)) ab) rfl))))))))))))),?_⟩
  have Zy:=R.nd;simp only [List.nodup_cons,List.mem_cons,List.not_mem_nil,or_false,not_or,List.nodup_nil,not_false_eq_true,and_true] at Zy;obtain ⟨⟨n1,n2,n3⟩,⟨n4,n5⟩,n6⟩:=Zy;obtain ⟨rt,VE,mi,hm,ncs,nhs⟩:∃ rt,J2 [V.ref r0,V.ref r1] (m.turn:Nat)=some (.ref rt)/\H rt=some (.lst (vN (Vbapah.rowAt m m.turn)))/\rt∈[r0,r1]/\cs≠rt/\hs≠rt:=by
   rcases R.ok.turn with e|e
   ·exact ⟨r0,by rw [e];rfl,by rw [e];exact R.h0,by simp,n2,n4⟩
   ·exact ⟨r1,by rw [e];rfl,by rw [e];exact R.h1,by simp,n3,n5⟩
  obtain ⟨p,r,WQ⟩:∃ p r,Vbapah.rowAt m m.turn=p::r:=by
   cases e:Vbapah.rowAt m m.turn with
   |cons p r=>exact ⟨p,r,rfl⟩
   |nil=>
    exfalso;unfold Vbapah.ended Vbapah.lives at he;rcases R.ok.turn with z|z
    ·rw [z] at e;rw [e] at he;simp at he
    ·rw [z] at e;rw [e] at he;simp at he
  have aaN:p<m.cells.length:=by
   obtain ⟨l0,l1,hr⟩:=R.ok.two;refine R.ok.hands (Vbapah.rowAt m m.turn) ?_ p (by rw [WQ];exact List.mem_cons_self ..);unfold Vbapah.rowAt;rw [hr];rcases R.ok.turn with z|z
   ·rw [z];exact List.mem_cons_self ..
   ·rw [z];exact List.mem_cons_of_mem _ (List.mem_cons_self ..)
  rw [WQ] at mi;have Zz:a≠rt:=bu.ne R.ins mi;refine ⟨_,rfl,FJ T R.ins ?_⟩;refine ⟨_,rfl,dm T R.ins ⟨_,rfl,yI T R.ins ⟨hs,_,_,_,rfl,rfl,aH.of R.Um,VE,?_⟩⟩⟩;refine ⟨_,rfl,.inl ⟨rfl,_,aH.of mi⟩,rt,_,0,0,_,rfl,rfl,mi,by decide,by decide,(Ij (uL (n:=(vN (p::r)).length) rfl (by rw [aO];exact Nat.succ_pos _))).1,rfl,?_⟩;have k1:Kp [rt] H (upd H rt (.lst ((vN (p::r)).eraseIdx 0))):=Kp.upd;have e1:upd H rt (.lst ((vN (p::r)).eraseIdx 0)) rt=some (.lst (vN r)):=by rw [ah];rfl
  revert k1 e1
  generalize upd H rt (.lst ((vN (p::r)).eraseIdx 0))=H1;intro k1 e1;have aaO:∀ z∈[rt],FU H z:=fun z hz=>by rw [List.mem_singleton.mp hz];exact FU.lst mi
  have aaP:bG K H1 cs m.cells:=aV.kp R.cel k1 (by simpa using ncs) aaO;obtain ⟨as,ha,rr⟩:=aaP;have hl:(as.map V.ref).length=m.cells.length:=by rw [List.length_map,rr.length,List.length_map]
  have hn:0<m.cells.length:=R.ok.pos;obtain ⟨c,hc,hT⟩:=Paired.at' rr (Ek aaN);have SQ:=zB R.ok he WQ;generalize qz:m.cells.getD p Vbapah.blank=cell at hT SQ;generalize hi:(p+cell.a)%m.cells.length=i at SQ;generalize hj:(p+cell.b)%m.cells.length=j at SQ;have li:i<m.cells.length:=by rw [<-hi];exact Nat.mod_lt _ hn
  have lj:j<m.cells.length:=by rw [<-hj];exact Nat.mod_lt _ hn
  obtain ⟨aj,haj,VN⟩:=Paired.at' rr (Ek lj);have ei:((p:Nat):Int)+((cell.a:Nat):Int)=((p+cell.a:Nat):Int):=rfl;have ei':(((p:Nat):Int)+(hU cell).2.1)%((as.map V.ref).length:Nat)=(i:Nat):=by rw [hl, <-hi,Int.natCast_emod];rfl
  have ej':(((p:Nat):Int)+(hU cell).2.2)%((as.map V.ref).length:Nat)=(j:Nat):=by rw [hl, <-hj,Int.natCast_emod];rfl
  have ef':(((p:Nat):Int)+1)%((as.map V.ref).length:Nat)=((p+1)%m.cells.length:Nat):=by rw [hl,Int.natCast_emod];rfl
  refine ⟨_,rfl,_,rfl,cs,_,_,_,rfl,rfl,aH.of ha,uF (by rw [List.getElem?_map,hc];rfl),?_⟩;refine ⟨_,rfl,_,rfl,c,_,_,_,rfl,rfl,hT,rfl,_,_,rfl,rfl,_,rfl,cs,_,rfl,.inl (aH.of ha),_,_,rfl,rfl,by lia,?_⟩;refine ⟨_,rfl,_,rfl,c,_,_,_,rfl,rfl,hT,rfl,_,_,rfl,rfl,_,rfl,cs,_,rfl,.inl (aH.of ha),_,_,rfl,rfl,by lia,?_⟩;refine ⟨_,rfl,_,_,rfl,rfl,_,rfl,cs,_,rfl,.inl (aH.of ha),_,_,rfl,rfl,by lia,?_⟩;refine ⟨_,rfl,c,_,_,_,rfl,rfl,hT,rfl,_,rfl,_,rfl,_,rfl,_,rfl,cs,_,_,_,rfl,rfl,aH.of ha,at_of ej' (by rw [List.getElem?_map,haj];rfl),aj,_,_,_,rfl,rfl,VN,rfl,cell.op,(p+1)%m.cells.length,i,(m.cells.getD j Vbapah.blank).b,l4 rfl ef' ei' rfl,fun H2 pl jP s2 h2=>?_⟩;generalize XY:lg cell.op ((p+1)%m.cells.length) i (m.cells.getD j Vbapah.blank).b=ps at h2 SQ;refine ⟨_,rfl,_,rfl,_,rfl,_,rfl,cs,c,m.cells,cell,i,j,l22 ei' ej',⟨as,s2 _ _ ha,gF.mono rr s2⟩,hT.mono s2,li,lj,fun H3 h3 k3=>?_⟩;have XZ:pl≠cs:=fun z=>by rw [z,ha] at jP;cases jP
  have X0:pl≠rt:=fun z=>by rw [z,e1] at jP;cases jP
  have X3:H3 pl=some (.lst (vN ps)):=k3.hG h2 XZ;have e3:H3 rt=some (.lst (vN r)):=k3.hG (s2 _ _ e1) (fun z=>ncs z.symm);have acs:a≠cs:=by obtain ⟨_,z,_⟩:=R.cel;exact bu.ne R.ins z
  have Jb:=bu.kp (bu.kp (bu.kp R.ins k1 (by simpa using Zz)) (Kp.of (M:=[]) s2) (by simp)) k3 (by simpa using acs);refine ⟨_,rfl,pl,rfl,⟨_,aH.of X3⟩,jC (K:=K) (a:=pl) (xs:=vN ps) (fun k σ H4=>(∃ x3 x5 x6 x7 v,σ=[some (.ref a),some (.ref cs),some (.ref rt),some x3,some (.ref c),some x5,some x6,some x7,some (.ref pl),v])/\Kp [rt] H3 H4/\H4 rt=some (.lst (vN (r++(ps.take k).take (m.cap-r.length)))))
   ⟨⟨_,_,_,_,_,rfl⟩,Kp.refl _ _,by rw [List.take_zero,List.take_nil,List.append_nil];exact e3⟩ (fun k σ H4 _ ⟨_,k4,_⟩=>aH.of (k4.hG X3 X0)) ?_ ?_⟩
  ·rintro k y σ H4 hk ⟨⟨x3,x5,x6,x7,v,rfl⟩,k4,h4⟩;obtain ⟨g,hg,rfl⟩:=kP hk;have QM:=bu.kp Jb k4 (by simpa using Zz);refine ⟨_,rfl,rt,_,rfl,.inl (aH.of h4),_,rfl,IT T QM ⟨_,_,rfl,rfl,_,rfl,aW (fun hc=>?_) fun hc=>?_⟩⟩
   ·have eW:=of_decide_eq_true hc;rw [aO] at eW;refine ⟨_,rfl,.inl ⟨rfl,_,aH.of h4⟩,_,rfl,rt,_,_,rfl,rfl,h4,?_,?_⟩
    ·rw [aO];exact Nat.lt_of_lt_of_le (Int.ofNat_lt.mp eW) (Nat.le_trans R.cap (by decide))
    ·refine ⟨⟨_,_,_,_,_,rfl⟩,k4.trans Kp.upd,?_⟩;rw [ah,OP hg (Int.ofNat_lt.mp eW),cS _ [g]];rfl
   ·have eW:=of_decide_eq_false hc;rw [aO] at eW;refine ⟨⟨_,_,_,_,_,rfl⟩,k4,?_⟩;rw [OQ hg (fun z=>eW (Int.ofNat_lt.mpr z))];exact h4
  ·rintro σ H4 ⟨⟨x3,x5,x6,x7,v,rfl⟩,k4,h4⟩;rw [aO,List.take_of_length_le (l:=ps) (Nat.le_refl _)] at h4;have QM:=bu.kp Jb k4 (by simpa using Zz);refine ⟨_,rfl,yI T QM ⟨_,_,rfl,rfl,_,rfl,IQ T QM fun H5 i5 k5=>?_⟩⟩;refine ⟨_,rfl,qh T i5 ⟨_,_,rfl,rfl,_,rfl,IS T i5 fun H6 i6 k6=>?_⟩⟩;have X4:m.left≠0:=fun z=>by
    unfold Vbapah.ended at he;rw [z] at he;cases he
   have et:(1:Int)-(m.turn:Nat)=((1-m.turn:Nat):Int):=by rcases R.ok.turn with e|e<;>lia
   have el:((m.left:Nat):Int)-1=((m.left-1:Nat):Int):=by lia
   have k56:Kp [a] H4 H6:=(Kp.one k5).trans (Kp.one k6);have M:∀ z,z=a∨z=cs∨z=rt->z∈[a,cs,r0,r1]:=fun z hz=>by
    rcases hz with rfl|rfl|rfl
    ·exact List.mem_cons_self ..
    ·exact List.mem_cons_of_mem _ (List.mem_cons_self ..)
    ·exact List.mem_cons_of_mem _ (List.mem_cons_of_mem _ hm)
   have OR:Kp [a,cs,r0,r1] H H6:=
    (((k1.mono fun z hz=>M z (.inr (.inr (List.mem_singleton.mp hz)))).trans (Kp.of s2)).trans (k3.mono fun z hz=>M z (.inr (.inl (List.mem_singleton.mp hz))))).trans
     ((k4.mono fun z hz=>M z (.inr (.inr (List.mem_singleton.mp hz)))).trans (k56.mono fun z hz=>M z (.inl (List.mem_singleton.mp hz))))
   have k36:Kp [rt,a] H3 H6:=(k4.mono fun z hz=>by rw [List.mem_singleton.mp hz];simp).trans (k56.mono fun z hz=>by rw [List.mem_singleton.mp hz];simp);have MR:∀ z xs,H z=some (.lst xs)->z≠cs->z≠rt->H6 z=some (.lst xs):=fun z xs hz h1 h2=>
    k36 z _ (k3.hG (s2 _ _ (k1.hG hz h2)) h1) (by simp [h2,(bu.ne R.ins hz).symm])
   have X5:H6 rt=some (.lst (vN (r++ps.take (m.cap-r.length)))):=k56.hG h4 Zz.symm;refine q H6 ?_ OR;have aaQ:∀ z∈[rt,a],FU H3 z:=fun z hz=>by
    rcases List.mem_cons.mp hz with e|e
    ·rw [e];exact FU.lst e3
    ·rw [List.mem_singleton.mp e];obtain ⟨dx,z⟩:=Jb;exact FU.ins z
   have e6:∀ z,Vbapah.rowAt (Vbapah.turnOf m) z=((m.rows.set m.turn (r++ps.take (m.cap-r.length))).getD z []):=fun z=>by rw [SQ];rfl
   obtain ⟨l0,l1,pC⟩:=R.ok.two;have Uo:H6 r0=some (.lst (vN (Vbapah.rowAt (Vbapah.turnOf m) 0)))/\H6 r1=some (.lst (vN (Vbapah.rowAt (Vbapah.turnOf m) 1))):=by
    rw [e6,e6,pC];have h0:=R.h0;have h1:=R.h1;unfold Vbapah.rowAt at h0 h1;rw [pC] at h0 h1;rcases R.ok.turn with e|e
    ·rw [e] at VE ⊢;cases VE;exact ⟨X5,MR r1 _ h1 (fun z=>n3 z.symm) (fun z=>n6 z.symm)⟩
    ·rw [e] at VE ⊢;cases VE;exact ⟨MR r0 _ h0 (fun z=>n2 z.symm) n6,X5⟩
   refine ⟨?_,?_,MR hs _ R.Um (fun z=>n1 z.symm) nhs,Uo.1,Uo.2,R.nd,R.ok.next,?_,?_⟩
   ·rw [SQ];show bu ad H6 a (.ref cs) (.ref hs) (.int ((1-m.turn:Nat):Int)) (.int ((m.left-1:Nat):Int)) (.int (m.cap:Nat));rw [<-et, <-el];exact i6
   ·rw [SQ];exact aV.kp h3 k36 (by simp [ncs,acs.symm]) aaQ
   ·rw [SQ];show (cw _ _ _ _ _ _ _).length<=1000;rw [lh];exact R.len
   ·rw [SQ];exact R.cap
def FV (K:PySem.W.Frag) (ad:Ad):Sp:=fun vs H Q _=>∃ (a cs hs r0 r1:Addr) (m:Vbapah.Machine),vs=[.ref a]/\mh K ad H a cs hs r0 r1 m/\
 ∀ H',mh K ad H' a cs hs r0 r1 (Vbapah.turns m.left m)->Kp [a,cs,r0,r1] H H'->Q .cx H'
theorem FW (T:Tx P w K mg base ad):Ok T 3 ad.DO ad.gq ["ring"] FV:=by
 refine T.yq.ok vw (fun vs H Q E h=>?_) (fun nd bB A outer s H vs Q E hr h=>?_)
 ·obtain ⟨a,cs,hs,r0,r1,m,rfl,_⟩:=h;rfl
 ·obtain ⟨a,cs,hs,r0,r1,m,rfl,R,q⟩:=h;refine ⟨_,(ae (oA PassesOwn.never (cK (bx (eC (IZ T) hr T.Bq (bj (pv 0))))) (ae (bH (eC (Ja T) hr T.Br (bj (pv 0))))))),?_⟩;refine ⟨fun k σ H2=>σ=[some (.ref a)]/\∃ m2,mh K ad H2 a cs hs r0 r1 m2/\m2.left=k/\Vbapah.turns m2.left m2=Vbapah.turns m.left m/\Kp [a,cs,r0,r1] H H2,⟨m.left,rfl,m,R,rfl,rfl,Kp.refl _ _⟩,?_⟩;rintro k σ H2 ⟨rfl,m2,R2,rfl,e2,k2⟩;refine ⟨_,rfl,a,cs,hs,r0,r1,m2,rfl,R2,_,rfl,aW (fun hc=>?_) fun hc=>?_⟩
  ·rw [Bool.not_eq_true'] at hc;have X4:m2.left≠0:=fun z=>by
    unfold Vbapah.ended at hc;rw [z] at hc;cases hc
   refine ⟨fun σ' H'=>σ'=[some (.ref a)]/\∃ m3,mh K ad H' a cs hs r0 r1 m3/\m3.left=m2.left-1/\Vbapah.turns m3.left m3=Vbapah.turns m.left m/\Kp [a,cs,r0,r1] H H',fun σ' H' z=>⟨m2.left-1,by lia,z⟩,?_⟩;refine ⟨_,rfl,a,cs,hs,r0,r1,m2,rfl,R2,hc,fun H3 R3 k3=>⟨rfl,_,R3,AM R2.ok hc,?_,k2.trans k3⟩⟩;rw [AM R2.ok hc, <-Mp hc];exact e2
  ·rw [Bool.not_eq_false'] at hc;rw [OJ hc] at e2;rw [e2] at R2;exact q H2 R2 k2
end
theorem QN {v:Vbapah.World} {x y:Vbapah.Program} {s t:Nat} (W:sA v) (X:rT v x) (Y:rT v y) (s1:v.apart<=s) (s2:s<=v.n-v.apart) (ht:t=0∨t=1):VB (Vbapah.setUp v x y s t)/\(Vbapah.setUp v x y s t).cells.length=v.n:=by
 have hx:x.length<=s:=Nat.le_trans X.len (Nat.le_trans W.l.2.2 s1);have hy:s+y.length<=v.n:=by have:=Y.len;have:=W.l.2.2;have:=W.d;lia
 rw [jE hx hy];have hlen:(x++List.replicate (s-x.length) Vbapah.blank++y++List.replicate (v.n-s-y.length) Vbapah.blank).length=v.n:=by
  simp only [List.length_append,List.length_replicate]
  lia
 refine ⟨⟨⟨[0],[s],rfl⟩,ht,?_,fun r hr p hp=>?_,fun c hc=>?_⟩,hlen⟩
 ·show 0<(x++List.replicate (s-x.length) Vbapah.blank++y++List.replicate (v.n-s-y.length) Vbapah.blank).length;rw [hlen];exact W.pos
 ·show p<(x++List.replicate (s-x.length) Vbapah.blank++y++List.replicate (v.n-s-y.length) Vbapah.blank).length;rw [hlen];have hr':r=[0]∨r=[s]:=by simpa using hr
  rcases hr' with rfl|rfl
  ·have:p=0:=by simpa using hp
   have:=W.pos
   lia
  ·have:p=s:=by simpa using hp
   have:=W.d;have:=W.pos
   lia
 ·have Zm:((c∈x∨c∈List.replicate (s-x.length) Vbapah.blank)∨c∈y)∨c∈List.replicate (v.n-s-y.length) Vbapah.blank:=by
   simpa only [List.mem_append] using hc
  rcases Zm with ((h|h)|h)|h
  ·exact (X.cell c h).1
  ·rw [(List.mem_replicate.mp h).2];decide
  ·exact (Y.cell c h).1
  ·rw [(List.mem_replicate.mp h).2];decide
section
variable {P:Program} {w:World} {K:PySem.W.Frag} {mg:Str->Option Value} {base:Heap} {ad:Ad}
def wY (K:PySem.W.Frag) (ad:Ad):Sp:=fun vs H Q _=>∃ (a:Addr) (v:Vbapah.World),vs=[.ref a]/\cD ad H a v/\sA v/\Q (.int (Vbapah.legal v:Nat)) H
theorem mj (T:Tx P w K mg base ad):Ok T 1 ad.qZ ad.cO ["world"] wY:=by
 refine T.iO.ok lA (fun vs H Q E h=>?_) (fun nd bB A outer s H vs Q E hr h=>?_)
 ·obtain ⟨a,v,rfl,_⟩:=h;rfl
 ·obtain ⟨a,v,rfl,hW,W,q⟩:=h;refine ⟨_,(ae (aq (aB bh (aB cV (aF K (pv 0)) (aB jd ab (aF K (pv 0)))) ab))),?_⟩;refine ⟨_,rfl,cn T hW ⟨_,rfl,iQ T hW ⟨_,_,rfl,rfl,.inl ⟨by decide,by decide⟩,_,_,rfl,rfl,_,_,rfl,rfl,?_⟩⟩⟩;have e:((v.n:Nat):Int)-2*(v.apart:Nat)+1=(Vbapah.legal v:Nat):=by
   unfold Vbapah.legal;have:=W.d
   lia
  show Q (.int (((v.n:Nat):Int)-2*(v.apart:Nat)+1)) H;rw [e];exact q
def z8 (K:PySem.W.Frag) (ad:Ad):Sp:=fun vs H Q _=>∃ (a:Addr) (v:Vbapah.World),vs=[.ref a]/\cD ad H a v/\sA v/\∀ H' p,H p=none->au H H'->H' p=some (.lst (vN (Vbapah.startsOf v)))->Q (.ref p) H'
theorem pD (T:Tx P w K mg base ad):Ok T 2 ad.vQ ad.dF ["world"] z8:=by
 refine T.jX.ok oR (fun vs H Q E h=>?_) (fun nd bB A outer s H vs Q E hr h=>?_)
 ·obtain ⟨a,v,rfl,_⟩:=h;rfl
 ·obtain ⟨a,v,rfl,hW,W,q⟩:=h;refine ⟨_,(aa (sS 1 nd (eC (mj T) hr T.iO (bj (pv 0))))
   (aa (sS 2 nd (cj (Oq rfl) (by rfl) T.KP Mv (ie (aF K (pv 0)) (pv 1))))
   (ae (aq (iZ rfl nd (fO rfl T.d9 (bj (pv 2))) (own:=[("i",3)]) (bC (show kE ["world","total","played","i"] (af jV) _ [("i",3)]=true by decide+kernel)) (fun _ _ _ _ _=>gN 3 nd) (fun _ _ _ _ _=>cu) (fun _ _ _ _ _=>(aB bh (aF K (pv 0)) (aB Nr (aB jd (pv 3) (pv 1)) (pv 2))))))))),?_⟩
  have aci:1<=Vbapah.legal v:=by unfold Vbapah.legal;lia
  have ace:Vbapah.legal v<=33:=by unfold Vbapah.legal;have:=W.n;lia
  have hq:=W.q;refine ⟨_,rfl,a,v,rfl,hW,W,?_⟩;refine ⟨_,rfl,BZ T hW ⟨_,rfl,_,_,rfl,?_⟩⟩;have em:(if ((Vbapah.legal v:Nat):Int)<(v.starts:Nat) then ((Vbapah.legal v:Nat):Int) else ((v.starts:Nat):Int))=(min v.starts (Vbapah.legal v):Nat):=by
   by_cases h:Vbapah.legal v<v.starts
   ·rw [if_pos (by lia),Nat.min_eq_right (by lia)]
   ·rw [if_neg (by lia),Nat.min_eq_left (by lia)]
  rw [em];generalize hk:min v.starts (Vbapah.legal v)=k;have k1:1<=k:=by lia
  have k4:k<=4:=by lia
  refine ⟨_,rfl,_,rfl,by lia,by lia,fun D hD=>?_⟩;rw [Int.toNat_natCast];refine lcR hD (Nat.le_trans k4 (by decide)) (fun i acc H2=>acc=vN ((Vbapah.startsOf v).take i)/\au H H2) ⟨rfl,au.refl H⟩ ?_ ?_
  ·rintro i acc H2 hi aR hlen hsz ⟨rfl,s2⟩;have s3:=s2.trans aN;have e1:(0:Int)+(i:Nat)=(i:Nat):=Int.zero_add _;refine ⟨_,rfl,iQ T (hW.mono s3) ⟨_,rfl,_,rfl,_,_,rfl,rfl,.inl (by rw [e1];lia),_,rfl,_,_,rfl,rfl,⟨by lia,by lia⟩,_,_,rfl,rfl,Eh.mk aR hlen hsz ⟨?_,s2⟩⟩⟩;have hg:(Vbapah.startsOf v)[i]? =some (v.apart+i*Vbapah.legal v/k):=by
    unfold Vbapah.startsOf;rw [List.getElem?_map,List.getElem?_range (by lia),hk];rfl
   rw [aG hg,cS];show _++[V.int (((v.apart:Nat):Int)+(0+(i:Nat))*(Vbapah.legal v:Nat)/(k:Nat))]=_++[V.int ((v.apart+i*Vbapah.legal v/k:Nat):Int)];rw [e1];rfl
  ·rintro acc H2 aR hlen ⟨rfl,s2⟩;have hl:(Vbapah.startsOf v).length=k:=by unfold Vbapah.startsOf;rw [List.length_map,List.length_range,hk]
   rw [List.take_of_length_le (Nat.le_of_eq hl)] at aR;exact q H2 D hD (s2.trans aN) aR
def yO (K:PySem.W.Frag) (ad:Ad) (H:Hp) (a px py:Addr) (v:Vbapah.World) (x y:Vbapah.Program) (s t:Nat):Prop:=
 cD ad H a v/\sA v/\bG K H px x/\rT v x/\bG K H py y/\rT v y/\v.apart<=s/\s<=v.n-v.apart/\(t=0∨t=1)
def Es (K:PySem.W.Frag) (ad:Ad):Sp:=fun vs H Q _=>∃ (a px py:Addr) (v:Vbapah.World) (x y:Vbapah.Program) (s t:Nat),vs=[.ref a,.ref px,.ref py,.int (s:Nat),.int (t:Nat)]/\yO K ad H a px py v x y s t/\
 ∀ H' ring cs hs r0 r1,au H H'->(∀ z∈[ring,cs,r0,r1],H z=none)->mh K ad H' ring cs hs r0 r1 (Vbapah.setUp v x y s t)->Q (.ref ring) H'
theorem QO (e:Addr) (k:Nat):(List.replicate k [V.ref e]).flatten=(List.replicate k e).map V.ref:=by
 induction k with
 |zero=>rfl
 |succ k ih=>rw [List.replicate_succ,List.flatten_cons,ih,List.replicate_succ];rfl
theorem Et (T:Tx P w K mg base ad):Ok T 3 ad.Bi ad.fz ["world","program","other","start","turn"] Es:=by
 refine T.vU.ok sV (fun vs H Q E h=>?_) (fun nd bB A outer s H vs Q E hr h=>?_)
 ·obtain ⟨a,px,py,v,x,y,s,t,rfl,_⟩:=h;rfl
 ·obtain ⟨a,px,py,v,x,y,s,t,rfl,⟨hW,W,⟨as,ha,ra⟩,X,⟨bs,hb,rb⟩,Y,s1,s2,ht⟩,q⟩:=h;refine ⟨_,(aa (sS 5 nd (aB Me (aE (bj (ay rfl T.kL))) (aB cV (pv 3) (eL K T.aX (pv 1)))))
   (aa (sS 6 nd (aB Me (aE (bj (ay rfl T.kL))) (aB cV (aB cV (aF K (pv 0)) (pv 3)) (eL K T.aX (pv 2)))))
   (aa (sS 7 nd (aB fW (aB fW (aB fW (pv 1) (pv 5)) (pv 2)) (pv 6)))
   (ae (aq (pP T.VF (IU (K:=K) T) hr rfl T.Mw T.tM .nil i0 (aQ (pv 7) (aQ (aE (ie (aE (bj ab)) (aE (bj (pv 3))))) (fY (pv 4) (aB jd ab (aF K (pv 0))) (aF K (pv 0))))))))))),?_⟩
  have hx:x.length<=s:=Nat.le_trans X.len (Nat.le_trans W.l.2.2 s1);have hy:s+y.length<=v.n:=by have:=Y.len;have:=W.l.2.2;have:=W.d;lia
  have hn:=W.n;have la:(as.map V.ref).length=x.length:=by rw [List.length_map,ra.length,List.length_map]
  have lb:(bs.map V.ref).length=y.length:=by rw [List.length_map,rb.length,List.length_map]
  refine ⟨(by show 1<=sizeLine;decide),?_⟩;intro p1 wX;generalize Em:upd H p1 _=H1;obtain ⟨f1,h1⟩:=aI wX Em
  refine ⟨_,rfl,_,rfl,px,_,rfl,.inl (aH.of (f1 _ _ ha)),_,_,rfl,rfl,p1,_,_,rfl,rfl,h1,by lia,by lia,aT (by show 1*_<=_;lia),?_⟩;intro p2 ke;generalize kf:upd H1 p2 _=H2;obtain ⟨f2,h2⟩:=aI ke kf
  have f02:=f1.trans f2;refine ⟨(by show 1<=sizeLine;decide),?_⟩;intro p3 QP;generalize QQ:upd H2 p3 _=H3;obtain ⟨f3,h3⟩:=aI QP QQ
  have f03:=f02.trans f3;refine ⟨_,rfl,cn T (hW.mono f03) ⟨_,rfl,_,_,rfl,rfl,_,rfl,py,_,rfl,.inl (aH.of (f03 _ _ hb)),_,_,rfl,rfl,p3,_,_,rfl,rfl,h3,by lia,by lia,aT (by show 1*_<=_;lia),?_⟩⟩;intro p4 VP;generalize VQ:upd H3 p4 _=H4;obtain ⟨f4,h4⟩:=aI VP VQ
  have f04:=f03.trans f4;rw [QO] at h2 h4;have n2:((s:Nat):Int)-((as.map V.ref).length:Nat)=((s-x.length:Nat):Int):=by lia
  have n4:((v.n:Nat):Int)-(s:Nat)-((bs.map V.ref).length:Nat)=((v.n-s-y.length:Nat):Int):=by lia
  rw [n2,Int.toNat_natCast] at h2;rw [n4,Int.toNat_natCast] at h4;have h24:=f4 _ _ (f3 _ _ h2);refine ⟨_,rfl,_,rfl,fZ (f04 _ _ ha) h24 (aT (by simp only [List.length_map,List.length_replicate] at la ⊢;lia)) fun p5 H5 hp5 f5 h5=>?_⟩;refine ⟨_,rfl,fZ h5 (f5 _ _ (f04 _ _ hb)) (aT (by simp only [List.length_append,List.length_map,List.length_replicate] at la lb ⊢;lia)) fun p6 H6 hp6 f6 h6=>?_⟩;refine ⟨_,rfl,fZ h6 (f6 _ _ (f5 _ _ h4)) (aT (by simp only [List.length_append,List.length_map,List.length_replicate] at la lb ⊢;lia)) fun cs H7 QR f7 h7=>?_⟩;have f06:=(f04.trans f5).trans f6;have f07:=f06.trans f7;refine ⟨_,rfl,(by show 1<=sizeLine;decide),?_⟩;intro r0 VR;generalize aaR:upd H7 r0 _=H8;obtain ⟨f8,h8⟩:=aI VR aaR
  refine ⟨_,rfl,(by show 1<=sizeLine;decide),?_⟩;intro r1 SR;generalize aaS:upd H8 r1 _=H9;obtain ⟨f9,h9⟩:=aI SR aaS
  refine ⟨(by show 2<=sizeLine;decide),?_⟩;intro hs SS;generalize aaT:upd H9 hs _=H10;obtain ⟨ZA,ZC⟩:=aI SS aaT
  have f08:=f07.trans f8;have f09:=f08.trans f9;have SU:=f09.trans ZA;refine ⟨_,rfl,_,rfl,rC T (hW.mono SU) ⟨_,_,rfl,rfl,.inl ⟨by decide,by decide⟩,_,rfl,Ed T (hW.mono SU) ?_⟩⟩;refine IV fun ring H11 X6 i11 X7=>?_
  obtain ⟨mok,aaU⟩:=QN W X Y s1 s2 ht;have VS:=SU.trans X7;have d1:=X7 _ _ (ZA _ _ (f9 _ _ (f8 _ _ h7)));have d2:=X7 _ _ (ZA _ _ (f9 _ _ h8));have d3:=X7 _ _ (ZA _ _ h9);have d4:=X7 _ _ ZC;have aaV:cs≠r0:=aw h7 VR;have aaW:cs≠r1:=aw (f8 _ _ h7) SR;have UZ:cs≠hs:=aw (f9 _ _ (f8 _ _ h7)) SS;have aaX:r0≠r1:=aw h8 SR;have aaY:r0≠hs:=aw (f9 _ _ h8) SS;have aaZ:r1≠hs:=aw h9 SS;refine q H11 ring cs hs r0 r1 VS (fun z hz=>?_) ⟨?_,?_,d4,?_,?_,?_,mok,by rw [aaU];lia,?_⟩
  ·simp only [List.mem_cons,List.not_mem_nil,or_false] at hz;rcases hz with rfl|rfl|rfl|rfl
   ·exact SU.free X6
   ·exact f06.free QR
   ·exact f07.free VR
   ·exact f08.free SR
  ·rw [jE hx hy];exact i11
  ·rw [jE hx hy];refine ⟨as++List.replicate (s-x.length) ad.c6++bs++List.replicate (v.n-s-y.length) ad.c6,?_,?_⟩
   ·rw [d1];simp only [List.map_append]
   ·simp only [List.map_append,List.map_replicate];have em:i9 K H11 ad.c6 (hU Vbapah.blank):=T.qe.sq;exact Paired.app (Paired.app (Paired.app (gF.mono ra VS) (Paired.rep em _)) (gF.mono rb VS)) (Paired.rep em _)
  ·rw [jE hx hy];exact d2
  ·rw [jE hx hy];exact d3
  ·simp only [List.nodup_cons,List.mem_cons,List.not_mem_nil,or_false,not_or,List.nodup_nil,not_false_eq_true,and_true];exact ⟨⟨UZ,aaV,aaW⟩,⟨aaY.symm,aaZ.symm⟩,aaX⟩
  ·rw [jE hx hy];have:=W.h;show v.hands<=1000
   lia
def yP (K:PySem.W.Frag) (ad:Ad):Sp:=fun vs H Q _=>∃ (a cs hs r0 r1:Addr) (m:Vbapah.Machine),vs=[.ref a]/\mh K ad H a cs hs r0 r1 m/\Q (.int (Vbapah.outcome m:Nat)) H
theorem nB (T:Tx P w K mg base ad):Ok T 1 ad.tE ad.c8 ["ring"] yP:=by
 refine T.js.ok mY (fun vs H Q E h=>?_) (fun nd bB A outer s H vs Q E hr h=>?_)
 ·obtain ⟨a,cs,hs,r0,r1,m,rfl,_⟩:=h;rfl
 ·obtain ⟨a,cs,hs,r0,r1,m,rfl,R,q⟩:=h;refine ⟨_,(aa (aZ (aS du (eL K T.aX (xL K (aF K (pv 0)) ab)) ab) (ae (aq (ay rfl T.tX))) aJ)
   (aa (aZ (aS du (eL K T.aX (xL K (aF K (pv 0)) ab)) ab) (ae (aq (ay rfl T.oj))) aJ)
   (ae (aq (ay rfl T.tW))))),?_⟩
  unfold Vbapah.outcome Vbapah.lives at q;refine ⟨_,rfl,dm T R.ins ⟨hs,_,_,_,rfl,rfl,aH.of R.Um,rfl,r0,_,rfl,.inl (aH.of R.h0),rfl,_,rfl,aW (fun hc=>?_) fun hc=>?_⟩⟩
  ·rw [len0] at hc;rw [hc] at q;exact q
  rw [len0] at hc;refine ⟨_,rfl,dm T R.ins ⟨hs,_,_,_,rfl,rfl,aH.of R.Um,rfl,r1,_,rfl,.inl (aH.of R.h1),rfl,_,rfl,aW (fun Up=>?_) fun Up=>?_⟩⟩
  ·rw [len0] at Up;rw [hc,Up] at q;exact q
  ·rw [len0] at Up;rw [hc,Up] at q;exact q
def Eu (K:PySem.W.Frag) (ad:Ad):Sp:=fun vs H Q _=>∃ (a px py:Addr) (v:Vbapah.World) (x y:Vbapah.Program) (s t:Nat),vs=[.ref a,.ref px,.ref py,.int (s:Nat),.int (t:Nat)]/\yO K ad H a px py v x y s t/\
 ∀ H' ring cs hs r0 r1,au H H'->mh K ad H' ring cs hs r0 r1 (Vbapah.turns (2*v.rounds) (Vbapah.setUp v x y s t))->Q (.ref ring) H'
theorem ud (T:Tx P w K mg base ad):Ok T 4 ad.Bj ad.fA ["world","program","other","start","turn"] Eu:=by
 refine T.nX.ok sW (fun vs H Q E h=>?_) (fun nd bB A outer s H vs Q E hr h=>?_)
 ·obtain ⟨a,px,py,v,x,y,s,t,rfl,_⟩:=h;rfl
 ·obtain ⟨a,px,py,v,x,y,s,t,rfl,g,q⟩:=h;refine ⟨_,(aa (sS 5 nd (eC (Et T) hr T.vU (aQ (pv 0) (aQ (pv 1) (fY (pv 2) (pv 3) (pv 4))))))
   (aa (bH (eC (FW T) hr T.yq (bj (pv 5))))
   (ae (aq (pv 5))))),?_⟩
  refine ⟨_,rfl,_,rfl,_,rfl,_,rfl,_,rfl,a,px,py,v,x,y,s,t,rfl,g,fun H1 ring cs hs r0 r1 s1 f1 R1=>?_⟩;refine ⟨_,rfl,ring,cs,hs,r0,r1,_,rfl,R1,fun H2 R2 k2=>?_⟩;have hl:(Vbapah.setUp v x y s t).left=2*v.rounds:=by
   obtain ⟨_,W,_,X,_,Y,g7,g8,_⟩:=g;rw [jE (Nat.le_trans X.len (Nat.le_trans W.l.2.2 g7)) (by have:=Y.len;have:=W.l.2.2;have:=W.d;lia)]
  rw [hl] at R2;exact ⟨_,rfl,q H2 ring cs hs r0 r1 (fun b o e=>k2 b o (s1 b o e) fun z=>by rw [f1 b z] at e;cases e) R2⟩
def FX (K:PySem.W.Frag) (ad:Ad):Sp:=fun vs H Q _=>∃ (a r cs hs r0 r1:Addr) (v:Vbapah.World) (m:Vbapah.Machine),vs=[.ref a,.ref r]/\cD ad H a v/\mh K ad H r cs hs r0 r1 m/\Q (.int (2*(v.rounds:Nat)-(m.left:Nat))) H
theorem FY (T:Tx P w K mg base ad):Ok T 1 ad.DP ad.gr ["world","ring"] FX:=by
 refine T.yr.ok vx (fun vs H Q E h=>?_) (fun nd bB A outer s H vs Q E hr h=>?_)
 ·obtain ⟨a,r,cs,hs,r0,r1,v,m,rfl,_⟩:=h;rfl
 ·obtain ⟨a,r,cs,hs,r0,r1,v,m,rfl,hW,R,q⟩:=h;refine ⟨_,(ae (aq (aB cV (aB jd ab (aF K (pv 0))) (aF K (pv 1))))),?_⟩;exact ⟨_,rfl,rC T hW ⟨_,_,rfl,rfl,.inl ⟨by decide,by decide⟩,_,rfl,qh T R.ins ⟨_,_,rfl,rfl,q⟩⟩⟩
def Ew (K:PySem.W.Frag) (ad:Ad):Sp:=fun vs H Q _=>∃ (a px py:Addr) (v:Vbapah.World) (x y:Vbapah.Program) (s t:Nat),vs=[.ref a,.ref px,.ref py,.int (s:Nat),.int (t:Nat)]/\yO K ad H a px py v x y s t/\∀ H',au H H'->Q (.int (gp v x y s t:Nat)) H'
theorem VT (m:Vbapah.Machine):J2 [V.int 1,V.int 2,V.int 0] (Vbapah.outcome m:Nat)=some (.int (pts (Vbapah.outcome m):Nat)):=by
 unfold Vbapah.outcome;split
 ·rfl
 split<;>rfl
theorem uf (T:Tx P w K mg base ad):Ok T 5 ad.Bk ad.fB ["world","program","other","start","turn"] Ew:=by
 refine T.nY.ok sX (fun vs H Q E h=>?_) (fun nd bB A outer s H vs Q E hr h=>?_)
 ·obtain ⟨a,px,py,v,x,y,s,t,rfl,_⟩:=h;rfl
 ·obtain ⟨a,px,py,v,x,y,s,t,rfl,g,q⟩:=h;refine ⟨_,(ae (aq (xT K (ay rfl T.gS) (eC (nB T) hr T.js (bj (eC (ud T) hr T.nX (aQ (pv 0) (aQ (pv 1) (fY (pv 2) (pv 3) (pv 4)))))))))),?_⟩;refine ⟨_,rfl,_,rfl,_,rfl,_,rfl,_,rfl,a,px,py,v,x,y,s,t,rfl,g,fun H1 ring cs hs r0 r1 s1 R1=>?_⟩;exact ⟨ring,cs,hs,r0,r1,_,rfl,R1,_,_,_,_,rfl,rfl,T.gT.sq,VT _,q H1 s1⟩
def yQ (K:PySem.W.Frag) (ad:Ad):Sp:=fun vs H Q _=>∃ (a px py:Addr) (v:Vbapah.World) (x y:Vbapah.Program),vs=[.ref a,.ref px,.ref py]/\cD ad H a v/\sA v/\bG K H px x/\rT v x/\bG K H py y/\rT v y/\∀ H',au H H'->Q (.int (Vbapah.pointsAgainst v x y:Nat)) H'
theorem yR (T:Tx P w K mg base ad):Ok T 6 ad.tF ad.c9 ["world","program","other"] yQ:=by
 refine T.o9.ok mZ (fun vs H Q E h=>?_) (fun nd bB A outer s H vs Q E hr h=>?_)
 ·obtain ⟨a,px,py,v,x,y,rfl,_⟩:=h;rfl
 ·obtain ⟨a,px,py,v,x,y,rfl,hW,W,hx,X,hy,Y,q⟩:=h;refine ⟨_,(aa (sS 3 nd ab)
   (aa (jc PassesOwn.never rfl (DA K (eC (pD T) hr T.jX (bj (pv 0)))) (gN 4 nd) (aa (sS 3 nd (aB bh (pv 3) (eC (uf T) hr T.nY (aQ (pv 0) (aQ (pv 1) (fY (pv 2) (pv 4) ab))))))
   (ae (sS 3 nd (aB bh (pv 3) (eC (uf T) hr T.nY (aQ (pv 0) (aQ (pv 1) (fY (pv 2) (pv 4) ab)))))))))
   (ae (aq (pv 3))))),?_⟩
  refine ⟨_,rfl,a,v,rfl,hW,W,fun H1 l hl s1 h1=>?_⟩;refine ⟨l,rfl,⟨_,aH.of h1⟩,jC (K:=K) (a:=l) (xs:=vN (Vbapah.startsOf v)) (fun i σ H2=>(∃ u,σ=[some (.ref a),some (.ref px),some (.ref py),some (.int ((((Vbapah.startsOf v).take i).map fun s=>gp v x y s 0+gp v x y s 1).sum:Nat)),u])/\au H1 H2)
   ⟨⟨_,rfl⟩,au.refl _⟩ (fun i σ H2 _ ⟨_,s2⟩=>aH.of (s2 _ _ h1)) ?_ ?_⟩
  ·rintro i z σ H2 hi ⟨⟨u,rfl⟩,s2⟩;obtain ⟨s,hs,rfl⟩:=kP hi;obtain ⟨b1,b2⟩:=Du W s (List.mem_of_getElem? hs);have oy:=s1.trans s2;have g:yO K ad H2 a px py v x y s 0:=⟨hW.mono oy,W,hx.mono oy,X,hy.mono oy,Y,b1,b2,.inl rfl⟩;refine ⟨_,rfl,_,rfl,_,rfl,_,rfl,_,rfl,a,px,py,v,x,y,s,0,rfl,g,fun H3 s3=>⟨_,_,rfl,rfl,?_⟩⟩;have g':yO K ad H3 a px py v x y s 1:=⟨hW.mono (oy.trans s3),W,hx.mono (oy.trans s3),X,hy.mono (oy.trans s3),Y,b1,b2,.inr rfl⟩;refine ⟨_,rfl,_,rfl,_,rfl,_,rfl,_,rfl,a,px,py,v,x,y,s,1,rfl,g',fun H4 s4=>⟨_,_,rfl,rfl,⟨some (.int (s:Nat)),?_⟩,(s2.trans s3).trans s4⟩⟩;rw [aG hs,List.map_append,List.sum_append,List.map_singleton,List.sum_singleton, <-Nat.add_assoc];rfl
  ·rintro σ H2 ⟨⟨u,rfl⟩,s2⟩;rw [aO,List.take_of_length_le (Nat.le_refl _), <-zD];exact ⟨_,rfl,q H2 (s1.trans s2)⟩
def N3 (K:PySem.W.Frag) (H:Hp) (p:Addr) (panel:List Vbapah.Program):Prop:=∃ as:List Addr,H p=some (.lst (as.map V.ref))/\Paired (bG K H) as panel
def K0 (K:PySem.W.Frag) (ad:Ad) (H:Hp) (a pl px:Addr) (v:Vbapah.World) (panel:List Vbapah.Program) (x:Vbapah.Program):Prop:=cD ad H a v/\sA v/\N3 K H pl panel/\panel.length<=4/\(∀ y∈panel,rT v y)/\bG K H px x/\rT v x
def qk (K:PySem.W.Frag) (ad:Ad):Sp:=fun vs H Q _=>∃ (a pl px:Addr) (v:Vbapah.World) (panel:List Vbapah.Program) (x:Vbapah.Program),vs=[.ref a,.ref pl,.ref px]/\K0 K ad H a pl px v panel x/\
 ∀ H' p,H p=none->au H H'->H' p=some (.lst (vN (panel.map (Vbapah.pointsAgainst v x))))->Q (.ref p) H'
theorem iS (T:Tx P w K mg base ad):Ok T 7 ad.ku ad.bT ["world","panel","program"] qk:=by
 refine T.fh.ok ij (fun vs H Q E h=>?_) (fun nd bB A outer s H vs Q E hr h=>?_)
 ·obtain ⟨a,pl,px,v,panel,x,rfl,_⟩:=h;rfl
 ·obtain ⟨a,pl,px,v,panel,x,rfl,⟨hW,W,⟨as,ha,r⟩,l4,Y,hx,X⟩,q⟩:=h;refine ⟨_,(ae (aq (iZ rfl nd (DA K (pv 1)) (own:=[("other",3)]) (bC (show kE ["world","panel","program","other"] (af fg) _ [("other",3)]=true by decide+kernel)) (fun _ _ _ _ _=>gN 3 nd) (fun _ _ _ _ _=>cu) (fun _ _ _ _ _=>(eC (yR T) hr T.o9 (fY (pv 0) (pv 2) (pv 3))))))),?_⟩;have hl:as.length=panel.length:=r.length;refine ⟨_,rfl,pl,rfl,⟨_,aH.of ha⟩,fun D hD=>?_⟩;refine Pt (xs:=as.map V.ref) hD (aT (by rw [List.length_map];lia)) (fun i acc H2=>acc=vN ((panel.take i).map (Vbapah.pointsAgainst v x))/\au H H2) ⟨rfl,au.refl H⟩ (fun i acc H2 ⟨_,s2⟩=>aH.of (s2 _ _ ha)) ?_ ?_
  ·rintro i z acc H2 hi aR hlen hsz ⟨rfl,s2⟩;obtain ⟨py,WJ,rfl⟩:=fU hi;obtain ⟨y,hy,hY⟩:=Paired.at r WJ;have s3:=s2.trans aN;refine ⟨_,rfl,_,rfl,_,rfl,a,px,py,v,x,y,rfl,hW.mono s3,W,hx.mono s3,X,hY.mono s3,Y y (List.mem_of_getElem? hy),fun H4 s4=>Eh.mk (s4 _ _ aR) hlen hsz ⟨?_,s2.trans (gE s4)⟩⟩;rw [aG hy,List.map_append,cS];rfl
  ·rintro acc H2 aR hlen ⟨rfl,s2⟩;rw [List.length_map,hl,List.take_of_length_le (Nat.le_refl _)] at aR;exact q H2 D hD (s2.trans aN) aR
def K1 (K:PySem.W.Frag) (ad:Ad):Sp:=fun vs H Q _=>∃ (a pl px:Addr) (v:Vbapah.World) (panel:List Vbapah.Program) (x:Vbapah.Program),vs=[.ref a,.ref pl,.ref px]/\K0 K ad H a pl px v panel x/\∀ H',au H H'->Q (.int (Vbapah.scoreOf v panel x:Nat)) H'
theorem mn (l:List Nat):vN l=(l.map fun (n:Nat)=>(n:Int)).map V.int:=by unfold vN;rw [List.map_map];rfl
theorem K2 (T:Tx P w K mg base ad):Ok T 8 ad.KL ad.jI ["world","panel","program"] K1:=by
 refine T.DY.ok Bf (fun vs H Q E h=>?_) (fun nd bB A outer s H vs Q E hr h=>?_)
 ·obtain ⟨a,pl,px,v,panel,x,rfl,_⟩:=h;rfl
 ·obtain ⟨a,pl,px,v,panel,x,rfl,g,q⟩:=h;refine ⟨_,(ae (aq (cj (Qz K) (by rfl) T.D9 Dy (bj (eC (iS T) hr T.fh (fY (pv 0) (pv 1) (pv 2))))))),?_⟩;refine ⟨_,rfl,_,rfl,_,rfl,a,pl,px,v,panel,x,rfl,g,fun H1 p hp s1 h1=>?_⟩;refine ⟨p,(panel.map (Vbapah.pointsAgainst v x)).map fun (n:Nat)=>(n:Int),rfl,aH.of (by rw [h1,mn]),?_⟩;rw [ic, <-Dt];exact q H1 s1
end
def Out (M:List Addr) (H:Hp):Hp:=fun b=>if b∈M then none else H b
theorem aA {M:List Addr} {H:Hp}:au (Out M H) H:=fun b o e=>by
 unfold Out at e;by_cases h:b∈M
 ·rw [if_pos h] at e;cases e
 ·rw [if_neg h] at e;exact e
theorem dn {M:List Addr} {H:Hp} {b:Addr} {o:HO} (h:Out M H b=some o):b∉M:=fun e=>by
 unfold Out at h;rw [if_pos e] at h;cases h
theorem bL {M:List Addr} {H:Hp} {b:Addr} {o:HO} (ne:b∉M) (h:H b=some o):Out M H b=some o:=by unfold Out;rw [if_neg ne];exact h
theorem bM {M:List Addr} {H H':Hp} (k:Kp M H H'):au (Out M H) (Out M H'):=fun b o e=>bL (dn e) (k b o (aA _ _ e) (dn e))
theorem Jc {M M':List Addr} {H:Hp} (h:∀ m∈M,m∈M'):au (Out M' H) (Out M H):=fun b o e=>bL (fun z=>dn e (h b z)) (aA _ _ e)
theorem aV.out {K:PySem.W.Frag} {H:Hp} {M:List Addr} {p:Addr} {ts:List FF} (h:aV K H p ts) (hp:p∉M) (hM:∀ m∈M,FU H m):aV K (Out M H) p ts:=by
 obtain ⟨as,e,r⟩:=h;refine ⟨as,bL hp e,Paired.dw r fun a t z=>?_⟩;rcases z with (z|⟨o,z⟩)|z
 ·exact .inl (.inl (bL (fun y=>by have:=hM a y _ z;cases this) z))
 ·exact .inl (.inr ⟨o,bL (fun y=>by have:=hM a y _ z;cases this) z⟩)
 ·exact .inr z
def uS (o:Vbapah.One):List Nat:=match o.parents with
 |none=>[]
 |some (p,q)=>[p,q]
def dq (K:PySem.W.Frag) (ad:Ad) (H:Hp) (p:Addr) (o:Vbapah.One) (d:Nat):Prop:=∃ px ps rc,cH ad H p (.ref px) (.int (o.score:Nat)) (.int (o.born:Nat)) (.ref ps) (.ref rc) (.int (d:Nat))/\bG K H px o.program/\
 H ps=some (.lst (vN (uS o)))/\H rc=some (.lst (vN (o.recipe.kind::o.recipe.nums)))
theorem dq.mono {K:PySem.W.Frag} {ad:Ad} {H H':Hp} {p:Addr} {o:Vbapah.One} {d:Nat} (h:dq K ad H p o d) (s:au H H'):dq K ad H' p o d:=let ⟨px,ps,rc,h1,h2,h3,h4⟩:=h;⟨px,ps,rc,h1.mono s,h2.mono s,s _ _ h3,s _ _ h4⟩
def jB (ad:Ad) (H:Hp) (q:Addr) (rt:Vbapah.Rates):Prop:=∃ wl,fM ad H q (.int (rt.islands:Nat)) (.int (rt.size:Nat)) (.int (rt.elite:Nat)) (.int (rt.pick:Nat)) (.int (rt.every:Nat)) (.ref wl)/\H wl=some (.lst (vN rt.weights))
theorem jB.mono {ad:Ad} {H H':Hp} {q:Addr} {rt:Vbapah.Rates} (h:jB ad H q rt) (s:au H H'):jB ad H' q rt:=let ⟨wl,h1,h2⟩:=h;⟨wl,h1.mono s,s _ _ h2⟩
def gX (H:Hp) (as:List Addr) (ls:List (List Nat)):Prop:=Paired (fun a l=>H a=some (.lst (vN l))) as ls
theorem gX.mono {H H':Hp} {as:List Addr} {ls:List (List Nat)} (h:gX H as ls) (s:au H H'):gX H' as ls:=Paired.dw h fun _ _ z=>s _ _ z
def ql:Expr:=match dY pV with
 |[.Return (some (.Call _ _ [⟨_,e,_⟩] _)) _]=>e
 |_=>.Constant .none 0 ⟨0,0,0,0⟩
def mq:Pos:=match ql with
 | .Lambda _ _ _ p=>p
 |_=>⟨0,0,0,0⟩
def gM:Str:="in_order.<locals>.<lambda>"
def qm (k:Addr):HO:= .ext fun h=>h.CodeRec (.ref k) gM
def Ex (H:Hp) (ps:Array Value):Prop:=TriplesOk ps.toList/\∀ cv,codeAmong mq ps.toList=some cv->∃ k,cv=.ref k/\H k=some (qm k)
theorem Ex.mono {H H':Hp} {ps:Array Value} (h:Ex H ps) (s:au H H'):Ex H' ps:=⟨h.1,fun cv e=>let ⟨k,e1,e2⟩:=h.2 cv e;⟨k,e1,s _ _ e2⟩⟩
structure Ar where
 a:Addr
 pl:Addr
 bl:Addr
 bs:Addr
 wa:Addr
 rw:Addr
 ra:V
 dr:Option Addr
 av:List Addr
def Ar.M (ad:Ad) (r:Ar):List Addr:=r.a::r.pl::r.bl::r.bs::ad.tb::r.dr.toList
def Ar.N (ad:Ad) (r:Ar):List Addr:=r.M ad++r.av
def Ar.dv (r:Ar):V:=match r.dr with
 |some d=>.ref d
 |none=>.cx
structure ag (K:PySem.W.Frag) (ad:Ad) (H:Hp) (r:Ar) (v:Vbapah.World) (s:Vbapah.State):Prop where
 nd:(r.N ad).Nodup
 K3:∀ m∈r.av,∃ o,H m=some o/\Ul o=false
 ins:bg ad H r.a (.ref r.wa) (.ref r.pl) (.ref r.bl) r.ra r.dv (.ref r.rw) (.int (s.gen:Nat)) (.ref r.bs)
 z9:cD ad (Out (r.N ad) H) r.wa v
 pL:∃ as,H r.pl=some (.lst (as.map V.ref))/\Paired (bG K (Out (r.N ad) H)) as s.panel
 bor:∃ as,H r.bl=some (.lst (as.map V.ref))/\Paired (fun a (od:Vbapah.One×Nat)=>dq K ad (Out (r.N ad) H) a od.1 od.2) as (s.ones.zip (Vbapah.depths s.ones))
 row:∃ as,Out (r.N ad) H r.rw=some (.lst (as.map V.ref))/\gX (Out (r.N ad) H) as s.living
 HK:∃ as,H r.bs=some (.lst (as.map V.ref))/\gX (Out (r.N ad) H) as s.bests
 tab:∃ ps,H ad.tb=some (.CC ps)/\Ex (Out (r.N ad) H) ps
 rat:match s.rates with
  |none=>r.ra=.cx/\r.dr=none
  |some rt=>∃ q d,r.ra=.ref q/\r.dr=some d/\jB ad (Out (r.N ad) H) q rt/\bw ad H d s.x
section
variable {P:Program} {w:World} {K:PySem.W.Frag} {mg:Str->Option Value} {base:Heap} {ad:Ad} {H H':Hp} {r:Ar} {v:Vbapah.World} {s:Vbapah.State}
theorem Ar.sub (k:Kp (r.M ad) H H'):Kp (r.N ad) H H':=k.mono fun z hz=>List.mem_append_left _ hz
theorem ag.Pp (A:ag K ad H r v s):∀ m∈r.N ad,∃ o,H m=some o/\Ul o=false:=fun m hm=>by
 rcases List.mem_append.mp hm with hm|hm
 rotate_left
 ·exact A.K3 m hm
 unfold Ar.M at hm;simp only [List.mem_cons] at hm;rcases hm with rfl|rfl|rfl|rfl|rfl|hm
 ·obtain ⟨dx,e⟩:=A.ins;exact ⟨_,e,rfl⟩
 ·obtain ⟨as,e,_⟩:=A.pL;exact ⟨_,e,rfl⟩
 ·obtain ⟨as,e,_⟩:=A.bor;exact ⟨_,e,rfl⟩
 ·obtain ⟨as,e,_⟩:=A.HK;exact ⟨_,e,rfl⟩
 ·obtain ⟨ps,e,_⟩:=A.tab;exact ⟨_,e,rfl⟩
 ·have z:=A.rat;cases e:s.rates with
  |none=>
   rw [e] at z;rw [z.2] at hm;cases hm
  |some rt=>
   rw [e] at z;obtain ⟨q,d,_,e2,_,dx,e3⟩:=z;rw [e2] at hm;have:m=d:=by simpa using hm
   rw [this];exact ⟨_,e3,rfl⟩
theorem ag.Pu (A:ag K ad H r v s):∀ m∈r.N ad,FU H m:=fun m hm o e=>by
 obtain ⟨o',e',h⟩:=A.Pp m hm;rw [e] at e';cases e';exact h
theorem ag.fresh (A:ag K ad H r v s) {p:Addr} (h:H p=none):p∉r.N ad:=fun z=>by
 obtain ⟨o,e,_⟩:=A.Pp p z;rw [h] at e;cases e
theorem ag.mono (A:ag K ad H r v s) (e:au H H'):ag K ad H' r v s:=by
 have o:au (Out (r.N ad) H) (Out (r.N ad) H'):=bM (Kp.of e);obtain ⟨CQ,p1,p2⟩:=A.pL;obtain ⟨wZ,b1,b2⟩:=A.bor;obtain ⟨FZ,r1,r2⟩:=A.row;obtain ⟨yS,t1,t2⟩:=A.HK;obtain ⟨ps,tb,tok⟩:=A.tab;refine ⟨A.nd,fun m hm=>let ⟨o',e',h'⟩:=A.K3 m hm;⟨o',e _ _ e',h'⟩,A.ins.mono e,A.z9.mono o,⟨CQ,e _ _ p1,Paired.dw p2 fun _ _ z=>aV.mono z o⟩,⟨wZ,e _ _ b1,Paired.dw b2 fun _ _ z=>dq.mono z o⟩,⟨FZ,o _ _ r1,r2.mono o⟩,⟨yS,e _ _ t1,t2.mono o⟩,⟨ps,e _ _ tb,tok.mono o⟩,?_⟩;have z:=A.rat;cases h:s.rates with
 |none=>rw [h] at z;exact z
 |some rt=>
  rw [h] at z;obtain ⟨q,d,e1,e2,e3,e4⟩:=z;exact ⟨q,d,e1,e2,e3.mono o,e4.mono e⟩
theorem cT {a b:Addr} {l:List Addr} (h:a∈l):a∈b::l:=List.mem_cons_of_mem _ h
theorem Ar.mA (r:Ar):r.a∈r.M ad:=List.mem_cons_self ..
theorem Ar.mP (r:Ar):r.pl∈r.M ad:=cT (List.mem_cons_self ..)
theorem Ar.mB (r:Ar):r.bl∈r.M ad:=cT (cT (List.mem_cons_self ..))
theorem Ar.mS (r:Ar):r.bs∈r.M ad:=cT (cT (cT (List.mem_cons_self ..)))
theorem Ar.mT (r:Ar):ad.tb∈r.M ad:=cT (cT (cT (cT (List.mem_cons_self ..))))
theorem Ar.mD {r:Ar} {d:Addr} (h:r.dr=some d):d∈r.M ad:=cT (cT (cT (cT (cT (by rw [h];exact List.mem_singleton.mpr rfl)))))
theorem ag.ap (A:ag K ad H r v s):r.a≠r.pl/\r.a≠r.bl/\r.a≠r.bs/\r.a≠ad.tb/\r.pl≠r.bl/\r.pl≠r.bs/\r.pl≠ad.tb/\r.bl≠r.bs/\r.bl≠ad.tb/\r.bs≠ad.tb/\∀ d,r.dr=some d->d≠r.a/\d≠r.pl/\d≠r.bl/\d≠r.bs/\d≠ad.tb:=by
 have h:=(List.nodup_append.mp (show (r.M ad++r.av).Nodup from A.nd)).1;unfold Ar.M at h;simp only [List.nodup_cons,List.mem_cons,not_or] at h;obtain ⟨⟨h1,h2,h3,h4,h5⟩,⟨h6,h7,h8,h9⟩,⟨ZC,h11,h12⟩,⟨mr,h14⟩,XD,_⟩:=h;refine ⟨h1,h2,h3,h4,h6,h7,h8,ZC,h11,mr,fun d hd=>?_⟩;rw [hd] at h5 h9 h12 h14 XD;simp only [Option.toList_some,List.mem_singleton] at h5 h9 h12 h14 XD;exact ⟨fun z=>h5 z.symm,fun z=>h9 z.symm,fun z=>h12 z.symm,fun z=>h14 z.symm,fun z=>XD z.symm⟩
theorem ag.VU (A:ag K ad H r v s) {m z:Addr} (hm:m∈r.av) (hz:z∈r.M ad):m≠z:=fun e=>(List.nodup_append.mp (show (r.M ad++r.av).Nodup from A.nd)).2.2 z hz m hm e.symm
theorem ag.WR (A:ag K ad H r v s) {M:List Addr} (k:Kp M H H') (hM:∀ m∈M,m∈r.M ad):∀ m∈r.av,∃ o,H' m=some o/\Ul o=false:=fun m hm=>let ⟨o,e,h⟩:=A.K3 m hm;⟨o,k _ _ e fun z=>A.VU hm (hM m z) rfl,h⟩
theorem ag.drawn (A:ag K ad H r v s) {rt:Vbapah.Rates} (hr:s.rates=some rt) {d:Addr} (hd:r.dr=some d) {x:Nat} (k:Kp [d] H H') (h:bw ad H' d x):ag K ad H' r v {s with x:=x}:=by
 have kM:Kp (r.M ad) H H':=k.mono fun z hz=>by rw [List.mem_singleton.mp hz];exact Ar.mD hd
 have o:=bM (Ar.sub kM);obtain ⟨_,_,_,_,_,_,_,_,_,_,QS⟩:=A.ap;obtain ⟨d1,d2,d3,d4,d5⟩:=QS d hd;obtain ⟨CQ,p1,p2⟩:=A.pL;obtain ⟨wZ,b1,b2⟩:=A.bor;obtain ⟨FZ,r1,r2⟩:=A.row;obtain ⟨yS,t1,t2⟩:=A.HK;obtain ⟨ps,tb,tok⟩:=A.tab;obtain ⟨dx,ei⟩:=A.ins;refine ⟨A.nd,A.WR kM (fun _ h=>h),⟨dx,k.hG ei (fun z=>d1 z.symm)⟩,A.z9.mono o,⟨CQ,k.hG p1 (fun z=>d2 z.symm),Paired.dw p2 fun _ _ z=>aV.mono z o⟩,⟨wZ,k.hG b1 (fun z=>d3 z.symm),Paired.dw b2 fun _ _ z=>dq.mono z o⟩,⟨FZ,o _ _ r1,r2.mono o⟩,⟨yS,k.hG t1 (fun z=>d4 z.symm),t2.mono o⟩,⟨ps,k.hG tb (fun z=>d5 z.symm),tok.mono o⟩,?_⟩;have z:=A.rat;show match s.rates with|none=>_|some rt=>_
 rw [hr] at z ⊢;obtain ⟨q,d',e1,e2,e3,_⟩:=z;rw [hd] at e2;cases e2;exact ⟨q,d,e1,hd,e3.mono o,h⟩
theorem QT {ones:List Vbapah.One} {o:Vbapah.One}:(ones++[o]).zip (Vbapah.depths (ones++[o]))=ones.zip (Vbapah.depths ones)++[(o,depthOf (Vbapah.depths ones) o)]:=by
 rw [KC,List.zip_append (jz ones).symm];rfl
theorem ag.SG (A:ag K ad H r v s) {as:List Addr} (hb:H r.bl=some (.lst (as.map V.ref))) {p:Addr} {o:Vbapah.One} (k:Kp [r.bl] H H') (h:H' r.bl=some (.lst (as.map V.ref++[.ref p]))) (hs:dq K ad (Out (r.N ad) H') p o (depthOf (Vbapah.depths s.ones) o)):
  ag K ad H' r v {s with ones:=s.ones++[o]}:=by
 have kM:Kp (r.M ad) H H':=k.mono fun z hz=>by rw [List.mem_singleton.mp hz];exact r.mB
 have ou:=bM (Ar.sub kM);obtain ⟨n1,n2,n3,n4,n5,n6,n7,n8,n9,QU,QS⟩:=A.ap;obtain ⟨CQ,p1,p2⟩:=A.pL;obtain ⟨wZ,b1,b2⟩:=A.bor;obtain ⟨FZ,r1,r2⟩:=A.row;obtain ⟨yS,t1,t2⟩:=A.HK;obtain ⟨ps,tb,tok⟩:=A.tab;obtain ⟨dx,ei⟩:=A.ins;rw [hb] at b1;have X8:as.map V.ref=wZ.map V.ref:=by
  have:=Option.some.inj b1;injection this
 refine ⟨A.nd,A.WR kM (fun _ h=>h),⟨dx,k.hG ei n2⟩,A.z9.mono ou,⟨CQ,k.hG p1 n5,Paired.dw p2 fun _ _ z=>aV.mono z ou⟩,⟨wZ++[p],by rw [h,X8,List.map_append];rfl,?_⟩,⟨FZ,ou _ _ r1,r2.mono ou⟩,⟨yS,k.hG t1 (fun z=>n8 z.symm),t2.mono ou⟩,⟨ps,k.hG tb (fun z=>n9 z.symm),tok.mono ou⟩,?_⟩
 ·show Paired _ _ ((s.ones++[o]).zip _);rw [QT];exact Paired.app (Paired.dw b2 fun _ _ z=>dq.mono z ou) (.cons hs .nil)
 ·have z:=A.rat;show match s.rates with|none=>_|some rt=>_
  cases e:s.rates with
  |none=>rw [e] at z;exact z
  |some rt=>
   rw [e] at z;obtain ⟨q,d,e1,e2,e3,dy,e4⟩:=z;exact ⟨q,d,e1,e2,e3.mono ou,dy,k.hG e4 (QS d e2).2.2.1⟩
theorem ag.one (A:ag K ad H r v s) {i:Nat} {o:Vbapah.One} (h:s.ones[i]? =some o):∃ (as:List Addr) (p:Addr),H r.bl=some (.lst (as.map V.ref))/\(as.map V.ref)[i]? =some (.ref p)/\dq K ad (Out (r.N ad) H) p o ((Vbapah.depths s.ones).getD i 0):=by
 obtain ⟨as,e,r2⟩:=A.bor;have hi:=(List.getElem?_eq_some_iff.mp h).1;have hz:(s.ones.zip (Vbapah.depths s.ones))[i]? =some (o,(Vbapah.depths s.ones).getD i 0):=by
  rw [List.getElem?_zip_eq_some];refine ⟨h,?_⟩;rw [List.getD_eq_getElem?_getD,List.getElem?_eq_getElem (by rw [jz];exact hi)];rfl
 obtain ⟨p,hp,hS⟩:=Paired.at' r2 hz;exact ⟨as,p,e,by rw [List.getElem?_map,hp];rfl,hS⟩
theorem ag.count (A:ag K ad H r v s):∃ as,H r.bl=some (.lst as)/\as.length=s.ones.length:=by
 obtain ⟨as,e,r2⟩:=A.bor;refine ⟨_,e,?_⟩;rw [List.length_map,r2.length,List.length_zip,jz,Nat.min_self]
theorem kQ (T:Tx P w K mg base ad) (A:ag K ad H r v s) {i:Nat} {o:Vbapah.One} (h:s.ones[i]? =some o) {z:Int} (ez:z=(i:Int)) {Q:V->Prop} (q:∀ p,dq K ad H p o ((Vbapah.depths s.ones).getD i 0)->Q (.ref p)):
  ∃ p xs k u,V.ref r.bl=.ref p/\V.int z=.int k/\aH K H p xs/\J2 xs k=some u/\Q u:=by
 obtain ⟨as,p,e1,e2,e3⟩:=A.one h;exact ⟨r.bl,_,z,_,rfl,rfl,aH.of e1,at_of ez e2,q p (e3.mono aA)⟩
theorem ag.avoid (A:ag K ad H r v s) {D:Addr} {ys:List V} (hD:H D=none) (e:au H H') (X9:H' D=some (.lst ys)):ag K ad H' {r with av:=D::r.av} v s:=by
 have o:au (Out (r.N ad) H) (Out (Ar.N ad {r with av:=D::r.av}) H'):=fun b u z=>by
  refine bL (fun y=>?_) (e _ _ (aA _ _ z));rcases List.mem_append.mp y with y|y
  ·exact dn z (List.mem_append_left _ y)
  ·rcases List.mem_cons.mp y with y|y
   ·rw [y] at z;rw [aA _ _ z] at hD;cases hD
   ·exact dn z (List.mem_append_right _ y)
 obtain ⟨CQ,p1,p2⟩:=A.pL;obtain ⟨wZ,b1,b2⟩:=A.bor;obtain ⟨FZ,r1,r2⟩:=A.row;obtain ⟨yS,t1,t2⟩:=A.HK;obtain ⟨ps,tb,tok⟩:=A.tab;have nD:D∉r.N ad:=A.fresh hD;refine ⟨?_,fun m hm=>?_,A.ins.mono e,A.z9.mono o,⟨CQ,e _ _ p1,Paired.dw p2 fun _ _ z=>aV.mono z o⟩,⟨wZ,e _ _ b1,Paired.dw b2 fun _ _ z=>dq.mono z o⟩,⟨FZ,o _ _ r1,r2.mono o⟩,⟨yS,e _ _ t1,t2.mono o⟩,⟨ps,e _ _ tb,tok.mono o⟩,?_⟩
 ·show (r.M ad++D::r.av).Nodup;have h:=A.nd;unfold Ar.N at h nD;rw [List.nodup_append] at h ⊢;rw [List.mem_append,not_or] at nD;refine ⟨h.1,List.nodup_cons.mpr ⟨nD.2,h.2.1⟩,fun a ha b hb=>?_⟩;rcases List.mem_cons.mp hb with rfl|hb
  ·exact fun z=>nD.1 (z▸ha)
  ·exact h.2.2 a ha b hb
 ·rcases List.mem_cons.mp hm with z|hm
  ·rw [z];exact ⟨_,X9,rfl⟩
  ·obtain ⟨o',e',h'⟩:=A.K3 m hm;exact ⟨o',e _ _ e',h'⟩
 ·have z:=A.rat;cases h:s.rates with
  |none=>rw [h] at z;exact z
  |some rt=>
   rw [h] at z;obtain ⟨q,d,e1,e2,e3,e4⟩:=z;exact ⟨q,d,e1,e2,e3.mono o,e4.mono e⟩
theorem ag.WS (A:ag K ad H r v s) {D:Addr} {ys:List V} (hD:D∈r.av) (k:Kp [D] H H') (X9:H' D=some (.lst ys)):ag K ad H' r v s:=by
 have o:au (Out (r.N ad) H) (Out (r.N ad) H'):=bM (k.mono fun z hz=>by rw [List.mem_singleton.mp hz];exact List.mem_append_right _ hD);have kM:∀ {z:Addr} {u:HO},z∈r.M ad->H z=some u->H' z=some u:=fun hz hu=>k.hG hu (fun y=>A.VU hD hz y.symm)
 obtain ⟨CQ,p1,p2⟩:=A.pL;obtain ⟨wZ,b1,b2⟩:=A.bor;obtain ⟨FZ,r1,r2⟩:=A.row;obtain ⟨yS,t1,t2⟩:=A.HK;obtain ⟨ps,tb,tok⟩:=A.tab;obtain ⟨dx,ei⟩:=A.ins;refine ⟨A.nd,fun m hm=>?_,⟨dx,kM r.mA ei⟩,A.z9.mono o,⟨CQ,kM r.mP p1,Paired.dw p2 fun _ _ z=>aV.mono z o⟩,⟨wZ,kM r.mB b1,Paired.dw b2 fun _ _ z=>dq.mono z o⟩,⟨FZ,o _ _ r1,r2.mono o⟩,⟨yS,kM r.mS t1,t2.mono o⟩,⟨ps,kM r.mT tb,tok.mono o⟩,?_⟩
 ·by_cases h:m=D
  ·rw [h];exact ⟨_,X9,rfl⟩
  ·obtain ⟨o',e',h'⟩:=A.K3 m hm;exact ⟨o',k.hG e' h,h'⟩
 ·have z:=A.rat;cases h:s.rates with
  |none=>rw [h] at z;exact z
  |some rt=>
   rw [h] at z;obtain ⟨q,d,e1,e2,e3,dy,e4⟩:=z;exact ⟨q,d,e1,e2,e3.mono o,dy,kM (Ar.mD e2) e4⟩
theorem ag.aa0 {D:Addr} (A:ag K ad H {r with av:=D::r.av} v s):ag K ad H r v s:=by
 have o:au (Out (Ar.N ad {r with av:=D::r.av}) H) (Out (r.N ad) H):=Jc fun m hm=>by
  rcases List.mem_append.mp hm with h|h
  ·exact List.mem_append_left _ h
  ·exact List.mem_append_right _ (List.mem_cons_of_mem _ h)
 obtain ⟨CQ,p1,p2⟩:=A.pL;obtain ⟨wZ,b1,b2⟩:=A.bor;obtain ⟨FZ,r1,r2⟩:=A.row;obtain ⟨yS,t1,t2⟩:=A.HK;obtain ⟨ps,tb,tok⟩:=A.tab;refine ⟨?_,fun m hm=>A.K3 m (List.mem_cons_of_mem _ hm),A.ins,A.z9.mono o,⟨CQ,p1,Paired.dw p2 fun _ _ z=>aV.mono z o⟩,⟨wZ,b1,Paired.dw b2 fun _ _ z=>dq.mono z o⟩,⟨FZ,o _ _ r1,r2.mono o⟩,⟨yS,t1,t2.mono o⟩,⟨ps,tb,tok.mono o⟩,?_⟩
 ·have h:(r.M ad++D::r.av).Nodup:=A.nd;show (r.M ad++r.av).Nodup;rw [List.nodup_append] at h ⊢;exact ⟨h.1,(List.nodup_cons.mp h.2.1).2,fun a ha b hb=>h.2.2 a ha b (List.mem_cons_of_mem _ hb)⟩
 ·have z:=A.rat;cases h:s.rates with
  |none=>rw [h] at z;exact z
  |some rt=>
   rw [h] at z;obtain ⟨q,d,e1,e2,e3,e4⟩:=z;exact ⟨q,d,e1,e2,e3.mono o,e4⟩
end
def VW (D:Addr) (R:Nat->List V->Hp->Prop) (i:Nat) (y:V) (H4:Hp):Prop:=
 ∃ acc,H4 D=some (.lst acc)/\acc.length<sizeLine/\∃ Ei,upd H4 D (.lst (acc++[y])) D=some (.lst Ei)/\Ei.length=i+1/\R (i+1) Ei (upd H4 D (.lst (acc++[y])))
theorem VW.mk {D:Addr} {R:Nat->List V->Hp->Prop} {i:Nat} {y:V} {H4:Hp} {acc:List V} (e:H4 D=some (.lst acc)) (l:acc.length=i) (hz:i<sizeLine) (r:R (i+1) (acc++[y]) (upd H4 D (.lst (acc++[y])))):VW D R i y H4:=
 ⟨acc,e,by rw [l];exact hz,acc++[y],ah,by rw [List.length_append,l];rfl,r⟩
section
variable {te:TE} {j:Nat} {σ:L2.St} {H1:Hp} {D:Addr} {Qd:Hp->Prop}
theorem aa1 {K:PySem.W.Frag} {a:Addr} {xs:List V} (hz:xs.length<=sizeLine) (R:Nat->List V->Hp->Prop) (h0:R 0 [] (upd H1 D (.lst []))) (hl:∀ i acc H,R i acc H->aH K H a xs)
  (hs:∀ i x acc H,xs[i]? =some x->H D=some (.lst acc)->acc.length=i->i<sizeLine->R i acc H->te (σ.set j (some x)) H fun y H4=>VW D R i y H4)
  (hd:∀ acc H,H D=some (.lst acc)->acc.length=xs.length->R xs.length acc H->Qd H):
  ∃ W:Nat->Nat->Hp->Prop,(∃ m,W 0 m (upd H1 D (.lst [])))/\∀ i m H,W i m H->
   ((Kb K a).stop i H/\Qd H)∨((Kb K a).go i H/\∃ Nx:Hp->Prop,(∀ H',Nx H'->∃ m',m'<m/\W (i+1) m' H')/\∀ x H',(Kb K a).LM i H x H'->oz j x (wipe σ [j]) H' fun σ2 H2=>wipe σ2 [j]=wipe σ [j]/\Mg σ2 H2 fun b H3=>
    if b=true then te σ2 H3 fun y H4=>∃ acc,H4 D=some (.lst acc)/\acc.length<sizeLine/\Nx (upd H4 D (.lst (acc++[y]))) else Nx H3):=by
 refine Iv (K:=K) (a:=a) (xs:=xs) (fun i H=>∃ acc,H D=some (.lst acc)/\acc.length=i/\R i acc H) ⟨[],ah,rfl,h0⟩ (fun i H _ ⟨acc,_,_,r⟩=>hl i acc _ r) ?_ (fun H ⟨acc,e1,e2,r⟩=>hd acc H e1 e2 r);rintro i x H hx ⟨acc,e1,e2,r⟩;have q:=hs i x acc H hx e1 e2 (Nat.lt_of_lt_of_le (List.getElem?_eq_some_iff.mp hx).1 hz) r;have e:(wipe σ [j]).set j (some x)=σ.set j (some x):=List.set_set ..;rw [<-e] at q;exact ⟨md x,q⟩
theorem Ya {lo:Int} {n:Nat} (hz:n<=sizeLine) (R:Nat->List V->Hp->Prop) (h0:R 0 [] (upd H1 D (.lst [])))
  (hs:∀ i acc H,i<n->H D=some (.lst acc)->acc.length=i->i<sizeLine->R i acc H->te (σ.set j (some (.int (lo+(i:Int))))) H fun y H4=>VW D R i y H4)
  (hd:∀ acc H,H D=some (.lst acc)->acc.length=n->R n acc H->Qd H):
  ∃ W:Nat->Nat->Hp->Prop,(∃ m,W 0 m (upd H1 D (.lst [])))/\∀ i m H,W i m H->
   ((LX lo n).stop i H/\Qd H)∨((LX lo n).go i H/\∃ Nx:Hp->Prop,(∀ H',Nx H'->∃ m',m'<m/\W (i+1) m' H')/\∀ x H',(LX lo n).LM i H x H'->oz j x (wipe σ [j]) H' fun σ2 H2=>wipe σ2 [j]=wipe σ [j]/\Mg σ2 H2 fun b H3=>
    if b=true then te σ2 H3 fun y H4=>∃ acc,H4 D=some (.lst acc)/\acc.length<sizeLine/\Nx (upd H4 D (.lst (acc++[y]))) else Nx H3):=by
 refine Ko (lo:=lo) (n:=n) (fun i H=>∃ acc,H D=some (.lst acc)/\acc.length=i/\R i acc H) ⟨[],ah,rfl,h0⟩ ?_ (fun H ⟨acc,e1,e2,r⟩=>hd acc H e1 e2 r);rintro i H hi ⟨acc,e1,e2,r⟩;have q:=hs i acc H hi e1 e2 (Nat.lt_of_lt_of_le hi hz) r;have e:(wipe σ [j]).set j (some (.int (lo+(i:Int))))=σ.set j (some (.int (lo+(i:Int)))):=List.set_set ..;rw [<-e] at q;exact ⟨md _,q⟩
end
section
variable {P:Program} {w:World} {K:PySem.W.Frag} {mg:Str->Option Value} {base:Heap} {ad:Ad}
def F0 (K:PySem.W.Frag) (ad:Ad):Sp:=fun vs H Q _=>∃ (r:Ar) (v:Vbapah.World) (s:Vbapah.State) (ps:Addr) (o:Vbapah.One),vs=[.ref r.a,.ref ps]/\ag K ad H r v s/\H ps=some (.lst (vN (uS o)))/\(∀ p∈uS o,p<s.ones.length)/\
 ∀ H',au H H'->Q (.int (depthOf (Vbapah.depths s.ones) o:Nat)) H'
theorem F1 (T:Tx P w K mg base ad):Ok T 1 ad.DQ ad.gs ["arena","parents"] F0:=by
 refine T.yt.ok vA (fun vs H Q E h=>?_) (fun nd bB A outer s H vs Q E hr h=>?_)
 ·obtain ⟨r,v,s,ps,o,rfl,_⟩:=h;rfl
 ·obtain ⟨r,v,s,ps,o,rfl,A,hp,eW,q⟩:=h;refine ⟨_,(aa (aZ (aS du (eL K T.aX (pv 1)) ab) (ae (aq ab)) aJ)
   (ae (aq (aB bh ab (cj (aaI K) (by rfl) T.QB VD (bj (iZ rfl nd (DA K (pv 1)) (own:=[("parent",2)]) (bC (show kE ["arena","parents","parent"] (af pU) _ [("parent",2)]=true by decide+kernel)) (fun _ _ _ _ _=>gN 2 nd) (fun _ _ _ _ _=>cu) (fun _ _ _ _ _=>(aF K (xL K (aF K (pv 0)) (pv 2))))))))))),?_⟩
  refine ⟨_,rfl,ps,_,rfl,.inl (aH.of hp),rfl,_,rfl,aW (fun hc=>?_) fun hc=>?_⟩
  ·rw [len0] at hc;have e:depthOf (Vbapah.depths s.ones) o=0:=by
    unfold uS at hc;unfold depthOf;cases h:o.parents with
    |none=>rfl
    |some pq=>rw [h] at hc;cases hc
   have q':=q H (au.refl H);rw [e] at q';exact q'
  ·rw [len0] at hc;obtain ⟨p1,p2,e⟩:∃ p1 p2,o.parents=some (p1,p2):=by
    unfold uS at hc;cases h:o.parents with
    |none=>rw [h] at hc;cases hc
    |some pq=>exact ⟨pq.1,pq.2,rfl⟩
   have el:uS o=[p1,p2]:=by unfold uS;rw [e]
   rw [el] at hp eW;refine ⟨_,rfl,ps,rfl,⟨_,aH.of hp⟩,fun D hD=>?_⟩;refine Pt (xs:=vN [p1,p2]) hD (by show 2<=sizeLine;decide) (fun i acc H2=>acc=vN (([p1,p2].take i).map fun p=>(Vbapah.depths s.ones).getD p 0)/\au H H2) ⟨rfl,au.refl H⟩ (fun i acc H2 ⟨_,s2⟩=>aH.of (s2 _ _ hp)) ?_ ?_
   ·rintro i z acc H2 hi aR hlen hsz ⟨rfl,s2⟩;obtain ⟨n,hn,rfl⟩:=kP hi;have A2:=A.mono (s2.trans aN);obtain ⟨o2,VX⟩:∃ o2,s.ones[n]? =some o2:=⟨_,List.getElem?_eq_getElem (eW n (List.mem_of_getElem? hn))⟩;refine ⟨_,rfl,aM T A2.ins ⟨_,rfl,kQ T A2 VX rfl fun p hS=>?_⟩⟩;obtain ⟨px,pp,rc,h1,_⟩:=hS;refine nz T h1 (Eh.mk aR hlen hsz ⟨?_,s2⟩);rw [aG hn,List.map_append,cS];rfl
   ·rintro acc H2 aR hlen ⟨rfl,s2⟩;refine ⟨D,([p1,p2].map fun p=>(Vbapah.depths s.ones).getD p 0).map fun (n:Nat)=>(n:Int),rfl,aH.of ?_,by show 0<2;decide,fun m hm hle=>⟨_,_,rfl,rfl,?_⟩⟩
    ·rw [aR, <-mn];rfl
    ·have q':=q H2 (s2.trans aN);have ed:depthOf (Vbapah.depths s.ones) o=1+max ((Vbapah.depths s.ones).getD p1 0) ((Vbapah.depths s.ones).getD p2 0):=by unfold depthOf;rw [e]
     rw [ed] at q';have em:(1:Int)+m=((1+max ((Vbapah.depths s.ones).getD p1 0) ((Vbapah.depths s.ones).getD p2 0):Nat):Int):=by
      have b1:=hle (((Vbapah.depths s.ones).getD p1 0:Nat):Int) (by simp);have b2:=hle (((Vbapah.depths s.ones).getD p2 0:Nat):Int) (by simp);have b3:m=(((Vbapah.depths s.ones).getD p1 0:Nat):Int)∨m=(((Vbapah.depths s.ones).getD p2 0:Nat):Int):=by simpa using hm
      lia
     show Q (.int (1+m)) H2;rw [em];exact q'
structure SV (K:PySem.W.Frag) (ad:Ad) (H:Hp) (r:Ar) (v:Vbapah.World) (s:Vbapah.State) (px ps rc:Addr) (o:Vbapah.One):Prop where
 A:ag K ad H r v s
 W:sA v
 pl:s.panel.length<=4
 pL:∀ y∈s.panel,rT v y
 ol:s.ones.length<=1000
 hx:bG K (Out (r.N ad) H) px o.program
 X:rT v o.program
 XY:Out (r.N ad) H ps=some (.lst (vN (uS o)))
 Uq:Out (r.N ad) H rc=some (.lst (vN (o.recipe.kind::o.recipe.nums)))
 par:∀ p∈uS o,p<s.ones.length
 sc:o.score=Vbapah.scoreOf v s.panel o.program
 gen:o.born=s.gen
def SW (K:PySem.W.Frag) (ad:Ad):Sp:=fun vs H Q _=>∃ (r:Ar) (v:Vbapah.World) (s:Vbapah.State) (px ps rc:Addr) (o:Vbapah.One),vs=[.ref r.a,.ref px,.ref ps,.ref rc]/\SV K ad H r v s px ps rc o/\
 ∀ H',Kp [r.bl] H H'->ag K ad H' r v {s with ones:=s.ones++[o]}->Q (.int (s.ones.length:Nat)) H'
theorem Jd (T:Tx P w K mg base ad):Ok T 9 ad.SG ad.yp ["arena","program","parents","recipe"] SW:=by
 refine T.IH.ok NS (fun vs H Q E h=>?_) (fun nd bB A outer s H vs Q E hr h=>?_)
 ·obtain ⟨r,v,s,px,ps,rc,o,rfl,_⟩:=h;rfl
 ·obtain ⟨r,v,s,px,ps,rc,o,rfl,B,q⟩:=h;refine ⟨_,(aa (sS 4 nd (eC (K2 T) hr T.DY (fY (aF K (pv 0)) (aF K (pv 0)) (pv 1))))
   (aa (sS 5 nd (eC (F1 T) hr T.yt (ie (pv 0) (pv 2))))
   (aa (bH (hZ PySem.F.plainAttrs_list PySem.F.slot_list_append PySem.F.type_list_append cq (aF K (pv 0)) (bj (pP T.Mx (zQ (K:=K) T) (hr.mono (by decide)) rfl T.wQ T.jY .nil i0 (aQ (pv 1) (aQ (pv 4) (aQ (aF K (pv 0)) (fY (pv 2) (pv 3) (pv 5)))))))))
   (ae (aq (aB cV (eL K T.aX (aF K (pv 0))) ab)))))),?_⟩
  have A:=B.A;refine ⟨_,rfl,ba T A.ins ⟨_,rfl,cR T A.ins ⟨_,rfl,r.wa,r.pl,px,v,s.panel,o.program,rfl,⟨A.z9.mono aA,B.W,?_,B.pl,B.pL,B.hx.mono aA,B.X⟩,fun H1 s1=>?_⟩⟩⟩
  ·obtain ⟨as,e,rr⟩:=A.pL;exact ⟨as,e,Paired.dw rr fun _ _ z=>aV.mono z aA⟩
  have A1:=A.mono s1;refine ⟨_,rfl,_,rfl,r,v,s,ps,o,rfl,A1,s1 _ _ (aA _ _ B.XY),B.par,fun H2 s2=>?_⟩;have oy:=s1.trans s2;have A2:=A.mono oy;obtain ⟨as,Ur,WQ⟩:=A2.bor;have hlen:(as.map V.ref).length=s.ones.length:=by rw [List.length_map,WQ.length,List.length_zip,jz,Nat.min_self]
  refine ⟨_,rfl,aM T A2.ins ⟨.inl ⟨rfl,_,aH.of Ur⟩,_,rfl,_,rfl,_,rfl,cA T A2.ins ⟨_,rfl,_,rfl,_,rfl,?_⟩⟩⟩;intro p Yb mN aa2 acj;refine ⟨p,Yb,_,_,_,_,_,_,rfl,ah,fun H3 h_p k_p=>⟨rfl,?_⟩⟩;have s3:au H2 H3:=au.made mN aa2 k_p
  have A3:=A2.mono s3;refine ⟨r.bl,_,_,rfl,rfl,s3 _ _ Ur,by rw [hlen];exact Nat.lt_of_le_of_lt B.ol (by decide),?_⟩;have k4:Kp [r.bl] H3 (upd H3 r.bl (.lst (as.map V.ref++[.ref p]))):=Kp.upd;have e4:upd H3 r.bl (.lst (as.map V.ref++[.ref p])) r.bl=some (.lst (as.map V.ref++[.ref p])):=ah
  revert k4 e4
  generalize upd H3 r.bl (.lst (as.map V.ref++[.ref p]))=H4;intro k4 e4;have kM:Kp (r.M ad) H3 H4:=k4.mono fun z hz=>by rw [List.mem_singleton.mp hz];exact r.mB
  have o14:au (Out (r.N ad) H) (Out (r.N ad) H4):=bM (Ar.sub ((Kp.of (oy.trans s3)).trans kM));have pM:p∉r.N ad:=A2.fresh mN;have hS:dq K ad (Out (r.N ad) H4) p o (depthOf (Vbapah.depths s.ones) o):=by
   refine ⟨px,ps,rc,⟨Yb,?_⟩,B.hx.mono o14,o14 _ _ B.XY,o14 _ _ B.Uq⟩;have z:=bM (Ar.sub kM) _ _ (bL pM h_p);rw [B.sc,B.gen];exact z
  have A4:=A3.SG (s3 _ _ Ur) k4 e4 hS;refine ⟨_,rfl,aM T A4.ins ⟨r.bl,_,rfl,.inl (aH.of e4),_,_,rfl,rfl,?_⟩⟩;have en:(((as.map V.ref++[V.ref p]).length:Nat):Int)-1=(s.ones.length:Nat):=by
   rw [List.length_append,hlen,List.length_singleton]
   lia
  show Q (.int (((as.map V.ref++[V.ref p]).length:Nat)-1)) H4;rw [en];exact q H4 ((Kp.of (oy.trans s3)).trans k4) A4
def Je (K:PySem.W.Frag) (ad:Ad):Sp:=fun vs H Q _=>∃ (r:Ar) (v:Vbapah.World) (s:Vbapah.State) (px:Addr) (x:Vbapah.Program),vs=[.ref r.a,.ref px]/\ag K ad H r v s/\sA v/\s.panel.length<=4/\(∀ y∈s.panel,rT v y)/\s.ones.length<=1000/\bG K (Out (r.N ad) H) px x/\rT v x/\
 ∀ H',Kp [r.bl] H H'->ag K ad H' r v {s with ones:=s.ones++[⟨x,Vbapah.scoreOf v s.panel x,s.gen,none,⟨9,[]⟩⟩]}->Q (.int (s.ones.length:Nat)) H'
theorem Jf (T:Tx P w K mg base ad):Ok T 10 ad.Hr ad.iE ["arena","program"] Je:=by
 refine T.Bs.ok xZ (fun vs H Q E h=>?_) (fun nd bB A outer s H vs Q E hr h=>?_)
 ·obtain ⟨r,v,s,px,x,rfl,_⟩:=h;rfl
 ·obtain ⟨r,v,s,px,x,rfl,A,W,p4,pL,ol,hx,X,q⟩:=h;refine ⟨_,(ae (aq (eC (Jd T) hr T.IH (aQ (pv 0) (fY (pv 1) (aE ft) (aE (bj (ay rfl T.MD)))))))),?_⟩;refine ⟨_,rfl,_,rfl,Nat.zero_le _,?_⟩;intro ps K4;generalize QV:upd H ps _=H1;obtain ⟨s1,h1⟩:=aI K4 QV
  refine ⟨(by show 1<=sizeLine;decide),?_⟩;intro rc Yc;generalize aa3:upd H1 rc _=H2;obtain ⟨s2,h2⟩:=aI Yc aa3
  have oy:=s1.trans s2;have A1:=A.mono s1;refine ⟨r,v,s,px,ps,rc,⟨x,Vbapah.scoreOf v s.panel x,s.gen,none,⟨9,[]⟩⟩,rfl,⟨A.mono oy,W,p4,pL,ol,hx.mono (bM (Kp.of oy)),X,bL (A.fresh K4) (s2 _ _ h1),bL (A1.fresh Yc) h2,fun p hp=>(by cases hp),rfl,rfl⟩,fun H3 k3 A3=>q H3 ((Kp.of oy).trans k3) A3⟩
theorem ag.begun {H:Hp} {r:Ar} {v:Vbapah.World} {s:Vbapah.State} (A:ag K ad H r v s) {rt:Vbapah.Rates} (hr:s.rates=some rt):∃ q d,r.ra=.ref q/\r.dr=some d/\r.dv=.ref d/\jB ad (Out (r.N ad) H) q rt/\bw ad H d s.x:=by
 have z:=A.rat;rw [hr] at z;obtain ⟨q,d,e1,e2,e3,e4⟩:=z;exact ⟨q,d,e1,e2,by unfold Ar.dv;rw [e2],e3,e4⟩
def jM (v:Vbapah.World) (panel:List Vbapah.Program) (gen x:Nat):Vbapah.One:=⟨(Vbapah.drawnProgram v x).1,Vbapah.scoreOf v panel (Vbapah.drawnProgram v x).1,gen,none,⟨0,(Vbapah.drawnProgram v x).2.1⟩⟩
def F2 (K:PySem.W.Frag) (ad:Ad):Sp:=fun vs H Q _=>∃ (r:Ar) (v:Vbapah.World) (s:Vbapah.State) (rt:Vbapah.Rates),vs=[.ref r.a]/\ag K ad H r v s/\s.rates=some rt/\sA v/\s.panel.length<=4/\(∀ y∈s.panel,rT v y)/\s.ones.length<=1000/\1<=s.x/\s.x<Vbapah.PRIME/\
 ∀ H' z,Kp (r.M ad) H H'->ag K ad H' r v {s with ones:=s.ones++[jM v s.panel s.gen s.x],x:=(Vbapah.drawnProgram v s.x).2.2}->Q z H'
theorem F4 (T:Tx P w K mg base ad):Ok T 10 ad.DR ad.gu ["arena"] F2:=by
 refine T.yu.ok vB (fun vs H Q E h=>?_) (fun nd bB A outer s H vs Q E hr h=>?_)
 ·obtain ⟨r,v,s,rt,rfl,_⟩:=h;rfl
 ·obtain ⟨r,v,s,rt,rfl,A,mi,W,p4,pL,ol,x1,x2,q⟩:=h;refine ⟨_,(aa (sS 1 nd (aF K (pv 0)))
   (aa (sS 2 nd (aB bh ab (mO (pv 1) T.dS T.cG (cp (K:=K) T) (hr.mono (by decide)) T.bQ .nil i0 (bj (aF K (aF K (pv 0)))))))
   (aa (sS 3 nd (aE ft))
   (aa (jc PassesOwn.never rfl (fO rfl T.d9 (bj (pv 2))) (gN 4 nd) (aa (bH (hZ PySem.F.plainAttrs_list PySem.F.slot_list_append PySem.F.type_list_append cq (pv 3) (bj (mO (pv 1) T.dS T.cG (cp (K:=K) T) (hr.mono (by decide)) T.bQ .nil i0 (bj (ay rfl T.HH))))))
   (aa (bH (hZ PySem.F.plainAttrs_list PySem.F.slot_list_append PySem.F.type_list_append cq (pv 3) (bj (mO (pv 1) T.dS T.cG (cp (K:=K) T) (hr.mono (by decide)) T.bQ .nil i0 (bj (aF K (aF K (pv 0))))))))
   (ae (bH (hZ PySem.F.plainAttrs_list PySem.F.slot_list_append PySem.F.type_list_append cq (pv 3) (bj (mO (pv 1) T.dS T.cG (cp (K:=K) T) (hr.mono (by decide)) T.bQ .nil i0 (bj (aF K (aF K (pv 0))))))))))))
   (ae (aq (eC (Jd T) hr T.IH (aQ (pv 0) (fY (eC (bq T) hr T.bp (bj (pv 3))) (aE ft) (aB fW (aE (bj (ay rfl T.IL))) (pv 3))))))))))),?_⟩
  obtain ⟨qa,d,eq1,ed,edv,hR,hD⟩:=A.begun mi;have ins:=A.ins;rw [edv] at ins;have wl:=W.l;have wn:=W.n;have dM:d∈r.M ad:=Ar.mD ed;have wM:∀ {b:Addr} {o:HO},Out (r.N ad) H b=some o->b≠d:=fun h z=>dn h (z▸List.mem_append_left _ dM)
  refine ⟨_,rfl,fN T ins ?_⟩;obtain ⟨dx,hdx⟩:=id hD;refine ⟨_,rfl,d,dx,_,rfl,hdx,bV,_,rfl,ba T ins (ju T (A.z9.mono aA) ⟨d,v.longest,s.x,rfl,hD,by lia,by lia,x1,x2,fun H1 h1 k1=>⟨_,_,rfl,rfl,Nat.zero_le _,?_⟩⟩)⟩;obtain ⟨l1,y1,y2⟩:=gH (m:=v.longest) (by lia) x1 x2;generalize hlen:(Vbapah.draw v.longest s.x).1=L at l1;generalize hy:(Vbapah.draw v.longest s.x).2=y at h1 y1 y2;intro nl SX;generalize aa4:upd H1 nl _=H2;obtain ⟨s2,h2⟩:=aI SX aa4
  have fre:∀ b o,H b=some o->b≠d->H2 b=some o:=fun b o e ne=>s2 _ _ (k1.hG e ne)
  have ZD:∀ b o,H b=some o->b≠nl:=fun b o e z=>by
   by_cases hb:b=d
   ·obtain ⟨dx1,e1⟩:=h1;rw [<-z,hb,e1] at SX;cases SX
   ·have:=k1.hG e hb;rw [z,SX] at this;cases this
  have eL:(1:Int)+((L:Nat):Int)=((L+1:Nat):Int):=by lia
  have Us:∀ {H3:Hp},Kp [d] H H3->cD ad H3 r.wa v:=fun k3=>let ⟨dx,e⟩:=A.z9;⟨dx,k3.hG (aA _ _ e) (wM e)⟩
  have Yd:∀ {H3:Hp},Kp [d] H H3->bg ad H3 r.a (.ref r.wa) (.ref r.pl) (.ref r.bl) r.ra (.ref d) (.ref r.rw) (.int (s.gen:Nat)) (.ref r.bs):=fun k3=>let ⟨dx,e⟩:=ins;⟨dx,k3.hG e (fun z=>(A.ap.2.2.2.2.2.2.2.2.2.2 d ed).1 z.symm)⟩
  refine ⟨_,rfl,_,rfl,(by show -(2 ^ 62)<=(1:Int)+(L:Nat);lia),(by show (1:Int)+(L:Nat)<2 ^ 62;lia),?_⟩;rw [show ((1:Int)+(L:Nat)).toNat=L+1 by lia];refine uE (lo:=0) (n:=L+1) (fun i σ H3=>(∃ u2 u,σ=[some (.ref r.a),some (.ref d),u2,some (.ref nl),u])/\Kp [d] H H3/\H3 nl=some (.lst (vN (Vbapah.drawAll (bP v.n i) y).1))/\bw ad H3 d (Vbapah.drawAll (bP v.n i) y).2) ⟨⟨_,_,rfl⟩,Kp.one fre,h2,h1.mono s2⟩ ?_ ?_
  ·rintro i σ H3 hi ⟨⟨u2,u,rfl⟩,k3,h3,D3⟩;have WT:d≠nl:=fun z=>ZD d _ (show H d=some _ from hdx) z
   obtain ⟨z1,z2⟩:=fu (bP v.n i) (pR W.pos i) y1 y2;have Ut:(Vbapah.drawAll (bP v.n i) y).1.length=3*i:=by rw [bS,gf]
   generalize RK:Vbapah.drawAll (bP v.n i) y=ds at h3 D3 z1 z2 Ut;have hsz:∀ k,k<=3*i+3->k<sizeLine:=fun k hk=>Nat.lt_of_le_of_lt (show k<=1000 by lia) (by decide)
   obtain ⟨dx3,e3⟩:=id D3;refine ⟨_,rfl,.inl ⟨rfl,_,aH.of h3⟩,_,rfl,d,dx3,_,rfl,e3,bV,d,8,ds.2,rfl,D3,by lia,by lia,z1,z2,fun H4 D4 k4=>?_⟩;have h4:=k4.hG h3 (fun z=>WT z.symm);refine ⟨nl,_,_,rfl,rfl,h4,by rw [aO,Ut];exact hsz _ (by lia),?_⟩;obtain ⟨b1,c1,c2⟩:=gH (m:=8) (by lia) z1 z2;generalize hd1:Vbapah.draw 8 ds.2=d1 at D4 c1 c2;have D5:bw ad (upd H4 nl (.lst (vN ds.1++[V.int (d1.1:Nat)]))) d d1.2:=let ⟨dx,e⟩:=D4;⟨dx,by rw [az WT];exact e⟩
   have k5:Kp [d] H (upd H4 nl (.lst (vN ds.1++[V.int (d1.1:Nat)]))):=fun b o e n=>by rw [az (ZD b o e)];exact (k3.trans k4) b o e n
   have h5:upd H4 nl (.lst (vN ds.1++[V.int (d1.1:Nat)])) nl=some (.lst (vN (ds.1++[d1.1]))):=by rw [ah,cS];rfl
   revert D5 k5 h5
   generalize upd H4 nl (.lst (vN ds.1++[V.int (d1.1:Nat)]))=H5;intro D5 k5 h5;obtain ⟨dx5,e5⟩:=id D5;refine ⟨_,rfl,.inl ⟨rfl,_,aH.of h5⟩,_,rfl,d,dx5,_,rfl,e5,bV,_,rfl,ba T (Yd k5) (cn T (Us k5) ⟨d,v.n,d1.2,rfl,D5,by lia,by lia,c1,c2,fun H6 D6 k6=>?_⟩)⟩;have h6:=k6.hG h5 (fun z=>WT z.symm);refine ⟨nl,_,_,rfl,rfl,h6,by rw [aO,List.length_append,Ut];exact hsz _ (by show 3*i+1<=_;lia),?_⟩;obtain ⟨b2,c3,c4⟩:=gH (m:=v.n) (by lia) c1 c2;generalize hd2:Vbapah.draw v.n d1.2=d2 at D6 c3 c4;have D7:bw ad (upd H6 nl (.lst (vN (ds.1++[d1.1])++[V.int (d2.1:Nat)]))) d d2.2:=let ⟨dx,e⟩:=D6;⟨dx,by rw [az WT];exact e⟩
   have k7:Kp [d] H (upd H6 nl (.lst (vN (ds.1++[d1.1])++[V.int (d2.1:Nat)]))):=fun b o e n=>by rw [az (ZD b o e)];exact (k5.trans k6) b o e n
   have h7:upd H6 nl (.lst (vN (ds.1++[d1.1])++[V.int (d2.1:Nat)])) nl=some (.lst (vN (ds.1++[d1.1]++[d2.1]))):=by rw [ah,cS _ [d2.1]];rfl
   revert D7 k7 h7
   generalize upd H6 nl (.lst (vN (ds.1++[d1.1])++[V.int (d2.1:Nat)]))=H7;intro D7 k7 h7;obtain ⟨dx7,e7⟩:=id D7;refine ⟨_,rfl,.inl ⟨rfl,_,aH.of h7⟩,_,rfl,d,dx7,_,rfl,e7,bV,_,rfl,ba T (Yd k7) (cn T (Us k7) ⟨d,v.n,d2.2,rfl,D7,by lia,by lia,c3,c4,fun H8 D8 k8=>?_⟩)⟩;have h8:=k8.hG h7 (fun z=>WT z.symm);refine ⟨nl,_,_,rfl,rfl,h8,by rw [aO,List.length_append,List.length_append,Ut];exact hsz _ (by show 3*i+1+1<=_;lia),?_⟩;generalize Zx:Vbapah.draw v.n d2.2=d3 at D8;have ea:Vbapah.drawAll (bP v.n (i+1)) y=(ds.1++[d1.1]++[d2.1]++[d3.1],d3.2):=by
    show Vbapah.drawAll (bP v.n i++[8,v.n,v.n]) y=_;rw [show bP v.n i++[8,v.n,v.n]=((bP v.n i++[8])++[v.n])++[v.n] by rw [List.append_assoc,List.append_assoc];rfl,cC,cC,cC,RK,hd1,hd2,Zx]
   rw [ea];refine ⟨⟨_,_,rfl⟩,fun b o e n=>?_,?_,?_⟩
   ·rw [az (ZD b o e)];exact (k7.trans k8) b o e n
   ·rw [ah,cS _ [d3.1]];rfl
   ·obtain ⟨dx,e⟩:=D8;exact ⟨dx,by rw [az WT];exact e⟩
  ·rintro σ H3 ⟨⟨u2,u,rfl⟩,k3,h3,D3⟩;have A3:=A.drawn mi ed k3 D3;have Ut:(Vbapah.drawAll (bP v.n (L+1)) y).1.length=3*(L+1):=by rw [bS,gf]
   have ZE:=jS (w:=v) (x:=s.x) (by lia) (by lia) x1 x2;rw [hlen,hy] at ZE;generalize RK:Vbapah.drawAll (bP v.n (L+1)) y=ds at h3 D3 A3 Ut ZE;have hpo:=jT (w:=v) (x:=s.x) (by lia) (by lia) x1 x2;refine ⟨_,rfl,_,rfl,nl,ds.1.map (fun (n:Nat)=>(n:Int)),L+1,rfl,aH.of (by rw [h3,mn];rfl),by rw [List.length_map];exact Ut,by lia,fun H4 px SY s4 hC=>?_⟩;rw [mU] at hC;refine ⟨Nat.zero_le _,?_⟩;intro ps K4;generalize QV:upd H4 ps _=H5;obtain ⟨s5,h5⟩:=aI K4 QV
   refine ⟨(by show 1<=sizeLine;decide),?_⟩;intro p0 MS;generalize MT:upd H5 p0 _=H6;obtain ⟨s6,h6⟩:=aI MS MT
   have WU:=(s4.trans s5).trans s6;refine ⟨_,rfl,fZ h6 (WU _ _ h3) (aT (by rw [aO,Ut];show 1+_<=_;lia)) fun rc H7 Uq s7 h7=>?_⟩;have s47:=WU.trans s7;have A7:=A3.mono s47;have A4:=A3.mono s4;have A6:=A3.mono WU;have aa5:bG K (Out (r.N ad) H7) px (chunk ds.1):=aV.out (hC.mono ((s5.trans s6).trans s7)) (A3.fresh SY) A7.Pu;have eo:jM v s.panel s.gen s.x=⟨chunk ds.1,Vbapah.scoreOf v s.panel (chunk ds.1),s.gen,none,⟨0,ds.1⟩⟩:=by
    unfold jM;rw [ZE]
   refine ⟨r,v,{s with x:=ds.2},px,ps,rc,jM v s.panel s.gen s.x,rfl,⟨A7,W,p4,pL,ol,?_,?_,?_,?_,?_,?_,rfl⟩,fun H8 k8 A8=>?_⟩
   ·rw [eo];exact aa5
   ·exact hpo.1
   ·rw [eo];exact bL (A4.fresh K4) (s7 _ _ (s6 _ _ h5))
   ·rw [eo];exact bL (A6.fresh Uq) h7
   ·rw [eo];exact fun p hp=>(by cases hp)
   ·rw [eo]
   ·refine q H8 _ (((k3.mono fun z hz=>by rw [List.mem_singleton.mp hz];exact dM).trans (Kp.of s47)).trans (k8.mono fun z hz=>by rw [List.mem_singleton.mp hz];exact r.mB)) ?_;have e2:(Vbapah.drawnProgram v s.x).2.2=ds.2:=by rw [ZE]
    rw [e2];exact A8
theorem Aa {ones:List Vbapah.One} {i:Nat} (h:i<ones.length):∃ o,ones[i]? =some o/\Vbapah.scoreAt ones i=o.score/\Vbapah.programAt ones i=o.program:=by
 refine ⟨ones[i],List.getElem?_eq_getElem h,?_,?_⟩
 ·unfold Vbapah.scoreAt;rw [List.getElem?_eq_getElem h];rfl
 ·unfold Vbapah.programAt;rw [List.getElem?_eq_getElem h];rfl
def K5 (s:Vbapah.State):List Nat:=s.living.map fun l=>Vbapah.scoreAt s.ones (l.headD 0)
def mv (K:PySem.W.Frag) (ad:Ad):Sp:=fun vs H Q _=>∃ (r:Ar) (v:Vbapah.World) (s:Vbapah.State),vs=[.ref r.a]/\ag K ad H r v s/\s.living.length<=3/\(∀ l∈s.living,l≠[]/\∀ i∈l,i<s.ones.length)/\
 ∀ H' p,H p=none->au H H'->H' p=some (.lst (vN (K5 s)))->Q (.ref p) H'
theorem ug (T:Tx P w K mg base ad):Ok T 1 ad.Bl ad.fC ["arena"] mv:=by
 refine T.nZ.ok sZ (fun vs H Q E h=>?_) (fun nd bB A outer s H vs Q E hr h=>?_)
 ·obtain ⟨r,v,s,rfl,_⟩:=h;rfl
 ·obtain ⟨r,v,s,rfl,A,l3,hl,q⟩:=h;refine ⟨_,(ae (aq (iZ rfl nd (DA K (aF K (pv 0))) (own:=[("row",1)]) (bC (show kE ["arena","row"] (af nS) _ [("row",1)]=true by decide+kernel)) (fun _ _ _ _ _=>gN 1 nd) (fun _ _ _ _ _=>cu) (fun _ _ _ _ _=>(aF K (xL K (aF K (pv 0)) (xL K (pv 1) ab))))))),?_⟩;obtain ⟨as,ha,rr⟩:=A.row;have hlen:as.length=s.living.length:=rr.length;refine ⟨_,rfl,bR T A.ins ⟨r.rw,rfl,⟨_,aH.of (aA _ _ ha)⟩,fun D hD=>?_⟩⟩;refine Pt (xs:=as.map V.ref) hD (aT (by rw [List.length_map];lia)) (fun i acc H2=>acc=vN ((s.living.take i).map fun l=>Vbapah.scoreAt s.ones (l.headD 0))/\au H H2) ⟨rfl,au.refl H⟩ (fun i acc H2 ⟨_,s2⟩=>aH.of (s2 _ _ (aA _ _ ha))) ?_ ?_
  ·rintro i z acc H2 hi aR hlen hsz ⟨rfl,s2⟩;obtain ⟨p,hp,rfl⟩:=fU hi;obtain ⟨l,Md,jP⟩:=Paired.at rr hp;obtain ⟨ne,eW⟩:=hl l (List.mem_of_getElem? Md);obtain ⟨n,rest,rfl⟩:∃ n rest,l=n::rest:=by
    cases l with
    |nil=>exact absurd rfl ne
    |cons n rest=>exact ⟨n,rest,rfl⟩
   have s3:=s2.trans aN;have A2:=A.mono s3;obtain ⟨o,ho,es,_⟩:=Aa (eW n (List.mem_cons_self ..));refine ⟨_,rfl,aM T A2.ins ⟨_,rfl,p,_,_,_,rfl,rfl,aH.of (s3 _ _ (aA _ _ jP)),wd (i:=0) rfl rfl,kQ T A2 ho rfl fun pp hS=>?_⟩⟩;obtain ⟨px,pq,rc,h1,_⟩:=hS;refine dh T h1 (Eh.mk aR hlen hsz ⟨?_,s2⟩);rw [aG Md,List.map_append,cS];show _=_++[V.int ((Vbapah.scoreAt s.ones n:Nat):Int)];rw [es]
  ·rintro acc H2 aR vd ⟨rfl,s2⟩;rw [List.length_map,hlen,List.take_of_length_le (Nat.le_refl _)] at aR;exact q H2 D hD (s2.trans aN) aR
def w6 (K:PySem.W.Frag) (ad:Ad):Sp:=fun vs H Q _=>∃ (r:Ar) (v:Vbapah.World) (s:Vbapah.State),vs=[.ref r.a]/\ag K ad H r v s/\s.living.length<=3/\(∀ l∈s.living,l.length<=10/\∀ i∈l,i<s.ones.length)/\
 ∀ H' p as,H p=none->au H H'->H' p=some (.lst (as.map V.ref))->Paired (bG K H') as (s.living.flatten.map (Vbapah.programAt s.ones))->Q (.ref p) H'
theorem K6 {ls:List (List Nat)} (h:∀ l∈ls,l.length<=10):ls.flatten.length<=10*ls.length:=by
 induction ls with
 |nil=>exact Nat.le_refl _
 |cons a r ih=>
  rw [List.flatten_cons,List.length_append,List.length_cons];have h1:=h a (List.mem_cons_self ..);have h2:=ih fun l hl=>h l (List.mem_cons_of_mem _ hl)
  lia
theorem w8 (T:Tx P w K mg base ad):Ok T 1 ad.q4 ad.cP ["arena"] w6:=by
 refine T.nj.ok lB (fun vs H Q E h=>?_) (fun nd bB A outer s H vs Q E hr h=>?_)
 ·obtain ⟨r,v,s,rfl,_⟩:=h;rfl
 ·obtain ⟨r,v,s,rfl,A,l3,hl,q⟩:=h;refine ⟨_,(aa (sS 1 nd (aE ft))
   (aa (jc PassesOwn.never rfl (DA K (aF K (pv 0))) (gN 2 nd) (ae (bH (hZ PySem.F.plainAttrs_list PySem.F.slot_list_extend PySem.F.type_list_extend (SF K) (pv 1) (bj (iZ rfl nd (DA K (pv 2)) (own:=[("number",3)]) (bC (show kE ["arena","programs","row","number"] (af ig) _ [("number",3)]=true by decide+kernel)) (fun _ _ _ _ _=>gN 3 nd) (fun _ _ _ _ _=>cu) (fun _ _ _ _ _=>(aF K (xL K (aF K (pv 0)) (pv 3))))))))))
   (ae (aq (pv 1))))),?_⟩
  obtain ⟨as,ha,rr⟩:=A.row;have hlen:as.length=s.living.length:=rr.length;refine ⟨Nat.zero_le _,?_⟩;intro p mN;generalize B2:upd H p _=H1;obtain ⟨s1,h1⟩:=aI mN B2
  have A1:=A.mono s1;refine ⟨_,rfl,bR T A1.ins ⟨r.rw,rfl,⟨_,aH.of (s1 _ _ (aA _ _ ha))⟩,jC (K:=K) (a:=r.rw) (xs:=as.map V.ref) (fun i σ H2=>(∃ u1 u2,σ=[some (.ref r.a),some (.ref p),u1,u2])/\au H H2/\∃ bs:List Addr,H2 p=some (.lst (bs.map V.ref))/\Paired (bG K H) bs ((s.living.take i).flatten.map (Vbapah.programAt s.ones)))
   ⟨⟨_,_,rfl⟩,s1,[],h1,.nil⟩ (fun i σ H2 _ ⟨_,s2,_⟩=>aH.of (s2 _ _ (aA _ _ ha))) ?_ ?_⟩⟩
  ·rintro i z σ H2 hi ⟨⟨u1,u2,rfl⟩,s2,bs,h2,r2⟩;obtain ⟨rp,Fp,rfl⟩:=fU hi;obtain ⟨l,Md,jP⟩:=Paired.at rr Fp;obtain ⟨l10,eW⟩:=hl l (List.mem_of_getElem? Md);refine ⟨_,rfl,.inl ⟨rfl,_,aH.of h2⟩,_,rfl,rp,rfl,⟨_,aH.of (s2 _ _ (aA _ _ jP))⟩,fun D hD=>?_⟩;refine Pt (xs:=vN l) hD (aT (by rw [aO];lia)) (fun k acc H3=>au H2 H3/\∃ cs:List Addr,acc=cs.map V.ref/\Paired (bG K H) cs ((l.take k).map (Vbapah.programAt s.ones))) ⟨au.refl _,[],rfl,.nil⟩ (fun k acc H3 ⟨s3,_⟩=>aH.of (s3 _ _ (s2 _ _ (aA _ _ jP)))) ?_ ?_
   ·rintro k z acc H3 hk aR Uu hsz ⟨s3,cs,rfl,rc⟩;obtain ⟨n,hn,rfl⟩:=kP hk;have s4:=s3.trans aN;have A3:=A.mono (s2.trans s4);obtain ⟨o,ho,_,ep⟩:=Aa (eW n (List.mem_of_getElem? hn));obtain ⟨wZ,pp,e1,e2,hS⟩:=A.one ho;obtain ⟨px,pq,rcc,g1,g2,_⟩:=hS.mono aA;refine ⟨_,rfl,aM T A3.ins ⟨_,rfl,r.bl,_,_,_,rfl,rfl,aH.of (s4 _ _ (s2 _ _ e1)),uF e2,?_⟩⟩;refine dz T (g1.mono (s2.trans s4)) (Eh.mk aR Uu hsz ⟨s3,cs++[px],by rw [List.map_append];rfl,?_⟩);rw [aG hn,List.map_append];refine Paired.app rc (.cons ?_ .nil);rw [ep];exact g2
   ·rintro acc H3 aR Uu ⟨s3,cs,rfl,rc⟩;rw [aO,List.take_of_length_le (Nat.le_refl _)] at rc;have lb:bs.length<=30:=by
     rw [r2.length,List.length_map];refine Nat.le_trans (K6 fun l PF=>(hl l (List.mem_of_mem_take PF)).1) ?_;rw [List.length_take]
     lia
    have lc:cs.length<=10:=by rw [rc.length,List.length_map];exact l10
    refine ⟨p,D,_,_,rfl,rfl,aN _ _ (s3 _ _ h2),.inl aR,aT (by rw [List.length_map,List.length_map];lia),⟨_,_,rfl⟩,?_,bs++cs,?_,?_⟩
    ·exact fun b o e=>by
      rw [az (aw e mN)];exact aN _ _ (s3 _ _ (s2 _ _ e))
    ·rw [ah,List.map_append]
    ·rw [aG Md,List.flatten_append,List.map_append];refine Paired.app r2 ?_;rw [List.flatten_singleton];exact rc
  ·rintro σ H2 ⟨⟨u1,u2,rfl⟩,s2,bs,h2,r2⟩;rw [List.length_map,hlen,List.take_of_length_le (Nat.le_refl _)] at r2;exact ⟨_,rfl,q H2 p bs mN s2 h2 (Paired.dw r2 fun _ _ z=>aV.mono z s2)⟩
def F5 (K:PySem.W.Frag) (ad:Ad):Sp:=fun vs H Q _=>∃ (n i:Nat),vs=[.int (n:Nat),.int (i:Nat)]/\n<=100/\i<=100/\∀ H' p,H p=none->au H H'->H' p=some (.lst (vN ((List.range n).map fun k=>i*n+k)))->Q (.ref p) H'
theorem F6 (T:Tx P w K mg base ad):Ok T 1 ad.DS ad.gv ["size","island"] F5:=by
 refine T.yw.ok vC (fun vs H Q E h=>?_) (fun nd bB A outer s H vs Q E hr h=>?_)
 ·obtain ⟨n,i,rfl,_⟩:=h;rfl
 ·obtain ⟨n,i,rfl,hn,hi,q⟩:=h;refine ⟨_,(ae (aq (je (vg rfl) (by rfl) T.Ea IF (bj (je ON (by rfl) T.d9 KI (ie (aB jd (pv 1) (pv 0)) (aB bh (aB jd (pv 1) (pv 0)) (pv 0)))))))),?_⟩;have hb:i*n<=10000:=Nat.mul_le_mul hi hn;have em:((i:Nat):Int)*(n:Nat)=((i*n:Nat):Int):=by rw [Int.natCast_mul]
  refine ⟨_,rfl,_,rfl,_,_,rfl,rfl,.inl (by lia),_,rfl,_,rfl,_,_,rfl,rfl,.inl (by lia),_,rfl,_,_,rfl,rfl,_,_,rfl,?_⟩;intro p0 MS;generalize MT:upd H p0 _=H1;obtain ⟨s1,h1⟩:=aI MS MT
  refine ⟨p0,_,_,rfl,h1,?_,?_,?_⟩
  ·show -(2 ^ 62)<=((i:Nat):Int)*(n:Nat)/\((i:Nat):Int)*(n:Nat)<2 ^ 62/\ -(2 ^ 62)<=((i:Nat):Int)*(n:Nat)+(n:Nat)/\((i:Nat):Int)*(n:Nat)+(n:Nat)<2 ^ 62;rw [em];generalize i*n=z at hb
   lia
  ·show (((i:Nat):Int)*(n:Nat)+(n:Nat)-((i:Nat):Int)*(n:Nat)).toNat<=sizeLine;rw [em];generalize i*n=z at hb;exact aT (by lia)
  ·intro p mN;generalize B2:upd H1 p _=H2;obtain ⟨s2,h2⟩:=aI mN B2
   refine q H2 p (s1.free mN) (s1.trans s2) ?_;have e1:(((i:Nat):Int)*(n:Nat)+(n:Nat)-((i:Nat):Int)*(n:Nat)).toNat=n:=by
    generalize ((i:Nat):Int)*(n:Nat)=z
    lia
   have e2:pT (((i:Nat):Int)*(n:Nat)) (((i:Nat):Int)*(n:Nat)+(n:Nat)-((i:Nat):Int)*(n:Nat)).toNat=vN ((List.range n).map fun k=>i*n+k):=by
    rw [e1];unfold pT vN;rw [List.map_map];refine List.map_congr_left fun k _=>?_
    show V.int (((i:Nat):Int)*(n:Nat)+(k:Int))=V.int ((i*n+k:Nat):Int);rw [Int.natCast_add,Int.natCast_mul]
   rw [<-e2];exact h2
def K7 (K:PySem.W.Frag) (ad:Ad):Sp:=fun vs H Q _=>∃ (r:Ar) (v:Vbapah.World) (s:Vbapah.State) (ns:Addr) (l:List Nat),vs=[.ref r.a,.ref ns]/\ag K ad H r v s/\H ns=some (.lst (vN l))/\(∀ i∈l,i<s.ones.length)/\l.length<=100/\
 ∀ H' p,H p=none->H' p=some (.lst (vN (Vbapah.ordered s.ones l)))->Kp [ad.tb] H H'->ag K ad H' r v s->Q (.ref p) H'
structure Ey (K:PySem.W.Frag) (ad:Ad) (H:Hp) (r:Ar) (v:Vbapah.World) (s:Vbapah.State) (rt:Vbapah.Rates):Prop where
 A:ag K ad H r v s
 hr:s.rates=some rt
 R:xB rt
 W:sA v
 x1:1<=s.x
 x2:s.x<Vbapah.PRIME
theorem ag.rF {H:Hp} {r:Ar} {v:Vbapah.World} {s:Vbapah.State} {rt:Vbapah.Rates} (A:ag K ad H r v s) (hr:s.rates=some rt):∃ q d,jB ad H q rt/\r.dr=some d/\bw ad H d s.x/\bg ad H r.a (.ref r.wa) (.ref r.pl) (.ref r.bl) (.ref q) (.ref d) (.ref r.rw) (.int (s.gen:Nat)) (.ref r.bs):=by
 obtain ⟨q,d,e1,e2,e3,e4,e5⟩:=A.begun hr;refine ⟨q,d,e4.mono aA,e2,e5,?_⟩;have z:=A.ins;rw [e1,e3] at z;exact z
def OS (K:PySem.W.Frag) (ad:Ad):Sp:=fun vs H Q _=>∃ (r:Ar) (v:Vbapah.World) (s:Vbapah.State) (rt:Vbapah.Rates) (rp:Addr) (row:List Nat),vs=[.ref r.a,.ref rp]/\Ey K ad H r v s rt/\Out (r.N ad) H rp=some (.lst (vN row))/\eA s.ones rt.size row/\
 ∀ H',Kp (r.M ad) H H'->ag K ad H' r v {s with x:=(Vbapah.picked s.ones row rt.pick s.x).2}->Q (.int ((Vbapah.picked s.ones row rt.pick s.x).1:Nat)) H'
theorem HL (T:Tx P w K mg base ad):Ok T 3 ad.picked ad.o8 ["arena","row"] OS:=by
 refine T.DZ.ok Hm (fun vs H Q E h=>?_) (fun nd bB A outer s H vs Q E hr h=>?_)
 ·obtain ⟨r,v,s,rt,rp,row,rfl,_⟩:=h;rfl
 ·obtain ⟨r,v,s,rt,rp,row,rfl,⟨A,mi,R,W,x1,x2⟩,yT,RO,q⟩:=h;refine ⟨_,(aa (xu (i:=2) rfl nd rfl rfl rfl (fO rfl T.d9 (bj (aF K (aF K (pv 0))))) (own:=[("time_picked",3)]) (bC (show kE ["arena","row","places","time_picked"] (af DC) _ [("time_picked",3)]=true by decide+kernel)) (fun _ _ _ _ _=>gN 3 nd) (fun _ _ _ _ _=>cu) (fun _ _ _ _ _=>(mO (aF K (pv 0)) T.dS T.cG (cp (K:=K) T) hr T.bQ .nil i0 (bj (aF K (aF K (pv 0)))))))
   (ae (aq (xL K (pv 1) (cj (aaJ K) (by rfl) T.KP Mv (bj (pv 2))))))),?_⟩
  obtain ⟨qa,d,⟨wl,hR,Pw⟩,ed,hD,ins⟩:=A.rF mi;have ZF:=R.p;have rs1:=R.s;have dM:d∈r.M ad:=Ar.mD ed;refine ⟨_,rfl,bz T ins (FK T hR ⟨_,rfl,by lia,by lia,fun D C8=>?_⟩)⟩;rw [Int.toNat_natCast];have Ye:d≠D:=hD.ne C8;have rp:∀ i,∀ m∈List.replicate i rt.size,0<m:=fun i m hm=>by rw [(List.mem_replicate.mp hm).2];lia
  refine lcR C8 (Nat.le_trans (show rt.pick<=4 by lia) (by decide)) (fun i acc H2=>acc=vN (Vbapah.drawAll (List.replicate i rt.size) s.x).1/\bw ad H2 d (Vbapah.drawAll (List.replicate i rt.size) s.x).2/\Kp [d] H H2) ⟨rfl,hD,Kp.refl _ _⟩ ?_ ?_
  ·rintro i acc H2 hi aR hlen hsz ⟨rfl,D2,k2⟩;have RL:Kp [d] H H2:=fun b o e n=>aN _ _ (k2 b o e n)
   have RM:=D2.mono aN;have A2:=A.drawn mi ed RL RM;obtain ⟨qa2,d2,⟨wl2,hR2,_⟩,ed2,hD2,Yf⟩:=A2.rF mi;rw [ed] at ed2;cases ed2;obtain ⟨z1,z2⟩:=fu (List.replicate i rt.size) (rp i) x1 x2;obtain ⟨dx,Yg⟩:=id RM;refine ⟨_,rfl,fN T Yf ⟨d,dx,_,rfl,Yg,bV,_,rfl,bz T Yf (gD T hR2 ⟨d,rt.size,_,rfl,RM,by lia,by lia,z1,z2,fun H4 D4 k4=>?_⟩)⟩⟩;refine Eh.mk (k4.hG aR (fun z=>Ye z.symm)) hlen hsz ⟨?_,?_,?_⟩
   ·rw [List.replicate_succ',cC,cS];rfl
   ·rw [List.replicate_succ',cC];exact D4.kO Ye
   ·exact fun b o e n=>ma (aw e C8) (k4 b o (RL b o e n) n)
  ·rintro acc H2 aR hlen ⟨rfl,D2,k2⟩;have RL:Kp [d] H H2:=fun b o e n=>aN _ _ (k2 b o e n)
   have A2:=A.drawn mi ed RL (D2.mono aN);have kM:Kp (r.M ad) H H2:=RL.mono fun z hz=>by rw [List.mem_singleton.mp hz];exact dM
   have Ez:H2 _=some (.lst (vN row)):=aA _ _ (bM (Ar.sub kM) _ _ yT);generalize RK:Vbapah.drawAll (List.replicate rt.pick rt.size) s.x=ds at aR A2;have hl:ds.1.length=rt.pick:=by rw [<-RK,bS,List.length_replicate]
   have eW:∀ p∈ds.1,p<row.length:=fun p hp=>by
    obtain ⟨j,hj,ej⟩:=List.mem_iff_getElem.mp hp;rw [RO.len];refine wH (List.replicate rt.pick rt.size) (rp rt.pick) x1 x2 j rt.size p ?_ (by rw [RK,List.getElem?_eq_getElem hj,ej]);rw [List.getElem?_replicate,if_pos (by lia)]
   have epk:Vbapah.picked s.ones row rt.pick s.x=((Vbapah.ordered s.ones (ds.1.map fun i=>row.getD i 0)).headD 0,ds.2):=by
    unfold Vbapah.picked;rw [RO.len,RK]
   refine ⟨_,rfl,_,rfl,D,ds.1.map (fun (n:Nat)=>(n:Int)),rfl,aH.of (by rw [aR,mn]),by rw [List.length_map];lia,fun m hm hle=>?_⟩;obtain ⟨m',ZG,rfl⟩:=List.mem_map.mp hm;have Vx:∀ p∈ds.1,m'<=p:=fun p hp=>Int.ofNat_le.mp (hle (p:Int) (List.mem_map.mpr ⟨p,hp,rfl⟩))
   have epm:=Mn RO.srt eW ZG Vx;have hg:row[m']? =some (row.getD m' 0):=by rw [List.getD_eq_getElem?_getD,List.getElem?_eq_getElem (eW m' ZG)];rfl
   refine ⟨_,_,_,_,rfl,rfl,aH.of Ez,wd rfl hg,?_⟩;have qq:=q H2 kM;rw [epk] at qq;rw [<-epm];exact qq A2
end
end Fb
namespace Fb
open PySem PySem.Spec PyProof.Rows PyProof.Rows.G L2
section
variable {prog:Program} {w:World} {A:Around} {E:Value->Shared->Prop} {s:Shared}
theorem K8 {a kS:Addr} {e e1:Nat} {vs:List Value} {keys:Array Value} {st:SortSt} {P:PySem.Fin->Shared->Prop} (nk:s.heap.get? kS=some (seqObj "list" keys e)) (na:s.heap.get? a=some (seqObj "list" #[] e1)) (ZH:kS≠a) (hsz:keys.size=vs.length) (hL:vs.length<=sizeLine)
  (hp:(arrOf st).Perm (keys.zip vs.toArray)) (Px:failedOf st=none)
  (h:P (.done (.ret .none)) {s with heap:=(s.heap.update kS (Obj.mapSeq fun _=>(#[]:Array Value))).update a (Obj.mapSeq fun _=>(arrOf st).map (·.2))}):
  wpAny (model prog w) A (ksk_tail a false e1 (.ref kS) st) P E s:=by
 have aa6:(arrOf st).size=vs.length:=by rw [hp.size_eq,Array.size_zip,hsz,List.size_toArray,Nat.min_self]
 have s1:=Heap.SameBut.update s.heap kS (Obj.mapSeq fun _=>(#[]:Array Value));have na1:(s.heap.update kS (Obj.mapSeq fun _=>(#[]:Array Value))).get? a=some (seqObj "list" #[] e1):=(s1.2 a ZH.symm).trans na;unfold ksk_tail
 try dsimp only
 refine wpAny_bind (listUpdate_at nk rfl ?_ (by rw [hsz];exact hL) (Nat.zero_le _));refine wpAny_bind (wpAny_letGo ?_);refine wpAny_bind (seqEpoch_at na1 rfl ?_);refine wpAny_bind (listUpdate_at na1 rfl ?_ (Nat.zero_le _) (by simp only [Bool.false_eq_true,if_false,Array.size_map];rw [aa6];exact Nat.le_succ_of_le hL));rw [Px];simp only [bne_self_eq_false,Bool.false_eq_true,if_false];exact wpAny_pure h
theorem S0 {shape:Nat->Bool} {a kS:Addr} {e e1:Nat} {vs fs:List Value} {keys:Array Value} {P:PySem.Fin->Shared->Prop} (nk:s.heap.get? kS=some (seqObj "list" keys e)) (na:s.heap.get? a=some (seqObj "list" #[] e1)) (ZH:kS≠a) (hsz:keys.size=vs.length) (hL:vs.length<=sizeLine)
  (ht:TupsOf s.heap shape keys.toList fs) (hk:∀ v∈keys.toList,∃ l,tupKeyC s.heap shape v=some l)
  (h:∀ xs:Array Keyed,xs.Perm (keys.zip vs.toArray)->SortedToK (tupKindC s.heap shape) xs xs.size->P (.done (.ret .none)) {s with heap:=(s.heap.update kS (Obj.mapSeq fun _=>(#[]:Array Value))).update a (Obj.mapSeq fun _=>xs.map (·.2))}):
  wpAny (model prog w) A (ksk_end a false vs.toArray e1 (.ref kS) keys) P E s:=by
 have hzs:(keys.zip vs.toArray).size=vs.length:=by rw [Array.size_zip,hsz,List.size_toArray,Nat.min_self]
 unfold ksk_end
 try dsimp only
 rw [if_neg Bool.false_ne_true];by_cases h2:vs.toArray.size<2
 ·rw [if_pos h2,if_pos h2];refine wpAny_bind (wpAny_pure ?_);rw [StateT.run_pure];refine wpAny_bind (wpAny_pure ?_)
  try dsimp only
  refine K8 (st:=SortSt.mk' general' (if false=true then (keys.zip vs.toArray).reverse else keys.zip vs.toArray) #[] 7 none) nk na ZH hsz hL (Array.Perm.refl _) rfl (h (keys.zip vs.toArray) (Array.Perm.refl _) ?_);intro i j hij hj;rw [hzs] at hj;rw [List.size_toArray] at h2;have:i=j:=by lia
  subst this;exact KeyOrd.kle_refl _
 ·rw [if_neg h2,if_neg h2];rw [List.size_toArray] at h2;have e0:keys=keys.toList.toArray:=by simp
  have hlf:=TupsOf.length ht;have MU:keys.toList.length=vs.length:=by rw [Array.length_toList];exact hsz
  have VC:0<fs.length:=by rw [hlf,MU];lia
  have kind:∀ {Q:SortKind->Shared->Prop},Q (tuples' true) s->wpAny (model prog w) A (keyKind' keys) Q E s:=fun hq=>by
   rw [e0];exact tup_kind VC ht hq
  refine wpAny_bind (kind ?_);have h0:KeysOf (tupKindC s.heap shape) (keys.zip vs.toArray):=by
   intro p hp;rw [ksk_zip] at hp;obtain ⟨x,y⟩:=p;exact hk x (List.of_mem_zip hp).1
  refine wpAny_bind (wpAny_mono (wpS_sortRunsSt (κ:=tupKindC s.heap shape) (kd:=tuples' true) (a₀:=keys.zip vs.toArray) (st:=SortSt.mk' (tuples' true) (if false=true then (keys.zip vs.toArray).reverse else keys.zip vs.toArray) #[] 7 none)
   (Q:=fun _ Kc=>(arrOf Kc).Perm (keys.zip vs.toArray)/\failedOf Kc=none/\SortedToK (tupKindC s.heap shape) (arrOf Kc) (keys.zip vs.toArray).size)
   (tupC_ltAt true (KeepsTups.refl _)) h0 ⟨Array.Perm.refl _,rfl,rfl⟩ rfl (Stable.refl _) (by rw [hzs];lia) fun Kc a1 a2 a3 _=>⟨a1,a2,a3⟩) ?_ fun _ _ e=>e)
  rintro ⟨⟨⟩,Kc⟩ s' ⟨rfl,hp,hf,hs⟩
  try dsimp only
  exact K8 nk na ZH hsz hL hp hf (h _ hp (by rw [hp.size_eq];exact hs))
end
def kz (a:Addr) (o:Obj):HO:= .ext fun h=>h.get? a=some o
theorem EA {P:Program} {w:World} {H:Hp} {h:Heap} {a:Addr} {o:Obj} (e:h.get? a=some o):cJ P w H h a (kz a o):=⟨e,⟨o,e⟩,fun h1 h2 e1 k=>k _ e1⟩
section
variable {X:Cx} {pins:List (Addr×Obj)} {σ:L2.St} {H:Hp} {s:Shared}
theorem Jg {a:Addr} {o:Obj} (I:Inv X pins σ H s) (h:H a=some (kz a o)):s.heap.get? a=some o:=(I.cf a _ h).1
def S1 (X:Cx) (f:Addr) (ns:List Nat) (kx:Nat->Int) (H:Hp) (σ:L2.St):Prop:=
 ∀ (pins:List (Addr×Obj)) (s':Shared) (H':Hp) (n:Nat) (u:Value),n∈ns->Inv X pins σ H' s'->au H H'->RelV (.int (n:Nat)) u->
  wpAny (model X.prog X.w) X.A.in1.in1 (call (.ref f) [u]) (fun v T4=>∃ p,v=.ref p/\H' p=none/\Inv X pins σ (upd H' p (.tup [.int (kx n),.int (n:Nat)])) T4) (fun _ _=>False) s'
def KeyLe (kx:Nat->Int) (i j:Nat):Prop:=kx i<kx j∨(kx i=kx j/\i<=j)
theorem VY {h:Heap} {p:Addr} {its:Array Value} {z:Int} {n:Nat} (ht:IsTup h p its) (hv:Vals [.int z,.int (n:Nat)] its.toList):tupKeyC h (fun _=>false) (.ref p)=some [Sum.inl z,Sum.inl (n:Int)]/\∃ f,TupOf h (fun _=>false) (.ref p) f:=by
 obtain ⟨o,ho,hc,m,hd⟩:=ht;obtain ⟨u1,u2,e,⟨t1,rfl⟩,⟨t2,rfl⟩⟩:=vals2 hv;have ei:its= #[Value.int z t1,Value.int (n:Nat) t2]:=by
  have:=congrArg List.toArray e;simpa using this
 subst ei;refine ⟨?_,_,p,o,_,m,rfl,ho,hc,hd,rfl,fun _=>⟨z,t1,rfl⟩,fun e=>by cases e⟩;unfold tupKeyC;have h1:isTupObj h (.ref p)=true:=by
  simp only [isTupObj,ho,hc];rfl
 rw [if_pos h1];simp only [tupKey,ho,hd];rfl
theorem VZ {z y:Int} {n m:Nat} (h:(listOrd itemOrd).kle [Sum.inl z,Sum.inl (n:Int)] [Sum.inl y,Sum.inl (m:Int)]):z<y∨(z=y/\n<=m):=by
 have h:PyProof.Rows.lexLt itemOrd [Sum.inl y,Sum.inl (m:Int)] [Sum.inl z,Sum.inl (n:Int)]=false:=h;obtain ⟨h1,h2⟩:=lex_false.mp h;have h1:=of_decide_eq_false (show decide (y<z)=false from h1);rcases h2 with h2|h2
 ·exact .inl (of_decide_eq_true (show decide (z<y)=true from h2))
 ·obtain ⟨h3,h4⟩:=lex_false.mp h2;have h3:=of_decide_eq_false (show decide ((m:Int)<(n:Int))=false from h3);by_cases e:z=y
  ·exact .inr ⟨e,by lia⟩
  ·exact .inl (by lia)
end
abbrev Jh (H:Hp) (kx:Nat->Int) (ps:List Addr) (ns:List Nat):Prop:=Paired (fun p (n:Nat)=>H p=some (.tup [.int (kx n),.int (n:Nat)])) ps ns
theorem OT {ps:List Addr} {its:List Value} (h:Vals (ps.map V.ref) its):its=ps.map Value.ref:=by
 induction ps generalizing its with
 |nil=>cases h;rfl
 |cons p ps ih=>
  cases h with
  |cons r t=>
   cases r;rw [ih t];rfl
section
variable {X:Cx} {pins:List (Addr×Obj)} {σ:L2.St} {H:Hp} {s:Shared}
theorem OU {kx:Nat->Int} {ps:List Addr} {ns:List Nat} (I:Inv X pins σ H s) (h:Jh H kx ps ns):(∃ fs,TupsOf s.heap (fun _=>false) (ps.map Value.ref) fs)/\Paired (fun p (n:Nat)=>tupKeyC s.heap (fun _=>false) (.ref p)=some [Sum.inl (kx n),Sum.inl (n:Int)]) ps ns:=by
 induction h with
 |nil=>exact ⟨⟨[],.nil⟩,.nil⟩
 |@cons p n ps ns h _ ih=>
  obtain ⟨⟨fs,ih1⟩,ih2⟩:=ih;obtain ⟨its,r,ht,_⟩:=I.tuple (X:=X) (xs:=[.int (kx n),.int (n:Nat)]) (.inl (.inl h));obtain ⟨k1,f,k2⟩:=VY (z:=kx n) (n:=n) ht (by rw [List.toList_toArray];exact r);exact ⟨⟨f::fs,.cons k2 ih1⟩,.cons k1 ih2⟩
theorem sorted_out {h:Heap} {kx:Nat->Int} {ps:List Addr} {ns:List Nat} {vs:List Value} (hk:Paired (fun p (n:Nat)=>tupKeyC h (fun _=>false) (.ref p)=some [Sum.inl (kx n),Sum.inl (n:Int)]) ps ns) (hv:Vals (vN ns) vs) {xs:Array Keyed} (hp:xs.Perm ((ps.map Value.ref).toArray.zip vs.toArray)) (hs:SortedToK (tupKindC h (fun _=>false)) xs xs.size):
  ∃ out:List Nat,out.Perm ns/\Vals (vN out) (xs.map (·.2)).toList/\out.Pairwise (KeyLe kx):=by
 have all:∀ p∈xs.toList,∃ (n:Nat),RelV (.int (n:Nat)) p.2/\tupKeyC h (fun _=>false) p.1=some [Sum.inl (kx n),Sum.inl (n:Int)]:=by
  intro p hm;have V0:p∈((ps.map Value.ref).zip vs):=by
   have:=(Array.perm_iff_toList_perm.mp hp).mem_iff.mp hm;rw [ksk_zip] at this;simpa using this
  clear hp hs hm
  induction hk generalizing vs with
  |nil=>simp at V0
  |@cons a n ps ns h1 _ ih=>
   cases hv with
   |@cons _ u _ vs' r t=>
    rw [List.map_cons,List.zip_cons_cons] at V0;rcases List.mem_cons.mp V0 with rfl|V0
    ·exact ⟨n,r,h1⟩
    ·exact ih t V0
 let num:Keyed->Nat:=fun p=>match p.2 with
  | .int i _=>i.toNat
  |_=>0
 have K9:∀ p∈xs.toList,RelV (.int (num p:Nat)) p.2/\tupKeyC h (fun _=>false) p.1=some [Sum.inl (kx (num p)),Sum.inl ((num p:Nat):Int)]:=by
  intro p hm;obtain ⟨n,⟨t,e⟩,k⟩:=all p hm;have en:num p=n:=by
   show (match p.2 with| .int i _=>i.toNat|_=>0)=n;rw [e];rfl
  rw [en];exact ⟨⟨t,e⟩,k⟩
 refine ⟨xs.toList.map num,?_,?_,?_⟩
 ·have e1:((ps.map Value.ref).zip vs).map num=ns:=by
   have hl:ps.length=ns.length:=hk.length;clear hp hs all K9
   induction hk generalizing vs with
   |nil=>cases hv;rfl
   |@cons a n ps ns h1 t ih=>
    cases hv with
    |@cons _ u _ vs' r t'=>
     rw [List.map_cons,List.zip_cons_cons,List.map_cons,ih t' t.length];obtain ⟨tk,rfl⟩:=r;rfl
  rw [<-e1];refine List.Perm.map num ?_;have:=Array.perm_iff_toList_perm.mp hp;rw [ksk_zip] at this;simpa using this
 ·rw [Array.toList_map];have:∀ l:List Keyed,(∀ p∈l,RelV (.int (num p:Nat)) p.2)->Vals (vN (l.map num)) (l.map (·.2)):=by
   intro l
   induction l with
   |nil=>exact fun _=>.nil
   |cons a l ih=>exact fun hl=>.cons (hl a (List.mem_cons_self ..)) (ih fun p hp=>hl p (List.mem_cons_of_mem _ hp))
  exact this _ fun p hp=>(K9 p hp).1
 ·rw [List.pairwise_map,List.pairwise_iff_getElem];intro i j hi hj hij;have hi':i<xs.size:=by simpa using hi
  have hj':j<xs.size:=by simpa using hj
  have q:=hs i j (Nat.le_of_lt hij) hj';have ki:=(K9 _ (List.getElem_mem hi)).2;have kj:=(K9 _ (List.getElem_mem hj)).2;have e1:KK (tupKindC h (fun _=>false)) xs i=[Sum.inl (kx (num xs.toList[i])),Sum.inl ((num xs.toList[i]:Nat):Int)]:=by
   unfold KK;rw [show xs[i]? =some xs.toList[i] by rw [<-Array.getElem?_toList];exact List.getElem?_eq_getElem hi];show (tupKeyC h (fun _=>false) _).getD _=_;rw [ki];rfl
  have e2:KK (tupKindC h (fun _=>false)) xs j=[Sum.inl (kx (num xs.toList[j])),Sum.inl ((num xs.toList[j]:Nat):Int)]:=by
   unfold KK;rw [show xs[j]? =some xs.toList[j] by rw [<-Array.getElem?_toList];exact List.getElem?_eq_getElem hj];show (tupKeyC h (fun _=>false) _).getD _=_;rw [kj];rfl
  rw [e1,e2] at q;exact VZ q
theorem HM {H H':Hp} {kx:Nat->Int} {ps:List Addr} {ns:List Nat} (h:Jh H kx ps ns) (e:au H H'):Jh H' kx ps ns:=Paired.dw h fun _ _ z=>e _ _ z
theorem MV {l f:Addr} {vs:List Value} {ns:List Nat} {kx:Nat->Int} {Q:VK} (I:Inv X pins σ H s) (hl:s.heap.IsList l vs.toArray) (hv:Vals (vN ns) vs) (hlen:ns.length<=1000) (turn:S1 X f ns kx H σ)
  (q:∀ H' p out,H p=none->au H H'->H' p=some (.lst (vN out))->out.Perm ns->out.Pairwise (KeyLe kx)->Q (.ref p) H'):
  wpAny (model X.prog X.w) X.A (call (.builtin "sorted") [.ref l] [(Str.ofString "key",.ref f)]) (EP X pins σ Q) X.xe s:=by
 have hvl:vs.length=ns.length:=by rw [<-hv.length,aO]
 have hL:vs.length<=sizeLine:=aT (by lia);refine call_function_entry_kw kind_sorted plain_sorted entry_sorted (ksk_s1 _ _) ?_;unfold Builtin.«sorted»;refine wpAny_bind (m:=checkCount "sorted" 1 1 _) (wpAny_pure ?_);refine wpAny_bind (collect_list hl ?_ hL);refine wpAny_bind (wpAny_newList ?_ hL);have hsz:((s.heap.push (seqObj "list" #[] 0)).update s.heap.objs.size (Obj.mapSeq (· ++vs.toArray))).objs.size=s.heap.objs.size+1:=by
  rw [Heap.size_update,size_push']
 generalize hL0:s.heap.objs.size+1=L at hsz;generalize hh2:((s.heap.push (seqObj "list" #[] 0)).update s.heap.objs.size (Obj.mapSeq (· ++vs.toArray))).push (seqObj "list" vs.toArray 0)=h2;have PJ:h2.get? L=some (seqObj "list" vs.toArray 0):=by
  rw [<-hh2, <-hsz];exact Heap.get?_push_size _ rfl
 have keep:∀ b o,s.heap.get? b=some o->h2.get? b=some o:=fun b o q=>by
  have eW:b<s.heap.objs.size:=Heap.lt_size q;rw [<-hh2,Heap.get?_push_ne _ _ _ (by rw [hsz, <-hL0];exact Nat.ne_of_lt (Nat.lt_succ_of_lt eW)),Heap.get?_update_ne _ _ _ _ (Nat.ne_of_lt eW),Heap.get?_push_ne _ _ _ (Nat.ne_of_lt eW)];exact q
 dsimp only;rw [hsz];have hLs:s.heap.objs.size<=L:=by lia
 refine wpAny_bind (wpAny_holding (wpAny_call_entry_kw slot_list_sort ⟨_,PJ,rfl⟩ entry_list_sort ?body (ksk_l1 _ _)))
 case body=>
  show wpAny (model X.prog X.w) X.A.in1.in1 (Builtin.«list.sort» ⟨[.ref L],[(Str.ofString "key",.ref f)]⟩) _ _ _;rw [ksk_t1];have ack:L<h2.objs.size:=Heap.lt_size PJ;have s1:=Heap.SameBut.update h2 L (Obj.mapSeq fun _=>(#[]:Array Value));obtain ⟨e1,Yh⟩:∃ e1,(h2.update L (Obj.mapSeq fun _=>(#[]:Array Value))).get? L=some (seqObj "list" #[] e1):=⟨_,get?_update_seq PJ fun _=> #[]⟩;unfold ksk_tree;refine wpAny_bind (listItems_at PJ rfl ?_);refine wpAny_bind (listUpdate_at PJ rfl ?_ (by rw [List.size_toArray];exact hL) (Nat.zero_le _));refine wpAny_bind (seqEpoch_at Yh rfl ?_);refine wpAny_bind (wpAny_newTuple ?_ hL);refine wpAny_bind (wpAny_newList ?_ (Nat.zero_le _));refine wpAny_holding ?_;dsimp only;generalize hhA:(h2.update L (Obj.mapSeq fun _=>(#[]:Array Value))).push (seqObj "tuple" vs.toArray 0)=hA;have hoA:hA.get? L=some (seqObj "list" #[] e1):=by rw [<-hhA];exact Heap.get?_push_of_some _ Yh
  have Yi:∀ b o,s.heap.get? b=some o->hA.get? b=some o:=fun b o e=>by
   have eW:b<s.heap.objs.size:=Heap.lt_size e;rw [<-hhA];exact Heap.get?_push_of_some _ ((s1.2 b (Nat.ne_of_lt (Nat.lt_of_lt_of_le eW hLs))).trans (keep b o e))
  have fL:H L=none:=I.cf.fresh hLs;have I1:Inv X pins σ (upd H L (kz L (seqObj "list" #[] e1))) {s with heap:=hA}:=I.laid (t':=s.toks) Yi hLs (EA hoA);have hLH:(upd H L (kz L (seqObj "list" #[] e1))) L=some (kz L (seqObj "list" #[] e1)):=ah;have s01:au H (upd H L (kz L (seqObj "list" #[] e1))):=au.laid fL;generalize upd H L (kz L (seqObj "list" #[] e1))=H1 at I1 hLH s01;have fk:H1 hA.objs.size=none:=I1.fresh;have I2:Inv X pins σ (upd H1 hA.objs.size (.lst [])) {s with heap:=hA.push (seqObj "list" #[] 0)}:=I1.Se (its:=[]) (ys:=[]) (t':=s.toks) .nil (Nat.zero_le _);generalize hA.objs.size=kS at fk I2;generalize hA.push (seqObj "list" #[] 0)=h6 at I2;have V1:(upd H1 kS (.lst [])) kS=some (.lst []):=ah;have oy:au H1 (upd H1 kS (.lst [])):=au.laid fk;generalize upd H1 kS (.lst [])=H2 at I2 V1 oy;have hLk:L≠kS:=aw hLH fk;unfold ksk_rest;refine wpAny_bind (wpAny_rule ?_);rw [List.forIn_toArray];refine wpAny_bind (ksk_fold (fun i s'=>∃ H' ps,Inv X pins σ H' s'/\au H1 (kO kS H')/\H' kS=some (.lst (ps.map V.ref))/\Jh (kO kS H') kx ps (ns.take i)) vs 0 {s with heap:=h6} ⟨H2,[],I2,KY fk oy,V1,.nil⟩ ?step ?done)
  case step=>
   rintro j x s' hx ⟨H',ps,I',s',Sk,ka⟩;rw [Nat.zero_add] at ka ⊢;obtain ⟨n,hn,rn⟩:∃ n,ns[j]? =some n/\RelV (.int (n:Nat)) x:=by
    have hj:j<ns.length:=by rw [<-hvl];exact (List.getElem?_eq_some_iff.mp hx).1
    refine ⟨ns[j],List.getElem?_eq_getElem hj,?_⟩;obtain ⟨u,hu,ru⟩:=Vals.get hv (ME (List.getElem?_eq_getElem hj));rw [hx] at hu;cases hu;exact ru
   refine wpAny_bind (wpAny_attempt (wpAny_mono (turn pins _ H' n x (List.mem_of_getElem? hn) I' (s01.trans (s'.trans aN)) rn) (fun v T4 he=>?_) fun _ _ hF=>hF.elim));obtain ⟨p,rfl,fp,I''⟩:=he
   try dsimp only
   have np:p≠kS:=fun e=>by rw [e,Sk] at fp;cases fp
   have Uv:(upd H' p (.tup [.int (kx n),.int (n:Nat)])) p=some (.tup [.int (kx n),.int (n:Nat)]):=ah;have V2:(upd H' p (.tup [.int (kx n),.int (n:Nat)])) kS=some (.lst (ps.map V.ref)):=by rw [az np.symm];exact Sk
   have s3:au H' (upd H' p (.tup [.int (kx n),.int (n:Nat)])):=au.laid fp;generalize upd H' p (.tup [.int (kx n),.int (n:Nat)])=H3 at I'' Uv V2 s3;obtain ⟨z,its,m,r,Md,e⟩:=I''.BV V2;have jP:ps.length<=1000:=by
    have h1:ps.length=(ns.take j).length:=ka.length;rw [List.length_take] at h1
    lia
   have WV:its.length=ps.length:=by rw [<-Md,List.length_map]
   refine wpAny_bind (listUpdate_at e rfl ?_ (by rw [List.size_toArray,WV];exact aT (by lia)) (by rw [Array.size_push,List.size_toArray,WV];exact Nat.le_succ_of_le (aT (by lia))));have I4:=I''.Oy (its':=its++[.ref p]) (f:=(·.push (.ref p))) (ys:=(ps++[p]).map V.ref) (t':=T4.toks) V2 e (by simp) (by rw [List.map_append];exact r.append (.cons rfl .nil)) (aT (by rw [List.length_map,List.length_append];show _+1<=_;lia));refine wpAny_pure ⟨rfl,upd H3 kS (.lst ((ps++[p]).map V.ref)),ps++[p],I4,?_,ah,?_⟩
   ·rw [iR];exact s'.trans (gE s3)
   ·rw [iR,aG hn];exact Paired.app (HM ka (gE s3)) (.cons (ma np Uv) .nil)
  case done=>
   rintro sN ⟨H',ps,I',s',Sk,ka⟩;rw [Nat.zero_add,List.take_of_length_le (by lia)] at ka;obtain ⟨z,its,m,r,Md,e⟩:=I'.BV Sk
   try dsimp only
   refine wpAny_bind (listItems_at e rfl ?_);have aa7:=OT r;subst aa7;have Yj:H' L=some (kz L (seqObj "list" #[] e1)):=aN _ _ (s' _ _ hLH);have aa8:=Jg I' Yj;have ka':=HM ka aN;obtain ⟨⟨fs,ht⟩,hkk⟩:=OU I' ka';have jP:ps.length=ns.length:=ka.length;refine S0 (fs:=fs) (shape:=fun _=>false) e aa8 hLk.symm (by rw [List.size_toArray,List.length_map,jP,hvl]) hL (by rw [List.toList_toArray];exact ht) (fun v hv=>?_) fun xs hp hs=>?_
   ·rw [List.toList_toArray] at hv;obtain ⟨p,hp,rfl⟩:=List.mem_map.mp hv;obtain ⟨i,hi⟩:=List.mem_iff_getElem?.mp hp;obtain ⟨n,_,h⟩:=Paired.at hkk hi;exact ⟨_,h⟩
   obtain ⟨out,o1,o2,o3⟩:=sorted_out hkk hv hp hs;have ZI:out.length=ns.length:=o1.length_eq;refine ⟨_,rfl,wpAny_pure ⟨_,rfl,?_⟩⟩;have I3:=I'.Oy (its':=[]) (f:=fun _=>(#[]:Array Value)) (ys:=[]) (t':=sN.toks) Sk e rfl .nil (Nat.zero_le _);have hL3:(upd H' kS (.lst [])) L=some (kz L (seqObj "list" #[] e1)):=by rw [az hLk];exact Yj
   have s3:au H (upd H' kS (.lst [])):=fun b o e=>by
    have e1:=s01 _ _ e;rw [az (aw e1 fk)];exact aN _ _ (s' _ _ e1)
   generalize upd H' kS (.lst [])=H3 at I3 hL3 s3;have ho3:(sN.heap.update kS (Obj.mapSeq fun _=>(#[]:Array Value))).get? L=some (seqObj "list" #[] e1):=Jg I3 hL3;have sb:=Heap.SameBut.update (sN.heap.update kS (Obj.mapSeq fun _=>(#[]:Array Value))) L (Obj.mapSeq fun _=>xs.map (·.2));have ZJ:=get?_update_seq ho3 fun _=>xs.map (·.2)
   revert ZJ
   generalize (if ((fun _=>xs.map (·.2)) (#[]:Array Value)).size==(#[]:Array Value).size then e1 else e1+1)=c;intro ZJ;have I4:Inv X pins σ (upd H3 L (.lst (vN out))) {sN with heap:=(sN.heap.update kS (Obj.mapSeq fun _=>(#[]:Array Value))).update L (Obj.mapSeq fun _=>xs.map (·.2))}:=
    I3.write (x:=L) (e:=L) (t':=sN.toks) (by rw [hL3];exact trivial) (.inl rfl) (fun b u hb eb=>(sb.2 b hb).trans eb) ⟨_,ZJ⟩ ⟨aT (by rw [aO];lia),(xs.map (·.2)).toList,c,o2,by rw [Array.toArray_toList];exact ZJ⟩
   exact ⟨.ref L,_,I4,rfl,q _ L out fL (fun b o e=>by rw [az (aw e fL)];exact s3 _ _ e) ah o1 o3⟩
end
def Ab:Arguments:=match ql with
 | .Lambda a _ _ _=>a
 |_=>{posonlyargs:=[],args:=[],vararg:=none,kwonlyargs:=[],kw_defaults:=[],kwarg:=none,defaults:=[]}
def kR:Expr:=match ql with
 | .Lambda _ b _ _=>b
 |_=>.Constant .none 0 ⟨0,0,0,0⟩
def iT:Scope:=match ql with
 | .Lambda _ _ sc _=>sc
 |_=>{kind:= .function,names:=[],isGenerator:=false,isCoroutine:=false}
theorem V3:ql=.Lambda Ab kR iT mq:=rfl
def MW (ca k:Addr) (pm J3:Value):Obj:=PySem.W.kla_obj "<lambda>" gM Ab kR iT [("arena",ca)] pm k J3
theorem S2 {P:Program} {w:World} {H:Hp} {h:Heap} {k:Addr} (e:h.CodeRec (.ref k) gM):cJ P w H h k (qm k):=by
 refine ⟨e,?_,fun h1 h2 e1 kp=>?_⟩
 ·obtain ⟨c,o,vs,t,e1,e2,_⟩:=e;cases e1;exact ⟨o,e2⟩
 ·obtain ⟨c,o,vs,t,e1,e2,r⟩:=e1;cases e1;exact ⟨k,o,vs,t,rfl,kp _ e2,r⟩
section
variable {X:Cx} {pins:List (Addr×Obj)} {σ:L2.St} {H:Hp} {s:Shared}
theorem OV {tb c' f:Addr} {ps LO more:Array Value} {h':Heap} {fo:Obj} {tk:Nat} (I:Inv X pins σ H s) (hT:H tb=some (.CC ps)) (XY:LO=ps++more) (k:∀ b u,b≠tb->s.heap.get? b=some u->h'.get? b=some u) (Ji:h'.get? tb=some {cls:= .none,data:= .fields LO})
  (hc:s.heap.objs.size<=c') (hf:s.heap.objs.size<=f) (ZK:c'≠f) (V4:h'.CodeRec (.ref c') gM) (hfo:h'.get? f=some fo):
  Inv X pins σ (upd (upd (upd H tb (.CC LO)) c' (qm c')) f (kz f fo)) {s with heap:=h',toks:=tk}:=by
 have hts:tb<s.heap.objs.size:=I.cf.lt hT;have old:∀ b,b<s.heap.objs.size->b≠tb->upd (upd (upd H tb (.CC LO)) c' (qm c')) f (kz f fo) b=H b:=fun b hb xk=>by
  rw [az (Nat.ne_of_lt (Nat.lt_of_lt_of_le hb hf)),az (Nat.ne_of_lt (Nat.lt_of_lt_of_le hb hc)),az xk]
 have Yk:upd (upd (upd H tb (.CC LO)) c' (qm c')) f (kz f fo) tb=some (.CC LO):=by
  rw [az (Nat.ne_of_lt (Nat.lt_of_lt_of_le hts hf)),az (Nat.ne_of_lt (Nat.lt_of_lt_of_le hts hc)),ah]
 refine I.un ⟨fun b o e n _ _=>k b o (fun z=>by rw [z,hT] at n;cases n) e,fun b o e n _ _=>⟨o.slots,k b o (fun z=>by rw [z,hT] at n;cases n) e⟩,fun b o e n _=>?_,fun b o e _=>?_,fun b xs e=>?_,fun b o u e=>?_,fun b q e=>?_⟩ fun b o e=>?_
 ·rw [old b (Heap.lt_size e) (fun z=>by rw [z,hT] at n;cases n)];exact n
 ·by_cases hb:b=tb
  ·rw [hb];exact ⟨_,Ji⟩
  ·exact ⟨o,k b o hb e⟩
 ·rw [old b (I.cf.lt e) (fun z=>by rw [z,hT] at e;cases e)];exact e
 ·rw [old b (I.cf.lt e) (fun z=>by rw [z,hT] at e;cases e)];exact e
 ·by_cases hb:b=tb
  ·rw [hb,hT] at e;cases e;rw [hb];exact ⟨more,by rw [Yk,XY]⟩
  ·rw [old b (I.cf.lt e) hb];exact ⟨#[],by rw [e];simp⟩
 ·by_cases h1:b=f
  ·rw [h1,ah] at e;cases e;rw [h1];exact EA hfo
  ·by_cases h2:b=c'
   ·rw [h2,az ZK,ah] at e;cases e;rw [h2];exact S2 V4
   ·by_cases h3:b=tb
    ·rw [h3,Yk] at e;cases e;rw [h3];exact Ji
    ·have e':H b=some o:=by
      rw [az h1,az h2,az h3] at e;exact e
     refine (I.cf b o e').LQ (fun c u ZL ec=>k c u (fun z=>?_) ec) (fun c q=>?_) fun c xs q=>?_
     ·rcases ZL with rfl|ZL
      ·exact h3 z
      ·rw [z,hT] at ZL;cases ZL
     ·rw [old c (I.cf.lt q) (fun z=>by rw [z,hT] at q;cases q)];exact q
     ·rw [old c (I.cf.lt q) (fun z=>by rw [z,hT] at q;cases q)];exact q
def aa9 (tb ca:Addr):TE:=fun σ H Q=>∃ ps,H tb=some (.CC ps)/\TriplesOk ps.toList/\(∀ cv,codeAmong mq ps.toList=some cv->∃ k,cv=.ref k/\H k=some (qm k))/\
 ∀ H' f k LO pm J3,H f=none->Kp [tb] H H'->H' f=some (kz f (MW ca k pm J3))->H' k=some (qm k)->H' tb=some (.CC LO)->TriplesOk LO.toList->codeAmong mq LO.toList=some (.ref k)->(H k=none∨codeAmong mq ps.toList=some (.ref k))->Q (.ref f) H'
theorem BA {ca:Addr} (OW:X.env.cells.lookup ("arena":Str)=some ca):closureFor iT X.env=pure [(("arena":Str),ca)]:=by
 rw [C7 (fun y hy hf=>?_)]
 ·show pure (bI X.env.cells [(("number":Str),NameKind.local),(("arena":Str),NameKind.free)] [])=_;unfold bI;rw [if_neg (by decide)];unfold bI;rw [if_pos (by decide),OW];unfold bI;rfl
 ·have hy:y∈[(("number":Str),NameKind.local),(("arena":Str),NameKind.free)]:=hy;simp only [List.mem_cons,List.not_mem_nil,or_false] at hy;rcases hy with rfl|rfl
  ·cases hf
  ·exact ⟨ca,OW⟩
theorem V5 {tb c ca:Addr} (HN:X.env.code=.ref c) (C:PySem.W.CodeHd X.base c tb) (B:X.base.BuiltinsAt X.mg tb) (hq:X.env.qual++"<lambda>"=gM) (OW:X.env.cells.lookup ("arena":Str)=some ca):PE X ql (aa9 tb ca):=by
 intro pins s σ H Q I h;obtain ⟨ps,hT,V6,aba,q⟩:=h;rw [V3];refine PySem.W.kla_eval rfl ?_;rw [hq];have hg:s.heap.Ns mainGlobals X.mg:=I.mod.glob.keeps I.bk;have hP:s.heap.get? tb=some (PySem.W.tabObj ps):=I.cf tb _ hT;have hb:s.heap.BuiltinsAt X.mg tb:=by
  obtain ⟨bm,o,b1,b2,b3,b4,b5,r⟩:=B;exact ⟨bm,o,b1,b2,b3,b4,I.bk _ _ b5,r⟩
 have C':PySem.W.CodeHd s.heap c tb:=C.keeps I.bk;have hgP:mainGlobals≠tb:=fun z=>by
  obtain ⟨o,es,ep,e,_⟩:=I.mod.glob;have:=(I.bs _ _ e).2;rw [z,hT] at this;cases this
 cases Uw:codeAmong mq ps.toList with
 |none=>
  refine PySem.W.kla_makeFunction (BA OW) I.ok.glob hg HN C' hP V6 Uw hgP hb fun c' J3 h' tk hx RN eW V4 Ji=>?_
  have ZK:c'≠h'.objs.size:=Nat.ne_of_lt eW;have abb:TriplesOk (ps++ #[rawInt mq.line,rawInt mq.col,.ref c']).toList:=by
   rw [Array.toList_append];exact TriplesOk_snoc _ _ _ _ V6
  have abc:codeAmong mq (ps++ #[rawInt mq.line,rawInt mq.col,.ref c']).toList=some (.ref c'):=by
   rw [Array.toList_append];exact codeAmong_snoc _ V6 Uw
  have fc:H c'=none:=I.cf.fresh RN;have ff:H h'.objs.size=none:=I.cf.fresh (Nat.le_of_lt (Nat.lt_of_le_of_lt RN eW));have ntc:tb≠c':=aw hT fc;have ntf:tb≠h'.objs.size:=aw hT ff;have J:=OV (tk:=tk) (fo:=PySem.W.kla_obj "<lambda>" gM Ab kR iT [("arena",ca)] ((X.mg "__name__").getD .none) c' J3) I hT rfl (fun b u hb e=>Heap.get?_push_of_some _ (hx b u hb e)) (Heap.get?_push_of_some _ Ji) RN (Nat.le_of_lt (Nat.lt_of_le_of_lt RN eW)) ZK (V4.push _) (Heap.get?_push_size _ rfl);refine ⟨.ref h'.objs.size,_,J,rfl,q _ _ c' _ ((X.mg "__name__").getD .none) J3 ff (fun b o e hb=>?_) ah ?_ ?_ abb abc (.inl fc)⟩
  ·have hb:b≠tb:=fun z=>hb (List.mem_singleton.mpr z)
   rw [az (aw e ff),az (aw e fc),az hb];exact e
  ·rw [az ZK,ah]
  ·rw [az ntf,az ntc,ah]
 |some cv=>
  obtain ⟨k,rfl,hk⟩:=aba cv Uw;refine PySem.W.kla_makeFunctionHit (BA OW) I.ok.glob hg HN C' hP V6 Uw hb fun J3 h' tk kp hsz=>?_
  have ff:H h'.objs.size=none:=I.cf.fresh hsz;have J:=I.laid (t':=tk) (a:=h'.objs.size) (o:=kz h'.objs.size (PySem.W.kla_obj "<lambda>" gM Ab kR iT [("arena",ca)] ((X.mg "__name__").getD .none) k J3)) (fun b u e=>Heap.get?_push_of_some _ (kp b u e)) hsz (EA (Heap.get?_push_size _ rfl));refine ⟨.ref h'.objs.size,_,J,rfl,q _ _ k ps ((X.mg "__name__").getD .none) J3 ff (fun b o e hb=>?_) ah ?_ ?_ V6 Uw (.inr Uw)⟩
  ·rw [az (aw e ff)];exact e
  ·rw [az (aw hk ff)];exact hk
  ·rw [az (aw hT ff)];exact hT
end
def Jj (L f k ca:Addr):Env:=PySem.W.envX gM iT L f (.ref k) [(("arena":Str),ca)]
def N4 (X:Cx) (s:Shared) (H:Hp) (f k ca:Addr):Cx where
 prog:=X.prog
 w:=X.w
 K:=X.K
 mg:=X.mg
 base:=X.base
 A:=X.A.in1.in1.deeper (Jj s.heap.objs.size f k ca)
 N:=["arena","number"]
 Fs:=s
 WD:=H
 env:=Jj s.heap.objs.size f k ca
 outer:=X.stack
 stack:=Jj s.heap.objs.size f k ca::X.stack
 ex:=[]
 calm:=true
 fn:=fun _=>false
 pn:=[]
 xe:=fun _ _=>False
section
variable {X:Cx} {pins:List (Addr×Obj)} {σ:L2.St} {H:Hp} {s:Shared}
theorem S3 {f k ca a:Addr} {n:Nat} {u:Value} {h1:Heap} {tk:Nat} (I:Inv X pins σ H s) (hd:X.A.handled=none) (ru:RelV (.int (n:Nat)) u) (OX:h1.Ns s.heap.objs.size fun x=>[(("number":Str),u)].reverse.lookup x) (kp:∀ b o,s.heap.get? b=some o->h1.get? b=some o)
  (qz:s.heap.IsCell ca (some (.ref a))) (u0:H ca=none):Inv (N4 X s H f k ca) [] [some (.ref a),some (.int (n:Nat))] H {s with heap:=h1,toks:=tk}:=by
 have e0:=I.U8.in1.in1;have lk:∀ {x:Str} {c:Addr},([(("arena":Str),ca)]:List (Str×Addr)).lookup x=some c->x="arena"/\c=ca:=fun {x c} e=>by
  rw [List.lookup_cons] at e;cases hb:x==("arena":Str) with
  |true=>rw [hb] at e;exact ⟨eq_of_beq hb,(Option.some.inj e).symm⟩
  |false=>rw [hb] at e;cases e
 have PZ:∀ b:Addr,b∉(N4 X s H f k ca).ex:=fun b z=>absurd (show b∈([]:List Addr) from z) (by simp)
 have cellK:h1.IsCell ca (some (.ref a)):=by
  obtain ⟨o,e,d⟩:=qz;exact ⟨o,kp _ _ e,d⟩
 refine ⟨⟨e0.mod,rfl,rfl,rfl,Nat.le_refl _,fun x y c h1 h2=>?_,fun x hx=>?_,fun x c h _=>(by cases h),fun _=>hd,Around.frames_deeper e0.frames,.inr ⟨rfl,rfl⟩,fun b z=>absurd z (PZ b),e0.bs,e0.Pq,fun b _ _=>PZ b,fun b z=>absurd z (PZ b),e0.xl,e0.RS⟩,
  rfl,e0.bare,Un.kept kp,⟨_,OX,fun i x v e1 e2 e3=>?_⟩,fun x c e=>?_,e0.cf.fresh (Nat.le_refl _),fun x c e=>?_,fun p hp=>absurd (show p∈([]:List (Addr×Obj)) from hp) (by simp),e0.cf.kept kp,rfl⟩
 ·rw [(lk h1).1,(lk h2).1]
 ·refine ⟨ca,?_⟩;have hx:([(("number":Str),NameKind.local),(("arena":Str),NameKind.free)]:List (Str×NameKind)).lookup x=some .cell∨([(("number":Str),NameKind.local),(("arena":Str),NameKind.free)]:List (Str×NameKind)).lookup x=some .free:=hx;rw [List.lookup_cons,List.lookup_cons] at hx;show ([(("arena":Str),ca)]:List (Str×Addr)).lookup x=some ca;rw [List.lookup_cons];cases h1:x==("number":Str) with
  |true=>rw [h1] at hx;rcases hx with h|h<;>cases h
  |false=>
   rw [h1] at hx;cases h2:x==("arena":Str) with
   |true=>rfl
   |false=>rw [h2] at hx;rcases hx with h|h<;>cases h
 ·match i,e1,e2 with
  |0,e1,e2=>
   have ex:("arena":Str)=x:=Option.some.inj e1;have ev:V.ref a=v:=Option.some.inj (Option.some.inj e2);subst ex ev;exact ⟨.ref a,rfl,.inr ⟨.inr rfl,ca,rfl,cellK⟩⟩
  |1,e1,e2=>
   have ex:("number":Str)=x:=Option.some.inj e1;have ev:V.int (n:Nat)=v:=Option.some.inj (Option.some.inj e2);subst ex ev;exact ⟨u,ru,.inl ⟨rfl,rfl⟩⟩
  |i+2,e1,_=>cases e1
 ·rw [(lk e).2];exact ⟨_,cellK⟩
 ·rw [(lk e).2];exact u0
theorem QW {f k ca a:Addr} {n:Nat} {u pm J3:Value} {t:TE} {Q:VK} {kk:Nat} (hr:fP kk X.A) (I:Inv X pins σ H s) (ru:RelV (.int (n:Nat)) u) (hf:H f=some (kz f (MW ca k pm J3))) (hk:H k=some (qm k)) (qz:s.heap.IsCell ca (some (.ref a))) (u0:H ca=none)
  (ht:PE (N4 X s H f k ca) kR t) (q:t [some (.ref a),some (.int (n:Nat))] H Q):
  wpAny (model X.prog X.w) X.A.in1.in1 (call (.ref f) [u]) (fun v s'=>EP X pins σ Q v s') (fun _ _=>False) s:=by
 have hd:=hr.hd;refine wpAny_call (codeAny_mono (R:=fun r s'=>match r with| .ok (.ret v)=>EP X pins σ Q v s'|_=>False) ?_ fun r s' hq=>?_)
 ·refine PySem.W.kla_callFunE (fd:=PySem.W.kla_fn "<lambda>" gM Ab kR iT [("arena",ca)] pm (.ref k) J3) (by have:=hr.dp;show X.A.depth<_;lia) (Jg I hf) rfl rfl rfl rfl (I.cf k _ hk).1 ?_;rw [show bindArgs (PySem.W.kla_fn "<lambda>" gM Ab kR iT [("arena",ca)] pm (.ref k) J3) ⟨[u],[]⟩=pure [(("number":Str),u)] from rfl];refine wpAny_pure (wpAny_newFunctionEnv (show ∀ x∈iT.names,x.2≠.cell by decide+kernel) (fun x hx=>?_) (fun h1 OX hsb=>⟨?_,?_⟩) rfl)
  ·rw [List.mem_singleton.mp hx];rfl
  ·exact I.nolimit.fresh _ hsb
  ·have kp:∀ b o,s.heap.get? b=some o->h1.get? b=some o:=fun b o e=>hsb.extBut b o (Nat.ne_of_lt (Heap.lt_size e)) (Heap.get?_push_of_some _ e)
   show codeAny _ _ (.expr kR (Jj s.heap.objs.size f k ca)) _ _;have J:=S3 (f:=f) (k:=k) (tk:=s.toks+[(("number":Str),u)].length) I hd ru OX kp qz u0;refine PySem.W.kla_codeExpr (wpAny_mono (ht [] _ _ _ Q J q) (fun v s' h'=>?_) fun _ _ z=>False.elim z);obtain ⟨x,H',J',rv,qv⟩:=h';exact ⟨x,H',I.TQ (ch:=[]) J'.os J'.base J'.cf J'.bare (fun b z=>absurd z (by simp)),rv,qv⟩
 ·cases r with
  |error e=>exact hq
  |ok fl=>
   cases fl with
   |ret v=>exact hq
   |next=>exact hq
   |brk=>exact hq
   |cont=>exact hq
end
end Fb
namespace Fb
open PySem PySem.Spec PyProof.Rows L2
section
variable {prog:Program} {w:World} {K:Type} [DecidableEq K] (knd:KeyKind prog w K)
inductive N5 (h:Heap):List (List K)->List Value->Prop
 |nil:N5 h [] []
 |cons {ks:List K} {b:Addr} {CS:List (List K)} {vs:List Value}:IsTupleKey knd h ks b->N5 h CS vs->N5 h (ks::CS) (.ref b::vs)
def gb (h:Heap) (CS:List (List K)) (a:Addr):Prop:=∃ o its n,h.get? a=some o/\o.cls=.type "tuple"/\o.data=.seq its n/\N5 knd h CS its.toList
variable {knd}
theorem N5.same {h:Heap} {x y:List (List K)} {vs:List Value} (hx:N5 knd h x vs):N5 knd h y vs->x=y:=by
 induction hx generalizing y with
 |nil=>intro hy;cases hy;rfl
 |cons h1 _ ih=>
  intro hy;cases hy with
  |cons h2 t2=>rw [h1.inj h2,ih t2]
theorem N5.move {h h':Heap} {x:List (List K)} {vs:List Value} {d:Addr} {o:Obj} {es ep} (ho:h.get? d=some o) (hd:o.data=.dict es ep) (hs:Heap.SameBut d h h') (hx:N5 knd h x vs):N5 knd h' x vs:=by
 induction hx with
 |nil=>exact .nil
 |cons h1 _ ih=>exact .cons (h1.keeps ho hd hs) ih
theorem gb.ty {s:Shared} {x:List (List K)} {a:Addr} (h:gb knd s.heap x a):s.TypeIs (.ref a) "tuple":=let ⟨o,_,_,ho,hc,_⟩:=h;⟨o,ho,hc⟩
theorem gb.same {h:Heap} {a:Addr} {x y:List (List K)} (hx:gb knd h x a) (hy:gb knd h y a):x=y:=by
 obtain ⟨o,its,n,e,_,d,i⟩:=hx;obtain ⟨o',its',n',e',_,d',i'⟩:=hy;rw [e] at e';cases e';rw [d] at d';cases d';exact i.same i'
theorem gb.move {h h':Heap} {x:List (List K)} {a d:Addr} {o:Obj} {es ep} (hx:gb knd h x a) (ho:h.get? d=some o) (hd:o.data=.dict es ep) (hs:Heap.SameBut d h h'):gb knd h' x a:=by
 obtain ⟨o',its,n,e,c,dd,i⟩:=hx;have xk:a≠d:=fun z=>by
  subst z;rw [e] at ho;cases ho;rw [dd] at hd;cases hd
 exact ⟨o',its,n,(hs.2 a xk).trans e,c,dd,i.move ho hd hs⟩
def EB (knd:KeyKind prog w K) (x:List (List K)):Int:=reduceHash (Builtin.Tuple.tupleHashOf (x.map (tupleKeyHash knd)))
def EC (x:List (List K)):Nat:=(x.map fun (z:List K)=>z.length+1).sum+1
variable {A:Around} {E:Value->Shared->Prop} {s:Shared}
theorem OY {x:List (List K)} {a:Addr} {Q:Int->Shared->Prop} (hu:A.units+8<cLine) (hk:gb knd s.heap x a) (h:Q (EB knd x) {s with toks:=s.toks+EC x}):wpAny (model prog w) A (pyHash (.ref a)) Q E s:=by
 have hT:=hk.ty;obtain ⟨o,its,n,ho,_,hd,hi⟩:=hk;unfold pyHash
 first|unfold pyHashByItsType|skip
 first|refine wpAny_bind (wpAny_cRoomFor_or (.inr (show A.units<cLine by lia)) ?_)|skip
 refine wpAny_bind (wpAny_specialOf hT F.slot_tuple_hash.lookup ?_);show wpAny _ _ (if (some (Value.builtin "tuple.__hash__")==some Value.none)=true then _ else _) Q E s;rw [if_neg (by rw [beq_builtin_none];exact Bool.false_ne_true)];refine wpAny_bind (wpAny_specialOf hT F.slot_tuple_hash.lookup ?_);show wpAny _ _ (callSpecialIfBoundUnlessNone? (.ref a) "__hash__" _>>=_) Q E s;refine wpAny_bind (wpAny_callSpecialIfBoundUnlessNone?_slot hT F.slot_tuple_hash (wpAny_call_entry F.slot_tuple_hash hT F.entry_tuple_hash ?_ (F.args_tuple_hash_1 _)));show wpAny _ _ (Builtin.Tuple.tupleItemsOf (.ref a)>>=_) _ _ s;refine wpAny_bind (wpAny_tupleItemsOf ho hd ?_);refine wpAny_bind ?_;rw [<-Array.forIn_toList];refine wpAny_forIn_list _
  (fun rest (b:Array Int) s'=>∃ done left,x=done++left/\N5 knd s.heap left rest/\b.toList=done.map (tupleKeyHash knd)/\s'={s with toks:=s.toks+(done.map fun (z:List K)=>z.length+1).sum})
  _ ?_ ?_ _ _ ⟨[],x,rfl,hi,rfl,rfl⟩
 ·rintro y rest b s' ⟨done,left,rfl,hl,hb,rfl⟩;cases hl with
  |@cons ks c Yl _ h1 PF=>
   refine wpAny_bind (wpAny_pyHash_tuple (by show A.units+1<cLine;lia) h1 ?_);have et:({s with toks:=s.toks+(done.map fun (z:List K)=>z.length+1).sum+(ks.length+1)}:Shared)={s with toks:=s.toks+((done++[ks]).map fun (z:List K)=>z.length+1).sum}:=by
    rw [List.map_append,List.sum_append];simp [Nat.add_assoc]
   first
    |exact wpAny_pure ⟨done++[ks],Yl,by simp,PF,by simp [hb],et⟩
    |exact wpAny_bind (wpAny_pure (wpAny_pure ⟨done++[ks],Yl,by simp,PF,by simp [hb],et⟩))
 ·rintro b s' ⟨done,left,rfl,hl,hb,rfl⟩;cases hl;rw [List.append_nil] at h;show wpAny _ _ (retInt (Builtin.Tuple.tupleHashOf b.toList)) _ _ _;rw [hb];refine wpAny_ret_mkInt ?_;have hz:=h;unfold EB reduceHash EC at hz;show wpAny _ _ (if (decide (-(2:Int) ^ 63<=Builtin.Tuple.tupleHashOf (done.map (tupleKeyHash knd)))&&decide (Builtin.Tuple.tupleHashOf (done.map (tupleKeyHash knd))<2 ^ 63))=true then _ else _) Q E _;by_cases hr:(decide (-(2:Int) ^ 63<=Builtin.Tuple.tupleHashOf (done.map (tupleKeyHash knd)))&&decide (Builtin.Tuple.tupleHashOf (done.map (tupleKeyHash knd))<2 ^ 63))=true
  ·rw [if_pos hr] at hz ⊢;exact wpAny_pure (by simpa [Nat.add_assoc] using hz)
  ·rw [if_neg hr] at hz ⊢;exact wpAny_bind (wpAny_rule (wpAny_pure (by simpa [Nat.add_assoc] using hz)))
theorem La {x y:List (List K)} {a b:Addr} {R:Fin->Shared->Prop} (hu:A.units+4<cLine) (hx:gb knd s.heap x a) (hy:gb knd s.heap y b) (h:R (.done (.ret (.bool (decide (x=y))))) s):
  wpAny (model prog w) A (Builtin.«tuple.__eq__» ⟨[.ref a,.ref b],[]⟩) R E s:=by
 have hTb:=hy.ty;obtain ⟨oa,xs,na,hoa,_,hda,hia⟩:=hx;obtain ⟨ob,ys,nb,hob,_,Ov,hib⟩:=hy;show wpAny _ _ (isInstance (.ref b) (.type "tuple")>>=_) _ _ s;refine wpAny_bind (wpAny_isInstance hTb isSubtype_tuple_tuple ?_);simp only [Bool.not_true,Bool.false_eq_true,if_false];refine wpAny_bind (wpAny_tupleItemsOf hoa hda ?_);refine wpAny_bind (wpAny_tupleItemsOf hob Ov ?_);refine wpAny_bind ?_;refine wpAny_forIn_list _
  (fun rest r s'=>r.1=none/\s'=s/\∃ x' y' Ym Yn,rest=List.zip Ym Yn/\N5 knd s.heap x' Ym/\N5 knd s.heap y' Yn/\decide (x'=y')=decide (x=y)/\(Ym.length==Yn.length)=(xs.size==ys.size))
  _ ?_ ?_ _ _ ⟨rfl,rfl,x,y,xs.toList,ys.toList,rfl,hia,hib,rfl,by simp⟩
 ·rintro ⟨u,v⟩ rest r s' ⟨hr,rfl,x',y',Ym,Yn,hz,hx',ZM,S4,hlen⟩;cases hx' with
  |nil=>simp at hz
  |@cons k1 c1 x'' abd h1 abe=>
   cases ZM with
   |nil=>simp at hz
   |@cons k2 c2 y'' abf h2 abg=>
    simp only [List.zip_cons_cons,List.cons.injEq,Prod.mk.injEq] at hz;obtain ⟨⟨rfl,rfl⟩,rfl⟩:=hz;refine wpAny_bind (wpAny_eqBool_tuple (show A.units<cLine by lia) h1 h2 ?_);by_cases hk:k1=k2
    ·subst hk;rw [decide_eq_true rfl];simp only [Bool.not_true,Bool.false_eq_true,if_false];refine wpAny_pure ⟨rfl,rfl,x'',y'',abd,abf,rfl,abe,abg,?_,by simpa using hlen⟩;rw [<-S4];by_cases hxy:x''=y''
     ·simp [hxy]
     ·simp [hxy]
    ·rw [decide_eq_false hk];simp only [Bool.not_false,if_true];have hf:decide (x=y)=false:=by rw [<-S4];simp [hk]
     rw [hf] at h;exact wpAny_bind (wpAny_pure (wpAny_pure (wpAny_pure h)))
 ·rintro ⟨r1,r2⟩ s' ⟨hr,rfl,x',y',Ym,Yn,hz,hx',ZM,S4,hlen⟩;simp only at hr;subst hr;refine wpAny_pure ?_;have abh:(xs.size==ys.size)=decide (x=y):=by
   rw [<-S4, <-hlen];cases hx' with
   |nil=>
    cases ZM with
    |nil=>simp
    |cons _ _=>simp
   |cons _ _=>
    cases ZM with
    |nil=>simp
    |cons _ _=>simp at hz
  show R (.done (.ret (.bool (xs.size==ys.size)))) s';rw [abh];exact h
theorem S5 {x y:List (List K)} {a b:Addr} {Q:Bool->Shared->Prop} (hu:A.units+8<cLine) (hx:gb knd s.heap x a) (hy:gb knd s.heap y b) (h:Q (decide (x=y)) s):wpAny (model prog w) A (eqBool (.ref a) (.ref b)) Q E s:=by
 unfold eqBool
 try with_reducible refine wpAny_holding ?_
 show wpAny _ _ (if (Value.ref a==Value.ref b)=true then _ else _) Q E s;by_cases hab:(Value.ref a==Value.ref b)=true
 ·rw [if_pos hab];have e:a=b:=by have:=eq_of_beq hab;injection this
  subst e;obtain rfl:=hx.same hy;exact wpAny_bind (wpAny_rule (wpAny_pure (by simpa using h)))
 ·rw [if_neg hab];exact wpAny_bind (wpAny_richCompare_same_room (op:= .Eq) hx.ty hy.ty F.slot_tuple_eq
   (wpAny_call_entry F.slot_tuple_eq hx.ty F.entry_tuple_eq (La (by show A.units+1+4<cLine;lia) hx hy ⟨_,rfl,(fun e=>nomatch e),wpAny_truthy_bool h⟩) (F.args_tuple_eq_2 _ _)) (by lia))
theorem QX {ks:List K} {a:Addr} {n:Nat} {Q:Bool->Shared->Prop} (hk:IsTupleKey knd s.heap ks a) (h:Q true s):wpAny (model prog w) A (eqIsQuiet (n+1) (.ref a)) Q E s:=by
 have hT:=hk.typeIs;obtain ⟨o,its,m,ho,_,hd,hi⟩:=hk;unfold eqIsQuiet;refine wpAny_bind (wpAny_specialOf hT F.slot_tuple_eq.lookup ?_);show wpAny _ _ (isInstance (.ref a) (.type "tuple")>>=_) _ _ s;refine wpAny_bind (wpAny_isInstance hT isSubtype_tuple_tuple ?_);simp only [Bool.not_true,Bool.false_eq_true,if_false];refine wpAny_bind (wpAny_seqItems ho hd ?_);refine wpAny_bind ?_;show wpAny _ _ (forIn its _ _) _ _ s;rw [<-Array.forIn_toList];refine wpAny_forIn_list _ (fun rest r s'=>r.1=none/\s'=s/\∀ v∈rest,carriedByValue v=true) _ ?_ ?_ _ _ ⟨rfl,rfl,hi.byValue⟩
 ·rintro v rest r s' ⟨hr,rfl,jf⟩;rw [eqIsQuiet_byValue _ (jf v List.mem_cons_self)];refine wpAny_bind (wpAny_pure ?_);simp only [Bool.not_true,Bool.false_eq_true,if_false];exact wpAny_pure ⟨rfl,rfl,fun u hu'=>jf u (List.mem_cons_of_mem _ hu')⟩
 ·rintro ⟨r1,r2⟩ s' ⟨hr,rfl,_⟩;simp only at hr;subst hr;exact wpAny_pure h
theorem MX {x:List (List K)} {a:Addr} {Q:Bool->Shared->Prop} (hk:gb knd s.heap x a) (h:Q true s):wpAny (model prog w) A (eqIsQuiet 8 (.ref a)) Q E s:=by
 have hT:=hk.ty;obtain ⟨o,its,m,ho,_,hd,hi⟩:=hk;unfold eqIsQuiet;refine wpAny_bind (wpAny_specialOf hT F.slot_tuple_eq.lookup ?_);show wpAny _ _ (isInstance (.ref a) (.type "tuple")>>=_) _ _ s;refine wpAny_bind (wpAny_isInstance hT isSubtype_tuple_tuple ?_);simp only [Bool.not_true,Bool.false_eq_true,if_false];refine wpAny_bind (wpAny_seqItems ho hd ?_);refine wpAny_bind ?_;show wpAny _ _ (forIn its _ _) _ _ s;rw [<-Array.forIn_toList];refine wpAny_forIn_list _ (fun rest r s'=>r.1=none/\s'=s/\∃ left,N5 knd s.heap left rest) _ ?_ ?_ _ _ ⟨rfl,rfl,x,hi⟩
 ·rintro v rest r s' ⟨hr,rfl,left,hl⟩;cases hl with
  |cons h1 PF=>
   refine wpAny_bind (QX (n:=6) h1 ?_);simp only [Bool.not_true,Bool.false_eq_true,if_false];exact wpAny_pure ⟨rfl,rfl,_,PF⟩
 ·rintro ⟨r1,r2⟩ s' ⟨hr,rfl,_⟩;simp only at hr;subst hr;exact wpAny_pure h
end
def yU {prog:Program} {w:World} {K:Type} [DecidableEq K] (knd:KeyKind prog w K):HeapKind prog w (List (List K)) where
 is:=gb knd
 hash:=EB knd
 draws:=EC
 room:=fun A=>A.units+8<cLine
 inj:=fun hx hy=>hx.same hy
 keeps:=fun x ho hd hs=>x.move ho hd hs
 pyHash:=fun hu hk h=>OY hu hk h
 eqBool:=fun hu hx hy h=>S5 hu hx hy h
 quiet:=fun hk h=>MX hk h
abbrev NX:=List (List (List Key)×Addr×Value)
def DN (P:Program) (w:World) (a:Addr) (xs:NX):HO:= .ext fun h=>∃ o es ep,h.get? a=some o/\o.ExactDict/\o.data=.dict es ep/\es.toList=xs.map (entryOfKey (yU (bO P w)))/\(xs.map (·.1)).Nodup
def uT (K:PySem.W.Frag) (H:Hp) (CS:List (List Key)) (b:Addr):Prop:=∃ as:List Addr,H b=some (.tup (as.map V.ref))/\Paired (fun c ks=>pO K H c (ks.map kV)) as CS
theorem uT.mono {K:PySem.W.Frag} {H H':Hp} {CS:List (List Key)} {b:Addr} (h:uT K H CS b) (s:au H H'):uT K H' CS b:=let ⟨as,e,r⟩:=h;⟨as,s _ _ e,Paired.dw r fun _ _ z=>au.tup s z⟩
section
variable {X:Cx} {pins:List (Addr×Obj)} {σ:L2.St} {H:Hp} {s:Shared}
theorem Jk {CS:List (List Key)} {b:Addr} (I:Inv X pins σ H s) (h:uT X.K H CS b):gb (bO X.prog X.w) s.heap CS b:=by
 obtain ⟨as,e,r⟩:=h;obtain ⟨hz,its,rv,o,h1,h2,n,h3⟩:=(show cJ X.prog X.w H s.heap b (.tup (as.map V.ref)) from I.cf b _ e);refine ⟨o,its.toArray,n,h1,h2,h3,?_⟩;rw [List.toList_toArray];clear e h1 h2 h3 hz
 induction r generalizing its with
 |nil=>cases rv;exact .nil
 |@cons c ks as CS hc _ ih=>
  cases rv with
  |@cons _ u _ us ru rt=>
   cases ru;refine .cons ?_ (ih us rt);obtain ⟨it2,r2,⟨o2,e2,c2,n2,d2⟩,_⟩:=I.tuple hc;exact ⟨o2,it2.toArray,n2,e2,c2,d2,by rw [List.toList_toArray];exact zy r2⟩
theorem QY {a:Addr} {xs:NX} (I:Inv X pins σ H s) (h:H a=some (DN X.prog X.w a xs)) (hx:∀ x∈xs,uT X.K H x.1 x.2.1):s.heap.DictOfH (yU (bO X.prog X.w)) a xs:=by
 obtain ⟨o,es,ep,h1,h2,h3,h4,h5⟩:=(I.cf a _ h).1;exact ⟨o,es,ep,h1,h2,h3,h4,fun x m=>Jk I (hx x m),h5⟩
theorem Ux {P:Program} {w:World} {H':Hp} {h:Heap} {a:Addr} {xs:NX} (d:h.DictOfH (yU (bO P w)) a xs):cJ P w H' h a (DN P w a xs):=by
 obtain ⟨o,es,ep,h1,h2,h3,h4,_,h5⟩:=d;refine ⟨⟨o,es,ep,h1,h2,h3,h4,h5⟩,⟨o,h1⟩,fun g1 g2 e k=>?_⟩;obtain ⟨o',W7,W8,q1,r⟩:=e;exact ⟨o',W7,W8,k _ q1,r⟩
theorem S6 {a:Addr} {xs:NX} {P:Program} {w:World} (I:Inv X pins σ H s) (h:H a=some (DN P w a xs)):s.TypeIs (.ref a) "dict"/\∀ b,Value.ref a=.ref b->∃ ob,s.heap.get? b=some ob/\ob.dict=none:=by
 obtain ⟨o,es,ep,h1,h2,h3,h4,h5⟩:=(I.cf a _ h).1;refine ⟨⟨o,h1,h2.1⟩,fun b e=>?_⟩;cases e;exact ⟨o,h1,h2.2.1⟩
end
section
variable {X:Cx} {o e f i value:Expr} {apos r9 pos pos':Pos} {td ty tx tv:TE} {K:PySem.W.Frag} {P:Program} {w:World}
def Yo (P:Program) (w:World):TE:=fun _ H Q=>∀ p,H p=none->(p==sysModules)=false->Q (.ref p) (upd H p (DN P w p []))
theorem S7 (h1:X.prog=P:=by rfl) (h2:X.w=w:=by rfl):PE X (.Dict [] [] pos) (Yo P w):=by
 subst h1 h2;intro pins s σ H Q I h;have hb:=I.big;exact wpAny_Dict_empty ⟨.ref s.heap.objs.size,_,I.laid (a:=s.heap.objs.size) (o:=DN X.prog X.w s.heap.objs.size []) (t':=s.toks) (fun _ _ q=>Heap.get?_push_of_some _ q) (Nat.le_refl _) (Ux (Heap.DictOfH.new _)),rfl,h _ (I.cf.fresh (Nat.le_refl _)) (beq_eq_false_iff_ne.mpr (Ne.symm (Nat.ne_of_lt hb)))⟩
def Yp (K:PySem.W.Frag) (P:Program) (w:World) (H:Hp) (a:Addr) (y:V) (R:Option Value->Prop):Prop:=∃ xs CS b,y=.ref b/\H a=some (DN P w a xs)/\(a==sysModules)=false/\(∀ x∈xs,uT K H x.1 x.2.1)/\uT K H CS b/\R ((atKey xs CS).map (·.2))
def Uy (r:Option Value) (z v:V):Prop:=match r with
 |some u=>RelV v u
 |none=>v=z
def V7 (K:PySem.W.Frag) (P:Program) (w:World) (td ty tx:TE):TE:=fun σ H Q=>td σ H fun x H1=>∃ a xs,x=.ref a/\H1 a=some (DN P w a xs)/\ty σ H1 fun y H2=>tx σ H2 fun z H3=>Yp K P w H3 a y fun r=>∃ v,Uy r z v/\Q v H3
theorem QZ {k:Nat} (hr:fP k X.A) (ho:PE X o td) (he:PE X e ty) (hf:PE X f tx) (m:M2 X o "get" apos e f r9) (h0:X.K=K:=by rfl) (h1:X.prog=P:=by rfl) (h2:X.w=w:=by rfl):PE X (.Call (.Attribute o "get" apos) [e,f] [] r9) (V7 K P w td ty tx):=by
 subst h0 h1 h2;intro pins s σ H Q I h;refine wpAny_Call_method m.base m.XE m.line PySem.F.plainAttrs_dict PySem.F.slot_dict_get PySem.F.type_dict_get (cY (ho pins s σ H _ I h) fun u s1 ⟨x,H1,I1,rx,a,xs0,ex,d,q1⟩=>?_);subst ex;cases rx;obtain ⟨t1,t2⟩:=S6 I1 d;refine ⟨t1,t2,?_⟩;rw [m.trees];refine Calls.callWith_builtin rfl (Calls.evalArgs_plain (Calls.spliced_cons (cY (he pins s1 σ H1 _ I1 q1) fun iv s2 ⟨y,H2,I2,ry,q2⟩=>
  Calls.spliced_cons (cY (hf pins s2 σ H2 _ I2 q2) fun fv s3 ⟨z,H3,I3,rz,xs,CS,b,ey,ha,hd,hx,hk,v,hv,q3⟩=>Calls.spliced_nil ?_))))
 subst ey;cases ry;have dd:=QY I3 ha hx;have hun:=hr.un;refine call_meetsIn PySem.F.slot_dict_get dd.typeIs PySem.F.entry_dict_get (PySem.F.args_dict_get_3 _ _ _) (meetsH_dict_get_default (yU (bO X.prog X.w)) a b hd fv) ⟨by show X.A.units+1+8<cLine;lia,CS,xs,Jk I3 hk,dd,?_⟩;refine ⟨v,H3,I3.tok _,?_,q3⟩;cases hq:(atKey xs CS).map (·.2) with
 |none=>rw [hq] at hv;have hv:v=z:=hv;rw [hv];exact rz
 |some u=>rw [hq] at hv;exact hv
def Yq (K:PySem.W.Frag) (P:Program) (w:World) (td ty:TE):TE:=fun σ H Q=>td σ H fun x H1=>ty σ H1 fun y H2=>∃ a,x=.ref a/\Yp K P w H2 a y fun r=>∃ u v,r=some u/\RelV v u/\Q v H2
theorem S8 {k:Nat} (hr:fP k X.A) (ho:PE X o td) (hi:PE X i ty) (hs:Sn i) (h0:X.K=K:=by rfl) (h1:X.prog=P:=by rfl) (h2:X.w=w:=by rfl):PE X (.Subscript o i pos) (Yq K P w td ty):=by
 subst h0 h1 h2;intro pins s σ H Q I h;refine NH PySem.F.slot_dict_getitem.lookup hs (cY (ho pins s σ H _ I h) fun u s1 ⟨x,H1,I1,rx,q1⟩=>cY (hi pins s1 σ H1 _ I1 q1) fun iv s2 ⟨y,H2,I2,ry,a,ex,xs,CS,b,ey,ha,hd,hx,hk,u',v,hu',hv,q2⟩=>?_);subst ex ey;cases rx;cases ry;have dd:=QY I2 ha hx;have hun:=hr.un;obtain ⟨p,hp,Uv⟩:=Option.map_eq_some_iff.mp hu';refine ⟨dd.typeIs,wpAny_getItem_heap (by show X.A.units+1+8<cLine;lia) (Jk I2 hk) dd hp ?_⟩;rw [Uv];exact ⟨v,H2,I2.tok _,hv,q2⟩
def Yr (K:PySem.W.Frag) (P:Program) (w:World) (td ty tv:TE):TS:=fun D σ H=>tv σ H fun v H1=>td σ H1 fun x H2=>ty σ H2 fun y H3=>∃ a xs CS b,x=.ref a/\y=.ref b/\H3 a=some (DN P w a xs)/\(∀ x∈xs,uT K H3 x.1 x.2.1)/\uT K H3 CS b/\xs.length<sizeLine/\∀ u,RelV v u->D.nx σ (upd H3 a (DN P w a (storedH xs CS b u)))
theorem S9 {k:Nat} (hr:fP k X.A) (ho:PE X o td) (hi:PE X i ty) (hv:PE X value tv) (hs:swapsWith value (some (.Subscript o i pos')) pos.line X.env=pure false) (h0:X.K=K:=by rfl) (h1:X.prog=P:=by rfl) (h2:X.w=w:=by rfl):
  PS X (.Assign [.Subscript o i pos'] value pos) (Yr K P w td ty tv):=by
 subst h0 h1 h2;intro pins s σ H D I h;refine wpAny_Assign_Subscript (cY (hv pins s σ H _ I h) fun r s1 ⟨v,H1,I1,rv,q1⟩=>cY (ho pins s1 σ H1 _ I1 q1) fun u s2 ⟨x,H2,I2,rx,q2⟩=>cY (hi pins s2 σ H2 _ I2 q2) fun iv s3 ⟨y,H3,I3,ry,a,xs,CS,b,ex,ey,ha,hx,hk,hl,q3⟩=>?_) hs;subst ex ey;cases rx;cases ry;have dd:=QY I3 ha hx;have hun:=hr.un;refine wpAny_setItem_heap (hsz:=Nat.le_of_lt hl) (by show X.A.units+1+8<cLine;lia) (Jk I3 hk) dd fun h' RJ hs=>?_
 obtain ⟨q,es,ep,hq,_⟩:=id RJ;exact ⟨σ,_,CG I3 (by rw [ha];exact True.intro) hs ⟨q,hq⟩ (Ux RJ),q3 r rv⟩
theorem OZ {P:Program} {w:World} (h1:X.prog=P:=by rfl) (h2:X.w=w:=by rfl):fq X (.builtin "len") (fun vs H Q=>∃ a xs,vs=[V.ref a]/\H a=some (DN P w a xs)/\(a==sysModules)=false/\xs.length<=1000000/\Q (.int xs.length) H):=by
 subst h1 h2;intro pins s σ H vs us Q I r h;obtain ⟨a,xs,rfl,ha,hd,hl,q⟩:=h;obtain ⟨u,rfl,rx⟩:=vals1 r;cases rx;obtain ⟨o,es,ep,e1,e2,e3,e4,e5⟩:=(I.cf a _ ha).1;have hT:s.TypeIs (.ref a) "dict":=⟨o,e1,e2.1⟩;have hsz:es.size=xs.length:=by rw [<-Array.length_toList,e4,List.length_map]
 have meets:MeetsIn X.prog X.w (Builtin.«dict.__len__» ⟨[.ref a],[]⟩) (fun _ R s=>(∃ o es ep,s.heap.get? a=some o/\o.data=.dict es ep/\es.size=xs.length)/\R (.ok (.ret (.int xs.length s.toks))) {s with toks:=s.toks+1}):=
  .of_wp fun A R s ⟨⟨o,es,ep,ho,abi,hsz⟩,h⟩=>by
   show wpAny _ _ (dictSize a>>=_) _ _ s;unfold dictSize;refine wpAny_bind (wpAny_bind (wpAny_dictEntries ho abi (wpAny_pure ?_)));show wpAny _ _ (Builtin.Dict.pendingCount a>>=_) _ _ s;refine wpAny_bind (wpAny_pendingCount_other hd ?_);refine wpAny_ret_mkInt ?_;rw [Nat.add_zero,hsz];exact h
 refine Calls.call_function_entry kind_len plain_len entry_len (args_len1 _) ?_;unfold Builtin.«len»;refine wpAny_bind (m:=oneArg "len" _) (wpAny_pure ?_);refine wpAny_bind (m:=callSpecial? (.ref a) (Str.ofString "__len__")) (wpAny_callSpecial?_slot (name:=Str.ofString "__len__") hT F.slot_dict_len
  (call_meetsIn F.slot_dict_len hT F.entry_dict_len (F.args_dict_len_1 _) meets ⟨⟨o,es,ep,e1,e3,hsz⟩,?_⟩))
 show wpAny _ _ _ _ _ {s with toks:=s.toks+1};refine wpAny_bind (wpAny_holding (wpAny_pure ?_));refine wpAny_bind (wpAny_letGo ?_);show wpAny _ _ (if ((xs.length:Nat):Int)<0 then _ else _) _ _ _;rw [if_neg (by lia)];show wpAny _ _ (if ((xs.length:Nat):Int)>=2 ^ 63 then _ else _) _ _ _;rw [if_neg (by lia)];exact wpAny_bind (wpAny_mkInt (wpAny_pure ⟨_,rfl,.int xs.length,H,I.tok _,⟨_,rfl⟩,q⟩))
end
end Fb
namespace Fb
open PySem PySem.Spec PyProof.Rows PyProof.Rows.G L2
section
variable {P:Program} {w:World} {K:PySem.W.Frag} {mg:Str->Option Value} {base:Heap} {ad:Ad}
theorem ag.V8 {H H':Hp} {r:Ar} {v:Vbapah.World} {s:Vbapah.State} {LO:Array Value} (A:ag K ad H r v s) (k:Kp [ad.tb] H H') (h:H' ad.tb=some (.CC LO)) (hT:Ex (Out (r.N ad) H') LO):ag K ad H' r v s:=by
 have kM:Kp (r.M ad) H H':=k.mono fun z hz=>by rw [List.mem_singleton.mp hz];exact r.mT
 have o:=bM (Ar.sub kM);obtain ⟨n1,n2,n3,n4,n5,n6,n7,n8,n9,QU,QS⟩:=A.ap;obtain ⟨CQ,p1,p2⟩:=A.pL;obtain ⟨wZ,b1,b2⟩:=A.bor;obtain ⟨FZ,r1,r2⟩:=A.row;obtain ⟨yS,t1,t2⟩:=A.HK;obtain ⟨dx,ei⟩:=A.ins;refine ⟨A.nd,A.WR kM (fun _ h=>h),⟨dx,k.hG ei n4⟩,A.z9.mono o,⟨CQ,k.hG p1 n7,Paired.dw p2 fun _ _ z=>aV.mono z o⟩,⟨wZ,k.hG b1 n9,Paired.dw b2 fun _ _ z=>dq.mono z o⟩,⟨FZ,o _ _ r1,r2.mono o⟩,⟨yS,k.hG t1 QU,t2.mono o⟩,⟨LO,h,hT⟩,?_⟩;have z:=A.rat;cases e:s.rates with
 |none=>rw [e] at z;exact z
 |some rt=>
  rw [e] at z;obtain ⟨q,d,e1,e2,e3,dy,e4⟩:=z;exact ⟨q,d,e1,e2,e3.mono o,dy,k.hG e4 (QS d e2).2.2.2.2⟩
theorem Jl {ones:List Vbapah.One} {l:List Nat} (h:l.Pairwise (KeyLe fun n=> -((Vbapah.scoreAt ones n:Nat):Int))):l.Pairwise (fun i j=>Vbapah.better ones j i=false):=by
 refine h.imp fun {i j} e=>?_
 unfold Vbapah.better;unfold KeyLe at e;cases hb:(decide (Vbapah.scoreAt ones i<Vbapah.scoreAt ones j)||(Vbapah.scoreAt ones j==Vbapah.scoreAt ones i&&decide (j<i))) with
 |false=>rfl
 |true=>
  rw [Bool.or_eq_true,Bool.and_eq_true,decide_eq_true_eq,decide_eq_true_eq,beq_iff_eq] at hb;have e: -((Vbapah.scoreAt ones i:Nat):Int)< -((Vbapah.scoreAt ones j:Nat):Int)∨(-((Vbapah.scoreAt ones i:Nat):Int)= -((Vbapah.scoreAt ones j:Nat):Int)/\i<=j):=e
  lia
theorem Q0:(("in_order":Str)++".<locals>.")++"<lambda>"=gM:=by decide+kernel
def tIn (K:PySem.W.Frag) (ad:Ad):TE:=fun σ H Q=>∃ (r:Ar) (v:Vbapah.World) (s:Vbapah.State) (ns:Addr) (l:List Nat),σ=[some (.ref r.a),some (.ref ns)]/\ag K ad H r v s/\H ns=some (.lst (vN l))/\(∀ i∈l,i<s.ones.length)/\l.length<=100/\
 ∀ H' p,H p=none->H' p=some (.lst (vN (Vbapah.ordered s.ones l)))->Kp [ad.tb] H H'->ag K ad H' r v s->Q (.ref p) H'
theorem Lb {X:Cx} {c ca:Addr} {p1 p2 kp pos:Pos} (T:Tx P w K mg base ad) {kk:Nat} (hr:fP kk X.A) (eP:X.prog=P) (ew:X.w=w) (eK:X.K=K) (em:X.mg=mg) (eb:X.base=base) (hN:X.N=([("arena":Str),("numbers":Str)]:List Str)) (Vo:X.env.scope=af pV) (HN:X.env.code=.ref c) (C:PySem.W.CodeHd base c ad.tb)
  (hq:X.env.qual++"<lambda>"=gM) (OW:X.env.cells.lookup ("arena":Str)=some ca) (hg:Gl X "sorted"):
  PE X (.Call (.Name "sorted" p1) [.Name "numbers" p2] [⟨some "key",ql,kp⟩] pos) (tIn K ad):=by
 subst eP ew eK em eb;intro pins s σ H Q I h;obtain ⟨r,v,st,ns,l,rfl,A,OX,eW,hl,q⟩:=h;refine wpAny_Call_Name_kw (CZ I hg T.tU zE ?_);have hv1:UX X.env.scope "numbers":=by rw [Vo];exact .inl rfl
 have ha:PA X [.Name "numbers" p2] (oB (LU 1) C2):=aQ (LV (by rw [hN];rfl) hv1) ft;refine callWith_kw (cY (ha pos pins s _ H (fun vs H1=>vs=[.ref ns]/\H1=H) I ⟨_,rfl,rfl,rfl⟩) fun us s1 ⟨vs,H1,I1,r1,e1,e2⟩=>?_);subst e1 e2;obtain ⟨u1,rfl,ru1⟩:=vals1 r1;cases ru1;obtain ⟨ps,hT,V6,J9⟩:=A.tab;refine kws_cons (cY (V5 HN C T.aaK hq OW pins s1 _ H1 (fun y H2=>∃ f k pm J3,y=.ref f/\H2 f=some (kz f (MW ca k pm J3))/\H2 k=some (qm k)/\Kp [ad.tb] H1 H2/\ag X.K ad H2 r v st) I1 ⟨ps,hT,V6,fun cv e=>?_,fun H2 f k LO pm J3 hf hK hf2 V1 ht2 abj Uw hor=>?_⟩) fun u s2 ⟨x,H2,I2,rx,f,k,pm,J3,ex,hf2,V1,hK,A2⟩=>?_)
 ·obtain ⟨k,e1,e2⟩:=J9 cv e;exact ⟨k,e1,aA _ _ e2⟩
 ·refine ⟨f,k,pm,J3,rfl,hf2,V1,hK,A.V8 hK ht2 ⟨abj,fun cv e=>?_⟩⟩;rw [Uw] at e;cases e;refine ⟨k,rfl,bL ?_ V1⟩;rcases hor with h|h
  ·exact A.fresh h
  ·obtain ⟨k',e1,e2⟩:=J9 _ h;cases e1;exact dn e2
 subst ex;cases rx;refine kws_nil ?_;have nT:ns≠ad.tb:=fun e=>by rw [e,hT] at OX;cases OX
 have abk:=hK.hG OX nT;obtain ⟨z,its,m,rv,hlv,eo⟩:=I2.BV abk;have WV:X.A.units+1<cLine:=NI hr;refine MV (ns:=l) (kx:=fun n=> -((Vbapah.scoreAt st.ones n:Nat):Int)) I2 ⟨_,eo,rfl,m,rfl⟩ rv (by lia) ?_ fun H' p out hp s' h' o1 o2=>?_
 ·intro PH s' H' n u hn I' sm ru;have A':=A2.mono sm;obtain ⟨o,ho,es,_⟩:=Aa (eW n hn);obtain ⟨mm,hmm,abl⟩:=I'.loc;have qz:s'.heap.IsCell ca (some (.ref r.a)):=by
   obtain ⟨u',ru',look⟩:=abl 0 "arena" (.ref r.a) (by rw [hN];rfl) rfl (by rw [Vo];exact .inr (.inl rfl));cases ru';have P0:X.env.kindOf "arena"=some .cell:=by show X.env.scope.names.lookup _=_;rw [Vo];rfl
   rcases look with ⟨h1,_⟩|⟨_,c',h2,h3⟩
   ·rw [P0] at h1;cases h1
   ·rw [OW] at h2;cases h2;exact h3
  have body:PE (N4 X s' H' f k ca) kR _:=C3 (aQ (GN zr (aF (K:=X.K) (P2 (ixL (K:=X.K)) (aF (K:=X.K) (pv 0)) (pv 1) (fun _ _=>rfl)))) (aQ (pv 1) ft));refine Mh (QW hr (a:=r.a) (n:=n) (Q:=fun v H''=>∃ p,v=.ref p/\H' p=none/\H''=upd H' p (.tup [.int (-((Vbapah.scoreAt st.ones n:Nat):Int)),.int (n:Nat)])) I' ru (sm _ _ hf2) (sm _ _ V1) qz (I'.qy _ _ OW) body ?_) fun u T4 ⟨x,H'',J,rx,p,ex,hp,eH⟩=>?_
  ·refine ⟨_,rfl,aM T A'.ins ⟨_,rfl,kQ T A' ho rfl fun pp hS=>?_⟩⟩;obtain ⟨px,pq,rc,h1,_⟩:=hS;refine dh T h1 ⟨_,rfl,_,rfl,(by show 2<=sizeLine;decide),fun p hp=>⟨p,rfl,hp,?_⟩⟩;rw [es]
  ·subst ex eH;cases rx;exact ⟨p,rfl,hp,J⟩
 ·have hT2:H2 ad.tb≠none:=fun e=>by
   obtain ⟨ps2,e2,_⟩:=A2.tab;rw [e2] at e;cases e
  have fresh:H1 p=none:=by
   cases hz:H1 p with
   |none=>rfl
   |some o=>
    by_cases e:p=ad.tb
    ·rw [e] at hp;exact absurd hp hT2
    ·rw [hK.hG hz e] at hp;cases hp
  refine q H' p fresh ?_ (hK.trans (Kp.of s')) (A2.mono s');rw [<-kZ o1 (Jl o2)];exact h'
theorem uh (T:Tx P w K mg base ad):uP P w K mg base Ql 2 ad.KN ad.gZ ["arena","numbers"] (K7 K ad):=by
 have nd:=sY.nd;obtain ⟨oc,od,kV,doc,pm,an,bB,ct,Ih,hfd,lk,J9⟩:=T.p7.fn.ex;obtain ⟨c,hc,C⟩:=T.aaL;rw [hfd] at hc;have hc:bB=.ref c:=hc;subst hc;rw [hfd] at lk ⊢;refine T5 (k:=1) lk J9 sY (fun vs H Q E h=>?_) fun A outer s H vs Q E hr h=>?_
 ·obtain ⟨r,v,s,ns,l,rfl,_⟩:=h;rfl
 ·obtain ⟨r,v,st,ns,l,rfl,hA,OX,eW,hl,q⟩:=h;refine ⟨_,LS.WE (ae (aq (Lb (c:=c) (ca:=s.heap.objs.size+1+0) T hr rfl rfl rfl rfl rfl rfl rfl rfl C Q0 rfl rfl))),?_⟩;exact ⟨r,v,st,ns,l,rfl,hA,OX,eW,hl,q⟩
end
end Fb
namespace Fb
open PySem PySem.Spec PyProof.Rows L2
theorem O0 {ws:List Nat} {n j:Nat} (h:j<ws.length):Vbapah.kindFor n (ws.drop j) (j+1)=if n<ws.getD j 0 then j+1 else Vbapah.kindFor (n-ws.getD j 0) (ws.drop (j+1)) (j+2):=by
 rw [List.drop_eq_getElem_cons h];have e:ws.getD j 0=ws[j]:=by rw [List.getD_eq_getElem?_getD,List.getElem?_eq_getElem h];rfl
 rw [e];rfl
theorem getD_at {ws:List Nat} {j:Nat} (h:j<ws.length):ws[j]? =some (ws.getD j 0):=by rw [List.getD_eq_getElem?_getD,List.getElem?_eq_getElem h];rfl
section
variable {P:Program} {w:World} {K:PySem.W.Frag} {mg:Str->Option Value} {base:Heap} {ad:Ad}
def kT (rt:Vbapah.Rates) (x:Nat):Nat:=Vbapah.kindFor (Vbapah.draw (Vbapah.total rt.weights) x).1 rt.weights 1
theorem Ta {ws:List Nat} (h:∀ z∈ws,z<=9):ws.sum<=9*ws.length:=by
 induction ws with
 |nil=>exact Nat.le_refl _
 |cons a r ih=>
  rw [List.sum_cons,List.length_cons];have h1:=h a (List.mem_cons_self ..);have h2:=ih fun z hz=>h z (List.mem_cons_of_mem _ hz)
  lia
def F7 (K:PySem.W.Frag) (ad:Ad):Sp:=fun vs H Q _=>∃ (r:Ar) (v:Vbapah.World) (s:Vbapah.State) (rt:Vbapah.Rates),vs=[.ref r.a]/\Ey K ad H r v s rt/\
 ∀ H',Kp (r.M ad) H H'->ag K ad H' r v {s with x:=(Vbapah.draw (Vbapah.total rt.weights) s.x).2}->Q (.int (kT rt s.x:Nat)) H'
theorem F8 (T:Tx P w K mg base ad):Ok T 3 ad.DT ad.gw ["arena"] F7:=by
 refine T.yx.ok vD (fun vs H Q E h=>?_) (fun nd bB A outer s H vs Q E hr h=>?_)
 ·obtain ⟨r,v,s,rt,rfl,_⟩:=h;rfl
 ·obtain ⟨r,v,s,rt,rfl,⟨A,mi,R,W,x1,x2⟩,q⟩:=h;refine ⟨_,(aa (sS 1 nd (mO (aF K (pv 0)) T.dS T.cG (cp (K:=K) T) hr T.bQ .nil i0 (bj (cj (Qz K) (by rfl) T.D9 Dy (bj (aF K (aF K (pv 0))))))))
   (aa (sS 2 nd ab)
   (aa (sS 3 nd (xL K (aF K (aF K (pv 0))) ab))
   (aa (oA PassesOwn.never (aS PU (pv 1) (pv 3)) (aa (sS 3 nd (aB bh (pv 3) (xL K (aF K (aF K (pv 0))) (pv 2))))
   (ae (sS 2 nd (aB bh (pv 2) ab)))))
   (ae (aq (pv 2))))))),?_⟩
  obtain ⟨qa,d,⟨wl,hR,Pw⟩,ed,hD,ins⟩:=A.rF mi;have dM:d∈r.M ad:=Ar.mD ed;have ws1:=R.ws;have wsl:=R.wl;have ws9:=Ta R.w9;obtain ⟨dx,Yg⟩:=id hD;refine ⟨_,rfl,fN T ins ⟨d,dx,_,rfl,Yg,bV,_,rfl,bz T ins (jw T hR ⟨wl,rt.weights.map (fun (n:Nat)=>(n:Int)),rfl,aH.of (by rw [Pw,mn]),d,rt.weights.sum,s.x,?_,hD,by lia,by lia,x1,x2,fun H1 D1 k1=>?_⟩)⟩⟩
  ·rw [ic];rfl
  have A1:=A.drawn mi ed k1 D1;obtain ⟨qa1,d1,⟨wl1,Ys,V9⟩,ed1,hD1,Q1⟩:=A1.rF mi;have kM:Kp (r.M ad) H H1:=k1.mono fun z hz=>by rw [List.mem_singleton.mp hz];exact dM
  have hv:=(gH (m:=rt.weights.sum) (by lia) x1 x2).1;have ek:kT rt s.x=Vbapah.kindFor (Vbapah.draw rt.weights.sum s.x).1 rt.weights 1:=by unfold kT;rw [ll]
  rw [ll,ek] at q;generalize hn:(Vbapah.draw rt.weights.sum s.x).1=n at hv q;refine ⟨_,rfl,bz T Q1 (jw T Ys ⟨wl1,_,_,_,rfl,rfl,aH.of V9,wd (i:=0) rfl (getD_at (by lia)),?_⟩)⟩;refine ⟨fun f σ H2=>∃ j:Nat,j+f=4/\H2=H1/\σ=[some (.ref r.a),some (.int (n:Nat)),some (.int ((j+1:Nat):Int)),some (.int ((rt.weights.take (j+1)).sum:Nat))]/\(rt.weights.take j).sum<=n/\Vbapah.kindFor n rt.weights 1=Vbapah.kindFor (n-(rt.weights.take j).sum) (rt.weights.drop j) (j+1),
   ⟨4,0,rfl,rfl,?_,Nat.zero_le _,rfl⟩,?_⟩
  ·have e0:(rt.weights.take 1).sum=rt.weights.getD 0 0:=by rw [aG (getD_at (show 0<rt.weights.length by lia))];simp
   rw [e0];rfl
  rintro f σ H2 ⟨j,hj,rfl,rfl,hle,hk⟩;have es:(rt.weights.take (j+1)).sum=(rt.weights.take j).sum+rt.weights.getD j 0:=vf (getD_at (by lia));have ZN:Vbapah.kindFor (n-(rt.weights.take j).sum) (rt.weights.drop j) (j+1)=if n-(rt.weights.take j).sum<rt.weights.getD j 0 then j+1 else Vbapah.kindFor (n-(rt.weights.take j).sum-rt.weights.getD j 0) (rt.weights.drop (j+1)) (j+2):=O0 (by lia)
  refine ⟨_,rfl,_,rfl,_,_,rfl,rfl,_,rfl,aW (fun hc=>?_) fun hc=>?_⟩
  ·have RN:=of_decide_eq_true hc;rw [if_neg (by lia)] at ZN;have hj4:j<4:=by
    refine Nat.lt_of_not_le fun z=>?_
    have e5:j=4:=by lia
    rw [e5,List.take_of_length_le (by lia)] at RN
    lia
   refine ⟨fun σ' H'=>∃ j2:Nat,j2+(f-1)=4/\H'=H2/\σ'=[some (.ref r.a),some (.int (n:Nat)),some (.int ((j2+1:Nat):Int)),some (.int ((rt.weights.take (j2+1)).sum:Nat))]/\(rt.weights.take j2).sum<=n/\Vbapah.kindFor n rt.weights 1=Vbapah.kindFor (n-(rt.weights.take j2).sum) (rt.weights.drop j2) (j2+1),fun σ' H' z=>⟨f-1,by lia,z⟩,?_⟩;refine ⟨_,rfl,_,rfl,bz T Q1 (jw T Ys ⟨_,rfl,wl1,_,_,_,rfl,rfl,aH.of V9,wd (i:=j+1) rfl (getD_at (by lia)),_,_,rfl,rfl,?_⟩)⟩;refine ⟨_,rfl,_,_,rfl,rfl,j+1,by lia,rfl,?_,by lia,?_⟩
   ·have es2:(rt.weights.take (j+1+1)).sum=(rt.weights.take (j+1)).sum+rt.weights.getD (j+1) 0:=vf (getD_at (by lia));rw [es2];rfl
   ·rw [hk,ZN,es,Nat.sub_sub]
  ·have eW:=of_decide_eq_false hc;rw [if_pos (by lia)] at ZN;have qq:=q H2 kM A1;rw [hk,ZN] at qq;exact ⟨_,rfl,qq⟩
structure Lc (K:PySem.W.Frag) (ad:Ad) (H:Hp) (r:Ar) (v:Vbapah.World) (s:Vbapah.State) (rt:Vbapah.Rates) (rp:Addr) (row:List Nat):Prop where
 B:Ey K ad H r v s rt
 pl:s.panel.length<=4
 pL:∀ y∈s.panel,rT v y
 ol:s.ones.length<=1000
 O:Fo v s.ones
 yT:Out (r.N ad) H rp=some (.lst (vN row))
 RO:eA s.ones rt.size row
def F9 (K:PySem.W.Frag) (ad:Ad):Sp:=fun vs H Q _=>∃ (r:Ar) (v:Vbapah.World) (s:Vbapah.State) (rt:Vbapah.Rates) (rp:Addr) (row:List Nat),vs=[.ref r.a,.ref rp]/\Lc K ad H r v s rt rp row/\
 ∀ H',Kp (r.M ad) H H'->ag K ad H' r v {s with ones:=s.ones++[(Vbapah.child v s.panel rt s.ones row s.gen s.x).1],x:=(Vbapah.child v s.panel rt s.ones row s.gen s.x).2}->Q (.int (s.ones.length:Nat)) H'
theorem Ga {rt:Vbapah.Rates} (R:xB rt) {x:Nat} (x1:1<=x) (x2:x<Vbapah.PRIME):1<=kT rt x/\kT rt x<=5:=by
 unfold kT;rw [ll];have h:=nP rt.weights (Vbapah.draw rt.weights.sum x).1 1 (gH (m:=rt.weights.sum) R.ws x1 x2).1;have:=R.wl
 lia
theorem Gd (T:Tx P w K mg base ad):Ok T 10 ad.DU ad.gx ["arena","row"] F9:=by
 refine T.yy.ok vE (fun vs H Q E h=>?_) (fun nd bB A outer s H vs Q E hr h=>?_)
 ·obtain ⟨r,v,s,rt,rp,row,rfl,_⟩:=h;rfl
 ·obtain ⟨r,v,s,rt,rp,row,rfl,⟨⟨A,mi,R,W,x1,x2⟩,p4,pL,ol,O,yT,RO⟩,q⟩:=h;refine ⟨_,(aa (sS 2 nd (eC (HL T) hr T.DZ (ie (pv 0) (pv 1))))
   (aa (sS 3 nd (eC (F8 T) hr T.yx (bj (pv 0))))
   (aa (sS 4 nd (pv 2))
   (aa (aZ (aS du (pv 3) (ay rfl T.uJ)) (ae (sS 4 nd (eC (HL T) hr T.DZ (ie (pv 0) (pv 1))))) aJ)
   (aa (sS 5 nd (eC (zY T) hr T.rg (ie (aF K (pv 0)) (pv 3))))
   (aa (sS 6 nd (eC (El T) hr T.zI (aQ (aF K (pv 0)) (aQ (pv 3) (fY (pv 5) (aF K (xL K (aF K (pv 0)) (pv 2))) (aF K (xL K (aF K (pv 0)) (pv 4))))))))
   (ae (aq (eC (Jd T) hr T.IH (aQ (pv 0) (fY (pv 6) (aE (ie (pv 2) (pv 4))) (aB fW (aE (bj (pv 3))) (pv 5))))))))))))),?_⟩
  have RP:0<row.length:=by rw [RO.len];have:=R.s;lia
  have h0:0<s.ones.length:=by
   cases row with
   |nil=>cases RP
   |cons i _=>exact Nat.lt_of_le_of_lt (Nat.zero_le _) (RO.lt i (List.mem_cons_self ..))
  refine ⟨_,rfl,_,rfl,r,v,s,rt,rp,row,rfl,⟨A,mi,R,W,x1,x2⟩,yT,RO,fun H1 k1 A1=>?_⟩;obtain ⟨y1,y2⟩:=uH (ones:=s.ones) (k:=rt.pick) RP x1 x2;have ZO:=jg (ones:=s.ones) (living:=row) (k:=rt.pick) (x:=s.x) RO.lt h0;generalize hp:Vbapah.picked s.ones row rt.pick s.x=p at A1 y1 y2 ZO;refine ⟨_,rfl,r,v,{s with x:=p.2},rt,rfl,⟨A1,mi,R,W,y1,y2⟩,fun H2 k2 A2=>?_⟩;obtain ⟨ZP,ZQ⟩:=Ga R y1 y2;obtain ⟨_,z1,z2⟩:=gH (m:=Vbapah.total rt.weights) (by rw [ll];exact R.ws) y1 y2;generalize hk:Vbapah.draw (Vbapah.total rt.weights) p.2=k at A2 z1 z2;have ekd:kT rt p.2=Vbapah.kindFor k.1 rt.weights 1:=by unfold kT;rw [hk]
  generalize hkd:kT rt p.2=kind at ZP ZQ ekd;refine ⟨_,rfl,?_⟩;generalize hq:(if kind=5 then Vbapah.picked s.ones row rt.pick k.2 else (p.1,k.2))=qq;have Ez:=bM (Ar.sub (k1.trans k2)) _ _ yT;have abm:1<=qq.2/\qq.2<Vbapah.PRIME/\qq.1<s.ones.length:=by
   rw [<-hq];by_cases e5:kind=5
   ·rw [if_pos e5];obtain ⟨w1,w2⟩:=uH (ones:=s.ones) (k:=rt.pick) RP z1 z2;exact ⟨w1,w2,jg (ones:=s.ones) (living:=row) (k:=rt.pick) (x:=k.2) RO.lt h0⟩
   ·rw [if_neg e5];exact ⟨z1,z2,ZO⟩
  obtain ⟨w1,w2,qlt⟩:=abm;refine ⟨_,rfl,rfl,_,rfl,aW (fun hc=>?g1) fun hc=>?g2⟩
  case' g1=>
   have e5:kind=5:=by have:=(cE hc).1 rfl;lia
   rw [if_pos e5] at hq;refine ⟨_,rfl,_,rfl,r,v,{s with x:=k.2},rt,rp,row,rfl,⟨A2,mi,R,W,z1,z2⟩,Ez,RO,fun H3 k3 A3=>?_⟩;refine (show ∀ (q1:Nat) (H3:Hp),q1=qq.1->Kp (r.M ad) H2 H3->ag K ad H3 r v {s with x:=qq.2}->RU _ _ _ [some (V.ref r.a),some (V.ref rp),some (V.int (p.1:Nat)),some (V.int (kind:Nat)),some (V.int (q1:Nat)),none,none] H3 from ?_) (Vbapah.picked s.ones row rt.pick k.2).1 H3 (by rw [hq]) k3 (by rw [<-hq];exact A3)
  case' g2=>
   have e5:¬ kind=5:=fun z=>(cE hc).2 rfl (by lia)
   rw [if_neg e5] at hq;refine (show ∀ (q1:Nat) (H3:Hp),q1=qq.1->Kp (r.M ad) H2 H3->ag K ad H3 r v {s with x:=qq.2}->RU _ _ _ [some (V.ref r.a),some (V.ref rp),some (V.int (p.1:Nat)),some (V.int (kind:Nat)),some (V.int (q1:Nat)),none,none] H3 from ?_) p.1 H2 (by rw [<-hq]) (Kp.refl _ _) (by rw [<-hq];exact A2)
  all_goals
   intro q1 H3 hq1 k3 A3;obtain ⟨qa3,d,_,ed,D3,Jb⟩:=A3.rF mi;have dM:d∈r.M ad:=Ar.mD ed;refine ⟨_,rfl,fN T Jb ⟨_,rfl,d,kind,qq.2,rfl,D3,ZP,ZQ,w1,w2,fun H4 nl hnl h4 D4 k4=>?_⟩⟩;have A4:=A3.drawn mi ed k4 D4;generalize Uq:Vbapah.drawnRecipe kind qq.2=rec at h4 D4 A4;have ern:rec.1.kind=kind:=by rw [<-Uq];rfl
   have erl:rec.1.nums.length<=4:=by
    rw [<-Uq];show (Vbapah.drawAll (bounds kind) qq.2).1.length<=4;rw [bS];exact Eo kind
   obtain ⟨o1,Yh,_,ep1⟩:=Aa ZO;obtain ⟨o2,VX,_,ep2⟩:=Aa qlt;have X1:rT v o1.program:=O.prog o1 (List.mem_of_getElem? Yh);have X2:rT v o2.program:=O.prog o2 (List.mem_of_getElem? VX);refine ⟨_,rfl,ba T A4.ins ⟨_,rfl,_,rfl,_,rfl,aM T A4.ins ⟨_,rfl,kQ T A4 Yh rfl fun b1 hS1=>?_⟩⟩⟩;obtain ⟨px,_,_,f1,f2,_⟩:=hS1;refine dz T f1 ⟨_,rfl,aM T A4.ins ⟨_,rfl,kQ T A4 VX (by rw [hq1]) fun b2 hS2=>?_⟩⟩;obtain ⟨py,_,_,g1,g2,_⟩:=hS2;refine dz T g1 ⟨r.wa,nl,px,py,v,kind,o1.program,o2.program,rec.1.nums,rfl,A4.z9.mono aA,W,ZP,ZQ,h4,erl,f2,X1,g2,X2,fun H5 pp Wa s5 h5=>?_⟩;have A5:=A4.mono s5;refine ⟨_,rfl,_,rfl,_,rfl,_,rfl,(by show 2<=sizeLine;decide),?_⟩;intro ps K4;generalize QV:upd H5 ps _=H6;obtain ⟨s6,h6⟩:=aI K4 QV
   refine ⟨_,rfl,(by show 1<=sizeLine;decide),?_⟩;intro p0 MS;generalize MT:upd H6 p0 _=H7;obtain ⟨s7,h7⟩:=aI MS MT
   have abn:=s7 _ _ (s6 _ _ (s5 _ _ h4));refine ⟨_,rfl,fZ h7 abn (aT (by rw [aO];show 1+_<=_;lia)) fun rc H8 abo s8 h8=>?_⟩;have A6:=A5.mono s6;have A7:=A6.mono s7;have A8:=A7.mono s8;have s58:=(s6.trans s7).trans s8;have Uz:Vbapah.made v rec.1 o1.program o2.program=Vbapah.made v ⟨kind,rec.1.nums⟩ o1.program o2.program:=by rw [<-ern]
   have UA:Vbapah.child v s.panel rt s.ones row s.gen s.x=(⟨Vbapah.made v rec.1 o1.program o2.program,Vbapah.scoreOf v s.panel (Vbapah.made v rec.1 o1.program o2.program),s.gen,some (p.1,qq.1),rec.1⟩,rec.2):=by
    unfold Vbapah.child;dsimp only;rw [hp,hk, <-ekd,show (if kind=5 then Vbapah.picked s.ones row rt.pick k.2 else (p.1,k.2))=qq by first|(rw [if_pos e5];exact hq)|(rw [if_neg e5];exact hq),Uq,ep1,ep2]
   refine ⟨r,v,{s with x:=rec.2},pp,ps,rc,(Vbapah.child v s.panel rt s.ones row s.gen s.x).1,rfl,⟨A8,W,p4,pL,ol,?_,?_,?_,?_,?_,?_,?_⟩,fun H9 k9 A9=>?_⟩
   ·rw [UA,Uz];exact aV.out (h5.mono s58) (A4.fresh Wa) A8.Pu
   ·rw [UA,Uz];exact ID ⟨ZP,ZQ⟩ W.pos X1 X2
   ·rw [UA];refine bL (A5.fresh K4) ?_;rw [s8 _ _ (s7 _ _ h6),hq1];rfl
   ·rw [UA];refine bL (A7.fresh abo) ?_;rw [h8,ern];rfl
   ·rw [UA];intro z hz;have:z=p.1∨z=qq.1:=by simpa [uS] using hz
    rcases this with rfl|rfl
    ·exact ZO
    ·exact qlt
   ·rw [UA]
   ·rw [UA]
   ·have kM4:Kp (r.M ad) H3 H4:=k4.mono fun z hz=>by rw [List.mem_singleton.mp hz];exact dM
    refine q H9 ((((k1.trans k2).trans k3).trans kM4).trans (((Kp.of s5).trans (Kp.of s58)).trans (k9.mono fun z hz=>by rw [List.mem_singleton.mp hz];exact r.mB))) ?_;have e2:(Vbapah.child v s.panel rt s.ones row s.gen s.x).2=rec.2:=by rw [UA]
    rw [e2];exact A9
end
section
variable {P:Program} {w:World} {K:PySem.W.Frag} {mg:Str->Option Value} {base:Heap} {ad:Ad} {H H':Hp} {r:Ar} {v:Vbapah.World} {s:Vbapah.State}
structure Wb (K:PySem.W.Frag) (ad:Ad) (H:Hp) (r:Ar) (v:Vbapah.World) (s:Vbapah.State):Prop where
 nd:(r.N ad).Nodup
 K3:∀ m∈r.av,∃ o,H m=some o/\Ul o=false
 z9:cD ad (Out (r.N ad) H) r.wa v
 pL:∃ as,H r.pl=some (.lst (as.map V.ref))/\Paired (bG K (Out (r.N ad) H)) as s.panel
 bor:∃ as,H r.bl=some (.lst (as.map V.ref))/\Paired (fun a (od:Vbapah.One×Nat)=>dq K ad (Out (r.N ad) H) a od.1 od.2) as (s.ones.zip (Vbapah.depths s.ones))
 row:∃ as,Out (r.N ad) H r.rw=some (.lst (as.map V.ref))/\gX (Out (r.N ad) H) as s.living
 HK:∃ as,H r.bs=some (.lst (as.map V.ref))/\gX (Out (r.N ad) H) as s.bests
 tab:∃ ps,H ad.tb=some (.CC ps)/\Ex (Out (r.N ad) H) ps
 rat:match s.rates with
  |none=>r.ra=.cx/\r.dr=none
  |some rt=>∃ q d,r.ra=.ref q/\r.dr=some d/\jB ad (Out (r.N ad) H) q rt/\bw ad H d s.x
theorem ag.rest (A:ag K ad H r v s) (k:Kp [r.a] H H'):Wb K ad H' r v s:=by
 have kM:Kp (r.M ad) H H':=k.mono fun z hz=>by rw [List.mem_singleton.mp hz];exact r.mA
 have o:=bM (Ar.sub kM);obtain ⟨n1,n2,n3,n4,_,_,_,_,_,_,QS⟩:=A.ap;obtain ⟨CQ,p1,p2⟩:=A.pL;obtain ⟨wZ,b1,b2⟩:=A.bor;obtain ⟨FZ,r1,r2⟩:=A.row;obtain ⟨yS,t1,t2⟩:=A.HK;obtain ⟨ps,tb,tok⟩:=A.tab;refine ⟨A.nd,A.WR kM (fun _ h=>h),A.z9.mono o,⟨CQ,k.hG p1 (fun z=>n1 z.symm),Paired.dw p2 fun _ _ z=>aV.mono z o⟩,⟨wZ,k.hG b1 (fun z=>n2 z.symm),Paired.dw b2 fun _ _ z=>dq.mono z o⟩,⟨FZ,o _ _ r1,r2.mono o⟩,⟨yS,k.hG t1 (fun z=>n3 z.symm),t2.mono o⟩,⟨ps,k.hG tb (fun z=>n4 z.symm),tok.mono o⟩,?_⟩;have z:=A.rat;cases h:s.rates with
 |none=>rw [h] at z;exact z
 |some rt=>
  rw [h] at z;obtain ⟨q,d,e1,e2,e3,dy,e4⟩:=z;exact ⟨q,d,e1,e2,e3.mono o,dy,k.hG e4 (QS d e2).1⟩
theorem ag.setGen (A:ag K ad H r v s) {g:Nat} (k:Kp [r.a] H H') (i:bg ad H' r.a (.ref r.wa) (.ref r.pl) (.ref r.bl) r.ra r.dv (.ref r.rw) (.int (g:Nat)) (.ref r.bs)):ag K ad H' r v {s with gen:=g}:=
 let t:=A.rest k
 ⟨t.nd,t.K3,i,t.z9,t.pL,t.bor,t.row,t.HK,t.tab,t.rat⟩
theorem ag.Jm {D:Addr} (A:ag K ad H {r with av:=D::r.av} v s) (k:Kp [r.a] H H') (i:bg ad H' r.a (.ref r.wa) (.ref r.pl) (.ref r.bl) r.ra r.dv (.ref D) (.int (s.gen:Nat)) (.ref r.bs)) {bs:List Addr} {ls:List (List Nat)} (hD:H D=some (.lst (bs.map V.ref))) (hl:gX (Out (Ar.N ad {r with av:=D::r.av}) H) bs ls):
  ag K ad H' {r with rw:=D} v {s with living:=ls}:=by
 have kM:Kp (Ar.M ad {r with av:=D::r.av}) H H':=k.mono fun z hz=>by rw [List.mem_singleton.mp hz];exact r.mA
 have o1:=bM (Ar.sub kM);have o:au (Out (Ar.N ad {r with av:=D::r.av}) H') (Out (r.N ad) H'):=Jc fun m hm=>by
  rcases List.mem_append.mp hm with h|h
  ·exact List.mem_append_left _ h
  ·exact List.mem_append_right _ (List.mem_cons_of_mem _ h)
 have nd:(r.M ad++D::r.av).Nodup:=A.nd;have nD:D∉r.N ad:=by
  rw [List.nodup_append] at nd;intro z;rcases List.mem_append.mp z with z|z
  ·exact nd.2.2 D z D (List.mem_cons_self ..) rfl
  ·exact (List.nodup_cons.mp nd.2.1).1 z
 have t:=A.rest k;obtain ⟨CQ,p1,p2⟩:=t.pL;obtain ⟨wZ,b1,b2⟩:=t.bor;obtain ⟨yS,t1,t2⟩:=t.HK;obtain ⟨ps,tb,tok⟩:=t.tab;refine ⟨?_,fun m hm=>t.K3 m (List.mem_cons_of_mem _ hm),i,t.z9.mono o,⟨CQ,p1,Paired.dw p2 fun _ _ z=>aV.mono z o⟩,⟨wZ,b1,Paired.dw b2 fun _ _ z=>dq.mono z o⟩,⟨bs,bL nD (k.hG hD fun z=>nD (List.mem_append_left _ (by rw [show D=r.a from z];exact r.mA))),hl.mono (o1.trans o)⟩,⟨yS,t1,t2.mono o⟩,⟨ps,tb,tok.mono o⟩,?_⟩
 ·show (r.M ad++r.av).Nodup;rw [List.nodup_append] at nd ⊢;exact ⟨nd.1,(List.nodup_cons.mp nd.2.1).2,fun a ha b hb=>nd.2.2 a ha b (List.mem_cons_of_mem _ hb)⟩
 ·have z:=t.rat;show match s.rates with|none=>_|some rt=>_
  cases h:s.rates with
  |none=>rw [h] at z;exact z
  |some rt=>
   rw [h] at z;obtain ⟨q,d,e1,e2,e3,e4⟩:=z;exact ⟨q,d,e1,e2,e3.mono o,e4⟩
theorem ag.N6 (A:ag K ad H r v s) {p:Addr} {l:List Nat} {as:List Addr} (hb:H r.bs=some (.lst (as.map V.ref))) (hp:Out (r.N ad) H p=some (.lst (vN l))):ag K ad (upd H r.bs (.lst (as.map V.ref++[.ref p]))) r v {s with bests:=s.bests++[l]}:=by
 have k:Kp [r.bs] H (upd H r.bs (.lst (as.map V.ref++[.ref p]))):=Kp.upd;have e4:upd H r.bs (.lst (as.map V.ref++[.ref p])) r.bs=some (.lst (as.map V.ref++[.ref p])):=ah
 revert k e4
 generalize upd H r.bs (.lst (as.map V.ref++[.ref p]))=H';intro k e4;have kM:Kp (r.M ad) H H':=k.mono fun z hz=>by rw [List.mem_singleton.mp hz];exact r.mS
 have o:=bM (Ar.sub kM);obtain ⟨n1,n2,n3,n4,n5,n6,n7,n8,n9,QU,QS⟩:=A.ap;obtain ⟨CQ,p1,p2⟩:=A.pL;obtain ⟨wZ,b1,b2⟩:=A.bor;obtain ⟨FZ,r1,r2⟩:=A.row;obtain ⟨yS,t1,t2⟩:=A.HK;obtain ⟨ps,tb,tok⟩:=A.tab;obtain ⟨dx,ei⟩:=A.ins;rw [hb] at t1;have X8:as.map V.ref=yS.map V.ref:=by
  have:=Option.some.inj t1;injection this
 refine ⟨A.nd,A.WR kM (fun _ h=>h),⟨dx,k.hG ei n3⟩,A.z9.mono o,⟨CQ,k.hG p1 n6,Paired.dw p2 fun _ _ z=>aV.mono z o⟩,⟨wZ,k.hG b1 n8,Paired.dw b2 fun _ _ z=>dq.mono z o⟩,⟨FZ,o _ _ r1,r2.mono o⟩,⟨yS++[p],by rw [e4,X8,List.map_append];rfl,Paired.app (t2.mono o) (.cons (o _ _ hp) .nil)⟩,⟨ps,k.hG tb (fun z=>QU z.symm),tok.mono o⟩,?_⟩;have z:=A.rat;show match s.rates with|none=>_|some rt=>_
 cases h:s.rates with
 |none=>rw [h] at z;exact z
 |some rt=>
  rw [h] at z;obtain ⟨q,d,e1,e2,e3,dy,e4⟩:=z;exact ⟨q,d,e1,e2,e3.mono o,dy,k.hG e4 (QS d e2).2.2.2.1⟩
end
section
variable {P:Program} {w:World} {K:PySem.W.Frag} {mg:Str->Option Value} {base:Heap} {ad:Ad}
def Ge (K:PySem.W.Frag) (ad:Ad):Sp:=fun vs H Q _=>∃ (r:Ar) (v:Vbapah.World) (s:Vbapah.State) (rt:Vbapah.Rates) (rp:Addr) (row:List Nat),vs=[.ref r.a,.ref rp]/\Lc K ad H r v s rt rp row/\s.ones.length<=900/\
 ∀ H' p,H p=none->H' p=some (.lst (vN (Vbapah.islandBred v s.panel rt s.gen s.ones row s.x).2.1))->Kp (r.M ad) H H'->ag K ad H' r v {s with ones:=(Vbapah.islandBred v s.panel rt s.gen s.ones row s.x).1,x:=(Vbapah.islandBred v s.panel rt s.gen s.ones row s.x).2.2}->Q (.ref p) H'
theorem Gf (T:Tx P w K mg base ad):Ok T 11 ad.DV ad.gy ["arena","row"] Ge:=by
 refine T.yz.ok vF (fun vs H Q E h=>?_) (fun nd bB A outer s H vs Q E hr h=>?_)
 ·obtain ⟨r,v,s,rt,rp,row,rfl,_⟩:=h;rfl
 ·obtain ⟨r,v,s,rt,rp,row,rfl,⟨⟨A,mi,R,W,x1,x2⟩,p4,pL,ol,O,yT,RO⟩,ol9,q⟩:=h;refine ⟨_,(aa (sS 2 nd (ck (KJ K) (pv 1) dX (cB (aF K (aF K (pv 0))))))
   (aa (xu (i:=3) rfl nd rfl rfl rfl (fO rfl T.d9 (bj (aB cV (aF K (aF K (pv 0))) (aF K (aF K (pv 0)))))) (own:=[("place",4)]) (bC (show kE ["arena","row","staying","children","place"] (af pW) _ [("place",4)]=true by decide+kernel)) (fun _ _ _ _ _=>gN 4 nd) (fun _ _ _ _ _=>cu) (fun _ _ _ _ _=>(eC (Gd T) hr T.yy (ie (pv 0) (pv 1)))))
   (ae (aq (eC (uh T) hr T.p7 (ie (pv 0) (aB fW (pv 2) (pv 3)))))))),?_⟩
  have re:=R.e;have rs:=R.s;have RP:0<row.length:=by rw [RO.len];lia
  obtain ⟨qa,d,⟨wl,hR,Pw⟩,ed,hD,ins⟩:=A.rF mi;refine ⟨_,rfl,_,rfl,bz T ins (l9 T hR ⟨_,rfl,uc (aH.of (aA _ _ yT)) fun st H1 bN s1 h1=>?_⟩)⟩;rw [mf rfl] at h1;have A1:=A.mono s1;obtain ⟨qa1,d1,⟨wl1,Ys,V9⟩,ed1,hD1,Q1⟩:=A1.rF mi;have acm:((rt.size:Nat):Int)-(rt.elite:Nat)=((rt.size-rt.elite:Nat):Int):=by lia
  refine ⟨_,rfl,bz T Q1 (gD T Ys ⟨_,rfl,bz T Q1 (l9 T Ys ⟨_,_,rfl,rfl,_,rfl,?_,?_,fun D C8=>?_⟩)⟩)⟩
  ·show -(2 ^ 62)<=((rt.size:Nat):Int)-(rt.elite:Nat)
   lia
  ·show ((rt.size:Nat):Int)-(rt.elite:Nat)<2 ^ 62
   lia
  rw [show (((rt.size:Nat):Int)-(rt.elite:Nat)).toNat=rt.size-rt.elite by lia];generalize hn:rt.size-rt.elite=n;have QU:n<=10:=by lia
  have Ld:=bM (M:=r.N ad) (Kp.of s1) _ _ yT;have rpD:rp≠D:=fun z=>by rw [<-z,aA _ _ Ld] at C8;cases C8
  have Yt:D∉r.M ad:=fun z=>A1.fresh C8 (List.mem_append_left _ z)
  refine Ya (Nat.le_trans QU (by decide)) (fun i acc H2=>ag K ad H2 {r with av:=D::r.av} v {s with ones:=s.ones++(Vbapah.children v s.panel rt s.ones row s.gen i s.x).1,x:=(Vbapah.children v s.panel rt s.ones row s.gen i s.x).2}/\Kp (r.M ad) H1 H2/\acc=vN ((List.range i).map fun k=>s.ones.length+k)) ⟨?_,Kp.of (au.laid C8),rfl⟩ ?_ ?_
  ·have e0:s.ones++(Vbapah.children v s.panel rt s.ones row s.gen 0 s.x).1=s.ones:=List.append_nil _;rw [e0];exact A1.avoid C8 (au.laid C8) ah
  ·rintro i acc H2 hi aR hlen hsz ⟨A2,k2,rfl⟩;obtain ⟨O2,c1,c2⟩:=sC (panel:=s.panel) (gen:=s.gen) (x:=s.x) W R O RO.lt RP x1 x2 i;have ZR:=jy v s.panel rt s.ones row s.gen i s.x;have ND:=eu v s.panel rt s.ones row s.gen i s.x;generalize QR:Vbapah.children v s.panel rt s.ones row s.gen i s.x=cs at A2 O2 c1 c2 ZR ND;have h0:0<s.ones.length:=by
    cases row with
    |nil=>cases RP
    |cons i _=>exact Nat.lt_of_le_of_lt (Nat.zero_le _) (RO.lt i (List.mem_cons_self ..))
   have Ez:Out (Ar.N ad {r with av:=D::r.av}) H2 rp=some (.lst (vN row)):=by
    refine bL (fun z=>?_) (k2 _ _ (aA _ _ Ld) fun z=>dn Ld (List.mem_append_left _ z));rcases List.mem_append.mp z with z|z
    ·exact dn Ld (List.mem_append_left _ z)
    ·rcases List.mem_cons.mp z with z|z
     ·exact rpD z
     ·exact dn Ld (List.mem_append_right _ z)
   refine ⟨_,rfl,_,rfl,{r with av:=D::r.av},v,{s with ones:=s.ones++cs.1,x:=cs.2},rt,rp,row,rfl,⟨⟨A2,mi,R,W,c1,c2⟩,p4,pL,?_,O2,Ez,RO.append⟩,fun H4 k4 A4=>?_⟩
   ·show (s.ones++cs.1).length<=1000;rw [List.length_append,ND]
    lia
   have e4:=k4 _ _ aR Yt;refine VW.mk e4 hlen hsz ⟨?_,fun b o e n=>?_,?_⟩
   ·rw [ZR];have eca:Vbapah.child v s.panel rt (s.ones++cs.1) row s.gen cs.2=Vbapah.child v s.panel rt s.ones row s.gen cs.2:=IE RO.lt h0;rw [<-eca, <-List.append_assoc];exact A4.WS (D:=D) (List.mem_cons_self ..) Kp.upd ah
   ·rw [az (aw e C8)];exact (k2.trans k4) b o e n
   ·rw [List.range_succ,List.map_append,cS];show _++[V.int (((s.ones++cs.1).length:Nat):Int)]=_++[V.int ((s.ones.length+i:Nat):Int)];rw [List.length_append,ND]
  ·rintro acc H2 aR hlen ⟨A2,k2,rfl⟩;have A2':=A2.aa0;have ND:=eu v s.panel rt s.ones row s.gen n s.x;have stM:st∉r.M ad:=fun z=>A.fresh bN (List.mem_append_left _ z)
   refine ⟨_,rfl,_,rfl,_,rfl,fZ (k2 _ _ h1 stM) aR (aT ?_) fun l H3 hl s3 h3=>?_⟩
   ·rw [List.length_take,aO,aO,List.length_map,List.length_range]
    lia
   have A3:=A2'.mono s3;have ZS:=ve (w:=v) (panel:=s.panel) (gen:=s.gen) (x:=s.x) R RO;rw [hn] at ZS;generalize QR:Vbapah.children v s.panel rt s.ones row s.gen n s.x=cs at A2' A3 ND ZS;have eW:∀ i∈row.take rt.elite++(List.range n).map (fun i=>s.ones.length+i),i<(s.ones++cs.1).length:=fun i hi=>by
    rw [List.length_append,ND];rcases List.mem_append.mp hi with h|h
    ·have:=RO.lt i (List.mem_of_mem_take h)
     lia
    ·obtain ⟨j,hj,rfl⟩:=List.mem_map.mp h;have:=List.mem_range.mp hj
     lia
   have e3:H3 l=some (.lst (vN (row.take rt.elite++(List.range n).map fun i=>s.ones.length+i))):=by
    rw [h3,cS]
    congr 2
    unfold vN;rw [List.map_take]
   refine ⟨r,v,{s with ones:=s.ones++cs.1,x:=cs.2},l,_,rfl,A3,e3,eW,?_,fun H4 p hp h4 k4 A4=>?_⟩
   ·rw [List.length_append,List.length_take,List.length_map,List.length_range]
    lia
   have kM:Kp (r.M ad) H H3:=((Kp.of s1).trans k2).trans (Kp.of s3);refine q H4 p ?_ ?_ (kM.trans (k4.mono fun z hz=>by rw [List.mem_singleton.mp hz];exact r.mT)) ?_
   ·cases hz:H p with
    |none=>rfl
    |some o=>
     have hpN:p∉r.M ad:=fun z=>A3.fresh hp (List.mem_append_left _ z)
     rw [kM p o hz hpN] at hp;cases hp
   ·rw [ZS];exact h4
   ·rw [ZS];exact A4
theorem N7 {c:Bool} {A:Prop} {F:Bool->Prop} (d:Bool) (h:F (c&&d)) (k:c=true->F d->A):if c=true then A else F false:=by
 cases c with
 |true=>rw [if_pos rfl];exact k rfl h
 |false=>rw [if_neg Bool.false_ne_true];exact h
def Q2 (s:Vbapah.State) (rt:Vbapah.Rates):Bool:=decide (rt.every≠0/\1<s.living.length/\s.gen%rt.every=0)
def rV (K:PySem.W.Frag) (ad:Ad):Sp:=fun vs H Q _=>∃ (r:Ar) (v:Vbapah.World) (s:Vbapah.State) (rt:Vbapah.Rates),vs=[.ref r.a]/\ag K ad H r v s/\s.rates=some rt/\Q (.bl (Q2 s rt)) H
theorem rW (T:Tx P w K mg base ad):Ok T 1 ad.lD ad.bX ["arena"] rV:=by
 refine T.jK.ok i7 (fun vs H Q E h=>?_) (fun nd bB A outer s H vs Q E hr h=>?_)
 ·obtain ⟨r,v,s,rt,rfl,_⟩:=h;rfl
 ·obtain ⟨r,v,s,rt,rfl,A,mi,q⟩:=h;refine ⟨_,(aa (sS 1 nd (aF K (aF K (pv 0))))
   (ae (aq (jb (fR Kd (pv 1) ab) (jb (fR GP (eL K T.aX (aF K (pv 0))) ab) (nL (fR du (aB dj (aF K (pv 0)) (pv 1)) ab))))))),?_⟩
  obtain ⟨qa,d,⟨wl,hR,Pw⟩,ed,hD,ins⟩:=A.rF mi;obtain ⟨as,ha,rr⟩:=A.row;have hlen:(as.map V.ref).length=s.living.length:=by rw [List.length_map];exact rr.length
  have eg:Q2 s rt=((!decide (V.int (rt.every:Nat)=V.int 0))&&(decide ((1:Int)<((as.map V.ref).length:Nat))&&decide (V.int (((s.gen:Nat):Int)%(rt.every:Nat))=V.int 0))):=by
   unfold Q2;rw [hlen];have e1:(V.int (rt.every:Nat)=V.int 0)↔rt.every=0:=by rw [V.int.injEq];lia
   have e2:(V.int (((s.gen:Nat):Int)%(rt.every:Nat))=V.int 0)↔s.gen%rt.every=0:=by rw [V.int.injEq, <-Int.natCast_emod];lia
   have e3:((1:Int)<(s.living.length:Nat))↔1<s.living.length:=by lia
   have d1:decide (V.int (rt.every:Nat)=V.int 0)=decide (rt.every=0):=decide_eq_decide.mpr e1;have d2:decide (V.int (((s.gen:Nat):Int)%(rt.every:Nat))=V.int 0)=decide (s.gen%rt.every=0):=decide_eq_decide.mpr e2;have d3:decide ((1:Int)<(s.living.length:Nat))=decide (1<s.living.length):=decide_eq_decide.mpr e3;rw [d1,d2,d3];by_cases h1:rt.every=0<;>by_cases h2:1<s.living.length<;>by_cases h3:s.gen%rt.every=0<;>simp [h1,h2,h3]
  rw [eg] at q;refine ⟨_,rfl,bz T ins (Ee T hR ?_)⟩;refine ⟨_,rfl,rfl,_,rfl,N7 (F:=fun b=>Q (.bl b) H) _ q fun hc q=>?_⟩;rw [Bool.not_eq_true',decide_eq_false_iff_not,V.int.injEq] at hc;refine ⟨_,rfl,bR T ins ⟨r.rw,_,rfl,.inl (aH.of (aA _ _ ha)),_,_,rfl,rfl,_,rfl,eh (F:=fun b=>Q (.bl b) H) _ q fun q=>?_⟩⟩;exact ⟨_,rfl,cA T ins ⟨_,rfl,_,_,rfl,rfl,by lia,rfl,q⟩⟩
theorem Yu {ones:List Vbapah.One} {l:List (List Nat)} {i:Nat} (h:i<l.length):(Vbapah.goneOver ones l)[i]? =some (if ((l[i]?).getD []).contains (((l[(i+l.length-1)%l.length]?).getD []).headD 0)=true then (l[i]?).getD [] else Vbapah.ordered ones (((l[i]?).getD []).dropLast++[((l[(i+l.length-1)%l.length]?).getD []).headD 0])):=by
 unfold Vbapah.goneOver;rw [List.getElem?_map,List.getElem?_range h];rfl
theorem Q3 (ones:List Vbapah.One) (l:List (List Nat)):(Vbapah.goneOver ones l).length=l.length:=by
 unfold Vbapah.goneOver;rw [List.length_map,List.length_range]
theorem Yv (n:Nat) (l:List Nat):Xn (V.int (n:Nat)) (vN l)=l.contains n:=by
 unfold Xn vN;rw [List.any_map]
 induction l with
 |nil=>rfl
 |cons a r ih=>
  rw [List.any_cons,List.contains_cons,ih]
  congr 1
  show (((a:Nat):Int)==(n:Nat))=(n==a);by_cases h:n=a
  ·subst h;simp
  ·rw [beq_eq_false_iff_ne.mpr h,beq_eq_false_iff_ne.mpr (by lia)]
theorem Tb (l:List Nat):(vN l).all xp=true:=by
 unfold vN;rw [List.all_map];exact List.all_eq_true.mpr fun _ _=>rfl
def N8 (s:Vbapah.State):Prop:=∀ l∈s.living,l≠[]/\l.length<=10/\∀ i∈l,i<s.ones.length
def MY (K:PySem.W.Frag) (ad:Ad):Sp:=fun vs H Q _=>∃ (r:Ar) (v:Vbapah.World) (s:Vbapah.State),vs=[.ref r.a]/\ag K ad H r v s/\s.living.length<=3/\N8 s/\
 ∀ H' Kh,Kp (r.M ad) H H'->ag K ad H' {r with rw:=Kh} v {s with living:=Vbapah.goneOver s.ones s.living}->Q .cx H'
theorem MZ (T:Tx P w K mg base ad):Ok T 3 ad.NV ad.lL ["arena"] MY:=by
 refine T.HE.ok DJ (fun vs H Q E h=>?_) (fun nd bB A outer s H vs Q E hr h=>?_)
 ·obtain ⟨r,v,s,rfl,_⟩:=h;rfl
 ·obtain ⟨r,v,s,rfl,A,l3,F,q⟩:=h;refine ⟨_,(aa (sS 1 nd (aE ft))
   (aa (jc PassesOwn.never rfl (fO rfl T.d9 (bj (eL K T.aX (aF K (pv 0))))) (gN 2 nd) (aa (sS 3 nd (xL K (aF K (pv 0)) (pv 2)))
   (aa (sS 4 nd (xL K (xL K (aF K (pv 0)) (aB cV (pv 2) ab)) ab))
   (ae (aZ (Ic (inS K) (pv 4) (pv 3) rfl) (ae (bH (hZ PySem.F.plainAttrs_list PySem.F.slot_list_append PySem.F.type_list_append cq (pv 1) (bj (pv 3))))) (ae (bH (hZ PySem.F.plainAttrs_list PySem.F.slot_list_append PySem.F.type_list_append cq (pv 1) (bj (eC (uh T) hr T.p7 (ie (pv 0) (aB fW (ck (KJ K) (pv 3) dX (cB (GN zr ab))) (aE (bj (pv 4)))))))))))))))
   (ae (aY (pv 0) (pv 1) rfl)))),?_⟩
  refine ⟨Nat.zero_le _,?_⟩;intro nr Q4;generalize abp:upd H nr _=H1;obtain ⟨s1,h1⟩:=aI Q4 abp
  obtain ⟨as,ha,rr⟩:=A.row;have hlen:as.length=s.living.length:=rr.length;have A1:=A.avoid Q4 s1 h1;have nrM:nr∉r.M ad:=fun z=>A.fresh Q4 (List.mem_append_left _ z)
  refine ⟨_,rfl,bR T A1.ins ⟨r.rw,_,rfl,.inl (aH.of (s1 _ _ (aA _ _ ha))),_,rfl,by lia,?_,?_⟩⟩
  ·rw [List.length_map]
   lia
  rw [Int.toNat_natCast,List.length_map,hlen];refine uE (lo:=0) (n:=s.living.length) (fun i σ H2=>(∃ u2 u3 u4,σ=[some (.ref r.a),some (.ref nr),u2,u3,u4])/\ag K ad H2 {r with av:=nr::r.av} v s/\Kp (r.M ad) H H2/\∃ bs:List Addr,H2 nr=some (.lst (bs.map V.ref))/\gX (Out (Ar.N ad {r with av:=nr::r.av}) H2) bs ((Vbapah.goneOver s.ones s.living).take i)) ⟨⟨_,_,_,rfl⟩,A1,Kp.of s1,[],h1,.nil⟩ ?_ ?_
  ·rintro i σ H2 hi ⟨⟨u2,u3,u4,rfl⟩,A2,k2,bs,h2,r2⟩;obtain ⟨wZ,ha2,rr2⟩:=A2.row;have vd:wZ.length=s.living.length:=rr2.length;obtain ⟨here,hh⟩:∃ here,s.living[i]? =some here:=⟨_,List.getElem?_eq_getElem hi⟩;have hj:(i+s.living.length-1)%s.living.length<s.living.length:=Nat.mod_lt _ (by lia);generalize hjj:(i+s.living.length-1)%s.living.length=j at hj;obtain ⟨there,ht⟩:∃ there,s.living[j]? =some there:=⟨_,List.getElem?_eq_getElem hj⟩;obtain ⟨pa,hpa,epa⟩:=Paired.at' rr2 hh;obtain ⟨pb,hpb,epb⟩:=Paired.at' rr2 ht;obtain ⟨_,acn,eW⟩:=F here (List.mem_of_getElem? hh);obtain ⟨tne,_,tlt⟩:=F there (List.mem_of_getElem? ht);obtain ⟨c,rest,rfl⟩:∃ c rest,there=c::rest:=by
    cases there with
    |nil=>exact absurd rfl tne
    |cons c rest=>exact ⟨c,rest,rfl⟩
   have pC:=aA _ _ ha2;have e1:(0:Int)+(i:Nat)=(i:Nat):=Int.zero_add _;have atj:J2 (wZ.map V.ref) ((0:Int)+(i:Nat)-1)=some (.ref pb):=by
    have hg:(wZ.map V.ref)[j]? =some (V.ref pb):=by rw [List.getElem?_map,hpb];rfl
    unfold J2 NB;rw [List.length_map,vd,e1];by_cases h0:i=0
    ·subst h0;have ej:j=s.living.length-1:=by
      rw [<-hjj,Nat.zero_add];exact Nat.mod_eq_of_lt (by lia)
     rw [if_neg (by lia),if_pos (by lia)];show (wZ.map V.ref)[_]? =_;rw [show (((0:Nat):Int)-1+(s.living.length:Nat)).toNat=j by lia];exact hg
    ·have ej:j=i-1:=by
      rw [<-hjj,show i+s.living.length-1=(i-1)+s.living.length by lia,Nat.add_mod_right];exact Nat.mod_eq_of_lt (by lia)
     rw [if_pos (by lia),if_pos (by lia)];show (wZ.map V.ref)[_]? =_;rw [show (((i:Nat):Int)-1).toNat=j by lia];exact hg
   refine ⟨_,rfl,bR T A2.ins ⟨_,rfl,r.rw,_,_,_,rfl,rfl,aH.of pC,at_of e1 (by rw [List.getElem?_map,hpa];rfl),?_⟩⟩;refine ⟨_,rfl,bR T A2.ins ⟨_,rfl,_,_,rfl,rfl,r.rw,_,_,_,rfl,rfl,aH.of pC,atj,pb,_,_,_,rfl,rfl,aH.of (aA _ _ epb),wd (i:=0) rfl rfl,?_⟩⟩;have Wc:=Yu (ones:=s.ones) hi;rw [hjj,hh,ht] at Wc;have Wc:(Vbapah.goneOver s.ones s.living)[i]? =some (if here.contains c=true then here else Vbapah.ordered s.ones (here.dropLast++[c])):=Wc;have bsl:bs.length=i:=by rw [r2.length,List.length_take,Q3];lia
   refine ⟨_,rfl,_,rfl,pa,_,rfl,.inl (aH.of (aA _ _ epa)),rfl,Tb _,_,rfl,?_⟩;show if Xn (V.int (c:Nat)) (vN here)=true then _ else _
   rw [Yv];refine aW (fun hc=>?_) fun hc=>?_
   ·rw [if_pos hc] at Wc;refine ⟨_,rfl,.inl ⟨rfl,_,aH.of h2⟩,_,rfl,nr,_,_,rfl,rfl,h2,by rw [List.length_map,bsl];exact Nat.lt_of_le_of_lt (show i<=1000 by lia) (by decide),?_⟩;have kN:Kp (Ar.N ad {r with av:=nr::r.av}) H2 (upd H2 nr (.lst (bs.map V.ref++[.ref pa]))):=Kp.upd.mono fun z hz=>by rw [List.mem_singleton.mp hz];exact List.mem_append_right _ (List.mem_cons_self ..)
    refine ⟨⟨_,_,_,rfl⟩,A2.WS (D:=nr) (List.mem_cons_self ..) Kp.upd ah,fun b o e n=>?_,bs++[pa],by rw [ah,List.map_append];rfl,?_⟩
    ·rw [az (aw e Q4)];exact k2 b o e n
    ·rw [aG Wc];exact Paired.app (r2.mono (bM kN)) (.cons (bM kN _ _ epa) .nil)
   ·rw [if_neg (by rw [hc];exact Bool.false_ne_true)] at Wc;refine ⟨_,rfl,.inl ⟨rfl,_,aH.of h2⟩,_,rfl,_,rfl,_,rfl,_,rfl,uc (aH.of (aA _ _ epa)) fun p3 H3 LN s3 h3=>?_⟩;refine ⟨_,rfl,(by show 1<=sizeLine;decide),?_⟩;intro p4 VP;generalize VQ:upd H3 p4 _=H4;obtain ⟨s4,h4⟩:=aI VP VQ
    have Wd:r6 (vN here) none (some (-1))=vN here.dropLast:=by
     unfold r6;rw [HT.xo,List.drop_zero,Nat.sub_zero];have es:∀ n:Nat,HT.Ii n n (some (-1))=n-1:=fun n=>by
      show (if (-1:Int)<0 then ((-1:Int)+(n:Int)).toNat else min (-1:Int).toNat n)=n-1;rw [if_pos (by decide)]
      lia
     rw [es,aO,List.dropLast_eq_take];unfold vN;rw [List.map_take]
    rw [Wd] at h3;refine fZ (s4 _ _ h3) h4 (aT (by rw [aO,List.length_dropLast];show _+1<=_;lia)) fun nl H5 hnl s5 h5=>?_
    have ZT:=(s3.trans s4).trans s5;have A5:=A2.mono ZT;have e5:H5 nl=some (.lst (vN (here.dropLast++[c]))):=by rw [h5,cS];rfl
    refine ⟨{r with av:=nr::r.av},v,s,nl,_,rfl,A5,e5,fun z hz=>?_,by rw [List.length_append,List.length_dropLast];show _+1<=_;lia,fun H6 p hp h6 k6 A6=>?_⟩
    ·rcases List.mem_append.mp hz with h|h
     ·exact eW z (List.mem_of_mem_take (by rw [<-List.dropLast_eq_take];exact h))
     ·rw [List.mem_singleton.mp h];exact tlt c (List.mem_cons_self ..)
    have Yw:Kp (r.M ad) H5 H6:=k6.mono fun z hz=>by rw [List.mem_singleton.mp hz];exact r.mT
    have h26:H6 nr=some (.lst (bs.map V.ref)):=Yw _ _ (ZT _ _ h2) nrM;refine ⟨nr,_,_,rfl,rfl,h26,by rw [List.length_map,bsl];exact Nat.lt_of_le_of_lt (show i<=1000 by lia) (by decide),?_⟩;have kN:Kp (Ar.N ad {r with av:=nr::r.av}) H6 (upd H6 nr (.lst (bs.map V.ref++[.ref p]))):=Kp.upd.mono fun z hz=>by rw [List.mem_singleton.mp hz];exact List.mem_append_right _ (List.mem_cons_self ..)
    have o6:au (Out (Ar.N ad {r with av:=nr::r.av}) H2) (Out (Ar.N ad {r with av:=nr::r.av}) H6):=bM (Ar.sub (r:={r with av:=nr::r.av}) ((Kp.of ZT).trans Yw));refine ⟨⟨_,_,_,rfl⟩,A6.WS (D:=nr) (List.mem_cons_self ..) Kp.upd ah,fun b o e n=>?_,bs++[p],by rw [ah,List.map_append];rfl,?_⟩
    ·rw [az (aw e Q4)];exact Yw b o (ZT _ _ (k2 b o e n)) n
    ·rw [aG Wc];exact Paired.app ((r2.mono o6).mono (bM kN)) (.cons (bM kN _ _ (bL (A5.fresh hp) h6)) .nil)
  ·rintro σ H2 ⟨⟨u2,u3,u4,rfl⟩,A2,k2,bs,h2,r2⟩;rw [List.take_of_length_le (Nat.le_of_eq (Q3 _ _))] at r2;refine ⟨_,rfl,_,rfl,oo T A2.ins fun H3 i3 k3=>?_⟩;exact q H3 nr (k2.trans ((Kp.one k3).mono fun z hz=>by rw [List.mem_singleton.mp hz];exact r.mA)) (A2.Jm (Kp.one k3) i3 h2 r2)
theorem Q5 {M:List Addr} {av:List Addr} {D:Addr} {H:Hp} {b:Addr} {o:HO} (h:Out (M++av) H b=some o) (ne:b≠D):Out (M++D::av) H b=some o:=by
 refine bL (fun z=>?_) (aA _ _ h);rcases List.mem_append.mp z with z|z
 ·exact dn h (List.mem_append_left _ z)
 ·rcases List.mem_cons.mp z with z|z
  ·exact ne z
  ·exact dn h (List.mem_append_right _ z)
def uU (K:PySem.W.Frag) (ad:Ad):Sp:=fun vs H Q _=>∃ (r:Ar) (v:Vbapah.World) (s:Vbapah.State) (rt:Vbapah.Rates),vs=[.ref r.a]/\ag K ad H r v s/\WL v s/\s.rates=some rt/\s.ones.length+rt.islands*(rt.size-rt.elite)<=300/\s.bests.length<=1000/\
 ∀ H' Kh,Kp (r.M ad) H H'->ag K ad H' {r with rw:=Kh} v (Vbapah.bred s)->Q .cx H'
theorem uV (T:Tx P w K mg base ad):Ok T 12 ad.o5 ad.cy ["arena"] uU:=by
 refine T.lO.ok ko (fun vs H Q E h=>?_) (fun nd bB A outer s H vs Q E hr h=>?_)
 ·obtain ⟨r,v,s,rt,rfl,_⟩:=h;rfl
 ·obtain ⟨r,v,s,rt,rfl,A,S,mi,hb,bl,q⟩:=h;refine ⟨_,(aa (aY (pv 0) (aB bh (aF K (pv 0)) ab) rfl)
   (aa (aY (pv 0) (iZ rfl nd (DA K (aF K (pv 0))) (own:=[("row",1)]) (bC (show kE ["arena","row"] (af gO) _ [("row",1)]=true by decide+kernel)) (fun _ _ _ _ _=>gN 1 nd) (fun _ _ _ _ _=>cu) (fun _ _ _ _ _=>(eC (Gf T) hr T.yz (ie (pv 0) (pv 1))))) rfl)
   (aa (aZ (bx (eC (rW T) hr T.jK (bj (pv 0)))) (ae (bH (eC (MZ T) hr T.HE (bj (pv 0))))) aJ)
   (ae (bH (hZ PySem.F.plainAttrs_list PySem.F.slot_list_append PySem.F.type_list_append cq (aF K (pv 0)) (bj (eC (ug T) hr T.nZ (bj (pv 0)))))))))),?_⟩
  have G:=S.qD rt mi;have R:=G.R;have W:=S.W;have rs:=R.s;have ri:=R.i;refine ⟨_,rfl,cA T A.ins ⟨_,_,rfl,rfl,_,rfl,uR T A.ins fun H1 i1 k1=>?_⟩⟩;have A1:ag K ad H1 r v {s with gen:=s.gen+1}:=A.setGen (Kp.one k1) i1;have kM1:Kp (r.M ad) H H1:=(Kp.one k1).mono fun z hz=>by rw [List.mem_singleton.mp hz];exact r.mA
  obtain ⟨as,ha,rr⟩:=A1.row;have hlen:as.length=s.living.length:=rr.length;have WV:=G.il;refine ⟨_,rfl,bR T A1.ins ⟨r.rw,rfl,⟨_,aH.of (aA _ _ ha)⟩,fun D hD=>?_⟩⟩;have Yt:D∉r.M ad:=fun z=>A1.fresh hD (List.mem_append_left _ z)
  have rwM:r.rw∉r.M ad:=fun z=>dn ha (List.mem_append_left _ z)
  have FO:∀ i,i<=s.living.length->NQ v rt s.ones i ((s.living.take i).foldl (fld v s.panel rt (s.gen+1)) (s.ones,[],s.x)):=fun i hi=>by
   have h:=NQ.fold (panel:=s.panel) (gen:=s.gen+1) W R (s.living.take i) 0 (s.ones,[],s.x) (NQ.start S.O G.x1 G.x2) fun z hz=>G.rows z (List.mem_of_mem_take hz)
   rw [Nat.zero_add,List.length_take,Nat.min_eq_left hi] at h;exact h
  refine aa1 (xs:=as.map V.ref) (aT (by rw [List.length_map];lia)) (fun i acc H2=>ag K ad H2 {r with av:=D::r.av} v {s with gen:=s.gen+1,ones:=((s.living.take i).foldl (fld v s.panel rt (s.gen+1)) (s.ones,[],s.x)).1,x:=((s.living.take i).foldl (fld v s.panel rt (s.gen+1)) (s.ones,[],s.x)).2.2}/\Kp (r.M ad) H1 H2/\∃ bs:List Addr,acc=bs.map V.ref/\gX (Out (Ar.N ad {r with av:=D::r.av}) H2) bs ((s.living.take i).foldl (fld v s.panel rt (s.gen+1)) (s.ones,[],s.x)).2.1)
   ⟨A1.avoid hD (au.laid hD) ah,Kp.of (au.laid hD),[],rfl,.nil⟩ (fun i acc H2 ⟨_,k2,_⟩=>aH.of (k2 _ _ (aA _ _ ha) rwM)) ?_ ?_
  ·rintro i z acc H2 hi aR vd hsz ⟨A2,k2,bs,rfl,rb⟩;obtain ⟨rp,Fp,rfl⟩:=fU hi;obtain ⟨row,yT,jP⟩:=Paired.at rr Fp;have abq:i<s.living.length:=(List.getElem?_eq_some_iff.mp yT).1;have F:=FO i (Nat.le_of_lt abq);have Q6:(s.living.take (i+1)).foldl (fld v s.panel rt (s.gen+1)) (s.ones,[],s.x)=fld v s.panel rt (s.gen+1) ((s.living.take i).foldl (fld v s.panel rt (s.gen+1)) (s.ones,[],s.x)) row:=Ms _ _ _ yT;generalize ht:(s.living.take i).foldl (fld v s.panel rt (s.gen+1)) (s.ones,[],s.x)=t at A2 rb F Q6;have RO0:=G.rows row (List.mem_of_getElem? yT);have RO:eA t.1 rt.size row:=by
    obtain ⟨m,em⟩:=F.pre;rw [em];exact RO0.append
   have rpD:rp≠D:=fun z=>by rw [<-z,aA _ _ jP] at hD;cases hD
   have Ez:Out (Ar.N ad {r with av:=D::r.av}) H2 rp=some (.lst (vN row)):=Q5 (bM (Ar.sub k2) _ _ jP) rpD;have tl:t.1.length<=300:=by
    rw [F.ol];have:i*(rt.size-rt.elite)<=rt.islands*(rt.size-rt.elite):=Nat.mul_le_mul_right _ (by lia)
    lia
   refine ⟨_,rfl,_,rfl,{r with av:=D::r.av},v,{s with gen:=s.gen+1,ones:=t.1,x:=t.2.2},rt,rp,row,rfl,⟨⟨A2,mi,R,W,F.x1,F.x2⟩,S.pl,S.pL,by show t.1.length<=1000;lia,F.O,Ez,RO⟩,by show t.1.length<=900;lia,fun H4 p hp h4 k4 A4=>?_⟩;have e4:=k4 _ _ aR Yt;have kN:Kp (Ar.N ad {r with av:=D::r.av}) H4 (upd H4 D (.lst (bs.map V.ref++[.ref p]))):=Kp.upd.mono fun z hz=>by rw [List.mem_singleton.mp hz];exact List.mem_append_right _ (List.mem_cons_self ..)
   have o4:au (Out (Ar.N ad {r with av:=D::r.av}) H2) (Out (Ar.N ad {r with av:=D::r.av}) H4):=bM (Ar.sub (r:={r with av:=D::r.av}) k4);refine VW.mk e4 vd hsz ⟨?_,fun b o e n=>?_,bs++[p],by rw [List.map_append];rfl,?_⟩
   ·rw [Q6];exact A4.WS (D:=D) (List.mem_cons_self ..) Kp.upd ah
   ·rw [az (aw e hD)];exact (k2.trans k4) b o e n
   ·rw [Q6];exact Paired.app ((rb.mono o4).mono (bM kN)) (.cons (bM kN _ _ (bL (A2.fresh hp) h4)) .nil)
  ·rintro acc H2 aR vd ⟨A2,k2,bs,rfl,rb⟩;rw [List.length_map,hlen,List.take_of_length_le (Nat.le_refl _)] at A2 rb;have F:=FO s.living.length (Nat.le_refl _);rw [List.take_of_length_le (Nat.le_refl _)] at F;have UB:=xC S.world mi;generalize ht:s.living.foldl (fld v s.panel rt (s.gen+1)) (s.ones,[],s.x)=t at A2 rb F UB;refine ⟨_,rfl,oo T A2.ins fun H3 i3 k3=>?_⟩;have A3:=A2.Jm (Kp.one k3) i3 aR rb;have kM3:Kp (r.M ad) H H3:=(kM1.trans k2).trans ((Kp.one k3).mono fun z hz=>by rw [List.mem_singleton.mp hz];exact r.mA);have F3:N8 {s with gen:=s.gen+1,ones:=t.1,x:=t.2.2,living:=t.2.1}:=fun l hl=>by
    have z:=F.rows l hl;refine ⟨fun e=>?_,by rw [z.len];lia,z.lt⟩;have:=z.len;rw [e] at this;simp at this
    lia
   have We:t.2.1.length=rt.islands:=by rw [F.len,WV]
   have eg:Q2 {s with gen:=s.gen+1,ones:=t.1,x:=t.2.2,living:=t.2.1} rt=decide (rt.every≠0/\1<rt.islands/\(s.gen+1)%rt.every=0):=by
    unfold Q2;rw [show ({s with gen:=s.gen+1,ones:=t.1,x:=t.2.2,living:=t.2.1}:Vbapah.State).living.length=rt.islands from We]
   have Tc:(over rt (s.gen+1) t.1 t.2.1).length=rt.islands/\∀ l∈over rt (s.gen+1) t.1 t.2.1,eA t.1 rt.size l:=by
    unfold over;split
    ·have z:=AO (ones:=t.1) (l:=t.2.1) (show 0<rt.size by lia) F.rows;exact ⟨by rw [z.1,We],z.2⟩
    ·exact ⟨We,F.rows⟩
   refine ⟨_,rfl,{r with rw:=D},v,{s with gen:=s.gen+1,ones:=t.1,x:=t.2.2,living:=t.2.1},rt,rfl,A3,mi,_,rfl,?_⟩;rw [eg];refine aW (fun hc=>?g1) fun hc=>?g2
   case' g1=>
    have eo:over rt (s.gen+1) t.1 t.2.1=Vbapah.goneOver t.1 t.2.1:=by unfold over;rw [if_pos (of_decide_eq_true hc)]
    refine ⟨_,rfl,{r with rw:=D},v,{s with gen:=s.gen+1,ones:=t.1,x:=t.2.2,living:=t.2.1},rfl,A3,by show t.2.1.length<=3;lia,F3,fun H4 UC k4 A4=>?_⟩;show Ka (tBM _ "list" Iq (R6 K (LU 0) (Str.ofString "bests")) (oB (Nz (mv K ad) [] E0 (oB (LU 0) C2)) C2)) {nx:=fun x H'=>Q V.cx H',rt:=Q} [some (V.ref r.a),none] H4;refine (show ∀ (H4:Hp) (UC:Addr),Kp (r.M ad) H3 H4->ag K ad H4 {r with rw:=UC} v {s with gen:=s.gen+1,ones:=t.1,x:=t.2.2,living:=over rt (s.gen+1) t.1 t.2.1}->Ka _ _ [some (V.ref r.a),none] H4 from ?_) H4 UC k4 (by rw [eo];exact A4)
   case' g2=>
    have eo:over rt (s.gen+1) t.1 t.2.1=t.2.1:=by unfold over;rw [if_neg (of_decide_eq_false hc)]
    show Ka (tBM _ "list" Iq (R6 K (LU 0) (Str.ofString "bests")) (oB (Nz (mv K ad) [] E0 (oB (LU 0) C2)) C2)) {nx:=fun x H'=>Q V.cx H',rt:=Q} [some (V.ref r.a),none] H3;refine (show ∀ (H4:Hp) (UC:Addr),Kp (r.M ad) H3 H4->ag K ad H4 {r with rw:=UC} v {s with gen:=s.gen+1,ones:=t.1,x:=t.2.2,living:=over rt (s.gen+1) t.1 t.2.1}->Ka _ _ [some (V.ref r.a),none] H4 from ?_) H3 D (Kp.refl _ _) (by rw [eo];exact A3)
   all_goals
    intro H4 UC k4 A4;obtain ⟨yS,Yx,rb4⟩:=A4.HK;refine ⟨_,rfl,dU T A4.ins ⟨.inl ⟨rfl,_,aH.of Yx⟩,_,rfl,{r with rw:=UC},v,_,rfl,A4,by show (over rt (s.gen+1) t.1 t.2.1).length<=3;lia,fun l hl=>?_,fun H5 p hp s5 h5=>?_⟩⟩
    ·have z:=Tc.2 l hl;refine ⟨fun e=>?_,z.lt⟩;have:=z.len;rw [e] at this;simp at this
     lia
    have A5:=A4.mono s5;have lb4:yS.length=s.bests.length:=rb4.length;refine ⟨r.bs,_,_,rfl,rfl,s5 _ _ Yx,by rw [List.length_map];exact Nat.lt_of_le_of_lt (show yS.length<=1000 by lia) (by decide),?_⟩;have A6:=A5.N6 (s5 _ _ Yx) (bL (A4.fresh hp) h5);refine q _ UC (((kM3.trans k4).trans (Kp.of s5)).trans (Kp.upd.mono fun z hz=>by rw [List.mem_singleton.mp hz];exact r.mS)) ?_;rw [UB];exact A6
def ED (K:PySem.W.Frag) (ad:Ad):Sp:=fun vs H Q _=>∃ (r:Ar) (v:Vbapah.World) (s:Vbapah.State) (rt:Vbapah.Rates) (k:Nat),vs=[.ref r.a,.int (k:Nat)]/\ag K ad H r v s/\s.rates=some rt/\xB rt/\k<=10/\Q (.int (s.ones.length+k*(rt.islands*(rt.size-rt.elite)):Nat)) H
theorem EE (T:Tx P w K mg base ad):Ok T 1 ad.Bm ad.fD ["arena","generations"] ED:=by
 refine T.vV.ok tj (fun vs H Q E h=>?_) (fun nd bB A outer s H vs Q E hr h=>?_)
 ·obtain ⟨r,v,s,rt,k,rfl,_⟩:=h;rfl
 ·obtain ⟨r,v,s,rt,k,rfl,A,mi,R,hk,q⟩:=h;refine ⟨_,(aa (sS 2 nd (aF K (pv 0)))
   (ae (aq (aB bh (eL K T.aX (aF K (pv 0))) (aB jd (aB jd (pv 1) (aF K (pv 2))) (aB cV (aF K (pv 2)) (aF K (pv 2)))))))),?_⟩
  obtain ⟨qa,d,⟨wl,hR,Pw⟩,ed,hD,ins⟩:=A.rF mi;obtain ⟨bl,Ur,ZU⟩:=A.count;have ri:=R.i;have rs:=R.s;have re:=R.e;have e1:((k:Nat):Int)*(rt.islands:Nat)=((k*rt.islands:Nat):Int):=by rw [Int.natCast_mul]
  have e2:((rt.size:Nat):Int)-(rt.elite:Nat)=((rt.size-rt.elite:Nat):Int):=by lia
  have b1:k*rt.islands<=30:=Nat.mul_le_mul hk ri.2;refine ⟨_,rfl,bz T ins ?_⟩;refine ⟨_,rfl,aM T ins ⟨r.bl,_,rfl,.inl (aH.of Ur),_,rfl,_,rfl,jv T hR ⟨_,_,rfl,rfl,.inl (by lia),_,rfl,gD T hR ⟨_,rfl,l9 T hR ⟨_,_,rfl,rfl,_,_,rfl,rfl,.inl (by rw [e1];lia),_,_,rfl,rfl,?_⟩⟩⟩⟩⟩;have e3:((bl.length:Nat):Int)+((k:Nat):Int)*(rt.islands:Nat)*(((rt.size:Nat):Int)-(rt.elite:Nat))=((s.ones.length+k*(rt.islands*(rt.size-rt.elite)):Nat):Int):=by
   rw [e1,e2,ZU, <-Int.natCast_mul, <-Int.natCast_add,Nat.mul_assoc]
  show Q (.int (((bl.length:Nat):Int)+((k:Nat):Int)*(rt.islands:Nat)*(((rt.size:Nat):Int)-(rt.elite:Nat)))) H;rw [e3];exact q
theorem Le (v:Vbapah.World) (panel:List Vbapah.Program) (x:Nat):Vbapah.filled v panel 0 x=([],x):=rfl
theorem ui (v:Vbapah.World) (panel:List Vbapah.Program) (k x:Nat):Vbapah.filled v panel (k+1) x=(jM v panel 0 x::(Vbapah.filled v panel k (Vbapah.drawnProgram v x).2.2).1,(Vbapah.filled v panel k (Vbapah.drawnProgram v x).2.2).2):=by simp only [Vbapah.filled,jM]
theorem uj (v:Vbapah.World) (panel:List Vbapah.Program):∀ (k x:Nat),Vbapah.filled v panel (k+1) x=((Vbapah.filled v panel k x).1++[jM v panel 0 (Vbapah.filled v panel k x).2],(Vbapah.drawnProgram v (Vbapah.filled v panel k x).2).2.2)
 |0,x=>by simp only [ui,Le,List.nil_append]
 |k+1,x=>by
  have ih:=uj v panel k (Vbapah.drawnProgram v x).2.2;rw [ui v panel (k+1) x,ih];simp only [ui v panel k x,List.cons_append]
theorem Ac {v:Vbapah.World} {panel:List Vbapah.Program} {ones:List Vbapah.One} {x:Nat} (W:sA v) (O:Fo v ones) (x1:1<=x) (x2:x<Vbapah.PRIME):∀ k,Fo v (ones++(Vbapah.filled v panel k x).1)/\1<=(Vbapah.filled v panel k x).2/\(Vbapah.filled v panel k x).2<Vbapah.PRIME
 |0=>⟨by rw [show (Vbapah.filled v panel 0 x).1=[] from rfl,List.append_nil];exact O,x1,x2⟩
 |k+1=>by
  obtain ⟨h1,h2,h3⟩:=Ac (panel:=panel) W O x1 x2 k;obtain ⟨d1,d2,d3⟩:=jT (w:=v) (x:=(Vbapah.filled v panel k x).2) W.l.1 W.pos h2 h3;rw [uj, <-List.append_assoc];exact ⟨h1.snoc d1 fun p q e=>(by cases e),d2,d3⟩
theorem ag.Q7 {H H':Hp} {r:Ar} {v:Vbapah.World} {s:Vbapah.State} {d q:Addr} {rt:Vbapah.Rates} {x:Nat} (A:ag K ad H {r with av:=d::r.av} v s) (hs:s.rates=none) (k:Kp [r.a] H H') (i:bg ad H' r.a (.ref r.wa) (.ref r.pl) (.ref r.bl) (.ref q) (.ref d) (.ref r.rw) (.int (s.gen:Nat)) (.ref r.bs))
  (hq:jB ad (Out (Ar.N ad {r with av:=d::r.av}) H) q rt) (hd:bw ad H d x):ag K ad H' {r with ra:= .ref q,dr:=some d} v {s with rates:=some rt,x:=x}:=by
 have hn:r.ra=.cx/\r.dr=none:=by
  have z:=A.rat;rw [hs] at z;exact z
 have t:=A.rest k;have eN:Ar.N ad {r with ra:= .ref q,dr:=some d}=Ar.N ad {r with av:=d::r.av}:=by
  unfold Ar.N Ar.M;rw [hn.2];rfl
 have kM:Kp (Ar.M ad {r with av:=d::r.av}) H H':=k.mono fun z hz=>by rw [List.mem_singleton.mp hz];exact r.mA
 have o:=bM (Ar.sub kM);have dM:d≠r.a:=fun z=>A.VU (m:=d) (List.mem_cons_self ..) (Ar.mA (ad:=ad) {r with av:=d::r.av}) z
 obtain ⟨t1,t2,t3,t4,t5,t6,t7,t8,t9⟩:=t;obtain ⟨dx,ed⟩:=hd;refine ⟨?_,fun m hm=>t2 m (List.mem_cons_of_mem _ hm),i,?_,?_,?_,?_,?_,?_,⟨q,d,rfl,rfl,?_,dx,k.hG ed dM⟩⟩
 ·rw [eN];exact t1
 ·rw [eN];exact t3
 ·rw [eN];exact t4
 ·rw [eN];exact t5
 ·rw [eN];exact t6
 ·rw [eN];exact t7
 ·rw [eN];exact t8
 ·rw [eN];exact hq.mono o
def b9 (ones:List Vbapah.One) (rt:Vbapah.Rates):List (List Nat):=(List.range rt.islands).map fun i=>Vbapah.ordered ones ((List.range rt.size).map fun k=>i*rt.size+k)
def N9 (s:Vbapah.State) (rt:Vbapah.Rates) (f:List Vbapah.One×Nat):Vbapah.State:=
 {s with rates:=some rt,x:=f.2,ones:=s.ones++f.1,living:=b9 (s.ones++f.1) rt,bests:=[(b9 (s.ones++f.1) rt).map fun l=>Vbapah.scoreAt (s.ones++f.1) (l.headD 0)]}
def begun (v:Vbapah.World) (s:Vbapah.State) (rt:Vbapah.Rates) (x:Nat):Vbapah.State:=N9 s rt (Vbapah.filled v s.panel (rt.islands*rt.size-s.ones.length) x)
theorem yV {ones:List Vbapah.One} {rt:Vbapah.Rates} (R:xB rt) (h:ones.length=rt.islands*rt.size):(b9 ones rt).length=rt.islands/\∀ l∈b9 ones rt,eA ones rt.size l:=by
 refine ⟨by unfold b9;rw [List.length_map,List.length_range],fun l hl=>?_⟩;unfold b9 at hl;obtain ⟨i,hi,rfl⟩:=List.mem_map.mp hl;have hi:=List.mem_range.mp hi;refine eA.ordered (by rw [List.length_map,List.length_range]) fun z hz=>?_
 obtain ⟨k,hk,rfl⟩:=List.mem_map.mp hz;have hk:=List.mem_range.mp hk;rw [h];have:(i+1)*rt.size<=rt.islands*rt.size:=Nat.mul_le_mul_right _ hi;rw [Nat.add_mul,Nat.one_mul] at this
 lia
def yW (K:PySem.W.Frag) (ad:Ad):Sp:=fun vs H Q _=>∃ (r:Ar) (v:Vbapah.World) (s:Vbapah.State) (rt:Vbapah.Rates) (q d:Addr) (x:Nat),vs=[.ref r.a,.ref q,.ref d]/\ag K ad H {r with av:=d::r.av} v s/\s.rates=none/\xB rt/\sA v/\s.panel.length<=4/\(∀ y∈s.panel,rT v y)/\
 Fo v s.ones/\s.ones.length<=rt.size/\s.gen=0/\s.bests=[]/\jB ad (Out (Ar.N ad {r with av:=d::r.av}) H) q rt/\bw ad H d x/\1<=x/\x<Vbapah.PRIME/\
 ∀ H' Kh,Kp (d::r.M ad) H H'->ag K ad H' {r with ra:= .ref q,dr:=some d,rw:=Kh} v (begun v s rt x)->Q .cx H'
theorem yX (T:Tx P w K mg base ad):Ok T 11 ad.tG ad.da ["arena","rates","draws"] yW:=by
 refine T.pd.ok nc (fun vs H Q E h=>?_) (fun nd bB A outer s H vs Q E hr h=>?_)
 ·obtain ⟨r,v,s,rt,q,d,x,rfl,_⟩:=h;rfl
 ·obtain ⟨r,v,s,rt,q,d,x,rfl,A,hs,R,W,p4,pL,O,ol,g0,b0,hR,hD,x1,x2,qq⟩:=h;refine ⟨_,(aa (aY (pv 0) (pv 1) rfl)
   (aa (aY (pv 0) (pv 2) rfl)
   (aa (oA PassesOwn.never (aS GO (eL K T.aX (aF K (pv 0))) (aB jd (aF K (pv 1)) (aF K (pv 1)))) (ae (bH (eC (F4 T) hr T.yu (bj (pv 0))))))
   (aa (aY (pv 0) (iZ rfl nd (fO rfl T.d9 (bj (aF K (pv 1)))) (own:=[("island",3)]) (bC (show kE ["arena","rates","draws","island"] (af jk) _ [("island",3)]=true by decide+kernel)) (fun _ _ _ _ _=>gN 3 nd) (fun _ _ _ _ _=>cu) (fun _ _ _ _ _=>(eC (uh T) hr T.p7 (ie (pv 0) (eC (F6 T) hr T.yw (ie (aF K (pv 1)) (pv 3))))))) rfl)
   (ae (bH (hZ PySem.F.plainAttrs_list PySem.F.slot_list_append PySem.F.type_list_append cq (aF K (pv 0)) (bj (eC (ug T) hr T.nZ (bj (pv 0))))))))))),?_⟩
  have rs:=R.s;have ri:=R.i;have hsz:rt.islands*rt.size<=30:=Nat.mul_le_mul ri.2 rs.2;have abr:rt.size<=rt.islands*rt.size:=Nat.le_mul_of_pos_left _ (by lia);refine ⟨_,rfl,_,rfl,Ef T A.ins fun H1 i1 k1=>?_⟩;refine ⟨_,rfl,_,rfl,Eg T i1 fun H2 i2 k2=>?_⟩;have A2:=A.Q7 (rt:=rt) (x:=x) (q:=q) hs ((Kp.one k1).trans (Kp.one k2)) i2 hR hD;have kM2:Kp (d::r.M ad) H H2:=((Kp.one k1).trans (Kp.one k2)).mono fun z hz=>by rw [List.mem_singleton.mp hz];exact List.mem_cons_of_mem _ r.mA
  have eM:∀ z∈Ar.M ad {r with ra:= .ref q,dr:=some d},z∈d::r.M ad:=fun z hz=>by
   unfold Ar.M at hz ⊢;simp only [Option.toList_some,List.mem_cons,List.not_mem_nil,or_false] at hz ⊢;rcases hz with h|h|h|h|h|h<;>simp [h]
  generalize Td:({r with ra:= .ref q,dr:=some d}:Ar)=r1 at A2 eM;have ea:r1.a=r.a:=by rw [<-Td]
  have eqd:r1.ra=.ref q/\r1.dr=some d:=by rw [<-Td];exact ⟨rfl,rfl⟩
  refine ⟨fun f σ H3=>(∃ u,σ=[some (.ref r.a),some (.ref q),some (.ref d),u])/\∃ j:Nat,s.ones.length+j+f=rt.islands*rt.size/\Kp (r1.M ad) H2 H3/\ag K ad H3 r1 v {s with rates:=some rt,x:=(Vbapah.filled v s.panel j x).2,ones:=s.ones++(Vbapah.filled v s.panel j x).1},
   ⟨rt.islands*rt.size-s.ones.length,⟨_,rfl⟩,0,by lia,Kp.refl _ _,?_⟩,?_⟩
  ·have e0:s.ones++(Vbapah.filled v s.panel 0 x).1=s.ones:=List.append_nil _;rw [e0];exact A2
  rintro f σ H3 ⟨⟨u,rfl⟩,j,hj,k3,A3⟩;obtain ⟨O3,y1,y2⟩:=Ac (panel:=s.panel) W O x1 x2 j;have Px:=nQ v s.panel j x;have efs:=uj v s.panel j x;obtain ⟨qa,d3,⟨wl,ZV,Pw⟩,ed3,hD3,Jb⟩:=A3.rF rfl;have eq3:qa=q:=by
   obtain ⟨dx,z⟩:=Jb;obtain ⟨dx',z'⟩:=A3.ins;rw [z,eqd.1] at z';injection z' with z'
   injection z' with _ _ z'
   simp only [yK,List.cons.injEq,Prod.mk.injEq,V.ref.injEq] at z';exact z'.2.2.2.1.2
  subst eq3;obtain ⟨bl,Ur,ZU⟩:=A3.count;rw [ea] at Jb;have ZU:bl.length=s.ones.length+j:=by rw [ZU];show (s.ones++_).length=_;rw [List.length_append,Px]
  refine ⟨_,rfl,aM T Jb ⟨r1.bl,_,rfl,.inl (aH.of Ur),_,rfl,jv T ZV ⟨_,rfl,gD T ZV ⟨_,_,rfl,rfl,.inl (by lia),_,_,rfl,rfl,_,rfl,?_⟩⟩⟩⟩;have em:((rt.islands:Nat):Int)*(rt.size:Nat)=((rt.islands*rt.size:Nat):Int):=by rw [Int.natCast_mul]
  show if decide (((bl.length:Nat):Int)<((rt.islands:Nat):Int)*(rt.size:Nat))=true then _ else _
  rw [em];generalize hfs:Vbapah.filled v s.panel j x=fs at A3 O3 y1 y2 Px efs;refine aW (fun hc=>?_) fun hc=>?_
  ·have eW:=of_decide_eq_true hc;refine ⟨fun σ' H'=>(∃ u,σ'=[some (.ref r.a),some (.ref qa),some (.ref d),u])/\∃ j2:Nat,s.ones.length+j2+(f-1)=rt.islands*rt.size/\Kp (r1.M ad) H2 H'/\ag K ad H' r1 v {s with rates:=some rt,x:=(Vbapah.filled v s.panel j2 x).2,ones:=s.ones++(Vbapah.filled v s.panel j2 x).1},fun σ' H' z=>⟨f-1,by lia,z⟩,?_⟩;refine ⟨_,rfl,r1,v,{s with rates:=some rt,x:=fs.2,ones:=s.ones++fs.1},rt,(show [V.ref r.a]=[V.ref r1.a] by rw [ea]),A3,rfl,W,p4,pL,?_,y1,y2,fun H4 z k4 A4=>?_⟩
   ·show (s.ones++fs.1).length<=1000;rw [List.length_append,Px]
    lia
   refine ⟨⟨_,rfl⟩,j+1,by lia,k3.trans k4,?_⟩;rw [efs, <-List.append_assoc];have A4:ag K ad H4 r1 v {s with rates:=some rt,x:=(Vbapah.drawnProgram v fs.2).2.2,ones:=s.ones++fs.1++[jM v s.panel s.gen fs.2]}:=A4;rw [g0] at A4;rw [g0];exact A4
  ·have RN:=of_decide_eq_false hc;have ejj:j=rt.islands*rt.size-s.ones.length:=by lia
   rw [ejj] at hfs;have UD:(s.ones++fs.1).length=rt.islands*rt.size:=by rw [List.length_append,Px];lia
   obtain ⟨fr1,fr2⟩:=yV R UD;have Yy:begun v s rt x={s with rates:=some rt,x:=fs.2,ones:=s.ones++fs.1,living:=b9 (s.ones++fs.1) rt,bests:=[(b9 (s.ones++fs.1) rt).map fun l=>Vbapah.scoreAt (s.ones++fs.1) (l.headD 0)]}:=by unfold begun N9;rw [hfs]
   generalize acf:s.ones++fs.1=ones at A3 UD fr1 fr2 Yy O3;refine ⟨_,rfl,jv T ZV ⟨_,rfl,by lia,by lia,fun D C8=>?_⟩⟩;rw [Int.toNat_natCast];have Yt:D∉r1.M ad:=fun z=>A3.fresh C8 (List.mem_append_left _ z)
   refine Ya (Nat.le_trans (show rt.islands<=3 by lia) (by decide)) (fun i acc H4=>ag K ad H4 {r1 with av:=D::r1.av} v {s with rates:=some rt,x:=fs.2,ones:=ones}/\Kp (r1.M ad) H3 H4/\∃ bs:List Addr,acc=bs.map V.ref/\gX (Out (Ar.N ad {r1 with av:=D::r1.av}) H4) bs ((b9 ones rt).take i))
    ⟨A3.avoid C8 (au.laid C8) ah,Kp.of (au.laid C8),[],rfl,.nil⟩ ?_ ?_
   ·rintro i acc H4 hi aR hlen hsz ⟨A4,k4,bs,rfl,rb⟩;have e1:(0:Int)+(i:Nat)=(i:Nat):=Int.zero_add _;obtain ⟨qb,d4,⟨wl4,hR4,_⟩,ed4,hD4,QM⟩:=A4.rF rfl;have abt:fM ad H4 qa (.int (rt.islands:Nat)) (.int (rt.size:Nat)) (.int (rt.elite:Nat)) (.int (rt.pick:Nat)) (.int (rt.every:Nat)) (.ref wl):=by
     have z:=A3.rat;obtain ⟨q0,d0,e0,_,⟨wl0,hR0,_⟩,_⟩:=z;rw [eqd.1] at e0;cases e0;have abu:=(hR0.mono (aA (M:=r1.N ad)));obtain ⟨dx0,ez0⟩:=abu;obtain ⟨dx,ez⟩:=ZV;rw [ez] at ez0;cases ez0;obtain ⟨dx1,ez1⟩:=hR0;exact ⟨dx1,k4 _ _ (aA _ _ ez1) fun y=>dn ez1 (List.mem_append_left _ y)⟩
    refine ⟨_,rfl,_,rfl,gD T abt ⟨_,rfl,rt.size,i,?_,by lia,by lia,fun H5 ns OX s5 h5=>?_⟩⟩
    ·show [V.int _,V.int ((0:Int)+(i:Nat))]=_;rw [e1]
    have A5:=A4.mono s5;have hg:(b9 ones rt)[i]? =some (Vbapah.ordered ones ((List.range rt.size).map fun k=>i*rt.size+k)):=by
     unfold b9;rw [List.getElem?_map,List.getElem?_range hi];rfl
    have RO:=fr2 _ (List.mem_of_getElem? hg);refine ⟨{r1 with av:=D::r1.av},v,_,ns,_,(show [V.ref r.a,V.ref ns]=[V.ref r1.a,V.ref ns] by rw [ea]),A5,h5,fun z hz=>?_,by rw [List.length_map,List.length_range];lia,fun H6 p hp h6 k6 A6=>?_⟩
    ·exact RO.lt z ((cZ _ _).mem_iff.mpr hz)
    have Yw:Kp (r1.M ad) H5 H6:=k6.mono fun z hz=>by rw [List.mem_singleton.mp hz];exact r1.mT
    have k46:Kp (r1.M ad) H4 H6:=(Kp.of s5).trans Yw;have e6:=k46 _ _ aR Yt;have kN:Kp (Ar.N ad {r1 with av:=D::r1.av}) H6 (upd H6 D (.lst (bs.map V.ref++[.ref p]))):=Kp.upd.mono fun z hz=>by rw [List.mem_singleton.mp hz];exact List.mem_append_right _ (List.mem_cons_self ..)
    have o6:au (Out (Ar.N ad {r1 with av:=D::r1.av}) H4) (Out (Ar.N ad {r1 with av:=D::r1.av}) H6):=bM (Ar.sub (r:={r1 with av:=D::r1.av}) k46);refine VW.mk e6 hlen hsz ⟨A6.WS (D:=D) (List.mem_cons_self ..) Kp.upd ah,fun b o e n=>?_,bs++[p],by rw [List.map_append];rfl,?_⟩
    ·rw [az (aw e C8)];exact (k4.trans k46) b o e n
    ·rw [aG hg];exact Paired.app ((rb.mono o6).mono (bM kN)) (.cons (bM kN _ _ (bL (A5.fresh hp) h6)) .nil)
   ·rintro acc H4 aR hlen ⟨A4,k4,bs,rfl,rb⟩;rw [List.take_of_length_le (Nat.le_of_eq fr1)] at rb;refine ⟨_,rfl,?_⟩;have w4:=oo T A4.ins (y:= .ref D) (R:=fun H5=>bg ad H5 r1.a (.ref r1.wa) (.ref r1.pl) (.ref r1.bl) r1.ra r1.dv (.ref D) (.int (s.gen:Nat)) (.ref r1.bs)/\Kp [r1.a] H4 H5) fun H5 i5 k5=>⟨i5,Kp.one k5⟩
    rw [show (Ar.a {r1 with av:=D::r1.av})=r.a from ea] at w4;obtain ⟨a2,C,dx,fs2,z1,z2,z3,z4,z5,z6,z7⟩:=w4;refine ⟨a2,C,dx,fs2,z1,z2,z3,z4,z5,?_⟩
    revert z6 z7
    generalize upd H4 a2 (.ins C dx (kD _ _ fs2))=H5;intro i5 k5;rw [<-ea] at k5 i5;have A5:=A4.Jm k5 i5 aR rb;obtain ⟨as5,hb5,rb5⟩:=A5.HK;have Yz:=A5.ins;rw [show (Ar.a {r1 with rw:=D})=r.a from ea] at Yz;refine ⟨_,rfl,dU T Yz ⟨.inl ⟨rfl,_,aH.of hb5⟩,_,rfl,{r1 with rw:=D},v,_,(show [V.ref r.a]=[V.ref r1.a] by rw [ea]),A5,by show (b9 ones rt).length<=3;lia,fun l hl=>?_,fun H6 p hp s6 h6=>?_⟩⟩
    ·have z:=fr2 l hl;refine ⟨fun e=>?_,z.lt⟩;have:=z.len;rw [e] at this;simp at this
     lia
    have A6:=A5.mono s6;have lb5:as5.length=s.bests.length:=rb5.length;rw [b0] at lb5;refine ⟨r1.bs,_,_,rfl,rfl,s6 _ _ hb5,by rw [List.length_map,lb5];decide,?_⟩;have A7:=A6.N6 (s6 _ _ hb5) (bL (A5.fresh hp) h6);have OR:Kp (r1.M ad) H2 (upd H6 r1.bs (.lst (as5.map V.ref++[.ref p]))):=(((k3.trans k4).trans (k5.mono fun z hz=>by rw [List.mem_singleton.mp hz];exact r1.mA)).trans (Kp.of s6)).trans (Kp.upd.mono fun z hz=>by rw [List.mem_singleton.mp hz];exact r1.mS);refine qq _ D (kM2.trans (OR.mono eM)) ?_;rw [Yy];have er:({r with ra:= .ref qa,dr:=some d,rw:=D}:Ar)={r1 with rw:=D}:=by rw [<-Td]
    rw [er];have A7:ag K ad (upd H6 r1.bs (.lst (as5.map V.ref++[.ref p]))) {r1 with rw:=D} v {s with rates:=some rt,x:=fs.2,ones:=ones,living:=b9 ones rt,bests:=s.bests++[K5 {s with rates:=some rt,x:=fs.2,ones:=ones,living:=b9 ones rt}]}:=A7;rw [b0] at A7;exact A7
end
theorem abv {X:Cx} {K:PySem.W.Frag} (hu:X.A.units+64<cLine) (h:X.K=K:=by rfl):zq X (compareOp .Eq) (Xt K):=by subst h;exact Vn hu
def O1 (t:FF):PyData:= .tuple [.int t.1,.int t.2.1,.int t.2.2]
theorem i9.dp {K:PySem.W.Frag} {H:Hp} {a:Addr} {t:FF} (h:i9 K H a t):Dp K H (.ref a) (O1 t):= .tup h (.cons (.int _) (.cons (.int _) (.cons (.int _) .nil)))
theorem Te (c d:Vbapah.Cell):PyData.eqv (O1 (hU d)) (O1 (hU c))=decide (c=d):=by
 show (((d.op:Nat):Int)==(c.op:Nat)&&(((d.a:Nat):Int)==(c.a:Nat)&&(((d.b:Nat):Int)==(c.b:Nat)&&true)))=decide (c=d);by_cases h:c=d
 ·subst h;simp
 ·rw [decide_eq_false h];cases e:(((d.op:Nat):Int)==(c.op:Nat)&&(((d.a:Nat):Int)==(c.a:Nat)&&(((d.b:Nat):Int)==(c.b:Nat)&&true))) with
  |false=>rfl
  |true=>
   exfalso;rw [Bool.and_eq_true,Bool.and_eq_true,Bool.and_eq_true,beq_iff_eq,beq_iff_eq,beq_iff_eq] at e;apply h;cases c;cases d;simp only [Vbapah.Cell.mk.injEq];simp only at e
   lia
theorem BB (t:FF):SeqAt.shaped (O1 t)=true:=rfl
theorem mw (c:Vbapah.Cell):∀ (y:List Vbapah.Cell) (row:List Nat) (last:Nat),row.length=y.length+1->(Vbapah.rowNext c y row last).length=y.length
 |[],_,_,_=>by unfold Vbapah.rowNext;rfl
 |d::y,[],_,h=>by simp at h
 |d::y,[_],_,h=>by simp at h
 |d::y,a::b::r,last,h=>by
  unfold Vbapah.rowNext;rw [List.length_cons,List.length_cons,mw c y (b::r) _ (by simpa using h)]
theorem EF (c:Vbapah.Cell):∀ (y:List Vbapah.Cell) (row:List Nat) (last i:Nat) (d:Vbapah.Cell) (a b p:Nat),row.length=y.length+1->y[i]? =some d->row[i]? =some a->row[i+1]? =some b->(last::Vbapah.rowNext c y row last)[i]? =some p->
  (Vbapah.rowNext c y row last)[i]? =some (min (min (p+1) (b+1)) (a+(if c=d then 0 else 1)))
 |[],_,_,i,d,_,_,_,_,h,_,_,_=>by simp at h
 |_::_,[],_,_,_,_,_,_,h,_,_,_,_=>by simp at h
 |_::_,[_],_,_,_,_,_,_,h,_,_,_,_=>by simp at h
 |e::y,a'::b'::r,last,0,d,a,b,p,hl,hy,ha,hb,hp=>by
  have e1:e=d:=Option.some.inj hy;have e2:a'=a:=Option.some.inj ha;have e3:b'=b:=Option.some.inj hb;have e4:last=p:=Option.some.inj hp;subst e1 e2 e3 e4;unfold Vbapah.rowNext;rfl
 |e::y,a'::b'::r,last,i+1,d,a,b,p,hl,hy,ha,hb,hp=>by
  unfold Vbapah.rowNext at hp ⊢;exact EF c y (b'::r) _ i d a b p (by simpa using hl) hy ha hb hp
def di (y:List Vbapah.Cell) (row:List Nat) (c:Vbapah.Cell):List Nat:=(row.headD 0+1)::Vbapah.rowNext c y row (row.headD 0+1)
section
variable {P:Program} {w:World} {K:PySem.W.Frag} {mg:Str->Option Value} {base:Heap} {ad:Ad}
def yY (K:PySem.W.Frag) (ad:Ad):Sp:=fun vs H Q _=>∃ (b c o:Addr) (row:List Nat) (cell:Vbapah.Cell) (y:Vbapah.Program),vs=[.ref b,.ref c,.ref o]/\H b=some (.lst (vN row))/\row.length=y.length+1/\i9 K H c (hU cell)/\bG K H o y/\y.length<=1000/\
 ∀ H' p,H p=none->au H H'->H' p=some (.lst (vN (di y row cell)))->Q (.ref p) H'
theorem yZ (T:Tx P w K mg base ad):Ok T 1 ad.tH ad.dc ["before","cell","other"] yY:=by
 refine T.pf.ok ng (fun vs H Q E h=>?_) (fun nd bB A outer s H vs Q E hr h=>?_)
 ·obtain ⟨b,c,o,row,cell,y,rfl,_⟩:=h;rfl
 ·obtain ⟨b,c,o,row,cell,y,rfl,hb,hl,hT,⟨as,ho,rr⟩,y1,q⟩:=h;refine ⟨_,(aa (sS 3 nd (aE (bj (aB bh (xL K (pv 0) ab) ab))))
   (aa (jc PassesOwn.never rfl (fO rfl T.d9 (bj (eL K T.aX (pv 2)))) (gN 4 nd) (aa (sS 5 nd (aB bh (xL K (pv 0) (pv 4)) ab))
   (aa (aZ (Ic (abv (K:=K) hr.units) (xL K (pv 2) (pv 4)) (pv 1) (L1 _)) (ae (sS 5 nd (xL K (pv 0) (pv 4)))) aJ)
   (ae (bH (hZ PySem.F.plainAttrs_list PySem.F.slot_list_append PySem.F.type_list_append cq (pv 3) (bj (cj (OL rfl) (by rfl) T.KP Mv (fY (pv 5) (aB bh (xL K (pv 0) (aB bh (pv 4) ab)) ab) (aB bh (xL K (pv 3) (pv 4)) ab))))))))))
   (ae (aq (pv 3))))),?_⟩
  have XT:(as.map V.ref).length=y.length:=by rw [List.length_map,rr.length,List.length_map]
  have h0:row[0]? =some (row.headD 0):=by
   cases row with
   |nil=>simp at hl
   |cons a r=>rfl
  have Px:(di y row cell).length=y.length+1:=by unfold di;rw [List.length_cons,mw cell y row _ hl]
  refine ⟨_,rfl,b,_,_,_,rfl,rfl,aH.of hb,wd (i:=0) rfl h0,_,_,rfl,rfl,(by show 1<=sizeLine;decide),?_⟩;intro f YA;generalize e_f:upd H f _=H1;obtain ⟨s1,h1⟩:=aI YA e_f
  refine ⟨_,rfl,o,_,rfl,.inl (aH.of (s1 _ _ ho)),_,rfl,by lia,by rw [XT];lia,?_⟩;rw [Int.toNat_natCast,XT];have fr:∀ {H2:Hp},au H H2->∀ {x:V},au H (upd H2 f (.lst [x])):=fun s2=>au.QL s2 YA
  refine uE (lo:=0) (n:=y.length) (fun i σ H2=>(∃ u4 u5,σ=[some (.ref b),some (.ref c),some (.ref o),some (.ref f),u4,u5])/\au H H2/\H2 f=some (.lst (vN ((di y row cell).take (i+1))))) ⟨⟨_,_,rfl⟩,s1,h1⟩ ?_ ?_
  ·rintro i σ H2 hi ⟨⟨u4,u5,rfl⟩,s2,h2⟩;have e1:(0:Int)+(i:Nat)=(i:Nat):=Int.zero_add _;obtain ⟨a',XF⟩:∃ a',row[i]? =some a':=⟨_,List.getElem?_eq_getElem (by lia)⟩;obtain ⟨b',XG⟩:∃ b',row[i+1]? =some b':=⟨_,List.getElem?_eq_getElem (by lia)⟩;obtain ⟨d,hd⟩:∃ d,y[i]? =some d:=⟨_,List.getElem?_eq_getElem hi⟩;obtain ⟨p',hp'⟩:∃ p',(di y row cell)[i]? =some p':=⟨_,List.getElem?_eq_getElem (by lia)⟩;have ZW:=EF cell y row (row.headD 0+1) i d a' b' p' hl hd XF XG hp';have ZW:(di y row cell)[i+1]? =some (min (min (p'+1) (b'+1)) (a'+(if cell=d then 0 else 1))):=ZW;obtain ⟨ao,hao,hTo⟩:=Paired.at' rr (show (y.map hU)[i]? =some (hU d) by rw [List.getElem?_map,hd];rfl);refine ⟨_,rfl,_,rfl,b,_,_,_,rfl,rfl,aH.of (s2 _ _ hb),wd e1 XF,_,_,rfl,rfl,?_⟩;refine ⟨_,rfl,_,rfl,o,_,_,_,rfl,rfl,aH.of (s2 _ _ ho),at_of e1 (by rw [List.getElem?_map,hao];rfl),_,rfl,O1 (hU d),O1 (hU cell),(hTo.mono s2).dp,(hT.mono s2).dp,BB _,BB _,_,rfl,?_⟩;rw [Te];have tail:∀ (kc:Int),kc=((a'+(if cell=d then 0 else 1):Nat):Int)->∀ (m:Int),(m=kc∨m=((b':Nat):Int)+1∨m=((p':Nat):Int)+1)->m<=kc->m<=((b':Nat):Int)+1->m<=((p':Nat):Int)+1->m=((min (min (p'+1) (b'+1)) (a'+(if cell=d then 0 else 1)):Nat):Int):=fun kc hk m h1 h2 h3 h4=>by lia
   have atf:(vN ((di y row cell).take (i+1)))[i]? =some (V.int (p':Nat)):=ME (by rw [List.getElem?_take_of_lt (by lia)];exact hp');have YB:(vN ((di y row cell).take (i+1))).length<sizeLine:=by
    rw [aO,List.length_take];exact Nat.lt_of_le_of_lt (show _<=1001 by lia) (by decide)
   refine aW (fun hc=>?_) fun hc=>?_
   ·have ecd:=of_decide_eq_true hc;refine ⟨_,rfl,_,rfl,b,_,_,_,rfl,rfl,aH.of (s2 _ _ hb),wd e1 XF,?_⟩;refine ⟨_,rfl,.inl ⟨rfl,_,aH.of h2⟩,_,rfl,_,rfl,_,rfl,_,_,rfl,rfl,b,_,_,_,rfl,rfl,aH.of (s2 _ _ hb),wd (i:=i+1) (by lia) XG,_,_,rfl,rfl,_,rfl,_,rfl,f,_,_,_,rfl,rfl,aH.of h2,at_of e1 atf,_,_,rfl,rfl,_,_,_,rfl,fun m m1 m2 m3 m4=>?_⟩;have em:=tail ((a':Nat):Int) (by rw [if_pos ecd];rfl) m m1 m2 m3 m4;refine ⟨f,_,_,rfl,rfl,h2,YB,⟨_,_,rfl⟩,au.QL s2 YA,?_⟩;rw [ah,aG ZW,cS,em];rfl
   ·have ecd:=of_decide_eq_false hc;refine ⟨_,rfl,.inl ⟨rfl,_,aH.of h2⟩,_,rfl,_,rfl,_,rfl,_,_,rfl,rfl,b,_,_,_,rfl,rfl,aH.of (s2 _ _ hb),wd (i:=i+1) (by lia) XG,_,_,rfl,rfl,_,rfl,_,rfl,f,_,_,_,rfl,rfl,aH.of h2,at_of e1 atf,_,_,rfl,rfl,_,_,_,rfl,fun m m1 m2 m3 m4=>?_⟩;have em:=tail (((a':Nat):Int)+1) (by rw [if_neg ecd];rfl) m m1 m2 m3 m4;refine ⟨f,_,_,rfl,rfl,h2,YB,⟨_,_,rfl⟩,au.QL s2 YA,?_⟩;rw [ah,aG ZW,cS,em];rfl
  ·rintro σ H2 ⟨⟨u4,u5,rfl⟩,s2,h2⟩;rw [List.take_of_length_le (Nat.le_of_eq Px)] at h2;exact ⟨_,rfl,q H2 f YA s2 h2⟩
theorem EG {y:List Vbapah.Cell} {row:List Nat} {c:Vbapah.Cell} (h:row.length=y.length+1):(di y row c).length=y.length+1:=by unfold di;rw [List.length_cons,mw c y row _ h]
def Ae (K:PySem.W.Frag) (ad:Ad):Sp:=fun vs H Q _=>∃ (a b:Addr) (x y:Vbapah.Program),vs=[.ref a,.ref b]/\bG K H a x/\bG K H b y/\y.length<=1000/\∀ H',au H H'->Q (.int (Vbapah.apartness x y:Nat)) H'
theorem Af (T:Tx P w K mg base ad):Ok T 2 ad.vR ad.dG ["program","other"] Ae:=by
 refine T.rj.ok oT (fun vs H Q E h=>?_) (fun nd bB A outer s H vs Q E hr h=>?_)
 ·obtain ⟨a,b,x,y,rfl,_⟩:=h;rfl
 ·obtain ⟨a,b,x,y,rfl,⟨as,ha,ra⟩,⟨bs,hb,rb⟩,y1,q⟩:=h;refine ⟨_,(aa (sS 2 nd (je (vg rfl) (by rfl) T.Ea IF (bj (je OM (by rfl) T.d9 KI (bj (aB bh (eL K T.aX (pv 1)) ab))))))
   (aa (jc PassesOwn.never rfl (DA K (pv 0)) (gN 3 nd) (ae (sS 2 nd (eC (yZ T) hr T.pf (fY (pv 2) (pv 3) (pv 1))))))
   (ae (aq (xL K (pv 2) (GN zr ab)))))),?_⟩
  have hlb:(bs.map V.ref).length=y.length:=by rw [List.length_map,rb.length,List.length_map]
  have XT:as.length=x.length:=by rw [ra.length,List.length_map]
  refine ⟨_,rfl,b,_,rfl,.inl (aH.of hb),_,_,rfl,rfl,_,rfl,?_⟩;intro p0 MS;generalize MT:upd H p0 _=H1;obtain ⟨s1,h1⟩:=aI MS MT
  refine ⟨p0,_,_,rfl,h1,?_,?_,?_⟩
  ·show -(2 ^ 62)<=(0:Int)/\(0:Int)<2 ^ 62/\ -(2 ^ 62)<=(((bs.map V.ref).length:Nat):Int)+1/\(((bs.map V.ref).length:Nat):Int)+1<2 ^ 62
   lia
  ·show ((((bs.map V.ref).length:Nat):Int)+1-0).toNat<=sizeLine;exact aT (by lia)
  have e0:pT 0 ((((bs.map V.ref).length:Nat):Int)+1-0).toNat=vN (List.range (y.length+1)):=by
   rw [show ((((bs.map V.ref).length:Nat):Int)+1-0).toNat=y.length+1 by lia];exact MF _
  intro d0 abw;generalize abx:upd H1 d0 _=H2;obtain ⟨s2,h2⟩:=aI abw abx
  have h2:H2 d0=some (.lst (vN (List.range (y.length+1)))):=by rw [<-e0];exact h2
  have oy:=s1.trans s2;refine ⟨_,rfl,a,rfl,⟨_,aH.of (oy _ _ ha)⟩,jC (K:=K) (a:=a) (xs:=as.map V.ref) (fun i σ H3=>∃ (dd:Addr) (u:Option V),σ=[some (.ref a),some (.ref b),some (.ref dd),u]/\au H H3/\H3 dd=some (.lst (vN ((x.take i).foldl (di y) (List.range (y.length+1)))))/\((x.take i).foldl (di y) (List.range (y.length+1))).length=y.length+1)
   ⟨d0,_,rfl,oy,h2,List.length_range⟩ (fun i σ H3 _ ⟨_,_,_,s3,_⟩=>aH.of (s3 _ _ ha)) ?_ ?_⟩
  ·rintro i z σ H3 hi ⟨dd,u,rfl,s3,h3,l3⟩;obtain ⟨c,hc,rfl⟩:=fU hi;obtain ⟨t,ht,hT⟩:=Paired.at ra hc;obtain ⟨cell,qz,rfl⟩:∃ cell,x[i]? =some cell/\t=hU cell:=by
    rw [List.getElem?_map] at ht;obtain ⟨cell,h1,h2⟩:=Option.map_eq_some_iff.mp ht;exact ⟨cell,h1,h2.symm⟩
   have ef:(x.take (i+1)).foldl (di y) (List.range (y.length+1))=di y ((x.take i).foldl (di y) (List.range (y.length+1))) cell:=by
    rw [aG qz,List.foldl_append];rfl
   refine ⟨_,rfl,_,rfl,_,rfl,dd,c,b,_,cell,y,rfl,h3,l3,hT.mono s3,⟨bs,s3 _ _ hb,gF.mono rb s3⟩,y1,fun H4 p hp s4 h4=>⟨p,_,rfl,s3.trans s4,?_,?_⟩⟩
   ·rw [ef];exact h4
   ·rw [ef];exact EG l3
  ·rintro σ H3 ⟨dd,u,rfl,s3,h3,l3⟩;rw [List.length_map,XT,List.take_of_length_le (Nat.le_refl _)] at h3 l3;have eap:Vbapah.apartness x y=((x.foldl (di y) (List.range (y.length+1))).getLast?).getD 0:=rfl;generalize x.foldl (di y) (List.range (y.length+1))=row at h3 l3 eap;obtain ⟨pre,lst,rfl⟩:∃ pre lst,row=pre++[lst]:=⟨row.dropLast,row.getLast (fun z=>by rw [z] at l3;simp at l3),(List.dropLast_concat_getLast _).symm⟩;have el:Vbapah.apartness x y=lst:=by rw [eap,List.getLast?_concat];rfl
   refine ⟨_,rfl,_,rfl,dd,_,_,_,rfl,rfl,aH.of h3,(by rw [cS];exact P1 _ _),?_⟩;rw [<-el];exact q H3 s3
end
def xa (kvs:List (Key×V)) (ks:List Nat):Prop:=kvs.map (·.1)=ks.map fun (k:Nat)=>(Sum.inl (k:Int):Key)
theorem Q8 (k:Nat):[k].Nodup:=List.nodup_cons.mpr ⟨fun h=>(by cases h),List.nodup_nil⟩
def Ag (ks:List Nat) (k:Nat):List Nat:=if k∈ks then ks else ks++[k]
theorem xa.any {kvs:List (Key×V)} {ks:List Nat} (h:xa kvs ks) (k:Nat):(kvs.any fun kv=>decide (kv.1=(Sum.inl (k:Int):Key)))=decide (k∈ks):=by
 have e:(kvs.any fun kv=>decide (kv.1=(Sum.inl (k:Int):Key)))=(kvs.map (·.1)).any fun z=>decide (z=(Sum.inl (k:Int):Key)):=by rw [List.any_map];rfl
 rw [e,h,List.any_map];apply Bool.eq_iff_iff.mpr;rw [List.any_eq_true,decide_eq_true_iff];constructor
 ·rintro ⟨z,hz,e⟩;have e:=of_decide_eq_true (show decide ((Sum.inl (z:Int):Key)=Sum.inl (k:Int))=true from e);have:z=k:=by injection e with e;lia
  rw [<-this];exact hz
 ·exact fun hk=>⟨k,hk,decide_eq_true rfl⟩
theorem xa.has {kvs:List (Key×V)} {ks:List Nat} (h:xa kvs ks) (k:Nat):(wF kvs (Sum.inl (k:Int):Key)).isSome=decide (k∈ks):=by
 rw [<-Dd];exact h.any k
theorem xa.put {kvs:List (Key×V)} {ks:List Nat} (h:xa kvs ks) (k:Nat) (x:V):xa (putK kvs (Sum.inl (k:Int):Key) x) (Ag ks k):=by
 unfold putK Ag;rw [h.any k];by_cases hk:k∈ks
 ·rw [if_pos (decide_eq_true hk),if_pos hk];unfold xa;rw [List.map_map, <-show kvs.map (·.1)=_ from h];refine List.map_congr_left fun kv _=>?_
  show (if kv.1=_ then (kv.1,x) else kv).1=kv.1;split<;>rfl
 ·rw [if_neg (by rw [decide_eq_true_iff];exact hk),if_neg hk];unfold xa;rw [List.map_append,List.map_append,show kvs.map (·.1)=_ from h];rfl
theorem xa.len {kvs:List (Key×V)} {ks:List Nat} (h:xa kvs ks):kvs.length=ks.length:=by
 have:=congrArg List.length (show kvs.map (·.1)=_ from h);rw [List.length_map,List.length_map] at this;exact this
theorem Q9 {ks:List Nat} {k z:Nat}:z∈Ag ks k↔z∈ks∨z=k:=by
 unfold Ag;by_cases h:k∈ks
 ·rw [if_pos h];exact ⟨.inl,fun q=>q.elim id fun e=>e▸h⟩
 ·rw [if_neg h,List.mem_append,List.mem_singleton]
theorem Tf {ks:List Nat} {k:Nat} (h:ks.Nodup):(Ag ks k).Nodup:=by
 unfold Ag;by_cases e:k∈ks
 ·rw [if_pos e];exact h
 ·rw [if_neg e,List.nodup_append];refine ⟨h,Q8 _,fun a ha b hb q=>?_⟩;rw [List.mem_singleton.mp hb] at q;exact e (q▸ha)
theorem gY {z:Nat}:∀ (ps ks:List Nat),z∈ps.foldl Ag ks↔z∈ks∨z∈ps
 |[],ks=>by simp
 |p::ps,ks=>by
  rw [List.foldl_cons,gY ps (Ag ks p),Q9,List.mem_cons];exact or_assoc
theorem Ah:∀ (ps ks:List Nat),ks.Nodup->(ps.foldl Ag ks).Nodup
 |[],_,h=>h
 |p::ps,ks,h=>Ah ps (Ag ks p) (Tf h)
structure O4 (ones:List Vbapah.One) (n i:Nat) (ks:List Nat):Prop where
 nd:ks.Nodup
 me:n∈ks
 snd:∀ z∈ks,z=n∨Kw ones n z
 cl:∀ z∈ks,n<z+i->∀ p∈bY ones z,p∈ks
theorem O4.le {ones:List Vbapah.One} {n i:Nat} {ks:List Nat} (E:jD ones) (F:O4 ones n i ks):∀ z∈ks,z<n+1:=fun z hz=>by
 rcases F.snd z hz with h|h
 ·lia
 ·have:=h.lt E
  lia
theorem O4.skip {ones:List Vbapah.One} {n i:Nat} {ks:List Nat} (F:O4 ones n i ks) (h:n-i∉ks) (hi:i<=n):O4 ones n (i+1) ks:=
 ⟨F.nd,F.me,F.snd,fun z hz eW=>F.cl z hz (by
  have:z≠n-i:=fun e=>h (e▸hz)
  lia)⟩
theorem O4.step {ones:List Vbapah.One} {n i:Nat} {ks:List Nat} (E:jD ones) (F:O4 ones n i ks) (h:n-i∈ks) (hi:i<=n):O4 ones n (i+1) ((bY ones (n-i)).foldl Ag ks):=by
 refine ⟨Ah _ _ F.nd,(gY _ _).mpr (.inl F.me),fun z hz=>?_,fun z hz eW p hp=>?_⟩
 ·rcases (gY _ _).mp hz with hz|hz
  ·exact F.snd z hz
  ·refine .inr ?_;rcases F.snd _ h with e|e
   ·rw [e] at hz;exact .par hz
   ·exact .up e hz
 ·rcases (gY _ _).mp hz with hz|hz
  ·by_cases e:z=n-i
   ·rw [e] at hp;exact (gY _ _).mpr (.inr hp)
   ·exact (gY _ _).mpr (.inl (F.cl z hz (by lia) p hp))
  ·have:=E _ _ hz
   lia
theorem O4.part {ones:List Vbapah.One} {n i:Nat} {ks:List Nat} (E:jD ones) (F:O4 ones n i ks) (h:n-i∈ks) {ps:List Nat} (hp:∀ p∈ps,p∈bY ones (n-i)):(ps.foldl Ag ks).length<=n+1:=by
 refine pQ _ _ (Ah _ _ F.nd) fun z hz=>?_
 rcases (gY _ _).mp hz with hz|hz
 ·exact F.le E z hz
 ·have:=E _ _ (hp z hz)
  lia
theorem O4.all {ones:List Vbapah.One} {n:Nat} {ks:List Nat} (F:O4 ones n (n+1) ks):∀ z,z∈ks↔z=n∨Kw ones n z:=fun z=>by
 refine ⟨F.snd z,fun h=>?_⟩;rcases h with rfl|h
 ·exact F.me
 ·induction h with
  |par h=>exact F.cl _ F.me (by lia) _ h
  |up _ h ih=>exact F.cl _ ih (by lia) _ h
theorem Jn {ones:List Vbapah.One} {i:Nat} {o:Vbapah.One} (h:ones[i]? =some o):bY ones i=uS o:=by
 unfold bY uS;rw [h];rfl
def YC (D:Addr) (R:Nat->List V->Hp->Prop) (i:Nat) (y:V) (H4:Hp):Prop:=
 ∃ acc,H4 D=some (.lst acc)/\acc.length<sizeLine/\∃ Ei,upd H4 D (.lst (acc++[y])) D=some (.lst Ei)/\Ei.length<=i+1/\R (i+1) Ei (kO D (upd H4 D (.lst (acc++[y]))))
def LcN (D:Addr) (R:Nat->List V->Hp->Prop) (i:Nat) (H4:Hp):Prop:=∃ acc,H4 D=some (.lst acc)/\acc.length<=i+1/\R (i+1) acc (kO D H4)
theorem YC.mk {D:Addr} {R:Nat->List V->Hp->Prop} {i:Nat} {y:V} {H4:Hp} {acc:List V} (e:H4 D=some (.lst acc)) (l:acc.length<=i) (hz:i<sizeLine) (r:R (i+1) (acc++[y]) (kO D H4)):YC D R i y H4:=
 ⟨acc,e,Nat.lt_of_le_of_lt l hz,acc++[y],ah,by rw [List.length_append];exact Nat.succ_le_succ l,by rw [iR];exact r⟩
theorem lcF {K:PySem.W.Frag} {tt:TT} {te:TE} {j:Nat} {σ:L2.St} {H1:Hp} {D:Addr} {Qd:Hp->Prop} {a:Addr} {xs:List V} (hD:H1 D=none) (hz:xs.length<=sizeLine) (R:Nat->List V->Hp->Prop) (h0:R 0 [] H1) (hl:∀ i acc H,R i acc H->aH K H a xs)
  (hs:∀ i x acc H,xs[i]? =some x->H D=some (.lst acc)->acc.length<=i->i<sizeLine->R i acc (kO D H)->tt (σ.set j (some x)) H fun b H3=>if b=true then te (σ.set j (some x)) H3 fun y H4=>YC D R i y H4 else LcN D R i H3)
  (hd:∀ acc H,H D=some (.lst acc)->acc.length<=xs.length->R xs.length acc (kO D H)->Qd H):
  ∃ W:Nat->Nat->Hp->Prop,(∃ m,W 0 m (upd H1 D (.lst [])))/\∀ i m H,W i m H->
   ((Kb K a).stop i H/\Qd H)∨((Kb K a).go i H/\∃ Nx:Hp->Prop,(∀ H',Nx H'->∃ m',m'<m/\W (i+1) m' H')/\∀ x H',(Kb K a).LM i H x H'->oz j x (wipe σ [j]) H' fun σ2 H2=>wipe σ2 [j]=wipe σ [j]/\tt σ2 H2 fun b H3=>
    if b=true then te σ2 H3 fun y H4=>∃ acc,H4 D=some (.lst acc)/\acc.length<sizeLine/\Nx (upd H4 D (.lst (acc++[y]))) else Nx H3):=by
 refine Iv (K:=K) (a:=a) (xs:=xs) (fun i H=>∃ acc,H D=some (.lst acc)/\acc.length<=i/\R i acc (kO D H)) ⟨[],ah,Nat.le_refl _,?_⟩ (fun i H _ ⟨acc,_,_,r⟩=>aN.seq (hl i acc _ r)) ?_ (fun H ⟨acc,e1,e2,r⟩=>hd acc H e1 e2 r)
 ·rw [iR,ub hD];exact h0
 ·rintro i x H hx ⟨acc,e1,e2,r⟩;have q:=hs i x acc H hx e1 e2 (Nat.lt_of_lt_of_le (List.getElem?_eq_some_iff.mp hx).1 hz) r;have e:(wipe σ [j]).set j (some x)=σ.set j (some x):=List.set_set ..;rw [<-e] at q;exact ⟨md x,q⟩
section
variable {P:Program} {w:World} {K:PySem.W.Frag} {mg:Str->Option Value} {base:Heap} {ad:Ad}
def Jo (K:PySem.W.Frag) (ad:Ad):Sp:=fun vs H Q _=>∃ (r:Ar) (v:Vbapah.World) (s:Vbapah.State) (n:Nat),vs=[.ref r.bl,.int (n:Nat)]/\ag K ad H r v s/\n<s.ones.length/\s.ones.length<=1000/\jD s.ones/\
 ∀ H' p kvs ks,H p=none->au H H'->H' p=some (.dK kvs)->xa kvs ks->ks.Nodup->(∀ z,z∈ks↔z=n∨Kw s.ones n z)->Q (.ref p) H'
theorem qo (T:Tx P w K mg base ad):Ok T 1 ad.Hs ad.iF ["born","number"] Jo:=by
 refine T.nq.ok x9 (fun vs H Q E h=>?_) (fun nd bB A outer s H vs Q E hr h=>?_)
 ·obtain ⟨r,v,s,n,rfl,_⟩:=h;rfl
 ·obtain ⟨r,v,s,n,rfl,A,hn,h3,E,q⟩:=h;refine ⟨_,(aa (sS 2 nd (Ss (Qk (pv 1) xm Sr) rfl rfl (by intro h;cases h) (by decide)))
   (aa (jc PassesOwn.never rfl (GX rfl T.d9 (fY (pv 1) (GN zr ab) (GN zr ab))) (gN 3 nd) (ae (aZ (PK (Qi (NI hr) (pv 3) (pv 2))) (ae (jc PassesOwn.never rfl (DA K (aF K (xL K (pv 0) (pv 3)))) (gN 4 nd) (ae (So (NI hr) (pv 2) (pv 4) xm rfl)))) aJ)))
   (ae (aq (pv 2))))),?_⟩
  intro p mN;refine ⟨_,rfl,ah,[(Sum.inl (n:Int),.bl true)],rfl,(by show 1<=15;decide),?_⟩;rw [RQ];generalize B2:upd H p _=H1;obtain ⟨s1,h1⟩:=aI mN B2;refine ⟨_,rfl,_,rfl,_,rfl,(n:Int), -1, -1,((n:Int)- -1).toNat,rfl,Vt.neg (by lia) (by lia) (by lia) (by lia),?_⟩;refine Ml (fun i σ H2=>(∃ u1 u2,σ=[some (.ref r.bl),some (.int (n:Nat)),some (.ref p),u1,u2])/\au H H2/\∃ kvs ks,H2 p=some (.dK kvs)/\xa kvs ks/\O4 s.ones n i ks)
   ⟨⟨_,_,rfl⟩,s1,_,[n],h1,rfl,⟨Q8 _,List.mem_singleton.mpr rfl,fun z hz=>.inl (List.mem_singleton.mp hz),fun z hz eW=>by rw [List.mem_singleton.mp hz] at eW;lia⟩⟩ ?_ ?_
  ·rintro i σ H2 hi ⟨⟨u1,u2,rfl⟩,s2,kvs,ks,h2,hk,F⟩;have XQ:i<=n:=by lia
   have ez:(n:Int)+((i:Nat):Int)*(-1)=((n-i:Nat):Int):=by lia
   have A2:=A.mono s2;rw [ez];refine ⟨_,rfl,_,rfl,p,_,rfl,OB.k (k:=Sum.inl ((n-i:Nat):Int)) h2,_,rfl,?_⟩;rw [hk.has];refine aW (fun hc=>?_) fun hc=>?_
   ·have hm:=of_decide_eq_true hc;obtain ⟨o,ho⟩:∃ o,s.ones[n-i]? =some o:=⟨_,List.getElem?_eq_getElem (by lia)⟩;have ep:=Jn ho;obtain ⟨as,pp,b1,b2,hS⟩:=A2.one ho;obtain ⟨px,ps,rc,g1,g2,g3,g4⟩:=hS.mono aA;refine ⟨_,rfl,_,rfl,r.bl,_,_,_,rfl,rfl,aH.of b1,uF b2,ky T g1 ⟨ps,rfl,⟨_,aH.of g3⟩,?_⟩⟩;have nps:ps≠p:=fun e=>by rw [e,h2] at g3;cases g3
    refine jC (K:=K) (a:=ps) (xs:=vN (uS o)) (fun j σ H3=>(∃ u1,σ=[some (.ref r.bl),some (.int (n:Nat)),some (.ref p),some (.int ((n-i:Nat):Int)),u1])/\Kp [p] H2 H3/\∃ kvs,H3 p=some (.dK kvs)/\xa kvs (((uS o).take j).foldl Ag ks)) ⟨⟨_,rfl⟩,Kp.refl _ _,kvs,h2,hk⟩
     (fun j σ H3 _ ⟨_,k3,_⟩=>aH.of (k3.hG g3 nps)) ?_ ?_
    ·rintro j z σ H3 hj ⟨⟨u1,rfl⟩,k3,YD,YE,Wf⟩;obtain ⟨m,V0,rfl⟩:=kP hj;have hlen:=F.part E hm (ps:=(uS o).take j) fun y hy=>by rw [ep];exact List.mem_of_mem_take hy
     refine ⟨_,rfl,_,rfl,p,_,rfl,Qg.k (k:=Sum.inl (m:Int)) YE (by rw [Wf.len];exact Nat.lt_of_le_of_lt hlen (Nat.lt_of_le_of_lt (show n+1<=1000 by lia) (by decide))),⟨_,rfl⟩,k3.trans Kp.upd,_,ah,?_⟩;rw [aG V0,List.foldl_append];exact Wf.put m _
    ·rintro σ H3 ⟨⟨u1,rfl⟩,k3,YD,YE,Wf⟩;rw [aO,List.take_of_length_le (Nat.le_refl _)] at Wf;refine ⟨⟨_,_,rfl⟩,fun b ob e=>k3 b ob (s2 b ob e) (by
      intro hb;rw [List.mem_singleton.mp hb,mN] at e;cases e),YD,_,YE,Wf,?_⟩
     rw [<-ep];exact F.step E hm XQ
   ·exact ⟨⟨_,_,rfl⟩,s2,kvs,ks,h2,hk,F.skip (of_decide_eq_false hc) XQ⟩
  ·rintro σ H2 ⟨⟨u1,u2,rfl⟩,s2,kvs,ks,h2,hk,F⟩;rw [show ((n:Int)- -1).toNat=n+1 by lia] at F;exact ⟨_,rfl,q H2 p kvs ks mN s2 h2 hk F.nd F.all⟩
theorem uM {f:Nat->Bool} {l:List Nat} {i x:Nat} (h:l[i]? =some x):(l.take (i+1)).filter f=(l.take i).filter f++(if f x=true then [x] else []):=by
 rw [aG h,List.filter_append,List.filter_cons,List.filter_nil]
theorem BC {ks:List Nat} {kvs:List (Key×V)} (hk:xa kvs ks):kvs.map (·.1)=(ks.map fun (n:Nat)=>(n:Int)).map Sum.inl:=by
 rw [show kvs.map (·.1)=_ from hk,List.map_map];rfl
theorem HP (l:List Nat):(l.map fun (n:Nat)=>(n:Int)).map V.int=vN l:=by
 rw [List.map_map];rfl
def Jp (K:PySem.W.Frag) (ad:Ad):Sp:=fun vs H Q _=>∃ (r:Ar) (v:Vbapah.World) (s:Vbapah.State) (n:Nat),vs=[.ref r.bl,.int (n:Nat)]/\ag K ad H r v s/\n<s.ones.length/\s.ones.length<=1000/\jD s.ones/\
 ∀ H' p,H p=none->au H H'->H' p=some (.lst (vN (Vbapah.ancestors s.ones n)))->Q (.ref p) H'
theorem Jq (T:Tx P w K mg base ad):Ok T 2 ad.forebears ad.iG ["born","number"] Jp:=by
 refine T.Bt.ok ya (fun vs H Q E h=>?_) (fun nd bB A outer s H vs Q E hr h=>?_)
 ·obtain ⟨r,v,s,n,rfl,_⟩:=h;rfl
 ·obtain ⟨r,v,s,n,rfl,A,hn,h3,E,q⟩:=h;refine ⟨_,(ae (aq (iZ rfl nd (DA K (cj (Dz rfl) (by rfl) T.tU zE (bj (eC (qo T) hr T.nq (ie (pv 0) (pv 1)))))) (own:=[("one",2)]) (bC (show kE ["born","number","one"] (af sH) _ [("one",2)]=true by decide+kernel)) (fun _ _ _ _ _=>gN 2 nd) (fun _ _ _ _ _=>(NF (aS Kd (pv 2) (pv 1)))) (fun _ _ _ _ _=>(pv 2))))),?_⟩;refine ⟨_,rfl,_,rfl,r,v,s,n,rfl,A,hn,h3,E,fun H1 p kvs ks mN s1 h1 hk nd hz=>?_⟩;have XE:ks.length<=n+1:=pQ _ _ nd fun z hm=>by
   rcases (hz z).mp hm with e|e
   ·lia
   ·have:=e.lt E
    lia
  refine ⟨p,kvs,_,rfl,h1,BC hk,fun ns p2 hp hs ke=>?_⟩;rw [sx hp hs,HP];generalize kf:upd H1 p2 _=H2;obtain ⟨s2,h2⟩:=aI ke kf;have lr:(Vbapah.rising ks).length=ks.length:=(c5 ks).length_eq;refine ⟨p2,rfl,⟨_,aH.of h2⟩,fun D hD=>?_⟩;have e:=Sz E hn nd hz;refine lcF (xs:=vN (Vbapah.rising ks)) hD (aT (by rw [aO];lia)) (fun i acc H3=>acc=vN (((Vbapah.rising ks).take i).filter fun z=> !decide (z=n))/\au H2 H3) ⟨rfl,au.refl _⟩ (fun i acc H3 ⟨_,s3⟩=>aH.of (s3 _ _ h2)) ?_ ?_
  ·rintro i z acc H3 hi aR hlen hsz ⟨rfl,s3⟩;obtain ⟨m,hm,rfl⟩:=kP hi;refine ⟨_,rfl,_,rfl,rfl,_,rfl,?_⟩;have ed:decide (V.int ((m:Nat):Int)=V.int (n:Nat))=decide (m=n):=decide_eq_decide.mpr (by rw [V.int.injEq];lia);show if (!decide (V.int ((m:Nat):Int)=V.int (n:Nat)))=true then _ else _
   rw [ed];refine aW (fun hc=>?_) fun hc=>?_
   ·refine ⟨_,rfl,YC.mk aR hlen hsz ⟨?_,s3⟩⟩;rw [uM hm,if_pos hc,cS];rfl
   ·refine ⟨_,aR,by lia,?_,s3⟩;rw [uM hm,if_neg (by rw [hc];exact Bool.false_ne_true),List.append_nil]
  ·rintro acc H3 aR hlen ⟨rfl,s3⟩;rw [aO,List.take_of_length_le (Nat.le_refl _),e] at aR;exact q H3 D ((s1.trans s2).free hD) ((s1.trans s2).trans (s3.trans aN)) aR
def Jr (K:PySem.W.Frag) (ad:Ad):Sp:=fun vs H Q _=>∃ (r:Ar) (v:Vbapah.World) (s:Vbapah.State) (n m:Nat),vs=[.ref r.bl,.int (n:Nat),.int (m:Nat)]/\ag K ad H r v s/\n<s.ones.length/\m<s.ones.length/\s.ones.length<=1000/\jD s.ones/\
 ∀ H' p,H p=none->au H H'->H' p=some (.lst (vN ((Vbapah.rising (n::Vbapah.ancestors s.ones n)).filter fun k=>(m::Vbapah.ancestors s.ones m).contains k)))->Q (.ref p) H'
theorem Js (T:Tx P w K mg base ad):Ok T 2 ad.Ht ad.iH ["born","number","other"] Jr:=by
 refine T.Bu.ok yb (fun vs H Q E h=>?_) (fun nd bB A outer s H vs Q E hr h=>?_)
 ·obtain ⟨r,v,s,n,m,rfl,_⟩:=h;rfl
 ·obtain ⟨r,v,s,n,m,rfl,A,hn,hm,h3,E,q⟩:=h;refine ⟨_,(aa (sS 3 nd (eC (qo T) hr T.nq (ie (pv 0) (pv 2))))
   (ae (aq (iZ rfl nd (DA K (cj (Dz rfl) (by rfl) T.tU zE (bj (eC (qo T) hr T.nq (ie (pv 0) (pv 1)))))) (own:=[("one",4)]) (bC (show kE ["born","number","other","others","one"] (af sI) _ [("one",4)]=true by decide+kernel)) (fun _ _ _ _ _=>gN 4 nd) (fun _ _ _ _ _=>(NF (PK (Qi (NI hr) (pv 4) (pv 3))))) (fun _ _ _ _ _=>(pv 4)))))),?_⟩
  refine ⟨_,rfl,_,rfl,r,v,s,m,rfl,A,hm,h3,E,fun H0 po kvo kso aco s0 h0 hko ndo hzo=>?_⟩;refine ⟨_,rfl,_,rfl,r,v,s,n,rfl,A.mono s0,hn,h3,E,fun H1 p kvs ks mN s1 h1 hk nd hz=>?_⟩;have XE:ks.length<=n+1:=pQ _ _ nd fun z hm=>by
   rcases (hz z).mp hm with e|e
   ·lia
   ·have:=e.lt E
    lia
  refine ⟨p,kvs,_,rfl,h1,BC hk,fun ns p2 hp hs ke=>?_⟩;rw [sx hp hs,HP];generalize kf:upd H1 p2 _=H2;obtain ⟨s2,h2⟩:=aI ke kf;have lr:(Vbapah.rising ks).length=ks.length:=(c5 ks).length_eq;have VX:=s2 _ _ (s1 _ _ h0);refine ⟨p2,rfl,⟨_,aH.of h2⟩,fun D hD=>?_⟩;have e:=OI (f:=fun z=>decide (z∈kso)) E hn hm nd hz fun z=>by rw [decide_eq_true_iff];exact hzo z
  refine lcF (xs:=vN (Vbapah.rising ks)) hD (aT (by rw [aO];lia)) (fun i acc H3=>acc=vN (((Vbapah.rising ks).take i).filter fun z=>decide (z∈kso))/\au H2 H3) ⟨rfl,au.refl _⟩ (fun i acc H3 ⟨_,s3⟩=>aH.of (s3 _ _ h2)) ?_ ?_
  ·rintro i z acc H3 hi aR hlen hsz ⟨rfl,s3⟩;obtain ⟨m,hm,rfl⟩:=kP hi;refine ⟨_,rfl,_,rfl,po,_,rfl,OB.k (k:=Sum.inl (m:Int)) (aN _ _ (s3 _ _ VX)),_,rfl,?_⟩;rw [hko.has];refine aW (fun hc=>?_) fun hc=>?_
   ·refine ⟨_,rfl,YC.mk aR hlen hsz ⟨?_,s3⟩⟩;rw [uM hm,if_pos hc,cS];rfl
   ·refine ⟨_,aR,by lia,?_,s3⟩;rw [uM hm,if_neg (by rw [hc];exact Bool.false_ne_true),List.append_nil]
  ·rintro acc H3 aR hlen ⟨rfl,s3⟩;rw [aO,List.take_of_length_le (Nat.le_refl _),e] at aR;exact q H3 D (((s0.trans s1).trans s2).free hD) (((s0.trans s1).trans s2).trans (s3.trans aN)) aR
theorem Gg {A B:Prop} (h:B):if (!true)=true then A else B:=h
def bW (z lo hi:Int):Bool:=decide (lo<=z)&&decide (z<=hi)
def nE (n h r d l q:Int):Bool:=(bW n 8 32&&(bW h 1 4&&bW r 1 40))&&((bW d 1 8&&decide (2*d<=n))&&(bW l 1 8&&(decide (l<=d)&&bW q 1 4)))
def Lf (K:PySem.W.Frag) (ad:Ad):Sp:=fun vs H Q _=>∃ (na:Addr) (n h r d l q:Int),vs=[.ref na]/\aH K H na (vI [n,h,r,d,l,q])/\Q (.bl (nE n h r d l q)) H
theorem Lg (T:Tx P w K mg base ad):Ok T 2 ad.KO ad.jJ ["numbers"] Lf:=by
 refine T.D0.ok Bg (fun vs H Q E h=>?_) (fun nd bB A outer s H vs Q E hr h=>?_)
 ·obtain ⟨na,n,h,r,d,l,q,rfl,_⟩:=h;rfl
 ·obtain ⟨na,n,h,r,d,l,q,rfl,hn,qq⟩:=h;refine ⟨_,(aa (sS 1 nd (xL K (pv 0) ab))
   (aa (sS 2 nd (xL K (pv 0) ab))
   (aa (sS 3 nd (xL K (pv 0) ab))
   (aa (aZ (cK (PW.pt (kW (bx (eC (aK T) hr T.aP (fY (pv 1) ab ab))) (kW (bx (eC (aK T) hr T.aP (fY (xL K (pv 0) ab) ab ab))) (kC (bx (eC (aK T) hr T.aP (fY (xL K (pv 0) ab) ab ab)))))))) (ae (aq xm)) aJ)
   (aa (aZ (cK (PW.pt (kW (bx (eC (aK T) hr T.aP (fY (pv 2) ab ab))) (kC (aS PU (pv 1) (aB jd ab (pv 2))))))) (ae (aq xm)) aJ)
   (ae (aq (jb (eC (aK T) hr T.aP (fY (pv 3) ab ab)) (jb (fR Ny (pv 3) (pv 2)) (nL (eC (aK T) hr T.aP (fY (xL K (pv 0) ab) ab ab)))))))))))),?_⟩
  refine ⟨_,rfl,na,_,_,_,rfl,rfl,hn,rfl,_,rfl,na,_,_,_,rfl,rfl,hn,rfl,_,rfl,na,_,_,_,rfl,rfl,hn,rfl,?_⟩;refine ⟨_,rfl,_,_,_,rfl,_,rfl,eh (F:=fun b=>if (!b)=true then _ else _) (bW h 1 4&&bW r 1 40) ?_ fun k=>⟨_,rfl,na,_,_,_,rfl,rfl,hn,rfl,_,_,_,rfl,_,rfl,eh (F:=fun b=>if (!b)=true then _ else _) (bW r 1 40) k fun k=>⟨_,rfl,na,_,_,_,rfl,rfl,hn,rfl,_,_,_,rfl,_,rfl,k⟩⟩⟩;unfold nE at qq
  change if (!(bW n 8 32&&(bW h 1 4&&bW r 1 40)))=true then _ else _
  revert qq
  generalize (bW n 8 32&&(bW h 1 4&&bW r 1 40))=c1;intro qq;cases c1 with
  |false=>exact qq
  |true=>
  refine Gg ?_;refine ⟨_,rfl,_,_,_,rfl,_,rfl,?_⟩
  change if (bW d 1 8)=true then _ else _
  refine N7 (F:=fun b=>if (!b)=true then _ else _) (decide (2*d<=n)) ?_ fun hd k=>⟨_,rfl,_,rfl,_,_,rfl,rfl,?_,_,_,rfl,rfl,_,rfl,k⟩
  rotate_left
  ·unfold bW at hd;simp only [Bool.and_eq_true,decide_eq_true_eq] at hd;exact .inl (by lia)
  revert qq
  generalize (bW d 1 8&&decide (2*d<=n))=c2;intro qq;cases c2 with
  |false=>exact qq
  |true=>
  refine Gg ?_;refine ⟨_,rfl,_,_,_,rfl,_,rfl,eh (F:=fun b=>Q (.bl b) H) _ qq fun k=>⟨_,rfl,_,rfl,_,_,rfl,rfl,_,rfl,eh (F:=fun b=>Q (.bl b) H) _ k fun k=>⟨_,rfl,na,_,_,_,rfl,rfl,hn,rfl,_,_,_,rfl,k⟩⟩⟩
def Jt (K:PySem.W.Frag) (ad:Ad):Sp:=fun vs H Q _=>∃ (r:Ar) (v:Vbapah.World) (s:Vbapah.State),vs=[.ref r.a]/\ag K ad H r v s/\Q (.bl s.rates.isSome) H
theorem ag.ra {H:Hp} {r:Ar} {v:Vbapah.World} {s:Vbapah.State} (A:ag K ad H r v s):(!decide (r.ra=.cx))=s.rates.isSome:=by
 have z:=A.rat;cases e:s.rates with
 |none=>rw [e] at z;rw [z.1];rfl
 |some rt=>
  rw [e] at z;obtain ⟨q,d,e1,_⟩:=z;rw [e1];rfl
theorem iU (T:Tx P w K mg base ad):Ok T 1 ad.Hv ad.iJ ["arena"] Jt:=by
 refine T.g6.ok ye (fun vs H Q E h=>?_) (fun nd bB A outer s H vs Q E hr h=>?_)
 ·obtain ⟨r,v,s,rfl,_⟩:=h;rfl
 ·obtain ⟨r,v,s,rfl,A,q⟩:=h;refine ⟨_,(ae (aq (fR RZ (aF K (pv 0)) CY))),?_⟩;rw [<-A.ra] at q;exact ⟨_,rfl,bz T A.ins ⟨rfl,q⟩⟩
def EH (K:PySem.W.Frag) (ad:Ad):Sp:=fun vs H Q _=>∃ (r:Ar) (v:Vbapah.World) (s:Vbapah.State) (z:Int),vs=[.ref r.a,.int z]/\ag K ad H r v s/\Q (.bl (bW z 0 ((s.ones.length:Nat)-1))) H
theorem iV (T:Tx P w K mg base ad):Ok T 2 ad.Bo ad.fF ["arena","number"] EH:=by
 refine T.gC.ok tp (fun vs H Q E h=>?_) (fun nd bB A outer s H vs Q E hr h=>?_)
 ·obtain ⟨r,v,s,z,rfl,_⟩:=h;rfl
 ·obtain ⟨r,v,s,z,rfl,A,q⟩:=h;refine ⟨_,(ae (aq (eC (aK T) hr T.aP (fY (pv 1) ab (aB cV (eL K T.aX (aF K (pv 0))) ab))))),?_⟩;obtain ⟨as,h1,h2⟩:=A.count;rw [<-h2] at q;exact ⟨_,rfl,_,rfl,aM T A.ins ⟨r.bl,_,rfl,.inl (aH.of h1),_,_,rfl,rfl,_,_,_,rfl,q⟩⟩
def pE (ws:List Int):Bool:=decide (ws.length=5)&&((ws.all fun z=>bW z 0 9)&&decide (0<ws.sum))
def EI (K:PySem.W.Frag) (ad:Ad):Sp:=fun vs H Q _=>∃ (a:Addr) (ws:List Int),vs=[.ref a]/\H a=some (.lst (vI ws))/\∀ H',au H H'->Q (.bl (pE ws)) H'
theorem EJ (T:Tx P w K mg base ad):Ok T 2 ad.Bn ad.fE ["weights"] EI:=by
 refine T.vW.ok tm (fun vs H Q E h=>?_) (fun nd bB A outer s H vs Q E hr h=>?_)
 ·obtain ⟨a,ws,rfl,_⟩:=h;rfl
 ·obtain ⟨a,ws,rfl,ha,q⟩:=h;refine ⟨_,(aa (aZ (aS Kd (eL K T.aX (pv 0)) (ay rfl T.gU)) (ae (aq xm)) aJ)
   (ae (aq (jb (cj (SE K) (by rfl) T.HG IG (bj (iZ rfl nd (DA K (pv 0)) (own:=[("weight",1)]) (bC (show kE ["weights","weight"] (af nV) _ [("weight",1)]=true by decide+kernel)) (fun _ _ _ _ _=>gN 1 nd) (fun _ _ _ _ _=>cu) (fun _ _ _ _ _=>(eC (aK T) hr T.aP (fY (pv 1) ab ab)))))) (nL (fR GP (cj (Qz K) (by rfl) T.D9 Dy (bj (pv 0))) ab)))))),?_⟩
  refine ⟨_,rfl,a,_,rfl,.inl (aH.of ha),rfl,_,rfl,?_⟩;rw [br];have ed:decide (V.int ((ws.length:Nat):Int)=V.int 5)=decide (ws.length=5):=decide_eq_decide.mpr (by rw [V.int.injEq];lia);show if (!decide (V.int ((ws.length:Nat):Int)=V.int 5))=true then _ else _
  rw [ed];unfold pE at q;refine aW (fun hc=>?_) fun hc=>?_
  ·rw [Bool.not_eq_true'] at hc;rw [hc] at q;exact q H (au.refl H)
  ·rw [Bool.not_eq_false'] at hc;rw [hc] at q;have h5:=of_decide_eq_true hc;refine ⟨_,rfl,a,rfl,⟨_,aH.of ha⟩,fun D hD=>?_⟩;refine Pt (xs:=vI ws) hD (aT (by rw [br];lia)) (fun i acc H2=>au H H2/\acc=(ws.take i).map fun z=>V.bl (bW z 0 9)) ⟨au.refl _,rfl⟩ (fun i acc H2 ⟨s2,_⟩=>aH.of (s2 _ _ ha)) ?_ ?_
   ·rintro i x acc H2 hi aR hlen hsz ⟨s2,rfl⟩;obtain ⟨z,hz,rfl⟩:=N0 hi;refine ⟨_,rfl,_,_,_,rfl,Eh.mk aR hlen hsz ⟨s2,?_⟩⟩;rw [aG hz,List.map_append];rfl
   ·rintro acc H2 aR hlen ⟨s2,rfl⟩;have s3:=s2.trans aN;refine ⟨D,ws.map fun z=>bW z 0 9,rfl,aH.of ?_,?_⟩
    ·rw [aR,br,List.take_of_length_le (Nat.le_refl _),List.map_map];rfl
    ·have e:((ws.map fun z=>bW z 0 9).all id)=ws.all fun z=>bW z 0 9:=by rw [List.all_map];rfl
     rw [e];refine ⟨_,rfl,eh (F:=fun b=>Q (.bl b) H2) (decide (0<ws.sum)) (q H2 s3) fun k=>⟨_,rfl,a,ws,rfl,aH.of (s3 _ _ ha),_,_,rfl,rfl,k⟩⟩
def nF (x i z e p v:Int) (ws:List Int):Bool:=((decide (1<=x)&&decide (x<2147483647))&&(bW i 1 3&&bW z 2 10))&&((bW e 0 (z-1)&&bW p 1 4)&&(bW v 0 10&&pE ws))
def Ju (K:PySem.W.Frag) (ad:Ad):Sp:=fun vs H Q _=>∃ (na a:Addr) (x i z e p v:Int) (ws:List Int),vs=[.ref na,.ref a]/\aH K H na (vI [x,i,z,e,p,v])/\H a=some (.lst (vI ws))/\∀ H',au H H'->Q (.bl (nF x i z e p v ws)) H'
theorem Jv (T:Tx P w K mg base ad):Ok T 3 ad.Hw ad.iK ["numbers","weights"] Ju:=by
 refine T.Bv.ok yf (fun vs H Q E h=>?_) (fun nd bB A outer s H vs Q E hr h=>?_)
 ·obtain ⟨na,a,x,i,z,e,p,v,ws,rfl,_⟩:=h;rfl
 ·obtain ⟨na,a,x,i,z,e,p,v,ws,rfl,hn,ha,q⟩:=h;refine ⟨_,(aa (sS 2 nd (xL K (pv 0) ab))
   (aa (aZ (cK (PW.pt (kW (bx (eC (nA T) hr T.jt (bj (xL K (pv 0) ab)))) (kW (bx (eC (aK T) hr T.aP (fY (xL K (pv 0) ab) ab ab))) (kC (bx (eC (aK T) hr T.aP (fY (pv 2) ab ab)))))))) (ae (aq xm)) aJ)
   (aa (aZ (cK (PW.pt (kW (bx (eC (aK T) hr T.aP (fY (xL K (pv 0) ab) ab (aB cV (pv 2) ab)))) (kC (bx (eC (aK T) hr T.aP (fY (xL K (pv 0) ab) ab ab))))))) (ae (aq xm)) aJ)
   (ae (aq (jb (eC (aK T) hr T.aP (fY (xL K (pv 0) ab) ab ab)) (nL (eC (EJ T) hr T.vW (bj (pv 1)))))))))),?_⟩
  refine ⟨_,rfl,na,_,_,_,rfl,rfl,hn,rfl,?_⟩;refine ⟨_,rfl,na,_,_,_,rfl,rfl,hn,rfl,_,rfl,_,rfl,eh (F:=fun b=>if (!b)=true then _ else _) (bW i 1 3&&bW z 2 10) ?_ fun k=>⟨_,rfl,na,_,_,_,rfl,rfl,hn,rfl,_,_,_,rfl,_,rfl,eh (F:=fun b=>if (!b)=true then _ else _) (bW z 2 10) k fun k=>⟨_,rfl,_,_,_,rfl,_,rfl,k⟩⟩⟩;unfold nF at q
  revert q
  generalize ((decide (1<=x)&&decide (x<2147483647))&&(bW i 1 3&&bW z 2 10))=c1;intro q;cases c1 with
  |false=>exact q H (au.refl H)
  |true=>
  refine Gg ?_;refine ⟨_,rfl,na,_,_,_,rfl,rfl,hn,rfl,_,rfl,_,_,rfl,rfl,_,_,_,rfl,_,rfl,eh (F:=fun b=>if (!b)=true then _ else _) (bW p 1 4) ?_ fun k=>⟨_,rfl,na,_,_,_,rfl,rfl,hn,rfl,_,_,_,rfl,_,rfl,k⟩⟩
  change if (!(bW e 0 (z-1)&&bW p 1 4))=true then _ else _
  revert q
  generalize (bW e 0 (z-1)&&bW p 1 4)=c2;intro q;cases c2 with
  |false=>exact q H (au.refl H)
  |true=>
  refine Gg ?_;refine ⟨_,rfl,na,_,_,_,rfl,rfl,hn,rfl,_,_,_,rfl,_,rfl,?_⟩
  change if (bW v 0 10)=true then _ else _
  cases hv:bW v 0 10 with
  |false=>
   rw [hv] at q;exact q H (au.refl H)
  |true=>
   rw [hv] at q;exact ⟨_,rfl,a,ws,rfl,ha,fun H' s'=>q H' s'⟩
def uW (K:PySem.W.Frag) (ad:Ad):Sp:=fun vs H Q _=>∃ (a ra:Addr) (v:Vbapah.World) (as:List Addr) (rs:List (List Int)),vs=[.ref a,.ref ra]/\cD ad H a v/\v.longest<=8/\H ra=some (.lst (as.map V.ref))/\Paired (fun a l=>H a=some (.lst (vI l))) as rs/\rs.length<=1000/\∀ H',au H H'->Q (.bl (rs.all (cF v))) H'
theorem gc (T:Tx P w K mg base ad):Ok T 4 ad.o7 ad.cz ["world","rows"] uW:=by
 refine T.d8.ok kq (fun vs H Q E h=>?_) (fun nd bB A outer s H vs Q E hr h=>?_)
 ·obtain ⟨a,ra,v,as,rs,rfl,_⟩:=h;rfl
 ·obtain ⟨a,ra,v,as,rs,rfl,hW,l8,Wg,rr,hl,q⟩:=h;refine ⟨_,(ae (aq (cj (SE K) (by rfl) T.HG IG (bj (iZ rfl nd (DA K (pv 1)) (own:=[("row",2)]) (bC (show kE ["world","rows","row"] (af gP) _ [("row",2)]=true by decide+kernel)) (fun _ _ _ _ _=>gN 2 nd) (fun _ _ _ _ _=>cu) (fun _ _ _ _ _=>(eC (fm T) hr T.dR (ie (pv 0) (pv 2))))))))),?_⟩;have hlen:as.length=rs.length:=rr.length;refine ⟨_,rfl,ra,rfl,⟨_,aH.of Wg⟩,fun D hD=>?_⟩;refine Pt (xs:=as.map V.ref) hD (aT (by rw [List.length_map];lia)) (fun i acc H2=>au H H2/\acc=(rs.take i).map fun l=>V.bl (cF v l)) ⟨au.refl _,rfl⟩ (fun i acc H2 ⟨s2,_⟩=>aH.of (s2 _ _ Wg)) ?_ ?_
  ·rintro i x acc H2 hi aR hlen hsz ⟨s2,rfl⟩;obtain ⟨p,hp,rfl⟩:=fU hi;obtain ⟨l,hl,jP⟩:=Paired.at rr hp;have s3:=s2.trans aN;refine ⟨_,rfl,_,rfl,a,p,v,l,rfl,hW.mono s3,l8,aH.of (s3 _ _ jP),fun H4 s4=>Eh.mk (s4 _ _ aR) hlen hsz ⟨s2.trans (gE s4),?_⟩⟩;rw [aG hl,List.map_append];rfl
  ·rintro acc H2 aR hlen ⟨s2,rfl⟩;refine ⟨D,rs.map (cF v),rfl,aH.of ?_,?_⟩
   ·rw [aR,List.length_map,rr.length,List.take_of_length_le (Nat.le_refl _),List.map_map];rfl
   ·have e:((rs.map (cF v)).all id)=rs.all (cF v):=by rw [List.all_map];rfl
    rw [e];exact q H2 (s2.trans aN)
def M0 (K:PySem.W.Frag) (ad:Ad):Sp:=fun vs H Q _=>∃ (a:Addr) (v:Vbapah.World) (x t:Int),vs=[.ref a,.int x,.int t]/\cD ad H a v/\Q (.bl (bW x (v.apart:Nat) ((v.n:Nat)-(v.apart:Nat))&&bW t 0 1)) H
theorem M1 (T:Tx P w K mg base ad):Ok T 2 ad.NW ad.lM ["world","start","turn"] M0:=by
 refine T.HF.ok DL (fun vs H Q E h=>?_) (fun nd bB A outer s H vs Q E hr h=>?_)
 ·obtain ⟨a,v,x,t,rfl,_⟩:=h;rfl
 ·obtain ⟨a,v,x,t,rfl,hW,q⟩:=h;refine ⟨_,(ae (aq (jb (eC (aK T) hr T.aP (fY (pv 1) (aF K (pv 0)) (aB cV (aF K (pv 0)) (aF K (pv 0))))) (nL (eC (aK T) hr T.aP (fY (pv 2) ab ab)))))),?_⟩;exact ⟨_,rfl,_,rfl,iQ T hW ⟨_,rfl,cn T hW ⟨_,rfl,iQ T hW ⟨_,_,rfl,rfl,_,_,_,rfl,_,rfl,eh (F:=fun b=>Q (.bl b) H) _ q fun k=>⟨_,rfl,_,_,_,rfl,k⟩⟩⟩⟩⟩
def y3 (k:Int) (ns:List Int):Bool:=(bW k 1 5&&decide (ns.length<=4))&&ns.all fun z=>bW z 0 1000
def Jw (K:PySem.W.Frag) (ad:Ad):Sp:=fun vs H Q _=>∃ (a:Addr) (k:Int) (ns:List Int),vs=[.int k,.ref a]/\H a=some (.lst (vI ns))/\∀ H',au H H'->Q (.bl (y3 k ns)) H'
theorem Jx (T:Tx P w K mg base ad):Ok T 2 ad.Hx ad.iL ["kind","numbers"] Jw:=by
 refine T.Bw.ok yg (fun vs H Q E h=>?_) (fun nd bB A outer s H vs Q E hr h=>?_)
 ·obtain ⟨a,k,ns,rfl,_⟩:=h;rfl
 ·obtain ⟨a,k,ns,rfl,ha,q⟩:=h;refine ⟨_,(aa (aZ (PW.pt (PL (cK (bx (eC (aK T) hr T.aP (fY (pv 0) (ay rfl T.CN) (ay rfl T.uJ))))) (LW (aS GP (eL K T.aX (pv 1)) (ay rfl T.iP))))) (ae (aq xm)) aJ)
   (ae (aq (cj (SE K) (by rfl) T.HG IG (bj (iZ rfl nd (DA K (pv 1)) (own:=[("number",2)]) (bC (show kE ["kind","numbers","number"] (af sQ) _ [("number",2)]=true by decide+kernel)) (fun _ _ _ _ _=>gN 2 nd) (fun _ _ _ _ _=>cu) (fun _ _ _ _ _=>(eC (aK T) hr T.aP (fY (pv 2) ab (ay rfl T.dk)))))))))),?_⟩
  refine ⟨_,rfl,_,_,_,rfl,_,rfl,KW (F:=fun b=>if b=true then _ else _) (decide ((4:Int)<(vI ns).length)) ?_ fun k=>⟨_,rfl,a,_,rfl,.inl (aH.of ha),_,_,rfl,rfl,_,rfl,k⟩⟩;have ed:(!bW k 1 5||decide ((4:Int)<(vI ns).length))= !(bW k 1 5&&decide (ns.length<=4)):=by
   rw [br,Bool.not_and, <-decide_not]
   congr 1
   exact decide_eq_decide.mpr (by lia)
  change if (!bW k 1 5||decide ((4:Int)<(vI ns).length))=true then _ else _
  rw [ed];unfold y3 at q;cases hc:(bW k 1 5&&decide (ns.length<=4)) with
  |false=>
   rw [hc] at q;exact q H (au.refl H)
  |true=>
  rw [hc] at q;rw [Bool.and_eq_true] at hc;have h4:=of_decide_eq_true hc.2;refine Gg ?_;refine ⟨_,rfl,a,rfl,⟨_,aH.of ha⟩,fun D hD=>?_⟩;refine Pt (xs:=vI ns) hD (aT (by rw [br];lia)) (fun i acc H2=>au H H2/\acc=(ns.take i).map fun z=>V.bl (bW z 0 1000)) ⟨au.refl _,rfl⟩ (fun i acc H2 ⟨s2,_⟩=>aH.of (s2 _ _ ha)) ?_ ?_
  ·rintro i x acc H2 hi aR hlen hsz ⟨s2,rfl⟩;obtain ⟨z,hz,rfl⟩:=N0 hi;refine ⟨_,rfl,_,_,_,rfl,Eh.mk aR hlen hsz ⟨s2,?_⟩⟩;rw [aG hz,List.map_append];rfl
  ·rintro acc H2 aR hlen ⟨s2,rfl⟩;refine ⟨D,ns.map fun z=>bW z 0 1000,rfl,aH.of ?_,?_⟩
   ·rw [aR,br,List.take_of_length_le (Nat.le_refl _),List.map_map];rfl
   ·have e:((ns.map fun z=>bW z 0 1000).all id)=ns.all fun z=>bW z 0 1000:=by rw [List.all_map];rfl
    rw [e];exact q H2 (s2.trans aN)
def Jy (K:PySem.W.Frag) (ad:Ad):Sp:=fun vs H Q _=>∃ (x m k:Int),vs=[.int x,.int m,.int k]/\Q (.bl ((decide (1<=x)&&decide (x<2147483647))&&(bW m 1 1000000&&bW k 1 50))) H
theorem Jz (T:Tx P w K mg base ad):Ok T 2 ad.Hy ad.iM ["number","m","how_many"] Jy:=by
 refine T.Bx.ok yh (fun vs H Q E h=>?_) (fun nd bB A outer s H vs Q E hr h=>?_)
 ·obtain ⟨x,m,k,rfl,_⟩:=h;rfl
 ·obtain ⟨x,m,k,rfl,q⟩:=h;refine ⟨_,(ae (aq (jb (eC (nA T) hr T.jt (bj (pv 0))) (jb (eC (aK T) hr T.aP (fY (pv 1) ab (ay rfl T.fi))) (nL (eC (aK T) hr T.aP (fY (pv 2) ab (ay rfl T.qf)))))))),?_⟩;exact ⟨_,rfl,_,rfl,_,rfl,eh (F:=fun b=>Q (.bl b) H) _ q fun q=>⟨_,rfl,_,_,_,rfl,_,rfl,eh (F:=fun b=>Q (.bl b) H) _ q fun q=>⟨_,rfl,_,_,_,rfl,q⟩⟩⟩
def xb (K:PySem.W.Frag) (ad:Ad):Sp:=fun vs H Q _=>∃ (r:Ar) (v:Vbapah.World) (s:Vbapah.State),vs=[.ref r.a]/\ag K ad H r v s/\(s.rates=none->s.x=0)/\Q (.int (s.x:Nat)) H
theorem xc (T:Tx P w K mg base ad):Ok T 2 ad.q5 ad.cQ ["arena"] xb:=by
 refine T.nu.ok lC (fun vs H Q E h=>?_) (fun nd bB A outer s H vs Q E hr h=>?_)
 ·obtain ⟨r,v,s,rfl,_⟩:=h;rfl
 ·obtain ⟨r,v,s,rfl,A,h0,q⟩:=h;refine ⟨_,(aa (aZ (cK (bx (eC (iU T) hr T.g6 (bj (pv 0))))) (ae (aq ab)) aJ)
   (ae (aq (aF K (aF K (pv 0)))))),?_⟩
  refine ⟨_,rfl,r,v,s,rfl,A,_,rfl,?_⟩;cases e:s.rates with
  |none=>
   rw [h0 e] at q;exact q
  |some rt=>
   obtain ⟨qa,d,_,ed,hD,ins⟩:=A.rF e;refine Gg ?_;exact ⟨_,rfl,fN T ins (cW T hD q)⟩
abbrev nG (H:Hp) (as:List Addr) (ls:List (List Int)):Prop:=Paired (fun a l=>H a=some (.lst (vI l))) as ls
theorem nG.mono {H H':Hp} {as:List Addr} {ls:List (List Int)} (h:nG H as ls) (s:au H H'):nG H' as ls:=Paired.dw h fun _ _ z=>s _ _ z
def mx (ls:List (List Int)):List Int:=ls.flatMap fun r=>(r.length:Int)::r
def um (H:Hp) (p:Addr) (a:List Int):Prop:=H p=some (.lst (vI a))/\a.length<=100001
def JA (K:PySem.W.Frag) (ad:Ad):Sp:=fun vs H Q _=>∃ (z:Int) (ra:Addr) (as:List Addr) (ls:List (List Int)),vs=[.int z,.ref ra]/\H ra=some (.lst (as.map V.ref))/\nG H as ls/\ls.length+(ls.map List.length).sum<=100000/\
 ∀ H' p,H p=none->au H H'->um H' p (VbapahNeutral.flatAns ⟨z,ls⟩)->Q (.ref p) H'
theorem qp:∀ ls:List (List Int),(mx ls).length=ls.length+(ls.map List.length).sum
 |[]=>rfl
 |l::ls=>by
  have ih:=qp ls;unfold mx at ih ⊢;rw [List.flatMap_cons,List.length_append,ih,List.length_cons,List.length_cons,List.map_cons,List.sum_cons]
  lia
theorem BD (ls:List (List Int)) (i:Nat):((ls.take i).map List.length).sum<=(ls.map List.length).sum:=by
 conv=>rhs;rw [<-List.take_append_drop i ls,List.map_append,List.sum_append]
 lia
theorem bo (T:Tx P w K mg base ad):Ok T 1 ad.Hu ad.iI ["value","rows"] JA:=by
 refine T.bt.ok yd (fun vs H Q E h=>?_) (fun nd bB A outer s H vs Q E hr h=>?_)
 ·obtain ⟨z,ra,as,ls,rfl,_⟩:=h;rfl
 ·obtain ⟨z,ra,as,ls,rfl,ha,rr,hb,q⟩:=h;refine ⟨_,(aa (aZ (aS du (eL K T.aX (pv 1)) ab) (ae (aq (aB fW (aE (bj (pv 0))) (xL K (pv 1) ab)))) aJ)
   (aa (sS 2 nd (aE (bj (pv 0))))
   (aa (jc PassesOwn.never rfl (DA K (pv 1)) (gN 3 nd) (aa (bH (hZ PySem.F.plainAttrs_list PySem.F.slot_list_append PySem.F.type_list_append cq (pv 2) (bj (eL K T.aX (pv 3)))))
   (ae (bH (hZ PySem.F.plainAttrs_list PySem.F.slot_list_extend PySem.F.type_list_extend (SF K) (pv 2) (bj (pv 3)))))))
   (ae (aq (pv 2)))))),?_⟩
  have hlen:as.length=ls.length:=rr.length;refine ⟨_,rfl,ra,_,rfl,.inl (aH.of ha),rfl,_,rfl,?_⟩;have ed:decide (V.int (((as.map V.ref).length:Nat):Int)=V.int 1)=decide (ls.length=1):=decide_eq_decide.mpr (by rw [V.int.injEq,List.length_map,hlen];lia);show if decide (V.int (((as.map V.ref).length:Nat):Int)=V.int 1)=true then _ else _
  rw [ed];refine aW (fun hc=>?_) fun hc=>?_
  ·have h1:=of_decide_eq_true hc;obtain ⟨l,rfl⟩:∃ l,ls=[l]:=by
    match ls,h1 with
    |[l],_=>exact ⟨l,rfl⟩
   obtain ⟨a,e1,e2⟩:=Paired.at' (i:=0) rr rfl;refine ⟨_,rfl,(by show 1<=sizeLine;decide),?_⟩;intro p1 wX;generalize Em:upd H p1 _=H1;obtain ⟨s1,h1x⟩:=aI wX Em
   refine ⟨_,rfl,ra,_,_,_,rfl,rfl,aH.of (s1 _ _ ha),at_of (j:=0) rfl (by rw [List.getElem?_map,e1];rfl),fZ h1x (s1 _ _ e2) (aT ?_) fun p H2 hp s2 h2=>q H2 p (s1.free hp) (s1.trans s2) ⟨?_,?_⟩⟩
   ·rw [br];simp only [List.length_cons,List.length_nil,List.map_cons,List.map_nil,List.sum_cons,List.sum_nil] at hb ⊢
    lia
   ·rw [h2];unfold VbapahNeutral.flatAns;show _=some (HO.lst (vI (z::([l]:List (List Int)).flatten)));rw [List.flatten_singleton];rfl
   ·unfold VbapahNeutral.flatAns;show (z::([l]:List (List Int)).flatten).length<=_;rw [List.flatten_singleton,List.length_cons];simp only [List.length_cons,List.length_nil,List.map_cons,List.map_nil,List.sum_cons,List.sum_nil] at hb
    lia
  ·have h1:=of_decide_eq_false hc;refine ⟨_,rfl,(by show 1<=sizeLine;decide),?_⟩;intro p1 wX;generalize Em:upd H p1 _=H1;obtain ⟨s1,h1x⟩:=aI wX Em
   refine ⟨_,rfl,ra,rfl,⟨_,aH.of (s1 _ _ ha)⟩,jC (K:=K) (a:=ra) (xs:=as.map V.ref) (fun i σ H2=>(∃ u,σ=[some (.int z),some (.ref ra),some (.ref p1),u])/\au H H2/\H2 p1=some (.lst (vI (z::mx (ls.take i))))) ⟨⟨_,rfl⟩,s1,h1x⟩ (fun i σ H2 _ ⟨_,s2,_⟩=>aH.of (s2 _ _ ha)) ?_ ?_⟩
   ·rintro i x σ H2 hi ⟨⟨u,rfl⟩,s2,h2⟩;obtain ⟨a,e1,rfl⟩:=fU hi;obtain ⟨l,hl,YF⟩:=Paired.at rr e1;have WV:=(List.getElem?_eq_some_iff.mp hl).1;have hb2:=BD ls i;have hb3:=BD ls (i+1);rw [aG hl,List.map_append,List.sum_append] at hb3;simp only [List.map_cons,List.map_nil,List.sum_cons,List.sum_nil] at hb3;have Md:=qp (ls.take i);rw [List.length_take,Nat.min_eq_left (by lia)] at Md;have np:a≠p1:=aw YF wX;refine ⟨_,rfl,.inl ⟨rfl,_,aH.of h2⟩,_,rfl,a,_,rfl,.inl (aH.of (s2 _ _ YF)),p1,_,_,rfl,rfl,h2,?_,?_⟩
    ·rw [br,List.length_cons,Md];exact Nat.lt_of_le_of_lt (show _<=200002 by lia) (by decide)
    generalize e3:upd H2 p1 _=H3;have h3:H3 p1=some (.lst (vI (z::mx (ls.take i))++[V.int ((vI l).length:Nat)])):=by rw [<-e3,ah]
    have YE:H3 a=some (.lst (vI l)):=by rw [<-e3,az np];exact s2 _ _ YF
    have s3:au H H3:=fun b o e=>by rw [<-e3,az (aw e wX)];exact s2 _ _ e
    refine ⟨_,rfl,.inl ⟨rfl,_,aH.of h3⟩,_,rfl,p1,a,_,_,rfl,rfl,h3,.inl YE,?_,⟨_,rfl⟩,fun b o e=>?_,?_⟩
    ·rw [List.length_append,br,br,List.length_cons,Md];show _+1+1+_<=_;exact Nat.le_trans (show _<=400000 by lia) (by decide)
    ·rw [az (aw e wX)];exact s3 _ _ e
    ·rw [ah,aG hl];unfold mx;rw [List.flatMap_append,List.flatMap_singleton];unfold vI;rw [List.length_map,List.map_cons,List.map_cons,List.map_append,List.map_cons,List.append_assoc];rfl
   ·rintro σ H2 ⟨⟨u,rfl⟩,s2,h2⟩;rw [List.length_map,hlen,List.take_of_length_le (Nat.le_refl _)] at h2;have Px:VbapahNeutral.flatAns ⟨z,ls⟩=z::mx ls:=by
     unfold VbapahNeutral.flatAns mx;show (z::if ls.length<=1 then ls.flatten else ls.flatMap fun r=>(r.length:Int)::r)=_;by_cases h0:ls.length<=1
     ·rw [if_pos h0];have:ls=[]:=List.length_eq_zero_iff.mp (by lia);rw [this];rfl
     ·rw [if_neg h0]
    refine ⟨_,rfl,q H2 p1 wX s2 ?_⟩;rw [Px];refine ⟨h2,?_⟩;rw [List.length_cons,qp]
    lia
end
structure Good (v:Vbapah.World) (s:Vbapah.State):Prop where
 S:WL v s
 g:s.gen<=s.ones.length
 rc:∀ o∈s.ones,o.recipe.nums.length<=100
 b3:∀ l∈s.bests,l.length<=3
section
variable {P:Program} {w:World} {K:PySem.W.Frag} {mg:Str->Option Value} {base:Heap} {ad:Ad}
structure uN (K:PySem.W.Frag) (ad:Ad) (H:Hp) (r:Ar) (v:Vbapah.World) (s:Vbapah.State) (na ra:Addr) (ns:List Int) (rs:List (List Int)):Prop where
 A:ag K ad H r v s
 G:Good v s
 nm:Out (r.N ad) H na=some (.lst (vI ns))
 rw:∃ as,Out (r.N ad) H ra=some (.lst (as.map V.ref))/\nG (Out (r.N ad) H) as rs
def jN (K:PySem.W.Frag) (ad:Ad) (H:Hp) (r:Ar) (v:Vbapah.World) (Q:VK) (s':Vbapah.State) (ZX:List Int):Prop:=
 ∀ H' r' p,r'.av=r.av/\r'.a=r.a->ag K ad H' r' v s'->(∀ m∈r'.M ad,m∈r.M ad∨H m=none)->Kp (r.M ad) H H'->H p=none->um H' p ZX->Q (.ref p) H'
def M3 (K:PySem.W.Frag) (ad:Ad) (F:List Int->List (List Int)->Vbapah.Call->Prop):Sp:=fun vs H Q _=>∃ (r:Ar) (v:Vbapah.World) (s:Vbapah.State) (na ra:Addr) (ns:List Int) (rs:List (List Int)) (k:Vbapah.Call),vs=[.ref r.a,.ref na,.ref ra]/\uN K ad H r v s na ra ns rs/\F ns rs k/\
 jN K ad H r v Q (Vbapah.step s k).1 (VbapahNeutral.flatAns (Vbapah.step s k).2)
theorem jN.same {H:Hp} {r:Ar} {v:Vbapah.World} {s:Vbapah.State} {Q:VK} {ZX:List Int} (A:ag K ad H r v s) (q:jN K ad H r v Q s ZX):∀ H' p,H p=none->au H H'->um H' p ZX->Q (.ref p) H':=fun H' p hp s' h'=>q H' r p ⟨rfl,rfl⟩ (A.mono s') (fun m hm=>.inl hm) (Kp.of s') hp h'
theorem jN.keep {H:Hp} {r:Ar} {v:Vbapah.World} {s:Vbapah.State} {Q:VK} {st:Vbapah.State×Vbapah.Ans} {z:Int} {ls:List (List Int)} (A:ag K ad H r v s) (q:jN K ad H r v Q st.1 (VbapahNeutral.flatAns st.2)) (e:st=(s,⟨z,ls⟩)):∀ H' p,H p=none->au H H'->um H' p (VbapahNeutral.flatAns ⟨z,ls⟩)->Q (.ref p) H':=by
 subst e;exact q.same A
theorem jN.no {H H1:Hp} {r:Ar} {v:Vbapah.World} {s:Vbapah.State} {Q:VK} {st:Vbapah.State×Vbapah.Ans} {z:Int} (A:ag K ad H r v s) (q:jN K ad H r v Q st.1 (VbapahNeutral.flatAns st.2)) (s1:au H H1) (e:st=Vbapah.no s z):[V.int z].length<=sizeLine/\∀ p,H1 p=none->Q (.ref p) (upd H1 p (.lst [.int z])):=by
 subst e;refine ⟨(by show 1<=sizeLine;decide),fun p hp=>?_⟩;exact q.same A _ p (s1.free hp) (fun b o e=>by rw [az (aw (s1 _ _ e) hp)];exact s1 _ _ e) ⟨ah,(by show 1<=100001;decide)⟩
theorem uN.row {H:Hp} {r:Ar} {v:Vbapah.World} {s:Vbapah.State} {na ra:Addr} {ns:List Int} {rs:List (List Int)} (C:uN K ad H r v s na ra ns rs) {i:Nat} {l:List Int} (h:rs[i]? =some l):∃ (as:List Addr) (a:Addr),H ra=some (.lst (as.map V.ref))/\(as.map V.ref)[i]? =some (.ref a)/\Out (r.N ad) H a=some (.lst (vI l)):=by
 obtain ⟨as,h1,h2⟩:=C.rw;obtain ⟨a,h3,h4⟩:=Paired.at' h2 h;exact ⟨as,a,aA _ _ h1,by rw [List.getElem?_map,h3];rfl,h4⟩
theorem aV.prog {H:Hp} {v:Vbapah.World} {p:Addr} {ns:List Int} (W:sA v) (h:aV K H p (dA ns)) (e:cF v ns=true):∃ x,Vbapah.programOf v ns=some x/\rT v x/\bG K H p x:=by
 obtain ⟨x,e1,e2,e3,_⟩:=bZ W e;rw [e2] at h;exact ⟨x,e1,e3,h⟩
theorem fV {v:Vbapah.World} {ns:List Int} (W:sA v) (e:cF v ns=true):∃ k,ns.length=3*k/\k<=8:=by
 obtain ⟨x,_,_,e3,e4,_⟩:=bZ W e;exact ⟨x.length,e4,by have:=e3.len;have:=W.l;lia⟩
theorem ag.Ra {H H':Hp} {r:Ar} {v:Vbapah.World} {s:Vbapah.State} (A:ag K ad H r v s) {as:List Addr} (hb:H r.pl=some (.lst (as.map V.ref))) {p:Addr} {x:Vbapah.Program} (k:Kp [r.pl] H H') (h:H' r.pl=some (.lst (as.map V.ref++[.ref p]))) (hs:bG K (Out (r.N ad) H') p x):
  ag K ad H' r v {s with panel:=s.panel++[x]}:=by
 have kM:Kp (r.M ad) H H':=k.mono fun z hz=>by rw [List.mem_singleton.mp hz];exact r.mP
 have ou:=bM (Ar.sub kM);obtain ⟨n1,n2,n3,n4,n5,n6,n7,n8,n9,QU,QS⟩:=A.ap;obtain ⟨CQ,p1,p2⟩:=A.pL;obtain ⟨wZ,b1,b2⟩:=A.bor;obtain ⟨FZ,r1,r2⟩:=A.row;obtain ⟨yS,t1,t2⟩:=A.HK;obtain ⟨ps,tb,tok⟩:=A.tab;obtain ⟨dx,ei⟩:=A.ins;rw [hb] at p1;have X8:as.map V.ref=CQ.map V.ref:=by
  have:=Option.some.inj p1;injection this
 refine ⟨A.nd,A.WR kM (fun _ h=>h),⟨dx,k.hG ei n1⟩,A.z9.mono ou,⟨CQ++[p],by rw [h,X8,List.map_append];rfl,Paired.app (Paired.dw p2 fun _ _ z=>aV.mono z ou) (.cons hs .nil)⟩,⟨wZ,k.hG b1 (fun z=>n5 z.symm),Paired.dw b2 fun _ _ z=>dq.mono z ou⟩,⟨FZ,ou _ _ r1,r2.mono ou⟩,⟨yS,k.hG t1 (fun z=>n6 z.symm),t2.mono ou⟩,⟨ps,k.hG tb (fun z=>n7 z.symm),tok.mono ou⟩,?_⟩;have z:=A.rat;show match s.rates with|none=>_|some rt=>_
 cases e:s.rates with
 |none=>rw [e] at z;exact z
 |some rt=>
  rw [e] at z;obtain ⟨q,d,e1,e2,e3,dy,e4⟩:=z;exact ⟨q,d,e1,e2,e3.mono ou,dy,k.hG e4 (QS d e2).2.1⟩
theorem ag.M4 {H:Hp} {r:Ar} {v:Vbapah.World} {s:Vbapah.State} (A:ag K ad H r v s):∃ as:List Addr,H r.pl=some (.lst (as.map V.ref))/\(as.map V.ref).length=s.panel.length:=by
 obtain ⟨as,e,r2⟩:=A.pL;exact ⟨as,e,by rw [List.length_map];exact r2.length⟩
theorem ww {s:Vbapah.State} {v:Vbapah.World} {f:Vbapah.World->Vbapah.State×Vbapah.Ans} (h:s.world=some v):Vbapah.withWorld s f=f v:=by
 unfold Vbapah.withWorld;rw [h]
abbrev B5 (K:PySem.W.Frag) (ad:Ad):Sp:=M3 K ad fun ns rs k=>∃ p,ns=[]/\rs=[p]/\k=.panel p
theorem B6 (T:Tx P w K mg base ad):Ok T 4 ad.ik ad.eG ["arena","numbers","rows"] B5:=by
 refine T.lP.ok qQ (fun vs H Q E h=>?_) (fun nd bB A outer s H vs Q E hr h=>?_)
 ·obtain ⟨r,v,s,na,ra,ns,rs,k,rfl,_⟩:=h;rfl
 ·obtain ⟨r,v,s,na,ra,ns,rs,k,rfl,C,⟨p,rfl,rfl,rfl⟩,q⟩:=h;refine ⟨_,(aa (aZ (PW.pt (PL (bx (eC (iU T) hr T.g6 (bj (pv 0)))) (LW (aS GP (eL K T.aX (aF K (pv 0))) ab)))) (ae (aq (aE (bj (ay rfl T.l6))))) aJ)
   (aa (aZ (cK (bx (eC (fm T) hr T.dR (ie (aF K (pv 0)) (xL K (pv 2) ab))))) (ae (aq (aE (bj (ay rfl T.gK))))) aJ)
   (aa (aZ (aS du (eL K T.aX (aF K (pv 0))) (ay rfl T.j7)) (ae (aq (aE (bj (ay rfl T.l7))))) aJ)
   (aa (bH (hZ PySem.F.plainAttrs_list PySem.F.slot_list_append PySem.F.type_list_append cq (aF K (pv 0)) (bj (eC (bq T) hr T.bp (bj (xL K (pv 2) ab))))))
   (ae (aq (aE (bj (eL K T.aX (aF K (pv 0))))))))))),?_⟩
  have A:=C.A;have S:=C.G.S;have bN:Vbapah.step s (.panel p)=if s.rates.isSome=true∨s.ones≠[] then Vbapah.no s (-3) else (match Vbapah.programOf v p with
   |none=>Vbapah.no s (-1)
   |some x=>if 4<=s.panel.length then Vbapah.no s (-5) else ({s with panel:=s.panel++[x]},⟨((s.panel.length+1:Nat):Int),[]⟩)):=ww S.world
  obtain ⟨ol,ho,lo⟩:=A.count;obtain ⟨Wh,jP,lp⟩:=A.M4;obtain ⟨WW,rp,HQ,J4,Fp⟩:=C.row (i:=0) rfl;refine ⟨_,rfl,r,v,s,rfl,A,_,rfl,KW (F:=fun b=>if b=true then _ else _) (decide ((0:Int)<(ol.length:Nat))) ?_ fun k=>⟨_,rfl,aM T A.ins ⟨r.bl,_,rfl,.inl (aH.of ho),_,_,rfl,rfl,_,rfl,k⟩⟩⟩;refine aW (fun hc=>?_) fun hc=>?_
  ·refine q.no A (au.refl H) ?_;rw [bN,if_pos];rw [Bool.or_eq_true,decide_eq_true_eq,lo] at hc;rcases hc with hc|hc
   ·exact .inl hc
   ·exact .inr fun e=>by rw [e] at hc;simp at hc
  rw [Bool.or_eq_false_iff,decide_eq_false_iff_not,lo] at hc;have e0:s.ones=[]:=List.length_eq_zero_iff.mp (by lia);rw [if_neg (by rw [hc.1,e0];simp)] at bN;refine ⟨_,rfl,ba T A.ins ⟨_,rfl,ra,_,_,_,rfl,rfl,aH.of HQ,at_of (j:=0) rfl J4,r.wa,rp,v,p,rfl,A.z9.mono aA,S.W.l.2.1,aH.of (aA _ _ Fp),fun H1 s1=>⟨_,rfl,?_⟩⟩⟩;cases hk:cF v p with
  |false=>
   rw [ji S.W hk] at bN;exact q.no A s1 bN
  |true=>
  refine Gg ?_;obtain ⟨x,ex,_⟩:=bZ S.W hk;rw [ex] at bN;have bN:Vbapah.step s (.panel p)=if 4<=s.panel.length then Vbapah.no s (-5) else ({s with panel:=s.panel++[x]},⟨((s.panel.length+1:Nat):Int),[]⟩):=bN
  have A1:=A.mono s1;refine ⟨_,rfl,cR T A1.ins ⟨r.pl,_,rfl,.inl (aH.of (s1 _ _ jP)),rfl,_,rfl,?_⟩⟩;have ed:decide (V.int (((Wh.map V.ref).length:Nat):Int)=V.int 4)=decide (s.panel.length=4):=decide_eq_decide.mpr (by rw [V.int.injEq,lp];lia);show if decide (V.int (((Wh.map V.ref).length:Nat):Int)=V.int 4)=true then _ else _
  rw [ed];have p4:=S.pl;refine aW (fun hc=>?_) fun hc=>?_
  ·have:=of_decide_eq_true hc;exact q.no A s1 (by rw [bN,if_pos (by lia)])
  have hn4:=of_decide_eq_false hc;rw [if_neg (by lia)] at bN;obtain ⟨kk,MU,YG⟩:=fV S.W hk;have EK:=s1 _ _ HQ;refine ⟨_,rfl,cR T A1.ins ⟨.inl ⟨rfl,_,aH.of (s1 _ _ jP)⟩,_,rfl,ra,_,_,_,rfl,rfl,aH.of EK,at_of (j:=0) rfl J4,rp,p,kk,rfl,aH.of (s1 _ _ (aA _ _ Fp)),MU,by lia,fun H2 px SY s2 hC=>?_⟩⟩;obtain ⟨x',J1,X,hX⟩:=hC.prog S.W hk;rw [ex] at J1;cases J1;have A2:=A1.mono s2;have YH:=s2 _ _ (s1 _ _ jP);refine ⟨r.pl,_,_,rfl,rfl,YH,by rw [lp];exact Nat.lt_of_le_of_lt (show s.panel.length<=1000 by lia) (by decide),?_⟩;have hXo:bG K (Out (r.N ad) H2) px x:=aV.out hX (A1.fresh SY) A2.Pu;generalize e3:upd H2 r.pl _=H3;have k3:Kp [r.pl] H2 H3:=by rw [<-e3];exact Kp.upd
  have h3:H3 r.pl=some (.lst (Wh.map V.ref++[.ref px])):=by rw [<-e3,ah]
  have A3:=A2.Ra YH k3 h3 (aV.mono hXo (bM (Ar.sub (k3.mono fun z hz=>by rw [List.mem_singleton.mp hz];exact r.mP))));refine ⟨_,rfl,cR T A3.ins ⟨r.pl,_,rfl,.inl (aH.of h3),(by show 1<=sizeLine;decide),fun pp Wa=>?_⟩⟩;rw [bN] at q;have OR:Kp (r.M ad) H H3:=(Kp.of (s1.trans s2)).trans (k3.mono fun z hz=>by rw [List.mem_singleton.mp hz];exact r.mP);have M5:H pp=none:=by
   cases hz:H pp with
   |none=>rfl
   |some o=>
    have hN:pp∉r.M ad:=fun z=>A3.fresh Wa (List.mem_append_left _ z)
    rw [OR pp o hz hN] at Wa;cases Wa
  refine q _ r pp ⟨rfl,rfl⟩ (A3.mono (au.laid Wa)) (fun m hm=>.inl hm) (OR.trans (Kp.of (au.laid Wa))) M5 ⟨?_,(by show 1<=100001;decide)⟩;rw [ah,List.length_append,lp];rfl
abbrev B7 (K:PySem.W.Frag) (ad:Ad):Sp:=M3 K ad fun ns rs k=>∃ p,ns=[]/\rs=[p]/\k=.first p
theorem B8 (T:Tx P w K mg base ad):Ok T 11 ad.ip ad.eI ["arena","numbers","rows"] B7:=by
 refine T.lQ.ok qR (fun vs H Q E h=>?_) (fun nd bB A outer s H vs Q E hr h=>?_)
 ·obtain ⟨r,v,s,na,ra,ns,rs,k,rfl,_⟩:=h;rfl
 ·obtain ⟨r,v,s,na,ra,ns,rs,k,rfl,C,⟨p,rfl,rfl,rfl⟩,q⟩:=h;refine ⟨_,(aa (aZ (bx (eC (iU T) hr T.g6 (bj (pv 0)))) (ae (aq (aE (bj (ay rfl T.l6))))) aJ)
   (aa (aZ (cK (bx (eC (fm T) hr T.dR (ie (aF K (pv 0)) (xL K (pv 2) ab))))) (ae (aq (aE (bj (ay rfl T.gK))))) aJ)
   (aa (aZ (aS du (eL K T.aX (aF K (pv 0))) (ay rfl T.tY)) (ae (aq (aE (bj (ay rfl T.l7))))) aJ)
   (aa (sS 3 nd (eC (Jf T) hr T.Bs (ie (pv 0) (eC (bq T) hr T.bp (bj (xL K (pv 2) ab))))))
   (ae (aq (eC (bo T) hr T.bt (ie (aF K (xL K (aF K (pv 0)) (pv 3))) (aE (bj (aE (bj (pv 3))))))))))))),?_⟩
  have A:=C.A;have S:=C.G.S;have bN:Vbapah.step s (.first p)=if s.rates.isSome=true then Vbapah.no s (-3) else (match Vbapah.programOf v p with
   |none=>Vbapah.no s (-1)
   |some x=>if 10<=s.ones.length then Vbapah.no s (-5) else ({s with ones:=s.ones++[⟨x,Vbapah.scoreOf v s.panel x,0,none,⟨9,[]⟩⟩]},⟨(Vbapah.scoreOf v s.panel x:Nat),[Vbapah.ints [s.ones.length]]⟩)):=ww S.world
  obtain ⟨ol,ho,lo⟩:=A.count;obtain ⟨WW,rp,HQ,J4,Fp⟩:=C.row (i:=0) rfl;refine ⟨_,rfl,r,v,s,rfl,A,_,rfl,?_⟩;refine aW (fun hc=>?_) fun hc=>?_
  ·exact q.no A (au.refl H) (by rw [bN,if_pos hc])
  rw [if_neg (by rw [hc];exact Bool.false_ne_true)] at bN;have WX:s.rates=none:=by
   cases e:s.rates with
   |none=>rfl
   |some _=>rw [e] at hc;cases hc
  obtain ⟨_,_,g0,_,o10⟩:=S.none_ WX;refine ⟨_,rfl,ba T A.ins ⟨_,rfl,ra,_,_,_,rfl,rfl,aH.of HQ,at_of (j:=0) rfl J4,r.wa,rp,v,p,rfl,A.z9.mono aA,S.W.l.2.1,aH.of (aA _ _ Fp),fun H1 s1=>⟨_,rfl,?_⟩⟩⟩;cases hk:cF v p with
  |false=>
   rw [ji S.W hk] at bN;exact q.no A s1 bN
  |true=>
  refine Gg ?_;obtain ⟨x,ex,_⟩:=bZ S.W hk;rw [ex] at bN;have bN:Vbapah.step s (.first p)=if 10<=s.ones.length then Vbapah.no s (-5) else ({s with ones:=s.ones++[⟨x,Vbapah.scoreOf v s.panel x,0,none,⟨9,[]⟩⟩]},⟨(Vbapah.scoreOf v s.panel x:Nat),[Vbapah.ints [s.ones.length]]⟩):=bN
  have A1:=A.mono s1;refine ⟨_,rfl,aM T A1.ins ⟨r.bl,_,rfl,.inl (aH.of (s1 _ _ ho)),rfl,_,rfl,?_⟩⟩;have ed:decide (V.int ((ol.length:Nat):Int)=V.int 10)=decide (s.ones.length=10):=decide_eq_decide.mpr (by rw [V.int.injEq,lo];lia);show if decide (V.int ((ol.length:Nat):Int)=V.int 10)=true then _ else _
  rw [ed];refine aW (fun hc=>?_) fun hc=>?_
  ·have:=of_decide_eq_true hc;exact q.no A s1 (by rw [bN,if_pos (by lia)])
  have hn4:=of_decide_eq_false hc;rw [if_neg (by lia)] at bN;obtain ⟨kk,MU,YG⟩:=fV S.W hk;have EK:=s1 _ _ HQ;refine ⟨_,rfl,_,rfl,ra,_,_,_,rfl,rfl,aH.of EK,at_of (j:=0) rfl J4,rp,p,kk,rfl,aH.of (s1 _ _ (aA _ _ Fp)),MU,by lia,fun H2 px SY s2 hC=>?_⟩;obtain ⟨x',J1,X,hX⟩:=hC.prog S.W hk;rw [ex] at J1;cases J1;have A2:=A1.mono s2;have hXo:bG K (Out (r.N ad) H2) px x:=aV.out hX (A1.fresh SY) A2.Pu;refine ⟨r,v,s,px,x,rfl,A2,S.W,S.pl,S.pL,by have:=S.ol;lia,hXo,X,fun H3 k3 A3=>?_⟩;rw [g0] at A3;have aby:(s.ones++[⟨x,Vbapah.scoreOf v s.panel x,0,none,⟨9,[]⟩⟩])[s.ones.length]? =some ⟨x,Vbapah.scoreOf v s.panel x,0,none,⟨9,[]⟩⟩:=by rw [List.getElem?_append_right (Nat.le_refl _),Nat.sub_self];rfl
  refine ⟨_,rfl,aM T A3.ins ⟨_,rfl,kQ T A3 aby rfl fun pp hS=>?_⟩⟩;obtain ⟨px',LO,rc',g1,_⟩:=hS;refine dh T g1 ⟨_,rfl,(by show 1<=sizeLine;decide),?_⟩;intro p1 wX;generalize Em:upd H3 p1 _=H4;obtain ⟨s4,h4⟩:=aI wX Em
  refine ⟨(by show 1<=sizeLine;decide),?_⟩;intro p2 ke;generalize kf:upd H4 p2 _=H5;obtain ⟨s5,h5⟩:=aI ke kf
  refine ⟨_,p2,[p1],[Vbapah.ints [s.ones.length]],rfl,h5,.cons (s5 _ _ h4) .nil,(by show 1+(1+0)<=100000;decide),fun H6 p hp s6 h6=>?_⟩;rw [bN] at q;have kb:Kp (r.M ad) H H3:=(Kp.of (s1.trans s2)).trans (k3.mono fun z hz=>by rw [List.mem_singleton.mp hz];exact r.mB);have WY:=(s4.trans s5).trans s6;have LN:H3 p=none:=(s4.trans s5).free hp;have M5:H p=none:=by
   cases hz:H p with
   |none=>rfl
   |some o=>
    have hN:p∉r.M ad:=fun z=>A3.fresh LN (List.mem_append_left _ z)
    rw [kb p o hz hN] at LN;cases LN
  have A3':ag K ad H3 r v {s with ones:=s.ones++[⟨x,Vbapah.scoreOf v s.panel x,0,none,⟨9,[]⟩⟩]}:=by
   rw [<-g0] at A3 ⊢;exact A3
  exact q H6 r p ⟨rfl,rfl⟩ (A3'.mono WY) (fun m hm=>.inl hm) (kb.trans (Kp.of WY)) M5 h6
end
theorem Rb (l:List (Nat×Vbapah.Cell)):∀ m:Vbapah.Machine,(l.foldl (fun k x=>Vbapah.setCell k x.1 x.2) m).rows=m.rows/\(l.foldl (fun k x=>Vbapah.setCell k x.1 x.2) m).cap=m.cap:=by
 induction l with
 |nil=>exact fun m=>⟨rfl,rfl⟩
 |cons a l ih=>
  intro m;rw [List.foldl_cons];exact ih _
theorem JB {m:Vbapah.Machine} (h:∀ r∈m.rows,r.length<=m.cap):(Vbapah.turnOf m).cap=m.cap/\(Vbapah.turnOf m).left<=m.left/\∀ r∈(Vbapah.turnOf m).rows,r.length<=m.cap:=by
 unfold Vbapah.turnOf;by_cases he:Vbapah.ended m=true
 ·rw [if_pos he];exact ⟨rfl,Nat.le_refl _,h⟩
 ·rw [if_neg he];cases hr:Vbapah.rowAt m m.turn with
  |nil=>exact ⟨rfl,Nat.le_refl _,h⟩
  |cons p r=>
   obtain ⟨e1,e2⟩:=Rb (Vbapah.effect m p).1 m;refine ⟨e2,Nat.sub_le _ _,fun z hz=>?_⟩;have hz:z∈((Vbapah.effect m p).1.foldl (fun k x=>Vbapah.setCell k x.1 x.2) m).rows.set m.turn (r++(Vbapah.effect m p).2.take (m.cap-r.length)):=hz;rw [e1] at hz;rcases List.mem_or_eq_of_mem_set hz with hz|hz
   ·exact h z hz
   ·have hm:(p::r)∈m.rows:=by
     rw [<-hr];unfold Vbapah.rowAt at hr ⊢;rw [List.getD_eq_getElem?_getD] at hr ⊢;cases hg:m.rows[m.turn]? with
     |none=>rw [hg] at hr;cases hr
     |some l=>exact List.mem_of_getElem? hg
    have:=h _ hm;rw [List.length_cons] at this;rw [hz,List.length_append,List.length_take]
    lia
theorem BE:∀ (k:Nat) (m:Vbapah.Machine),(∀ r∈m.rows,r.length<=m.cap)->(Vbapah.turns k m).left<=m.left/\∀ r∈(Vbapah.turns k m).rows,r.length<=m.cap
 |0,m,h=>⟨Nat.le_refl _,h⟩
 |k+1,m,h=>by
  unfold Vbapah.turns;by_cases he:Vbapah.ended m=true
  ·rw [if_pos he];exact ⟨Nat.le_refl _,h⟩
  ·rw [if_neg he];obtain ⟨e1,e2,e3⟩:=JB h;obtain ⟨e4,e5⟩:=BE k (Vbapah.turnOf m) (by rw [e1];exact e3);rw [e1] at e5;exact ⟨Nat.le_trans e4 e2,e5⟩
theorem M7 {v:Vbapah.World} {x y:Vbapah.Program} {a t:Nat} (W:sA v) (X:rT v x) (Y:rT v y) (h1:v.apart<=a) (h2:a<=v.n-v.apart):(Vbapah.turns (2*v.rounds) (Vbapah.setUp v x y a t)).left<=2*v.rounds/\∀ f,(Vbapah.rowAt (Vbapah.turns (2*v.rounds) (Vbapah.setUp v x y a t)) f).length<=4:=by
 have hx:=X.len;have hy:=Y.len;have hl:=W.l;have hd:=W.d;have hh:=W.h;have e:=jE (w:=v) (x:=x) (y:=y) (s:=a) (f:=t) (by lia) (by lia);have z:=BE (2*v.rounds) (Vbapah.setUp v x y a t) (by
  rw [e];intro r hr;simp only [List.mem_cons,List.not_mem_nil,or_false] at hr;rcases hr with rfl|rfl<;>(show 1<=v.hands;lia))
 have e1:(Vbapah.setUp v x y a t).left=2*v.rounds:=by rw [e]
 have e2:(Vbapah.setUp v x y a t).cap=v.hands:=by rw [e]
 rw [e1,e2] at z;refine ⟨z.1,fun f=>?_⟩;unfold Vbapah.rowAt;rw [List.getD_eq_getElem?_getD];cases hg:(Vbapah.turns (2*v.rounds) (Vbapah.setUp v x y a t)).rows[f]? with
 |none=>exact Nat.zero_le _
 |some l=>exact Nat.le_trans (z.2 l (List.mem_of_getElem? hg)) hh.2
theorem Lh (p:Vbapah.Program):wV (p.map hU)=Vbapah.programInts p:=by
 unfold wV Vbapah.programInts Vbapah.ints;rw [List.flatMap_map,List.map_flatMap];rfl
theorem qr (p:Vbapah.Program):(Vbapah.programInts p).length=3*p.length:=by
 unfold Vbapah.programInts Vbapah.ints;rw [List.length_map]
 induction p with
 |nil=>rfl
 |cons c p ih=>
  rw [List.flatMap_cons,List.length_append,ih];show 3+3*p.length=3*(p.length+1)
  lia
theorem dW (l:List Nat):(Vbapah.ints l).length=l.length:=List.length_map _
section
variable {P:Program} {w:World} {K:PySem.W.Frag} {mg:Str->Option Value} {base:Heap} {ad:Ad}
theorem uN.num {H:Hp} {r:Ar} {v:Vbapah.World} {s:Vbapah.State} {na ra:Addr} {ns:List Int} {rs:List (List Int)} (C:uN K ad H r v s na ra ns rs):aH K H na (vI ns):=aH.of (aA _ _ C.nm)
abbrev Ai (K:PySem.W.Frag) (ad:Ad):Sp:=M3 K ad fun ns rs k=>∃ i,ns=[i]/\rs=[]/\k=.living i
theorem WL.live {v:Vbapah.World} {s:Vbapah.State} (S:WL v s):s.living.length<=3/\∀ l∈s.living,l≠[]/\l.length<=10/\∀ i∈l,i<s.ones.length:=by
 cases e:s.rates with
 |none=>
  rw [(S.none_ e).1];exact ⟨Nat.zero_le _,fun l hl=>(by cases hl)⟩
 |some rt=>
  have B:=S.qD rt e;have:=B.R.i;have:=B.R.s;refine ⟨by have:=B.il;lia,fun l hl=>?_⟩;have R:=B.rows l hl;have hlen:=R.len;refine ⟨fun z=>?_,by lia,R.lt⟩;rw [z] at hlen;simp at hlen
  lia
theorem Aj (T:Tx P w K mg base ad):Ok T 2 ad.gg ad.dJ ["arena","numbers","rows"] Ai:=by
 refine T.j0.ok oV (fun vs H Q E h=>?_) (fun nd bB A outer s H vs Q E hr h=>?_)
 ·obtain ⟨r,v,s,na,ra,ns,rs,k,rfl,_⟩:=h;rfl
 ·obtain ⟨r,v,s,na,ra,ns,rs,k,rfl,C,⟨i,rfl,rfl,rfl⟩,q⟩:=h;refine ⟨_,(aa (aZ (cK (bx (eC (aK T) hr T.aP (fY (xL K (pv 1) ab) ab (aB cV (eL K T.aX (aF K (pv 0))) ab))))) (ae (aq (aE (bj (ay rfl T.g9))))) aJ)
   (aa (sS 3 nd (xL K (aF K (pv 0)) (xL K (pv 1) ab)))
   (ae (aq (eC (bo T) hr T.bt (ie (eL K T.aX (pv 3)) (aE (ie (pv 3) (iZ rfl nd (DA K (pv 3)) (own:=[("number",4)]) (bC (show kE ["arena","numbers","rows","living","number"] (af jW) _ [("number",4)]=true by decide+kernel)) (fun _ _ _ _ _=>gN 4 nd) (fun _ _ _ _ _=>cu) (fun _ _ _ _ _=>(aF K (xL K (aF K (pv 0)) (pv 4))))))))))))),?_⟩
  have A:=C.A;have S:=C.G.S;have bN:Vbapah.step s (.living i)=if i<0 then Vbapah.no s (-6) else (match s.living[i.toNat]? with
   |none=>Vbapah.no s (-6)
   |some l=>(s,⟨(l.length:Nat),[Vbapah.ints l,Vbapah.ints (l.map (Vbapah.scoreAt s.ones))]⟩)):=ww S.world
  obtain ⟨as,ZY,rr⟩:=A.row;have hlen:(as.map V.ref).length=s.living.length:=by rw [List.length_map];exact rr.length
  refine ⟨_,rfl,na,_,_,_,rfl,rfl,C.num,rfl,_,rfl,bR T A.ins ⟨r.rw,_,rfl,.inl (aH.of (aA _ _ ZY)),_,_,rfl,rfl,_,_,_,rfl,_,rfl,?_⟩⟩;rw [hlen]
  change if (!bW i 0 ((s.living.length:Nat)-1))=true then _ else _
  cases hc:bW i 0 ((s.living.length:Nat)-1) with
  |false=>
   refine q.no A (au.refl H) ?_;rw [bN];unfold bW at hc;rw [Bool.and_eq_false_iff,decide_eq_false_iff_not,decide_eq_false_iff_not] at hc;by_cases h0:i<0
   ·rw [if_pos h0]
   ·rw [if_neg h0,List.getElem?_eq_none (by lia)]
  |true=>
  unfold bW at hc;rw [Bool.and_eq_true,decide_eq_true_eq,decide_eq_true_eq] at hc;refine Gg ?_;obtain ⟨n,rfl⟩:∃ n:Nat,i=(n:Int):=⟨i.toNat,by lia⟩;obtain ⟨l,hl⟩:∃ l,s.living[n]? =some l:=⟨_,List.getElem?_eq_getElem (by lia)⟩;rw [if_neg (by lia),Int.toNat_natCast,hl] at bN;have bN:Vbapah.step s (.living (n:Nat))=(s,⟨(l.length:Nat),[Vbapah.ints l,Vbapah.ints (l.map (Vbapah.scoreAt s.ones))]⟩):=bN;obtain ⟨_,l10,eW⟩:=S.live.2 l (List.mem_of_getElem? hl);obtain ⟨pl,jP,epl⟩:=Paired.at' rr hl;have Tg:=aA _ _ epl;refine ⟨_,rfl,bR T A.ins ⟨_,rfl,na,_,_,_,rfl,rfl,C.num,rfl,r.rw,_,_,_,rfl,rfl,aH.of (aA _ _ ZY),at_of rfl (by rw [List.getElem?_map,jP];rfl),?_⟩⟩;refine ⟨_,rfl,pl,_,rfl,.inl (aH.of Tg),_,rfl,_,rfl,pl,rfl,⟨_,aH.of Tg⟩,fun D hD=>?_⟩;refine Pt (xs:=vN l) hD (aT (by rw [aO];lia)) (fun i acc H2=>acc=vN ((l.take i).map (Vbapah.scoreAt s.ones))/\au H H2) ⟨rfl,au.refl H⟩ (fun i acc H2 ⟨_,s2⟩=>aH.of (s2 _ _ Tg)) ?_ ?_
  ·rintro i z acc H2 hi aR hlen hsz ⟨rfl,s2⟩;obtain ⟨m,hm,rfl⟩:=kP hi;have A2:=A.mono (s2.trans aN);obtain ⟨o,ho,es,_⟩:=Aa (eW m (List.mem_of_getElem? hm));refine ⟨_,rfl,aM T A2.ins ⟨_,rfl,kQ T A2 ho rfl fun pp hS=>?_⟩⟩;obtain ⟨px,pq,rc,h1,_⟩:=hS;refine dh T h1 (Eh.mk aR hlen hsz ⟨?_,s2⟩);rw [aG hm,List.map_append,cS];show _=_++[V.int ((Vbapah.scoreAt s.ones m:Nat):Int)];rw [es]
  ·rintro acc H2 aR vd ⟨rfl,s2⟩;rw [aO,List.take_of_length_le (Nat.le_refl _)] at aR;have s3:=s2.trans aN;refine ⟨(by show 2<=sizeLine;decide),?_⟩;intro p2 ke;generalize kf:upd H2 p2 _=H3;obtain ⟨s4,h4⟩:=aI ke kf
   refine ⟨((l.length:Nat):Int),p2,[pl,D],[Vbapah.ints l,Vbapah.ints (l.map (Vbapah.scoreAt s.ones))],?_,h4,.cons ?_ (.cons ?_ .nil),?_,fun H5 p hp s5 h5=>?_⟩
   ·rw [aO];rfl
   ·rw [gL];exact s4 _ _ (s3 _ _ Tg)
   ·rw [gL];exact s4 _ _ aR
   ·show 2+((Vbapah.ints l).length+((Vbapah.ints (l.map _)).length+0))<=_;rw [dW,dW,List.length_map]
    lia
   ·exact q.keep A bN H5 p ((s3.trans s4).free hp) ((s3.trans s4).trans s5) h5
theorem my {s:Vbapah.State} {i:Int} (hc:bW i 0 ((s.ones.length:Nat)-1)=true):∃ (n:Nat) (o:Vbapah.One),i=(n:Nat)/\n<s.ones.length/\s.ones[n]? =some o/\Vbapah.oneAt s i=some o:=by
 unfold bW at hc;rw [Bool.and_eq_true,decide_eq_true_eq,decide_eq_true_eq] at hc;obtain ⟨n,rfl⟩:∃ n:Nat,i=(n:Int):=⟨i.toNat,by lia⟩;have hn:n<s.ones.length:=by lia
 refine ⟨n,s.ones[n],rfl,hn,List.getElem?_eq_getElem hn,?_⟩;unfold Vbapah.oneAt;rw [if_neg (by lia),Int.toNat_natCast];exact List.getElem?_eq_getElem hn
theorem qt {s:Vbapah.State} {i:Int} (hc:bW i 0 ((s.ones.length:Nat)-1)=false):Vbapah.oneAt s i=none:=by
 unfold bW at hc;rw [Bool.and_eq_false_iff,decide_eq_false_iff_not,decide_eq_false_iff_not] at hc;unfold Vbapah.oneAt;by_cases h0:i<0
 ·rw [if_pos h0]
 ·rw [if_neg h0];exact List.getElem?_eq_none (by lia)
theorem Li (o:Vbapah.One):(Vbapah.oneRows o).length+((Vbapah.oneRows o).map List.length).sum<=8+3*o.program.length+o.recipe.nums.length:=by
 unfold Vbapah.oneRows;cases o.parents with
 |none=>
  show 4+((Vbapah.programInts o.program).length+(1+(0+((Vbapah.ints (o.recipe.kind::o.recipe.nums)).length+0))))<=_;rw [qr,dW,List.length_cons]
  lia
 |some pq=>
  show 4+((Vbapah.programInts o.program).length+(1+(2+((Vbapah.ints (o.recipe.kind::o.recipe.nums)).length+0))))<=_;rw [qr,dW,List.length_cons]
  lia
abbrev Gh (K:PySem.W.Frag) (ad:Ad):Sp:=M3 K ad fun ns rs k=>∃ i,ns=[i]/\rs=[]/\k=.one i
theorem Gi (T:Tx P w K mg base ad):Ok T 3 ad.lE ad.gB ["arena","numbers","rows"] Gh:=by
 refine T.p9.ok vK (fun vs H Q E h=>?_) (fun nd bB A outer s H vs Q E hr h=>?_)
 ·obtain ⟨r,v,s,na,ra,ns,rs,k,rfl,_⟩:=h;rfl
 ·obtain ⟨r,v,s,na,ra,ns,rs,k,rfl,C,⟨i,rfl,rfl,rfl⟩,q⟩:=h;refine ⟨_,(aa (aZ (cK (bx (eC (iV T) hr T.gC (ie (pv 0) (xL K (pv 1) ab))))) (ae (aq (aE (bj (ay rfl T.g9))))) aJ)
   (aa (sS 3 nd (xL K (aF K (pv 0)) (xL K (pv 1) ab)))
   (ae (aq (eC (bo T) hr T.bt (ie (aF K (pv 3)) (aE (aQ (eC (rE T) hr T.lN (bj (aF K (pv 3)))) (fY (aE (bj (aF K (pv 3)))) (aF K (pv 3)) (aF K (pv 3))))))))))),?_⟩
  have A:=C.A;have S:=C.G.S;have bN:Vbapah.step s (.one i)=(match Vbapah.oneAt s i with
   |none=>Vbapah.no s (-6)
   |some o=>(s,⟨(o.score:Nat),Vbapah.oneRows o⟩)):=ww S.world
  refine ⟨_,rfl,_,rfl,na,_,_,_,rfl,rfl,C.num,rfl,r,v,s,i,rfl,A,_,rfl,?_⟩;cases hc:bW i 0 ((s.ones.length:Nat)-1) with
  |false=>
   rw [qt hc] at bN;exact q.no A (au.refl H) bN
  |true=>
  refine Gg ?_;obtain ⟨n,o,rfl,hn,ho,e1⟩:=my hc;rw [e1] at bN;have bN:Vbapah.step s (.one (n:Nat))=(s,⟨(o.score:Nat),Vbapah.oneRows o⟩):=bN;have hom:=List.mem_of_getElem? ho;have hpo:=S.O.prog o hom;have Uq:=C.G.rc o hom;have hl8:=S.W.l;have jP:=hpo.len;refine ⟨_,rfl,aM T A.ins ⟨_,rfl,na,_,_,_,rfl,rfl,C.num,rfl,kQ T A ho rfl fun pp hS=>?_⟩⟩;obtain ⟨px,ps,rc,g1,g2,g3,g4⟩:=hS;refine ⟨_,rfl,dh T g1 ⟨_,rfl,dz T g1 ⟨px,_,rfl,g2,by rw [List.length_map];lia,fun H1 p1 XU s1 h1=>?_⟩⟩⟩;refine ⟨_,rfl,qj T (g1.mono s1) ⟨(by show 1<=sizeLine;decide),?_⟩⟩;intro p2 ke;generalize kf:upd H1 p2 _=H2;obtain ⟨s2,h2⟩:=aI ke kf
  have oy:=s1.trans s2;refine ⟨_,rfl,ky T (g1.mono oy) ⟨_,rfl,wU T (g1.mono oy) ⟨(by show 4<=sizeLine;decide),?_⟩⟩⟩;intro p3 QP;generalize QQ:upd H2 p3 _=H3;obtain ⟨s3,h3⟩:=aI QP QQ
  have zW:=oy.trans s3;refine ⟨_,p3,[p1,p2,ps,rc],Vbapah.oneRows o,rfl,h3,?_,?_,fun H4 p hp s4 h4=>?_⟩
  ·unfold Vbapah.oneRows;refine .cons ?_ (.cons (s3 _ _ h2) (.cons ?_ (.cons ?_ .nil)))
   ·rw [<-Lh];exact s3 _ _ (s2 _ _ h1)
   ·rw [zW _ _ g3];unfold uS;cases o.parents with
    |none=>rfl
    |some pq=>rfl
   ·rw [gL];exact zW _ _ g4
  ·have:=Li o
   lia
  ·exact q.keep A bN H4 p (zW.free hp) (zW.trans s4) h4
abbrev EL (K:PySem.W.Frag) (ad:Ad):Sp:=M3 K ad fun ns rs k=>∃ i,ns=[i]/\rs=[]/\k=.tree i
theorem EM (T:Tx P w K mg base ad):Ok T 3 ad.jG ad.fG ["arena","numbers","rows"] EL:=by
 refine T.oe.ok tq (fun vs H Q E h=>?_) (fun nd bB A outer s H vs Q E hr h=>?_)
 ·obtain ⟨r,v,s,na,ra,ns,rs,k,rfl,_⟩:=h;rfl
 ·obtain ⟨r,v,s,na,ra,ns,rs,k,rfl,C,⟨i,rfl,rfl,rfl⟩,q⟩:=h;refine ⟨_,(aa (aZ (cK (bx (eC (iV T) hr T.gC (ie (pv 0) (xL K (pv 1) ab))))) (ae (aq (aE (bj (ay rfl T.g9))))) aJ)
   (aa (sS 3 nd (eC (Jq T) hr T.Bt (ie (aF K (pv 0)) (xL K (pv 1) ab))))
   (ae (aq (eC (bo T) hr T.bt (ie (eL K T.aX (pv 3)) (aE (ie (pv 3) (aE (bj (aF K (xL K (aF K (pv 0)) (xL K (pv 1) ab))))))))))))),?_⟩
  have A:=C.A;have S:=C.G.S;have bN:Vbapah.step s (.tree i)=(match Vbapah.oneAt s i with
   |none=>Vbapah.no s (-6)
   |some _=>let l:=Vbapah.ancestors s.ones i.toNat;(s,⟨(l.length:Nat),[Vbapah.ints l,Vbapah.ints [(Vbapah.depths s.ones).getD i.toNat 0]]⟩)):=ww S.world
  refine ⟨_,rfl,_,rfl,na,_,_,_,rfl,rfl,C.num,rfl,r,v,s,i,rfl,A,_,rfl,?_⟩;cases hc:bW i 0 ((s.ones.length:Nat)-1) with
  |false=>
   rw [qt hc] at bN;exact q.no A (au.refl H) bN
  |true=>
  refine Gg ?_;obtain ⟨n,o,rfl,hn,ho,e1⟩:=my hc;rw [e1] at bN;have bN:Vbapah.step s (.tree (n:Nat))=(s,⟨((Vbapah.ancestors s.ones n).length:Nat),[Vbapah.ints (Vbapah.ancestors s.ones n),Vbapah.ints [(Vbapah.depths s.ones).getD n 0]]⟩):=bN;have ol:=S.ol;have E:=S.O.jD;have XE:(Vbapah.ancestors s.ones n).length<=n:=pQ _ _ (jR E hn) fun z hz=>((gd E hn).mp hz).lt E
  refine ⟨_,rfl,aM T A.ins ⟨_,rfl,na,_,_,_,rfl,rfl,C.num,rfl,r,v,s,n,rfl,A,hn,by lia,E,fun H1 f hf s1 h1=>?_⟩⟩;have A1:=A.mono s1;refine ⟨_,rfl,f,_,rfl,.inl (aH.of h1),_,rfl,_,rfl,aM T A1.ins ⟨_,rfl,na,_,_,_,rfl,rfl,s1.seq C.num,rfl,kQ T A1 ho rfl fun pp hS=>?_⟩⟩;obtain ⟨px,ps,rc,g1,_⟩:=hS;refine nz T g1 ⟨(by show 1<=sizeLine;decide),?_⟩;intro p2 ke;generalize kf:upd H1 p2 _=H2;obtain ⟨s2,h2⟩:=aI ke kf
  refine ⟨(by show 2<=sizeLine;decide),?_⟩;intro p3 QP;generalize QQ:upd H2 p3 _=H3;obtain ⟨s3,h3⟩:=aI QP QQ
  have zW:=(s1.trans s2).trans s3;refine ⟨(((Vbapah.ancestors s.ones n).length:Nat):Int),p3,[f,p2],[Vbapah.ints (Vbapah.ancestors s.ones n),Vbapah.ints [(Vbapah.depths s.ones).getD n 0]],?_,h3,.cons ?_ (.cons (s3 _ _ h2) .nil),?_,fun H4 p hp s4 h4=>?_⟩
  ·rw [aO];rfl
  ·rw [gL];exact s3 _ _ (s2 _ _ h1)
  ·show 2+((Vbapah.ints (Vbapah.ancestors s.ones n)).length+(1+0))<=_;rw [dW]
   lia
  ·exact q.keep A bN H4 p (zW.free hp) (zW.trans s4) h4
abbrev Ak (K:PySem.W.Frag) (ad:Ad):Sp:=M3 K ad fun ns rs k=>∃ i j,ns=[i,j]/\rs=[]/\k=.common i j
theorem Al (T:Tx P w K mg base ad):Ok T 3 ad.gh ad.dN ["arena","numbers","rows"] Ak:=by
 refine T.j1.ok oW (fun vs H Q E h=>?_) (fun nd bB A outer s H vs Q E hr h=>?_)
 ·obtain ⟨r,v,s,na,ra,ns,rs,k,rfl,_⟩:=h;rfl
 ·obtain ⟨r,v,s,na,ra,ns,rs,k,rfl,C,⟨i,j,rfl,rfl,rfl⟩,q⟩:=h;refine ⟨_,(aa (aZ (cK (PW.pt (kW (bx (eC (iV T) hr T.gC (ie (pv 0) (xL K (pv 1) ab)))) (kC (bx (eC (iV T) hr T.gC (ie (pv 0) (xL K (pv 1) ab)))))))) (ae (aq (aE (bj (ay rfl T.g9))))) aJ)
   (aa (sS 3 nd (eC (Js T) hr T.Bu (fY (aF K (pv 0)) (xL K (pv 1) ab) (xL K (pv 1) ab))))
   (ae (aq (eC (bo T) hr T.bt (ie (eL K T.aX (pv 3)) (aE (bj (pv 3))))))))),?_⟩
  have A:=C.A;have S:=C.G.S;have bN:Vbapah.step s (.common i j)=(match Vbapah.oneAt s i,Vbapah.oneAt s j with
   |some _,some _=>let l:=(Vbapah.rising ((i.toNat::Vbapah.ancestors s.ones i.toNat))).filter fun k=>(j.toNat::Vbapah.ancestors s.ones j.toNat).contains k;(s,⟨(l.length:Nat),[Vbapah.ints l]⟩)
   |_,_=>Vbapah.no s (-6)):=ww S.world
  refine ⟨_,rfl,_,rfl,na,_,_,_,rfl,rfl,C.num,rfl,r,v,s,i,rfl,A,_,rfl,eh (F:=fun b=>if (!b)=true then _ else _) (bW j 0 ((s.ones.length:Nat)-1)) ?_ fun k=>⟨_,rfl,_,rfl,na,_,_,_,rfl,rfl,C.num,rfl,r,v,s,j,rfl,A,_,rfl,k⟩⟩;cases hc:bW i 0 ((s.ones.length:Nat)-1) with
  |false=>
   rw [qt hc] at bN;exact q.no A (au.refl H) bN
  |true=>
  cases Up:bW j 0 ((s.ones.length:Nat)-1) with
  |false=>
   obtain ⟨n,o,rfl,hn,ho,e1⟩:=my hc;rw [qt Up,e1] at bN;exact q.no A (au.refl H) bN
  |true=>
  refine Gg ?_;obtain ⟨n,o,rfl,hn,ho,e1⟩:=my hc;obtain ⟨m,o2,rfl,hm,VX,e2⟩:=my Up;rw [e1,e2] at bN;have bN:Vbapah.step s (.common (n:Nat) (m:Nat))=(s,⟨(((Vbapah.rising (n::Vbapah.ancestors s.ones n)).filter fun k=>(m::Vbapah.ancestors s.ones m).contains k).length:Nat),[Vbapah.ints ((Vbapah.rising (n::Vbapah.ancestors s.ones n)).filter fun k=>(m::Vbapah.ancestors s.ones m).contains k)]⟩):=bN;have ol:=S.ol;have E:=S.O.jD;have XE:(Vbapah.ancestors s.ones n).length<=n:=pQ _ _ (jR E hn) fun z hz=>((gd E hn).mp hz).lt E
  have YI:((Vbapah.rising (n::Vbapah.ancestors s.ones n)).filter fun k=>(m::Vbapah.ancestors s.ones m).contains k).length<=n+1:=by
   refine Nat.le_trans (List.length_filter_le _ _) ?_;rw [(c5 _).length_eq,List.length_cons]
   lia
  refine ⟨_,rfl,aM T A.ins ⟨_,rfl,na,_,_,_,rfl,rfl,C.num,rfl,_,rfl,na,_,_,_,rfl,rfl,C.num,rfl,r,v,s,n,m,rfl,A,hn,hm,by lia,E,fun H1 f hf s1 h1=>?_⟩⟩;refine ⟨_,rfl,f,_,rfl,.inl (aH.of h1),_,rfl,(by show 1<=sizeLine;decide),?_⟩;intro p2 ke;generalize kf:upd H1 p2 _=H2;obtain ⟨s2,h2⟩:=aI ke kf
  have oy:=s1.trans s2
  revert h1 bN YI
  generalize ((Vbapah.rising (n::Vbapah.ancestors s.ones n)).filter fun k=>(m::Vbapah.ancestors s.ones m).contains k)=l;intro bN YI h1;refine ⟨((l.length:Nat):Int),p2,[f],[Vbapah.ints l],?_,h2,.cons ?_ .nil,?_,fun H4 p hp s4 h4=>?_⟩
  ·rw [aO];rfl
  ·rw [gL];exact s2 _ _ h1
  ·show 1+((Vbapah.ints l).length+0)<=_;rw [dW]
   lia
  ·exact q.keep A bN H4 p (oy.free hp) (oy.trans s4) h4
abbrev B9 (K:PySem.W.Frag) (ad:Ad):Sp:=M3 K ad fun ns rs k=>∃ p,ns=[]/\rs=[p]/\k=.score p
theorem ag.panel {H:Hp} {r:Ar} {v:Vbapah.World} {s:Vbapah.State} (A:ag K ad H r v s):N3 K H r.pl s.panel:=by
 obtain ⟨as,e,r2⟩:=A.pL;exact ⟨as,e,Paired.dw r2 fun _ _ z=>aV.mono z aA⟩
theorem Ca (T:Tx P w K mg base ad):Ok T 8 ad.iw ad.eQ ["arena","numbers","rows"] B9:=by
 refine T.lT.ok qU (fun vs H Q E h=>?_) (fun nd bB A outer s H vs Q E hr h=>?_)
 ·obtain ⟨r,v,s,na,ra,ns,rs,k,rfl,_⟩:=h;rfl
 ·obtain ⟨r,v,s,na,ra,ns,rs,k,rfl,C,⟨p,rfl,rfl,rfl⟩,q⟩:=h;refine ⟨_,(aa (aZ (cK (bx (eC (fm T) hr T.dR (ie (aF K (pv 0)) (xL K (pv 2) ab))))) (ae (aq (aE (bj (ay rfl T.gK))))) aJ)
   (aa (sS 3 nd (eC (iS T) hr T.fh (fY (aF K (pv 0)) (aF K (pv 0)) (eC (bq T) hr T.bp (bj (xL K (pv 2) ab))))))
   (ae (aq (eC (bo T) hr T.bt (ie (cj (Qz K) (by rfl) T.D9 Dy (bj (pv 3))) (aE (bj (pv 3))))))))),?_⟩
  have A:=C.A;have S:=C.G.S;have bN:Vbapah.step s (.score p)=(match Vbapah.programOf v p with
   |none=>Vbapah.no s (-1)
   |some x=>(s,⟨(Vbapah.scoreOf v s.panel x:Nat),[Vbapah.ints (s.panel.map (Vbapah.pointsAgainst v x))]⟩)):=ww S.world
  obtain ⟨WW,rp,HQ,J4,Fp⟩:=C.row (i:=0) rfl;refine ⟨_,rfl,ba T A.ins ⟨_,rfl,ra,_,_,_,rfl,rfl,aH.of HQ,at_of (j:=0) rfl J4,r.wa,rp,v,p,rfl,A.z9.mono aA,S.W.l.2.1,aH.of (aA _ _ Fp),fun H1 s1=>⟨_,rfl,?_⟩⟩⟩;cases hk:cF v p with
  |false=>
   rw [ji S.W hk] at bN;exact q.no A s1 bN
  |true=>
  refine Gg ?_;obtain ⟨x,ex,_⟩:=bZ S.W hk;rw [ex] at bN;have bN:Vbapah.step s (.score p)=(s,⟨(Vbapah.scoreOf v s.panel x:Nat),[Vbapah.ints (s.panel.map (Vbapah.pointsAgainst v x))]⟩):=bN;have A1:=A.mono s1;obtain ⟨kk,MU,YG⟩:=fV S.W hk;refine ⟨_,rfl,ba T A1.ins ⟨_,rfl,cR T A1.ins ⟨_,rfl,ra,_,_,_,rfl,rfl,aH.of (s1 _ _ HQ),at_of (j:=0) rfl J4,rp,p,kk,rfl,aH.of (s1 _ _ (aA _ _ Fp)),MU,by lia,fun H2 px SY s2 hC=>?_⟩⟩⟩;obtain ⟨x',J1,X,hX⟩:=hC.prog S.W hk;rw [ex] at J1;cases J1;have A2:=A1.mono s2;refine ⟨r.wa,r.pl,px,v,s.panel,x,rfl,⟨A2.z9.mono aA,S.W,A2.panel,S.pl,S.pL,hX,X⟩,fun H3 f hf s3 h3=>?_⟩;refine ⟨_,rfl,f,(s.panel.map (Vbapah.pointsAgainst v x)).map fun (n:Nat)=>(n:Int),rfl,aH.of (by rw [h3,mn]),?_⟩;rw [ic, <-Dt];refine ⟨_,rfl,(by show 1<=sizeLine;decide),?_⟩;intro p2 ke;generalize kf:upd H3 p2 _=H4;obtain ⟨s4,h4⟩:=aI ke kf
  have Th:=((s1.trans s2).trans s3).trans s4;have pl4:=S.pl;refine ⟨_,p2,[f],[Vbapah.ints (s.panel.map (Vbapah.pointsAgainst v x))],rfl,h4,.cons ?_ .nil,?_,fun H5 p hp s5 h5=>?_⟩
  ·rw [gL];exact s4 _ _ h3
  ·show 1+((Vbapah.ints (s.panel.map (Vbapah.pointsAgainst v x))).length+0)<=_;rw [dW,List.length_map]
   lia
  ·exact q.keep A bN H5 p (Th.free hp) (Th.trans s5) h5
theorem EN {v:Vbapah.World} (W:sA v) {p q:List Int} {α:Type} {f:Vbapah.Program->Vbapah.Program->α} {z:α} (h:([p,q].all (cF v))=false):(match Vbapah.programOf v p,Vbapah.programOf v q with
   |some x,some y=>f x y
   |_,_=>z)=z:=by
 cases hp:cF v p with
 |false=>rw [ji W hp]
 |true=>
  cases hq:cF v q with
  |false=>
   rw [ji W hq];cases Vbapah.programOf v p<;>rfl
  |true=>
   simp [hp,hq] at h
theorem Am {v:Vbapah.World} {p q:List Int} (h:([p,q].all (cF v))=true):cF v p=true/\cF v q=true:=by
 simpa using h
abbrev EO (K:PySem.W.Frag) (ad:Ad):Sp:=M3 K ad fun ns rs k=>∃ a f p q,ns=[a,f]/\rs=[p,q]/\k=.game a f p q
theorem ER (T:Tx P w K mg base ad):Ok T 5 ad.jH ad.fH ["arena","numbers","rows"] EO:=by
 refine T.og.ok tu (fun vs H Q E h=>?_) (fun nd bB A outer s H vs Q E hr h=>?_)
 ·obtain ⟨r,v,s,na,ra,ns,rs,k,rfl,_⟩:=h;rfl
 ·obtain ⟨r,v,s,na,ra,ns,rs,k,rfl,C,⟨a,f,p,p',rfl,rfl,rfl⟩,q⟩:=h;refine ⟨_,(aa (sS 3 nd (aF K (pv 0)))
   (aa (aZ (cK (PW.pt (kW (bx (eC (M1 T) hr T.HF (fY (pv 3) (xL K (pv 1) ab) (xL K (pv 1) ab)))) (kC (bx (eC (gc T) hr T.d8 (ie (pv 3) (pv 2)))))))) (ae (aq (aE (bj (ay rfl T.gK))))) aJ)
   (aa (sS 4 nd (eC (ud T) hr T.nX (aQ (pv 3) (aQ (eC (bq T) hr T.bp (bj (xL K (pv 2) ab))) (fY (eC (bq T) hr T.bp (bj (xL K (pv 2) ab))) (xL K (pv 1) ab) (xL K (pv 1) ab))))))
   (ae (aq (eC (bo T) hr T.bt (ie (eC (nB T) hr T.js (bj (pv 4))) (aE (fY (aE (bj (eC (FY T) hr T.yr (ie (pv 3) (pv 4))))) (xL K (aF K (pv 4)) ab) (xL K (aF K (pv 4)) ab)))))))))),?_⟩
  have A:=C.A;have S:=C.G.S;have W:=S.W;have hd:=W.d;have bN:Vbapah.step s (.game a f p p')=if Vbapah.inside a v.apart (v.n-v.apart)=false∨Vbapah.inside f 0 1=false then Vbapah.no s (-1) else (match Vbapah.programOf v p,Vbapah.programOf v p' with
   |some x,some y=>(s,⟨(Vbapah.outcome (Vbapah.turns (2*v.rounds) (Vbapah.setUp v x y a.toNat f.toNat)):Nat),[Vbapah.ints [2*v.rounds-(Vbapah.turns (2*v.rounds) (Vbapah.setUp v x y a.toNat f.toNat)).left],Vbapah.ints (Vbapah.rowAt (Vbapah.turns (2*v.rounds) (Vbapah.setUp v x y a.toNat f.toNat)) 0),Vbapah.ints (Vbapah.rowAt (Vbapah.turns (2*v.rounds) (Vbapah.setUp v x y a.toNat f.toNat)) 1)]⟩)
   |_,_=>Vbapah.no s (-1)):=ww S.world
  have ei:Vbapah.inside a v.apart (v.n-v.apart)=bW a (v.apart:Nat) ((v.n:Nat)-(v.apart:Nat)):=by
   unfold Vbapah.inside bW;rw [Int.natCast_sub (by lia)]
  have ei2:Vbapah.inside f 0 1=bW f 0 1:=rfl;obtain ⟨as,HQ,rr⟩:=C.rw;obtain ⟨WW,rp,O5,J4,Fp⟩:=C.row (i:=0) rfl;obtain ⟨YJ,ZF,EK,Td,Wi⟩:=C.row (i:=1) rfl;have hW:=A.z9.mono (aA (M:=r.N ad));refine ⟨_,rfl,ba T A.ins ?_⟩;refine ⟨_,rfl,_,rfl,na,_,_,_,rfl,rfl,C.num,rfl,_,rfl,na,_,_,_,rfl,rfl,C.num,rfl,r.wa,v,a,f,rfl,hW,_,rfl,?_⟩;refine aW (fun hg=>?_) fun hg=>?_
  rotate_left
  ·refine q.no A (au.refl H) ?_;rw [bN,if_pos];rw [ei,ei2];rw [Bool.and_eq_false_iff] at hg;exact hg
  rw [Bool.and_eq_true] at hg;rw [if_neg (by rw [ei,ei2,hg.1,hg.2];simp)] at bN;refine ⟨_,rfl,_,rfl,r.wa,ra,v,as,[p,p'],rfl,hW,W.l.2.1,aA _ _ HQ,nG.mono rr aA,(by show 2<=1000;decide),fun H1 s1=>⟨_,rfl,?_⟩⟩;cases hk:([p,p'].all (cF v)) with
  |false=>
   rw [EN W hk] at bN;exact q.no A s1 bN
  |true=>
  refine Gg ?_;obtain ⟨k1,k2⟩:=Am hk;obtain ⟨x,ex,_⟩:=bZ W k1;obtain ⟨y,ey,_⟩:=bZ W k2;rw [ex,ey] at bN;have h1:=hg.1;have h2:=hg.2;unfold bW at h1 h2;rw [Bool.and_eq_true,decide_eq_true_eq,decide_eq_true_eq] at h1 h2;obtain ⟨a,rfl⟩:∃ n:Nat,a=(n:Int):=⟨a.toNat,by lia⟩;obtain ⟨f,rfl⟩:∃ n:Nat,f=(n:Int):=⟨f.toNat,by lia⟩;have bN:Vbapah.step s (.game (a:Nat) (f:Nat) p p')=(s,⟨(Vbapah.outcome (Vbapah.turns (2*v.rounds) (Vbapah.setUp v x y a f)):Nat),[Vbapah.ints [2*v.rounds-(Vbapah.turns (2*v.rounds) (Vbapah.setUp v x y a f)).left],Vbapah.ints (Vbapah.rowAt (Vbapah.turns (2*v.rounds) (Vbapah.setUp v x y a f)) 0),Vbapah.ints (Vbapah.rowAt (Vbapah.turns (2*v.rounds) (Vbapah.setUp v x y a f)) 1)]⟩):=bN;obtain ⟨kk,MU,YG⟩:=fV W k1;obtain ⟨YK,Rc,YL⟩:=fV W k2;have YM:∀ {H':Hp},au H H'->aH K H' na (vI [(a:Int),(f:Int)]):=fun s'=>s'.seq C.num
  refine ⟨_,rfl,_,rfl,ra,_,_,_,rfl,rfl,aH.of (s1 _ _ O5),at_of (j:=0) rfl J4,rp,p,kk,rfl,aH.of (s1 _ _ (aA _ _ Fp)),MU,by lia,fun H2 px SY s2 hC=>?_⟩;obtain ⟨x',J1,X,hX⟩:=hC.prog W k1;rw [ex] at J1;cases J1;have oy:=s1.trans s2;refine ⟨_,rfl,ra,_,_,_,rfl,rfl,aH.of (oy _ _ EK),at_of (j:=1) rfl Td,ZF,p',YK,rfl,aH.of (oy _ _ (aA _ _ Wi)),Rc,by lia,fun H3 py WJ s3 YN=>?_⟩;obtain ⟨y',UG,Y,hY⟩:=YN.prog W k2;rw [ey] at UG;cases UG;have zW:=oy.trans s3;refine ⟨_,rfl,na,_,_,_,rfl,rfl,YM zW,rfl,_,rfl,na,_,_,_,rfl,rfl,YM zW,rfl,r.wa,px,py,v,x,y,a,f,rfl,⟨hW.mono zW,W,hX.mono s3,X,hY,Y,by lia,by lia,by lia⟩,fun H4 ring cs hs r0 r1 s4 R=>?_⟩;have Th:=zW.trans s4;obtain ⟨g1,g2⟩:=M7 (t:=f) W X Y (show v.apart<=a by lia) (show a<=v.n-v.apart by lia)
  revert bN R g1 g2
  generalize Vbapah.turns (2*v.rounds) (Vbapah.setUp v x y a f)=m;intro bN R g1 g2;refine ⟨_,rfl,ring,cs,hs,r0,r1,m,rfl,R,?_⟩;refine ⟨_,rfl,_,rfl,r.wa,ring,cs,hs,r0,r1,v,m,rfl,hW.mono Th,R,(by show 1<=sizeLine;decide),?_⟩;intro p5 Rf;generalize Rg:upd H4 p5 _=H5;obtain ⟨s5,h5⟩:=aI Rf Rg
  refine ⟨_,rfl,dm T (R.ins.mono s5) ⟨hs,_,_,_,rfl,rfl,aH.of (s5 _ _ R.Um),rfl,_,rfl,dm T (R.ins.mono s5) ⟨hs,_,_,_,rfl,rfl,aH.of (s5 _ _ R.Um),rfl,(by show 3<=sizeLine;decide),?_⟩⟩⟩;intro p6 Wj;generalize Wk:upd H5 p6 _=H6;obtain ⟨s6,h6⟩:=aI Wj Wk
  have s16:=(Th.trans s5).trans s6;have WU:=s5.trans s6;refine ⟨_,p6,[p5,r0,r1],[Vbapah.ints [2*v.rounds-m.left],Vbapah.ints (Vbapah.rowAt m 0),Vbapah.ints (Vbapah.rowAt m 1)],rfl,h6,.cons ?_ (.cons ?_ (.cons ?_ .nil)),?_,fun H7 p hp s7 h7=>?_⟩
  ·rw [s6 _ _ h5];show some (HO.lst [V.int (2*((v.rounds:Nat):Int)-(m.left:Nat))])=some (HO.lst [V.int ((2*v.rounds-m.left:Nat):Int)]);rw [Int.natCast_sub g1,Int.natCast_mul];rfl
  ·rw [gL];exact WU _ _ R.h0
  ·rw [gL];exact WU _ _ R.h1
  ·show 3+(1+((Vbapah.ints (Vbapah.rowAt m 0)).length+((Vbapah.ints (Vbapah.rowAt m 1)).length+0)))<=_;rw [dW,dW];have:=g2 0;have:=g2 1
   lia
  ·exact q.keep A bN H7 p (s16.free hp) (s16.trans s7) h7
abbrev An (K:PySem.W.Frag) (ad:Ad):Sp:=M3 K ad fun ns rs k=>∃ z l p q,ns=[z]/\rs=[l,p,q]/\k=.change z l p q
theorem Ao (T:Tx P w K mg base ad):Ok T 5 ad.gk ad.dO ["arena","numbers","rows"] An:=by
 refine T.j3.ok oX (fun vs H Q E h=>?_) (fun nd bB A outer s H vs Q E hr h=>?_)
 ·obtain ⟨r,v,s,na,ra,ns,rs,k,rfl,_⟩:=h;rfl
 ·obtain ⟨r,v,s,na,ra,ns,rs,k,rfl,C,⟨z,l,p,p',rfl,rfl,rfl⟩,q⟩:=h;refine ⟨_,(aa (aZ (cK (PW.pt (kW (bx (eC (Jx T) hr T.Bw (ie (xL K (pv 1) ab) (xL K (pv 2) ab)))) (kC (bx (eC (gc T) hr T.d8 (ie (aF K (pv 0)) (ck (KJ K) (pv 2) (cB ab) dX)))))))) (ae (aq (aE (bj (ay rfl T.gK))))) aJ)
   (aa (sS 3 nd (eC (El T) hr T.zI (aQ (aF K (pv 0)) (aQ (xL K (pv 1) ab) (fY (xL K (pv 2) ab) (eC (bq T) hr T.bp (bj (xL K (pv 2) ab))) (eC (bq T) hr T.bp (bj (xL K (pv 2) ab))))))))
   (ae (aq (eC (bo T) hr T.bt (ie (eL K T.aX (pv 3)) (aE (bj (eC (rE T) hr T.lN (bj (pv 3))))))))))),?_⟩
  have A:=C.A;have S:=C.G.S;have W:=S.W;have bN:Vbapah.step s (.change z l p p')=if Vbapah.inside z 1 5=false∨4<l.length∨(l.all fun z=>Vbapah.inside z 0 1000)=false then Vbapah.no s (-1) else (match Vbapah.programOf v p,Vbapah.programOf v p' with
   |some x,some y=>(s,⟨((Vbapah.made v ⟨z.toNat,Vbapah.nats l⟩ x y).length:Nat),[Vbapah.programInts (Vbapah.made v ⟨z.toNat,Vbapah.nats l⟩ x y)]⟩)
   |_,_=>Vbapah.no s (-1)):=ww S.world
  obtain ⟨as,HQ,rr⟩:=C.rw;obtain ⟨WW,rl,O5,J4,RP⟩:=C.row (i:=0) rfl;obtain ⟨YJ,rp,EK,Td,Fp⟩:=C.row (i:=1) rfl;obtain ⟨acp,rp2,abz,Wg,abA⟩:=C.row (i:=2) rfl;have hW:=A.z9.mono (aA (M:=r.N ad));refine ⟨_,rfl,na,_,_,_,rfl,rfl,C.num,rfl,_,rfl,ra,_,_,_,rfl,rfl,aH.of O5,at_of (j:=0) rfl J4,rl,z,l,rfl,aA _ _ RP,fun H1 s1=>⟨_,rfl,?_⟩⟩;refine aW (fun hg=>?_) fun hg=>?_
  rotate_left
  ·refine q.no A s1 ?_;rw [bN,if_pos];unfold y3 at hg;rw [Bool.and_eq_false_iff,Bool.and_eq_false_iff,decide_eq_false_iff_not] at hg;rcases hg with (h|h)|h
   ·exact .inl h
   ·exact .inr (.inl (by lia))
   ·exact .inr (.inr h)
  unfold y3 at hg;rw [Bool.and_eq_true,Bool.and_eq_true,decide_eq_true_eq] at hg;obtain ⟨⟨hz,hl4⟩,jf⟩:=hg;rw [if_neg (by
   rintro (h|h|h)
   ·rw [show Vbapah.inside z 1 5=bW z 1 5 from rfl,hz] at h;cases h
   ·lia
   ·rw [show (l.all fun z=>Vbapah.inside z 0 1000)=l.all fun z=>bW z 0 1000 from rfl,jf] at h;cases h)] at bN
  have A1:=A.mono s1;refine ⟨_,rfl,ba T A1.ins ⟨_,rfl,_,rfl,wW (aH.of (s1 _ _ (aA _ _ HQ))) fun rq H2 hrq s2 h2=>?_⟩⟩;have oy:=s1.trans s2;have Wd:r6 (as.map V.ref) (some 1) none=(as.drop 1).map V.ref:=by
   rw [List.map_drop];exact pB (k:=1) rfl
  rw [Wd] at h2;refine ⟨r.wa,rq,v,as.drop 1,[p,p'],rfl,hW.mono oy,W.l.2.1,h2,nG.mono (Paired.dr 1 rr) ((aA (M:=r.N ad)).trans oy),(by show 2<=1000;decide),fun H3 s3=>⟨_,rfl,?_⟩⟩;have zW:=oy.trans s3;cases hk:([p,p'].all (cF v)) with
  |false=>
   rw [EN W hk] at bN;exact q.no A zW bN
  |true=>
  refine Gg ?_;obtain ⟨k1,k2⟩:=Am hk;obtain ⟨x,ex,_⟩:=bZ W k1;obtain ⟨y,ey,_⟩:=bZ W k2;rw [ex,ey] at bN;unfold bW at hz;rw [Bool.and_eq_true,decide_eq_true_eq,decide_eq_true_eq] at hz;obtain ⟨kind,rfl⟩:∃ n:Nat,z=(n:Int):=⟨z.toNat,by lia⟩;have bN:Vbapah.step s (.change (kind:Nat) l p p')=(s,⟨((Vbapah.made v ⟨kind,Vbapah.nats l⟩ x y).length:Nat),[Vbapah.programInts (Vbapah.made v ⟨kind,Vbapah.nats l⟩ x y)]⟩):=bN;have hnn:∀ z∈l,0<=z:=fun z hz=>by
   have:=List.all_eq_true.mp jf z hz;unfold bW at this;rw [Bool.and_eq_true,decide_eq_true_eq,decide_eq_true_eq] at this;exact this.1
  have el:vI l=vN (Vbapah.nats l):=by
   conv=>lhs;rw [uI hnn]
   unfold vI vN;rw [List.map_map];rfl
  have ell:(Vbapah.nats l).length=l.length:=List.length_map _;obtain ⟨kk,MU,YG⟩:=fV W k1;obtain ⟨YK,Rc,YL⟩:=fV W k2;have A3:=A.mono zW;refine ⟨_,rfl,ba T A3.ins ⟨_,rfl,na,_,_,_,rfl,rfl,zW.seq C.num,rfl,_,rfl,ra,_,_,_,rfl,rfl,aH.of (zW _ _ O5),at_of (j:=0) rfl J4,?_⟩⟩;refine ⟨_,rfl,ra,_,_,_,rfl,rfl,aH.of (zW _ _ EK),at_of (j:=1) rfl Td,rp,p,kk,rfl,aH.of (zW _ _ (aA _ _ Fp)),MU,by lia,fun H4 px SY s4 hC=>?_⟩;obtain ⟨x',J1,X,hX⟩:=hC.prog W k1;rw [ex] at J1;cases J1;have Th:=zW.trans s4;refine ⟨_,rfl,ra,_,_,_,rfl,rfl,aH.of (Th _ _ abz),at_of (j:=2) rfl Wg,rp2,p',YK,rfl,aH.of (Th _ _ (aA _ _ abA)),Rc,by lia,fun H5 py WJ s5 YN=>?_⟩;obtain ⟨y',UG,Y,hY⟩:=YN.prog W k2;rw [ey] at UG;cases UG;have s15:=Th.trans s5;have hmk:=ID (kind:=kind) (nums:=Vbapah.nats l) (by lia) W.pos X Y;refine ⟨r.wa,rl,px,py,v,kind,x,y,Vbapah.nats l,rfl,hW.mono s15,W,by lia,by lia,by rw [<-el];exact s15 _ _ (aA _ _ RP),by lia,hX.mono s5,X,hY,Y,fun H6 pm hpm s6 hM=>?_⟩
  revert bN hM hmk
  generalize Vbapah.made v ⟨kind,Vbapah.nats l⟩ x y=m;intro bN hmk hM;obtain ⟨ms,hms,rms⟩:=id hM;have lms:(ms.map V.ref).length=m.length:=by rw [List.length_map,rms.length,List.length_map]
  have l8:=W.l;have ml:=hmk.len;refine ⟨_,rfl,pm,_,rfl,.inl (aH.of hms),_,rfl,pm,_,rfl,hM,by rw [List.length_map];lia,fun H7 pr WQ s7 h7=>?_⟩;refine ⟨(by show 1<=sizeLine;decide),?_⟩;intro p8 abB;generalize abC:upd H7 p8 _=H8;obtain ⟨s8,h8⟩:=aI abB abC
  have s18:=((s15.trans s6).trans s7).trans s8;refine ⟨((m.length:Nat):Int),p8,[pr],[Vbapah.programInts m],by rw [lms];rfl,h8,.cons ?_ .nil,?_,fun H9 p hp s9 h9=>?_⟩
  ·rw [<-Lh];exact s8 _ _ h7
  ·show 1+((Vbapah.programInts m).length+0)<=_;rw [qr]
   lia
  ·exact q.keep A bN H9 p (s18.free hp) (s18.trans s9) h9
abbrev Cb (K:PySem.W.Frag) (ad:Ad):Sp:=M3 K ad fun ns rs k=>∃ p q,ns=[]/\rs=[p,q]/\k=.apart p q
theorem Cc (T:Tx P w K mg base ad):Ok T 5 ad.iy ad.eR ["arena","numbers","rows"] Cb:=by
 refine T.lU.ok qV (fun vs H Q E h=>?_) (fun nd bB A outer s H vs Q E hr h=>?_)
 ·obtain ⟨r,v,s,na,ra,ns,rs,k,rfl,_⟩:=h;rfl
 ·obtain ⟨r,v,s,na,ra,ns,rs,k,rfl,C,⟨p,p',rfl,rfl,rfl⟩,q⟩:=h;refine ⟨_,(aa (aZ (cK (bx (eC (gc T) hr T.d8 (ie (aF K (pv 0)) (pv 2))))) (ae (aq (aE (bj (ay rfl T.gK))))) aJ)
   (ae (aq (aE (bj (eC (Af T) hr T.rj (ie (eC (bq T) hr T.bp (bj (xL K (pv 2) ab))) (eC (bq T) hr T.bp (bj (xL K (pv 2) ab)))))))))),?_⟩
  have A:=C.A;have S:=C.G.S;have W:=S.W;have bN:Vbapah.step s (.apart p p')=(match Vbapah.programOf v p,Vbapah.programOf v p' with
   |some x,some y=>(s,⟨(Vbapah.apartness x y:Nat),[]⟩)
   |_,_=>Vbapah.no s (-1)):=ww S.world
  obtain ⟨as,HQ,rr⟩:=C.rw;obtain ⟨WW,rp,O5,J4,Fp⟩:=C.row (i:=0) rfl;obtain ⟨YJ,ZF,EK,Td,Wi⟩:=C.row (i:=1) rfl;have hW:=A.z9.mono (aA (M:=r.N ad));refine ⟨_,rfl,ba T A.ins ⟨_,rfl,r.wa,ra,v,as,[p,p'],rfl,hW,W.l.2.1,aA _ _ HQ,nG.mono rr aA,(by show 2<=1000;decide),fun H1 s1=>⟨_,rfl,?_⟩⟩⟩;cases hk:([p,p'].all (cF v)) with
  |false=>
   rw [EN W hk] at bN;exact q.no A s1 bN
  |true=>
  refine Gg ?_;obtain ⟨k1,k2⟩:=Am hk;obtain ⟨x,ex,_⟩:=bZ W k1;obtain ⟨y,ey,_⟩:=bZ W k2;rw [ex,ey] at bN;have bN:Vbapah.step s (.apart p p')=Vbapah.no s (Vbapah.apartness x y:Nat):=bN;obtain ⟨kk,MU,YG⟩:=fV W k1;obtain ⟨YK,Rc,YL⟩:=fV W k2;refine ⟨_,rfl,ra,_,_,_,rfl,rfl,aH.of (s1 _ _ O5),at_of (j:=0) rfl J4,rp,p,kk,rfl,aH.of (s1 _ _ (aA _ _ Fp)),MU,by lia,fun H2 px SY s2 hC=>?_⟩;obtain ⟨x',J1,X,hX⟩:=hC.prog W k1;rw [ex] at J1;cases J1;have oy:=s1.trans s2;refine ⟨_,rfl,ra,_,_,_,rfl,rfl,aH.of (oy _ _ EK),at_of (j:=1) rfl Td,ZF,p',YK,rfl,aH.of (oy _ _ (aA _ _ Wi)),Rc,by lia,fun H3 py WJ s3 YN=>?_⟩;obtain ⟨y',UG,Y,hY⟩:=YN.prog W k2;rw [ey] at UG;cases UG;have l8:=W.l;have yl:=Y.len;exact ⟨px,py,x,y,rfl,hX.mono s3,hY,by lia,fun H4 s4=>q.no A ((oy.trans s3).trans s4) bN⟩
abbrev Cd (K:PySem.W.Frag) (ad:Ad):Sp:=M3 K ad fun ns rs k=>ns=[]/\rs=[]/\k=.bests
theorem gX.ints {H:Hp} {as:List Addr} {ls:List (List Nat)} (h:gX H as ls):nG H as (ls.map Vbapah.ints):=by
 unfold gX at h
 induction h with
 |nil=>exact .nil
 |cons h _ ih=>exact .cons (by rw [gL];exact h) ih
theorem M8 {ls:List (List Nat)} (h:∀ l∈ls,l.length<=3):((ls.map Vbapah.ints).map List.length).sum<=3*ls.length:=by
 induction ls with
 |nil=>exact Nat.le_refl _
 |cons a r ih=>
  have h1:=h a (List.mem_cons_self ..);have h2:=ih fun l hl=>h l (List.mem_cons_of_mem _ hl)
  rw [List.map_cons,List.map_cons,List.sum_cons,dW,List.length_cons]
  lia
theorem Good.bests {v:Vbapah.World} {s:Vbapah.State} (G:Good v s):s.bests.length<=301:=by
 have h1:=G.g;have h2:=G.S.ol;cases e:s.rates with
 |none=>rw [(G.S.none_ e).2.1];exact Nat.zero_le _
 |some rt=>
  have:=(G.S.qD rt e).bl
  lia
theorem Ce (T:Tx P w K mg base ad):Ok T 2 ad.iz ad.eT ["arena","numbers","rows"] Cd:=by
 refine T.lV.ok qX (fun vs H Q E h=>?_) (fun nd bB A outer s H vs Q E hr h=>?_)
 ·obtain ⟨r,v,s,na,ra,ns,rs,k,rfl,_⟩:=h;rfl
 ·obtain ⟨r,v,s,na,ra,ns,rs,k,rfl,C,⟨rfl,rfl,rfl⟩,q⟩:=h;refine ⟨_,(ae (aq (eC (bo T) hr T.bt (ie (eL K T.aX (aF K (pv 0))) (aF K (pv 0)))))),?_⟩;have A:=C.A;have S:=C.G.S;have bN:Vbapah.step s .bests=(s,⟨(s.bests.length:Nat),s.bests.map Vbapah.ints⟩):=ww S.world;obtain ⟨as,hb,rb⟩:=A.HK;have lb:(as.map V.ref).length=s.bests.length:=by rw [List.length_map];exact rb.length
  have h1:=C.G.bests;have h2:=M8 C.G.b3;refine ⟨_,rfl,dU T A.ins ⟨r.bs,_,rfl,.inl (aH.of hb),_,rfl,dU T A.ins ⟨((s.bests.length:Nat):Int),r.bs,as,s.bests.map Vbapah.ints,by rw [lb];rfl,hb,(rb.mono aA).ints,by rw [List.length_map];lia,q.keep A bN⟩⟩⟩
abbrev Ap (K:PySem.W.Frag) (ad:Ad):Sp:=M3 K ad fun ns rs k=>ns=[]/\rs=[]/\k=.counts
theorem Aq (T:Tx P w K mg base ad):Ok T 3 ad.gn ad.dQ ["arena","numbers","rows"] Ap:=by
 refine T.j5.ok oZ (fun vs H Q E h=>?_) (fun nd bB A outer s H vs Q E hr h=>?_)
 ·obtain ⟨r,v,s,na,ra,ns,rs,k,rfl,_⟩:=h;rfl
 ·obtain ⟨r,v,s,na,ra,ns,rs,k,rfl,C,⟨rfl,rfl,rfl⟩,q⟩:=h;refine ⟨_,(aa (sS 3 nd (aE (aQ (eL K T.aX (aF K (pv 0))) (fY (eL K T.aX (aF K (pv 0))) (eL K T.aX (aF K (pv 0))) (eC (xc T) hr T.nu (bj (pv 0)))))))
   (ae (aq (eC (bo T) hr T.bt (ie (aF K (pv 0)) (aE (bj (pv 3)))))))),?_⟩
  have A:=C.A;have S:=C.G.S;have bN:Vbapah.step s .counts=(s,⟨(s.gen:Nat),[Vbapah.ints [s.panel.length,s.ones.length,s.living.length,s.x]]⟩):=ww S.world;obtain ⟨ol,ho,lo⟩:=A.count;obtain ⟨Wh,jP,lp⟩:=A.M4;obtain ⟨as,ZY,rr⟩:=A.row;have hlen:(as.map V.ref).length=s.living.length:=by rw [List.length_map];exact rr.length
  refine ⟨_,rfl,cR T A.ins ⟨r.pl,_,rfl,.inl (aH.of jP),_,rfl,aM T A.ins ⟨r.bl,_,rfl,.inl (aH.of ho),_,rfl,bR T A.ins ⟨r.rw,_,rfl,.inl (aH.of (aA _ _ ZY)),_,rfl,r,v,s,rfl,A,fun e=>(S.none_ e).2.2.2.1,(by show 4<=sizeLine;decide),?_⟩⟩⟩⟩;intro p1 wX;generalize Em:upd H p1 _=H1;obtain ⟨s1,h1⟩:=aI wX Em
  have A1:=A.mono s1;refine ⟨_,rfl,cA T A1.ins ⟨_,rfl,(by show 1<=sizeLine;decide),?_⟩⟩;intro p2 ke;generalize kf:upd H1 p2 _=H2;obtain ⟨s2,h2⟩:=aI ke kf
  rw [lp,lo,hlen] at h1;refine ⟨_,p2,[p1],[Vbapah.ints [s.panel.length,s.ones.length,s.living.length,s.x]],rfl,h2,.cons (s2 _ _ h1) .nil,(by show 1+(4+0)<=100000;decide),fun H3 p hp s3 h3=>q.keep A bN H3 p ((s1.trans s2).free hp) ((s1.trans s2).trans s3) h3⟩
def Gj (K:PySem.W.Frag) (ad:Ad):Sp:=fun vs H Q _=>∃ (p dx:Addr) (x0:V),vs=[.ref p,x0]/\H p=some (.ins ad.bJ dx [])/\∀ (H2:Hp) (pl bl rw bs:Addr),H pl=none->H bl=none->H rw=none->H bs=none->[pl,bl,rw,bs].Nodup->H2 p=some (.ins ad.bJ dx (yK x0 (.ref pl) (.ref bl) .cx .cx (.ref rw) (.int 0) (.ref bs)))->
 H2 pl=some (.lst [])->H2 bl=some (.lst [])->H2 rw=some (.lst [])->H2 bs=some (.lst [])->(∀ b o,H b=some o->b≠p->H2 b=some o)->Q .cx H2
theorem Gk (T:Tx P w K mg base ad):Ok T 1 ad.wN ad.fb ["self","world"] Gj:=by
 refine T.kI.Ui vz (fun vs H Q E h=>?_) (fun nd bB A outer s H vs Q E hr h=>?_)
 ·obtain ⟨p,dx,x0,rfl,_⟩:=h;rfl
 ·obtain ⟨p,dx,x0,rfl,hp,q⟩:=h;refine ⟨_,(aa (aY (pv 0) (pv 1) rfl)
   (aa (aY (pv 0) (aE ft) rfl)
   (aa (aY (pv 0) (aE ft) rfl)
   (aa (aY (pv 0) CY rfl)
   (aa (aY (pv 0) CY rfl)
   (aa (aY (pv 0) (aE ft) rfl)
   (aa (aY (pv 0) ab rfl)
   (ae (aY (pv 0) (aE ft) rfl))))))))),?_⟩
  refine ⟨_,rfl,_,rfl,p,_,dx,_,rfl,hp,T.bD,T.v8,(by show 0<1000;decide),?_⟩;rw [fJ (L:=[]) (show ¬ ("world":Str)∈([]:List Str) by decide+kernel)];generalize e0:upd H p _=H0;have hH0:H0 p=some (.ins ad.bJ dx [("world",x0)]):=by rw [<-e0,ah];rfl
  have kH0:∀ b o,H b=some o->b≠p->H0 b=some o:=fun b o hb ne=>by rw [<-e0,az ne];exact hb
  refine ⟨Nat.zero_le _,?_⟩;intro pl M9;generalize abD:upd H0 pl _=G2;obtain ⟨YO,iY⟩:=aI M9 abD
  have hG2:=YO _ _ hH0;have kG2:∀ b o,H b=some o->b≠p->G2 b=some o:=fun b o hb ne=>YO _ _ (kH0 b o hb ne)
  have abE:H pl=none:=by
   cases z:H pl with
   |none=>rfl
   |some o=>
    by_cases e:pl=p
    ·rw [e,hH0] at M9;cases M9
    ·rw [kH0 pl o z e] at M9;cases M9
  have Na:pl≠p:=fun e=>by rw [e,hH0] at M9;cases M9
  refine ⟨_,rfl,p,_,dx,_,rfl,hG2,T.bD,T.v9,(by show 1<1000;decide),?_⟩;rw [fJ (L:=[("world",x0)]) (show ¬ ("panel":Str)∈(["world"]:List Str) by decide+kernel)];generalize e1:upd G2 p _=H1;have hH1:H1 p=some (.ins ad.bJ dx [("world",x0),("panel",V.ref pl)]):=by rw [<-e1,ah];rfl
  have kH1:∀ b o,H b=some o->b≠p->H1 b=some o:=fun b o hb ne=>by rw [<-e1,az ne];exact kG2 b o hb ne
  have iY:H1 pl=some (.lst []):=by rw [<-e1,az Na];exact iY
  have JC:=iY;refine ⟨Nat.zero_le _,?_⟩;intro bl JD;generalize abF:upd H1 bl _=G3;obtain ⟨Wl,mz⟩:=aI JD abF
  have hG3:=Wl _ _ hH1;have kG3:∀ b o,H b=some o->b≠p->G3 b=some o:=fun b o hb ne=>Wl _ _ (kH1 b o hb ne)
  have iY:=Wl _ _ iY;have abG:H bl=none:=by
   cases z:H bl with
   |none=>rfl
   |some o=>
    by_cases e:bl=p
    ·rw [e,hH1] at JD;cases JD
    ·rw [kH1 bl o z e] at JD;cases JD
  have O6:bl≠p:=fun e=>by rw [e,hH1] at JD;cases JD
  have Ti:pl≠bl:=fun e=>by rw [<-e,JC] at JD;cases JD
  refine ⟨_,rfl,p,_,dx,_,rfl,hG3,T.bD,T.yG,(by show 2<1000;decide),?_⟩;rw [fJ (L:=[("world",x0),("panel",V.ref pl)]) (show ¬ ("born":Str)∈(["world","panel"]:List Str) by decide+kernel)];generalize e2:upd G3 p _=H2;have hH2:H2 p=some (.ins ad.bJ dx [("world",x0),("panel",V.ref pl),("born",V.ref bl)]):=by rw [<-e2,ah];rfl
  have kH2:∀ b o,H b=some o->b≠p->H2 b=some o:=fun b o hb ne=>by rw [<-e2,az ne];exact kG3 b o hb ne
  have iY:H2 pl=some (.lst []):=by rw [<-e2,az Na];exact iY
  have JC:=iY;have mz:H2 bl=some (.lst []):=by rw [<-e2,az O6];exact mz
  have Nb:=mz;refine ⟨_,rfl,p,_,dx,_,rfl,hH2,T.bD,T.oh,(by show 3<1000;decide),?_⟩;rw [fJ (L:=[("world",x0),("panel",V.ref pl),("born",V.ref bl)]) (show ¬ ("rates":Str)∈(["world","panel","born"]:List Str) by decide+kernel)];generalize e3:upd H2 p _=H3;have hH3:H3 p=some (.ins ad.bJ dx [("world",x0),("panel",V.ref pl),("born",V.ref bl),("rates",V.cx)]):=by rw [<-e3,ah];rfl
  have kH3:∀ b o,H b=some o->b≠p->H3 b=some o:=fun b o hb ne=>by rw [<-e3,az ne];exact kH2 b o hb ne
  have iY:H3 pl=some (.lst []):=by rw [<-e3,az Na];exact iY
  have JC:=iY;have mz:H3 bl=some (.lst []):=by rw [<-e3,az O6];exact mz
  have Nb:=mz;refine ⟨_,rfl,p,_,dx,_,rfl,hH3,T.bD,T.oi,(by show 4<1000;decide),?_⟩;rw [fJ (L:=[("world",x0),("panel",V.ref pl),("born",V.ref bl),("rates",V.cx)]) (show ¬ ("draws":Str)∈(["world","panel","born","rates"]:List Str) by decide+kernel)];generalize e4:upd H3 p _=H4;have hH4:H4 p=some (.ins ad.bJ dx [("world",x0),("panel",V.ref pl),("born",V.ref bl),("rates",V.cx),("draws",V.cx)]):=by rw [<-e4,ah];rfl
  have kH4:∀ b o,H b=some o->b≠p->H4 b=some o:=fun b o hb ne=>by rw [<-e4,az ne];exact kH3 b o hb ne
  have iY:H4 pl=some (.lst []):=by rw [<-e4,az Na];exact iY
  have JC:=iY;have mz:H4 bl=some (.lst []):=by rw [<-e4,az O6];exact mz
  have Nb:=mz;refine ⟨Nat.zero_le _,?_⟩;intro rw ES;generalize abH:upd H4 rw _=G6;obtain ⟨Tj,Cf⟩:=aI ES abH
  have hG6:=Tj _ _ hH4;have kG6:∀ b o,H b=some o->b≠p->G6 b=some o:=fun b o hb ne=>Tj _ _ (kH4 b o hb ne)
  have iY:=Tj _ _ iY;have mz:=Tj _ _ mz;have abI:H rw=none:=by
   cases z:H rw with
   |none=>rfl
   |some o=>
    by_cases e:rw=p
    ·rw [e,hH4] at ES;cases ES
    ·rw [kH4 rw o z e] at ES;cases ES
  have Wm:rw≠p:=fun e=>by rw [e,hH4] at ES;cases ES
  have Tn:pl≠rw:=fun e=>by rw [<-e,JC] at ES;cases ES
  have To:bl≠rw:=fun e=>by rw [<-e,Nb] at ES;cases ES
  refine ⟨_,rfl,p,_,dx,_,rfl,hG6,T.bD,T.qc,(by show 5<1000;decide),?_⟩;rw [fJ (L:=[("world",x0),("panel",V.ref pl),("born",V.ref bl),("rates",V.cx),("draws",V.cx)]) (show ¬ ("rows":Str)∈(["world","panel","born","rates","draws"]:List Str) by decide+kernel)];generalize e5:upd G6 p _=H5;have hH5:H5 p=some (.ins ad.bJ dx [("world",x0),("panel",V.ref pl),("born",V.ref bl),("rates",V.cx),("draws",V.cx),("rows",V.ref rw)]):=by rw [<-e5,ah];rfl
  have kH5:∀ b o,H b=some o->b≠p->H5 b=some o:=fun b o hb ne=>by rw [<-e5,az ne];exact kG6 b o hb ne
  have iY:H5 pl=some (.lst []):=by rw [<-e5,az Na];exact iY
  have JC:=iY;have mz:H5 bl=some (.lst []):=by rw [<-e5,az O6];exact mz
  have Nb:=mz;have Cf:H5 rw=some (.lst []):=by rw [<-e5,az Wm];exact Cf
  have Wn:=Cf;refine ⟨_,rfl,p,_,dx,_,rfl,hH5,T.bD,T.gR,(by show 6<1000;decide),?_⟩;rw [fJ (L:=[("world",x0),("panel",V.ref pl),("born",V.ref bl),("rates",V.cx),("draws",V.cx),("rows",V.ref rw)]) (show ¬ ("generation":Str)∈(["world","panel","born","rates","draws","rows"]:List Str) by decide+kernel)];generalize e6:upd H5 p _=H6;have hH6:H6 p=some (.ins ad.bJ dx [("world",x0),("panel",V.ref pl),("born",V.ref bl),("rates",V.cx),("draws",V.cx),("rows",V.ref rw),("generation",V.int 0)]):=by rw [<-e6,ah];rfl
  have kH6:∀ b o,H b=some o->b≠p->H6 b=some o:=fun b o hb ne=>by rw [<-e6,az ne];exact kH5 b o hb ne
  have iY:H6 pl=some (.lst []):=by rw [<-e6,az Na];exact iY
  have JC:=iY;have mz:H6 bl=some (.lst []):=by rw [<-e6,az O6];exact mz
  have Nb:=mz;have Cf:H6 rw=some (.lst []):=by rw [<-e6,az Wm];exact Cf
  have Wn:=Cf;refine ⟨Nat.zero_le _,?_⟩;intro bs As;generalize abJ:upd H6 bs _=G8;obtain ⟨Rh,Tp⟩:=aI As abJ
  have hG8:=Rh _ _ hH6;have kG8:∀ b o,H b=some o->b≠p->G8 b=some o:=fun b o hb ne=>Rh _ _ (kH6 b o hb ne)
  have iY:=Rh _ _ iY;have mz:=Rh _ _ mz;have Cf:=Rh _ _ Cf;have abK:H bs=none:=by
   cases z:H bs with
   |none=>rfl
   |some o=>
    by_cases e:bs=p
    ·rw [e,hH6] at As;cases As
    ·rw [kH6 bs o z e] at As;cases As
  have abL:bs≠p:=fun e=>by rw [e,hH6] at As;cases As
  have Tq:pl≠bs:=fun e=>by rw [<-e,JC] at As;cases As
  have Tr:bl≠bs:=fun e=>by rw [<-e,Nb] at As;cases As
  have Ts:rw≠bs:=fun e=>by rw [<-e,Wn] at As;cases As
  refine ⟨_,rfl,p,_,dx,_,rfl,hG8,T.bD,T.wb,(by show 7<1000;decide),?_⟩;rw [fJ (L:=[("world",x0),("panel",V.ref pl),("born",V.ref bl),("rates",V.cx),("draws",V.cx),("rows",V.ref rw),("generation",V.int 0)]) (show ¬ ("bests":Str)∈(["world","panel","born","rates","draws","rows","generation"]:List Str) by decide+kernel)];generalize e7:upd G8 p _=H7;have hH7:H7 p=some (.ins ad.bJ dx [("world",x0),("panel",V.ref pl),("born",V.ref bl),("rates",V.cx),("draws",V.cx),("rows",V.ref rw),("generation",V.int 0),("bests",V.ref bs)]):=by rw [<-e7,ah];rfl
  have kH7:∀ b o,H b=some o->b≠p->H7 b=some o:=fun b o hb ne=>by rw [<-e7,az ne];exact kG8 b o hb ne
  have iY:H7 pl=some (.lst []):=by rw [<-e7,az Na];exact iY
  have JC:=iY;have mz:H7 bl=some (.lst []):=by rw [<-e7,az O6];exact mz
  have Nb:=mz;have Cf:H7 rw=some (.lst []):=by rw [<-e7,az Wm];exact Cf
  have Wn:=Cf;have Tp:H7 bs=some (.lst []):=by rw [<-e7,az abL];exact Tp
  have acq:=Tp;refine q H7 pl bl rw bs abE abG abI abK ?_ hH7 iY mz Cf Tp kH7;simp only [List.nodup_cons,List.mem_cons,List.not_mem_nil,or_false,not_or,List.nodup_nil,and_true,not_false_eq_true];exact ⟨⟨Ti,Tn,Tq⟩,⟨To,Tr⟩,Ts⟩
def JE (K:PySem.W.Frag) (ad:Ad):Sp:=fun vs H Q _=>∃ (p dx:Addr),vs=[.ref p]/\H p=some (.ins ad.lF dx [])/\∀ H2:Hp,H2 p=some (.ins ad.lF dx (IW .cx))->(∀ b o,H b=some o->b≠p->H2 b=some o)->Q .cx H2
theorem JF (T:Tx P w K mg base ad):Ok T 1 ad.zH ad.fT ["self"] JE:=by
 refine T.nt.Ui yc (fun vs H Q E h=>?_) (fun nd bB A outer s H vs Q E hr h=>?_)
 ·obtain ⟨p,dx,rfl,_⟩:=h;rfl
 ·obtain ⟨p,dx,rfl,hp,k⟩:=h;refine ⟨_,(ae (aY (pv 0) CY rfl)),?_⟩;refine ⟨_,rfl,p,_,dx,_,rfl,hp,T.yH,T.qd,(by show 0<1000;decide),?_⟩;rw [fJ (L:=[]) (show ¬ ("arena":Str)∈([]:List Str) by decide+kernel)];generalize e1:upd H p _=H1;have h1:H1 p=some (.ins ad.lF dx [("arena",V.cx)]):=by rw [<-e1,ah];rfl
  have k1:∀ b o,H b=some o->b≠p->H1 b=some o:=fun b o hb ne=>by rw [<-e1,az ne];exact hb
  exact k H1 h1 k1
theorem uO {H:Hp} {dx ax m C:Addr} (h:upd (upd H dx (.own ax)) ax (.ins C dx []) m=none):m≠ax/\m≠dx/\H m=none:=by
 have h1:m≠ax:=fun e=>by rw [e,ah] at h;cases h
 rw [az h1] at h;have h2:m≠dx:=fun e=>by rw [e,ah] at h;cases h
 rw [az h2] at h;exact ⟨h1,h2,h⟩
structure Ground (ad:Ad) (H:Hp) (ln:Addr) (av:List Addr):Prop where
 nd:(ad.tb::av).Nodup
 K3:∀ m∈av,∃ o,H m=some o/\Ul o=false
 ln:ln∈av
 tab:∃ ps,H ad.tb=some (.CC ps)/\Ex (Out (ad.tb::av) H) ps
theorem Nc {n h r d l q:Int} (e:nE n h r d l q=true):∃ v:Vbapah.World,n=(v.n:Nat)/\h=(v.hands:Nat)/\r=(v.rounds:Nat)/\d=(v.apart:Nat)/\l=(v.longest:Nat)/\q=(v.starts:Nat)/\sA v:=by
 unfold nE bW at e;simp only [Bool.and_eq_true,decide_eq_true_eq] at e;refine ⟨⟨n.toNat,h.toNat,r.toNat,d.toNat,l.toNat,q.toNat⟩,?_,?_,?_,?_,?_,?_,⟨?_,?_,?_,?_,?_,?_⟩⟩<;>(dsimp only;lia)
theorem Lj {s:Vbapah.State} {n h r d l q:Int}:Vbapah.step s (.new n h r d l q)=if Vbapah.inside n 8 32=false∨Vbapah.inside h 1 4=false∨Vbapah.inside r 1 40=false∨Vbapah.inside d 1 8=false∨n<2*d∨Vbapah.inside l 1 8=false∨d<l∨Vbapah.inside q 1 4=false then Vbapah.no s (-1) else
   ({Vbapah.start with world:=some ⟨n.toNat,h.toNat,r.toNat,d.toNat,l.toNat,q.toNat⟩},⟨(Vbapah.legal ⟨n.toNat,h.toNat,r.toNat,d.toNat,l.toNat,q.toNat⟩:Nat),[Vbapah.ints (Vbapah.startsOf ⟨n.toNat,h.toNat,r.toNat,d.toNat,l.toNat,q.toNat⟩)]⟩):=rfl
theorem Oa {s:Vbapah.State} {n h r d l q:Int} (e:nE n h r d l q=false):Vbapah.step s (.new n h r d l q)=Vbapah.no s (-1):=by
 rw [Lj,if_pos];have i1:Vbapah.inside n 8 32=bW n 8 32:=rfl;have i2:Vbapah.inside h 1 4=bW h 1 4:=rfl;have i3:Vbapah.inside r 1 40=bW r 1 40:=rfl;have i4:Vbapah.inside d 1 8=bW d 1 8:=rfl;have i5:Vbapah.inside l 1 8=bW l 1 8:=rfl;have i6:Vbapah.inside q 1 4=bW q 1 4:=rfl;rw [i1,i2,i3,i4,i5,i6];unfold nE at e;simp only [Bool.and_eq_false_iff,decide_eq_false_iff_not] at e;rcases e with (e|e|e)|(e|e)|e|e|e
 ·exact .inl e
 ·exact .inr (.inl e)
 ·exact .inr (.inr (.inl e))
 ·exact .inr (.inr (.inr (.inl e)))
 ·exact .inr (.inr (.inr (.inr (.inl (by lia)))))
 ·exact .inr (.inr (.inr (.inr (.inr (.inl e)))))
 ·exact .inr (.inr (.inr (.inr (.inr (.inr (.inl (by lia)))))))
 ·exact .inr (.inr (.inr (.inr (.inr (.inr (.inr e))))))
theorem Lk {s:Vbapah.State} {v:Vbapah.World} (W:sA v):Vbapah.step s (.new (v.n:Nat) (v.hands:Nat) (v.rounds:Nat) (v.apart:Nat) (v.longest:Nat) (v.starts:Nat))=({Vbapah.start with world:=some v},⟨(Vbapah.legal v:Nat),[Vbapah.ints (Vbapah.startsOf v)]⟩):=by
 rw [Lj,if_neg]
 ·simp only [Int.toNat_natCast]
 ·have:=W.n;have:=W.h;have:=W.r;have:=W.d;have:=W.l;have:=W.q;unfold Vbapah.inside;simp only [Bool.and_eq_false_iff,decide_eq_false_iff_not];omega+splitDisjunctions
def Gm (K:PySem.W.Frag) (ad:Ad):Sp:=fun vs H Q _=>∃ (ln na:Addr) (av:List Addr) (x0:V) (s:Vbapah.State) (n h r d l q:Int),vs=[.ref ln,.ref na]/\ee ad H ln x0/\Ground ad H ln av/\aH K H na (vI [n,h,r,d,l,q])/\
 (nE n h r d l q=false->∀ H' p,H p=none->au H H'->um H' p (VbapahNeutral.flatAns (Vbapah.step s (.new n h r d l q)).2)->Q (.ref p) H')/\
 (∀ v:Vbapah.World,sA v->n=(v.n:Nat)/\h=(v.hands:Nat)/\r=(v.rounds:Nat)/\d=(v.apart:Nat)/\l=(v.longest:Nat)/\q=(v.starts:Nat)->∀ H' r' p,r'.av=av->ag K ad H' r' v {Vbapah.start with world:=some v}->ee ad H' ln (.ref r'.a)->Kp [ln] H H'->(∀ m∈r'.M ad,m=ad.tb∨H m=none)->H p=none->
  um H' p (VbapahNeutral.flatAns (Vbapah.step s (.new n h r d l q)).2)->Q (.ref p) H')
theorem Gn (T:Tx P w K mg base ad):Ok T 3 ad.DX ad.gA ["line","numbers"] Gm:=by
 refine T.yB.ok vJ (fun vs H Q E h=>?_) (fun nd bB A outer s H vs Q E hr h=>?_)
 ·obtain ⟨ln,na,av,x0,s,n,h,r,d,l,q,rfl,_⟩:=h;rfl
 ·obtain ⟨ln,na,av,x0,s,n,h,r,d,l,q,rfl,hL,Gr,hn,q1,q2⟩:=h;refine ⟨_,(aa (aZ (cK (bx (eC (Lg T) hr T.D0 (bj (pv 1))))) (ae (aq (aE (bj (ay rfl T.gK))))) aJ)
   (aa (sS 2 nd (pP T.SH (FI (K:=K) T) hr rfl T.II T.pX .nil i0 (aQ (xL K (pv 1) ab) (aQ (xL K (pv 1) ab) (aQ (xL K (pv 1) ab) (fY (xL K (pv 1) ab) (xL K (pv 1) ab) (xL K (pv 1) ab)))))))
   (aa (aY (pv 0) (pP T.SJ (Gk (K:=K) T) hr rfl T.IK T.pZ .nil i0 (bj (pv 2))) rfl)
   (ae (aq (eC (bo T) hr T.bt (ie (eC (mj T) hr T.iO (bj (pv 2))) (aE (bj (eC (pD T) hr T.jX (bj (pv 2)))))))))))),?_⟩
  refine ⟨_,rfl,na,n,h,r,d,l,q,rfl,hn,_,rfl,?_⟩;cases hc:nE n h r d l q with
  |false=>
   refine ⟨(by show 1<=sizeLine;decide),?_⟩;intro p mN;generalize B2:upd H p _=H1;obtain ⟨s1,h1⟩:=aI mN B2
   refine q1 hc H1 p mN s1 ?_;rw [Oa hc];exact ⟨h1,(by show 1<=100001;decide)⟩
  |true=>
  refine Gg ?_;obtain ⟨v,rfl,rfl,rfl,rfl,rfl,rfl,W⟩:=Nc hc;have qq:=q2 v W ⟨rfl,rfl,rfl,rfl,rfl,rfl⟩;rw [Lk W] at qq;refine ⟨_,rfl,na,_,_,_,rfl,rfl,hn,rfl,_,rfl,na,_,_,_,rfl,rfl,hn,rfl,_,rfl,na,_,_,_,rfl,rfl,hn,rfl,_,rfl,na,_,_,_,rfl,rfl,hn,rfl,_,rfl,na,_,_,_,rfl,rfl,hn,rfl,_,rfl,na,_,_,_,rfl,rfl,hn,rfl,?_⟩;intro wp Ri YQ YR acg;refine ⟨wp,Ri,_,_,_,_,_,_,rfl,ah,fun H1 YS abM=>⟨rfl,?_⟩⟩;have s1:au H H1:=au.made YQ YR abM
  have hW:cD ad H1 wp v:=⟨Ri,YS⟩;refine ⟨_,rfl,?_⟩;intro ax dx Rj Wo ne;refine ⟨ax,dx,_,rfl,ah,fun H2 pl bl rw bs f1 f2 f3 f4 Wq abN h1 h2 h3 h4 k2=>⟨rfl,?_⟩⟩;obtain ⟨a1,b1,c1⟩:=uO f1;obtain ⟨a2,b2,c2⟩:=uO f2;obtain ⟨a3,b3,c3⟩:=uO f3;obtain ⟨a4,b4,c4⟩:=uO f4;have s2:au H1 H2:=au.made Rj Wo k2;have Ob:=s1.trans s2;refine ⟨_,rfl,FQ T (hL.mono Ob) fun H3 i3 k3=>?_⟩;have old:∀ m∈ad.tb::av,∃ o,H m=some o/\Ul o=false:=fun m hm=>by
   rcases List.mem_cons.mp hm with rfl|hm
   ·obtain ⟨ps,e,_⟩:=Gr.tab;exact ⟨_,e,rfl⟩
   ·exact Gr.K3 m hm
  have fr:∀ {m z:Addr},m∈ad.tb::av->H1 z=none->m≠z:=fun hm hz e=>by
   obtain ⟨o,e1,_⟩:=old _ hm;rw [<-e,s1 _ _ e1] at hz;cases hz
  have O7:ln∈ad.tb::av:=List.mem_cons_of_mem _ Gr.ln;have ntb:ad.tb≠ln:=fun e=>(List.nodup_cons.mp Gr.nd).1 (e▸Gr.ln)
  simp only [List.nodup_cons,List.mem_cons,List.not_mem_nil,or_false,not_or] at Wq;obtain ⟨⟨d1,d2,d3⟩,⟨d4,d5⟩,d6,_⟩:=Wq
  let r':Ar:=⟨ax,pl,bl,bs,wp,rw,.cx,none,av⟩
  have YT:∀ m,m∈r'.N ad->m=ax∨m=pl∨m=bl∨m=bs∨m∈ad.tb::av:=fun m hm=>by
   have hm:m∈ax::pl::bl::bs::ad.tb::av:=hm;simp only [List.mem_cons] at hm ⊢;exact hm
  have YU:∀ {b:Addr} {o:HO},H1 b=some o->b∉ad.tb::av->Out (r'.N ad) H3 b=some o:=fun {b o} e hb=>by
   refine bL (fun z=>?_) (k3 _ _ (s2 _ _ e) fun z=>hb (z▸O7));rcases YT b z with z|z|z|z|z
   ·exact aw e Rj z
   ·exact aw e c1 z
   ·exact aw e c2 z
   ·exact aw e c4 z
   ·exact hb z
  have A3:ag K ad H3 r' v {Vbapah.start with world:=some v}:=by
   refine ⟨?_,fun m hm=>?_,⟨dx,k3 _ _ abN fun e=>fr O7 Rj e.symm⟩,⟨Ri,YU YS fun z=>?_⟩,⟨[],k3 _ _ h1 fun e=>fr O7 c1 e.symm,.nil⟩,⟨[],k3 _ _ h2 fun e=>fr O7 c2 e.symm,.nil⟩,⟨[],bL (fun z=>?_) (k3 _ _ h3 fun e=>fr O7 c3 e.symm),.nil⟩,⟨[],k3 _ _ h4 fun e=>fr O7 c4 e.symm,.nil⟩,?_,⟨rfl,rfl⟩⟩
   ·show (ax::pl::bl::bs::ad.tb::av).Nodup;have n1:∀ {z},H1 z=none->z∉ad.tb::av:=fun hz hm=>fr hm hz rfl
    refine List.nodup_cons.mpr ⟨?_,List.nodup_cons.mpr ⟨?_,List.nodup_cons.mpr ⟨?_,List.nodup_cons.mpr ⟨n1 c4,Gr.nd⟩⟩⟩⟩
    ·simp only [List.mem_cons,not_or];have:=n1 Rj;simp only [List.mem_cons,not_or] at this;exact ⟨fun e=>a1 e.symm,fun e=>a2 e.symm,fun e=>a4 e.symm,this⟩
    ·simp only [List.mem_cons,not_or];have:=n1 c1;simp only [List.mem_cons,not_or] at this;exact ⟨d1,d3,this⟩
    ·simp only [List.mem_cons,not_or];have:=n1 c2;simp only [List.mem_cons,not_or] at this;exact ⟨d5,this⟩
   ·by_cases e:m=ln
    ·rw [e];obtain ⟨dy,ey⟩:=i3;exact ⟨_,ey,rfl⟩
    ·obtain ⟨o,e1,e2⟩:=Gr.K3 m hm;exact ⟨o,k3 _ _ (Ob _ _ e1) e,e2⟩
   ·obtain ⟨o,e,_⟩:=old _ z;rw [YQ] at e;cases e
   ·rcases YT _ z with z|z|z|z|z
    ·exact a3 z
    ·exact d2 z.symm
    ·exact d4 z.symm
    ·exact d6 z
    ·exact fr z c3 rfl
   ·obtain ⟨ps,e1,e2⟩:=Gr.tab;refine ⟨ps,k3 _ _ (Ob _ _ e1) ntb,e2.mono fun b o e=>?_⟩;exact YU (s1 _ _ (aA _ _ e)) (dn e)
  refine ⟨_,rfl,wp,v,rfl,A3.z9.mono aA,W,_,rfl,wp,v,rfl,A3.z9.mono aA,W,fun H4 f hf s4 h4x=>?_⟩;refine ⟨(by show 1<=sizeLine;decide),?_⟩;intro p5 Rf;generalize Rg:upd H4 p5 _=H5;obtain ⟨s5,h5⟩:=aI Rf Rg
  have sl:(Vbapah.startsOf v).length<=4:=by
   unfold Vbapah.startsOf;rw [List.length_map,List.length_range];have:=W.q
   lia
  have k03:Kp [ln] H H3:=(Kp.of Ob).trans (Kp.one k3);refine ⟨_,p5,[f],[Vbapah.ints (Vbapah.startsOf v)],rfl,h5,.cons ?_ .nil,?_,fun H6 p hp s6 h6=>?_⟩
  ·rw [gL];exact s5 _ _ h4x
  ·show 1+((Vbapah.ints (Vbapah.startsOf v)).length+0)<=_;rw [dW]
   lia
  ·have WY:=(s4.trans s5).trans s6;have LN:H3 p=none:=(s4.trans s5).free hp;have fresh:H p=none:=by
    cases hz:H p with
    |none=>rfl
    |some o=>
     by_cases e:p=ln
     ·obtain ⟨dy,ey⟩:=i3;rw [e,ey] at LN;cases LN
     ·rw [k03.hG hz e] at LN;cases LN
   refine qq H6 r' p rfl (A3.mono WY) (i3.mono WY) (k03.trans (Kp.of WY)) (fun m hm=>?_) fresh h6;have hm:m∈ax::pl::bl::bs::ad.tb::[]:=hm;simp only [List.mem_cons,List.not_mem_nil,or_false] at hm;rcases hm with rfl|rfl|rfl|rfl|rfl
   ·exact .inr (s1.free Rj)
   ·exact .inr (s1.free c1)
   ·exact .inr (s1.free c2)
   ·exact .inr (s1.free c4)
   ·exact .inl rfl
end
def JG (ones:List Vbapah.One):Prop:=∀ o∈ones,o.recipe.nums.length<=100
theorem JG.app {a b:List Vbapah.One} (h:JG a) (k:JG b):JG (a++b):=fun o ho=>by
 rcases List.mem_append.mp ho with h1|h1
 ·exact h o h1
 ·exact k o h1
theorem Nd (kind x:Nat):(Vbapah.drawnRecipe kind x).1.nums.length<=100:=by
 unfold Vbapah.drawnRecipe;show (Vbapah.drawAll _ x).1.length<=100;rw [bS];split
 ·show 3<=100;decide
 ·split
  ·show 4<=100;decide
  ·split
   ·show 1<=100;decide
   ·split
    ·show 2<=100;decide
    ·split
     ·show 2<=100;decide
     ·show 0<=100;decide
theorem BF (v:Vbapah.World) (panel:List Vbapah.Program) (rt:Vbapah.Rates) (ones:List Vbapah.One) (living:List Nat) (gen:Nat):∀ k x,JG (Vbapah.children v panel rt ones living gen k x).1
 |0,x=>fun o ho=>(by cases ho)
 |k+1,x=>fun o ho=>by
  have ho:o∈(Vbapah.child v panel rt ones living gen x).1::(Vbapah.children v panel rt ones living gen k (Vbapah.child v panel rt ones living gen x).2).1:=ho;rcases List.mem_cons.mp ho with rfl|h
  ·exact Nd _ _
  ·exact BF v panel rt ones living gen k _ o h
theorem Rk {v:Vbapah.World} {panel:List Vbapah.Program} {rt:Vbapah.Rates} {gen:Nat}:∀ (l:List (List Nat)) (t:List Vbapah.One×List (List Nat)×Nat),JG t.1->JG (l.foldl (fld v panel rt gen) t).1
 |[],t,h=>h
 |a::l,t,h=>by
  rw [List.foldl_cons];exact Rk l _ (h.app (BF v panel rt t.1 a gen _ _))
theorem HR {v:Vbapah.World} {panel:List Vbapah.Program} (W:sA v):∀ (k x:Nat),1<=x->x<Vbapah.PRIME->JG (Vbapah.filled v panel k x).1
 |0,x,_,_=>fun o ho=>(by cases ho)
 |k+1,x,h1,h2=>fun o ho=>by
  have ho:o∈(⟨(Vbapah.drawnProgram v x).1,Vbapah.scoreOf v panel (Vbapah.drawnProgram v x).1,0,none,⟨0,(Vbapah.drawnProgram v x).2.1⟩⟩:Vbapah.One)::(Vbapah.filled v panel k (Vbapah.drawnProgram v x).2.2).1:=ho;obtain ⟨d1,d2,d3⟩:=jT (w:=v) (x:=x) W.l.1 W.pos h1 h2;rcases List.mem_cons.mp ho with rfl|h
  ·show (Vbapah.drawnProgram v x).2.1.length<=100;have hl:=d1.len;have:=W.l;have e:(Vbapah.drawnProgram v x).2.1.length=3*(Vbapah.drawnProgram v x).1.length:=by
    unfold Vbapah.drawnProgram;show (Vbapah.drawAll _ _).1.length=3*((List.range _).map _).length;rw [bS,List.length_map,List.length_range];generalize (Vbapah.draw v.longest x).1+1=n
    induction n with
    |zero=>rfl
    |succ n ih=>
     rw [List.range_succ,List.flatMap_append,List.length_append,ih];show 3*n+3=3*(n+1)
     lia
   lia
  ·exact HR W k _ d2 d3 o h
theorem O8 {v:Vbapah.World} {s:Vbapah.State} {rt:Vbapah.Rates} (G:Good v s) (hr:s.rates=some rt) (hb:s.ones.length+rt.islands*(rt.size-rt.elite)<=300):Good v (Vbapah.bred s)/\(Vbapah.bred s).rates=some rt:=by
 obtain ⟨h1,h2,h3,h4⟩:=NR G.S hr hb;have B:=G.S.qD rt hr;have B':=h1.qD rt h2;have hm:1<=rt.islands*(rt.size-rt.elite):=Nat.mul_pos (by have:=B.R.i;lia) (by have:=B.R.e;lia);have hg:=G.g;refine ⟨⟨h1,by lia,?_,?_⟩,h2⟩
 ·rw [xC G.S.world hr];exact Rk s.living (s.ones,[],s.x) G.rc
 ·have e:∀ l∈(Vbapah.bred s).bests,l∈s.bests∨l.length=(Vbapah.bred s).living.length:=by
   rw [xC G.S.world hr];intro l hl;rcases List.mem_append.mp hl with h|h
   ·exact .inl h
   ·rw [List.mem_singleton.mp h,List.length_map];exact .inr rfl
  intro l hl;rcases e l hl with h|h
  ·exact G.b3 l h
  ·rw [h,B'.il];exact B.R.i.2
theorem iW {v:Vbapah.World} {s:Vbapah.State} {rt:Vbapah.Rates} (G:Good v s) (hr:s.rates=some rt):∀ k,s.ones.length+k*(rt.islands*(rt.size-rt.elite))<=300->Good v (Vbapah.bredTimes k s)/\(Vbapah.bredTimes k s).rates=some rt/\(Vbapah.bredTimes k s).ones.length=s.ones.length+k*(rt.islands*(rt.size-rt.elite))/\(Vbapah.bredTimes k s).bests.length=s.bests.length+k/\(∃ m,(Vbapah.bredTimes k s).bests=s.bests++m)
 |0,_=>⟨G,hr,by rw [Nat.zero_mul];rfl,rfl,[],(List.append_nil _).symm⟩
 |k+1,h=>by
  rw [Nat.add_mul,Nat.one_mul] at h;obtain ⟨g1,g2,g3,g4,m,g5⟩:=iW G hr k (by lia);have hb:(Vbapah.bredTimes k s).ones.length+rt.islands*(rt.size-rt.elite)<=300:=by lia
  obtain ⟨e1,e2⟩:=O8 g1 g2 hb;obtain ⟨_,_,e3,_⟩:=NR g1.S g2 hb;rw [lu];have eb:(Vbapah.bred (Vbapah.bredTimes k s)).bests.length=(Vbapah.bredTimes k s).bests.length+1/\∃ m',(Vbapah.bred (Vbapah.bredTimes k s)).bests=(Vbapah.bredTimes k s).bests++m':=by
   rw [xC g1.S.world g2];exact ⟨by rw [List.length_append];rfl,_,rfl⟩
  obtain ⟨eb1,m',eb2⟩:=eb;refine ⟨e1,e2,by rw [e3,Nat.add_mul,Nat.one_mul];lia,by lia,m++m',?_⟩;rw [eb2,g5,List.append_assoc]
section
variable {P:Program} {w:World} {K:PySem.W.Frag} {mg:Str->Option Value} {base:Heap} {ad:Ad}
theorem ag.Wr {H H':Hp} {r:Ar} {v:Vbapah.World} {s:Vbapah.State} (A:ag K ad H r v s) {D:Addr} {oD:HO} (hD:H D=none) (e:au H H') (X9:H' D=some oD) (hT:Ul oD=false):ag K ad H' {r with av:=D::r.av} v s:=by
 have o:au (Out (r.N ad) H) (Out (Ar.N ad {r with av:=D::r.av}) H'):=fun b u z=>by
  refine bL (fun y=>?_) (e _ _ (aA _ _ z));rcases List.mem_append.mp y with y|y
  ·exact dn z (List.mem_append_left _ y)
  ·rcases List.mem_cons.mp y with y|y
   ·rw [y] at z;rw [aA _ _ z] at hD;cases hD
   ·exact dn z (List.mem_append_right _ y)
 obtain ⟨CQ,p1,p2⟩:=A.pL;obtain ⟨wZ,b1,b2⟩:=A.bor;obtain ⟨FZ,r1,r2⟩:=A.row;obtain ⟨yS,t1,t2⟩:=A.HK;obtain ⟨ps,tb,tok⟩:=A.tab;have nD:D∉r.N ad:=A.fresh hD;refine ⟨?_,fun m hm=>?_,A.ins.mono e,A.z9.mono o,⟨CQ,e _ _ p1,Paired.dw p2 fun _ _ z=>aV.mono z o⟩,⟨wZ,e _ _ b1,Paired.dw b2 fun _ _ z=>dq.mono z o⟩,⟨FZ,o _ _ r1,r2.mono o⟩,⟨yS,e _ _ t1,t2.mono o⟩,⟨ps,e _ _ tb,tok.mono o⟩,?_⟩
 ·show (r.M ad++D::r.av).Nodup;have h:=A.nd;unfold Ar.N at h nD;rw [List.nodup_append] at h ⊢;rw [List.mem_append,not_or] at nD;refine ⟨h.1,List.nodup_cons.mpr ⟨nD.2,h.2.1⟩,fun a ha b hb=>?_⟩;rcases List.mem_cons.mp hb with rfl|hb
  ·exact fun z=>nD.1 (z▸ha)
  ·exact h.2.2 a ha b hb
 ·rcases List.mem_cons.mp hm with z|hm
  ·rw [z];exact ⟨_,X9,hT⟩
  ·obtain ⟨o',e',h'⟩:=A.K3 m hm;exact ⟨o',e _ _ e',h'⟩
 ·have z:=A.rat;cases h:s.rates with
  |none=>rw [h] at z;exact z
  |some rt=>
   rw [h] at z;obtain ⟨q,d,e1,e2,e3,e4⟩:=z;exact ⟨q,d,e1,e2,e3.mono o,e4.mono e⟩
def Cg (K:PySem.W.Frag) (ad:Ad):Sp:=fun vs H Q _=>∃ (na:Addr) (s:Vbapah.State) (x m k:Int),vs=[.ref na]/\H na=some (.lst (vI [x,m,k]))/\∀ H' p,H p=none->au H H'->um H' p (VbapahNeutral.flatAns (Vbapah.step s (.draws x m k)).2)->Q (.ref p) H'
theorem xf {s:Vbapah.State} {x m k:Int}:Vbapah.step s (.draws x m k)=if Vbapah.inside x 1 (Vbapah.PRIME-1)=false∨Vbapah.inside m 1 1000000=false∨Vbapah.inside k 1 50=false then Vbapah.no s (-1) else (s,⟨((Vbapah.drawAll (List.replicate k.toNat m.toNat) x.toNat).2:Nat),[Vbapah.ints (Vbapah.drawAll (List.replicate k.toNat m.toNat) x.toNat).1]⟩):=rfl
theorem ET {s:Vbapah.State} {x m k:Int}:(Vbapah.step s (.draws x m k)).1=s:=by
 rw [xf];split<;>rfl
theorem qu {x:Int}:Vbapah.inside x 1 (Vbapah.PRIME-1)=(decide (1<=x)&&decide (x<2147483647)):=by
 unfold Vbapah.inside
 congr 1
 refine decide_eq_decide.mpr ?_;show x<=2147483646↔_
 lia
theorem Ci (T:Tx P w K mg base ad):Ok T 3 ad.yn ad.eS ["numbers"] Cg:=by
 refine T.tO.ok qW (fun vs H Q E h=>?_) (fun nd bB A outer s H vs Q E hr h=>?_)
 ·obtain ⟨na,s,x,m,k,rfl,_⟩:=h;rfl
 ·obtain ⟨na,s,x,m,k,rfl,hn,q⟩:=h;refine ⟨_,(aa (aZ (cK (bx (eC (Jz T) hr T.Bx (fY (xL K (pv 0) ab) (xL K (pv 0) ab) (xL K (pv 0) ab))))) (ae (aq (aE (bj (ay rfl T.gK))))) aJ)
   (aa (sS 1 nd (pP T.NY (wc (K:=K) T) hr rfl T.CL T.kK .nil i0 (bj (xL K (pv 0) ab))))
   (aa (xu (i:=2) rfl nd rfl rfl rfl (fO rfl T.d9 (bj (xL K (pv 0) ab))) (own:=[("time_drawn",3)]) (bC (show kE ["numbers","draws","drawn","time_drawn"] (af ly) _ [("time_drawn",3)]=true by decide+kernel)) (fun _ _ _ _ _=>gN 3 nd) (fun _ _ _ _ _=>cu) (fun _ _ _ _ _=>(mO (pv 1) T.dS T.cG (cp (K:=K) T) hr T.bQ .nil i0 (bj (xL K (pv 0) ab)))))
   (ae (aq (eC (bo T) hr T.bt (ie (aF K (pv 1)) (aE (bj (pv 2)))))))))),?_⟩
  have UH:=aH.of (K:=K) hn;refine ⟨_,rfl,na,_,_,_,rfl,rfl,UH,rfl,_,rfl,na,_,_,_,rfl,rfl,UH,rfl,_,rfl,na,_,_,_,rfl,rfl,UH,rfl,x,m,k,rfl,_,rfl,?_⟩;have i1:=qu (x:=x);have i2:Vbapah.inside m 1 1000000=bW m 1 1000000:=rfl;have i3:Vbapah.inside k 1 50=bW k 1 50:=rfl;cases hc:((decide (1<=x)&&decide (x<2147483647))&&(bW m 1 1000000&&bW k 1 50)) with
  |false=>
   refine ⟨(by show 1<=sizeLine;decide),?_⟩;intro p mN;generalize B2:upd H p _=H1;obtain ⟨s1,h1⟩:=aI mN B2
   refine q H1 p mN s1 ?_;rw [xf,if_pos]
   ·exact ⟨h1,(by show 1<=100001;decide)⟩
   ·rw [i1,i2,i3];rw [Bool.and_eq_false_iff,Bool.and_eq_false_iff (x:=bW m 1 1000000)] at hc;exact hc
  |true=>
  refine Gg ?_;rw [Bool.and_eq_true,Bool.and_eq_true (a:=bW m 1 1000000)] at hc;obtain ⟨c1,c2,c3⟩:=hc;rw [xf,if_neg (by rw [i1,i2,i3,c1,c2,c3];simp)] at q;rw [Bool.and_eq_true,decide_eq_true_eq,decide_eq_true_eq] at c1;unfold bW at c2 c3;rw [Bool.and_eq_true,decide_eq_true_eq,decide_eq_true_eq] at c2 c3;obtain ⟨x,rfl⟩:∃ n:Nat,x=(n:Int):=⟨x.toNat,by lia⟩;obtain ⟨m,rfl⟩:∃ n:Nat,m=(n:Int):=⟨m.toNat,by lia⟩;obtain ⟨k,rfl⟩:∃ n:Nat,k=(n:Int):=⟨k.toNat,by lia⟩;simp only [Int.toNat_natCast] at q;have x2:x<Vbapah.PRIME:=by show x<2147483647;lia
  refine ⟨_,rfl,na,_,_,_,rfl,rfl,UH,rfl,?_⟩;intro d Rl O9 Ws abO;refine ⟨d,Rl,_,rfl,ah,fun H1 ZZ k_d=>⟨rfl,?_⟩⟩;have s1:au H H1:=au.made O9 Ws k_d
  have hD:bw ad H1 d x:=⟨Rl,ZZ⟩;have YM:=s1 _ _ hn;have Zy:na≠d:=aw hn O9;refine ⟨_,rfl,na,_,_,_,rfl,rfl,aH.of YM,rfl,_,rfl,by lia,by lia,fun D C8=>?_⟩;rw [Int.toNat_natCast];have Ye:d≠D:=hD.ne C8;have rp:∀ i,∀ z∈List.replicate i m,0<z:=fun i z hz=>by rw [(List.mem_replicate.mp hz).2];lia
  refine lcR C8 (Nat.le_trans (show k<=50 by lia) (by decide)) (fun i acc H2=>acc=vN (Vbapah.drawAll (List.replicate i m) x).1/\bw ad H2 d (Vbapah.drawAll (List.replicate i m) x).2/\Kp [d] H1 H2) ⟨rfl,hD,Kp.refl _ _⟩ ?_ ?_
  ·rintro i acc H2 hi aR hlen hsz ⟨rfl,D2,k2⟩;have RL:Kp [d] H1 H2:=fun b o e n=>aN _ _ (k2 b o e n)
   have RM:=D2.mono aN;obtain ⟨z1,z2⟩:=fu (List.replicate i m) (rp i) (show 1<=x by lia) x2;obtain ⟨dx,Yg⟩:=id RM;refine ⟨_,rfl,d,dx,_,rfl,Yg,bV,_,rfl,na,_,_,_,rfl,rfl,aH.of (RL.hG YM Zy),rfl,d,m,_,rfl,RM,by lia,by lia,z1,z2,fun H4 D4 k4=>?_⟩;refine Eh.mk (k4.hG aR (fun z=>Ye z.symm)) hlen hsz ⟨?_,?_,?_⟩
   ·rw [List.replicate_succ',cC,cS];rfl
   ·rw [List.replicate_succ',cC];exact D4.kO Ye
   ·exact fun b o e n=>ma (aw e C8) (k4 b o (RL b o e n) n)
  ·rintro acc H2 aR hlen ⟨rfl,D2,k2⟩;have RL:Kp [d] H1 H2:=fun b o e n=>aN _ _ (k2 b o e n)
   have RM:=D2.mono aN;have Ob:au H H2:=fun b o e=>RL b o (s1 _ _ e) fun z=>by rw [List.mem_singleton.mp z,O9] at e;cases e
   have hl:(Vbapah.drawAll (List.replicate k m) x).1.length=k:=by rw [bS,List.length_replicate]
   revert RM aR q hl
   generalize Vbapah.drawAll (List.replicate k m) x=ds;intro q aR RM hl;refine ⟨_,rfl,cW T RM ⟨_,rfl,(by show 1<=sizeLine;decide),?_⟩⟩;intro p5 Rf;generalize Rg:upd H2 p5 _=H5;obtain ⟨s5,h5⟩:=aI Rf Rg
   have YV:=Ob.trans s5;refine ⟨_,p5,[D],[Vbapah.ints ds.1],rfl,h5,.cons ?_ .nil,?_,fun H6 p hp s6 h6=>q H6 p (YV.free hp) (YV.trans s6) h6⟩
   ·rw [gL];exact s5 _ _ aR
   ·show 1+((Vbapah.ints ds.1).length+0)<=_;rw [dW,hl]
    lia
abbrev Cj (K:PySem.W.Frag) (ad:Ad):Sp:=M3 K ad fun ns rs k=>∃ x i z e p v ws,ns=[x,i,z,e,p,v]/\rs=[ws]/\k=.begin_ x i z e p v ws
theorem EU {s:Vbapah.State} {w:Vbapah.World} (h:s.world=some w) {seed islands size elite pick every:Int} {weights:List Int}:Vbapah.step s (.begin_ seed islands size elite pick every weights)=if s.rates.isSome=true then Vbapah.no s (-3) else if Vbapah.inside seed 1 (Vbapah.PRIME-1)=false∨Vbapah.inside islands 1 3=false∨Vbapah.inside size 2 10=false∨Vbapah.inside elite 0 (size.toNat-1)=false∨Vbapah.inside pick 1 4=false∨Vbapah.inside every 0 10=false∨weights.length≠5∨(weights.all fun z=>Vbapah.inside z 0 9)=false∨Vbapah.total (Vbapah.nats weights)=0 then Vbapah.no s (-1)
   else if s.panel=[] then Vbapah.no s (-4) else if size.toNat<s.ones.length then Vbapah.no s (-5) else
   (begun w s ⟨islands.toNat,size.toNat,elite.toNat,pick.toNat,every.toNat,Vbapah.nats weights⟩ seed.toNat,⟨((begun w s ⟨islands.toNat,size.toNat,elite.toNat,pick.toNat,every.toNat,Vbapah.nats weights⟩ seed.toNat).ones.length:Nat),(begun w s ⟨islands.toNat,size.toNat,elite.toNat,pick.toNat,every.toNat,Vbapah.nats weights⟩ seed.toNat).bests.map Vbapah.ints⟩):=ww h
theorem we {ws:List Int} (h:(ws.all fun z=>bW z 0 9)=true):ws=(Vbapah.nats ws).map (fun (n:Nat)=>(n:Int))/\ws.sum=((Vbapah.total (Vbapah.nats ws):Nat):Int):=by
 have e:ws=(Vbapah.nats ws).map (fun (n:Nat)=>(n:Int)):=uI fun z hz=>by
  have:=List.all_eq_true.mp h z hz;unfold bW at this;rw [Bool.and_eq_true,decide_eq_true_eq,decide_eq_true_eq] at this;exact this.1
 refine ⟨e,?_⟩
 conv=>lhs;rw [e]
 rw [ic];unfold Vbapah.total;rw [foldl_add]
theorem BG {x i z e p v:Int} {ws:List Int} (h:nF x i z e p v ws=false):Vbapah.inside x 1 (Vbapah.PRIME-1)=false∨Vbapah.inside i 1 3=false∨Vbapah.inside z 2 10=false∨Vbapah.inside e 0 (z.toNat-1)=false∨Vbapah.inside p 1 4=false∨Vbapah.inside v 0 10=false∨ws.length≠5∨(ws.all fun z=>Vbapah.inside z 0 9)=false∨Vbapah.total (Vbapah.nats ws)=0:=by
 rw [qu];have i1:Vbapah.inside i 1 3=bW i 1 3:=rfl;have i2:Vbapah.inside z 2 10=bW z 2 10:=rfl;have i3:Vbapah.inside p 1 4=bW p 1 4:=rfl;have i4:Vbapah.inside v 0 10=bW v 0 10:=rfl;have i5:(ws.all fun z=>Vbapah.inside z 0 9)=ws.all fun z=>bW z 0 9:=rfl
 rw [i1,i2,i3,i4,i5];cases h2:bW z 2 10 with
 |false=>exact .inr (.inr (.inl rfl))
 |true=>
 have ei:Vbapah.inside e 0 (z.toNat-1)=bW e 0 (z-1):=by
  unfold Vbapah.inside bW;unfold bW at h2;rw [Bool.and_eq_true,decide_eq_true_eq,decide_eq_true_eq] at h2
  congr 1
  exact decide_eq_decide.mpr (by lia)
 rw [ei];cases h8:(ws.all fun z=>bW z 0 9) with
 |false=>exact .inr (.inr (.inr (.inr (.inr (.inr (.inr (.inl rfl)))))))
 |true=>
 have hs:=(we h8).2;unfold nF pE at h;rw [h2,h8] at h;generalize (decide (1<=x)&&decide (x<2147483647))=D at h ⊢;simp only [Bool.and_true,Bool.true_and,Bool.and_eq_false_iff] at h;rcases h with (h|h)|(h|h)|h|h|h
 ·exact .inl h
 ·exact .inr (.inl h)
 ·exact .inr (.inr (.inr (.inl h)))
 ·exact .inr (.inr (.inr (.inr (.inl h))))
 ·exact .inr (.inr (.inr (.inr (.inr (.inl h)))))
 ·exact .inr (.inr (.inr (.inr (.inr (.inr (.inl (of_decide_eq_false h)))))))
 ·have:=of_decide_eq_false h;exact .inr (.inr (.inr (.inr (.inr (.inr (.inr (.inr (by lia))))))))
theorem EV {x i z e p v:Int} {ws:List Int} (h:nF x i z e p v ws=true):¬ (Vbapah.inside x 1 (Vbapah.PRIME-1)=false∨Vbapah.inside i 1 3=false∨Vbapah.inside z 2 10=false∨Vbapah.inside e 0 (z.toNat-1)=false∨Vbapah.inside p 1 4=false∨Vbapah.inside v 0 10=false∨ws.length≠5∨(ws.all fun z=>Vbapah.inside z 0 9)=false∨Vbapah.total (Vbapah.nats ws)=0)/\
  ∃ (x':Nat) (rt:Vbapah.Rates),x=(x':Nat)/\i=(rt.islands:Nat)/\z=(rt.size:Nat)/\e=(rt.elite:Nat)/\p=(rt.pick:Nat)/\v=(rt.every:Nat)/\vI ws=vN rt.weights/\Vbapah.nats ws=rt.weights/\xB rt/\1<=x'/\x'<Vbapah.PRIME:=by
 unfold nF pE at h;simp only [Bool.and_eq_true] at h;obtain ⟨⟨⟨h1a,h1b⟩,h2,h3⟩,⟨h4,h5⟩,h6,h7,h8,h9⟩:=h;have h1:(decide (1<=x)&&decide (x<2147483647))=true:=by rw [h1a,h1b];rfl
 obtain ⟨w1,w2⟩:=we h8;have h7:=of_decide_eq_true h7;have h9:=of_decide_eq_true h9;have hnl:(Vbapah.nats ws).length=5:=by
  unfold Vbapah.nats;rw [List.length_map];exact h7
 have hz:=h3;unfold bW at hz;rw [Bool.and_eq_true,decide_eq_true_eq,decide_eq_true_eq] at hz;have ei:Vbapah.inside e 0 (z.toNat-1)=bW e 0 (z-1):=by
  unfold Vbapah.inside bW
  congr 1
  exact decide_eq_decide.mpr (by lia)
 have i1:Vbapah.inside i 1 3=bW i 1 3:=rfl;have i2:Vbapah.inside z 2 10=bW z 2 10:=rfl;have i3:Vbapah.inside p 1 4=bW p 1 4:=rfl;have i4:Vbapah.inside v 0 10=bW v 0 10:=rfl;have i5:(ws.all fun z=>Vbapah.inside z 0 9)=ws.all fun z=>bW z 0 9:=rfl
 refine ⟨?_,?_⟩
 ·rw [qu,i1,i2,i3,i4,i5,ei,h1,h2,h3,h4,h5,h6,h8];rintro (h|h|h|h|h|h|h|h|h)
  ·cases h
  ·cases h
  ·cases h
  ·cases h
  ·cases h
  ·cases h
  ·exact h h7
  ·cases h
  ·lia
 ·have hw9:∀ y∈Vbapah.nats ws,y<=9:=fun y hy=>by
   unfold Vbapah.nats at hy;obtain ⟨t,ht,rfl⟩:=List.mem_map.mp hy;have:=List.all_eq_true.mp h8 t ht;unfold bW at this;rw [Bool.and_eq_true,decide_eq_true_eq,decide_eq_true_eq] at this
   lia
  unfold bW at h2 h4 h5 h6;rw [Bool.and_eq_true,decide_eq_true_eq,decide_eq_true_eq] at h1 h2 h4 h5 h6;refine ⟨x.toNat,⟨i.toNat,z.toNat,e.toNat,p.toNat,v.toNat,Vbapah.nats ws⟩,by lia,by dsimp only;lia,by dsimp only;lia,by dsimp only;lia,by dsimp only;lia,by dsimp only;lia,?_,rfl,⟨?_,?_,?_,?_,?_,hnl,hw9,?_⟩,by lia,by show x.toNat<2147483647;lia⟩
  ·conv=>lhs;rw [w1]
   unfold vI vN;rw [List.map_map];rfl
  ·dsimp only;lia
  ·dsimp only;lia
  ·dsimp only;lia
  ·dsimp only;lia
  ·dsimp only;lia
  ·show 0<(Vbapah.nats ws).sum;have:(Vbapah.nats ws).sum=Vbapah.total (Vbapah.nats ws):=by unfold Vbapah.total;rw [foldl_add]
   lia
theorem EW {v:Vbapah.World} {s:Vbapah.State} {rt:Vbapah.Rates} {x:Nat} (G:Good v s) (hr:s.rates=none) (R:xB rt) (hp:s.panel≠[]) (ho:s.ones.length<=rt.size) (x1:1<=x) (x2:x<Vbapah.PRIME):Good v (begun v s rt x):=by
 have S:=G.S;obtain ⟨f1,f2,f3⟩:=Ac (panel:=s.panel) S.W S.O x1 x2 (rt.islands*rt.size-s.ones.length);have fl:=nQ v s.panel (rt.islands*rt.size-s.ones.length) x;have frc:=HR (panel:=s.panel) S.W (rt.islands*rt.size-s.ones.length) x x1 x2;have hi:=R.i;have hs:=R.s;have hsz:rt.islands*rt.size<=30:=Nat.mul_le_mul hi.2 hs.2;have abr:rt.size<=rt.islands*rt.size:=Nat.le_mul_of_pos_left _ (by lia);unfold begun;generalize Vbapah.filled v s.panel (rt.islands*rt.size-s.ones.length) x=f at f1 f2 f3 fl frc;have hl:(s.ones++f.1).length=rt.islands*rt.size:=by rw [List.length_append,fl];lia
 obtain ⟨r1,r2⟩:=yV R hl;obtain ⟨_,_,g0,_,_⟩:=S.none_ hr;refine ⟨⟨S.world,S.W,S.pL,S.pl,f1,?_,fun e=>(by cases e),fun WM e=>?_⟩,?_,JG.app G.rc frc,?_⟩
 ·show (s.ones++f.1).length<=300
  lia
 ·have e:rt=WM:=Option.some.inj e;subst e;refine ⟨R,hp,r1,r2,f2,f3,?_⟩;show 1=s.gen+1
  lia
 ·show s.gen<=(s.ones++f.1).length
  lia
 ·intro l hl;have hl:l∈[(b9 (s.ones++f.1) rt).map fun l=>Vbapah.scoreAt (s.ones++f.1) (l.headD 0)]:=hl;rw [List.mem_singleton.mp hl,List.length_map,r1];exact hi.2
theorem Ck (T:Tx P w K mg base ad):Ok T 12 ad.iq ad.eJ ["arena","numbers","rows"] Cj:=by
 refine T.lR.ok qS (fun vs H Q E h=>?_) (fun nd bB A outer s H vs Q E hr h=>?_)
 ·obtain ⟨r,v,s,na,ra,ns,rs,k,rfl,_⟩:=h;rfl
 ·obtain ⟨r,v,s,na,ra,ns,rs,k,rfl,C,⟨x,i,z,e,p,vv,ws,rfl,rfl,rfl⟩,q⟩:=h;refine ⟨_,(aa (aZ (bx (eC (iU T) hr T.g6 (bj (pv 0)))) (ae (aq (aE (bj (ay rfl T.l6))))) aJ)
   (aa (aZ (cK (bx (eC (Jv T) hr T.Bv (ie (pv 1) (xL K (pv 2) ab))))) (ae (aq (aE (bj (ay rfl T.gK))))) aJ)
   (aa (aZ (aS du (eL K T.aX (aF K (pv 0))) ab) (ae (aq (aE (bj (ay rfl T.ny))))) aJ)
   (aa (aZ (aS GP (eL K T.aX (aF K (pv 0))) (xL K (pv 1) ab)) (ae (aq (aE (bj (ay rfl T.l7))))) aJ)
   (aa (sS 3 nd (pP T.SI (FN (K:=K) T) (hr.mono (by decide)) rfl T.IJ T.pY .nil i0 (aQ (xL K (pv 1) ab) (aQ (xL K (pv 1) ab) (aQ (xL K (pv 1) ab) (fY (xL K (pv 1) ab) (xL K (pv 1) ab) (xL K (pv 2) ab)))))))
   (aa (bH (eC (yX T) hr T.pd (fY (pv 0) (pv 3) (pP T.NY (wc (K:=K) T) (hr.mono (by decide)) rfl T.CL T.kK .nil i0 (bj (xL K (pv 1) ab))))))
   (ae (aq (eC (bo T) hr T.bt (ie (eL K T.aX (aF K (pv 0))) (aF K (pv 0)))))))))))),?_⟩
  have A:=C.A;have S:=C.G.S;have bN:=EU (s:=s) (w:=v) S.world (seed:=x) (islands:=i) (size:=z) (elite:=e) (pick:=p) (every:=vv) (weights:=ws);obtain ⟨ol,ho,lo⟩:=A.count;obtain ⟨Wh,jP,lp⟩:=A.M4;obtain ⟨WW,rp,HQ,J4,Fp⟩:=C.row (i:=0) rfl;have Wt:=aA _ _ Fp;refine ⟨_,rfl,r,v,s,rfl,A,_,rfl,?_⟩;refine aW (fun hc=>?_) fun hc=>?_
  ·exact q.no A (au.refl H) (by rw [bN,if_pos hc])
  rw [if_neg (by rw [hc];exact Bool.false_ne_true)] at bN;have WX:s.rates=none:=by
   cases e:s.rates with
   |none=>rfl
   |some _=>rw [e] at hc;cases hc
  refine ⟨_,rfl,_,rfl,ra,_,_,_,rfl,rfl,aH.of HQ,at_of (j:=0) rfl J4,na,rp,x,i,z,e,p,vv,ws,rfl,C.num,Wt,fun H1 s1=>⟨_,rfl,?_⟩⟩;cases hk:nF x i z e p vv ws with
  |false=>
   rw [if_pos (BG hk)] at bN;exact q.no A s1 bN
  |true=>
  refine Gg ?_;obtain ⟨hno,x',rt,rfl,rfl,rfl,rfl,rfl,rfl,ews,ewn,R,x1,x2⟩:=EV hk;rw [if_neg hno] at bN;simp only [Int.toNat_natCast,ewn] at bN;have A1:=A.mono s1;refine ⟨_,rfl,cR T A1.ins ⟨r.pl,_,rfl,.inl (aH.of (s1 _ _ jP)),rfl,_,rfl,?_⟩⟩;have ed:decide (V.int (((Wh.map V.ref).length:Nat):Int)=V.int 0)=decide (s.panel.length=0):=decide_eq_decide.mpr (by rw [V.int.injEq,lp];lia);show if decide (V.int (((Wh.map V.ref).length:Nat):Int)=V.int 0)=true then _ else _
  rw [ed];refine aW (fun hc=>?_) fun hc=>?_
  ·exact q.no A s1 (by rw [bN,if_pos (List.length_eq_zero_iff.mp (of_decide_eq_true hc))])
  have hpn:s.panel≠[]:=fun e=>of_decide_eq_false hc (by rw [e];rfl)
  rw [if_neg hpn] at bN;refine ⟨_,rfl,aM T A1.ins ⟨r.bl,_,rfl,.inl (aH.of (s1 _ _ ho)),_,rfl,na,_,_,_,rfl,rfl,s1.seq C.num,rfl,_,_,rfl,rfl,_,rfl,?_⟩⟩;rw [lo];refine aW (fun hc=>?_) fun hc=>?_
  ·have:=of_decide_eq_true hc;exact q.no A s1 (by rw [bN,if_pos (by lia)])
  have ZI:=of_decide_eq_false hc;rw [if_neg (by lia)] at bN;have ZI:s.ones.length<=rt.size:=by lia
  have n1:=s1.seq C.num;have EK:=s1 _ _ HQ;refine ⟨_,rfl,na,_,_,_,rfl,rfl,n1,rfl,_,rfl,na,_,_,_,rfl,rfl,n1,rfl,_,rfl,na,_,_,_,rfl,rfl,n1,rfl,_,rfl,na,_,_,_,rfl,rfl,n1,rfl,_,rfl,na,_,_,_,rfl,rfl,n1,rfl,_,rfl,ra,_,_,_,rfl,rfl,aH.of EK,at_of (j:=0) rfl J4,?_⟩;intro qa UI Wu YW ach;refine ⟨qa,UI,_,_,_,_,_,_,rfl,ah,fun H2 YX abP=>⟨rfl,?_⟩⟩;have s2:au H1 H2:=au.made Wu YW abP
  have Ob:=s1.trans s2;refine ⟨_,rfl,_,rfl,_,rfl,na,_,_,_,rfl,rfl,Ob.seq C.num,rfl,?_⟩;intro d Rl O9 Ws abO;refine ⟨d,Rl,_,rfl,ah,fun H3 ZZ k_d=>⟨rfl,?_⟩⟩;have s3:au H2 H3:=au.made O9 Ws k_d
  have s03:=Ob.trans s3;have hD:bw ad H3 d x':=⟨Rl,ZZ⟩;have A2:=A1.mono s2;have A3:=A2.Wr (D:=d) O9 s3 ZZ rfl;have hRa:jB ad (Out (Ar.N ad {r with av:=d::r.av}) H3) qa rt:=by
   have hq2:qa∉Ar.N ad {r with av:=d::r.av}:=fun y=>by
    rcases List.mem_append.mp y with y|y
    ·exact A1.fresh Wu (List.mem_append_left _ y)
    ·rcases List.mem_cons.mp y with y|y
     ·exact aw YX O9 y
     ·exact A1.fresh Wu (List.mem_append_right _ y)
   refine ⟨rp,⟨UI,bL hq2 (s3 _ _ YX)⟩,?_⟩;rw [<-ews];refine bL (fun y=>?_) (s03 _ _ Wt);rcases List.mem_append.mp y with y|y
   ·exact dn Fp (List.mem_append_left _ y)
   ·rcases List.mem_cons.mp y with y|y
    ·exact aw (Ob _ _ Wt) O9 y
    ·exact dn Fp (List.mem_append_right _ y)
  have nn:=S.none_ WX;refine ⟨r,v,s,rt,qa,d,x',rfl,A3,WX,R,S.W,S.pl,S.pL,S.O,ZI,nn.2.2.1,nn.2.1,hRa,hD,x1,x2,fun H4 Kh k4 A4=>?_⟩;have Gb:=EW (x:=x') C.G WX R hpn ZI x1 x2;generalize hb:begun v s rt x'=s' at bN A4 Gb;obtain ⟨ol4,ho4,lo4⟩:=A4.count;obtain ⟨yS,Yx,rb4⟩:=A4.HK;have h1b:=Gb.bests;have h2b:=M8 Gb.b3;have k04:Kp (r.M ad) H H4:=fun b o e n=>k4 b o (s03 _ _ e) fun y=>by
   rcases List.mem_cons.mp y with y|y
   ·rw [y,Ob.free O9] at e;cases e
   ·exact n y
  rw [bN] at q;refine ⟨_,rfl,aM T A4.ins ⟨r.bl,_,rfl,.inl (aH.of ho4),_,rfl,dU T A4.ins ⟨((s'.ones.length:Nat):Int),r.bs,yS,s'.bests.map Vbapah.ints,by rw [lo4];rfl,Yx,(rb4.mono aA).ints,by rw [List.length_map];lia,fun H5 p hp s5 h5=>?_⟩⟩⟩;have fresh:H p=none:=by
   cases hz:H p with
   |none=>rfl
   |some o=>
    have hN:p∉r.M ad:=fun y=>A4.fresh hp (List.mem_append_left _ (by
     unfold Ar.M at y ⊢;simp only [List.mem_cons] at y ⊢;rcases y with h|h|h|h|h|h
     ·exact .inl h
     ·exact .inr (.inl h)
     ·exact .inr (.inr (.inl h))
     ·exact .inr (.inr (.inr (.inl h)))
     ·exact .inr (.inr (.inr (.inr (.inl h))))
     ·have z:=A.rat;rw [WX] at z;rw [z.2] at h;cases h))
    rw [k04 p o hz hN] at hp;cases hp
  refine q H5 {r with ra:= .ref qa,dr:=some d,rw:=Kh} p ⟨rfl,rfl⟩ (A4.mono s5) (fun m hm=>?_) (k04.trans (Kp.of s5)) fresh h5;unfold Ar.M at hm ⊢;simp only [List.mem_cons,Option.toList_some,List.not_mem_nil,or_false] at hm ⊢;rcases hm with h|h|h|h|h|h
  ·exact .inl (.inl h)
  ·exact .inl (.inr (.inl h))
  ·exact .inl (.inr (.inr (.inl h)))
  ·exact .inl (.inr (.inr (.inr (.inl h))))
  ·exact .inl (.inr (.inr (.inr (.inr (.inl h)))))
  ·rw [h];exact .inr (Ob.free O9)
abbrev Cm (K:PySem.W.Frag) (ad:Ad):Sp:=M3 K ad fun ns rs k=>∃ z,ns=[z]/\rs=[]/\k=.breed z
theorem Rm {xs:List V} {k m:Nat} (h:xs.length=m+k) (hk:0<k):r6 xs (some (-(k:Int))) none=xs.drop m:=by
 unfold r6;rw [HT.xo];have e:HT.Ii xs.length 0 (some (-(k:Int)))=m:=by
  show (if (-(k:Int))<0 then (-(k:Int)+(xs.length:Int)).toNat else min (-(k:Int)).toNat xs.length)=m;rw [if_pos (by lia),h]
  lia
 rw [e,List.take_of_length_le (by rw [List.length_drop];exact Nat.le_refl _)]
theorem Cn (T:Tx P w K mg base ad):Ok T 13 ad.iu ad.eO ["arena","numbers","rows"] Cm:=by
 refine T.lS.ok qT (fun vs H Q E h=>?_) (fun nd bB A outer s H vs Q E hr h=>?_)
 ·obtain ⟨r,v,s,na,ra,ns,rs,k,rfl,_⟩:=h;rfl
 ·obtain ⟨r,v,s,na,ra,ns,rs,k,rfl,C,⟨z,rfl,rfl,rfl⟩,q⟩:=h;refine ⟨_,(aa (aZ (cK (bx (eC (iU T) hr T.g6 (bj (pv 0))))) (ae (aq (aE (bj (ay rfl T.ny))))) aJ)
   (aa (aZ (cK (bx (eC (aK T) hr T.aP (fY (xL K (pv 1) ab) ab ab)))) (ae (aq (aE (bj (ay rfl T.gK))))) aJ)
   (aa (aZ (aS GP (eC (EE T) hr T.vV (ie (pv 0) (xL K (pv 1) ab))) (ay rfl T.tZ)) (ae (aq (aE (bj (ay rfl T.j6))))) aJ)
   (aa (jc PassesOwn.never rfl (fO rfl T.d9 (bj (xL K (pv 1) ab))) (gN 3 nd) (ae (bH (eC (uV T) hr T.lO (bj (pv 0))))))
   (ae (aq (eC (bo T) hr T.bt (ie (aF K (pv 0)) (ck (KJ K) (aF K (pv 0)) (cB (GN zr (xL K (pv 1) ab))) dX))))))))),?_⟩
  have A:=C.A;have S:=C.G.S;have bN:Vbapah.step s (.breed z)=(match s.rates with
   |none=>Vbapah.no s (-4)
   |some rt=>if Vbapah.inside z 1 10=false then Vbapah.no s (-1) else if Vbapah.MOST<s.ones.length+z.toNat*(rt.islands*(rt.size-rt.elite)) then Vbapah.no s (-8) else
     (Vbapah.bredTimes z.toNat s,⟨((Vbapah.bredTimes z.toNat s).gen:Nat),((Vbapah.bredTimes z.toNat s).bests.drop s.bests.length).map Vbapah.ints⟩)):=ww S.world
  refine ⟨_,rfl,r,v,s,rfl,A,_,rfl,?_⟩;cases mi:s.rates with
  |none=>
   rw [mi] at bN;exact q.no A (au.refl H) bN
  |some rt=>
  refine Gg ?_;rw [mi] at bN;have bN:Vbapah.step s (.breed z)=if Vbapah.inside z 1 10=false then Vbapah.no s (-1) else if Vbapah.MOST<s.ones.length+z.toNat*(rt.islands*(rt.size-rt.elite)) then Vbapah.no s (-8) else
     (Vbapah.bredTimes z.toNat s,⟨((Vbapah.bredTimes z.toNat s).gen:Nat),((Vbapah.bredTimes z.toNat s).bests.drop s.bests.length).map Vbapah.ints⟩):=bN
  refine ⟨_,rfl,na,_,_,_,rfl,rfl,C.num,rfl,_,_,_,rfl,_,rfl,?_⟩
  change if (!bW z 1 10)=true then _ else _
  cases hz:bW z 1 10 with
  |false=>
   exact q.no A (au.refl H) (by rw [bN,if_pos (show Vbapah.inside z 1 10=false from hz)])
  |true=>
  refine Gg ?_;rw [if_neg (by rw [show Vbapah.inside z 1 10=bW z 1 10 from rfl,hz];exact Bool.noConfusion)] at bN;unfold bW at hz;rw [Bool.and_eq_true,decide_eq_true_eq,decide_eq_true_eq] at hz;obtain ⟨k,rfl⟩:∃ n:Nat,z=(n:Int):=⟨z.toNat,by lia⟩;rw [Int.toNat_natCast] at bN;have B:=S.qD rt mi;refine ⟨_,rfl,_,rfl,na,_,_,_,rfl,rfl,C.num,rfl,r,v,s,rt,k,rfl,A,mi,B.R,by lia,_,_,rfl,rfl,_,rfl,?_⟩;refine aW (fun hc=>?_) fun hc=>?_
  ·have:=of_decide_eq_true hc;exact q.no A (au.refl H) (by rw [bN,if_pos (by show 300<_;lia)])
  have hle:=of_decide_eq_false hc;rw [if_neg (by show ¬ 300<_;lia)] at bN;have hle:s.ones.length+k*(rt.islands*(rt.size-rt.elite))<=300:=by lia
  have Z0:=aA _ _ C.nm;have nNa:na∉r.M ad:=fun y=>dn C.nm (List.mem_append_left _ y)
  refine ⟨_,rfl,na,_,_,_,rfl,rfl,C.num,rfl,_,rfl,by lia,by lia,?_⟩;rw [Int.toNat_natCast];have mono:∀ i,i<=k->s.ones.length+i*(rt.islands*(rt.size-rt.elite))<=300:=fun i hi=>by
   have:=Nat.mul_le_mul_right (rt.islands*(rt.size-rt.elite)) hi
   lia
  refine uE (lo:=0) (n:=k) (fun i σ H2=>(∃ u,σ=[some (.ref r.a),some (.ref na),some (.ref ra),u])/\Kp (r.M ad) H H2/\∃ Kh,ag K ad H2 {r with rw:=Kh} v (Vbapah.bredTimes i s)) ⟨⟨_,rfl⟩,Kp.refl _ _,r.rw,A⟩ ?_ ?_
  ·rintro i σ H2 hi ⟨⟨u,rfl⟩,k2,Z1,A2⟩;obtain ⟨g1,g2,g3,_,_⟩:=iW C.G mi i (mono i (by lia));have h5:=g1.bests;have h6:=mono (i+1) (by lia);rw [Nat.add_mul,Nat.one_mul] at h6;refine ⟨_,rfl,{r with rw:=Z1},v,_,rt,rfl,A2,g1.S,g2,by lia,by lia,fun H3 rw3 k3 A3=>⟨⟨_,rfl⟩,k2.trans k3,rw3,?_⟩⟩;rw [lu];exact A3
  ·rintro σ H2 ⟨⟨u,rfl⟩,k2,Z1,A2⟩;obtain ⟨g1,g2,g3,g4,m,g5⟩:=iW C.G mi k hle;rw [bN] at q;generalize hu:Vbapah.bredTimes k s=s' at A2 g1 g2 g3 g4 g5 q;obtain ⟨as,hb,rb⟩:=A2.HK;have lb:(as.map V.ref).length=s.bests.length+k:=by rw [List.length_map,rb.length];exact g4
   have abQ:aH K H2 na (vI [(k:Int)]):=aH.of (k2 _ _ Z0 nNa);refine ⟨_,rfl,cA T A2.ins ⟨_,rfl,dU T A2.ins ⟨_,rfl,na,_,_,_,rfl,rfl,abQ,rfl,_,rfl,_,rfl,wW (aH.of hb) fun pb H3 hpb s3 h3=>?_⟩⟩⟩;rw [Rm lb (by lia), <-List.map_drop] at h3;have hs:=M8 (ls:=s'.bests.drop s.bests.length) fun l hl=>g1.b3 l (List.mem_of_mem_drop hl)
   have hg:=g1.bests;refine ⟨_,pb,as.drop s.bests.length,(s'.bests.drop s.bests.length).map Vbapah.ints,rfl,h3,?_,?_,fun H4 p hp s4 h4=>?_⟩
   ·have z:gX (Out (Ar.N ad {r with rw:=Z1}) H2) (as.drop s.bests.length) (s'.bests.drop s.bests.length):=Paired.dr _ rb;exact ((z.mono aA).mono s3).ints
   ·rw [List.length_map,List.length_drop] at *
    lia
   ·have YY:=s3.trans s4;have Uv:H2 p=none:=s3.free hp;have fresh:H p=none:=by
     cases hz:H p with
     |none=>rfl
     |some o=>
      have hN:p∉r.M ad:=fun y=>A2.fresh Uv (List.mem_append_left _ y)
      rw [k2 p o hz hN] at Uv;cases Uv
    exact q H4 {r with rw:=Z1} p ⟨rfl,rfl⟩ (A2.mono YY) (fun m hm=>.inl hm) (k2.trans (Kp.of YY)) fresh h4
end
theorem Oc {α:Type} [BEq α] [LawfulBEq α]:∀ (n:Nat) (l:List α),l.length<=n->l.eraseDups.Nodup
 |_,[],_=>List.nodup_nil
 |0,a::l,h=>by simp at h
 |n+1,a::l,h=>by
  rw [List.eraseDups_cons];refine List.nodup_cons.mpr ⟨fun hm=>?_,Oc n _ ?_⟩
  ·rw [List.mem_eraseDups,List.mem_filter] at hm;simp at hm
  ·rw [List.length_cons] at h;exact Nat.le_trans (List.length_filter_le _ _) (by lia)
theorem Ll {α:Type} [BEq α] [LawfulBEq α] {l ks:List α} (nd:ks.Nodup) (h:∀ z,z∈ks↔z∈l):ks.length=l.eraseDups.length:=
 ((List.perm_ext_iff_of_nodup nd (Oc _ l (Nat.le_refl _))).mpr fun z=>by rw [h z,List.mem_eraseDups]).length_eq
theorem y4 {α:Type} [BEq α] [LawfulBEq α] (l:List α):l.eraseDups.length<=l.length:=by
 have:∀ (n:Nat) (l:List α),l.length<=n->l.eraseDups.length<=l.length:=by
  intro n
  induction n with
  |zero=>
   intro l h;rw [List.length_eq_zero_iff.mp (Nat.le_zero.mp h)];exact Nat.le_refl _
  |succ n ih=>
   intro l h;cases l with
   |nil=>exact Nat.le_refl _
   |cons a l=>
    rw [List.eraseDups_cons,List.length_cons,List.length_cons];rw [List.length_cons] at h;have h1:=List.length_filter_le (fun b=> !b==a) l;have h2:=ih (l.filter fun b=> !b==a) (by lia)
    lia
 exact this _ l (Nat.le_refl _)
def cnt (l:List Vbapah.Program) (p:Vbapah.Program):Nat:=(l.filter fun q=>q==p).length
theorem Rn (l:List Vbapah.Program) (p:Vbapah.Program):cnt (l++[p]) p=cnt l p+1:=by
 unfold cnt;rw [List.filter_append,List.length_append,List.filter_cons,if_pos (beq_self_eq_true p)];rfl
theorem Lm (l:List Vbapah.Program) {p q:Vbapah.Program} (h:¬ p=q):cnt (l++[p]) q=cnt l q:=by
 unfold cnt;rw [List.filter_append,List.length_append,List.filter_cons,if_neg (by rw [beq_iff_eq];exact h)];rfl
theorem cnt_none {l:List Vbapah.Program} {p:Vbapah.Program} (h:p∉l):cnt l p=0:=by
 unfold cnt;rw [List.filter_eq_nil_iff.mpr fun a ha=>by rw [beq_iff_eq];exact fun e=>h (e▸ha)];rfl
def Tt (t:FF):List Key:=[Sum.inl t.1,Sum.inl t.2.1,Sum.inl t.2.2]
def mC (p:Vbapah.Program):List (List Key):=(p.map hU).map Tt
theorem EX:∀ {p q:Vbapah.Program},mC p=mC q->p=q
 |[],[],_=>rfl
 |[],_::_,e=>by cases e
 |_::_,[],e=>by cases e
 |c::p,d::q,e=>by
  have e:Tt (hU c)::mC p=Tt (hU d)::mC q:=e;obtain ⟨e1,e2⟩:=List.cons.inj e;rw [EX e2]
  congr 1
  unfold Tt hU at e1;simp only [List.cons.injEq,Sum.inl.injEq,and_true] at e1;obtain ⟨o,a,b⟩:=c;obtain ⟨o',a',b'⟩:=d;dsimp only at e1;have h1:o=o':=by lia
  have h2:a=a':=by lia
  have h3:b=b':=by lia
  rw [h1,h2,h3]
def UE (K:PySem.W.Frag) (H:Hp) (done ks:List Vbapah.Program) (xs:NX):Prop:=Paired (fun (p:Vbapah.Program) x=>x.1=mC p/\uT K H (mC p) x.2.1/\RelV (.int ((cnt done p:Nat):Int)) x.2.2) ks xs
theorem UE.mono {K:PySem.W.Frag} {H H':Hp} {done ks:List Vbapah.Program} {xs:NX} (h:UE K H done ks xs) (s:au H H'):UE K H' done ks xs:=Paired.dw h fun _ _ z=>⟨z.1,z.2.1.mono s,z.2.2⟩
theorem UE.keys {K:PySem.W.Frag} {H:Hp} {done ks:List Vbapah.Program} {xs:NX} (h:UE K H done ks xs):∀ x∈xs,uT K H x.1 x.2.1:=by
 unfold UE at h
 induction h with
 |nil=>exact fun x hx=>(by cases hx)
 |cons h1 _ ih=>
  intro x hx;rcases List.mem_cons.mp hx with rfl|hx
  ·rw [h1.1];exact h1.2.1
  ·exact ih x hx
theorem UE.get {K:PySem.W.Frag} {H:Hp} {done ks:List Vbapah.Program} {xs:NX} (h:UE K H done ks xs) (p:Vbapah.Program):(p∈ks->∃ z,atKey xs (mC p)=some z/\RelV (.int ((cnt done p:Nat):Int)) z.2)/\(p∉ks->atKey xs (mC p)=none):=by
 unfold UE at h
 induction h with
 |nil=>exact ⟨fun h=>(by cases h),fun _=>rfl⟩
 |@cons q x ks xs h1 _ ih=>
  by_cases e:q=p
  ·subst e;have b:atKey (x::xs) (mC q)=some x.2:=by simp [atKey,List.find?_cons,h1.1]
   exact ⟨fun _=>⟨x.2,b,h1.2.2⟩,fun hn=>absurd (List.mem_cons_self ..) hn⟩
  ·have ne:¬ x.1=mC p:=fun z=>e (EX (h1.1.symm.trans z))
   have b:atKey (x::xs) (mC p)=atKey xs (mC p):=by simp [atKey,List.find?_cons,ne]
   rw [b];exact ⟨fun hm=>ih.1 ((List.mem_cons.mp hm).resolve_left fun z=>e z.symm),fun hn=>ih.2 fun z=>hn (List.mem_cons_of_mem _ z)⟩
theorem UE.put {K:PySem.W.Frag} {H:Hp} {done ks:List Vbapah.Program} {xs:NX} {p:Vbapah.Program} {b:Addr} {u:Value} (h:UE K H done ks xs) (nd:ks.Nodup) (hm:∀ z,z∈ks↔z∈done) (hb:uT K H (mC p) b) (hu:RelV (.int ((cnt done p:Nat)+1:Int)) u):
  ∃ YZ,UE K H (done++[p]) YZ (storedH xs (mC p) b u)/\YZ.Nodup/\∀ z,z∈YZ↔z∈done++[p]:=by
 have ec:((cnt (done++[p]) p:Nat):Int)=(cnt done p:Nat)+1:=by rw [Rn];rfl
 by_cases hp:p∈ks
 ·obtain ⟨z,e,_⟩:=(h.get p).1 hp;rw [storedH_old e];refine ⟨ks,?_,nd,fun z=>?_⟩
  ·clear e hm nd hp;unfold UE at h ⊢
   induction h with
   |nil=>exact .nil
   |@cons q x ks xs h1 _ ih=>
    rw [List.map_cons];refine .cons ?_ ih;unfold putAt;by_cases e:q=p
    ·subst e;rw [if_pos h1.1,ec];exact ⟨h1.1,h1.2.1,hu⟩
    ·rw [if_neg fun z=>e (EX (h1.1.symm.trans z)),Lm done (fun z=>e z.symm)];exact h1
  ·rw [hm z,List.mem_append,List.mem_singleton];exact ⟨.inl,fun q=>q.elim id fun e=>e▸(hm p).mp hp⟩
 ·rw [storedH_new ((h.get p).2 hp)];refine ⟨ks++[p],?_,?_,fun z=>?_⟩
  ·unfold UE at h ⊢;refine Paired.app ?_ (.cons ⟨rfl,hb,by rw [ec];exact hu⟩ .nil);have jf:∀ q∈ks,¬ p=q:=fun q hq e=>hp (e▸hq)
   clear hp nd hm
   induction h with
   |nil=>exact .nil
   |@cons q x ks xs h1 _ ih=>
    refine .cons ?_ (ih fun q hq=>jf q (List.mem_cons_of_mem _ hq));rw [Lm done (jf q (List.mem_cons_self ..))];exact h1
  ·rw [List.nodup_append];refine ⟨nd,List.nodup_cons.mpr ⟨fun h=>(by cases h),List.nodup_nil⟩,fun a ha c hc e=>?_⟩;rw [List.mem_singleton.mp hc] at e;exact hp (e▸ha)
  ·rw [List.mem_append,List.mem_append,hm z]
section
variable {P:Program} {w:World} {K:PySem.W.Frag} {mg:Str->Option Value} {base:Heap} {ad:Ad}
theorem Pa {H:Hp} {b:Addr} {cs:List Addr} {x:Vbapah.Program} (hb:H b=some (.tup (cs.map V.ref))) (h:gF K H cs (x.map hU)):uT K H (mC x) b:=by
 refine ⟨cs,hb,?_⟩;unfold mC;clear hb;generalize x.map hU=ts at h
 induction h with
 |nil=>exact .nil
 |cons h1 _ ih=>exact .cons h1 ih
abbrev Au (K:PySem.W.Frag) (ad:Ad):Sp:=M3 K ad fun ns rs k=>ns=[]/\rs=[]/\k=.unlike
theorem Av (T:Tx P w K mg base ad):Ok T 2 ad.gm ad.dP ["arena","numbers","rows"] Au:=by
 refine T.j4.ok oY (fun vs H Q E h=>?_) (fun nd bB A outer s H vs Q E hr h=>?_)
 ·obtain ⟨r,v,s,na,ra,ns,rs,k,rfl,_⟩:=h;rfl
 ·obtain ⟨r,v,s,na,ra,ns,rs,k,rfl,C,⟨rfl,rfl,rfl⟩,q⟩:=h;refine ⟨_,(aa (xu (i:=3) rfl nd rfl rfl rfl (DA K (eC (w8 T) hr T.nj (bj (pv 0)))) (own:=[("program",5)]) (bC (show kE ["arena","numbers","rows","living","times","program"] (af gI) _ [("program",5)]=true by decide+kernel)) (fun _ _ _ _ _=>gN 5 nd) (fun _ _ _ _ _=>cu) (fun _ _ _ _ _=>(je (Qy K) (by rfl) T.CM KH (bj (pv 5)))))
   (aa (sS 4 nd (S7 (P:=P) (w:=w)))
   (aa (jc PassesOwn.never rfl (DA K (pv 3)) (gN 5 nd) (ae (S9 (K:=K) (P:=P) (w:=w) hr (pv 4) (pv 5) (aB bh (QZ (K:=K) (P:=P) (w:=w) hr (pv 4) (pv 5) ab ⟨rfl,rfl,rfl,rfl⟩) ab) rfl)))
   (ae (aq (eC (bo T) hr T.bt (ie (cj (OZ (P:=P) (w:=w)) (by rfl) T.aX PySem.boot_len (bj (pv 4))) (aE (bj (iZ rfl nd (DA K (pv 3)) (own:=[("program",5)]) (bC (show kE ["arena","numbers","rows","living","times","program"] (af gI) _ [("program",5)]=true by decide+kernel)) (fun _ _ _ _ _=>gN 5 nd) (fun _ _ _ _ _=>cu) (fun _ _ _ _ _=>(S8 (K:=K) (P:=P) (w:=w) hr (pv 4) (pv 5) (fun _ _=>rfl))))))))))))),?_⟩
  have A:=C.A;have S:=C.G.S;have bN:Vbapah.step s .unlike=(s,⟨(((s.living.flatten.map (Vbapah.programAt s.ones)).eraseDups).length:Nat),[Vbapah.ints (s.living.flatten.map fun i=>((s.living.flatten.map (Vbapah.programAt s.ones)).filter fun p=>p==Vbapah.programAt s.ones i).length)]⟩):=ww S.world;obtain ⟨l3,Y0⟩:=S.live;have Px:s.living.flatten.length<=30:=Nat.le_trans (K6 fun l hl=>(Y0 l hl).2.1) (by lia);refine ⟨_,rfl,r,v,s,rfl,A,l3,fun l hl=>(Y0 l hl).2,fun H1 lp as hlp s1 h1 pr=>?_⟩;have e2:(s.living.flatten.map fun i=>((s.living.flatten.map (Vbapah.programAt s.ones)).filter fun p=>p==Vbapah.programAt s.ones i).length)=(s.living.flatten.map (Vbapah.programAt s.ones)).map (cnt (s.living.flatten.map (Vbapah.programAt s.ones))):=by
   rw [List.map_map];rfl
  rw [e2] at bN;have jP:(s.living.flatten.map (Vbapah.programAt s.ones)).length<=30:=by rw [List.length_map];exact Px
  generalize s.living.flatten.map (Vbapah.programAt s.ones)=iX at bN pr jP;have YF:as.length=iX.length:=pr.length;refine ⟨lp,rfl,⟨_,aH.of h1⟩,fun D hD=>?_⟩;refine Pt (xs:=as.map V.ref) hD (aT (by rw [List.length_map];lia)) (fun i acc H2=>∃ Tu:List Addr,acc=Tu.map V.ref/\au H1 H2/\Paired (fun b (x:Vbapah.Program)=>uT K H2 (mC x) b) Tu (iX.take i)) ⟨[],rfl,au.refl _,.nil⟩ (fun i acc H2 ⟨_,_,s2,_⟩=>aH.of (s2 _ _ h1)) ?_ ?_
  ·rintro i z acc H2 hi aR hlen hsz ⟨Tu,rfl,s2,rt⟩;obtain ⟨a,ha,rfl⟩:=fU hi;obtain ⟨x,hx,cs,QR,tr⟩:=Paired.at pr ha;have s3:=s2.trans aN;refine ⟨_,rfl,a,_,rfl,.inl ⟨aH.of (s3 _ _ QR),fun b hb=>?_⟩⟩;have nb:b≠D:=fun e=>by rw [e,aR] at hb;cases hb
   have s4:au H2 (upd H2 b (.tup (cs.map V.ref))):=au.laid hb;refine Eh.mk (s4 _ _ aR) hlen hsz ⟨Tu++[b],by rw [List.map_append];rfl,s2.trans (gE s4),?_⟩;rw [aG hx];refine Paired.app (Paired.dw rt fun _ _ z=>z.mono (gE s4)) (.cons (Pa (cs:=cs) (ma nb ah) (gF.mono tr (s2.trans (gE s4)))) .nil)
  ·rintro acc H2 aR hlen ⟨Tu,rfl,s2,rt⟩;rw [List.length_map,YF,List.take_of_length_le (Nat.le_refl _)] at rt;have WM:Paired (fun b (x:Vbapah.Program)=>uT K H2 (mC x) b) Tu iX:=Paired.dw rt fun _ _ z=>z.mono aN
   have htl:Tu.length=iX.length:=rt.length;have Ob:=s1.trans (s2.trans aN);intro d O9 RK;generalize e_d:upd H2 d _=H3;obtain ⟨s3,h3⟩:=aI O9 e_d;refine ⟨_,rfl,D,rfl,⟨_,aH.of (s3 _ _ aR)⟩,jC (K:=K) (a:=D) (xs:=Tu.map V.ref) (fun i σ H4=>(∃ u,σ=[some (.ref r.a),some (.ref na),some (.ref ra),some (.ref D),some (.ref d),u])/\au H2 (kO d H4)/\∃ ks xs,H4 d=some (DN P w d xs)/\UE K (kO d H4) (iX.take i) ks xs/\ks.Nodup/\∀ z,z∈ks↔z∈iX.take i)
    ⟨⟨_,rfl⟩,KY O9 s3,[],[],h3,.nil,List.nodup_nil,fun z=>⟨fun h=>(by cases h),fun h=>(by cases h)⟩⟩ (fun i σ H4 _ ⟨_,s4,_⟩=>aH.of (aN _ _ (s4 _ _ aR))) ?_ ?_⟩
   ·rintro i z σ H4 hi ⟨⟨u,rfl⟩,s4,ks,xs,h4,ue,Wq,hm⟩;obtain ⟨b,hb,rfl⟩:=fU hi;obtain ⟨x,hx,nx⟩:=Paired.at WM hb;have Z2:uT K (kO d H4) (mC x) b:=nx.mono s4;have Y1:=Z2.mono aN;have uk:=(ue.mono aN).keys;have MU:xs.length<sizeLine:=by
     have h1:ks.length=xs.length:=Paired.length ue;have h2:ks.length<=(iX.take i).length:=by
      rw [Ll Wq hm];exact y4 _
     rw [List.length_take] at h2;exact Nat.lt_of_le_of_lt (show xs.length<=1000 by lia) (by decide)
    have abR:∃ v,Uy ((atKey xs (mC x)).map (·.2)) (.int 0) v/\v=.int ((cnt (iX.take i) x:Nat):Int):=by
     by_cases hk:x∈ks
     ·obtain ⟨z,e,rv⟩:=(ue.get x).1 hk;rw [e];exact ⟨.int ((cnt (iX.take i) x:Nat):Int),rv,rfl⟩
     ·rw [(ue.get x).2 hk,cnt_none fun z=>hk ((hm x).mpr z)];exact ⟨.int 0,rfl,rfl⟩
    obtain ⟨v,hv,rfl⟩:=abR;refine ⟨_,rfl,d,xs,rfl,h4,_,rfl,xs,mC x,b,rfl,h4,RK,uk,Y1,_,hv,_,_,rfl,rfl,_,rfl,_,rfl,d,xs,mC x,b,rfl,rfl,h4,uk,Y1,MU,fun u' ru'=>?_⟩;obtain ⟨YZ,ue',nd',ZG⟩:=ue.put Wq hm Z2 ru';refine ⟨⟨_,rfl⟩,?_,YZ,_,ah,?_,nd',?_⟩
    ·rw [iR];exact s4
    ·rw [iR,aG hx];exact ue'
    ·rw [aG hx];exact ZG
   ·rintro σ H4 ⟨⟨u,rfl⟩,s4,ks,xs,h4,ue,Wq,hm⟩;rw [List.length_map,htl,List.take_of_length_le (Nat.le_refl _)] at ue hm;have hxl:xs.length=iX.eraseDups.length:=by rw [<-Ll Wq hm];exact (Paired.length ue).symm
    have hel:=y4 iX;have s04:au H H4:=Ob.trans (s4.trans aN);have UJ:=aN _ _ (s4 _ _ aR);refine ⟨_,rfl,d,xs,rfl,h4,RK,by lia,_,rfl,D,rfl,⟨_,aH.of UJ⟩,fun D2 hD2=>?_⟩;have uk:=(ue.mono aN).keys;refine Pt (xs:=Tu.map V.ref) hD2 (aT (by rw [List.length_map];lia)) (fun i acc H5=>acc=vN ((iX.take i).map (cnt iX))/\au H4 H5) ⟨rfl,au.refl _⟩ (fun i acc H5 ⟨_,s5⟩=>aH.of (s5 _ _ UJ)) ?_ ?_
    ·rintro i z acc H5 hi Od UK abS ⟨rfl,s5⟩;obtain ⟨b,hb,rfl⟩:=fU hi;obtain ⟨x,hx,nx⟩:=Paired.at WM hb;have s6:=s5.trans aN;have Z2:=(nx.mono s4).mono aN;obtain ⟨z,ez,rv⟩:=(ue.get x).1 ((hm x).mpr (List.mem_of_getElem? hx));refine ⟨_,rfl,_,rfl,d,rfl,xs,mC x,b,rfl,s6 _ _ h4,RK,fun y hy=>(uk y hy).mono s6,Z2.mono s6,z.2,.int ((cnt iX x:Nat):Int),by rw [ez];rfl,rv,Eh.mk Od UK abS ⟨?_,s5⟩⟩;rw [aG hx,List.map_append,cS];rfl
    ·rintro acc H5 Od UK ⟨rfl,s5⟩;rw [List.length_map,htl,List.take_of_length_le (Nat.le_refl _)] at Od;have YV:=s04.trans (s5.trans aN);refine ⟨(by show 1<=sizeLine;decide),?_⟩;intro p6 Wj;generalize Wk:upd H5 p6 _=H6;obtain ⟨s6,h6⟩:=aI Wj Wk
     refine ⟨((iX.eraseDups.length:Nat):Int),p6,[D2],[Vbapah.ints (iX.map (cnt iX))],by rw [hxl];rfl,h6,.cons ?_ .nil,?_,fun H7 p hp s7 h7=>?_⟩
     ·rw [gL];exact s6 _ _ Od
     ·show 1+((Vbapah.ints (iX.map (cnt iX))).length+0)<=_;rw [dW,List.length_map]
      lia
     ·exact q.keep A bN H7 p ((YV.trans s6).free hp) ((YV.trans s6).trans s7) h7
end
theorem y6 {v:Vbapah.World} (W:sA v) {p:List Int} {x:Vbapah.Program} (h:Vbapah.programOf v p=some x):rT v x:=by
 have e:=Qu W p;rw [h] at e;obtain ⟨y,e1,_,e3,_⟩:=bZ W e;rw [h] at e1;cases e1;exact e3
theorem Pb {v:Vbapah.World} {s:Vbapah.State} (G:Good v s):∀ k:Vbapah.Call,(∀ n h r d l q,k≠.new n h r d l q)->Good v (Vbapah.step s k).1
 | .new _ _ _ _ _ _,h=>(h _ _ _ _ _ _ rfl).elim
 | .panel p,_=>by
  show Good v (Vbapah.withWorld s _).1;rw [ww G.S.world]
  try dsimp only
  split
  ·exact G
  ·rename_i h1;split
   ·exact G
   ·rename_i x hx;split
    ·exact G
    ·have S:=G.S;have hr:s.rates=none:=by
      cases e:s.rates with
      |none=>rfl
      |some _=>exact absurd (.inl (by rw [e];rfl)) h1
     refine ⟨⟨S.world,S.W,fun y hy=>?_,?_,S.O,S.ol,S.none_,fun rt e=>?_⟩,G.g,G.rc,G.b3⟩
     ·rcases List.mem_append.mp hy with h|h
      ·exact S.pL y h
      ·rw [List.mem_singleton.mp h];exact y6 S.W hx
     ·show (s.panel++[x]).length<=4;rw [List.length_append,List.length_singleton]
      lia
     ·have e:s.rates=some rt:=e;rw [hr] at e;cases e
 | .first p,_=>by
  show Good v (Vbapah.withWorld s _).1;rw [ww G.S.world]
  try dsimp only
  split
  ·exact G
  ·rename_i h1;split
   ·exact G
   ·rename_i x hx;split
    ·exact G
    ·rename_i ZC;have S:=G.S;have hr:s.rates=none:=by
      cases e:s.rates with
      |none=>rfl
      |some _=>exact absurd (by rw [e];rfl) h1
     obtain ⟨n1,n2,n3,n4,n5⟩:=S.none_ hr;refine ⟨⟨S.world,S.W,S.pL,S.pl,S.O.snoc (y6 S.W hx) (fun p q e=>(by cases e)),?_,fun _=>⟨n1,n2,n3,n4,?_⟩,fun rt e=>?_⟩,?_,fun o ho=>?_,G.b3⟩
     ·show (s.ones++[_]).length<=300;rw [List.length_append,List.length_singleton]
      lia
     ·show (s.ones++[_]).length<=10;rw [List.length_append,List.length_singleton]
      lia
     ·have e:s.rates=some rt:=e;rw [hr] at e;cases e
     ·show s.gen<=(s.ones++[_]).length
      lia
     ·rcases List.mem_append.mp ho with h|h
      ·exact G.rc o h
      ·rw [List.mem_singleton.mp h];exact Nat.zero_le _
 | .begin_ x i z e p y ws,_=>by
  rw [EU G.S.world];split
  ·exact G
  ·rename_i h1;split
   ·exact G
   ·rename_i h2;split
    ·exact G
    ·rename_i h3;split
     ·exact G
     ·rename_i h4;have hr:s.rates=none:=by
       cases e:s.rates with
       |none=>rfl
       |some _=>exact absurd (by rw [e];rfl) h1
      cases hk:nF x i z e p y ws with
      |false=>exact absurd (BG hk) h2
      |true=>
       obtain ⟨_,x',rt,rfl,rfl,rfl,rfl,rfl,rfl,_,ewn,R,x1,x2⟩:=EV hk;simp only [Int.toNat_natCast,ewn] at h4 ⊢;exact EW G hr R h3 (by show s.ones.length<=rt.size;lia) x1 x2
 | .breed z,_=>by
  show Good v (Vbapah.withWorld s _).1;rw [ww G.S.world]
  try dsimp only
  split
  ·exact G
  ·rename_i rt mi;split
   ·exact G
   ·split
    ·exact G
    ·rename_i h;exact (iW G mi _ (by have h:¬ 300<_:=h;lia)).1
 | .living i,_=>by
  show Good v (Vbapah.withWorld s _).1;rw [ww G.S.world]
  try dsimp only
  split
  ·exact G
  ·split<;>exact G
 | .one i,_=>by
  show Good v (Vbapah.withWorld s _).1;rw [ww G.S.world]
  try dsimp only
  split<;>exact G
 | .tree i,_=>by
  show Good v (Vbapah.withWorld s _).1;rw [ww G.S.world]
  try dsimp only
  split<;>exact G
 | .common i j,_=>by
  show Good v (Vbapah.withWorld s _).1;rw [ww G.S.world]
  try dsimp only
  split<;>exact G
 | .score p,_=>by
  show Good v (Vbapah.withWorld s _).1;rw [ww G.S.world]
  try dsimp only
  split<;>exact G
 | .game a f p q,_=>by
  show Good v (Vbapah.withWorld s _).1;rw [ww G.S.world]
  try dsimp only
  split
  ·exact G
  ·split<;>exact G
 | .change k r p q,_=>by
  show Good v (Vbapah.withWorld s _).1;rw [ww G.S.world]
  try dsimp only
  split
  ·exact G
  ·split<;>exact G
 | .apart p q,_=>by
  show Good v (Vbapah.withWorld s _).1;rw [ww G.S.world]
  try dsimp only
  split<;>exact G
 | .draws x m k,_=>by rw [ET];exact G
 | .bests,_=>by
  show Good v (Vbapah.withWorld s _).1;rw [ww G.S.world];exact G
 | .unlike,_=>by
  show Good v (Vbapah.withWorld s _).1;rw [ww G.S.world];exact G
 | .counts,_=>by
  show Good v (Vbapah.withWorld s _).1;rw [ww G.S.world];exact G
theorem Ln {v:Vbapah.World} (W:sA v):Good v {Vbapah.start with world:=some v}:=
 ⟨⟨rfl,W,fun _ h=>(by cases h),Nat.zero_le _,Fo.nil v,Nat.zero_le _,fun _=>⟨rfl,rfl,rfl,rfl,Nat.zero_le _⟩,fun rt e=>(by cases e)⟩,Nat.le_refl _,fun _ h=>(by cases h),fun _ h=>(by cases h)⟩
theorem wn {s:Vbapah.State} {f:Vbapah.World->Vbapah.State×Vbapah.Ans} (h:s.world=none):Vbapah.withWorld s f=Vbapah.no s (-2):=by
 unfold Vbapah.withWorld;rw [h]
def shapes:List (Nat×Nat):=[(6,0),(0,1),(0,1),(6,1),(1,0),(1,0),(1,0),(1,0),(2,0),(0,1),(2,2),(1,3),(0,2),(3,0),(0,0),(0,0),(0,0)]
section
variable {P:Program} {w:World} {K:PySem.W.Frag} {mg:Str->Option Value} {base:Heap} {ad:Ad}
def bA (K:PySem.W.Frag) (ad:Ad) (H:Hp) (ln:Addr) (av:List Addr) (s:Vbapah.State) (M:List Addr):Prop:=match s.world with
 |none=>s=Vbapah.start/\ee ad H ln .cx/\Ground ad H ln av/\M=[ad.tb]
 |some v=>∃ r:Ar,r.av=av/\ln∈av/\ee ad H ln (.ref r.a)/\ag K ad H r v s/\Good v s/\M=r.M ad
theorem bA.qD {H:Hp} {ln:Addr} {av:List Addr} {s:Vbapah.State} {v:Vbapah.World} {r:Ar} (h1:r.av=av) (h2:ln∈av) (h3:ee ad H ln (.ref r.a)) (h4:ag K ad H r v s) (h5:Good v s):bA K ad H ln av s (r.M ad):=by
 unfold bA;rw [h5.S.world];exact ⟨r,h1,h2,h3,h4,h5,rfl⟩
theorem post_of {H:Hp} {ln:Addr} {av:List Addr} {r:Ar} {v:Vbapah.World} {s:Vbapah.State} {Q:VK} {k:Vbapah.Call} (A:ag K ad H r v s) (G:Good v s) (hL:ee ad H ln (.ref r.a)) (Fq:r.av=av) (J5:ln∈av) (hk:∀ n h r d l q,k≠.new n h r d l q)
  (q:∀ H' M' p,bA K ad H' ln av (Vbapah.step s k).1 M'->(∀ m∈M',m∈r.M ad∨H m=none)->Kp (ln::r.M ad) H H'->H p=none->um H' p (VbapahNeutral.flatAns (Vbapah.step s k).2)->Q (.ref p) H'):jN K ad H r v Q (Vbapah.step s k).1 (VbapahNeutral.flatAns (Vbapah.step s k).2):=by
 rintro H' r' p ⟨e1,e2⟩ A' hM hK hp h';refine q H' (r'.M ad) p (bA.qD (by rw [e1,Fq]) J5 ?_ A' (Pb G k hk)) hM (hK.mono fun z hz=>List.mem_cons_of_mem _ hz) hp h';obtain ⟨dx,e⟩:=hL;rw [e2];exact ⟨dx,hK _ _ e fun z=>A.VU (Fq▸J5) z rfl⟩
theorem Ro {c k:Int} {A B:Prop} (h1:c=k->A) (h2:c≠k->B):if decide (V.int c=V.int k)=true then A else B:=by
 by_cases h:c=k
 ·rw [if_pos (decide_eq_true (by rw [h]))];exact h1 h
 ·rw [if_neg (by rw [decide_eq_true_iff,V.int.injEq];exact h)];exact h2 h
theorem nn {s:Vbapah.State} (k:Vbapah.Call) (e:Vbapah.step s k=Vbapah.no s (-2)):((Vbapah.step s k).1,VbapahNeutral.flatAns (Vbapah.step s k).2)=(s,[-2]):=congrArg (fun z:Vbapah.State×Vbapah.Ans=>(z.1,VbapahNeutral.flatAns z.2)) e
theorem Nf {H:Hp} {ln:Addr} {av M:List Addr} {s:Vbapah.State} {Q:VK} {k:Vbapah.Call} {z:Vbapah.State×List Int}
  (q:∀ H' M' p,bA K ad H' ln av z.1 M'->(∀ m∈M',m∈M∨H m=none)->Kp (ln::M) H H'->H p=none->um H' p z.2->Q (.ref p) H') (e:z=((Vbapah.step s k).1,VbapahNeutral.flatAns (Vbapah.step s k).2)):
  ∀ H' M' p,bA K ad H' ln av (Vbapah.step s k).1 M'->(∀ m∈M',m∈M∨H m=none)->Kp (ln::M) H H'->H p=none->um H' p (VbapahNeutral.flatAns (Vbapah.step s k).2)->Q (.ref p) H':=by
 rw [e] at q;exact q
def EY (K:PySem.W.Frag) (ad:Ad):Sp:=fun vs H Q _=>∃ (ln na ra:Addr) (c:Nat) (av M:List Addr) (s:Vbapah.State) (ns:List Int) (rs:List (List Int)),vs=[.ref ln,.int (c:Nat),.ref na,.ref ra]/\bA K ad H ln av s M/\Out (M++av) H na=some (.lst (vI ns))/\(∃ as,Out (M++av) H ra=some (.lst (as.map V.ref))/\nG (Out (M++av) H) as rs)/\
 c<=16/\(ns.length,rs.length)=shapes.getD c (0,0)/\∀ H' M' p,bA K ad H' ln av (VbapahNeutral.step s ((((c:Nat):Int)::ns)::rs)).1 M'->(∀ m∈M',m∈M∨H m=none)->Kp (ln::M) H H'->H p=none->um H' p (VbapahNeutral.step s ((((c:Nat):Int)::ns)::rs)).2->Q (.ref p) H'
theorem Pd {s:Vbapah.State} {ns:List Int} {rs:List (List Int)} (hs:s.world=none):∀ c:Nat,c<=16->(ns.length,rs.length)=shapes.getD c (0,0)->c≠0->c≠13->VbapahNeutral.step s ((((c:Nat):Int)::ns)::rs)=(s,[-2]):=by
  intro c hc e h0 mr
  match c,hc,e,h0,mr with
  |1,_,e,h0,mr=>
   obtain rfl:=List.length_eq_zero_iff.mp (wI e);obtain ⟨p0,rfl⟩:=jh (wJ e);exact nn (.panel p0) (wn hs)
  |2,_,e,h0,mr=>
   obtain rfl:=List.length_eq_zero_iff.mp (wI e);obtain ⟨p0,rfl⟩:=jh (wJ e);exact nn (.first p0) (wn hs)
  |3,_,e,h0,mr=>
   obtain ⟨x0,x1,x2,x3,x4,x5,rfl⟩:=Qt (wI e);obtain ⟨p0,rfl⟩:=jh (wJ e);exact nn (.begin_ x0 x1 x2 x3 x4 x5 p0) (wn hs)
  |4,_,e,h0,mr=>
   obtain ⟨x0,rfl⟩:=jh (wI e);obtain rfl:=List.length_eq_zero_iff.mp (wJ e);exact nn (.breed x0) (wn hs)
  |5,_,e,h0,mr=>
   obtain ⟨x0,rfl⟩:=jh (wI e);obtain rfl:=List.length_eq_zero_iff.mp (wJ e);exact nn (.living x0) (wn hs)
  |6,_,e,h0,mr=>
   obtain ⟨x0,rfl⟩:=jh (wI e);obtain rfl:=List.length_eq_zero_iff.mp (wJ e);exact nn (.one x0) (wn hs)
  |7,_,e,h0,mr=>
   obtain ⟨x0,rfl⟩:=jh (wI e);obtain rfl:=List.length_eq_zero_iff.mp (wJ e);exact nn (.tree x0) (wn hs)
  |8,_,e,h0,mr=>
   obtain ⟨x0,x1,rfl⟩:=BY (wI e);obtain rfl:=List.length_eq_zero_iff.mp (wJ e);exact nn (.common x0 x1) (wn hs)
  |9,_,e,h0,mr=>
   obtain rfl:=List.length_eq_zero_iff.mp (wI e);obtain ⟨p0,rfl⟩:=jh (wJ e);exact nn (.score p0) (wn hs)
  |10,_,e,h0,mr=>
   obtain ⟨x0,x1,rfl⟩:=BY (wI e);obtain ⟨p0,p1,rfl⟩:=BY (wJ e);exact nn (.game x0 x1 p0 p1) (wn hs)
  |11,_,e,h0,mr=>
   obtain ⟨x0,rfl⟩:=jh (wI e);obtain ⟨p0,p1,p2,rfl⟩:=Qs (wJ e);exact nn (.change x0 p0 p1 p2) (wn hs)
  |12,_,e,h0,mr=>
   obtain rfl:=List.length_eq_zero_iff.mp (wI e);obtain ⟨p0,p1,rfl⟩:=BY (wJ e);exact nn (.apart p0 p1) (wn hs)
  |14,_,e,h0,mr=>
   obtain rfl:=List.length_eq_zero_iff.mp (wI e);obtain rfl:=List.length_eq_zero_iff.mp (wJ e);exact nn (.bests) (wn hs)
  |15,_,e,h0,mr=>
   obtain rfl:=List.length_eq_zero_iff.mp (wI e);obtain rfl:=List.length_eq_zero_iff.mp (wJ e);exact nn (.unlike) (wn hs)
  |16,_,e,h0,mr=>
   obtain rfl:=List.length_eq_zero_iff.mp (wI e);obtain rfl:=List.length_eq_zero_iff.mp (wJ e);exact nn (.counts) (wn hs)
  |0,_,e,h0,mr=>exact absurd rfl h0
  |13,_,e,h0,mr=>exact absurd rfl mr
  |c+17,h,e,h0,mr=>lia
theorem bA.none_ {H:Hp} {ln:Addr} {av M:List Addr} {s:Vbapah.State} (h:bA K ad H ln av s M) (hs:s.world=none):s=Vbapah.start/\ee ad H ln .cx/\Ground ad H ln av/\M=[ad.tb]:=by
 unfold bA at h;rw [hs] at h;exact h
theorem bA.is {H:Hp} {ln:Addr} {av M:List Addr} {s:Vbapah.State} {v:Vbapah.World} (h:bA K ad H ln av s M) (hs:s.world=some v):∃ r:Ar,r.av=av/\ln∈av/\ee ad H ln (.ref r.a)/\ag K ad H r v s/\Good v s/\M=r.M ad:=by
 unfold bA at h;rw [hs] at h;exact h
theorem bA.ground {H:Hp} {ln:Addr} {av M:List Addr} {s:Vbapah.State} (h:bA K ad H ln av s M):Ground ad H ln av/\(∃ x,ee ad H ln x)/\ad.tb∈M:=by
 cases hs:s.world with
 |none=>
  obtain ⟨_,h1,h2,h3⟩:=h.none_ hs;exact ⟨h2,⟨_,h1⟩,by rw [h3];exact List.mem_singleton.mpr rfl⟩
 |some v=>
  obtain ⟨r,e1,e2,e3,A,_,e4⟩:=h.is hs;obtain ⟨ps,t1,t2⟩:=A.tab;refine ⟨⟨?_,?_,e2,ps,t1,t2.mono (Jc fun m hm=>?_)⟩,⟨_,e3⟩,by rw [e4];exact r.mT⟩
  ·have nd:(r.M ad++r.av).Nodup:=A.nd;rw [List.nodup_append] at nd;rw [e1] at nd;exact List.nodup_cons.mpr ⟨fun z=>nd.2.2 _ r.mT _ z rfl,nd.2.1⟩
  ·rw [<-e1];exact A.K3
  ·rcases List.mem_cons.mp hm with rfl|hm
   ·exact List.mem_append_left _ r.mT
   ·exact List.mem_append_right _ (by rw [e1];exact hm)
theorem bA.mono {H H':Hp} {ln:Addr} {av M:List Addr} {s:Vbapah.State} (h:bA K ad H ln av s M) (e:au H H'):bA K ad H' ln av s M:=by
 cases hs:s.world with
 |none=>
  obtain ⟨h1,h2,h3,h4⟩:=h.none_ hs;unfold bA;rw [hs];obtain ⟨ps,t1,t2⟩:=h3.tab;exact ⟨h1,h2.mono e,⟨h3.nd,fun m hm=>let ⟨o,a,b⟩:=h3.K3 m hm;⟨o,e _ _ a,b⟩,h3.ln,ps,e _ _ t1,t2.mono (bM (Kp.of e))⟩,h4⟩
 |some v=>
  obtain ⟨r,e1,e2,e3,A,G,e4⟩:=h.is hs;rw [e4];exact bA.qD e1 e2 (e3.mono e) (A.mono e) G
theorem EZ (T:Tx P w K mg base ad):Ok T 14 ad.Bp ad.fI ["line","call","numbers","rows"] EY:=by
 refine T.vX.ok tw (fun vs H Q E h=>?_) (fun nd bB A outer s H vs Q E hr h=>?_)
 ·obtain ⟨ln,na,ra,c,av,M,s,ns,rs,rfl,_⟩:=h;rfl
 ·obtain ⟨ln,na,ra,c,av,M,s,ns,rs,rfl,L,K9,pC,hc,e,q⟩:=h;refine ⟨_,(aa (aZ (aS du (pv 1) (ay rfl T.QF)) (ae (aq (eC (Gn T) hr T.yB (ie (pv 0) (pv 2))))) aJ)
   (aa (aZ (aS du (pv 1) (ay rfl T.IM)) (ae (aq (eC (Ci T) hr T.tO (bj (pv 2))))) aJ)
   (aa (aZ (aS U6 (aF K (pv 0)) CY) (ae (aq (aE (bj (ay rfl T.wR))))) aJ)
   (aa (sS 4 nd (Uh K (P:=P) (w:=w) (ay rfl T.ua) (pv 1) (fun _ _=>rfl)))
   (ae (aq (Qw 4 (fY (aF K (pv 0)) (pv 2) (pv 3))))))))),?_⟩
  obtain ⟨Gr,⟨x0,hL0⟩,Ji⟩:=L.ground;refine ⟨_,rfl,rfl,_,rfl,Ro (fun h0=>?_) fun h0=>⟨_,rfl,rfl,_,rfl,Ro (fun mr=>?_) fun mr=>?_⟩⟩
  ·obtain rfl:c=0:=by lia
   obtain ⟨e1,e2⟩:ns.length=6/\rs.length=0:=⟨congrArg Prod.fst e,congrArg Prod.snd e⟩;obtain ⟨Z3,x1,x2,x3,x4,x5,rfl⟩:=Qt e1;obtain rfl:=List.length_eq_zero_iff.mp e2;have e3:VbapahNeutral.step s ((((0:Nat):Int)::[Z3,x1,x2,x3,x4,x5])::[])=((Vbapah.step s (.new Z3 x1 x2 x3 x4 x5)).1,VbapahNeutral.flatAns (Vbapah.step s (.new Z3 x1 x2 x3 x4 x5)).2):=rfl;rw [e3] at q;refine ⟨_,rfl,_,rfl,ln,na,av,x0,s,Z3,x1,x2,x3,x4,x5,rfl,hL0,Gr,aH.of (aA _ _ K9),fun hb H' p hp s' h'=>?_,fun v W hv H' r' p Fq A' hL' hK hM hp h'=>?_⟩
   ·refine q H' M p ?_ (fun m hm=>.inl hm) (Kp.of s') hp h';rw [Oa hb];exact L.mono s'
   ·obtain ⟨rfl,rfl,rfl,rfl,rfl,rfl⟩:=hv;refine q H' (r'.M ad) p ?_ (fun m hm=>?_) (hK.mono fun z hz=>by rw [List.mem_singleton.mp hz];exact List.mem_cons_self ..) hp h'
    ·rw [Lk W];exact bA.qD Fq Gr.ln hL' A' (Ln W)
    ·rcases hM m hm with h|h
     ·rw [h];exact .inl Ji
     ·exact .inr h
  ·obtain rfl:c=13:=by lia
   obtain ⟨e1,e2⟩:ns.length=3/\rs.length=0:=⟨congrArg Prod.fst e,congrArg Prod.snd e⟩;obtain ⟨x,m,k,rfl⟩:=Qs e1;obtain rfl:=List.length_eq_zero_iff.mp e2;have e3:VbapahNeutral.step s ((((13:Nat):Int)::[x,m,k])::[])=((Vbapah.step s (.draws x m k)).1,VbapahNeutral.flatAns (Vbapah.step s (.draws x m k)).2):=rfl;rw [e3] at q;refine ⟨_,rfl,na,s,x,m,k,rfl,aA _ _ K9,fun H' p hp s' h'=>?_⟩;refine q H' M p ?_ (fun m hm=>.inl hm) (Kp.of s') hp h';rw [ET];exact L.mono s'
  have h0:c≠0:=fun z=>h0 (by rw [z];rfl)
  have mr:c≠13:=fun z=>mr (by rw [z];rfl)
  cases hs:s.world with
  |none=>
   obtain ⟨_,hL,_,_⟩:=L.none_ hs;rw [Pd hs c hc e h0 mr] at q;refine ⟨_,rfl,aU T hL ⟨rfl,_,rfl,?_⟩⟩;show [V.int (-2)].length<=sizeLine/\_;refine ⟨(by show 1<=sizeLine;decide),?_⟩;intro p mN;generalize B2:upd H p _=H1;obtain ⟨s1,h1⟩:=aI mN B2
   exact q H1 M p (L.mono s1) (fun m hm=>.inl hm) (Kp.of s1) mN ⟨h1,(by show 1<=100001;decide)⟩
  |some v=>
  obtain ⟨r,Fq,J5,hL,A,G,rfl⟩:=L.is hs;refine ⟨_,rfl,aU T hL ⟨rfl,_,rfl,?_⟩⟩;refine aW (fun h=>absurd (of_decide_eq_true h) (fun z=>by cases z)) fun _=>?_
  have C:uN K ad H r v s na ra ns rs:=⟨A,G,by unfold Ar.N;rw [Fq];exact K9,by unfold Ar.N;rw [Fq];exact pC⟩
  match c,hc,e,h0,mr with
  |1,_,e,h0,mr=>
   obtain rfl:=List.length_eq_zero_iff.mp (wI e);obtain ⟨p0,rfl⟩:=jh (wJ e);exact ⟨_,rfl,ad.bc,_,Sum.inl 1,V.ref ad.ik,rfl,T.bf,rfl,by rfl,ad.ik,rfl,T.lP.fn.kp,_,rfl,aU T hL ⟨_,rfl,_,rfl,_,_,_,_,B6 T,hr.mono (by decide),T.lP.bd,r,v,s,na,ra,[],[p0],.panel p0,rfl,C,⟨p0,rfl,rfl,rfl⟩,post_of C.A C.G hL Fq J5 (fun _ _ _ _ _ _ z=>by cases z) (Nf q rfl)⟩⟩
  |2,_,e,h0,mr=>
   obtain rfl:=List.length_eq_zero_iff.mp (wI e);obtain ⟨p0,rfl⟩:=jh (wJ e);exact ⟨_,rfl,ad.bc,_,Sum.inl 2,V.ref ad.ip,rfl,T.bf,rfl,by rfl,ad.ip,rfl,T.lQ.fn.kp,_,rfl,aU T hL ⟨_,rfl,_,rfl,_,_,_,_,B8 T,hr.mono (by decide),T.lQ.bd,r,v,s,na,ra,[],[p0],.first p0,rfl,C,⟨p0,rfl,rfl,rfl⟩,post_of C.A C.G hL Fq J5 (fun _ _ _ _ _ _ z=>by cases z) (Nf q rfl)⟩⟩
  |3,_,e,h0,mr=>
   obtain ⟨x0,x1,x2,x3,x4,x5,rfl⟩:=Qt (wI e);obtain ⟨p0,rfl⟩:=jh (wJ e);exact ⟨_,rfl,ad.bc,_,Sum.inl 3,V.ref ad.iq,rfl,T.bf,rfl,by rfl,ad.iq,rfl,T.lR.fn.kp,_,rfl,aU T hL ⟨_,rfl,_,rfl,_,_,_,_,Ck T,hr.mono (by decide),T.lR.bd,r,v,s,na,ra,[x0,x1,x2,x3,x4,x5],[p0],.begin_ x0 x1 x2 x3 x4 x5 p0,rfl,C,⟨x0,x1,x2,x3,x4,x5,p0,rfl,rfl,rfl⟩,post_of C.A C.G hL Fq J5 (fun _ _ _ _ _ _ z=>by cases z) (Nf q rfl)⟩⟩
  |4,_,e,h0,mr=>
   obtain ⟨x0,rfl⟩:=jh (wI e);obtain rfl:=List.length_eq_zero_iff.mp (wJ e);exact ⟨_,rfl,ad.bc,_,Sum.inl 4,V.ref ad.iu,rfl,T.bf,rfl,by rfl,ad.iu,rfl,T.lS.fn.kp,_,rfl,aU T hL ⟨_,rfl,_,rfl,_,_,_,_,Cn T,hr.mono (by decide),T.lS.bd,r,v,s,na,ra,[x0],[],.breed x0,rfl,C,⟨x0,rfl,rfl,rfl⟩,post_of C.A C.G hL Fq J5 (fun _ _ _ _ _ _ z=>by cases z) (Nf q rfl)⟩⟩
  |5,_,e,h0,mr=>
   obtain ⟨x0,rfl⟩:=jh (wI e);obtain rfl:=List.length_eq_zero_iff.mp (wJ e);exact ⟨_,rfl,ad.bc,_,Sum.inl 5,V.ref ad.gg,rfl,T.bf,rfl,by rfl,ad.gg,rfl,T.j0.fn.kp,_,rfl,aU T hL ⟨_,rfl,_,rfl,_,_,_,_,Aj T,hr.mono (by decide),T.j0.bd,r,v,s,na,ra,[x0],[],.living x0,rfl,C,⟨x0,rfl,rfl,rfl⟩,post_of C.A C.G hL Fq J5 (fun _ _ _ _ _ _ z=>by cases z) (Nf q rfl)⟩⟩
  |6,_,e,h0,mr=>
   obtain ⟨x0,rfl⟩:=jh (wI e);obtain rfl:=List.length_eq_zero_iff.mp (wJ e);exact ⟨_,rfl,ad.bc,_,Sum.inl 6,V.ref ad.lE,rfl,T.bf,rfl,by rfl,ad.lE,rfl,T.p9.fn.kp,_,rfl,aU T hL ⟨_,rfl,_,rfl,_,_,_,_,Gi T,hr.mono (by decide),T.p9.bd,r,v,s,na,ra,[x0],[],.one x0,rfl,C,⟨x0,rfl,rfl,rfl⟩,post_of C.A C.G hL Fq J5 (fun _ _ _ _ _ _ z=>by cases z) (Nf q rfl)⟩⟩
  |7,_,e,h0,mr=>
   obtain ⟨x0,rfl⟩:=jh (wI e);obtain rfl:=List.length_eq_zero_iff.mp (wJ e);exact ⟨_,rfl,ad.bc,_,Sum.inl 7,V.ref ad.jG,rfl,T.bf,rfl,by rfl,ad.jG,rfl,T.oe.fn.kp,_,rfl,aU T hL ⟨_,rfl,_,rfl,_,_,_,_,EM T,hr.mono (by decide),T.oe.bd,r,v,s,na,ra,[x0],[],.tree x0,rfl,C,⟨x0,rfl,rfl,rfl⟩,post_of C.A C.G hL Fq J5 (fun _ _ _ _ _ _ z=>by cases z) (Nf q rfl)⟩⟩
  |8,_,e,h0,mr=>
   obtain ⟨x0,x1,rfl⟩:=BY (wI e);obtain rfl:=List.length_eq_zero_iff.mp (wJ e);exact ⟨_,rfl,ad.bc,_,Sum.inl 8,V.ref ad.gh,rfl,T.bf,rfl,by rfl,ad.gh,rfl,T.j1.fn.kp,_,rfl,aU T hL ⟨_,rfl,_,rfl,_,_,_,_,Al T,hr.mono (by decide),T.j1.bd,r,v,s,na,ra,[x0,x1],[],.common x0 x1,rfl,C,⟨x0,x1,rfl,rfl,rfl⟩,post_of C.A C.G hL Fq J5 (fun _ _ _ _ _ _ z=>by cases z) (Nf q rfl)⟩⟩
  |9,_,e,h0,mr=>
   obtain rfl:=List.length_eq_zero_iff.mp (wI e);obtain ⟨p0,rfl⟩:=jh (wJ e);exact ⟨_,rfl,ad.bc,_,Sum.inl 9,V.ref ad.iw,rfl,T.bf,rfl,by rfl,ad.iw,rfl,T.lT.fn.kp,_,rfl,aU T hL ⟨_,rfl,_,rfl,_,_,_,_,Ca T,hr.mono (by decide),T.lT.bd,r,v,s,na,ra,[],[p0],.score p0,rfl,C,⟨p0,rfl,rfl,rfl⟩,post_of C.A C.G hL Fq J5 (fun _ _ _ _ _ _ z=>by cases z) (Nf q rfl)⟩⟩
  |10,_,e,h0,mr=>
   obtain ⟨x0,x1,rfl⟩:=BY (wI e);obtain ⟨p0,p1,rfl⟩:=BY (wJ e);exact ⟨_,rfl,ad.bc,_,Sum.inl 10,V.ref ad.jH,rfl,T.bf,rfl,by rfl,ad.jH,rfl,T.og.fn.kp,_,rfl,aU T hL ⟨_,rfl,_,rfl,_,_,_,_,ER T,hr.mono (by decide),T.og.bd,r,v,s,na,ra,[x0,x1],[p0,p1],.game x0 x1 p0 p1,rfl,C,⟨x0,x1,p0,p1,rfl,rfl,rfl⟩,post_of C.A C.G hL Fq J5 (fun _ _ _ _ _ _ z=>by cases z) (Nf q rfl)⟩⟩
  |11,_,e,h0,mr=>
   obtain ⟨x0,rfl⟩:=jh (wI e);obtain ⟨p0,p1,p2,rfl⟩:=Qs (wJ e);exact ⟨_,rfl,ad.bc,_,Sum.inl 11,V.ref ad.gk,rfl,T.bf,rfl,by rfl,ad.gk,rfl,T.j3.fn.kp,_,rfl,aU T hL ⟨_,rfl,_,rfl,_,_,_,_,Ao T,hr.mono (by decide),T.j3.bd,r,v,s,na,ra,[x0],[p0,p1,p2],.change x0 p0 p1 p2,rfl,C,⟨x0,p0,p1,p2,rfl,rfl,rfl⟩,post_of C.A C.G hL Fq J5 (fun _ _ _ _ _ _ z=>by cases z) (Nf q rfl)⟩⟩
  |12,_,e,h0,mr=>
   obtain rfl:=List.length_eq_zero_iff.mp (wI e);obtain ⟨p0,p1,rfl⟩:=BY (wJ e);exact ⟨_,rfl,ad.bc,_,Sum.inl 12,V.ref ad.iy,rfl,T.bf,rfl,by rfl,ad.iy,rfl,T.lU.fn.kp,_,rfl,aU T hL ⟨_,rfl,_,rfl,_,_,_,_,Cc T,hr.mono (by decide),T.lU.bd,r,v,s,na,ra,[],[p0,p1],.apart p0 p1,rfl,C,⟨p0,p1,rfl,rfl,rfl⟩,post_of C.A C.G hL Fq J5 (fun _ _ _ _ _ _ z=>by cases z) (Nf q rfl)⟩⟩
  |14,_,e,h0,mr=>
   obtain rfl:=List.length_eq_zero_iff.mp (wI e);obtain rfl:=List.length_eq_zero_iff.mp (wJ e);exact ⟨_,rfl,ad.bc,_,Sum.inl 14,V.ref ad.iz,rfl,T.bf,rfl,by rfl,ad.iz,rfl,T.lV.fn.kp,_,rfl,aU T hL ⟨_,rfl,_,rfl,_,_,_,_,Ce T,hr.mono (by decide),T.lV.bd,r,v,s,na,ra,[],[],.bests,rfl,C,⟨rfl,rfl,rfl⟩,post_of C.A C.G hL Fq J5 (fun _ _ _ _ _ _ z=>by cases z) (Nf q rfl)⟩⟩
  |15,_,e,h0,mr=>
   obtain rfl:=List.length_eq_zero_iff.mp (wI e);obtain rfl:=List.length_eq_zero_iff.mp (wJ e);exact ⟨_,rfl,ad.bc,_,Sum.inl 15,V.ref ad.gm,rfl,T.bf,rfl,by rfl,ad.gm,rfl,T.j4.fn.kp,_,rfl,aU T hL ⟨_,rfl,_,rfl,_,_,_,_,Av T,hr.mono (by decide),T.j4.bd,r,v,s,na,ra,[],[],.unlike,rfl,C,⟨rfl,rfl,rfl⟩,post_of C.A C.G hL Fq J5 (fun _ _ _ _ _ _ z=>by cases z) (Nf q rfl)⟩⟩
  |16,_,e,h0,mr=>
   obtain rfl:=List.length_eq_zero_iff.mp (wI e);obtain rfl:=List.length_eq_zero_iff.mp (wJ e);exact ⟨_,rfl,ad.bc,_,Sum.inl 16,V.ref ad.gn,rfl,T.bf,rfl,by rfl,ad.gn,rfl,T.j5.fn.kp,_,rfl,aU T hL ⟨_,rfl,_,rfl,_,_,_,_,Aq T,hr.mono (by decide),T.j5.bd,r,v,s,na,ra,[],[],.counts,rfl,C,⟨rfl,rfl,rfl⟩,post_of C.A C.G hL Fq J5 (fun _ _ _ _ _ _ z=>by cases z) (Nf q rfl)⟩⟩
  |0,_,e,h0,mr=>exact absurd rfl h0
  |13,_,e,h0,mr=>exact absurd rfl mr
  |c+17,h,e,h0,mr=>lia
end
def Nw (H H':Hp):Hp:=fun b=>match H b with
 |none=>H' b
 |some _=>none
theorem Oe {H H':Hp}:au (Nw H H') H':=fun b o e=>by
 unfold Nw at e;cases h:H b with
 |none=>rw [h] at e;exact e
 |some u=>rw [h] at e;cases e
theorem JH {H H':Hp} {b:Addr} {o:HO} (h:Nw H H' b=some o):H b=none:=by
 unfold Nw at h;cases e:H b with
 |none=>rfl
 |some u=>rw [e] at h;cases h
theorem Rp {H H':Hp} {b:Addr} {o:HO} (h:H b=none) (e:H' b=some o):Nw H H' b=some o:=by
 unfold Nw;rw [h];exact e
theorem Tv {H H1 H2:Hp} (s:au H1 H2):au (Nw H H1) (Nw H H2):=fun b o e=>Rp (JH e) (s _ _ (Oe _ _ e))
theorem Of {l:List Int} {a n:Nat} {z1 z2:Int} (e1:z1=((a:Nat):Int)) (e2:z2=((a+n:Nat):Int)) (h:a+n<=l.length):r6 (vI l) (some z1) (some z2)=vI ((l.drop a).take n):=by
 subst e1 e2;unfold r6;rw [HT.CF,HT.CF,br,Nat.min_eq_left h,Nat.min_eq_left (show a<=l.length by lia),Nat.add_sub_cancel_left];unfold vI;rw [List.map_take,List.map_drop]
section
variable {P:Program} {w:World} {K:PySem.W.Frag} {mg:Str->Option Value} {base:Heap} {ad:Ad}
def JI (K:PySem.W.Frag) (ad:Ad):Sp:=fun vs H Q _=>∃ (ca:Addr) (l:List Int) (a k:Nat) (xs:List (List Int)) (t:List Int),vs=[.ref ca,.int (a:Nat),.int (k:Nat)]/\aH K H ca (vI l)/\k<=1000/\PyFlat.rows k (l.drop a)=some (xs,t)/\
 ∀ H' p as,H p=none->au H H'->H' p=some (.lst (as.map V.ref))->nG (Nw H H') as xs->Q (.ref p) H'
theorem JJ (T:Tx P w K mg base ad):Ok T 1 ad.Hz ad.iN ["calls","at","how_many"] JI:=by
 refine T.By.ok yi (fun vs H Q E h=>?_) (fun nd bB A outer s H vs Q E hr h=>?_)
 ·obtain ⟨ca,l,a,k,xs,t,rfl,_⟩:=h;rfl
 ·obtain ⟨ca,l,a,k,xs,t,rfl,OW,hk,pC,q⟩:=h;refine ⟨_,(aa (sS 3 nd (aE ft))
   (aa (oA PassesOwn.never (aS GO (eL K T.aX (pv 3)) (pv 2)) (aa (sS 4 nd (aB bh (aB bh (pv 1) ab) (xL K (pv 0) (pv 1))))
   (aa (bH (hZ PySem.F.plainAttrs_list PySem.F.slot_list_append PySem.F.type_list_append cq (pv 3) (bj (ck (KJ K) (pv 0) (cB (aB bh (pv 1) ab)) (cB (pv 4))))))
   (ae (sS 1 nd (pv 4))))))
   (ae (aq (pv 3))))),?_⟩
  refine ⟨Nat.zero_le _,?_⟩;intro p mN;generalize B2:upd H p _=H1;obtain ⟨s1,h1⟩:=aI mN B2
  refine ⟨fun f σ H2=>(∃ (b:Nat) (u:Option V),σ=[some (.ref ca),some (.int (b:Nat)),some (.int (k:Nat)),some (.ref p),u]/\∃ (done rest:List (List Int)) (as:List Addr),done.length+f=k/\xs=done++rest/\PyFlat.rows f (l.drop b)=some (rest,t)/\au H H2/\H2 p=some (.lst (as.map V.ref))/\nG (kO p (Nw H H2)) as done),
   ⟨k,a,none,rfl,[],xs,[],Nat.zero_add _,rfl,pC,s1,h1,.nil⟩,?_⟩
  rintro f σ H2 ⟨b,u,rfl,done,rest,as,hf,hx,Wg,s2,h2,rr⟩;have hlen:(as.map V.ref).length=done.length:=by rw [List.length_map];exact rr.length
  refine ⟨_,rfl,p,_,rfl,.inl (aH.of h2),_,rfl,_,_,rfl,rfl,_,rfl,?_⟩;rw [hlen];refine aW (fun hc=>?_) fun hc=>?_
  ·have eW:=of_decide_eq_true hc;obtain ⟨f,rfl⟩:∃ g,f=g+1:=⟨f-1,by lia⟩;obtain ⟨x,s',ys,yT,hr3,rfl⟩:=zC Wg;obtain ⟨n,r',hd,hn,rfl,rfl⟩:=KD yT;have Ur:b<l.length:=by
    apply Classical.byContradiction;intro RN;rw [List.drop_eq_nil_of_le (by lia)] at hd;cases hd
   have hbn:l[b]? =some (n:Int):=by
    have:=congrArg (fun z:List Int=>z[0]?) hd;simpa using this
   have Pr:l.drop (b+1)=r':=by
    have:=congrArg (fun z:List Int=>z.drop 1) hd;simpa [List.drop_drop] using this
   have vd:b+1+n<=l.length:=by
    rw [<-Pr,List.length_drop] at hn
    lia
   have Y2:=s2.seq OW;refine ⟨fun σ' H'=>(∃ (b:Nat) (u:Option V),σ'=[some (.ref ca),some (.int (b:Nat)),some (.int (k:Nat)),some (.ref p),u]/\∃ (done rest:List (List Int)) (as:List Addr),done.length+f=k/\xs=done++rest/\PyFlat.rows f (l.drop b)=some (rest,t)/\au H H'/\H' p=some (.lst (as.map V.ref))/\nG (kO p (Nw H H')) as done),fun σ' H' z=>⟨f,by lia,z⟩,?_⟩;refine ⟨_,rfl,_,_,rfl,rfl,_,rfl,_,rfl,ca,_,_,_,rfl,rfl,Y2,KZ rfl hbn,_,_,rfl,rfl,?_⟩;refine ⟨_,rfl,.inl ⟨rfl,_,aH.of h2⟩,_,rfl,_,rfl,_,_,rfl,rfl,_,rfl,_,rfl,_,rfl,uc Y2 fun p3 H3 LN s3 h3=>?_⟩;rw [Of (a:=b+1) (n:=n) (by lia) (by lia) vd,Pr] at h3;have np:p3≠p:=fun z=>by rw [z,h2] at LN;cases LN
   refine ⟨p,_,_,rfl,rfl,s3 _ _ h2,by rw [hlen];exact Nat.lt_of_le_of_lt (show done.length<=1000 by lia) (by decide),?_⟩;generalize e4:upd H3 p _=H4;have h4:H4 p=some (.lst (as.map V.ref++[.ref p3])):=by rw [<-e4,ah]
   have s4:au H H4:=fun c o e=>by rw [<-e4,az (aw e mN)];exact s3 _ _ (s2 _ _ e)
   have YY:au (kO p (Nw H H3)) (kO p (Nw H H4)):=fun c o e=>by
    have xk:=QJ e;have e':=aN _ _ e;exact ma xk (Rp (JH e') (by rw [<-e4,az xk];exact Oe _ _ e'))
   refine ⟨_,rfl,b+1+n,some (.int (((b:Nat):Int)+1+(n:Nat))),?_,done++[r'.take n],ys,as++[p3],?_,?_,?_,s4,?_,?_⟩
   ·have eb:((b:Nat):Int)+1+(n:Nat)=((b+1+n:Nat):Int):=by lia
    show [some (V.ref ca),some (V.int (((b:Nat):Int)+1+(n:Nat))),some (V.int (k:Nat)),some (V.ref p),some (V.int (((b:Nat):Int)+1+(n:Nat)))]=_;rw [eb]
   ·rw [List.length_append,List.length_singleton]
    lia
   ·rw [hx,List.append_assoc];rfl
   ·rw [<-List.drop_drop,Pr];exact hr3
   ·rw [h4,List.map_append];rfl
   ·refine Paired.app ((rr.mono (gE (Tv s3))).mono YY) (.cons (YY _ _ (ma np (Rp (s2.free LN) h3))) .nil)
  ·have RN:=of_decide_eq_false hc;have f0:f=0:=by lia
   subst f0;have hz:([],l.drop b)=(rest,t):=Option.some.inj Wg;have hz1:[]=rest:=congrArg Prod.fst hz;subst hz1;rw [List.append_nil] at hx;subst hx;exact ⟨_,rfl,q H2 p as mN s2 h2 (rr.mono aN)⟩
def Co (K:PySem.W.Frag) (ad:Ad):Sp:=fun vs H Q _=>∃ (ra:Addr) (a:Nat) (as:List Addr) (rs:List (List Int)),vs=[.int (a:Nat),.ref ra]/\H ra=some (.lst (as.map V.ref))/\nG H as rs/\rs.length<=1000/\∀ H',au H H'->Q (.int ((a+(rs.length+(rs.map List.length).sum):Nat):Int)) H'
theorem Cp (T:Tx P w K mg base ad):Ok T 1 ad.yo ad.eU ["at","rows"] Co:=by
 refine T.tP.ok qY (fun vs H Q E h=>?_) (fun nd bB A outer s H vs Q E hr h=>?_)
 ·obtain ⟨ra,a,as,rs,rfl,_⟩:=h;rfl
 ·obtain ⟨ra,a,as,rs,rfl,ha,rr,hl,q⟩:=h;refine ⟨_,(ae (aq (aB bh (aB bh (pv 0) (eL K T.aX (pv 1))) (cj (Qz K) (by rfl) T.D9 Dy (bj (iZ rfl nd (DA K (pv 1)) (own:=[("row",2)]) (bC (show kE ["at","rows","row"] (af lz) _ [("row",2)]=true by decide+kernel)) (fun _ _ _ _ _=>gN 2 nd) (fun _ _ _ _ _=>cu) (fun _ _ _ _ _=>(eL K T.aX (pv 2))))))))),?_⟩;have hlen:(as.map V.ref).length=rs.length:=by rw [List.length_map];exact rr.length
  refine ⟨_,rfl,_,rfl,ra,_,rfl,.inl (aH.of ha),_,_,rfl,rfl,_,rfl,ra,rfl,⟨_,aH.of ha⟩,fun D hD=>?_⟩;refine Pt (xs:=as.map V.ref) hD (aT (by rw [hlen];lia)) (fun i acc H2=>acc=vN ((rs.take i).map List.length)/\au H H2) ⟨rfl,au.refl H⟩ (fun i acc H2 ⟨_,s2⟩=>aH.of (s2 _ _ ha)) ?_ ?_
  ·rintro i z acc H2 hi aR hlen hsz ⟨rfl,s2⟩;obtain ⟨p,hp,rfl⟩:=fU hi;obtain ⟨l,hl,jP⟩:=Paired.at rr hp;have s3:=s2.trans aN;refine ⟨_,rfl,p,_,rfl,.inl (aH.of (s3 _ _ jP)),Eh.mk aR hlen hsz ⟨?_,s2⟩⟩;rw [aG hl,List.map_append,cS,br];rfl
  ·rintro acc H2 aR vd ⟨rfl,s2⟩;rw [hlen,List.take_of_length_le (Nat.le_refl _)] at aR;refine ⟨D,(rs.map List.length).map fun (n:Nat)=>(n:Int),rfl,aH.of (by rw [aR,mn]),_,_,rfl,rfl,?_⟩;rw [ic,hlen];show Q (.int (((a:Nat):Int)+(rs.length:Nat)+(((rs.map List.length).sum:Nat):Int))) H2;have e:((a:Nat):Int)+(rs.length:Nat)+(((rs.map List.length).sum:Nat):Int)=((a+(rs.length+(rs.map List.length).sum):Nat):Int):=by lia
   rw [e];exact q H2 (s2.trans aN)
end
theorem Tw:∀ c:Nat,c<=16->J2 ([.int 6,.int 0,.int 0,.int 6,.int 1,.int 1,.int 1,.int 1,.int 2,.int 0,.int 2,.int 1,.int 0,.int 3,.int 0,.int 0,.int 0]:List V) (c:Int)=some (.int (((shapes.getD c (0,0)).1:Nat):Int))
 |0,_=>rfl|1,_=>rfl|2,_=>rfl|3,_=>rfl|4,_=>rfl|5,_=>rfl|6,_=>rfl|7,_=>rfl|8,_=>rfl|9,_=>rfl|10,_=>rfl|11,_=>rfl|12,_=>rfl|13,_=>rfl|14,_=>rfl|15,_=>rfl|16,_=>rfl
 |c+17,h=>by lia
theorem Tz:∀ c:Nat,c<=16->J2 ([.int 0,.int 1,.int 1,.int 1,.int 0,.int 0,.int 0,.int 0,.int 0,.int 1,.int 2,.int 3,.int 2,.int 0,.int 0,.int 0,.int 0]:List V) (c:Int)=some (.int (((shapes.getD c (0,0)).2:Nat):Int))
 |0,_=>rfl|1,_=>rfl|2,_=>rfl|3,_=>rfl|4,_=>rfl|5,_=>rfl|6,_=>rfl|7,_=>rfl|8,_=>rfl|9,_=>rfl|10,_=>rfl|11,_=>rfl|12,_=>rfl|13,_=>rfl|14,_=>rfl|15,_=>rfl|16,_=>rfl
 |c+17,h=>by lia
theorem Pe:∀ c:Nat,c<=16->(shapes.getD c (0,0)).2<=3
 |0,_=>by decide|1,_=>by decide|2,_=>by decide|3,_=>by decide|4,_=>by decide|5,_=>by decide|6,_=>by decide|7,_=>by decide|8,_=>by decide|9,_=>by decide|10,_=>by decide|11,_=>by decide|12,_=>by decide|13,_=>by decide|14,_=>by decide|15,_=>by decide|16,_=>by decide
 |c+17,h=>by lia
theorem Pf (a:List Int) (l:List (List Int)):PyFlat.told (a::l)=((a.length:Int)::a)++PyFlat.told l:=by
 unfold PyFlat.told;rw [List.flatMap_cons]
theorem Lo {X X':List Addr} {H H':Hp} (h:∀ m∈X',m∈X∨H m=none) (k:Kp X H H'):au (Out X H) (Out X' H'):=fun b o e=>by
 have e1:=aA _ _ e;have e2:=dn e;refine bL (fun z=>?_) (k _ _ e1 e2);rcases h b z with h|h
 ·exact e2 h
 ·rw [h] at e1;cases e1
section
variable {P:Program} {w:World} {K:PySem.W.Frag} {mg:Str->Option Value} {base:Heap} {ad:Ad}
theorem Ground.Pp {H:Hp} {ln:Addr} {av:List Addr} (G:Ground ad H ln av):∀ m∈ad.tb::av,∃ o,H m=some o:=fun m hm=>by
 rcases List.mem_cons.mp hm with rfl|hm
 ·obtain ⟨ps,e,_⟩:=G.tab;exact ⟨_,e⟩
 ·obtain ⟨o,e,_⟩:=G.K3 m hm;exact ⟨o,e⟩
theorem bA.Pp {H:Hp} {ln:Addr} {av M:List Addr} {s:Vbapah.State} (L:bA K ad H ln av s M):∀ m∈M++av,∃ o,H m=some o:=fun m hm=>by
 cases hs:s.world with
 |none=>
  obtain ⟨_,_,G,rfl⟩:=L.none_ hs;exact G.Pp m hm
 |some v=>
  obtain ⟨r,e1,_,_,A,_,rfl⟩:=L.is hs;obtain ⟨o,e,_⟩:=A.Pp m (by unfold Ar.N;rw [e1];exact hm);exact ⟨o,e⟩
theorem bA.VU {H:Hp} {ln:Addr} {av M:List Addr} {s:Vbapah.State} (L:bA K ad H ln av s M) {m:Addr} (hm:m∈av):m∉M:=fun z=>by
 cases hs:s.world with
 |none=>
  obtain ⟨_,_,G,rfl⟩:=L.none_ hs;exact (List.nodup_cons.mp G.nd).1 (List.mem_singleton.mp z▸hm)
 |some v=>
  obtain ⟨r,e1,_,_,A,_,rfl⟩:=L.is hs;exact A.VU (e1▸hm) z rfl
theorem bA.write {H H':Hp} {ln wr:Addr} {av M:List Addr} {s:Vbapah.State} {ys:List V} (L:bA K ad H ln av s M) (hw:wr∈av) (xk:ln≠wr) (k:Kp [wr] H H') (h:H' wr=some (.lst ys)):bA K ad H' ln av s M:=by
 cases hs:s.world with
 |none=>
  obtain ⟨h1,h2,G,rfl⟩:=L.none_ hs;unfold bA;rw [hs];obtain ⟨ps,t1,t2⟩:=G.tab;obtain ⟨dx,hl⟩:=h2;refine ⟨h1,⟨dx,k.hG hl xk⟩,⟨G.nd,fun m hm=>?_,G.ln,ps,k.hG t1 fun z=>(List.nodup_cons.mp G.nd).1 (z▸hw),t2.mono (bM (k.mono fun z hz=>?_))⟩,rfl⟩
  ·by_cases e:m=wr
   ·rw [e];exact ⟨_,h,rfl⟩
   ·obtain ⟨o,a,b⟩:=G.K3 m hm;exact ⟨o,k.hG a e,b⟩
  ·rw [List.mem_singleton.mp hz];exact List.mem_cons_of_mem _ hw
 |some v=>
  obtain ⟨r,e1,e2,⟨dx,hl⟩,A,G,rfl⟩:=L.is hs;exact bA.qD e1 e2 ⟨dx,k.hG hl xk⟩ (A.WS (D:=wr) (e1▸hw) k h) G
def xg (K:PySem.W.Frag) (ad:Ad):Sp:=fun vs H Q _=>∃ (ca:Addr) (l:List Int),vs=[.ref ca]/\aH K (Out [ad.tb] H) ca (vI l)/\H ad.tb=some (.CC #[])/\PyVbapah.answers_asked l=true/\∀ H' p,H' p=some (.lst (vI (PyVbapah.answers l)))->Q (.ref p) H'
theorem Ng (T:Tx P w K mg base ad):Ok T 15 ad.answers ad.jr ["calls"] xg:=by
 refine T.OO.ok DM (fun vs H Q E h=>?_) (fun nd bB A outer s H vs Q E hr h=>?_)
 ·obtain ⟨ca,l,rfl,_⟩:=h;rfl
 ·obtain ⟨ca,l,rfl,OW,Ji,Aw,q⟩:=h;refine ⟨_,(aa (sS 1 nd (PY T.VG (JF (K:=K) T) (hr.mono (by decide)) rfl T.My T.tN .nil i0))
   (aa (sS 2 nd (aE ft))
   (aa (sS 3 nd ab)
   (aa (oA PassesOwn.never (aS GO (pv 3) (eL K T.aX (pv 0))) (aa (sS 4 nd (xL K (pv 0) (pv 3)))
   (aa (sS 5 nd (aB bh (aB bh (pv 3) ab) (xT K (ay rfl T.gV) (pv 4))))
   (aa (sS 6 nd (ck (KJ K) (pv 0) (cB (aB bh (pv 3) ab)) (cB (pv 5))))
   (aa (sS 7 nd (eC (JJ T) hr T.By (fY (pv 0) (pv 5) (xT K (ay rfl T.j8) (pv 4)))))
   (aa (sS 8 nd (eC (EZ T) hr T.vX (aQ (pv 1) (fY (pv 4) (pv 6) (pv 7)))))
   (aa (bH (hZ PySem.F.plainAttrs_list PySem.F.slot_list_append PySem.F.type_list_append cq (pv 2) (bj (eL K T.aX (pv 8)))))
   (aa (bH (hZ PySem.F.plainAttrs_list PySem.F.slot_list_extend PySem.F.type_list_extend (SF K) (pv 2) (bj (pv 8))))
   (ae (sS 3 nd (eC (Cp T) hr T.tP (ie (pv 5) (pv 7)))))))))))))
   (ae (aq (pv 2))))))),?_⟩
  obtain ⟨cs0,Y3,acr⟩:∃ cs,PyFlat.calls PyVbapah.shape l.length l=some cs/\cs.length<=150:=by
   unfold PyVbapah.answers_asked at Aw;rw [KG] at Aw;cases e:PyFlat.calls PyVbapah.shape l.length l with
   |none=>rw [e] at Aw;cases Aw
   |some cs=>
    rw [e] at Aw;have Aw:(PyFlat.atMost 150 cs&&VbapahNeutral.asked cs)=true:=Aw;rw [Bool.and_eq_true] at Aw;exact ⟨cs,rfl,of_decide_eq_true Aw.1⟩
  have abT:PyVbapah.answers l=PyFlat.told (PyFlat.played VbapahNeutral.step VbapahNeutral.start cs0):=by
   unfold PyVbapah.answers;rw [KG,Y3]
  intro ln dx Wv Wo ne;refine ⟨ln,dx,rfl,ah,fun H1 VJ k1=>⟨rfl,?_⟩⟩;have s1:au H H1:=au.made Wv Wo k1;refine ⟨Nat.zero_le _,?_⟩;intro wr TB;generalize abU:upd H1 wr _=H2;obtain ⟨s2,h2⟩:=aI TB abU
  have oy:=s1.trans s2;have nwl:ln≠wr:=aw VJ TB;have ntl:ad.tb≠ln:=aw Ji Wv;have ntw:ad.tb≠wr:=aw (s1 _ _ Ji) TB;have L0:bA K ad H2 ln [ln,wr] Vbapah.start [ad.tb]:=by
   refine ⟨rfl,⟨dx,s2 _ _ VJ⟩,⟨?_,fun m hm=>?_,List.mem_cons_self .., #[],oy _ _ Ji,⟨?_,fun cv e=>?_⟩⟩,rfl⟩
   ·simp only [List.nodup_cons,List.mem_cons,List.not_mem_nil,or_false,not_or,List.nodup_nil,and_true,not_false_eq_true];exact ⟨⟨ntl,ntw⟩,nwl⟩
   ·simp only [List.mem_cons,List.not_mem_nil,or_false] at hm;rcases hm with rfl|rfl
    ·exact ⟨_,s2 _ _ VJ,rfl⟩
    ·exact ⟨_,h2,rfl⟩
   ·exact trivial
   ·cases e
  have abV:aH K (Out ([ad.tb]++[ln,wr]) H2) ca (vI l):=au.seq (Lo (fun m hm=>by
   have hm:m∈ad.tb::ln::wr::[]:=hm;simp only [List.mem_cons,List.not_mem_nil,or_false] at hm ⊢;rcases hm with h|h|h
   ·exact .inl h
   ·rw [h];exact .inr Wv
   ·rw [h];exact .inr (s1.free TB)) (Kp.of oy)) OW
  refine ⟨fun f σ H3=>∃ (a:Nat) (u4 u5 u6 u7 u8:Option V),σ=[some (.ref ca),some (.ref ln),some (.ref wr),some (.int (a:Nat)),u4,u5,u6,u7,u8]/\∃ (s:Vbapah.State) (M:List Addr) (cs:List (List (List Int))) (done:List Int),PyFlat.calls PyVbapah.shape f (l.drop a)=some cs/\bA K ad H3 ln [ln,wr] s M/\H3 wr=some (.lst (vI done))/\done++PyFlat.told (PyFlat.played VbapahNeutral.step s cs)=PyVbapah.answers l/\done.length+100002*cs.length<=100002*150/\aH K (Out (M++[ln,wr]) H3) ca (vI l),
   ⟨l.length,0,none,none,none,none,none,rfl,Vbapah.start,[ad.tb],cs0,[],Y3,L0,h2,by rw [abT];rfl,?_,abV⟩,?_⟩
  ·rw [List.length_nil]
   lia
  rintro f σ H3 ⟨a,u4,u5,u6,u7,u8,rfl,s,M,cs,done,QR,L,Y4,hd,hb,Y5⟩;have TC:=aA.seq Y5;refine ⟨_,rfl,_,rfl,ca,_,rfl,.inl TC,_,_,rfl,rfl,_,rfl,?_⟩;rw [br];refine aW (fun hc=>?_) fun hc=>?_
  ·have eW:a<l.length:=by have:=of_decide_eq_true hc;lia
   obtain ⟨p,r,Pr⟩:∃ p r,l.drop a=p::r:=by
    cases e:l.drop a with
    |nil=>
     have:=congrArg List.length e;rw [List.length_drop,List.length_nil] at this
     lia
    |cons p r=>exact ⟨p,r,rfl⟩
   rw [Pr] at QR;obtain ⟨f,rfl⟩:∃ g,f=g+1:=by
    cases f with
    |zero=>cases QR
    |succ g=>exact ⟨g,rfl⟩
   obtain ⟨n,k,rs,t,Ue,hsh,hn,pC,rfl,abW⟩:=Dq QR;obtain ⟨c,rfl,TF,Z4⟩:=AQ hsh;have Z4:(n,k)=shapes.getD c (0,0):=Z4;have hpa:l[a]? =some ((c:Nat):Int):=by
    have:=congrArg (fun z:List Int=>z[0]?) Pr;simpa using this
   have Ww:l.drop (a+1)=r:=by
    have:=congrArg (fun z:List Int=>z.drop 1) Pr;simpa [List.drop_drop] using this
   have RP:r.length=l.length-(a+1):=by rw [<-Ww,List.length_drop]
   have Zr:a+1+n<=l.length:=by lia
   have Z0:=Tw c TF;have HQ:=Tz c TF;have Wf:=Pe c TF;rw [<-Z4] at Z0 HQ Wf;have hdn:l.drop (a+1+n)=r.drop n:=by rw [<-List.drop_drop,Ww]
   refine ⟨fun σ' H'=>∃ (a:Nat) (u4 u5 u6 u7 u8:Option V),σ'=[some (.ref ca),some (.ref ln),some (.ref wr),some (.int (a:Nat)),u4,u5,u6,u7,u8]/\∃ (s:Vbapah.State) (M:List Addr) (cs:List (List (List Int))) (done:List Int),PyFlat.calls PyVbapah.shape f (l.drop a)=some cs/\bA K ad H' ln [ln,wr] s M/\H' wr=some (.lst (vI done))/\done++PyFlat.told (PyFlat.played VbapahNeutral.step s cs)=PyVbapah.answers l/\done.length+100002*cs.length<=100002*150/\aH K (Out (M++[ln,wr]) H') ca (vI l),fun σ' H' z=>⟨f,by lia,z⟩,?_⟩;refine ⟨_,rfl,_,rfl,ca,_,_,_,rfl,rfl,TC,KZ rfl hpa,?_⟩;refine ⟨_,rfl,_,_,rfl,rfl,_,rfl,_,_,_,_,rfl,rfl,T.gW.sq,Z0,_,_,rfl,rfl,?_⟩;have eat:((a:Nat):Int)+1+(n:Nat)=((a+1+n:Nat):Int):=by lia
   show RU _ _ _ [some (V.ref ca),some (V.ref ln),some (V.ref wr),some (V.int (a:Nat)),some (V.int (c:Nat)),some (V.int (((a:Nat):Int)+1+(n:Nat))),u6,u7,u8] H3;rw [eat];refine ⟨_,rfl,_,rfl,_,_,rfl,rfl,_,rfl,_,rfl,_,rfl,uc TC fun na H4 abX s4 h4=>?_⟩;rw [Of (a:=a+1) (n:=n) (by lia) rfl Zr,Ww] at h4;have abY:=s4.seq TC;refine ⟨_,rfl,_,rfl,_,rfl,_,_,_,_,rfl,rfl,T.j9.sq,HQ,ca,l,a+1+n,k,rs,t,rfl,abY,by lia,by rw [hdn];exact pC,fun H5 ra as TH s5 h5 rr=>?_⟩;have Y6:=s4.trans s5;have L5:=L.mono Y6;have nN:∀ {m:Addr},H3 m=none->m∉M++[ln,wr]:=fun h z=>by
    obtain ⟨o,e⟩:=L.Pp _ z;rw [h] at e;cases e
   have Y7:=sD pC;obtain ⟨ht,htl⟩:=Hc pC;refine ⟨_,rfl,_,rfl,_,rfl,_,rfl,ln,na,ra,c,[ln,wr],M,s,r.take n,rs,rfl,L5,bL (nN abX) (s5 _ _ h4),⟨as,bL (nN (s4.free TH)) h5,rr.mono fun b o e=>bL (nN (s4.free (JH e))) (Oe _ _ e)⟩,TF,?_,fun H6 M6 pa L6 hM6 k6 Y8 hA=>?_⟩
   ·rw [<-Z4,List.length_take,Nat.min_eq_left hn,Y7]
   obtain ⟨hA1,hA2⟩:=hA;have abZ:wr∉ln::M:=fun z=>by
    rcases List.mem_cons.mp z with z|z
    ·exact nwl z.symm
    ·exact L.VU (List.mem_cons_of_mem _ (List.mem_cons_self ..)) z
   have Y9:H6 wr=some (.lst (vI done)):=k6 _ _ (Y6 _ _ Y4) abZ;rw [List.length_cons] at hb;have npw:pa≠wr:=fun z=>by rw [z,Y6 _ _ Y4] at Y8;cases Y8
   have ab0:Paired (fun b x=>H6 b=some (.lst (vI x))/\b≠wr) as rs:=Paired.dw rr fun b x e=>by
    have UH:H3 b=none:=s4.free (JH e);refine ⟨k6 _ _ (Oe _ _ e) fun z=>nN UH ?_,fun z=>?_⟩
    ·rcases List.mem_cons.mp z with z|z
     ·rw [z];exact List.mem_append_right _ (List.mem_cons_self ..)
     ·exact List.mem_append_left _ z
    ·rw [z,Y4] at UH;cases UH
   have ab1:H6 ra=some (.lst (as.map V.ref)):=k6 _ _ h5 fun z=>by
    refine nN (s4.free TH) ?_;rcases List.mem_cons.mp z with z|z
    ·rw [z];exact List.mem_append_right _ (List.mem_cons_self ..)
    ·exact List.mem_append_left _ z
   have nrw:ra≠wr:=fun z=>by rw [z,s4 _ _ Y4] at TH;cases TH
   have bN:VbapahNeutral.step s ((((c:Nat):Int)::r.take n)::rs)=((VbapahNeutral.step s ((((c:Nat):Int)::r.take n)::rs)).1,(VbapahNeutral.step s ((((c:Nat):Int)::r.take n)::rs)).2):=rfl;have hd2:done++(((((VbapahNeutral.step s ((((c:Nat):Int)::r.take n)::rs)).2.length:Nat):Int)::(VbapahNeutral.step s ((((c:Nat):Int)::r.take n)::rs)).2)++PyFlat.told (PyFlat.played VbapahNeutral.step (VbapahNeutral.step s ((((c:Nat):Int)::r.take n)::rs)).1 Ue))=PyVbapah.answers l:=by
    rw [<-hd, <-Pf];rfl
   generalize VbapahNeutral.step s ((((c:Nat):Int)::r.take n)::rs)=st at L6 hA1 hA2 hd2;refine ⟨_,rfl,.inl ⟨rfl,_,aH.of Y9⟩,_,rfl,pa,_,rfl,.inl (aH.of hA1),wr,_,_,rfl,rfl,Y9,?_,?_⟩
   ·rw [br];exact Nat.lt_of_le_of_lt (show done.length<=15000300 by lia) (by decide)
   generalize e7:upd H6 wr _=H7;have k7:Kp [wr] H6 H7:=by rw [<-e7];exact Kp.upd
   have h7:H7 wr=some (.lst (vI done++[V.int ((vI st.2).length:Nat)])):=by rw [<-e7,ah]
   refine ⟨_,rfl,.inl ⟨rfl,_,aH.of h7⟩,_,rfl,wr,pa,_,_,rfl,rfl,h7,.inl (k7.hG hA1 npw),?_,?_⟩
   ·rw [List.length_append,br,br];show _+1+_<=_;exact Nat.le_trans (show _<=15000300 by lia) (by decide)
   generalize e8:upd H7 wr _=H8;have k8:Kp [wr] H6 H8:=by rw [<-e8];exact k7.trans Kp.upd
   have h8:H8 wr=some (.lst (vI (done++((((st.2.length:Nat):Int))::st.2)))):=by
    rw [<-e8,ah,QK,br];unfold vI;rw [List.map_cons,List.append_assoc];rfl
   refine ⟨_,rfl,_,rfl,ra,a+1+n,as,rs,rfl,k8.hG ab1 nrw,Paired.dw ab0 fun b x e=>k8.hG e.1 e.2,by lia,fun H9 s9=>?_⟩;have kX:Kp (M++[ln,wr]) H3 H9:=(((Kp.of Y6).trans (k6.mono fun z hz=>by
    rcases List.mem_cons.mp hz with z|z
    ·rw [z];exact List.mem_append_right _ (List.mem_cons_self ..)
    ·exact List.mem_append_left _ z)).trans (k8.mono fun z hz=>by rw [List.mem_singleton.mp hz];exact List.mem_append_right _ (List.mem_cons_of_mem _ (List.mem_cons_self ..)))).trans (Kp.of s9)
   refine ⟨a+1+n+(rs.length+(rs.map List.length).sum),_,_,_,_,_,rfl,st.1,M6,Ue,done++(((st.2.length:Nat):Int)::st.2),?_,(L6.write (List.mem_cons_of_mem _ (List.mem_cons_self ..)) nwl k8 h8).mono s9,s9 _ _ h8,?_,?_,au.seq (Lo (fun m hm=>?_) kX) Y5⟩
   ·rw [<-List.drop_drop,hdn,Y7, <-ht];exact abW
   ·rw [List.append_assoc];exact hd2
   ·rw [List.length_append,List.length_cons]
    lia
   ·rcases List.mem_append.mp hm with hm|hm
    ·rcases hM6 m hm with h|h
     ·exact .inl (List.mem_append_left _ h)
     ·exact .inr (Y6.free h)
    ·exact .inl (List.mem_append_right _ hm)
  ·have RN:=of_decide_eq_false hc;have ab2:l.drop a=[]:=List.drop_eq_nil_of_le (by lia);rw [ab2] at QR;have ZR:cs=[]:=by
    cases f<;>exact (Option.some.inj QR).symm
   subst ZR;refine ⟨_,rfl,q H3 wr ?_⟩;rw [Y4, <-hd];show _=some (HO.lst (vI (done++[])));rw [List.append_nil]
end
end Fb
namespace Fb
open PySem PySem.Spec PyProof.Rows L2
open PySem.W (WData Codec OpenSpec Well WellAll ReadsW ReadsAllW)
theorem Nh {P:Program} {w:World} {K:PySem.W.Frag} {mg mb:Str->Option Value} {CX:R7} {k:Nat} {fa tb c:Addr} {fd:FuncData} {ps:List Str} {sp:Sp} {cg:Shared} {vals:List Value} {ds:List WData} {R:PySem.W.WRecords} {cl:Str->Option Addr} {d0:WData}
  (KX:K.In cg.heap) (OX:cg.heap.Ns mainGlobals mg) (hb:cg.heap.Ns builtinsNs mb) (hbb:∀ x:Str,x≠"__name__"->mb x=bootBuiltins x) (ab3:cg.heap.NoLimit) (hg:cg.gens= #[])
  (Pw:WellAll w.params cg.heap vals ds) (jP:BX ds=true) (hwt:∀ d∈ds,d.weight<=1048576) (hr:fP k callerA)
  (hC:PySem.W.CodeHd cg.heap c tb) (Ji:cg.heap.get? tb=some (PySem.W.tabObj #[])) (WZ:K.lookup tb=none) (hB:cg.heap.BuiltinsAt mg tb)
  (F:∀ base:Heap,K.In base->base.Ns mainGlobals mg->PySem.W.CodeHd base c tb->base.BuiltinsAt mg tb->uP P w K mg base CX k fa fd ps sp) (Za:∀ (s:Shared) (us:List Value),us.length=ps.length->BindsTo s fd ⟨us,[]⟩ (ps.zip us)) (hlen:ds.length=ps.length)
  (T6:∀ (H:Hp) (xs:List V),H tb=some (.CC #[])->qA K (Out [tb] H) xs ds->sp xs H (fun v H'=>Dw K H' v d0) fun _ _ _=>False)
  (hCX:∀ H e s',CX [] H cg (fun _ _ _=>False) e s'->False):
  codeAny (model P w) callerA (.call (.ref fa) ⟨vals,[]⟩) (fun r s'=>∃ u as,r=.ok (.ret u)/\ReadsW R cl s'.heap u d0 as/\OldK cg.heap s'.heap/\s'.os=cg.os/\AllBare s'.gens) cg:=by
 obtain ⟨A,ho,ar⟩:=xw ds vals Pw jP hwt;have hO0:Ud (oF K cg.heap A):=OE ar;have Zb:rY P w (oF K cg.heap A) cg.heap:=Sw ar;have hS:=Iy KX ar ds vals Pw jP ho;have hV:=oE ho;have hK0:∀ b u,oF K cg.heap A b=some u->K.lookup b=none:=fun b u q=>(CI ar q).1
 have PZ:∀ {b:Addr} {o:Obj},cg.heap.get? b=some o->(∀ vs n,o.data≠.seq vs n)->oF K cg.heap A b=none:=fun {b o} e d=>by
  cases q:oF K cg.heap A b with
  |none=>rfl
  |some u=>
   obtain ⟨_,vs,_,_,⟨e2,_⟩|⟨e2,_⟩⟩:=CI ar q
   ·rw [e2] at e;cases e;exact absurd rfl (d _ _)
   ·rw [e2] at e;cases e;exact absurd rfl (d _ _)
 have Pu:oF K cg.heap A tb=none:=PZ Ji fun vs n e=>by cases e
 generalize oF K cg.heap A=H0 at hO0 Zb hS hK0 PZ Pu;generalize eH:upd H0 tb (.CC #[])=H;have hT:H tb=some (.CC #[]):=by rw [<-eH,ah]
 have xk:∀ {b},b≠tb->H b=H0 b:=fun hb=>by rw [<-eH,az hb]
 have hOut:Out [tb] H=H0:=funext fun b=>by
  unfold Out;by_cases e:b=tb
  ·rw [if_pos (by rw [e];exact List.mem_singleton.mpr rfl),e,Pu]
  ·rw [if_neg (by rw [List.mem_singleton];exact e),xk e]
 have cf:rY P w H cg.heap:=fun b o e=>by
  by_cases LP:b=tb
  ·rw [LP,hT] at e;cases e;rw [LP];exact Ji
  ·rw [xk LP] at e;refine (Zb b o e).LQ (fun _ _ _ q=>q) (fun x q=>?_) fun x ys q=>?_
   ·rw [xk fun z=>by rw [z,Pu] at q;cases q];exact q
   ·rw [xk fun z=>by rw [z,Pu] at q;cases q];exact q
 have noH:∀ {b:Addr} {o:Obj},cg.heap.get? b=some o->(∀ vs n,o.data≠.seq vs n)->(∀ vs,o.data≠.fields vs∨b≠tb)->H b=none:=fun {b o} e d1 d2=>by
  have LP:b≠tb:=fun z=>by
   rw [z,Ji] at e;cases e;rcases d2 #[] with h|h
   ·exact h rfl
   ·exact h z
  rw [xk LP];exact PZ e d1
 have CT:∀ {b:Addr} {o:Obj},cg.heap.get? b=some o->H b=none->(CV cg.heap H).get? b=some o:=fun e n=>Py e n
 have Z5:∀ {b:Addr} {m:Str->Option Value},cg.heap.Ns b m->(CV cg.heap H).Ns b m:=fun {b m} ⟨o,es,ep,e,d,r⟩=>⟨o,es,ep,CT e (noH e (fun vs n z=>by rw [d] at z;cases z) fun vs=>.inl fun z=>by rw [d] at z;cases z),d,r⟩
 have nK:∀ b o,K.lookup b=some o->H b=none:=fun b o e=>by
  have LP:b≠tb:=fun z=>by rw [z,WZ] at e;cases e
  rw [xk LP];cases q:H0 b with
  |none=>rfl
  |some u=>
   rw [hK0 b u q] at e;cases e
 have hKb:K.In (CV cg.heap H):=fun b o e=>CT (KX b o e) (nK b o e)
 have hCb:PySem.W.CodeHd (CV cg.heap H) c tb:=by
  obtain ⟨o,vs,file,tf,flags,tg,inF,text,tt,e1,e2,e3,e4,e5,e6,e7,e8,e9,e10⟩:=hC;exact ⟨o,vs,file,tf,flags,tg,inF,text,tt,CT e1 (noH e1 (fun us n z=>by rw [e3] at z;cases z) fun us=>.inr e10),e2,e3,e4,e5,e6,e7,e8,e9,e10⟩
 have hBb:(CV cg.heap H).BuiltinsAt mg tb:=by
  obtain ⟨bm,o,b1,b2,b3,b4,b5,b6,b7,b8⟩:=hB;exact ⟨bm,o,b1,b2,b3,b4,CT b5 (noH b5 (fun us n z=>by rw [b8] at z;cases z) fun us=>.inr b4),b6,b7,b8⟩
 have hM:Mod K mg (CV cg.heap H):=⟨hKb,Z5 OX,⟨mb,Z5 hb,hbb⟩,let ⟨mc,h1,h2⟩:=ab3;⟨mc,Z5 h1,h2⟩⟩;have e0:Fw P w K mg (CV cg.heap H) callerA [] cg H:=⟨rfl,hM,fun b o e=>RR e,Nat.le_of_eq (Oj _ _),trivial,fun b hb=>absurd (show b∈([]:List Addr) from hb) (by simp),cf,.of_eq hg⟩;have hl:vals.length=ps.length:=by rw [mR Pw];exact hlen
 refine codeAny_mono ((F _ hKb (Z5 OX) hCb hBb).run callerA [] cg H ⟨vals,[]⟩ vals (vals.map toV) _ _ hr e0 (Za cg vals hl) hV (T6 H _ hT (by rw [hOut];exact hS))) fun r s' x=>?_
 cases r with
 |error e=>exact (hCX H e s' x).elim
 |ok fl=>
  cases fl with
  |next=>exact False.elim x
  |brk=>exact False.elim x
  |cont=>exact False.elim x
  |ret u=>
   obtain ⟨v,H',os,bare,un,Wx,r',q⟩:=x;have kept:∀ b o,b≠tb->cg.heap.get? b=some o->s'.heap.get? b=some o:=fun b o LP e=>by
    cases q2:H b with
    |none=>exact un.keep b o e q2 (by intro z;exact absurd (show b∈([]:List Addr) from z) (by simp)) (by simp)
    |some u2=>
     rcases hO0 b with z|⟨ob,u3,z⟩
     ·rw [xk LP,z] at q2;cases q2
     ·rw [<-xk LP] at z;have z2:=un.Ia b ob _ z;obtain ⟨e1,_⟩:=cf b _ z;obtain ⟨e2,_⟩:=Wx b _ z2;rw [e] at e1;cases e1;exact e2
   have KX':K.In s'.heap:=fun b o e=>kept b o (fun z=>by rw [z,WZ] at e;cases e) (KX b o e)
   obtain ⟨as,hrd⟩:=Dw.reads (R:=R) (cl:=cl) Wx KX' d0 v u q r';obtain ⟨more,Zc⟩:=un.Ib tb #[] hT;have Zd:s'.heap.get? tb=some (PySem.W.tabObj (#[]++more)):=Wx tb _ Zc;refine ⟨u,as,rfl,hrd,⟨fun b o e=>?_,fun b o e=>?_⟩,os,bare⟩
   ·by_cases LP:b=tb
    ·subst LP;rw [Ji] at e;cases e;exact .inr (.inl ⟨(hC.tab Ji).isCodeTable,rfl, #[],more,rfl,Zd⟩)
    ·exact .inl (kept b o LP e)
   ·by_cases LP:b=tb
    ·subst LP;exact ⟨_,Zd⟩
    ·exact ⟨o,kept b o LP e⟩
theorem Ni {r:OpenSpec} {k:Nat} {q:Program} {loose:List Str} {XP:(Str->Option Value)->Heap->Prop} {YP:World->Heap->Prop} {d:DefRec} {K:Params->PySem.W.Frag} {ps:List Str} {dt:DefRec} {xt:Str}
  (Ze:r.wellSaid=true) (hdf:d.params.defaults=[]) (hlen:r.args.length=ps.length) (hr:fP k callerA)
  (hY:∀ (w:World) (h:Heap),YP w h->(K w.params).In h) (mi:(PyProof.Rows.recsOf q).find? (fun e=>e.name==xt)=some dt)
  (F:∀ (w:World) (mg:Str->Option Value) (fa:Addr) (h:Heap),YP w h->(K w.params).In h->h.Ns mainGlobals mg->mg d.name=some (.ref fa)->
   ∃ (fd:FuncData) (c tb:Addr) (sp:Sp),PySem.W.tabIn (K w.params) xt=some (c,tb)/\(K w.params).lookup tb=none/\(∀ (s:Shared) (us:List Value),us.length=ps.length->BindsTo s fd ⟨us,[]⟩ (ps.zip us))/\
    (∀ base:Heap,(K w.params).In base->base.Ns mainGlobals mg->PySem.W.CodeHd base c tb->base.BuiltinsAt mg tb->uP r.prog w (K w.params) mg base Ql k fa fd ps sp)/\
    ∀ (H:Hp) (xs:List V) (a:Codec.denoteAll r.args),H tb=some (.CC #[])->Codec.withinAll r.args a=true->Codec.app r.args r.asked a=true->qA (K w.params) (Out [tb] H) xs (Codec.encAll r.args a)->
     sp xs H (fun v H'=>Dw (K w.params) H' v (r.ret.enc (Codec.app r.args r.f a))) fun _ _ _=>False):
  PySem.W.WalkOS q loose XP YP r d [] (fun f vs=>PySem.call f vs):=by
 intro w Fs cg mg mb G Y fa o pm cd doc dV kV ho hd J9 hD hmg hg args vals as ab4 ab5 hrd Pw hlo;obtain ⟨a,e1,e2⟩:=PySem.W.os_pre_some ab4;obtain ⟨e3,hwi⟩:=Codec.encAll_of_decAll r.args args a e1;subst e3;have KX:=hY w _ Y;obtain ⟨fd,c,tb,sp,ht,WZ,hb,hF,T6⟩:=F w mg fa _ Y KX G.T.g hmg;obtain ⟨hC,Ji⟩:=PySem.W.tab_of G.T KX mi ht;have hB:cg.heap.BuiltinsAt mg tb:=by
  obtain ⟨bm,ob,b1,b2,b3,b4,b5,b6⟩:=G.T.bmain;refine ⟨bm,ob,b1,b2,fun z=>?_,fun z=>?_,b3,b4,b5,b6⟩
  ·obtain ⟨o',es,ep,e',d',_⟩:=G.T.g;rw [z,e'] at b3;cases b3;rw [d'] at b6;cases b6
  ·rw [z,Ji] at b3;cases b3;cases b4
 refine PySem.W.enter_call (codeAny_mono (Nh (R:=[]) (cl:=classAt Fs.heap) (d0:=r.ret.enc (Codec.app r.args r.f a)) KX G.T.g G.T.b G.T.builtins G.T.nolimit hg Pw (GY _ _) (Dh ab5) hr hC Ji WZ hB hF hb (by rw [Di];exact hlen)
  (fun H xs hO hS=>T6 H xs a hO hwi e2 hS) fun H e s' z=>z) fun r' s' hq=>?_)
 obtain ⟨u,as',rfl,h1,h2,h3,h4⟩:=hq;exact ⟨.inl ⟨u,_,as',rfl,fun _=>rfl,h1,(OpenSpec.post_iff Ze hwi _ _).mpr rfl,fun z=>Bool.noConfusion (show false=true from z)⟩,h2,h3,h4⟩
end Fb
namespace Fb
open PySem PySem.Spec PyProof.Rows L2
def Nj:Nat->(List Value->Prop)->Prop
 |0,p=>p []
 |n+1,p=>∀ u,Nj n fun us=>p (u::us)
theorem Nj.of:∀ {n:Nat} {p:List Value->Prop},Nj n p->∀ us:List Value,us.length=n->p us
 |0,_,h,[],_=>h
 |n+1,_,h,u::us,e=>(h u).of us (Nat.succ.inj e)
section
variable {Goal:Prop} {K:PySem.W.Frag} {h:Heap} {mg:Str->Option Value} {N ps:List Str} {st:Stmt} {f C:Addr} {oc:Value} {od an:Option Addr} {Ih:Array (Option Value)} {kV doc pm bB ct:Value}
theorem aL (x:Str) (S:ak N ps (af st)) (X:K.In h) (G:h.Ns mainGlobals mg) (a:PySem.W.nsIn K mainGlobals x=some (some (.ref f))) (l:K.lookup f=some ⟨oc,od,.func (PySem.W.fnOf x x (gG st) (dY st) (af st) .none kV doc pm an bB ct),Ih⟩) (c:PySem.W.codeIn K bB x=true) (k:PySem.W.keepIn K (.ref f)=true)
  (rest:∀ f fd,Dn K mg x st f fd ps->Goal)
  (hb:∀ (kV doc pm:Value) (an:Option Addr) (bB ct:Value),Nj ps.length fun us=>bindArgs (PySem.W.fnOf x x (gG st) (dY st) (af st) .none kV doc pm an bB ct) ⟨us,[]⟩=pure (ps.zip us):=by (repeat intro _);rfl):Goal:=rest f _ ⟨sk l c k,(sk l c k).binds fun _ _ _ _ _ _ us e=>(hb ..).of us e,PySem.W.mg_of X G a⟩
theorem Zf {cc tb:Addr} {oc2:Value} {od2:Option Addr} {ab6:Array (Option Value)} {vs:Array Value} (x:Str) (S:ak N ps (af st)) (X:K.In h) (G:h.Ns mainGlobals mg) (a:PySem.W.nsIn K mainGlobals x=some (some (.ref f))) (l:K.lookup f=some ⟨oc,od,.func (PySem.W.fnOf x x (gG st) (dY st) (af st) .none kV doc pm an (.ref cc) ct),Ih⟩) (c:PySem.W.codeIn K (.ref cc) x=true) (k:PySem.W.keepIn K (.ref f)=true)
  (l2:K.lookup cc=some ⟨oc2,od2,.fields vs,ab6⟩) (v:vs[11]? =some (.ref tb)) (n:K.lookup tb=none)
  (rest:∀ f fd cc tb,Dn K mg x st f fd ps->fd.code=.ref cc->PySem.W.tabIn K x=some (cc,tb)->K.lookup tb=none->Goal)
  (hb:∀ (kV doc pm:Value) (an:Option Addr) (bB ct:Value),Nj ps.length fun us=>bindArgs (PySem.W.fnOf x x (gG st) (dY st) (af st) .none kV doc pm an bB ct) ⟨us,[]⟩=pure (ps.zip us):=by (repeat intro _);rfl):Goal:=by
 refine rest f _ cc tb ⟨sk l c k,(sk l c k).binds fun _ _ _ _ _ _ us e=>(hb ..).of us e,PySem.W.mg_of X G a⟩ rfl ?_ n;unfold PySem.W.tabIn;rw [a];dsimp only;rw [l];dsimp only;rw [l2];dsimp only;rw [v]
theorem E1 (x qual:Str) (S:ak N ps (af st)) (Pc:PySem.W.Frag->Addr->Prop) (X:K.In h) (G:h.Ns mainGlobals mg) (aC:PySem.W.nsIn K mainGlobals x=some (some (.ref C))) (a1:PySem.W.findIn K (.ref C) "__init__"=some (some (.ref f))) (i1:PySem.W.isFn K (.ref f)=true)
  (l:K.lookup f=some ⟨oc,od,.func (PySem.W.fnOf "__init__" qual (gG st) (dY st) (af st) .none kV doc pm an bB ct),Ih⟩) (c:PySem.W.codeIn K bB qual=true) (k:PySem.W.keepIn K (.ref f)=true)
  (pg:PySem.W.plainGet K C Str.empty=true) (hd:PySem.W.hasDictIn K C=true) (po:PySem.W.plainOver K C=true) (sa:PySem.W.findIn K (.ref C) "__setattr__"=some (some (.builtin "object.__setattr__"))) (mk:PySem.W.makesIn K C=true) (kc:PySem.W.keepIn K (.ref C)=true) (hp:Pc K C)
  (rest:∀ C f fd,mg x=some (.ref C)->Fv K C->Mk K C f->Iw K "__init__" qual st f fd->Binds K fd ps []->Pc K C->Goal)
  (hb:∀ (kV doc pm:Value) (an:Option Addr) (bB ct:Value),Nj ps.length fun us=>bindArgs (PySem.W.fnOf "__init__" qual (gG st) (dY st) (af st) .none kV doc pm an bB ct) ⟨us,[]⟩=pure (ps.zip us):=by (repeat intro _);rfl):Goal:=
 rest C f _ (PySem.W.mg_of X G aC) ⟨pg,hd,po,sa⟩ ⟨mk,a1,i1,kc⟩ (sk l c k) ((sk l c k).binds fun _ _ _ _ _ _ us e=>(hb ..).of us e) hp
theorem Wy {qual m:Str} (a:PySem.W.findIn K (.ref C) m=some (some (.ref f))) (i:PySem.W.isFn K (.ref f)=true) (l:K.lookup f=some ⟨oc,od,.func (PySem.W.fnOf m qual (gG st) (dY st) (af st) .none kV doc pm an bB ct),Ih⟩) (c:PySem.W.codeIn K bB qual=true) (k:PySem.W.keepIn K (.ref f)=true)
  (hb:∀ (kV doc pm:Value) (an:Option Addr) (bB ct:Value),Nj ps.length fun us=>bindArgs (PySem.W.fnOf m qual (gG st) (dY st) (af st) .none kV doc pm an bB ct) ⟨us,[]⟩=pure (ps.zip us):=by (repeat intro _);rfl):
  ∃ f fd,Meth K C m f/\Iw K m qual st f fd/\Binds K fd ps []:=⟨f,_,⟨a,i,k⟩,sk l c k,(sk l c k).binds fun _ _ _ _ _ _ us e=>(hb ..).of us e⟩
theorem bU (x:Str) (z:Int) {t:Tok} (X:K.In h) (G:h.Ns mainGlobals mg) (a:PySem.W.nsIn K mainGlobals x=some (some (.int z t))) (rest:(∃ u,mg x=some u/\RelV (.int z) u)->Goal):Goal:=rest ⟨_,PySem.W.mg_of X G a,t,rfl⟩
theorem ot (x:Str) (X:K.In h) (G:h.Ns mainGlobals mg) (a:PySem.W.nsIn K mainGlobals x=some none) (rest:mg x=none->Goal):Goal:=rest (PySem.W.mg_none_of X G a)
theorem Og {a:Addr} {its:Array Value} {n:Nat} (x:Str) (xs:List V) (X:K.In h) (G:h.Ns mainGlobals mg) (e:PySem.W.nsIn K mainGlobals x=some (some (.ref a))) (l:K.lookup a=some ⟨.type "tuple",od,.seq its n,Ih⟩) (hz:its.size<=sizeLine) (hv:Vals xs its.toList)
  (rest:∀ a,(∃ u,mg x=some u/\RelV (.ref a) u)->kF K a xs->Goal):Goal:=rest a ⟨_,PySem.W.mg_of X G e,rfl⟩ ⟨_,its,n,l,rfl,rfl,hz,hv⟩
theorem Lp {a:Addr} {its:Array Value} {n:Nat} {xs:List V} (l:K.lookup a=some ⟨.type "tuple",od,.seq its n,Ih⟩) (hz:its.size<=sizeLine) (hv:Vals xs its.toList):kF K a xs:=⟨_,its,n,l,rfl,rfl,hz,hv⟩
def Rq (e:DictEntry):Bool:=match e.key with
 | .int k _=>e.hash==hashInt k
 |_=>false
def E2 (e:DictEntry):Key×Value:=match e.key with
 | .int k _=>(Sum.inl k,e.val)
 |_=>(Sum.inl 0,e.val)
theorem Rr {P:Program} {w:World} {e:DictEntry} (h:Rq e=true):(bO P w).is (E2 e).1 e.key=true/\e.hash=(bO P w).hash (E2 e).1/\e.val=(E2 e).2:=by
 unfold Rq at h;unfold E2;cases hk:e.key with
 |int k t=>rw [hk] at h;exact ⟨AJ P w k t,eq_of_beq h,rfl⟩
 |_=>rw [hk] at h;cases h
theorem Rt {P:Program} {w:World} {d:Addr} {es:Array DictEntry} {ep:Nat} {kvs:List (Key×V)} (l:K.lookup d=some ⟨.type "dict",none,.dict es ep, #[]⟩) (hc:es.toList.all Rq=true) (hn:(es.toList.map fun e=>(E2 e).1).Nodup) (hv:KV kvs (es.toList.map E2)):xF K P w d kvs:=by
 refine ⟨es.toList.map E2,hv,fun h X=>⟨_,es,ep,X _ _ l,⟨rfl,rfl,rfl⟩,rfl,fun e he=>?_,?_,?_⟩⟩
 ·have:=Rr (P:=P) (w:=w) (List.all_eq_true.mp hc e (by simpa using he));exact ⟨_,this.1,this.2.1⟩
 ·clear hv hn l;generalize es.toList=l at hc
  induction l with
  |nil=>exact .nil
  |cons e l ih=>
   rw [List.all_cons,Bool.and_eq_true] at hc;have:=Rr (P:=P) (w:=w) hc.1;exact .cons this.1 this.2.2 (ih hc.2)
 ·rw [List.map_map];exact hn
theorem Ru {P:Program} {w:World} {d b1 b2 b3 b4 b5:Addr} (X:K.In h) (G:h.Ns mainGlobals mg) (e:PySem.W.nsIn K mainGlobals "BOUNDS_DRAWN"=some (some (.ref d))) (k:xF K P w d [(Sum.inl 1,V.ref b1),(Sum.inl 2,V.ref b2),(Sum.inl 3,V.ref b3),(Sum.inl 4,V.ref b4),(Sum.inl 5,V.ref b5)])
  (t1:kF K b1 [.int 64,.int 3,.int 64]) (t2:kF K b2 [.int 64,.int 8,.int 64,.int 64]) (t3:kF K b3 [.int 64]) (t4:kF K b4 [.int 64,.int 64]) (t5:kF K b5 [.int 64,.int 64])
  (rest:∀ d b1 b2 b3 b4 b5,(∃ u,mg "BOUNDS_DRAWN"=some u/\RelV (.ref d) u)->xF K P w d [(Sum.inl 1,V.ref b1),(Sum.inl 2,V.ref b2),(Sum.inl 3,V.ref b3),(Sum.inl 4,V.ref b4),(Sum.inl 5,V.ref b5)]->kF K b1 [.int 64,.int 3,.int 64]->kF K b2 [.int 64,.int 8,.int 64,.int 64]->kF K b3 [.int 64]->kF K b4 [.int 64,.int 64]->kF K b5 [.int 64,.int 64]->Goal):Goal:=
 rest d b1 b2 b3 b4 b5 ⟨_,PySem.W.mg_of X G e,rfl⟩ k t1 t2 t3 t4 t5
end
theorem Wz {Goal:Prop} {K:PySem.W.Frag} {h:Heap} {mg:Str->Option Value} {P:Program} {w:World} {d a1 a2 a3 a4 a5 a6 a7 a8 a9 UL UM UN UO UP UQ:Addr} (X:K.In h) (G:h.Ns mainGlobals mg) (e:PySem.W.nsIn K mainGlobals "ANSWERING"=some (some (.ref d))) (k:xF K P w d [(Sum.inl 1,V.ref a1),(Sum.inl 2,V.ref a2),(Sum.inl 3,V.ref a3),(Sum.inl 4,V.ref a4),(Sum.inl 5,V.ref a5),(Sum.inl 6,V.ref a6),(Sum.inl 7,V.ref a7),(Sum.inl 8,V.ref a8),(Sum.inl 9,V.ref a9),(Sum.inl 10,V.ref UL),(Sum.inl 11,V.ref UM),(Sum.inl 12,V.ref UN),(Sum.inl 14,V.ref UO),(Sum.inl 15,V.ref UP),(Sum.inl 16,V.ref UQ)]) (n1:PySem.W.nsIn K mainGlobals "answer_panel"=some (some (.ref a1))) (n2:PySem.W.nsIn K mainGlobals "answer_first"=some (some (.ref a2))) (n3:PySem.W.nsIn K mainGlobals "answer_begin"=some (some (.ref a3))) (n4:PySem.W.nsIn K mainGlobals "answer_breed"=some (some (.ref a4))) (n5:PySem.W.nsIn K mainGlobals "answer_living"=some (some (.ref a5))) (n6:PySem.W.nsIn K mainGlobals "answer_one"=some (some (.ref a6))) (n7:PySem.W.nsIn K mainGlobals "answer_tree"=some (some (.ref a7))) (n8:PySem.W.nsIn K mainGlobals "answer_common"=some (some (.ref a8))) (n9:PySem.W.nsIn K mainGlobals "answer_score"=some (some (.ref a9))) (QU:PySem.W.nsIn K mainGlobals "answer_game"=some (some (.ref UL))) (n11:PySem.W.nsIn K mainGlobals "answer_change"=some (some (.ref UM))) (n12:PySem.W.nsIn K mainGlobals "answer_apart"=some (some (.ref UN))) (n14:PySem.W.nsIn K mainGlobals "answer_bests"=some (some (.ref UO))) (n15:PySem.W.nsIn K mainGlobals "answer_unlike"=some (some (.ref UP))) (n16:PySem.W.nsIn K mainGlobals "answer_counts"=some (some (.ref UQ)))
  (rest:∀ d a1 a2 a3 a4 a5 a6 a7 a8 a9 UL UM UN UO UP UQ,(∃ u,mg "ANSWERING"=some u/\RelV (.ref d) u)->xF K P w d [(Sum.inl 1,V.ref a1),(Sum.inl 2,V.ref a2),(Sum.inl 3,V.ref a3),(Sum.inl 4,V.ref a4),(Sum.inl 5,V.ref a5),(Sum.inl 6,V.ref a6),(Sum.inl 7,V.ref a7),(Sum.inl 8,V.ref a8),(Sum.inl 9,V.ref a9),(Sum.inl 10,V.ref UL),(Sum.inl 11,V.ref UM),(Sum.inl 12,V.ref UN),(Sum.inl 14,V.ref UO),(Sum.inl 15,V.ref UP),(Sum.inl 16,V.ref UQ)]->mg "answer_panel"=some (.ref a1)->mg "answer_first"=some (.ref a2)->mg "answer_begin"=some (.ref a3)->mg "answer_breed"=some (.ref a4)->mg "answer_living"=some (.ref a5)->mg "answer_one"=some (.ref a6)->mg "answer_tree"=some (.ref a7)->mg "answer_common"=some (.ref a8)->mg "answer_score"=some (.ref a9)->mg "answer_game"=some (.ref UL)->mg "answer_change"=some (.ref UM)->mg "answer_apart"=some (.ref UN)->mg "answer_bests"=some (.ref UO)->mg "answer_unlike"=some (.ref UP)->mg "answer_counts"=some (.ref UQ)->Goal):Goal:=
 rest d a1 a2 a3 a4 a5 a6 a7 a8 a9 UL UM UN UO UP UQ ⟨_,PySem.W.mg_of X G e,rfl⟩ k (PySem.W.mg_of X G n1) (PySem.W.mg_of X G n2) (PySem.W.mg_of X G n3) (PySem.W.mg_of X G n4) (PySem.W.mg_of X G n5) (PySem.W.mg_of X G n6) (PySem.W.mg_of X G n7) (PySem.W.mg_of X G n8) (PySem.W.mg_of X G n9) (PySem.W.mg_of X G QU) (PySem.W.mg_of X G n11) (PySem.W.mg_of X G n12) (PySem.W.mg_of X G n14) (PySem.W.mg_of X G n15) (PySem.W.mg_of X G n16)
theorem Rv {K:PySem.W.Frag} {f:Addr} {fd:FuncData} {mg:Str->Option Value} (F:Dn K mg "answers" zF f fd ["calls"]) {s:Shared} {us:List Value} (hu:us.length=(["calls"]:List Str).length):BindsTo s fd ⟨us,[]⟩ ((["calls"]:List Str).zip us):=by
 obtain ⟨oc,od,kV,doc,pm,an,bB,ct,Ih,rfl,lk,J9⟩:=F.fn.ex
 match us,hu with
 |[_],_=>exact .of_eq rfl
open PySem.W (Codec) in
theorem Rw {K:PySem.W.Frag} {ad:Ad} {H:Hp} {xs:List V} {a:Codec.denoteAll PySem.Challenge.rw_fighterbreeding_s01_answers.args} (hT:H ad.tb=some (.CC #[])) (Aw:Codec.app PySem.Challenge.rw_fighterbreeding_s01_answers.args PySem.Challenge.rw_fighterbreeding_s01_answers.asked a=true)
  (hx:qA K (Out [ad.tb] H) xs (Codec.encAll PySem.Challenge.rw_fighterbreeding_s01_answers.args a)):
  xg K ad xs H (fun v H'=>Dw K H' v (PySem.Challenge.rw_fighterbreeding_s01_answers.ret.enc (Codec.app PySem.Challenge.rw_fighterbreeding_s01_answers.args PySem.Challenge.rw_fighterbreeding_s01_answers.f a))) (fun _ _ _=>False):=by
 cases hx with
 |cons h1 h2=>
  cases h2;cases h1 with
  |lst hs ha=>
   have e:=L2.NK a.1 _ ha;subst e;exact ⟨_,a.1,rfl,hs,hT,Aw,fun H' p hp=>.lst (aH.of hp) (NJ _)⟩
end Fb
open PySem PySem.W PyProof.Rows
set_option maxRecDepth 100000 in
set_option maxHeartbeats 0 in
theorem PySem.Challenge.cw_fighterbreeding_s01_answers_holds : PySem.Challenge.rw_fighterbreeding_s01_answers.Holds := by
 w_on;k_headS;(case hw=>exact ⟨[.list [.int 14]],by decide+kernel,by decide+kernel⟩)
 k_fillS
 refine Fb.Ni (r:=PySem.Challenge.rw_fighterbreeding_s01_answers) (k:=15) (ps:=["calls"]) (xt:="in_order") (by decide+kernel) rfl rfl ⟨rfl,by decide,by decide⟩ (fun w h Y=>PySem.W.kIn_of Y) rfl ?F
 case F=>
  intro w mg fa h Y KX G hmg;refine' Fb.Ru (P:=PySem.Challenge.rw_fighterbreeding_s01_answers.prog) (w:=w) KX G ?e ?k ?t1 ?t2 ?t3 ?t4 ?t5 fun Zg b1 b2 b3 b4 b5 lZ l5 ab7 ab8 ab9 aca acb=>?r
  case e=>k_is
  case k=>
   refine' Fb.Rt ?l ?c ?n ?v
   (case l=>k_is);(case c=>exact rfl);(case n=>decide+kernel)
   case v=>exact .cons ⟨rfl,rfl⟩ (.cons ⟨rfl,rfl⟩ (.cons ⟨rfl,rfl⟩ (.cons ⟨rfl,rfl⟩ (.cons ⟨rfl,rfl⟩ .nil))))
  case t1=>
   refine' Fb.Lp ?l ?z ?v
   (case l=>k_is);(case z=>decide);(case v=>exact (.cons ⟨_,rfl⟩ (.cons ⟨_,rfl⟩ (.cons ⟨_,rfl⟩ .nil))))
  case t2=>
   refine' Fb.Lp ?l ?z ?v
   (case l=>k_is);(case z=>decide);(case v=>exact (.cons ⟨_,rfl⟩ (.cons ⟨_,rfl⟩ (.cons ⟨_,rfl⟩ (.cons ⟨_,rfl⟩ .nil)))))
  case t3=>
   refine' Fb.Lp ?l ?z ?v
   (case l=>k_is);(case z=>decide);(case v=>exact (.cons ⟨_,rfl⟩ .nil))
  case t4=>
   refine' Fb.Lp ?l ?z ?v
   (case l=>k_is);(case z=>decide);(case v=>exact (.cons ⟨_,rfl⟩ (.cons ⟨_,rfl⟩ .nil)))
  case t5=>
   refine' Fb.Lp ?l ?z ?v
   (case l=>k_is);(case z=>decide);(case v=>exact (.cons ⟨_,rfl⟩ (.cons ⟨_,rfl⟩ .nil)))
  case r=>
  refine' Fb.Wz (P:=PySem.Challenge.rw_fighterbreeding_s01_answers.prog) (w:=w) KX G ?e ?k ?n1 ?n2 ?n3 ?n4 ?n5 ?n6 ?n7 ?n8 ?n9 ?QU ?n11 ?n12 ?n14 ?n15 ?n16 fun Zh a1 a2 a3 a4 a5 a6 a7 a8 a9 UL UM UN UO UP UQ ua bf m1 m2 m3 m4 m5 m6 m7 m8 m9 m10 m11 m12 m14 m15 m16=>?r
  case e=>k_is
  case k=>
   refine' Fb.Rt ?l ?c ?n ?v
   (case l=>k_is);(case c=>exact rfl);(case n=>decide+kernel)
   case v=>exact (.cons ⟨rfl,rfl⟩ (.cons ⟨rfl,rfl⟩ (.cons ⟨rfl,rfl⟩ (.cons ⟨rfl,rfl⟩ (.cons ⟨rfl,rfl⟩ (.cons ⟨rfl,rfl⟩ (.cons ⟨rfl,rfl⟩ (.cons ⟨rfl,rfl⟩ (.cons ⟨rfl,rfl⟩ (.cons ⟨rfl,rfl⟩ (.cons ⟨rfl,rfl⟩ (.cons ⟨rfl,rfl⟩ (.cons ⟨rfl,rfl⟩ (.cons ⟨rfl,rfl⟩ (.cons ⟨rfl,rfl⟩ .nil)))))))))))))))
  case n1|n2|n3|n4|n5|n6|n7|n8|n9|QU|n11|n12|n14|n15|n16=>k_is
  case r=>
  refine' Fb.bU "OPS" 8 KX G ?a fun HH=>?r
  case a=>k_is
  case r=>
  refine' Fb.bU "POINT" 1 KX G ?a fun CN=>?r
  case a=>k_is
  case r=>
  refine' Fb.bU "PUT_IN" 2 KX G ?a fun Eb=>?r
  case a=>k_is
  case r=>
  refine' Fb.bU "TAKEN_OUT" 3 KX G ?a fun tV=>?r
  case a=>k_is
  case r=>
  refine' Fb.bU "DOUBLED" 4 KX G ?a fun zJ=>?r
  case a=>k_is
  case r=>
  refine' Fb.bU "CROSSED" 5 KX G ?a fun uJ=>?r
  case a=>k_is
  case r=>
  refine' Fb.bU "MOST_NUMBERS" 4 KX G ?a fun iP=>?r
  case a=>k_is
  case r=>
  refine' Fb.bU "DIE" 0 KX G ?a fun QC=>?r
  case a=>k_is
  case r=>
  refine' Fb.bU "COPY" 1 KX G ?a fun Mz=>?r
  case a=>k_is
  case r=>
  refine' Fb.bU "ADD" 2 KX G ?a fun QD=>?r
  case a=>k_is
  case r=>
  refine' Fb.bU "GO" 3 KX G ?a fun VH=>?r
  case a=>k_is
  case r=>
  refine' Fb.bU "GOIF" 4 KX G ?a fun MA=>?r
  case a=>k_is
  case r=>
  refine' Fb.bU "FORK" 5 KX G ?a fun MB=>?r
  case a=>k_is
  case r=>
  refine' Fb.bU "SET" 6 KX G ?a fun QE=>?r
  case a=>k_is
  case r=>
  refine' Fb.bU "SWAP" 7 KX G ?a fun MC=>?r
  case a=>k_is
  case r=>
  refine' Fb.Og "EMPTY_CELL" [.int 0,.int 0,.int 0] KX G ?e ?l ?z ?v fun c6 kL qe=>?r
  case e|l=>k_is
  (case z=>decide);(case v=>exact (.cons ⟨_,rfl⟩ (.cons ⟨_,rfl⟩ (.cons ⟨_,rfl⟩ .nil))))
  case r=>
  refine' Fb.bU "BOTH_LEFT" 0 KX G ?a fun tW=>?r
  case a=>k_is
  case r=>
  refine' Fb.bU "FIRST_ALONE" 1 KX G ?a fun oj=>?r
  case a=>k_is
  case r=>
  refine' Fb.bU "ELSE_LEFT" 2 KX G ?a fun tX=>?r
  case a=>k_is
  case r=>
  refine' Fb.Og "POINTS_OF_RESULT" [.int 1,.int 2,.int 0] KX G ?e ?l ?z ?v fun cM gS gT=>?r
  case e|l=>k_is
  (case z=>decide);(case v=>exact (.cons ⟨_,rfl⟩ (.cons ⟨_,rfl⟩ (.cons ⟨_,rfl⟩ .nil))))
  case r=>
  refine' Fb.bU "TOLD" 9 KX G ?a fun MD=>?r
  case a=>k_is
  case r=>
  refine' Fb.bU "DRAWN" 0 KX G ?a fun IL=>?r
  case a=>k_is
  case r=>
  refine' Fb.bU "MODULUS" 2147483647 KX G ?a fun pk=>?r
  case a=>k_is
  case r=>
  refine' Fb.bU "FACTOR" 48271 KX G ?a fun Ec=>?r
  case a=>k_is
  case r=>
  refine' Fb.bU "TIMES_AGAIN" 20 KX G ?a fun om=>?r
  case a=>k_is
  case r=>
  refine' Fb.bU "WRONG" (-1) KX G ?a fun gK=>?r
  case a=>k_is
  case r=>
  refine' Fb.bU "NO_WORLD" (-2) KX G ?a fun wR=>?r
  case a=>k_is
  case r=>
  refine' Fb.bU "TOO_LATE" (-3) KX G ?a fun l6=>?r
  case a=>k_is
  case r=>
  refine' Fb.bU "TOO_EARLY" (-4) KX G ?a fun ny=>?r
  case a=>k_is
  case r=>
  refine' Fb.bU "TOO_MANY" (-5) KX G ?a fun l7=>?r
  case a=>k_is
  case r=>
  refine' Fb.bU "NONE_SUCH" (-6) KX G ?a fun g9=>?r
  case a=>k_is
  case r=>
  refine' Fb.bU "TOO_MANY_BORN" (-8) KX G ?a fun j6=>?r
  case a=>k_is
  case r=>
  refine' Fb.bU "MOST_IN_PANEL" 4 KX G ?a fun j7=>?r
  case a=>k_is
  case r=>
  refine' Fb.bU "MOST_TOLD" 10 KX G ?a fun tY=>?r
  case a=>k_is
  case r=>
  refine' Fb.bU "MOST_BORN" 300 KX G ?a fun tZ=>?r
  case a=>k_is
  case r=>
  refine' Fb.bU "HOW_MANY_WEIGHTS" 5 KX G ?a fun gU=>?r
  case a=>k_is
  case r=>
  refine' Fb.bU "GREATEST_RECIPE_NUMBER" 1000 KX G ?a fun dk=>?r
  case a=>k_is
  case r=>
  refine' Fb.bU "GREATEST_DRAW_BOUND" 1000000 KX G ?a fun fi=>?r
  case a=>k_is
  case r=>
  refine' Fb.bU "MOST_DRAWS" 50 KX G ?a fun qf=>?r
  case a=>k_is
  case r=>
  refine' Fb.bU "NEW" 0 KX G ?a fun QF=>?r
  case a=>k_is
  case r=>
  refine' Fb.bU "DRAWS" 13 KX G ?a fun IM=>?r
  case a=>k_is
  case r=>
  refine' Fb.Og "HOW_MANY_NUMBERS" [.int 6,.int 0,.int 0,.int 6,.int 1,.int 1,.int 1,.int 1,.int 2,.int 0,.int 2,.int 1,.int 0,.int 3,.int 0,.int 0,.int 0] KX G ?e ?l ?z ?v fun cN gV gW=>?r
  case e|l=>k_is
  (case z=>decide);(case v=>exact (.cons ⟨_,rfl⟩ (.cons ⟨_,rfl⟩ (.cons ⟨_,rfl⟩ (.cons ⟨_,rfl⟩ (.cons ⟨_,rfl⟩ (.cons ⟨_,rfl⟩ (.cons ⟨_,rfl⟩ (.cons ⟨_,rfl⟩ (.cons ⟨_,rfl⟩ (.cons ⟨_,rfl⟩ (.cons ⟨_,rfl⟩ (.cons ⟨_,rfl⟩ (.cons ⟨_,rfl⟩ (.cons ⟨_,rfl⟩ (.cons ⟨_,rfl⟩ (.cons ⟨_,rfl⟩ (.cons ⟨_,rfl⟩ .nil))))))))))))))))))
  case r=>
  refine' Fb.Og "HOW_MANY_ROWS" [.int 0,.int 1,.int 1,.int 1,.int 0,.int 0,.int 0,.int 0,.int 0,.int 1,.int 2,.int 3,.int 2,.int 0,.int 0,.int 0,.int 0] KX G ?e ?l ?z ?v fun eB j8 j9=>?r
  case e|l=>k_is
  (case z=>decide);(case v=>exact (.cons ⟨_,rfl⟩ (.cons ⟨_,rfl⟩ (.cons ⟨_,rfl⟩ (.cons ⟨_,rfl⟩ (.cons ⟨_,rfl⟩ (.cons ⟨_,rfl⟩ (.cons ⟨_,rfl⟩ (.cons ⟨_,rfl⟩ (.cons ⟨_,rfl⟩ (.cons ⟨_,rfl⟩ (.cons ⟨_,rfl⟩ (.cons ⟨_,rfl⟩ (.cons ⟨_,rfl⟩ (.cons ⟨_,rfl⟩ (.cons ⟨_,rfl⟩ (.cons ⟨_,rfl⟩ (.cons ⟨_,rfl⟩ .nil))))))))))))))))))
  case r=>
  refine' Fb.ot "len" KX G ?a fun aX=>?r
  case a=>k_is
  case r=>
  refine' Fb.ot "sum" KX G ?a fun D9=>?r
  case a=>k_is
  case r=>
  refine' Fb.ot "min" KX G ?a fun KP=>?r
  case a=>k_is
  case r=>
  refine' Fb.ot "max" KX G ?a fun QB=>?r
  case a=>k_is
  case r=>
  refine' Fb.ot "all" KX G ?a fun HG=>?r
  case a=>k_is
  case r=>
  refine' Fb.ot "any" KX G ?a fun Uj=>?r
  case a=>k_is
  case r=>
  refine' Fb.ot "sorted" KX G ?a fun tU=>?r
  case a=>k_is
  case r=>
  refine' Fb.ot "list" KX G ?a fun Ea=>?r
  case a=>k_is
  case r=>
  refine' Fb.ot "tuple" KX G ?a fun CM=>?r
  case a=>k_is
  case r=>
  refine' Fb.ot "range" KX G ?a fun d9=>?r
  case a=>k_is
  case r=>
  refine' Fb.E1 "World" "World.__init__" Fb.vt (fun K C=>L2.aD K C "cells"/\L2.aD K C "hands"/\L2.aD K C "rounds"/\L2.aD K C "apart"/\L2.aD K C "longest"/\L2.aD K C "starts") KX G ?aC ?a1 ?i1 ?l ?c ?k ?pg ?hd ?po ?sa ?mk ?kc ?hp fun dZ kG eY II df Rx JK pX Ry=>?r
  case aC|a1|i1|l|c|k|pg|hd|po|sa|mk|kc=>k_is
  case hp=>refine ⟨?_,?_,?_,?_,?_,?_⟩<;>(show PySem.W.findIn _ _ _=_;k_is)
  case r=>
  obtain ⟨E3,E4,Cq,E5,Ax,Cr⟩:=Ry;refine' Fb.E1 "Ring" "Ring.__init__" Fb.xW (fun K C=>L2.aD K C "cells"/\L2.aD K C "hands"/\L2.aD K C "turn"/\L2.aD K C "left"/\L2.aD K C "most") KX G ?aC ?a1 ?i1 ?l ?c ?k ?pg ?hd ?po ?sa ?mk ?kc ?hp fun gQ ni fS Mw fj IV Lq tM TJ=>?r
  case aC|a1|i1|l|c|k|pg|hd|po|sa|mk|kc=>k_is
  case hp=>refine ⟨?_,?_,?_,?_,?_⟩<;>(show PySem.W.findIn _ _ _=_;k_is)
  case r=>
  obtain ⟨Gp,Gq,JL,JM,JN⟩:=TJ;refine' Fb.E1 "Somebody" "Somebody.__init__" Fb.oS (fun K C=>L2.aD K C "program"/\L2.aD K C "score"/\L2.aD K C "generation"/\L2.aD K C "parents"/\L2.aD K C "recipe"/\L2.aD K C "steps") KX G ?aC ?a1 ?i1 ?l ?c ?k ?pg ?hd ?po ?sa ?mk ?kc ?hp fun bK gJ cI wQ bE Lr Cs jY Ls=>?r
  case aC|a1|i1|l|c|k|pg|hd|po|sa|mk|kc=>k_is
  case hp=>refine ⟨?_,?_,?_,?_,?_,?_⟩<;>(show PySem.W.findIn _ _ _=_;k_is)
  case r=>
  obtain ⟨uX,y9,qw,uY,xh,za⟩:=Ls;refine' Fb.E1 "Rates" "Rates.__init__" Fb.vy (fun K C=>L2.aD K C "islands"/\L2.aD K C "size"/\L2.aD K C "elite"/\L2.aD K C "pick"/\L2.aD K C "every"/\L2.aD K C "weights") KX G ?aC ?a1 ?i1 ?l ?c ?k ?pg ?hd ?po ?sa ?mk ?kc ?hp fun d7 kH eZ IJ dg Rz JO pY RA=>?r
  case aC|a1|i1|l|c|k|pg|hd|po|sa|mk|kc=>k_is
  case hp=>refine ⟨?_,?_,?_,?_,?_,?_⟩<;>(show PySem.W.findIn _ _ _=_;k_is)
  case r=>
  obtain ⟨Ay,Gs,E6,Gu,E7,Az⟩:=RA;refine' Fb.E1 "Arena" "Arena.__init__" Fb.vz (fun K C=>L2.aD K C "world"/\L2.aD K C "panel"/\L2.aD K C "born"/\L2.aD K C "rates"/\L2.aD K C "draws"/\L2.aD K C "rows"/\L2.aD K C "generation"/\L2.aD K C "bests") KX G ?aC ?a1 ?i1 ?l ?c ?k ?pg ?hd ?po ?sa ?mk ?kc ?hp fun bJ kI fb IK bD RB JP pZ RC=>?r
  case aC|a1|i1|l|c|k|pg|hd|po|sa|mk|kc=>k_is
  case hp=>refine ⟨?_,?_,?_,?_,?_,?_,?_,?_⟩<;>(show PySem.W.findIn _ _ _=_;k_is)
  case r=>
  obtain ⟨E8,E9,Gv,Fc,Fd,Gw,uZ,Fe⟩:=RC;refine' Fb.E1 "Draws" "Draws.__init__" Fb.vH (fun K C=>L2.aD K C "number"/\∃ f fd,L2.Meth K C "below" f/\L2.Iw K "below" "Draws.below" Fb.nU f fd/\L2.Binds K fd ["self","m"] []) KX G ?aC ?a1 ?i1 ?l ?c ?k ?pg ?hd ?po ?sa ?mk ?kc ?hp fun iA kJ fe CL dS RD JQ kK RE=>?r
  case aC|a1|i1|l|c|k|pg|hd|po|sa|mk|kc=>k_is
  case hp=>
   refine ⟨(by show PySem.W.findIn _ _ _=_;k_is),?_⟩;refine' Fb.Wy ?a ?i ?l ?c ?k
   case a|i|l|c|k=>k_is
  case r=>
  obtain ⟨Ct,⟨jA,dI,Gx,Gy,bQ⟩⟩:=RE;refine' Fb.E1 "Line" "Line.__init__" Fb.yc (fun K C=>L2.aD K C "arena") KX G ?aC ?a1 ?i1 ?l ?c ?k ?pg ?hd ?po ?sa ?mk ?kc ?hp fun lF nt fT My yH TK Lu tN TL=>?r
  case aC|a1|i1|l|c|k|pg|hd|po|sa|mk|kc=>k_is
  case hp=>show PySem.W.findIn _ _ _=_;k_is
  case r=>
  have Gz:=TL;refine' Fb.aL "is_within" Fb.xV KX G ?a ?l ?c ?k fun BH iB Lv=>?r
  case a|l|c|k=>k_is
  case r=>
  refine' Fb.aL "cells_of_row" Fb.qN KX G ?a ?l ?c ?k fun uo eD Ff=>?r
  case a|l|c|k=>k_is
  case r=>
  refine' Fb.aL "row_of_cells" Fb.qO KX G ?a ?l ?c ?k fun uq eE Fg=>?r
  case a|l|c|k=>k_is
  case r=>
  refine' Fb.aL "is_cell" Fb.DE KX G ?a ?l ?c ?k fun HS lG Pg=>?r
  case a|l|c|k=>k_is
  case r=>
  refine' Fb.aL "is_program_row" Fb.mX KX G ?a ?l ?c ?k fun pF c7 AA=>?r
  case a|l|c|k=>k_is
  case r=>
  refine' Fb.aL "pointed" Fb.DF KX G ?a ?l ?c ?k fun HU lH Ph=>?r
  case a|l|c|k=>k_is
  case r=>
  refine' Fb.aL "with_one_more" Fb.oN KX G ?a ?l ?c ?k fun rG dB Cu=>?r
  case a|l|c|k=>k_is
  case r=>
  refine' Fb.aL "with_one_less" Fb.oO KX G ?a ?l ?c ?k fun rH dC Cv=>?r
  case a|l|c|k=>k_is
  case r=>
  refine' Fb.aL "doubled" Fb.DG KX G ?a ?l ?c ?k fun HV lI Pj=>?r
  case a|l|c|k=>k_is
  case r=>
  refine' Fb.aL "crossed" Fb.DH KX G ?a ?l ?c ?k fun HW lJ Pk=>?r
  case a|l|c|k=>k_is
  case r=>
  refine' Fb.aL "uncut_change" Fb.qP KX G ?a ?l ?c ?k fun ur eF Fh=>?r
  case a|l|c|k=>k_is
  case r=>
  refine' Fb.aL "changed" Fb.DI KX G ?a ?l ?c ?k fun HX lK Pl=>?r
  case a|l|c|k=>k_is
  case r=>
  refine' Fb.aL "numbers_drawn" Fb.oP KX G ?a ?l ?c ?k fun rJ dD Cw=>?r
  case a|l|c|k=>k_is
  case r=>
  refine' Fb.aL "has_ended" Fb.xX KX G ?a ?l ?c ?k fun BI iC Lw=>?r
  case a|l|c|k=>k_is
  case r=>
  refine' Fb.aL "write_cells" Fb.sU KX G ?a ?l ?c ?k fun wg fw GA=>?r
  case a|l|c|k=>k_is
  case r=>
  refine' Fb.aL "places_behind" Fb.oQ KX G ?a ?l ?c ?k fun rK dE Cy=>?r
  case a|l|c|k=>k_is
  case r=>
  refine' Fb.aL "take_turn" Fb.xY KX G ?a ?l ?c ?k fun BJ iD Lx=>?r
  case a|l|c|k=>k_is
  case r=>
  refine' Fb.aL "run_to_end" Fb.vw KX G ?a ?l ?c ?k fun zb gq JR=>?r
  case a|l|c|k=>k_is
  case r=>
  refine' Fb.aL "how_many_starts" Fb.lA KX G ?a ?l ?c ?k fun nH cO zc=>?r
  case a|l|c|k=>k_is
  case r=>
  refine' Fb.aL "starts_played" Fb.oR KX G ?a ?l ?c ?k fun rL dF Cz=>?r
  case a|l|c|k=>k_is
  case r=>
  refine' Fb.aL "ring_before" Fb.sV KX G ?a ?l ?c ?k fun wj fz GB=>?r
  case a|l|c|k=>k_is
  case r=>
  refine' Fb.aL "result_of_ring" Fb.mY KX G ?a ?l ?c ?k fun pG c8 AB=>?r
  case a|l|c|k=>k_is
  case r=>
  refine' Fb.aL "ring_behind" Fb.sW KX G ?a ?l ?c ?k fun wk fA GC=>?r
  case a|l|c|k=>k_is
  case r=>
  refine' Fb.aL "turns_done" Fb.vx KX G ?a ?l ?c ?k fun zd gr JS=>?r
  case a|l|c|k=>k_is
  case r=>
  refine' Fb.aL "game_points" Fb.sX KX G ?a ?l ?c ?k fun wm fB GD=>?r
  case a|l|c|k=>k_is
  case r=>
  refine' Fb.aL "points_against" Fb.mZ KX G ?a ?l ?c ?k fun pH c9 AD=>?r
  case a|l|c|k=>k_is
  case r=>
  refine' Fb.aL "points_against_each" Fb.ij KX G ?a ?l ?c ?k fun ja bT rX=>?r
  case a|l|c|k=>k_is
  case r=>
  refine' Fb.aL "score_of" Fb.Bf KX G ?a ?l ?c ?k fun Fi jI Nk=>?r
  case a|l|c|k=>k_is
  case r=>
  refine' Fb.aL "steps_back" Fb.vA KX G ?a ?l ?c ?k fun ze gs JT=>?r
  case a|l|c|k=>k_is
  case r=>
  refine' Fb.aL "bear" Fb.NS KX G ?a ?l ?c ?k fun RF yp WA=>?r
  case a|l|c|k=>k_is
  case r=>
  refine' Fb.aL "bear_told" Fb.xZ KX G ?a ?l ?c ?k fun BK iE Ly=>?r
  case a|l|c|k=>k_is
  case r=>
  refine' Fb.aL "bear_drawn" Fb.vB KX G ?a ?l ?c ?k fun zf gu JU=>?r
  case a|l|c|k=>k_is
  case r=>
  refine' Fb.Zf "in_order" Fb.sY KX G ?a ?l ?c ?k ?l2 ?v ?n fun Fj gZ cc tb Nl HN acd WZ=>?r
  case a|l|c|k|l2=>k_is
  (case v=>exact rfl);(case n=>kernel_rfl)
  case r=>
  refine' Fb.aL "best_scores" Fb.sZ KX G ?a ?l ?c ?k fun wo fC GF=>?r
  case a|l|c|k=>k_is
  case r=>
  refine' Fb.aL "living_programs" Fb.lB KX G ?a ?l ?c ?k fun nI cP zg=>?r
  case a|l|c|k=>k_is
  case r=>
  refine' Fb.aL "first_ones" Fb.vC KX G ?a ?l ?c ?k fun zh gv JV=>?r
  case a|l|c|k=>k_is
  case r=>
  refine' Fb.aL "begin_breeding" Fb.nc KX G ?a ?l ?c ?k fun pI da AE=>?r
  case a|l|c|k=>k_is
  case r=>
  refine' Fb.aL "picked" Fb.Hm KX G ?a ?l ?c ?k fun Lz o8 RG=>?r
  case a|l|c|k=>k_is
  case r=>
  refine' Fb.aL "kind_drawn" Fb.vD KX G ?a ?l ?c ?k fun zi gw JW=>?r
  case a|l|c|k=>k_is
  case r=>
  refine' Fb.aL "bear_child" Fb.vE KX G ?a ?l ?c ?k fun zj gx JX=>?r
  case a|l|c|k=>k_is
  case r=>
  refine' Fb.aL "row_behind" Fb.vF KX G ?a ?l ?c ?k fun zk gy JY=>?r
  case a|l|c|k=>k_is
  case r=>
  refine' Fb.aL "is_time_to_go_over" Fb.i7 KX G ?a ?l ?c ?k fun jO bX uu=>?r
  case a|l|c|k=>k_is
  case r=>
  refine' Fb.aL "go_over" Fb.DJ KX G ?a ?l ?c ?k fun HY lL Pn=>?r
  case a|l|c|k=>k_is
  case r=>
  refine' Fb.aL "breed_generation" Fb.ko KX G ?a ?l ?c ?k fun mE cy xi=>?r
  case a|l|c|k=>k_is
  case r=>
  refine' Fb.aL "born_behind" Fb.tj KX G ?a ?l ?c ?k fun wq fD GG=>?r
  case a|l|c|k=>k_is
  case r=>
  refine' Fb.aL "distances_with" Fb.ng KX G ?a ?l ?c ?k fun pJ dc AF=>?r
  case a|l|c|k=>k_is
  case r=>
  refine' Fb.aL "how_far_apart" Fb.oT KX G ?a ?l ?c ?k fun rM dG CA=>?r
  case a|l|c|k=>k_is
  case r=>
  refine' Fb.aL "is_draw_number" Fb.nh KX G ?a ?l ?c ?k fun pK de AG=>?r
  case a|l|c|k=>k_is
  case r=>
  refine' Fb.aL "number_behind" Fb.oU KX G ?a ?l ?c ?k fun rN dH CB=>?r
  case a|l|c|k=>k_is
  case r=>
  refine' Fb.aL "fair_bound" Fb.vG KX G ?a ?l ?c ?k fun zl gz JZ=>?r
  case a|l|c|k=>k_is
  case r=>
  refine' Fb.aL "family_of" Fb.x9 KX G ?a ?l ?c ?k fun BL iF LA=>?r
  case a|l|c|k=>k_is
  case r=>
  refine' Fb.aL "forebears" Fb.ya KX G ?a ?l ?c ?k fun BM iG LB=>?r
  case a|l|c|k=>k_is
  case r=>
  refine' Fb.aL "in_common" Fb.yb KX G ?a ?l ?c ?k fun BN iH LC=>?r
  case a|l|c|k=>k_is
  case r=>
  refine' Fb.aL "with_rows" Fb.yd KX G ?a ?l ?c ?k fun BO iI LD=>?r
  case a|l|c|k=>k_is
  case r=>
  refine' Fb.aL "is_world" Fb.Bg KX G ?a ?l ?c ?k fun Fl jJ Nm=>?r
  case a|l|c|k=>k_is
  case r=>
  refine' Fb.aL "answer_new" Fb.vJ KX G ?a ?l ?c ?k fun zm gA J0=>?r
  case a|l|c|k=>k_is
  case r=>
  refine' Fb.aL "has_begun" Fb.ye KX G ?a ?l ?c ?k fun BP iJ LF=>?r
  case a|l|c|k=>k_is
  case r=>
  refine' Fb.aL "answer_panel" Fb.qQ KX G ?a ?l ?c ?k fun mF eG uv=>?r
  case a|l|c|k=>k_is
  case r=>
  refine' Fb.aL "answer_first" Fb.qR KX G ?a ?l ?c ?k fun mG eI uw=>?r
  case a|l|c|k=>k_is
  case r=>
  refine' Fb.aL "are_weights" Fb.tm KX G ?a ?l ?c ?k fun wt fE GH=>?r
  case a|l|c|k=>k_is
  case r=>
  refine' Fb.aL "are_rates" Fb.yf KX G ?a ?l ?c ?k fun BQ iK LG=>?r
  case a|l|c|k=>k_is
  case r=>
  refine' Fb.aL "answer_begin" Fb.qS KX G ?a ?l ?c ?k fun mH eJ ux=>?r
  case a|l|c|k=>k_is
  case r=>
  refine' Fb.aL "answer_breed" Fb.qT KX G ?a ?l ?c ?k fun mI eO uy=>?r
  case a|l|c|k=>k_is
  case r=>
  refine' Fb.aL "answer_living" Fb.oV KX G ?a ?l ?c ?k fun kg dJ rO=>?r
  case a|l|c|k=>k_is
  case r=>
  refine' Fb.aL "is_somebody" Fb.tp KX G ?a ?l ?c ?k fun wu fF GI=>?r
  case a|l|c|k=>k_is
  case r=>
  refine' Fb.aL "answer_one" Fb.vK KX G ?a ?l ?c ?k fun qx gB zo=>?r
  case a|l|c|k=>k_is
  case r=>
  refine' Fb.aL "answer_tree" Fb.tq KX G ?a ?l ?c ?k fun ow fG wx=>?r
  case a|l|c|k=>k_is
  case r=>
  refine' Fb.aL "answer_common" Fb.oW KX G ?a ?l ?c ?k fun kh dN rP=>?r
  case a|l|c|k=>k_is
  case r=>
  refine' Fb.aL "are_program_rows" Fb.kq KX G ?a ?l ?c ?k fun mJ cz xj=>?r
  case a|l|c|k=>k_is
  case r=>
  refine' Fb.aL "answer_score" Fb.qU KX G ?a ?l ?c ?k fun mK eQ uz=>?r
  case a|l|c|k=>k_is
  case r=>
  refine' Fb.aL "is_game" Fb.DL KX G ?a ?l ?c ?k fun HZ lM Po=>?r
  case a|l|c|k=>k_is
  case r=>
  refine' Fb.aL "answer_game" Fb.tu KX G ?a ?l ?c ?k fun ox fH wy=>?r
  case a|l|c|k=>k_is
  case r=>
  refine' Fb.aL "is_recipe" Fb.yg KX G ?a ?l ?c ?k fun BR iL LH=>?r
  case a|l|c|k=>k_is
  case r=>
  refine' Fb.aL "answer_change" Fb.oX KX G ?a ?l ?c ?k fun kl dO rQ=>?r
  case a|l|c|k=>k_is
  case r=>
  refine' Fb.aL "answer_apart" Fb.qV KX G ?a ?l ?c ?k fun mL eR uA=>?r
  case a|l|c|k=>k_is
  case r=>
  refine' Fb.aL "are_draws" Fb.yh KX G ?a ?l ?c ?k fun BS iM LI=>?r
  case a|l|c|k=>k_is
  case r=>
  refine' Fb.aL "answer_draws" Fb.qW KX G ?a ?l ?c ?k fun uB eS Fm=>?r
  case a|l|c|k=>k_is
  case r=>
  refine' Fb.aL "answer_bests" Fb.qX KX G ?a ?l ?c ?k fun mM eT uC=>?r
  case a|l|c|k=>k_is
  case r=>
  refine' Fb.aL "answer_unlike" Fb.oY KX G ?a ?l ?c ?k fun km dP rR=>?r
  case a|l|c|k=>k_is
  case r=>
  refine' Fb.aL "draw_number_now" Fb.lC KX G ?a ?l ?c ?k fun nJ cQ zp=>?r
  case a|l|c|k=>k_is
  case r=>
  refine' Fb.aL "answer_counts" Fb.oZ KX G ?a ?l ?c ?k fun kn dQ rS=>?r
  case a|l|c|k=>k_is
  case r=>
  refine' Fb.aL "answer_call" Fb.tw KX G ?a ?l ?c ?k fun wz fI GJ=>?r
  case a|l|c|k=>k_is
  case r=>
  refine' Fb.aL "rows_from" Fb.yi KX G ?a ?l ?c ?k fun BU iN LJ=>?r
  case a|l|c|k=>k_is
  case r=>
  refine' Fb.aL "place_behind" Fb.qY KX G ?a ?l ?c ?k fun uD eU Fn=>?r
  case a|l|c|k=>k_is
  case r=>
  refine' Fb.aL "answers" Fb.DM KX G ?a ?l ?c ?k fun AH jr AI=>?r
  case a|l|c|k=>k_is
  case r=>
  obtain rfl:mF=a1:=PySem.Value.ref.inj (Option.some.inj (uv.gl.symm.trans m1));obtain rfl:mG=a2:=PySem.Value.ref.inj (Option.some.inj (uw.gl.symm.trans m2));obtain rfl:mH=a3:=PySem.Value.ref.inj (Option.some.inj (ux.gl.symm.trans m3));obtain rfl:mI=a4:=PySem.Value.ref.inj (Option.some.inj (uy.gl.symm.trans m4));obtain rfl:kg=a5:=PySem.Value.ref.inj (Option.some.inj (rO.gl.symm.trans m5));obtain rfl:qx=a6:=PySem.Value.ref.inj (Option.some.inj (zo.gl.symm.trans m6));obtain rfl:ow=a7:=PySem.Value.ref.inj (Option.some.inj (wx.gl.symm.trans m7));obtain rfl:kh=a8:=PySem.Value.ref.inj (Option.some.inj (rP.gl.symm.trans m8));obtain rfl:mK=a9:=PySem.Value.ref.inj (Option.some.inj (uz.gl.symm.trans m9));obtain rfl:ox=UL:=PySem.Value.ref.inj (Option.some.inj (wy.gl.symm.trans m10));obtain rfl:kl=UM:=PySem.Value.ref.inj (Option.some.inj (rQ.gl.symm.trans m11));obtain rfl:mL=UN:=PySem.Value.ref.inj (Option.some.inj (uA.gl.symm.trans m12));obtain rfl:mM=UO:=PySem.Value.ref.inj (Option.some.inj (uC.gl.symm.trans m14))
  obtain rfl:km=UP:=PySem.Value.ref.inj (Option.some.inj (rR.gl.symm.trans m15));obtain rfl:kn=UQ:=PySem.Value.ref.inj (Option.some.inj (rS.gl.symm.trans m16));obtain rfl:AH=fa:=PySem.Value.ref.inj (Option.some.inj (AI.gl.symm.trans hmg))
  have T:∀ base:PySem.Heap,PySem.W.CodeHd base cc tb->base.BuiltinsAt mg tb->Fb.Tx PySem.Challenge.rw_fighterbreeding_s01_answers.prog w _ mg base (Fb.Ad.mk tb kG BH uo uq HS pF HU rG rH HV HW ur HX rJ ni BI wg rK BJ zb nH rL wj pG wk zd wm pH ja Fi gJ kH kI ze RF BK zf Fj wo nI zh pI Lz zi zj zk jO HY mE wq pJ rM pK rN zl kJ jA BL BM BN nt BO Fl zm BP mF mG wt BQ mH mI kg wu qx ow kh mJ mK HZ ox BR kl mL BS uB mM km nJ kn wz BU uD AH dZ gQ bK d7 bJ iA lF Zg b1 b2 b3 b4 b5 c6 cM cN eB Zh eY iB eD eE lG c7 lH dB dC lI lJ eF lK dD fS iC fw dE iD gq cO dF fz c8 fA gr fB c9 bT jI cI eZ fb gs yp iE gu gZ fC cP gv da o8 gw gx gy bX lL cy fD dc dG de dH gz fe dI iF iG iH fT iI jJ gA iJ eG eI fE iK eJ eO dJ fF gB fG dN cz eQ lM fH iL dO eR iM eS eT dP cQ dQ fI iN eU jr):=fun base cb bb=>Fb.Tx.mk bb ⟨cc,HN,cb⟩ JK pX Lv Ff Fg Pg AA Ph Cu Cv Pj Pk Fh Pl Cw Lq tM Lw GA Cy Lx JR zc Cz GB AB GC JS GD AD rX Nk Cs jY JO pY JP pZ JT WA Ly JU Nl GF zg JV AE RG JW JX JY uu Pn xi GG AF CA AG CB JZ JQ kK Gy bQ Gx LA LB LC Lu tN LD Nm J0 LF uv uw GH LG ux uy rO GI zo wx rP xj uz Po wy LH rQ uA LI Fm uC rR zp rS GJ LJ Fn AI II df Rx E3 E4 Cq E5 Ax Cr Mw fj IV Gp Gq JL JM JN wQ bE Lr uX y9 qw uY xh za IJ dg Rz Ay Gs E6 Gu E7 Az IK bD RB E8 E9 Gv Fc Fd Gw uZ Fe CL dS RD Ct My yH TK Gz aX D9 KP QB HG Uj tU Ea CM d9 HH CN Eb tV zJ uJ iP lZ ab7 ab8 ab9 aca acb l5 QC Mz QD VH MA MB QE MC kL qe tW oj tX gS gT MD IL pk Ec om gK wR l6 ny l7 g9 j6 j7 tY tZ gU dk fi qf QF IM gV gW j8 j9 ua bf
  refine ⟨jr,cc,tb,Fb.xg _ (Fb.Ad.mk tb kG BH uo uq HS pF HU rG rH HV HW ur HX rJ ni BI wg rK BJ zb nH rL wj pG wk zd wm pH ja Fi gJ kH kI ze RF BK zf Fj wo nI zh pI Lz zi zj zk jO HY mE wq pJ rM pK rN zl kJ jA BL BM BN nt BO Fl zm BP mF mG wt BQ mH mI kg wu qx ow kh mJ mK HZ ox BR kl mL BS uB mM km nJ kn wz BU uD AH dZ gQ bK d7 bJ iA lF Zg b1 b2 b3 b4 b5 c6 cM cN eB Zh eY iB eD eE lG c7 lH dB dC lI lJ eF lK dD fS iC fw dE iD gq cO dF fz c8 fA gr fB c9 bT jI cI eZ fb gs yp iE gu gZ fC cP gv da o8 gw gx gy bX lL cy fD dc dG de dH gz fe dI iF iG iH fT iI jJ gA iJ eG eI fE iK eJ eO dJ fF gB fG dN cz eQ lM fH iL dO eR iM eS eT dP cQ dQ fI iN eU jr),acd,WZ,fun s us hu=>Fb.Rv AI hu,fun base _ _ cb bb=>Fb.Ng (T base cb bb),?S⟩
  intro H xs a hT hwi Aw hx;exact Fb.Rw hT Aw hx
