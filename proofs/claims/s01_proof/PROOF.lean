import PyProof.Rows.All
import Wide.All
import OpenK.AllK
import Wide.FinOn
import PyProof.EqAt
import PyProof.EqKinds
import PyProof.TupleCall
import Open.SpecLaws
import KE.OsHead
import KE.OsGo
import KE.BitLaws
import PyProof.ExcBaseAll.Exception
import KE.KTryMore
import PyProof.ExcArgsOwn
import PyProof.ExcAttrAll.Exception
import PyProof.NsDelKeeps
import PyProof.RulesAs
import PyProof.FString
import KE.KDictOf
import Sz07Spec
import PySem.Str
import PyProof.StrBlockL
import KE.IntTextLaws
import PySz07
import PySem.Challenge.RW_stackwords_s01_answers
set_option Elab.async false
set_option linter.all false
set_option maxRecDepth 100000
set_option maxHeartbeats 4000000
set_option compiler.extract_closed false
namespace PySem.W.Fast
def tw15977322168892925222:=()
def tw10507361590393707544:=()
def tw13547595801998006797:=()
def tw9982863593897420556:=()
def tw14649834040967504913:=()
def tw15560722243862136576:=()
def tw16095639540251210006:=()
def tw10280074645816488329:=()
def tw6249308789977472640:=()
def tw4352509809424505858:=()
def tw11853452740634494543:=()
def tw7369846797209781602:=()
def tw16312122699132818072:=()
def tw10300301865785431690:=()
def tw11321610635751114608:=()
def tw16000860952720840098:=()
def tw6449922937535918712:=()
def tw8286345883029012791:=()
def tw402925272481128349:=()
def tw3201010237550538137:=()
def tw2015887685830742106:=()
def tw1956548576858543744:=()
def tw3118005319328762773:=()
def tw10700855520545247528:=()
def tw5723558007781343877:=()
def tw335662444505253598:=()
def tw16167301776126532557:=()
def tw11928599824026160124:=()
def tw5924388762822317770:=()
def tw986317787534940436:=()
def tw2964842448621314871:=()
def tw7352329588881880430:=()
def tw7329091001790233934:=()
def tw7742853729562183888:=()
def tw6555469112270812450:=()
def tw12146164096328564020:=()
def tw17139315240518552115:=()
def tw18069459725509907604:=()
def tw4668484404709637870:=()
def tw1254130505246107275:=()
def tw7868618706641755023:=()
def tw3876679340037906092:=()
def tw16288302446314722682:=()
def tw5362684641445138274:=()
def tw12051144148579836695:=()
def tw12614223352140037547:=()
def tw6981589600274355969:=()
def tw13669288988209826674:=()
def tw16884539039491914367:=()
def tw11639803480386686096:=()
def tw4919067230912925806:=()
def tw18414384889078599158:=()
def tw14884435059930676068:=()
def tw13650798569607548752:=()
def tw7981663898561480208:=()
def tw16221392811554712061:=()
def tw2748873890987266467:=()
def tw15663640417691376975:=()
def tw5443824898007346321:=()
def tw17536707110446377667:=()
def tw18295356641727285852:=()
def tw10504642553945563572:=()
def tw7772374461340165615:=()
def tw3831724808574448217:=()
def tw4686454057942235438:=()
def tw6347712219481188927:=()
def tw4380733274104995096:=()
def tw8051982834693444155:=()
def tw7362733129615954925:=()
def tw15718310590355683906:=()
def tw12262426938219928438:=()
def tw11933253684129285961:=()
def tw4705902320885821613:=()
def tw13667181526401518122:=()
def tw3982711020312265532:=()
def tw11561641644177358573:=()
def tw6736154103584058665:=()
def tw4927795175907535712:=()
def tw10817965017813011782:=()
def tw11356954928557896692:=()
def tw14849383949468811573:=()
def tw12627991787763711157:=()
def tw2376598802402589613:=()
def tw2952590652939296654:=()
def tw13794962513571082547:=()
def tw13946903754845403471:=()
def tw4161003747848016326:=()
def tw18118284171760209332:=()
def tw16529616852983013183:=()
def tw9949241415654690155:=()
def tw4120333837976991330:=()
def tw14190570742757943721:=()
def tw4913820452619196156:=()
def tw15060635507829838777:=()
def tw9932794481793804971:=()
def tw1394427353497508437:=()
def tw17431912445133150397:=()
def tw9376063760629227380:=()
def tw596427517791084756:=()
def tw14169152037588834694:=()
def tw1148920489915575470:=()
def tw7016030019828811872:=()
def tw8963293250724360360:=()
def tw16185538170538688612:=()
def tw11420823942469322434:=()
def tw3601937437501763879:=()
def tw325520452300895941:=()
def tw17091890361131612755:=()
def tw6193478907381947779:=()
def tw9972732719487614375:=()
def tw12493936450442973911:=()
def tw10794742291201702585:=()
def tw3045523625830922120:=()
def tw6223604079797884089:=()
def tw9251094059971664815:=()
def tw18323902194282432542:=()
def tw7338567712569768804:=()
def tw8256840516453763998:=()
def tw4222974984716770330:=()
def tw10829937861506204995:=()
def tw9721491061057369548:=()
def tw11105411355727382988:=()
def tw16647306851000987056:=()
def tw14385008741279107315:=()
def tw2043420292415587187:=()
def tw13808291999566179383:=()
def tw685929764023087996:=()
def tw6912653739262704482:=()
def tw18164709561450648814:=()
def tw405497600723017582:=()
def tw5697072279107807215:=()
def tw7058329871840424327:=()
def tw3055562227034968353:=()
def tw4772217651545013890:=()
def tw13985793123766235753:=()
def tw2592182024703452480:=()
def tw4348108598156483290:=()
def tw524563046520603680:=()
def tw12125090667804069231:=()
def tw17569855176617670897:=()
def tw3941874972053899305:=()
def tw13151974831133779843:=()
def tw18125728474008862541:=()
def tw803992226410388233:=()
def tw4803330341901436292:=()
def tw3956514702605144590:=()
def tw6393079388959644429:=()
def tw1597207901663568835:=()
def tw408681261147981604:=()
def tw8640790977314011569:=()
def tw2910998936797931401:=()
def tw8464063284579095094:=()
def tw17234919966439751095:=()
def tw4084587113721924441:=()
def tw14865782211888262674:=()
def tw301102838110188888:=()
def tw4988896759772803877:=()
def tw6542752375182603530:=()
def tw5004630715706542594:=()
def tw17921794585276557228:=()
def tw1898824087218851857:=()
def tw14711287596534489127:=()
def tw14541408687483692089:=()
def tw9977233223493168800:=()
def tw13649828093639937747:=()
def tw3652829809004849920:=()
def tw18331180553224743864:=()
def tw12049088880630532291:=()
def tw343837740103301313:=()
def tw14904539384262631033:=()
def tw14609365032012528056:=()
def tw8551481027649504049:=()
def tw4363900380108634084:=()
def tw11531317291571879647:=()
def tw7141692369718520445:=()
def tw9185960900167696607:=()
def tw1468795542211414027:=()
def tw7980184274280420393:=()
def tw12817000044731704345:=()
def tw10626073333907880548:=()
def tw133129719452816784:=()
def tw6704865943772773818:=()
def tw3184741986380453157:=()
def tw11117241930081602473:=()
def tw3567988376146521364:=()
def tw11535437800645030146:=()
def tw2925489264226854439:=()
def tw12328461190209522498:=()
def tw8114629905755835658:=()
def tw14056151227111885353:=()
def tw3354757499504945513:=()
def tw5603714311605562878:=()
def tw11040386390940914234:=()
def tw15363391364827414702:=()
def tw7416851423824504118:=()
def tw13490684462993913496:=()
def tw5454430095071694441:=()
def tw7402994542263053752:=()
def tw12033865345074921583:=()
def tw6098699171647473771:=()
def tw7803625502959431795:=()
def tw12957266618074843527:=()
def tw1916385169556545667:=()
def tw850205957574574339:=()
def tw267705963927670809:=()
def tw7660133846729749153:=()
def tw4193384286467968791:=()
def tw15751131707230493019:=()
def tw7351102283125242400:=()
def tw15334496968188466205:=()
def tw16614044886605376532:=()
def tw18054413364975216533:=()
def tw9614390717211885504:=()
def tw4125062400327343760:=()
def tw7898635844932006737:=()
def tw18092281318496772474:=()
def tw8880155025387015295:=()
def tw6993362795210733198:=()
def tw18102853943445026298:=()
def tw16620230380354787497:=()
def tw7767935380830428457:=()
def tw10255815283259248399:=()
def tw16511680246803539625:=()
def tw13249406532764800293:=()
def tw12642116081403809260:=()
def tw11966809260105412342:=()
def tw9416221699689340847:=()
def tw16526005355702478441:=()
def tw17215413435143767318:=()
def tw1456620155049286132:=()
def tw15223817188095021151:=()
def tw14605109873794365813:=()
def tw13008718588410698188:=()
def tw7986956031240408951:=()
def tw4185086419263413067:=()
def tw17394018231698434834:=()
def tw18137017792294872249:=()
def tw6878222563053242849:=()
def tw6395606712099363604:=()
def tw9808369512159959258:=()
def tw8775447624154075922:=()
def tw13399369437097374758:=()
def tw5265856653599477192:=()
def tw7794434791620995683:=()
def tw6161394575162677096:=()
def tw3103139732198183287:=()
def tw13383598080817615931:=()
def tw8177810010111631588:=()
def tw17791595524008097675:=()
def tw9771572384491866913:=()
def tw9739467845752389744:=()
def tw10096423630190557677:=()
def tw1140972370252397936:=()
def tw13082505152885134186:=()
def tw12204058458543594319:=()
def tw10577476835325635163:=()
def tw11011541380752945371:=()
def tw6430694631088277389:=()
def tw1774869930466463868:=()
def tw7398997999455632071:=()
def tw9111581333231299095:=()
def tw7877762380807561763:=()
def tw8968188029481289466:=()
def tw15130720593181190581:=()
def tw7769713235727522358:=()
def tw1307427716899263458:=()
def tw1786835711435420780:=()
def tw14957895130689368608:=()
def tw11787020297147786276:=()
def tw3265498492868145754:=()
def tw6658594516522352539:=()
def tw15036774355252231126:=()
def tw7732349010293238574:=()
def tw9076563244279538219:=()
def tw17240075871274520252:=()
def tw17167150544636180320:=()
def tw5497618056770689862:=()
def tw17179681210709697705:=()
def tw14943390886451034040:=()
def tw13393614288599873993:=()
def tw1385416514981208408:=()
def tw9630642526284440847:=()
def tw12952155922800343246:=()
def tw13481795255887393919:=()
def tw911404075889877166:=()
def tw3569044761600561461:=()
def tw13551655910847692379:=()
def tw13279531027232434585:=()
def tw12052245116360202700:=()
def tw15030799852430052751:=()
def tw8995389397620407596:=()
def tw3903614555094250256:=()
def tw12061811286004766053:=()
def tw824051422655881939:=()
def tw4297315454999131184:=()
def tw12526574373238471856:=()
def tw14642953724645709645:=()
def tw1254211807185512322:=()
def tw5414664778561311736:=()
def tw2164293498297314903:=()
def tw2336100424256662168:=()
def tw17862863324660961383:=()
def tw14173788463017724385:=()
def tw8913850286009305015:=()
def tw7995041020471141216:=()
def tw11383603801016399904:=()
def tw17819575155015189311:=()
def tw10068163568217421844:=()
def tw2012526364991571716:=()
def tw4483378933057263337:=()
def tw16651271653800351466:=()
def tw11695166709844137630:=()
def tw6579290175955831052:=()
def tw11609882934534452862:=()
def tw5532763476424425553:=()
def tw18066940694497801167:=()
def tw9666816061669545220:=()
def tw12924287357152146815:=()
def tw10630614088912824490:=()
def tw5047162796260986684:=()
def tw6928543000431422237:=()
def tw16591767333441556537:=()
def tw11281295788911999574:=()
def tw1618426561936483550:=()
def tw15273307871721538603:=()
def tw822588032547231101:=()
def tw12751929051941266601:=()
def tw13075166757579549840:=()
def tw3948348960588383008:=()
def tw4897343263947828940:=()
def tw17623800418296382222:=()
def tw14115679160183464331:=()
def tw2516500389976570705:=()
def tw6449292903241808502:=()
def tw15255184676757405112:=()
def tw6933936929246311214:=()
def tw6561011096034614886:=()
def tw12170209129801103323:=()
def tw8610634666010519486:=()
def tw1548209717702425362:=()
def tw10426966069595436699:=()
def tw8641716962839031140:=()
def tw16584749820080525561:=()
def tw8833818782481532314:=()
def tw8536662471024622075:=()
def tw756883036497091796:=()
def tw6036629972727356373:=()
def tw7830333951092890106:=()
def tw6865299814870675554:=()
def tw14266065204833304668:=()
def tw10542638118031896013:=()
def tw7409889996548806470:=()
def tw10093945342404335033:=()
def tw11099579889244320707:=()
def tw16030465705615363572:=()
def tw12457761206310578551:=()
def tw13300579890970127258:=()
def tw7677635643068543413:=()
def tw12565822878475612898:=()
def tw511290316825264273:=()
def tw4090522494224352359:=()
def tw18367083778244786353:=()
def tw17128372692995068238:=()
def tw17862274711778365829:=()
def tw10122568191249795336:=()
def tw18069477893347803386:=()
def tw11703959357104901690:=()
def tw9432812664640946703:=()
def tw11919746374733507672:=()
def tw17377595919404392989:=()
def tw10283557642714812157:=()
def tw5610091219871856563:=()
def tw3933078062378403774:=()
def tw16477488962277680776:=()
def tw10516348028550050893:=()
def tw9216162349363966353:=()
def tw11648611443660968491:=()
def tw6395501003539453180:=()
def tw6158577216832806806:=()
def tw5591446735958596854:=()
def tw167827126780475134:=()
def tw12827700379520623178:=()
def tw12577109261821828233:=()
def tw9685449147150223269:=()
def tw7798315529868230080:=()
def tw6592025994181655946:=()
def tw1312495493643381554:=()
def tw12081904298429491329:=()
def tw3046584798967586729:=()
def tw8517515331270477909:=()
def tw6201649620321989279:=()
def tw3893105335502853625:=()
def tw13507534962373857362:=()
def tw2412467122785728419:=()
def tw13617726866193908184:=()
def tw16503637076421457530:=()
def tw669555034195574802:=()
def tw4952066485267345592:=()
def tw100740712921561527:=()
def tw8396387709497109729:=()
def tw17584108031119097048:=()
def tw14184942366276798577:=()
def tw5495339872579293717:=()
def tw8255627320056439041:=()
def tw14816773867305613896:=()
def tw7795567112945057540:=()
def tw16557399840596662879:=()
def tw14397770068338413053:=()
def tw13022137924531057936:=()
def tw6323784444057931534:=()
def tw4053799984901677849:=()
def tw17682220434100129746:=()
def tw12454698410563439828:=()
def tw1538151588025120671:=()
def tw13238940585599182482:=()
def tw4819306473303159121:=()
def tw677856248070271964:=()
def tw18154693786695806411:=()
def tw1612037629606461296:=()
def tw197737253927791137:=()
def tw12994249388368032822:=()
def tw12723223760225460756:=()
def tw524529021444590270:=()
def tw6806783661219735622:=()
def tw4805041267359455308:=()
def tw583013558791031080:=()
def tw16811264553915651409:=()
def tw14480469618640751822:=()
def tw6863003185314997193:=()
def tw8470894223780426187:=()
def tw17521624329060319644:=()
def tw10197881376083450531:=()
def tw13697241680728974083:=()
def tw9564649771851230547:=()
def tw4870929646279248161:=()
def tw4643403463335234568:=()
def tw12172313992102410780:=()
def tw8241849272122996856:=()
def tw4623720651127896803:=()
def tw15320154021694903127:=()
def tw11118315422724450240:=()
def tw9717883911773392710:=()
def tw15402206354829621499:=()
def tw5792579610611444488:=()
def tw12611354199015466355:=()
def tw14485303068179598211:=()
def tw11008903120211268691:=()
def tw11311429758505359700:=()
def tw11379752956080361453:=()
def tw3262459578968452982:=()
def tw4131922973734767224:=()
def tw3166439990098969825:=()
def tw17964387450455684392:=()
def tw13050453760103830544:=()
def tw4129177684011871143:=()
def tw2225482015576905525:=()
def tw2106768311572086685:=()
def tw18082949994894509606:=()
def tw17224231312034754632:=()
def tw13449898550026813952:=()
def tw10633247258595204298:=()
def tw8509539584907491494:=()
def tw1327425303748993244:=()
def tw7252015499798489339:=()
def tw4454983005703975366:=()
def tw7598540018049427987:=()
def tw4599619998297173862:=()
def tw8505245895473688767:=()
def tw12702909439162554410:=()
def tw9420405371863118661:=()
def tw8119570136845299815:=()
def tw5857461490719461887:=()
def tw1689781339754059863:=()
def tw10663149753316621887:=()
def tw4998898787097174093:=()
def tw17810449622419646372:=()
def tw14556175808611832381:=()
def tw1051783928083893212:=()
def tw4050141048036780808:=()
def tw16704473855799980431:=()
def tw16001358750525638746:=()
def tw15151909225795932816:=()
def tw3128983243478853495:=()
def tw749247016314620970:=()
def tw6308231998473721601:=()
def tw4692745610723030943:=()
def tw422818922680886083:=()
def tw18286096858565441112:=()
def tw11049411586354321843:=()
def tw13927220024488817376:=()
def tw13154342661995224268:=()
def tw9806273593156548025:=()
def tw8593055423365176085:=()
def tw6894353259592685306:=()
def tw5197386266912706857:=()
def tw2272008871494504292:=()
def tw16581478429206761888:=()
def tw16113731284710585209:=()
def tw15589817119340282469:=()
def tw12444139996615864013:=()
def tw11896990380429964036:=()
def tw11402083909409128709:=()
def tw10959775911024643008:=()
def tw10266925721229668592:=()
def tw17383015988282583677:=()
def tw17648307605433125321:=()
def tw5625048050384219343:=()
def tw17399897996412721661:=()
def tw17214359113598559430:=()
def tw237003118268913095:=()
def tw8659915867423983033:=()
def tw7657841493757974656:=()
def tw345297769437436233:=()
def tw3272713693830585470:=()
def tw8850201802206029846:=()
def tw87372852250160254:=()
def tw8369940353059689611:=()
def tw5598098033212946254:=()
def tw452923886918691366:=()
def tw17013691914019071419:=()
def tw16218861926684319823:=()
def tw1168826906646424628:=()
def tw11617372799986701532:=()
def tw15321198142960808550:=()
def tw9151870990217724234:=()
def tw8045306045591065078:=()
def tw6916350281226222486:=()
def tw5292714975337268442:=()
def tw4091008695169276843:=()
def tw3829277773931749487:=()
def tw2358156974179265340:=()
def tw16727334332379244207:=()
def tw15376981042811364473:=()
def tw14937280226848818217:=()
def tw14051426747589250408:=()
def tw13645956101363798023:=()
def tw13214963509188403166:=()
def tw1318230208873048427:=()
def tw11870933271209475219:=()
def tw11643198625399382207:=()
def tw1127919479354582672:=()
def tw17598897403628984630:=()
def tw3577172814596333068:=()
def tw18359414511335765919:=()
def tw16663445959000292208:=()
def tw12300971531719090364:=()
def tw15257063235212608532:=()
def tw12358920873967826968:=()
def tw2845175122012094859:=()
def tw1918947009741829962:=()
def tw16811514483166968882:=()
def tw15904904666607494107:=()
def tw14193194868649764081:=()
def tw4752247634329709330:=()
def tw1210975817433353389:=()
def tw9584371564454958693:=()
def tw694347717255291981:=()
def tw556321626618689705:=()
def tw4631356856789817476:=()
def tw161724287770188954:=()
def tw14807481357659764689:=()
def tw14597653669155938809:=()
def tw14402767643457946466:=()
def tw13799809837909461741:=()
def tw13672280906095376053:=()
def tw12635742854550790754:=()
def tw8774505755801881301:=()
def tw639762810128117194:=()
def tw4390715749811929080:=()
def tw3860472200306149774:=()
def tw285237961404005168:=()
def tw16587793903987506560:=()
def tw14795458799432607805:=()
def tw13490179169176239067:=()
def tw871042230679411057:=()
def tw4725746009838184525:=()
def tw1561113980098816765:=()
def tw15536265205121665809:=()
def tw11383952275206552354:=()
def tw9542069525207717961:=()
def tw8018999103599358480:=()
def tw7924685201703773695:=()
def tw7418576682233242116:=()
def tw6691558246236540313:=()
def tw667245476516235059:=()
def tw5283802357527888680:=()
def tw4883553321047395019:=()
def tw4506034615355835380:=()
def tw4044558649787304670:=()
def tw4029109410260797388:=()
def tw3765513432472371030:=()
def tw359021429444522095:=()
def tw2744943786751978528:=()
def tw2550188709233280886:=()
def tw2519481998348486850:=()
def tw2324704052212513098:=()
def tw2096223841808565346:=()
def tw17533525569018087555:=()
def tw17298446646558455937:=()
def tw16346244428877796479:=()
def tw16180875727249554758:=()
def tw15607784170054006281:=()
def tw14438406763774726287:=()
def tw14391061581438177656:=()
def tw12073663899128855618:=()
def tw10627925824795248715:=()
def tw1044489901702439736:=()
def tw10065467504729096119:=()
def tw3042671366150310064:=()
def tw2026564505652946453:=()
def tw15975467358339984905:=()
def tw10770303452410648217:=()
def tw9786576492556755225:=()
def tw883423345219666431:=()
def tw9479686521496771920:=()
def tw17691239550036723322:=()
def tw14489405099102895342:=()
def tw13267229940466158867:=()
def tw18371864852185899761:=()
def tw6857893334356917033:=()
def tw13498444879537654142:=()
def tw10812080648983512623:=()
def tw5060249931782216656:=()
def tw14333457137982740151:=()
def tw14099506126827314373:=()
def tw6958907751929283084:=()
def tw653351848878966583:=()
def tw583016100879535047:=()
def tw2829136503970719940:=()
def tw17788044305331393803:=()
def tw17375249397587549108:=()
def tw15873311438897034267:=()
def tw15004972791933892762:=()
def tw14868938696893546401:=()
def tw11569042148721150417:=()
def tw11384641200659281341:=()
end PySem.W.Fast
section
open PySem PySem.W PyProof.Rows
local macro_rules| `(tactic|o_law)=>`(tactic|skip)
local macro_rules| `(tactic|k_head)=>`(tactic|k_headS)
local macro_rules| `(tactic|w_witness2)=>`(tactic|exact⟨[.list [.int 1]],by decide,by decide⟩)
namespace SW
set_option maxRecDepth 100000 in
set_option maxHeartbeats 0 in
open_top hd for PySem.Challenge.rw_stackwords_s01_answers
end SW
end
open And renaming intro->xQ
open Array renaming append_assoc->Ob,getElem?_eq_some_iff->CT,getElem?_toList->abm,length_toList->Oe,toList->CH
open BitVec renaming toNat_ofNat->Di
open Bool renaming and_eq_true->lM,and_eq_true_iff->abz,and_true->ON,eq_false_iff->yq,eq_iff_iff->uq,false_and->Of,false_eq_true->xP,false_ne_true->fQ,noConfusion->ko,or_eq_true->C9,or_false->CK,or_true->OK,true_and->Dn
open Char renaming toNat->CQ
open False renaming elim->fc
open ForInStep renaming yield->CO
open Int renaming neg_neg->yu,neg_tmod->C8,tdiv->rZ,tdiv_eq_ediv_of_nonneg->Dc,tmod->jx,tmod_eq_emod_of_nonneg->Dd,tmod_nonneg->C7,toNat_natCast->uz,toNat_of_nonneg->yt
open List renaming all_eq_true->lO,any_cons->iV,any_eq_false->xX,any_eq_true->lN,any_map->yg,any_reverse->Dq,append_assoc->ir,append_nil->kW,cons_append->jn,contains_cons->uI,dropWhile_cons_of_neg->OZ,dropWhile_cons_of_pos->uQ,dropWhile_sublist->yo,drop_drop->rW,drop_eq_getElem_cons->uN,drop_eq_nil_of_le->abI,drop_reverse->OR,drop_sublist->OW,drop_succ_cons->yE,drop_zero->k8,eq_of_mem_replicate->abD,eraseIdxIfInBounds_toArray->abn,extract_eq_drop_take->abK,extract_toArray->abJ,filterMap_cons->pW,find?_cons->oJ,findSome?_cons->Dj,flatMap_append->Dg,flatMap_cons->yx,flatMap_nil->OV,flatten_cons->ye,foldl->yf,foldl_cons->rP,getD_eq_getElem?_getD->gJ,getElem?_append_left->yb,getElem?_append_right->CJ,getElem?_cons_succ->uj,getElem?_cons_zero->N5,getElem?_drop->yG,getElem?_eq_getElem->f7,getElem?_eq_none->OG,getElem?_eq_none_iff->abL,getElem?_eq_some_iff->cP,getElem?_map->dX,getElem?_of_mem->yr,getElem?_reverse->rV,getElem?_set_ne->uk,getElem?_set_self->ki,getElem?_take_of_lt->abh,length->gI,length_append->eQ,length_cons->aA,length_drop->fh,length_filterMap_le->abM,length_map->bK,length_nil->jG,length_replicate->OA,length_reverse->bN,length_set->uC,length_take->eI,lookup->oG,lookup_cons->ke,map->kq,map_append->eY,map_congr_left->OJ,map_cons->d6,map_drop->yF,map_map->pZ,map_nil->CD,map_reverse->O2,map_set->yp,map_take->uO,mem_append->cS,mem_append_left->c7,mem_append_right->bX,mem_cons->br,mem_cons_of_mem->bP,mem_cons_self->cw,mem_flatMap->mZ,mem_map->iW,mem_of_find?_eq_some->abE,mem_of_getElem?->dR,mem_of_mem_drop->rX,mem_of_mem_take->lP,mem_or_eq_of_mem_set->f8,mem_range->Oc,mem_singleton->eR,nil_append->N4,nodup_append->mY,nodup_cons->eG,nodup_nil->r6,not_mem_nil->gK,of_mem_zip->Oz,pairwise_append->uL,pairwise_singleton->abB,range->rJ,replicate->dN,replicate_succ->uD,reverse->kZ,reverse_append->OU,reverse_cons->kn,set_cons_succ->CF,size_toArray->dO,sum_cons->OQ,takeWhile_cons->De,takeWhile_cons_of_neg->qa,takeWhile_cons_of_pos->k6,takeWhile_sublist->abC,take_length->oO,take_nil->O4,take_of_length_le->r8,take_sublist->uy,take_succ_cons->yw,take_succ_eq_append_getElem->m3,take_zero->OO,toList_toArray->rR
open List.cons renaming injEq->aa5
open Nat renaming add_sub_cancel_left->yH,and_le_left->p8,eq_of_testBit_eq->p7,le_of_eq->oH,le_of_lt->xU,le_of_succ_le->rQ,le_refl->bY,le_succ->ya,le_trans->dM,lt_irrefl->lJ,lt_of_le_of_lt->uG,lt_of_lt_of_le->eO,lt_of_not_le->rY,lt_succ_of_lt->CN,lt_succ_self->uu,min_eq_left->oN,min_eq_right->O3,mod_eq_of_lt->Dh,mul_comm->CM,ne_of_lt->eX,or_lt_two_pow->yy,pow_le_pow_right->abH,succ_le_succ->OE,testBit_and->jK,testBit_or->p9,testBit_xor->yB,toDigits->yk,xor_lt_two_pow->OY,zero_le->cI,zero_testBit->OX
open Ne renaming symm->cM
open Option renaming bind_eq_some_iff->CV,bind_some->CU,isSome_iff_exists->abg,isSome_map->OH,isSome_none->sh,isSome_some->oI,map_eq_some_iff->jt,map_some->yh,none->CS
open Option.some renaming inj->fz,injEq->N6
open Or renaming inl->eN,inr->pU
open PyFlat renaming calls->Dr,rows->Ds
open PyInside renaming within->Dt
open PyProof.Rows renaming AllBare->oE,callWith_type1->abi
open PySem renaming Addr->ae,Around->cv,BindsTo->uw,DictEntry->yj,Expr->bq,FuncData->gH,GenState->xV,Keyword->rN,NameKind->iU,Obj->a9,Operator->uo,Params->kX,Pos->cx,Program->bv,Scope->fI,Shared->ay,Stmt->aH,Str->af,Value->ag,Within->N9,World->bf,attributeBase->km,backTo->dU,binaryOp->gy,bootBuiltins->jo,call->OM,cellsFrom->gn,compareOp->fA,evalArgs_none->abl,keywordEach->jr,mainGlobals->dE,mem_of_lookup->js,model->aU,sizeLine->bE,sizeLine_eq->bR,starEach->b8,tupleKind_room_in1->yi,wpAny->aW,wpAny_Call_Name_kw->rM,wpAny_bind->bT,wpAny_execs_nil->um,wpAny_loadPart_at->rS,wpAny_mono->jH,wpAny_passesOwn->rK,wpAny_pure->dW,wpAny_truthy_bool->mX,wpAt_of_wpAny->abr
open PySem.Around renaming under->Ov
open PySem.Builtin renaming bitAnd->Og,bitNot->dF,bitOr->Oh,bitXor->Oi
open PySem.Builtin renaming bitAnd->uP,bitOr->yz,bitXor->yA
open PySem.Builtin.List renaming listTooLong->CL
open PySem.Builtin.ObjectAttr renaming storeInDict->abw
open PySem.Builtin.Str renaming strSliceIndices->oK
open PySem.Calls renaming Constant_str->Od,Name_function_global->aa8,callWith_builtin->yd,evalArgs_plain->OD,spliced_cons->Oy,spliced_nil->Ox
open PySem.Code renaming isFrame->Ow
open PySem.Data renaming seq->CZ
open PySem.EntryCells renaming newEntry->abq
open PySem.F renaming args_dict_get_2->abp,entry_dict_get->abo,plainAttrs_dict->CP,plainAttrs_list->gk,slot_dict_get->OI,slot_dict_update->C0,slot_list_clear->abF,slot_list_extend->OS,slot_list_pop->ju,type_dict_update->O5,type_list_clear->abG,type_list_extend->OT,type_list_pop->jw
open PySem.Heap renaming SameBut->CG,get?_push_of_some->eP,get?_push_size->iS,get?_update_ne->abv,get?_update_other->uB,get?_update_self->uA,lt_size->cY,size_push->kj
open PySem.Heap.Ns1 renaming of_empty->abc
open PySem.NameKind renaming cell->OF,free->uE
open PySem.Obj renaming data_mapFields->uH,isFreed_of_fields->yl,mapFields->iX,mapSeq->yc
open PySem.SeqAt renaming EqAt->OB,notIn_tupleAt->abk
open PySem.SeqAt.EqAt renaming int_str->aa6,same->abj,str_int->aa7,str_str->OC
open PySem.Str renaming empty->jq,ofString->d7
open PySem.StrLaws renaming sliceText->uF
open PySem.Unicode renaming isDigit->Dm
open PySem.Value renaming bool->rH,builtin->rT,float->N8,int->kh,none->gm,ref->b7,str->xR,type->lI
open PySem.Value.type renaming inj->abA
open PySem.W renaming Frag->ax,InitBack->abb,InstAt->Oj,WData->fi,WRecords->abx,WalkOS->OL,WellAll->oM,callWith_K->ux,callWith_K0->CI,cellsFrom_some->abf,check_slot->abu,codeIn->rO,emptyDict->oF,exmOne->kY,findIn->dQ,findObj_own->aa9,fnOf->lL,handedIn->Ol,hasDictIn->pX,instObj->pV,isFn->xY,keepIn->iG,kia_one->lK,kitOne->iT,kitx_dict->abe,kitx_list->abd,length_le_weightAllW->aby,lookIn->xW,looks_clsIn->Oo,looks_findIn->x8,looks_mroIn->abt,makesIn->Oq,methodCall_KW->x9,methodObj->Oa,mroIn->uv,nsIn->eS,plainGet->rL,plainGet_of->Om,plainOver->xZ,set_plain->aba,specialIn->ur,takerIn->x6,takesIn->Ou,typeIn->Ot
open PySem.W.Codec renaming app->ym,denoteAll->CW,encAll->uJ
open PySem.W.Looks renaming here->pY
open PySem.W.WData renaming weightAll->CY
open PySz07 renaming answers->yI,answers_asked->abN,whole->ss
open String renaming toList_ofList->O1
open Sum renaming inl->bZ,inr->cX
open Sum.inl renaming inj->N7
open Sum.inr renaming inj->xS
open Sz07 renaming Bytes->bO,FRAMES->C4,FULL->yD,Frame->cZ,Heap->b9,HeapFine->uK,M->aY,NEWER->sj,OPEN->yC,R->cD,RANGE->eZ,TYPE->dq,Tok->eT,UNDER->cE,UNKNOWN->qc,V->aB,WORDS->jJ,ascii->iJ,bits->lQ,blank->r9,dec->Dl,decimal->se,digit->iI,does->yn,entry->kr,isLoop->k9,isMark->de,isState->fS,logic->gp,nest->iY,newer->jI,number->m4,plain->cF,run->oP,same->uM,saying->qb,setAt->gL,start->jy,step->fj,steps->gM,tells->C1,text->sf,thing->p6,tokens->iH,two->f6,wrap->eB
open Sz07.Frame renaming code->uT
open Sz07.M renaming define->C5,frame->C3,newArray->C6,with_->OP
open Sz07.Tok renaming thing->Dk
open Sz07.V renaming int->uR
open Sz07Neutral renaming octets->lR,step->sr
open True renaming intro->fg
open UInt8 renaming ofNat->uS,toNat->fR,toNat_inj->Df,toNat_ofNat'->O0
set_option hygiene false
local macro_rules
 | `(Zs $i $s $e)=>`(Du (i:=$i) ($s).nd rfl (by first|exact eN rfl|exact pU rfl) $e)
 | `(Zf $g $d $o $a*)=>`(O6 M $g $d ($o T M) (hr.cG (by decide)) (fT (E:=E)) (Zy $a*))
 | `(Zo $e $m $o $a*)=>`(yJ $e $m ($o T M) (hr.cG (by decide)) (fT (E:=E)) (Zy $a*))
 | `(Zv $e $m $o $a*)=>`(O7 $e $m ($o T M) (hr.cG (by decide)) (fT (E:=E)) (Zy $a*))
 | `(Zw $e $m $o)=>`(O8 $e $m ($o T M) (hr.cG (by decide)) (fT (E:=E)))
 | `(Zm $k $o $g $d $a*)=>`(O9 $k ($o T M) (hr.cG (by decide)) rfl (M.val _ _ $g) ($d).bd .nil (fT (E:=E)) (Zy $a*))
 | `(Zr $x $r $o $d $g)=>`(Pa (E:=E) ⟨($x).c,$r⟩ $x ($o T M) (hr.cG (by decide)) ($d).bd rfl (M.val _ _ $g) rfl fT)
 | `(Zi $e)=>`(sw yK $e aS (fun _ _=>rfl))
 | `(Zn $e)=>`(sw fK $e (fq lS aS) (fun _ _=>rfl))
 | `(Zx $k $a $b)=>`(sw $k $a $b (fun _ _=>rfl))
 | `(Zd 0)=>`(Dv (pw 0) rfl)
 | `(Ze $e)=>`(Dv $e rfl)
 | `(Zl $l $e)=>`(jL $l rfl (M.aO _ T.Pb) PySem.boot_len (jz $e gq))
 | `(Zc $o $a $b)=>`(qe $o $a $b (gz _))
 | `(Zp $o $a $b)=>`(Pc $o $a $b (gz _))
 | `(Za $m $o $e)=>`(m5 gk PySem.F.slot_list_append PySem.F.type_list_append $m $o (jz $e gq))
 | `(Zt $a*)=>`(Dx (Zy $a*))
 | `(Zz $c $s)=>`(fB $c (cg $s) lT)
 | `(Zy $e)=>`(jz $e gq)
 | `(Zy $e $a*)=>`(jz $e (Zy $a*))
 | `(Zq $a $b)=>`(Dy $a (cg $b))
 | `(Zq $a $b*)=>`(Dy $a (Zq $b*))
 | `(Zk $a $b)=>`(uU $a (cg $b))
 | `(Zk $a $b*)=>`(uU $a (Zk $b*))
 | `(ZF $k $x $p $s)=>`(uV P w K mg base $k (ak K $x) $p $s)
 | `(ZM $k $c $m $p $s)=>`(uV P w K mg base $k (cj K $c $m) $p $s)
 | `(ZB $d $s)=>`(($d).ok $s (fun vs H Q E h=>?_) (fun cdv A bp s H vs Q E hr h=>?_))
 | `(ZC $d $s)=>`(($d).ok $s (fun vs H Q E h=>by obtain⟨m,g,M0,rfl,_⟩:=h;rfl) (fun cdv A bp s H vs Q E hr h=>?_))
 | `(ZS $a $b $s)=>`(oQ $a $b (eU $s))
 | `(ZS $a $s)=>`(oQ $a $a (eU $s))
 | `(ZI $i $j)=>`(Pd (bC $i) $j)
 | `(ZW $x $f $d $o)=>`(⟨$x,ak K $f,rfl,.inr (by decide),by decide,($d).fn.kp,($d).bd,(show uW $x=bD $x from funext fun M=>if_neg (by decide))▸dG.cG ($o T M) (by decide)⟩)
 | `(ZN $a $b)=>`(((($a):af)= $b)=False)
 | `(ZN $a $b $c*)=>`((((($a):af)= $b)=False)/\ZN $a $c*)
 | `(ZE $a $b)=>`(((($a):af)==$b)=false)
 | `(ZE $a $b $c*)=>`((((($a):af)==$b)=false)/\ZE $a $c*)
local macro_rules| `(tactic|walk_at "zx")=>`(tactic|first|exact bL h|(rcases st with _|⟨_,_⟩<;>exact bL h)|(rcases st with _|⟨_,_|⟨_,_⟩⟩<;>exact bL h)|(rcases st with _|⟨_,_|⟨_,_|⟨_,_⟩⟩⟩<;>exact bL h))
local macro_rules| `(tactic|intros)=>`(tactic|first|exact bL h|cases h)
local macro_rules| `(tactic|symm)=>`(tactic|exact⟨rfl,rfl,rfl,by decide +kernel,rfl,by decide +kernel,by decide +kernel⟩)
local macro_rules| `(tactic|nofun)=>`(tactic|obtain⟨m,g,M0,rfl,I,W,q⟩:=h)
local macro_rules| `(tactic|walk_at "zh")=>`(tactic|(have hm:=I.cy;have hc:=T.dA;have ha:=T.gA;have hs:=I.au;have hz:=W.aR.stack;have hzf:=W.aR.frames))
local macro_rules| `(tactic|walk_at "zg")=>`(tactic|(have hm:=I.cy;have hc:=T.dA;have ha:=T.gA;have hs:=I.au;have hz:=W.aR.stack))
local macro_rules| `(tactic|decide)=>`(tactic|decide +kernel)
local macro_rules| `(tactic|simp only[b0,$xs,*])=>`(tactic|simp only[L2.start,d6,CD,aA,jG,Nat.reduceAdd,Nat.reduceSub,dN,jn,N4,kW,List.set_cons_zero,CF,m6,yL,sx,tB,m7,uX,sy,oR,lU,lc,iZ,fU,tC,yM,lV,qf,yN,sA,oS,oU,Dz,yO,yP,yQ,yR,sC,qg,yS,yT,rI,iK,rU,yU,yV,yW,yX,uY,yY,yZ,qh,sD,N5,uj,N6,V.ref.injEq,V.int.injEq,V.bl.injEq,V.str.injEq,HO.ai.injEq,HO.aj.injEq,HO.aP.injEq,HO.dK.injEq,aa5,and_true,true_and,and_self,and_assoc,exists_and_left,exists_eq_left',exists_eq_left,exists_eq,decide_eq_true_eq,y3,DA,DB,DC,Pe,Pf,Pg,DD,DE,y6,uZ,DF,ne_eq,not_false_eq_true,$xs,*])
local macro_rules| `(tactic|simp only[b1,$xs,*])=>`(tactic|simp only[b0,oV,y8,m8,lW,vU,qj,qk,y9,u0,ql,qm,za,qo,sE,zb,Ph,Pj,Pk,decide_true,decide_false,Bool.not_true,Bool.not_false,xP,reduceIte,DG,Pl,zc,ze,Pn,Po,Pp,DH,DI,Pq,$xs,*])
local macro_rules| `(tactic|walk_at "rd0")=>`(tactic|simp only[b1, *])
local macro_rules| `(tactic|walk_at "rd")=>`(tactic|((try refine qp ?_);(try walk_at "rd0");repeat(refine qp ?_;try walk_at "rd0")))
local macro_rules| `(tactic|right)=>`(tactic|try(refine qp ?_;try walk_at "rd"))
local macro_rules| `(tactic|walk_at "ds")=>`(tactic|dsimp only[Ps,Pt,mC,mN,aC,aN,sZ,sS,Pu,Pw,Px,Py,L2.start,Nat.reduceSub,Nat.reduceAdd,y8,lW,vU,y9,u0,za,zb,m6,yL,sx,tB,m7,uX,sy,oR,lc,iZ,tC,yM,lV,qf,yN,sA,oS,yO,yP,yQ,yR,sC,qg,yS,yT,yW,yX,uY,yZ,qh,sD,y6,uZ,DF,u1,aQ,zg,zh,zi,zj,zn,DJ,zp,u5,zq,zr,zt,zw])
local macro_rules| `(tactic|walk_at "sa")=>`(tactic|first|assumption|exact az)
local macro_rules| `(tactic|walk_at "st")=>`(tactic|first
 |with_reducible refine qp ?_
 |((with_reducible refine' Pz ?e ?c ?n ?l ?_);(case e=>walk_at "sa");(case c=>assumption);(case n=>assumption);(case l=>rfl))
 |((with_reducible refine' i4 ?e ?c ?n ?l ?_);(case e=>walk_at "sa");(case c=>assumption);(case n=>assumption);(case l=>rfl))
 |((with_reducible refine' PB ?e ?l ?_);(case e=>walk_at "sa");(case l=>rfl))
 |((with_reducible refine' PD ?e ?l ?_);(case e=>walk_at "sa");(case l=>first|assumption|rfl|exact y3 _|exact DA _|exact DB _|exact DC _))
 |((with_reducible refine' PF ?e ?_);(case e=>walk_at "sa"))
 |((with_reducible refine' xQ (a:=qr _ _ _ _) ?t ?_);(case t=>assumption))
 |((with_reducible refine' PH ?e ?l ?_);(case e=>walk_at "sa");(case l=>first|assumption|rfl))
 |((with_reducible refine' PJ ?e ?_);(case e=>walk_at "sa")))
local macro_rules| `(tactic|left)=>`(tactic|((try walk_at "ds");(repeat(walk_at "st";try walk_at "ds"));try walk_at "rd"))
local macro_rules| `(tactic|simp only[b2,$xs,*])=>`(tactic|simp only[b1,u1,PK,ke,List.lookup_nil,zg,zh,zi,zj,zn,DJ,zp,u5,zq,zr,zt,zw,$xs,*])
local macro_rules| `(tactic|simp only[b3,$xs,*])=>`(tactic|simp only[b2,DK,DL,u6,DM,DN,DO,DP,zx,i5,$xs,*])
local macro_rules
 |`(tactic|walk_at "aa")=>`(tactic|(rw[es]at q0;have hV:=I.bh;have hv:=W.au;rw[es]at hV hv;show cu _ _ _ none;unfold cu;have hs1:=k0 _ _ hs;have hm1:=k0 _ _ hm;have I1:=I.same k0;obtain⟨w0,l0,el,j0,hV0⟩:=hV.bW))
 |`(tactic|walk_at "ab")=>`(tactic|(have hm:=I.cy;have hc:=T.dA;have ha:=T.gA;have hs:=I.au;have ty:=dc (K:=K) hs;have hz:=W.aR.stack;have hl:g.l.length=M0.stack.length:=I.bh.length.symm;left))
 |`(tactic|walk_at "ac")=>`(tactic|(have hc:=T.fF;have hs:=I.si.aZ;have ha:=I.si.aG;have ht:=I.si.aD;have a1:=T.gg;have a2:=T.gi;have a3:=T.mB;have a4:=T.mD;have a5:=T.mE;have a6:=T.ly;have a7:=T.lA))
 |`(tactic|walk_at "ad")=>`(tactic|(have lz:l2.length=r.length:=h4.length.symm))
 |`(tactic|walk_at "ae")=>`(tactic|(intro pins s σ H Q I h))
 |`(tactic|walk_at "af")=>`(tactic|(generalize e:M.stack=st at h))
 |`(tactic|walk_at "ag")=>`(tactic|(have hz2:r.length+1+1<=256:=hz;rw[du (by rw[aA];lia)]at q2))
 |`(tactic|walk_at "ah")=>`(tactic|(refine⟨g.au,g.l,M0.stack,g.aF,rfl,hs,I.bh,?_⟩))
 |`(tactic|walk_at "ai")=>`(tactic|(refine⟨by decide,fun kt hk=>?_⟩))
 |`(tactic|walk_at "aj")=>`(tactic|(dsimp only at h;rw[e]at zl;simp only[aA]at zl))
 |`(tactic|walk_at "ak")=>`(tactic|(obtain⟨b,a,r,a1,a2,l2,es,el,e1,e2,h4,hs'⟩:=mJ I e))
 |`(tactic|walk_at "al")=>`(tactic|(intro pins s σ H x y v u Q I rx ry h))
 |`(tactic|walk_at "am")=>`(tactic|(rw[this]at q;exact Er.up q k0))
 |`(tactic|walk_at "an")=>`(tactic|(have cs:=T.fF;have sa:=T.gg;have st:=T.gi))
 |`(tactic|walk_at "ao")=>`(tactic|(obtain⟨x,H1,I1,r1,q1⟩:=qq))
 |`(tactic|walk_at "ap")=>`(tactic|(rw[if_neg c];right))
 |`(tactic|walk_at "aq")=>`(tactic|(intro pins s σ H D I h))
 |`(tactic|walk_at "ar")=>`(tactic|(obtain⟨t,rfl⟩:=rx))
 |`(tactic|walk_at "as")=>`(tactic|(walk_at "zh";left;walk_at "ai"))
 |`(tactic|walk_at "at")=>`(tactic|(have hm:=I.cy;have hc:=T.dA))
set_option hygiene true
namespace L2
open PySem PySem.Spec PyProof.Rows
abbrev Key:=Sum Int af
def qt:Key->ag->Bool
 | .inl k,v=>ag.isInt k v
 | .inr x,v=>ag.isStrOf x v
def PL(w:bf):Key->Int
 | .inl k=>hashInt k
 | .inr x=>hashStr w x
theorem lX:∀{k:Key}{v:ag},qt k v=true->(∃i t,k=bZ i/\v=kh i t)\/(∃x t,k=cX x/\v=xR x t)
 | .inl i,v,h=>by
  obtain⟨t,e⟩:=ag.isInt_shape (k:=i) (v:=v) h;exact .inl ⟨i,t,rfl,e⟩
 | .inr x,v,h=>by
  obtain⟨t,e⟩:=ag.isStrOf_shape (x:=x) (v:=v) h;exact .inr ⟨x,t,rfl,e⟩
theorem PM(i:Int)(t:Tok):qt (.inl i) (.int i t)=true:=by simp[qt,ag.isInt]
theorem PN(x:af)(t:Tok):qt (.inr x) (.str x t)=true:=by simp[qt,ag.isStrOf]
theorem PQ(a b:Int):decide ((bZ a:Key)=bZ b)=(a==b):=by
 by_cases e:a=b
 ·subst e;simp
 ·have h:¬(bZ a:Key)=bZ b:=fun q=>e (N7 q);rw[decide_eq_false h];exact(beq_eq_false_iff_ne.mpr e).symm
theorem PR(a b:af):decide ((cX a:Key)=cX b)=decide (a=b):=by
 by_cases e:a=b
 ·subst e;simp
 ·have h:¬(cX a:Key)=cX b:=fun q=>e (xS q);rw[decide_eq_false h,decide_eq_false e]
theorem PU(a:Int)(b:af):decide ((bZ a:Key)=cX b)=false:=decide_eq_false (fun q=>nomatch q)
theorem PV(a:af)(b:Int):decide ((cX a:Key)=bZ b)=false:=decide_eq_false (fun q=>nomatch q)
def fL(prog:bv)(w:bf):PySem.KeyKind prog w Key where
 is:=qt
 hash:=PL w
 inj:=fun v a b ha hb=>by
  rcases lX ha with⟨i,t,rfl,rfl⟩|⟨x,t,rfl,rfl⟩
  ·rcases lX hb with⟨j,u,rfl,e⟩|⟨y,u,rfl,e⟩
   ·injection e with e1 _;rw[e1]
   ·exact nomatch e
  ·rcases lX hb with⟨j,u,rfl,e⟩|⟨y,u,rfl,e⟩
   ·exact nomatch e
   ·injection e with e1 _;rw[e1]
 byValue:=fun k v h=>by
  rcases lX h with⟨i,t,rfl,rfl⟩|⟨x,t,rfl,rfl⟩<;>rfl
 pyHash:=fun hv h=>by
  rcases lX hv with⟨i,t,rfl,rfl⟩|⟨x,t,rfl,rfl⟩
  ·exact wpAny_pyHash_int h
  ·exact wpAny_pyHash_str h
 eqBool:=fun hu hv h=>by
  rcases lX hu with⟨i,t,rfl,rfl⟩|⟨x,t,rfl,rfl⟩
  ·rcases lX hv with⟨j,u,rfl,rfl⟩|⟨y,u,rfl,rfl⟩
   ·rw[PQ]at h;exact wpAny_eqBool_int h
   ·rw[PU]at h;exact aa6 i t y u _ _ _ _ h
  ·rcases lX hv with⟨j,u,rfl,rfl⟩|⟨y,u,rfl,rfl⟩
   ·rw[PV]at h;exact aa7 x t j u _ _ _ _ h
   ·rw[PR]at h;exact wpAny_eqBool_str h
 «strs»:=fun k x t v h=>by
  rcases lX h with⟨i,u,rfl,e⟩|⟨y,u,rfl,e⟩
  ·exact nomatch e
  ·injection e with e1 _
   subst e1;cases v<;>rfl
theorem PX(prog:bv)(w:bf)(i:Int)(t:Tok):(fL prog w).is (.inl i) (.int i t)=true:=PM i t
theorem zy(prog:bv)(w:bf)(x:af)(t:Tok):(fL prog w).is (.inr x) (.str x t)=true:=PN x t
end L2
namespace L2
open PySem PySem.Spec PyProof.Rows
inductive V where
 |aO|bl (b:Bool)|int (i:Int)|str (x:af)|gB (b:Array UInt8)|i6 (b:UInt64)|ref (a:ae)|ty (n:String)
 deriving DecidableEq
def RelV:V->ag->Prop
 | .aO,u=>u=gm
 | .bl b,u=>u=rH b
 | .int i,u=>∃t,u=kh i t
 | .str x,u=>∃t,u=xR x t
 | .gB b,u=>∃t,u=ag.bytes b t
 | .i6 b,u=>∃t,u=N8 b t
 | .ref a,u=>u=b7 a
 | .ty n,u=>u=lI n
abbrev bt:List V->List ag->Prop:=Paired RelV
theorem bt.length{xs:List V}{us:List ag}(r:bt xs us):xs.length=us.length:=Paired.length r
theorem bt.get:∀{xs:List V}{us:List ag}{i:Nat}{x:V},bt xs us->xs[i]? =some x->∃u,us[i]? =some u/\RelV x u
 |_,_,_,_,.nil,e=>by simp at e
 |_,_,0,_,.cons r _,e=>by simp at e;subst e;exact⟨_,rfl,r⟩
 |_,_,i+1,x,.cons _ t,e=>by
  obtain⟨u,h1,h2⟩:=bt.get (i:=i) (x:=x) t (by simpa using e);exact⟨u,by simpa using h1,h2⟩
theorem bt.set{x:V}{u:ag}(r:RelV x u):∀{xs:List V}{us:List ag}(i:Nat),bt xs us->bt (xs.set i x) (us.set i u)
 |_,_,_,.nil=>.nil
 |_,_,0,.cons _ t=>.cons r t
 |_,_,i+1,.cons q t=>.cons q (bt.set r i t)
theorem bt.append:∀{xs ys:List V}{us ws:List ag},bt xs us->bt ys ws->bt (xs++ys) (us++ws):=by
 intro xs ys us ws h s;induction h with
 |nil=>exact s
 |cons r t ih=>exact .cons r ih
theorem bt.take:∀{xs:List V}{us:List ag}(n:Nat),bt xs us->bt (xs.take n) (us.take n)
 |_,_,0,_=>.nil
 |_,_,_+1,.nil=>.nil
 |_,_,n+1,.cons r t=>.cons r (bt.take n t)
theorem bt.drop:∀{xs:List V}{us:List ag}(n:Nat),bt xs us->bt (xs.drop n) (us.drop n)
 |_,_,0,r=>r
 |_,_,_+1,.nil=>.nil
 |_,_,n+1,.cons _ t=>bt.drop n t
def f9:Option V->Option ag->Prop
 |some v,some u=>RelV v u
 |none,none=>True
 |_,_=>False
def KV{κ:Type}:List (κ×V)->List (κ×ag)->Prop:=Paired fun(p:κ×V) (q:κ×ag)=>p.1=q.1/\RelV p.2 q.2
def kV:Key->V
 | .inl i=>.int i
 | .inr x=>.str x
inductive HO where
 |ai (xs:List V)
 |aj (xs:List V)
 |dK (kvs:List (Key×V))|dT (kvs:List (List Key×V))
 |set (S:Int->Bool) (n:Nat)
 |aP (C dx:ae) (fs:List (af×V))
 |own (x:ae)
 |xd (fs:List (af×V))
 |zz (f x:ae)
 |zA (lo hi:Int)
 |fC (o:a9) (u:HO)
 |oW (ps:Array ag)
 |ext (φ:Heap->Prop)
abbrev Hp:=ae->Option HO
def aq(H:Hp)(a:ae)(o:HO):Hp:=fun b=>if b=a then some o else H b
theorem az{H:Hp}{a:ae}{o:HO}:aq H a o a=some o:=by unfold aq;rw[if_pos rfl]
theorem aJ{H:Hp}{a b:ae}{o:HO}(h:b≠a):aq H a o b=H b:=by unfold aq;rw[if_neg h]
theorem PY{H:Hp}{a:ae}{o u:HO}:aq (aq H a o) a u=aq H a u:=by
 funext b;unfold aq;split<;>rfl
theorem lY{H:Hp}{a b:ae}{o u:HO}(h:H a=some o)(h':H b=some u)(d:o≠u):a≠b:=by
 intro e;subst e;rw[h]at h';exact d (fz h')
theorem bw{H:Hp}{a b:ae}{o:HO}(h:H a=some o)(h':H b=none):a≠b:=by
 intro e;subst e;rw[h]at h';cases h'
section
variable(P:bv)(w:bf)
def dP(H:Hp)(h:Heap)(a:ae):HO->Prop
 | .ai xs=>xs.length<=bE/\∃(its:List ag)(n:Nat),bt xs its/\h.get? a=some {cls:=.type "list",data:=.seq its.toArray n}
 | .aj xs=>xs.length<=bE/\∃its:List ag,bt xs its/\IsTup h a its.toArray
 | .dK kvs=>kvs.length<=bE/\(a==sysModules)=false/\∃vs,KV kvs vs/\h.DictOf (fL P w) a vs
 | .dT kvs=>kvs.length<=bE/\(a==sysModules)=false/\∃xs:List (List Key×ae×ag),
   Paired (fun(p:List Key×V) (q:List Key×ae×ag)=>p.1=q.1/\H q.2.1=some (.aj (p.1.map kV))/\RelV p.2 q.2.2) kvs xs/\
   ∃o es ep,h.get? a=some o/\o.ExactDict/\o.data=.dict es ep/\es.toList=xs.map (entryOfKey (tupleKind (fL P w)))/\(xs.map (·.1)).Nodup
 | .set S n=>h.SetOf (intKind P w) a S n
 | .aP C dx fs=>H dx=some (.own a)/\fs.length<=1000/\dx≠a/\h.get? a=some (pV C dx)/\
   ∃mA,h.Ns1 dx mA/\(∀f,f9 (fs.lookup f) (mA f))/\N9 mA (fs.map (·.1))
 | .own _=>∃o,h.get? a=some o
 | .xd fs=>∃mA,h.Ns1 a mA/\∀f,f9 (fs.lookup f) (mA f)
 | .zA lo hi=>∃t u v,h.get? a=some {cls:=.type "range",data:=.fields #[.int lo t,.int hi u,.int 1 v]}
 | .fC o u=>h.get? a=some o/\dP H h a u
 | .oW ps=>h.get? a=some {cls:=.none,data:=.fields ps}
 | .zz f x=>h.get? a=some (Oa (.ref f) (.ref x))
 | .ext φ=>φ h/\(∃o,h.get? a=some o)/\∀h1 h2:Heap,φ h1->(∀o,h1.get? a=some o->h2.get? a=some o)->φ h2
def dv(H:Hp)(h:Heap):Prop:=∀a o,H a=some o->dP P w H h a o
end
section
variable{P:bv}{w:bf}{H H':Hp}{h h':Heap}{a:ae}{o:HO}
theorem dP.lt(x:dP P w H h a o):a<h.objs.size:=by
 cases o with
 |ai xs=>obtain⟨_,_,_,_,e⟩:=x;exact cY e
 |aj xs=>obtain⟨_,_,_,p⟩:=x;exact p.lt
 |dK kvs=>obtain⟨_,_,_,_,o,_,_,e,_⟩:=x;exact cY e
 |dT kvs=>obtain⟨_,_,_,_,o,_,_,e,_⟩:=x;exact cY e
 |set S n=>obtain⟨o,_,_,_,e,_⟩:=x;exact cY e
 |aP C dx fs=>obtain⟨_,_,_,e,_⟩:=x;exact cY e
 |own y=>obtain⟨_,e⟩:=x;exact cY e
 |xd fs=>obtain⟨_,⟨_,_,_,e,_⟩,_⟩:=x;exact cY e
 |zA lo hi=>obtain⟨_,_,_,e⟩:=x;exact cY e
 |fC ob u=>obtain⟨e,_⟩:=x;exact cY e
 |oW ps=>exact cY (show h.get? a=some _ from x)
 |zz f y=>exact cY (show h.get? a=some _ from x)
 |ext φ=>obtain⟨_,⟨_,e⟩,_⟩:=x;exact cY e
theorem Paired.DQ{α β:Type}{F G:α->β->Prop}:∀{l₁:List α}{l₂:List β},Paired F l₁ l₂->(∀a b,F a b->G a b)->Paired G l₁ l₂:=by
 intro l₁ l₂ h f;induction h with
 |nil=>exact .nil
 |cons r t ih=>exact .cons (f _ _ r) ih
theorem dP.lg(x:dP P w H h a o)(k:∀b u,(b=a\/H b=some (.own a))->h.get? b=some u->h'.get? b=some u)
(ho:∀b,H b=some (.own a)->H' b=some (.own a))(ht:∀b xs,H b=some (.aj xs)->H' b=some (.aj xs)):dP P w H' h' a o:=by
 induction o with
 |ai xs=>obtain⟨z,its,n,r,e⟩:=x;exact⟨z,its,n,r,k _ _ (.inl rfl) e⟩
 |aj xs=>obtain⟨z,its,r,ob,e,c⟩:=x;exact⟨z,its,r,ob,k _ _ (.inl rfl) e,c⟩
 |dK kvs=>obtain⟨z,y,vs,r,ob,es,ep,e,c⟩:=x;exact⟨z,y,vs,r,ob,es,ep,k _ _ (.inl rfl) e,c⟩
 |dT kvs=>
  obtain⟨z,y,xs,r,ob,es,ep,e,c⟩:=x;exact⟨z,y,xs,Paired.DQ r fun p q z=>⟨z.1,ht _ _ z.2.1,z.2.2⟩,ob,es,ep,k _ _ (.inl rfl) e,c⟩
 |set S n=>obtain⟨ob,es,ep,t,e,c⟩:=x;exact⟨ob,es,ep,t,k _ _ (.inl rfl) e,c⟩
 |aP C dx fs=>
  obtain⟨d,z,ne,e,mA,⟨od,es,ep,e2,c⟩,r⟩:=x;exact⟨ho _ d,z,ne,k _ _ (.inl rfl) e,mA,⟨od,es,ep,k _ _ (.inr d) e2,c⟩,r⟩
 |own y=>obtain⟨ob,e⟩:=x;exact⟨ob,k _ _ (.inl rfl) e⟩
 |xd fs=>obtain⟨mA,⟨od,es,ep,e,c⟩,r⟩:=x;exact⟨mA,⟨od,es,ep,k _ _ (.inl rfl) e,c⟩,r⟩
 |zA lo hi=>obtain⟨t,u,v,e⟩:=x;exact⟨t,u,v,k _ _ (.inl rfl) e⟩
 |fC ob u ih=>obtain⟨e,q⟩:=x;exact⟨k _ _ (.inl rfl) e,ih q⟩
 |oW ps=>
  have e:h.get? a=some {cls:=.none,data:=.fields ps}:=x;show h'.get? a=some {cls:=.none,data:=.fields ps};exact k a _ (.inl rfl) e
 |zz f y=>
  have e:h.get? a=some (Oa (.ref f) (.ref y)):=x;show h'.get? a=some (Oa (.ref f) (.ref y));exact k a _ (.inl rfl) e
 |ext φ=>obtain⟨p,⟨o,e⟩,st⟩:=x;exact⟨st _ _ p fun o q=>k _ _ (.inl rfl) q,⟨o,k _ _ (.inl rfl) e⟩,st⟩
theorem dv.lt(x:dv P w H h)(e:H a=some o):a<h.objs.size:=(x a o e).lt
theorem dv.fresh(x:dv P w H h)(e:h.objs.size<=a):H a=none:=by
 cases q:H a with
 |none=>rfl
 |some u=>exact absurd (eO (x.lt q) e) (lJ _)
theorem dv.kept(x:dv P w H h)(k:∀b u,h.get? b=some u->h'.get? b=some u):dv P w H h':=fun a o e=>
 (x a o e).lg (fun b u _ q=>k b u q) (fun _ q=>q) fun _ _ q=>q
theorem dv.gN(x:dv P w H h)(k:∀b u,h.get? b=some u->h'.get? b=some u)(hp:h.objs.size<=a)(new:dP P w (aq H a o) h' a o):dv P w (aq H a o) h':=fun b u e=>by
 have hn:=x.fresh hp;by_cases hb:b=a
 ·subst hb;rw[az]at e;cases e;exact new
 ·rw[aJ hb]at e;exact(x b u e).lg (fun c v _ q=>k c v q) (fun c q=>by rw[aJ (bw q hn)];exact q) fun c xs q=>by rw[aJ (bw q hn)];exact q
end
def Rd(H:Hp)(a:ae)(u:HO):Prop:=H a=some u\/∃o,H a=some (.fC o u)
theorem Rd.of{H:Hp}{a:ae}{u:HO}(h:H a=some u):Rd H a u:=.inl h
theorem Rd.ok{P:bv}{w:bf}{H:Hp}{h:Heap}{a:ae}{u:HO}(r:Rd H a u)(x:dv P w H h):dP P w H h a u:=by
 rcases r with r|⟨o,r⟩
 ·exact x a u r
 ·obtain⟨_,q⟩:=x a _ r;exact q
def sF:Option HO->Prop
 |some (.ai _)=>True
 |some (.dK _)=>True
 |some (.dT _)=>True
 |some (.set _ _)=>True
 |some (.aP _ _ _)=>True
 |some (.ext _)=>True
 |_=>False
section
variable{P:bv}{w:bf}{H:Hp}{h h':Heap}{x e:ae}{o':HO}
theorem dv.lZ(ok:dv P w H h)(mu:sF (H x))(he:e=x\/H e=some (.own x))(k:∀b u,b≠e->h.get? b=some u->h'.get? b=some u)(heo:∃u,h'.get? e=some u)
(new:dP P w (aq H x o') h' x o'):dv P w (aq H x o') h':=fun b u q=>by
 have nown:∀c y,H c=some (.own y)->c≠x:=fun c y r z=>by subst z;rw[r]at mu;exact mu
 have ntup:∀c xs,H c=some (.aj xs)->c≠x:=fun c xs r z=>by subst z;rw[r]at mu;exact mu
 by_cases hb:b=x
 ·subst hb;rw[az]at q;cases q;exact new
 ·rw[aJ hb]at q;by_cases hbe:b=e
  ·have q':H b=some (.own x):=by
    rcases he with z|z
    ·exact absurd (hbe.trans z) hb
    ·rw[hbe];exact z
   rw[q]at q';cases q';obtain⟨v,hv⟩:=heo;exact⟨v,by rw[hbe];exact hv⟩
  ·refine(ok b u q).lg (fun c v hc r=>k c v ?_ r) (fun c r=>by rw[aJ (nown c b r)];exact r) fun c xs r=>by rw[aJ (ntup c xs r)];exact r
   rcases hc with rfl|hc
   ·exact hbe
   ·rintro rfl;rcases he with z|z
    ·exact nown c b hc z
    ·rw[hc]at z;cases z;exact hb rfl
end
structure Un(fs ex:List ae)(H H':Hp)(h h':Heap):Prop where
 keep:∀b o,h.get? b=some o->H b=none->b∉fs->b∉ex->h'.get? b=some o
 slot:∀b o,h.get? b=some o->H b=none->b∈fs->b∉ex->∃sl,h'.get? b=some {o with slots:=sl}
 free:∀b o,h.get? b=some o->H b=none->b∉ex->H' b=none
 there:∀b o,h.get? b=some o->b∉ex->∃o',h'.get? b=some o'
 gO:∀b xs,H b=some (.aj xs)->H' b=some (.aj xs)
 gC:∀b o u,H b=some (.fC o u)->H' b=some (.fC o u)
 gP:∀b ps,H b=some (.oW ps)->∃more,H' b=some (.oW (ps++more))
section
variable{fs fs' ex ex':List ae}{H H1 H2:Hp}{h h1 h2 h':Heap}{a x e:ae}{o:HO}
theorem Un.any(u:Un fs ex H H1 h h1){b:ae}{ob:a9}(q:h.get? b=some ob)(n:H b=none)(hx:b∉ex):∃sl,h1.get? b=some {ob with slots:=sl}:=by
 by_cases hb:b∈fs
 ·exact u.slot b ob q n hb hx
 ·exact⟨ob.slots,u.keep b ob q n hb hx⟩
theorem Un.trans(a:Un fs ex H H1 h h1)(b:Un fs ex H1 H2 h1 h2):Un fs ex H H2 h h2 where
 keep:=fun c ob q n hc hx=>b.keep c ob (a.keep c ob q n hc hx) (a.free c ob q n hx) hc hx
 slot:=fun c ob q n hc hx=>by
  obtain⟨sl,e1⟩:=a.slot c ob q n hc hx;obtain⟨sl',e2⟩:=b.slot c _ e1 (a.free c ob q n hx) hc hx;exact⟨sl',e2⟩
 free:=fun c ob q n hx=>by
  obtain⟨o',e1⟩:=a.there c ob q hx;exact b.free c o' e1 (a.free c ob q n hx) hx
 there:=fun c ob q hx=>by
  obtain⟨o',e1⟩:=a.there c ob q hx;exact b.there c o' e1 hx
 gO:=fun c xs q=>b.gO c xs (a.gO c xs q)
 gC:=fun c ob xs q=>b.gC c ob xs (a.gC c ob xs q)
 gP:=fun c ps q=>by
  obtain⟨m1,e1⟩:=a.gP c ps q;obtain⟨m2,e2⟩:=b.gP c _ e1;exact⟨m1++m2,by rw[e2,Ob]⟩
theorem Un.kept(k:∀b u,h.get? b=some u->h'.get? b=some u):Un fs ex H H h h':=
 ⟨fun b ob q _ _ _=>k b ob q,fun b ob q _ _ _=>⟨ob.slots,k b ob q⟩,fun _ _ _ n _=>n,fun b ob q _=>⟨ob,k b ob q⟩,fun _ _ q=>q,fun _ _ _ q=>q,fun _ ps q=>⟨#[],by rw[q];simp⟩⟩
theorem Un.refl:Un fs ex H H h h:=Un.kept fun _ _ q=>q
theorem Un.gN(k:∀b u,h.get? b=some u->h'.get? b=some u)(hp:h.objs.size<=a)(hn:H a=none):Un fs ex H (aq H a o) h h' where
 keep:=fun b u q _ _ _=>k b u q
 slot:=fun b u q _ _ _=>⟨u.slots,k b u q⟩
 free:=fun b u q n _=>by rw[aJ (eX (eO (cY q) hp))];exact n
 there:=fun b u q _=>⟨u,k b u q⟩
 gO:=fun b xs q=>by rw[aJ (bw q hn)];exact q
 gC:=fun b u xs q=>by rw[aJ (bw q hn)];exact q
 gP:=fun b ps q=>⟨#[],by rw[aJ (bw q hn),q];simp⟩
theorem Un.lZ(mu:sF (H x))(he:e=x\/H e=some (.own x))(k:∀b u,b≠e->h.get? b=some u->h'.get? b=some u)(heo:∃u,h'.get? e=some u):Un fs ex H (aq H x o) h h':=by
 have hx:∀b,H b=none->b≠x:=fun b n z=>by subst z;rw[n]at mu;exact mu
 have hb:∀b,H b=none->b≠e:=fun b n z=>by
  subst z;rcases he with r|r
  ·exact hx b n r
  ·rw[n]at r;cases r
 have hm:∀b u,H b=some u->¬sF (some u)->b≠x:=fun b u q nm z=>by subst z;rw[q]at mu;exact nm mu
 refine⟨fun b u q n _ _=>k b u (hb b n) q,fun b u q n _ _=>⟨u.slots,k b u (hb b n) q⟩,fun b u q n _=>by rw[aJ (hx b n)];exact n,fun b u q _=>?_,
  fun b xs q=>by rw[aJ (hm b _ q fun z=>z)];exact q,fun b u xs q=>by rw[aJ (hm b _ q fun z=>z)];exact q,fun b ps q=>⟨#[],by rw[aJ (hm b _ q fun z=>z),q];simp⟩⟩
 by_cases hbe:b=e
 ·subst hbe;exact heo
 ·exact⟨u,k b u hbe q⟩
theorem Un.cG(u:Un fs ex H H1 h h1)(hs:∀b∈fs,b∈fs')(hx:∀b∈ex,b∈ex'):Un fs' ex' H H1 h h1:=
 ⟨fun b ob q n hb he=>u.keep b ob q n (fun z=>hb (hs b z)) fun z=>he (hx b z),fun _ _ q n _ he=>u.any q n fun z=>he (hx _ z),fun b ob q n he=>u.free b ob q n fun z=>he (hx b z),fun b ob q he=>u.there b ob q fun z=>he (hx b z),u.gO,u.gC,u.gP⟩
end
def u7(h:Heap)(H:Hp):List Addr:=(rJ h.objs.size).filter fun a=>(H a).isSome
def l5(h:Heap)(H:Hp):Heap:=PySem.W.hideAll h (u7 h H)
theorem PZ(h:Heap)(H:Hp):(l5 h H).objs.size=h.objs.size:=PySem.W.hideAll_size _ _
theorem P0{h:Heap}{H:Hp}{b:ae}{o:a9}(e:h.get? b=some o)(n:H b=none):(l5 h H).get? b=some o:=
 PySem.W.hideAll_get _ e fun hm=>by
  have q:(H b).isSome=true:=(List.mem_filter.mp hm).2;rw[n]at q;simp at q
theorem P2{h:Heap}{H:Hp}{b:ae}{o:a9}(e:(l5 h H).get? b=some o):h.get? b=some o/\H b=none:=by
 have e':h.get? b=some o:=PySem.W.of_hideAll (u7 h H) e;refine⟨e',?_⟩;cases q:H b with
 |none=>rfl
 |some x=>
  have hm:b∈u7 h H:=List.mem_filter.mpr ⟨Oc.mpr (cY e'),by simp[q]⟩;have z:(l5 h H).get? b=none:=PySem.W.hideAll_none (u7 h H) hm;rw[z]at e;cases e
def P4(g h:Heap)(L:ae):List (ae×a9):=(rJ h.objs.size).filterMap fun a=>if a=L\/(g.get? a).isSome=true then none else(h.get? a).map fun o=>(a,o)
def rest(g h:Heap)(L d:ae):List (ae×a9):=(P4 g h L).filter fun p=>decide (p.1≠d)
end L2
namespace L2
open PySem PySem.Spec PyProof.Rows
structure Mod(K:ax)(mg:af->Option ag)(base:Heap):Prop where
 i7:K.In base
 ku:base.Ns dE mg
 m9:∃mb,base.Ns builtinsNs mb/\∀x:af,x≠"__name__"->mb x=jo x
 nolimit:base.NoLimit
structure Cx where
 prog:bv
 w:bf
 K:ax
 mg:af->Option ag
 base:Heap
 A:cv
 N:List af
 gb:ay
 sG:Hp
 ah:Env
 bp:List Env
 stack:List Env
 ex:List ae
 fn:af->Bool
 i8:Bool
 pn:List (ae×a9)
 xe:ag->ay->Prop
def dw(l:List Env):List Addr:=l.filterMap (·.frame)
abbrev Cx.fs(X:Cx):List Addr:=dw X.bp
def oX(sc:fI)(x:af):Prop:=sc.names.lookup x=some .local\/sc.names.lookup x=some .cell\/sc.names.lookup x=some .free
def sH(sc:fI)(x:af):Prop:=sc.names.lookup x=some .local\/sc.names.lookup x=some .cell
def P5(ah:Env)(h:Heap)(m:af->Option ag)(x:af)(u:ag):Prop:=
 (ah.kindOf x=some .local/\m x=some u)\/((ah.kindOf x=some .cell\/ah.kindOf x=some .free)/\∃c,ah.cells.lookup x=some c/\h.IsCell c (some u))
structure Cx.Ok(X:Cx):Prop where
 eV:Mod X.K X.mg X.base
 kind:X.ah.scope.kind=.function
 ku:X.ah.globals=dE
 m9:X.ah.builtins=builtinsNs
 above:X.gb.heap.objs.size<=X.ah.locals
 inj:∀x y c,X.ah.cells.lookup x=some c->X.ah.cells.lookup y=some c->x=y
 has:∀x,(X.ah.kindOf x=some .cell\/X.ah.kindOf x=some .free)->∃c,X.ah.cells.lookup x=some c
 oY:∀x c,X.fn x=true->X.ah.cells.lookup x=some c->X.gb.heap.objs.size<=c
 hd:X.i8=true->X.A.handled=none
 frames:X.A.frames=some X.stack
 au:X.stack=X.bp\/(X.stack=X.ah::X.bp/\X.ah.frame=some X.ah.locals)
 qu:∀b∈X.ex,b≠X.ah.locals/\∀x c,X.ah.cells.lookup x=some c->c≠b
 bs:∀b o,X.base.get? b=some o->X.gb.heap.get? b=some o/\X.sG b=none
 jM:X.base.objs.size<=X.gb.heap.objs.size
 oZ:∀b o,X.base.get? b=some o->b∉X.ex
 o0:∀b∈X.ex,b∉X.fs
 fD:X.gb.heap.FunFrames X.base X.bp
 l6:∀b∈X.fs,X.sG b=none
structure Inv(X:Cx)(pins:List (ae×a9))(σ:List (Option V))(H:Hp)(s:ay):Prop where
 ok:X.Ok
 os:s.os=X.gb.os
 eD:oE s.gens
 base:Un X.fs X.ex X.sG H X.gb.heap s.heap
 fM:∃m,s.heap.Ns X.ah.locals m/\∀(i:Nat)(x:af)(v:V),X.N[i]? =some x->σ[i]? =some (some v)->oX X.ah.scope x->∃u,RelV v u/\P5 X.ah s.heap m x u
 cell:∀x c,X.ah.cells.lookup x=some c->∃v,s.heap.IsCell c v
 free:H X.ah.locals=none
 iu:∀x c,X.ah.cells.lookup x=some c->H c=none
 gD:∀p∈X.pn++pins,s.heap.get? p.1=some p.2/\H p.1=none/\p.1≠X.ah.locals/\p.1∉X.fs/\∀v,p.2.data≠.cell v
 aT:dv X.prog X.w H s.heap
 len:σ.length=X.N.length
section
variable{X:Cx}{pins:List (ae×a9)}{σ:List (Option V)}{H H':Hp}{s:ay}{h':Heap}
theorem Cx.Ok.P6(ok:X.Ok){b:ae}{o:a9}(e:X.base.get? b=some o):b∉X.fs:=fun hb=>by
 have:=(ok.fD.mem hb).1;rw[e]at this;cases this
theorem Inv.bs(I:Inv X pins σ H s):∀b o,X.base.get? b=some o->s.heap.get? b=some o/\H b=none:=fun b o e=>
 ⟨I.base.keep b o (I.ok.bs b o e).1 (I.ok.bs b o e).2 (I.ok.P6 e) (I.ok.oZ b o e),I.base.free b o (I.ok.bs b o e).1 (I.ok.bs b o e).2 (I.ok.oZ b o e)⟩
theorem Inv.bk(I:Inv X pins σ H s):∀b o,X.base.get? b=some o->s.heap.get? b=some o:=fun b o e=>(I.bs b o e).1
theorem Inv.eV(I:Inv X pins σ H s):Mod X.K X.mg X.base:=I.ok.eV
theorem Inv.c8(I:Inv X pins σ H s):X.K.In s.heap:=I.ok.eV.i7.keeps I.bk
theorem Inv.fr(I:Inv X pins σ H s):∃m,Fr X.base X.ah.locals s.heap m:=
 let⟨m,hn,_⟩:=I.fM
 ⟨m,hn,I.bk,dM I.ok.jM I.ok.above⟩
theorem Inv.lt(I:Inv X pins σ H s):X.ah.locals<s.heap.objs.size:=let⟨_,hn,_⟩:=I.fM;hn.lt
theorem Inv.sz(I:Inv X pins σ H s):X.gb.heap.objs.size<=s.heap.objs.size:=dM I.ok.above (xU I.lt)
theorem Inv.P7(I:Inv X pins σ H s){a:ae}(h:s.heap.objs.size<=a):a∉X.fs:=fun hb=>by
 obtain⟨_,o,ho,_⟩:=I.ok.fD.mem hb;exact absurd (eO (cY ho) (dM I.sz h)) (lJ _)
theorem Inv.ky(I:Inv X pins σ H s):∀x c,X.ah.cells.lookup x=some c->c≠X.ah.locals:=fun x c e z=>by
 obtain⟨v,o,ho,hd⟩:=I.cell x c e;obtain⟨m,⟨o',es,ep,ho',hd',_⟩,_⟩:=I.fM;rw[z,ho']at ho;cases ho;rw[hd']at hd;cases hd
theorem Inv.fD(I:Inv X pins σ H s):s.heap.FunFrames X.base X.bp:=by
 have all:∀(l:List Env),(∀b∈dw l,b∈X.fs)->X.gb.heap.FunFrames X.base l->s.heap.FunFrames X.base l:=by
  intro l;induction l with
  |nil=>intro _ _;trivial
  |cons ah r ih=>
   intro hs hl;obtain⟨hk,⟨L,o,hf,hn,ho,hd⟩,hr⟩:=hl;have hL:L∈X.fs:=hs L (by unfold dw;rw[pW,hf];exact cw);obtain⟨sl,e⟩:=I.base.slot L o ho (I.ok.l6 L hL) hL fun z=>I.ok.o0 L z hL;exact⟨hk,⟨L,_,hf,hn,e,hd⟩,ih (fun b hb=>hs b (by unfold dw;rw[pW,hf];exact bP _ hb)) hr⟩
 exact all X.bp (fun _ hb=>hb) I.ok.fD
theorem Inv.stack(I:Inv X pins σ H s):s.heap.FunFrames X.base X.stack:=by
 rcases I.ok.au with e|⟨e,hf⟩
 ·rw[e];exact I.fD
 ·rw[e];obtain⟨m,hn,_⟩:=I.fM;refine .cons (by rw[I.ok.kind];decide) hf hn ?_ I.fD;exact Heap.get?_none_of_le (dM I.ok.jM I.ok.above)
theorem Inv.u9(I:Inv X pins σ H s):∀b∈dw X.stack,b∈X.ah.locals::X.fs:=fun b hb=>by
 rcases I.ok.au with e|⟨e,hf⟩
 ·rw[e]at hb;exact bP _ hb
 ·rw[e]at hb;unfold dw at hb;rw[pW,hf]at hb;exact hb
theorem Inv.vc(I:Inv X pins σ H s):∀b∈dw X.stack,H b=none:=fun b hb=>by
 rcases br.mp (I.u9 b hb)with e|hb
 ·rw[e];exact I.free
 ·obtain⟨_,o,ho,_⟩:=I.ok.fD.mem hb;exact I.base.free b o ho (I.ok.l6 b hb) fun z=>I.ok.o0 b z hb
theorem Inv.step{g':Array xV}{t':Nat}{d':Drawn}{ch:List ae}(I:Inv X pins σ H s)
(hch:∀b∈ch,(b∈X.ex\/X.gb.heap.objs.size<=b)/\b≠X.ah.locals/\(∀x c,X.ah.cells.lookup x=some c->c≠b)/\∀p∈X.pn++pins,p.1≠b)
(keep:∀b o,b≠X.ah.locals->b∉X.fs->b∉ch->s.heap.get? b=some o->H b=none->h'.get? b=some o)
(slot:∀b o,b≠X.ah.locals->b∈X.fs->b∉ch->s.heap.get? b=some o->H b=none->∃sl,h'.get? b=some {o with slots:=sl})(free:∀b o,b∉ch->s.heap.get? b=some o->H b=none->H' b=none)
(there:∀b o,b∉ch->s.heap.get? b=some o->∃o',h'.get? b=some o')
(gO:∀b xs,H b=some (.aj xs)->H' b=some (.aj xs))(gC:∀b o u,H b=some (.fC o u)->H' b=some (.fC o u))(gP:∀b ps,H b=some (.oW ps)->∃more,H' b=some (.oW (ps++more)))
(ns:∀m,s.heap.Ns X.ah.locals m->h'.Ns X.ah.locals m)(aT:dv X.prog X.w H' h')(hg:oE g'):
  Inv X pins σ H' {s with heap:=h',gens:=g',drawn:=d',toks:=t'}:=by
 have neL:∀b o,X.gb.heap.get? b=some o->b≠X.ah.locals:=fun b o e=>eX (eO (cY e) I.ok.above);have neC:∀b o,X.gb.heap.get? b=some o->b∉X.ex->b∉ch:=fun b o e hx hb=>by
  rcases(hch b hb).1 with z|z
  ·exact hx z
  ·exact absurd (eO (cY e) z) (lJ _)
 have cellK:∀x c,X.ah.cells.lookup x=some c->∀v,s.heap.IsCell c v->h'.IsCell c v:=fun x c e v ⟨o,ho,hd⟩=>by
  have nch:c∉ch:=fun z=>(hch c z).2.2.1 x c e rfl;by_cases hc:c∈X.fs
  ·obtain⟨sl,q⟩:=slot c o (I.ky x c e) hc nch ho (I.iu x c e);exact⟨_,q,hd⟩
  ·exact⟨o,keep c o (I.ky x c e) hc nch ho (I.iu x c e),hd⟩
 refine⟨I.ok,I.os,hg,⟨fun b o e n hb hx=>?_,fun b o e n hb hx=>?_,fun b o e n hx=>?_,fun b o e hx=>?_,fun b xs e=>gO b xs (I.base.gO b xs e),fun b o xs e=>gC b o xs (I.base.gC b o xs e),fun b ps e=>?_⟩,?_,fun x c e=>?_,?_,fun x c e=>?_,fun p hp=>?_,aT,I.len⟩
 ·exact keep b o (neL b o e) hb (neC b o e hx) (I.base.keep b o e n hb hx) (I.base.free b o e n hx)
 ·obtain⟨sl,e1⟩:=I.base.slot b o e n hb hx;obtain⟨sl',e2⟩:=slot b _ (neL b o e) hb (neC b o e hx) e1 (I.base.free b o e n hx);exact⟨sl',e2⟩
 ·obtain⟨o',e1⟩:=I.base.there b o e hx;exact free b o' (neC b o e hx) e1 (I.base.free b o e n hx)
 ·obtain⟨o',e1⟩:=I.base.there b o e hx;exact there b o' (neC b o e hx) e1
 ·obtain⟨m1,e1⟩:=I.base.gP b ps e;obtain⟨m2,e2⟩:=gP b _ e1;exact⟨m1++m2,by rw[e2,Ob]⟩
 ·obtain⟨m,hn,hl⟩:=I.fM;refine⟨m,ns m hn,fun i x v e1 e2 e3=>?_⟩;obtain⟨u,r,l⟩:=hl i x v e1 e2 e3;refine⟨u,r,?_⟩;rcases l with l|⟨k,c,e,z⟩
  ·exact .inl l
  ·exact .inr ⟨k,c,e,cellK x c e _ z⟩
 ·obtain⟨v,z⟩:=I.cell x c e;exact⟨v,cellK x c e v z⟩
 ·obtain⟨m,⟨o,_,_,ho,_⟩,_⟩:=I.fM;exact free _ o (fun z=>(hch _ z).2.1 rfl) ho I.free
 ·obtain⟨v,o,ho,hd⟩:=I.cell x c e;exact free c o (fun z=>(hch c z).2.2.1 x c e rfl) ho (I.iu x c e)
 ·obtain⟨e,n,ne,nf,d⟩:=I.gD p hp;have nch:p.1∉ch:=fun z=>(hch p.1 z).2.2.2 p hp rfl;exact⟨keep p.1 p.2 ne nf nch e n,free p.1 p.2 nch e n,ne,nf,d⟩
theorem Inv.un{t':Nat}(I:Inv X pins σ H s)(u:Un X.fs [] H H' s.heap h')(aT:dv X.prog X.w H' h'):Inv X pins σ H' {s with heap:=h',toks:=t'}:=by
 obtain⟨m,⟨o,es,ep,ho,r⟩,_⟩:=id I.fM;obtain⟨sl,hL⟩:=u.any ho I.free (by simp);exact I.step (g':=s.gens) (d':=s.drawn) (ch:=[]) (fun _ z=>nomatch z) (fun b o _ hb _ e n=>u.keep b o e n hb (by simp)) (fun b o _ hb _ e n=>u.slot b o e n hb (by simp)) (fun b o _ e n=>u.free b o e n (by simp)) (fun b o _ e=>u.there b o e (by simp)) u.gO u.gC u.gP (fun m' hm=>by
  obtain⟨o',es',ep',ho',r'⟩:=hm;rw[ho]at ho';cases ho';exact⟨_,es',ep',hL,r'⟩) aT I.eD
theorem Inv.call{g':Array xV}{t':Nat}{d':Drawn}{ch:List ae}(I:Inv X pins σ H s)(u:Un (dw X.stack) ch H H' s.heap h')(aT:dv X.prog X.w H' h')(hg:oE g')
(hch:∀b∈ch,(b∈X.ex\/X.gb.heap.objs.size<=b)/\b≠X.ah.locals/\(∀x c,X.ah.cells.lookup x=some c->c≠b)/\∀p∈X.pn++pins,p.1≠b):
  Inv X pins σ H' {s with heap:=h',gens:=g',drawn:=d',toks:=t'}:=by
 obtain⟨m,⟨o,es,ep,ho,r⟩,_⟩:=id I.fM;obtain⟨sl,hL⟩:=u.any ho I.free fun z=>(hch _ z).2.1 rfl;exact I.step (ch:=ch) hch (fun b o hL hb hc e n=>u.keep b o e n (fun z=>(br.mp (I.u9 b z)).elim hL hb) hc) (fun b o _ _ hc e n=>u.any e n hc) (fun b o hc e n=>u.free b o e n hc) (fun b o hc e=>u.there b o e hc) u.gO u.gC u.gP (fun m' hm=>by
  obtain⟨o',es',ep',ho',r'⟩:=hm;rw[ho]at ho';cases ho';exact⟨_,es',ep',hL,r'⟩) aT hg
theorem Inv.kz{t':Nat}{it:ae}(I:Inv X pins σ H s)(k:∀b o,b≠it->s.heap.get? b=some o->h'.get? b=some o)(hn:H it=none)(hL:it≠X.ah.locals)
(h1:it∈X.ex\/X.gb.heap.objs.size<=it)(h2:∀x c,X.ah.cells.lookup x=some c->c≠it)(h3:∀p∈X.pn++pins,p.1≠it):Inv X pins σ H {s with heap:=h',toks:=t'}:=by
 have nit:∀b u,H b=some u->b≠it:=fun b u e z=>by rw[z,hn]at e;cases e
 refine I.step (g':=s.gens) (d':=s.drawn) (ch:=[it]) (fun b hb=>?_) (fun b o _ _ hc e _=>k b o (fun z=>hc (by simp[z])) e) (fun b o _ _ hc e _=>⟨o.slots,k b o (fun z=>hc (by simp[z])) e⟩) (fun _ _ _ _ n=>n)
  (fun b o hc e=>⟨o,k b o (fun z=>hc (by simp[z])) e⟩) (fun _ _ e=>e) (fun _ _ _ e=>e) (fun b ps e=>⟨#[],by rw[e];simp⟩) (fun m hm=>?_) (fun b u e=>?_) I.eD
 ·have e:b=it:=by simpa using hb
  subst e;exact⟨h1,hL,h2,h3⟩
 ·obtain⟨o,es,ep,ho,r⟩:=hm;exact⟨o,es,ep,k _ o (cM hL) ho,r⟩
 ·refine(I.aT b u e).lg (fun c v hc q=>k c v ?_ q) (fun _ q=>q) fun _ _ q=>q;rcases hc with z|z
  ·rw[z];exact nit b u e
  ·exact nit c _ z
theorem Inv.cV(I:Inv X pins σ H s)(t:Nat):Inv X pins σ H {s with toks:=t}:=I.un (h':=s.heap) (t':=t) Un.refl I.aT
theorem Inv.kept{t':Nat}(I:Inv X pins σ H s)(k:∀b u,s.heap.get? b=some u->h'.get? b=some u):Inv X pins σ H {s with heap:=h',toks:=t'}:=I.un (Un.kept k) (I.aT.kept k)
theorem Inv.gN{a:ae}{o:HO}{t':Nat}(I:Inv X pins σ H s)(k:∀b u,s.heap.get? b=some u->h'.get? b=some u)(hp:s.heap.objs.size<=a)(new:dP X.prog X.w (aq H a o) h' a o):
  Inv X pins σ (aq H a o) {s with heap:=h',toks:=t'}:=I.un (Un.gN k hp (I.aT.fresh hp)) (I.aT.gN k hp new)
theorem Inv.lZ{x e:ae}{o:HO}{t':Nat}(I:Inv X pins σ H s)(mu:sF (H x))(he:e=x\/H e=some (.own x))(k:∀b u,b≠e->s.heap.get? b=some u->h'.get? b=some u)(heo:∃u,h'.get? e=some u)
(new:dP X.prog X.w (aq H x o) h' x o):Inv X pins σ (aq H x o) {s with heap:=h',toks:=t'}:=I.un (Un.lZ mu he k heo) (I.aT.lZ mu he k heo new)
theorem Inv.P8{σ':List (Option V)}(I:Inv X pins σ H s)(hl:σ'.length=σ.length)(w:∀(i:Nat) v,σ'[i]? =some (some v)->σ[i]? =some (some v)):Inv X pins σ' H s:=
 ⟨I.ok,I.os,I.eD,I.base,let⟨m,hn,hl'⟩:=I.fM;⟨m,hn,fun i x v e1 e2 e3=>hl' i x v e1 (w i v e2) e3⟩,I.cell,I.free,I.iu,I.gD,I.aT,hl.trans I.len⟩
theorem Inv.DR{pins':List (ae×a9)}(I:Inv X pins σ H s)(h:∀p∈pins',s.heap.get? p.1=some p.2/\H p.1=none/\p.1≠X.ah.locals/\p.1∉X.fs/\∀v,p.2.data≠.cell v):Inv X pins' σ H s:=
 ⟨I.ok,I.os,I.eD,I.base,I.fM,I.cell,I.free,I.iu,fun p hp=>(cS.mp hp).elim (fun z=>I.gD p (c7 _ z)) (h p),I.aT,I.len⟩
theorem vd{N:List af}(hN:N.Nodup){i j:Nat}{x:af}(a:N[i]? =some x)(b:N[j]? =some x):i=j:=by
 obtain⟨h1,e1⟩:=cP.mp a;obtain⟨h2,e2⟩:=cP.mp b;exact(List.getElem_inj hN).mp (e1.trans e2.symm)
theorem DS{M:Model}{A:cv}{E:ag->ay->Prop}{i:Nat}{x:af}{v:V}{u:ag}{Q:Unit->ay->Prop}(I:Inv X pins σ H s)(hN:X.N.Nodup)(hi:X.N[i]? =some x)(hx:sH X.ah.scope x)(r:RelV v u)
(h:∀s',Inv X pins (σ.set i (some v)) H s'->(∃a,CG a s.heap s'.heap/\(a=X.ah.locals\/X.ah.cells.lookup x=some a))->Q () s')(hf:X.fn x=true\/X.ah.scope.names.lookup x=some .local:=by first|exact .inl rfl|exact .inr rfl|assumption):aW M A (storeName X.ah x u) Q E s:=by
 obtain⟨m,hn,hl⟩:=id I.fM;have hcls:(X.ah.scope.kind==.class || (X.ah.scope.kind==.module&&X.ah.locals != X.ah.globals))=false:=by rw[I.ok.kind];rfl
 have hiσ:i<σ.length:=by rw[I.len];exact(cP.mp hi).1
 have ky:=I.ky;have tracked:∀{a:ae}{h':Heap},(∃o,s.heap.get? a=some o/\H a=none)->CG a s.heap h'->dv X.prog X.w H h':=fun{a h'} ha hs b ob e=>by
  obtain⟨_,_,hfree⟩:=ha;refine(I.aT b ob e).lg (fun c w' hc q=>(hs.2 c ?_).trans q) (fun _ q=>q) fun _ _ q=>q;rintro rfl;rcases hc with rfl|hc
  ·rw[hfree]at e;cases e
  ·rw[hfree]at hc;cases hc
 rcases hx with hk|hk
 ·refine wpAny_storeName_local hk hn (fun h' hn' hs=>?_) hcls;obtain⟨oL,_,_,hoL,_⟩:=id hn;refine h _ ⟨I.ok,I.os,I.eD,⟨fun b o e n hb hx=>?_,fun b o e n hb hx=>?_,I.base.free,fun b o e hx=>?_,I.base.gO,I.base.gC,I.base.gP⟩,⟨_,hn',fun j y v' e1 e2 e3=>?_⟩,fun y c e=>?_,I.free,I.iu,fun p hp=>?_,tracked ⟨oL,hoL,I.free⟩ hs,by simpa using I.len⟩ ⟨_,hs,.inl rfl⟩
  ·exact(hs.2 b (eX (eO (cY e) I.ok.above))).trans (I.base.keep b o e n hb hx)
  ·obtain⟨sl,e1⟩:=I.base.slot b o e n hb hx;exact⟨sl,(hs.2 b (eX (eO (cY e) I.ok.above))).trans e1⟩
  ·obtain⟨o',e1⟩:=I.base.there b o e hx;exact⟨o',(hs.2 b (eX (eO (cY e) I.ok.above))).trans e1⟩
  ·by_cases hj:j=i
   ·subst hj;rw[hi]at e1;cases e1;rw[ki hiσ]at e2;cases e2;exact⟨u,r,.inl ⟨hk,by simp⟩⟩
   ·rw[uk (cM hj)]at e2;obtain⟨u',r',q⟩:=hl j y v' e1 e2 e3;refine⟨u',r',?_⟩;rcases q with⟨k,e⟩|⟨k,c,e,z⟩
    ·refine .inl ⟨k,?_⟩;have:y≠x:=fun e=>hj (vd hN e1 (e▸hi));simp[this,e]
    ·exact .inr ⟨k,c,e,z.sameBut hs (ky y c e)⟩
  ·obtain⟨w',z⟩:=I.cell y c e;exact⟨w',z.sameBut hs (ky y c e)⟩
  ·obtain⟨e,n,ne,nf,d⟩:=I.gD p hp;exact⟨(hs.2 p.1 ne).trans e,n,ne,nf,d⟩
 ·have hfn:X.fn x=true:=by
   rcases hf with z|z
   ·exact z
   ·rw[z]at hk;cases hk
  obtain⟨c,hc⟩:=I.ok.has x (.inl hk);obtain⟨w',z⟩:=I.cell x c hc;refine wpAny_storeName_cell I.ok.kind hk hc z (fun h' hc' hs=>?_);obtain⟨oc,hoc,hocd⟩:=id z;refine h {s with heap:=h'} ⟨I.ok,I.os,I.eD,⟨fun b o e n hb hx=>?_,fun b o e n hb hx=>?_,I.base.free,fun b o e hx=>?_,I.base.gO,I.base.gC,I.base.gP⟩,⟨m,hn.sameBut hs (cM (ky x c hc)),fun j y v' e1 e2 e3=>?_⟩,fun y c' e=>?_,I.free,I.iu,fun p hp=>?_,tracked ⟨oc,hoc,I.iu x c hc⟩ hs,by simpa using I.len⟩ ⟨c,hs,.inr hc⟩
  ·exact(hs.2 b (eX (eO (cY e) (I.ok.oY x c hfn hc)))).trans (I.base.keep b o e n hb hx)
  ·obtain⟨sl,e1⟩:=I.base.slot b o e n hb hx;exact⟨sl,(hs.2 b (eX (eO (cY e) (I.ok.oY x c hfn hc)))).trans e1⟩
  ·obtain⟨o',e1⟩:=I.base.there b o e hx;exact⟨o',(hs.2 b (eX (eO (cY e) (I.ok.oY x c hfn hc)))).trans e1⟩
  ·by_cases hj:j=i
   ·subst hj;rw[hi]at e1;cases e1;rw[ki hiσ]at e2;cases e2;exact⟨u,r,.inr ⟨.inl hk,c,hc,hc'⟩⟩
   ·rw[uk (cM hj)]at e2;obtain⟨u',r',q⟩:=hl j y v' e1 e2 e3;refine⟨u',r',?_⟩;rcases q with q|⟨k,c',e,z'⟩
    ·exact .inl q
    ·refine .inr ⟨k,c',e,z'.sameBut hs ?_⟩;rintro rfl;exact hj (vd hN e1 (I.ok.inj _ _ _ e hc▸hi))
  ·by_cases hcc:c'=c
   ·subst hcc;exact⟨_,hc'⟩
   ·obtain⟨w2,z2⟩:=I.cell y c' e;exact⟨w2,z2.sameBut hs hcc⟩
  ·obtain⟨e,n,ne,nf,d⟩:=I.gD p hp;refine⟨(hs.2 p.1 ?_).trans e,n,ne,nf,d⟩;intro q;rw[q,hoc]at e;have q':oc=p.2:=fz e;exact d w' (by rw[<-q'];exact hocd)
theorem sI{M:Model}{A:cv}{E:ag->ay->Prop}{i:Nat}{x:af}{v:V}{u:ag}{Q:Unit->ay->Prop}(I:Inv X pins σ H s)(hN:X.N.Nodup)(hi:X.N[i]? =some x)(hx:sH X.ah.scope x)(r:RelV v u)
(h:∀s',Inv X pins (σ.set i (some v)) H s'->Q () s')(hf:X.fn x=true\/X.ah.scope.names.lookup x=some .local:=by first|exact .inl rfl|exact .inr rfl|assumption):aW M A (storeName X.ah x u) Q E s:=
 DS I hN hi hx r (fun s' I' _=>h s' I') hf
theorem Inv.DT{s':ay}{ch:List ae}(I:Inv X pins σ H s)(ho:s'.os=s.os)(u:Un (dw X.stack) ch H H' s.heap s'.heap)(aT:dv X.prog X.w H' s'.heap)(hg:oE s'.gens)
(hch:∀b∈ch,(b∈X.ex\/X.gb.heap.objs.size<=b)/\b≠X.ah.locals/\(∀x c,X.ah.cells.lookup x=some c->c≠b)/\∀p∈X.pn++pins,p.1≠b):Inv X pins σ H' s':=by
 obtain⟨h',g',d',t',o'⟩:=s';have e:o'=s.os:=ho;subst e;exact I.call (g':=g') (t':=t') (d':=d') u aT hg hch
end
abbrev XK:=ag->Option ae->Hp->Prop
abbrev St:=List (Option V)
abbrev VK:=V->Hp->Prop
abbrev TE:=St->Hp->VK->Prop
abbrev TT:=St->Hp->(Bool->Hp->Prop)->Prop
abbrev TA:=St->Hp->(List V->Hp->Prop)->Prop
structure i9 where
 nx:St->Hp->Prop
 rt:VK
 bk:St->Hp->Prop:=fun _ _=>False
 ct:St->Hp->Prop:=fun _ _=>False
abbrev TS:=i9->St->Hp->Prop
inductive EP(X:Cx)(pins:List (ae×a9))(σ:St)(Q:VK)(u:ag)(s':ay):Prop
 |mk:∀v H',Inv X pins σ H' s'->RelV v u->Q v H'->EP X pins σ Q u s'
def TP(X:Cx)(pins:List (ae×a9))(σ:St)(Q:Bool->Hp->Prop)(b:Bool)(s':ay):Prop:=∃H',Inv X pins σ H' s'/\Q b H'
inductive AP(X:Cx)(pins:List (ae×a9))(σ:St)(Q:List V->Hp->Prop)(us:List ag)(s':ay):Prop
 |mk:∀vs H',Inv X pins σ H' s'->bt vs us->Q vs H'->AP X pins σ Q us s'
inductive qv(X:Cx)(pins:List (ae×a9))(N:St->Hp->Prop)(s':ay):Prop
 |mk:∀σ' H',Inv X pins σ' H' s'->N σ' H'->qv X pins N s'
inductive DU(X:Cx)(pins:List (ae×a9))(R:VK)(u:ag)(s':ay):Prop
 |mk:∀v σ' H',Inv X pins σ' H' s'->RelV v u->R v H'->DU X pins R u s'
def SP(X:Cx)(pins:List (ae×a9))(D:i9)(f:Flow)(s':ay):Prop:=
 match f with
 | .next=>qv X pins D.nx s'
 | .brk=>qv X pins D.bk s'
 | .cont=>qv X pins D.ct s'
 | .ret u=>DU X pins D.rt u s'
def PE(X:Cx)(e:bq)(t:TE):Prop:=
 ∀(pins:List (ae×a9))(s:ay)(σ:St)(H:Hp)(Q:VK),Inv X pins σ H s->t σ H Q->aW (aU X.prog X.w) X.A (eval e X.ah) (EP X pins σ Q) X.xe s
def PT(X:Cx)(e:bq)(t:TT):Prop:=
 ∀(pins:List (ae×a9))(s:ay)(σ:St)(H:Hp)(Q:Bool->Hp->Prop),Inv X pins σ H s->t σ H Q->aW (aU X.prog X.w) X.A (isTrue e X.ah (eval e X.ah)) (TP X pins σ Q) X.xe s
def PW(X:Cx)(e:bq)(t:TT):Prop:=
 ∀(whole:Sem ag)(pins:List (ae×a9))(s:ay)(σ:St)(H:Hp)(Q:Bool->Hp->Prop),Inv X pins σ H s->t σ H Q->aW (aU X.prog X.w) X.A (isTrue e X.ah whole) (TP X pins σ Q) X.xe s
theorem PW.pt{X:Cx}{e:bq}{t:TT}(h:PW X e t):PT X e t:=h _
def PA(X:Cx)(es:List bq)(t:TA):Prop:=
 ∀(pos:cx)(pins:List (ae×a9))(s:ay)(σ:St)(H:Hp)(Q:List V->Hp->Prop),Inv X pins σ H s->t σ H Q->aW (aU X.prog X.w) X.A (spliced (dU pos (b8 es X.ah))) (AP X pins σ Q) X.xe s
def PS(X:Cx)(st:aH)(t:TS):Prop:=
 ∀(pins:List (ae×a9))(s:ay)(σ:St)(H:Hp)(D:i9),Inv X pins σ H s->t D σ H->aW (aU X.prog X.w) X.A (exec st X.ah) (SP X pins D) X.xe s
def gQ(X:Cx)(st:List aH)(t:TS):Prop:=
 ∀(pins:List (ae×a9))(s:ay)(σ:St)(H:Hp)(D:i9),Inv X pins σ H s->t D σ H->aW (aU X.prog X.w) X.A (execs st X.ah) (SP X pins D) X.xe s
theorem a0{α:Type}{t:Sem α}{Q Q':α->ay->Prop}{M:Model}{A:cv}{E:ag->ay->Prop}{s:ay}(h:aW M A t Q E s)(hQ:∀a s,Q a s->Q' a s):aW M A t Q' E s:=jH h hQ fun _ _ x=>x
end L2
namespace L2
open PySem PySem.Spec PyProof.Rows
section
variable{X:Cx}
theorem bin{a b:bq}{ta tb:TE}(ha:PE X a ta)(hb:PE X b tb){pins:List (ae×a9)}{s:ay}{σ:St}{H:Hp}{R:V->V->Hp->Prop}(I:Inv X pins σ H s)(h:ta σ H fun x H1=>tb σ H1 fun y H2=>R x y H2)
{α:Type}{Q:α->ay->Prop}{f:ag->ag->Sem α}
(hf:∀v u s2 x y H2,Inv X pins σ H2 s2->RelV x v->RelV y u->R x y H2->aW (aU X.prog X.w) X.A (f v u) Q X.xe s2):
  aW (aU X.prog X.w) X.A (eval a X.ah) (fun v s₁=>aW (aU X.prog X.w) X.A (eval b X.ah) (fun u s₂=>aW (aU X.prog X.w) X.A (f v u) Q X.xe s₂) X.xe s₁) X.xe s:=by
 refine a0 (ha pins s σ H _ I h) fun v s1 qq=>?_;walk_at "ao";refine a0 (hb pins s1 σ H1 _ I1 q1) fun u s2 qq=>?_;obtain⟨y,H2,I2,r2,q2⟩:=qq;exact hf v u s2 x y H2 I2 r1 r2 q2
def fU(i:Nat):TE:=fun σ H Q=>∃v,σ[i]? =some (some v)/\Q v H
def tC(v:V):TE:=fun _ H Q=>Q v H
theorem zB{i:Nat}{x:af}{pos:cx}(hN:X.N[i]? =some x)(hv:oX X.ah.scope x)(hd:(x==("__debug__":af))=false:=by decide)(hcd:(x==("__classdict__":af))=false:=by decide):PE X (.Name x pos) (fU i):=by
 walk_at "ae";obtain⟨v,e,h⟩:=h;obtain⟨m,hn,hl⟩:=I.fM;obtain⟨u,r,l⟩:=hl i x v hN e hv;have fin:EP X pins σ Q u s:=⟨v,H,I,r,h⟩;rcases l with⟨hk,hm⟩|⟨hk,c,hc,hcell⟩
 ·exact wpAny_Name (wpAny_loadName_local I.ok.kind hk hn hm fin) hd
 ·rcases hk with hk|hk
  ·exact wpAny_Name (wpAny_loadName_cell I.ok.kind hk hc hcell fin) hd
  ·exact wpAny_Name (wpAny_loadName_free I.ok.kind hk hc hcell fin hcd) hd
theorem aS{i j pos}:PE X (.Constant (.int i) j pos) (tC (.int i)):=fun _ _ _ H _ I h=>wpAny_Constant_int ⟨.int i,H,I.cV _,⟨_,rfl⟩,h⟩
theorem ve{b j pos}:PE X (.Constant (.bool b) j pos) (tC (.bl b)):=fun _ _ _ H _ I h=>Constant_bool ⟨.bl b,H,I,rfl,h⟩
theorem vf{j pos}:PE X (.Constant .none j pos) (tC .aO):=fun _ _ _ H _ I h=>Constant_none ⟨.aO,H,I,rfl,h⟩
theorem jN{x j pos}:PE X (.Constant (.str x) j pos) (tC (.str x)):=fun _ _ _ H _ I h=>Od ⟨.str x,H,I.cV _,⟨_,rfl⟩,h⟩
def Gl(X:Cx)(x:af):Prop:=X.ah.kindOf x=some .globalImplicit
theorem nc{E:ag->ay->Prop}{pins:List (ae×a9)}{s:ay}{σ:St}{H:Hp}{x:af}{u:ag}{pos:cx}{Q:ag->ay->Prop}(I:Inv X pins σ H s)(hg:Gl X x)(hm:X.mg x=some u)(h:Q u s)
(hd:(x==("__debug__":af))=false:=by decide):aW (aU X.prog X.w) X.A (eval (.Name x pos) X.ah) Q E s:=
 aa8 I.ok.kind hg (Calls.loadGlobal_global (by rw[I.ok.ku];exact I.eV.ku.keeps I.bk) hm h) hd
theorem zC{E:ag->ay->Prop}{pins:List (ae×a9)}{s:ay}{σ:St}{H:Hp}{x:af}{u:ag}{pos:cx}{Q:ag->ay->Prop}(I:Inv X pins σ H s)(hg:Gl X x)(hm:X.mg x=none)(hv:jo x=some u)(h:Q u s)
(hn:x≠"__name__":=by decide)(hd:(x==("__debug__":af))=false:=by decide):aW (aU X.prog X.w) X.A (eval (.Name x pos) X.ah) Q E s:=by
 obtain⟨mb,h1,h2⟩:=I.eV.m9;exact aa8 I.ok.kind hg (Calls.loadGlobal_builtin (by rw[I.ok.ku];exact I.eV.ku.keeps I.bk) hm (by rw[I.ok.m9];exact h1.keeps I.bk) ((h2 x hn).trans hv) h) hd
theorem vg{x:af}{v:V}{u:ag}{pos:cx}(hg:Gl X x)(hm:X.mg x=some u)(r:RelV v u)(hd:(x==("__debug__":af))=false:=by decide):PE X (.Name x pos) (tC v):=
 fun _ _ _ H _ I h=>nc I hg hm ⟨v,H,I,r,h⟩ hd
variable{a b:bq}{ta tb:TE}{pos:cx}
def PC(X:Cx)(op:CmpOp)(a b:bq)(t:TE):Prop:=
 ∀(pins:List (ae×a9))(s:ay)(σ:St)(H:Hp)(Q:VK),Inv X pins σ H s->t σ H Q->
  aW (aU X.prog X.w) X.A (eval a X.ah) (fun v s₁=>aW (aU X.prog X.w) X.A (eval b X.ah) (fun u s₂=>aW (aU X.prog X.w) X.A (fA op v u) (EP X pins σ Q) X.xe s₂) X.xe s₁) X.xe s
def tB(t:TE):TT:=fun σ H Q=>t σ H fun x H1=>∃c,x=.bl c/\Q c H1
theorem P9{op:CmpOp}{t:TE}(h:PC X op a b t)(h1:behindInMarks op b=false:=by first|exact nobehind _ (by decide) (by decide)|rfl):PE X (.Compare a [op] [b] pos) t:=fun pins s σ H Q I hw=>wpAny_Compare1 (h pins s σ H Q I hw) h1
theorem sJ{op:CmpOp}{t:TE}(h:PC X op a b t)(h1:behindInMarks op b=false:=by first|exact nobehind _ (by decide) (by decide)|rfl):PT X (.Compare a [op] [b] pos) (tB t):=by
 intro pins s σ H Q I hw;refine wpAny_isTrue_Compare1 (a0 (h pins s σ H _ I hw) fun v s1 h1=>a0 h1 fun u s2 h2=>a0 h2 fun c s3 qq=>?_) h1;walk_at "ao";obtain⟨d,rfl,q⟩:=q1;cases r1;exact mX ⟨H1,I1,q⟩
variable{tA tB':TT}{rest:List bq}
def yP(t u:TT):TT:=fun σ H Q=>t σ H fun c H1=>if c=true then u σ H1 Q else Q false H1
def yQ(t u:TT):TT:=fun σ H Q=>t σ H fun c H1=>if c=true then Q true H1 else u σ H1 Q
def yR(t:TT):TT:=fun σ H Q=>t σ H fun c H1=>Q (!c) H1
theorem o6(ha:PT X a tA):PW X (.BoolOp .And [a] pos) tA:=by
 intro wh pins s σ H Q I h;refine isTrue_and (a0 (ha pins s σ H Q I h) fun c s1 e=>?_);cases c with
 |true=>exact isTrue_and_nil e
 |false=>exact e
theorem vh(ha:PT X a tA):PW X (.BoolOp .Or [a] pos) tA:=by
 intro wh pins s σ H Q I h;refine isTrue_or (a0 (ha pins s σ H Q I h) fun c s1 e=>?_);cases c with
 |false=>exact isTrue_or_nil e
 |true=>exact e
theorem o7(ha:PT X a tA)(hb:PW X (.BoolOp .And (b::rest) pos) tB'):PW X (.BoolOp .And (a::b::rest) pos) (yP tA tB'):=by
 intro wh pins s σ H Q I h;refine isTrue_and (a0 (ha pins s σ H _ I h) fun c s1 qq=>?_);obtain⟨H1,I1,q1⟩:=qq;cases c with
 |true=>exact hb wh pins s1 σ H1 Q I1 q1
 |false=>exact⟨H1,I1,q1⟩
theorem vi(ha:PT X a tA)(hb:PW X (.BoolOp .Or (b::rest) pos) tB'):PW X (.BoolOp .Or (a::b::rest) pos) (yQ tA tB'):=by
 intro wh pins s σ H Q I h;refine isTrue_or (a0 (ha pins s σ H _ I h) fun c s1 qq=>?_);obtain⟨H1,I1,q1⟩:=qq;cases c with
 |true=>exact⟨H1,I1,q1⟩
 |false=>exact hb wh pins s1 σ H1 Q I1 q1
theorem vj(ha:PT X a tA):PT X (.UnaryOp .Not a pos) (yR tA):=by
 walk_at "ae";exact isTrue_not (ha pins s σ H (fun c H1=>Q (!c) H1) I h)
def zn(ta tb:TE):TE:=fun σ H Q=>ta σ H fun x H1=>∃c,x=.bl c/\if c=true then tb σ H1 Q else Q (.bl false) H1
def DJ(ta tb:TE):TE:=fun σ H Q=>ta σ H fun x H1=>∃c,x=.bl c/\if c=true then Q (.bl true) H1 else tb σ H1 Q
def zp(ta:TE):TE:=fun σ H Q=>ta σ H fun x H1=>∃c,x=.bl c/\Q (.bl (!c)) H1
theorem zD{op}{t:TE}(h:PE X a t):PE X (.BoolOp op [a] pos) t:=fun pins s σ H Q I hw=>BoolOp_one (h pins s σ H Q I hw)
theorem zE(ha:PE X a ta)(hb:PE X (.BoolOp .And (b::rest) pos) tb):PE X (.BoolOp .And (a::b::rest) pos) (zn ta tb):=by
 walk_at "ae";refine BoolOp_and (a0 (ha pins s σ H _ I h) fun v s1 qq=>?_);walk_at "ao";obtain⟨c,rfl,q1⟩:=q1;cases r1;refine mX ?_;cases c with
 |true=>exact hb pins s1 σ H1 Q I1 q1
 |false=>exact⟨.bl false,H1,I1,rfl,q1⟩
theorem Qa(ha:PE X a ta):PE X (.UnaryOp .Not a pos) (zp ta):=by
 walk_at "ae";refine UnaryOp_ (a0 (ha pins s σ H _ I h) fun v s1 qq=>?_);walk_at "ao";obtain⟨c,rfl,q1⟩:=q1;cases r1;exact not_of (mX ⟨.bl (!c),H1,I1,rfl,q1⟩)
def yO(t:TT)(ta tb:TE):TE:=fun σ H Q=>t σ H fun c H1=>if c=true then ta σ H1 Q else tb σ H1 Q
theorem o8{c:bq}(hc:PT X c tA)(ha:PE X a ta)(hb:PE X b tb):PE X (.IfExp c a b pos) (yO tA ta tb):=by
 walk_at "ae";refine wpAny_IfExp (a0 (hc pins s σ H _ I h) fun d s1 qq=>?_);obtain⟨H1,I1,q1⟩:=qq;cases d with
 |true=>exact ha pins s1 σ H1 Q I1 q1
 |false=>exact hb pins s1 σ H1 Q I1 q1
end
end L2
namespace L2
open PySem PySem.Spec PyProof.Rows
def bV(K:ax)(H:Hp)(a:ae)(xs:List V):Prop:=
 Rd H a (.ai xs)\/
  ∃(o:a9)(its:Array ag)(n:Nat),K.lookup a=some o/\o.cls=.type "list"/\o.dict=none/\o.data=.seq its n/\its.size<=bE/\bt xs its.toList
def dH(K:ax)(H:Hp)(a:ae)(xs:List V):Prop:=
 Rd H a (.aj xs)\/
  ∃(o:a9)(its:Array ag)(n:Nat),K.lookup a=some o/\o.cls=.type "tuple"/\o.data=.seq its n/\its.size<=bE/\bt xs its.toList
def Qb:ag->Option V
 | .none=>some .aO
 | .bool b=>some (.bl b)
 | .int i _=>some (.int i)
 | .str x _=>some (.str x)
 | .bytes b _=>some (.gB b)
 | .float b _=>some (.i6 b)
 | .ref a=>some (.ref a)
 | .type n=>some (.ty n)
 |_=>none
theorem RelV.DV{x:V}{u:ag}(r:RelV x u):Qb u=some x:=by
 cases x with
 |aO=>cases r;rfl
 |bl _=>cases r;rfl
 |int _=>obtain⟨t,rfl⟩:=r;rfl
 |str _=>obtain⟨t,rfl⟩:=r;rfl
 |gB _=>obtain⟨t,rfl⟩:=r;rfl
 |i6 _=>obtain⟨t,rfl⟩:=r;rfl
 |ref _=>cases r;rfl
 |ty _=>cases r;rfl
theorem RelV.inj{x y:V}{u:ag}(r:RelV x u)(q:RelV y u):x=y:=fz (r.DV.symm.trans q.DV)
theorem bt.inj:∀{xs ys:List V}{us:List ag},bt xs us->bt ys us->xs=ys:=by
 intro xs ys us h;induction h generalizing ys with
 |nil=>intro h;cases h;rfl
 |cons r t ih=>
  intro h;cases h with
  |cons r' t'=>rw[r.inj r',ih t']
section
variable{X:Cx}{pins:List (ae×a9)}{σ:St}{H:Hp}{s:ay}{a:ae}{xs ys:List V}
theorem bV.of{K:ax}(h:H a=some (.ai xs)):bV K H a xs:=.inl (.inl h)
theorem dH.of{K:ax}(h:H a=some (.aj xs)):dH K H a xs:=.inl (.inl h)
theorem Inv.list(I:Inv X pins σ H s)(h:bV X.K H a xs):∃its:List ag,bt xs its/\PlainL s.heap a its.toArray/\xs.length<=sizeLine:=by
 rcases h with h|⟨o,its,n,hk,hc,hd,hs,hz,r⟩
 ·obtain⟨z,its,n,r,e⟩:=h.ok I.aT;exact⟨its,r,⟨_,n,e,rfl,rfl,rfl⟩,z⟩
 ·refine⟨its.toList,r,⟨o,n,I.c8 a o hk,hc,hd,by simpa using hs⟩,?_⟩;have e:=r.length;simp only[Oe]at e
  lia
theorem Inv.tuple(I:Inv X pins σ H s)(h:dH X.K H a xs):∃its:List ag,bt xs its/\IsTup s.heap a its.toArray/\xs.length<=sizeLine:=by
 rcases h with h|⟨o,its,n,hk,hc,hs,hz,r⟩
 ·obtain⟨z,its,r,p⟩:=h.ok I.aT;exact⟨its,r,p,z⟩
 ·refine⟨its.toList,r,⟨o,I.c8 a o hk,hc,n,by simpa using hs⟩,?_⟩;have e:=r.length;simp only[Oe]at e
  lia
theorem Inv.DW(I:Inv X pins σ H s)(h:bV X.K H a xs)(h':bV X.K H a ys):xs=ys:=by
 obtain⟨its,r,⟨o,n,e,_,_,d⟩,_⟩:=I.list h;obtain⟨its',r',⟨o',n',e',_,_,d'⟩,_⟩:=I.list h';rw[e]at e';cases e';rw[d]at d';injection d' with d1 _
 have:its=its':=by simpa using congrArg CH d1
 subst this;exact r.inj r'
theorem Inv.Qc(I:Inv X pins σ H s)(h:dH X.K H a xs)(h':dH X.K H a ys):xs=ys:=by
 obtain⟨its,r,⟨o,e,_,n,d⟩,_⟩:=I.tuple h;obtain⟨its',r',⟨o',e',_,n',d'⟩,_⟩:=I.tuple h';rw[e]at e';cases e';rw[d]at d';injection d' with d1 _
 have:its=its':=by simpa using congrArg CH d1
 subst this;exact r.inj r'
end
abbrev Cx.lh(X:Cx)(E:ag->ay->Prop):Cx:={X with xe:=E}
abbrev Cx.vm(X:Cx):Cx:=X.lh fun _ _=>False
theorem Cx.Ok.lh{X:Cx}(ok:X.Ok)(E:ag->ay->Prop):(X.lh E).Ok:=
 ⟨ok.eV,ok.kind,ok.ku,ok.m9,ok.above,ok.inj,ok.has,ok.oY,ok.hd,ok.frames,ok.au,ok.qu,ok.bs,ok.jM,ok.oZ,ok.o0,ok.fD,ok.l6⟩
theorem Cx.Ok.nh{X:Cx}{E:ag->ay->Prop}(ok:(X.lh E).Ok):X.Ok:=
 ⟨ok.eV,ok.kind,ok.ku,ok.m9,ok.above,ok.inj,ok.has,ok.oY,ok.hd,ok.frames,ok.au,ok.qu,ok.bs,ok.jM,ok.oZ,ok.o0,ok.fD,ok.l6⟩
section
variable{X:Cx}{pins:List (ae×a9)}{σ:St}{H:Hp}{s:ay}{E:ag->ay->Prop}
theorem Inv.lh(I:Inv X pins σ H s)(E:ag->ay->Prop):Inv (X.lh E) pins σ H s:=⟨I.ok.lh E,I.os,I.eD,I.base,I.fM,I.cell,I.free,I.iu,I.gD,I.aT,I.len⟩
theorem Inv.nh(I:Inv (X.lh E) pins σ H s):Inv X pins σ H s:=⟨I.ok.nh,I.os,I.eD,I.base,I.fM,I.cell,I.free,I.iu,I.gD,I.aT,I.len⟩
theorem SP.nh{D:i9}{f:Flow}{s':ay}(h:SP (X.lh E) pins D f s'):SP X pins D f s':=by
 cases f with
 |next=>obtain⟨σ',H',I,q⟩:=h;exact⟨σ',H',I.nh,q⟩
 |brk=>obtain⟨σ',H',I,q⟩:=h;exact⟨σ',H',I.nh,q⟩
 |cont=>obtain⟨σ',H',I,q⟩:=h;exact⟨σ',H',I.nh,q⟩
 |ret u=>obtain⟨v,σ',H',I,r,q⟩:=h;exact⟨v,σ',H',I.nh,r,q⟩
theorem gQ.vm{st:List aH}{t:TS}(h:gQ X.vm st t):gQ X st t:=fun pins s σ H D I hw=>
 jH (h pins s σ H D (I.lh _) hw) (fun _ _ q=>q.nh) fun _ _ z=>fc z
end
section
variable{X:Cx}{st:aH}{rest:List aH}{t u:TS}{e:bq}{te:TE}{pos:cx}
def yM:TS:=fun D σ H=>D.nx σ H
def m6(t u:TS):TS:=fun D σ H=>t {D with nx:=u D} σ H
theorem lT:gQ X [] yM:=fun _ _ σ H _ I h=>um ⟨σ,H,I,h⟩
theorem uU(h1:PS X st t)(h2:gQ X rest u):gQ X (st::rest) (m6 t u):=by
 walk_at "aq";refine wpAny_execs_cons (a0 (h1 pins s σ H {D with nx:=u D} I h) fun f s1 q=>?_);cases f with
 |next=>
  obtain⟨σ',H',I',q⟩:=q;exact h2 pins s1 σ' H' D I' q
 |ret v=>exact q
 |brk=>exact q
 |cont=>exact q
theorem cg(h1:PS X st t):gQ X [st] t:=by
 walk_at "aq";refine wpAny_execs_cons (a0 (h1 pins s σ H D I h) fun f s1 q=>?_);cases f with
 |next=>exact um q
 |ret v=>exact q
 |brk=>exact q
 |cont=>exact q
theorem Inv.quiet{pins:List (ae×a9)}{σ:St}{H:Hp}{s:ay}(I:Inv X pins σ H s):interactive X.ah=false:=by simp[interactive,I.ok.kind]
def lV(te:TE):TS:=fun D σ H=>te σ H fun _ H1=>D.nx σ H1
theorem aE(he:PE X e te)(hs:swapsWith e none pos.line X.ah=pure false:=by rfl):PS X (.Expr e pos) (lV te):=by
 walk_at "aq";exact wpAny_Expr_any (a0 (he pins s σ H _ I h) fun v s1 ⟨x,H1,I1,r1,q1⟩=>⟨σ,H1,I1,q1⟩) I.quiet hs
def qf(te:TE):TS:=fun D σ H=>te σ H D.rt
theorem dh(he:PE X e te):PS X (.Return (some e) pos) (qf te):=by
 walk_at "aq";exact wpAny_Return_some (a0 (he pins s σ H _ I h) fun v s1 ⟨x,H1,I1,r1,q1⟩=>⟨x,σ,H1,I1,r1,q1⟩)
def yN:TS:=fun D _ H=>D.rt .aO H
theorem vn:PS X (.Return none pos) yN:=fun _ _ σ H _ I h=>wpAny_Return_none ⟨.aO,σ,H,I,rfl,h⟩
def yL(c:TT)(t u:TS):TS:=fun D σ H=>c σ H fun b H1=>if b=true then t D σ H1 else u D σ H1
theorem fB{c:bq}{a b:List aH}{tc:TT}(hc:PT X c tc)(ha:gQ X a t)(hb:gQ X b u):PS X (.If c a b pos) (yL tc t u):=by
 walk_at "aq";refine wpAny_If (a0 (hc pins s σ H _ I h) fun d s1 qq=>?_);obtain⟨H1,I1,q1⟩:=qq;cases d with
 |true=>exact ha pins s1 σ H1 D I1 q1
 |false=>exact hb pins s1 σ H1 D I1 q1
end
abbrev TG:=V->St->Hp->(St->Hp->Prop)->Prop
def PG(X:Cx)(target:bq)(t:TG):Prop:=
 ∀(pins:List (ae×a9))(s:ay)(σ:St)(H:Hp)(v:V)(u:ag)(Q:St->Hp->Prop),Inv X pins σ H s->RelV v u->t v σ H Q->
  aW (aU X.prog X.w) X.A (assign target X.ah u) (fun _ s'=>qv X pins Q s') X.xe s
abbrev zF:=V->V->V->Hp->(Hp->Prop)->Prop
def DX(X:Cx)(t:zF):Prop:=
 ∀(pins:List (ae×a9))(s:ay)(σ:St)(H:Hp)(o i v:V)(ov iv u:ag)(Q:Hp->Prop),Inv X pins σ H s->RelV o ov->RelV i iv->RelV v u->t o i v H Q->
  aW (aU X.prog X.w) X.A (setItem ov iv u) (fun _ s'=>∃H',Inv X pins σ H' s'/\Q H') X.xe s
abbrev vp:=V->V->Hp->VK->Prop
def zG(X:Cx)(op:uo)(t:vp):Prop:=
 ∀(pins:List (ae×a9))(s:ay)(σ:St)(H:Hp)(x y:V)(v u:ag)(Q:VK),Inv X pins σ H s->RelV x v->RelV y u->t x y H Q->
  aW (aU X.prog X.w) X.A (inplaceOp op v u) (EP X pins σ Q) X.xe s
section
variable{X:Cx}{pos:cx}
def oS(i:Nat):TG:=fun v σ H Q=>Q (σ.set i (some v)) H
theorem jO{i:Nat}{x:af}(hN:X.N.Nodup)(hi:X.N[i]? =some x)(hx:sH X.ah.scope x)(hf:X.fn x=true\/X.ah.scope.names.lookup x=some .local:=by first|exact .inl rfl|exact .inr rfl|assumption):PG X (.Name x pos) (oS i):=by
 intro pins s σ H v u Q I r h;exact wpAny_assign_Name (sI I hN hi hx r (fun s' I'=>⟨_,H,I',h⟩) hf)
def zH(to ti:TE)(t:zF):TG:=fun v σ H Q=>to σ H fun o H1=>ti σ H1 fun i H2=>t o i v H2 fun H3=>Q σ H3
theorem zI{o i:bq}{to ti:TE}{t:zF}(ho:PE X o to)(hi:PE X i ti)(hs:DX X t)
(ha:∀v,assign (.Subscript o i pos) X.ah v=(do
   let ov <-holding [v] (eval o X.ah);let iv <-holding [v,ov] (eval i X.ah)
   standAt pos
   holding [v,ov,iv] (setItem ov iv v)
   release [v,ov,iv] []):=by intro _;rfl):PG X (.Subscript o i pos) (zH to ti t):=by
 intro pins s σ H v u Q I r h;rw[ha];refine bT (wpAny_holding (a0 (ho pins s σ H _ I h) fun ov s1 qq=>?_));walk_at "ao";refine bT (wpAny_holding (a0 (hi pins s1 σ H1 _ I1 q1) fun iv s2 qq=>?_));obtain⟨y,H2,I2,r2,q2⟩:=qq;refine bT (wpAny_standAt (bT (wpAny_holding (a0 (hs pins s2 σ H2 x y v ov iv u _ I2 r1 r2 r q2) fun _ s3 qq=>?_))));obtain⟨H3,I3,q3⟩:=qq;exact wpAny_release ⟨σ,H3,I3,q3⟩
def sA(te:TE)(g:TG):TS:=fun D σ H=>te σ H fun x H1=>g x σ H1 D.nx
theorem zJ{tg e:bq}{te:TE}{g:TG}(he:PE X e te)(hg:PG X tg g)(hs:swapsWithSole [tg] e pos.line X.ah=pure false:=by rfl)(hw:swappedStores [tg] e X.ah=pure none:=by rfl)
(h1:(assignEach [tg] X.ah).map (·.2)=[assign tg X.ah]:=by rfl):PS X (.Assign [tg] e pos) (sA te g):=by
 walk_at "aq";refine wpAny_Assign_stores (a0 (he pins s σ H _ I h) fun v s1 qq=>?_) hs hw;walk_at "ao";rw[h1];exact a0 (hg pins s1 σ H1 x v _ I1 r1 q1) fun _ s2 q=>q
theorem Du{i:Nat}{x:af}{e:bq}{te:TE}{pos':cx}(hN:X.N.Nodup)(hi:X.N[i]? =some x)(hx:sH X.ah.scope x)(he:PE X e te)(hs:swapsWith e (some (.Name x pos')) pos.line X.ah=pure false:=by rfl)(hf:X.fn x=true\/X.ah.scope.names.lookup x=some .local:=by first|exact .inl rfl|exact .inr rfl|assumption):
  PS X (.Assign [.Name x pos'] e pos) (sA te (oS i)):=by
 walk_at "aq";refine wpAny_Assign_Name (a0 (he pins s σ H _ I h) fun v s1 qq=>?_) hs;obtain⟨y,H1,I1,r1,q1⟩:=qq;exact sI I1 hN hi hx r1 (fun s2 I2=>⟨_,H1,I2,q1⟩) hf
def y6(i:Nat)(te:TE)(ti:vp):TS:=fun D σ H=>∃x,σ[i]? =some (some x)/\te σ H fun y H1=>ti x y H1 fun z H2=>D.nx (σ.set i (some z)) H2
theorem lj{i:Nat}{x:af}{e:bq}{te:TE}{op:uo}{ti:vp}{pos':cx}(hN:X.N.Nodup)(hi:X.N[i]? =some x)(hx:sH X.ah.scope x)(he:PE X e te)(ho:zG X op ti)(hf:X.fn x=true\/X.ah.scope.names.lookup x=some .local:=by first|exact .inl rfl|exact .inr rfl|assumption):
  PS X (.AugAssign (.Name x pos') op e pos) (y6 i te ti):=by
 walk_at "aq";obtain⟨v,e1,h⟩:=h;obtain⟨m,hn,hl⟩:=I.fM;have vis:oX X.ah.scope x:=by rcases hx with k|k;exact .inl k;exact .inr (.inl k)
 obtain⟨u,r,l⟩:=hl i x v hi e1 vis;refine wpAny_AugAssign_Name ?_;have go:aW (aU X.prog X.w) X.A (eval e X.ah) (fun w s₂=>aW (aU X.prog X.w) X.A (inplaceOp op u w) (fun r s₃=>aW (aU X.prog X.w) X.A (storeName X.ah x r) (fun _=>SP X pins D .next) X.xe s₃) X.xe s₂) X.xe s:=by
  refine a0 (he pins s σ H _ I h) fun w s1 qq=>?_;obtain⟨y,H1,I1,r1,q1⟩:=qq;refine a0 (ho pins s1 σ H1 v y u w _ I1 r r1 q1) fun z s2 qq=>?_;obtain⟨zv,H2,I2,r2,q2⟩:=qq;exact sI I2 hN hi hx r2 (fun s3 I3=>⟨_,H2,I3,q2⟩) hf
 rcases l with⟨hk,hm⟩|⟨hk,c,hc,hcell⟩
 ·exact wpAny_loadName_local I.ok.kind hk hn hm go
 ·rcases hk with hk|hk
  ·exact wpAny_loadName_cell I.ok.kind hk hc hcell go
  ·rcases hx with k|k
   ·have:X.ah.scope.names.lookup x=some .free:=hk;rw[k]at this;cases this
   ·have:X.ah.scope.names.lookup x=some .free:=hk;rw[k]at this;cases this
def uZ(f:Int->Int->Int):vp:=fun x y H Q=>∃i j,x=.int i/\y=.int j/\Q (.int (f i j)) H
theorem o9:zG X .Add (uZ fun i j=>i+j):=by
 intro pins s σ H x y v u Q I r1 r2 h;obtain⟨i,j,e1,e2,q⟩:=h;subst e1;subst e2;obtain⟨t,rfl⟩:=r1;obtain⟨t',rfl⟩:=r2;exact iadd_int ⟨.int _,H,I.cV _,⟨_,rfl⟩,q⟩
theorem zK:zG X .Sub (uZ fun i j=>i-j):=by
 intro pins s σ H x y v u Q I r1 r2 h;obtain⟨i,j,e1,e2,q⟩:=h;subst e1;subst e2;obtain⟨t,rfl⟩:=r1;obtain⟨t',rfl⟩:=r2;exact isub_int ⟨.int _,H,I.cV _,⟨_,rfl⟩,q⟩
end
section
variable{X:Cx}{pos:cx}
def DY(c:TT)(tb:TS):TS:=fun D σ H=>∃W:Nat->St->Hp->Prop,(∃m,W m σ H)/\∀m σ H,W m σ H->
 c σ H fun b H1=>if b=true then ∃N:St->Hp->Prop,(∀σ' H',N σ' H'->∃m',m'<m/\W m' σ' H')/\tb {D with nx:=N,ct:=N,bk:=D.nx} σ H1 else D.nx σ H1
theorem ni{c:bq}{body:List aH}{tc:TT}{tb:TS}(hp:PassesOwn (aU X.prog X.w) X.A X.ah X.xe)(hc:PT X c tc)(hb:gQ X body tb):PS X (.While c body [] pos) (DY tc tb):=by
 walk_at "aq";obtain⟨W,⟨m0,w0⟩,turn⟩:=h;refine wpAny_While (codeAny_whileLoop (fun n s'=>qv X pins (W n) s') ?_ m0 ⟨σ,H,I,w0⟩);rintro n s1 ⟨σ1,H1,I1,w1⟩;refine rK hp (a0 (hc pins s1 σ1 H1 _ I1 (turn n σ1 H1 w1)) fun b s2 qq=>?_);obtain⟨H2,I2,q2⟩:=qq;cases b with
 |true=>
  obtain⟨N,hN,q2⟩:=q2;rw[if_pos rfl];refine rK hp (a0 (hb pins s2 σ1 H2 _ I2 q2) fun f s3 q3=>?_);cases f with
  |next=>
   obtain⟨σ3,H3,I3,n3⟩:=q3;obtain⟨m',hm,w3⟩:=hN σ3 H3 n3;exact⟨m',hm,σ3,H3,I3,w3⟩
  |cont=>
   obtain⟨σ3,H3,I3,n3⟩:=q3;obtain⟨m',hm,w3⟩:=hN σ3 H3 n3;exact⟨m',hm,σ3,H3,I3,w3⟩
  |brk=>exact q3
  |ret v=>exact q3
 |false=>
  rw[if_neg fQ];exact um ⟨σ1,H2,I2,q2⟩
end
structure It where
 go:Nat->Hp->Prop
 nj:Nat->Hp->V->Hp->Prop
 jP:Nat->Hp->Prop
def lm(X:Cx)(pins:List (ae×a9))(H:Hp)(b:ae):Prop:=
 H b=none/\b≠X.ah.locals/\b∉X.fs/\(b∈X.ex\/X.gb.heap.objs.size<=b)/\(∀x c,X.ah.cells.lookup x=some c->c≠b)/\∀p∈X.pn++pins,p.1≠b
theorem Inv.vq{X:Cx}{pins:List (ae×a9)}{σ:St}{H H':Hp}{s:ay}{b:ae}(I:Inv X pins σ H s)(hb:s.heap.objs.size<=b)(hn:H' b=none):lm X pins H' b:=by
 refine⟨hn,Nat.ne_of_gt (eO I.lt hb),I.P7 hb,.inr (dM I.sz hb),fun x c e z=>?_,fun p hp z=>?_⟩
 ·obtain⟨v,q⟩:=I.cell x c e;exact absurd (eO q.lt (by rw[z];exact hb)) (lJ _)
 ·exact absurd (eO (cY (I.gD p hp).1) (by rw[z];exact hb)) (lJ _)
structure qw(P:bv)(w:bf)(K:ax)(tg:bq)(J:It)(fp:List ae)(it:ae)(tn:Nat->Heap->Prop):Prop where
 mem:it∈fp
 obj:∀i h,tn i h->∀b∈fp,∃o,h.get? b=some o/\∀v,o.data≠.cell v
 keep:∀i h h',tn i h->(∀b∈fp,∀o,h.get? b=some o->h'.get? b=some o)->tn i h'
 item:∀(X:Cx),X.prog=P->X.w=w->X.K=K->X.i8=true->∀(i:Nat)(pins:List (ae×a9))(s:ay)(σ:St)(H:Hp)(E:ag->ay->Prop),Inv X pins σ H s->(∀b∈fp,lm X pins H b)->tn i s.heap->J.go i H->
  aW (aU P w) X.A (pyNext (.ref it)) (fun r s1=>∃u,r=some u/\
   aW (aU P w) X.A (letOwnedTupleGo tg (.ref it) u) (fun _ s2=>∃x H',Inv X pins σ H' s2/\RelV x u/\J.nj i H x H'/\tn (i+1) s2.heap/\∀b∈fp,H' b=none) E s1) E s
 done:∀(X:Cx),X.prog=P->X.w=w->X.K=K->X.i8=true->∀(i:Nat)(pins:List (ae×a9))(s:ay)(σ:St)(H:Hp)(E:ag->ay->Prop),Inv X pins σ H s->(∀b∈fp,lm X pins H b)->tn i s.heap->J.jP i H->
  aW (aU P w) X.A (pyNext (.ref it)) (fun r s1=>r=none/\Inv X pins σ H s1) E s
 gc:∀(A:cv)(i:Nat)(s:ay)(Q:ag->ay->Prop)(E:ag->ay->Prop),tn i s.heap->Q (.ref it) s->aW (aU P w) A (pyIter (.ref it)) Q E s
abbrev TI:=St->Hp->(It->Hp->Prop)->Prop
inductive zL(X:Cx)(pins:List (ae×a9))(σ:St)(tg:bq)(R:It->Hp->Prop)(itv:ag)(s2:ay):Prop
 |mk:∀(it:ae)(fp:List ae)(tn:Nat->Heap->Prop)(J:It)(H':Hp),itv=.ref it->Inv X pins σ H' s2->qw X.prog X.w X.K tg J fp it tn->tn 0 s2.heap->(∀b∈fp,lm X pins H' b)->R J H'->zL X pins σ tg R itv s2
def PI(X:Cx)(tg iter:bq)(wi:TI):Prop:=
 ∀(pins:List (ae×a9))(s:ay)(σ:St)(H:Hp)(R:It->Hp->Prop),Inv X pins σ H s->wi σ H R->
  aW (aU X.prog X.w) X.A (eval iter X.ah) (fun v s1=>aW (aU X.prog X.w) X.A (pyIter v) (zL X pins σ tg R) X.xe s1) X.xe s
theorem vw{M:Model}{A:cv}{E:ag->ay->Prop}{s:ay}{tg:bq}{it:ae}{u:ag}{o:a9}{n:String}{vs:Array ag}{Q:Unit->ay->Prop}(ho:s.heap.get? it=some o)(hc:o.cls=.type n)(hd:o.data=.fields vs)
(hn:["enumerate","zip","dict_itemiterator","dict_reverseitemiterator","odict_iterator","itertools.zip_longest","itertools.pairwise"].contains n=false)(hQ:Q () s):aW M A (letOwnedTupleGo tg (.ref it) u) Q E s:=by
 unfold letOwnedTupleGo;cases tg<;>first
  |exact dW hQ
  |(cases u<;>first
    |exact dW hQ
    |(refine bT (wpAny_load ho ?_)
      rw[hc,hd];show aW M A (if(["enumerate","zip","dict_itemiterator","dict_reverseitemiterator","odict_iterator","itertools.zip_longest","itertools.pairwise"].contains n&&vs[0]? ==some (rawInt _))=true then _ else _) Q E s;rw[if_neg (by intro h;rw[hn,Of]at h;cases h)];exact dW hQ))
def nk(K:ax)(a:ae):It:=
 ⟨fun i H=>∃xs x,bV K H a xs/\xs[i]? =some x,fun i H x H'=>H'=H/\∀xs,bV K H a xs->xs[i]? =some x,fun i H=>∃xs,bV K H a xs/\xs.length<=i⟩
def sK(K:ax)(a:ae):It:=
 ⟨fun i H=>∃xs x,dH K H a xs/\xs[i]? =some x,fun i H x H'=>H'=H/\∀xs,dH K H a xs->xs[i]? =some x,fun i H=>∃xs,dH K H a xs/\xs.length<=i⟩
theorem Qe{P:bv}{w:bf}{K:ax}{tg:bq}(a it:ae):qw P w K tg (nk K a) [it] it (fun i h=>h.IsListIter it a i) where
 mem:=by simp
 obj:=fun i h st b hb=>by
  have e:b=it:=by simpa using hb
  subst e;obtain⟨o,e,c,d⟩:=st;exact⟨o,e,fun v z=>by rw[d]at z;cases z⟩
 keep:=fun i h h' st k=>st.at fun o e=>k it (by simp) o e
 item:=by
  intro X hP hw hK hc i pins s σ H E I hf st hg;subst hP hw hK;obtain⟨xs,x,hq,hx⟩:=hg;obtain⟨its,rv,p,hz⟩:=I.list hq;obtain⟨u,hu,ru⟩:=rv.get hx;obtain⟨f0,f1,f2,f3,f4,f5⟩:=hf it (by simp);refine wpAny_pyNext_list_item st p.isList (x:=u) (by simpa using hu) fun h' st' sb=>?_;have I1:Inv X pins σ H {s with heap:=h'}:=I.kz (t':=s.toks) (fun b o hb e=>(sb.2 b hb).trans e) f0 f1 f3 f4 f5;obtain⟨o,e,c,d⟩:=id st';exact⟨u,rfl,vw (s:={s with heap:=h'}) e c d (by decide) ⟨x,H,I1,ru,⟨rfl,fun ys hy=>by rw[I.DW hy hq];exact hx⟩,st',fun b hb=>(hf b hb).1⟩⟩
 done:=by
  intro X hP hw hK hc i pins s σ H E I hf st hg;subst hP hw hK;obtain⟨xs,hq,hx⟩:=hg;obtain⟨its,rv,p,hz⟩:=I.list hq;obtain⟨f0,f1,f2,f3,f4,f5⟩:=hf it (by simp);have hl:=rv.length;exact wpAny_pyNext_list_end (I.ok.hd hc) st p.isList (by simp;lia) fun h' eb=>⟨rfl,I.kz (t':=s.toks) (fun b o hb e=>eb b o hb e) f0 f1 f3 f4 f5⟩
 gc:=fun _ _ _ _ _ st h=>wpAny_pyIter_listiter st h
theorem Qg{P:bv}{w:bf}{K:ax}{tg:bq}(a it:ae):qw P w K tg (sK K a) [it] it (fun i h=>h.IsTupleIter it a i) where
 mem:=by simp
 obj:=fun i h st b hb=>by
  have e:b=it:=by simpa using hb
  subst e;obtain⟨o,e,c,d⟩:=st;exact⟨o,e,fun v z=>by rw[d]at z;cases z⟩
 keep:=fun i h h' st k=>st.at fun o e=>k it (by simp) o e
 item:=by
  intro X hP hw hK hc i pins s σ H E I hf st hg;subst hP hw hK;obtain⟨xs,x,hq,hx⟩:=hg;obtain⟨its,rv,p,hz⟩:=I.tuple hq;obtain⟨u,hu,ru⟩:=rv.get hx;obtain⟨f0,f1,f2,f3,f4,f5⟩:=hf it (by simp);refine wpAny_pyNext_tuple_item st (show s.heap.IsTuple a its.toArray from p) (x:=u) (by simpa using hu) fun h' st' sb=>?_;have I1:Inv X pins σ H {s with heap:=h'}:=I.kz (t':=s.toks) (fun b o hb e=>(sb.2 b hb).trans e) f0 f1 f3 f4 f5;obtain⟨o,e,c,d⟩:=id st';exact⟨u,rfl,vw (s:={s with heap:=h'}) e c d (by decide) ⟨x,H,I1,ru,⟨rfl,fun ys hy=>by rw[I.Qc hy hq];exact hx⟩,st',fun b hb=>(hf b hb).1⟩⟩
 done:=by
  intro X hP hw hK hc i pins s σ H E I hf st hg;subst hP hw hK;obtain⟨xs,hq,hx⟩:=hg;obtain⟨its,rv,p,hz⟩:=I.tuple hq;obtain⟨f0,f1,f2,f3,f4,f5⟩:=hf it (by simp);have hl:=rv.length;exact wpAny_pyNext_tuple_end (I.ok.hd hc) st (show s.heap.IsTuple a its.toArray from p) (by simp;lia) fun h' eb=>⟨rfl,I.kz (t':=s.toks) (fun b o hb e=>eb b o hb e) f0 f1 f3 f4 f5⟩
 gc:=fun _ _ _ _ _ st h=>wpAny_pyIter_tupleiter st h
end L2
namespace L2
open PySem PySem.Spec PyProof.Rows
section
variable{X:Cx}{tg:bq}
def nq(K:ax)(tl:TE):TI:=fun σ H R=>tl σ H fun x H1=>∃a,x=.ref a/\(∃xs,bV K H1 a xs)/\R (nk K a) H1
def Qh(K:ax)(tl:TE):TI:=fun σ H R=>tl σ H fun x H1=>∃a,x=.ref a/\(∃xs,dH K H1 a xs)/\R (sK K a) H1
theorem l7{l:bq}{tl:TE}(hl:PE X l tl):PI X tg l (nq X.K tl):=by
 intro pins s σ H R I h;refine a0 (hl pins s σ H _ I h) fun v s1 qq=>?_;walk_at "ao";obtain⟨a,e,⟨xs,hq⟩,q⟩:=q1;subst e;cases r1;obtain⟨its,rv,p,hz⟩:=I1.list hq;refine wpAny_pyIter_list p.isList ?_;refine⟨s1.heap.objs.size,[s1.heap.objs.size],_,_,H1,rfl,I1.kept (t':=s1.toks) fun b o e=>eP _ e,Qe a _,⟨_,iS _ rfl,rfl,rfl⟩,fun b hb=>?_,q⟩;have e:b=s1.heap.objs.size:=by simpa using hb
 subst e;exact I1.vq (bY _) (I1.aT.fresh (bY _))
theorem Qi{l:bq}{tl:TE}(hl:PE X l tl):PI X tg l (Qh X.K tl):=by
 intro pins s σ H R I h;refine a0 (hl pins s σ H _ I h) fun v s1 qq=>?_;walk_at "ao";obtain⟨a,e,⟨xs,hq⟩,q⟩:=q1;subst e;cases r1;obtain⟨its,rv,p,hz⟩:=I1.tuple hq;refine wpAny_pyIter_tuple (show s1.heap.IsTuple a its.toArray from p) ?_;refine⟨s1.heap.objs.size,[s1.heap.objs.size],_,_,H1,rfl,I1.kept (t':=s1.toks) fun b o e=>eP _ e,Qg a _,⟨_,iS _ rfl,rfl,rfl⟩,fun b hb=>?_,q⟩;have e:b=s1.heap.objs.size:=by simpa using hb
 subst e;exact I1.vq (bY _) (I1.aT.fresh (bY _))
def Qj(wi:TI)(g:TG)(tb:TS):TS:=fun D σ H=>wi σ H fun J H1=>∃W:Nat->Nat->St->Hp->Prop,(∃m,W 0 m σ H1)/\∀i m σ H,W i m σ H->
 (J.jP i H/\D.nx σ H)\/(J.go i H/\∃N:St->Hp->Prop,(∀σ' H',N σ' H'->∃m',m'<m/\W (i+1) m' σ' H')/\∀x H',J.nj i H x H'->g x σ H' fun σ2 H2=>tb {D with nx:=N,ct:=N,bk:=D.nx} σ2 H2)
def sL(fp:List ae)(h:Heap):List (ae×a9):=fp.filterMap fun b=>(h.get? b).map fun o=>(b,o)
theorem zM{fp:List ae}{h:Heap}{b:ae}{o:a9}(hb:b∈fp)(e:h.get? b=some o):(b,o)∈sL fp h:=List.mem_filterMap.mpr ⟨b,hb,by rw[e];rfl⟩
theorem Qk{fp:List ae}{h:Heap}{p:ae×a9}(hp:p∈sL fp h):p.1∈fp/\h.get? p.1=some p.2:=by
 obtain⟨b,hb,e⟩:=List.mem_filterMap.mp hp;cases q:h.get? b with
 |none=>rw[q]at e;cases e
 |some o=>
  rw[q]at e;have e':(b,o)=p:=fz e;subst e';exact⟨hb,q⟩
theorem Inv.DZ{pins:List (ae×a9)}{σ:St}{H:Hp}{s:ay}{fp:List ae}(I:Inv X pins σ H s)(hf:∀b∈fp,lm X pins H b)(ho:∀b∈fp,∃o,s.heap.get? b=some o/\∀v,o.data≠.cell v):Inv X (pins++sL fp s.heap) σ H s:=
 I.DR fun p hp=>(cS.mp hp).elim (fun z=>I.gD p (bX _ z)) fun z=>by
  obtain⟨hb,e⟩:=Qk z;obtain⟨f0,f1,f2,_⟩:=hf p.1 hb;obtain⟨o,e',d⟩:=ho p.1 hb;rw[e]at e';cases e';exact⟨e,f0,f1,f2,d⟩
theorem Inv.vx{pins pl:List (ae×a9)}{σ:St}{H:Hp}{s:ay}(I:Inv X (pins++pl) σ H s):Inv X pins σ H s:=I.DR fun p hp=>I.gD p (bX _ (c7 _ hp))
theorem sM{iter:bq}{body:List aH}{wi:TI}{g:TG}{tb:TS}{pos:cx}(hp:PassesOwn (aU X.prog X.w) X.A X.ah X.xe)(hc:X.i8=true)(hi:PI X tg iter wi)(hg:PG X tg g)(hb:gQ X body tb)
(hs:∀x,foldedSetIterable iter X.ah x=pure x:=by intro _;rfl):PS X (.For tg iter body [] pos) (Qj wi g tb):=by
 walk_at "aq";refine wpAny_For (a0 (hi pins s σ H _ I h) fun v s1 h1=>a0 h1 fun itv s2 h2=>?_) hs;obtain⟨it,fp,tn,J,H2,e,I2,T,st2,f2,W,⟨m0,w0⟩,turn⟩:=h2;subst e;have stat:∀{H':Hp},(∀b∈fp,H' b=none)->∀b∈fp,lm X pins H' b:=fun hn b hb=>⟨hn b hb,(f2 b hb).2⟩;refine codeAny_forLoop_any (fun n s'=>∃i σ' H',Inv X pins σ' H' s'/\tn i s'.heap/\(∀b∈fp,H' b=none)/\W i n σ' H') ?_ m0 ⟨0,σ,H2,I2,st2,fun b hb=>(f2 b hb).1,w0⟩;rintro n s3 ⟨i,σ3,H3,I3,st3,fr3,w3⟩;rcases turn i n σ3 H3 w3 with⟨jP,qn⟩|⟨go,N,hN,step⟩
 ·refine rK hp (a0 (T.done X rfl rfl rfl hc i pins s3 σ3 H3 X.xe I3 (stat fr3) st3 jP) fun r s4 qq=>?_);obtain⟨hr,I4⟩:=qq;subst hr;exact um ⟨σ3,H3,I4,qn⟩
 ·refine rK hp (a0 (T.item X rfl rfl rfl hc i pins s3 σ3 H3 X.xe I3 (stat fr3) st3 go) fun r s4 qq=>?_);obtain⟨u,hr,h4⟩:=qq;subst hr;refine rK hp (a0 h4 fun _ s5 qq=>?_);obtain⟨x,H5,I5,r5,y5,st5,fr5⟩:=qq;have I5':=I5.DZ (stat fr5) (T.obj _ _ st5);refine rK hp (a0 (hg _ s5 σ3 H5 x u _ I5' r5 (step x H5 y5)) fun _ s6 qq=>?_);obtain⟨σ6,H6,I6,q6⟩:=qq;refine rK hp (a0 (hb _ s6 σ6 H6 _ I6 q6) fun f s7 q7=>?_);have again:∀{σ7:St}{H7:Hp},Inv X (pins++sL fp s5.heap) σ7 H7 s7->N σ7 H7->∃m,m<n/\∃i σ' H',Inv X pins σ' H' s7/\tn i s7.heap/\(∀b∈fp,H' b=none)/\W i m σ' H':=fun{σ7 H7} I7 n7=>by
   obtain⟨m',hm,w7⟩:=hN σ7 H7 n7;refine⟨m',hm,i+1,σ7,H7,I7.vx,T.keep _ _ _ st5 fun b hb o e=>(I7.gD (b,o) (bX _ (bX _ (zM hb e)))).1,fun b hb=>?_,w7⟩;obtain⟨o,e,d⟩:=T.obj _ _ st5 b hb;exact(I7.gD (b,o) (bX _ (bX _ (zM hb e)))).2.1
  cases f with
  |next=>obtain⟨σ7,H7,I7,n7⟩:=q7;exact again I7 n7
  |cont=>obtain⟨σ7,H7,I7,n7⟩:=q7;exact again I7 n7
  |brk=>obtain⟨σ7,H7,I7,q7⟩:=q7;exact⟨σ7,H7,I7.vx,q7⟩
  |ret v=>obtain⟨x7,σ7,H7,I7,r7,q7⟩:=q7;exact⟨x7,σ7,H7,I7.vx,r7,q7⟩
end
theorem D0{K:ax}{a:ae}{xs:List V}{g:TG}{tb:TS}{D:i9}{σ:St}{H:Hp}(Pv:Nat->St->Hp->Prop)(h0:Pv 0 σ H)(hl:∀i σ H,i<=xs.length->Pv i σ H->bV K H a xs)
(hs:∀i x σ H,xs[i]? =some x->Pv i σ H->g x σ H fun σ2 H2=>tb {D with nx:=Pv (i+1),ct:=Pv (i+1),bk:=D.nx} σ2 H2)(hd:∀σ H,Pv xs.length σ H->D.nx σ H):
  ∃W:Nat->Nat->St->Hp->Prop,(∃m,W 0 m σ H)/\∀i m σ H,W i m σ H->
   ((nk K a).jP i H/\D.nx σ H)\/((nk K a).go i H/\∃N:St->Hp->Prop,(∀σ' H',N σ' H'->∃m',m'<m/\W (i+1) m' σ' H')/\∀x H',(nk K a).nj i H x H'->g x σ H' fun σ2 H2=>tb {D with nx:=N,ct:=N,bk:=D.nx} σ2 H2):=by
 refine⟨fun i m σ H=>m=xs.length-i/\i<=xs.length/\Pv i σ H,⟨xs.length,by simp,cI _,h0⟩,?_⟩;rintro i m σ H ⟨rfl,hi,p⟩;have q:=hl i σ H hi p;by_cases hlt:i<xs.length
 ·refine .inr ⟨⟨xs,xs[i],q,by simp[hlt]⟩,Pv (i+1),fun σ' H' p'=>⟨xs.length-(i+1),by lia,rfl,hlt,p'⟩,fun x H' y=>?_⟩;obtain⟨e,y⟩:=y;subst e;exact hs i x σ _ (y xs q) p
 ·have e:i=xs.length:=by lia
  subst e;exact .inl ⟨⟨xs,q,bY _⟩,hd σ H p⟩
theorem Ql{K:ax}{a:ae}{xs:List V}{g:TG}{tb:TS}{D:i9}{σ:St}{H:Hp}(Pv:Nat->St->Hp->Prop)(h0:Pv 0 σ H)(hl:∀i σ H,i<=xs.length->Pv i σ H->dH K H a xs)
(hs:∀i x σ H,xs[i]? =some x->Pv i σ H->g x σ H fun σ2 H2=>tb {D with nx:=Pv (i+1),ct:=Pv (i+1),bk:=D.nx} σ2 H2)(hd:∀σ H,Pv xs.length σ H->D.nx σ H):
  ∃W:Nat->Nat->St->Hp->Prop,(∃m,W 0 m σ H)/\∀i m σ H,W i m σ H->
   ((sK K a).jP i H/\D.nx σ H)\/((sK K a).go i H/\∃N:St->Hp->Prop,(∀σ' H',N σ' H'->∃m',m'<m/\W (i+1) m' σ' H')/\∀x H',(sK K a).nj i H x H'->g x σ H' fun σ2 H2=>tb {D with nx:=N,ct:=N,bk:=D.nx} σ2 H2):=by
 refine⟨fun i m σ H=>m=xs.length-i/\i<=xs.length/\Pv i σ H,⟨xs.length,by simp,cI _,h0⟩,?_⟩;rintro i m σ H ⟨rfl,hi,p⟩;have q:=hl i σ H hi p;by_cases hlt:i<xs.length
 ·refine .inr ⟨⟨xs,xs[i],q,by simp[hlt]⟩,Pv (i+1),fun σ' H' p'=>⟨xs.length-(i+1),by lia,rfl,hlt,p'⟩,fun x H' y=>?_⟩;obtain⟨e,y⟩:=y;subst e;exact hs i x σ _ (y xs q) p
 ·have e:i=xs.length:=by lia
  subst e;exact .inl ⟨⟨xs,q,bY _⟩,hd σ H p⟩
end L2
namespace L2
open PySem PySem.Spec PyProof.Rows
abbrev R2:=V->V->Hp->VK->Prop
def cQ(X:Cx)(f:ag->ag->Sem ag)(r:R2):Prop:=
 ∀(pins:List (ae×a9))(s:ay)(σ:St)(H:Hp)(x y:V)(v u:ag)(Q:VK),Inv X pins σ H s->RelV x v->RelV y u->r x y H Q->
  aW (aU X.prog X.w) X.A (f v u) (EP X pins σ Q) X.xe s
def vy(X:Cx)(f:ag->Sem ag)(r:V->Hp->VK->Prop):Prop:=
 ∀(pins:List (ae×a9))(s:ay)(σ:St)(H:Hp)(x:V)(v:ag)(Q:VK),Inv X pins σ H s->RelV x v->r x H Q->
  aW (aU X.prog X.w) X.A (f v) (EP X pins σ Q) X.xe s
def fE(X:Cx)(f:ag)(r:List V->Hp->VK->Prop):Prop:=
 ∀(pins:List (ae×a9))(s:ay)(σ:St)(H:Hp)(xs:List V)(us:List ag)(Q:VK),Inv X pins σ H s->bt xs us->r xs H Q->
  aW (aU X.prog X.w) X.A (call f us) (EP X pins σ Q) X.xe s
def Qm(X:Cx)(r:V->Hp->(Bool->Hp->Prop)->Prop):Prop:=
 ∀(pins:List (ae×a9))(s:ay)(σ:St)(H:Hp)(x:V)(v:ag)(Q:Bool->Hp->Prop),Inv X pins σ H s->RelV x v->r x H Q->
  aW (aU X.prog X.w) X.A (truthy v) (TP X pins σ Q) X.xe s
def m7(r:R2)(ta tb:TE):TE:=fun σ H Q=>ta σ H fun x H1=>tb σ H1 fun y H2=>r x y H2 Q
def uX(r:V->Hp->VK->Prop)(ta:TE):TE:=fun σ H Q=>ta σ H fun x H1=>r x H1 Q
def rI(C:Int->Int->Prop)(g:Int->Int->V):R2:=fun x y H Q=>∃i j,x=.int i/\y=.int j/\C i j/\Q (g i j) H
def iK(g:Int->Int->V):R2:=fun x y H Q=>∃i j,x=.int i/\y=.int j/\Q (g i j) H
def rU(g:Int->V):V->Hp->VK->Prop:=fun x H Q=>∃i,x=.int i/\Q (g i) H
section
variable{X:Cx}{a b c:bq}{ta tb tc:TE}{pos:cx}
theorem zN(ha:PE X a ta)(hb:PE X b tb){pins:List (ae×a9)}{s:ay}{σ:St}{H:Hp}{R:V->V->Hp->Prop}(I:Inv X pins σ H s)
(h:ta σ H fun x H1=>tb σ H1 fun y H2=>R x y H2){Q:ag->ay->Prop}{f:ag->ag->Sem ag}
(hf:∀v u s2 x y H2,Inv X pins σ H2 s2->RelV x v->RelV y u->R x y H2->aW (aU X.prog X.w) X.A (f v u) Q X.xe s2):
  aW (aU X.prog X.w) X.A (eval a X.ah) (fun v s₁=>aW (aU X.prog X.w) X.A (eval b X.ah) (fun u s₂=>aW (aU X.prog X.w) X.A (f v u) Q X.xe s₂) X.xe s₁) X.xe s:=by
 refine a0 (ha pins s σ H _ I h) fun v s1 qq=>?_;walk_at "ao";refine a0 (hb pins s1 σ H1 _ I1 q1) fun u s2 qq=>?_;obtain⟨y,H2,I2,r2,q2⟩:=qq;exact hf v u s2 x y H2 I2 r1 r2 q2
theorem cT{op:uo}{r:R2}(ho:cQ X (gy op) r)(ha:PE X a ta)(hb:PE X b tb):PE X (.BinOp a op b pos) (m7 r ta tb):=by
 walk_at "ae";exact wpAny_BinOp (zN ha hb I h fun v u s2 x y H2 I2 rx ry q=>ho pins s2 σ H2 x y v u Q I2 rx ry q)
theorem fq{op:UnaryOp}{r:V->Hp->VK->Prop}(ho:vy X (unaryOp op) r)(ha:PE X a ta):PE X (.UnaryOp op a pos) (uX r ta):=by
 walk_at "ae";exact UnaryOp_ (a0 (ha pins s σ H _ I h) fun v s1 ⟨x,H1,I1,r1,q1⟩=>ho pins s1 σ H1 x v Q I1 r1 q1)
theorem zO{f:ag->ag->Sem ag}{C:Int->Int->Prop}{g:Int->Int->Int}
(rule:∀(i j:Int) (t u:Tok) (s:ay) (Q:ag->ay->Prop) (E:ag->ay->Prop),C i j->Q (.int (g i j) s.toks) {s with toks:=s.toks+1}->aW (aU X.prog X.w) X.A (f (.int i t) (.int j u)) Q E s):
  cQ X f (rI C fun i j=>.int (g i j)):=by
 walk_at "al";obtain⟨i,j,rfl,rfl,hc,q⟩:=h;walk_at "ar";obtain⟨t',rfl⟩:=ry;exact rule i j t t' s _ _ hc ⟨.int (g i j),H,I.cV _,⟨_,rfl⟩,q⟩
theorem sN{f:ag->ag->Sem ag}{g:Int->Int->Int}
(rule:∀(i j:Int) (t u:Tok) (s:ay) (Q:ag->ay->Prop) (E:ag->ay->Prop),Q (.int (g i j) s.toks) {s with toks:=s.toks+1}->aW (aU X.prog X.w) X.A (f (.int i t) (.int j u)) Q E s):
  cQ X f (iK fun i j=>.int (g i j)):=by
 walk_at "al";obtain⟨i,j,rfl,rfl,q⟩:=h;walk_at "ar";obtain⟨t',rfl⟩:=ry;exact rule i j t t' s _ _ ⟨.int (g i j),H,I.cV _,⟨_,rfl⟩,q⟩
theorem vz{f:ag->ag->Sem ag}{g:Int->Int->Bool}
(rule:∀(i j:Int) (t u:Tok) (s:ay) (Q:ag->ay->Prop) (E:ag->ay->Prop),Q (.bool (g i j)) s->aW (aU X.prog X.w) X.A (f (.int i t) (.int j u)) Q E s):
  cQ X f (iK fun i j=>.bl (g i j)):=by
 walk_at "al";obtain⟨i,j,rfl,rfl,q⟩:=h;walk_at "ar";obtain⟨t',rfl⟩:=ry;exact rule i j t t' s _ _ ⟨.bl (g i j),H,I,rfl,q⟩
def zP(i j:Int):Prop:=(-(2^64)<i/\i<2^64)\/(-(2^64)<j/\j<2^64)
theorem zP.ok{i j:Int}(h:zP i j):IntMulOk i j:=by
 rcases h with⟨h1,h2⟩|⟨h1,h2⟩
 ·exact .of_left (intBits_le_64 h1 h2)
 ·exact .of_right (intBits_le_64 h1 h2)
theorem zQ:cQ X (gy .Add) (iK fun i j=>.int (i+j)):=sN fun _ _ _ _ _ _ _ q=>add_int q
theorem sO:cQ X (gy .Sub) (iK fun i j=>.int (i-j)):=sN fun _ _ _ _ _ _ _ q=>sub_int q
theorem Qn:cQ X (gy .Mult) (rI zP fun i j=>.int (i*j)):=zO fun _ _ _ _ _ _ _ hc q=>mul_int q hc.ok
theorem zR:cQ X (gy .Mod) (rI (fun _ j=>0<j) fun i j=>.int (i % j)):=zO fun i j _ _ _ _ _ hc q=>by
 have h1:(0:Int)<j:=hc;exact mod_int' (by omega) (by rw[Int.fmod_eq_emod_of_nonneg i (by omega)];exact q)
theorem Qo:cQ X (gy .BitAnd) (iK fun i j=>.int (Og i j)):=sN fun _ _ _ _ _ _ _ q=>and_int q
theorem Qp:cQ X (gy .BitOr) (iK fun i j=>.int (Oh i j)):=sN fun _ _ _ _ _ _ _ q=>or_int q
theorem Qq:cQ X (gy .BitXor) (iK fun i j=>.int (Oi i j)):=sN fun _ _ _ _ _ _ _ q=>xor_int q
theorem Qr{f:ag->Sem ag}{g:Int->Int}
(rule:∀(i:Int) (t:Tok) (s:ay) (Q:ag->ay->Prop) (E:ag->ay->Prop),Q (.int (g i) s.toks) {s with toks:=s.toks+1}->aW (aU X.prog X.w) X.A (f (.int i t)) Q E s):
  vy X f (rU fun i=>.int (g i)):=by
 intro pins s σ H x v Q I rx h;obtain⟨i,rfl,q⟩:=h;walk_at "ar";exact rule i t s _ _ ⟨.int (g i),H,I.cV _,⟨_,rfl⟩,q⟩
theorem iw:vy X (unaryOp .USub) (rU fun i=>.int (-i)):=Qr fun _ _ _ _ _ q=>neg_int q
end
def qx:V->V->Bool
 | .aO,.aO=>true| .aO,.int _=>true| .int _,.aO=>true| .aO,.bl _=>true| .bl _,.aO=>true| .aO,.str _=>true| .str _,.aO=>true
 | .int _,.int _=>true| .bl _,.bl _=>true| .str _,.str _=>true| .gB _,.gB _=>true
 | .int _,.str _=>true| .str _,.int _=>true| .bl _,.str _=>true| .str _,.bl _=>true
 |_,_=>false
def yW:R2:=fun x y H Q=>qx x y=true/\Q (.bl (decide (x=y))) H
def yX:R2:=fun x y H Q=>qx x y=true/\Q (.bl (!decide (x=y))) H
theorem sP{i j:Int}:decide (V.int i=V.int j)=(i==j):=by
 rw[uq];simp
theorem zS{i j:Bool}:decide (V.bl i=V.bl j)=(i==j):=by
 rw[uq];simp
theorem vA{i j:af}:decide (V.str i=V.str j)=(i==j):=by
 rw[uq];simp
theorem D1{i j:Array UInt8}:decide (V.gB i=V.gB j)=(i.toList==j.toList):=by
 rw[uq];cases i;cases j;simp
section
variable{X:Cx}{a b c:bq}{ta tb tc:TE}{pos:cx}
theorem dS{pins:List (ae×a9)}{σ:St}{H:Hp}{s:ay}{Q:VK}{k k':Bool}(I:Inv X pins σ H s)(q:Q (.bl k) H)(e:k=k'):EP X pins σ Q (.bool k') s:=by
 subst e;exact⟨.bl k,H,I,rfl,q⟩
theorem dz:cQ X (fA .Eq) yW:=by
 walk_at "al";obtain⟨hs,q⟩:=h;cases x with
 |aO=>
  cases rx;cases y with
  |aO=>cases ry;exact PySem.EqNone.eq_none_none (dS I q (by simp))
  |bl j=>cases ry;exact PySem.EqNone.eq_none_bool (dS I q (by simp))
  |int j=>obtain⟨t',rfl⟩:=ry;exact PySem.EqNone.eq_none_int (dS I q (by simp))
  |str j=>obtain⟨t',rfl⟩:=ry;exact PySem.EqNone.eq_none_str (dS I q (by simp))
  |_=>exact absurd (show false=true from hs) fQ
 |bl i=>
  cases rx;cases y with
  |aO=>cases ry;exact PySem.EqNone.eq_bool_none (dS I q (by simp))
  |bl j=>cases ry;exact eq_bool (dS I q zS)
  |str j=>obtain⟨t',rfl⟩:=ry;exact PySem.EqMixed.eq_bool_str (dS I q (by simp))
  |_=>exact absurd (show false=true from hs) fQ
 |int i=>
  walk_at "ar";cases y with
  |aO=>cases ry;exact PySem.EqNone.eq_int_none (dS I q (by simp))
  |int j=>obtain⟨t',rfl⟩:=ry;exact eq_int (dS I q sP)
  |str j=>obtain⟨t',rfl⟩:=ry;exact PySem.EqMixed.eq_int_str (dS I q (by simp))
  |_=>exact absurd (show false=true from hs) fQ
 |str i=>
  walk_at "ar";cases y with
  |aO=>cases ry;exact PySem.EqNone.eq_str_none (dS I q (by simp))
  |bl j=>cases ry;exact PySem.EqMixed.eq_str_bool (dS I q (by simp))
  |int j=>obtain⟨t',rfl⟩:=ry;exact PySem.EqMixed.eq_str_int (dS I q (by simp))
  |str j=>obtain⟨t',rfl⟩:=ry;exact eq_str (dS I q vA)
  |_=>exact absurd (show false=true from hs) fQ
 |gB i=>
  walk_at "ar";cases y with
  |gB j=>obtain⟨t',rfl⟩:=ry;exact PySem.W.eq_bytes (dS I q D1)
  |_=>exact absurd (show false=true from hs) fQ
 |_=>cases y<;>exact absurd (show false=true from hs) fQ
theorem pc:cQ X (fA .NotEq) yX:=by
 walk_at "al";obtain⟨hs,q⟩:=h;cases x with
 |aO=>
  cases rx;cases y with
  |aO=>cases ry;exact PySem.EqNone.ne_none_none (dS I q (by simp))
  |bl j=>cases ry;exact PySem.EqNone.ne_none_bool (dS I q (by simp))
  |int j=>obtain⟨t',rfl⟩:=ry;exact PySem.EqNone.ne_none_int (dS I q (by simp))
  |str j=>obtain⟨t',rfl⟩:=ry;exact PySem.EqNone.ne_none_str (dS I q (by simp))
  |_=>exact absurd (show false=true from hs) fQ
 |bl i=>
  cases rx;cases y with
  |aO=>cases ry;exact PySem.EqNone.ne_bool_none (dS I q (by simp))
  |bl j=>cases ry;exact ne_bool (dS I q (congrArg not zS))
  |str j=>obtain⟨t',rfl⟩:=ry;exact PySem.EqMixed.ne_bool_str (dS I q (by simp))
  |_=>exact absurd (show false=true from hs) fQ
 |int i=>
  walk_at "ar";cases y with
  |aO=>cases ry;exact PySem.EqNone.ne_int_none (dS I q (by simp))
  |int j=>obtain⟨t',rfl⟩:=ry;exact ne_int (dS I q (congrArg not sP))
  |str j=>obtain⟨t',rfl⟩:=ry;exact PySem.EqMixed.ne_int_str (dS I q (by simp))
  |_=>exact absurd (show false=true from hs) fQ
 |str i=>
  walk_at "ar";cases y with
  |aO=>cases ry;exact PySem.EqNone.ne_str_none (dS I q (by simp))
  |bl j=>cases ry;exact PySem.EqMixed.ne_str_bool (dS I q (by simp))
  |int j=>obtain⟨t',rfl⟩:=ry;exact PySem.EqMixed.ne_str_int (dS I q (by simp))
  |str j=>obtain⟨t',rfl⟩:=ry;exact ne_str (dS I q (congrArg not vA))
  |_=>exact absurd (show false=true from hs) fQ
 |gB i=>
  walk_at "ar";cases y with
  |gB j=>obtain⟨t',rfl⟩:=ry;exact PySem.W.ne_bytes (dS I q (congrArg not D1))
  |_=>exact absurd (show false=true from hs) fQ
 |_=>cases y<;>exact absurd (show false=true from hs) fQ
theorem zT:cQ X (fA .Lt) (iK fun i j=>.bl (decide (i<j))):=vz fun _ _ _ _ _ _ _ q=>lt_int q
theorem Qs:cQ X (fA .LtE) (iK fun i j=>.bl (decide (i<=j))):=vz fun _ _ _ _ _ _ _ q=>le_int q
theorem vB:cQ X (fA .Gt) (iK fun i j=>.bl (decide (j<i))):=vz fun _ _ _ _ _ _ _ q=>gt_int q
theorem Qt:cQ X (fA .GtE) (iK fun i j=>.bl (decide (j<=i))):=vz fun _ _ _ _ _ _ _ q=>ge_int q
theorem D3:cQ X (fA .Is) (fun x y H Q=>y=.aO/\Q (.bl (decide (x=.aO))) H):=by
 walk_at "al";obtain⟨rfl,q⟩:=h;cases ry;refine is_none_gen (dS I q ?_);cases x<;>first
  |(cases rx;rfl)
  |(obtain⟨t,rfl⟩:=rx;rfl)
theorem Qu:cQ X (fA .IsNot) (fun x y H Q=>y=.aO/\Q (.bl (!decide (x=.aO))) H):=by
 walk_at "al";obtain⟨rfl,q⟩:=h;cases ry;refine isnot_none_gen (dS I q ?_);cases x<;>first
  |(cases rx;rfl)
  |(obtain⟨t,rfl⟩:=rx;rfl)
theorem cQ.or{f:ag->ag->Sem ag}{r r':R2}(h:cQ X f r)(h':cQ X f r'):cQ X f (fun x y H Q=>r x y H Q\/r' x y H Q):=by
 intro pins s σ H x y v u Q I rx ry q;rcases q with q|q
 ·exact h pins s σ H x y v u Q I rx ry q
 ·exact h' pins s σ H x y v u Q I rx ry q
theorem gz(b:bq){op:CmpOp}(h:op≠.In:=by decide)(h2:op≠.NotIn:=by decide):behindInMarks op b=false:=by
 have e1:(op==CmpOp.In)=false:=by cases op<;>first|rfl|exact absurd rfl h
 have e2:(op==CmpOp.NotIn)=false:=by cases op<;>first|rfl|exact absurd rfl h2
 cases b<;>simp[behindInMarks,e1,e2]
theorem iy{op:CmpOp}{r:R2}(ho:cQ X (fA op) r)(ha:PE X a ta)(hb:PE X b tb)(hm:behindInMarks op b=false):PE X (.Compare a [op] [b] pos) (m7 r ta tb):=by
 walk_at "ae";exact wpAny_Compare1 (zN ha hb I h fun v u s2 x y H2 I2 rx ry q=>ho pins s2 σ H2 x y v u Q I2 rx ry q) hm
def sx(t:TE):TT:=fun σ H Q=>t σ H fun x H'=>∃k,x=.bl k/\Q k H'
theorem Pc{op:CmpOp}{r:R2}(ho:cQ X (fA op) r)(ha:PE X a ta)(hb:PE X b tb)(hm:behindInMarks op b=false):PT X (.Compare a [op] [b] pos) (sx (m7 r ta tb)):=by
 walk_at "ae";refine wpAny_isTrue_Compare1 (a0 (ha pins s σ H _ I h) fun v s1 ⟨x,H1,I1,r1,q1⟩=>a0 (hb pins s1 σ H1 _ I1 q1) fun u s2 ⟨y,H2,I2,r2,q2⟩=>
  a0 (ho pins s2 σ H2 x y v u _ I2 r1 r2 q2) fun c s3 ⟨z,H3,I3,r3,k,e,q3⟩=>?_) hm
 subst e;cases r3;exact mX ⟨H3,I3,q3⟩
def u5(r r':R2)(ta tb tc:TE):TE:=fun σ H Q=>ta σ H fun x H1=>tb σ H1 fun y H2=>r x y H2 fun z H3=>∃k,z=.bl k/\
 (if k=true then tc σ H3 fun w' H4=>r' y w' H4 Q else Q (.bl false) H3)
theorem D4{op op':CmpOp}{r r':R2}(ho:cQ X (fA op) r)(ho':cQ X (fA op') r')(ha:PE X a ta)(hb:PE X b tb)(hc:PE X c tc)
(hm:lastMarks [op,op'] [b,c]=false:=by with_unfolding_all rfl):PE X (.Compare a [op,op'] [b,c] pos) (u5 r r' ta tb tc):=by
 walk_at "ae";refine Compare_chain (a0 (ha pins s σ H _ I h) fun v s1 ⟨x,H1,I1,r1,q1⟩=>chain_link (a0 (hb pins s1 σ H1 _ I1 q1) fun u s2 ⟨y,H2,I2,r2,q2⟩=>
  a0 (ho pins s2 σ H2 x y v u _ I2 r1 r2 q2) fun d s3 ⟨z,H3,I3,r3,k,e,q3⟩=>?_)) hm
 subst e;cases r3;refine mX ?_;cases k with
 |false=>exact ite_ff ⟨.bl false,H3,I3,rfl,q3⟩
 |true=>exact ite_tt (chain_last (a0 (hc pins s3 σ H3 _ I3 q3) fun w' s4 ⟨z',H4,I4,r4,q4⟩=>ho' pins s4 σ H4 y z' u w' Q I4 r2 r4 q4))
theorem Qv{op op':CmpOp}{r r':R2}(ho:cQ X (fA op) r)(ho':cQ X (fA op') r')(ha:PE X a ta)(hb:PE X b tb)(hc:PE X c tc)
(hm:lastMarks [op,op'] [b,c]=false:=by with_unfolding_all rfl):PT X (.Compare a [op,op'] [b,c] pos) (sx (u5 r r' ta tb tc)):=by
 walk_at "ae";refine isTrue_chain (a0 (ha pins s σ H _ I h) fun v s1 ⟨x,H1,I1,r1,q1⟩=>test_link (a0 (hb pins s1 σ H1 _ I1 q1) fun u s2 ⟨y,H2,I2,r2,q2⟩=>
  a0 (ho pins s2 σ H2 x y v u _ I2 r1 r2 q2) fun d s3 ⟨z,H3,I3,r3,k,e,q3⟩=>?_)) hm
 subst e;cases r3;refine mX ?_;cases k with
 |false=>
  obtain⟨k',e',q'⟩:=q3;cases e';exact ite_ff ⟨H3,I3,q'⟩
 |true=>
  refine ite_tt (test_last (a0 (hc pins s3 σ H3 _ I3 q3) fun w' s4 ⟨z',H4,I4,r4,q4⟩=>a0 (ho' pins s4 σ H4 y z' u w' _ I4 r2 r4 q4) fun d' s5 qq=>?_));obtain⟨z2,H5,I5,r5,k2,e2,q5⟩:=qq;subst e2;cases r5;exact mX ⟨H5,I5,q5⟩
def qy(K:ax)(x:V)(H:Hp)(k:Bool):Prop:=
 match x with
 | .aO=>k=false
 | .bl b=>k=b
 | .int i=>k=(i != 0)
 | .str y=>y.length<=bE/\k=((y.length:Int) != 0)
 | .gB y=>y.size<=bE/\k=((y.size:Int) != 0)
 | .ref p=>(∃xs,bV K H p xs/\k= !xs.isEmpty)\/(∃xs,dH K H p xs/\k= !xs.isEmpty)\/∃kvs,H p=some (.dK kvs)/\k= !kvs.isEmpty
 |_=>False
theorem Qw{κ:Type}{kvs:List (κ×V)}{vs:List (κ×ag)}(r:KV kvs vs):(!vs.isEmpty)= !kvs.isEmpty:=by
 cases r<;>rfl
theorem D5{xs:List V}{its:List ag}(r:bt xs its):(!its.toArray.isEmpty)= !xs.isEmpty:=by
 cases r<;>simp
theorem pd:(bE:Nat)<2^63:=by rw[bR];decide
theorem D6:Qm X (fun x H Q=>∃k,qy X.K x H k/\Q k H):=by
 intro pins s σ H x v Q I rx h;obtain⟨k,e,q⟩:=h;have hl:=pd;have hs:bE=16777216:=bR;cases x with
 |aO=>
  cases rx;have e':k=false:=e;subst e';exact truthy_none ⟨H,I,q⟩
 |bl b=>
  cases rx;have e':k=b:=e;subst e';exact mX ⟨H,I,q⟩
 |int i=>
  walk_at "ar";have e':k=(i != 0):=e;subst e';exact PySem.P.truthy_int ⟨H,I,q⟩
 |str y=>
  walk_at "ar";obtain⟨hy,e'⟩:y.length<=bE/\k=((y.length:Int) != 0):=e;subst e';exact PySem.P.truthy_str (by lia) ⟨H,I.cV _,q⟩
 |gB y=>
  walk_at "ar";obtain⟨hy,e'⟩:y.size<=bE/\k=((y.size:Int) != 0):=e;subst e';exact PySem.W.truthy_bytes (by lia) ⟨H,I.cV _,q⟩
 |ref p=>
  cases rx;have e':(∃xs,bV X.K H p xs/\k= !xs.isEmpty)\/(∃xs,dH X.K H p xs/\k= !xs.isEmpty)\/∃kvs,H p=some (.dK kvs)/\k= !kvs.isEmpty:=e;rcases e' with⟨xs,hx,e'⟩|⟨xs,hx,e'⟩|⟨kvs,hx,e'⟩
  ·subst e';obtain⟨its,r,pl,hz⟩:=I.list hx;have hlen:=r.length;exact wpAny_truthy_list pl.isList (by simp only[dO];lia) ⟨H,I.cV _,by rw[D5 r];exact q⟩
  ·subst e';obtain⟨its,r,pl,hz⟩:=I.tuple hx;have hlen:=r.length;exact truthy_tuple pl (by simp only[dO];lia) ⟨H,I.cV _,by rw[D5 r];exact q⟩
  ·subst e';obtain⟨hz,hS,vs,r,m⟩:kvs.length<=bE/\(p==sysModules)=false/\∃vs,KV kvs vs/\s.heap.DictOf (fL X.prog X.w) p vs:=I.aT p _ hx;have hlen:kvs.length=vs.length:=Paired.length r;exact wpAny_truthy_dict hS m (by lia) ⟨H,I.cV _,by rw[Qw r];exact q⟩
 |_=>exact(show False from e).elim
theorem iz(ha:PE X a ta)(he:∀whole,isTrue a X.ah whole=(do let v <-whole;standAt a.pos;holding [v] (truthy v))):
  PT X a (fun σ H Q=>ta σ H fun x H'=>∃k,qy X.K x H' k/\Q k H'):=by
 walk_at "ae";exact isTrue_plain (a0 (ha pins s σ H _ I h) fun v s1 ⟨x,H1,I1,r1,q1⟩=>D6 pins s1 σ H1 x v Q I1 r1 q1) (he _)
theorem D7:cQ X (gy .Add) (fun x y H Q=>∃i j,x=.str i/\y=.str j/\i.length+j.length<=bE/\Q (.str (i++j)) H):=by
 walk_at "al";obtain⟨i,j,rfl,rfl,hz,q⟩:=h;walk_at "ar";obtain⟨t',rfl⟩:=ry;exact add_str (fun t' tk=>⟨.str (i++j),H,I.cV _,⟨_,rfl⟩,q⟩) hz
theorem nr{x:V}{us:List ag}(r:bt [x] us):∃u,us=[u]/\RelV x u:=by
 cases r with
 |cons r1 r2=>cases r2;exact⟨_,rfl,r1⟩
theorem vC:fE X (.builtin "abs") (fun xs H Q=>∃i,xs=[.int i]/\Q (.int (if i<0 then -i else i)) H):=by
 intro pins s σ H xs us Q I r h;obtain⟨i,rfl,q⟩:=h;obtain⟨u,rfl,t,rfl⟩:=nr r;exact call_abs_int fun u tk=>⟨.int (if i<0 then -i else i),H,I.cV _,⟨_,rfl⟩,q⟩
theorem Qx:fE X (.type "str") (fun xs H Q=>∃i,xs=[.int i]/\i.natAbs.log2<1920/\Q (.str (toString i)) H):=by
 intro pins s σ H xs us Q I r h;obtain⟨i,rfl,hz,q⟩:=h;obtain⟨u,rfl,t,rfl⟩:=nr r;exact PySem.P.str_of_int hz ⟨.str _,H,I.cV _,⟨_,rfl⟩,q⟩
theorem Qy:fE X (.builtin "ord") (fun xs H Q=>∃x,xs=[.str x]/\x.length=1/\Q (.int (x.cps.getD 0 0:Nat)) H):=by
 intro pins s σ H xs us Q I r h;obtain⟨x,rfl,hz,q⟩:=h;obtain⟨u,rfl,t,rfl⟩:=nr r;exact ord_of_one hz ⟨.int _,H,I.cV _,⟨_,rfl⟩,q⟩
end
end L2
namespace L2
open PySem PySem.Spec PyProof.Rows
structure pf(h:Heap)(x dx C:ae)(mA:af->Option ag):Prop where
 obj:h.get? x=some (pV C dx)
 ns:h.Ns1 dx mA
 ne:dx≠x
theorem D8{h:Heap}{dx:ae}{mA:af->Option ag}(n:h.Ns1 dx mA):∃od,h.get? dx=some od/\∀name,xW name od=some (mA name):=by
 obtain⟨o,es,ep,ho,hd,hk,_,hm⟩:=n;refine⟨o,ho,fun name=>?_⟩;have e:=hm name;unfold nsFind findBy at e;rw[<-Array.find?_toList]at e;unfold xW;rw[hd];dsimp only;split
 ·rename_i y q;rw[q]at e;exact congrArg some e
 ·rename_i q;rw[q]at e;have a:es.toList.any (·.refKey)=false:=by
   rw[xX];intro y hy;obtain⟨z,t,hkey⟩:=hk y (Array.mem_toList_iff.mp hy);simp[yj.refKey,hkey]
  have a':¬es.toList.any (·.refKey)=true:=by rw[a];exact fQ
  rw[if_neg a'];exact congrArg some e
theorem pf.look{h:Heap}{x dx C:ae}{mA:af->Option ag}(I:pf h x dx C mA):∃od,Oj h x (pV C dx) C (some od)/\∀name,xW name od=some (mA name):=
 let⟨od,ho,hl⟩:=D8 I.ns
 ⟨od,⟨I.obj,rfl,rfl,ho⟩,hl⟩
section
variable{prog:bv}{w:bf}{A:cv}{E:ag->ay->Prop}{s:ay}{K:ax}{x dx C f:ae}{mA:af->Option ag}{name:af}{v:ag}
theorem Qz{expr:Bool}{Q:ag->ay->Prop}(X:K.In s.heap)(I:pf s.heap x dx C mA)(hg:rL K C name=true)(hh:pX K C=true)
(ha:dQ K (.ref C) name=some none)(hv:mA name=some v)(hv':Ol v=true)(h:Q v {s with toks:=s.toks+1}):
  aW (aU prog w) A (getAttr (.ref x) name expr) Q E s:=by
 obtain⟨od,J,hl⟩:=I.look;exact PySem.W.get_value X J (Om hg).1 (aa9 hh ha rfl (by rw[hl,hv])) hv' h
theorem QA{pl:Sem Bool}{Q:ag×List ag->ay->Prop}(X:K.In s.heap)(I:pf s.heap x dx C mA)(hg:rL K C name=true)
(hf:dQ K (.ref C) name=some (some (.ref f)))(ht:xY K (.ref f)=true)(hv:mA name=none)(h:Q (.ref f,[.ref x]) s):
  aW (aU prog w) A (getMethod (.ref x) name pl) Q E s:=by
 obtain⟨od,J,hl⟩:=I.look;exact PySem.W.method_fn X J (Om hg).1 (Om hg).2 hf (beq_iff_eq.mp ht) (by show(xW name od).map (·.isSome)=some false;rw[hl,hv];rfl) h
theorem QB{ns:List af}{Q:Unit->ay->Prop}(X:K.In s.heap)(I:pf s.heap x dx C mA)
(hs:dQ K (.ref C) "__setattr__"=some (some (.builtin "object.__setattr__")))(hp:xZ K C=true)(ht:x6 K C name=some none)(hh:pX K C=true)
(hw:N9 mA ns)(hsz:ns.length<=bE)
(h:∀h',pf h' x dx C (fun y=>if y=name then some v else mA y)->CG dx s.heap h'->Q () {s with heap:=h',toks:=s.toks+2}):
  aW (aU prog w) A (setAttr (.ref x) name v) Q E s:=by
 obtain⟨od,J,hl⟩:=I.look;refine aba X J hs (PySem.W.osa_open (s:={s with toks:=s.toks+1}) (r:=none) X J hp ht fun b=>?_);obtain⟨cd,hc,hd'⟩:=PySem.W.any_some hh;have hx:s.heap.get? x=some ⟨.ref C,some dx,.plain,#[]⟩:=I.obj;refine bT (dW (bT (bT (wpAny_loadPart hx (bT (pY (s:={s with toks:=s.toks+1}) (Oo X hc) ?_))))));rw[hd'];refine dW (a:=some dx) (bT (dW (bT ?_)));refine wpAny_nsSet1 (s:={s with toks:=s.toks+1}) I.ns fun h' hn2 hs2=>?_;obtain⟨oD,esD,epD,hoD,hdD,hcD⟩:=hn2.count (N9.cons name v hw);refine bT (wpAny_lookBehind hoD (by rw[hdD];exact pastItsLine_dict (dM hcD (by rw[aA];lia))) ?_);exact dW (h _ ⟨(hs2.2 _ (cM I.ne)).trans I.obj,hn2,I.ne⟩ hs2)
theorem QC{R:Result->ay->Prop}{vs:List ag}{kw:List (af×ag)}(X:K.In s.heap)(hm:Oq K C=true)
(hi:dQ K (.ref C) "__init__"=some (some (.ref f)))(hf:Ot K (.ref f)=some (.type "function"))
(h:codeAny (aU prog w) (A.under (.builtin "type.__call__" ⟨.ref C::vs,kw⟩)) (.call (.ref f) ⟨.ref (s.heap.objs.size+1)::vs,kw⟩) (abb (s.heap.objs.size+1) R)
   {s with heap:=(s.heap.push oF).push (pV C s.heap.objs.size)}):
  codeAny (aU prog w) A (.call (.ref C) ⟨vs,kw⟩) R s:=by
 obtain⟨hh,g,d,t,os⟩:=s;exact PySem.W.make_core (PySem.W.makes_of X hm) (x8 X hi) (fun gc=>PySem.W.bind_fn X gc hf) (.inl rfl) h
end
def aQ(f:af)(v:V):List (af×V)->List (af×V)
 |[]=>[(f,v)]
 |(g,x)::r=>if g=f then(g,v)::r else(g,x)::aQ f v r
theorem D9(f g:af)(v:V):∀fs:List (af×V),(aQ f v fs).lookup g=if g=f then some v else fs.lookup g
 |[]=>by
  show oG g [(f,v)]=_;by_cases h:g=f
  ·have hb:(g==f)=true:=beq_iff_eq.mpr h;simp only[oG,hb,if_pos h]
  ·have hb:(g==f)=false:=beq_eq_false_iff_ne.mpr h;simp only[oG,hb,if_neg h]
 |(k,x)::r=>by
  have ih:=D9 f g v r;rw[show aQ f v ((k,x)::r)=(if k=f then(k,v)::r else(k,x)::aQ f v r)from rfl];by_cases hk:k=f
  ·rw[if_pos hk];by_cases h:g=k
   ·have hb:(g==k)=true:=beq_iff_eq.mpr h;simp only[oG,hb,if_pos (h.trans hk)]
   ·have hb:(g==k)=false:=beq_eq_false_iff_ne.mpr h;simp only[oG,hb,if_neg (fun e:g=f=>h (e.trans hk.symm))]
  ·rw[if_neg hk];by_cases h:g=k
   ·have hb:(g==k)=true:=beq_iff_eq.mpr h;simp only[oG,hb,if_neg (fun e:g=f=>hk (h.symm.trans e))]
   ·have hb:(g==k)=false:=beq_eq_false_iff_ne.mpr h;simp only[oG,hb];exact ih
theorem zU(f:af)(v:V):∀fs:List (af×V),f∈(aQ f v fs).map (·.1)/\∀g,g∈fs.map (·.1)->g∈(aQ f v fs).map (·.1)
 |[]=>⟨by simp[aQ],fun g h=>by simp at h⟩
 |(k,x)::r=>by
  obtain⟨i1,i2⟩:=zU f v r;rw[show aQ f v ((k,x)::r)=(if k=f then(k,v)::r else(k,x)::aQ f v r)from rfl];by_cases hk:k=f
  ·rw[if_pos hk];subst hk;exact⟨by simp,fun g h=>by simpa using h⟩
  ·rw[if_neg hk];refine⟨?_,fun g h=>?_⟩
   ·rw[d6];exact bP _ i1
   ·rw[d6]at h ⊢;rcases br.mp h with e|e
    ·exact br.mpr (.inl e)
    ·exact bP _ (i2 g e)
theorem Ea(f:af)(v:V):∀fs:List (af×V),(aQ f v fs).length<=fs.length+1
 |[]=>by simp[aQ]
 |(k,x)::r=>by
  have ih:=Ea f v r;rw[show aQ f v ((k,x)::r)=(if k=f then(k,v)::r else(k,x)::aQ f v r)from rfl];by_cases hk:k=f
  ·rw[if_pos hk,aA,aA];lia
  ·rw[if_neg hk,aA,aA];lia
theorem f9.zV{v:V}{o:Option ag}(r:f9 (some v) o):∃u,o=some u/\RelV v u:=by
 cases o with
 |none=>exact(show False from r).elim
 |some u=>exact⟨u,rfl,r⟩
theorem f9.QD{o:Option ag}(r:f9 none o):o=none:=by
 cases o with
 |none=>rfl
 |some u=>exact(show False from r).elim
theorem QE{v:V}{u:ag}(r:RelV v u):Ol u=true:=by
 cases v with
 |aO=>cases(show u=gm from r);rfl
 |bl b=>cases(show u=rH b from r);rfl
 |int i=>obtain⟨t,e⟩:=(show ∃t,u=kh i t from r);cases e;rfl
 |str x=>obtain⟨t,e⟩:=(show ∃t,u=xR x t from r);cases e;rfl
 |gB b=>obtain⟨t,e⟩:=(show ∃t,u=ag.bytes b t from r);cases e;rfl
 |i6 b=>obtain⟨t,e⟩:=(show ∃t,u=N8 b t from r);cases e;rfl
 |ref a=>cases(show u=b7 a from r);rfl
 |ty n=>cases(show u=lI n from r);rfl
section
variable{P:bv}{w:bf}{H H':Hp}{h h':Heap}{a C dx:ae}{fs fs':List (af×V)}
theorem vD(aT:dv P w H h)(e:H a=some (.aP C dx fs)):∃mA,pf h a dx C mA/\(∀f,f9 (fs.lookup f) (mA f))/\N9 mA (fs.map (·.1))/\fs.length<=1000/\H dx=some (.own a):=by
 obtain⟨d,z,ne,ob,mA,n,r,q⟩:=(show dP P w H h a (.aP C dx fs)from aT a _ e);exact⟨mA,⟨ob,n,ne⟩,r,q,z,d⟩
end
structure d8(K:ax)(C:ae):Prop where
 pg:rL K C jq=true
 hd:pX K C=true
 po:xZ K C=true
 sa:dQ K (.ref C) "__setattr__"=some (some (.builtin "object.__setattr__"))
theorem d8.get{K:ax}{C:ae}(c:d8 K C)(f:af):rL K C f=true:=c.pg
def cU(K:ax)(C:ae)(f:af):Prop:=dQ K (.ref C) f=some none
theorem cU.QF{K:ax}{C:ae}{f:af}(n:cU K C f):x6 K C f=some none:=by
 unfold x6;rw[show dQ K (.ref C) f=some none from n];rfl
structure Con(K:ax)(C:ae)(f:af)(v:V)(u:ag):Prop where
 gr:dQ K (.ref C) f=some (some u)
 dr:RelV v u
 get:ur K u "__get__"=some none
 cp:PySem.W.copiedNames.contains f=false
structure sQ(K:ax)(C:ae)(m:af)(f:ae):Prop where
 gr:dQ K (.ref C) m=some (some (.ref f))
 fn:xY K (.ref f)=true
 kp:iG K (.ref f)=true
section
variable{X:Cx}{pins:List (ae×a9)}{σ:St}{H:Hp}{s:ay}{a C dx:ae}{fs:List (af×V)}{f:af}{v:V}{A:cv}{E:ag->ay->Prop}
theorem Eb{b:Bool}{Q:ag->ay->Prop}(I:Inv X pins σ H s)(e:H a=some (.aP C dx fs))(c:d8 X.K C)(n:cU X.K C f)(l:fs.lookup f=some v)
(h:∀u s',Inv X pins σ H s'->RelV v u->Q u s'):aW (aU X.prog X.w) A (getAttr (.ref a) f b) Q E s:=by
 obtain⟨mA,O,r,_,_,_⟩:=vD I.aT e;obtain⟨u,hu,ru⟩:=f9.zV (v:=v) (o:=mA f) (by rw[<-l];exact r f);exact Qz I.c8 O (c.get f) c.hd n hu (QE ru) (h u _ (I.cV _) ru)
theorem vE{m:af}{g:ae}{pl:Sem Bool}{Q:ag×List ag->ay->Prop}(I:Inv X pins σ H s)(e:H a=some (.aP C dx fs))(c:d8 X.K C)(k:sQ X.K C m g)(l:fs.lookup m=none)
(h:Q (.ref g,[.ref a]) s):aW (aU X.prog X.w) A (getMethod (.ref a) m pl) Q E s:=by
 obtain⟨mA,O,r,_,_,_⟩:=vD I.aT e;have hn:mA m=none:=f9.QD (by rw[<-l];exact r m);exact QA I.c8 O (c.get m) k.gr k.fn hn h
theorem zW{y:V}{u:ag}{Q:Unit->ay->Prop}(I:Inv X pins σ H s)(e:H a=some (.aP C dx fs))(c:d8 X.K C)(n:cU X.K C f)(hl:fs.length<1000)(ry:RelV y u)
(h:∀s',Inv X pins σ (aq H a (.aP C dx (aQ f y fs))) s'->Q () s'):aW (aU X.prog X.w) A (setAttr (.ref a) f u) Q E s:=by
 obtain⟨mA,O,r,wi,_,ho⟩:=vD I.aT e;have hz:(fs.map (·.1)).length<=sizeLine:=by rw[bK,bR];lia
 refine QB I.c8 O c.sa c.po n.QF c.hd wi hz fun h' O' sb=>h _ ?_;have hd:∃o,h'.get? dx=some o:=let⟨o,_,_,e',_⟩:=O'.ns;⟨o,e'⟩;refine I.lZ (x:=a) (e:=dx) (by rw[e];exact fg) (.inr ho) (fun b q hb z=>(sb.2 b hb).trans z) hd ?_;refine⟨by rw[aJ O.ne];exact ho,?_,O.ne,O'.obj,_,O'.ns,fun g=>?_,fun g hg=>?_⟩
 ·have:=Ea f y fs;lia
 ·show f9 ((aQ f y fs).lookup g) (if g=f then some u else mA g);rw[D9];by_cases q:g=f
  ·rw[if_pos q,if_pos q];exact ry
  ·rw[if_neg q,if_neg q];exact r g
 ·by_cases q:g=f
  ·rw[q];exact(zU f y fs).1
  ·refine(zU f y fs).2 g (wi g fun z=>hg ?_);show(if g=f then some u else mA g)=none;rw[if_neg q];exact z
theorem Inv.made(I:Inv X pins σ H s):Inv X pins σ (aq (aq H s.heap.objs.size (.own (s.heap.objs.size+1))) (s.heap.objs.size+1) (.aP C s.heap.objs.size []))
  {s with heap:=(s.heap.push oF).push (pV C s.heap.objs.size)}:=by
 have e1:(s.heap.push oF).get? s.heap.objs.size=some oF:=iS s.heap rfl;have e2:((s.heap.push oF).push (pV C s.heap.objs.size)).get? (s.heap.objs.size+1)=some (pV C s.heap.objs.size):=by
  have:=iS (s.heap.push oF) (o:=pV C s.heap.objs.size) rfl;rwa[kj]at this
 have e3:(s.heap.push oF).Ns s.heap.objs.size (fun _=>none):=⟨oF,#[],_,e1,rfl,(fun e he=>absurd he (by simp)),fun _=>rfl⟩;have I1:=I.gN (a:=s.heap.objs.size) (o:=.own (s.heap.objs.size+1)) (h':=s.heap.push oF) (t':=s.toks) (fun b u q=>eP _ q) (bY _) ⟨_,e1⟩;refine I1.gN (a:=s.heap.objs.size+1) (o:=.aP C s.heap.objs.size []) (t':=s.toks) (fun b u q=>eP _ q) (oH (kj _ _)) ?_;have ne:s.heap.objs.size≠s.heap.objs.size+1:=eX (uu _);refine⟨by rw[aJ ne,az],cI _,ne,e2,fun _=>none,(abc e3).at fun o q=>eP _ q,fun _=>fg,fun y hy=>absurd rfl hy⟩
theorem Ec{prog:bv}{w:bf}{ah:Env}{e:bq}{f:af}{pos:cx}{s:ay}{Q:ag->ay->Prop}(hb:km e f ah (eval e ah)=eval e ah)
(h:aW (aU prog w) A (eval e ah) (fun o s₁=>aW (aU prog w) A (getAttr o f true) Q E s₁) E s):aW (aU prog w) A (eval (.Attribute e f pos) ah) Q E s:=
 Attribute_any_ h (by rw[arm_eval_Attribute,hb])
end
def oU(K:ax)(ta:TE)(f:af):TE:=fun σ H Q=>ta σ H fun x H1=>∃a C dx fs v,x=.ref a/\H1 a=some (.aP C dx fs)/\d8 K C/\cU K C f/\fs.lookup f=some v/\Q v H1
def Dz(K:ax)(ta tv:TE)(f:af):TS:=fun D σ H=>tv σ H fun y H1=>ta σ H1 fun x H2=>∃a C dx fs,x=.ref a/\H2 a=some (.aP C dx fs)/\d8 K C/\cU K C f/\fs.length<1000/\
 D.nx σ (aq H2 a (.aP C dx (aQ f y fs)))
def zX(X:Cx)(op:uo)(rd:V->V->Hp->VK->Prop):Prop:=
 ∀(pins:List (ae×a9))(s:ay)(σ:St)(H:Hp)(x y:V)(u v:ag)(Q:VK),Inv X pins σ H s->RelV x u->RelV y v->rd x y H Q->aW (aU X.prog X.w) X.A (inplaceOp op u v) (EP X pins σ Q) X.xe s
def zr(K:ax)(ta tv:TE)(rd:V->V->Hp->VK->Prop)(f:af):TS:=fun D σ H=>ta σ H fun x H1=>∃a C dx fs v,x=.ref a/\H1 a=some (.aP C dx fs)/\d8 K C/\cU K C f/\fs.lookup f=some v/\
 tv σ H1 fun y H2=>rd v y H2 fun z H3=>∃dx' fs',H3 a=some (.aP C dx' fs')/\fs'.length<1000/\D.nx σ (aq H3 a (.aP C dx' (aQ f z fs')))
section
variable{X:Cx}{o e value:bq}{f:af}{pos pos' tpos:cx}{ta tv:TE}
theorem lp(he:PE X e ta)(hb:km e f X.ah (eval e X.ah)=eval e X.ah):PE X (.Attribute e f pos) (oU X.K ta f):=by
 walk_at "ae";refine Ec hb (a0 (he pins s σ H _ I h) fun u s1 qq=>?_);obtain⟨x,H1,I1,rx,a,C,dx,fs,v,ex,ea,c,n,l,q⟩:=qq;subst ex;obtain rfl:u=b7 a:=rx;exact Eb I1 ea c n l fun u' s2 I2 ru=>⟨v,H1,I2,ru,q⟩
theorem fV(ha:PE X o ta)(hv:PE X value tv)(hs:swapsWith value (some (.Attribute o f pos')) pos.line X.ah=pure false):PS X (.Assign [.Attribute o f pos'] value pos) (Dz X.K ta tv f):=by
 walk_at "aq";refine plainObj_wpAny_Assign_Attribute (a0 (hv pins s σ H _ I h) fun u s1 ⟨y,H1,I1,ry,q⟩=>a0 (ha pins s1 σ H1 _ I1 q) fun ov s2 qq=>?_) hs;obtain⟨x,H2,I2,rx,a,C,dx,fs,ex,ea,c,n,l,q2⟩:=qq;subst ex;obtain rfl:ov=b7 a:=rx;exact zW I2 ea c n l ry fun s3 I3=>⟨σ,_,I3,q2⟩
theorem nu{op:uo}{rd:V->V->Hp->VK->Prop}(ha:PE X o ta)(hv:PE X value tv)(hop:zX X op rd):PS X (.AugAssign (.Attribute o f tpos) op value pos) (zr X.K ta tv rd f):=by
 walk_at "aq";refine wpAny_AugAssign_AttributeAny (a0 (ha pins s σ H _ I h) fun ov s1 qq=>?_);obtain⟨x,H1,I1,rx,a,C,dx,fs,v,ex,ea,c,n,l,q⟩:=qq;subst ex;obtain rfl:ov=b7 a:=rx;refine Eb I1 ea c n l fun u s2 I2 ru=>a0 (hv pins s2 σ H1 _ I2 q) fun w3 s3 ⟨y,H2,I3,ry,q3⟩=>a0 (hop pins s3 σ H2 v y u w3 _ I3 ru ry q3) fun w4 s4 qq=>?_;obtain⟨z,H3,I4,rz,dx',fs',ea',l',q4⟩:=qq;exact zW I4 ea' c n l' rz fun s5 I5=>⟨σ,_,I5,q4⟩
def zt:V->V->Hp->VK->Prop:=fun x y H Q=>∃i j,x=.int i/\y=.int j/\Q (.int (i+j)) H
def vF:V->V->Hp->VK->Prop:=fun x y H Q=>∃i j,x=.int i/\y=.int j/\Q (.int (i-j)) H
theorem pj:zX X .Add zt:=by
 rintro pins s σ H x y u v Q I rx ry ⟨i,j,rfl,rfl,q⟩;obtain⟨t,rfl⟩:=(show ∃t,u=kh i t from rx);obtain⟨t',rfl⟩:=(show ∃t',v=kh j t' from ry);exact PyProof.Rows.iadd_int ⟨.int (i+j),H,I.cV _,⟨_,rfl⟩,q⟩
theorem QG:zX X .Sub vF:=by
 rintro pins s σ H x y u v Q I rx ry ⟨i,j,rfl,rfl,q⟩;obtain⟨t,rfl⟩:=(show ∃t,u=kh i t from rx);obtain⟨t',rfl⟩:=(show ∃t',v=kh j t' from ry);exact PyProof.Rows.isub_int ⟨.int (i-j),H,I.cV _,⟨_,rfl⟩,q⟩
theorem amd{pl:Sem Bool}{m:af}{apos:cx}{args:List bq}{pins:List (ae×a9)}{s:ay}{σ:St}{H:Hp}{Q:ag->ay->Prop}{te:TE}(he:PE X e te)(I:Inv X pins σ H s)
(h:te σ H fun x H1=>∃a C dx fs g,x=.ref a/\H1 a=some (.aP C dx fs)/\d8 X.K C/\sQ X.K C m g/\fs.lookup m=none/\
   ∀s1,Inv X pins σ H1 s1->aW (aU X.prog X.w) X.A (callWith pos (.ref g) [.ref a] (dU pos (b8 args X.ah)) (backToKw pos (jr [] X.ah))) Q X.xe s1)
(ht:eval (.Call (.Attribute e m apos) args [] pos) X.ah=(do
   let ov <-eval e X.ah
   standAt apos.atName
   let(f,first) <-holding [ov] (getMethod ov m pl)
   callWith pos f first (dU pos (b8 args X.ah)) (backToKw pos (jr [] X.ah)))):
  aW (aU X.prog X.w) X.A (eval (.Call (.Attribute e m apos) args [] pos) X.ah) Q X.xe s:=by
 refine x9 (pl:=pl) (a0 (he pins s σ H _ I h) fun u s1 qq=>?_) ht;obtain⟨x,H1,I1,rx,a,C,dx,fs,g,ex,ea,c,k,l,q⟩:=qq;subst ex;obtain rfl:u=b7 a:=rx;exact vE I1 ea c k l (q s1 I1)
end
section
variable{X:Cx}{pins:List (ae×a9)}{σ:St}{H:Hp}{s:ay}{A:cv}{E:ag->ay->Prop}{Q:ag->ay->Prop}{c:ag}{b:Bool}
inductive jQ(K:ax)(H:Hp):V->ag->Prop where
 |aO:jQ K H .aO (.type "NoneType")
 |bl (x:Bool):jQ K H (.bl x) (.type "bool")
 |int (i:Int):jQ K H (.int i) (.type "int")
 |str (x:af):jQ K H (.str x) (.type "str")
 |i6 (x:UInt64):jQ K H (.i6 x) (.type "float")
 |ai {a:ae} {xs:List V} (e:H a=some (.ai xs)):jQ K H (.ref a) (.type "list")
 |fC {a:ae} {o:a9} {xs:List V} (e:H a=some (.fC o (.ai xs))):jQ K H (.ref a) (.type "list")
 |aj {a:ae} {xs:List V} (e:H a=some (.aj xs)):jQ K H (.ref a) (.type "tuple")
 |dK {a:ae} {kvs:List (Key×V)} (e:H a=some (.dK kvs)):jQ K H (.ref a) (.type "dict")
 |dT {a:ae} {kvs:List (List Key×V)} (e:H a=some (.dT kvs)):jQ K H (.ref a) (.type "dict")
 |aP {a C dx:ae} {fs:List (af×V)} (e:H a=some (.aP C dx fs)) (cl:d8 K C) (ha:dQ K (.ref C) "__class__"=some (some (.builtin "object.__class__")))
   (hn:ur K (.builtin "object.__class__") "__get__"=some (some (.builtin "getset_descriptor.__get__"))) (vG:Ou K (.builtin "object.__class__")=some true)
   (hm:uv K C (.type "object")=some true):jQ K H (.ref a) (.ref C)
theorem QH{x:V}{u t:ag}(I:Inv X pins σ H s)(rx:RelV x u)(ty:jQ X.K H x t)(e:iT X.K t c=some b)(h:∀tk,Q (.bool b) {s with toks:=tk}):
  aW (aU X.prog X.w) A (call (.builtin "isinstance") [u,c]) Q E s:=by
 cases ty with
 |aO=>cases(show u=gm from rx);exact lK PySem.W.kitx_none I.c8 fg e (fun z=>nomatch z) h
 |bl y=>cases(show u=rH y from rx);exact lK PySem.W.kitx_bool I.c8 fg e (fun z=>nomatch z) h
 |int i=>obtain⟨t,q⟩:=(show ∃t,u=kh i t from rx);cases q;exact lK PySem.W.kitx_int I.c8 fg e (fun z=>nomatch z) h
 |str y=>obtain⟨t,q⟩:=(show ∃t,u=xR y t from rx);cases q;exact lK PySem.W.kitx_str I.c8 fg e (fun z=>nomatch z) h
 |i6 y=>obtain⟨t,q⟩:=(show ∃t,u=N8 y t from rx);cases q;exact lK PySem.W.kitx_float I.c8 fg e (fun z=>nomatch z) h
 |@ai a xs ea=>
  cases(show u=b7 a from rx);obtain⟨_,_,n,_,h1⟩:=(show dP X.prog X.w H s.heap a (.ai xs)from I.aT a _ ea);exact lK abd I.c8 ⟨_,h1,rfl⟩ e (fun z=>nomatch z) h
 |@fC a ob xs ea=>
  cases(show u=b7 a from rx);obtain⟨_,_,_,n,_,h1⟩:=(show dP X.prog X.w H s.heap a (.fC ob (.ai xs))from I.aT a _ ea);exact lK abd I.c8 ⟨_,h1,rfl⟩ e (fun z=>nomatch z) h
 |@aj a xs ea=>
  cases(show u=b7 a from rx);obtain⟨_,_,_,p⟩:=(show dP X.prog X.w H s.heap a (.aj xs)from I.aT a _ ea);obtain⟨o,h1,h2,_⟩:=p;exact lK PySem.W.kitx_tuple I.c8 ⟨o,h1,h2⟩ e (fun z=>nomatch z) h
 |@dK a kvs ea=>
  cases(show u=b7 a from rx);obtain⟨_,_,vs,_,p⟩:=(show dP X.prog X.w H s.heap a (.dK kvs)from I.aT a _ ea);obtain⟨o,es,ep,h1,h2,_⟩:=p;exact lK abe I.c8 ⟨o,h1,h2.1⟩ e (fun z=>nomatch z) h
 |@dT a kvs ea=>
  cases(show u=b7 a from rx);obtain⟨_,_,xs,_,o,es,ep,h1,h2,_⟩:=(show dP X.prog X.w H s.heap a (.dT kvs)from I.aT a _ ea);exact lK abe I.c8 ⟨o,h1,h2.1⟩ e (fun z=>nomatch z) h
 |@aP a C dx fs ea cl ha hn vG hm=>
  cases(show u=b7 a from rx);obtain⟨mA,O,_⟩:=vD I.aT ea;obtain⟨od,J,_⟩:=O.look;exact lK (PySem.W.kitx_own (cl.get _) cl.hd ha hn vG hm) I.c8 J e (fun z=>nomatch z) h
end
end L2
namespace L2
open PySem PySem.Spec PyProof.Rows
structure c6(k:Nat)(A:cv):Prop where
 hd:A.handled=none
 dp:A.depth+3*k+5<recursionLimit
 un:A.units+16*k+200<cLine
theorem c6.cG{j k:Nat}{A:cv}(r:c6 k A)(h:j<=k):c6 j A:=⟨r.hd,by have:=r.dp;lia,by have:=r.un;lia⟩
theorem c6.deeper{k:Nat}{A:cv}(r:c6 (k+1) A)(ah:Env):c6 k (A.deeper ah):=
 ⟨r.hd,by have:=r.dp;show A.depth+1+3*k+5<_;lia,by have:=r.un;show A.units+3+16*k+200<_;lia⟩
theorem QI{A:cv}{C:ae}{us:List ag}{kw:List (af×ag)}:(A.under (.builtin "type.__call__" ⟨.ref C::us,kw⟩)).depth=A.depth+1:=by
 first|rfl|simp[Ov,Code.weight,Code.isCreation,Code.isGuard,Code.isCaller,Code.frames,Ow,guardIds]
theorem QJ{A:cv}{C:ae}{us:List ag}{kw:List (af×ag)}:(A.under (.builtin "type.__call__" ⟨.ref C::us,kw⟩)).units=A.units+1:=by
 first|rfl|simp[Ov,Code.cUnits,Code.frames,Ow]
theorem c6.sR{k:Nat}{A:cv}(r:c6 (k+1) A)(C:ae)(us:List ag)(kw:List (af×ag)):c6 k (A.under (.builtin "type.__call__" ⟨.ref C::us,kw⟩)):=
 ⟨r.hd,by have:=r.dp;rw[QI];lia,by have:=r.un;rw[QJ];lia⟩
theorem c6.depth{k:Nat}{A:cv}(r:c6 k A):A.depth<recursionLimit:=by have:=r.dp;lia
theorem c6.units{k:Nat}{A:cv}(r:c6 k A):A.units+64<cLine:=by have:=r.un;lia
def iZ:TA:=fun _ H Q=>Q [] H
def lc(ta:TE)(tr:TA):TA:=fun σ H Q=>ta σ H fun x H1=>tr σ H1 fun xs H2=>Q (x::xs) H2
section
variable{X:Cx}{e:bq}{es:List bq}{te:TE}{t:TA}{pos:cx}
theorem gq:PA X [] iZ:=fun _ _ _ _ H Q I h=>Ox ⟨[],H,I,.nil,h⟩
theorem jz(ha:PE X e te)(hr:PA X es t)(hs:b8 (e::es) X.ah=(false,eval e X.ah)::b8 es X.ah:=by rfl):PA X (e::es) (lc te t):=by
 intro pos pins s σ H Q I h;rw[hs];show aW _ _ (spliced ((false,eval e X.ah)::dU pos (b8 es X.ah))) _ _ s;refine Oy (a0 (ha pins s σ H _ I h) fun u s1 qq=>?_);walk_at "ao";exact a0 (hr pos pins s1 σ H1 _ I1 q1) fun us s2 ⟨xs,H2,I2,r2,q2⟩=>⟨x::xs,H2,I2,.cons r1 r2,q2⟩
def yS(t:TA):TE:=fun σ H Q=>t σ H fun xs H1=>xs.length<=bE/\∀p,H1 p=none->Q (.ref p) (aq H1 p (.aj xs))
def yT(t:TA):TE:=fun σ H Q=>t σ H fun xs H1=>xs.length<=bE/\∀p,H1 p=none->Q (.ref p) (aq H1 p (.ai xs))
theorem Dx{x1}(h:PA X es t):PE X (.Tuple es x1 pos) (yS t):=by
 intro pins s σ H Q I hq;refine wpAny_Tuple_spliced (a0 (h pos pins s σ H _ I hq) fun us s1 ⟨xs,H1,I1,r,z,q⟩=>⟨by rw[<-r.length];exact z,?_⟩);have hf:H1 s1.heap.objs.size=none:=I1.aT.fresh (bY _);refine⟨.ref s1.heap.objs.size,aq H1 s1.heap.objs.size (.aj xs),I1.gN (t':=s1.toks) (fun b u e=>eP _ e) (bY _) ?_,rfl,q _ hf⟩;exact⟨z,us,r,⟨_,iS _ rfl,rfl,_,rfl⟩⟩
theorem gR(h:PA X es t):PE X (.List es pos) (yT t):=by
 intro pins s σ H Q I hq;refine wpAny_List_spliced (a0 (h pos pins s σ H _ I hq) fun us s1 ⟨xs,H1,I1,r,z,q⟩=>⟨by rw[<-r.length];exact z,?_⟩);have hf:H1 s1.heap.objs.size=none:=I1.aT.fresh (bY _);refine⟨.ref s1.heap.objs.size,aq H1 s1.heap.objs.size (.ai xs),I1.gN (t':=s1.toks) (fun b u e=>eP _ e) (bY _) ?_,rfl,q _ hf⟩;exact⟨z,us,0,r,iS _ rfl⟩
end
abbrev Sp:=List V->Hp->VK->XK->Prop
abbrev e8:=List Env->Hp->ay->XK->ag->ay->Prop
structure nz(P:bv)(w:bf)(K:ax)(mg:af->Option ag)(base:Heap)(A:cv)(bp:List Env)(s:ay)(H:Hp):Prop where
 frames:A.frames=some bp
 eV:Mod K mg base
 bs:∀b o,base.get? b=some o->s.heap.get? b=some o/\H b=none
 jM:base.objs.size<=s.heap.objs.size
 fD:s.heap.FunFrames base bp
 l6:∀b∈dw bp,H b=none
 aT:dv P w H s.heap
 eD:oE s.gens
inductive CE(bp:List Env)(P:bv)(w:bf)(H:Hp)(s:ay)(Q:VK)(u:ag)(s':ay):Prop
 |mk:∀v H',s'.os=s.os->oE s'.gens->Un (dw bp) [] H H' s.heap s'.heap->dv P w H' s'.heap->RelV v u->Q v H'->CE bp P w H s Q u s'
def CR(CX:e8)(bp:List Env)(P:bv)(w:bf)(H:Hp)(s:ay)(Q:VK)(E:XK)(r:Result)(s':ay):Prop:=
 match r with
 | .ok (.ret u)=>CE bp P w H s Q u s'
 | .ok _=>False
 | .error e=>CX bp H s E e s'
structure dG(P:bv)(w:bf)(K:ax)(mg:af->Option ag)(base:Heap)(CX:e8)(k:Nat)(f:ae)(fd:gH)(ps:List af)(sp:Sp):Prop where
 len:∀vs H Q E,sp vs H Q E->vs.length=ps.length
 run:∀(A:cv)(bp:List Env)(s:ay)(H:Hp)(args:Args)(us:List ag)(vs:List V)(Q:VK)(E:XK),c6 k A->nz P w K mg base A bp s H->uw s fd args (ps.zip us)->bt vs us->sp vs H Q E->
  codeAny (aU P w) A (.call (.ref f) args) (CR CX bp P w H s Q E) s
theorem dG.cG{P:bv}{w:bf}{K:ax}{mg:af->Option ag}{base:Heap}{CX:e8}{j k:Nat}{f:ae}{fd:gH}{ps:List af}{sp:Sp}(F:dG P w K mg base CX j f fd ps sp)(h:j<=k):
  dG P w K mg base CX k f fd ps sp:=⟨F.len,fun A bp s H args us vs Q E hr=>F.run A bp s H args us vs Q E (hr.cG h)⟩
theorem dG.QK{P:bv}{w:bf}{K:ax}{mg:af->Option ag}{base:Heap}{CX:e8}{k:Nat}{f:ae}{fd:gH}{ps:List af}{sp sp':Sp}(F:dG P w K mg base CX k f fd ps sp)
(h:∀vs H Q E,sp' vs H Q E->sp vs H Q E):dG P w K mg base CX k f fd ps sp':=
 ⟨fun vs H Q E q=>F.len vs H Q E (h _ _ _ _ q),fun A bp s H args us vs Q E hr he hb hv hs=>F.run A bp s H args us vs Q E hr he hb hv (h _ _ _ _ hs)⟩
theorem nz.sR{P:bv}{w:bf}{K:ax}{mg:af->Option ag}{base:Heap}{A:cv}{bp:List Env}{s:ay}{H:Hp}(e:nz P w K mg base A bp s H)(C:ae)(us:List ag)(kw:List (af×ag)):
  nz P w K mg base (A.under (.builtin "type.__call__" ⟨.ref C::us,kw⟩)) bp s H:=⟨by first|exact e.frames|(simpa[Ov,Code.envs,Ow,pushEnvs]using e.frames),e.eV,e.bs,e.jM,e.fD,e.l6,e.aT,e.eD⟩
section
variable{X:Cx}{pins:List (ae×a9)}{σ:St}{H:Hp}{s s':ay}
theorem Inv.vH(I:Inv X pins σ H s):nz X.prog X.w X.K X.mg X.base X.A X.stack s H:=
 ⟨I.ok.frames,I.ok.eV,I.bs,dM I.ok.jM I.sz,I.stack,I.vc,I.aT,I.eD⟩
theorem Inv.zY{Q:VK}{u:ag}(I:Inv X pins σ H s)(h:CE X.stack X.prog X.w H s Q u s'):EP X pins σ Q u s':=by
 obtain⟨v,H',os,eD,un,aT,r,q⟩:=h;obtain⟨hh,g,d,t,os'⟩:=s';obtain rfl:os'=s.os:=os;exact⟨v,H',I.call (h':=hh) (g':=g) (d':=d) (t':=t) (ch:=[]) un aT eD (fun b z=>absurd z (by simp)),r,q⟩
end
def oR(sp:Sp)(dvs:List V)(E:XK)(t:TA):TE:=fun σ H Q=>t σ H fun vs H1=>sp (vs++dvs) H1 Q E
def lU(C:ae)(m:af)(sp:Sp)(dvs:List V)(E:XK)(ta:TE)(t:TA):TE:=fun σ H Q=>ta σ H fun x H1=>∃a dx fs,x=.ref a/\H1 a=some (.aP C dx fs)/\fs.lookup m=none/\
 t σ H1 fun vs H2=>sp (x::(vs++dvs)) H2 Q E
def u1(C:ae)(sp:Sp)(dvs:List V)(E:XK)(t:TA):TE:=fun σ H Q=>t σ H fun vs H1=>∀x dx,H1 x=none->H1 dx=none->dx≠x->
 sp (.ref x::(vs++dvs)) (aq (aq H1 dx (.own x)) x (.aP C dx [])) (fun v H2=>v=.aO/\Q (.ref x) H2) E
def gS(K:ax)(fd:gH)(ps:List af)(ds:List ag):Prop:=
 ∀(s:ay)(us:List ag),K.In s.heap->(us++ds).length=ps.length->uw s fd ⟨us,[]⟩ (ps.zip (us++ds))
theorem gS.all{K:ax}{fd:gH}{ps:List af}(h:∀us:List ag,us.length=ps.length->bindArgs fd ⟨us,[]⟩=pure (ps.zip us)):gS K fd ps []:=fun s us _ hl=>by
 rw[kW]at hl ⊢;exact .of_eq (h us hl)
def gs(CX:e8)(X:Cx)(E:XK):Prop:=∀(pins:List (ae×a9))(σ:St)(H:Hp)(s:ay)(e:ag)(s':ay),Inv X pins σ H s->CX X.stack H s E e s'->X.xe e s'
section
variable{X:Cx}{CX:e8}{k:Nat}{f C:ae}{fd:gH}{ps:List af}{sp:Sp}{dvs:List V}{ds:List ag}{E:XK}{x m:af}{p pos apos:cx}{e o:bq}{es:List bq}{ta:TE}{t:TA}
theorem qz{pins:List (ae×a9)}{σ:St}{H:Hp}{s:ay}{Q:VK}{us:List ag}{vs:List V}(F:dG X.prog X.w X.K X.mg X.base CX k f fd ps sp)(hr:c6 k X.A)(hb:gS X.K fd ps ds)(hd:bt dvs ds)(hx:gs CX X E)
(I:Inv X pins σ H s)(r:bt vs us)(h:sp (vs++dvs) H Q E):aW (aU X.prog X.w) X.A (call (.ref f) us) (EP X pins σ Q) X.xe s:=by
 have r2:bt (vs++dvs) (us++ds):=r.append hd;have hl:(us++ds).length=ps.length:=by rw[<-r2.length];exact F.len _ _ _ _ h
 refine wpAny_call (codeAny_mono (F.run X.A X.stack s H ⟨us,[]⟩ (us++ds) (vs++dvs) Q E hr I.vH (hb s us I.c8 hl) r2 h) fun r s' hq=>?_);cases r with
 |error e=>exact hx pins σ H s e s' I hq
 |ok fl=>
  cases fl with
  |ret u=>exact I.zY hq
  |next=>exact fc hq
  |brk=>exact fc hq
  |cont=>exact fc hq
theorem QL(F:dG X.prog X.w X.K X.mg X.base CX k f fd ps sp)(hr:c6 k X.A)(hg:Gl X x)(hm:X.mg x=some (.ref f))(hk:iG X.K (.ref f)=true)(hb:gS X.K fd ps ds)(hd:bt dvs ds)(hx:gs CX X E)
(ha:PA X (e::es) t)(hdb:(x==("__debug__":af))=false:=by decide)(he:b8 (e::es) X.ah=(false,eval e X.ah)::b8 es X.ah:=by rfl)(hpl:(dU pos (b8 es X.ah)).any (·.1)=false:=by rfl):
  PE X (.Call (.Name x p) (e::es) [] pos) (oR sp dvs E t):=by
 walk_at "ae";refine rM (nc I hg hm ?_ hdb);refine ux (h₀:=X.base) I.ok.eV.i7 hk (a0 (ha pos pins s σ H _ I h) fun us s1 ⟨vs,H1,I1,r,q⟩=>⟨I1.c8,?_⟩) he hpl;exact qz F hr hb hd hx I1 r q
theorem Ed(F:dG X.prog X.w X.K X.mg X.base CX k f fd ps sp)(hr:c6 k X.A)(hg:Gl X x)(hm:X.mg x=some (.ref f))(hk:iG X.K (.ref f)=true)(hb:gS X.K fd ps ds)(hd:bt dvs ds)(hx:gs CX X E)
(hdb:(x==("__debug__":af))=false:=by decide):PE X (.Call (.Name x p) [] [] pos) (oR sp dvs E iZ):=by
 walk_at "ae";refine rM (nc I hg hm ?_ hdb);exact CI I.c8 hk (qz (us:=[]) F hr hb hd hx I .nil h)
theorem QM{pl:Sem Bool}(he:PE X o ta)(c:d8 X.K C)(hm:sQ X.K C m f)(F:dG X.prog X.w X.K X.mg X.base CX k f fd ps sp)(hr:c6 k X.A)(hb:gS X.K fd ps ds)(hd:bt dvs ds)(hx:gs CX X E)(ha:PA X (e::es) t)
(hst:b8 (e::es) X.ah=(false,eval e X.ah)::b8 es X.ah:=by rfl)(hpl:(dU pos (b8 es X.ah)).any (·.1)=false:=by rfl)
(ht:eval (.Call (.Attribute o m apos) (e::es) [] pos) X.ah=(do
   let ov <-eval o X.ah
   standAt apos.atName
   let(f,first) <-holding [ov] (getMethod ov m pl)
   callWith pos f first (dU pos (b8 (e::es) X.ah)) (backToKw pos (jr [] X.ah))):=by rfl):
  PE X (.Call (.Attribute o m apos) (e::es) [] pos) (lU C m sp dvs E ta t):=by
 walk_at "ae";refine x9 (pl:=pl) (a0 (he pins s σ H _ I h) fun u s1 qq=>?_) ht;obtain⟨x,H1,I1,rx,a,dx,fs,ex,ea,l,q⟩:=qq;subst ex;obtain rfl:u=b7 a:=rx;refine vE I1 ea c hm l ?_;refine ux (first:=[.ref a]) (h₀:=X.base) I.ok.eV.i7 hm.kp (a0 (ha pos pins s1 σ H1 _ I1 q) fun us s2 ⟨vs,H2,I2,r,q2⟩=>⟨I2.c8,?_⟩) hst hpl;exact qz (us:=.ref a::us) (vs:=.ref a::vs) F hr hb hd hx I2 (.cons rfl r) q2
theorem QN{pl:Sem Bool}(he:PE X o ta)(c:d8 X.K C)(hm:sQ X.K C m f)(F:dG X.prog X.w X.K X.mg X.base CX k f fd ps sp)(hr:c6 k X.A)(hb:gS X.K fd ps ds)(hd:bt dvs ds)(hx:gs CX X E)
(ht:eval (.Call (.Attribute o m apos) [] [] pos) X.ah=(do
   let ov <-eval o X.ah
   standAt apos.atName
   let(f,first) <-holding [ov] (getMethod ov m pl)
   callWith pos f first (dU pos (b8 [] X.ah)) (backToKw pos (jr [] X.ah))):=by rfl):
  PE X (.Call (.Attribute o m apos) [] [] pos) (lU C m sp dvs E ta iZ):=by
 walk_at "ae";refine x9 (pl:=pl) (a0 (he pins s σ H _ I h) fun u s1 qq=>?_) ht;obtain⟨x,H1,I1,rx,a,dx,fs,ex,ea,l,q⟩:=qq;subst ex;obtain rfl:u=b7 a:=rx;refine vE I1 ea c hm l ?_;exact CI (first:=[.ref a]) I1.c8 hm.kp (qz (us:=[.ref a]) (vs:=[.ref a]) F hr hb hd hx I1 (.cons rfl .nil) q)
structure Mk(K:ax)(C f:ae):Prop where
 QO:Oq K C=true
 sT:dQ K (.ref C) "__init__"=some (some (.ref f))
 fn:xY K (.ref f)=true
 kp:iG K (.ref C)=true
theorem Ee{pins:List (ae×a9)}{σ:St}{H:Hp}{s:ay}{Q:VK}{us:List ag}{vs:List V}(M:Mk X.K C f)(F:dG X.prog X.w X.K X.mg X.base CX k f fd ps sp)(hr:c6 (k+1) X.A)(hb:gS X.K fd ps ds)(hd:bt dvs ds)
(hx:gs CX X E)(I:Inv X pins σ H s)(r:bt vs us)
(h:∀x dx,H x=none->H dx=none->dx≠x->sp (.ref x::(vs++dvs)) (aq (aq H dx (.own x)) x (.aP C dx [])) (fun v H2=>v=.aO/\Q (.ref x) H2) E):
  aW (aU X.prog X.w) X.A (call (.ref C) us) (EP X pins σ Q) X.xe s:=by
 have hq:=h (s.heap.objs.size+1) s.heap.objs.size (I.aT.fresh (ya _)) (I.aT.fresh (bY _)) (eX (uu _));have I2:=Inv.made (C:=C) I;have r2:bt (V.ref (s.heap.objs.size+1)::(vs++dvs)) (b7 (s.heap.objs.size+1)::(us++ds)):=.cons rfl (r.append hd);have hl:(b7 (s.heap.objs.size+1)::us++ds).length=ps.length:=by
  have e:=r2.length;rw[F.len _ _ _ _ hq]at e;exact e.symm
 refine wpAny_call (QC (f:=f) I.c8 M.QO M.sT (beq_iff_eq.mp M.fn) (codeAny_mono (F.run _ X.stack _ _ ⟨b7 (s.heap.objs.size+1)::us,[]⟩ (b7 (s.heap.objs.size+1)::(us++ds)) _ _ E (hr.sR C us [])
  (I2.vH.sR C us []) (hb _ (b7 (s.heap.objs.size+1)::us) I2.c8 hl) r2 hq) fun r s' hq'=>?_))
 cases r with
 |error e=>exact hx pins σ _ _ e s' I2 hq'
 |ok fl=>
  cases fl with
  |ret u=>
   obtain⟨v,H',I3,rv,ev,q3⟩:=I2.zY hq';subst ev;exact⟨rv,⟨V.ref (s.heap.objs.size+1),H',I3,rfl,q3⟩⟩
  |next=>exact fc hq'
  |brk=>exact fc hq'
  |cont=>exact fc hq'
theorem O9(M:Mk X.K C f)(F:dG X.prog X.w X.K X.mg X.base CX k f fd ps sp)(hr:c6 (k+1) X.A)(hg:Gl X x)(hm:X.mg x=some (.ref C))(hb:gS X.K fd ps ds)(hd:bt dvs ds)(hx:gs CX X E)
(ha:PA X (e::es) t)(hdb:(x==("__debug__":af))=false:=by decide)(he:b8 (e::es) X.ah=(false,eval e X.ah)::b8 es X.ah:=by rfl)(hpl:(dU pos (b8 es X.ah)).any (·.1)=false:=by rfl):
  PE X (.Call (.Name x p) (e::es) [] pos) (u1 C sp dvs E t):=by
 walk_at "ae";refine rM (nc I hg hm ?_ hdb);refine ux (h₀:=X.base) I.ok.eV.i7 M.kp (a0 (ha pos pins s σ H _ I h) fun us s1 ⟨vs,H1,I1,r,q⟩=>⟨I1.c8,?_⟩) he hpl;exact Ee M F hr hb hd hx I1 r q
theorem QP(M:Mk X.K C f)(F:dG X.prog X.w X.K X.mg X.base CX k f fd ps sp)(hr:c6 (k+1) X.A)(hg:Gl X x)(hm:X.mg x=some (.ref C))(hb:gS X.K fd ps ds)(hd:bt dvs ds)(hx:gs CX X E)
(hdb:(x==("__debug__":af))=false:=by decide):PE X (.Call (.Name x p) [] [] pos) (u1 C sp dvs E iZ):=by
 walk_at "ae";refine rM (nc I hg hm ?_ hdb);exact CI I.c8 M.kp (Ee (us:=[]) M F hr hb hd hx I .nil h)
end
section
variable{X:Cx}{CX:e8}{k:Nat}{f C:ae}{fd:gH}{ps ks:List af}{sp:Sp}{E:XK}{x m:af}{p pos apos kpos:cx}{e o:bq}{es:List bq}{kws:List rN}{te ta:TE}{t tk:TA}{nm:Option af}
structure ame(K:ax)(fd:gH)(ps ks:List af)(g:List ag->List ag->List ag)(gV:List V->List V->List V):Prop where
 to:∀(s:ay)(us ws:List ag),K.In s.heap->(g us ws).length=ps.length->uw s fd ⟨us,ks.zip ws⟩ (ps.zip (g us ws))
 dr:∀{vs:List V}{us:List ag}{zs:List V}{ws:List ag},bt vs us->bt zs ws->bt (gV vs zs) (g us ws)
variable{g:List ag->List ag->List ag}{gV:List V->List V->List V}
end
structure oQ(N P:List af)(sc:fI):Prop where
 kind:sc.kind=.function
 co:sc.isCoroutine=false
 QQ:sc.isGenerator=false
 nd:N.Nodup
 pre:N.take P.length=P
 Ef:∀x∈P,sc.names.lookup x=some .local\/sc.names.lookup x=some .cell
 QR:∀y∈sc.names,y.2≠.free
theorem Eg{kindOf:af->Option iU}{x:af}:∀{binds:List (af×ag)}{m:af->Option ag},(∀v,(x,v)∉binds)->bindL kindOf binds m x=m x
 |[],_,_=>rfl
 |(n,v)::r,m,h=>by
  unfold bindL;rw[Eg fun w hw=>h w (bP _ hw)];split
  ·have:x≠n:=by rintro rfl;exact h v cw
   simp[this]
  ·rfl
theorem Eh{kindOf:af->Option iU}{x:af}:∀{binds:List (af×ag)}{m:af->Option ag},(∀v,(x,v)∉binds)->bindC kindOf binds m x=m x
 |[],_,_=>rfl
 |(n,v)::r,m,h=>by
  unfold bindC;rw[Eh fun w hw=>h w (bP _ hw)];split
  ·rfl
  ·have:x≠n:=by rintro rfl;exact h v cw
   simp[this]
theorem Ei{kindOf:af->Option iU}{x:af}{v:ag}:∀{P:List af}{vs:List ag}{i:Nat}{m:af->Option ag},P.Nodup->P[i]? =some x->vs[i]? =some v->kindOf x=some .local->
  bindL kindOf (P.zip vs) m x=some v
 |[],_,_,_,_,h,_,_=>by simp at h
 |_::_,[],_,_,_,_,h,_=>by simp at h
 |p::P,w::vs,0,m,nd,h1,h2,hk=>by
  simp at h1 h2;subst h1;subst h2;show bindL kindOf ((p,w)::P.zip vs) m p=_;unfold bindL;rw[Eg fun v hv=>(eG.mp nd).1 (Oz hv).1,if_pos hk];simp
 |p::P,w::vs,i+1,m,nd,h1,h2,hk=>by
  show bindL kindOf ((p,w)::P.zip vs) m x=_;unfold bindL;exact Ei (i:=i) (eG.mp nd).2 (by simpa using h1) (by simpa using h2) hk
theorem Ej{kindOf:af->Option iU}{x:af}{v:ag}:∀{P:List af}{vs:List ag}{i:Nat}{m:af->Option ag},P.Nodup->P[i]? =some x->vs[i]? =some v->kindOf x≠some .local->
  bindC kindOf (P.zip vs) m x=some v
 |[],_,_,_,_,h,_,_=>by simp at h
 |_::_,[],_,_,_,_,h,_=>by simp at h
 |p::P,w::vs,0,m,nd,h1,h2,hk=>by
  simp at h1 h2;subst h1;subst h2;show bindC kindOf ((p,w)::P.zip vs) m p=_;unfold bindC;rw[Eh fun v hv=>(eG.mp nd).1 (Oz hv).1,if_neg hk];simp
 |p::P,w::vs,i+1,m,nd,h1,h2,hk=>by
  show bindC kindOf ((p,w)::P.zip vs) m x=_;unfold bindC;exact Ej (i:=i) (eG.mp nd).2 (by simpa using h1) (by simpa using h2) hk
def start(N:List af)(vs:List V):St:=vs.map some++dN (N.length-vs.length) none
def gT(CX:e8)(P:bv)(w:bf)(K:ax)(mg:af->Option ag)(base:Heap)(N:List af)(qual:af)(scope:fI)(f:ae)(cd:ag)(A:cv)(bp:List Env)(s:ay)(H:Hp)(E:XK):Cx where
 prog:=P
 w:=w
 K:=K
 mg:=mg
 base:=base
 A:=A.deeper (envOfC qual scope s.heap.objs.size f cd)
 N:=N
 gb:=s
 sG:=H
 ah:=envOfC qual scope s.heap.objs.size f cd
 bp:=bp
 stack:=envOfC qual scope s.heap.objs.size f cd::bp
 ex:=[]
 i8:=true
 fn:=fun _=>true
 pn:=[]
 xe:=fun e s'=>aW (aU P w) (A.deeper (envOfC qual scope s.heap.objs.size f cd)) (leaving (envOfC qual scope s.heap.objs.size f cd) e) (fun _ s''=>CX bp H s E e s'') (fun e' s''=>CX bp H s E e' s'') s'
theorem Ek{sc:fI}{n:Nat}{x:af}(h:sc.names.lookup x=some .cell):∃c,(gn n sc.names []).lookup x=some c:=by
 have q:=abf sc.names n [] (.inl h);exact abg.mp q
theorem QS{CX:e8}{P:bv}{w:bf}{K:ax}{mg:af->Option ag}{base:Heap}{N ps:List af}{qual:af}{scope:fI}{f:ae}{cd:ag}{A:cv}{bp:List Env}{s s1:ay}{H:Hp}{E:XK}{us:List ag}{vs:List V}
(S:oQ N ps scope)(hd:A.handled=none)(e0:nz P w K mg base A bp s H)(hl:vs.length=ps.length)(r:bt vs us)
(x:InCallC s s.heap.objs.size (bindL (envOfC qual scope s.heap.objs.size f cd).kindOf (ps.zip us) fun _=>none) (gn (s.heap.objs.size+1) scope.names []) (bindC (envOfC qual scope s.heap.objs.size f cd).kindOf (ps.zip us) fun _=>none) s1):
  Inv (gT CX P w K mg base N qual scope f cd A bp s H E) [] (start N vs) H s1:=by
 have hpl:ps.length<=N.length:=by have:=congrArg gI S.pre;rw[eI]at this;lia
 obtain⟨h1,tk,rfl,hk⟩:=x.done;have noA:∀b:ae,b∉(gT CX P w K mg base N qual scope f cd A bp s H E).ex:=fun b z=>absurd (show b∈([]:List ae)from z) (by simp);refine⟨⟨e0.eV,S.kind,rfl,rfl,bY _,fun y z c h1 h2=>?_,fun y hy=>?_,fun y c _ h=>?_,fun _=>hd,cv.frames_deeper e0.frames,.inr ⟨rfl,rfl⟩,fun b z=>absurd z (noA b),e0.bs,e0.jM,fun b _ _=>noA b,fun b z=>absurd z (noA b),e0.fD,e0.l6⟩,
  rfl,e0.eD,Un.kept hk,⟨_,x.toInCall.ns,fun i y v h1 h2 h3=>?_⟩,fun y c h=>⟨_,x.cell y c h⟩,e0.aT.fresh (bY _),fun y c h=>?_,fun p hp=>absurd (show p∈([]:List (ae×a9))from hp) (by simp),e0.aT.kept hk,?_⟩
 ·exact name_of_addr x.apart (js h1) (js h2)
 ·have hy:scope.names.lookup y=some .cell\/scope.names.lookup y=some .free:=hy;rcases hy with hy|hy
  ·exact Ek hy
  ·exact absurd rfl (S.QR _ (js hy))
 ·exact xU (x.above y c (js h))
 ·have hi:i<vs.length:=by
   unfold start at h2;by_cases hi:i<vs.length
   ·exact hi
   ·rw[CJ (by simpa using hi)]at h2;rw[List.getElem?_replicate]at h2;split at h2<;>cases h2
  have ha:vs[i]? =some v:=by
   unfold start at h2;rw[yb (by simpa using hi),dX]at h2;cases e:vs[i]? with
   |none=>rw[e]at h2;cases h2
   |some a=>rw[e]at h2;cases h2;rfl
  obtain⟨u,hu,rv⟩:=r.get ha;have hp:ps[i]? =some y:=by
   rw[<-S.pre,abh (by lia)];exact h1
  have ndP:ps.Nodup:=by rw[<-S.pre];exact S.nd.sublist (uy _ _)
  refine⟨u,rv,?_⟩;rcases S.Ef y (dR hp)with k|k
  ·exact .inl ⟨k,Ei ndP hp hu k⟩
  ·obtain⟨c,e⟩:=Ek (n:=s.heap.objs.size+1) k;refine .inr ⟨.inl k,c,e,?_⟩;have q:=x.cell y c e;rw[Ej ndP hp hu (by show scope.names.lookup y≠_;rw[k];decide)]at q;exact q
 ·exact e0.aT.fresh (xU (x.above y c (js h)))
 ·unfold start;show _=N.length;rw[eQ,bK,OA]
  lia
theorem El{CX:e8}{P:bv}{w:bf}{K:ax}{mg:af->Option ag}{base:Heap}{k:Nat}{f:ae}{name qual:af}{params:Arguments}{body:List aH}{scope:fI}{dV kV doc pm cdv ct oc:ag}{an od:Option ae}
{osl:Array (Option ag)}{N ps:List af}{sp:Sp}(lk:K.lookup f=some ⟨oc,od,.func (lL name qual params body scope dV kV doc pm an cdv ct),osl⟩)(hcd:rO K cdv qual=true)(S:oQ N ps scope)
(len:∀vs H Q E,sp vs H Q E->vs.length=ps.length)
(hbody:∀(A:cv) (bp:List Env) (s:ay) (H:Hp) (vs:List V) (Q:VK) (E:XK),c6 k (A.deeper (envOfC qual scope s.heap.objs.size f cdv))->sp vs H Q E->
   ∃t,gQ (gT CX P w K mg base N qual scope f cdv A bp s H E) body t/\t {nx:=fun _ H'=>Q .aO H',rt:=Q} (start N vs) H):
  dG P w K mg base CX (k+1) f (lL name qual params body scope dV kV doc pm an cdv ct) ps sp:=by
 refine⟨len,fun A bp s H args us vs Q E hr e0 hb r hsp=>?_⟩;have hl:=len _ _ _ _ hsp;have KX:K.In s.heap:=e0.eV.i7.keeps fun b o e=>(e0.bs b o e).1;have lim:s.heap.NoLimit:=e0.eV.nolimit.keeps fun b o e=>(e0.bs b o e).1;have hkind:∀y∈ps.zip us,scope.names.lookup y.1=some .local\/(scope.names.lookup y.1=some .cell/\((gn (s.heap.objs.size+1) scope.names []).lookup y.1).isSome=true):=fun⟨n,v⟩ hy=>by
  rcases S.Ef n (Oz hy).1 with q|q
  ·exact .inl q
  ·exact .inr ⟨q,abf _ _ _ (.inl q)⟩
 refine codeAny_call_function hr.depth (KX _ _ lk) rfl S.co S.QQ rfl (PySem.W.codeRec_of KX hcd) (hb _ _ _ _ ?_);refine wpAny_newFunctionEnv_cells S.kind hkind fun ah he s1 x=>?_;subst he;refine⟨lim.keeps x.toInCall.keep,codeAny_func ?_⟩;obtain⟨t,ht,hq⟩:=hbody A bp s H vs Q E (hr.deeper _) hsp;have I:Inv (gT CX P w K mg base N qual scope f cdv A bp s H E) [] (start N vs) H s1:=QS S hr.hd e0 hl r x;refine jH (ht [] s1 (start N vs) H _ I hq) (fun fl s' hs=>?_) fun e s' hs=>hs;have fin:∀{σ':St}{H':Hp}{v:V}{u:ag},Inv (gT CX P w K mg base N qual scope f cdv A bp s H E) [] σ' H' s'->RelV v u->Q v H'->CE bp P w H s Q u s':=
  fun{σ' H' v u} J rv q=>⟨v,H',J.os,J.eD,J.base,J.aT,rv,q⟩
 cases fl with
 |ret u=>
  obtain⟨v,σ',H',J,rv,q⟩:=hs;exact fin J rv q
 |next=>
  obtain⟨σ',H',J,q⟩:=hs;exact fin (v:=V.aO) (u:=gm) J rfl q
 |brk=>
  obtain⟨_,_,_,q⟩:=hs;exact fc q
 |cont=>
  obtain⟨_,_,_,q⟩:=hs;exact fc q
end L2
namespace L2
open PySem PySem.Spec PyProof.Rows
section
variable{X:Cx}{x:af}{p pos:cx}{e:bq}{es:List bq}{t:TA}{id T:String}{r:List V->Hp->VK->Prop}
def sy(r:List V->Hp->VK->Prop)(t:TA):TE:=fun σ H Q=>t σ H fun vs H1=>r vs H1 Q
theorem jL(hc:fE X (.builtin id) r)(hg:Gl X x)(hm:X.mg x=none)(hv:jo x=some (.builtin id))(ha:PA X (e::es) t)(hn:x≠"__name__":=by decide)(hdb:(x==("__debug__":af))=false:=by decide)
(he:b8 (e::es) X.ah=(false,eval e X.ah)::b8 es X.ah:=by rfl)(hpl:(dU pos (b8 es X.ah)).any (·.1)=false:=by rfl):PE X (.Call (.Name x p) (e::es) [] pos) (sy r t):=by
 walk_at "ae";refine rM (zC I hg hm hv ?_ hn hdb);exact PyProof.Rows.callWith_builtin1 (a0 (ha pos pins s σ H _ I h) fun us s1 ⟨vs,H1,I1,r1,q1⟩=>hc pins s1 σ H1 vs us Q I1 r1 q1) he hpl
theorem jR(hc:fE X (.type T) r)(hg:Gl X x)(hm:X.mg x=none)(hv:jo x=some (.type T))(ha:PA X (e::es) t)(hn:x≠"__name__":=by decide)(hdb:(x==("__debug__":af))=false:=by decide)
(he:b8 (e::es) X.ah=(false,eval e X.ah)::b8 es X.ah:=by rfl)(hpl:(dU pos (b8 es X.ah)).any (·.1)=false:=by rfl):PE X (.Call (.Name x p) (e::es) [] pos) (sy r t):=by
 walk_at "ae";refine rM (zC I hg hm hv ?_ hn hdb);exact abi (a0 (ha pos pins s σ H _ I h) fun us s1 ⟨vs,H1,I1,r1,q1⟩=>hc pins s1 σ H1 vs us Q I1 r1 q1) he hpl
end
end L2
namespace HT
open PySem PyProof.Rows
section
open PySem.SeqAt
open PySem.AutoSeq1 (wpAny_loadPart')
open PySem.MeetsSeq PySem.MeetsSeq2 PySem.MeetsSeq3
end
section
variable{prog:bv}{w:bf}{A:cv}{E:ag->ay->Prop}{s:ay}
def cJ(n d:Nat):Option Int->Nat
 |none=>d
 |some v=>if v<0 then(v+(n:Int)).toNat else min v.toNat n
theorem sU(n d:Nat):cJ n d none=d:=rfl
theorem nB(n d k:Nat):cJ n d (some (k:Int))=min k n:=by
 show(if(k:Int)<0 then((k:Int)+(n:Int)).toNat else min (k:Int).toNat n)=min k n;rw[if_neg (by lia),uz]
theorem Em(n d:Nat)(hd:d<=n)(o:Option Int):cJ n d o<=n:=by
 cases o with
 |none=>exact hd
 |some v=>
  show(if v<0 then(v+(n:Int)).toNat else min v.toNat n)<=n;by_cases hv:v<0
  ·rw[if_pos hv];lia
  ·rw[if_neg hv];exact Nat.min_le_right _ _
end
end HT
namespace L2
open PySem PySem.Spec PyProof.Rows
abbrev TO:=St->Hp->(Option Int->Hp->Prop)->Prop
def PO(X:Cx)(e:Option bq)(t:TO):Prop:=
 ∀(pins:List (ae×a9))(s:ay)(σ:St)(H:Hp)(Q:Option Int->Hp->Prop),Inv X pins σ H s->t σ H Q->
  aW (aU X.prog X.w) X.A (evalPart e X.ah) (fun u s'=>∃o H',Inv X pins σ H' s'/\IsPart u o/\Q o H') X.xe s
def zi:TO:=fun _ H Q=>Q none H
def zh(t:TE):TO:=fun σ H Q=>t σ H fun x H1=>∃i,x=.int i/\Q (some i) H1
section
variable{X:Cx}{e:bq}{te:TE}{lo hi:Option bq}{tl th:TO}{pos p2:cx}
theorem qA:PO X none zi:=by
 walk_at "ae";rw[evalPart_none];exact dW ⟨none,H,I,.none,h⟩
theorem jS(h:PE X e te):PO X (some e) (zh te):=by
 intro pins s σ H Q I hw;rw[evalPart_some];refine a0 (h pins s σ H _ I hw) fun u s1 qq=>?_;walk_at "ao";obtain⟨i,rfl,q⟩:=q1;obtain⟨t,rfl⟩:=r1;exact⟨some i,H1,I1,.int i t,q⟩
def nD(X:Cx)(r:V->Option Int->Option Int->Hp->VK->Prop):Prop:=
 ∀(pins:List (ae×a9))(s:ay)(σ:St)(H:Hp)(x:V)(v vl vu:ag)(lo hi:Option Int)(sl:ae)(Q:VK),Inv X pins σ H s->RelV x v->s.heap.IsSliceOf sl vl vu .none->IsPart vl lo->IsPart vu hi->r x lo hi H Q->
  ∃T id,typeLookup (.type T) "__getitem__"=pure (some (.builtin id))/\s.TypeIs v T/\aW (aU X.prog X.w) X.A (getItem v (.ref sl)) (EP X pins σ Q) X.xe s
theorem nD.or{r r':V->Option Int->Option Int->Hp->VK->Prop}(h:nD X r)(h':nD X r'):nD X (fun x lo hi H Q=>r x lo hi H Q\/r' x lo hi H Q):=by
 intro pins s σ H x v vl vu lo hi sl Q I rx hs pl pu q;rcases q with q|q
 ·exact h pins s σ H x v vl vu lo hi sl Q I rx hs pl pu q
 ·exact h' pins s σ H x v vl vu lo hi sl Q I rx hs pl pu q
def zg(r:V->Option Int->Option Int->Hp->VK->Prop)(te:TE)(tl th:TO):TE:=fun σ H Q=>te σ H fun x H1=>tl σ H1 fun l H2=>th σ H2 fun u H3=>r x l u H3 Q
theorem l8{r:V->Option Int->Option Int->Hp->VK->Prop}(hr:nD X r)(he:PE X e te)(hl:PO X lo tl)(hu:PO X hi th):PE X (.Subscript e (.Slice lo hi none p2) pos) (zg r te tl th):=by
 walk_at "ae";refine Subscript_ (a0 (he pins s σ H _ I h) fun v s1 qq=>?_);walk_at "ao";refine wpAny_Slice (a0 (hl pins s1 σ H1 _ I1 q1) fun vl s2 ⟨l,H2,I2,pl,q2⟩=>a0 (hu pins s2 σ H2 _ I2 q2) fun vu s3 qq=>?_);obtain⟨u,H3,I3,pu,q3⟩:=qq;rw[evalPart_none];refine dW ?_;have I4:Inv X pins σ H3 {s3 with heap:=s3.heap.push {cls:=.type "slice",data:=.fields #[vl,vu,.none]}}:=I3.kept (t':=s3.toks) fun b ob q=>eP _ q;obtain⟨T,id,hT,ht,hg⟩:=hr pins {s3 with heap:=s3.heap.push {cls:=.type "slice",data:=.fields #[vl,vu,.none]}} σ H3 x v vl vu l u s3.heap.objs.size Q I4 r1 (Heap.IsSliceOf.new ..) pl pu q3;show aW (aU X.prog X.w) X.A (subscriptTail e (.Slice lo hi none p2) v (.ref s3.heap.objs.size)) (EP X pins σ Q) X.xe {s3 with heap:=s3.heap.push {cls:=.type "slice",data:=.fields #[vl,vu,.none]}};exact tail_any (ops:=[.ref s3.heap.objs.size,v]) ht hT hg (by with_unfolding_all rfl)
def fN(xs:List V)(lo hi:Option Int):List V:=(xs.drop (HT.cJ xs.length 0 lo)).take (HT.cJ xs.length xs.length hi-HT.cJ xs.length 0 lo)
theorem QT(xs:List V)(lo hi:Option Int):(fN xs lo hi).length<=xs.length:=by
 unfold fN;rw[eI,fh]
 lia
end
end L2
namespace L2
open PySem PySem.Spec PyProof.Rows
def ja(n:Nat)(i:Int):Option Nat:=if 0<=i then(if i<n then some i.toNat else none)else if -(n:Int)<=i then some (i+n).toNat else none
def cR{α:Type}(xs:List α)(i:Int):Option α:=(ja xs.length i).bind fun j=>xs[j]?
theorem En{n:Nat}{i:Int}{j:Nat}(h:ja n i=some j):seqIndex? i n=some j/\j<n/\ -(n:Int)<=i/\i<n:=by
 unfold ja at h;by_cases h0:0<=i
 ·rw[if_pos h0]at h;by_cases h1:i<n
  ·rw[if_pos h1]at h;have e:i.toNat=j:=fz h;exact⟨by rw[seqIndex_of h0 h1,e],by lia,by lia,h1⟩
  ·rw[if_neg h1]at h;cases h
 ·rw[if_neg h0]at h;by_cases h1: -(n:Int)<=i
  ·rw[if_pos h1]at h;have e:(i+n).toNat=j:=fz h;exact⟨by rw[seqIndex_neg (by lia) h1,e],by lia,h1,by lia⟩
  ·rw[if_neg h1]at h;cases h
theorem zZ{α:Type}{xs:List α}{i:Int}{v:α}(h:cR xs i=some v):∃j,seqIndex? i xs.length=some j/\xs[j]? =some v/\j<xs.length/\ -(xs.length:Int)<=i/\i<xs.length:=by
 unfold cR at h;cases e:ja xs.length i with
 |none=>rw[e]at h;cases h
 |some j=>
  rw[e]at h;obtain⟨h1,h2,h3,h4⟩:=En e;exact⟨j,h1,h,h2,h3,h4⟩
theorem fW{α:Type}{xs:List α}{j:Nat}{v:α}(h:xs[j]? =some v):cR xs (j:Int)=some v:=by
 have hj:j<xs.length:=(cP.mp h).1;have e:ja xs.length (j:Int)=some j:=by
  unfold ja;rw[if_pos (by lia),if_pos (by lia)];simp
 unfold cR;rw[e];exact h
def QU(b:bq):Prop:=∀o i,subscripted b false o i=operate [o,i] (getItem o i)
def jT(X:Cx)(r:R2):Prop:=
 ∀(value slice:bq)(pins:List (ae×a9))(s:ay)(σ:St)(H:Hp)(x y:V)(v u:ag)(Q:VK),Inv X pins σ H s->RelV x v->RelV y u->r x y H Q->
  subscripted slice false v u=operate [v,u] (getItem v u)->aW (aU X.prog X.w) X.A (subscriptTail value slice v u) (EP X pins σ Q) X.xe s
def iL(X:Cx)(id:String)(r:V->List V->Hp->VK->Prop):Prop:=
 ∀(pins:List (ae×a9))(s:ay)(σ:St)(H:Hp)(x:V)(xs:List V)(v:ag)(us:List ag)(Q:VK),Inv X pins σ H s->RelV x v->bt xs us->r x xs H Q->
  aW (aU X.prog X.w) X.A (call (.builtin id) (v::us)) (EP X pins σ Q) X.xe s
section
variable{X:Cx}{a b:bq}{ta tb:TE}{pos:cx}
theorem jT.or{r r':R2}(h:jT X r)(h':jT X r'):jT X (fun x y H Q=>r x y H Q\/r' x y H Q):=by
 intro value slice pins s σ H x y v u Q I rx ry q hs;rcases q with q|q
 ·exact h value slice pins s σ H x y v u Q I rx ry q hs
 ·exact h' value slice pins s σ H x y v u Q I rx ry q hs
theorem iL.or{id:String}{r r':V->List V->Hp->VK->Prop}(h:iL X id r)(h':iL X id r'):iL X id (fun x xs H Q=>r x xs H Q\/r' x xs H Q):=by
 intro pins s σ H x xs v us Q I rx rs q;rcases q with q|q
 ·exact h pins s σ H x xs v us Q I rx rs q
 ·exact h' pins s σ H x xs v us Q I rx rs q
theorem sw{r:R2}(hr:jT X r)(ha:PE X a ta)(hb:PE X b tb)(hs:QU b):PE X (.Subscript a b pos) (m7 r ta tb):=by
 walk_at "ae";exact Subscript_ (zN ha hb I h fun v u s2 x y H2 I2 rx ry q=>hr a b pins s2 σ H2 x y v u Q I2 rx ry q (hs _ _))
def QV(K:ax):R2:=fun x y H Q=>∃p xs i v,x=.ref p/\y=.int i/\bV K H p xs/\cR xs i=some v/\Q v H
def QW(K:ax):R2:=fun x y H Q=>∃p xs i v,x=.ref p/\y=.int i/\dH K H p xs/\cR xs i=some v/\Q v H
def z0:R2:=fun x y H Q=>∃z i c,x=.str z/\y=.int i/\z.length<=bE/\cR z.cps.toList i=some c/\Q (.str ⟨#[c]⟩) H
theorem qB:jT X (QV X.K):=by
 intro value slice pins s σ H x y v u Q I rx ry h hs;obtain⟨p,xs,i,z,rfl,rfl,hq,he,q⟩:=h;cases rx;obtain⟨t,rfl⟩:=ry;obtain⟨its,r,pl,hz⟩:=I.list hq;obtain⟨j,h1,h2,h3,h4,h5⟩:=zZ he;obtain⟨w,ew,rw'⟩:=r.get h2;have hl:=r.length;have hn:=pd;have fin:EP X pins σ Q w s:=⟨z,H,I,rw',q⟩;by_cases h0:0<=i
 ·have hj:i.toNat=j:=by
   rw[seqIndex_of h0 h5]at h1;exact fz h1
  exact item_listR pl.isList h0 (by lia) (by rw[hj];simpa using ew) fin hs
 ·have hj:(i+(its.toArray.size:Int)).toNat=j:=by
   rw[seqIndex_neg (by lia) h4]at h1;rw[dO,<-hl];exact fz h1
  exact subscriptTail_builtinR (x:=w) pl.isList.typeIs slot_list_getitem.lookup
   (wpAny_getItem_list_neg (Q:=fun r s'=>r=w/\EP X pins σ Q r s') pl.isList (by lia) (by rw[dO]<;>lia) (by lia) (by rw[hj];simpa using ew) ⟨rfl,fin⟩) hs
theorem QX:jT X (QW X.K):=by
 intro value slice pins s σ H x y v u Q I rx ry h hs;obtain⟨p,xs,i,z,rfl,rfl,hq,he,q⟩:=h;cases rx;obtain⟨t,rfl⟩:=ry;obtain⟨its,r,pl,hz⟩:=I.tuple hq;obtain⟨j,h1,h2,h3,h4,h5⟩:=zZ he;obtain⟨w,ew,rw'⟩:=r.get h2;have hl:=r.length;have hn:=pd;have fin:EP X pins σ Q w s:=⟨z,H,I,rw',q⟩;exact subscriptTail_builtinR (x:=w) pl.typeIs slot_tuple_getitem.lookup
  (getItem_tuple (j:=j) (Q:=fun r s'=>r=w/\EP X pins σ Q r s') pl (by lia) (by lia) (by rw[dO,<-hl];exact h1) (by simpa using ew) ⟨rfl,fin⟩) hs
theorem QY:jT X z0:=by
 intro value slice pins s σ H x y v u Q I rx ry h hs;obtain⟨z,i,c,rfl,rfl,hz,he,q⟩:=h;walk_at "ar";obtain⟨t',rfl⟩:=ry;obtain⟨j,h1,h2,h3,h4,h5⟩:=zZ he;have hl:z.cps.toList.length=z.length:=by simp[af.length]
 rw[hl]at h1 h4 h5;have hn:=pd;exact tail_any (typeIs_str s z t) slot_str_getitem.lookup (getItem_str (c:=c) (by
  have e1:decide (i < -(2^63:Int))=false:=decide_eq_false (by lia);have e2:decide (i>=2^63)=false:=decide_eq_false (by lia);rw[e1,e2,CK]) (by rw[h1];simpa using h2) ⟨.str ⟨#[c]⟩,H,I.cV _,⟨_,rfl⟩,q⟩) hs
theorem QZ(its:List ag)(n j:Nat)(u:ag):yc (·.setIfInBounds j u) {cls:=.type "list",data:=.seq its.toArray n}={cls:=.type "list",data:=.seq (its.set j u).toArray n}:=by
 simp[yc]
theorem Inv.ai{pins:List (ae×a9)}{σ:St}{H:Hp}{s:ay}{p:ae}{xs:List V}(I:Inv X pins σ H s)(h:H p=some (.ai xs)):
  ∃(its:List ag)(n:Nat),bt xs its/\s.heap.get? p=some {cls:=.type "list",data:=.seq its.toArray n}/\xs.length<=sizeLine:=by
 obtain⟨z,its,n,r,e⟩:=I.aT p _ h;exact⟨its,n,r,e,z⟩
theorem Inv.Q1{pins:List (ae×a9)}{σ:St}{H:Hp}{s:ay}{p:ae}{xs ys:List V}{its its':List ag}{n n':Nat}{f:a9->a9}(I:Inv X pins σ H s)(h:H p=some (.ai xs))
(ho:s.heap.get? p=some {cls:=.type "list",data:=.seq its.toArray n})(hf:f {cls:=.type "list",data:=.seq its.toArray n}={cls:=.type "list",data:=.seq its'.toArray n'})(r:bt ys its')(hz:ys.length<=bE)(t:Nat):
  Inv X pins σ (aq H p (.ai ys)) {s with heap:=s.heap.update p f,toks:=t}:=by
 have e:(s.heap.update p f).get? p=some {cls:=.type "list",data:=.seq its'.toArray n'}:=by
  rw[uA f ho (by rw[hf]<;>rfl),hf]
 refine I.lZ (x:=p) (e:=p) (by rw[h];trivial) (.inl rfl) (fun b u hb q=>(uB _ _ (cM hb)).trans q) ⟨_,e⟩ ?_;exact⟨hz,its',n',r,e⟩
def z3:V->V->V->Hp->(Hp->Prop)->Prop:=fun o i v H Q=>∃p xs k j,o=.ref p/\i=.int k/\H p=some (.ai xs)/\ja xs.length k=some j/\Q (aq H p (.ai (xs.set j v)))
theorem z4:DX X z3:=by
 intro pins s σ H o i v ov iv u Q I ro ri rv h;obtain⟨p,xs,k,j,rfl,rfl,hp,hj,q⟩:=h;cases ro;obtain⟨t,rfl⟩:=ri;obtain⟨its,n,r,ho,hz⟩:=I.ai hp;obtain⟨h1,h2,h3,h4⟩:=En hj;have hl:=r.length;have hn:=pd;have I':Inv X pins σ (aq H p (.ai (xs.set j v))) {s with heap:=s.heap.update p (yc (·.setIfInBounds j u))}:=
  I.Q1 hp ho (QZ its n j u) (r.set rv j) (by rw[uC];exact hz) s.toks
 by_cases h0:0<=k
 ·have hk:k.toNat=j:=by
   rw[seqIndex_of h0 h4]at h1;exact fz h1
  exact PySem.W.ki_setAt ho h0 (by lia) (by rw[dO,<-hl];exact h4) (by rw[hk];exact⟨_,I',q⟩)
 ·have hk:(k+(its.toArray.size:Int)).toNat=j:=by
   rw[seqIndex_neg (by lia) h3]at h1;rw[dO,<-hl];exact fz h1
  exact PySem.W.ki_setBack ho (by lia) (by rw[dO,<-hl];exact h3) (by lia) (by rw[hk];exact⟨_,I',q⟩)
theorem Q2(lo hi:Option Int)(n:Nat):(sliceBounds lo hi none n).1=((HT.cJ n 0 lo:Nat):Int)/\(sliceBounds lo hi none n).2.1=((HT.cJ n n hi:Nat):Int)/\(sliceBounds lo hi none n).2.2=1:=by
 refine⟨?_,?_,rfl⟩
 ·cases lo with
  |none=>simp[sliceBounds,HT.cJ]
  |some i=>
   simp only[sliceBounds,HT.cJ,Option.getD_none,show(1:Int)>0 by decide,if_true];by_cases h:i<0
   ·simp only[h,if_true]<;>lia
   ·simp only[h,if_false]<;>lia
 ·cases hi with
  |none=>simp[sliceBounds,HT.cJ]
  |some i=>
   simp only[sliceBounds,HT.cJ,Option.getD_none,show(1:Int)>0 by decide,if_true];by_cases h:i<0
   ·simp only[h,if_true]<;>lia
   ·simp only[h,if_false]<;>lia
theorem Q3(its:List ag)(lo hi:Option Int):slicePick its.toArray lo hi none=((its.drop (HT.cJ its.length 0 lo)).take (HT.cJ its.length its.length hi-HT.cJ its.length 0 lo)).toArray:=by
 obtain⟨h1,h2,h3⟩:=Q2 lo hi its.toArray.size;unfold slicePick;rw[h1,h2,h3];simp only[sliceRange_one,pick_run,dO]<;>rfl
def Q4(K:ax):V->Option Int->Option Int->Hp->VK->Prop:=fun x lo hi H Q=>∃a xs,x=.ref a/\bV K H a xs/\∀p,H p=none->Q (.ref p) (aq H p (.ai (fN xs lo hi)))
theorem Eo:nD X (Q4 X.K):=by
 intro pins s σ H x v vl vu lo hi sl Q I rx hs pl pu h;obtain⟨a,xs,rfl,hx,q⟩:=h;cases rx;obtain⟨its,r,ht,hz⟩:=I.list hx;have hlen:=r.length;refine⟨"list",_,slot_list_getitem.lookup,ht.isList.typeIs,?_⟩;refine wpAny_getItem_list_slice ht.isList hs pl pu .none (by simp) ?_ (by rw[dO]<;>lia);rw[Q3,<-hlen];refine⟨.ref s.heap.objs.size,_,I.gN (t':=s.toks) (o:=.ai (fN xs lo hi)) (fun b ob q=>eP _ q) (bY _) ?_,rfl,q _ (I.aT.fresh (bY _))⟩;exact⟨dM (QT xs lo hi) hz,_,0,(r.drop (HT.cJ xs.length 0 lo)).take (HT.cJ xs.length xs.length hi-HT.cJ xs.length 0 lo),iS _ rfl⟩
def nE:V->Bool
 | .aO=>true
 | .bl _=>true
 | .int _=>true
 | .str _=>true
 |_=>false
def nF:V->V->Bool
 | .aO,.aO=>true
 | .bl a,.bl b=>a==b
 | .bl a,.int b=>(if a then 1 else 0)==b
 | .int a,.bl b=>a==(if b then 1 else 0)
 | .int a,.int b=>a==b
 | .str a,.str b=>a==b
 |_,_=>false
theorem Q5{A:cv}{s:ay}{y x:V}{u v:ag}(ry:RelV y u)(rx:RelV x v)(fy:nE y=true)(fx:nE x=true):OB A s u v (nF y x):=by
 cases y with
 |aO=>
  cases ry;cases x with
  |aO=>cases rx;exact abj _
  |bl b=>cases rx;exact OB.none_bool b
  |int b=>obtain⟨t,rfl⟩:=rx;exact OB.none_int b t
  |str b=>obtain⟨t,rfl⟩:=rx;exact OB.none_str b t
  |_=>exact absurd (show false=true from fx) fQ
 |bl a=>
  cases ry;cases x with
  |aO=>cases rx;exact OB.bool_none a
  |bl b=>cases rx;exact OB.bool_bool a b
  |int b=>obtain⟨t,rfl⟩:=rx;exact OB.bool_int a b t
  |str b=>obtain⟨t,rfl⟩:=rx;exact OB.bool_str a b t
  |_=>exact absurd (show false=true from fx) fQ
 |int a=>
  obtain⟨t',rfl⟩:=ry;cases x with
  |aO=>cases rx;exact OB.int_none a t'
  |bl b=>cases rx;exact OB.int_bool a t' b
  |int b=>obtain⟨t,rfl⟩:=rx;exact OB.int_int a t' b t
  |str b=>obtain⟨t,rfl⟩:=rx;exact aa6 a t' b t
  |_=>exact absurd (show false=true from fx) fQ
 |str a=>
  obtain⟨t',rfl⟩:=ry;cases x with
  |aO=>cases rx;exact OB.str_none a t'
  |bl b=>cases rx;exact OB.str_bool a t' b
  |int b=>obtain⟨t,rfl⟩:=rx;exact aa7 a t' b t
  |str b=>obtain⟨t,rfl⟩:=rx;exact OC a t' b t
  |_=>exact absurd (show false=true from fx) fQ
 |_=>exact absurd (show false=true from fy) fQ
def iM(x:V)(u:ag):Bool:=match u with
 | .none=>nF .aO x
 | .bool b=>nF (.bl b) x
 | .int i _=>nF (.int i) x
 | .str z _=>nF (.str z) x
 |_=>false
theorem Ep{x y:V}{u:ag}(r:RelV y u)(f:nE y=true):iM x u=nF y x:=by
 cases y with
 |aO=>cases r;rfl
 |bl b=>cases r;rfl
 |int i=>obtain⟨t,rfl⟩:=r;rfl
 |str z=>obtain⟨t,rfl⟩:=r;rfl
 |_=>exact absurd (show false=true from f) fQ
theorem sV{x:V}:∀{xs:List V}{us:List ag},bt xs us->xs.all nE=true->us.any (iM x)=xs.any fun y=>nF y x
 |_,_,.nil,_=>rfl
 |y::xs,u::us,.cons r t,f=>by
  rw[List.all_cons,lM]at f;rw[iV,iV,Ep r f.1,sV t f.2]
theorem sW{A:cv}{s:ay}{x:V}{v:ag}(rx:RelV x v)(fx:nE x=true):∀{xs:List V}{us:List ag},bt xs us->xs.all nE=true->∀u∈us,OB A s u v (iM x u)
 |_,_,.nil,_=>fun u hu=>by cases hu
 |y::xs,u::us,.cons r t,f=>fun u' hu=>by
  rw[List.all_cons,lM]at f;rcases br.mp hu with rfl|hu
  ·rw[Ep r f.1];exact Q5 r rx f.1 fx
  ·exact sW rx fx t f.2 u' hu
def lq(x:V)(xs:List V):Bool:=xs.any fun y=>nF y x
def vI(K:ax)(neg:Bool):R2:=fun x y H Q=>∃p xs,y=.ref p/\(bV K H p xs\/dH K H p xs)/\nE x=true/\xs.all nE=true/\Q (.bl (if neg then !lq x xs else lq x xs)) H
theorem Es:cQ X (fA .In) (vI X.K false):=by
 walk_at "al";obtain⟨p,xs,rfl,hq,fx,fs,q⟩:=h;cases ry;rcases hq with hq|hq
 ·obtain⟨its,r,pl,hz⟩:=I.list hq;refine SeqAt.in_listAt (iM x) pl.isList (fun w hw=>sW rx fx r fs w (by simpa using hw)) ⟨.bl _,H,I,rfl,?_⟩;rw[show its.toArray.any (iM x)=its.any (iM x)by simp,sV r fs];exact q
 ·obtain⟨its,r,pl,hz⟩:=I.tuple hq;refine SeqAt.in_tupleAt (iM x) pl (fun w hw=>sW rx fx r fs w (by simpa using hw)) ⟨.bl _,H,I,rfl,?_⟩;rw[show its.toArray.any (iM x)=its.any (iM x)by simp,sV r fs];exact q
theorem Et:cQ X (fA .NotIn) (vI X.K true):=by
 walk_at "al";obtain⟨p,xs,rfl,hq,fx,fs,q⟩:=h;cases ry;rcases hq with hq|hq
 ·obtain⟨its,r,pl,hz⟩:=I.list hq;refine SeqAt.notIn_listAt (iM x) pl.isList (fun w hw=>sW rx fx r fs w (by simpa using hw)) ⟨.bl _,H,I,rfl,?_⟩;rw[show its.toArray.any (iM x)=its.any (iM x)by simp,sV r fs];exact q
 ·obtain⟨its,r,pl,hz⟩:=I.tuple hq;refine abk (iM x) pl (fun w hw=>sW rx fx r fs w (by simpa using hw)) ⟨.bl _,H,I,rfl,?_⟩;rw[show its.toArray.any (iM x)=its.any (iM x)by simp,sV r fs];exact q
theorem z5:fE X (.builtin "len") (fun xs H Q=>∃p ys,xs=[.ref p]/\(bV X.K H p ys\/dH X.K H p ys)/\Q (.int ys.length) H):=by
 intro pins s σ H xs us Q I r h;obtain⟨p,ys,rfl,hq,q⟩:=h;obtain⟨u,rfl,rx⟩:=nr r;cases rx;have hn:=pd;rcases hq with hq|hq
 ·obtain⟨its,r',pl,hz⟩:=I.list hq;have hlen:=r'.length;exact Calls.call_len_list pl.isList (by simp only[dO]<;>lia) ⟨.int ys.length,H,I.cV _,⟨s.toks+1,by rw[dO,hlen]⟩,q⟩
 ·obtain⟨its,r',pl,hz⟩:=I.tuple hq;have hlen:=r'.length;exact len_tuple pl (by simp only[dO]<;>lia) ⟨.int ys.length,H,I.cV _,⟨s.toks+1,by rw[dO,hlen]⟩,q⟩
theorem z6:fE X (.builtin "len") (fun xs H Q=>∃z,xs=[.str z]/\z.length<=bE/\Q (.int z.length) H):=by
 intro pins s σ H xs us Q I r h;obtain⟨z,rfl,hz,q⟩:=h;obtain⟨u,rfl,t,rfl⟩:=nr r;have hn:=pd;exact len_str (by lia) ⟨.int z.length,H,I.cV _,⟨_,rfl⟩,q⟩
theorem fE.or{f:ag}{r r':List V->Hp->VK->Prop}(h:fE X f r)(h':fE X f r'):fE X f (fun xs H Q=>r xs H Q\/r' xs H Q):=by
 intro pins s σ H xs us Q I rs q;rcases q with q|q
 ·exact h pins s σ H xs us Q I rs q
 ·exact h' pins s σ H xs us Q I rs q
theorem z7:fE X (.type "list") (fun xs H Q=>∃p ys,xs=[.ref p]/\(bV X.K H p ys\/dH X.K H p ys)/\∀l,H l=none->Q (.ref l) (aq H l (.ai ys))):=by
 intro pins s σ H xs us Q I r h;obtain⟨p,ys,rfl,hq,q⟩:=h;obtain⟨u,rfl,rx⟩:=nr r;cases rx;have fin:∀(its:List ag),bt ys its->ys.length<=bE->∀(h':Heap)(c':Nat),(∀b o',s.heap.get? b=some o'->h'.get? b=some o')->
   h'.get? s.heap.objs.size=some {cls:=.type "list",dict:=none,data:=.seq its.toArray c',slots:=#[]}->EP X pins σ Q (.ref s.heap.objs.size) {s with heap:=h'}:=fun its r' hz h' c' kp e=>
  ⟨.ref s.heap.objs.size,_,I.gN (t':=s.toks) kp (bY _) (show dP X.prog X.w _ h' _ (.ai ys)from⟨hz,its,c',r',e⟩),rfl,q _ (I.aT.fresh (bY _))⟩
 rcases hq with hq|hq
 ·obtain⟨its,r',pl,hz⟩:=I.list hq;have hlen:=r'.length;obtain⟨o,ho,hc,n,hd⟩:=pl.isList;exact call_list_seq p (.inl rfl) ho hc hd (fun h' c' kp e=>fin its r' hz h' c' kp e) (by simp only[dO]<;>lia)
 ·obtain⟨its,r',pl,hz⟩:=I.tuple hq;have hlen:=r'.length;obtain⟨o,ho,hc,n,hd⟩:=pl;exact call_list_seq p (.inr rfl) ho hc hd (fun h' c' kp e=>fin its r' hz h' c' kp e) (by simp only[dO]<;>lia)
theorem Eu:fE X (.type "tuple") (fun xs H Q=>∃p ys,xs=[.ref p]/\((bV X.K H p ys/\∀l,H l=none->Q (.ref l) (aq H l (.aj ys)))\/(dH X.K H p ys/\Q (.ref p) H))):=by
 intro pins s σ H xs us Q I r h;obtain⟨p,ys,rfl,h⟩:=h;obtain⟨u,rfl,rx⟩:=nr r;cases rx;rcases h with⟨hq,q⟩|⟨hq,q⟩
 ·obtain⟨its,r',pl,hz⟩:=I.list hq;have hlen:=r'.length;refine call_tuple_list pl.isList (fun h' kp=>?_) (by simp only[dO]<;>lia);have I1:Inv X pins σ H {s with heap:=h'}:=I.kept (t':=s.toks) kp;have I2:Inv X pins σ (aq H h'.objs.size (.aj ys)) {s with heap:=h'.push {cls:=.type "tuple",data:=.seq its.toArray}}:=
   I1.gN (t':=s.toks) (fun b o e=>eP _ e) (bY _) (show dP X.prog X.w _ _ _ (.aj ys)from⟨hz,its,r',IsTup.new _ _⟩)
  exact⟨.ref h'.objs.size,_,I2,rfl,q _ (I1.aT.fresh (bY _))⟩
 ·obtain⟨its,r',pl,hz⟩:=I.tuple hq;exact call_tuple_same pl ⟨.ref p,H,I,rfl,q⟩
def qr(K:ax)(T:String)(x:V)(H:Hp):Prop:=match x with
 | .str _=>T="str"
 | .int _=>T="int"
 | .ref p=>(T="list"/\∃xs,bV K H p xs)\/(T="tuple"/\∃o,K.lookup p=some o/\o.cls=.type "tuple"/\o.dict=none)\/
   (T="dict"/\((∃kvs,H p=some (.dK kvs))\/∃kvs,H p=some (.dT kvs)))\/(T="set"/\∃S n,H p=some (.set S n))
 |_=>False
theorem Ew{pins:List (ae×a9)}{σ:St}{H:Hp}{s:ay}{T:String}{x:V}{v:ag}(I:Inv X pins σ H s)(r:RelV x v)(ty:qr X.K T x H):
  s.TypeIs v T/\∀a,v=.ref a->∃ob,s.heap.get? a=some ob/\ob.dict=none:=by
 cases x with
 |str z=>
  obtain⟨t,rfl⟩:=r;cases(show T="str" from ty);exact⟨typeIs_str s z t,fun _ e=>nomatch e⟩
 |int i=>
  obtain⟨t,rfl⟩:=r;cases(show T="int" from ty);exact⟨typeIs_int s i t,fun _ e=>nomatch e⟩
 |ref p=>
  cases r;rcases ty with⟨rfl,xs,hq⟩|⟨rfl,o,hk,hc,hd⟩|⟨rfl,hk⟩|⟨rfl,S,n,hk⟩
  ·obtain⟨its,_,pl,_⟩:=I.list hq;refine⟨pl.isList.typeIs,fun a e=>?_⟩;cases e;obtain⟨o,n,e,c,hd,_⟩:=pl;exact⟨o,e,hd⟩
  ·refine⟨⟨o,I.c8 p o hk,hc⟩,fun a e=>?_⟩;cases e;exact⟨o,I.c8 _ o hk,hd⟩
  ·have z:∃o,s.heap.get? p=some o/\o.ExactDict:=by
    rcases hk with⟨kvs,hk⟩|⟨kvs,hk⟩
    ·obtain⟨_,_,_,_,o,_,_,e,ex,_⟩:=I.aT p _ hk;exact⟨o,e,ex⟩
    ·obtain⟨_,_,_,_,o,_,_,e,ex,_⟩:=I.aT p _ hk;exact⟨o,e,ex⟩
   obtain⟨o,e,ex⟩:=z;refine⟨⟨o,e,ex.1⟩,fun a e2=>?_⟩;cases e2;exact⟨o,e,ex.2.1⟩
  ·obtain⟨o,_,_,_,e,ex,_⟩:=I.aT p _ hk;refine⟨⟨o,e,ex.1⟩,fun a e2=>?_⟩;cases e2;exact⟨o,e,ex.2.1⟩
 |_=>exact fc ty
def qg(K:ax)(T:String)(r:V->List V->Hp->VK->Prop)(to:TE):TE:=fun σ H Q=>to σ H fun x H1=>qr K T x H1/\r x [] H1 Q
def sC(K:ax)(T:String)(r:V->List V->Hp->VK->Prop)(to:TE)(t:TA):TE:=fun σ H Q=>to σ H fun x H1=>qr K T x H1/\t σ H1 fun xs H2=>r x xs H2 Q
variable{o e:bq}{es:List bq}{to:TE}{t:TA}{name:af}{apos cpos:cx}{T id:String}{r:V->List V->Hp->VK->Prop}
theorem iA(pa:PlainAttrs T)(slot:Slot T name id)(hty:typeOf (.builtin id)=pure (.type "method_descriptor"))(hm:iL X id r)(ho:PE X o to)
(hbase:km o name X.ah (eval o X.ah)=eval o X.ah:=by rfl)(hline:(apos.endLine==cpos.line)=true:=by rfl):PE X (.Call (.Attribute o name apos) [] [] cpos) (qg X.K T r to):=by
 walk_at "ae";refine wpAny_Call_method0_late hbase hline (a0 (ho pins s σ H _ I h) fun v s1 qq=>?_);obtain⟨x,H1,I1,r1,ty,q1⟩:=qq;obtain⟨h1,h2⟩:=Ew I1 r1 ty;exact⟨T,id,pa,slot,hty,h1,h2,yd rfl (abl (hm pins s1 σ H1 x [] v [] Q I1 r1 .nil q1))⟩
theorem m5(pa:PlainAttrs T)(slot:Slot T name id)(hty:typeOf (.builtin id)=pure (.type "method_descriptor"))(hm:iL X id r)(ho:PE X o to)(ha:PA X (e::es) t)
(hbase:km o name X.ah (eval o X.ah)=eval o X.ah:=by rfl)
(hfew:((dU cpos (b8 (e::es) X.ah)).all (fun x=> !x.1)&&(backToKw cpos (jr [] X.ah)).all (fun x=>x.1.isSome)
   &&decide ((e::es).length+([]:List rN).length+(if([]:List rN).isEmpty then 0 else 1)<30))=true:=by rfl)
(hline:(apos.endLine==cpos.line)=true:=by rfl)(hs:b8 (e::es) X.ah=(false,eval e X.ah)::b8 es X.ah:=by rfl)(hplain:(dU cpos (b8 es X.ah)).any (·.1)=false:=by rfl):
  PE X (.Call (.Attribute o name apos) (e::es) [] cpos) (sC X.K T r to t):=by
 walk_at "ae";refine wpAny_Call_method_late hbase hfew hline rfl (a0 (ho pins s σ H _ I h) fun v s1 qq=>?_);obtain⟨x,H1,I1,r1,ty,q1⟩:=qq;obtain⟨h1,h2⟩:=Ew I1 r1 ty;refine⟨T,id,pa,slot,hty,h1,h2,?_⟩;have hA:=ha cpos pins s1 σ H1 _ I1 q1;rw[hs]at hA ⊢;refine yd (by show(false || (dU cpos (b8 es X.ah)).any (·.1))=false;rw[hplain]<;>rfl) (OD ?_);exact a0 hA fun us s2 ⟨vs,H2,I2,r2,q2⟩=>hm pins s2 σ H2 x vs v us Q I2 r1 r2 q2
end
end L2
namespace L2
open PySem PySem.Spec PyProof.Rows
def qC(X:Cx)(id:String)(r:V->List V->Hp->VK->Prop):Prop:=
 ∀(pins:List (ae×a9))(s:ay)(σ:St)(H:Hp)(x:V)(xs:List V)(v:ag)(us:List ag)(Q:VK),Inv X pins σ H s->RelV x v->bt xs us->r x xs H Q->
  aW (aU X.prog X.w) X.A (call (.builtin id) (v::us)) (EP X pins σ Q) X.xe s
theorem bt.nG{x:V}{us:List ag}(h:bt [x] us):∃u,us=[u]/\RelV x u:=by
 cases h with
 |cons r t=>cases t;exact⟨_,rfl,r⟩
theorem bt.two{x y:V}{us:List ag}(h:bt [x,y] us):∃u v,us=[u,v]/\RelV x u/\RelV y v:=by
 cases h with
 |cons r t=>
  obtain⟨v,rfl,q⟩:=bt.nG t;exact⟨_,v,rfl,r,q⟩
theorem bt.zero:∀{us:List ag},bt [] us->us=[]
 |_,.nil=>rfl
theorem bt.dropLast{xs:List V}{us:List ag}(h:bt xs us):bt xs.dropLast us.dropLast:=by
 induction h with
 |nil=>exact .nil
 |cons r t ih=>
  cases t with
  |nil=>exact .nil
  |cons q t'=>exact .cons r ih
theorem bt.eraseIdx:∀{xs:List V}{us:List ag}(i:Nat),bt xs us->bt (xs.eraseIdx i) (us.eraseIdx i)
 |_,_,_,.nil=>.nil
 |_,_,0,.cons _ t=>t
 |_,_,i+1,.cons r t=>.cons r (bt.eraseIdx i t)
theorem bt.reverse{xs:List V}{us:List ag}(h:bt xs us):bt xs.reverse us.reverse:=by
 induction h with
 |nil=>exact .nil
 |cons r t ih=>rw[kn,kn];exact bt.append ih (.cons r .nil)
theorem bt.sX{xs:List V}{us:List ag}(h:bt xs us):∀k:Nat,bt (dN k xs).flatten (dN k us).flatten
 |0=>.nil
 |k+1=>by
  rw[uD,uD,ye,ye];exact bt.append h (bt.sX h k)
theorem Q6{α:Type}(l:List α):l.eraseIdx (l.length-1)=l.dropLast:=by
 induction l with
 |nil=>rfl
 |cons a r ih=>
  cases r with
  |nil=>rfl
  |cons b r=>
   have e:(a::b::r).length-1=((b::r).length-1)+1:=by
    have h1:(a::b::r).length=r.length+2:=rfl;have h2:(b::r).length=r.length+1:=rfl
    lia
   rw[e,List.eraseIdx_cons_succ,ih];all_goals rfl
theorem Ex{α:Type}:∀(l:List α)(i:Nat),(l.eraseIdx i).length<=l.length
 |[],_=>bY _
 |_::_,0=>ya _
 |_::r,i+1=>OE (Ex r i)
theorem Ey(its:List ag):∀(k:Nat)(acc:List ag),
  yf (fun x1 x2=>x1++x2) acc.toArray (dN k its.toArray)=(acc++(dN k its).flatten).toArray
 |0,acc=>by simp
 |k+1,acc=>by
  have e:acc.toArray++its.toArray=(acc++its).toArray:=by simp
  have e2:(acc++its)++(dN k its).flatten=acc++(dN (k+1) its).flatten:=by
   rw[uD,ye,ir]
  rw[<-e2,<-Ey its k (acc++its),<-e,uD,rP]
section
variable{X:Cx}{pins:List (ae×a9)}{σ:St}{H:Hp}{s:ay}{l b:ae}{xs ys zs:List V}
theorem Inv.sY{its its':List ag}{n:Nat}{f:Array ag->Array ag}{t':Nat}(I:Inv X pins σ H s)(hH:H l=some (.ai xs))
(e:s.heap.get? l=some {cls:=.type "list",data:=.seq its.toArray n})(hf:f its.toArray=its'.toArray)(hv:bt ys its')(hz:ys.length<=bE):
  Inv X pins σ (aq H l (.ai ys)) {s with heap:=s.heap.update l (yc f),toks:=t'}:=by
 have q:=PySem.IsL.update e f;rw[hf]at q;refine I.lZ (x:=l) (e:=l) (by rw[hH];exact trivial) (.inl rfl) (fun b' u hb hu=>(uB s.heap (yc f) (cM hb)).trans hu) ⟨_,q⟩ ?_;exact⟨hz,its',_,hv,q⟩
theorem Inv.Ez{its:List ag}{t':Nat}(I:Inv X pins σ H s)(hv:bt ys its)(hz:ys.length<=bE):
  Inv X pins σ (aq H s.heap.objs.size (.ai ys)) {s with heap:=s.heap.push {cls:=.type "list",data:=.seq its.toArray},toks:=t'}:=
 I.gN (fun _ _ q=>eP _ q) (bY _) ⟨hz,its,0,hv,iS _ rfl⟩
theorem Inv.fresh(I:Inv X pins σ H s):H s.heap.objs.size=none:=I.aT.fresh (bY _)
theorem Inv.l9(I:Inv X pins σ H s)(hH:H l=some (.ai xs)):xs.length<=bE/\∃(its:List ag)(n:Nat),bt xs its/\xs.length=its.length/\s.heap.get? l=some {cls:=.type "list",data:=.seq its.toArray n}:=by
 obtain⟨z,its,n,r,e⟩:=I.aT l _ hH;exact⟨z,its,n,r,r.length,e⟩
theorem EA{n:Nat}(h:n<=bE):CL n=false:=by
 unfold CL;exact decide_eq_false (by lia)
end
section
variable{X:Cx}
def uY:V->List V->Hp->VK->Prop:=fun x vs H Q=>∃l xs y,x=.ref l/\vs=[y]/\H l=some (.ai xs)/\xs.length<bE/\Q .aO (aq H l (.ai (xs++[y])))
theorem z8:qC X "list.append" uY:=by
 intro pins s σ H x vs v us Q I rx rv h;obtain⟨l,xs,y,rfl,rfl,hH,hz,q⟩:=h;cases rx;obtain⟨u,rfl,ru⟩:=rv.nG;obtain⟨z,its,n,r,hl,e⟩:=I.l9 hH;refine call_meets F.slot_list_append ⟨_,e,rfl⟩ F.entry_list_append (F.args_list_append_2 _ _) (PySem.list_append l its.toArray n u (by rw[dO];omega)) ⟨e,?_⟩;refine⟨.aO,_,I.sY (its':=its++[u]) hH e (by simp) (r.append (.cons ru .nil)) ?_,rfl,q⟩;rw[eQ,List.length_singleton];omega
def sD:V->List V->Hp->VK->Prop:=fun x vs H Q=>∃l b xs zs,x=.ref l/\vs=[.ref b]/\H l=some (.ai xs)/\H b=some (.ai zs)/\xs.length+zs.length<=bE/\Q .aO (aq H l (.ai (xs++zs)))
theorem z9:qC X "list.extend" sD:=by
 intro pins s σ H x vs v us Q I rx rv h;obtain⟨l,b,xs,zs,rfl,rfl,hH,hB,hz,q⟩:=h;cases rx;obtain⟨u,rfl,ru⟩:=rv.nG;cases ru;obtain⟨z,its,n,r,hl,e⟩:=I.l9 hH;obtain⟨z2,its2,n2,r2,hl2,e2⟩:=I.l9 hB;have hsz:its.toArray.size+its2.toArray.size<=sizeLine:=by rw[dO,dO];lia
 have hlong:¬(!its.toArray.isEmpty&&CL (its.toArray.size+its2.toArray.size))=true:=by
  rw[EA hsz,Bool.and_false];exact fQ
 refine call_meets F.slot_list_extend ⟨_,e,rfl⟩ F.entry_list_extend (F.args_list_extend_2 _ _)
  (AutoSeq1.list_extend_list_list_0 l its.toArray n b its2.toArray n2 hlong (by rw[dO];lia) (by lia)) ⟨e,e2,?_⟩
 refine⟨.aO,_,I.sY (its':=its++its2) hH e (by simp) (r.append r2) ?_,rfl,q⟩;rw[eQ]
 lia
def yY:V->List V->Hp->VK->Prop:=fun x vs H Q=>∃l xs y,x=.ref l/\vs=[]/\H l=some (.ai xs)/\xs[xs.length-1]? =some y/\Q y (aq H l (.ai xs.dropLast))
theorem jb:qC X "list.pop" yY:=by
 intro pins s σ H x vs v us Q I rx rv h;obtain⟨l,xs,y,rfl,rfl,hH,hy,q⟩:=h;cases rx;have hus:=rv.zero;subst hus;obtain⟨z,its,n,r,hl,e⟩:=I.l9 hH;obtain⟨u,hu,ru⟩:=r.get hy;have hy':its.toArray[its.toArray.size-1]? =some u:=by
  show its.toArray[its.length-1]? =some u
  rw[<-abm,<-hl];exact hu
 refine call_meets F.slot_list_pop ⟨_,e,rfl⟩ F.entry_list_pop (F.args_list_pop_1 _) (MeetsSeq.list_pop_last l its.toArray n u hy' (by rw[dO];omega)) ⟨e,?_⟩;refine⟨y,_,I.sY (its':=its.dropLast) hH e ?_ r.dropLast ?_,ru,q⟩
 ·show its.toArray.eraseIdxIfInBounds (its.toArray.size-1)=its.dropLast.toArray;rw[dO,abn,Q6]
 ·rw[List.length_dropLast];omega
def yZ:V->List V->Hp->VK->Prop:=fun x vs H Q=>∃l xs i k y,x=.ref l/\vs=[.int i]/\H l=some (.ai xs)/\ -(2^63)<=i/\i<2^63/\seqIndex? i xs.length=some k/\xs[k]? =some y/\Q y (aq H l (.ai (xs.eraseIdx k)))
theorem Q7:qC X "list.pop" yZ:=by
 intro pins s σ H x vs v us Q I rx rv h;obtain⟨l,xs,i,k,y,rfl,rfl,hH,h1,h2,hk,hy,q⟩:=h;cases rx;obtain⟨u,rfl,ru⟩:=rv.nG;obtain⟨t,rfl⟩:=ru;obtain⟨z,its,n,r,hl,e⟩:=I.l9 hH;obtain⟨w,hw,rw'⟩:=r.get hy;refine call_meets F.slot_list_pop ⟨_,e,rfl⟩ F.entry_list_pop (F.args_list_pop_2 _ _)
  (MeetsSeq.list_pop_at l its.toArray n i t k w (fitsIndex_both h1 h2) (by rw[dO,<-hl];exact hk) (by rw[<-abm];exact hw) (by rw[dO];lia)) ⟨e,?_⟩
 refine⟨y,_,I.sY (its':=its.eraseIdx k) hH e ?_ (r.eraseIdx k) ?_,rw',q⟩
 ·show its.toArray.eraseIdxIfInBounds k=(its.eraseIdx k).toArray;rw[abn]
 ·have:=Ex xs k
  lia
def qh:V->List V->Hp->VK->Prop:=fun x vs H Q=>∃l xs,x=.ref l/\vs=[]/\H l=some (.ai xs)/\Q .aO (aq H l (.ai []))
theorem EB:qC X "list.clear" qh:=by
 intro pins s σ H x vs v us Q I rx rv h;obtain⟨l,xs,rfl,rfl,hH,q⟩:=h;cases rx;have hus:=rv.zero;subst hus;obtain⟨z,its,n,r,hl,e⟩:=I.l9 hH;refine call_meets F.slot_list_clear ⟨_,e,rfl⟩ F.entry_list_clear (F.args_list_clear_1 _) (AutoSeq1.list_clear_list_0 l its.toArray n (by rw[dO];lia)) ⟨e,?_⟩;exact⟨.aO,_,I.sY (its':=[]) (ys:=[]) hH e rfl .nil (cI _),rfl,q⟩
def zj:R2:=fun x y H Q=>∃l b xs zs,x=.ref l/\y=.ref b/\H l=some (.ai xs)/\H b=some (.ai zs)/\xs.length+zs.length<=bE/\∀p,H p=none->Q (.ref p) (aq H p (.ai (xs++zs)))
theorem vJ:cQ X (gy .Add) zj:=by
 walk_at "al";obtain⟨l,b,xs,zs,rfl,rfl,hH,hB,hz,q⟩:=h;cases rx;cases ry;obtain⟨z,its,n,r,hl,e⟩:=I.l9 hH;obtain⟨z2,its2,n2,r2,hl2,e2⟩:=I.l9 hB;refine PySem.P.add_list e e2 ?_ (by rw[dO,dO];lia);have ea:its.toArray++its2.toArray=(its++its2).toArray:=by simp
 rw[ea];exact⟨.ref _,_,I.Ez (t':=s.toks) (r.append r2) (by rw[eQ];lia),rfl,q _ I.fresh⟩
def s0:R2:=fun x y H Q=>∃l k xs,x=.ref l/\y=.int k/\H l=some (.ai xs)/\ -(2^63)<=k/\k<2^63/\xs.length*k.toNat<=bE/\
 ∀p,H p=none->Q (.ref p) (aq H p (.ai (dN k.toNat xs).flatten))
theorem Q8{α:Type}(xs:List α)(k:Nat):(dN k xs).flatten.length=k*xs.length:=by
 induction k with
 |zero=>simp
 |succ k ih=>rw[uD,ye,eQ,ih,Nat.succ_mul,Nat.add_comm]
theorem Q9:cQ X (gy .Mult) s0:=by
 walk_at "al";obtain⟨l,k,xs,rfl,rfl,hH,h1,h2,hz,q⟩:=h;cases rx;obtain⟨t,rfl⟩:=ry;obtain⟨z,its,n,r,hl,e⟩:=I.l9 hH;have hlen:its.toArray.size*k.toNat<=sizeLine:=by rw[dO,<-hl];exact hz
 have hcap:¬its.toArray.size*k.toNat>(2^63-1) / 8:=by
  have:(bE:Nat)<=(2^63-1) / 8:=by decide
  lia
 have hfit:¬(!Builtin.List.listFitsIndex k)=true:=by
  rw[fitsIndex_both h1 h2];exact fQ
 have hlong:¬CL (its.toArray.size*k.toNat)=true:=by
  rw[EA hlen];exact fQ
 have hnew:yf (fun x1 x2=>x1++x2) #[] (dN (if its.toArray.isEmpty=true then 0 else k.toNat) its.toArray)=(dN k.toNat its).flatten.toArray:=by
  have f0:∀m:Nat,yf (fun x1 x2=>x1++x2) #[] (dN m its.toArray)=(dN m its).flatten.toArray:=fun m=>by
   have:=Ey its m [];rw[N4]at this;exact this
  rw[f0];cases its with
  |nil=>simp
  |cons a r'=>rw[if_neg (by simp)]
 refine wpAny_binaryOp_repeat_ref (T:="list") (U:="int") (by decide) ⟨_,e,rfl⟩ (fun s'=>typeIs_int s' k t) noFill_list_mul F.fills_int_mul F.slot_int_rmul repeat_list F.slot_int_index.lookup
  (call_meets F.slot_int_rmul (typeIs_int s k t) F.entry_int_rmul (F.args_int_rmul_2 _ _) (int___rmul___int_list k t l its.toArray n)
   ⟨e,rfl,⟨_,e,rfl⟩,call_meets F.slot_list_mul ⟨_,e,rfl⟩ F.entry_list_mul (F.args_list_mul_2 _ _) (AutoListH.list___mul___list_int_3 l its.toArray n k t hfit hcap hlong) ⟨e,?_⟩⟩)
 rw[hnew];exact⟨.ref _,_,I.Ez (t':=s.toks) (r.sX k.toNat) (by rw[Q8,CM];exact hz),rfl,q _ I.fresh⟩
end
section
variable{prog:bv}{w:bf}{A:cv}{E:ag->ay->Prop}{s:ay}
set_option maxRecDepth 100000 in
end
section
variable{X:Cx}
end
end L2
namespace L2
open PySem PySem.Spec PyProof.Rows
theorem bt.EC:∀{bs:List Bool}{us:List ag},bt (bs.map V.bl) us->us=bs.map rH
 |[],us,h=>by
  rw[CD]at h;cases h;rfl
 |b::bs,us,h=>by
  rw[d6]at h;cases h with
  |cons r t=>
   cases r;rw[bt.EC t,d6]
theorem bt.Ra{a:ae}{us:List ag}(r:bt [V.ref a] us):us=[b7 a]:=by
 cases r with
 |cons r t=>
  cases t;cases r;rfl
section
variable{prog:bv}{w:bf}{A:cv}{E:ag->ay->Prop}{s:ay}{l:ae}{its:List ag}{ns:List Int}{Q:ag->ay->Prop}
end
section
variable{X:Cx}
end
section
variable{X:Cx}
end
section
variable{X:Cx}
end
theorem Rb{prog:bv}{w:bf}{A:cv}{E:ag->ay->Prop}{s:ay}{l:ae}{items:Array ag}{Q:ag->ay->Prop}(hl:s.heap.IsList l items)
(h:∀s₂:ay,s₂={s with heap:=s.heap.push {cls:=.type "list_iterator",data:=.fields #[.ref l,.int 0 0]}}->
   (s₂.heap.IsListIter s.heap.objs.size l 0/\s₂.heap.IsList l items)->l≠s.heap.objs.size->Q (.ref s.heap.objs.size) s₂):aW (aU prog w) A (pyIter (.ref l)) Q E s:=by
 have hlt:l<s.heap.objs.size:=by obtain⟨_,e,_⟩:=hl;exact cY e
 exact wpAny_pyIter_list hl (h _ rfl ⟨⟨_,iS _ rfl,rfl,rfl⟩,hl.push _⟩ (eX hlt))
theorem Rc{prog:bv}{w:bf}{A:cv}{bs:List Bool}{its:List ag}(e:its=bs.map rH):
  TruthOf prog w A (fun i v=>its.toArray[i]? =some v) (fun i=>bs.getD i false):=fun i v s Q E hv hq=>by
 have hv':its[i]? =some v:=by simpa using hv
 rw[e,dX]at hv';obtain⟨b,hb,rfl⟩:=jt.mp hv';have hg:bs.getD i false=b:=by rw[gJ,hb]<;>rfl
 have hq':Q (bs.getD i false) s:=hq;rw[hg]at hq';exact mX hq'
theorem ED:∀bs:List Bool,(rJ bs.length).any (fun i=>bs.getD i false)=bs.any id
 |[]=>rfl
 |b::bs=>by
  rw[aA,List.range_succ_eq_map,iV,yg,iV,<-ED bs];all_goals rfl
section
variable{X:Cx}
def Aa(K:ax):List V->Hp->VK->Prop:=fun vs H Q=>∃(a:ae)(bs:List Bool),vs=[V.ref a]/\bV K H a (bs.map V.bl)/\Q (.bl (bs.any id)) H
theorem Ab(hc:X.i8=true):fE X (.builtin "any") (Aa X.K):=by
 intro pins s σ H vs us Q I r h;obtain⟨a,bs,rfl,hs,q⟩:=h;obtain⟨its,rv,hl,_⟩:=I.list hs;rw[bt.Ra r];have hb:=rv.EC;refine call_any_walk (Rb hl.isList fun s₂ e2 st hne=>?_);subst e2;refine⟨_,_,_,_,_,_,_,rfl,Walks.list (A:=X.A.in1) (I.ok.hd hc) _ a hne its.toArray,st,Rc hb,fun h' tk hk=>?_⟩;refine⟨.bl _,H,I.kept fun b o eo=>hk b o (fun hmem=>?_) (eP _ eo),?_,q⟩
 ·rcases br.mp hmem with e1|hmem
  ·exact absurd (e1▸cY eo) (lJ _)
  ·cases hmem
 ·show rH _=rH _;rw[<-ED,hb,dO,bK]
end
mutual
inductive Dp(K:ax)(H:Hp):V->PyData->Prop
 |aO:Dp K H .aO .none
 |bl (b:Bool):Dp K H (.bl b) (.bool b)
 |int (i:Int):Dp K H (.int i) (.int i)
 |str (x:af):Dp K H (.str x) (.str x)
 |ai {a:ae} {xs:List V} {ds:List PyData}:bV K H a xs->tj K H xs ds->Dp K H (.ref a) (.list ds)
 |aj {a:ae} {xs:List V} {ds:List PyData}:dH K H a xs->tj K H xs ds->Dp K H (.ref a) (.tuple ds)
inductive tj(K:ax)(H:Hp):List V->List PyData->Prop
 |nil:tj K H [] []
 |cons {v:V} {vs:List V} {d:PyData} {ds:List PyData}:Dp K H v d->tj K H vs ds->tj K H (v::vs) (d::ds)
end
section
variable{X:Cx}{pins:List (ae×a9)}{σ:St}{H:Hp}{s:ay}
end
section
variable{X:Cx}
end
end L2
namespace L2
open PySem PySem.Spec PyProof.Rows
abbrev EE(h:Heap)(c:ae)(v:Option ag):Prop:=h.IsCell c v
def Rf(scope sc:fI):Scope:=
 {scope with names:=scope.names.map fun(n,k)=>if(k==.free&&sc.kind==.function&&sc.names.lookup n==some .cell)then(n,.cell)else(n,k)}
def fX(cells:List (af×ae)):List (af×iU)->List (af×ae)->List (af×ae)
 |[],acc=>acc
 |(n,k)::r,acc=>if k==.free then fX cells r ((n,(cells.lookup n).getD 0)::acc)else fX cells r acc
theorem EF(ah:Env)(f:af×iU->List (af×ae)->Sem (ForInStep (List (af×ae))))
(hf:∀n k c,f (n,k) c=if k==.free then(do let a <-cellOf ah n;pure (.yield ((n,a)::c)))else pure (.yield c)):
  ∀(names:List (af×iU))(acc:List (af×ae)),(∀y∈names,y.2=.free->∃c,ah.cells.lookup y.1=some c)->forIn names acc f=pure (fX ah.cells names acc)
 |[],acc,_=>by rw[List.forIn_nil];rfl
 |(n,k)::r,acc,h=>by
  rw[List.forIn_cons,hf];have ih:=fun acc=>EF ah f hf r acc fun y hy=>h y (bP _ hy);unfold fX;by_cases hk:(k==uE)=true
  ·rw[if_pos hk,if_pos hk];obtain⟨c,hc⟩:=h (n,k) cw (by simpa using hk);have e:cellOf ah n=pure c:=by unfold cellOf;rw[hc]
   rw[e];have e2:(ah.cells.lookup n).getD 0=c:=by rw[hc];rfl
   rw[e2];exact ih _
  ·rw[if_neg hk,if_neg hk];exact ih _
theorem Rg{scope:fI}{ah:Env}(h:∀y∈scope.names,y.2=.free->∃c,ah.cells.lookup y.1=some c):closureFor scope ah=pure (fX ah.cells scope.names []):=by
 simp only[closureFor];rw[EF ah _ (fun n k c=>rfl) scope.names [] h];rfl
theorem Ac{α:Type}:∀{l:List (af×α)}{n:af}{c:α},(n,c)∈l->∃c',l.lookup n=some c'
 |(k,v)::r,n,c,h=>by
  rw[ke];cases hb:n==k with
  |true=>exact⟨_,rfl⟩
  |false=>
   rcases br.mp h with e|h
   ·cases e;simp at hb
   ·exact Ac h
theorem vK{cells:List (af×ae)}:∀{names:List (af×iU)}{acc:List (af×ae)}{n:af}{c:ae},(n,c)∈fX cells names acc->(n,c)∈acc\/((n,.free)∈names/\c=(cells.lookup n).getD 0)
 |[],_,_,_,h=>.inl h
 |(m,k)::r,acc,n,c,h=>by
  unfold fX at h;split at h
  ·rename_i hk;have hk:k=.free:=by simpa using hk
   rcases vK h with h|⟨h1,h2⟩
   ·rcases br.mp h with e|h
    ·cases e;exact .inr ⟨hk▸cw,rfl⟩
    ·exact .inl h
   ·exact .inr ⟨bP _ h1,h2⟩
  ·rcases vK h with h|⟨h1,h2⟩
   ·exact .inl h
   ·exact .inr ⟨bP _ h1,h2⟩
theorem Ad{cells:List (af×ae)}:∀{names:List (af×iU)}{acc:List (af×ae)}{p:af×ae},p∈acc->p∈fX cells names acc
 |[],_,_,h=>h
 |(m,k)::r,acc,p,h=>by
  unfold fX;split
  ·exact Ad (bP _ h)
  ·exact Ad h
theorem Ae{cells:List (af×ae)}:∀{names:List (af×iU)}{acc:List (af×ae)}{n:af},(n,.free)∈names->(n,(cells.lookup n).getD 0)∈fX cells names acc
 |(m,k)::r,acc,n,h=>by
  unfold fX;rcases br.mp h with e|h
  ·cases e;exact Ad cw
  ·split
   ·exact Ae h
   ·exact Ae h
theorem tm:∀{names:List (af×iU)}{h:Heap}{acc:List (af×ae)}{x:af}{c:ae},(x,c)∈gn h.objs.size names acc->
  (x,c)∈acc\/((x,.cell)∈names/\h.objs.size<=c/\EE (pushCells h names) c none)
 |[],_,_,_,_,h=>.inl h
 |(n,k)::r,h,acc,x,c,hm=>by
  unfold gn at hm;unfold pushCells;split at hm
  ·rename_i hk;rw[if_pos hk];have hk:k=.cell:=by simpa using hk
   rw[<-kj h {cls:=.type "cell",data:=.cell none}]at hm;rcases tm hm with hm|⟨h1,h2,h3⟩
   ·rcases br.mp hm with e|hm
    ·cases e;exact .inr ⟨hk▸cw,bY _,_,pushCells_keeps r _ _ _ (iS _ rfl),rfl⟩
    ·exact .inl hm
   ·rw[kj]at h2;exact .inr ⟨bP _ h1,rQ h2,h3⟩
  ·rename_i hk;rw[if_neg hk];rcases tm hm with hm|⟨h1,h2,h3⟩
   ·exact .inl hm
   ·exact .inr ⟨bP _ h1,h2,h3⟩
theorem vL:∀{names:List (af×iU)}{n:Nat}{acc:List (af×ae)}{p:af×ae},p∈acc->p∈gn n names acc
 |[],_,_,_,h=>h
 |(m,k)::r,n,acc,p,h=>by
  unfold gn;split
  ·exact vL (bP _ h)
  ·exact vL h
theorem Af:∀{names:List (af×iU)}{n:Nat}{acc:List (af×ae)}{x:af},(x,.cell)∈names->∃c,(x,c)∈gn n names acc
 |(m,k)::r,n,acc,x,h=>by
  unfold gn;rcases br.mp h with e|h
  ·cases e;exact⟨n,vL cw⟩
  ·split
   ·exact Af h
   ·exact Af h
theorem Ag:∀{names:List (af×iU)}{h:Heap}{acc:List (af×ae)}{x y:af}{c:ae},(∀p∈acc,p.2<h.objs.size)->(∀x y c,(x,c)∈acc->(y,c)∈acc->x=y)->
  (x,c)∈gn h.objs.size names acc->(y,c)∈gn h.objs.size names acc->x=y
 |[],_,_,_,_,_,_,hi,h1,h2=>hi _ _ _ h1 h2
 |(n,k)::r,h,acc,x,y,c,hl,hi,h1,h2=>by
  unfold gn at h1 h2;split at h1
  ·rename_i hk;rw[if_pos hk]at h2;rw[<-kj h {cls:=.type "cell",data:=.cell none}]at h1 h2;refine Ag (h:=h.push _) (fun p hp=>?_) (fun x y c a b=>?_) h1 h2
   ·rw[kj];rcases br.mp hp with rfl|hp
    ·exact uu _
    ·exact CN (hl p hp)
   ·rcases br.mp a with e|a<;>rcases br.mp b with e'|b
    ·cases e;cases e';rfl
    ·cases e;exact absurd (hl _ b) (lJ _)
    ·cases e';exact absurd (hl _ a) (lJ _)
    ·exact hi _ _ _ a b
  ·rename_i hk;rw[if_neg hk]at h2;exact Ag hl hi h1 h2
theorem Rh{M:Model}{A:cv}{E:ag->ay->Prop}{s:ay}{scope:fI}{globals:ae}{closure:List (af×ae)}{qual:af}{func:Option ae}{code:ag}{around:Env}{builtins:ae}{Q:Env->ay->Prop}
(h:Q (newEnv scope s.heap.objs.size globals (gn (s.heap.objs.size+1) scope.names closure) qual func code (some around) builtins)
   {s with heap:=pushCells (s.heap.push {cls:=.type "dict",data:=.dict #[]}) scope.names}):
  aW M A (newFunctionEnv scope globals closure [] qual func code (some around) builtins) Q E s:=by
 simp only[newFunctionEnv,oI,if_true];refine bT (wpAny_alloc ?_);refine bT (wpAny_layCells _ (fun n k c=>rfl) scope.names closure _ _ ?_);rw[show({s with heap:=s.heap.push {cls:=.type "dict",data:=.dict #[]}}:ay).heap.objs.size=s.heap.objs.size+1 from kj ..];rw[List.forIn_nil];exact bT (dW (dW h))
theorem Ah{sc:fI}:∀{names:List (af×iU)}{x:af}{k:iU},
  (names.map fun(n,k)=>if(k==uE&&sc.kind==.function&&sc.names.lookup n==some .cell)then(n,OF)else(n,k)).lookup x=some k->
  ∃k',names.lookup x=some k'/\(k=k'\/(k'=.free/\k=.cell))
 |[],_,_,h=>by simp at h
 |(n,k₀)::r,x,k,h=>by
  have ih:=@Ah sc r x k;have h':oG x ((if(k₀==uE&&sc.kind==.function&&sc.names.lookup n==some .cell)=true then(n,OF)else(n,k₀))::(r.map _))=some k:=h;cases hx:x==n with
  |true=>
   simp only[ke,hx];by_cases hc:(k₀==uE&&sc.kind==.function&&sc.names.lookup n==some .cell)=true
   ·rw[if_pos hc]at h';simp only[ke,hx]at h';cases h';simp only[lM,beq_iff_eq]at hc;exact⟨k₀,rfl,.inr ⟨hc.1.1,rfl⟩⟩
   ·rw[if_neg hc]at h';simp only[ke,hx]at h';cases h';exact⟨_,rfl,.inl rfl⟩
  |false=>
   simp only[ke,hx];by_cases hc:(k₀==uE&&sc.kind==.function&&sc.names.lookup n==some .cell)=true
   ·rw[if_pos hc]at h';simp only[ke,hx]at h';exact ih h'
   ·rw[if_neg hc]at h';simp only[ke,hx]at h';exact ih h'
structure kC(N:List af)(sc scope:fI)(own:List (af×Nat)):Prop where
 kind:scope.kind=.function
 Ai:∀y∈scope.names,scope.names.lookup y.1=some y.2
 ix:∀p∈own,N[p.2]? =some p.1
 free:∀y∈scope.names,y.2=.free->sc.names.lookup y.1=some .cell\/sc.names.lookup y.1=some .free
 own:∀y∈scope.names,y.2=.local\/y.2=.cell->y.1∈own.map (·.1)\/y.1∉N
def eW(σ:St):List Nat->St
 |[]=>σ
 |v::vs=>(eW σ vs).set v none
theorem Aj(σ:St):∀vs:List Nat,(eW σ vs).length=σ.length
 |[]=>rfl
 |v::vs=>by unfold eW;rw[uC,Aj σ vs]
theorem Ak{σ:St}{i:Nat}{x:V}:∀{vs:List Nat},(eW σ vs)[i]? =some (some x)->σ[i]? =some (some x)/\i∉vs
 |[],h=>⟨h,by simp⟩
 |v::vs,h=>by
  unfold eW at h;by_cases hi:v=i
  ·subst hi;by_cases hv:v<(eW σ vs).length
   ·rw[ki hv]at h;cases h
   ·rw[OG (by simpa using hv)]at h;cases h
  ·rw[uk hi]at h;obtain⟨h1,h2⟩:=Ak h;exact⟨h1,by simp only[br,not_or];exact⟨fun e=>hi e.symm,h2⟩⟩
abbrev Cx.gu(X:Cx)(s:ay)(H:Hp)(scope:fI)(cenv:Env)(fp:List ae):Cx:={X with gb:=s,sG:=H,ah:=cenv,bp:=X.stack,ex:=fp,fn:=fun x=>scope.names.lookup x==some .cell,pn:=[],xe:=fun _ _=>False}
section
variable{X:Cx}{pins:List (ae×a9)}{σ:St}{H:Hp}{s:ay}
theorem Ri{scope:fI}{own:List (af×Nat)}{fp:List ae}(I:Inv X pins σ H s)(ok:kC X.N X.ah.scope scope own)(hN:X.N.Nodup)(hfp:∀b∈fp,lm X pins H b/\b<s.heap.objs.size):
  Inv (X.gu s H scope (compEnvC scope (gn (s.heap.objs.size+1) scope.names (fX X.ah.cells scope.names [])) s.heap.objs.size X.ah) fp) [] (eW σ (own.map (·.2))) H {s with heap:=pushCells (s.heap.push {cls:=.type "dict",data:=.dict #[]}) scope.names}:=by
 have hfree:∀y∈scope.names,y.2=.free->∃c,X.ah.cells.lookup y.1=some c:=fun y hy e=>by
  rcases ok.free y hy e with k|k
  ·exact I.ok.has _ (.inl k)
  ·exact I.ok.has _ (.inr k)
 generalize hcenv:compEnvC scope (gn (s.heap.objs.size+1) scope.names (fX X.ah.cells scope.names [])) s.heap.objs.size X.ah=cenv;have kp:∀b o,s.heap.get? b=some o->(pushCells (s.heap.push {cls:=.type "dict",data:=.dict #[]}) scope.names).get? b=some o:=fun b o e=>pushCells_keeps _ _ _ _ (eP _ e);have hL:cenv.locals=s.heap.objs.size:=by rw[<-hcenv];rfl
 have hcl:cenv.cells=gn (s.heap.objs.size+1) scope.names (fX X.ah.cells scope.names []):=by rw[<-hcenv];rfl
 have hsc:cenv.scope=Rf scope X.ah.scope:=by rw[<-hcenv];rfl
 rw[<-kj s.heap {cls:=.type "dict",data:=.dict #[]}]at hcl;have cm:∀{y c},(y,c)∈fX X.ah.cells scope.names []->X.ah.cells.lookup y=some c/\c<s.heap.objs.size:=fun{y c} hm=>by
  rcases vK hm with hm|⟨h1,rfl⟩
  ·cases hm
  ·obtain⟨c,hc⟩:=hfree _ h1 rfl;rw[hc];obtain⟨w,z⟩:=I.cell _ _ hc;exact⟨rfl,z.lt⟩
 have mem:∀{y c},cenv.cells.lookup y=some c->(X.ah.cells.lookup y=some c/\c<s.heap.objs.size)\/(s.heap.objs.size+1<=c/\EE (pushCells (s.heap.push {cls:=.type "dict",data:=.dict #[]}) scope.names) c none):=fun{y c} e=>by
  rw[hcl]at e;rcases tm (js e)with hm|⟨_,h2,h3⟩
  ·exact .inl (cm hm)
  ·rw[kj]at h2;exact .inr ⟨h2,h3⟩
 have look:∀{y},scope.names.lookup y=some .free->∃c,cenv.cells.lookup y=some c/\X.ah.cells.lookup y=some c:=fun{y} hl=>by
  have hy:(y,uE)∈scope.names:=js hl;obtain⟨c',e'⟩:=Ac (vL (names:=scope.names) (n:=(s.heap.push {cls:=.type "dict",data:=.dict #[]}).objs.size) (Ae (cells:=X.ah.cells) (acc:=[]) hy));rw[<-hcl]at e';refine⟨c',e',?_⟩;rw[hcl]at e';rcases tm (js e')with hm|⟨h1,_,_⟩
  ·exact(cm hm).1
  ·have:=ok.Ai _ h1;rw[hl]at this;cases this
 have okB:(X.gu s H scope cenv fp).Ok:=by
  refine⟨I.ok.eV,by show cenv.scope.kind=_;rw[hsc];exact ok.kind,by show cenv.globals=_;rw[<-hcenv];exact I.ok.ku,by show cenv.builtins=_;rw[<-hcenv];exact I.ok.m9,by show s.heap.objs.size<=cenv.locals;rw[hL];exact bY _,
   fun y z c e1 e2=>?_,fun y hy=>?_,fun y c z e=>?_,I.ok.hd,I.ok.frames,.inl rfl,fun b hb=>⟨?_,fun y c e z=>?_⟩,I.bs,dM I.ok.jM I.sz,fun b o e hb=>?_,fun b hb z=>?_,I.stack,I.vc⟩
  ·have e1:cenv.cells.lookup y=some c:=e1;have e2:cenv.cells.lookup z=some c:=e2;rw[hcl]at e1 e2;refine Ag (fun p hp=>?_) (fun y z c a b=>I.ok.inj y z c (cm a).1 (cm b).1) (js e1) (js e2);rw[kj];exact CN (cm (y:=p.1) (c:=p.2) hp).2
  ·show ∃c,cenv.cells.lookup y=some c;have key:∀k,cenv.kindOf y=some k->(k=.cell\/k=.free)->∃c,cenv.cells.lookup y=some c:=fun k hk hk'=>by
    unfold Env.kindOf at hk;rw[hsc]at hk;obtain⟨k',e,r⟩:=Ah hk;have:k'=.cell\/k'=.free:=by
     rcases r with rfl|⟨rfl,_⟩
     ·exact hk'
     ·exact .inr rfl
    rcases this with rfl|rfl
    ·obtain⟨c,hm⟩:=Af (n:=(s.heap.push {cls:=.type "dict",data:=.dict #[]}).objs.size) (acc:=fX X.ah.cells scope.names []) (js e);obtain⟨c',e'⟩:=Ac hm;exact⟨c',by rw[hcl];exact e'⟩
    ·obtain⟨c,h1,_⟩:=look e;exact⟨c,h1⟩
   rcases hy with hy|hy
   ·exact key _ hy (.inl rfl)
   ·exact key _ hy (.inr rfl)
  ·have z:(scope.names.lookup y==some OF)=true:=z;have z:scope.names.lookup y=some .cell:=by simpa using z
   have e:cenv.cells.lookup y=some c:=e;rw[hcl]at e;rcases tm (js e)with hm|⟨_,h2,_⟩
   ·rcases vK hm with hm|⟨h1,_⟩
    ·cases hm
    ·have q:=ok.Ai _ h1;rw[z]at q;cases q
   ·rw[kj]at h2;exact rQ h2
  ·show b≠cenv.locals;rw[hL];exact eX (hfp b hb).2
  ·have e:cenv.cells.lookup y=some c:=e;rcases mem e with⟨h1,_⟩|⟨h1,_⟩
   ·exact(hfp b hb).1.2.2.2.2.1 y c h1 z
   ·have h2:s.heap.objs.size+1<=b:=by rw[<-z];exact h1
    exact absurd (eO (hfp b hb).2 (rQ h2)) (lJ _)
  ·rcases(hfp b hb).1.2.2.2.1 with z|z
   ·exact I.ok.oZ b o e z
   ·exact absurd (eO (cY e) (dM I.ok.jM z)) (lJ _)
  ·rcases br.mp (I.u9 b z)with z|z
   ·exact(hfp b hb).1.2.1 z
   ·exact(hfp b hb).1.2.2.1 z
 refine⟨okB,rfl,I.eD,Un.kept kp,⟨fun _=>none,?_,fun i y av e1 e2 e3=>?_⟩,fun y c e=>?_,?_,fun y c e=>?_,fun p hp=>?_,I.aT.kept kp,by rw[Aj];exact I.len⟩
 ·show Heap.Ns _ cenv.locals _;rw[hL];exact Heap.Ns.keeps (Heap.Ns.new ..) fun b o e=>pushCells_keeps _ _ _ _ e
 ·obtain⟨e2,hne⟩:=Ak e2;have hfr:scope.names.lookup y=some .free/\(cenv.kindOf y=some .cell\/cenv.kindOf y=some .free):=by
   have key:∀k,cenv.scope.names.lookup y=some k->k=.local\/k=.cell\/k=.free->scope.names.lookup y=some .free/\(cenv.kindOf y=some .cell\/cenv.kindOf y=some .free):=fun k hk hk'=>by
    have hk0:=hk;rw[hsc]at hk;obtain⟨k',e,r⟩:=Ah hk;have no:¬(k'=.local\/k'=.cell):=fun hh=>by
     rcases ok.own _ (js e) hh with e'|e'
     ·obtain⟨p,hp,hpy⟩:=iW.mp e';have e3:=ok.ix p hp;have:p.1=y:=hpy;rw[this]at e3;exact hne (iW.mpr ⟨p,hp,vd hN e3 e1⟩)
     ·exact e' (dR e1)
    rcases r with rfl|⟨rfl,rfl⟩
    ·rcases hk' with rfl|rfl|rfl
     ·exact absurd (.inl rfl) no
     ·exact absurd (.inr rfl) no
     ·exact⟨e,.inr hk0⟩
    ·exact⟨e,.inl hk0⟩
   have e3:oX cenv.scope y:=e3;rcases e3 with e3|e3|e3
   ·exact key _ e3 (.inl rfl)
   ·exact key _ e3 (.inr (.inl rfl))
   ·exact key _ e3 (.inr (.inr rfl))
  obtain⟨m,hn,hl⟩:=I.fM;have hvis:oX X.ah.scope y:=(ok.free _ (js hfr.1) rfl).elim (fun k=>.inr (.inl k)) (fun k=>.inr (.inr k));obtain⟨w,r,q⟩:=hl i y av e1 e2 hvis;refine⟨w,r,.inr ⟨hfr.2,?_⟩⟩;obtain⟨c,h1,h2⟩:=look hfr.1;rcases q with⟨k,_⟩|⟨_,c',e',z⟩
  ·have k:X.ah.scope.names.lookup y=some .local:=k;rcases ok.free _ (js hfr.1) rfl with k'|k'<;>rw[show X.ah.scope.names.lookup y=_ from k']at k<;>cases k
  ·rw[h2]at e';cases e';exact⟨c,h1,z.keeps kp⟩
 ·have e:cenv.cells.lookup y=some c:=e;rcases mem e with⟨h1,_⟩|⟨_,z⟩
  ·obtain⟨w,z⟩:=I.cell y c h1;exact⟨w,z.keeps kp⟩
  ·exact⟨_,z⟩
 ·show H cenv.locals=none;rw[hL];exact I.aT.fresh (bY _)
 ·have e:cenv.cells.lookup y=some c:=e;rcases mem e with⟨h1,_⟩|⟨h1,_⟩
  ·exact I.iu y c h1
  ·exact I.aT.fresh (rQ h1)
 ·exact absurd (show p∈([]:List (ae×a9))++[]from hp) (by simp)
theorem Rj{E:ag->ay->Prop}{D:ae}{xs:List V}{y:V}{v:ag}{Q:ag->ay->Prop}(I:Inv X pins σ H s)(hD:H D=some (.ai xs))(hz:xs.length<bE)(r:RelV y v)
(h:∀s',Inv X pins σ (aq H D (.ai (xs++[y]))) s'->Q .none s'):aW (aU X.prog X.w) X.A (call (.builtin "list.append") [.ref D,v]) Q E s:=by
 obtain⟨hz',its,n,ri,e⟩:=I.aT D _ hD;have hl:=ri.length;refine append_at (hsz:=by rw[dO];lia) e fun h' sb ho'=>?_;refine h {s with heap:=h'} (I.lZ (t':=s.toks) (by rw[hD];trivial) (.inl rfl) (fun b u hb q=>(sb.2 b hb).trans q) ⟨_,ho'⟩ ⟨by rw[eQ];exact hz,its++[v],n+1,ri.append (.cons r .nil),?_⟩);rw[ho'];simp
def tp(X:Cx)(ifs:List bq)(t:TT):Prop:=
 ∀(pins:List (ae×a9))(s:ay)(σ:St)(H:Hp)(Q:Bool->Hp->Prop),Inv X pins σ H s->t σ H Q->
  aW (aU X.prog X.w) X.A (forIn ifs true fun c r=>if r=true then do let ok <-isTrue c X.ah (eval c X.ah);pure (CO ok)else pure (CO r)) (TP X pins σ Q) X.xe s
def lr:TT:=fun _ H Q=>Q true H
theorem tq:tp X [] lr:=fun _ _ _ H _ I h=>wpAny_tests_nil ⟨H,I,h⟩
theorem EG{c:bq}{t:TT}(h:PT X c t):tp X [c] t:=fun pins s σ H Q I hw=>wpAny_tests_one (h pins s σ H Q I hw)
end
theorem qD{α:Type}{t:Sem α}{Q Q':α->ay->Prop}{M:Model}{A:cv}{E:ag->ay->Prop}{s:ay}(h:aW M A t Q (fun _ _=>False) s)(hQ:∀a s,Q a s->Q' a s):aW M A t Q' E s:=jH h hQ fun _ _ z=>fc z
theorem Rk{prog:bv}{w:bf}{A:cv}{R:Result->ay->Prop}{s:ay}{elt target iter:bq}{ifs:List bq}{scope:fI}{pos:cx}{it acc:ag}{ah:Env}(I:Nat->ay->Prop)
(turn:∀n s,I n s->aW (aU prog w) A (pyNext it) (fun r s₁=>match r with
   |none=>R (.ok .next) s₁
   |some v=>aW (aU prog w) A (letOwnedTupleGo target it v) (fun _ s₁'=>aW (aU prog w) A (assign target ah v) (fun _ s₂=>
     aW (aU prog w) A (forIn ifs true fun c r=>if r=true then do let ok <-isTrue c ah (eval c ah);pure (CO ok)else pure (CO r)) (fun ok s₃=>
      if ok=true then aW (aU prog w) A (eval elt ah) (fun x s₄=>
       aW (aU prog w) A (call (.builtin "list.append") [acc,x]) (fun _ s₅=>∃m,m<n/\I m s₅) (notedBy (aU prog w) A ah fun e s'=>R (.error e) s') s₄) (notedBy (aU prog w) A ah fun e s'=>R (.error e) s') s₃
      else ∃m,m<n/\I m s₃) (notedBy (aU prog w) A ah fun e s'=>R (.error e) s') s₂) (notedBy (aU prog w) A ah fun e s'=>R (.error e) s') s₁') (notedBy (aU prog w) A ah fun e s'=>R (.error e) s') s₁) (notedBy (aU prog w) A ah fun e s'=>R (.error e) s') s)
(n:Nat)(h:I n s):
  codeAny (aU prog w) A (.compLoop (.ListComp elt [⟨target,iter,ifs,0⟩] scope pos) 0 it acc ah) R s:=by
 refine codeAny_loop rfl I (fun n s hI=>?_) n h;show aW _ A ((compTurn (.ListComp elt [⟨target,iter,ifs,0⟩] scope pos) 0 it acc ah).onRaise (fun x=>do noteFrame x ah;theTreesLotGoes x)) _ _ s;refine wpAny_noted ?_;rw[compTurn_list];refine bT (wpAny_standAt (bT (jH (turn n s hI) (fun r s₁ h₁=>?_) fun _ _ h'=>h')));cases r with
 |none=>exact dW h₁
 |some v=>
  refine bT (jH h₁ (fun _ s₁' h₁'=>?_) fun _ _ h'=>h');refine bT (jH h₁' (fun _ s₂ h₂=>bT (jH h₂ (fun ok s₃ h₃=>?_) fun _ _ h'=>h')) fun _ _ h'=>h');cases ok with
  |false=>exact dW ⟨rfl,h₃⟩
  |true=>
   exact bT (bT (jH h₃ (fun x s₄ h₄=>bT (jH h₄ (fun _ s₅ h₅=>dW (dW ⟨rfl,h₅⟩)) fun _ _ h'=>h')) fun _ _ h'=>h'))
section
variable{X:Cx}
def vM(wi:TI)(g:TG)(tt:TT)(te:TE)(vs:List Nat):TE:=fun σ H Q=>wi σ H fun J H1=>∀D,H1 D=none->∃W:Nat->Nat->Hp->Prop,(∃m,W 0 m (aq H1 D (.ai [])))/\∀i m H,W i m H->
 (J.jP i H/\Q (.ref D) H)\/(J.go i H/\∃Nx:Hp->Prop,(∀H',Nx H'->∃m',m'<m/\W (i+1) m' H')/\∀x H',J.nj i H x H'->g x (eW σ vs) H' fun σ2 H2=>eW σ2 vs=eW σ vs/\tt σ2 H2 fun b H3=>
  if b=true then te σ2 H3 fun y H4=>∃acc,H4 D=some (.ai acc)/\acc.length<bE/\Nx (aq H4 D (.ai (acc++[y])))else Nx H3)
theorem EH{pins:List (ae×a9)}{s:ay}{σ:St}{H:Hp}{Q:VK}{elt tg iter:bq}{ifs:List bq}{scope:fI}{own:List (af×Nat)}{pos pos':cx}{wi:TI}{g:TG}{tt:TT}{te:TE}{use:Option (ag->Sem Unit)}{Qf:ag->ay->Prop}
(hc:X.i8=true)(hN:X.N.Nodup)(I:Inv X pins σ H s)(hi:PI X tg iter wi)(ok:kC X.N X.ah.scope scope own)
(hg:∀(s:ay) (H:Hp) (C:ae) (cl:List (af×ae)) (fp:List ae),PG (X.gu s H scope (compEnvC scope cl C X.ah) fp) tg g)(ht:∀(s:ay) (H:Hp) (C:ae) (cl:List (af×ae)) (fp:List ae),tp (X.gu s H scope (compEnvC scope cl C X.ah) fp) ifs tt)
(he:∀(s:ay) (H:Hp) (C:ae) (cl:List (af×ae)) (fp:List ae),PE (X.gu s H scope (compEnvC scope cl C X.ah) fp) elt te)(hs:∀x,foldedSetIterable iter X.ah x=pure x)
(h:vM wi g tt te (own.map (·.2)) σ H Q)
(hRR:∀D C s' m H',Inv X pins σ H' s'->Q (.ref D) H'->s'.heap.Ns C m->lm X pins H' C->compPost (aU X.prog X.w) X.A X.xe use Qf (.ref D) C (.ok .next) s'):
  aW (aU X.prog X.w) X.A (comprehension (.ListComp elt [⟨tg,iter,ifs,0⟩] scope pos) scope X.ah pos' (newList []) false (eval iter X.ah) use) Qf X.xe s:=by
 have hfree:∀y∈scope.names,y.2=.free->∃c,X.ah.cells.lookup y.1=some c:=fun y hy e=>by
  rcases ok.free y hy e with k|k
  ·exact I.ok.has _ (.inl k)
  ·exact I.ok.has _ (.inr k)
 refine wpAny_comprehension_free (use:=use) rfl hs (Rg hfree) ok.kind (fun y hy e=>by rw[ok.Ai y hy,e])
  (a0 (hi pins s σ H _ I h) fun xv s1 hx=>a0 hx fun itv s2 h2=>?_)
 obtain⟨it,fp,tn,J,H2,e,I2,T,st2,f2,q⟩:=h2;subst e;refine wpAny_newObj_type (Rh ?_) (by show 0<=bE;decide);generalize hD:s2.heap.objs.size=D;have hDn:H2 D=none:=I2.aT.fresh (oH hD);obtain⟨W,⟨m0,w0⟩,turn⟩:=q D hDn;generalize hs3:({s2 with heap:=s2.heap.push {cls:=.type "list",data:=.seq ([]:List ag).toArray}}:ay)=s3;have I3:Inv X pins σ (aq H2 D (.ai [])) s3:=by
  rw[<-hs3];refine I2.gN (t':=s2.toks) (fun b o e=>eP _ e) (oH hD) ⟨cI _,[],0,.nil,?_⟩;rw[<-hD];exact iS _ rfl
 have h3:s3.heap=s2.heap.push {cls:=.type "list",data:=.seq ([]:List ag).toArray}:=by rw[<-hs3]
 have sz:∀b∈fp,b<s2.heap.objs.size:=fun b hb=>by
  obtain⟨o,e,_⟩:=T.obj _ _ st2 b hb;exact cY e
 have f3:∀b∈fp,lm X pins (aq H2 D (.ai [])) b/\b<s3.heap.objs.size:=fun b hb=>by
  have hlt:=sz b hb;refine⟨⟨?_,(f2 b hb).2⟩,by rw[h3,kj];exact CN hlt⟩;rw[aJ (by rw[<-hD];exact eX hlt)];exact(f2 b hb).1
 have st3:tn 0 s3.heap:=T.keep _ _ _ st2 fun b _ o e=>by rw[h3];exact eP _ e
 have I4:=Ri I3 ok hN f3;have pg:=hg s3 (aq H2 D (.ai [])) s3.heap.objs.size (gn (s3.heap.objs.size+1) scope.names (fX X.ah.cells scope.names [])) fp;have pt:=ht s3 (aq H2 D (.ai [])) s3.heap.objs.size (gn (s3.heap.objs.size+1) scope.names (fX X.ah.cells scope.names [])) fp;have pe:=he s3 (aq H2 D (.ai [])) s3.heap.objs.size (gn (s3.heap.objs.size+1) scope.names (fX X.ah.cells scope.names [])) fp;show codeAny _ _ (.compStart (.ListComp elt [⟨tg,iter,ifs,0⟩] scope pos) 0 (.ref it) (.ref D) (compEnvC scope (gn (s3.heap.objs.size+1) scope.names (fX X.ah.cells scope.names [])) s3.heap.objs.size X.ah)) (compPost (aU X.prog X.w) X.A X.xe use Qf (.ref D) s3.heap.objs.size) {s3 with heap:=pushCells (s3.heap.push {cls:=.type "dict",data:=.dict #[]}) scope.names};have nfp:∀b∈fp,(aq H2 D (.ai [])) b=none:=fun b hb=>(f3 b hb).1.1;generalize hce:compEnvC scope (gn (s3.heap.objs.size+1) scope.names (fX X.ah.cells scope.names [])) s3.heap.objs.size X.ah=ce at I4 pg pt pe ⊢;have cL:ce.locals=s3.heap.objs.size:=by subst hce;rfl
 generalize hH3:aq H2 D (.ai [])=H3 at I3 I4 pg pt pe w0 nfp f3;generalize hs4:({s3 with heap:=pushCells (s3.heap.push {cls:=.type "dict",data:=.dict #[]}) scope.names}:ay)=s4 at I4 ⊢;have st4:tn 0 s4.heap:=T.keep _ _ _ st3 fun b _ o e=>by rw[<-hs4];exact pushCells_keeps _ _ _ _ (eP _ e)
 have stat:∀{σ':St}{H':Hp}{s':ay},Inv (X.gu s3 H3 scope ce fp) [] σ' H' s'->(∀b∈fp,H' b=none)->∀b∈fp,lm (X.gu s3 H3 scope ce fp) [] H' b:=fun{σ' H' s'} I' hn b hb=>
  ⟨hn b hb,(I'.ok.qu b hb).1,I'.ok.o0 b hb,.inl hb,fun x c e=>(I'.ok.qu b hb).2 x c e,fun p hp=>absurd (show p∈([]:List (ae×a9))++[]from hp) (by simp)⟩
 have loop:codeAny (aU X.prog X.w) X.A (.compLoop (.ListComp elt [⟨tg,iter,ifs,0⟩] scope pos) 0 (.ref it) (.ref D) ce) (compPost (aU X.prog X.w) X.A X.xe use Qf (.ref D) s3.heap.objs.size) s4:=by
  refine Rk (fun n s'=>∃i H',Inv (X.gu s3 H3 scope ce fp) [] (eW σ (own.map (·.2))) H' s'/\tn i s'.heap/\(∀b∈fp,H' b=none)/\W i n H') ?_ m0 ⟨0,H3,I4,st4,nfp,w0⟩;rintro n s5 ⟨i,H5,I5,st5,n5,w5⟩;rcases turn i n H5 w5 with⟨jP,qq⟩|⟨go,Nx,hNx,step⟩
  ·have td:=T.done (X.gu s3 H3 scope ce fp) rfl rfl rfl hc i [] s5 _ H5 (fun _ _=>False) I5 (stat I5 n5) st5 jP;refine qD td fun r s6 qq=>?_;obtain⟨hr,I6⟩:=qq;subst hr;have I7:Inv X pins σ H5 s6:=I3.DT (ch:=fp) I6.os I6.base I6.aT I6.eD fun b hb=>⟨(f3 b hb).1.2.2.2.1,(f3 b hb).1.2.1,(f3 b hb).1.2.2.2.2.1,(f3 b hb).1.2.2.2.2.2⟩;have nC:H5 s3.heap.objs.size=none:=by
    have z:H5 ce.locals=none:=I6.free;rw[cL]at z;exact z
   obtain⟨m,hn,_⟩:=I6.fM;have hn:s6.heap.Ns ce.locals m:=hn;rw[cL]at hn;exact hRR D s3.heap.objs.size s6 m H5 I7 qq hn (I3.vq (bY _) nC)
  ·have ti:=T.item (X.gu s3 H3 scope ce fp) rfl rfl rfl hc i [] s5 _ H5 (fun _ _=>False) I5 (stat I5 n5) st5 go;refine qD ti fun r s6 qq=>?_;obtain⟨u,hr,h6⟩:=qq;subst hr;refine qD h6 fun _ s7 qq=>?_;obtain⟨x,H7,I7,r7,y7,st7,n7⟩:=qq;have I7':=I7.DZ (stat I7 n7) (T.obj _ _ st7);refine qD (pg _ s7 _ H7 x u _ I7' r7 (step x H7 y7)) fun _ s8 qq=>?_;obtain⟨σ8,H8,I8,hw8,q8⟩:=qq;refine qD (pt _ s8 σ8 H8 _ I8 q8) fun b s9 qq=>?_;obtain⟨H9,I9,q9⟩:=qq;have fin:∀{s':ay}{H':Hp},Inv (X.gu s3 H3 scope ce fp) ([]++sL fp s7.heap) σ8 H' s'->Nx H'->∃m,m<n/\∃i H',Inv (X.gu s3 H3 scope ce fp) [] (eW σ (own.map (·.2))) H' s'/\tn i s'.heap/\(∀b∈fp,H' b=none)/\W i m H':=fun{s' H'} I' nx=>by
    obtain⟨m',hm,w'⟩:=hNx H' nx;have pin':∀b∈fp,∀o,s7.heap.get? b=some o->s'.heap.get? b=some o/\H' b=none:=fun b hb o e=>
     let z:=I'.gD (b,o) (bX _ (bX _ (zM hb e)))
     ⟨z.1,z.2.1⟩
    have hl:(eW σ (own.map (·.2))).length=σ8.length:=by rw[<-hw8,Aj]
    refine⟨m',hm,i+1,H',(I'.vx (pins:=[])).P8 hl (fun j v e=>?_),T.keep _ _ _ st7 fun b hb o e=>(pin' b hb o e).1,fun b hb=>?_,w'⟩
    ·rw[<-hw8]at e;exact(Ak e).1
    ·obtain⟨o,e,_⟩:=T.obj _ _ st7 b hb;exact(pin' b hb o e).2
   cases b with
   |false=>
    simp only[xP,if_false]at q9 ⊢;exact fin I9 q9
   |true=>
    simp only[if_true]at q9 ⊢;refine qD (pe _ s9 σ8 H9 _ I9 q9) fun z s10 qq=>?_;obtain⟨yv,H10,I10,r10,acc,hD10,hz10,nx⟩:=qq;exact Rj (X:=X.gu s3 H3 scope ce fp) I10 hD10 hz10 r10 fun s11 I11=>fin I11 nx
 exact codeAny_compStart_list loop (T.gc X.A 0 _ _ _ st4 loop)
theorem qE{elt tg iter:bq}{ifs:List bq}{scope:fI}{own:List (af×Nat)}{pos:cx}{wi:TI}{g:TG}{tt:TT}{te:TE}(hc:X.i8=true)(hN:X.N.Nodup)(hi:PI X tg iter wi)(ok:kC X.N X.ah.scope scope own)
(hg:∀(s:ay) (H:Hp) (C:ae) (cl:List (af×ae)) (fp:List ae),PG (X.gu s H scope (compEnvC scope cl C X.ah) fp) tg g)(ht:∀(s:ay) (H:Hp) (C:ae) (cl:List (af×ae)) (fp:List ae),tp (X.gu s H scope (compEnvC scope cl C X.ah) fp) ifs tt)
(he:∀(s:ay) (H:Hp) (C:ae) (cl:List (af×ae)) (fp:List ae),PE (X.gu s H scope (compEnvC scope cl C X.ah) fp) elt te)(hs:∀x,foldedSetIterable iter X.ah x=pure x:=by intro _;rfl):
  PE X (.ListComp elt [⟨tg,iter,ifs,0⟩] scope pos) (vM wi g tt te (own.map (·.2))):=by
 walk_at "ae";rw[eval_ListComp];refine EH hc hN I hi ok hg ht he hs h fun D C s' m H' I' q hn f=>⟨m,hn,fun h'' sb=>?_⟩;obtain⟨f0,f1,f2,f3,f4,f5⟩:=f;exact⟨.ref D,H',I'.kz (t':=s'.toks) (fun b o hb e=>(sb.2 b hb).trans e) f0 f1 f3 f4 f5,rfl,q⟩
theorem Rl{i:Nat}{y:af}{py:cx}{elt tg iter:bq}{ifs:List bq}{scope:fI}{own:List (af×Nat)}{pos spos:cx}{wi:TI}{g:TG}{tt:TT}{te:TE}(hc:X.i8=true)(hN:X.N.Nodup)(hy:X.N[i]? =some y)(hyl:X.ah.scope.names.lookup y=some .local)
(hsw:swapsWith (.ListComp elt [⟨tg,iter,ifs,0⟩] scope pos) (some (.Name y py)) spos.line X.ah=pure true)(hi:PI X tg iter wi)(ok:kC X.N X.ah.scope scope own)
(hg:∀(s:ay) (H:Hp) (C:ae) (cl:List (af×ae)) (fp:List ae),PG (X.gu s H scope (compEnvC scope cl C X.ah) fp) tg g)(ht:∀(s:ay) (H:Hp) (C:ae) (cl:List (af×ae)) (fp:List ae),tp (X.gu s H scope (compEnvC scope cl C X.ah) fp) ifs tt)
(he:∀(s:ay) (H:Hp) (C:ae) (cl:List (af×ae)) (fp:List ae),PE (X.gu s H scope (compEnvC scope cl C X.ah) fp) elt te)(hs:∀x,foldedSetIterable iter X.ah x=pure x:=by intro _;rfl):
  PS X (.Assign [.Name y py] (.ListComp elt [⟨tg,iter,ifs,0⟩] scope pos) spos) (sA (vM wi g tt te (own.map (·.2))) (oS i)):=by
 walk_at "aq";rw[exec_Assign_Name_used _ _ _ _ hsw];refine bT (wpAny_standAt (bT ?_));show aW _ X.A (do let _ <-comprehension (.ListComp elt [⟨tg,iter,ifs,0⟩] scope pos) scope X.ah (firstIterPos [⟨tg,iter,ifs,0⟩] pos) (newList []) false (eval iter X.ah) (some (assign (.Name y py) X.ah))) _ _ s;have h:vM wi g tt te (own.map (·.2)) σ H (fun x H1=>oS i x σ H1 D.nx):=h;refine bT (a0 (EH (Qf:=fun _ s'=>SP X pins D .next s') hc hN I hi ok hg ht he hs h fun L C s' m H' I' q hn f=>?_) fun _ s' hq=>dW (dW hq));show aW _ _ (assign (.Name y py) X.ah (.ref L)) _ _ _;refine wpAny_assign_Name (DS (v:=V.ref L) I' hN hy (.inl hyl) rfl (fun s2 I2 qq=>?_) (.inr hyl));obtain⟨a,sb,ha⟩:=qq;obtain⟨f0,f1,f2,f3,f4,f5⟩:=f;have haC:C≠a:=by
  rcases ha with z|z
  ·rw[z];exact f1
  ·exact fun e=>f4 y a z e.symm
 refine⟨m,hn.sameBut sb haC,fun h3 sb3=>?_⟩;exact⟨_,H',I2.kz (t':=s2.toks) (fun b o hb e=>(sb3.2 b hb).trans e) f0 f1 f3 f4 f5,q⟩
end
theorem pk{K:ax}{a:ae}{xs:List V}{g:TG}{tt:TT}{te:TE}{vs:List Nat}{σ:St}{H1:Hp}{D:ae}{Qd:Hp->Prop}(Pv:Nat->Hp->Prop)(h0:Pv 0 (aq H1 D (.ai [])))(hl:∀i H,i<=xs.length->Pv i H->bV K H a xs)
(hs:∀i x H,xs[i]? =some x->Pv i H->g x (eW σ vs) H fun σ2 H2=>eW σ2 vs=eW σ vs/\tt σ2 H2 fun b H3=>
   if b=true then te σ2 H3 fun y H4=>∃acc,H4 D=some (.ai acc)/\acc.length<bE/\Pv (i+1) (aq H4 D (.ai (acc++[y])))else Pv (i+1) H3)(hd:∀H,Pv xs.length H->Qd H):
  ∃W:Nat->Nat->Hp->Prop,(∃m,W 0 m (aq H1 D (.ai [])))/\∀i m H,W i m H->
   ((nk K a).jP i H/\Qd H)\/((nk K a).go i H/\∃Nx:Hp->Prop,(∀H',Nx H'->∃m',m'<m/\W (i+1) m' H')/\∀x H',(nk K a).nj i H x H'->g x (eW σ vs) H' fun σ2 H2=>eW σ2 vs=eW σ vs/\tt σ2 H2 fun b H3=>
    if b=true then te σ2 H3 fun y H4=>∃acc,H4 D=some (.ai acc)/\acc.length<bE/\Nx (aq H4 D (.ai (acc++[y])))else Nx H3):=by
 refine⟨fun i m H=>m=xs.length-i/\i<=xs.length/\Pv i H,⟨xs.length,by simp,cI _,h0⟩,?_⟩;rintro i m H ⟨rfl,hi,p⟩;have q:=hl i H hi p;by_cases hlt:i<xs.length
 ·refine .inr ⟨⟨xs,xs[i],q,by simp[hlt]⟩,Pv (i+1),fun H' p'=>⟨xs.length-(i+1),by lia,rfl,hlt,p'⟩,fun x H' y=>?_⟩;obtain⟨e,y⟩:=y;subst e;exact hs i x _ (y xs q) p
 ·have e:i=xs.length:=by lia
  subst e;exact .inl ⟨⟨xs,q,bY _⟩,hd H p⟩
end L2
namespace L2
open PySem PySem.Spec PyProof.Rows
section
variable{prog:bv}{w:bf}{A:cv}{R:Result->ay->Prop}{s:ay}{elt t0 i0 t1 i1:bq}{ifs0 ifs1:List bq}{scope:fI}{pos:cx}{it acc:ag}{ah:Env}
end
section
variable{X:Cx}
end
end L2
namespace L2
open PySem PySem.Spec PyProof.Rows
section
variable{κ:Type}[DecidableEq κ]
def cK(kvs:List (κ×V))(k:κ):Option V:=(kvs.find? fun kv=>decide (kv.1=k)).map (·.2)
def ck(kvs:List (κ×V))(k:κ)(v:V):List (κ×V):=
 if(kvs.any fun kv=>decide (kv.1=k))=true then kvs.map (fun kv=>if kv.1=k then(kv.1,v)else kv)else kvs++[(k,v)]
def EI(kvs:List (κ×V))(k:κ):List (κ×V):=kvs.filter fun kv=>decide (kv.1≠k)
theorem kD{p:κ×V}{r:List (κ×V)}{k:κ}(e:p.1=k):cK (p::r) k=some p.2:=by simp[cK,oJ,e]
theorem kE{p:κ×V}{r:List (κ×V)}{k:κ}(e:¬p.1=k):cK (p::r) k=cK r k:=by simp[cK,oJ,e]
theorem nH(k:κ):∀kvs:List (κ×V),(kvs.any fun kv=>decide (kv.1=k))=(cK kvs k).isSome
 |[]=>rfl
 |p::r=>by
  rw[iV];by_cases e:p.1=k
  ·simp only[kD e,decide_eq_true e,Bool.true_or,oI]
  ·rw[kE e,decide_eq_false e,Bool.false_or];exact nH k r
theorem EJ(k j:κ)(y:V):∀kvs:List (κ×V),cK (kvs.map fun kv=>if kv.1=k then(kv.1,y)else kv) j=(cK kvs j).map fun x=>if j=k then y else x
 |[]=>rfl
 |p::r=>by
  have ih:=EJ k j y r;rw[d6];by_cases h:p.1=k
  ·rw[if_pos h];by_cases e:p.1=j
   ·rw[kD (p:=(p.1,y)) e,kD e,yh,if_pos (e.symm.trans h)]
   ·rw[kE (p:=(p.1,y)) e,kE e,ih]
  ·rw[if_neg h];by_cases e:p.1=j
   ·rw[kD (p:=p) e,kD e,yh,if_neg (fun z=>h (e.trans z))]
   ·rw[kE (p:=p) e,kE e,ih]
theorem EK(k j:κ)(y:V):∀kvs:List (κ×V),cK kvs k=none->cK (kvs++[(k,y)]) j=if j=k then some y else cK kvs j
 |[],_=>by
  by_cases e:k=j
  ·rw[if_pos e.symm];exact kD (p:=(k,y)) e
  ·rw[if_neg (fun z=>e z.symm)];exact kE (p:=(k,y)) e
 |p::r,hn=>by
  rw[jn];have hk:¬p.1=k:=fun z=>by rw[kD z]at hn;cases hn
  rw[kE hk]at hn;have ih:=EK k j y r hn;by_cases e:p.1=j
  ·rw[kD e,kD e,if_neg (fun z=>hk (e.trans z))]
  ·rw[kE e,kE e,ih]
theorem tu(kvs:List (κ×V))(k j:κ)(y:V):cK (ck kvs k y) j=if j=k then some y else cK kvs j:=by
 unfold ck;by_cases a:(kvs.any fun kv=>decide (kv.1=k))=true
 ·rw[if_pos a,EJ];rw[nH]at a;by_cases e:j=k
  ·obtain⟨x,hx⟩:=abg.mp a;rw[if_pos e,e,hx,yh,if_pos rfl]
  ·rw[if_neg e];cases cK kvs j with
   |none=>rfl
   |some x=>rw[yh,if_neg e]
 ·rw[if_neg a];refine EK k j y kvs ?_;rw[nH]at a;cases q:cK kvs k with
  |none=>rfl
  |some x=>rw[q]at a;exact(a rfl).elim
theorem EL(kvs:List (κ×V))(k:κ)(v:V):(ck kvs k v).length<=kvs.length+1:=by
 unfold ck;split
 ·rw[bK];lia
 ·rw[eQ,aA,jG];lia
theorem Al{kvs:List (κ×V)}{k:κ}(v:V)(h:cK kvs k=none):ck kvs k v=kvs++[(k,v)]:=by
 unfold ck;rw[nH,h];exact if_neg (by decide)
theorem f9.tw{o:Option V}{u:Option ag}(r:f9 o u):o.isSome=u.isSome:=by
 cases o with
 |none=>cases u with
  |none=>rfl
  |some _=>exact(show False from r).elim
 |some _=>cases u with
  |none=>exact(show False from r).elim
  |some _=>rfl
theorem f9.getD{o:Option V}{u:Option ag}{d:V}{d':ag}(r:f9 o u)(rd:RelV d d'):RelV (o.getD d) (u.getD d'):=by
 cases o with
 |none=>cases u with
  |none=>exact rd
  |some _=>exact(show False from r).elim
 |some _=>cases u with
  |none=>exact(show False from r).elim
  |some _=>exact r
theorem KV.val{kvs:List (κ×V)}{vs:List (κ×ag)}(r:KV kvs vs)(k:κ):f9 (cK kvs k) (valueAt vs k):=by
 unfold KV at r;induction r with
 |nil=>exact fg
 |@cons p q ps qs h t ih=>
  obtain⟨h1,h2⟩:=h;by_cases e:p.1=k
  ·have e':q.1=k:=h1.symm.trans e;have b:valueAt (q::qs) k=some q.2:=by simp[valueAt,oJ,e']
   rw[kD e,b];exact h2
  ·have e':¬q.1=k:=fun z=>e (h1.trans z);have b:valueAt (q::qs) k=valueAt qs k:=by simp[valueAt,oJ,e']
   rw[kE e,b];exact ih
theorem KV.any{kvs:List (κ×V)}{vs:List (κ×ag)}(r:KV kvs vs)(k:κ):(kvs.any fun kv=>decide (kv.1=k))=vs.any fun kv=>decide (kv.1=k):=by
 unfold KV at r;induction r with
 |nil=>rfl
 |cons h t ih=>rw[iV,iV,ih,h.1]
theorem KV.Am{kvs:List (κ×V)}{vs:List (κ×ag)}(r:KV kvs vs)(k:κ){y:V}{u:ag}(ry:RelV y u):
  KV (kvs.map fun kv=>if kv.1=k then(kv.1,y)else kv) (vs.map fun kv=>if kv.1=k then(kv.1,u)else kv):=by
 unfold KV at r ⊢;induction r with
 |nil=>exact .nil
 |@cons p q ps qs h t ih=>
  rw[d6,d6];refine .cons ?_ ih;obtain⟨h1,h2⟩:=h;by_cases e:p.1=k
  ·rw[if_pos e,if_pos (h1.symm.trans e)];exact⟨h1,ry⟩
  ·rw[if_neg e,if_neg (fun z=>e (h1.trans z))];exact⟨h1,h2⟩
theorem KV.An{kvs:List (κ×V)}{vs:List (κ×ag)}(r:KV kvs vs)(k:κ){y:V}{u:ag}(ry:RelV y u):KV (ck kvs k y) (stored vs k u):=by
 unfold ck stored;rw[r.any k];by_cases e:(vs.any fun kv=>decide (kv.1=k))=true
 ·rw[if_pos e,if_pos e];exact r.Am k ry
 ·rw[if_neg e,if_neg e];exact Paired.snoc r ⟨rfl,ry⟩
theorem KV.drop{kvs:List (κ×V)}{vs:List (κ×ag)}(r:KV kvs vs)(k:κ):KV (EI kvs k) (without vs k):=by
 unfold KV at r ⊢;unfold EI without;induction r with
 |nil=>exact .nil
 |@cons p q ps qs h t ih=>
  obtain⟨h1,h2⟩:=h;rw[List.filter_cons,List.filter_cons];by_cases e:p.1=k
  ·have a:¬decide (p.1≠k)=true:=by simp[e]
   have b:¬decide (q.1≠k)=true:=by simp[h1.symm.trans e]
   rw[if_neg a,if_neg b];exact ih
  ·have e':¬q.1=k:=fun z=>e (h1.trans z);have a:decide (p.1≠k)=true:=by simp[e]
   have b:decide (q.1≠k)=true:=by simp[e']
   rw[if_pos a,if_pos b];exact .cons ⟨h1,h2⟩ ih
theorem KV.qF{kvs:List (κ×V)}{vs:List (κ×ag)}(r:KV kvs vs):kvs.map (·.1)=vs.map (·.1):=by
 unfold KV at r;induction r with
 |nil=>rfl
 |cons h t ih=>rw[d6,d6,ih,h.1]
theorem KV.length{kvs:List (κ×V)}{vs:List (κ×ag)}(r:KV kvs vs):kvs.length=vs.length:=Paired.length r
end
theorem qG{P:bv}{w:bf}{k:Key}{u:ag}(r:RelV (kV k) u):(fL P w).is k u=true:=by
 cases k with
 |inl i=>obtain⟨t,e⟩:=(show ∃t,u=kh i t from r);subst e;exact PX P w i t
 |inr x=>obtain⟨t,e⟩:=(show ∃t,u=xR x t from r);subst e;exact zy P w x t
theorem EM{P:bv}{w:bf}:∀{ks:List Key}{us:List ag},bt (ks.map kV) us->ItemsAre (fL P w) ks us
 |[],_,r=>by rw[CD]at r;cases r;exact .nil
 |k::ks,_,r=>by
  rw[d6]at r;cases r with
  |cons h t=>exact .cons (qG h) (EM t)
abbrev KT(H:Hp):List (List Key×V)->List (List Key×ae×ag)->Prop:=Paired fun p q=>p.1=q.1/\H q.2.1=some (.aj (p.1.map kV))/\RelV p.2 q.2.2
theorem KT.val{H:Hp}{kvs:List (List Key×V)}{xs:List (List Key×ae×ag)}(r:KT H kvs xs)(k:List Key):f9 (cK kvs k) ((atKey xs k).map (·.2)):=by
 induction r with
 |nil=>exact fg
 |@cons p q ps qs h t ih=>
  obtain⟨h1,_,h2⟩:=h;by_cases e:p.1=k
  ·have e':q.1=k:=h1.symm.trans e;have b:atKey (q::qs) k=some q.2:=by simp[atKey,oJ,e']
   rw[kD e,b];exact h2
  ·have e':¬q.1=k:=fun z=>e (h1.trans z);have b:atKey (q::qs) k=atKey qs k:=by simp[atKey,oJ,e']
   rw[kE e,b];exact ih
theorem KT.Am{H:Hp}{kvs:List (List Key×V)}{xs:List (List Key×ae×ag)}(r:KT H kvs xs)(k:List Key){y:V}{u:ag}(ry:RelV y u):
  KT H (kvs.map fun kv=>if kv.1=k then(kv.1,y)else kv) (xs.map (putAt k u)):=by
 induction r with
 |nil=>exact .nil
 |@cons p q ps qs h t ih=>
  rw[d6,d6];refine .cons ?_ ih;obtain⟨h1,h2,h3⟩:=h;unfold putAt;by_cases e:p.1=k
  ·rw[if_pos e,if_pos (h1.symm.trans e)];exact⟨h1,h2,ry⟩
  ·rw[if_neg e,if_neg (fun z=>e (h1.trans z))];exact⟨h1,h2,h3⟩
theorem KT.An{H:Hp}{kvs:List (List Key×V)}{xs:List (List Key×ae×ag)}(r:KT H kvs xs)(k:List Key){b:ae}{y:V}{u:ag}(hb:H b=some (.aj (k.map kV)))(ry:RelV y u):
  KT H (ck kvs k y) (storedH xs k b u):=by
 have e:(kvs.any fun kv=>decide (kv.1=k))=(atKey xs k).isSome:=by
  rw[nH,(r.val k).tw,OH]
 unfold ck storedH;rw[e];by_cases q:(atKey xs k).isSome=true
 ·rw[if_pos q,if_pos q];exact r.Am k ry
 ·rw[if_neg q,if_neg q];exact Paired.snoc r ⟨rfl,hb,ry⟩
theorem KT.keeps{H H':Hp}{kvs:List (List Key×V)}{xs:List (List Key×ae×ag)}(r:KT H kvs xs)(ht:∀b ys,H b=some (.aj ys)->H' b=some (.aj ys)):KT H' kvs xs:=
 Paired.DQ r fun _ _ z=>⟨z.1,ht _ _ z.2.1,z.2.2⟩
section
variable{P:bv}{w:bf}{H:Hp}{h:Heap}{a:ae}
theorem EN{u:HO}(ok:dv P w H h)(e:Rd H a u):dP P w H h a u:=e.ok ok
theorem mf{kvs:List (Key×V)}(ok:dv P w H h)(e:Rd H a (.dK kvs)):kvs.length<=bE/\(a==sysModules)=false/\∃vs,KV kvs vs/\h.DictOf (fL P w) a vs:=
 show dP P w H h a (.dK kvs)from EN ok e
theorem Ao{kvs:List (Key×V)}(ok:dv P w H h)(e:H a=some (.dK kvs)):kvs.length<=bE/\(a==sysModules)=false/\∃vs,KV kvs vs/\h.DictOf (fL P w) a vs:=mf ok (.inl e)
theorem qH{ks:List Key}(ok:dv P w H h)(e:H a=some (.aj (ks.map kV))):(tupleKind (fL P w)).is h ks a:=by
 obtain⟨_,its,r,o,h1,h2,n,h3⟩:=(show dP P w H h a (.aj (ks.map kV))from ok a _ e);exact⟨o,its.toArray,n,h1,h2,h3,by simpa using EM r⟩
theorem pq{kvs:List (List Key×V)}(ok:dv P w H h)(e:Rd H a (.dT kvs)):kvs.length<=bE/\(a==sysModules)=false/\
  ∃xs,KT H kvs xs/\h.DictOfH (tupleKind (fL P w)) a xs:=by
 obtain⟨z,y,xs,r,o,es,ep,h1,h2,h3,h4,h5⟩:=(show dP P w H h a (.dT kvs)from EN ok e);refine⟨z,y,xs,r,o,es,ep,h1,h2,h3,h4,fun x hx=>?_,h5⟩;have all:∀{l:List (List Key×V)}{m:List (List Key×ae×ag)},KT H l m->∀x∈m,(tupleKind (fL P w)).is h x.1 x.2.1:=by
  intro l m q;induction q with
  |nil=>intro x hx;exact nomatch hx
  |@cons p q ps qs hq t ih=>
   intro x hx;rcases br.mp hx with e|hx
   ·subst e;exact qH ok (by rw[<-hq.1];exact hq.2.1)
   ·exact ih x hx
 exact all r x hx
theorem Rm{kvs:List (List Key×V)}(ok:dv P w H h)(e:H a=some (.dT kvs)):kvs.length<=bE/\(a==sysModules)=false/\
  ∃xs,KT H kvs xs/\h.DictOfH (tupleKind (fL P w)) a xs:=pq ok (.inl e)
end
def eE(H:Hp)(a:ae)(y:V)(r:Option V):Prop:=
 (∃kvs k,Rd H a (.dK kvs)/\y=kV k/\r=cK kvs k)\/∃kvs k b,Rd H a (.dT kvs)/\y=.ref b/\H b=some (.aj (k.map kV))/\r=cK kvs k
def jA(H:Hp)(a:ae)(y v:V)(H':Hp):Prop:=
 (∃kvs k,H a=some (.dK kvs)/\y=kV k/\kvs.length<bE/\H'=aq H a (.dK (ck kvs k v)))\/
 ∃kvs k b,H a=some (.dT kvs)/\y=.ref b/\H b=some (.aj (k.map kV))/\kvs.length<bE/\H'=aq H a (.dT (ck kvs k v))
theorem eE.k{H:Hp}{a:ae}{kvs:List (Key×V)}{k:Key}(e:H a=some (.dK kvs)):eE H a (kV k) (cK kvs k):=.inl ⟨kvs,k,.inl e,rfl,rfl⟩
theorem eE.t{H:Hp}{a b:ae}{kvs:List (List Key×V)}{k:List Key}(e:H a=some (.dT kvs))(eb:H b=some (.aj (k.map kV))):eE H a (.ref b) (cK kvs k):=.inr ⟨kvs,k,b,.inl e,rfl,eb,rfl⟩
theorem jA.k{H:Hp}{a:ae}{kvs:List (Key×V)}{k:Key}{v:V}(e:H a=some (.dK kvs))(hl:kvs.length<bE):jA H a (kV k) v (aq H a (.dK (ck kvs k v))):=.inl ⟨kvs,k,e,rfl,hl,rfl⟩
theorem jA.t{H:Hp}{a b:ae}{kvs:List (List Key×V)}{k:List Key}{v:V}(e:H a=some (.dT kvs))(eb:H b=some (.aj (k.map kV)))(hl:kvs.length<bE):
  jA H a (.ref b) v (aq H a (.dT (ck kvs k v))):=.inr ⟨kvs,k,b,e,rfl,eb,hl,rfl⟩
section
variable{X:Cx}{pins:List (ae×a9)}{σ:St}{H:Hp}{s:ay}{a:ae}{y v:V}{u r:ag}{o:Option V}{A:cv}{E:ag->ay->Prop}
theorem Inv.Ap(I:Inv X pins σ H s):sysModules<s.heap.objs.size:=by
 have h:dE<s.heap.objs.size:=(I.eV.ku.keeps I.bk).lt;exact Nat.lt_trans (by decide) h
theorem Rn{Q:ag->ay->Prop}(hu:A.units+1<cLine)(I:Inv X pins σ H s)(g:eE H a y (some v))(ry:RelV y u)(h:∀w' s',Inv X pins σ H s'->RelV v w'->Q w' s'):
  aW (aU X.prog X.w) A (getItem (.ref a) u) Q E s:=by
 rcases g with⟨kvs,k,e,ey,l⟩|⟨kvs,k,b,e,ey,eb,l⟩
 ·subst ey;obtain⟨z,hd,vs,dr,dd⟩:=mf I.aT e;obtain⟨w',hw,rw'⟩:=f9.zV (v:=v) (o:=valueAt vs k) (by rw[l];exact dr.val k);exact wpAny_getItem_of (qG ry) dd.mapOf hw (h w' _ (I.cV _) rw')
 ·subst ey;cases(show u=b7 b from ry);obtain⟨z,hd,xs,dr,dd⟩:=pq I.aT e;obtain⟨w',hw,rw'⟩:=f9.zV (v:=v) (o:=(atKey xs k).map (·.2)) (by rw[l];exact dr.val k);obtain⟨p,hp,hp2⟩:=jt.mp hw;refine wpAny_getItem_heap (yi hu) (qH I.aT eb) dd hp ?_;rw[hp2];exact h w' _ (I.cV _) rw'
theorem Ro{Q:ag->ay->Prop}(hu:A.units+1<cLine)(I:Inv X pins σ H s)(g:eE H a y o)(ry:RelV y u)(h:∀s',Inv X pins σ H s'->Q (.bool o.isSome) s'):
  aW (aU X.prog X.w) A (fA .In u (.ref a)) Q E s:=by
 rcases g with⟨kvs,k,e,ey,l⟩|⟨kvs,k,b,e,ey,eb,l⟩
 ·subst ey;obtain⟨z,hd,vs,dr,dd⟩:=mf I.aT e;refine wpAny_in_of (qG ry) hd dd.mapOf ?_;rw[<-(dr.val k).tw,<-l];exact h _ (I.cV _)
 ·subst ey;cases(show u=b7 b from ry);obtain⟨z,hd,xs,dr,dd⟩:=pq I.aT e;refine wpAny_in_heap (yi hu) (qH I.aT eb) hd dd ?_;have q:=(dr.val k).tw;rw[OH]at q;rw[<-q,<-l];exact h _ (I.cV _)
theorem Rp{Q:ag->ay->Prop}(hu:A.units+1<cLine)(I:Inv X pins σ H s)(g:eE H a y o)(ry:RelV y u)(h:∀s',Inv X pins σ H s'->Q (.bool (!o.isSome)) s'):
  aW (aU X.prog X.w) A (fA .NotIn u (.ref a)) Q E s:=by
 rcases g with⟨kvs,k,e,ey,l⟩|⟨kvs,k,b,e,ey,eb,l⟩
 ·subst ey;obtain⟨z,hd,vs,dr,dd⟩:=mf I.aT e;refine wpAny_notIn_of (qG ry) hd dd.mapOf ?_;rw[<-(dr.val k).tw,<-l];exact h _ (I.cV _)
 ·subst ey;cases(show u=b7 b from ry);obtain⟨z,hd,xs,dr,dd⟩:=pq I.aT e;refine wpAny_notIn_heap (yi hu) (qH I.aT eb) hd dd ?_;have q:=(dr.val k).tw;rw[OH]at q;rw[<-q,<-l];exact h _ (I.cV _)
theorem Aq{h':Heap}{t':Nat}{ob:HO}(I:Inv X pins σ H s)(mu:sF (H a))(hs:CG a s.heap h')(he:∃q,h'.get? a=some q)(new:dP X.prog X.w (aq H a ob) h' a ob):
  Inv X pins σ (aq H a ob) {s with heap:=h',toks:=t'}:=
 I.lZ (x:=a) (e:=a) mu (.inl rfl) (fun b q hb z=>(hs.2 b hb).trans z) he new
theorem vN{P:bv}{w:bf}{H':Hp}{h':Heap}{kvs:List (Key×V)}{vs:List (Key×ag)}(z:kvs.length<=bE)(hd:(a==sysModules)=false)(dr:KV kvs vs)(dd:h'.DictOf (fL P w) a vs):
  dP P w H' h' a (.dK kvs):=⟨z,hd,vs,dr,dd⟩
theorem Rq{H':Hp}{Q:Unit->ay->Prop}(hu:A.units+1<cLine)(I:Inv X pins σ H s)(g:jA H a y v H')(ry:RelV y u)(rv:RelV v r)(h:∀s',Inv X pins σ H' s'->Q () s'):
  aW (aU X.prog X.w) A (setItem (.ref a) u r) Q E s:=by
 rcases g with⟨kvs,k,e,ey,l,eH⟩|⟨kvs,k,b,e,ey,eb,l,eH⟩
 ·subst ey eH;obtain⟨z,hd,vs,dr,dd⟩:=Ao I.aT e;have hz:vs.length<=sizeLine:=by rw[<-dr.length];exact z
  have hl:(ck kvs k v).length<=sizeLine:=by have:=EL kvs k v;lia
  refine wpAny_setItem_pairs (hsz:=hz) (qG ry) dd fun h' dd' hs=>h _ ?_;have he:∃q,h'.get? a=some q:=let⟨q,_,_,hq,_⟩:=dd';⟨q,hq⟩;exact Aq I (by rw[e];exact fg) hs he (vN hl hd (dr.An k rv) dd')
 ·subst ey eH;cases(show u=b7 b from ry);obtain⟨z,hd,xs,dr,dd⟩:=Rm I.aT e;have hz:xs.length<=sizeLine:=by rw[<-Paired.length dr];exact z
  have hl:(ck kvs k v).length<=sizeLine:=by have:=EL kvs k v;lia
  refine wpAny_setItem_heap (hsz:=hz) (yi hu) (qH I.aT eb) dd fun h' dd' hs=>h _ ?_;obtain⟨q,es,ep,hq,h2,h3,h4,_,h5⟩:=dd';refine Aq I (by rw[e];exact fg) hs ⟨q,hq⟩ ⟨hl,hd,_,(dr.An k eb rv).keeps fun c ys ec=>?_,q,es,ep,hq,h2,h3,h4,h5⟩;rw[aJ (lY ec e (fun z=>nomatch z))];exact ec
end
section
variable{X:Cx}{pins:List (ae×a9)}{σ:St}{H:Hp}{s:ay}{a:ae}{kvs:List (Key×V)}{k:Key}{u:ag}{A:cv}{E:ag->ay->Prop}
theorem Rr{Q:ag->ay->Prop}(I:Inv X pins σ H s)(e:Rd H a (.dK kvs))(h:∀t s',Inv X pins σ H s'->Q (.int kvs.length t) s'):aW (aU X.prog X.w) A (call (.builtin "len") [.ref a]) Q E s:=by
 obtain⟨z,hd,vs,dr,dd⟩:=mf I.aT e;refine call_len_dict hd dd (by rw[<-dr.length];rw[bR]at z;lia) ?_;rw[<-dr.length];exact h _ _ (I.cV _)
end
def EO(i:bq):Prop:=∀ov iv,subscripted i false ov iv=operate [ov,iv] (getItem ov iv)
theorem Rt{prog:bv}{w:bf}{A:cv}{E:ag->ay->Prop}{s:ay}{ah:Env}{value slice:bq}{pos:cx}{T id:String}{Q:ag->ay->Prop}
(hl:typeLookup (.type T) "__getitem__"=pure (some (.builtin id)))(hs:EO slice)
(h:aW (aU prog w) A (eval value ah) (fun o s₁=>aW (aU prog w) A (eval slice ah) (fun i s₂=>s₂.TypeIs o T/\aW (aU prog w) A (getItem o i) Q E s₂) E s₁) E s):
  aW (aU prog w) A (eval (.Subscript value slice pos) ah) Q E s:=by
 refine Subscript_ (jH h (fun o s₁ h₁=>jH h₁ (fun i s₂ h₂=>?_) fun _ _ x=>x) fun _ _ x=>x);obtain⟨hT,h₂⟩:=h₂;unfold subscriptTail;refine bT ?_;rw[getitemInPython_of_ne hT.not_modules];refine bT (wpAny_specialOf hT hl ?_);have fin:aW (aU prog w) A (subscripted slice false o i) (fun r s₃=>aW (aU prog w) A (letTemporaryGo value o r >>= fun _=>pure r) Q E s₃) E s₂:=by
  rw[hs o i];exact wpAny_operating (jH h₂ (fun r s₃ h₃=>bT (wpAny_letTemporaryGo (dW h₃))) fun _ _ x=>x)
 first
  |exact dW (bT fin)
  |exact bT (dW (bT fin))
  |exact bT fin
theorem Ru{X:Cx}{pins:List (ae×a9)}{σ:St}{H:Hp}{s:ay}{a:ae}{y:V}{o:Option V}(I:Inv X pins σ H s)(g:eE H a y o):s.TypeIs (.ref a) "dict":=by
 rcases g with⟨kvs,k,e,_,_⟩|⟨kvs,k,b,e,_,_,_⟩
 ·obtain⟨_,_,vs,_,dd⟩:=mf I.aT e;exact dd.typeIs
 ·obtain⟨_,_,xs,_,dd⟩:=pq I.aT e;exact dd.typeIs
def qI(td ty:TE):TE:=fun σ H Q=>td σ H fun x H1=>ty σ H1 fun y H2=>∃a v,x=.ref a/\eE H2 a y (some v)/\Q v H2
def tz(ty td:TE):TE:=fun σ H Q=>ty σ H fun y H1=>td σ H1 fun x H2=>∃a o,x=.ref a/\eE H2 a y o/\Q (.bl o.isSome) H2
def nI(ty td:TE):TE:=fun σ H Q=>ty σ H fun y H1=>td σ H1 fun x H2=>∃a o,x=.ref a/\eE H2 a y o/\Q (.bl (!o.isSome)) H2
def Ar(td ty tv:TE):TS:=fun D σ H=>tv σ H fun v H1=>td σ H1 fun x H2=>ty σ H2 fun y H3=>∃a H4,x=.ref a/\jA H3 a y v H4/\D.nx σ H4
section
variable{X:Cx}{o i e value:bq}{pos pos' tpos:cx}{td ty tv:TE}
theorem EQ(hu:X.A.units+1<cLine)(ho:PE X o td)(hi:PE X i ty)(hs:EO i):PE X (.Subscript o i pos) (qI td ty):=by
 walk_at "ae";refine Rt PySem.F.slot_dict_getitem.lookup hs (a0 (ho pins s σ H _ I h) fun u s1 ⟨x,H1,I1,rx,q1⟩=>a0 (hi pins s1 σ H1 _ I1 q1) fun iv s2 qq=>?_);obtain⟨y,H2,I2,ry,a,v,ex,g,q2⟩:=qq;subst ex;obtain rfl:u=b7 a:=rx;exact⟨Ru I2 g,Rn hu I2 g ry fun w' s3 I3 rw'=>⟨v,H2,I3,rw',q2⟩⟩
theorem Rv(hu:X.A.units+1<cLine)(hi:PE X i ty)(ho:PE X o td):PC X .In i o (tz ty td):=by
 walk_at "ae";refine a0 (hi pins s σ H _ I h) fun iv s1 ⟨y,H1,I1,ry,q1⟩=>a0 (ho pins s1 σ H1 _ I1 q1) fun u s2 qq=>?_;obtain⟨x,H2,I2,rx,a,ov,ex,g,q2⟩:=qq;subst ex;obtain rfl:u=b7 a:=rx;exact Ro hu I2 g ry fun s3 I3=>⟨.bl ov.isSome,H2,I3,rfl,q2⟩
theorem tD(hu:X.A.units+1<cLine)(hi:PE X i ty)(ho:PE X o td):PC X .NotIn i o (nI ty td):=by
 walk_at "ae";refine a0 (hi pins s σ H _ I h) fun iv s1 ⟨y,H1,I1,ry,q1⟩=>a0 (ho pins s1 σ H1 _ I1 q1) fun u s2 qq=>?_;obtain⟨x,H2,I2,rx,a,ov,ex,g,q2⟩:=qq;subst ex;obtain rfl:u=b7 a:=rx;exact Rp hu I2 g ry fun s3 I3=>⟨.bl (!ov.isSome),H2,I3,rfl,q2⟩
theorem As(hu:X.A.units+1<cLine)(ho:PE X o td)(hi:PE X i ty)(hv:PE X value tv)(hs:swapsWith value (some (.Subscript o i pos')) pos.line X.ah=pure false):
  PS X (.Assign [.Subscript o i pos'] value pos) (Ar td ty tv):=by
 walk_at "aq";refine wpAny_Assign_Subscript (a0 (hv pins s σ H _ I h) fun r s1 ⟨v,H1,I1,rv,q1⟩=>a0 (ho pins s1 σ H1 _ I1 q1) fun u s2 ⟨x,H2,I2,rx,q2⟩=>a0 (hi pins s2 σ H2 _ I2 q2) fun iv s3 qq=>?_) hs;obtain⟨y,H3,I3,ry,a,H4,ex,g,q3⟩:=qq;subst ex;obtain rfl:u=b7 a:=rx;exact Rq hu I3 g ry rv fun s4 I4=>⟨σ,H4,I4,q3⟩
end
theorem Rw{P:bv}{w:bf}{H:Hp}(h:Heap)(hb:sysModules<h.objs.size):dP P w H (h.push {cls:=.type "dict",data:=.dict #[]}) h.objs.size (.dK []):=
 ⟨cI _,beq_eq_false_iff_ne.mpr (cM (eX hb)),[],.nil,Heap.DictOf.new h⟩
def zw:TE:=fun _ H Q=>∀p,H p=none->Q (.ref p) (aq H p (.dK []))
section
variable{X:Cx}{pos:cx}
theorem qJ:PE X (.Dict [] [] pos) zw:=fun pins s σ H Q I h=>
 wpAny_Dict_empty ⟨.ref s.heap.objs.size,_,I.gN (a:=s.heap.objs.size) (o:=.dK []) (t':=s.toks) (fun _ _ q=>eP _ q) (bY _) (Rw s.heap I.Ap),rfl,h _ (I.aT.fresh (bY _))⟩
end
structure M1(X:Cx)(o:bq)(m:af)(apos:cx)(e:bq)(cpos:cx):Prop where
 base:km o m X.ah (eval o X.ah)=eval o X.ah
 ER:((dU cpos (b8 [e] X.ah)).all (fun x=> !x.1)&&(backToKw cpos (jr [] X.ah)).all (fun x=>x.1.isSome)
  &&decide (([e]:List bq).length+([]:List rN).length+(if([]:List rN).isEmpty then 0 else 1)<30))=true
 line:(apos.endLine==cpos.line)=true
 ES:dU cpos (b8 [e] X.ah)=[(false,eval e X.ah)]
structure M2(X:Cx)(o:bq)(m:af)(apos:cx)(e f:bq)(cpos:cx):Prop where
 base:km o m X.ah (eval o X.ah)=eval o X.ah
 ER:((dU cpos (b8 [e,f] X.ah)).all (fun x=> !x.1)&&(backToKw cpos (jr [] X.ah)).all (fun x=>x.1.isSome)
  &&decide (([e,f]:List bq).length+([]:List rN).length+(if([]:List rN).isEmpty then 0 else 1)<30))=true
 line:(apos.endLine==cpos.line)=true
 ES:dU cpos (b8 [e,f] X.ah)=[(false,eval e X.ah),(false,eval f X.ah)]
def Au(H:Hp)(a:ae):Prop:=(∃kvs,Rd H a (.dK kvs))\/∃kvs,Rd H a (.dT kvs)
theorem Rx{X:Cx}{pins:List (ae×a9)}{σ:St}{H:Hp}{s:ay}{a:ae}(I:Inv X pins σ H s)(d:Au H a):
  s.TypeIs (.ref a) "dict"/\(∀b,b7 a=.ref b->∃ob,s.heap.get? b=some ob/\ob.dict=none)/\(a==sysModules)=false:=by
 rcases d with⟨kvs,e⟩|⟨kvs,e⟩
 ·obtain⟨_,hd,vs,_,dd⟩:=mf I.aT e;refine⟨dd.typeIs,fun b q=>?_,hd⟩;cases q;obtain⟨ob,_,_,h1,h2,_⟩:=dd;exact⟨ob,h1,h2.2.1⟩
 ·obtain⟨_,hd,xs,_,dd⟩:=pq I.aT e;refine⟨dd.typeIs,fun b q=>?_,hd⟩;cases q;obtain⟨ob,_,_,h1,h2,_⟩:=dd;exact⟨ob,h1,h2.2.1⟩
section
variable{X:Cx}{pins:List (ae×a9)}{σ:St}{H:Hp}{s:ay}{a:ae}{y d:V}{u r:ag}{o:Option V}{A:cv}{E:ag->ay->Prop}
theorem Ry{Q:ag->ay->Prop}(hu:A.units+1<cLine)(I:Inv X pins σ H s)(g:eE H a y o)(ry:RelV y u)(h:∀w' s',Inv X pins σ H s'->RelV (o.getD .aO) w'->Q w' s'):
  aW (aU X.prog X.w) A (call (.builtin "dict.get") [.ref a,u]) Q E s:=by
 rcases g with⟨kvs,k,e,ey,l⟩|⟨kvs,k,b,e,ey,eb,l⟩
 ·subst ey;obtain⟨z,hd,vs,dr,dd⟩:=mf I.aT e;refine call_meetsIn OI dd.typeIs abo (abp _ _) (meets_dict_get (fL X.prog X.w) a (qG ry) hd) ⟨_,dd.mapOf,h _ _ (I.cV _) ?_⟩;rw[l];exact(dr.val k).getD rfl
 ·subst ey;cases(show u=b7 b from ry);obtain⟨z,hd,xs,dr,dd⟩:=pq I.aT e;refine call_meetsIn OI dd.typeIs abo (abp _ _) (meetsH_dict_get (tupleKind (fL X.prog X.w)) a b hd) ⟨yi hu,k,xs,qH I.aT eb,dd,h _ _ (I.cV _) ?_⟩;rw[l];exact(dr.val k).getD rfl
end
def zq(td ty:TE):TE:=fun σ H Q=>td σ H fun x H1=>∃a,x=.ref a/\Au H1 a/\ty σ H1 fun y H2=>∃o,eE H2 a y o/\Q (o.getD .aO) H2
section
variable{X:Cx}{o e f:bq}{apos cpos:cx}{td ty tx:TE}
theorem Rz(hu:X.A.units+1<cLine)(ho:PE X o td)(he:PE X e ty)(m:M1 X o "get" apos e cpos):PE X (.Call (.Attribute o "get" apos) [e] [] cpos) (zq td ty):=by
 walk_at "ae";refine wpAny_Call_method m.base m.ER m.line CP OI PySem.F.type_dict_get (a0 (ho pins s σ H _ I h) fun u s1 qq=>?_);obtain⟨x,H1,I1,rx,a,ex,d,q1⟩:=qq;subst ex;obtain rfl:u=b7 a:=rx;obtain⟨t1,t2,_⟩:=Rx I1 d;refine⟨t1,t2,?_⟩;rw[m.ES];refine yd rfl (OD (Oy (a0 (he pins s1 σ H1 _ I1 q1) fun iv s2 ⟨y,H2,I2,ry,ov,g,q2⟩=>Ox ?_)));exact Ry hu I2 g ry fun w' s3 I3 rw'=>⟨_,H2,I3,rw',q2⟩
end
section
variable{X:Cx}{pins:List (ae×a9)}{σ:St}{H:Hp}{s:ay}{a:ae}{kvs:List (Key×V)}{A:cv}{E:ag->ay->Prop}
theorem RA{Q:ag->ay->Prop}(I:Inv X pins σ H s)(e:Rd H a (.dK kvs))(h:∀p s',H p=none->Inv X pins σ (aq H p (.dK kvs)) s'->Q (.ref p) s'):aW (aU X.prog X.w) A (call (.type "dict") [.ref a]) Q E s:=by
 obtain⟨z,hd,vs,dr,dd⟩:=mf I.aT e;refine kt_call_dict hd dd (by rw[<-dr.length];exact z) fun h' dd' hs=>?_;refine h _ _ (I.aT.fresh (bY _)) (I.gN (a:=s.heap.objs.size) (o:=.dK kvs) (t':=s.toks) (fun b q hq=>?_) (bY _) (vN z (beq_eq_false_iff_ne.mpr (cM (eX I.Ap))) dr dd'));exact(hs.2 b (eX (cY hq))).trans (eP _ hq)
end
section
variable{X:Cx}{pins:List (ae×a9)}{σ:St}{H:Hp}{s:ay}{a:ae}{y:V}{u:ag}{A:cv}{E:ag->ay->Prop}
end
end L2
namespace L2
open PySem PySem.Spec PyProof.Rows
section
variable{prog:bv}{w:bf}{A:cv}{E:ag->ay->Prop}
end
section
variable{X:Cx}
end
end L2
namespace L2
open PySem PySem.Spec PyProof.Rows
theorem RB:jo "reversed"=some (.type "reversed"):=by decide +kernel
section
variable{X:Cx}{pins:List (ae×a9)}{σ:St}{H:Hp}{s:ay}{h':Heap}
end
section
variable{X:Cx}
theorem Av{tg:bq}{pins:List (ae×a9)}{σ:St}{H:Hp}{s:ay}{R:It->Hp->Prop}{J:It}{tn:Nat->Heap->Prop}{tk:Nat}(I:Inv X pins σ H s)(o:a9)
(T:qw X.prog X.w X.K tg J [s.heap.objs.size] s.heap.objs.size tn)(st:tn 0 (s.heap.push o))(q:R J H):zL X pins σ tg R (.ref s.heap.objs.size) {s with heap:=s.heap.push o,toks:=tk}:=by
 refine⟨s.heap.objs.size,[s.heap.objs.size],tn,J,H,rfl,I.kept fun b ob e=>eP _ e,T,st,fun b hb=>?_,q⟩;have e:b=s.heap.objs.size:=by simpa using hb
 subst e;exact I.vq (bY _) (I.aT.fresh (bY _))
end
def ET(i j c:Int)(n:Nat):Prop:=c≠0/\c.natAbs<1073741824/\Builtin.Range.small i j c=true/\Builtin.Range.rangeSize i j c=n
theorem ET.neg{i j:Int}(ha: -(2^62)<=i)(ha':i<2^62)(hb: -(2^62)<=j)(hb':j<2^62):ET i j (-1) (i-j).toNat:=
 ⟨by decide,by decide,PySem.W.small_down ha ha' hb hb',PySem.W.rangeSize_downNat i j⟩
section
variable{X:Cx}{tg:bq}
end
def tE(K:ax)(a:ae)(n:Nat):It:=
 ⟨fun i H=>i<n/\∃(xs:List V)(x:V),bV K H a xs/\xs[n-1-i]? =some x,fun i H x H'=>H'=H/\∀xs,bV K H a xs->xs[n-1-i]? =some x,fun i _=>n<=i⟩
theorem RD{P:bv}{w:bf}{K:ax}{tg:bq}(a it:ae)(n:Nat):qw P w K tg (tE K a n) [it] it (fun i h=>i<=n/\h.IsRevIter it a ((n:Int)-1-(i:Nat))) where
 mem:=by simp
 obj:=fun i h st b hb=>by
  have e:b=it:=by simpa using hb
  subst e;obtain⟨_,o,e,c,d⟩:=st;exact⟨o,e,fun v z=>by rw[d]at z;cases z⟩
 keep:=fun i h h' st k=>⟨st.1,st.2.at fun o e=>k it (by simp) o e⟩
 item:=by
  intro X hP hw hK hc i pins s σ H E I hf st hg;subst hP hw hK;obtain⟨hin,xs,x,hq,hx⟩:=hg;obtain⟨its,rv,p,hz⟩:=I.list hq;obtain⟨u,hu,ru⟩:=rv.get hx;obtain⟨f0,f1,f2,f3,f4,f5⟩:=hf it (by simp);obtain⟨_,hit⟩:=st;have e1:(n:Int)-1-((i:Nat):Int)=((n-1-i:Nat):Int):=by lia
  rw[e1]at hit;refine wpAny_pyNext_rev_item hit p.isList (x:=u) (by simpa using hu) fun h' st' sb=>?_;have e2:((n-1-i:Nat):Int)-1=(n:Int)-1-((i+1:Nat):Int):=by lia
  rw[e2]at st';have I1:Inv X pins σ H {s with heap:=h'}:=I.kz (t':=s.toks) (fun b o hb e=>(sb.2 b hb).trans e) f0 f1 f3 f4 f5;obtain⟨o,e,c,d⟩:=id st';exact⟨u,rfl,vw (s:={s with heap:=h'}) e c d (by decide) ⟨x,H,I1,ru,⟨rfl,fun ys hy=>by rw[I.DW hy hq];exact hx⟩,⟨hin,st'⟩,fun b hb=>(hf b hb).1⟩⟩
 done:=by
  intro X hP hw hK hc i pins s σ H E I hf st hg;subst hP hw hK;obtain⟨f0,f1,f2,f3,f4,f5⟩:=hf it (by simp);obtain⟨hin,hit⟩:=st;have hge:n<=i:=hg;have e1:(n:Int)-1-((i:Nat):Int)= -1:=by lia
  rw[e1]at hit;exact wpAny_pyNext_rev_end (I.ok.hd hc) hit fun h' eb=>⟨rfl,I.kz (t':=s.toks) (fun b o hb e=>eb b o hb e) f0 f1 f3 f4 f5⟩
 gc:=fun A i s Q E st h=>wpAny_pyIter_revIter st.2 h
def RE(K:ax)(ta:TA):TI:=fun σ H R=>ta σ H fun vs H1=>∃(a:ae)(xs:List V),vs=[.ref a]/\bV K H1 a xs/\R (tE K a xs.length) H1
section
variable{X:Cx}{tg:bq}
theorem RF{e:bq}{ta:TA}{p pos:cx}(hg:Gl X "reversed")(hm:X.mg "reversed"=none)(ha:PA X [e] ta)(hs:b8 [e] X.ah=[(false,eval e X.ah)]:=by rfl):PI X tg (.Call (.Name "reversed" p) [e] [] pos) (RE X.K ta):=by
 intro pins s σ H R I h;refine Call_ (zC I hg hm RB (abi (a0 (ha pos pins s σ H _ I h) fun us s1 qq=>?_) hs rfl));obtain⟨vs,H1,I1,r1,q1⟩:=qq;obtain⟨a,xs,e,hq,q⟩:=q1;subst e;cases r1 with
 |cons r rr=>
  cases rr;cases r;obtain⟨its,rv,p',hz⟩:=I1.list hq;have hl:=rv.length;have e1:((its.toArray.size:Nat):Int)-1=(xs.length:Int)-1-((0:Nat):Int):=by simp only[dO];lia
  refine call_reversed_list p'.isList (wpAny_pyIter_revIter (l:=a) (i:=((its.toArray.size:Nat):Int)-1) ⟨_,iS _ rfl,rfl,rfl⟩ ?_);refine Av (tk:=s1.toks) I1 _ (RD a _ xs.length) ⟨cI _,?_⟩ q;rw[<-e1];exact⟨_,iS _ rfl,rfl,rfl⟩
end
def tF(x:af):It:=⟨fun i _=>i<x.cps.size,fun i H v H'=>H'=H/\∃c,x.cps[i]? =some c/\v=.str ⟨#[c]⟩,fun i _=>x.cps.size<=i⟩
theorem EU{P:bv}{w:bf}{K:ax}{tg:bq}(it:ae)(x:af)(t:Tok)(ty:String)(hty:ty="str_ascii_iterator"\/ty="str_iterator"):
  qw P w K tg (tF x) [it] it (fun i h=>h.IsStrIter it ty x t i) where
 mem:=by simp
 obj:=fun i h st b hb=>by
  have e:b=it:=by simpa using hb
  subst e;obtain⟨o,e,c,d⟩:=st;exact⟨o,e,fun v z=>by rw[d]at z;cases z⟩
 keep:=fun i h h' st k=>let⟨o,ho,r⟩:=st;⟨o,k it (by simp) o ho,r⟩
 item:=by
  intro X hP hw hK hc i pins s σ H E I hf st hg;subst hP hw hK;obtain⟨f0,f1,f2,f3,f4,f5⟩:=hf it (by simp);have W:Walks X.prog X.w X.A it [it] [it] x.cps.size (SignAt x) (fun i h=>h.IsStrIter it ty x t i):=by
   rcases hty with e|e
   ·rw[e];exact Walks.strAscii (I.ok.hd hc) it x t
   ·rw[e];exact Walks.strWide (I.ok.hd hc) it x t
  have hno:["enumerate","zip","dict_itemiterator","dict_reverseitemiterator","odict_iterator","itertools.zip_longest","itertools.pairwise"].contains ty=false:=by
   rcases hty with e|e
   ·rw[e];decide
   ·rw[e];decide
  refine W.item i s _ _ hg st fun v h' tk hv st' kk=>?_;obtain⟨c,u,hcx,rfl⟩:=hv;have I1:Inv X pins σ H {s with heap:=h',toks:=tk}:=I.kz (fun b o hb e=>kk b o (by simpa using hb) e) f0 f1 f3 f4 f5;obtain⟨oi,e,cc,dd⟩:=id st';exact⟨_,rfl,vw (s:={s with heap:=h',toks:=tk}) e cc dd hno ⟨.str ⟨#[c]⟩,H,I1,⟨u,rfl⟩,⟨rfl,c,hcx,rfl⟩,st',fun b hb=>(hf b hb).1⟩⟩
 done:=by
  intro X hP hw hK hc i pins s σ H E I hf st hg;subst hP hw hK;obtain⟨f0,f1,f2,f3,f4,f5⟩:=hf it (by simp);have hx:x.cps[i]? =none:=Array.getElem?_eq_none hg
  rcases hty with e|e
  ·rw[e]at st;exact wpAny_pyNext_ascii_end (I.ok.hd hc) st hx fun h' eb=>⟨rfl,I.kz (t':=s.toks) (fun b o hb e=>eb b o hb e) f0 f1 f3 f4 f5⟩
  ·rw[e]at st;exact wpAny_pyNext_wide_end (I.ok.hd hc) st hx fun h' eb=>⟨rfl,I.kz (t':=s.toks) (fun b o hb e=>eb b o hb e) f0 f1 f3 f4 f5⟩
 gc:=fun A i s Q E st h=>by
  rcases hty with e|e
  ·rw[e]at st;exact wpAny_pyIter_striter_ascii st h
  ·rw[e]at st;exact wpAny_pyIter_striter_wide st h
def EV(te:TE):TI:=fun σ H R=>te σ H fun v H1=>∃x,v=.str x/\R (tF x) H1
theorem RG{X:Cx}{tg e:bq}{te:TE}(he:PE X e te):PI X tg e (EV te):=by
 intro pins s σ H R I h;refine a0 (he pins s σ H _ I h) fun v s1 qq=>?_;obtain⟨y,H1,I1,r1,x,ex,q⟩:=qq;subst ex;obtain⟨t,rfl⟩:=r1;cases ha:x.cps.all (· < 128)
 ·exact wpAny_pyIter_wide ha (Av (tk:=s1.toks) I1 _ (EU _ x t "str_iterator" (.inr rfl)) ⟨_,iS _ rfl,rfl,rfl⟩ q)
 ·exact wpAny_pyIter_ascii ha (Av (tk:=s1.toks) I1 _ (EU _ x t "str_ascii_iterator" (.inl rfl)) ⟨_,iS _ rfl,rfl,rfl⟩ q)
section
variable{prog:bv}{w:bf}{A:cv}{E:ag->ay->Prop}{s:ay}
end
section
variable{X:Cx}{pins:List (ae×a9)}{σ:St}{H:Hp}{s:ay}{d:ae}{o:a9}
end
section
variable{P:bv}{w:bf}{K:ax}{tg:bq}{d:ae}{o:a9}{es:Array yj}{ep:Nat}
end
section
variable{X:Cx}{tg e:bq}{td:TE}{apos cpos:cx}
end
end L2
section
namespace Bits
open PySem PyProof.Rows
end Bits
end
section
namespace TL
open PySem PySem.Builtin PySem.Builtin.Str PySem.StrLaws
abbrev tl(x:af):List Nat:=x.cps.toList
theorem RH(x:af):x.length=(tl x).length:=by simp[tl,af.length]
def pre(S l:List Nat):Bool:=l.take S.length==S
def Aw(n:Nat):List Nat:=(yk 10 n).map CQ
theorem RI(n:Nat):tl (d7 (toString ((n:Nat):Int)))=Aw n:=PySem.W.KIN.signs_num n
theorem RJ{n k:Nat}(hk:0<k)(h:n<10^k):(Aw n).length<=k:=by
 have z:=PyProof.Rows.toString_length_le (v:=(n:Int)) (by lia) hk (by
  have e:((10:Int)^k)=((10^k:Nat):Int):=by
   first
    |exact(Int.natCast_pow 10 k).symm
    |simp
  rw[e];first|exact Int.ofNat_lt.mpr h|lia)
 rw[RH,RI]at z;exact z
end TL
end
namespace L2
open PySem PySem.Spec PyProof.Rows
theorem Ax:∀{ys:List af}{us:List ag},bt (ys.map V.str) us->StrsAre us ys
 |[],_,.nil=>.nil
 |y::ys,_,.cons r t=>by
  obtain⟨k,rfl⟩:=r;exact .cons y k (Ax t)
section
variable{X:Cx}{pins:List (ae×a9)}{σ:St}{H:Hp}{s:ay}{Q:VK}
end
section
variable{X:Cx}
theorem RK:iL X "str.join" (fun x xs H Q=>∃a p,∃ys:List af,x=.str a/\xs=[.ref p]/\(bV X.K H p (ys.map V.str)\/dH X.K H p (ys.map V.str))/\
  (ys.map (·.length)).sum+ys.length*a.length<=16777216/\Q (.str (Txt.join a ys)) H):=by
 intro pins s σ H x xs v us Q I rx rs h;obtain⟨a,p,ys,rfl,rfl,hp,hz,h⟩:=h;walk_at "ar";cases rs with
 |cons r1 rs=>
  cases rs;cases r1;rcases hp with hp|hp
  ·obtain⟨its,r,⟨o,n,ho,hc,_,hd⟩,_⟩:=I.list hp;exact PyProof.Rows.join_list (items:=its.toArray) ⟨o,ho,hc,n,hd⟩ (by rw[rR];exact Ax r) hz fun t' k=>⟨.str _,H,I.cV k,⟨t',rfl⟩,h⟩
  ·obtain⟨its,r,ht,_⟩:=I.tuple hp;exact PyProof.Rows.join_tuple (items:=its.toArray) ht (by rw[rR];exact Ax r) hz fun t' k=>⟨.str _,H,I.cV k,⟨t',rfl⟩,h⟩
theorem RL{id:String}{C:af->Prop}{g:af->V}(rule:∀(a:af) (t:Tok) (s:ay) (Q:ag->ay->Prop),C a->(∀(u:ag) (k:Nat),RelV (g a) u->Q u {s with toks:=k})->
  aW (aU X.prog X.w) X.A (call (.builtin id) [.str a t]) Q X.xe s):iL X id (fun x xs H Q=>∃a,x=.str a/\xs=[]/\C a/\Q (g a) H):=by
 intro pins s σ H x xs v us Q I rx rs h;obtain⟨a,rfl,rfl,hc,h⟩:=h;walk_at "ar";cases rs;exact rule a t s _ hc fun u k r=>⟨g a,H,I.cV k,r,h⟩
theorem RM:iL X "str.isdigit" (fun x xs H Q=>∃a,x=.str a/\xs=[]/\True/\Q (.bl (Txt.isdigit a)) H):=
 RL (C:=fun _=>True) (g:=fun a=>.bl (Txt.isdigit a)) fun _ _ s _ _ h=>PySem.SC.isdigit (h _ s.toks rfl)
theorem RN{id:String}{g:af->af->V}(rule:∀(a b:af) (t u:Tok) (s:ay) (Q:ag->ay->Prop),(∀(v:ag) (k:Nat),RelV (g a b) v->Q v {s with toks:=k})->
  aW (aU X.prog X.w) X.A (call (.builtin id) [.str a t,.str b u]) Q X.xe s):iL X id (fun x xs H Q=>∃a b,x=.str a/\xs=[.str b]/\Q (g a b) H):=by
 intro pins s σ H x xs v us Q I rx rs h;obtain⟨a,b,rfl,rfl,h⟩:=h;walk_at "ar";cases rs with
 |cons r1 rs=>
  cases rs;obtain⟨u,rfl⟩:=r1;exact rule a b t u s _ fun v k r=>⟨g a b,H,I.cV k,r,h⟩
theorem RO:iL X "str.startswith" (fun x xs H Q=>∃a b,x=.str a/\xs=[.str b]/\Q (.bl (Txt.startswith a b)) H):=
 RN (g:=fun a b=>.bl (Txt.startswith a b)) fun _ _ _ _ s _ h=>PySem.SC.startswith (h _ s.toks rfl)
theorem RP:fE X (.type "int") (fun xs H Q=>∃a n,xs=[.str a]/\PySem.intText? a=some n/\a.length<=640/\Q (.int n) H):=by
 intro pins s σ H xs us Q I rs h;obtain⟨a,n,rfl,hn,hl,h⟩:=h;cases rs with
 |cons r1 rs=>
  cases rs;obtain⟨t,rfl⟩:=r1;exact PySem.W.KIN.call_text hn hl ⟨.int n,H,I.cV _,⟨_,rfl⟩,h⟩
end
section
variable{X:Cx}{o e:bq}{to te:TE}
def Ay(r:V->List V->Hp->VK->Prop)(to:TE):TE:=fun σ H Q=>to σ H fun x H1=>(∃a,x=.str a)/\r x [] H1 Q
def vO(r:V->List V->Hp->VK->Prop)(to te:TE):TE:=fun σ H Q=>to σ H fun x H1=>(∃a,x=.str a)/\te σ H1 fun y H2=>r x [y] H2 Q
theorem RQ{id:String}{name:af}{apos pos:cx}{r:V->List V->Hp->VK->Prop}(slot:Slot "str" name id)(ty:typeOf (.builtin id)=pure (.type "method_descriptor"))(rule:iL X id r)(ho:PE X o to)
(hbase:km o name X.ah (eval o X.ah)=eval o X.ah:=by rfl)(hline:(apos.endLine==pos.line)=true:=by rfl):PE X (.Call (.Attribute o name apos) [] [] pos) (Ay r to):=by
 walk_at "ae";refine PySem.Call_method0 hbase hline (a0 (ho pins s σ H _ I h) fun v s1 qq=>?_);walk_at "ao";obtain⟨⟨a,rfl⟩,q1⟩:=q1;obtain⟨t,rfl⟩:=_root_.id r1;exact⟨"str",_,F.plainAttrs_str,slot,ty,typeIs_str _ _ _,(fun _ e=>nomatch e),yd rfl (abl (rule pins s1 σ H1 _ [] _ [] Q I1 r1 .nil q1))⟩
theorem Az{id:String}{name:af}{apos pos:cx}{r:V->List V->Hp->VK->Prop}(slot:Slot "str" name id)(ty:typeOf (.builtin id)=pure (.type "method_descriptor"))(rule:iL X id r)(ho:PE X o to)(he:PE X e te)
(hs:b8 [e] X.ah=[(false,eval e X.ah)]:=by rfl)(hbase:km o name X.ah (eval o X.ah)=eval o X.ah:=by rfl)(hline:(apos.endLine==pos.line)=true:=by rfl):
  PE X (.Call (.Attribute o name apos) [e] [] pos) (vO r to te):=by
 walk_at "ae";refine PySem.Call_method1 hbase hs hline (a0 (ho pins s σ H _ I h) fun v s1 qq=>?_);walk_at "ao";obtain⟨⟨a,rfl⟩,q1⟩:=q1;obtain⟨t,rfl⟩:=_root_.id r1;refine⟨"str",_,F.plainAttrs_str,slot,ty,typeIs_str _ _ _,(fun _ e=>nomatch e),yd rfl (OD (Oy ?_))⟩;exact a0 (he pins s1 σ H1 _ I1 q1) fun u s2 ⟨y,H2,I2,r2,q2⟩=>Ox (rule pins s2 σ H2 _ [y] _ [u] Q I2 r1 (.cons r2 .nil) q2)
theorem RR{apos pos:cx}(ho:PE X o to)(he:PE X e te)(hs:b8 [e] X.ah=[(false,eval e X.ah)]:=by rfl)(hbase:km o "join" X.ah (eval o X.ah)=eval o X.ah:=by rfl)(hline:(apos.endLine==pos.line)=true:=by rfl):
  PE X (.Call (.Attribute o "join" apos) [e] [] pos) (vO (fun x xs H Q=>∃a p,∃ys:List af,x=.str a/\xs=[.ref p]/\(bV X.K H p (ys.map V.str)\/dH X.K H p (ys.map V.str))/\
   (ys.map (·.length)).sum+ys.length*a.length<=16777216/\Q (.str (Txt.join a ys)) H) to te):=
 Az F.slot_str_join F.type_str_join RK ho he hs hbase hline
end
end L2
namespace L2
open PySem PySem.Spec PyProof.Rows
section
variable{X:Cx}
end
theorem IsPart.raw{v:ag}{o:Option Int}(p:IsPart v o):∃l:Option (Int×Tok),v=partValue l/\l.map (·.1)=o:=by
 cases p with
 |none=>exact⟨none,rfl,rfl⟩
 |int i t=>exact⟨some (i,t),rfl,rfl⟩
def tG(n d:Nat):Option Int->Int
 |none=>(d:Int)
 |some i=>max 0 (min (if i<0 then i+(n:Int)else i) (n:Int))
theorem EW(n d:Nat)(o:Option Int):tG n d o=((HT.cJ n d o:Nat):Int):=by
 cases o with
 |none=>rfl
 |some v=>
  show max (0:Int) (min (if v<0 then v+(n:Int)else v) (n:Int))=(((if v<0 then(v+(n:Int)).toNat else min v.toNat n):Nat):Int);by_cases hv:v<0
  ·simp only[if_pos hv]
   lia
  ·simp only[if_neg hv]
   lia
theorem RS(a b:Option Int)(n:Nat):oK a b 1 n=sliceRange (tG n 0 a) (tG n n b) 1:=by
 have h1:((1:Int)>0)=True:=by simp
 cases a<;>cases b<;>first
  |rfl
  |(simp only[oK,tG,h1,if_true];rfl)
  |simp[oK,tG]
theorem RT(a b:Option Int)(n:Nat):oK a b 1 n=(rJ (HT.cJ n n b-HT.cJ n 0 a)).map (fun k=>HT.cJ n 0 a+k):=by
 rw[RS,EW,EW];generalize HT.cJ n 0 a=p;generalize HT.cJ n n b=q;simp only[sliceRange,show((1:Int)>0)=True from by simp,if_true];by_cases hlt:(p:Int)<q
 ·have e3:(((q:Int)-p+1-1) / 1).toNat=q-p:=by first|lia|(simp;done)|(simp;lia)
  simp only[hlt,if_true,e3];refine OJ fun k _=>?_
  lia
 ·have:q-p=0:=by lia
  simp[hlt,this]
def pr(z:af)(lo hi:Option Int):Str:=
 ⟨((z.cps.toList.drop (HT.cJ z.length 0 lo)).take (HT.cJ z.length z.length hi-HT.cJ z.length 0 lo)).toArray⟩
theorem EX(z:af)(lo hi:Option Int):uF z lo hi=pr z lo hi:=by
 have h1:HT.cJ z.length 0 lo<=z.length:=HT.Em _ _ (cI _) _;have h2:HT.cJ z.length z.length hi<=z.length:=HT.Em _ _ (bY _) _;have hp:HT.cJ z.length 0 lo<=max (HT.cJ z.length 0 lo) (HT.cJ z.length z.length hi):=Nat.le_max_left _ _;have hq:max (HT.cJ z.length 0 lo) (HT.cJ z.length z.length hi)<=z.length:=Nat.max_le.mpr ⟨h1,h2⟩;have hd:max (HT.cJ z.length 0 lo) (HT.cJ z.length z.length hi)-HT.cJ z.length 0 lo=HT.cJ z.length z.length hi-HT.cJ z.length 0 lo:=by lia
 have e:oK lo hi 1 z.length=
   oK (some ((HT.cJ z.length 0 lo:Nat):Int)) (some ((max (HT.cJ z.length 0 lo) (HT.cJ z.length z.length hi):Nat):Int)) 1 z.length:=by
  rw[PySem.StrLaws.strSliceIndices_plain hp hq,hd,RT]
 have e2:uF z lo hi=
   uF z (some ((HT.cJ z.length 0 lo:Nat):Int)) (some ((max (HT.cJ z.length 0 lo) (HT.cJ z.length z.length hi):Nat):Int)):=by
  unfold uF;rw[e]
 rw[e2,PySem.StrLaws.sliceText_nat z hp hq,hd];rfl
theorem RU(z:af)(lo hi:Option Int):(pr z lo hi).length<=z.length:=by
 show(((z.cps.toList.drop (HT.cJ z.length 0 lo)).take (HT.cJ z.length z.length hi-HT.cJ z.length 0 lo)).toArray).size<=z.cps.size;rw[dO,eI,fh,Oe]
 lia
def vP:V->Option Int->Option Int->Hp->VK->Prop:=fun x lo hi H Q=>∃z,x=.str z/\z.length<=bE/\Q (.str (pr z lo hi)) H
theorem EY{X:Cx}:nD X vP:=by
 intro pins s σ H x v vl vu lo hi sl Q I rx hs pl pu h;obtain⟨z,rfl,hz,q⟩:=h;walk_at "ar";obtain⟨os,hos,hcs,hds⟩:=hs;obtain⟨l,rfl,rfl⟩:=IsPart.raw pl;obtain⟨u,rfl,rfl⟩:=IsPart.raw pu;refine⟨"str",_,F.slot_str_getitem.lookup,typeIs_str _ _ _,?_⟩;refine wpAny_getItem_str_slice (l:=l) (u:=u) (st:=none) ⟨os,hos,hcs,hds⟩ rfl ?_;have hl:(uF z (l.map (·.1)) (u.map (·.1))).length<=sizeLine:=by
  rw[EX];exact dM (RU z _ _) hz
 rw[<-EX]at q;unfold uF at q hl;show Made.post (if((1:Int)==1&&(oK (l.map (·.1)) (u.map (·.1)) 1 z.length).length==z.length)=true then Made.val (.str z t)
  else Made.str ⟨((oK (l.map (·.1)) (u.map (·.1)) 1 z.length).filterMap (z.cps[·]?)).toArray⟩) (EP X pins σ Q) s
 by_cases c:((1:Int)==1&&(oK (l.map (·.1)) (u.map (·.1)) 1 z.length).length==z.length)=true
 ·rw[if_pos c]at q ⊢;exact⟨.str z,H,I,⟨t,rfl⟩,q⟩
 ·rw[if_neg c]at q hl ⊢;exact⟨hl,.str _,H,I.cV _,⟨_,rfl⟩,q⟩
end L2
namespace Att
open PySem PySem.W PySem.Calls PyProof.Rows
section
variable{prog:bv}{w:bf}{A:cv}{E:ag->ay->Prop}{s:ay}{K:Frag}
end
end Att
namespace L2
open PySem PySem.Spec PyProof.Rows
end L2
namespace L2
open PySem PySem.Spec PyProof.Rows
end L2
namespace L2
open PySem PySem.Spec PyProof.Rows
def Pd(s:aH)(j:Nat):Stmt:=match s with
 | .ClassDef _ _ _ body _ _ _ _ _ _ _=>body.getD j (.Pass ⟨0,0,0,0⟩)
 |_=>.Pass ⟨0,0,0,0⟩
def nL(s:aH):Arguments:=match s with
 | .FunctionDef _ a _ _ _ _ _ _ _ _=>a
 |_=>{posonlyargs:=[],args:=[],vararg:=none,kwonlyargs:=[],kw_defaults:=[],kwarg:=none,defaults:=[]}
def kF(s:aH):List Stmt:=match s with
 | .FunctionDef _ _ b _ _ _ _ _ _ _=>b
 |_=>[]
def eU(s:aH):Scope:=match s with
 | .FunctionDef _ _ _ _ _ _ sc _ _ _=>sc
 |_=>{kind:=.function,names:=[],isGenerator:=false,isCoroutine:=false}
abbrev EZ:e8:=fun _ _ _ _ _ _=>False
structure vQ(K:ax)(x qual:af)(st:aH)(f:ae)(fd:gH):Prop where
 ex:∃(oc:ag)(od:Option ae)(kV doc pm:ag)(an:Option ae)(cdv ct:ag)(osl:Array (Option ag)),
  fd=lL x qual (nL st) (kF st) (eU st) .none kV doc pm an cdv ct/\K.lookup f=some ⟨oc,od,.func fd,osl⟩/\rO K cdv qual=true
 kp:iG K (.ref f)=true
variable{P:bv}{w:bf}{K:ax}{mg:af->Option ag}{base:Heap}
theorem vQ.ok{x qual:af}{st:aH}{f:ae}{fd:gH}{N ps:List af}{k:Nat}{sp:Sp}(F:vQ K x qual st f fd)(S:oQ N ps (eU st))(len:∀vs H Q E,sp vs H Q E->vs.length=ps.length)
(hbody:∀(cdv:ag) (A:cv) (bp:List Env) (s:ay) (H:Hp) (vs:List V) (Q:VK) (E:XK),c6 k (A.deeper (envOfC qual (eU st) s.heap.objs.size f cdv))->sp vs H Q E->
   ∃t,gQ (gT EZ P w K mg base N qual (eU st) f cdv A bp s H E).vm (kF st) t/\t {nx:=fun _ H'=>Q .aO H',rt:=Q} (start N vs) H):dG P w K mg base EZ (k+1) f fd ps sp:=by
 obtain⟨oc,od,kV,doc,pm,an,cdv,ct,osl,rfl,lk,hcd⟩:=F.ex;refine El lk hcd S len fun A bp s H vs Q E hr hsp=>?_;obtain⟨t,h,q⟩:=hbody cdv A bp s H vs Q E hr hsp;exact⟨t,h.vm,q⟩
theorem RV{x qual:af}{st:aH}{f:ae}{oc:ag}{od an:Option ae}{osl:Array (Option ag)}{kV doc pm cdv ct:ag}(l:K.lookup f=some ⟨oc,od,.func (lL x qual (nL st) (kF st) (eU st) .none kV doc pm an cdv ct),osl⟩)
(c:rO K cdv qual=true)(k:iG K (.ref f)=true):vQ K x qual st f (lL x qual (nL st) (kF st) (eU st) .none kV doc pm an cdv ct):=⟨⟨oc,od,kV,doc,pm,an,cdv,ct,osl,rfl,l,c⟩,k⟩
theorem qK{A:cv}{k:Nat}(hr:c6 k A):A.units+1<cLine:=uG (Nat.add_le_add_left (by decide:1<=64) _) hr.units
section
variable{X:Cx}
theorem pv(i:Nat){x:af}{pos:cx}(hN:X.N[i]? =some x:=by rfl)(hv:oX X.ah.scope x:=by first|exact eN rfl|exact pU (eN rfl)|exact pU (pU rfl))(hd:(x==("__debug__":af))=false:=by decide)
(hcd:(x==("__classdict__":af))=false:=by decide):PE X (.Name x pos) (fU i):=zB hN hv hd hcd
theorem E0:fE X (.builtin "len") (fun xs H Q=>∃a kvs,xs=[V.ref a]/\H a=some (.dK kvs)/\Q (.int kvs.length) H):=by
 intro pins s σ H xs us Q I r h;obtain⟨a,kvs,rfl,ha,q⟩:=h;obtain⟨u,rfl,ru⟩:=nr r;cases ru;exact Rr I (.inl ha) fun t s' I'=>⟨.int kvs.length,H,I',⟨t,rfl⟩,q⟩
end
def aL(H H':Hp):Prop:=∀b o,H b=some o->H' b=some o
theorem aL.refl(H:Hp):aL H H:=fun _ _ h=>h
theorem aL.trans{H H1 H2:Hp}(a:aL H H1)(b:aL H1 H2):aL H H2:=fun c o h=>b c o (a c o h)
theorem aL.free{H H':Hp}(e:aL H H'){l:ae}(h:H' l=CS):H l=CS:=by
 cases q:H l with
 |none=>rfl
 |some o=>
  rw[e l o q]at h;cases h
theorem aL.seq{K:ax}{H H':Hp}{a:ae}{xs:List V}(e:aL H H')(h:bV K H a xs):bV K H' a xs:=by
 rcases h with(h|⟨o,h⟩)|h
 ·exact .inl (.inl (e _ _ h))
 ·exact .inl (.inr ⟨o,e _ _ h⟩)
 ·exact .inr h
section
variable{κ:Type}[DecidableEq κ]
theorem E2{kvs:List (κ×V)}{k:κ}(h:cK kvs k=none):¬k∈kvs.map (·.1):=by
 intro m;obtain⟨p,hp,e⟩:=iW.mp m;have q:(kvs.any fun kv=>decide (kv.1=k))=true:=lN.mpr ⟨p,hp,decide_eq_true e⟩;rw[nH,h]at q;exact absurd q (by simp)
theorem AA:∀{l:List κ}{k:κ},l.Nodup->¬k∈l->(l++[k]).Nodup
 |[],k,_,_=>by simp
 |a::r,k,h,hk=>by
  obtain⟨h1,h2⟩:=eG.mp h;show(a::(r++[k])).Nodup;refine eG.mpr ⟨fun m=>?_,AA h2 fun m=>hk (br.mpr (pU m))⟩;rcases cS.mp m with q|q
  ·exact h1 q
  ·exact hk (br.mpr (eN (eR.mp q).symm))
theorem E3{kvs:List (κ×V)}{k:κ}(v:V)(hn:(kvs.map (·.1)).Nodup)(h:cK kvs k=none):((ck kvs k v).map (·.1)).Nodup:=by
 rw[Al v h,eY];exact AA hn (E2 h)
end
theorem AB{α:Type}{l:List α}(hN:l.Nodup){i j:Nat}{x:α}(a:l[i]? =some x)(b:l[j]? =some x):i=j:=by
 obtain⟨h1,e1⟩:=cP.mp a;obtain⟨h2,e2⟩:=cP.mp b;exact(List.getElem_inj hN).mp (e1.trans e2.symm)
theorem aL.made{H H1:Hp}{x dx C:ae}(nx:H x=CS)(nd:H dx=CS)(k:∀b o,(aq (aq H dx (.own x)) x (.aP C dx [])) b=some o->b≠x->H1 b=some o):aL H H1:=fun b o e=>
 k b o (by rw[aJ (bw e nx),aJ (bw e nd)];exact e) (bw e nx)
end L2
namespace L2
open PySem PySem.Spec PyProof.Rows
def qL(H:Hp)(lo:Nat)(h:Heap)(e C dx:ae)(fl:ag):Prop:=
 ∃(oe:a9)(vs:Array ag)(T:ae)(oT:a9)(ts:Array ag),h.get? e=some oe/\(lo<=e/\H e=none/\oe.cls=.ref C/\oe.dict=some dx)/\oe.data=.fields vs/\
  vs[1]? =some (.ref T)/\(lo<=T/\H T=none/\T≠e)/\h.get? T=some oT/\oT.data=.fields ts/\ts[3]? =some fl
def RW(H:Hp)(lo:Nat)(h:Heap)(e C dx:ae):Prop:=
 ∃(oe:a9)(vs:Array ag),h.get? e=some oe/\(lo<=e/\H e=none/\oe.cls=.ref C/\oe.dict=some dx)/\oe.data=.fields vs/\vs[1]? =some .none
def mh(H:Hp)(lo:Nat)(h:Heap)(e C dx:ae):Prop:=RW H lo h e C dx\/qL H lo h e C dx .none
structure gU(lo:Nat)(fr:List ae)(H:Hp)(h h':Heap):Prop where
 keep:∀b o,h.get? b=some o->(b<lo\/∃u,H b=some u)->b∉fr->h'.get? b=some o
 slot:∀b o,h.get? b=some o->b∈fr->∃sl,h'.get? b=some {o with slots:=sl}
 there:∀b o,h.get? b=some o->∃o',h'.get? b=some o'
 AD:∀b o,h.get? b=some o->(∀vs,o.data≠.fields vs)->∃sl,h'.get? b=some {o with slots:=sl}
theorem gU.refl{lo:Nat}{fr:List ae}{H:Hp}{h:Heap}:gU lo fr H h h:=⟨fun _ _ q _ _=>q,fun _ o q _=>⟨o.slots,q⟩,fun _ o q=>⟨o,q⟩,fun _ o q _=>⟨o.slots,q⟩⟩
theorem gU.trans{lo:Nat}{fr:List ae}{H:Hp}{h h1 h2:Heap}(a:gU lo fr H h h1)(b:gU lo fr H h1 h2):gU lo fr H h h2:=
 ⟨fun c o q z n=>b.keep c o (a.keep c o q z n) z n,fun c o q n=>let⟨_,e1⟩:=a.slot c o q n;let⟨sl,e2⟩:=b.slot c _ e1 n;⟨sl,e2⟩,
  fun c o q=>let⟨_,e1⟩:=a.there c o q;b.there c _ e1,fun c o q n=>let⟨_,e1⟩:=a.AD c o q n;let⟨sl,e2⟩:=b.AD c _ e1 n;⟨sl,e2⟩⟩
theorem gU.fD{lo:Nat}{fr:List ae}{H:Hp}{h h' base:Heap}{l:List Env}(p:gU lo fr H h h')(x:h.FunFrames base l):h'.FunFrames base l:=
 x.of_keeps fun b o q n=>let⟨_,e⟩:=p.AD b o q n;⟨_,e,rfl⟩
section
variable{M:Model}{A:cv}{E:ag->ay->Prop}{s:ay}{H:Hp}{lo:Nat}{e C dx:ae}
theorem E4{base:Heap}{ah:Env}{bp:List Env}{L:ae}{oe:a9}{vs:Array ag}{head:ag}{hadNext:Bool}{Q:Unit->ay->Prop}
(hfr:A.frames=some (ah::bp))(hl:s.heap.FunFrames base (ah::bp))(hf:ah.frame=some L)(hH:∀b,s.heap.objs.size<=b->H b=none)(hlo:lo<=s.heap.objs.size)
(he:s.heap.get? e=some oe)(hp:lo<=e/\H e=none/\oe.cls=.ref C/\oe.dict=some dx)(hd:oe.data=.fields vs)(hsz:1<vs.size)
(h:∀h',gU lo (dw (ah::bp)) H s.heap h'->qL H lo h' e C dx (rawInt L)->Q () {s with heap:=h'}):
  aW M A (do let a <-frameOf ah;let pl <-entryPlaceOf L hadNext;let b <-abq head a .none (rawInt L) .none pl;setField (.ref e) 1 b) Q E s:=by
 have en:e∉dw (ah::bp):=fun z=>by
  obtain⟨_,o,q,n⟩:=hl.mem z;rw[he]at q;cases q;exact n vs hd
 refine bT (wpAny_frameOf_fun hfr hl hf fun g hs=>?_);refine bT (wpAny_entryPlaceOf fun pl hpl=>?_);unfold abq newFields;refine bT (wpAny_newObj_type ?_ (hpl.sizeOk5 _ _ _ _ _));have sz:g.objs.size=s.heap.objs.size:=hs.1;have q1:g.get? e=some oe:=(hs.2.1 e en).trans he;generalize ob:({cls:=.type "traceback",dict:=none,data:=.fields ([head,.ref L,.none,rawInt L,.none]++(if pl.isEmpty then dN 6 gm else pl)).toArray}:a9)=tb;have tbd:∃ts,tb.data=.fields ts/\ts[3]? =some (rawInt L):=by
  subst ob;exact⟨_,rfl,by simp⟩
 obtain⟨ts,td,t3⟩:=tbd;have q2:=eP (h:=g) tb q1;refine wpAny_setField q2 hd hsz (h _ ?_ ?_)
 ·have other:∀b o,b≠e->g.get? b=some o->((g.push tb).update e (iX (·.setIfInBounds 1 (b7 g.objs.size)))).get? b=some o:=fun b o n q=>by
   rw[uB _ _ (cM n)];exact eP _ q
  have gc:((g.push tb).update e (iX (·.setIfInBounds 1 (b7 g.objs.size)))).get? e=some (iX (·.setIfInBounds 1 (b7 g.objs.size)) oe):=
   uA _ q2 (yl (uH hd _))
  refine⟨fun b o q z n=>other b o ?_ ((hs.2.1 b n).trans q),fun b o q z=>?_,fun b o q=>?_,fun b o q n=>?_⟩
  ·rintro rfl;rcases z with z|⟨u,z⟩
   ·exact absurd z (Nat.not_lt.mpr hp.1)
   ·rw[hp.2.1]at z;cases z
  ·obtain⟨sl,x⟩:=hs.2.2 b o q;exact⟨sl,other b _ (fun w=>en (w▸z)) x⟩
  ·by_cases w:b=e
   ·subst w;exact⟨_,gc⟩
   ·obtain⟨sl,x⟩:=hs.2.2 b o q;exact⟨_,other b _ w x⟩
  ·obtain⟨sl,x⟩:=hs.2.2 b o q;refine⟨sl,other b _ ?_ x⟩;rintro rfl;rw[he]at q;cases q;exact n vs hd
 ·have ne:g.objs.size≠e:=Nat.ne_of_gt (cY q1);refine⟨_,_,g.objs.size,tb,ts,uA _ q2 (yl (uH hd _)),⟨hp.1,hp.2.1,(a9.cls_mapFields _ _).trans hp.2.2.1,?_⟩,uH hd _,by simp[hsz],⟨by lia,hH _ (by lia),ne⟩,?_,td,t3⟩
  ·have dm:(iX (·.setIfInBounds 1 (b7 g.objs.size)) oe).dict=oe.dict:=by
    unfold iX;split<;>rfl
   exact dm.trans hp.2.2.2
  ·rw[uB _ _ (cM ne)];refine iS g ?_;exact yl td
theorem E5{base:Heap}{ah:Env}{bp:List Env}{L:ae}{Q:Unit->ay->Prop}
(hfr:A.frames=some (ah::bp))(hl:s.heap.FunFrames base (ah::bp))(hf:ah.frame=some L)(hH:∀b,s.heap.objs.size<=b->H b=none)(hlo:lo<=s.heap.objs.size)(x:mh H lo s.heap e C dx)
(h:∀h',gU lo (dw (ah::bp)) H s.heap h'->qL H lo h' e C dx (rawInt L)->Q () {s with heap:=h'}):aW M A (noteFrame (.ref e) ah) Q E s:=by
 unfold noteFrame;simp only[hf];rcases x with⟨oe,vs,he,hp,hd,h1⟩|⟨oe,vs,T,oT,ts,he,hp,hd,h1,hT,hoT,hdT,h3⟩
 ·refine bT (wpAny_field he hd h1 ?_);rw[if_neg (by decide)];exact E4 hfr hl hf hH hlo he hp hd (CT.mp h1).1 h
 ·refine bT (wpAny_field he hd h1 ?_);rw[if_pos (show(b7 T != gm)=true by simp)];refine bT (wpAny_field hoT hdT h3 ?_);rw[if_neg (show ¬((gm==rawInt L)=true)by simp[rawInt])];refine bT (wpAny_setField hoT hdT (CT.mp h3).1 ?_);have other:∀b,b≠T->(s.heap.update T (iX (·.setIfInBounds 3 gm))).get? b=s.heap.get? b:=fun b hb=>uB _ _ (cM hb);have nT:∀b o,s.heap.get? b=some o->(∀vs,o.data≠.fields vs)->b≠T:=fun b o q n w=>by
   rw[w,hoT]at q;cases q;exact n ts hdT
  have tn:T∉dw (ah::bp):=fun z=>by
   obtain⟨_,o,q,n⟩:=hl.mem z;rw[hoT]at q;cases q;exact n ts hdT
  have selfT:(s.heap.update T (iX (·.setIfInBounds 3 gm))).get? T=some (iX (·.setIfInBounds 3 gm) oT):=uA _ hoT (yl (uH hdT _));have P1:gU lo (dw (ah::bp)) H s.heap (s.heap.update T (iX (·.setIfInBounds 3 gm))):=by
   refine⟨fun b o q z n=>?_,fun b o q z=>?_,fun b o q=>?_,fun b o q n=>⟨o.slots,(other b (nT b o q n)).trans q⟩⟩
   ·refine(other b ?_).trans q;rintro rfl;rcases z with z|⟨u,z⟩
    ·exact absurd z (Nat.not_lt.mpr hT.1)
    ·rw[hT.2.1]at z;cases z
   ·exact⟨o.slots,(other b fun w=>tn (w▸z)).trans q⟩
   ·by_cases w:b=T
    ·subst w;exact⟨_,selfT⟩
    ·exact⟨o,(other b w).trans q⟩
  have szu:(s.heap.update T (iX (·.setIfInBounds 3 gm))).objs.size=s.heap.objs.size:=Heap.size_after_update ..;refine E4 (s:={s with heap:=s.heap.update T (iX (·.setIfInBounds 3 gm))}) hfr (P1.fD hl) hf (fun b hb=>hH b (by have:(s.heap.update T (iX (·.setIfInBounds 3 gm))).objs.size<=b:=hb;lia)) (by show lo<=(s.heap.update T (iX (·.setIfInBounds 3 gm))).objs.size;lia) ((other e (cM hT.2.2)).trans he) hp hd (CT.mp h1).1 fun h' p f=>?_;exact h h' (P1.trans p) f
theorem AE{fr:List ae}{fl:ag}{Q:Unit->ay->Prop}(hfr:∀b∈fr,∃o,s.heap.get? b=some o/\∀vs,o.data≠.fields vs)(x:qL H lo s.heap e C dx fl)
(h:∀h',gU lo fr H s.heap h'->qL H lo h' e C dx .none->Q () {s with heap:=h'}):aW M A (setFlight (.ref e) none) Q E s:=by
 obtain⟨oe,vs,T,oT,ts,he,hp,hd,h1,hT,hoT,hdT,h3⟩:=x;have hs3:3<ts.size:=(CT.mp h3).1;unfold setFlight;refine bT (wpAny_field he hd h1 ?_);rw[if_pos (show(b7 T != gm)=true by simp)];show aW M A (setField (.ref T) 3 gm) Q E s;have other:∀b,b≠T->(s.heap.update T (iX (·.setIfInBounds 3 gm))).get? b=s.heap.get? b:=fun b hb=>uB _ _ (cM hb);have tn:T∉fr:=fun z=>by
  obtain⟨o,q,n⟩:=hfr T z;rw[hoT]at q;cases q;exact n ts hdT
 have selfT:(s.heap.update T (iX (·.setIfInBounds 3 gm))).get? T=some (iX (·.setIfInBounds 3 gm) oT):=uA _ hoT (yl (uH hdT _));refine wpAny_setField hoT hdT hs3 (h _ ⟨fun b o q z n=>?_,fun b o q z=>?_,fun b o q=>?_,fun b o q n=>?_⟩ ?_)
 ·refine(other b ?_).trans q;rintro rfl;rcases z with z|⟨u,z⟩
  ·exact absurd z (Nat.not_lt.mpr hT.1)
  ·rw[hT.2.1]at z;cases z
 ·exact⟨o.slots,(other b fun w=>tn (w▸z)).trans q⟩
 ·by_cases w:b=T
  ·subst w;exact⟨_,selfT⟩
  ·exact⟨o,(other b w).trans q⟩
 ·refine⟨o.slots,(other b fun w=>?_).trans q⟩;rw[w,hoT]at q;cases q;exact n ts hdT
 ·exact⟨oe,vs,T,_,_,(other e (cM hT.2.2)).trans he,hp,hd,h1,hT,selfT,uH hdT _,by simp[hs3]⟩
theorem RX{base:Heap}{ah:Env}{bp:List Env}{L:ae}{Q:Unit->ay->Prop}
(hfr:A.frames=some (ah::bp))(hl:s.heap.FunFrames base (ah::bp))(hf:ah.frame=some L)(hH:∀b,s.heap.objs.size<=b->H b=none)(hlo:lo<=s.heap.objs.size)(x:mh H lo s.heap e C dx)
(h:∀h',gU lo (dw (ah::bp)) H s.heap h'->mh H lo h' e C dx->Q () {s with heap:=h'}):aW M A (leaving ah (.ref e)) Q E s:=by
 unfold leaving;refine bT (E5 hfr hl hf hH hlo x fun h1 p1 f1=>?_);refine AE (s:={s with heap:=h1}) (fr:=dw (ah::bp)) (fun b z=>(p1.fD hl).mem z |>.2) f1 fun h2 p2 f2=>?_;exact h h2 (p1.trans p2) (.inr f2)
end
end L2
namespace L2
open PySem PySem.Spec PyProof.Rows
theorem mh.cG{H:Hp}{lo lo':Nat}{h:Heap}{e C dx:ae}(x:mh H lo h e C dx)(hl:lo'<=lo):mh H lo' h e C dx:=by
 rcases x with⟨oe,vs,he,⟨a,b⟩,hd,h1⟩|⟨oe,vs,T,oT,ts,he,⟨a,b⟩,hd,h1,⟨c,d⟩,r⟩
 ·exact .inl ⟨oe,vs,he,⟨dM hl a,b⟩,hd,h1⟩
 ·exact .inr ⟨oe,vs,T,oT,ts,he,⟨dM hl a,b⟩,hd,h1,⟨dM hl c,d⟩,r⟩
theorem mh.lt{H:Hp}{lo:Nat}{h:Heap}{e C dx:ae}(x:mh H lo h e C dx):lo<=e/\e<h.objs.size:=by
 rcases x with⟨oe,vs,he,⟨a,b⟩,hd,h1⟩|⟨oe,vs,T,oT,ts,he,⟨a,b⟩,hd,h1,⟨c,d⟩,r⟩
 ·exact⟨a,cY he⟩
 ·exact⟨a,cY he⟩
theorem Un.fD{H H':Hp}{h h' base:Heap}{fs:List ae}(u:Un fs [] H H' h h'):∀(l:List Env),(∀b∈dw l,b∈fs/\H b=none)->h.FunFrames base l->h'.FunFrames base l
 |[],_,_=>trivial
 |ah::r,hs,⟨hk,⟨L,o,hf,hn,ho,hd⟩,hr⟩=>by
  have hL:=hs L (by unfold dw;rw[pW,hf];exact cw);obtain⟨sl,e⟩:=u.slot L o ho hL.2 hL.1 (by simp);exact⟨hk,⟨L,_,hf,hn,e,hd⟩,Un.fD u r (fun b hb=>hs b (by unfold dw;rw[pW,hf];exact bP _ hb)) hr⟩
inductive E6(P:bv)(w:bf)(RC:ae->Prop)(bp:List Env)(H:Hp)(s:ay)(E:XK)(e:ag)(s':ay):Prop
 |mk:∀(a C dx:ae)(n:Int)(H':Hp),e=.ref a->RC C->mh H' s.heap.objs.size s'.heap a C dx->H' dx=some (.xd [("answer",.int n)])->s'.os=s.os->oE s'.gens->Un (dw bp) [] H H' s.heap s'.heap->dv P w H' s'.heap->E (.int n 0) none H'->E6 P w RC bp H s E e s'
def gW(P:bv)(w:bf)(RC:ae->Prop):e8:=fun bp H s E e s'=>E6 P w RC bp H s E e s'
theorem gU.aT{P:bv}{w:bf}{lo:Nat}{fr:List ae}{H:Hp}{h h':Heap}(p:gU lo fr H h h')(hf:∀b∈fr,H b=none)(x:dv P w H h):dv P w H h':=fun a o e=>
 (x a o e).lg (fun b u hb q=>by
  have t:∃u,H b=some u:=by
   rcases hb with rfl|hb
   ·exact⟨_,e⟩
   ·exact⟨_,hb⟩
  refine p.keep b u q (.inr t) fun z=>?_;obtain⟨v,hv⟩:=t;rw[hf b z]at hv;cases hv) (fun _ q=>q) fun _ _ q=>q
theorem fT{P:bv}{w:bf}{RC:ae->Prop}{K:ax}{mg:af->Option ag}{base:Heap}{N:List af}{qual:af}{scope:fI}{f:ae}{cd:ag}{A:cv}{bp:List Env}{s:ay}{H:Hp}{E:XK}:
  gs (gW P w RC) (gT (gW P w RC) P w K mg base N qual scope f cd A bp s H E) E:=by
 intro pins σ H1 s1 e s' I hc;obtain⟨a,C,dx,n,H',rfl,rc,fl,hdx,hos,hg,un,aT,hE⟩:=hc;have sz1:s.heap.objs.size<=s1.heap.objs.size:=I.sz;have sz2:=fl.lt;have hfr:=I.vc;have exs:∀b∈dw (gT (gW P w RC) P w K mg base N qual scope f cd A bp s H E).stack,∃o,s1.heap.get? b=some o:=fun b hb=>by
  obtain⟨_,o,q,_⟩:=I.stack.mem hb;exact⟨o,q⟩
 have fr':∀b∈dw (gT (gW P w RC) P w K mg base N qual scope f cd A bp s H E).stack,H' b=none:=fun b hb=>by
  obtain⟨o,q⟩:=exs b hb;exact un.free b o q (hfr b hb) (by simp)
 have ff:=un.fD _ (fun b hb=>⟨hb,hfr b hb⟩) I.stack;show aW _ _ (leaving _ (.ref a)) _ _ s';refine RX (H:=H') (lo:=s.heap.objs.size) (C:=C) (dx:=dx) I.ok.frames ff rfl (fun b hb=>aT.fresh hb) (dM sz1 (dM sz2.1 (xU sz2.2))) (fl.cG sz1) fun h2 p2 f2=>?_;refine⟨a,C,dx,n,H',rfl,rc,f2,hdx,hos.trans I.os,hg,?_,p2.aT fr' aT,hE⟩;have bs:=I.base;have gX:∀b o,s.heap.get? b=some o->b∉dw bp->b∉dw (gT (gW P w RC) P w K mg base N qual scope f cd A bp s H E).stack:=fun b o q hb z=>by
  rcases br.mp (I.u9 b z)with w|w
  ·have h1:=cY q;have h2:s.heap.objs.size<=b:=by rw[w];exact I.ok.above
   exact absurd (eO h1 h2) (lJ _)
  ·exact hb w
 have up:∀b,b∈dw bp->b∈dw (gT (gW P w RC) P w K mg base N qual scope f cd A bp s H E).stack:=fun b hb=>by
  show b∈dw (_::bp);unfold dw;rw[pW];exact bP _ hb
 refine⟨fun b o q hn hb hx=>?_,fun b o q hn hb hx=>?_,fun b o q hn hx=>?_,fun b o q hx=>?_,fun b xs q=>un.gO b xs (bs.gO b xs q),fun b o xs q=>un.gC b o xs (bs.gC b o xs q),fun b ps q=>?_⟩
 ·have q1:=bs.keep b o q hn hb hx;have n1:=bs.free b o q hn hx;exact p2.keep b o (un.keep b o q1 n1 (gX b o q hb) hx) (.inl (cY q)) (gX b o q hb)
 ·obtain⟨sl,q1⟩:=bs.slot b o q hn hb hx;obtain⟨sl2,q2⟩:=un.slot b _ q1 (bs.free b o q hn hx) (up b hb) hx;obtain⟨sl3,q3⟩:=p2.slot b _ q2 (up b hb);exact⟨sl3,q3⟩
 ·obtain⟨o1,q1⟩:=bs.there b o q hx;exact un.free b o1 q1 (bs.free b o q hn hx) hx
 ·obtain⟨o1,q1⟩:=bs.there b o q hx;obtain⟨o2,q2⟩:=un.there b o1 q1 hx;exact p2.there b o2 q2
 ·obtain⟨m1,e1⟩:=bs.gP b ps q;obtain⟨m2,e2⟩:=un.gP b _ e1;exact⟨m1++m2,by rw[e2,Ob]⟩
theorem jB{CX:e8}{P:bv}{w:bf}{K:ax}{mg:af->Option ag}{base:Heap}{N:List af}{qual:af}{scope:fI}{f:ae}{cd:ag}{A:cv}{bp:List Env}{s:ay}{H:Hp}{E:XK}:
  PassesOwn (aU P w) (gT CX P w K mg base N qual scope f cd A bp s H E).A (gT CX P w K mg base N qual scope f cd A bp s H E).ah (gT CX P w K mg base N qual scope f cd A bp s H E).xe:=by
 intro e s' h;exact PassesOwn.leaving (Q₁:=fun e s''=>CX bp H s E e s'') e s' h
end L2
namespace L2
open PySem PySem.Spec PyProof.Rows
section
variable{nm q:af}{C N:ae}{bs bm bmB:List ag}{hdct:Bool}{sn:List af}{sub:List ag}{ab:Bool}{col:Option Bool}{dd:Option ae}{k0 k1 k2 k3 k5:Option ag}{B newId initId:String}
theorem RY{M:Model}{A:cv}{E:ag->ay->Prop}{h:Heap}{g:Array xV}{d:Drawn}{t:Nat}{os:OsState}{Q:Unit->ay->Prop}(F:ExcBaseFacts B newId initId bmB)
(cls:h.get? C=some (excClassObj nm q C N bs bm hdct sn sub ab col dd k0 k1 k2 k3 k5 newId))(cB:(b7 C::bm).contains (.type B)=true)(fin:Q () ⟨h,g,d,t,os⟩):
  aW M A (checkBuiltinCall newId ⟨[.ref C],[]⟩) Q E ⟨h,g,d,t,os⟩:=by
 have st:=F.noStar;unfold checkBuiltinCall;rw[F.newKind,F.newRow];dsimp only;rw[F.newSplit];dsimp only;repeat(first
  |refine rS cls ?_
  |(refine wpAny_isSubtype_exc cls ?_;rw[cB])
  |refine wpAny_staticBase_exc cls ?_
  |refine wpAny_madeBy_exc cls ?_
  |simp only[bne_self_eq_false,xP,if_false]
  |wp_step)
 exact fin
theorem RZ{prog:bv}{w:bf}{A:cv}{R:Result->ay->Prop}{h:Heap}{g:Array xV}{d:Drawn}{t:Nat}{os:OsState}(F:ExcBaseFacts B newId initId bmB)
(cls:h.get? C=some (excClassObj nm q C N bs bm hdct sn sub ab col dd k0 k1 k2 k3 k5 newId))(cB:(b7 C::bm).contains (.type B)=true)
(cA:(b7 C::bm).contains (.type "AttributeError")=false)(cN:(b7 C::bm).contains (.type "NameError")=false)
(fin:R (.ok (.ret (.ref (h.objs.size+1)))) ⟨(h.push {cls:=.type "tuple",data:=.seq #[]}).push {cls:=.ref C,data:=.fields #[.ref h.objs.size,.none,.none,.none,.bool false,.none]},g,d,t,os⟩):
  codeAny (aU prog w) A (.builtin newId ⟨[.ref C],[]⟩) R ⟨h,g,d,t,os⟩:=by
 have ed:=F.ends;refine codeAny_builtinAt F.entry ?_;unfold Builtin.«BaseException.__new__»;refine PySem.wpAt_bind ?_;show PySem.wpAt _ _ _ (stack >>= _) _ _ _;refine PySem.wpAt_bind (PySem.wpAt_stack fun p below=>abr ?_);wp_walk;refine abr ?_;rw[F.owner];repeat(first
  |with_reducible refine wpAny_madeHere_exc F.canon cls ?_
  |with_reducible refine rS cls ?_
  |(with_reducible refine wpAny_isSubtype_exc cls ?_;first|rw[cB]|rw[cA]|rw[cN])
  |wp_step)
 show R _ _;rw[kj];exact fin
theorem R1{prog:bv}{w:bf}{A:cv}{R:Result->ay->Prop}{h:Heap}{g:Array xV}{d:Drawn}{t:Nat}{os:OsState}{f:ae}(F:ExcBaseFacts B newId initId bmB)
(cls:h.get? C=some (excClassObj nm q C N bs bm hdct sn sub ab col dd k0 k1 k2 k3 k5 newId))(cB:(b7 C::bm).contains (.type B)=true)
(cA:(b7 C::bm).contains (.type "AttributeError")=false)(cN:(b7 C::bm).contains (.type "NameError")=false)
(sT:∀h':Heap,(∀b o,h.get? b=some o->h'.get? b=some o)->PySem.W.Looks (aU prog w) h' (typeLookup (.ref C) "__init__") (some (.ref f))/\∀gc,PySem.W.Looks (aU prog w) h' (bindSpecial (.ref f) gc) (.ref f,[gc]))
(fin:codeAny (aU prog w) (A.under (.builtin "type.__call__" ⟨[.ref C],[]⟩)) (.call (.ref f) ⟨[.ref (h.objs.size+1)],[]⟩) (abb (h.objs.size+1) R)
   ⟨(h.push {cls:=.type "tuple",data:=.seq #[]}).push {cls:=.ref C,data:=.fields #[.ref h.objs.size,.none,.none,.none,.bool false,.none]},g,d,t,os⟩):
  codeAny (aU prog w) A (.call (.ref C) ⟨[],[]⟩) R ⟨h,g,d,t,os⟩:=by
 have f1:=tc_lookup;have f2:=tc_bind (.ref C);have hT:(⟨h,g,d,t,os⟩:ay).TypeIs (.ref C) "type":=⟨_,cls,rfl⟩;refine codeAny_of_tree ?_;show aW _ _ (callAny (.ref C) _) _ _ _;repeat(any_goals (first|assumption|with_reducible refine rS cls ?_|wp_step))
 refine⟨rfl,?_⟩;refine codeAny_call_builtin_at (Code.quiet_builtin _ (by decide +kernel)) entry_typeCall (wpAny_check_type_call_sub cls ?_);repeat(first|with_reducible refine rS cls ?_|with_reducible refine wpAny_madeBy_exc cls ?_|wp_step)
 refine codeAny_call_builtin_code (Code.quiet_builtin _ F.quiet) (RY F cls cB ?_);refine RZ F cls cB cA cN ?_;show aW _ _ _ _ _ _;have kp:∀b o,h.get? b=some o->((h.push {cls:=.type "tuple",data:=.seq #[]}).push {cls:=.ref C,data:=.fields #[.ref h.objs.size,.none,.none,.none,.bool false,.none]}).get? b=some o:=
  fun b o e=>eP _ (eP _ e)
 have cls':=kp _ _ cls;have obj:((h.push {cls:=.type "tuple",data:=.seq #[]}).push {cls:=.ref C,data:=.fields #[.ref h.objs.size,.none,.none,.none,.bool false,.none]}).get? (h.objs.size+1)=
   some {cls:=.ref C,data:=.fields #[.ref h.objs.size,.none,.none,.none,.bool false,.none]}:=by heap_get
 have cC:(b7 C::bm).contains (.ref C)=true:=by simp
 obtain⟨i1,i2⟩:=sT _ kp;unfold isInstance;repeat(first|with_reducible refine rS obj ?_|(with_reducible refine wpAny_isSubtype_exc cls' ?_;rw[cC])|wp_step)
 show aW _ _ (typeLookup (.ref C) "__init__") _ _ _;refine i1.at ?_;refine wpAny_holding (bT ((i2 _).at ?_));refine bT (wpAny_call (codeAny_mono fin fun r s' hr=>?_));cases r with
 |error e=>exact hr
 |ok fl=>
  cases fl with
  |ret v=>
   obtain⟨rfl,hr⟩:=hr;exact dW (dW hr)
  |next=>exact fc hr
  |brk=>exact fc hr
  |cont=>exact fc hr
end
end L2
namespace L2
open PySem PySem.Spec PyProof.Rows
structure XC(K:ax)(C:ae):Prop where
 lk:∃(nm q:af)(N:ae)(bs own:List ag)(sn:List af)(sub:List ag)(ab:Bool)(col:Option Bool)(dd:Option ae)(k0 k1 k2 k3 k5:Option ag),
  K.lookup C=some (excClassObj nm q C N bs (own++[.type "Exception",.type "BaseException",.type "object"]) true sn sub ab col dd k0 k1 k2 k3 k5 "Exception.__new__")/\∀v∈own,∃b,v=.ref b
 sa:dQ K (.ref C) "__setattr__"=some (some (.builtin "object.__setattr__"))
 tk:x6 K C "answer"=some none
 ga:dQ K (.ref C) "__getattribute__"=some (some (.builtin "BaseException.__getattribute__"))
 gh:dQ K (.ref C) "__getattr__"=some none
 hd:pX K C=true
 na:dQ K (.ref C) "answer"=some none
 mb:uv K C (.type "BaseException")=some true
theorem R3(gc:ag):refuseLoop gc "__setattr__" [.type "Exception",.type "BaseException",.type "object"]=pure ():=by kernel_rfl
theorem E7(gc:ag):∀own:List ag,(∀v∈own,∃b,v=.ref b)->refuseLoop gc "__setattr__" (own++[.type "Exception",.type "BaseException",.type "object"])=pure ()
 |[],_=>R3 gc
 |v::r,h=>by
  obtain⟨b,rfl⟩:=h v cw;rw[jn,refuseLoop_ref];exact E7 gc r fun u hu=>h u (bP _ hu)
theorem qM(n:String){b:Bool}(hb:([.type "Exception",.type "BaseException",.type "object"]:List ag).contains (.type n)=b):∀own:List ag,(∀v∈own,∃b,v=.ref b)->(own++[lI "Exception",lI "BaseException",lI "object"]).contains (lI n)=b
 |[],_=>hb
 |v::r,h=>by
  obtain⟨c,rfl⟩:=h v cw;rw[jn,uI,qM n hb r fun u hu=>h u (bP _ hu)];rfl
section
variable{prog:bv}{w:bf}{A:cv}{E:ag->ay->Prop}{s:ay}{K:ax}{a C:ae}{vs:Array ag}{v:ag}
theorem R4{Q:Unit->ay->Prop}(X:K.In s.heap)(c:XC K C)(ha:s.heap.get? a=some {cls:=.ref C,data:=.fields vs})
(h:∀h',h'.get? a=some {cls:=.ref C,dict:=some s.heap.objs.size,data:=.fields vs}->h'.Ns1 s.heap.objs.size (fun y=>if y="answer" then some v else none)->(∀b o,b≠a->s.heap.get? b=some o->h'.get? b=some o)->Q () {s with heap:=h',toks:=s.toks+2}):
  aW (aU prog w) A (setAttr (.ref a) "answer" v) Q E s:=by
 obtain⟨nm,q,N,bs,own,sn,sub,ab,col,dd,k0,k1,k2,k3,k5,hl,ho⟩:=c.lk;have hc:PySem.W.clsIn K C=some {name:=nm,bases:=bs,mro:=.ref C::(own++[.type "Exception",.type "BaseException",.type "object"]),ns:=N,qualname:=q,hasDict:=true,slotNames:=sn,subclasses:=sub,abstract:=ab,collection:=col,hasDel:=false}:=by
  unfold PySem.W.clsIn;rw[hl]
 have I:Oj s.heap a {cls:=.ref C,data:=.fields vs} C none:=⟨ha,rfl,rfl,fg⟩;have SF:=PySem.F.store_object;have sb:PySem.W.Looks (aU prog w) s.heap (isInstance (.ref a) (.type "object")) true:=I.type.andThen (abt X (by
  unfold uv;rw[hc,CU,if_neg (by simp)];congr 1;rw[uI,qM "object" (b:=true) (by decide) own ho,OK]))
 have hm:PySem.W.Looks (aU prog w) s.heap (mroOf (.ref C)) (.ref C::(own++[.type "Exception",.type "BaseException",.type "object"])):=(Oo X hc).andThen .now;obtain⟨attr,hat,hr⟩:=CV.mp c.tk;have L3:PySem.W.Looks (aU prog w) s.heap (Builtin.ObjectAttr.storeTaker? attr) none:=by
  cases attr with
  |none=>cases hr;exact .now
  |some z=>
   obtain⟨b,hb,e⟩:=jt.mp hr;refine(PySem.W.looks_takesIn X hb).andThen ?_;cases b with
   |true=>cases e
   |false=>exact .now
 refine aba X I c.sa ?_;refine codeAny_call_builtin SF.slot.plain SF.entry (@abu (aU prog w) _ _ {s with toks:=s.toks+1} "object.__setattr__" "object" "__setattr__" (.ref a) [.str "answer" s.toks,v] [] _ SF.kind SF.split sb (SF.args (.ref a) (.str "answer" s.toks) v) ?_);rw[PySem.W.osa_eq,refuse_eq];refine bT (bT (pY (s:={s with toks:=s.toks+1}) I.type (bT (pY (s:={s with toks:=s.toks+1}) hm ?_))));rw[refuseLoop_ref,E7 _ own ho];refine dW (bT (pY (s:={s with toks:=s.toks+1}) I.type (bT (pY (s:={s with toks:=s.toks+1}) (x8 X hat) (bT (pY (s:={s with toks:=s.toks+1}) L3 ?_))))));obtain⟨hp,g,d,t,os⟩:=s;show aW _ _ (Builtin.ObjectAttr.storeInOwnDict (.ref a) (.ref C) (.str "answer" t) "answer" v _) _ _ _;refine bT (dW (bT (bT (wpAny_loadPart ha (bT (pY (s:={heap:=hp,gens:=g,drawn:=d,toks:=t+1,os:=os}) (Oo X hc) ?_))))));dsimp only;rw[if_neg (by decide),if_neg (by simp[typeHasDict])];have ha1:(hp.push {cls:=.type "dict",data:=.dict #[]}).get? a=some {cls:=.ref C,data:=.fields vs}:=eP _ ha;have nea:a≠hp.objs.size:=eX (cY ha);refine bT (wpAny_alloc' (bT (wpAny_update' ha1 (dW ?_))));have gd:((hp.push {cls:=.type "dict",data:=.dict #[]}).update a fun o=>{cls:=o.cls,dict:=some hp.objs.size,data:=o.data,slots:=o.slots}).get? hp.objs.size=some {cls:=.type "dict",data:=.dict #[]}:=
  (abv _ _ _ _ nea.symm).trans (Heap.get?_push_at rfl rfl)
 have nd:((hp.push {cls:=.type "dict",data:=.dict #[]}).update a fun o=>{cls:=o.cls,dict:=some hp.objs.size,data:=o.data,slots:=o.slots}).Ns hp.objs.size (fun _=>none):=
  ⟨_,#[],_,gd,rfl,fun e he=>absurd he (by simp),fun _=>rfl⟩
 show aW _ _ (abw hp.objs.size (.str "answer" t) "answer" v) _ _ _;unfold abw Builtin.ObjectAttr.newKeyGuard;refine bT (dW (bT (wpAny_nsSet1 (abc nd) fun h' n' sm=>?_)));obtain⟨oD,esD,epD,hoD,hdD,hcD⟩:=n'.count (Within.cons "answer" v Within.nil);refine bT (wpAny_lookBehind hoD (by rw[hdD];exact pastItsLine_dict (dM hcD (by rw[aA,jG,bR];lia))) ?_);refine dW (h h' ?_ n' fun b o hb q=>?_)
 ·refine(sm.2 a nea).trans (uA _ ha1 rfl)
 ·exact(sm.2 b (eX (cY q))).trans ((abv _ _ _ _ hb).trans (eP _ q))
end
end L2
namespace L2
open PySem PySem.Spec PyProof.Rows
def px(a C t:ae):HO:=.ext fun h=>h.get? a=some {cls:=.ref C,data:=.fields #[.ref t,.none,.none,.none,.bool false,.none]}
def qN(a C t dx:ae):HO:=.ext fun h=>h.get? a=some {cls:=.ref C,dict:=some dx,data:=.fields #[.ref t,.none,.none,.none,.bool false,.none]}
section
variable{X:Cx}{o e value:bq}{pos pos' apos np cpos:cx}{ta tv:TE}{t:TA}{es:List bq}{CX:e8}{k:Nat}{f C:ae}{fd:gH}{ps:List af}{sp:Sp}{dvs:List V}{ds:List ag}{E:XK}{x m:af}
def R5(K:ax)(ta tv:TE):TS:=fun D σ H=>tv σ H fun y H1=>ta σ H1 fun x H2=>∃a C t,x=.ref a/\H2 a=some (px a C t)/\XC K C/\∀dx,H2 dx=none->D.nx σ (aq (aq H2 dx (.xd [("answer",y)])) a (qN a C t dx))
theorem R6(ha:PE X o ta)(hv:PE X value tv)(hs:swapsWith value (some (.Attribute o "answer" pos')) pos.line X.ah=pure false):PS X (.Assign [.Attribute o "answer" pos'] value pos) (R5 X.K ta tv):=by
 walk_at "aq";refine plainObj_wpAny_Assign_Attribute (a0 (hv pins s σ H _ I h) fun u s1 ⟨y,H1,I1,ry,q⟩=>a0 (ha pins s1 σ H1 _ I1 q) fun ov s2 qq=>?_) hs;obtain⟨x,H2,I2,rx,a,C,t,ex,ea,c,q2⟩:=qq;subst ex;obtain rfl:ov=b7 a:=rx;obtain⟨oa,_,_⟩:=(show dP X.prog X.w H2 s2.heap a (px a C t)from I2.aT a _ ea);refine R4 I2.c8 c oa fun h' ga gd kp=>?_;have fd:H2 s2.heap.objs.size=none:=I2.aT.fresh (bY _);have ne:a≠s2.heap.objs.size:=eX (cY oa);refine⟨σ,_,?_,q2 _ fd⟩;refine I2.un (h':=h') (t':=s2.toks+2) ⟨fun b o e n _ _=>kp b o (fun z=>?_) e,fun b o e n _ _=>⟨o.slots,kp b o (fun z=>?_) e⟩,fun b o e n _=>?_,fun b o e _=>?_,fun b xs e=>?_,fun b o xs e=>?_,fun b ps e=>⟨#[],?_⟩⟩ fun b o e=>?_
 ·rw[z,ea]at n;cases n
 ·rw[z,ea]at n;cases n
 ·rw[aJ (fun z=>by rw[z,ea]at n;cases n),aJ (eX (cY e))];exact n
 ·by_cases z:b=a
  ·subst z;exact⟨_,ga⟩
  ·exact⟨o,kp b o z e⟩
 ·rw[aJ (lY e ea (by intro z;cases z)),aJ (bw e fd)];exact e
 ·rw[aJ (lY e ea (by intro z;cases z)),aJ (bw e fd)];exact e
 ·rw[aJ (lY e ea (by intro z;cases z)),aJ (bw e fd),e];simp
 ·by_cases z:b=a
  ·subst z;rw[az]at e;cases e;exact⟨ga,⟨_,ga⟩,fun h1 h2 p k=>k _ p⟩
  ·rw[aJ z]at e;by_cases zd:b=s2.heap.objs.size
   ·subst zd;rw[az]at e;cases e;refine⟨_,gd,fun g=>?_⟩;show f9 (oG g [(("answer":af),y)]) (if g="answer" then some u else none);by_cases hg:g="answer"
    ·subst hg;rw[if_pos rfl];exact ry
    ·rw[if_neg hg,ke,show(g==("answer":af))=false from beq_eq_false_iff_ne.mpr hg];exact fg
   ·rw[aJ zd]at e;refine(I2.aT b o e).lg (fun c w' hc q=>kp c w' (fun hz=>?_) q) (fun c q=>?_) fun c xs q=>?_
    ·rcases hc with rfl|hc
     ·exact z hz
     ·rw[hz,ea]at hc;cases hc
    ·rw[aJ (lY q ea (by intro w;cases w)),aJ (bw q fd)];exact q
    ·rw[aJ (lY q ea (by intro w;cases w)),aJ (bw q fd)];exact q
structure vR(K:ax)(C:ae)(m:af)(f:ae):Prop where
 sp:ur K (.ref C) "__getattribute__"=some (some (.builtin "type.__getattribute__"))
 rd:PySem.W.readsIn K C (.type "type")=true
 gr:PySem.W.findCls K (.ref C) (.type "type") m=some (.val (.ref f))
 kp:iG K (.ref f)=true
theorem kG{pl:Sem Bool}(hg:Gl X x)(hm:X.mg x=some (.ref C))(c:vR X.K C m f)(F:dG X.prog X.w X.K X.mg X.base CX k f fd ps sp)(hr:c6 k X.A)(hb:gS X.K fd ps ds)(hd:bt dvs ds)(hx:gs CX X E)(ha:PA X (e::es) t)
(hdb:(x==("__debug__":af))=false:=by decide)
(hst:b8 (e::es) X.ah=(false,eval e X.ah)::b8 es X.ah:=by rfl)(hpl:(dU pos (b8 es X.ah)).any (·.1)=false:=by rfl)
(ht:eval (.Call (.Attribute (.Name x np) m apos) (e::es) [] pos) X.ah=(do
   let ov <-eval (.Name x np) X.ah
   standAt apos.atName
   let(f,first) <-holding [ov] (getMethod ov m pl)
   callWith pos f first (dU pos (b8 (e::es) X.ah)) (backToKw pos (jr [] X.ah))):=by rfl):
  PE X (.Call (.Attribute (.Name x np) m apos) (e::es) [] pos) (oR sp dvs E t):=by
 walk_at "ae";refine x9 (pl:=pl) (nc I hg hm ?_ hdb) ht;refine PySem.W.method_cls I.c8 c.sp (PySem.W.cls_value I.c8 c.rd c.gr rfl ?_);have I':Inv X pins σ H {s with toks:=s.toks+1}:=I.cV _;refine ux (first:=[]) (h₀:=X.base) I.ok.eV.i7 c.kp (a0 (ha pos pins _ σ H _ I' h) fun us s1 ⟨vs,H1,I1,r,q⟩=>⟨I1.c8,?_⟩) hst hpl;exact qz F hr hb hd hx I1 r q
inductive E8(C:ae)(n:Int)(vs:List V)(H:Hp)(Q:VK)(E:XK):Prop
 |mk:∀a t,(vs=[.ref a])->(H a=some (px a C t))->(∀dx,H dx=none->Q .aO (aq (aq H dx (.xd [("answer",.int n)])) a (qN a C t dx)))->E8 C n vs H Q E
def kH(C:ae)(n:Int):Sp:=fun vs H Q E=>E8 C n vs H Q E
structure jU(K:ax)(C f:ae):Prop where
 c:XC K C
 sT:dQ K (.ref C) "__init__"=some (some (.ref f))
 fn:Ot K (.ref f)=some (.type "function")
 kp:iG K (.ref C)=true
theorem R7{pins:List (ae×a9)}{σ:St}{H:Hp}{s:ay}{n:Int}{Q:ag->ay->Prop}(M:jU X.K C f)(F:dG X.prog X.w X.K X.mg X.base CX k f fd ["self"] (kH C n))(hr:c6 (k+1) X.A)(hb:gS X.K fd ["self"] [])
(hx:∀H s e s',CX X.stack H s (fun _ _ _=>False) e s'->False)(I:Inv X pins σ H s)
(h:∀a t dx s',s.heap.objs.size<=a->H a=none->H dx=none->dx≠a->s'.heap.get? a=some {cls:=.ref C,dict:=some dx,data:=.fields #[.ref t,.none,.none,.none,.bool false,.none]}->X.K.In s'.heap->
   s'.os=s.os->oE s'.gens->Un (dw X.stack) [] H (aq H dx (.xd [("answer",.int n)])) s.heap s'.heap->dv X.prog X.w (aq H dx (.xd [("answer",.int n)])) s'.heap->Q (.ref a) s'):
  aW (aU X.prog X.w) X.A (call (.ref C) []) Q X.xe s:=by
 obtain⟨nm,q,N,bs,own,sn,sub,ab,col,dd,k0,k1,k2,k3,k5,hl,ho⟩:=M.c.lk;have hC:=I.c8 _ _ hl;have cB:(b7 C::(own++[.type "Exception",.type "BaseException",.type "object"])).contains (.type "Exception")=true:=by
  rw[uI,qM "Exception" (b:=true) (by decide) own ho,OK]
 have cA:(b7 C::(own++[.type "Exception",.type "BaseException",.type "object"])).contains (.type "AttributeError")=false:=by
  rw[uI,qM "AttributeError" (b:=false) (by decide) own ho];rfl
 have cN:(b7 C::(own++[.type "Exception",.type "BaseException",.type "object"])).contains (.type "NameError")=false:=by
  rw[uI,qM "NameError" (b:=false) (by decide) own ho];rfl
 obtain⟨hp,g,d,tk,os⟩:=s;have nN:H hp.objs.size=none:=I.aT.fresh (bY _);have nA:H (hp.objs.size+1)=none:=I.aT.fresh (ya _);have kp:∀b o,hp.get? b=some o->((hp.push {cls:=.type "tuple",data:=.seq #[]}).push {cls:=.ref C,data:=.fields #[.ref hp.objs.size,.none,.none,.none,.bool false,.none]}).get? b=some o:=
  fun b o e=>eP _ (eP _ e)
 have obj:((hp.push {cls:=.type "tuple",data:=.seq #[]}).push {cls:=.ref C,data:=.fields #[.ref hp.objs.size,.none,.none,.none,.bool false,.none]}).get? (hp.objs.size+1)=
   some {cls:=.ref C,data:=.fields #[.ref hp.objs.size,.none,.none,.none,.bool false,.none]}:=by heap_get
 have I1:Inv X pins σ (aq H (hp.objs.size+1) (px (hp.objs.size+1) C hp.objs.size)) ⟨(hp.push {cls:=.type "tuple",data:=.seq #[]}).push {cls:=.ref C,data:=.fields #[.ref hp.objs.size,.none,.none,.none,.bool false,.none]},g,d,tk,os⟩:=
  I.gN (a:=hp.objs.size+1) (t':=tk) kp (ya _) ⟨obj,⟨_,obj⟩,fun h1 h2 p k=>k _ p⟩
 refine wpAny_call (R1 (f:=f) PySem.F.excBase_Exception hC cB cA cN (fun h' k'=>⟨x8 (I.c8.keeps k') M.sT,fun gc=>PySem.W.bind_fn (I.c8.keeps k') gc M.fn⟩) ?_);have e0:nz X.prog X.w X.K X.mg X.base (X.A.under (.builtin "type.__call__" ⟨[.ref C],[]⟩)) X.stack _ _:=I1.vH.sR C [] [];have hlen:(([b7 (hp.objs.size+1)]:List ag)++[]).length=(["self"]:List af).length:=rfl;refine codeAny_mono (F.run _ X.stack _ _ ⟨[.ref (hp.objs.size+1)],[]⟩ [.ref (hp.objs.size+1)] [.ref (hp.objs.size+1)]
  (fun v H2=>v=.aO/\∃dx,aq H (hp.objs.size+1) (px (hp.objs.size+1) C hp.objs.size) dx=none/\H2=aq (aq (aq H (hp.objs.size+1) (px (hp.objs.size+1) C hp.objs.size)) dx (.xd [("answer",.int n)])) (hp.objs.size+1) (qN (hp.objs.size+1) C hp.objs.size dx))
  (fun _ _ _=>False) (hr.sR C [] []) e0 (hb _ [.ref (hp.objs.size+1)] I1.c8 hlen) (.cons rfl .nil) ⟨_,hp.objs.size,rfl,az,fun dx hd=>⟨rfl,dx,hd,rfl⟩⟩) fun r s' hq=>?_
 cases r with
 |error e=>exact(hx _ _ _ _ hq).elim
 |ok fl=>
  cases fl with
  |next=>exact fc hq
  |brk=>exact fc hq
  |cont=>exact fc hq
  |ret u=>
   obtain⟨v,H2,os',eD,un,aT,rv,ev,dx,hdx,eH⟩:=hq;subst ev;obtain rfl:u=gm:=rv;have da:dx≠hp.objs.size+1:=fun z=>by rw[z,az]at hdx;cases hdx
   have nd:H dx=none:=by rw[aJ da]at hdx;exact hdx
   have ea:H2 (hp.objs.size+1)=some (qN (hp.objs.size+1) C hp.objs.size dx):=by rw[eH,az]
   have same:∀b,b≠hp.objs.size+1->H2 b=aq H dx (.xd [("answer",.int n)]) b:=fun b hb=>by
    rw[eH,aJ hb];by_cases z:b=dx
    ·subst z;rw[az,az]
    ·rw[aJ z,aJ hb,aJ z]
   have lt:∀b o,hp.get? b=some o->b≠hp.objs.size+1:=fun b o e=>eX (CN (cY e));have dxs:∀b o,hp.get? b=some o->H b=none->b≠dx:=fun b o e hn z=>by
    have q1:=un.free b o (kp b o e) (by rw[aJ (lt b o e)];exact hn) (by simp);rw[eH,aJ (lt b o e),z,az]at q1;cases q1
   obtain⟨oa,_,_⟩:=(show dP X.prog X.w H2 s'.heap (hp.objs.size+1) (qN (hp.objs.size+1) C hp.objs.size dx)from aT _ _ ea);have i7:X.K.In s'.heap:=fun b o e=>by
    have e1:=I.bs b o (I.ok.eV.i7 b o e);have nfr:b∉dw X.stack:=fun z=>by
     have:=(I.stack.mem z).1;rw[I.ok.eV.i7 b o e]at this;cases this
    exact un.keep b o (kp b o e1.1) (by rw[aJ (lt b o e1.1)];exact e1.2) nfr (by simp)
   refine⟨rfl,h (hp.objs.size+1) hp.objs.size dx s' (ya _) nA nd da oa i7 os' eD ?_ ?_⟩
   ·refine⟨fun b o e hn hb hz=>un.keep b o (kp b o e) (by rw[aJ (lt b o e)];exact hn) hb hz,fun b o e hn hb hz=>un.slot b o (kp b o e) (by rw[aJ (lt b o e)];exact hn) hb hz,
     fun b o e hn _=>by rw[aJ (dxs b o e hn)];exact hn,fun b o e hz=>un.there b o (kp b o e) hz,fun b xs e=>?_,fun b o xs e=>?_,fun b qs e=>⟨#[],?_⟩⟩
    ·rw[aJ (bw e nd)];exact e
    ·rw[aJ (bw e nd)];exact e
    ·rw[aJ (bw e nd),e];simp
   ·intro b o e;have hb:b≠hp.objs.size+1:=fun z=>by
     rw[z,aJ (cM da),nA]at e;cases e
    refine(aT b o ((same b hb).trans e)).lg (fun c w' hc q=>q) (fun c q=>?_) fun c xs q=>?_
    ·rw[<-same c (lY q ea (by intro w;cases w))];exact q
    ·rw[<-same c (lY q ea (by intro w;cases w))];exact q
theorem Pa{RC:ae->Prop}{n:Int}(rc:RC C)(M:jU X.K C f)(F:dG X.prog X.w X.K X.mg X.base (gW X.prog X.w RC) k f fd ["self"] (kH C n))(hr:c6 (k+1) X.A)(hb:gS X.K fd ["self"] [])(hg:Gl X x)(hm:X.mg x=some (.ref C))(hc:X.i8=true)
(hx:gs (gW X.prog X.w RC) X E)(hdb:(x==("__debug__":af))=false:=by decide):
  PS X (.Raise (some (.Call (.Name x np) [] [] cpos)) none pos) (fun _ _ H=>∀H',aL H H'->E (.int n 0) none H'):=by
 walk_at "aq";rw[arm_exec_Raise];show aW _ _ (do standAt pos;raiseStmt X.ah (some (do let v <-eval (.Call (.Name x np) [] [] cpos) X.ah;standAt pos;pure v)) none) _ _ s;refine bT (wpAny_standAt ?_);unfold raiseStmt;refine bT (bT ?_);refine rM (nc I hg hm ?_ hdb);refine CI I.c8 M.kp ?_;refine R7 M F hr hb (fun H s e s' z=>?_) I fun a t dx s' la na nd da oa i7 os' eD un aT=>?_
 ·obtain⟨_,_,_,_,_,_,_,_,_,_,_,_,_,z⟩:=z;exact z
 ·obtain⟨nm,q,N,bs,own,sn,sub,ab,col,dd,k0,k1,k2,k3,k5,hl,ho⟩:=M.c.lk;have hC:=i7 _ _ hl;have cB:(b7 C::(own++[.type "Exception",.type "BaseException",.type "object"])).contains (.type "BaseException")=true:=by
   rw[uI,qM "BaseException" (b:=true) (by decide) own ho,OK]
  have fin:X.xe (.ref a) s':=by
   refine hx pins σ H s (.ref a) s' I ⟨a,C,dx,n,aq H dx (.xd [("answer",.int n)]),rfl,rc,.inl ⟨_,_,oa,⟨la,by rw[aJ (cM da)];exact na,rfl,rfl⟩,rfl,rfl⟩,az,os',eD,un,aT,h _ fun b o e=>?_⟩;rw[aJ (bw e nd)];exact e
  obtain⟨hp,g,d,tk,os⟩:=s';refine bT (wpAny_standAt (dW ?_));repeat(first
   |with_reducible refine rS oa ?_
   |with_reducible refine rS hC ?_
   |(with_reducible refine wpAny_isSubtype_exc hC ?_;rw[cB])
   |wp_step)
  exact wpAny_raiseNew_none (I.ok.hd hc) fin
end
end L2
namespace L2
open PySem PySem.Spec PyProof.Rows
def ak(K:ax)(x:af):Addr:=match eS K dE x with
 |some (some (.ref a))=>a
 |_=>0
def cj(K:ax)(c m:af):Addr:=match dQ K (.ref (ak K c)) m with
 |some (some (.ref a))=>a
 |_=>0
def R8:FuncData:=lL "" "" {posonlyargs:=[],args:=[],vararg:=none,kwonlyargs:=[],kw_defaults:=[],kwarg:=none,defaults:=[]} [] {kind:=.function,names:=[],isGenerator:=false,isCoroutine:=false} .none .none .none .none none .none .none
def iN(K:ax)(f:ae):FuncData:=match K.lookup f with
 |some ⟨_,_,.func fd,_⟩=>fd
 |_=>R8
def bi(K:ax)(x:af):Prop:=eS K dE x=some (some (.ref (ak K x)))
def di(K:ax)(x:af)(v:V):Prop:=∃u,eS K dE x=some (some u)/\RelV v u
def jC(K:ax)(x:af):Prop:=eS K dE x=some none
structure MG(K:ax)(mg:af->Option ag):Prop where
 val:∀x u,eS K dE x=some (some u)->mg x=some u
 aO:∀x,eS K dE x=some none->mg x=none
structure mi(K:ax)(C:ae):Prop where
 cl:d8 K C
 ha:dQ K (.ref C) "__class__"=some (some (.builtin "object.__class__"))
 hn:ur K (.builtin "object.__class__") "__get__"=some (some (.builtin "getset_descriptor.__get__"))
 vG:Ou K (.builtin "object.__class__")=some true
 hm:uv K C (.type "object")=some true
structure bo(K:ax)(x qual:af)(st:aH)(ps:List af)(f:ae):Prop where
 fn:vQ K x qual st f (iN K f)
 bd:gS K (iN K f) ps []
theorem E9{K:ax}{f:ae}{oc:ag}{od:Option ae}{fd:gH}{sl:Array (Option ag)}(l:K.lookup f=some ⟨oc,od,.func fd,sl⟩):iN K f=fd:=by
 unfold iN;rw[l]
theorem gY{K:ax}{x:af}{f:ae}(h:eS K dE x=some (some (.ref f))):ak K x=f:=by
 unfold ak;rw[h]
theorem R9{K:ax}{c m:af}{f:ae}(h:dQ K (.ref (ak K c)) m=some (some (.ref f))):cj K c m=f:=by
 unfold cj;rw[h]
section
variable{P:bv}{w:bf}{K:ax}{mg:af->Option ag}{base:Heap}{RC:ae->Prop}
theorem bo.ok{x qual:af}{st:aH}{f:ae}{N ps:List af}{k:Nat}{sp:Sp}(F:bo K x qual st ps f)(S:oQ N ps (eU st))(len:∀vs H Q E,sp vs H Q E->vs.length=ps.length)
(hbody:∀(cdv:ag) (A:cv) (bp:List Env) (s:ay) (H:Hp) (vs:List V) (Q:VK) (E:XK),c6 k (A.deeper (envOfC qual (eU st) s.heap.objs.size f cdv))->sp vs H Q E->
   ∃t,gQ (gT (gW P w RC) P w K mg base N qual (eU st) f cdv A bp s H E) (kF st) t/\t {nx:=fun _ H'=>Q .aO H',rt:=Q} (start N vs) H):dG P w K mg base (gW P w RC) (k+1) f (iN K f) ps sp:=by
 obtain⟨oc,od,kV,doc,pm,an,cdv,ct,osl,e,lk,hcd⟩:=F.fn.ex;rw[e]at lk ⊢;exact El lk hcd S len fun A bp s H vs Q E hr hsp=>hbody cdv A bp s H vs Q E hr hsp
end
section
variable{X:Cx}{x:af}{v:V}{pos p np:cx}{e fe o:bq}{es:List bq}{t:TA}{te tf to:TE}{k:Nat}{f:ae}{ps:List af}{sp:Sp}{E:XK}{CX:e8}{m:af}{apos:cx}
theorem a8(M:MG X.K X.mg)(h:di X.K x v)(hg:Gl X x:=by rfl)(hd:(x==("__debug__":af))=false:=by decide):PE X (.Name x pos) (tC v):=by
 obtain⟨u,hu,r⟩:=h;exact vg hg (M.val x u hu) r hd
theorem pA(M:MG X.K X.mg)(h:bi X.K x)(hg:Gl X x:=by rfl)(hd:(x==("__debug__":af))=false:=by decide):PE X (.Name x pos) (tC (.ref (ak X.K x))):=vg hg (M.val x _ h) rfl hd
theorem O6{nm qual:af}{st:aH}(M:MG X.K X.mg)(hx:bi X.K x)(D:bo X.K nm qual st ps (ak X.K x))(F:dG X.prog X.w X.K X.mg X.base CX k (ak X.K x) (iN X.K (ak X.K x)) ps sp)(hr:c6 k X.A)(hp:gs CX X E)(ha:PA X (e::es) t)
(hg:Gl X x:=by rfl)(hdb:(x==("__debug__":af))=false:=by decide)(he:b8 (e::es) X.ah=(false,eval e X.ah)::b8 es X.ah:=by rfl)(hpl:(dU pos (b8 es X.ah)).any (·.1)=false:=by rfl):
  PE X (.Call (.Name x p) (e::es) [] pos) (oR sp [] E t):=
 QL F hr hg (M.val x _ hx) D.fn.kp D.bd .nil hp ha hdb he hpl
structure dB(K:ax)(c m qual:af)(st:aH)(ps:List af):Prop where
 cl:d8 K (ak K c)
 me:sQ K (ak K c) m (cj K c m)
 df:bo K m qual st ps (cj K c m)
theorem yJ{c qual:af}{st:aH}{pl:Sem Bool}(he:PE X o to)(D:dB X.K c m qual st ps)(F:dG X.prog X.w X.K X.mg X.base CX k (cj X.K c m) (iN X.K (cj X.K c m)) ps sp)(hr:c6 k X.A)(hx:gs CX X E)(ha:PA X (e::es) t)
(hst:b8 (e::es) X.ah=(false,eval e X.ah)::b8 es X.ah:=by rfl)(hpl:(dU pos (b8 es X.ah)).any (·.1)=false:=by rfl)
(ht:eval (.Call (.Attribute o m apos) (e::es) [] pos) X.ah=(do
   let ov <-eval o X.ah
   standAt apos.atName
   let(f,first) <-holding [ov] (getMethod ov m pl)
   callWith pos f first (dU pos (b8 (e::es) X.ah)) (backToKw pos (jr [] X.ah))):=by rfl):
  PE X (.Call (.Attribute o m apos) (e::es) [] pos) (lU (ak X.K c) m sp [] E to t):=QM he D.cl D.me F hr D.df.bd .nil hx ha hst hpl ht
theorem Sa{c qual:af}{st:aH}{pl:Sem Bool}(he:PE X o to)(D:dB X.K c m qual st ps)(F:dG X.prog X.w X.K X.mg X.base CX k (cj X.K c m) (iN X.K (cj X.K c m)) ps sp)(hr:c6 k X.A)(hx:gs CX X E)
(ht:eval (.Call (.Attribute o m apos) [] [] pos) X.ah=(do
   let ov <-eval o X.ah
   standAt apos.atName
   let(f,first) <-holding [ov] (getMethod ov m pl)
   callWith pos f first (dU pos (b8 [] X.ah)) (backToKw pos (jr [] X.ah))):=by rfl):
  PE X (.Call (.Attribute o m apos) [] [] pos) (lU (ak X.K c) m sp [] E to iZ):=QN he D.cl D.me F hr D.df.bd .nil hx ht
def Fa(X:Cx)(CX:e8)(k:Nat)(E:XK)(tf:TE)(t:TA):TE:=fun σ H Q=>tf σ H fun v H1=>∃(f:ae)(fd:gH)(ps:List af)(sp:Sp),v=.ref f/\iG X.K (.ref f)=true/\gS X.K fd ps []/\
 dG X.prog X.w X.K X.mg X.base CX k f fd ps sp/\t σ H1 fun vs H2=>sp vs H2 Q E
theorem Sb(hf:PE X fe tf)(hr:c6 k X.A)(hx:gs CX X E)(ha:PA X (e::es) t)(ht:eval (.Call fe (e::es) [] pos) X.ah=(do callWith pos (<-eval fe X.ah) [] (dU pos (b8 (e::es) X.ah)) (backToKw pos (jr [] X.ah))))
(he:b8 (e::es) X.ah=(false,eval e X.ah)::b8 es X.ah:=by rfl)(hpl:(dU pos (b8 es X.ah)).any (·.1)=false:=by rfl):
  PE X (.Call fe (e::es) [] pos) (Fa X CX k E tf t):=by
 walk_at "ae";rw[ht];refine bT (a0 (hf pins s σ H _ I h) fun u s1 qq=>?_);obtain⟨v,H1,I1,rv,f,fd,ps,sp,ev,kp,bd,F,q⟩:=qq;subst ev;obtain rfl:u=b7 f:=rv;refine ux (h₀:=X.base) I1.ok.eV.i7 kp (a0 (ha pos pins s1 σ H1 _ I1 q) fun us s2 ⟨vs,H2,I2,r,q2⟩=>⟨I2.c8,?_⟩) he hpl;exact qz F hr bd .nil hx I2 r (by rw[kW];exact q2)
end
end L2
namespace L2
open PySem PySem.Spec PyProof.Rows
open PySem.W (WData Codec OpenSpec Well WellAll ReadsW ReadsAllW)
mutual
inductive Dw(K:ax)(H:Hp):V->fi->Prop
 |aO:Dw K H .aO .none
 |bl (b:Bool):Dw K H (.bl b) (.bool b)
 |int (i:Int):Dw K H (.int i) (.int i)
 |str (x:af):Dw K H (.str x) (.str x)
 |gB (b:Array UInt8):Dw K H (.gB b) (.bytes b.toList)
 |ai {a:ae} {xs:List V} {ds:List fi}:bV K H a xs->jV K H xs ds->Dw K H (.ref a) (.list ds)
 |aj {a:ae} {xs:List V} {ds:List fi}:dH K H a xs->jV K H xs ds->Dw K H (.ref a) (.tuple ds)
inductive jV(K:ax)(H:Hp):List V->List fi->Prop
 |nil:jV K H [] []
 |cons {v:V} {vs:List V} {d:fi} {ds:List fi}:Dw K H v d->jV K H vs ds->jV K H (v::vs) (d::ds)
end
theorem Fb{K:ax}{H:Hp}:∀ns:List Int,jV K H (ns.map V.int) (ns.map fi.int)
 |[]=>.nil
 |n::r=>.cons (.int n) (Fb r)
theorem Fc{K:ax}{H:Hp}:∀(ns:List Int)(xs:List V),jV K H xs (ns.map fi.int)->xs=ns.map V.int
 |[],xs,h=>by
  cases h;rfl
 |n::r,xs,h=>by
  cases h with
  |cons h1 h2=>
   cases h1;rw[Fc r _ h2]<;>rfl
section
variable{P:bv}{w:bf}{K:ax}{H:Hp}{h:Heap}{R:abx}{cl:af->Option ae}
theorem Sd{a:ae}{xs:List V}(aT:dv P w H h)(KX:K.In h)(q:bV K H a xs):∃(its:List ag)(o:a9)(n:Nat),bt xs its/\h.get? a=some o/\o.cls=.type "list"/\o.data=.seq its.toArray n:=by
 rcases q with q|⟨o,its,n,e,hc,_,hd,_,hv⟩
 ·obtain⟨_,its,n,hv,e⟩:=(show dP P w H h a (.ai xs)from q.ok aT);exact⟨its,_,n,hv,e,rfl,rfl⟩
 ·exact⟨its.toList,o,n,hv,KX _ _ e,hc,by simp[hd]⟩
theorem Se{a:ae}{xs:List V}(aT:dv P w H h)(KX:K.In h)(q:dH K H a xs):∃(its:List ag)(o:a9)(n:Nat),bt xs its/\h.get? a=some o/\o.cls=.type "tuple"/\o.data=.seq its.toArray n:=by
 rcases q with q|⟨o,its,n,e,hc,hd,_,hv⟩
 ·obtain⟨_,its,hv,o,e,hc,n,hd⟩:=(show dP P w H h a (.aj xs)from q.ok aT);exact⟨its,o,n,hv,e,hc,hd⟩
 ·exact⟨its.toList,o,n,hv,KX _ _ e,hc,by simp[hd]⟩
mutual
theorem Dw.Fd(aT:dv P w H h)(KX:K.In h):∀(d:fi)(v:V)(u:ag),Dw K H v d->RelV v u->∃as,ReadsW R cl h u d as
 | .none,_,_,x,r=>by
  cases x;cases r;exact⟨_,ReadsW.none⟩
 | .bool b,_,_,x,r=>by
  cases x;cases r;exact⟨_,ReadsW.bool b⟩
 | .int i,_,_,x,r=>by
  cases x;obtain⟨t,rfl⟩:=r;exact⟨_,ReadsW.int i t⟩
 | .str s,_,_,x,r=>by
  cases x;obtain⟨t,rfl⟩:=r;exact⟨_,ReadsW.str s t⟩
 | .bytes b,_,_,x,r=>by
  cases x;obtain⟨t,rfl⟩:=r;exact⟨_,ReadsW.bytes _ t⟩
 | .list ds,_,_,x,r=>by
  cases x with
  |ai hs ha=>
   cases r;obtain⟨its,o,n,rv,ho,hc,hd⟩:=Sd aT KX hs;obtain⟨as,hr⟩:=Dw.AF aT KX ds _ its ha rv;exact⟨_,ReadsW.list ho hc hd hr⟩
 | .tuple ds,_,_,x,r=>by
  cases x with
  |aj hs ha=>
   cases r;obtain⟨its,o,n,rv,ho,hc,hd⟩:=Se aT KX hs;obtain⟨as,hr⟩:=Dw.AF aT KX ds _ its ha rv;exact⟨_,ReadsW.tuple ho hc hd hr⟩
 | .float _,_,_,x,_=>by cases x
 | .dict _,_,_,x,_=>by cases x
 | .bytearray _,_,_,x,_=>by cases x
 | .set _,_,_,x,_=>by cases x
 | .frozenset _,_,_,x,_=>by cases x
 | .obj _ _,_,_,x,_=>by cases x
theorem Dw.AF(aT:dv P w H h)(KX:K.In h):∀(ds:List fi)(vs:List V)(us:List ag),jV K H vs ds->bt vs us->∃as,ReadsAllW R cl h us ds as
 |[],_,_,x,r=>by
  cases x;cases r;exact⟨_,ReadsAllW.nil⟩
 |d::ds,_,_,x,r=>by
  cases x with
  |cons h1 h2=>
   cases r with
   |cons r1 r2=>
    obtain⟨as,q1⟩:=Dw.Fd aT KX d _ _ h1 r1;obtain⟨bs,q2⟩:=Dw.AF aT KX ds _ _ h2 r2;exact⟨_,ReadsAllW.cons q1 q2⟩
end
end
mutual
def jc:fi->Bool
 | .none=>true
 | .bool _=>true
 | .int _=>true
 | .str _=>true
 | .bytes _=>true
 | .list xs=>jW xs
 | .tuple xs=>jW xs
 |_=>false
def jW:List fi->Bool
 |[]=>true
 |x::r=>jc x&&jW r
end
theorem Fe{α:Type}{f:α->fi}(h:∀a,jc (f a)=true):∀l:List α,jW (l.map f)=true
 |[]=>rfl
 |x::r=>by
  show(jc (f x)&&jW (r.map f))=true;rw[h x,Fe h r]<;>rfl
theorem nM:∀(c:Codec)(a:c.denote),jc (c.enc a)=true
 | .unit,_=>rfl
 | .bool,_=>rfl
 | .int _ _,_=>rfl
 | .nat _ _,_=>rfl
 | .u8,_=>rfl
 | .bytes _ _,_=>rfl
 | .text _ _ _ _,_=>rfl
 | .list _ _ c,a=>Fe (fun x=>nM c x) a
 | .pair c d,a=>by
  show(jc (c.enc a.1)&&(jc (d.enc a.2)&&true))=true;rw[nM c a.1,nM d a.2]<;>rfl
 | .triple c d e,a=>by
  show(jc (c.enc a.1)&&(jc (d.enc a.2.1)&&(jc (e.enc a.2.2)&&true)))=true;rw[nM c a.1,nM d a.2.1,nM e a.2.2]<;>rfl
 | .option c,none=>rfl
 | .option c,some x=>nM c x
theorem Ff:∀(cs:List Codec)(a:CW cs),jW (uJ cs a)=true
 |[],_=>rfl
 |c::cs,a=>by
  show(jc (c.enc a.1)&&jW (uJ cs a.2))=true;rw[nM c a.1,Ff cs a.2]<;>rfl
theorem AG:∀{xs:List fi}{d:fi},d∈xs->d.weight<=CY xs
 |[],d,h=>absurd h (by simp)
 |x::r,d,h=>by
  show d.weight<=x.weight+1+CY r;rcases br.mp h with e|m
  ·rw[e]
   lia
  ·have z:=AG m
   lia
def gZ:ag->V
 | .none=>.aO
 | .bool b=>.bl b
 | .int i _=>.int i
 | .str x _=>.str x
 | .bytes b _=>.gB b
 | .ref a=>.ref a
 |_=>.aO
def jD(A:List ae):ag->Prop
 | .none=>True
 | .bool _=>True
 | .int _ _=>True
 | .str _ _=>True
 | .bytes _ _=>True
 | .ref a=>a∈A
 |_=>False
theorem jD.cG{A B:List ae}(h:∀a∈A,a∈B):∀{u:ag},jD A u->jD B u:=fun{u} x=>by
 cases u with
 |ref a=>exact h a x
 |none=>trivial
 |bool b=>trivial
 |int i t=>trivial
 |str s t=>trivial
 |bytes b t=>trivial
 |_=>exact fc x
theorem Sf{A:List ae}{u:ag}(x:jD A u):RelV (gZ u) u:=by
 cases u with
 |ref a=>rfl
 |none=>rfl
 |bool b=>rfl
 |int i t=>exact⟨t,rfl⟩
 |str s t=>exact⟨t,rfl⟩
 |bytes b t=>exact⟨t,rfl⟩
 |_=>exact fc x
theorem qO{A:List ae}:∀{vs:List ag},(∀u∈vs,jD A u)->bt (vs.map gZ) vs
 |[],_=>.nil
 |u::r,h=>.cons (Sf (h u (cw ..))) (qO fun x hx=>h x (bP _ hx))
def jX(h:Heap)(A:List ae)(a:ae):Prop:=∃vs:List ag,vs.length<=bE/\(∀u∈vs,jD A u)/\
 (h.get? a=some {cls:=.type "list",data:=.seq vs.toArray}\/h.get? a=some {cls:=.type "tuple",data:=.seq vs.toArray})
theorem jX.cG{h:Heap}{A B:List ae}{a:ae}(k:∀a∈A,a∈B)(x:jX h A a):jX h B a:=by
 obtain⟨vs,h1,h2,h3⟩:=x;exact⟨vs,h1,fun u hu=>(h2 u hu).cG k,h3⟩
theorem vS{P:kX}{h:Heap}:∀{vs:List ag}{ds:List fi},oM P h vs ds->vs.length=ds.length
 |_,_,.nil=>rfl
 |_,_,.cons _ b=>by
  show _+1=_+1;rw[vS b]
theorem Fg{P:kX}{h:Heap}{v:ag}{ds:List fi}(x:Well P h v (.list ds)):∃(a:ae)(vs:List ag),v=.ref a/\h.get? a=some {cls:=.type "list",data:=.seq vs.toArray}/\oM P h vs ds:=by
 cases x with
 |list ho hall=>exact⟨_,_,rfl,ho,hall⟩
theorem Fh{P:kX}{h:Heap}{v:ag}{ds:List fi}(x:Well P h v (.tuple ds)):∃(a:ae)(vs:List ag),v=.ref a/\h.get? a=some {cls:=.type "tuple",data:=.seq vs.toArray}/\oM P h vs ds:=by
 cases x with
 |tuple ho hall=>exact⟨_,_,rfl,ho,hall⟩
theorem Fi{P:kX}{h:Heap}{us:List ag}{d:fi}{ds:List fi}(x:oM P h us (d::ds)):∃(v:ag)(vs:List ag),us=v::vs/\Well P h v d/\oM P h vs ds:=by
 cases x with
 |cons a b=>exact⟨_,_,rfl,a,b⟩
theorem Fj{n:Nat}(h:n<=1048576):n<=sizeLine:=dM h (by decide)
section
variable{P:kX}{h:Heap}
mutual
theorem Sg:∀(d:fi)(v:ag),Well P h v d->jc d=true->d.weight<=1048576->∃A:List ae,jD A v/\∀a∈A,jX h A a
 | .none,_,x,_,_=>by
  cases x;exact⟨[],trivial,fun a m=>absurd m (by simp)⟩
 | .bool b,_,x,_,_=>by
  cases x;exact⟨[],trivial,fun a m=>absurd m (by simp)⟩
 | .int i,_,x,_,_=>by
  cases x;exact⟨[],trivial,fun a m=>absurd m (by simp)⟩
 | .str s,_,x,_,_=>by
  cases x;exact⟨[],trivial,fun a m=>absurd m (by simp)⟩
 | .bytes b,_,x,_,_=>by
  cases x;exact⟨[],trivial,fun a m=>absurd m (by simp)⟩
 | .list ds,_,x,p,z=>by
  obtain⟨a,vs,rfl,ho,hall⟩:=Fg x;have z2:CY ds<=1048576:=z;obtain⟨A,h1,h2⟩:=vT ds _ hall p fun d hd=>dM (AG hd) z2;have k:∀b∈A,b∈a::A:=fun b hb=>bP _ hb;refine⟨a::A,cw ..,fun b hb=>?_⟩;rcases br.mp hb with e|m
  ·rw[e];exact⟨vs,Fj (by rw[vS hall];exact dM (aby ds) z2),fun u hu=>(h1 u hu).cG k,.inl ho⟩
  ·exact(h2 b m).cG k
 | .tuple ds,_,x,p,z=>by
  obtain⟨a,vs,rfl,ho,hall⟩:=Fh x;have z2:CY ds<=1048576:=z;obtain⟨A,h1,h2⟩:=vT ds _ hall p fun d hd=>dM (AG hd) z2;have k:∀b∈A,b∈a::A:=fun b hb=>bP _ hb;refine⟨a::A,cw ..,fun b hb=>?_⟩;rcases br.mp hb with e|m
  ·rw[e];exact⟨vs,Fj (by rw[vS hall];exact dM (aby ds) z2),fun u hu=>(h1 u hu).cG k,.inr ho⟩
  ·exact(h2 b m).cG k
 | .float _,_,_,p,_=>ko (show false=true from p)
 | .dict _,_,_,p,_=>ko (show false=true from p)
 | .bytearray _,_,_,p,_=>ko (show false=true from p)
 | .set _,_,_,p,_=>ko (show false=true from p)
 | .frozenset _,_,_,p,_=>ko (show false=true from p)
 | .obj _ _,_,_,p,_=>ko (show false=true from p)
theorem vT:∀(ds:List fi)(vs:List ag),oM P h vs ds->jW ds=true->(∀d∈ds,d.weight<=1048576)->∃A:List ae,(∀u∈vs,jD A u)/\∀a∈A,jX h A a
 |[],_,x,_,_=>by
  cases x;exact⟨[],fun u m=>absurd m (by simp),fun a m=>absurd m (by simp)⟩
 |d::ds,_,x,p,z=>by
  obtain⟨v,vs,rfl,x1,x2⟩:=Fi x;have q:jc d=true/\jW ds=true:=abz.mp p;obtain⟨A,a1,a2⟩:=Sg d v x1 q.1 (z d (cw ..));obtain⟨B,b1,b2⟩:=vT ds vs x2 q.2 fun e he=>z e (bP _ he);have kA:∀b∈A,b∈A++B:=fun b hb=>cS.mpr (.inl hb);have kB:∀b∈B,b∈A++B:=fun b hb=>cS.mpr (.inr hb);refine⟨A++B,fun u hu=>?_,fun b hb=>?_⟩
  ·rcases br.mp hu with e|m
   ·rw[e];exact a1.cG kA
   ·exact(b1 u m).cG kB
  ·rcases cS.mp hb with m|m
   ·exact(a2 b m).cG kA
   ·exact(b2 b m).cG kB
end
end
def vV(o:a9):Option HO:=match o.data with
 | .seq vs _=>if(o.cls==lI "list")=true then some (.fC o (.ai (vs.toList.map gZ)))else some (.fC o (.aj (vs.toList.map gZ)))
 |_=>none
def gw(K:ax)(h:Heap)(A:List ae):Hp:=fun b=>if b∈A then(if(K.lookup b).isNone=true then(h.get? b).bind vV else none)else none
def tH(H:Hp):Prop:=∀b,H b=none\/∃o u,H b=some (.fC o u)
theorem Fl(vs:List ag):vV {cls:=.type "list",data:=.seq vs.toArray}=some (.fC {cls:=.type "list",data:=.seq vs.toArray} (.ai (vs.map gZ))):=by
 show(if(lI "list"==lI "list")=true then some (HO.fC {cls:=.type "list",data:=.seq vs.toArray} (.ai (vs.toArray.toList.map gZ)))else some (HO.fC {cls:=.type "list",data:=.seq vs.toArray} (.aj (vs.toArray.toList.map gZ))))=_;rw[if_pos (beq_self_eq_true _)]
theorem Fm(vs:List ag):vV {cls:=.type "tuple",data:=.seq vs.toArray}=some (.fC {cls:=.type "tuple",data:=.seq vs.toArray} (.aj (vs.map gZ))):=by
 show(if(lI "tuple"==lI "list")=true then some (HO.fC {cls:=.type "tuple",data:=.seq vs.toArray} (.ai (vs.toArray.toList.map gZ)))else some (HO.fC {cls:=.type "tuple",data:=.seq vs.toArray} (.aj (vs.toArray.toList.map gZ))))=_;rw[if_neg (by decide)]
section
variable{P:bv}{w:bf}{K:ax}{h:Heap}{A:List ae}
theorem vW{b:ae}{o:a9}(hb:b∈A)(hk:K.lookup b=none)(e:h.get? b=some o):gw K h A b=vV o:=by
 unfold gw;rw[if_pos hb,hk,if_pos (show(none:Option a9).isNone=true from rfl),e]<;>rfl
theorem Sh{b:ae}{u:HO}(q:gw K h A b=some u):b∈A/\K.lookup b=none:=by
 unfold gw at q;by_cases hb:b∈A
 ·rw[if_pos hb]at q;cases hk:K.lookup b with
  |none=>exact⟨hb,rfl⟩
  |some o=>
   rw[hk,if_neg (by simp)]at q;cases q
 ·rw[if_neg hb]at q;cases q
theorem vX(ar:∀a∈A,jX h A a){b:ae}{u:HO}(q:gw K h A b=some u):K.lookup b=none/\∃vs:List ag,vs.length<=bE/\(∀u∈vs,jD A u)/\
  ((h.get? b=some {cls:=.type "list",data:=.seq vs.toArray}/\u=.fC {cls:=.type "list",data:=.seq vs.toArray} (.ai (vs.map gZ)))\/
   (h.get? b=some {cls:=.type "tuple",data:=.seq vs.toArray}/\u=.fC {cls:=.type "tuple",data:=.seq vs.toArray} (.aj (vs.map gZ)))):=by
 obtain⟨hb,hk⟩:=Sh q;obtain⟨vs,h1,h2,h3⟩:=ar b hb;refine⟨hk,vs,h1,h2,?_⟩;rcases h3 with e|e
 ·rw[vW hb hk e,Fl]at q;exact .inl ⟨e,(fz q).symm⟩
 ·rw[vW hb hk e,Fm]at q;exact .inr ⟨e,(fz q).symm⟩
theorem Si(ar:∀a∈A,jX h A a):tH (gw K h A):=fun b=>by
 cases q:gw K h A b with
 |none=>exact .inl rfl
 |some u=>
  obtain⟨_,vs,_,_,⟨_,e⟩|⟨_,e⟩⟩:=vX ar q
  ·exact .inr ⟨_,_,by rw[e]⟩
  ·exact .inr ⟨_,_,by rw[e]⟩
theorem Sj(ar:∀a∈A,jX h A a):dv P w (gw K h A) h:=fun b u q=>by
 obtain⟨_,vs,h1,h2,⟨e,rfl⟩|⟨e,rfl⟩⟩:=vX ar q
 ·exact⟨e,by rw[bK];exact h1,vs,_,qO h2,e⟩
 ·exact⟨e,by rw[bK];exact h1,vs,qO h2,_,e,rfl,_,rfl⟩
theorem vY{c c':ag}{vs us:List ag}(e:(some {cls:=c,data:=.seq vs.toArray}:Option a9)=some {cls:=c',data:=.seq us.toArray}):c=c'/\vs=us:=by
 have e1:=fz e;have e2:c=c':=congrArg a9.cls e1;have e3:CZ vs.toArray=CZ us.toArray:=congrArg a9.data e1;injection e3 with e4
 refine⟨e2,?_⟩;have e5:=congrArg CH e4;simpa using e5
theorem Sk(KX:K.In h)(ar:∀a∈A,jX h A a){a:ae}{vs:List ag}(ha:a∈A)(e:h.get? a=some {cls:=.type "list",data:=.seq vs.toArray}):(∀u∈vs,jD A u)/\bV K (gw K h A) a (vs.map gZ):=by
 obtain⟨us,h1,h2,h3⟩:=ar a ha;have hu:us=vs:=by
  rcases h3 with q|q
  ·rw[e]at q;exact(vY q).2.symm
  ·rw[e]at q;exact absurd (abA (vY q).1) (by decide)
 subst hu;refine⟨h2,?_⟩;cases hk:K.lookup a with
 |none=>exact .inl (.inr ⟨_,by rw[vW ha hk e,Fl]⟩)
 |some o=>
  have e2:=KX a o hk;rw[e]at e2;obtain rfl:=fz e2;exact .inr ⟨_,us.toArray,_,hk,rfl,rfl,rfl,by rw[dO];exact h1,by simpa using qO h2⟩
theorem Sl(KX:K.In h)(ar:∀a∈A,jX h A a){a:ae}{vs:List ag}(ha:a∈A)(e:h.get? a=some {cls:=.type "tuple",data:=.seq vs.toArray}):(∀u∈vs,jD A u)/\dH K (gw K h A) a (vs.map gZ):=by
 obtain⟨us,h1,h2,h3⟩:=ar a ha;have hu:us=vs:=by
  rcases h3 with q|q
  ·rw[e]at q;exact absurd (abA (vY q).1) (by decide)
  ·rw[e]at q;exact(vY q).2.symm
 subst hu;refine⟨h2,?_⟩;cases hk:K.lookup a with
 |none=>exact .inl (.inr ⟨_,by rw[vW ha hk e,Fm]⟩)
 |some o=>
  have e2:=KX a o hk;rw[e]at e2;obtain rfl:=fz e2;exact .inr ⟨_,us.toArray,_,hk,rfl,rfl,by rw[dO];exact h1,by simpa using qO h2⟩
mutual
theorem Sm{Pm:kX}(KX:K.In h)(ar:∀a∈A,jX h A a):∀(d:fi)(v:ag),Well Pm h v d->jc d=true->jD A v->Dw K (gw K h A) (gZ v) d
 | .none,_,x,_,_=>by
  cases x;exact .aO
 | .bool b,_,x,_,_=>by
  cases x;exact .bl b
 | .int i,_,x,_,_=>by
  cases x;exact .int i
 | .str s,_,x,_,_=>by
  cases x;exact .str s
 | .bytes b,_,x,_,_=>by
  cases x;have z:=Dw.gB (K:=K) (H:=gw K h A) b.toArray;exact z
 | .list ds,_,x,p,hu=>by
  obtain⟨a,vs,rfl,ho,hall⟩:=Fg x;obtain⟨h2,hs⟩:=Sk KX ar hu ho;exact .ai hs (pB KX ar ds _ hall p h2)
 | .tuple ds,_,x,p,hu=>by
  obtain⟨a,vs,rfl,ho,hall⟩:=Fh x;obtain⟨h2,hs⟩:=Sl KX ar hu ho;exact .aj hs (pB KX ar ds _ hall p h2)
 | .float _,_,_,p,_=>ko (show false=true from p)
 | .dict _,_,_,p,_=>ko (show false=true from p)
 | .bytearray _,_,_,p,_=>ko (show false=true from p)
 | .set _,_,_,p,_=>ko (show false=true from p)
 | .frozenset _,_,_,p,_=>ko (show false=true from p)
 | .obj _ _,_,_,p,_=>ko (show false=true from p)
theorem pB{Pm:kX}(KX:K.In h)(ar:∀a∈A,jX h A a):∀(ds:List fi)(vs:List ag),oM Pm h vs ds->jW ds=true->(∀u∈vs,jD A u)->jV K (gw K h A) (vs.map gZ) ds
 |[],_,x,_,_=>by
  cases x;exact .nil
 |d::ds,_,x,p,hu=>by
  obtain⟨v,vs,rfl,x1,x2⟩:=Fi x;have q:jc d=true/\jW ds=true:=abz.mp p;exact .cons (Sm KX ar d v x1 q.1 (hu _ (cw ..))) (pB KX ar ds vs x2 q.2 fun u m=>hu u (bP _ m))
end
end
theorem Sn{P:bv}{w:bf}{K:ax}{mg mb:af->Option ag}{CX:e8}{k:Nat}{fa:ae}{fd:gH}{ps:List af}{sp:Sp}{s₁:ay}{vals:List ag}{ds:List fi}{R:abx}{cl:af->Option ae}{d0:fi}
(KX:K.In s₁.heap)(hns:s₁.heap.Ns dE mg)(hb:s₁.heap.Ns builtinsNs mb)(hbb:∀x:af,x≠"__name__"->mb x=jo x)(hlim:s₁.heap.NoLimit)(hg:s₁.gens= #[])
(hwl:oM w.params s₁.heap vals ds)(hpl:jW ds=true)(hwt:∀d∈ds,d.weight<=1048576)(hr:c6 k callerA)
(F:∀base:Heap,K.In base->base.Ns dE mg->dG P w K mg base CX k fa fd ps sp)(hbind:∀(s:ay) (us:List ag),us.length=ps.length->uw s fd ⟨us,[]⟩ (ps.zip us))(hlen:ds.length=ps.length)
(hsp:∀(H:Hp) (xs:List V),tH H->jV K H xs ds->sp xs H (fun v H'=>Dw K H' v d0) fun _ _ _=>False)
(hCX:∀H e s',CX [] H s₁ (fun _ _ _=>False) e s'->False):
  codeAny (aU P w) callerA (.call (.ref fa) ⟨vals,[]⟩) (fun r s'=>∃u as,r=.ok (.ret u)/\ReadsW R cl s'.heap u d0 as/\OldK s₁.heap s'.heap/\s'.os=s₁.os/\oE s'.gens) s₁:=by
 obtain⟨A,ho,ar⟩:=vT ds vals hwl hpl hwt;have hO:tH (gw K s₁.heap A):=Si ar;have aT:dv P w (gw K s₁.heap A) s₁.heap:=Sj ar;have hS:=pB KX ar ds vals hwl hpl ho;have hV:=qO ho;have hK:∀b u,gw K s₁.heap A b=some u->K.lookup b=none:=fun b u q=>(vX ar q).1;have noA:∀{b:ae}{o:a9}{es:Array yj}{ep:Nat},s₁.heap.get? b=some o->o.data=.dict es ep->gw K s₁.heap A b=none:=fun{b o es ep} e d=>by
  cases q:gw K s₁.heap A b with
  |none=>rfl
  |some u=>
   obtain⟨_,vs,_,_,⟨e2,_⟩|⟨e2,_⟩⟩:=vX ar q
   ·rw[e2]at e;cases e;have d':CZ vs.toArray _=Data.dict es ep:=d;cases d'
   ·rw[e2]at e;cases e;have d':CZ vs.toArray _=Data.dict es ep:=d;cases d'
 generalize gw K s₁.heap A=H at hO aT hS hK noA;have base_of:∀{b:ae}{o:a9},s₁.heap.get? b=some o->H b=none->(l5 s₁.heap H).get? b=some o:=fun e n=>P0 e n;have nsK:∀{b:ae}{m:af->Option ag},s₁.heap.Ns b m->(l5 s₁.heap H).Ns b m:=fun{b m} ⟨o,es,ep,e,d,r⟩=>⟨o,es,ep,base_of e (noA e d),d,r⟩;have nK:∀b o,K.lookup b=some o->H b=none:=fun b o e=>by
  cases q:H b with
  |none=>rfl
  |some u=>
   rw[hK b u q]at e;cases e
 have hKb:K.In (l5 s₁.heap H):=fun b o e=>base_of (KX b o e) (nK b o e);have hM:Mod K mg (l5 s₁.heap H):=⟨hKb,nsK hns,⟨mb,nsK hb,hbb⟩,let⟨mc,h1,h2⟩:=hlim;⟨mc,nsK h1,h2⟩⟩;have e0:nz P w K mg (l5 s₁.heap H) callerA [] s₁ H:=⟨rfl,hM,fun b o e=>P2 e,oH (PZ _ _),trivial,fun b hb=>absurd (show b∈([]:List ae)from hb) (by simp),aT,.of_eq hg⟩;have hl:vals.length=ps.length:=by rw[vS hwl];exact hlen
 refine codeAny_mono ((F _ hKb (nsK hns)).run callerA [] s₁ H ⟨vals,[]⟩ vals (vals.map gZ) _ _ hr e0 (hbind s₁ vals hl) hV (hsp H _ hO hS)) fun r s' x=>?_;cases r with
 |error e=>exact(hCX H e s' x).elim
 |ok fl=>
  cases fl with
  |next=>exact fc x
  |brk=>exact fc x
  |cont=>exact fc x
  |ret u=>
   obtain⟨v,H',os,eD,un,hok',r',q⟩:=x;have kept:∀b o,s₁.heap.get? b=some o->s'.heap.get? b=some o:=fun b o e=>by
    cases q2:H b with
    |none=>exact un.keep b o e q2 (by intro z;exact absurd (show b∈([]:List ae)from z) (by simp)) (by simp)
    |some u2=>
     rcases hO b with z|⟨ob,u3,z⟩
     ·rw[q2]at z;cases z
     ·have z2:=un.gC b ob _ z;obtain⟨e1,_⟩:=aT b _ z;obtain⟨e2,_⟩:=hok' b _ z2;rw[e]at e1;cases e1;exact e2
   have KX':K.In s'.heap:=fun b o e=>kept b o (KX b o e);obtain⟨as,hrd⟩:=Dw.Fd (R:=R) (cl:=cl) hok' KX' d0 v u q r';exact⟨u,as,rfl,hrd,OldK.of_keep kept,os,eD⟩
theorem So{ds:List fi}(h:fi.layableAll ds=true):∀d∈ds,d.weight<=1048576:=fun d hd=>
 (PySem.W.layableW_iff.mp (lO.mp h d hd)).2.2
theorem Fn:∀(cs:List Codec)(a:CW cs),(uJ cs a).length=cs.length
 |[],_=>rfl
 |c::cs,a=>by
  show(uJ cs a.2).length+1=cs.length+1;rw[Fn cs a.2]
theorem Fo{r:OpenSpec}{k:Nat}{q:bv}{loose:List af}{XP:(af->Option ag)->Heap->Prop}{YP:bf->Heap->Prop}{d:DefRec}{K:kX->ax}{CX:bf->e8}{ps:List af}{sp:bf->Sp}
(hwell:r.wellSaid=true)(hdf:d.params.defaults=[])(hlen:r.args.length=ps.length)(hr:c6 k callerA)
(hY:∀(w:bf) (h:Heap),YP w h->(K w.params).In h)
(F:∀(w:bf) (mg:af->Option ag) (fa:ae) (h:Heap),YP w h->(K w.params).In h->h.Ns dE mg->mg d.name=some (.ref fa)->
   ∃fd:gH,(∀(s:ay) (us:List ag),us.length=ps.length->uw s fd ⟨us,[]⟩ (ps.zip us))/\
    ∀base:Heap,(K w.params).In base->base.Ns dE mg->dG r.prog w (K w.params) mg base (CX w) k fa fd ps (sp w))
(hsp:∀(w:bf) (H:Hp) (xs:List V) (a:CW r.args),tH H->Codec.withinAll r.args a=true->ym r.args r.asked a=true->jV (K w.params) H xs (uJ r.args a)->
   sp w xs H (fun v H'=>Dw (K w.params) H' v (r.ret.enc (ym r.args r.f a))) fun _ _ _=>False)
(hCX:∀(w:bf) (H:Hp) (s:ay) (e:ag) (s':ay),CX w [] H s (fun _ _ _=>False) e s'->False):
  OL q loose XP YP r d [] (fun f vs=>OM f vs):=by
 intro w gb s₁ mg mb G Y fa o pm cd doc dV kV ho hd hcd hD hmg hg args vals as hpre hlay hrd hwl hlo;obtain⟨a,e1,e2⟩:=PySem.W.os_pre_some hpre;obtain⟨e3,hwi⟩:=Codec.encAll_of_decAll r.args args a e1;subst e3;have KX:=hY w _ Y;obtain⟨fd,hb,hF⟩:=F w mg fa _ Y KX G.T.g hmg;refine PySem.W.enter_call (codeAny_mono (Sn (R:=[]) (cl:=classAt gb.heap) (d0:=r.ret.enc (ym r.args r.f a)) KX G.T.g G.T.b G.T.builtins G.T.nolimit hg hwl (Ff _ _) (So hlay) hr hF hb (by rw[Fn];exact hlen)
  (fun H xs hO hS=>hsp w H xs a hO hwi e2 hS) fun H e s'=>hCX w H s₁ e s') fun r' s' hq=>?_)
 obtain⟨u,as',rfl,h1,h2,h3,h4⟩:=hq;exact⟨.inl ⟨u,_,as',rfl,fun _=>rfl,h1,(OpenSpec.post_iff hwell hwi _ _).mpr rfl,fun z=>ko (show false=true from z)⟩,h2,h3,h4⟩
theorem amf{r:OpenSpec}{k:Nat}{q:bv}{loose:List af}{XP:(af->Option ag)->Heap->Prop}{YP:bf->Heap->Prop}{d:DefRec}{K:kX->ax}{CX:e8}{ps:List af}{sp:ax->Sp}
(hwell:r.wellSaid=true)(hdf:d.params.defaults=[])(hlen:r.args.length=ps.length)(hr:c6 k callerA)
(hY:∀(w:bf) (h:Heap),YP w h->(K w.params).In h)
(F:∀(w:bf) (mg:af->Option ag) (fa:ae) (h:Heap),YP w h->(K w.params).In h->h.Ns dE mg->mg d.name=some (.ref fa)->
   ∃fd:gH,(∀(s:ay) (us:List ag),us.length=ps.length->uw s fd ⟨us,[]⟩ (ps.zip us))/\
    ∀base:Heap,(K w.params).In base->base.Ns dE mg->dG r.prog w (K w.params) mg base CX k fa fd ps (sp (K w.params)))
(hsp:∀(K:ax) (H:Hp) (xs:List V) (a:CW r.args),tH H->Codec.withinAll r.args a=true->ym r.args r.asked a=true->jV K H xs (uJ r.args a)->
   sp K xs H (fun v H'=>Dw K H' v (r.ret.enc (ym r.args r.f a))) fun _ _ _=>False)
(hCX:∀(H:Hp) (s:ay) (e:ag) (s':ay),CX [] H s (fun _ _ _=>False) e s'->False):
  OL q loose XP YP r d [] (fun f vs=>OM f vs):=
 Fo (K:=K) (CX:=fun _=>CX) (sp:=fun w=>sp (K w.params)) hwell hdf hlen hr hY F (fun w H xs a h1 h2 h3 h4=>hsp (K w.params) H xs a h1 h2 h3 h4) fun _ H s e s'=>hCX H s e s'
end L2
namespace L2
open PySem PySem.Spec PyProof.Rows
section
variable{prog:bv}{w:bf}{A:cv}{E:ag->ay->Prop}{s:ay}{K:ax}{a C:ae}{oe od:a9}{v:ag}
theorem Sq{expr:Bool}{Q:ag->ay->Prop}(X:K.In s.heap)(c:XC K C)(I:Oj s.heap a oe C (some od))(hl:xW "answer" od=some (some v))(hv:Ol v=true)(h:Q v {s with toks:=s.toks+1}):
  aW (aU prog w) A (getAttr (.ref a) "answer" expr) Q E s:=by
 have L0:=I.type (M:=aU prog w);have L1:=x8 (M:=aU prog w) X c.ga;have L2:=x8 (M:=aU prog w) X c.gh;have L3:=PySem.W.looks_find (M:=aU prog w) X I (aa9 c.hd c.na rfl hl);have L4:PySem.W.Looks (aU prog w) s.heap (isInstance (.ref a) (.type "BaseException")) true:=L0.andThen (abt X c.mb);have hk:builtinKind "BaseException.__getattribute__"=some .slot:=by decide +kernel
 have hsplit:splitId "BaseException.__getattribute__"=some ("BaseException","__getattribute__"):=by decide +kernel
 have hx2:(rT "BaseException.__getattribute__"==rT "object.__getattribute__")=false:=by decide +kernel
 have hx1:(onTheHeap (b7 C)&&rT "BaseException.__getattribute__"==rT "object.__getattribute__")=false:=by rw[hx2];rfl
 have hx0:(expr&&onTheHeap (rT "BaseException.__getattribute__"))=false:=by cases expr<;>rfl
 have ha:=F.args_bexc_ga (.ref a) (.str "answer" s.toks);obtain⟨hp,g,d,t,os⟩:=s;unfold getAttr getAttrBy;refine bT (wpAny_mkText (wpAny_holding (bT (L0.at (bT (L1.at ?_))))));show aW _ _ (if(onTheHeap (b7 C)&&rT "BaseException.__getattribute__"==rT "object.__getattribute__")=true then _ else getAttrByItsOwn _ _ _ _ _ _) _ _ _;rw[hx1,if_neg (by decide)];unfold getAttrByItsOwn;refine bT ?_;show aW _ _ (typeLookup (.ref C) "__getattr__") _ _ _;refine L2.at ?_;refine bT (wpAny_attempt (wpAny_holding ?_));unfold callGetattribute;rw[hx0,if_neg (by decide)];unfold boundAndCalled;rw[F.attr_Exception.ga.bind];refine bT (dW ?_);show aW _ _ (call (.builtin "BaseException.__getattribute__") [.ref a,.str "answer" t]) _ _ _;refine wpAny_call (codeAny_call_builtin F.attr_Exception.ga.plain F.entry_bexc_ga ?_);refine@abu (aU prog w) _ _ {heap:=hp,gens:=g,drawn:=d,toks:=t+1,os:=os} "BaseException.__getattribute__" "BaseException" "__getattribute__" (.ref a) [.str "answer" t] [] _ hk hsplit L4 ha ?_;unfold Builtin.«object.__getattribute__»;refine bT (dW (bT (dW (bT (L0.at (bT (L3.at ?_)))))));refine dW ?_;show aW _ _ (handedOut v) _ _ _;rw[PySem.W.handedOut_of hv];exact dW h
end
def xT(a C dx:ae):HO:=.ext fun h=>∃(oe:a9)(vs:Array ag),h.get? a=some oe/\oe.cls=.ref C/\oe.dict=some dx/\oe.data=.fields vs
def Sr(K:ax)(ta:TE):TE:=fun σ H Q=>ta σ H fun x H1=>∃a C dx n,x=.ref a/\H1 a=some (xT a C dx)/\XC K C/\H1 dx=some (.xd [("answer",.int n)])/\Q (.int n) H1
theorem Ss{X:Cx}{e:bq}{pos:cx}{ta:TE}(he:PE X e ta)(hb:km e "answer" X.ah (eval e X.ah)=eval e X.ah):PE X (.Attribute e "answer" pos) (Sr X.K ta):=by
 walk_at "ae";refine Ec hb (a0 (he pins s σ H _ I h) fun u s1 qq=>?_);obtain⟨x,H1,I1,rx,a,C,dx,n,ex,ea,c,ed,q⟩:=qq;subst ex;obtain rfl:u=b7 a:=rx;obtain⟨⟨oe,vs,h1,h2,h3,h4⟩,_,_⟩:=(show dP X.prog X.w H1 s1.heap a (xT a C dx)from I1.aT a _ ea);obtain⟨mA,n1,dr⟩:=(show dP X.prog X.w H1 s1.heap dx (.xd [("answer",.int n)])from I1.aT dx _ ed);obtain⟨od,hod,hl⟩:=D8 n1;have rv:f9 (some (V.int n)) (mA "answer"):=dr "answer";cases em:mA "answer" with
 |none=>rw[em]at rv;exact rv.elim
 |some v=>
  rw[em]at rv;obtain⟨t,rfl⟩:=(show ∃t,v=kh n t from rv);refine Sq I1.c8 c (od:=od) (oe:=oe) ⟨h1,h2,?_,?_⟩ (by rw[hl,em]) rfl ⟨.int n,H1,I1.cV _,⟨t,rfl⟩,q⟩
  ·obtain⟨c1,c2,c3,c4⟩:=oe;cases h4;rfl
  ·rw[h3];exact hod
theorem Su{fr:List ae}{H1 H':Hp}{h1 h' h2:Heap}(u:Un fr [] H1 H' h1 h')(p:gU h1.objs.size fr H' h' h2):Un fr [] H1 H' h1 h2:=
 ⟨fun b o e n nb nx=>p.keep b o (u.keep b o e n nb nx) (.inl (cY e)) nb,fun b o e n hb nx=>let⟨_,e1⟩:=u.slot b o e n hb nx;let⟨sl,e2⟩:=p.slot b _ e1 hb;⟨sl,e2⟩,u.free,
  fun b o e nx=>let⟨_,e1⟩:=u.there b o e nx;p.there b _ e1,u.gO,u.gC,u.gP⟩
theorem Sv{fr:List ae}{H1 H':Hp}{h1 h2:Heap}{a:ae}{o:HO}(u:Un fr [] H1 H' h1 h2)(n:H' a=none)(la:h1.objs.size<=a):Un fr [] H1 (aq H' a o) h1 h2:=
 ⟨u.keep,u.slot,fun b ob e hn nx=>by rw[aJ (eX (eO (cY e) la))];exact u.free b ob e hn nx,u.there,fun b xs e=>by have:=u.gO b xs e;rw[aJ (bw this n)];exact this,
  fun b ob v e=>by have:=u.gC b ob v e;rw[aJ (bw this n)];exact this,fun b ps e=>by obtain⟨m,e1⟩:=u.gP b ps e;exact⟨m,by rw[aJ (bw e1 n)];exact e1⟩⟩
theorem Inv.as{X:Cx}{pins:List (ae×a9)}{σ:St}{H:Hp}{s:ay}(I:Inv X pins σ H s)(A:cv)(hf:A.frames=X.A.frames)(xe:ag->ay->Prop):Inv {X with A:=A,i8:=false,xe:=xe} pins σ H s:=
 ⟨⟨I.ok.eV,I.ok.kind,I.ok.ku,I.ok.m9,I.ok.above,I.ok.inj,I.ok.has,I.ok.oY,fun z=>(by cases z),hf.trans I.ok.frames,I.ok.au,I.ok.qu,I.ok.bs,I.ok.jM,I.ok.oZ,I.ok.o0,I.ok.fD,I.ok.l6⟩,I.os,I.eD,I.base,I.fM,I.cell,I.free,I.iu,I.gD,I.aT,I.len⟩
theorem Inv.Sw{X:Cx}{pins:List (ae×a9)}{σ:St}{H:Hp}{s:ay}{A:cv}{xe:ag->ay->Prop}(ok:X.Ok)(I:Inv {X with A:=A,i8:=false,xe:=xe} pins σ H s):Inv X pins σ H s:=
 ⟨ok,I.os,I.eD,I.base,I.fM,I.cell,I.free,I.iu,I.gD,I.aT,I.len⟩
theorem Sx{X:Cx}{pins:List (ae×a9)}{σ:St}{H:Hp}{s:ay}{M:Model}{A:cv}{E:ag->ay->Prop}{i:Nat}{x:af}{pos:cx}{Q:Unit->ay->Prop}(I:Inv X pins σ H s)(hN:X.N.Nodup)(hi:X.N[i]? =some x)(hk:X.ah.scope.names.lookup x=some .local)
(h:∀s',Inv X pins (σ.set i none) H s'->Q () s'):aW M A (do bindName X.ah x .none;unbindBehindTheSuite X.ah x pos) Q E s:=by
 obtain⟨m,hn,hl⟩:=id I.fM;have hcls:(X.ah.scope.kind==.class || (X.ah.scope.kind==.module&&X.ah.locals != X.ah.globals))=false:=by rw[I.ok.kind];rfl
 have hiσ:i<σ.length:=by rw[I.len];exact(cP.mp hi).1
 have ky:=I.ky;obtain⟨oL,_,_,hoL,_⟩:=id hn;refine wpAny_nameGoes_keeps hk hn hcls fun h' w hn' hs=>h _ ?_;refine⟨I.ok,I.os,I.eD,⟨fun b o e n hb hx=>?_,fun b o e n hb hx=>?_,I.base.free,fun b o e hx=>?_,I.base.gO,I.base.gC,I.base.gP⟩,⟨_,hn',fun j y v' e1 e2 e3=>?_⟩,fun y c e=>?_,I.free,I.iu,fun p hp=>?_,fun b ob e=>?_,by simpa using I.len⟩
 ·exact(hs.2 b (eX (eO (cY e) I.ok.above))).trans (I.base.keep b o e n hb hx)
 ·obtain⟨sl,e1⟩:=I.base.slot b o e n hb hx;exact⟨sl,(hs.2 b (eX (eO (cY e) I.ok.above))).trans e1⟩
 ·obtain⟨o',e1⟩:=I.base.there b o e hx;exact⟨o',(hs.2 b (eX (eO (cY e) I.ok.above))).trans e1⟩
 ·by_cases hj:j=i
  ·subst hj;rw[ki hiσ]at e2;cases e2
  ·rw[uk (cM hj)]at e2;obtain⟨u',r',q⟩:=hl j y v' e1 e2 e3;refine⟨u',r',?_⟩;rcases q with⟨k,e⟩|⟨k,c,e,z⟩
   ·refine .inl ⟨k,?_⟩;have:y≠x:=fun e=>hj (vd hN e1 (e▸hi));simp[this,e]
   ·exact .inr ⟨k,c,e,z.sameBut hs (ky y c e)⟩
 ·obtain⟨w',z⟩:=I.cell y c e;exact⟨w',z.sameBut hs (ky y c e)⟩
 ·obtain⟨e,n,ne,nf,d⟩:=I.gD p hp;exact⟨(hs.2 p.1 ne).trans e,n,ne,nf,d⟩
 ·refine(I.aT b ob e).lg (fun c w' hc q=>(hs.2 c ?_).trans q) (fun _ q=>q) fun _ _ q=>q;rintro rfl;have fr:=I.free;rcases hc with rfl|hc
  ·rw[fr]at e;cases e
  ·rw[fr]at hc;cases hc
section
variable{X:Cx}{CX:e8}{k:Nat}{f C:ae}{fd:gH}{ps:List af}{sp:Sp}{E:XK}{m:af}{pos apos:cx}{e o:bq}{es:List bq}{ta:TE}{t:TA}
def AH(CX:e8)(X:Cx)(e:bq)(t:XK->TE):Prop:=∀(XE:ag->ay->Prop)(pins:List (ae×a9))(s:ay)(σ:St)(H:Hp)(Q:VK)(E:XK),Inv X pins σ H s->t E σ H Q->
 (∀H1 s1 e s',Inv X pins σ H1 s1->CX X.stack H1 s1 E e s'->XE e s')->aW (aU X.prog X.w) X.A (eval e X.ah) (EP X pins σ Q) XE s
theorem Sy{pins:List (ae×a9)}{σ:St}{H:Hp}{s:ay}{Q:VK}{us:List ag}{vs:List V}{XE:ag->ay->Prop}(F:dG X.prog X.w X.K X.mg X.base CX k f fd ps sp)(hr:c6 k X.A)(hb:gS X.K fd ps [])
(I:Inv X pins σ H s)(hx:∀H1 s1 e s',Inv X pins σ H1 s1->CX X.stack H1 s1 E e s'->XE e s')(r:bt vs us)(h:sp vs H Q E):aW (aU X.prog X.w) X.A (call (.ref f) us) (EP X pins σ Q) XE s:=by
 have hl:(us++[]).length=ps.length:=by rw[kW,<-r.length];exact F.len _ _ _ _ h
 have h0:=hb s us I.c8 hl;rw[kW]at h0;refine wpAny_call (codeAny_mono (F.run X.A X.stack s H ⟨us,[]⟩ us vs Q E hr I.vH h0 r h) fun r s' hq=>?_);cases r with
 |error e=>exact hx H s e s' I hq
 |ok fl=>
  cases fl with
  |ret u=>exact I.zY hq
  |next=>exact fc hq
  |brk=>exact fc hq
  |cont=>exact fc hq
theorem Fp{c qual:af}{st:aH}{pl:Sem Bool}(he:∀xe,PE {X with xe:=xe} o ta)(D:dB X.K c m qual st ps)(F:dG X.prog X.w X.K X.mg X.base CX k (cj X.K c m) (iN X.K (cj X.K c m)) ps sp)(hr:c6 k X.A)(ha:∀xe,PA {X with xe:=xe} (e::es) t)
(hst:b8 (e::es) X.ah=(false,eval e X.ah)::b8 es X.ah:=by rfl)(hpl:(dU pos (b8 es X.ah)).any (·.1)=false:=by rfl)
(ht:eval (.Call (.Attribute o m apos) (e::es) [] pos) X.ah=(do
   let ov <-eval o X.ah
   standAt apos.atName
   let(f,first) <-holding [ov] (getMethod ov m pl)
   callWith pos f first (dU pos (b8 (e::es) X.ah)) (backToKw pos (jr [] X.ah))):=by rfl):
  AH CX X (.Call (.Attribute o m apos) (e::es) [] pos) (fun E=>lU (ak X.K c) m sp [] E ta t):=by
 intro XE pins s σ H Q E I h hx;have to:∀{σ H s},Inv X pins σ H s->Inv {X with xe:=XE} pins σ H s:=fun I=>⟨⟨I.ok.eV,I.ok.kind,I.ok.ku,I.ok.m9,I.ok.above,I.ok.inj,I.ok.has,I.ok.oY,I.ok.hd,I.ok.frames,I.ok.au,I.ok.qu,I.ok.bs,I.ok.jM,I.ok.oZ,I.ok.o0,I.ok.fD,I.ok.l6⟩,I.os,I.eD,I.base,I.fM,I.cell,I.free,I.iu,I.gD,I.aT,I.len⟩;have fro:∀{σ H s},Inv {X with xe:=XE} pins σ H s->Inv X pins σ H s:=fun J=>⟨I.ok,J.os,J.eD,J.base,J.fM,J.cell,J.free,J.iu,J.gD,J.aT,J.len⟩;refine x9 (pl:=pl) (a0 (he XE pins s σ H _ (to I) h) fun u s1 qq=>?_) ht;obtain⟨x,H1,I1,rx,a,dx,fs,ex,ea,l,q⟩:=qq;subst ex;obtain rfl:u=b7 a:=rx;refine vE (X:={X with xe:=XE}) I1 ea D.cl D.me l ?_;refine ux (first:=[.ref a]) (h₀:=X.base) I.ok.eV.i7 D.me.kp (a0 (ha XE pos pins s1 σ H1 _ I1 q) fun us s2 ⟨vs,H2,I2,r,q2⟩=>⟨I2.c8,?_⟩) hst hpl;refine Sy (us:=.ref a::us) (vs:=.ref a::vs) F hr D.df.bd (fro I2) hx (.cons rfl r) ?_;have q3:sp (V.ref a::(vs++[])) H2 Q E:=q2;rw[kW]at q3;exact q3
end
section
variable{X:Cx}{RC:ae->Prop}
def tI(D:i9)(i j:Nat)(σ:St):XK:=fun v _ H'=>∃n,v=.int n 0/\∀a H2,aL H' H2->D.nx (((σ.set j (some (.ref a))).set i (some (.int n))).set j none) H2
def Fq(i j:Nat)(t1 t2:XK->TE):TS:=fun D σ H=>t1 (tI D i j σ) σ H fun _ H1=>t2 (tI D i j σ) σ H1 fun v H2=>D.nx (σ.set i (some v)) H2
theorem Sz{e1 e2:bq}{t1 t2:XK->TE}{i j:Nat}{y z r:af}{p1 p2 py py2 pz pa pb ph np pos:cx}{R:ae}(h1:AH (gW X.prog X.w RC) X e1 t1)(h2:AH (gW X.prog X.w RC) X e2 t2)
(hst:X.stack=X.ah::X.bp)(hfe:X.ah.frame=some X.ah.locals)(hRC:∀C,RC C->XC X.K C/\kY X.K (.ref C) (.ref R)=some true)
(hN:X.N.Nodup)(hi:X.N[i]? =some y)(hj:X.N[j]? =some z)(hly:X.ah.scope.names.lookup y=some .local)(hlz:X.ah.scope.names.lookup z=some .local)(hij:i≠j)
(hgl:Gl X r)(hgm:X.mg r=some (.ref R))(hdb:(r==("__debug__":af))=false)(hdz:(z==("__debug__":af))=false)(hcz:(z==("__classdict__":af))=false)
(s1:swapsWith e1 none p1.line X.ah=pure false)(s2:swapsWith e2 (some (.Name y py)) p2.line X.ah=pure false)(s3:swapsWith (.Attribute (.Name z pz) "answer" pa) (some (.Name y py2)) pb.line X.ah=pure false)
(s4:km (.Name z pz) "answer" X.ah (eval (.Name z pz) X.ah)=eval (.Name z pz) X.ah):
  PS X (.Try [.Expr e1 p1,.Assign [.Name y py] e2 p2] [.ExceptHandler (some (.Name r np)) (some z) [.Assign [.Name y py2] (.Attribute (.Name z pz) "answer" pa) pb] ph] [] [] pos) (Fq i j t1 t2):=by
 walk_at "aq";have key:∀H1 s1 e s',Inv X pins σ H1 s1->gW X.prog X.w RC X.stack H1 s1 (tI D i j σ) e s'->aW (aU X.prog X.w) X.A (noteFrame e X.ah) (fun _ s₂=>aW (aU X.prog X.w) X.A (setFlight e none) (fun _ s₃=>aW (aU X.prog X.w) X.A (handleBy e X.ah [.ExceptHandler (some (.Name r np)) (some z) [.Assign [.Name y py2] (.Attribute (.Name z pz) "answer" pa) pb] ph]) (SP X pins D) X.xe s₃) X.xe s₂) X.xe s':=by
  intro H1 s1 e s' I1 hc;obtain⟨a,C,dx,n,H',rfl,rc,fl,hdx,hos,hg,un,aT,n',en,hE⟩:=hc;obtain rfl:n'=n:=by cases en;rfl
  obtain⟨xc,xm⟩:=hRC C rc;have hfr:=I1.vc;have exs:∀b∈dw X.stack,∃o,s1.heap.get? b=some o:=fun b hb=>by
   obtain⟨_,o,q,_⟩:=I1.stack.mem hb;exact⟨o,q⟩
  have fr':∀b∈dw X.stack,H' b=none:=fun b hb=>by
   obtain⟨o,q⟩:=exs b hb;exact un.free b o q (hfr b hb) (by simp)
  have ff:=un.fD _ (fun b hb=>⟨hb,hfr b hb⟩) I1.stack;have sz:=fl.lt;have ff':=ff;rw[hst]at ff';refine E5 (H:=H') (lo:=s1.heap.objs.size) (C:=C) (dx:=dx) (by rw[<-hst];exact I1.ok.frames) ff' hfe (fun b hb=>aT.fresh hb) (dM sz.1 (xU sz.2)) fl fun h2 p2 f2=>?_;rw[<-hst]at p2;have mem2:∀b∈dw X.stack,∃o,h2.get? b=some o/\∀vs,o.data≠.fields vs:=fun b z=>((p2.fD ff).mem z).2;refine AE (s:={s' with heap:=h2}) (fr:=dw X.stack) mem2 f2 fun h3 p3 f3=>?_;have p23:=p2.trans p3;have mem3:∀b∈dw X.stack,∃o,h3.get? b=some o/\∀vs,o.data≠.fields vs:=fun b z=>((p23.fD ff).mem z).2;have mk:∀(h4:Heap)(tk:Nat),gU s1.heap.objs.size (dw X.stack) H' s'.heap h4->qL H' s1.heap.objs.size h4 a C dx .none->Inv X pins σ (aq H' a (xT a C dx)) {s' with heap:=h4,toks:=tk}:=fun h4 tk p4 f4=>by
   obtain⟨oe,vs,T,oT,ts,he,hp,hd,r4⟩:=f4;have u4:=Sv (o:=xT a C dx) (Su un p4) hp.2.1 hp.1;refine I1.DT (ch:=[]) (s':={s' with heap:=h4,toks:=tk}) hos u4 ?_ hg (fun b z=>absurd z (by simp));have hok4:=p4.aT fr' aT;intro b o eb;by_cases eba:b=a
   ·subst eba;rw[az]at eb;cases eb;exact⟨⟨oe,vs,he,hp.2.2.1,hp.2.2.2,hd⟩,⟨oe,he⟩,fun g1 g2 q k=>let⟨o',v',e',r'⟩:=q;⟨o',v',k _ e',r'⟩⟩
   ·rw[aJ eba]at eb;refine(hok4 b o eb).lg (fun c w hc q=>q) (fun c q=>?_) fun c xs q=>?_
    ·rw[aJ (bw q hp.2.1)];exact q
    ·rw[aJ (bw q hp.2.1)];exact q
  have I3:=mk h3 s'.toks p23 f3;refine wpAny_handleBy_cons (codeAny_handlers_test ?_) (by intro q;cases q);have J3:=I3.as (X.A.mark (some (.ref a))) rfl (fun _ _=>False);refine nc (X:={X with A:=X.A.mark (some (.ref a)),i8:=false,xe:=fun _ _=>False}) J3 hgl hgm ?_ hdb;have LT:PySem.W.Looks (aU X.prog X.w) h3 (typeOf (.ref a)) (.ref C):=by
   obtain⟨oe,vs,T,oT,ts,he,hp,hd,r4⟩:=f3;rw[<-hp.2.2.1];exact(PySem.W.Looks.ld he).andThen .now
  refine pY (s:={s' with heap:=h3}) (PySem.W.exm_one J3.c8 LT xm) ?_;show codeAny _ _ _ _ _;refine codeAny_handlers_suite_as ?_;refine AE (s:={s' with heap:=h3}) (fr:=dw X.stack) mem3 f3 fun h4 p4 f4=>?_;have I4:=mk h4 s'.toks (p23.trans p4) f4;refine sI (v:=.ref a) I4 hN hj (.inl hlz) rfl (fun s5 I5=>?_) (.inr hlz);have J5:=I5.as (X.A.mark (some (.ref a))) rfl (fun _ _=>False);have hjσ:j<σ.length:=by rw[I.len];exact(cP.mp hj).1
  have hng:(aq H' a (xT a C dx)) dx=some (.xd [("answer",.int n')]):=by
   obtain⟨oe,vs,T,oT,ts,he,hp,hd,r4⟩:=f4;rw[aJ (bw hdx hp.2.1)];exact hdx
  have ps:=cg (X:={X with A:=X.A.mark (some (.ref a)),i8:=false,xe:=fun _ _=>False}) (Du (pos:=pb) (pos':=py2) hN hi (.inl hly) (Ss (pos:=pa) (zB (pos:=pz) hj (.inl hlz) hdz hcz) s4) s3 (.inr hly));refine jH (ps pins s5 _ _ {nx:=fun σ2 H2=>σ2=((σ.set j (some (.ref a))).set i (some (.int n')))/\H2=aq H' a (xT a C dx),rt:=fun _ _=>False} J5 ?_) (fun f s6 hq=>?_) fun _ _ f=>f.elim
  ·refine⟨.ref a,by rw[ki hjσ],a,C,dx,n',rfl,az,xc,hng,rfl,rfl⟩
  ·cases f with
   |next=>
    obtain⟨σ2,H2,I6,rfl,rfl⟩:=hq;have I6':=Inv.Sw I.ok I6;show aW _ _ _ _ _ _;refine Sx I6' hN hj hlz fun s7 I7=>⟨_,_,I7,hE a _ fun b o e=>?_⟩;obtain⟨oe,vs,T,oT,ts,he,hp,hd,r4⟩:=f4;rw[aJ (bw e hp.2.1)];exact e
   |ret v=>obtain⟨_,_,_,_,_,q⟩:=hq;exact q.elim
   |brk=>obtain⟨_,_,_,q⟩:=hq;exact q.elim
   |cont=>obtain⟨_,_,_,q⟩:=hq;exact q.elim
 refine wpAny_Try_except ?_;refine wpAny_execs_cons ?_;refine wpAny_Expr_any (a0 (h1 _ pins s σ H _ (tI D i j σ) I h key) fun v s1 qq=>?_) I.quiet s1;walk_at "ao";refine wpAny_execs_cons ?_;refine wpAny_Assign_Name (a0 (h2 _ pins s1 σ H1 _ (tI D i j σ) I1 q1 key) fun v s2 qq=>?_) s2;obtain⟨x,H2,I2,r2,q2⟩:=qq;refine sI I2 hN hi (.inl hly) r2 (fun s3 I3=>?_) (.inr hly);exact um (um ⟨_,_,I3,q2⟩)
end
end L2
namespace L2
open PySem PySem.Spec PyProof.Rows
theorem AI:jo "isinstance"=some (.builtin "isinstance"):=by decide +kernel
theorem AJ:jo "any"=some (.builtin "any"):=by decide +kernel
theorem SA:jo "ord"=some (.builtin "ord"):=by decide +kernel
theorem SD:jo "str"=some (.type "str"):=by decide +kernel
theorem AK:jo "list"=some (.type "list"):=by decide +kernel
theorem Fs:jo "tuple"=some (.type "tuple"):=by decide +kernel
theorem tK:jo "dict"=some (.type "dict"):=by decide +kernel
theorem SE:jo "int"=some (.type "int"):=by decide +kernel
theorem SH{P:bv}{w:bf}{RC:ae->Prop}{X:Cx}:gs (gW P w RC) X (fun _ _ _=>False):=by
 intro pins σ H s e s' I h;obtain⟨_,_,_,_,_,_,_,_,_,_,_,_,_,z⟩:=h;exact z.elim
section
variable{X:Cx}
theorem SJ:fE X (.builtin "isinstance") (fun xs H Q=>∃a C D dx fs b,xs=[.ref a,.ref C]/\H a=some (.aP D dx fs)/\mi X.K D/\iT X.K (.ref D) (.ref C)=some b/\Q (.bl b) H):=by
 intro pins s σ H xs us Q I r h;obtain⟨a,C,D,dx,fs,b,rfl,ea,i,k,q⟩:=h;cases r with
 |cons r1 r=>
  cases r with
  |cons r2 r=>
   cases r;cases(show _=b7 a from r1);cases(show _=b7 C from r2);exact QH (x:=.ref a) I rfl (.aP ea i.cl i.ha i.hn i.vG i.hm) k fun tk=>⟨.bl b,H,I.cV tk,rfl,q⟩
def Ft(a b:af)(te:TE):TE:=fun σ H Q=>te σ H fun v H1=>∃x,v=.str x/\x.length<=1000/\Q (.str ((jq++a++x)++b)) H1
theorem qP(a b:af):(a++b).length=a.length+b.length:=strLen_append a b
theorem SK{a b:af}{e:bq}{j1 j2 p1 p2 p3 pos}{te:TE}(he:PE X e te)(ha:a.length<=1000:=by decide)(hb:b.length<=1000:=by decide):
  PE X (.JoinedStr [.Constant (.str a) j1 p1,.FormattedValue e (-1) none p2,.Constant (.str b) j2 p3] pos) (Ft a b te):=by
 walk_at "ae";have z:bE=16777216\/True:=.inr trivial;refine wpAny_JoinedStr ?_;show aW _ _ (eval (.Constant (.str a) j1 p1) X.ah) _ _ s;have l0:(jq++a).length<=sizeLine:=by rw[qP];show 0+a.length<=_;rw[bR];lia
 refine Od ⟨a,_,rfl,l0,?_⟩;show aW _ _ (eval (.FormattedValue e (-1) none p2) X.ah) _ _ _;refine wpAny_FormattedValue_plain (a0 (he pins _ σ H _ (I.cV _) h) fun u s1 qq=>?_);obtain⟨v,H1,I1,rv,x,ex,hx,q⟩:=qq;subst ex;obtain⟨t,rfl⟩:=rv;have l1:((jq++a)++x).length<=sizeLine:=by rw[qP,qP];show 0+a.length+x.length<=_;rw[bR];lia
 have l2:(((jq++a)++x)++b).length<=sizeLine:=by rw[qP,qP,qP];show 0+a.length+x.length+b.length<=_;rw[bR];lia
 have fin:∀s2:ay,Inv X pins σ H1 s2->aW (aU X.prog X.w) X.A (eval (.Constant (.str b) j2 p3) X.ah) (fun v s₁=>∃y t,v=.str y t/\(((jq++a)++x)++y).length<=bE/\Joins (aU X.prog X.w) X.A X.xe [] (((jq++a)++x)++y) (fun dt s₁=>dt.length<=bE/\EP X pins σ Q (.str dt s₁.toks) {s₁ with toks:=s₁.toks+1}) s₁) X.xe s2:=fun s2 I2=>by
  refine Od ⟨b,_,rfl,l2,l2,?_⟩;exact⟨.str _,H1,(I2.cV _).cV _,⟨_,rfl⟩,q⟩
 exact wpAny_formatField_str ⟨x,_,rfl,l1,fin _ I1⟩ ⟨x,_,rfl,l1,fin _ (I1.cV _)⟩ (by rw[bR];lia)
end
end L2
namespace L2
open PySem PySem.Spec PyProof.Rows
def tL(H:Hp)(a b:af):ag->Bool
 | .ref c=>match H c with
  |some (.aj [.str a',.str b'])=>a'==a&&b'==b
  |_=>false
 |_=>false
theorem Fu{H:Hp}{a b a' b':af}{c:ae}(h:H c=some (.aj [.str a',.str b'])):tL H a b (.ref c)=(a'==a&&b'==b):=by
 show(match H c with|some (.aj [.str a',.str b'])=>a'==a&&b'==b|_=>false)=_;rw[h]
inductive ls(H:Hp):List (af×af)->List ae->Prop where
 |nil:ls H [] []
 |cons {a b c ps qs}:H c=some (.aj [.str a,.str b])->ls H ps qs->ls H ((a,b)::ps) (c::qs)
theorem ls.any{H:Hp}{a b:af}:∀{ps:List (af×af)}{qs:List ae}{us:List ag},ls H ps qs->bt (qs.map V.ref) us->us.any (tL H a b)=ps.any fun p=>p.1==a&&p.2==b
 |_,_,_,.nil,.nil=>rfl
 |_,_,_,.cons h t,.cons r rs=>by
  cases(show _=b7 _ from r);rw[iV,iV,ls.any t rs];rw[Fu h]
theorem ls.mem{H:Hp}:∀{ps:List (af×af)}{qs:List ae}{us:List ag},ls H ps qs->bt (qs.map V.ref) us->∀u∈us,∃c a b,u=.ref c/\H c=some (.aj [.str a,.str b])
 |_,_,_,.nil,.nil,u,hu=>by cases hu
 |_,_,_,.cons h t,.cons r rs,u,hu=>by
  cases(show _=b7 _ from r);rcases br.mp hu with rfl|hu
  ·exact⟨_,_,_,rfl,h⟩
  ·exact ls.mem t rs u hu
def tM:R2:=fun x y H Q=>∃p a b q qs ps,x=.ref p/\y=.ref q/\H p=some (.aj [.str a,.str b])/\H q=some (.aj (qs.map V.ref))/\ls H ps qs/\Q (.bl (!(ps.any fun p=>p.1==a&&p.2==b))) H
theorem SM{X:Cx}(hu:X.A.units+64<cLine):cQ X (fA .NotIn) tM:=by
 walk_at "al";obtain⟨p,a,b,q,qs,ps,rfl,rfl,hp,hq,hall,q0⟩:=h;cases rx;cases ry;obtain⟨i1,r1,t1,_⟩:=I.tuple (dH.of hp);obtain⟨i2,r2,t2,_⟩:=I.tuple (dH.of hq);have key:∀c a' b',H c=some (.aj [.str a',.str b'])->OB X.A.in1 s (.ref c) (.ref p) (a'==a&&b'==b):=by
  intro c a' b' hc;by_cases e:c=p
  ·subst e;rw[hp]at hc;cases hc;rw[show(a==a&&b==b)=true by simp];exact abj _
  ·obtain⟨i3,r3,t3,_⟩:=I.tuple (dH.of hc);cases r3 with
   |cons x1 r3=>
    cases r3 with
    |cons x2 r3=>
     cases r3;cases r1 with
     |cons y1 r1=>
      cases r1 with
      |cons y2 r1=>
       cases r1;obtain⟨k1,rfl⟩:=x1;obtain⟨k2,rfl⟩:=x2;obtain⟨k3,rfl⟩:=y1;obtain⟨k4,rfl⟩:=y2;have z:=SeqAt.RcAt.tuples (A:=X.A.in1) (e:=fun j=>if j=0 then a'==a else b'==b) t3 t1 (by show X.A.units+1<cLine;lia) (fun j h1 h2=>by
        match j,h1,h2 with
        |0,_,_=>exact OC _ _ _ _
        |1,_,_=>exact OC _ _ _ _
        |j+2,h1,_=>exact absurd h1 (by simp))
       have w:((rJ (min 2 2)).all (fun j=>if j=0 then a'==a else b'==b)&&(2==2))=(a'==a&&b'==b):=by
        show((a'==a)&&((b'==b)&&true)&&true)=_;rw[ON,ON]
       exact OB.of_refs e (w▸z)
 refine abk (tL H a b) t2 (fun w hw=>?_) ⟨.bl _,H,I,rfl,?_⟩
 ·obtain⟨c,a',b',rfl,hc⟩:=hall.mem r2 w (by simpa using hw);rw[Fu hc];exact key c a' b' hc
 ·rw[show i2.toArray.any (tL H a b)=i2.any (tL H a b)by simp,hall.any r2];exact q0
theorem SN{X:Cx}:fE X (.type "dict") (fun xs H Q=>∃a kvs,xs=[.ref a]/\H a=some (.dK kvs)/\∀p,H p=none->Q (.ref p) (aq H p (.dK kvs))):=by
 intro pins s σ H xs us Q I rs h;obtain⟨a,kvs,rfl,ha,q⟩:=h;cases rs with
 |cons r1 rs=>
  cases rs;cases(show _=b7 a from r1);exact RA I (Rd.of ha) fun p s' hp I'=>⟨.ref p,_,I',rfl,q p hp⟩
theorem qQ{X:Cx}{e:bq}{t1 t2:TE}(h1:PE X e t1)(h2:PE X e t2):PE X e (fun σ H Q=>t1 σ H Q\/t2 σ H Q):=fun pins s σ H Q I h=>h.elim (fun h=>h1 pins s σ H Q I h) (fun h=>h2 pins s σ H Q I h)
def Fv(K:ax):List V->Hp->VK->Prop:=fun xs H Q=>∃a C D dx fs b,xs=[.ref a,.ref C]/\H a=some (.aP D dx fs)/\mi K D/\iT K (.ref D) (.ref C)=some b/\Q (.bl b) H
theorem AL{X:Cx}{K:ax}(h:X.K=K):fE X (.builtin "isinstance") (Fv K):=by subst h;exact SJ
theorem SO{X:Cx}:iL X "str.lstrip" (fun x xs H Q=>∃a b,x=.str a/\xs=[.str b]/\a.length<=bE/\Q (.str (Txt.lstripChars a b)) H):=by
 intro pins s σ H x xs v us Q I rx rs h;obtain⟨a,b,rfl,rfl,hl,h⟩:=h;walk_at "ar";cases rs with
 |cons r1 rs=>
  cases rs;obtain⟨u,rfl⟩:=r1;exact PySem.SC.lstripChars (fun t' k=>⟨.str _,H,I.cV k,⟨t',rfl⟩,h⟩) hl
end L2
namespace L2
open PySem PySem.Spec PyProof.Rows
def qR(P:bv)(w:bf)(K:ax)(a:ae)(kvs:List (Key×V)):Prop:=kvs.length<=bE/\(a==sysModules)=false/\∃o vs,K.lookup a=some o/\KV kvs vs/\o.IsDictOf (fL P w) vs
theorem vZ{X:Cx}:fE X (.type "dict") (fun xs H Q=>∃a kvs,xs=[.ref a]/\qR X.prog X.w X.K a kvs/\∀p,H p=none->Q (.ref p) (aq H p (.dK kvs))):=by
 intro pins s σ H xs us Q I rs h;obtain⟨a,kvs,rfl,⟨z,hd,o,vs,lk,dr,hi⟩,q⟩:=h;cases rs with
 |cons r1 rs=>
  cases rs;cases(show _=b7 a from r1);have dd:s.heap.DictOf (fL X.prog X.w) a vs:=Heap.dictOf_iff.mpr ⟨o,I.c8 a o lk,hi⟩;refine kt_call_dict hd dd (by rw[<-dr.length];exact z) fun h' dd' hs=>?_;refine⟨.ref _,_,I.gN (a:=s.heap.objs.size) (o:=.dK kvs) (t':=s.toks) (fun b q hq=>?_) (bY _) (vN z (beq_eq_false_iff_ne.mpr (cM (eX I.Ap))) dr dd'),rfl,q _ (I.aT.fresh (bY _))⟩;exact(hs.2 b (eX (cY hq))).trans (eP _ hq)
theorem SQ{κ:Type}:∀{a:List (κ×V)}{b:List (κ×ag)}{c:List (κ×V)}{d:List (κ×ag)},KV a b->KV c d->KV (a++c) (b++d):=by
 intro a b c d h s;unfold KV at *;induction h with
 |nil=>exact s
 |cons r t ih=>exact .cons r ih
theorem AM{κ:Type}:∀{a:List (κ×V)}{b:List (κ×ag)},KV a b->a.map (·.1)=b.map (·.1):=by
 intro a b h;unfold KV at h;induction h with
 |nil=>rfl
 |cons r t ih=>rw[d6,d6,ih,r.1]
theorem AN{X:Cx}:iL X "dict.update" (fun x xs H Q=>∃a b kvs more,x=.ref a/\xs=[.ref b]/\a≠b/\H a=some (.dK kvs)/\H b=some (.dK more)/\(kvs++more).length<=bE/\((kvs++more).map (·.1)).Nodup/\Q .aO (aq H a (.dK (kvs++more)))):=by
 intro pins s σ H x xs v us Q I rx rs h;obtain⟨a,b,kvs,more,rfl,rfl,nab,ha,hb,hz,nd,q⟩:=h;cases rs with
 |cons r1 rs=>
  cases rs;cases(show _=b7 a from rx);cases(show _=b7 b from r1);obtain⟨z,hd,vs,dr,dd⟩:=Ao I.aT ha;obtain⟨z2,hd2,ws,rel2,dd2⟩:=Ao I.aT hb;refine call_meetsIn C0 dd.typeIs PySem.F.entry_dict_update (PySem.F.args_dict_update_2 _ _) (meets_dict_update (fL X.prog X.w) a b nab hd2) ⟨vs,ws,dd,dd2,?_,fun h' d1 d2 hs=>?_⟩
  ·rw[<-dr.length,<-rel2.length,<-eQ];exact hz
  ·rw[merged_append_of_fresh _ _ (by rw[eY,<-AM dr,<-AM rel2,<-eY];exact nd)]at d1;have he:∃q,h'.get? a=some q:=let⟨q,_,_,hq,_⟩:=d1;⟨q,hq⟩;exact⟨.aO,_,Aq (t':=s.toks) I (by rw[ha];exact fg) hs he (vN hz hd (SQ dr rel2) d1),rfl,q⟩
structure gf(H0:Hp)(a C dx:ae)(fs:List (af×V))(news:List (ae×HO))(H:Hp):Prop where
 obj:H a=some (.aP C dx fs)
 ks:∀n∈news,H n.1=some n.2/\H0 n.1=none/\n.1≠a
 nd:(news.map (·.1)).Nodup
 dY:∀b o,b≠a->H0 b=some o->H b=some o
section
variable{H0 H:Hp}{a C dx p:ae}{fs:List (af×V)}{news:List (ae×HO)}{o:HO}
theorem gf.start(h:H a=some (.aP C dx fs)):gf H a C dx fs [] H:=⟨h,fun _ z=>(by cases z),.nil,fun _ _ _ e=>e⟩
theorem gf.free(g:gf H0 a C dx fs news H)(hp:H p=none):p≠a/\H0 p=none/\p∉news.map (·.1):=by
 have n1:p≠a:=(bw g.obj hp).symm;refine⟨n1,?_,fun z=>?_⟩
 ·cases e:H0 p with
  |none=>rfl
  |some u=>rw[g.dY p u n1 e]at hp;cases hp
 ·obtain⟨n,hn,rfl⟩:=iW.mp z;rw[(g.ks n hn).1]at hp;cases hp
theorem gf.add(g:gf H0 a C dx fs news H)(hp:H p=none):gf H0 a C dx fs ((p,o)::news) (aq H p o):=by
 obtain⟨n1,n2,n3⟩:=g.free hp;refine⟨by rw[aJ n1.symm];exact g.obj,fun n hn=>?_,eG.mpr ⟨n3,g.nd⟩,fun b u nb e=>by rw[aJ (bw (g.dY b u nb e) hp)];exact g.dY b u nb e⟩;rcases br.mp hn with rfl|hn
 ·exact⟨az,n2,n1⟩
 ·obtain⟨h1,h2,h3⟩:=g.ks n hn;exact⟨by rw[aJ (bw h1 hp)];exact h1,h2,h3⟩
theorem gf.set(g:gf H0 a C dx fs news H)(fs':List (af×V)):gf H0 a C dx fs' news (aq H a (.aP C dx fs')):=
 ⟨az,fun n hn=>let⟨h1,h2,h3⟩:=g.ks n hn;⟨by rw[aJ h3];exact h1,h2,h3⟩,g.nd,fun b u nb e=>by rw[aJ nb];exact g.dY b u nb e⟩
theorem gf.join{so C2 ds:ae}{fs2:List (af×V)}{news2:List (ae×HO)}{H5:Hp}(g:gf H0 a C dx fs ((so,o)::news) H)(G:gf H so C2 ds fs2 news2 H5):gf H0 a C dx fs (news2++(so,.aP C2 ds fs2)::news) H5:=by
 obtain⟨s1,s2,s3⟩:=g.ks (so,o) cw;have nd:=eG.mp (show(so::news.map (·.1)).Nodup from g.nd);refine⟨G.dY a _ (cM s3) g.obj,fun n hn=>?_,?_,fun b u nb e=>G.dY b u (bw e s2) (g.dY b u nb e)⟩
 ·rcases cS.mp hn with hn|hn
  ·obtain⟨h1,h2,h3⟩:=G.ks n hn;obtain⟨f1,f2,_⟩:=g.free h2;exact⟨h1,f2,f1⟩
  ·rcases br.mp hn with rfl|hn
   ·exact⟨G.obj,s2,s3⟩
   ·obtain⟨h1,h2,h3⟩:=g.ks n (bP _ hn);exact⟨G.dY n.1 _ (fun z=>nd.1 (z▸iW.mpr ⟨n,hn,rfl⟩)) h1,h2,h3⟩
 ·rw[eY,mY];refine⟨G.nd,g.nd,fun x hx y hy z=>?_⟩;obtain⟨n,hn,rfl⟩:=iW.mp hx;have hy':y∈((so,o)::news).map (·.1):=hy;obtain⟨n2,hn2,rfl⟩:=iW.mp hy';have h1:=(G.ks n hn).2.1;rw[z,(g.ks n2 hn2).1]at h1;cases h1
theorem Fw{l:List ae}(h:l.Nodup):∀(is:List Nat)(xs:List ae),is.map (fun i=>l[i]?)=xs.map some->is.Nodup->xs.Nodup
 |[],[],_,_=>.nil
 |i::is,x::xs,e,n=>by
  rw[d6,d6,aa5]at e;rw[eG]at n ⊢;refine⟨fun z=>?_,Fw h is xs e.2 n.2⟩;have:some x∈xs.map some:=iW.mpr ⟨x,z,rfl⟩;rw[<-e.2]at this;obtain⟨j,hj,ej⟩:=iW.mp this;exact n.1 (AB h e.1 ej▸hj)
 |[],_::_,e,_=>by simp at e
 |_::_,[],e,_=>by simp at e
end
end L2
namespace SW
open PySem PySem.Spec PyProof.Rows L2
def bC(i:Nat):Stmt:=PySem.Challenge.pw_stackwords_s01_answers.main.body.getD i (.Pass ⟨0,0,0,0⟩)
abbrev Fx:Stmt:=ZI 1 0
theorem SR:ZS ["self","answer"] Fx:=by symm
abbrev Fy:Stmt:=ZI 2 0
theorem SS:ZS ["self"] Fy:=by symm
abbrev Fz:Stmt:=ZI 3 0
theorem SU:ZS ["self"] Fz:=by symm
abbrev FA:Stmt:=ZI 4 0
theorem SV:ZS ["self"] FA:=by symm
abbrev FC:Stmt:=ZI 5 0
theorem SX:ZS ["self"] FC:=by symm
abbrev FD:Stmt:=ZI 6 0
theorem SY:ZS ["self"] FD:=by symm
abbrev FE:Stmt:=ZI 7 0
theorem S0:ZS ["self"] FE:=by symm
abbrev FF:Stmt:=ZI 8 0
theorem S3:ZS ["self"] FF:=by symm
abbrev FG:Stmt:=ZI 9 0
theorem S4:ZS ["self"] FG:=by symm
abbrev FH:Stmt:=bC 23
theorem S5:ZS ["number"] FH:=by symm
abbrev FI:Stmt:=bC 24
theorem S6:ZS ["number"] FI:=by symm
abbrev FJ:Stmt:=bC 25
theorem S7:ZS ["stack","how_many"] FJ:=by symm
abbrev FK:Stmt:=bC 26
theorem v7:ZS ["stack","kinds","place","kind"] ["stack","kinds"] FK:=by symm
abbrev FL:Stmt:=bC 27
theorem S8:ZS ["stack","how_many","thing"] FL:=by symm
abbrev FN:Stmt:=bC 28
theorem FO:ZS ["stack","how_many"] FN:=by symm
abbrev FP:Stmt:=bC 29
theorem FQ:ZS ["thing","kind"] ["thing"] FP:=by symm
abbrev FR:Stmt:=ZI 31 0
theorem S9:ZS ["self","things"] FR:=by symm
abbrev FT:Stmt:=ZI 31 1
theorem FU:ZS ["self","machine","thing"] ["self","machine"] FT:=by symm
abbrev FV:Stmt:=ZI 32 0
theorem Ta:ZS ["self","body"] FV:=by symm
abbrev FW:Stmt:=ZI 32 1
theorem Tb:ZS ["self","machine"] FW:=by symm
abbrev v8:Stmt:=ZI 32 2
theorem FX:ZS ["self","machine","thing"] v8:=by symm
abbrev FY:Stmt:=ZI 33 0
theorem Tc:ZS ["self","turns","body"] FY:=by symm
abbrev FZ:Stmt:=ZI 33 1
theorem Td:ZS ["self","machine"] FZ:=by symm
abbrev F1:Stmt:=ZI 34 0
theorem Te:ZS ["self","first","stride","last","body"] F1:=by symm
abbrev F3:Stmt:=ZI 34 1
theorem Tf:ZS ["self"] F3:=by symm
abbrev F7:Stmt:=ZI 34 2
theorem Tg:ZS ["self","machine"] F7:=by symm
abbrev F8:Stmt:=ZI 35 0
theorem Th:ZS ["self","array","body"] F8:=by symm
abbrev F9:Stmt:=ZI 35 1
theorem Ga:ZS ["self","machine","things"] ["self","machine"] F9:=by symm
abbrev Gb:Stmt:=bC 54
theorem Ti:ZS ["byte"] Gb:=by symm
abbrev Gd:Stmt:=bC 55
theorem Ge:ZS ["text","place"] Gd:=by symm
abbrev Gf:Stmt:=bC 56
theorem Gg:ZS ["text","place"] Gf:=by symm
abbrev v9:Stmt:=bC 57
theorem amg:ZS ["text","start","end"] v9:=by symm
abbrev Gh:Stmt:=bC 58
theorem wa:ZS ["digits","below","number"] ["digits","below"] Gh:=by symm
abbrev Gi:Stmt:=bC 59
theorem Tj:ZS ["kind","run"] Gi:=by symm
abbrev Gj:Stmt:=bC 60
theorem AO:ZS ["run","below","digits"] ["run"] Gj:=by symm
abbrev Gk:Stmt:=bC 61
theorem Tl:ZS ["byte"] Gk:=by symm
abbrev Gm:Stmt:=bC 62
theorem kI:ZS ["text","tokens","place","byte","end"] ["text"] Gm:=by symm
abbrev Gn:Stmt:=bC 63
theorem wb:ZS ["tokens","rows","token","within"] ["tokens"] Gn:=by symm
abbrev Gp:Stmt:=ZI 70 0
theorem Tn:ZS ["self","number","arrays","tables","held"] Gp:=by symm
abbrev Gq:Stmt:=ZI 70 1
theorem To:ZS ["self","thing"] Gq:=by symm
abbrev Gr:Stmt:=ZI 71 0
theorem Tp:ZS ["self"] Gr:=by symm
abbrev Gs:Stmt:=ZI 71 1
theorem Tq:ZS ["self","how_many"] Gs:=by symm
abbrev Gu:Stmt:=ZI 71 2
theorem Tr:ZS ["self","things"] Gu:=by symm
abbrev Gv:Stmt:=ZI 71 3
theorem Ts:ZS ["self"] Gv:=by symm
abbrev Gw:Stmt:=ZI 71 4
theorem Tt:ZS ["self","array","place","thing"] Gw:=by symm
abbrev Gx:Stmt:=ZI 71 5
theorem Tu:ZS ["self","table","name","thing"] Gx:=by symm
abbrev Gy:Stmt:=ZI 71 6
theorem Gz:ZS ["self","number"] ["self"] Gy:=by symm
abbrev GA:Stmt:=ZI 71 7
theorem GB:ZS ["self","number","state"] ["self","number"] GA:=by symm
abbrev wc:Stmt:=ZI 71 8
theorem amh:ZS ["self","state"] wc:=by symm
abbrev GC:Stmt:=ZI 71 9
theorem Tv:ZS ["self"] GC:=by symm
abbrev GD:Stmt:=ZI 76 0
theorem Tw:ZS ["self","words"] GD:=by symm
abbrev GF:Stmt:=ZI 76 1
theorem Tx:ZS ["self","how_many"] GF:=by symm
abbrev GG:Stmt:=ZI 76 2
theorem GH:ZS ["self","thing"] GG:=by symm
abbrev GI:Stmt:=ZI 76 3
theorem Tz:ZS ["self"] GI:=by symm
abbrev GJ:Stmt:=ZI 76 4
theorem TB:ZS ["self","frame"] GJ:=by symm
abbrev GK:Stmt:=ZI 76 5
theorem wg:ZS ["self","name","tables","table","thing"] ["self","name"] GK:=by symm
abbrev GL:Stmt:=ZI 76 6
theorem GN:ZS ["self","name","thing"] ["self","name"] GL:=by symm
abbrev GO:Stmt:=ZI 76 7
theorem AQ:ZS ["self","text","room","sign"] ["self","text"] GO:=by symm
abbrev GP:Stmt:=ZI 76 8
theorem AR:ZS ["self","text","tokens","things"] ["self","text"] GP:=by symm
abbrev GQ:Stmt:=ZI 76 9
theorem AS:ZS ["self","steps","pile"] ["self","steps"] GQ:=by symm
abbrev GR:Stmt:=ZI 76 10
theorem GS:ZS ["self","steps","most","text","answer","refusal"] ["self","steps","most","text"] GR:=by symm
abbrev GU:Stmt:=bC 78
theorem TC:ZS ["machine","how_many","frame"] GU:=by symm
abbrev GV:Stmt:=bC 79
theorem GW:ZS ["machine","stack"] ["machine"] GV:=by symm
abbrev GX:Stmt:=bC 80
theorem GY:ZS ["machine","stack"] ["machine"] GX:=by symm
abbrev GZ:Stmt:=bC 81
theorem AU:ZS ["machine","stack","chosen"] ["machine"] GZ:=by symm
abbrev G0:Stmt:=bC 82
theorem AV:ZS ["machine","stack","turns"] ["machine"] G0:=by symm
abbrev G1:Stmt:=bC 83
theorem G2:ZS ["machine","stack"] ["machine"] G1:=by symm
abbrev G3:Stmt:=bC 84
theorem AW:ZS ["machine","stack","stride"] ["machine"] G3:=by symm
abbrev G4:Stmt:=bC 85
theorem G5:ZS ["machine","stack"] ["machine"] G4:=by symm
abbrev wj:Stmt:=bC 86
theorem ami:ZS ["machine","pile"] ["machine"] wj:=by symm
abbrev G6:Stmt:=bC 89
theorem TD:ZS ["stack"] G6:=by symm
abbrev G7:Stmt:=bC 90
theorem TF:ZS ["stack","how_many","number"] G7:=by symm
abbrev G8:Stmt:=bC 91
theorem G9:ZS ["machine","stack"] ["machine"] G8:=by symm
abbrev Ha:Stmt:=bC 92
theorem Hb:ZS ["machine","stack"] ["machine"] Ha:=by symm
abbrev Hc:Stmt:=bC 93
theorem Hd:ZS ["machine","stack"] ["machine"] Hc:=by symm
abbrev He:Stmt:=bC 94
theorem TH:ZS ["stack"] He:=by symm
abbrev Hf:Stmt:=bC 95
theorem tN:ZS ["machine","stack","a","b","quotient"] ["machine"] Hf:=by symm
abbrev Hg:Stmt:=bC 96
theorem wk:ZS ["machine","stack","a","left"] ["machine"] Hg:=by symm
abbrev Hh:Stmt:=bC 97
theorem Hi:ZS ["machine","stack"] ["machine"] Hh:=by symm
abbrev Hj:Stmt:=bC 98
theorem Hk:ZS ["machine","stack"] ["machine"] Hj:=by symm
abbrev Hl:Stmt:=bC 99
theorem Hm:ZS ["machine","stack"] ["machine"] Hl:=by symm
abbrev Hn:Stmt:=bC 100
theorem Ho:ZS ["machine","stack"] ["machine"] Hn:=by symm
abbrev Hq:Stmt:=bC 101
theorem Hr:ZS ["machine","stack"] ["machine"] Hq:=by symm
abbrev Hs:Stmt:=bC 102
theorem wm:ZS ["machine","stack","kind","alike"] ["machine"] Hs:=by symm
abbrev Ht:Stmt:=bC 103
theorem Hu:ZS ["stack","how_many","kind"] ["stack","how_many"] Ht:=by symm
abbrev Hv:Stmt:=bC 104
theorem AX:ZS ["machine","stack","kind"] ["machine"] Hv:=by symm
abbrev Hw:Stmt:=bC 105
theorem AY:ZS ["machine","stack","kind"] ["machine"] Hw:=by symm
abbrev Hx:Stmt:=bC 106
theorem AZ:ZS ["machine","stack","kind"] ["machine"] Hx:=by symm
abbrev Hy:Stmt:=bC 107
theorem wn:ZS ["machine","stack","kind","value"] ["machine"] Hy:=by symm
abbrev Hz:Stmt:=bC 108
theorem TJ:ZS ["machine"] Hz:=by symm
abbrev HA:Stmt:=bC 109
theorem TK:ZS ["machine"] HA:=by symm
abbrev HB:Stmt:=bC 112
theorem TM:ZS ["machine"] HB:=by symm
abbrev HC:Stmt:=bC 113
theorem A0:ZS ["machine","stack","lower"] ["machine"] HC:=by symm
abbrev HD:Stmt:=bC 114
theorem TN:ZS ["machine"] HD:=by symm
abbrev HE:Stmt:=bC 115
theorem TQ:ZS ["stack","besides","told"] HE:=by symm
abbrev HF:Stmt:=bC 116
theorem A1:ZS ["machine","stack","how_many"] ["machine"] HF:=by symm
abbrev HG:Stmt:=bC 117
theorem A2:ZS ["machine","stack","above"] ["machine"] HG:=by symm
abbrev HH:Stmt:=bC 118
theorem pC:ZS ["machine","stack","how_many","times","start","cut","turned"] ["machine"] HH:=by symm
abbrev HI:Stmt:=bC 119
theorem TR:ZS ["machine"] HI:=by symm
abbrev HJ:Stmt:=bC 120
theorem TU:ZS ["machine"] HJ:=by symm
abbrev HK:Stmt:=bC 121
theorem TV:ZS ["machine"] HK:=by symm
abbrev HL:Stmt:=bC 122
theorem A3:ZS ["stack","place"] ["stack"] HL:=by symm
abbrev HM:Stmt:=bC 123
theorem TX:ZS ["machine"] HM:=by symm
abbrev HN:Stmt:=bC 124
theorem TY:ZS ["machine"] HN:=by symm
abbrev wo:Stmt:=bC 125
theorem amj:ZS ["machine","stack","how_many","things"] ["machine"] wo:=by symm
abbrev HP:Stmt:=bC 126
theorem TZ:ZS ["machine"] HP:=by symm
abbrev HQ:Stmt:=bC 130
theorem T1:ZS ["thing"] HQ:=by symm
abbrev HR:Stmt:=bC 131
theorem HS:ZS ["machine","stack"] ["machine"] HR:=by symm
abbrev HU:Stmt:=bC 132
theorem A4:ZS ["machine","stack","thing"] ["machine"] HU:=by symm
abbrev HV:Stmt:=bC 133
theorem T2:ZS ["machine"] HV:=by symm
abbrev HW:Stmt:=bC 134
theorem HX:ZS ["machine","stack"] ["machine"] HW:=by symm
abbrev HY:Stmt:=bC 135
theorem T3:ZS ["machine"] HY:=by symm
abbrev HZ:Stmt:=bC 136
theorem Ia:ZS ["machine","stack"] ["machine"] HZ:=by symm
abbrev Ib:Stmt:=bC 137
theorem A5:ZS ["machine","stack","how_many"] ["machine"] Ib:=by symm
abbrev Ic:Stmt:=bC 138
theorem T4:ZS ["machine","thing"] Ic:=by symm
abbrev Ie:Stmt:=bC 139
theorem Ig:ZS ["machine","stack"] ["machine"] Ie:=by symm
abbrev Ih:Stmt:=bC 140
theorem T5:ZS ["holder","place"] Ih:=by symm
abbrev Ii:Stmt:=bC 141
theorem T6:ZS ["things","place"] Ii:=by symm
abbrev Ij:Stmt:=bC 142
theorem wq:ZS ["machine","stack","held","place"] ["machine"] Ij:=by symm
abbrev Ik:Stmt:=bC 143
theorem wr:ZS ["machine","stack","holder","place"] ["machine"] Ik:=by symm
abbrev Il:Stmt:=bC 144
theorem T7:ZS ["machine"] Il:=by symm
abbrev tO:Stmt:=bC 145
theorem amk:ZS ["machine","walked"] ["machine"] tO:=by symm
abbrev wv:Stmt:=bC 146
theorem aml:ZS ["machine","stack","state"] ["machine"] wv:=by symm
abbrev Im:Stmt:=bC 149
theorem Io:ZS ["words"] [] Im:=by symm
abbrev Ip:Stmt:=bC 153
theorem jY:ZS ["calls","machine","given","place","answer","start"] ["calls"] Ip:=by symm
abbrev Iq:Stmt:=bC 154
theorem Ir:ZS ["machine","steps","most","text","answer"] ["machine","steps","most","text"] Iq:=by symm
structure Txt(K:ax):Prop where
 mj:bo K "__init__" "Refusal.__init__" Fx ["self","answer"] (cj K "Refusal" "__init__")
 nO:bo K "__init__" "NoText.__init__" Fy ["self"] (cj K "NoText" "__init__")
 tP:bo K "__init__" "TooFew.__init__" Fz ["self"] (cj K "TooFew" "__init__")
 mn:bo K "__init__" "WrongKind.__init__" FA ["self"] (cj K "WrongKind" "__init__")
 pD:bo K "__init__" "WrongNumber.__init__" FC ["self"] (cj K "WrongNumber" "__init__")
 ww:bo K "__init__" "NoSuchName.__init__" FD ["self"] (cj K "NoSuchName" "__init__")
 kK:bo K "__init__" "TooMany.__init__" FE ["self"] (cj K "TooMany" "__init__")
 Iu:bo K "__init__" "NoLoop.__init__" FF ["self"] (cj K "NoLoop" "__init__")
 A6:bo K "__init__" "NoWayBack.__init__" FG ["self"] (cj K "NoWayBack" "__init__")
 Iv:bo K "fits" "fits" FH ["number"] (ak K "fits")
 T8:bi K "fits"
 Iw:bo K "wrapped" "wrapped" FI ["number"] (ak K "wrapped")
 T9:bi K "wrapped"
 jZ:bo K "want" "want" FJ ["stack","how_many"] (ak K "want")
 kL:bi K "want"
 gE:bo K "want_kinds" "want_kinds" FK ["stack","kinds"] (ak K "want_kinds")
 hG:bi K "want_kinds"
 gF:bo K "put_for" "put_for" FL ["stack","how_many","thing"] (ak K "put_for")
 hU:bi K "put_for"
 mq:bo K "drop" "drop" FN ["stack","how_many"] (ak K "drop")
 nP:bi K "drop"
 Iy:bo K "text_of" "text_of" FP ["thing"] (ak K "text_of")
 Ua:bi K "text_of"
 lu:bo K "__init__" "RunFrame.__init__" FR ["self","things"] (cj K "RunFrame" "__init__")
 Iz:dB K "RunFrame" "advance" "RunFrame.advance" FT ["self","machine"]
 tQ:bo K "__init__" "LoopFrame.__init__" FV ["self","body"] (cj K "LoopFrame" "__init__")
 IA:dB K "LoopFrame" "advance" "LoopFrame.advance" FW ["self","machine"]
 amm:dB K "LoopFrame" "turn_with" "LoopFrame.turn_with" v8 ["self","machine","thing"]
 IB:bo K "__init__" "RepeatFrame.__init__" FY ["self","turns","body"] (cj K "RepeatFrame" "__init__")
 IC:dB K "RepeatFrame" "advance" "RepeatFrame.advance" FZ ["self","machine"]
 ID:bo K "__init__" "ForFrame.__init__" F1 ["self","first","stride","last","body"] (cj K "ForFrame" "__init__")
 IE:dB K "ForFrame" "is_past" "ForFrame.is_past" F3 ["self"]
 IF:dB K "ForFrame" "advance" "ForFrame.advance" F7 ["self","machine"]
 IG:bo K "__init__" "ForallFrame.__init__" F8 ["self","array","body"] (cj K "ForallFrame" "__init__")
 IH:dB K "ForallFrame" "advance" "ForallFrame.advance" F9 ["self","machine"]
 A7:bo K "is_plain" "is_plain" Gb ["byte"] (ak K "is_plain")
 II:bi K "is_plain"
 IJ:bo K "comment_end" "comment_end" Gd ["text","place"] (ak K "comment_end")
 Ub:bi K "comment_end"
 A8:bo K "run_end" "run_end" Gf ["text","place"] (ak K "run_end")
 IK:bi K "run_end"
 A9:bo K "run_in" "run_in" v9 ["text","start","end"] (ak K "run_in")
 IL:bi K "run_in"
 IM:bo K "number_token" "number_token" Gh ["digits","below"] (ak K "number_token")
 Uc:bi K "number_token"
 Ba:bo K "named_token" "named_token" Gi ["kind","run"] (ak K "named_token")
 IP:bi K "named_token"
 IQ:bo K "run_token" "run_token" Gj ["run"] (ak K "run_token")
 Ud:bi K "run_token"
 IS:bo K "sign_token" "sign_token" Gk ["byte"] (ak K "sign_token")
 Ue:bi K "sign_token"
 IT:bo K "tokens_of" "tokens_of" Gm ["text"] (ak K "tokens_of")
 Ug:bi K "tokens_of"
 IU:bo K "things_of" "things_of" Gn ["tokens"] (ak K "things_of")
 Uh:bi K "things_of"
 IV:bo K "__init__" "State.__init__" Gp ["self","number","arrays","tables","held"] (cj K "State" "__init__")
 IW:dB K "State" "lacks" "State.lacks" Gq ["self","thing"]
 IX:bo K "__init__" "Store.__init__" Gr ["self"] (cj K "Store" "__init__")
 Bb:dB K "Store" "check_array_room" "Store.check_array_room" Gs ["self","how_many"]
 Bc:dB K "Store" "make_array" "Store.make_array" Gu ["self","things"]
 IY:dB K "Store" "make_table" "Store.make_table" Gv ["self"]
 IZ:dB K "Store" "put_item" "Store.put_item" Gw ["self","array","place","thing"]
 Bd:dB K "Store" "put_name" "Store.put_name" Gx ["self","table","name","thing"]
 I0:dB K "Store" "keep_state" "Store.keep_state" Gy ["self"]
 Ja:dB K "Store" "state_of" "Store.state_of" GA ["self","number"]
 Jb:dB K "Store" "bring_back" "Store.bring_back" wc ["self","state"]
 Be:dB K "Store" "share_all" "Store.share_all" GC ["self"]
 Bf:bo K "__init__" "Machine.__init__" GD ["self","words"] (cj K "Machine" "__init__")
 wx:dB K "Machine" "check_room" "Machine.check_room" GF ["self","how_many"]
 jd:dB K "Machine" "push" "Machine.push" GG ["self","thing"]
 wy:dB K "Machine" "check_frame_room" "Machine.check_frame_room" GI ["self"]
 nQ:dB K "Machine" "put_frame" "Machine.put_frame" GJ ["self","frame"]
 Bg:dB K "Machine" "look_up" "Machine.look_up" GK ["self","name"]
 Jc:dB K "Machine" "do_word" "Machine.do_word" GL ["self","name"]
 Jd:dB K "Machine" "say" "Machine.say" GO ["self","text"]
 Je:dB K "Machine" "start" "Machine.start" GP ["self","text"]
 Jf:dB K "Machine" "go_on" "Machine.go_on" GQ ["self","steps"]
 Jg:dB K "Machine" "run" "Machine.run" GR ["self","steps","most","text"]
 nS:bo K "enter" "enter" GU ["machine","how_many","frame"] (ak K "enter")
 pE:bi K "enter"
 Jh:bo K "do_exec" "do_exec" GV ["machine"] (ak K "do_exec")
 amn:bi K "do_exec"
 Ji:bo K "do_if" "do_if" GX ["machine"] (ak K "do_if")
 amo:bi K "do_if"
 Jj:bo K "do_ifelse" "do_ifelse" GZ ["machine"] (ak K "do_ifelse")
 amq:bi K "do_ifelse"
 Jk:bo K "do_repeat" "do_repeat" G0 ["machine"] (ak K "do_repeat")
 amr:bi K "do_repeat"
 Jl:bo K "do_loop" "do_loop" G1 ["machine"] (ak K "do_loop")
 ams:bi K "do_loop"
 Jm:bo K "do_for" "do_for" G3 ["machine"] (ak K "do_for")
 amt:bi K "do_for"
 Jn:bo K "do_forall" "do_forall" G4 ["machine"] (ak K "do_forall")
 amu:bi K "do_forall"
 Bh:bo K "do_exit" "do_exit" wj ["machine"] (ak K "do_exit")
 amv:bi K "do_exit"
 mr:bo K "want_two_numbers" "want_two_numbers" G6 ["stack"] (ak K "want_two_numbers")
 nU:bi K "want_two_numbers"
 pF:bo K "put_number" "put_number" G7 ["stack","how_many","number"] (ak K "put_number")
 qS:bi K "put_number"
 Jo:bo K "do_add" "do_add" G8 ["machine"] (ak K "do_add")
 amw:bi K "do_add"
 Jp:bo K "do_sub" "do_sub" Ha ["machine"] (ak K "do_sub")
 amx:bi K "do_sub"
 Jq:bo K "do_mul" "do_mul" Hc ["machine"] (ak K "do_mul")
 amy:bi K "do_mul"
 Bi:bo K "want_divisor" "want_divisor" He ["stack"] (ak K "want_divisor")
 Jr:bi K "want_divisor"
 Js:bo K "do_idiv" "do_idiv" Hf ["machine"] (ak K "do_idiv")
 amz:bi K "do_idiv"
 Jt:bo K "do_mod" "do_mod" Hg ["machine"] (ak K "do_mod")
 amA:bi K "do_mod"
 Ju:bo K "do_neg" "do_neg" Hh ["machine"] (ak K "do_neg")
 amB:bi K "do_neg"
 Jv:bo K "do_lt" "do_lt" Hj ["machine"] (ak K "do_lt")
 amC:bi K "do_lt"
 Jw:bo K "do_le" "do_le" Hl ["machine"] (ak K "do_le")
 amD:bi K "do_le"
 Jx:bo K "do_gt" "do_gt" Hn ["machine"] (ak K "do_gt")
 amE:bi K "do_gt"
 Jy:bo K "do_ge" "do_ge" Hq ["machine"] (ak K "do_ge")
 amF:bi K "do_ge"
 Jz:bo K "do_eq" "do_eq" Hs ["machine"] (ak K "do_eq")
 amG:bi K "do_eq"
 tR:bo K "want_bits" "want_bits" Ht ["stack","how_many"] (ak K "want_bits")
 wz:bi K "want_bits"
 JA:bo K "do_and" "do_and" Hv ["machine"] (ak K "do_and")
 amH:bi K "do_and"
 JB:bo K "do_or" "do_or" Hw ["machine"] (ak K "do_or")
 amI:bi K "do_or"
 JC:bo K "do_xor" "do_xor" Hx ["machine"] (ak K "do_xor")
 amJ:bi K "do_xor"
 JD:bo K "do_not" "do_not" Hy ["machine"] (ak K "do_not")
 amK:bi K "do_not"
 JE:bo K "do_true" "do_true" Hz ["machine"] (ak K "do_true")
 amL:bi K "do_true"
 JF:bo K "do_false" "do_false" HA ["machine"] (ak K "do_false")
 amM:bi K "do_false"
 JG:bo K "do_pop" "do_pop" HB ["machine"] (ak K "do_pop")
 amN:bi K "do_pop"
 JH:bo K "do_exch" "do_exch" HC ["machine"] (ak K "do_exch")
 amO:bi K "do_exch"
 JI:bo K "do_dup" "do_dup" HD ["machine"] (ak K "do_dup")
 amP:bi K "do_dup"
 wA:bo K "want_told" "want_told" HE ["stack","besides","told"] (ak K "want_told")
 Bj:bi K "want_told"
 JK:bo K "do_copy" "do_copy" HF ["machine"] (ak K "do_copy")
 amQ:bi K "do_copy"
 JL:bo K "do_index" "do_index" HG ["machine"] (ak K "do_index")
 amR:bi K "do_index"
 JM:bo K "do_roll" "do_roll" HH ["machine"] (ak K "do_roll")
 amS:bi K "do_roll"
 JN:bo K "do_clear" "do_clear" HI ["machine"] (ak K "do_clear")
 amT:bi K "do_clear"
 JO:bo K "do_count" "do_count" HJ ["machine"] (ak K "do_count")
 amU:bi K "do_count"
 Bk:bo K "do_mark" "do_mark" HK ["machine"] (ak K "do_mark")
 amV:bi K "do_mark"
 wB:bo K "above_mark" "above_mark" HL ["stack"] (ak K "above_mark")
 Bl:bi K "above_mark"
 JP:bo K "do_cleartomark" "do_cleartomark" HM ["machine"] (ak K "do_cleartomark")
 amW:bi K "do_cleartomark"
 JQ:bo K "do_counttomark" "do_counttomark" HN ["machine"] (ak K "do_counttomark")
 amX:bi K "do_counttomark"
 JR:bo K "do_close_bracket" "do_close_bracket" wo ["machine"] (ak K "do_close_bracket")
 amY:bi K "do_close_bracket"
 JS:bo K "do_say" "do_say" HP ["machine"] (ak K "do_say")
 amZ:bi K "do_say"
 Bm:bo K "refuse_state" "refuse_state" HQ ["thing"] (ak K "refuse_state")
 JT:bi K "refuse_state"
 JU:bo K "do_def" "do_def" HR ["machine"] (ak K "do_def")
 am0:bi K "do_def"
 JV:bo K "do_load" "do_load" HU ["machine"] (ak K "do_load")
 am4:bi K "do_load"
 JW:bo K "do_table" "do_table" HV ["machine"] (ak K "do_table")
 am5:bi K "do_table"
 JX:bo K "do_begin" "do_begin" HW ["machine"] (ak K "do_begin")
 am6:bi K "do_begin"
 JY:bo K "do_end" "do_end" HY ["machine"] (ak K "do_end")
 am7:bi K "do_end"
 JZ:bo K "do_known" "do_known" HZ ["machine"] (ak K "do_known")
 am8:bi K "do_known"
 J7:bo K "do_array" "do_array" Ib ["machine"] (ak K "do_array")
 am9:bi K "do_array"
 tS:bo K "held_by" "held_by" Ic ["machine","thing"] (ak K "held_by")
 wC:bi K "held_by"
 J8:bo K "do_length" "do_length" Ie ["machine"] (ak K "do_length")
 ana:bi K "do_length"
 Bn:bo K "want_place_kind" "want_place_kind" Ih ["holder","place"] (ak K "want_place_kind")
 J9:bi K "want_place_kind"
 Bo:bo K "want_place" "want_place" Ii ["things","place"] (ak K "want_place")
 Ka:bi K "want_place"
 Kb:bo K "do_get" "do_get" Ij ["machine"] (ak K "do_get")
 anb:bi K "do_get"
 Kc:bo K "do_put" "do_put" Ik ["machine"] (ak K "do_put")
 anc:bi K "do_put"
 Kd:bo K "do_keep" "do_keep" Il ["machine"] (ak K "do_keep")
 ane:bi K "do_keep"
 Ke:bo K "things_in_use" "things_in_use" tO ["machine"] (ak K "things_in_use")
 Ui:bi K "things_in_use"
 Kf:bo K "do_back" "do_back" wv ["machine"] (ak K "do_back")
 anf:bi K "do_back"
 tT:bo K "all_words" "all_words" Im [] (ak K "all_words")
 Kg:bi K "all_words"
 Kh:bo K "answers" "answers" Ip ["calls"] (ak K "answers")
 Uj:bi K "answers"
 Ki:bo K "answer_run" "answer_run" Iq ["machine","steps","most","text"] (ak K "answer_run")
 Uk:bi K "answer_run"
 mw:bi K "Refusal"
 pG:bi K "NoText"
 pH:kY K (.ref (ak K "NoText")) (.ref (ak K "Refusal"))=some true
 nV:jU K (ak K "NoText") (cj K "NoText" "__init__")
 wD:bi K "TooFew"
 wF:kY K (.ref (ak K "TooFew")) (.ref (ak K "Refusal"))=some true
 tU:jU K (ak K "TooFew") (cj K "TooFew" "__init__")
 nW:bi K "WrongKind"
 nX:kY K (.ref (ak K "WrongKind")) (.ref (ak K "Refusal"))=some true
 mx:jU K (ak K "WrongKind") (cj K "WrongKind" "__init__")
 qT:bi K "WrongNumber"
 qU:kY K (.ref (ak K "WrongNumber")) (.ref (ak K "Refusal"))=some true
 pI:jU K (ak K "WrongNumber") (cj K "WrongNumber" "__init__")
 Bp:bi K "NoSuchName"
 Bq:kY K (.ref (ak K "NoSuchName")) (.ref (ak K "Refusal"))=some true
 wG:jU K (ak K "NoSuchName") (cj K "NoSuchName" "__init__")
 lv:bi K "TooMany"
 lw:kY K (.ref (ak K "TooMany")) (.ref (ak K "Refusal"))=some true
 kM:jU K (ak K "TooMany") (cj K "TooMany" "__init__")
 Ul:bi K "NoLoop"
 Um:kY K (.ref (ak K "NoLoop")) (.ref (ak K "Refusal"))=some true
 Kj:jU K (ak K "NoLoop") (cj K "NoLoop" "__init__")
 Kk:bi K "NoWayBack"
 Kl:kY K (.ref (ak K "NoWayBack")) (.ref (ak K "Refusal"))=some true
 Br:jU K (ak K "NoWayBack") (cj K "NoWayBack" "__init__")
 my:bi K "RunFrame"
 Km:d8 K (ak K "RunFrame")
 mz:Mk K (ak K "RunFrame") (cj K "RunFrame" "__init__")
 qV:bi K "LoopFrame"
 Kn:d8 K (ak K "LoopFrame")
 Uo:Mk K (ak K "LoopFrame") (cj K "LoopFrame" "__init__")
 Up:bi K "RepeatFrame"
 Ko:d8 K (ak K "RepeatFrame")
 Uq:Mk K (ak K "RepeatFrame") (cj K "RepeatFrame" "__init__")
 Ur:bi K "ForFrame"
 wH:d8 K (ak K "ForFrame")
 Us:Mk K (ak K "ForFrame") (cj K "ForFrame" "__init__")
 Kp:bi K "ForallFrame"
 wI:d8 K (ak K "ForallFrame")
 Ut:Mk K (ak K "ForallFrame") (cj K "ForallFrame" "__init__")
 Uu:bi K "State"
 wJ:d8 K (ak K "State")
 Uv:Mk K (ak K "State") (cj K "State" "__init__")
 Uw:bi K "Store"
 fF:d8 K (ak K "Store")
 Ux:Mk K (ak K "Store") (cj K "Store" "__init__")
 Kq:bi K "Machine"
 dA:d8 K (ak K "Machine")
 Kr:Mk K (ak K "Machine") (cj K "Machine" "__init__")
 nY:vR K (ak K "Refusal") "__init__" (cj K "Refusal" "__init__")
 Bs:vR K (ak K "LoopFrame") "__init__" (cj K "LoopFrame" "__init__")
 fO:di K "NUMBER" (.str "number")
 jE:di K "TRUTH" (.str "truth")
 qW:di K "NAME" (.str "name")
 Ks:di K "MARK" (.str "mark")
 pJ:di K "ARRAY" (.str "array")
 pK:di K "TABLE" (.str "table")
 qX:di K "STATE" (.str "state")
 kN:di K "PROCEDURE" (.str "procedure")
 wK:di K "WORD" (.str "word")
 Kt:di K "ANY" (.str "any")
 Uy:di K "TWO_TO_32" (.int 4294967296)
 wL:di K "TWO_TO_31" (.int 2147483648)
 Ku:di K "OPENING" (.str "opening")
 Kv:di K "CLOSING" (.str "closing")
 Uz:bi K "BLANKS"
 UA:∀H,dH K H (ak K "BLANKS") [.int 32,.int 9,.int 10,.int 13]
 UB:di K "LINE_END" (.int 10)
 UC:di K "COMMENT" (.int 37)
 UD:di K "SLASH" (.int 47)
 UE:di K "LEFT_BRACKET" (.int 91)
 UG:di K "RIGHT_BRACKET" (.int 93)
 UH:di K "LEFT_BRACE" (.int 123)
 UI:di K "RIGHT_BRACE" (.int 125)
 UJ:bi K "NOT_PLAIN"
 UK:∀H,dH K H (ak K "NOT_PLAIN") [.int 37,.int 47,.int 91,.int 93,.int 123,.int 125]
 Kw:di K "FIRST_SIGN" (.int 33)
 UL:di K "LAST_SIGN" (.int 126)
 UM:di K "SIGNS" (.str "!\"#$ &'()*+,-./0123456789:;<=>?@ABCDEFGHIJKLMNOPQRSTUVWXYZ[\\]^_`abcdefghijklmnopqrstuvwxyz{|}~")
 UN:di K "LONGEST_NAME" (.int 31)
 UO:di K "LONGEST_NUMBER" (.int 10)
 UP:di K "DEEPEST" (.int 16)
 UQ:di K "MOST_ARRAYS" (.int 256)
 UR:di K "MOST_ITEMS" (.int 2048)
 US:di K "MOST_TABLES" (.int 32)
 UT:di K "MOST_NAMES" (.int 64)
 UU:di K "MOST_STATES" (.int 4)
 Bt:di K "MOST_THINGS" (.int 256)
 UW:di K "MOST_FRAMES" (.int 128)
 UX:di K "MOST_TOKENS" (.int 4096)
 UY:di K "MOST_OPENED" (.int 16)
 UZ:di K "CLEAR" (.int 1)
 U0:di K "RUN" (.int 2)
 Pb:jC K "len"
 wM:jC K "abs"
 Bu:jC K "any"
 Bv:jC K "isinstance"
 Bw:jC K "list"
 Kx:jC K "tuple"
 tV:jC K "dict"
 U1:jC K "str"
 U2:jC K "int"
 U3:jC K "ord"
 U4:jC K "reversed"
 ang:jC K "range"
 Ky:cU K (ak K "RunFrame") "things"
 Kz:cU K (ak K "RunFrame") "place"
 KA:cU K (ak K "LoopFrame") "body"
 KC:cU K (ak K "RepeatFrame") "body"
 KD:cU K (ak K "RepeatFrame") "turns"
 KG:cU K (ak K "ForFrame") "body"
 Bx:cU K (ak K "ForFrame") "number"
 By:cU K (ak K "ForFrame") "stride"
 KH:cU K (ak K "ForFrame") "last"
 KI:cU K (ak K "ForallFrame") "body"
 Bz:cU K (ak K "ForallFrame") "array"
 KJ:cU K (ak K "ForallFrame") "place"
 wN:cU K (ak K "State") "number"
 wO:cU K (ak K "State") "arrays"
 wQ:cU K (ak K "State") "tables"
 wR:cU K (ak K "State") "held"
 gg:cU K (ak K "Store") "arrays"
 gi:cU K (ak K "Store") "tables"
 mB:cU K (ak K "Store") "states"
 mD:cU K (ak K "Store") "states_made"
 mE:cU K (ak K "Store") "held"
 ly:cU K (ak K "Store") "own_arrays"
 lA:cU K (ak K "Store") "own_tables"
 KL:cU K (ak K "Machine") "words"
 gA:cU K (ak K "Machine") "stack"
 j4:cU K (ak K "Machine") "pile"
 nZ:cU K (ak K "Machine") "opened"
 je:cU K (ak K "Machine") "store"
 KN:cU K (ak K "Machine") "tokens_run"
 BA:cU K (ak K "Machine") "most"
 wU:cU K (ak K "Machine") "said"
 wV:cU K (ak K "Machine") "said_in_all"
 KO:dB K "ForFrame" "turn_with" "LoopFrame.turn_with" v8 ["self","machine","thing"]
 KP:dB K "ForallFrame" "turn_with" "LoopFrame.turn_with" v8 ["self","machine","thing"]
 KQ:mi K (ak K "RunFrame")
 U5:iT K (.ref (ak K "RunFrame")) (.ref (ak K "LoopFrame"))=some false
 U6:iT K (.ref (ak K "RunFrame")) (.ref (ak K "ForallFrame"))=some false
 KR:mi K (ak K "LoopFrame")
 U7:iT K (.ref (ak K "LoopFrame")) (.ref (ak K "LoopFrame"))=some true
 U8:iT K (.ref (ak K "LoopFrame")) (.ref (ak K "ForallFrame"))=some false
 KS:mi K (ak K "RepeatFrame")
 U9:iT K (.ref (ak K "RepeatFrame")) (.ref (ak K "LoopFrame"))=some true
 Va:iT K (.ref (ak K "RepeatFrame")) (.ref (ak K "ForallFrame"))=some false
 KU:mi K (ak K "ForFrame")
 Vb:iT K (.ref (ak K "ForFrame")) (.ref (ak K "LoopFrame"))=some true
 Vc:iT K (.ref (ak K "ForFrame")) (.ref (ak K "ForallFrame"))=some false
 KW:mi K (ak K "ForallFrame")
 Vd:iT K (.ref (ak K "ForallFrame")) (.ref (ak K "LoopFrame"))=some true
 Ve:iT K (.ref (ak K "ForallFrame")) (.ref (ak K "ForallFrame"))=some true
def RC(K:ax):ae->Prop:=fun C=>XC K C/\kY K (.ref C) (.ref (ak K "Refusal"))=some true
abbrev uV(P:bv)(w:bf)(K:ax)(mg:af->Option ag)(base:Heap)(k:Nat)(f:ae)(ps:List af)(sp:Sp):Prop:=dG P w K mg base (gW P w (RC K)) k f (iN K f) ps sp
inductive KY(K:ax)(vs:List V)(H:Hp)(Q:VK)(E:XK):Prop
 |mk:∀a C t n,(vs=[.ref a,.int n])->(H a=some (px a C t))->(XC K C)->(∀dx,H dx=none->Q .aO (aq (aq H dx (.xd [("answer",.int n)])) a (qN a C t dx)))->KY K vs H Q E
def KZ(K:ax):Sp:=fun vs H Q E=>KY K vs H Q E
variable{P:bv}{w:bf}{K:ax}{mg:af->Option ag}{base:Heap}
theorem og(T:Txt K):ZM 1 "Refusal" "__init__" ["self","answer"] (KZ K):=by
 refine ZB T.mj SR
 ·obtain⟨a,C,t,n,rfl,_⟩:=h;rfl
 ·obtain⟨a,C,t,n,rfl,ha,xc,q⟩:=h;refine⟨_,cg (R6 (pv 0) (pv 1) rfl),?_⟩;exact⟨_,rfl,_,rfl,a,C,t,rfl,ha,xc,q⟩
theorem oh{c:af}{n:Int}{st:aH}{qual:af}(T:Txt K)(M:MG K mg)(D:bo K "__init__" qual st ["self"] (cj K c "__init__"))(X:jU K (ak K c) (cj K c "__init__"))(S:oQ ["self"] ["self"] (eU st))
(hb:∀(cdv:ag) (A:cv) (bp:List Env) (s:ay) (H:Hp) (E:XK),c6 1 (A.deeper (envOfC qual (eU st) s.heap.objs.size (cj K c "__init__") cdv))->
   gQ (gT (gW P w (RC K)) P w K mg base ["self"] qual (eU st) (cj K c "__init__") cdv A bp s H E) (kF st) (lV (oR (KZ K) [] E (lc (fU 0) (lc (uX (rU fun i=>.int (-i)) (tC (.int n))) iZ))))):
  uV P w K mg base 2 (cj K c "__init__") ["self"] (kH (ak K c) (-n)):=by
 refine D.ok S (fun vs H Q E h=>?_) (fun cdv A bp s H vs Q E hr h=>?_)
 ·obtain⟨a,t,rfl,_⟩:=h;rfl
 ·obtain⟨a,t,rfl,ha,q⟩:=h;exact⟨_,hb cdv A bp s H E hr,_,rfl,_,rfl,a,ak K c,t, -n,rfl,ha,X.c,q⟩
theorem wW(T:Txt K)(M:MG K mg):ZM 2 "TooFew" "__init__" ["self"] (kH (ak K "TooFew") (-3)):=
 oh (n:=3) T M T.tP T.tU SU fun cdv A bp s H E hr=>
  cg (aE (kG rfl (M.val _ _ T.mw) T.nY (og T) hr T.mj.bd .nil fT (Zy (pv 0) (fq iw aS))))
inductive aX{α β:Type}(R:α->β->Prop):List α->List β->Prop where
 |nil:aX R [] []
 |cons {a b l r}:R a b->aX R l r->aX R (a::l) (b::r)
inductive BB{β:Type}(p:β->Prop)(o:Option β):Prop
 |mk:∀b,o=some b->p b->BB p o
namespace aX
variable{α β:Type}{R R':α->β->Prop}
theorem cG:∀{l:List α}{r:List β},aX R l r->(∀a b,a∈l->R a b->R' a b)->aX R' l r:=by
 intro l r h;induction h with
 |nil=>exact fun _=>.nil
 |cons h t ih=>exact fun f=>.cons (f _ _ cw h) (ih fun a b m=>f a b (bP _ m))
theorem length:∀{l:List α}{r:List β},aX R l r->l.length=r.length:=by
 intro l r h;induction h with
 |nil=>rfl
 |cons h t ih=>rw[aA,aA,ih]
theorem get:∀{l:List α}{r:List β},aX R l r->∀(i:Nat)(a:α),l[i]? =some a->BB (R a) r[i]? :=by
 intro l r h;induction h with
 |nil=>intro i a h;simp at h
 |cons h t ih=>
  intro i a e;cases i with
  |zero=>cases e;exact⟨_,rfl,h⟩
  |succ i=>exact ih i a e
theorem hX:∀{l:List α}{r:List β},aX R l r->∀(i:Nat)(b:β),r[i]? =some b->BB (fun a=>R a b) l[i]? :=by
 intro l r h;induction h with
 |nil=>intro i a h;simp at h
 |cons h t ih=>
  intro i a e;cases i with
  |zero=>cases e;exact⟨_,rfl,h⟩
  |succ i=>exact ih i a e
theorem app:∀{l l':List α}{r r':List β},aX R l r->aX R l' r'->aX R (l++l') (r++r'):=by
 intro l l' r r' h s;induction h with
 |nil=>exact s
 |cons h t ih=>exact .cons h ih
theorem take:∀{l:List α}{r:List β}(n:Nat),aX R l r->aX R (l.take n) (r.take n)
 |_,_,0,_=>by rw[OO,OO];exact .nil
 |_,_,n+1,.nil=>.nil
 |_,_,n+1,.cons h t=>.cons h (t.take n)
theorem drop:∀{l:List α}{r:List β}(n:Nat),aX R l r->aX R (l.drop n) (r.drop n)
 |_,_,0,h=>h
 |_,_,n+1,.nil=>.nil
 |_,_,n+1,.cons h t=>t.drop n
theorem wX{l:List α}{r:List β}(h:aX R l r):aX R l.reverse r.reverse:=by
 induction h with
 |nil=>exact .nil
 |cons h t ih=>rw[kn,kn];exact ih.app (.cons h .nil)
theorem sX{a:α}{b:β}(h:R a b):∀n:Nat,aX R (dN n a) (dN n b)
 |0=>.nil
 |n+1=>.cons h (sX h n)
theorem set{a:α}{b:β}(h:R a b):∀{l:List α}{r:List β}(i:Nat),aX R l r->aX R (l.set i a) (r.set i b)
 |_,_,_,.nil=>.nil
 |_,_,0,.cons _ t=>.cons h t
 |_,_,i+1,.cons q t=>.cons q (set h i t)
end aX
def bH(n:List UInt8):Str:=⟨(n.map fR).toArray⟩
def ba:aB->af
 | .int _=>"number"
 | .truth _=>"truth"
 | .lit _=>"name"
 | .mark=>"mark"
 | .arr _=>"array"
 | .table _=>"table"
 | .state _=>"state"
 | .proc _=>"procedure"
 | .word _=>"word"
mutual
def bU(H:Hp)(aF:List Int):aB->V->Prop
 | .int n,x=>x=.int n
 | .truth b,x=>x=.bl b
 | .lit n,x=>x=.str (bH n)
 | .mark,x=>x=.int 0
 | .arr k,x=>x=.int k
 | .table k,x=>x=.int k
 | .state k,x=>∃n,aF[k]? =some n/\x=.int n
 | .word n,x=>x=.str (bH n)
 | .proc b,x=>∃p vs,x=.ref p/\H p=some (.aj vs)/\j5 H aF b vs
def j5(H:Hp)(aF:List Int):List aB->List V->Prop
 |[],vs=>vs=[]
 |t::r,vs=>∃a x vr,vs=.ref a::vr/\H a=some (.aj [.str (ba t),x])/\bU H aF t x/\j5 H aF r vr
end
def bF(H:Hp)(aF:List Int)(t:aB)(v:V):Prop:=∃a x,v=.ref a/\H a=some (.aj [.str (ba t),x])/\bU H aF t x
theorem wY{H:Hp}{aF:List Int}:∀{b:List aB}{vs:List V},j5 H aF b vs↔aX (bF H aF) b vs
 |[],vs=>by
  rw[j5];constructor
  ·rintro rfl;exact .nil
  ·intro h;cases h;rfl
 |t::r,vs=>by
  rw[j5];constructor
  ·rintro⟨a,x,vr,rfl,h1,h2,h3⟩;exact .cons ⟨a,x,rfl,h1,h2⟩ (wY.mp h3)
  ·intro h;cases h with
   |cons h t=>obtain⟨a,x,rfl,h1,h2⟩:=h;exact⟨a,x,_,rfl,h1,h2,wY.mpr t⟩
theorem tW{H:Hp}{aF:List Int}{b:List aB}{x:V}:bU H aF (.proc b) x↔∃p vs,x=.ref p/\H p=some (.aj vs)/\aX (bF H aF) b vs:=by
 rw[bU];constructor
 ·rintro⟨p,vs,h1,h2,h3⟩;exact⟨p,vs,h1,h2,wY.mp h3⟩
 ·rintro⟨p,vs,h1,h2,h3⟩;exact⟨p,vs,h1,h2,wY.mpr h3⟩
def cq(H H':Hp):Prop:=∀b xs,H b=some (.aj xs)->H' b=some (.aj xs)
mutual
theorem bU.keep{H H':Hp}{aF nums':List Int}(k:cq H H')(hn:∀(i:Nat) n,aF[i]? =some n->nums'[i]? =some n):∀(t:aB)(x:V),bU H aF t x->bU H' nums' t x
 | .int n,x,h=>by rw[bU]at h ⊢;exact h
 | .truth b,x,h=>by rw[bU]at h ⊢;exact h
 | .lit n,x,h=>by rw[bU]at h ⊢;exact h
 | .mark,x,h=>by rw[bU]at h ⊢;exact h
 | .arr n,x,h=>by rw[bU]at h ⊢;exact h
 | .table n,x,h=>by rw[bU]at h ⊢;exact h
 | .word n,x,h=>by rw[bU]at h ⊢;exact h
 | .state n,x,h=>by
  rw[bU]at h ⊢;obtain⟨z,h1,h2⟩:=h;exact⟨z,hn _ _ h1,h2⟩
 | .proc b,x,h=>by
  rw[bU]at h ⊢;obtain⟨p,vs,h1,h2,h3⟩:=h;exact⟨p,vs,h1,k p vs h2,j5.keep k hn b vs h3⟩
theorem j5.keep{H H':Hp}{aF nums':List Int}(k:cq H H')(hn:∀(i:Nat) n,aF[i]? =some n->nums'[i]? =some n):∀(b:List aB)(vs:List V),j5 H aF b vs->j5 H' nums' b vs
 |[],vs,h=>by rw[j5]at h ⊢;exact h
 |t::r,vs,h=>by
  rw[j5]at h ⊢;obtain⟨a,x,vr,h1,h2,h3,h4⟩:=h;exact⟨a,x,vr,h1,k _ _ h2,bU.keep k hn t x h3,j5.keep k hn r vr h4⟩
end
theorem bF.keep{H H':Hp}{aF nums':List Int}{t:aB}{v:V}(h:bF H aF t v)(k:cq H H')(hn:∀(i:Nat) n,aF[i]? =some n->nums'[i]? =some n:=by exact fun _ _ h=>h):bF H' nums' t v:=by
 obtain⟨a,x,h1,h2,h3⟩:=h;exact⟨a,x,h1,k _ _ h2,h3.keep k hn⟩
theorem aM{H H':Hp}{aF nums':List Int}{l:List aB}{r:List V}(h:aX (bF H aF) l r)(k:cq H H')(hn:∀(i:Nat) n,aF[i]? =some n->nums'[i]? =some n:=by exact fun _ _ h=>h):aX (bF H' nums') l r:=
 h.cG fun _ _ _ q=>q.keep k hn
def bJ(x:ae)(H H':Hp):Prop:=∀b o,b≠x->H b=some o->H' b=some o
theorem bJ.aj{x:ae}{H H':Hp}{o:HO}(k:bJ x H H')(hx:H x=some o)(ho:∀xs,o≠.aj xs):cq H H':=fun b xs h=>k b _ (fun e=>by rw[e,hx]at h;cases h;exact ho _ rfl) h
theorem aL.aj{H H':Hp}(k:aL H H'):cq H H':=fun b xs h=>k b _ h
theorem bA{H:Hp}{p:ae}{o:HO}(h:H p=none):aL H (aq H p o):=fun b u e=>by rw[aJ (bw e h)];exact e
theorem bM{H:Hp}{p:ae}{o:HO}:bJ p H (aq H p o):=fun b u n e=>by rw[aJ n];exact e
theorem aL.dY{H H' H2:Hp}{x:ae}(a:aL H H')(b:bJ x H' H2):bJ x H H2:=fun c o n e=>b c o n (a c o e)
theorem bJ.same{H H' H2:Hp}{x:ae}(a:bJ x H H')(b:aL H' H2):bJ x H H2:=fun c o n e=>b c o (a c o n e)
theorem bJ.trans{H H' H2:Hp}{x:ae}(a:bJ x H H')(b:bJ x H' H2):bJ x H H2:=fun c o n e=>b c o n (a c o n e)
def gG(K:ax)(H:Hp):cZ->ae->Prop
 | .code l,a=>∃dx p vs i,H a=some (.aP (ak K "RunFrame") dx [("things",.ref p),("place",.int (i:Nat))])/\H p=some (.aj vs)/\i<=vs.length/\aX (bF H []) l (vs.drop i)
 | .times n b,a=>∃dx p vs,H a=some (.aP (ak K "RepeatFrame") dx [("body",.ref p),("turns",.int n)])/\H p=some (.aj vs)/\aX (bF H []) b vs
 | .again b,a=>∃dx p vs,H a=some (.aP (ak K "LoopFrame") dx [("body",.ref p)])/\H p=some (.aj vs)/\aX (bF H []) b vs
 | .count x y z b,a=>∃dx p vs,H a=some (.aP (ak K "ForFrame") dx [("body",.ref p),("number",.int x),("stride",.int y),("last",.int z)])/\H p=some (.aj vs)/\aX (bF H []) b vs
 | .each k i b,a=>∃dx p vs r,H a=some (.aP (ak K "ForallFrame") dx [("body",.ref p),("array",.ref r),("place",.int i)])/\H p=some (.aj vs)/\aX (bF H []) b vs/\H r=some (.aj [.str "array",.int k])
theorem gG.keep{K:ax}{H H':Hp}{f:cZ}{a:ae}(h:gG K H f a)(k:cq H H')(ha:∀o,H a=some o->H' a=some o):gG K H' f a:=by
 cases f with
 |code l=>obtain⟨dx,p,vs,i,h1,h2,h3,h4⟩:=h;exact⟨dx,p,vs,i,ha _ h1,k _ _ h2,h3,aM h4 k⟩
 |times n b=>obtain⟨dx,p,vs,h1,h2,h4⟩:=h;exact⟨dx,p,vs,ha _ h1,k _ _ h2,aM h4 k⟩
 |again b=>obtain⟨dx,p,vs,h1,h2,h4⟩:=h;exact⟨dx,p,vs,ha _ h1,k _ _ h2,aM h4 k⟩
 |count x y z b=>obtain⟨dx,p,vs,h1,h2,h4⟩:=h;exact⟨dx,p,vs,ha _ h1,k _ _ h2,aM h4 k⟩
 |each x y b=>obtain⟨dx,p,vs,r,h1,h2,h4,h5⟩:=h;exact⟨dx,p,vs,r,ha _ h1,k _ _ h2,aM h4 k,k _ _ h5⟩
theorem gG.aP{K:ax}{H:Hp}{f:cZ}{a:ae}(h:gG K H f a):∃C dx fs,H a=some (.aP C dx fs):=by
 cases f with
 |code l=>obtain⟨dx,p,vs,i,h1,_⟩:=h;exact⟨_,_,_,h1⟩
 |times n b=>obtain⟨dx,p,vs,h1,_⟩:=h;exact⟨_,_,_,h1⟩
 |again b=>obtain⟨dx,p,vs,h1,_⟩:=h;exact⟨_,_,_,h1⟩
 |count x y z b=>obtain⟨dx,p,vs,h1,_⟩:=h;exact⟨_,_,_,h1⟩
 |each x y b=>obtain⟨dx,p,vs,r,h1,_⟩:=h;exact⟨_,_,_,h1⟩
end SW
namespace SW
open PySem PySem.Spec PyProof.Rows L2
structure SG where
 a:ae
 dx:ae
 aG:ae
 aD:ae
 eJ:Int
 items:List ae
 bg:List ae
structure G where
 dm:ae
 fY:ae
 au:ae
 bB:ae
 dC:ae
 aZ:ae
 d9:ae
 sd:ae
 aG:ae
 aD:ae
 bQ:ae
 bI:ae
 bz:ae
 most:Nat
 made:Int
 l:List V
 fs:List ae
 items:List ae
 bg:List ae
 sg:List SG
 oA:List (Key×V)
 oT:List (Key×V)
 bx:List ae
def G.aF(g:G):List Int:=g.sg.map (·.eJ)
def dy(g:G)(M:aY):List (af×V):=[("words",.ref g.fY),("stack",.ref g.au),("pile",.ref g.bB),("opened",.ref g.dC),("store",.ref g.aZ),("tokens_run",.int M.code),("most",.int g.most),("said",.ref g.sd),("said_in_all",.int M.said.length)]
def dI(h:b9):Int:=((h.arrays.map gI).sum:Nat)
def ee(g:G)(h:b9):List (af×V):=[("arrays",.ref g.aG),("tables",.ref g.aD),("states",.ref g.bQ),("states_made",.int g.made),("held",.int (dI h)),("own_arrays",.ref g.bI),("own_tables",.ref g.bz)]
def bu(m:ae)(g:G):List Addr:=[m,g.au,g.bB,g.dC,g.aZ,g.sd,g.aG,g.aD,g.bQ,g.bI,g.bz,g.fY]
def var(g:G):List Addr:=g.fs++(g.bx++g.sg.flatMap fun s=>[s.a,s.aG,s.aD])
def aK(m:ae)(g:G):List Addr:=bu m g++var g
def lB(H:Hp)(xs:List aB)(a:ae):Prop:=∃vs,H a=some (.ai vs)/\aX (bF H []) xs vs
def oj(H:Hp)(e:bO×aB)(kv:Key×V):Prop:=kv.1=cX (bH e.1)/\bF H [] e.2 kv.2
def lC(H:Hp)(t:List (bO×aB))(a:ae):Prop:=∃kvs,H a=some (.dK kvs)/\aX (oj H) t kvs
theorem lB.keep{H H':Hp}{xs:List aB}{a:ae}(h:lB H xs a)(k:cq H H')(ha:∀o,H a=some o->H' a=some o):lB H' xs a:=let⟨vs,h1,h2⟩:=h;⟨vs,ha _ h1,aM h2 k⟩
theorem lC.keep{H H':Hp}{t:List (bO×aB)}{a:ae}(h:lC H t a)(k:cq H H')(ha:∀o,H a=some o->H' a=some o):lC H' t a:=let⟨kvs,h1,h2⟩:=h;⟨kvs,ha _ h1,h2.cG fun _ _ _ q=>⟨q.1,q.2.keep k⟩⟩
structure lD(K:ax)(H:Hp)(h:b9)(s:SG):Prop where
 obj:H s.a=some (.aP (ak K "State") s.dx [("number",.int s.eJ),("arrays",.ref s.aG),("tables",.ref s.aD),("held",.int (dI h))])
 aG:H s.aG=some (.ai (s.items.map V.ref))
 aD:H s.aD=some (.ai (s.bg.map V.ref))
 fu:aX (lB H) h.arrays s.items
 fb:aX (lC H) h.tables s.bg
 hZ:s.items.Nodup
 gx:s.bg.Nodup
theorem lD.keep{K:ax}{H H':Hp}{h:b9}{s:SG}(x:lD K H h s)(k:cq H H')(k1:∀b o,(b=s.a\/b=s.aG\/b=s.aD\/b∈s.items\/b∈s.bg)->H b=some o->H' b=some o):lD K H' h s:=by
 refine⟨k1 _ _ (.inl rfl) x.obj,k1 _ _ (.inr (.inl rfl)) x.aG,k1 _ _ (.inr (.inr (.inl rfl))) x.aD,?_,?_,x.hZ,x.gx⟩
 ·have:=x.fu;have aux:∀{l:List (List aB)}{r:List ae},aX (lB H) l r->(∀b∈r,∀o,H b=some o->H' b=some o)->aX (lB H') l r:=by
   intro l r h;induction h with
   |nil=>intro _;exact .nil
   |cons q t ih=>intro f;exact .cons (q.keep k (f _ cw)) (ih fun b hb=>f b (bP _ hb))
  exact aux this fun b hb o=>k1 b o (.inr (.inr (.inr (.inl hb))))
 ·have:=x.fb;have aux:∀{l:List (List (bO×aB))}{r:List ae},aX (lC H) l r->(∀b∈r,∀o,H b=some o->H' b=some o)->aX (lC H') l r:=by
   intro l r h;induction h with
   |nil=>intro _;exact .nil
   |cons q t ih=>intro f;exact .cons (q.keep k (f _ cw)) (ih fun b hb=>f b (bP _ hb))
  exact aux this fun b hb o=>k1 b o (.inr (.inr (.inr (.inr hb))))
structure SI(K:ax)(g:G)(h:b9)(kept:List b9)(H:Hp):Prop where
 aZ:H g.aZ=some (.aP (ak K "Store") g.d9 (ee g h))
 aG:H g.aG=some (.ai (g.items.map V.ref))
 aD:H g.aD=some (.ai (g.bg.map V.ref))
 bQ:H g.bQ=some (.ai (g.sg.map fun s=>V.ref s.a))
 bI:H g.bI=some (.dK g.oA)
 bz:H g.bz=some (.dK g.oT)
 fu:aX (lB H) h.arrays g.items
 fb:aX (lC H) h.tables g.bg
 jf:aX (lD K H) kept g.sg
 hZ:g.items.Nodup
 gx:g.bg.Nodup
 gj:∀b∈g.items,b∈g.bx
 fZ:∀b∈g.bg,b∈g.bx
 eK:∀s∈g.sg,(∀b∈s.items,b∈g.bx)/\∀b∈s.bg,b∈g.bx
 j6:∀(i:Nat)(b:ae),(cK g.oA (bZ (i:Int))).isSome=true->g.items[i]? =some b->∀s∈g.sg,b∉s.items
 j7:∀(i:Nat)(b:ae),(cK g.oT (bZ (i:Int))).isSome=true->g.bg[i]? =some b->∀s∈g.sg,b∉s.bg
 iB:g.aF.Pairwise (· < ·)
 gX:∀n∈g.aF,n<g.made
 kA:(g.oA.map (·.1)).Nodup/\∀k∈g.oA.map (·.1),∃i:Nat,i<g.items.length/\k=bZ (i:Int)
 kT:(g.oT.map (·.1)).Nodup/\∀k∈g.oT.map (·.1),∃i:Nat,i<g.bg.length/\k=bZ (i:Int)
structure MI(K:ax)(wkv:List (Key×V))(m:ae)(g:G)(M:aY)(H:Hp):Prop where
 cy:H m=some (.aP (ak K "Machine") g.dm (dy g M))
 fY:H g.fY=some (.dK wkv)
 au:H g.au=some (.ai g.l.reverse)
 bh:aX (bF H g.aF) M.stack g.l
 bB:H g.bB=some (.ai (g.fs.map V.ref).reverse)
 eL:aX (gG K H) M.frames g.fs
 dC:H g.dC=some (.ai (M.opens.map fun k=>V.int (k:Nat)).reverse)
 sd:H g.sd=some (.ai ((M.said.take g.most).map fun b=>V.int (b.toNat:Nat)))
 si:SI K g M.heap M.kept H
 ia:∀b∈g.bx,∃o,H b=some o
 dk:(bu m g).Nodup
 ib:(var g).Nodup
 dj:∀a∈bu m g,a∉var g
 mb:g.most<=3000
def fP(S:List ae)(H:Hp):Option V:=match S with
 |a::_=>(match H a with
  |some (.aP _ _ fs)=>fs.lookup ("most":af)
  |_=>none)
 |[]=>none
theorem K0{S:List ae}{H H':Hp}(k:aL H H'):∀v,fP S H=some v->fP S H'=some v:=by
 intro v h;cases S with
 |nil=>cases h
 |cons a S=>
  cases e:H a with
  |none=>simp only[fP,e]at h;cases h
  |some o=>simp only[fP,e,k a o e]at h ⊢;exact h
theorem K1{m:ae}{g:G}{H:Hp}(h:H m=none):fP (aK m g) H=none:=by
 show(match H m with|some (.aP _ _ fs)=>fs.lookup ("most":af)|_=>none)=_;rw[h]
theorem BC{m:ae}{g:G}{H H':Hp}(k:∀o,H m=some o->H' m=some o):∀v,fP (aK m g) H=some v->fP (aK m g) H'=some v:=by
 intro v h;cases e:H m with
 |none=>rw[K1 e]at h;cases h
 |some o=>
  rw[<-h];show(match H' m with|some (.aP _ _ fs)=>fs.lookup ("most":af)|_=>none)=(match H m with|some (.aP _ _ fs)=>fs.lookup ("most":af)|_=>none);rw[e,k o e]
theorem tX{K:ax}{wkv:List (Key×V)}{m:ae}{g:G}{M:aY}{H:Hp}(I:MI K wkv m g M H):fP (aK m g) H=some (.int g.most):=by
 show(match H m with|some (.aP _ _ fs)=>fs.lookup ("most":af)|_=>none)=_;rw[I.cy];rfl
theorem MI.mo{K:ax}{wkv wkv':List (Key×V)}{m:ae}{g g':G}{M M':aY}{H H':Hp}(I:MI K wkv m g M H)(J:MI K wkv' m g' M' H')(e:g'.most=g.most:=by rfl):∀v,fP (aK m g) H=some v->fP (aK m g') H'=some v:=by
 intro v h;rw[tX I]at h;rw[tX J,e];exact h
structure Fr(S:List ae)(H:Hp)(S':List ae)(H':Hp):Prop where
 keep:∀b o,H b=some o->b∉S->H' b=some o
 aK:∀b∈S',b∈S\/H b=none
 pl:S'[2]? =S[2]?
 mo:∀v,fP S H=some v->fP S' H'=some v
theorem Fr.trans{S S1 S2:List ae}{H H1 H2:Hp}(a:Fr S H S1 H1)(b:Fr S1 H1 S2 H2):Fr S H S2 H2:=by
 have up:∀c o,H c=some o->c∉S->c∉S1:=fun c o h n z=>by
  rcases a.aK c z with z|z
  ·exact n z
  ·rw[h]at z;cases z
 refine⟨fun c o h n=>b.keep c o (a.keep c o h n) (up c o h n),fun c z=>?_,b.pl.trans a.pl,fun v h=>b.mo v (a.mo v h)⟩;rcases b.aK c z with z|z
 ·exact a.aK c z
 ·cases q:H c with
  |none=>exact .inr rfl
  |some o=>
   by_cases n:c∈S
   ·exact .inl n
   ·rw[a.keep c o q n]at z;cases z
theorem Fr.same{S:List ae}{H H':Hp}(k:aL H H'):Fr S H S H':=⟨fun b o h _=>k b o h,fun b h=>.inl h,rfl,K0 k⟩
theorem Fr.dY{S:List ae}{H H':Hp}{x:ae}(k:bJ x H H')(hx:x∈S)(hm:∀v,fP S H=some v->fP S H'=some v):Fr S H S H':=⟨fun b o h n=>k b o (fun e=>n (e▸hx)) h,fun b h=>.inl h,rfl,hm⟩
theorem bG{l:List ae}(h:l.Nodup)(i j:Nat){a b:ae}(ha:l[i]? =some a)(hb:l[j]? =some b)(n:i≠j):a≠b:=fun e=>n (AB h ha (e▸hb))
theorem SI.keep{K:ax}{g:G}{h:b9}{kept:List b9}{H H':Hp}(x:SI K g h kept H)(k:cq H H')
(k1:∀b o,b∈[g.aZ,g.aG,g.aD,g.bQ,g.bI,g.bz]\/b∈g.bx\/(∃s∈g.sg,b=s.a\/b=s.aG\/b=s.aD)->H b=some o->H' b=some o):SI K g h kept H':=by
 have auxA:∀{l:List (List aB)}{r:List ae},aX (lB H) l r->(∀b∈r,b∈g.bx)->aX (lB H') l r:=by
  intro l r h;induction h with
  |nil=>intro _;exact .nil
  |cons q t ih=>intro f;exact .cons (q.keep k fun o=>k1 _ o (.inr (.inl (f _ cw)))) (ih fun b hb=>f b (bP _ hb))
 have auxT:∀{l:List (List (bO×aB))}{r:List ae},aX (lC H) l r->(∀b∈r,b∈g.bx)->aX (lC H') l r:=by
  intro l r h;induction h with
  |nil=>intro _;exact .nil
  |cons q t ih=>intro f;exact .cons (q.keep k fun o=>k1 _ o (.inr (.inl (f _ cw)))) (ih fun b hb=>f b (bP _ hb))
 have auxS:∀{l:List b9}{r:List SG},aX (lD K H) l r->(∀s∈r,s∈g.sg)->aX (lD K H') l r:=by
  intro l r h;induction h with
  |nil=>intro _;exact .nil
  |@cons a b l r q t ih=>
   intro f;refine .cons (q.keep k fun c o hc=>k1 c o ?_) (ih fun b hb=>f b (bP _ hb));have hm:=f b cw;rcases hc with z|z|z|z|z
   ·exact .inr (.inr ⟨b,hm,.inl z⟩)
   ·exact .inr (.inr ⟨b,hm,.inr (.inl z)⟩)
   ·exact .inr (.inr ⟨b,hm,.inr (.inr z)⟩)
   ·exact .inr (.inl ((x.eK b hm).1 c z))
   ·exact .inr (.inl ((x.eK b hm).2 c z))
 exact⟨k1 _ _ (.inl (by simp)) x.aZ,k1 _ _ (.inl (by simp)) x.aG,k1 _ _ (.inl (by simp)) x.aD,k1 _ _ (.inl (by simp)) x.bQ,k1 _ _ (.inl (by simp)) x.bI,k1 _ _ (.inl (by simp)) x.bz,
  auxA x.fu x.gj,auxT x.fb x.fZ,auxS x.jf fun _ h=>h,x.hZ,x.gx,x.gj,x.fZ,x.eK,x.j6,x.j7,x.iB,x.gX,x.kA,x.kT⟩
theorem SI.dY{K:ax}{m:ae}{g:G}{h:b9}{kept:List b9}{H H':Hp}{x:ae}(y:SI K g h kept H)(k:cq H H')(b:bJ x H H')(n1:x∉[g.aZ,g.aG,g.aD,g.bQ,g.bI,g.bz])(n2:x∉g.bx)(n3:x∉g.sg.flatMap fun s=>[s.a,s.aG,s.aD]):SI K g h kept H':=by
 refine y.keep k fun c o hc e=>b c o ?_ e;rintro rfl;rcases hc with z|z|⟨s,hs,z⟩
 ·exact n1 z
 ·exact n2 z
 ·refine n3 (mZ.mpr ⟨s,hs,?_⟩);rcases z with z|z|z<;>simp[z]
theorem mF{K:ax}{H H':Hp}:∀{l:List cZ}{r:List ae},aX (gG K H) l r->cq H H'->(∀b∈r,∀o,H b=some o->H' b=some o)->aX (gG K H') l r:=by
 intro l r h k;induction h with
 |nil=>exact fun _=>.nil
 |cons h t ih=>exact fun f=>.cons (h.keep k (f _ cw)) (ih fun b hb=>f b (bP _ hb))
section
variable{K:ax}{wkv:List (Key×V)}{m:ae}{g:G}{M:aY}{H H':Hp}
theorem MI.same(I:MI K wkv m g M H)(k:aL H H'):MI K wkv m g M H':=
 ⟨k _ _ I.cy,k _ _ I.fY,k _ _ I.au,aM I.bh (SW.aL.aj k),k _ _ I.bB,mF I.eL (SW.aL.aj k) fun b _ o h=>k b o h,k _ _ I.dC,k _ _ I.sd,I.si.keep (SW.aL.aj k) fun b o _ h=>k b o h,fun b hb=>let⟨o,e⟩:=I.ia b hb;⟨o,k b o e⟩,I.dk,I.ib,I.dj,I.mb⟩
theorem MI.dt(I:MI K wkv m g M H){x:ae}(hx:x∈bu m g):x∉g.fs/\x∉g.bx/\x∉g.sg.flatMap fun s=>[s.a,s.aG,s.aD]:=by
 have h:=I.dj x hx;unfold var at h;exact⟨fun z=>h (c7 _ z),fun z=>h (bX _ (c7 _ z)),fun z=>h (bX _ (bX _ z))⟩
theorem MI.pL(I:MI K wkv m g M H)(b:bJ g.au H H'){l':List V}{s':List aB}(h1:H' g.au=some (.ai l'.reverse))(h2:aX (bF H' g.aF) s' l'):MI K wkv m {g with l:=l'} {M with stack:=s'} H':=by
 have tk:cq H H':=b.aj I.au fun _ z=>by cases z
 have o:=I.dt (x:=g.au) (by simp[bu]);have nd:=I.dk;refine⟨b _ _ (bG nd 0 1 rfl rfl (by decide)) I.cy,b _ _ (bG nd 11 1 rfl rfl (by decide)) I.fY,h1,h2,b _ _ (bG nd 2 1 rfl rfl (by decide)) I.bB,mF I.eL tk fun c hc u e=>b c u (fun z=>o.1 (z▸hc)) e,
  b _ _ (bG nd 3 1 rfl rfl (by decide)) I.dC,b _ _ (bG nd 5 1 rfl rfl (by decide)) I.sd,?_,fun c hc=>let⟨u,e⟩:=I.ia c hc;⟨u,b c u (fun z=>o.2.1 (z▸hc)) e⟩,I.dk,I.ib,I.dj,I.mb⟩
 have n1:g.au∉[g.aZ,g.aG,g.aD,g.bQ,g.bI,g.bz]:=by
  simp only[br,gK,or_false,not_or];exact⟨bG nd 1 4 rfl rfl (by decide),bG nd 1 6 rfl rfl (by decide),bG nd 1 7 rfl rfl (by decide),bG nd 1 8 rfl rfl (by decide),bG nd 1 9 rfl rfl (by decide),bG nd 1 10 rfl rfl (by decide)⟩
 have y:=I.si.dY (m:=m) tk b n1 o.2.1 o.2.2;exact⟨y.aZ,y.aG,y.aD,y.bQ,y.bI,y.bz,y.fu,y.fb,y.jf,y.hZ,y.gx,y.gj,y.fZ,y.eK,y.j6,y.j7,y.iB,y.gX,y.kA,y.kT⟩
end
def Er(E:XK)(n:Int)(H:Hp):Prop:=∀H',L2.aL H H'->E (.int n 0) none H'
theorem Er.up{E:XK}{n:Int}{H H':Hp}(h:Er E n H)(k:L2.aL H H'):Er E n H':=fun H2 k2=>h H2 (k.trans k2)
section
variable{X:Cx}
theorem wZ:fE X (.builtin "len") (fun xs H Q=>∃p ys,xs=[.ref p]/\H p=some (.ai ys)/\Q (.int ys.length) H):=fun pins s σ H xs us Q I r ⟨p,ys,e,h,q⟩=>
 z5 pins s σ H xs us Q I r ⟨p,ys,e,.inl (bV.of h),q⟩
theorem BD:fE X (.builtin "len") (fun xs H Q=>∃p ys,xs=[.ref p]/\H p=some (.aj ys)/\Q (.int ys.length) H):=fun pins s σ H xs us Q I r ⟨p,ys,e,h,q⟩=>
 z5 pins s σ H xs us Q I r ⟨p,ys,e,.inr (dH.of h),q⟩
def yU:R2:=fun x y H Q=>∃p xs i v,x=.ref p/\y=.int i/\H p=some (.ai xs)/\cR xs i=some v/\Q v H
def yV:R2:=fun x y H Q=>∃p xs i v,x=.ref p/\y=.int i/\H p=some (.aj xs)/\cR xs i=some v/\Q v H
theorem qY:jT X yU:=fun value slice pins s σ H x y v u Q I rx ry ⟨p,xs,i,z,e1,e2,h,q⟩ hs=>qB value slice pins s σ H x y v u Q I rx ry ⟨p,xs,i,z,e1,e2,bV.of h,q⟩ hs
theorem Vf:jT X yV:=fun value slice pins s σ H x y v u Q I rx ry ⟨p,xs,i,z,e1,e2,h,q⟩ hs=>QX value slice pins s σ H x y v u Q I rx ry ⟨p,xs,i,z,e1,e2,dH.of h,q⟩ hs
theorem dc{K:ax}{H:Hp}{p:ae}{xs:List V}(h:H p=some (.ai xs)):qr K "list" (.ref p) H:=.inl ⟨rfl,xs,bV.of h⟩
theorem BE{K:ax}{H:Hp}{p:ae}{xs:List (Key×V)}(h:H p=some (.dK xs)):qr K "dict" (.ref p) H:=.inr (.inr (.inl ⟨rfl,.inl ⟨xs,h⟩⟩))
end
theorem pM{α:Type}(l:List α)(k:Nat):cR l.reverse (-((k:Int)+1))=l[k]? :=by
 unfold cR ja;rw[bN,if_neg (by omega)];by_cases h:k<l.length
 ·rw[if_pos (by omega),CU,show(-((k:Int)+1)+(l.length:Int)).toNat=l.length-1-k by omega,rV (by omega)];congr 1;omega
 ·rw[if_neg (by omega),Option.bind_none,OG (by omega)]
theorem y3{α:Type}(l:List α):cR l.reverse (-1)=l[0]? :=pM l 0
theorem DA{α:Type}(l:List α):cR l.reverse (-2)=l[1]? :=pM l 1
theorem DB{α:Type}(l:List α):cR l.reverse (-3)=l[2]? :=pM l 2
theorem DC{α:Type}(l:List α):cR l.reverse (-4)=l[3]? :=pM l 3
theorem Pe(a b:V):cR [a,b] 0=some a:=rfl
theorem Pf(a b:V):cR [a,b] 1=some b:=rfl
theorem DD{α:Type}(y:α)(r:List α):(kZ (y::r))[(kZ (y::r)).length-1]? =some y:=by simp
theorem DE{α:Type}(y:α)(r:List α):(kZ (y::r)).dropLast=r.reverse:=by simp
theorem DF{CX:e8}{P:bv}{w:bf}{K:ax}{mg:af->Option ag}{base:Heap}{N:List af}{qual:af}{scope:fI}{f:ae}{cd:ag}{A:cv}{bp:List Env}{s:ay}{H:Hp}{E:XK}:
  (gT CX P w K mg base N qual scope f cd A bp s H E).K=K:=rfl
def K2(W:Nat->L2.St->Hp->Prop)(m:Nat)(tb:TS)(D:i9)(σ:L2.St)(H:Hp):Prop:=∃N:L2.St->Hp->Prop,(∀σ' H',N σ' H'->∃m',m'<m/\W m' σ' H')/\tb {D with nx:=N,ct:=N,bk:=D.nx} σ H
theorem lE{W:Nat->L2.St->Hp->Prop}{m:Nat}{tb:TS}{D:i9}{σ:L2.St}{H:Hp}(h:tb {D with nx:=fun σ' H'=>∃m',m'<m/\W m' σ' H',ct:=fun σ' H'=>∃m',m'<m/\W m' σ' H',bk:=D.nx} σ H):K2 W m tb D σ H:=⟨_,fun _ _ h=>h,h⟩
theorem oo{c:TT}{tb:TS}{D:i9}{σ:L2.St}{H:Hp}(W:Nat->L2.St->Hp->Prop)(m0:Nat)(h0:W m0 σ H)(hs:∀m σ H,W m σ H->c σ H fun b H1=>if b=true then K2 W m tb D σ H1 else D.nx σ H1):DY c tb D σ H:=⟨W,⟨m0,h0⟩,hs⟩
theorem Pg(H:Hp)(a:ae)(o:HO):aq H a o a=some o:=az
local macro_rules| `(tactic|walk_at "r2")=>`(tactic|simp only[b0, *])
inductive K3(vs:List V)(H:Hp)(Q:VK)(E:XK):Prop
 |mk:∀p xs n,(vs=[.ref p,.int n])->(H p=some (.ai xs))->(if(xs.length:Int)<n then Er E (-3) H else Q .aO H)->K3 vs H Q E
def Vg:Sp:=fun vs H Q E=>K3 vs H Q E
inductive K4(vs:List V)(H:Hp)(Q:VK)(E:XK):Prop
 |mk:∀p l n,(vs=[.ref p,.int n])->(H p=some (.ai (kZ l)))->(n<=l.length)->(∀H',bJ p H H'->H' p=some (.ai (l.drop n.toNat).reverse)->Q .aO H')->K4 vs H Q E
def K5:Sp:=fun vs H Q E=>K4 vs H Q E
inductive K6(vs:List V)(H:Hp)(Q:VK)(E:XK):Prop
 |mk:∀p l n v,(vs=[.ref p,.int n,v])->(H p=some (.ai (kZ l)))->(n<=l.length)->(l.length<1000)->(∀H',bJ p H H'->H' p=some (.ai (v::l.drop n.toNat).reverse)->Q .aO H')->K6 vs H Q E
def w6:Sp:=fun vs H Q E=>K6 vs H Q E
variable{P:bv}{w:bf}{K:ax}{mg:af->Option ag}{base:Heap}
theorem kO(T:Txt K)(M:MG K mg):ZF 4 "want" ["stack","how_many"] Vg:=by
 refine ZB T.jZ S7
 ·obtain⟨p,xs,n,rfl,_⟩:=h;rfl
 ·obtain⟨p,xs,n,rfl,hp,q⟩:=h;refine⟨_,cg (fB (Zp zT (Zl wZ (pv 0)) (pv 1))
   (cg (Zr T.tU T.wF wW T.tP T.wD)) lT),?_⟩
  walk_at "r2";exact q
theorem oq(T:Txt K)(M:MG K mg):ZF 1 "drop" ["stack","how_many"] K5:=by
 refine ZB T.mq FO
 ·obtain⟨p,l,n,rfl,_⟩:=h;rfl
 ·obtain⟨p,l,n,rfl,hp,hn,q⟩:=h;refine⟨_,cg (ni jB (Zp vB (pv 1) aS) (Zk (aE (iA gk ju jw jb (pv 0))) (lj (i:=1) FO.nd rfl (eN rfl) aS zK))),?_⟩;refine oo (fun m σ' H'=>∃k:Nat,m=(n-k).toNat/\(k=0\/(k:Int)<=n)/\σ'=[some (.ref p),some (.int (n-k))]/\bJ p H H'/\H' p=some (.ai (l.drop k).reverse)) n.toNat ?_ ?_
  ·exact⟨0,by simp,.inl rfl,by simp[L2.start,dN],fun b o _ h=>h,by simpa using hp⟩
  rintro m σ' H' ⟨k,hm,hk,rfl,hb,hp'⟩;by_cases c:(0:Int)<n-k
  ·obtain⟨y,r,e⟩:∃y r,l.drop k=y::r:=by
    cases e:l.drop k with
    |nil=>have:=congrArg gI e;rw[fh,jG]at this;omega
    |cons y r=>exact⟨y,r,rfl⟩
   have e2:l.drop (k+1)=r:=by rw[<-rW,e];rfl
   rw[e]at hp';have ty:=dc (K:=K) hp';clear hp q hn;walk_at "r2";rw[if_pos trivial];refine lE ?_;walk_at "r2";refine⟨(n-k).toNat-1,by omega,k+1,by omega,.inr (by omega),?_,?_,?_⟩
   ·rw[show n-(k:Int)-1=n-((k+1:Nat):Int)by omega]
   ·exact hb.trans bM
   ·rw[e2]
  ·have hq:n.toNat=k\/(n.toNat=0/\k=0):=by omega
   clear hp;simp only[sx,m7,fU,tC,iK,N5,uj,N6,V.int.injEq,V.bl.injEq,exists_and_left,exists_eq_left',exists_eq_left,decide_eq_true_eq];rw[if_neg c];refine q H' hb ?_;rw[hp'];rcases hq with h|⟨h,h2⟩
   ·rw[h]
   ·rw[h,h2]
theorem ic(T:Txt K)(M:MG K mg):ZF 2 "put_for" ["stack","how_many","thing"] w6:=by
 refine ZB T.gF S8
 ·obtain⟨p,l,n,v,rfl,_⟩:=h;rfl
 ·obtain⟨p,l,n,v,rfl,hp,hn,hz,q⟩:=h;refine⟨_,uU (aE (Zf T.nP T.mq oq (pv 0) (pv 1)))
   (cg (aE (Za z8 (pv 0) (pv 2)))),?_⟩
  walk_at "r2";refine⟨p,l,n,rfl,hp,hn,fun H' hb hp'=>?_⟩;have ty:=dc (K:=K) hp';walk_at "r2";refine⟨?_,q _ (hb.trans bM) (by rw[az,kn])⟩;rw[bN,fh,bR];lia
def oV(i:Nat):TE:=fun σ H Q=>match σ[i]? with|some (some v)=>Q v H|_=>False
theorem Vh{i:Nat}{σ:L2.St}{H:Hp}{Q:VK}(h:oV i σ H Q):fU i σ H Q:=by
 unfold oV at h;split at h
 ·exact⟨_,‹_›,h⟩
 ·exact h.elim
theorem pw(i:Nat){X:Cx}{x:af}{pos:cx}(hN:X.N[i]? =some x:=by rfl)(hv:oX X.ah.scope x:=by first|exact eN rfl|exact pU (eN rfl)|exact pU (pU rfl))(hd:(x==("__debug__":af))=false:=by decide)
(hcd:(x==("__classdict__":af))=false:=by decide):PE X (.Name x pos) (oV i):=fun pins s σ H Q I h=>zB hN hv hd hcd pins s σ H Q I (Vh h)
def m8(K:ax)(f:af)(x:V)(H:Hp)(Q:VK):Prop:=match x with| .ref a=>(match H a with|some (.aP C dx fs)=>d8 K C/\cU K C f/\(match fs.lookup f with|some v=>Q v H|none=>False)|_=>False)|_=>False
def y8(K:ax)(ta:TE)(f:af):TE:=fun σ H Q=>ta σ H fun x H1=>m8 K f x H1 Q
theorem Vi{K:ax}{f:af}{x:V}{H:Hp}{Q:VK}(h:m8 K f x H Q):∃a C dx fs v,x=.ref a/\H a=some (.aP C dx fs)/\d8 K C/\cU K C f/\fs.lookup f=some v/\Q v H:=by
 unfold m8 at h;split at h
 ·split at h
  ·obtain⟨h1,h2,h3⟩:=h;split at h3
   ·exact⟨_,_,_,_,_,rfl,‹_›,h1,h2,‹_›,h3⟩
   ·exact h3.elim
  ·exact h.elim
 ·exact h.elim
theorem Dv{X:Cx}{e:bq}{f:af}{pos:cx}{ta:TE}(he:PE X e ta)(hb:km e f X.ah (eval e X.ah)=eval e X.ah):PE X (.Attribute e f pos) (y8 X.K ta f):=by
 walk_at "ae";have he':PE X e fun σ H Q=>ta σ H Q:=he;refine lp (ta:=fun σ H Q'=>∃Q0:VK,(∀v H1,m8 X.K f v H1 Q0->Q' v H1)/\ta σ H fun x H1=>m8 X.K f x H1 Q0) (fun pins s σ H Q I ⟨Q0,k,h⟩=>a0 (he pins s σ H _ I h) fun v s1 ⟨x,H1,I1,r1,q1⟩=>⟨x,H1,I1,r1,k _ _ q1⟩) hb pins s σ H Q I ⟨Q,fun v H1 z=>Vi z,h⟩
def lW(g:Int->Int->V):R2:=fun x y H Q=>match x with| .int i=>(match y with| .int j=>Q (g i j) H|_=>False)|_=>False
theorem qZ{g:Int->Int->V}{x y:V}{H:Hp}{Q:VK}(h:lW g x y H Q):iK g x y H Q:=by
 cases x<;>first|exact h.elim|(cases y<;>first|exact h.elim|exact⟨_,_,rfl,rfl,h⟩)
def vU(g:Int->V):V->Hp->VK->Prop:=fun x H Q=>match x with| .int i=>Q (g i) H|_=>False
theorem Vj{g:Int->V}{x:V}{H:Hp}{Q:VK}(h:vU g x H Q):rU g x H Q:=by
 cases x<;>first|exact h.elim|exact⟨_,rfl,h⟩
def qj:R2:=fun x y H Q=>match x with| .ref p=>(match y with| .int i=>(match H p with|some (.ai xs)=>(match cR xs i with|some v=>Q v H|none=>False)|_=>False)|_=>False)|_=>False
def qk:R2:=fun x y H Q=>match x with| .ref p=>(match y with| .int i=>(match H p with|some (.aj xs)=>(match cR xs i with|some v=>Q v H|none=>False)|_=>False)|_=>False)|_=>False
theorem Vk{x y:V}{H:Hp}{Q:VK}(h:qj x y H Q):yU x y H Q:=by
 unfold qj at h;split at h
 ·split at h
  ·split at h
   ·split at h
    ·exact⟨_,_,_,_,rfl,rfl,‹_›,‹_›,h⟩
    ·exact h.elim
   ·exact h.elim
  ·exact h.elim
 ·exact h.elim
theorem Vl{x y:V}{H:Hp}{Q:VK}(h:qk x y H Q):yV x y H Q:=by
 unfold qk at h;split at h
 ·split at h
  ·split at h
   ·split at h
    ·exact⟨_,_,_,_,rfl,rfl,‹_›,‹_›,h⟩
    ·exact h.elim
   ·exact h.elim
  ·exact h.elim
 ·exact h.elim
theorem fK{X:Cx}:jT X qj:=fun value slice pins s σ H x y v u Q I rx ry h hs=>qY value slice pins s σ H x y v u Q I rx ry (Vk h) hs
theorem yK{X:Cx}:jT X qk:=fun value slice pins s σ H x y v u Q I rx ry h hs=>Vf value slice pins s σ H x y v u Q I rx ry (Vl h) hs
theorem lS{X:Cx}:vy X (unaryOp .USub) (vU fun i=>.int (-i)):=fun pins s σ H x v Q I r h=>iw pins s σ H x v Q I r (Vj h)
theorem mG{X:Cx}:cQ X (gy .Add) (lW fun i j=>.int (i+j)):=fun pins s σ H x y v u Q I rx ry h=>zQ pins s σ H x y v u Q I rx ry (qZ h)
def y9(t:TE):TT:=fun σ H Q=>t σ H fun x H'=>match x with| .bl k=>Q k H'|_=>False
theorem PT.QK{X:Cx}{e:bq}{t t':TT}(h:PT X e t)(k:∀σ H Q,t' σ H Q->t σ H Q):PT X e t':=fun pins s σ H Q I q=>h pins s σ H Q I (k σ H Q q)
def anh(t:TE):Prop:=∀σ H (Q Q':VK),(∀v H1,Q v H1->Q' v H1)->t σ H Q->t σ H Q'
theorem qe{X:Cx}{a b:bq}{pos:cx}{ta tb:TE}{op:CmpOp}{r:R2}(ho:cQ X (fA op) r)(ha:PE X a ta)(hb:PE X b tb)(hm:behindInMarks op b=false):PT X (.Compare a [op] [b] pos) (y9 (m7 r ta tb)):=by
 walk_at "ae";refine wpAny_isTrue_Compare1 (a0 (ha pins s σ H _ I h) fun v s1 ⟨x,H1,I1,r1,q1⟩=>a0 (hb pins s1 σ H1 _ I1 q1) fun u s2 ⟨y,H2,I2,r2,q2⟩=>
  a0 (ho pins s2 σ H2 x y v u _ I2 r1 r2 q2) fun c s3 ⟨z,H3,I3,r3,q3⟩=>?_) hm
 cases z with
 |bl k=>
  cases r3;exact mX ⟨H3,I3,q3⟩
 |_=>exact q3.elim
def ql(C:ae)(m:af)(x:V)(H:Hp)(N:Hp->Prop):Prop:=match x with| .ref a=>(match H a with|some (.aP C' dx fs)=>C'=C/\fs.lookup m=none/\N H|_=>False)|_=>False
theorem K7{C:ae}{m:af}{x:V}{H:Hp}{N:Hp->Prop}(h:ql C m x H N):∃a dx fs,x=.ref a/\H a=some (.aP C dx fs)/\fs.lookup m=none/\N H:=by
 unfold ql at h;split at h
 ·split at h
  ·obtain⟨rfl,h2,h3⟩:=h;exact⟨_,_,_,rfl,‹_›,h2,h3⟩
  ·exact h.elim
 ·exact h.elim
def u0(C:ae)(m:af)(sp:Sp)(dvs:List V)(E:XK)(ta:TE)(t:TA):TE:=fun σ H Q=>ta σ H fun x H1=>ql C m x H1 fun H1=>t σ H1 fun vs H2=>sp (x::(vs++dvs)) H2 Q E
theorem O7{X:Cx}{o e:bq}{es:List bq}{m c qual:af}{st:aH}{ps:List af}{sp:Sp}{CX:e8}{k:Nat}{E:XK}{to:TE}{t:TA}{pos apos:cx}{pl:Sem Bool}(he:PE X o to)(D:dB X.K c m qual st ps)(F:dG X.prog X.w X.K X.mg X.base CX k (cj X.K c m) (iN X.K (cj X.K c m)) ps sp)(hr:c6 k X.A)(hx:gs CX X E)(ha:PA X (e::es) t)
(hst:b8 (e::es) X.ah=(false,eval e X.ah)::b8 es X.ah:=by rfl)(hpl:(dU pos (b8 es X.ah)).any (·.1)=false:=by rfl)
(ht:eval (.Call (.Attribute o m apos) (e::es) [] pos) X.ah=(do
   let ov <-eval o X.ah
   standAt apos.atName
   let(f,first) <-holding [ov] (getMethod ov m pl)
   callWith pos f first (dU pos (b8 (e::es) X.ah)) (backToKw pos (jr [] X.ah))):=by rfl):
  PE X (.Call (.Attribute o m apos) (e::es) [] pos) (u0 (ak X.K c) m sp [] E to t):=by
 walk_at "ae";refine yJ (to:=fun σ H Q'=>∃N0:V->Hp->Prop,(∀v H1,N0 v H1->Q' v H1)/\to σ H N0) (fun pins s σ H Q I ⟨N0,k,h⟩=>a0 (he pins s σ H _ I h) fun v s1 ⟨x,H1,I1,r1,q1⟩=>⟨x,H1,I1,r1,k _ _ q1⟩) D F hr hx ha hst hpl ht pins s σ H Q I ⟨_,fun v H1 z=>K7 z,h⟩
def K8(p:L2.St->Hp->Prop)(σ:L2.St)(H:Hp):Prop:=p σ H
theorem qp{p:L2.St->Hp->Prop}{σ:L2.St}{H:Hp}(h:p σ H):K8 p σ H:=h
def zb(t u:TS):TS:=fun D σ H=>t {D with nx:=K8 (u D)} σ H
theorem Dy{X:Cx}{st:aH}{rest:List aH}{t u:TS}(h1:PS X st t)(h2:gQ X rest u):gQ X (st::rest) (zb t u):=uU h1 h2
theorem ig{X:Cx}:cQ X (gy .Sub) (lW fun i j=>.int (i-j)):=fun pins s σ H x y v u Q I rx ry h=>sO pins s σ H x y v u Q I rx ry (qZ h)
theorem iO{X:Cx}:cQ X (fA .Lt) (lW fun i j=>.bl (decide (i<j))):=fun pins s σ H x y v u Q I rx ry h=>zT pins s σ H x y v u Q I rx ry (qZ h)
theorem tY{X:Cx}:cQ X (fA .LtE) (lW fun i j=>.bl (decide (i<=j))):=fun pins s σ H x y v u Q I rx ry h=>Qs pins s σ H x y v u Q I rx ry (qZ h)
theorem kP{X:Cx}:cQ X (fA .Gt) (lW fun i j=>.bl (decide (j<i))):=fun pins s σ H x y v u Q I rx ry h=>vB pins s σ H x y v u Q I rx ry (qZ h)
theorem jF{X:Cx}:cQ X (fA .GtE) (lW fun i j=>.bl (decide (j<=i))):=fun pins s σ H x y v u Q I rx ry h=>Qt pins s σ H x y v u Q I rx ry (qZ h)
def qm(xs:List V)(H:Hp)(Q:VK):Prop:=match xs with|[.ref p]=>(match H p with|some (.ai ys)=>Q (.int ys.length) H|_=>False)|_=>False
theorem Vm{xs:List V}{H:Hp}{Q:VK}(h:qm xs H Q):∃p ys,xs=[.ref p]/\H p=some (.ai ys)/\Q (.int ys.length) H:=by
 unfold qm at h;split at h
 ·split at h
  ·exact⟨_,_,rfl,‹_›,h⟩
  ·exact h.elim
 ·exact h.elim
theorem dD{X:Cx}:fE X (.builtin "len") qm:=fun pins s σ H xs us Q I r h=>wZ pins s σ H xs us Q I r (Vm h)
def qo(K:ax)(f:af)(y x:V)(H:Hp)(N:Hp->Prop):Prop:=match x with| .ref a=>(match H a with|some (.aP C dx fs)=>d8 K C/\cU K C f/\fs.length<1000/\N (aq H a (.aP C dx (aQ f y fs)))|_=>False)|_=>False
def za(K:ax)(ta tv:TE)(f:af):TS:=fun D σ H=>tv σ H fun y H1=>ta σ H1 fun x H2=>qo K f y x H2 fun H3=>D.nx σ H3
theorem i4{K:ax}{f:af}{y:V}{a C dx:ae}{fs:List (af×V)}{H:Hp}{N:Hp->Prop}(e:H a=some (.aP C dx fs))(c:d8 K C)(n:cU K C f)(l:Nat.ble (fs.length+1) 1000=true)(q:N (aq H a (.aP C dx (aQ f y fs)))):qo K f y (.ref a) H N:=by
 unfold qo;dsimp only;rw[e];exact⟨c,n,Nat.le_of_ble_eq_true l,q⟩
theorem Vn{K:ax}{f:af}{y x:V}{H:Hp}{N:Hp->Prop}(h:qo K f y x H N):∃a C dx fs,x=.ref a/\H a=some (.aP C dx fs)/\d8 K C/\cU K C f/\fs.length<1000/\N (aq H a (.aP C dx (aQ f y fs))):=by
 unfold qo at h;split at h
 ·split at h
  ·exact⟨_,_,_,_,rfl,‹_›,h⟩
  ·exact h.elim
 ·exact h.elim
theorem ij{X:Cx}{o value:bq}{f:af}{pos pos':cx}{ta tv:TE}(ha:PE X o ta)(hv:PE X value tv)(hs:swapsWith value (some (.Attribute o f pos')) pos.line X.ah=pure false):PS X (.Assign [.Attribute o f pos'] value pos) (za X.K ta tv f):=by
 walk_at "aq";refine plainObj_wpAny_Assign_Attribute (a0 (hv pins s σ H _ I h) fun u s1 ⟨y,H1,I1,ry,q⟩=>a0 (ha pins s1 σ H1 _ I1 q) fun ov s2 qq=>?_) hs;obtain⟨x,H2,I2,rx,q0⟩:=qq;obtain⟨a,C,dx,fs,ex,ea,c,n,l,q2⟩:=Vn q0;subst ex;obtain rfl:ov=b7 a:=rx;exact zW I2 ea c n l ry fun s3 I3=>⟨σ,_,I3,q2⟩
def sE:V->List V->Hp->VK->Prop:=fun x vs H Q=>match x with| .ref l=>(match vs with|[y]=>(match H l with|some (.ai xs)=>xs.length<bE/\Q .aO (aq H l (.ai (xs++[y])))|_=>False)|_=>False)|_=>False
theorem iP{X:Cx}:qC X "list.append" sE:=fun pins s σ H x xs v us Q I rx rv h=>z8 pins s σ H x xs v us Q I rx rv (by
 unfold sE at h;split at h
 ·split at h
  ·split at h
   ·exact⟨_,_,_,rfl,rfl,‹_›,h⟩
   ·exact h.elim
  ·exact h.elim
 ·exact h.elim)
theorem O8{X:Cx}{o:bq}{m c qual:af}{st:aH}{ps:List af}{sp:Sp}{CX:e8}{k:Nat}{E:XK}{to:TE}{pos apos:cx}{pl:Sem Bool}(he:PE X o to)(D:dB X.K c m qual st ps)(F:dG X.prog X.w X.K X.mg X.base CX k (cj X.K c m) (iN X.K (cj X.K c m)) ps sp)(hr:c6 k X.A)(hx:gs CX X E)
(ht:eval (.Call (.Attribute o m apos) [] [] pos) X.ah=(do
   let ov <-eval o X.ah
   standAt apos.atName
   let(f,first) <-holding [ov] (getMethod ov m pl)
   callWith pos f first (dU pos (b8 [] X.ah)) (backToKw pos (jr [] X.ah))):=by rfl):
  PE X (.Call (.Attribute o m apos) [] [] pos) (u0 (ak X.K c) m sp [] E to iZ):=by
 walk_at "ae";refine Sa (to:=fun σ H Q'=>∃N0:V->Hp->Prop,(∀v H1,N0 v H1->Q' v H1)/\to σ H N0) (fun pins s σ H Q I ⟨N0,k,h⟩=>a0 (he pins s σ H _ I h) fun v s1 ⟨x,H1,I1,r1,q1⟩=>⟨x,H1,I1,r1,k _ _ q1⟩) D F hr hx ht pins s σ H Q I ⟨_,fun v H1 z=>K7 z,h⟩
theorem Pz{K:ax}{f:af}{a C dx:ae}{fs:List (af×V)}{v:V}{H:Hp}{Q:VK}(e:H a=some (.aP C dx fs))(c:d8 K C)(n:cU K C f)(l:fs.lookup f=some v)(q:Q v H):m8 K f (.ref a) H Q:=by
 unfold m8;dsimp only;rw[e];refine⟨c,n,?_⟩;rw[l];exact q
theorem PB{a C dx:ae}{m:af}{fs:List (af×V)}{H:Hp}{N:Hp->Prop}(e:H a=some (.aP C dx fs))(l:fs.lookup m=none)(q:N H):ql C m (.ref a) H N:=by
 unfold ql;dsimp only;rw[e];exact⟨rfl,l,q⟩
theorem PD{p:ae}{i:Int}{xs:List V}{v:V}{H:Hp}{Q:VK}(e:H p=some (.ai xs))(l:cR xs i=some v)(q:Q v H):qj (.ref p) (.int i) H Q:=by
 unfold qj;dsimp only;rw[e];dsimp only;rw[l];exact q
theorem PH{p:ae}{i:Int}{xs:List V}{v:V}{H:Hp}{Q:VK}(e:H p=some (.aj xs))(l:cR xs i=some v)(q:Q v H):qk (.ref p) (.int i) H Q:=by
 unfold qk;dsimp only;rw[e];dsimp only;rw[l];exact q
theorem PJ{p:ae}{xs:List V}{H:Hp}{Q:VK}(e:H p=some (.ai xs))(q:Q (.int xs.length) H):qm [.ref p] H Q:=by
 unfold qm;dsimp only;rw[e];exact q
theorem Ps{v:V}{σ:L2.St}{H:Hp}{Q:VK}:oV 0 (some v::σ) H Q=Q v H:=rfl
theorem Pt{i:Nat}{x:Option V}{σ:L2.St}{H:Hp}{Q:VK}:oV (i+1) (x::σ) H Q=oV i σ H Q:=rfl
theorem mC{a:V}{l:List V}:kq (some:V->Option V) (a::l)=some a::kq some l:=rfl
theorem mN:kq (some:V->Option V) []=[]:=rfl
theorem aC{α:Type}{a:α}{l m:List α}:(a::l)++m=a::(l++m):=rfl
theorem aN{α:Type}{m:List α}:[]++m=m:=rfl
theorem sZ{α:Type}{a b:α}{m:List α}:(a::m).set 0 b=b::m:=rfl
theorem sS{α:Type}{a b:α}{m:List α}{n:Nat}:(a::m).set (n+1) b=a::m.set n b:=rfl
theorem Pu{α:Type}{a:α}{l:List α}:(a::l).length=l.length+1:=rfl
theorem Pw{α:Type}:([]:List α).length=0:=rfl
theorem Px{α:Type}{a:α}:dN 0 a=[]:=rfl
theorem Py{α:Type}{a:α}{n:Nat}:dN (n+1) a=a::dN n a:=rfl
theorem PF{l:ae}{y:V}{xs:List V}{H:Hp}{Q:VK}(e:H l=some (.ai (y::xs).reverse))(q:Q y (aq H l (.ai xs.reverse))):yY (.ref l) [] H Q:=⟨l,_,y,rfl,rfl,e,DD y xs,by rw[DE];exact q⟩
theorem DG(g:G)(M:aY):(dy g M).lookup ("stack":af)=some (.ref g.au):=rfl
theorem Pl(g:G)(M:aY):(dy g M).lookup ("words":af)=some (.ref g.fY):=rfl
theorem zc(g:G)(M:aY):(dy g M).lookup ("pile":af)=some (.ref g.bB):=rfl
theorem ze(g:G)(M:aY):(dy g M).lookup ("opened":af)=some (.ref g.dC):=rfl
theorem Pn(g:G)(M:aY):(dy g M).lookup ("store":af)=some (.ref g.aZ):=rfl
theorem Po(g:G)(M:aY):(dy g M).lookup ("tokens_run":af)=some (.int M.code):=rfl
theorem Pp(g:G)(M:aY):(dy g M).lookup ("most":af)=some (.int g.most):=rfl
theorem DH(g:G)(M:aY):(dy g M).lookup ("said":af)=some (.ref g.sd):=rfl
theorem DI(g:G)(M:aY):(dy g M).lookup ("said_in_all":af)=some (.int M.said.length):=rfl
theorem Pq(g:G)(M:aY):(dy g M).lookup ("push":af)=none/\(dy g M).lookup ("check_room":af)=none/\(dy g M).lookup ("check_frame_room":af)=none/\(dy g M).lookup ("put_frame":af)=none/\(dy g M).lookup ("look_up":af)=none/\(dy g M).lookup ("do_word":af)=none/\(dy g M).lookup ("say":af)=none/\(dy g M).lookup ("start":af)=none/\(dy g M).lookup ("go_on":af)=none/\(dy g M).lookup ("run":af)=none:=
 ⟨rfl,rfl,rfl,rfl,rfl,rfl,rfl,rfl,rfl,rfl⟩
inductive eg:aB->Prop where
 |int {n:Int}: -2147483648<=n->n<2147483648->eg (.int n)
 |lit {n:bO}:n.length<=31->eg (.lit n)
 |word {n:bO}:n.length<=31->eg (.word n)
 |proc {b:List aB}:(∀v∈b,eg v)->eg (.proc b)
def cH(h:b9)(n:Nat):aB->Prop
 | .int z=> -2147483648<=z/\z<2147483648
 | .lit x=>x.length<=31
 | .arr k=>k<h.arrays.length
 | .table k=>k<h.tables.length
 | .state k=>k<n
 | .proc b=>∀v∈b,eg v
 | .word _=>False
 |_=>True
structure BF(h:b9):Prop where
 aR:uK h
 arr:∀l∈h.arrays,∀v∈l,cH h 0 v
 pN:∀t∈h.tables,∀e∈t,cH h 0 e.2
 qF:∀t∈h.tables,(t.map (·.1)).Nodup
def eF(h h':b9):Prop:=h.arrays.length<=h'.arrays.length/\∀k<h.arrays.length,(h'.arrays.getD k []).length=(h.arrays.getD k []).length
def rb(h:b9):cZ->Prop
 | .code l=>∀v∈l,eg v
 | .times n b=>n<2147483648/\∀v∈b,eg v
 | .again b=>∀v∈b,eg v
 | .count x y z b=>(-2147483648<=y/\y<2147483648/\y≠0)/\(-2147483648<=z/\z<2147483648)/\(0<y-> -2147483648<=x/\x<4294967296)/\(y<0->x<2147483648/\ -4294967297<x)/\∀v∈b,eg v
 | .each k i b=>k<h.arrays.length/\i<=(h.arrays.getD k []).length/\∀v∈b,eg v
structure Wf(M:aY):Prop where
 aR:Sz07.Fine M
 au:∀v∈M.stack,cH M.heap M.kept.length v
 heap:BF M.heap
 kept:∀h∈M.kept,BF h
 bB:∀f∈M.frames,rb M.heap f
 pre:(M.kept++[M.heap]).Pairwise eF
def we(K:ax)(n f:af):Key×V:=(cX n,V.ref (ak K f))
def bc(K:ax):List (Key×V):=[we K "pop" "do_pop",we K "exch" "do_exch",we K "dup" "do_dup",we K "copy" "do_copy",we K "index" "do_index",we K "roll" "do_roll",we K "clear" "do_clear",we K "count" "do_count",we K "mark" "do_mark",we K "[" "do_mark",we K "cleartomark" "do_cleartomark",we K "counttomark" "do_counttomark",we K "]" "do_close_bracket",we K "=" "do_say",we K "add" "do_add",we K "sub" "do_sub",we K "mul" "do_mul",we K "idiv" "do_idiv",we K "mod" "do_mod",we K "neg" "do_neg",we K "lt" "do_lt",we K "le" "do_le",we K "gt" "do_gt",we K "ge" "do_ge",we K "eq" "do_eq",we K "and" "do_and",we K "or" "do_or",we K "xor" "do_xor",we K "not" "do_not",we K "true" "do_true",we K "false" "do_false",we K "exec" "do_exec",we K "if" "do_if",we K "ifelse" "do_ifelse",we K "repeat" "do_repeat",we K "loop" "do_loop",we K "for" "do_for",we K "forall" "do_forall",we K "exit" "do_exit",we K "def" "do_def",we K "load" "do_load",we K "table" "do_table",we K "begin" "do_begin",we K "end" "do_end",we K "known" "do_known",we K "array" "do_array",we K "length" "do_length",we K "get" "do_get",we K "put" "do_put",we K "keep" "do_keep",we K "back" "do_back"]
def aI(K:ax)(m:ae)(g:G)(H:Hp)(Q:VK)(E:XK):cD->Prop
 | .ok M'=>∀H' g',MI K (bc K) m g' M' H'->Fr (aK m g) H (aK m g') H'->Q .aO H'
 | .error e=>Er E e H
inductive K9(K:ax)(f:aY->cD)(vs:List V)(H:Hp)(Q:VK)(E:XK):Prop
 |mk:∀m g M,(vs=[.ref m])->(MI K (bc K) m g M H)->(Wf M)->(aI K m g H Q E (f M))->K9 K f vs H Q E
def cO(K:ax)(f:aY->cD):Sp:=fun vs H Q E=>K9 K f vs H Q E
theorem eM{t:aB}(h:ba t="number"):∃n,t=.int n:=by
 cases t with
 |int n=>exact⟨n,rfl⟩
 |truth n=>exact absurd (show("truth":af)="number" from h) (by decide)
 |lit n=>exact absurd (show("name":af)="number" from h) (by decide)
 |mark=>exact absurd (show("mark":af)="number" from h) (by decide)
 |arr n=>exact absurd (show("array":af)="number" from h) (by decide)
 |table n=>exact absurd (show("table":af)="number" from h) (by decide)
 |state n=>exact absurd (show("state":af)="number" from h) (by decide)
 |proc n=>exact absurd (show("procedure":af)="number" from h) (by decide)
 |word n=>exact absurd (show("word":af)="number" from h) (by decide)
theorem mH{t:aB}(h:ba t="truth"):∃n,t=.truth n:=by
 cases t with
 |int n=>exact absurd (show("number":af)="truth" from h) (by decide)
 |truth n=>exact⟨n,rfl⟩
 |lit n=>exact absurd (show("name":af)="truth" from h) (by decide)
 |mark=>exact absurd (show("mark":af)="truth" from h) (by decide)
 |arr n=>exact absurd (show("array":af)="truth" from h) (by decide)
 |table n=>exact absurd (show("table":af)="truth" from h) (by decide)
 |state n=>exact absurd (show("state":af)="truth" from h) (by decide)
 |proc n=>exact absurd (show("procedure":af)="truth" from h) (by decide)
 |word n=>exact absurd (show("word":af)="truth" from h) (by decide)
theorem re{t:aB}(h:ba t="name"):∃n,t=.lit n:=by
 cases t with
 |int n=>exact absurd (show("number":af)="name" from h) (by decide)
 |truth n=>exact absurd (show("truth":af)="name" from h) (by decide)
 |lit n=>exact⟨n,rfl⟩
 |mark=>exact absurd (show("mark":af)="name" from h) (by decide)
 |arr n=>exact absurd (show("array":af)="name" from h) (by decide)
 |table n=>exact absurd (show("table":af)="name" from h) (by decide)
 |state n=>exact absurd (show("state":af)="name" from h) (by decide)
 |proc n=>exact absurd (show("procedure":af)="name" from h) (by decide)
 |word n=>exact absurd (show("word":af)="name" from h) (by decide)
theorem La{t:aB}(h:ba t="mark"):t=.mark:=by
 cases t with
 |int n=>exact absurd (show("number":af)="mark" from h) (by decide)
 |truth n=>exact absurd (show("truth":af)="mark" from h) (by decide)
 |lit n=>exact absurd (show("name":af)="mark" from h) (by decide)
 |mark=>exact rfl
 |arr n=>exact absurd (show("array":af)="mark" from h) (by decide)
 |table n=>exact absurd (show("table":af)="mark" from h) (by decide)
 |state n=>exact absurd (show("state":af)="mark" from h) (by decide)
 |proc n=>exact absurd (show("procedure":af)="mark" from h) (by decide)
 |word n=>exact absurd (show("word":af)="mark" from h) (by decide)
theorem w8{t:aB}(h:ba t="array"):∃n,t=.arr n:=by
 cases t with
 |int n=>exact absurd (show("number":af)="array" from h) (by decide)
 |truth n=>exact absurd (show("truth":af)="array" from h) (by decide)
 |lit n=>exact absurd (show("name":af)="array" from h) (by decide)
 |mark=>exact absurd (show("mark":af)="array" from h) (by decide)
 |arr n=>exact⟨n,rfl⟩
 |table n=>exact absurd (show("table":af)="array" from h) (by decide)
 |state n=>exact absurd (show("state":af)="array" from h) (by decide)
 |proc n=>exact absurd (show("procedure":af)="array" from h) (by decide)
 |word n=>exact absurd (show("word":af)="array" from h) (by decide)
theorem tZ{t:aB}(h:ba t="table"):∃n,t=.table n:=by
 cases t with
 |int n=>exact absurd (show("number":af)="table" from h) (by decide)
 |truth n=>exact absurd (show("truth":af)="table" from h) (by decide)
 |lit n=>exact absurd (show("name":af)="table" from h) (by decide)
 |mark=>exact absurd (show("mark":af)="table" from h) (by decide)
 |arr n=>exact absurd (show("array":af)="table" from h) (by decide)
 |table n=>exact⟨n,rfl⟩
 |state n=>exact absurd (show("state":af)="table" from h) (by decide)
 |proc n=>exact absurd (show("procedure":af)="table" from h) (by decide)
 |word n=>exact absurd (show("word":af)="table" from h) (by decide)
theorem w9{t:aB}(h:ba t="state"):∃n,t=.state n:=by
 cases t with
 |int n=>exact absurd (show("number":af)="state" from h) (by decide)
 |truth n=>exact absurd (show("truth":af)="state" from h) (by decide)
 |lit n=>exact absurd (show("name":af)="state" from h) (by decide)
 |mark=>exact absurd (show("mark":af)="state" from h) (by decide)
 |arr n=>exact absurd (show("array":af)="state" from h) (by decide)
 |table n=>exact absurd (show("table":af)="state" from h) (by decide)
 |state n=>exact⟨n,rfl⟩
 |proc n=>exact absurd (show("procedure":af)="state" from h) (by decide)
 |word n=>exact absurd (show("word":af)="state" from h) (by decide)
theorem kQ{t:aB}(h:ba t="procedure"):∃n,t=.proc n:=by
 cases t with
 |int n=>exact absurd (show("number":af)="procedure" from h) (by decide)
 |truth n=>exact absurd (show("truth":af)="procedure" from h) (by decide)
 |lit n=>exact absurd (show("name":af)="procedure" from h) (by decide)
 |mark=>exact absurd (show("mark":af)="procedure" from h) (by decide)
 |arr n=>exact absurd (show("array":af)="procedure" from h) (by decide)
 |table n=>exact absurd (show("table":af)="procedure" from h) (by decide)
 |state n=>exact absurd (show("state":af)="procedure" from h) (by decide)
 |proc n=>exact⟨n,rfl⟩
 |word n=>exact absurd (show("word":af)="procedure" from h) (by decide)
theorem Vo{t:aB}(h:ba t="word"):∃n,t=.word n:=by
 cases t with
 |int n=>exact absurd (show("number":af)="word" from h) (by decide)
 |truth n=>exact absurd (show("truth":af)="word" from h) (by decide)
 |lit n=>exact absurd (show("name":af)="word" from h) (by decide)
 |mark=>exact absurd (show("mark":af)="word" from h) (by decide)
 |arr n=>exact absurd (show("array":af)="word" from h) (by decide)
 |table n=>exact absurd (show("table":af)="word" from h) (by decide)
 |state n=>exact absurd (show("state":af)="word" from h) (by decide)
 |proc n=>exact absurd (show("procedure":af)="word" from h) (by decide)
 |word n=>exact⟨n,rfl⟩
inductive BG(H:Hp)(v:V)(l:List V):Prop
 |mk:∀a,v=.ref a->H a=some (.aj l)->BG H v l
inductive Lb(H:Hp)(v:V)(k:af):Prop
 |mk:∀a x,v=.ref a->H a=some (.aj [.str k,x])->Lb H v k
theorem bF.int{H:Hp}{aF:List Int}{n:Int}{v:V}(h:bF H aF (.int n) v):BG H v [.str "number",.int n]:=by
 obtain⟨a,x,h1,h2,h3⟩:=h;rw[bU]at h3;subst h3;exact⟨a,h1,h2⟩
theorem bF.aj{H:Hp}{aF:List Int}{t:aB}{v:V}(h:bF H aF t v):Lb H v (ba t):=let⟨a,x,h1,h2,_⟩:=h;⟨a,x,h1,h2⟩
theorem iC{H:Hp}{aF:List Int}{n:Int}{a:ae}(h:H a=some (.aj [.str "number",.int n])):bF H aF (.int n) (.ref a):=⟨a,.int n,rfl,h,by rw[bU]⟩
theorem j8{H:Hp}{aF:List Int}{n:Bool}{a:ae}(h:H a=some (.aj [.str "truth",.bl n])):bF H aF (.truth n) (.ref a):=⟨a,.bl n,rfl,h,by rw[bU]⟩
theorem pO(T:Txt K)(M:MG K mg):ZM 2 "NoText" "__init__" ["self"] (kH (ak K "NoText") (-1)):=
 oh (n:=1) T M T.nO T.nV SS fun cdv A bp s H E hr=>cg (aE (kG rfl (M.val _ _ T.mw) T.nY (og T) hr T.mj.bd .nil fT (Zy (pv 0) (fq iw aS))))
theorem ou(T:Txt K)(M:MG K mg):ZM 2 "WrongKind" "__init__" ["self"] (kH (ak K "WrongKind") (-4)):=
 oh (n:=4) T M T.mn T.mx SV fun cdv A bp s H E hr=>cg (aE (kG rfl (M.val _ _ T.mw) T.nY (og T) hr T.mj.bd .nil fT (Zy (pv 0) (fq iw aS))))
theorem rf(T:Txt K)(M:MG K mg):ZM 2 "WrongNumber" "__init__" ["self"] (kH (ak K "WrongNumber") (-5)):=
 oh (n:=5) T M T.pD T.pI SX fun cdv A bp s H E hr=>cg (aE (kG rfl (M.val _ _ T.mw) T.nY (og T) hr T.mj.bd .nil fT (Zy (pv 0) (fq iw aS))))
theorem BH(T:Txt K)(M:MG K mg):ZM 2 "NoSuchName" "__init__" ["self"] (kH (ak K "NoSuchName") (-6)):=
 oh (n:=6) T M T.ww T.wG SY fun cdv A bp s H E hr=>cg (aE (kG rfl (M.val _ _ T.mw) T.nY (og T) hr T.mj.bd .nil fT (Zy (pv 0) (fq iw aS))))
theorem lF(T:Txt K)(M:MG K mg):ZM 2 "TooMany" "__init__" ["self"] (kH (ak K "TooMany") (-7)):=
 oh (n:=7) T M T.kK T.kM S0 fun cdv A bp s H E hr=>cg (aE (kG rfl (M.val _ _ T.mw) T.nY (og T) hr T.mj.bd .nil fT (Zy (pv 0) (fq iw aS))))
theorem Vp(T:Txt K)(M:MG K mg):ZM 2 "NoLoop" "__init__" ["self"] (kH (ak K "NoLoop") (-8)):=
 oh (n:=8) T M T.Iu T.Kj S3 fun cdv A bp s H E hr=>cg (aE (kG rfl (M.val _ _ T.mw) T.nY (og T) hr T.mj.bd .nil fT (Zy (pv 0) (fq iw aS))))
theorem Lc(T:Txt K)(M:MG K mg):ZM 2 "NoWayBack" "__init__" ["self"] (kH (ak K "NoWayBack") (-9)):=
 oh (n:=9) T M T.A6 T.Br S4 fun cdv A bp s H E hr=>cg (aE (kG rfl (M.val _ _ T.mw) T.nY (og T) hr T.mj.bd .nil fT (Zy (pv 0) (fq iw aS))))
theorem Ph(a b:af):qx (.str a) (.str b)=true:=rfl
theorem Pj(a b:Int):qx (.int a) (.int b)=true:=rfl
theorem Pk(a b:Bool):qx (.bl a) (.bl b)=true:=rfl
def Vq:Sp:=fun vs H Q _=>∃n,vs=[.int n]/\Q (.int (eB n)) H
def ik:List aB->Option Int
 | .int _::.int _::_=>none
 |_::_::_=>some (-4)
 |_=>some (-3)
theorem xa(t:aB):ik [t]=some (-3):=by cases t<;>rfl
theorem t5{t u:aB}{s:List aB}(h:¬(ba t="number"/\ba u="number")):ik (t::u::s)=some (-4):=by
 cases t<;>cases u<;>first|rfl|exact absurd ⟨rfl,rfl⟩ h
def cu(Q:VK)(E:XK)(H:Hp):Option Int->Prop
 |none=>Q .aO H
 |some e=>Er E e H
inductive Ld(vs:List V)(H:Hp)(Q:VK)(E:XK):Prop
 |mk:∀p l s aF,(vs=[.ref p])->(H p=some (.ai (kZ l)))->(aX (bF H aF) s l)->(cu Q E H (ik s))->Ld vs H Q E
def Vr:Sp:=fun vs H Q E=>Ld vs H Q E
def bD(n:String)(M:aY):cD:=(yn n M).getD (.error 0)
theorem du{M:aY}{s:List aB}(h:s.length<=256):M.with_ s=.ok {M with stack:=s}:=by unfold OP;rw[if_neg (by show ¬256<s.length;lia)]
theorem xb{M:aY}{s:List aB}(h:256<s.length):M.with_ s=.error (-7):=by unfold OP;exact if_pos (show Sz07.STACK<s.length from h)
inductive Le{α β:Type}(R:α->β->Prop)(a:α)(l:List α)(r:List β):Prop
 |mk:∀b r',r=b::r'->R a b->aX R l r'->Le R a l r
theorem aX.bW{α β:Type}{R:α->β->Prop}{a:α}{l:List α}{r:List β}(h:aX R (a::l) r):Le R a l r:=by
 cases h with|cons h t=>exact⟨_,_,rfl,h,t⟩
theorem mI{M:aY}{e:Int}(f:Int->Int->Except Int aB)(h:ik M.stack=some e):f6 M f=.error e:=by
 unfold f6;cases es:M.stack with
 |nil=>rw[es]at h;cases h;rfl
 |cons t r=>
  rw[es]at h;cases r with
  |nil=>rw[xa]at h;cases h;cases t<;>rfl
  |cons u r=>
   by_cases c:ba t="number"/\ba u="number"
   ·obtain⟨n1,rfl⟩:=eM c.1;obtain⟨n2,rfl⟩:=eM c.2;cases h
   ·rw[t5 c]at h;cases h;cases t<;>first|rfl|(cases u<;>first|rfl|exact absurd ⟨rfl,rfl⟩ c)
theorem Lf{s:List aB}(h:ik s=none):∃b a r,s=.int b::.int a::r:=by
 cases s with
 |nil=>cases h
 |cons t r=>
  cases r with
  |nil=>rw[xa]at h;cases h
  |cons u r=>
   by_cases c:ba t="number"/\ba u="number"
   ·obtain⟨n1,rfl⟩:=eM c.1;obtain⟨n2,rfl⟩:=eM c.2;exact⟨n1,n2,r,rfl⟩
   ·rw[t5 c]at h;cases h
section
variable{K:ax}{m:ae}{g:G}{M:aY}{H H1 H':Hp}{Q:VK}{E:XK}
inductive Lg(g:G)(M:aY)(H:Hp):Prop
 |mk:∀b a r a1 a2 l2,(M.stack=.int b::.int a::r)->(g.l=.ref a1::.ref a2::l2)->(H a1=some (.aj [.str "number",.int b]))->(H a2=some (.aj [.str "number",.int a]))->(aX (bF H g.aF) r l2)->(H g.au=some (.ai (V.ref a1::V.ref a2::l2).reverse))->Lg g M H
theorem mJ(I:MI K (bc K) m g M H)(e:ik M.stack=none):Lg g M H:=by
 obtain⟨b,a,r,es⟩:=Lf e;have hV:=I.bh;have hs:=I.au;rw[es]at hV;obtain⟨v1,l1,el,h1,h2⟩:=hV.bW;obtain⟨v2,l2,rfl,h3,h4⟩:=h2.bW;obtain⟨a1,rfl,e1⟩:=h1.int;obtain⟨a2,rfl,e2⟩:=h3.int;rw[el]at hs;exact⟨b,a,r,a1,a2,l2,es,el,e1,e2,h4,hs⟩
theorem aI.au(I:MI K (bc K) m g M H){s':List aB}{l':List V}(q:aI K m g H Q E (.ok {M with stack:=s'}))(k:L2.aL H H1)(b:bJ g.au H1 H')(h1:H' g.au=some (.ai l'.reverse))(h2:cq H1 H'->aX (bF H' g.aF) s' l'):Q .aO H':=by
 have bb:bJ g.au H H':=fun c o n e=>b c o n (k c o e);have J:=I.same k;have tk:cq H1 H':=b.aj J.au fun _ z=>by cases z
 have J2:=I.pL bb h1 (h2 tk);exact q H' _ J2 (Fr.dY bb (by simp[aK,bu]) (by have e:=I.mo J2;exact e))
end
inductive Lh(vs:List V)(H:Hp)(Q:VK)(E:XK):Prop
 |mk:∀p l n z,(vs=[.ref p,.int n,.int z])->(H p=some (.ai (kZ l)))->(n<=l.length)->(l.length<1000)->(∀a H1 H',H a=none->L2.aL H H1->H1 a=some (.aj [.str "number",.int (eB z)])->bJ p H1 H'->H' p=some (.ai (.ref a::l.drop n.toNat).reverse)->Q .aO H')->Lh vs H Q E
def BI:Sp:=fun vs H Q E=>Lh vs H Q E
inductive Li(K:ax)(vs:List V)(H:Hp)(Q:VK)(E:XK):Prop
 |mk:∀m g M t v,(vs=[.ref m,v])->(MI K (bc K) m g M H)->(bF H g.aF t v)->(M.stack.length<=256)->(aI K m g H Q E (M.with_ (t::M.stack)))->Li K vs H Q E
def Vs(K:ax):Sp:=fun vs H Q E=>Li K vs H Q E
theorem Vt(T:Txt K)(M:MG K mg):ZF 1 "wrapped" ["number"] Vq:=by
 refine ZB T.Iw S6
 ·obtain⟨n,rfl,_⟩:=h;rfl
 ·obtain⟨n,rfl,q⟩:=h;refine⟨_,(cg (dh (cT ig (cT zR (cT mG (pw 0) (a8 M T.wL)) (a8 M T.Uy)) (a8 M T.wL)))),?_⟩;left;refine⟨by decide,?_⟩;exact q
theorem ox(T:Txt K)(M:MG K mg):ZF 5 "want_two_numbers" ["stack"] Vr:=by
 refine ZB T.mr TD
 ·obtain⟨p,l,s',aF,rfl,_⟩:=h;rfl
 ·obtain⟨p,l,s',aF,rfl,hp,hs,q⟩:=h;refine⟨_,(Zq (aE (Zf T.kL T.jZ kO (pw 0) aS)) (Zz (PW.pt (vi (Zc pc (Zi (Zn (pw 0))) (a8 M T.fO)) (vh (Zc pc (Zi (Zn (pw 0))) (a8 M T.fO))))) (Zr T.mx T.nX ou T.mn T.nW))),?_⟩;left;refine⟨p,l.reverse,2,rfl,hp,?_⟩;cases hs with
  |nil=>rw[if_pos (by simp)];exact q
  |@cons t1 v1 s1 l1 h1 t1'=>
   cases t1' with
   |nil=>rw[xa]at q;rw[if_pos (by simp)];exact q
   |@cons t2 v2 s2 l2 h2 t2'=>
    rw[if_neg (by simp only[bN,aA];lia)];right;obtain⟨a1,x1,rfl,e1⟩:=h1.aj;obtain⟨a2,x2,rfl,e2⟩:=h2.aj;by_cases c2:ba t2="number"
    ·by_cases c1:ba t1="number"
     ·obtain⟨n1,rfl⟩:=eM c1;obtain⟨n2,rfl⟩:=eM c2;left;exact q
     ·rw[t5 (fun z=>c1 z.1)]at q;left;exact q
    ·rw[t5 (fun z=>c2 z.2)]at q;left;exact q
theorem rg(T:Txt K)(M:MG K mg):ZF 3 "put_number" ["stack","how_many","number"] BI:=by
 refine ZB T.pF TF
 ·obtain⟨p,l,n,z,rfl,_⟩:=h;rfl
 ·obtain⟨p,l,n,z,rfl,hp,hn,hz,q⟩:=h;refine⟨_,(cg (aE (Zf T.hU T.gF ic (pw 0) (pw 1) (Zt (a8 M T.fO) (Zf T.T9 T.Iw Vt (pw 2)))))),?_⟩;left;refine⟨z,rfl,by decide,fun a ha=>⟨p,l,n,.ref a,rfl,?_,hn,hz,fun H' hb hp'=>?_⟩⟩
  ·rw[aJ (bw hp ha)];exact hp
  ·exact q a _ H' ha (bA ha) az hb hp'
theorem lG(T:Txt K)(M:MG K mg):ZM 4 "Machine" "push" ["self","thing"] (Vs K):=by
 refine ZB T.jd.df GH
 ·obtain⟨m,g,M0,t,v,rfl,_⟩:=h;rfl
 ·obtain⟨m,g,M0,t,v,rfl,I,ht,hz,q⟩:=h;refine⟨_,(Zq (Zz (Zc jF (Zl dD (Zd 0)) (a8 M T.Bt)) (Zr T.kM T.lw lF T.kK T.lv)) (aE (Za iP (Zd 0) (pw 1)))),?_⟩;walk_at "at";have ha:=T.gA;have hs:=I.au;have ty:=dc (K:=K) hs;have hl:g.l.length=M0.stack.length:=I.bh.length.symm;left;rw[bN];by_cases c:256<=M0.stack.length
  ·rw[xb (by rw[aA];omega)]at q;rw[if_pos (by omega)];right;exact q
  ·rw[du (by rw[aA];omega)]at q;rw[if_neg (by omega)];right;refine⟨by rw[bR,bN];omega,?_⟩;exact aI.au I (l':=v::g.l) q (fun _ _ h=>h) bM (by rw[az,kn]) fun tk=>.cons (ht.keep tk) (aM I.bh tk)
theorem Vu(T:Txt K)(M:MG K mg):ZF 5 "do_pop" ["machine"] (cO K (bD "pop")):=by
 refine ZC T.JG TM
 ·nofun;refine⟨_,(Zq (aE (Zf T.kL T.jZ kO (Zd 0) aS)) (aE (iA gk ju jw jb (Zd 0)))),?_⟩;walk_at "ab";refine⟨g.au,g.l.reverse,1,rfl,hs,?_⟩;have q':aI K m g H Q E (match M0.stack with|_::r=>M0.with_ r|_=>.error cE):=q;have hV:=I.bh;cases e:M0.stack with
  |nil=>rw[e]at q' hl;rw[if_pos (by rw[bN,hl];decide)];exact q'
  |cons t r=>
   rw[e]at q' hV hz hl;obtain⟨v,l',el,h1,h2⟩:=hV.bW;have q2:aI K m g H Q E (M0.with_ r):=q';rw[du (by rw[aA]at hz;exact rQ hz)]at q2;rw[if_neg (by rw[bN,hl,aA];lia)];right;rw[el]at hs;clear q q' hl;left;exact aI.au I q2 (fun _ _ h=>h) bM az fun tk=>aM h2 tk
theorem Vv(T:Txt K)(M:MG K mg):ZF 5 "do_dup" ["machine"] (cO K (bD "dup")):=by
 refine ZC T.JI TN
 ·nofun;refine⟨_,(Zq (aE (Zf T.kL T.jZ kO (Zd 0) aS)) (aE (Zv (pw 0) T.jd lG (Zn (Zd 0))))),?_⟩;walk_at "ab";refine⟨g.au,g.l.reverse,1,rfl,hs,?_⟩;have q':aI K m g H Q E (match M0.stack with|a::r=>M0.with_ (a::a::r)|_=>.error cE):=q;have hV:=I.bh;cases e:M0.stack with
  |nil=>rw[e]at q' hl;rw[if_pos (by rw[bN,hl];decide)];exact q'
  |cons t r=>
   rw[e]at q' hV hl;obtain⟨v,l',el,h1,h2⟩:=hV.bW;rw[if_neg (by rw[bN,hl,aA];lia)];right;have hs0:=hs;rw[el]at hs;clear q hl;left;refine⟨m,g,M0,t,v,rfl,I,h1,hz,?_⟩;rw[e];exact q'
theorem Vw(T:Txt K)(M:MG K mg):ZF 6 "do_add" ["machine"] (cO K (bD "add")):=by
 refine ZC T.Jo G9
 ·nofun;refine⟨_,(Zq (Zs 1 G9 (Zd 0)) (aE (Zf T.nU T.mr ox (pw 1))) (aE (Zf T.qS T.pF rg (pw 1) aS (cT mG (Zi (Zn (pw 1))) (Zi (Zn (pw 1))))))),?_⟩;walk_at "ab";walk_at "ah";cases e:ik M0.stack with
  |some z=>rw[show bD "add" M0=_ from mI _ e]at q;exact q
  |none=>
   walk_at "ak";have q2:aI K m g H Q E (M0.with_ (.int (eB (a+b))::r)):=by
    have:bD "add" M0=M0.with_ (.int (eB (a+b))::r):=by
     show f6 M0 (Sz07.whole fun a b=>a+b)=_;unfold f6;rw[es];rfl
    rw[this]at q;exact q
   rw[es]at hz hl;walk_at "ag";have hv:=W.au;rw[es]at hv;have va:cH M0.heap M0.kept.length (.int a):=hv _ (by simp);have vb:cH M0.heap M0.kept.length (.int b):=hv _ (by simp);walk_at "ad";unfold cH at va vb;clear q hs;show cu _ _ _ none;unfold cu;left;refine⟨g.au,V.ref a1::V.ref a2::l2,2,a+b,rfl,hs',by simp only[aA];lia,by simp only[aA];lia,fun x H1 H' hx k ex bb hp'=>?_⟩;exact aI.au I q2 k bb hp' fun tk=>.cons (iC (tk _ _ ex)) (aM (aM h4 (SW.aL.aj k)) tk)
theorem Vx(T:Txt K)(M:MG K mg):ZF 6 "do_sub" ["machine"] (cO K (bD "sub")):=by
 refine ZC T.Jp Hb
 ·nofun;refine⟨_,(Zq (Zs 1 Hb (Zd 0)) (aE (Zf T.nU T.mr ox (pw 1))) (aE (Zf T.qS T.pF rg (pw 1) aS (cT ig (Zi (Zn (pw 1))) (Zi (Zn (pw 1))))))),?_⟩;walk_at "ab";walk_at "ah";cases e:ik M0.stack with
  |some z=>rw[show bD "sub" M0=_ from mI _ e]at q;exact q
  |none=>
   walk_at "ak";have q2:aI K m g H Q E (M0.with_ (.int (eB (a-b))::r)):=by
    have:bD "sub" M0=M0.with_ (.int (eB (a-b))::r):=by
     show f6 M0 (Sz07.whole fun a b=>a-b)=_;unfold f6;rw[es];rfl
    rw[this]at q;exact q
   rw[es]at hz hl;walk_at "ag";have hv:=W.au;rw[es]at hv;have va:cH M0.heap M0.kept.length (.int a):=hv _ (by simp);have vb:cH M0.heap M0.kept.length (.int b):=hv _ (by simp);walk_at "ad";unfold cH at va vb;clear q hs;show cu _ _ _ none;unfold cu;left;refine⟨g.au,V.ref a1::V.ref a2::l2,2,a-b,rfl,hs',by simp only[aA];lia,by simp only[aA];lia,fun x H1 H' hx k ex bb hp'=>?_⟩;exact aI.au I q2 k bb hp' fun tk=>.cons (iC (tk _ _ ex)) (aM (aM h4 (SW.aL.aj k)) tk)
theorem Vy(T:Txt K)(M:MG K mg):ZF 6 "do_mul" ["machine"] (cO K (bD "mul")):=by
 refine ZC T.Jq Hd
 ·nofun;refine⟨_,(Zq (Zs 1 Hd (Zd 0)) (aE (Zf T.nU T.mr ox (pw 1))) (aE (Zf T.qS T.pF rg (pw 1) aS (cT Qn (Zi (Zn (pw 1))) (Zi (Zn (pw 1))))))),?_⟩;walk_at "ab";walk_at "ah";cases e:ik M0.stack with
  |some z=>rw[show bD "mul" M0=_ from mI _ e]at q;exact q
  |none=>
   walk_at "ak";have q2:aI K m g H Q E (M0.with_ (.int (eB (a*b))::r)):=by
    have:bD "mul" M0=M0.with_ (.int (eB (a*b))::r):=by
     show f6 M0 (Sz07.whole fun a b=>a*b)=_;unfold f6;rw[es];rfl
    rw[this]at q;exact q
   rw[es]at hz hl;walk_at "ag";have hv:=W.au;rw[es]at hv;have va:cH M0.heap M0.kept.length (.int a):=hv _ (by simp);have vb:cH M0.heap M0.kept.length (.int b):=hv _ (by simp);walk_at "ad";unfold cH at va vb;clear q hs;show cu _ _ _ none;unfold cu;left;refine⟨.inl ⟨by lia,by lia⟩,?_⟩;refine⟨g.au,V.ref a1::V.ref a2::l2,2,a*b,rfl,hs',by simp only[aA];lia,by simp only[aA];lia,fun x H1 H' hx k ex bb hp'=>?_⟩;exact aI.au I q2 k bb hp' fun tk=>.cons (iC (tk _ _ ex)) (aM (aM h4 (SW.aL.aj k)) tk)
theorem Vz(T:Txt K)(M:MG K mg):ZF 6 "do_lt" ["machine"] (cO K (bD "lt")):=by
 refine ZC T.Jv Hk
 ·nofun;refine⟨_,(Zq (Zs 1 Hk (Zd 0)) (aE (Zf T.nU T.mr ox (pw 1))) (aE (Zf T.hU T.gF ic (pw 1) aS (Zt (a8 M T.jE) (iy iO (Zi (Zn (pw 1))) (Zi (Zn (pw 1))) (gz _)))))),?_⟩;walk_at "ab";walk_at "ah";cases e:ik M0.stack with
  |some z=>rw[show bD "lt" M0=_ from mI _ e]at q;exact q
  |none=>
   walk_at "ak";have q2:aI K m g H Q E (M0.with_ (.truth (decide (a<b))::r)):=by
    have:bD "lt" M0=M0.with_ (.truth (decide (a<b))::r):=by
     show f6 M0 (C1 fun a b=>decide (a<b))=_;unfold f6;rw[es];rfl
    rw[this]at q;exact q
   rw[es]at hz hl;walk_at "ag";walk_at "ad";clear q hs;show cu _ _ _ none;unfold cu;left;refine⟨by decide,fun x hx=>⟨g.au,V.ref a1::V.ref a2::l2,2,V.ref x,rfl,by rw[aJ (bw hs' hx)];exact hs',by simp only[aA];lia,by simp only[aA];lia,fun H' bb hp'=>?_⟩⟩;exact aI.au I q2 (bA hx) bb hp' fun tk=>.cons (j8 (tk _ _ az)) (aM (aM h4 (SW.aL.aj (bA hx))) tk)
theorem VA(T:Txt K)(M:MG K mg):ZF 6 "do_le" ["machine"] (cO K (bD "le")):=by
 refine ZC T.Jw Hm
 ·nofun;refine⟨_,(Zq (Zs 1 Hm (Zd 0)) (aE (Zf T.nU T.mr ox (pw 1))) (aE (Zf T.hU T.gF ic (pw 1) aS (Zt (a8 M T.jE) (iy tY (Zi (Zn (pw 1))) (Zi (Zn (pw 1))) (gz _)))))),?_⟩;walk_at "ab";walk_at "ah";cases e:ik M0.stack with
  |some z=>rw[show bD "le" M0=_ from mI _ e]at q;exact q
  |none=>
   walk_at "ak";have q2:aI K m g H Q E (M0.with_ (.truth (decide (a<=b))::r)):=by
    have:bD "le" M0=M0.with_ (.truth (decide (a<=b))::r):=by
     show f6 M0 (C1 fun a b=>decide (a<=b))=_;unfold f6;rw[es];rfl
    rw[this]at q;exact q
   rw[es]at hz hl;walk_at "ag";walk_at "ad";clear q hs;show cu _ _ _ none;unfold cu;left;refine⟨by decide,fun x hx=>⟨g.au,V.ref a1::V.ref a2::l2,2,V.ref x,rfl,by rw[aJ (bw hs' hx)];exact hs',by simp only[aA];lia,by simp only[aA];lia,fun H' bb hp'=>?_⟩⟩;exact aI.au I q2 (bA hx) bb hp' fun tk=>.cons (j8 (tk _ _ az)) (aM (aM h4 (SW.aL.aj (bA hx))) tk)
theorem VB(T:Txt K)(M:MG K mg):ZF 6 "do_gt" ["machine"] (cO K (bD "gt")):=by
 refine ZC T.Jx Ho
 ·nofun;refine⟨_,(Zq (Zs 1 Ho (Zd 0)) (aE (Zf T.nU T.mr ox (pw 1))) (aE (Zf T.hU T.gF ic (pw 1) aS (Zt (a8 M T.jE) (iy kP (Zi (Zn (pw 1))) (Zi (Zn (pw 1))) (gz _)))))),?_⟩;walk_at "ab";walk_at "ah";cases e:ik M0.stack with
  |some z=>rw[show bD "gt" M0=_ from mI _ e]at q;exact q
  |none=>
   walk_at "ak";have q2:aI K m g H Q E (M0.with_ (.truth (decide (b<a))::r)):=by
    have:bD "gt" M0=M0.with_ (.truth (decide (b<a))::r):=by
     show f6 M0 (C1 fun a b=>decide (b<a))=_;unfold f6;rw[es];rfl
    rw[this]at q;exact q
   rw[es]at hz hl;walk_at "ag";walk_at "ad";clear q hs;show cu _ _ _ none;unfold cu;left;refine⟨by decide,fun x hx=>⟨g.au,V.ref a1::V.ref a2::l2,2,V.ref x,rfl,by rw[aJ (bw hs' hx)];exact hs',by simp only[aA];lia,by simp only[aA];lia,fun H' bb hp'=>?_⟩⟩;exact aI.au I q2 (bA hx) bb hp' fun tk=>.cons (j8 (tk _ _ az)) (aM (aM h4 (SW.aL.aj (bA hx))) tk)
theorem VC(T:Txt K)(M:MG K mg):ZF 6 "do_ge" ["machine"] (cO K (bD "ge")):=by
 refine ZC T.Jy Hr
 ·nofun;refine⟨_,(Zq (Zs 1 Hr (Zd 0)) (aE (Zf T.nU T.mr ox (pw 1))) (aE (Zf T.hU T.gF ic (pw 1) aS (Zt (a8 M T.jE) (iy jF (Zi (Zn (pw 1))) (Zi (Zn (pw 1))) (gz _)))))),?_⟩;walk_at "ab";walk_at "ah";cases e:ik M0.stack with
  |some z=>rw[show bD "ge" M0=_ from mI _ e]at q;exact q
  |none=>
   walk_at "ak";have q2:aI K m g H Q E (M0.with_ (.truth (decide (b<=a))::r)):=by
    have:bD "ge" M0=M0.with_ (.truth (decide (b<=a))::r):=by
     show f6 M0 (C1 fun a b=>decide (b<=a))=_;unfold f6;rw[es];rfl
    rw[this]at q;exact q
   rw[es]at hz hl;walk_at "ag";walk_at "ad";clear q hs;show cu _ _ _ none;unfold cu;left;refine⟨by decide,fun x hx=>⟨g.au,V.ref a1::V.ref a2::l2,2,V.ref x,rfl,by rw[aJ (bw hs' hx)];exact hs',by simp only[aA];lia,by simp only[aA];lia,fun H' bb hp'=>?_⟩⟩;exact aI.au I q2 (bA hx) bb hp' fun tk=>.cons (j8 (tk _ _ az)) (aM (aM h4 (SW.aL.aj (bA hx))) tk)
section
variable{K:ax}{wkv:List (Key×V)}{m:ae}{g:G}{M:aY}{H H':Hp}
theorem MI.Lj(I:MI K wkv m g M H)(b:bJ g.bB H H'){fs':List ae}{fr':List cZ}(h1:H' g.bB=some (.ai (fs'.map V.ref).reverse))(h2:aX (gG K H') fr' fs')(n1:(var {g with fs:=fs'}).Nodup)(n2:∀a∈bu m g,a∉var {g with fs:=fs'}):
  MI K wkv m {g with fs:=fs'} {M with frames:=fr'} H':=by
 have tk:cq H H':=b.aj I.bB fun _ z=>by cases z
 have o:=I.dt (x:=g.bB) (by simp[bu]);have nd:=I.dk;refine⟨b _ _ (bG nd 0 2 rfl rfl (by decide)) I.cy,b _ _ (bG nd 11 2 rfl rfl (by decide)) I.fY,b _ _ (bG nd 1 2 rfl rfl (by decide)) I.au,aM I.bh tk,h1,h2,b _ _ (bG nd 3 2 rfl rfl (by decide)) I.dC,b _ _ (bG nd 5 2 rfl rfl (by decide)) I.sd,?_,fun c hc=>let⟨u,e⟩:=I.ia c hc;⟨u,b c u (fun z=>o.2.1 (z▸hc)) e⟩,I.dk,n1,n2,I.mb⟩;have m1:g.bB∉[g.aZ,g.aG,g.aD,g.bQ,g.bI,g.bz]:=by
  simp only[br,gK,or_false,not_or];exact⟨bG nd 2 4 rfl rfl (by decide),bG nd 2 6 rfl rfl (by decide),bG nd 2 7 rfl rfl (by decide),bG nd 2 8 rfl rfl (by decide),bG nd 2 9 rfl rfl (by decide),bG nd 2 10 rfl rfl (by decide)⟩
 have y:=I.si.dY (m:=m) tk b m1 o.2.1 o.2.2;exact⟨y.aZ,y.aG,y.aD,y.bQ,y.bI,y.bz,y.fu,y.fb,y.jf,y.hZ,y.gx,y.gj,y.fZ,y.eK,y.j6,y.j7,y.iB,y.gX,y.kA,y.kT⟩
theorem MI.Lk(I:MI K wkv m g M H)(b:bJ g.bB H H'){a:ae}{fr:cZ}(hf:gG K H fr a)(na:a∉aK m g)(h1:H' g.bB=some (.ai ((a::g.fs).map V.ref).reverse)):
  MI K wkv m {g with fs:=a::g.fs} {M with frames:=fr::M.frames} H':=by
 have tk:cq H H':=b.aj I.bB fun _ z=>by cases z
 have o:=I.dt (x:=g.bB) (by simp[bu]);have na':a∉bu m g/\a∉var g:=⟨fun z=>na (c7 _ z),fun z=>na (bX _ z)⟩;refine I.Lj b h1 (.cons (hf.keep tk fun u e=>b a u (fun z=>na'.1 (by rw[z];simp[bu])) e) (mF I.eL tk fun c hc u e=>b c u (fun z=>o.1 (z▸hc)) e)) ?_ ?_
 ·show(a::g.fs++_).Nodup;rw[jn];exact eG.mpr ⟨na'.2,I.ib⟩
 ·intro c hc;show c∉a::g.fs++_;rw[jn,br];rintro(z|z)
  ·exact na'.1 (z▸hc)
  ·exact I.dj c hc z
theorem MI.ani(I:MI K wkv m g M H){H1:Hp}(b1:bJ g.bB H H1)(b2:bJ g.au H1 H'){a:ae}{fr:cZ}{l':List V}{s':List aB}(hf:gG K H fr a)(na:a∉aK m g)(h1:H1 g.bB=some (.ai ((a::g.fs).map V.ref).reverse))
(h2:H' g.au=some (.ai l'.reverse))(h3:cq H H'->aX (bF H' g.aF) s' l'):MI K wkv m {g with l:=l',fs:=a::g.fs} {M with stack:=s',frames:=fr::M.frames} H':=by
 have J:=I.Lk b1 hf na h1;have tk1:cq H H1:=b1.aj I.bB fun _ z=>by cases z
 have tk2:cq H1 H':=b2.aj J.au fun _ z=>by cases z
 exact J.pL b2 h2 (h3 fun b xs h=>tk2 b xs (tk1 b xs h))
end
section
variable{K:ax}{m:ae}{g:G}{M:aY}{H H1:Hp}{Q:VK}{E:XK}
def xf(K:ax)(m:ae)(g:G)(M:aY)(n:Nat)(fr:cZ)(a:ae)(H:Hp)(Q:VK)(E:XK):Prop:=
 if 128<=M.frames.length then Er E (-7) H else ∀H',(∀b o,b≠g.bB->b≠g.au->H b=some o->H' b=some o)->MI K (bc K) m {g with l:=g.l.drop n,fs:=a::g.fs} {M with stack:=M.stack.drop n,frames:=fr::M.frames} H'->Q .aO H'
theorem aI.frame(q:aI K m g H Q E (M.frame (M.stack.drop n) fr))(k:L2.aL H H1)(hx:H x=none):xf K m g M n fr x H1 Q E:=by
 unfold xf;unfold C3 at q;by_cases c:128<=M.frames.length
 ·rw[if_pos c];rw[if_pos (show C4<=M.frames.length from c)]at q;exact Er.up q k
 ·rw[if_neg c];rw[if_neg (show ¬C4<=M.frames.length from c)]at q;intro H' hk J;refine q H' _ J ⟨fun b o h n=>hk b o (fun z=>n (by rw[z];simp[aK,bu])) (fun z=>n (by rw[z];simp[aK,bu])) (k b o h),fun b hb=>?_,rfl,fun v h=>?_⟩
  ·have hb':b∈bu m g++(x::g.fs++(g.bx++g.sg.flatMap fun s=>[s.a,s.aG,s.aD])):=hb;rcases cS.mp hb' with z|z
   ·exact .inl (c7 _ z)
   ·rw[jn]at z;rcases br.mp z with z|z
    ·exact .inr (z▸hx)
    ·exact .inl (bX _ z)
  ·rw[tX J];cases e:H m with
   |none=>rw[K1 e]at h;cases h
   |some o=>
    have j:=J.cy;rw[hk m o (bG J.dk 0 2 rfl rfl (by decide)) (bG J.dk 0 1 rfl rfl (by decide)) (k m o e)]at j;cases j;rw[<-h];show _=(match H m with|some (.aP _ _ fs)=>fs.lookup ("most":af)|_=>none);rw[e];rfl
end
theorem PK:(ZN "things" "place")/\(ZN "body" "turns" "number" "stride" "last")/\(ZN "number" "stride" "last")/\(ZN "stride" "last")/\(ZN "body" "array" "place")/\(ZN "array" "place")/\(ZN "number" "arrays" "tables" "held")/\(ZN "arrays" "tables" "held")/\(ZN "tables" "held")/\(ZN "arrays" "states" "states_made" "own_arrays" "own_tables")/\(ZN "tables" "states" "states_made" "own_arrays" "own_tables")/\(ZN "states" "states_made" "held" "own_arrays" "own_tables")/\(ZN "states_made" "held" "own_arrays" "own_tables")/\(ZN "held" "own_arrays" "own_tables")/\(ZN "own_arrays" "own_tables")/\(ZN "words" "stack" "pile" "opened" "store" "tokens_run" "most" "said" "said_in_all")/\(ZN "stack" "pile" "opened" "store" "tokens_run" "most" "said" "said_in_all")/\(ZN "pile" "opened" "store" "tokens_run" "most" "said" "said_in_all")/\(ZN "opened" "store" "tokens_run" "most" "said" "said_in_all")/\(ZN "store" "tokens_run" "most" "said" "said_in_all")/\(ZN "tokens_run" "most" "said" "said_in_all")/\(ZN "most" "said" "said_in_all")/\(ZN "said" "said_in_all"):=by
 (repeat' apply xQ)<;>exact eq_false (by decide)
end SW
namespace SW
open Sz07
theorem cH.cG{h h':b9}{n n':Nat}{v:aB}(x:cH h n v)(h1:h.arrays.length<=h'.arrays.length)(h2:h.tables.length<=h'.tables.length)(h3:n<=n'):cH h' n' v:=by
 cases v with
 |arr k=>exact eO x h1
 |table k=>exact eO x h2
 |state k=>exact eO x h3
 |_=>exact x
theorem eF.refl(h:b9):eF h h:=⟨bY _,fun _ _=>rfl⟩
theorem eF.of{h h':b9}(e:h'.arrays=h.arrays):eF h h':=⟨oH (by rw[e]),fun _ _=>by rw[e]⟩
theorem eF.trans{h h' h2:b9}(a:eF h h')(b:eF h' h2):eF h h2:=⟨dM a.1 b.1,fun k hk=>(b.2 k (eO hk a.1)).trans (a.2 k hk)⟩
theorem eF.app{h:b9}{l:List aB}:eF h {h with arrays:=h.arrays++[l]}:=⟨by show _<=(h.arrays++[l]).length;simp,fun k hk=>by
 show((h.arrays++[l]).getD k []).length=_;rw[gJ,gJ,yb hk]⟩
theorem xg{k:List b9}{h h':b9}(p:(k++[h]).Pairwise eF)(l:eF h h'):(k++[h']).Pairwise eF:=by
 rw[uL]at p ⊢;refine⟨p.1,abB _ _,fun a ha b hb=>?_⟩;rw[eR.mp hb];exact(p.2.2 a ha h (eR.mpr rfl)).trans l
theorem VD{k:List b9}{h:b9}(p:(k++[h]).Pairwise eF):((k++[h])++[h]).Pairwise eF:=by
 rw[uL];refine⟨p,abB _ _,fun a ha b hb=>?_⟩;rw[eR.mp hb];rcases cS.mp ha with z|z
 ·exact(uL.mp p).2.2 a z h (eR.mpr rfl)
 ·rw[eR.mp z];exact eF.refl h
theorem VE{l:List b9}{k:Nat}{h h0:b9}(p:(l++[h0]).Pairwise eF)(e:l[k]? =some h):(l.take k++[h]).Pairwise eF:=by
 obtain⟨hk,eh⟩:=cP.mp e;have:l.take k++[h]=l.take (k+1):=by rw[m3 hk,eh]
 rw[this];exact(uL.mp p).1.sublist (uy _ _)
theorem rb.cG{h h':b9}{f:cZ}(x:rb h f)(h1:eF h h'):rb h' f:=by
 cases f with
 |each k i b=>exact⟨eO x.1 h1.1,by rw[h1.2 k x.1];exact x.2.1,x.2.2⟩
 |_=>exact x
theorem dJ{M M':aY}{s:List aB}(W:Wf M)(hs:∀v∈s,cH M.heap M.kept.length v)(h:M.with_ s=.ok M'):Wf M':=by
 unfold OP at h;split at h
 ·cases h
 ·rename_i c;cases h;exact⟨⟨Nat.le_of_not_lt c,W.aR.frames,W.aR.opens,W.aR.heap,W.aR.kept,W.aR.code⟩,hs,W.heap,W.kept,W.bB,W.pre⟩
theorem j9{M M':aY}{s:List aB}{f:cZ}(W:Wf M)(hs:∀v∈s,cH M.heap M.kept.length v)(hl:s.length<=256)(hf:rb M.heap f)(h:M.frame s f=.ok M'):Wf M':=by
 unfold C3 at h;split at h
 ·cases h
 ·rename_i c;cases h;refine⟨⟨hl,?_,W.aR.opens,W.aR.heap,W.aR.kept,W.aR.code⟩,hs,W.heap,W.kept,fun g hg=>?_,W.pre⟩
  ·show(f::M.frames).length<=128;have:¬128<=M.frames.length:=c;simp only[aA];lia
  ·rcases br.mp hg with rfl|hg
   ·exact hf
   ·exact W.bB g hg
theorem oy(n:Int): -2147483648<=eB n/\eB n<2147483648:=by
 unfold eB;constructor<;>lia
theorem cH.wrap{h:b9}{k:Nat}(n:Int):cH h k (.int (eB n)):=oy n
theorem t6{α:Type}{l:List α}{k:Nat}{x y:α}(h:y∈gL l k x):y=x\/y∈l:=by
 unfold gL at h;rcases cS.mp h with h|h
 ·exact .inr (lP h)
 ·rcases br.mp h with h|h
  ·exact .inl h
  ·exact .inr (rX h)
theorem rh{α:Type}{x:α}:∀{l:List α}{k:Nat},k<l.length->gL l k x=l.set k x
 |[],k,h=>by simp at h
 |a::l,0,h=>rfl
 |a::l,k+1,h=>by
  have:=rh (x:=x) (l:=l) (k:=k) (by simpa using h);unfold gL at this ⊢;rw[CF,<-this];rfl
theorem BJ{α:Type}{l:List α}{k:Nat}{x:α}(h:k<l.length):(gL l k x).length=l.length:=by rw[rh h,uC]
theorem VF{n:bO}{v:aB}{t:List (bO×aB)}(h:(t.map (·.1)).Nodup):((kr n v t).map (·.1)).Nodup:=by
 unfold kr;split
 ·have:(t.map fun x=>if x.1=n then(n,v)else x).map (·.1)=t.map (·.1):=by
   rw[pZ];refine OJ fun x _=>?_;show(if x.1=n then(n,v)else x).1=x.1;split
   ·rename_i c;exact c.symm
   ·rfl
  rw[this];exact h
 ·rename_i c;rw[eY];refine L2.AA h fun z=>c ?_;obtain⟨x,hx,e⟩:=iW.mp z;exact lN.mpr ⟨x,hx,by simp[e]⟩
theorem VG{n:bO}{v:aB}{t:List (bO×aB)}{e:bO×aB}(h:e∈kr n v t):e=(n,v)\/e∈t:=by
 unfold kr at h;split at h
 ·obtain⟨x,hx,rfl⟩:=iW.mp h;split
  ·exact .inl rfl
  ·exact .inr hx
 ·rcases cS.mp h with h|h
  ·exact .inr h
  ·simp at h;exact .inl h
theorem VH{n:bO}{v:aB}{t:List (bO×aB)}:(kr n v t).length=if t.any (fun x=>x.1==n)=true then t.length else t.length+1:=by
 unfold kr;split<;>simp
theorem getD_mem{α:Type}{l:List (List α)}{k:Nat}{x:α}(h:x∈l.getD k []):∃r∈l,l[k]? =some r/\x∈r:=by
 rw[gJ]at h;cases e:l[k]? with
 |none=>rw[e]at h;simp at h
 |some r=>rw[e]at h;exact⟨r,dR e,rfl,h⟩
theorem cH.BK{h:b9}{n:Nat}{v:aB}(x:cH h n v)(c:¬fS v=true):cH h 0 v:=by
 cases v with
 |state k=>exact absurd rfl c
 |_=>exact x
theorem Ll{M M':aY}{k:Nat}{n:bO}{v:aB}{s:List aB}(W:Wf M)(hs:∀v∈s,cH M.heap M.kept.length v)(hl:s.length<=256)(hk:k<M.heap.tables.length)(hv:cH M.heap M.kept.length v)(h:M.define k n v s=.ok M'):Wf M':=by
 unfold C5 at h;dsimp only at h;split at h
 ·cases h
 ·rename_i c1;split at h
  ·cases h
  ·rename_i c2;cases h;have tl:(gL M.heap.tables k (kr n v (M.heap.tables.getD k []))).length=M.heap.tables.length:=BJ hk;obtain⟨t,et⟩:∃t,M.heap.tables[k]? =some t:=⟨_,f7 hk⟩
   have gt:M.heap.tables.getD k []=t:=by rw[gJ,et];rfl
   have mt:t∈M.heap.tables:=dR et;rw[gt]at tl c2 ⊢;have vk:∀{u n'},cH M.heap n' u->cH {M.heap with tables:=gL M.heap.tables k (kr n v t)} n' u:=fun x=>x.cG (bY _) (oH tl.symm) (bY _);have aR:uK {M.heap with tables:=gL M.heap.tables k (kr n v t)}:=by
    refine⟨W.heap.aR.arrays,by show 0<(gL M.heap.tables k _).length;rw[tl];exact W.heap.aR.tables.1,by show(gL M.heap.tables k _).length<=_;rw[tl];exact W.heap.aR.tables.2.1,fun u hu=>?_⟩;rcases t6 hu with rfl|hu
    ·have l0:t.length<=64:=W.heap.aR.tables.2.2 t mt;rw[VH];split
     ·exact l0
     ·rename_i c;have c3:¬64<=t.length:=fun z=>c2 ⟨by
       rw[lO];intro x hx;have:¬(x.1==n)=true:=fun z=>c (lN.mpr ⟨x,hx,z⟩);simpa using this,z⟩
      show t.length+1<=64
      lia
    ·exact W.heap.aR.tables.2.2 u hu
   refine⟨⟨hl,W.aR.frames,⟨W.aR.opens.1,W.aR.opens.2.1,fun j hj=>by show j<(gL M.heap.tables k _).length;rw[tl];exact W.aR.opens.2.2 j hj⟩,aR,W.aR.kept,W.aR.code⟩,fun u hu=>vk (hs u hu),⟨aR,fun l hl u hu=>vk (W.heap.arr l hl u hu),fun u hu e he=>?_,fun u hu=>?_⟩,W.kept,fun f hf=>(W.bB f hf).cG (eF.of rfl),xg W.pre (eF.of rfl)⟩
   ·rcases t6 hu with rfl|hu
    ·rcases VG he with rfl|he
     ·exact vk (hv.BK c1)
     ·exact vk (W.heap.pN t mt e he)
    ·exact vk (W.heap.pN u hu e he)
   ·rcases t6 hu with rfl|hu
    ·exact VF (W.heap.qF t mt)
    ·exact W.heap.qF u hu
theorem Lm{M M':aY}{l s:List aB}(W:Wf M)(hs:∀v∈s,cH M.heap M.kept.length v)(hv:∀v∈l,cH M.heap M.kept.length v)(h:M.newArray l s=.ok M'):Wf M':=by
 unfold C6 at h;split at h
 ·cases h
 ·rename_i c1;split at h
  ·cases h
  ·rename_i c2;have al:(M.heap.arrays++[l]).length=M.heap.arrays.length+1:=by simp
   have vk:∀{u n'},cH M.heap n' u->cH {M.heap with arrays:=M.heap.arrays++[l]} n' u:=fun x=>x.cG (by show _<=(M.heap.arrays++[l]).length;lia) (bY _) (bY _);have aR:uK {M.heap with arrays:=M.heap.arrays++[l]}:=by
    refine⟨⟨?_,?_⟩,W.heap.aR.tables⟩
    ·show(M.heap.arrays++[l]).length<=256;have:¬256<=M.heap.arrays.length:=fun z=>c2 (.inl z)
     lia
    ·show((M.heap.arrays++[l]).map gI).sum<=2048;have:¬2048<(M.heap.arrays.map gI).sum+l.length:=fun z=>c2 (.inr z);simp only[eY,List.sum_append,d6,CD,OQ,List.sum_nil]
     lia
   have W':Wf {M with heap:={M.heap with arrays:=M.heap.arrays++[l]}}:=by
    refine⟨⟨W.aR.stack,W.aR.frames,W.aR.opens,aR,W.aR.kept,W.aR.code⟩,fun u hu=>vk (W.au u hu),⟨aR,fun a ha u hu=>?_,fun t ht e he=>vk (W.heap.pN t ht e he),W.heap.qF⟩,W.kept,fun f hf=>(W.bB f hf).cG eF.app,xg W.pre eF.app⟩;rcases cS.mp ha with ha|ha
    ·exact vk (W.heap.arr a ha u hu)
    ·simp at ha;subst ha;exact vk ((hv u hu).BK fun z=>c1 (lN.mpr ⟨u,hu,z⟩))
   refine dJ W' (fun u hu=>?_) h;rcases br.mp hu with rfl|hu
   ·show M.heap.arrays.length<(M.heap.arrays++[l]).length
    lia
   ·exact vk (hs u hu)
theorem xh{s:List aB}{x:List aB×List aB}(h:Sz07.toMark s=some x):(∀v∈x.1,v∈s)/\(∀v∈x.2,v∈s)/\x.1.length<=s.length:=by
 unfold Sz07.toMark at h;split at h
 ·cases h;refine⟨fun v hv=>(abC _).subset hv,fun v hv=>(yo _).subset (rX hv),(abC _).length_le⟩
 ·cases h
theorem VI{a b:Int}(ha: -2147483648<=a/\a<2147483648): -2147483648<=jx a b/\jx a b<2147483648:=by
 have h1:(jx a b).natAbs<=a.natAbs:=by rw[Int.natAbs_tmod];exact Nat.mod_le _ _
 have h2:0<=a->0<=jx a b:=fun h=>C7 b h;have h3:a<=0->jx a b<=0:=fun h=>by have:=C7 b (show 0<= -a by omega);rw[C8]at this;omega
 omega
theorem Ln{l:List (List aB)}{x:List aB}(h:x∈l):x.length<=(l.map gI).sum:=by
 induction l with
 |nil=>simp at h
 |cons a l ih=>
  rcases br.mp h with rfl|h
  ·simp
  ·have:=ih h;simp only[d6,OQ];lia
theorem Lo{α:Type}{l:List (List α)}{k:Nat}(h:k<l.length):l.getD k []∈l:=by
 rw[gJ,f7 h];exact List.getElem_mem h
theorem bL{e:Int}{M':aY}{C:Prop}(h:(Except.error e:cD)=.ok M'):C:=nomatch h
theorem mK{M M':aY}{f:Int->Int->Except Int aB}(W:Wf M)(hf:∀a b v,(-2147483648<=a/\a<2147483648)->f a b=.ok v->cH M.heap M.kept.length v)(h:f6 M f=.ok M'):Wf M':=by
 unfold f6 at h;walk_at "af";rcases st with _|⟨t,_|⟨t2,s⟩⟩
 ·exact bL h
 ·cases t<;>exact bL h
 cases t with
 |int b=>
  cases t2 with
  |int a=>
   dsimp only at h;cases ef:f a b with
   |error z=>rw[ef]at h;cases h
   |ok v=>
    rw[ef]at h;refine dJ W (fun u hu=>?_) h;rcases br.mp hu with rfl|hu
    ·exact hf a b u (W.au (.int a) (by rw[e];simp)) ef
    ·exact W.au u (by rw[e];simp[hu])
  |_=>exact bL h
 |_=>exact bL h
theorem BL{M M':aY}{f:Bool->Bool->Bool}(W:Wf M)(h:gp M f=.ok M'):Wf M':=by
 unfold gp at h;walk_at "af";rcases st with _|⟨t,_|⟨t2,s⟩⟩
 ·exact bL h
 ·cases t<;>exact bL h
 cases t with
 |int b=>
  cases t2 with
  |int a=>
   dsimp only at h;refine dJ W (fun u hu=>?_) h;rcases br.mp hu with rfl|hu
   ·exact oy _
   ·exact W.au u (by rw[e];simp[hu])
  |_=>exact bL h
 |truth b=>
  cases t2 with
  |truth a=>
   dsimp only at h;refine dJ W (fun u hu=>?_) h;rcases br.mp hu with rfl|hu
   ·exact fg
   ·exact W.au u (by rw[e];simp[hu])
  |_=>exact bL h
 |_=>exact bL h
theorem VJ{h:b9}{k n:Nat}{H0:b9}{v:aB}(x:cH H0 n v)(c:jI h k v=false):cH h k v:=by
 cases v with
 |arr a=>exact rY (of_decide_eq_false c)
 |table a=>exact rY (of_decide_eq_false c)
 |state a=>exact rY (of_decide_eq_false c)
 |_=>exact x
theorem BM{n:bO}{v:aB}:∀{t:List (bO×aB)},t.lookup n=some v->∃e∈t,e.2=v
 |[],h=>by simp at h
 |e::t,h=>by
  rw[ke]at h;split at h
  ·cases h;exact⟨e,cw,rfl⟩
  ·obtain⟨x,hx,e⟩:=BM h;exact⟨x,bP _ hx,e⟩
theorem xi{M:aY}(W:Wf M){n:bO}{v:aB}(h:M.look n=some v):cH M.heap 0 v:=by
 unfold aY.look at h;obtain⟨k,_,e⟩:=List.exists_of_findSome?_eq_some h;obtain⟨x,hx,rfl⟩:=BM e;obtain⟨t,ht,_,hx⟩:=getD_mem hx;exact W.heap.pN t ht x hx
theorem cH.up{h:b9}{n:Nat}{v:aB}(x:cH h 0 v):cH h n v:=x.cG (bY _) (bY _) (cI _)
theorem VL{w:String}(hw:w∈jJ){M M':aY}(W:Wf M)(h:bD w M=.ok M'):Wf M':=by
 have mem:∀{v r},(M.stack=v::r)->(∀u∈v::r,cH M.heap M.kept.length u):=fun e u hu=>W.au u (by rw[e];exact hu);have zl:M.stack.length<=256:=W.aR.stack;simp only[jJ,br,gK,or_false]at hw;rcases hw with rfl|rfl|rfl|rfl|rfl|rfl|rfl|rfl|rfl|rfl|rfl|rfl|rfl|rfl|rfl|rfl|rfl|rfl|rfl|rfl|rfl|rfl|rfl|rfl|rfl|rfl|rfl|rfl|rfl|rfl|rfl|rfl|rfl|rfl|rfl|rfl|rfl|rfl|rfl|rfl|rfl|rfl|rfl|rfl|rfl|rfl|rfl|rfl|rfl|rfl
 ·
  change ((match M.stack with|_::r=>M.with_ r|_=>.error UNDER):cD)=.ok M' at h;walk_at "af";rcases st with _|⟨_,st⟩
  ·exact bL h
  dsimp only at h;exact dJ W (fun u hu=>mem e u (by simp[hu])) h
 ·
  change ((match M.stack with|a::b::r=>M.with_ (b::a::r)|_=>.error UNDER):cD)=.ok M' at h;walk_at "af";rcases st with _|⟨_,st⟩
  ·exact bL h
  rcases st with _|⟨_,st⟩
  ·exact bL h
  dsimp only at h;exact dJ W (fun u hu=>mem e u (by simp at hu ⊢;rcases hu with h|h|h<;>simp[h])) h
 ·
  change ((match M.stack with|a::r=>M.with_ (a::a::r)|_=>.error UNDER):cD)=.ok M' at h;walk_at "af";rcases st with _|⟨_,st⟩
  ·exact bL h
  dsimp only at h;exact dJ W (fun u hu=>mem e u (by simp at hu ⊢;exact hu)) h
 ·
  change ((match M.stack with| .int k::r=>if k<0 then .error RANGE else if r.length<k.toNat then .error UNDER else M.with_ (r.take k.toNat++r)|_::_=>.error TYPE|_=>.error UNDER):cD)=.ok M' at h;walk_at "af";rcases st with _|⟨t,r⟩
  ·exact bL h
  cases t with
  |int k=>
   dsimp only at h;split at h
   ·intros
   ·split at h
    ·intros
    ·exact dJ W (fun u hu=>mem e u (by
      rcases cS.mp hu with h|h
      ·exact bP _ (lP h)
      ·exact bP _ h)) h
  |_=>exact bL h
 ·
  change ((match M.stack with| .int k::r=>(if k<0 then .error RANGE else match r[k.toNat]? with|some v=>M.with_ (v::r)|none=>.error UNDER)|_::_=>.error TYPE|_=>.error UNDER):cD)=.ok M' at h;walk_at "af";rcases st with _|⟨t,r⟩
  ·exact bL h
  cases t with
  |int k=>
   dsimp only at h;split at h
   ·intros
   ·split at h
    ·rename_i v ev;exact dJ W (fun u hu=>mem e u (by
      rcases br.mp hu with rfl|h
      ·exact bP _ (dR ev)
      ·exact bP _ h)) h
    ·intros
  |_=>exact bL h
 ·
  change ((match M.stack with| .int j::.int k::r=>(if k<0 then .error RANGE else if r.length<k.toNat then .error UNDER else if k=0 then M.with_ r else M.with_ (((r.take k.toNat).drop (j % k).toNat++(r.take k.toNat).take (j % k).toNat)++r.drop k.toNat))|_::_::_=>.error TYPE|_=>.error UNDER):cD)=.ok M' at h;walk_at "af";rcases st with _|⟨t,st⟩
  ·exact bL h
  cases t with
  |int j=>
   rcases st with _|⟨t,r⟩
   ·exact bL h
   cases t with
   |int k=>
    dsimp only at h;split at h
    ·intros
    ·split at h
     ·intros
     ·split at h
      ·exact dJ W (fun u hu=>mem e u (by simp[hu])) h
      ·exact dJ W (fun u hu=>mem e u (by
        refine bP _ (bP _ ?_);rcases cS.mp hu with h|h
        ·rcases cS.mp h with h|h
         ·exact lP (rX h)
         ·exact lP (lP h)
        ·exact rX h)) h
   |_=>exact bL h
  |_=>walk_at "zx"
 ·
  exact dJ W (fun u hu=>by simp at hu) (show M.with_ []=_ from h)
 ·
  exact dJ W (fun u hu=>by
   rcases br.mp hu with rfl|hu
   ·show(-2147483648:Int)<=(M.stack.length:Int)/\(M.stack.length:Int)<2147483648
    lia
   ·exact W.au u hu) (show M.with_ (.int M.stack.length::M.stack)=_ from h)
 ·exact dJ W (fun u hu=>by
   rcases br.mp hu with rfl|hu
   ·exact fg
   ·exact W.au u hu) (show M.with_ (.mark::M.stack)=_ from h)
 ·exact dJ W (fun u hu=>by
   rcases br.mp hu with rfl|hu
   ·exact fg
   ·exact W.au u hu) (show M.with_ (.mark::M.stack)=_ from h)
 ·
  change ((match toMark M.stack with|some x=>M.with_ x.2|none=>.error UNDER):cD)=.ok M' at h;split at h
  ·rename_i x e;exact dJ W (fun u hu=>W.au u ((xh e).2.1 u hu)) h
  ·intros
 ·
  change ((match toMark M.stack with|some x=>M.with_ (.int x.1.length::M.stack)|none=>.error UNDER):cD)=.ok M' at h;split at h
  ·rename_i x e;exact dJ W (fun u hu=>by
    rcases br.mp hu with rfl|hu
    ·have:=(xh e).2.2;show(-2147483648:Int)<=(x.1.length:Int)/\(x.1.length:Int)<2147483648
     lia
    ·exact W.au u hu) h
  ·intros
 ·
  change ((match toMark M.stack with|some x=>M.newArray x.1.reverse x.2|none=>.error UNDER):cD)=.ok M' at h;split at h
  ·rename_i x e;exact Lm W (fun u hu=>W.au u ((xh e).2.1 u hu)) (fun u hu=>W.au u ((xh e).1 u (List.mem_reverse.mp hu))) h
  ·intros
 ·exact mK W (fun a b v _ e=>by cases e;exact oy _) (show two M (whole fun a b=>a+b)=_ from h)
 ·exact mK W (fun a b v _ e=>by cases e;exact oy _) (show two M (whole fun a b=>a-b)=_ from h)
 ·exact mK W (fun a b v _ e=>by cases e;exact oy _) (show two M (whole fun a b=>a*b)=_ from h)
 ·exact mK W (fun a b v _ e=>by
   split at e
   ·cases e
   ·cases e;exact oy _) (show two M (fun a b=>if b=0 then .error RANGE else .ok (.int (wrap (rZ a b))))=_ from h)
 ·exact mK W (fun a b v ha e=>by
   split at e
   ·cases e
   ·cases e;exact VI ha) (show two M (fun a b=>if b=0 then .error RANGE else .ok (.int (jx a b)))=_ from h)
 ·
  change ((match M.stack with| .int a::r=>M.with_ (.int (wrap (-a))::r)|_::_=>.error TYPE|_=>.error UNDER):cD)=.ok M' at h;walk_at "af";rcases st with _|⟨t,r⟩
  ·exact bL h
  cases t with
  |int a=>
   dsimp only at h;exact dJ W (fun u hu=>by
    rcases br.mp hu with rfl|hu
    ·exact oy _
    ·exact mem e u (by simp[hu])) h
  |_=>exact bL h
 ·exact mK W (fun a b v _ e=>by cases e;exact fg) (show two M (tells fun a b=>decide (a<b))=_ from h)
 ·exact mK W (fun a b v _ e=>by cases e;exact fg) (show two M (tells fun a b=>decide (a<=b))=_ from h)
 ·exact mK W (fun a b v _ e=>by cases e;exact fg) (show two M (tells fun a b=>decide (b<a))=_ from h)
 ·exact mK W (fun a b v _ e=>by cases e;exact fg) (show two M (tells fun a b=>decide (b<=a))=_ from h)
 ·
  change ((match M.stack with|b::a::r=>(match same a b with|some x=>M.with_ (.truth x::r)|none=>.error TYPE)|_=>.error UNDER):cD)=.ok M' at h;walk_at "af";rcases st with _|⟨b,st⟩
  ·exact bL h
  rcases st with _|⟨a,r⟩
  ·exact bL h
  dsimp only at h;split at h
  ·exact dJ W (fun u hu=>by
    rcases br.mp hu with rfl|hu
    ·exact fg
    ·exact mem e u (by simp[hu])) h
  ·intros
 ·exact BL W (show logic M (fun a b=>a&&b)=_ from h)
 ·exact BL W (show logic M (fun a b=>a || b)=_ from h)
 ·exact BL W (show logic M (fun a b=>a != b)=_ from h)
 ·
  change ((match M.stack with| .int a::r=>M.with_ (.int (wrap (-1-a))::r)| .truth a::r=>M.with_ (.truth (!a)::r)|_::_=>.error TYPE|_=>.error UNDER):cD)=.ok M' at h;walk_at "af";rcases st with _|⟨t,r⟩
  ·exact bL h
  cases t with
  |int a=>
   dsimp only at h;exact dJ W (fun u hu=>by
    rcases br.mp hu with rfl|hu
    ·exact oy _
    ·exact mem e u (by simp[hu])) h
  |truth a=>
   dsimp only at h;exact dJ W (fun u hu=>by
    rcases br.mp hu with rfl|hu
    ·exact fg
    ·exact mem e u (by simp[hu])) h
  |_=>exact bL h
 ·exact dJ W (fun u hu=>by
   rcases br.mp hu with rfl|hu
   ·exact fg
   ·exact W.au u hu) (show M.with_ (.truth true::M.stack)=_ from h)
 ·exact dJ W (fun u hu=>by
   rcases br.mp hu with rfl|hu
   ·exact fg
   ·exact W.au u hu) (show M.with_ (.truth false::M.stack)=_ from h)
 ·
  change ((match M.stack with| .proc p::r=>M.frame r (.code p)|_::_=>.error TYPE|_=>.error UNDER):cD)=.ok M' at h;walk_at "af";rcases st with _|⟨t,r⟩
  ·exact bL h
  cases t with
  |proc p=>
   walk_at "aj";exact j9 (f:=.code p) W (fun u hu=>mem e u (by simp[hu])) (by lia) (mem e (.proc p) (by simp)) h
  |_=>exact bL h
 ·
  change ((match M.stack with| .proc p::.truth b::r=>(if b=true then M.frame r (.code p)else M.with_ r)|_::_::_=>.error TYPE|_=>.error UNDER):cD)=.ok M' at h;walk_at "af";rcases st with _|⟨t,st⟩
  ·exact bL h
  cases t with
  |proc p=>
   rcases st with _|⟨t,r⟩
   ·exact bL h
   cases t with
   |truth b=>
    walk_at "aj";split at h
    ·exact j9 (f:=.code p) W (fun u hu=>mem e u (by simp[hu])) (by lia) (mem e (.proc p) (by simp)) h
    ·exact dJ W (fun u hu=>mem e u (by simp[hu])) h
   |_=>exact bL h
  |_=>walk_at "zx"
 ·
  change ((match M.stack with| .proc q::.proc p::.truth b::r=>M.frame r (.code (if b=true then p else q))|_::_::_::_=>.error TYPE|_=>.error UNDER):cD)=.ok M' at h;walk_at "af";rcases st with _|⟨t,st⟩
  ·exact bL h
  cases t with
  |proc q=>
   rcases st with _|⟨t,st⟩
   ·exact bL h
   cases t with
   |proc p=>
    rcases st with _|⟨t,r⟩
    ·exact bL h
    cases t with
    |truth b=>
     walk_at "aj";refine j9 W (fun u hu=>mem e u (by simp[hu])) (by lia) ?_ h;cases b with
     |true=>exact mem e (.proc p) (by simp)
     |false=>exact mem e (.proc q) (by simp)
    |_=>exact bL h
   |_=>walk_at "zx"
  |_=>walk_at "zx"
 ·
  change ((match M.stack with| .proc p::.int k::r=>(if k<0 then .error RANGE else M.frame r (.times k.toNat p))|_::_::_=>.error TYPE|_=>.error UNDER):cD)=.ok M' at h;walk_at "af";rcases st with _|⟨t,st⟩
  ·exact bL h
  cases t with
  |proc p=>
   rcases st with _|⟨t,r⟩
   ·exact bL h
   cases t with
   |int k=>
    walk_at "aj";have kb: -2147483648<=k/\k<2147483648:=mem e (.int k) (by simp);split at h
    ·intros
    ·exact j9 (f:=.times k.toNat p) W (fun u hu=>mem e u (by simp[hu])) (by lia) ⟨by lia,mem e (.proc p) (by simp)⟩ h
   |_=>exact bL h
  |_=>walk_at "zx"
 ·
  change ((match M.stack with| .proc p::r=>M.frame r (.again p)|_::_=>.error TYPE|_=>.error UNDER):cD)=.ok M' at h;walk_at "af";rcases st with _|⟨t,r⟩
  ·exact bL h
  cases t with
  |proc p=>
   walk_at "aj";exact j9 (f:=.again p) W (fun u hu=>mem e u (by simp[hu])) (by lia) (mem e (.proc p) (by simp)) h
  |_=>exact bL h
 ·
  change ((match M.stack with| .proc p::.int c::.int b::.int a::r=>(if b=0 then .error RANGE else M.frame r (.count a b c p))|_::_::_::_::_=>.error TYPE|_=>.error UNDER):cD)=.ok M' at h;walk_at "af";rcases st with _|⟨t,st⟩
  ·exact bL h
  cases t with
  |proc p=>
   rcases st with _|⟨t,st⟩
   ·exact bL h
   cases t with
   |int c=>
    rcases st with _|⟨t,st⟩
    ·exact bL h
    cases t with
    |int b=>
     rcases st with _|⟨t,r⟩
     ·exact bL h
     cases t with
     |int a=>
      walk_at "aj";have kc: -2147483648<=c/\c<2147483648:=mem e (.int c) (by simp);have kb: -2147483648<=b/\b<2147483648:=mem e (.int b) (by simp);have ka: -2147483648<=a/\a<2147483648:=mem e (.int a) (by simp);split at h
      ·intros
      ·rename_i nb;exact j9 (f:=.count a b c p) W (fun u hu=>mem e u (by simp[hu])) (by lia) ⟨⟨kb.1,kb.2,nb⟩,kc,fun _=>⟨by lia,by lia⟩,fun _=>⟨by lia,by lia⟩,mem e (.proc p) (by simp)⟩ h
     |_=>exact bL h
    |_=>walk_at "zx"
   |_=>walk_at "zx"
  |_=>walk_at "zx"
 ·
  change ((match M.stack with| .proc p::.arr k::r=>M.frame r (.each k 0 p)|_::_::_=>.error TYPE|_=>.error UNDER):cD)=.ok M' at h;walk_at "af";rcases st with _|⟨t,st⟩
  ·exact bL h
  cases t with
  |proc p=>
   rcases st with _|⟨t,r⟩
   ·exact bL h
   cases t with
   |arr k=>
    walk_at "aj";exact j9 (f:=.each k 0 p) W (fun u hu=>mem e u (by simp[hu])) (by lia) ⟨mem e (.arr k) (by simp),by lia,mem e (.proc p) (by simp)⟩ h
   |_=>exact bL h
  |_=>walk_at "zx"
 ·
  change ((match M.stack with|v::.lit n::r=>M.define (M.opens.headD 0) n v r|_::_::_=>.error TYPE|_=>.error UNDER):cD)=.ok M' at h;walk_at "af";rcases st with _|⟨v,st⟩
  ·exact bL h
  rcases st with _|⟨t,r⟩
  ·exact bL h
  cases t with
  |lit n=>
   walk_at "aj";refine Ll W (fun u hu=>mem e u (by simp[hu])) (by lia) ?_ (mem e v (by simp)) h;cases eo:M.opens with
   |nil=>exact absurd eo W.aR.opens.1
   |cons k l=>exact W.aR.opens.2.2 k (by rw[eo];simp)
  |_=>exact bL h
 ·
  change ((match M.stack with| .lit n::r=>(match M.look n with|some v=>M.with_ (v::r)|none=>.error UNKNOWN)|_::_=>.error TYPE|_=>.error UNDER):cD)=.ok M' at h;walk_at "af";rcases st with _|⟨t,r⟩
  ·exact bL h
  cases t with
  |lit n=>
   dsimp only at h;split at h
   ·rename_i v ev;exact dJ W (fun u hu=>by
     rcases br.mp hu with rfl|hu
     ·exact(xi W ev).up
     ·exact mem e u (by simp[hu])) h
   ·intros
  |_=>exact bL h
 ·
  change ((match M.stack with| .lit n::.table k::r=>M.with_ (.truth ((M.heap.tables.getD k []).any fun x=>x.1==n)::r)|_::_::_=>.error TYPE|_=>.error UNDER):cD)=.ok M' at h;walk_at "af";rcases st with _|⟨t,st⟩
  ·exact bL h
  cases t with
  |lit n=>
   rcases st with _|⟨t,r⟩
   ·exact bL h
   cases t with
   |table k=>
    dsimp only at h;exact dJ W (fun u hu=>by
     rcases br.mp hu with rfl|hu
     ·exact fg
     ·exact mem e u (by simp[hu])) h
   |_=>exact bL h
  |_=>walk_at "zx"
 ·
  change ((if TABLES<=M.heap.tables.length then .error FULL else({M with heap:={M.heap with tables:=M.heap.tables++[[]]}}:aY).with_ (.table M.heap.tables.length::M.stack)):cD)=.ok M' at h;split at h
  ·intros
  ·rename_i c;have tl:(M.heap.tables++[[]]).length=M.heap.tables.length+1:=by simp
   have vk:∀{u n'},cH M.heap n' u->cH {M.heap with tables:=M.heap.tables++[[]]} n' u:=fun x=>x.cG (bY _) (by show _<=(M.heap.tables++[[]]).length;lia) (bY _);have aR:uK {M.heap with tables:=M.heap.tables++[[]]}:=by
    refine⟨W.heap.aR.arrays,by show 0<(M.heap.tables++[[]]).length;lia,?_,fun t ht=>?_⟩
    ·show(M.heap.tables++[[]]).length<=32;have:¬32<=M.heap.tables.length:=c
     lia
    ·rcases cS.mp ht with ht|ht
     ·exact W.heap.aR.tables.2.2 t ht
     ·simp at ht;subst ht;exact cI _
   have W':Wf {M with heap:={M.heap with tables:=M.heap.tables++[[]]}}:=by
    refine⟨⟨W.aR.stack,W.aR.frames,⟨W.aR.opens.1,W.aR.opens.2.1,fun j hj=>by have:=W.aR.opens.2.2 j hj;show j<(M.heap.tables++[[]]).length;lia⟩,aR,W.aR.kept,W.aR.code⟩,fun u hu=>vk (W.au u hu),⟨aR,fun a ha u hu=>vk (W.heap.arr a ha u hu),fun t ht e he=>?_,fun t ht=>?_⟩,W.kept,fun f hf=>(W.bB f hf).cG (eF.of rfl),xg W.pre (eF.of rfl)⟩
    ·rcases cS.mp ht with ht|ht
     ·exact vk (W.heap.pN t ht e he)
     ·simp at ht;subst ht;simp at he
    ·rcases cS.mp ht with ht|ht
     ·exact W.heap.qF t ht
     ·simp at ht;subst ht;exact r6
   refine dJ W' (fun u hu=>?_) h;rcases br.mp hu with rfl|hu
   ·show M.heap.tables.length<(M.heap.tables++[[]]).length
    lia
   ·exact vk (W.au u hu)
 ·
  change ((match M.stack with| .table k::r=>(if OPEN<=M.opens.length then .error FULL else .ok {M with stack:=r,opens:=k::M.opens})|_::_=>.error TYPE|_=>.error UNDER):cD)=.ok M' at h;walk_at "af";rcases st with _|⟨t,r⟩
  ·exact bL h
  cases t with
  |table k=>
   walk_at "aj";split at h
   ·intros
   ·rename_i c;cases h;have c:¬16<=M.opens.length:=c;refine⟨⟨by show r.length<=256;lia,W.aR.frames,⟨by simp,by show(k::M.opens).length<=16;simp only[aA];lia,fun j hj=>?_⟩,W.aR.heap,W.aR.kept,W.aR.code⟩,fun u hu=>mem e u (by simp[show u∈r from hu]),W.heap,W.kept,W.bB,W.pre⟩;rcases br.mp hj with rfl|hj
    ·exact mem e (.table j) (by simp)
    ·exact W.aR.opens.2.2 j hj
  |_=>exact bL h
 ·
  change ((match M.opens with|_::k::l=>.ok {M with opens:=k::l}|_=>.error UNDER):cD)=.ok M' at h;split at h
  ·rename_i x k l e;cases h;have z:=W.aR.opens;rw[e]at z;have z2:(x::k::l).length<=16:=z.2.1;refine⟨⟨W.aR.stack,W.aR.frames,⟨by simp,by show(k::l).length<=16;simp only[aA]at z2 ⊢;lia,fun j hj=>z.2.2 j (bP _ hj)⟩,W.aR.heap,W.aR.kept,W.aR.code⟩,W.au,W.heap,W.kept,W.bB,W.pre⟩
  ·intros
 ·
  change ((match M.stack with| .int k::r=>(if k<0 then .error RANGE else if(ITEMS:Int)<k then .error FULL else M.newArray (dN k.toNat (.int 0)) r)|_::_=>.error TYPE|_=>.error UNDER):cD)=.ok M' at h;walk_at "af";rcases st with _|⟨t,r⟩
  ·exact bL h
  cases t with
  |int k=>
   dsimp only at h;split at h
   ·intros
   ·split at h
    ·intros
    ·refine Lm W (fun u hu=>mem e u (by simp[hu])) (fun u hu=>?_) h;rw[abD hu];exact⟨by decide,by decide⟩
  |_=>exact bL h
 ·
  change ((match M.stack with| .arr k::r=>M.with_ (.int (M.heap.arrays.getD k []).length::r)| .table k::r=>M.with_ (.int (M.heap.tables.getD k []).length::r)|_::_=>.error TYPE|_=>.error UNDER):cD)=.ok M' at h;walk_at "af";rcases st with _|⟨t,r⟩
  ·exact bL h
  cases t with
  |arr k=>
   dsimp only at h;exact dJ W (fun u hu=>by
    rcases br.mp hu with rfl|hu
    ·have kl:k<M.heap.arrays.length:=mem e (.arr k) (by simp);have:=Ln (l:=M.heap.arrays) (x:=M.heap.arrays.getD k []) (Lo kl);have:(M.heap.arrays.map gI).sum<=2048:=W.heap.aR.arrays.2;show(-2147483648:Int)<=((M.heap.arrays.getD k []).length:Int)/\((M.heap.arrays.getD k []).length:Int)<2147483648
     lia
    ·exact mem e u (by simp[hu])) h
  |table k=>
   dsimp only at h;exact dJ W (fun u hu=>by
    rcases br.mp hu with rfl|hu
    ·have kl:k<M.heap.tables.length:=mem e (.table k) (by simp);have:(M.heap.tables.getD k []).length<=64:=W.heap.aR.tables.2.2 _ (Lo kl);show(-2147483648:Int)<=((M.heap.tables.getD k []).length:Int)/\((M.heap.tables.getD k []).length:Int)<2147483648
     lia
    ·exact mem e u (by simp[hu])) h
  |_=>exact bL h
 ·
  change ((match M.stack with
   | .int i::.arr k::r=>(match(if i<0 then none else(M.heap.arrays.getD k [])[i.toNat]?)with
    |some v=>M.with_ (v::r)
    |none=>.error RANGE)
   | .lit n::.table k::r=>(match(M.heap.tables.getD k []).lookup n with
    |some v=>M.with_ (v::r)
    |none=>.error UNKNOWN)
   |_::_::_=>.error TYPE
   |_=>.error UNDER):cD)=.ok M' at h
  walk_at "af";rcases st with _|⟨t,_|⟨t2,r⟩⟩
  ·exact bL h
  ·cases t<;>exact bL h
  cases t with
  |int i=>
   cases t2 with
   |arr k=>
    dsimp only at h;split at h
    ·rename_i v ev;split at ev
     ·cases ev
     ·obtain⟨l,hl,_,hv⟩:=getD_mem (dR ev);exact dJ W (fun u hu=>by
       rcases br.mp hu with rfl|hu
       ·exact(W.heap.arr l hl u hv).up
       ·exact mem e u (by simp[hu])) h
    ·intros
   |_=>exact bL h
  |lit n=>
   cases t2 with
   |table k=>
    dsimp only at h;split at h
    ·rename_i v ev;obtain⟨x,hx,rfl⟩:=BM ev;obtain⟨t,ht,_,hx⟩:=getD_mem hx;exact dJ W (fun u hu=>by
      rcases br.mp hu with rfl|hu
      ·exact(W.heap.pN t ht x hx).up
      ·exact mem e u (by simp[hu])) h
    ·exact bL h
   |_=>exact bL h
  |_=>exact bL h
 ·
  change ((match M.stack with
   |v::.int i::.arr k::r=>(if isState v=true then .error TYPE else if i<0\/((M.heap.arrays.getD k []).length:Int)<=i then .error RANGE else .ok {M with stack:=r,heap:={M.heap with arrays:=setAt M.heap.arrays k (setAt (M.heap.arrays.getD k []) i.toNat v)}})
   |v::.lit n::.table k::r=>M.define k n v r
   |_::_::_::_=>.error TYPE
   |_=>.error UNDER):cD)=.ok M' at h
  walk_at "af";rcases st with _|⟨v,_|⟨t,_|⟨t2,r⟩⟩⟩
  ·exact bL h
  ·exact bL h
  ·cases t<;>exact bL h
  cases t with
  |int i=>
   cases t2 with
   |arr k=>
    walk_at "aj";split at h
    ·intros
    ·rename_i c1;split at h
     ·intros
     ·rename_i c2;cases h;have kl:k<M.heap.arrays.length:=mem e (.arr k) (by simp);obtain⟨a,ea⟩:∃a,M.heap.arrays[k]? =some a:=⟨_,f7 kl⟩
      have ga:M.heap.arrays.getD k []=a:=by rw[gJ,ea];rfl
      have ma:a∈M.heap.arrays:=dR ea;rw[ga]at c2 ⊢;have al:(setAt M.heap.arrays k (setAt a i.toNat v)).length=M.heap.arrays.length:=BJ kl;have il:i.toNat<a.length:=by lia
      have vk:∀{u n'},cH M.heap n' u->cH {M.heap with arrays:=setAt M.heap.arrays k (setAt a i.toNat v)} n' u:=fun x=>x.cG (oH al.symm) (bY _) (bY _);have sm:((setAt M.heap.arrays k (setAt a i.toNat v)).map gI)=M.heap.arrays.map gI:=by
       rw[rh kl,yp,BJ il];refine List.ext_getElem? fun j=>?_;rw[List.getElem?_set];split
       ·rename_i z;subst z;rw[bK,if_pos kl,dX,ea];rfl
       ·rfl
      have lns:eF M.heap {M.heap with arrays:=setAt M.heap.arrays k (setAt a i.toNat v)}:=by
       refine⟨oH al.symm,fun j hj=>?_⟩;show((setAt M.heap.arrays k (setAt a i.toNat v)).getD j []).length=_;have e1:((setAt M.heap.arrays k (setAt a i.toNat v)).map gI)[j]? =(M.heap.arrays.map gI)[j]? :=by rw[sm]
       rw[dX,dX]at e1;rw[gJ,gJ];cases x1:(setAt M.heap.arrays k (setAt a i.toNat v))[j]? <;>cases x2:M.heap.arrays[j]? <;>rw[x1,x2]at e1<;>simp at e1 ⊢
       exact e1
      have aR:uK {M.heap with arrays:=setAt M.heap.arrays k (setAt a i.toNat v)}:=
       ⟨⟨by show(setAt M.heap.arrays k _).length<=_;rw[al];exact W.heap.aR.arrays.1,by show((setAt M.heap.arrays k _).map gI).sum<=_;rw[sm];exact W.heap.aR.arrays.2⟩,W.heap.aR.tables⟩
      refine⟨⟨by show r.length<=256;lia,W.aR.frames,W.aR.opens,aR,W.aR.kept,W.aR.code⟩,fun u hu=>vk (mem e u (by simp[show u∈r from hu])),⟨aR,fun l hl u hu=>?_,fun t ht x hx=>vk (W.heap.pN t ht x hx),W.heap.qF⟩,W.kept,fun f hf=>(W.bB f hf).cG lns,xg W.pre lns⟩;rcases t6 hl with rfl|hl
      ·rcases t6 hu with rfl|hu
       ·exact vk ((mem e u (by simp)).BK c1)
       ·exact vk (W.heap.arr a ma u hu)
      ·exact vk (W.heap.arr l hl u hu)
   |_=>exact bL h
  |lit n=>
   cases t2 with
   |table k=>
    walk_at "aj";exact Ll W (fun u hu=>mem e u (by simp[hu])) (by lia) (mem e (.table k) (by simp)) (mem e v (by simp)) h
   |_=>exact bL h
  |_=>exact bL h
 ·
  change ((if KEPT<=M.kept.length then .error FULL else({M with kept:=M.kept++[M.heap]}:aY).with_ (.state M.kept.length::M.stack)):cD)=.ok M' at h;split at h
  ·intros
  ·rename_i c;have c:¬4<=M.kept.length:=c;have kl:(M.kept++[M.heap]).length=M.kept.length+1:=by simp
   have W':Wf {M with kept:=M.kept++[M.heap]}:=by
    refine⟨⟨W.aR.stack,W.aR.frames,W.aR.opens,W.aR.heap,⟨by show(M.kept++[M.heap]).length<=4;lia,fun x hx=>?_⟩,W.aR.code⟩,fun u hu=>(W.au u hu).cG (bY _) (bY _) (by show _<=(M.kept++[M.heap]).length;lia),W.heap,fun x hx=>?_,W.bB,VD W.pre⟩
    ·rcases cS.mp hx with hx|hx
     ·exact W.aR.kept.2 x hx
     ·simp at hx;subst hx;exact W.aR.heap
    ·rcases cS.mp hx with hx|hx
     ·exact W.kept x hx
     ·simp at hx;subst hx;exact W.heap
   refine dJ W' (fun u hu=>?_) h;rcases br.mp hu with rfl|hu
   ·show M.kept.length<(M.kept++[M.heap]).length
    lia
   ·exact(W.au u hu).cG (bY _) (bY _) (by show _<=(M.kept++[M.heap]).length;lia)
 ·
  change ((match M.stack with
   | .state k::r=>(match M.kept[k]? with
    |none=>.error NEWER
    |some h=>if r.any (newer h k)=true\/M.opens.any (fun t=>decide (h.tables.length<=t))=true\/M.frames.any (fun f=>match f with
      | .each a _ _=>decide (h.arrays.length<=a)
      |_=>false)=true then .error NEWER
     else .ok {M with stack:=r,heap:=h,kept:=M.kept.take k})
   |_::_=>.error TYPE
   |_=>.error UNDER):cD)=.ok M' at h
  split at h
  ·rename_i k r e;rw[e]at zl;simp only[aA]at zl;split at h
   ·intros
   ·rename_i hp ek;split at h
    ·intros
    ·rename_i c;cases h;have c1:r.any (newer hp k)=false:=yq.mpr fun z=>c (.inl z);have c2:M.opens.any (fun t=>decide (hp.tables.length<=t))=false:=yq.mpr fun z=>c (.inr (.inl z));have c3:M.frames.any (fun f=>match f with| .each a _ _=>decide (hp.arrays.length<=a)|_=>false)=false:=yq.mpr fun z=>c (.inr (.inr z));have mk:hp∈M.kept:=dR ek;have kl:k<M.kept.length:=(cP.mp ek).1;have tk:(M.kept.take k).length=k:=by rw[eI];lia
     refine⟨⟨by show r.length<=256;lia,W.aR.frames,⟨W.aR.opens.1,W.aR.opens.2.1,fun j hj=>?_⟩,(W.kept hp mk).aR,⟨by show(M.kept.take k).length<=4;have:=W.aR.kept.1;have:M.kept.length<=4:=this;lia,fun x hx=>W.aR.kept.2 x (lP hx)⟩,W.aR.code⟩,fun u hu=>?_,W.kept hp mk,fun x hx=>W.kept x (lP hx),fun f hf=>?_,VE W.pre ek⟩
     ·have:=xX.mp c2 j hj;exact rY fun z=>this (by simpa using z)
     ·show cH hp (M.kept.take k).length u;rw[tk];exact VJ (mem e u (by simp[show u∈r from hu])) (yq.mpr (xX.mp c1 u hu))
     ·have q:=W.bB f hf;have z:=xX.mp c3 f hf;cases f with
      |each a i b=>
       have al:a<hp.arrays.length:=rY fun y=>z (by simpa using y);exact⟨al,by rw[<-((uL.mp W.pre).2.2 hp mk M.heap (eR.mpr rfl)).2 a al];exact q.2.1,q.2.2⟩
      |_=>exact q
  ·intros
  ·intros
 ·
  change ((match M.stack with|v::r=>.ok {M with stack:=r,said:=M.said++(saying v++[10])}|_=>.error UNDER):cD)=.ok M' at h;walk_at "af";rcases st with _|⟨v,r⟩
  ·exact bL h
  walk_at "aj";cases h;exact⟨⟨by show r.length<=256;lia,W.aR.frames,W.aR.opens,W.aR.heap,W.aR.kept,W.aR.code⟩,fun u hu=>mem e u (by simp[show u∈r from hu]),W.heap,W.kept,W.bB,W.pre⟩
theorem kR{M:aY}{fs:List cZ}(W:Wf M)(h:∀f∈fs,rb M.heap f)(hl:fs.length<=128):Wf {M with frames:=fs}:=
 ⟨⟨W.aR.stack,hl,W.aR.opens,W.aR.heap,W.aR.kept,W.aR.code⟩,W.au,W.heap,W.kept,h,W.pre⟩
theorem VM{h:b9}{n:Nat}{v:aB}(c:eg v)(nw:∀x,v≠.word x):cH h n v:=by
 cases c with
 |int a b=>exact⟨a,b⟩
 |lit a=>exact a
 |word a=>exact absurd rfl (nw _)
 |proc a=>exact a
theorem VN{M M':aY}{v:aB}(W:Wf M)(c:eg v)(h:p6 M v=.ok M'):Wf M':=by
 by_cases hw:∃n,v=.word n
 ·obtain⟨n,rfl⟩:=hw;unfold p6 at h;dsimp only at h;split at h
  ·rename_i p e;exact j9 (f:=.code p) W W.au W.aR.stack (xi W e) h
  ·rename_i x e;exact dJ W (fun u hu=>by
    rcases br.mp hu with rfl|hu
    ·exact(xi W e).up
    ·exact W.au u hu) h
  ·split at h
   ·split at h
    ·rename_i f l e;cases h;refine kR W (fun g hg=>W.bB g ?_) ?_
     ·have:g∈M.frames.dropWhile fun f=> !isLoop f:=by rw[e];simp[hg]
      exact(yo _).subset this
     ·have:(M.frames.dropWhile fun f=> !isLoop f).length<=M.frames.length:=(yo _).length_le;rw[e]at this;have z:M.frames.length<=128:=W.aR.frames;simp only[aA]at this
      lia
    ·intros
   ·split at h
    ·rename_i r e;obtain⟨w,hf,e⟩:=CV.mp e;subst h;refine VL (w:=w) (abE hf) W ?_;unfold bD;rw[e];rfl
    ·intros
 ·have nw:∀x,v≠.word x:=fun x z=>hw ⟨x,z⟩;have h2:M.with_ (v::M.stack)=.ok M':=by
   cases v with
   |word x=>exact absurd rfl (nw x)
   |_=>exact h
  exact dJ W (fun u hu=>by
   rcases br.mp hu with rfl|hu
   ·exact VM c nw
   ·exact W.au u hu) h2
theorem VO{M M':aY}(W:Wf M)(h:fj M=some (.ok M')):Wf M':=by
 have zl:M.stack.length<=256:=W.aR.stack;have zf:M.frames.length<=128:=W.aR.frames;have pl:=W.bB;unfold fj at h;split at h
 ·intros
 ·rename_i f e;rw[e]at zf pl;simp only[aA]at zf;cases h;exact kR W (fun g hg=>pl g (by simp[hg])) (by lia)
 ·rename_i v l f e;rw[e]at zf pl;simp only[aA]at zf;have c:∀u∈v::l,eg u:=pl (.code (v::l)) (by simp);have W2:Wf {M with frames:=.code l::f}:=kR W (fun g hg=>by
   rcases br.mp hg with rfl|hg
   ·exact fun u hu=>c u (by simp[hu])
   ·exact pl g (by simp[hg])) (by simp only[aA];lia)
  exact VN W2 (c v (by simp)) (fz h)
 ·rename_i n p f e;rw[e]at zf pl;simp only[aA]at zf;have c:=pl (.times n p) (by simp);have h:=fz h;split at h
  ·intros;exact kR W (fun g hg=>pl g (by simp[hg])) (by lia)
  ·rename_i k _;have c1:Nat.succ k<2147483648:=c.1;have W2:Wf {M with frames:=.times k p::f}:=kR W (fun g hg=>by
    rcases br.mp hg with rfl|hg
    ·exact⟨by lia,c.2⟩
    ·exact pl g (by simp[hg])) (by simp only[aA];lia)
   exact j9 (f:=.code p) W2 W.au W.aR.stack c.2 h
 ·rename_i p f e;rw[e]at pl;exact j9 (f:=.code p) W W.au W.aR.stack (pl (.again p) (by simp)) (fz h)
 ·rename_i a b c p f e;rw[e]at zf pl;simp only[aA]at zf;have q:=pl (.count a b c p) (by simp);have h:=fz h;obtain⟨⟨b1,b2,b3⟩,⟨c1,c2⟩,q1,q2,q3⟩:=q;split at h
  ·intros;exact kR W (fun g hg=>pl g (by simp[hg])) (by lia)
  ·rename_i n1;split at h
   ·intros
   ·rename_i n2;have n2:¬256<=M.stack.length:=n2;have av: -2147483648<=a/\a<2147483648:=by
     rcases Int.lt_or_gt_of_ne b3 with hb|hb
     ·have:=q2 hb;have:¬a<c:=fun z=>n1 (.inr ⟨hb,z⟩)
      lia
     ·have:=q1 hb;have:¬c<a:=fun z=>n1 (.inl ⟨hb,z⟩)
      lia
    have W2:Wf {M with frames:=.count (a+b) b c p::f}:=kR W (fun g hg=>by
     rcases br.mp hg with rfl|hg
     ·exact⟨⟨b1,b2,b3⟩,⟨c1,c2⟩,fun hb=>⟨by lia,by lia⟩,fun hb=>⟨by lia,by lia⟩,q3⟩
     ·exact pl g (by simp[hg])) (by simp only[aA];lia)
    refine j9 W2 (fun u hu=>?_) (by simp only[aA];lia) (f:=.code p) q3 h;rcases br.mp hu with rfl|hu
    ·exact av
    ·exact W.au u hu
 ·rename_i k i p f e;rw[e]at zf pl;simp only[aA]at zf;have q:=pl (.each k i p) (by simp);have h:=fz h;split at h
  ·intros;exact kR W (fun g hg=>pl g (by simp[hg])) (by lia)
  ·rename_i v ev;split at h
   ·intros
   ·rename_i n2;have n2:¬256<=M.stack.length:=n2;obtain⟨l,hl,el,hv⟩:=getD_mem (dR ev);have il:i<l.length:=by
     rw[gJ,el]at ev;exact(cP.mp ev).1
    have l1:=Ln hl;have l2:(M.heap.arrays.map gI).sum<=2048:=W.heap.aR.arrays.2;have W2:Wf {M with frames:=.each k (i+1) p::f}:=kR W (fun g hg=>by
     rcases br.mp hg with rfl|hg
     ·exact⟨q.1,(cP.mp ev).1,q.2.2⟩
     ·exact pl g (by simp[hg])) (by simp only[aA];lia)
    refine j9 W2 (fun u hu=>?_) (by simp only[aA];lia) (f:=.code p) q.2.2 h;rcases br.mp hu with rfl|hu
    ·exact(W.heap.arr l hl u hv).up
    ·exact W.au u hu
end SW
set_option tactic.hygienic false
namespace SW
open PySem PySem.Spec PyProof.Rows L2
local macro_rules| `(tactic|walk_at "rd0")=>`(tactic|simp only[b2,aQ, *])
def fv:List af->List aB->Bool
 |[],_=>true
 |k::r,t::s=>(decide (k="any") || decide (ba t=k))&&fv r s
 |_::_,[]=>false
def eC(ks:List af)(s:List aB):Option Int:=if s.length<ks.length then some (-3)else if fv ks.reverse s=true then none else some (-4)
def im(k:af)(t:aB):Prop:=k="any"\/ba t=k
theorem pP:∀(ks:List af)(s:List aB),ks.length<=s.length->(fv ks s=true↔∀(j:Nat) k t,ks[j]? =some k->s[j]? =some t->im k t)
 |[],s,_=>⟨fun _ j k t h=>by simp at h,fun _=>rfl⟩
 |k::r,[],h=>by simp at h
 |k::r,t::s,h=>by
  have ih:=pP r s (by simpa using h);rw[fv,lM,C9,decide_eq_true_eq,decide_eq_true_eq,ih];constructor
  ·rintro⟨h1,h2⟩ j k' t' e1 e2;cases j with
   |zero=>cases e1;cases e2;exact h1
   |succ j=>exact h2 j k' t' e1 e2
  ·intro f;exact⟨f 0 k t rfl rfl,fun j k' t' e1 e2=>f (j+1) k' t' e1 e2⟩
inductive Lp(vs:List V)(H:Hp)(Q:VK)(E:XK):Prop
 |mk:∀p l s aF kt ks,(vs=[.ref p,.ref kt])->(H p=some (.ai (kZ l)))->(aX (bF H aF) s l)->(H kt=some (.aj (kq V.str ks)))->(cu Q E H (eC ks s))->Lp vs H Q E
def VP:Sp:=fun vs H Q E=>Lp vs H Q E
variable{P:bv}{w:bf}{K:ax}{mg:af->Option ag}{base:Heap}
theorem ip(T:Txt K)(M:MG K mg):ZF 5 "want_kinds" ["stack","kinds"] VP:=by
 refine ZB T.gE v7
 ·obtain⟨p,l,s',aF,kt,ks,rfl,_⟩:=h;rfl
 ·obtain⟨p,l,s',aF,kt,ks,rfl,hp,hs,hk,q⟩:=h;refine⟨_,(Zq (aE (Zf T.kL T.jZ kO (pw 0) (Zl BD (pw 1)))) (Zs 2 v7 (cT ig (Zl dD (pw 0)) (Zl BD (pw 1)))) (sM jB rfl (Qi (pw 1)) (jO (i:=3) v7.nd rfl (eN rfl)) (Zq (Zz (PW.pt (o7 (Zc pc (pw 3) (a8 M T.Kt)) (o6 (Zc pc (Zi (Zx fK (pw 0) (pw 2))) (pw 3))))) (Zr T.mx T.nX ou T.mn T.nW)) (lj (i:=2) v7.nd rfl (eN rfl) aS o9)))),?_⟩;have hl:s'.length=l.length:=hs.length;left;refine⟨p,l.reverse,_,rfl,hp,?_⟩;rw[bK,bN];unfold eC at q;by_cases c:l.length<ks.length
  ·rw[if_pos (by omega)]at q ⊢;exact q
  ·rw[if_neg (by omega)]at q ⊢;right;left;refine⟨kt,rfl,⟨_,dH.of hk⟩,Ql (K:=K) (a:=kt) (xs:=ks.map V.str) (fun i σ' H'=>∃kv,σ'=[some (.ref p),some (.ref kt),some (.int ((l.length:Int)-ks.length+i)),kv]/\H'=H/\∀(j:Nat) k t,j<i->ks[j]? =some k->s'[ks.length-1-j]? =some t->im k t) ?_ ?_ ?_ ?_⟩
   ·exact⟨none,by simp,rfl,fun j k t h=>absurd h (Nat.not_lt_zero _)⟩
   ·rintro i σ' H' _ ⟨kv,rfl,rfl,_⟩;exact dH.of hk
   ·rintro i x σ' H' hx ⟨kv,rfl,rfl,hj⟩;rw[dX]at hx;obtain⟨k,ek,rfl⟩:=jt.mp hx;have il:i<ks.length:=(cP.mp ek).1;obtain⟨t,et⟩:∃t,s'[ks.length-1-i]? =some t:=⟨_,f7 (by omega)⟩
    obtain⟨v,ev,hv⟩:=hs.get _ _ et;obtain⟨a,z,rfl,ea⟩:=hv.aj;have hat:cR l.reverse ((l.length:Int)-ks.length+i)=some (V.ref a):=by
     rw[show(l.length:Int)-ks.length+i=((l.length-ks.length+i:Nat):Int)by omega];refine fW ?_;rw[rV (by omega),<-ev];congr 1;omega
    have nxt:(im k t)->∀(j:Nat) k t,j<i+1->ks[j]? =some k->s'[ks.length-1-j]? =some t->im k t:=fun ok=>by
     intro j k2 t2 h1 h2 h3;by_cases z:j=i
     ·subst z;rw[ek]at h2;cases h2;rw[et]at h3;cases h3;exact ok
     ·exact hj j k2 t2 (by omega) h2 h3
    have er:¬im k t->Er E (-4) H':=fun n=>by
     have:¬fv ks.reverse s'=true:=fun z=>n ((pP _ _ (by rw[bN];omega)).mp z (ks.length-1-i) k t (by rw[rV (by omega),<-ek];congr 1;omega) et);rw[if_neg this]at q;exact q
    clear hk q hj hx;by_cases c1:k="any"
    ·left;exact⟨by omega,nxt (.inl c1)⟩
    ·by_cases c2:ba t=k
     ·left;exact⟨by omega,nxt (.inr c2)⟩
     ·left;exact er fun z=>z.elim c1 c2
   ·rintro σ' H' ⟨kv,rfl,rfl,hj⟩;have:fv ks.reverse s'=true:=(pP _ _ (by rw[bN];omega)).mpr fun j k t h1 h2=>by
     have jl:j<ks.length:=by have:=(cP.mp h1).1;rw[bN]at this;exact this
     rw[rV jl]at h1;refine hj (ks.length-1-j) k t (by rw[bK];omega) h1 ?_;rw[<-h2];congr 1;omega
    rw[if_pos this]at q;exact q
inductive Lq(K:ax)(vs:List V)(H:Hp)(Q:VK)(E:XK):Prop
 |mk:∀a dx p,(vs=[.ref a,.ref p])->(H a=some (.aP (ak K "RunFrame") dx []))->(∀H',bJ a H H'->H' a=some (.aP (ak K "RunFrame") dx [("things",.ref p),("place",.int ((0:Nat):Int))])->Q .aO H')->Lq K vs H Q E
def VQ(K:ax):Sp:=fun vs H Q E=>Lq K vs H Q E
inductive Lr(K:ax)(vs:List V)(H:Hp)(Q:VK)(E:XK):Prop
 |mk:∀a C dx p,(vs=[.ref a,.ref p])->(H a=some (.aP C dx []))->(d8 K C)->(cU K C "body")->(∀H',bJ a H H'->H' a=some (.aP C dx [("body",.ref p)])->Q .aO H')->Lr K vs H Q E
def VR(K:ax):Sp:=fun vs H Q E=>Lr K vs H Q E
inductive Ls(K:ax)(vs:List V)(H:Hp)(Q:VK)(E:XK):Prop
 |mk:∀m g M,(vs=[.ref m])->(MI K (bc K) m g M H)->(if 128<=M.frames.length then Er E (-7) H else Q .aO H)->Ls K vs H Q E
def VS(K:ax):Sp:=fun vs H Q E=>Ls K vs H Q E
inductive Lu(K:ax)(vs:List V)(H:Hp)(Q:VK)(E:XK):Prop
 |mk:∀m g M fr a,(vs=[.ref m,.ref a])->(MI K (bc K) m g M H)->(gG K H fr a)->(a∉aK m g)->(M.frames.length<=128)->(if 128<=M.frames.length then Er E (-7) H else
 ∀H',bJ g.bB H H'->MI K (bc K) m {g with fs:=a::g.fs} {M with frames:=fr::M.frames} H'->Q .aO H')->Lu K vs H Q E
def VT(K:ax):Sp:=fun vs H Q E=>Lu K vs H Q E
theorem mL(T:Txt K)(M:MG K mg):ZM 1 "RunFrame" "__init__" ["self","things"] (VQ K):=by
 refine ZB T.lu S9
 ·obtain⟨a,dx,p,rfl,_⟩:=h;rfl
 ·obtain⟨a,dx,p,rfl,ha,q⟩:=h;refine⟨_,(Zq (ij (pw 0) (pw 1) rfl) (ij (pw 0) aS rfl)),?_⟩;have hc:=T.Km;have h1:=T.Ky;have h2:=T.Kz;exact i4 ha hc h1 rfl (i4 az hc h2 rfl (q _ (bM.trans bM) az))
theorem xj(T:Txt K)(M:MG K mg):ZM 1 "LoopFrame" "__init__" ["self","body"] (VR K):=by
 refine ZB T.tQ Ta
 ·obtain⟨a,C,dx,p,rfl,_⟩:=h;rfl
 ·obtain⟨a,C,dx,p,rfl,ha,hc,h1,q⟩:=h;refine⟨_,(cg (ij (pw 0) (pw 1) rfl)),?_⟩;exact i4 ha hc h1 rfl (q _ bM az)
theorem BN(T:Txt K)(M:MG K mg):ZM 4 "Machine" "check_frame_room" ["self"] (VS K):=by
 refine ZB T.wy.df Tz
 ·obtain⟨m,g,M0,rfl,_⟩:=h;rfl
 ·obtain⟨m,g,M0,rfl,I,q⟩:=h;refine⟨_,(cg (Zz (Zc jF (Zl dD (Zd 0)) (a8 M T.UW)) (Zr T.kM T.lw lF T.kK T.lv))),?_⟩;walk_at "at";have ha:=T.j4;have hs:=I.bB;have hl:M0.frames.length=g.fs.length:=I.eL.length;left;rw[bN,bK];by_cases c:128<=M0.frames.length
  ·rw[if_pos c]at q;rw[if_pos (by lia)];exact q
  ·rw[if_neg c]at q;rw[if_neg (by lia)];exact q
theorem pQ(T:Txt K)(M:MG K mg):ZM 5 "Machine" "put_frame" ["self","frame"] (VT K):=by
 refine ZB T.nQ.df TB
 ·obtain⟨m,g,M0,fr,a,rfl,_⟩:=h;rfl
 ·obtain⟨m,g,M0,fr,a,rfl,I,hf,na,hz,q⟩:=h;refine⟨_,(Zq (aE (Zw (pw 0) T.wy BN)) (aE (Za iP (Zd 0) (pw 1)))),?_⟩;walk_at "at";have ha:=T.j4;have hs:=I.bB;have ty:=dc (K:=K) hs;have hl:M0.frames.length=g.fs.length:=I.eL.length;left;refine⟨m,g,M0,rfl,I,?_⟩;by_cases c:128<=M0.frames.length
  ·rw[if_pos c]at q ⊢;exact q
  ·rw[if_neg c]at q ⊢;right;clear hl;left;refine⟨by rw[bN,bK,<-I.eL.length,bR];lia,q _ bM ?_⟩;exact I.Lk bM hf na (by rw[az,d6,kn])
inductive Lv(K:ax)(vs:List V)(H:Hp)(Q:VK)(E:XK):Prop
 |mk:∀m g M n fr a,(vs=[.ref m,.int ((n:Nat):Int),.ref a])->(MI K (bc K) m g M H)->(gG K H fr a)->(a∉aK m g)->(M.frames.length<=128)->(n<=M.stack.length)->(xf K m g M n fr a H Q E)->Lv K vs H Q E
def VU(K:ax):Sp:=fun vs H Q E=>Lv K vs H Q E
theorem pR(T:Txt K)(M:MG K mg):ZF 6 "enter" ["machine","how_many","frame"] (VU K):=by
 refine ZB T.nS TC
 ·obtain⟨m,g,M0,n,fr,a,rfl,_⟩:=h;rfl
 ·obtain⟨m,g,M0,n,fr,a,rfl,I,hf,na,hz,hn,q⟩:=h;refine⟨_,(Zq (aE (Zv (pw 0) T.nQ pQ (pw 2))) (aE (Zf T.nP T.mq oq (Zd 0) (pw 1)))),?_⟩;walk_at "at";have ha:=T.gA;left;refine⟨m,g,M0,fr,a,rfl,I,hf,na,hz,?_⟩;unfold xf at q;by_cases c:128<=M0.frames.length
  ·rw[if_pos c]at q ⊢;exact q
  ·rw[if_neg c]at q ⊢;right;intro H1 b1 J;have hm1:=J.cy;have hs1:=J.au;have ml:dy {g with fs:=a::g.fs} {M0 with frames:=fr::M0.frames}=dy g M0:=rfl;rw[ml]at hm1;clear hm;left;refine⟨g.au,g.l,n,rfl,J.au,?_,fun H' b2 hp'=>?_⟩
   ·have:=I.bh.length;lia
   ·have tk2:cq H1 H':=b2.aj J.au fun _ z=>by cases z
    refine q H' (fun b o n1 n2 e=>b2 b o n2 (b1 b o n1 e)) (J.pL b2 (by rw[hp'];simp) (aM (J.bh.drop n) tk2))
theorem rj{k1 k2:af}{s:List aB}(h:eC [k1,k2] s=none):∃t u r,s=t::u::r/\im k2 t/\im k1 u:=by
 unfold eC at h;split at h
 ·cases h
 ·rename_i c;split at h
  ·rename_i z;match s,c,z with
   |[],c,_=>exact absurd (by simp) c
   |[_],c,_=>exact absurd (by show 1<2;decide) c
   |t::u::r,_,z=>
    have z:=(pP [k2,k1] (t::u::r) (by simp)).mp z;exact⟨t,u,r,rfl,z 0 k2 t rfl rfl,z 1 k1 u rfl rfl⟩
  ·cases h
theorem mM{k1:af}{s:List aB}(h:eC [k1] s=none):∃t r,s=t::r/\im k1 t:=by
 unfold eC at h;split at h
 ·cases h
 ·rename_i c;split at h
  ·rename_i z;match s,c,z with
   |[],c,_=>exact absurd (by simp) c
   |t::r,_,z=>
    have z:=(pP [k1] (t::r) (by simp)).mp z;exact⟨t,r,rfl,z 0 k1 t rfl rfl⟩
  ·cases h
theorem iq{ks:List af}{s:List aB}{z:Int}(h:eC ks s=some z):(s.length<ks.length/\z= -3)\/(¬s.length<ks.length/\fv ks.reverse s=false/\z= -4):=by
 unfold eC at h;split at h
 ·rename_i c;cases h;exact .inl ⟨c,rfl⟩
 ·rename_i c;split at h
  ·cases h
  ·rename_i d;cases h;exact .inr ⟨c,by simpa using d,rfl⟩
theorem im.kind{k:af}{t:aB}(h:im k t)(n:k≠"any"):ba t=k:=h.elim (fun z=>absurd z n) id
theorem eg.val{H:Hp}{aF nums':List Int}{t:aB}(c:eg t):∀x,bU H aF t x->bU H nums' t x:=by
 induction c with
 |int _ _=>intro x h;rw[bU]at h ⊢;exact h
 |lit _=>intro x h;rw[bU]at h ⊢;exact h
 |word _=>intro x h;rw[bU]at h ⊢;exact h
 |proc hb ih=>
  intro x h;rw[tW]at h ⊢;obtain⟨p,vs,h1,h2,h3⟩:=h;refine⟨p,vs,h1,h2,h3.cG fun a b m q=>?_⟩;obtain⟨y,z,e1,e2,e3⟩:=q;exact⟨y,z,e1,e2,ih a m z e3⟩
theorem BO{H:Hp}{aF nums':List Int}{b:List aB}{vs:List V}(c:∀v∈b,eg v)(h:aX (bF H aF) b vs):aX (bF H nums') b vs:=h.cG fun a _ m q=>let⟨y,z,e1,e2,e3⟩:=q;⟨y,z,e1,e2,(c a m).val z e3⟩
inductive Lw(H:Hp)(b:List aB)(v:V):Prop
 |mk:∀a p vs,(v=.ref a)->(H a=some (.aj [.str "procedure",.ref p]))->(H p=some (.aj vs))->(aX (bF H []) b vs)->Lw H b v
theorem bF.proc{H:Hp}{aF:List Int}{b:List aB}{v:V}(h:bF H aF (.proc b) v)(c:∀v∈b,eg v):Lw H b v:=by
 obtain⟨a,x,h1,h2,h3⟩:=h;obtain⟨p,vs,rfl,h4,h5⟩:=tW.mp h3;exact⟨a,p,vs,h1,h2,h4,BO c h5⟩
theorem bF.truth{H:Hp}{aF:List Int}{b:Bool}{v:V}(h:bF H aF (.truth b) v):BG H v [.str "truth",.bl b]:=by
 obtain⟨a,x,h1,h2,h3⟩:=h;rw[bU]at h3;subst h3;exact⟨a,h1,h2⟩
theorem Lx{wkv:List (Key×V)}{m:ae}{g:G}{M0:aY}{H:Hp}(I:MI K wkv m g M0 H):∀b∈aK m g,∃o,H b=some o:=by
 intro b hb;rcases cS.mp hb with z|z
 ·simp only[bu,br,gK,or_false]at z;rcases z with rfl|rfl|rfl|rfl|rfl|rfl|rfl|rfl|rfl|rfl|rfl|rfl
  ·exact⟨_,I.cy⟩
  ·exact⟨_,I.au⟩
  ·exact⟨_,I.bB⟩
  ·exact⟨_,I.dC⟩
  ·exact⟨_,I.si.aZ⟩
  ·exact⟨_,I.sd⟩
  ·exact⟨_,I.si.aG⟩
  ·exact⟨_,I.si.aD⟩
  ·exact⟨_,I.si.bQ⟩
  ·exact⟨_,I.si.bI⟩
  ·exact⟨_,I.si.bz⟩
  ·exact⟨_,I.fY⟩
 ·rcases cS.mp z with z|z
  ·obtain⟨i,hi⟩:=yr z;obtain⟨f,_,hf⟩:=I.eL.hX i b hi;obtain⟨C,dx,fs,e⟩:=hf.aP;exact⟨_,e⟩
  ·rcases cS.mp z with z|z
   ·exact I.ia b z
   ·obtain⟨s,hs,z⟩:=mZ.mp z;obtain⟨i,hi⟩:=yr hs;obtain⟨h,_,hh⟩:=I.si.jf.hX i s hi;simp only[br,gK,or_false]at z;rcases z with rfl|rfl|rfl
    ·exact⟨_,hh.obj⟩
    ·exact⟨_,hh.aG⟩
    ·exact⟨_,hh.aD⟩
theorem fG{wkv:List (Key×V)}{m:ae}{g:G}{M0:aY}{H:Hp}(I:MI K wkv m g M0 H){x:ae}(h:H x=none):x∉aK m g:=fun z=>by
 obtain⟨o,e⟩:=Lx I x z;rw[h]at e;cases e
theorem iD{H1 H2:Hp}{x dx:ae}{o o2:HO}(nx:H1 x=none)(nd:H1 dx=none)(b:bJ x (aq (aq H1 dx o) x o2) H2):L2.aL H1 H2:=fun c u e=>b c u (bw e nx) (by rw[aJ (bw e nx),aJ (bw e nd)];exact e)
theorem oz{wkv:List (Key×V)}{m:ae}{g:G}{M0:aY}{H H1:Hp}(I:MI K wkv m g M0 H)(k:L2.aL H H1){x:ae}(h:H1 x=none){H2:Hp}{o:HO}(_:H2 x=some o){H3:Hp}(_:bJ x H3 H2):x∉aK m g:=fG I (k.free h)
inductive Ly(K:ax)(vs:List V)(H:Hp)(Q:VK)(E:XK):Prop
 |mk:∀a dx p n,(vs=[.ref a,.int n,.ref p])->(H a=some (.aP (ak K "RepeatFrame") dx []))->(∀H',bJ a H H'->H' a=some (.aP (ak K "RepeatFrame") dx [("body",.ref p),("turns",.int n)])->Q .aO H')->Ly K vs H Q E
def VV(K:ax):Sp:=fun vs H Q E=>Ly K vs H Q E
inductive Lz(K:ax)(vs:List V)(H:Hp)(Q:VK)(E:XK):Prop
 |mk:∀a dx p x y z,(vs=[.ref a,.int x,.int y,.int z,.ref p])->(H a=some (.aP (ak K "ForFrame") dx []))->(∀H',bJ a H H'->H' a=some (.aP (ak K "ForFrame") dx [("body",.ref p),("number",.int x),("stride",.int y),("last",.int z)])->Q .aO H')->Lz K vs H Q E
def VW(K:ax):Sp:=fun vs H Q E=>Lz K vs H Q E
inductive LA(K:ax)(vs:List V)(H:Hp)(Q:VK)(E:XK):Prop
 |mk:∀a dx p r,(vs=[.ref a,.ref r,.ref p])->(H a=some (.aP (ak K "ForallFrame") dx []))->(∀H',bJ a H H'->H' a=some (.aP (ak K "ForallFrame") dx [("body",.ref p),("array",.ref r),("place",.int ((0:Nat):Int))])->Q .aO H')->LA K vs H Q E
def VX(K:ax):Sp:=fun vs H Q E=>LA K vs H Q E
theorem VY(T:Txt K)(M:MG K mg):ZM 2 "RepeatFrame" "__init__" ["self","turns","body"] (VV K):=by
 refine ZB T.IB Tc
 ·obtain⟨a,dx,p,n,rfl,_⟩:=h;rfl
 ·obtain⟨a,dx,p,n,rfl,ha,q⟩:=h;refine⟨_,(Zq (aE (kG rfl (M.val _ _ T.qV) T.Bs (xj T M) hr T.tQ.bd .nil (fT (E:=E)) (Zy (pw 0) (pw 2)))) (ij (pw 0) (pw 1) rfl)),?_⟩;have hc:=T.Ko;have h1:=T.KC;have h2:=T.KD;exact⟨a,_,dx,p,rfl,ha,hc,h1,fun H1 b1 e1=>i4 e1 hc h2 rfl (q _ (b1.trans bM) az)⟩
theorem VZ(T:Txt K)(M:MG K mg):ZM 2 "ForFrame" "__init__" ["self","first","stride","last","body"] (VW K):=by
 refine ZB T.ID Te
 ·obtain⟨a,dx,p,x,y,z,rfl,_⟩:=h;rfl
 ·obtain⟨a,dx,p,x,y,z,rfl,ha,q⟩:=h;refine⟨_,(Zq (aE (kG rfl (M.val _ _ T.qV) T.Bs (xj T M) hr T.tQ.bd .nil (fT (E:=E)) (Zy (pw 0) (pw 4)))) (ij (pw 0) (pw 1) rfl) (ij (pw 0) (pw 2) rfl) (ij (pw 0) (pw 3) rfl)),?_⟩;have hc:=T.wH;have h1:=T.KG;have h2:=T.Bx;have h3:=T.By;have h4:=T.KH;exact⟨a,_,dx,p,rfl,ha,hc,h1,fun H1 b1 e1=>i4 e1 hc h2 rfl (i4 az hc h3 rfl (i4 az hc h4 rfl (q _ (((b1.trans bM).trans bM).trans bM) az)))⟩
theorem V0(T:Txt K)(M:MG K mg):ZM 2 "ForallFrame" "__init__" ["self","array","body"] (VX K):=by
 refine ZB T.IG Th
 ·obtain⟨a,dx,p,r,rfl,_⟩:=h;rfl
 ·obtain⟨a,dx,p,r,rfl,ha,q⟩:=h;refine⟨_,(Zq (aE (kG rfl (M.val _ _ T.qV) T.Bs (xj T M) hr T.tQ.bd .nil (fT (E:=E)) (Zy (pw 0) (pw 2)))) (ij (pw 0) (pw 1) rfl) (ij (pw 0) aS rfl)),?_⟩;have hc:=T.wI;have h1:=T.KI;have h2:=T.Bz;have h3:=T.KJ;exact⟨a,_,dx,p,rfl,ha,hc,h1,fun H1 b1 e1=>i4 e1 hc h2 rfl (i4 az hc h3 rfl (q _ ((b1.trans bM).trans bM) az))⟩
theorem V1(T:Txt K)(M:MG K mg):ZF 7 "do_exec" ["machine"] (cO K (bD "exec")):=by
 refine ZC T.Jh GW
 ·nofun;refine⟨_,(Zq (Zs 1 GW (Zd 0)) (aE (Zf T.hG T.gE ip (pw 1) (Zt (a8 M T.kN)))) (aE (Zf T.pE T.nS pR (pw 0) aS (Zm T.mz mL T.my T.lu (Zi (Zn (pw 1))))))),?_⟩;walk_at "as";have k0:=bA (o:=HO.aj [V.str "procedure"]) hk;refine⟨g.au,g.l,M0.stack,g.aF,kt,["procedure"],rfl,k0 _ _ hs,aM I.bh (SW.aL.aj k0),az,?_⟩;cases e:eC ["procedure"] M0.stack with
  |some z=>
   have:bD "exec" M0=.error z:=by
    show(match M0.stack with| .proc p::r=>M0.frame r (.code p)|_::_=>.error dq|_=>.error cE)=_;rcases iq e with⟨h1,rfl⟩|⟨h1,h2,rfl⟩
    ·match es:M0.stack,h1 with
     |[],_=>rfl
    ·match es:M0.stack,h1,h2 with
     |t::r,_,h2=>cases t<;>first|rfl|(simp[fv,ba]at h2)
     |[],h1,_=>exact absurd (by simp) h1
   walk_at "am"
  |none=>
   obtain⟨t,r,es,ht⟩:=mM e;obtain⟨p,rfl⟩:=kQ (ht.kind (by decide));have hV:=I.bh;have hv:=W.au;rw[es]at hV hv;have cp:∀v∈p,eg v:=hv (.proc p) (by simp);obtain⟨v,l',el,h1,h2⟩:=hV.bW;obtain⟨a,pp,vs,rfl,ea,ep,hp⟩:=h1.proc cp;have q2:aI K m g H Q E (M0.frame (M0.stack.drop 1) (.code p)):=by
    have:bD "exec" M0=M0.frame (M0.stack.drop 1) (.code p):=by
     show(match M0.stack with| .proc p::r=>M0.frame r (.code p)|_::_=>.error dq|_=>.error cE)=_;rw[es];rfl
    rw[<-this];exact q
   show cu _ _ _ none;unfold cu;have hs1:=k0 _ _ hs;have ea1:=k0 _ _ ea;have ep1:=k0 _ _ ep;have hm1:=k0 _ _ hm;rw[el]at hs1;generalize aq H kt (.aj [.str "procedure"])=H1 at *;clear q hs hm ea;left;intro x dx nx nd ne;refine⟨x,dx,pp,rfl,az,fun H2 b2 hx2=>?_⟩;have s2:=iD nx nd b2;exact⟨rfl,m,g,M0,1,.code p,x,rfl,I.same (k0.trans s2),⟨dx,pp,vs,0,hx2,s2 _ _ ep1,cI _,aM hp (SW.aL.aj (k0.trans s2))⟩,oz I k0 nx hx2 b2,hzf,by rw[es];simp,q2.frame (k0.trans s2) (k0.free nx)⟩
theorem mO{α β:Type}{R R':α->β->Prop}:∀{l:List α}{r:List β},aX R l r->(∀a b,b∈r->R a b->R' a b)->aX R' l r:=by
 intro l r h;induction h with
 |nil=>exact fun _=>.nil
 |cons h t ih=>exact fun f=>.cons (f _ _ cw h) (ih fun a b m=>f a b (bP _ m))
theorem BP{α β:Type}{R R':α->β->Prop}{x:α}:∀{l:List α}{r:List β},aX R l r->∀(i:Nat){b0:β},r[i]? =some b0->r.Nodup->(∀a b,b∈r->b≠b0->R a b->R' a b)->R' x b0->aX R' (l.set i x) r:=by
 intro l r h;induction h with
 |nil=>intro i b0 h;simp at h
 |cons h t ih=>
  intro i b0 e nd f hx;cases i with
  |zero=>
  cases e;exact .cons hx (mO t fun a b hb q=>f a b (bP _ hb) (fun z=>(eG.mp nd).1 (z▸hb)) q)
  |succ i=>
  have e':=e;rw[uj]at e';exact .cons (f _ _ cw (fun z=>(eG.mp nd).1 (by rw[z];exact dR e')) h) (ih i e' (eG.mp nd).2 (fun a b hb=>f a b (bP _ hb)) hx)
theorem LB{α β:Type}{R:α->β->Prop}{b0 t:β}:∀{l:List α}{r:List β},aX R l r->∀(i:Nat),r[i]? =some b0->(∀a,R a b0->R a t)->aX R l (r.set i t):=by
 intro l r h;induction h with
 |nil=>intro i h;simp at h
 |cons h q ih=>
  intro i e f;cases i with
  |zero=>cases e;exact .cons (f _ h) q
  |succ i=>
   rw[uj]at e;exact .cons h (ih i e f)
theorem kd{α:Type}{t:α}:∀{l:List α}(i:Nat),l.Nodup->t∉l->(l.set i t).Nodup
 |[],_,h,_=>h
 |a::l,0,h,n=>eG.mpr ⟨fun z=>n (bP _ z),(eG.mp h).2⟩
 |a::l,i+1,h,n=>by
  rw[CF];refine eG.mpr ⟨fun z=>?_,kd i (eG.mp h).2 fun z=>n (bP _ z)⟩;rcases f8 z with z|z
  ·exact(eG.mp h).1 z
  ·exact n (z▸cw)
section
variable{K:ax}{wkv:List (Key×V)}{m:ae}{g:G}{M:aY}{H H':Hp}{h:b9}{kept:List b9}
theorem SI.rest(x:SI K g h kept H)(k:cq H H')(k1:∀b o,b∈g.bx\/b∈g.sg.flatMap (fun s:SG=>[s.a,s.aG,s.aD])->H b=some o->H' b=some o):aX (lB H') h.arrays g.items/\aX (lC H') h.tables g.bg/\aX (lD K H') kept g.sg:=by
 refine⟨mO x.fu fun a b hb q=>q.keep k fun o=>k1 b o (.inl (x.gj b hb)),mO x.fb fun a b hb q=>q.keep k fun o=>k1 b o (.inl (x.fZ b hb)),mO x.jf fun a b hb q=>q.keep k fun c o hc=>k1 c o ?_⟩;have fm:∀c,c=b.a\/c=b.aG\/c=b.aD->c∈g.sg.flatMap (fun s:SG=>[s.a,s.aG,s.aD]):=fun c z=>mZ.mpr ⟨b,hb,by rcases z with z|z|z<;>simp[z]⟩;rcases hc with z|z|z|z|z
 ·exact .inr (fm c (.inl z))
 ·exact .inr (fm c (.inr (.inl z)))
 ·exact .inr (fm c (.inr (.inr z)))
 ·exact .inl ((x.eK b hb).1 c z)
 ·exact .inl ((x.eK b hb).2 c z)
theorem MI.oB(I:MI K wkv m g M H){aG aD bQ bI bz:ae}{made:Int}{items bg:List ae}{sg:List SG}{oA oT:List (Key×V)}{bx:List ae}{h':b9}{k':List b9}
(tk:cq H H')(hk:∀b o,b∈[m,g.fY,g.au,g.bB,g.dC,g.sd]\/b∈g.fs->H b=some o->H' b=some o)(sv:aX (bF H' (sg.map (·.eJ))) M.stack g.l)
(si:SI K {g with aG:=aG,aD:=aD,bQ:=bQ,bI:=bI,bz:=bz,made:=made,items:=items,bg:=bg,sg:=sg,oA:=oA,oT:=oT,bx:=bx} h' k' H')(pi:∀b∈bx,∃o,H' b=some o)(nf:(bu m {g with aG:=aG,aD:=aD,bQ:=bQ,bI:=bI,bz:=bz,made:=made,items:=items,bg:=bg,sg:=sg,oA:=oA,oT:=oT,bx:=bx}).Nodup)(nv:(var {g with aG:=aG,aD:=aD,bQ:=bQ,bI:=bI,bz:=bz,made:=made,items:=items,bg:=bg,sg:=sg,oA:=oA,oT:=oT,bx:=bx}).Nodup)(dj:∀a∈bu m {g with aG:=aG,aD:=aD,bQ:=bQ,bI:=bI,bz:=bz,made:=made,items:=items,bg:=bg,sg:=sg,oA:=oA,oT:=oT,bx:=bx},a∉var {g with aG:=aG,aD:=aD,bQ:=bQ,bI:=bI,bz:=bz,made:=made,items:=items,bg:=bg,sg:=sg,oA:=oA,oT:=oT,bx:=bx}):MI K wkv m {g with aG:=aG,aD:=aD,bQ:=bQ,bI:=bI,bz:=bz,made:=made,items:=items,bg:=bg,sg:=sg,oA:=oA,oT:=oT,bx:=bx} {M with heap:=h',kept:=k'} H':=
 ⟨hk _ _ (.inl (by simp)) I.cy,hk _ _ (.inl (by simp)) I.fY,hk _ _ (.inl (by simp)) I.au,sv,hk _ _ (.inl (by simp)) I.bB,mF I.eL tk fun b hb o=>hk b o (.inr hb),hk _ _ (.inl (by simp)) I.dC,hk _ _ (.inl (by simp)) I.sd,si,pi,nf,nv,dj,I.mb⟩
theorem jg{t:ae}(h:t∉aK m g):t∉bu m g/\t∉g.fs/\t∉g.bx/\t∉g.sg.flatMap (fun s:SG=>[s.a,s.aG,s.aD]):=
 ⟨fun z=>h (c7 _ z),fun z=>h (bX _ (c7 _ z)),fun z=>h (bX _ (bX _ (c7 _ z))),fun z=>h (bX _ (bX _ (bX _ z)))⟩
theorem MI.LC(I:MI K wkv m g M H){t:ae}(ht:t∈g.bx):t∉bu m g/\t∉g.fs/\t∉g.sg.flatMap (fun s:SG=>[s.a,s.aG,s.aD]):=by
 have nd:=I.ib;unfold var at nd;rw[mY]at nd;obtain⟨n1,n2,n3⟩:=nd;rw[mY]at n2;exact⟨fun z=>I.dj t z (bX _ (c7 _ ht)),fun z=>n3 t z t (c7 _ ht) rfl,fun z=>n2.2.2 t ht t z rfl⟩
theorem MI.lH(I:MI K wkv m g M H){x b:ae}(hx:x∈[g.aZ,g.aG,g.aD,g.bQ,g.bI,g.bz])(hb:b∈[m,g.fY,g.au,g.bB,g.dC,g.sd]\/b∈g.fs):b≠x:=by
 have e2:∃j,(j=4\/j=6\/j=7\/j=8\/j=9\/j=10)/\(bu m g)[j]? =some x:=by
  simp only[br,gK,or_false]at hx;rcases hx with rfl|rfl|rfl|rfl|rfl|rfl
  ·exact⟨4,by simp,rfl⟩
  ·exact⟨6,by simp,rfl⟩
  ·exact⟨7,by simp,rfl⟩
  ·exact⟨8,by simp,rfl⟩
  ·exact⟨9,by simp,rfl⟩
  ·exact⟨10,by simp,rfl⟩
 obtain⟨j,hj,ej⟩:=e2;rintro rfl;rcases hb with hb|hb
 ·have e1:∃i,(i=0\/i=11\/i=1\/i=2\/i=3\/i=5)/\(bu m g)[i]? =some b:=by
   simp only[br,gK,or_false]at hb;rcases hb with rfl|rfl|rfl|rfl|rfl|rfl
   ·exact⟨0,by simp,rfl⟩
   ·exact⟨11,by simp,rfl⟩
   ·exact⟨1,by simp,rfl⟩
   ·exact⟨2,by simp,rfl⟩
   ·exact⟨3,by simp,rfl⟩
   ·exact⟨5,by simp,rfl⟩
  obtain⟨i,hi,ei⟩:=e1;have:=AB I.dk ei ej;omega
 ·exact(I.dt (dR ej)).1 hb
theorem MI.LD(I:MI K wkv m g M H){x b:ae}(hx:x∉bu m g/\x∉g.fs)(hb:b∈[m,g.fY,g.au,g.bB,g.dC,g.sd]\/b∈g.fs):b≠x:=by
 rintro rfl;rcases hb with hb|hb
 ·refine hx.1 ?_;simp only[br,gK,or_false]at hb;simp only[bu,br,gK,or_false];rcases hb with z|z|z|z|z|z<;>simp[z]
 ·exact hx.2 hb
theorem MI.xk(I:MI K wkv m g M H){t:ae}(h:t∉aK m g):(g.fs++((t::g.bx)++g.sg.flatMap (fun s:SG=>[s.a,s.aG,s.aD]))).Nodup/\∀a∈bu m g,a∉g.fs++((t::g.bx)++g.sg.flatMap (fun s:SG=>[s.a,s.aG,s.aD])):=by
 have pm:(g.fs++((t::g.bx)++g.sg.flatMap (fun s:SG=>[s.a,s.aG,s.aD]))).Perm (t::var g):=by rw[jn];exact List.perm_middle
 refine⟨pm.nodup_iff.mpr (eG.mpr ⟨fun z=>h (bX _ z),I.ib⟩),fun a ha z=>?_⟩;rcases br.mp (pm.mem_iff.mp z)with z|z
 ·exact h (c7 _ (z▸ha))
 ·exact I.dj a ha z
theorem xn{t:ae}{g':G}(hm:∀v,fP (aK m g) H=some v->fP (aK m g') H'=some v)(ht:H t=none)(hf:∀b∈bu m g',b∈aK m g\/H b=none)(hv:∀b∈var g',b∈aK m g\/b=t\/H b=none)(hk:∀b o,b∉aK m g->H b=some o->H' b=some o)(ep:g'.bB=g.bB:=by rfl):Fr (aK m g) H (aK m g') H':=by
 refine⟨fun b o e n=>hk b o n e,fun b hb=>?_,congrArg some ep,hm⟩;rcases cS.mp hb with z|z
 ·exact hf b z
 ·rcases hv b z with z|z|z
  ·exact .inl z
  ·exact .inr (z▸ht)
  ·exact .inr z
theorem MI.V2(I:MI K wkv m g M H){t:ae}{vs:List V}{xs:List aB}(ht:H t=some (.ai vs))(hv:aX (bF H []) xs vs)(nt:t∉aK m g)
(hk:∀b o,b≠g.aG->b≠g.aZ->H b=some o->H' b=some o)(h1:H' g.aG=some (.ai ((g.items++[t]).map V.ref)))
(h2:H' g.aZ=some (.aP (ak K "Store") g.d9 (ee g {M.heap with arrays:=M.heap.arrays++[xs]}))):
  MI K wkv m {g with items:=g.items++[t],bx:=t::g.bx} {M with heap:={M.heap with arrays:=M.heap.arrays++[xs]}} H':=by
 have nd:=I.dk;have f:=jg nt;have oa:=I.dt (x:=g.aG) (by simp[bu]);have os:=I.dt (x:=g.aZ) (by simp[bu]);have tk:cq H H':=fun b ys h=>hk b _ (fun z=>by rw[z,I.si.aG]at h;cases h) (fun z=>by rw[z,I.si.aZ]at h;cases h) h;have nx:=I.xk nt;obtain⟨r1,r2,r3⟩:=I.si.rest tk fun b o hb=>hk b o (fun z=>by subst z;rcases hb with z|z;exact oa.2.1 z;exact oa.2.2 z) (fun z=>by subst z;rcases hb with z|z;exact os.2.1 z;exact os.2.2 z);have tn:t∉g.items:=fun z=>f.2.2.1 (I.si.gj t z);have kt:=hk t _ (fun z=>f.1 (by rw[z];simp[bu])) (fun z=>f.1 (by rw[z];simp[bu])) ht;refine I.oB tk (fun b o hb=>hk b o (I.lH (by simp) hb) (I.lH (by simp) hb)) (aM I.bh tk)
  ⟨h2,h1,hk _ _ (bG nd 7 6 rfl rfl (by decide)) (bG nd 7 4 rfl rfl (by decide)) I.si.aD,hk _ _ (bG nd 8 6 rfl rfl (by decide)) (bG nd 8 4 rfl rfl (by decide)) I.si.bQ,hk _ _ (bG nd 9 6 rfl rfl (by decide)) (bG nd 9 4 rfl rfl (by decide)) I.si.bI,hk _ _ (bG nd 10 6 rfl rfl (by decide)) (bG nd 10 4 rfl rfl (by decide)) I.si.bz,
   r1.app (.cons ⟨vs,kt,aM hv tk⟩ .nil),r2,r3,?_,I.si.gx,?_,fun b hb=>bP _ (I.si.fZ b hb),fun s hs=>⟨fun b hb=>bP _ ((I.si.eK s hs).1 b hb),fun b hb=>bP _ ((I.si.eK s hs).2 b hb)⟩,?_,I.si.j7,I.si.iB,I.si.gX,
   ⟨I.si.kA.1,fun k hk=>let⟨i,h,e⟩:=I.si.kA.2 k hk;⟨i,by show i<(g.items++[t]).length;rw[eQ];omega,e⟩⟩,I.si.kT⟩ ?_ nd nx.1 nx.2
 ·exact mY.mpr ⟨I.si.hZ,eG.mpr ⟨by simp,r6⟩,fun a ha b hb z=>tn (by rw[eR]at hb;rw[<-hb,<-z];exact ha)⟩
 ·intro b hb;rcases cS.mp hb with z|z
  ·exact bP _ (I.si.gj b z)
  ·rw[eR.mp z];exact cw
 ·intro i b hi hb s hs;have hb':(g.items++[t])[i]? =some b:=hb
  by_cases c:i<g.items.length
  ·rw[yb c]at hb';exact I.si.j6 i b hi hb' s hs
  ·rw[CJ (by omega)]at hb';have:=dR hb';rw[eR]at this;subst this;exact fun z=>f.2.2.1 ((I.si.eK s hs).1 b z)
 ·intro b hb;rcases br.mp hb with z|z
  ·exact⟨_,z▸kt⟩
  ·obtain⟨o,e⟩:=I.ia b z;exact⟨o,hk b o (fun y=>oa.2.1 (y▸z)) (fun y=>os.2.1 (y▸z)) e⟩
theorem MI.V3(I:MI K wkv m g M H){t:ae}(ht:H t=some (.dK []))(nt:t∉aK m g)(hk:bJ g.aD H H')(h1:H' g.aD=some (.ai ((g.bg++[t]).map V.ref))):
  MI K wkv m {g with bg:=g.bg++[t],bx:=t::g.bx} {M with heap:={M.heap with tables:=M.heap.tables++[[]]}} H':=by
 have nd:=I.dk;have f:=jg nt;have oa:=I.dt (x:=g.aD) (by simp[bu]);have tk:cq H H':=hk.aj I.si.aD fun _ z=>by cases z
 have nx:=I.xk nt;obtain⟨r1,r2,r3⟩:=I.si.rest tk fun b o hb=>hk b o (fun z=>by subst z;rcases hb with z|z;exact oa.2.1 z;exact oa.2.2 z);have tn:t∉g.bg:=fun z=>f.2.2.1 (I.si.fZ t z);have kt:=hk t _ (fun z=>f.1 (by rw[z];simp[bu])) ht;refine I.oB tk (fun b o hb=>hk b o (I.lH (by simp) hb)) (aM I.bh tk)
  ⟨hk _ _ (bG nd 4 7 rfl rfl (by decide)) I.si.aZ,hk _ _ (bG nd 6 7 rfl rfl (by decide)) I.si.aG,h1,hk _ _ (bG nd 8 7 rfl rfl (by decide)) I.si.bQ,hk _ _ (bG nd 9 7 rfl rfl (by decide)) I.si.bI,hk _ _ (bG nd 10 7 rfl rfl (by decide)) I.si.bz,
   r1,r2.app (.cons ⟨[],kt,.nil⟩ .nil),r3,I.si.hZ,?_,fun b hb=>bP _ (I.si.gj b hb),?_,fun s hs=>⟨fun b hb=>bP _ ((I.si.eK s hs).1 b hb),fun b hb=>bP _ ((I.si.eK s hs).2 b hb)⟩,I.si.j6,?_,I.si.iB,I.si.gX,
   I.si.kA,⟨I.si.kT.1,fun k hk=>let⟨i,h,e⟩:=I.si.kT.2 k hk;⟨i,by show i<(g.bg++[t]).length;rw[eQ];omega,e⟩⟩⟩ ?_ nd nx.1 nx.2
 ·exact mY.mpr ⟨I.si.gx,eG.mpr ⟨by simp,r6⟩,fun a ha b hb z=>tn (by rw[eR]at hb;rw[<-hb,<-z];exact ha)⟩
 ·intro b hb;rcases cS.mp hb with z|z
  ·exact bP _ (I.si.fZ b z)
  ·rw[eR.mp z];exact cw
 ·intro i b hi hb s hs;have hb':(g.bg++[t])[i]? =some b:=hb
  by_cases c:i<g.bg.length
  ·rw[yb c]at hb';exact I.si.j7 i b hi hb' s hs
  ·rw[CJ (by omega)]at hb';have:=dR hb';rw[eR]at this;subst this;exact fun z=>f.2.2.1 ((I.si.eK s hs).2 b z)
 ·intro b hb;rcases br.mp hb with z|z
  ·exact⟨_,z▸kt⟩
  ·obtain⟨o,e⟩:=I.ia b z;exact⟨o,hk b o (fun y=>oa.2.1 (y▸z)) e⟩
theorem MI.V4(I:MI K wkv m g M H){i:Nat}{t t0:ae}{vs:List V}(hi:g.items[i]? =some t0)(h0:H t0=some (.ai vs))(ft:H t=none)(no:cK g.oA (bZ (i:Int))=none)
(hk:∀b o,b≠g.aG->b≠g.bI->H b=some o->H' b=some o)(ht:H' t=some (.ai vs))(h1:H' g.aG=some (.ai ((g.items.set i t).map V.ref)))(h2:H' g.bI=some (.dK (ck g.oA (bZ (i:Int)) (.bl true)))):
  MI K wkv m {g with items:=g.items.set i t,oA:=ck g.oA (bZ (i:Int)) (.bl true),bx:=t::g.bx} M H':=by
 have nt:=fG I ft;have nd:=I.dk;have f:=jg nt;have oa:=I.dt (x:=g.aG) (by simp[bu]);have os:=I.dt (x:=g.bI) (by simp[bu]);have tk:cq H H':=fun b ys h=>hk b _ (fun z=>by rw[z,I.si.aG]at h;cases h) (fun z=>by rw[z,I.si.bI]at h;cases h) h;have nx:=I.xk nt;obtain⟨r1,r2,r3⟩:=I.si.rest tk fun b o hb=>hk b o (fun z=>by subst z;rcases hb with z|z;exact oa.2.1 z;exact oa.2.2 z) (fun z=>by subst z;rcases hb with z|z;exact os.2.1 z;exact os.2.2 z);have tn:t∉g.items:=fun z=>f.2.2.1 (I.si.gj t z);have p0:t0∈g.bx:=I.si.gj t0 (dR hi);have n1:t0≠g.aG:=fun z=>oa.2.1 (z▸p0);have n2:t0≠g.bI:=fun z=>os.2.1 (z▸p0);have il:i<g.items.length:=(cP.mp hi).1;refine I.oB tk (fun b o hb=>hk b o (I.lH (by simp) hb) (I.lH (by simp) hb)) (aM I.bh tk)
  ⟨hk _ _ (bG nd 4 6 rfl rfl (by decide)) (bG nd 4 9 rfl rfl (by decide)) I.si.aZ,h1,hk _ _ (bG nd 7 6 rfl rfl (by decide)) (bG nd 7 9 rfl rfl (by decide)) I.si.aD,hk _ _ (bG nd 8 6 rfl rfl (by decide)) (bG nd 8 9 rfl rfl (by decide)) I.si.bQ,h2,hk _ _ (bG nd 10 6 rfl rfl (by decide)) (bG nd 10 9 rfl rfl (by decide)) I.si.bz,LB r1 i hi fun a ⟨ws,e,q⟩=>⟨ws,by rw[hk _ _ n1 n2 h0]at e;rw[ht];exact e,q⟩,r2,r3,kd i I.si.hZ tn,I.si.gx, ?a,fun b hb=>bP _ (I.si.fZ b hb),fun s hs=>⟨fun b hb=>bP _ ((I.si.eK s hs).1 b hb),fun b hb=>bP _ ((I.si.eK s hs).2 b hb)⟩, ?b,I.si.j7,I.si.iB,I.si.gX, ?c,I.si.kT⟩ ?d nd nx.1 nx.2
 case a=>
  intro b hb;rcases f8 hb with z|z
  ·exact bP _ (I.si.gj b z)
  ·rw[z];exact cw
 case b=>
  intro j b hj hb s hs;have hb':(g.items.set i t)[j]? =some b:=hb
  have hj':(cK (ck g.oA (bZ (i:Int)) (.bl true)) (bZ (j:Int))).isSome=true:=hj;by_cases c:i=j
  ·subst c;rw[ki il]at hb';cases hb';exact fun z=>f.2.2.1 ((I.si.eK s hs).1 t z)
  ·rw[uk c]at hb';rw[tu,if_neg (fun z=>c (by have:=N7 z;omega))]at hj';exact I.si.j6 j b hj' hb' s hs
 case c=>
  refine⟨E3 _ I.si.kA.1 no,fun k hk=>?_⟩;have hk':k∈(ck g.oA (bZ (i:Int)) (.bl true)).map (·.1):=hk;rw[Al _ no,eY]at hk';show ∃j:Nat,j<(g.items.set i t).length/\_;rw[uC];rcases cS.mp hk' with z|z
  ·exact I.si.kA.2 k z
  ·exact⟨i,il,eR.mp z⟩
 case d=>
  intro b hb;rcases br.mp hb with z|z
  ·exact⟨_,z▸ht⟩
  ·obtain⟨o,e⟩:=I.ia b z;exact⟨o,hk b o (fun y=>oa.2.1 (y▸z)) (fun y=>os.2.1 (y▸z)) e⟩
theorem MI.LF(I:MI K wkv m g M H){i:Nat}{t t0:ae}{vs:List (Key×V)}(hi:g.bg[i]? =some t0)(h0:H t0=some (.dK vs))(ft:H t=none)(no:cK g.oT (bZ (i:Int))=none)
(hk:∀b o,b≠g.aD->b≠g.bz->H b=some o->H' b=some o)(ht:H' t=some (.dK vs))(h1:H' g.aD=some (.ai ((g.bg.set i t).map V.ref)))(h2:H' g.bz=some (.dK (ck g.oT (bZ (i:Int)) (.bl true)))):
  MI K wkv m {g with bg:=g.bg.set i t,oT:=ck g.oT (bZ (i:Int)) (.bl true),bx:=t::g.bx} M H':=by
 have nt:=fG I ft;have nd:=I.dk;have f:=jg nt;have oa:=I.dt (x:=g.aD) (by simp[bu]);have os:=I.dt (x:=g.bz) (by simp[bu]);have tk:cq H H':=fun b ys h=>hk b _ (fun z=>by rw[z,I.si.aD]at h;cases h) (fun z=>by rw[z,I.si.bz]at h;cases h) h;have nx:=I.xk nt;obtain⟨r1,r2,r3⟩:=I.si.rest tk fun b o hb=>hk b o (fun z=>by subst z;rcases hb with z|z;exact oa.2.1 z;exact oa.2.2 z) (fun z=>by subst z;rcases hb with z|z;exact os.2.1 z;exact os.2.2 z);have tn:t∉g.bg:=fun z=>f.2.2.1 (I.si.fZ t z);have p0:t0∈g.bx:=I.si.fZ t0 (dR hi);have n1:t0≠g.aD:=fun z=>oa.2.1 (z▸p0);have n2:t0≠g.bz:=fun z=>os.2.1 (z▸p0);have il:i<g.bg.length:=(cP.mp hi).1;refine I.oB tk (fun b o hb=>hk b o (I.lH (by simp) hb) (I.lH (by simp) hb)) (aM I.bh tk)
  ⟨hk _ _ (bG nd 4 7 rfl rfl (by decide)) (bG nd 4 10 rfl rfl (by decide)) I.si.aZ,hk _ _ (bG nd 6 7 rfl rfl (by decide)) (bG nd 6 10 rfl rfl (by decide)) I.si.aG,h1,hk _ _ (bG nd 8 7 rfl rfl (by decide)) (bG nd 8 10 rfl rfl (by decide)) I.si.bQ,hk _ _ (bG nd 9 7 rfl rfl (by decide)) (bG nd 9 10 rfl rfl (by decide)) I.si.bI,h2,r1,LB r2 i hi fun a ⟨ws,e,q⟩=>⟨ws,by rw[hk _ _ n1 n2 h0]at e;rw[ht];exact e,q⟩,r3,I.si.hZ,kd i I.si.gx tn,fun b hb=>bP _ (I.si.gj b hb), ?a,fun s hs=>⟨fun b hb=>bP _ ((I.si.eK s hs).1 b hb),fun b hb=>bP _ ((I.si.eK s hs).2 b hb)⟩,I.si.j6, ?b,I.si.iB,I.si.gX,I.si.kA, ?c⟩ ?d nd nx.1 nx.2
 case a=>
  intro b hb;rcases f8 hb with z|z
  ·exact bP _ (I.si.fZ b z)
  ·rw[z];exact cw
 case b=>
  intro j b hj hb s hs;have hb':(g.bg.set i t)[j]? =some b:=hb
  have hj':(cK (ck g.oT (bZ (i:Int)) (.bl true)) (bZ (j:Int))).isSome=true:=hj;by_cases c:i=j
  ·subst c;rw[ki il]at hb';cases hb';exact fun z=>f.2.2.1 ((I.si.eK s hs).2 t z)
  ·rw[uk c]at hb';rw[tu,if_neg (fun z=>c (by have:=N7 z;omega))]at hj';exact I.si.j7 j b hj' hb' s hs
 case c=>
  refine⟨E3 _ I.si.kT.1 no,fun k hk=>?_⟩;have hk':k∈(ck g.oT (bZ (i:Int)) (.bl true)).map (·.1):=hk;rw[Al _ no,eY]at hk';show ∃j:Nat,j<(g.bg.set i t).length/\_;rw[uC];rcases cS.mp hk' with z|z
  ·exact I.si.kT.2 k z
  ·exact⟨i,il,eR.mp z⟩
 case d=>
  intro b hb;rcases br.mp hb with z|z
  ·exact⟨_,z▸ht⟩
  ·obtain⟨o,e⟩:=I.ia b z;exact⟨o,hk b o (fun y=>oa.2.1 (y▸z)) (fun y=>os.2.1 (y▸z)) e⟩
theorem MI.LG(I:MI K wkv m g M H){i:Nat}{t:ae}{vs':List V}{xs':List aB}(hi:g.items[i]? =some t)(ho:(cK g.oA (bZ (i:Int))).isSome=true)(b0:bJ t H H')(h1:H' t=some (.ai vs'))(h2:aX (bF H' []) xs' vs')(hl:dI {M.heap with arrays:=M.heap.arrays.set i xs'}=dI M.heap):
  MI K wkv m g {M with heap:={M.heap with arrays:=M.heap.arrays.set i xs'}} H':=by
 have nd:=I.dk;have pt:t∈g.bx:=I.si.gj t (dR hi);have op:=I.LC pt;obtain⟨x0,ex,vs,ht,_⟩:=I.si.fu.hX i t hi;have tk:cq H H':=b0.aj ht fun _ z=>by cases z
 have nx:∀j {c:ae},(bu m g)[j]? =some c->c≠t:=fun j c h z=>op.1 (z▸dR h)
 refine I.oB tk (fun b o hb=>b0 b o (I.LD ⟨op.1,op.2.1⟩ hb)) (aM I.bh tk)
  ⟨by rw[show ee g {M.heap with arrays:=M.heap.arrays.set i xs'}=ee g M.heap by unfold ee;rw[hl]];exact b0 _ _ (nx 4 rfl) I.si.aZ,b0 _ _ (nx 6 rfl) I.si.aG,b0 _ _ (nx 7 rfl) I.si.aD,b0 _ _ (nx 8 rfl) I.si.bQ,b0 _ _ (nx 9 rfl) I.si.bI,b0 _ _ (nx 10 rfl) I.si.bz,BP I.si.fu i hi I.si.hZ (fun a b _ n q=>q.keep tk fun o=>b0 b o n) ⟨vs',h1,h2⟩,mO I.si.fb fun a b hb q=>let⟨ws,e,_⟩:=q;q.keep tk fun o=>b0 b o (fun z=>by rw[z,ht]at e;cases e),?_,I.si.hZ,I.si.gx,I.si.gj,I.si.fZ,I.si.eK,I.si.j6,I.si.j7,I.si.iB,I.si.gX,I.si.kA,I.si.kT⟩ ?_ nd I.ib I.dj
 ·refine mO I.si.jf fun a s hs q=>q.keep tk fun c o hc=>b0 c o ?_;have fm:∀c,c=s.a\/c=s.aG\/c=s.aD->c≠t:=fun c z y=>op.2.2 (mZ.mpr ⟨s,hs,by rw[<-y];rcases z with z|z|z<;>simp[z]⟩);rcases hc with z|z|z|z|z
  ·exact fm c (.inl z)
  ·exact fm c (.inr (.inl z))
  ·exact fm c (.inr (.inr z))
  ·exact fun y=>I.si.j6 i t ho hi s hs (y▸z)
  ·obtain⟨j,ej⟩:=yr z;obtain⟨a',ea',ws,e,_⟩:=q.fb.hX j c ej;exact fun y=>by rw[y,ht]at e;cases e
 ·intro b hb;by_cases z:b=t
  ·exact⟨_,z▸h1⟩
  ·obtain⟨o,e⟩:=I.ia b hb;exact⟨o,b0 b o z e⟩
theorem MI.xo(I:MI K wkv m g M H){i:Nat}{t:ae}{vs':List (Key×V)}{xs':List (bO×aB)}(hi:g.bg[i]? =some t)(ho:(cK g.oT (bZ (i:Int))).isSome=true)(b0:bJ t H H')(h1:H' t=some (.dK vs'))(h2:aX (oj H') xs' vs'):
  MI K wkv m g {M with heap:={M.heap with tables:=M.heap.tables.set i xs'}} H':=by
 have nd:=I.dk;have pt:t∈g.bx:=I.si.fZ t (dR hi);have op:=I.LC pt;obtain⟨x0,ex,vs,ht,_⟩:=I.si.fb.hX i t hi;have tk:cq H H':=b0.aj ht fun _ z=>by cases z
 have nx:∀j {c:ae},(bu m g)[j]? =some c->c≠t:=fun j c h z=>op.1 (z▸dR h)
 refine I.oB tk (fun b o hb=>b0 b o (I.LD ⟨op.1,op.2.1⟩ hb)) (aM I.bh tk)
  ⟨b0 _ _ (nx 4 rfl) I.si.aZ,b0 _ _ (nx 6 rfl) I.si.aG,b0 _ _ (nx 7 rfl) I.si.aD,b0 _ _ (nx 8 rfl) I.si.bQ,b0 _ _ (nx 9 rfl) I.si.bI,b0 _ _ (nx 10 rfl) I.si.bz,mO I.si.fu fun a b hb q=>let⟨ws,e,_⟩:=q;q.keep tk fun o=>b0 b o (fun z=>by rw[z,ht]at e;cases e),BP I.si.fb i hi I.si.gx (fun a b _ n q=>q.keep tk fun o=>b0 b o n) ⟨vs',h1,h2⟩,?_,I.si.hZ,I.si.gx,I.si.gj,I.si.fZ,I.si.eK,I.si.j6,I.si.j7,I.si.iB,I.si.gX,I.si.kA,I.si.kT⟩ ?_ nd I.ib I.dj
 ·refine mO I.si.jf fun a s hs q=>q.keep tk fun c o hc=>b0 c o ?_;have fm:∀c,c=s.a\/c=s.aG\/c=s.aD->c≠t:=fun c z y=>op.2.2 (mZ.mpr ⟨s,hs,by rw[<-y];rcases z with z|z|z<;>simp[z]⟩);rcases hc with z|z|z|z|z
  ·exact fm c (.inl z)
  ·exact fm c (.inr (.inl z))
  ·exact fm c (.inr (.inr z))
  ·obtain⟨j,ej⟩:=yr z;obtain⟨a',ea',ws,e,_⟩:=q.fu.hX j c ej;exact fun y=>by rw[y,ht]at e;cases e
  ·exact fun y=>I.si.j7 i t ho hi s hs (y▸z)
 ·intro b hb;by_cases z:b=t
  ·exact⟨_,z▸h1⟩
  ·obtain⟨o,e⟩:=I.ia b hb;exact⟨o,b0 b o z e⟩
end
local macro_rules| `(tactic|walk_at "rd0")=>`(tactic|simp only[b2,aQ, *])
theorem V5{k1 k2 k3:af}{s:List aB}(h:eC [k1,k2,k3] s=none):∃t u v r,s=t::u::v::r/\im k3 t/\im k2 u/\im k1 v:=by
 unfold eC at h;split at h
 ·cases h
 ·rename_i c;split at h
  ·rename_i z;match s,c,z with
   |[],c,_=>exact absurd (by simp) c
   |[_],c,_=>exact absurd (by simp) c
   |[_,_],c,_=>exact absurd (by simp) c
   |t::u::v::r,_,z=>
    have z:=(pP [k3,k2,k1] (t::u::v::r) (by simp)).mp z;exact⟨t,u,v,r,rfl,z 0 k3 t rfl rfl,z 1 k2 u rfl rfl,z 2 k1 v rfl rfl⟩
  ·cases h
theorem V6{k1 k2 k3 k4:af}{s:List aB}(h:eC [k1,k2,k3,k4] s=none):∃t u v x r,s=t::u::v::x::r/\im k4 t/\im k3 u/\im k2 v/\im k1 x:=by
 unfold eC at h;split at h
 ·cases h
 ·rename_i c;split at h
  ·rename_i z;match s,c,z with
   |[],c,_=>exact absurd (by simp) c
   |[_],c,_=>exact absurd (by simp) c
   |[_,_],c,_=>exact absurd (by simp) c
   |[_,_,_],c,_=>exact absurd (by simp) c
   |t::u::v::x::r,_,z=>
    have z:=(pP [k4,k3,k2,k1] (t::u::v::x::r) (by simp)).mp z;exact⟨t,u,v,x,r,rfl,z 0 k4 t rfl rfl,z 1 k3 u rfl rfl,z 2 k2 v rfl rfl,z 3 k1 x rfl rfl⟩
  ·cases h
theorem bF.arr{H:Hp}{aF:List Int}{b:Nat}{v:V}(h:bF H aF (.arr b) v):∃a,v=.ref a/\H a=some (.aj [.str "array",.int b]):=by
 obtain⟨a,x,h1,h2,h3⟩:=h;rw[bU]at h3;subst h3;exact⟨a,h1,h2⟩
theorem V7(T:Txt K)(M:MG K mg):ZF 7 "do_loop" ["machine"] (cO K (bD "loop")):=by
 refine ZC T.Jl G2
 ·nofun;refine⟨_,(Zq (Zs 1 G2 (Zd 0)) (aE (Zf T.hG T.gE ip (pw 1) (Zt (a8 M T.kN)))) (aE (Zf T.pE T.nS pR (pw 0) aS (Zm T.Uo xj T.qV T.tQ (Zi (Zn (pw 1))))))),?_⟩;walk_at "as";have k0:=bA (o:=HO.aj [V.str "procedure"]) hk;refine⟨g.au,g.l,M0.stack,g.aF,kt,["procedure"],rfl,k0 _ _ hs,aM I.bh (SW.aL.aj k0),az,?_⟩;cases e:eC ["procedure"] M0.stack with
  |some z=>
   have:bD "loop" M0=.error z:=by
    show((match M0.stack with| .proc p::r=>M0.frame r (.again p)|_::_=>.error dq|_=>.error cE):cD)=_;rcases iq e with⟨h1,rfl⟩|⟨h1,h2,rfl⟩
    ·match es:M0.stack,h1 with
     |[],_=>rfl
     |_::r,h1=>exact absurd h1 (by simp)
    ·match es:M0.stack,h1,h2 with
     |t::r,_,h2=>cases t<;>first|rfl|(simp[fv,ba]at h2)
     |[],h1,_=>exact absurd (by simp) h1
   walk_at "am"
  |none=>
   obtain⟨t,r,es,kd0⟩:=mM e;obtain⟨p0,rfl⟩:=kQ (kd0.kind (by decide));have q0:aI K m g H Q E (match M0.stack with| .proc p::r=>M0.frame r (.again p)|_::_=>.error dq|_=>.error cE):=q;walk_at "aa";have cp:∀v∈p0,eg v:=hv (.proc p0) (by simp);obtain⟨a,pp,vs,rfl,ea,ep,hp⟩:=j0.proc cp;have q2:aI K m g H Q E (M0.frame (M0.stack.drop 1) (.again p0)):=by rw[es];exact q0
   have ea1:=k0 _ _ ea;have ep1:=k0 _ _ ep;rw[el]at hs1;generalize aq H kt (.aj [.str "procedure"])=H1 at *;clear q q0 hs hm ea;left;intro x dx nx nd ne;refine⟨x,_,dx,pp,rfl,az,T.Kn,T.KA,fun H2 b2 hx2=>?_⟩;have s2:=iD nx nd b2;exact⟨rfl,m,g,M0,1,.again p0,x,rfl,I.same (k0.trans s2),⟨dx,pp,vs,hx2,s2 _ _ ep1,aM hp (SW.aL.aj (k0.trans s2))⟩,oz I k0 nx hx2 b2,hzf,by rw[es];simp,q2.frame (k0.trans s2) (k0.free nx)⟩
theorem V8(T:Txt K)(M:MG K mg):ZF 7 "do_repeat" ["machine"] (cO K (bD "repeat")):=by
 refine ZC T.Jk AV
 ·nofun;refine⟨_,(Zq (Zs 1 AV (Zd 0)) (aE (Zf T.hG T.gE ip (pw 1) (Zt (a8 M T.fO) (a8 M T.kN)))) (Zs 2 AV (Zi (Zn (pw 1)))) (Zz (Zc iO (pw 2) aS) (Zr T.pI T.qU rf T.pD T.qT)) (aE (Zf T.pE T.nS pR (pw 0) aS (Zm T.Uq VY T.Up T.IB (pw 2) (Zi (Zn (pw 1))))))),?_⟩;walk_at "as";have k0:=bA (o:=HO.aj [V.str "number",V.str "procedure"]) hk;refine⟨g.au,g.l,M0.stack,g.aF,kt,["number","procedure"],rfl,k0 _ _ hs,aM I.bh (SW.aL.aj k0),az,?_⟩;cases e:eC ["number","procedure"] M0.stack with
  |some z=>
   have:bD "repeat" M0=.error z:=by
    show((match M0.stack with| .proc p::.int k::r=>if k<0 then .error eZ else M0.frame r (.times k.toNat p)|_::_::_=>.error dq|_=>.error cE):cD)=_;rcases iq e with⟨h1,rfl⟩|⟨h1,h2,rfl⟩
    ·match es:M0.stack,h1 with
     |[],_=>rfl
     |[y0],_=>cases y0<;>rfl
     |_::_::r,h1=>exact absurd h1 (by simp)
    ·match es:M0.stack,h1,h2 with
     |t::u::r,_,h2=>cases t<;>first|rfl|(cases u<;>first|rfl|(simp[fv,ba]at h2))
     |[],h1,_=>exact absurd (by simp) h1
     |[_],h1,_=>exact absurd (by simp) h1
   walk_at "am"
  |none=>
   obtain⟨t,u,r,es,kd0,kd1⟩:=rj e;obtain⟨p0,rfl⟩:=kQ (kd0.kind (by decide));obtain⟨p1,rfl⟩:=eM (kd1.kind (by decide));have q0:aI K m g H Q E (match M0.stack with| .proc p::.int k::r=>if k<0 then .error eZ else M0.frame r (.times k.toNat p)|_::_::_=>.error dq|_=>.error cE):=q;walk_at "aa";obtain⟨w1,l1,ew1,j1,hV1⟩:=hV0.bW;subst ew1;have cp:∀v∈p0,eg v:=hv (.proc p0) (by simp);obtain⟨a,pp,vs,rfl,ea,ep,hp⟩:=j0.proc cp;obtain⟨b,rfl,eb⟩:=j1.int;have q1:aI K m g H Q E (if p1<0 then .error eZ else M0.frame r (.times p1.toNat p0)):=q0;have ea1:=k0 _ _ ea;have ep1:=k0 _ _ ep;have eb1:=k0 _ _ eb;rw[el]at hs1;generalize aq H kt (.aj [.str "number",.str "procedure"])=H1 at *;clear q q0 hs hm ea eb;left;by_cases c:p1<0
   ·rw[if_pos c]at q1 ⊢;right;exact Er.up q1 k0
   ·rw[if_neg c]at q1 ⊢;right;have q2:aI K m g H Q E (M0.frame (M0.stack.drop 2) (.times p1.toNat p0)):=by rw[es];exact q1
    intro x dx nx nd ne;refine⟨x,dx,pp,p1,rfl,az,fun H2 b2 hx2=>?_⟩;have s2:=iD nx nd b2;exact⟨rfl,m,g,M0,2,.times p1.toNat p0,x,rfl,I.same (k0.trans s2),⟨dx,pp,vs,by rw[hx2,yt (by lia)],s2 _ _ ep1,aM hp (SW.aL.aj (k0.trans s2))⟩,oz I k0 nx hx2 b2,hzf,by rw[es];simp,q2.frame (k0.trans s2) (k0.free nx)⟩
theorem V9(T:Txt K)(M:MG K mg):ZF 7 "do_forall" ["machine"] (cO K (bD "forall")):=by
 refine ZC T.Jn G5
 ·nofun;refine⟨_,(Zq (Zs 1 G5 (Zd 0)) (aE (Zf T.hG T.gE ip (pw 1) (Zt (a8 M T.pJ) (a8 M T.kN)))) (aE (Zf T.pE T.nS pR (pw 0) aS (Zm T.Ut V0 T.Kp T.IG (Zn (pw 1)) (Zi (Zn (pw 1))))))),?_⟩;walk_at "as";have k0:=bA (o:=HO.aj [V.str "array",V.str "procedure"]) hk;refine⟨g.au,g.l,M0.stack,g.aF,kt,["array","procedure"],rfl,k0 _ _ hs,aM I.bh (SW.aL.aj k0),az,?_⟩;cases e:eC ["array","procedure"] M0.stack with
  |some z=>
   have:bD "forall" M0=.error z:=by
    show((match M0.stack with| .proc p::.arr k::r=>M0.frame r (.each k 0 p)|_::_::_=>.error dq|_=>.error cE):cD)=_;rcases iq e with⟨h1,rfl⟩|⟨h1,h2,rfl⟩
    ·match es:M0.stack,h1 with
     |[],_=>rfl
     |[y0],_=>cases y0<;>rfl
     |_::_::r,h1=>exact absurd h1 (by simp)
    ·match es:M0.stack,h1,h2 with
     |t::u::r,_,h2=>cases t<;>first|rfl|(cases u<;>first|rfl|(simp[fv,ba]at h2))
     |[],h1,_=>exact absurd (by simp) h1
     |[_],h1,_=>exact absurd (by simp) h1
   walk_at "am"
  |none=>
   obtain⟨t,u,r,es,kd0,kd1⟩:=rj e;obtain⟨p0,rfl⟩:=kQ (kd0.kind (by decide));obtain⟨p1,rfl⟩:=w8 (kd1.kind (by decide));have q0:aI K m g H Q E (match M0.stack with| .proc p::.arr k::r=>M0.frame r (.each k 0 p)|_::_::_=>.error dq|_=>.error cE):=q;walk_at "aa";obtain⟨w1,l1,ew1,j1,hV1⟩:=hV0.bW;subst ew1;have cp:∀v∈p0,eg v:=hv (.proc p0) (by simp);obtain⟨a,pp,vs,rfl,ea,ep,hp⟩:=j0.proc cp;obtain⟨b,rfl,eb⟩:=j1.arr;have q2:aI K m g H Q E (M0.frame (M0.stack.drop 2) (.each p1 0 p0)):=by rw[es];exact q0
   have ea1:=k0 _ _ ea;have ep1:=k0 _ _ ep;have eb1:=k0 _ _ eb;rw[el]at hs1;generalize aq H kt (.aj [.str "array",.str "procedure"])=H1 at *;clear q q0 hs hm ea eb;left;intro x dx nx nd ne;refine⟨x,dx,pp,b,rfl,az,fun H2 b2 hx2=>?_⟩;have s2:=iD nx nd b2;exact⟨rfl,m,g,M0,2,.each p1 0 p0,x,rfl,I.same (k0.trans s2),⟨dx,pp,vs,b,hx2,s2 _ _ ep1,aM hp (SW.aL.aj (k0.trans s2)),s2 _ _ eb1⟩,oz I k0 nx hx2 b2,hzf,by rw[es];simp,q2.frame (k0.trans s2) (k0.free nx)⟩
theorem Wa(T:Txt K)(M:MG K mg):ZF 7 "do_if" ["machine"] (cO K (bD "if")):=by
 refine ZC T.Ji GY
 ·nofun;refine⟨_,(Zq (Zs 1 GY (Zd 0)) (aE (Zf T.hG T.gE ip (pw 1) (Zt (a8 M T.jE) (a8 M T.kN)))) (fB (iz (Zi (Zn (pw 1))) (fun _=>rfl)) (cg (aE (Zf T.pE T.nS pR (pw 0) aS (Zm T.mz mL T.my T.lu (Zi (Zn (pw 1))))))) (cg (aE (Zf T.nP T.mq oq (pw 1) aS))))),?_⟩;walk_at "as";have k0:=bA (o:=HO.aj [V.str "truth",V.str "procedure"]) hk;refine⟨g.au,g.l,M0.stack,g.aF,kt,["truth","procedure"],rfl,k0 _ _ hs,aM I.bh (SW.aL.aj k0),az,?_⟩;cases e:eC ["truth","procedure"] M0.stack with
  |some z=>
   have:bD "if" M0=.error z:=by
    show((match M0.stack with| .proc p::.truth b::r=>if b=true then M0.frame r (.code p)else M0.with_ r|_::_::_=>.error dq|_=>.error cE):cD)=_;rcases iq e with⟨h1,rfl⟩|⟨h1,h2,rfl⟩
    ·match es:M0.stack,h1 with
     |[],_=>rfl
     |[y0],_=>cases y0<;>rfl
     |_::_::r,h1=>exact absurd h1 (by simp)
    ·match es:M0.stack,h1,h2 with
     |t::u::r,_,h2=>cases t<;>first|rfl|(cases u<;>first|rfl|(simp[fv,ba]at h2))
     |[],h1,_=>exact absurd (by simp) h1
     |[_],h1,_=>exact absurd (by simp) h1
   walk_at "am"
  |none=>
   obtain⟨t,u,r,es,kd0,kd1⟩:=rj e;obtain⟨p0,rfl⟩:=kQ (kd0.kind (by decide));obtain⟨p1,rfl⟩:=mH (kd1.kind (by decide));have q0:aI K m g H Q E (match M0.stack with| .proc p::.truth b::r=>if b=true then M0.frame r (.code p)else M0.with_ r|_::_::_=>.error dq|_=>.error cE):=q;walk_at "aa";obtain⟨w1,l1,ew1,j1,hV1⟩:=hV0.bW;subst ew1;have cp:∀v∈p0,eg v:=hv (.proc p0) (by simp);obtain⟨a,pp,vs,rfl,ea,ep,hp⟩:=j0.proc cp;obtain⟨b,rfl,eb⟩:=j1.truth;have q1:aI K m g H Q E (if p1=true then M0.frame r (.code p0)else M0.with_ r):=q0;have ea1:=k0 _ _ ea;have ep1:=k0 _ _ ep;have eb1:=k0 _ _ eb;rw[el]at hs1;generalize aq H kt (.aj [.str "truth",.str "procedure"])=H1 at *;clear q q0 hs hm ea eb;left;refine⟨p1,rfl,?_⟩;cases p1 with
   |true=>
    rw[if_pos rfl]at q1 ⊢;right;have q2:aI K m g H Q E (M0.frame (M0.stack.drop 2) (.code p0)):=by rw[es];exact q1
    intro x dx nx nd ne;refine⟨x,dx,pp,rfl,az,fun H2 b2 hx2=>?_⟩;have s2:=iD nx nd b2;exact⟨rfl,m,g,M0,2,.code p0,x,rfl,I.same (k0.trans s2),⟨dx,pp,vs,0,hx2,s2 _ _ ep1,cI _,aM hp (SW.aL.aj (k0.trans s2))⟩,oz I k0 nx hx2 b2,hzf,by rw[es];simp,q2.frame (k0.trans s2) (k0.free nx)⟩
   |false=>
    rw[if_neg (by decide)]at q1 ⊢;right;rw[es]at hz;rw[du (by simp only[aA]at hz;exact rQ (rQ hz))]at q1;refine⟨g.au,_,2,rfl,hs1,by simp only[aA];lia,fun H' b2 hp'=>?_⟩;exact aI.au I q1 k0 b2 hp' fun tk=>aM (aM hV1 (SW.aL.aj k0)) tk
theorem Wb(T:Txt K)(M:MG K mg):ZF 7 "do_ifelse" ["machine"] (cO K (bD "ifelse")):=by
 refine ZC T.Jj AU
 ·nofun;refine⟨_,(Zq (Zs 1 AU (Zd 0)) (aE (Zf T.hG T.gE ip (pw 1) (Zt (a8 M T.jE) (a8 M T.kN) (a8 M T.kN)))) (Zs 2 AU (o8 (iz (Zi (Zn (pw 1))) (fun _=>rfl)) (Zn (pw 1)) (Zn (pw 1)))) (aE (Zf T.pE T.nS pR (pw 0) aS (Zm T.mz mL T.my T.lu (Zi (pw 2)))))),?_⟩;walk_at "as";have k0:=bA (o:=HO.aj [V.str "truth",V.str "procedure",V.str "procedure"]) hk;refine⟨g.au,g.l,M0.stack,g.aF,kt,["truth","procedure","procedure"],rfl,k0 _ _ hs,aM I.bh (SW.aL.aj k0),az,?_⟩;cases e:eC ["truth","procedure","procedure"] M0.stack with
  |some z=>
   have:bD "ifelse" M0=.error z:=by
    show((match M0.stack with| .proc q::.proc p::.truth b::r=>M0.frame r (.code (if b=true then p else q))|_::_::_::_=>.error dq|_=>.error cE):cD)=_;rcases iq e with⟨h1,rfl⟩|⟨h1,h2,rfl⟩
    ·match es:M0.stack,h1 with
     |[],_=>rfl
     |[y0],_=>cases y0<;>rfl
     |[y0,y1],_=>cases y0<;>first|rfl|(cases y1<;>rfl)
     |_::_::_::r,h1=>exact absurd h1 (by simp)
    ·match es:M0.stack,h1,h2 with
     |t::u::v::r,_,h2=>cases t<;>first|rfl|(cases u<;>first|rfl|(cases v<;>first|rfl|(simp[fv,ba]at h2)))
     |[],h1,_=>exact absurd (by simp) h1
     |[_],h1,_=>exact absurd (by simp) h1
     |[_,_],h1,_=>exact absurd (by simp) h1
   walk_at "am"
  |none=>
   obtain⟨t,u,v,r,es,kd0,kd1,kd2⟩:=V5 e;obtain⟨p0,rfl⟩:=kQ (kd0.kind (by decide));obtain⟨p1,rfl⟩:=kQ (kd1.kind (by decide));obtain⟨p2,rfl⟩:=mH (kd2.kind (by decide));have q0:aI K m g H Q E (match M0.stack with| .proc q::.proc p::.truth b::r=>M0.frame r (.code (if b=true then p else q))|_::_::_::_=>.error dq|_=>.error cE):=q;walk_at "aa";obtain⟨w1,l1,ew1,j1,hV1⟩:=hV0.bW;subst ew1;obtain⟨w2,l2,ew2,j2,hV2⟩:=hV1.bW;subst ew2;have cp:∀v∈p0,eg v:=hv (.proc p0) (by simp);have cp1:∀v∈p1,eg v:=hv (.proc p1) (by simp);obtain⟨a,pp,vs,rfl,ea,ep,hp⟩:=j0.proc cp;obtain⟨a',pp',vs',rfl,ea',ep',hp'⟩:=j1.proc cp1;obtain⟨b,rfl,eb⟩:=j2.truth;have q2:aI K m g H Q E (M0.frame (M0.stack.drop 3) (.code (if p2=true then p1 else p0))):=by rw[es];exact q0
   have ea1:=k0 _ _ ea;have ep1:=k0 _ _ ep;have ea2:=k0 _ _ ea';have ep2:=k0 _ _ ep';have eb1:=k0 _ _ eb;rw[el]at hs1;generalize aq H kt (.aj [.str "truth",.str "procedure",.str "procedure"])=H1 at *;clear q q0 hs hm ea eb ea';left;refine⟨p2,rfl,?_⟩;cases p2 with
   |true=>
    rw[if_pos rfl]at q2 ⊢;right;intro x dx nx nd ne;refine⟨x,dx,pp',rfl,az,fun H2 b2 hx2=>?_⟩;have s2:=iD nx nd b2;exact⟨rfl,m,g,M0,3,.code p1,x,rfl,I.same (k0.trans s2),⟨dx,pp',vs',0,hx2,s2 _ _ ep2,cI _,aM hp' (SW.aL.aj (k0.trans s2))⟩,oz I k0 nx hx2 b2,hzf,by rw[es];simp,q2.frame (k0.trans s2) (k0.free nx)⟩
   |false=>
    rw[if_neg (by decide)]at q2 ⊢;right;intro x dx nx nd ne;refine⟨x,dx,pp,rfl,az,fun H2 b2 hx2=>?_⟩;have s2:=iD nx nd b2;exact⟨rfl,m,g,M0,3,.code p0,x,rfl,I.same (k0.trans s2),⟨dx,pp,vs,0,hx2,s2 _ _ ep1,cI _,aM hp (SW.aL.aj (k0.trans s2))⟩,oz I k0 nx hx2 b2,hzf,by rw[es];simp,q2.frame (k0.trans s2) (k0.free nx)⟩
theorem Wc(T:Txt K)(M:MG K mg):ZF 7 "do_for" ["machine"] (cO K (bD "for")):=by
 refine ZC T.Jm AW
 ·nofun;refine⟨_,(Zq (Zs 1 AW (Zd 0)) (aE (Zf T.hG T.gE ip (pw 1) (Zt (a8 M T.fO) (a8 M T.fO) (a8 M T.fO) (a8 M T.kN)))) (Zs 2 AW (Zi (Zn (pw 1)))) (Zz (Zc dz (pw 2) aS) (Zr T.pI T.qU rf T.pD T.qT)) (aE (Zf T.pE T.nS pR (pw 0) aS (Zm T.Us VZ T.Ur T.ID (Zi (Zn (pw 1))) (pw 2) (Zi (Zn (pw 1))) (Zi (Zn (pw 1))))))),?_⟩;walk_at "as";have k0:=bA (o:=HO.aj [V.str "number",V.str "number",V.str "number",V.str "procedure"]) hk;refine⟨g.au,g.l,M0.stack,g.aF,kt,["number","number","number","procedure"],rfl,k0 _ _ hs,aM I.bh (SW.aL.aj k0),az,?_⟩;cases e:eC ["number","number","number","procedure"] M0.stack with
  |some z=>
   have:bD "for" M0=.error z:=by
    show((match M0.stack with| .proc p::.int c::.int b::.int a::r=>if b=0 then .error eZ else M0.frame r (.count a b c p)|_::_::_::_::_=>.error dq|_=>.error cE):cD)=_;rcases iq e with⟨h1,rfl⟩|⟨h1,h2,rfl⟩
    ·match es:M0.stack,h1 with
     |[],_=>rfl
     |[y0],_=>cases y0<;>rfl
     |[y0,y1],_=>cases y0<;>first|rfl|(cases y1<;>rfl)
     |[y0,y1,y2],_=>cases y0<;>first|rfl|(cases y1<;>first|rfl|(cases y2<;>rfl))
     |_::_::_::_::r,h1=>exact absurd h1 (by simp)
    ·match es:M0.stack,h1,h2 with
     |t::u::v::x::r,_,h2=>cases t<;>first|rfl|(cases u<;>first|rfl|(cases v<;>first|rfl|(cases x<;>first|rfl|(simp[fv,ba]at h2))))
     |[],h1,_=>exact absurd (by simp) h1
     |[_],h1,_=>exact absurd (by simp) h1
     |[_,_],h1,_=>exact absurd (by simp) h1
     |[_,_,_],h1,_=>exact absurd (by simp) h1
   walk_at "am"
  |none=>
   obtain⟨t,u,v,x,r,es,kd0,kd1,kd2,kd3⟩:=V6 e;obtain⟨p0,rfl⟩:=kQ (kd0.kind (by decide));obtain⟨p1,rfl⟩:=eM (kd1.kind (by decide));obtain⟨p2,rfl⟩:=eM (kd2.kind (by decide));obtain⟨p3,rfl⟩:=eM (kd3.kind (by decide));have q0:aI K m g H Q E (match M0.stack with| .proc p::.int c::.int b::.int a::r=>if b=0 then .error eZ else M0.frame r (.count a b c p)|_::_::_::_::_=>.error dq|_=>.error cE):=q;walk_at "aa";obtain⟨w1,l1,ew1,j1,hV1⟩:=hV0.bW;subst ew1;obtain⟨w2,l2,ew2,j2,hV2⟩:=hV1.bW;subst ew2;obtain⟨w3,l3,ew3,j3,hV3⟩:=hV2.bW;subst ew3;have cp:∀v∈p0,eg v:=hv (.proc p0) (by simp);obtain⟨a,pp,vs,rfl,ea,ep,hp⟩:=j0.proc cp;obtain⟨b,rfl,eb⟩:=j1.int;obtain⟨c,rfl,ec⟩:=j2.int;obtain⟨d,rfl,ed⟩:=j3.int;have q1:aI K m g H Q E (if p2=0 then .error eZ else M0.frame r (.count p3 p2 p1 p0)):=q0;have ea1:=k0 _ _ ea;have ep1:=k0 _ _ ep;have eb1:=k0 _ _ eb;have ec1:=k0 _ _ ec;have ed1:=k0 _ _ ed;rw[el]at hs1;generalize aq H kt (.aj [.str "number",.str "number",.str "number",.str "procedure"])=H1 at *;clear q q0 hs hm ea eb ec ed;left;by_cases cc:p2=0
   ·rw[if_pos cc]at q1 ⊢;right;exact Er.up q1 k0
   ·rw[if_neg cc]at q1 ⊢;right;have q2:aI K m g H Q E (M0.frame (M0.stack.drop 4) (.count p3 p2 p1 p0)):=by rw[es];exact q1
    intro x dx nx nd ne;refine⟨x,dx,pp,p3,p2,p1,rfl,az,fun H2 b2 hx2=>?_⟩;have s2:=iD nx nd b2;exact⟨rfl,m,g,M0,4,.count p3 p2 p1 p0,x,rfl,I.same (k0.trans s2),⟨dx,pp,vs,hx2,s2 _ _ ep1,aM hp (SW.aL.aj (k0.trans s2))⟩,oz I k0 nx hx2 b2,hzf,by rw[es];simp,q2.frame (k0.trans s2) (k0.free nx)⟩
local macro_rules| `(tactic|walk_at "rd0")=>`(tactic|simp only[b2,aQ, *])
theorem Wd{H:Hp}{aF:List Int}{a:ae}(h:H a=some (.aj [.str "mark",.int 0])):bF H aF .mark (.ref a):=⟨a,.int 0,rfl,h,by rw[bU]⟩
theorem aI.up{K:ax}{m:ae}{g:G}{H H1:Hp}{Q:VK}{E:XK}{r:cD}(q:aI K m g H Q E r)(k:L2.aL H H1)(nf:True:=trivial):aI K m g H1 Q E r:=by
 cases r with
 |error e=>exact Er.up q k
 |ok M'=>
  intro H' g' I' F;refine q H' g' I' ⟨fun b o h n=>F.keep b o (k b o h) n,fun b hb=>?_,F.pl,fun v h=>F.mo v (K0 k v h)⟩;rcases F.aK b hb with z|z
  ·exact .inl z
  ·exact .inr (k.free z)
theorem We(T:Txt K)(M:MG K mg):ZF 1 "do_clear" ["machine"] (cO K (bD "clear")):=by
 refine ZC T.JN TR
 ·nofun;refine⟨_,(cg (aE (iA gk abF abG EB (Zd 0)))),?_⟩;walk_at "zh";have ty:=dc (K:=K) hs;left;have q1:aI K m g H Q E (.ok {M0 with stack:=[]}):=by
   have:bD "clear" M0=M0.with_ []:=rfl;rw[this,du (by simp)]at q;exact q
  exact aI.au I (l':=[]) q1 (fun _ _ h=>h) bM az fun _=>.nil
theorem LH(T:Txt K)(M:MG K mg):ZF 5 "do_mark" ["machine"] (cO K (bD "mark")):=by
 refine ZC T.Bk TV
 ·nofun;refine⟨_,(cg (aE (Zv (pw 0) T.jd lG (Zt (a8 M T.Ks) aS)))),?_⟩;walk_at "zh";left;refine⟨by decide,fun x hx=>?_⟩;have k0:=bA (o:=HO.aj [V.str "mark",.int 0]) hx;refine⟨m,g,M0,.mark,.ref x,rfl,I.same k0,Wd az,hz,?_⟩;have q1:aI K m g H Q E (M0.with_ (.mark::M0.stack)):=q;exact q1.up k0
theorem Wg(T:Txt K)(M:MG K mg):ZF 5 "do_true" ["machine"] (cO K (bD "true")):=by
 refine ZC T.JE TJ
 ·nofun;refine⟨_,(cg (aE (Zv (pw 0) T.jd lG (Zt (a8 M T.jE) ve)))),?_⟩;walk_at "zh";left;refine⟨by decide,fun x hx=>?_⟩;have k0:=bA (o:=HO.aj [V.str "truth",.bl true]) hx;refine⟨m,g,M0,.truth true,.ref x,rfl,I.same k0,j8 az,hz,?_⟩;have q1:aI K m g H Q E (M0.with_ (.truth true::M0.stack)):=q;exact q1.up k0
theorem Wh(T:Txt K)(M:MG K mg):ZF 5 "do_false" ["machine"] (cO K (bD "false")):=by
 refine ZC T.JF TK
 ·nofun;refine⟨_,(cg (aE (Zv (pw 0) T.jd lG (Zt (a8 M T.jE) ve)))),?_⟩;walk_at "zh";left;refine⟨by decide,fun x hx=>?_⟩;have k0:=bA (o:=HO.aj [V.str "truth",.bl false]) hx;refine⟨m,g,M0,.truth false,.ref x,rfl,I.same k0,j8 az,hz,?_⟩;have q1:aI K m g H Q E (M0.with_ (.truth false::M0.stack)):=q;exact q1.up k0
theorem Wi(T:Txt K)(M:MG K mg):ZF 5 "do_count" ["machine"] (cO K (bD "count")):=by
 refine ZC T.JO TU
 ·nofun;refine⟨_,(cg (aE (Zv (pw 0) T.jd lG (Zt (a8 M T.fO) (Zl dD (Zd 0)))))),?_⟩;walk_at "zh";have hl:M0.stack.length=g.l.length:=I.bh.length;left;refine⟨by decide,fun x hx=>?_⟩;have k0:=bA (o:=HO.aj [V.str "number",V.int (g.l.reverse.length:Nat)]) hx;refine⟨m,g,M0,.int M0.stack.length,.ref x,rfl,I.same k0,iC (by rw[az,bN,hl]),hz,?_⟩;have q1:aI K m g H Q E (M0.with_ (.int M0.stack.length::M0.stack)):=q;exact q1.up k0
theorem Wj(T:Txt K)(M:MG K mg):ZF 5 "do_exch" ["machine"] (cO K (bD "exch")):=by
 refine ZC T.JH A0
 ·nofun;refine⟨_,(Zq (Zs 1 A0 (Zd 0)) (aE (Zf T.kL T.jZ kO (pw 1) aS)) (Zs 2 A0 (m5 gk ju jw Q7 (pw 1) (Zy (fq lS aS)))) (aE (Za iP (pw 1) (pw 2)))),?_⟩;walk_at "zh";have ty:=dc (K:=K) hs;have hl:g.l.length=M0.stack.length:=I.bh.length.symm;left;refine⟨g.au,g.l.reverse,2,rfl,hs,?_⟩;have q':aI K m g H Q E (match M0.stack with|b::a::r=>M0.with_ (a::b::r)|_=>.error cE):=q;have hV:=I.bh;match e:M0.stack,hl with
  |[],hl=>rw[e]at q';rw[if_pos (by rw[bN,hl];decide)];exact q'
  |[t],hl=>rw[e]at q';rw[if_pos (by rw[bN,hl,aA,jG];decide)];exact q'
  |t::u::r,hl=>
   rw[e]at q' hV hz;obtain⟨v,l1,el,h1,h2⟩:=hV.bW;obtain⟨v2,l2,rfl,h3,h4⟩:=h2.bW;have q2:aI K m g H Q E (M0.with_ (u::t::r)):=q';rw[du (by exact hz)]at q2;rw[if_neg (by rw[bN,hl,aA,aA];lia)];right;rw[el]at hs;clear q q' hl;left;have er:(v::v2::l2).reverse.eraseIdx l2.length=(v::l2).reverse:=by
    rw[kn,kn,ir,List.eraseIdx_append_of_length_le (by simp)];simp
   refine⟨by decide,by decide,l2.length,?_,v2,?_,dc az,?_⟩
   ·simp only[seqIndex?,bN,aA];rw[if_pos (show((-2:Int)<0)by decide),if_pos (by simp only[lM,decide_eq_true_eq];lia)];congr 1;lia
   ·rw[rV (by simp only[aA];lia)];simp only[aA];rw[show l2.length+1+1-1-l2.length=1 by lia];rfl
   have us:aq H g.au (HO.ai ((v::v2::l2).reverse.eraseIdx l2.length)) g.au=some (HO.ai ((v::v2::l2).reverse.eraseIdx l2.length)):=az;show sE (V.ref g.au) [v2] _ _;unfold sE;dsimp only;rw[us];refine⟨?_,?_⟩
   ·rw[er,bN,aA,<-h4.length,bR];have:r.length+1+1<=256:=hz;lia
   ·refine aI.au I (l':=v2::v::l2) q2 (fun _ _ h=>h) (bM.trans bM) (by rw[az,er];simp) fun tk=>.cons (h3.keep tk) (.cons (h1.keep tk) (aM h4 tk))
theorem Wk(T:Txt K)(M:MG K mg):ZF 6 "do_neg" ["machine"] (cO K (bD "neg")):=by
 refine ZC T.Ju Hi
 ·nofun;refine⟨_,(Zq (Zs 1 Hi (Zd 0)) (aE (Zf T.hG T.gE ip (pw 1) (Zt (a8 M T.fO)))) (aE (Zf T.qS T.pF rg (pw 1) aS (fq lS (Zi (Zn (pw 1))))))),?_⟩;walk_at "as";have k0:=bA (o:=HO.aj [V.str "number"]) hk;refine⟨g.au,g.l,M0.stack,g.aF,kt,["number"],rfl,k0 _ _ hs,aM I.bh (SW.aL.aj k0),az,?_⟩;cases e:eC ["number"] M0.stack with
  |some z=>
   have:bD "neg" M0=.error z:=by
    show((match M0.stack with| .int a::r=>M0.with_ (.int (eB (-a))::r)|_::_=>.error dq|_=>.error cE):cD)=_;rcases iq e with⟨h1,rfl⟩|⟨h1,h2,rfl⟩
    ·match es:M0.stack,h1 with
     |[],_=>rfl
     |_::r,h1=>exact absurd h1 (by simp)
    ·match es:M0.stack,h1,h2 with
     |t::r,_,h2=>cases t<;>first|rfl|(simp[fv,ba]at h2)
     |[],h1,_=>exact absurd (by simp) h1
   walk_at "am"
  |none=>
   obtain⟨t,r,es,kd0⟩:=mM e;obtain⟨p0,rfl⟩:=eM (kd0.kind (by decide));have q0:aI K m g H Q E (match M0.stack with| .int a::r=>M0.with_ (.int (eB (-a))::r)|_::_=>.error dq|_=>.error cE):=q;walk_at "aa";obtain⟨a,rfl,ea⟩:=j0.int;have q1:aI K m g H Q E (M0.with_ (.int (eB (-p0))::r)):=q0;rw[es]at hz;rw[du (by exact hz)]at q1;have ea1:=k0 _ _ ea;have lz:l0.length=r.length:=hV0.length.symm;have hz2:r.length+1<=256:=hz;rw[el]at hs1;generalize aq H kt (.aj [.str "number"])=H1 at *;clear q q0 hs hm ea;left;refine⟨g.au,_,1, -p0,rfl,hs1,by simp only[aA];omega,by simp only[aA];omega,fun x H2 H' hx k ex bb hp'=>?_⟩;exact aI.au I q1 (k0.trans k) bb hp' fun tk=>.cons (iC (tk _ _ ex)) (aM (aM hV0 (SW.aL.aj (k0.trans k))) tk)
local macro_rules| `(tactic|walk_at "rd0")=>`(tactic|simp only[b2,aQ, *])
theorem xp:jo "abs"=some (.builtin "abs"):=by decide
theorem Wl{X:Cx}:cQ X (gy .FloorDiv) (rI (fun _ j=>0<j/\j<=4294967296) fun i j=>.int (i / j)):=zO fun i j _ _ _ _ _ hc q=>by
 have h1:(0:Int)<j:=hc.1;have h2:j<=4294967296:=hc.2;refine floordiv_int (by omega) (by rw[Int.fdiv_eq_ediv_of_nonneg i (by omega)];exact q) (.inl (PyProof.noPylong_of_log2 ?_));have h3:j.natAbs.log2<40:=(Nat.log2_lt (by omega)).mpr (by omega);omega
theorem Wm(a b:Int)(hb:b≠0):(if decide (a<0)=decide (b<0)then(if a<0 then -a else a) / (if b<0 then -b else b)else -((if a<0 then -a else a) / (if b<0 then -b else b)))=rZ a b:=by
 by_cases h1:a<0
 ·by_cases h2:b<0
  ·rw[if_pos (by simp[h1,h2]),if_pos h1,if_pos h2,<-Dc (by lia),Int.neg_tdiv,Int.tdiv_neg,yu]
  ·rw[if_neg (by simp[h1,h2]),if_pos h1,if_neg h2,<-Dc (by lia),Int.neg_tdiv,yu]
 ·by_cases h2:b<0
  ·rw[if_neg (by simp[h1,h2]),if_neg h1,if_pos h2,<-Dc (by lia),Int.tdiv_neg,yu]
  ·rw[if_pos (by simp[h1,h2]),if_neg h1,if_neg h2,<-Dc (by lia)]
theorem Wn(a b:Int)(hb:b≠0):(if a<0 then -((if a<0 then -a else a) % (if b<0 then -b else b))else(if a<0 then -a else a) % (if b<0 then -b else b))=jx a b:=by
 by_cases h1:a<0
 ·by_cases h2:b<0
  ·rw[if_pos h1,if_pos h1,if_pos h2,<-Dd (by omega),Int.tmod_neg,C8,yu]
  ·rw[if_pos h1,if_pos h1,if_neg h2,<-Dd (by omega),C8,yu]
 ·by_cases h2:b<0
  ·rw[if_neg h1,if_neg h1,if_pos h2,<-Dd (by omega),Int.tmod_neg]
  ·rw[if_neg h1,if_neg h1,if_neg h2,<-Dd (by omega)]
theorem BQ{z:Int}(h1: -2147483648<=z)(h2:z<2147483648):eB z=z:=by
 unfold eB
 lia
theorem Wo{a b:Int}(h1: -2147483648<=a)(h2:a<2147483648): -2147483648<=jx a b/\jx a b<2147483648:=by
 have h3:(jx a b).natAbs<=a.natAbs:=by rw[Int.natAbs_tmod];exact Nat.mod_le _ _
 by_cases h:0<=a
 ·have h4:=C7 b h;omega
 ·have h4:=C7 b (show 0<= -a by omega);rw[C8]at h4;omega
def LI:List aB->Option Int
 | .int b::.int _::_=>if b=0 then some (-5)else none
 |_::_::_=>some (-4)
 |_=>some (-3)
theorem BR{s:List aB}{e:Int}(h:ik s=some e):LI s=some e:=by
 cases s with
 |nil=>cases h;rfl
 |cons t r=>
  cases r with
  |nil=>rw[xa]at h;cases h;cases t<;>rfl
  |cons u r=>
   by_cases c:ba t="number"/\ba u="number"
   ·obtain⟨n1,rfl⟩:=eM c.1;obtain⟨n2,rfl⟩:=eM c.2;cases h
   ·rw[t5 c]at h;cases h;cases t<;>first|rfl|(cases u<;>first|rfl|exact absurd ⟨rfl,rfl⟩ c)
inductive LK(vs:List V)(H:Hp)(Q:VK)(E:XK):Prop
 |mk:∀p l s aF,(vs=[.ref p])->(H p=some (.ai (kZ l)))->(aX (bF H aF) s l)->(cu Q E H (LI s))->LK vs H Q E
def Wq:Sp:=fun vs H Q E=>LK vs H Q E
theorem LL(T:Txt K)(M:MG K mg):ZF 6 "want_divisor" ["stack"] Wq:=by
 refine ZB T.Bi TH
 ·obtain⟨p,l,s',aF,rfl,_⟩:=h;rfl
 ·obtain⟨p,l,s',aF,rfl,hp,hs,q⟩:=h;refine⟨_,(Zq (aE (Zf T.nU T.mr ox (pw 0))) (Zz (Zc dz (Zi (Zn (pw 0))) aS) (Zr T.pI T.qU rf T.pD T.qT))),?_⟩;left;refine⟨p,l,s',aF,rfl,hp,hs,?_⟩;cases e:ik s' with
  |some z=>rw[BR e]at q;exact q
  |none=>
   obtain⟨b,a,r,rfl⟩:=Lf e;obtain⟨v1,l1,rfl,h1,h2⟩:=hs.bW;obtain⟨a1,rfl,e1⟩:=h1.int;have q1:cu Q E H (if b=0 then some (-5)else none):=q;clear q;show cu _ _ _ none;unfold cu;by_cases c:b=0
   ·rw[if_pos c]at q1;left;exact q1
   ·rw[if_neg c]at q1;left;exact q1
theorem Wr(T:Txt K)(M:MG K mg):ZF 7 "do_idiv" ["machine"] (cO K (bD "idiv")):=by
 refine ZC T.Js tN
 ·nofun;refine⟨_,(Zq (Zs 1 tN (Zd 0)) (aE (Zf T.Jr T.Bi LL (pw 1))) (Zs 2 tN (Zi (Zn (pw 1)))) (Zs 3 tN (Zi (Zn (pw 1)))) (Zs 4 tN (cT Wl (jL vC rfl (M.aO _ T.wM) xp (Zy (pw 2))) (jL vC rfl (M.aO _ T.wM) xp (Zy (pw 3))))) (aE (Zf T.qS T.pF rg (pw 1) aS (o8 (Zc dz (iy iO (pw 2) aS (gz _)) (iy iO (pw 3) aS (gz _))) (pw 4) (fq lS (pw 4)))))),?_⟩;walk_at "zh";left;walk_at "ah";cases e:ik M0.stack with
  |some z=>rw[show bD "idiv" M0=_ from mI _ e]at q;rw[BR e];exact q
  |none=>
   walk_at "ak";have q0:aI K m g H Q E ((if b=0 then .error eZ else .ok (.int (eB (rZ a b))):Except Int aB).bind fun v=>M0.with_ (v::r)):=by
    have:bD "idiv" M0=((if b=0 then .error eZ else .ok (.int (eB (rZ a b))):Except Int aB).bind fun v=>M0.with_ (v::r)):=by
     show f6 M0 (fun a b=>if b=0 then .error eZ else .ok (.int (eB (rZ a b))))=_;unfold f6;rw[es]
    rw[this]at q;exact q
   rw[es];show cu _ _ _ (if b=0 then some (-5)else none);by_cases c:b=0
   ·rw[if_pos c]at q0 ⊢;exact q0
   ·rw[if_neg c]at q0 ⊢;right;have q2:aI K m g H Q E (M0.with_ (.int (eB (rZ a b))::r)):=q0;rw[es]at hz;walk_at "ag";have hv:=W.au;rw[es]at hv;have va:cH M0.heap M0.kept.length (.int a):=hv _ (by simp);have va: -2147483648<=a/\a<2147483648:=va;have vb: -2147483648<=b/\b<2147483648:=hv (.int b) (by simp);clear hv;walk_at "ad";clear q hs q0;unfold cu;left;have fin:∀z,eB z=eB (rZ a b)->BI [V.ref g.au,V.int 2,V.int z] H (fun x H1=>Q V.aO H1) E:=fun z ez=>by
     refine⟨g.au,V.ref a1::V.ref a2::l2,2,z,rfl,hs',by simp only[aA];lia,by simp only[aA];lia,fun x H1 H' hx k ex bb hp'=>?_⟩;rw[ez]at ex;exact aI.au I q2 k bb hp' fun tk=>.cons (iC (tk _ _ ex)) (aM (aM h4 (SW.aL.aj k)) tk)
    refine⟨by split<;>lia,by split<;>lia,?_⟩;have qi:=Wm a b c;by_cases d:decide (a<0)=decide (b<0)
    ·rw[if_pos d]at qi;right;all_goals exact fin _ (congrArg eB qi)
    ·rw[if_neg d]at qi;right;all_goals exact fin _ (congrArg eB qi)
theorem Ws(T:Txt K)(M:MG K mg):ZF 7 "do_mod" ["machine"] (cO K (bD "mod")):=by
 refine ZC T.Jt wk
 ·nofun;refine⟨_,(Zq (Zs 1 wk (Zd 0)) (aE (Zf T.Jr T.Bi LL (pw 1))) (Zs 2 wk (Zi (Zn (pw 1)))) (Zs 3 wk (cT zR (jL vC rfl (M.aO _ T.wM) xp (Zy (pw 2))) (jL vC rfl (M.aO _ T.wM) xp (Zy (Zi (Zn (pw 1))))))) (aE (Zf T.qS T.pF rg (pw 1) aS (o8 (Zc iO (pw 2) aS) (fq lS (pw 3)) (pw 3))))),?_⟩;walk_at "zh";left;walk_at "ah";cases e:ik M0.stack with
  |some z=>rw[show bD "mod" M0=_ from mI _ e]at q;rw[BR e];exact q
  |none=>
   walk_at "ak";have q0:aI K m g H Q E ((if b=0 then .error eZ else .ok (.int (jx a b)):Except Int aB).bind fun v=>M0.with_ (v::r)):=by
    have:bD "mod" M0=((if b=0 then .error eZ else .ok (.int (jx a b)):Except Int aB).bind fun v=>M0.with_ (v::r)):=by
     show f6 M0 (fun a b=>if b=0 then .error eZ else .ok (.int (jx a b)))=_;unfold f6;rw[es]
    rw[this]at q;exact q
   rw[es];show cu _ _ _ (if b=0 then some (-5)else none);by_cases c:b=0
   ·rw[if_pos c]at q0 ⊢;exact q0
   ·rw[if_neg c]at q0 ⊢;right;have q2:aI K m g H Q E (M0.with_ (.int (jx a b)::r)):=q0;rw[es]at hz;have hz2:r.length+1+1<=256:=hz;rw[du (by rw[aA];omega)]at q2;have hv:=W.au;rw[es]at hv;have va:cH M0.heap M0.kept.length (.int a):=hv _ (by simp);have va: -2147483648<=a/\a<2147483648:=va;have vb: -2147483648<=b/\b<2147483648:=hv (.int b) (by simp);clear hv;walk_at "ad";clear q hs q0;unfold cu;left;have fin:∀z,eB z=jx a b->BI [V.ref g.au,V.int 2,V.int z] H (fun x H1=>Q V.aO H1) E:=fun z ez=>by
     refine⟨g.au,V.ref a1::V.ref a2::l2,2,z,rfl,hs',by simp only[aA];omega,by simp only[aA];omega,fun x H1 H' hx k ex bb hp'=>?_⟩;rw[ez]at ex;exact aI.au I q2 k bb hp' fun tk=>.cons (iC (tk _ _ ex)) (aM (aM h4 (SW.aL.aj k)) tk)
    refine⟨by split<;>omega,?_⟩;have ri:=Wn a b c;have tr:=Wo (b:=b) va.1 va.2;by_cases d:a<0
    ·rw[if_pos d]at ri ⊢;right;exact fin _ (by rw[if_pos d]at ri;rw[ri];exact BQ tr.1 tr.2)
    ·rw[if_neg d]at ri ⊢;right;exact fin _ (by rw[if_neg d]at ri;rw[ri];exact BQ tr.1 tr.2)
local macro_rules| `(tactic|walk_at "rd0")=>`(tactic|simp only[b2,aQ, *])
inductive LM(vs:List V)(H:Hp)(Q:VK)(E:XK):Prop
 |mk:∀p l b n,(vs=[.ref p,.int b,.int n])->(H p=some (.ai (kZ l)))->(if n>(l.length:Int)-b then Er E (-3) H else if n<0 then Er E (-5) H else Q .aO H)->LM vs H Q E
def Wu:Sp:=fun vs H Q E=>LM vs H Q E
inductive LN(K:ax)(vs:List V)(H:Hp)(Q:VK)(E:XK):Prop
 |mk:∀m g M n,(vs=[.ref m,.int n])->(MI K (bc K) m g M H)->(if(M.stack.length:Int)+n>256 then Er E (-7) H else Q .aO H)->LN K vs H Q E
def Ww(K:ax):Sp:=fun vs H Q E=>LN K vs H Q E
inductive LO(vs:List V)(H:Hp)(Q:VK)(E:XK):Prop
 |mk:∀p l s aF,(vs=[.ref p])->(H p=some (.ai (kZ l)))->(aX (bF H aF) s l)->(if s.any de=true then Q (.int ((s.takeWhile fun v=> !de v).length:Nat)) H else Er E (-3) H)->LO vs H Q E
def Wx:Sp:=fun vs H Q E=>LO vs H Q E
theorem LP(t:aB):(ba t="mark")↔de t=true:=by
 constructor
 ·intro h;rw[La h];rfl
 ·intro h;cases t<;>first|rfl|cases h
theorem BS(T:Txt K)(M:MG K mg):ZF 4 "want_told" ["stack","besides","told"] Wu:=by
 refine ZB T.wA TQ
 ·obtain⟨p,l,b,n,rfl,_⟩:=h;rfl
 ·obtain⟨p,l,b,n,rfl,hp,q⟩:=h;refine⟨_,(Zq (Zz (Zc kP (pw 2) (cT ig (Zl dD (pw 0)) (pw 1))) (Zr T.tU T.wF wW T.tP T.wD)) (Zz (Zc iO (pw 2) aS) (Zr T.pI T.qU rf T.pD T.qT))),?_⟩;left;rw[bN];by_cases c:(l.length:Int)-b<n
  ·rw[if_pos (show n>(l.length:Int)-b from c)]at q;rw[if_pos c];exact q
  ·rw[if_neg (show ¬n>(l.length:Int)-b from c)]at q;walk_at "ap";by_cases d:n<0
   ·rw[if_pos d]at q ⊢;exact q
   ·rw[if_neg d]at q ⊢;exact q
theorem BU(T:Txt K)(M:MG K mg):ZM 4 "Machine" "check_room" ["self","how_many"] (Ww K):=by
 refine ZB T.wx.df Tx
 ·obtain⟨m,g,M0,n,rfl,_⟩:=h;rfl
 ·obtain⟨m,g,M0,n,rfl,I,q⟩:=h;refine⟨_,(cg (Zz (Zc kP (cT mG (Zl dD (Zd 0)) (pw 1)) (a8 M T.Bt)) (Zr T.kM T.lw lF T.kK T.lv))),?_⟩;walk_at "at";have ha:=T.gA;have hs:=I.au;have hl:M0.stack.length=g.l.length:=I.bh.length;left;rw[bN];by_cases c:(M0.stack.length:Int)+n>256
  ·rw[if_pos c]at q;rw[if_pos (by omega)];exact q
  ·rw[if_neg c]at q;rw[if_neg (by omega)];exact q
theorem Wy(T:Txt K)(M:MG K mg):ZF 6 "do_index" ["machine"] (cO K (bD "index")):=by
 refine ZC T.JL A2
 ·nofun;refine⟨_,(Zq (Zs 1 A2 (Zd 0)) (aE (Zf T.hG T.gE ip (pw 1) (Zt (a8 M T.fO)))) (Zs 2 A2 (Zi (Zn (pw 1)))) (aE (Zf T.Bj T.wA BS (pw 1) aS (pw 2))) (aE (Zf T.hU T.gF ic (pw 1) aS (Zx fK (pw 1) (cT ig (fq lS aS) (pw 2)))))),?_⟩;walk_at "as";have k0:=bA (o:=HO.aj [V.str "number"]) hk;refine⟨g.au,g.l,M0.stack,g.aF,kt,["number"],rfl,k0 _ _ hs,aM I.bh (SW.aL.aj k0),az,?_⟩;cases e:eC ["number"] M0.stack with
  |some z=>
   have:bD "index" M0=.error z:=by
    show((match M0.stack with| .int k::r=>(if k<0 then .error eZ else match r[k.toNat]? with|some v=>M0.with_ (v::r)|none=>.error cE)|_::_=>.error dq|_=>.error cE):cD)=_;rcases iq e with⟨h1,rfl⟩|⟨h1,h2,rfl⟩
    ·match es:M0.stack,h1 with
     |[],_=>rfl
     |_::r,h1=>exact absurd h1 (by simp)
    ·match es:M0.stack,h1,h2 with
     |t::r,_,h2=>cases t<;>first|rfl|(simp[fv,ba]at h2)
     |[],h1,_=>exact absurd (by simp) h1
   walk_at "am"
  |none=>
   obtain⟨t,r,es,kd0⟩:=mM e;obtain⟨p0,rfl⟩:=eM (kd0.kind (by decide));have q0:aI K m g H Q E (match M0.stack with| .int k::r=>(if k<0 then .error eZ else match r[k.toNat]? with|some v=>M0.with_ (v::r)|none=>.error cE)|_::_=>.error dq|_=>.error cE):=q;walk_at "aa";obtain⟨a,rfl,ea⟩:=j0.int;have q1:aI K m g H Q E (if p0<0 then .error eZ else match r[p0.toNat]? with|some v=>M0.with_ (v::r)|none=>.error cE):=q0;rw[es]at hz;have hz2:r.length+1<=256:=hz;have ea1:=k0 _ _ ea;have lz:l0.length=r.length:=hV0.length.symm;rw[el]at hs1;generalize aq H kt (.aj [.str "number"])=H1 at *;clear q q0 hs hm ea;left;refine⟨g.au,_,2,p0,rfl,hs1,?_⟩;rw[aA];by_cases c0:p0<0
   ·rw[if_pos c0]at q1;by_cases c1:p0>((l0.length+1:Nat):Int)-2
    ·exfalso;omega
    ·rw[if_neg c1,if_pos c0];exact Er.up q1 k0
   ·rw[if_neg c0]at q1;by_cases c1:p0>((l0.length+1:Nat):Int)-2
    ·rw[if_pos c1];right;rw[OG (by omega)]at q1;exact Er.up q1 k0
    ·rw[if_neg c1,if_neg c0];right;obtain⟨t2,e2⟩:∃t2,r[p0.toNat]? =some t2:=⟨_,f7 (by omega)⟩
     rw[e2]at q1;have q2:aI K m g H Q E (M0.with_ (t2::r)):=q1;rw[du (by exact hz)]at q2;obtain⟨v2,ev2,hv2⟩:=hV0.get _ _ e2;have hat:cR (V.ref a::l0).reverse (-2-p0)=some v2:=by
      rw[show(-2-p0:Int)= -(((p0.toNat+1:Nat):Int)+1)by omega,pM];exact ev2
     left;refine⟨g.au,_,1,v2,rfl,hs1,by simp only[aA];omega,by simp only[aA];omega,fun H' bb hp'=>?_⟩;exact aI.au I q2 k0 bb hp' fun tk=>.cons ((hv2.keep (SW.aL.aj k0)).keep tk) (aM (aM hV0 (SW.aL.aj k0)) tk)
theorem LQ:∀(s:List aB)(k:Nat)(t:aB),s[k]? =some t->de t=true->(∀u∈s.take k,de u=false)->s.any de=true/\(s.takeWhile fun v=> !de v).length=k
 |[],k,t,h,_,_=>by simp at h
 |a::s,0,t,h,hm,_=>by
  cases h;rw[iV,hm,De,hm];exact⟨rfl,rfl⟩
 |a::s,k+1,t,h,hm,hu=>by
  have h1:=hu a (by simp);obtain⟨i1,i2⟩:=LQ s k t h hm fun u m=>hu u (by rw[yw];exact bP _ m);rw[iV,i1,De,h1];exact⟨by simp,by simp[i2]⟩
theorem BV(T:Txt K)(M:MG K mg):ZF 4 "above_mark" ["stack"] Wx:=by
 refine ZB T.wB A3
 ·obtain⟨p,l,s',aF,rfl,_⟩:=h;rfl
 ·obtain⟨p,l,s',aF,rfl,hp,hs,q⟩:=h;refine⟨_,(Zq (Zs 1 A3 (cT ig (Zl dD (pw 0)) aS)) (ni jB (PW.pt (o7 (Zc jF (pw 1) aS) (o6 (Zc pc (Zi (Zx fK (pw 0) (pw 1))) (a8 M T.Ks))))) (cg (lj (i:=1) A3.nd rfl (eN rfl) aS zK))) (Zz (Zc iO (pw 1) aS) (Zr T.tU T.wF wW T.tP T.wD)) (dh (cT ig (cT ig (Zl dD (pw 0)) aS) (pw 1)))),?_⟩;have hl:s'.length=l.length:=hs.length;left;rw[bN];refine oo (fun mm σ' H'=>∃k:Nat,k<=l.length/\mm=l.length-k/\σ'=[some (.ref p),some (.int ((l.length:Int)-1-k))]/\H'=H/\∀u∈s'.take k,de u=false) l.length ?_ ?_
  ·exact⟨0,cI _,rfl,by simp,rfl,fun u m=>by simp at m⟩
  rintro mm σ' H' ⟨k,hk,rfl,rfl,rfl,hu⟩;by_cases c:k<l.length
  ·obtain⟨t,et⟩:∃t,s'[k]? =some t:=⟨_,f7 (by lia)⟩
   obtain⟨v,ev,hv⟩:=hs.get _ _ et;obtain⟨a,z,rfl,ea⟩:=hv.aj;have hat:cR l.reverse ((l.length:Int)-1-k)=some (V.ref a):=by
    rw[show(l.length:Int)-1-k=((l.length-1-k:Nat):Int)by lia];refine fW ?_;rw[rV (by lia),<-ev];congr 1;lia
   have c0:(0:Int)<=(l.length:Int)-1-k:=by lia
   by_cases d:ba t="mark"
   ·have hmk:=(LP t).mp d;obtain⟨t1,t2⟩:=LQ s' k t et hmk hu;rw[if_pos t1,t2]at q;have c1:¬((l.length:Int)-1-k<0):=by lia
    have e9:(l.length:Int)-1-((l.length:Int)-1-k)=(k:Int):=by lia
    clear hu hs;left;rw[bN,e9];exact q
   ·have hnm:de t=false:=by
     cases h:de t with
     |false=>rfl
     |true=>exact absurd ((LP t).mpr h) d
    clear q hs;left;refine lE ?_;left;refine⟨l.length-k-1,by lia,k+1,by lia,by lia,by lia,fun u m=>?_⟩;rw[List.take_succ,et]at m;rcases cS.mp m with m|m
    ·exact hu u m
    ·simp at m;rw[m];exact hnm
  ·have e0:k=l.length:=by lia
   subst e0;have nm:¬s'.any de=true:=fun h=>by
    obtain⟨u,m,hm⟩:=lN.mp h;rw[r8 (by lia)]at hu;rw[hu u m]at hm;cases hm
   rw[if_neg nm]at q;have c0:¬(0:Int)<=(l.length:Int)-1-l.length:=by lia
   have c1:(l.length:Int)-1-l.length<0:=by lia
   clear hu hs hl;left;exact q
theorem Wz{s:List aB}:(s.dropWhile fun v=> !de v).drop 1=s.drop ((s.takeWhile fun v=> !de v).length+1):=by
 induction s with
 |nil=>rfl
 |cons a s ih=>
  rw[List.dropWhile_cons,De];cases h:(!de a)with
  |true=>simp only[if_true,aA];rw[ih];rfl
  |false=>simp
theorem WA{s:List aB}(h:s.any de=true):(s.takeWhile fun v=> !de v).length+1<=s.length:=by
 induction s with
 |nil=>cases h
 |cons a s ih=>
  rw[De];cases hm:de a with
  |true=>simp
  |false=>
   rw[iV,hm]at h;have:=ih (by simpa using h);simp only[Bool.not_false,if_true,aA];lia
theorem WB(T:Txt K)(M:MG K mg):ZF 5 "do_cleartomark" ["machine"] (cO K (bD "cleartomark")):=by
 refine ZC T.JP TX
 ·nofun;refine⟨_,(cg (aE (Zf T.nP T.mq oq (Zd 0) (cT mG (Zf T.Bl T.wB BV (Zd 0)) aS)))),?_⟩;walk_at "zh";have hl:M0.stack.length=g.l.length:=I.bh.length;left;have q0:aI K m g H Q E (match(if M0.stack.any de=true then some (M0.stack.takeWhile fun v=> !de v,(M0.stack.dropWhile fun v=> !de v).drop 1)else none)with|some x=>M0.with_ x.2|none=>.error cE):=q;walk_at "ah";by_cases c:M0.stack.any de=true
  ·rw[if_pos c]at q0 ⊢;right;have tl:=WA c;have q1:aI K m g H Q E (M0.with_ ((M0.stack.dropWhile fun v=> !de v).drop 1)):=q0;rw[Wz,du (by rw[fh];have:M0.stack.length<=256:=hz;lia)]at q1;clear q q0;left;refine⟨g.au,g.l,_,rfl,hs,by lia,fun H' bb hp'=>?_⟩;refine aI.au I (l':=g.l.drop ((M0.stack.takeWhile fun v=> !de v).length+1)) q1 (fun _ _ h=>h) bb ?_ fun tk=>aM (I.bh.drop _) tk;rw[hp'];rfl
  ·rw[if_neg c]at q0 ⊢;exact q0
theorem WC(T:Txt K)(M:MG K mg):ZF 5 "do_counttomark" ["machine"] (cO K (bD "counttomark")):=by
 refine ZC T.JQ TY
 ·nofun;refine⟨_,(cg (aE (Zv (pw 0) T.jd lG (Zt (a8 M T.fO) (Zf T.Bl T.wB BV (Zd 0)))))),?_⟩;walk_at "zh";left;have q0:aI K m g H Q E (match(if M0.stack.any de=true then some (M0.stack.takeWhile fun v=> !de v,(M0.stack.dropWhile fun v=> !de v).drop 1)else none)with|some x=>M0.with_ (.int x.1.length::M0.stack)|none=>.error cE):=q;walk_at "ah";by_cases c:M0.stack.any de=true
  ·rw[if_pos c]at q0 ⊢;right;have q1:aI K m g H Q E (M0.with_ (.int (M0.stack.takeWhile fun v=> !de v).length::M0.stack)):=q0;clear q q0;left;refine⟨by decide,fun x hx=>?_⟩;have k0:=bA (o:=HO.aj [V.str "number",V.int ((M0.stack.takeWhile fun v=> !de v).length:Nat)]) hx;exact⟨m,g,M0,_,.ref x,rfl,I.same k0,iC az,hz,aI.up q1 k0⟩
  ·rw[if_neg c]at q0 ⊢;exact q0
theorem rk{X:Cx}:nD X (fun x lo hi H Q=>∃a xs,x=.ref a/\H a=some (.ai xs)/\∀p,H p=none->Q (.ref p) (aq H p (.ai (fN xs lo hi)))):=fun pins s σ H x v vl vu lo hi sl Q I rx hs pl pu ⟨a,xs,e,h,q⟩=>
 Eo pins s σ H x v vl vu lo hi sl Q I rx hs pl pu ⟨a,xs,e,bV.of h,q⟩
theorem BW(n d:Nat){z:Int}(h:0<=z):HT.cJ n d (some z)=min z.toNat n:=by
 obtain⟨k,rfl⟩:=Int.eq_ofNat_of_zero_le h;exact HT.nB n d k
theorem LR{l:List V}{a:Nat}(h:a<=l.length):fN l.reverse (some ((l.length:Int)-a)) none=(l.take a).reverse:=by
 unfold fN;rw[BW _ _ (by lia),HT.sU,bN,show min ((l.length:Int)-a).toNat l.length=l.length-a by lia,r8 (by rw[fh,bN];lia),OR];congr 2;lia
theorem WD{l:List V}{k t:Nat}(h:t<=k)(h2:k<=l.length):fN l.reverse (some ((l.length:Int)-k)) (some ((l.length:Int)-t))=((l.take k).drop t).reverse:=by
 unfold fN;rw[BW _ _ (by lia),BW _ _ (by lia),bN,show min ((l.length:Int)-k).toNat l.length=l.length-k by lia,show min ((l.length:Int)-t).toNat l.length=l.length-t by lia,OR,
  show l.length-(l.length-k)=k by lia,List.take_reverse,eI,show min k l.length-(l.length-t-(l.length-k))=t by lia]
local macro_rules| `(tactic|walk_at "rd0")=>`(tactic|simp only[b2,aQ, *])
theorem WE(T:Txt K)(M:MG K mg):ZF 6 "do_copy" ["machine"] (cO K (bD "copy")):=by
 refine ZC T.JK A1
 ·nofun;refine⟨_,(Zq (Zs 1 A1 (Zd 0)) (aE (Zf T.hG T.gE ip (pw 1) (Zt (a8 M T.fO)))) (Zs 2 A1 (Zi (Zn (pw 1)))) (aE (Zf T.Bj T.wA BS (pw 1) aS (pw 2))) (aE (Zv (pw 0) T.wx BU (cT ig (pw 2) aS))) (aE (iA gk ju jw jb (pw 1))) (aE (m5 gk OS OT z9 (pw 1) (Zy (l8 rk (pw 1) (jS (cT ig (Zl dD (pw 1)) (pw 2))) qA))))),?_⟩;walk_at "as";have k0:=bA (o:=HO.aj [V.str "number"]) hk;refine⟨g.au,g.l,M0.stack,g.aF,kt,["number"],rfl,k0 _ _ hs,aM I.bh (SW.aL.aj k0),az,?_⟩;cases e:eC ["number"] M0.stack with
  |some z=>
   have:bD "copy" M0=.error z:=by
    show((match M0.stack with| .int k::r=>if k<0 then .error eZ else if r.length<k.toNat then .error cE else M0.with_ (r.take k.toNat++r)|_::_=>.error dq|_=>.error cE):cD)=_;rcases iq e with⟨h1,rfl⟩|⟨h1,h2,rfl⟩
    ·match es:M0.stack,h1 with
     |[],_=>rfl
     |_::r,h1=>exact absurd h1 (by simp)
    ·match es:M0.stack,h1,h2 with
     |t::r,_,h2=>cases t<;>first|rfl|(simp[fv,ba]at h2)
     |[],h1,_=>exact absurd (by simp) h1
   walk_at "am"
  |none=>
   obtain⟨t,r,es,kd0⟩:=mM e;obtain⟨p0,rfl⟩:=eM (kd0.kind (by decide));have q0:aI K m g H Q E (match M0.stack with| .int k::r=>if k<0 then .error eZ else if r.length<k.toNat then .error cE else M0.with_ (r.take k.toNat++r)|_::_=>.error dq|_=>.error cE):=q;walk_at "aa";obtain⟨a,rfl,ea⟩:=j0.int;have q1:aI K m g H Q E (if p0<0 then .error eZ else if r.length<p0.toNat then .error cE else M0.with_ (r.take p0.toNat++r)):=q0;have hl0:M0.stack.length=r.length+1:=by rw[es];rfl
   have hz2:r.length+1<=256:=by rw[<-hl0];exact hz
   have ea1:=k0 _ _ ea;have lz:l0.length=r.length:=hV0.length.symm;rw[el]at hs1;generalize aq H kt (.aj [.str "number"])=H1 at *;clear q q0 hs hm ea;left;refine⟨g.au,_,1,p0,rfl,hs1,?_⟩;rw[aA];by_cases c1:p0>((l0.length+1:Nat):Int)-1
   ·rw[if_pos c1];right;rw[if_neg (by omega),if_pos (by omega)]at q1;exact Er.up q1 k0
   ·rw[if_neg c1];right;by_cases c0:p0<0
    ·rw[if_pos c0]at q1 ⊢;right;exact Er.up q1 k0
    ·rw[if_neg c0]at q1 ⊢;right;rw[if_neg (by omega)]at q1;left;refine⟨m,g,M0,p0-1,rfl,I1,?_⟩;by_cases c2:(M0.stack.length:Int)+(p0-1)>256
     ·rw[if_pos c2];right;rw[xb (by rw[eQ,eI];omega)]at q1;exact Er.up q1 k0
     ·rw[if_neg c2];right;rw[du (by rw[eQ,eI];omega)]at q1;have ty:=dc (K:=K) hs1;clear hV hv;left;refine⟨dc az,fun p hp=>?_⟩;have ec:fN l0.reverse (some ((l0.reverse.length:Int)-p0)) none=(l0.take p0.toNat).reverse:=by
       have e5:p0=((p0.toNat:Nat):Int):=by omega
       rw[bN];conv=>lhs;rw[e5]
       exact LR (by omega)
      rw[ec];have np:g.au≠p:=bw az hp;refine⟨l0.reverse,by rw[aJ np,az],by rw[bN,bN,eI,bR];omega,?_⟩;exact aI.au I (l':=l0.take p0.toNat++l0) q1 k0 ((bM.same (bA hp)).trans bM) (by rw[az,OU]) fun tk=>(aM (aM (hV0.take _) (SW.aL.aj k0)) tk).app (aM (aM hV0 (SW.aL.aj k0)) tk)
theorem WG(T:Txt K)(M:MG K mg):ZF 6 "do_roll" ["machine"] (cO K (bD "roll")):=by
 refine ZC T.JM pC
 ·nofun;refine⟨_,(Zq (Zs 1 pC (Zd 0)) (aE (Zf T.hG T.gE ip (pw 1) (Zt (a8 M T.fO) (a8 M T.fO)))) (Zs 2 pC (Zi (Zn (pw 1)))) (Zs 3 pC (Zi (Zn (pw 1)))) (aE (Zf T.Bj T.wA BS (pw 1) aS (pw 2))) (aE (Zf T.nP T.mq oq (pw 1) aS)) (fB (Zc kP (pw 2) aS) (Zq (Zs 4 pC (cT ig (Zl dD (pw 1)) (pw 2))) (Zs 5 pC (cT ig (Zl dD (pw 1)) (cT zR (pw 3) (pw 2)))) (Zs 6 pC (cT vJ (l8 rk (pw 1) (jS (pw 5)) qA) (l8 rk (pw 1) (jS (pw 4)) (jS (pw 5))))) (aE (Zf T.nP T.mq oq (pw 1) (pw 2))) (aE (m5 gk OS OT z9 (pw 1) (Zy (pw 6))))) lT)),?_⟩;walk_at "as";have k0:=bA (o:=HO.aj [V.str "number",V.str "number"]) hk;refine⟨g.au,g.l,M0.stack,g.aF,kt,["number","number"],rfl,k0 _ _ hs,aM I.bh (SW.aL.aj k0),az,?_⟩;cases e:eC ["number","number"] M0.stack with
  |some z=>
   have:bD "roll" M0=.error z:=by
    show((match M0.stack with| .int j::.int k::r=>(if k<0 then .error eZ else if r.length<k.toNat then .error cE else if k=0 then M0.with_ r else M0.with_ (((r.take k.toNat).drop (j % k).toNat++(r.take k.toNat).take (j % k).toNat)++r.drop k.toNat))|_::_::_=>.error dq|_=>.error cE):cD)=_;rcases iq e with⟨h1,rfl⟩|⟨h1,h2,rfl⟩
    ·match es:M0.stack,h1 with
     |[],_=>rfl
     |[y0],_=>cases y0<;>rfl
     |_::_::r,h1=>exact absurd h1 (by simp)
    ·match es:M0.stack,h1,h2 with
     |t::u::r,_,h2=>cases t<;>first|rfl|(cases u<;>first|rfl|(simp[fv,ba]at h2))
     |[],h1,_=>exact absurd (by simp) h1
     |[_],h1,_=>exact absurd (by simp) h1
   walk_at "am"
  |none=>
   obtain⟨t,u,r,es,kd0,kd1⟩:=rj e;obtain⟨p0,rfl⟩:=eM (kd0.kind (by decide));obtain⟨p1,rfl⟩:=eM (kd1.kind (by decide));have q0:aI K m g H Q E (match M0.stack with| .int j::.int k::r=>(if k<0 then .error eZ else if r.length<k.toNat then .error cE else if k=0 then M0.with_ r else M0.with_ (((r.take k.toNat).drop (j % k).toNat++(r.take k.toNat).take (j % k).toNat)++r.drop k.toNat))|_::_::_=>.error dq|_=>.error cE):=q;walk_at "aa";obtain⟨w1,l1,ew1,j1,hV1⟩:=hV0.bW;subst ew1;obtain⟨a,rfl,ea⟩:=j0.int;obtain⟨b,rfl,eb⟩:=j1.int;have q1:aI K m g H Q E (if p1<0 then .error eZ else if r.length<p1.toNat then .error cE else if p1=0 then M0.with_ r else M0.with_ (((r.take p1.toNat).drop (p0 % p1).toNat++(r.take p1.toNat).take (p0 % p1).toNat)++r.drop p1.toNat)):=q0;have hl0:M0.stack.length=r.length+1+1:=by rw[es];rfl
   have hz2:r.length+1+1<=256:=by rw[<-hl0];exact hz
   have ea1:=k0 _ _ ea;have eb1:=k0 _ _ eb;have lz:l1.length=r.length:=hV1.length.symm;rw[el]at hs1;generalize aq H kt (.aj [.str "number",.str "number"])=H1 at *;clear q q0 hs hm ea eb;left;refine⟨g.au,_,2,p1,rfl,hs1,?_⟩;rw[aA,aA];by_cases c1:p1>((l1.length+1+1:Nat):Int)-2
   ·rw[if_pos c1];right;rw[if_neg (by omega),if_pos (by omega)]at q1;exact Er.up q1 k0
   ·rw[if_neg c1];right;by_cases c0:p1<0
    ·rw[if_pos c0]at q1 ⊢;right;exact Er.up q1 k0
    ·rw[if_neg c0]at q1 ⊢;right;rw[if_neg (by omega)]at q1;refine⟨g.au,_,2,rfl,hs1,by simp only[aA];omega,fun H2 b2 hp0=>?_⟩;have hp2:H2 g.au=some (.ai l1.reverse):=hp0;clear hp0;have ht:cq H1 H2:=b2.aj hs1 fun _ z=>by cases z
     by_cases cz:p1=0
     ·rw[if_pos cz,du (by omega)]at q1;have c9:¬(0:Int)<p1:=by omega
      clear hV hv hV0 hs1;left;exact aI.au I q1 k0 b2 hp2 fun tk=>aM (aM hV1 (SW.aL.aj k0)) tk
     ·rw[if_neg cz,du (by simp only[eQ,fh,eI];omega)]at q1;have c9:(0:Int)<p1:=by omega
      have t0:=Int.emod_nonneg p0 cz;have t1:=Int.emod_lt_of_pos p0 c9;have ty:=dc (K:=K) hp2;clear hV hv hV0 hs1;left;intro p hp;have np:g.au≠p:=bw hp2 hp;rw[bN];have e6:p0 % p1=(((p0 % p1).toNat:Nat):Int):=by omega
      have e5:p1=((p1.toNat:Nat):Int):=by omega
      have ec1:fN l1.reverse (some ((l1.length:Int)-p0 % p1)) none=(l1.take (p0 % p1).toNat).reverse:=by
       conv=>lhs;rw[e6]
       exact LR (by omega)
      have ec2:fN l1.reverse (some ((l1.length:Int)-p1)) (some ((l1.length:Int)-p0 % p1))=((l1.take p1.toNat).drop (p0 % p1).toNat).reverse:=by
       have:=WD (l:=l1) (k:=p1.toNat) (t:=(p0 % p1).toNat) (by omega) (by omega);rw[<-e6,<-e5]at this;exact this
      rw[ec1];refine⟨l1.reverse,by rw[aJ np];exact hp2,fun p' hp'=>?_⟩;rw[ec2];have npp:p≠p':=bw az hp';refine⟨(l1.take (p0 % p1).toNat).reverse,by rw[aJ npp,az],by simp only[bN,fh,eI,bR];omega,fun p3 hp3=>?_⟩;have sAll:=((bA (o:=HO.ai (l1.take (p0 % p1).toNat).reverse) hp).trans (bA (o:=HO.ai ((l1.take p1.toNat).drop (p0 % p1).toNat).reverse) hp'));have n3:g.au≠p3:=bw (sAll _ _ hp2) hp3;have sB:=sAll.trans (bA (o:=HO.ai ((l1.take (p0 % p1).toNat).reverse++((l1.take p1.toNat).drop (p0 % p1).toNat).reverse)) hp3);refine⟨g.au,l1,p1,rfl,sB _ _ hp2,by omega,fun H3 b3 hs3=>?_⟩;have e3:=b3 _ _ (cM n3) (az (H:=_) (a:=p3) (o:=HO.ai ((l1.take (p0 % p1).toNat).reverse++((l1.take p1.toNat).drop (p0 % p1).toNat).reverse)));refine⟨dc hs3,(⟨g.au,p3,_,_,rfl,rfl,hs3,e3,by simp only[eQ,bN,fh,eI,bR];omega,?_⟩:sD (V.ref g.au) [V.ref p3] H3 _)⟩;refine aI.au I (l':=((l1.take p1.toNat).drop (p0 % p1).toNat++(l1.take p1.toNat).take (p0 % p1).toNat)++l1.drop p1.toNat) q1 k0 (((b2.same sB).trans b3).trans bM) ?_ fun tk=>?_
      ·rw[az,OU,OU,List.take_take,oN (by omega)]
      ·exact aM (aM ((((hV1.take _).drop _).app ((hV1.take _).take _)).app (hV1.drop _)) (SW.aL.aj k0)) tk
theorem t8{a b:List UInt8}(h:bH a=bH b):a=b:=by
 unfold bH at h;have h1:a.map fR=b.map fR:=by
  have:=congrArg (fun s=>CH (af.cps s)) h;simpa using this
 exact List.map_inj_right (fun x y e=>Df.mp e) |>.mp h1
theorem WH{t u:aB}(h:ba u≠ba t)(ht:∀n,t≠.word n)(hu:∀n,u≠.word n):uM u t=some false:=by
 cases u<;>cases t<;>first|rfl|exact absurd rfl h|exact absurd rfl (ht _)|exact absurd rfl (hu _)
theorem WI{H:Hp}{aF:List Int}{t u:aB}{x y:V}(h:ba u=ba t)(np:ba t≠"procedure")(ns:ba t≠"state")(ht:∀n,t≠.word n)(h1:bU H aF t x)(h2:bU H aF u y):qx y x=true/\uM u t=some (decide (y=x)):=by
 cases t with
 |int n=>
  obtain⟨k,rfl⟩:=eM h;rw[bU]at h1 h2;subst h1 h2;refine⟨rfl,?_⟩;show some (k==n)=some (decide (V.int k=V.int n));rw[sP]
 |truth n=>
  obtain⟨k,rfl⟩:=mH h;rw[bU]at h1 h2;subst h1 h2;refine⟨rfl,?_⟩;show some (k==n)=some (decide (V.bl k=V.bl n));rw[zS]
 |lit n=>
  obtain⟨k,rfl⟩:=re h;rw[bU]at h1 h2;subst h1 h2;refine⟨rfl,?_⟩;show some (k==n)=some (decide (V.str (bH k)=V.str (bH n)));by_cases e:k=n
  ·subst e;simp
  ·rw[decide_eq_false (fun z=>e (t8 (V.str.inj z)))];congr 1;exact beq_eq_false_iff_ne.mpr e
 |mark=>
  have:=La h;subst this;rw[bU]at h1 h2;subst h1 h2;exact⟨rfl,(congrArg some (decide_eq_true rfl)).symm⟩
 |arr n=>
  obtain⟨k,rfl⟩:=w8 h;rw[bU]at h1 h2;subst h1 h2;refine⟨rfl,?_⟩;show some (k==n)=some (decide (V.int k=V.int n));rw[sP];congr 1;by_cases e:k=n
  ·subst e;simp
  ·rw[beq_eq_false_iff_ne.mpr e];exact(beq_eq_false_iff_ne.mpr (fun z=>e (Int.ofNat.inj z))).symm
 |table n=>
  obtain⟨k,rfl⟩:=tZ h;rw[bU]at h1 h2;subst h1 h2;refine⟨rfl,?_⟩;show some (k==n)=some (decide (V.int k=V.int n));rw[sP];congr 1;by_cases e:k=n
  ·subst e;simp
  ·rw[beq_eq_false_iff_ne.mpr e];exact(beq_eq_false_iff_ne.mpr (fun z=>e (Int.ofNat.inj z))).symm
 |state n=>exact absurd rfl ns
 |proc n=>exact absurd rfl np
 |word n=>exact absurd rfl (ht n)
theorem WK{t u:aB}(h:ba u=ba t)(hp:ba t="procedure"\/ba t="state"):uM u t=none:=by
 rcases hp with e|e
 ·obtain⟨a,rfl⟩:=kQ e;obtain⟨b,rfl⟩:=kQ h;rfl
 ·obtain⟨a,rfl⟩:=w9 e;obtain⟨b,rfl⟩:=w9 h;rfl
theorem WL{k:af}:lq (.str k) [.str "procedure",.str "state"]=decide (k="procedure"\/k="state"):=by
 show((("procedure":af)==k) || ((("state":af)==k) || false))=_;rw[CK];by_cases h1:k="procedure"
 ·subst h1;simp
 ·by_cases h2:k="state"
  ·subst h2;simp
  ·rw[decide_eq_false (by simp[h1,h2]),beq_eq_false_iff_ne.mpr (fun z=>h1 z.symm),beq_eq_false_iff_ne.mpr (fun z=>h2 z.symm)];rfl
local macro_rules| `(tactic|walk_at "rd0")=>`(tactic|simp only[b2,aQ, *])
theorem WM(T:Txt K)(M:MG K mg):ZF 5 "do_eq" ["machine"] (cO K (bD "eq")):=by
 refine ZC T.Jz wm
 ·nofun;refine⟨_,(Zq (Zs 1 wm (Zd 0)) (aE (Zf T.kL T.jZ kO (pw 1) aS)) (Zs 2 wm (Zi (Zn (pw 1)))) (Zs 3 wm (iy dz (Zi (Zn (pw 1))) (pw 2) (gz _))) (Zz (PW.pt (o7 (iz (pw 3) (fun _=>rfl)) (o6 (qe Es (pw 2) (Zt (a8 M T.kN) (a8 M T.qX)) (by with_unfolding_all rfl))))) (Zr T.mx T.nX ou T.mn T.nW)) (aE (Zf T.hU T.gF ic (pw 1) aS (Zt (a8 M T.jE) (zE (pw 3) (zD (iy dz (Zi (Zn (pw 1))) (Zi (Zn (pw 1))) (gz _)))))))),?_⟩;walk_at "zh";have hl:g.l.length=M0.stack.length:=I.bh.length.symm;left;refine⟨g.au,g.l.reverse,2,rfl,hs,?_⟩;have q':aI K m g H Q E (match M0.stack with|b::a::r=>(match uM a b with|some x=>M0.with_ (.truth x::r)|none=>.error dq)|_=>.error cE):=q;have hV:=I.bh;match e:M0.stack,hl with
  |[],hl=>rw[e]at q';rw[if_pos (by rw[bN,hl];decide)];exact q'
  |[t],hl=>rw[e]at q';rw[if_pos (by rw[bN,hl,aA,jG];decide)];exact q'
  |t::u::r,hl=>
   have hv:=W.au;rw[e]at q' hV hz hv;have wt:∀n,t≠.word n:=fun n z=>by have:=hv t (by simp);rw[z]at this;exact this
   have wu:∀n,u≠.word n:=fun n z=>by have:=hv u (by simp);rw[z]at this;exact this
   obtain⟨v1,l1,el,h1,h2⟩:=hV.bW;obtain⟨v2,l2,rfl,h3,h4⟩:=h2.bW;obtain⟨a1,x1,rfl,e1,y1⟩:=id h1;obtain⟨a2,x2,rfl,e2,y2⟩:=id h3;have q2:aI K m g H Q E (match uM u t with|some x=>M0.with_ (.truth x::r)|none=>.error dq):=q';have hz2:r.length+1+1<=256:=hz;walk_at "ad";rw[if_neg (by rw[bN,hl,aA,aA];omega)];right;rw[el]at hs;have fin:∀z H1,uM u t=some z->L2.aL H H1->∀x,H1 x=none->w6 [.ref g.au,.int 2,.ref x] (aq H1 x (.aj [.str "truth",.bl z])) (fun x H1=>Q .aO H1) E:=fun z H1 ez k x hx=>by
    rw[ez]at q2;have q3:aI K m g H Q E (M0.with_ (.truth z::r)):=q2;rw[du (by rw[aA];omega)]at q3;have k2:=k.trans (bA (o:=HO.aj [.str "truth",.bl z]) hx);refine⟨g.au,_,2,.ref x,rfl,k2 _ _ hs,by simp only[aA];omega,by simp only[aA];omega,fun H' bb hp'=>?_⟩;exact aI.au I q3 k2 bb hp' fun tk=>.cons (j8 (tk _ _ az)) (aM (aM h4 (SW.aL.aj k2)) tk)
   clear q q' hl hV hv h2;by_cases c:ba u=ba t
   ·left;refine⟨true,rfl,?_⟩;rw[if_pos rfl];right;refine⟨by decide,fun p hp=>⟨p,[.str "procedure",.str "state"],rfl,.inr (dH.of az),rfl,rfl,?_⟩⟩;have k0:=bA (o:=HO.aj [.str "procedure",.str "state"]) hp;rw[show(if false=true then !lq (V.str (ba t)) [V.str "procedure",V.str "state"]else lq (V.str (ba t)) [V.str "procedure",V.str "state"])=decide (ba t="procedure"\/ba t="state")from by rw[<-WL];rfl];dsimp only;by_cases d:ba t="procedure"\/ba t="state"
    ·rw[if_pos (by simpa using d)];right;rw[WK c d]at q2;exact Er.up q2 k0
    ·rw[if_neg (by simpa using d)];right;have sk:=WI c (fun z=>d (.inl z)) (fun z=>d (.inr z)) wt y1 y2;have hs1:=k0 _ _ hs;have e11:=k0 _ _ e1;have e21:=k0 _ _ e2;rw[c]at e21;generalize aq H p (.aj [.str "procedure",.str "state"])=H1 at *;have f1:=fun x hx=>fin _ H1 sk.2 k0 x hx;have s1:=sk.1;clear fin e1 e2 hs d sk;left;exact⟨by decide,f1⟩
   ·left;refine⟨false,rfl,?_⟩;rw[if_neg (by decide)];right;exact⟨by decide,fun p hp=>fin false H (WH c wt wu) (fun _ _ h=>h) p hp⟩
section
variable{K:ax}{wkv:List (Key×V)}{m:ae}{g:G}{M:aY}{H H':Hp}{h:b9}{kept:List b9}
theorem anj{l:List ae}{i:Nat}{t:ae}(h:l.Nodup)(n:t∉l):(l.set i t).Nodup:=kd i h n
theorem kU{l:List ae}{i:Nat}{t x:ae}(n:t∉l)(ne:t≠x):t∉l.set i x:=fun z=>by
 rcases f8 z with z|z
 ·exact n z
 ·exact ne z
theorem MI.BX(I:MI K wkv m g M H){sd:ae}{most:Nat}{said:bO}{code:Nat}(hk:∀b o,b≠m->b≠g.sd->H b=some o->H' b=some o)(h1:H' m=some (.aP (ak K "Machine") g.dm (dy {g with sd:=sd,most:=most} {M with said:=said,code:=code})))
(h2:H' sd=some (.ai ((said.take most).map fun b=>V.int (b.toNat:Nat))))(hs:sd=g.sd\/sd∉aK m g)(mb:most<=3000):MI K wkv m {g with sd:=sd,most:=most} {M with said:=said,code:=code} H':=by
 have nd:=I.dk;have om:=I.dt (x:=m) (by simp[bu]);have os:=I.dt (x:=g.sd) (by simp[bu]);have tk:cq H H':=fun b ys h=>hk b _ (fun z=>by rw[z,I.cy]at h;cases h) (fun z=>by rw[z,I.sd]at h;cases h) h;have np:∀b o,b∈g.bx\/b∈g.sg.flatMap (fun s:SG=>[s.a,s.aG,s.aD])->H b=some o->H' b=some o:=fun b o hb=>hk b o (fun z=>by subst z;rcases hb with z|z;exact om.2.1 z;exact om.2.2 z) (fun z=>by subst z;rcases hb with z|z;exact os.2.1 z;exact os.2.2 z);obtain⟨r1,r2,r3⟩:=I.si.rest tk np;have kx:∀j {c:ae}{o:HO},(bu m g)[j]? =some c->j≠0->j≠5->H c=some o->H' c=some o:=fun j c o e n0 n5=>hk c o (bG nd j 0 e rfl n0) (bG nd j 5 e rfl n5)
 refine⟨h1,kx 11 rfl (by decide) (by decide) I.fY,kx 1 rfl (by decide) (by decide) I.au,aM I.bh tk,kx 2 rfl (by decide) (by decide) I.bB,mF I.eL tk fun b hb o=>hk b o (fun z=>om.1 (z▸hb)) (fun z=>os.1 (z▸hb)),kx 3 rfl (by decide) (by decide) I.dC,h2,
  ⟨kx 4 rfl (by decide) (by decide) I.si.aZ,kx 6 rfl (by decide) (by decide) I.si.aG,kx 7 rfl (by decide) (by decide) I.si.aD,kx 8 rfl (by decide) (by decide) I.si.bQ,kx 9 rfl (by decide) (by decide) I.si.bI,kx 10 rfl (by decide) (by decide) I.si.bz,r1,r2,r3,I.si.hZ,I.si.gx,I.si.gj,I.si.fZ,I.si.eK,I.si.j6,I.si.j7,I.si.iB,I.si.gX,I.si.kA,I.si.kT⟩,
  fun b hb=>let⟨o,e⟩:=I.ia b hb;⟨o,np b o (.inl hb) e⟩,?_,I.ib,?_,mb⟩
 ·rcases hs with rfl|hs
  ·exact nd
  ·exact kd 5 nd (jg hs).1
 ·intro a ha;rcases hs with rfl|hs
  ·exact I.dj a ha
  ·have ha':a∈(bu m g).set 5 sd:=ha;rcases f8 ha' with z|z
   ·exact I.dj a z
   ·rw[z];exact fun y=>hs (bX _ y)
theorem MI.WN(I:MI K wkv m g M H){a dx la lt d1 d2:ae}(fa:H a=none)(fla:H la=none)(i6:H lt=none)(f1:H d1=none)(f2:H d2=none)(e1:a≠la)(e2:a≠lt)(e3:la≠lt)(e4:d1≠d2)(ad:∀c,c=a\/c=la\/c=lt->c≠d1/\c≠d2)
(hk:∀b o,b≠g.bQ->b≠g.aZ->H b=some o->H' b=some o)
(ha:H' a=some (.aP (ak K "State") dx [("number",.int g.made),("arrays",.ref la),("tables",.ref lt),("held",.int (dI M.heap))]))(hla:H' la=some (.ai (g.items.map V.ref)))(hlt:H' lt=some (.ai (g.bg.map V.ref)))
(h1:H' d1=some (.dK []))(h2:H' d2=some (.dK []))(hs:H' g.bQ=some (.ai ((g.sg.map fun s=>V.ref s.a)++[V.ref a])))
(ho:H' g.aZ=some (.aP (ak K "Store") g.d9 (ee {g with bI:=d1,bz:=d2,made:=g.made+1} M.heap))):
  MI K wkv m {g with bI:=d1,bz:=d2,made:=g.made+1,sg:=g.sg++[⟨a,dx,la,lt,g.made,g.items,g.bg⟩],oA:=[],oT:=[]} {M with kept:=M.kept++[M.heap]} H':=by
 have nd:=I.dk;have oa:=I.dt (x:=g.bQ) (by simp[bu]);have os:=I.dt (x:=g.aZ) (by simp[bu]);have tk:cq H H':=fun b ys h=>hk b _ (fun z=>by rw[z,I.si.bQ]at h;cases h) (fun z=>by rw[z,I.si.aZ]at h;cases h) h;have np:∀b o,b∈g.bx\/b∈g.sg.flatMap (fun s:SG=>[s.a,s.aG,s.aD])->H b=some o->H' b=some o:=fun b o hb=>hk b o (fun z=>by subst z;rcases hb with z|z;exact oa.2.1 z;exact oa.2.2 z) (fun z=>by subst z;rcases hb with z|z;exact os.2.1 z;exact os.2.2 z);obtain⟨r1,r2,r3⟩:=I.si.rest tk np;have kx:∀j {c:ae}{o:HO},(bu m g)[j]? =some c->j≠8->j≠4->H c=some o->H' c=some o:=fun j c o e n0 n5=>hk c o (bG nd j 8 e rfl n0) (bG nd j 4 e rfl n5)
 have na:=fG I fa;have nla:=fG I fla;have nlt:=fG I i6;have n1:=fG I f1;have n2:=fG I f2;have hn:∀(i:Nat) n,g.aF[i]? =some n->(g.aF++[g.made])[i]? =some n:=fun i n e=>by rw[yb (cP.mp e).1];exact e
 have st:lD K H' M.heap ⟨a,dx,la,lt,g.made,g.items,g.bg⟩:=⟨ha,hla,hlt,r1,r2,I.si.hZ,I.si.gx⟩;refine I.oB tk (fun b o hb=>hk b o (I.lH (by simp) hb) (I.lH (by simp) hb)) ?_
  ⟨ho,kx 6 rfl (by decide) (by decide) I.si.aG,kx 7 rfl (by decide) (by decide) I.si.aD,?_,h1,h2,r1,r2,r3.app (.cons st .nil),I.si.hZ,I.si.gx,I.si.gj,I.si.fZ,?_,fun i b hi=>?_,fun i b hi=>?_,?_,?_,⟨r6,fun k hk=>by simp at hk⟩,⟨r6,fun k hk=>by simp at hk⟩⟩ ?_ ?_ ?_ ?_
 ·have:aX (bF H' (g.aF++[g.made])) M.stack g.l:=aM I.bh tk hn;rw[eY];exact this
 ·show H' g.bQ=some (.ai ((g.sg++[_]).map _));rw[eY];exact hs
 ·intro s hs;rcases cS.mp hs with z|z
  ·exact I.si.eK s z
  ·rw[eR.mp z];exact⟨I.si.gj,I.si.fZ⟩
 ·cases hi
 ·cases hi
 ·show((g.sg++[_]).map _).Pairwise _;rw[eY];refine uL.mpr ⟨I.si.iB,by simp,fun x hx y hy=>?_⟩;have:y=g.made:=by simpa using hy
  rw[this];exact I.si.gX x hx
 ·intro n hn;have hn':n∈(g.sg++[_]).map (fun s:SG=>s.eJ):=hn;rw[eY]at hn';show n<g.made+1;rcases cS.mp hn' with z|z
  ·have:=I.si.gX n z;lia
  ·have:n=g.made:=by simpa using z
   lia
 ·exact fun b hb=>let⟨o,e⟩:=I.ia b hb;⟨o,np b o (.inl hb) e⟩
 ·show(((bu m g).set 9 d1).set 10 d2).Nodup;exact kd 10 (kd 9 nd (jg n1).1) (kU (jg n2).1 (cM e4))
 ·show(g.fs++(g.bx++(g.sg++[_]).flatMap _)).Nodup;rw[Dg,<-ir,<-ir];refine mY.mpr ⟨by rw[ir];exact I.ib,by simp[e1,e2,e3],fun x hx y hy z=>?_⟩;rw[ir]at hx;have hx':x∈aK m g:=bX _ hx;subst z;simp only[yx,OV,kW,br,gK,or_false]at hy;rcases hy with rfl|rfl|rfl
  ·exact na hx'
  ·exact nla hx'
  ·exact nlt hx'
 ·intro c hc;have hc':c∈((bu m g).set 9 d1).set 10 d2:=hc;show c∉g.fs++(g.bx++(g.sg++[_]).flatMap _);rw[Dg,<-ir,<-ir];intro z;rcases cS.mp z with z|z
  ·rw[ir]at z;have zf:c∈var g:=z;rcases f8 hc' with y|y
   ·rcases f8 y with y|y
    ·exact I.dj c y zf
    ·exact n1 (y▸bX _ zf)
   ·exact n2 (y▸bX _ zf)
  ·simp only[yx,OV,kW,br,gK,or_false]at z;have cn:=ad c z;have nf:c∉bu m g:=by
    rcases z with rfl|rfl|rfl
    ·exact(jg na).1
    ·exact(jg nla).1
    ·exact(jg nlt).1
   rcases f8 hc' with y|y
   ·rcases f8 y with y|y
    ·exact nf y
    ·exact cn.1 y
   ·exact cn.2 y
theorem MI.WO(I:MI K wkv m g M H){k:Nat}{s:SG}{h:b9}{sl d1 d2:ae}(es:g.sg[k]? =some s)(eh:M.kept[k]? =some h)(fl:H sl=none)(f1:H d1=none)(f2:H d2=none)(e1:sl≠d1)(e2:sl≠d2)(e4:d1≠d2)
(hk:∀b o,b≠g.aZ->H b=some o->H' b=some o)(hl:H' sl=some (.ai ((g.sg.take k).map fun s=>V.ref s.a)))(h1:H' d1=some (.dK []))(h2:H' d2=some (.dK []))
(ho:H' g.aZ=some (.aP (ak K "Store") g.d9 (ee {g with aG:=s.aG,aD:=s.aD,bQ:=sl,bI:=d1,bz:=d2} h)))(sv:aX (bF H' ((g.sg.take k).map (·.eJ))) M.stack g.l):
  MI K wkv m {g with aG:=s.aG,aD:=s.aD,bQ:=sl,bI:=d1,bz:=d2,items:=s.items,bg:=s.bg,sg:=g.sg.take k,oA:=[],oT:=[]} {M with heap:=h,kept:=M.kept.take k} H':=by
 have nd:=I.dk;have os:=I.dt (x:=g.aZ) (by simp[bu]);have tk:cq H H':=fun b ys h=>hk b _ (fun z=>by rw[z,I.si.aZ]at h;cases h) h;have np:∀b o,b∈g.bx\/b∈g.sg.flatMap (fun s:SG=>[s.a,s.aG,s.aD])->H b=some o->H' b=some o:=fun b o hb=>hk b o (fun z=>by subst z;rcases hb with z|z;exact os.2.1 z;exact os.2.2 z);obtain⟨r1,r2,r3⟩:=I.si.rest tk np;have ms:s∈g.sg:=dR es;obtain⟨h',eh',S⟩:=r3.hX k s es;rw[eh]at eh';cases eh';have nl:=fG I fl;have n1:=fG I f1;have n2:=fG I f2;have kl:k<g.sg.length:=(cP.mp es).1;have sp:g.sg=g.sg.take k++(s::g.sg.drop (k+1)):=by
  have e:g.sg.drop k=s::g.sg.drop (k+1):=by
   rw[uN kl];congr 1;exact(cP.mp es).2
  rw[<-e,List.take_append_drop]
 have ev:var g=(g.fs++(g.bx++(g.sg.take k).flatMap (fun s:SG=>[s.a,s.aG,s.aD])))++([s.a,s.aG,s.aD]++(g.sg.drop (k+1)).flatMap (fun s:SG=>[s.a,s.aG,s.aD])):=by
  unfold var;conv=>lhs;rw[sp]
  rw[Dg,yx];simp only[ir]
 have ndv:=I.ib;rw[ev,mY]at ndv;obtain⟨v1,v2,v3⟩:=ndv;have subv:∀b,b∈g.fs++(g.bx++(g.sg.take k).flatMap (fun s:SG=>[s.a,s.aG,s.aD]))->b∈var g:=fun b hb=>by rw[ev];exact c7 _ hb
 have bW:∀b,b=s.aG\/b=s.aD->b∈var g/\b∉g.fs++(g.bx++(g.sg.take k).flatMap (fun s:SG=>[s.a,s.aG,s.aD])):=fun b hb=>by
  have mb:b∈[s.a,s.aG,s.aD]++(g.sg.drop (k+1)).flatMap (fun s:SG=>[s.a,s.aG,s.aD]):=c7 _ (by rcases hb with z|z<;>simp[z]);exact⟨by rw[ev];exact bX _ mb,fun z=>v3 b z b mb rfl⟩
 have nat:s.aG≠s.aD:=by
  have:=(mY.mp v2).1;simp at this;exact this.2
 have fx:∀b,b=s.aG\/b=s.aD->b∉bu m g:=fun b hb z=>I.dj b z (bW b hb).1;have fsh:∀b,b=s.aG\/b=s.aD->∀c,H c=none->b≠c:=fun b hb c hc z=>by
  subst z;obtain⟨o,e⟩:=Lx I b (bX _ (bW b hb).1);rw[e]at hc;cases hc
 refine I.oB tk (fun b o hb=>hk b o (I.lH (by simp) hb)) sv
  ⟨ho,S.aG,S.aD,hl,h1,h2,S.fu,S.fb,r3.take k,S.hZ,S.gx,(I.si.eK s ms).1,(I.si.eK s ms).2,fun t ht=>I.si.eK t (lP ht),fun i b hi=>(by cases hi),fun i b hi=>(by cases hi),?_,?_,⟨r6,fun k hk=>by simp at hk⟩,⟨r6,fun k hk=>by simp at hk⟩⟩ ?_ ?_ ?_ ?_
 ·show((g.sg.take k).map _).Pairwise _;rw[uO];exact I.si.iB.sublist (uy _ _)
 ·intro n hn;have hn':n∈(g.sg.take k).map (·.eJ):=hn;rw[uO]at hn';exact I.si.gX n (lP hn')
 ·exact fun b hb=>let⟨o,e⟩:=I.ia b hb;⟨o,np b o (.inl hb) e⟩
 ·show((((((bu m g).set 6 s.aG).set 7 s.aD).set 8 sl).set 9 d1).set 10 d2).Nodup;have a1:=kd 6 nd (fx _ (.inl rfl));have a2:=kd 7 a1 (kU (fx _ (.inr rfl)) (cM nat));have a3:=kd 8 a2 (kU (kU (jg nl).1 (cM (fsh _ (.inl rfl) _ fl))) (cM (fsh _ (.inr rfl) _ fl)));have a4:=kd 9 a3 (kU (kU (kU (jg n1).1 (cM (fsh _ (.inl rfl) _ f1))) (cM (fsh _ (.inr rfl) _ f1))) (cM e1));exact kd 10 a4 (kU (kU (kU (kU (jg n2).1 (cM (fsh _ (.inl rfl) _ f2))) (cM (fsh _ (.inr rfl) _ f2))) (cM e2)) (cM e4))
 ·exact v1
 ·intro c hc;have hc':c∈(((((bu m g).set 6 s.aG).set 7 s.aD).set 8 sl).set 9 d1).set 10 d2:=hc;intro z;have z':c∈g.fs++(g.bx++(g.sg.take k).flatMap (fun s:SG=>[s.a,s.aG,s.aD])):=z;rcases f8 hc' with y|y
  ·rcases f8 y with y|y
   ·rcases f8 y with y|y
    ·rcases f8 y with y|y
     ·rcases f8 y with y|y
      ·exact I.dj c y (subv c z')
      ·exact(bW c (.inl y)).2 z'
     ·exact(bW c (.inr y)).2 z'
    ·exact nl (y▸bX _ (subv c z'))
   ·exact n1 (y▸bX _ (subv c z'))
  ·exact n2 (y▸bX _ (subv c z'))
theorem WQ{hp:b9}{n:Nat}{aF:List Int}{k:Nat}:∀{s:List aB}{l:List V},aX (bF H aF) s l->(∀v∈s,cH hp n v)->(∀v∈s,∀j,v=.state j->j<k)->aX (bF H (aF.take k)) s l:=by
 intro s l h;induction h with
 |nil=>exact fun _ _=>.nil
 |@cons t v _ _ q r ih=>
  intro w f;refine .cons ?_ (ih (fun v hv=>w v (bP _ hv)) fun v hv=>f v (bP _ hv));obtain⟨a,x,h1,h2,h3⟩:=q;refine⟨a,x,h1,h2,?_⟩;have vk:∀{t:aB}{x:V},cH hp n t->(∀j,t=.state j->j<k)->bU H aF t x->bU H (aF.take k) t x:=by
   intro t x ho hj hv;cases t with
   |state j=>
    rw[bU]at hv ⊢;obtain⟨z,e,rfl⟩:=hv;exact⟨z,by rw[abh (hj j rfl)];exact e,rfl⟩
   |proc b=>
    rw[tW]at hv ⊢;obtain⟨p,vs,e1,e2,e3⟩:=hv;exact⟨p,vs,e1,e2,BO ho e3⟩
   |_=>rw[bU]at hv ⊢;exact hv
  exact vk (w t cw) (f t cw) h3
end
theorem BY{H:Hp}{n:bO}:∀{t:List (bO×aB)}{kvs:List (Key×V)},aX (oj H) t kvs->(kvs.any fun kv=>decide (kv.1=(cX (bH n):Key)))=t.any fun x=>x.1==n:=by
 intro t kvs h;induction h with
 |nil=>rfl
 |@cons e kv _ _ h t ih=>
  rw[iV,iV,ih,h.1];congr 1;by_cases c:e.1=n
  ·rw[c];simp
  ·rw[beq_eq_false_iff_ne.mpr c];exact decide_eq_false fun z=>c (t8 (xS z))
theorem xq{H:Hp}{n:bO}{v:aB}{x:V}{t:List (bO×aB)}{kvs:List (Key×V)}(h:aX (oj H) t kvs)(hx:bF H [] v x):aX (oj H) (kr n v t) (ck kvs (cX (bH n)) x):=by
 unfold kr ck;rw[BY h];by_cases c:(t.any fun x=>x.1==n)=true
 ·rw[if_pos c,if_pos c];clear c;induction h with
  |nil=>exact .nil
  |@cons e kv l r q _ ih=>
   refine .cons ?_ ih;show oj H (if e.1=n then(n,v)else e) (if kv.1=cX (bH n)then(kv.1,x)else kv);by_cases d:e.1=n
   ·rw[if_pos d,if_pos (by rw[q.1,d])];exact⟨by rw[q.1,d],hx⟩
   ·rw[if_neg d,if_neg (fun z=>d (t8 (xS (q.1.symm.trans z))))];exact q
 ·rw[if_neg c,if_neg c];exact h.app (.cons ⟨rfl,hx⟩ .nil)
section
variable{K:ax}{wkv:List (Key×V)}{m:ae}{g:G}{M:aY}{H H':Hp}
theorem MI.LS(I:MI K wkv m g M H){a:ae}{fs:List ae}(ef:g.fs=a::fs):a∉bu m g/\a∉fs/\a∉g.bx/\a∉g.sg.flatMap (fun s:SG=>[s.a,s.aG,s.aD]):=by
 have nd:=I.ib;unfold var at nd;rw[ef,jn,eG]at nd;refine⟨fun z=>I.dj a z (by unfold var;rw[ef,jn];exact cw),fun z=>nd.1 (c7 _ z),fun z=>nd.1 (bX _ (c7 _ z)),fun z=>nd.1 (bX _ (bX _ z))⟩
theorem MI.WR(I:MI K wkv m g M H){a:ae}{fs:List ae}{f f':cZ}{fr:List cZ}(ef:g.fs=a::fs)(em:M.frames=f::fr)(b:bJ a H H')(hf:gG K H' f' a):MI K wkv m g {M with frames:=f'::fr} H':=by
 have pv:=I.eL;rw[ef,em]at pv;cases pv with
 |cons q t=>
  obtain⟨C,dx,fl,ea⟩:=q.aP;have tk:cq H H':=b.aj ea fun _ z=>by cases z
  obtain⟨o1,o2,o3,o4⟩:=I.LS ef;have nx:∀j {c:ae},(bu m g)[j]? =some c->c≠a:=fun j c h z=>o1 (z▸dR h)
  have n1:a∉[g.aZ,g.aG,g.aD,g.bQ,g.bI,g.bz]:=by
   simp only[br,gK,or_false,not_or];exact⟨cM (nx 4 rfl),cM (nx 6 rfl),cM (nx 7 rfl),cM (nx 8 rfl),cM (nx 9 rfl),cM (nx 10 rfl)⟩
  refine⟨b _ _ (nx 0 rfl) I.cy,b _ _ (nx 11 rfl) I.fY,b _ _ (nx 1 rfl) I.au,aM I.bh tk,b _ _ (nx 2 rfl) I.bB,?_,b _ _ (nx 3 rfl) I.dC,b _ _ (nx 5 rfl) I.sd,I.si.dY (m:=m) tk b n1 o3 o4,fun c hc=>let⟨u,e⟩:=I.ia c hc;⟨u,b c u (fun z=>o3 (z▸hc)) e⟩,I.dk,I.ib,I.dj,I.mb⟩;show aX (gG K H') (f'::fr) g.fs;rw[ef];exact .cons hf (mF t tk fun c hc u e=>b c u (fun z=>o2 (z▸hc)) e)
theorem MI.BZ(I:MI K wkv m g M H)(n:Nat)(b:bJ g.bB H H')(h1:H' g.bB=some (.ai ((g.fs.drop n).map V.ref).reverse)):MI K wkv m {g with fs:=g.fs.drop n} {M with frames:=M.frames.drop n} H':=by
 have tk:cq H H':=b.aj I.bB fun _ z=>by cases z
 have o:=I.dt (x:=g.bB) (by simp[bu]);have sub:∀c,c∈g.fs.drop n++(g.bx++g.sg.flatMap (fun s:SG=>[s.a,s.aG,s.aD]))->c∈var g:=fun c hc=>by
  unfold var;rcases cS.mp hc with z|z
  ·exact c7 _ (rX z)
  ·exact bX _ z
 refine I.Lj b h1 ((mF I.eL tk fun c hc u e=>b c u (fun z=>o.1 (z▸hc)) e).drop n) ?_ fun c hc z=>I.dj c hc (sub c z);show(g.fs.drop n++(g.bx++g.sg.flatMap (fun s:SG=>[s.a,s.aG,s.aD]))).Nodup;exact I.ib.sublist ((OW n g.fs).append_right _)
theorem B0(n:Nat)(hm:∀v,fP (aK m g) H=some v->fP (aK m {g with fs:=g.fs.drop n}) H'=some v)(b:bJ g.bB H H'):Fr (aK m g) H (aK m {g with fs:=g.fs.drop n}) H':=by
 refine⟨fun c o h n=>b c o (fun z=>n (by rw[z];simp[aK,bu])) h,fun c hc=>?_,rfl,hm⟩;have hc':c∈bu m g++(g.fs.drop n++(g.bx++g.sg.flatMap (fun s:SG=>[s.a,s.aG,s.aD]))):=hc;refine .inl ?_;rcases cS.mp hc' with z|z
 ·exact c7 _ z
 ·refine bX _ ?_;rcases cS.mp z with z|z
  ·exact c7 _ (rX z)
  ·exact bX _ z
end
def iQ(K:ax)(m:ae)(g:G)(M:aY)(H:Hp)(Q:VK)(E:XK):cD->Prop
 | .ok M'=>∀H' g',MI K (bc K) m g' M' H'->Fr (aK m g) H (aK m g') H'->Q .aO H'
 | .error e=>∀H' g' fr,MI K (bc K) m g' {M with frames:=fr} H'->Fr (aK m g) H (aK m g') H'->E (.int e 0) none H'
theorem iQ.er{K:ax}{m:ae}{g:G}{M:aY}{H H1:Hp}{Q:VK}{E:XK}{e:Int}{g1:G}{fr:List cZ}(q:iQ K m g M H Q E (.error e))(I:MI K (bc K) m g1 {M with frames:=fr} H1)(f:Fr (aK m g) H (aK m g1) H1):Er E e H1:=
 fun H' k=>q H' g1 fr (I.same k) (f.trans (Fr.same k))
theorem iQ.of{K:ax}{m:ae}{g g1:G}{M:aY}{H H1:Hp}{Q:VK}{E:XK}{r:cD}{fr:List cZ}(q:iQ K m g M H Q E r)(I:MI K (bc K) m g1 {M with frames:=fr} H1)(f:Fr (aK m g) H (aK m g1) H1):aI K m g1 H1 Q E r:=by
 cases r with
 |error e=>exact iQ.er q I f
 |ok M'=>exact fun H' g' I' f'=>q H' g' I' (f.trans f')
end SW
set_option tactic.hygienic true
namespace SW
open PySem PySem.Spec PyProof.Rows L2
def i5(f:Int->Int->Int)(h:Bool->Bool->Bool):R2:=fun x y H Q=>match x,y with
 | .int i,.int j=>Q (.int (f i j)) H
 | .bl a,.bl b=>Q (.bl (h a b)) H
 |_,_=>False
section
variable{X:Cx}
theorem B1{o:uo}{f:Int->Int->Int}{h:Bool->Bool->Bool}(h1:cQ X (gy o) (iK fun i j=>.int (f i j)))(h2:∀(a b:Bool) (s:ay) (Q:ag->ay->Prop) (E:ag->ay->Prop),Q (.bool (h a b)) s->aW (aU X.prog X.w) X.A (gy o (.bool a) (.bool b)) Q E s):cQ X (gy o) (i5 f h):=by
 intro pins s σ H x y v u Q I rx ry q;unfold i5 at q;split at q
 ·exact h1 pins s σ H _ _ v u Q I rx ry ⟨_,_,rfl,rfl,q⟩
 ·rename_i a b;cases rx;cases ry;exact h2 a b s _ _ ⟨.bl (h a b),H,I,rfl,q⟩
 ·exact q.elim
theorem WS:cQ X (gy .BitAnd) (i5 Og (·&&·)):=B1 Qo fun a b s Q E q=>and_bool q
theorem WT:cQ X (gy .BitOr) (i5 Oh (·|| ·)):=B1 Qp fun a b s Q E q=>or_bool q
theorem WU:cQ X (gy .BitXor) (i5 Oi (·!= ·)):=B1 Qq fun a b s Q E q=>xor_bool q
end
def mP:Nat->List aB->Except Int af
 |1,.int _::_=>.ok "number"
 |1,.truth _::_=>.ok "truth"
 |1,_::_=>.error (-4)
 |2,.int _::.int _::_=>.ok "number"
 |2,.truth _::.truth _::_=>.ok "truth"
 |2,_::_::_=>.error (-4)
 |_,_=>.error (-3)
def WV(Q:VK)(E:XK)(H:Hp):Except Int af->Prop
 | .ok k=>∀H',L2.aL H H'->Q (.str k) H'
 | .error e=>Er E e H
inductive LU(vs:List V)(H:Hp)(Q:VK)(E:XK):Prop
 |mk:∀p l s aF n,(vs=[.ref p,.int ((n:Nat):Int)])->((n=1\/n=2))->(H p=some (.ai (kZ l)))->(aX (bF H aF) s l)->(WV Q E H (mP n s))->LU vs H Q E
def WW:Sp:=fun vs H Q E=>LU vs H Q E
theorem WX{k:af}:lq (.str k) [.str "number",.str "truth"]=decide (k="number"\/k="truth"):=by
 show((("number":af)==k) || ((("truth":af)==k) || false))=_;rw[CK];by_cases h1:k="number"
 ·subst h1;simp
 ·by_cases h2:k="truth"
  ·subst h2;simp
  ·rw[decide_eq_false (by simp[h1,h2]),beq_eq_false_iff_ne.mpr (fun z=>h1 z.symm),beq_eq_false_iff_ne.mpr (fun z=>h2 z.symm)];rfl
theorem LV{t:aB}{r:List aB}(h:¬(ba t="number"\/ba t="truth")):mP 1 (t::r)=.error (-4):=by
 cases t<;>first|rfl|exact absurd (.inl rfl) h|exact absurd (.inr rfl) h
theorem LW{t:aB}{r:List aB}(h:ba t="number"\/ba t="truth"):mP 1 (t::r)=.ok (ba t):=by
 rcases h with h|h
 ·obtain⟨n,rfl⟩:=eM h;rfl
 ·obtain⟨n,rfl⟩:=mH h;rfl
theorem B2{t u:aB}{r:List aB}(h:¬((ba t="number"\/ba t="truth")/\ba u=ba t)):mP 2 (t::u::r)=.error (-4):=by
 cases t<;>first|rfl|(cases u<;>first|rfl|exact absurd ⟨.inl rfl,rfl⟩ h|exact absurd ⟨.inr rfl,rfl⟩ h)
theorem WY{t u:aB}{r:List aB}(h:ba t="number"\/ba t="truth")(h2:ba u=ba t):mP 2 (t::u::r)=.ok (ba t):=by
 rcases h with h|h
 ·obtain⟨n,rfl⟩:=eM h;obtain⟨k,rfl⟩:=eM h2;rfl
 ·obtain⟨n,rfl⟩:=mH h;obtain⟨k,rfl⟩:=mH h2;rfl
local macro_rules| `(tactic|walk_at "rd0")=>`(tactic|simp only[b2,aQ,i5, *])
variable{P:bv}{w:bf}{K:ax}{mg:af->Option ag}{base:Heap}
theorem xr(T:Txt K)(M:MG K mg):ZF 5 "want_bits" ["stack","how_many"] WW:=by
 refine ZB T.tR Hu
 ·obtain⟨p,l,s',aF,n,rfl,_⟩:=h;rfl
 ·obtain⟨p,l,s',aF,n,rfl,hn,hp,hs,q⟩:=h;refine⟨_,(Zq (aE (Zf T.kL T.jZ kO (pw 0) (pw 1))) (Zs 2 Hu (Zi (Zn (pw 0)))) (Zz (PW.pt (vi (qe Et (pw 2) (Zt (a8 M T.fO) (a8 M T.jE)) (by with_unfolding_all rfl)) (vh (Zc pc (Zi (Zx fK (pw 0) (fq lS (pw 1)))) (pw 2))))) (Zr T.mx T.nX ou T.mn T.nW)) (dh (pw 2))),?_⟩;have hl:s'.length=l.length:=hs.length;left;refine⟨p,l.reverse,n,rfl,hp,?_⟩;rw[bN];by_cases c:l.length<n
  ·rw[if_pos (by lia)];right;rcases hn with rfl|rfl
   ·match s',hl with
    |[],_=>exact q
    |_::_,hl=>simp only[aA]at hl;lia
   ·match s',hl with
    |[],_=>exact q
    |[t],_=>cases t<;>exact q
    |_::_::_,hl=>simp only[aA]at hl;lia
  ·rw[if_neg (by lia)];right;cases hs with
   |nil=>rcases hn with rfl|rfl<;>exact absurd (by simp) c
   |@cons t v1 s1 l1 h1 t1=>
    obtain⟨a1,x1,rfl,e1⟩:=h1.aj;obtain⟨u,a2,x2,eu,e2,hat⟩:∃u a2 x2,(t::s1)[n-1]? =some u/\H a2=some (.aj [.str (ba u),x2])/\cR (V.ref a1::l1).reverse (-(n:Int))=some (.ref a2):=by
     have hlen:n-1<(t::s1).length:=by rw[hl];lia
     obtain⟨u,eu⟩:∃u,(t::s1)[n-1]? =some u:=⟨_,f7 hlen⟩
     obtain⟨v,ev,hv⟩:=(aX.cons h1 t1).get _ _ eu;obtain⟨a2,x2,rfl,e2⟩:=hv.aj;refine⟨u,a2,x2,eu,e2,?_⟩;rw[show(-(n:Int))= -(((n-1:Nat):Int)+1)by lia,pM];exact ev
    clear h1 t1;left;refine⟨by decide,fun pt hpt=>⟨pt,[.str "number",.str "truth"],rfl,.inr (dH.of az),rfl,rfl,?_⟩⟩;have k0:=bA (o:=HO.aj [.str "number",.str "truth"]) hpt;rw[show(if true=true then !lq (V.str (ba t)) [V.str "number",V.str "truth"]else lq (V.str (ba t)) [V.str "number",V.str "truth"])= !decide (ba t="number"\/ba t="truth")from by rw[<-WX];rfl];dsimp only;have two:n=2->∃r,s1=u::r:=fun h=>by
     subst h;cases s1 with
     |nil=>simp at eu
     |cons y r=>cases eu;exact⟨r,rfl⟩
    by_cases d:ba t="number"\/ba t="truth"
    ·rw[if_neg (by rw[decide_eq_true d];decide)];right;have hp1:=k0 _ _ hp;have e21:=k0 _ _ e2;generalize aq H pt (.aj [.str "number",.str "truth"])=H1 at *;by_cases f:ba u=ba t
     ·have b:mP n (t::s1)=.ok (ba t):=by
       rcases hn with h|h
       ·subst h;exact LW d
       ·obtain⟨r,rfl⟩:=two h;subst h;exact WY d f
      rw[b]at q;have q2:=q _ k0;clear q e1 e2 hp two c hl eu d b;left
     ·have b:mP n (t::s1)=.error (-4):=by
       rcases hn with h|h
       ·subst h;have:t=u:=fz eu;rw[this]at f;exact absurd rfl f
       ·obtain⟨r,rfl⟩:=two h;subst h;exact B2 fun z=>f z.2
      rw[b]at q;have q2:=Er.up q k0;clear q e1 e2 hp two c hl eu d b;left;exact q2
    ·rw[if_pos (by rw[decide_eq_false d];rfl)];right;have b:mP n (t::s1)=.error (-4):=by
      rcases hn with h|h
      ·subst h;exact LV d
      ·obtain⟨r,rfl⟩:=two h;subst h;exact B2 fun z=>d z.1
     rw[b]at q;exact Er.up q k0
theorem WZ(T:Txt K)(M:MG K mg):ZF 6 "do_not" ["machine"] (cO K (bD "not")):=by
 refine ZC T.JD wn
 ·nofun;refine⟨_,(Zq (Zs 1 wn (Zd 0)) (Zs 2 wn (Zf T.wz T.tR xr (pw 1) aS)) (Zs 3 wn (Zi (Zn (pw 1)))) (aE (Zf T.hU T.gF ic (pw 1) aS (Zt (pw 2) (o8 (Zc dz (pw 2) (a8 M T.jE)) (Qa (pw 3)) (cT ig (fq lS aS) (pw 3))))))),?_⟩;walk_at "zh";left;refine⟨g.au,g.l,M0.stack,g.aF,1,rfl,.inl rfl,hs,I.bh,?_⟩;have q':aI K m g H Q E (match M0.stack with| .int a::r=>M0.with_ (.int (eB (-1-a))::r)| .truth a::r=>M0.with_ (.truth (!a)::r)|_::_=>.error dq|_=>.error cE):=q;have hV:=I.bh;have hv:=W.au;match e:M0.stack with
  |[]=>rw[e]at q';exact q'
  |t::r=>
   rw[e]at q' hV hv hz;have hz2:r.length+1<=256:=hz;obtain⟨v1,l1,el,h1,h2⟩:=hV.bW;have lz:l1.length=r.length:=h2.length.symm;rw[el]at hs;by_cases d:ba t="number"\/ba t="truth"
   ·rw[LW d];intro H1 k0;have hs1:=k0 _ _ hs;rcases d with d|d
    ·obtain⟨a,rfl⟩:=eM d;obtain⟨a1,rfl,e1⟩:=h1.int;have e11:=k0 _ _ e1;have va: -2147483648<=a/\a<2147483648:=hv (.int a) (by simp);have q2:aI K m g H Q E (M0.with_ (.int (eB (-1-a))::r)):=q';rw[BQ (by omega) (by omega),du (by exact hz)]at q2;have dd:ba (.int a)="number":=rfl;have nt:(("number":af)="truth")=False:=eq_false (by decide);clear q q' hs hm hV hv e1;left;refine⟨by decide,fun x hx=>⟨g.au,_,1,.ref x,rfl,bA hx _ _ hs1,by simp only[aA];omega,by simp only[aA];omega,fun H' bb hp'=>?_⟩⟩;have k2:=k0.trans (bA (o:=HO.aj [.str "number",.int (-1-a)]) hx);exact aI.au I q2 k2 bb hp' fun tk=>.cons (iC (tk _ _ az)) (aM (aM h2 (SW.aL.aj k2)) tk)
    ·obtain⟨a,rfl⟩:=mH d;obtain⟨a1,rfl,e1⟩:=h1.truth;have e11:=k0 _ _ e1;have q2:aI K m g H Q E (M0.with_ (.truth (!a)::r)):=q';rw[du (by exact hz)]at q2;have dd:ba (.truth a)="truth":=rfl;clear q q' hs hm hV hv e1;left;refine⟨by decide,fun x hx=>⟨g.au,_,1,.ref x,rfl,bA hx _ _ hs1,by simp only[aA];omega,by simp only[aA];omega,fun H' bb hp'=>?_⟩⟩;have k2:=k0.trans (bA (o:=HO.aj [.str "truth",.bl (!a)]) hx);exact aI.au I q2 k2 bb hp' fun tk=>.cons (j8 (tk _ _ az)) (aM (aM h2 (SW.aL.aj k2)) tk)
   ·rw[LV d];have q2:aI K m g H Q E (.error (-4)):=by
     cases t<;>first|exact q'|exact absurd (.inl rfl) d|exact absurd (.inr rfl) d
    exact q2
end SW
set_option tactic.hygienic false
namespace SW
theorem LX(N:Nat):∀k:Nat,(rJ k).foldl (fun n i=>n+if N.testBit i=true then 2^i else 0) 0=N % 2^k
 |0=>by simp[Nat.mod_one]
 |k+1=>by
  rw[List.range_succ,List.foldl_append,LX N k,Nat.mod_pow_succ,rP,List.foldl_nil];congr 1;rw[Nat.testBit_eq_decide_div_mod_eq];have h2:=Nat.mod_lt (N / 2^k) (show 0<2 by decide);by_cases h:N / 2^k % 2=1
  ·rw[if_pos (by simp[h]),h,Nat.mul_one]
  ·rw[if_neg (by simp[h]),show N / 2^k % 2=0 by lia,Nat.mul_zero]
theorem LY{f g:Nat->Bool}:∀(l:List Nat)(a:Nat),(∀i∈l,f i=g i)->l.foldl (fun n i=>n+if f i=true then 2^i else 0) a=l.foldl (fun n i=>n+if g i=true then 2^i else 0) a
 |[],a,_=>rfl
 |x::l,a,h=>by
  rw[rP,rP,h x cw];exact LY l _ fun i m=>h i (bP _ m)
theorem B3{f:Bool->Bool->Bool}{a b:Int}{N:Nat}(h:∀i,i<32->f ((a % 2^32).toNat.testBit i) ((b % 2^32).toNat.testBit i)=N.testBit i)(hN:N<2^32):lQ f a b=eB (N:Int):=by
 unfold lQ;rw[LY (g:=fun i=>N.testBit i) _ 0 fun i m=>h i (Oc.mp m),LX,Dh hN]
theorem B4{x y:Nat}(hx:x<2^32)(hy:y<2^32)(h:x&&& y=0):x+y=x |||y:=by
 have hx':x % 2^33=x:=Dh (by lia);have hy':y % 2^33=y:=Dh (by lia);have e:=BitVec.add_eq_or_of_and_eq_zero (BitVec.ofNat 33 x) (BitVec.ofNat 33 y) (by
  apply BitVec.eq_of_toNat_eq;rw[BitVec.toNat_and,Di,Di,hx',hy',h];rfl)
 have e2:=congrArg BitVec.toNat e;rw[BitVec.toNat_add,BitVec.toNat_or,Di,Di,hx',hy',Dh (by lia)]at e2;exact e2
theorem oC{x i:Nat}(h:x<2^32):(2^32-(x+1)).testBit i=(decide (i<32)&& !x.testBit i):=Nat.testBit_two_pow_sub_succ h i
theorem LZ{A c:Nat}(hA:A<2^32)(hc:c<2^32):A&&& (2^32-(c+1))=A-(A&&& c):=by
 have h1:(A&&& c)+(A&&& (2^32-(c+1)))=A:=by
  have hx:(A&&& c)&&& (A&&& (2^32-(c+1)))=0:=by
   apply p7;intro i;rw[jK,jK,jK,oC hc,OX];cases A.testBit i<;>cases c.testBit i<;>simp
  rw[B4 (uG p8 hA) (uG p8 hA) hx];apply p7;intro i;rw[p9,jK,jK,oC hc];by_cases hi:i<32
  ·cases A.testBit i<;>cases c.testBit i<;>simp[hi]
  ·rw[Nat.testBit_lt_two_pow (eO hA (abH (by decide) (by omega)))];simp
 omega
theorem B5{z:Int}(h1: -2147483648<=z)(h2:z<2147483648){n:Nat}(h:(n:Int)=z % 4294967296):eB n=z:=by
 unfold eB
 lia
theorem xt{a:Int}(h1:0<=a)(h2:a<2147483648):(a % 2^32).toNat=a.toNat:=by lia
theorem xu{a:Int}(h1:a<0)(h2: -2147483648<=a):(a % 2^32).toNat=2^32-((dF a).toNat+1)/\(dF a).toNat<2^32:=by
 unfold dF
 lia
abbrev res(a:Int):Nat:=(a % 2^32).toNat
abbrev dL(a:Int):Prop:= -2147483648<=a/\a<2147483648
theorem mQ(a:Int):res a<2^32:=by unfold res;lia
theorem L5{c d:Nat}(hc:c<2147483648)(hd:d<2147483648):c |||d<2147483648:=yy (n:=31) hc hd
theorem W3{a:Int}{z:Nat}(h1:0<=a)(h2:a<2147483648)(h:z<=a.toNat):((z:Nat):Int)=((z:Nat):Int) % 4294967296/\dL ((z:Nat):Int):=by unfold dL;lia
theorem L6{a:Int}{z:Nat}(h1:0<=a)(h2:a<2147483648)(h:z<=a.toNat):((a.toNat-z:Nat):Int)=(a-((z:Nat):Int)) % 4294967296/\dL (a-((z:Nat):Int)):=by unfold dL;lia
theorem W6{z:Nat}(h:z<2147483648):((2^32-(z+1):Nat):Int)=dF ((z:Nat):Int) % 4294967296/\dL (dF ((z:Nat):Int)):=by unfold dF dL;lia
theorem nn{a:Int}(h:¬0<=a):a<0:=by lia
theorem tn{a:Int}(h:a<2147483648):a.toNat<2^32:=by lia
theorem bn{a:Int}(h: -2147483648<=a):(dF a).toNat<2147483648:=by unfold dF;omega
theorem W7{n:Nat}(h:n<2147483648):n<2^32:=by lia
theorem xw{a b:Int}(ha:dL a)(hb:dL b):((res a&&& res b:Nat):Int)=uP a b % 4294967296/\dL (uP a b):=by
 unfold uP;by_cases h1:0<=a
 ·by_cases h2:0<=b
  ·rw[decide_eq_true h1,decide_eq_true h2];show((res a&&& res b:Nat):Int)=((a.toNat&&& b.toNat:Nat):Int) % 4294967296/\dL ((a.toNat&&& b.toNat:Nat):Int);have e1:res a=a.toNat:=xt h1 ha.2;have e2:res b=b.toNat:=xt h2 hb.2;rw[e1,e2];have:=p8 (n:=a.toNat) (m:=b.toNat);exact W3 h1 ha.2 this
  ·rw[decide_eq_true h1,decide_eq_false h2];show((res a&&& res b:Nat):Int)=(a-((a.toNat&&& (dF b).toNat:Nat):Int)) % 4294967296/\dL (a-((a.toNat&&& (dF b).toNat:Nat):Int));have e1:res a=a.toNat:=xt h1 ha.2;obtain⟨e2,e3⟩:=xu (a:=b) (nn h2) hb.1;have e2:res b=2^32-((dF b).toNat+1):=e2;rw[e1,e2,LZ (tn ha.2) e3];exact L6 h1 ha.2 p8
 ·by_cases h2:0<=b
  ·rw[decide_eq_false h1,decide_eq_true h2];show((res a&&& res b:Nat):Int)=(b-((b.toNat&&& (dF a).toNat:Nat):Int)) % 4294967296/\dL (b-((b.toNat&&& (dF a).toNat:Nat):Int));have e1:res b=b.toNat:=xt h2 hb.2;obtain⟨e2,e3⟩:=xu (a:=a) (nn h1) ha.1;have e2:res a=2^32-((dF a).toNat+1):=e2;rw[e1,e2,Nat.and_comm,LZ (tn hb.2) e3];exact L6 h2 hb.2 p8
  ·rw[decide_eq_false h1,decide_eq_false h2];show((res a&&& res b:Nat):Int)=(dF (((dF a).toNat |||(dF b).toNat:Nat):Int)) % 4294967296/\dL (dF (((dF a).toNat |||(dF b).toNat:Nat):Int));obtain⟨e2,e3⟩:=xu (a:=a) (nn h1) ha.1;obtain⟨e4,e5⟩:=xu (a:=b) (nn h2) hb.1;have e2:res a=2^32-((dF a).toNat+1):=e2;have e4:res b=2^32-((dF b).toNat+1):=e4;have ca:(dF a).toNat<2147483648:=bn ha.1;have cb:(dF b).toNat<2147483648:=bn hb.1;have os:=L5 ca cb;have e6:(2^32-((dF a).toNat+1))&&& (2^32-((dF b).toNat+1))=2^32-(((dF a).toNat |||(dF b).toNat)+1):=by
    apply p7;intro i;rw[jK,oC e3,oC e5,oC (W7 os),p9];cases decide (i<32)<;>cases(dF a).toNat.testBit i<;>cases(dF b).toNat.testBit i<;>rfl
   rw[e2,e4,e6];exact W6 os
theorem L7(a:Int):res (dF a)=2^32-(res a+1):=by unfold res dF;lia
theorem B6{a:Int}(h:dL a):dL (dF a):=by unfold dL dF at *;lia
theorem B7{a b:Int}(ha:dL a)(hb:dL b):((res a |||res b:Nat):Int)=yz a b % 4294967296/\dL (yz a b):=by
 obtain⟨h1,h2⟩:=xw (B6 ha) (B6 hb);rw[L7,L7]at h1;have la:=mQ a;have lb:=mQ b;have e6:(2^32-(res a+1))&&& (2^32-(res b+1))=2^32-((res a |||res b)+1):=by
  apply p7;intro i;rw[jK,oC la,oC lb,oC (yy la lb),p9];cases decide (i<32)<;>cases(res a).testBit i<;>cases(res b).testBit i<;>rfl
 have lo:res a |||res b<2^32:=yy la lb
 rw[e6]at h1;unfold yz;refine⟨?_,B6 h2⟩;generalize uP (dF a) (dF b)=y at *;generalize res a |||res b=z at *
 unfold dF;omega
theorem W8{a b:Int}(ha:dL a)(hb:dL b):((res a ^^^ res b:Nat):Int)=yA a b % 4294967296:=by
 obtain⟨h1,_⟩:=xw ha hb;obtain⟨h2,_⟩:=B7 ha hb;have la:=mQ a;have lb:=mQ b;have hx:(res a ^^^ res b)&&& (res a&&& res b)=0:=by
  apply p7;intro i;rw[jK,jK,yB,OX];cases(res a).testBit i<;>cases(res b).testBit i<;>rfl
 have e:=B4 (OY la lb) (uG p8 la) hx;have e7:(res a ^^^ res b) |||(res a&&& res b)=res a |||res b:=by
  apply p7;intro i;rw[p9,jK,yB,p9];cases(res a).testBit i<;>cases(res b).testBit i<;>rfl
 rw[e7]at e;have lx:=OY la lb;unfold yA
 lia
theorem W9{a b:Int}(ha:dL a)(hb:dL b):lQ (fun a b=>a&&b) a b=uP a b:=by
 obtain⟨h1,h2⟩:=xw ha hb;rw[B3 (N:=res a&&& res b) (fun i _=>(jK _ _ _).symm) (uG p8 (mQ a))];exact B5 h2.1 h2.2 h1
theorem Xa{a b:Int}(ha:dL a)(hb:dL b):lQ (fun a b=>a || b) a b=yz a b:=by
 obtain⟨h1,h2⟩:=B7 ha hb;rw[B3 (N:=res a |||res b) (fun i _=>(p9 _ _ _).symm) (yy (mQ a) (mQ b))];exact B5 h2.1 h2.2 h1
theorem Xb{a b:Int}(ha:dL a)(hb:dL b):lQ (fun a b=>a != b) a b=yA a b:=by
 obtain⟨h1,h1'⟩:=xw ha hb;obtain⟨h2,h2'⟩:=B7 ha hb;have h3:=W8 ha hb;have la:=mQ a;have lb:=mQ b;have lx:=OY la lb;have lo:=yy la lb;have ln:=uG (p8 (n:=res a) (m:=res b)) la;have hx:(res a ^^^ res b)&&& (res a&&& res b)=0:=by
  apply p7;intro i;rw[jK,jK,yB,OX];cases(res a).testBit i<;>cases(res b).testBit i<;>rfl
 have e:=B4 lx ln hx;have e7:(res a ^^^ res b) |||(res a&&& res b)=res a |||res b:=by
  apply p7;intro i;rw[p9,jK,yB,p9];cases(res a).testBit i<;>cases(res b).testBit i<;>rfl
 have key:(res a ^^^ res b)<2147483648->(res a&&& res b)<2147483648->(res a |||res b)<2147483648:=fun x y=>by rw[<-e7];exact L5 x y
 rw[e7]at e;rw[B3 (N:=res a ^^^ res b) (fun i _=>by rw[yB]) lx];have r:dL (yA a b):=by
  unfold yA;unfold dL at *;generalize uP a b=u at *;generalize yz a b=v at *;generalize res a ^^^ res b=x at *;generalize res a&&& res b=y at *;generalize res a |||res b=z at *
  by_cases c1:x<2147483648
  ·by_cases c2:y<2147483648
   ·have:=key c1 c2;lia
   ·lia
  ·lia
 exact B5 r.1 r.2 h3
end SW
namespace SW
open PySem PySem.Spec PyProof.Rows L2
local macro_rules| `(tactic|walk_at "rd0")=>`(tactic|simp only[b2,aQ,i5, *])
theorem B8{s:List aB}:(∃e,mP 2 s=.error e/\∀(M:aY)(f:Bool->Bool->Bool),M.stack=s->gp M f=.error e)\/(∃b a r,s=.int b::.int a::r)\/∃b a r,s=.truth b::.truth a::r:=by
 match s with
 |[]=>exact .inl ⟨-3,rfl,fun M f h=>by unfold gp;rw[h];rfl⟩
 |[t]=>exact .inl ⟨-3,by cases t<;>rfl,fun M f h=>by unfold gp;rw[h];cases t<;>rfl⟩
 |t::u::r=>
  by_cases d:(ba t="number"\/ba t="truth")/\ba u=ba t
  ·rcases d with⟨d|d,f⟩
   ·obtain⟨x,rfl⟩:=eM d;obtain⟨y,rfl⟩:=eM f;exact .inr (.inl ⟨x,y,r,rfl⟩)
   ·obtain⟨x,rfl⟩:=mH d;obtain⟨y,rfl⟩:=mH f;exact .inr (.inr ⟨x,y,r,rfl⟩)
  ·refine .inl ⟨-4,B2 d,fun M f h=>?_⟩;unfold gp;rw[h];cases t<;>first|rfl|(cases u<;>first|rfl|exact absurd ⟨.inl rfl,rfl⟩ d|exact absurd ⟨.inr rfl,rfl⟩ d)
variable{P:bv}{w:bf}{K:ax}{mg:af->Option ag}{base:Heap}
theorem Xc(T:Txt K)(M:MG K mg):ZF 6 "do_and" ["machine"] (cO K (bD "and")):=by
 refine ZC T.JA AX
 ·nofun;refine⟨_,(Zq (Zs 1 AX (Zd 0)) (Zs 2 AX (Zf T.wz T.tR xr (pw 1) aS)) (aE (Zf T.hU T.gF ic (pw 1) aS (Zt (pw 2) (cT WS (Zi (Zn (pw 1))) (Zi (Zn (pw 1)))))))),?_⟩;walk_at "zh";left;refine⟨g.au,g.l,M0.stack,g.aF,2,rfl,.inr rfl,hs,I.bh,?_⟩;have q':aI K m g H Q E (gp M0 (fun a b=>a&&b)):=q;have hV:=I.bh;have hv:=W.au;rcases B8 (s:=M0.stack)with⟨e,e1,e2⟩|⟨b,a,r,es⟩|⟨b,a,r,es⟩
  ·rw[e1];rw[e2 M0 _ rfl]at q';exact q'
  ·rw[es]at hV hv hz;have q2:aI K m g H Q E (M0.with_ (.int (lQ (fun a b=>a&&b) a b)::r)):=by
    have:gp M0 (fun a b=>a&&b)=M0.with_ (.int (lQ (fun a b=>a&&b) a b)::r):=by unfold gp;rw[es]
    rw[<-this];exact q'
   have hz2:r.length+1+1<=256:=hz;have va:dL a:=hv (.int a) (by simp);have vb:dL b:=hv (.int b) (by simp);rw[W9 va vb,du (by rw[aA];omega)]at q2;obtain⟨v1,l1,el,h1,h2⟩:=hV.bW;obtain⟨v2,l2,rfl,h3,h4⟩:=h2.bW;obtain⟨a1,rfl,e1⟩:=h1.int;obtain⟨a2,rfl,e2⟩:=h3.int;walk_at "ad";rw[el]at hs;rw[es];intro H1 k0;have hs1:=k0 _ _ hs;have e11:=k0 _ _ e1;have e21:=k0 _ _ e2;clear q q' hs hm hV hv e1 e2;left;refine⟨by decide,fun x hx=>⟨g.au,_,2,.ref x,rfl,bA hx _ _ hs1,by simp only[aA];omega,by simp only[aA];omega,fun H' bb hp'=>?_⟩⟩;have k2:=k0.trans (bA (o:=HO.aj [.str "number",.int (Og a b)]) hx);exact aI.au I q2 k2 bb hp' fun tk=>.cons (iC (tk _ _ az)) (aM (aM h4 (SW.aL.aj k2)) tk)
  ·rw[es]at hV hv hz;have q2:aI K m g H Q E (M0.with_ (.truth (a&&b)::r)):=by
    have:gp M0 (fun a b=>a&&b)=M0.with_ (.truth (a&&b)::r):=by unfold gp;rw[es]
    rw[<-this];exact q'
   have hz2:r.length+1+1<=256:=hz;rw[du (by rw[aA];omega)]at q2;obtain⟨v1,l1,el,h1,h2⟩:=hV.bW;obtain⟨v2,l2,rfl,h3,h4⟩:=h2.bW;obtain⟨a1,rfl,e1⟩:=h1.truth;obtain⟨a2,rfl,e2⟩:=h3.truth;walk_at "ad";rw[el]at hs;rw[es];intro H1 k0;have hs1:=k0 _ _ hs;have e11:=k0 _ _ e1;have e21:=k0 _ _ e2;clear q q' hs hm hV hv e1 e2;left;refine⟨by decide,fun x hx=>⟨g.au,_,2,.ref x,rfl,bA hx _ _ hs1,by simp only[aA];omega,by simp only[aA];omega,fun H' bb hp'=>?_⟩⟩;have k2:=k0.trans (bA (o:=HO.aj [.str "truth",.bl (a&&b)]) hx);exact aI.au I q2 k2 bb hp' fun tk=>.cons (j8 (tk _ _ az)) (aM (aM h4 (SW.aL.aj k2)) tk)
theorem Xd(T:Txt K)(M:MG K mg):ZF 6 "do_or" ["machine"] (cO K (bD "or")):=by
 refine ZC T.JB AY
 ·nofun;refine⟨_,(Zq (Zs 1 AY (Zd 0)) (Zs 2 AY (Zf T.wz T.tR xr (pw 1) aS)) (aE (Zf T.hU T.gF ic (pw 1) aS (Zt (pw 2) (cT WT (Zi (Zn (pw 1))) (Zi (Zn (pw 1)))))))),?_⟩;walk_at "zh";left;refine⟨g.au,g.l,M0.stack,g.aF,2,rfl,.inr rfl,hs,I.bh,?_⟩;have q':aI K m g H Q E (gp M0 (fun a b=>a || b)):=q;have hV:=I.bh;have hv:=W.au;rcases B8 (s:=M0.stack)with⟨e,e1,e2⟩|⟨b,a,r,es⟩|⟨b,a,r,es⟩
  ·rw[e1];rw[e2 M0 _ rfl]at q';exact q'
  ·rw[es]at hV hv hz;have q2:aI K m g H Q E (M0.with_ (.int (lQ (fun a b=>a || b) a b)::r)):=by
    have:gp M0 (fun a b=>a || b)=M0.with_ (.int (lQ (fun a b=>a || b) a b)::r):=by unfold gp;rw[es]
    rw[<-this];exact q'
   have hz2:r.length+1+1<=256:=hz;have va:dL a:=hv (.int a) (by simp);have vb:dL b:=hv (.int b) (by simp);rw[Xa va vb,du (by rw[aA];lia)]at q2;obtain⟨v1,l1,el,h1,h2⟩:=hV.bW;obtain⟨v2,l2,rfl,h3,h4⟩:=h2.bW;obtain⟨a1,rfl,e1⟩:=h1.int;obtain⟨a2,rfl,e2⟩:=h3.int;walk_at "ad";rw[el]at hs;rw[es];intro H1 k0;have hs1:=k0 _ _ hs;have e11:=k0 _ _ e1;have e21:=k0 _ _ e2;clear q q' hs hm hV hv e1 e2;left;refine⟨by decide,fun x hx=>⟨g.au,_,2,.ref x,rfl,bA hx _ _ hs1,by simp only[aA];lia,by simp only[aA];lia,fun H' bb hp'=>?_⟩⟩;have k2:=k0.trans (bA (o:=HO.aj [.str "number",.int (Oh a b)]) hx);exact aI.au I q2 k2 bb hp' fun tk=>.cons (iC (tk _ _ az)) (aM (aM h4 (SW.aL.aj k2)) tk)
  ·rw[es]at hV hv hz;have q2:aI K m g H Q E (M0.with_ (.truth (a || b)::r)):=by
    have:gp M0 (fun a b=>a || b)=M0.with_ (.truth (a || b)::r):=by unfold gp;rw[es]
    rw[<-this];exact q'
   walk_at "ag";obtain⟨v1,l1,el,h1,h2⟩:=hV.bW;obtain⟨v2,l2,rfl,h3,h4⟩:=h2.bW;obtain⟨a1,rfl,e1⟩:=h1.truth;obtain⟨a2,rfl,e2⟩:=h3.truth;walk_at "ad";rw[el]at hs;rw[es];intro H1 k0;have hs1:=k0 _ _ hs;have e11:=k0 _ _ e1;have e21:=k0 _ _ e2;clear q q' hs hm hV hv e1 e2;left;refine⟨by decide,fun x hx=>⟨g.au,_,2,.ref x,rfl,bA hx _ _ hs1,by simp only[aA];lia,by simp only[aA];lia,fun H' bb hp'=>?_⟩⟩;have k2:=k0.trans (bA (o:=HO.aj [.str "truth",.bl (a || b)]) hx);exact aI.au I q2 k2 bb hp' fun tk=>.cons (j8 (tk _ _ az)) (aM (aM h4 (SW.aL.aj k2)) tk)
theorem Xe(T:Txt K)(M:MG K mg):ZF 6 "do_xor" ["machine"] (cO K (bD "xor")):=by
 refine ZC T.JC AZ
 ·nofun;refine⟨_,(Zq (Zs 1 AZ (Zd 0)) (Zs 2 AZ (Zf T.wz T.tR xr (pw 1) aS)) (aE (Zf T.hU T.gF ic (pw 1) aS (Zt (pw 2) (cT WU (Zi (Zn (pw 1))) (Zi (Zn (pw 1)))))))),?_⟩;walk_at "zh";left;refine⟨g.au,g.l,M0.stack,g.aF,2,rfl,.inr rfl,hs,I.bh,?_⟩;have q':aI K m g H Q E (gp M0 (fun a b=>a != b)):=q;have hV:=I.bh;have hv:=W.au;rcases B8 (s:=M0.stack)with⟨e,e1,e2⟩|⟨b,a,r,es⟩|⟨b,a,r,es⟩
  ·rw[e1];rw[e2 M0 _ rfl]at q';exact q'
  ·rw[es]at hV hv hz;have q2:aI K m g H Q E (M0.with_ (.int (lQ (fun a b=>a != b) a b)::r)):=by
    have:gp M0 (fun a b=>a != b)=M0.with_ (.int (lQ (fun a b=>a != b) a b)::r):=by unfold gp;rw[es]
    rw[<-this];exact q'
   have hz2:r.length+1+1<=256:=hz;have va:dL a:=hv (.int a) (by simp);have vb:dL b:=hv (.int b) (by simp);rw[Xb va vb,du (by rw[aA];lia)]at q2;obtain⟨v1,l1,el,h1,h2⟩:=hV.bW;obtain⟨v2,l2,rfl,h3,h4⟩:=h2.bW;obtain⟨a1,rfl,e1⟩:=h1.int;obtain⟨a2,rfl,e2⟩:=h3.int;walk_at "ad";rw[el]at hs;rw[es];intro H1 k0;have hs1:=k0 _ _ hs;have e11:=k0 _ _ e1;have e21:=k0 _ _ e2;clear q q' hs hm hV hv e1 e2;left;refine⟨by decide,fun x hx=>⟨g.au,_,2,.ref x,rfl,bA hx _ _ hs1,by simp only[aA];lia,by simp only[aA];lia,fun H' bb hp'=>?_⟩⟩;have k2:=k0.trans (bA (o:=HO.aj [.str "number",.int (Oi a b)]) hx);exact aI.au I q2 k2 bb hp' fun tk=>.cons (iC (tk _ _ az)) (aM (aM h4 (SW.aL.aj k2)) tk)
  ·rw[es]at hV hv hz;have q2:aI K m g H Q E (M0.with_ (.truth (a != b)::r)):=by
    have:gp M0 (fun a b=>a != b)=M0.with_ (.truth (a != b)::r):=by unfold gp;rw[es]
    rw[<-this];exact q'
   walk_at "ag";obtain⟨v1,l1,el,h1,h2⟩:=hV.bW;obtain⟨v2,l2,rfl,h3,h4⟩:=h2.bW;obtain⟨a1,rfl,e1⟩:=h1.truth;obtain⟨a2,rfl,e2⟩:=h3.truth;walk_at "ad";rw[el]at hs;rw[es];intro H1 k0;have hs1:=k0 _ _ hs;have e11:=k0 _ _ e1;have e21:=k0 _ _ e2;clear q q' hs hm hV hv e1 e2;left;refine⟨by decide,fun x hx=>⟨g.au,_,2,.ref x,rfl,bA hx _ _ hs1,by simp only[aA];lia,by simp only[aA];lia,fun H' bb hp'=>?_⟩⟩;have k2:=k0.trans (bA (o:=HO.aj [.str "truth",.bl (a != b)]) hx);exact aI.au I q2 k2 bb hp' fun tk=>.cons (j8 (tk _ _ az)) (aM (aM h4 (SW.aL.aj k2)) tk)
local macro_rules| `(tactic|walk_at "rd0")=>`(tactic|simp only[b2,aQ,i5, *])
section
variable{K:ax}{wkv:List (Key×V)}{m:ae}{g:G}{M:aY}{H H':Hp}
theorem MI.L8(I:MI K wkv m g M H)(b:bJ g.dC H H'){o':List Nat}(h1:H' g.dC=some (.ai (o'.map fun k=>V.int (k:Nat)).reverse)):MI K wkv m g {M with opens:=o'} H':=by
 have tk:cq H H':=b.aj I.dC fun _ z=>by cases z
 have o:=I.dt (x:=g.dC) (by simp[bu]);have nd:=I.dk;refine⟨b _ _ (bG nd 0 3 rfl rfl (by decide)) I.cy,b _ _ (bG nd 11 3 rfl rfl (by decide)) I.fY,b _ _ (bG nd 1 3 rfl rfl (by decide)) I.au,aM I.bh tk,b _ _ (bG nd 2 3 rfl rfl (by decide)) I.bB,mF I.eL tk fun c hc u e=>b c u (fun z=>o.1 (z▸hc)) e,
  h1,b _ _ (bG nd 5 3 rfl rfl (by decide)) I.sd,?_,fun c hc=>let⟨u,e⟩:=I.ia c hc;⟨u,b c u (fun z=>o.2.1 (z▸hc)) e⟩,I.dk,I.ib,I.dj,I.mb⟩
 have m1:g.dC∉[g.aZ,g.aG,g.aD,g.bQ,g.bI,g.bz]:=by
  simp only[br,gK,or_false,not_or];exact⟨bG nd 3 4 rfl rfl (by decide),bG nd 3 6 rfl rfl (by decide),bG nd 3 7 rfl rfl (by decide),bG nd 3 8 rfl rfl (by decide),bG nd 3 9 rfl rfl (by decide),bG nd 3 10 rfl rfl (by decide)⟩
 have y:=I.si.dY (m:=m) tk b m1 o.2.1 o.2.2;exact⟨y.aZ,y.aG,y.aD,y.bQ,y.bI,y.bz,y.fu,y.fb,y.jf,y.hZ,y.gx,y.gj,y.fZ,y.eK,y.j6,y.j7,y.iB,y.gX,y.kA,y.kT⟩
end
theorem bF.table{H:Hp}{aF:List Int}{b:Nat}{v:V}(h:bF H aF (.table b) v):∃a,v=.ref a/\H a=some (.aj [.str "table",.int b]):=by
 obtain⟨a,x,h1,h2,h3⟩:=h;rw[bU]at h3;subst h3;exact⟨a,h1,h2⟩
theorem bF.lit{H:Hp}{aF:List Int}{b:bO}{v:V}(h:bF H aF (.lit b) v):∃a,v=.ref a/\H a=some (.aj [.str "name",.str (bH b)]):=by
 obtain⟨a,x,h1,h2,h3⟩:=h;rw[bU]at h3;subst h3;exact⟨a,h1,h2⟩
def L9:Sp:=fun vs H Q _=>∃n,vs=[.int n]/\Q (.bl (decide (-2147483648<=n/\n<2147483648))) H
inductive Ma(vs:List V)(H:Hp)(Q:VK)(E:XK):Prop
 |mk:∀t v aF,(vs=[v])->(bF H aF t v)->(if fS t=true then Er E (-4) H else Q .aO H)->Ma vs H Q E
def Xf:Sp:=fun vs H Q E=>Ma vs H Q E
theorem Xg(T:Txt K)(M:MG K mg):ZF 1 "fits" ["number"] L9:=by
 refine ZB T.Iv S5
 ·obtain⟨n,rfl,_⟩:=h;rfl
 ·obtain⟨n,rfl,q⟩:=h;refine⟨_,(cg (dh (D4 tY iO (fq lS (a8 M T.wL)) (pw 0) (a8 M T.wL)))),?_⟩;by_cases c: -2147483648<=n
  ·left;rw[show decide (-2147483648<=n/\n<2147483648)=decide (n<2147483648)by simp[c]]at q;exact q
  ·rw[decide_eq_false (fun z=>c z.1)]at q;left
theorem Mb(T:Txt K)(M:MG K mg):ZF 4 "refuse_state" ["thing"] Xf:=by
 refine ZB T.Bm T1
 ·obtain⟨t,v,aF,rfl,_⟩:=h;rfl
 ·obtain⟨t,v,aF,rfl,ht,q⟩:=h;refine⟨_,(cg (Zz (Zc dz (Zi (pw 0)) (a8 M T.qX)) (Zr T.mx T.nX ou T.mn T.nW))),?_⟩;obtain⟨a,x,rfl,e⟩:=ht.aj;clear ht;by_cases c:ba t="state"
  ·obtain⟨n,rfl⟩:=w9 c;have q2:Er E (-4) H:=q;clear q;left;exact q2
  ·have n:¬fS t=true:=fun z=>c (by cases t<;>first|rfl|cases z);rw[if_neg n]at q;left
theorem Xh(T:Txt K)(M:MG K mg):ZF 4 "do_end" ["machine"] (cO K (bD "end")):=by
 refine ZC T.JY T3
 ·nofun;refine⟨_,(Zq (Zz (Zc dz (Zl dD (Zd 0)) aS) (Zr T.tU T.wF wW T.tP T.wD)) (aE (iA gk ju jw jb (Zd 0)))),?_⟩;walk_at "zh";have ho:=I.dC;have ao:=T.nZ;have ty:=dc (K:=K) ho;have q':aI K m g H Q E (match M0.opens with|_::k::l=>.ok {M0 with opens:=k::l}|_=>.error cE):=q;have hw:=W.aR.opens;match e:M0.opens with
  |[]=>exact absurd e hw.1
  |[x]=>
   rw[e]at q' ho;have q2:Er E (-3) H:=q';clear q q' hw;left;rw[if_pos (by simp)];right;exact q2
  |x::k::l=>
   rw[e]at q' ho;have q2:aI K m g H Q E (.ok {M0 with opens:=k::l}):=q';clear q q' hw;left;rw[if_neg (by simp only[bN,aA,bK];lia)];right;have J:=I.L8 (o':=k::l) bM az;exact q2 _ g J (Fr.dY bM (by simp[aK,bu]) (I.mo J))
theorem Xi(T:Txt K)(M:MG K mg):ZF 6 "do_begin" ["machine"] (cO K (bD "begin")):=by
 refine ZC T.JX HX
 ·nofun;refine⟨_,(Zq (Zs 1 HX (Zd 0)) (aE (Zf T.hG T.gE ip (pw 1) (Zt (a8 M T.pK)))) (Zz (Zc jF (Zl dD (Zd 0)) (a8 M T.UY)) (Zr T.kM T.lw lF T.kK T.lv)) (aE (Za iP (Zd 0) (Zi (iA gk ju jw jb (pw 1)))))),?_⟩;walk_at "as";have k0:=bA (o:=HO.aj [V.str "table"]) hk;refine⟨g.au,g.l,M0.stack,g.aF,kt,["table"],rfl,k0 _ _ hs,aM I.bh (SW.aL.aj k0),az,?_⟩;cases e:eC ["table"] M0.stack with
  |some z=>
   have:bD "begin" M0=.error z:=by
    show((match M0.stack with| .table k::r=>if yC<=M0.opens.length then .error yD else .ok {M0 with stack:=r,opens:=k::M0.opens}|_::_=>.error dq|_=>.error cE):cD)=_;rcases iq e with⟨h1,rfl⟩|⟨h1,h2,rfl⟩
    ·match es:M0.stack,h1 with
     |[],_=>rfl
     |_::r,h1=>exact absurd h1 (by simp)
    ·match es:M0.stack,h1,h2 with
     |t::r,_,h2=>cases t<;>first|rfl|(simp[fv,ba]at h2)
     |[],h1,_=>exact absurd (by simp) h1
   walk_at "am"
  |none=>
   obtain⟨t,r,es,kd0⟩:=mM e;obtain⟨p0,rfl⟩:=tZ (kd0.kind (by decide));have q0:aI K m g H Q E (match M0.stack with| .table k::r=>if yC<=M0.opens.length then .error yD else .ok {M0 with stack:=r,opens:=k::M0.opens}|_::_=>.error dq|_=>.error cE):=q;walk_at "aa";obtain⟨a,rfl,ea⟩:=j0.table;have q1:aI K m g H Q E (if yC<=M0.opens.length then .error yD else .ok {M0 with stack:=r,opens:=p0::M0.opens}):=q0;have ea1:=k0 _ _ ea;have ho:=k0 _ _ I.dC;have ao:=T.nZ;rw[el]at hs1;generalize aq H kt (.aj [.str "table"])=H1 at *;clear q q0 hs hm ea;have ty:=dc (K:=K) hs1;have ty2:=dc (K:=K) ho;left;rw[bN,bK];by_cases c:16<=M0.opens.length
   ·rw[if_pos (show yC<=M0.opens.length from c)]at q1;rw[if_pos (by omega)];right;exact Er.up q1 k0
   ·rw[if_neg (show ¬yC<=M0.opens.length from c)]at q1;rw[if_neg (by omega)];right;rw[aJ (lY ea1 hs1 (by intro z;cases z)),ea1];conv=>whnf
    rw[aJ (bG I.dk 3 1 rfl rfl (by decide)),ho];refine⟨by rw[bN,bK,bR];omega,?_⟩;have b1:bJ g.au H1 (aq H1 g.au (.ai l0.reverse)):=bM;have tk1:cq H1 (aq H1 g.au (.ai l0.reverse)):=b1.aj hs1 fun _ z=>by cases z
    have J1:MI K (bc K) m {g with l:=l0} {M0 with stack:=r} (aq H1 g.au (.ai l0.reverse)):=I1.pL b1 az (aM (aM hV0 (SW.aL.aj k0)) tk1);have J2:=J1.L8 (H':=aq (aq H1 g.au (.ai l0.reverse)) g.dC (.ai ((M0.opens.map fun k=>V.int (k:Nat)).reverse++[.int p0]))) (o':=p0::M0.opens) bM (by rw[d6,kn];exact az);exact q1 _ _ J2 ((Fr.same k0).trans ((Fr.dY b1 (by simp[aK,bu]) (by have e:=I1.mo J1;exact e)).trans (Fr.dY bM (by simp[aK,bu]) (by have e:=J1.mo J2;exact e))))
theorem DK(g:G)(h:b9):(ee g h).lookup ("arrays":af)=some (.ref g.aG):=rfl
theorem DL(g:G)(h:b9):(ee g h).lookup ("tables":af)=some (.ref g.aD):=rfl
theorem u6(g:G)(h:b9):(ee g h).lookup ("states":af)=some (.ref g.bQ):=rfl
theorem DM(g:G)(h:b9):(ee g h).lookup ("states_made":af)=some (.int g.made):=rfl
theorem DN(g:G)(h:b9):(ee g h).lookup ("held":af)=some (.int (dI h)):=rfl
theorem DO(g:G)(h:b9):(ee g h).lookup ("own_arrays":af)=some (.ref g.bI):=rfl
theorem DP(g:G)(h:b9):(ee g h).lookup ("own_tables":af)=some (.ref g.bz):=rfl
theorem Xj{K:ax}{a:ae}{xs:List V}{g:TG}{tb:TS}{D:i9}{σ:L2.St}{H:Hp}(Pv:Nat->L2.St->Hp->Prop)(h0:Pv 0 σ H)(hl:∀i σ H,i<=xs.length->Pv i σ H->bV K H a xs)
(hs:∀i x σ H,i<xs.length->xs[xs.length-1-i]? =some x->Pv i σ H->g x σ H fun σ2 H2=>tb {D with nx:=Pv (i+1),ct:=Pv (i+1),bk:=D.nx} σ2 H2)(hd:∀σ H,Pv xs.length σ H->D.nx σ H):
  ∃W:Nat->Nat->L2.St->Hp->Prop,(∃m,W 0 m σ H)/\∀i m σ H,W i m σ H->
   ((tE K a xs.length).jP i H/\D.nx σ H)\/((tE K a xs.length).go i H/\∃N:L2.St->Hp->Prop,(∀σ' H',N σ' H'->∃m',m'<m/\W (i+1) m' σ' H')/\∀x H',(tE K a xs.length).nj i H x H'->g x σ H' fun σ2 H2=>tb {D with nx:=N,ct:=N,bk:=D.nx} σ2 H2):=by
 refine⟨fun i m σ H=>m=xs.length-i/\i<=xs.length/\Pv i σ H,⟨xs.length,by simp,cI _,h0⟩,?_⟩;rintro i m σ H ⟨rfl,hi,p⟩;have q:=hl i σ H hi p;by_cases hlt:i<xs.length
 ·obtain⟨x,ex⟩:∃x,xs[xs.length-1-i]? =some x:=⟨_,f7 (by omega)⟩
  refine .inr ⟨⟨hlt,xs,x,q,ex⟩,Pv (i+1),fun σ' H' p'=>⟨xs.length-(i+1),by omega,rfl,hlt,p'⟩,fun x H' y=>?_⟩;obtain⟨e,y⟩:=y;subst e;exact hs i x σ _ hlt (y xs q) p
 ·have e:i=xs.length:=by omega
  subst e;exact .inl ⟨bY _,hd σ H p⟩
theorem Mc{H:Hp}{n:bO}:∀{t:List (bO×aB)}{kvs:List (Key×V)},aX (oj H) t kvs->(t.lookup n=none/\cK kvs (cX (bH n))=none)\/∃v x,t.lookup n=some v/\cK kvs (cX (bH n))=some x/\bF H [] v x:=by
 intro t kvs h;induction h with
 |nil=>exact .inl ⟨rfl,rfl⟩
 |@cons e kv _ _ h t ih=>
  obtain⟨h1,h2⟩:=h;by_cases c:e.1=n
  ·refine .inr ⟨e.2,kv.2,?_,?_,h2⟩
   ·rw[ke,show(n==e.1)=true by simp[c]]
   ·unfold cK;rw[oJ,show decide (kv.1=cX (bH n))=true by rw[h1,c];simp];rfl
  ·have r:(n==e.1)=false:=beq_eq_false_iff_ne.mpr fun z=>c z.symm;have r2:decide (kv.1=cX (bH n))=false:=decide_eq_false fun z=>c (t8 (xS (h1.symm.trans z)));rcases ih with⟨i1,i2⟩|⟨v,x,i1,i2,i3⟩
   ·refine .inl ⟨by rw[ke,r];exact i1,?_⟩;unfold cK at i2 ⊢;rw[oJ,r2];exact i2
   ·refine .inr ⟨v,x,by rw[ke,r];exact i1,?_,i3⟩;unfold cK at i2 ⊢;rw[oJ,r2];exact i2
theorem Md{α β:Type}{f:α->Option β}:∀{l:List α}{i:Nat}{k:α},l[i]? =some k->(l.take i).findSome? f=none->f k=none->(l.take (i+1)).findSome? f=none
 |[],_,_,h,_,_=>by simp at h
 |a::l,0,k,h,_,h3=>by cases h;simp[h3]
 |a::l,i+1,k,h,h2,h3=>by
  rw[yw,Dj]at h2 ⊢;cases e:f a with
  |some v=>rw[e]at h2;cases h2
  |none=>rw[e]at h2;exact Md (l:=l) h h2 h3
theorem Me{α β:Type}{f:α->Option β}{v:β}:∀{l:List α}{i:Nat}{k:α},l[i]? =some k->(l.take i).findSome? f=none->f k=some v->l.findSome? f=some v
 |[],_,_,h,_,_=>by simp at h
 |a::l,0,k,h,_,h3=>by cases h;rw[Dj,h3]
 |a::l,i+1,k,h,h2,h3=>by
  rw[yw,Dj]at h2;rw[Dj];cases e:f a with
  |some v=>rw[e]at h2;cases h2
  |none=>rw[e]at h2;exact Me (l:=l) h h2 h3
def B9(H:Hp)(Q:VK):Option aB->Prop
 |some v=>∀x,bF H [] v x->Q x H
 |none=>Q .aO H
inductive Mf(K:ax)(vs:List V)(H:Hp)(Q:VK)(E:XK):Prop
 |mk:∀m g M n,(vs=[.ref m,.str (bH n)])->(MI K (bc K) m g M H)->(Wf M)->(B9 H Q (M.look n))->Mf K vs H Q E
def Xk(K:ax):Sp:=fun vs H Q E=>Mf K vs H Q E
local macro_rules| `(tactic|walk_at "rd0")=>`(tactic|simp only[b2,aQ,i5,DK,DL,u6,DM,DN,DO,DP, *])
theorem Mg(T:Txt K)(M:MG K mg):ZM 1 "Machine" "look_up" ["self","name"] (Xk K):=by
 refine ZB T.Bg.df wg
 ·obtain⟨m,g,M0,n,rfl,_⟩:=h;rfl
 ·obtain⟨m,g,M0,n,rfl,I,W,q⟩:=h;have hu:=qK hr;refine⟨_,(Zq (Zs 2 wg (Ze (Zd 0))) (sM jB rfl (RF rfl (M.aO _ T.U4) (Zy (Zd 0))) (jO (i:=3) wg.nd rfl (eN rfl)) (Zq (Zs 4 wg (Rz hu (Zx fK (pw 2) (pw 3)) (pw 1) ⟨rfl,rfl,rfl,rfl⟩)) (Zz (Zc Qu (pw 4) vf) (dh (pw 4))))) (dh vf)),?_⟩;walk_at "at";have a1:=T.je;have a2:=T.nZ;have cs:=T.fF;have a3:=T.gi;have h1:=I.si.aZ;have h2:=I.si.aD;have ho:=I.dC;left;conv=>whnf
  rw[hm];refine⟨hc,a2,?_⟩;rw[ze g M0];refine⟨g.dC,_,rfl,bV.of ho,Xj (K:=K) (a:=g.dC) (xs:=(M0.opens.map fun k=>V.int (k:Nat)).reverse) (fun i σ' H'=>∃x3 x4,σ'=[some (.ref m),some (.str (bH n)),some (.ref g.aD),x3,x4]/\H'=H/\(M0.opens.take i).findSome? (fun k=>(M0.heap.tables.getD k []).lookup n)=none) ?_ ?_ ?_ ?_⟩
  ·exact⟨none,none,rfl,rfl,rfl⟩
  ·rintro i σ' H' _ ⟨_,_,_,rfl,_⟩;exact bV.of ho
  ·rintro i x σ' H' hi hx ⟨x3,x4,rfl,rfl,hn⟩;rw[bN,bK]at hi hx;rw[rV (by rw[bK];omega),bK,show M0.opens.length-1-(M0.opens.length-1-i)=i by omega,dX]at hx;obtain⟨k,ek,rfl⟩:=jt.mp hx;have kl:k<M0.heap.tables.length:=W.aR.opens.2.2 k (dR ek);obtain⟨tb,et⟩:∃tb,M0.heap.tables[k]? =some tb:=⟨_,f7 kl⟩
   obtain⟨d,ed,kvs,hd,hk⟩:=I.si.fb.get _ _ et;have hat:cR (g.bg.map V.ref) (k:Int)=some (V.ref d):=fW (by rw[dX,ed];rfl);have fk:(M0.heap.tables.getD k []).lookup n=tb.lookup n:=by rw[gJ,et];rfl
   have isd:Au H' d:=.inl ⟨_,Rd.of hd⟩;rcases Mc (n:=n) hk with⟨i1,i2⟩|⟨v,x,i1,i2,i3⟩
   ·have nx:=Md (f:=fun k=>(M0.heap.tables.getD k []).lookup n) ek hn (fk.trans i1);have dg:eE H' d (.str (bH n)) none:=by have:=eE.k (k:=cX (bH n)) hd;rw[i2]at this;exact this
    clear q hn hx ho hi;left;exact⟨none,dg,by right;simp⟩
   ·have lk:M0.look n=some v:=Me (f:=fun k=>(M0.heap.tables.getD k []).lookup n) ek hn (fk.trans i1);have dg:eE H' d (.str (bH n)) (some x):=by have:=eE.k (k:=cX (bH n)) hd;rw[i2]at this;exact this
    rw[lk]at q;have q2:=q x i3;obtain⟨a,y,rfl,_⟩:=i3.aj;clear q hn hx ho hi;left;exact⟨some _,dg,by right;rw[if_pos (by simp)];right;exact q2⟩
  ·rintro σ' H' ⟨x3,x4,rfl,rfl,hn⟩;rw[bN,bK,oO]at hn;have lk:M0.look n=none:=hn;rw[lk]at q;exact q
end SW
set_option tactic.hygienic true
namespace SW
theorem mR{α:Type}(f:α->Bool):∀l:List α,l.drop (l.takeWhile f).length=l.dropWhile f
 |[]=>rfl
 |a::l=>by
  cases h:f a with
  |true=>rw[k6 h,uQ h];exact mR f l
  |false=>rw[qa (by simp[h]),OZ (by simp[h])];rfl
theorem rm{α:Type}(f:α->Bool)(l:List α):(l.dropWhile f).length<=l.length:=by
 rw[<-mR,fh];omega
theorem Mh:∀(k j:Nat)(s:bO),s.length<k->s.length<j->iH k s=iH j s
 |0,_,_,h,_=>by lia
 |_,0,_,_,h=>by lia
 |k+1,j+1,[],_,_=>rfl
 |k+1,j+1,c::r,h1,h2=>by
  have ih:∀s:bO,s.length<=r.length->iH k s=iH j s:=fun s hs=>Mh k j s (by rw[aA]at h1;lia) (by rw[aA]at h2;lia);simp only[iH];rw[ih r (bY _),ih (r.dropWhile fun c=>c != 10) (rm _ _),ih (r.drop (r.takeWhile cF).length) (by rw[fh];lia)];by_cases p:cF c=true
  ·rw[ih ((c::r).drop ((c::r).takeWhile cF).length) (by rw[k6 p,aA,fh,aA];lia)]
  ·rw[if_neg p,if_neg p]
def dZ(s:bO):Option (List eT):=iH (s.length+1) s
theorem xx{k:Nat}{s:bO}(h:s.length<k):iH k s=dZ s:=Mh _ _ _ h (uu _)
theorem Xl:dZ []=some []:=rfl
section
variable{c:UInt8}{r:bO}
theorem mS:dZ (c::r)=if r9 c=true then dZ r
  else if c=37 then dZ (r.dropWhile fun c=>c != 10)
  else if c=123 then(dZ r).map fun l=>.opens::l
  else if c=125 then(dZ r).map fun l=>.closes::l
  else if c=91\/c=93 then(dZ r).map fun l=>.thing (.word [c])::l
  else if c=47 then
   (if r.takeWhile cF=[]\/Sz07.NAME<(r.takeWhile cF).length then none else(dZ (r.dropWhile cF)).map fun l=>.thing (.lit (r.takeWhile cF))::l)
  else if cF c=true then
   (oP ((c::r).takeWhile cF)).bind fun v=>(dZ ((c::r).dropWhile cF)).map fun l=>.thing v::l
  else none:=by
 have e:dZ (c::r)=iH (r.length+1+1) (c::r):=rfl;rw[e];simp only[iH];rw[xx (uu _),xx (s:=r.dropWhile fun c=>c != 10) (by have:=rm (fun c:UInt8=>c != 10) r;lia),mR,mR,xx (s:=r.dropWhile cF) (by have:=rm cF r;lia)];by_cases p:cF c=true
 ·rw[xx (s:=(c::r).dropWhile cF) (by rw[uQ p];have:=rm cF r;lia)]
 ·rw[if_neg p,if_neg p]
end
def eA(s:bO)(p:Nat)(acc:List eT):Prop:=dZ s=(dZ (s.drop p)).map fun l=>acc++l
section
variable{s:bO}{p:Nat}{acc:List eT}{c:UInt8}
theorem Xm:eA s 0 []:=by unfold eA;cases h:dZ s<;>simp[h]
theorem Xn(g:eA s p acc)(h:s.length<=p):dZ s=some acc:=by
 unfold eA at g;rw[g,abI h,Xl];simp
theorem mT(h:s[p]? =some c):s.drop p=c::s.drop (p+1):=by
 obtain⟨hl,e⟩:=cP.mp h;rw[uN hl,e]
theorem Xo(g:eA s p acc)(h:s[p]? =some c)(hb:r9 c=true):eA s (p+1) acc:=by
 unfold eA at g ⊢;rw[g,mT h,mS,if_pos hb]
theorem Xp(g:eA s p acc)(h:s[p]? =some c)(hc:c=37):eA s (p+((s.drop p).takeWhile fun c=>c != 10).length) acc:=by
 unfold eA at g ⊢;subst hc;rw[g,<-rW,mR,mT h,mS,if_neg (by decide),if_pos rfl,uQ (by decide)]
theorem Ca(g:eA s p acc)(h:s[p]? =some c){t:eT}(e:dZ (c::s.drop (p+1))=(dZ (s.drop (p+1))).map fun l=>t::l):eA s (p+1) (acc++[t]):=by
 unfold eA at g ⊢;rw[g,mT h,e];cases dZ (s.drop (p+1))<;>simp
theorem Xq(g:eA s p acc)(h:s[p]? =some c):(c=123->eA s (p+1) (acc++[.opens]))/\(c=125->eA s (p+1) (acc++[.closes]))/\(c=91\/c=93->eA s (p+1) (acc++[.thing (.word [c])])):=by
 refine⟨fun z=>?_,fun z=>?_,fun z=>?_⟩
 ·subst z;exact Ca g h (by rw[mS,if_neg (by decide),if_neg (by decide),if_pos rfl])
 ·subst z;exact Ca g h (by rw[mS,if_neg (by decide),if_neg (by decide),if_neg (by decide),if_pos rfl])
 ·refine Ca g h ?_;rw[mS];rcases z with rfl|rfl
  ·rw[if_neg (by decide),if_neg (by decide),if_neg (by decide),if_neg (by decide),if_pos (.inl rfl)]
  ·rw[if_neg (by decide),if_neg (by decide),if_neg (by decide),if_neg (by decide),if_pos (.inr rfl)]
theorem Cb(g:eA s p acc)(h:dZ (s.drop p)=none):dZ s=none:=by unfold eA at g;rw[g,h];rfl
theorem Xr(g:eA s p acc)(h:s[p]? =some 47)(hn:¬((s.drop (p+1)).takeWhile cF=[]\/31<((s.drop (p+1)).takeWhile cF).length)):
  eA s (p+1+((s.drop (p+1)).takeWhile cF).length) (acc++[.thing (.lit ((s.drop (p+1)).takeWhile cF))]):=by
 unfold eA at g ⊢;have ed:s.drop (p+1+((s.drop (p+1)).takeWhile cF).length)=(s.drop (p+1)).dropWhile cF:=by
  have:=rW (i:=((s.drop (p+1)).takeWhile cF).length) (j:=p+1) (l:=s);rw[<-this,mR]
 rw[g,ed,mT h,mS,if_neg (by decide),if_neg (by decide),if_neg (by decide),if_neg (by decide),if_neg (by decide),if_pos rfl,if_neg (by exact hn)];cases dZ ((s.drop (p+1)).dropWhile cF)<;>simp
theorem Xs(g:eA s p acc)(h:s[p]? =some 47)(hn:(s.drop (p+1)).takeWhile cF=[]\/31<((s.drop (p+1)).takeWhile cF).length):dZ s=none:=by
 refine Cb g ?_;rw[mT h,mS,if_neg (by decide),if_neg (by decide),if_neg (by decide),if_neg (by decide),if_neg (by decide),if_pos rfl,if_pos (by exact hn)]
theorem Xt(h:cF c=true):r9 c=false/\c≠37/\c≠123/\c≠125/\¬(c=91\/c=93)/\c≠47:=by
 have h1:33<=c.toNat:=by
  unfold cF at h;simp only[lM,decide_eq_true_eq]at h;exact h.1.1
 refine⟨?_,?_,?_,?_,?_,?_⟩
 ·unfold r9;have:c≠32/\c≠9/\c≠10/\c≠13:=by
   refine⟨?_,?_,?_,?_⟩<;>(rintro rfl;exact absurd h1 (by decide))
  simp[this.1,this.2.1,this.2.2.1,this.2.2.2]
 all_goals first
  |(rintro rfl;exact absurd h (by decide))
  |(rintro(rfl|rfl)<;>exact absurd h (by decide))
theorem Xu(g:eA s p acc)(h:s[p]? =some c)(hp:cF c=true):(∀v,oP ((s.drop p).takeWhile cF)=some v->eA s (p+((s.drop p).takeWhile cF).length) (acc++[.thing v]))/\(oP ((s.drop p).takeWhile cF)=none->dZ s=none):=by
 obtain⟨n1,n2,n3,n4,n5,n6⟩:=Xt hp;have e:dZ (s.drop p)=(oP ((s.drop p).takeWhile cF)).bind fun v=>(dZ ((s.drop p).dropWhile cF)).map fun l=>.thing v::l:=by
  rw[mT h,mS,if_neg (by simp[n1]),if_neg n2,if_neg n3,if_neg n4,if_neg n5,if_neg n6,if_pos hp]
 constructor
 ·intro v hv;unfold eA at g ⊢;rw[g,e,hv,<-rW,mR];cases dZ ((s.drop p).dropWhile cF)<;>simp
 ·intro hv;exact Cb g (by rw[e,hv];rfl)
theorem Xv(g:eA s p acc)(h:s[p]? =some c)(h1:r9 c=false)(h2:c≠37)(h3:c≠123)(h4:c≠125)(h5:¬(c=91\/c=93))(h6:c≠47)(h7:cF c=false):dZ s=none:=by
 refine Cb g ?_;rw[mT h,mS,if_neg (by simp[h1]),if_neg h2,if_neg h3,if_neg h4,if_neg h5,if_neg h6,if_neg (by simp[h7])]
end
def jh(s:bO):Nat:=s.foldl (fun n c=>10*n+(c.toNat-48)) 0
theorem Mi(a:Nat):∀s:bO,a*10^s.length<=s.foldl (fun n c=>10*n+(c.toNat-48)) a
 |[]=>by simp
 |c::s=>by
  rw[rP,aA];refine dM ?_ (Mi (10*a+(c.toNat-48)) s);rw[Nat.pow_succ,<-Nat.mul_assoc,Nat.mul_right_comm];rw[CM (a*10) (10^s.length)];rw[CM (10*a+_) _];exact Nat.mul_le_mul_left _ (by lia)
theorem Cc:∀s:bO,jh (s.dropWhile fun c=>c==48)=jh s
 |[]=>rfl
 |c::s=>by
  by_cases h:c=48
  ·subst h;rw[uQ (by rfl),Cc s];rfl
  ·rw[OZ (by simpa using h)]
theorem Xw{s:bO}(hd:s.all iI=true)(h:10<(s.dropWhile fun c=>c==48).length):10000000000<=jh s:=by
 rw[<-Cc];have hd':∀c∈s.dropWhile (fun c=>c==48),iI c=true:=fun c hc=>lO.mp hd c ((yo _).subset hc);match e:s.dropWhile (fun c=>c==48),h with
 |c::r,h=>
  have c1:(c==48)=false:=by
   have:=List.head?_dropWhile_not (fun c:UInt8=>c==48) s;rw[e]at this;simpa using this
  have c2:=hd' c (by rw[e];exact cw);unfold iI at c2;simp only[lM,decide_eq_true_eq]at c2;have c3:c.toNat≠48:=fun z=>by
   have:c=48:=Df.mp z;rw[this]at c1;cases c1
  have:=Mi (10*0+(c.toNat-48)) r;rw[aA]at h;have p:10^10<=10^r.length:=abH (by decide) (by lia);show 10000000000<=yf _ (10*0+(c.toNat-48)) r;refine dM ?_ this
  calc 10000000000=1*10^10:=by decide
   _<=(10*0+(c.toNat-48))*10^r.length:=Nat.mul_le_mul (by lia) p
def rn(d:bO)(below:Bool):Option Int:=
 if 10<(d.dropWhile fun c=>c==48).length then none else
  let n:Int:=if below then -(jh (d.dropWhile fun c=>c==48):Int)else(jh (d.dropWhile fun c=>c==48):Int)
  if -2147483648<=n/\n<2147483648 then some n else none
theorem Xx(s:bO)(hs:s≠[]):oP s=
  let below:=s.head?==some 45;let d:=if below then s.drop 1 else s
  if d≠[]/\d.all iI=true then(rn d below).map .int else if s.length<=31 then some (.word s)else none:=by
 have key:∀(d:bO)(below:Bool),d≠[]/\d.all iI=true->(match(some (if below then -(jh d:Int)else(jh d:Int)):Option Int)with
   |some n=>if -(2^31)<=n/\n<2^31 then some (uR n)else none
   |none=>if s.length<=Sz07.NAME then some (.word s)else none)=(rn d below).map .int:=by
  intro d below hd;unfold rn;by_cases c:10<(d.dropWhile fun c=>c==48).length
  ·rw[if_pos c];have:=Xw hd.2 c;cases below
   ·simp only[xP,if_false];rw[if_neg (by omega)];rfl
   ·simp only[if_true];rw[if_neg (by omega)];rfl
  ·rw[if_neg c];simp only[Cc];have e31:(2:Int)^31=2147483648:=by decide
   rw[e31];split<;>simp_all
 cases s with
 |nil=>exact absurd rfl hs
 |cons c r=>
  by_cases h:c=45
  ·subst h;have hb:((45::r:bO).head?==some 45)=true:=rfl;simp only[hb,if_true,yE,k8];by_cases hd:r≠[]/\r.all iI=true
   ·rw[if_pos hd,<-key r true hd];show(match m4 (45::r)with|some n=>_|none=>_)=_;have:m4 (45::r)=some (-(jh r:Int)):=by
     show(se r).map _=_;unfold se;rw[if_pos hd];rfl
    rw[this];rfl
   ·rw[if_neg hd];show(match m4 (45::r)with|some n=>_|none=>_)=_;have:m4 (45::r)=none:=by
     show(se r).map _=_;unfold se;rw[if_neg hd];rfl
    rw[this];rfl
  ·have hb:((c::r:bO).head?==some 45)=false:=by simpa using h
   have hn:m4 (c::r)=se (c::r):=by
    unfold m4;split
    ·rename_i e;cases e;exact absurd rfl h
    ·rfl
   simp only[hb,xP,if_false];by_cases hd:(c::r:bO)≠[]/\(c::r:bO).all iI=true
   ·rw[if_pos hd,<-key (c::r) false hd];show(match m4 (c::r)with|some n=>_|none=>_)=_;have:m4 (c::r)=some (jh (c::r):Int):=by
     rw[hn];unfold se;rw[if_pos hd];rfl
    rw[this];rfl
   ·rw[if_neg hd];show(match m4 (c::r)with|some n=>_|none=>_)=_;have:m4 (c::r)=none:=by
     rw[hn];unfold se;rw[if_neg hd]
    rw[this];rfl
theorem Mj{o:List (List aB)}{l:List aB}{v:aB}{r:List eT}:iY (l::o) (.thing v::r)=iY ((l++[v])::o) r:=by cases o<;>rfl
theorem Cd{o:List (List aB)}{r:List eT}:iY o (.opens::r)=if 16<o.length then none else iY ([]::o) r:=by
 cases o with
 |nil=>rfl
 |cons a o=>cases o<;>rfl
theorem Ml{o:List (List aB)}{l m:List aB}{r:List eT}:iY (l::m::o) (.closes::r)=iY ((m++[.proc l])::o) r:=rfl
theorem Mm{l:List aB}{r:List eT}:iY [l] (.closes::r)=none:=rfl
theorem Mn{l:List aB}:iY [l] []=some l:=rfl
theorem Mo{l m:List aB}{o:List (List aB)}:iY (l::m::o) []=none:=rfl
theorem xy{P:aB->Prop}(hp:∀b,(∀v∈b,P v)->P (.proc b)):∀(t:List eT)(o:List (List aB))(l:List aB),(∀v,Dk v∈t->P v)->(∀x∈o,∀v∈x,P v)->iY o t=some l->∀v∈l,P v
 |[],o,l,_,ho,h=>by
  match o,h with
  |[],h=>cases(show(none:Option (List aB))=some _ from h)
  |[x],h=>rw[Mn]at h;cases h;exact ho _ (by simp)
  |x::y::o,h=>rw[Mo]at h;cases h
 | .thing v::r,o,l,ht,ho,h=>by
  match o,h with
  |[],h=>cases(show(none:Option (List aB))=some _ from h)
  |x::o,h=>
   rw[Mj]at h;refine xy hp r _ l (fun v hv=>ht v (bP _ hv)) (fun y hy=>?_) h;rcases br.mp hy with rfl|hy
   ·intro z hz;rcases cS.mp hz with hz|hz
    ·exact ho x cw z hz
    ·rw[eR.mp hz];exact ht v cw
   ·exact ho y (bP _ hy)
 | .opens::r,o,l,ht,ho,h=>by
  rw[Cd]at h;split at h
  ·cases h
  ·refine xy hp r _ l (fun v hv=>ht v (bP _ hv)) (fun y hy=>?_) h;rcases br.mp hy with rfl|hy
   ·intro z hz;cases hz
   ·exact ho y hy
 | .closes::r,o,l,ht,ho,h=>by
  match o,h with
  |[],h=>cases(show(none:Option (List aB))=some _ from h)
  |[x],h=>rw[Mm]at h;cases h
  |x::y::o,h=>
   rw[Ml]at h;refine xy hp r _ l (fun v hv=>ht v (bP _ hv)) (fun y' hy=>?_) h;rcases br.mp hy with rfl|hy
   ·intro z hz;rcases cS.mp hz with hz|hz
    ·exact ho y (by simp) z hz
    ·rw[eR.mp hz];exact hp x fun v hv=>ho x cw v hv
   ·exact ho y' (by simp[hy])
def t9:aB->Prop
 | .int n=> -2147483648<=n/\n<2147483648
 | .lit n=>n.length<=31/\∀c∈n,cF c=true
 | .word n=>n.length<=31
 |_=>False
theorem rp{α:Type}{f:α->Bool}{c:α}:∀{l:List α},c∈l.takeWhile f->f c=true
 |[],h=>by simp at h
 |a::l,h=>by
  cases e:f a with
  |true=>
   rw[k6 e]at h;rcases br.mp h with rfl|h
   ·exact e
   ·exact rp h
  |false=>rw[qa (by simp[e])]at h;cases h
theorem Xy{s:bO}{v:aB}(h:oP s=some v):t9 v:=by
 unfold oP at h;split at h
 ·split at h
  ·rename_i q;cases h;exact⟨by have:=q.1;lia,by have:=q.2;lia⟩
  ·cases h
 ·split at h
  ·rename_i q;cases h;exact q
  ·cases h
inductive xA(k:Nat)(r:bO)(t:List eT):Prop
 |su (s:bO) (hs:s.length<=r.length) (h:iH k s=some t):xA k r t
 |nG (x:eT) (s:bO) (l:List eT) (hs:s.length<=r.length) (hx:∀v,x=.thing v->t9 v) (h:iH k s=some l) (e:x::l=t):xA k r t
theorem ua{k:Nat}{r s:bO}{t:List eT}{x:eT}(hs:s.length<=r.length)(hx:∀v,x=.thing v->t9 v)(e:(iH k s).map (fun l=>x::l)=some t):xA k r t:=by
 obtain⟨l,e1,e2⟩:=jt.mp e;exact .nG x s l hs hx e1 e2
theorem Mp{k:Nat}{c:UInt8}{r:bO}{t:List eT}(h:iH (k+1) (c::r)=some t):xA k r t:=by
 simp only[iH]at h;split at h
 ·exact .su _ (bY _) h
 ·split at h
  ·exact .su _ (rm _ r) h
  ·split at h
   ·exact ua (bY _) (fun v z=>by cases z) h
   ·split at h
    ·exact ua (bY _) (fun v z=>by cases z) h
    ·split at h
     ·exact ua (bY _) (fun v z=>by cases z;exact(by show([c]:bO).length<=31;simp)) h
     ·split at h
      ·split at h
       ·cases h
       ·rename_i q;refine ua (by rw[fh];exact Nat.sub_le _ _) (fun v z=>?_) h;cases z;refine⟨?_,fun c hc=>rp hc⟩;have q2:¬31<_:=fun w=>q (.inr w)
        lia
      ·split at h
       ·rename_i q;obtain⟨v0,e1,e2⟩:=CV.mp h;refine ua ?_ (fun v z=>by cases z;exact Xy e1) e2;rw[k6 q,aA,yE,fh];exact Nat.sub_le _ _
       ·cases h
theorem Mq{k:Nat}{t:List eT}(h:iH (k+1) []=some t):t=[]:=(fz h).symm
theorem Xz(k:Nat):∀(s:bO)(t:List eT),iH k s=some t->∀v,Dk v∈t->t9 v:=by
 induction k with
 |zero=>intro s t h;cases(show(none:Option (List eT))=some t from h)
 |succ k ih=>
  intro s t h v hv;cases s with
  |nil=>rw[Mq h]at hv;cases hv
  |cons c r=>
   cases Mp h with
   |su s hs h=>exact ih s t h v hv
   |nG x s l hs hx h1 e=>
    subst e;rcases br.mp hv with z|z
    ·exact hx v z.symm
    ·exact ih s l h1 v z
theorem Ce{α:Type}{f:α->Bool}:∀{l:List α}{i:Nat},i<(l.takeWhile f).length->∃c,l[i]? =some c/\f c=true
 |[],i,h=>by simp at h
 |a::l,i,h=>by
  cases e:f a with
  |false=>rw[qa (by simp[e])]at h;simp at h
  |true=>
   rw[k6 e,aA]at h;cases i with
   |zero=>exact⟨a,rfl,e⟩
   |succ i=>exact Ce (l:=l) (by lia)
theorem Cf{α:Type}{f:α->Bool}{c:α}:∀{l:List α},l[(l.takeWhile f).length]? =some c->f c=false
 |[],h=>by simp at h
 |a::l,h=>by
  cases e:f a with
  |false=>rw[qa (by simp[e])]at h;cases h;exact e
  |true=>
   rw[k6 e,aA,uj]at h;exact Cf h
theorem pS{α:Type}{f:α->Bool}:∀{l:List α},(l.takeWhile f).length<=l.length
 |[]=>by simp
 |a::l=>by
  cases e:f a with
  |false=>rw[qa (by simp[e])];simp
  |true=>rw[k6 e,aA,aA];have:=pS (f:=f) (l:=l);lia
theorem rq{α:Type}{f:α->Bool}:∀{l:List α},l.take (l.takeWhile f).length=l.takeWhile f
 |[]=>rfl
 |a::l=>by
  cases e:f a with
  |false=>rw[qa (by simp[e])];rfl
  |true=>rw[k6 e,aA,yw,rq]
theorem Cg{P:UInt8->Prop}(h:∀n:Nat,n<256->P (uS n))(c:UInt8):P c:=by
 have:=h c.toNat c.toNat_lt;rwa[UInt8.ofNat_toNat]at this
theorem Mr{s:bO}:sf s=(dZ s).bind fun t=>(iY [[]] t).map fun l=>(t.length,l):=rfl
end SW
namespace SW
open PySem
theorem XA{c:Char}(h:c.isDigit=true):(uS c.toNat).toNat=c.toNat:=by
 have:c.toNat<=57:=by
  unfold Char.isDigit at h;simp at h;exact h.2
 rw[O0];lia
theorem Ms(k:Nat):(((yk 10 k).map fun c=>uS c.toNat).map fR)=(yk 10 k).map CQ:=by
 rw[pZ];refine OJ fun c hc=>?_;exact XA (Nat.isDigit_of_mem_toDigits (by decide) (by decide) hc)
theorem vA(n:Int):(⟨((Dl n).map fR).toArray⟩:af)=d7 (toString n):=by
 rw[af.ofString_eq_toList];congr 1;congr 1;unfold Dl;cases n with
 |ofNat k=>
  rw[if_neg (by simp),N4];show((yk 10 k).map _).map _=_;rw[Ms];show _=(Nat.repr k).toList.map CQ;rw[Nat.repr,O1]
 |negSucc k=>
  rw[if_pos (by simp[Int.negSucc_lt_zero])];show kq _ ([45]++(yk 10 (k+1)).map _)=_;rw[eY,Ms];show _=("-"++Nat.repr (k+1)).toList.map CQ;rw[String.toList_append,eY,Nat.repr,O1];rw[O1];rfl
abbrev bS(l:List UInt8):Str:=⟨(l.map fR).toArray⟩
theorem rA(l:List UInt8):(bS l).length=l.length:=by show((l.map fR).toArray).size=_;simp
theorem XB:∀n:Nat,n<256->n≠178->n≠179->n≠185->Dm n=(decide (48<=n)&&decide (n<=57)):=by decide
theorem XD{l:List UInt8}(h:∀c∈l,c.toNat<=126):Txt.isdigit (bS l)=decide (l≠[]/\l.all iI=true):=by
 unfold Txt.isdigit;rw[rA];have e:(bS l).cps.all Dm=l.all iI:=by
  show((l.map fR).toArray).all Dm=_;rw[List.all_toArray,List.all_map];rw[uq,lO,lO];refine forall_congr' fun c=>forall_congr' fun hc=>?_;have:=h c hc;show(Dm c.toNat=true)↔_;rw[XB _ (by lia) (by lia) (by lia) (by lia)];rfl
 rw[e];cases l with
 |nil=>rfl
 |cons a r=>
  have h1:decide ((a::r).length>0)=true:=by simp
  rw[h1,Dn];cases hd:(a::r).all iI with
  |true=>exact(decide_eq_true ⟨by simp,rfl⟩).symm
  |false=>exact(decide_eq_false fun z=>by cases z.2).symm
theorem XF(l:List UInt8):Txt.lstripChars (bS l) "0"=bS (l.dropWhile fun c=>c==48):=by
 unfold Txt.lstripChars Txt.stripBy;have g:∀n:Nat,(d7 "0").cps.contains n=(n==48):=by
  intro n;show(#[48]:Array Nat).contains n=_;rw[uq];simp
 have lo:stripLo (d7 "0").cps.contains true (bS l)=(l.takeWhile fun c=>c==48).length:=by
  unfold stripLo;rw[if_pos rfl];show(((l.map fR).toArray.toList).takeWhile _).length=_;rw[rR];induction l with
  |nil=>rfl
  |cons c r ih=>
   rw[d6];by_cases z:c=48
   ·subst z;rw[k6 (by rw[g];rfl),k6 (by rfl),aA,aA,ih]
   ·rw[qa (by rw[g];simpa using fun w=>z (Df.mp w)),qa (by simpa using z)];rfl
 have hi:∀n,stripHi (d7 "0").cps.contains false (bS l) n=l.length:=fun n=>by
  unfold stripHi;rw[if_neg (by decide),rA]
 unfold stripSame stripped;rw[lo,hi,rA];have e:l.dropWhile (fun c=>c==48)=l.drop (l.takeWhile fun c=>c==48).length:=(mR _ _).symm;by_cases z:(l.takeWhile fun c=>c==48).length=0
 ·rw[if_pos (by rw[z];simp),e,z];rfl
 ·rw[if_neg (by simp[z]),e];unfold Builtin.Str.strSub;show(⟨(l.map fR).toArray.extract _ _⟩:af)=⟨((l.drop _).map fR).toArray⟩;congr 1;rw[abJ,abK,<-yF,r8 (by simp)]
theorem XG(l:List UInt8):Txt.startswith (bS l) "-"=(l.head?==some 45):=by
 unfold Txt.startswith;rw[rA];cases l with
 |nil=>rfl
 |cons c r=>
  have h1:decide (0+(d7 "-").length<=(c::r).length)=true:=by
   refine decide_eq_true ?_;show 0+1<=_;simp
  rw[h1,Dn];unfold Builtin.Str.subAt;show((((c::r).map fR).toArray.extract 0 1)==(#[45]:Array Nat))=_;rw[abJ,abK];show(([c.toNat]:List Nat).toArray==#[45])=_;by_cases z:c=45
  ·subst z;rfl
  ·have n:c.toNat≠45:=fun w=>z (Df.mp w);rw[show((c::r).head?==some 45)=false by simpa using z];simpa using n
theorem ank(l:List UInt8)(k:Nat):(⟨((bS l).cps.toList.drop k).toArray⟩:af)=bS (l.drop k):=by
 show(⟨(((l.map fR).toArray.toList).drop k).toArray⟩:af)=_;rw[rR,<-yF]
theorem Mt(a b:List UInt8):bS a++bS b=bS (a++b):=by
 show(⟨(a.map fR).toArray++(b.map fR).toArray⟩:af)=_;rw[List.append_toArray,<-eY]
theorem XH:∀l:List UInt8,Txt.join "" (l.map fun c=>(⟨#[c.toNat]⟩:af))=bS l:=by
 have aux:∀(l:List UInt8)(a:Array Nat),(l.map fun c=>(⟨#[c.toNat]⟩:af)).foldl (fun acc p=>acc++(d7 "").cps++p.cps) a=a++(l.map fR).toArray:=by
  intro l;induction l with
  |nil=>intro a;simp
  |cons c r ih=>
   intro a;rw[d6,rP,ih];show a++#[]++#[c.toNat]++_=_;simp
 intro l;unfold Txt.join Builtin.Str.glued;cases l with
 |nil=>rfl
 |cons c r=>
  rw[d6,yE,k8,aux];show(⟨#[c.toNat]++_⟩:af)=_;congr 1;simp
theorem XI{d:List UInt8}(hd:d.all iI=true)(hl:d.length<=4000):intText? (d7 "0"++bS d)=some (jh d:Int):=by
 have e0:(d7 "0"++bS d)=bS (48::d):=by
  show bS [48]++bS d=_;rw[Mt];rfl
 have e1:(bS (48::d)).cps.toList=(48::d).map fR:=by show((48::d).map fR).toArray.toList=_;rw[rR]
 rw[e0,intText_digits (x:=bS (48::d))]
 ·rw[e1];congr 2;unfold NumText.digitsVal jh;rw[d6,rP,List.foldl_map];show yf _ 0 d=_;congr 1;funext n c;rw[CM]
 ·rw[e1];intro c hc;obtain⟨b,hb,rfl⟩:=iW.mp hc;rcases br.mp hb with rfl|hb
  ·decide
  ·have:=lO.mp hd b hb;unfold iI at this;simpa using this
 ·rw[e1];simp
 ·rw[rA,aA];lia
end SW
set_option tactic.hygienic false
namespace SW
open PySem PySem.Spec PyProof.Rows L2
theorem XJ{xs:List V}{p e:Nat}(h1:p<=e)(h2:e<=xs.length):fN xs (some (p:Int)) (some (e:Int))=(xs.drop p).take (e-p):=by
 unfold fN;rw[HT.nB,HT.nB,oN h2,oN (by lia)]
theorem iR(l:bO):(bH l).length=l.length:=rA l
theorem XM(l:bO)(h:l≠[]):pr (bH l) (some 1) none=bH (l.drop 1):=by
 unfold pr;have e:HT.cJ (bH l).length 0 (some 1)=1:=by
  rw[show(1:Int)=((1:Nat):Int)from rfl,HT.nB,iR];have:0<l.length:=List.length_pos_iff.mpr h
  lia
 rw[e,HT.sU];have e2:(bH l).cps.toList=l.map fR:=by show((l.map fR).toArray).toList=_;rw[rR]
 rw[e2,r8 (by rw[fh,bK,iR];lia),<-yF];rfl
theorem Mu{l:bO}:bH l=""↔l=[]:=by
 constructor
 ·intro h;have:=congrArg af.length h;rw[iR]at this;exact List.length_eq_zero_iff.mp this
 ·rintro rfl;rfl
def cW(s:bO):List V:=s.map fun b=>V.int (b.toNat:Nat)
def ji(H:Hp):eT->V->Prop
 | .thing v,x=>bF H [] v x
 | .opens,x=>∃a,x=.ref a/\H a=some (.aj [.str "opening",.str ""])
 | .closes,x=>∃a,x=.ref a/\H a=some (.aj [.str "closing",.str ""])
theorem ji.keep{H H':Hp}{t:eT}{x:V}(h:ji H t x)(k:cq H H'):ji H' t x:=by
 cases t with
 |thing v=>exact bF.keep h k
 |opens=>obtain⟨a,e,q⟩:=h;exact⟨a,e,k _ _ q⟩
 |closes=>obtain⟨a,e,q⟩:=h;exact⟨a,e,k _ _ q⟩
def XN:Sp:=fun vs H Q _=>∃c:UInt8,vs=[.int (c.toNat:Nat)]/\Q (.bl (cF c)) H
inductive Mv(f:UInt8->Bool)(vs:List V)(H:Hp)(Q:VK)(E:XK):Prop
 |mk:∀tx s p,(vs=[.ref tx,.int (p:Nat)])->(H tx=some (.ai (cW s)))->(p<=s.length)->(Q (.int ((p+((s.drop p).takeWhile f).length:Nat):Int)) H)->Mv f vs H Q E
def Mw(f:UInt8->Bool):Sp:=fun vs H Q E=>Mv f vs H Q E
inductive Mx(vs:List V)(H:Hp)(Q:VK)(E:XK):Prop
 |mk:∀tx s p e,(vs=[.ref tx,.int (p:Nat),.int (e:Nat)])->(H tx=some (.ai (cW s)))->(s.length<=4096)->(p<=e)->(e<=s.length)->((∀c∈(s.drop p).take (e-p),cF c=true))->(∀H',L2.aL H H'->Q (.str (bH ((s.drop p).take (e-p)))) H')->Mx vs H Q E
def XO:Sp:=fun vs H Q E=>Mx vs H Q E
def rB(H:Hp)(Q:VK)(E:XK):Option eT->Prop
 |some t=>∀x H',L2.aL H H'->ji H' t x->Q x H'
 |none=>Er E (-1) H
inductive My(vs:List V)(H:Hp)(Q:VK)(E:XK):Prop
 |mk:∀d b,(vs=[.str (bH d),.bl b])->(d.all iI=true)->(d.length<=4096)->(rB H Q E ((rn d b).map fun n=>.thing (.int n)))->My vs H Q E
def Mz:Sp:=fun vs H Q E=>My vs H Q E
inductive MA(vs:List V)(H:Hp)(Q:VK)(E:XK):Prop
 |mk:∀(k:af)(n:bO)(f:bO->aB),(vs=[.str k,.str (bH n)])->(n.length<=4096)->((∀n,ba (f n)=k))->((∀H n,bU H [] (f n) (.str (bH n))))->(rB H Q E (if n=[]\/31<n.length then none else some (.thing (f n))))->MA vs H Q E
def MB:Sp:=fun vs H Q E=>MA vs H Q E
inductive MC(vs:List V)(H:Hp)(Q:VK)(E:XK):Prop
 |mk:∀n,(vs=[.str (bH n)])->(n≠[])->((∀c∈n,cF c=true))->(n.length<=4096)->(rB H Q E ((oP n).map .thing))->MC vs H Q E
def XQ:Sp:=fun vs H Q E=>MC vs H Q E
def Ch(c:UInt8):Option eT:=if c=123 then some .opens else if c=125 then some .closes else if c=91\/c=93 then some (.thing (.word [c]))else none
def XR:Sp:=fun vs H Q E=>∃c:UInt8,vs=[.int (c.toNat:Nat)]/\rB H Q E (Ch c)
theorem MD:∀c:UInt8,cF c=(decide ((33:Int)<=(c.toNat:Nat))&&(decide (((c.toNat:Nat):Int)<=126)&& !lq (.int (c.toNat:Nat)) [.int 37,.int 47,.int 91,.int 93,.int 123,.int 125])):=Cg (by decide)
theorem XS{c:UInt8}(h:cF c=true):c.toNat<=126/\33<=c.toNat/\c.toNat≠37:=by
 rw[MD]at h;simp only[lM,decide_eq_true_eq,Bool.not_eq_true']at h;obtain⟨h1,h2,h3⟩:=h;refine⟨by lia,by lia,fun z=>?_⟩;rw[z]at h3;exact absurd h3 (by decide)
theorem XT:∀c:UInt8,cF c=true->cR (d7 "!\"#$ &'()*+,-./0123456789:;<=>?@ABCDEFGHIJKLMNOPQRSTUVWXYZ[\\]^_`abcdefghijklmnopqrstuvwxyz{|}~").cps.toList (((c.toNat:Nat):Int)-33)=some c.toNat:=Cg (by decide)
theorem XU:∀c:UInt8,r9 c=lq (.int (c.toNat:Nat)) [.int 32,.int 9,.int 10,.int 13]:=Cg (by decide)
theorem jj{c:UInt8}{n:Nat}(h:n<256):(((c.toNat:Nat):Int)=(n:Int))↔c=uS n:=by
 constructor
 ·intro z;have:c.toNat=n:=by lia
  rw[<-this,UInt8.ofNat_toNat]
 ·rintro rfl;rw[O0];lia
local macro_rules| `(tactic|walk_at "rd0")=>`(tactic|simp only[b2,aQ,i5,Ay,vO,vI,z0,vP, *])
variable{P:bv}{w:bf}{K:ax}{mg:af->Option ag}{base:Heap}
theorem ME(T:Txt K)(M:MG K mg):ZF 1 "is_plain" ["byte"] XN:=by
 refine ZB T.A7 Ti
 ·obtain⟨c,rfl,_⟩:=h;rfl
 ·obtain⟨c,rfl,q⟩:=h;refine⟨_,(cg (dh (zE (D4 tY tY (a8 M T.Kw) (pw 0) (a8 M T.UL)) (zD (iy Et (pw 0) (pA M T.UJ) (by with_unfolding_all rfl)))))),?_⟩;have ht:=T.UK H;rw[MD]at q;left;by_cases c1:(33:Int)<=(c.toNat:Nat)
  ·rw[if_pos c1];right;by_cases c2:((c.toNat:Nat):Int)<=126
   ·rw[if_pos c2];right;rw[decide_eq_true c1,decide_eq_true c2,Dn,Dn]at q;exact⟨_,.inr ht,rfl,rfl,q⟩
   ·rw[if_neg c2];right;rw[decide_eq_false c2,Of,Bool.and_false]at q;exact q
  ·rw[if_neg c1];right;rw[decide_eq_false c1,Of]at q;exact q
theorem XW(T:Txt K)(M:MG K mg):ZF 1 "comment_end" ["text","place"] (Mw fun c=>c != 10):=by
 refine ZB T.IJ Ge
 ·obtain⟨tx,s,p,rfl,_⟩:=h;rfl
 ·obtain⟨tx,s,p,rfl,ht,hp,q⟩:=h;refine⟨_,(Zq (ni jB (PW.pt (o7 (Zc iO (pw 1) (Zl dD (pw 0))) (o6 (Zc pc (Zx fK (pw 0) (pw 1)) (a8 M T.UB))))) (cg (lj (i:=1) Ge.nd rfl (eN rfl) aS o9))) (dh (pw 1))),?_⟩;left;generalize et:((s.drop p).takeWhile (fun c:UInt8=>c != 10)).length=t at q;have tl:p+t<=s.length:=by
   have:=pS (f:=fun c:UInt8=>c != 10) (l:=s.drop p);rw[et,fh]at this
   lia
  refine oo (fun k σ' H'=>∃i,i+k=t/\σ'=[some (.ref tx),some (.int ((p+i:Nat):Int))]/\H'=H) t ⟨0,by lia,rfl,rfl⟩ ?_;rintro k σ' H' ⟨i,hi,rfl,rfl⟩;by_cases c:i<t
  ·obtain⟨ch,e1,e2⟩:=Ce (f:=fun c:UInt8=>c != 10) (l:=s.drop p) (i:=i) (by rw[et];exact c);rw[yG]at e1;have hat:cR (cW s) ((p+i:Nat):Int)=some (V.int (ch.toNat:Nat)):=fW (by unfold cW;rw[dX,e1];rfl);have hlt:((p+i:Nat):Int)<((cW s).length:Nat):=by unfold cW;rw[bK];lia
   clear q;left;have n10:¬((ch.toNat:Nat):Int)=10:=fun z=>by
    have:=(jj (n:=10) (by decide)).mp z;rw[this]at e2;exact absurd e2 (by decide)
   rw[if_pos (by simp[n10])];right;refine lE ?_;left;exact⟨k-1,by lia,i+1,by lia,by lia⟩
  ·have ei:i=t:=by lia
   subst ei;by_cases c2:p+i<s.length
   ·obtain⟨ch,e1⟩:∃ch,s[p+i]? =some ch:=⟨_,f7 c2⟩
    have e2:(fun c:UInt8=>c != 10) ch=false:=by
     refine Cf (f:=fun c:UInt8=>c != 10) (l:=s.drop p) ?_;rw[et,yG];exact e1
    have hat:cR (cW s) ((p+i:Nat):Int)=some (V.int (ch.toNat:Nat)):=fW (by unfold cW;rw[dX,e1];rfl);have hlt:((p+i:Nat):Int)<((cW s).length:Nat):=by unfold cW;rw[bK];lia
    left;have e10:((ch.toNat:Nat):Int)=10:=(jj (n:=10) (by decide)).mpr (by simpa using e2);rw[if_neg (by simp[e10])];right;all_goals trivial
   ·have hlt:¬((p+i:Nat):Int)<((cW s).length:Nat):=by unfold cW;rw[bK];lia
    left
theorem MF(T:Txt K)(M:MG K mg):ZF 2 "run_end" ["text","place"] (Mw cF):=by
 refine ZB T.A8 Gg
 ·obtain⟨tx,s,p,rfl,_⟩:=h;rfl
 ·obtain⟨tx,s,p,rfl,ht,hp,q⟩:=h;refine⟨_,(Zq (ni jB (PW.pt (o7 (Zc iO (pw 1) (Zl dD (pw 0))) (o6 (iz (Zf T.II T.A7 ME (Zx fK (pw 0) (pw 1))) (fun _=>rfl))))) (cg (lj (i:=1) Gg.nd rfl (eN rfl) aS o9))) (dh (pw 1))),?_⟩;left;generalize et:((s.drop p).takeWhile (cF)).length=t at q;have tl:p+t<=s.length:=by
   have:=pS (f:=cF) (l:=s.drop p);rw[et,fh]at this
   lia
  refine oo (fun k σ' H'=>∃i,i+k=t/\σ'=[some (.ref tx),some (.int ((p+i:Nat):Int))]/\H'=H) t ⟨0,by lia,rfl,rfl⟩ ?_;rintro k σ' H' ⟨i,hi,rfl,rfl⟩;by_cases c:i<t
  ·obtain⟨ch,e1,e2⟩:=Ce (f:=cF) (l:=s.drop p) (i:=i) (by rw[et];exact c);rw[yG]at e1;have hat:cR (cW s) ((p+i:Nat):Int)=some (V.int (ch.toNat:Nat)):=fW (by unfold cW;rw[dX,e1];rfl);have hlt:((p+i:Nat):Int)<((cW s).length:Nat):=by unfold cW;rw[bK];lia
   clear q;left;refine⟨ch,rfl,true,e2.symm,?_⟩;rw[if_pos rfl];right;refine lE ?_;left;exact⟨k-1,by lia,i+1,by lia,by lia⟩
  ·have ei:i=t:=by lia
   subst ei;by_cases c2:p+i<s.length
   ·obtain⟨ch,e1⟩:∃ch,s[p+i]? =some ch:=⟨_,f7 c2⟩
    have e2:(cF) ch=false:=by
     refine Cf (f:=cF) (l:=s.drop p) ?_;rw[et,yG];exact e1
    have hat:cR (cW s) ((p+i:Nat):Int)=some (V.int (ch.toNat:Nat)):=fW (by unfold cW;rw[dX,e1];rfl);have hlt:((p+i:Nat):Int)<((cW s).length:Nat):=by unfold cW;rw[bK];lia
    left;refine⟨ch,rfl,false,e2.symm,?_⟩;rw[if_neg (by decide)];right;all_goals exact q
   ·have hlt:¬((p+i:Nat):Int)<((cW s).length:Nat):=by unfold cW;rw[bK];lia
    left
theorem Ci:ZS ["text","start","end","byte"] ["text","start","end"] v9:=by symm
theorem MH(T:Txt K)(M:MG K mg):ZF 1 "run_in" ["text","start","end"] XO:=by
 refine ZB T.A9 Ci
 ·obtain⟨tx,s,p,e,rfl,_⟩:=h;rfl
 ·obtain⟨tx,s,p,e,rfl,ht,hl,he,hs,hp,q⟩:=h;refine⟨_,(cg (dh (RR jN (qE (own:=[("byte",3)]) rfl Ci.nd (l7 (l8 rk (pv 0) (jS (pv 1)) (jS (pv 2)))) (by refine show kC ["text","start","end","byte"] (eU v9) _ [("byte",3)]from ?_;exact⟨rfl,by decide,by decide,by decide,by decide⟩) (fun _ _ _ _ _=>jO (i:=3) Ci.nd rfl (eN rfl)) (fun _ _ _ _ _=>tq) (fun _ _ _ _ _=>(sw QY (a8 (x:="SIGNS") M T.UM) (cT sO (pv 3) (a8 (x:="FIRST_SIGN") M T.Kw)) (fun _ _=>rfl))))))),?_⟩;walk_at "rd";refine⟨⟨_,rfl⟩,?_⟩;have ecut:fN (cW s) (some (p:Int)) (some (e:Int))=cW ((s.drop p).take (e-p)):=by
   rw[XJ he (by unfold cW;rw[bK];exact hs)];unfold cW;rw[uO,yF]
  have bl:((s.drop p).take (e-p)).length<=4096:=by rw[eI,fh];lia
  generalize ek:(s.drop p).take (e-p)=b at *;refine⟨_,rfl,_,rfl,_,rfl,_,rfl,_,rfl,tx,rfl,_,ht,fun l hl2=>?_⟩;rw[ecut];have hl3:aq H l (HO.ai (cW b)) l=some (.ai (cW b)):=az;refine⟨l,rfl,⟨_,bV.of hl3⟩,fun D hD=>?_⟩;have nDl:D≠l:=fun z=>by rw[z,hl3]at hD;cases hD
  have k1:=bA (o:=HO.ai (cW b)) hl2;refine pk (K:=K) (a:=l) (xs:=cW b) (fun i H'=>bJ D (aq H l (HO.ai (cW b))) H'/\H' D=some (.ai ((b.take i).map fun c=>V.str ⟨#[c.toNat]⟩))) ?_ ?_ ?_ ?_
  ·exact⟨bM,az⟩
  ·rintro i H' _ ⟨h1,_⟩;exact bV.of (h1 _ _ (cM nDl) hl3)
  ·rintro i x H' hx ⟨h1,h2⟩;unfold cW at hx;rw[dX]at hx;obtain⟨ch,e1,rfl⟩:=jt.mp hx;have hs:=XT ch (hp ch (dR e1));have il:i<b.length:=(cP.mp e1).1;refine⟨rfl,?_⟩;simp only[lr,reduceIte];refine⟨_,rfl,_,_,rfl,rfl,_,_,_,rfl,rfl,by decide,hs,_,h2,by rw[bK,eI,bR];lia,h1.trans bM,?_⟩;rw[az,m3 il,eY];rw[(cP.mp e1).2];rfl
  ·rintro H' ⟨h1,h2⟩;have e2:(cW b).length=b.length:=by unfold cW;rw[bK]
   rw[e2,oO]at h2;refine⟨D,rfl,b.map fun c=>(⟨#[c.toNat]⟩:af),.inl (bV.of (by rw[h2,pZ];rfl)),?_,?_⟩
   ·rw[pZ,bK];have:(b.map ((fun x:af=>x.length)∘fun c:UInt8=>(⟨#[c.toNat]⟩:af))).sum<=b.length:=by
     clear hp q ecut bl ek h2 e2 hl3 hl2 k1 hD h1;induction b with
     |nil=>simp
     |cons a r ih=>rw[d6,OQ,aA];have:(((fun x:af=>x.length)∘fun c:UInt8=>(⟨#[c.toNat]⟩:af)) a)=1:=rfl;lia
    show _+b.length*0<=_
    lia
   ·have:=XH b;rw[this];refine q H' fun c o hc=>h1 c o (fun z=>?_) (k1 c o hc);rw[z]at hc;have:=k1 _ _ hc;rw[hD]at this;cases this
theorem XX(T:Txt K)(M:MG K mg):ZF 4 "number_token" ["digits","below"] Mz:=by
 refine ZB T.IM wa
 ·obtain⟨d,b,rfl,_⟩:=h;rfl
 ·obtain⟨d,b,rfl,hd,hl,q⟩:=h;refine⟨_,(Zk (Zs 0 wa (Az PySem.F.slot_str_lstrip PySem.F.type_str_lstrip SO (pv 0) jN)) (Zz (Zp vB (Zl z6 (pv 0)) (a8 M T.UO)) (Zr T.nV T.pH pO T.nO T.pG)) (Zs 2 wa (jR RP rfl (M.aO _ T.U2) SE (Zy (cT D7 jN (pv 0))))) (Zz (iz (pv 1) (fun _=>rfl)) (Zs 2 wa (fq iw (pv 2)))) (Zz (vj (iz (Zf T.T8 T.Iv Xg (pv 2)) (fun _=>rfl))) (Zr T.nV T.pH pO T.nO T.pG)) (dh (Zt (a8 M T.fO) (pv 2)))),?_⟩;left;have es:Txt.lstripChars (bH d) (d7 "0")=bH (d.dropWhile fun c=>c==48):=XF d;unfold rn at q;have hz:(d.dropWhile fun c=>c==48).all iI=true:=lO.mpr fun c hc=>lO.mp hd c ((yo _).subset hc);have zl:(d.dropWhile fun c=>c==48).length<=4096:=dM (rm _ _) hl;rw[es];generalize d.dropWhile (fun c=>c==48)=z at *;refine⟨⟨_,rfl⟩,by rw[iR,bR];lia,by rw[iR,bR];lia,?_⟩;rw[iR];by_cases c:10<z.length
  ·rw[if_pos (by lia)];rw[if_pos c]at q;exact q
  ·rw[if_neg (by lia)];rw[if_neg c]at q;have fin:∀n:Int,rB H Q E (Option.map (fun n=>Dk (uR n)) (if -2147483648<=n/\n<2147483648 then some n else none))->L9 [V.int n] H (fun x_1 H'=>∃k,qy K x_1 H' k/\if(!k)=true then ∀(H'_1:Hp),L2.aL H' H'_1->E (kh (-1) 0) none H'_1 else 2<=bE/\∀(p:ae),H' p=none->Q (V.ref p) (aq H' p (HO.aj [V.str "number",V.int n]))) E:=by
    intro n hn;refine⟨n,rfl,_,rfl,?_⟩;by_cases r: -2147483648<=n/\n<2147483648
    ·rw[if_pos r]at hn;rw[decide_eq_true r,if_neg (by decide)];exact⟨by rw[bR];decide,fun p hp=>hn _ _ (bA hp) (iC az)⟩
    ·rw[if_neg r]at hn;rw[decide_eq_false r,if_pos (by decide)];exact hn
   refine⟨by rw[bR];show 1+z.length<=_;lia,(jh z:Int),XI hz (by lia),?_,b,rfl,?_⟩
   ·rw[strLen_append,iR];show 1+z.length<=_;lia
   ·have q2:=fin (if b=true then -(jh z:Int)else(jh z:Int)) q;clear q fin;cases b with
    |true=>rw[if_pos rfl]at q2;rw[if_pos rfl];exact q2
    |false=>rw[if_neg (by decide)]at q2;rw[if_neg (by decide)];exact q2
theorem MJ(T:Txt K)(M:MG K mg):ZF 4 "named_token" ["kind","run"] MB:=by
 refine ZB T.Ba Tj
 ·obtain⟨k,n,f,rfl,_⟩:=h;rfl
 ·obtain⟨k,n,f,rfl,hl,hk,hv,q⟩:=h;refine⟨_,(Zq (Zz (PW.pt (vi (Zc dz (pw 1) jN) (vh (Zc kP (Zl z6 (pw 1)) (a8 M T.UN))))) (Zr T.nV T.pH pO T.nO T.pG)) (dh (Zt (pw 0) (pw 1)))),?_⟩;left;rw[iR];by_cases c0:n=[]
  ·rw[if_pos (Mu.mpr c0)];right;rw[if_pos (.inl c0)]at q;exact q
  ·rw[if_neg (fun z=>c0 (Mu.mp z))];right;refine⟨by rw[bR];lia,?_⟩;by_cases c1:31<n.length
   ·rw[if_pos (by lia)];right;rw[if_pos (.inr c1)]at q;exact q
   ·rw[if_neg (by lia)];right;rw[if_neg (by rintro(z|z);exact c0 z;exact c1 z)]at q;exact⟨by rw[bR];decide,fun p hp=>q _ _ (bA hp) ⟨p,_,rfl,by rw[az,hk],hv _ _⟩⟩
theorem XY(T:Txt K)(M:MG K mg):ZF 5 "run_token" ["run"] XQ:=by
 refine ZB T.IQ AO
 ·obtain⟨n,rfl,_⟩:=h;rfl
 ·obtain⟨n,rfl,h0,hp,hl,q⟩:=h;refine⟨_,(Zk (Zs 1 AO (Az PySem.F.slot_str_startswith PySem.F.type_str_startswith RO (pv 0) jN)) (Zs 2 AO (o8 (iz (pv 1) (fun _=>rfl)) (l8 EY (pv 0) (jS aS) qA) (pv 0))) (Zz (iz (RQ PySem.F.slot_str_isdigit PySem.F.type_str_isdigit RM (pv 2)) (fun _=>rfl)) (dh (Zf T.Uc T.IM XX (pv 2) (pv 1)))) (dh (Zf T.IP T.Ba MJ (a8 M T.wK) (pv 0)))),?_⟩;left;have e1:Txt.startswith (bH n) (d7 "-")=(n.head?==some 45):=XG n;rw[e1,XM n h0];rw[Xx n h0]at q;have isd:∀d:bO,(∀c∈d,c∈n)->Txt.isdigit (bH d)=decide (d≠[]/\d.all iI=true):=fun d h=>XD fun c hc=>(XS (hp c (h c hc))).1;have fin:∀(d:bO)(b:Bool),(∀c∈d,c∈n)->d.length<=n.length->rB H Q E (Option.map Dk (if d≠[]/\d.all iI=true then(rn d b).map .int else if n.length<=31 then some (.word n)else none))->
    ∃k,qy K (V.bl (Txt.isdigit (bH d))) H k/\if k=true then Mz [V.str (bH d),V.bl b] H Q E else MB [V.str "word",V.str (bH n)] H Q E:=by
   intro d b hd hl2 h;refine⟨_,rfl,?_⟩;rw[isd d hd];by_cases c:d≠[]/\d.all iI=true
   ·rw[if_pos (decide_eq_true c)];rw[if_pos c,Option.map_map]at h;exact⟨d,b,rfl,c.2,by lia,h⟩
   ·rw[if_neg (by rw[decide_eq_false c];decide)];rw[if_neg c]at h;refine⟨"word",n,.word,rfl,hl,fun _=>rfl,fun _ _=>by rw[bU],?_⟩;by_cases z:n.length<=31
    ·rw[if_neg (by rintro(y|y);exact h0 y;lia)];rw[if_pos z]at h;exact h
    ·rw[if_pos (.inr (by lia))];rw[if_neg z]at h;exact h
  refine⟨⟨_,rfl⟩,_,rfl,?_⟩;cases hb:(n.head?==some 45)with
  |true=>
   rw[hb]at q;rw[if_pos rfl];exact⟨by rw[iR,bR];lia,⟨_,rfl⟩,fin _ true (fun c hc=>rX hc) (by rw[fh];lia) q⟩
  |false=>
   rw[hb]at q;rw[if_neg (by decide)];exact⟨⟨_,rfl⟩,fin n false (fun _ h=>h) (bY _) q⟩
theorem XZ(T:Txt K)(M:MG K mg):ZF 4 "sign_token" ["byte"] XR:=by
 refine ZB T.IS Tl
 ·obtain⟨c,rfl,_⟩:=h;rfl
 ·obtain⟨c,rfl,q⟩:=h;refine⟨_,(Zq (Zz (Zc dz (pw 0) (a8 M T.UH)) (dh (Zt (a8 M T.Ku) jN))) (Zz (Zc dz (pw 0) (a8 M T.UI)) (dh (Zt (a8 M T.Kv) jN))) (Zz (Zc dz (pw 0) (a8 M T.UE)) (dh (Zt (a8 M T.wK) jN))) (Zz (Zc dz (pw 0) (a8 M T.UG)) (dh (Zt (a8 M T.wK) jN))) (Zr T.nV T.pH pO T.nO T.pG)),?_⟩;have z2:2<=sizeLine:=by rw[bR];decide
  left;unfold Ch at q;by_cases c1:c=123
  ·rw[if_pos (show((c.toNat:Nat):Int)=123 from(jj (n:=123) (by decide)).mpr c1)];right;rw[if_pos c1]at q;exact fun p hp=>q _ _ (bA hp) ⟨p,rfl,az⟩
  ·rw[if_neg (fun z:((c.toNat:Nat):Int)=123=>c1 ((jj (n:=123) (by decide)).mp z))];right;rw[if_neg c1]at q;by_cases c2:c=125
   ·rw[if_pos (show((c.toNat:Nat):Int)=125 from(jj (n:=125) (by decide)).mpr c2)];right;rw[if_pos c2]at q;exact fun p hp=>q _ _ (bA hp) ⟨p,rfl,az⟩
   ·rw[if_neg (fun z:((c.toNat:Nat):Int)=125=>c2 ((jj (n:=125) (by decide)).mp z))];right;rw[if_neg c2]at q;by_cases c3:c=91
    ·rw[if_pos (show((c.toNat:Nat):Int)=91 from(jj (n:=91) (by decide)).mpr c3)];right;rw[if_pos (.inl c3)]at q;refine fun p hp=>q _ _ (bA hp) ⟨p,.str "[",rfl,az,?_⟩;rw[bU,c3];rfl
    ·rw[if_neg (fun z:((c.toNat:Nat):Int)=91=>c3 ((jj (n:=91) (by decide)).mp z))];right;by_cases c4:c=93
     ·rw[if_pos (show((c.toNat:Nat):Int)=93 from(jj (n:=93) (by decide)).mpr c4)];right;rw[if_pos (.inr c4)]at q;refine fun p hp=>q _ _ (bA hp) ⟨p,.str "]",rfl,az,?_⟩;rw[bU,c4];rfl
     ·rw[if_neg (fun z:((c.toNat:Nat):Int)=93=>c4 ((jj (n:=93) (by decide)).mp z))];right;rw[if_neg (by rintro(z|z);exact c3 z;exact c4 z)]at q;exact q
theorem zx:(ZN "number" "truth" "name" "mark" "array" "table" "state" "procedure" "word" "any")/\(ZN "truth" "number" "name" "mark" "array" "table" "state" "procedure" "word" "any")/\(ZN "name" "number" "truth" "mark" "array" "table" "state" "procedure" "word" "any")/\(ZN "mark" "number" "truth" "name" "array" "table" "state" "procedure" "word" "any")/\(ZN "array" "number" "truth" "name" "mark" "table" "state" "procedure" "word" "any")/\(ZN "table" "number" "truth" "name" "mark" "array" "state" "procedure" "word" "any")/\(ZN "state" "number" "truth" "name" "mark" "array" "table" "procedure" "word" "any")/\(ZN "procedure" "number" "truth" "name" "mark" "array" "table" "state" "word" "any")/\(ZN "word" "number" "truth" "name" "mark" "array" "table" "state" "procedure" "any")/\(ZN "any" "number" "truth" "name" "mark" "array" "table" "state" "procedure" "word"):=by
 (repeat' apply xQ)<;>exact eq_false (by decide)
theorem X0{n:Nat}(h:n<4294967296):n.log2<1920:=by
 by_cases z:n=0
 ·subst z;decide
 ·exact Nat.lt_trans ((Nat.log2_lt z).mpr (show n<2^32 by omega)) (by decide)
theorem X1(l:bO)(k:Nat):pr (bH l) none (some (k:Int))=bH (l.take k):=by
 unfold pr;rw[HT.sU,HT.nB,iR];have e2:(bH l).cps.toList=l.map fR:=by show((l.map fR).toArray).toList=_;rw[rR]
 rw[e2,k8,<-uO,Nat.sub_zero];show bH (l.take (min k l.length))=_;rw[<-List.take_eq_take_min]
theorem X2(g:G)(M:aY)(v:V):aQ "said_in_all" v (dy g M)=([("words",.ref g.fY),("stack",.ref g.au),("pile",.ref g.bB),("opened",.ref g.dC),("store",.ref g.aZ),("tokens_run",.int M.code),("most",.int g.most),("said",.ref g.sd),("said_in_all",v)]:List (af×V)):=rfl
theorem X3{h:b9}{n:Nat}{t:aB}(v:cH h n t):(qb t).length<=40:=by
 cases t with
 |int z=>
  have hz: -2147483648<=z/\z<2147483648:=v;have:=TL.RJ (n:=z.natAbs) (k:=10) (by decide) (by lia);unfold TL.Aw at this;rw[bK]at this;show(Dl z).length<=40;unfold Dl;rw[eQ,bK];split<;>simp<;>lia
 |truth b=>cases b<;>decide
 |lit x=>exact dM v (by decide)
 |word x=>exact v.elim
 |mark=>decide
 |arr k=>exact(show(iJ "--array--").length<=40 by decide)
 |table k=>exact(show(iJ "--table--").length<=40 by decide)
 |state k=>exact(show(iJ "--state--").length<=40 by decide)
 |proc k=>exact(show(iJ "--procedure--").length<=40 by decide)
inductive Cj(K:ax)(H:Hp)(a:ae)(c:af)(b:Bool):Prop
 |mk:∀C dx fs,H a=some (.aP C dx fs)->mi K C->iT K (.ref C) (.ref (ak K c))=some b->Cj K H a c b
theorem MK{K:ax}(T:Txt K){H:Hp}{f:cZ}{a:ae}(h:gG K H f a):Cj K H a "LoopFrame" (k9 f):=by
 cases f with
 |code l=>obtain⟨dx,p,vs,i,h1,_⟩:=h;exact⟨_,_,_,h1,T.KQ,T.U5⟩
 |times n b=>obtain⟨dx,p,vs,h1,_⟩:=h;exact⟨_,_,_,h1,T.KS,T.U9⟩
 |again b=>obtain⟨dx,p,vs,h1,_⟩:=h;exact⟨_,_,_,h1,T.KR,T.U7⟩
 |count x y z b=>obtain⟨dx,p,vs,h1,_⟩:=h;exact⟨_,_,_,h1,T.KU,T.Vb⟩
 |each x y b=>obtain⟨dx,p,vs,r,h1,_⟩:=h;exact⟨_,_,_,h1,T.KW,T.Vd⟩
theorem pB{α:Type}{p:α->Bool}:∀{l:List α},(∀x∈l,p x=true)->l.dropWhile p=[]
 |[],_=>rfl
 |a::l,h=>by rw[uQ (h a cw)];exact pB fun x hx=>h x (bP _ hx)
theorem ML{α:Type}{p:α->Bool}{f:α}:∀{l:List α}{i:Nat},(∀x∈l.take i,p x=true)->l[i]? =some f->p f=false->l.dropWhile p=l.drop i
 |[],i,_,h,_=>by simp at h
 |a::l,0,_,h,hf=>by cases h;rw[OZ (by simp[hf])];rfl
 |a::l,i+1,h1,h,hf=>by
  rw[yw]at h1;rw[uQ (h1 a cw),yE];exact ML (fun x hx=>h1 x (bP _ hx)) h hf
inductive MM(vs:List V)(H:Hp)(Q:VK)(E:XK):Prop
 |mk:∀t v aF hp n,(vs=[v])->(bF H aF t v)->(cH hp n t)->(Q (.str (bH (qb t))) H)->MM vs H Q E
def X4:Sp:=fun vs H Q E=>MM vs H Q E
inductive MN(K:ax)(vs:List V)(H:Hp)(Q:VK)(E:XK):Prop
 |mk:∀m g M b,(vs=[.ref m,.str (bH b)])->(MI K (bc K) m g M H)->(b.length<=1000)->(∀H',MI K (bc K) m g {M with said:=M.said++b} H'->Fr (aK m g) H (aK m g) H'->Q .aO H')->MN K vs H Q E
def X5(K:ax):Sp:=fun vs H Q E=>MN K vs H Q E
theorem X6{x:af}{g:TG}{tb:TS}{D:i9}{σ:L2.St}{H:Hp}(Pv:Nat->L2.St->Hp->Prop)(h0:Pv 0 σ H)
(hs:∀i c σ H,x.cps[i]? =some c->Pv i σ H->g (.str ⟨#[c]⟩) σ H fun σ2 H2=>tb {D with nx:=Pv (i+1),ct:=Pv (i+1),bk:=D.nx} σ2 H2)(hd:∀σ H,Pv x.cps.size σ H->D.nx σ H):
  ∃W:Nat->Nat->L2.St->Hp->Prop,(∃m,W 0 m σ H)/\∀i m σ H,W i m σ H->
   ((tF x).jP i H/\D.nx σ H)\/((tF x).go i H/\∃N:L2.St->Hp->Prop,(∀σ' H',N σ' H'->∃m',m'<m/\W (i+1) m' σ' H')/\∀y H',(tF x).nj i H y H'->g y σ H' fun σ2 H2=>tb {D with nx:=N,ct:=N,bk:=D.nx} σ2 H2):=by
 refine⟨fun i m σ H=>m=x.cps.size-i/\i<=x.cps.size/\Pv i σ H,⟨x.cps.size,by simp,cI _,h0⟩,?_⟩;rintro i m σ H ⟨rfl,hi,p⟩;by_cases hlt:i<x.cps.size
 ·refine .inr ⟨hlt,Pv (i+1),fun σ' H' p'=>⟨x.cps.size-(i+1),by lia,rfl,hlt,p'⟩,fun y H' h=>?_⟩;obtain⟨rfl,c,hc,rfl⟩:=h;exact hs i c σ _ hc p
 ·have e:i=x.cps.size:=by lia
  subst e;exact .inl ⟨bY _,hd σ H p⟩
local macro_rules| `(tactic|walk_at "rd0")=>`(tactic|simp only[b3,aQ,EV,vP,Ft,Aa, *])
theorem X7(T:Txt K)(M:MG K mg):ZF 1 "text_of" ["thing"] X4:=by
 refine ZB T.Iy FQ
 ·obtain⟨t,v,aF,hp,n,rfl,_⟩:=h;rfl
 ·obtain⟨t,v,aF,hp,n,rfl,ht,vo,q⟩:=h;refine⟨_,(Zq (Zs 1 FQ (Zi (pw 0))) (Zz (Zc dz (pw 1) (a8 M T.fO)) (dh (jR Qx rfl (M.aO _ T.U1) SD (Zy (Zi (pw 0)))))) (Zz (Zc dz (pw 1) (a8 M T.jE)) (dh (o8 (iz (Zi (pw 0)) (fun _=>rfl)) jN jN))) (Zz (Zc dz (pw 1) (a8 M T.qW)) (dh (Zi (pw 0)))) (dh (SK (pw 1)))),?_⟩;obtain⟨a,x,rfl,ea,hx⟩:=ht;cases t with
  |int n=>
   rw[bU]at hx;subst hx;have ea1:H a=some (.aj [.str "number",.int n]):=ea;have q2:Q (.str (toString n)) H:=by have e:bH (qb (.int n))=d7 (toString n):=vA n;rw[e]at q;exact q
   clear q ea;left;exact X0 (by have h1: -2147483648<=n/\n<2147483648:=vo;omega)
  |truth b=>
   rw[bU]at hx;subst hx;have ea1:H a=some (.aj [.str "truth",.bl b]):=ea;clear ea;left;refine⟨b,rfl,?_⟩;cases b with
   |true=>rw[if_pos rfl];exact q
   |false=>rw[if_neg (by decide)];exact q
  |lit s=>
   rw[bU]at hx;subst hx;have ea1:H a=some (.aj [.str "name",.str (bH s)]):=ea;have q2:Q (.str (bH s)) H:=q;clear q ea;left
  |mark=>
   have ea1:H a=some (.aj [.str "mark",x]):=ea;have q2:Q (.str (jq++d7 "--"++d7 "mark"++d7 "--")) H:=q;clear q ea hx;left;decide +kernel
  |arr k=>
   have ea1:H a=some (.aj [.str "array",x]):=ea;have q2:Q (.str (jq++d7 "--"++d7 "array"++d7 "--")) H:=q;clear q ea hx;left;decide +kernel
  |table k=>
   have ea1:H a=some (.aj [.str "table",x]):=ea;have q2:Q (.str (jq++d7 "--"++d7 "table"++d7 "--")) H:=q;clear q ea hx;left;decide +kernel
  |state k=>
   have ea1:H a=some (.aj [.str "state",x]):=ea;have q2:Q (.str (jq++d7 "--"++d7 "state"++d7 "--")) H:=q;clear q ea hx;left;decide +kernel
  |proc b=>
   have ea1:H a=some (.aj [.str "procedure",x]):=ea;have q2:Q (.str (jq++d7 "--"++d7 "procedure"++d7 "--")) H:=q;clear q ea hx;left;decide +kernel
  |word n=>exact vo.elim
theorem X8(T:Txt K)(M:MG K mg):ZM 1 "Machine" "say" ["self","text"] (X5 K):=by
 refine ZB T.Jd.df AQ
 ·obtain⟨m,g,M0,b,rfl,_⟩:=h;rfl
 ·obtain⟨m,g,M0,b,rfl,I,hb,q⟩:=h;refine⟨_,(Zq (nu (pw 0) (Zl z6 (pw 1)) pj) (Zs 2 AQ (cT ig (Zd 0) (Zl dD (Zd 0)))) (sM jB rfl (RG (l8 EY (pw 1) qA (jS (pw 2)))) (jO (i:=3) AQ.nd rfl (eN rfl)) (cg (aE (Za iP (Zd 0) (jL Qy rfl (M.aO _ T.U3) SA (Zy (pw 3)))))))),?_⟩;walk_at "at";have a1:=T.wU;have a2:=T.BA;have a3:=T.wV;have hs:=I.sd;have ef:aQ "said_in_all" (V.int ((M0.said.length:Nat)+((bH b).length:Nat))) (dy g M0)=dy g {M0 with said:=M0.said++b}:=by
   rw[X2];unfold dy;rw[iR,eQ];rfl
  left;refine⟨by rw[iR,bR];omega,by show 9<1000;decide,?_⟩;have b1:bJ m H (aq H m (.aP (ak K "Machine") g.dm (dy g {M0 with said:=M0.said++b}))):=bM;have hm1:aq H m (.aP (ak K "Machine") g.dm (dy g {M0 with said:=M0.said++b})) m=_:=az;have hs1:=b1 _ _ (bG I.dk 5 0 rfl rfl (by decide)) hs;generalize aq H m (.aP (ak K "Machine") g.dm (dy g {M0 with said:=M0.said++b}))=H1 at *;left;have rl:(g.most:Int)-(((M0.said.take g.most).map fun b=>V.int (b.toNat:Nat)).length:Nat)=((g.most-M0.said.length:Nat):Int):=by
   rw[bK,eI];omega
  rw[rl];refine⟨_,rfl,_,rfl,by rw[iR,bR];omega,_,rfl,?_⟩;rw[X1];have mb:=I.mb;have kc:∀(i:Nat) c,(bH (b.take (g.most-M0.said.length))).cps[i]? =some c->∃u:UInt8,(b.take (g.most-M0.said.length))[i]? =some u/\c=u.toNat:=fun i c h=>by
   have h':((b.take (g.most-M0.said.length)).map fR)[i]? =some c:=by
    rw[<-List.getElem?_toArray];exact h
   rw[dX]at h';obtain⟨u,e1,e2⟩:=jt.mp h';exact⟨u,e1,e2.symm⟩
  have cl:(bH (b.take (g.most-M0.said.length))).cps.size=(b.take (g.most-M0.said.length)).length:=iR _;generalize eb:b.take (g.most-M0.said.length)=bb at *;have bl:bb.length<=1000:=by rw[<-eb,eI];omega
  refine X6 (fun i σ' H'=>∃x3,σ'=[some (.ref m),some (.str (bH b)),some (.int ((g.most-M0.said.length:Nat):Int)),x3]/\bJ g.sd H1 H'/\H' g.sd=some (.ai ((M0.said.take g.most++bb.take i).map fun b=>V.int (b.toNat:Nat)))) ?_ ?_ ?_
  ·exact⟨none,rfl,fun _ _ _ h=>h,by rw[OO,kW];exact hs1⟩
  ·rintro i c σ' H' hx ⟨x3,rfl,h1,h2⟩;obtain⟨u,e1,rfl⟩:=kc i c hx;have il:i<bb.length:=(cP.mp e1).1;have hm2:=h1 _ _ (bG I.dk 0 5 rfl rfl (by decide)) hm1;have ty:=dc (K:=K) h2;clear hx hm1 hs1 hm hs;left;refine⟨rfl,?_,?_⟩
   ·rw[bK,eQ,eI,eI,bR];omega
   ·refine⟨h1.trans bM,?_⟩;rw[m3 il,(cP.mp e1).2,<-ir,eY (l₂:=[u])];rfl
  ·rintro σ' H' ⟨x3,rfl,h1,h2⟩;rw[cl,oO]at h2;have et:M0.said.take g.most++bb=(M0.said++b).take g.most:=by rw[List.take_append,eb]
   rw[et]at h2;have hk:∀c o,c≠m->c≠g.sd->H c=some o->H' c=some o:=fun c o n1 n2 e=>h1 c o n2 (b1 c o n1 e);have J:=I.BX hk (h1 _ _ (bG I.dk 0 5 rfl rfl (by decide)) hm1) h2 (.inl rfl) mb;exact q H' J ⟨fun c o e n=>hk c o (fun z=>n (by rw[z];simp[aK,bu])) (fun z=>n (by rw[z];simp[aK,bu])) e,fun c hc=>.inl hc,rfl,I.mo J⟩
theorem X9(T:Txt K)(M:MG K mg):ZF 5 "do_say" ["machine"] (cO K (bD "=")):=by
 refine ZC T.JS TZ
 ·nofun;refine⟨_,(Zq (aE (Zf T.kL T.jZ kO (Zd 0) aS)) (aE (Zv (pw 0) T.Jd X8 (cT D7 (Zf T.Ua T.Iy X7 (iA gk ju jw jb (Zd 0))) jN)))),?_⟩;walk_at "zh";have hl:g.l.length=M0.stack.length:=I.bh.length.symm;left;refine⟨g.au,g.l.reverse,1,rfl,hs,?_⟩;have q':aI K m g H Q E (match M0.stack with|v::r=>.ok {M0 with stack:=r,said:=M0.said++(qb v++[10])}|_=>.error cE):=q;have hV:=I.bh;have hv:=W.au;match e:M0.stack,hl with
  |[],hl=>rw[e]at q';rw[if_pos (by rw[bN,hl];decide)];exact q'
  |t::r,hl=>
   rw[e]at q' hV hv;obtain⟨v,l1,el,h1,h2⟩:=hV.bW;rw[if_neg (by rw[bN,hl,aA];lia)];right;rw[el]at hs;have ty:=dc (K:=K) hs;clear q hl;left;have b1:bJ g.au H (aq H g.au (.ai l1.reverse)):=bM;have tk1:cq H (aq H g.au (.ai l1.reverse)):=b1.aj hs fun _ z=>by cases z
   have vt:=hv t cw;have sl:=X3 vt;have J:=I.pL b1 (l':=l1) (s':=r) az (aM h2 tk1);refine⟨t,v,g.aF,M0.heap,M0.kept.length,rfl,h1.keep tk1,vt,_,rfl,?_,?_⟩
   ·rw[iR,bR];show _+1<=_;lia
   ·refine⟨m,_,_,qb t++[10],?_,J,by rw[eQ];show _+1<=_;lia,fun H' J' F'=>q' H' _ J' ((Fr.dY b1 (by simp[aK,bu]) (by have e:=I.mo J;exact e)).trans F')⟩;have ea:bH (qb t)++d7 "\n"=bH (qb t++[10]):=Mt (qb t) [10];rw[ea]
theorem Ya(T:Txt K)(M:MG K mg):ZF 6 "do_load" ["machine"] (cO K (bD "load")):=by
 refine ZC T.JV A4
 ·nofun;refine⟨_,(Zq (Zs 1 A4 (Zd 0)) (aE (Zf T.hG T.gE ip (pw 1) (Zt (a8 M T.qW)))) (Zs 2 A4 (Zv (pw 0) T.Bg Mg (Zi (Zn (pw 1))))) (Zz (Zc D3 (pw 2) vf) (Zr T.wG T.Bq BH T.ww T.Bp)) (aE (Zf T.hU T.gF ic (pw 1) aS (pw 2)))),?_⟩;walk_at "as";have k0:=bA (o:=HO.aj [V.str "name"]) hk;refine⟨g.au,g.l,M0.stack,g.aF,kt,["name"],rfl,k0 _ _ hs,aM I.bh (SW.aL.aj k0),az,?_⟩;cases e:eC ["name"] M0.stack with
  |some z=>
   have:bD "load" M0=.error z:=by
    show((match M0.stack with| .lit n::r=>(match M0.look n with|some v=>M0.with_ (v::r)|none=>.error qc)|_::_=>.error dq|_=>.error cE):cD)=_;rcases iq e with⟨h1,rfl⟩|⟨h1,h2,rfl⟩
    ·match es:M0.stack,h1 with
     |[],_=>rfl
     |_::r,h1=>exact absurd h1 (by simp)
    ·match es:M0.stack,h1,h2 with
     |t::r,_,h2=>cases t<;>first|rfl|(simp[fv,ba]at h2)
     |[],h1,_=>exact absurd (by simp) h1
   walk_at "am"
  |none=>
   obtain⟨t,r,es,kd0⟩:=mM e;obtain⟨p0,rfl⟩:=re (kd0.kind (by decide));have q0:aI K m g H Q E (match M0.stack with| .lit n::r=>(match M0.look n with|some v=>M0.with_ (v::r)|none=>.error qc)|_::_=>.error dq|_=>.error cE):=q;walk_at "aa";obtain⟨a,rfl,ea⟩:=j0.lit;have ea1:=k0 _ _ ea;rw[es]at hz;rw[el]at hs1;have lz:l0.length=r.length:=hV0.length.symm;have hz2:r.length+1<=256:=hz;generalize aq H kt (.aj [.str "name"])=H1 at *;clear q hs hm ea;left;refine⟨m,g,M0,p0,rfl,I1,W,?_⟩;cases lk:M0.look p0 with
   |none=>
    have q1:Er E (-6) H:=by have h:aI K m g H Q E (match M0.look p0 with|some v=>M0.with_ (v::r)|none=>.error qc):=q0;rw[lk]at h;exact h
    simp only[B9,eq_self,if_true];right;exact Er.up q1 k0
   |some v=>
    intro x hx;have q1:aI K m g H Q E (M0.with_ (v::r)):=by have h:aI K m g H Q E (match M0.look p0 with|some v=>M0.with_ (v::r)|none=>.error qc):=q0;rw[lk]at h;exact h
    rw[du (by exact hz)]at q1;obtain⟨b,y,rfl,eb⟩:=hx.aj;right;rw[if_neg (by simp)];right;refine⟨g.au,_::l0,1,_,rfl,hs1,by simp only[aA];omega,by simp only[aA];omega,fun H' bb hp'=>?_⟩;exact aI.au I q1 k0 bb hp' fun tk=>.cons (hx.keep tk fun i n e=>by simp at e) (aM (aM hV0 (SW.aL.aj k0)) tk)
def xB(M:aY):cD:=match M.frames.dropWhile fun f=> !k9 f with|_::l=>.ok {M with frames:=l}|[]=>.error Sz07.NOLOOP
theorem xC:ZS ["machine","pile","frame"] ["machine"] wj:=by symm
theorem Yb(T:Txt K)(M:MG K mg):ZF 4 "do_exit" ["machine"] (cO K xB):=by
 refine ZC T.Bh xC
 ·nofun;refine⟨_,(Zq (Zs 1 xC (Zd 0)) (Zz (vj (iz (jL (Ab rfl) rfl (M.aO _ T.Bu) AJ (Zy (qE (own:=[("frame",2)]) rfl xC.nd (l7 (pw 1)) (by refine show kC ["machine","pile","frame"] (eU wj) _ [("frame",2)]from ?_;exact⟨rfl,by decide,by decide,by decide,by decide⟩) (fun _ _ _ _ _=>jO (i:=2) xC.nd rfl (eN rfl)) (fun _ _ _ _ _=>tq) (fun _ _ _ _ _=>(jL (AL (K:=K) rfl) rfl (M.aO _ T.Bv) AI (jz (pw 2) (jz (vg (x:="LoopFrame") (v:=.ref (ak K "LoopFrame")) rfl (M.val _ _ T.qV) rfl rfl) gq))))))) (fun _=>rfl))) (Zr T.Kj T.Um Vp T.Iu T.Ul)) (ni jB (vj (iz (jL (AL (K:=K) rfl) rfl (M.aO _ T.Bv) AI (Zy (Zn (pw 1)) (pA M T.qV))) (fun _=>rfl))) (cg (aE (iA gk ju jw jb (pw 1))))) (aE (iA gk ju jw jb (pw 1)))),?_⟩;walk_at "zh";have hp:=I.bB;have ap:=T.j4;left;refine⟨_,rfl,⟨_,bV.of hp⟩,fun D hD=>?_⟩;have pv:=I.eL.wX;have fl:g.fs.length=M0.frames.length:=I.eL.length.symm;have dp:D≠g.bB:=fun z=>by rw[z,hp]at hD;cases hD
  refine pk (K:=K) (a:=g.bB) (xs:=(g.fs.map V.ref).reverse) (fun i H'=>bJ D H H'/\H' D=some (.ai ((M0.frames.reverse.take i).map fun f=>V.bl (k9 f)))) ?_ ?_ ?_ ?_
  ·exact⟨bM,az⟩
  ·rintro i H' _ ⟨h1,_⟩;exact bV.of (h1 _ _ (cM dp) hp)
  ·rintro i x H' hx ⟨h1,h2⟩;rw[<-O2,dX]at hx;obtain⟨a,e1,rfl⟩:=jt.mp hx;obtain⟨f,e2,hf⟩:=pv.hX i a e1;obtain⟨C,dx,fs,h3,h4,h5⟩:=MK T hf;have il:i<M0.frames.reverse.length:=(cP.mp e2).1;have h6:=h1 _ _ (fun z=>by rw[z,hD]at h3;cases h3) h3;refine⟨rfl,?_⟩;simp only[lr,reduceIte];refine⟨a,_,C,dx,fs,_,rfl,h6,h4,h5,_,h2,?_,h1.trans bM,?_⟩
   ·have z2:M0.frames.length<=128:=hzf;rw[bK,eI,bN,bR];lia
   ·rw[az,m3 il,eY,(cP.mp e2).2];rfl
  ·rintro H1 ⟨h1,h2⟩;rw[bN,bK,fl,<-bN (as:=M0.frames),oO]at h2;have k0:L2.aL H H1:=fun b o e=>h1 b o (fun z=>by rw[z,hD]at e;cases e) e;have I1:=I.same k0;refine⟨D,rfl,M0.frames.reverse.map k9,bV.of (by rw[h2,pZ];rfl),_,rfl,?_⟩;have ea:(M0.frames.reverse.map k9).any id=M0.frames.any k9:=by rw[yg,Dq];rfl
   rw[ea];have q1:aI K m g H Q E (match M0.frames.dropWhile fun f=> !k9 f with|_::l=>.ok {M0 with frames:=l}|[]=>.error Sz07.NOLOOP):=q;cases an:M0.frames.any k9 with
   |false=>
    rw[show M0.frames.dropWhile (fun f=> !k9 f)=[]from pB fun f hf=>by have:=xX.mp an f hf;simpa using this]at q1;left;exact Er.up q1 k0
   |true=>
    have hp1:=I1.bB;have pv1:=I1.eL;clear q hp hm h2;left;refine oo (fun k σ' H'=>∃i,i+k=M0.frames.length/\σ'=[some (.ref m),some (.ref g.bB),none]/\bJ g.bB H1 H'/\H' g.bB=some (.ai ((g.fs.drop i).map V.ref).reverse)/\∀f∈M0.frames.take i,k9 f=false) M0.frames.length ⟨0,by lia,rfl,fun _ _ _ h=>h,by rw[k8];exact hp1,by simp⟩ ?_;rintro k σ' H' ⟨i,hi,rfl,b1,h3,h4⟩;have il:i<M0.frames.length:=by
     by_cases c:i<M0.frames.length
     ·exact c
     ·rw[r8 (by lia)]at h4;obtain⟨f,hf,e⟩:=lN.mp an;rw[h4 f hf]at e;cases e
    obtain⟨f,ef⟩:∃f,M0.frames[i]? =some f:=⟨_,f7 il⟩
    obtain⟨a,ea2,hf⟩:=pv1.get i f ef;obtain⟨C,dx,fs,h5,h6,h7⟩:=MK T hf;obtain⟨al,ea3⟩:=cP.mp ea2;have ed:g.fs.drop i=a::g.fs.drop (i+1):=by rw[uN al,ea3]
    rw[ed]at h3;have h8:=b1 _ _ (fun z=>by rw[z,hp1]at h5;cases h5) h5;have h9:H' g.bB=some (.ai (V.ref a::(g.fs.drop (i+1)).map V.ref).reverse):=h3;have ty:=dc (K:=K) h9;clear h3 hp1 h5;left;refine⟨a,_,C,dx,fs,_,rfl,h8,h6,h7,_,rfl,?_⟩;cases il2:k9 f with
    |false=>
     refine(if_pos (by rfl)).mpr ?_;right;refine lE ?_;left;refine⟨k-1,by lia,i+1,by lia,b1.trans bM,rfl,fun u hu=>?_⟩;rw[m3 il]at hu;rcases cS.mp hu with z|z
     ·exact h4 u z
     ·rw[eR.mp z,(cP.mp ef).2];exact il2
    |true=>
     refine(if_neg (by decide)).mpr ?_;right;left;rw[ML (p:=fun f=> !k9 f) (i:=i) (fun u hu=>by rw[h4 u hu];rfl) ef (by rw[il2];rfl),uN il]at q1;have b2:bJ g.bB H1 (aq H' g.bB (.ai ((g.fs.drop (i+1)).map V.ref).reverse)):=b1.trans bM;have J:=I1.BZ (i+1) b2 az;exact q1 _ _ J ((Fr.same k0).trans (B0 (i+1) (I1.mo J) b2))
theorem xD(H:Hp)(p:ae)(o:HO)(b:ae):aq H p o b=if b=p then some o else H b:=rfl
theorem mU(g:G)(h:b9):(ee g h).lookup ("check_array_room":af)=none/\(ee g h).lookup ("make_array":af)=none/\(ee g h).lookup ("make_table":af)=none/\(ee g h).lookup ("put_item":af)=none/\(ee g h).lookup ("put_name":af)=none/\(ee g h).lookup ("keep_state":af)=none/\(ee g h).lookup ("state_of":af)=none/\(ee g h).lookup ("bring_back":af)=none/\(ee g h).lookup ("share_all":af)=none:=
 ⟨rfl,rfl,rfl,rfl,rfl,rfl,rfl,rfl,rfl⟩
def xE(g:G)(n:Int):List (af×V):=[("arrays",.ref g.aG),("tables",.ref g.aD),("states",.ref g.bQ),("states_made",.int g.made),("held",.int n),("own_arrays",.ref g.bI),("own_tables",.ref g.bz)]
theorem Yc(g:G)(h:b9):ee g h=xE g (dI h):=rfl
theorem Ck(g:G)(h:b9)(n:Int):aQ "held" (.int n) (ee g h)=xE g n:=rfl
theorem Yd(g:G)(n:Int):(xE g n).lookup ("arrays":af)=some (.ref g.aG):=rfl
theorem Ye{h:b9}{xs:List aB}:dI {h with arrays:=h.arrays++[xs]}=dI h+(xs.length:Nat):=by
 unfold dI;rw[eY,List.sum_append];simp
def Yf(n:Int)(ar tb:ae)(hd:Int):List (af×V):=[("number",.int n),("arrays",.ref ar),("tables",.ref tb),("held",.int hd)]
inductive MO(K:ax)(vs:List V)(H:Hp)(Q:VK)(E:XK):Prop
 |mk:∀a dx n ar tb hd,(vs=[.ref a,.int n,.ref ar,.ref tb,.int hd])->(H a=some (.aP (ak K "State") dx []))->(∀H',bJ a H H'->H' a=some (.aP (ak K "State") dx (Yf n ar tb hd))->Q .aO H')->MO K vs H Q E
def Yg(K:ax):Sp:=fun vs H Q E=>MO K vs H Q E
def full(h:b9)(n:Int):Prop:=256<=h.arrays.length\/2048<dI h+n
instance {h:b9}{n:Int}:Decidable (full h n):=by unfold full;exact inferInstance
inductive MP(K:ax)(vs:List V)(H:Hp)(Q:VK)(E:XK):Prop
 |mk:∀m g M n,(vs=[.ref g.aZ,.int n])->(MI K (bc K) m g M H)->(if full M.heap n then Er E (-7) H else Q .aO H)->MP K vs H Q E
def Yh(K:ax):Sp:=fun vs H Q E=>MP K vs H Q E
inductive MQ(K:ax)(vs:List V)(H:Hp)(Q:VK)(E:XK):Prop
 |mk:∀m g M t ws xs,(vs=[.ref g.aZ,.ref t])->(MI K (bc K) m g M H)->(Wf M)->(H t=some (.ai ws))->(aX (bF H []) xs ws)->(t∉aK m g)->(if full M.heap xs.length then Er E (-7) H else
 ∀a H',(∀b o,b≠g.aG->b≠g.aZ->H b=some o->H' b=some o)->MI K (bc K) m {g with items:=g.items++[t],bx:=t::g.bx} {M with heap:={M.heap with arrays:=M.heap.arrays++[xs]}} H'->H' a=some (.aj [.str "array",.int (M.heap.arrays.length:Nat)])->Q (.ref a) H')->MQ K vs H Q E
def Yi(K:ax):Sp:=fun vs H Q E=>MQ K vs H Q E
inductive MR(K:ax)(vs:List V)(H:Hp)(Q:VK)(E:XK):Prop
 |mk:∀m g M,(vs=[.ref g.aZ])->(MI K (bc K) m g M H)->(Wf M)->(if 32<=M.heap.tables.length then Er E (-7) H else
 ∀a t H',H t=none->bJ g.aD H H'->MI K (bc K) m {g with bg:=g.bg++[t],bx:=t::g.bx} {M with heap:={M.heap with tables:=M.heap.tables++[[]]}} H'->H' a=some (.aj [.str "table",.int (M.heap.tables.length:Nat)])->Q (.ref a) H')->MR K vs H Q E
def Yj(K:ax):Sp:=fun vs H Q E=>MR K vs H Q E
inductive MS(K:ax)(vs:List V)(H:Hp)(Q:VK)(E:XK):Prop
 |mk:∀a dx fs,(vs=[.ref a])->(H a=some (.aP (ak K "Store") dx fs))->(fs.length<900)->(∀d1 d2 H',H d1=none->H d2=none->d1≠d2->bJ a H H'->H' d1=some (.dK [])->H' d2=some (.dK [])->H' a=some (.aP (ak K "Store") dx (aQ "own_tables" (.ref d2) (aQ "own_arrays" (.ref d1) fs)))->Q .aO H')->MS K vs H Q E
def Yk(K:ax):Sp:=fun vs H Q E=>MS K vs H Q E
theorem xF{c:Prop}[Decidable c]{a:HO}{b:Option HO}(h:(if c then some a else b)=none):¬c/\b=none:=by
 by_cases z:c
 ·rw[if_pos z]at h;cases h
 ·rw[if_neg z]at h;exact⟨z,h⟩
theorem Cm{f:af}{v:V}:∀{fs:List (af×V)},(aQ f v fs).length<=fs.length+1
 |[]=>by simp[aQ]
 |(g,x)::r=>by
  unfold aQ;split
  ·simp
  ·have:=Cm (f:=f) (v:=v) (fs:=r);simp;omega
local macro_rules| `(tactic|walk_at "rd0")=>`(tactic|simp only[b3,aQ,mU,xD,Ck,Yd,Nat.reduceLT, *])
theorem Yl(T:Txt K)(M:MG K mg):ZM 1 "State" "__init__" ["self","number","arrays","tables","held"] (Yg K):=by
 refine ZB T.IV Tn
 ·obtain⟨a,dx,n,ar,tb,hd,rfl,_⟩:=h;rfl
 ·obtain⟨a,dx,n,ar,tb,hd,rfl,ha,q⟩:=h;refine⟨_,(Zq (ij (pw 0) (pw 1) rfl) (ij (pw 0) (pw 2) rfl) (ij (pw 0) (pw 3) rfl) (ij (pw 0) (pw 4) rfl)),?_⟩;have hc:=T.wJ;have h1:=T.wN;have h2:=T.wO;have h3:=T.wQ;have h4:=T.wR;exact i4 ha hc h1 rfl (i4 az hc h2 rfl (i4 az hc h3 rfl (i4 az hc h4 rfl (q _ (bM.trans (bM.trans (bM.trans bM))) az))))
theorem MT(T:Txt K)(M:MG K mg):ZM 1 "Store" "share_all" ["self"] (Yk K):=by
 refine ZB T.Be.df Tv
 ·obtain⟨a,dx,fs,rfl,_⟩:=h;rfl
 ·obtain⟨a,dx,fs,rfl,ha,hl,q⟩:=h;refine⟨_,(Zk (fV (pv 0) qJ rfl) (fV (pv 0) qJ rfl)),?_⟩;have hc:=T.fF;have h1:=T.ly;have h2:=T.lA;have hl2:=eO hl (show 900<=1000 by decide);left;intro p hp;have n1:¬a=p:=bw ha hp;refine⟨_,_,_,if_neg n1,hc,h1,by omega,fun p2 hp2=>?_⟩;have n2:¬p2=a:=fun z=>by rw[if_pos z]at hp2;cases hp2
  rw[if_neg n2]at hp2;have n3:¬p2=p:=fun z=>by rw[if_pos z]at hp2;cases hp2
  rw[if_neg n3]at hp2;refine⟨_,_,_,if_neg (fun z=>n2 z.symm),hc,h2,?_,?_⟩
  ·have:=Cm (f:="own_arrays") (v:=.ref p) (fs:=fs);omega
  ·refine q p p2 _ hp hp2 (fun z=>n3 z.symm) (fun b o n e=>by rw[aJ n,aJ (bw e hp2),aJ n,aJ (bw e hp)];exact e) ?_ ?_ az
   ·rw[aJ (fun z=>n1 z.symm),aJ (fun z=>n3 z.symm),aJ (fun z=>n1 z.symm)];exact az
   ·rw[aJ n2];exact az
theorem MU(T:Txt K)(M:MG K mg):ZM 4 "Store" "check_array_room" ["self","how_many"] (Yh K):=by
 refine ZB T.Bb.df Tq
 ·obtain⟨m,g,M0,n,rfl,_⟩:=h;rfl
 ·obtain⟨m,g,M0,n,rfl,I,q⟩:=h;refine⟨_,(cg (Zz (PW.pt (vi (Zc jF (Zl dD (Zd 0)) (a8 M T.UQ)) (vh (Zc kP (cT mG (Zd 0) (pw 1)) (a8 M T.UR))))) (Zr T.kM T.lw lF T.kK T.lv))),?_⟩;walk_at "ac";have il:(g.items.map V.ref).length=M0.heap.arrays.length:=by rw[bK];exact I.si.fu.length.symm
  have dl:(g.bg.map V.ref).length=M0.heap.tables.length:=by rw[bK];exact I.si.fb.length.symm
  left;by_cases c1:256<=M0.heap.arrays.length
  ·rw[if_pos (by lia)];right;rw[if_pos (.inl c1)]at q;exact q
  ·rw[if_neg (by lia)];right;by_cases c2:2048<dI M0.heap+n
   ·rw[if_pos c2];right;rw[if_pos (.inr c2)]at q;exact q
   ·rw[if_neg c2];right;rw[if_neg (by rintro(z|z);exact c1 z;exact c2 z)]at q;exact q
theorem MV(T:Txt K)(M:MG K mg):ZM 5 "Store" "make_array" ["self","things"] (Yi K):=by
 refine ZB T.Bc.df Tr
 ·obtain⟨m,g,M0,t,ws,xs,rfl,_⟩:=h;rfl
 ·obtain⟨m,g,M0,t,ws,xs,rfl,I,W,hw,hx,nt,q⟩:=h;refine⟨_,(Zq (aE (Zv (pw 0) T.Bb MU (Zl dD (pw 1)))) (aE (Za iP (Zd 0) (pw 1))) (nu (pw 0) (Zl dD (pw 1)) pj) (dh (Zt (a8 M T.pJ) (cT ig (Zl dD (Zd 0)) aS)))),?_⟩;walk_at "ac";have il:(g.items.map V.ref).length=M0.heap.arrays.length:=by rw[bK];exact I.si.fu.length.symm
  have dl:(g.bg.map V.ref).length=M0.heap.tables.length:=by rw[bK];exact I.si.fb.length.symm
  have wl:ws.length=xs.length:=hx.length.symm;have f:=jg nt;left;refine⟨m,g,M0,_,rfl,I,?_⟩;by_cases c:full M0.heap (xs.length:Nat)
  ·rw[if_pos c]at q;rw[if_pos c];right;exact q
  ·rw[if_neg c]at q;walk_at "ap";have n1:¬g.aZ=g.aG:=bG I.dk 4 6 rfl rfl (by decide);have n2:¬g.aG=g.aZ:=fun z=>n1 z.symm;have n3:¬t=g.aG:=fun z=>f.1 (by rw[z];simp[bu]);have n4:¬t=g.aZ:=fun z=>f.1 (by rw[z];simp[bu]);have ty:=dc (K:=K) ha;have hsz:M0.heap.arrays.length<sizeLine:=by
    have:¬256<=M0.heap.arrays.length:=fun z=>c (.inl z);rw[bR];lia
   left;refine⟨by show 7<1000;decide,?_⟩;right;refine⟨by rw[bR];decide,fun p hp=>?_⟩;obtain⟨m1,hp⟩:=xF hp;obtain⟨m2,hp⟩:=xF hp;have hk:∀b o,b≠g.aG->b≠g.aZ->H b=some o->aq (aq (aq H g.aG (HO.ai (kq V.ref g.items++[V.ref t]))) g.aZ (HO.aP (ak K "Store") g.d9 (xE g (dI M0.heap+(xs.length:Nat))))) p (HO.aj [V.str "array",V.int (((g.items.map V.ref++[V.ref t]).length:Nat)-1)]) b=some o:=fun b o n1 n2 e=>by
    rw[aJ (bw e hp),aJ n2,aJ n1];exact e
   refine q p _ hk (I.V2 hw hx nt hk ?_ ?_) ?_
   ·rw[aJ (fun z=>m2 z.symm),aJ n2,az,eY];rfl
   ·rw[aJ (fun z=>m1 z.symm),az,Yc,Ye]
   ·rw[az,eQ,il];simp
theorem Ym(T:Txt K)(M:MG K mg):ZM 4 "Store" "make_table" ["self"] (Yj K):=by
 refine ZC T.IY.df Ts
 ·nofun;refine⟨_,(Zq (Zz (Zc jF (Zl dD (Zd 0)) (a8 M T.US)) (Zr T.kM T.lw lF T.kK T.lv)) (aE (Za iP (Zd 0) qJ)) (dh (Zt (a8 M T.pK) (cT ig (Zl dD (Zd 0)) aS)))),?_⟩;walk_at "ac";have il:(g.items.map V.ref).length=M0.heap.arrays.length:=by rw[bK];exact I.si.fu.length.symm
  have dl:(g.bg.map V.ref).length=M0.heap.tables.length:=by rw[bK];exact I.si.fb.length.symm
  left;by_cases c:32<=M0.heap.tables.length
  ·rw[if_pos (by lia)];right;rw[if_pos c]at q;exact q
  ·rw[if_neg (by lia)];right;rw[if_neg c]at q;refine⟨dc ht,fun p hp=>?_⟩;have n1:¬g.aZ=g.aD:=bG I.dk 4 7 rfl rfl (by decide);have n2:¬g.aD=p:=bw ht hp;have n3:¬g.aZ=p:=bw hs hp;have hsz:M0.heap.tables.length<sizeLine:=by rw[bR];lia
   left;refine⟨by rw[bR];decide,fun p2 hp2=>?_⟩;obtain⟨m1,hp2⟩:=xF hp2;obtain⟨m2,hp2⟩:=xF hp2;have k1:=bA (o:=HO.dK []) hp;have hk:bJ g.aD (aq H p (.dK [])) (aq (aq (aq H p (HO.dK [])) g.aD (HO.ai (kq V.ref g.bg++[V.ref p]))) p2 (HO.aj [V.str "table",V.int (((g.bg.map V.ref++[V.ref p]).length:Nat)-1)])):=bM.same (bA (by rw[aJ m1,aJ m2];exact hp2));refine q p2 p _ hp (SW.aL.dY k1 hk) ((I.same k1).V3 az (fG I hp) hk ?_) ?_
   ·rw[aJ (fun z=>m1 z.symm),az,eY];rfl
   ·rw[az,eQ,dl];simp
theorem Cn:(ZE "body" "turns" "number" "stride" "last" "array" "place" "things")/\(ZE "turns" "body" "number" "stride" "last" "array" "place" "things")/\(ZE "number" "body" "turns" "stride" "last" "array" "place" "things")/\(ZE "stride" "body" "turns" "number" "last" "array" "place" "things")/\(ZE "last" "body" "turns" "number" "stride" "array" "place" "things")/\(ZE "array" "body" "turns" "number" "stride" "last" "place" "things")/\(ZE "place" "body" "turns" "number" "stride" "last" "array" "things")/\(ZE "things" "body" "turns" "number" "stride" "last" "array" "place")/\(ZE "turn_with" "body" "turns" "number" "stride" "last" "array" "place" "things")/\(ZE "is_past" "body" "turns" "number" "stride" "last" "array" "place" "things")/\(ZE "check_frame_room" "body" "turns" "number" "stride" "last" "array" "place" "things"):=by
 (repeat' apply xQ)<;>decide
section
variable{K:ax}{wkv:List (Key×V)}{m:ae}{g:G}{M:aY}{H H':Hp}
theorem MI.Co(I:MI K wkv m g M H){i:Nat}{a:ae}{f':cZ}(ei:g.fs[i]? =some a)(b:bJ a H H')(hf:gG K H' f' a):MI K wkv m g {M with frames:=M.frames.set i f'} H':=by
 obtain⟨f,ef,q⟩:=I.eL.hX i a ei;obtain⟨C,dx,fl,ea⟩:=q.aP;have tk:cq H H':=b.aj ea fun _ z=>by cases z
 have ma:a∈g.fs:=dR ei;have nd:=I.ib;unfold var at nd;rw[mY]at nd;have o1:a∉bu m g:=fun z=>I.dj a z (c7 _ ma);have o3:a∉g.bx:=fun z=>nd.2.2 a ma a (c7 _ z) rfl;have o4:a∉g.sg.flatMap (fun s:SG=>[s.a,s.aG,s.aD]):=fun z=>nd.2.2 a ma a (bX _ z) rfl;have nx:∀j {c:ae},(bu m g)[j]? =some c->c≠a:=fun j c h z=>o1 (z▸dR h)
 have n1:a∉[g.aZ,g.aG,g.aD,g.bQ,g.bI,g.bz]:=by
  simp only[br,gK,or_false,not_or];exact⟨cM (nx 4 rfl),cM (nx 6 rfl),cM (nx 7 rfl),cM (nx 8 rfl),cM (nx 9 rfl),cM (nx 10 rfl)⟩
 exact⟨b _ _ (nx 0 rfl) I.cy,b _ _ (nx 11 rfl) I.fY,b _ _ (nx 1 rfl) I.au,aM I.bh tk,b _ _ (nx 2 rfl) I.bB,BP I.eL i ei nd.1 (fun u c _ n q=>q.keep tk fun o=>b c o n) hf,b _ _ (nx 3 rfl) I.dC,b _ _ (nx 5 rfl) I.sd,I.si.dY (m:=m) tk b n1 o3 o4,fun c hc=>let⟨u,e⟩:=I.ia c hc;⟨u,b c u (fun z=>o3 (z▸hc)) e⟩,I.dk,I.ib,I.dj,I.mb⟩
theorem rC{x:ae}{l':List V}(hm:∀v,fP (aK m g) H=some v->fP (aK m {g with l:=l',fs:=x::g.fs}) H'=some v)(hx:H x=none)(hk:∀b o,b∉aK m g->H b=some o->H' b=some o):Fr (aK m g) H (aK m {g with l:=l',fs:=x::g.fs}) H':=by
 refine⟨fun b o e n=>hk b o n e,fun b hb=>?_,rfl,hm⟩;have hb':b∈bu m g++(x::g.fs++(g.bx++g.sg.flatMap fun s=>[s.a,s.aG,s.aD])):=hb;rcases cS.mp hb' with z|z
 ·exact .inl (c7 _ z)
 ·rw[jn]at z;rcases br.mp z with z|z
  ·exact .inr (z▸hx)
  ·exact .inl (bX _ z)
end
inductive MW(K:ax)(P:cZ->Prop)(vs:List V)(H:Hp)(Q:VK)(E:XK):Prop
 |mk:∀m g M a fs f fr r,(vs=[.ref a,.ref m])->(MI K (bc K) m g M H)->(Wf M)->(g.fs=a::fs)->(M.frames=f::fr)->(P f)->(fj M=some r)->(iQ K m g M H Q E r)->MW K P vs H Q E
def ub(K:ax)(P:cZ->Prop):Sp:=fun vs H Q E=>MW K P vs H Q E
inductive MX(K:ax)(vs:List V)(H:Hp)(Q:VK)(E:XK):Prop
 |mk:∀m g M t v,(vs=[.ref m,v])->(MI K (bc K) m g M H)->(bF H g.aF t v)->(M.stack.length<=256)->(if 256<=M.stack.length then Er E (-7) H else ∀H',bJ g.au H H'->MI K (bc K) m {g with l:=v::g.l} {M with stack:=t::M.stack} H'->Q .aO H')->MX K vs H Q E
def Yn(K:ax):Sp:=fun vs H Q E=>MX K vs H Q E
inductive MY(K:ax)(c:af)(vs:List V)(H:Hp)(Q:VK)(E:XK):Prop
 |mk:∀(m:ae)(g:G)(M:aY)(a dx p:ae)(ws:List V)(b:List aB)(rest:List (af×V))(t:aB)(x:V),(vs=[.ref a,.ref m,x])->(MI K (bc K) m g M H)->(Wf M)->(a∈g.fs)->(H a=some (.aP (ak K c) dx (("body",.ref p)::rest)))->(H p=some (.aj ws))->(aX (bF H []) b ws)->(bF H [] t x)->(if 128<=M.frames.length\/256<=M.stack.length then Er E (-7) H else ∀H' y,H y=none->(∀b o,b≠g.bB->b≠g.au->H b=some o->H' b=some o)->MI K (bc K) m {g with l:=x::g.l,fs:=y::g.fs} {M with stack:=t::M.stack,frames:=.code b::M.frames} H'->Q .aO H')->MY K c vs H Q E
def MZ(K:ax)(c:af):Sp:=fun vs H Q E=>MY K c vs H Q E
inductive M3(K:ax)(vs:List V)(H:Hp)(Q:VK)(E:XK):Prop
 |mk:∀(a dx p:ae)(x y z:Int),(vs=[.ref a])->(H a=some (.aP (ak K "ForFrame") dx [("body",.ref p),("number",.int x),("stride",.int y),("last",.int z)]))->(y≠0)->(Q (.bl (decide ((0<y/\z<x)\/(y<0/\x<z)))) H)->M3 K vs H Q E
def Yo(K:ax):Sp:=fun vs H Q E=>M3 K vs H Q E
def Yp:cZ->Prop
 | .code _=>True
 |_=>False
def Yq:cZ->Prop
 | .times _ _=>True
 |_=>False
def Yr:cZ->Prop
 | .again _=>True
 |_=>False
def Ys:cZ->Prop
 | .count _ _ _ _=>True
 |_=>False
def Yt:cZ->Prop
 | .each _ _ _=>True
 |_=>False
theorem Yu{M:aY}{b:List aB}{fr:List cZ}(h:M.frames=.again b::fr):fj M=some (M.frame M.stack (.code b)):=by unfold fj;rw[h]
theorem uc{M:aY}{s:List aB}{f:cZ}(h:128<=M.frames.length):M.frame s f=.error (-7):=by unfold C3;exact if_pos (show C4<=M.frames.length from h)
theorem ud{M:aY}{s:List aB}{f:cZ}(h:¬128<=M.frames.length):M.frame s f=.ok {M with stack:=s,frames:=f::M.frames}:=by unfold C3;exact if_neg (show ¬C4<=M.frames.length from h)
theorem Yv{M:aY}{b:List aB}{fr:List cZ}(h:M.frames=.times 0 b::fr):fj M=some (.ok {M with frames:=fr}):=by unfold fj;rw[h]
theorem Yw{M:aY}{k:Nat}{b:List aB}{fr:List cZ}(h:M.frames=.times (k+1) b::fr):fj M=some (({M with frames:=.times k b::fr}:aY).frame M.stack (.code b)):=by unfold fj;rw[h]
theorem Yx{M:aY}{x y z:Int}{b:List aB}{fr:List cZ}(h:M.frames=.count x y z b::fr)(c:(0<y/\z<x)\/(y<0/\x<z)):fj M=some (.ok {M with frames:=fr}):=by unfold fj;rw[h];exact congrArg some (if_pos c)
theorem Yy{M:aY}{x y z:Int}{b:List aB}{fr:List cZ}(h:M.frames=.count x y z b::fr)(c:¬((0<y/\z<x)\/(y<0/\x<z))):fj M=some (if 256<=M.stack.length then .error (-7)else({M with frames:=.count (x+y) y z b::fr}:aY).frame (.int x::M.stack) (.code b)):=by unfold fj;rw[h];exact congrArg some (if_neg c)
theorem Yz{M:aY}{k i:Nat}{b:List aB}{fr:List cZ}(h:M.frames=.each k i b::fr)(c:(M.heap.arrays.getD k [])[i]? =none):fj M=some (.ok {M with frames:=fr}):=by unfold fj;rw[h];show some (match(M.heap.arrays.getD k [])[i]? with|none=>_|some v=>_)=_;rw[c]
theorem YA{M:aY}{k i:Nat}{v:aB}{b:List aB}{fr:List cZ}(h:M.frames=.each k i b::fr)(c:(M.heap.arrays.getD k [])[i]? =some v):fj M=some (if 256<=M.stack.length then .error (-7)else({M with frames:=.each k (i+1) b::fr}:aY).frame (v::M.stack) (.code b)):=by unfold fj;rw[h];show some (match(M.heap.arrays.getD k [])[i]? with|none=>_|some v=>_)=_;rw[c];rfl
theorem xG{m a:ae}{g:G}{fs:List ae}(ef:g.fs=a::fs):a∈aK m g:=bX _ (c7 _ (by rw[ef];exact cw))
theorem xH{K:ax}{m a:ae}{g:G}{M:aY}{H:Hp}{Q:VK}{E:XK}{fs:List ae}{f:cZ}{fr:List cZ}(ef:g.fs=a::fs)(em:M.frames=f::fr)(I:MI K (bc K) m g M H)(q:iQ K m g M H Q E (.ok {M with frames:=fr})):Q .aO (aq H g.bB (.ai (fs.map V.ref).reverse)):=by
 have b1:bJ g.bB H (aq H g.bB (.ai (fs.map V.ref).reverse)):=bM;have J:=I.BZ 1 b1 (by rw[ef];exact az);have e2:M.frames.drop 1=fr:=by rw[em];rfl
 rw[e2]at J;exact q _ _ J (B0 1 (I.mo J) b1)
theorem anl{c:Prop}[Decidable c]{a b:Prop}(h:c)(x:a):if c then a else b:=by rw[if_pos h];exact x
local macro_rules| `(tactic|walk_at "rd0")=>`(tactic|simp only[b3,aQ,vF,Cn,beq_self_eq_true,Nat.reduceLT, *])
theorem YB(T:Txt K)(M:MG K mg):ZM 6 "LoopFrame" "advance" ["self","machine"] (ub K Yr):=by
 refine ZB T.IA.df Tb
 ·obtain⟨m,g,M0,a,fs,f,fr,r,rfl,_⟩:=h;rfl
 ·obtain⟨m,g,M0,a,fs,f,fr,r,rfl,I,W,ef,em,hf,hr0,q⟩:=h;refine⟨_,(cg (aE (Zv (pw 1) T.nQ pQ (Zm T.mz mL T.my T.lu (Zd 0))))),?_⟩;walk_at "at";have ap:=T.j4;have hp:=I.bB;have pv:=I.eL;rw[ef,em]at pv;rw[ef]at hp;have hzf:M0.frames.length<=128:=W.aR.frames;match f,hf,pv with
  | .again b,_,.cons pv pt=>
   obtain⟨dx,p,ws,h1,h2,h3⟩:=pv;have cf:=T.Kn;have a1:=T.KA;rw[Yu em]at hr0;cases hr0;left;intro x dx2 hx hdx nx;refine⟨x,dx2,p,rfl,az,fun H2 bb h9=>⟨rfl,?_⟩⟩;have k0:=iD hx hdx bb;have I2:=I.same k0;refine⟨m,g,M0,.code b,x,rfl,I2,⟨dx2,p,ws,0,h9,k0 _ _ h2,cI _,by rw[k8];exact aM h3 (SW.aL.aj k0)⟩,fG I hx,hzf,?_⟩;by_cases c:128<=M0.frames.length
   ·rw[uc c]at q;rw[if_pos c];right;exact iQ.er (fr:=M0.frames) q I2 (Fr.same k0)
   ·rw[ud c]at q;walk_at "ap";intro H' b2 J;exact q H' _ J (rC (I.mo J) hx fun c o n e=>b2 c o (fun z=>n (by rw[z];simp[aK,bu])) (k0 c o e))
theorem YC(T:Txt K)(M:MG K mg):ZM 6 "RepeatFrame" "advance" ["self","machine"] (ub K Yq):=by
 refine ZB T.IC.df Td
 ·obtain⟨m,g,M0,a,fs,f,fr,r,rfl,_⟩:=h;rfl
 ·obtain⟨m,g,M0,a,fs,f,fr,r,rfl,I,W,ef,em,hf,hr0,q⟩:=h;refine⟨_,(Zq (fB (Zc dz (Zd 0) aS) (Zq (aE (iA gk ju jw jb (Ze (pw 1)))) vn) lT) (aE (Zv (pw 1) T.nQ pQ (Zm T.mz mL T.my T.lu (Zd 0)))) (nu (pw 0) aS QG)),?_⟩;walk_at "at";have ap:=T.j4;have hp:=I.bB;have pv:=I.eL;rw[ef,em]at pv;rw[ef]at hp;have hzf:M0.frames.length<=128:=W.aR.frames;match f,hf,pv with
  | .times n b,_,.cons pv pt=>
   obtain⟨dx,p,ws,h1,h2,h3⟩:=pv;have cf:=T.Ko;have a1:=T.KC;have a2:=T.KD;have ty:=dc (K:=K) hp;left;by_cases c0:n=0
   ·subst c0;rw[if_pos (by rfl)];right;rw[Yv em]at hr0;cases hr0;exact xH ef em I q
   ·rw[if_neg (by lia)];right;obtain⟨k,rfl⟩:∃k,n=k+1:=⟨n-1,by lia⟩;rw[Yw em]at hr0;cases hr0;intro x dx2 hx hdx nx;refine⟨x,dx2,p,rfl,az,fun H2 bb h9=>⟨rfl,?_⟩⟩;have k0:=iD hx hdx bb;have I2:=I.same k0;refine⟨m,g,M0,.code b,x,rfl,I2,⟨dx2,p,ws,0,h9,k0 _ _ h2,cI _,by rw[k8];exact aM h3 (SW.aL.aj k0)⟩,fG I hx,hzf,?_⟩;have el:({M0 with frames:=.times k b::fr}:aY).frames.length=M0.frames.length:=by rw[em];rfl
    by_cases c:128<=M0.frames.length
    ·rw[uc (by rw[el];exact c)]at q;rw[if_pos c];right;exact iQ.er (fr:=M0.frames) q I2 (Fr.same k0)
    ·rw[ud (by rw[el];exact c)]at q;walk_at "ap";intro H' b2 J;have h10:=b2 _ _ (fun z=>by rw[z,hp]at h1;cases h1) (k0 _ _ h1);right;have tk:cq H H':=fun c xs e=>b2 c _ (fun z=>by rw[z,hp]at e;cases e) (k0 c _ e);have tk2:cq H' (aq H' a (.aP (ak K "RepeatFrame") dx [("body",V.ref p),("turns",.int (k:Nat))])):=(bM (o:=HO.aP (ak K "RepeatFrame") dx [("body",V.ref p),("turns",.int (k:Nat))])).aj h10 fun _ z=>by cases z
     have J2:=J.Co (i:=1) (a:=a) (f':=.times k b) (by show(x::g.fs)[1]? =_;rw[ef];rfl) (H':=aq H' a (.aP (ak K "RepeatFrame") dx [("body",V.ref p),("turns",.int (k:Nat))])) bM ⟨dx,p,ws,az,tk2 _ _ (tk _ _ h2),aM h3 fun c xs e=>tk2 c xs (tk c xs e)⟩;have e1:(uT b::M0.frames).set 1 (.times k b)=.code b::.times k b::fr:=by rw[em];rfl
     have e2:aQ "turns" (V.int (((k+1:Nat):Int)-1)) [("body",V.ref p),("turns",V.int ((k+1:Nat):Int))]=([("body",V.ref p),("turns",.int (k:Nat))]:List (af×V)):=by
      show([("body",V.ref p),("turns",V.int (((k+1:Nat):Int)-1))]:List (af×V))=_;rw[show((k+1:Nat):Int)-1=(k:Nat)by lia]
     rw[show((k+1:Nat):Int)-1=(k:Nat)by lia];rw[show({M0 with frames:=(uT b::M0.frames).set 1 (.times k b)}:aY)={M0 with frames:=.code b::.times k b::fr}by rw[e1]]at J2;exact q _ _ J2 (rC (I.mo J2) hx fun c o n e=>by
      rw[aJ (fun z=>n (by rw[z];exact xG ef))];exact b2 c o (fun z=>n (by rw[z];simp[aK,bu])) (k0 c o e))
theorem M4(T:Txt K)(M:MG K mg):ZM 4 "Machine" "push" ["self","thing"] (Yn K):=by
 refine ZB T.jd.df GH
 ·obtain⟨m,g,M0,t,v,rfl,_⟩:=h;rfl
 ·obtain⟨m,g,M0,t,v,rfl,I,ht,hz,q⟩:=h;refine⟨_,(Zq (Zz (Zc jF (Zl dD (Zd 0)) (a8 M T.Bt)) (Zr T.kM T.lw lF T.kK T.lv)) (aE (Za iP (Zd 0) (pw 1)))),?_⟩;walk_at "at";have ha:=T.gA;have hs:=I.au;have hl:g.l.length=M0.stack.length:=I.bh.length.symm;have ty:=dc (K:=K) hs;left;rw[bN,hl];by_cases c:256<=M0.stack.length
  ·rw[if_pos c]at q;rw[if_pos (by omega)];right;exact q
  ·rw[if_neg c]at q;rw[if_neg (by omega)];right;have b1:bJ g.au H (aq H g.au (.ai (g.l.reverse++[v]))):=bM;have tk:=b1.aj hs fun _ z=>by cases z
   exact⟨by rw[bR,bN];omega,q _ b1 (I.pL b1 (by rw[kn];exact az) (.cons (ht.keep tk) (aM I.bh tk)))⟩
theorem YD(T:Txt K)(M:MG K mg):ZM 6 "ForFrame" "turn_with" ["self","machine","thing"] (MZ K "ForFrame"):=by
 refine ZB T.KO.df FX
 ·obtain⟨m,g,M0,a,dx,p,ws,b,rest,t,x,rfl,_⟩:=h;rfl
 ·obtain⟨m,g,M0,a,dx,p,ws,b,rest,t,x,rfl,I,W,ma,h1,h2,h3,ht,q⟩:=h;refine⟨_,(Zq (aE (Zw (pw 1) T.wy BN)) (aE (Zv (pw 1) T.jd M4 (pw 2))) (aE (Zv (pw 1) T.nQ pQ (Zm T.mz mL T.my T.lu (Zd 0))))),?_⟩;walk_at "at";have cf:=T.wH;have a1:=T.KG;left;refine⟨m,g,M0,rfl,I,?_⟩;by_cases c:128<=M0.frames.length
  ·rw[if_pos (.inl c)]at q;rw[if_pos c];right;exact q
  ·walk_at "ap";refine⟨m,g,M0,t,x,rfl,I,ht.keep (fun _ _ h=>h) (fun i n e=>by simp at e),W.aR.stack,?_⟩;by_cases c2:256<=M0.stack.length
   ·rw[if_pos (.inr c2)]at q;rw[if_pos c2];right;exact q
   ·rw[if_neg (by rintro(z|z);exact c z;exact c2 z)]at q;rw[if_neg c2];right;intro H1 b1 J1;have tk:=b1.aj I.au fun _ z=>by cases z
    have ha1:=b1 a _ (fun z=>by rw[z,I.au]at h1;cases h1) h1;have jm:=J1.cy;left;refine fun y dx2 hy hdx ny=>?_;refine⟨y,dx2,p,rfl,az,fun H2 bb h9=>⟨rfl,?_⟩⟩;have k0:=iD hy hdx bb;have J2:=J1.same k0;refine⟨m,_,_,.code b,y,rfl,J2,⟨dx2,p,ws,0,h9,k0 _ _ (tk _ _ h2),cI _,by rw[k8];exact aM h3 fun c xs e=>k0 c _ (tk c xs e)⟩,fG J1 hy,W.aR.frames,?_⟩;walk_at "ap";intro H' b2 J;refine q H' y ?_ (fun c o n1 n2 e=>b2 c o n1 (k0 c o (b1 c o n2 e))) J;cases e:H y with
    |none=>rfl
    |some o=>
     by_cases z:y=g.au
     ·rw[z]at hy;have:=J1.au;rw[hy]at this;cases this
     ·rw[b1 y o z e]at hy;cases hy
theorem YE(T:Txt K)(M:MG K mg):ZM 6 "ForallFrame" "turn_with" ["self","machine","thing"] (MZ K "ForallFrame"):=by
 refine ZB T.KP.df FX
 ·obtain⟨m,g,M0,a,dx,p,ws,b,rest,t,x,rfl,_⟩:=h;rfl
 ·obtain⟨m,g,M0,a,dx,p,ws,b,rest,t,x,rfl,I,W,ma,h1,h2,h3,ht,q⟩:=h;refine⟨_,(Zq (aE (Zw (pw 1) T.wy BN)) (aE (Zv (pw 1) T.jd M4 (pw 2))) (aE (Zv (pw 1) T.nQ pQ (Zm T.mz mL T.my T.lu (Zd 0))))),?_⟩;walk_at "at";have cf:=T.wI;have a1:=T.KI;left;refine⟨m,g,M0,rfl,I,?_⟩;by_cases c:128<=M0.frames.length
  ·rw[if_pos (.inl c)]at q;rw[if_pos c];right;exact q
  ·walk_at "ap";refine⟨m,g,M0,t,x,rfl,I,ht.keep (fun _ _ h=>h) (fun i n e=>by simp at e),W.aR.stack,?_⟩;by_cases c2:256<=M0.stack.length
   ·rw[if_pos (.inr c2)]at q;rw[if_pos c2];right;exact q
   ·rw[if_neg (by rintro(z|z);exact c z;exact c2 z)]at q;rw[if_neg c2];right;intro H1 b1 J1;have tk:=b1.aj I.au fun _ z=>by cases z
    have ha1:=b1 a _ (fun z=>by rw[z,I.au]at h1;cases h1) h1;have jm:=J1.cy;left;refine fun y dx2 hy hdx ny=>?_;refine⟨y,dx2,p,rfl,az,fun H2 bb h9=>⟨rfl,?_⟩⟩;have k0:=iD hy hdx bb;have J2:=J1.same k0;refine⟨m,_,_,.code b,y,rfl,J2,⟨dx2,p,ws,0,h9,k0 _ _ (tk _ _ h2),cI _,by rw[k8];exact aM h3 fun c xs e=>k0 c _ (tk c xs e)⟩,fG J1 hy,W.aR.frames,?_⟩;walk_at "ap";intro H' b2 J;refine q H' y ?_ (fun c o n1 n2 e=>b2 c o n1 (k0 c o (b1 c o n2 e))) J;cases e:H y with
    |none=>rfl
    |some o=>
     by_cases z:y=g.au
     ·rw[z]at hy;have:=J1.au;rw[hy]at this;cases this
     ·rw[b1 y o z e]at hy;cases hy
theorem YF(T:Txt K)(M:MG K mg):ZM 1 "ForFrame" "is_past" ["self"] (Yo K):=by
 refine ZB T.IE.df Tf
 ·obtain⟨a,dx,p,x,y,z,rfl,_⟩:=h;rfl
 ·obtain⟨a,dx,p,x,y,z,rfl,h1,hy,q⟩:=h;refine⟨_,(Zq (Zz (Zc kP (Zd 0) aS) (dh (iy kP (Zd 0) (Zd 0) (gz _)))) (dh (iy iO (Zd 0) (Zd 0) (gz _)))),?_⟩;have cf:=T.wH;have a1:=T.Bx;have a2:=T.By;have a3:=T.KH;left;by_cases c:0<y
  ·rw[if_pos c];right;rw[show decide ((0<y/\z<x)\/(y<0/\x<z))=decide (z<x)by rw[decide_eq_decide];omega]at q;exact q
  ·walk_at "ap";rw[show decide ((0<y/\z<x)\/(y<0/\x<z))=decide (x<z)by rw[decide_eq_decide];omega]at q;exact q
theorem YG(T:Txt K)(M:MG K mg):ZM 7 "ForFrame" "advance" ["self","machine"] (ub K Ys):=by
 refine ZB T.IF.df Tg
 ·obtain⟨m,g,M0,a,fs,f,fr,r,rfl,_⟩:=h;rfl
 ·obtain⟨m,g,M0,a,fs,f,fr,r,rfl,I,W,ef,em,hf,hr0,q⟩:=h;refine⟨_,(Zq (fB (iz (Zw (pw 0) T.IE YF) (fun _=>rfl)) (Zq (aE (iA gk ju jw jb (Ze (pw 1)))) vn) lT) (aE (Zv (pw 0) T.KO YD (pw 1) (Zt (a8 M T.fO) (Zd 0)))) (nu (pw 0) (Zd 0) pj)),?_⟩;walk_at "at";have ap:=T.j4;have hp:=I.bB;have pv:=I.eL;rw[ef,em]at pv;rw[ef]at hp;have hzf:M0.frames.length<=128:=W.aR.frames;match f,hf,pv with
  | .count x y z b,_,.cons pv pt=>
   obtain⟨dx,p,ws,h1,h2,h3⟩:=pv;have cf:=T.wH;have a1:=T.Bx;have a2:=T.By;have ty:=dc (K:=K) hp;have fo:=W.bB _ (by rw[em];exact cw);have hy:y≠0:=fo.1.2.2;left;refine⟨a,dx,p,x,y,z,rfl,h1,hy,_,rfl,?_⟩;by_cases c:(0<y/\z<x)\/(y<0/\x<z)
   ·rw[decide_eq_true c,if_pos rfl];rw[Yx em c]at hr0;cases hr0;have q2:=xH ef em I q;left;all_goals exact⟨_,rfl⟩
   ·rw[decide_eq_false c,if_neg (by decide)];rw[Yy em c]at hr0;cases hr0;have z2:2<=sizeLine:=by rw[bR];decide
    left;intro n hn;have k0:=bA (o:=HO.aj [V.str "number",V.int x]) hn;have I1:=I.same k0;refine⟨m,g,M0,a,dx,p,ws,b,_,.int x,.ref n,rfl,I1,W,by rw[ef];exact cw,k0 _ _ h1,k0 _ _ h2,aM h3 (SW.aL.aj k0),iC az,?_⟩;have el:({M0 with frames:=.count (x+y) y z b::fr}:aY).frames.length=M0.frames.length:=by rw[em];rfl
    by_cases c2:128<=M0.frames.length\/256<=M0.stack.length
    ·rw[if_pos c2];right;have q2:iQ K m g M0 H Q E (.error (-7)):=by
      by_cases c3:256<=M0.stack.length
      ·rw[if_pos c3]at q;exact q
      ·rw[if_neg c3,uc (by rw[el];exact c2.resolve_right c3)]at q;exact q
     exact iQ.er (fr:=M0.frames) q2 I1 (Fr.same k0)
    rw[if_neg c2];right;rw[if_neg (fun z=>c2 (.inr z)),ud (by rw[el];exact fun z=>c2 (.inl z))]at q;intro H' u hu1 hk J;have hu:=k0.free hu1;have ha0:¬a=g.bB:=fun z=>by rw[z,hp]at h1;cases h1
    have ha1:¬a=g.au:=fun z=>by rw[z,I.au]at h1;cases h1
    have h10:=hk a _ ha0 ha1 (k0 _ _ h1);have tk:cq H H':=fun c xs e=>hk c _ (fun z=>by rw[z,hp]at e;cases e) (fun z=>by rw[z,I.au]at e;cases e) (k0 c _ e);have tk2:cq H' (aq H' a (HO.aP (ak K "ForFrame") dx [("body",V.ref p),("number",.int (x+y)),("stride",.int y),("last",.int z)])):=(bM (o:=HO.aP (ak K "ForFrame") dx [("body",V.ref p),("number",.int (x+y)),("stride",.int y),("last",.int z)])).aj h10 fun _ z=>by cases z
    have J2:=J.Co (i:=1) (a:=a) (f':=.count (x+y) y z b) (by show(u::g.fs)[1]? =_;rw[ef];rfl) (H':=aq H' a (HO.aP (ak K "ForFrame") dx [("body",V.ref p),("number",.int (x+y)),("stride",.int y),("last",.int z)])) bM ⟨dx,p,ws,az,tk2 _ _ (tk _ _ h2),aM h3 fun c xs e=>tk2 c xs (tk c xs e)⟩;have e1:(uT b::M0.frames).set 1 (.count (x+y) y z b)=.code b::.count (x+y) y z b::fr:=by rw[em];rfl
    rw[show({M0 with stack:=uR x::M0.stack,frames:=(uT b::M0.frames).set 1 (.count (x+y) y z b)}:aY)={M0 with stack:=uR x::M0.stack,frames:=.code b::.count (x+y) y z b::fr}by rw[e1]]at J2;have q2:Q .aO (aq H' a (HO.aP (ak K "ForFrame") dx [("body",V.ref p),("number",.int (x+y)),("stride",.int y),("last",.int z)])):=q _ _ J2 (rC (I.mo J2) hu fun c o n e=>by
     rw[aJ (fun z=>n (by rw[z];exact xG ef))];exact hk c o (fun z=>n (by rw[z];simp[aK,bu])) (fun z=>n (by rw[z];simp[aK,bu])) (k0 c o e))
    clear h1 hm q;left
theorem YH(T:Txt K)(M:MG K mg):ZM 7 "ForallFrame" "advance" ["self","machine"] (ub K Yt):=by
 refine ZB T.IH.df Ga
 ·obtain⟨m,g,M0,a,fs,f,fr,r,rfl,_⟩:=h;rfl
 ·obtain⟨m,g,M0,a,fs,f,fr,r,rfl,I,W,ef,em,hf,hr0,q⟩:=h;refine⟨_,(Zq (Zs 2 Ga (Zx fK (Ze (Ze (pw 1))) (Zi (Zd 0)))) (fB (Zc dz (Zd 0) (Zl dD (pw 2))) (Zq (aE (iA gk ju jw jb (Ze (pw 1)))) vn) lT) (aE (Zv (pw 0) T.KP YE (pw 1) (Zx fK (pw 2) (Zd 0)))) (nu (pw 0) aS pj)),?_⟩;walk_at "at";have ap:=T.j4;have hp:=I.bB;have pv:=I.eL;rw[ef,em]at pv;rw[ef]at hp;have hzf:M0.frames.length<=128:=W.aR.frames;match f,hf,pv with
  | .each k i b,_,.cons pv pt=>
   obtain⟨dx,p,ws,ra,h1,h2,h3,h4⟩:=pv;have cf:=T.wI;have a1:=T.Bz;have a2:=T.KJ;have as:=T.je;have cs:=T.fF;have aa:=T.gg;have hs:=I.si.aZ;have har:=I.si.aG;have ty:=dc (K:=K) hp;have fo:=W.bB _ (by rw[em];exact cw);have kl:k<M0.heap.arrays.length:=fo.1;obtain⟨xs,ex⟩:∃xs,M0.heap.arrays[k]? =some xs:=⟨_,f7 kl⟩
   obtain⟨tl,et,vs,hv,ha⟩:=I.si.fu.get _ _ ex;have hat:cR (g.items.map V.ref) (k:Int)=some (V.ref tl):=fW (by rw[dX,et];rfl);have gd:M0.heap.arrays.getD k []=xs:=by rw[gJ,ex];rfl
   have vl:vs.length=xs.length:=ha.length.symm;by_cases c:xs[i]? =none
   ·rw[Yz em (by rw[gd];exact c)]at hr0;cases hr0;have q2:=xH ef em I q;have ei:(i:Int)=(xs.length:Nat):=by
     have h1:i<=(M0.heap.arrays.getD k []).length:=fo.2.1;rw[gd]at h1;have h2:=abL.mp c
     lia
    left;all_goals exact⟨_,rfl⟩
   ·obtain⟨v,ev⟩:=Option.ne_none_iff_exists'.mp c;obtain⟨xv,exv,hxv⟩:=ha.get i v ev;have hat2:cR vs (i:Int)=some xv:=fW exv;rw[YA em (by rw[gd];exact ev)]at hr0;cases hr0;have ei:¬(i:Int)=(xs.length:Nat):=by
     have h2:=(cP.mp ev).1
     lia
    left;refine⟨m,g,M0,a,dx,p,ws,b,_,v,xv,rfl,I,W,by rw[ef];exact cw,h1,h2,h3,hxv,?_⟩;have el:({M0 with frames:=.each k (i+1) b::fr}:aY).frames.length=M0.frames.length:=by rw[em];rfl
    by_cases c2:128<=M0.frames.length\/256<=M0.stack.length
    ·rw[if_pos c2];right;have q2:iQ K m g M0 H Q E (.error (-7)):=by
      by_cases c3:256<=M0.stack.length
      ·rw[if_pos c3]at q;exact q
      ·rw[if_neg c3,uc (by rw[el];exact c2.resolve_right c3)]at q;exact q
     exact iQ.er (fr:=M0.frames) q2 I ⟨fun _ _ h _=>h,fun _ h=>.inl h,rfl,fun _ h=>h⟩
    rw[if_neg c2];right;rw[if_neg (fun z=>c2 (.inr z)),ud (by rw[el];exact fun z=>c2 (.inl z))]at q;intro H' u hu hk J;have ha0:¬a=g.bB:=fun z=>by rw[z,hp]at h1;cases h1
    have ha1:¬a=g.au:=fun z=>by rw[z,I.au]at h1;cases h1
    have h10:=hk a _ ha0 ha1 h1;have tk:cq H H':=fun c xs e=>hk c _ (fun z=>by rw[z,hp]at e;cases e) (fun z=>by rw[z,I.au]at e;cases e) e;have tk2:cq H' (aq H' a (HO.aP (ak K "ForallFrame") dx [("body",V.ref p),("array",.ref ra),("place",.int ((i+1:Nat):Int))])):=(bM (o:=HO.aP (ak K "ForallFrame") dx [("body",V.ref p),("array",.ref ra),("place",.int ((i+1:Nat):Int))])).aj h10 fun _ z=>by cases z
    have J2:=J.Co (i:=1) (a:=a) (f':=.each k (i+1) b) (by show(u::g.fs)[1]? =_;rw[ef];rfl) (H':=aq H' a (HO.aP (ak K "ForallFrame") dx [("body",V.ref p),("array",.ref ra),("place",.int ((i+1:Nat):Int))])) bM ⟨dx,p,ws,ra,az,tk2 _ _ (tk _ _ h2),aM h3 fun c xs e=>tk2 c xs (tk c xs e),tk2 _ _ (tk _ _ h4)⟩;have e1:(uT b::M0.frames).set 1 (.each k (i+1) b)=.code b::.each k (i+1) b::fr:=by rw[em];rfl
    rw[show({M0 with stack:=v::M0.stack,frames:=(uT b::M0.frames).set 1 (.each k (i+1) b)}:aY)={M0 with stack:=v::M0.stack,frames:=.code b::.each k (i+1) b::fr}by rw[e1]]at J2;have q2:Q .aO (aq H' a (HO.aP (ak K "ForallFrame") dx [("body",V.ref p),("array",.ref ra),("place",.int ((i+1:Nat):Int))])):=q _ _ J2 (rC (I.mo J2) hu fun c o n e=>by
     rw[aJ (fun z=>n (by rw[z];exact xG ef))];exact hk c o (fun z=>n (by rw[z];simp[aK,bu])) (fun z=>n (by rw[z];simp[aK,bu])) e)
    clear h1 hm q;left;exact q2
def YI(H:Hp)(Q:VK)(E:XK):Option (List eT)->Prop
 |some t=>∀l ws H',L2.aL H H'->H l=none->H' l=some (.ai ws)->aX (ji H') t ws->Q (.ref l) H'
 |none=>Er E (-1) H
inductive M6(vs:List V)(H:Hp)(Q:VK)(E:XK):Prop
 |mk:∀tx s,(vs=[.ref tx])->(H tx=some (.ai (cW s)))->(s.length<=4096)->(YI H Q E (dZ s))->M6 vs H Q E
def YJ:Sp:=fun vs H Q E=>M6 vs H Q E
def YK(H:Hp)(Q:VK)(E:XK):Option (List aB)->Prop
 |some b=>∀p ws H',L2.aL H H'->H' p=some (.aj ws)->aX (bF H' []) b ws->Q (.ref p) H'
 |none=>Er E (-1) H
inductive M7(vs:List V)(H:Hp)(Q:VK)(E:XK):Prop
 |mk:∀l ws t,(vs=[.ref l])->(H l=some (.ai ws))->(aX (ji H) t ws)->(t.length<=4096)->(YK H Q E (iY [[]] t))->M7 vs H Q E
def YL:Sp:=fun vs H Q E=>M7 vs H Q E
theorem YM{H H3 H4:Hp}{l:ae}{acc:List eT}{ws:List V}{t:eT}{x:V}(h:aX (ji H) acc ws)(k:L2.aL H H3)(hl:H3 l=some (.ai ws))(b:bJ l H3 H4)(hx:ji H3 t x):aX (ji H4) (acc++[t]) (ws++[x]):=by
 have tk:=b.aj hl fun _ z=>by cases z
 exact(h.cG fun _ _ _ q=>(q.keep (SW.aL.aj k)).keep tk).app (.cons (hx.keep tk) .nil)
theorem YN{H H':Hp}{l:ae}(hl:H l=none)(k:L2.aL H H'){H2:Hp}(b:bJ l H' H2):L2.aL H H2:=fun c o e=>b c o (fun z=>by rw[z,hl]at e;cases e) (k c o e)
def ue(H:Hp)(n:Nat)(row:List aB)(a:ae):Prop:=∃ws,H a=some (.ai ws)/\aX (bF H []) row ws/\ws.length<=n
structure Rows(H0 H:Hp)(R:ae)(n:Nat)(rows:List (List aB))(as:List ae):Prop where
 bC:H R=some (.ai (as.map V.ref).reverse)
 row:aX (ue H n) rows as
 nd:as.Nodup
 nR:R∉as
 new:∀a∈as,H0 a=none
 rD:H0 R=none
 same:L2.aL H0 H
theorem xI{α β:Type}{R R':α->β->Prop}:∀{l:List α}{r:List β},aX R l r->(∀a b,b∈r->R a b->R' a b)->aX R' l r:=mO
theorem ue.keep{H H':Hp}{n n':Nat}{row:List aB}{a:ae}(h:ue H n row a)(hn:n<=n')(tk:cq H H')(k:∀o,H a=some o->H' a=some o):ue H' n' row a:=let⟨ws,e,q,l⟩:=h;⟨ws,k _ e,aM q tk,dM l hn⟩
section
variable{H0 H H':Hp}{R:ae}{n n':Nat}{row:List aB}{rest rows:List (List aB)}{a:ae}{as:List ae}
theorem Rows.up(r:Rows H0 H R n rows as)(hn:n<=n')(k:L2.aL H H'):Rows H0 H' R n' rows as:=⟨k _ _ r.bC,xI r.row fun _ _ _ q=>q.keep hn (SW.aL.aj k) fun o=>k _ o,r.nd,r.nR,r.new,r.rD,r.same.trans k⟩
theorem Rows.head(r:Rows H0 H R n (row::rest) (a::as)):ue H n row a:=by cases r.row with|cons h _=>exact h
theorem Rows.set(r:Rows H0 H R n (row::rest) (a::as))(hn:n<=n')(b:bJ a H H'){row':List aB}{ws':List V}(h1:H' a=some (.ai ws'))(h2:cq H H'->aX (bF H' []) row' ws')(hl:ws'.length<=n'):Rows H0 H' R n' (row'::rest) (a::as):=by
 obtain⟨ws,e,_⟩:=r.head;have tk:=b.aj e fun _ z=>by cases z
 have nd:=eG.mp r.nd;refine⟨b _ _ (fun z=>r.nR (by rw[z];exact cw)) r.bC,.cons ⟨ws',h1,h2 tk,hl⟩ ?_,r.nd,r.nR,r.new,r.rD,fun c o e=>b c o (fun z=>by rw[z,r.new a cw]at e;cases e) (r.same c o e)⟩;cases r.row with
 |cons _ t=>exact xI t fun _ c hc q=>q.keep hn tk fun o=>b c o (fun z=>nd.1 (z▸hc))
theorem Rows.YO(r:Rows H0 H R n (row::rest) (a::as))(b:bJ R H H')(h:H' R=some (.ai (as.map V.ref).reverse)):Rows H0 H' R n rest as:=by
 have tk:=b.aj r.bC fun _ z=>by cases z
 have nd:=eG.mp r.nd;refine⟨h,?_,nd.2,fun z=>r.nR (bP _ z),fun c hc=>r.new c (bP _ hc),r.rD,fun c o e=>b c o (fun z=>by rw[z,r.rD]at e;cases e) (r.same c o e)⟩;cases r.row with
 |cons _ t=>exact xI t fun _ c hc q=>q.keep (bY _) tk fun o=>b c o (fun z=>r.nR (by rw[<-z];exact bP _ hc))
theorem Rows.push(r:Rows H0 H R n rows as)(b:bJ R H H')(ha:H a=some (.ai []))(na:H0 a=none)(nas:a∉as)(nR:a≠R)(h:H' R=some (.ai ((a::as).map V.ref).reverse)):Rows H0 H' R n ([]::rows) (a::as):=by
 have tk:=b.aj r.bC fun _ z=>by cases z
 refine⟨h,.cons ⟨[],b _ _ nR ha,.nil,cI _⟩ (xI r.row fun _ c hc q=>q.keep (bY _) tk fun o=>b c o (fun z=>r.nR (z▸hc))),eG.mpr ⟨nas,r.nd⟩,fun z=>?_,fun c hc=>?_,r.rD,fun c o e=>b c o (fun z=>by rw[z,r.rD]at e;cases e) (r.same c o e)⟩
 ·rcases br.mp z with z|z
  ·exact nR z.symm
  ·exact r.nR z
 ·rcases br.mp hc with z|z
  ·rw[z];exact na
  ·exact r.new c z
end
theorem YQ(v:aB):ba v≠"opening"/\ba v≠"closing":=by
 cases v with
 |int n=>exact(show("number":af)≠"opening"/\("number":af)≠"closing" from⟨by decide,by decide⟩)
 |truth n=>exact(show("truth":af)≠"opening"/\("truth":af)≠"closing" from⟨by decide,by decide⟩)
 |lit n=>exact(show("name":af)≠"opening"/\("name":af)≠"closing" from⟨by decide,by decide⟩)
 |mark=>exact(show("mark":af)≠"opening"/\("mark":af)≠"closing" from⟨by decide,by decide⟩)
 |arr n=>exact(show("array":af)≠"opening"/\("array":af)≠"closing" from⟨by decide,by decide⟩)
 |table n=>exact(show("table":af)≠"opening"/\("table":af)≠"closing" from⟨by decide,by decide⟩)
 |state n=>exact(show("state":af)≠"opening"/\("state":af)≠"closing" from⟨by decide,by decide⟩)
 |proc n=>exact(show("procedure":af)≠"opening"/\("procedure":af)≠"closing" from⟨by decide,by decide⟩)
 |word n=>exact(show("word":af)≠"opening"/\("word":af)≠"closing" from⟨by decide,by decide⟩)
theorem Rows.YR{H0 H:Hp}{R:ae}{n:Nat}{rows:List (List aB)}{as:List ae}(r:Rows H0 H R n rows as){a:ae}(ha:a∈as):∃o,H a=some o:=by
 obtain⟨j,ej⟩:=yr ha;obtain⟨_,_,ws,e,_⟩:=r.row.hX j a ej;exact⟨_,e⟩
theorem YS:(("closing":af)="opening")=False:=eq_false (by decide)
local macro_rules| `(tactic|walk_at "rd0")=>`(tactic|simp only[b2,aQ,i5,Ay,vO,vI,z0,vP,nq,YS, *])
inductive M8(tx l:ae)(s:bO)(H:Hp)(k:Nat)(σ':L2.St)(H':Hp):Prop
 |mk:∀p acc ws x3 x4,(p+k=s.length)->(σ'=[some (.ref tx),some (.ref l),some (.int ((p:Nat):Int)),x3,x4])->(L2.aL H H')->(H' l=some (.ai ws))->(aX (ji H') acc ws)->(eA s p acc)->(acc.length<=p)->M8 tx l s H k σ' H'
theorem YT(T:Txt K)(M:MG K mg):ZF 6 "tokens_of" ["text"] YJ:=by
 refine ZB T.IT kI
 ·obtain⟨tx,s,rfl,_⟩:=h;rfl
 ·obtain⟨tx,s,rfl,ht,hl,q⟩:=h;refine⟨_,(Zq (Zs 1 kI (gR gq)) (Zs 2 kI aS) (ni jB (Zc iO (pw 2) (Zl dD (pw 0))) (Zq (Zs 3 kI (Zx fK (pw 0) (pw 2))) (fB (qe Es (pw 3) (pA M T.Uz) (by with_unfolding_all rfl)) (cg (lj (i:=2) kI.nd rfl (eN rfl) aS o9)) (cg (fB (Zc dz (pw 3) (a8 M T.UC)) (cg (Zs 2 kI (Zf T.Ub T.IJ XW (pw 0) (pw 2)))) (cg (fB (Zc dz (pw 3) (a8 M T.UD)) (Zq (Zs 4 kI (Zf T.IK T.A8 MF (pw 0) (cT mG (pw 2) aS))) (aE (Za iP (pw 1) (Zf T.IP T.Ba MJ (a8 M T.qW) (Zf T.IL T.A9 MH (pw 0) (cT mG (pw 2) aS) (pw 4))))) (Zs 2 kI (pw 4))) (cg (fB (iz (Zf T.II T.A7 ME (pw 3)) (fun _=>rfl)) (Zq (Zs 4 kI (Zf T.IK T.A8 MF (pw 0) (pw 2))) (aE (Za iP (pw 1) (Zf T.Ud T.IQ XY (Zf T.IL T.A9 MH (pw 0) (pw 2) (pw 4))))) (Zs 2 kI (pw 4))) (Zq (aE (Za iP (pw 1) (Zf T.Ue T.IS XZ (pw 3)))) (lj (i:=2) kI.nd rfl (eN rfl) aS o9))))))))))) (dh (pw 1))),?_⟩;left;refine⟨by rw[bR];decide,fun l hl0=>?_⟩;have k00:=bA (o:=HO.ai []) hl0;obtain⟨Wv,hW⟩:∃Wv:Nat->L2.St->Hp->Prop,∀k σ' H',Wv k σ' H'↔M8 tx l s H k σ' H':=⟨_,fun _ _ _=>Iff.rfl⟩;refine oo Wv s.length ((hW _ _ _).mpr ⟨0,[],[],none,none,by lia,rfl,k00,az,.nil,Xm,cI _⟩) ?_;intro k σ' H1 hi;obtain⟨p,acc,ws,x3,x4,hk,rfl,k1,hw,ha,hg,al⟩:=(hW _ _ _).mp hi;clear hi;have ht1:=k1 _ _ ht;have wl:ws.length=acc.length:=ha.length.symm;have bl:(cW s).length=s.length:=by unfold cW;rw[bK]
  by_cases c:p<s.length
  ·obtain⟨ch,ec⟩:∃ch,s[p]? =some ch:=⟨_,f7 c⟩
   have hat:cR (cW s) ((p:Nat):Int)=some (V.int (ch.toNat:Nat)):=fW (by unfold cW;rw[dX,ec];rfl);have hlt:((p:Nat):Int)<(s.length:Nat):=by lia
   have hb:=T.UA H1;have ty:=dc (K:=K) hw;have lsz:acc.length<sizeLine:=by rw[bR];lia
   have up:∀(t:eT)(x:V)(H3:Hp),L2.aL H1 H3->ji H3 t x->L2.aL H (aq H3 l (.ai (ws++[x])))/\aX (ji (aq H3 l (.ai (ws++[x])))) (acc++[t]) (ws++[x]):=fun t x H3 k3 hx=>⟨YN hl0 (k1.trans k3) bM,YM ha k3 (k3 _ _ hw) bM hx⟩;have bad:dZ s=none->Er E (-1) H1:=fun z=>by rw[z]at q;exact Er.up q k1
   have nxt:∀p' acc' ws' x3' x4' H2,p<p'->p'<=s.length->L2.aL H H2->H2 l=some (.ai ws')->aX (ji H2) acc' ws'->eA s p' acc'->acc'.length<=p'->∃m',m'<k/\Wv m' [some (.ref tx),some (.ref l),some (.int ((p':Nat):Int)),x3',x4'] H2:=fun p' acc' ws' x3' x4' H2 h1 h2 h3 h4 h5 h6 h7=>⟨s.length-p',by lia,(hW _ _ _).mpr ⟨p',acc',ws',x3',x4',by lia,rfl,h3,h4,h5,h6,h7⟩⟩;have nxt1:∀t x H3,L2.aL H1 H3->ji H3 t x->∀p' x3' x4',p<p'->p'<=s.length->eA s p' (acc++[t])->∃m',m'<k/\Wv m' [some (.ref tx),some (.ref l),some (.int ((p':Nat):Int)),x3',x4'] (aq H3 l (.ai (ws++[x]))):=fun t x H3 k3 hx p' x3' x4' h1 h2 h3=>nxt p' _ _ x3' x4' _ h1 h2 (up t x H3 k3 hx).1 az (up t x H3 k3 hx).2 h3 (by rw[eQ];show _+1<=_;lia);clear ht q up hW;left;refine lE ?_;left;refine⟨_,.inr hb,rfl,rfl,?_⟩;rw[<-XU];have p1:((p+1:Nat):Int)=(p:Int)+1:=rfl;rw[<-p1];cases cb:r9 ch with
   |true=>
    rw[if_pos rfl];right;exact nxt (p+1) acc ws _ _ H1 (by lia) (by lia) k1 hw ha (Xo hg ec cb) (by lia)
   |false=>
    rw[if_neg (by decide)];right;by_cases c1:ch=37
    ·rw[if_pos (show((ch.toNat:Nat):Int)=37 from(jj (n:=37) (by decide)).mpr c1)];right;refine⟨tx,s,p,rfl,ht1,by lia,?_⟩;have l1:0<((s.drop p).takeWhile fun c=>c != 10).length:=by
      rw[mT ec,c1,k6 (by decide)];simp
     have l2:=pS (f:=fun c:UInt8=>c != 10) (l:=s.drop p);rw[fh]at l2;exact nxt _ acc ws _ _ H1 (by lia) (by lia) k1 hw ha (Xp hg ec c1) (by lia)
    ·rw[if_neg (fun z:((ch.toNat:Nat):Int)=37=>c1 ((jj (n:=37) (by decide)).mp z))];right;by_cases c2:ch=47
     ·rw[if_pos (show((ch.toNat:Nat):Int)=47 from(jj (n:=47) (by decide)).mpr c2)];right;subst c2;have l2:=pS (f:=cF) (l:=s.drop (p+1));rw[fh]at l2;refine⟨tx,s,p+1,rfl,ht1,by lia,ty,tx,s,p+1,_,rfl,ht1,hl,by lia,by lia,?_,fun H2 k2=>?_⟩
      ·rw[yH,rq];exact fun c hc=>rp hc
      ·rw[yH,rq];refine⟨"name",_,.lit,rfl,by lia,fun _=>rfl,fun _ _=>by rw[bU],?_⟩;by_cases c3:(s.drop (p+1)).takeWhile cF=[]\/31<((s.drop (p+1)).takeWhile cF).length
       ·rw[if_pos c3];right;exact Er.up (bad (Xs hg ec c3)) k2
       ·rw[if_neg c3];right;intro x H3 k3 hx;conv=>whnf
        rw[k3 _ _ (k2 _ _ hw)];exact⟨by lia,nxt1 _ x H3 (k2.trans k3) hx _ _ _ (by lia) (by lia) (Xr hg ec c3)⟩
     ·rw[if_neg (fun z:((ch.toNat:Nat):Int)=47=>c2 ((jj (n:=47) (by decide)).mp z))];right;refine⟨ch,rfl,_,rfl,?_⟩;cases cp:cF ch with
      |true=>
       rw[if_pos rfl];right;have l2:=pS (f:=cF) (l:=s.drop p);rw[fh]at l2;have l1:0<((s.drop p).takeWhile cF).length:=by
        rw[mT ec,k6 cp];simp
       obtain⟨g1,g2⟩:=Xu hg ec cp;refine⟨tx,s,p,rfl,ht1,by lia,ty,tx,s,p,_,rfl,ht1,hl,by lia,by lia,?_,fun H2 k2=>?_⟩
       ·rw[yH,rq];exact fun c hc=>rp hc
       ·rw[yH,rq];refine⟨_,rfl,fun z=>by rw[z]at l1;simp at l1,fun c hc=>rp hc,by lia,?_⟩;cases rr:oP ((s.drop p).takeWhile cF)with
        |none=>exact Er.up (bad (g2 rr)) k2
        |some v=>
         intro x H3 k3 hx;conv=>whnf
         rw[k3 _ _ (k2 _ _ hw)];exact⟨by lia,nxt1 _ x H3 (k2.trans k3) hx _ _ _ (by lia) (by lia) (g1 v rr)⟩
      |false=>
       rw[if_neg (by decide)];right;refine⟨ty,ch,rfl,?_⟩;obtain⟨g1,g2,g3⟩:=Xq hg ec;unfold Ch;by_cases c3:ch=123
       ·rw[if_pos c3];right;intro x H3 k3 hx;conv=>whnf
        rw[k3 _ _ hw];refine⟨by lia,?_⟩;right;exact nxt1 _ x H3 k3 hx (p+1) _ _ (by lia) (by lia) (g1 c3)
       ·rw[if_neg c3];right;by_cases c4:ch=125
        ·rw[if_pos c4];right;intro x H3 k3 hx;conv=>whnf
         rw[k3 _ _ hw];refine⟨by lia,?_⟩;right;exact nxt1 _ x H3 k3 hx (p+1) _ _ (by lia) (by lia) (g2 c4)
        ·rw[if_neg c4];right;by_cases c5:ch=91\/ch=93
         ·rw[if_pos c5];right;intro x H3 k3 hx;conv=>whnf
          rw[k3 _ _ hw];refine⟨by lia,?_⟩;right;exact nxt1 _ x H3 k3 hx (p+1) _ _ (by lia) (by lia) (g3 c5)
         ·rw[if_neg c5];right;exact bad (Xv hg ec cb c1 c3 c4 c5 c2 cp)
  ·have hlt:¬((p:Nat):Int)<(s.length:Nat):=by lia
   rw[Xn hg (by lia)]at q;have q2:=q l ws H1 k1 hl0 hw ha;left
theorem YU(T:Txt K)(M:MG K mg):ZF 4 "things_of" ["tokens"] YL:=by
 refine ZB T.IU wb
 ·obtain⟨l,ws,t,rfl,_⟩:=h;rfl
 ·obtain⟨l,ws,t,rfl,hw,ha,tl,q⟩:=h;refine⟨_,(Zq (Zs 1 wb (gR (Zy (gR gq)))) (sM jB rfl (l7 (pw 0)) (jO (i:=2) wb.nd rfl (eN rfl)) (cg (fB (Zc dz (Zi (pw 2)) (a8 M T.Ku)) (Zq (Zz (Zc kP (Zl dD (pw 1)) (a8 M T.UP)) (Zr T.nV T.pH pO T.nO T.pG)) (aE (Za iP (pw 1) (gR gq)))) (cg (fB (Zc dz (Zi (pw 2)) (a8 M T.Kv)) (Zq (Zz (Zc dz (Zl dD (pw 1)) aS) (Zr T.nV T.pH pO T.nO T.pG)) (Zs 3 wb (iA gk ju jw jb (pw 1))) (aE (Za iP (Zn (pw 1)) (Zt (a8 M T.kN) (jR Eu rfl (M.aO _ T.Kx) Fs (Zy (pw 3))))))) (cg (aE (Za iP (Zn (pw 1)) (pw 2))))))))) (Zz (Zc kP (Zl dD (pw 1)) aS) (Zr T.nV T.pH pO T.nO T.pG)) (dh (jR Eu rfl (M.aO _ T.Kx) Fs (Zy (Zx fK (pw 1) aS))))),?_⟩;left;refine⟨cI _,fun r0 hr0=>⟨by rw[bR];decide,fun R hR=>?_⟩⟩;have hR2:¬R=r0/\H R=none:=by
   by_cases z:R=r0
   ·rw[z,az]at hR;cases hR
   ·rw[aJ z]at hR;exact⟨z,hR⟩
  have k1:=bA (o:=HO.ai []) hr0;have k2:L2.aL H (aq (aq H r0 (HO.ai [])) R (HO.ai [V.ref r0])):=k1.trans (bA hR);have R0:Rows H (aq (aq H r0 (HO.ai [])) R (HO.ai [V.ref r0])) R 0 [[]] [r0]:=⟨az,.cons ⟨[],by rw[aJ (fun z=>hR2.1 z.symm)];exact az,.nil,bY _⟩ .nil,by simp,by simpa using hR2.1,fun a h=>by rw[eR.mp h];exact hr0,hR2.2,k2⟩;generalize aq (aq H r0 (HO.ai [])) R (HO.ai [V.ref r0])=H1 at *;clear hR k1 k2;have hw1:=R0.same _ _ hw;refine⟨l,rfl,⟨_,bV.of hw1⟩,D0 (K:=K) (a:=l) (xs:=ws) (fun i σ' H'=>∃rows as x2 x3,σ'=[some (.ref l),some (.ref R),x2,x3]/\Rows H H' R i rows as/\rows≠[]/\rows.length<=17/\iY rows (t.drop i)=iY [[]] t) ?_ ?_ ?_ ?_⟩
  ·exact⟨[[]],[r0],none,none,rfl,R0,by simp,by simp,rfl⟩
  ·rintro i σ' H' _ ⟨rows,as,x2,x3,rfl,r,_⟩;exact bV.of (r.same _ _ hw)
  ·rintro i x σ' H' hx ⟨rows,as,x2,x3,rfl,r,hne,hlen,hn⟩;obtain⟨tk,et,hk⟩:=ha.hX i x hx;have hk1:=hk.keep (SW.aL.aj r.same);have il:i<t.length:=(cP.mp et).1;have ed:t.drop i=tk::t.drop (i+1):=by rw[uN il,(cP.mp et).2]
   rw[ed]at hn;have bad:iY [[]] t=none->Er E (-1) H':=fun z=>by rw[z]at q;exact Er.up q r.same
   have hrt:=r.bC;have asl:as.length=rows.length:=r.row.length.symm;have rl:((as.map V.ref).reverse).length=rows.length:=by rw[bN,bK];exact asl
   have ty:=dc (K:=K) hrt;clear q hw hw1 R0;cases tk with
   |opens=>
    obtain⟨b,rfl,eb⟩:=hk1;left;by_cases c:16<rows.length
    ·rw[if_pos (by lia)];right;exact bad (by rw[<-hn,Cd,if_pos c])
    ·rw[if_neg (by lia)];right;refine⟨cI _,fun p hp=>?_⟩;have nRp:R≠p:=bw hrt hp;have k3:=bA (o:=HO.ai []) hp;have r1:=r.up (n':=i+1) (by lia) k3;rw[k3 _ _ hrt];refine⟨by rw[rl,bR];lia,[]::rows,p::as,?_,by simp,by rw[aA];lia,by rw[<-hn,Cd,if_neg c]⟩;exact r1.push bM az (r.same.free hp) (fun z=>by obtain⟨o,e⟩:=r.YR z;rw[hp]at e;cases e) (cM nRp) (by rw[az,d6,kn])
   |closes=>
    obtain⟨b,rfl,eb⟩:=hk1;match rows,as,r,asl,hn,hlen,hne with
    |[row],as,r,asl,hn,_,_=>
     have rl1:((as.map V.ref).reverse).length=1:=rl;clear rl;left;exact bad (by rw[<-hn,Mm])
    |row::row2::rest,[],r,asl,_,_,_=>simp at asl
    |row::row2::rest,[_],r,asl,_,_,_=>simp at asl
    |row::row2::rest,a::a2::as',r,asl,hn,hlen,_=>
     have hr1:H' R=some (.ai (V.ref a::V.ref a2::as'.map V.ref).reverse):=r.bC;have rl1:¬(((V.ref a::V.ref a2::as'.map V.ref).reverse.length:Nat):Int)=1:=by rw[bN,aA,aA];lia
     obtain⟨ws1,e1,e2,e3⟩:=r.head;have nRa:¬a=R:=fun z=>r.nR (by rw[<-z];exact cw);have r2:=r.YO (H':=aq H' R (.ai (V.ref a2::as'.map V.ref).reverse)) bM az;obtain⟨ws2,f1,f2,f3⟩:=r2.head;have ty2:=dc (K:=K) f1;have tkR:cq H' (aq H' R (.ai (V.ref a2::as'.map V.ref).reverse)):=(bM (o:=HO.ai (V.ref a2::as'.map V.ref).reverse)).aj hr1 fun _ z=>by cases z
     have e4:aq H' R (.ai (V.ref a2::as'.map V.ref).reverse) a=some (.ai ws1):=by rw[aJ nRa];exact e1
     clear rl hrt;left;generalize aq H' R (.ai (V.ref a2::as'.map V.ref).reverse)=H2 at *;refine⟨ws1,.inl ⟨bV.of e4,fun l2 hl2=>⟨by rw[bR];decide,fun p hp=>?_⟩⟩⟩;have k3:=bA (o:=HO.aj ws1) hl2;have k4:=k3.trans (bA (o:=HO.aj [V.str "procedure",V.ref l2]) hp);have p3:aq (aq H2 l2 (HO.aj ws1)) p (HO.aj [V.str "procedure",V.ref l2]) l2=some (.aj ws1):=by rw[aJ (bw az hp)];exact az
     have p4:aq (aq H2 l2 (HO.aj ws1)) p (HO.aj [V.str "procedure",V.ref l2]) p=some (.aj [V.str "procedure",V.ref l2]):=az;generalize aq (aq H2 l2 (HO.aj ws1)) p (HO.aj [V.str "procedure",V.ref l2])=H4 at *;have r4:=r2.up (n':=i+1) (by lia) k4;have tk0:cq H' H4:=fun c xs e=>k4 c _ (tkR c xs e);rw[k4 _ _ f1];refine⟨by rw[bR];lia,(row2++[.proc row])::rest,a2::as',r4.set (bY _) bM az (fun tk=>(aM (aM f2 (SW.aL.aj k4)) tk).app (.cons (show bF _ [] (.proc row) (.ref p)from⟨p,.ref l2,rfl,tk _ _ p4,tW.mpr ⟨l2,ws1,rfl,tk _ _ p3,aM (aM e2 tk0) tk⟩⟩) .nil)) (by rw[eQ];show _+1<=_;lia),by simp,by simp only[aA]at hlen ⊢;lia,by rw[<-hn,Ml]⟩
   |thing v=>
    obtain⟨b,y,rfl,eb,ey⟩:=id hk1;obtain⟨n1,n2⟩:=YQ v;match rows,as,r,asl,hn,hlen,hne with
    |[],_,_,_,_,_,hne=>exact absurd rfl hne
    |row::rest,[],r,asl,_,_,_=>simp at asl
    |row::rest,a::as',r,asl,hn,hlen,_=>
     have hr1:H' R=some (.ai (V.ref a::as'.map V.ref).reverse):=r.bC;obtain⟨ws1,e1,e2,e3⟩:=r.head;have ty2:=dc (K:=K) e1;clear rl hrt;left;exact⟨by rw[bR];lia,(row++[v])::rest,a::as',r.set (n':=i+1) (by lia) bM az (fun tk=>(aM e2 tk).app (.cons (bF.keep hk1 tk) .nil)) (by rw[eQ];show _+1<=_;lia),by simp,hlen,by rw[<-hn,Mj]⟩
  ·rintro σ' H' ⟨rows,as,x2,x3,rfl,r,hne,hlen,hn⟩;have wl:ws.length=t.length:=ha.length.symm;rw[wl,List.drop_length]at hn;have hrt:=r.bC;have asl:as.length=rows.length:=r.row.length.symm;have rl:((as.map V.ref).reverse).length=rows.length:=by rw[bN,bK];exact asl
   match rows,as,r,asl,hn,hne with
   |[],_,_,_,_,hne=>exact absurd rfl hne
   |row::row2::rest,as,r,asl,hn,_=>
    left;rw[<-hn,Mo]at q;rw[if_pos (by lia)];right;exact Er.up q r.same
   |[row],[],r,asl,_,_=>simp at asl
   |[row],_::_::_,r,asl,_,_=>simp at asl
   |[row],[a],r,asl,hn,_=>
    have hr1:H' R=some (.ai [V.ref a]):=r.bC;rw[<-hn,Mn]at q;obtain⟨ws1,e1,e2,e3⟩:=r.head;have hat:cR [V.ref a] 0=some (V.ref a):=rfl;clear rl hrt;left;rw[if_neg (by decide)];right;refine⟨ws1,.inl ⟨bV.of e1,fun l2 hl2=>?_⟩⟩;have k3:=bA (o:=HO.aj ws1) hl2;exact q l2 ws1 _ (r.same.trans k3) az (aM e2 (SW.aL.aj k3))
inductive M9(K:ax)(vs:List V)(H:Hp)(Q:VK)(E:XK):Prop
 |mk:∀(m:ae)(g:G)(M:aY)(i k:Nat)(x:V)(v:aB),(vs=[.ref g.aZ,.int i,.int k,x])->(MI K (bc K) m g M H)->(Wf M)->(i<M.heap.arrays.length)->(k<(M.heap.arrays.getD i []).length)->(bF H [] v x)->(∀H' items oA bx,MI K (bc K) m {g with items:=items,oA:=oA,bx:=bx} {M with heap:={M.heap with arrays:=gL M.heap.arrays i (gL (M.heap.arrays.getD i []) k v)}} H'->Fr (aK m g) H (aK m {g with items:=items,oA:=oA,bx:=bx}) H'->Q .aO H')->M9 K vs H Q E
def YV(K:ax):Sp:=fun vs H Q E=>M9 K vs H Q E
inductive Na(K:ax)(vs:List V)(H:Hp)(Q:VK)(E:XK):Prop
 |mk:∀(m:ae)(g:G)(M:aY)(i:Nat)(n:bO)(x:V)(v:aB),(vs=[.ref g.aZ,.int i,.str (bH n),x])->(MI K (bc K) m g M H)->(Wf M)->(i<M.heap.tables.length)->(bF H [] v x)->(if(M.heap.tables.getD i []).all (fun x=>x.1 != n)=true/\64<=(M.heap.tables.getD i []).length then Er E (-7) H else
 ∀H' bg oT bx,MI K (bc K) m {g with bg:=bg,oT:=oT,bx:=bx} {M with heap:={M.heap with tables:=gL M.heap.tables i (kr n v (M.heap.tables.getD i []))}} H'->Fr (aK m g) H (aK m {g with bg:=bg,oT:=oT,bx:=bx}) H'->Q .aO H')->Na K vs H Q E
def YW(K:ax):Sp:=fun vs H Q E=>Na K vs H Q E
theorem xJ{n i:Nat}(h:i<n):ja n (i:Int)=some i:=by
 unfold ja;rw[if_pos (by lia),if_pos (by lia),uz]
theorem YX{h:b9}{i:Nat}{xs ys:List aB}(e:h.arrays[i]? =some xs)(l:ys.length=xs.length):dI {h with arrays:=h.arrays.set i ys}=dI h:=by
 unfold dI;show(((h.arrays.set i ys).map gI).sum:Int)=_;rw[yp,l];have:(h.arrays.map gI).set i xs.length=h.arrays.map gI:=by
  refine List.ext_getElem? fun j=>?_;rw[List.getElem?_set];split
  ·rename_i z;subst z;have il:=(cP.mp e).1;rw[bK,if_pos il,dX,e];rfl
  ·rfl
 rw[this]
theorem Cp{o:List (Key×V)}{n:Nat}(h:(o.map (·.1)).Nodup/\∀k∈o.map (·.1),∃i:Nat,i<n/\k=bZ (i:Int)):o.length<=n:=by
 have hs:(o.map (·.1)) ⊆ (rJ n).map fun i:Nat=>(bZ (i:Int):Key):=fun k hk=>by
  obtain⟨i,hi,rfl⟩:=h.2 k hk;exact iW.mpr ⟨i,Oc.mpr hi,rfl⟩
 have:=h.1.length_le_of_subset hs;rw[bK,bK,List.length_range]at this;exact this
local macro_rules| `(tactic|walk_at "rd0")=>`(tactic|simp only[b3,aQ,mU,xD,Ck,Nat.reduceLT,nI,Ar,zH,z3,oI,sh, *])
theorem YY(T:Txt K)(M:MG K mg):ZM 1 "Store" "put_item" ["self","array","place","thing"] (YV K):=by
 refine ZB T.IZ.df Tt
 ·obtain⟨m,g,M0,i,k,x,v,rfl,_⟩:=h;rfl
 ·obtain⟨m,g,M0,i,k,x,v,rfl,I,W,hi,hk,hx,q⟩:=h;have hu:=qK hr;refine⟨_,(Zq (fB (sJ (tD hu (pw 1) (Zd 0))) (Zq (zJ (jR z7 rfl (M.aO _ T.Bw) AK (Zy (Zx fK (Zd 0) (pw 1)))) (zI (Zd 0) (pw 1) z4)) (As hu (Zd 0) (pw 1) ve rfl)) lT) (zJ (pw 3) (zI (Zx fK (Zd 0) (pw 1)) (pw 2) z4))),?_⟩;walk_at "ac";have il:(g.items.map V.ref).length=M0.heap.arrays.length:=by rw[bK];exact I.si.fu.length.symm
  have dl:(g.bg.map V.ref).length=M0.heap.tables.length:=by rw[bK];exact I.si.fb.length.symm
  have ho:=I.si.bI;obtain⟨xs,ex⟩:∃xs,M0.heap.arrays[i]? =some xs:=⟨_,f7 hi⟩
  obtain⟨t0,et,vs,h0,hv⟩:=I.si.fu.get _ _ ex;have gd:M0.heap.arrays.getD i []=xs:=by rw[gJ,ex];rfl
  rw[gd]at hk q;have vl:vs.length=xs.length:=hv.length.symm;have hat:cR (g.items.map V.ref) (i:Int)=some (V.ref t0):=fW (by rw[dX,et];rfl);have ixk:ja xs.length (k:Int)=some k:=xJ hk;rw[rh hi,rh hk]at q;have hh:=YX ex (show(xs.set k v).length=xs.length by rw[uC]);left;cases eo:cK g.oA (bZ (i:Int))with
  |some o=>
   refine⟨some o,by have:=eE.k (k:=bZ (i:Int)) ho;rw[eo]at this;exact this,?_⟩;left;have b1:bJ t0 H (aq H t0 (.ai (vs.set k x))):=bM;have tk:=b1.aj h0 fun _ z=>by cases z
   have JJ:=I.LG et (by rw[eo];rfl) b1 az (aX.set (hx.keep tk) k (aM hv tk)) hh;exact q _ g.items g.oA g.bx JJ (Fr.dY b1 (bX _ (bX _ (c7 _ (I.si.gj _ (dR et))))) (by have e:=I.mo JJ;exact e))
  |none=>
   refine⟨none,by have:=eE.k (k:=bZ (i:Int)) ho;rw[eo]at this;exact this,?_⟩;left;refine⟨vs,.inl (bV.of h0),fun l hl=>?_⟩;have n1:¬g.aZ=l:=bw hs hl;have n2:¬g.aG=l:=bw ha hl;have n3:¬g.bI=l:=bw ho hl;have n4:¬g.aZ=g.aG:=bG I.dk 4 6 rfl rfl (by decide);have n5:¬g.aZ=g.bI:=bG I.dk 4 9 rfl rfl (by decide);have n6:¬g.aG=g.bI:=bG I.dk 6 9 rfl rfl (by decide);have n7:¬g.bI=g.aG:=fun z=>n6 z.symm;have n8:¬l=g.aG:=fun z=>n2 z.symm;have n9:¬l=g.bI:=fun z=>n3 z.symm;have ixi:ja M0.heap.arrays.length (i:Int)=some i:=xJ hi;have hsz:g.oA.length<sizeLine:=by
    have:=Cp I.si.kA;have h2:M0.heap.arrays.length<=256:=W.heap.aR.arrays.1;rw[bK]at il;rw[bR];lia
   left;refine⟨_,jA.k (k:=bZ (i:Int)) (by rw[aJ n7,aJ n3];exact ho) hsz,?_⟩;have s2:aq (aq (aq H l (HO.ai vs)) g.aG (HO.ai ((g.items.map V.ref).set i (V.ref l)))) g.bI (HO.dK (ck g.oA (bZ (i:Int)) (V.bl true))) g.aZ=some (.aP (ak K "Store") g.d9 (ee g M0.heap)):=by rw[aJ n5,aJ n4,aJ n1];exact hs
   have r2:aq (aq (aq H l (HO.ai vs)) g.aG (HO.ai ((g.items.map V.ref).set i (V.ref l)))) g.bI (HO.dK (ck g.oA (bZ (i:Int)) (V.bl true))) g.aG=some (.ai ((g.items.map V.ref).set i (V.ref l))):=by rw[aJ n6];exact az
   have l2:aq (aq (aq H l (HO.ai vs)) g.aG (HO.ai ((g.items.map V.ref).set i (V.ref l)))) g.bI (HO.dK (ck g.oA (bZ (i:Int)) (V.bl true))) l=some (.ai vs):=by rw[aJ n9,aJ n8];exact az
   have o2:aq (aq (aq H l (HO.ai vs)) g.aG (HO.ai ((g.items.map V.ref).set i (V.ref l)))) g.bI (HO.dK (ck g.oA (bZ (i:Int)) (V.bl true))) g.bI=some (.dK (ck g.oA (bZ (i:Int)) (.bl true))):=az;have k2:∀b o,b≠g.aG->b≠g.bI->H b=some o->aq (aq (aq H l (HO.ai vs)) g.aG (HO.ai ((g.items.map V.ref).set i (V.ref l)))) g.bI (HO.dK (ck g.oA (bZ (i:Int)) (V.bl true))) b=some o:=fun b o m1 m2 e=>by rw[aJ m2,aJ m1,aJ (bw e hl)];exact e
   generalize aq (aq (aq H l (HO.ai vs)) g.aG (HO.ai ((g.items.map V.ref).set i (V.ref l)))) g.bI (HO.dK (ck g.oA (bZ (i:Int)) (V.bl true)))=H2 at *;have hat2:cR ((g.items.map V.ref).set i (V.ref l)) (i:Int)=some (V.ref l):=fW (by rw[ki (by lia)]);have J1:=I.V4 et h0 hl eo k2 l2 (by rw[r2,yp]) o2;have tk0:cq H H2:=fun b ys h=>k2 b _ (fun z=>by rw[z,ha]at h;cases h) (fun z=>by rw[z,ho]at h;cases h) h;have ei:(g.items.set i l)[i]? =some l:=ki (cP.mp et).1
   have ow:(cK (ck g.oA (bZ (i:Int)) (.bl true)) (bZ (i:Int))).isSome=true:=by rw[tu,if_pos rfl];rfl
   have fin:∀H3,bJ l H2 H3->Fr (aK m g) H (aK m {g with items:=g.items.set i l,oA:=ck g.oA (bZ (i:Int)) (.bl true),bx:=l::g.bx}) H3:=fun H3 b3=>by
    refine xn (fun v h=>BC (m:=m) (fun o e=>b3 m o (bw I.cy hl) e) v ((I.mo J1) v h)) hl (fun b hb=>.inl (c7 _ hb)) (fun b hb=>?_) (fun b o n e=>b3 b o (bw e hl) (k2 b o (fun z=>n (by rw[z];simp[aK,bu])) (fun z=>n (by rw[z];simp[aK,bu])) e));have hb':b∈g.fs++((l::g.bx)++g.sg.flatMap fun s=>[s.a,s.aG,s.aD]):=hb;rcases cS.mp hb' with z|z
    ·exact .inl (bX _ (c7 _ z))
    ·rw[jn]at z;rcases br.mp z with z|z
     ·exact .inr (.inl z)
     ·exact .inl (bX _ (bX _ z))
   clear hs ha;left;have b3:bJ l H2 (aq H2 l (.ai (vs.set k x))):=bM;have tk3:=b3.aj l2 fun _ z=>by cases z
   have tk:cq H (aq H2 l (.ai (vs.set k x))):=fun b ys h=>tk3 b ys (tk0 b ys h);exact q _ _ _ _ (J1.LG ei ow b3 az (aX.set (hx.keep tk) k (aM hv tk)) hh) (fin _ b3)
theorem Nb(T:Txt K)(M:MG K mg):ZM 4 "Store" "put_name" ["self","table","name","thing"] (YW K):=by
 refine ZB T.Bd.df Tu
 ·obtain⟨m,g,M0,i,n,x,v,rfl,_⟩:=h;rfl
 ·obtain⟨m,g,M0,i,n,x,v,rfl,I,W,hi,hx,q⟩:=h;have hu:=qK hr;refine⟨_,(Zq (Zz (PW.pt (o7 (sJ (tD hu (pw 2) (Zx fK (Zd 0) (pw 1)))) (o6 (Zc jF (Zl E0 (Zx fK (Zd 0) (pw 1))) (a8 M T.UT))))) (Zr T.kM T.lw lF T.kK T.lv)) (fB (sJ (tD hu (pw 1) (Zd 0))) (Zq (zJ (jR SN rfl (M.aO _ T.tV) tK (Zy (Zx fK (Zd 0) (pw 1)))) (zI (Zd 0) (pw 1) z4)) (As hu (Zd 0) (pw 1) ve rfl)) lT) (As hu (Zx fK (Zd 0) (pw 1)) (pw 2) (pw 3) rfl)),?_⟩;walk_at "ac";have il:(g.items.map V.ref).length=M0.heap.arrays.length:=by rw[bK];exact I.si.fu.length.symm
  have dl:(g.bg.map V.ref).length=M0.heap.tables.length:=by rw[bK];exact I.si.fb.length.symm
  have ho:=I.si.bz;obtain⟨xs,ex⟩:∃xs,M0.heap.tables[i]? =some xs:=⟨_,f7 hi⟩
  obtain⟨t0,et,vs,h0,hv⟩:=I.si.fb.get _ _ ex;have gd:M0.heap.tables.getD i []=xs:=by rw[gJ,ex];rfl
  rw[gd]at q;have vl:vs.length=xs.length:=hv.length.symm;have hat:cR (g.bg.map V.ref) (i:Int)=some (V.ref t0):=fW (by rw[dX,et];rfl);rw[rh hi]at q;have xl:xs.length<=64:=W.heap.aR.tables.2.2 xs (dR ex);have dg:eE H t0 (.str (bH n)) (cK vs (cX (bH n))):=eE.k (k:=cX (bH n)) h0;have dg2:eE H g.bz (.int (i:Int)) (cK g.oT (bZ (i:Int))):=eE.k (k:=bZ (i:Int)) ho;have ea:xs.all (fun x=>x.1 != n)= !(cK vs (cX (bH n))).isSome:=by
   rw[<-nH,BY hv,List.not_any_eq_all_not];rfl
  left;cases en:cK vs (cX (bH n))with
  |some y=>
   rw[en]at dg ea;rw[if_neg (by rw[ea];exact fun z=>by cases z.1)]at q;refine⟨some y,dg,?_⟩;left;cases eo:cK g.oT (bZ (i:Int))with
   |some o=>
    refine⟨some o,by rw[eo]at dg2;exact dg2,?_⟩;left;refine⟨_,jA.k (k:=cX (bH n)) h0 (by rw[bR];lia),?_⟩;have b1:bJ t0 H (aq H t0 (.dK (ck vs (cX (bH n)) x))):=bM;have tk:=b1.aj h0 fun _ z=>by cases z
    have JJ:=I.xo et (by rw[eo];rfl) b1 az (xq (hv.cG fun _ _ _ q=>⟨q.1,q.2.keep tk⟩) (hx.keep tk));exact q _ g.bg g.oT g.bx JJ (Fr.dY b1 (bX _ (bX _ (c7 _ (I.si.fZ _ (dR et))))) (by have e:=I.mo JJ;exact e))
   |none=>
    refine⟨none,by rw[eo]at dg2;exact dg2,?_⟩;left;intro l hl;have n1:¬g.aZ=l:=bw hs hl;have n2:¬g.aD=l:=bw ht hl;have n3:¬g.bz=l:=bw ho hl;have n4:¬g.aZ=g.aD:=bG I.dk 4 7 rfl rfl (by decide);have n5:¬g.aZ=g.bz:=bG I.dk 4 10 rfl rfl (by decide);have n6:¬g.aD=g.bz:=bG I.dk 7 10 rfl rfl (by decide);have n7:¬g.bz=g.aD:=fun z=>n6 z.symm;have n8:¬l=g.aD:=fun z=>n2 z.symm;have n9:¬l=g.bz:=fun z=>n3 z.symm;have ixi:ja M0.heap.tables.length (i:Int)=some i:=xJ hi;have hsz:g.oT.length<sizeLine:=by
     have:=Cp I.si.kT;have h2:M0.heap.tables.length<=32:=W.heap.aR.tables.2.1;rw[bK]at dl;rw[bR];lia
    left;refine⟨_,jA.k (k:=bZ (i:Int)) (by rw[aJ n7,aJ n3];exact ho) hsz,?_⟩;have s2:aq (aq (aq H l (HO.dK vs)) g.aD (HO.ai ((g.bg.map V.ref).set i (V.ref l)))) g.bz (HO.dK (ck g.oT (bZ (i:Int)) (V.bl true))) g.aZ=some (.aP (ak K "Store") g.d9 (ee g M0.heap)):=by rw[aJ n5,aJ n4,aJ n1];exact hs
    have r2:aq (aq (aq H l (HO.dK vs)) g.aD (HO.ai ((g.bg.map V.ref).set i (V.ref l)))) g.bz (HO.dK (ck g.oT (bZ (i:Int)) (V.bl true))) g.aD=some (.ai ((g.bg.map V.ref).set i (V.ref l))):=by rw[aJ n6];exact az
    have l2:aq (aq (aq H l (HO.dK vs)) g.aD (HO.ai ((g.bg.map V.ref).set i (V.ref l)))) g.bz (HO.dK (ck g.oT (bZ (i:Int)) (V.bl true))) l=some (.dK vs):=by rw[aJ n9,aJ n8];exact az
    have o2:aq (aq (aq H l (HO.dK vs)) g.aD (HO.ai ((g.bg.map V.ref).set i (V.ref l)))) g.bz (HO.dK (ck g.oT (bZ (i:Int)) (V.bl true))) g.bz=some (.dK (ck g.oT (bZ (i:Int)) (.bl true))):=az;have k2:∀b o,b≠g.aD->b≠g.bz->H b=some o->aq (aq (aq H l (HO.dK vs)) g.aD (HO.ai ((g.bg.map V.ref).set i (V.ref l)))) g.bz (HO.dK (ck g.oT (bZ (i:Int)) (V.bl true))) b=some o:=fun b o m1 m2 e=>by rw[aJ m2,aJ m1,aJ (bw e hl)];exact e
    generalize aq (aq (aq H l (HO.dK vs)) g.aD (HO.ai ((g.bg.map V.ref).set i (V.ref l)))) g.bz (HO.dK (ck g.oT (bZ (i:Int)) (V.bl true)))=H2 at *;have hat2:cR ((g.bg.map V.ref).set i (V.ref l)) (i:Int)=some (V.ref l):=fW (by rw[ki (by lia)]);have J1:=I.LF et h0 hl eo k2 l2 (by rw[r2,yp]) o2;have tk0:cq H H2:=fun b ys h=>k2 b _ (fun z=>by rw[z,ht]at h;cases h) (fun z=>by rw[z,ho]at h;cases h) h;have ei:(g.bg.set i l)[i]? =some l:=ki (cP.mp et).1
    have ow:(cK (ck g.oT (bZ (i:Int)) (.bl true)) (bZ (i:Int))).isSome=true:=by rw[tu,if_pos rfl];rfl
    have fin:∀H3,bJ l H2 H3->Fr (aK m g) H (aK m {g with bg:=g.bg.set i l,oT:=ck g.oT (bZ (i:Int)) (.bl true),bx:=l::g.bx}) H3:=fun H3 b3=>by
     refine xn (fun v h=>BC (m:=m) (fun o e=>b3 m o (bw I.cy hl) e) v ((I.mo J1) v h)) hl (fun b hb=>.inl (c7 _ hb)) (fun b hb=>?_) (fun b o n e=>b3 b o (bw e hl) (k2 b o (fun z=>n (by rw[z];simp[aK,bu])) (fun z=>n (by rw[z];simp[aK,bu])) e));have hb':b∈g.fs++((l::g.bx)++g.sg.flatMap fun s=>[s.a,s.aG,s.aD]):=hb;rcases cS.mp hb' with z|z
     ·exact .inl (bX _ (c7 _ z))
     ·rw[jn]at z;rcases br.mp z with z|z
      ·exact .inr (.inl z)
      ·exact .inl (bX _ (bX _ z))
    clear hs ht;left;refine⟨_,jA.k (k:=cX (bH n)) l2 (by rw[bR];lia),?_⟩;have b3:bJ l H2 (aq H2 l (.dK (ck vs (cX (bH n)) x))):=bM;have tk3:=b3.aj l2 fun _ z=>by cases z
    have tk:cq H (aq H2 l (.dK (ck vs (cX (bH n)) x))):=fun b ys h=>tk3 b ys (tk0 b ys h);exact q _ _ _ _ (J1.xo ei ow b3 az (xq (hv.cG fun _ _ _ q=>⟨q.1,q.2.keep tk⟩) (hx.keep tk))) (fin _ b3)
  |none=>
   rw[en]at dg ea;refine⟨none,dg,?_⟩;left;by_cases c:64<=xs.length
   ·rw[if_pos ⟨by rw[ea];rfl,c⟩]at q;rw[if_pos (by lia)];right;exact q
   ·rw[if_neg (fun z=>c z.2)]at q;rw[if_neg (by lia)];right;cases eo:cK g.oT (bZ (i:Int))with
    |some o=>
     refine⟨some o,by rw[eo]at dg2;exact dg2,?_⟩;left;refine⟨_,jA.k (k:=cX (bH n)) h0 (by rw[bR];lia),?_⟩;have b1:bJ t0 H (aq H t0 (.dK (ck vs (cX (bH n)) x))):=bM;have tk:=b1.aj h0 fun _ z=>by cases z
     have JJ:=I.xo et (by rw[eo];rfl) b1 az (xq (hv.cG fun _ _ _ q=>⟨q.1,q.2.keep tk⟩) (hx.keep tk));exact q _ g.bg g.oT g.bx JJ (Fr.dY b1 (bX _ (bX _ (c7 _ (I.si.fZ _ (dR et))))) (by have e:=I.mo JJ;exact e))
    |none=>
     refine⟨none,by rw[eo]at dg2;exact dg2,?_⟩;left;intro l hl;have n1:¬g.aZ=l:=bw hs hl;have n2:¬g.aD=l:=bw ht hl;have n3:¬g.bz=l:=bw ho hl;have n4:¬g.aZ=g.aD:=bG I.dk 4 7 rfl rfl (by decide);have n5:¬g.aZ=g.bz:=bG I.dk 4 10 rfl rfl (by decide);have n6:¬g.aD=g.bz:=bG I.dk 7 10 rfl rfl (by decide);have n7:¬g.bz=g.aD:=fun z=>n6 z.symm;have n8:¬l=g.aD:=fun z=>n2 z.symm;have n9:¬l=g.bz:=fun z=>n3 z.symm;have ixi:ja M0.heap.tables.length (i:Int)=some i:=xJ hi;have hsz:g.oT.length<sizeLine:=by
      have:=Cp I.si.kT;have h2:M0.heap.tables.length<=32:=W.heap.aR.tables.2.1;rw[bK]at dl;rw[bR];lia
     left;refine⟨_,jA.k (k:=bZ (i:Int)) (by rw[aJ n7,aJ n3];exact ho) hsz,?_⟩;have s2:aq (aq (aq H l (HO.dK vs)) g.aD (HO.ai ((g.bg.map V.ref).set i (V.ref l)))) g.bz (HO.dK (ck g.oT (bZ (i:Int)) (V.bl true))) g.aZ=some (.aP (ak K "Store") g.d9 (ee g M0.heap)):=by rw[aJ n5,aJ n4,aJ n1];exact hs
     have r2:aq (aq (aq H l (HO.dK vs)) g.aD (HO.ai ((g.bg.map V.ref).set i (V.ref l)))) g.bz (HO.dK (ck g.oT (bZ (i:Int)) (V.bl true))) g.aD=some (.ai ((g.bg.map V.ref).set i (V.ref l))):=by rw[aJ n6];exact az
     have l2:aq (aq (aq H l (HO.dK vs)) g.aD (HO.ai ((g.bg.map V.ref).set i (V.ref l)))) g.bz (HO.dK (ck g.oT (bZ (i:Int)) (V.bl true))) l=some (.dK vs):=by rw[aJ n9,aJ n8];exact az
     have o2:aq (aq (aq H l (HO.dK vs)) g.aD (HO.ai ((g.bg.map V.ref).set i (V.ref l)))) g.bz (HO.dK (ck g.oT (bZ (i:Int)) (V.bl true))) g.bz=some (.dK (ck g.oT (bZ (i:Int)) (.bl true))):=az;have k2:∀b o,b≠g.aD->b≠g.bz->H b=some o->aq (aq (aq H l (HO.dK vs)) g.aD (HO.ai ((g.bg.map V.ref).set i (V.ref l)))) g.bz (HO.dK (ck g.oT (bZ (i:Int)) (V.bl true))) b=some o:=fun b o m1 m2 e=>by rw[aJ m2,aJ m1,aJ (bw e hl)];exact e
     generalize aq (aq (aq H l (HO.dK vs)) g.aD (HO.ai ((g.bg.map V.ref).set i (V.ref l)))) g.bz (HO.dK (ck g.oT (bZ (i:Int)) (V.bl true)))=H2 at *;have hat2:cR ((g.bg.map V.ref).set i (V.ref l)) (i:Int)=some (V.ref l):=fW (by rw[ki (by lia)]);have J1:=I.LF et h0 hl eo k2 l2 (by rw[r2,yp]) o2;have tk0:cq H H2:=fun b ys h=>k2 b _ (fun z=>by rw[z,ht]at h;cases h) (fun z=>by rw[z,ho]at h;cases h) h;have ei:(g.bg.set i l)[i]? =some l:=ki (cP.mp et).1
     have ow:(cK (ck g.oT (bZ (i:Int)) (.bl true)) (bZ (i:Int))).isSome=true:=by rw[tu,if_pos rfl];rfl
     have fin:∀H3,bJ l H2 H3->Fr (aK m g) H (aK m {g with bg:=g.bg.set i l,oT:=ck g.oT (bZ (i:Int)) (.bl true),bx:=l::g.bx}) H3:=fun H3 b3=>by
      refine xn (fun v h=>BC (m:=m) (fun o e=>b3 m o (bw I.cy hl) e) v ((I.mo J1) v h)) hl (fun b hb=>.inl (c7 _ hb)) (fun b hb=>?_) (fun b o n e=>b3 b o (bw e hl) (k2 b o (fun z=>n (by rw[z];simp[aK,bu])) (fun z=>n (by rw[z];simp[aK,bu])) e));have hb':b∈g.fs++((l::g.bx)++g.sg.flatMap fun s=>[s.a,s.aG,s.aD]):=hb;rcases cS.mp hb' with z|z
      ·exact .inl (bX _ (c7 _ z))
      ·rw[jn]at z;rcases br.mp z with z|z
       ·exact .inr (.inl z)
       ·exact .inl (bX _ (bX _ z))
     clear hs ht;left;refine⟨_,jA.k (k:=cX (bH n)) l2 (by rw[bR];lia),?_⟩;have b3:bJ l H2 (aq H2 l (.dK (ck vs (cX (bH n)) x))):=bM;have tk3:=b3.aj l2 fun _ z=>by cases z
     have tk:cq H (aq H2 l (.dK (ck vs (cX (bH n)) x))):=fun b ys h=>tk3 b ys (tk0 b ys h);exact q _ _ _ _ (J1.xo ei ow b3 az (xq (hv.cG fun _ _ _ q=>⟨q.1,q.2.keep tk⟩) (hx.keep tk))) (fin _ b3)
theorem Cq:(ZE "number" "arrays" "tables" "held")/\(ZE "arrays" "number" "tables" "held")/\(ZE "tables" "number" "arrays" "held")/\(ZE "held" "number" "arrays" "tables")/\(ZE "lacks" "number" "arrays" "tables" "held"):=by
 (repeat' apply xQ)<;>decide
inductive Nc(K:ax)(vs:List V)(H:Hp)(Q:VK)(E:XK):Prop
 |mk:∀(s:SG)(h:b9)(t:aB)(v:V)(aF:List Int)(k:Nat),(vs=[.ref s.a,v])->(lD K H h s)->(bF H aF t v)->(aF.Pairwise (· < ·))->(aF[k]? =some s.eJ)->(Q (.bl (jI h k t)) H)->Nc K vs H Q E
def YZ(K:ax):Sp:=fun vs H Q E=>Nc K vs H Q E
inductive Nd(K:ax)(vs:List V)(H:Hp)(Q:VK)(E:XK):Prop
 |mk:∀m g M,(vs=[.ref g.aZ])->(MI K (bc K) m g M H)->(Wf M)->(if 4<=M.kept.length then Er E (-7) H else
 ∀a H' bI bz made sg,MI K (bc K) m {g with bI:=bI,bz:=bz,made:=made,sg:=sg,oA:=[],oT:=[]} {M with kept:=M.kept++[M.heap]} H'->Fr (aK m g) H (aK m {g with bI:=bI,bz:=bz,made:=made,sg:=sg,oA:=[],oT:=[]}) H'->(∃n,(sg.map (·.eJ))[M.kept.length]? =some n/\H' a=some (.aj [.str "state",.int n]))->Q (.ref a) H')->Nd K vs H Q E
def Y0(K:ax):Sp:=fun vs H Q E=>Nd K vs H Q E
inductive Nf(K:ax)(vs:List V)(H:Hp)(Q:VK)(E:XK):Prop
 |mk:∀(m:ae)(g:G)(M:aY)(k:Nat)(s:SG),(vs=[.ref g.aZ,.int s.eJ])->(MI K (bc K) m g M H)->(Wf M)->(g.sg[k]? =some s)->(Q (.ref s.a) H)->Nf K vs H Q E
def Y1(K:ax):Sp:=fun vs H Q E=>Nf K vs H Q E
inductive Ng(K:ax)(vs:List V)(H:Hp)(Q:VK)(E:XK):Prop
 |mk:∀(m:ae)(g:G)(M:aY)(k:Nat)(s:SG)(h:b9),(vs=[.ref g.aZ,.ref s.a])->(MI K (bc K) m g M H)->(Wf M)->(g.sg[k]? =some s)->(M.kept[k]? =some h)->(aX (bF H (g.aF.take k)) M.stack g.l)->(∀H' sl d1 d2,MI K (bc K) m {g with aG:=s.aG,aD:=s.aD,bQ:=sl,bI:=d1,bz:=d2,items:=s.items,bg:=s.bg,sg:=g.sg.take k,oA:=[],oT:=[]} {M with heap:=h,kept:=M.kept.take k} H'->
  Fr (aK m g) H (aK m {g with aG:=s.aG,aD:=s.aD,bQ:=sl,bI:=d1,bz:=d2,items:=s.items,bg:=s.bg,sg:=g.sg.take k,oA:=[],oT:=[]}) H'->Q .aO H')->Ng K vs H Q E
def Y2(K:ax):Sp:=fun vs H Q E=>Ng K vs H Q E
theorem Cr{l:List Int}(h:l.Pairwise (· < ·)){i j:Nat}{a b:Int}(ha:l[i]? =some a)(hb:l[j]? =some b):a<=b↔i<=j:=by
 obtain⟨hi,ea⟩:=cP.mp ha;obtain⟨hj,eb⟩:=cP.mp hb;rw[List.pairwise_iff_getElem]at h;constructor
 ·intro z;by_cases c:i<=j
  ·exact c
  ·have:=h j i hj hi (by lia);rw[ea,eb]at this;lia
 ·intro z;by_cases c:i=j
  ·subst c;rw[<-ea,<-eb];exact Int.le_refl _
  ·have:=h i j hi hj (by lia);rw[ea,eb]at this;lia
local macro_rules| `(tactic|walk_at "rd0")=>`(tactic|simp only[b3,aQ,mU,xD,Ck,Nat.reduceLT,nI,Ar,zH,z3,oI,sh,Cq,beq_self_eq_true,nq, *])
theorem Y3(T:Txt K)(M:MG K mg):ZM 1 "State" "lacks" ["self","thing"] (YZ K):=by
 refine ZB T.IW.df To
 ·obtain⟨s,h,t,v,aF,k,rfl,_⟩:=h;rfl
 ·obtain⟨s,h,t,v,aF,k,rfl,S,ht,hp,hk,q⟩:=h;refine⟨_,(Zq (Zz (Zc dz (Zi (pw 1)) (a8 M T.pJ)) (dh (iy jF (Zi (pw 1)) (Zl dD (Zd 0)) (gz _)))) (Zz (Zc dz (Zi (pw 1)) (a8 M T.pK)) (dh (iy jF (Zi (pw 1)) (Zl dD (Zd 0)) (gz _)))) (dh (zE (iy dz (Zi (pw 1)) (a8 M T.qX) (gz _)) (zD (iy jF (Zi (pw 1)) (Zd 0) (gz _)))))),?_⟩;have cs:=T.wJ;have b1:=T.wN;have b2:=T.wO;have b3:=T.wQ;have b4:=T.wR;have h1:=S.obj;have h2:=S.aG;have h3:=S.aD;have l1:(s.items.map V.ref).length=h.arrays.length:=by rw[bK];exact S.fu.length.symm
  have l2:(s.bg.map V.ref).length=h.tables.length:=by rw[bK];exact S.fb.length.symm
  obtain⟨a,x,rfl,ea,hx⟩:=ht;cases t with
  |arr j=>
   rw[bU]at hx;subst hx;have ea1:H a=some (.aj [.str "array",.int j]):=ea;have q2:Q (.bl (decide ((h.arrays.length:Int)<=(j:Int)))) H:=by
    rw[show decide ((h.arrays.length:Int)<=(j:Int))=decide (h.arrays.length<=j)by rw[decide_eq_decide];omega];exact q
   clear ea q;left
  |table j=>
   rw[bU]at hx;subst hx;have ea1:H a=some (.aj [.str "table",.int j]):=ea;have q2:Q (.bl (decide ((h.tables.length:Int)<=(j:Int)))) H:=by
    rw[show decide ((h.tables.length:Int)<=(j:Int))=decide (h.tables.length<=j)by rw[decide_eq_decide];omega];exact q
   clear ea q;left
  |state j=>
   rw[bU]at hx;obtain⟨n,en,rfl⟩:=hx;have ea1:H a=some (.aj [.str "state",.int n]):=ea;have q2:Q (.bl (decide (s.eJ<=n))) H:=by
    rw[show decide (s.eJ<=n)=decide (k<=j)by rw[decide_eq_decide];exact Cr hp hk en];exact q
   clear ea q;left
  |int j=>
   have ea1:H a=some (.aj [.str "number",x]):=ea;have q2:Q (.bl false) H:=q;clear ea hx q;left
  |truth j=>
   have ea1:H a=some (.aj [.str "truth",x]):=ea;have q2:Q (.bl false) H:=q;clear ea hx q;left
  |lit j=>
   have ea1:H a=some (.aj [.str "name",x]):=ea;have q2:Q (.bl false) H:=q;clear ea hx q;left
  |mark=>
   have ea1:H a=some (.aj [.str "mark",x]):=ea;have q2:Q (.bl false) H:=q;clear ea hx q;left
  |proc j=>
   have ea1:H a=some (.aj [.str "procedure",x]):=ea;have q2:Q (.bl false) H:=q;clear ea hx q;left
  |word j=>
   have ea1:H a=some (.aj [.str "word",x]):=ea;have q2:Q (.bl false) H:=q;clear ea hx q;left
theorem Y4(T:Txt K)(M:MG K mg):ZM 4 "Store" "state_of" ["self","number"] (Y1 K):=by
 refine ZB T.Ja.df GB
 ·obtain⟨m,g,M0,k,s,rfl,_⟩:=h;rfl
 ·obtain⟨m,g,M0,k,s,rfl,I,W,hk,q⟩:=h;refine⟨_,(Zq (sM jB rfl (l7 (Zd 0)) (jO (i:=2) GB.nd rfl (eN rfl)) (cg (Zz (Zc dz (Ze (pw 2)) (pw 1)) (dh (pw 2))))) (Zr T.Br T.Kl Lc T.A6 T.Kk)),?_⟩;walk_at "ac";have il:(g.items.map V.ref).length=M0.heap.arrays.length:=by rw[bK];exact I.si.fu.length.symm
  have dl:(g.bg.map V.ref).length=M0.heap.tables.length:=by rw[bK];exact I.si.fb.length.symm
  have cs:=T.wJ;have b1:=T.wN;have b2:=T.wO;have b3:=T.wQ;have b4:=T.wR;have ho:=I.si.bQ;left;conv=>whnf
  rw[hs];refine⟨hc,a3,?_⟩;rw[u6 g M0.heap];refine⟨g.bQ,rfl,⟨_,bV.of ho⟩,D0 (K:=K) (a:=g.bQ) (xs:=g.sg.map fun s=>V.ref s.a) (fun i σ' H'=>∃x2,σ'=[some (.ref g.aZ),some (.int s.eJ),x2]/\H'=H/\i<=k) ?_ ?_ ?_ ?_⟩
  ·exact⟨none,rfl,rfl,cI _⟩
  ·rintro i σ' H' _ ⟨x2,rfl,rfl,_⟩;exact bV.of ho
  ·rintro i x σ' H' hx ⟨x2,rfl,rfl,hi⟩;rw[dX]at hx;obtain⟨u,eu,rfl⟩:=jt.mp hx;obtain⟨hp,_,S⟩:=I.si.jf.hX i u eu;have so:=S.obj;by_cases c:i=k
   ·subst c;rw[hk]at eu;cases eu;left
   ·have hn:¬u.eJ=s.eJ:=fun z=>by
     have e1:g.aF[i]? =some u.eJ:=by unfold G.aF;rw[dX,eu];rfl
     have e2:g.aF[k]? =some s.eJ:=by unfold G.aF;rw[dX,hk];rfl
     have h1:=(Cr I.si.iB e2 e1).mp (by rw[z];exact Int.le_refl _)
     lia
    left
    lia
  ·rintro σ' H' ⟨x2,rfl,rfl,hi⟩;have:=(cP.mp hk).1;rw[bK]at hi
   lia
section
variable{X:Cx}{K:ax}
theorem Cs{e:bq}{f:af}{pos:cx}{ta:TE}(h:X.K=K)(he:PE X e ta)(hb:km e f X.ah (eval e X.ah)=eval e X.ah):PE X (.Attribute e f pos) (oU K ta f):=by subst h;exact lp he hb
theorem Y5{o e:bq}{es:List bq}{m c qual:af}{st:aH}{ps:List af}{sp:Sp}{CX:e8}{k:Nat}{E:XK}{to:TE}{t:TA}{pos apos:cx}{pl:Sem Bool}(h:X.K=K)(he:PE X o to)(D:dB K c m qual st ps)(F:dG X.prog X.w K X.mg X.base CX k (cj K c m) (iN K (cj K c m)) ps sp)(hr:c6 k X.A)(hx:gs CX X E)(ha:PA X (e::es) t)
(hst:b8 (e::es) X.ah=(false,eval e X.ah)::b8 es X.ah:=by rfl)(hpl:(dU pos (b8 es X.ah)).any (·.1)=false:=by rfl)
(ht:eval (.Call (.Attribute o m apos) (e::es) [] pos) X.ah=(do
   let ov <-eval o X.ah
   standAt apos.atName
   let(f,first) <-holding [ov] (getMethod ov m pl)
   callWith pos f first (dU pos (b8 (e::es) X.ah)) (backToKw pos (jr [] X.ah))):=by rfl):
  PE X (.Call (.Attribute o m apos) (e::es) [] pos) (lU (ak K c) m sp [] E to t):=by subst h;exact yJ he D F hr hx ha hst hpl ht
end
def pT(g:G)(h:b9)(n:Int):List (af×V):=[("arrays",.ref g.aG),("tables",.ref g.aD),("states",.ref g.bQ),("states_made",.int n),("held",.int (dI h)),("own_arrays",.ref g.bI),("own_tables",.ref g.bz)]
theorem Nh(g:G)(h:b9)(n:Int):aQ "states_made" (.int n) (ee g h)=pT g h n:=rfl
theorem Ni(g:G)(h:b9)(n:Int):(pT g h n).lookup ("share_all":af)=none:=rfl
def fw(ar tb st:ae)(md hd:Int)(oa ot:ae):List (af×V):=[("arrays",.ref ar),("tables",.ref tb),("states",.ref st),("states_made",.int md),("held",.int hd),("own_arrays",.ref oa),("own_tables",.ref ot)]
theorem Nj{ar tb st:ae}{md hd:Int}{oa ot:ae}:(fw ar tb st md hd oa ot).length=7:=rfl
theorem Y6{ar tb st:ae}{md hd:Int}{oa ot x:ae}:aQ "states" (.ref x) (fw ar tb st md hd oa ot)=fw ar tb x md hd oa ot:=rfl
theorem Y7{ar tb st:ae}{md hd:Int}{oa ot x:ae}:aQ "arrays" (.ref x) (fw ar tb st md hd oa ot)=fw x tb st md hd oa ot:=rfl
theorem Y8{ar tb st:ae}{md hd:Int}{oa ot x:ae}:aQ "tables" (.ref x) (fw ar tb st md hd oa ot)=fw ar x st md hd oa ot:=rfl
theorem Y9{ar tb st:ae}{md hd x:Int}{oa ot:ae}:aQ "held" (.int x) (fw ar tb st md hd oa ot)=fw ar tb st md x oa ot:=rfl
theorem Zb{ar tb st:ae}{md hd:Int}{oa ot:ae}:(fw ar tb st md hd oa ot).lookup ("share_all":af)=none:=rfl
local macro_rules| `(tactic|walk_at "rd0")=>`(tactic|simp only[b3,mU,Nh,Ni,Nat.reduceLT,Cq,beq_self_eq_true,nq,eW,lr, *])
local macro_rules| `(tactic|walk_at "rd20")=>`(tactic|simp only[b3,xD,Nj,Y6,Y7,Y8,Y9,Zb,mU,Nh,Ni,Nat.reduceLT,Cq,beq_self_eq_true,nq,eW,lr, *])
local macro_rules| `(tactic|walk_at "rd2")=>`(tactic|((try refine qp ?_);(try walk_at "rd20");repeat(refine qp ?_;try walk_at "rd20")))
theorem Zg(T:Txt K)(M:MG K mg):ZM 4 "Store" "keep_state" ["self"] (Y0 K):=by
 refine ZC T.I0.df Gz
 ·nofun;refine⟨_,(Zq (Zz (Zc jF (Zl dD (Zd 0)) (a8 M T.UU)) (Zr T.kM T.lw lF T.kK T.lv)) (Zs 1 Gz (Zd 0)) (aE (Za iP (Zd 0) (Zm T.Uv Yl T.Uu T.IV (pw 1) (jR z7 rfl (M.aO _ T.Bw) AK (Zy (Zd 0))) (jR z7 rfl (M.aO _ T.Bw) AK (Zy (Zd 0))) (Zd 0)))) (nu (pw 0) aS pj) (aE (Zw (pw 0) T.Be MT)) (dh (Zt (a8 M T.qX) (pw 1)))),?_⟩;walk_at "ac";have il:(g.items.map V.ref).length=M0.heap.arrays.length:=by rw[bK];exact I.si.fu.length.symm
  have dl:(g.bg.map V.ref).length=M0.heap.tables.length:=by rw[bK];exact I.si.fb.length.symm
  have ho:=I.si.bQ;have sgl:(g.sg.map fun s=>V.ref s.a).length=M0.kept.length:=by rw[bK];exact I.si.jf.length.symm
  left;by_cases c:4<=M0.kept.length
  ·rw[if_pos c]at q;rw[if_pos (by lia)];right;exact q
  ·rw[if_neg c]at q;rw[if_neg (by lia)];right;refine⟨dc ho,_,.inl (bV.of ha),fun la hla=>?_⟩;have k1:=bA (o:=HO.ai (g.items.map V.ref)) hla;have la1:aq H la (HO.ai (g.items.map V.ref)) la=some (.ai (g.items.map V.ref)):=az;generalize aq H la (HO.ai (g.items.map V.ref))=H1 at *;have hs1:=k1 _ _ hs;have ht1:=k1 _ _ ht;have z2:2<=sizeLine:=by rw[bR];decide
   have zk:M0.kept.length<sizeLine:=by rw[bR];lia
   have q0:=q;clear q;left;refine⟨_,.inl (bV.of ht1),fun lt hlt=>?_⟩;have k2:=bA (o:=HO.ai (g.bg.map V.ref)) hlt;have lt2:aq H1 lt (HO.ai (g.bg.map V.ref)) lt=some (.ai (g.bg.map V.ref)):=az;generalize aq H1 lt (HO.ai (g.bg.map V.ref))=H2 at *;have hs2:=k2 _ _ hs1;have la2:=k2 _ _ la1;have ho2:=k2 _ _ (k1 _ _ ho);left;intro a dx hA hdx ndx;refine⟨a,dx,_,_,_,_,rfl,az,fun H3 bb h3=>⟨rfl,?_⟩⟩;have k3:=iD hA hdx bb;have hs3:=k3 _ _ hs2;have la3:=k3 _ _ la2;have lt3:=k3 _ _ lt2;have ho3:=k3 _ _ ho2;have kk:=(k1.trans k2).trans k3;have na1:¬g.aZ=g.bQ:=bG I.dk 4 8 rfl rfl (by decide);have hs4:aq H3 g.bQ (.ai ((g.sg.map fun s=>V.ref s.a)++[V.ref a])) g.aZ=some (.aP (ak K "Store") g.d9 (ee g M0.heap)):=by rw[aJ na1];exact hs3
   have b4:bJ g.bQ H3 (aq H3 g.bQ (.ai ((g.sg.map fun s=>V.ref s.a)++[V.ref a]))):=bM;have o4:aq H3 g.bQ (.ai ((g.sg.map fun s=>V.ref s.a)++[V.ref a])) g.bQ=some (.ai ((g.sg.map fun s=>V.ref s.a)++[V.ref a])):=az;have nl:la≠lt:=bw la1 hlt;clear la1 la2 lt2 ho2 hs1 hs2 ht1;left;have k5:∀b o,b≠g.bQ->b≠g.aZ->H3 b=some o->aq (aq H3 g.bQ (.ai ((g.sg.map fun s=>V.ref s.a)++[V.ref a]))) g.aZ (.aP (ak K "Store") g.d9 (pT g M0.heap (g.made+1))) b=some o:=fun b o n1 n2 e=>by rw[aJ n2,aJ n1];exact e
   have o5:aq (aq H3 g.bQ (.ai ((g.sg.map fun s=>V.ref s.a)++[V.ref a]))) g.aZ (.aP (ak K "Store") g.d9 (pT g M0.heap (g.made+1))) g.bQ=some (.ai ((g.sg.map fun s=>V.ref s.a)++[V.ref a])):=by rw[aJ (fun z=>na1 z.symm)];exact o4
   have s5:aq (aq H3 g.bQ (.ai ((g.sg.map fun s=>V.ref s.a)++[V.ref a]))) g.aZ (.aP (ak K "Store") g.d9 (pT g M0.heap (g.made+1))) g.aZ=some (.aP (ak K "Store") g.d9 (pT g M0.heap (g.made+1))):=az;generalize aq (aq H3 g.bQ (.ai ((g.sg.map fun s=>V.ref s.a)++[V.ref a]))) g.aZ (.aP (ak K "Store") g.d9 (pT g M0.heap (g.made+1)))=H5 at *;refine⟨by show 7<1000;decide,?_⟩;right;refine⟨g.aZ,g.d9,_,rfl,s5,by show 7<900;decide,fun d1 d2 H6 f1 f2 nd12 b6 e1 e2 e3=>?_⟩;right;intro p hp;have fn:∀d,H5 d=none->H3 d=none:=fun d hd=>by
    cases e:H3 d with
    |none=>rfl
    |some o=>
     by_cases z1:d=g.bQ
     ·rw[z1,o5]at hd;cases hd
     ·by_cases z2:d=g.aZ
      ·rw[z2,s5]at hd;cases hd
      ·rw[k5 d o z1 z2 e]at hd;cases hd
   have k7:=bA (o:=HO.aj [V.str "state",V.int g.made]) hp;have t7:aq H6 p (HO.aj [V.str "state",V.int g.made]) p=some (.aj [V.str "state",V.int g.made]):=az;generalize aq H6 p (HO.aj [V.str "state",V.int g.made])=H7 at *;have kA:∀b o,b≠g.bQ->b≠g.aZ->H3 b=some o->H7 b=some o:=fun b o n1 n2 e=>k7 _ _ (b6 b o n2 (k5 b o n1 n2 e));have fa:H a=none:=(k1.trans k2).free hA;have fla:=hla;have i6:H lt=none:=k1.free hlt;have fd1:H d1=none:=kk.free (fn d1 f1);have fd2:H d2=none:=kk.free (fn d2 f2);have nes:∀{c},H c=none->c≠g.bQ/\c≠g.aZ:=fun{c} hc=>⟨fun z=>(by rw[z,ho]at hc;cases hc),fun z=>(by rw[z,hs]at hc;cases hc)⟩;have a7:=kA _ _ (nes fa).1 (nes fa).2 h3;have la7:=kA _ _ (nes fla).1 (nes fla).2 la3;have lt7:=kA _ _ (nes i6).1 (nes i6).2 lt3;have hk:∀b o,b≠g.bQ->b≠g.aZ->H b=some o->H7 b=some o:=fun b o n1 n2 e=>kA b o n1 n2 (kk b o e);have ad:∀c,c=a\/c=la\/c=lt->c≠d1/\c≠d2:=fun c hc=>by
    have:∃o,H3 c=some o:=by
     rcases hc with rfl|rfl|rfl
     ·exact⟨_,h3⟩
     ·exact⟨_,la3⟩
     ·exact⟨_,lt3⟩
    obtain⟨o,e⟩:=this;exact⟨bw e (fn d1 f1),bw e (fn d2 f2)⟩
   have J:=I.WN (dx:=dx) fa fla i6 fd1 fd2 (fun z=>by rw[z,la3]at h3;cases h3) (fun z=>by rw[z,lt3]at h3;cases h3) nl nd12 ad hk a7 la7 lt7 (k7 _ _ e1) (k7 _ _ e2) (k7 _ _ (b6 _ _ (fun z=>na1 z.symm) o5)) (k7 _ _ e3);refine q0 p H7 d1 d2 _ _ J ⟨fun b o e n=>hk b o (fun z=>n (by rw[z];simp[aK,bu])) (fun z=>n (by rw[z];simp[aK,bu])) e,fun b hb=>?_,rfl,I.mo J⟩ ⟨g.made,?_,t7⟩
   ·rcases cS.mp hb with z|z
    ·have z':b∈((bu m g).set 9 d1).set 10 d2:=z;rcases f8 z' with z|z
     ·rcases f8 z with z|z
      ·exact .inl (c7 _ z)
      ·exact .inr (z▸fd1)
     ·exact .inr (z▸fd2)
    ·have z':b∈g.fs++(g.bx++(g.sg++[(⟨a,dx,la,lt,g.made,g.items,g.bg⟩:SG)]).flatMap fun s:SG=>[s.a,s.aG,s.aD]):=z;rw[Dg,<-ir,<-ir]at z';rcases cS.mp z' with z|z
     ·rw[ir]at z;exact .inl (bX _ z)
     ·simp only[yx,OV,kW,br,gK,or_false]at z;rcases z with rfl|rfl|rfl
      ·exact .inr fa
      ·exact .inr fla
      ·exact .inr i6
   ·rw[eY,CJ (by rw[bK,<-sgl,bK];exact bY _),bK,<-sgl,bK,Nat.sub_self];rfl
theorem Ct:ZS ["self","state","other"] ["self","state"] wc:=by symm
theorem Zh(T:Txt K)(M:MG K mg):ZM 2 "Store" "bring_back" ["self","state"] (Y2 K):=by
 refine ZB T.Jb.df Ct
 ·obtain⟨m,g,M0,k,s,h,rfl,_⟩:=h;rfl
 ·obtain⟨m,g,M0,k,s,h,rfl,I,W,hk,hh,sv,q⟩:=h;refine⟨_,(Zq (ij (pw 0) (qE (own:=[("other",2)]) rfl Ct.nd (l7 (Zd 0)) (by refine show kC ["self","state","other"] (eU wc) _ [("other",2)]from ?_;exact⟨rfl,by decide,by decide,by decide,by decide⟩) (fun _ _ _ _ _=>jO (i:=2) Ct.nd rfl (eN rfl)) (fun _ _ _ _ _=>(EG (qe iO (Cs (K:=K) rfl (pw 2) rfl) (Cs (K:=K) rfl (pw 1) rfl) (gz _)))) (fun _ _ _ _ _=>(pw 2))) rfl) (ij (pw 0) (Ze (pw 1)) rfl) (ij (pw 0) (Ze (pw 1)) rfl) (ij (pw 0) (Ze (pw 1)) rfl) (aE (Zw (pw 0) T.Be MT))),?_⟩;walk_at "ac";have il:(g.items.map V.ref).length=M0.heap.arrays.length:=by rw[bK];exact I.si.fu.length.symm
  have dl:(g.bg.map V.ref).length=M0.heap.tables.length:=by rw[bK];exact I.si.fb.length.symm
  have cs:=T.wJ;have b1:=T.wN;have b2:=T.wO;have b3:=T.wQ;have b4:=T.wR;have ho:=I.si.bQ;have kl:k<g.sg.length:=(cP.mp hk).1;have sgl:g.sg.length<=4:=by rw[<-I.si.jf.length];exact W.aR.kept.1
  left;conv=>whnf
  rw[hs];refine⟨hc,a3,?_⟩;rw[u6 g M0.heap];refine⟨g.bQ,rfl,⟨_,bV.of ho⟩,fun D hD=>?_⟩;obtain⟨h',eh',S⟩:=I.si.jf.hX k s hk;rw[hh]at eh';cases eh';have nDs:D≠g.bQ:=fun z=>by rw[z,ho]at hD;cases hD
  have au:∀(i:Nat)(u:SG),g.sg[i]? =some u->∀H',bJ D H H'->∃hd,H' u.a=some (.aP (ak K "State") u.dx [("number",.int u.eJ),("arrays",.ref u.aG),("tables",.ref u.aD),("held",hd)]):=fun i u eu H' b=>by
   obtain⟨hp,_,S2⟩:=I.si.jf.hX i u eu;exact⟨_,b _ _ (bw S2.obj hD) S2.obj⟩
  refine pk (K:=K) (a:=g.bQ) (xs:=g.sg.map fun s=>V.ref s.a) (fun i H'=>bJ D H H'/\H' D=some (.ai ((g.sg.take (min i k)).map fun s=>V.ref s.a))) ?_ ?_ ?_ ?_
  ·exact⟨bM,by rw[Nat.zero_min];exact az⟩
  ·rintro i H' _ ⟨h1,_⟩;exact bV.of (h1 _ _ (cM nDs) ho)
  ·rintro i x H' hx ⟨h1,h2⟩;rw[dX]at hx;obtain⟨u,eu,rfl⟩:=jt.mp hx;obtain⟨hd1,o1⟩:=au i u eu H' h1;obtain⟨hd2,o2⟩:=au k s hk H' h1;have il:=(cP.mp eu).1;have e1:g.aF[i]? =some u.eJ:=by unfold G.aF;rw[dX,eu];rfl
   have e2:g.aF[k]? =some s.eJ:=by unfold G.aF;rw[dX,hk];rfl
   have lt:u.eJ<s.eJ↔i<k:=by
    have:=Cr I.si.iB e2 e1;constructor
    ·intro z;exact rY fun y=>absurd (this.mpr y) (by lia)
    ·intro z;exact Int.lt_of_not_ge fun y=>absurd (this.mp y) (by lia)
   refine⟨rfl,?_⟩;by_cases c:i<k
   ·have c2:=lt.mpr c;rw[oN (by lia)]at h2;left;refine⟨by rw[bK,eI,bR];lia,h1.trans bM,?_⟩;rw[oN (by lia),m3 il,eY,(cP.mp eu).2];rfl
   ·have c2:¬u.eJ<s.eJ:=fun z=>c (lt.mp z);rw[O3 (by lia)]at h2;left;rw[O3 (by lia)]
  ·rintro H1 ⟨h1,h2⟩;rw[bK,O3 (by lia)]at h2;have k1:L2.aL H H1:=fun b o e=>h1 b o (bw e hD) e;have hs1:H1 g.aZ=some (.aP (ak K "Store") g.d9 (fw g.aG g.aD g.bQ g.made (dI M0.heap) g.bI g.bz)):=k1 _ _ hs;have so1:=k1 _ _ S.obj;have nas:¬s.a=g.aZ:=fun z=>(I.dt (x:=g.aZ) (by simp[bu])).2.2 (mZ.mpr ⟨s,dR hk,by rw[<-z];simp⟩);have nDo:D≠g.aZ:=fun z=>by rw[z,hs]at hD;cases hD
   clear hs;walk_at "rd2";have k5:∀b o,b≠g.aZ->H1 b=some o->aq (aq (aq (aq H1 g.aZ (HO.aP (ak K "Store") g.d9 (fw g.aG g.aD D g.made (dI M0.heap) g.bI g.bz))) g.aZ (HO.aP (ak K "Store") g.d9 (fw s.aG g.aD D g.made (dI M0.heap) g.bI g.bz))) g.aZ (HO.aP (ak K "Store") g.d9 (fw s.aG s.aD D g.made (dI M0.heap) g.bI g.bz))) g.aZ (HO.aP (ak K "Store") g.d9 (fw s.aG s.aD D g.made (dI h) g.bI g.bz)) b=some o:=fun b o n e=>by rw[aJ n,aJ n,aJ n,aJ n];exact e
   have s5:aq (aq (aq (aq H1 g.aZ (HO.aP (ak K "Store") g.d9 (fw g.aG g.aD D g.made (dI M0.heap) g.bI g.bz))) g.aZ (HO.aP (ak K "Store") g.d9 (fw s.aG g.aD D g.made (dI M0.heap) g.bI g.bz))) g.aZ (HO.aP (ak K "Store") g.d9 (fw s.aG s.aD D g.made (dI M0.heap) g.bI g.bz))) g.aZ (HO.aP (ak K "Store") g.d9 (fw s.aG s.aD D g.made (dI h) g.bI g.bz)) g.aZ=some (HO.aP (ak K "Store") g.d9 (fw s.aG s.aD D g.made (dI h) g.bI g.bz)):=az;generalize aq (aq (aq (aq H1 g.aZ (HO.aP (ak K "Store") g.d9 (fw g.aG g.aD D g.made (dI M0.heap) g.bI g.bz))) g.aZ (HO.aP (ak K "Store") g.d9 (fw s.aG g.aD D g.made (dI M0.heap) g.bI g.bz))) g.aZ (HO.aP (ak K "Store") g.d9 (fw s.aG s.aD D g.made (dI M0.heap) g.bI g.bz))) g.aZ (HO.aP (ak K "Store") g.d9 (fw s.aG s.aD D g.made (dI h) g.bI g.bz))=H5 at *;refine⟨g.aZ,g.d9,_,rfl,s5,by rw[Nj];decide,fun d1 d2 H6 f1 f2 nd12 b6 e1 e2 e3=>?_⟩;have fn:∀d,H5 d=none->H1 d=none:=fun d hd=>by
    cases e:H1 d with
    |none=>rfl
    |some o=>
     by_cases z2:d=g.aZ
     ·rw[z2,s5]at hd;cases hd
     ·rw[k5 d o z2 e]at hd;cases hd
   have fd1:H d1=none:=k1.free (fn d1 f1);have fd2:H d2=none:=k1.free (fn d2 f2);have hk6:∀b o,b≠g.aZ->H b=some o->H6 b=some o:=fun b o n e=>b6 b o n (k5 b o n (k1 b o e));have tk6:cq H H6:=fun b ys e=>hk6 b _ (fun z=>by rw[z]at e;have:=k1 _ _ e;rw[hs1]at this;cases this) e;have sv6:aX (bF H6 ((g.sg.take k).map (·.eJ))) M0.stack g.l:=by
    have:=aM sv tk6;unfold G.aF at this;rw[uO];exact this
   have J:=I.WO hk hh hD fd1 fd2 (bw h2 (fn d1 f1)) (bw h2 (fn d2 f2)) nd12 hk6 (b6 _ _ nDo (k5 _ _ nDo h2)) e1 e2 e3 sv6;have ms:s∈g.sg:=dR hk;have inF:∀c,c=s.aG\/c=s.aD->c∈aK m g:=fun c hc=>bX _ (bX _ (bX _ (mZ.mpr ⟨s,ms,by rcases hc with z|z<;>simp[z]⟩)));refine q H6 D d1 d2 J ⟨fun b o e n=>hk6 b o (fun z=>n (by rw[z];simp[aK,bu])) e,fun b hb=>?_,rfl,I.mo J⟩;rcases cS.mp hb with z|z
   ·have z':b∈(((((bu m g).set 6 s.aG).set 7 s.aD).set 8 D).set 9 d1).set 10 d2:=z;rcases f8 z' with z|z
    ·rcases f8 z with z|z
     ·rcases f8 z with z|z
      ·rcases f8 z with z|z
       ·rcases f8 z with z|z
        ·exact .inl (c7 _ z)
        ·exact .inl (inF b (.inl z))
       ·exact .inl (inF b (.inr z))
      ·exact .inr (z▸hD)
     ·exact .inr (z▸fd1)
    ·exact .inr (z▸fd2)
   ·have z':b∈g.fs++(g.bx++(g.sg.take k).flatMap fun s:SG=>[s.a,s.aG,s.aD]):=z;refine .inl (bX _ ?_);rcases cS.mp z' with z|z
    ·exact c7 _ z
    ·rcases cS.mp z with z|z
     ·exact bX _ (c7 _ z)
     ·obtain⟨u,hu,zu⟩:=mZ.mp z;exact bX _ (bX _ (mZ.mpr ⟨u,lP hu,zu⟩))
theorem aI.fr{K:ax}{m:ae}{g g1:G}{H H1:Hp}{Q:VK}{E:XK}{M':aY}(q:aI K m g H Q E (.ok M'))(F:Fr (aK m g) H (aK m g1) H1):aI K m g1 H1 Q E (.ok M'):=fun H' g' I' F'=>q H' g' I' (F.trans F')
theorem Cu{m:ae}{g:G}{H H':Hp}{t:ae}{items bg:List ae}{oA oT:List (Key×V)}(hm:∀v,fP (aK m g) H=some v->fP (aK m {g with items:=items,bg:=bg,oA:=oA,oT:=oT,bx:=t::g.bx}) H'=some v)(ht:H t=none)(hk:∀b o,b∉aK m g->H b=some o->H' b=some o):Fr (aK m g) H (aK m {g with items:=items,bg:=bg,oA:=oA,oT:=oT,bx:=t::g.bx}) H':=by
 refine xn hm ht (fun b hb=>.inl (c7 _ hb)) (fun b hb=>?_) hk;have hb':b∈g.fs++((t::g.bx)++g.sg.flatMap fun s=>[s.a,s.aG,s.aD]):=hb;rcases cS.mp hb' with z|z
 ·exact .inl (bX _ (c7 _ z))
 ·rw[jn]at z;rcases br.mp z with z|z
  ·exact .inr (.inl z)
  ·exact .inl (bX _ (bX _ z))
inductive Nk(K:ax)(vs:List V)(H:Hp)(Q:VK)(E:XK):Prop
 |mk:∀(m:ae)(g:G)(M:aY)(t:aB)(v:V),(vs=[.ref m,v])->(MI K (bc K) m g M H)->(bF H g.aF t v)->(cH M.heap M.kept.length t)->((match t with
  | .arr k=>∀a ws xs,M.heap.arrays[k]? =some xs->H a=some (.ai ws)->aX (bF H []) xs ws->Q (.ref a) H
  | .table k=>∀a kvs t,M.heap.tables[k]? =some t->H a=some (.dK kvs)->aX (oj H) t kvs->Q (.ref a) H
  |_=>Er E (-4) H))->Nk K vs H Q E
def Zj(K:ax):Sp:=fun vs H Q E=>Nk K vs H Q E
inductive Nl(vs:List V)(H:Hp)(Q:VK)(E:XK):Prop
 |mk:∀(a b:ae)(k1 k2:af)(x y:V),(vs=[.ref a,.ref b])->(H a=some (.aj [.str k1,x]))->(H b=some (.aj [.str k2,y]))->(if(k1="array"/\k2="number")\/(k1="table"/\k2="name")then ∀H',L2.aL H H'->Q .aO H' else Er E (-4) H)->Nl vs H Q E
def Zu:Sp:=fun vs H Q E=>Nl vs H Q E
inductive Nm(vs:List V)(H:Hp)(Q:VK)(E:XK):Prop
 |mk:∀(a:ae)(ws:List V)(i:Int),(vs=[.ref a,.int i])->(H a=some (.ai ws))->(if i<0\/(ws.length:Int)<=i then Er E (-5) H else Q .aO H)->Nm vs H Q E
def ZA:Sp:=fun vs H Q E=>Nm vs H Q E
local macro_rules| `(tactic|walk_at "rd0")=>`(tactic|simp only[b3,aQ,mU,Nat.reduceLT,nI,tz,qI,oI,sh,nq,eW,lr,s0,tM, *])
theorem ZD(T:Txt K)(M:MG K mg):ZF 5 "do_table" ["machine"] (cO K (bD "table")):=by
 refine ZC T.JW T2
 ·nofun;refine⟨_,(Zq (aE (Zv (pw 0) T.wx BU aS)) (aE (Zv (pw 0) T.jd lG (Zw (Zd 0) T.IY Ym)))),?_⟩;walk_at "zh";have as:=T.je;walk_at "an";have hs2:=I.si.aZ;have har:=I.si.aG;have htb:=I.si.aD;left;refine⟨m,g,M0,1,rfl,I,?_⟩;have q':aI K m g H Q E (if 32<=M0.heap.tables.length then .error (-7)else({M0 with heap:={M0.heap with tables:=M0.heap.tables++[[]]}}:aY).with_ (.table M0.heap.tables.length::M0.stack)):=q;clear q;by_cases c2:32<=M0.heap.tables.length
  ·rw[if_pos c2]at q';by_cases c:(M0.stack.length:Int)+1>256
   ·rw[if_pos c];exact q'
   ·walk_at "ap";refine⟨m,g,M0,rfl,I,W,?_⟩;rw[if_pos c2];exact q'
  ·rw[if_neg c2]at q';by_cases c:(M0.stack.length:Int)+1>256
   ·rw[if_pos c];right;rw[xb (by rw[aA];omega)]at q';exact q'
   ·walk_at "ap";refine⟨m,g,M0,rfl,I,W,?_⟩;rw[if_neg c2];right;intro a t H' ht hb J ea;rw[du (by rw[aA];omega)]at q';refine⟨m,_,_,.table M0.heap.tables.length,.ref a,rfl,J,⟨a,_,rfl,ea,by rw[bU]⟩,hz,?_⟩;rw[du (by rw[aA];show M0.stack.length+1<=256;omega)];exact q'.fr (Cu (I.mo J) ht fun b o n e=>hb b o (fun z=>n (by rw[z];simp[aK,bu])) e)
theorem ZG(T:Txt K)(M:MG K mg):ZF 5 "do_keep" ["machine"] (cO K (bD "keep")):=by
 refine ZC T.Kd T7
 ·nofun;refine⟨_,(Zq (aE (Zv (pw 0) T.wx BU aS)) (aE (Zv (pw 0) T.jd lG (Zw (Zd 0) T.I0 Zg)))),?_⟩;walk_at "zh";have as:=T.je;walk_at "an";have hs2:=I.si.aZ;have har:=I.si.aG;have htb:=I.si.aD;left;refine⟨m,g,M0,1,rfl,I,?_⟩;have q':aI K m g H Q E (if 4<=M0.kept.length then .error (-7)else({M0 with kept:=M0.kept++[M0.heap]}:aY).with_ (.state M0.kept.length::M0.stack)):=q;clear q;by_cases c2:4<=M0.kept.length
  ·rw[if_pos c2]at q';by_cases c:(M0.stack.length:Int)+1>256
   ·rw[if_pos c];exact q'
   ·walk_at "ap";refine⟨m,g,M0,rfl,I,W,?_⟩;rw[if_pos c2];exact q'
  ·rw[if_neg c2]at q';by_cases c:(M0.stack.length:Int)+1>256
   ·rw[if_pos c];right;rw[xb (by rw[aA];lia)]at q';exact q'
   ·walk_at "ap";refine⟨m,g,M0,rfl,I,W,?_⟩;rw[if_neg c2];right;intro a H' bI bz made sg J F ea;obtain⟨n,en,ea⟩:=ea;rw[du (by rw[aA];lia)]at q';refine⟨m,_,_,.state M0.kept.length,.ref a,rfl,J,⟨a,_,rfl,ea,by rw[bU];exact⟨n,en,rfl⟩⟩,hz,?_⟩;rw[du (by rw[aA];show M0.stack.length+1<=256;lia)];exact q'.fr F
theorem Nn(T:Txt K)(M:MG K mg):ZF 4 "want_place" ["things","place"] ZA:=by
 refine ZB T.Bo T6
 ·obtain⟨a,ws,i,rfl,_⟩:=h;rfl
 ·obtain⟨a,ws,i,rfl,ha,q⟩:=h;refine⟨_,(cg (Zz (vj (Qv tY iO aS (pw 1) (Zl dD (pw 0)))) (Zr T.pI T.qU rf T.pD T.qT))),?_⟩;left;by_cases c1:0<=i
  ·rw[if_pos c1];right;by_cases c2:i<(ws.length:Nat)
   ·rw[if_neg (by rintro(z|z)<;>omega)]at q;rw[decide_eq_true c2,if_neg (by decide)];exact q
   ·rw[if_pos (.inr (by omega))]at q;rw[decide_eq_false c2,if_pos (by decide)];exact q
  ·rw[if_pos (.inl (by omega))]at q;rw[if_neg c1];right;exact q
theorem Np(T:Txt K)(M:MG K mg):ZF 4 "want_place_kind" ["holder","place"] Zu:=by
 refine ZB T.Bn T5
 ·obtain⟨a,b,k1,k2,x,y,rfl,_⟩:=h;rfl
 ·obtain⟨a,b,k1,k2,x,y,rfl,ha,hb,q⟩:=h;refine⟨_,(cg (Zz (qe (SM hr.units) (Zt (Zi (pw 0)) (Zi (pw 1))) (Zt (Zt (a8 M T.pJ) (a8 M T.fO)) (Zt (a8 M T.pK) (a8 M T.qW))) (by with_unfolding_all rfl)) (Zr T.mx T.nX ou T.mn T.nW))),?_⟩;have z2:2<=sizeLine:=by rw[bR];decide
  left;intro p hp p1 hp1 p2 hp2 p3 hp3;have s1:=bA (o:=HO.aj [V.str k1,V.str k2]) hp;have s2:=bA (o:=HO.aj [V.str "array",V.str "number"]) hp1;have s3:=bA (o:=HO.aj [V.str "table",V.str "name"]) hp2;have s4:=bA (o:=HO.aj [V.ref p1,V.ref p2]) hp3;refine⟨k1,k2,s4 _ _ (s3 _ _ (s2 _ _ az)),[p1,p2],rfl,[("array","number"),("table","name")],.cons (s4 _ _ (s3 _ _ az)) (.cons (s4 _ _ az) .nil),?_⟩;have k4:=((s1.trans s2).trans s3).trans s4;by_cases c:(k1="array"/\k2="number")\/(k1="table"/\k2="name")
  ·rw[if_pos c]at q;have an:([(("array":af),("number":af)),("table","name")].any fun p=>p.1==k1&&p.2==k2)=true:=by
    rcases c with⟨rfl,rfl⟩|⟨rfl,rfl⟩<;>simp
   rw[an,if_neg (by decide)];exact q _ k4
  ·rw[if_neg c]at q;have an:([(("array":af),("number":af)),("table","name")].any fun p=>p.1==k1&&p.2==k2)=false:=by
    refine yq.mpr fun z=>c ?_;simp only[iV,List.any_nil,CK,C9,lM,beq_iff_eq]at z;rcases z with⟨z1,z2⟩|⟨z1,z2⟩
    ·exact .inl ⟨z1.symm,z2.symm⟩
    ·exact .inr ⟨z1.symm,z2.symm⟩
   rw[an,if_pos (by decide)];exact Er.up q k4
theorem xK(T:Txt K)(M:MG K mg):ZF 4 "held_by" ["machine","thing"] (Zj K):=by
 refine ZB T.tS T4
 ·obtain⟨m,g,M0,t,v,rfl,_⟩:=h;rfl
 ·obtain⟨m,g,M0,t,v,rfl,I,ht,vo,q⟩:=h;refine⟨_,(Zq (Zz (Zc dz (Zi (pw 1)) (a8 M T.pJ)) (dh (Zx fK (Ze (Zd 0)) (Zi (pw 1))))) (Zz (Zc dz (Zi (pw 1)) (a8 M T.pK)) (dh (Zx fK (Ze (Zd 0)) (Zi (pw 1))))) (Zr T.mx T.nX ou T.mn T.nW)),?_⟩;walk_at "at";have as:=T.je;walk_at "an";have hs2:=I.si.aZ;have har:=I.si.aG;have htb:=I.si.aD;obtain⟨a,x,rfl,ea,hx⟩:=ht;cases t with
  |arr k=>
   rw[bU]at hx;subst hx;have ea1:H a=some (.aj [.str "array",.int k]):=ea;have kl:k<M0.heap.arrays.length:=vo;obtain⟨xs,ex⟩:∃xs,M0.heap.arrays[k]? =some xs:=⟨_,f7 kl⟩
   obtain⟨tl,et,ws,hv,hal⟩:=I.si.fu.get _ _ ex;have hat:cR (g.items.map V.ref) (k:Int)=some (V.ref tl):=fW (by rw[dX,et];rfl);have q2:=q tl ws xs ex hv hal;clear ea q;left
  |table k=>
   rw[bU]at hx;subst hx;have ea1:H a=some (.aj [.str "table",.int k]):=ea;have kl:k<M0.heap.tables.length:=vo;obtain⟨xs,ex⟩:∃xs,M0.heap.tables[k]? =some xs:=⟨_,f7 kl⟩
   obtain⟨tl,et,ws,hv,hal⟩:=I.si.fb.get _ _ ex;have hat:cR (g.bg.map V.ref) (k:Int)=some (V.ref tl):=fW (by rw[dX,et];rfl);have q2:=q tl ws xs ex hv hal;clear ea q;left
  |int j=>
   have ea1:H a=some (.aj [.str "number",x]):=ea;have q2:Er E (-4) H:=q;clear ea hx q;left;exact q2
  |truth j=>
   have ea1:H a=some (.aj [.str "truth",x]):=ea;have q2:Er E (-4) H:=q;clear ea hx q;left;exact q2
  |lit j=>
   have ea1:H a=some (.aj [.str "name",x]):=ea;have q2:Er E (-4) H:=q;clear ea hx q;left;exact q2
  |mark=>
   have ea1:H a=some (.aj [.str "mark",x]):=ea;have q2:Er E (-4) H:=q;clear ea hx q;left;exact q2
  |state j=>
   have ea1:H a=some (.aj [.str "state",x]):=ea;have q2:Er E (-4) H:=q;clear ea hx q;left;exact q2
  |proc j=>
   have ea1:H a=some (.aj [.str "procedure",x]):=ea;have q2:Er E (-4) H:=q;clear ea hx q;left;exact q2
  |word j=>exact vo.elim
theorem xL{H:Hp}{aF nums':List Int}{h:b9}{n:Nat}{t:aB}{v:V}(x:bF H aF t v)(vo:cH h n t)(c:¬fS t=true):bF H nums' t v:=by
 obtain⟨a,y,h1,h2,h3⟩:=x;refine⟨a,y,h1,h2,?_⟩;cases t with
 |state j=>exact absurd rfl c
 |proc b=>
  rw[tW]at h3 ⊢;obtain⟨p,vs,e1,e2,e3⟩:=h3;exact⟨p,vs,e1,e2,BO vo e3⟩
 |_=>rw[bU]at h3 ⊢;exact h3
section
variable{M:aY}{k:Nat}{n:bO}{v:aB}{s l:List aB}
theorem Nq(c:fS v=true):M.define k n v s=.error (-4):=by unfold C5;exact if_pos c
theorem Nr(c:¬fS v=true)(d:(M.heap.tables.getD k []).all (fun x=>x.1 != n)=true/\64<=(M.heap.tables.getD k []).length):M.define k n v s=.error (-7):=by unfold C5;exact(if_neg c).trans (if_pos d)
theorem Nt(c:¬fS v=true)(d:¬((M.heap.tables.getD k []).all (fun x=>x.1 != n)=true/\64<=(M.heap.tables.getD k []).length)):M.define k n v s=.ok {M with stack:=s,heap:={M.heap with tables:=gL M.heap.tables k (kr n v (M.heap.tables.getD k []))}}:=by unfold C5;exact(if_neg c).trans (if_neg d)
theorem Nu(c:¬l.any fS=true)(d:full M.heap (l.length:Nat)):M.newArray l s=.error (-7):=by
 unfold C6;refine(if_neg c).trans (if_pos ?_);rcases d with d|d
 ·exact .inl d
 ·refine .inr ?_;unfold dI at d;show 2048<_;omega
theorem Nv(c:¬l.any fS=true)(d:¬full M.heap (l.length:Nat)):M.newArray l s=({M with heap:={M.heap with arrays:=M.heap.arrays++[l]}}:aY).with_ (.arr M.heap.arrays.length::s):=by
 unfold C6;refine(if_neg c).trans (if_neg fun z=>d ?_);rcases z with z|z
 ·exact .inl z
 ·refine .inr ?_;unfold dI;have:2048<(M.heap.arrays.map gI).sum+l.length:=z;omega
theorem ZH(c:l.any fS=true):M.newArray l s=.error (-4):=by unfold C6;exact if_pos c
end
theorem Nw{α:Type}{x:α}:∀n:Nat,(dN n [x]).flatten=dN n x
 |0=>rfl
 |n+1=>by rw[uD,ye,Nw n];rfl
local macro_rules| `(tactic|walk_at "rd0")=>`(tactic|simp only[b3,aQ,mU,Nat.reduceLT,nI,tz,qI,oI,sh,nq,eW,lr,s0,tM, *])
theorem ZJ(T:Txt K)(M:MG K mg):ZF 6 "do_def" ["machine"] (cO K (bD "def")):=by
 refine ZC T.JU HS
 ·nofun;refine⟨_,(Zq (Zs 1 HS (Zd 0)) (aE (Zf T.hG T.gE ip (pw 1) (Zt (a8 M T.qW) (a8 M T.Kt)))) (aE (Zf T.JT T.Bm Mb (Zn (pw 1)))) (aE (Zv (Zd 0) T.Bd Nb (Zn (Zd 0)) (Zi (Zn (pw 1))) (Zn (pw 1)))) (aE (Zf T.nP T.mq oq (pw 1) aS))),?_⟩;walk_at "as";have k0:=bA (o:=HO.aj [V.str "name",V.str "any"]) hk;refine⟨g.au,g.l,M0.stack,g.aF,kt,["name","any"],rfl,k0 _ _ hs,aM I.bh (SW.aL.aj k0),az,?_⟩;cases e:eC ["name","any"] M0.stack with
  |some z=>
   have:bD "def" M0=.error z:=by
    show((match M0.stack with|v::.lit n::r=>M0.define (M0.opens.headD 0) n v r|_::_::_=>.error dq|_=>.error cE):cD)=_;rcases iq e with⟨h1,rfl⟩|⟨h1,h2,rfl⟩
    ·match es:M0.stack,h1 with
     |[],_=>rfl
     |[y0],_=>cases y0<;>rfl
     |_::_::r,h1=>exact absurd h1 (by simp)
    ·match es:M0.stack,h1,h2 with
     |t::u::r,_,h2=>cases t<;>first|rfl|(cases u<;>first|rfl|(simp[fv,ba]at h2))
     |[],h1,_=>exact absurd (by simp) h1
     |[_],h1,_=>exact absurd (by simp) h1
   walk_at "am"
  |none=>
   obtain⟨t,u,r,es,kd0,kd1⟩:=rj e;obtain⟨p1,rfl⟩:=re (kd1.kind (by decide));have q0:aI K m g H Q E (match M0.stack with|v::.lit n::r=>M0.define (M0.opens.headD 0) n v r|_::_::_=>.error dq|_=>.error cE):=q;walk_at "aa";obtain⟨w1,l1,ew1,j1,hV1⟩:=hV0.bW;subst ew1;have as:=T.je;have ao:=T.nZ;walk_at "an";have hs2:=I1.si.aZ;have har:=I1.si.aG;have htb:=I1.si.aD;have hop:=I1.dC;obtain⟨b,rfl,eb⟩:=j1.lit;have eb1:=k0 _ _ eb;rw[el]at hs1;have hw0:=W.aR.opens;obtain⟨o,os,eo⟩:∃o os,M0.opens=o::os:=by
    cases e2:M0.opens with
    |nil=>exact absurd e2 hw0.1
    |cons o os=>exact⟨o,os,rfl⟩
   rw[eo,d6]at hop;have q1:aI K m g H Q E (M0.define o p1 t r):=by have:=q0;rw[eo]at this;exact this
   generalize aq H kt (.aj [.str "name",.str "any"])=H1 at *;clear q q0 hs hm eb;have vt:=hv t (by simp);have lz:l1.length=r.length:=hV1.length.symm;have hz2:r.length+1+1<=256:=by rw[es]at hz;exact hz
   left;have j0':=j0.keep (SW.aL.aj k0);refine⟨t,w0,g.aF,rfl,j0',?_⟩;by_cases c:fS t=true
   ·rw[Nq c]at q1;rw[if_pos c];right;exact Er.up q1 k0
   ·walk_at "ap";left;refine⟨m,g,M0,o,p1,w0,t,rfl,I1,W,hw0.2.2 o (by rw[eo];exact cw),xL j0' vt c,?_⟩;by_cases d:(M0.heap.tables.getD o []).all (fun x=>x.1 != p1)=true/\64<=(M0.heap.tables.getD o []).length
    ·rw[if_pos d];right;rw[Nr c d]at q1;exact Er.up q1 k0
    ·rw[if_neg d];right;rw[Nt c d]at q1;intro H' bg oT bx J F;have hsJ:=J.au;have hsJ2:H' g.au=some (.ai (w0::V.ref b::l1).reverse):=by rw[<-el];exact hsJ
     refine⟨g.au,_,2,rfl,hsJ2,by simp only[aA];lia,fun H2 bb hp'=>?_⟩;have jv:=J.bh;have jv2:aX (bF H' g.aF) (t::.lit p1::r) (w0::V.ref b::l1):=by rw[<-es,<-el];exact jv
     obtain⟨_,_,e1,_,jv3⟩:=jv2.bW;obtain⟨_,_,e2,_,jv4⟩:=jv3.bW;cases e1;cases e2;exact aI.au J (q1.fr ((Fr.same k0).trans F)) (fun _ _ h=>h) bb hp' fun tk=>aM jv4 tk
theorem ZK(T:Txt K)(M:MG K mg):ZF 6 "do_known" ["machine"] (cO K (bD "known")):=by
 refine ZC T.JZ Ia
 ·nofun;have hu:=qK hr;refine⟨_,(Zq (Zs 1 Ia (Zd 0)) (aE (Zf T.hG T.gE ip (pw 1) (Zt (a8 M T.pK) (a8 M T.qW)))) (aE (Zf T.hU T.gF ic (pw 1) aS (Zt (a8 M T.jE) (P9 (Rv hu (Zi (Zn (pw 1))) (Zx fK (Ze (Zd 0)) (Zi (Zn (pw 1)))))))))),?_⟩;walk_at "as";have k0:=bA (o:=HO.aj [V.str "table",V.str "name"]) hk;refine⟨g.au,g.l,M0.stack,g.aF,kt,["table","name"],rfl,k0 _ _ hs,aM I.bh (SW.aL.aj k0),az,?_⟩;cases e:eC ["table","name"] M0.stack with
  |some z=>
   have:bD "known" M0=.error z:=by
    show((match M0.stack with| .lit n::.table k::r=>M0.with_ (.truth ((M0.heap.tables.getD k []).any fun x=>x.1==n)::r)|_::_::_=>.error dq|_=>.error cE):cD)=_;rcases iq e with⟨h1,rfl⟩|⟨h1,h2,rfl⟩
    ·match es:M0.stack,h1 with
     |[],_=>rfl
     |[y0],_=>cases y0<;>rfl
     |_::_::r,h1=>exact absurd h1 (by simp)
    ·match es:M0.stack,h1,h2 with
     |t::u::r,_,h2=>cases t<;>first|rfl|(cases u<;>first|rfl|(simp[fv,ba]at h2))
     |[],h1,_=>exact absurd (by simp) h1
     |[_],h1,_=>exact absurd (by simp) h1
   walk_at "am"
  |none=>
   obtain⟨t,u,r,es,kd0,kd1⟩:=rj e;obtain⟨p0,rfl⟩:=re (kd0.kind (by decide));obtain⟨p1,rfl⟩:=tZ (kd1.kind (by decide));have q0:aI K m g H Q E (match M0.stack with| .lit n::.table k::r=>M0.with_ (.truth ((M0.heap.tables.getD k []).any fun x=>x.1==n)::r)|_::_::_=>.error dq|_=>.error cE):=q;walk_at "aa";obtain⟨w1,l1,ew1,j1,hV1⟩:=hV0.bW;subst ew1;have as:=T.je;have ao:=T.nZ;walk_at "an";have hs2:=I1.si.aZ;have har:=I1.si.aG;have htb:=I1.si.aD;have hop:=I1.dC;obtain⟨a,rfl,ea⟩:=j0.lit;obtain⟨b,rfl,eb⟩:=j1.table;have ea1:=k0 _ _ ea;have eb1:=k0 _ _ eb;rw[el]at hs1;rw[es]at hz;have q1:aI K m g H Q E (M0.with_ (.truth ((M0.heap.tables.getD p1 []).any fun x=>x.1==p0)::r)):=q0;have kl:p1<M0.heap.tables.length:=hv (.table p1) (by simp);obtain⟨xs,ex⟩:∃xs,M0.heap.tables[p1]? =some xs:=⟨_,f7 kl⟩
   obtain⟨tl,et,ws,hvv,hal⟩:=I1.si.fb.get _ _ ex;have hat:cR (g.bg.map V.ref) (p1:Int)=some (V.ref tl):=fW (by rw[dX,et];rfl);generalize aq H kt (.aj [.str "table",.str "name"])=H1 at *;clear q q0 hs hm ea eb;have gd:M0.heap.tables.getD p1 []=xs:=by rw[gJ,ex];rfl
   have lz:l1.length=r.length:=hV1.length.symm;have hz2:r.length+1+1<=256:=hz;rw[du (by rw[aA];lia),gd]at q1;left;refine⟨_,eE.k (k:=cX (bH p0)) hvv,by rw[bR];decide,fun p hp=>?_⟩;rw[<-nH,BY hal];have k2:=bA (o:=HO.aj [V.str "truth",V.bl (xs.any fun x=>x.1==p0)]) hp;refine⟨g.au,_,2,_,rfl,k2 _ _ hs1,by simp only[aA];lia,by simp only[aA];lia,fun H' bb hp'=>?_⟩;have tkb:=bb.aj (k2 _ _ hs1) fun _ z=>by cases z
   exact aI.au I q1 (k0.trans k2) bb hp' fun tk=>.cons (j8 (tk _ _ az)) (aM (aM hV1 (SW.aL.aj (k0.trans k2))) tk)
theorem ZL(T:Txt K)(M:MG K mg):ZF 6 "do_array" ["machine"] (cO K (bD "array")):=by
 refine ZC T.J7 A5
 ·nofun;refine⟨_,(Zq (Zs 1 A5 (Zd 0)) (aE (Zf T.hG T.gE ip (pw 1) (Zt (a8 M T.fO)))) (Zs 2 A5 (Zi (Zn (pw 1)))) (Zz (Zc iO (pw 2) aS) (Zr T.pI T.qU rf T.pD T.qT)) (aE (Zv (Zd 0) T.Bb MU (pw 2))) (aE (Zf T.hU T.gF ic (pw 1) aS (Zv (Zd 0) T.Bc MV (cT Q9 (gR (Zy (Zt (a8 M T.fO) aS))) (pw 2)))))),?_⟩;walk_at "as";have k0:=bA (o:=HO.aj [V.str "number"]) hk;refine⟨g.au,g.l,M0.stack,g.aF,kt,["number"],rfl,k0 _ _ hs,aM I.bh (SW.aL.aj k0),az,?_⟩;cases e:eC ["number"] M0.stack with
  |some z=>
   have:bD "array" M0=.error z:=by
    show((match M0.stack with| .int k::r=>if k<0 then .error eZ else if(Sz07.ITEMS:Int)<k then .error yD else M0.newArray (dN k.toNat (.int 0)) r|_::_=>.error dq|_=>.error cE):cD)=_;rcases iq e with⟨h1,rfl⟩|⟨h1,h2,rfl⟩
    ·match es:M0.stack,h1 with
     |[],_=>rfl
     |_::r,h1=>exact absurd h1 (by simp)
    ·match es:M0.stack,h1,h2 with
     |t::r,_,h2=>cases t<;>first|rfl|(simp[fv,ba]at h2)
     |[],h1,_=>exact absurd (by simp) h1
   walk_at "am"
  |none=>
   obtain⟨t,r,es,kd0⟩:=mM e;obtain⟨p0,rfl⟩:=eM (kd0.kind (by decide));have q0:aI K m g H Q E (match M0.stack with| .int k::r=>if k<0 then .error eZ else if(Sz07.ITEMS:Int)<k then .error yD else M0.newArray (dN k.toNat (.int 0)) r|_::_=>.error dq|_=>.error cE):=q;walk_at "aa";have as:=T.je;have ao:=T.nZ;walk_at "an";have hs2:=I1.si.aZ;have har:=I1.si.aG;have htb:=I1.si.aD;have hop:=I1.dC;obtain⟨a,rfl,ea⟩:=j0.int;have ea1:=k0 _ _ ea;rw[el]at hs1;rw[es]at hz;have q1:aI K m g H Q E (if p0<0 then .error (-5)else if 2048<p0 then .error (-7)else M0.newArray (dN p0.toNat (.int 0)) r):=q0;generalize aq H kt (.aj [.str "number"])=H1 at *;clear q q0 hs hm ea;have lz:l0.length=r.length:=hV0.length.symm;have hz2:r.length+1<=256:=hz;have hh0:0<=dI M0.heap:=by unfold dI;lia
   have ns:¬(dN p0.toNat (uR 0)).any fS=true:=fun z=>by
    obtain⟨x,hx,e⟩:=lN.mp z;rw[abD hx]at e;cases e
   left;by_cases c0:p0<0
   ·rw[if_pos c0]at q1;rw[if_pos c0];right;exact Er.up q1 k0
   ·rw[if_neg c0]at q1;rw[if_neg c0];right;refine⟨m,g,M0,p0,rfl,I1,?_⟩;by_cases c1:full M0.heap p0
    ·rw[if_pos c1];right;have q2:Er E (-7) H:=by
      by_cases c2:2048<p0
      ·rw[if_pos c2]at q1;exact q1
      ·rw[if_neg c2,Nu ns (by rw[OA,yt (by lia)];exact c1)]at q1;exact q1
     exact Er.up q2 k0
    ·rw[if_neg c1];right;have c2:¬2048<p0:=fun z=>c1 (.inr (by lia));have c3:¬full M0.heap ((dN p0.toNat (uR 0)).length:Nat):=by rw[OA,yt (by lia)];exact c1
     rw[if_neg c2,Nv ns c3,du (by rw[aA];lia)]at q1;have z2:2<=sizeLine:=by rw[bR];decide
     have z1:1<=sizeLine:=by rw[bR];decide
     left;intro p hp p1 hp1;refine⟨by lia,by lia,by rw[bR];lia,fun p2 hp2=>?_⟩;rw[Nw];have s1:=bA (o:=HO.aj [V.str "number",V.int 0]) hp;have s2:=bA (o:=HO.ai [V.ref p]) hp1;have s3:=bA (o:=HO.ai (dN p0.toNat (V.ref p))) hp2;have t4:aq (aq (aq H1 p (HO.aj [V.str "number",V.int 0])) p1 (HO.ai [V.ref p])) p2 (HO.ai (dN p0.toNat (V.ref p))) p=some (.aj [V.str "number",V.int 0]):=s3 _ _ (s2 _ _ az);have l4:aq (aq (aq H1 p (HO.aj [V.str "number",V.int 0])) p1 (HO.ai [V.ref p])) p2 (HO.ai (dN p0.toNat (V.ref p))) p2=some (.ai (dN p0.toNat (V.ref p))):=az;have k4:=(s1.trans s2).trans s3;have f2:H1 p2=none:=(s1.trans s2).free hp2;generalize aq (aq (aq H1 p (HO.aj [V.str "number",V.int 0])) p1 (HO.ai [V.ref p])) p2 (HO.ai (dN p0.toNat (V.ref p)))=H4 at *;refine⟨m,g,M0,p2,_,dN p0.toNat (.int 0),rfl,I1.same k4,W,l4,aX.sX (iC t4) _,fG I1 f2,?_⟩;rw[if_neg c3];right;intro a' H' hk J ea';have hsJ2:H' g.au=some (.ai (V.ref a::l0).reverse):=by rw[<-el];exact J.au
     refine⟨g.au,_,1,_,rfl,hsJ2,by simp only[aA];lia,by simp only[aA];lia,fun H2 bb hp'=>?_⟩;have jv:aX (bF H' g.aF) (.int p0::r) (V.ref a::l0):=by rw[<-es,<-el];exact J.bh
     obtain⟨_,_,e1,_,jv3⟩:=jv.bW;cases e1;have F:Fr (aK m g) H (aK m {g with items:=g.items++[p2],bx:=p2::g.bx}) H':=Cu (I.mo J) (k0.free f2) fun b o n e=>hk b o (fun z=>n (by rw[z];simp[aK,bu])) (fun z=>n (by rw[z];simp[aK,bu])) (k4 b o (k0 b o e));exact aI.au J (q1.fr F) (fun _ _ h=>h) bb hp' fun tk=>.cons ⟨a',_,rfl,tk _ _ ea',by rw[bU]⟩ (aM jv3 tk)
theorem ZO(T:Txt K)(M:MG K mg):ZF 5 "do_length" ["machine"] (cO K (bD "length")):=by
 refine ZC T.J8 Ig
 ·nofun;refine⟨_,(Zq (Zs 1 Ig (Zd 0)) (aE (Zf T.kL T.jZ kO (pw 1) aS)) (aE (Zf T.hU T.gF ic (pw 1) aS (Zt (a8 M T.fO) (qQ (Zl dD (Zf T.wC T.tS xK (pw 0) (Zn (pw 1)))) (Zl E0 (Zf T.wC T.tS xK (pw 0) (Zn (pw 1))))))))),?_⟩;walk_at "zh";have as:=T.je;walk_at "an";have hs2:=I.si.aZ;have har:=I.si.aG;have htb:=I.si.aD;left;refine⟨g.au,g.l.reverse,1,rfl,hs,?_⟩;have q':aI K m g H Q E (match M0.stack with| .arr k::r=>M0.with_ (.int (M0.heap.arrays.getD k []).length::r)| .table k::r=>M0.with_ (.int (M0.heap.tables.getD k []).length::r)|_::_=>.error dq|_=>.error cE):=q;have hV:=I.bh;have hv:=W.au;have hl:g.l.length=M0.stack.length:=I.bh.length.symm;match e:M0.stack,hl with
  |[],hl=>rw[e]at q';rw[if_pos (by rw[bN,hl];decide)];exact q'
  |t::r,hl=>
   rw[e]at q' hV hv hz;obtain⟨v,l1,el,h1,h2⟩:=hV.bW;rw[if_neg (by rw[bN,hl,aA];omega)];right;rw[el]at hs;have vo:=hv t cw;have hz2:r.length+1<=256:=hz;have lz:l1.length=r.length:=h2.length.symm;clear q hl;have at0:cR (v::l1).reverse (-1)=some v:=pM (v::l1) 0;have fin:∀n:Nat,aI K m g H Q E (M0.with_ (.int (n:Int)::r))->2<=bE/\∀p,H p=none->w6 [V.ref g.au,V.int 1,V.ref p] (aq H p (HO.aj [V.str "number",V.int (n:Nat)])) (fun x H1=>Q V.aO H1) E:=fun n qn=>by
    refine⟨by rw[bR];decide,fun p hp=>?_⟩;rw[du (by rw[aA];omega)]at qn;have k2:=bA (o:=HO.aj [V.str "number",V.int (n:Nat)]) hp;refine⟨g.au,_,1,_,rfl,k2 _ _ hs,by simp only[aA];omega,by simp only[aA];omega,fun H' bb hp'=>?_⟩;exact aI.au I qn k2 bb hp' fun tk=>.cons (iC (tk _ _ az)) (aM (aM h2 (SW.aL.aj k2)) tk)
   have gdl:∀{α:Type}{l:List (List α)}{k:Nat}{xs:List α},l[k]? =some xs->l.getD k []=xs:=fun{α l k xs} ex=>by rw[gJ,ex];rfl
   cases t with
   |arr k=>exact .inl ⟨m,g,M0,_,v,rfl,I,h1,vo,fun a ws xs ex hw ha=>(by(conv=>whnf);rw[hw];show 2<=bE/\_;rw[<-ha.length];exact fin _ (by have h:aI K m g H Q E (M0.with_ (.int (M0.heap.arrays.getD k []).length::r)):=q';rw[gdl ex]at h;exact h))⟩
   |table k=>exact .inr ⟨m,g,M0,_,v,rfl,I,h1,vo,fun a ws xs ex hw ha=>⟨a,rfl,ws,hw,by rw[<-ha.length];exact fin _ (by have h:aI K m g H Q E (M0.with_ (.int (M0.heap.tables.getD k []).length::r)):=q';rw[gdl ex]at h;exact h)⟩⟩
   |word j=>exact vo.elim
   |int j=>exact .inl ⟨m,g,M0,_,v,rfl,I,h1,vo,q'⟩
   |truth j=>exact .inl ⟨m,g,M0,_,v,rfl,I,h1,vo,q'⟩
   |lit j=>exact .inl ⟨m,g,M0,_,v,rfl,I,h1,vo,q'⟩
   |mark=>exact .inl ⟨m,g,M0,_,v,rfl,I,h1,vo,q'⟩
   |state j=>exact .inl ⟨m,g,M0,_,v,rfl,I,h1,vo,q'⟩
   |proc j=>exact .inl ⟨m,g,M0,_,v,rfl,I,h1,vo,q'⟩
local macro_rules| `(tactic|walk_at "rd0")=>`(tactic|simp only[b3,aQ,mU,Nat.reduceLT,nI,tz,qI,oI,sh,nq,eW,lr,s0,tM, *])
theorem ZP(T:Txt K)(M:MG K mg):ZF 5 "do_get" ["machine"] (cO K (bD "get")):=by
 refine ZC T.Kb wq
 ·nofun;have hu:=qK hr;refine⟨_,(Zq (Zs 1 wq (Zd 0)) (aE (Zf T.kL T.jZ kO (pw 1) aS)) (aE (Zf T.J9 T.Bn Np (Zn (pw 1)) (Zn (pw 1)))) (Zs 2 wq (Zf T.wC T.tS xK (pw 0) (Zn (pw 1)))) (Zs 3 wq (Zi (Zn (pw 1)))) (fB (Zc dz (Zi (Zn (pw 1))) (a8 M T.pJ)) (cg (aE (Zf T.Ka T.Bo Nn (pw 2) (pw 3)))) (cg (Zz (sJ (tD hu (pw 3) (pw 2))) (Zr T.wG T.Bq BH T.ww T.Bp)))) (aE (Zf T.hU T.gF ic (pw 1) aS (qQ (Zx fK (pw 2) (pw 3)) (EQ hu (pw 2) (pw 3) (fun _ _=>rfl)))))),?_⟩;walk_at "zh";have as:=T.je;walk_at "an";have hs2:=I.si.aZ;have har:=I.si.aG;have htb:=I.si.aD;have hl:g.l.length=M0.stack.length:=I.bh.length.symm;left;refine⟨g.au,g.l.reverse,2,rfl,hs,?_⟩;have q':aI K m g H Q E (match M0.stack with
    | .int i::.arr k::r=>(match(if i<0 then none else(M0.heap.arrays.getD k [])[i.toNat]?)with
     |some v=>M0.with_ (v::r)
     |none=>.error eZ)
    | .lit n::.table k::r=>(match(M0.heap.tables.getD k []).lookup n with
     |some v=>M0.with_ (v::r)
     |none=>.error qc)
    |_::_::_=>.error dq
    |_=>.error cE):=q
  have hV:=I.bh;have hv:=W.au;match e:M0.stack,hl with
  |[],hl=>rw[e]at q';rw[if_pos (by rw[bN,hl];decide)];exact q'
  |[t],hl=>rw[e]at q';rw[if_pos (by rw[bN,hl,aA,jG];decide)];cases t<;>exact q'
  |t::u::r,hl=>
   rw[e]at q' hV hv hz;obtain⟨v,l1,el,h1,h2⟩:=hV.bW;obtain⟨v2,l2,rfl,h3,h4⟩:=h2.bW;rw[if_neg (by rw[bN,hl,aA,aA];omega)];right;rw[el]at hs;obtain⟨a,x,rfl,ea,hx⟩:=id h1;obtain⟨b,y,rfl,eb,hy⟩:=id h3;have hz2:r.length+1+1<=256:=hz;walk_at "ad";clear q hl;left;refine⟨b,a,ba u,ba t,y,x,rfl,eb,ea,?_⟩;by_cases c:(ba u="array"/\ba t="number")\/(ba u="table"/\ba t="name")
   ·rw[if_pos c];right;intro H1 k0;have I1:=I.same k0;have hs1:=k0 _ _ hs;have ea1:=k0 _ _ ea;have eb1:=k0 _ _ eb;have hm1:=k0 _ _ hm;have h3':=h3.keep (SW.aL.aj k0);have fin:∀(vv:aB)(xv:V),bF H1 [] vv xv->aI K m g H Q E (M0.with_ (vv::r))->w6 [V.ref g.au,V.int 2,xv] H1 (fun x H1=>Q V.aO H1) E:=fun vv xv hxv qn=>by
     rw[du (by rw[aA];omega)]at qn;refine⟨g.au,_,2,_,rfl,hs1,by simp only[aA];omega,by simp only[aA];omega,fun H' bb hp'=>?_⟩;exact aI.au I qn k0 bb hp' fun tk=>.cons (hxv.keep tk fun i n e=>by simp at e) (aM (aM h4 (SW.aL.aj k0)) tk)
    rcases c with⟨c1,c2⟩|⟨c1,c2⟩
    ·obtain⟨k,rfl⟩:=w8 c1;obtain⟨i,rfl⟩:=eM c2;rw[bU]at hx;rw[bU]at hy;subst hx hy;have eb2:H1 b=some (.aj [.str "array",.int k]):=eb1;clear hs hm ea eb eb1 h1 h3;left;refine⟨m,g,M0,.arr k,.ref b,rfl,I1,h3',hv (.arr k) (by simp),fun al ws xs ex hw ha=>?_⟩;have gd:M0.heap.arrays.getD k []=xs:=by rw[gJ,ex];rfl
     have q2:aI K m g H Q E (match(if i<0 then none else(M0.heap.arrays.getD k [])[i.toNat]?)with|some v=>M0.with_ (v::r)|none=>.error eZ):=q';rw[gd]at q2;clear q';left;have wl:ws.length=xs.length:=ha.length.symm;refine⟨al,ws,i,rfl,hw,?_⟩;by_cases c:i<0\/(ws.length:Int)<=i
     ·rw[if_pos c];right;have en:(if i<0 then none else xs[i.toNat]?)=none:=by
       by_cases c3:i<0
       ·rw[if_pos c3];right
       ·rw[if_neg c3];right;exact abL.mpr (by have:=c.resolve_left c3;omega)
      rw[en]at q2;exact Er.up q2 k0
     ·walk_at "ap";have c3:¬i<0:=fun z=>c (.inl z);have c4:i.toNat<xs.length:=by
       have:¬(ws.length:Int)<=i:=fun z=>c (.inr z);omega
      obtain⟨vv,ev⟩:∃vv,xs[i.toNat]? =some vv:=⟨_,f7 c4⟩
      obtain⟨xv,exv,hxv⟩:=ha.get _ _ ev;rw[if_neg c3,ev]at q2;have hat:cR ws i=some xv:=by
       have:=fW exv;rwa[yt (by omega)]at this
      exact .inl (by rw[hat];exact fin vv xv hxv q2)
    ·obtain⟨k,rfl⟩:=tZ c1;obtain⟨n,rfl⟩:=re c2;rw[bU]at hx;rw[bU]at hy;subst hx hy;have eb2:H1 b=some (.aj [.str "table",.int k]):=eb1;clear hs hm ea eb eb1 h1 h3;left;refine⟨m,g,M0,.table k,.ref b,rfl,I1,h3',hv (.table k) (by simp),fun al ws xs ex hw ha=>?_⟩;have gd:M0.heap.tables.getD k []=xs:=by rw[gJ,ex];rfl
     have q2:aI K m g H Q E (match(M0.heap.tables.getD k []).lookup n with|some v=>M0.with_ (v::r)|none=>.error qc):=q';rw[gd]at q2;clear q';left;have dg:eE H1 al (.str (bH n)) (cK ws (cX (bH n))):=eE.k (k:=cX (bH n)) hw;rcases Mc (n:=n) ha with⟨i1,i2⟩|⟨vv,xv,i1,i2,i3⟩
     ·rw[i2]at dg;rw[i1]at q2;refine⟨none,dg,?_⟩;rw[if_pos (by rfl)];right;exact Er.up q2 k0
     ·rw[i2]at dg;rw[i1]at q2;refine⟨some xv,dg,?_⟩;rw[if_neg (by simp)];right;exact .inr ⟨xv,dg,fin vv xv i3 q2⟩
   ·walk_at "ap";have q2:aI K m g H Q E (.error (-4)):=by
     cases t<;>first|exact q'|(cases u<;>first|exact q'|exact absurd (.inl ⟨rfl,rfl⟩) c|exact absurd (.inr ⟨rfl,rfl⟩) c)
    exact q2
theorem ZQ(T:Txt K)(M:MG K mg):ZF 5 "do_put" ["machine"] (cO K (bD "put")):=by
 refine ZC T.Kc wr
 ·nofun;refine⟨_,(Zq (Zs 1 wr (Zd 0)) (aE (Zf T.kL T.jZ kO (pw 1) aS)) (Zs 2 wr (Zn (pw 1))) (Zs 3 wr (Zi (Zn (pw 1)))) (aE (Zf T.J9 T.Bn Np (pw 2) (Zn (pw 1)))) (aE (Zf T.JT T.Bm Mb (Zn (pw 1)))) (fB (Zc dz (Zi (pw 2)) (a8 M T.pJ)) (Zq (aE (Zf T.Ka T.Bo Nn (Zf T.wC T.tS xK (pw 0) (pw 2)) (pw 3))) (aE (Zv (Zd 0) T.IZ YY (Zi (pw 2)) (pw 3) (Zn (pw 1))))) (cg (aE (Zv (Zd 0) T.Bd Nb (Zi (pw 2)) (pw 3) (Zn (pw 1)))))) (aE (Zf T.nP T.mq oq (pw 1) aS))),?_⟩;walk_at "zh";have as:=T.je;walk_at "an";have hs2:=I.si.aZ;have har:=I.si.aG;have htb:=I.si.aD;have hl:g.l.length=M0.stack.length:=I.bh.length.symm;left;refine⟨g.au,g.l.reverse,3,rfl,hs,?_⟩;have q':aI K m g H Q E (match M0.stack with
    |v::.int i::.arr k::r=>if fS v=true then .error dq else if i<0\/((M0.heap.arrays.getD k []).length:Int)<=i then .error eZ else .ok {M0 with stack:=r,heap:={M0.heap with arrays:=gL M0.heap.arrays k (gL (M0.heap.arrays.getD k []) i.toNat v)}}
    |v::.lit n::.table k::r=>M0.define k n v r
    |_::_::_::_=>.error dq
    |_=>.error cE):=q
  have hV:=I.bh;have hv:=W.au;match e:M0.stack,hl with
  |[],hl=>rw[e]at q';rw[if_pos (by rw[bN,hl];decide)];exact q'
  |[t],hl=>rw[e]at q';rw[if_pos (by rw[bN,hl,aA,jG];decide)];exact q'
  |[t,u],hl=>rw[e]at q';rw[if_pos (by rw[bN,hl,aA,aA,jG];decide)];cases u<;>exact q'
  |s::t::u::r,hl=>
   rw[e]at q' hV hv hz;obtain⟨v0,l0,el,h0,h0'⟩:=hV.bW;obtain⟨v,l1,rfl,h1,h2⟩:=h0'.bW;obtain⟨v2,l2,rfl,h3,h4⟩:=h2.bW;rw[if_neg (by rw[bN,hl,aA,aA,aA];omega)];right;rw[el]at hs;obtain⟨a,x,rfl,ea,hx⟩:=id h1;obtain⟨b,y,rfl,eb,hy⟩:=id h3;have hz2:r.length+1+1+1<=256:=hz;walk_at "ad";have vs:=hv s (by simp);clear q hl;left;refine⟨b,a,ba u,ba t,y,x,rfl,eb,ea,?_⟩;by_cases c:(ba u="array"/\ba t="number")\/(ba u="table"/\ba t="name")
   ·rw[if_pos c];right;intro H1 k0;have I1:=I.same k0;have hs1:=k0 _ _ hs;have ea1:=k0 _ _ ea;have eb1:=k0 _ _ eb;have hm1:=k0 _ _ hm;have hst1:=k0 _ _ hs2;have h3':=h3.keep (SW.aL.aj k0);have h0k:=h0.keep (SW.aL.aj k0);have fin:∀(g1:G)(M1:aY)(H2:Hp),MI K (bc K) m g1 M1 H2->Fr (aK m g) H (aK m g1) H2->g1.au=g.au->g1.l=g.l->g1.aF=g.aF->M1.stack=M0.stack->aI K m g H Q E (.ok {M1 with stack:=r})->K5 [V.ref g.au,V.int 3] H2 (fun x H1=>Q V.aO H1) E:=fun g1 M1 H2 J F e1 e2 e3 e4 qn=>by
     have hsJ:H2 g.au=some (.ai (v0::V.ref a::V.ref b::l2).reverse):=by rw[<-el,<-e1,<-e2];exact J.au
     refine⟨g.au,_,3,rfl,hsJ,by simp only[aA];omega,fun H' bb hp'=>?_⟩;have jv:aX (bF H2 g.aF) (s::t::u::r) (v0::V.ref a::V.ref b::l2):=by rw[<-e,<-el,<-e2,<-e3,<-e4];exact J.bh
     obtain⟨_,_,w1,_,jv3⟩:=jv.bW;cases w1;obtain⟨_,_,w1,_,jv3⟩:=jv3.bW;cases w1;obtain⟨_,_,w1,_,jv3⟩:=jv3.bW;cases w1;exact aI.au J (qn.fr F) (fun _ _ h=>h) (by rw[e1];exact bb) (by rw[e1];exact hp') fun tk=>by rw[e3];exact aM jv3 tk
    have q9:=q';clear q' hs hm;left;refine⟨s,v0,g.aF,rfl,h0k,?_⟩;have q':=q9;clear q9;rcases c with⟨c1,c2⟩|⟨c1,c2⟩
    ·obtain⟨k,rfl⟩:=w8 c1;obtain⟨i,rfl⟩:=eM c2;rw[bU]at hx;rw[bU]at hy;subst hx hy;have eb2:H1 b=some (.aj [.str "array",.int k]):=eb1;have q2:aI K m g H Q E (if fS s=true then .error dq else if i<0\/((M0.heap.arrays.getD k []).length:Int)<=i then .error eZ else .ok {M0 with stack:=r,heap:={M0.heap with arrays:=gL M0.heap.arrays k (gL (M0.heap.arrays.getD k []) i.toNat s)}}):=q';clear ea eb eb1 h1 h3 q';by_cases cs0:fS s=true
     ·rw[if_pos cs0]at q2 ⊢;right;exact Er.up q2 k0
     ·rw[if_neg cs0]at q2 ⊢;right;left;have vk:=hv (.arr k) (by simp);refine⟨m,g,M0,.arr k,.ref b,rfl,I1,h3',vk,fun al ws xs ex hw ha=>?_⟩;have gd:M0.heap.arrays.getD k []=xs:=by rw[gJ,ex];rfl
      have wl:ws.length=xs.length:=ha.length.symm;refine⟨al,ws,i,rfl,hw,?_⟩;rw[wl];rw[gd]at q2;by_cases c3:i<0\/(xs.length:Int)<=i
      ·rw[if_pos c3]at q2 ⊢;right;exact Er.up q2 k0
      ·rw[if_neg c3]at q2 ⊢;right;left;have ie:((i.toNat:Nat):Int)=i:=yt (by omega);rw[<-gd]at q2;refine⟨m,g,M0,k,i.toNat,v0,s,by rw[ie],I1,W,vk,by rw[gd];omega,xL h0k vs cs0,fun H' items oA bx J F=>?_⟩;exact fin _ _ H' J ((Fr.same k0).trans F) rfl rfl rfl rfl q2
    ·obtain⟨k,rfl⟩:=tZ c1;obtain⟨n,rfl⟩:=re c2;rw[bU]at hx;rw[bU]at hy;subst hx hy;have eb2:H1 b=some (.aj [.str "table",.int k]):=eb1;have q2:aI K m g H Q E (M0.define k n s r):=q';clear ea eb eb1 h1 h3 q';by_cases cs0:fS s=true
     ·rw[Nq cs0]at q2;rw[if_pos cs0];right;exact Er.up q2 k0
     ·rw[if_neg cs0];right;left;refine⟨m,g,M0,k,n,v0,s,rfl,I1,W,hv (.table k) (by simp),xL h0k vs cs0,?_⟩;by_cases d:(M0.heap.tables.getD k []).all (fun x=>x.1 != n)=true/\64<=(M0.heap.tables.getD k []).length
      ·rw[if_pos d];right;rw[Nr cs0 d]at q2;exact Er.up q2 k0
      ·rw[if_neg d];right;rw[Nt cs0 d]at q2;intro H' bg oT bx J F;exact fin _ _ H' J ((Fr.same k0).trans F) rfl rfl rfl rfl q2
   ·walk_at "ap";have q2:aI K m g H Q E (.error (-4)):=by
     cases t<;>first|exact q'|(cases u<;>first|exact q'|exact absurd (.inl ⟨rfl,rfl⟩) c|exact absurd (.inr ⟨rfl,rfl⟩) c)
    exact q2
def mV:cZ->Option aB
 | .each a _ _=>some (.arr a)
 |_=>none
theorem ZR{h:b9}{k:Nat}{l:List cZ}:(l.reverse.filterMap mV).any (jI h k)=l.any (fun f=>match f with| .each a _ _=>decide (h.arrays.length<=a)|_=>false):=by
 rw[List.filterMap_reverse,Dq];induction l with
 |nil=>rfl
 |cons f l ih=>
  rw[iV,<-ih];cases f<;>first|rfl|(rw[pW];rfl)
theorem ZT{K:ax}(T:Txt K){H:Hp}{f:cZ}{a:ae}(h:gG K H f a):Cj K H a "ForallFrame" (mV f).isSome:=by
 cases f with
 |code l=>obtain⟨dx,p,vs,i,h1,_⟩:=h;exact⟨_,_,_,h1,T.KQ,T.U6⟩
 |times n b=>obtain⟨dx,p,vs,h1,_⟩:=h;exact⟨_,_,_,h1,T.KS,T.Va⟩
 |again b=>obtain⟨dx,p,vs,h1,_⟩:=h;exact⟨_,_,_,h1,T.KR,T.U8⟩
 |count x y z b=>obtain⟨dx,p,vs,h1,_⟩:=h;exact⟨_,_,_,h1,T.KU,T.Vc⟩
 |each x y b=>obtain⟨dx,p,vs,r,h1,_⟩:=h;exact⟨_,_,_,h1,T.KW,T.Ve⟩
theorem ZU{X:Cx}{K:ax}{a:bq}{ta:TE}(h:X.K=K)(ha:PE X a ta)(he:∀whole,isTrue a X.ah whole=(do let v <-whole;standAt a.pos;holding [v] (truthy v))):PT X a (fun σ H Q=>ta σ H fun x H'=>∃k,qy K x H' k/\Q k H'):=by subst h;exact iz ha he
inductive Ny(K:ax)(vs:List V)(H:Hp)(Q:VK)(E:XK):Prop
 |mk:∀(m:ae)(g:G)(M:aY)(t:aB)(r:List aB),(vs=[.ref m])->(MI K (bc K) m g M H)->(Wf M)->(M.stack=t::r)->(∀p ws H' ts,L2.aL H H'->H' p=some (.ai ws)->aX (bF H' g.aF) ts ws->ws.length<=1000->
 (∀h k,ts.any (jI h k)=(r.any (jI h k) || (M.opens.any (fun t=>decide (h.tables.length<=t)) || M.frames.any (fun f=>match f with| .each a _ _=>decide (h.arrays.length<=a)|_=>false))))->Q (.ref p) H')->Ny K vs H Q E
def ZV(K:ax):Sp:=fun vs H Q E=>Ny K vs H Q E
local macro_rules| `(tactic|walk_at "rd0")=>`(tactic|simp only[b3,aQ,mU,Nat.reduceLT,nI,tz,qI,oI,sh,eW,lr,s0,tM,Aa, *])
theorem rE:ZS ["machine","stack","how_many","things","thing"] ["machine"] wo:=by symm
theorem ZX(T:Txt K)(M:MG K mg):ZF 6 "do_close_bracket" ["machine"] (cO K (bD "]")):=by
 refine ZC T.JR rE
 ·nofun;refine⟨_,(Zq (Zs 1 rE (Zd 0)) (Zs 2 rE (Zf T.Bl T.wB BV (pw 1))) (Zs 3 rE (l8 rk (pw 1) (jS (cT ig (Zl dD (pw 1)) (pw 2))) qA)) (Zz (iz (jL (Ab rfl) rfl (M.aO _ T.Bu) AJ (Zy (qE (own:=[("thing",4)]) rfl rE.nd (l7 (pw 3)) (by refine show kC ["machine","stack","how_many","things","thing"] (eU wo) _ [("thing",4)]from ?_;exact⟨rfl,by decide,by decide,by decide,by decide⟩) (fun _ _ _ _ _=>jO (i:=4) rE.nd rfl (eN rfl)) (fun _ _ _ _ _=>tq) (fun _ _ _ _ _=>(iy dz (sw yK (pw 4) aS (fun _ _=>rfl)) (a8 (x:="STATE") M T.qX) (gz _)))))) (fun _=>rfl)) (Zr T.mx T.nX ou T.mn T.nW)) (aE (Zf T.hU T.gF ic (pw 1) (cT mG (pw 2) aS) (Zv (Zd 0) T.Bc MV (pw 3))))),?_⟩;walk_at "zh";have as:=T.je;walk_at "an";have hs2:=I.si.aZ;have har:=I.si.aG;have htb:=I.si.aD;left;walk_at "ah";have q':aI K m g H Q E (match(if M0.stack.any de=true then some (M0.stack.takeWhile fun v=> !de v,(M0.stack.dropWhile fun v=> !de v).drop 1)else none)with|some x=>M0.newArray x.1.reverse x.2|none=>.error cE):=q;clear q;by_cases c:M0.stack.any de=true
  ·rw[if_pos c]at q' ⊢;right;have ll:g.l.length=M0.stack.length:=I.bh.length.symm;have st:M0.stack.take (M0.stack.takeWhile fun v=> !de v).length=M0.stack.takeWhile fun v=> !de v:=rq;have sd:(M0.stack.dropWhile fun v=> !de v).drop 1=M0.stack.drop ((M0.stack.takeWhile fun v=> !de v).length+1):=by rw[<-mR,rW]
   have nl:(M0.stack.takeWhile fun v=> !de v).length<M0.stack.length:=by
    have h1:=pS (f:=fun v=> !de v) (l:=M0.stack);by_cases z:(M0.stack.takeWhile fun v=> !de v).length=M0.stack.length
    ·obtain⟨v,hv,ev⟩:=lN.mp c;rw[<-oO (l:=M0.stack),<-z,st]at hv;have:=rp hv;rw[ev]at this;cases this
    ·lia
   have q2:aI K m g H Q E (M0.newArray (M0.stack.takeWhile fun v=> !de v).reverse ((M0.stack.dropWhile fun v=> !de v).drop 1)):=q';rw[<-st,sd]at q2;generalize(M0.stack.takeWhile fun v=> !de v).length=n at *;clear q' st sd;refine fun p hp=>?_;right;have ecut:fN g.l.reverse (some ((g.l.reverse.length:Nat)-(n:Nat):Int)) none=(g.l.take n).reverse:=by
    rw[bN,show((g.l.length:Nat):Int)-(n:Nat)=((g.l.length-n:Nat):Int)by lia];unfold fN;rw[HT.nB,HT.sU,bN,oN (by lia),OR,show g.l.length-(g.l.length-n)=n by lia,r8 (by rw[bN,eI];lia)]
   rw[ecut];have k1:=bA (o:=HO.ai (g.l.take n).reverse) hp;have p1:aq H p (HO.ai (g.l.take n).reverse) p=some (.ai (g.l.take n).reverse):=az;generalize aq H p (HO.ai (g.l.take n).reverse)=H1 at *;have aV:aX (bF H g.aF) (M0.stack.take n).reverse (g.l.take n).reverse:=(I.bh.take n).wX;have z256:M0.stack.length<=256:=hz;refine⟨_,rfl,⟨_,bV.of p1⟩,fun D hD=>?_⟩;have npD:D≠p:=fun z=>by rw[z,p1]at hD;cases hD
   refine pk (K:=K) (a:=p) (xs:=(g.l.take n).reverse) (fun i H'=>bJ D H1 H'/\H' D=some (.ai (((M0.stack.take n).reverse.take i).map fun v=>V.bl (fS v)))) ?_ ?_ ?_ ?_
   ·exact⟨bM,az⟩
   ·rintro i H' _ ⟨h1,_⟩;exact bV.of (h1 _ _ (cM npD) p1)
   ·rintro i x H' hx ⟨h1,h2⟩;obtain⟨v,ev,hvx⟩:=aV.hX i x hx;obtain⟨a,y,rfl,ea⟩:=hvx.aj;have ea1:=h1 _ _ (bw (k1 _ _ ea) hD) (k1 _ _ ea);have il:=(cP.mp ev).1;have ks:decide (ba v="state")=fS v:=by
     cases v with
     |state j=>exact decide_eq_true rfl
     |int j=>exact decide_eq_false (show ¬("number":af)="state" by decide)
     |truth j=>exact decide_eq_false (show ¬("truth":af)="state" by decide)
     |lit j=>exact decide_eq_false (show ¬("name":af)="state" by decide)
     |mark=>exact decide_eq_false (show ¬("mark":af)="state" by decide)
     |arr j=>exact decide_eq_false (show ¬("array":af)="state" by decide)
     |table j=>exact decide_eq_false (show ¬("table":af)="state" by decide)
     |proc j=>exact decide_eq_false (show ¬("procedure":af)="state" by decide)
     |word j=>exact decide_eq_false (show ¬("word":af)="state" by decide)
    refine⟨rfl,?_⟩;clear hs hm ea;left;refine⟨?_,h1.trans bM,?_⟩
    ·rw[bK,eI,bN,eI,bR];lia
    ·rw[m3 il,eY,(cP.mp ev).2];rfl
   ·rintro H2 ⟨h1,h2⟩;have xl:(g.l.take n).reverse.length=(M0.stack.take n).reverse.length:=aV.length.symm;rw[xl,oO]at h2;have k2:L2.aL H H2:=fun b o e=>h1 b o (bw (k1 _ _ e) hD) (k1 b o e);have p2:=h1 _ _ (cM npD) p1;refine⟨D,rfl,(M0.stack.take n).reverse.map fS,bV.of (by rw[h2,pZ];rfl),_,rfl,?_⟩;have ean:((M0.stack.take n).reverse.map fS).any id=(M0.stack.take n).reverse.any fS:=by rw[yg];rfl
    rw[ean];cases an:(M0.stack.take n).reverse.any fS with
    |true=>
     rw[ZH an]at q2;rw[if_pos rfl];right;exact Er.up q2 k2
    |false=>
     rw[if_neg (by decide)];right;have ns:¬(M0.stack.take n).reverse.any fS=true:=by rw[an];decide
     have hm2:=k2 _ _ hm;have hs3:=k2 _ _ hs2;clear hm hs2;left;refine⟨m,g,M0,p,_,(M0.stack.take n).reverse,rfl,I.same k2,W,p2,aV.cG fun v x mv hvx=>?_,fG I hp,?_⟩
     ·exact xL (hvx.keep (SW.aL.aj k2)) (W.au v (lP (List.mem_reverse.mp mv))) fun z=>ns (lN.mpr ⟨v,mv,z⟩)
     ·by_cases cf:full M0.heap ((M0.stack.take n).reverse.length:Nat)
      ·rw[if_pos cf];right;rw[Nu ns cf]at q2;exact Er.up q2 k2
      ·rw[if_neg cf];right;rw[Nv ns cf,du (by rw[aA,fh];lia)]at q2;intro a' H' hk J ea';have hsJ:H' g.au=some (.ai g.l.reverse):=J.au;refine⟨g.au,g.l,((n+1:Nat):Int),_,rfl,hsJ,by lia,by lia,fun H3 bb hp'=>?_⟩;have F:Fr (aK m g) H (aK m {g with items:=g.items++[p],bx:=p::g.bx}) H':=Cu (I.mo J) hp fun b o nb e=>hk b o (fun z=>nb (by rw[z];simp[aK,bu])) (fun z=>nb (by rw[z];simp[aK,bu])) (k2 b o e);rw[uz]at hp';exact aI.au J (q2.fr F) (fun _ _ h=>h) bb hp' fun tk=>.cons ⟨a',_,rfl,tk _ _ ea',by rw[bU]⟩ (aM (J.bh.drop (n+1)) tk)
  ·rw[if_neg c]at q' ⊢;right;exact q'
theorem uf:ZS ["machine","walked","frame","table"] ["machine"] tO:=by symm
theorem ZY(T:Txt K)(M:MG K mg):ZF 1 "things_in_use" ["machine"] (ZV K):=by
 refine ZB T.Ke uf
 ·obtain⟨m,g,M0,t,r,rfl,_⟩:=h;rfl
 ·obtain⟨m,g,M0,t,r,rfl,I,W,es,q⟩:=h;refine⟨_,(Zk (Rl (own:=[("frame",2)]) rfl uf.nd (i:=1) rfl rfl rfl (l7 (lp (pv 0) rfl)) (by refine show kC ["machine","walked","frame","table"] (eU tO) _ [("frame",2)]from ?_;exact⟨rfl,by decide,by decide,by decide,by decide⟩) (fun _ _ _ _ _=>jO (i:=2) uf.nd rfl (eN rfl)) (fun _ _ _ _ _=>(EG (ZU (K:=K) rfl (jL (AL (K:=K) rfl) rfl (M.aO _ T.Bv) AI (jz (pv 2) (jz (vg (x:="ForallFrame") (v:=.ref (ak K "ForallFrame")) rfl (M.val _ _ T.Kp) rfl rfl) gq))) (fun _=>rfl)))) (fun _ _ _ _ _=>(Cs (K:=K) rfl (pv 2) rfl))) (dh (cT vJ (cT vJ (l8 rk (lp (pv 0) rfl) qA (jS (fq iw aS))) (qE (own:=[("table",3)]) rfl uf.nd (l7 (lp (pv 0) rfl)) (by refine show kC ["machine","walked","frame","table"] (eU tO) _ [("table",3)]from ?_;exact⟨rfl,by decide,by decide,by decide,by decide⟩) (fun _ _ _ _ _=>jO (i:=3) uf.nd rfl (eN rfl)) (fun _ _ _ _ _=>tq) (fun _ _ _ _ _=>(Dx (jz (a8 (x:="TABLE") M T.pK) (jz (pv 3) gq)))))) (pv 1)))),?_⟩;walk_at "at";have ha:=T.gA;have hs:=I.au;have ap:=T.j4;have hp:=I.bB;have ao:=T.nZ;have hop:=I.dC;have hzf:M0.frames.length<=128:=W.aR.frames;have hzs:M0.stack.length<=256:=W.aR.stack;have hzo:M0.opens.length<=16:=W.aR.opens.2.1;have pv:=I.eL.wX;have fl:g.fs.length=M0.frames.length:=I.eL.length.symm;obtain⟨w0,l0,el,_,hV0⟩:=(show aX (bF H g.aF) (t::r) g.l by rw[<-es];exact I.bh).bW;left;refine⟨_,rfl,m,_,_,_,_,rfl,hm,hc,ap,zc g M0,g.bB,rfl,⟨_,bV.of hp⟩,fun D hD=>?_⟩;have dp:D≠g.bB:=fun z=>by rw[z,hp]at hD;cases hD
  refine pk (K:=K) (a:=g.bB) (xs:=(g.fs.map V.ref).reverse) (g:=oS 2) (tt:=fun σ H Q=>∃v,σ[2]? =some (some v)/\Fv K [v,V.ref (ak K "ForallFrame")] H fun x H'=>∃k,qy K x H' k/\Q k H') (te:=oU K (fU 2) "array") (vs:=[2]) (σ:=[some (V.ref m),none,none,none]) (fun i H'=>bJ D H H'/\∃ws,H' D=some (.ai ws)/\aX (bF H' g.aF) ((M0.frames.reverse.take i).filterMap mV) ws) ?_ ?_ ?_ ?_
  ·exact⟨bM,[],az,.nil⟩
  ·rintro i H' _ ⟨h1,_⟩;exact bV.of (h1 _ _ (cM dp) hp)
  ·rintro i x H' hx ⟨h1,ws,h2,h3⟩;rw[<-O2,dX]at hx;obtain⟨a,e1,rfl⟩:=jt.mp hx;obtain⟨f,e2,hf⟩:=pv.hX i a e1;have il:i<M0.frames.reverse.length:=(cP.mp e2).1;have et:(M0.frames.reverse.take (i+1)).filterMap mV=(M0.frames.reverse.take i).filterMap mV++[f].filterMap mV:=by rw[m3 il,List.filterMap_append,(cP.mp e2).2]
   have wl:ws.length<=128:=by
    rw[<-h3.length];refine dM (abM _ _) ?_;rw[eI,bN];lia
   refine⟨rfl,?_⟩;obtain⟨C,dx,fs,h4,h5,h6⟩:=ZT T hf;have h7:=h1 _ _ (bw h4 hD) h4;simp only[eW,List.set_cons_zero,CF,N5,uj,N6,exists_eq_left'];refine⟨a,_,C,dx,fs,_,rfl,h7,h5,h6,_,rfl,?_⟩;rw[et];cases hA:mV f with
   |none=>
    rw[if_neg (by simp)];refine⟨h1,ws,h2,?_⟩;rw[show[f].filterMap mV=[]by rw[pW,hA];rfl,kW];exact h3
   |some v=>
    rw[if_pos (by rfl)];obtain⟨k,j,b,rfl,rfl⟩:∃k j b,f=.each k j b/\v=.arr k:=by
     cases f with
     |each k j b=>cases hA;exact⟨k,j,b,rfl,rfl⟩
     |_=>cases hA
    obtain⟨dx2,p,vs,ra,g1,g2,g3,g4⟩:=hf;have g5:=h1 _ _ (bw g1 hD) g1;have g6:=h1 _ _ (bw g4 hD) g4;refine⟨_,rfl,a,_,_,_,_,rfl,g5,T.wI,T.Bz,rfl,_,h2,by rw[bR];lia,h1.trans bM,_,az,?_⟩;have tk:=(bM (o:=HO.ai (ws++[V.ref ra]))).aj h2 fun _ z=>by cases z
    exact(aM h3 tk).app (.cons ⟨ra,_,rfl,tk _ _ g6,by rw[bU]⟩ .nil)
  ·rintro H1 ⟨h1,ws3,h2,h3⟩;rw[bN,bK,fl,<-bN (as:=M0.frames),oO]at h3;have k1:L2.aL H H1:=fun b o e=>h1 b o (bw e hD) e;have hm1:=k1 _ _ hm;have hs1:H1 g.au=some (.ai (w0::l0).reverse):=by rw[<-el];exact k1 _ _ hs
   have wl3:ws3.length<=128:=by
    rw[<-h3.length];refine dM (abM _ _) ?_;rw[bN];lia
   have ecut:fN (w0::l0).reverse none (some (-1))=l0.reverse:=by
    unfold fN;rw[HT.sU,k8];have e1:HT.cJ (w0::l0).reverse.length (w0::l0).reverse.length (some (-1))=l0.length:=by
     have e0:HT.cJ (w0::l0).reverse.length (w0::l0).reverse.length (some (-1))=((-1:Int)+((w0::l0).reverse.length:Nat)).toNat:=by
      show(if(-1:Int)<0 then((-1:Int)+((w0::l0).reverse.length:Nat)).toNat else min (-1:Int).toNat (w0::l0).reverse.length)=_;rw[if_pos (by decide)]
     rw[e0,bN,aA];lia
    rw[e1,Nat.sub_zero,kn,List.take_append_of_le_length (by rw[bN];exact bY _),r8 (by rw[bN];exact bY _)]
   have ll0:l0.length<=256:=by
    have:=hV0.length;rw[es,aA]at hzs;lia
   have q0:=q;clear hm hs q;left;intro p hp1;have k2:=bA (o:=HO.ai l0.reverse) hp1;have p2:aq H1 p (HO.ai l0.reverse) p=some (.ai l0.reverse):=az;generalize aq H1 p (HO.ai l0.reverse)=H2 at *;have k12:=k1.trans k2;have hop2:=k12 _ _ hop;have hm2:=k2 _ _ hm1;have D2:=k2 _ _ h2;refine⟨_,rfl,m,_,_,_,_,rfl,hm2,hc,ao,ze g M0,g.dC,rfl,⟨_,bV.of hop2⟩,fun E1 hE=>?_⟩;have no:E1≠g.dC:=fun z=>by rw[z,hop2]at hE;cases hE
   refine pk (K:=K) (a:=g.dC) (xs:=(M0.opens.map fun k=>V.int (k:Nat)).reverse) (fun i H'=>bJ E1 H2 H'/\∃ws,H' E1=some (.ai ws)/\aX (bF H' g.aF) ((M0.opens.reverse.take i).map aB.table) ws) ?_ ?_ ?_ ?_
   ·exact⟨bM,[],az,.nil⟩
   ·rintro i H' _ ⟨f1,_⟩;exact bV.of (f1 _ _ (cM no) hop2)
   ·rintro i x H' hx ⟨f1,ws,f2,f3⟩;rw[<-O2,dX]at hx;obtain⟨k,e1,rfl⟩:=jt.mp hx;have il:i<M0.opens.reverse.length:=(cP.mp e1).1;have wl:ws.length<=16:=by
     rw[<-f3.length,bK,eI,bN];lia
    refine⟨rfl,?_⟩;have z2:2<=sizeLine:=by rw[bR];decide
    left;intro u hu;have k3:=bA (o:=HO.aj [V.str "table",V.int (k:Nat)]) hu;refine⟨_,k3 _ _ f2,by rw[bR];lia,fun b o n e=>bM b o n (k3 b o (f1 b o n e)),?_⟩;have tk:=(bM (o:=HO.ai (ws++[V.ref u]))).aj (k3 _ _ f2) fun _ z=>by cases z
    rw[m3 il,eY,(cP.mp e1).2];exact(aM (aM f3 (SW.aL.aj k3)) tk).app (.cons ⟨u,_,rfl,tk _ _ az,by rw[bU]⟩ .nil)
   ·rintro H3 ⟨f1,ws2,f2,f3⟩;rw[bN,bK,<-bN (as:=M0.opens),oO]at f3;have k3:L2.aL H2 H3:=fun b o e=>f1 b o (bw e hE) e;have k13:=k12.trans k3;have wl2:ws2.length<=16:=by rw[<-f3.length,bK,bN];exact hzo
    refine⟨E1,rfl,_,k3 _ _ p2,_,f2,by rw[bN,bR];lia,fun p4 hp4=>?_⟩;have k4:=bA (o:=HO.ai (l0.reverse++ws2)) hp4;refine⟨_,k4 _ _ (k3 _ _ D2),by rw[eQ,bN,bR];lia,fun p5 hp5=>?_⟩;have k5:=bA (o:=HO.ai (l0.reverse++ws2++ws3)) hp5;have kk:=(k13.trans k4).trans k5;refine q0 p5 _ _ (r.reverse++M0.opens.reverse.map aB.table++M0.frames.reverse.filterMap mV) kk az ?_ (by rw[eQ,eQ,bN];lia) fun h k=>?_
    ·refine((aM hV0.wX (SW.aL.aj kk)).app (aM f3 (SW.aL.aj (k4.trans k5)))).app (aM h3 (SW.aL.aj (((k2.trans k3).trans k4).trans k5)))
    ·rw[List.any_append,List.any_append,Dq,yg,Dq,ZR,Bool.or_assoc];rfl
theorem ug:ZS ["machine","stack","state","thing"] ["machine"] wv:=by symm
theorem ZZ(T:Txt K)(M:MG K mg):ZF 6 "do_back" ["machine"] (cO K (bD "back")):=by
 refine ZC T.Kf ug
 ·nofun;refine⟨_,(Zq (Zs 1 ug (Zd 0)) (aE (Zf T.hG T.gE ip (pw 1) (Zt (a8 M T.qX)))) (Zs 2 ug (Zv (Zd 0) T.Ja Y4 (Zi (Zn (pw 1))))) (Zz (iz (jL (Ab rfl) rfl (M.aO _ T.Bu) AJ (Zy (qE (own:=[("thing",3)]) rfl ug.nd (l7 (Zf T.Ui T.Ke ZY (pw 0))) (by refine show kC ["machine","stack","state","thing"] (eU wv) _ [("thing",3)]from ?_;exact⟨rfl,by decide,by decide,by decide,by decide⟩) (fun _ _ _ _ _=>jO (i:=3) ug.nd rfl (eN rfl)) (fun _ _ _ _ _=>tq) (fun _ _ _ _ _=>(Y5 (K:=K) rfl (pw 2) T.IW (Y3 T M) (hr.cG (by decide)) SH (jz (pw 3) gq)))))) (fun _=>rfl)) (Zr T.Br T.Kl Lc T.A6 T.Kk)) (aE (iA gk ju jw jb (pw 1))) (aE (Zv (Zd 0) T.Jb Zh (pw 2)))),?_⟩;walk_at "as";have k0:=bA (o:=HO.aj [V.str "state"]) hk;refine⟨g.au,g.l,M0.stack,g.aF,kt,["state"],rfl,k0 _ _ hs,aM I.bh (SW.aL.aj k0),az,?_⟩;cases e:eC ["state"] M0.stack with
  |some z=>
   have:bD "back" M0=.error z:=by
    show((match M0.stack with| .state k::r=>(match M0.kept[k]? with|none=>.error sj|some h=>if r.any (jI h k)=true\/M0.opens.any (fun t=>decide (h.tables.length<=t))=true\/M0.frames.any (fun f=>match f with| .each a _ _=>decide (h.arrays.length<=a)|_=>false)=true then .error sj else .ok {M0 with stack:=r,heap:=h,kept:=M0.kept.take k})|_::_=>.error dq|_=>.error cE):cD)=_;rcases iq e with⟨h1,rfl⟩|⟨h1,h2,rfl⟩
    ·match es:M0.stack,h1 with
     |[],_=>rfl
     |_::r,h1=>exact absurd h1 (by simp)
    ·match es:M0.stack,h1,h2 with
     |t::r,_,h2=>cases t<;>first|rfl|(simp[fv,ba]at h2)
     |[],h1,_=>exact absurd (by simp) h1
   walk_at "am"
  |none=>
   obtain⟨t,r,es,kd0⟩:=mM e;obtain⟨p0,rfl⟩:=w9 (kd0.kind (by decide));have q0:aI K m g H Q E (match M0.stack with| .state k::r=>(match M0.kept[k]? with|none=>.error sj|some h=>if r.any (jI h k)=true\/M0.opens.any (fun t=>decide (h.tables.length<=t))=true\/M0.frames.any (fun f=>match f with| .each a _ _=>decide (h.arrays.length<=a)|_=>false)=true then .error sj else .ok {M0 with stack:=r,heap:=h,kept:=M0.kept.take k})|_::_=>.error dq|_=>.error cE):=q;walk_at "aa";have as:=T.je;have cs:=T.fF;have hs2:=I1.si.aZ;rw[el]at hs1;generalize aq H kt (.aj [.str "state"])=H1 at *;clear q hs hm;have pl:p0<M0.kept.length:=hv (.state p0) (by simp);obtain⟨hh,eh⟩:∃hh,M0.kept[p0]? =some hh:=⟨_,f7 pl⟩
   have q1:aI K m g H Q E (if r.any (jI hh p0)=true\/M0.opens.any (fun t=>decide (hh.tables.length<=t))=true\/M0.frames.any (fun f=>match f with| .each a _ _=>decide (hh.arrays.length<=a)|_=>false)=true then .error sj else .ok {M0 with stack:=r,heap:=hh,kept:=M0.kept.take p0}):=by
    have h:aI K m g H Q E (match M0.kept[p0]? with|none=>.error sj|some h=>if r.any (jI h p0)=true\/M0.opens.any (fun t=>decide (h.tables.length<=t))=true\/M0.frames.any (fun f=>match f with| .each a _ _=>decide (h.arrays.length<=a)|_=>false)=true then .error sj else .ok {M0 with stack:=r,heap:=h,kept:=M0.kept.take p0}):=q0;rw[eh]at h;exact h
   obtain⟨s,hk2,S⟩:=I1.si.jf.get p0 hh eh;have j1:=j0.keep (SW.aL.aj k0);obtain⟨a,x,rfl,ea,hx⟩:=j1;rw[bU]at hx;obtain⟨n,en,rfl⟩:=hx;have en2:g.aF[p0]? =some s.eJ:=by unfold G.aF;rw[dX,hk2];rfl
   have ens:n=s.eJ:=by rw[en]at en2;exact fz en2
   subst ens;have ea1:H1 a=some (.aj [.str "state",.int s.eJ]):=ea;have hz2:r.length+1<=256:=by rw[es]at hz;exact hz
   clear ea q0;left;refine⟨m,g,M0,p0,s,rfl,I1,W,hk2,?_⟩;refine⟨m,g,M0,_,r,rfl,I1,W,es,fun p ws H2 ts k2 hw haw wl hany=>⟨p,rfl,⟨_,bV.of hw⟩,fun D hD=>?_⟩⟩;have npD:D≠p:=fun z=>by rw[z,hw]at hD;cases hD
   have tl:ts.length=ws.length:=haw.length;refine pk (K:=K) (a:=p) (xs:=ws) (fun i H'=>bJ D H2 H'/\H' D=some (.ai ((ts.take i).map fun v=>V.bl (jI hh p0 v)))) ?_ ?_ ?_ ?_
   ·exact⟨bM,az⟩
   ·rintro i H' _ ⟨h1,_⟩;exact bV.of (h1 _ _ (cM npD) hw)
   ·rintro i x H' hx ⟨h1,h2⟩;obtain⟨v,ev,hvx⟩:=haw.hX i x hx;have il:=(cP.mp ev).1;have k3:L2.aL H1 H':=fun b o e=>h1 b o (bw (k2 b o e) hD) (k2 b o e);have S':lD K H' hh s:=S.keep (SW.aL.aj k3) fun b o _ e=>k3 b o e;have so:=S'.obj;have hv':bF H' g.aF v x:=hvx.keep fun b xs e=>h1 b _ (bw e hD) e;refine⟨rfl,?_⟩;simp only[lr,reduceIte];refine⟨s.a,_,_,rfl,so,rfl,s,hh,v,x,g.aF,p0,rfl,S',hv',I1.si.iB,en2,_,h2,by rw[bK,eI,bR];lia,h1.trans bM,?_⟩;rw[az,m3 il,eY,(cP.mp ev).2];rfl
   ·rintro H3 ⟨h1,h2⟩;rw[<-tl,oO]at h2;have k3:L2.aL H1 H3:=fun b o e=>h1 b o (bw (k2 b o e) hD) (k2 b o e);have I3:=I1.same k3;have k03:=k0.trans k3;refine⟨D,rfl,ts.map (jI hh p0),bV.of (by rw[h2,pZ];rfl),_,rfl,?_⟩;have ean:(ts.map (jI hh p0)).any id=ts.any (jI hh p0):=by rw[yg];rfl
    rw[ean,hany];dsimp only;by_cases cc:r.any (jI hh p0)=true\/M0.opens.any (fun t=>decide (hh.tables.length<=t))=true\/M0.frames.any (fun f=>match f with| .each a _ _=>decide (hh.arrays.length<=a)|_=>false)=true
    ·rw[if_pos cc]at q1;rw[if_pos (by simpa[C9]using cc)];right;exact Er.up q1 k03
    ·rw[if_neg cc]at q1;rw[if_neg (by simpa[C9]using cc)];right;have hs3:=k3 _ _ hs1;have hm3:=k3 _ _ hm1;have hst3:=k3 _ _ hs2;have b4:bJ g.au H3 (aq H3 g.au (.ai l0.reverse)):=bM;have hm4:=b4 _ _ (bG I.dk 0 1 rfl rfl (by decide)) hm3;have hst4:=b4 _ _ (bG I.dk 4 1 rfl rfl (by decide)) hst3;have ty:=dc (K:=K) hs3;have tk4:=b4.aj hs3 fun _ z=>by cases z
     have hV4:=aM (aM hV0 (SW.aL.aj k03)) tk4;have J:=I3.pL b4 (l':=l0) (s':=r) az hV4;have vr:∀v∈r,cH M0.heap M0.kept.length v:=fun v h=>hv v (bP _ h);have W4:Wf {M0 with stack:=r}:=dJ W vr (du (by lia));have ns:∀v∈r,∀j,v=.state j->j<p0:=fun v h j e=>by
      refine rY fun z=>cc (.inl (lN.mpr ⟨v,h,?_⟩));rw[e];exact decide_eq_true z
     clear hs1 hm1 hs2;left;refine⟨m,{g with l:=l0},{M0 with stack:=r},p0,s,hh,rfl,J,W4,hk2,eh,WQ hV4 vr ns,fun H' sl d1 d2 J' F'=>?_⟩;exact q1 _ _ J' ((Fr.same k03).trans ((Fr.dY b4 (by simp[aK,bu]) (by have e:=I3.mo J;exact e)).trans F'))
inductive Nz(K:ax)(vs:List V)(H:Hp)(Q:VK)(E:XK):Prop
 |mk:∀m g M n,(vs=[.ref m,.str (bH n)])->(MI K (bc K) m g M H)->(Wf M)->(aI K m g H Q E (p6 M (.word n)))->Nz K vs H Q E
def Z0(K:ax):Sp:=fun vs H Q E=>Nz K vs H Q E
def uW(wd:String)(M:aY):cD:=if wd="exit" then xB M else bD wd M
def Z1(P:bv)(w:bf)(K:ax)(mg:af->Option ag)(base:Heap)(e:Key×V):Prop:=∃(wd:String)(f:ae),e=(cX (d7 wd),.ref f)/\(wd="exit"\/wd∈jJ)/\bH (iJ wd)=d7 wd/\
 iG K (.ref f)=true/\gS K (iN K f) ["machine"] []/\uV P w K mg base 20 f ["machine"] (cO K (uW wd))
def xM:List Str:=["pop","exch","dup","copy","index","roll","clear","count","mark","[","cleartomark","counttomark","]","=","add","sub","mul","idiv","mod","neg","lt","le","gt","ge","eq","and","or","xor","not","true","false","exec","if","ifelse","repeat","loop","for","forall","exit","def","load","table","begin","end","known","array","length","get","put","keep","back"].map d7
theorem Z2(K:ax):(bc K).map (·.1)=xM.map cX:=rfl
theorem Z3:(("exit"::jJ).all fun s=>xM.any fun k=>decide (k=bH (iJ s)))=true:=by decide
theorem Z4:∀s∈"exit"::jJ,bH (iJ s)∈xM:=fun s hs=>by
 obtain⟨k,hk,e⟩:=lN.mp (lO.mp Z3 s hs);rw[<-of_decide_eq_true e];exact hk
theorem xN(M:aY)(n:bO):p6 M (.word n)=(match M.look n with
  |some (.proc p)=>M.frame M.stack (.code p)
  |some x=>M.with_ (x::M.stack)
  |none=>if n=iJ "exit" then xB M else match(jJ.find? fun w=>iJ w==n).bind fun w=>yn w M with|some r=>r|none=>.error qc):=rfl
theorem Z5:∀s∈jJ,jJ.find? (fun v=>iJ v==iJ s)=some s:=by decide
theorem Z6:∀s∈jJ,iJ s≠iJ "exit":=by decide
theorem Z7{kvs:List (Key×V)}{k:Key}{v:V}(h:cK kvs k=some v):(k,v)∈kvs:=by
 unfold cK at h;obtain⟨e,he,rfl⟩:=jt.mp h;have:=List.find?_some he;have m:=abE he;obtain⟨a,b⟩:=e;have:a=k:=by simpa using this
 subst this;exact m
theorem Z8{K:ax}{M:aY}{n:bO}(lk:M.look n=none)(h:¬(cX (bH n):Key)∈(bc K).map (·.1)):p6 M (.word n)=.error (-6):=by
 rw[Z2]at h;have hn:∀s∈"exit"::jJ,n≠iJ s:=fun s hs e=>h (by rw[e];exact iW.mpr ⟨_,Z4 s hs,rfl⟩);rw[xN,lk];dsimp only;rw[if_neg (hn _ cw)];have:jJ.find? (fun w=>iJ w==n)=none:=List.find?_eq_none.mpr fun s hs e=>hn s (bP _ hs) (by simpa using(eq_of_beq e).symm);rw[this];rfl
theorem Z9(wd:String)(h:wd∈jJ)(M:aY):(yn wd M).isSome=true:=by
 simp only[jJ,br,gK,or_false]at h;rcases h with rfl|rfl|rfl|rfl|rfl|rfl|rfl|rfl|rfl|rfl|rfl|rfl|rfl|rfl|rfl|rfl|rfl|rfl|rfl|rfl|rfl|rfl|rfl|rfl|rfl|rfl|rfl|rfl|rfl|rfl|rfl|rfl|rfl|rfl|rfl|rfl|rfl|rfl|rfl|rfl|rfl|rfl|rfl|rfl|rfl|rfl|rfl|rfl|rfl|rfl<;>rfl
theorem aaa{M:aY}{n:bO}{wd:String}(lk:M.look n=none)(en:n=iJ wd)(h:wd="exit"\/wd∈jJ):p6 M (.word n)=uW wd M:=by
 unfold uW;rw[xN,lk];dsimp only;by_cases c:wd="exit"
 ·subst c;rw[if_pos en,if_pos rfl]
 ·have hw:=h.resolve_left c;rw[if_neg (by rw[en];exact Z6 wd hw),if_neg c,en,Z5 wd hw];unfold bD;show(match yn wd M with|some r=>r|none=>.error qc)=_;have:=Z9 wd hw M;cases e:yn wd M with
  |none=>rw[e]at this;cases this
  |some r=>rfl
theorem aab(T:Txt K)(M:MG K mg):∀e∈bc K,Z1 P w K mg base e:=by
 intro e he;simp only[bc,br,gK,or_false]at he;rcases he with rfl|rfl|rfl|rfl|rfl|rfl|rfl|rfl|rfl|rfl|rfl|rfl|rfl|rfl|rfl|rfl|rfl|rfl|rfl|rfl|rfl|rfl|rfl|rfl|rfl|rfl|rfl|rfl|rfl|rfl|rfl|rfl|rfl|rfl|rfl|rfl|rfl|rfl|rfl|rfl|rfl|rfl|rfl|rfl|rfl|rfl|rfl|rfl|rfl|rfl|rfl
 ·exact ZW "pop" "do_pop" T.JG Vu
 ·exact ZW "exch" "do_exch" T.JH Wj
 ·exact ZW "dup" "do_dup" T.JI Vv
 ·exact ZW "copy" "do_copy" T.JK WE
 ·exact ZW "index" "do_index" T.JL Wy
 ·exact ZW "roll" "do_roll" T.JM WG
 ·exact ZW "clear" "do_clear" T.JN We
 ·exact ZW "count" "do_count" T.JO Wi
 ·exact ZW "mark" "do_mark" T.Bk LH
 ·exact ZW "[" "do_mark" T.Bk LH
 ·exact ZW "cleartomark" "do_cleartomark" T.JP WB
 ·exact ZW "counttomark" "do_counttomark" T.JQ WC
 ·exact ZW "]" "do_close_bracket" T.JR ZX
 ·exact ZW "=" "do_say" T.JS X9
 ·exact ZW "add" "do_add" T.Jo Vw
 ·exact ZW "sub" "do_sub" T.Jp Vx
 ·exact ZW "mul" "do_mul" T.Jq Vy
 ·exact ZW "idiv" "do_idiv" T.Js Wr
 ·exact ZW "mod" "do_mod" T.Jt Ws
 ·exact ZW "neg" "do_neg" T.Ju Wk
 ·exact ZW "lt" "do_lt" T.Jv Vz
 ·exact ZW "le" "do_le" T.Jw VA
 ·exact ZW "gt" "do_gt" T.Jx VB
 ·exact ZW "ge" "do_ge" T.Jy VC
 ·exact ZW "eq" "do_eq" T.Jz WM
 ·exact ZW "and" "do_and" T.JA Xc
 ·exact ZW "or" "do_or" T.JB Xd
 ·exact ZW "xor" "do_xor" T.JC Xe
 ·exact ZW "not" "do_not" T.JD WZ
 ·exact ZW "true" "do_true" T.JE Wg
 ·exact ZW "false" "do_false" T.JF Wh
 ·exact ZW "exec" "do_exec" T.Jh V1
 ·exact ZW "if" "do_if" T.Ji Wa
 ·exact ZW "ifelse" "do_ifelse" T.Jj Wb
 ·exact ZW "repeat" "do_repeat" T.Jk V8
 ·exact ZW "loop" "do_loop" T.Jl V7
 ·exact ZW "for" "do_for" T.Jm Wc
 ·exact ZW "forall" "do_forall" T.Jn V9
 ·exact⟨"exit",ak K "do_exit",rfl,.inl rfl,by decide,T.Bh.fn.kp,T.Bh.bd,dG.cG (Yb T M) (by decide)⟩
 ·exact ZW "def" "do_def" T.JU ZJ
 ·exact ZW "load" "do_load" T.JV Ya
 ·exact ZW "table" "do_table" T.JW ZD
 ·exact ZW "begin" "do_begin" T.JX Xi
 ·exact ZW "end" "do_end" T.JY Xh
 ·exact ZW "known" "do_known" T.JZ ZK
 ·exact ZW "array" "do_array" T.J7 ZL
 ·exact ZW "length" "do_length" T.J8 ZO
 ·exact ZW "get" "do_get" T.Kb ZP
 ·exact ZW "put" "do_put" T.Kc ZQ
 ·exact ZW "keep" "do_keep" T.Kd ZG
 ·exact ZW "back" "do_back" T.Kf ZZ
local macro_rules| `(tactic|walk_at "rd0")=>`(tactic|simp only[b3,aQ,Fa,oI,sh,qI,nI, *])
theorem aac(T:Txt K)(M:MG K mg):ZM 21 "Machine" "do_word" ["self","name"] (Z0 K):=by
 refine ZB T.Jc.df GN
 ·obtain⟨m,g,M0,n,rfl,_⟩:=h;rfl
 ·obtain⟨m,g,M0,n,rfl,I,W,q⟩:=h;have hu:=qK hr;refine⟨_,(Zq (Zs 2 GN (Zv (pw 0) T.Bg Mg (pw 1))) (fB (Zc D3 (pw 2) vf) (Zq (Zz (sJ (tD hu (pw 1) (Zd 0))) (Zr T.wG T.Bq BH T.ww T.Bp)) (aE (Sb (EQ hu (Zd 0) (pw 1) (fun _ _=>rfl)) (hr.cG (by decide):c6 20 _) (fT (E:=E)) (Zy (pw 0)) rfl))) (cg (fB (Zc dz (Zi (pw 2)) (a8 M T.kN)) (cg (aE (Zv (pw 0) T.nQ pQ (Zm T.mz mL T.my T.lu (Zi (pw 2)))))) (cg (aE (Zv (pw 0) T.jd lG (pw 2)))))))),?_⟩;walk_at "at";have aw:=T.KL;have hw:=I.fY;left;refine⟨m,g,M0,n,rfl,I,W,?_⟩;cases lk:M0.look n with
  |none=>
   simp only[B9,eq_self,if_true];have dg:eE H g.fY (.str (bH n)) (cK (bc K) (cX (bH n))):=eE.k (k:=cX (bH n)) hw;left;cases ev:cK (bc K) (cX (bH n))with
   |none=>
    rw[ev]at dg;refine⟨none,dg,?_⟩;rw[if_pos (by rfl)];right;rw[Z8 lk (E2 ev)]at q;exact q
   |some x=>
    rw[ev]at dg;obtain⟨wd,f,e1,e2,e3,e4,e5,e6⟩:=aab (P:=P) (w:=w) (base:=base) T M _ (Z7 ev);obtain⟨e7,rfl⟩:=Prod.mk.inj e1;have en:n=iJ wd:=t8 ((xS e7).trans e3.symm);refine⟨_,dg,?_⟩;rw[if_neg (by simp)];right;refine⟨_,(by rw[en,e3]at dg;exact dg),f,rfl,e4,_,_,e5,_,e6,m,g,M0,rfl,I,W,?_⟩;rw[aaa lk en e2]at q;exact q
  |some v=>
   intro x hx;obtain⟨b,y,rfl,eb⟩:=hx.aj;right;rw[if_neg (by simp)];right;have vo:=xi W lk;by_cases c:ba v="procedure"
   ·obtain⟨p,rfl⟩:=kQ c;have q1:aI K m g H Q E (M0.frame M0.stack (.code p)):=by
     have h:aI K m g H Q E (match M0.look n with|some (.proc p)=>M0.frame M0.stack (.code p)|some x=>M0.with_ (x::M0.stack)|none=>xB M0):=by rw[lk];have:=q;rw[xN,lk]at this;exact this
     rw[lk]at h;exact h
    obtain⟨a2,p2,vs,e1,e2,e3,e4⟩:=hx.proc vo;cases e1;have ey:y=V.ref p2:=by have z:=eb.symm.trans e2;cases z;rfl
    subst ey;clear eb;have e2':H b=some (.aj [.str "procedure",.ref p2]):=e2;left;intro x dx2 hxn hdx nx;refine⟨x,dx2,p2,rfl,az,fun H2 bb h9=>⟨rfl,?_⟩⟩;have k0:=iD hxn hdx bb;have I2:=I.same k0;refine⟨m,g,M0,.code p,x,rfl,I2,⟨dx2,p2,vs,0,h9,k0 _ _ e3,cI _,by rw[k8];exact aM e4 (SW.aL.aj k0)⟩,fG I hxn,W.aR.frames,?_⟩;by_cases c:128<=M0.frames.length
    ·rw[uc c]at q1;rw[if_pos c];right;exact Er.up q1 k0
    ·rw[ud c]at q1;walk_at "ap";intro H' b2 J;exact q1 H' _ J (rC (I.mo J) hxn fun c o n e=>b2 c o (fun z=>n (by rw[z];simp[aK,bu])) (k0 c o e))
   ·have q1:aI K m g H Q E (M0.with_ (v::M0.stack)):=by
     have:=q;rw[xN,lk]at this;cases v<;>first|exact this|exact absurd rfl c
    left;exact⟨m,g,M0,v,.ref b,rfl,I,hx.keep (fun _ _ h=>h) (fun i n e=>by simp at e),W.aR.stack,q1⟩
theorem aad{M:aY}{fr:List cZ}(h:M.frames=.code []::fr):fj M=some (.ok {M with frames:=fr}):=by unfold fj;rw[h]
theorem aae{M:aY}{v:aB}{l:List aB}{fr:List cZ}(h:M.frames=.code (v::l)::fr):fj M=some (p6 {M with frames:=.code l::fr} v):=by unfold fj;rw[h]
theorem aaf{M:aY}{v:aB}(h:∀n,v≠.word n):p6 M v=M.with_ (v::M.stack):=by
 cases v with
 |word n=>exact absurd rfl (h n)
 |_=>rfl
local macro_rules| `(tactic|walk_at "rd0")=>`(tactic|simp only[b2,aQ,i5,vF,zx,Cn,beq_self_eq_true,Nat.reduceLT, *])
theorem aag(T:Txt K)(M:MG K mg):ZM 22 "RunFrame" "advance" ["self","machine"] (ub K Yp):=by
 refine ZB T.Iz.df FU
 ·obtain⟨m,g,M0,a,fs,f,fr,r,rfl,_⟩:=h;rfl
 ·obtain⟨m,g,M0,a,fs,f,fr,r,rfl,I,W,ef,em,hf,hr0,q⟩:=h;refine⟨_,(Zq (fB (Zc dz (Zd 0) (Zl BD (Zd 0))) (Zq (aE (iA gk ju jw jb (Ze (pw 1)))) vn) lT) (Zs 2 FU (Zx yK (Zd 0) (Zd 0))) (nu (pw 0) aS pj) (fB (Zc dz (Zi (pw 2)) (a8 M T.wK)) (cg (aE (Zv (pw 1) T.Jc aac (Zi (pw 2))))) (cg (aE (Zv (pw 1) T.jd lG (pw 2)))))),?_⟩;walk_at "at";have ap:=T.j4;have hp:=I.bB;have pv:=I.eL;rw[ef,em]at pv;rw[ef]at hp;have hzf:M0.frames.length<=128:=W.aR.frames;match f,hf,pv with
  | .code l,_,.cons pv pt=>
   obtain⟨dx,p,ws,i,h1,h2,h3,h4⟩:=pv;have cf:=T.Km;have a1:=T.Ky;have a2:=T.Kz;have ty:=dc (K:=K) hp;have ll:l.length=ws.length-i:=by rw[h4.length,fh]
   cases l with
   |nil=>
    have ei:(i:Int)=(ws.length:Nat):=by rw[jG]at ll;lia
    rw[aad em]at hr0;cases hr0;have q2:=xH ef em I q;left;all_goals exact⟨_,rfl⟩
   |cons v l=>
    rw[aA]at ll;have il:i<ws.length:=by lia
    have ei:¬(i:Int)=(ws.length:Nat):=by lia
    obtain⟨x,ex⟩:∃x,ws[i]? =some x:=⟨_,f7 il⟩
    rw[uN il,(cP.mp ex).2]at h4;obtain⟨_,_,e1,hx,h5⟩:=h4.bW;cases e1;have hat:cR ws (i:Int)=some x:=fW ex;rw[aae em]at hr0;cases hr0;obtain⟨b,y,rfl,eb,hy⟩:=id hx;have b1:bJ a H (aq H a (.aP (ak K "RunFrame") dx [("things",.ref p),("place",.int ((i:Int)+1))])):=bM;have tk:=b1.aj h1 fun _ z=>by cases z
    have J:=I.WR ef em b1 (f':=.code l) ⟨dx,p,ws,i+1,az,tk _ _ h2,by lia,aM h5 tk⟩;have F:Fr (aK m g) H (aK m g) (aq H a (.aP (ak K "RunFrame") dx [("things",.ref p),("place",.int ((i:Int)+1))])):=Fr.dY b1 (xG ef) (I.mo J);have qd:=iQ.of (fr:=.code l::fr) q J F;have hm2:=b1 _ _ (fun z=>(I.LS ef).1 (by rw[<-z];simp[bu])) hm;have eb2:=tk _ _ eb;have hx2:=hx.keep tk;have hzs:M0.stack.length<=256:=W.aR.stack;have fo:=W.bB _ (by rw[em];exact cw);have co:eg v:=fo v cw;have W2:Wf {M0 with frames:=.code l::fr}:=kR W (fun f hf=>by
     rcases br.mp hf with rfl|hf
     ·exact fun u hu=>fo u (bP _ hu)
     ·exact W.bB f (by rw[em];exact bP _ hf)) (by rw[em]at hzf;exact hzf)
    by_cases c:ba v="word"
    ·obtain⟨n,rfl⟩:=Vo c;rw[bU]at hy;subst hy;have eb3:aq H a (.aP (ak K "RunFrame") dx [("things",.ref p),("place",.int ((i:Int)+1))]) b=some (.aj [.str "word",.str (bH n)]):=eb2;clear eb eb2 q;left;exact⟨m,g,_,n,rfl,J,W2,qd⟩
    ·have nw:∀n,v≠.word n:=fun n z=>c (by rw[z];rfl);rw[aaf nw]at qd;clear q;left;exact⟨m,g,_,v,.ref b,rfl,J,hx2.keep (fun _ _ h=>h) (fun i n e=>by simp at e),hzs,qd⟩
end SW
set_option tactic.hygienic true
namespace SW
def mW(l:List Int)(cs:List (List (List Int))):Prop:=(∃f,Dr PySz07.shape f l=some cs)/\∀c∈cs,PyInside.call PySz07.bound c=true
def jk(M:aY)(cs:List (List (List Int))):List Int:=PyFlat.told (PyFlat.played sr M (cs.map ss))
theorem aah{M:aY}:jk M []=[]:=rfl
theorem Cv{M:aY}{c:List (List Int)}{r:List (List (List Int))}:jk M (c::r)=((((sr M (ss c)).2.length:Nat):Int)::(sr M (ss c)).2)++jk (sr M (ss c)).1 r:=by
 unfold jk;rw[d6,PyFlat.played,PyFlat.told,yx];rfl
theorem aai{l:List Int}{cs:List (List (List Int))}(h:mW l cs):(l=[]/\cs=[])\/(∃r cs',l=1::r/\cs=[[1]]::cs'/\mW r cs')\/(∃r cs',l=3::r/\cs=[[3]]::cs'/\mW r cs')\/
  (∃x0 x1 n t cs',l=2::x0::x1::n::t/\0<=n/\n.toNat<=t.length/\cs=[[2,x0,x1],t.take n.toNat]::cs'/\mW (t.drop n.toNat) cs'/\0<=x0/\x0<=16777216/\0<=x1/\x1<=3000/\n<=4096/\∀z∈t.take n.toNat,0<=z/\z<=255):=by
 obtain⟨⟨f,h⟩,hi⟩:=h;cases l with
 |nil=>
  refine .inl ⟨rfl,?_⟩;cases f<;>(rw[Dr]at h;cases h;rfl)
 |cons p r=>
  refine .inr ?_;cases f with
  |zero=>rw[Dr]at h;cases h
  |succ f=>
   rw[Dr]at h;split at h
   ·cases h
   ·rename_i c t hc;split at h
    ·cases h
    ·rename_i cs' hcs;cases h;have hl:mW t cs':=⟨⟨f,hcs⟩,fun c hc=>hi c (bP _ hc)⟩;have hin:=hi c cw;rw[PyFlat.call]at hc;unfold PySz07.shape at hc;by_cases p1:p=1
     ·subst p1;rw[if_pos rfl]at hc;simp[Ds]at hc;obtain⟨rfl,rfl⟩:=hc;exact .inl ⟨_,_,rfl,rfl,hl⟩
     ·rw[if_neg p1]at hc;by_cases p2:p=2
      ·subst p2;rw[if_pos rfl]at hc;refine .inr (.inr ?_);match r,hc with
       |[],hc=>simp at hc
       |[_],hc=>simp at hc
       |[x0,x1],hc=>simp[Ds,PyFlat.row]at hc
       |x0::x1::n::t0,hc=>
        have c0:¬(x0::x1::n::t0).length<2:=by simp
        simp only[Ds,PyFlat.row,yE,k8,if_neg c0]at hc;by_cases q:0<=n/\n.toNat<=t0.length
        ·rw[if_pos q]at hc;simp at hc;obtain⟨rfl,rfl⟩:=hc;have hin2:((Dt 0 16777216 x0&&(Dt 0 3000 x1&&true))&&(decide (0<=(t0.take n.toNat).length)&&decide ((t0.take n.toNat).length<=4096)&&(t0.take n.toNat).all (Dt 0 255)&&true))=true:=hin;simp only[Dt,lM,decide_eq_true_eq,ON,lO]at hin2;obtain⟨⟨⟨a1,a2⟩,a3,a4⟩,⟨b1,b2⟩,b3⟩:=hin2;rw[eI,oN q.2]at b2;exact⟨x0,x1,n,t0,cs',rfl,q.1,q.2,rfl,hl,a1,a2,a3,a4,by omega,b3⟩
        ·rw[if_neg q]at hc;simp at hc
      ·rw[if_neg p2]at hc;by_cases p3:p=3
       ·subst p3;rw[if_pos rfl]at hc;simp[Ds]at hc;obtain⟨rfl,rfl⟩:=hc;exact .inr (.inl ⟨_,_,rfl,rfl,hl⟩)
       ·rw[if_neg p3]at hc;simp at hc
theorem aaj{l:List Int}(h:abN l=true):∃cs,mW l cs/\yI l=jk jy cs/\(jk jy cs).length<=10000000:=by
 unfold abN at h;unfold yI PySz07.calls;split at h
 ·cases h
 ·rename_i raw e;simp only[lM]at h;obtain⟨⟨⟨⟨h1,h2⟩,h3⟩,h4⟩,h5⟩:=h;have ea:yI l=jk jy raw:=by
   unfold yI PySz07.calls;rw[e];rfl
  refine⟨raw,⟨⟨_,e⟩,fun c hc=>lO.mp h3 c hc⟩,rfl,?_⟩;rw[ea]at h5;unfold PyFlat.short at h5;exact of_decide_eq_true h5
end SW
namespace SW
theorem aak(k:Nat):∀(s:bO)(t:List eT),iH k s=some t->t.length<=s.length:=by
 induction k with
 |zero=>intro s t h;cases(show(none:Option (List eT))=some t from h)
 |succ k ih=>
  intro s t h;cases s with
  |nil=>rw[Mq h];exact bY _
  |cons c r=>
   cases Mp h with
   |su s hs h=>exact Nat.le_succ_of_le (dM (ih s t h) hs)
   |nG x s l hs hx h1 e=>subst e;exact OE (dM (ih s l h1) hs)
theorem aal{M:aY}:gM 0 M=(M,if M.frames.isEmpty=true then 0 else 1):=rfl
theorem aam{k:Nat}{M:aY}(h:M.frames=[]):gM k M=(M,0):=by
 cases k with
 |zero=>rw[aal,h];rfl
 |succ k=>rw[gM];unfold fj;rw[h]
theorem aan{k:Nat}{M M':aY}(h:fj M=some (.ok M')):gM (k+1) M=gM k M':=by rw[gM,h]
theorem aao{k:Nat}{M:aY}{e:Int}(h:fj M=some (.error e)):gM (k+1) M=(M,e):=by rw[gM,h]
theorem aap{M:aY}{f:cZ}{fr:List cZ}(h:M.frames=f::fr):∃r,fj M=some r:=by
 unfold fj;rw[h];cases f with
 |code l=>cases l<;>exact⟨_,rfl⟩
 |times n p=>exact⟨_,rfl⟩
 |again p=>exact⟨_,rfl⟩
 |count a b c p=>exact⟨_,rfl⟩
 |each k i p=>exact⟨_,rfl⟩
theorem aaq{M:aY}:sr M (ss [[1]])=(jy,[0]):=rfl
theorem aar{M:aY}:sr M (ss [[3]])=(M,[(M.stack.length:Int)]):=rfl
def d5(M:aY)(s:bO)(n:Nat):aY×Int×bO:=match sf s with
 |none=>(M, -1,[])
 |some l=>if 4096<M.code+l.1 then(M, -7,[])else
  ((gM n {M with frames:=[.code l.2],code:=M.code+l.1}).1.rest,(gM n {M with frames:=[.code l.2],code:=M.code+l.1}).2,(gM n {M with frames:=[.code l.2],code:=M.code+l.1}).1.said)
theorem aas{M:aY}{s:bO}{n room:Nat}:Sz07.call M (.run s n room)=((d5 M s n).1,⟨(d5 M s n).2.1,(d5 M s n).2.2.take room,(d5 M s n).2.2.length⟩):=by
 unfold Sz07.call d5;cases e:sf s with
 |none=>simp only[e,O4,jG];rfl
 |some l=>
  by_cases c:4096<M.code+l.1
  ·simp only[e,if_pos c,if_pos (show Sz07.CODE<M.code+l.1 from c),O4,jG];rfl
  ·simp only[e,if_neg c,if_neg (show ¬Sz07.CODE<M.code+l.1 from c)]
theorem aat{M:aY}{x0 x1:Int}{t:List Int}:sr M (ss [[2,x0,x1],t])=
  ((d5 M (lR t) x0.toNat).1,(d5 M (lR t) x0.toNat).2.1::((d5 M (lR t) x0.toNat).2.2.length:Int)::((d5 M (lR t) x0.toNat).2.2.take x1.toNat).map fun(b:UInt8)=>(b.toNat:Int)):=by
 show(let y:=Sz07.call M (.run (lR t) x0.toNat x1.toNat);(y.1,y.2.value::([(y.2.made:Int)]++y.2.bytes.map fun(b:UInt8)=>(b.toNat:Int))))=_;rw[aas];rfl
end SW
set_option tactic.hygienic false
namespace SW
open PySem PySem.Spec PyProof.Rows L2
inductive NA(K:ax)(vs:List V)(H:Hp)(Q:VK)(E:XK):Prop
 |mk:∀(m:ae)(g:G)(M:aY)(n:Nat),(vs=[.ref m,.int ((n:Nat):Int)])->(MI K (bc K) m g M H)->(Wf M)->((∀M' H' g',MI K (bc K) m g' M' H'->Wf M'->Fr (aK m g) H (aK m g') H'->gM n M=(M',if M'.frames.isEmpty=true then 0 else 1)->Q (.int (if M'.frames.isEmpty=true then 0 else 1)) H'))->((∀M' e H' g' fr,MI K (bc K) m g' {M' with frames:=fr} H'->Wf M'->Fr (aK m g) H (aK m g') H'->gM n M=(M',e)->E (.int e 0) none H'))->NA K vs H Q E
def NB(K:ax):Sp:=fun vs H Q E=>NA K vs H Q E
inductive NC(K:ax)(vs:List V)(H:Hp)(Q:VK)(E:XK):Prop
 |mk:∀(m:ae)(g:G)(M:aY)(tx:ae)(s:bO),(vs=[.ref m,.ref tx])->(MI K (bc K) m g M H)->(M.frames=[])->(H tx=some (.ai (cW s)))->(s.length<=4096)->((match sf s with
  |none=>Er E (-1) H
  |some l=>if 4096<M.code+l.1 then Er E (-7) H else ∀H' g',MI K (bc K) m g' {M with frames:=[.code l.2],code:=M.code+l.1} H'->Fr (aK m g) H (aK m g') H'->Q .aO H'))->NC K vs H Q E
def ND(K:ax):Sp:=fun vs H Q E=>NC K vs H Q E
theorem NE{X:Cx}{a:bq}{ta:TE}(ha:PE X a ta)(he:∀whole,isTrue a X.ah whole=(do let v <-whole;standAt a.pos;holding [v] (truthy v))):
  PT X a (fun σ H Q=>ta σ H fun x H'=>∃p xs,x=.ref p/\H' p=some (.ai xs)/\Q (!xs.isEmpty) H'):=by
 walk_at "ae";refine isTrue_plain (a0 (ha pins s σ H _ I h) fun v s1 ⟨x,H1,I1,r1,p,xs,e,hp,q⟩=>D6 pins s1 σ H1 x v Q I1 r1 ⟨_,?_,q⟩) (he _);subst e;exact .inl ⟨xs,bV.of hp,rfl⟩
theorem Fr.refl{S:List ae}{H:Hp}:Fr S H S H:=Fr.same fun _ _ h=>h
theorem aau{v:aB}(h:t9 v):eg v:=by
 cases v with
 |int n=>exact .int h.1 h.2
 |lit n=>exact .lit h.1
 |word n=>exact .word h
 |_=>exact fc h
theorem aav{s:bO}{l:Nat×List aB}(h:sf s=some l):∀v∈l.2,eg v:=by
 rw[Mr]at h;obtain⟨t,e1,e2⟩:=CV.mp h;obtain⟨b,e3,rfl⟩:=jt.mp e2;exact xy (P:=eg) (fun b hb=>.proc hb) t [[]] b (fun v hv=>aau (Xz _ _ _ e1 v hv)) (fun x hx v hv=>by rw[eR.mp hx]at hv;cases hv) e3
theorem aaw{M:aY}{s:bO}{l:Nat×List aB}(W:Wf M)(h:sf s=some l)(c:¬4096<M.code+l.1):Wf {M with frames:=[.code l.2],code:=M.code+l.1}:=by
 have f:=W.aR;refine⟨⟨f.stack,by show 1<=128;decide,f.opens,f.heap,f.kept,by show M.code+l.1<=4096;lia⟩,W.au,W.heap,W.kept,fun x hx=>?_,W.pre⟩;rw[eR.mp hx];exact aav h
local macro_rules| `(tactic|walk_at "rd0")=>`(tactic|simp only[b2,aQ,i5,vF,zx,Cn,beq_self_eq_true,Nat.reduceLT, *])
variable{P:bv}{w:bf}{K:ax}{mg:af->Option ag}{base:Heap}
theorem aax(T:Txt K)(M:MG K mg):ZM 7 "Machine" "start" ["self","text"] (ND K):=by
 refine ZB T.Je.df AR
 ·obtain⟨m,g,M0,tx,s,rfl,_⟩:=h;rfl
 ·obtain⟨m,g,M0,tx,s,rfl,I,ef,ht,hl,q⟩:=h;refine⟨_,(Zq (Zs 2 AR (Zf T.Ug T.IT YT (pw 1))) (Zs 3 AR (Zf T.Uh T.IU YU (pw 2))) (Zz (Zc kP (cT mG (Zd 0) (Zl dD (pw 2))) (a8 M T.UX)) (Zr T.kM T.lw lF T.kK T.lv)) (nu (pw 0) (Zl dD (pw 2)) pj) (aE (Zv (pw 0) T.nQ pQ (Zm T.mz mL T.my T.lu (pw 3))))),?_⟩;rw[Mr]at q;walk_at "at";have a1:=T.KN;left;refine⟨tx,s,rfl,ht,hl,?_⟩;cases et:dZ s with
  |none=>rw[et]at q;exact q
  |some t=>
   rw[et]at q;intro l ws H1 k1 hl0 hw ha;have tl:t.length<=4096:=dM (aak _ _ _ et) hl;have wl:ws.length=t.length:=ha.length.symm;refine⟨l,ws,t,rfl,hw,ha,tl,?_⟩;cases en:iY [[]] t with
   |none=>simp only[CU,en,Option.map_none]at q;exact Er.up q k1
   |some b=>
    simp only[CU,en,yh]at q;intro p ws2 H2 k2 hp hb;have k12:=k1.trans k2;have hm2:=k12 _ _ hm;have hw2:=k2 _ _ hw;have I2:=I.same k12;clear hm hw;left;by_cases c:4096<M0.code+t.length
    ·rw[if_pos c]at q;rw[if_pos (by lia)];right;exact Er.up q k12
    ·rw[if_neg c]at q;rw[if_neg (by lia)];right;refine⟨by show(9:Nat)<1000;decide,?_⟩;conv=>whnf
     rw[az];refine⟨rfl,rfl,?_⟩;have e0:aQ "tokens_run" (.int ((M0.code:Int)+(t.length:Int))) (dy g M0)=dy g {M0 with code:=M0.code+t.length}:=rfl;rw[e0];have b0:bJ m H2 (aq H2 m (.aP (ak K "Machine") g.dm (dy g {M0 with code:=M0.code+t.length}))):=bM;have J0:MI K (bc K) m g {M0 with code:=M0.code+t.length} (aq H2 m (.aP (ak K "Machine") g.dm (dy g {M0 with code:=M0.code+t.length}))):=I2.BX (sd:=g.sd) (most:=g.most) (said:=M0.said) (fun b o n1 _ e=>b0 b o n1 e) az (b0 _ _ (bG I2.dk 5 0 rfl rfl (by decide)) I2.sd) (.inl rfl) I2.mb;have F0:=(Fr.same (S:=aK m g) k12).trans (Fr.dY b0 (by simp[aK,bu]) (I2.mo J0));have hp3:=b0 _ _ (fun z=>by rw[z,hm2]at hp;cases hp) hp;have hb3:=aM hb (b0.aj hm2 fun _ z=>by cases z);generalize aq H2 m (.aP (ak K "Machine") g.dm (dy g {M0 with code:=M0.code+t.length}))=H3 at *;intro x dx hx hdx nx;refine⟨x,dx,p,rfl,az,fun H4 bb h4=>⟨rfl,?_⟩⟩;have k0:=iD hx hdx bb;have I4:=J0.same k0;refine⟨m,g,_,.code b,x,rfl,I4,⟨dx,p,ws2,0,h4,k0 _ _ hp3,cI _,by rw[k8];exact aM hb3 (SW.aL.aj k0)⟩,fG J0 hx,by show M0.frames.length<=128;rw[ef];decide,?_⟩;rw[if_neg (by show ¬128<=M0.frames.length;rw[ef];decide)];right;intro H' b2 J;have J':MI K (bc K) m {g with fs:=x::g.fs} {M0 with frames:=.code b::M0.frames,code:=M0.code+t.length} H':=J;rw[ef]at J';exact q H' _ J' (F0.trans (rC (J0.mo J) hx fun c o n e=>b2 c o (fun z=>n (by rw[z];simp[aK,bu])) (k0 c o e)))
inductive NF(K:ax)(m:ae)(g:G)(M0:aY)(n:Nat)(H:Hp)(k:Nat)(σ':L2.St)(H':Hp):Prop
 |mk:∀g' M',(σ'=[some (.ref m),some (.int ((k:Nat):Int)),some (.ref g.bB)])->(MI K (bc K) m g' M' H')->(Wf M')->(Fr (aK m g) H (aK m g') H')->(gM n M0=gM k M')->NF K m g M0 n H k σ' H'
theorem aay(T:Txt K)(M:MG K mg):ZM 31 "Machine" "go_on" ["self","steps"] (NB K):=by
 refine ZB T.Jf.df AS
 ·obtain⟨m,g,M0,n,rfl,_⟩:=h;rfl
 ·obtain⟨m,g,M0,n,rfl,I,W,q1,q2⟩:=h;refine⟨_,(Zk (Zs 2 AS (lp (pv 0) rfl)) (ni jB (PW.pt (o7 (Zp vB (pv 1) aS) (o6 (NE (pv 2) (fun _=>rfl))))) (Zk (aE (qQ (qQ (qQ (qQ (Zo (Zx qY (pv 2) (fq iw aS)) T.Iz aag (pv 0)) (Zo (Zx qY (pv 2) (fq iw aS)) T.IA YB (pv 0))) (Zo (Zx qY (pv 2) (fq iw aS)) T.IC YC (pv 0))) (Zo (Zx qY (pv 2) (fq iw aS)) T.IF YG (pv 0))) (Zo (Zx qY (pv 2) (fq iw aS)) T.IH YH (pv 0)))) (lj (i:=1) AS.nd rfl (eN rfl) aS zK))) (dh (o8 (NE (pv 2) (fun _=>rfl)) aS aS))),?_⟩;walk_at "at";have a1:=T.j4;left;obtain⟨Wv,hW⟩:∃Wv:Nat->L2.St->Hp->Prop,∀k σ' H',Wv k σ' H'↔NF K m g M0 n H k σ' H':=⟨_,fun _ _ _=>Iff.rfl⟩;refine oo Wv n ((hW _ _ _).mpr ⟨g,M0,rfl,I,W,Fr.refl,rfl⟩) ?_;intro k σ' H1 hi;obtain⟨g',M',rfl,I1,W1,F,es⟩:=(hW _ _ _).mp hi;clear hi hm;have ep:g'.bB=g.bB:=fz F.pl;have hp:=I1.bB;rw[ep]at hp;have pv:=I1.eL;have emp:(!(kq V.ref g'.fs).reverse.isEmpty)= !M'.frames.isEmpty:=by
   have hl:=pv.length;cases e1:M'.frames with
   |nil=>
    cases e2:g'.fs with
    |nil=>rfl
    |cons a fs=>rw[e1,e2]at hl;simp at hl
   |cons f fr=>
    cases e2:g'.fs with
    |nil=>rw[e1,e2]at hl;simp at hl
    |cons a fs=>simp
  have fin:gM n M0=(M',if M'.frames.isEmpty=true then 0 else 1)->(if(!(kq V.ref g'.fs).reverse.isEmpty)=true then Q (.int 1) H1 else Q (.int 0) H1):=fun e=>by
   have q:=q1 M' H1 g' I1 W1 F e;rw[emp];cases h:M'.frames.isEmpty with
   |true=>rw[h]at q;exact q
   |false=>rw[h]at q;exact q
  refine⟨_,rfl,_,_,rfl,rfl,_,rfl,?_⟩;cases k with
  |zero=>
   refine(if_neg (by decide)).mpr ((if_neg (by decide)).mpr ?_);exact⟨_,rfl,_,rfl,_,hp,fin es⟩
  |succ k=>
   refine(if_pos (decide_eq_true (by lia))).mpr ?_;refine⟨_,rfl,_,rfl,_,hp,?_⟩;cases em:M'.frames with
   |nil=>
    rw[emp,em];refine(if_neg (by decide)).mpr ?_;exact⟨_,rfl,_,rfl,_,hp,fin (es.trans (by rw[aam em,em];rfl))⟩
   |cons f fr=>
    rw[emp,em];refine(if_pos (by rfl)).mpr (lE ?_);rw[em]at pv;obtain⟨a,fs,ef,hf,hfs⟩:=pv.bW;obtain⟨r,hr0⟩:=aap em;rw[ef]at hp;have gr:cR (kq V.ref (a::fs)).reverse (-1)=some (V.ref a):=by rw[y3];rfl
    have dn:iQ K m g' M' H1 (fun _ H'=>∃x,([some (.ref m),some (.int ((k+1:Nat):Int)),some (.ref g.bB)]:L2.St)[1]? =some (some x)/\∃i j,x=.int i/\V.int 1=.int j/\∃m',m'<k+1/\Wv m' ([some (.ref m),some (.int ((k+1:Nat):Int)),some (.ref g.bB)].set 1 (some (.int (i-j)))) H') E r:=by
     cases r with
     |ok M2=>
      refine fun H' g2 J F2=>⟨_,rfl,_,_,rfl,rfl,k,uu _,(hW _ _ _).mpr ⟨g2,M2,?_,J,VO W1 hr0,F.trans F2,es.trans (aan hr0)⟩⟩;rw[show((k+1:Nat):Int)-1=((k:Nat):Int)by lia];rfl
     |error e=>exact fun H' g2 fr2 J F2=>q2 M' e H' g2 fr2 J W1 (F.trans F2) (es.trans (aao hr0))
    cases f with
    |code l=>
     obtain⟨dx,p,ws,i,h1,_⟩:=id hf;exact .inl (.inl (.inl (.inl ⟨_,rfl,_,rfl,_,hp,_,gr,a,rfl,dx,_,h1,rfl,_,rfl,m,g',M',a,fs,_,fr,r,rfl,I1,W1,ef,em,trivial,hr0,dn⟩)))
    |again b=>
     obtain⟨dx,p,ws,h1,_⟩:=id hf;exact .inl (.inl (.inl (.inr ⟨_,rfl,_,rfl,_,hp,_,gr,a,rfl,dx,_,h1,rfl,_,rfl,m,g',M',a,fs,_,fr,r,rfl,I1,W1,ef,em,trivial,hr0,dn⟩)))
    |times n' b=>
     obtain⟨dx,p,ws,h1,_⟩:=id hf;exact .inl (.inl (.inr ⟨_,rfl,_,rfl,_,hp,_,gr,a,rfl,dx,_,h1,rfl,_,rfl,m,g',M',a,fs,_,fr,r,rfl,I1,W1,ef,em,trivial,hr0,dn⟩))
    |count x y z b=>
     obtain⟨dx,p,ws,h1,_⟩:=id hf;exact .inl (.inr ⟨_,rfl,_,rfl,_,hp,_,gr,a,rfl,dx,_,h1,rfl,_,rfl,m,g',M',a,fs,_,fr,r,rfl,I1,W1,ef,em,trivial,hr0,dn⟩)
    |each x y b=>
     obtain⟨dx,p,ws,r',h1,_⟩:=id hf;exact .inr ⟨_,rfl,_,rfl,_,hp,_,gr,a,rfl,dx,_,h1,rfl,_,rfl,m,g',M',a,fs,_,fr,r,rfl,I1,W1,ef,em,trivial,hr0,dn⟩
inductive NG(K:ax)(vs:List V)(H:Hp)(Q:VK)(E:XK):Prop
 |mk:∀(m:ae)(g:G)(M:aY)(n most:Nat)(tx:ae)(s:bO),(vs=[.ref m,.int ((n:Nat):Int),.int ((most:Nat):Int),.ref tx])->(MI K (bc K) m g M H)->(Wf M)->(M.frames=[])->(most<=3000)->(H tx=some (.ai (cW s)))->(tx∉aK m g)->(s.length<=4096)->(∀M' g' H',MI K (bc K) m g' M' H'->Wf M'->M'.frames=[]->g'.most=most->(∀b o,H b=some o->b∉aK m g->H' b=some o)->(∀b∈aK m g',b∈aK m g\/H b=none)->M'.rest=(d5 M.rest s n).1->M'.said=(d5 M.rest s n).2.2->Q (.int (d5 M.rest s n).2.1) H')->NG K vs H Q E
def aaz(K:ax):Sp:=fun vs H Q E=>NG K vs H Q E
theorem NH{m:ae}{g:G}{sd b:ae}{most:Nat}(h:b∈aK m {g with sd:=sd,most:=most}):b=sd\/b∈aK m g:=by
 rcases cS.mp h with z|z
 ·have z':b∈(bu m g).set 5 sd:=z;rcases f8 z' with z|z
  ·exact .inr (c7 _ z)
  ·exact .inl z
 ·exact .inr (bX _ z)
theorem NI{K:ax}{Q:VK}{nx bk ct:L2.St->Hp->Prop}{m:ae}{g:G}{M':aY}{fr:List cZ}{S:List ae}{H0 H':Hp}{ans:Int}{v1 v2 v3 v5:Option V}(T:Txt K)(I:MI K (bc K) m g {M' with frames:=fr} H')(F:Fr S H0 (aK m g) H')
(q:∀g2 H2,MI K (bc K) m g2 {M' with frames:=[]} H2->Fr S H0 (aK m g2) H2->Q (.int ans) H2):m6 (lV (qg K "list" qh (oU K (fU 0) "pile"))) (qf (fU 4)) {nx:=nx,rt:=Q,bk:=bk,ct:=ct} [some (.ref m),v1,v2,v3,some (.int ans),v5] H':=by
 refine⟨_,rfl,m,_,_,_,_,rfl,I.cy,T.dA,T.j4,zc _ _,dc I.bB,g.bB,_,rfl,rfl,I.bB,_,rfl,?_⟩;have J:=I.BZ (H':=aq H' g.bB (.ai [])) g.fs.length bM (by rw[List.drop_length];exact az);have hl:fr.length=g.fs.length:=I.eL.length;have J':MI K (bc K) m {g with fs:=g.fs.drop g.fs.length} {M' with frames:=fr.drop g.fs.length} (aq H' g.bB (.ai [])):=J;rw[abI (oH hl)]at J';exact q _ _ J' (F.trans (B0 _ (I.mo J) bM))
theorem aaA(T:Txt K)(M:MG K mg):ZM 32 "Machine" "run" ["self","steps","most","text"] (aaz K):=by
 refine ZB T.Jg.df GS
 ·obtain⟨m,g,M0,n,most,tx,s,rfl,_⟩:=h;rfl
 ·obtain⟨m,g,M0,n,most,tx,s,rfl,I,W,ef,mb,ht,nt,hl,q⟩:=h;refine⟨_,(Zk (fV (pv 0) (pv 2) rfl) (fV (pv 0) (gR gq) rfl) (fV (pv 0) aS rfl) (Sz (i:=4) (j:=5) (RC:=RC K) (Fp (fun xe=>pv 0) T.Je (aax T M) (hr.cG (by decide)) (fun xe=>jz (pv 3) gq)) (Fp (fun xe=>pv 0) T.Jf (aay T M) hr (fun xe=>jz (pv 1) gq)) rfl rfl (fun C h=>h) GS.nd rfl rfl rfl rfl (by decide) rfl (M.val _ _ T.mw) rfl rfl rfl rfl rfl rfl rfl) (aE (iA gk abF abG EB (lp (pv 0) rfl))) (dh (pv 4))),?_⟩;have hc:=T.dA;have g0:=gf.start I.cy;refine⟨_,rfl,_,rfl,m,_,g.dm,_,rfl,g0.obj,hc,T.BA,by show(9:Nat)<1000;decide,?_⟩;have g1:=g0.set (aQ "most" (.int ((most:Nat):Int)) (dy g M0));refine⟨cI _,fun sd hsd=>⟨_,rfl,m,_,g.dm,_,rfl,(g1.add (o:=.ai []) hsd).obj,hc,T.wU,by show(9:Nat)<1000;decide,?_⟩⟩;have g2:=(g1.add (o:=.ai []) hsd).set (aQ "said" (.ref sd) (aQ "most" (.int ((most:Nat):Int)) (dy g M0)));refine⟨_,rfl,m,_,g.dm,_,rfl,g2.obj,hc,T.wV,by show(9:Nat)<1000;decide,?_⟩;have g3:=g2.set (aQ "said_in_all" (.int 0) (aQ "said" (.ref sd) (aQ "most" (.int ((most:Nat):Int)) (dy g M0))));clear g0 g1 g2;obtain⟨hs3,hs0,_⟩:=g3.ks (sd,.ai []) cw;have ho3:=g3.obj;have kb3:=g3.dY;clear g3 hsd;show m6 (Fq 4 5 (fun E=>lU (ak K "Machine") "start" (ND K) [] E (fU 0) (lc (fU 3) iZ)) (fun E=>lU (ak K "Machine") "go_on" (NB K) [] E (fU 0) (lc (fU 1) iZ))) (m6 (lV (qg K "list" qh (oU K (fU 0) "pile"))) (qf (fU 4))) {nx:=fun _ H'=>Q .aO H',rt:=Q} [some (.ref m),some (.int ((n:Nat):Int)),some (.int ((most:Nat):Int)),some (.ref tx),none,none] _;have J:=I.BX (sd:=sd) (most:=most) (said:=[]) (code:=M0.code) (fun b o n1 _ e=>kb3 b o n1 e) ho3 (by rw[O4];exact hs3) (.inr (fG I hs0)) mb;have hM:({M0 with said:=[],code:=M0.code}:aY)=M0.rest:=by
   unfold aY.rest;rw[ef]
  rw[hM]at J;have nm:tx≠m:=fun z=>nt (by rw[z];simp[aK,bu]);have ht3:=kb3 _ _ nm ht;generalize aq (aq (aq (aq H m _) sd _) m _) m _=H3 at *;have W0:Wf M0.rest:=by
   have:=W.aR;exact⟨⟨this.stack,by show 0<=128;decide,this.opens,this.heap,this.kept,this.code⟩,W.au,W.heap,W.kept,fun f hf=>(by cases hf),W.pre⟩
  have q':∀(M':aY)(g2:G)(H2:Hp),MI K (bc K) m g2 {M' with frames:=[]} H2->Wf M'->Fr (aK m {g with sd:=sd,most:=most}) H3 (aK m g2) H2->M'.rest=(d5 M0.rest s n).1->M'.said=(d5 M0.rest s n).2.2->Q (.int (d5 M0.rest s n).2.1) H2:=fun M' g2 H2 J2 W2 F2 e1 e2=>by
   refine q {M' with frames:=[]} g2 H2 J2 (kR W2 (fun f hf=>(by cases hf)) (cI _)) rfl ?_ (fun b o e nb=>?_) (fun b hb=>?_) e1 e2
   ·have h1:=F2.mo _ (tX J);rw[tX J2]at h1;have h2:(g2.most:Int)=(most:Int):=by injection (fz h1)
    lia
   ·refine F2.keep b o (kb3 b o (fun z=>nb (by rw[z];simp[aK,bu])) e) fun z=>?_;rcases NH z with z|z
    ·rw[z,hs0]at e;cases e
    ·exact nb z
   ·rcases F2.aK b hb with z|z
    ·rcases NH z with z|z
     ·exact .inr (z▸hs0)
     ·exact .inl z
    ·refine .inr ?_;cases e:H b with
     |none=>rfl
     |some o=>
      by_cases zm:b=m
      ·rw[zm,ho3]at z;cases z
      ·rw[kb3 b o zm e]at z;cases z
  have er:∀(M':aY)(fr:List cZ)(g':G)(e:Int)(H':Hp),MI K (bc K) m g' {M' with frames:=fr} H'->Wf M'->Fr (aK m {g with sd:=sd,most:=most}) H3 (aK m g') H'->M'.rest=(d5 M0.rest s n).1->M'.said=(d5 M0.rest s n).2.2->e=(d5 M0.rest s n).2.1->
    ∃n',kh e 0=kh n' 0/\∀a H2,L2.aL H' H2->m6 (lV (qg K "list" qh (oU K (fU 0) "pile"))) (qf (fU 4)) {nx:=fun _ H'=>Q .aO H',rt:=Q} ((([some (.ref m),some (.int ((n:Nat):Int)),some (.int ((most:Nat):Int)),some (.ref tx),none,none].set 5 (some (.ref a))).set 4 (some (.int n'))).set 5 none) H2:=fun M' fr g' e H' J2 W2 F2 e1 e2 e3=>
   ⟨e,rfl,fun a H2 k2=>NI T (J2.same k2) (F2.trans (Fr.same k2)) fun g3 H4 J4 F4=>by rw[e3];exact q' M' g3 H4 J4 W2 F4 e1 e2⟩
  refine⟨_,rfl,m,g.dm,_,rfl,J.cy,rfl,_,rfl,m,_,M0.rest,tx,s,rfl,J,rfl,ht3,hl,?_⟩;cases et:sf s with
  |none=>
   have er1:d5 M0.rest s n=(M0.rest, -1,[]):=by unfold d5;rw[et]
   exact fun H' k'=>er M0.rest [] _ (-1) H' (J.same k') W0 (Fr.same k') (by rw[er1];rfl) (by rw[er1];rfl) (by rw[er1])
  |some l=>
   by_cases c:4096<M0.rest.code+l.1
   ·refine(if_pos c).mpr ?_;have er1:d5 M0.rest s n=(M0.rest, -7,[]):=by unfold d5;rw[et];exact if_pos c
    exact fun H' k'=>er M0.rest [] _ (-7) H' (J.same k') W0 (Fr.same k') (by rw[er1];rfl) (by rw[er1];rfl) (by rw[er1])
   ·refine(if_neg c).mpr ?_;have er1:d5 M0.rest s n=((gM n {M0.rest with frames:=[.code l.2],code:=M0.rest.code+l.1}).1.rest,(gM n {M0.rest with frames:=[.code l.2],code:=M0.rest.code+l.1}).2,(gM n {M0.rest with frames:=[.code l.2],code:=M0.rest.code+l.1}).1.said):=by unfold d5;rw[et];exact if_neg c
    intro H4 g4 J4 F4;refine⟨_,rfl,m,g4.dm,_,rfl,J4.cy,rfl,_,rfl,m,g4,_,n,rfl,J4,aaw W0 et c,fun M5 H5 g5 J5 W5 F5 e5=>?_,fun M5 e H5 g5 fr J5 W5 F5 e5=>?_⟩
    ·rw[e5]at er1;have J5':MI K (bc K) m g5 {M5 with frames:=M5.frames} H5:=J5;refine NI T J5' (F4.trans F5) fun g6 H6 J6 F6=>?_;have e6:(if M5.frames.isEmpty=true then(0:Int)else 1)=(d5 M0.rest s n).2.1:=by rw[er1]
     rw[e6];exact q' M5 g6 H6 J6 W5 F6 (by rw[er1]) (by rw[er1])
    ·rw[e5]at er1;exact er M5 fr g5 e H5 J5 W5 (F4.trans F5) (by rw[er1]) (by rw[er1]) (by rw[er1])
def rF(ar tb st oa ot:ae):List (af×V):=[("arrays",.ref ar),("tables",.ref tb),("states",.ref st),("states_made",.int 0),("held",.int 0),("own_arrays",.ref oa),("own_tables",.ref ot)]
inductive NJ(K:ax)(vs:List V)(H:Hp)(Q:VK)(E:XK):Prop
 |mk:∀a dx,(vs=[.ref a])->(H a=some (.aP (ak K "Store") dx []))->(∀H' ar tb t0 st oa ot,gf H a (ak K "Store") dx (rF ar tb st oa ot) [(ot,.dK []),(oa,.dK []),(st,.ai []),(tb,.ai [.ref t0]),(t0,.dK []),(ar,.ai [])] H'->Q .aO H')->NJ K vs H Q E
def aaB(K:ax):Sp:=fun vs H Q E=>NJ K vs H Q E
inductive NK(K:ax)(vs:List V)(H:Hp)(Q:VK)(E:XK):Prop
 |mk:∀a dx wd,(vs=[.ref a,.ref wd])->(H a=some (.aP (ak K "Machine") dx []))->(H wd=some (.dK (bc K)))->(∀H' g,MI K (bc K) a g jy H'->(∀b o,b≠a->H b=some o->H' b=some o)->(∀b∈aK a g,b=a\/b=wd\/H b=none)->Q .aO H')->NK K vs H Q E
def aaC(K:ax):Sp:=fun vs H Q E=>NK K vs H Q E
theorem iE{f:af}{v:V}{fs:List (af×V)}{n:Nat}(h:fs.length<=n):(aQ f v fs).length<=n+1:=dM Cm (OE h)
theorem iF{fs:List (af×V)}(h:fs.length<=9):fs.length<1000:=by lia
theorem NL:Wf jy:=by
 have hf:uK ⟨[],[[]]⟩:=⟨⟨by decide,by decide⟩,by decide,by decide,fun t ht=>by rw[eR.mp ht];decide⟩;have hh:BF ⟨[],[[]]⟩:=⟨hf,fun l hl=>(by cases hl),fun t ht e he=>(by rw[eR.mp ht]at he;cases he),fun t ht=>(by rw[eR.mp ht];exact .nil)⟩;refine⟨⟨by decide,by decide,⟨by decide,by decide,fun k hk=>(by rw[eR.mp hk];decide)⟩,hf,⟨by decide,fun h hh=>(by cases hh)⟩,by decide⟩,fun v hv=>(by cases hv),hh,fun h hh=>(by cases hh),fun f hf=>(by cases hf),?_⟩;show([jy.heap]:List b9).Pairwise eF;simp
section
variable{K:ax}{H H':Hp}{a dx wd sk pl op so ds sd ar tb t0 st oa ot:ae}
theorem aaD(ha:H a=some (.aP (ak K "Machine") dx []))(hw:H wd=some (.dK (bc K)))
(g:gf H a (ak K "Machine") dx [("words",.ref wd),("stack",.ref sk),("pile",.ref pl),("opened",.ref op),("store",.ref so),("tokens_run",.int 0),("most",.int 0),("said",.ref sd),("said_in_all",.int 0)]
   [(sd,.ai []),(ot,.dK []),(oa,.dK []),(st,.ai []),(tb,.ai [.ref t0]),(t0,.dK []),(ar,.ai []),(so,.aP (ak K "Store") ds (rF ar tb st oa ot)),(ds,.own so),(op,.ai [.int 0]),(pl,.ai []),(sk,.ai [])] H'):
  MI K (bc K) a ⟨dx,wd,sk,pl,op,so,ds,sd,ar,tb,st,oa,ot,0,0,[],[],[],[t0],[],[],[],[t0]⟩ jy H':=by
 let news:List (ae×HO):=[(sd,HO.ai []),(ot,.dK []),(oa,.dK []),(st,.ai []),(tb,.ai [.ref t0]),(t0,.dK []),(ar,.ai []),(so,.aP (ak K "Store") ds (rF ar tb st oa ot)),(ds,.own so),(op,.ai [.int 0]),(pl,.ai []),(sk,.ai [])];have nw:¬wd=a:=fun z=>by rw[z,ha]at hw;cases hw
 have nd:[a,wd,sd,ot,oa,st,tb,t0,ar,so,ds,op,pl,sk].Nodup:=by
  refine eG.mpr ⟨fun z=>?_,eG.mpr ⟨fun z=>?_,g.nd⟩⟩
  ·rcases br.mp z with z|z
   ·exact nw z.symm
   ·obtain⟨n,hn,e⟩:=iW.mp (show a∈kq Prod.fst news from z);exact(g.ks n hn).2.2 e
  ·obtain⟨n,hn,e⟩:=iW.mp (show wd∈kq Prod.fst news from z);have:=(g.ks n hn).2.1;rw[e,hw]at this;cases this
 have t2:∀(j:Nat)(n:ae×HO),[(sd,HO.ai []),(ot,.dK []),(oa,.dK []),(st,.ai []),(tb,.ai [.ref t0]),(t0,.dK []),(ar,.ai []),(so,.aP (ak K "Store") ds (rF ar tb st oa ot)),(ds,.own so),(op,.ai [.int 0]),(pl,.ai []),(sk,.ai [])][j]? =some n->H' n.1=some n.2:=fun j n h=>(g.ks n (dR h)).1
 have gx:([t0]++[a,sk,pl,op,so,sd,ar,tb,st,oa,ot,wd]).Nodup:=Fw nd [7,0,13,12,11,9,2,8,6,5,4,3,1] _ rfl (by decide);have nd3:=mY.mp gx;refine⟨g.obj,g.dY _ _ nw hw,t2 11 _ rfl,.nil,t2 10 _ rfl,.nil,t2 9 _ rfl,t2 0 _ rfl,⟨t2 7 _ rfl,t2 6 _ rfl,t2 4 _ rfl,t2 3 _ rfl,t2 2 _ rfl,t2 1 _ rfl,.nil,.cons ⟨[],t2 5 _ rfl,.nil⟩ .nil,.nil,.nil,eG.mpr ⟨fun z=>(by cases z),.nil⟩,fun b hb=>(by cases hb),fun b hb=>hb,fun s hs=>(by cases hs),fun i b h=>(by cases h),fun i b h=>(by cases h),.nil,fun n hn=>(by cases hn),⟨.nil,fun k hk=>(by cases hk)⟩,⟨.nil,fun k hk=>(by cases hk)⟩⟩,fun b hb=>?_,nd3.2.1,eG.mpr ⟨fun z=>(by cases z),.nil⟩,fun x hx z=>?_,cI _⟩
 ·rw[eR.mp hb];exact⟨_,t2 5 _ rfl⟩
 ·have z':x∈[t0]:=z;exact nd3.2.2 x z' x hx rfl
theorem aaE{fs:List (af×V)}{C:ae}(g:gf H a C dx fs
   [(sd,.ai []),(ot,.dK []),(oa,.dK []),(st,.ai []),(tb,.ai [.ref t0]),(t0,.dK []),(ar,.ai []),(so,.aP (ak K "Store") ds (rF ar tb st oa ot)),(ds,.own so),(op,.ai [.int 0]),(pl,.ai []),(sk,.ai [])] H'):
  ∀b∈aK a ⟨dx,wd,sk,pl,op,so,ds,sd,ar,tb,st,oa,ot,0,0,[],[],[],[t0],[],[],[],[t0]⟩,b=a\/b=wd\/H b=none:=by
 intro b hb;have t2:∀(j:Nat)(n:ae×HO),[(sd,HO.ai []),(ot,.dK []),(oa,.dK []),(st,.ai []),(tb,.ai [.ref t0]),(t0,.dK []),(ar,.ai []),(so,.aP (ak K "Store") ds (rF ar tb st oa ot)),(ds,.own so),(op,.ai [.int 0]),(pl,.ai []),(sk,.ai [])][j]? =some n->H n.1=none:=fun j n h=>(g.ks n (dR h)).2.1
 have hb':b∈[a,sk,pl,op,so,sd,ar,tb,st,oa,ot,wd,t0]:=hb;simp only[br,gK,or_false]at hb';rcases hb' with rfl|rfl|rfl|rfl|rfl|rfl|rfl|rfl|rfl|rfl|rfl|rfl|rfl
 ·exact .inl rfl
 ·exact .inr (.inr (t2 11 _ rfl))
 ·exact .inr (.inr (t2 10 _ rfl))
 ·exact .inr (.inr (t2 9 _ rfl))
 ·exact .inr (.inr (t2 7 _ rfl))
 ·exact .inr (.inr (t2 0 _ rfl))
 ·exact .inr (.inr (t2 6 _ rfl))
 ·exact .inr (.inr (t2 4 _ rfl))
 ·exact .inr (.inr (t2 3 _ rfl))
 ·exact .inr (.inr (t2 2 _ rfl))
 ·exact .inr (.inr (t2 1 _ rfl))
 ·exact .inr (.inl rfl)
 ·exact .inr (.inr (t2 5 _ rfl))
end
theorem aaF(T:Txt K)(M:MG K mg):ZM 1 "Store" "__init__" ["self"] (aaB K):=by
 refine ZB T.IX Tp
 ·obtain⟨a,dx,rfl,_⟩:=h;rfl
 ·obtain⟨a,dx,rfl,ha,q⟩:=h;refine⟨_,(Zk (fV (pv 0) (gR gq) rfl) (fV (pv 0) (gR (Zy qJ)) rfl) (fV (pv 0) (gR gq) rfl) (fV (pv 0) aS rfl) (fV (pv 0) aS rfl) (fV (pv 0) qJ rfl) (fV (pv 0) qJ rfl)),?_⟩;have hc:=T.fF;have g0:=gf.start ha;refine⟨cI _,fun ar har=>⟨_,rfl,a,_,dx,_,rfl,(g0.add (o:=.ai []) har).obj,hc,T.gg,iF (by repeat(first|exact cI _|refine iE ?_)),?_⟩⟩;have g1:=(g0.add (o:=.ai []) har).set (aQ "arrays" (.ref ar) []);refine fun t0 ht0=>⟨by rw[bR];show 1<=16777216;decide,fun tb htb=>⟨_,rfl,a,_,dx,_,rfl,((g1.add (o:=.dK []) ht0).add (o:=.ai [.ref t0]) htb).obj,hc,T.gi,iF (by repeat(first|exact cI _|refine iE ?_)),?_⟩⟩;have g2:=((g1.add (o:=.dK []) ht0).add (o:=.ai [.ref t0]) htb).set (aQ "tables" (.ref tb) (aQ "arrays" (.ref ar) []));refine⟨cI _,fun st hst=>⟨_,rfl,a,_,dx,_,rfl,(g2.add (o:=.ai []) hst).obj,hc,T.mB,iF (by repeat(first|exact cI _|refine iE ?_)),?_⟩⟩;have g3:=(g2.add (o:=.ai []) hst).set (aQ "states" (.ref st) (aQ "tables" (.ref tb) (aQ "arrays" (.ref ar) [])));refine⟨_,rfl,a,_,dx,_,rfl,g3.obj,hc,T.mD,iF (by repeat(first|exact cI _|refine iE ?_)),?_⟩;have g4:=g3.set (aQ "states_made" (.int 0) (aQ "states" (.ref st) (aQ "tables" (.ref tb) (aQ "arrays" (.ref ar) []))));refine⟨_,rfl,a,_,dx,_,rfl,g4.obj,hc,T.mE,iF (by repeat(first|exact cI _|refine iE ?_)),?_⟩;have g5:=g4.set (aQ "held" (.int 0) (aQ "states_made" (.int 0) (aQ "states" (.ref st) (aQ "tables" (.ref tb) (aQ "arrays" (.ref ar) [])))));refine fun oa hoa=>⟨_,rfl,a,_,dx,_,rfl,(g5.add (o:=.dK []) hoa).obj,hc,T.ly,iF (by repeat(first|exact cI _|refine iE ?_)),?_⟩;have g6:=(g5.add (o:=.dK []) hoa).set (aQ "own_arrays" (.ref oa) (aQ "held" (.int 0) (aQ "states_made" (.int 0) (aQ "states" (.ref st) (aQ "tables" (.ref tb) (aQ "arrays" (.ref ar) []))))));refine fun ot hot=>⟨_,rfl,a,_,dx,_,rfl,(g6.add (o:=.dK []) hot).obj,hc,T.lA,iF (by repeat(first|exact cI _|refine iE ?_)),?_⟩;have g7:=(g6.add (o:=.dK []) hot).set (aQ "own_tables" (.ref ot) (aQ "own_arrays" (.ref oa) (aQ "held" (.int 0) (aQ "states_made" (.int 0) (aQ "states" (.ref st) (aQ "tables" (.ref tb) (aQ "arrays" (.ref ar) [])))))));exact q _ ar tb t0 st oa ot g7
theorem NM(T:Txt K)(M:MG K mg):ZM 3 "Machine" "__init__" ["self","words"] (aaC K):=by
 refine ZB T.Bf Tw
 ·obtain⟨a,dx,wd,rfl,_⟩:=h;rfl
 ·obtain⟨a,dx,wd,rfl,ha,hw,q⟩:=h;refine⟨_,(Zk (fV (pv 0) (pv 1) rfl) (fV (pv 0) (gR gq) rfl) (fV (pv 0) (gR gq) rfl) (fV (pv 0) (gR (Zy aS)) rfl) (fV (pv 0) (QP T.Ux (aaF T M) hr rfl (M.val _ _ T.Uw) T.IX.bd .nil (fT (E:=E))) rfl) (fV (pv 0) aS rfl) (fV (pv 0) aS rfl) (fV (pv 0) (gR gq) rfl) (fV (pv 0) aS rfl)),?_⟩;have hc:=T.dA;have g0:=gf.start ha;refine⟨_,rfl,_,rfl,a,_,dx,_,rfl,g0.obj,hc,T.KL,iF (by repeat(first|exact cI _|refine iE ?_)),?_⟩;have g1:=g0.set (aQ "words" (.ref wd) []);refine⟨cI _,fun sk hsk=>⟨_,rfl,a,_,dx,_,rfl,(g1.add (o:=.ai []) hsk).obj,hc,T.gA,iF (by repeat(first|exact cI _|refine iE ?_)),?_⟩⟩;have g2:=(g1.add (o:=.ai []) hsk).set (aQ "stack" (.ref sk) (aQ "words" (.ref wd) []));refine⟨cI _,fun pl hpl=>⟨_,rfl,a,_,dx,_,rfl,(g2.add (o:=.ai []) hpl).obj,hc,T.j4,iF (by repeat(first|exact cI _|refine iE ?_)),?_⟩⟩;have g3:=(g2.add (o:=.ai []) hpl).set (aQ "pile" (.ref pl) (aQ "stack" (.ref sk) (aQ "words" (.ref wd) [])));refine⟨by rw[bR];decide,fun op hop=>⟨_,rfl,a,_,dx,_,rfl,(g3.add (o:=.ai [.int 0]) hop).obj,hc,T.nZ,iF (by repeat(first|exact cI _|refine iE ?_)),?_⟩⟩;have g4:=(g3.add (o:=.ai [.int 0]) hop).set (aQ "opened" (.ref op) (aQ "pile" (.ref pl) (aQ "stack" (.ref sk) (aQ "words" (.ref wd) []))));refine fun so ds hso hds nds=>⟨so,ds,rfl,az,fun H5 ar tb t0 st oa ot G=>⟨rfl,?_⟩⟩;have g5:=((g4.add (o:=.own so) hds).add (p:=so) (o:=.aP (ak K "Store") ds []) (by rw[aJ nds.symm];exact hso)).join G;clear G;refine⟨_,rfl,a,_,dx,_,rfl,g5.obj,hc,T.je,iF (by repeat(first|exact cI _|refine iE ?_)),?_⟩;have g6:=g5.set (aQ "store" (.ref so) (aQ "opened" (.ref op) (aQ "pile" (.ref pl) (aQ "stack" (.ref sk) (aQ "words" (.ref wd) [])))));refine⟨_,rfl,a,_,dx,_,rfl,g6.obj,hc,T.KN,iF (by repeat(first|exact cI _|refine iE ?_)),?_⟩;have g7:=g6.set (aQ "tokens_run" (.int 0) (aQ "store" (.ref so) (aQ "opened" (.ref op) (aQ "pile" (.ref pl) (aQ "stack" (.ref sk) (aQ "words" (.ref wd) []))))));refine⟨_,rfl,a,_,dx,_,rfl,g7.obj,hc,T.BA,iF (by repeat(first|exact cI _|refine iE ?_)),?_⟩;have g8:=g7.set (aQ "most" (.int 0) (aQ "tokens_run" (.int 0) (aQ "store" (.ref so) (aQ "opened" (.ref op) (aQ "pile" (.ref pl) (aQ "stack" (.ref sk) (aQ "words" (.ref wd) [])))))));refine⟨cI _,fun sd hsd=>⟨_,rfl,a,_,dx,_,rfl,(g8.add (o:=.ai []) hsd).obj,hc,T.wU,iF (by repeat(first|exact cI _|refine iE ?_)),?_⟩⟩;have g9:=(g8.add (o:=.ai []) hsd).set (aQ "said" (.ref sd) (aQ "most" (.int 0) (aQ "tokens_run" (.int 0) (aQ "store" (.ref so) (aQ "opened" (.ref op) (aQ "pile" (.ref pl) (aQ "stack" (.ref sk) (aQ "words" (.ref wd) []))))))));refine⟨_,rfl,a,_,dx,_,rfl,g9.obj,hc,T.wV,iF (by repeat(first|exact cI _|refine iE ?_)),?_⟩;have g10:=g9.set (aQ "said_in_all" (.int 0) (aQ "said" (.ref sd) (aQ "most" (.int 0) (aQ "tokens_run" (.int 0) (aQ "store" (.ref so) (aQ "opened" (.ref op) (aQ "pile" (.ref pl) (aQ "stack" (.ref sk) (aQ "words" (.ref wd) [])))))))));clear g0 g1 g2 g3 g4 g5 g6 g7 g8 g9;exact q _ ⟨dx,wd,sk,pl,op,so,ds,sd,ar,tb,st,oa,ot,0,0,[],[],[],[t0],[],[],[],[t0]⟩ (aaD ha hw g10) g10.dY (aaE g10)
structure Cw(P:bv)(w:bf)(K:ax):Prop where
 g1:bi K "STACK_WORDS"
 g2:bi K "NUMBER_WORDS"
 g3:bi K "FLOW_WORDS"
 g4:bi K "STORE_WORDS"
 d1:qR P w K (ak K "STACK_WORDS") ((bc K).take 14)
 d2:qR P w K (ak K "NUMBER_WORDS") (((bc K).drop 14).take 17)
 d3:qR P w K (ak K "FLOW_WORDS") (((bc K).drop 31).take 8)
 d4:qR P w K (ak K "STORE_WORDS") ((bc K).drop 39)
def aaG(K:ax):Sp:=fun vs H Q _=>vs=[]/\∀p H',L2.aL H H'->H p=none->H' p=some (.dK (bc K))->Q (.ref p) H'
theorem Cy(K:ax):((bc K).map (·.1)).Nodup:=by
 show(kq (cX (α:=Int)) xM).Nodup;decide +kernel
theorem Cz{H H1:Hp}{p p1:ae}{k2 k3:List (Key×V)}(k:L2.aL H H1)(hp:H p=none)(hp1:H1 p1=none):L2.aL H (aq (aq H1 p1 (.dK k2)) p (.dK k3)):=fun b o e=>by
 rw[aJ (bw e hp),aJ (bw (k b o e) hp1)];exact k b o e
theorem NN{K:ax}{n:Nat}:(((bc K).take n).map (·.1)).Nodup:=(Cy K).sublist ((uy n _).map _)
theorem NO(T:Txt K)(M:MG K mg)(Wt:Cw P w K):ZF 1 "all_words" [] (aaG K):=by
 refine ZB T.tT Io
 ·obtain⟨rfl,_⟩:=h;rfl
 ·obtain⟨rfl,q⟩:=h;refine⟨_,(Zk (Zs 0 Io (jR vZ rfl (M.aO _ T.tV) tK (Zy (pA M Wt.g1)))) (aE (m5 CP C0 O5 AN (pv 0) (Zy (jR vZ rfl (M.aO _ T.tV) tK (Zy (pA M Wt.g2)))))) (aE (m5 CP C0 O5 AN (pv 0) (Zy (jR vZ rfl (M.aO _ T.tV) tK (Zy (pA M Wt.g3)))))) (aE (m5 CP C0 O5 AN (pv 0) (Zy (jR vZ rfl (M.aO _ T.tV) tK (Zy (pA M Wt.g4)))))) (dh (pv 0))),?_⟩;have z31:(bc K).take 14++((bc K).drop 14).take 17=(bc K).take 31:=rfl;have z39:(bc K).take 31++((bc K).drop 31).take 8=(bc K).take 39:=rfl;have z51:(bc K).take 39++(bc K).drop 39=bc K:=rfl;have sz:∀n,((bc K).take n).length<=sizeLine:=fun n=>by rw[eI,bR];have:(bc K).length=51:=rfl;lia
  refine⟨_,_,rfl,Wt.d1,fun p hp=>?_⟩;have k0:=bA (o:=HO.dK ((bc K).take 14)) hp;have h0:aq H p (HO.dK ((bc K).take 14)) p=some (.dK ((bc K).take 14)):=az;refine⟨_,rfl,BE h0,_,_,rfl,Wt.d2,fun p1 hp1=>⟨p,p1,_,_,rfl,rfl,bw h0 hp1,by rw[aJ (bw h0 hp1)];exact h0,az,by rw[z31];exact sz 31,by rw[z31];exact NN,?_⟩⟩;rw[z31];have k1:=Cz (k2:=((bc K).drop 14).take 17) (k3:=(bc K).take 31) k0 hp hp1;have h1:aq (aq (aq H p (HO.dK ((bc K).take 14))) p1 (.dK (((bc K).drop 14).take 17))) p (.dK ((bc K).take 31)) p=some (.dK ((bc K).take 31)):=az;generalize aq (aq (aq H p (HO.dK ((bc K).take 14))) p1 (.dK (((bc K).drop 14).take 17))) p (.dK ((bc K).take 31))=H1 at *;refine⟨_,rfl,BE h1,_,_,rfl,Wt.d3,fun p2 hp2=>⟨p,p2,_,_,rfl,rfl,bw h1 hp2,by rw[aJ (bw h1 hp2)];exact h1,az,by rw[z39];exact sz 39,by rw[z39];exact NN,?_⟩⟩;rw[z39];have k2:=Cz (k2:=((bc K).drop 31).take 8) (k3:=(bc K).take 39) k1 hp hp2;have h2:aq (aq H1 p2 (.dK (((bc K).drop 31).take 8))) p (.dK ((bc K).take 39)) p=some (.dK ((bc K).take 39)):=az;generalize aq (aq H1 p2 (.dK (((bc K).drop 31).take 8))) p (.dK ((bc K).take 39))=H2 at *;refine⟨_,rfl,BE h2,_,_,rfl,Wt.d4,fun p3 hp3=>⟨p,p3,_,_,rfl,rfl,bw h2 hp3,by rw[aJ (bw h2 hp3)];exact h2,az,by rw[z51];exact sz 51,by rw[z51];exact Cy K,?_⟩⟩;rw[z51];have k3:=Cz (k2:=(bc K).drop 39) (k3:=bc K) k2 hp hp3;exact⟨_,rfl,q p _ k3 hp az⟩
def CA(M:aY)(s:bO)(n most:Nat):List Int:=(d5 M s n).2.1::((d5 M s n).2.2.length:Int)::((d5 M s n).2.2.take most).map fun(b:UInt8)=>(b.toNat:Int)
inductive NP(K:ax)(vs:List V)(H:Hp)(Q:VK)(E:XK):Prop
 |mk:∀(m:ae)(g:G)(M:aY)(n most:Nat)(tx:ae)(s:bO),(vs=[.ref m,.int ((n:Nat):Int),.int ((most:Nat):Int),.ref tx])->(MI K (bc K) m g M H)->(Wf M)->(M.frames=[])->(most<=3000)->(H tx=some (.ai (cW s)))->(tx∉aK m g)->(s.length<=4096)->(∀M' g' H' p,MI K (bc K) m g' M' H'->Wf M'->M'.frames=[]->(∀b o,H b=some o->b∉aK m g->H' b=some o/\b≠p)->(∀b∈aK m g',b∈aK m g\/H b=none)->M'.rest=(d5 M.rest s n).1->H' p=some (.ai ((CA M.rest s n most).map V.int))->Q (.ref p) H')->NP K vs H Q E
def aaH(K:ax):Sp:=fun vs H Q E=>NP K vs H Q E
inductive NQ(K:ax)(vs:List V)(H:Hp)(Q:VK)(E:XK):Prop
 |mk:∀(a:ae)(ns:List Int)(cs:List (List (List Int))),(vs=[.ref a])->(bV K H a (ns.map V.int))->(mW ns cs)->((jk jy cs).length<=10000000)->(∀H' p,H' p=some (.ai ((jk jy cs).map V.int))->Q (.ref p) H')->NQ K vs H Q E
def NR(K:ax):Sp:=fun vs H Q E=>NQ K vs H Q E
theorem anm{K:ax}{H H':Hp}{a:ae}{xs:List V}(h:bV K H a xs)(k:L2.aL H H'):bV K H' a xs:=by
 rcases h with(h|⟨o,h⟩)|h
 ·exact .inl (.inl (k _ _ h))
 ·exact .inl (.inr ⟨o,k _ _ h⟩)
 ·exact .inr h
theorem NS{H H1 H2:Hp}{m dm wd:ae}{g:G}{o1 o2:HO}(k1:L2.aL H H1)(nw:H wd=none)(hm:H1 m=none)(hdm:H1 dm=none)(kb:bJ m (aq (aq H1 dm o1) m o2) H2)(fo:∀b∈aK m g,b=m\/b=wd\/aq (aq H1 dm o1) m o2 b=none):
  L2.aL H H2/\∀b∈aK m g,H b=none:=by
 refine⟨k1.trans (iD hm hdm kb),fun b hb=>?_⟩;rcases fo b hb with rfl|rfl|z
 ·exact k1.free hm
 ·exact nw
 ·refine k1.free ?_;by_cases e1:b=m
  ·rw[e1];exact hm
  ·rw[aJ e1]at z;by_cases e2:b=dm
   ·rw[e2];exact hdm
   ·rw[aJ e2]at z;exact z
theorem MI.off{K:ax}{wkv:List (Key×V)}{m:ae}{g:G}{M:aY}{H H':Hp}(I:MI K wkv m g M H)(tk:cq H H')(k:∀b o,b∈aK m g->H b=some o->H' b=some o):MI K wkv m g M H':=by
 have kf:∀{c:ae}{o:HO}(j:Nat),(bu m g)[j]? =some c->H c=some o->H' c=some o:=fun j e=>k _ _ (c7 _ (dR e))
 have kv:∀{c:ae}{o:HO},c∈var g->H c=some o->H' c=some o:=fun e=>k _ _ (bX _ e);refine⟨kf 0 rfl I.cy,kf 11 rfl I.fY,kf 1 rfl I.au,aM I.bh tk,kf 2 rfl I.bB,mF I.eL tk fun b hb o e=>kv (c7 _ hb) e,kf 3 rfl I.dC,kf 5 rfl I.sd,I.si.keep tk fun b o hb e=>?_,fun b hb=>let⟨o,e⟩:=I.ia b hb;⟨o,kv (bX _ (c7 _ hb)) e⟩,I.dk,I.ib,I.dj,I.mb⟩;rcases hb with z|z|⟨s,hs,z⟩
 ·exact k b o (c7 _ (by simp only[br,gK,or_false]at z;rcases z with z|z|z|z|z|z<;>simp[bu,z])) e
 ·exact kv (bX _ (c7 _ z)) e
 ·refine kv (bX _ (bX _ (mZ.mpr ⟨s,hs,?_⟩))) e;rcases z with z|z|z<;>simp[z]
theorem CB{K:ax}{D:i9}{σ:L2.St}{H:Hp}{gv an:ae}{dt ans:List Int}(h2:σ[2]? =some (some (.ref gv)))(h4:σ[4]? =some (some (.ref an)))(hg:H gv=some (.ai (dt.map V.int)))(ha:H an=some (.ai (ans.map V.int)))(n:an≠gv)(hz:dt.length+1+ans.length<=bE)
(q:D.nx σ (aq H gv (.ai ((dt++((ans.length:Int)::ans)).map V.int)))):
  m6 (lV (sC K "list" uY (fU 2) (lc (sy (fun xs H Q=>∃p ys,xs=[.ref p]/\H p=some (.ai ys)/\Q (.int ys.length) H) (lc (fU 4) iZ)) iZ))) (lV (sC K "list" sD (fU 2) (lc (fU 4) iZ))) D σ H:=by
 refine⟨_,h2,dc hg,_,h4,an,_,rfl,ha,gv,_,_,rfl,rfl,hg,by rw[bK];omega,?_⟩;have e1:aq H gv (.ai (dt.map V.int++[.int (ans.map V.int).length])) gv=some (.ai (dt.map V.int++[.int (ans.map V.int).length])):=az;refine⟨_,h2,dc e1,_,h4,gv,an,_,_,rfl,rfl,e1,by rw[aJ n];exact ha,by simp only[eQ,bK,aA,jG];omega,?_⟩;rw[PY,bK];have e2:dt.map V.int++[V.int (ans.length:Nat)]++ans.map V.int=(dt++((ans.length:Int)::ans)).map V.int:=by rw[eY,d6,ir];rfl
 rw[e2];exact q
theorem NT:∀{l:List Int},(∀z∈l,0<=z/\z<=255)->l.map V.int=cW (lR l)
 |[],_=>rfl
 |z::l,h=>by
  have e:(((uS z.toNat).toNat:Nat):Int)=z:=by
   have:=h z cw;rw[O0];lia
  show V.int z::l.map V.int=V.int (((uS z.toNat).toNat:Nat):Int)::cW (lR l);rw[e,NT fun x hx=>h x (bP _ hx)]
theorem rG{l:List Int}{i:Nat}{p:Int}{r:List Int}(h:l.drop i=p::r):i<l.length/\l[i]? =some p/\l.drop (i+1)=r:=by
 have h0:l[i]? =some p:=by
  have:(l.drop i)[0]? =some p:=by rw[h];rfl
  rw[yG]at this;exact this
 refine⟨(cP.mp h0).1,h0,?_⟩;rw[<-rW,h];rfl
theorem aaJ{l:List V}{a b:Nat}(h:a<=b)(hb:b<=l.length):fN l (some (a:Int)) (some (b:Int))=(l.drop a).take (b-a):=by
 unfold fN;rw[HT.nB,HT.nB,oN (dM h hb),oN hb]
theorem aaK(T:Txt K)(M:MG K mg):ZF 33 "answer_run" ["machine","steps","most","text"] (aaH K):=by
 refine ZB T.Ki Ir
 ·obtain⟨m,g,M0,n,most,tx,s,rfl,_⟩:=h;rfl
 ·obtain⟨m,g,M0,n,most,tx,s,rfl,I,W,ef,mb,ht,nt,hl,q⟩:=h;refine⟨_,(Zk (Zs 4 Ir (Zo (pv 0) T.Jg aaA (pv 1) (pv 2) (pv 3))) (dh (cT vJ (gR (Zy (pv 4) (lp (pv 0) rfl))) (lp (pv 0) rfl)))),?_⟩;have hc:=T.dA;refine⟨_,rfl,m,g.dm,_,rfl,I.cy,rfl,_,rfl,_,rfl,_,rfl,m,g,M0,n,most,tx,s,rfl,I,W,ef,mb,ht,nt,hl,fun M' g' H' J WJ ef' em kp ft e1 e2=>?_⟩;refine⟨_,rfl,_,rfl,m,_,_,_,_,rfl,J.cy,hc,T.wV,DI _ _,by rw[bR];show 2<=16777216;decide,fun p1 hp1=>?_⟩;have k1:=bA (o:=HO.ai [.int (d5 M0.rest s n).2.1,.int M'.said.length]) hp1;refine⟨_,rfl,m,_,_,_,_,rfl,k1 _ _ J.cy,hc,T.wU,DH _ _,p1,g'.sd,_,_,rfl,rfl,az,k1 _ _ J.sd,?_,fun p hp=>?_⟩
  ·rw[bK,eI,bR];show 2+_<=_;have:=J.mb;lia
  ·have k2:=k1.trans (bA (o:=HO.ai ([.int (d5 M0.rest s n).2.1,.int M'.said.length]++(M'.said.take g'.most).map fun b=>V.int (b.toNat:Nat))) hp);refine q M' g' _ p (J.same k2) WJ ef' (fun b o e nb=>⟨k2 b o (kp b o e nb),bw (k1 b o (kp b o e nb)) hp⟩) ft e1 ?_;rw[az,em,e2];unfold CA;rw[d6,d6,pZ];rfl
inductive NU(K:ax)(H:Hp)(a:ae)(ns:List Int)(cs:List (List (List Int)))(k:Nat)(σ':L2.St)(H':Hp):Prop
 |mk:∀(m:ae)(g:G)(M':aY)(gv:ae)(i:Nat)(dt:List Int)(cs':List (List (List Int)))(x4 x5:Option V),(i+k=ns.length)->(σ'=[some (.ref a),some (.ref m),some (.ref gv),some (.int ((i:Nat):Int)),x4,x5])->(MI K (bc K) m g M' H')->(Wf M')->(M'.frames=[])->(L2.aL H H')->((∀b∈aK m g,H b=none))->(H gv=none)->(gv∉aK m g)->(H' gv=some (.ai (dt.map V.int)))->(mW (ns.drop i) cs')->(jk jy cs=dt++jk M'.rest cs')->NU K H a ns cs k σ' H'
theorem aaL(T:Txt K)(M:MG K mg)(Wt:Cw P w K):ZF 34 "answers" ["calls"] (NR K):=by
 refine ZB T.Kh jY
 ·obtain⟨a,ns,cs,rfl,_⟩:=h;rfl
 ·obtain⟨a,ns,cs,rfl,sq,hL,hz,q⟩:=h;refine⟨_,(Zk (Zs 1 jY (Zm T.Kr NM T.Kq T.Bf (Ed (NO T M Wt) (hr.cG (by decide)) rfl (M.val _ _ T.Kg) T.tT.fn.kp T.tT.bd .nil (fT (E:=E))))) (Zs 2 jY (gR gq)) (Zs 3 jY aS) (ni jB (Zp zT (pv 3) (Zl z5 (pv 0))) (Zk (fB (Zp dz (Zx qB (pv 0) (pv 3)) (a8 M T.UZ)) (Zk (Zs 1 jY (Zm T.Kr NM T.Kq T.Bf (Ed (NO T M Wt) (hr.cG (by decide)) rfl (M.val _ _ T.Kg) T.tT.fn.kp T.tT.bd .nil (fT (E:=E))))) (Zs 4 jY (gR (Zy aS))) (lj (i:=3) jY.nd rfl (eN rfl) aS o9)) (cg (fB (Zp dz (Zx qB (pv 0) (pv 3)) (a8 M T.U0)) (Zk (Zs 5 jY (cT zQ (pv 3) aS)) (Zs 3 jY (cT zQ (pv 5) (Zx qB (pv 0) (cT sO (pv 5) aS)))) (Zs 4 jY (Zf T.Uk T.Ki aaK (pv 1) (Zx qB (pv 0) (cT sO (pv 5) aS)) (Zx qB (pv 0) (cT sO (pv 5) aS)) (l8 Eo (pv 0) (jS (pv 5)) (jS (pv 3)))))) (Zk (Zs 4 jY (gR (Zy (Zl wZ (lp (pv 1) rfl))))) (lj (i:=3) jY.nd rfl (eN rfl) aS o9))))) (aE (Za z8 (pv 2) (Zl wZ (pv 4)))) (aE (m5 gk OS OT z9 (pv 2) (Zy (pv 4)))))) (dh (pv 2))),?_⟩;have hc:=T.dA;refine⟨rfl,fun wd H1 k1 nw hw m0 d0 hm0 hd0 _=>⟨m0,d0,wd,rfl,az,by rw[aJ (bw hw hm0),aJ (bw hw hd0)];exact hw,fun H2 g0 J0 kb fo=>⟨rfl,?_⟩⟩⟩;obtain⟨kS0,fH0⟩:=NS k1 nw hm0 hd0 kb fo;clear k1 nw hw hm0 hd0 kb fo;refine⟨cI _,fun gv0 hgv=>?_⟩;have kg:=bA (o:=HO.ai []) hgv;obtain⟨Wv,hW⟩:∃Wv:Nat->L2.St->Hp->Prop,∀k σ' H',Wv k σ' H'↔NU K H a ns cs k σ' H':=⟨_,fun _ _ _=>Iff.rfl⟩;refine oo Wv ns.length ((hW _ _ _).mpr ⟨m0,g0,jy,gv0,0,[],cs,none,none,by lia,rfl,J0.same kg,NL,rfl,kS0.trans kg,fH0,kS0.free hgv,fG J0 hgv,az,hL,rfl⟩) ?_;clear J0 kS0 fH0 kg hgv hL;intro k σ' H' hi;obtain⟨m,g,M',gv,i,dt,cs',x4,x5,hk,rfl,I,W,ef,kS,fH,nv,ng,hv,hL,ht⟩:=(hW _ _ _).mp hi;clear hi;have sq':=kS.seq sq;have gr:∀(j:Nat)(z:Int),ns[j]? =some z->cR (ns.map V.int) ((j:Nat):Int)=some (.int z):=fun j z e=>fW (by rw[dX,e];rfl)
  have sz:bE=16777216:=bR;refine⟨_,rfl,_,rfl,a,_,rfl,.inl sq',_,_,rfl,rfl,_,rfl,?_⟩;rw[bK];have nxt:∀(m2:ae)(g2:G)(M2:aY)(H3:Hp)(ans:List Int)(i2:Nat)(cs3:List (List (List Int)))(y4 y5:Option V),MI K (bc K) m2 g2 M2 H3->Wf M2->M2.frames=[]->L2.aL H H3->(∀b∈aK m2 g2,H b=none)->gv∉aK m2 g2->H3 gv=some (.ai (dt.map V.int))->i<i2->i2<=ns.length->mW (ns.drop i2) cs3->
    jk jy cs=(dt++((ans.length:Int)::ans))++jk M2.rest cs3->∃m',m'<k/\Wv m' [some (.ref a),some (.ref m2),some (.ref gv),some (.int ((i2:Nat):Int)),y4,y5] (aq H3 gv (.ai ((dt++((ans.length:Int)::ans)).map V.int))):=fun m2 g2 M2 H3 ans i2 cs3 y4 y5 J WJ e1 kJ fJ nJ hJ l1 l2 LJ tJ=>by
   have bj:bJ gv H3 (aq H3 gv (.ai ((dt++((ans.length:Int)::ans)).map V.int))):=bM;refine⟨ns.length-i2,by lia,(hW _ _ _).mpr ⟨m2,g2,M2,gv,i2,_,cs3,y4,y5,by lia,rfl,J.off (bj.aj hJ fun _ z=>by cases z) (fun b o hb e=>bj b o (fun z=>nJ (z▸hb)) e),WJ,e1,fun b o e=>bj b o (bw e nv) (kJ b o e),fJ,nv,nJ,az,LJ,tJ⟩⟩
  have zo:∀(ans:List Int)(tl:List Int),jk jy cs=(dt++((ans.length:Int)::ans))++tl->dt.length+1+ans.length<=sizeLine:=fun ans tl e=>by
   have:=congrArg gI e;simp only[eQ,aA]at this
   lia
  clear hW;rcases aai hL with⟨e1,e2⟩|⟨r,cs2,e1,rfl,hL2⟩|⟨r,cs2,e1,rfl,hL2⟩|⟨x0,x1,nn,t,cs2,e1,n0,n1,rfl,hL2,b0,b1,b2,b3,b4,b5⟩
  ·have hl:ns.length<=i:=by have:=congrArg gI e1;rw[fh,jG]at this;lia
   refine(if_neg (by rw[decide_eq_true_eq];lia)).mpr ?_;refine⟨_,rfl,q H' gv ?_⟩;rw[ht,e2,aah,kW];exact hv
  ·obtain⟨il,ei,er⟩:=rG e1;refine(if_pos (decide_eq_true (by lia))).mpr ?_;refine lE ?_;refine⟨_,rfl,_,rfl,a,_,_,_,rfl,rfl,sq',gr i 1 ei,rfl,_,rfl,?_⟩;refine(if_pos (by decide)).mpr ?_;refine⟨rfl,fun wd H1 k1 nw hw m2 d2 hm2 hd2 _=>⟨m2,d2,wd,rfl,az,by rw[aJ (bw hw hm2),aJ (bw hw hd2)];exact hw,fun H2 g2 J2 kb fo=>⟨rfl,?_⟩⟩⟩;obtain⟨kS2,fH2⟩:=NS k1 nw hm2 hd2 kb fo;clear k1 nw hw hm2 hd2 kb fo;refine⟨by rw[sz];decide,fun an han=>?_⟩;have k3:=bA (o:=HO.ai [.int 0]) han;refine⟨_,rfl,_,_,rfl,rfl,?_⟩;rw[Cv,aaq,<-ir]at ht;have hv3:=k3 _ _ (kS2 _ _ hv);refine CB (ans:=[0]) rfl rfl hv3 az (bw (kS2 _ _ hv) han).symm (zo [0] _ ht) ?_;rw[<-er]at hL2;exact nxt m2 g2 jy _ [0] (i+1) cs2 _ _ (J2.same k3) NL rfl ((kS.trans kS2).trans k3) (fun b hb=>kS.free (fH2 b hb)) (fun z=>by rw[fH2 gv z]at hv;cases hv) hv3 (by lia) (by lia) hL2 ht
  ·obtain⟨il,ei,er⟩:=rG e1;refine(if_pos (decide_eq_true (by lia))).mpr ?_;refine lE ?_;refine⟨_,rfl,_,rfl,a,_,_,_,rfl,rfl,sq',gr i 3 ei,rfl,_,rfl,?_⟩;refine(if_neg (by decide)).mpr ?_;refine⟨_,rfl,_,rfl,a,_,_,_,rfl,rfl,sq',gr i 3 ei,rfl,_,rfl,?_⟩;refine(if_neg (by decide)).mpr ?_;refine⟨_,rfl,m,_,_,_,_,rfl,I.cy,hc,T.gA,DG _ _,g.au,_,rfl,I.au,by rw[sz];show 1<=16777216;decide,fun an han=>?_⟩;have sl:g.l.reverse.length=M'.stack.length:=by rw[bN,I.bh.length]
   rw[sl]at *;have k3:=bA (o:=HO.ai [.int (M'.stack.length:Nat)]) han;refine⟨_,rfl,_,_,rfl,rfl,?_⟩;rw[Cv,aar,<-ir]at ht;have es:(M'.rest.stack.length:Int)=(M'.stack.length:Nat):=rfl;rw[es]at ht;have hv3:=k3 _ _ hv;refine CB (ans:=[((M'.stack.length:Nat):Int)]) rfl rfl hv3 az (bw hv han).symm (zo _ _ ht) ?_;rw[<-er]at hL2;exact nxt m g M' _ [((M'.stack.length:Nat):Int)] (i+1) cs2 _ _ (I.same k3) W ef (kS.trans k3) fH ng hv3 (by lia) (by lia) hL2 ht
  ·obtain⟨n0',rfl⟩:∃n:Nat,x0=(n:Int):=⟨x0.toNat,by lia⟩;obtain⟨n1',rfl⟩:∃n:Nat,x1=(n:Int):=⟨x1.toNat,by lia⟩;obtain⟨nn,rfl⟩:∃n:Nat,nn=(n:Int):=⟨nn.toNat,by lia⟩;rw[uz]at *;obtain⟨il,ei,er⟩:=rG e1;obtain⟨il1,ei1,er1⟩:=rG er;obtain⟨il2,ei2,er2⟩:=rG er1;obtain⟨il3,ei3,er3⟩:=rG er2;have lt:t.length=ns.length-(i+4):=by rw[<-er3,fh]
   refine(if_pos (decide_eq_true (by lia))).mpr ?_;refine lE ?_;refine⟨_,rfl,_,rfl,a,_,_,_,rfl,rfl,sq',gr i 2 ei,rfl,_,rfl,?_⟩;refine(if_neg (by decide)).mpr ?_;refine⟨_,rfl,_,rfl,a,_,_,_,rfl,rfl,sq',gr i 2 ei,rfl,_,rfl,?_⟩;refine(if_pos (by decide)).mpr ?_;have f1:(i:Int)+4-1=((i+3:Nat):Int):=by lia
   have f2:(i:Int)+4-2=((i+2:Nat):Int):=by lia
   have f3:(i:Int)+4-3=((i+1:Nat):Int):=by lia
   have f4:(i:Int)+4+(nn:Int)=((i+4+nn:Nat):Int):=by lia
   have f5:(i:Int)+4=((i+4:Nat):Int):=by lia
   refine⟨_,rfl,_,_,rfl,rfl,?_⟩;refine⟨_,rfl,_,rfl,_,rfl,_,_,rfl,rfl,a,_,_,_,rfl,rfl,sq',by rw[f1];exact gr _ _ ei3,_,_,rfl,rfl,?_⟩;refine⟨_,rfl,_,rfl,_,rfl,_,_,rfl,rfl,a,_,_,_,rfl,rfl,sq',by rw[f3];exact gr _ _ ei1,_,rfl,_,rfl,_,_,rfl,rfl,a,_,_,_,rfl,rfl,sq',by rw[f2];exact gr _ _ ei2,_,rfl,_,rfl,_,rfl,_,rfl,_,rfl,a,_,rfl,sq',fun tx htx=>?_⟩;rw[f4,f5]at *;have ec:fN (ns.map V.int) (some ((i+4:Nat):Int)) (some ((i+4+nn:Nat):Int))=cW (lR (t.take nn)):=by
    rw[aaJ (by lia) (by rw[bK];lia),<-yF,er3,yH,<-uO];exact NT b5
   rw[ec]at *;have kt:=bA (o:=HO.ai (cW (lR (t.take nn)))) htx;rw[Cv,aat,<-ir,uz,uz]at ht;refine⟨m,g,M',n0',n1',tx,_,rfl,I.same kt,W,ef,by lia,az,fG I htx,by unfold lR;rw[bK,eI];lia,fun M2 g2 H3 p J2 W2 ef2 kp ft er2' hp=>?_⟩;have hv2:=kp gv _ (kt _ _ hv) ng;have k3:L2.aL H H3:=fun b o e=>(kp b o (kt b o (kS b o e)) fun z=>by rw[fH b z]at e;cases e).1;refine CB (ans:=CA M'.rest (lR (t.take nn)) n0' n1') rfl rfl hv2.1 hp hv2.2.symm (zo _ _ ht) ?_;rw[<-er2']at ht;rw[<-er3,rW]at hL2;refine nxt m g2 M2 H3 _ (i+4+nn) cs2 _ _ J2 W2 ef2 k3 (fun b hb=>?_) (fun z=>?_) hv2.1 (by lia) (by lia) (by rw[show i+4+nn=i+3+1+nn by lia];exact hL2) ht
   ·rcases ft b hb with z|z
    ·exact fH b z
    ·exact(kS.trans kt).free z
   ·rcases ft gv z with z|z
    ·exact ng z
    ·rw[kt _ _ hv]at z;cases z
section
variable{K:ax}{x c c2 m qual:af}{f C D R:ae}{st:aH}{ps:List af}{oc kV doc pm cdv ct:ag}{od an:Option ae}{osl:Array (Option ag)}
theorem aaM(h:eS K dE x=some (some (.ref f))):bi K x:=by unfold bi;rw[gY h];exact h
theorem aaN{n:Int}{t:Tok}(h:eS K dE x=some (some (.int n t))):di K x (.int n):=⟨_,h,t,rfl⟩
theorem aaO{n:af}{t:Tok}(h:eS K dE x=some (some (.str n t))):di K x (.str n):=⟨_,h,t,rfl⟩
def xO(x qual:af)(st:aH)(ps:List af):Prop:=∀(kV doc pm:ag)(an:Option ae)(cdv ct:ag)(us:List ag),us.length=ps.length->bindArgs (lL x qual (nL st) (kF st) (eU st) .none kV doc pm an cdv ct) ⟨us,[]⟩=pure (ps.zip us)
theorem NV(l:K.lookup f=some ⟨oc,od,.func (lL x qual (nL st) (kF st) (eU st) .none kV doc pm an cdv ct),osl⟩)(cc:rO K cdv qual=true)(k:iG K (.ref f)=true)(b:xO x qual st ps):bo K x qual st ps f:=
 ⟨by rw[E9 l];exact RV l cc k,by rw[E9 l];exact .all (b kV doc pm an cdv ct)⟩
theorem aaP(a:eS K dE x=some (some (.ref f)))(l:K.lookup f=some ⟨oc,od,.func (lL x qual (nL st) (kF st) (eU st) .none kV doc pm an cdv ct),osl⟩)(cc:rO K cdv qual=true)(k:iG K (.ref f)=true)(b:xO x qual st ps):bo K x qual st ps (ak K x):=by
 rw[gY a];exact NV l cc k b
theorem uh(a:eS K dE c=some (some (.ref C)))(i:dQ K (.ref C) m=some (some (.ref f))):cj K c m=f:=R9 (by rw[gY a];exact i)
theorem NW(a:eS K dE c=some (some (.ref C)))(i:dQ K (.ref C) m=some (some (.ref f)))(l:K.lookup f=some ⟨oc,od,.func (lL m qual (nL st) (kF st) (eU st) .none kV doc pm an cdv ct),osl⟩)(cc:rO K cdv qual=true)(k:iG K (.ref f)=true)(b:xO m qual st ps):bo K m qual st ps (cj K c m):=by
 rw[uh a i];exact NV l cc k b
theorem NX(a:eS K dE c=some (some (.ref C)))(h1:rL K C jq=true)(h2:pX K C=true)(h3:xZ K C=true)(h4:dQ K (.ref C) "__setattr__"=some (some (.builtin "object.__setattr__"))):d8 K (ak K c):=by
 rw[gY a];exact⟨h1,h2,h3,h4⟩
theorem aaQ(a:eS K dE c=some (some (.ref C)))(h1:rL K C jq=true)(h2:pX K C=true)(h3:xZ K C=true)(h4:dQ K (.ref C) "__setattr__"=some (some (.builtin "object.__setattr__")))(i:dQ K (.ref C) m=some (some (.ref f)))(l:K.lookup f=some ⟨oc,od,.func (lL m qual (nL st) (kF st) (eU st) .none kV doc pm an cdv ct),osl⟩)(cc:rO K cdv qual=true)(k:iG K (.ref f)=true)(fn:xY K (.ref f)=true)(b:xO m qual st ps):dB K c m qual st ps:=
 ⟨NX a h1 h2 h3 h4,by rw[uh a i,gY a];exact⟨i,fn,k⟩,NW a i l cc k b⟩
theorem aaR(a:eS K dE c=some (some (.ref C)))(h1:Oq K C=true)(i:dQ K (.ref C) "__init__"=some (some (.ref f)))(fn:xY K (.ref f)=true)(k:iG K (.ref C)=true):Mk K (ak K c) (cj K c "__init__"):=by
 rw[uh a i,gY a];exact⟨h1,i,fn,k⟩
theorem aaS(a:eS K dE c=some (some (.ref C)))(i:dQ K (.ref C) m=some (some (.ref f)))(h1:ur K (.ref C) "__getattribute__"=some (some (.builtin "type.__getattribute__")))(h2:PySem.W.readsIn K C (.type "type")=true)(h3:PySem.W.findCls K (.ref C) (.type "type") m=some (.val (.ref f)))(k:iG K (.ref f)=true):vR K (ak K c) m (cj K c m):=by
 rw[uh a i,gY a];exact⟨h1,h2,h3,k⟩
theorem aaT(a:eS K dE c=some (some (.ref C)))(h:dQ K (.ref C) x=some none):cU K (ak K c) x:=by
 rw[gY a];exact h
theorem aaU(a:eS K dE c=some (some (.ref C)))(h1:rL K C jq=true)(h2:pX K C=true)(h3:xZ K C=true)(h4:dQ K (.ref C) "__setattr__"=some (some (.builtin "object.__setattr__")))
(h5:dQ K (.ref C) "__class__"=some (some (.builtin "object.__class__")))(h6:ur K (.builtin "object.__class__") "__get__"=some (some (.builtin "getset_descriptor.__get__")))(h7:Ou K (.builtin "object.__class__")=some true)(h8:uv K C (.type "object")=some true):mi K (ak K c):=by
 rw[gY a];exact⟨⟨h1,h2,h3,h4⟩,h5,h6,h7,h8⟩
theorem aaV{b:Bool}(a:eS K dE c=some (some (.ref C)))(a2:eS K dE c2=some (some (.ref D)))(h:iT K (.ref C) (.ref D)=some b):iT K (.ref (ak K c)) (.ref (ak K c2))=some b:=by
 rw[gY a,gY a2];exact h
theorem aaW{b:Bool}(a:eS K dE c=some (some (.ref C)))(a2:eS K dE c2=some (some (.ref D)))(h:kY K (.ref C) (.ref D)=some b):kY K (.ref (ak K c)) (.ref (ak K c2))=some b:=by
 rw[gY a,gY a2];exact h
theorem aaX{H:Hp}{xs:List V}{o:a9}{its:Array ag}{n:Nat}(a:eS K dE x=some (some (.ref f)))(l:K.lookup f=some o)(h1:o.cls=.type "tuple")(h2:o.data=.seq its n)(h3:its.size<=bE)(h4:bt xs its.toList):dH K H (ak K x) xs:=by
 rw[gY a];exact .inr ⟨o,its,n,l,h1,h2,h3,h4⟩
theorem aaY{nm q:af}{N:ae}{bs:List ag}{sn:List af}{sub:List ag}{ab:Bool}{col:Option Bool}{dd:Option ae}{k0 k1 k2 k3 k5:Option ag}(a:eS K dE c=some (some (.ref C)))(i:dQ K (.ref C) "__init__"=some (some (.ref f)))
(l:K.lookup C=some (excClassObj nm q C N bs ([.ref R]++[.type "Exception",.type "BaseException",.type "object"]) true sn sub ab col dd k0 k1 k2 k3 k5 "Exception.__new__"))
(h1:dQ K (.ref C) "__setattr__"=some (some (.builtin "object.__setattr__")))(h2:x6 K C "answer"=some none)(h3:dQ K (.ref C) "__getattribute__"=some (some (.builtin "BaseException.__getattribute__")))(h4:dQ K (.ref C) "__getattr__"=some none)(h5:pX K C=true)(h6:dQ K (.ref C) "answer"=some none)(h7:uv K C (.type "BaseException")=some true)
(h8:Ot K (.ref f)=some (.type "function"))(h9:iG K (.ref C)=true):jU K (ak K c) (cj K c "__init__"):=by
 rw[uh a i,gY a];exact⟨⟨⟨nm,q,N,bs,[.ref R],sn,sub,ab,col,dd,k0,k1,k2,k3,k5,l,fun v hv=>⟨R,eR.mp hv⟩⟩,h1,h2,h3,h4,h5,h6,h7⟩,i,h8,h9⟩
end
theorem NY{P:List ag->Prop}(h:P []):∀us:List ag,us.length=0->P us:=fun us e=>by rw[List.eq_nil_of_length_eq_zero e];exact h
theorem ui{n:Nat}{P:List ag->Prop}(h:∀a,∀us:List ag,us.length=n->P (a::us)):∀us:List ag,us.length=n+1->P us:=fun us e=>by
 cases us with
 |nil=>exact absurd e (by simp)
 |cons a r=>exact h a r (Nat.succ.inj e)
theorem NZ{P:List ag->Prop}(h:∀a,P [a]):∀us:List ag,us.length=1->P us:=ui fun a=>NY (P:=fun r=>P (a::r)) (h a)
theorem N1{P:List ag->Prop}(h:∀a b,P [a,b]):∀us:List ag,us.length=2->P us:=ui fun a=>NZ (P:=fun r=>P (a::r)) (h a)
theorem N2{P:List ag->Prop}(h:∀a b c,P [a,b,c]):∀us:List ag,us.length=3->P us:=ui fun a=>N1 (P:=fun r=>P (a::r)) (h a)
theorem N3{P:List ag->Prop}(h:∀a b c d,P [a,b,c,d]):∀us:List ag,us.length=4->P us:=ui fun a=>N2 (P:=fun r=>P (a::r)) (h a)
theorem ar5{P:List ag->Prop}(h:∀a b c d e,P [a,b,c,d,e]):∀us:List ag,us.length=5->P us:=ui fun a=>N3 (P:=fun r=>P (a::r)) (h a)
def CC(P:kX)(K:ax)(e:Key×V)(d:yj):Prop:=∃k t a,e=(cX k,.ref a)/\d=⟨PyData.keyHash P k,.str k t,.ref a⟩
theorem aa0{Pr:bv}{w:bf}{K:ax}{x:af}{f:ae}{kvs:List (Key×V)}{es:List yj}{n:Nat}(a:eS K dE x=some (some (.ref f)))(ns:(f==sysModules)=false)(l:K.lookup f=some {cls:=.type "dict",dict:=none,data:=.dict es.toArray n})(nd:(kvs.map (·.1)).Nodup)(hz:kvs.length<=bE)(h:aX (CC w.params K) kvs es):qR Pr w K (ak K x) kvs:=by
 rw[gY a];have key:∀{kvs:List (Key×V)}{es:List yj},aX (CC w.params K) kvs es->∃vs:List (Key×ag),KV kvs vs/\Pairs (fL Pr w) es vs/\∀e∈es,∃k,(fL Pr w).is k e.key=true/\e.hash=(fL Pr w).hash k:=by
  intro kvs es h;induction h with
  |nil=>exact⟨[],.nil,.nil,fun e he=>by cases he⟩
  |cons h t ih=>
   obtain⟨vs,h1,h2,h3⟩:=ih;obtain⟨k,u,a,rfl,rfl⟩:=h;refine⟨(cX k,.ref a)::vs,.cons ⟨rfl,rfl⟩ h1,.cons (zy Pr w k u) rfl h2,fun e he=>?_⟩;rcases br.mp he with rfl|he
   ·exact⟨cX k,zy Pr w k u,rfl⟩
   ·exact h3 e he
 obtain⟨vs,h1,h2,h3⟩:=key h;refine⟨hz,ns,_,vs,l,h1,es.toArray,n,⟨rfl,rfl,rfl⟩,rfl,fun e he=>h3 e (List.mem_toArray.mp he),by simpa using h2,?_⟩;rw[<-AM h1];exact nd
theorem aa1{q:bv}{loose:List af}{XP:(af->Option ag)->Heap->Prop}{YP:bf->Heap->Prop}{d:DefRec}{K:kX->ax}(hwell:PySem.Challenge.rw_stackwords_s01_answers.wellSaid=true)(hdf:d.params.defaults=[])(hn:d.name="answers")
(hY:∀(w:bf) (h:Heap),YP w h->(K w.params).In h)(F:∀w:bf,Txt (K w.params)/\Cw PySem.Challenge.rw_stackwords_s01_answers.prog w (K w.params)):
  OL q loose XP YP PySem.Challenge.rw_stackwords_s01_answers d [] (fun f vs=>OM f vs):=by
 refine Fo (K:=K) (CX:=fun w=>gW PySem.Challenge.rw_stackwords_s01_answers.prog w (RC (K w.params))) (ps:=["calls"]) (k:=34) (sp:=fun w=>NR (K w.params)) hwell hdf rfl ⟨rfl,by decide,by decide⟩ hY (fun w mg fa h Y KX G hmg=>?_) (fun w H xs a hO hwi hask hx=>?_) (fun w H s e s' h=>?_)
 ·obtain⟨T,Wt⟩:=F w;have M:MG (K w.params) mg:=⟨fun x u e=>PySem.W.mg_of KX G e,fun x e=>PySem.W.mg_none_of KX G e⟩;rw[hn]at hmg;have e:=hmg.symm.trans (M.val _ _ T.Uj);cases e;refine⟨iN (K w.params) (ak (K w.params) "answers"),fun s us hu=>?_,fun base _ _=>aaL T M Wt⟩;obtain⟨oc,od,kV,doc,pm,an,cdv,ct,osl,e,lk,hcd⟩:=T.Kh.fn.ex;rw[e];match us,hu with
  |[_],_=>exact .of_eq rfl
 ·cases hx with
  |cons h1 h2=>
   cases h2;cases h1 with
   |ai hs ha=>
    have e:=L2.Fc a.1 _ ha;subst e;obtain⟨cs,hL,e1,e2⟩:=aaj (l:=a.1) hask;refine⟨_,a.1,cs,rfl,hs,hL,e2,fun H' p hp=>?_⟩;have e3:PySem.W.Codec.app PySem.Challenge.rw_stackwords_s01_answers.args PySem.Challenge.rw_stackwords_s01_answers.f a=yI a.1:=rfl;rw[<-e1]at hp;exact .ai (L2.bV.of hp) (L2.Fb _)
 ·obtain⟨_,_,_,_,_,_,_,_,_,_,_,_,_,z⟩:=h;exact z
end SW
open PySem PySem.W PyProof.Rows
namespace SW
open L2
theorem aa2{K:ax}{x:af}(h:eS K dE x=some none):jC K x:=h
theorem aa3{P:kX}{K:ax}{k f:af}{a:ae}{t:Tok}(h:eS K dE f=some (some (.ref a))):CC P K (we K k f) ⟨PyData.keyHash P k,.str k t,.ref a⟩:=⟨k,t,a,by unfold we;rw[gY h],rfl⟩
theorem aa4{K:ax}{l:List (Key×L2.V)}(h:l.Sublist (bc K)):(l.map (·.1)).Nodup:=(Cy K).sublist (h.map _)
end SW
open SW
local macro_rules| `(tactic|walk_at "kb")=>`(tactic|first
 |exact fun _ _ _ _ _ _=>NZ fun _=>rfl
 |exact fun _ _ _ _ _ _=>N1 fun _ _=>rfl
 |exact fun _ _ _ _ _ _=>N2 fun _ _ _=>rfl
 |exact fun _ _ _ _ _ _=>N3 fun _ _ _ _=>rfl
 |exact fun _ _ _ _ _ _=>ar5 fun _ _ _ _ _=>rfl
 |exact fun _ _ _ _ _ _=>NY rfl)
local macro_rules| `(tactic|walk_at "kx")=>`(tactic|first
 |((with_reducible refine' aaM ?a);(case a=>k_is))
 |((with_reducible refine' aaP ?a ?l ?c ?k ?b);(case a=>k_is);(case l=>k_is);(case c=>k_is);(case k=>k_is);(case b=>walk_at "kb"))
 |((with_reducible refine' NW ?a ?i ?l ?c ?k ?b);(case a=>k_is);(case i=>k_is);(case l=>k_is);(case c=>k_is);(case k=>k_is);(case b=>walk_at "kb"))
 |((with_reducible refine' aaQ ?a ?h1 ?h2 ?h3 ?h4 ?i ?l ?c ?k ?f ?b);(case a=>k_is);(case h1=>k_is);(case h2=>k_is);(case h3=>k_is);(case h4=>k_is);(case i=>k_is);(case l=>k_is);(case c=>k_is);(case k=>k_is);(case f=>k_is);(case b=>walk_at "kb"))
 |((with_reducible refine' aaN ?a);(case a=>k_is))
 |((with_reducible refine' aaO ?a);(case a=>k_is))
 |((with_reducible refine' aa2 ?a);(case a=>k_is))
 |((with_reducible refine' aaT ?a ?h);(case a=>k_is);(case h=>k_is))
 |((with_reducible refine' NX ?a ?h1 ?h2 ?h3 ?h4);(case a=>k_is);(case h1=>k_is);(case h2=>k_is);(case h3=>k_is);(case h4=>k_is))
 |((with_reducible refine' aaR ?a ?h1 ?i ?f ?k);(case a=>k_is);(case h1=>k_is);(case i=>k_is);(case f=>k_is);(case k=>k_is))
 |((with_reducible refine' aaS ?a ?i ?h1 ?h2 ?h3 ?k);(case a=>k_is);(case i=>k_is);(case h1=>k_is);(case h2=>k_is);(case h3=>k_is);(case k=>k_is))
 |((with_reducible refine' aaU ?a ?h1 ?h2 ?h3 ?h4 ?h5 ?h6 ?h7 ?h8);(case a=>k_is);(case h1=>k_is);(case h2=>k_is);(case h3=>k_is);(case h4=>k_is);(case h5=>k_is);(case h6=>k_is);(case h7=>k_is);(case h8=>k_is))
 |((with_reducible refine' aaV ?a ?b ?h);(case a=>k_is);(case b=>k_is);(case h=>kernel_rfl))
 |((with_reducible refine' aaW ?a ?b ?h);(case a=>k_is);(case b=>k_is);(case h=>kernel_rfl))
 |((with_reducible refine' aaY ?a ?i ?l ?h1 ?h2 ?h3 ?h4 ?h5 ?h6 ?h7 ?h8 ?h9);(case a=>k_is);(case i=>k_is);(case l=>k_is);(case h1=>k_is);(case h2=>k_is);(case h3=>k_is);(case h4=>k_is);(case h5=>k_is);(case h6=>k_is);(case h7=>k_is);(case h8=>k_is);(case h9=>k_is))
 |(intro H;(with_reducible refine' aaX ?a ?l ?h1 ?h2 ?h3 ?h4);(case a=>k_is);(case l=>k_is);(case h1=>exact rfl);(case h2=>exact rfl);(case h3=>(rw[bR];decide));(case h4=>repeat' (first|exact .nil|refine .cons ⟨_,rfl⟩ ?_))))
local macro_rules| `(tactic|walk_at "kd")=>`(tactic|((with_reducible refine' aa0 ?a ?ns ?l ?nd ?hz ?h);(case a=>k_is);(case ns=>decide);(case l=>k_is);(case nd=>exact aa4 (by first|exact uy _ _|exact OW _ _|exact(uy _ _).trans (OW _ _)));(case hz=>(rw[bR];first|exact(by decide:14<=16777216)|exact(by decide:17<=16777216)|exact(by decide:8<=16777216)|exact(by decide:12<=16777216)));(case h=>((repeat' (first|exact aX.nil|refine aX.cons (aa3 ?_) ?_));all_goals k_is))))
set_option maxRecDepth 100000 in
set_option maxHeartbeats 0 in
theorem PySem.Challenge.cw_stackwords_s01_answers_holds : PySem.Challenge.rw_stackwords_s01_answers.Holds := by
 refine SW.hd ?_
 k_fillS
 refine SW.aa1 (by decide +kernel) rfl rfl (fun w h Y=>PySem.W.kIn_of Y) (fun w=>⟨?T, ?W⟩);case T=>
  constructor;all_goals walk_at "kx"
 case W=>
  constructor;case g1=>walk_at "kx"
  case g2=>walk_at "kx"
  case g3=>walk_at "kx"
  case g4=>walk_at "kx"
  case d1=>walk_at "kd"
  case d2=>walk_at "kd"
  case d3=>walk_at "kd"
  case d4=>walk_at "kd"
