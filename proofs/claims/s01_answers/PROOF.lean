import PyProof.Rows.All
import Wide.All
import OpenK.AllK
import Wide.FinOn
import PyProof.EqAt
import PyProof.EqKinds
import PyProof.TupleCall
import KE.BitLaws
import Open.SpecLaws
import KE.OsHead
import KE.OsGo
import PySem.Challenge.RW_drumdesk_s01_answers
set_option Elab.async false
set_option linter.all false
set_option maxRecDepth 100000
set_option maxHeartbeats 2000000
namespace PySem.W.Fast
def tw4782662036354289557:=0
def tw12478817749642578021:=0
def tw18158594891640955650:=0
def tw7510889047242483841:=0
def tw2877232391913317658:=0
def tw12364396269901175272:=0
def tw8228789240565802246:=0
def tw4569929147641615780:=0
def tw12280557378171959479:=0
def tw6586524847608285605:=0
def tw1442776516975728914:=0
def tw6390675686869492008:=0
def tw3505088661809846228:=0
def tw15628264789739119684:=0
def tw12015788210450565268:=0
def tw17021076328524898039:=0
def tw789031155738970257:=0
def tw3400278804251603222:=0
def tw2864260188394360559:=0
def tw5950947095659531886:=0
def tw8487206917373577880:=0
def tw11751708868239418415:=0
def tw5918992353698145457:=0
def tw10690896277085404746:=0
def tw9009601608082211663:=0
def tw6335674201224496349:=0
def tw10350013149585248273:=0
def tw14716586436051798656:=0
def tw7512293342204115628:=0
def tw3811587856980111978:=0
def tw15528694807982002509:=0
def tw1865533941735991978:=0
def tw8280440110907693859:=0
def tw12714589893661311792:=0
def tw11791720332777081956:=0
def tw4791255315837466126:=0
def tw13583716254660264636:=0
def tw8810134497062032507:=0
def tw12781085376680962787:=0
def tw6049989172958302203:=0
def tw9258962707520778966:=0
def tw1284187696332882639:=0
def tw2504444559197305975:=0
def tw4759696065184808653:=0
def tw9966795133071147636:=0
def tw11865703087676361885:=0
def tw1493905764244973162:=0
def tw5788030296664724813:=0
def tw6851412997994906663:=0
def tw18290551121127528226:=0
def tw12805499631903131914:=0
def tw1043364392844037444:=0
def tw9040733128710834553:=0
def tw10401996902058836554:=0
def tw1517009156464446653:=0
def tw9858736119527965077:=0
def tw12775196871642129765:=0
def tw15898922614364701712:=0
def tw16315901969841326728:=0
def tw3672181649157194231:=0
def tw8350276481132428568:=0
def tw10075946647983746108:=0
def tw187375311662153601:=0
def tw3438241839255466519:=0
def tw1540544221705296103:=0
def tw4742212547792628604:=0
def tw16330428707801579596:=0
def tw6926512941881683278:=0
def tw14879150171056408742:=0
def tw14766282433081485248:=0
def tw1209652174988395945:=0
def tw1633928336581348061:=0
def tw6117339054398804119:=0
def tw5073617840363028354:=0
def tw4094673121802837283:=0
def tw2293237911471742704:=0
def tw8575815940339067770:=0
def tw2378303823455181364:=0
def tw15315996122892613836:=0
def tw17957209803330084985:=0
def tw1089510273706041177:=0
def tw9494741390882879348:=0
def tw1145404963883233994:=0
def tw16220551766605171260:=0
def tw13215315471760487098:=0
def tw10684579170227480011:=0
def tw11698913459276720650:=0
def tw10614705975500735114:=0
def tw2101920460749895505:=0
def tw9751629866162629410:=0
def tw5055409278060333570:=0
def tw15208901250853526099:=0
def tw4325816577776814365:=0
def tw5324744118415768940:=0
def tw6085545999347469550:=0
def tw9832604944522691935:=0
def tw6049244232878487284:=0
def tw15437999122138258428:=0
def tw11263815823798720829:=0
def tw2365227838699392480:=0
def tw10315157499317954846:=0
def tw12832866159487012207:=0
def tw9173158637730846932:=0
def tw13532714222864336262:=0
def tw15035699188660235786:=0
def tw4876660959375618459:=0
def tw15306416790518153859:=0
def tw8562100316797126921:=0
def tw9304326921595851648:=0
def tw8812854025768900312:=0
def tw6605071675218362422:=0
def tw5229087888234238582:=0
def tw18090016950630123506:=0
def tw10073210920583151713:=0
def tw7436932205487527014:=0
def tw12358300324812651354:=0
def tw12628980482034856211:=0
def tw4693756560788062820:=0
def tw343379367769940296:=0
def tw13782266739398982787:=0
def tw16077288011595760655:=0
def tw8939855125247881435:=0
def tw4615174480997531751:=0
def tw13513369546298311520:=0
def tw3785951096838013673:=0
def tw11900885034623862397:=0
def tw9594673617994821752:=0
def tw927561235056438227:=0
def tw14274064898688090205:=0
def tw16566453128770332239:=0
def tw6854972331786206903:=0
def tw5128196435347981442:=0
def tw6045155076007319734:=0
def tw2845958375318892101:=0
def tw4830154892767680393:=0
def tw12802930098360137000:=0
def tw10634512916516189602:=0
def tw7389339537351496171:=0
def tw14343024838427696551:=0
def tw13616616122984875612:=0
def tw10519865492513857921:=0
def tw4727225071761101319:=0
def tw6071623748201825179:=0
def tw2748151607457622565:=0
def tw16062644038185423002:=0
def tw13648976227602360330:=0
def tw6708192935858338819:=0
def tw1984910837896669889:=0
def tw2475977917606191571:=0
def tw506492310815622725:=0
def tw8319634912717571023:=0
def tw14605815116019386390:=0
def tw15489021374156100206:=0
def tw7920299116118367304:=0
def tw310823653402867796:=0
def tw5489598239349344254:=0
def tw2470497254908173842:=0
def tw15910351817210269086:=0
def tw864518561939168977:=0
def tw883143600456730449:=0
def tw543730324634415313:=0
def tw3598313710568379735:=0
def tw418499998025606219:=0
def tw5327857534745011878:=0
def tw13850376750407293092:=0
def tw13458866618379619355:=0
def tw16827786436767056733:=0
def tw17672742351329825084:=0
def tw6467385802324066266:=0
def tw16769168289348543443:=0
def tw4799411349102447572:=0
def tw5941378455484389839:=0
def tw3422902062286164015:=0
def tw5645109181723781638:=0
def tw8418657839414226621:=0
def tw4103837242497086482:=0
def tw11254234672258542172:=0
def tw8703337798145289654:=0
def tw15971797311289364057:=0
def tw11054349951668707066:=0
def tw6964687535233324389:=0
def tw9382092686358163295:=0
def tw1290502985591748922:=0
def tw7417884616955564047:=0
def tw17168739888256382355:=0
def tw1702321719293878558:=0
def tw14898502347403207853:=0
def tw13178149210960077234:=0
def tw15411715042107921346:=0
def tw11855281232318352140:=0
def tw10110424516880485530:=0
def tw12177280297126013920:=0
def tw12484170896582228404:=0
def tw17108538822082938703:=0
def tw7859735739468101749:=0
def tw6032807899102997064:=0
def tw14608278484000655257:=0
def tw3389794941151719439:=0
def tw549174310553998011:=0
def tw4705640059324924150:=0
def tw14877473180139820086:=0
def tw12034258436394386743:=0
def tw15470402613716021528:=0
def tw7610555500523339870:=0
def tw5510115668552082896:=0
def tw2167052533324189610:=0
def tw8631657268215234237:=0
def tw7032048833043560493:=0
def tw1682871406232003007:=0
def tw15863834215308138537:=0
def tw12772160069945712502:=0
def tw7247192553227509832:=0
def tw5609012623007797573:=0
def tw17629990673828143925:=0
def tw230868144522315783:=0
def tw12855216921932733091:=0
def tw14774361630119819163:=0
def tw2515105114057106640:=0
def tw5384436710681298480:=0
def tw5689069598290862712:=0
def tw16529727680643214598:=0
def tw13707505593714834190:=0
def tw7364322746150714502:=0
def tw4991745642090409327:=0
def tw6493708004343171075:=0
def tw16939343713060211832:=0
def tw17441838425549550498:=0
def tw7795840808187020996:=0
def tw13908808762163836546:=0
def tw15674632211739614399:=0
def tw7817443055580291645:=0
def tw6242170779458233212:=0
def tw12748341990681747424:=0
def tw11049527917172888064:=0
def tw10982373053819425432:=0
def tw15421990907964853039:=0
def tw8878465890485059196:=0
def tw11310372651625970363:=0
def tw17363343874639191603:=0
def tw16029087364132481265:=0
def tw12687234723884874251:=0
def tw5608686201466310591:=0
def tw16680146752482134855:=0
def tw5702971060589881622:=0
def tw5139520160318275556:=0
def tw6269683597569866363:=0
def tw6202159386858509901:=0
def tw7412409720163717741:=0
def tw609213524595282388:=0
def tw5164037596138307060:=0
def tw11318409308713066730:=0
def tw3364054583627417687:=0
def tw8081557027437215249:=0
def tw14294796870768484383:=0
def tw13580940468648918069:=0
def tw113240556750588762:=0
def tw1527845142837331054:=0
def tw4149649942394254066:=0
def tw1447141254440211339:=0
def tw12031890564212670660:=0
def tw17587195097675615995:=0
def tw5584257328919425746:=0
def tw10731351346521244606:=0
def tw2908800890964382421:=0
def tw17426527498801526052:=0
def tw7652094590374848343:=0
def tw17463714257703724462:=0
def tw18091695451720019619:=0
def tw16443947419656160419:=0
def tw11355990515188442481:=0
def tw2341085788568010979:=0
def tw588112110784839288:=0
def tw332297330316480937:=0
def tw14890316792472754820:=0
def tw17436887457450113851:=0
def tw12990354076482746443:=0
def tw2322279893089279938:=0
def tw11758768562222232554:=0
def tw16107527468944208131:=0
def tw14978697715536439407:=0
def tw237085409597467482:=0
def tw11066982788169213152:=0
def tw13885242214858191660:=0
def tw8504880709279345074:=0
def tw13514014402197281561:=0
def tw9240907625608302271:=0
def tw15832485536718485748:=0
def tw13217374214978998398:=0
def tw2706410498833387406:=0
def tw3258409668232891966:=0
def tw1677263736004296996:=0
def tw4295850607829208600:=0
def tw7331849422397361336:=0
def tw15754244940875696459:=0
def tw8798759845867254904:=0
def tw15521918240570480493:=0
def tw18427878972153608327:=0
def tw17749950626829947458:=0
def tw6369083470597624044:=0
def tw7437445462909453419:=0
def tw16448586025479958891:=0
def tw12969533184299949050:=0
def tw18106477936831101945:=0
def tw484547602977437270:=0
def tw8629293526837045817:=0
def tw12459647574354880086:=0
def tw12799432640121939208:=0
def tw10925152453343046339:=0
def tw14965881884965896634:=0
def tw16887830571733588201:=0
def tw16852473965083378487:=0
def tw9850404433002156551:=0
def tw15133100073682019278:=0
def tw15842550107918249897:=0
def tw16143919375551050555:=0
def tw16381597432706805039:=0
def tw1229595047368368292:=0
def tw14532899158478350540:=0
def tw1587686595112197565:=0
def tw14098392520330914384:=0
def tw9172327256498859266:=0
def tw17863329175893080284:=0
def tw10062313746618771872:=0
def tw11430285540440333335:=0
def tw528611616439956315:=0
def tw16626415737935402271:=0
def tw16291432431974084390:=0
def tw853485351215635147:=0
def tw17255342521333489672:=0
def tw432765190145670956:=0
def tw5085101442319039512:=0
def tw4492914807635976824:=0
def tw229367807135260783:=0
def tw9250228657295311310:=0
def tw17122803367194282531:=0
def tw9625839390303951289:=0
def tw16468060118746317386:=0
def tw1342887588950572131:=0
def tw17030641630973098673:=0
def tw14391192320849591735:=0
def tw16847402240887389725:=0
def tw6334579823724776639:=0
def tw267997393406831466:=0
def tw8918046456391830709:=0
def tw15151692651459877837:=0
def tw3812241914315256409:=0
def tw10973982138916861281:=0
def tw8806495163106848290:=0
def tw14902802091346855519:=0
def tw7434796051227918313:=0
def tw15723359382263577337:=0
def tw11541752696066079573:=0
def tw5274875034960519109:=0
def tw3529515195393569751:=0
def tw961158135700679544:=0
def tw4202048400154316094:=0
def tw8207210216003177852:=0
def tw3554242744615386248:=0
def tw5765247543824589949:=0
def tw11314533805382535753:=0
def tw3769753450207502872:=0
def tw3956994549738988902:=0
def tw5843553547845717674:=0
def tw11684332420295268362:=0
def tw16288443651860648685:=0
def tw16877443779498246532:=0
def tw10095338790053045358:=0
def tw6955741338920124696:=0
def tw3360209963790385282:=0
def tw7456585940938687960:=0
def tw10684373394750790624:=0
def tw17533786560380499653:=0
def tw8637772871163101958:=0
def tw7870539195603648767:=0
def tw555959332659839859:=0
def tw6659371351121583574:=0
def tw13835838561955227083:=0
def tw14113112559628532914:=0
def tw5540891254454740864:=0
def tw4796292567043226906:=0
def tw11277338946710054628:=0
def tw18150334253664740079:=0
def tw16456715124339466289:=0
def tw13060158137627276242:=0
def tw15722718653378603561:=0
def tw5237449635545732155:=0
def tw14426080293480174478:=0
def tw17756564759063443900:=0
def tw2974991622464333761:=0
def tw7556631623985786575:=0
def tw13667264883025117119:=0
def tw10603797028021513218:=0
def tw773419648758526633:=0
def tw11066934807803050956:=0
def tw14983401593736037537:=0
def tw2959880828017139520:=0
def tw9972515884532756697:=0
def tw15761989623041582813:=0
def tw3492920820021724270:=0
def tw6562025553836057799:=0
def tw13859274059497575062:=0
def tw3979351049656985514:=0
def tw5982170662847967143:=0
def tw13091379309781193284:=0
def tw9257683387297839195:=0
def tw15889556210409582104:=0
def tw16414663640796949331:=0
def tw12525846033844735572:=0
def tw4694703704940784175:=0
def tw5350767127480376530:=0
def tw18292230528809210761:=0
def tw17191217095277697588:=0
def tw10838805727700967328:=0
def tw16164253141679779878:=0
def tw5210365535223122112:=0
def tw227624876110672024:=0
def tw9175081870602943210:=0
def tw17860509524593274595:=0
def tw15169034099908513235:=0
def tw3080949639433679185:=0
def tw4293976986109445952:=0
def tw11197631839563898195:=0
def tw3641501255338952540:=0
def tw12611062587711791952:=0
def tw2825482152994577197:=0
def tw4015058044886640318:=0
def tw8824927674285490628:=0
def tw649431626363778030:=0
def tw15610511784339774730:=0
def tw2983500457972647795:=0
def tw741285287363228122:=0
def tw3358910710635762255:=0
def tw2749518482110364060:=0
def tw12959940022119797483:=0
def tw7430462239127799496:=0
def tw16633235331805474207:=0
def tw16279623618479191667:=0
def tw3299266429498594984:=0
def tw14281341163850378722:=0
def tw13890744690481344491:=0
def tw10082714179488978793:=0
def tw8936685660814573746:=0
def tw15655278483860250286:=0
def tw9139599812284620114:=0
def tw7656872230236178664:=0
def tw4582570960912948746:=0
def tw6384446851591665410:=0
def tw2116257552765239712:=0
def tw697000139431964815:=0
def tw15247057138495087636:=0
def tw13155245718674490487:=0
def tw11990192051718602759:=0
def tw15136521543896350146:=0
def tw4338508937600182458:=0
def tw10491611925712405256:=0
def tw16858947693203944847:=0
def tw4149831313648273031:=0
def tw10392518587947643440:=0
def tw11125376051944754068:=0
def tw4478177082172226431:=0
def tw7206835692123810863:=0
def tw2682803888624806132:=0
def tw14928942169432779738:=0
def tw8968607594471031969:=0
def tw9561221734698885104:=0
def tw14325832083051745162:=0
def tw2558279942262694424:=0
def tw18136204674482576808:=0
def tw12084149643061540829:=0
def tw300617978656113438:=0
def tw13559655638905755404:=0
def tw3482511668236857339:=0
def tw18160158972502512207:=0
def tw14450582469896796339:=0
def tw69749653655336717:=0
def tw987757513046886552:=0
def tw17867699800006357023:=0
def tw9976233039524881594:=0
def tw5359460745784224263:=0
def tw6814935724288853865:=0
def tw15165473328049771012:=0
def tw8365211740872892178:=0
def tw9150765182731389281:=0
def tw5551953546377759218:=0
def tw11243499608614489052:=0
def tw15378256688224066428:=0
def tw17673667710515982825:=0
def tw9831048998268058652:=0
def tw4515484814144722445:=0
def tw1561511253721624013:=0
def tw8052558076941034376:=0
def tw4917263524804261308:=0
def tw10581436305756349359:=0
def tw16991112570396282563:=0
def tw18224055383469221585:=0
def tw8087270336865735322:=0
def tw11989938914003892469:=0
def tw7845043366265264293:=0
def tw6882639666817144882:=0
def tw8411392504653040690:=0
def tw13190232290142444029:=0
def tw13382007994827085465:=0
def tw3876313276675129868:=0
def tw13386756213476205545:=0
def tw9270167348902595077:=0
def tw16574949401048955706:=0
def tw5707184907632115814:=0
def tw14677849167346896186:=0
def tw6642112843590747268:=0
def tw16452315673642583646:=0
def tw12853486934521883696:=0
def tw8485601669384895035:=0
def tw8705532059777300132:=0
def tw2497079750183123577:=0
def tw17326870961788684405:=0
def tw560002109346496533:=0
def tw16170032046778138093:=0
def tw7290917635349475758:=0
def tw14967129278228843270:=0
def tw3171976097125945547:=0
def tw16176851079080757411:=0
def tw1966713758100263517:=0
def tw10104342620329009818:=0
def tw6350391889533693431:=0
def tw12703057375811841806:=0
def tw9854472480937878904:=0
def tw14137158556854102758:=0
def tw15651646557225671631:=0
def tw8857914656489268238:=0
def tw11933335960837464100:=0
def tw15214092424414032032:=0
def tw14445612838491373498:=0
def tw2708801094081322172:=0
def tw12731515510671195358:=0
def tw6569381893165139931:=0
def tw13794290594969824308:=0
def tw4314064296769329639:=0
def tw9264567044538943865:=0
def tw12033002395484422580:=0
def tw4255186329029925268:=0
def tw4563890102904457295:=0
def tw2495262769494728446:=0
def tw15488423525721321111:=0
def tw3226167601770692226:=0
def tw7608008268762865891:=0
def tw15831470487411133301:=0
def tw10048690662577118536:=0
def tw7173206653349366184:=0
def tw2839940317256823305:=0
def tw2148211352843830567:=0
def tw13944462239385726131:=0
def tw13167759095249849005:=0
def tw5005870861916941725:=0
def tw5237776148039691311:=0
def tw9117904915816068349:=0
def tw10983995470753544826:=0
def tw8723672733401542445:=0
def tw17650879678473032870:=0
def tw12645136861674704944:=0
def tw12679371069229317083:=0
def tw523283226878078647:=0
def tw2962300021613702966:=0
def tw948052410043103489:=0
def tw905211410638411475:=0
def tw8648890714316795497:=0
def tw5856469527654528195:=0
def tw2127852549297321961:=0
def tw17429246449464712569:=0
def tw9168528257187821384:=0
def tw7806910347687518062:=0
def tw1545730754419213976:=0
def tw7962977694700121966:=0
def tw17371570089887795129:=0
def tw1039276516223346516:=0
def tw3610228794525535913:=0
def tw17885887480726016970:=0
def tw14374558940633862938:=0
def tw17227272707488339019:=0
def tw9623043366410450878:=0
def tw4240691912612246233:=0
def tw14484029922968797174:=0
def tw13695973616807942100:=0
def tw14184698168089297418:=0
def tw4744430217121408398:=0
def tw6483953795613447360:=0
def tw4584830569735106390:=0
def tw8661076836458096985:=0
def tw11234666675842862077:=0
def tw889663472662446804:=0
def tw17176074094722583990:=0
def tw15391152597156184501:=0
def tw13581412537026086300:=0
def tw8051045576504655189:=0
def tw1312854187246839613:=0
def tw8393477681238457639:=0
def tw16179711727233726138:=0
def tw9047737297568035081:=0
def tw11354767582520785406:=0
def tw17068951260595736351:=0
def tw8725788423585345285:=0
def tw3833602964364605146:=0
def tw2261123641784150278:=0
def tw12653131599977629614:=0
def tw5740698947157769356:=0
def tw1175944601637060839:=0
def tw16835245264602994282:=0
def tw14671488428451514554:=0
def tw14763127209478019198:=0
def tw1551796338930144003:=0
def tw18229527190647230244:=0
def tw16971264741213866425:=0
def tw13231153393792733207:=0
def tw5008797031515137800:=0
def tw4402517459917702265:=0
def tw1796289374069626100:=0
end PySem.W.Fast
local macro_rules
  | `(tactic| o_law) => `(tactic| skip)
local macro_rules
  | `(tactic| k_head) => `(tactic| k_headS)
local macro_rules
  | `(tactic| w_witness2) => `(tactic| exact ⟨[.list [.int 6]], by decide +kernel, by decide +kernel⟩)
set_option maxHeartbeats 0 in
open_top dhead for PySem.Challenge.rw_drumdesk_s01_answers
namespace L2
open PySem PySem.Spec PyProof.Rows
abbrev Key := Sum Int Str
def keyIs : Key → Value → Bool
  | .inl k, v => Value.isInt k v
  | .inr x, v => Value.isStrOf x v
def keyH (w : World) : Key → Int
  | .inl k => hashInt k
  | .inr x => hashStr w x
theorem keyIs_shape : ∀ {k : Key} {v : Value}, keyIs k v = true → (∃ i t, k = Sum.inl i ∧ v = Value.int i t) ∨ (∃ x t, k = Sum.inr x ∧ v = Value.str x t)
  | .inl i, v, h => by
    obtain ⟨t, e⟩ := Value.isInt_shape (k := i) (v := v) h
    exact .inl ⟨i, t, rfl, e⟩
  | .inr x, v, h => by
    obtain ⟨t, e⟩ := Value.isStrOf_shape (x := x) (v := v) h
    exact .inr ⟨x, t, rfl, e⟩
theorem keyIs_int (i : Int) (t : Tok) : keyIs (.inl i) (.int i t) = true := by simp [keyIs, Value.isInt]
theorem keyIs_str (x : Str) (t : Tok) : keyIs (.inr x) (.str x t) = true := by simp [keyIs, Value.isStrOf]
theorem key_ll (a b : Int) : decide ((Sum.inl a : Key) = Sum.inl b) = (a == b) := by
  by_cases e : a = b
  · subst e; simp
  · have h : ¬ (Sum.inl a : Key) = Sum.inl b := fun q => e (Sum.inl.inj q)
    rw [decide_eq_false h]
    exact (beq_eq_false_iff_ne.mpr e).symm
theorem key_rr (a b : Str) : decide ((Sum.inr a : Key) = Sum.inr b) = decide (a = b) := by
  by_cases e : a = b
  · subst e; simp
  · have h : ¬ (Sum.inr a : Key) = Sum.inr b := fun q => e (Sum.inr.inj q)
    rw [decide_eq_false h, decide_eq_false e]
theorem key_lr (a : Int) (b : Str) : decide ((Sum.inl a : Key) = Sum.inr b) = false := decide_eq_false (fun q => nomatch q)
theorem key_rl (a : Str) (b : Int) : decide ((Sum.inr a : Key) = Sum.inl b) = false := decide_eq_false (fun q => nomatch q)
def mixKind (prog : Program) (w : World) : PySem.KeyKind prog w Key where
  is := keyIs
  hash := keyH w
  inj := fun v a b ha hb => by
    rcases keyIs_shape ha with ⟨i, t, rfl, rfl⟩ | ⟨x, t, rfl, rfl⟩
    · rcases keyIs_shape hb with ⟨j, u, rfl, e⟩ | ⟨y, u, rfl, e⟩
      · injection e with e1 _; rw [e1]
      · exact nomatch e
    · rcases keyIs_shape hb with ⟨j, u, rfl, e⟩ | ⟨y, u, rfl, e⟩
      · exact nomatch e
      · injection e with e1 _; rw [e1]
  byValue := fun k v h => by
    rcases keyIs_shape h with ⟨i, t, rfl, rfl⟩ | ⟨x, t, rfl, rfl⟩ <;> rfl
  pyHash := fun hv h => by
    rcases keyIs_shape hv with ⟨i, t, rfl, rfl⟩ | ⟨x, t, rfl, rfl⟩
    · exact wpAny_pyHash_int h
    · exact wpAny_pyHash_str h
  eqBool := fun hu hv h => by
    rcases keyIs_shape hu with ⟨i, t, rfl, rfl⟩ | ⟨x, t, rfl, rfl⟩
    · rcases keyIs_shape hv with ⟨j, u, rfl, rfl⟩ | ⟨y, u, rfl, rfl⟩
      · rw [key_ll] at h; exact wpAny_eqBool_int h
      · rw [key_lr] at h; exact SeqAt.EqAt.int_str i t y u _ _ _ _ h
    · rcases keyIs_shape hv with ⟨j, u, rfl, rfl⟩ | ⟨y, u, rfl, rfl⟩
      · rw [key_rl] at h; exact SeqAt.EqAt.str_int x t j u _ _ _ _ h
      · rw [key_rr] at h; exact wpAny_eqBool_str h
  «strs» := fun k x t v h => by
    rcases keyIs_shape h with ⟨i, u, rfl, e⟩ | ⟨y, u, rfl, e⟩
    · exact nomatch e
    · injection e with e1 _
      subst e1
      cases v <;> rfl
theorem mixKind_int (prog : Program) (w : World) (i : Int) (t : Tok) : (mixKind prog w).is (.inl i) (.int i t) = true := keyIs_int i t
theorem mixKind_str (prog : Program) (w : World) (x : Str) (t : Tok) : (mixKind prog w).is (.inr x) (.str x t) = true := keyIs_str x t
end L2
namespace L2
open PySem PySem.Spec PyProof.Rows
inductive V where
  | non | bl (b : Bool) | int (i : Int) | str (x : Str) | byt (b : Array UInt8) | flt (b : UInt64) | ref (a : Addr) | ty (n : String)
  deriving DecidableEq
def RelV : V → Value → Prop
  | .non, u => u = Value.none
  | .bl b, u => u = Value.bool b
  | .int i, u => ∃ t, u = Value.int i t
  | .str x, u => ∃ t, u = Value.str x t
  | .byt b, u => ∃ t, u = Value.bytes b t
  | .flt b, u => ∃ t, u = Value.float b t
  | .ref a, u => u = Value.ref a
  | .ty n, u => u = Value.type n
abbrev Vals : List V → List Value → Prop := Paired RelV
theorem Vals.length {xs : List V} {us : List Value} (r : Vals xs us) : xs.length = us.length := Paired.length r
theorem Vals.get : ∀ {xs : List V} {us : List Value} {i : Nat} {x : V}, Vals xs us → xs[i]? = some x → ∃ u, us[i]? = some u ∧ RelV x u
  | _, _, _, _, .nil, e => by simp at e
  | _, _, 0, _, .cons r _, e => by simp at e; subst e; exact ⟨_, rfl, r⟩
  | _, _, i + 1, x, .cons _ t, e => by
    obtain ⟨u, h1, h2⟩ := Vals.get (i := i) (x := x) t (by simpa using e)
    exact ⟨u, by simpa using h1, h2⟩
theorem Vals.set {x : V} {u : Value} (r : RelV x u) : ∀ {xs : List V} {us : List Value} (i : Nat), Vals xs us → Vals (xs.set i x) (us.set i u)
  | _, _, _, .nil => .nil
  | _, _, 0, .cons _ t => .cons r t
  | _, _, i + 1, .cons q t => .cons q (Vals.set r i t)
theorem Vals.append : ∀ {xs ys : List V} {us ws : List Value}, Vals xs us → Vals ys ws → Vals (xs ++ ys) (us ++ ws)
  | _, _, _, _, .nil, s => s
  | _, _, _, _, .cons r t, s => .cons r (Vals.append t s)
theorem Vals.take : ∀ {xs : List V} {us : List Value} (n : Nat), Vals xs us → Vals (xs.take n) (us.take n)
  | _, _, 0, _ => .nil
  | _, _, _ + 1, .nil => .nil
  | _, _, n + 1, .cons r t => .cons r (Vals.take n t)
theorem Vals.drop : ∀ {xs : List V} {us : List Value} (n : Nat), Vals xs us → Vals (xs.drop n) (us.drop n)
  | _, _, 0, r => r
  | _, _, _ + 1, .nil => .nil
  | _, _, n + 1, .cons _ t => Vals.drop n t
def RelO : Option V → Option Value → Prop
  | some v, some u => RelV v u
  | none, none => True
  | _, _ => False
def KV {κ : Type} : List (κ × V) → List (κ × Value) → Prop := Paired fun (p : κ × V) (q : κ × Value) => p.1 = q.1 ∧ RelV p.2 q.2
def kV : Key → V
  | .inl i => .int i
  | .inr x => .str x
inductive HO where
  /-- a list -/
  | lst (xs : List V)
  /-- a tuple (never changes) -/
  | tup (xs : List V)
  /-- a dict whose keys are ints and texts; one whose keys are tuples of ints and texts (the empty one is both) -/
  | dK (kvs : List (Key × V)) | dT (kvs : List (List Key × V))
  /-- a set of ints: its members, its size -/
  | set (S : Int → Bool) (n : Nat)
  /-- an instance of the class at C, its dict at dx, its attributes -/
  | ins (C dx : Addr) (fs : List (Str × V))
  /-- the dict of the instance at x -/
  | own (x : Addr)
  /-- the dict of an exception -/
  | xd (fs : List (Str × V))
  /-- a bound method, f of x -/
  | met (f x : Addr)
  /-- a range object lo, lo + 1, .. below hi -/
  | rng (lo hi : Int)
  /-- a thing that is known to the object (the script; a dict while a loop walks it): read, never written while it is so -/
  | frz (o : Obj) (u : HO)
  /-- a code object's table -/
  | tbl (ps : Array Value)
  /-- any other thing, by what is true of its one object (a def of one's own: SetO a S n := HO.ext fun h => ..) -/
  | ext (φ : Heap → Prop)
abbrev Hp := Addr → Option HO
def upd (H : Hp) (a : Addr) (o : HO) : Hp := fun b => if b = a then some o else H b
theorem upd_same {H : Hp} {a : Addr} {o : HO} : upd H a o a = some o := by unfold upd; rw [if_pos rfl]
theorem upd_ne {H : Hp} {a b : Addr} {o : HO} (h : b ≠ a) : upd H a o b = H b := by unfold upd; rw [if_neg h]
theorem upd_upd {H : Hp} {a : Addr} {o u : HO} : upd (upd H a o) a u = upd H a u := by
  funext b; unfold upd; split <;> rfl
theorem ne_of {H : Hp} {a b : Addr} {o u : HO} (h : H a = some o) (h' : H b = some u) (d : o ≠ u) : a ≠ b := by
  intro e; subst e; rw [h] at h'; exact d (Option.some.inj h')
theorem ne_of_none {H : Hp} {a b : Addr} {o : HO} (h : H a = some o) (h' : H b = none) : a ≠ b := by
  intro e; subst e; rw [h] at h'; cases h'
section
variable (P : Program) (w : World)
def ObjOk (H : Hp) (h : Heap) (a : Addr) : HO → Prop
  | .lst xs => xs.length ≤ sizeLine ∧ ∃ (its : List Value) (n : Nat), Vals xs its ∧ h.get? a = some { cls := .type "list", data := .seq its.toArray n }
  | .tup xs => xs.length ≤ sizeLine ∧ ∃ its : List Value, Vals xs its ∧ IsTup h a its.toArray
  | .dK kvs => kvs.length ≤ sizeLine ∧ (a == sysModules) = false ∧ ∃ vs, KV kvs vs ∧ h.DictOf (mixKind P w) a vs
  | .dT kvs => kvs.length ≤ sizeLine ∧ (a == sysModules) = false ∧ ∃ xs : List (List Key × Addr × Value),
      Paired (fun (p : List Key × V) (q : List Key × Addr × Value) => p.1 = q.1 ∧ H q.2.1 = some (.tup (p.1.map kV)) ∧ RelV p.2 q.2.2) kvs xs ∧
      ∃ o es ep, h.get? a = some o ∧ o.ExactDict ∧ o.data = .dict es ep ∧ es.toList = xs.map (entryOfKey (tupleKind (mixKind P w))) ∧ (xs.map (·.1)).Nodup
  | .set S n => h.SetOf (intKind P w) a S n
  | .ins C dx fs => H dx = some (.own a) ∧ fs.length ≤ 1000 ∧ dx ≠ a ∧ h.get? a = some (PySem.W.instObj C dx) ∧
      ∃ mA, h.Ns1 dx mA ∧ (∀ f, RelO (fs.lookup f) (mA f)) ∧ PySem.Within mA (fs.map (·.1))
  | .own _ => ∃ o, h.get? a = some o
  | .xd fs => ∃ mA, h.Ns1 a mA ∧ ∀ f, RelO (fs.lookup f) (mA f)
  | .rng lo hi => ∃ t u v, h.get? a = some { cls := .type "range", data := .fields #[.int lo t, .int hi u, .int 1 v] }
  | .frz o u => h.get? a = some o ∧ ObjOk H h a u
  | .tbl ps => h.get? a = some { cls := .none, data := .fields ps }
  | .met f x => h.get? a = some (PySem.W.methodObj (.ref f) (.ref x))
  | .ext φ => φ h ∧ (∃ o, h.get? a = some o) ∧ ∀ h1 h2 : Heap, φ h1 → (∀ o, h1.get? a = some o → h2.get? a = some o) → φ h2
def HOk (H : Hp) (h : Heap) : Prop := ∀ a o, H a = some o → ObjOk P w H h a o
end
section
variable {P : Program} {w : World} {H H' : Hp} {h h' : Heap} {a : Addr} {o : HO}
theorem ObjOk.lt (x : ObjOk P w H h a o) : a < h.objs.size := by
  cases o with
  | lst xs => obtain ⟨_, _, _, _, e⟩ := x; exact Heap.lt_size e
  | tup xs => obtain ⟨_, _, _, p⟩ := x; exact p.lt
  | dK kvs => obtain ⟨_, _, _, _, o, _, _, e, _⟩ := x; exact Heap.lt_size e
  | dT kvs => obtain ⟨_, _, _, _, o, _, _, e, _⟩ := x; exact Heap.lt_size e
  | set S n => obtain ⟨o, _, _, _, e, _⟩ := x; exact Heap.lt_size e
  | ins C dx fs => obtain ⟨_, _, _, e, _⟩ := x; exact Heap.lt_size e
  | own y => obtain ⟨_, e⟩ := x; exact Heap.lt_size e
  | xd fs => obtain ⟨_, ⟨_, _, _, e, _⟩, _⟩ := x; exact Heap.lt_size e
  | rng lo hi => obtain ⟨_, _, _, e⟩ := x; exact Heap.lt_size e
  | frz ob u => obtain ⟨e, _⟩ := x; exact Heap.lt_size e
  | tbl ps => exact Heap.lt_size (show h.get? a = some _ from x)
  | met f y => exact Heap.lt_size (show h.get? a = some _ from x)
  | ext φ => obtain ⟨_, ⟨_, e⟩, _⟩ := x; exact Heap.lt_size e
theorem Paired.mapP {α β : Type} {F G : α → β → Prop} : ∀ {l₁ : List α} {l₂ : List β}, Paired F l₁ l₂ → (∀ a b, F a b → G a b) → Paired G l₁ l₂
  | _, _, .nil, _ => .nil
  | _, _, .cons r t, f => .cons (f _ _ r) (Paired.mapP t f)
theorem ObjOk.stay (x : ObjOk P w H h a o) (k : ∀ b u, (b = a ∨ H b = some (.own a)) → h.get? b = some u → h'.get? b = some u)
    (ho : ∀ b, H b = some (.own a) → H' b = some (.own a)) (ht : ∀ b xs, H b = some (.tup xs) → H' b = some (.tup xs)) : ObjOk P w H' h' a o := by
  induction o with
  | lst xs => obtain ⟨z, its, n, r, e⟩ := x; exact ⟨z, its, n, r, k _ _ (.inl rfl) e⟩
  | tup xs => obtain ⟨z, its, r, ob, e, c⟩ := x; exact ⟨z, its, r, ob, k _ _ (.inl rfl) e, c⟩
  | dK kvs => obtain ⟨z, y, vs, r, ob, es, ep, e, c⟩ := x; exact ⟨z, y, vs, r, ob, es, ep, k _ _ (.inl rfl) e, c⟩
  | dT kvs =>
    obtain ⟨z, y, xs, r, ob, es, ep, e, c⟩ := x
    exact ⟨z, y, xs, Paired.mapP r fun p q z => ⟨z.1, ht _ _ z.2.1, z.2.2⟩, ob, es, ep, k _ _ (.inl rfl) e, c⟩
  | set S n => obtain ⟨ob, es, ep, t, e, c⟩ := x; exact ⟨ob, es, ep, t, k _ _ (.inl rfl) e, c⟩
  | ins C dx fs =>
    obtain ⟨d, z, ne, e, mA, ⟨od, es, ep, e2, c⟩, r⟩ := x
    exact ⟨ho _ d, z, ne, k _ _ (.inl rfl) e, mA, ⟨od, es, ep, k _ _ (.inr d) e2, c⟩, r⟩
  | own y => obtain ⟨ob, e⟩ := x; exact ⟨ob, k _ _ (.inl rfl) e⟩
  | xd fs => obtain ⟨mA, ⟨od, es, ep, e, c⟩, r⟩ := x; exact ⟨mA, ⟨od, es, ep, k _ _ (.inl rfl) e, c⟩, r⟩
  | rng lo hi => obtain ⟨t, u, v, e⟩ := x; exact ⟨t, u, v, k _ _ (.inl rfl) e⟩
  | frz ob u ih => obtain ⟨e, q⟩ := x; exact ⟨k _ _ (.inl rfl) e, ih q⟩
  | tbl ps =>
    have e : h.get? a = some { cls := .none, data := .fields ps } := x
    show h'.get? a = some { cls := .none, data := .fields ps }
    exact k a _ (.inl rfl) e
  | met f y =>
    have e : h.get? a = some (PySem.W.methodObj (.ref f) (.ref y)) := x
    show h'.get? a = some (PySem.W.methodObj (.ref f) (.ref y))
    exact k a _ (.inl rfl) e
  | ext φ => obtain ⟨p, ⟨o, e⟩, st⟩ := x; exact ⟨st _ _ p fun o q => k _ _ (.inl rfl) q, ⟨o, k _ _ (.inl rfl) e⟩, st⟩
theorem HOk.lt (x : HOk P w H h) (e : H a = some o) : a < h.objs.size := (x a o e).lt
theorem HOk.fresh (x : HOk P w H h) (e : h.objs.size ≤ a) : H a = none := by
  cases q : H a with
  | none => rfl
  | some u => exact absurd (Nat.lt_of_lt_of_le (x.lt q) e) (Nat.lt_irrefl _)
theorem HOk.kept (x : HOk P w H h) (k : ∀ b u, h.get? b = some u → h'.get? b = some u) : HOk P w H h' := fun a o e =>
  (x a o e).stay (fun b u _ q => k b u q) (fun _ q => q) fun _ _ q => q
theorem HOk.laid (x : HOk P w H h) (k : ∀ b u, h.get? b = some u → h'.get? b = some u) (hp : h.objs.size ≤ a) (new : ObjOk P w (upd H a o) h' a o) : HOk P w (upd H a o) h' := fun b u e => by
  have hn := x.fresh hp
  by_cases hb : b = a
  · subst hb; rw [upd_same] at e; cases e; exact new
  · rw [upd_ne hb] at e
    exact (x b u e).stay (fun c v _ q => k c v q) (fun c q => by rw [upd_ne (ne_of_none q hn)]; exact q) fun c xs q => by rw [upd_ne (ne_of_none q hn)]; exact q
end
def Rd (H : Hp) (a : Addr) (u : HO) : Prop := H a = some u ∨ ∃ o, H a = some (.frz o u)
theorem Rd.ok {P : Program} {w : World} {H : Hp} {h : Heap} {a : Addr} {u : HO} (r : Rd H a u) (x : HOk P w H h) : ObjOk P w H h a u := by
  rcases r with r | ⟨o, r⟩
  · exact x a u r
  · obtain ⟨_, q⟩ := x a _ r
    exact q
def Mut : Option HO → Prop
  | some (.lst _) => True
  | some (.dK _) => True
  | some (.dT _) => True
  | some (.set _ _) => True
  | some (.ins _ _ _) => True
  | some (.ext _) => True
  | _ => False
section
variable {P : Program} {w : World} {H : Hp} {h h' : Heap} {x e : Addr} {o' : HO}
theorem HOk.write (ok : HOk P w H h) (mu : Mut (H x)) (he : e = x ∨ H e = some (.own x)) (k : ∀ b u, b ≠ e → h.get? b = some u → h'.get? b = some u) (heo : ∃ u, h'.get? e = some u)
    (new : ObjOk P w (upd H x o') h' x o') : HOk P w (upd H x o') h' := fun b u q => by
  have nown : ∀ c y, H c = some (.own y) → c ≠ x := fun c y r z => by subst z; rw [r] at mu; exact mu
  have ntup : ∀ c xs, H c = some (.tup xs) → c ≠ x := fun c xs r z => by subst z; rw [r] at mu; exact mu
  by_cases hb : b = x
  · subst hb; rw [upd_same] at q; cases q; exact new
  · rw [upd_ne hb] at q
    by_cases hbe : b = e
    · have q' : H b = some (.own x) := by
        rcases he with z | z
        · exact absurd (hbe.trans z) hb
        · rw [hbe]; exact z
      rw [q] at q'; cases q'
      obtain ⟨v, hv⟩ := heo
      exact ⟨v, by rw [hbe]; exact hv⟩
    · refine (ok b u q).stay (fun c v hc r => k c v ?_ r) (fun c r => by rw [upd_ne (nown c b r)]; exact r) fun c xs r => by rw [upd_ne (ntup c xs r)]; exact r
      rcases hc with rfl | hc
      · exact hbe
      · rintro rfl
        rcases he with z | z
        · exact nown c b hc z
        · rw [hc] at z; cases z; exact hb rfl
end
structure Un (fs ex : List Addr) (H H' : Hp) (h h' : Heap) : Prop where
  keep : ∀ b o, h.get? b = some o → H b = none → b ∉ fs → b ∉ ex → h'.get? b = some o
  slot : ∀ b o, h.get? b = some o → H b = none → b ∈ fs → b ∉ ex → ∃ sl, h'.get? b = some { o with slots := sl }
  free : ∀ b o, h.get? b = some o → H b = none → b ∉ ex → H' b = none
  there : ∀ b o, h.get? b = some o → b ∉ ex → ∃ o', h'.get? b = some o'
  tups : ∀ b xs, H b = some (.tup xs) → H' b = some (.tup xs)
  frzs : ∀ b o u, H b = some (.frz o u) → H' b = some (.frz o u)
  tbls : ∀ b ps, H b = some (.tbl ps) → ∃ more, H' b = some (.tbl (ps ++ more))
section
variable {fs fs' ex ex' : List Addr} {H H1 H2 : Hp} {h h1 h2 h' : Heap} {a x e : Addr} {o : HO}
theorem Un.any (u : Un fs ex H H1 h h1) {b : Addr} {ob : Obj} (q : h.get? b = some ob) (n : H b = none) (hx : b ∉ ex) : ∃ sl, h1.get? b = some { ob with slots := sl } := by
  by_cases hb : b ∈ fs
  · exact u.slot b ob q n hb hx
  · exact ⟨ob.slots, u.keep b ob q n hb hx⟩
theorem Un.kept (k : ∀ b u, h.get? b = some u → h'.get? b = some u) : Un fs ex H H h h' :=
  ⟨fun b ob q _ _ _ => k b ob q, fun b ob q _ _ _ => ⟨ob.slots, k b ob q⟩, fun _ _ _ n _ => n, fun b ob q _ => ⟨ob, k b ob q⟩, fun _ _ q => q, fun _ _ _ q => q, fun _ ps q => ⟨#[], by rw [q]; simp⟩⟩
theorem Un.refl : Un fs ex H H h h := Un.kept fun _ _ q => q
theorem Un.laid (k : ∀ b u, h.get? b = some u → h'.get? b = some u) (hp : h.objs.size ≤ a) (hn : H a = none) : Un fs ex H (upd H a o) h h' where
  keep := fun b u q _ _ _ => k b u q
  slot := fun b u q _ _ _ => ⟨u.slots, k b u q⟩
  free := fun b u q n _ => by rw [upd_ne (Nat.ne_of_lt (Nat.lt_of_lt_of_le (Heap.lt_size q) hp))]; exact n
  there := fun b u q _ => ⟨u, k b u q⟩
  tups := fun b xs q => by rw [upd_ne (ne_of_none q hn)]; exact q
  frzs := fun b u xs q => by rw [upd_ne (ne_of_none q hn)]; exact q
  tbls := fun b ps q => ⟨#[], by rw [upd_ne (ne_of_none q hn), q]; simp⟩
theorem Un.write (mu : Mut (H x)) (he : e = x ∨ H e = some (.own x)) (k : ∀ b u, b ≠ e → h.get? b = some u → h'.get? b = some u) (heo : ∃ u, h'.get? e = some u) : Un fs ex H (upd H x o) h h' := by
  have hx : ∀ b, H b = none → b ≠ x := fun b n z => by subst z; rw [n] at mu; exact mu
  have hb : ∀ b, H b = none → b ≠ e := fun b n z => by
    subst z
    rcases he with r | r
    · exact hx b n r
    · rw [n] at r; cases r
  have hm : ∀ b u, H b = some u → ¬ Mut (some u) → b ≠ x := fun b u q nm z => by subst z; rw [q] at mu; exact nm mu
  refine ⟨fun b u q n _ _ => k b u (hb b n) q, fun b u q n _ _ => ⟨u.slots, k b u (hb b n) q⟩, fun b u q n _ => by rw [upd_ne (hx b n)]; exact n, fun b u q _ => ?_,
    fun b xs q => by rw [upd_ne (hm b _ q fun z => z)]; exact q, fun b u xs q => by rw [upd_ne (hm b _ q fun z => z)]; exact q, fun b ps q => ⟨#[], by rw [upd_ne (hm b _ q fun z => z), q]; simp⟩⟩
  by_cases hbe : b = e
  · subst hbe; exact heo
  · exact ⟨u, k b u hbe q⟩
end
def trk (h : Heap) (H : Hp) : List Addr := (List.range h.objs.size).filter fun a => (H a).isSome
def hidT (h : Heap) (H : Hp) : Heap := PySem.W.hideAll h (trk h H)
theorem hidT_size (h : Heap) (H : Hp) : (hidT h H).objs.size = h.objs.size := PySem.W.hideAll_size _ _
theorem hidT_get {h : Heap} {H : Hp} {b : Addr} {o : Obj} (e : h.get? b = some o) (n : H b = none) : (hidT h H).get? b = some o :=
  PySem.W.hideAll_get _ e fun hm => by
    have q : (H b).isSome = true := (List.mem_filter.mp hm).2
    rw [n] at q; simp at q
theorem of_hidT {h : Heap} {H : Hp} {b : Addr} {o : Obj} (e : (hidT h H).get? b = some o) : h.get? b = some o ∧ H b = none := by
  have e' : h.get? b = some o := PySem.W.of_hideAll (trk h H) e
  refine ⟨e', ?_⟩
  cases q : H b with
  | none => rfl
  | some x =>
    have hm : b ∈ trk h H := List.mem_filter.mpr ⟨List.mem_range.mpr (Heap.lt_size e'), by simp [q]⟩
    have z : (hidT h H).get? b = none := PySem.W.hideAll_none (trk h H) hm
    rw [z] at e; cases e
end L2
namespace L2
open PySem PySem.Spec PyProof.Rows
structure Mod (K : PySem.W.Frag) (mg : Str → Option Value) (base : Heap) : Prop where
  kin : K.In base
  glob : base.Ns mainGlobals mg
  blt : ∃ mb, base.Ns builtinsNs mb ∧ ∀ x : Str, x ≠ "__name__" → mb x = bootBuiltins x
  nolimit : base.NoLimit
structure Cx where
  prog : Program
  w : World
  K : PySem.W.Frag
  mg : Str → Option Value
  base : Heap
  A : Around
  N : List Str
  s_0 : Shared
  H_0 : Hp
  env : Env
  outer : List Env
  stack : List Env
  ex : List Addr
  fn : Str → Bool
  calm : Bool
  pn : List (Addr × Obj)
  xe : Value → Shared → Prop
def frs (l : List Env) : List Addr := l.filterMap (·.frame)
abbrev Cx.fs (X : Cx) : List Addr := frs X.outer
def Vis (sc : Scope) (x : Str) : Prop := sc.names.lookup x = some .local ∨ sc.names.lookup x = some .cell ∨ sc.names.lookup x = some .free
def Loc (sc : Scope) (x : Str) : Prop := sc.names.lookup x = some .local ∨ sc.names.lookup x = some .cell
def Look (env : Env) (h : Heap) (m : Str → Option Value) (x : Str) (u : Value) : Prop :=
  (env.kindOf x = some .local ∧ m x = some u) ∨ ((env.kindOf x = some .cell ∨ env.kindOf x = some .free) ∧ ∃ c, env.cells.lookup x = some c ∧ h.IsCell c (some u))
structure Cx.Ok (X : Cx) : Prop where
  mod : Mod X.K X.mg X.base
  kind : X.env.scope.kind = .function
  glob : X.env.globals = mainGlobals
  blt : X.env.builtins = builtinsNs
  above : X.s_0.heap.objs.size ≤ X.env.locals
  inj : ∀ x y c, X.env.cells.lookup x = some c → X.env.cells.lookup y = some c → x = y
  has : ∀ x, (X.env.kindOf x = some .cell ∨ X.env.kindOf x = some .free) → ∃ c, X.env.cells.lookup x = some c
  cab : ∀ x c, X.fn x = true → X.env.cells.lookup x = some c → X.s_0.heap.objs.size ≤ c
  hd : X.calm = true → X.A.handled = none
  frames : X.A.frames = some X.stack
  stk : X.stack = X.outer ∨ (X.stack = X.env :: X.outer ∧ X.env.frame = some X.env.locals)
  exf : ∀ b ∈ X.ex, b ≠ X.env.locals ∧ ∀ x c, X.env.cells.lookup x = some c → c ≠ b
  bs : ∀ b o, X.base.get? b = some o → X.s_0.heap.get? b = some o ∧ X.H_0 b = none
  bsz : X.base.objs.size ≤ X.s_0.heap.objs.size
  noex : ∀ b o, X.base.get? b = some o → b ∉ X.ex
  exfs : ∀ b ∈ X.ex, b ∉ X.fs
  funs : X.s_0.heap.FunFrames X.base X.outer
  frf : ∀ b ∈ X.fs, X.H_0 b = none
structure Inv (X : Cx) (pins : List (Addr × Obj)) (σ : List (Option V)) (H : Hp) (s : Shared) : Prop where
  ok : X.Ok
  os : s.os = X.s_0.os
  bare : AllBare s.gens
  base : Un X.fs X.ex X.H_0 H X.s_0.heap s.heap
  loc : ∃ m, s.heap.Ns X.env.locals m ∧ ∀ (i : Nat) (x : Str) (v : V), X.N[i]? = some x → σ[i]? = some (some v) → Vis X.env.scope x → ∃ u, RelV v u ∧ Look X.env s.heap m x u
  cell : ∀ x c, X.env.cells.lookup x = some c → ∃ v, s.heap.IsCell c v
  free : H X.env.locals = none
  freeC : ∀ x c, X.env.cells.lookup x = some c → H c = none
  pin : ∀ p ∈ X.pn ++ pins, s.heap.get? p.1 = some p.2 ∧ H p.1 = none ∧ p.1 ≠ X.env.locals ∧ p.1 ∉ X.fs ∧ ∀ v, p.2.data ≠ .cell v
  hok : HOk X.prog X.w H s.heap
  len : σ.length = X.N.length
section
variable {X : Cx} {pins : List (Addr × Obj)} {σ : List (Option V)} {H H' : Hp} {s : Shared} {h' : Heap}
theorem Cx.Ok.nofr (ok : X.Ok) {b : Addr} {o : Obj} (e : X.base.get? b = some o) : b ∉ X.fs := fun hb => by
  have := (ok.funs.mem hb).1
  rw [e] at this; cases this
theorem Inv.bs (I : Inv X pins σ H s) : ∀ b o, X.base.get? b = some o → s.heap.get? b = some o ∧ H b = none := fun b o e =>
  ⟨I.base.keep b o (I.ok.bs b o e).1 (I.ok.bs b o e).2 (I.ok.nofr e) (I.ok.noex b o e), I.base.free b o (I.ok.bs b o e).1 (I.ok.bs b o e).2 (I.ok.noex b o e)⟩
theorem Inv.bk (I : Inv X pins σ H s) : ∀ b o, X.base.get? b = some o → s.heap.get? b = some o := fun b o e => (I.bs b o e).1
theorem Inv.mod (I : Inv X pins σ H s) : Mod X.K X.mg X.base := I.ok.mod
theorem Inv.kIn (I : Inv X pins σ H s) : X.K.In s.heap := I.ok.mod.kin.keeps I.bk
theorem Inv.lt (I : Inv X pins σ H s) : X.env.locals < s.heap.objs.size := let ⟨_, hn, _⟩ := I.loc; hn.lt
theorem Inv.sz (I : Inv X pins σ H s) : X.s_0.heap.objs.size ≤ s.heap.objs.size := Nat.le_trans I.ok.above (Nat.le_of_lt I.lt)
theorem Inv.nofs (I : Inv X pins σ H s) {a : Addr} (h : s.heap.objs.size ≤ a) : a ∉ X.fs := fun hb => by
  obtain ⟨_, o, ho, _⟩ := I.ok.funs.mem hb
  exact absurd (Nat.lt_of_lt_of_le (Heap.lt_size ho) (Nat.le_trans I.sz h)) (Nat.lt_irrefl _)
theorem Inv.cne (I : Inv X pins σ H s) : ∀ x c, X.env.cells.lookup x = some c → c ≠ X.env.locals := fun x c e z => by
  obtain ⟨v, o, ho, hd⟩ := I.cell x c e
  obtain ⟨m, ⟨o', es, ep, ho', hd', _⟩, _⟩ := I.loc
  rw [z, ho'] at ho; cases ho; rw [hd'] at hd; cases hd
theorem Inv.funs (I : Inv X pins σ H s) : s.heap.FunFrames X.base X.outer := by
  have all : ∀ (l : List Env), (∀ b ∈ frs l, b ∈ X.fs) → X.s_0.heap.FunFrames X.base l → s.heap.FunFrames X.base l := by
    intro l
    induction l with
    | nil => intro _ _; trivial
    | cons env r ih =>
      intro hs hl
      obtain ⟨hk, ⟨L, o, hf, hn, ho, hd⟩, hr⟩ := hl
      have hL : L ∈ X.fs := hs L (by unfold frs; rw [List.filterMap_cons, hf]; exact List.mem_cons_self)
      obtain ⟨sl, e⟩ := I.base.slot L o ho (I.ok.frf L hL) hL fun z => I.ok.exfs L z hL
      exact ⟨hk, ⟨L, _, hf, hn, e, hd⟩, ih (fun b hb => hs b (by unfold frs; rw [List.filterMap_cons, hf]; exact List.mem_cons_of_mem _ hb)) hr⟩
  exact all X.outer (fun _ hb => hb) I.ok.funs
theorem Inv.stack (I : Inv X pins σ H s) : s.heap.FunFrames X.base X.stack := by
  rcases I.ok.stk with e | ⟨e, hf⟩
  · rw [e]; exact I.funs
  · rw [e]
    obtain ⟨m, hn, _⟩ := I.loc
    refine .cons (by rw [I.ok.kind]; decide) hf hn ?_ I.funs
    exact Heap.get?_none_of_le (Nat.le_trans I.ok.bsz I.ok.above)
theorem Inv.stkSub (I : Inv X pins σ H s) : ∀ b ∈ frs X.stack, b ∈ X.env.locals :: X.fs := fun b hb => by
  rcases I.ok.stk with e | ⟨e, hf⟩
  · rw [e] at hb; exact List.mem_cons_of_mem _ hb
  · rw [e] at hb
    unfold frs at hb
    rw [List.filterMap_cons, hf] at hb
    exact hb
theorem Inv.stkFree (I : Inv X pins σ H s) : ∀ b ∈ frs X.stack, H b = none := fun b hb => by
  rcases List.mem_cons.mp (I.stkSub b hb) with e | hb
  · rw [e]; exact I.free
  · obtain ⟨_, o, ho, _⟩ := I.ok.funs.mem hb
    exact I.base.free b o ho (I.ok.frf b hb) fun z => I.ok.exfs b z hb
theorem Inv.step {g' : Array GenState} {t' : Nat} {d' : Drawn} {ch : List Addr} (I : Inv X pins σ H s)
    (hch : ∀ b ∈ ch, (b ∈ X.ex ∨ X.s_0.heap.objs.size ≤ b) ∧ b ≠ X.env.locals ∧ (∀ x c, X.env.cells.lookup x = some c → c ≠ b) ∧ ∀ p ∈ X.pn ++ pins, p.1 ≠ b)
    (keep : ∀ b o, b ≠ X.env.locals → b ∉ X.fs → b ∉ ch → s.heap.get? b = some o → H b = none → h'.get? b = some o)
    (slot : ∀ b o, b ≠ X.env.locals → b ∈ X.fs → b ∉ ch → s.heap.get? b = some o → H b = none → ∃ sl, h'.get? b = some { o with slots := sl }) (free : ∀ b o, b ∉ ch → s.heap.get? b = some o → H b = none → H' b = none)
    (there : ∀ b o, b ∉ ch → s.heap.get? b = some o → ∃ o', h'.get? b = some o')
    (tups : ∀ b xs, H b = some (.tup xs) → H' b = some (.tup xs)) (frzs : ∀ b o u, H b = some (.frz o u) → H' b = some (.frz o u)) (tbls : ∀ b ps, H b = some (.tbl ps) → ∃ more, H' b = some (.tbl (ps ++ more)))
    (ns : ∀ m, s.heap.Ns X.env.locals m → h'.Ns X.env.locals m) (hok : HOk X.prog X.w H' h') (hg : AllBare g') :
    Inv X pins σ H' { s with heap := h', gens := g', drawn := d', toks := t' } := by
  have neL : ∀ b o, X.s_0.heap.get? b = some o → b ≠ X.env.locals := fun b o e => Nat.ne_of_lt (Nat.lt_of_lt_of_le (Heap.lt_size e) I.ok.above)
  have neC : ∀ b o, X.s_0.heap.get? b = some o → b ∉ X.ex → b ∉ ch := fun b o e hx hb => by
    rcases (hch b hb).1 with z | z
    · exact hx z
    · exact absurd (Nat.lt_of_lt_of_le (Heap.lt_size e) z) (Nat.lt_irrefl _)
  have cellK : ∀ x c, X.env.cells.lookup x = some c → ∀ v, s.heap.IsCell c v → h'.IsCell c v := fun x c e v ⟨o, ho, hd⟩ => by
    have nch : c ∉ ch := fun z => (hch c z).2.2.1 x c e rfl
    by_cases hc : c ∈ X.fs
    · obtain ⟨sl, q⟩ := slot c o (I.cne x c e) hc nch ho (I.freeC x c e)
      exact ⟨_, q, hd⟩
    · exact ⟨o, keep c o (I.cne x c e) hc nch ho (I.freeC x c e), hd⟩
  refine ⟨I.ok, I.os, hg, ⟨fun b o e n hb hx => ?_, fun b o e n hb hx => ?_, fun b o e n hx => ?_, fun b o e hx => ?_, fun b xs e => tups b xs (I.base.tups b xs e), fun b o xs e => frzs b o xs (I.base.frzs b o xs e), fun b ps e => ?_⟩, ?_, fun x c e => ?_, ?_, fun x c e => ?_, fun p hp => ?_, hok, I.len⟩
  · exact keep b o (neL b o e) hb (neC b o e hx) (I.base.keep b o e n hb hx) (I.base.free b o e n hx)
  · obtain ⟨sl, e1⟩ := I.base.slot b o e n hb hx
    obtain ⟨sl', e2⟩ := slot b _ (neL b o e) hb (neC b o e hx) e1 (I.base.free b o e n hx)
    exact ⟨sl', e2⟩
  · obtain ⟨o', e1⟩ := I.base.there b o e hx
    exact free b o' (neC b o e hx) e1 (I.base.free b o e n hx)
  · obtain ⟨o', e1⟩ := I.base.there b o e hx
    exact there b o' (neC b o e hx) e1
  · obtain ⟨m1, e1⟩ := I.base.tbls b ps e
    obtain ⟨m2, e2⟩ := tbls b _ e1
    exact ⟨m1 ++ m2, by rw [e2, Array.append_assoc]⟩
  · obtain ⟨m, hn, hl⟩ := I.loc
    refine ⟨m, ns m hn, fun i x v e1 e2 e3 => ?_⟩
    obtain ⟨u, r, l⟩ := hl i x v e1 e2 e3
    refine ⟨u, r, ?_⟩
    rcases l with l | ⟨k, c, e, z⟩
    · exact .inl l
    · exact .inr ⟨k, c, e, cellK x c e _ z⟩
  · obtain ⟨v, z⟩ := I.cell x c e
    exact ⟨v, cellK x c e v z⟩
  · obtain ⟨m, ⟨o, _, _, ho, _⟩, _⟩ := I.loc
    exact free _ o (fun z => (hch _ z).2.1 rfl) ho I.free
  · obtain ⟨v, o, ho, hd⟩ := I.cell x c e
    exact free c o (fun z => (hch c z).2.2.1 x c e rfl) ho (I.freeC x c e)
  · obtain ⟨e, n, ne, nf, d⟩ := I.pin p hp
    have nch : p.1 ∉ ch := fun z => (hch p.1 z).2.2.2 p hp rfl
    exact ⟨keep p.1 p.2 ne nf nch e n, free p.1 p.2 nch e n, ne, nf, d⟩
theorem Inv.un {t' : Nat} (I : Inv X pins σ H s) (u : Un X.fs [] H H' s.heap h') (hok : HOk X.prog X.w H' h') : Inv X pins σ H' { s with heap := h', toks := t' } := by
  obtain ⟨m, ⟨o, es, ep, ho, r⟩, _⟩ := id I.loc
  obtain ⟨sl, hL⟩ := u.any ho I.free (by simp)
  exact I.step (g' := s.gens) (d' := s.drawn) (ch := []) (fun _ z => nomatch z) (fun b o _ hb _ e n => u.keep b o e n hb (by simp)) (fun b o _ hb _ e n => u.slot b o e n hb (by simp)) (fun b o _ e n => u.free b o e n (by simp)) (fun b o _ e => u.there b o e (by simp)) u.tups u.frzs u.tbls (fun m' hm => by
    obtain ⟨o', es', ep', ho', r'⟩ := hm
    rw [ho] at ho'; cases ho'
    exact ⟨_, es', ep', hL, r'⟩) hok I.bare
theorem Inv.call {g' : Array GenState} {t' : Nat} {d' : Drawn} {ch : List Addr} (I : Inv X pins σ H s) (u : Un (frs X.stack) ch H H' s.heap h') (hok : HOk X.prog X.w H' h') (hg : AllBare g')
    (hch : ∀ b ∈ ch, (b ∈ X.ex ∨ X.s_0.heap.objs.size ≤ b) ∧ b ≠ X.env.locals ∧ (∀ x c, X.env.cells.lookup x = some c → c ≠ b) ∧ ∀ p ∈ X.pn ++ pins, p.1 ≠ b) :
    Inv X pins σ H' { s with heap := h', gens := g', drawn := d', toks := t' } := by
  obtain ⟨m, ⟨o, es, ep, ho, r⟩, _⟩ := id I.loc
  obtain ⟨sl, hL⟩ := u.any ho I.free fun z => (hch _ z).2.1 rfl
  exact I.step (ch := ch) hch (fun b o hL hb hc e n => u.keep b o e n (fun z => (List.mem_cons.mp (I.stkSub b z)).elim hL hb) hc) (fun b o _ _ hc e n => u.any e n hc) (fun b o hc e n => u.free b o e n hc) (fun b o hc e => u.there b o e hc) u.tups u.frzs u.tbls (fun m' hm => by
    obtain ⟨o', es', ep', ho', r'⟩ := hm
    rw [ho] at ho'; cases ho'
    exact ⟨_, es', ep', hL, r'⟩) hok hg
theorem Inv.turned {t' : Nat} {it : Addr} (I : Inv X pins σ H s) (k : ∀ b o, b ≠ it → s.heap.get? b = some o → h'.get? b = some o) (hn : H it = none) (hL : it ≠ X.env.locals)
    (h1 : it ∈ X.ex ∨ X.s_0.heap.objs.size ≤ it) (h2 : ∀ x c, X.env.cells.lookup x = some c → c ≠ it) (h3 : ∀ p ∈ X.pn ++ pins, p.1 ≠ it) : Inv X pins σ H { s with heap := h', toks := t' } := by
  have nit : ∀ b u, H b = some u → b ≠ it := fun b u e z => by rw [z, hn] at e; cases e
  refine I.step (g' := s.gens) (d' := s.drawn) (ch := [it]) (fun b hb => ?_) (fun b o _ _ hc e _ => k b o (fun z => hc (by simp [z])) e) (fun b o _ _ hc e _ => ⟨o.slots, k b o (fun z => hc (by simp [z])) e⟩) (fun _ _ _ _ n => n)
    (fun b o hc e => ⟨o, k b o (fun z => hc (by simp [z])) e⟩) (fun _ _ e => e) (fun _ _ _ e => e) (fun b ps e => ⟨#[], by rw [e]; simp⟩) (fun m hm => ?_) (fun b u e => ?_) I.bare
  · have e : b = it := by simpa using hb
    subst e
    exact ⟨h1, hL, h2, h3⟩
  · obtain ⟨o, es, ep, ho, r⟩ := hm
    exact ⟨o, es, ep, k _ o (Ne.symm hL) ho, r⟩
  · refine (I.hok b u e).stay (fun c v hc q => k c v ?_ q) (fun _ q => q) fun _ _ q => q
    rcases hc with z | z
    · rw [z]; exact nit b u e
    · exact nit c _ z
theorem Inv.tok (I : Inv X pins σ H s) (t : Nat) : Inv X pins σ H { s with toks := t } := I.un (h' := s.heap) (t' := t) Un.refl I.hok
theorem Inv.kept {t' : Nat} (I : Inv X pins σ H s) (k : ∀ b u, s.heap.get? b = some u → h'.get? b = some u) : Inv X pins σ H { s with heap := h', toks := t' } := I.un (Un.kept k) (I.hok.kept k)
theorem Inv.laid {a : Addr} {o : HO} {t' : Nat} (I : Inv X pins σ H s) (k : ∀ b u, s.heap.get? b = some u → h'.get? b = some u) (hp : s.heap.objs.size ≤ a) (new : ObjOk X.prog X.w (upd H a o) h' a o) :
    Inv X pins σ (upd H a o) { s with heap := h', toks := t' } := I.un (Un.laid k hp (I.hok.fresh hp)) (I.hok.laid k hp new)
theorem Inv.write {x e : Addr} {o : HO} {t' : Nat} (I : Inv X pins σ H s) (mu : Mut (H x)) (he : e = x ∨ H e = some (.own x)) (k : ∀ b u, b ≠ e → s.heap.get? b = some u → h'.get? b = some u) (heo : ∃ u, h'.get? e = some u)
    (new : ObjOk X.prog X.w (upd H x o) h' x o) : Inv X pins σ (upd H x o) { s with heap := h', toks := t' } := I.un (Un.write mu he k heo) (I.hok.write mu he k heo new)
theorem Inv.weak {σ' : List (Option V)} (I : Inv X pins σ H s) (hl : σ'.length = σ.length) (w : ∀ (i : Nat) v, σ'[i]? = some (some v) → σ[i]? = some (some v)) : Inv X pins σ' H s :=
  ⟨I.ok, I.os, I.bare, I.base, let ⟨m, hn, hl'⟩ := I.loc; ⟨m, hn, fun i x v e1 e2 e3 => hl' i x v e1 (w i v e2) e3⟩, I.cell, I.free, I.freeC, I.pin, I.hok, hl.trans I.len⟩
theorem Inv.pins_of {pins' : List (Addr × Obj)} (I : Inv X pins σ H s) (h : ∀ p ∈ pins', s.heap.get? p.1 = some p.2 ∧ H p.1 = none ∧ p.1 ≠ X.env.locals ∧ p.1 ∉ X.fs ∧ ∀ v, p.2.data ≠ .cell v) : Inv X pins' σ H s :=
  ⟨I.ok, I.os, I.bare, I.base, I.loc, I.cell, I.free, I.freeC, fun p hp => (List.mem_append.mp hp).elim (fun z => I.pin p (List.mem_append_left _ z)) (h p), I.hok, I.len⟩
theorem nodup_ix {N : List Str} (hN : N.Nodup) {i j : Nat} {x : Str} (a : N[i]? = some x) (b : N[j]? = some x) : i = j := by
  obtain ⟨h1, e1⟩ := List.getElem?_eq_some_iff.mp a
  obtain ⟨h2, e2⟩ := List.getElem?_eq_some_iff.mp b
  exact (List.getElem_inj hN).mp (e1.trans e2.symm)
theorem store_ok2 {M : Model} {A : Around} {E : Value → Shared → Prop} {i : Nat} {x : Str} {v : V} {u : Value} {Q : Unit → Shared → Prop} (I : Inv X pins σ H s) (hN : X.N.Nodup) (hi : X.N[i]? = some x) (hx : Loc X.env.scope x) (r : RelV v u)
    (h : ∀ s', Inv X pins (σ.set i (some v)) H s' → (∃ a, Heap.SameBut a s.heap s'.heap ∧ (a = X.env.locals ∨ X.env.cells.lookup x = some a)) → Q () s') (hf : X.fn x = true ∨ X.env.scope.names.lookup x = some .local := by first | exact .inl rfl | exact .inr rfl | assumption) : wpAny M A (storeName X.env x u) Q E s := by
  obtain ⟨m, hn, hl⟩ := id I.loc
  have hcls : (X.env.scope.kind == .class || (X.env.scope.kind == .module && X.env.locals != X.env.globals)) = false := by rw [I.ok.kind]; rfl
  have hiσ : i < σ.length := by rw [I.len]; exact (List.getElem?_eq_some_iff.mp hi).1
  have cne := I.cne
  have tracked : ∀ {a : Addr} {h' : Heap}, (∃ o, s.heap.get? a = some o ∧ H a = none) → Heap.SameBut a s.heap h' → HOk X.prog X.w H h' := fun {a h'} ha hs b ob e => by
    obtain ⟨_, _, hfree⟩ := ha
    refine (I.hok b ob e).stay (fun c w' hc q => (hs.2 c ?_).trans q) (fun _ q => q) fun _ _ q => q
    rintro rfl
    rcases hc with rfl | hc
    · rw [hfree] at e; cases e
    · rw [hfree] at hc; cases hc
  rcases hx with hk | hk
  · refine wpAny_storeName_local hk hn (fun h' hn' hs => ?_) hcls
    obtain ⟨oL, _, _, hoL, _⟩ := id hn
    refine h _ ⟨I.ok, I.os, I.bare, ⟨fun b o e n hb hx => ?_, fun b o e n hb hx => ?_, I.base.free, fun b o e hx => ?_, I.base.tups, I.base.frzs, I.base.tbls⟩, ⟨_, hn', fun j y v' e1 e2 e3 => ?_⟩, fun y c e => ?_, I.free, I.freeC, fun p hp => ?_, tracked ⟨oL, hoL, I.free⟩ hs, by simpa using I.len⟩ ⟨_, hs, .inl rfl⟩
    · exact (hs.2 b (Nat.ne_of_lt (Nat.lt_of_lt_of_le (Heap.lt_size e) I.ok.above))).trans (I.base.keep b o e n hb hx)
    · obtain ⟨sl, e1⟩ := I.base.slot b o e n hb hx
      exact ⟨sl, (hs.2 b (Nat.ne_of_lt (Nat.lt_of_lt_of_le (Heap.lt_size e) I.ok.above))).trans e1⟩
    · obtain ⟨o', e1⟩ := I.base.there b o e hx
      exact ⟨o', (hs.2 b (Nat.ne_of_lt (Nat.lt_of_lt_of_le (Heap.lt_size e) I.ok.above))).trans e1⟩
    · by_cases hj : j = i
      · subst hj
        rw [hi] at e1; cases e1
        rw [List.getElem?_set_self hiσ] at e2
        cases e2
        exact ⟨u, r, .inl ⟨hk, by simp⟩⟩
      · rw [List.getElem?_set_ne (Ne.symm hj)] at e2
        obtain ⟨u', r', q⟩ := hl j y v' e1 e2 e3
        refine ⟨u', r', ?_⟩
        rcases q with ⟨k, e⟩ | ⟨k, c, e, z⟩
        · refine .inl ⟨k, ?_⟩
          have : y ≠ x := fun e => hj (nodup_ix hN e1 (e ▸ hi))
          simp [this, e]
        · exact .inr ⟨k, c, e, z.sameBut hs (cne y c e)⟩
    · obtain ⟨w', z⟩ := I.cell y c e
      exact ⟨w', z.sameBut hs (cne y c e)⟩
    · obtain ⟨e, n, ne, nf, d⟩ := I.pin p hp
      exact ⟨(hs.2 p.1 ne).trans e, n, ne, nf, d⟩
  · have hfn : X.fn x = true := by
      rcases hf with z | z
      · exact z
      · rw [z] at hk; cases hk
    obtain ⟨c, hc⟩ := I.ok.has x (.inl hk)
    obtain ⟨w', z⟩ := I.cell x c hc
    refine wpAny_storeName_cell I.ok.kind hk hc z (fun h' hc' hs => ?_)
    obtain ⟨oc, hoc, hocd⟩ := id z
    refine h { s with heap := h' } ⟨I.ok, I.os, I.bare, ⟨fun b o e n hb hx => ?_, fun b o e n hb hx => ?_, I.base.free, fun b o e hx => ?_, I.base.tups, I.base.frzs, I.base.tbls⟩, ⟨m, hn.sameBut hs (Ne.symm (cne x c hc)), fun j y v' e1 e2 e3 => ?_⟩, fun y c' e => ?_, I.free, I.freeC, fun p hp => ?_, tracked ⟨oc, hoc, I.freeC x c hc⟩ hs, by simpa using I.len⟩ ⟨c, hs, .inr hc⟩
    · exact (hs.2 b (Nat.ne_of_lt (Nat.lt_of_lt_of_le (Heap.lt_size e) (I.ok.cab x c hfn hc)))).trans (I.base.keep b o e n hb hx)
    · obtain ⟨sl, e1⟩ := I.base.slot b o e n hb hx
      exact ⟨sl, (hs.2 b (Nat.ne_of_lt (Nat.lt_of_lt_of_le (Heap.lt_size e) (I.ok.cab x c hfn hc)))).trans e1⟩
    · obtain ⟨o', e1⟩ := I.base.there b o e hx
      exact ⟨o', (hs.2 b (Nat.ne_of_lt (Nat.lt_of_lt_of_le (Heap.lt_size e) (I.ok.cab x c hfn hc)))).trans e1⟩
    · by_cases hj : j = i
      · subst hj
        rw [hi] at e1; cases e1
        rw [List.getElem?_set_self hiσ] at e2
        cases e2
        exact ⟨u, r, .inr ⟨.inl hk, c, hc, hc'⟩⟩
      · rw [List.getElem?_set_ne (Ne.symm hj)] at e2
        obtain ⟨u', r', q⟩ := hl j y v' e1 e2 e3
        refine ⟨u', r', ?_⟩
        rcases q with q | ⟨k, c', e, z'⟩
        · exact .inl q
        · refine .inr ⟨k, c', e, z'.sameBut hs ?_⟩
          rintro rfl
          exact hj (nodup_ix hN e1 (I.ok.inj _ _ _ e hc ▸ hi))
    · by_cases hcc : c' = c
      · subst hcc; exact ⟨_, hc'⟩
      · obtain ⟨w2, z2⟩ := I.cell y c' e
        exact ⟨w2, z2.sameBut hs hcc⟩
    · obtain ⟨e, n, ne, nf, d⟩ := I.pin p hp
      refine ⟨(hs.2 p.1 ?_).trans e, n, ne, nf, d⟩
      intro q
      rw [q, hoc] at e
      have q' : oc = p.2 := Option.some.inj e
      exact d w' (by rw [← q']; exact hocd)
theorem store_ok {M : Model} {A : Around} {E : Value → Shared → Prop} {i : Nat} {x : Str} {v : V} {u : Value} {Q : Unit → Shared → Prop} (I : Inv X pins σ H s) (hN : X.N.Nodup) (hi : X.N[i]? = some x) (hx : Loc X.env.scope x) (r : RelV v u)
    (h : ∀ s', Inv X pins (σ.set i (some v)) H s' → Q () s') (hf : X.fn x = true ∨ X.env.scope.names.lookup x = some .local := by first | exact .inl rfl | exact .inr rfl | assumption) : wpAny M A (storeName X.env x u) Q E s :=
  store_ok2 I hN hi hx r (fun s' I' _ => h s' I') hf
theorem Inv.call' {s' : Shared} {ch : List Addr} (I : Inv X pins σ H s) (ho : s'.os = s.os) (u : Un (frs X.stack) ch H H' s.heap s'.heap) (hok : HOk X.prog X.w H' s'.heap) (hg : AllBare s'.gens)
    (hch : ∀ b ∈ ch, (b ∈ X.ex ∨ X.s_0.heap.objs.size ≤ b) ∧ b ≠ X.env.locals ∧ (∀ x c, X.env.cells.lookup x = some c → c ≠ b) ∧ ∀ p ∈ X.pn ++ pins, p.1 ≠ b) : Inv X pins σ H' s' := by
  obtain ⟨h', g', d', t', o'⟩ := s'
  have e : o' = s.os := ho
  subst e
  exact I.call (g' := g') (t' := t') (d' := d') u hok hg hch
end
abbrev XK := Value → Option Addr → Hp → Prop
abbrev St := List (Option V)
abbrev VK := V → Hp → Prop
abbrev TE := St → Hp → VK → Prop
abbrev TT := St → Hp → (Bool → Hp → Prop) → Prop
abbrev TA := St → Hp → (List V → Hp → Prop) → Prop
structure Ends where
  nx : St → Hp → Prop
  rt : VK
  bk : St → Hp → Prop := fun _ _ => False
  ct : St → Hp → Prop := fun _ _ => False
abbrev TS := Ends → St → Hp → Prop
def EP (X : Cx) (pins : List (Addr × Obj)) (σ : St) (Q : VK) (u : Value) (s' : Shared) : Prop := ∃ v H', Inv X pins σ H' s' ∧ RelV v u ∧ Q v H'
def TP (X : Cx) (pins : List (Addr × Obj)) (σ : St) (Q : Bool → Hp → Prop) (b : Bool) (s' : Shared) : Prop := ∃ H', Inv X pins σ H' s' ∧ Q b H'
def AP (X : Cx) (pins : List (Addr × Obj)) (σ : St) (Q : List V → Hp → Prop) (us : List Value) (s' : Shared) : Prop := ∃ vs H', Inv X pins σ H' s' ∧ Vals vs us ∧ Q vs H'
def SP (X : Cx) (pins : List (Addr × Obj)) (D : Ends) (f : Flow) (s' : Shared) : Prop :=
  match f with
  | .next => ∃ σ' H', Inv X pins σ' H' s' ∧ D.nx σ' H'
  | .brk => ∃ σ' H', Inv X pins σ' H' s' ∧ D.bk σ' H'
  | .cont => ∃ σ' H', Inv X pins σ' H' s' ∧ D.ct σ' H'
  | .ret u => ∃ v σ' H', Inv X pins σ' H' s' ∧ RelV v u ∧ D.rt v H'
def PE (X : Cx) (e : Expr) (t : TE) : Prop :=
  ∀ (pins : List (Addr × Obj)) (s : Shared) (σ : St) (H : Hp) (Q : VK), Inv X pins σ H s → t σ H Q → wpAny (model X.prog X.w) X.A (eval e X.env) (EP X pins σ Q) X.xe s
def PT (X : Cx) (e : Expr) (t : TT) : Prop :=
  ∀ (pins : List (Addr × Obj)) (s : Shared) (σ : St) (H : Hp) (Q : Bool → Hp → Prop), Inv X pins σ H s → t σ H Q → wpAny (model X.prog X.w) X.A (isTrue e X.env (eval e X.env)) (TP X pins σ Q) X.xe s
def PW (X : Cx) (e : Expr) (t : TT) : Prop :=
  ∀ (whole : Sem Value) (pins : List (Addr × Obj)) (s : Shared) (σ : St) (H : Hp) (Q : Bool → Hp → Prop), Inv X pins σ H s → t σ H Q → wpAny (model X.prog X.w) X.A (isTrue e X.env whole) (TP X pins σ Q) X.xe s
theorem PW.pt {X : Cx} {e : Expr} {t : TT} (h : PW X e t) : PT X e t := h _
def PA (X : Cx) (es : List Expr) (t : TA) : Prop :=
  ∀ (pos : Pos) (pins : List (Addr × Obj)) (s : Shared) (σ : St) (H : Hp) (Q : List V → Hp → Prop), Inv X pins σ H s → t σ H Q → wpAny (model X.prog X.w) X.A (spliced (backTo pos (starEach es X.env))) (AP X pins σ Q) X.xe s
def PS (X : Cx) (st : Stmt) (t : TS) : Prop :=
  ∀ (pins : List (Addr × Obj)) (s : Shared) (σ : St) (H : Hp) (D : Ends), Inv X pins σ H s → t D σ H → wpAny (model X.prog X.w) X.A (exec st X.env) (SP X pins D) X.xe s
def PSs (X : Cx) (st : List Stmt) (t : TS) : Prop :=
  ∀ (pins : List (Addr × Obj)) (s : Shared) (σ : St) (H : Hp) (D : Ends), Inv X pins σ H s → t D σ H → wpAny (model X.prog X.w) X.A (execs st X.env) (SP X pins D) X.xe s
theorem thn {α : Type} {t : Sem α} {Q Q' : α → Shared → Prop} {M : Model} {A : Around} {E : Value → Shared → Prop} {s : Shared} (h : wpAny M A t Q E s) (hQ : ∀ a s, Q a s → Q' a s) : wpAny M A t Q' E s := wpAny_mono h hQ fun _ _ x => x
end L2
namespace L2
open PySem PySem.Spec PyProof.Rows
section
variable {X : Cx}
def tVar (i : Nat) : TE := fun σ H Q => ∃ v, σ[i]? = some (some v) ∧ Q v H
def tC (v : V) : TE := fun _ H Q => Q v H
theorem pe_var {i : Nat} {x : Str} {pos : Pos} (hN : X.N[i]? = some x) (hv : Vis X.env.scope x) (hd : (x == ("__debug__" : Str)) = false := by decide) (hcd : (x == ("__classdict__" : Str)) = false := by decide) : PE X (.Name x pos) (tVar i) := by
  intro pins s σ H Q I h
  obtain ⟨v, e, h⟩ := h
  obtain ⟨m, hn, hl⟩ := I.loc
  obtain ⟨u, r, l⟩ := hl i x v hN e hv
  have fin : EP X pins σ Q u s := ⟨v, H, I, r, h⟩
  rcases l with ⟨hk, hm⟩ | ⟨hk, c, hc, hcell⟩
  · exact wpAny_Name (wpAny_loadName_local I.ok.kind hk hn hm fin) hd
  · rcases hk with hk | hk
    · exact wpAny_Name (wpAny_loadName_cell I.ok.kind hk hc hcell fin) hd
    · exact wpAny_Name (wpAny_loadName_free I.ok.kind hk hc hcell fin hcd) hd
theorem pe_int {i j pos} : PE X (.Constant (.int i) j pos) (tC (.int i)) := fun _ _ _ H _ I h => wpAny_Constant_int ⟨.int i, H, I.tok _, ⟨_, rfl⟩, h⟩
theorem pe_bl {b j pos} : PE X (.Constant (.bool b) j pos) (tC (.bl b)) := fun _ _ _ H _ I h => Constant_bool ⟨.bl b, H, I, rfl, h⟩
theorem pe_non {j pos} : PE X (.Constant .none j pos) (tC .non) := fun _ _ _ H _ I h => Constant_none ⟨.non, H, I, rfl, h⟩
def Gl (X : Cx) (x : Str) : Prop := X.env.kindOf x = some .globalImplicit
theorem ld_glob {E : Value → Shared → Prop} {pins : List (Addr × Obj)} {s : Shared} {σ : St} {H : Hp} {x : Str} {u : Value} {pos : Pos} {Q : Value → Shared → Prop} (I : Inv X pins σ H s) (hg : Gl X x) (hm : X.mg x = some u) (h : Q u s)
    (hd : (x == ("__debug__" : Str)) = false := by decide) : wpAny (model X.prog X.w) X.A (eval (.Name x pos) X.env) Q E s :=
  Calls.Name_function_global I.ok.kind hg (Calls.loadGlobal_global (by rw [I.ok.glob]; exact I.mod.glob.keeps I.bk) hm h) hd
theorem ld_blt {E : Value → Shared → Prop} {pins : List (Addr × Obj)} {s : Shared} {σ : St} {H : Hp} {x : Str} {u : Value} {pos : Pos} {Q : Value → Shared → Prop} (I : Inv X pins σ H s) (hg : Gl X x) (hm : X.mg x = none) (hv : bootBuiltins x = some u) (h : Q u s)
    (hn : x ≠ "__name__" := by decide) (hd : (x == ("__debug__" : Str)) = false := by decide) : wpAny (model X.prog X.w) X.A (eval (.Name x pos) X.env) Q E s := by
  obtain ⟨mb, h1, h2⟩ := I.mod.blt
  exact Calls.Name_function_global I.ok.kind hg (Calls.loadGlobal_builtin (by rw [I.ok.glob]; exact I.mod.glob.keeps I.bk) hm (by rw [I.ok.blt]; exact h1.keeps I.bk) ((h2 x hn).trans hv) h) hd
theorem pe_glob {x : Str} {v : V} {u : Value} {pos : Pos} (hg : Gl X x) (hm : X.mg x = some u) (r : RelV v u) (hd : (x == ("__debug__" : Str)) = false := by decide) : PE X (.Name x pos) (tC v) :=
  fun _ _ _ H _ I h => ld_glob I hg hm ⟨v, H, I, r, h⟩ hd
variable {a b : Expr} {ta tb : TE} {pos : Pos}
def PC (X : Cx) (op : CmpOp) (a b : Expr) (t : TE) : Prop :=
  ∀ (pins : List (Addr × Obj)) (s : Shared) (σ : St) (H : Hp) (Q : VK), Inv X pins σ H s → t σ H Q →
    wpAny (model X.prog X.w) X.A (eval a X.env) (fun v s₁ => wpAny (model X.prog X.w) X.A (eval b X.env) (fun u s₂ => wpAny (model X.prog X.w) X.A (compareOp op v u) (EP X pins σ Q) X.xe s₂) X.xe s₁) X.xe s
def tB (t : TE) : TT := fun σ H Q => t σ H fun x H1 => ∃ c, x = .bl c ∧ Q c H1
theorem pe_cmp {op : CmpOp} {t : TE} (h : PC X op a b t) (h1 : behindInMarks op b = false := by first | exact nobehind _ (by decide) (by decide) | rfl) : PE X (.Compare a [op] [b] pos) t := fun pins s σ H Q I hw => wpAny_Compare1 (h pins s σ H Q I hw) h1
theorem pt_cmp {op : CmpOp} {t : TE} (h : PC X op a b t) (h1 : behindInMarks op b = false := by first | exact nobehind _ (by decide) (by decide) | rfl) : PT X (.Compare a [op] [b] pos) (tB t) := by
  intro pins s σ H Q I hw
  refine wpAny_isTrue_Compare1 (thn (h pins s σ H _ I hw) fun v s1 h1 => thn h1 fun u s2 h2 => thn h2 fun c s3 ⟨x, H1, I1, r1, q1⟩ => ?_) h1
  obtain ⟨d, rfl, q⟩ := q1
  cases r1
  exact wpAny_truthy_bool ⟨H1, I1, q⟩
theorem pt_val {e : Expr} {t : TE} (h : PE X e t) (he : ∀ whole, isTrue e X.env whole = (do let v ← whole; standAt e.pos; holding [v] (truthy v)) := by intro _; rfl) : PT X e (tB t) := by
  intro pins s σ H Q I hw
  refine isTrue_plain (thn (h pins s σ H _ I hw) fun v s1 ⟨x, H1, I1, r1, q1⟩ => ?_) (he _)
  obtain ⟨d, rfl, q⟩ := q1
  cases r1
  exact wpAny_truthy_bool ⟨H1, I1, q⟩
variable {tA tB' : TT} {rest : List Expr}
def tAnd (t u : TT) : TT := fun σ H Q => t σ H fun c H1 => if c = true then u σ H1 Q else Q false H1
def tOr (t u : TT) : TT := fun σ H Q => t σ H fun c H1 => if c = true then Q true H1 else u σ H1 Q
def tNot (t : TT) : TT := fun σ H Q => t σ H fun c H1 => Q (!c) H1
theorem pw_and1 (ha : PT X a tA) : PW X (.BoolOp .And [a] pos) tA := by
  intro wh pins s σ H Q I h
  refine isTrue_and (thn (ha pins s σ H Q I h) fun c s1 e => ?_)
  cases c with
  | true => exact isTrue_and_nil e
  | false => exact e
theorem pw_or1 (ha : PT X a tA) : PW X (.BoolOp .Or [a] pos) tA := by
  intro wh pins s σ H Q I h
  refine isTrue_or (thn (ha pins s σ H Q I h) fun c s1 e => ?_)
  cases c with
  | false => exact isTrue_or_nil e
  | true => exact e
theorem pw_and (ha : PT X a tA) (hb : PW X (.BoolOp .And (b :: rest) pos) tB') : PW X (.BoolOp .And (a :: b :: rest) pos) (tAnd tA tB') := by
  intro wh pins s σ H Q I h
  refine isTrue_and (thn (ha pins s σ H _ I h) fun c s1 ⟨H1, I1, q1⟩ => ?_)
  cases c with
  | true => exact hb wh pins s1 σ H1 Q I1 q1
  | false => exact ⟨H1, I1, q1⟩
theorem pw_or (ha : PT X a tA) (hb : PW X (.BoolOp .Or (b :: rest) pos) tB') : PW X (.BoolOp .Or (a :: b :: rest) pos) (tOr tA tB') := by
  intro wh pins s σ H Q I h
  refine isTrue_or (thn (ha pins s σ H _ I h) fun c s1 ⟨H1, I1, q1⟩ => ?_)
  cases c with
  | true => exact ⟨H1, I1, q1⟩
  | false => exact hb wh pins s1 σ H1 Q I1 q1
theorem pt_not (ha : PT X a tA) : PT X (.UnaryOp .Not a pos) (tNot tA) := by
  intro pins s σ H Q I h
  exact isTrue_not (ha pins s σ H (fun c H1 => Q (!c) H1) I h)
def tAndV (ta tb : TE) : TE := fun σ H Q => ta σ H fun x H1 => ∃ c, x = .bl c ∧ if c = true then tb σ H1 Q else Q (.bl false) H1
def tOrV (ta tb : TE) : TE := fun σ H Q => ta σ H fun x H1 => ∃ c, x = .bl c ∧ if c = true then Q (.bl true) H1 else tb σ H1 Q
def tNotV (ta : TE) : TE := fun σ H Q => ta σ H fun x H1 => ∃ c, x = .bl c ∧ Q (.bl (!c)) H1
theorem pe_one {op} {t : TE} (h : PE X a t) : PE X (.BoolOp op [a] pos) t := fun pins s σ H Q I hw => BoolOp_one (h pins s σ H Q I hw)
theorem pe_and (ha : PE X a ta) (hb : PE X (.BoolOp .And (b :: rest) pos) tb) : PE X (.BoolOp .And (a :: b :: rest) pos) (tAndV ta tb) := by
  intro pins s σ H Q I h
  refine BoolOp_and (thn (ha pins s σ H _ I h) fun v s1 ⟨x, H1, I1, r1, q1⟩ => ?_)
  obtain ⟨c, rfl, q1⟩ := q1
  cases r1
  refine wpAny_truthy_bool ?_
  cases c with
  | true => exact hb pins s1 σ H1 Q I1 q1
  | false => exact ⟨.bl false, H1, I1, rfl, q1⟩
theorem pe_or (ha : PE X a ta) (hb : PE X (.BoolOp .Or (b :: rest) pos) tb) : PE X (.BoolOp .Or (a :: b :: rest) pos) (tOrV ta tb) := by
  intro pins s σ H Q I h
  refine BoolOp_or (thn (ha pins s σ H _ I h) fun v s1 ⟨x, H1, I1, r1, q1⟩ => ?_)
  obtain ⟨c, rfl, q1⟩ := q1
  cases r1
  refine wpAny_truthy_bool ?_
  cases c with
  | false => exact hb pins s1 σ H1 Q I1 q1
  | true => exact ⟨.bl true, H1, I1, rfl, q1⟩
theorem pe_not (ha : PE X a ta) : PE X (.UnaryOp .Not a pos) (tNotV ta) := by
  intro pins s σ H Q I h
  refine UnaryOp_ (thn (ha pins s σ H _ I h) fun v s1 ⟨x, H1, I1, r1, q1⟩ => ?_)
  obtain ⟨c, rfl, q1⟩ := q1
  cases r1
  exact not_of (wpAny_truthy_bool ⟨.bl (!c), H1, I1, rfl, q1⟩)
def tIf (t : TT) (ta tb : TE) : TE := fun σ H Q => t σ H fun c H1 => if c = true then ta σ H1 Q else tb σ H1 Q
theorem pe_ifExp {c : Expr} (hc : PT X c tA) (ha : PE X a ta) (hb : PE X b tb) : PE X (.IfExp c a b pos) (tIf tA ta tb) := by
  intro pins s σ H Q I h
  refine wpAny_IfExp (thn (hc pins s σ H _ I h) fun d s1 ⟨H1, I1, q1⟩ => ?_)
  cases d with
  | true => exact ha pins s1 σ H1 Q I1 q1
  | false => exact hb pins s1 σ H1 Q I1 q1
end
end L2
namespace L2
open PySem PySem.Spec PyProof.Rows
def SqL (K : PySem.W.Frag) (H : Hp) (a : Addr) (xs : List V) : Prop :=
  Rd H a (.lst xs) ∨
    ∃ (o : Obj) (its : Array Value) (n : Nat), K.lookup a = some o ∧ o.cls = .type "list" ∧ o.dict = none ∧ o.data = .seq its n ∧ its.size ≤ sizeLine ∧ Vals xs its.toList
def SqT (K : PySem.W.Frag) (H : Hp) (a : Addr) (xs : List V) : Prop :=
  Rd H a (.tup xs) ∨
    ∃ (o : Obj) (its : Array Value) (n : Nat), K.lookup a = some o ∧ o.cls = .type "tuple" ∧ o.data = .seq its n ∧ its.size ≤ sizeLine ∧ Vals xs its.toList
def absV : Value → Option V
  | .none => some .non
  | .bool b => some (.bl b)
  | .int i _ => some (.int i)
  | .str x _ => some (.str x)
  | .bytes b _ => some (.byt b)
  | .float b _ => some (.flt b)
  | .ref a => some (.ref a)
  | .type n => some (.ty n)
  | _ => none
theorem RelV.abs {x : V} {u : Value} (r : RelV x u) : absV u = some x := by
  cases x with
  | non => cases r; rfl
  | bl _ => cases r; rfl
  | int _ => obtain ⟨t, rfl⟩ := r; rfl
  | str _ => obtain ⟨t, rfl⟩ := r; rfl
  | byt _ => obtain ⟨t, rfl⟩ := r; rfl
  | flt _ => obtain ⟨t, rfl⟩ := r; rfl
  | ref _ => cases r; rfl
  | ty _ => cases r; rfl
theorem RelV.inj {x y : V} {u : Value} (r : RelV x u) (q : RelV y u) : x = y := Option.some.inj (r.abs.symm.trans q.abs)
theorem Vals.inj : ∀ {xs ys : List V} {us : List Value}, Vals xs us → Vals ys us → xs = ys
  | _, _, _, .nil, .nil => rfl
  | _, _, _, .cons r t, .cons r' t' => by rw [r.inj r', Vals.inj t t']
section
variable {X : Cx} {pins : List (Addr × Obj)} {σ : St} {H : Hp} {s : Shared} {a : Addr} {xs ys : List V}
theorem SqL.of {K : PySem.W.Frag} (h : H a = some (.lst xs)) : SqL K H a xs := .inl (.inl h)
theorem SqT.of {K : PySem.W.Frag} (h : H a = some (.tup xs)) : SqT K H a xs := .inl (.inl h)
theorem Inv.list (I : Inv X pins σ H s) (h : SqL X.K H a xs) : ∃ its : List Value, Vals xs its ∧ PlainL s.heap a its.toArray ∧ xs.length ≤ sizeLine := by
  rcases h with h | ⟨o, its, n, hk, hc, hd, hs, hz, r⟩
  · obtain ⟨z, its, n, r, e⟩ := h.ok I.hok
    exact ⟨its, r, ⟨_, n, e, rfl, rfl, rfl⟩, z⟩
  · refine ⟨its.toList, r, ⟨o, n, I.kIn a o hk, hc, hd, by simpa using hs⟩, ?_⟩
    have e := r.length
    simp only [Array.length_toList] at e
    omega
theorem Inv.tuple (I : Inv X pins σ H s) (h : SqT X.K H a xs) : ∃ its : List Value, Vals xs its ∧ IsTup s.heap a its.toArray ∧ xs.length ≤ sizeLine := by
  rcases h with h | ⟨o, its, n, hk, hc, hs, hz, r⟩
  · obtain ⟨z, its, r, p⟩ := h.ok I.hok
    exact ⟨its, r, p, z⟩
  · refine ⟨its.toList, r, ⟨o, I.kIn a o hk, hc, n, by simpa using hs⟩, ?_⟩
    have e := r.length
    simp only [Array.length_toList] at e
    omega
theorem Inv.list_inj (I : Inv X pins σ H s) (h : SqL X.K H a xs) (h' : SqL X.K H a ys) : xs = ys := by
  obtain ⟨its, r, ⟨o, n, e, _, _, d⟩, _⟩ := I.list h
  obtain ⟨its', r', ⟨o', n', e', _, _, d'⟩, _⟩ := I.list h'
  rw [e] at e'; cases e'
  rw [d] at d'
  injection d' with d1 _
  have : its = its' := by simpa using congrArg Array.toList d1
  subst this
  exact r.inj r'
end
abbrev Cx.wish (X : Cx) (E : Value → Shared → Prop) : Cx := { X with xe := E }
abbrev Cx.nox (X : Cx) : Cx := X.wish fun _ _ => False
theorem Cx.Ok.wish {X : Cx} (ok : X.Ok) (E : Value → Shared → Prop) : (X.wish E).Ok :=
  ⟨ok.mod, ok.kind, ok.glob, ok.blt, ok.above, ok.inj, ok.has, ok.cab, ok.hd, ok.frames, ok.stk, ok.exf, ok.bs, ok.bsz, ok.noex, ok.exfs, ok.funs, ok.frf⟩
theorem Cx.Ok.unwish {X : Cx} {E : Value → Shared → Prop} (ok : (X.wish E).Ok) : X.Ok :=
  ⟨ok.mod, ok.kind, ok.glob, ok.blt, ok.above, ok.inj, ok.has, ok.cab, ok.hd, ok.frames, ok.stk, ok.exf, ok.bs, ok.bsz, ok.noex, ok.exfs, ok.funs, ok.frf⟩
section
variable {X : Cx} {pins : List (Addr × Obj)} {σ : St} {H : Hp} {s : Shared} {E : Value → Shared → Prop}
theorem Inv.wish (I : Inv X pins σ H s) (E : Value → Shared → Prop) : Inv (X.wish E) pins σ H s := ⟨I.ok.wish E, I.os, I.bare, I.base, I.loc, I.cell, I.free, I.freeC, I.pin, I.hok, I.len⟩
theorem Inv.unwish (I : Inv (X.wish E) pins σ H s) : Inv X pins σ H s := ⟨I.ok.unwish, I.os, I.bare, I.base, I.loc, I.cell, I.free, I.freeC, I.pin, I.hok, I.len⟩
theorem SP.unwish {D : Ends} {f : Flow} {s' : Shared} (h : SP (X.wish E) pins D f s') : SP X pins D f s' := by
  cases f with
  | next => obtain ⟨σ', H', I, q⟩ := h; exact ⟨σ', H', I.unwish, q⟩
  | brk => obtain ⟨σ', H', I, q⟩ := h; exact ⟨σ', H', I.unwish, q⟩
  | cont => obtain ⟨σ', H', I, q⟩ := h; exact ⟨σ', H', I.unwish, q⟩
  | ret u => obtain ⟨v, σ', H', I, r, q⟩ := h; exact ⟨v, σ', H', I.unwish, r, q⟩
theorem PSs.nox {st : List Stmt} {t : TS} (h : PSs X.nox st t) : PSs X st t := fun pins s σ H D I hw =>
  wpAny_mono (h pins s σ H D (I.wish _) hw) (fun _ _ q => q.unwish) fun _ _ z => False.elim z
end
section
variable {X : Cx} {st : Stmt} {rest : List Stmt} {t u : TS} {e : Expr} {te : TE} {pos : Pos}
def tNext : TS := fun D σ H => D.nx σ H
def tSeq (t u : TS) : TS := fun D σ H => t { D with nx := u D } σ H
theorem pss_nil : PSs X [] tNext := fun _ _ σ H _ I h => wpAny_execs_nil ⟨σ, H, I, h⟩
theorem pss_cons (h1 : PS X st t) (h2 : PSs X rest u) : PSs X (st :: rest) (tSeq t u) := by
  intro pins s σ H D I h
  refine wpAny_execs_cons (thn (h1 pins s σ H { D with nx := u D } I h) fun f s1 q => ?_)
  cases f with
  | next =>
    obtain ⟨σ', H', I', q⟩ := q
    exact h2 pins s1 σ' H' D I' q
  | ret v => exact q
  | brk => exact q
  | cont => exact q
theorem pss_one (h1 : PS X st t) : PSs X [st] t := by
  intro pins s σ H D I h
  refine wpAny_execs_cons (thn (h1 pins s σ H D I h) fun f s1 q => ?_)
  cases f with
  | next => exact wpAny_execs_nil q
  | ret v => exact q
  | brk => exact q
  | cont => exact q
def tBreak : TS := fun D σ H => D.bk σ H
theorem ps_break : PS X (.Break pos) tBreak := fun _ _ σ H _ I h => wpAny_Break ⟨σ, H, I, h⟩
theorem Inv.quiet {pins : List (Addr × Obj)} {σ : St} {H : Hp} {s : Shared} (I : Inv X pins σ H s) : interactive X.env = false := by simp [interactive, I.ok.kind]
def tDrop (te : TE) : TS := fun D σ H => te σ H fun _ H1 => D.nx σ H1
theorem ps_expr (he : PE X e te) (hs : swapsWith e none pos.line X.env = pure false := by rfl) : PS X (.Expr e pos) (tDrop te) := by
  intro pins s σ H D I h
  exact wpAny_Expr_any (thn (he pins s σ H _ I h) fun v s1 ⟨x, H1, I1, r1, q1⟩ => ⟨σ, H1, I1, q1⟩) I.quiet hs
def tRet (te : TE) : TS := fun D σ H => te σ H D.rt
theorem ps_ret (he : PE X e te) : PS X (.Return (some e) pos) (tRet te) := by
  intro pins s σ H D I h
  exact wpAny_Return_some (thn (he pins s σ H _ I h) fun v s1 ⟨x, H1, I1, r1, q1⟩ => ⟨x, σ, H1, I1, r1, q1⟩)
def tRetN : TS := fun D _ H => D.rt .non H
def tIfS (c : TT) (t u : TS) : TS := fun D σ H => c σ H fun b H1 => if b = true then t D σ H1 else u D σ H1
theorem ps_if {c : Expr} {a b : List Stmt} {tc : TT} (hc : PT X c tc) (ha : PSs X a t) (hb : PSs X b u) : PS X (.If c a b pos) (tIfS tc t u) := by
  intro pins s σ H D I h
  refine wpAny_If (thn (hc pins s σ H _ I h) fun d s1 ⟨H1, I1, q1⟩ => ?_)
  cases d with
  | true => exact ha pins s1 σ H1 D I1 q1
  | false => exact hb pins s1 σ H1 D I1 q1
end
abbrev TG := V → St → Hp → (St → Hp → Prop) → Prop
abbrev TGs := List V → St → Hp → (St → Hp → Prop) → Prop
def PG (X : Cx) (target : Expr) (t : TG) : Prop :=
  ∀ (pins : List (Addr × Obj)) (s : Shared) (σ : St) (H : Hp) (v : V) (u : Value) (Q : St → Hp → Prop), Inv X pins σ H s → RelV v u → t v σ H Q →
    wpAny (model X.prog X.w) X.A (assign target X.env u) (fun _ s' => ∃ σ' H', Inv X pins σ' H' s' ∧ Q σ' H') X.xe s
def PGs (X : Cx) (ts : List Expr) (t : TGs) : Prop :=
  ∀ (pins : List (Addr × Obj)) (s : Shared) (σ : St) (H : Hp) (vs : List V) (us : List Value) (Q : St → Hp → Prop), Inv X pins σ H s → Vals vs us → t vs σ H Q →
    wpAny (model X.prog X.w) X.A (assignInOrder ((assignEach ts X.env).map (·.2)) us) (fun _ s' => ∃ σ' H', Inv X pins σ' H' s' ∧ Q σ' H') X.xe s
abbrev TSet := V → V → V → Hp → (Hp → Prop) → Prop
def PSet (X : Cx) (t : TSet) : Prop :=
  ∀ (pins : List (Addr × Obj)) (s : Shared) (σ : St) (H : Hp) (o i v : V) (ov iv u : Value) (Q : Hp → Prop), Inv X pins σ H s → RelV o ov → RelV i iv → RelV v u → t o i v H Q →
    wpAny (model X.prog X.w) X.A (setItem ov iv u) (fun _ s' => ∃ H', Inv X pins σ H' s' ∧ Q H') X.xe s
abbrev TIp := V → V → Hp → VK → Prop
def PIp (X : Cx) (op : Operator) (t : TIp) : Prop :=
  ∀ (pins : List (Addr × Obj)) (s : Shared) (σ : St) (H : Hp) (x y : V) (v u : Value) (Q : VK), Inv X pins σ H s → RelV x v → RelV y u → t x y H Q →
    wpAny (model X.prog X.w) X.A (inplaceOp op v u) (EP X pins σ Q) X.xe s
section
variable {X : Cx} {pos : Pos}
def gName (i : Nat) : TG := fun v σ H Q => Q (σ.set i (some v)) H
theorem pg_name {i : Nat} {x : Str} (hN : X.N.Nodup) (hi : X.N[i]? = some x) (hx : Loc X.env.scope x) (hf : X.fn x = true ∨ X.env.scope.names.lookup x = some .local := by first | exact .inl rfl | exact .inr rfl | assumption) : PG X (.Name x pos) (gName i) := by
  intro pins s σ H v u Q I r h
  exact wpAny_assign_Name (store_ok I hN hi hx r (fun s' I' => ⟨_, H, I', h⟩) hf)
def gNil : TGs := fun vs σ H Q => vs = [] ∧ Q σ H
def gCons (t : TG) (u : TGs) : TGs := fun vs σ H Q => ∃ v r, vs = v :: r ∧ t v σ H fun σ' H' => u r σ' H' Q
theorem pgs_nil : PGs X [] gNil := by
  intro pins s σ H vs us Q I r h
  obtain ⟨e, h⟩ := h
  subst e
  cases r
  exact assignInOrder_nil ⟨σ, H, I, h⟩
theorem pgs_cons {e : Expr} {es : List Expr} {t : TG} {u : TGs} (h1 : PG X e t) (h2 : PGs X es u)
    (hs : (assignEach (e :: es) X.env).map (·.2) = assign e X.env :: (assignEach es X.env).map (·.2) := by rfl) : PGs X (e :: es) (gCons t u) := by
  intro pins s σ H vs us Q I r h
  obtain ⟨v, vr, e1, h⟩ := h
  subst e1
  cases r with
  | cons r rr =>
    rw [hs]
    refine assignInOrder_cons (thn (h1 pins s σ H _ _ _ I r h) fun _ s1 ⟨σ1, H1, I1, q1⟩ => ?_)
    exact h2 pins s1 σ1 H1 _ _ Q I1 rr q1
def gTup (K : PySem.W.Frag) (n : Nat) (t : TGs) : TG := fun v σ H Q => ∃ a xs, v = .ref a ∧ SqT K H a xs ∧ xs.length = n ∧ t xs σ H Q
theorem pg_tup {es : List Expr} {k : Nat} {t : TGs} {n : Nat} (hc : X.calm = true) (h : PGs X es t)
    (hn : (assignEach es X.env).length = n := by rfl) (hst : (assignEach es X.env).findIdx? (·.1) = none := by rfl) : PG X (.Tuple es k pos) (gTup X.K n t) := by
  intro pins s σ H v u Q I r hw
  obtain ⟨a, xs, e1, hq, hl, hw⟩ := hw
  subst e1
  cases r
  obtain ⟨its, rv, ht, hz⟩ := I.tuple hq
  refine assign_Tuple_tuple (I.ok.hd hc) ht (by simp [hn, ← hl, rv.length]) hst fun h' hx => ?_
  have I1 : Inv X pins σ H { s with heap := h' } := I.kept (t' := s.toks) fun b o e => hx b o (Nat.ne_of_lt (Heap.lt_size e)) e
  exact h pins _ σ H xs _ Q I1 (by simpa using rv) hw
def gSub (to ti : TE) (t : TSet) : TG := fun v σ H Q => to σ H fun o H1 => ti σ H1 fun i H2 => t o i v H2 fun H3 => Q σ H3
theorem pg_sub {o i : Expr} {to ti : TE} {t : TSet} (ho : PE X o to) (hi : PE X i ti) (hs : PSet X t)
    (ha : ∀ v, assign (.Subscript o i pos) X.env v = (do
      let ov ← holding [v] (eval o X.env)
      let iv ← holding [v, ov] (eval i X.env)
      standAt pos
      holding [v, ov, iv] (setItem ov iv v)
      release [v, ov, iv] []) := by intro _; rfl) : PG X (.Subscript o i pos) (gSub to ti t) := by
  intro pins s σ H v u Q I r h
  rw [ha]
  refine wpAny_bind (wpAny_holding (thn (ho pins s σ H _ I h) fun ov s1 ⟨x, H1, I1, r1, q1⟩ => ?_))
  refine wpAny_bind (wpAny_holding (thn (hi pins s1 σ H1 _ I1 q1) fun iv s2 ⟨y, H2, I2, r2, q2⟩ => ?_))
  refine wpAny_bind (wpAny_standAt (wpAny_bind (wpAny_holding (thn (hs pins s2 σ H2 x y v ov iv u _ I2 r1 r2 r q2) fun _ s3 ⟨H3, I3, q3⟩ => ?_))))
  exact wpAny_release ⟨σ, H3, I3, q3⟩
def tAsg (te : TE) (g : TG) : TS := fun D σ H => te σ H fun x H1 => g x σ H1 D.nx
theorem ps_asg {tg e : Expr} {te : TE} {g : TG} (he : PE X e te) (hg : PG X tg g) (hs : swapsWithSole [tg] e pos.line X.env = pure false := by rfl) (hw : swappedStores [tg] e X.env = pure none := by rfl)
    (h1 : (assignEach [tg] X.env).map (·.2) = [assign tg X.env] := by rfl) : PS X (.Assign [tg] e pos) (tAsg te g) := by
  intro pins s σ H D I h
  refine wpAny_Assign_stores (thn (he pins s σ H _ I h) fun v s1 ⟨x, H1, I1, r1, q1⟩ => ?_) hs hw
  rw [h1]
  exact thn (hg pins s1 σ H1 x v _ I1 r1 q1) fun _ s2 q => q
theorem ps_set {i : Nat} {x : Str} {e : Expr} {te : TE} {pos' : Pos} (hN : X.N.Nodup) (hi : X.N[i]? = some x) (hx : Loc X.env.scope x) (he : PE X e te) (hs : swapsWith e (some (.Name x pos')) pos.line X.env = pure false := by rfl) (hf : X.fn x = true ∨ X.env.scope.names.lookup x = some .local := by first | exact .inl rfl | exact .inr rfl | assumption) :
    PS X (.Assign [.Name x pos'] e pos) (tAsg te (gName i)) := by
  intro pins s σ H D I h
  refine wpAny_Assign_Name (thn (he pins s σ H _ I h) fun v s1 ⟨y, H1, I1, r1, q1⟩ => ?_) hs
  exact store_ok I1 hN hi hx r1 (fun s2 I2 => ⟨_, H1, I2, q1⟩) hf
def tAug (i : Nat) (te : TE) (ti : TIp) : TS := fun D σ H => ∃ x, σ[i]? = some (some x) ∧ te σ H fun y H1 => ti x y H1 fun z H2 => D.nx (σ.set i (some z)) H2
theorem ps_aug {i : Nat} {x : Str} {e : Expr} {te : TE} {op : Operator} {ti : TIp} {pos' : Pos} (hN : X.N.Nodup) (hi : X.N[i]? = some x) (hx : Loc X.env.scope x) (he : PE X e te) (ho : PIp X op ti) (hf : X.fn x = true ∨ X.env.scope.names.lookup x = some .local := by first | exact .inl rfl | exact .inr rfl | assumption) :
    PS X (.AugAssign (.Name x pos') op e pos) (tAug i te ti) := by
  intro pins s σ H D I h
  obtain ⟨v, e1, h⟩ := h
  obtain ⟨m, hn, hl⟩ := I.loc
  have vis : Vis X.env.scope x := by rcases hx with k | k; exact .inl k; exact .inr (.inl k)
  obtain ⟨u, r, l⟩ := hl i x v hi e1 vis
  refine wpAny_AugAssign_Name ?_
  have go : wpAny (model X.prog X.w) X.A (eval e X.env) (fun w s₂ => wpAny (model X.prog X.w) X.A (inplaceOp op u w) (fun r s₃ => wpAny (model X.prog X.w) X.A (storeName X.env x r) (fun _ => SP X pins D .next) X.xe s₃) X.xe s₂) X.xe s := by
    refine thn (he pins s σ H _ I h) fun w s1 ⟨y, H1, I1, r1, q1⟩ => ?_
    refine thn (ho pins s1 σ H1 v y u w _ I1 r r1 q1) fun z s2 ⟨zv, H2, I2, r2, q2⟩ => ?_
    exact store_ok I2 hN hi hx r2 (fun s3 I3 => ⟨_, H2, I3, q2⟩) hf
  rcases l with ⟨hk, hm⟩ | ⟨hk, c, hc, hcell⟩
  · exact wpAny_loadName_local I.ok.kind hk hn hm go
  · rcases hk with hk | hk
    · exact wpAny_loadName_cell I.ok.kind hk hc hcell go
    · rcases hx with k | k
      · have : X.env.scope.names.lookup x = some .free := hk
        rw [k] at this; cases this
      · have : X.env.scope.names.lookup x = some .free := hk
        rw [k] at this; cases this
def ipI (f : Int → Int → Int) : TIp := fun x y H Q => ∃ i j, x = .int i ∧ y = .int j ∧ Q (.int (f i j)) H
theorem ip_add : PIp X .Add (ipI fun i j => i + j) := by
  intro pins s σ H x y v u Q I r1 r2 h
  obtain ⟨i, j, e1, e2, q⟩ := h
  subst e1; subst e2
  obtain ⟨t, rfl⟩ := r1
  obtain ⟨t', rfl⟩ := r2
  exact iadd_int ⟨.int _, H, I.tok _, ⟨_, rfl⟩, q⟩
end
section
variable {X : Cx} {pos : Pos}
def tWhile (c : TT) (tb : TS) : TS := fun D σ H => ∃ W : Nat → St → Hp → Prop, (∃ m, W m σ H) ∧ ∀ m σ H, W m σ H →
  c σ H fun b H1 => if b = true then ∃ N : St → Hp → Prop, (∀ σ' H', N σ' H' → ∃ m', m' < m ∧ W m' σ' H') ∧ tb { D with nx := N, ct := N, bk := D.nx } σ H1 else D.nx σ H1
theorem ps_while {c : Expr} {body : List Stmt} {tc : TT} {tb : TS} (hp : PassesOwn (model X.prog X.w) X.A X.env X.xe) (hc : PT X c tc) (hb : PSs X body tb) : PS X (.While c body [] pos) (tWhile tc tb) := by
  intro pins s σ H D I h
  obtain ⟨W, ⟨m0, w0⟩, turn⟩ := h
  refine wpAny_While (codeAny_whileLoop (fun n s' => ∃ σ' H', Inv X pins σ' H' s' ∧ W n σ' H') ?_ m0 ⟨σ, H, I, w0⟩)
  rintro n s1 ⟨σ1, H1, I1, w1⟩
  refine wpAny_passesOwn hp (thn (hc pins s1 σ1 H1 _ I1 (turn n σ1 H1 w1)) fun b s2 ⟨H2, I2, q2⟩ => ?_)
  cases b with
  | true =>
    obtain ⟨N, hN, q2⟩ := q2
    rw [if_pos rfl]
    refine wpAny_passesOwn hp (thn (hb pins s2 σ1 H2 _ I2 q2) fun f s3 q3 => ?_)
    cases f with
    | next =>
      obtain ⟨σ3, H3, I3, n3⟩ := q3
      obtain ⟨m', hm, w3⟩ := hN σ3 H3 n3
      exact ⟨m', hm, σ3, H3, I3, w3⟩
    | cont =>
      obtain ⟨σ3, H3, I3, n3⟩ := q3
      obtain ⟨m', hm, w3⟩ := hN σ3 H3 n3
      exact ⟨m', hm, σ3, H3, I3, w3⟩
    | brk => exact q3
    | ret v => exact q3
  | false =>
    rw [if_neg Bool.false_ne_true]
    exact wpAny_execs_nil ⟨σ1, H2, I2, q2⟩
end
structure It where
  go : Nat → Hp → Prop
  yld : Nat → Hp → V → Hp → Prop
  stop : Nat → Hp → Prop
def FpOk (X : Cx) (pins : List (Addr × Obj)) (H : Hp) (b : Addr) : Prop :=
  H b = none ∧ b ≠ X.env.locals ∧ b ∉ X.fs ∧ (b ∈ X.ex ∨ X.s_0.heap.objs.size ≤ b) ∧ (∀ x c, X.env.cells.lookup x = some c → c ≠ b) ∧ ∀ p ∈ X.pn ++ pins, p.1 ≠ b
theorem Inv.fpOk {X : Cx} {pins : List (Addr × Obj)} {σ : St} {H H' : Hp} {s : Shared} {b : Addr} (I : Inv X pins σ H s) (hb : s.heap.objs.size ≤ b) (hn : H' b = none) : FpOk X pins H' b := by
  refine ⟨hn, Nat.ne_of_gt (Nat.lt_of_lt_of_le I.lt hb), I.nofs hb, .inr (Nat.le_trans I.sz hb), fun x c e z => ?_, fun p hp z => ?_⟩
  · obtain ⟨v, q⟩ := I.cell x c e
    exact absurd (Nat.lt_of_lt_of_le q.lt (by rw [z]; exact hb)) (Nat.lt_irrefl _)
  · exact absurd (Nat.lt_of_lt_of_le (Heap.lt_size (I.pin p hp).1) (by rw [z]; exact hb)) (Nat.lt_irrefl _)
structure Turn (P : Program) (w : World) (K : PySem.W.Frag) (tg : Expr) (J : It) (fp : List Addr) (it : Addr) (tn : Nat → Heap → Prop) : Prop where
  mem : it ∈ fp
  obj : ∀ i h, tn i h → ∀ b ∈ fp, ∃ o, h.get? b = some o ∧ ∀ v, o.data ≠ .cell v
  keep : ∀ i h h', tn i h → (∀ b ∈ fp, ∀ o, h.get? b = some o → h'.get? b = some o) → tn i h'
  item : ∀ (X : Cx), X.prog = P → X.w = w → X.K = K → X.calm = true → ∀ (i : Nat) (pins : List (Addr × Obj)) (s : Shared) (σ : St) (H : Hp) (E : Value → Shared → Prop), Inv X pins σ H s → (∀ b ∈ fp, FpOk X pins H b) → tn i s.heap → J.go i H →
    wpAny (model P w) X.A (pyNext (.ref it)) (fun r s1 => ∃ u, r = some u ∧
      wpAny (model P w) X.A (letOwnedTupleGo tg (.ref it) u) (fun _ s2 => ∃ x H', Inv X pins σ H' s2 ∧ RelV x u ∧ J.yld i H x H' ∧ tn (i + 1) s2.heap ∧ ∀ b ∈ fp, H' b = none) E s1) E s
  done : ∀ (X : Cx), X.prog = P → X.w = w → X.K = K → X.calm = true → ∀ (i : Nat) (pins : List (Addr × Obj)) (s : Shared) (σ : St) (H : Hp) (E : Value → Shared → Prop), Inv X pins σ H s → (∀ b ∈ fp, FpOk X pins H b) → tn i s.heap → J.stop i H →
    wpAny (model P w) X.A (pyNext (.ref it)) (fun r s1 => r = none ∧ Inv X pins σ H s1) E s
  self : ∀ (A : Around) (i : Nat) (s : Shared) (Q : Value → Shared → Prop) (E : Value → Shared → Prop), tn i s.heap → Q (.ref it) s → wpAny (model P w) A (pyIter (.ref it)) Q E s
abbrev TI := St → Hp → (It → Hp → Prop) → Prop
def PIE (X : Cx) (pins : List (Addr × Obj)) (σ : St) (tg : Expr) (R : It → Hp → Prop) (itv : Value) (s2 : Shared) : Prop :=
  ∃ (it : Addr) (fp : List Addr) (tn : Nat → Heap → Prop) (J : It) (H' : Hp), itv = .ref it ∧ Inv X pins σ H' s2 ∧ Turn X.prog X.w X.K tg J fp it tn ∧ tn 0 s2.heap ∧ (∀ b ∈ fp, FpOk X pins H' b) ∧ R J H'
def PI (X : Cx) (tg iter : Expr) (wi : TI) : Prop :=
  ∀ (pins : List (Addr × Obj)) (s : Shared) (σ : St) (H : Hp) (R : It → Hp → Prop), Inv X pins σ H s → wi σ H R →
    wpAny (model X.prog X.w) X.A (eval iter X.env) (fun v s1 => wpAny (model X.prog X.w) X.A (pyIter v) (PIE X pins σ tg R) X.xe s1) X.xe s
theorem go_of {M : Model} {A : Around} {E : Value → Shared → Prop} {s : Shared} {tg : Expr} {it : Addr} {u : Value} {o : Obj} {n : String} {vs : Array Value} {Q : Unit → Shared → Prop} (ho : s.heap.get? it = some o) (hc : o.cls = .type n) (hd : o.data = .fields vs)
    (hn : ["enumerate", "zip", "dict_itemiterator", "dict_reverseitemiterator", "odict_iterator", "itertools.zip_longest", "itertools.pairwise"].contains n = false) (hQ : Q () s) : wpAny M A (letOwnedTupleGo tg (.ref it) u) Q E s := by
  unfold letOwnedTupleGo
  cases tg <;> first
    | exact wpAny_pure hQ
    | (cases u <;> first
        | exact wpAny_pure hQ
        | (refine wpAny_bind (wpAny_load ho ?_)
           rw [hc, hd]
           show wpAny M A (if (["enumerate", "zip", "dict_itemiterator", "dict_reverseitemiterator", "odict_iterator", "itertools.zip_longest", "itertools.pairwise"].contains n && vs[0]? == some (rawInt _)) = true then _ else _) Q E s
           rw [if_neg (by intro h; rw [hn, Bool.false_and] at h; cases h)]
           exact wpAny_pure hQ))
def Itl (K : PySem.W.Frag) (a : Addr) : It :=
  ⟨fun i H => ∃ xs x, SqL K H a xs ∧ xs[i]? = some x, fun i H x H' => H' = H ∧ ∀ xs, SqL K H a xs → xs[i]? = some x, fun i H => ∃ xs, SqL K H a xs ∧ xs.length ≤ i⟩
def Itr (lo : Int) (n : Nat) : It := ⟨fun i _ => i < n, fun i H x H' => H' = H ∧ x = .int (lo + i), fun i _ => n ≤ i⟩
theorem turn_list {P : Program} {w : World} {K : PySem.W.Frag} {tg : Expr} (a it : Addr) : Turn P w K tg (Itl K a) [it] it (fun i h => h.IsListIter it a i) where
  mem := by simp
  obj := fun i h st b hb => by
    have e : b = it := by simpa using hb
    subst e
    obtain ⟨o, e, c, d⟩ := st
    exact ⟨o, e, fun v z => by rw [d] at z; cases z⟩
  keep := fun i h h' st k => st.at fun o e => k it (by simp) o e
  item := by
    intro X hP hw hK hc i pins s σ H E I hf st hg
    subst hP hw hK
    obtain ⟨xs, x, hq, hx⟩ := hg
    obtain ⟨its, rv, p, hz⟩ := I.list hq
    obtain ⟨u, hu, ru⟩ := rv.get hx
    obtain ⟨f0, f1, f2, f3, f4, f5⟩ := hf it (by simp)
    refine wpAny_pyNext_list_item st p.isList (x := u) (by simpa using hu) fun h' st' sb => ?_
    have I1 : Inv X pins σ H { s with heap := h' } := I.turned (t' := s.toks) (fun b o hb e => (sb.2 b hb).trans e) f0 f1 f3 f4 f5
    obtain ⟨o, e, c, d⟩ := id st'
    exact ⟨u, rfl, go_of (s := { s with heap := h' }) e c d (by decide) ⟨x, H, I1, ru, ⟨rfl, fun ys hy => by rw [I.list_inj hy hq]; exact hx⟩, st', fun b hb => (hf b hb).1⟩⟩
  done := by
    intro X hP hw hK hc i pins s σ H E I hf st hg
    subst hP hw hK
    obtain ⟨xs, hq, hx⟩ := hg
    obtain ⟨its, rv, p, hz⟩ := I.list hq
    obtain ⟨f0, f1, f2, f3, f4, f5⟩ := hf it (by simp)
    have hl := rv.length
    exact wpAny_pyNext_list_end (I.ok.hd hc) st p.isList (by simp; omega) fun h' eb => ⟨rfl, I.turned (t' := s.toks) (fun b o hb e => eb b o hb e) f0 f1 f3 f4 f5⟩
  self := fun _ _ _ _ _ st h => wpAny_pyIter_listiter st h
theorem turn_range {P : Program} {w : World} {K : PySem.W.Frag} {tg : Expr} (it : Addr) (lo : Int) (n : Nat) : Turn P w K tg (Itr lo n) [it] it (fun i h => IsRangeIter h it (lo + (i : Nat) * 1) ((n : Int) - (i : Nat)) 1) where
  mem := by simp
  obj := fun i h st b hb => by
    have e : b = it := by simpa using hb
    subst e
    exact ⟨_, st, fun v z => by
      have z' : Data.fields _ = Data.cell v := z
      cases z'⟩
  keep := fun i h h' st k => k it (by simp) _ st
  item := by
    intro X hP hw hK hc i pins s σ H E I hf st hg
    subst hP hw hK
    obtain ⟨f0, f1, f2, f3, f4, f5⟩ := hf it (by simp)
    have W := Walks.range (prog := X.prog) (w := X.w) (I.ok.hd hc) it lo 1 n
    refine W.item i s _ _ hg st fun v h' tk hv st' kk => ?_
    obtain ⟨t, rfl⟩ := hv
    have I1 : Inv X pins σ H { s with heap := h', toks := tk } := I.turned (fun b o hb e => kk b o (by simpa using hb) e) f0 f1 f3 f4 f5
    refine ⟨_, rfl, go_of (s := { s with heap := h', toks := tk }) (n := "range_iterator") st' rfl rfl (by decide) ⟨.int (lo + i), H, I1, ⟨t, ?_⟩, ⟨rfl, rfl⟩, st', fun b hb => (hf b hb).1⟩⟩
    rw [Int.mul_one]
  done := by
    intro X hP hw hK hc i pins s σ H E I hf st hg
    subst hP hw hK
    obtain ⟨f0, f1, f2, f3, f4, f5⟩ := hf it (by simp)
    exact wpAny_pyNext_range_end (I.ok.hd hc) st (by have : n ≤ i := hg; omega) fun h' eb => ⟨rfl, I.turned (t' := s.toks) (fun b o hb e => eb b o hb e) f0 f1 f3 f4 f5⟩
  self := fun _ _ _ _ _ st h => wpAny_pyIter_rangeiter st h
end L2
namespace L2
open PySem PySem.Spec PyProof.Rows
section
variable {X : Cx} {tg : Expr}
def iList (K : PySem.W.Frag) (tl : TE) : TI := fun σ H R => tl σ H fun x H1 => ∃ a, x = .ref a ∧ (∃ xs, SqL K H1 a xs) ∧ R (Itl K a) H1
theorem pi_list {l : Expr} {tl : TE} (hl : PE X l tl) : PI X tg l (iList X.K tl) := by
  intro pins s σ H R I h
  refine thn (hl pins s σ H _ I h) fun v s1 ⟨x, H1, I1, r1, q1⟩ => ?_
  obtain ⟨a, e, ⟨xs, hq⟩, q⟩ := q1
  subst e
  cases r1
  obtain ⟨its, rv, p, hz⟩ := I1.list hq
  refine wpAny_pyIter_list p.isList ?_
  refine ⟨s1.heap.objs.size, [s1.heap.objs.size], _, _, H1, rfl, I1.kept (t' := s1.toks) fun b o e => Heap.get?_push_of_some _ e, turn_list a _, ⟨_, Heap.get?_push_size _ rfl, rfl, rfl⟩, fun b hb => ?_, q⟩
  have e : b = s1.heap.objs.size := by simpa using hb
  subst e
  exact I1.fpOk (Nat.le_refl _) (I1.hok.fresh (Nat.le_refl _))
theorem range_it {pins : List (Addr × Obj)} {σ : St} {H : Hp} {s : Shared} {R : It → Hp → Prop} {E : Value → Shared → Prop} {lo hi : Int} {t u v : Tok} {tk : Nat} (I : Inv X pins σ H s) (h1 : -(2 ^ 62) ≤ lo) (h2 : lo < 2 ^ 62) (h3 : -(2 ^ 62) ≤ hi) (h4 : hi < 2 ^ 62)
    (q : R (Itr lo (hi - lo).toNat) H) : wpAny (model X.prog X.w) X.A (pyIter (.ref s.heap.objs.size)) (PIE X pins σ tg R) E { s with heap := s.heap.push { cls := .type "range", data := .fields #[.int lo t, .int hi u, .int 1 v] }, toks := tk } := by
  refine wpAny_pyIter_range (IsRange.new ..) (small_one h1 h2 h3 h4) ?_
  have I1 : Inv X pins σ H { s with heap := s.heap.push { cls := .type "range", data := .fields #[.int lo t, .int hi u, .int 1 v] }, toks := tk } := I.kept fun b o e => Heap.get?_push_of_some _ e
  refine ⟨(s.heap.push { cls := .type "range", data := .fields #[.int lo t, .int hi u, .int 1 v] }).objs.size, [(s.heap.push { cls := .type "range", data := .fields #[.int lo t, .int hi u, .int 1 v] }).objs.size], _, _, H, rfl,
    I1.kept (t' := tk) fun b o e => Heap.get?_push_of_some _ e, turn_range _ lo (hi - lo).toNat, ?_, fun b hb => ?_, q⟩
  · have e1 : lo + ((0 : Nat) : Int) * 1 = lo := by simp
    have e2 : (((hi - lo).toNat : Nat) : Int) - ((0 : Nat) : Int) = Builtin.Range.rangeSize lo hi 1 := by rw [rangeSize_one]; split <;> omega
    show IsRangeIter _ _ (lo + ((0 : Nat) : Int) * 1) ((((hi - lo).toNat : Nat) : Int) - ((0 : Nat) : Int)) 1
    rw [e1, e2]
    exact Heap.get?_push_size _ rfl
  · have e : b = (s.heap.push { cls := .type "range", data := .fields #[.int lo t, .int hi u, .int 1 v] }).objs.size := by simpa using hb
    subst e
    exact I1.fpOk (Nat.le_refl _) (I1.hok.fresh (Nat.le_refl _))
def iRng1 (ta : TA) : TI := fun σ H R => ta σ H fun vs H1 => ∃ j : Int, vs = [.int j] ∧ -(2 ^ 62) ≤ j ∧ j < 2 ^ 62 ∧ R (Itr 0 j.toNat) H1
theorem pi_range1 {a : Expr} {ta : TA} {p pos : Pos} (hg : Gl X "range") (hm : X.mg "range" = none) (ha : PA X [a] ta) (hs : starEach [a] X.env = [(false, eval a X.env)] := by rfl) : PI X tg (.Call (.Name "range" p) [a] [] pos) (iRng1 ta) := by
  intro pins s σ H R I h
  refine Call_ (ld_blt I hg hm boot_range (PyProof.Rows.callWith_type1 (thn (ha pos pins s σ H _ I h) fun us s1 ⟨vs, H1, I1, r1, q1⟩ => ?_) hs rfl))
  obtain ⟨j, e, q1, q2, q⟩ := q1
  subst e
  cases r1 with
  | cons r rr =>
    cases rr
    obtain ⟨t, rfl⟩ := r
    exact call_range_1 (range_it I1 (by omega) (by omega) q1 q2 (by simpa using q))
def tFor (wi : TI) (g : TG) (tb : TS) : TS := fun D σ H => wi σ H fun J H1 => ∃ W : Nat → Nat → St → Hp → Prop, (∃ m, W 0 m σ H1) ∧ ∀ i m σ H, W i m σ H →
  (J.stop i H ∧ D.nx σ H) ∨ (J.go i H ∧ ∃ N : St → Hp → Prop, (∀ σ' H', N σ' H' → ∃ m', m' < m ∧ W (i + 1) m' σ' H') ∧ ∀ x H', J.yld i H x H' → g x σ H' fun σ2 H2 => tb { D with nx := N, ct := N, bk := D.nx } σ2 H2)
def pinsAt (fp : List Addr) (h : Heap) : List (Addr × Obj) := fp.filterMap fun b => (h.get? b).map fun o => (b, o)
theorem mem_pinsAt {fp : List Addr} {h : Heap} {b : Addr} {o : Obj} (hb : b ∈ fp) (e : h.get? b = some o) : (b, o) ∈ pinsAt fp h := List.mem_filterMap.mpr ⟨b, hb, by rw [e]; rfl⟩
theorem of_pinsAt {fp : List Addr} {h : Heap} {p : Addr × Obj} (hp : p ∈ pinsAt fp h) : p.1 ∈ fp ∧ h.get? p.1 = some p.2 := by
  obtain ⟨b, hb, e⟩ := List.mem_filterMap.mp hp
  cases q : h.get? b with
  | none => rw [q] at e; cases e
  | some o =>
    rw [q] at e
    have e' : (b, o) = p := Option.some.inj e
    subst e'
    exact ⟨hb, q⟩
theorem Inv.pinned {pins : List (Addr × Obj)} {σ : St} {H : Hp} {s : Shared} {fp : List Addr} (I : Inv X pins σ H s) (hf : ∀ b ∈ fp, FpOk X pins H b) (ho : ∀ b ∈ fp, ∃ o, s.heap.get? b = some o ∧ ∀ v, o.data ≠ .cell v) : Inv X (pins ++ pinsAt fp s.heap) σ H s :=
  I.pins_of fun p hp => (List.mem_append.mp hp).elim (fun z => I.pin p (List.mem_append_right _ z)) fun z => by
    obtain ⟨hb, e⟩ := of_pinsAt z
    obtain ⟨f0, f1, f2, _⟩ := hf p.1 hb
    obtain ⟨o, e', d⟩ := ho p.1 hb
    rw [e] at e'; cases e'
    exact ⟨e, f0, f1, f2, d⟩
theorem Inv.unpinned {pins pl : List (Addr × Obj)} {σ : St} {H : Hp} {s : Shared} (I : Inv X (pins ++ pl) σ H s) : Inv X pins σ H s := I.pins_of fun p hp => I.pin p (List.mem_append_right _ (List.mem_append_left _ hp))
theorem ps_for {iter : Expr} {body : List Stmt} {wi : TI} {g : TG} {tb : TS} {pos : Pos} (hp : PassesOwn (model X.prog X.w) X.A X.env X.xe) (hc : X.calm = true) (hi : PI X tg iter wi) (hg : PG X tg g) (hb : PSs X body tb)
    (hs : ∀ x, foldedSetIterable iter X.env x = pure x := by intro _; rfl) : PS X (.For tg iter body [] pos) (tFor wi g tb) := by
  intro pins s σ H D I h
  refine wpAny_For (thn (hi pins s σ H _ I h) fun v s1 h1 => thn h1 fun itv s2 h2 => ?_) hs
  obtain ⟨it, fp, tn, J, H2, e, I2, T, st2, f2, W, ⟨m0, w0⟩, turn⟩ := h2
  subst e
  -- what stays true of the iterator's objects through the loop
  have stat : ∀ {H' : Hp}, (∀ b ∈ fp, H' b = none) → ∀ b ∈ fp, FpOk X pins H' b := fun hn b hb => ⟨hn b hb, (f2 b hb).2⟩
  refine codeAny_forLoop_any (fun n s' => ∃ i σ' H', Inv X pins σ' H' s' ∧ tn i s'.heap ∧ (∀ b ∈ fp, H' b = none) ∧ W i n σ' H') ?_ m0 ⟨0, σ, H2, I2, st2, fun b hb => (f2 b hb).1, w0⟩
  rintro n s3 ⟨i, σ3, H3, I3, st3, fr3, w3⟩
  rcases turn i n σ3 H3 w3 with ⟨stop, qn⟩ | ⟨go, N, hN, step⟩
  · refine wpAny_passesOwn hp (thn (T.done X rfl rfl rfl hc i pins s3 σ3 H3 X.xe I3 (stat fr3) st3 stop) fun r s4 ⟨hr, I4⟩ => ?_)
    subst hr
    exact wpAny_execs_nil ⟨σ3, H3, I4, qn⟩
  · refine wpAny_passesOwn hp (thn (T.item X rfl rfl rfl hc i pins s3 σ3 H3 X.xe I3 (stat fr3) st3 go) fun r s4 ⟨u, hr, h4⟩ => ?_)
    subst hr
    refine wpAny_passesOwn hp (thn h4 fun _ s5 ⟨x, H5, I5, r5, y5, st5, fr5⟩ => ?_)
    have I5' := I5.pinned (stat fr5) (T.obj _ _ st5)
    refine wpAny_passesOwn hp (thn (hg _ s5 σ3 H5 x u _ I5' r5 (step x H5 y5)) fun _ s6 ⟨σ6, H6, I6, q6⟩ => ?_)
    refine wpAny_passesOwn hp (thn (hb _ s6 σ6 H6 _ I6 q6) fun f s7 q7 => ?_)
    have again : ∀ {σ7 : St} {H7 : Hp}, Inv X (pins ++ pinsAt fp s5.heap) σ7 H7 s7 → N σ7 H7 → ∃ m, m < n ∧ ∃ i σ' H', Inv X pins σ' H' s7 ∧ tn i s7.heap ∧ (∀ b ∈ fp, H' b = none) ∧ W i m σ' H' := fun {σ7 H7} I7 n7 => by
      obtain ⟨m', hm, w7⟩ := hN σ7 H7 n7
      refine ⟨m', hm, i + 1, σ7, H7, I7.unpinned, T.keep _ _ _ st5 fun b hb o e => (I7.pin (b, o) (List.mem_append_right _ (List.mem_append_right _ (mem_pinsAt hb e)))).1, fun b hb => ?_, w7⟩
      obtain ⟨o, e, d⟩ := T.obj _ _ st5 b hb
      exact (I7.pin (b, o) (List.mem_append_right _ (List.mem_append_right _ (mem_pinsAt hb e)))).2.1
    cases f with
    | next => obtain ⟨σ7, H7, I7, n7⟩ := q7; exact again I7 n7
    | cont => obtain ⟨σ7, H7, I7, n7⟩ := q7; exact again I7 n7
    | brk => obtain ⟨σ7, H7, I7, q7⟩ := q7; exact ⟨σ7, H7, I7.unpinned, q7⟩
    | ret v => obtain ⟨x7, σ7, H7, I7, r7, q7⟩ := q7; exact ⟨x7, σ7, H7, I7.unpinned, r7, q7⟩
end
theorem for_list {K : PySem.W.Frag} {a : Addr} {xs : List V} {g : TG} {tb : TS} {D : Ends} {σ : St} {H : Hp} (Pv : Nat → St → Hp → Prop) (h0 : Pv 0 σ H) (hl : ∀ i σ H, i ≤ xs.length → Pv i σ H → SqL K H a xs)
    (hs : ∀ i x σ H, xs[i]? = some x → Pv i σ H → g x σ H fun σ2 H2 => tb { D with nx := Pv (i + 1), ct := Pv (i + 1), bk := D.nx } σ2 H2) (hd : ∀ σ H, Pv xs.length σ H → D.nx σ H) :
    ∃ W : Nat → Nat → St → Hp → Prop, (∃ m, W 0 m σ H) ∧ ∀ i m σ H, W i m σ H →
      ((Itl K a).stop i H ∧ D.nx σ H) ∨ ((Itl K a).go i H ∧ ∃ N : St → Hp → Prop, (∀ σ' H', N σ' H' → ∃ m', m' < m ∧ W (i + 1) m' σ' H') ∧ ∀ x H', (Itl K a).yld i H x H' → g x σ H' fun σ2 H2 => tb { D with nx := N, ct := N, bk := D.nx } σ2 H2) := by
  refine ⟨fun i m σ H => m = xs.length - i ∧ i ≤ xs.length ∧ Pv i σ H, ⟨xs.length, by simp, Nat.zero_le _, h0⟩, ?_⟩
  rintro i m σ H ⟨rfl, hi, p⟩
  have q := hl i σ H hi p
  by_cases hlt : i < xs.length
  · refine .inr ⟨⟨xs, xs[i], q, by simp [hlt]⟩, Pv (i + 1), fun σ' H' p' => ⟨xs.length - (i + 1), by omega, rfl, hlt, p'⟩, fun x H' y => ?_⟩
    obtain ⟨e, y⟩ := y
    subst e
    exact hs i x σ _ (y xs q) p
  · have e : i = xs.length := by omega
    subst e
    exact .inl ⟨⟨xs, q, Nat.le_refl _⟩, hd σ H p⟩
theorem for_range {lo : Int} {n : Nat} {g : TG} {tb : TS} {D : Ends} {σ : St} {H : Hp} (Pv : Nat → St → Hp → Prop) (h0 : Pv 0 σ H)
    (hs : ∀ i σ H, i < n → Pv i σ H → g (.int (lo + i)) σ H fun σ2 H2 => tb { D with nx := Pv (i + 1), ct := Pv (i + 1), bk := D.nx } σ2 H2) (hd : ∀ σ H, Pv n σ H → D.nx σ H) :
    ∃ W : Nat → Nat → St → Hp → Prop, (∃ m, W 0 m σ H) ∧ ∀ i m σ H, W i m σ H →
      ((Itr lo n).stop i H ∧ D.nx σ H) ∨ ((Itr lo n).go i H ∧ ∃ N : St → Hp → Prop, (∀ σ' H', N σ' H' → ∃ m', m' < m ∧ W (i + 1) m' σ' H') ∧ ∀ x H', (Itr lo n).yld i H x H' → g x σ H' fun σ2 H2 => tb { D with nx := N, ct := N, bk := D.nx } σ2 H2) := by
  refine ⟨fun i m σ H => m = n - i ∧ i ≤ n ∧ Pv i σ H, ⟨n, by simp, Nat.zero_le _, h0⟩, ?_⟩
  rintro i m σ H ⟨rfl, hi, p⟩
  by_cases hlt : i < n
  · refine .inr ⟨hlt, Pv (i + 1), fun σ' H' p' => ⟨n - (i + 1), by omega, rfl, hlt, p'⟩, fun x H' y => ?_⟩
    obtain ⟨e, y⟩ := y
    subst e y
    exact hs i σ _ hlt p
  · have e : i = n := by omega
    subst e
    exact .inl ⟨Nat.le_refl _, hd σ H p⟩
end L2
namespace L2
open PySem PySem.Spec PyProof.Rows
abbrev R2 := V → V → Hp → VK → Prop
def OpR (X : Cx) (f : Value → Value → Sem Value) (r : R2) : Prop :=
  ∀ (pins : List (Addr × Obj)) (s : Shared) (σ : St) (H : Hp) (x y : V) (v u : Value) (Q : VK), Inv X pins σ H s → RelV x v → RelV y u → r x y H Q →
    wpAny (model X.prog X.w) X.A (f v u) (EP X pins σ Q) X.xe s
def UnR (X : Cx) (f : Value → Sem Value) (r : V → Hp → VK → Prop) : Prop :=
  ∀ (pins : List (Addr × Obj)) (s : Shared) (σ : St) (H : Hp) (x : V) (v : Value) (Q : VK), Inv X pins σ H s → RelV x v → r x H Q →
    wpAny (model X.prog X.w) X.A (f v) (EP X pins σ Q) X.xe s
def CallR (X : Cx) (f : Value) (r : List V → Hp → VK → Prop) : Prop :=
  ∀ (pins : List (Addr × Obj)) (s : Shared) (σ : St) (H : Hp) (xs : List V) (us : List Value) (Q : VK), Inv X pins σ H s → Vals xs us → r xs H Q →
    wpAny (model X.prog X.w) X.A (call f us) (EP X pins σ Q) X.xe s
def tOp (r : R2) (ta tb : TE) : TE := fun σ H Q => ta σ H fun x H1 => tb σ H1 fun y H2 => r x y H2 Q
def tUn (r : V → Hp → VK → Prop) (ta : TE) : TE := fun σ H Q => ta σ H fun x H1 => r x H1 Q
def rI (C : Int → Int → Prop) (g : Int → Int → V) : R2 := fun x y H Q => ∃ i j, x = .int i ∧ y = .int j ∧ C i j ∧ Q (g i j) H
def rI0 (g : Int → Int → V) : R2 := fun x y H Q => ∃ i j, x = .int i ∧ y = .int j ∧ Q (g i j) H
def rU (g : Int → V) : V → Hp → VK → Prop := fun x H Q => ∃ i, x = .int i ∧ Q (g i) H
section
variable {X : Cx} {a b c : Expr} {ta tb tc : TE} {pos : Pos}
theorem binT (ha : PE X a ta) (hb : PE X b tb) {pins : List (Addr × Obj)} {s : Shared} {σ : St} {H : Hp} {R : V → V → Hp → Prop} (I : Inv X pins σ H s)
    (h : ta σ H fun x H1 => tb σ H1 fun y H2 => R x y H2) {Q : Value → Shared → Prop} {f : Value → Value → Sem Value}
    (hf : ∀ v u s2 x y H2, Inv X pins σ H2 s2 → RelV x v → RelV y u → R x y H2 → wpAny (model X.prog X.w) X.A (f v u) Q X.xe s2) :
    wpAny (model X.prog X.w) X.A (eval a X.env) (fun v s₁ => wpAny (model X.prog X.w) X.A (eval b X.env) (fun u s₂ => wpAny (model X.prog X.w) X.A (f v u) Q X.xe s₂) X.xe s₁) X.xe s := by
  refine thn (ha pins s σ H _ I h) fun v s1 ⟨x, H1, I1, r1, q1⟩ => ?_
  refine thn (hb pins s1 σ H1 _ I1 q1) fun u s2 ⟨y, H2, I2, r2, q2⟩ => ?_
  exact hf v u s2 x y H2 I2 r1 r2 q2
theorem pe_op {op : Operator} {r : R2} (ho : OpR X (binaryOp op) r) (ha : PE X a ta) (hb : PE X b tb) : PE X (.BinOp a op b pos) (tOp r ta tb) := by
  intro pins s σ H Q I h
  exact wpAny_BinOp (binT ha hb I h fun v u s2 x y H2 I2 rx ry q => ho pins s2 σ H2 x y v u Q I2 rx ry q)
theorem pe_un {op : UnaryOp} {r : V → Hp → VK → Prop} (ho : UnR X (unaryOp op) r) (ha : PE X a ta) : PE X (.UnaryOp op a pos) (tUn r ta) := by
  intro pins s σ H Q I h
  exact UnaryOp_ (thn (ha pins s σ H _ I h) fun v s1 ⟨x, H1, I1, r1, q1⟩ => ho pins s1 σ H1 x v Q I1 r1 q1)
theorem opI {f : Value → Value → Sem Value} {C : Int → Int → Prop} {g : Int → Int → Int}
    (rule : ∀ (i j : Int) (t u : Tok) (s : Shared) (Q : Value → Shared → Prop) (E : Value → Shared → Prop), C i j → Q (.int (g i j) s.toks) { s with toks := s.toks + 1 } → wpAny (model X.prog X.w) X.A (f (.int i t) (.int j u)) Q E s) :
    OpR X f (rI C fun i j => .int (g i j)) := by
  intro pins s σ H x y v u Q I rx ry h
  obtain ⟨i, j, rfl, rfl, hc, q⟩ := h
  obtain ⟨t, rfl⟩ := rx
  obtain ⟨t', rfl⟩ := ry
  exact rule i j t t' s _ _ hc ⟨.int (g i j), H, I.tok _, ⟨_, rfl⟩, q⟩
theorem opI0 {f : Value → Value → Sem Value} {g : Int → Int → Int}
    (rule : ∀ (i j : Int) (t u : Tok) (s : Shared) (Q : Value → Shared → Prop) (E : Value → Shared → Prop), Q (.int (g i j) s.toks) { s with toks := s.toks + 1 } → wpAny (model X.prog X.w) X.A (f (.int i t) (.int j u)) Q E s) :
    OpR X f (rI0 fun i j => .int (g i j)) := by
  intro pins s σ H x y v u Q I rx ry h
  obtain ⟨i, j, rfl, rfl, q⟩ := h
  obtain ⟨t, rfl⟩ := rx
  obtain ⟨t', rfl⟩ := ry
  exact rule i j t t' s _ _ ⟨.int (g i j), H, I.tok _, ⟨_, rfl⟩, q⟩
theorem opB0 {f : Value → Value → Sem Value} {g : Int → Int → Bool}
    (rule : ∀ (i j : Int) (t u : Tok) (s : Shared) (Q : Value → Shared → Prop) (E : Value → Shared → Prop), Q (.bool (g i j)) s → wpAny (model X.prog X.w) X.A (f (.int i t) (.int j u)) Q E s) :
    OpR X f (rI0 fun i j => .bl (g i j)) := by
  intro pins s σ H x y v u Q I rx ry h
  obtain ⟨i, j, rfl, rfl, q⟩ := h
  obtain ⟨t, rfl⟩ := rx
  obtain ⟨t', rfl⟩ := ry
  exact rule i j t t' s _ _ ⟨.bl (g i j), H, I, rfl, q⟩
theorem op_add : OpR X (binaryOp .Add) (rI0 fun i j => .int (i + j)) := opI0 fun _ _ _ _ _ _ _ q => add_int q
theorem op_sub : OpR X (binaryOp .Sub) (rI0 fun i j => .int (i - j)) := opI0 fun _ _ _ _ _ _ _ q => sub_int q
theorem op_mod : OpR X (binaryOp .Mod) (rI (fun _ j => 0 < j) fun i j => .int (i % j)) := opI fun i j _ _ _ _ _ hc q => by
  have h1 : (0 : Int) < j := hc
  exact mod_int' (by omega) (by rw [Int.fmod_eq_emod_of_nonneg i (by omega)]; exact q)
theorem unI {f : Value → Sem Value} {g : Int → Int}
    (rule : ∀ (i : Int) (t : Tok) (s : Shared) (Q : Value → Shared → Prop) (E : Value → Shared → Prop), Q (.int (g i) s.toks) { s with toks := s.toks + 1 } → wpAny (model X.prog X.w) X.A (f (.int i t)) Q E s) :
    UnR X f (rU fun i => .int (g i)) := by
  intro pins s σ H x v Q I rx h
  obtain ⟨i, rfl, q⟩ := h
  obtain ⟨t, rfl⟩ := rx
  exact rule i t s _ _ ⟨.int (g i), H, I.tok _, ⟨_, rfl⟩, q⟩
theorem un_neg : UnR X (unaryOp .USub) (rU fun i => .int (-i)) := unI fun _ _ _ _ _ q => neg_int q
end
def scal : V → V → Bool
  | .non, .non => true | .non, .int _ => true | .int _, .non => true | .non, .bl _ => true | .bl _, .non => true | .non, .str _ => true | .str _, .non => true
  | .int _, .int _ => true | .bl _, .bl _ => true | .str _, .str _ => true | .byt _, .byt _ => true
  | .int _, .str _ => true | .str _, .int _ => true | .bl _, .str _ => true | .str _, .bl _ => true
  | _, _ => false
def rEq : R2 := fun x y H Q => scal x y = true ∧ Q (.bl (decide (x = y))) H
def rNe : R2 := fun x y H Q => scal x y = true ∧ Q (.bl (!decide (x = y))) H
theorem dec_int {i j : Int} : decide (V.int i = V.int j) = (i == j) := by
  rw [Bool.eq_iff_iff]
  simp
theorem dec_bl {i j : Bool} : decide (V.bl i = V.bl j) = (i == j) := by
  rw [Bool.eq_iff_iff]
  simp
theorem dec_str {i j : Str} : decide (V.str i = V.str j) = (i == j) := by
  rw [Bool.eq_iff_iff]
  simp
theorem dec_byt {i j : Array UInt8} : decide (V.byt i = V.byt j) = (i.toList == j.toList) := by
  rw [Bool.eq_iff_iff]
  cases i
  cases j
  simp
section
variable {X : Cx} {a b c : Expr} {ta tb tc : TE} {pos : Pos}
theorem fin_bl {pins : List (Addr × Obj)} {σ : St} {H : Hp} {s : Shared} {Q : VK} {k k' : Bool} (I : Inv X pins σ H s) (q : Q (.bl k) H) (e : k = k') : EP X pins σ Q (.bool k') s := by
  subst e
  exact ⟨.bl k, H, I, rfl, q⟩
theorem op_eq : OpR X (compareOp .Eq) rEq := by
  intro pins s σ H x y v u Q I rx ry h
  obtain ⟨hs, q⟩ := h
  cases x with
  | non =>
    cases rx
    cases y with
    | non => cases ry; exact PySem.EqNone.eq_none_none (fin_bl I q (by simp))
    | bl j => cases ry; exact PySem.EqNone.eq_none_bool (fin_bl I q (by simp))
    | int j => obtain ⟨t', rfl⟩ := ry; exact PySem.EqNone.eq_none_int (fin_bl I q (by simp))
    | str j => obtain ⟨t', rfl⟩ := ry; exact PySem.EqNone.eq_none_str (fin_bl I q (by simp))
    | _ => exact absurd (show false = true from hs) Bool.false_ne_true
  | bl i =>
    cases rx
    cases y with
    | non => cases ry; exact PySem.EqNone.eq_bool_none (fin_bl I q (by simp))
    | bl j => cases ry; exact eq_bool (fin_bl I q dec_bl)
    | str j => obtain ⟨t', rfl⟩ := ry; exact PySem.EqMixed.eq_bool_str (fin_bl I q (by simp))
    | _ => exact absurd (show false = true from hs) Bool.false_ne_true
  | int i =>
    obtain ⟨t, rfl⟩ := rx
    cases y with
    | non => cases ry; exact PySem.EqNone.eq_int_none (fin_bl I q (by simp))
    | int j => obtain ⟨t', rfl⟩ := ry; exact eq_int (fin_bl I q dec_int)
    | str j => obtain ⟨t', rfl⟩ := ry; exact PySem.EqMixed.eq_int_str (fin_bl I q (by simp))
    | _ => exact absurd (show false = true from hs) Bool.false_ne_true
  | str i =>
    obtain ⟨t, rfl⟩ := rx
    cases y with
    | non => cases ry; exact PySem.EqNone.eq_str_none (fin_bl I q (by simp))
    | bl j => cases ry; exact PySem.EqMixed.eq_str_bool (fin_bl I q (by simp))
    | int j => obtain ⟨t', rfl⟩ := ry; exact PySem.EqMixed.eq_str_int (fin_bl I q (by simp))
    | str j => obtain ⟨t', rfl⟩ := ry; exact eq_str (fin_bl I q dec_str)
    | _ => exact absurd (show false = true from hs) Bool.false_ne_true
  | byt i =>
    obtain ⟨t, rfl⟩ := rx
    cases y with
    | byt j => obtain ⟨t', rfl⟩ := ry; exact PySem.W.eq_bytes (fin_bl I q dec_byt)
    | _ => exact absurd (show false = true from hs) Bool.false_ne_true
  | _ => cases y <;> exact absurd (show false = true from hs) Bool.false_ne_true
theorem op_ne : OpR X (compareOp .NotEq) rNe := by
  intro pins s σ H x y v u Q I rx ry h
  obtain ⟨hs, q⟩ := h
  cases x with
  | non =>
    cases rx
    cases y with
    | non => cases ry; exact PySem.EqNone.ne_none_none (fin_bl I q (by simp))
    | bl j => cases ry; exact PySem.EqNone.ne_none_bool (fin_bl I q (by simp))
    | int j => obtain ⟨t', rfl⟩ := ry; exact PySem.EqNone.ne_none_int (fin_bl I q (by simp))
    | str j => obtain ⟨t', rfl⟩ := ry; exact PySem.EqNone.ne_none_str (fin_bl I q (by simp))
    | _ => exact absurd (show false = true from hs) Bool.false_ne_true
  | bl i =>
    cases rx
    cases y with
    | non => cases ry; exact PySem.EqNone.ne_bool_none (fin_bl I q (by simp))
    | bl j => cases ry; exact ne_bool (fin_bl I q (congrArg not dec_bl))
    | str j => obtain ⟨t', rfl⟩ := ry; exact PySem.EqMixed.ne_bool_str (fin_bl I q (by simp))
    | _ => exact absurd (show false = true from hs) Bool.false_ne_true
  | int i =>
    obtain ⟨t, rfl⟩ := rx
    cases y with
    | non => cases ry; exact PySem.EqNone.ne_int_none (fin_bl I q (by simp))
    | int j => obtain ⟨t', rfl⟩ := ry; exact ne_int (fin_bl I q (congrArg not dec_int))
    | str j => obtain ⟨t', rfl⟩ := ry; exact PySem.EqMixed.ne_int_str (fin_bl I q (by simp))
    | _ => exact absurd (show false = true from hs) Bool.false_ne_true
  | str i =>
    obtain ⟨t, rfl⟩ := rx
    cases y with
    | non => cases ry; exact PySem.EqNone.ne_str_none (fin_bl I q (by simp))
    | bl j => cases ry; exact PySem.EqMixed.ne_str_bool (fin_bl I q (by simp))
    | int j => obtain ⟨t', rfl⟩ := ry; exact PySem.EqMixed.ne_str_int (fin_bl I q (by simp))
    | str j => obtain ⟨t', rfl⟩ := ry; exact ne_str (fin_bl I q (congrArg not dec_str))
    | _ => exact absurd (show false = true from hs) Bool.false_ne_true
  | byt i =>
    obtain ⟨t, rfl⟩ := rx
    cases y with
    | byt j => obtain ⟨t', rfl⟩ := ry; exact PySem.W.ne_bytes (fin_bl I q (congrArg not dec_byt))
    | _ => exact absurd (show false = true from hs) Bool.false_ne_true
  | _ => cases y <;> exact absurd (show false = true from hs) Bool.false_ne_true
theorem op_lt : OpR X (compareOp .Lt) (rI0 fun i j => .bl (decide (i < j))) := opB0 fun _ _ _ _ _ _ _ q => lt_int q
theorem op_le : OpR X (compareOp .LtE) (rI0 fun i j => .bl (decide (i ≤ j))) := opB0 fun _ _ _ _ _ _ _ q => le_int q
theorem op_gt : OpR X (compareOp .Gt) (rI0 fun i j => .bl (decide (j < i))) := opB0 fun _ _ _ _ _ _ _ q => gt_int q
theorem op_ge : OpR X (compareOp .GtE) (rI0 fun i j => .bl (decide (j ≤ i))) := opB0 fun _ _ _ _ _ _ _ q => ge_int q
theorem op_isN : OpR X (compareOp .Is) (fun x y H Q => y = .non ∧ Q (.bl (decide (x = .non))) H) := by
  intro pins s σ H x y v u Q I rx ry h
  obtain ⟨rfl, q⟩ := h
  cases ry
  refine is_none_gen (fin_bl I q ?_)
  cases x <;> first
    | (cases rx; rfl)
    | (obtain ⟨t, rfl⟩ := rx; rfl)
theorem op_notN : OpR X (compareOp .IsNot) (fun x y H Q => y = .non ∧ Q (.bl (!decide (x = .non))) H) := by
  intro pins s σ H x y v u Q I rx ry h
  obtain ⟨rfl, q⟩ := h
  cases ry
  refine isnot_none_gen (fin_bl I q ?_)
  cases x <;> first
    | (cases rx; rfl)
    | (obtain ⟨t, rfl⟩ := rx; rfl)
theorem nomark (b : Expr) {op : CmpOp} (h : op ≠ .In := by decide) (h2 : op ≠ .NotIn := by decide) : behindInMarks op b = false := by
  have e1 : (op == CmpOp.In) = false := by cases op <;> first | rfl | exact absurd rfl h
  have e2 : (op == CmpOp.NotIn) = false := by cases op <;> first | rfl | exact absurd rfl h2
  cases b <;> simp [behindInMarks, e1, e2]
theorem pe_cmpR {op : CmpOp} {r : R2} (ho : OpR X (compareOp op) r) (ha : PE X a ta) (hb : PE X b tb) (hm : behindInMarks op b = false) : PE X (.Compare a [op] [b] pos) (tOp r ta tb) := by
  intro pins s σ H Q I h
  exact wpAny_Compare1 (binT ha hb I h fun v u s2 x y H2 I2 rx ry q => ho pins s2 σ H2 x y v u Q I2 rx ry q) hm
def tTest (t : TE) : TT := fun σ H Q => t σ H fun x H' => ∃ k, x = .bl k ∧ Q k H'
theorem pt_cmpR {op : CmpOp} {r : R2} (ho : OpR X (compareOp op) r) (ha : PE X a ta) (hb : PE X b tb) (hm : behindInMarks op b = false) : PT X (.Compare a [op] [b] pos) (tTest (tOp r ta tb)) := by
  intro pins s σ H Q I h
  refine wpAny_isTrue_Compare1 (thn (ha pins s σ H _ I h) fun v s1 ⟨x, H1, I1, r1, q1⟩ => thn (hb pins s1 σ H1 _ I1 q1) fun u s2 ⟨y, H2, I2, r2, q2⟩ =>
    thn (ho pins s2 σ H2 x y v u _ I2 r1 r2 q2) fun c s3 ⟨z, H3, I3, r3, k, e, q3⟩ => ?_) hm
  subst e
  cases r3
  exact wpAny_truthy_bool ⟨H3, I3, q3⟩
def tChain (r r' : R2) (ta tb tc : TE) : TE := fun σ H Q => ta σ H fun x H1 => tb σ H1 fun y H2 => r x y H2 fun z H3 => ∃ k, z = .bl k ∧
  (if k = true then tc σ H3 fun w' H4 => r' y w' H4 Q else Q (.bl false) H3)
theorem pe_chain {op op' : CmpOp} {r r' : R2} (ho : OpR X (compareOp op) r) (ho' : OpR X (compareOp op') r') (ha : PE X a ta) (hb : PE X b tb) (hc : PE X c tc)
    (hm : lastMarks [op, op'] [b, c] = false := by with_unfolding_all rfl) : PE X (.Compare a [op, op'] [b, c] pos) (tChain r r' ta tb tc) := by
  intro pins s σ H Q I h
  refine Compare_chain (thn (ha pins s σ H _ I h) fun v s1 ⟨x, H1, I1, r1, q1⟩ => chain_link (thn (hb pins s1 σ H1 _ I1 q1) fun u s2 ⟨y, H2, I2, r2, q2⟩ =>
    thn (ho pins s2 σ H2 x y v u _ I2 r1 r2 q2) fun d s3 ⟨z, H3, I3, r3, k, e, q3⟩ => ?_)) hm
  subst e
  cases r3
  refine wpAny_truthy_bool ?_
  cases k with
  | false => exact ite_ff ⟨.bl false, H3, I3, rfl, q3⟩
  | true => exact ite_tt (chain_last (thn (hc pins s3 σ H3 _ I3 q3) fun w' s4 ⟨z', H4, I4, r4, q4⟩ => ho' pins s4 σ H4 y z' u w' Q I4 r2 r4 q4))
theorem pt_chain {op op' : CmpOp} {r r' : R2} (ho : OpR X (compareOp op) r) (ho' : OpR X (compareOp op') r') (ha : PE X a ta) (hb : PE X b tb) (hc : PE X c tc)
    (hm : lastMarks [op, op'] [b, c] = false := by with_unfolding_all rfl) : PT X (.Compare a [op, op'] [b, c] pos) (tTest (tChain r r' ta tb tc)) := by
  intro pins s σ H Q I h
  refine isTrue_chain (thn (ha pins s σ H _ I h) fun v s1 ⟨x, H1, I1, r1, q1⟩ => test_link (thn (hb pins s1 σ H1 _ I1 q1) fun u s2 ⟨y, H2, I2, r2, q2⟩ =>
    thn (ho pins s2 σ H2 x y v u _ I2 r1 r2 q2) fun d s3 ⟨z, H3, I3, r3, k, e, q3⟩ => ?_)) hm
  subst e
  cases r3
  refine wpAny_truthy_bool ?_
  cases k with
  | false =>
    obtain ⟨k', e', q'⟩ := q3
    cases e'
    exact ite_ff ⟨H3, I3, q'⟩
  | true =>
    refine ite_tt (test_last (thn (hc pins s3 σ H3 _ I3 q3) fun w' s4 ⟨z', H4, I4, r4, q4⟩ => thn (ho' pins s4 σ H4 y z' u w' _ I4 r2 r4 q4) fun d' s5 ⟨z2, H5, I5, r5, k2, e2, q5⟩ => ?_))
    subst e2
    cases r5
    exact wpAny_truthy_bool ⟨H5, I5, q5⟩
theorem line63 : (sizeLine : Nat) < 2 ^ 63 := by rw [sizeLine_eq]; decide
theorem vals1 {x : V} {us : List Value} (r : Vals [x] us) : ∃ u, us = [u] ∧ RelV x u := by
  cases r with
  | cons r1 r2 => cases r2; exact ⟨_, rfl, r1⟩
theorem call_abs : CallR X (.builtin "abs") (fun xs H Q => ∃ i, xs = [.int i] ∧ Q (.int (if i < 0 then -i else i)) H) := by
  intro pins s σ H xs us Q I r h
  obtain ⟨i, rfl, q⟩ := h
  obtain ⟨u, rfl, t, rfl⟩ := vals1 r
  exact call_abs_int fun u tk => ⟨.int (if i < 0 then -i else i), H, I.tok _, ⟨_, rfl⟩, q⟩
theorem call_str_int : CallR X (.type "str") (fun xs H Q => ∃ i, xs = [.int i] ∧ i.natAbs.log2 < 1920 ∧ Q (.str (toString i)) H) := by
  intro pins s σ H xs us Q I r h
  obtain ⟨i, rfl, hz, q⟩ := h
  obtain ⟨u, rfl, t, rfl⟩ := vals1 r
  exact PySem.P.str_of_int hz ⟨.str _, H, I.tok _, ⟨_, rfl⟩, q⟩
end
end L2
namespace L2
open PySem PySem.Spec PyProof.Rows
structure ObjM (h : Heap) (x dx C : Addr) (mA : Str → Option Value) : Prop where
  obj : h.get? x = some (PySem.W.instObj C dx)
  ns : h.Ns1 dx mA
  ne : dx ≠ x
theorem lookIn_ns {h : Heap} {dx : Addr} {mA : Str → Option Value} (n : h.Ns1 dx mA) : ∃ od, h.get? dx = some od ∧ ∀ name, PySem.W.lookIn name od = some (mA name) := by
  obtain ⟨o, es, ep, ho, hd, hk, _, hm⟩ := n
  refine ⟨o, ho, fun name => ?_⟩
  have e := hm name
  unfold nsFind findBy at e
  rw [← Array.find?_toList] at e
  unfold PySem.W.lookIn
  rw [hd]
  dsimp only
  split
  · rename_i y q
    rw [q] at e
    exact congrArg some e
  · rename_i q
    rw [q] at e
    have a : es.toList.any (·.refKey) = false := by
      rw [List.any_eq_false]
      intro y hy
      obtain ⟨z, t, hkey⟩ := hk y (Array.mem_toList_iff.mp hy)
      simp [DictEntry.refKey, hkey]
    have a' : ¬ es.toList.any (·.refKey) = true := by rw [a]; exact Bool.false_ne_true
    rw [if_neg a']
    exact congrArg some e
theorem ObjM.look {h : Heap} {x dx C : Addr} {mA : Str → Option Value} (I : ObjM h x dx C mA) : ∃ od, PySem.W.InstAt h x (PySem.W.instObj C dx) C (some od) ∧ ∀ name, PySem.W.lookIn name od = some (mA name) :=
  let ⟨od, ho, hl⟩ := lookIn_ns I.ns
  ⟨od, ⟨I.obj, rfl, rfl, ho⟩, hl⟩
section
variable {prog : Program} {w : World} {A : Around} {E : Value → Shared → Prop} {s : Shared} {K : PySem.W.Frag} {x dx C f : Addr} {mA : Str → Option Value} {name : Str} {v : Value}
theorem get_map {expr : Bool} {Q : Value → Shared → Prop} (X : K.In s.heap) (I : ObjM s.heap x dx C mA) (hg : PySem.W.plainGet K C name = true) (hh : PySem.W.hasDictIn K C = true)
    (ha : PySem.W.findIn K (.ref C) name = some none) (hv : mA name = some v) (hv' : PySem.W.handedIn v = true) (h : Q v { s with toks := s.toks + 1 }) :
    wpAny (model prog w) A (getAttr (.ref x) name expr) Q E s := by
  obtain ⟨od, J, hl⟩ := I.look
  exact PySem.W.get_value X J (PySem.W.plainGet_of hg).1 (PySem.W.findObj_own hh ha rfl (by rw [hl, hv])) hv' h
theorem set_map {ns : List Str} {Q : Unit → Shared → Prop} (X : K.In s.heap) (I : ObjM s.heap x dx C mA)
    (hs : PySem.W.findIn K (.ref C) "__setattr__" = some (some (.builtin "object.__setattr__"))) (hp : PySem.W.plainOver K C = true) (ht : PySem.W.takerIn K C name = some none) (hh : PySem.W.hasDictIn K C = true)
    (hw : PySem.Within mA ns) (hsz : ns.length ≤ sizeLine)
    (h : ∀ h', ObjM h' x dx C (fun y => if y = name then some v else mA y) → Heap.SameBut dx s.heap h' → Q () { s with heap := h', toks := s.toks + 2 }) :
    wpAny (model prog w) A (setAttr (.ref x) name v) Q E s := by
  obtain ⟨od, J, hl⟩ := I.look
  refine PySem.W.set_plain X J hs (PySem.W.osa_open (s := { s with toks := s.toks + 1 }) (r := none) X J hp ht fun b => ?_)
  obtain ⟨cd, hc, hd'⟩ := PySem.W.any_some hh
  have hx : s.heap.get? x = some ⟨.ref C, some dx, .plain, #[]⟩ := I.obj
  refine wpAny_bind (wpAny_pure (wpAny_bind (wpAny_bind (wpAny_loadPart hx (wpAny_bind (PySem.W.Looks.here (s := { s with toks := s.toks + 1 }) (PySem.W.looks_clsIn X hc) ?_))))))
  rw [hd']
  refine wpAny_pure (a := some dx) (wpAny_bind (wpAny_pure (wpAny_bind ?_)))
  refine wpAny_nsSet1 (s := { s with toks := s.toks + 1 }) I.ns fun h' hn2 hs2 => ?_
  obtain ⟨oD, esD, epD, hoD, hdD, hcD⟩ := hn2.count (PySem.Within.cons name v hw)
  refine wpAny_bind (wpAny_lookBehind hoD (by rw [hdD]; exact pastItsLine_dict (Nat.le_trans hcD (by rw [List.length_cons]; omega))) ?_)
  exact wpAny_pure (h _ ⟨(hs2.2 _ (Ne.symm I.ne)).trans I.obj, hn2, I.ne⟩ hs2)
theorem make_map {R : Result → Shared → Prop} {vs : List Value} {kw : List (Str × Value)} (X : K.In s.heap) (hm : PySem.W.makesIn K C = true)
    (hi : PySem.W.findIn K (.ref C) "__init__" = some (some (.ref f))) (hf : PySem.W.typeIn K (.ref f) = some (.type "function"))
    (h : codeAny (model prog w) (A.under (.builtin "type.__call__" ⟨.ref C :: vs, kw⟩)) (.call (.ref f) ⟨.ref (s.heap.objs.size + 1) :: vs, kw⟩) (PySem.W.InitBack (s.heap.objs.size + 1) R)
      { s with heap := (s.heap.push PySem.W.emptyDict).push (PySem.W.instObj C s.heap.objs.size) }) :
    codeAny (model prog w) A (.call (.ref C) ⟨vs, kw⟩) R s := by
  obtain ⟨hh, g, d, t, os⟩ := s
  exact PySem.W.make_core (PySem.W.makes_of X hm) (PySem.W.looks_findIn X hi) (fun self => PySem.W.bind_fn X self hf) (.inl rfl) h
end
def putF (f : Str) (v : V) : List (Str × V) → List (Str × V)
  | [] => [(f, v)]
  | (g, x) :: r => if g = f then (g, v) :: r else (g, x) :: putF f v r
theorem lookup_putF (f g : Str) (v : V) : ∀ fs : List (Str × V), (putF f v fs).lookup g = if g = f then some v else fs.lookup g
  | [] => by
    show List.lookup g [(f, v)] = _
    by_cases h : g = f
    · have hb : (g == f) = true := beq_iff_eq.mpr h
      simp only [List.lookup, hb, if_pos h]
    · have hb : (g == f) = false := beq_eq_false_iff_ne.mpr h
      simp only [List.lookup, hb, if_neg h]
  | (k, x) :: r => by
    have ih := lookup_putF f g v r
    rw [show putF f v ((k, x) :: r) = (if k = f then (k, v) :: r else (k, x) :: putF f v r) from rfl]
    by_cases hk : k = f
    · rw [if_pos hk]
      by_cases h : g = k
      · have hb : (g == k) = true := beq_iff_eq.mpr h
        simp only [List.lookup, hb, if_pos (h.trans hk)]
      · have hb : (g == k) = false := beq_eq_false_iff_ne.mpr h
        simp only [List.lookup, hb, if_neg (fun e : g = f => h (e.trans hk.symm))]
    · rw [if_neg hk]
      by_cases h : g = k
      · have hb : (g == k) = true := beq_iff_eq.mpr h
        simp only [List.lookup, hb, if_neg (fun e : g = f => hk (h.symm.trans e))]
      · have hb : (g == k) = false := beq_eq_false_iff_ne.mpr h
        simp only [List.lookup, hb]
        exact ih
theorem keys_putF (f : Str) (v : V) : ∀ fs : List (Str × V), f ∈ (putF f v fs).map (·.1) ∧ ∀ g, g ∈ fs.map (·.1) → g ∈ (putF f v fs).map (·.1)
  | [] => ⟨by simp [putF], fun g h => by simp at h⟩
  | (k, x) :: r => by
    obtain ⟨i1, i2⟩ := keys_putF f v r
    rw [show putF f v ((k, x) :: r) = (if k = f then (k, v) :: r else (k, x) :: putF f v r) from rfl]
    by_cases hk : k = f
    · rw [if_pos hk]
      subst hk
      exact ⟨by simp, fun g h => by simpa using h⟩
    · rw [if_neg hk]
      refine ⟨?_, fun g h => ?_⟩
      · rw [List.map_cons]
        exact List.mem_cons_of_mem _ i1
      · rw [List.map_cons] at h ⊢
        rcases List.mem_cons.mp h with e | e
        · exact List.mem_cons.mpr (.inl e)
        · exact List.mem_cons_of_mem _ (i2 g e)
theorem length_putF (f : Str) (v : V) : ∀ fs : List (Str × V), (putF f v fs).length ≤ fs.length + 1
  | [] => by simp [putF]
  | (k, x) :: r => by
    have ih := length_putF f v r
    rw [show putF f v ((k, x) :: r) = (if k = f then (k, v) :: r else (k, x) :: putF f v r) from rfl]
    by_cases hk : k = f
    · rw [if_pos hk, List.length_cons, List.length_cons]; omega
    · rw [if_neg hk, List.length_cons, List.length_cons]; omega
theorem RelO.some_of {v : V} {o : Option Value} (r : RelO (some v) o) : ∃ u, o = some u ∧ RelV v u := by
  cases o with
  | none => exact (show False from r).elim
  | some u => exact ⟨u, rfl, r⟩
theorem handed_of {v : V} {u : Value} (r : RelV v u) : PySem.W.handedIn u = true := by
  cases v with
  | non => cases (show u = Value.none from r); rfl
  | bl b => cases (show u = Value.bool b from r); rfl
  | int i => obtain ⟨t, e⟩ := (show ∃ t, u = Value.int i t from r); cases e; rfl
  | str x => obtain ⟨t, e⟩ := (show ∃ t, u = Value.str x t from r); cases e; rfl
  | byt b => obtain ⟨t, e⟩ := (show ∃ t, u = Value.bytes b t from r); cases e; rfl
  | flt b => obtain ⟨t, e⟩ := (show ∃ t, u = Value.float b t from r); cases e; rfl
  | ref a => cases (show u = Value.ref a from r); rfl
  | ty n => cases (show u = Value.type n from r); rfl
section
variable {P : Program} {w : World} {H H' : Hp} {h h' : Heap} {a C dx : Addr} {fs fs' : List (Str × V)}
theorem ins_get (hok : HOk P w H h) (e : H a = some (.ins C dx fs)) : ∃ mA, ObjM h a dx C mA ∧ (∀ f, RelO (fs.lookup f) (mA f)) ∧ PySem.Within mA (fs.map (·.1)) ∧ fs.length ≤ 1000 ∧ H dx = some (.own a) := by
  obtain ⟨d, z, ne, ob, mA, n, r, q⟩ := (show ObjOk P w H h a (.ins C dx fs) from hok a _ e)
  exact ⟨mA, ⟨ob, n, ne⟩, r, q, z, d⟩
end
structure Cls (K : PySem.W.Frag) (C : Addr) : Prop where
  pg : PySem.W.plainGet K C Str.empty = true
  hd : PySem.W.hasDictIn K C = true
  po : PySem.W.plainOver K C = true
  sa : PySem.W.findIn K (.ref C) "__setattr__" = some (some (.builtin "object.__setattr__"))
theorem Cls.get {K : PySem.W.Frag} {C : Addr} (c : Cls K C) (f : Str) : PySem.W.plainGet K C f = true := c.pg
def NoAttr (K : PySem.W.Frag) (C : Addr) (f : Str) : Prop := PySem.W.findIn K (.ref C) f = some none
theorem NoAttr.taker {K : PySem.W.Frag} {C : Addr} {f : Str} (n : NoAttr K C f) : PySem.W.takerIn K C f = some none := by
  unfold PySem.W.takerIn
  rw [show PySem.W.findIn K (.ref C) f = some none from n]
  rfl
section
variable {X : Cx} {pins : List (Addr × Obj)} {σ : St} {H : Hp} {s : Shared} {a C dx : Addr} {fs : List (Str × V)} {f : Str} {v : V} {A : Around} {E : Value → Shared → Prop}
theorem getattr_ok {b : Bool} {Q : Value → Shared → Prop} (I : Inv X pins σ H s) (e : H a = some (.ins C dx fs)) (c : Cls X.K C) (n : NoAttr X.K C f) (l : fs.lookup f = some v)
    (h : ∀ u s', Inv X pins σ H s' → RelV v u → Q u s') : wpAny (model X.prog X.w) A (getAttr (.ref a) f b) Q E s := by
  obtain ⟨mA, O, r, _, _, _⟩ := ins_get I.hok e
  obtain ⟨u, hu, ru⟩ := RelO.some_of (v := v) (o := mA f) (by rw [← l]; exact r f)
  exact get_map I.kIn O (c.get f) c.hd n hu (handed_of ru) (h u _ (I.tok _) ru)
theorem setattr_ok {y : V} {u : Value} {Q : Unit → Shared → Prop} (I : Inv X pins σ H s) (e : H a = some (.ins C dx fs)) (c : Cls X.K C) (n : NoAttr X.K C f) (hl : fs.length < 1000) (ry : RelV y u)
    (h : ∀ s', Inv X pins σ (upd H a (.ins C dx (putF f y fs))) s' → Q () s') : wpAny (model X.prog X.w) A (setAttr (.ref a) f u) Q E s := by
  obtain ⟨mA, O, r, wi, _, ho⟩ := ins_get I.hok e
  have hz : (fs.map (·.1)).length ≤ sizeLine := by rw [List.length_map, sizeLine_eq]; omega
  refine set_map I.kIn O c.sa c.po n.taker c.hd wi hz fun h' O' sb => h _ ?_
  have hd : ∃ o, h'.get? dx = some o := let ⟨o, _, _, e', _⟩ := O'.ns; ⟨o, e'⟩
  refine I.write (x := a) (e := dx) (by rw [e]; exact True.intro) (.inr ho) (fun b q hb z => (sb.2 b hb).trans z) hd ?_
  refine ⟨by rw [upd_ne O.ne]; exact ho, ?_, O.ne, O'.obj, _, O'.ns, fun g => ?_, fun g hg => ?_⟩
  · have := length_putF f y fs; omega
  · show RelO ((putF f y fs).lookup g) (if g = f then some u else mA g)
    rw [lookup_putF]
    by_cases q : g = f
    · rw [if_pos q, if_pos q]; exact ry
    · rw [if_neg q, if_neg q]; exact r g
  · by_cases q : g = f
    · rw [q]; exact (keys_putF f y fs).1
    · refine (keys_putF f y fs).2 g (wi g fun z => hg ?_)
      show (if g = f then some u else mA g) = none
      rw [if_neg q]; exact z
theorem Inv.made (I : Inv X pins σ H s) : Inv X pins σ (upd (upd H s.heap.objs.size (.own (s.heap.objs.size + 1))) (s.heap.objs.size + 1) (.ins C s.heap.objs.size []))
    { s with heap := (s.heap.push PySem.W.emptyDict).push (PySem.W.instObj C s.heap.objs.size) } := by
  have e1 : (s.heap.push PySem.W.emptyDict).get? s.heap.objs.size = some PySem.W.emptyDict := Heap.get?_push_size s.heap rfl
  have e2 : ((s.heap.push PySem.W.emptyDict).push (PySem.W.instObj C s.heap.objs.size)).get? (s.heap.objs.size + 1) = some (PySem.W.instObj C s.heap.objs.size) := by
    have := Heap.get?_push_size (s.heap.push PySem.W.emptyDict) (o := PySem.W.instObj C s.heap.objs.size) rfl
    rwa [Heap.size_push] at this
  have e3 : (s.heap.push PySem.W.emptyDict).Ns s.heap.objs.size (fun _ => none) := ⟨PySem.W.emptyDict, #[], _, e1, rfl, (fun e he => absurd he (by simp)), fun _ => rfl⟩
  have I1 := I.laid (a := s.heap.objs.size) (o := .own (s.heap.objs.size + 1)) (h' := s.heap.push PySem.W.emptyDict) (t' := s.toks) (fun b u q => Heap.get?_push_of_some _ q) (Nat.le_refl _) ⟨_, e1⟩
  refine I1.laid (a := s.heap.objs.size + 1) (o := .ins C s.heap.objs.size []) (t' := s.toks) (fun b u q => Heap.get?_push_of_some _ q) (Nat.le_of_eq (Heap.size_push _ _)) ?_
  have ne : s.heap.objs.size ≠ s.heap.objs.size + 1 := Nat.ne_of_lt (Nat.lt_succ_self _)
  refine ⟨by rw [upd_ne ne, upd_same], Nat.zero_le _, ne, e2, fun _ => none, (Heap.Ns1.of_empty e3).at fun o q => Heap.get?_push_of_some _ q, fun _ => True.intro, fun y hy => absurd rfl hy⟩
theorem attr_of {prog : Program} {w : World} {env : Env} {e : Expr} {f : Str} {pos : Pos} {s : Shared} {Q : Value → Shared → Prop} (hb : attributeBase e f env (eval e env) = eval e env)
    (h : wpAny (model prog w) A (eval e env) (fun o s₁ => wpAny (model prog w) A (getAttr o f true) Q E s₁) E s) : wpAny (model prog w) A (eval (.Attribute e f pos) env) Q E s :=
  Attribute_any_ h (by rw [arm_eval_Attribute, hb])
end
def tFld (K : PySem.W.Frag) (ta : TE) (f : Str) : TE := fun σ H Q => ta σ H fun x H1 => ∃ a C dx fs v, x = .ref a ∧ H1 a = some (.ins C dx fs) ∧ Cls K C ∧ NoAttr K C f ∧ fs.lookup f = some v ∧ Q v H1
def sFld (K : PySem.W.Frag) (ta tv : TE) (f : Str) : TS := fun D σ H => tv σ H fun y H1 => ta σ H1 fun x H2 => ∃ a C dx fs, x = .ref a ∧ H2 a = some (.ins C dx fs) ∧ Cls K C ∧ NoAttr K C f ∧ fs.length < 1000 ∧
  D.nx σ (upd H2 a (.ins C dx (putF f y fs)))
def InOp (X : Cx) (op : Operator) (rd : V → V → Hp → VK → Prop) : Prop :=
  ∀ (pins : List (Addr × Obj)) (s : Shared) (σ : St) (H : Hp) (x y : V) (u v : Value) (Q : VK), Inv X pins σ H s → RelV x u → RelV y v → rd x y H Q → wpAny (model X.prog X.w) X.A (inplaceOp op u v) (EP X pins σ Q) X.xe s
def sFldAug (K : PySem.W.Frag) (ta tv : TE) (rd : V → V → Hp → VK → Prop) (f : Str) : TS := fun D σ H => ta σ H fun x H1 => ∃ a C dx fs v, x = .ref a ∧ H1 a = some (.ins C dx fs) ∧ Cls K C ∧ NoAttr K C f ∧ fs.lookup f = some v ∧
  tv σ H1 fun y H2 => rd v y H2 fun z H3 => ∃ dx' fs', H3 a = some (.ins C dx' fs') ∧ fs'.length < 1000 ∧ D.nx σ (upd H3 a (.ins C dx' (putF f z fs')))
section
variable {X : Cx} {o e value : Expr} {f : Str} {pos pos' tpos : Pos} {ta tv : TE}
theorem pe_fld (he : PE X e ta) (hb : attributeBase e f X.env (eval e X.env) = eval e X.env) : PE X (.Attribute e f pos) (tFld X.K ta f) := by
  intro pins s σ H Q I h
  refine attr_of hb (thn (he pins s σ H _ I h) fun u s1 ⟨x, H1, I1, rx, a, C, dx, fs, v, ex, ea, c, n, l, q⟩ => ?_)
  subst ex
  obtain rfl : u = Value.ref a := rx
  exact getattr_ok I1 ea c n l fun u' s2 I2 ru => ⟨v, H1, I2, ru, q⟩
theorem ps_fld (ha : PE X o ta) (hv : PE X value tv) (hs : swapsWith value (some (.Attribute o f pos')) pos.line X.env = pure false) : PS X (.Assign [.Attribute o f pos'] value pos) (sFld X.K ta tv f) := by
  intro pins s σ H D I h
  refine plainObj_wpAny_Assign_Attribute (thn (hv pins s σ H _ I h) fun u s1 ⟨y, H1, I1, ry, q⟩ => thn (ha pins s1 σ H1 _ I1 q) fun ov s2 ⟨x, H2, I2, rx, a, C, dx, fs, ex, ea, c, n, l, q2⟩ => ?_) hs
  subst ex
  obtain rfl : ov = Value.ref a := rx
  exact setattr_ok I2 ea c n l ry fun s3 I3 => ⟨σ, _, I3, q2⟩
theorem ps_fldaug {op : Operator} {rd : V → V → Hp → VK → Prop} (ha : PE X o ta) (hv : PE X value tv) (hop : InOp X op rd) : PS X (.AugAssign (.Attribute o f tpos) op value pos) (sFldAug X.K ta tv rd f) := by
  intro pins s σ H D I h
  refine wpAny_AugAssign_AttributeAny (thn (ha pins s σ H _ I h) fun ov s1 ⟨x, H1, I1, rx, a, C, dx, fs, v, ex, ea, c, n, l, q⟩ => ?_)
  subst ex
  obtain rfl : ov = Value.ref a := rx
  refine getattr_ok I1 ea c n l fun u s2 I2 ru => thn (hv pins s2 σ H1 _ I2 q) fun w3 s3 ⟨y, H2, I3, ry, q3⟩ => thn (hop pins s3 σ H2 v y u w3 _ I3 ru ry q3) fun w4 s4 ⟨z, H3, I4, rz, dx', fs', ea', l', q4⟩ => ?_
  exact setattr_ok I4 ea' c n l' rz fun s5 I5 => ⟨σ, _, I5, q4⟩
def rAdd : V → V → Hp → VK → Prop := fun x y H Q => ∃ i j, x = .int i ∧ y = .int j ∧ Q (.int (i + j)) H
def rSub : V → V → Hp → VK → Prop := fun x y H Q => ∃ i j, x = .int i ∧ y = .int j ∧ Q (.int (i - j)) H
theorem in_add : InOp X .Add rAdd := by
  rintro pins s σ H x y u v Q I rx ry ⟨i, j, rfl, rfl, q⟩
  obtain ⟨t, rfl⟩ := (show ∃ t, u = Value.int i t from rx)
  obtain ⟨t', rfl⟩ := (show ∃ t', v = Value.int j t' from ry)
  exact PyProof.Rows.iadd_int ⟨.int (i + j), H, I.tok _, ⟨_, rfl⟩, q⟩
end
end L2
namespace L2
open PySem PySem.Spec PyProof.Rows
structure Room (k : Nat) (A : Around) : Prop where
  hd : A.handled = none
  dp : A.depth + 3 * k + 5 < recursionLimit
  un : A.units + 16 * k + 200 < cLine
theorem Room.mono {j k : Nat} {A : Around} (r : Room k A) (h : j ≤ k) : Room j A := ⟨r.hd, by have := r.dp; omega, by have := r.un; omega⟩
theorem Room.deeper {k : Nat} {A : Around} (r : Room (k + 1) A) (env : Env) : Room k (A.deeper env) :=
  ⟨r.hd, by have := r.dp; show A.depth + 1 + 3 * k + 5 < _; omega, by have := r.un; show A.units + 3 + 16 * k + 200 < _; omega⟩
theorem make_depth {A : Around} {C : Addr} {us : List Value} {kw : List (Str × Value)} : (A.under (.builtin "type.__call__" ⟨.ref C :: us, kw⟩)).depth = A.depth + 1 := by
  first | rfl | simp [Around.under, Code.weight, Code.isCreation, Code.isGuard, Code.isCaller, Code.frames, Code.isFrame, guardIds]
theorem make_units {A : Around} {C : Addr} {us : List Value} {kw : List (Str × Value)} : (A.under (.builtin "type.__call__" ⟨.ref C :: us, kw⟩)).units = A.units + 1 := by
  first | rfl | simp [Around.under, Code.cUnits, Code.frames, Code.isFrame]
theorem Room.make {k : Nat} {A : Around} (r : Room (k + 1) A) (C : Addr) (us : List Value) (kw : List (Str × Value)) : Room k (A.under (.builtin "type.__call__" ⟨.ref C :: us, kw⟩)) :=
  ⟨r.hd, by have := r.dp; rw [make_depth]; omega, by have := r.un; rw [make_units]; omega⟩
theorem Room.depth {k : Nat} {A : Around} (r : Room k A) : A.depth < recursionLimit := by have := r.dp; omega
theorem Room.units {k : Nat} {A : Around} (r : Room k A) : A.units + 64 < cLine := by have := r.un; omega
def tNil : TA := fun _ H Q => Q [] H
def tCons (ta : TE) (tr : TA) : TA := fun σ H Q => ta σ H fun x H1 => tr σ H1 fun xs H2 => Q (x :: xs) H2
section
variable {X : Cx} {e : Expr} {es : List Expr} {te : TE} {t : TA} {pos : Pos}
theorem pa_nil : PA X [] tNil := fun _ _ _ _ H Q I h => Calls.spliced_nil ⟨[], H, I, .nil, h⟩
theorem pa_cons (ha : PE X e te) (hr : PA X es t) (hs : starEach (e :: es) X.env = (false, eval e X.env) :: starEach es X.env := by rfl) : PA X (e :: es) (tCons te t) := by
  intro pos pins s σ H Q I h
  rw [hs]
  show wpAny _ _ (spliced ((false, eval e X.env) :: backTo pos (starEach es X.env))) _ _ s
  refine Calls.spliced_cons (thn (ha pins s σ H _ I h) fun u s1 ⟨x, H1, I1, r1, q1⟩ => ?_)
  exact thn (hr pos pins s1 σ H1 _ I1 q1) fun us s2 ⟨xs, H2, I2, r2, q2⟩ => ⟨x :: xs, H2, I2, .cons r1 r2, q2⟩
def tLst (t : TA) : TE := fun σ H Q => t σ H fun xs H1 => xs.length ≤ sizeLine ∧ ∀ p, H1 p = none → Q (.ref p) (upd H1 p (.lst xs))
theorem pe_lst (h : PA X es t) : PE X (.List es pos) (tLst t) := by
  intro pins s σ H Q I hq
  refine wpAny_List_spliced (thn (h pos pins s σ H _ I hq) fun us s1 ⟨xs, H1, I1, r, z, q⟩ => ⟨by rw [← r.length]; exact z, ?_⟩)
  have hf : H1 s1.heap.objs.size = none := I1.hok.fresh (Nat.le_refl _)
  refine ⟨.ref s1.heap.objs.size, upd H1 s1.heap.objs.size (.lst xs), I1.laid (t' := s1.toks) (fun b u e => Heap.get?_push_of_some _ e) (Nat.le_refl _) ?_, rfl, q _ hf⟩
  exact ⟨z, us, 0, r, Heap.get?_push_size _ rfl⟩
end
abbrev Sp := List V → Hp → VK → XK → Prop
abbrev CXT := List Env → Hp → Shared → XK → Value → Shared → Prop
structure Env0 (P : Program) (w : World) (K : PySem.W.Frag) (mg : Str → Option Value) (base : Heap) (A : Around) (outer : List Env) (s : Shared) (H : Hp) : Prop where
  frames : A.frames = some outer
  mod : Mod K mg base
  bs : ∀ b o, base.get? b = some o → s.heap.get? b = some o ∧ H b = none
  bsz : base.objs.size ≤ s.heap.objs.size
  funs : s.heap.FunFrames base outer
  frf : ∀ b ∈ frs outer, H b = none
  hok : HOk P w H s.heap
  bare : AllBare s.gens
def CE (outer : List Env) (P : Program) (w : World) (H : Hp) (s : Shared) (Q : VK) (u : Value) (s' : Shared) : Prop :=
  ∃ v H', s'.os = s.os ∧ AllBare s'.gens ∧ Un (frs outer) [] H H' s.heap s'.heap ∧ HOk P w H' s'.heap ∧ RelV v u ∧ Q v H'
def CR (CX : CXT) (outer : List Env) (P : Program) (w : World) (H : Hp) (s : Shared) (Q : VK) (E : XK) (r : Result) (s' : Shared) : Prop :=
  match r with
  | .ok (.ret u) => CE outer P w H s Q u s'
  | .ok _ => False
  | .error e => CX outer H s E e s'
structure FnOk (P : Program) (w : World) (K : PySem.W.Frag) (mg : Str → Option Value) (base : Heap) (CX : CXT) (k : Nat) (f : Addr) (fd : FuncData) (ps : List Str) (sp : Sp) : Prop where
  len : ∀ vs H Q E, sp vs H Q E → vs.length = ps.length
  run : ∀ (A : Around) (outer : List Env) (s : Shared) (H : Hp) (args : Args) (us : List Value) (vs : List V) (Q : VK) (E : XK), Room k A → Env0 P w K mg base A outer s H → BindsTo s fd args (ps.zip us) → Vals vs us → sp vs H Q E →
    codeAny (model P w) A (.call (.ref f) args) (CR CX outer P w H s Q E) s
theorem FnOk.mono {P : Program} {w : World} {K : PySem.W.Frag} {mg : Str → Option Value} {base : Heap} {CX : CXT} {j k : Nat} {f : Addr} {fd : FuncData} {ps : List Str} {sp : Sp} (F : FnOk P w K mg base CX j f fd ps sp) (h : j ≤ k) :
    FnOk P w K mg base CX k f fd ps sp := ⟨F.len, fun A outer s H args us vs Q E hr => F.run A outer s H args us vs Q E (hr.mono h)⟩
theorem FnOk.imp {P : Program} {w : World} {K : PySem.W.Frag} {mg : Str → Option Value} {base : Heap} {CX : CXT} {k : Nat} {f : Addr} {fd : FuncData} {ps : List Str} {sp sp' : Sp} (F : FnOk P w K mg base CX k f fd ps sp)
    (h : ∀ vs H Q E, sp' vs H Q E → sp vs H Q E) : FnOk P w K mg base CX k f fd ps sp' :=
  ⟨fun vs H Q E q => F.len vs H Q E (h _ _ _ _ q), fun A outer s H args us vs Q E hr he hb hv hs => F.run A outer s H args us vs Q E hr he hb hv (h _ _ _ _ hs)⟩
theorem Env0.make {P : Program} {w : World} {K : PySem.W.Frag} {mg : Str → Option Value} {base : Heap} {A : Around} {outer : List Env} {s : Shared} {H : Hp} (e : Env0 P w K mg base A outer s H) (C : Addr) (us : List Value) (kw : List (Str × Value)) :
    Env0 P w K mg base (A.under (.builtin "type.__call__" ⟨.ref C :: us, kw⟩)) outer s H := ⟨by first | exact e.frames | (simpa [Around.under, Code.envs, Code.isFrame, pushEnvs] using e.frames), e.mod, e.bs, e.bsz, e.funs, e.frf, e.hok, e.bare⟩
section
variable {X : Cx} {pins : List (Addr × Obj)} {σ : St} {H : Hp} {s s' : Shared}
theorem Inv.env0 (I : Inv X pins σ H s) : Env0 X.prog X.w X.K X.mg X.base X.A X.stack s H :=
  ⟨I.ok.frames, I.ok.mod, I.bs, Nat.le_trans I.ok.bsz I.sz, I.stack, I.stkFree, I.hok, I.bare⟩
theorem Inv.after {Q : VK} {u : Value} (I : Inv X pins σ H s) (h : CE X.stack X.prog X.w H s Q u s') : EP X pins σ Q u s' := by
  obtain ⟨v, H', os, bare, un, hok, r, q⟩ := h
  obtain ⟨hh, g, d, t, os'⟩ := s'
  obtain rfl : os' = s.os := os
  exact ⟨v, H', I.call (h' := hh) (g' := g) (d' := d) (t' := t) (ch := []) un hok bare (fun b z => absurd z (by simp)), r, q⟩
end
def tCall (sp : Sp) (dvs : List V) (E : XK) (t : TA) : TE := fun σ H Q => t σ H fun vs H1 => sp (vs ++ dvs) H1 Q E
def tMake (C : Addr) (sp : Sp) (dvs : List V) (E : XK) (t : TA) : TE := fun σ H Q => t σ H fun vs H1 => ∀ x dx, H1 x = none → H1 dx = none → dx ≠ x →
  sp (.ref x :: (vs ++ dvs)) (upd (upd H1 dx (.own x)) x (.ins C dx [])) (fun v H2 => v = .non ∧ Q (.ref x) H2) E
def Binds (K : PySem.W.Frag) (fd : FuncData) (ps : List Str) (ds : List Value) : Prop :=
  ∀ (s : Shared) (us : List Value), K.In s.heap → (us ++ ds).length = ps.length → BindsTo s fd ⟨us, []⟩ (ps.zip (us ++ ds))
theorem Binds.all {K : PySem.W.Frag} {fd : FuncData} {ps : List Str} (h : ∀ us : List Value, us.length = ps.length → bindArgs fd ⟨us, []⟩ = pure (ps.zip us)) : Binds K fd ps [] := fun s us _ hl => by
  rw [List.append_nil] at hl ⊢
  exact .of_eq (h us hl)
def Passes (CX : CXT) (X : Cx) (E : XK) : Prop := ∀ (pins : List (Addr × Obj)) (σ : St) (H : Hp) (s : Shared) (e : Value) (s' : Shared), Inv X pins σ H s → CX X.stack H s E e s' → X.xe e s'
section
variable {X : Cx} {CX : CXT} {k : Nat} {f C : Addr} {fd : FuncData} {ps : List Str} {sp : Sp} {dvs : List V} {ds : List Value} {E : XK} {x m : Str} {p pos apos : Pos} {e o : Expr} {es : List Expr} {ta : TE} {t : TA}
theorem run_fn {pins : List (Addr × Obj)} {σ : St} {H : Hp} {s : Shared} {Q : VK} {us : List Value} {vs : List V} (F : FnOk X.prog X.w X.K X.mg X.base CX k f fd ps sp) (hr : Room k X.A) (hb : Binds X.K fd ps ds) (hd : Vals dvs ds) (hx : Passes CX X E)
    (I : Inv X pins σ H s) (r : Vals vs us) (h : sp (vs ++ dvs) H Q E) : wpAny (model X.prog X.w) X.A (call (.ref f) us) (EP X pins σ Q) X.xe s := by
  have r2 : Vals (vs ++ dvs) (us ++ ds) := r.append hd
  have hl : (us ++ ds).length = ps.length := by rw [← r2.length]; exact F.len _ _ _ _ h
  refine wpAny_call (codeAny_mono (F.run X.A X.stack s H ⟨us, []⟩ (us ++ ds) (vs ++ dvs) Q E hr I.env0 (hb s us I.kIn hl) r2 h) fun r s' hq => ?_)
  cases r with
  | error e => exact hx pins σ H s e s' I hq
  | ok fl =>
    cases fl with
    | ret u => exact I.after hq
    | next => exact False.elim hq
    | brk => exact False.elim hq
    | cont => exact False.elim hq
theorem pe_call (F : FnOk X.prog X.w X.K X.mg X.base CX k f fd ps sp) (hr : Room k X.A) (hg : Gl X x) (hm : X.mg x = some (.ref f)) (hk : PySem.W.keepIn X.K (.ref f) = true) (hb : Binds X.K fd ps ds) (hd : Vals dvs ds) (hx : Passes CX X E)
    (ha : PA X (e :: es) t) (hdb : (x == ("__debug__" : Str)) = false := by decide) (he : starEach (e :: es) X.env = (false, eval e X.env) :: starEach es X.env := by rfl) (hpl : (backTo pos (starEach es X.env)).any (·.1) = false := by rfl) :
    PE X (.Call (.Name x p) (e :: es) [] pos) (tCall sp dvs E t) := by
  intro pins s σ H Q I h
  refine wpAny_Call_Name_kw (ld_glob I hg hm ?_ hdb)
  refine PySem.W.callWith_K (h₀ := X.base) I.ok.mod.kin hk (thn (ha pos pins s σ H _ I h) fun us s1 ⟨vs, H1, I1, r, q⟩ => ⟨I1.kIn, ?_⟩) he hpl
  exact run_fn F hr hb hd hx I1 r q
structure Mk (K : PySem.W.Frag) (C f : Addr) : Prop where
  makes : PySem.W.makesIn K C = true
  init : PySem.W.findIn K (.ref C) "__init__" = some (some (.ref f))
  fn : PySem.W.isFn K (.ref f) = true
  kp : PySem.W.keepIn K (.ref C) = true
theorem run_make {pins : List (Addr × Obj)} {σ : St} {H : Hp} {s : Shared} {Q : VK} {us : List Value} {vs : List V} (M : Mk X.K C f) (F : FnOk X.prog X.w X.K X.mg X.base CX k f fd ps sp) (hr : Room (k + 1) X.A) (hb : Binds X.K fd ps ds) (hd : Vals dvs ds)
    (hx : Passes CX X E) (I : Inv X pins σ H s) (r : Vals vs us)
    (h : ∀ x dx, H x = none → H dx = none → dx ≠ x → sp (.ref x :: (vs ++ dvs)) (upd (upd H dx (.own x)) x (.ins C dx [])) (fun v H2 => v = .non ∧ Q (.ref x) H2) E) :
    wpAny (model X.prog X.w) X.A (call (.ref C) us) (EP X pins σ Q) X.xe s := by
  have hq := h (s.heap.objs.size + 1) s.heap.objs.size (I.hok.fresh (Nat.le_succ _)) (I.hok.fresh (Nat.le_refl _)) (Nat.ne_of_lt (Nat.lt_succ_self _))
  have I2 := Inv.made (C := C) I
  have r2 : Vals (V.ref (s.heap.objs.size + 1) :: (vs ++ dvs)) (Value.ref (s.heap.objs.size + 1) :: (us ++ ds)) := .cons rfl (r.append hd)
  have hl : (Value.ref (s.heap.objs.size + 1) :: us ++ ds).length = ps.length := by
    have e := r2.length
    rw [F.len _ _ _ _ hq] at e
    exact e.symm
  refine wpAny_call (make_map (f := f) I.kIn M.makes M.init (beq_iff_eq.mp M.fn) (codeAny_mono (F.run _ X.stack _ _ ⟨Value.ref (s.heap.objs.size + 1) :: us, []⟩ (Value.ref (s.heap.objs.size + 1) :: (us ++ ds)) _ _ E (hr.make C us [])
    (I2.env0.make C us []) (hb _ (Value.ref (s.heap.objs.size + 1) :: us) I2.kIn hl) r2 hq) fun r s' hq' => ?_))
  cases r with
  | error e => exact hx pins σ _ _ e s' I2 hq'
  | ok fl =>
    cases fl with
    | ret u =>
      obtain ⟨v, H', I3, rv, ev, q3⟩ := I2.after hq'
      subst ev
      exact ⟨rv, ⟨V.ref (s.heap.objs.size + 1), H', I3, rfl, q3⟩⟩
    | next => exact False.elim hq'
    | brk => exact False.elim hq'
    | cont => exact False.elim hq'
theorem pe_make (M : Mk X.K C f) (F : FnOk X.prog X.w X.K X.mg X.base CX k f fd ps sp) (hr : Room (k + 1) X.A) (hg : Gl X x) (hm : X.mg x = some (.ref C)) (hb : Binds X.K fd ps ds) (hd : Vals dvs ds) (hx : Passes CX X E)
    (ha : PA X (e :: es) t) (hdb : (x == ("__debug__" : Str)) = false := by decide) (he : starEach (e :: es) X.env = (false, eval e X.env) :: starEach es X.env := by rfl) (hpl : (backTo pos (starEach es X.env)).any (·.1) = false := by rfl) :
    PE X (.Call (.Name x p) (e :: es) [] pos) (tMake C sp dvs E t) := by
  intro pins s σ H Q I h
  refine wpAny_Call_Name_kw (ld_glob I hg hm ?_ hdb)
  refine PySem.W.callWith_K (h₀ := X.base) I.ok.mod.kin M.kp (thn (ha pos pins s σ H _ I h) fun us s1 ⟨vs, H1, I1, r, q⟩ => ⟨I1.kIn, ?_⟩) he hpl
  exact run_make M F hr hb hd hx I1 r q
theorem pe_make0 (M : Mk X.K C f) (F : FnOk X.prog X.w X.K X.mg X.base CX k f fd ps sp) (hr : Room (k + 1) X.A) (hg : Gl X x) (hm : X.mg x = some (.ref C)) (hb : Binds X.K fd ps ds) (hd : Vals dvs ds) (hx : Passes CX X E)
    (hdb : (x == ("__debug__" : Str)) = false := by decide) : PE X (.Call (.Name x p) [] [] pos) (tMake C sp dvs E tNil) := by
  intro pins s σ H Q I h
  refine wpAny_Call_Name_kw (ld_glob I hg hm ?_ hdb)
  exact PySem.W.callWith_K0 I.kIn M.kp (run_make (us := []) M F hr hb hd hx I .nil h)
end
structure FnScope (N P : List Str) (sc : Scope) : Prop where
  kind : sc.kind = .function
  co : sc.isCoroutine = false
  gen : sc.isGenerator = false
  nd : N.Nodup
  pre : N.take P.length = P
  par : ∀ x ∈ P, sc.names.lookup x = some .local ∨ sc.names.lookup x = some .cell
  nofree : ∀ y ∈ sc.names, y.2 ≠ .free
theorem bindL_out {kindOf : Str → Option NameKind} {x : Str} : ∀ {binds : List (Str × Value)} {m : Str → Option Value}, (∀ v, (x, v) ∉ binds) → bindL kindOf binds m x = m x
  | [], _, _ => rfl
  | (n, v) :: r, m, h => by
    unfold bindL
    rw [bindL_out fun w hw => h w (List.mem_cons_of_mem _ hw)]
    split
    · have : x ≠ n := by rintro rfl; exact h v List.mem_cons_self
      simp [this]
    · rfl
theorem bindC_out {kindOf : Str → Option NameKind} {x : Str} : ∀ {binds : List (Str × Value)} {m : Str → Option Value}, (∀ v, (x, v) ∉ binds) → bindC kindOf binds m x = m x
  | [], _, _ => rfl
  | (n, v) :: r, m, h => by
    unfold bindC
    rw [bindC_out fun w hw => h w (List.mem_cons_of_mem _ hw)]
    split
    · rfl
    · have : x ≠ n := by rintro rfl; exact h v List.mem_cons_self
      simp [this]
theorem bindL_get {kindOf : Str → Option NameKind} {x : Str} {v : Value} : ∀ {P : List Str} {vs : List Value} {i : Nat} {m : Str → Option Value}, P.Nodup → P[i]? = some x → vs[i]? = some v → kindOf x = some .local →
    bindL kindOf (P.zip vs) m x = some v
  | [], _, _, _, _, h, _, _ => by simp at h
  | _ :: _, [], _, _, _, _, h, _ => by simp at h
  | p :: P, w :: vs, 0, m, nd, h1, h2, hk => by
    simp at h1 h2; subst h1; subst h2
    show bindL kindOf ((p, w) :: P.zip vs) m p = _
    unfold bindL
    rw [bindL_out fun v hv => (List.nodup_cons.mp nd).1 (List.of_mem_zip hv).1, if_pos hk]
    simp
  | p :: P, w :: vs, i + 1, m, nd, h1, h2, hk => by
    show bindL kindOf ((p, w) :: P.zip vs) m x = _
    unfold bindL
    exact bindL_get (i := i) (List.nodup_cons.mp nd).2 (by simpa using h1) (by simpa using h2) hk
theorem bindC_get {kindOf : Str → Option NameKind} {x : Str} {v : Value} : ∀ {P : List Str} {vs : List Value} {i : Nat} {m : Str → Option Value}, P.Nodup → P[i]? = some x → vs[i]? = some v → kindOf x ≠ some .local →
    bindC kindOf (P.zip vs) m x = some v
  | [], _, _, _, _, h, _, _ => by simp at h
  | _ :: _, [], _, _, _, _, h, _ => by simp at h
  | p :: P, w :: vs, 0, m, nd, h1, h2, hk => by
    simp at h1 h2; subst h1; subst h2
    show bindC kindOf ((p, w) :: P.zip vs) m p = _
    unfold bindC
    rw [bindC_out fun v hv => (List.nodup_cons.mp nd).1 (List.of_mem_zip hv).1, if_neg hk]
    simp
  | p :: P, w :: vs, i + 1, m, nd, h1, h2, hk => by
    show bindC kindOf ((p, w) :: P.zip vs) m x = _
    unfold bindC
    exact bindC_get (i := i) (List.nodup_cons.mp nd).2 (by simpa using h1) (by simpa using h2) hk
def start (N : List Str) (vs : List V) : St := vs.map some ++ List.replicate (N.length - vs.length) none
def cxOf (CX : CXT) (P : Program) (w : World) (K : PySem.W.Frag) (mg : Str → Option Value) (base : Heap) (N : List Str) (qual : Str) (scope : Scope) (f : Addr) (cd : Value) (A : Around) (outer : List Env) (s : Shared) (H : Hp) (E : XK) : Cx where
  prog := P
  w := w
  K := K
  mg := mg
  base := base
  A := A.deeper (envOfC qual scope s.heap.objs.size f cd)
  N := N
  s_0 := s
  H_0 := H
  env := envOfC qual scope s.heap.objs.size f cd
  outer := outer
  stack := envOfC qual scope s.heap.objs.size f cd :: outer
  ex := []
  calm := true
  fn := fun _ => true
  pn := []
  xe := fun e s' => wpAny (model P w) (A.deeper (envOfC qual scope s.heap.objs.size f cd)) (leaving (envOfC qual scope s.heap.objs.size f cd) e) (fun _ s'' => CX outer H s E e s'') (fun e' s'' => CX outer H s E e' s'') s'
theorem cell_has {sc : Scope} {n : Nat} {x : Str} (h : sc.names.lookup x = some .cell) : ∃ c, (cellsFrom n sc.names []).lookup x = some c := by
  have q := PySem.W.cellsFrom_some sc.names n [] (.inl h)
  exact Option.isSome_iff_exists.mp q
theorem inv_start {CX : CXT} {P : Program} {w : World} {K : PySem.W.Frag} {mg : Str → Option Value} {base : Heap} {N ps : List Str} {qual : Str} {scope : Scope} {f : Addr} {cd : Value} {A : Around} {outer : List Env} {s s1 : Shared} {H : Hp} {E : XK} {us : List Value} {vs : List V}
    (S : FnScope N ps scope) (hd : A.handled = none) (e0 : Env0 P w K mg base A outer s H) (hl : vs.length = ps.length) (r : Vals vs us)
    (x : InCallC s s.heap.objs.size (bindL (envOfC qual scope s.heap.objs.size f cd).kindOf (ps.zip us) fun _ => none) (cellsFrom (s.heap.objs.size + 1) scope.names []) (bindC (envOfC qual scope s.heap.objs.size f cd).kindOf (ps.zip us) fun _ => none) s1) :
    Inv (cxOf CX P w K mg base N qual scope f cd A outer s H E) [] (start N vs) H s1 := by
  have hpl : ps.length ≤ N.length := by have := congrArg List.length S.pre; rw [List.length_take] at this; omega
  obtain ⟨h1, tk, rfl, hk⟩ := x.done
  have noA : ∀ b : Addr, b ∉ (cxOf CX P w K mg base N qual scope f cd A outer s H E).ex := fun b z => absurd (show b ∈ ([] : List Addr) from z) (by simp)
  refine ⟨⟨e0.mod, S.kind, rfl, rfl, Nat.le_refl _, fun y z c h1 h2 => ?_, fun y hy => ?_, fun y c _ h => ?_, fun _ => hd, Around.frames_deeper e0.frames, .inr ⟨rfl, rfl⟩, fun b z => absurd z (noA b), e0.bs, e0.bsz, fun b _ _ => noA b, fun b z => absurd z (noA b), e0.funs, e0.frf⟩,
    rfl, e0.bare, Un.kept hk, ⟨_, x.toInCall.ns, fun i y v h1 h2 h3 => ?_⟩, fun y c h => ⟨_, x.cell y c h⟩, e0.hok.fresh (Nat.le_refl _), fun y c h => ?_, fun p hp => absurd (show p ∈ ([] : List (Addr × Obj)) from hp) (by simp), e0.hok.kept hk, ?_⟩
  · exact name_of_addr x.apart (PySem.mem_of_lookup h1) (PySem.mem_of_lookup h2)
  · have hy : scope.names.lookup y = some .cell ∨ scope.names.lookup y = some .free := hy
    rcases hy with hy | hy
    · exact cell_has hy
    · exact absurd rfl (S.nofree _ (PySem.mem_of_lookup hy))
  · exact Nat.le_of_lt (x.above y c (PySem.mem_of_lookup h))
  · have hi : i < vs.length := by
      unfold start at h2
      by_cases hi : i < vs.length
      · exact hi
      · rw [List.getElem?_append_right (by simpa using hi)] at h2
        rw [List.getElem?_replicate] at h2
        split at h2 <;> cases h2
    have ha : vs[i]? = some v := by
      unfold start at h2
      rw [List.getElem?_append_left (by simpa using hi), List.getElem?_map] at h2
      cases e : vs[i]? with
      | none => rw [e] at h2; cases h2
      | some a => rw [e] at h2; cases h2; rfl
    obtain ⟨u, hu, rv⟩ := r.get ha
    have hp : ps[i]? = some y := by
      rw [← S.pre, List.getElem?_take_of_lt (by omega)]; exact h1
    have ndP : ps.Nodup := by rw [← S.pre]; exact S.nd.sublist (List.take_sublist _ _)
    refine ⟨u, rv, ?_⟩
    rcases S.par y (List.mem_of_getElem? hp) with k | k
    · exact .inl ⟨k, bindL_get ndP hp hu k⟩
    · obtain ⟨c, e⟩ := cell_has (n := s.heap.objs.size + 1) k
      refine .inr ⟨.inl k, c, e, ?_⟩
      have q := x.cell y c e
      rw [bindC_get ndP hp hu (by show scope.names.lookup y ≠ _; rw [k]; decide)] at q
      exact q
  · exact e0.hok.fresh (Nat.le_of_lt (x.above y c (PySem.mem_of_lookup h)))
  · unfold start
    show _ = N.length
    rw [List.length_append, List.length_map, List.length_replicate]
    omega
theorem fn_of {CX : CXT} {P : Program} {w : World} {K : PySem.W.Frag} {mg : Str → Option Value} {base : Heap} {k : Nat} {f : Addr} {name qual : Str} {params : Arguments} {body : List Stmt} {scope : Scope} {dV kV doc pm cdv ct oc : Value} {an od : Option Addr}
    {osl : Array (Option Value)} {N ps : List Str} {sp : Sp} (lk : K.lookup f = some ⟨oc, od, .func (PySem.W.fnOf name qual params body scope dV kV doc pm an cdv ct), osl⟩) (hcd : PySem.W.codeIn K cdv qual = true) (S : FnScope N ps scope)
    (len : ∀ vs H Q E, sp vs H Q E → vs.length = ps.length)
    (hbody : ∀ (A : Around) (outer : List Env) (s : Shared) (H : Hp) (vs : List V) (Q : VK) (E : XK), Room k (A.deeper (envOfC qual scope s.heap.objs.size f cdv)) → sp vs H Q E →
      ∃ t, PSs (cxOf CX P w K mg base N qual scope f cdv A outer s H E) body t ∧ t { nx := fun _ H' => Q .non H', rt := Q } (start N vs) H) :
    FnOk P w K mg base CX (k + 1) f (PySem.W.fnOf name qual params body scope dV kV doc pm an cdv ct) ps sp := by
  refine ⟨len, fun A outer s H args us vs Q E hr e0 hb r hsp => ?_⟩
  have hl := len _ _ _ _ hsp
  have KX : K.In s.heap := e0.mod.kin.keeps fun b o e => (e0.bs b o e).1
  have lim : s.heap.NoLimit := e0.mod.nolimit.keeps fun b o e => (e0.bs b o e).1
  have hkind : ∀ y ∈ ps.zip us, scope.names.lookup y.1 = some .local ∨ (scope.names.lookup y.1 = some .cell ∧ ((cellsFrom (s.heap.objs.size + 1) scope.names []).lookup y.1).isSome = true) := fun ⟨n, v⟩ hy => by
    rcases S.par n (List.of_mem_zip hy).1 with q | q
    · exact .inl q
    · exact .inr ⟨q, PySem.W.cellsFrom_some _ _ _ (.inl q)⟩
  refine codeAny_call_function hr.depth (KX _ _ lk) rfl S.co S.gen rfl (PySem.W.codeRec_of KX hcd) (hb _ _ _ _ ?_)
  refine wpAny_newFunctionEnv_cells S.kind hkind fun env he s1 x => ?_
  subst he
  refine ⟨lim.keeps x.toInCall.keep, codeAny_func ?_⟩
  obtain ⟨t, ht, hq⟩ := hbody A outer s H vs Q E (hr.deeper _) hsp
  have I : Inv (cxOf CX P w K mg base N qual scope f cdv A outer s H E) [] (start N vs) H s1 := inv_start S hr.hd e0 hl r x
  refine wpAny_mono (ht [] s1 (start N vs) H _ I hq) (fun fl s' hs => ?_) fun e s' hs => hs
  have fin : ∀ {σ' : St} {H' : Hp} {v : V} {u : Value}, Inv (cxOf CX P w K mg base N qual scope f cdv A outer s H E) [] σ' H' s' → RelV v u → Q v H' → CE outer P w H s Q u s' :=
    fun {σ' H' v u} J rv q => ⟨v, H', J.os, J.bare, J.base, J.hok, rv, q⟩
  cases fl with
  | ret u =>
    obtain ⟨v, σ', H', J, rv, q⟩ := hs
    exact fin J rv q
  | next =>
    obtain ⟨σ', H', J, q⟩ := hs
    exact fin (v := V.non) (u := Value.none) J rfl q
  | brk =>
    obtain ⟨_, _, _, q⟩ := hs
    exact False.elim q
  | cont =>
    obtain ⟨_, _, _, q⟩ := hs
    exact False.elim q
end L2
namespace L2
open PySem PySem.Spec PyProof.Rows
section
variable {X : Cx} {x : Str} {p pos : Pos} {e : Expr} {es : List Expr} {t : TA} {id T : String} {r : List V → Hp → VK → Prop}
def tCB (r : List V → Hp → VK → Prop) (t : TA) : TE := fun σ H Q => t σ H fun vs H1 => r vs H1 Q
theorem pe_callB (hc : CallR X (.builtin id) r) (hg : Gl X x) (hm : X.mg x = none) (hv : bootBuiltins x = some (.builtin id)) (ha : PA X (e :: es) t) (hn : x ≠ "__name__" := by decide) (hdb : (x == ("__debug__" : Str)) = false := by decide)
    (he : starEach (e :: es) X.env = (false, eval e X.env) :: starEach es X.env := by rfl) (hpl : (backTo pos (starEach es X.env)).any (·.1) = false := by rfl) : PE X (.Call (.Name x p) (e :: es) [] pos) (tCB r t) := by
  intro pins s σ H Q I h
  refine wpAny_Call_Name_kw (ld_blt I hg hm hv ?_ hn hdb)
  exact PyProof.Rows.callWith_builtin1 (thn (ha pos pins s σ H _ I h) fun us s1 ⟨vs, H1, I1, r1, q1⟩ => hc pins s1 σ H1 vs us Q I1 r1 q1) he hpl
theorem pe_callTy (hc : CallR X (.type T) r) (hg : Gl X x) (hm : X.mg x = none) (hv : bootBuiltins x = some (.type T)) (ha : PA X (e :: es) t) (hn : x ≠ "__name__" := by decide) (hdb : (x == ("__debug__" : Str)) = false := by decide)
    (he : starEach (e :: es) X.env = (false, eval e X.env) :: starEach es X.env := by rfl) (hpl : (backTo pos (starEach es X.env)).any (·.1) = false := by rfl) : PE X (.Call (.Name x p) (e :: es) [] pos) (tCB r t) := by
  intro pins s σ H Q I h
  refine wpAny_Call_Name_kw (ld_blt I hg hm hv ?_ hn hdb)
  exact PyProof.Rows.callWith_type1 (thn (ha pos pins s σ H _ I h) fun us s1 ⟨vs, H1, I1, r1, q1⟩ => hc pins s1 σ H1 vs us Q I1 r1 q1) he hpl
end
end L2
namespace HT
open PySem PyProof.Rows
section
variable {prog : Program} {w : World} {A : Around} {E : Value → Shared → Prop} {s : Shared}
def sIx (n d : Nat) : Option Int → Nat
  | none => d
  | some v => if v < 0 then (v + (n : Int)).toNat else min v.toNat n
theorem sIx_none (n d : Nat) : sIx n d none = d := rfl
theorem sIx_nat (n d k : Nat) : sIx n d (some (k : Int)) = min k n := by
  show (if (k : Int) < 0 then ((k : Int) + (n : Int)).toNat else min (k : Int).toNat n) = min k n
  rw [if_neg (by omega), Int.toNat_natCast]
end
end HT
namespace L2
open PySem PySem.Spec PyProof.Rows
abbrev TO := St → Hp → (Option Int → Hp → Prop) → Prop
def PO (X : Cx) (e : Option Expr) (t : TO) : Prop :=
  ∀ (pins : List (Addr × Obj)) (s : Shared) (σ : St) (H : Hp) (Q : Option Int → Hp → Prop), Inv X pins σ H s → t σ H Q →
    wpAny (model X.prog X.w) X.A (evalPart e X.env) (fun u s' => ∃ o H', Inv X pins σ H' s' ∧ IsPart u o ∧ Q o H') X.xe s
def tNoPart : TO := fun _ H Q => Q none H
def tPart (t : TE) : TO := fun σ H Q => t σ H fun x H1 => ∃ i, x = .int i ∧ Q (some i) H1
section
variable {X : Cx} {e : Expr} {te : TE} {lo hi : Option Expr} {tl th : TO} {pos p2 : Pos}
theorem po_none : PO X none tNoPart := by
  intro pins s σ H Q I h
  rw [evalPart_none]
  exact wpAny_pure ⟨none, H, I, .none, h⟩
theorem po_some (h : PE X e te) : PO X (some e) (tPart te) := by
  intro pins s σ H Q I hw
  rw [evalPart_some]
  refine thn (h pins s σ H _ I hw) fun u s1 ⟨x, H1, I1, r1, q1⟩ => ?_
  obtain ⟨i, rfl, q⟩ := q1
  obtain ⟨t, rfl⟩ := r1
  exact ⟨some i, H1, I1, .int i t, q⟩
def SlR (X : Cx) (r : V → Option Int → Option Int → Hp → VK → Prop) : Prop :=
  ∀ (pins : List (Addr × Obj)) (s : Shared) (σ : St) (H : Hp) (x : V) (v vl vu : Value) (lo hi : Option Int) (sl : Addr) (Q : VK), Inv X pins σ H s → RelV x v → s.heap.IsSliceOf sl vl vu .none → IsPart vl lo → IsPart vu hi → r x lo hi H Q →
    ∃ T id, typeLookup (.type T) "__getitem__" = pure (some (.builtin id)) ∧ s.TypeIs v T ∧ wpAny (model X.prog X.w) X.A (getItem v (.ref sl)) (EP X pins σ Q) X.xe s
def tSl (r : V → Option Int → Option Int → Hp → VK → Prop) (te : TE) (tl th : TO) : TE := fun σ H Q => te σ H fun x H1 => tl σ H1 fun l H2 => th σ H2 fun u H3 => r x l u H3 Q
theorem pe_slice {r : V → Option Int → Option Int → Hp → VK → Prop} (hr : SlR X r) (he : PE X e te) (hl : PO X lo tl) (hu : PO X hi th) : PE X (.Subscript e (.Slice lo hi none p2) pos) (tSl r te tl th) := by
  intro pins s σ H Q I h
  refine Subscript_ (thn (he pins s σ H _ I h) fun v s1 ⟨x, H1, I1, r1, q1⟩ => ?_)
  refine wpAny_Slice (thn (hl pins s1 σ H1 _ I1 q1) fun vl s2 ⟨l, H2, I2, pl, q2⟩ => thn (hu pins s2 σ H2 _ I2 q2) fun vu s3 ⟨u, H3, I3, pu, q3⟩ => ?_)
  rw [evalPart_none]
  refine wpAny_pure ?_
  have I4 : Inv X pins σ H3 { s3 with heap := s3.heap.push { cls := .type "slice", data := .fields #[vl, vu, .none] } } := I3.kept (t' := s3.toks) fun b ob q => Heap.get?_push_of_some _ q
  obtain ⟨T, id, hT, ht, hg⟩ := hr pins { s3 with heap := s3.heap.push { cls := .type "slice", data := .fields #[vl, vu, .none] } } σ H3 x v vl vu l u s3.heap.objs.size Q I4 r1 (Heap.IsSliceOf.new ..) pl pu q3
  show wpAny (model X.prog X.w) X.A (subscriptTail e (.Slice lo hi none p2) v (.ref s3.heap.objs.size)) (EP X pins σ Q) X.xe { s3 with heap := s3.heap.push { cls := .type "slice", data := .fields #[vl, vu, .none] } }
  exact tail_any (ops := [.ref s3.heap.objs.size, v]) ht hT hg (by with_unfolding_all rfl)
def cutV (xs : List V) (lo hi : Option Int) : List V := (xs.drop (HT.sIx xs.length 0 lo)).take (HT.sIx xs.length xs.length hi - HT.sIx xs.length 0 lo)
theorem cutV_length (xs : List V) (lo hi : Option Int) : (cutV xs lo hi).length ≤ xs.length := by
  unfold cutV
  rw [List.length_take, List.length_drop]
  omega
end
end L2
namespace L2
open PySem PySem.Spec PyProof.Rows
def ixN (n : Nat) (i : Int) : Option Nat := if 0 ≤ i then (if i < n then some i.toNat else none) else if -(n : Int) ≤ i then some (i + n).toNat else none
def atI {α : Type} (xs : List α) (i : Int) : Option α := (ixN xs.length i).bind fun j => xs[j]?
theorem ixN_seq {n : Nat} {i : Int} {j : Nat} (h : ixN n i = some j) : seqIndex? i n = some j ∧ j < n ∧ -(n : Int) ≤ i ∧ i < n := by
  unfold ixN at h
  by_cases h0 : 0 ≤ i
  · rw [if_pos h0] at h
    by_cases h1 : i < n
    · rw [if_pos h1] at h
      have e : i.toNat = j := Option.some.inj h
      exact ⟨by rw [seqIndex_of h0 h1, e], by omega, by omega, h1⟩
    · rw [if_neg h1] at h; cases h
  · rw [if_neg h0] at h
    by_cases h1 : -(n : Int) ≤ i
    · rw [if_pos h1] at h
      have e : (i + n).toNat = j := Option.some.inj h
      exact ⟨by rw [seqIndex_neg (by omega) h1, e], by omega, h1, by omega⟩
    · rw [if_neg h1] at h; cases h
theorem atI_get {α : Type} {xs : List α} {i : Int} {v : α} (h : atI xs i = some v) : ∃ j, seqIndex? i xs.length = some j ∧ xs[j]? = some v ∧ j < xs.length ∧ -(xs.length : Int) ≤ i ∧ i < xs.length := by
  unfold atI at h
  cases e : ixN xs.length i with
  | none => rw [e] at h; cases h
  | some j =>
    rw [e] at h
    obtain ⟨h1, h2, h3, h4⟩ := ixN_seq e
    exact ⟨j, h1, h, h2, h3, h4⟩
theorem atI_nat {α : Type} {xs : List α} {j : Nat} {v : α} (h : xs[j]? = some v) : atI xs (j : Int) = some v := by
  have hj : j < xs.length := (List.getElem?_eq_some_iff.mp h).1
  have e : ixN xs.length (j : Int) = some j := by
    unfold ixN
    rw [if_pos (by omega), if_pos (by omega)]; simp
  unfold atI; rw [e]; exact h
def PlainIx (b : Expr) : Prop := ∀ o i, subscripted b false o i = operate [o, i] (getItem o i)
def IxR (X : Cx) (r : R2) : Prop :=
  ∀ (value slice : Expr) (pins : List (Addr × Obj)) (s : Shared) (σ : St) (H : Hp) (x y : V) (v u : Value) (Q : VK), Inv X pins σ H s → RelV x v → RelV y u → r x y H Q →
    subscripted slice false v u = operate [v, u] (getItem v u) → wpAny (model X.prog X.w) X.A (subscriptTail value slice v u) (EP X pins σ Q) X.xe s
def MtR (X : Cx) (id : String) (r : V → List V → Hp → VK → Prop) : Prop :=
  ∀ (pins : List (Addr × Obj)) (s : Shared) (σ : St) (H : Hp) (x : V) (xs : List V) (v : Value) (us : List Value) (Q : VK), Inv X pins σ H s → RelV x v → Vals xs us → r x xs H Q →
    wpAny (model X.prog X.w) X.A (call (.builtin id) (v :: us)) (EP X pins σ Q) X.xe s
section
variable {X : Cx} {a b : Expr} {ta tb : TE} {pos : Pos}
theorem pe_ix {r : R2} (hr : IxR X r) (ha : PE X a ta) (hb : PE X b tb) (hs : PlainIx b) : PE X (.Subscript a b pos) (tOp r ta tb) := by
  intro pins s σ H Q I h
  exact Subscript_ (binT ha hb I h fun v u s2 x y H2 I2 rx ry q => hr a b pins s2 σ H2 x y v u Q I2 rx ry q (hs _ _))
def rIxL (K : PySem.W.Frag) : R2 := fun x y H Q => ∃ p xs i v, x = .ref p ∧ y = .int i ∧ SqL K H p xs ∧ atI xs i = some v ∧ Q v H
theorem ix_list : IxR X (rIxL X.K) := by
  intro value slice pins s σ H x y v u Q I rx ry h hs
  obtain ⟨p, xs, i, z, rfl, rfl, hq, he, q⟩ := h
  cases rx
  obtain ⟨t, rfl⟩ := ry
  obtain ⟨its, r, pl, hz⟩ := I.list hq
  obtain ⟨j, h1, h2, h3, h4, h5⟩ := atI_get he
  obtain ⟨w, ew, rw'⟩ := r.get h2
  have hl := r.length
  have hn := line63
  have fin : EP X pins σ Q w s := ⟨z, H, I, rw', q⟩
  by_cases h0 : 0 ≤ i
  · have hj : i.toNat = j := by
      rw [seqIndex_of h0 h5] at h1
      exact Option.some.inj h1
    exact item_listR pl.isList h0 (by omega) (by rw [hj]; simpa using ew) fin hs
  · have hj : (i + (its.toArray.size : Int)).toNat = j := by
      rw [seqIndex_neg (by omega) h4] at h1
      rw [List.size_toArray, ← hl]
      exact Option.some.inj h1
    exact subscriptTail_builtinR (x := w) pl.isList.typeIs slot_list_getitem.lookup
      (wpAny_getItem_list_neg (Q := fun r s' => r = w ∧ EP X pins σ Q r s') pl.isList (by omega) (by rw [List.size_toArray] <;> omega) (by omega) (by rw [hj]; simpa using ew) ⟨rfl, fin⟩) hs
theorem mapSeq_set (its : List Value) (n j : Nat) (u : Value) : Obj.mapSeq (·.setIfInBounds j u) { cls := .type "list", data := .seq its.toArray n } = { cls := .type "list", data := .seq (its.set j u).toArray n } := by
  simp [Obj.mapSeq]
theorem Inv.lst {pins : List (Addr × Obj)} {σ : St} {H : Hp} {s : Shared} {p : Addr} {xs : List V} (I : Inv X pins σ H s) (h : H p = some (.lst xs)) :
    ∃ (its : List Value) (n : Nat), Vals xs its ∧ s.heap.get? p = some { cls := .type "list", data := .seq its.toArray n } ∧ xs.length ≤ sizeLine := by
  obtain ⟨z, its, n, r, e⟩ := I.hok p _ h
  exact ⟨its, n, r, e, z⟩
theorem Inv.lstUpd {pins : List (Addr × Obj)} {σ : St} {H : Hp} {s : Shared} {p : Addr} {xs ys : List V} {its its' : List Value} {n n' : Nat} {f : Obj → Obj} (I : Inv X pins σ H s) (h : H p = some (.lst xs))
    (ho : s.heap.get? p = some { cls := .type "list", data := .seq its.toArray n }) (hf : f { cls := .type "list", data := .seq its.toArray n } = { cls := .type "list", data := .seq its'.toArray n' }) (r : Vals ys its') (hz : ys.length ≤ sizeLine) (t : Nat) :
    Inv X pins σ (upd H p (.lst ys)) { s with heap := s.heap.update p f, toks := t } := by
  have e : (s.heap.update p f).get? p = some { cls := .type "list", data := .seq its'.toArray n' } := by
    rw [Heap.get?_update_self f ho (by rw [hf] <;> rfl), hf]
  refine I.write (x := p) (e := p) (by rw [h]; trivial) (.inl rfl) (fun b u hb q => (Heap.get?_update_other _ _ (Ne.symm hb)).trans q) ⟨_, e⟩ ?_
  exact ⟨hz, its', n', r, e⟩
def rSetL : V → V → V → Hp → (Hp → Prop) → Prop := fun o i v H Q => ∃ p xs k j, o = .ref p ∧ i = .int k ∧ H p = some (.lst xs) ∧ ixN xs.length k = some j ∧ Q (upd H p (.lst (xs.set j v)))
theorem set_list : PSet X rSetL := by
  intro pins s σ H o i v ov iv u Q I ro ri rv h
  obtain ⟨p, xs, k, j, rfl, rfl, hp, hj, q⟩ := h
  cases ro
  obtain ⟨t, rfl⟩ := ri
  obtain ⟨its, n, r, ho, hz⟩ := I.lst hp
  obtain ⟨h1, h2, h3, h4⟩ := ixN_seq hj
  have hl := r.length
  have hn := line63
  have I' : Inv X pins σ (upd H p (.lst (xs.set j v))) { s with heap := s.heap.update p (Obj.mapSeq (·.setIfInBounds j u)) } :=
    I.lstUpd hp ho (mapSeq_set its n j u) (r.set rv j) (by rw [List.length_set]; exact hz) s.toks
  by_cases h0 : 0 ≤ k
  · have hk : k.toNat = j := by
      rw [seqIndex_of h0 h4] at h1
      exact Option.some.inj h1
    exact PySem.W.ki_setAt ho h0 (by omega) (by rw [List.size_toArray, ← hl]; exact h4) (by rw [hk]; exact ⟨_, I', q⟩)
  · have hk : (k + (its.toArray.size : Int)).toNat = j := by
      rw [seqIndex_neg (by omega) h3] at h1
      rw [List.size_toArray, ← hl]
      exact Option.some.inj h1
    exact PySem.W.ki_setBack ho (by omega) (by rw [List.size_toArray, ← hl]; exact h3) (by omega) (by rw [hk]; exact ⟨_, I', q⟩)
theorem slice_bounds (lo hi : Option Int) (n : Nat) : (sliceBounds lo hi none n).1 = ((HT.sIx n 0 lo : Nat) : Int) ∧ (sliceBounds lo hi none n).2.1 = ((HT.sIx n n hi : Nat) : Int) ∧ (sliceBounds lo hi none n).2.2 = 1 := by
  refine ⟨?_, ?_, rfl⟩
  · cases lo with
    | none => simp [sliceBounds, HT.sIx]
    | some i =>
      simp only [sliceBounds, HT.sIx, Option.getD_none, show (1 : Int) > 0 by decide, if_true]
      by_cases h : i < 0
      · simp only [h, if_true] <;> omega
      · simp only [h, if_false] <;> omega
  · cases hi with
    | none => simp [sliceBounds, HT.sIx]
    | some i =>
      simp only [sliceBounds, HT.sIx, Option.getD_none, show (1 : Int) > 0 by decide, if_true]
      by_cases h : i < 0
      · simp only [h, if_true] <;> omega
      · simp only [h, if_false] <;> omega
theorem slicePick_cut (its : List Value) (lo hi : Option Int) : slicePick its.toArray lo hi none = ((its.drop (HT.sIx its.length 0 lo)).take (HT.sIx its.length its.length hi - HT.sIx its.length 0 lo)).toArray := by
  obtain ⟨h1, h2, h3⟩ := slice_bounds lo hi its.toArray.size
  unfold slicePick
  rw [h1, h2, h3]
  simp only [sliceRange_one, pick_run, List.size_toArray] <;> rfl
def rSlL (K : PySem.W.Frag) : V → Option Int → Option Int → Hp → VK → Prop := fun x lo hi H Q => ∃ a xs, x = .ref a ∧ SqL K H a xs ∧ ∀ p, H p = none → Q (.ref p) (upd H p (.lst (cutV xs lo hi)))
theorem sl_list : SlR X (rSlL X.K) := by
  intro pins s σ H x v vl vu lo hi sl Q I rx hs pl pu h
  obtain ⟨a, xs, rfl, hx, q⟩ := h
  cases rx
  obtain ⟨its, r, ht, hz⟩ := I.list hx
  have hlen := r.length
  refine ⟨"list", _, slot_list_getitem.lookup, ht.isList.typeIs, ?_⟩
  refine wpAny_getItem_list_slice ht.isList hs pl pu .none (by simp) ?_ (by rw [List.size_toArray] <;> omega)
  rw [slicePick_cut, ← hlen]
  refine ⟨.ref s.heap.objs.size, _, I.laid (t' := s.toks) (o := .lst (cutV xs lo hi)) (fun b ob q => Heap.get?_push_of_some _ q) (Nat.le_refl _) ?_, rfl, q _ (I.hok.fresh (Nat.le_refl _))⟩
  exact ⟨Nat.le_trans (cutV_length xs lo hi) hz, _, 0, (r.drop (HT.sIx xs.length 0 lo)).take (HT.sIx xs.length xs.length hi - HT.sIx xs.length 0 lo), Heap.get?_push_size _ rfl⟩
def flatV : V → Bool
  | .non => true
  | .bl _ => true
  | .int _ => true
  | .str _ => true
  | _ => false
def eqV : V → V → Bool
  | .non, .non => true
  | .bl a, .bl b => a == b
  | .bl a, .int b => (if a then 1 else 0) == b
  | .int a, .bl b => a == (if b then 1 else 0)
  | .int a, .int b => a == b
  | .str a, .str b => a == b
  | _, _ => false
theorem eqAt_V {A : Around} {s : Shared} {y x : V} {u v : Value} (ry : RelV y u) (rx : RelV x v) (fy : flatV y = true) (fx : flatV x = true) : SeqAt.EqAt A s u v (eqV y x) := by
  cases y with
  | non =>
    cases ry
    cases x with
    | non => cases rx; exact SeqAt.EqAt.same _
    | bl b => cases rx; exact SeqAt.EqAt.none_bool b
    | int b => obtain ⟨t, rfl⟩ := rx; exact SeqAt.EqAt.none_int b t
    | str b => obtain ⟨t, rfl⟩ := rx; exact SeqAt.EqAt.none_str b t
    | _ => exact absurd (show false = true from fx) Bool.false_ne_true
  | bl a =>
    cases ry
    cases x with
    | non => cases rx; exact SeqAt.EqAt.bool_none a
    | bl b => cases rx; exact SeqAt.EqAt.bool_bool a b
    | int b => obtain ⟨t, rfl⟩ := rx; exact SeqAt.EqAt.bool_int a b t
    | str b => obtain ⟨t, rfl⟩ := rx; exact SeqAt.EqAt.bool_str a b t
    | _ => exact absurd (show false = true from fx) Bool.false_ne_true
  | int a =>
    obtain ⟨t', rfl⟩ := ry
    cases x with
    | non => cases rx; exact SeqAt.EqAt.int_none a t'
    | bl b => cases rx; exact SeqAt.EqAt.int_bool a t' b
    | int b => obtain ⟨t, rfl⟩ := rx; exact SeqAt.EqAt.int_int a t' b t
    | str b => obtain ⟨t, rfl⟩ := rx; exact SeqAt.EqAt.int_str a t' b t
    | _ => exact absurd (show false = true from fx) Bool.false_ne_true
  | str a =>
    obtain ⟨t', rfl⟩ := ry
    cases x with
    | non => cases rx; exact SeqAt.EqAt.str_none a t'
    | bl b => cases rx; exact SeqAt.EqAt.str_bool a t' b
    | int b => obtain ⟨t, rfl⟩ := rx; exact SeqAt.EqAt.str_int a t' b t
    | str b => obtain ⟨t, rfl⟩ := rx; exact SeqAt.EqAt.str_str a t' b t
    | _ => exact absurd (show false = true from fx) Bool.false_ne_true
  | _ => exact absurd (show false = true from fy) Bool.false_ne_true
def eqU (x : V) (u : Value) : Bool := match u with
  | .none => eqV .non x
  | .bool b => eqV (.bl b) x
  | .int i _ => eqV (.int i) x
  | .str z _ => eqV (.str z) x
  | _ => false
theorem eqU_of {x y : V} {u : Value} (r : RelV y u) (f : flatV y = true) : eqU x u = eqV y x := by
  cases y with
  | non => cases r; rfl
  | bl b => cases r; rfl
  | int i => obtain ⟨t, rfl⟩ := r; rfl
  | str z => obtain ⟨t, rfl⟩ := r; rfl
  | _ => exact absurd (show false = true from f) Bool.false_ne_true
theorem any_eqU {x : V} : ∀ {xs : List V} {us : List Value}, Vals xs us → xs.all flatV = true → us.any (eqU x) = xs.any fun y => eqV y x
  | _, _, .nil, _ => rfl
  | y :: xs, u :: us, .cons r t, f => by
    rw [List.all_cons, Bool.and_eq_true] at f
    rw [List.any_cons, List.any_cons, eqU_of r f.1, any_eqU t f.2]
theorem mem_eqAt {A : Around} {s : Shared} {x : V} {v : Value} (rx : RelV x v) (fx : flatV x = true) : ∀ {xs : List V} {us : List Value}, Vals xs us → xs.all flatV = true → ∀ u ∈ us, SeqAt.EqAt A s u v (eqU x u)
  | _, _, .nil, _ => fun u hu => by cases hu
  | y :: xs, u :: us, .cons r t, f => fun u' hu => by
    rw [List.all_cons, Bool.and_eq_true] at f
    rcases List.mem_cons.mp hu with rfl | hu
    · rw [eqU_of r f.1]; exact eqAt_V r rx f.1 fx
    · exact mem_eqAt rx fx t f.2 u' hu
def inV (x : V) (xs : List V) : Bool := xs.any fun y => eqV y x
def rIn (K : PySem.W.Frag) (neg : Bool) : R2 := fun x y H Q => ∃ p xs, y = .ref p ∧ (SqL K H p xs ∨ SqT K H p xs) ∧ flatV x = true ∧ xs.all flatV = true ∧ Q (.bl (if neg then !inV x xs else inV x xs)) H
theorem op_in_seq : OpR X (compareOp .In) (rIn X.K false) := by
  intro pins s σ H x y v u Q I rx ry h
  obtain ⟨p, xs, rfl, hq, fx, fs, q⟩ := h
  cases ry
  rcases hq with hq | hq
  · obtain ⟨its, r, pl, hz⟩ := I.list hq
    refine SeqAt.in_listAt (eqU x) pl.isList (fun w hw => mem_eqAt rx fx r fs w (by simpa using hw)) ⟨.bl _, H, I, rfl, ?_⟩
    rw [show its.toArray.any (eqU x) = its.any (eqU x) by simp, any_eqU r fs]
    exact q
  · obtain ⟨its, r, pl, hz⟩ := I.tuple hq
    refine SeqAt.in_tupleAt (eqU x) pl (fun w hw => mem_eqAt rx fx r fs w (by simpa using hw)) ⟨.bl _, H, I, rfl, ?_⟩
    rw [show its.toArray.any (eqU x) = its.any (eqU x) by simp, any_eqU r fs]
    exact q
theorem call_len_seq : CallR X (.builtin "len") (fun xs H Q => ∃ p ys, xs = [.ref p] ∧ (SqL X.K H p ys ∨ SqT X.K H p ys) ∧ Q (.int ys.length) H) := by
  intro pins s σ H xs us Q I r h
  obtain ⟨p, ys, rfl, hq, q⟩ := h
  obtain ⟨u, rfl, rx⟩ := vals1 r
  cases rx
  have hn := line63
  rcases hq with hq | hq
  · obtain ⟨its, r', pl, hz⟩ := I.list hq
    have hlen := r'.length
    exact Calls.call_len_list pl.isList (by simp only [List.size_toArray] <;> omega) ⟨.int ys.length, H, I.tok _, ⟨s.toks + 1, by rw [List.size_toArray, hlen]⟩, q⟩
  · obtain ⟨its, r', pl, hz⟩ := I.tuple hq
    have hlen := r'.length
    exact len_tuple pl (by simp only [List.size_toArray] <;> omega) ⟨.int ys.length, H, I.tok _, ⟨s.toks + 1, by rw [List.size_toArray, hlen]⟩, q⟩
theorem call_len_str : CallR X (.builtin "len") (fun xs H Q => ∃ z, xs = [.str z] ∧ z.length ≤ sizeLine ∧ Q (.int z.length) H) := by
  intro pins s σ H xs us Q I r h
  obtain ⟨z, rfl, hz, q⟩ := h
  obtain ⟨u, rfl, t, rfl⟩ := vals1 r
  have hn := line63
  exact len_str (by omega) ⟨.int z.length, H, I.tok _, ⟨_, rfl⟩, q⟩
theorem call_list_of : CallR X (.type "list") (fun xs H Q => ∃ p ys, xs = [.ref p] ∧ (SqL X.K H p ys ∨ SqT X.K H p ys) ∧ ∀ l, H l = none → Q (.ref l) (upd H l (.lst ys))) := by
  intro pins s σ H xs us Q I r h
  obtain ⟨p, ys, rfl, hq, q⟩ := h
  obtain ⟨u, rfl, rx⟩ := vals1 r
  cases rx
  have fin : ∀ (its : List Value), Vals ys its → ys.length ≤ sizeLine → ∀ (h' : Heap) (c' : Nat), (∀ b o', s.heap.get? b = some o' → h'.get? b = some o') →
      h'.get? s.heap.objs.size = some { cls := .type "list", dict := none, data := .seq its.toArray c', slots := #[] } → EP X pins σ Q (.ref s.heap.objs.size) { s with heap := h' } := fun its r' hz h' c' kp e =>
    ⟨.ref s.heap.objs.size, _, I.laid (t' := s.toks) kp (Nat.le_refl _) (show ObjOk X.prog X.w _ h' _ (.lst ys) from ⟨hz, its, c', r', e⟩), rfl, q _ (I.hok.fresh (Nat.le_refl _))⟩
  rcases hq with hq | hq
  · obtain ⟨its, r', pl, hz⟩ := I.list hq
    have hlen := r'.length
    obtain ⟨o, ho, hc, n, hd⟩ := pl.isList
    exact call_list_seq p (.inl rfl) ho hc hd (fun h' c' kp e => fin its r' hz h' c' kp e) (by simp only [List.size_toArray] <;> omega)
  · obtain ⟨its, r', pl, hz⟩ := I.tuple hq
    have hlen := r'.length
    obtain ⟨o, ho, hc, n, hd⟩ := pl
    exact call_list_seq p (.inr rfl) ho hc hd (fun h' c' kp e => fin its r' hz h' c' kp e) (by simp only [List.size_toArray] <;> omega)
def tyV (K : PySem.W.Frag) (T : String) (x : V) (H : Hp) : Prop := match x with
  | .str _ => T = "str"
  | .int _ => T = "int"
  | .ref p => (T = "list" ∧ ∃ xs, SqL K H p xs) ∨ (T = "tuple" ∧ ∃ o, K.lookup p = some o ∧ o.cls = .type "tuple" ∧ o.dict = none) ∨
      (T = "dict" ∧ ((∃ kvs, H p = some (.dK kvs)) ∨ ∃ kvs, H p = some (.dT kvs))) ∨ (T = "set" ∧ ∃ S n, H p = some (.set S n))
  | _ => False
theorem tyV_is {pins : List (Addr × Obj)} {σ : St} {H : Hp} {s : Shared} {T : String} {x : V} {v : Value} (I : Inv X pins σ H s) (r : RelV x v) (ty : tyV X.K T x H) :
    s.TypeIs v T ∧ ∀ a, v = .ref a → ∃ ob, s.heap.get? a = some ob ∧ ob.dict = none := by
  cases x with
  | str z =>
    obtain ⟨t, rfl⟩ := r
    cases (show T = "str" from ty)
    exact ⟨typeIs_str s z t, fun _ e => nomatch e⟩
  | int i =>
    obtain ⟨t, rfl⟩ := r
    cases (show T = "int" from ty)
    exact ⟨typeIs_int s i t, fun _ e => nomatch e⟩
  | ref p =>
    cases r
    rcases ty with ⟨rfl, xs, hq⟩ | ⟨rfl, o, hk, hc, hd⟩ | ⟨rfl, hk⟩ | ⟨rfl, S, n, hk⟩
    · obtain ⟨its, _, pl, _⟩ := I.list hq
      refine ⟨pl.isList.typeIs, fun a e => ?_⟩
      cases e
      obtain ⟨o, n, e, c, hd, _⟩ := pl
      exact ⟨o, e, hd⟩
    · refine ⟨⟨o, I.kIn p o hk, hc⟩, fun a e => ?_⟩
      cases e
      exact ⟨o, I.kIn _ o hk, hd⟩
    · have z : ∃ o, s.heap.get? p = some o ∧ o.ExactDict := by
        rcases hk with ⟨kvs, hk⟩ | ⟨kvs, hk⟩
        · obtain ⟨_, _, _, _, o, _, _, e, ex, _⟩ := I.hok p _ hk
          exact ⟨o, e, ex⟩
        · obtain ⟨_, _, _, _, o, _, _, e, ex, _⟩ := I.hok p _ hk
          exact ⟨o, e, ex⟩
      obtain ⟨o, e, ex⟩ := z
      refine ⟨⟨o, e, ex.1⟩, fun a e2 => ?_⟩
      cases e2
      exact ⟨o, e, ex.2.1⟩
    · obtain ⟨o, _, _, _, e, ex, _⟩ := I.hok p _ hk
      refine ⟨⟨o, e, ex.1⟩, fun a e2 => ?_⟩
      cases e2
      exact ⟨o, e, ex.2.1⟩
  | _ => exact False.elim ty
variable {o e : Expr} {es : List Expr} {to : TE} {t : TA} {name : Str} {apos cpos : Pos} {T id : String} {r : V → List V → Hp → VK → Prop}
end
end L2
namespace L2
open PySem PySem.Spec PyProof.Rows
def MtM (X : Cx) (id : String) (r : V → List V → Hp → VK → Prop) : Prop :=
  ∀ (pins : List (Addr × Obj)) (s : Shared) (σ : St) (H : Hp) (x : V) (xs : List V) (v : Value) (us : List Value) (Q : VK), Inv X pins σ H s → RelV x v → Vals xs us → r x xs H Q →
    wpAny (model X.prog X.w) X.A (call (.builtin id) (v :: us)) (EP X pins σ Q) X.xe s
theorem Vals.one : ∀ {x : V} {us : List Value}, Vals [x] us → ∃ u, us = [u] ∧ RelV x u
  | _, _, .cons r .nil => ⟨_, rfl, r⟩
theorem Vals.eraseIdx : ∀ {xs : List V} {us : List Value} (i : Nat), Vals xs us → Vals (xs.eraseIdx i) (us.eraseIdx i)
  | _, _, _, .nil => .nil
  | _, _, 0, .cons _ t => t
  | _, _, i + 1, .cons r t => .cons r (Vals.eraseIdx i t)
theorem Vals.rep {xs : List V} {us : List Value} (h : Vals xs us) : ∀ k : Nat, Vals (List.replicate k xs).flatten (List.replicate k us).flatten
  | 0 => .nil
  | k + 1 => by
    rw [List.replicate_succ, List.replicate_succ, List.flatten_cons, List.flatten_cons]
    exact Vals.append h (Vals.rep h k)
theorem len_erase {α : Type} : ∀ (l : List α) (i : Nat), (l.eraseIdx i).length ≤ l.length
  | [], _ => Nat.le_refl _
  | _ :: _, 0 => Nat.le_succ _
  | _ :: r, i + 1 => Nat.succ_le_succ (len_erase r i)
theorem foldl_rep (its : List Value) : ∀ (k : Nat) (acc : List Value),
    List.foldl (fun x1 x2 => x1 ++ x2) acc.toArray (List.replicate k its.toArray) = (acc ++ (List.replicate k its).flatten).toArray
  | 0, acc => by simp
  | k + 1, acc => by
    have e : acc.toArray ++ its.toArray = (acc ++ its).toArray := by simp
    have e2 : (acc ++ its) ++ (List.replicate k its).flatten = acc ++ (List.replicate (k + 1) its).flatten := by
      rw [List.replicate_succ, List.flatten_cons, List.append_assoc]
    rw [← e2, ← foldl_rep its k (acc ++ its), ← e, List.replicate_succ, List.foldl_cons]
section
variable {X : Cx} {pins : List (Addr × Obj)} {σ : St} {H : Hp} {s : Shared} {l b : Addr} {xs ys zs : List V}
theorem Inv.lset {its its' : List Value} {n : Nat} {f : Array Value → Array Value} {t' : Nat} (I : Inv X pins σ H s) (hH : H l = some (.lst xs))
    (e : s.heap.get? l = some { cls := .type "list", data := .seq its.toArray n }) (hf : f its.toArray = its'.toArray) (hv : Vals ys its') (hz : ys.length ≤ sizeLine) :
    Inv X pins σ (upd H l (.lst ys)) { s with heap := s.heap.update l (Obj.mapSeq f), toks := t' } := by
  have q := PySem.IsL.update e f
  rw [hf] at q
  refine I.write (x := l) (e := l) (by rw [hH]; exact trivial) (.inl rfl) (fun b' u hb hu => (Heap.get?_update_other s.heap (Obj.mapSeq f) (Ne.symm hb)).trans hu) ⟨_, q⟩ ?_
  exact ⟨hz, its', _, hv, q⟩
theorem Inv.lnew {its : List Value} {t' : Nat} (I : Inv X pins σ H s) (hv : Vals ys its) (hz : ys.length ≤ sizeLine) :
    Inv X pins σ (upd H s.heap.objs.size (.lst ys)) { s with heap := s.heap.push { cls := .type "list", data := .seq its.toArray }, toks := t' } :=
  I.laid (fun _ _ q => Heap.get?_push_of_some _ q) (Nat.le_refl _) ⟨hz, its, 0, hv, Heap.get?_push_size _ rfl⟩
theorem Inv.fresh (I : Inv X pins σ H s) : H s.heap.objs.size = none := I.hok.fresh (Nat.le_refl _)
theorem Inv.lstM (I : Inv X pins σ H s) (hH : H l = some (.lst xs)) : xs.length ≤ sizeLine ∧ ∃ (its : List Value) (n : Nat), Vals xs its ∧ xs.length = its.length ∧ s.heap.get? l = some { cls := .type "list", data := .seq its.toArray n } := by
  obtain ⟨z, its, n, r, e⟩ := I.hok l _ hH
  exact ⟨z, its, n, r, r.length, e⟩
theorem notLongL {n : Nat} (h : n ≤ sizeLine) : Builtin.List.listTooLong n = false := by
  unfold Builtin.List.listTooLong
  exact decide_eq_false (by omega)
end
section
variable {X : Cx}
def rAppend : V → List V → Hp → VK → Prop := fun x vs H Q => ∃ l xs y, x = .ref l ∧ vs = [y] ∧ H l = some (.lst xs) ∧ xs.length < sizeLine ∧ Q .non (upd H l (.lst (xs ++ [y])))
theorem mt_append : MtM X "list.append" rAppend := by
  intro pins s σ H x vs v us Q I rx rv h
  obtain ⟨l, xs, y, rfl, rfl, hH, hz, q⟩ := h
  cases rx
  obtain ⟨u, rfl, ru⟩ := rv.one
  obtain ⟨z, its, n, r, hl, e⟩ := I.lstM hH
  refine call_meets F.slot_list_append ⟨_, e, rfl⟩ F.entry_list_append (F.args_list_append_2 _ _) (PySem.list_append l its.toArray n u (by rw [List.size_toArray]; omega)) ⟨e, ?_⟩
  refine ⟨.non, _, I.lset (its' := its ++ [u]) hH e (by simp) (r.append (.cons ru .nil)) ?_, rfl, q⟩
  rw [List.length_append, List.length_singleton]
  omega
def rExtend : V → List V → Hp → VK → Prop := fun x vs H Q => ∃ l b xs zs, x = .ref l ∧ vs = [.ref b] ∧ H l = some (.lst xs) ∧ H b = some (.lst zs) ∧ xs.length + zs.length ≤ sizeLine ∧ Q .non (upd H l (.lst (xs ++ zs)))
theorem mt_extend : MtM X "list.extend" rExtend := by
  intro pins s σ H x vs v us Q I rx rv h
  obtain ⟨l, b, xs, zs, rfl, rfl, hH, hB, hz, q⟩ := h
  cases rx
  obtain ⟨u, rfl, ru⟩ := rv.one
  cases ru
  obtain ⟨z, its, n, r, hl, e⟩ := I.lstM hH
  obtain ⟨z2, its2, n2, r2, hl2, e2⟩ := I.lstM hB
  have hsz : its.toArray.size + its2.toArray.size ≤ sizeLine := by rw [List.size_toArray, List.size_toArray]; omega
  have hlong : ¬ (!its.toArray.isEmpty && Builtin.List.listTooLong (its.toArray.size + its2.toArray.size)) = true := by
    rw [notLongL hsz, Bool.and_false]
    exact Bool.false_ne_true
  refine call_meets F.slot_list_extend ⟨_, e, rfl⟩ F.entry_list_extend (F.args_list_extend_2 _ _)
    (AutoSeq1.list_extend_list_list_0 l its.toArray n b its2.toArray n2 hlong (by rw [List.size_toArray]; omega) (by omega)) ⟨e, e2, ?_⟩
  refine ⟨.non, _, I.lset (its' := its ++ its2) hH e (by simp) (r.append r2) ?_, rfl, q⟩
  rw [List.length_append]
  omega
def rPopAt : V → List V → Hp → VK → Prop := fun x vs H Q => ∃ l xs i k y, x = .ref l ∧ vs = [.int i] ∧ H l = some (.lst xs) ∧ -(2 ^ 63) ≤ i ∧ i < 2 ^ 63 ∧ seqIndex? i xs.length = some k ∧ xs[k]? = some y ∧ Q y (upd H l (.lst (xs.eraseIdx k)))
theorem mt_popAt : MtM X "list.pop" rPopAt := by
  intro pins s σ H x vs v us Q I rx rv h
  obtain ⟨l, xs, i, k, y, rfl, rfl, hH, h1, h2, hk, hy, q⟩ := h
  cases rx
  obtain ⟨u, rfl, ru⟩ := rv.one
  obtain ⟨t, rfl⟩ := ru
  obtain ⟨z, its, n, r, hl, e⟩ := I.lstM hH
  obtain ⟨w, hw, rw'⟩ := r.get hy
  refine call_meets F.slot_list_pop ⟨_, e, rfl⟩ F.entry_list_pop (F.args_list_pop_2 _ _)
    (MeetsSeq.list_pop_at l its.toArray n i t k w (fitsIndex_both h1 h2) (by rw [List.size_toArray, ← hl]; exact hk) (by rw [← Array.getElem?_toList]; exact hw) (by rw [List.size_toArray]; omega)) ⟨e, ?_⟩
  refine ⟨y, _, I.lset (its' := its.eraseIdx k) hH e ?_ (r.eraseIdx k) ?_, rw', q⟩
  · show its.toArray.eraseIdxIfInBounds k = (its.eraseIdx k).toArray
    rw [List.eraseIdxIfInBounds_toArray]
  · have := len_erase xs k
    omega
def rCat : R2 := fun x y H Q => ∃ l b xs zs, x = .ref l ∧ y = .ref b ∧ H l = some (.lst xs) ∧ H b = some (.lst zs) ∧ xs.length + zs.length ≤ sizeLine ∧ ∀ p, H p = none → Q (.ref p) (upd H p (.lst (xs ++ zs)))
theorem op_cat : OpR X (binaryOp .Add) rCat := by
  intro pins s σ H x y v u Q I rx ry h
  obtain ⟨l, b, xs, zs, rfl, rfl, hH, hB, hz, q⟩ := h
  cases rx
  cases ry
  obtain ⟨z, its, n, r, hl, e⟩ := I.lstM hH
  obtain ⟨z2, its2, n2, r2, hl2, e2⟩ := I.lstM hB
  refine PySem.P.add_list e e2 ?_ (by rw [List.size_toArray, List.size_toArray]; omega)
  have ea : its.toArray ++ its2.toArray = (its ++ its2).toArray := by simp
  rw [ea]
  exact ⟨.ref _, _, I.lnew (t' := s.toks) (r.append r2) (by rw [List.length_append]; omega), rfl, q _ I.fresh⟩
def rRep : R2 := fun x y H Q => ∃ l k xs, x = .ref l ∧ y = .int k ∧ H l = some (.lst xs) ∧ -(2 ^ 63) ≤ k ∧ k < 2 ^ 63 ∧ xs.length * k.toNat ≤ sizeLine ∧
  ∀ p, H p = none → Q (.ref p) (upd H p (.lst (List.replicate k.toNat xs).flatten))
theorem len_rep {α : Type} (xs : List α) (k : Nat) : (List.replicate k xs).flatten.length = k * xs.length := by
  induction k with
  | zero => simp
  | succ k ih => rw [List.replicate_succ, List.flatten_cons, List.length_append, ih, Nat.succ_mul, Nat.add_comm]
theorem op_rep : OpR X (binaryOp .Mult) rRep := by
  intro pins s σ H x y v u Q I rx ry h
  obtain ⟨l, k, xs, rfl, rfl, hH, h1, h2, hz, q⟩ := h
  cases rx
  obtain ⟨t, rfl⟩ := ry
  obtain ⟨z, its, n, r, hl, e⟩ := I.lstM hH
  have hlen : its.toArray.size * k.toNat ≤ sizeLine := by rw [List.size_toArray, ← hl]; exact hz
  have hcap : ¬ its.toArray.size * k.toNat > (2 ^ 63 - 1) / 8 := by
    have : (sizeLine : Nat) ≤ (2 ^ 63 - 1) / 8 := by decide
    omega
  have hfit : ¬ (!Builtin.List.listFitsIndex k) = true := by
    rw [fitsIndex_both h1 h2]
    exact Bool.false_ne_true
  have hlong : ¬ Builtin.List.listTooLong (its.toArray.size * k.toNat) = true := by
    rw [notLongL hlen]
    exact Bool.false_ne_true
  have hnew : List.foldl (fun x1 x2 => x1 ++ x2) #[] (List.replicate (if its.toArray.isEmpty = true then 0 else k.toNat) its.toArray) = (List.replicate k.toNat its).flatten.toArray := by
    have f0 : ∀ m : Nat, List.foldl (fun x1 x2 => x1 ++ x2) #[] (List.replicate m its.toArray) = (List.replicate m its).flatten.toArray := fun m => by
      have := foldl_rep its m []
      rw [List.nil_append] at this
      exact this
    rw [f0]
    cases its with
    | nil => simp
    | cons a r' => rw [if_neg (by simp)]
  refine wpAny_binaryOp_repeat_ref (T := "list") (U := "int") (by decide) ⟨_, e, rfl⟩ (fun s' => typeIs_int s' k t) noFill_list_mul F.fills_int_mul F.slot_int_rmul repeat_list F.slot_int_index.lookup
    (call_meets F.slot_int_rmul (typeIs_int s k t) F.entry_int_rmul (F.args_int_rmul_2 _ _) (int___rmul___int_list k t l its.toArray n)
      ⟨e, rfl, ⟨_, e, rfl⟩, call_meets F.slot_list_mul ⟨_, e, rfl⟩ F.entry_list_mul (F.args_list_mul_2 _ _) (AutoListH.list___mul___list_int_3 l its.toArray n k t hfit hcap hlong) ⟨e, ?_⟩⟩)
  rw [hnew]
  exact ⟨.ref _, _, I.lnew (t' := s.toks) (r.rep k.toNat) (by rw [len_rep, Nat.mul_comm]; exact hz), rfl, q _ I.fresh⟩
end
end L2
namespace L2
open PySem PySem.Spec PyProof.Rows
theorem Vals.ints : ∀ {ns : List Int} {us : List Value}, Vals (ns.map V.int) us → IntsAre us ns
  | [], us, h => by
    rw [List.map_nil] at h
    cases h
    exact IntsAre.nil
  | n :: ns, us, h => by
    rw [List.map_cons] at h
    cases h with
    | cons r t =>
      obtain ⟨k, rfl⟩ := r
      exact IntsAre.cons n k (Vals.ints t)
theorem Vals.bls : ∀ {bs : List Bool} {us : List Value}, Vals (bs.map V.bl) us → us = bs.map Value.bool
  | [], us, h => by
    rw [List.map_nil] at h
    cases h
    rfl
  | b :: bs, us, h => by
    rw [List.map_cons] at h
    cases h with
    | cons r t =>
      cases r
      rw [Vals.bls t, List.map_cons]
theorem Vals.ref1 {a : Addr} {us : List Value} (r : Vals [V.ref a] us) : us = [Value.ref a] := by
  cases r with
  | cons r t =>
    cases t
    cases r
    rfl
section
variable {prog : Program} {w : World} {A : Around} {E : Value → Shared → Prop} {s : Shared} {l : Addr} {its : List Value} {ns : List Int} {Q : Value → Shared → Prop}
theorem sum_raw (hh : A.handled = none) (hl : s.heap.IsList l its.toArray) (hi : IntsAre its ns)
    (h : ∀ h' tk t', (∀ b o, s.heap.get? b = some o → h'.get? b = some o) → Q (.int ns.sum t') { s with heap := h', toks := tk }) : wpAny (model prog w) A (call (.builtin "sum") [.ref l]) Q E s := by
  obtain ⟨xs, e⟩ := hi.allInts.items
  have hn : numsOf (intItems xs).toList = ns := by rw [← e]; exact hi.numsOf
  rw [nums_intItems] at hn
  rw [e] at hl
  refine PySem.sum_intListG hh hl fun h' tk t' hk => ?_
  have := h h' tk t' hk
  rw [preSum_eq, List.take_of_length_le (by simp), hn]; exact this
end
section
variable {X : Cx}
def rSum (K : PySem.W.Frag) : List V → Hp → VK → Prop := fun vs H Q => ∃ (a : Addr) (ns : List Int), vs = [V.ref a] ∧ SqL K H a (ns.map V.int) ∧ Q (.int ns.sum) H
theorem cr_sum (hc : X.calm = true) : CallR X (.builtin "sum") (rSum X.K) := by
  intro pins s σ H vs us Q I r h
  obtain ⟨a, ns, rfl, hs, q⟩ := h
  obtain ⟨its, rv, hl, _⟩ := I.list hs
  rw [Vals.ref1 r]
  exact sum_raw (I.ok.hd hc) hl.isList rv.ints fun h' tk t' hk => ⟨.int _, H, I.kept hk, ⟨_, rfl⟩, q⟩
end
theorem iter_any {prog : Program} {w : World} {A : Around} {E : Value → Shared → Prop} {s : Shared} {l : Addr} {items : Array Value} {Q : Value → Shared → Prop} (hl : s.heap.IsList l items)
    (h : ∀ s₂ : Shared, s₂ = { s with heap := s.heap.push { cls := .type "list_iterator", data := .fields #[.ref l, .int 0 0] } } →
      (s₂.heap.IsListIter s.heap.objs.size l 0 ∧ s₂.heap.IsList l items) → l ≠ s.heap.objs.size → Q (.ref s.heap.objs.size) s₂) : wpAny (model prog w) A (pyIter (.ref l)) Q E s := by
  have hlt : l < s.heap.objs.size := by obtain ⟨_, e, _⟩ := hl; exact Heap.lt_size e
  exact wpAny_pyIter_list hl (h _ rfl ⟨⟨_, Heap.get?_push_size _ rfl, rfl, rfl⟩, hl.push _⟩ (Nat.ne_of_lt hlt))
theorem truth_bools {prog : Program} {w : World} {A : Around} {bs : List Bool} {its : List Value} (e : its = bs.map Value.bool) :
    TruthOf prog w A (fun i v => its.toArray[i]? = some v) (fun i => bs.getD i false) := fun i v s Q E hv hq => by
  have hv' : its[i]? = some v := by simpa using hv
  rw [e, List.getElem?_map] at hv'
  obtain ⟨b, hb, rfl⟩ := Option.map_eq_some_iff.mp hv'
  have hg : bs.getD i false = b := by rw [List.getD_eq_getElem?_getD, hb] <;> rfl
  have hq' : Q (bs.getD i false) s := hq
  rw [hg] at hq'
  exact wpAny_truthy_bool hq'
theorem all_range : ∀ bs : List Bool, (List.range bs.length).all (fun i => bs.getD i false) = bs.all id
  | [] => rfl
  | b :: bs => by
    rw [List.length_cons, List.range_succ_eq_map, List.all_cons, List.all_map, List.all_cons, ← all_range bs]
    all_goals rfl
section
variable {X : Cx}
def rAll (K : PySem.W.Frag) : List V → Hp → VK → Prop := fun vs H Q => ∃ (a : Addr) (bs : List Bool), vs = [V.ref a] ∧ SqL K H a (bs.map V.bl) ∧ Q (.bl (bs.all id)) H
theorem cr_all (hc : X.calm = true) : CallR X (.builtin "all") (rAll X.K) := by
  intro pins s σ H vs us Q I r h
  obtain ⟨a, bs, rfl, hs, q⟩ := h
  obtain ⟨its, rv, hl, _⟩ := I.list hs
  rw [Vals.ref1 r]
  have hb := rv.bls
  refine call_all_walk (iter_any hl.isList fun s₂ e2 st hne => ?_)
  subst e2
  refine ⟨_, _, _, _, _, _, _, rfl, Walks.list (A := X.A.in1) (I.ok.hd hc) _ a hne its.toArray, st, truth_bools hb, fun h' tk hk => ?_⟩
  refine ⟨.bl _, H, I.kept fun b o eo => hk b o (fun hmem => ?_) (Heap.get?_push_of_some _ eo), ?_, q⟩
  · rcases List.mem_cons.mp hmem with e1 | hmem
    · exact absurd (e1 ▸ Heap.lt_size eo) (Nat.lt_irrefl _)
    · cases hmem
  · show Value.bool _ = Value.bool _
    rw [← all_range, hb, List.size_toArray, List.length_map]
end
mutual
inductive Dp (K : PySem.W.Frag) (H : Hp) : V → PyData → Prop
  | non : Dp K H .non .none
  | bl (b : Bool) : Dp K H (.bl b) (.bool b)
  | int (i : Int) : Dp K H (.int i) (.int i)
  | str (x : Str) : Dp K H (.str x) (.str x)
  | lst {a : Addr} {xs : List V} {ds : List PyData} : SqL K H a xs → DpAll K H xs ds → Dp K H (.ref a) (.list ds)
  | tup {a : Addr} {xs : List V} {ds : List PyData} : SqT K H a xs → DpAll K H xs ds → Dp K H (.ref a) (.tuple ds)
inductive DpAll (K : PySem.W.Frag) (H : Hp) : List V → List PyData → Prop
  | nil : DpAll K H [] []
  | cons {v : V} {vs : List V} {d : PyData} {ds : List PyData} : Dp K H v d → DpAll K H vs ds → DpAll K H (v :: vs) (d :: ds)
end
section
variable {X : Cx} {pins : List (Addr × Obj)} {σ : St} {H : Hp} {s : Shared}
mutual
theorem Dp.reads (I : Inv X pins σ H s) : ∀ (d : PyData) (v : V) (u : Value), Dp X.K H v d → RelV v u → ∃ as, Reads s.heap u d as
  | .none, _, _, h, r => by
    cases h
    cases r
    exact ⟨_, Reads.none⟩
  | .bool b, _, _, h, r => by
    cases h
    cases r
    exact ⟨_, Reads.bool b⟩
  | .int i, _, _, h, r => by
    cases h
    obtain ⟨t, rfl⟩ := r
    exact ⟨_, Reads.int i t⟩
  | .str x, _, _, h, r => by
    cases h
    obtain ⟨t, rfl⟩ := r
    exact ⟨_, Reads.str x t⟩
  | .list ds, _, _, h, r => by
    cases h with
    | lst hs ha =>
      cases r
      obtain ⟨its, rv, ⟨o, n, ho, hc, _, hd⟩, _⟩ := I.list hs
      obtain ⟨as, hr⟩ := Dp.readsAll I ds _ its ha rv
      exact ⟨_, Reads.list ho hc hd hr⟩
  | .tuple ds, _, _, h, r => by
    cases h with
    | tup hs ha =>
      cases r
      obtain ⟨its, rv, ⟨o, ho, hc, n, hd⟩, _⟩ := I.tuple hs
      obtain ⟨as, hr⟩ := Dp.readsAll I ds _ its ha rv
      exact ⟨_, Reads.tuple ho hc hd hr⟩
  | .dict _, _, _, h, _ => by cases h
theorem Dp.readsAll (I : Inv X pins σ H s) : ∀ (ds : List PyData) (vs : List V) (us : List Value), DpAll X.K H vs ds → Vals vs us → ∃ as, ReadsAll s.heap us ds as
  | [], _, _, h, r => by
    cases h
    cases r
    exact ⟨_, ReadsAll.nil⟩
  | d :: ds, _, _, h, r => by
    cases h with
    | cons h1 h2 =>
      cases r with
      | cons r1 r2 =>
        obtain ⟨as, q1⟩ := Dp.reads I d _ _ h1 r1
        obtain ⟨bs, q2⟩ := Dp.readsAll I ds _ _ h2 r2
        exact ⟨_, ReadsAll.cons q1 q2⟩
end
end
section
variable {X : Cx}
def rEqD (K : PySem.W.Frag) : R2 := fun x y H Q => ∃ d e, Dp K H x d ∧ Dp K H y e ∧ SeqAt.shaped d = true ∧ SeqAt.shaped e = true ∧ Q (.bl (PyData.eqv d e)) H
theorem op_eqD (hu : X.A.units + 64 < cLine) : OpR X (compareOp .Eq) (rEqD X.K) := by
  intro pins s σ H x y v u Q I rx ry h
  obtain ⟨d, e, hd, he, sd, se, q⟩ := h
  obtain ⟨as, r1⟩ := Dp.reads I d x v hd rx
  obtain ⟨bs, r2⟩ := Dp.reads I e y u he ry
  exact SeqAt.compareEq_shaped r1 r2 sd se hu ⟨.bl _, H, I, rfl, q⟩
end
end L2
namespace L2
open PySem PySem.Spec PyProof.Rows
abbrev CellAt (h : Heap) (c : Addr) (v : Option Value) : Prop := h.IsCell c v
def relS (scope sc : Scope) : Scope :=
  { scope with names := scope.names.map fun (n, k) => if (k == .free && sc.kind == .function && sc.names.lookup n == some .cell) then (n, .cell) else (n, k) }
def cloFrom (cells : List (Str × Addr)) : List (Str × NameKind) → List (Str × Addr) → List (Str × Addr)
  | [], acc => acc
  | (n, k) :: r, acc => if k == .free then cloFrom cells r ((n, (cells.lookup n).getD 0) :: acc) else cloFrom cells r acc
theorem closure_loop (env : Env) (f : Str × NameKind → List (Str × Addr) → Sem (ForInStep (List (Str × Addr))))
    (hf : ∀ n k c, f (n, k) c = if k == .free then (do let a ← cellOf env n; pure (.yield ((n, a) :: c))) else pure (.yield c)) :
    ∀ (names : List (Str × NameKind)) (acc : List (Str × Addr)), (∀ y ∈ names, y.2 = .free → ∃ c, env.cells.lookup y.1 = some c) → forIn names acc f = pure (cloFrom env.cells names acc)
  | [], acc, _ => by rw [List.forIn_nil]; rfl
  | (n, k) :: r, acc, h => by
    rw [List.forIn_cons, hf]
    have ih := fun acc => closure_loop env f hf r acc fun y hy => h y (List.mem_cons_of_mem _ hy)
    unfold cloFrom
    by_cases hk : (k == NameKind.free) = true
    · rw [if_pos hk, if_pos hk]
      obtain ⟨c, hc⟩ := h (n, k) List.mem_cons_self (by simpa using hk)
      have e : cellOf env n = pure c := by unfold cellOf; rw [hc]
      rw [e]
      have e2 : (env.cells.lookup n).getD 0 = c := by rw [hc]; rfl
      rw [e2]
      exact ih _
    · rw [if_neg hk, if_neg hk]
      exact ih _
theorem closure_ok {scope : Scope} {env : Env} (h : ∀ y ∈ scope.names, y.2 = .free → ∃ c, env.cells.lookup y.1 = some c) : closureFor scope env = pure (cloFrom env.cells scope.names []) := by
  simp only [closureFor]
  rw [closure_loop env _ (fun n k c => rfl) scope.names [] h]
  rfl
theorem mem_lookup {α : Type} : ∀ {l : List (Str × α)} {n : Str} {c : α}, (n, c) ∈ l → ∃ c', l.lookup n = some c'
  | (k, v) :: r, n, c, h => by
    rw [List.lookup_cons]
    cases hb : n == k with
    | true => exact ⟨_, rfl⟩
    | false =>
      rcases List.mem_cons.mp h with e | h
      · cases e; simp at hb
      · exact mem_lookup h
theorem cloFrom_mem {cells : List (Str × Addr)} : ∀ {names : List (Str × NameKind)} {acc : List (Str × Addr)} {n : Str} {c : Addr}, (n, c) ∈ cloFrom cells names acc → (n, c) ∈ acc ∨ ((n, .free) ∈ names ∧ c = (cells.lookup n).getD 0)
  | [], _, _, _, h => .inl h
  | (m, k) :: r, acc, n, c, h => by
    unfold cloFrom at h
    split at h
    · rename_i hk
      have hk : k = .free := by simpa using hk
      rcases cloFrom_mem h with h | ⟨h1, h2⟩
      · rcases List.mem_cons.mp h with e | h
        · cases e; exact .inr ⟨hk ▸ List.mem_cons_self, rfl⟩
        · exact .inl h
      · exact .inr ⟨List.mem_cons_of_mem _ h1, h2⟩
    · rcases cloFrom_mem h with h | ⟨h1, h2⟩
      · exact .inl h
      · exact .inr ⟨List.mem_cons_of_mem _ h1, h2⟩
theorem cloFrom_acc {cells : List (Str × Addr)} : ∀ {names : List (Str × NameKind)} {acc : List (Str × Addr)} {p : Str × Addr}, p ∈ acc → p ∈ cloFrom cells names acc
  | [], _, _, h => h
  | (m, k) :: r, acc, p, h => by
    unfold cloFrom
    split
    · exact cloFrom_acc (List.mem_cons_of_mem _ h)
    · exact cloFrom_acc h
theorem cloFrom_has {cells : List (Str × Addr)} : ∀ {names : List (Str × NameKind)} {acc : List (Str × Addr)} {n : Str}, (n, .free) ∈ names → (n, (cells.lookup n).getD 0) ∈ cloFrom cells names acc
  | (m, k) :: r, acc, n, h => by
    unfold cloFrom
    rcases List.mem_cons.mp h with e | h
    · cases e
      exact cloFrom_acc List.mem_cons_self
    · split
      · exact cloFrom_has h
      · exact cloFrom_has h
theorem cells_mem : ∀ {names : List (Str × NameKind)} {h : Heap} {acc : List (Str × Addr)} {x : Str} {c : Addr}, (x, c) ∈ cellsFrom h.objs.size names acc →
    (x, c) ∈ acc ∨ ((x, .cell) ∈ names ∧ h.objs.size ≤ c ∧ CellAt (pushCells h names) c none)
  | [], _, _, _, _, h => .inl h
  | (n, k) :: r, h, acc, x, c, hm => by
    unfold cellsFrom at hm
    unfold pushCells
    split at hm
    · rename_i hk
      rw [if_pos hk]
      have hk : k = .cell := by simpa using hk
      rw [← Heap.size_push h { cls := .type "cell", data := .cell none }] at hm
      rcases cells_mem hm with hm | ⟨h1, h2, h3⟩
      · rcases List.mem_cons.mp hm with e | hm
        · cases e
          exact .inr ⟨hk ▸ List.mem_cons_self, Nat.le_refl _, _, pushCells_keeps r _ _ _ (Heap.get?_push_size _ rfl), rfl⟩
        · exact .inl hm
      · rw [Heap.size_push] at h2
        exact .inr ⟨List.mem_cons_of_mem _ h1, Nat.le_of_succ_le h2, h3⟩
    · rename_i hk
      rw [if_neg hk]
      rcases cells_mem hm with hm | ⟨h1, h2, h3⟩
      · exact .inl hm
      · exact .inr ⟨List.mem_cons_of_mem _ h1, h2, h3⟩
theorem cells_acc : ∀ {names : List (Str × NameKind)} {n : Nat} {acc : List (Str × Addr)} {p : Str × Addr}, p ∈ acc → p ∈ cellsFrom n names acc
  | [], _, _, _, h => h
  | (m, k) :: r, n, acc, p, h => by
    unfold cellsFrom
    split
    · exact cells_acc (List.mem_cons_of_mem _ h)
    · exact cells_acc h
theorem cells_has : ∀ {names : List (Str × NameKind)} {n : Nat} {acc : List (Str × Addr)} {x : Str}, (x, .cell) ∈ names → ∃ c, (x, c) ∈ cellsFrom n names acc
  | (m, k) :: r, n, acc, x, h => by
    unfold cellsFrom
    rcases List.mem_cons.mp h with e | h
    · cases e
      exact ⟨n, cells_acc List.mem_cons_self⟩
    · split
      · exact cells_has h
      · exact cells_has h
theorem cells_inj : ∀ {names : List (Str × NameKind)} {h : Heap} {acc : List (Str × Addr)} {x y : Str} {c : Addr}, (∀ p ∈ acc, p.2 < h.objs.size) → (∀ x y c, (x, c) ∈ acc → (y, c) ∈ acc → x = y) →
    (x, c) ∈ cellsFrom h.objs.size names acc → (y, c) ∈ cellsFrom h.objs.size names acc → x = y
  | [], _, _, _, _, _, _, hi, h1, h2 => hi _ _ _ h1 h2
  | (n, k) :: r, h, acc, x, y, c, hl, hi, h1, h2 => by
    unfold cellsFrom at h1 h2
    split at h1
    · rename_i hk
      rw [if_pos hk] at h2
      rw [← Heap.size_push h { cls := .type "cell", data := .cell none }] at h1 h2
      refine cells_inj (h := h.push _) (fun p hp => ?_) (fun x y c a b => ?_) h1 h2
      · rw [Heap.size_push]
        rcases List.mem_cons.mp hp with rfl | hp
        · exact Nat.lt_succ_self _
        · exact Nat.lt_succ_of_lt (hl p hp)
      · rcases List.mem_cons.mp a with e | a <;> rcases List.mem_cons.mp b with e' | b
        · cases e; cases e'; rfl
        · cases e; exact absurd (hl _ b) (Nat.lt_irrefl _)
        · cases e'; exact absurd (hl _ a) (Nat.lt_irrefl _)
        · exact hi _ _ _ a b
    · rename_i hk
      rw [if_neg hk] at h2
      exact cells_inj hl hi h1 h2
theorem newEnv_comp {M : Model} {A : Around} {E : Value → Shared → Prop} {s : Shared} {scope : Scope} {globals : Addr} {closure : List (Str × Addr)} {qual : Str} {func : Option Addr} {code : Value} {around : Env} {builtins : Addr} {Q : Env → Shared → Prop}
    (h : Q (newEnv scope s.heap.objs.size globals (cellsFrom (s.heap.objs.size + 1) scope.names closure) qual func code (some around) builtins)
      { s with heap := pushCells (s.heap.push { cls := .type "dict", data := .dict #[] }) scope.names }) :
    wpAny M A (newFunctionEnv scope globals closure [] qual func code (some around) builtins) Q E s := by
  simp only [newFunctionEnv, Option.isSome_some, if_true]
  refine wpAny_bind (wpAny_alloc ?_)
  refine wpAny_bind (wpAny_layCells _ (fun n k c => rfl) scope.names closure _ _ ?_)
  rw [show ({ s with heap := s.heap.push { cls := .type "dict", data := .dict #[] } } : Shared).heap.objs.size = s.heap.objs.size + 1 from Heap.size_push ..]
  rw [List.forIn_nil]
  exact wpAny_bind (wpAny_pure (wpAny_pure h))
theorem lookup_relS {sc : Scope} : ∀ {names : List (Str × NameKind)} {x : Str} {k : NameKind},
    (names.map fun (n, k) => if (k == NameKind.free && sc.kind == .function && sc.names.lookup n == some .cell) then (n, NameKind.cell) else (n, k)).lookup x = some k →
    ∃ k', names.lookup x = some k' ∧ (k = k' ∨ (k' = .free ∧ k = .cell))
  | [], _, _, h => by simp at h
  | (n, k₀) :: r, x, k, h => by
    have ih := @lookup_relS sc r x k
    have h' : List.lookup x ((if (k₀ == NameKind.free && sc.kind == .function && sc.names.lookup n == some .cell) = true then (n, NameKind.cell) else (n, k₀)) :: (r.map _)) = some k := h
    cases hx : x == n with
    | true =>
      simp only [List.lookup_cons, hx]
      by_cases hc : (k₀ == NameKind.free && sc.kind == .function && sc.names.lookup n == some .cell) = true
      · rw [if_pos hc] at h'
        simp only [List.lookup_cons, hx] at h'
        cases h'
        simp only [Bool.and_eq_true, beq_iff_eq] at hc
        exact ⟨k₀, rfl, .inr ⟨hc.1.1, rfl⟩⟩
      · rw [if_neg hc] at h'
        simp only [List.lookup_cons, hx] at h'
        cases h'
        exact ⟨_, rfl, .inl rfl⟩
    | false =>
      simp only [List.lookup_cons, hx]
      by_cases hc : (k₀ == NameKind.free && sc.kind == .function && sc.names.lookup n == some .cell) = true
      · rw [if_pos hc] at h'
        simp only [List.lookup_cons, hx] at h'
        exact ih h'
      · rw [if_neg hc] at h'
        simp only [List.lookup_cons, hx] at h'
        exact ih h'
structure BlkOk (N : List Str) (sc scope : Scope) (own : List (Str × Nat)) : Prop where
  kind : scope.kind = .function
  uniq : ∀ y ∈ scope.names, scope.names.lookup y.1 = some y.2
  ix : ∀ p ∈ own, N[p.2]? = some p.1
  free : ∀ y ∈ scope.names, y.2 = .free → sc.names.lookup y.1 = some .cell ∨ sc.names.lookup y.1 = some .free
  own : ∀ y ∈ scope.names, y.2 = .local ∨ y.2 = .cell → y.1 ∈ own.map (·.1) ∨ y.1 ∉ N
def wipe (σ : St) : List Nat → St
  | [] => σ
  | v :: vs => (wipe σ vs).set v none
theorem wipe_length (σ : St) : ∀ vs : List Nat, (wipe σ vs).length = σ.length
  | [] => rfl
  | v :: vs => by unfold wipe; rw [List.length_set, wipe_length σ vs]
theorem wipe_some {σ : St} {i : Nat} {x : V} : ∀ {vs : List Nat}, (wipe σ vs)[i]? = some (some x) → σ[i]? = some (some x) ∧ i ∉ vs
  | [], h => ⟨h, by simp⟩
  | v :: vs, h => by
    unfold wipe at h
    by_cases hi : v = i
    · subst hi
      by_cases hv : v < (wipe σ vs).length
      · rw [List.getElem?_set_self hv] at h; cases h
      · rw [List.getElem?_eq_none (by simpa using hv)] at h; cases h
    · rw [List.getElem?_set_ne hi] at h
      obtain ⟨h1, h2⟩ := wipe_some h
      exact ⟨h1, by simp only [List.mem_cons, not_or]; exact ⟨fun e => hi e.symm, h2⟩⟩
abbrev Cx.blk (X : Cx) (s : Shared) (H : Hp) (scope : Scope) (cenv : Env) (fp : List Addr) : Cx := { X with s_0 := s, H_0 := H, env := cenv, outer := X.stack, ex := fp, fn := fun x => scope.names.lookup x == some .cell, pn := [], xe := fun _ _ => False }
section
variable {X : Cx} {pins : List (Addr × Obj)} {σ : St} {H : Hp} {s : Shared}
theorem block_start {scope : Scope} {own : List (Str × Nat)} {fp : List Addr} (I : Inv X pins σ H s) (ok : BlkOk X.N X.env.scope scope own) (hN : X.N.Nodup) (hfp : ∀ b ∈ fp, FpOk X pins H b ∧ b < s.heap.objs.size) :
    Inv (X.blk s H scope (compEnvC scope (cellsFrom (s.heap.objs.size + 1) scope.names (cloFrom X.env.cells scope.names [])) s.heap.objs.size X.env) fp) [] (wipe σ (own.map (·.2))) H { s with heap := pushCells (s.heap.push { cls := .type "dict", data := .dict #[] }) scope.names } := by
  have hfree : ∀ y ∈ scope.names, y.2 = .free → ∃ c, X.env.cells.lookup y.1 = some c := fun y hy e => by
    rcases ok.free y hy e with k | k
    · exact I.ok.has _ (.inl k)
    · exact I.ok.has _ (.inr k)
  generalize hcenv : compEnvC scope (cellsFrom (s.heap.objs.size + 1) scope.names (cloFrom X.env.cells scope.names [])) s.heap.objs.size X.env = cenv
  have kp : ∀ b o, s.heap.get? b = some o → (pushCells (s.heap.push { cls := .type "dict", data := .dict #[] }) scope.names).get? b = some o := fun b o e => pushCells_keeps _ _ _ _ (Heap.get?_push_of_some _ e)
  have hL : cenv.locals = s.heap.objs.size := by rw [← hcenv]; rfl
  have hcl : cenv.cells = cellsFrom (s.heap.objs.size + 1) scope.names (cloFrom X.env.cells scope.names []) := by rw [← hcenv]; rfl
  have hsc : cenv.scope = relS scope X.env.scope := by rw [← hcenv]; rfl
  rw [← Heap.size_push s.heap { cls := .type "dict", data := .dict #[] }] at hcl
  have cm : ∀ {y c}, (y, c) ∈ cloFrom X.env.cells scope.names [] → X.env.cells.lookup y = some c ∧ c < s.heap.objs.size := fun {y c} hm => by
    rcases cloFrom_mem hm with hm | ⟨h1, rfl⟩
    · cases hm
    · obtain ⟨c, hc⟩ := hfree _ h1 rfl
      rw [hc]
      obtain ⟨w, z⟩ := I.cell _ _ hc
      exact ⟨rfl, z.lt⟩
  have mem : ∀ {y c}, cenv.cells.lookup y = some c → (X.env.cells.lookup y = some c ∧ c < s.heap.objs.size) ∨ (s.heap.objs.size + 1 ≤ c ∧ CellAt (pushCells (s.heap.push { cls := .type "dict", data := .dict #[] }) scope.names) c none) := fun {y c} e => by
    rw [hcl] at e
    rcases cells_mem (PySem.mem_of_lookup e) with hm | ⟨_, h2, h3⟩
    · exact .inl (cm hm)
    · rw [Heap.size_push] at h2; exact .inr ⟨h2, h3⟩
  have look : ∀ {y}, scope.names.lookup y = some .free → ∃ c, cenv.cells.lookup y = some c ∧ X.env.cells.lookup y = some c := fun {y} hl => by
    have hy : (y, NameKind.free) ∈ scope.names := PySem.mem_of_lookup hl
    obtain ⟨c', e'⟩ := mem_lookup (cells_acc (names := scope.names) (n := (s.heap.push { cls := .type "dict", data := .dict #[] }).objs.size) (cloFrom_has (cells := X.env.cells) (acc := []) hy))
    rw [← hcl] at e'
    refine ⟨c', e', ?_⟩
    rw [hcl] at e'
    rcases cells_mem (PySem.mem_of_lookup e') with hm | ⟨h1, _, _⟩
    · exact (cm hm).1
    · have := ok.uniq _ h1
      rw [hl] at this; cases this
  have okB : (X.blk s H scope cenv fp).Ok := by
    refine ⟨I.ok.mod, by show cenv.scope.kind = _; rw [hsc]; exact ok.kind, by show cenv.globals = _; rw [← hcenv]; exact I.ok.glob, by show cenv.builtins = _; rw [← hcenv]; exact I.ok.blt, by show s.heap.objs.size ≤ cenv.locals; rw [hL]; exact Nat.le_refl _,
      fun y z c e1 e2 => ?_, fun y hy => ?_, fun y c z e => ?_, I.ok.hd, I.ok.frames, .inl rfl, fun b hb => ⟨?_, fun y c e z => ?_⟩, I.bs, Nat.le_trans I.ok.bsz I.sz, fun b o e hb => ?_, fun b hb z => ?_, I.stack, I.stkFree⟩
    · have e1 : cenv.cells.lookup y = some c := e1
      have e2 : cenv.cells.lookup z = some c := e2
      rw [hcl] at e1 e2
      refine cells_inj (fun p hp => ?_) (fun y z c a b => I.ok.inj y z c (cm a).1 (cm b).1) (PySem.mem_of_lookup e1) (PySem.mem_of_lookup e2)
      rw [Heap.size_push]
      exact Nat.lt_succ_of_lt (cm (y := p.1) (c := p.2) hp).2
    · show ∃ c, cenv.cells.lookup y = some c
      have key : ∀ k, cenv.kindOf y = some k → (k = .cell ∨ k = .free) → ∃ c, cenv.cells.lookup y = some c := fun k hk hk' => by
        unfold Env.kindOf at hk
        rw [hsc] at hk
        obtain ⟨k', e, r⟩ := lookup_relS hk
        have : k' = .cell ∨ k' = .free := by
          rcases r with rfl | ⟨rfl, _⟩
          · exact hk'
          · exact .inr rfl
        rcases this with rfl | rfl
        · obtain ⟨c, hm⟩ := cells_has (n := (s.heap.push { cls := .type "dict", data := .dict #[] }).objs.size) (acc := cloFrom X.env.cells scope.names []) (PySem.mem_of_lookup e)
          obtain ⟨c', e'⟩ := mem_lookup hm
          exact ⟨c', by rw [hcl]; exact e'⟩
        · obtain ⟨c, h1, _⟩ := look e
          exact ⟨c, h1⟩
      rcases hy with hy | hy
      · exact key _ hy (.inl rfl)
      · exact key _ hy (.inr rfl)
    · have z : (scope.names.lookup y == some NameKind.cell) = true := z
      have z : scope.names.lookup y = some .cell := by simpa using z
      have e : cenv.cells.lookup y = some c := e
      rw [hcl] at e
      rcases cells_mem (PySem.mem_of_lookup e) with hm | ⟨_, h2, _⟩
      · rcases cloFrom_mem hm with hm | ⟨h1, _⟩
        · cases hm
        · have q := ok.uniq _ h1
          rw [z] at q; cases q
      · rw [Heap.size_push] at h2
        exact Nat.le_of_succ_le h2
    · show b ≠ cenv.locals
      rw [hL]; exact Nat.ne_of_lt (hfp b hb).2
    · have e : cenv.cells.lookup y = some c := e
      rcases mem e with ⟨h1, _⟩ | ⟨h1, _⟩
      · exact (hfp b hb).1.2.2.2.2.1 y c h1 z
      · have h2 : s.heap.objs.size + 1 ≤ b := by rw [← z]; exact h1
        exact absurd (Nat.lt_of_lt_of_le (hfp b hb).2 (Nat.le_of_succ_le h2)) (Nat.lt_irrefl _)
    · rcases (hfp b hb).1.2.2.2.1 with z | z
      · exact I.ok.noex b o e z
      · exact absurd (Nat.lt_of_lt_of_le (Heap.lt_size e) (Nat.le_trans I.ok.bsz z)) (Nat.lt_irrefl _)
    · rcases List.mem_cons.mp (I.stkSub b z) with z | z
      · exact (hfp b hb).1.2.1 z
      · exact (hfp b hb).1.2.2.1 z
  refine ⟨okB, rfl, I.bare, Un.kept kp, ⟨fun _ => none, ?_, fun i y av e1 e2 e3 => ?_⟩, fun y c e => ?_, ?_, fun y c e => ?_, fun p hp => ?_, I.hok.kept kp, by rw [wipe_length]; exact I.len⟩
  · show Heap.Ns _ cenv.locals _
    rw [hL]
    exact Heap.Ns.keeps (Heap.Ns.new ..) fun b o e => pushCells_keeps _ _ _ _ e
  · obtain ⟨e2, hne⟩ := wipe_some e2
    have hfr : scope.names.lookup y = some .free ∧ (cenv.kindOf y = some .cell ∨ cenv.kindOf y = some .free) := by
      have key : ∀ k, cenv.scope.names.lookup y = some k → k = .local ∨ k = .cell ∨ k = .free → scope.names.lookup y = some .free ∧ (cenv.kindOf y = some .cell ∨ cenv.kindOf y = some .free) := fun k hk hk' => by
        have hk0 := hk
        rw [hsc] at hk
        obtain ⟨k', e, r⟩ := lookup_relS hk
        have no : ¬ (k' = .local ∨ k' = .cell) := fun hh => by
          rcases ok.own _ (PySem.mem_of_lookup e) hh with e' | e'
          · obtain ⟨p, hp, hpy⟩ := List.mem_map.mp e'
            have e3 := ok.ix p hp
            have : p.1 = y := hpy
            rw [this] at e3
            exact hne (List.mem_map.mpr ⟨p, hp, nodup_ix hN e3 e1⟩)
          · exact e' (List.mem_of_getElem? e1)
        rcases r with rfl | ⟨rfl, rfl⟩
        · rcases hk' with rfl | rfl | rfl
          · exact absurd (.inl rfl) no
          · exact absurd (.inr rfl) no
          · exact ⟨e, .inr hk0⟩
        · exact ⟨e, .inl hk0⟩
      have e3 : Vis cenv.scope y := e3
      rcases e3 with e3 | e3 | e3
      · exact key _ e3 (.inl rfl)
      · exact key _ e3 (.inr (.inl rfl))
      · exact key _ e3 (.inr (.inr rfl))
    obtain ⟨m, hn, hl⟩ := I.loc
    have hvis : Vis X.env.scope y := (ok.free _ (PySem.mem_of_lookup hfr.1) rfl).elim (fun k => .inr (.inl k)) (fun k => .inr (.inr k))
    obtain ⟨w, r, q⟩ := hl i y av e1 e2 hvis
    refine ⟨w, r, .inr ⟨hfr.2, ?_⟩⟩
    obtain ⟨c, h1, h2⟩ := look hfr.1
    rcases q with ⟨k, _⟩ | ⟨_, c', e', z⟩
    · have k : X.env.scope.names.lookup y = some .local := k
      rcases ok.free _ (PySem.mem_of_lookup hfr.1) rfl with k' | k' <;> rw [show X.env.scope.names.lookup y = _ from k'] at k <;> cases k
    · rw [h2] at e'; cases e'
      exact ⟨c, h1, z.keeps kp⟩
  · have e : cenv.cells.lookup y = some c := e
    rcases mem e with ⟨h1, _⟩ | ⟨_, z⟩
    · obtain ⟨w, z⟩ := I.cell y c h1
      exact ⟨w, z.keeps kp⟩
    · exact ⟨_, z⟩
  · show H cenv.locals = none
    rw [hL]; exact I.hok.fresh (Nat.le_refl _)
  · have e : cenv.cells.lookup y = some c := e
    rcases mem e with ⟨h1, _⟩ | ⟨h1, _⟩
    · exact I.freeC y c h1
    · exact I.hok.fresh (Nat.le_of_succ_le h1)
  · exact absurd (show p ∈ ([] : List (Addr × Obj)) ++ [] from hp) (by simp)
theorem app_ok {E : Value → Shared → Prop} {D : Addr} {xs : List V} {y : V} {v : Value} {Q : Value → Shared → Prop} (I : Inv X pins σ H s) (hD : H D = some (.lst xs)) (hz : xs.length < sizeLine) (r : RelV y v)
    (h : ∀ s', Inv X pins σ (upd H D (.lst (xs ++ [y]))) s' → Q .none s') : wpAny (model X.prog X.w) X.A (call (.builtin "list.append") [.ref D, v]) Q E s := by
  obtain ⟨hz', its, n, ri, e⟩ := I.hok D _ hD
  have hl := ri.length
  refine append_at (hsz := by rw [List.size_toArray]; omega) e fun h' sb ho' => ?_
  refine h { s with heap := h' } (I.write (t' := s.toks) (by rw [hD]; trivial) (.inl rfl) (fun b u hb q => (sb.2 b hb).trans q) ⟨_, ho'⟩ ⟨by rw [List.length_append]; exact hz, its ++ [v], n + 1, ri.append (.cons r .nil), ?_⟩)
  rw [ho']
  simp
def PTs (X : Cx) (ifs : List Expr) (t : TT) : Prop :=
  ∀ (pins : List (Addr × Obj)) (s : Shared) (σ : St) (H : Hp) (Q : Bool → Hp → Prop), Inv X pins σ H s → t σ H Q →
    wpAny (model X.prog X.w) X.A (forIn ifs true fun c r => if r = true then do let ok ← isTrue c X.env (eval c X.env); pure (ForInStep.yield ok) else pure (ForInStep.yield r)) (TP X pins σ Q) X.xe s
def tYes : TT := fun _ H Q => Q true H
theorem pts_nil : PTs X [] tYes := fun _ _ _ H _ I h => wpAny_tests_nil ⟨H, I, h⟩
end
theorem thnF {α : Type} {t : Sem α} {Q Q' : α → Shared → Prop} {M : Model} {A : Around} {E : Value → Shared → Prop} {s : Shared} (h : wpAny M A t Q (fun _ _ => False) s) (hQ : ∀ a s, Q a s → Q' a s) : wpAny M A t Q' E s := wpAny_mono h hQ fun _ _ z => False.elim z
theorem compLoop_any {prog : Program} {w : World} {A : Around} {R : Result → Shared → Prop} {s : Shared} {elt target iter : Expr} {ifs : List Expr} {scope : Scope} {pos : Pos} {it acc : Value} {env : Env} (I : Nat → Shared → Prop)
    (turn : ∀ n s, I n s → wpAny (model prog w) A (pyNext it) (fun r s₁ => match r with
      | none => R (.ok .next) s₁
      | some v => wpAny (model prog w) A (letOwnedTupleGo target it v) (fun _ s₁' => wpAny (model prog w) A (assign target env v) (fun _ s₂ =>
          wpAny (model prog w) A (forIn ifs true fun c r => if r = true then do let ok ← isTrue c env (eval c env); pure (ForInStep.yield ok) else pure (ForInStep.yield r)) (fun ok s₃ =>
            if ok = true then wpAny (model prog w) A (eval elt env) (fun x s₄ =>
              wpAny (model prog w) A (call (.builtin "list.append") [acc, x]) (fun _ s₅ => ∃ m, m < n ∧ I m s₅) (notedBy (model prog w) A env fun e s' => R (.error e) s') s₄) (notedBy (model prog w) A env fun e s' => R (.error e) s') s₃
            else ∃ m, m < n ∧ I m s₃) (notedBy (model prog w) A env fun e s' => R (.error e) s') s₂) (notedBy (model prog w) A env fun e s' => R (.error e) s') s₁') (notedBy (model prog w) A env fun e s' => R (.error e) s') s₁) (notedBy (model prog w) A env fun e s' => R (.error e) s') s)
    (n : Nat) (h : I n s) :
    codeAny (model prog w) A (.compLoop (.ListComp elt [⟨target, iter, ifs, 0⟩] scope pos) 0 it acc env) R s := by
  refine codeAny_loop rfl I (fun n s hI => ?_) n h
  show wpAny _ A ((compTurn (.ListComp elt [⟨target, iter, ifs, 0⟩] scope pos) 0 it acc env).onRaise (fun x => do noteFrame x env; theTreesLotGoes x)) _ _ s
  refine wpAny_noted ?_
  rw [compTurn_list]
  refine wpAny_bind (wpAny_standAt (wpAny_bind (wpAny_mono (turn n s hI) (fun r s₁ h₁ => ?_) fun _ _ h' => h')))
  cases r with
  | none => exact wpAny_pure h₁
  | some v =>
    refine wpAny_bind (wpAny_mono h₁ (fun _ s₁' h₁' => ?_) fun _ _ h' => h')
    refine wpAny_bind (wpAny_mono h₁' (fun _ s₂ h₂ => wpAny_bind (wpAny_mono h₂ (fun ok s₃ h₃ => ?_) fun _ _ h' => h')) fun _ _ h' => h')
    cases ok with
    | false => exact wpAny_pure ⟨rfl, h₃⟩
    | true =>
      exact wpAny_bind (wpAny_bind (wpAny_mono h₃ (fun x s₄ h₄ => wpAny_bind (wpAny_mono h₄ (fun _ s₅ h₅ => wpAny_pure (wpAny_pure ⟨rfl, h₅⟩)) fun _ _ h' => h')) fun _ _ h' => h'))
section
variable {X : Cx}
def tLc (wi : TI) (g : TG) (tt : TT) (te : TE) (vs : List Nat) : TE := fun σ H Q => wi σ H fun J H1 => ∀ D, H1 D = none → ∃ W : Nat → Nat → Hp → Prop, (∃ m, W 0 m (upd H1 D (.lst []))) ∧ ∀ i m H, W i m H →
  (J.stop i H ∧ Q (.ref D) H) ∨ (J.go i H ∧ ∃ Nx : Hp → Prop, (∀ H', Nx H' → ∃ m', m' < m ∧ W (i + 1) m' H') ∧ ∀ x H', J.yld i H x H' → g x (wipe σ vs) H' fun σ2 H2 => wipe σ2 vs = wipe σ vs ∧ tt σ2 H2 fun b H3 =>
    if b = true then te σ2 H3 fun y H4 => ∃ acc, H4 D = some (.lst acc) ∧ acc.length < sizeLine ∧ Nx (upd H4 D (.lst (acc ++ [y]))) else Nx H3)
theorem lc_core {pins : List (Addr × Obj)} {s : Shared} {σ : St} {H : Hp} {Q : VK} {elt tg iter : Expr} {ifs : List Expr} {scope : Scope} {own : List (Str × Nat)} {pos pos' : Pos} {wi : TI} {g : TG} {tt : TT} {te : TE} {use : Option (Value → Sem Unit)} {Qf : Value → Shared → Prop}
    (hc : X.calm = true) (hN : X.N.Nodup) (I : Inv X pins σ H s) (hi : PI X tg iter wi) (ok : BlkOk X.N X.env.scope scope own)
    (hg : ∀ (s : Shared) (H : Hp) (C : Addr) (cl : List (Str × Addr)) (fp : List Addr), PG (X.blk s H scope (compEnvC scope cl C X.env) fp) tg g) (ht : ∀ (s : Shared) (H : Hp) (C : Addr) (cl : List (Str × Addr)) (fp : List Addr), PTs (X.blk s H scope (compEnvC scope cl C X.env) fp) ifs tt)
    (he : ∀ (s : Shared) (H : Hp) (C : Addr) (cl : List (Str × Addr)) (fp : List Addr), PE (X.blk s H scope (compEnvC scope cl C X.env) fp) elt te) (hs : ∀ x, foldedSetIterable iter X.env x = pure x)
    (h : tLc wi g tt te (own.map (·.2)) σ H Q)
    (hRR : ∀ D C s' m H', Inv X pins σ H' s' → Q (.ref D) H' → s'.heap.Ns C m → FpOk X pins H' C → compPost (model X.prog X.w) X.A X.xe use Qf (.ref D) C (.ok .next) s') :
    wpAny (model X.prog X.w) X.A (comprehension (.ListComp elt [⟨tg, iter, ifs, 0⟩] scope pos) scope X.env pos' (newList []) false (eval iter X.env) use) Qf X.xe s := by
  have hfree : ∀ y ∈ scope.names, y.2 = .free → ∃ c, X.env.cells.lookup y.1 = some c := fun y hy e => by
    rcases ok.free y hy e with k | k
    · exact I.ok.has _ (.inl k)
    · exact I.ok.has _ (.inr k)
  refine wpAny_comprehension_free (use := use) rfl hs (closure_ok hfree) ok.kind (fun y hy e => by rw [ok.uniq y hy, e])
    (thn (hi pins s σ H _ I h) fun xv s1 hx => thn hx fun itv s2 h2 => ?_)
  obtain ⟨it, fp, tn, J, H2, e, I2, T, st2, f2, q⟩ := h2
  subst e
  refine wpAny_newObj_type (newEnv_comp ?_) (by show 0 ≤ sizeLine; decide)
  generalize hD : s2.heap.objs.size = D
  have hDn : H2 D = none := I2.hok.fresh (Nat.le_of_eq hD)
  obtain ⟨W, ⟨m0, w0⟩, turn⟩ := q D hDn
  -- the new list
  generalize hs3 : ({ s2 with heap := s2.heap.push { cls := .type "list", data := .seq ([] : List Value).toArray } } : Shared) = s3
  have I3 : Inv X pins σ (upd H2 D (.lst [])) s3 := by
    rw [← hs3]
    refine I2.laid (t' := s2.toks) (fun b o e => Heap.get?_push_of_some _ e) (Nat.le_of_eq hD) ⟨Nat.zero_le _, [], 0, .nil, ?_⟩
    rw [← hD]
    exact Heap.get?_push_size _ rfl
  have h3 : s3.heap = s2.heap.push { cls := .type "list", data := .seq ([] : List Value).toArray } := by rw [← hs3]
  have sz : ∀ b ∈ fp, b < s2.heap.objs.size := fun b hb => by
    obtain ⟨o, e, _⟩ := T.obj _ _ st2 b hb
    exact Heap.lt_size e
  have f3 : ∀ b ∈ fp, FpOk X pins (upd H2 D (.lst [])) b ∧ b < s3.heap.objs.size := fun b hb => by
    have hlt := sz b hb
    refine ⟨⟨?_, (f2 b hb).2⟩, by rw [h3, Heap.size_push]; exact Nat.lt_succ_of_lt hlt⟩
    rw [upd_ne (by rw [← hD]; exact Nat.ne_of_lt hlt)]
    exact (f2 b hb).1
  have st3 : tn 0 s3.heap := T.keep _ _ _ st2 fun b _ o e => by rw [h3]; exact Heap.get?_push_of_some _ e
  have I4 := block_start I3 ok hN f3
  have pg := hg s3 (upd H2 D (.lst [])) s3.heap.objs.size (cellsFrom (s3.heap.objs.size + 1) scope.names (cloFrom X.env.cells scope.names [])) fp
  have pt := ht s3 (upd H2 D (.lst [])) s3.heap.objs.size (cellsFrom (s3.heap.objs.size + 1) scope.names (cloFrom X.env.cells scope.names [])) fp
  have pe := he s3 (upd H2 D (.lst [])) s3.heap.objs.size (cellsFrom (s3.heap.objs.size + 1) scope.names (cloFrom X.env.cells scope.names [])) fp
  show codeAny _ _ (.compStart (.ListComp elt [⟨tg, iter, ifs, 0⟩] scope pos) 0 (.ref it) (.ref D) (compEnvC scope (cellsFrom (s3.heap.objs.size + 1) scope.names (cloFrom X.env.cells scope.names [])) s3.heap.objs.size X.env)) (compPost (model X.prog X.w) X.A X.xe use Qf (.ref D) s3.heap.objs.size) { s3 with heap := pushCells (s3.heap.push { cls := .type "dict", data := .dict #[] }) scope.names }
  have nfp : ∀ b ∈ fp, (upd H2 D (.lst [])) b = none := fun b hb => (f3 b hb).1.1
  generalize hce : compEnvC scope (cellsFrom (s3.heap.objs.size + 1) scope.names (cloFrom X.env.cells scope.names [])) s3.heap.objs.size X.env = ce at I4 pg pt pe ⊢
  have cL : ce.locals = s3.heap.objs.size := by subst hce; rfl
  generalize hH3 : upd H2 D (.lst []) = H3 at I3 I4 pg pt pe w0 nfp f3
  generalize hs4 : ({ s3 with heap := pushCells (s3.heap.push { cls := .type "dict", data := .dict #[] }) scope.names } : Shared) = s4 at I4 ⊢
  have st4 : tn 0 s4.heap := T.keep _ _ _ st3 fun b _ o e => by rw [← hs4]; exact pushCells_keeps _ _ _ _ (Heap.get?_push_of_some _ e)
  have stat : ∀ {σ' : St} {H' : Hp} {s' : Shared}, Inv (X.blk s3 H3 scope ce fp) [] σ' H' s' → (∀ b ∈ fp, H' b = none) → ∀ b ∈ fp, FpOk (X.blk s3 H3 scope ce fp) [] H' b := fun {σ' H' s'} I' hn b hb =>
    ⟨hn b hb, (I'.ok.exf b hb).1, I'.ok.exfs b hb, .inl hb, fun x c e => (I'.ok.exf b hb).2 x c e, fun p hp => absurd (show p ∈ ([] : List (Addr × Obj)) ++ [] from hp) (by simp)⟩
  have loop : codeAny (model X.prog X.w) X.A (.compLoop (.ListComp elt [⟨tg, iter, ifs, 0⟩] scope pos) 0 (.ref it) (.ref D) ce) (compPost (model X.prog X.w) X.A X.xe use Qf (.ref D) s3.heap.objs.size) s4 := by
    refine compLoop_any (fun n s' => ∃ i H', Inv (X.blk s3 H3 scope ce fp) [] (wipe σ (own.map (·.2))) H' s' ∧ tn i s'.heap ∧ (∀ b ∈ fp, H' b = none) ∧ W i n H') ?_ m0 ⟨0, H3, I4, st4, nfp, w0⟩
    rintro n s5 ⟨i, H5, I5, st5, n5, w5⟩
    rcases turn i n H5 w5 with ⟨stop, qq⟩ | ⟨go, Nx, hNx, step⟩
    · have td := T.done (X.blk s3 H3 scope ce fp) rfl rfl rfl hc i [] s5 _ H5 (fun _ _ => False) I5 (stat I5 n5) st5 stop
      refine thnF td fun r s6 ⟨hr, I6⟩ => ?_
      subst hr
      -- back in the def's context
      have I7 : Inv X pins σ H5 s6 := I3.call' (ch := fp) I6.os I6.base I6.hok I6.bare fun b hb => ⟨(f3 b hb).1.2.2.2.1, (f3 b hb).1.2.1, (f3 b hb).1.2.2.2.2.1, (f3 b hb).1.2.2.2.2.2⟩
      have nC : H5 s3.heap.objs.size = none := by
        have z : H5 ce.locals = none := I6.free
        rw [cL] at z
        exact z
      obtain ⟨m, hn, _⟩ := I6.loc
      have hn : s6.heap.Ns ce.locals m := hn
      rw [cL] at hn
      exact hRR D s3.heap.objs.size s6 m H5 I7 qq hn (I3.fpOk (Nat.le_refl _) nC)
    · have ti := T.item (X.blk s3 H3 scope ce fp) rfl rfl rfl hc i [] s5 _ H5 (fun _ _ => False) I5 (stat I5 n5) st5 go
      refine thnF ti fun r s6 ⟨u, hr, h6⟩ => ?_
      subst hr
      refine thnF h6 fun _ s7 ⟨x, H7, I7, r7, y7, st7, n7⟩ => ?_
      have I7' := I7.pinned (stat I7 n7) (T.obj _ _ st7)
      refine thnF (pg _ s7 _ H7 x u _ I7' r7 (step x H7 y7)) fun _ s8 ⟨σ8, H8, I8, hw8, q8⟩ => ?_
      refine thnF (pt _ s8 σ8 H8 _ I8 q8) fun b s9 ⟨H9, I9, q9⟩ => ?_
      -- the turn's end
      have fin : ∀ {s' : Shared} {H' : Hp}, Inv (X.blk s3 H3 scope ce fp) ([] ++ pinsAt fp s7.heap) σ8 H' s' → Nx H' → ∃ m, m < n ∧ ∃ i H', Inv (X.blk s3 H3 scope ce fp) [] (wipe σ (own.map (·.2))) H' s' ∧ tn i s'.heap ∧ (∀ b ∈ fp, H' b = none) ∧ W i m H' := fun {s' H'} I' nx => by
        obtain ⟨m', hm, w'⟩ := hNx H' nx
        have pin' : ∀ b ∈ fp, ∀ o, s7.heap.get? b = some o → s'.heap.get? b = some o ∧ H' b = none := fun b hb o e =>
          let z := I'.pin (b, o) (List.mem_append_right _ (List.mem_append_right _ (mem_pinsAt hb e)))
          ⟨z.1, z.2.1⟩
        have hl : (wipe σ (own.map (·.2))).length = σ8.length := by rw [← hw8, wipe_length]
        refine ⟨m', hm, i + 1, H', (I'.unpinned (pins := [])).weak hl (fun j v e => ?_), T.keep _ _ _ st7 fun b hb o e => (pin' b hb o e).1, fun b hb => ?_, w'⟩
        · rw [← hw8] at e
          exact (wipe_some e).1
        · obtain ⟨o, e, _⟩ := T.obj _ _ st7 b hb
          exact (pin' b hb o e).2
      cases b with
      | false =>
        simp only [Bool.false_eq_true, if_false] at q9 ⊢
        exact fin I9 q9
      | true =>
        simp only [if_true] at q9 ⊢
        refine thnF (pe _ s9 σ8 H9 _ I9 q9) fun z s10 ⟨yv, H10, I10, r10, acc, hD10, hz10, nx⟩ => ?_
        exact app_ok (X := X.blk s3 H3 scope ce fp) I10 hD10 hz10 r10 fun s11 I11 => fin I11 nx
  exact codeAny_compStart_list loop (T.self X.A 0 _ _ _ st4 loop)
theorem pe_lc {elt tg iter : Expr} {ifs : List Expr} {scope : Scope} {own : List (Str × Nat)} {pos : Pos} {wi : TI} {g : TG} {tt : TT} {te : TE} (hc : X.calm = true) (hN : X.N.Nodup) (hi : PI X tg iter wi) (ok : BlkOk X.N X.env.scope scope own)
    (hg : ∀ (s : Shared) (H : Hp) (C : Addr) (cl : List (Str × Addr)) (fp : List Addr), PG (X.blk s H scope (compEnvC scope cl C X.env) fp) tg g) (ht : ∀ (s : Shared) (H : Hp) (C : Addr) (cl : List (Str × Addr)) (fp : List Addr), PTs (X.blk s H scope (compEnvC scope cl C X.env) fp) ifs tt)
    (he : ∀ (s : Shared) (H : Hp) (C : Addr) (cl : List (Str × Addr)) (fp : List Addr), PE (X.blk s H scope (compEnvC scope cl C X.env) fp) elt te) (hs : ∀ x, foldedSetIterable iter X.env x = pure x := by intro _; rfl) :
    PE X (.ListComp elt [⟨tg, iter, ifs, 0⟩] scope pos) (tLc wi g tt te (own.map (·.2))) := by
  intro pins s σ H Q I h
  rw [eval_ListComp]
  refine lc_core hc hN I hi ok hg ht he hs h fun D C s' m H' I' q hn f => ⟨m, hn, fun h'' sb => ?_⟩
  obtain ⟨f0, f1, f2, f3, f4, f5⟩ := f
  exact ⟨.ref D, H', I'.turned (t' := s'.toks) (fun b o hb e => (sb.2 b hb).trans e) f0 f1 f3 f4 f5, rfl, q⟩
end
theorem lc_range {lo : Int} {n : Nat} {g : TG} {tt : TT} {te : TE} {vs : List Nat} {σ : St} {H1 : Hp} {D : Addr} {Qd : Hp → Prop} (Pv : Nat → Hp → Prop) (h0 : Pv 0 (upd H1 D (.lst [])))
    (hs : ∀ i H, i < n → Pv i H → g (.int (lo + i)) (wipe σ vs) H fun σ2 H2 => wipe σ2 vs = wipe σ vs ∧ tt σ2 H2 fun b H3 =>
      if b = true then te σ2 H3 fun y H4 => ∃ acc, H4 D = some (.lst acc) ∧ acc.length < sizeLine ∧ Pv (i + 1) (upd H4 D (.lst (acc ++ [y]))) else Pv (i + 1) H3) (hd : ∀ H, Pv n H → Qd H) :
    ∃ W : Nat → Nat → Hp → Prop, (∃ m, W 0 m (upd H1 D (.lst []))) ∧ ∀ i m H, W i m H →
      ((Itr lo n).stop i H ∧ Qd H) ∨ ((Itr lo n).go i H ∧ ∃ Nx : Hp → Prop, (∀ H', Nx H' → ∃ m', m' < m ∧ W (i + 1) m' H') ∧ ∀ x H', (Itr lo n).yld i H x H' → g x (wipe σ vs) H' fun σ2 H2 => wipe σ2 vs = wipe σ vs ∧ tt σ2 H2 fun b H3 =>
        if b = true then te σ2 H3 fun y H4 => ∃ acc, H4 D = some (.lst acc) ∧ acc.length < sizeLine ∧ Nx (upd H4 D (.lst (acc ++ [y]))) else Nx H3) := by
  refine ⟨fun i m H => m = n - i ∧ i ≤ n ∧ Pv i H, ⟨n, by simp, Nat.zero_le _, h0⟩, ?_⟩
  rintro i m H ⟨rfl, hi, p⟩
  by_cases hlt : i < n
  · refine .inr ⟨hlt, Pv (i + 1), fun H' p' => ⟨n - (i + 1), by omega, rfl, hlt, p'⟩, fun x H' y => ?_⟩
    obtain ⟨e, y⟩ := y
    subst e y
    exact hs i _ hlt p
  · have e : i = n := by omega
    subst e
    exact .inl ⟨Nat.le_refl _, hd H p⟩
theorem lc_list {K : PySem.W.Frag} {a : Addr} {xs : List V} {g : TG} {tt : TT} {te : TE} {vs : List Nat} {σ : St} {H1 : Hp} {D : Addr} {Qd : Hp → Prop} (Pv : Nat → Hp → Prop) (h0 : Pv 0 (upd H1 D (.lst []))) (hl : ∀ i H, i ≤ xs.length → Pv i H → SqL K H a xs)
    (hs : ∀ i x H, xs[i]? = some x → Pv i H → g x (wipe σ vs) H fun σ2 H2 => wipe σ2 vs = wipe σ vs ∧ tt σ2 H2 fun b H3 =>
      if b = true then te σ2 H3 fun y H4 => ∃ acc, H4 D = some (.lst acc) ∧ acc.length < sizeLine ∧ Pv (i + 1) (upd H4 D (.lst (acc ++ [y]))) else Pv (i + 1) H3) (hd : ∀ H, Pv xs.length H → Qd H) :
    ∃ W : Nat → Nat → Hp → Prop, (∃ m, W 0 m (upd H1 D (.lst []))) ∧ ∀ i m H, W i m H →
      ((Itl K a).stop i H ∧ Qd H) ∨ ((Itl K a).go i H ∧ ∃ Nx : Hp → Prop, (∀ H', Nx H' → ∃ m', m' < m ∧ W (i + 1) m' H') ∧ ∀ x H', (Itl K a).yld i H x H' → g x (wipe σ vs) H' fun σ2 H2 => wipe σ2 vs = wipe σ vs ∧ tt σ2 H2 fun b H3 =>
        if b = true then te σ2 H3 fun y H4 => ∃ acc, H4 D = some (.lst acc) ∧ acc.length < sizeLine ∧ Nx (upd H4 D (.lst (acc ++ [y]))) else Nx H3) := by
  refine ⟨fun i m H => m = xs.length - i ∧ i ≤ xs.length ∧ Pv i H, ⟨xs.length, by simp, Nat.zero_le _, h0⟩, ?_⟩
  rintro i m H ⟨rfl, hi, p⟩
  have q := hl i H hi p
  by_cases hlt : i < xs.length
  · refine .inr ⟨⟨xs, xs[i], q, by simp [hlt]⟩, Pv (i + 1), fun H' p' => ⟨xs.length - (i + 1), by omega, rfl, hlt, p'⟩, fun x H' y => ?_⟩
    obtain ⟨e, y⟩ := y
    subst e
    exact hs i x _ (y xs q) p
  · have e : i = xs.length := by omega
    subst e
    exact .inl ⟨⟨xs, q, Nat.le_refl _⟩, hd H p⟩
def blkC (N : List Str) (sc scope : Scope) (own : List (Str × Nat)) : Bool :=
  (match scope.kind with | .function => true | _ => false) && (scope.names.all fun y => decide (scope.names.lookup y.1 = some y.2)) && (own.all fun p => decide (N[p.2]? = some p.1)) &&
    (scope.names.all fun y => match y.2 with
      | .free => (match sc.names.lookup y.1 with | some .cell => true | some .free => true | _ => false)
      | .local => decide (y.1 ∈ own.map (·.1)) || decide (y.1 ∉ N)
      | .cell => decide (y.1 ∈ own.map (·.1)) || decide (y.1 ∉ N)
      | _ => true)
theorem blkOk_by {N : List Str} {sc scope : Scope} {own : List (Str × Nat)} (h : blkC N sc scope own = true) : BlkOk N sc scope own := by
  unfold blkC at h
  simp only [Bool.and_eq_true, List.all_eq_true, decide_eq_true_eq] at h
  obtain ⟨⟨⟨h1, h2⟩, h3⟩, h4⟩ := h
  refine ⟨?_, h2, h3, fun y hy e => ?_, fun y hy e => ?_⟩
  · split at h1
    · assumption
    · cases h1
  · have q := h4 y hy
    simp only [e] at q
    split at q <;> first | exact .inl (by assumption) | exact .inr (by assumption) | cases q
  · have q := h4 y hy
    rcases e with e | e <;> (simp only [e, Bool.or_eq_true, decide_eq_true_eq] at q; exact q)
end L2
namespace L2
open PySem PySem.Spec PyProof.Rows
end L2
namespace L2
open PySem PySem.Spec PyProof.Rows
section
variable {κ : Type} [DecidableEq κ]
def valV (kvs : List (κ × V)) (k : κ) : Option V := (kvs.find? fun kv => decide (kv.1 = k)).map (·.2)
def putK (kvs : List (κ × V)) (k : κ) (v : V) : List (κ × V) :=
  if (kvs.any fun kv => decide (kv.1 = k)) = true then kvs.map (fun kv => if kv.1 = k then (kv.1, v) else kv) else kvs ++ [(k, v)]
def dropK (kvs : List (κ × V)) (k : κ) : List (κ × V) := kvs.filter fun kv => decide (kv.1 ≠ k)
theorem valV_pos {p : κ × V} {r : List (κ × V)} {k : κ} (e : p.1 = k) : valV (p :: r) k = some p.2 := by simp [valV, List.find?_cons, e]
theorem valV_neg {p : κ × V} {r : List (κ × V)} {k : κ} (e : ¬ p.1 = k) : valV (p :: r) k = valV r k := by simp [valV, List.find?_cons, e]
theorem valV_any (k : κ) : ∀ kvs : List (κ × V), (kvs.any fun kv => decide (kv.1 = k)) = (valV kvs k).isSome
  | [] => rfl
  | p :: r => by
    rw [List.any_cons]
    by_cases e : p.1 = k
    · simp only [valV_pos e, decide_eq_true e, Bool.true_or, Option.isSome_some]
    · rw [valV_neg e, decide_eq_false e, Bool.false_or]; exact valV_any k r
theorem length_putK (kvs : List (κ × V)) (k : κ) (v : V) : (putK kvs k v).length ≤ kvs.length + 1 := by
  unfold putK
  split
  · rw [List.length_map]; omega
  · rw [List.length_append, List.length_cons, List.length_nil]; omega
theorem putK_new {kvs : List (κ × V)} {k : κ} (v : V) (h : valV kvs k = none) : putK kvs k v = kvs ++ [(k, v)] := by
  unfold putK
  rw [valV_any, h]
  exact if_neg (by decide)
theorem RelO.isSome_eq {o : Option V} {u : Option Value} (r : RelO o u) : o.isSome = u.isSome := by
  cases o with
  | none => cases u with
    | none => rfl
    | some _ => exact (show False from r).elim
  | some _ => cases u with
    | none => exact (show False from r).elim
    | some _ => rfl
theorem KV.val {kvs : List (κ × V)} {vs : List (κ × Value)} (r : KV kvs vs) (k : κ) : RelO (valV kvs k) (valueAt vs k) := by
  unfold KV at r
  induction r with
  | nil => exact True.intro
  | @cons p q ps qs h t ih =>
    obtain ⟨h1, h2⟩ := h
    by_cases e : p.1 = k
    · have e' : q.1 = k := h1.symm.trans e
      have b : valueAt (q :: qs) k = some q.2 := by simp [valueAt, List.find?_cons, e']
      rw [valV_pos e, b]; exact h2
    · have e' : ¬ q.1 = k := fun z => e (h1.trans z)
      have b : valueAt (q :: qs) k = valueAt qs k := by simp [valueAt, List.find?_cons, e']
      rw [valV_neg e, b]; exact ih
theorem KV.any {kvs : List (κ × V)} {vs : List (κ × Value)} (r : KV kvs vs) (k : κ) : (kvs.any fun kv => decide (kv.1 = k)) = vs.any fun kv => decide (kv.1 = k) := by
  unfold KV at r
  induction r with
  | nil => rfl
  | cons h t ih => rw [List.any_cons, List.any_cons, ih, h.1]
theorem KV.repl {kvs : List (κ × V)} {vs : List (κ × Value)} (r : KV kvs vs) (k : κ) {y : V} {u : Value} (ry : RelV y u) :
    KV (kvs.map fun kv => if kv.1 = k then (kv.1, y) else kv) (vs.map fun kv => if kv.1 = k then (kv.1, u) else kv) := by
  unfold KV at r ⊢
  induction r with
  | nil => exact .nil
  | @cons p q ps qs h t ih =>
    rw [List.map_cons, List.map_cons]
    refine .cons ?_ ih
    obtain ⟨h1, h2⟩ := h
    by_cases e : p.1 = k
    · rw [if_pos e, if_pos (h1.symm.trans e)]; exact ⟨h1, ry⟩
    · rw [if_neg e, if_neg (fun z => e (h1.trans z))]; exact ⟨h1, h2⟩
theorem KV.put {kvs : List (κ × V)} {vs : List (κ × Value)} (r : KV kvs vs) (k : κ) {y : V} {u : Value} (ry : RelV y u) : KV (putK kvs k y) (stored vs k u) := by
  unfold putK stored
  rw [r.any k]
  by_cases e : (vs.any fun kv => decide (kv.1 = k)) = true
  · rw [if_pos e, if_pos e]; exact r.repl k ry
  · rw [if_neg e, if_neg e]; exact Paired.snoc r ⟨rfl, ry⟩
theorem KV.drop {kvs : List (κ × V)} {vs : List (κ × Value)} (r : KV kvs vs) (k : κ) : KV (dropK kvs k) (without vs k) := by
  unfold KV at r ⊢
  unfold dropK without
  induction r with
  | nil => exact .nil
  | @cons p q ps qs h t ih =>
    obtain ⟨h1, h2⟩ := h
    rw [List.filter_cons, List.filter_cons]
    by_cases e : p.1 = k
    · have a : ¬ decide (p.1 ≠ k) = true := by simp [e]
      have b : ¬ decide (q.1 ≠ k) = true := by simp [h1.symm.trans e]
      rw [if_neg a, if_neg b]; exact ih
    · have e' : ¬ q.1 = k := fun z => e (h1.trans z)
      have a : decide (p.1 ≠ k) = true := by simp [e]
      have b : decide (q.1 ≠ k) = true := by simp [e']
      rw [if_pos a, if_pos b]; exact .cons ⟨h1, h2⟩ ih
theorem KV.length {kvs : List (κ × V)} {vs : List (κ × Value)} (r : KV kvs vs) : kvs.length = vs.length := Paired.length r
theorem dropK_le (kvs : List (κ × V)) (k : κ) : (dropK kvs k).length ≤ kvs.length := List.length_filter_le _ _
end
theorem kV_is {P : Program} {w : World} {k : Key} {u : Value} (r : RelV (kV k) u) : (mixKind P w).is k u = true := by
  cases k with
  | inl i => obtain ⟨t, e⟩ := (show ∃ t, u = Value.int i t from r); subst e; exact mixKind_int P w i t
  | inr x => obtain ⟨t, e⟩ := (show ∃ t, u = Value.str x t from r); subst e; exact mixKind_str P w x t
theorem items_are {P : Program} {w : World} : ∀ {ks : List Key} {us : List Value}, Vals (ks.map kV) us → ItemsAre (mixKind P w) ks us
  | [], _, r => by rw [List.map_nil] at r; cases r; exact .nil
  | k :: ks, _, r => by
    rw [List.map_cons] at r
    cases r with
    | cons h t => exact .cons (kV_is h) (items_are t)
abbrev KT (H : Hp) : List (List Key × V) → List (List Key × Addr × Value) → Prop := Paired fun p q => p.1 = q.1 ∧ H q.2.1 = some (.tup (p.1.map kV)) ∧ RelV p.2 q.2.2
theorem KT.val {H : Hp} {kvs : List (List Key × V)} {xs : List (List Key × Addr × Value)} (r : KT H kvs xs) (k : List Key) : RelO (valV kvs k) ((atKey xs k).map (·.2)) := by
  induction r with
  | nil => exact True.intro
  | @cons p q ps qs h t ih =>
    obtain ⟨h1, _, h2⟩ := h
    by_cases e : p.1 = k
    · have e' : q.1 = k := h1.symm.trans e
      have b : atKey (q :: qs) k = some q.2 := by simp [atKey, List.find?_cons, e']
      rw [valV_pos e, b]; exact h2
    · have e' : ¬ q.1 = k := fun z => e (h1.trans z)
      have b : atKey (q :: qs) k = atKey qs k := by simp [atKey, List.find?_cons, e']
      rw [valV_neg e, b]; exact ih
theorem KT.repl {H : Hp} {kvs : List (List Key × V)} {xs : List (List Key × Addr × Value)} (r : KT H kvs xs) (k : List Key) {y : V} {u : Value} (ry : RelV y u) :
    KT H (kvs.map fun kv => if kv.1 = k then (kv.1, y) else kv) (xs.map (putAt k u)) := by
  induction r with
  | nil => exact .nil
  | @cons p q ps qs h t ih =>
    rw [List.map_cons, List.map_cons]
    refine .cons ?_ ih
    obtain ⟨h1, h2, h3⟩ := h
    unfold putAt
    by_cases e : p.1 = k
    · rw [if_pos e, if_pos (h1.symm.trans e)]; exact ⟨h1, h2, ry⟩
    · rw [if_neg e, if_neg (fun z => e (h1.trans z))]; exact ⟨h1, h2, h3⟩
theorem KT.put {H : Hp} {kvs : List (List Key × V)} {xs : List (List Key × Addr × Value)} (r : KT H kvs xs) (k : List Key) {b : Addr} {y : V} {u : Value} (hb : H b = some (.tup (k.map kV))) (ry : RelV y u) :
    KT H (putK kvs k y) (storedH xs k b u) := by
  have e : (kvs.any fun kv => decide (kv.1 = k)) = (atKey xs k).isSome := by
    rw [valV_any, (r.val k).isSome_eq, Option.isSome_map]
  unfold putK storedH
  rw [e]
  by_cases q : (atKey xs k).isSome = true
  · rw [if_pos q, if_pos q]; exact r.repl k ry
  · rw [if_neg q, if_neg q]; exact Paired.snoc r ⟨rfl, hb, ry⟩
theorem KT.keeps {H H' : Hp} {kvs : List (List Key × V)} {xs : List (List Key × Addr × Value)} (r : KT H kvs xs) (ht : ∀ b ys, H b = some (.tup ys) → H' b = some (.tup ys)) : KT H' kvs xs :=
  Paired.mapP r fun _ _ z => ⟨z.1, ht _ _ z.2.1, z.2.2⟩
section
variable {P : Program} {w : World} {H : Hp} {h : Heap} {a : Addr}
theorem rd_of {u : HO} (ok : HOk P w H h) (e : Rd H a u) : ObjOk P w H h a u := e.ok ok
theorem dk_rd {kvs : List (Key × V)} (ok : HOk P w H h) (e : Rd H a (.dK kvs)) : kvs.length ≤ sizeLine ∧ (a == sysModules) = false ∧ ∃ vs, KV kvs vs ∧ h.DictOf (mixKind P w) a vs :=
  show ObjOk P w H h a (.dK kvs) from rd_of ok e
theorem dk_of {kvs : List (Key × V)} (ok : HOk P w H h) (e : H a = some (.dK kvs)) : kvs.length ≤ sizeLine ∧ (a == sysModules) = false ∧ ∃ vs, KV kvs vs ∧ h.DictOf (mixKind P w) a vs := dk_rd ok (.inl e)
theorem key_of {ks : List Key} (ok : HOk P w H h) (e : H a = some (.tup (ks.map kV))) : (tupleKind (mixKind P w)).is h ks a := by
  obtain ⟨_, its, r, o, h1, h2, n, h3⟩ := (show ObjOk P w H h a (.tup (ks.map kV)) from ok a _ e)
  exact ⟨o, its.toArray, n, h1, h2, h3, by simpa using items_are r⟩
theorem dt_rd {kvs : List (List Key × V)} (ok : HOk P w H h) (e : Rd H a (.dT kvs)) : kvs.length ≤ sizeLine ∧ (a == sysModules) = false ∧
    ∃ xs, KT H kvs xs ∧ h.DictOfH (tupleKind (mixKind P w)) a xs := by
  obtain ⟨z, y, xs, r, o, es, ep, h1, h2, h3, h4, h5⟩ := (show ObjOk P w H h a (.dT kvs) from rd_of ok e)
  refine ⟨z, y, xs, r, o, es, ep, h1, h2, h3, h4, fun x hx => ?_, h5⟩
  have all : ∀ {l : List (List Key × V)} {m : List (List Key × Addr × Value)}, KT H l m → ∀ x ∈ m, (tupleKind (mixKind P w)).is h x.1 x.2.1 := by
    intro l m q
    induction q with
    | nil => intro x hx; exact nomatch hx
    | @cons p q ps qs hq t ih =>
      intro x hx
      rcases List.mem_cons.mp hx with e | hx
      · subst e
        exact key_of ok (by rw [← hq.1]; exact hq.2.1)
      · exact ih x hx
  exact all r x hx
theorem dt_of {kvs : List (List Key × V)} (ok : HOk P w H h) (e : H a = some (.dT kvs)) : kvs.length ≤ sizeLine ∧ (a == sysModules) = false ∧
    ∃ xs, KT H kvs xs ∧ h.DictOfH (tupleKind (mixKind P w)) a xs := dt_rd ok (.inl e)
end
def DGet (H : Hp) (a : Addr) (y : V) (r : Option V) : Prop :=
  (∃ kvs k, Rd H a (.dK kvs) ∧ y = kV k ∧ r = valV kvs k) ∨ ∃ kvs k b, Rd H a (.dT kvs) ∧ y = .ref b ∧ H b = some (.tup (k.map kV)) ∧ r = valV kvs k
def DPut (H : Hp) (a : Addr) (y v : V) (H' : Hp) : Prop :=
  (∃ kvs k, H a = some (.dK kvs) ∧ y = kV k ∧ kvs.length < sizeLine ∧ H' = upd H a (.dK (putK kvs k v))) ∨
  ∃ kvs k b, H a = some (.dT kvs) ∧ y = .ref b ∧ H b = some (.tup (k.map kV)) ∧ kvs.length < sizeLine ∧ H' = upd H a (.dT (putK kvs k v))
theorem DGet.k {H : Hp} {a : Addr} {kvs : List (Key × V)} {k : Key} (e : H a = some (.dK kvs)) : DGet H a (kV k) (valV kvs k) := .inl ⟨kvs, k, .inl e, rfl, rfl⟩
theorem DPut.k {H : Hp} {a : Addr} {kvs : List (Key × V)} {k : Key} {v : V} (e : H a = some (.dK kvs)) (hl : kvs.length < sizeLine) : DPut H a (kV k) v (upd H a (.dK (putK kvs k v))) := .inl ⟨kvs, k, e, rfl, hl, rfl⟩
section
variable {X : Cx} {pins : List (Addr × Obj)} {σ : St} {H : Hp} {s : Shared} {a : Addr} {y v : V} {u r : Value} {o : Option V} {A : Around} {E : Value → Shared → Prop}
theorem Inv.big (I : Inv X pins σ H s) : sysModules < s.heap.objs.size := by
  have h : mainGlobals < s.heap.objs.size := (I.mod.glob.keeps I.bk).lt
  exact Nat.lt_trans (by decide) h
theorem d_in {Q : Value → Shared → Prop} (hu : A.units + 1 < cLine) (I : Inv X pins σ H s) (g : DGet H a y o) (ry : RelV y u) (h : ∀ s', Inv X pins σ H s' → Q (.bool o.isSome) s') :
    wpAny (model X.prog X.w) A (compareOp .In u (.ref a)) Q E s := by
  rcases g with ⟨kvs, k, e, ey, l⟩ | ⟨kvs, k, b, e, ey, eb, l⟩
  · subst ey
    obtain ⟨z, hd, vs, rel, dd⟩ := dk_rd I.hok e
    refine wpAny_in_of (kV_is ry) hd dd.mapOf ?_
    rw [← (rel.val k).isSome_eq, ← l]
    exact h _ (I.tok _)
  · subst ey
    cases (show u = Value.ref b from ry)
    obtain ⟨z, hd, xs, rel, dd⟩ := dt_rd I.hok e
    refine wpAny_in_heap (tupleKind_room_in1 hu) (key_of I.hok eb) hd dd ?_
    have q := (rel.val k).isSome_eq
    rw [Option.isSome_map] at q
    rw [← q, ← l]
    exact h _ (I.tok _)
theorem d_write {h' : Heap} {t' : Nat} {ob : HO} (I : Inv X pins σ H s) (mu : Mut (H a)) (hs : Heap.SameBut a s.heap h') (he : ∃ q, h'.get? a = some q) (new : ObjOk X.prog X.w (upd H a ob) h' a ob) :
    Inv X pins σ (upd H a ob) { s with heap := h', toks := t' } :=
  I.write (x := a) (e := a) mu (.inl rfl) (fun b q hb z => (hs.2 b hb).trans z) he new
theorem dk_new {P : Program} {w : World} {H' : Hp} {h' : Heap} {kvs : List (Key × V)} {vs : List (Key × Value)} (z : kvs.length ≤ sizeLine) (hd : (a == sysModules) = false) (rel : KV kvs vs) (dd : h'.DictOf (mixKind P w) a vs) :
    ObjOk P w H' h' a (.dK kvs) := ⟨z, hd, vs, rel, dd⟩
theorem d_setItem {H' : Hp} {Q : Unit → Shared → Prop} (hu : A.units + 1 < cLine) (I : Inv X pins σ H s) (g : DPut H a y v H') (ry : RelV y u) (rv : RelV v r) (h : ∀ s', Inv X pins σ H' s' → Q () s') :
    wpAny (model X.prog X.w) A (setItem (.ref a) u r) Q E s := by
  rcases g with ⟨kvs, k, e, ey, l, eH⟩ | ⟨kvs, k, b, e, ey, eb, l, eH⟩
  · subst ey eH
    obtain ⟨z, hd, vs, rel, dd⟩ := dk_of I.hok e
    have hz : vs.length ≤ sizeLine := by rw [← rel.length]; exact z
    have hl : (putK kvs k v).length ≤ sizeLine := by have := length_putK kvs k v; omega
    refine wpAny_setItem_pairs (hsz := hz) (kV_is ry) dd fun h' dd' hs => h _ ?_
    have he : ∃ q, h'.get? a = some q := let ⟨q, _, _, hq, _⟩ := dd'; ⟨q, hq⟩
    exact d_write I (by rw [e]; exact True.intro) hs he (dk_new hl hd (rel.put k rv) dd')
  · subst ey eH
    cases (show u = Value.ref b from ry)
    obtain ⟨z, hd, xs, rel, dd⟩ := dt_of I.hok e
    have hz : xs.length ≤ sizeLine := by rw [← Paired.length rel]; exact z
    have hl : (putK kvs k v).length ≤ sizeLine := by have := length_putK kvs k v; omega
    refine wpAny_setItem_heap (hsz := hz) (tupleKind_room_in1 hu) (key_of I.hok eb) dd fun h' dd' hs => h _ ?_
    obtain ⟨q, es, ep, hq, h2, h3, h4, _, h5⟩ := dd'
    refine d_write I (by rw [e]; exact True.intro) hs ⟨q, hq⟩ ⟨hl, hd, _, (rel.put k eb rv).keeps fun c ys ec => ?_, q, es, ep, hq, h2, h3, h4, h5⟩
    rw [upd_ne (ne_of ec e (fun z => nomatch z))]
    exact ec
end
section
variable {X : Cx} {pins : List (Addr × Obj)} {σ : St} {H : Hp} {s : Shared} {a : Addr} {kvs : List (Key × V)} {k : Key} {u : Value} {A : Around} {E : Value → Shared → Prop}
theorem d_pop {v : V} {more : List Value} {Q : Value → Shared → Prop} (I : Inv X pins σ H s) (e : H a = some (.dK kvs)) (ry : RelV (kV k) u) (l : valV kvs k = some v) (hm : more = [] ∨ ∃ x, more = [x])
    (h : ∀ w' s', Inv X pins σ (upd H a (.dK (dropK kvs k))) s' → RelV v w' → Q w' s') : wpAny (model X.prog X.w) A (call (.builtin "dict.pop") (.ref a :: u :: more)) Q E s := by
  obtain ⟨z, hd, vs, rel, dd⟩ := dk_of I.hok e
  obtain ⟨w', hw, rw'⟩ := RelO.some_of (v := v) (o := valueAt vs k) (by rw [← l]; exact rel.val k)
  have hp : (keyPart u).isSome = true := by
    cases k with
    | inl i => obtain ⟨t, q⟩ := (show ∃ t, u = Value.int i t from ry); subst q; rfl
    | inr x => obtain ⟨t, q⟩ := (show ∃ t, u = Value.str x t from ry); subst q; rfl
  have ha : argsOk "dict.pop" ⟨.ref a :: u :: more, []⟩ := by
    rcases hm with q | ⟨x, q⟩
    · subst q; exact PySem.F.args_dict_pop_2 _ _
    · subst q; exact PySem.F.args_dict_pop_3 _ _ _
  refine call_meetsIn PySem.F.slot_dict_pop dd.typeIs PySem.F.entry_dict_pop ha (meets_dict_pop_there (mixKind X.prog X.w) a (kV_is ry) more hm hp)
    ⟨vs, w', dd, by rw [← rel.length]; exact z, hw, fun h' dd' hs => h w' _ ?_ rw'⟩
  have he : ∃ q, h'.get? a = some q := let ⟨q, _, _, hq, _⟩ := dd'; ⟨q, hq⟩
  exact d_write I (by rw [e]; exact True.intro) hs he (dk_new (Nat.le_trans (dropK_le kvs k) z) hd (rel.drop k) dd')
theorem d_len {Q : Value → Shared → Prop} (I : Inv X pins σ H s) (e : Rd H a (.dK kvs)) (h : ∀ t s', Inv X pins σ H s' → Q (.int kvs.length t) s') : wpAny (model X.prog X.w) A (call (.builtin "len") [.ref a]) Q E s := by
  obtain ⟨z, hd, vs, rel, dd⟩ := dk_rd I.hok e
  refine call_len_dict hd dd (by rw [← rel.length]; rw [sizeLine_eq] at z; omega) ?_
  rw [← rel.length]
  exact h _ _ (I.tok _)
end
def NoSl (i : Expr) : Prop := ∀ ov iv, subscripted i false ov iv = operate [ov, iv] (getItem ov iv)
theorem subD_of {prog : Program} {w : World} {A : Around} {E : Value → Shared → Prop} {s : Shared} {env : Env} {value slice : Expr} {pos : Pos} {T id : String} {Q : Value → Shared → Prop}
    (hl : typeLookup (.type T) "__getitem__" = pure (some (.builtin id))) (hs : NoSl slice)
    (h : wpAny (model prog w) A (eval value env) (fun o s₁ => wpAny (model prog w) A (eval slice env) (fun i s₂ => s₂.TypeIs o T ∧ wpAny (model prog w) A (getItem o i) Q E s₂) E s₁) E s) :
    wpAny (model prog w) A (eval (.Subscript value slice pos) env) Q E s := by
  refine Subscript_ (wpAny_mono h (fun o s₁ h₁ => wpAny_mono h₁ (fun i s₂ h₂ => ?_) fun _ _ x => x) fun _ _ x => x)
  obtain ⟨hT, h₂⟩ := h₂
  unfold subscriptTail
  refine wpAny_bind ?_
  rw [getitemInPython_of_ne hT.not_modules]
  refine wpAny_bind (wpAny_specialOf hT hl ?_)
  have fin : wpAny (model prog w) A (subscripted slice false o i) (fun r s₃ => wpAny (model prog w) A (letTemporaryGo value o r >>= fun _ => pure r) Q E s₃) E s₂ := by
    rw [hs o i]
    exact wpAny_operating (wpAny_mono h₂ (fun r s₃ h₃ => wpAny_bind (wpAny_letTemporaryGo (wpAny_pure h₃))) fun _ _ x => x)
  first
    | exact wpAny_pure (wpAny_bind fin)
    | exact wpAny_bind (wpAny_pure (wpAny_bind fin))
    | exact wpAny_bind fin
def tDIn (ty td : TE) : TE := fun σ H Q => ty σ H fun y H1 => td σ H1 fun x H2 => ∃ a o, x = .ref a ∧ DGet H2 a y o ∧ Q (.bl o.isSome) H2
def sDPut (td ty tv : TE) : TS := fun D σ H => tv σ H fun v H1 => td σ H1 fun x H2 => ty σ H2 fun y H3 => ∃ a H4, x = .ref a ∧ DPut H3 a y v H4 ∧ D.nx σ H4
section
variable {X : Cx} {o i e value : Expr} {pos pos' tpos : Pos} {td ty tv : TE}
theorem pc_din (hu : X.A.units + 1 < cLine) (hi : PE X i ty) (ho : PE X o td) : PC X .In i o (tDIn ty td) := by
  intro pins s σ H Q I h
  refine thn (hi pins s σ H _ I h) fun iv s1 ⟨y, H1, I1, ry, q1⟩ => thn (ho pins s1 σ H1 _ I1 q1) fun u s2 ⟨x, H2, I2, rx, a, ov, ex, g, q2⟩ => ?_
  subst ex
  obtain rfl : u = Value.ref a := rx
  exact d_in hu I2 g ry fun s3 I3 => ⟨.bl ov.isSome, H2, I3, rfl, q2⟩
theorem ps_dput (hu : X.A.units + 1 < cLine) (ho : PE X o td) (hi : PE X i ty) (hv : PE X value tv) (hs : swapsWith value (some (.Subscript o i pos')) pos.line X.env = pure false) :
    PS X (.Assign [.Subscript o i pos'] value pos) (sDPut td ty tv) := by
  intro pins s σ H D I h
  refine wpAny_Assign_Subscript (thn (hv pins s σ H _ I h) fun r s1 ⟨v, H1, I1, rv, q1⟩ => thn (ho pins s1 σ H1 _ I1 q1) fun u s2 ⟨x, H2, I2, rx, q2⟩ => thn (hi pins s2 σ H2 _ I2 q2) fun iv s3 ⟨y, H3, I3, ry, a, H4, ex, g, q3⟩ => ?_) hs
  subst ex
  obtain rfl : u = Value.ref a := rx
  exact d_setItem hu I3 g ry rv fun s4 I4 => ⟨σ, H4, I4, q3⟩
end
theorem dk_empty {P : Program} {w : World} {H : Hp} (h : Heap) (hb : sysModules < h.objs.size) : ObjOk P w H (h.push { cls := .type "dict", data := .dict #[] }) h.objs.size (.dK []) :=
  ⟨Nat.zero_le _, beq_eq_false_iff_ne.mpr (Ne.symm (Nat.ne_of_lt hb)), [], .nil, Heap.DictOf.new h⟩
def tDNewK : TE := fun _ H Q => ∀ p, H p = none → Q (.ref p) (upd H p (.dK []))
section
variable {X : Cx} {pos : Pos}
theorem pe_dnewK : PE X (.Dict [] [] pos) tDNewK := fun pins s σ H Q I h =>
  wpAny_Dict_empty ⟨.ref s.heap.objs.size, _, I.laid (a := s.heap.objs.size) (o := .dK []) (t' := s.toks) (fun _ _ q => Heap.get?_push_of_some _ q) (Nat.le_refl _) (dk_empty s.heap I.big), rfl, h _ (I.hok.fresh (Nat.le_refl _))⟩
end
structure M1 (X : Cx) (o : Expr) (m : Str) (apos : Pos) (e : Expr) (cpos : Pos) : Prop where
  base : attributeBase o m X.env (eval o X.env) = eval o X.env
  few : ((backTo cpos (starEach [e] X.env)).all (fun x => !x.1) && (backToKw cpos (keywordEach [] X.env)).all (fun x => x.1.isSome)
    && decide (([e] : List Expr).length + ([] : List Keyword).length + (if ([] : List Keyword).isEmpty then 0 else 1) < 30)) = true
  line : (apos.endLine == cpos.line) = true
  trees : backTo cpos (starEach [e] X.env) = [(false, eval e X.env)]
def IsD (H : Hp) (a : Addr) : Prop := (∃ kvs, Rd H a (.dK kvs)) ∨ ∃ kvs, Rd H a (.dT kvs)
theorem isD_at {X : Cx} {pins : List (Addr × Obj)} {σ : St} {H : Hp} {s : Shared} {a : Addr} (I : Inv X pins σ H s) (d : IsD H a) :
    s.TypeIs (.ref a) "dict" ∧ (∀ b, Value.ref a = .ref b → ∃ ob, s.heap.get? b = some ob ∧ ob.dict = none) ∧ (a == sysModules) = false := by
  rcases d with ⟨kvs, e⟩ | ⟨kvs, e⟩
  · obtain ⟨_, hd, vs, _, dd⟩ := dk_rd I.hok e
    refine ⟨dd.typeIs, fun b q => ?_, hd⟩
    cases q
    obtain ⟨ob, _, _, h1, h2, _⟩ := dd
    exact ⟨ob, h1, h2.2.1⟩
  · obtain ⟨_, hd, xs, _, dd⟩ := dt_rd I.hok e
    refine ⟨dd.typeIs, fun b q => ?_, hd⟩
    cases q
    obtain ⟨ob, _, _, h1, h2, _⟩ := dd
    exact ⟨ob, h1, h2.2.1⟩
def tDPop1 (td ty : TE) : TE := fun σ H Q => td σ H fun x H1 => ∃ a, x = .ref a ∧ IsD H1 a ∧ ty σ H1 fun y H2 => ∃ kvs k v, H2 a = some (.dK kvs) ∧ y = kV k ∧ valV kvs k = some v ∧ Q v (upd H2 a (.dK (dropK kvs k)))
section
variable {X : Cx} {o e f : Expr} {apos cpos : Pos} {td ty tx : TE}
theorem pe_dpop1 (ho : PE X o td) (he : PE X e ty) (m : M1 X o "pop" apos e cpos) : PE X (.Call (.Attribute o "pop" apos) [e] [] cpos) (tDPop1 td ty) := by
  intro pins s σ H Q I h
  refine wpAny_Call_method m.base m.few m.line PySem.F.plainAttrs_dict PySem.F.slot_dict_pop PySem.F.type_dict_pop (thn (ho pins s σ H _ I h) fun u s1 ⟨x, H1, I1, rx, a, ex, d, q1⟩ => ?_)
  subst ex
  obtain rfl : u = Value.ref a := rx
  obtain ⟨t1, t2, _⟩ := isD_at I1 d
  refine ⟨t1, t2, ?_⟩
  rw [m.trees]
  refine Calls.callWith_builtin rfl (Calls.evalArgs_plain (Calls.spliced_cons (thn (he pins s1 σ H1 _ I1 q1) fun iv s2 ⟨y, H2, I2, ry, kvs, k, v, ea, ey, l, q2⟩ => Calls.spliced_nil ?_)))
  subst ey
  exact d_pop I2 ea ry l (.inl rfl) fun w' s3 I3 rw' => ⟨v, _, I3, rw', q2⟩
end
end L2
namespace L2
open PySem PySem.Spec PyProof.Rows
end L2
namespace L2
open PySem PySem.Spec PyProof.Rows
section
variable {X : Cx} {pins : List (Addr × Obj)} {σ : St} {H : Hp} {s : Shared} {h' : Heap}
theorem Inv.turnedL {t' : Nat} {ch : List Addr} (I : Inv X pins σ H s) (k : ∀ b o, b ∉ ch → s.heap.get? b = some o → h'.get? b = some o) (hf : ∀ b ∈ ch, FpOk X pins H b) : Inv X pins σ H { s with heap := h', toks := t' } := by
  have nit : ∀ b u, H b = some u → b ∉ ch := fun b u e z => by
    have q := (hf b z).1
    rw [q] at e; cases e
  refine I.step (g' := s.gens) (d' := s.drawn) (ch := ch) (fun b hb => ⟨(hf b hb).2.2.2.1, (hf b hb).2.1, (hf b hb).2.2.2.2.1, (hf b hb).2.2.2.2.2⟩) (fun b o _ _ hc e _ => k b o hc e) (fun b o _ _ hc e _ => ⟨o.slots, k b o hc e⟩)
    (fun _ _ _ _ n => n) (fun b o hc e => ⟨o, k b o hc e⟩) (fun _ _ e => e) (fun _ _ _ e => e) (fun b ps e => ⟨#[], by rw [e]; simp⟩) (fun m hm => ?_) (fun b u e => ?_) I.bare
  · obtain ⟨o, es, ep, ho, r⟩ := hm
    exact ⟨o, es, ep, k _ o (fun z => (hf _ z).2.1 rfl) ho, r⟩
  · refine (I.hok b u e).stay (fun c v hc q => k c v ?_ q) (fun _ q => q) fun _ _ q => q
    rcases hc with z | z
    · rw [z]; exact nit b u e
    · exact nit c _ z
theorem Inv.turnedNew {t' : Nat} {ch : List Addr} {T : Addr} {ob : HO} (I : Inv X pins σ H s) (k : ∀ b o, b ∉ ch → s.heap.get? b = some o → h'.get? b = some o) (hf : ∀ b ∈ ch, FpOk X pins H b) (hT : s.heap.objs.size ≤ T)
    (new : ObjOk X.prog X.w (upd H T ob) h' T ob) : Inv X pins σ (upd H T ob) { s with heap := h', toks := t' } := by
  have hn : H T = none := I.hok.fresh hT
  have nit : ∀ b u, H b = some u → b ∉ ch := fun b u e z => by
    have q := (hf b z).1
    rw [q] at e; cases e
  refine I.step (g' := s.gens) (d' := s.drawn) (ch := ch) (fun b hb => ⟨(hf b hb).2.2.2.1, (hf b hb).2.1, (hf b hb).2.2.2.2.1, (hf b hb).2.2.2.2.2⟩) (fun b o _ _ hc e _ => k b o hc e) (fun b o _ _ hc e _ => ⟨o.slots, k b o hc e⟩)
    (fun b o _ e n => ?_) (fun b o hc e => ⟨o, k b o hc e⟩) (fun b xs e => ?_) (fun b o u e => ?_) (fun b ps e => ⟨#[], ?_⟩) (fun m hm => ?_) (fun b u e => ?_) I.bare
  · rw [upd_ne (Nat.ne_of_lt (Nat.lt_of_lt_of_le (Heap.lt_size e) hT))]; exact n
  · rw [upd_ne (ne_of_none e hn)]; exact e
  · rw [upd_ne (ne_of_none e hn)]; exact e
  · rw [upd_ne (ne_of_none e hn), e]; simp
  · obtain ⟨o, es, ep, ho, r⟩ := hm
    exact ⟨o, es, ep, k _ o (fun z => (hf _ z).2.1 rfl) ho, r⟩
  · by_cases hb : b = T
    · subst hb
      rw [upd_same] at e
      cases e
      exact new
    · rw [upd_ne hb] at e
      refine (I.hok b u e).stay (fun c v hc q => k c v ?_ q) (fun c q => by rw [upd_ne (ne_of_none q hn)]; exact q) fun c xs q => by rw [upd_ne (ne_of_none q hn)]; exact q
      rcases hc with z | z
      · rw [z]; exact nit b u e
      · exact nit c _ z
end
section
variable {X : Cx}
theorem pi_one {tg : Expr} {pins : List (Addr × Obj)} {σ : St} {H : Hp} {s : Shared} {R : It → Hp → Prop} {J : It} {tn : Nat → Heap → Prop} {tk : Nat} (I : Inv X pins σ H s) (o : Obj)
    (T : Turn X.prog X.w X.K tg J [s.heap.objs.size] s.heap.objs.size tn) (st : tn 0 (s.heap.push o)) (q : R J H) : PIE X pins σ tg R (.ref s.heap.objs.size) { s with heap := s.heap.push o, toks := tk } := by
  refine ⟨s.heap.objs.size, [s.heap.objs.size], tn, J, H, rfl, I.kept fun b ob e => Heap.get?_push_of_some _ e, T, st, fun b hb => ?_, q⟩
  have e : b = s.heap.objs.size := by simpa using hb
  subst e
  exact I.fpOk (Nat.le_refl _) (I.hok.fresh (Nat.le_refl _))
end
def Itc (lo c : Int) (n : Nat) : It := ⟨fun i _ => i < n, fun i H x H' => H' = H ∧ x = .int (lo + (i : Nat) * c), fun i _ => n ≤ i⟩
theorem turn_rangeC {P : Program} {w : World} {K : PySem.W.Frag} {tg : Expr} (it : Addr) (lo c : Int) (n : Nat) : Turn P w K tg (Itc lo c n) [it] it (fun i h => IsRangeIter h it (lo + (i : Nat) * c) ((n : Int) - (i : Nat)) c) where
  mem := by simp
  obj := fun i h st b hb => by
    have e : b = it := by simpa using hb
    subst e
    exact ⟨_, st, fun v z => nomatch z⟩
  keep := fun i h h' st k => k it (by simp) _ st
  item := by
    intro X hP hw hK hc i pins s σ H E I hf st hg
    subst hP hw hK
    obtain ⟨f0, f1, f2, f3, f4, f5⟩ := hf it (by simp)
    have W := Walks.range (prog := X.prog) (w := X.w) (I.ok.hd hc) it lo c n
    refine W.item i s _ _ hg st fun v h' tk hv st' kk => ?_
    obtain ⟨t, rfl⟩ := hv
    have I1 : Inv X pins σ H { s with heap := h', toks := tk } := I.turned (fun b o hb e => kk b o (by simpa using hb) e) f0 f1 f3 f4 f5
    exact ⟨_, rfl, go_of (s := { s with heap := h', toks := tk }) (n := "range_iterator") st' rfl rfl (by decide) ⟨.int (lo + (i : Nat) * c), H, I1, ⟨t, rfl⟩, ⟨rfl, rfl⟩, st', fun b hb => (hf b hb).1⟩⟩
  done := by
    intro X hP hw hK hc i pins s σ H E I hf st hg
    subst hP hw hK
    obtain ⟨f0, f1, f2, f3, f4, f5⟩ := hf it (by simp)
    exact wpAny_pyNext_range_end (I.ok.hd hc) st (by have : n ≤ i := hg; omega) fun h' eb => ⟨rfl, I.turned (t' := s.toks) (fun b o hb e => eb b o hb e) f0 f1 f3 f4 f5⟩
  self := fun A i s Q E st h => wpAny_pyIter_rangeiter st h
def RgC (i j c : Int) (n : Nat) : Prop := c ≠ 0 ∧ c.natAbs < 1073741824 ∧ Builtin.Range.small i j c = true ∧ Builtin.Range.rangeSize i j c = n
def iRng3 (ta : TA) : TI := fun σ H R => ta σ H fun vs H1 => ∃ (i j c : Int) (n : Nat), vs = [.int i, .int j, .int c] ∧ RgC i j c n ∧ R (Itc i c n) H1
section
variable {X : Cx} {tg : Expr}
theorem pi_range3 {a b c : Expr} {ta : TA} {p pos : Pos} (hg : Gl X "range") (hm : X.mg "range" = none) (ha : PA X [a, b, c] ta)
    (hs : starEach [a, b, c] X.env = (false, eval a X.env) :: starEach [b, c] X.env := by rfl) (hpl : (backTo pos (starEach [b, c] X.env)).any (·.1) = false := by rfl) :
    PI X tg (.Call (.Name "range" p) [a, b, c] [] pos) (iRng3 ta) := by
  intro pins s σ H R I h
  refine Call_ (ld_blt I hg hm boot_range (PyProof.Rows.callWith_type1 (thn (ha pos pins s σ H _ I h) fun us s1 ⟨vs, H1, I1, r1, q1⟩ => ?_) hs hpl))
  obtain ⟨i, j, k, n, e, ⟨c0, c1, c2, c3⟩, q⟩ := q1
  subst e
  cases r1 with
  | cons r rr =>
    cases rr with
    | cons r' rr =>
      cases rr with
      | cons r'' rr =>
        cases rr
        obtain ⟨t, rfl⟩ := r
        obtain ⟨t', rfl⟩ := r'
        obtain ⟨t'', rfl⟩ := r''
        refine call_range_3 c0 ?_ (.inl (PyProof.noPylong_small c1))
        refine wpAny_pyIter_range (IsRange.new ..) c2 ?_
        have I2 : Inv X pins σ H1 { s1 with heap := s1.heap.push { cls := .type "range", data := .fields #[.int i t, .int j t', .int k t''] } } := I1.kept (t' := s1.toks) fun b o e => Heap.get?_push_of_some _ e
        refine pi_one (tk := s1.toks) I2 _ (turn_rangeC _ i k n) ?_ q
        have e1 : i + ((0 : Nat) : Int) * k = i := by simp
        have e2 : (n : Int) - ((0 : Nat) : Int) = Builtin.Range.rangeSize i j k := by rw [c3]; simp
        show IsRangeIter _ _ (i + ((0 : Nat) : Int) * k) ((n : Int) - ((0 : Nat) : Int)) k
        rw [e1, e2]
        exact Heap.get?_push_size _ rfl
end
theorem for_rangeC {lo c : Int} {n : Nat} {g : TG} {tb : TS} {D : Ends} {σ : St} {H : Hp} (Pv : Nat → St → Hp → Prop) (h0 : Pv 0 σ H)
    (hs : ∀ i σ H, i < n → Pv i σ H → g (.int (lo + (i : Nat) * c)) σ H fun σ2 H2 => tb { D with nx := Pv (i + 1), ct := Pv (i + 1), bk := D.nx } σ2 H2) (hd : ∀ σ H, Pv n σ H → D.nx σ H) :
    ∃ W : Nat → Nat → St → Hp → Prop, (∃ m, W 0 m σ H) ∧ ∀ i m σ H, W i m σ H →
      ((Itc lo c n).stop i H ∧ D.nx σ H) ∨ ((Itc lo c n).go i H ∧ ∃ N : St → Hp → Prop, (∀ σ' H', N σ' H' → ∃ m', m' < m ∧ W (i + 1) m' σ' H') ∧ ∀ x H', (Itc lo c n).yld i H x H' → g x σ H' fun σ2 H2 => tb { D with nx := N, ct := N, bk := D.nx } σ2 H2) := by
  refine ⟨fun i m σ H => m = n - i ∧ i ≤ n ∧ Pv i σ H, ⟨n, by simp, Nat.zero_le _, h0⟩, ?_⟩
  rintro i m σ H ⟨rfl, hi, p⟩
  by_cases hlt : i < n
  · refine .inr ⟨hlt, Pv (i + 1), fun σ' H' p' => ⟨n - (i + 1), by omega, rfl, hlt, p'⟩, fun x H' y => ?_⟩
    obtain ⟨e, y⟩ := y
    subst e y
    exact hs i σ _ hlt p
  · have e : i = n := by omega
    subst e
    exact .inl ⟨Nat.le_refl _, hd σ H p⟩
def Its (x : Str) : It := ⟨fun i _ => i < x.cps.size, fun i H v H' => H' = H ∧ ∃ c, x.cps[i]? = some c ∧ v = .str ⟨#[c]⟩, fun i _ => x.cps.size ≤ i⟩
theorem turn_str {P : Program} {w : World} {K : PySem.W.Frag} {tg : Expr} (it : Addr) (x : Str) (t : Tok) (ty : String) (hty : ty = "str_ascii_iterator" ∨ ty = "str_iterator") :
    Turn P w K tg (Its x) [it] it (fun i h => h.IsStrIter it ty x t i) where
  mem := by simp
  obj := fun i h st b hb => by
    have e : b = it := by simpa using hb
    subst e
    obtain ⟨o, e, c, d⟩ := st
    exact ⟨o, e, fun v z => by rw [d] at z; cases z⟩
  keep := fun i h h' st k => let ⟨o, ho, r⟩ := st; ⟨o, k it (by simp) o ho, r⟩
  item := by
    intro X hP hw hK hc i pins s σ H E I hf st hg
    subst hP hw hK
    obtain ⟨f0, f1, f2, f3, f4, f5⟩ := hf it (by simp)
    have W : Walks X.prog X.w X.A it [it] [it] x.cps.size (SignAt x) (fun i h => h.IsStrIter it ty x t i) := by
      rcases hty with e | e
      · rw [e]; exact Walks.strAscii (I.ok.hd hc) it x t
      · rw [e]; exact Walks.strWide (I.ok.hd hc) it x t
    have hno : ["enumerate", "zip", "dict_itemiterator", "dict_reverseitemiterator", "odict_iterator", "itertools.zip_longest", "itertools.pairwise"].contains ty = false := by
      rcases hty with e | e
      · rw [e]; decide
      · rw [e]; decide
    refine W.item i s _ _ hg st fun v h' tk hv st' kk => ?_
    obtain ⟨c, u, hcx, rfl⟩ := hv
    have I1 : Inv X pins σ H { s with heap := h', toks := tk } := I.turned (fun b o hb e => kk b o (by simpa using hb) e) f0 f1 f3 f4 f5
    obtain ⟨oi, e, cc, dd⟩ := id st'
    exact ⟨_, rfl, go_of (s := { s with heap := h', toks := tk }) e cc dd hno ⟨.str ⟨#[c]⟩, H, I1, ⟨u, rfl⟩, ⟨rfl, c, hcx, rfl⟩, st', fun b hb => (hf b hb).1⟩⟩
  done := by
    intro X hP hw hK hc i pins s σ H E I hf st hg
    subst hP hw hK
    obtain ⟨f0, f1, f2, f3, f4, f5⟩ := hf it (by simp)
    have hx : x.cps[i]? = none := Array.getElem?_eq_none hg
    rcases hty with e | e
    · rw [e] at st
      exact wpAny_pyNext_ascii_end (I.ok.hd hc) st hx fun h' eb => ⟨rfl, I.turned (t' := s.toks) (fun b o hb e => eb b o hb e) f0 f1 f3 f4 f5⟩
    · rw [e] at st
      exact wpAny_pyNext_wide_end (I.ok.hd hc) st hx fun h' eb => ⟨rfl, I.turned (t' := s.toks) (fun b o hb e => eb b o hb e) f0 f1 f3 f4 f5⟩
  self := fun A i s Q E st h => by
    rcases hty with e | e
    · rw [e] at st; exact wpAny_pyIter_striter_ascii st h
    · rw [e] at st; exact wpAny_pyIter_striter_wide st h
def iStr (te : TE) : TI := fun σ H R => te σ H fun v H1 => ∃ x, v = .str x ∧ R (Its x) H1
theorem pi_str {X : Cx} {tg e : Expr} {te : TE} (he : PE X e te) : PI X tg e (iStr te) := by
  intro pins s σ H R I h
  refine thn (he pins s σ H _ I h) fun v s1 ⟨y, H1, I1, r1, x, ex, q⟩ => ?_
  subst ex
  obtain ⟨t, rfl⟩ := r1
  cases ha : x.cps.all (· < 128)
  · exact wpAny_pyIter_wide ha (pi_one (tk := s1.toks) I1 _ (turn_str _ x t "str_iterator" (.inr rfl)) ⟨_, Heap.get?_push_size _ rfl, rfl, rfl⟩ q)
  · exact wpAny_pyIter_ascii ha (pi_one (tk := s1.toks) I1 _ (turn_str _ x t "str_ascii_iterator" (.inl rfl)) ⟨_, Heap.get?_push_size _ rfl, rfl, rfl⟩ q)
def Ite (K : PySem.W.Frag) (a : Addr) : It :=
  ⟨fun i H => ∃ (xs : List V) (x : V), SqL K H a xs ∧ xs[i]? = some x, fun i H v H' => ∃ T x, v = .ref T ∧ H T = none ∧ H' = upd H T (.tup [.int (i : Nat), x]) ∧ ∀ xs, SqL K H a xs → xs[i]? = some x, fun i H => ∃ xs : List V, SqL K H a xs ∧ xs.length ≤ i⟩
theorem turn_enum {P : Program} {w : World} {K : PySem.W.Frag} {elts : List Expr} {kk : Nat} {tpos : Pos} (a e it : Addr) :
    Turn P w K (.Tuple elts kk tpos) (Ite K a) [e, it] e (fun i h => (∃ old, IsEnum h e it ((i : Nat) : Int) old) ∧ h.IsListIter it a i ∧ e ≠ it) where
  mem := by simp
  obj := fun i h st b hb => by
    obtain ⟨⟨old, he⟩, ⟨o, ho, hc, hd⟩, _⟩ := st
    have e' : b = e ∨ b = it := by simpa using hb
    rcases e' with z | z
    · rw [z]; exact ⟨_, he, fun v q => nomatch q⟩
    · rw [z]; exact ⟨o, ho, fun v q => by rw [hd] at q; cases q⟩
  keep := fun i h h' st k => let ⟨⟨old, he⟩, hi, hne⟩ := st; ⟨⟨old, k e (by simp) _ he⟩, hi.at fun o q => k it (by simp) o q, hne⟩
  item := by
    intro X hP hw hK hc i pins s σ H E I hf st hg
    subst hP hw hK
    obtain ⟨⟨old, he⟩, hit, hne⟩ := st
    obtain ⟨xs, x, hq, hx⟩ := hg
    obtain ⟨its, rv, p, hz⟩ := I.list hq
    obtain ⟨u, hu, ru⟩ := rv.get hx
    have hel : e < s.heap.objs.size := Heap.lt_size he
    have hil : it < s.heap.objs.size := by obtain ⟨_, q, _⟩ := hit; exact Heap.lt_size q
    refine wpAny_pyNext_enum_item he hit p.isList (x := u) (by simpa using hu) hne fun h' ho hit' hT hsz hk => ?_
    refine ⟨_, rfl, wpAny_letOwnedTupleGo_enum (s := { s with heap := h', toks := s.toks + 1 }) ho fun h'' he' sb => ?_⟩
    have hT2 : h''.get? s.heap.objs.size = some { cls := .type "tuple", data := .seq #[.int i s.toks, u] } := (sb.2 _ (Nat.ne_of_gt hel)).trans hT
    have new : ObjOk X.prog X.w (upd H s.heap.objs.size (.tup [.int (i : Nat), x])) h'' s.heap.objs.size (.tup [.int (i : Nat), x]) :=
      ⟨by show 2 ≤ sizeLine; decide, [.int i s.toks, u], .cons ⟨_, rfl⟩ (.cons ru .nil), ⟨_, hT2, rfl, _, rfl⟩⟩
    have I1 : Inv X pins σ (upd H s.heap.objs.size (.tup [.int (i : Nat), x])) { s with heap := h'', toks := s.toks + 1 } :=
      I.turnedNew (ch := [e, it]) (fun b ob hb q => (sb.2 b (fun z => hb (by simp [z]))).trans (hk b ob (fun z => hb (by simp [z])) (fun z => hb (by simp [z])) q)) hf (Nat.le_refl _) new
    refine ⟨.ref s.heap.objs.size, _, I1, rfl, ⟨_, x, rfl, I.hok.fresh (Nat.le_refl _), rfl, fun ys hy => by rw [I.list_inj hy hq]; exact hx⟩, ⟨⟨u, ?_⟩, hit'.at fun o q => (sb.2 it (Ne.symm hne)).trans q, hne⟩, fun b hb => ?_⟩
    · have e1 : ((i + 1 : Nat) : Int) = (i : Int) + 1 := by omega
      rw [e1]; exact he'
    · have hb' : b < s.heap.objs.size := by
        have e' : b = e ∨ b = it := by simpa using hb
        rcases e' with z | z
        · rw [z]; exact hel
        · rw [z]; exact hil
      rw [upd_ne (Nat.ne_of_lt hb')]
      exact (hf b hb).1
  done := by
    intro X hP hw hK hc i pins s σ H E I hf st hg
    subst hP hw hK
    obtain ⟨⟨old, he⟩, hit, hne⟩ := st
    obtain ⟨xs, hq, hx⟩ := hg
    obtain ⟨its, rv, p, hz⟩ := I.list hq
    obtain ⟨f0, f1, f2, f3, f4, f5⟩ := hf it (by simp)
    have hl := rv.length
    exact wpAny_pyNext_enum_end (I.ok.hd hc) he hit p.isList (by simp; omega) fun h' eb => ⟨rfl, I.turned (t' := s.toks) (fun b o hb q => eb b o hb q) f0 f1 f3 f4 f5⟩
  self := fun A i s Q E st h => let ⟨⟨_, he⟩, _⟩ := st; wpAny_pyIter_enum he h
def iEnum (K : PySem.W.Frag) (ta : TA) : TI := fun σ H R => ta σ H fun vs H1 => ∃ a xs, vs = [.ref a] ∧ SqL K H1 a xs ∧ R (Ite K a) H1
theorem pi_enum {X : Cx} {e : Expr} {ta : TA} {p pos tpos : Pos} {elts : List Expr} {kk : Nat} (hg : Gl X "enumerate") (hm : X.mg "enumerate" = none) (ha : PA X [e] ta) (hs : starEach [e] X.env = [(false, eval e X.env)] := by rfl) :
    PI X (.Tuple elts kk tpos) (.Call (.Name "enumerate" p) [e] [] pos) (iEnum X.K ta) := by
  intro pins s σ H R I h
  refine Call_ (ld_blt I hg hm boot_enumerate (PyProof.Rows.callWith_type1 (thn (ha pos pins s σ H _ I h) fun us s1 ⟨vs, H1, I1, r1, q1⟩ => ?_) hs rfl))
  obtain ⟨a, xs, ex, hq, q⟩ := q1
  subst ex
  cases r1 with
  | cons r rr =>
    cases rr
    cases r
    obtain ⟨its, rv, p', hz⟩ := I1.list hq
    refine call_enumerate_list p'.isList fun h' he hit hsz hk => wpAny_pyIter_enum he ?_
    have I2 : Inv X pins σ H1 { s1 with heap := h' } := I1.kept (t' := s1.toks) hk
    refine ⟨s1.heap.objs.size + 1, [s1.heap.objs.size + 1, s1.heap.objs.size], _, _, H1, rfl, I2, turn_enum a (s1.heap.objs.size + 1) s1.heap.objs.size, ⟨⟨.none, he⟩, hit, Nat.succ_ne_self _⟩, fun b hb => ?_, q⟩
    have e' : b = s1.heap.objs.size + 1 ∨ b = s1.heap.objs.size := by simpa using hb
    have hle : s1.heap.objs.size ≤ b := by
      rcases e' with z | z
      · rw [z]; exact Nat.le_add_right _ _
      · rw [z]; exact Nat.le_refl _
    exact I1.fpOk hle (I1.hok.fresh hle)
theorem boot_zip5 : bootBuiltins "zip" = some (.type "zip") := by decide +kernel
def Itz (K : PySem.W.Frag) (a b : Addr) : It :=
  ⟨fun i H => ∃ (xs ys : List V) (x y : V), SqL K H a xs ∧ SqL K H b ys ∧ xs[i]? = some x ∧ ys[i]? = some y,
    fun i H v H' => ∃ T x y, v = .ref T ∧ H T = none ∧ H' = upd H T (.tup [x, y]) ∧ (∀ xs, SqL K H a xs → xs[i]? = some x) ∧ ∀ ys, SqL K H b ys → ys[i]? = some y,
    fun i H => ∃ xs ys : List V, SqL K H a xs ∧ SqL K H b ys ∧ (xs.length ≤ i ∨ ys.length ≤ i)⟩
theorem turn_zip {P : Program} {w : World} {K : PySem.W.Frag} {elts : List Expr} {kk : Nat} {tpos : Pos} {a b z TI TO i1 i2 : Addr} (D : ZipApart z TI TO i1 i2 a b) :
    Turn P w K (.Tuple elts kk tpos) (Itz K a b) [z, TI, TO, i1, i2] z (fun i h => IsZip h z TI TO .none ∧ IsPair h TI (.ref i1) (.ref i2) ∧ (∃ x y, IsPair h TO x y) ∧ h.IsListIter i1 a i ∧ h.IsListIter i2 b i) where
  mem := by simp
  obj := fun i h st c hc => by
    obtain ⟨hz, hTI, ⟨x, y, hTO⟩, ⟨o1, e1, _, d1⟩, ⟨o2, e2, _, d2⟩⟩ := st
    have e' : c = z ∨ c = TI ∨ c = TO ∨ c = i1 ∨ c = i2 := by simpa using hc
    rcases e' with q | q | q | q | q
    · rw [q]; exact ⟨_, hz, fun v q => nomatch q⟩
    · rw [q]; exact ⟨_, hTI, fun v q => nomatch q⟩
    · rw [q]; exact ⟨_, hTO, fun v q => nomatch q⟩
    · rw [q]; exact ⟨o1, e1, fun v q => by rw [d1] at q; cases q⟩
    · rw [q]; exact ⟨o2, e2, fun v q => by rw [d2] at q; cases q⟩
  keep := fun i h h' st k => by
    obtain ⟨hz, hTI, ⟨x, y, hTO⟩, h1, h2⟩ := st
    exact ⟨k z (by simp) _ hz, k TI (by simp) _ hTI, ⟨x, y, k TO (by simp) _ hTO⟩, h1.at fun o q => k i1 (by simp) o q, h2.at fun o q => k i2 (by simp) o q⟩
  item := by
    intro X hP hw hK hc i pins s σ H E I hf st hg
    subst hP hw hK
    obtain ⟨hz, hTI, ⟨x0, y0, hTO⟩, h1, h2⟩ := st
    obtain ⟨xs, ys, x, y, hqx, hqy, hx, hy⟩ := hg
    obtain ⟨its, rv, p, _⟩ := I.list hqx
    obtain ⟨its2, rv2, p2, _⟩ := I.list hqy
    obtain ⟨u, hu, ru⟩ := rv.get hx
    obtain ⟨u2, hu2, ru2⟩ := rv2.get hy
    have hzl : z < s.heap.objs.size := Heap.lt_size hz
    refine wpAny_pyNext_zip_item D hz hTI hTO h1 h2 p.isList p2.isList (x := u) (y := u2) (by simpa using hu) (by simpa using hu2) fun h' z' TO' h1' h2' hT hsz hk => ?_
    refine ⟨_, rfl, wpAny_letOwnedTupleGo_zip (s := { s with heap := h' }) z' fun h'' z'' sb => ?_⟩
    have hT2 : h''.get? s.heap.objs.size = some { cls := .type "tuple", data := .seq #[u, u2] } := (sb.2 _ (Nat.ne_of_gt hzl)).trans hT
    have new : ObjOk X.prog X.w (upd H s.heap.objs.size (.tup [x, y])) h'' s.heap.objs.size (.tup [x, y]) :=
      ⟨by show 2 ≤ sizeLine; decide, [u, u2], .cons ru (.cons ru2 .nil), ⟨_, hT2, rfl, _, rfl⟩⟩
    have I1 : Inv X pins σ (upd H s.heap.objs.size (.tup [x, y])) { s with heap := h'' } :=
      I.turnedNew (t' := s.toks) (ch := [z, TI, TO, i1, i2]) (fun c o hb q => (sb.2 c (fun q' => hb (by simp [q']))).trans (hk c o (fun q' => hb (by simp [q'])) (fun q' => hb (by simp [q'])) (fun q' => hb (by simp [q'])) (fun q' => hb (by simp [q'])) q)) hf (Nat.le_refl _) new
    refine ⟨.ref s.heap.objs.size, _, I1, rfl, ⟨_, x, y, rfl, I.hok.fresh (Nat.le_refl _), rfl, fun l hl => by rw [I.list_inj hl hqx]; exact hx, fun l hl => by rw [I.list_inj hl hqy]; exact hy⟩, ⟨z'', ?_, ⟨u, u2, ?_⟩, ?_, ?_⟩, fun c hcm => ?_⟩
    · exact (sb.2 _ D.TIz).trans (hk _ _ D.TIz D.TITO D.TIi1 D.TIi2 hTI)
    · exact (sb.2 _ D.TOz).trans TO'
    · exact h1'.at fun o q => (sb.2 _ D.i1z).trans q
    · exact h2'.at fun o q => (sb.2 _ D.i2z).trans q
    · have hlt : c < s.heap.objs.size := by
        have e' : c = z ∨ c = TI ∨ c = TO ∨ c = i1 ∨ c = i2 := by simpa using hcm
        rcases e' with q | q | q | q | q
        · rw [q]; exact hzl
        · rw [q]; exact Heap.lt_size hTI
        · rw [q]; exact Heap.lt_size hTO
        · rw [q]; obtain ⟨_, e1, _⟩ := h1; exact Heap.lt_size e1
        · rw [q]; obtain ⟨_, e2, _⟩ := h2; exact Heap.lt_size e2
      rw [upd_ne (Nat.ne_of_lt hlt)]
      exact (hf c hcm).1
  done := by
    intro X hP hw hK hc i pins s σ H E I hf st hg
    subst hP hw hK
    obtain ⟨hz, hTI, ⟨x0, y0, hTO⟩, h1, h2⟩ := st
    obtain ⟨xs, ys, hqx, hqy, hend⟩ := hg
    obtain ⟨its, rv, p, _⟩ := I.list hqx
    obtain ⟨its2, rv2, p2, _⟩ := I.list hqy
    have l1 := rv.length
    have l2 := rv2.length
    have he : its.toArray[i]? = none ∨ its2.toArray[i]? = none := by
      rcases hend with q | q
      · exact .inl (by simp; omega)
      · exact .inr (by simp; omega)
    exact wpAny_pyNext_zip_end (I.ok.hd hc) D hz hTI hTO h1 h2 p.isList p2.isList he fun h' hk => ⟨rfl, I.turnedL (t' := s.toks) (ch := [z, TI, TO, i1, i2]) (fun c o hb q =>
      hk c o (fun q' => hb (by simp [q'])) (fun q' => hb (by simp [q'])) (fun q' => hb (by simp [q'])) (fun q' => hb (by simp [q'])) q) hf⟩
  self := fun A i s Q E st h => wpAny_pyIter_zip st.1 h
def iZip (K : PySem.W.Frag) (ta : TA) : TI := fun σ H R => ta σ H fun vs H1 => ∃ a b xs ys, vs = [.ref a, .ref b] ∧ SqL K H1 a xs ∧ SqL K H1 b ys ∧ R (Itz K a b) H1
theorem pi_zip {X : Cx} {e e2 : Expr} {ta : TA} {p pos tpos : Pos} {elts : List Expr} {kk : Nat} (hg : Gl X "zip") (hm : X.mg "zip" = none) (ha : PA X [e, e2] ta)
    (hs : starEach [e, e2] X.env = (false, eval e X.env) :: starEach [e2] X.env := by rfl) (hpl : (backTo pos (starEach [e2] X.env)).any (·.1) = false := by rfl) :
    PI X (.Tuple elts kk tpos) (.Call (.Name "zip" p) [e, e2] [] pos) (iZip X.K ta) := by
  intro pins s σ H R I h
  refine Call_ (ld_blt I hg hm boot_zip5 (PyProof.Rows.callWith_type1 (thn (ha pos pins s σ H _ I h) fun us s1 ⟨vs, H1, I1, r1, q1⟩ => ?_) hs hpl))
  obtain ⟨a, b, xs, ys, ex, hqx, hqy, q⟩ := q1
  subst ex
  cases r1 with
  | cons r rr =>
    cases rr with
    | cons r' rr =>
      cases rr
      cases r
      cases r'
      obtain ⟨its, rv, p1, _⟩ := I1.list hqx
      obtain ⟨its2, rv2, p2, _⟩ := I1.list hqy
      have la : a < s1.heap.objs.size := p1.lt
      have lb : b < s1.heap.objs.size := p2.lt
      refine call_zip_2 p1.isList p2.isList fun h' hz hTI hTO h1 h2 hsz hk => wpAny_pyIter_zip hz ?_
      have I2 : Inv X pins σ H1 { s1 with heap := h' } := I1.kept (t' := s1.toks) hk
      refine ⟨s1.heap.objs.size + 4, [s1.heap.objs.size + 4, s1.heap.objs.size + 2, s1.heap.objs.size + 3, s1.heap.objs.size, s1.heap.objs.size + 1], _, _, H1, rfl, I2, turn_zip (PySem.W.ktu_apart s1.heap.objs.size a b la lb), ⟨hz, hTI, ⟨_, _, hTO⟩, h1, h2⟩, fun c hcm => ?_, q⟩
      have e' : c = s1.heap.objs.size + 4 ∨ c = s1.heap.objs.size + 2 ∨ c = s1.heap.objs.size + 3 ∨ c = s1.heap.objs.size ∨ c = s1.heap.objs.size + 1 := by simpa using hcm
      have hle : s1.heap.objs.size ≤ c := by
        rcases e' with z | z | z | z | z
        · rw [z]; exact Nat.le_add_right _ _
        · rw [z]; exact Nat.le_add_right _ _
        · rw [z]; exact Nat.le_add_right _ _
        · rw [z]; exact Nat.le_refl _
        · rw [z]; exact Nat.le_add_right _ _
      exact I1.fpOk hle (I1.hok.fresh hle)
end L2
section 
namespace Bits
open PySem PyProof.Rows
end Bits
end 
section 
namespace TL
open PySem PySem.Builtin PySem.Builtin.Str PySem.StrLaws
abbrev tl (x : Str) : List Nat := x.cps.toList
theorem len_tl (x : Str) : x.length = (tl x).length := by simp [tl, Str.length]
def numL (n : Nat) : List Nat := (Nat.toDigits 10 n).map Char.toNat
theorem tl_num (n : Nat) : tl (Str.ofString (toString ((n : Nat) : Int))) = numL n := PySem.W.KIN.signs_num n
theorem digitChar_nat : ∀ d : Nat, d < 10 → (Nat.digitChar d).toNat = 48 + d := by decide
theorem numL_lt {n : Nat} (h : n < 10) : numL n = [48 + n] := by
  unfold numL
  rw [Nat.toDigits_of_lt_base h]
  show [(Nat.digitChar n).toNat] = _
  rw [digitChar_nat n h]
theorem numL_step {n : Nat} (h : 10 ≤ n) : numL n = numL (n / 10) ++ [48 + n % 10] := by
  have hm : n % 10 < 10 := Nat.mod_lt n (by decide)
  have t : Nat.toDigits 10 (n / 10) ++ Nat.toDigits 10 (n % 10) = Nat.toDigits 10 (10 * (n / 10) + n % 10) := Nat.toDigits_append_toDigits (by decide) (by omega) hm
  rw [Nat.div_add_mod] at t
  show (Nat.toDigits 10 n).map Char.toNat = _
  rw [← t, List.map_append, Nat.toDigits_of_lt_base hm]
  show (Nat.toDigits 10 (n / 10)).map Char.toNat ++ [(Nat.digitChar (n % 10)).toNat] = _
  rw [digitChar_nat _ hm] <;> rfl
theorem numL_ne (n : Nat) : numL n ≠ [] := by
  by_cases h : n < 10
  · rw [numL_lt h]
    simp
  · rw [numL_step (by omega)]
    simp
theorem numL_len {n k : Nat} (hk : 0 < k) (h : n < 10 ^ k) : (numL n).length ≤ k := by
  have z := PyProof.Rows.toString_length_le (v := (n : Int)) (by omega) hk (by
    have e : ((10 : Int) ^ k) = ((10 ^ k : Nat) : Int) := by
      first
        | exact (Int.natCast_pow 10 k).symm
        | simp
    rw [e]
    first | exact Int.ofNat_lt.mpr h | omega)
  rw [len_tl, tl_num] at z
  exact z
end TL
end 
namespace L2
open PySem PySem.Spec PyProof.Rows
section
variable {X : Cx}
theorem call_int_str : CallR X (.type "int") (fun xs H Q => ∃ a n, xs = [.str a] ∧ PySem.intText? a = some n ∧ a.length ≤ 640 ∧ Q (.int n) H) := by
  intro pins s σ H xs us Q I rs h
  obtain ⟨a, n, rfl, hn, hl, h⟩ := h
  cases rs with
  | cons r1 rs =>
    cases rs
    obtain ⟨t, rfl⟩ := r1
    exact PySem.W.KIN.call_text hn hl ⟨.int n, H, I.tok _, ⟨_, rfl⟩, h⟩
end
end L2
namespace L2
open PySem PySem.Spec PyProof.Rows
end L2
namespace Att
open PySem PySem.W PySem.Calls PyProof.Rows
end Att
namespace L2
open PySem PySem.Spec PyProof.Rows
end L2
namespace L2
open PySem PySem.Spec PyProof.Rows
end L2
namespace L2
open PySem PySem.Spec PyProof.Rows
def inClass (s : Stmt) (j : Nat) : Stmt := match s with
  | .ClassDef _ _ _ body _ _ _ _ _ _ _ => body.getD j (.Pass ⟨0, 0, 0, 0⟩)
  | _ => .Pass ⟨0, 0, 0, 0⟩
def defArgs (s : Stmt) : Arguments := match s with
  | .FunctionDef _ a _ _ _ _ _ _ _ _ => a
  | _ => { posonlyargs := [], args := [], vararg := none, kwonlyargs := [], kw_defaults := [], kwarg := none, defaults := [] }
def defBody (s : Stmt) : List Stmt := match s with
  | .FunctionDef _ _ b _ _ _ _ _ _ _ => b
  | _ => []
def defScope (s : Stmt) : Scope := match s with
  | .FunctionDef _ _ _ _ _ _ sc _ _ _ => sc
  | _ => { kind := .function, names := [], isGenerator := false, isCoroutine := false }
abbrev CX0 : CXT := fun _ _ _ _ _ _ => False
abbrev E0 : XK := fun _ _ _ => False
theorem pass0 {X : Cx} : Passes CX0 X E0 := fun _ _ _ _ _ _ _ h => h.elim
structure Fun (K : PySem.W.Frag) (x qual : Str) (st : Stmt) (f : Addr) (fd : FuncData) : Prop where
  ex : ∃ (oc : Value) (od : Option Addr) (kV doc pm : Value) (an : Option Addr) (cdv ct : Value) (osl : Array (Option Value)),
    fd = PySem.W.fnOf x qual (defArgs st) (defBody st) (defScope st) .none kV doc pm an cdv ct ∧ K.lookup f = some ⟨oc, od, .func fd, osl⟩ ∧ PySem.W.codeIn K cdv qual = true
  kp : PySem.W.keepIn K (.ref f) = true
section
variable {P : Program} {w : World} {K : PySem.W.Frag} {mg : Str → Option Value} {base : Heap}
theorem Fun.ok {x qual : Str} {st : Stmt} {f : Addr} {fd : FuncData} {N ps : List Str} {k : Nat} {sp : Sp} (F : Fun K x qual st f fd) (S : FnScope N ps (defScope st)) (len : ∀ vs H Q E, sp vs H Q E → vs.length = ps.length)
    (hbody : ∀ (cdv : Value) (A : Around) (outer : List Env) (s : Shared) (H : Hp) (vs : List V) (Q : VK) (E : XK), Room k (A.deeper (envOfC qual (defScope st) s.heap.objs.size f cdv)) → sp vs H Q E →
      ∃ t, PSs (cxOf CX0 P w K mg base N qual (defScope st) f cdv A outer s H E).nox (defBody st) t ∧ t { nx := fun _ H' => Q .non H', rt := Q } (start N vs) H) : FnOk P w K mg base CX0 (k + 1) f fd ps sp := by
  obtain ⟨oc, od, kV, doc, pm, an, cdv, ct, osl, rfl, lk, hcd⟩ := F.ex
  refine fn_of lk hcd S len fun A outer s H vs Q E hr hsp => ?_
  obtain ⟨t, h, q⟩ := hbody cdv A outer s H vs Q E hr hsp
  exact ⟨t, h.nox, q⟩
theorem Fun.binds {x qual : Str} {st : Stmt} {f : Addr} {fd : FuncData} {ps : List Str} (F : Fun K x qual st f fd)
    (h : ∀ (kV doc pm : Value) (an : Option Addr) (cdv ct : Value) (us : List Value), us.length = ps.length → bindArgs (PySem.W.fnOf x qual (defArgs st) (defBody st) (defScope st) .none kV doc pm an cdv ct) ⟨us, []⟩ = pure (ps.zip us)) : Binds K fd ps [] := by
  obtain ⟨oc, od, kV, doc, pm, an, cdv, ct, osl, rfl, lk, hcd⟩ := F.ex
  exact .all (h kV doc pm an cdv ct)
theorem fun_mk {x qual : Str} {st : Stmt} {f : Addr} {oc : Value} {od an : Option Addr} {osl : Array (Option Value)} {kV doc pm cdv ct : Value} (l : K.lookup f = some ⟨oc, od, .func (PySem.W.fnOf x qual (defArgs st) (defBody st) (defScope st) .none kV doc pm an cdv ct), osl⟩)
    (c : PySem.W.codeIn K cdv qual = true) (k : PySem.W.keepIn K (.ref f) = true) : Fun K x qual st f (PySem.W.fnOf x qual (defArgs st) (defBody st) (defScope st) .none kV doc pm an cdv ct) := ⟨⟨oc, od, kV, doc, pm, an, cdv, ct, osl, rfl, l, c⟩, k⟩
end
theorem hu_of {A : Around} {k : Nat} (hr : Room k A) : A.units + 1 < cLine := Nat.lt_of_le_of_lt (Nat.add_le_add_left (by decide : 1 ≤ 64) _) hr.units
section
variable {X : Cx}
theorem pv (i : Nat) {x : Str} {pos : Pos} (hN : X.N[i]? = some x := by rfl) (hv : Vis X.env.scope x := by first | exact Or.inl rfl | exact Or.inr (Or.inl rfl) | exact Or.inr (Or.inr rfl)) (hd : (x == ("__debug__" : Str)) = false := by decide)
    (hcd : (x == ("__classdict__" : Str)) = false := by decide) : PE X (.Name x pos) (tVar i) := pe_var hN hv hd hcd
theorem call_lenD : CallR X (.builtin "len") (fun xs H Q => ∃ a kvs, xs = [V.ref a] ∧ H a = some (.dK kvs) ∧ Q (.int kvs.length) H) := by
  intro pins s σ H xs us Q I r h
  obtain ⟨a, kvs, rfl, ha, q⟩ := h
  obtain ⟨u, rfl, ru⟩ := vals1 r
  cases ru
  exact d_len I (.inl ha) fun t s' I' => ⟨.int kvs.length, H, I', ⟨t, rfl⟩, q⟩
end
theorem iteT {A B : Prop} (h : A) : if true = true then A else B := by
  rw [if_pos rfl]
  exact h
def Same (H H' : Hp) : Prop := ∀ b o, H b = some o → H' b = some o
theorem Same.trans {H H1 H2 : Hp} (a : Same H H1) (b : Same H1 H2) : Same H H2 := fun c o h => b c o (a c o h)
theorem Same.free {H H' : Hp} (e : Same H H') {l : Addr} (h : H' l = Option.none) : H l = Option.none := by
  cases q : H l with
  | none => rfl
  | some o =>
    rw [e l o q] at h
    cases h
theorem Same.seq {K : PySem.W.Frag} {H H' : Hp} {a : Addr} {xs : List V} (e : Same H H') (h : SqL K H a xs) : SqL K H' a xs := by
  rcases h with (h | ⟨o, h⟩) | h
  · exact .inl (.inl (e _ _ h))
  · exact .inl (.inr ⟨o, e _ _ h⟩)
  · exact .inr h
theorem Same.made {H H1 : Hp} {x dx C : Addr} (nx : H x = Option.none) (nd : H dx = Option.none) (k : ∀ b o, (upd (upd H dx (.own x)) x (.ins C dx [])) b = some o → b ≠ x → H1 b = some o) : Same H H1 := fun b o e =>
  k b o (by rw [upd_ne (ne_of_none e nx), upd_ne (ne_of_none e nd)]; exact e) (ne_of_none e nx)
end L2

section
namespace L2
open PySem PySem.Spec PyProof.Rows
open PySem.W (WData Codec OpenSpec Well WellAll ReadsW ReadsAllW)
mutual
/-- x stands for the datum d, lists and tuples all the way -/
inductive Dw (K : PySem.W.Frag) (H : Hp) : V → WData → Prop
  | non : Dw K H .non .none
  | bl (b : Bool) : Dw K H (.bl b) (.bool b)
  | int (i : Int) : Dw K H (.int i) (.int i)
  | str (x : Str) : Dw K H (.str x) (.str x)
  | byt (b : Array UInt8) : Dw K H (.byt b) (.bytes b.toList)
  | lst {a : Addr} {xs : List V} {ds : List WData} : SqL K H a xs → DwAll K H xs ds → Dw K H (.ref a) (.list ds)
  | tup {a : Addr} {xs : List V} {ds : List WData} : SqT K H a xs → DwAll K H xs ds → Dw K H (.ref a) (.tuple ds)
inductive DwAll (K : PySem.W.Frag) (H : Hp) : List V → List WData → Prop
  | nil : DwAll K H [] []
  | cons {v : V} {vs : List V} {d : WData} {ds : List WData} : Dw K H v d → DwAll K H vs ds → DwAll K H (v :: vs) (d :: ds)
end
theorem dw_ints {K : PySem.W.Frag} {H : Hp} : ∀ ns : List Int, DwAll K H (ns.map V.int) (ns.map WData.int)
  | [] => .nil
  | n :: r => .cons (.int n) (dw_ints r)
theorem ints_dw {K : PySem.W.Frag} {H : Hp} : ∀ (ns : List Int) (xs : List V), DwAll K H xs (ns.map WData.int) → xs = ns.map V.int
  | [], xs, h => by
    cases h
    rfl
  | n :: r, xs, h => by
    cases h with
    | cons h1 h2 =>
      cases h1
      rw [ints_dw r _ h2] <;> rfl
section
variable {P : Program} {w : World} {K : PySem.W.Frag} {H : Hp} {h : Heap} {R : PySem.W.WRecords} {cl : Str → Option Addr}
theorem sqL_at {a : Addr} {xs : List V} (hok : HOk P w H h) (KX : K.In h) (q : SqL K H a xs) : ∃ (its : List Value) (o : Obj) (n : Nat), Vals xs its ∧ h.get? a = some o ∧ o.cls = .type "list" ∧ o.data = .seq its.toArray n := by
  rcases q with q | ⟨o, its, n, e, hc, _, hd, _, hv⟩
  · obtain ⟨_, its, n, hv, e⟩ := (show ObjOk P w H h a (.lst xs) from q.ok hok)
    exact ⟨its, _, n, hv, e, rfl, rfl⟩
  · exact ⟨its.toList, o, n, hv, KX _ _ e, hc, by simp [hd]⟩
theorem sqT_at {a : Addr} {xs : List V} (hok : HOk P w H h) (KX : K.In h) (q : SqT K H a xs) : ∃ (its : List Value) (o : Obj) (n : Nat), Vals xs its ∧ h.get? a = some o ∧ o.cls = .type "tuple" ∧ o.data = .seq its.toArray n := by
  rcases q with q | ⟨o, its, n, e, hc, hd, _, hv⟩
  · obtain ⟨_, its, hv, o, e, hc, n, hd⟩ := (show ObjOk P w H h a (.tup xs) from q.ok hok)
    exact ⟨its, o, n, hv, e, hc, hd⟩
  · exact ⟨its.toList, o, n, hv, KX _ _ e, hc, by simp [hd]⟩
mutual
theorem Dw.reads (hok : HOk P w H h) (KX : K.In h) : ∀ (d : WData) (v : V) (u : Value), Dw K H v d → RelV v u → ∃ as, ReadsW R cl h u d as
  | .none, _, _, x, r => by
    cases x
    cases r
    exact ⟨_, ReadsW.none⟩
  | .bool b, _, _, x, r => by
    cases x
    cases r
    exact ⟨_, ReadsW.bool b⟩
  | .int i, _, _, x, r => by
    cases x
    obtain ⟨t, rfl⟩ := r
    exact ⟨_, ReadsW.int i t⟩
  | .str s, _, _, x, r => by
    cases x
    obtain ⟨t, rfl⟩ := r
    exact ⟨_, ReadsW.str s t⟩
  | .bytes b, _, _, x, r => by
    cases x
    obtain ⟨t, rfl⟩ := r
    exact ⟨_, ReadsW.bytes _ t⟩
  | .list ds, _, _, x, r => by
    cases x with
    | lst hs ha =>
      cases r
      obtain ⟨its, o, n, rv, ho, hc, hd⟩ := sqL_at hok KX hs
      obtain ⟨as, hr⟩ := Dw.readsAll hok KX ds _ its ha rv
      exact ⟨_, ReadsW.list ho hc hd hr⟩
  | .tuple ds, _, _, x, r => by
    cases x with
    | tup hs ha =>
      cases r
      obtain ⟨its, o, n, rv, ho, hc, hd⟩ := sqT_at hok KX hs
      obtain ⟨as, hr⟩ := Dw.readsAll hok KX ds _ its ha rv
      exact ⟨_, ReadsW.tuple ho hc hd hr⟩
  | .float _, _, _, x, _ => by cases x
  | .dict _, _, _, x, _ => by cases x
  | .bytearray _, _, _, x, _ => by cases x
  | .set _, _, _, x, _ => by cases x
  | .frozenset _, _, _, x, _ => by cases x
  | .obj _ _, _, _, x, _ => by cases x
theorem Dw.readsAll (hok : HOk P w H h) (KX : K.In h) : ∀ (ds : List WData) (vs : List V) (us : List Value), DwAll K H vs ds → Vals vs us → ∃ as, ReadsAllW R cl h us ds as
  | [], _, _, x, r => by
    cases x
    cases r
    exact ⟨_, ReadsAllW.nil⟩
  | d :: ds, _, _, x, r => by
    cases x with
    | cons h1 h2 =>
      cases r with
      | cons r1 r2 =>
        obtain ⟨as, q1⟩ := Dw.reads hok KX d _ _ h1 r1
        obtain ⟨bs, q2⟩ := Dw.readsAll hok KX ds _ _ h2 r2
        exact ⟨_, ReadsAllW.cons q1 q2⟩
end
end
mutual
/-- data that a codec tells -/
def plW : WData → Bool
  | .none => true
  | .bool _ => true
  | .int _ => true
  | .str _ => true
  | .bytes _ => true
  | .list xs => plWs xs
  | .tuple xs => plWs xs
  | _ => false
def plWs : List WData → Bool
  | [] => true
  | x :: r => plW x && plWs r
end
theorem plWs_map {α : Type} {f : α → WData} (h : ∀ a, plW (f a) = true) : ∀ l : List α, plWs (l.map f) = true
  | [] => rfl
  | x :: r => by
    show (plW (f x) && plWs (r.map f)) = true
    rw [h x, plWs_map h r] <;> rfl
theorem pl_enc : ∀ (c : Codec) (a : c.denote), plW (c.enc a) = true
  | .unit, _ => rfl
  | .bool, _ => rfl
  | .int _ _, _ => rfl
  | .nat _ _, _ => rfl
  | .u8, _ => rfl
  | .bytes _ _, _ => rfl
  | .text _ _ _ _, _ => rfl
  | .list _ _ c, a => plWs_map (fun x => pl_enc c x) a
  | .pair c d, a => by
    show (plW (c.enc a.1) && (plW (d.enc a.2) && true)) = true
    rw [pl_enc c a.1, pl_enc d a.2] <;> rfl
  | .triple c d e, a => by
    show (plW (c.enc a.1) && (plW (d.enc a.2.1) && (plW (e.enc a.2.2) && true))) = true
    rw [pl_enc c a.1, pl_enc d a.2.1, pl_enc e a.2.2] <;> rfl
  | .option c, none => rfl
  | .option c, some x => pl_enc c x
theorem pl_encAll : ∀ (cs : List Codec) (a : Codec.denoteAll cs), plWs (Codec.encAll cs a) = true
  | [], _ => rfl
  | c :: cs, a => by
    show (plW (c.enc a.1) && plWs (Codec.encAll cs a.2)) = true
    rw [pl_enc c a.1, pl_encAll cs a.2] <;> rfl
theorem weight_mem : ∀ {xs : List WData} {d : WData}, d ∈ xs → d.weight ≤ WData.weightAll xs
  | [], d, h => absurd h (by simp)
  | x :: r, d, h => by
    show d.weight ≤ x.weight + 1 + WData.weightAll r
    rcases List.mem_cons.mp h with e | m
    · rw [e]
      omega
    · have z := weight_mem m
      omega
def toV : Value → V
  | .none => .non
  | .bool b => .bl b
  | .int i _ => .int i
  | .str x _ => .str x
  | .bytes b _ => .byt b
  | .ref a => .ref a
  | _ => .non
def OkU (A : List Addr) : Value → Prop
  | .none => True
  | .bool _ => True
  | .int _ _ => True
  | .str _ _ => True
  | .bytes _ _ => True
  | .ref a => a ∈ A
  | _ => False
theorem OkU.mono {A B : List Addr} (h : ∀ a ∈ A, a ∈ B) : ∀ {u : Value}, OkU A u → OkU B u := fun {u} x => by
  cases u with
  | ref a => exact h a x
  | none => trivial
  | bool b => trivial
  | int i t => trivial
  | str s t => trivial
  | bytes b t => trivial
  | _ => exact False.elim x
theorem relV_toV {A : List Addr} {u : Value} (x : OkU A u) : RelV (toV u) u := by
  cases u with
  | ref a => rfl
  | none => rfl
  | bool b => rfl
  | int i t => exact ⟨t, rfl⟩
  | str s t => exact ⟨t, rfl⟩
  | bytes b t => exact ⟨t, rfl⟩
  | _ => exact False.elim x
theorem vals_toV {A : List Addr} : ∀ {vs : List Value}, (∀ u ∈ vs, OkU A u) → Vals (vs.map toV) vs
  | [], _ => .nil
  | u :: r, h => .cons (relV_toV (h u (List.mem_cons_self ..))) (vals_toV fun x hx => h x (List.mem_cons_of_mem _ hx))
def ArgOb (h : Heap) (A : List Addr) (a : Addr) : Prop := ∃ vs : List Value, vs.length ≤ sizeLine ∧ (∀ u ∈ vs, OkU A u) ∧
  (h.get? a = some { cls := .type "list", data := .seq vs.toArray } ∨ h.get? a = some { cls := .type "tuple", data := .seq vs.toArray })
theorem ArgOb.mono {h : Heap} {A B : List Addr} {a : Addr} (k : ∀ a ∈ A, a ∈ B) (x : ArgOb h A a) : ArgOb h B a := by
  obtain ⟨vs, h1, h2, h3⟩ := x
  exact ⟨vs, h1, fun u hu => (h2 u hu).mono k, h3⟩
theorem wellAll_len {P : Params} {h : Heap} : ∀ {vs : List Value} {ds : List WData}, WellAll P h vs ds → vs.length = ds.length
  | _, _, .nil => rfl
  | _, _, .cons _ b => by
    show _ + 1 = _ + 1
    rw [wellAll_len b]
theorem well_list {P : Params} {h : Heap} {v : Value} {ds : List WData} (x : Well P h v (.list ds)) : ∃ (a : Addr) (vs : List Value), v = .ref a ∧ h.get? a = some { cls := .type "list", data := .seq vs.toArray } ∧ WellAll P h vs ds := by
  cases x with
  | list ho hall => exact ⟨_, _, rfl, ho, hall⟩
theorem well_tuple {P : Params} {h : Heap} {v : Value} {ds : List WData} (x : Well P h v (.tuple ds)) : ∃ (a : Addr) (vs : List Value), v = .ref a ∧ h.get? a = some { cls := .type "tuple", data := .seq vs.toArray } ∧ WellAll P h vs ds := by
  cases x with
  | tuple ho hall => exact ⟨_, _, rfl, ho, hall⟩
theorem well_cons {P : Params} {h : Heap} {us : List Value} {d : WData} {ds : List WData} (x : WellAll P h us (d :: ds)) : ∃ (v : Value) (vs : List Value), us = v :: vs ∧ Well P h v d ∧ WellAll P h vs ds := by
  cases x with
  | cons a b => exact ⟨_, _, rfl, a, b⟩
theorem line_of {n : Nat} (h : n ≤ 1048576) : n ≤ sizeLine := Nat.le_trans h (by decide)
section
variable {P : Params} {h : Heap}
mutual
theorem area_one : ∀ (d : WData) (v : Value), Well P h v d → plW d = true → d.weight ≤ 1048576 → ∃ A : List Addr, OkU A v ∧ ∀ a ∈ A, ArgOb h A a
  | .none, _, x, _, _ => by
    cases x
    exact ⟨[], trivial, fun a m => absurd m (by simp)⟩
  | .bool b, _, x, _, _ => by
    cases x
    exact ⟨[], trivial, fun a m => absurd m (by simp)⟩
  | .int i, _, x, _, _ => by
    cases x
    exact ⟨[], trivial, fun a m => absurd m (by simp)⟩
  | .str s, _, x, _, _ => by
    cases x
    exact ⟨[], trivial, fun a m => absurd m (by simp)⟩
  | .bytes b, _, x, _, _ => by
    cases x
    exact ⟨[], trivial, fun a m => absurd m (by simp)⟩
  | .list ds, _, x, p, z => by
    obtain ⟨a, vs, rfl, ho, hall⟩ := well_list x
    have z2 : WData.weightAll ds ≤ 1048576 := z
    obtain ⟨A, h1, h2⟩ := area_all ds _ hall p fun d hd => Nat.le_trans (weight_mem hd) z2
    have k : ∀ b ∈ A, b ∈ a :: A := fun b hb => List.mem_cons_of_mem _ hb
    refine ⟨a :: A, List.mem_cons_self .., fun b hb => ?_⟩
    rcases List.mem_cons.mp hb with e | m
    · rw [e]
      exact ⟨vs, line_of (by rw [wellAll_len hall]; exact Nat.le_trans (PySem.W.length_le_weightAllW ds) z2), fun u hu => (h1 u hu).mono k, .inl ho⟩
    · exact (h2 b m).mono k
  | .tuple ds, _, x, p, z => by
    obtain ⟨a, vs, rfl, ho, hall⟩ := well_tuple x
    have z2 : WData.weightAll ds ≤ 1048576 := z
    obtain ⟨A, h1, h2⟩ := area_all ds _ hall p fun d hd => Nat.le_trans (weight_mem hd) z2
    have k : ∀ b ∈ A, b ∈ a :: A := fun b hb => List.mem_cons_of_mem _ hb
    refine ⟨a :: A, List.mem_cons_self .., fun b hb => ?_⟩
    rcases List.mem_cons.mp hb with e | m
    · rw [e]
      exact ⟨vs, line_of (by rw [wellAll_len hall]; exact Nat.le_trans (PySem.W.length_le_weightAllW ds) z2), fun u hu => (h1 u hu).mono k, .inr ho⟩
    · exact (h2 b m).mono k
  | .float _, _, _, p, _ => Bool.noConfusion (show false = true from p)
  | .dict _, _, _, p, _ => Bool.noConfusion (show false = true from p)
  | .bytearray _, _, _, p, _ => Bool.noConfusion (show false = true from p)
  | .set _, _, _, p, _ => Bool.noConfusion (show false = true from p)
  | .frozenset _, _, _, p, _ => Bool.noConfusion (show false = true from p)
  | .obj _ _, _, _, p, _ => Bool.noConfusion (show false = true from p)
theorem area_all : ∀ (ds : List WData) (vs : List Value), WellAll P h vs ds → plWs ds = true → (∀ d ∈ ds, d.weight ≤ 1048576) → ∃ A : List Addr, (∀ u ∈ vs, OkU A u) ∧ ∀ a ∈ A, ArgOb h A a
  | [], _, x, _, _ => by
    cases x
    exact ⟨[], fun u m => absurd m (by simp), fun a m => absurd m (by simp)⟩
  | d :: ds, _, x, p, z => by
    obtain ⟨v, vs, rfl, x1, x2⟩ := well_cons x
    have q : plW d = true ∧ plWs ds = true := Bool.and_eq_true_iff.mp p
    obtain ⟨A, a1, a2⟩ := area_one d v x1 q.1 (z d (List.mem_cons_self ..))
    obtain ⟨B, b1, b2⟩ := area_all ds vs x2 q.2 fun e he => z e (List.mem_cons_of_mem _ he)
    have kA : ∀ b ∈ A, b ∈ A ++ B := fun b hb => List.mem_append.mpr (.inl hb)
    have kB : ∀ b ∈ B, b ∈ A ++ B := fun b hb => List.mem_append.mpr (.inr hb)
    refine ⟨A ++ B, fun u hu => ?_, fun b hb => ?_⟩
    · rcases List.mem_cons.mp hu with e | m
      · rw [e]
        exact a1.mono kA
      · exact (b1 u m).mono kB
    · rcases List.mem_append.mp hb with m | m
      · exact (a2 b m).mono kA
      · exact (b2 b m).mono kB
end
end
def hoOf (o : Obj) : Option HO := match o.data with
  | .seq vs _ => if (o.cls == Value.type "list") = true then some (.frz o (.lst (vs.toList.map toV))) else some (.frz o (.tup (vs.toList.map toV)))
  | _ => none
def argH (K : PySem.W.Frag) (h : Heap) (A : List Addr) : Hp := fun b => if b ∈ A then (if (K.lookup b).isNone = true then (h.get? b).bind hoOf else none) else none
def OnlyF (H : Hp) : Prop := ∀ b, H b = none ∨ ∃ o u, H b = some (.frz o u)
theorem hoOf_lst (vs : List Value) : hoOf { cls := .type "list", data := .seq vs.toArray } = some (.frz { cls := .type "list", data := .seq vs.toArray } (.lst (vs.map toV))) := by
  show (if (Value.type "list" == Value.type "list") = true then some (HO.frz { cls := .type "list", data := .seq vs.toArray } (.lst (vs.toArray.toList.map toV))) else some (HO.frz { cls := .type "list", data := .seq vs.toArray } (.tup (vs.toArray.toList.map toV)))) = _
  rw [if_pos (beq_self_eq_true _)]
theorem hoOf_tup (vs : List Value) : hoOf { cls := .type "tuple", data := .seq vs.toArray } = some (.frz { cls := .type "tuple", data := .seq vs.toArray } (.tup (vs.map toV))) := by
  show (if (Value.type "tuple" == Value.type "list") = true then some (HO.frz { cls := .type "tuple", data := .seq vs.toArray } (.lst (vs.toArray.toList.map toV))) else some (HO.frz { cls := .type "tuple", data := .seq vs.toArray } (.tup (vs.toArray.toList.map toV)))) = _
  rw [if_neg (by decide)]
section
variable {P : Program} {w : World} {K : PySem.W.Frag} {h : Heap} {A : List Addr}
theorem argH_at {b : Addr} {o : Obj} (hb : b ∈ A) (hk : K.lookup b = none) (e : h.get? b = some o) : argH K h A b = hoOf o := by
  unfold argH
  rw [if_pos hb, hk, if_pos (show (none : Option Obj).isNone = true from rfl), e] <;> rfl
theorem of_argH {b : Addr} {u : HO} (q : argH K h A b = some u) : b ∈ A ∧ K.lookup b = none := by
  unfold argH at q
  by_cases hb : b ∈ A
  · rw [if_pos hb] at q
    cases hk : K.lookup b with
    | none => exact ⟨hb, rfl⟩
    | some o =>
      rw [hk, if_neg (by simp)] at q
      cases q
  · rw [if_neg hb] at q
    cases q
theorem argH_is (ar : ∀ a ∈ A, ArgOb h A a) {b : Addr} {u : HO} (q : argH K h A b = some u) : K.lookup b = none ∧ ∃ vs : List Value, vs.length ≤ sizeLine ∧ (∀ u ∈ vs, OkU A u) ∧
    ((h.get? b = some { cls := .type "list", data := .seq vs.toArray } ∧ u = .frz { cls := .type "list", data := .seq vs.toArray } (.lst (vs.map toV))) ∨
     (h.get? b = some { cls := .type "tuple", data := .seq vs.toArray } ∧ u = .frz { cls := .type "tuple", data := .seq vs.toArray } (.tup (vs.map toV)))) := by
  obtain ⟨hb, hk⟩ := of_argH q
  obtain ⟨vs, h1, h2, h3⟩ := ar b hb
  refine ⟨hk, vs, h1, h2, ?_⟩
  rcases h3 with e | e
  · rw [argH_at hb hk e, hoOf_lst] at q
    exact .inl ⟨e, (Option.some.inj q).symm⟩
  · rw [argH_at hb hk e, hoOf_tup] at q
    exact .inr ⟨e, (Option.some.inj q).symm⟩
theorem argH_only (ar : ∀ a ∈ A, ArgOb h A a) : OnlyF (argH K h A) := fun b => by
  cases q : argH K h A b with
  | none => exact .inl rfl
  | some u =>
    obtain ⟨_, vs, _, _, ⟨_, e⟩ | ⟨_, e⟩⟩ := argH_is ar q
    · exact .inr ⟨_, _, by rw [e]⟩
    · exact .inr ⟨_, _, by rw [e]⟩
theorem argH_ok (ar : ∀ a ∈ A, ArgOb h A a) : HOk P w (argH K h A) h := fun b u q => by
  obtain ⟨_, vs, h1, h2, ⟨e, rfl⟩ | ⟨e, rfl⟩⟩ := argH_is ar q
  · exact ⟨e, by rw [List.length_map]; exact h1, vs, _, vals_toV h2, e⟩
  · exact ⟨e, by rw [List.length_map]; exact h1, vs, vals_toV h2, _, e, rfl, _, rfl⟩
theorem seq_inj {c c' : Value} {vs us : List Value} (e : (some { cls := c, data := .seq vs.toArray } : Option Obj) = some { cls := c', data := .seq us.toArray }) : c = c' ∧ vs = us := by
  have e1 := Option.some.inj e
  have e2 : c = c' := congrArg Obj.cls e1
  have e3 : Data.seq vs.toArray = Data.seq us.toArray := congrArg Obj.data e1
  injection e3 with e4
  refine ⟨e2, ?_⟩
  have e5 := congrArg Array.toList e4
  simpa using e5
theorem argL (KX : K.In h) (ar : ∀ a ∈ A, ArgOb h A a) {a : Addr} {vs : List Value} (ha : a ∈ A) (e : h.get? a = some { cls := .type "list", data := .seq vs.toArray }) : (∀ u ∈ vs, OkU A u) ∧ SqL K (argH K h A) a (vs.map toV) := by
  obtain ⟨us, h1, h2, h3⟩ := ar a ha
  have hu : us = vs := by
    rcases h3 with q | q
    · rw [e] at q
      exact (seq_inj q).2.symm
    · rw [e] at q
      exact absurd (Value.type.inj (seq_inj q).1) (by decide)
  subst hu
  refine ⟨h2, ?_⟩
  cases hk : K.lookup a with
  | none => exact .inl (.inr ⟨_, by rw [argH_at ha hk e, hoOf_lst]⟩)
  | some o =>
    have e2 := KX a o hk
    rw [e] at e2
    obtain rfl := Option.some.inj e2
    exact .inr ⟨_, us.toArray, _, hk, rfl, rfl, rfl, by rw [List.size_toArray]; exact h1, by simpa using vals_toV h2⟩
theorem argT (KX : K.In h) (ar : ∀ a ∈ A, ArgOb h A a) {a : Addr} {vs : List Value} (ha : a ∈ A) (e : h.get? a = some { cls := .type "tuple", data := .seq vs.toArray }) : (∀ u ∈ vs, OkU A u) ∧ SqT K (argH K h A) a (vs.map toV) := by
  obtain ⟨us, h1, h2, h3⟩ := ar a ha
  have hu : us = vs := by
    rcases h3 with q | q
    · rw [e] at q
      exact absurd (Value.type.inj (seq_inj q).1) (by decide)
    · rw [e] at q
      exact (seq_inj q).2.symm
  subst hu
  refine ⟨h2, ?_⟩
  cases hk : K.lookup a with
  | none => exact .inl (.inr ⟨_, by rw [argH_at ha hk e, hoOf_tup]⟩)
  | some o =>
    have e2 := KX a o hk
    rw [e] at e2
    obtain rfl := Option.some.inj e2
    exact .inr ⟨_, us.toArray, _, hk, rfl, rfl, by rw [List.size_toArray]; exact h1, by simpa using vals_toV h2⟩
mutual
theorem dw_one {Pm : Params} (KX : K.In h) (ar : ∀ a ∈ A, ArgOb h A a) : ∀ (d : WData) (v : Value), Well Pm h v d → plW d = true → OkU A v → Dw K (argH K h A) (toV v) d
  | .none, _, x, _, _ => by
    cases x
    exact .non
  | .bool b, _, x, _, _ => by
    cases x
    exact .bl b
  | .int i, _, x, _, _ => by
    cases x
    exact .int i
  | .str s, _, x, _, _ => by
    cases x
    exact .str s
  | .bytes b, _, x, _, _ => by
    cases x
    have z := Dw.byt (K := K) (H := argH K h A) b.toArray
    exact z
  | .list ds, _, x, p, hu => by
    obtain ⟨a, vs, rfl, ho, hall⟩ := well_list x
    obtain ⟨h2, hs⟩ := argL KX ar hu ho
    exact .lst hs (dw_all KX ar ds _ hall p h2)
  | .tuple ds, _, x, p, hu => by
    obtain ⟨a, vs, rfl, ho, hall⟩ := well_tuple x
    obtain ⟨h2, hs⟩ := argT KX ar hu ho
    exact .tup hs (dw_all KX ar ds _ hall p h2)
  | .float _, _, _, p, _ => Bool.noConfusion (show false = true from p)
  | .dict _, _, _, p, _ => Bool.noConfusion (show false = true from p)
  | .bytearray _, _, _, p, _ => Bool.noConfusion (show false = true from p)
  | .set _, _, _, p, _ => Bool.noConfusion (show false = true from p)
  | .frozenset _, _, _, p, _ => Bool.noConfusion (show false = true from p)
  | .obj _ _, _, _, p, _ => Bool.noConfusion (show false = true from p)
theorem dw_all {Pm : Params} (KX : K.In h) (ar : ∀ a ∈ A, ArgOb h A a) : ∀ (ds : List WData) (vs : List Value), WellAll Pm h vs ds → plWs ds = true → (∀ u ∈ vs, OkU A u) → DwAll K (argH K h A) (vs.map toV) ds
  | [], _, x, _, _ => by
    cases x
    exact .nil
  | d :: ds, _, x, p, hu => by
    obtain ⟨v, vs, rfl, x1, x2⟩ := well_cons x
    have q : plW d = true ∧ plWs ds = true := Bool.and_eq_true_iff.mp p
    exact .cons (dw_one KX ar d v x1 q.1 (hu _ (List.mem_cons_self ..))) (dw_all KX ar ds vs x2 q.2 fun u m => hu u (List.mem_cons_of_mem _ m))
end
end
theorem spec_call {P : Program} {w : World} {K : PySem.W.Frag} {mg mb : Str → Option Value} {CX : CXT} {k : Nat} {fa : Addr} {fd : FuncData} {ps : List Str} {sp : Sp} {s₁ : Shared} {vals : List Value} {ds : List WData} {R : PySem.W.WRecords} {cl : Str → Option Addr} {d0 : WData}
    (KX : K.In s₁.heap) (hns : s₁.heap.Ns mainGlobals mg) (hb : s₁.heap.Ns builtinsNs mb) (hbb : ∀ x : Str, x ≠ "__name__" → mb x = bootBuiltins x) (hlim : s₁.heap.NoLimit) (hg : s₁.gens = #[])
    (hwl : WellAll w.params s₁.heap vals ds) (hpl : plWs ds = true) (hwt : ∀ d ∈ ds, d.weight ≤ 1048576) (hr : Room k callerA)
    (F : ∀ base : Heap, K.In base → base.Ns mainGlobals mg → FnOk P w K mg base CX k fa fd ps sp) (hbind : ∀ (s : Shared) (us : List Value), us.length = ps.length → BindsTo s fd ⟨us, []⟩ (ps.zip us)) (hlen : ds.length = ps.length)
    (hsp : ∀ (H : Hp) (xs : List V), OnlyF H → DwAll K H xs ds → sp xs H (fun v H' => Dw K H' v d0) fun _ _ _ => False)
    (hCX : ∀ H e s', CX [] H s₁ (fun _ _ _ => False) e s' → False) :
    codeAny (model P w) callerA (.call (.ref fa) ⟨vals, []⟩) (fun r s' => ∃ u as, r = .ok (.ret u) ∧ ReadsW R cl s'.heap u d0 as ∧ OldK s₁.heap s'.heap ∧ s'.os = s₁.os ∧ AllBare s'.gens) s₁ := by
  obtain ⟨A, ho, ar⟩ := area_all ds vals hwl hpl hwt
  have hO : OnlyF (argH K s₁.heap A) := argH_only ar
  have hok : HOk P w (argH K s₁.heap A) s₁.heap := argH_ok ar
  have hS := dw_all KX ar ds vals hwl hpl ho
  have hV := vals_toV ho
  have hK : ∀ b u, argH K s₁.heap A b = some u → K.lookup b = none := fun b u q => (argH_is ar q).1
  have noA : ∀ {b : Addr} {o : Obj} {es : Array DictEntry} {ep : Nat}, s₁.heap.get? b = some o → o.data = .dict es ep → argH K s₁.heap A b = none := fun {b o es ep} e d => by
    cases q : argH K s₁.heap A b with
    | none => rfl
    | some u =>
      obtain ⟨_, vs, _, _, ⟨e2, _⟩ | ⟨e2, _⟩⟩ := argH_is ar q
      · rw [e2] at e
        cases e
        have d' : Data.seq vs.toArray _ = Data.dict es ep := d
        cases d'
      · rw [e2] at e
        cases e
        have d' : Data.seq vs.toArray _ = Data.dict es ep := d
        cases d'
  generalize argH K s₁.heap A = H at hO hok hS hK noA
  have base_of : ∀ {b : Addr} {o : Obj}, s₁.heap.get? b = some o → H b = none → (hidT s₁.heap H).get? b = some o := fun e n => hidT_get e n
  have nsK : ∀ {b : Addr} {m : Str → Option Value}, s₁.heap.Ns b m → (hidT s₁.heap H).Ns b m := fun {b m} ⟨o, es, ep, e, d, r⟩ => ⟨o, es, ep, base_of e (noA e d), d, r⟩
  have nK : ∀ b o, K.lookup b = some o → H b = none := fun b o e => by
    cases q : H b with
    | none => rfl
    | some u =>
      rw [hK b u q] at e
      cases e
  have hKb : K.In (hidT s₁.heap H) := fun b o e => base_of (KX b o e) (nK b o e)
  have hM : Mod K mg (hidT s₁.heap H) := ⟨hKb, nsK hns, ⟨mb, nsK hb, hbb⟩, let ⟨mc, h1, h2⟩ := hlim; ⟨mc, nsK h1, h2⟩⟩
  have e0 : Env0 P w K mg (hidT s₁.heap H) callerA [] s₁ H := ⟨rfl, hM, fun b o e => of_hidT e, Nat.le_of_eq (hidT_size _ _), trivial, fun b hb => absurd (show b ∈ ([] : List Addr) from hb) (by simp), hok, .of_eq hg⟩
  have hl : vals.length = ps.length := by rw [wellAll_len hwl]; exact hlen
  refine codeAny_mono ((F _ hKb (nsK hns)).run callerA [] s₁ H ⟨vals, []⟩ vals (vals.map toV) _ _ hr e0 (hbind s₁ vals hl) hV (hsp H _ hO hS)) fun r s' x => ?_
  cases r with
  | error e => exact (hCX H e s' x).elim
  | ok fl =>
    cases fl with
    | next => exact False.elim x
    | brk => exact False.elim x
    | cont => exact False.elim x
    | ret u =>
      obtain ⟨v, H', os, bare, un, hok', r', q⟩ := x
      have kept : ∀ b o, s₁.heap.get? b = some o → s'.heap.get? b = some o := fun b o e => by
        cases q2 : H b with
        | none => exact un.keep b o e q2 (by intro z; exact absurd (show b ∈ ([] : List Addr) from z) (by simp)) (by simp)
        | some u2 =>
          rcases hO b with z | ⟨ob, u3, z⟩
          · rw [q2] at z
            cases z
          · have z2 := un.frzs b ob _ z
            obtain ⟨e1, _⟩ := hok b _ z
            obtain ⟨e2, _⟩ := hok' b _ z2
            rw [e] at e1
            cases e1
            exact e2
      have KX' : K.In s'.heap := fun b o e => kept b o (KX b o e)
      obtain ⟨as, hrd⟩ := Dw.reads (R := R) (cl := cl) hok' KX' d0 v u q r'
      exact ⟨u, as, rfl, hrd, OldK.of_keep kept, os, bare⟩
theorem layable_weight {ds : List WData} (h : WData.layableAll ds = true) : ∀ d ∈ ds, d.weight ≤ 1048576 := fun d hd =>
  (PySem.W.layableW_iff.mp (List.all_eq_true.mp h d hd)).2.2
theorem encAll_len : ∀ (cs : List Codec) (a : Codec.denoteAll cs), (Codec.encAll cs a).length = cs.length
  | [], _ => rfl
  | c :: cs, a => by
    show (Codec.encAll cs a.2).length + 1 = cs.length + 1
    rw [encAll_len cs a.2]
theorem walk_spec {r : OpenSpec} {k : Nat} {q : Program} {loose : List Str} {XP : (Str → Option Value) → Heap → Prop} {YP : World → Heap → Prop} {d : DefRec} {K : Params → PySem.W.Frag} {CX : World → CXT} {ps : List Str} {sp : World → Sp}
    (hwell : r.wellSaid = true) (hdf : d.params.defaults = []) (hlen : r.args.length = ps.length) (hr : Room k callerA)
    (hY : ∀ (w : World) (h : Heap), YP w h → (K w.params).In h)
    (F : ∀ (w : World) (mg : Str → Option Value) (fa : Addr) (h : Heap), YP w h → (K w.params).In h → h.Ns mainGlobals mg → mg d.name = some (.ref fa) →
      ∃ fd : FuncData, (∀ (s : Shared) (us : List Value), us.length = ps.length → BindsTo s fd ⟨us, []⟩ (ps.zip us)) ∧
        ∀ base : Heap, (K w.params).In base → base.Ns mainGlobals mg → FnOk r.prog w (K w.params) mg base (CX w) k fa fd ps (sp w))
    (hsp : ∀ (w : World) (H : Hp) (xs : List V) (a : Codec.denoteAll r.args), OnlyF H → Codec.withinAll r.args a = true → Codec.app r.args r.asked a = true → DwAll (K w.params) H xs (Codec.encAll r.args a) →
      sp w xs H (fun v H' => Dw (K w.params) H' v (r.ret.enc (Codec.app r.args r.f a))) fun _ _ _ => False)
    (hCX : ∀ (w : World) (H : Hp) (s : Shared) (e : Value) (s' : Shared), CX w [] H s (fun _ _ _ => False) e s' → False) :
    PySem.W.WalkOS q loose XP YP r d [] (fun f vs => PySem.call f vs) := by
  intro w s_0 s₁ mg mb G Y fa o pm cd doc dV kV ho hd hcd hD hmg hg args vals as hpre hlay hrd hwl hlo
  obtain ⟨a, e1, e2⟩ := PySem.W.os_pre_some hpre
  obtain ⟨e3, hwi⟩ := Codec.encAll_of_decAll r.args args a e1
  subst e3
  have KX := hY w _ Y
  obtain ⟨fd, hb, hF⟩ := F w mg fa _ Y KX G.T.g hmg
  refine PySem.W.enter_call (codeAny_mono (spec_call (R := []) (cl := classAt s_0.heap) (d0 := r.ret.enc (Codec.app r.args r.f a)) KX G.T.g G.T.b G.T.builtins G.T.nolimit hg hwl (pl_encAll _ _) (layable_weight hlay) hr hF hb (by rw [encAll_len]; exact hlen)
    (fun H xs hO hS => hsp w H xs a hO hwi e2 hS) fun H e s' => hCX w H s₁ e s') fun r' s' hq => ?_)
  obtain ⟨u, as', rfl, h1, h2, h3, h4⟩ := hq
  exact ⟨.inl ⟨u, _, as', rfl, fun _ => rfl, h1, (OpenSpec.post_iff hwell hwi _ _).mpr rfl, fun z => Bool.noConfusion (show false = true from z)⟩, h2, h3, h4⟩
theorem walk_specK {r : OpenSpec} {k : Nat} {q : Program} {loose : List Str} {XP : (Str → Option Value) → Heap → Prop} {YP : World → Heap → Prop} {d : DefRec} {K : Params → PySem.W.Frag} {CX : CXT} {ps : List Str} {sp : PySem.W.Frag → Sp}
    (hwell : r.wellSaid = true) (hdf : d.params.defaults = []) (hlen : r.args.length = ps.length) (hr : Room k callerA)
    (hY : ∀ (w : World) (h : Heap), YP w h → (K w.params).In h)
    (F : ∀ (w : World) (mg : Str → Option Value) (fa : Addr) (h : Heap), YP w h → (K w.params).In h → h.Ns mainGlobals mg → mg d.name = some (.ref fa) →
      ∃ fd : FuncData, (∀ (s : Shared) (us : List Value), us.length = ps.length → BindsTo s fd ⟨us, []⟩ (ps.zip us)) ∧
        ∀ base : Heap, (K w.params).In base → base.Ns mainGlobals mg → FnOk r.prog w (K w.params) mg base CX k fa fd ps (sp (K w.params)))
    (hsp : ∀ (K : PySem.W.Frag) (H : Hp) (xs : List V) (a : Codec.denoteAll r.args), OnlyF H → Codec.withinAll r.args a = true → Codec.app r.args r.asked a = true → DwAll K H xs (Codec.encAll r.args a) →
      sp K xs H (fun v H' => Dw K H' v (r.ret.enc (Codec.app r.args r.f a))) fun _ _ _ => False)
    (hCX : ∀ (H : Hp) (s : Shared) (e : Value) (s' : Shared), CX [] H s (fun _ _ _ => False) e s' → False) :
    PySem.W.WalkOS q loose XP YP r d [] (fun f vs => PySem.call f vs) :=
  walk_spec (K := K) (CX := fun _ => CX) (sp := fun w => sp (K w.params)) hwell hdf hlen hr hY F (fun w H xs a h1 h2 h3 h4 => hsp (K w.params) H xs a h1 h2 h3 h4) fun _ H s e s' => hCX H s e s'
end L2
end

namespace L2
open PySem PySem.Spec PyProof.Rows
section
variable {X : Cx} {a b : Expr} {ta tb : TE} {pos : Pos}
def GI (mg : Str → Option Value) (x : Str) (i : Int) : Prop := ∃ t, mg x = some (.int i t)
theorem pe_gint {x : Str} {i : Int} (h : GI X.mg x i) (hg : Gl X x := by rfl) (hd : (x == ("__debug__" : Str)) = false := by decide) : PE X (.Name x pos) (tC (.int i)) := by
  obtain ⟨t, e⟩ := h
  exact pe_glob hg e ⟨t, rfl⟩ hd
theorem pe_gref {x : Str} {r : Addr} (h : X.mg x = some (.ref r)) (hg : Gl X x := by rfl) (hd : (x == ("__debug__" : Str)) = false := by decide) : PE X (.Name x pos) (tC (.ref r)) :=
  pe_glob hg h rfl hd
theorem log2_small {n : Nat} (h : n < 2 ^ 100) : n.log2 < 100 := by
  by_cases h0 : n = 0
  · rw [h0]; decide
  · exact (Nat.log2_lt h0).mpr h
theorem bits_small {i : Int} (h : i.natAbs < 2 ^ 100) : Builtin.Int.intBits i ≤ 100 := by
  unfold Builtin.Int.intBits
  split
  · exact Nat.zero_le _
  · have := log2_small h
    omega
def CMulB (i j : Int) : Prop := i.natAbs < 2 ^ 100 ∧ j.natAbs < 2 ^ 100
theorem CMulB.ok {i j : Int} (h : CMulB i j) : IntMulOk i j := by
  have h1 := bits_small h.1
  have h2 := bits_small h.2
  unfold IntMulOk
  have h3 : Builtin.Int.intTooBig (Builtin.Int.intBits i + Builtin.Int.intBits j) = false := by
    unfold Builtin.Int.intTooBig
    refine decide_eq_false ?_
    have : (bitsLine : Int) = 134217728 := by decide
    omega
  rw [h3]
  simp
theorem op_mulB : OpR X (binaryOp .Mult) (rI CMulB fun i j => .int (i * j)) := opI fun _ _ _ _ _ _ _ hc q => mul_int q hc.ok
def CDivB (i j : Int) : Prop := 0 < j ∧ j < 2 ^ 100
theorem op_fdivB : OpR X (binaryOp .FloorDiv) (rI CDivB fun i j => .int (i / j)) := opI fun i j _ _ _ _ _ hc q => by
  have h1 : (0 : Int) < j := hc.1
  have h2 : j < 2 ^ 100 := hc.2
  refine floordiv_int (by omega) (by rw [Int.fdiv_eq_ediv_of_nonneg i (by omega)]; exact q) (.inl (PyProof.noPylong_of_log2 ?_))
  have := log2_small (n := j.natAbs) (by omega)
  omega
structure KD (P : Program) (w : World) (K : PySem.W.Frag) (a : Addr) (f : Key → Option Value) : Prop where
  map : ∀ h : Heap, K.In h → h.MapOf (mixKind P w) a f
  ns : (a == sysModules) = false
def intKeys (es : List DictEntry) : Bool := es.all fun e => match e.key with
  | .int i _ => decide (e.hash = hashInt i)
  | _ => false
theorem KD.of {P : Program} {w : World} {K : PySem.W.Frag} {a : Addr} {es : Array DictEntry} {ep : Nat} (l : K.lookup a = some { cls := .type "dict", data := .dict es ep }) (h : intKeys es.toList = true) (hn : (a == sysModules) = false) :
    KD P w K a (fun k => findBy keyIs es k) := by
  refine ⟨fun hh hk => ⟨_, es, ep, hk _ _ l, ⟨rfl, rfl, rfl⟩, rfl, fun e he => ?_, fun k => rfl⟩, hn⟩
  have q := List.all_eq_true.mp h e (Array.mem_def.mp he)
  cases hkey : e.key with
  | int i t =>
    rw [hkey] at q
    exact ⟨Sum.inl i, keyIs_int i t, of_decide_eq_true q⟩
  | _ => rw [hkey] at q; cases q
def rKD (f : Key → Option Value) : R2 := fun x y H Q => ∃ (i : Int) (u : Value) (v : V), y = .int i ∧ f (.inl i) = some u ∧ RelV v u ∧ Q v H
theorem kd_getItem {r : Addr} {f : Key → Option Value} (D : KD X.prog X.w X.K r f) {pins : List (Addr × Obj)} {s : Shared} {σ : St} {H : Hp} {y : V} {u : Value} {Q : VK} {E : Value → Shared → Prop} (I : Inv X pins σ H s) (ry : RelV y u)
    (q : rKD f (.ref r) y H Q) : wpAny (model X.prog X.w) X.A (getItem (.ref r) u) (EP X pins σ Q) E s := by
  obtain ⟨i, u', v, rfl, e, rv, hq⟩ := q
  exact wpAny_getItem_of (kV_is (k := .inl i) ry) (D.map _ I.kIn) e ⟨v, H, I.tok _, rv, hq⟩
theorem kd_notIn {r : Addr} {f : Key → Option Value} (D : KD X.prog X.w X.K r f) : OpR X (compareOp .NotIn) (fun x y H Q => ∃ i : Int, x = .int i ∧ y = .ref r ∧ Q (.bl (!(f (.inl i)).isSome)) H) := by
  intro pins s σ H x y v u Q I rx ry q
  obtain ⟨k, rfl, rfl, hq⟩ := q
  cases (show u = Value.ref r from ry)
  exact wpAny_notIn_of (kV_is (k := .inl k) rx) D.ns (D.map _ I.kIn) ⟨.bl _, H, I.tok _, rfl, hq⟩
def tKD (r : Addr) (f : Key → Option Value) (td ty : TE) : TE := fun σ H Q => td σ H fun x H1 => ty σ H1 fun y H2 => x = .ref r ∧ rKD f x y H2 Q
theorem pe_kd {r : Addr} {f : Key → Option Value} (D : KD X.prog X.w X.K r f) (ho : PE X a ta) (hi : PE X b tb) (hs : NoSl b) : PE X (.Subscript a b pos) (tKD r f ta tb) := by
  intro pins s σ H Q I h
  refine subD_of PySem.F.slot_dict_getitem.lookup hs (thn (ho pins s σ H _ I h) fun u s1 ⟨x, H1, I1, rx, q1⟩ => thn (hi pins s1 σ H1 _ I1 q1) fun iv s2 ⟨y, H2, I2, ry, ex, q2⟩ => ?_)
  subst ex
  obtain rfl : u = Value.ref r := rx
  exact ⟨(D.map _ I2.kIn).typeIs, kd_getItem D I2 ry q2⟩
theorem bt_abs : bootBuiltins "abs" = some (.builtin "abs") := by decide +kernel
theorem bt_len : bootBuiltins "len" = some (.builtin "len") := by decide +kernel
theorem bt_sum : bootBuiltins "sum" = some (.builtin "sum") := by decide +kernel
theorem bt_all : bootBuiltins "all" = some (.builtin "all") := by decide +kernel
theorem bt_int : bootBuiltins "int" = some (.type "int") := by decide +kernel
theorem bt_str : bootBuiltins "str" = some (.type "str") := by decide +kernel
theorem bt_list : bootBuiltins "list" = some (.type "list") := by decide +kernel
def rIxH : R2 := fun x y H Q => ∃ p xs i v, x = .ref p ∧ y = .int i ∧ H p = some (.lst xs) ∧ atI xs i = some v ∧ Q v H
theorem ix_lst : IxR X rIxH := by
  intro value slice pins s σ H x y v u Q I rx ry h hs
  obtain ⟨p, xs, i, z, e1, e2, hq, he, q⟩ := h
  exact ix_list value slice pins s σ H x y v u Q I rx ry ⟨p, xs, i, z, e1, e2, SqL.of hq, he, q⟩ hs
def rLenH : List V → Hp → VK → Prop := fun xs H Q => ∃ p ys, xs = [.ref p] ∧ H p = some (.lst ys) ∧ Q (.int ys.length) H
theorem call_len_lst : CallR X (.builtin "len") rLenH := by
  intro pins s σ H xs us Q I r h
  obtain ⟨p, ys, e, hq, q⟩ := h
  exact call_len_seq pins s σ H xs us Q I r ⟨p, ys, e, .inl (SqL.of hq), q⟩
def rSlH : V → Option Int → Option Int → Hp → VK → Prop := fun x lo hi H Q => ∃ a xs, x = .ref a ∧ H a = some (.lst xs) ∧ ∀ p, H p = none → Q (.ref p) (upd H p (.lst (cutV xs lo hi)))
theorem sl_lst : SlR X rSlH := by
  intro pins s σ H x v vl vu lo hi sl Q I rx hs pl pu h
  obtain ⟨a, xs, e, hq, q⟩ := h
  exact sl_list pins s σ H x v vl vu lo hi sl Q I rx hs pl pu ⟨a, xs, e, SqL.of hq, q⟩
def rListOfH : List V → Hp → VK → Prop := fun xs H Q => ∃ p ys, xs = [.ref p] ∧ H p = some (.lst ys) ∧ ∀ l, H l = none → Q (.ref l) (upd H l (.lst ys))
theorem call_list_lst : CallR X (.type "list") rListOfH := by
  intro pins s σ H xs us Q I r h
  obtain ⟨p, ys, e, hq, q⟩ := h
  exact call_list_of pins s σ H xs us Q I r ⟨p, ys, e, .inl (SqL.of hq), q⟩
def rSumH : List V → Hp → VK → Prop := fun vs H Q => ∃ (a : Addr) (ns : List Int), vs = [V.ref a] ∧ H a = some (.lst (ns.map V.int)) ∧ Q (.int ns.sum) H
theorem cr_sumH (hc : X.calm = true) : CallR X (.builtin "sum") rSumH := by
  intro pins s σ H xs us Q I r h
  obtain ⟨p, ys, e, hq, q⟩ := h
  exact cr_sum hc pins s σ H xs us Q I r ⟨p, ys, e, SqL.of hq, q⟩
def rAllH : List V → Hp → VK → Prop := fun vs H Q => ∃ (a : Addr) (bs : List Bool), vs = [V.ref a] ∧ H a = some (.lst (bs.map V.bl)) ∧ Q (.bl (bs.all id)) H
theorem cr_allH (hc : X.calm = true) : CallR X (.builtin "all") rAllH := by
  intro pins s σ H xs us Q I r h
  obtain ⟨p, ys, e, hq, q⟩ := h
  exact cr_all hc pins s σ H xs us Q I r ⟨p, ys, e, SqL.of hq, q⟩
theorem atI_0 (a : V) (r : List V) : atI (a :: r) (0 : Int) = some a := atI_nat (j := 0) rfl
theorem atI_1 (a b : V) (r : List V) : atI (a :: b :: r) (1 : Int) = some b := atI_nat (j := 1) rfl
theorem atI_2 (a b c : V) (r : List V) : atI (a :: b :: c :: r) (2 : Int) = some c := atI_nat (j := 2) rfl
theorem atI_3 (a b c d : V) (r : List V) : atI (a :: b :: c :: d :: r) (3 : Int) = some d := atI_nat (j := 3) rfl
theorem atI_4 (a b c d e : V) (r : List V) : atI (a :: b :: c :: d :: e :: r) (4 : Int) = some e := atI_nat (j := 4) rfl
theorem atI_5 (a b c d e f : V) (r : List V) : atI (a :: b :: c :: d :: e :: f :: r) (5 : Int) = some f := atI_nat (j := 5) rfl
theorem atI_6 (a b c d e f g : V) (r : List V) : atI (a :: b :: c :: d :: e :: f :: g :: r) (6 : Int) = some g := atI_nat (j := 6) rfl
def tBML (r : V → List V → Hp → VK → Prop) (to : TE) (t : TA) : TE := fun σ H Q => to σ H fun x H1 => (∃ p xs, x = .ref p ∧ H1 p = some (.lst xs)) ∧ t σ H1 fun xs H2 => r x xs H2 Q
theorem pe_bmL {o e : Expr} {es : List Expr} {to : TE} {t : TA} {name : Str} {apos cpos : Pos} {id : String} {r : V → List V → Hp → VK → Prop} (slot : Slot "list" name id) (hty : typeOf (.builtin id) = pure (.type "method_descriptor")) (hm : MtR X id r) (ho : PE X o to) (ha : PA X (e :: es) t)
    (hbase : attributeBase o name X.env (eval o X.env) = eval o X.env := by rfl)
    (hfew : ((backTo cpos (starEach (e :: es) X.env)).all (fun x => !x.1) && (backToKw cpos (keywordEach [] X.env)).all (fun x => x.1.isSome)
      && decide ((e :: es).length + ([] : List Keyword).length + (if ([] : List Keyword).isEmpty then 0 else 1) < 30)) = true := by rfl)
    (hline : (apos.endLine == cpos.line) = true := by rfl) (hs : starEach (e :: es) X.env = (false, eval e X.env) :: starEach es X.env := by rfl) (hplain : (backTo cpos (starEach es X.env)).any (·.1) = false := by rfl) :
    PE X (.Call (.Attribute o name apos) (e :: es) [] cpos) (tBML r to t) := by
  intro pins s σ H Q I h
  refine wpAny_Call_method_late hbase hfew hline rfl (thn (ho pins s σ H _ I h) fun v s1 ⟨x, H1, I1, r1, ⟨p, xs, ex, hp⟩, q1⟩ => ?_)
  obtain ⟨h1, h2⟩ := tyV_is (T := "list") I1 r1 (by subst ex; exact .inl ⟨rfl, xs, SqL.of hp⟩)
  refine ⟨"list", id, PySem.F.plainAttrs_list, slot, hty, h1, h2, ?_⟩
  have hA := ha cpos pins s1 σ H1 _ I1 q1
  rw [hs] at hA ⊢
  refine Calls.callWith_builtin (by show (false || (backTo cpos (starEach es X.env)).any (·.1)) = false; rw [hplain] <;> rfl) (Calls.evalArgs_plain ?_)
  exact thn hA fun us s2 ⟨vs, H2, I2, r2, q2⟩ => hm pins s2 σ H2 x vs v us Q I2 r1 r2 q2
end
structure Callee (P : Program) (w : World) (K : PySem.W.Frag) (mg : Str → Option Value) (base : Heap) (k : Nat) (x : Str) (ps : List Str) (sp : Sp) : Prop where
  ex : ∃ (f : Addr) (fd : FuncData), FnOk P w K mg base CX0 k f fd ps sp ∧ mg x = some (.ref f) ∧ PySem.W.keepIn K (.ref f) = true ∧ Binds K fd ps []
section
variable {X : Cx} {k j : Nat} {x : Str} {ps : List Str} {sp : Sp} {e : Expr} {es : List Expr} {t : TA} {p pos : Pos}
theorem pe_callC (G : Callee X.prog X.w X.K X.mg X.base k x ps sp) (hr : Room j X.A) (hkj : k ≤ j) (ha : PA X (e :: es) t) (hg : Gl X x := by rfl) (hdb : (x == ("__debug__" : Str)) = false := by decide)
    (he : starEach (e :: es) X.env = (false, eval e X.env) :: starEach es X.env := by rfl) (hpl : (backTo pos (starEach es X.env)).any (·.1) = false := by rfl) : PE X (.Call (.Name x p) (e :: es) [] pos) (tCall sp [] E0 t) := by
  obtain ⟨f, fd, F, hm, hk, hb⟩ := G.ex
  exact pe_call F (hr.mono hkj) hg hm hk hb .nil pass0 ha hdb he hpl
theorem wpAny_Call_Sub {A : Around} {E : Value → Shared → Prop} {s : Shared} {M : Model} {env : Env} {a b : Expr} {p pos : Pos} {args : List Expr} {Q : Value → Shared → Prop}
    (h : wpAny M A (eval (.Subscript a b p) env) (fun f s₁ => wpAny M A (callWith pos f [] (backTo pos (starEach args env)) (backToKw pos (keywordEach [] env))) Q E s₁) E s) :
    wpAny M A (eval (.Call (.Subscript a b p) args [] pos) env) Q E s := by
  rw [show eval (.Call (.Subscript a b p) args [] pos) env = (do
    callWith pos (← eval (.Subscript a b p) env) [] (backTo pos (starEach args env)) (backToKw pos (keywordEach [] env))) from rfl]
  exact wpAny_bind h
def tCallV (P : Program) (w : World) (K : PySem.W.Frag) (mg : Str → Option Value) (base : Heap) (j : Nat) (tf : TE) (t : TA) : TE := fun σ H Q => tf σ H fun v H1 =>
  ∃ (x : Str) (f : Addr) (ps : List Str) (sp : Sp) (k : Nat), v = .ref f ∧ mg x = some (.ref f) ∧ Callee P w K mg base k x ps sp ∧ k ≤ j ∧ t σ H1 fun vs H2 => sp vs H2 Q E0
theorem pe_callSub {a b : Expr} {tf : TE} {p2 : Pos} (hf : PE X (.Subscript a b p2) tf) (hr : Room j X.A) (ha : PA X (e :: es) t)
    (he : starEach (e :: es) X.env = (false, eval e X.env) :: starEach es X.env := by rfl) (hpl : (backTo pos (starEach es X.env)).any (·.1) = false := by rfl) :
    PE X (.Call (.Subscript a b p2) (e :: es) [] pos) (tCallV X.prog X.w X.K X.mg X.base j tf t) := by
  intro pins s σ H Q I h
  refine wpAny_Call_Sub (thn (hf pins s σ H _ I h) fun u s1 ⟨v, H1, I1, rx, x, f, ps, sp, k, ev, hm, G, hk, q⟩ => ?_)
  subst ev
  cases (show u = Value.ref f from rx)
  obtain ⟨f', fd, F, hm', kp, hb⟩ := G.ex
  rw [hm] at hm'
  cases hm'
  exact PySem.W.callWith_K (h₀ := X.base) I1.ok.mod.kin kp (thn (ha pos pins s1 σ H1 _ I1 q) fun us s2 ⟨vs, H2, I2, r, q2⟩ => ⟨I2.kIn, run_fn F (hr.mono hk) hb .nil pass0 I2 r (by rw [List.append_nil]; exact q2)⟩) he hpl
structure Maker (P : Program) (w : World) (K : PySem.W.Frag) (mg : Str → Option Value) (base : Heap) (k : Nat) (x : Str) (C : Addr) (ps : List Str) (sp : Sp) : Prop where
  ex : ∃ (f : Addr) (fd : FuncData), FnOk P w K mg base CX0 k f fd ps sp ∧ mg x = some (.ref C) ∧ Mk K C f ∧ Binds K fd ps []
theorem pe_makeC {C : Addr} (G : Maker X.prog X.w X.K X.mg X.base k x C ps sp) (hr : Room j X.A) (hkj : k + 1 ≤ j) (ha : PA X (e :: es) t) (hg : Gl X x := by rfl) (hdb : (x == ("__debug__" : Str)) = false := by decide)
    (he : starEach (e :: es) X.env = (false, eval e X.env) :: starEach es X.env := by rfl) (hpl : (backTo pos (starEach es X.env)).any (·.1) = false := by rfl) : PE X (.Call (.Name x p) (e :: es) [] pos) (tMake C sp [] E0 t) := by
  obtain ⟨f, fd, F, hm, M, hb⟩ := G.ex
  exact pe_make M F (hr.mono hkj) hg hm hb .nil pass0 ha hdb he hpl
theorem pe_makeC0 {C : Addr} (G : Maker X.prog X.w X.K X.mg X.base k x C ps sp) (hr : Room j X.A) (hkj : k + 1 ≤ j) (hg : Gl X x := by rfl) (hdb : (x == ("__debug__" : Str)) = false := by decide) : PE X (.Call (.Name x p) [] [] pos) (tMake C sp [] E0 tNil) := by
  obtain ⟨f, fd, F, hm, M, hb⟩ := G.ex
  exact pe_make0 M F (hr.mono hkj) hg hm hb .nil pass0 hdb
end
structure Def (K : PySem.W.Frag) (mg : Str → Option Value) (x : Str) (st : Stmt) (ps : List Str) : Prop where
  ex : ∃ (f : Addr) (fd : FuncData), Fun K x x st f fd ∧ mg x = some (.ref f) ∧ Binds K fd ps []
structure ClsT (K : PySem.W.Frag) (mg : Str → Option Value) (x qual : Str) (C : Addr) (st : Stmt) (ps fields : List Str) : Prop where
  cl : Cls K C
  na : ∀ f ∈ fields, NoAttr K C f
  mg : mg x = some (.ref C)
  ex : ∃ (f : Addr) (fd : FuncData), Mk K C f ∧ Fun K "__init__" qual st f fd ∧ Binds K fd ps []
section
variable {P : Program} {w : World} {K : PySem.W.Frag} {mg : Str → Option Value} {base : Heap}
theorem Def.ok {x : Str} {st : Stmt} {N ps : List Str} {k : Nat} {sp : Sp} (D : Def K mg x st ps) (S : FnScope N ps (defScope st)) (len : ∀ vs H Q E, sp vs H Q E → vs.length = ps.length)
    (hbody : ∀ (f : Addr) (cdv : Value) (A : Around) (outer : List Env) (s : Shared) (H : Hp) (vs : List V) (Q : VK) (E : XK), Room k (A.deeper (envOfC x (defScope st) s.heap.objs.size f cdv)) → sp vs H Q E →
      ∃ t, PSs (cxOf CX0 P w K mg base N x (defScope st) f cdv A outer s H E).nox (defBody st) t ∧ t { nx := fun _ H' => Q .non H', rt := Q } (start N vs) H) : Callee P w K mg base (k + 1) x ps sp := by
  obtain ⟨f, fd, F, hm, hb⟩ := D.ex
  exact ⟨f, fd, F.ok S len (hbody f), hm, F.kp, hb⟩
theorem ClsT.ok {x qual : Str} {C : Addr} {st : Stmt} {N ps fields : List Str} {k : Nat} {sp : Sp} (D : ClsT K mg x qual C st ps fields) (S : FnScope N ps (defScope st)) (len : ∀ vs H Q E, sp vs H Q E → vs.length = ps.length)
    (hbody : ∀ (f : Addr) (cdv : Value) (A : Around) (outer : List Env) (s : Shared) (H : Hp) (vs : List V) (Q : VK) (E : XK), Room k (A.deeper (envOfC qual (defScope st) s.heap.objs.size f cdv)) → sp vs H Q E →
      ∃ t, PSs (cxOf CX0 P w K mg base N qual (defScope st) f cdv A outer s H E).nox (defBody st) t ∧ t { nx := fun _ H' => Q .non H', rt := Q } (start N vs) H) : Maker P w K mg base (k + 1) x C ps sp := by
  obtain ⟨f, fd, M, F, hb⟩ := D.ex
  exact ⟨f, fd, F.ok S len (hbody f), D.mg, M, hb⟩
end
end L2

namespace Dd
open PySem PySem.Spec PyProof.Rows L2
def kS {α : Type} (o : Option α) (P : α → Prop) : Prop := ∃ v, o = some v ∧ P v
def kO {α : Type} (o : Option α) (P : α → Prop) : Prop := kS o P
def lS (o : Option HO) (P : List V → Prop) : Prop := ∃ xs, o = some (.lst xs) ∧ P xs
def fS (K : PySem.W.Frag) (f : Str) (o : Option HO) (P : V → Prop) : Prop := ∃ C dx fs v, o = some (.ins C dx fs) ∧ Cls K C ∧ NoAttr K C f ∧ fs.lookup f = some v ∧ P v
def gS (K : PySem.W.Frag) (f : Str) (o : Option HO) (P : Addr → Addr → List (Str × V) → Prop) : Prop := ∃ C dx fs, o = some (.ins C dx fs) ∧ Cls K C ∧ NoAttr K C f ∧ fs.length < 1000 ∧ P C dx fs
section
variable {α : Type} {K : PySem.W.Frag} {f : Str} {C dx : Addr} {fs : List (Str × V)} {l : Option V} {P : V → Prop} {xs ys : List V} {v : V} {x : Option V} {r : List (Option V)} {H : Hp} {Q : VK} {E : XK} {i j : Int} {n : Nat} {p : Addr} {o : Option HO}
theorem kS_s {v : α} {P : α → Prop} : kS (some v) P = P v := propext ⟨fun ⟨_, e, h⟩ => by cases e; exact h, fun h => ⟨_, rfl, h⟩⟩
theorem kS_c {o o' : Option α} {P : α → Prop} (h : o = o') : kO o P = kS o' P := by subst h; rfl
theorem lS_s {P : List V → Prop} : lS (some (.lst xs)) P = P xs := propext ⟨fun ⟨_, e, h⟩ => by cases e; exact h, fun h => ⟨_, rfl, h⟩⟩
theorem fS_i (c : Cls K C) (n : NoAttr K C f) (h : fs.lookup f = l) : fS K f (some (.ins C dx fs)) P = kS l P := by
  subst h
  exact propext ⟨fun ⟨_, _, _, v, e, _, _, l, h⟩ => by cases e; exact ⟨v, l, h⟩, fun ⟨v, e, h⟩ => ⟨_, _, _, v, rfl, c, n, e, h⟩⟩
theorem gS_i {P : Addr → Addr → List (Str × V) → Prop} (c : Cls K C) (n : NoAttr K C f) (l : fs.length < 1000) : gS K f (some (.ins C dx fs)) P = P C dx fs := propext ⟨fun ⟨_, _, _, e, _, _, _, h⟩ => by cases e; exact h, fun h => ⟨_, _, _, rfl, c, n, l, h⟩⟩
theorem fS_c (h : H p = o) : (∃ a C dx fs v, V.ref p = .ref a ∧ H a = some (.ins C dx fs) ∧ Cls K C ∧ NoAttr K C f ∧ fs.lookup f = some v ∧ P v) = fS K f o P := by
  subst h
  exact propext ⟨fun ⟨_, C, dx, fs, v, e, h⟩ => by cases e; exact ⟨C, dx, fs, v, h⟩, fun ⟨C, dx, fs, v, h⟩ => ⟨_, C, dx, fs, v, rfl, h⟩⟩
theorem gS_c {P : Addr → Addr → Addr → List (Str × V) → Prop} (h : H p = o) : (∃ a C dx fs, V.ref p = .ref a ∧ H a = some (.ins C dx fs) ∧ Cls K C ∧ NoAttr K C f ∧ fs.length < 1000 ∧ P a C dx fs) = gS K f o (P p) := by
  subst h
  exact propext ⟨fun ⟨_, C, dx, fs, e, h⟩ => by cases e; exact ⟨C, dx, fs, h⟩, fun ⟨C, dx, fs, h⟩ => ⟨_, C, dx, fs, rfl, h⟩⟩
theorem tVar_0 : tVar 0 (some v :: r) H Q = Q v H := propext ⟨fun ⟨_, e, h⟩ => by cases e; exact h, fun h => ⟨_, rfl, h⟩⟩
theorem tVar_s : tVar (n + 1) (x :: r) H Q = tVar n r H Q := rfl
theorem gName_0 {R : L2.St → Hp → Prop} : gName 0 v (x :: r) H R = R (some v :: r) H := rfl
theorem gName_s {R : L2.St → Hp → Prop} : gName (n + 1) v (x :: r) H R = gName n v r H (fun s => R (x :: s)) := rfl
theorem rI_i {C : Int → Int → Prop} {g : Int → Int → V} : rI C g (.int i) (.int j) H Q = (C i j ∧ Q (g i j) H) := propext ⟨fun ⟨_, _, e, e', h⟩ => by cases e; cases e'; exact h, fun h => ⟨_, _, rfl, rfl, h⟩⟩
theorem rI0_i {g : Int → Int → V} : rI0 g (.int i) (.int j) H Q = Q (g i j) H := propext ⟨fun ⟨_, _, e, e', h⟩ => by cases e; cases e'; exact h, fun h => ⟨_, _, rfl, rfl, h⟩⟩
theorem ex_b {b : Bool} {P : Bool → Prop} : (∃ k, V.bl b = .bl k ∧ P k) = P b := propext ⟨fun ⟨_, e, h⟩ => by cases e; exact h, fun h => ⟨_, rfl, h⟩⟩
theorem ex_i {P : Int → Prop} : (∃ k, V.int i = .int k ∧ P k) = P i := propext ⟨fun ⟨_, e, h⟩ => by cases e; exact h, fun h => ⟨_, rfl, h⟩⟩
theorem rIxH_i (h : H p = o) : rIxH (.ref p) (.int i) H Q = lS o fun xs => kO (atI xs i) fun v => Q v H := by
  subst h
  exact propext ⟨fun ⟨_, xs, _, v, e, e', h, h'⟩ => by cases e; cases e'; exact ⟨xs, h, v, h'⟩, fun ⟨xs, h, v, h'⟩ => ⟨_, xs, _, v, rfl, rfl, h, h'⟩⟩
theorem rLenH_i (h : H p = o) : rLenH [.ref p] H Q = lS o fun xs => Q (.int xs.length) H := by
  subst h
  exact propext ⟨fun ⟨_, xs, e, h⟩ => by cases e; exact ⟨xs, h⟩, fun ⟨xs, h⟩ => ⟨_, xs, rfl, h⟩⟩
theorem tCall_n {sp : Sp} {t : TA} {σ : L2.St} : tCall sp [] E t σ H Q = t σ H fun vs H1 => sp vs H1 Q E := by
  show t σ H _ = _
  congr; funext vs H1; rw [List.append_nil]
theorem rEq_i : rEq (.int i) (.int j) H Q = Q (.bl (decide (i = j))) H := propext ⟨fun h => by have := h.2; simpa using this, fun h => ⟨rfl, by simpa using h⟩⟩
theorem rNe_i : rNe (.int i) (.int j) H Q = Q (.bl (!decide (i = j))) H := propext ⟨fun h => by have := h.2; simpa using this, fun h => ⟨rfl, by simpa using h⟩⟩
end
end Dd

namespace Dd
open PySem PySem.Spec PyProof.Rows L2
def top (i : Nat) : Stmt := PySem.Challenge.pw_drumdesk_s01_answers.main.body.getD i (.Pass ⟨0, 0, 0, 0⟩)
abbrev s_is_word : Stmt := top 5
abbrev s_is_long : Stmt := top 6
abbrev s_with_sign_of : Stmt := top 7
abbrev s_upper_word : Stmt := top 8
abbrev s_lower_word : Stmt := top 9
abbrev s_lower_twenty : Stmt := top 10
abbrev s_quotient_toward_zero : Stmt := top 11
abbrev s_quotient_to_nearest : Stmt := top 12
abbrev s_digit_sum : Stmt := top 13
abbrev s_power_of_ten : Stmt := top 14
abbrev s_Machine_init : Stmt := inClass (top 20) 0
abbrev s_drum_of : Stmt := top 21
abbrev s_is_address : Stmt := top 22
abbrev s_is_tick : Stmt := top 23
abbrev s_are_parts : Stmt := top 24
abbrev s_are_pairs : Stmt := top 25
abbrev s_first_tick_at : Stmt := top 26
abbrev s_band_start : Stmt := top 27
abbrev s_around_band : Stmt := top 28
abbrev s_words_around : Stmt := top 29
abbrev s_code_of : Stmt := top 38
abbrev s_data_address : Stmt := top 39
abbrev s_next_address : Stmt := top 40
abbrev s_keep_in_a : Stmt := top 41
abbrev s_do_nothing : Stmt := top 42
abbrev s_load_a : Stmt := top 43
abbrev s_load_negated : Stmt := top 44
abbrev s_add : Stmt := top 45
abbrev s_subtract : Stmt := top 46
abbrev s_add_without_sign : Stmt := top 47
abbrev s_subtract_without_sign : Stmt := top 48
abbrev s_add_upper : Stmt := top 49
abbrev s_subtract_upper : Stmt := top 50
abbrev s_multiply : Stmt := top 51
abbrev s_divide : Stmt := top 52
abbrev s_store_lower : Stmt := top 53
abbrev s_store_upper : Stmt := top 54
abbrev s_store_d : Stmt := top 55
abbrev s_shift_left : Stmt := top 56
abbrev s_shift_right : Stmt := top 57
abbrev s_shift_right_rounded : Stmt := top 58
abbrev s_scale : Stmt := top 59
abbrev s_branch_below_zero : Stmt := top 60
abbrev s_branch_not_zero : Stmt := top 61
abbrev s_branch_over : Stmt := top 62
abbrev s_look_up : Stmt := top 63
abbrev s_read_card : Stmt := top 64
abbrev s_punch_card : Stmt := top 65
abbrev s_begins_with_d : Stmt := top 67
abbrev s_waits_for_data : Stmt := top 68
abbrev s_state_behind : Stmt := top 69
abbrev s_is_punching : Stmt := top 70
abbrev s_do_order : Stmt := top 71
abbrev s_carry_out : Stmt := top 72
abbrev s_Run_init : Stmt := inClass (top 81) 0
abbrev s_cards_read : Stmt := top 82
abbrev s_punched : Stmt := top 83
abbrev s_end_before_order : Stmt := top 84
abbrev s_go_on : Stmt := top 85
abbrev s_go_through : Stmt := top 86
abbrev s_Desk_init : Stmt := inClass (top 101) 0
abbrev s_has_room : Stmt := top 102
abbrev s_load : Stmt := top 103
abbrev s_put : Stmt := top 104
abbrev s_stop : Stmt := top 105
abbrev s_are_words : Stmt := top 106
abbrev s_are_cards : Stmt := top 107
abbrev s_cards_of : Stmt := top 108
abbrev s_hand : Stmt := top 109
abbrev s_run : Stmt := top 110
abbrev s_note_run : Stmt := top 111
abbrev s_told : Stmt := top 112
abbrev s_peek : Stmt := top 113
abbrev s_tray : Stmt := top 114
abbrev s_journal : Stmt := top 115
abbrev s_pairs_end : Stmt := top 125
abbrev s_has_head : Stmt := top 126
abbrev s_fault_of_machine : Stmt := top 127
abbrev s_has_three : Stmt := top 128
abbrev s_begins_wrong : Stmt := top 129
abbrev s_entry_end : Stmt := top 130
abbrev s_play_run : Stmt := top 131
abbrev s_play_entry : Stmt := top 132
abbrev s_fault : Stmt := top 133
abbrev s_play : Stmt := top 134
abbrev s_take_over : Stmt := top 135
abbrev s_answer : Stmt := top 149
abbrev s_answer_without_row : Stmt := top 150
abbrev s_answers : Stmt := top 151
theorem sc_is_word : FnScope ["number"] ["number"] (defScope s_is_word) := ⟨rfl, rfl, rfl, by decide +kernel, rfl, by decide +kernel, by decide +kernel⟩
theorem sc_is_long : FnScope ["number"] ["number"] (defScope s_is_long) := ⟨rfl, rfl, rfl, by decide +kernel, rfl, by decide +kernel, by decide +kernel⟩
theorem sc_with_sign_of : FnScope ["number", "size"] ["number", "size"] (defScope s_with_sign_of) := ⟨rfl, rfl, rfl, by decide +kernel, rfl, by decide +kernel, by decide +kernel⟩
theorem sc_upper_word : FnScope ["number"] ["number"] (defScope s_upper_word) := ⟨rfl, rfl, rfl, by decide +kernel, rfl, by decide +kernel, by decide +kernel⟩
theorem sc_lower_word : FnScope ["number"] ["number"] (defScope s_lower_word) := ⟨rfl, rfl, rfl, by decide +kernel, rfl, by decide +kernel, by decide +kernel⟩
theorem sc_lower_twenty : FnScope ["number"] ["number"] (defScope s_lower_twenty) := ⟨rfl, rfl, rfl, by decide +kernel, rfl, by decide +kernel, by decide +kernel⟩
theorem sc_quotient_toward_zero : FnScope ["number", "divisor", "size"] ["number", "divisor"] (defScope s_quotient_toward_zero) := ⟨rfl, rfl, rfl, by decide +kernel, rfl, by decide +kernel, by decide +kernel⟩
theorem sc_quotient_to_nearest : FnScope ["number", "divisor"] ["number", "divisor"] (defScope s_quotient_to_nearest) := ⟨rfl, rfl, rfl, by decide +kernel, rfl, by decide +kernel, by decide +kernel⟩
theorem sc_digit_sum : FnScope ["number", "digit"] ["number"] (defScope s_digit_sum) := ⟨rfl, rfl, rfl, by decide +kernel, rfl, by decide +kernel, by decide +kernel⟩
theorem sc_power_of_ten : FnScope ["exponent", "power", "step"] ["exponent"] (defScope s_power_of_ten) := ⟨rfl, rfl, rfl, by decide +kernel, rfl, by decide +kernel, by decide +kernel⟩
theorem sc_Machine_init : FnScope ["self", "parts", "pairs"] ["self", "parts", "pairs"] (defScope s_Machine_init) := ⟨rfl, rfl, rfl, by decide +kernel, rfl, by decide +kernel, by decide +kernel⟩
theorem sc_drum_of : FnScope ["pairs", "drum", "place"] ["pairs"] (defScope s_drum_of) := ⟨rfl, rfl, rfl, by decide +kernel, rfl, by decide +kernel, by decide +kernel⟩
theorem sc_is_address : FnScope ["number"] ["number"] (defScope s_is_address) := ⟨rfl, rfl, rfl, by decide +kernel, rfl, by decide +kernel, by decide +kernel⟩
theorem sc_is_tick : FnScope ["number"] ["number"] (defScope s_is_tick) := ⟨rfl, rfl, rfl, by decide +kernel, rfl, by decide +kernel, by decide +kernel⟩
theorem sc_are_parts : FnScope ["parts"] ["parts"] (defScope s_are_parts) := ⟨rfl, rfl, rfl, by decide +kernel, rfl, by decide +kernel, by decide +kernel⟩
theorem sc_are_pairs : FnScope ["pairs", "last", "place", "address", "word"] ["pairs"] (defScope s_are_pairs) := ⟨rfl, rfl, rfl, by decide +kernel, rfl, by decide +kernel, by decide +kernel⟩
theorem sc_first_tick_at : FnScope ["tick", "address"] ["tick", "address"] (defScope s_first_tick_at) := ⟨rfl, rfl, rfl, by decide +kernel, rfl, by decide +kernel, by decide +kernel⟩
theorem sc_band_start : FnScope ["address"] ["address"] (defScope s_band_start) := ⟨rfl, rfl, rfl, by decide +kernel, rfl, by decide +kernel, by decide +kernel⟩
theorem sc_around_band : FnScope ["address", "count", "first", "step"] ["address", "count"] (defScope s_around_band) := ⟨rfl, rfl, rfl, by decide +kernel, rfl, by decide +kernel, by decide +kernel⟩
theorem sc_words_around : FnScope ["drum", "address", "first"] ["drum", "address"] (defScope s_words_around) := ⟨rfl, rfl, rfl, by decide +kernel, rfl, by decide +kernel, by decide +kernel⟩
theorem sc_code_of : FnScope ["word"] ["word"] (defScope s_code_of) := ⟨rfl, rfl, rfl, by decide +kernel, rfl, by decide +kernel, by decide +kernel⟩
theorem sc_data_address : FnScope ["word"] ["word"] (defScope s_data_address) := ⟨rfl, rfl, rfl, by decide +kernel, rfl, by decide +kernel, by decide +kernel⟩
theorem sc_next_address : FnScope ["word"] ["word"] (defScope s_next_address) := ⟨rfl, rfl, rfl, by decide +kernel, rfl, by decide +kernel, by decide +kernel⟩
theorem sc_keep_in_a : FnScope ["machine", "number"] ["machine", "number"] (defScope s_keep_in_a) := ⟨rfl, rfl, rfl, by decide +kernel, rfl, by decide +kernel, by decide +kernel⟩
theorem sc_do_nothing : FnScope ["machine", "at"] ["machine", "at"] (defScope s_do_nothing) := ⟨rfl, rfl, rfl, by decide +kernel, rfl, by decide +kernel, by decide +kernel⟩
theorem sc_load_a : FnScope ["machine", "at"] ["machine", "at"] (defScope s_load_a) := ⟨rfl, rfl, rfl, by decide +kernel, rfl, by decide +kernel, by decide +kernel⟩
theorem sc_load_negated : FnScope ["machine", "at"] ["machine", "at"] (defScope s_load_negated) := ⟨rfl, rfl, rfl, by decide +kernel, rfl, by decide +kernel, by decide +kernel⟩
theorem sc_add : FnScope ["machine", "at"] ["machine", "at"] (defScope s_add) := ⟨rfl, rfl, rfl, by decide +kernel, rfl, by decide +kernel, by decide +kernel⟩
theorem sc_subtract : FnScope ["machine", "at"] ["machine", "at"] (defScope s_subtract) := ⟨rfl, rfl, rfl, by decide +kernel, rfl, by decide +kernel, by decide +kernel⟩
theorem sc_add_without_sign : FnScope ["machine", "at"] ["machine", "at"] (defScope s_add_without_sign) := ⟨rfl, rfl, rfl, by decide +kernel, rfl, by decide +kernel, by decide +kernel⟩
theorem sc_subtract_without_sign : FnScope ["machine", "at"] ["machine", "at"] (defScope s_subtract_without_sign) := ⟨rfl, rfl, rfl, by decide +kernel, rfl, by decide +kernel, by decide +kernel⟩
theorem sc_add_upper : FnScope ["machine", "at"] ["machine", "at"] (defScope s_add_upper) := ⟨rfl, rfl, rfl, by decide +kernel, rfl, by decide +kernel, by decide +kernel⟩
theorem sc_subtract_upper : FnScope ["machine", "at"] ["machine", "at"] (defScope s_subtract_upper) := ⟨rfl, rfl, rfl, by decide +kernel, rfl, by decide +kernel, by decide +kernel⟩
theorem sc_multiply : FnScope ["machine", "at"] ["machine", "at"] (defScope s_multiply) := ⟨rfl, rfl, rfl, by decide +kernel, rfl, by decide +kernel, by decide +kernel⟩
theorem sc_divide : FnScope ["machine", "at", "quotient"] ["machine", "at"] (defScope s_divide) := ⟨rfl, rfl, rfl, by decide +kernel, rfl, by decide +kernel, by decide +kernel⟩
theorem sc_store_lower : FnScope ["machine", "at"] ["machine", "at"] (defScope s_store_lower) := ⟨rfl, rfl, rfl, by decide +kernel, rfl, by decide +kernel, by decide +kernel⟩
theorem sc_store_upper : FnScope ["machine", "at"] ["machine", "at"] (defScope s_store_upper) := ⟨rfl, rfl, rfl, by decide +kernel, rfl, by decide +kernel, by decide +kernel⟩
theorem sc_store_d : FnScope ["machine", "at"] ["machine", "at"] (defScope s_store_d) := ⟨rfl, rfl, rfl, by decide +kernel, rfl, by decide +kernel, by decide +kernel⟩
theorem sc_shift_left : FnScope ["machine", "at"] ["machine", "at"] (defScope s_shift_left) := ⟨rfl, rfl, rfl, by decide +kernel, rfl, by decide +kernel, by decide +kernel⟩
theorem sc_shift_right : FnScope ["machine", "at"] ["machine", "at"] (defScope s_shift_right) := ⟨rfl, rfl, rfl, by decide +kernel, rfl, by decide +kernel, by decide +kernel⟩
theorem sc_shift_right_rounded : FnScope ["machine", "at"] ["machine", "at"] (defScope s_shift_right_rounded) := ⟨rfl, rfl, rfl, by decide +kernel, rfl, by decide +kernel, by decide +kernel⟩
theorem sc_scale : FnScope ["machine", "at", "count"] ["machine", "at"] (defScope s_scale) := ⟨rfl, rfl, rfl, by decide +kernel, rfl, by decide +kernel, by decide +kernel⟩
theorem sc_branch_below_zero : FnScope ["machine", "at"] ["machine", "at"] (defScope s_branch_below_zero) := ⟨rfl, rfl, rfl, by decide +kernel, rfl, by decide +kernel, by decide +kernel⟩
theorem sc_branch_not_zero : FnScope ["machine", "at"] ["machine", "at"] (defScope s_branch_not_zero) := ⟨rfl, rfl, rfl, by decide +kernel, rfl, by decide +kernel, by decide +kernel⟩
theorem sc_branch_over : FnScope ["machine", "at"] ["machine", "at"] (defScope s_branch_over) := ⟨rfl, rfl, rfl, by decide +kernel, rfl, by decide +kernel, by decide +kernel⟩
theorem sc_look_up : FnScope ["machine", "at", "before", "word", "passed"] ["machine", "at"] (defScope s_look_up) := ⟨rfl, rfl, rfl, by decide +kernel, rfl, by decide +kernel, by decide +kernel⟩
theorem sc_read_card : FnScope ["machine", "at", "card", "address", "word"] ["machine", "at"] (defScope s_read_card) := ⟨rfl, rfl, rfl, by decide +kernel, rfl, by decide +kernel, by decide +kernel⟩
theorem sc_punch_card : FnScope ["machine", "at"] ["machine", "at"] (defScope s_punch_card) := ⟨rfl, rfl, rfl, by decide +kernel, rfl, by decide +kernel, by decide +kernel⟩
theorem sc_begins_with_d : FnScope ["code"] ["code"] (defScope s_begins_with_d) := ⟨rfl, rfl, rfl, by decide +kernel, rfl, by decide +kernel, by decide +kernel⟩
theorem sc_waits_for_data : FnScope ["code"] ["code"] (defScope s_waits_for_data) := ⟨rfl, rfl, rfl, by decide +kernel, rfl, by decide +kernel, by decide +kernel⟩
theorem sc_state_behind : FnScope ["word", "has_card", "code"] ["word", "has_card"] (defScope s_state_behind) := ⟨rfl, rfl, rfl, by decide +kernel, rfl, by decide +kernel, by decide +kernel⟩
theorem sc_is_punching : FnScope ["word"] ["word"] (defScope s_is_punching) := ⟨rfl, rfl, rfl, by decide +kernel, rfl, by decide +kernel, by decide +kernel⟩
theorem sc_do_order : FnScope ["machine", "word", "tick"] ["machine"] (defScope s_do_order) := ⟨rfl, rfl, rfl, by decide +kernel, rfl, by decide +kernel, by decide +kernel⟩
theorem sc_carry_out : FnScope ["machine", "word", "tick", "code", "at"] ["machine", "word", "tick"] (defScope s_carry_out) := ⟨rfl, rfl, rfl, by decide +kernel, rfl, by decide +kernel, by decide +kernel⟩
theorem sc_Run_init : FnScope ["self", "machine", "stops"] ["self", "machine", "stops"] (defScope s_Run_init) := ⟨rfl, rfl, rfl, by decide +kernel, rfl, by decide +kernel, by decide +kernel⟩
theorem sc_cards_read : FnScope ["run"] ["run"] (defScope s_cards_read) := ⟨rfl, rfl, rfl, by decide +kernel, rfl, by decide +kernel, by decide +kernel⟩
theorem sc_punched : FnScope ["run"] ["run"] (defScope s_punched) := ⟨rfl, rfl, rfl, by decide +kernel, rfl, by decide +kernel, by decide +kernel⟩
theorem sc_end_before_order : FnScope ["run", "orders", "until", "machine"] ["run", "orders", "until"] (defScope s_end_before_order) := ⟨rfl, rfl, rfl, by decide +kernel, rfl, by decide +kernel, by decide +kernel⟩
theorem sc_go_on : FnScope ["run", "orders", "until", "pause", "end"] ["run", "orders", "until", "pause"] (defScope s_go_on) := ⟨rfl, rfl, rfl, by decide +kernel, rfl, by decide +kernel, by decide +kernel⟩
theorem sc_go_through : FnScope ["run", "orders"] ["run", "orders"] (defScope s_go_through) := ⟨rfl, rfl, rfl, by decide +kernel, rfl, by decide +kernel, by decide +kernel⟩
theorem sc_Desk_init : FnScope ["self"] ["self"] (defScope s_Desk_init) := ⟨rfl, rfl, rfl, by decide +kernel, rfl, by decide +kernel, by decide +kernel⟩
theorem sc_has_room : FnScope ["desk", "more"] ["desk", "more"] (defScope s_has_room) := ⟨rfl, rfl, rfl, by decide +kernel, rfl, by decide +kernel, by decide +kernel⟩
theorem sc_load : FnScope ["desk", "parts", "pairs"] ["desk", "parts", "pairs"] (defScope s_load) := ⟨rfl, rfl, rfl, by decide +kernel, rfl, by decide +kernel, by decide +kernel⟩
theorem sc_put : FnScope ["desk", "address", "word"] ["desk", "address", "word"] (defScope s_put) := ⟨rfl, rfl, rfl, by decide +kernel, rfl, by decide +kernel, by decide +kernel⟩
theorem sc_stop : FnScope ["desk", "address", "on"] ["desk", "address", "on"] (defScope s_stop) := ⟨rfl, rfl, rfl, by decide +kernel, rfl, by decide +kernel, by decide +kernel⟩
theorem sc_are_words : FnScope ["numbers", "number"] ["numbers"] (defScope s_are_words) := ⟨rfl, rfl, rfl, by decide +kernel, rfl, by decide +kernel, by decide +kernel⟩
theorem sc_are_cards : FnScope ["words"] ["words"] (defScope s_are_cards) := ⟨rfl, rfl, rfl, by decide +kernel, rfl, by decide +kernel, by decide +kernel⟩
theorem sc_cards_of : FnScope ["words", "first"] ["words"] (defScope s_cards_of) := ⟨rfl, rfl, rfl, by decide +kernel, rfl, by decide +kernel, by decide +kernel⟩
theorem sc_hand : FnScope ["desk", "words", "hopper"] ["desk", "words"] (defScope s_hand) := ⟨rfl, rfl, rfl, by decide +kernel, rfl, by decide +kernel, by decide +kernel⟩
theorem sc_run : FnScope ["desk", "orders", "until", "pause", "this_run", "end"] ["desk", "orders", "until", "pause"] (defScope s_run) := ⟨rfl, rfl, rfl, by decide +kernel, rfl, by decide +kernel, by decide +kernel⟩
theorem sc_note_run : FnScope ["desk", "this_run", "cards", "card"] ["desk", "this_run"] (defScope s_note_run) := ⟨rfl, rfl, rfl, by decide +kernel, rfl, by decide +kernel, by decide +kernel⟩
theorem sc_told : FnScope ["desk", "machine"] ["desk"] (defScope s_told) := ⟨rfl, rfl, rfl, by decide +kernel, rfl, by decide +kernel, by decide +kernel⟩
theorem sc_peek : FnScope ["desk", "address"] ["desk", "address"] (defScope s_peek) := ⟨rfl, rfl, rfl, by decide +kernel, rfl, by decide +kernel, by decide +kernel⟩
theorem sc_tray : FnScope ["desk", "machine", "words", "card"] ["desk"] (defScope s_tray) := ⟨rfl, rfl, rfl, by decide +kernel, rfl, by decide +kernel, by decide +kernel⟩
theorem sc_journal : FnScope ["desk"] ["desk"] (defScope s_journal) := ⟨rfl, rfl, rfl, by decide +kernel, rfl, by decide +kernel, by decide +kernel⟩
theorem sc_pairs_end : FnScope ["numbers"] ["numbers"] (defScope s_pairs_end) := ⟨rfl, rfl, rfl, by decide +kernel, rfl, by decide +kernel, by decide +kernel⟩
theorem sc_has_head : FnScope ["numbers"] ["numbers"] (defScope s_has_head) := ⟨rfl, rfl, rfl, by decide +kernel, rfl, by decide +kernel, by decide +kernel⟩
theorem sc_fault_of_machine : FnScope ["numbers"] ["numbers"] (defScope s_fault_of_machine) := ⟨rfl, rfl, rfl, by decide +kernel, rfl, by decide +kernel, by decide +kernel⟩
theorem sc_has_three : FnScope ["numbers", "at"] ["numbers", "at"] (defScope s_has_three) := ⟨rfl, rfl, rfl, by decide +kernel, rfl, by decide +kernel, by decide +kernel⟩
theorem sc_begins_wrong : FnScope ["numbers", "at"] ["numbers", "at"] (defScope s_begins_wrong) := ⟨rfl, rfl, rfl, by decide +kernel, rfl, by decide +kernel, by decide +kernel⟩
theorem sc_entry_end : FnScope ["numbers", "at"] ["numbers", "at"] (defScope s_entry_end) := ⟨rfl, rfl, rfl, by decide +kernel, rfl, by decide +kernel, by decide +kernel⟩
theorem sc_play_run : FnScope ["desk", "orders", "words", "machine", "this_run"] ["desk", "orders", "words"] (defScope s_play_run) := ⟨rfl, rfl, rfl, by decide +kernel, rfl, by decide +kernel, by decide +kernel⟩
theorem sc_play_entry : FnScope ["desk", "entry"] ["desk", "entry"] (defScope s_play_entry) := ⟨rfl, rfl, rfl, by decide +kernel, rfl, by decide +kernel, by decide +kernel⟩
theorem sc_fault : FnScope ["kind", "place"] ["kind", "place"] (defScope s_fault) := ⟨rfl, rfl, rfl, by decide +kernel, rfl, by decide +kernel, by decide +kernel⟩
theorem sc_play : FnScope ["desk", "numbers", "kind", "at", "played", "done", "end"] ["desk", "numbers"] (defScope s_play) := ⟨rfl, rfl, rfl, by decide +kernel, rfl, by decide +kernel, by decide +kernel⟩
theorem sc_take_over : FnScope ["desk", "played"] ["desk", "played"] (defScope s_take_over) := ⟨rfl, rfl, rfl, by decide +kernel, rfl, by decide +kernel, by decide +kernel⟩
theorem sc_answer : FnScope ["desk", "call", "numbers", "row"] ["desk", "call", "numbers", "row"] (defScope s_answer) := ⟨rfl, rfl, rfl, by decide +kernel, rfl, by decide +kernel, by decide +kernel⟩
theorem sc_answer_without_row : FnScope ["desk", "call", "numbers"] ["desk", "call", "numbers"] (defScope s_answer_without_row) := ⟨rfl, rfl, rfl, by decide +kernel, rfl, by decide +kernel, by decide +kernel⟩
theorem sc_answers : FnScope ["calls", "desk", "answered", "at", "call", "row_at", "numbers", "row", "one"] ["calls"] (defScope s_answers) := ⟨rfl, rfl, rfl, by decide +kernel, rfl, by decide +kernel, by decide +kernel⟩
structure Adr where
  cMachine : Addr
  cRun : Addr
  cDesk : Addr
  aORDERS : Addr
  aWHOLE_NUMBERS : Addr
  aWITH_ROW : Addr
  kORDERS : Key → Option Value
  kWHOLE_NUMBERS : Key → Option Value
structure Txt (P : Program) (w : World) (K : PySem.W.Frag) (mg : Str → Option Value) (A : Adr) : Prop where
  f_is_word : Def K mg "is_word" s_is_word ["number"]
  f_is_long : Def K mg "is_long" s_is_long ["number"]
  f_with_sign_of : Def K mg "with_sign_of" s_with_sign_of ["number", "size"]
  f_upper_word : Def K mg "upper_word" s_upper_word ["number"]
  f_lower_word : Def K mg "lower_word" s_lower_word ["number"]
  f_lower_twenty : Def K mg "lower_twenty" s_lower_twenty ["number"]
  f_quotient_toward_zero : Def K mg "quotient_toward_zero" s_quotient_toward_zero ["number", "divisor"]
  f_quotient_to_nearest : Def K mg "quotient_to_nearest" s_quotient_to_nearest ["number", "divisor"]
  f_digit_sum : Def K mg "digit_sum" s_digit_sum ["number"]
  f_power_of_ten : Def K mg "power_of_ten" s_power_of_ten ["exponent"]
  f_drum_of : Def K mg "drum_of" s_drum_of ["pairs"]
  f_is_address : Def K mg "is_address" s_is_address ["number"]
  f_is_tick : Def K mg "is_tick" s_is_tick ["number"]
  f_are_parts : Def K mg "are_parts" s_are_parts ["parts"]
  f_are_pairs : Def K mg "are_pairs" s_are_pairs ["pairs"]
  f_first_tick_at : Def K mg "first_tick_at" s_first_tick_at ["tick", "address"]
  f_band_start : Def K mg "band_start" s_band_start ["address"]
  f_around_band : Def K mg "around_band" s_around_band ["address", "count"]
  f_words_around : Def K mg "words_around" s_words_around ["drum", "address"]
  f_code_of : Def K mg "code_of" s_code_of ["word"]
  f_data_address : Def K mg "data_address" s_data_address ["word"]
  f_next_address : Def K mg "next_address" s_next_address ["word"]
  f_keep_in_a : Def K mg "keep_in_a" s_keep_in_a ["machine", "number"]
  f_do_nothing : Def K mg "do_nothing" s_do_nothing ["machine", "at"]
  f_load_a : Def K mg "load_a" s_load_a ["machine", "at"]
  f_load_negated : Def K mg "load_negated" s_load_negated ["machine", "at"]
  f_add : Def K mg "add" s_add ["machine", "at"]
  f_subtract : Def K mg "subtract" s_subtract ["machine", "at"]
  f_add_without_sign : Def K mg "add_without_sign" s_add_without_sign ["machine", "at"]
  f_subtract_without_sign : Def K mg "subtract_without_sign" s_subtract_without_sign ["machine", "at"]
  f_add_upper : Def K mg "add_upper" s_add_upper ["machine", "at"]
  f_subtract_upper : Def K mg "subtract_upper" s_subtract_upper ["machine", "at"]
  f_multiply : Def K mg "multiply" s_multiply ["machine", "at"]
  f_divide : Def K mg "divide" s_divide ["machine", "at"]
  f_store_lower : Def K mg "store_lower" s_store_lower ["machine", "at"]
  f_store_upper : Def K mg "store_upper" s_store_upper ["machine", "at"]
  f_store_d : Def K mg "store_d" s_store_d ["machine", "at"]
  f_shift_left : Def K mg "shift_left" s_shift_left ["machine", "at"]
  f_shift_right : Def K mg "shift_right" s_shift_right ["machine", "at"]
  f_shift_right_rounded : Def K mg "shift_right_rounded" s_shift_right_rounded ["machine", "at"]
  f_scale : Def K mg "scale" s_scale ["machine", "at"]
  f_branch_below_zero : Def K mg "branch_below_zero" s_branch_below_zero ["machine", "at"]
  f_branch_not_zero : Def K mg "branch_not_zero" s_branch_not_zero ["machine", "at"]
  f_branch_over : Def K mg "branch_over" s_branch_over ["machine", "at"]
  f_look_up : Def K mg "look_up" s_look_up ["machine", "at"]
  f_read_card : Def K mg "read_card" s_read_card ["machine", "at"]
  f_punch_card : Def K mg "punch_card" s_punch_card ["machine", "at"]
  f_begins_with_d : Def K mg "begins_with_d" s_begins_with_d ["code"]
  f_waits_for_data : Def K mg "waits_for_data" s_waits_for_data ["code"]
  f_state_behind : Def K mg "state_behind" s_state_behind ["word", "has_card"]
  f_is_punching : Def K mg "is_punching" s_is_punching ["word"]
  f_do_order : Def K mg "do_order" s_do_order ["machine"]
  f_carry_out : Def K mg "carry_out" s_carry_out ["machine", "word", "tick"]
  f_cards_read : Def K mg "cards_read" s_cards_read ["run"]
  f_punched : Def K mg "punched" s_punched ["run"]
  f_end_before_order : Def K mg "end_before_order" s_end_before_order ["run", "orders", "until"]
  f_go_on : Def K mg "go_on" s_go_on ["run", "orders", "until", "pause"]
  f_go_through : Def K mg "go_through" s_go_through ["run", "orders"]
  f_has_room : Def K mg "has_room" s_has_room ["desk", "more"]
  f_load : Def K mg "load" s_load ["desk", "parts", "pairs"]
  f_put : Def K mg "put" s_put ["desk", "address", "word"]
  f_stop : Def K mg "stop" s_stop ["desk", "address", "on"]
  f_are_words : Def K mg "are_words" s_are_words ["numbers"]
  f_are_cards : Def K mg "are_cards" s_are_cards ["words"]
  f_cards_of : Def K mg "cards_of" s_cards_of ["words"]
  f_hand : Def K mg "hand" s_hand ["desk", "words"]
  f_run : Def K mg "run" s_run ["desk", "orders", "until", "pause"]
  f_note_run : Def K mg "note_run" s_note_run ["desk", "this_run"]
  f_told : Def K mg "told" s_told ["desk"]
  f_peek : Def K mg "peek" s_peek ["desk", "address"]
  f_tray : Def K mg "tray" s_tray ["desk"]
  f_journal : Def K mg "journal" s_journal ["desk"]
  f_pairs_end : Def K mg "pairs_end" s_pairs_end ["numbers"]
  f_has_head : Def K mg "has_head" s_has_head ["numbers"]
  f_fault_of_machine : Def K mg "fault_of_machine" s_fault_of_machine ["numbers"]
  f_has_three : Def K mg "has_three" s_has_three ["numbers", "at"]
  f_begins_wrong : Def K mg "begins_wrong" s_begins_wrong ["numbers", "at"]
  f_entry_end : Def K mg "entry_end" s_entry_end ["numbers", "at"]
  f_play_run : Def K mg "play_run" s_play_run ["desk", "orders", "words"]
  f_play_entry : Def K mg "play_entry" s_play_entry ["desk", "entry"]
  f_fault : Def K mg "fault" s_fault ["kind", "place"]
  f_play : Def K mg "play" s_play ["desk", "numbers"]
  f_take_over : Def K mg "take_over" s_take_over ["desk", "played"]
  f_answer : Def K mg "answer" s_answer ["desk", "call", "numbers", "row"]
  f_answer_without_row : Def K mg "answer_without_row" s_answer_without_row ["desk", "call", "numbers"]
  f_answers : Def K mg "answers" s_answers ["calls"]
  k_Machine : ClsT K mg "Machine" "Machine.__init__" A.cMachine s_Machine_init ["self", "parts", "pairs"] ["state", "over", "order_at", "tick", "a", "d", "drum", "hopper", "tray"]
  k_Run : ClsT K mg "Run" "Run.__init__" A.cRun s_Run_init ["self", "machine", "stops"] ["machine", "stops", "begun", "hopper_before", "tray_before"]
  k_Desk : ClsT K mg "Desk" "Desk.__init__" A.cDesk s_Desk_init ["self"] ["machine", "stops", "journal"]
  c_WORD_MOST : GI mg "WORD_MOST" (9999999999)
  c_LONG_MOST : GI mg "LONG_MOST" (99999999999999999999)
  c_WORD_SIZE : GI mg "WORD_SIZE" (10000000000)
  c_LONG_SIZE : GI mg "LONG_SIZE" (100000000000000000000)
  c_DRUM_SIZE : GI mg "DRUM_SIZE" (2000)
  c_BAND_SIZE : GI mg "BAND_SIZE" (40)
  c_CARD_SIZE : GI mg "CARD_SIZE" (8)
  c_TICKS : GI mg "TICKS" (18446744073709551616)
  c_HALT : GI mg "HALT" (0)
  c_NOTHING : GI mg "NOTHING" (1)
  c_SHIFT_FIRST : GI mg "SHIFT_FIRST" (40)
  c_SCALE : GI mg "SCALE" (43)
  c_READ : GI mg "READ" (70)
  c_PUNCH : GI mg "PUNCH" (71)
  c_MOST_SHIFT : GI mg "MOST_SHIFT" (20)
  c_TRAY_MOST : GI mg "TRAY_MOST" (64)
  c_STOPPED : GI mg "STOPPED" (0)
  c_ALL_BEGUN : GI mg "ALL_BEGUN" (1)
  c_TICK_MET : GI mg "TICK_MET" (2)
  c_STOP_MET : GI mg "STOP_MET" (3)
  c_PAUSED : GI mg "PAUSED" (4)
  c_TRAY_FULL : GI mg "TRAY_FULL" (5)
  c_WRONG : GI mg "WRONG" (-1)
  c_WRONG_FORM : GI mg "WRONG_FORM" (-6)
  c_TOO_MANY : GI mg "TOO_MANY" (-9)
  c_JOURNAL_FULL : GI mg "JOURNAL_FULL" (-7)
  c_STOPS_MOST : GI mg "STOPS_MOST" (64)
  c_HOPPER_MOST : GI mg "HOPPER_MOST" (64)
  c_HANDED_MOST : GI mg "HANDED_MOST" (512)
  c_ORDERS_MOST : GI mg "ORDERS_MOST" (10000)
  c_PAUSE_MOST : GI mg "PAUSE_MOST" (64)
  c_JOURNAL_MOST : GI mg "JOURNAL_MOST" (20000)
  c_PUT_ENTRY : GI mg "PUT_ENTRY" (1)
  c_STOP_ENTRY : GI mg "STOP_ENTRY" (2)
  c_RUN_ENTRY : GI mg "RUN_ENTRY" (3)
  c_PARTS_SIZE : GI mg "PARTS_SIZE" (6)
  c_HEAD_SIZE : GI mg "HEAD_SIZE" (7)
  c_ENTRY_SIZE : GI mg "ENTRY_SIZE" (3)
  c_CARDS_MOST : GI mg "CARDS_MOST" (10000)
  c_NO_FAULT : GI mg "NO_FAULT" (0)
  c_NO_HEAD : GI mg "NO_HEAD" (1)
  c_NOT_LOADED : GI mg "NOT_LOADED" (2)
  c_WRONG_ENTRY : GI mg "WRONG_ENTRY" (3)
  c_LOAD : GI mg "LOAD" (1)
  c_PUT : GI mg "PUT" (2)
  c_STOP : GI mg "STOP" (3)
  c_HAND : GI mg "HAND" (4)
  c_RUN : GI mg "RUN" (5)
  c_TOLD : GI mg "TOLD" (6)
  c_PEEK : GI mg "PEEK" (7)
  c_TRAY : GI mg "TRAY" (8)
  c_PLAY : GI mg "PLAY" (10)
  c_NO_MACHINE : GI mg "NO_MACHINE" (-3)
  m_ORDERS : mg "ORDERS" = some (.ref A.aORDERS)
  d_ORDERS : KD P w K A.aORDERS A.kORDERS
  e_ORDERS_1 : ∃ f, A.kORDERS (.inl 1) = some (.ref f) ∧ mg "do_nothing" = some (.ref f)
  e_ORDERS_10 : ∃ f, A.kORDERS (.inl 10) = some (.ref f) ∧ mg "load_a" = some (.ref f)
  e_ORDERS_11 : ∃ f, A.kORDERS (.inl 11) = some (.ref f) ∧ mg "load_negated" = some (.ref f)
  e_ORDERS_12 : ∃ f, A.kORDERS (.inl 12) = some (.ref f) ∧ mg "add" = some (.ref f)
  e_ORDERS_13 : ∃ f, A.kORDERS (.inl 13) = some (.ref f) ∧ mg "subtract" = some (.ref f)
  e_ORDERS_14 : ∃ f, A.kORDERS (.inl 14) = some (.ref f) ∧ mg "add_without_sign" = some (.ref f)
  e_ORDERS_15 : ∃ f, A.kORDERS (.inl 15) = some (.ref f) ∧ mg "subtract_without_sign" = some (.ref f)
  e_ORDERS_16 : ∃ f, A.kORDERS (.inl 16) = some (.ref f) ∧ mg "add_upper" = some (.ref f)
  e_ORDERS_17 : ∃ f, A.kORDERS (.inl 17) = some (.ref f) ∧ mg "subtract_upper" = some (.ref f)
  e_ORDERS_18 : ∃ f, A.kORDERS (.inl 18) = some (.ref f) ∧ mg "do_nothing" = some (.ref f)
  e_ORDERS_20 : ∃ f, A.kORDERS (.inl 20) = some (.ref f) ∧ mg "multiply" = some (.ref f)
  e_ORDERS_21 : ∃ f, A.kORDERS (.inl 21) = some (.ref f) ∧ mg "divide" = some (.ref f)
  e_ORDERS_30 : ∃ f, A.kORDERS (.inl 30) = some (.ref f) ∧ mg "store_lower" = some (.ref f)
  e_ORDERS_31 : ∃ f, A.kORDERS (.inl 31) = some (.ref f) ∧ mg "store_upper" = some (.ref f)
  e_ORDERS_32 : ∃ f, A.kORDERS (.inl 32) = some (.ref f) ∧ mg "store_d" = some (.ref f)
  e_ORDERS_40 : ∃ f, A.kORDERS (.inl 40) = some (.ref f) ∧ mg "shift_left" = some (.ref f)
  e_ORDERS_41 : ∃ f, A.kORDERS (.inl 41) = some (.ref f) ∧ mg "shift_right" = some (.ref f)
  e_ORDERS_42 : ∃ f, A.kORDERS (.inl 42) = some (.ref f) ∧ mg "shift_right_rounded" = some (.ref f)
  e_ORDERS_43 : ∃ f, A.kORDERS (.inl 43) = some (.ref f) ∧ mg "scale" = some (.ref f)
  e_ORDERS_50 : ∃ f, A.kORDERS (.inl 50) = some (.ref f) ∧ mg "branch_below_zero" = some (.ref f)
  e_ORDERS_51 : ∃ f, A.kORDERS (.inl 51) = some (.ref f) ∧ mg "branch_not_zero" = some (.ref f)
  e_ORDERS_52 : ∃ f, A.kORDERS (.inl 52) = some (.ref f) ∧ mg "branch_over" = some (.ref f)
  e_ORDERS_60 : ∃ f, A.kORDERS (.inl 60) = some (.ref f) ∧ mg "look_up" = some (.ref f)
  e_ORDERS_70 : ∃ f, A.kORDERS (.inl 70) = some (.ref f) ∧ mg "read_card" = some (.ref f)
  e_ORDERS_71 : ∃ f, A.kORDERS (.inl 71) = some (.ref f) ∧ mg "punch_card" = some (.ref f)
  n_ORDERS : ∀ i : Int, i ∉ ([1, 10, 11, 12, 13, 14, 15, 16, 17, 18, 20, 21, 30, 31, 32, 40, 41, 42, 43, 50, 51, 52, 60, 70, 71] : List Int) → A.kORDERS (.inl i) = none
  m_WHOLE_NUMBERS : mg "WHOLE_NUMBERS" = some (.ref A.aWHOLE_NUMBERS)
  d_WHOLE_NUMBERS : KD P w K A.aWHOLE_NUMBERS A.kWHOLE_NUMBERS
  e_WHOLE_NUMBERS_1 : ∃ t, A.kWHOLE_NUMBERS (.inl 1) = some (.int 6 t)
  e_WHOLE_NUMBERS_2 : ∃ t, A.kWHOLE_NUMBERS (.inl 2) = some (.int 2 t)
  e_WHOLE_NUMBERS_3 : ∃ t, A.kWHOLE_NUMBERS (.inl 3) = some (.int 2 t)
  e_WHOLE_NUMBERS_4 : ∃ t, A.kWHOLE_NUMBERS (.inl 4) = some (.int 0 t)
  e_WHOLE_NUMBERS_5 : ∃ t, A.kWHOLE_NUMBERS (.inl 5) = some (.int 3 t)
  e_WHOLE_NUMBERS_6 : ∃ t, A.kWHOLE_NUMBERS (.inl 6) = some (.int 0 t)
  e_WHOLE_NUMBERS_7 : ∃ t, A.kWHOLE_NUMBERS (.inl 7) = some (.int 1 t)
  e_WHOLE_NUMBERS_8 : ∃ t, A.kWHOLE_NUMBERS (.inl 8) = some (.int 0 t)
  e_WHOLE_NUMBERS_9 : ∃ t, A.kWHOLE_NUMBERS (.inl 9) = some (.int 0 t)
  e_WHOLE_NUMBERS_10 : ∃ t, A.kWHOLE_NUMBERS (.inl 10) = some (.int 0 t)
  m_WITH_ROW : mg "WITH_ROW" = some (.ref A.aWITH_ROW)
  t_WITH_ROW : ∀ H, SqT K H A.aWITH_ROW [.int 1, .int 4, .int 10]
  b_abs : mg "abs" = none
  b_all : mg "all" = none
  b_enumerate : mg "enumerate" = none
  b_int : mg "int" = none
  b_len : mg "len" = none
  b_list : mg "list" = none
  b_range : mg "range" = none
  b_str : mg "str" = none
  b_sum : mg "sum" = none
  b_zip : mg "zip" = none
theorem na_Machine_state {P : Program} {w : World} {K : PySem.W.Frag} {mg : Str → Option Value} {A : Adr} (T : Txt P w K mg A) : NoAttr K A.cMachine ("state" : Str) := T.k_Machine.na _ (by decide +kernel)
theorem na_Machine_over {P : Program} {w : World} {K : PySem.W.Frag} {mg : Str → Option Value} {A : Adr} (T : Txt P w K mg A) : NoAttr K A.cMachine ("over" : Str) := T.k_Machine.na _ (by decide +kernel)
theorem na_Machine_order_at {P : Program} {w : World} {K : PySem.W.Frag} {mg : Str → Option Value} {A : Adr} (T : Txt P w K mg A) : NoAttr K A.cMachine ("order_at" : Str) := T.k_Machine.na _ (by decide +kernel)
theorem na_Machine_tick {P : Program} {w : World} {K : PySem.W.Frag} {mg : Str → Option Value} {A : Adr} (T : Txt P w K mg A) : NoAttr K A.cMachine ("tick" : Str) := T.k_Machine.na _ (by decide +kernel)
theorem na_Machine_a {P : Program} {w : World} {K : PySem.W.Frag} {mg : Str → Option Value} {A : Adr} (T : Txt P w K mg A) : NoAttr K A.cMachine ("a" : Str) := T.k_Machine.na _ (by decide +kernel)
theorem na_Machine_d {P : Program} {w : World} {K : PySem.W.Frag} {mg : Str → Option Value} {A : Adr} (T : Txt P w K mg A) : NoAttr K A.cMachine ("d" : Str) := T.k_Machine.na _ (by decide +kernel)
theorem na_Machine_drum {P : Program} {w : World} {K : PySem.W.Frag} {mg : Str → Option Value} {A : Adr} (T : Txt P w K mg A) : NoAttr K A.cMachine ("drum" : Str) := T.k_Machine.na _ (by decide +kernel)
theorem na_Machine_hopper {P : Program} {w : World} {K : PySem.W.Frag} {mg : Str → Option Value} {A : Adr} (T : Txt P w K mg A) : NoAttr K A.cMachine ("hopper" : Str) := T.k_Machine.na _ (by decide +kernel)
theorem na_Machine_tray {P : Program} {w : World} {K : PySem.W.Frag} {mg : Str → Option Value} {A : Adr} (T : Txt P w K mg A) : NoAttr K A.cMachine ("tray" : Str) := T.k_Machine.na _ (by decide +kernel)
theorem na_Run_machine {P : Program} {w : World} {K : PySem.W.Frag} {mg : Str → Option Value} {A : Adr} (T : Txt P w K mg A) : NoAttr K A.cRun ("machine" : Str) := T.k_Run.na _ (by decide +kernel)
theorem na_Run_stops {P : Program} {w : World} {K : PySem.W.Frag} {mg : Str → Option Value} {A : Adr} (T : Txt P w K mg A) : NoAttr K A.cRun ("stops" : Str) := T.k_Run.na _ (by decide +kernel)
theorem na_Run_begun {P : Program} {w : World} {K : PySem.W.Frag} {mg : Str → Option Value} {A : Adr} (T : Txt P w K mg A) : NoAttr K A.cRun ("begun" : Str) := T.k_Run.na _ (by decide +kernel)
theorem na_Run_hopper_before {P : Program} {w : World} {K : PySem.W.Frag} {mg : Str → Option Value} {A : Adr} (T : Txt P w K mg A) : NoAttr K A.cRun ("hopper_before" : Str) := T.k_Run.na _ (by decide +kernel)
theorem na_Run_tray_before {P : Program} {w : World} {K : PySem.W.Frag} {mg : Str → Option Value} {A : Adr} (T : Txt P w K mg A) : NoAttr K A.cRun ("tray_before" : Str) := T.k_Run.na _ (by decide +kernel)
theorem na_Desk_machine {P : Program} {w : World} {K : PySem.W.Frag} {mg : Str → Option Value} {A : Adr} (T : Txt P w K mg A) : NoAttr K A.cDesk ("machine" : Str) := T.k_Desk.na _ (by decide +kernel)
theorem na_Desk_stops {P : Program} {w : World} {K : PySem.W.Frag} {mg : Str → Option Value} {A : Adr} (T : Txt P w K mg A) : NoAttr K A.cDesk ("stops" : Str) := T.k_Desk.na _ (by decide +kernel)
theorem na_Desk_journal {P : Program} {w : World} {K : PySem.W.Frag} {mg : Str → Option Value} {A : Adr} (T : Txt P w K mg A) : NoAttr K A.cDesk ("journal" : Str) := T.k_Desk.na _ (by decide +kernel)
end Dd

set_option maxRecDepth 100000
set_option maxHeartbeats 2000000
namespace Dd
open PySem PySem.Spec PyProof.Rows L2
theorem def_step {goal : Prop} {K : PySem.W.Frag} {h : Heap} {mg : Str → Option Value} {x : Str} {st : Stmt} {ps : List Str} {f : Addr} {oc : Value} {od an : Option Addr} {osl : Array (Option Value)} {kV doc pm cdv ct : Value} (X : K.In h) (G : h.Ns mainGlobals mg)
    (b : ∀ (kV doc pm : Value) (an : Option Addr) (cdv ct : Value) (us : List Value), us.length = ps.length → bindArgs (PySem.W.fnOf x x (defArgs st) (defBody st) (defScope st) .none kV doc pm an cdv ct) ⟨us, []⟩ = pure (ps.zip us))
    (a : PySem.W.nsIn K mainGlobals x = some (some (.ref f))) (l : K.lookup f = some ⟨oc, od, .func (PySem.W.fnOf x x (defArgs st) (defBody st) (defScope st) .none kV doc pm an cdv ct), osl⟩) (c : PySem.W.codeIn K cdv x = true) (k : PySem.W.keepIn K (.ref f) = true)
    (go : Def K mg x st ps → mg x = some (.ref f) → goal) : goal :=
  have F := fun_mk (st := st) l c k
  go ⟨⟨f, _, F, PySem.W.mg_of X G a, F.binds b⟩⟩ (PySem.W.mg_of X G a)
theorem cls_step {goal : Prop} {K : PySem.W.Frag} {h : Heap} {mg : Str → Option Value} {x qual : Str} {C : Addr} {st : Stmt} {ps fields : List Str} {f : Addr} {oc : Value} {od an : Option Addr} {osl : Array (Option Value)} {kV doc pm cdv ct : Value} (X : K.In h) (G : h.Ns mainGlobals mg)
    (b : ∀ (kV doc pm : Value) (an : Option Addr) (cdv ct : Value) (us : List Value), us.length = ps.length → bindArgs (PySem.W.fnOf "__init__" qual (defArgs st) (defBody st) (defScope st) .none kV doc pm an cdv ct) ⟨us, []⟩ = pure (ps.zip us))
    (aC : PySem.W.nsIn K mainGlobals x = some (some (.ref C))) (a : PySem.W.findIn K (.ref C) "__init__" = some (some (.ref f))) (i : PySem.W.isFn K (.ref f) = true) (l : K.lookup f = some ⟨oc, od, .func (PySem.W.fnOf "__init__" qual (defArgs st) (defBody st) (defScope st) .none kV doc pm an cdv ct), osl⟩) (c : PySem.W.codeIn K cdv qual = true) (k : PySem.W.keepIn K (.ref f) = true)
    (pg : PySem.W.plainGet K C Str.empty = true) (hd : PySem.W.hasDictIn K C = true) (po : PySem.W.plainOver K C = true) (sa : PySem.W.findIn K (.ref C) "__setattr__" = some (some (.builtin "object.__setattr__"))) (mk : PySem.W.makesIn K C = true) (kc : PySem.W.keepIn K (.ref C) = true)
    (na : ∀ f ∈ fields, NoAttr K C f) (go : ClsT K mg x qual C st ps fields → goal) : goal :=
  have F := fun_mk (st := st) l c k
  go ⟨⟨pg, hd, po, sa⟩, na, PySem.W.mg_of X G aC, ⟨f, _, ⟨mk, a, i, kc⟩, F, F.binds b⟩⟩
theorem na_cons {K : PySem.W.Frag} {C : Addr} {f : Str} {r : List Str} (a : PySem.W.findIn K (.ref C) f = some none) (b : ∀ g ∈ r, NoAttr K C g) : ∀ g ∈ f :: r, NoAttr K C g := fun g hg => by
  rcases List.mem_cons.mp hg with rfl | q
  · exact a
  · exact b g q
theorem na_nil {K : PySem.W.Frag} {C : Addr} : ∀ g ∈ ([] : List Str), NoAttr K C g := fun g hg => by simp at hg
theorem int_step {goal : Prop} {K : PySem.W.Frag} {h : Heap} {mg : Str → Option Value} {x : Str} {i : Int} {t : Tok} (X : K.In h) (G : h.Ns mainGlobals mg) (a : PySem.W.nsIn K mainGlobals x = some (some (.int i t))) (go : GI mg x i → goal) : goal := go ⟨t, PySem.W.mg_of X G a⟩
theorem blt_step {goal : Prop} {K : PySem.W.Frag} {h : Heap} {mg : Str → Option Value} {x : Str} (X : K.In h) (G : h.Ns mainGlobals mg) (a : PySem.W.nsIn K mainGlobals x = some none) (go : mg x = none → goal) : goal := go (PySem.W.mg_none_of X G a)
theorem dict_step {goal : Prop} {P : Program} {w : World} {K : PySem.W.Frag} {h : Heap} {mg : Str → Option Value} {x : Str} {d : Addr} {es : Array DictEntry} {ep : Nat} (X : K.In h) (G : h.Ns mainGlobals mg) (a : PySem.W.nsIn K mainGlobals x = some (some (.ref d))) (l : K.lookup d = some { cls := .type "dict", data := .dict es ep })
    (hi : intKeys es.toList = true) (hn : (d == sysModules) = false) (go : mg x = some (.ref d) → KD P w K d (fun k => findBy keyIs es k) → goal) : goal := go (PySem.W.mg_of X G a) (KD.of l hi hn)
theorem tup_step {goal : Prop} {K : PySem.W.Frag} {h : Heap} {mg : Str → Option Value} {x : Str} {d : Addr} {o : Obj} {its : Array Value} {n : Nat} {xs : List V} (X : K.In h) (G : h.Ns mainGlobals mg) (a : PySem.W.nsIn K mainGlobals x = some (some (.ref d))) (l : K.lookup d = some o) (hc : o.cls = .type "tuple") (hd : o.data = .seq its n) (hz : its.size ≤ sizeLine) (hv : Vals xs its.toList)
    (go : mg x = some (.ref d) → (∀ H, SqT K H d xs) → goal) : goal := go (PySem.W.mg_of X G a) (fun H => .inr ⟨o, its, n, l, hc, hd, hz, hv⟩)
def keyInt : Value → Option Int
  | .int i _ => some i
  | _ => none
theorem find_not {es : Array DictEntry} {ks : List Int} (hk : es.toList.map (fun e => keyInt e.key) = ks.map some) (i : Int) (hi : i ∉ ks) : findBy keyIs es (Sum.inl i : Key) = none := by
  unfold findBy
  have : es.find? (fun e => keyIs (Sum.inl i : Key) e.key) = none := by
    rw [Array.find?_eq_none]
    intro e he q
    have hm : keyInt e.key ∈ es.toList.map (fun e => keyInt e.key) := List.mem_map.mpr ⟨e, Array.mem_def.mp he, rfl⟩
    rw [hk] at hm
    rcases keyIs_shape q with ⟨i', t, e1, e2⟩ | ⟨x', t, e1, e2⟩
    · cases e1
      rw [e2] at hm
      obtain ⟨j, hj, ej⟩ := List.mem_map.mp hm
      have : j = i := by
        have q2 : some j = some i := ej
        exact Option.some.inj q2
      exact hi (this ▸ hj)
    · cases e1
  rw [this]; rfl
def sp_answers (K : PySem.W.Frag) : Sp := fun vs H Q _ => ∃ (a : Addr) (ns : List Int), vs = [.ref a] ∧ SqL K H a (ns.map V.int) ∧ ns.length ≤ 15000 ∧ PyWqdrmf.answers_asked ns = true ∧ ∀ (H' : Hp) (p : Addr), H' p = some (.lst ((PyWqdrmf.answers ns).map V.int)) → Q (.ref p) H'
def Upshot (P : Program) (w : World) (K : PySem.W.Frag) (mg : Str → Option Value) (fa : Addr) : Prop := ∃ fd : FuncData, (∀ (s : Shared) (us : List Value), us.length = (["calls"] : List Str).length → BindsTo s fd ⟨us, []⟩ ((["calls"] : List Str).zip us)) ∧ ∀ base : Heap, K.In base → base.Ns mainGlobals mg → FnOk P w K mg base CX0 12 fa fd ["calls"] (sp_answers K)
end Dd
section
open PySem PySem.W PyProof.Rows
set_option maxRecDepth 100000 in
set_option maxHeartbeats 0 in
theorem Dd.by_head (HF : ∀ (P : Program) (w : World) (K : PySem.W.Frag) (mg : Str → Option Value) (A : Dd.Adr) (fa : Addr), Dd.Txt P w K mg A → mg "answers" = some (.ref fa) → Dd.Upshot P w K mg fa) : PySem.Challenge.rw_drumdesk_s01_answers.Holds := by
  refine dhead ?_
  k_fillS
  refine L2.walk_specK (r := PySem.Challenge.rw_drumdesk_s01_answers) (k := 12) (CX := L2.CX0) (ps := ["calls"]) (sp := Dd.sp_answers) (by decide +kernel) rfl rfl ⟨rfl, by decide, by decide⟩ (fun w h Y => PySem.W.kIn_of Y) ?F ?S (fun _ _ _ _ z => z)
  case F =>
    intro w mg fa h Y KX G hmg
    refine' Dd.def_step (x := "is_word") (st := Dd.s_is_word) (ps := ["number"]) KX G (fun _ _ _ _ _ _ us hl => match us, hl with | [_], _ => rfl) ?a_is_word ?l_is_word ?c_is_word ?k_is_word (fun f_is_word m_is_word => ?_)
    (case a_is_word => k_is); (case l_is_word => k_is); (case c_is_word => k_is); (case k_is_word => k_is)
    refine' Dd.def_step (x := "is_long") (st := Dd.s_is_long) (ps := ["number"]) KX G (fun _ _ _ _ _ _ us hl => match us, hl with | [_], _ => rfl) ?a_is_long ?l_is_long ?c_is_long ?k_is_long (fun f_is_long m_is_long => ?_)
    (case a_is_long => k_is); (case l_is_long => k_is); (case c_is_long => k_is); (case k_is_long => k_is)
    refine' Dd.def_step (x := "with_sign_of") (st := Dd.s_with_sign_of) (ps := ["number", "size"]) KX G (fun _ _ _ _ _ _ us hl => match us, hl with | [_, _], _ => rfl) ?a_with_sign_of ?l_with_sign_of ?c_with_sign_of ?k_with_sign_of (fun f_with_sign_of m_with_sign_of => ?_)
    (case a_with_sign_of => k_is); (case l_with_sign_of => k_is); (case c_with_sign_of => k_is); (case k_with_sign_of => k_is)
    refine' Dd.def_step (x := "upper_word") (st := Dd.s_upper_word) (ps := ["number"]) KX G (fun _ _ _ _ _ _ us hl => match us, hl with | [_], _ => rfl) ?a_upper_word ?l_upper_word ?c_upper_word ?k_upper_word (fun f_upper_word m_upper_word => ?_)
    (case a_upper_word => k_is); (case l_upper_word => k_is); (case c_upper_word => k_is); (case k_upper_word => k_is)
    refine' Dd.def_step (x := "lower_word") (st := Dd.s_lower_word) (ps := ["number"]) KX G (fun _ _ _ _ _ _ us hl => match us, hl with | [_], _ => rfl) ?a_lower_word ?l_lower_word ?c_lower_word ?k_lower_word (fun f_lower_word m_lower_word => ?_)
    (case a_lower_word => k_is); (case l_lower_word => k_is); (case c_lower_word => k_is); (case k_lower_word => k_is)
    refine' Dd.def_step (x := "lower_twenty") (st := Dd.s_lower_twenty) (ps := ["number"]) KX G (fun _ _ _ _ _ _ us hl => match us, hl with | [_], _ => rfl) ?a_lower_twenty ?l_lower_twenty ?c_lower_twenty ?k_lower_twenty (fun f_lower_twenty m_lower_twenty => ?_)
    (case a_lower_twenty => k_is); (case l_lower_twenty => k_is); (case c_lower_twenty => k_is); (case k_lower_twenty => k_is)
    refine' Dd.def_step (x := "quotient_toward_zero") (st := Dd.s_quotient_toward_zero) (ps := ["number", "divisor"]) KX G (fun _ _ _ _ _ _ us hl => match us, hl with | [_, _], _ => rfl) ?a_quotient_toward_zero ?l_quotient_toward_zero ?c_quotient_toward_zero ?k_quotient_toward_zero (fun f_quotient_toward_zero m_quotient_toward_zero => ?_)
    (case a_quotient_toward_zero => k_is); (case l_quotient_toward_zero => k_is); (case c_quotient_toward_zero => k_is); (case k_quotient_toward_zero => k_is)
    refine' Dd.def_step (x := "quotient_to_nearest") (st := Dd.s_quotient_to_nearest) (ps := ["number", "divisor"]) KX G (fun _ _ _ _ _ _ us hl => match us, hl with | [_, _], _ => rfl) ?a_quotient_to_nearest ?l_quotient_to_nearest ?c_quotient_to_nearest ?k_quotient_to_nearest (fun f_quotient_to_nearest m_quotient_to_nearest => ?_)
    (case a_quotient_to_nearest => k_is); (case l_quotient_to_nearest => k_is); (case c_quotient_to_nearest => k_is); (case k_quotient_to_nearest => k_is)
    refine' Dd.def_step (x := "digit_sum") (st := Dd.s_digit_sum) (ps := ["number"]) KX G (fun _ _ _ _ _ _ us hl => match us, hl with | [_], _ => rfl) ?a_digit_sum ?l_digit_sum ?c_digit_sum ?k_digit_sum (fun f_digit_sum m_digit_sum => ?_)
    (case a_digit_sum => k_is); (case l_digit_sum => k_is); (case c_digit_sum => k_is); (case k_digit_sum => k_is)
    refine' Dd.def_step (x := "power_of_ten") (st := Dd.s_power_of_ten) (ps := ["exponent"]) KX G (fun _ _ _ _ _ _ us hl => match us, hl with | [_], _ => rfl) ?a_power_of_ten ?l_power_of_ten ?c_power_of_ten ?k_power_of_ten (fun f_power_of_ten m_power_of_ten => ?_)
    (case a_power_of_ten => k_is); (case l_power_of_ten => k_is); (case c_power_of_ten => k_is); (case k_power_of_ten => k_is)
    refine' Dd.def_step (x := "drum_of") (st := Dd.s_drum_of) (ps := ["pairs"]) KX G (fun _ _ _ _ _ _ us hl => match us, hl with | [_], _ => rfl) ?a_drum_of ?l_drum_of ?c_drum_of ?k_drum_of (fun f_drum_of m_drum_of => ?_)
    (case a_drum_of => k_is); (case l_drum_of => k_is); (case c_drum_of => k_is); (case k_drum_of => k_is)
    refine' Dd.def_step (x := "is_address") (st := Dd.s_is_address) (ps := ["number"]) KX G (fun _ _ _ _ _ _ us hl => match us, hl with | [_], _ => rfl) ?a_is_address ?l_is_address ?c_is_address ?k_is_address (fun f_is_address m_is_address => ?_)
    (case a_is_address => k_is); (case l_is_address => k_is); (case c_is_address => k_is); (case k_is_address => k_is)
    refine' Dd.def_step (x := "is_tick") (st := Dd.s_is_tick) (ps := ["number"]) KX G (fun _ _ _ _ _ _ us hl => match us, hl with | [_], _ => rfl) ?a_is_tick ?l_is_tick ?c_is_tick ?k_is_tick (fun f_is_tick m_is_tick => ?_)
    (case a_is_tick => k_is); (case l_is_tick => k_is); (case c_is_tick => k_is); (case k_is_tick => k_is)
    refine' Dd.def_step (x := "are_parts") (st := Dd.s_are_parts) (ps := ["parts"]) KX G (fun _ _ _ _ _ _ us hl => match us, hl with | [_], _ => rfl) ?a_are_parts ?l_are_parts ?c_are_parts ?k_are_parts (fun f_are_parts m_are_parts => ?_)
    (case a_are_parts => k_is); (case l_are_parts => k_is); (case c_are_parts => k_is); (case k_are_parts => k_is)
    refine' Dd.def_step (x := "are_pairs") (st := Dd.s_are_pairs) (ps := ["pairs"]) KX G (fun _ _ _ _ _ _ us hl => match us, hl with | [_], _ => rfl) ?a_are_pairs ?l_are_pairs ?c_are_pairs ?k_are_pairs (fun f_are_pairs m_are_pairs => ?_)
    (case a_are_pairs => k_is); (case l_are_pairs => k_is); (case c_are_pairs => k_is); (case k_are_pairs => k_is)
    refine' Dd.def_step (x := "first_tick_at") (st := Dd.s_first_tick_at) (ps := ["tick", "address"]) KX G (fun _ _ _ _ _ _ us hl => match us, hl with | [_, _], _ => rfl) ?a_first_tick_at ?l_first_tick_at ?c_first_tick_at ?k_first_tick_at (fun f_first_tick_at m_first_tick_at => ?_)
    (case a_first_tick_at => k_is); (case l_first_tick_at => k_is); (case c_first_tick_at => k_is); (case k_first_tick_at => k_is)
    refine' Dd.def_step (x := "band_start") (st := Dd.s_band_start) (ps := ["address"]) KX G (fun _ _ _ _ _ _ us hl => match us, hl with | [_], _ => rfl) ?a_band_start ?l_band_start ?c_band_start ?k_band_start (fun f_band_start m_band_start => ?_)
    (case a_band_start => k_is); (case l_band_start => k_is); (case c_band_start => k_is); (case k_band_start => k_is)
    refine' Dd.def_step (x := "around_band") (st := Dd.s_around_band) (ps := ["address", "count"]) KX G (fun _ _ _ _ _ _ us hl => match us, hl with | [_, _], _ => rfl) ?a_around_band ?l_around_band ?c_around_band ?k_around_band (fun f_around_band m_around_band => ?_)
    (case a_around_band => k_is); (case l_around_band => k_is); (case c_around_band => k_is); (case k_around_band => k_is)
    refine' Dd.def_step (x := "words_around") (st := Dd.s_words_around) (ps := ["drum", "address"]) KX G (fun _ _ _ _ _ _ us hl => match us, hl with | [_, _], _ => rfl) ?a_words_around ?l_words_around ?c_words_around ?k_words_around (fun f_words_around m_words_around => ?_)
    (case a_words_around => k_is); (case l_words_around => k_is); (case c_words_around => k_is); (case k_words_around => k_is)
    refine' Dd.def_step (x := "code_of") (st := Dd.s_code_of) (ps := ["word"]) KX G (fun _ _ _ _ _ _ us hl => match us, hl with | [_], _ => rfl) ?a_code_of ?l_code_of ?c_code_of ?k_code_of (fun f_code_of m_code_of => ?_)
    (case a_code_of => k_is); (case l_code_of => k_is); (case c_code_of => k_is); (case k_code_of => k_is)
    refine' Dd.def_step (x := "data_address") (st := Dd.s_data_address) (ps := ["word"]) KX G (fun _ _ _ _ _ _ us hl => match us, hl with | [_], _ => rfl) ?a_data_address ?l_data_address ?c_data_address ?k_data_address (fun f_data_address m_data_address => ?_)
    (case a_data_address => k_is); (case l_data_address => k_is); (case c_data_address => k_is); (case k_data_address => k_is)
    refine' Dd.def_step (x := "next_address") (st := Dd.s_next_address) (ps := ["word"]) KX G (fun _ _ _ _ _ _ us hl => match us, hl with | [_], _ => rfl) ?a_next_address ?l_next_address ?c_next_address ?k_next_address (fun f_next_address m_next_address => ?_)
    (case a_next_address => k_is); (case l_next_address => k_is); (case c_next_address => k_is); (case k_next_address => k_is)
    refine' Dd.def_step (x := "keep_in_a") (st := Dd.s_keep_in_a) (ps := ["machine", "number"]) KX G (fun _ _ _ _ _ _ us hl => match us, hl with | [_, _], _ => rfl) ?a_keep_in_a ?l_keep_in_a ?c_keep_in_a ?k_keep_in_a (fun f_keep_in_a m_keep_in_a => ?_)
    (case a_keep_in_a => k_is); (case l_keep_in_a => k_is); (case c_keep_in_a => k_is); (case k_keep_in_a => k_is)
    refine' Dd.def_step (x := "do_nothing") (st := Dd.s_do_nothing) (ps := ["machine", "at"]) KX G (fun _ _ _ _ _ _ us hl => match us, hl with | [_, _], _ => rfl) ?a_do_nothing ?l_do_nothing ?c_do_nothing ?k_do_nothing (fun f_do_nothing m_do_nothing => ?_)
    (case a_do_nothing => k_is); (case l_do_nothing => k_is); (case c_do_nothing => k_is); (case k_do_nothing => k_is)
    refine' Dd.def_step (x := "load_a") (st := Dd.s_load_a) (ps := ["machine", "at"]) KX G (fun _ _ _ _ _ _ us hl => match us, hl with | [_, _], _ => rfl) ?a_load_a ?l_load_a ?c_load_a ?k_load_a (fun f_load_a m_load_a => ?_)
    (case a_load_a => k_is); (case l_load_a => k_is); (case c_load_a => k_is); (case k_load_a => k_is)
    refine' Dd.def_step (x := "load_negated") (st := Dd.s_load_negated) (ps := ["machine", "at"]) KX G (fun _ _ _ _ _ _ us hl => match us, hl with | [_, _], _ => rfl) ?a_load_negated ?l_load_negated ?c_load_negated ?k_load_negated (fun f_load_negated m_load_negated => ?_)
    (case a_load_negated => k_is); (case l_load_negated => k_is); (case c_load_negated => k_is); (case k_load_negated => k_is)
    refine' Dd.def_step (x := "add") (st := Dd.s_add) (ps := ["machine", "at"]) KX G (fun _ _ _ _ _ _ us hl => match us, hl with | [_, _], _ => rfl) ?a_add ?l_add ?c_add ?k_add (fun f_add m_add => ?_)
    (case a_add => k_is); (case l_add => k_is); (case c_add => k_is); (case k_add => k_is)
    refine' Dd.def_step (x := "subtract") (st := Dd.s_subtract) (ps := ["machine", "at"]) KX G (fun _ _ _ _ _ _ us hl => match us, hl with | [_, _], _ => rfl) ?a_subtract ?l_subtract ?c_subtract ?k_subtract (fun f_subtract m_subtract => ?_)
    (case a_subtract => k_is); (case l_subtract => k_is); (case c_subtract => k_is); (case k_subtract => k_is)
    refine' Dd.def_step (x := "add_without_sign") (st := Dd.s_add_without_sign) (ps := ["machine", "at"]) KX G (fun _ _ _ _ _ _ us hl => match us, hl with | [_, _], _ => rfl) ?a_add_without_sign ?l_add_without_sign ?c_add_without_sign ?k_add_without_sign (fun f_add_without_sign m_add_without_sign => ?_)
    (case a_add_without_sign => k_is); (case l_add_without_sign => k_is); (case c_add_without_sign => k_is); (case k_add_without_sign => k_is)
    refine' Dd.def_step (x := "subtract_without_sign") (st := Dd.s_subtract_without_sign) (ps := ["machine", "at"]) KX G (fun _ _ _ _ _ _ us hl => match us, hl with | [_, _], _ => rfl) ?a_subtract_without_sign ?l_subtract_without_sign ?c_subtract_without_sign ?k_subtract_without_sign (fun f_subtract_without_sign m_subtract_without_sign => ?_)
    (case a_subtract_without_sign => k_is); (case l_subtract_without_sign => k_is); (case c_subtract_without_sign => k_is); (case k_subtract_without_sign => k_is)
    refine' Dd.def_step (x := "add_upper") (st := Dd.s_add_upper) (ps := ["machine", "at"]) KX G (fun _ _ _ _ _ _ us hl => match us, hl with | [_, _], _ => rfl) ?a_add_upper ?l_add_upper ?c_add_upper ?k_add_upper (fun f_add_upper m_add_upper => ?_)
    (case a_add_upper => k_is); (case l_add_upper => k_is); (case c_add_upper => k_is); (case k_add_upper => k_is)
    refine' Dd.def_step (x := "subtract_upper") (st := Dd.s_subtract_upper) (ps := ["machine", "at"]) KX G (fun _ _ _ _ _ _ us hl => match us, hl with | [_, _], _ => rfl) ?a_subtract_upper ?l_subtract_upper ?c_subtract_upper ?k_subtract_upper (fun f_subtract_upper m_subtract_upper => ?_)
    (case a_subtract_upper => k_is); (case l_subtract_upper => k_is); (case c_subtract_upper => k_is); (case k_subtract_upper => k_is)
    refine' Dd.def_step (x := "multiply") (st := Dd.s_multiply) (ps := ["machine", "at"]) KX G (fun _ _ _ _ _ _ us hl => match us, hl with | [_, _], _ => rfl) ?a_multiply ?l_multiply ?c_multiply ?k_multiply (fun f_multiply m_multiply => ?_)
    (case a_multiply => k_is); (case l_multiply => k_is); (case c_multiply => k_is); (case k_multiply => k_is)
    refine' Dd.def_step (x := "divide") (st := Dd.s_divide) (ps := ["machine", "at"]) KX G (fun _ _ _ _ _ _ us hl => match us, hl with | [_, _], _ => rfl) ?a_divide ?l_divide ?c_divide ?k_divide (fun f_divide m_divide => ?_)
    (case a_divide => k_is); (case l_divide => k_is); (case c_divide => k_is); (case k_divide => k_is)
    refine' Dd.def_step (x := "store_lower") (st := Dd.s_store_lower) (ps := ["machine", "at"]) KX G (fun _ _ _ _ _ _ us hl => match us, hl with | [_, _], _ => rfl) ?a_store_lower ?l_store_lower ?c_store_lower ?k_store_lower (fun f_store_lower m_store_lower => ?_)
    (case a_store_lower => k_is); (case l_store_lower => k_is); (case c_store_lower => k_is); (case k_store_lower => k_is)
    refine' Dd.def_step (x := "store_upper") (st := Dd.s_store_upper) (ps := ["machine", "at"]) KX G (fun _ _ _ _ _ _ us hl => match us, hl with | [_, _], _ => rfl) ?a_store_upper ?l_store_upper ?c_store_upper ?k_store_upper (fun f_store_upper m_store_upper => ?_)
    (case a_store_upper => k_is); (case l_store_upper => k_is); (case c_store_upper => k_is); (case k_store_upper => k_is)
    refine' Dd.def_step (x := "store_d") (st := Dd.s_store_d) (ps := ["machine", "at"]) KX G (fun _ _ _ _ _ _ us hl => match us, hl with | [_, _], _ => rfl) ?a_store_d ?l_store_d ?c_store_d ?k_store_d (fun f_store_d m_store_d => ?_)
    (case a_store_d => k_is); (case l_store_d => k_is); (case c_store_d => k_is); (case k_store_d => k_is)
    refine' Dd.def_step (x := "shift_left") (st := Dd.s_shift_left) (ps := ["machine", "at"]) KX G (fun _ _ _ _ _ _ us hl => match us, hl with | [_, _], _ => rfl) ?a_shift_left ?l_shift_left ?c_shift_left ?k_shift_left (fun f_shift_left m_shift_left => ?_)
    (case a_shift_left => k_is); (case l_shift_left => k_is); (case c_shift_left => k_is); (case k_shift_left => k_is)
    refine' Dd.def_step (x := "shift_right") (st := Dd.s_shift_right) (ps := ["machine", "at"]) KX G (fun _ _ _ _ _ _ us hl => match us, hl with | [_, _], _ => rfl) ?a_shift_right ?l_shift_right ?c_shift_right ?k_shift_right (fun f_shift_right m_shift_right => ?_)
    (case a_shift_right => k_is); (case l_shift_right => k_is); (case c_shift_right => k_is); (case k_shift_right => k_is)
    refine' Dd.def_step (x := "shift_right_rounded") (st := Dd.s_shift_right_rounded) (ps := ["machine", "at"]) KX G (fun _ _ _ _ _ _ us hl => match us, hl with | [_, _], _ => rfl) ?a_shift_right_rounded ?l_shift_right_rounded ?c_shift_right_rounded ?k_shift_right_rounded (fun f_shift_right_rounded m_shift_right_rounded => ?_)
    (case a_shift_right_rounded => k_is); (case l_shift_right_rounded => k_is); (case c_shift_right_rounded => k_is); (case k_shift_right_rounded => k_is)
    refine' Dd.def_step (x := "scale") (st := Dd.s_scale) (ps := ["machine", "at"]) KX G (fun _ _ _ _ _ _ us hl => match us, hl with | [_, _], _ => rfl) ?a_scale ?l_scale ?c_scale ?k_scale (fun f_scale m_scale => ?_)
    (case a_scale => k_is); (case l_scale => k_is); (case c_scale => k_is); (case k_scale => k_is)
    refine' Dd.def_step (x := "branch_below_zero") (st := Dd.s_branch_below_zero) (ps := ["machine", "at"]) KX G (fun _ _ _ _ _ _ us hl => match us, hl with | [_, _], _ => rfl) ?a_branch_below_zero ?l_branch_below_zero ?c_branch_below_zero ?k_branch_below_zero (fun f_branch_below_zero m_branch_below_zero => ?_)
    (case a_branch_below_zero => k_is); (case l_branch_below_zero => k_is); (case c_branch_below_zero => k_is); (case k_branch_below_zero => k_is)
    refine' Dd.def_step (x := "branch_not_zero") (st := Dd.s_branch_not_zero) (ps := ["machine", "at"]) KX G (fun _ _ _ _ _ _ us hl => match us, hl with | [_, _], _ => rfl) ?a_branch_not_zero ?l_branch_not_zero ?c_branch_not_zero ?k_branch_not_zero (fun f_branch_not_zero m_branch_not_zero => ?_)
    (case a_branch_not_zero => k_is); (case l_branch_not_zero => k_is); (case c_branch_not_zero => k_is); (case k_branch_not_zero => k_is)
    refine' Dd.def_step (x := "branch_over") (st := Dd.s_branch_over) (ps := ["machine", "at"]) KX G (fun _ _ _ _ _ _ us hl => match us, hl with | [_, _], _ => rfl) ?a_branch_over ?l_branch_over ?c_branch_over ?k_branch_over (fun f_branch_over m_branch_over => ?_)
    (case a_branch_over => k_is); (case l_branch_over => k_is); (case c_branch_over => k_is); (case k_branch_over => k_is)
    refine' Dd.def_step (x := "look_up") (st := Dd.s_look_up) (ps := ["machine", "at"]) KX G (fun _ _ _ _ _ _ us hl => match us, hl with | [_, _], _ => rfl) ?a_look_up ?l_look_up ?c_look_up ?k_look_up (fun f_look_up m_look_up => ?_)
    (case a_look_up => k_is); (case l_look_up => k_is); (case c_look_up => k_is); (case k_look_up => k_is)
    refine' Dd.def_step (x := "read_card") (st := Dd.s_read_card) (ps := ["machine", "at"]) KX G (fun _ _ _ _ _ _ us hl => match us, hl with | [_, _], _ => rfl) ?a_read_card ?l_read_card ?c_read_card ?k_read_card (fun f_read_card m_read_card => ?_)
    (case a_read_card => k_is); (case l_read_card => k_is); (case c_read_card => k_is); (case k_read_card => k_is)
    refine' Dd.def_step (x := "punch_card") (st := Dd.s_punch_card) (ps := ["machine", "at"]) KX G (fun _ _ _ _ _ _ us hl => match us, hl with | [_, _], _ => rfl) ?a_punch_card ?l_punch_card ?c_punch_card ?k_punch_card (fun f_punch_card m_punch_card => ?_)
    (case a_punch_card => k_is); (case l_punch_card => k_is); (case c_punch_card => k_is); (case k_punch_card => k_is)
    refine' Dd.def_step (x := "begins_with_d") (st := Dd.s_begins_with_d) (ps := ["code"]) KX G (fun _ _ _ _ _ _ us hl => match us, hl with | [_], _ => rfl) ?a_begins_with_d ?l_begins_with_d ?c_begins_with_d ?k_begins_with_d (fun f_begins_with_d m_begins_with_d => ?_)
    (case a_begins_with_d => k_is); (case l_begins_with_d => k_is); (case c_begins_with_d => k_is); (case k_begins_with_d => k_is)
    refine' Dd.def_step (x := "waits_for_data") (st := Dd.s_waits_for_data) (ps := ["code"]) KX G (fun _ _ _ _ _ _ us hl => match us, hl with | [_], _ => rfl) ?a_waits_for_data ?l_waits_for_data ?c_waits_for_data ?k_waits_for_data (fun f_waits_for_data m_waits_for_data => ?_)
    (case a_waits_for_data => k_is); (case l_waits_for_data => k_is); (case c_waits_for_data => k_is); (case k_waits_for_data => k_is)
    refine' Dd.def_step (x := "state_behind") (st := Dd.s_state_behind) (ps := ["word", "has_card"]) KX G (fun _ _ _ _ _ _ us hl => match us, hl with | [_, _], _ => rfl) ?a_state_behind ?l_state_behind ?c_state_behind ?k_state_behind (fun f_state_behind m_state_behind => ?_)
    (case a_state_behind => k_is); (case l_state_behind => k_is); (case c_state_behind => k_is); (case k_state_behind => k_is)
    refine' Dd.def_step (x := "is_punching") (st := Dd.s_is_punching) (ps := ["word"]) KX G (fun _ _ _ _ _ _ us hl => match us, hl with | [_], _ => rfl) ?a_is_punching ?l_is_punching ?c_is_punching ?k_is_punching (fun f_is_punching m_is_punching => ?_)
    (case a_is_punching => k_is); (case l_is_punching => k_is); (case c_is_punching => k_is); (case k_is_punching => k_is)
    refine' Dd.def_step (x := "do_order") (st := Dd.s_do_order) (ps := ["machine"]) KX G (fun _ _ _ _ _ _ us hl => match us, hl with | [_], _ => rfl) ?a_do_order ?l_do_order ?c_do_order ?k_do_order (fun f_do_order m_do_order => ?_)
    (case a_do_order => k_is); (case l_do_order => k_is); (case c_do_order => k_is); (case k_do_order => k_is)
    refine' Dd.def_step (x := "carry_out") (st := Dd.s_carry_out) (ps := ["machine", "word", "tick"]) KX G (fun _ _ _ _ _ _ us hl => match us, hl with | [_, _, _], _ => rfl) ?a_carry_out ?l_carry_out ?c_carry_out ?k_carry_out (fun f_carry_out m_carry_out => ?_)
    (case a_carry_out => k_is); (case l_carry_out => k_is); (case c_carry_out => k_is); (case k_carry_out => k_is)
    refine' Dd.def_step (x := "cards_read") (st := Dd.s_cards_read) (ps := ["run"]) KX G (fun _ _ _ _ _ _ us hl => match us, hl with | [_], _ => rfl) ?a_cards_read ?l_cards_read ?c_cards_read ?k_cards_read (fun f_cards_read m_cards_read => ?_)
    (case a_cards_read => k_is); (case l_cards_read => k_is); (case c_cards_read => k_is); (case k_cards_read => k_is)
    refine' Dd.def_step (x := "punched") (st := Dd.s_punched) (ps := ["run"]) KX G (fun _ _ _ _ _ _ us hl => match us, hl with | [_], _ => rfl) ?a_punched ?l_punched ?c_punched ?k_punched (fun f_punched m_punched => ?_)
    (case a_punched => k_is); (case l_punched => k_is); (case c_punched => k_is); (case k_punched => k_is)
    refine' Dd.def_step (x := "end_before_order") (st := Dd.s_end_before_order) (ps := ["run", "orders", "until"]) KX G (fun _ _ _ _ _ _ us hl => match us, hl with | [_, _, _], _ => rfl) ?a_end_before_order ?l_end_before_order ?c_end_before_order ?k_end_before_order (fun f_end_before_order m_end_before_order => ?_)
    (case a_end_before_order => k_is); (case l_end_before_order => k_is); (case c_end_before_order => k_is); (case k_end_before_order => k_is)
    refine' Dd.def_step (x := "go_on") (st := Dd.s_go_on) (ps := ["run", "orders", "until", "pause"]) KX G (fun _ _ _ _ _ _ us hl => match us, hl with | [_, _, _, _], _ => rfl) ?a_go_on ?l_go_on ?c_go_on ?k_go_on (fun f_go_on m_go_on => ?_)
    (case a_go_on => k_is); (case l_go_on => k_is); (case c_go_on => k_is); (case k_go_on => k_is)
    refine' Dd.def_step (x := "go_through") (st := Dd.s_go_through) (ps := ["run", "orders"]) KX G (fun _ _ _ _ _ _ us hl => match us, hl with | [_, _], _ => rfl) ?a_go_through ?l_go_through ?c_go_through ?k_go_through (fun f_go_through m_go_through => ?_)
    (case a_go_through => k_is); (case l_go_through => k_is); (case c_go_through => k_is); (case k_go_through => k_is)
    refine' Dd.def_step (x := "has_room") (st := Dd.s_has_room) (ps := ["desk", "more"]) KX G (fun _ _ _ _ _ _ us hl => match us, hl with | [_, _], _ => rfl) ?a_has_room ?l_has_room ?c_has_room ?k_has_room (fun f_has_room m_has_room => ?_)
    (case a_has_room => k_is); (case l_has_room => k_is); (case c_has_room => k_is); (case k_has_room => k_is)
    refine' Dd.def_step (x := "load") (st := Dd.s_load) (ps := ["desk", "parts", "pairs"]) KX G (fun _ _ _ _ _ _ us hl => match us, hl with | [_, _, _], _ => rfl) ?a_load ?l_load ?c_load ?k_load (fun f_load m_load => ?_)
    (case a_load => k_is); (case l_load => k_is); (case c_load => k_is); (case k_load => k_is)
    refine' Dd.def_step (x := "put") (st := Dd.s_put) (ps := ["desk", "address", "word"]) KX G (fun _ _ _ _ _ _ us hl => match us, hl with | [_, _, _], _ => rfl) ?a_put ?l_put ?c_put ?k_put (fun f_put m_put => ?_)
    (case a_put => k_is); (case l_put => k_is); (case c_put => k_is); (case k_put => k_is)
    refine' Dd.def_step (x := "stop") (st := Dd.s_stop) (ps := ["desk", "address", "on"]) KX G (fun _ _ _ _ _ _ us hl => match us, hl with | [_, _, _], _ => rfl) ?a_stop ?l_stop ?c_stop ?k_stop (fun f_stop m_stop => ?_)
    (case a_stop => k_is); (case l_stop => k_is); (case c_stop => k_is); (case k_stop => k_is)
    refine' Dd.def_step (x := "are_words") (st := Dd.s_are_words) (ps := ["numbers"]) KX G (fun _ _ _ _ _ _ us hl => match us, hl with | [_], _ => rfl) ?a_are_words ?l_are_words ?c_are_words ?k_are_words (fun f_are_words m_are_words => ?_)
    (case a_are_words => k_is); (case l_are_words => k_is); (case c_are_words => k_is); (case k_are_words => k_is)
    refine' Dd.def_step (x := "are_cards") (st := Dd.s_are_cards) (ps := ["words"]) KX G (fun _ _ _ _ _ _ us hl => match us, hl with | [_], _ => rfl) ?a_are_cards ?l_are_cards ?c_are_cards ?k_are_cards (fun f_are_cards m_are_cards => ?_)
    (case a_are_cards => k_is); (case l_are_cards => k_is); (case c_are_cards => k_is); (case k_are_cards => k_is)
    refine' Dd.def_step (x := "cards_of") (st := Dd.s_cards_of) (ps := ["words"]) KX G (fun _ _ _ _ _ _ us hl => match us, hl with | [_], _ => rfl) ?a_cards_of ?l_cards_of ?c_cards_of ?k_cards_of (fun f_cards_of m_cards_of => ?_)
    (case a_cards_of => k_is); (case l_cards_of => k_is); (case c_cards_of => k_is); (case k_cards_of => k_is)
    refine' Dd.def_step (x := "hand") (st := Dd.s_hand) (ps := ["desk", "words"]) KX G (fun _ _ _ _ _ _ us hl => match us, hl with | [_, _], _ => rfl) ?a_hand ?l_hand ?c_hand ?k_hand (fun f_hand m_hand => ?_)
    (case a_hand => k_is); (case l_hand => k_is); (case c_hand => k_is); (case k_hand => k_is)
    refine' Dd.def_step (x := "run") (st := Dd.s_run) (ps := ["desk", "orders", "until", "pause"]) KX G (fun _ _ _ _ _ _ us hl => match us, hl with | [_, _, _, _], _ => rfl) ?a_run ?l_run ?c_run ?k_run (fun f_run m_run => ?_)
    (case a_run => k_is); (case l_run => k_is); (case c_run => k_is); (case k_run => k_is)
    refine' Dd.def_step (x := "note_run") (st := Dd.s_note_run) (ps := ["desk", "this_run"]) KX G (fun _ _ _ _ _ _ us hl => match us, hl with | [_, _], _ => rfl) ?a_note_run ?l_note_run ?c_note_run ?k_note_run (fun f_note_run m_note_run => ?_)
    (case a_note_run => k_is); (case l_note_run => k_is); (case c_note_run => k_is); (case k_note_run => k_is)
    refine' Dd.def_step (x := "told") (st := Dd.s_told) (ps := ["desk"]) KX G (fun _ _ _ _ _ _ us hl => match us, hl with | [_], _ => rfl) ?a_told ?l_told ?c_told ?k_told (fun f_told m_told => ?_)
    (case a_told => k_is); (case l_told => k_is); (case c_told => k_is); (case k_told => k_is)
    refine' Dd.def_step (x := "peek") (st := Dd.s_peek) (ps := ["desk", "address"]) KX G (fun _ _ _ _ _ _ us hl => match us, hl with | [_, _], _ => rfl) ?a_peek ?l_peek ?c_peek ?k_peek (fun f_peek m_peek => ?_)
    (case a_peek => k_is); (case l_peek => k_is); (case c_peek => k_is); (case k_peek => k_is)
    refine' Dd.def_step (x := "tray") (st := Dd.s_tray) (ps := ["desk"]) KX G (fun _ _ _ _ _ _ us hl => match us, hl with | [_], _ => rfl) ?a_tray ?l_tray ?c_tray ?k_tray (fun f_tray m_tray => ?_)
    (case a_tray => k_is); (case l_tray => k_is); (case c_tray => k_is); (case k_tray => k_is)
    refine' Dd.def_step (x := "journal") (st := Dd.s_journal) (ps := ["desk"]) KX G (fun _ _ _ _ _ _ us hl => match us, hl with | [_], _ => rfl) ?a_journal ?l_journal ?c_journal ?k_journal (fun f_journal m_journal => ?_)
    (case a_journal => k_is); (case l_journal => k_is); (case c_journal => k_is); (case k_journal => k_is)
    refine' Dd.def_step (x := "pairs_end") (st := Dd.s_pairs_end) (ps := ["numbers"]) KX G (fun _ _ _ _ _ _ us hl => match us, hl with | [_], _ => rfl) ?a_pairs_end ?l_pairs_end ?c_pairs_end ?k_pairs_end (fun f_pairs_end m_pairs_end => ?_)
    (case a_pairs_end => k_is); (case l_pairs_end => k_is); (case c_pairs_end => k_is); (case k_pairs_end => k_is)
    refine' Dd.def_step (x := "has_head") (st := Dd.s_has_head) (ps := ["numbers"]) KX G (fun _ _ _ _ _ _ us hl => match us, hl with | [_], _ => rfl) ?a_has_head ?l_has_head ?c_has_head ?k_has_head (fun f_has_head m_has_head => ?_)
    (case a_has_head => k_is); (case l_has_head => k_is); (case c_has_head => k_is); (case k_has_head => k_is)
    refine' Dd.def_step (x := "fault_of_machine") (st := Dd.s_fault_of_machine) (ps := ["numbers"]) KX G (fun _ _ _ _ _ _ us hl => match us, hl with | [_], _ => rfl) ?a_fault_of_machine ?l_fault_of_machine ?c_fault_of_machine ?k_fault_of_machine (fun f_fault_of_machine m_fault_of_machine => ?_)
    (case a_fault_of_machine => k_is); (case l_fault_of_machine => k_is); (case c_fault_of_machine => k_is); (case k_fault_of_machine => k_is)
    refine' Dd.def_step (x := "has_three") (st := Dd.s_has_three) (ps := ["numbers", "at"]) KX G (fun _ _ _ _ _ _ us hl => match us, hl with | [_, _], _ => rfl) ?a_has_three ?l_has_three ?c_has_three ?k_has_three (fun f_has_three m_has_three => ?_)
    (case a_has_three => k_is); (case l_has_three => k_is); (case c_has_three => k_is); (case k_has_three => k_is)
    refine' Dd.def_step (x := "begins_wrong") (st := Dd.s_begins_wrong) (ps := ["numbers", "at"]) KX G (fun _ _ _ _ _ _ us hl => match us, hl with | [_, _], _ => rfl) ?a_begins_wrong ?l_begins_wrong ?c_begins_wrong ?k_begins_wrong (fun f_begins_wrong m_begins_wrong => ?_)
    (case a_begins_wrong => k_is); (case l_begins_wrong => k_is); (case c_begins_wrong => k_is); (case k_begins_wrong => k_is)
    refine' Dd.def_step (x := "entry_end") (st := Dd.s_entry_end) (ps := ["numbers", "at"]) KX G (fun _ _ _ _ _ _ us hl => match us, hl with | [_, _], _ => rfl) ?a_entry_end ?l_entry_end ?c_entry_end ?k_entry_end (fun f_entry_end m_entry_end => ?_)
    (case a_entry_end => k_is); (case l_entry_end => k_is); (case c_entry_end => k_is); (case k_entry_end => k_is)
    refine' Dd.def_step (x := "play_run") (st := Dd.s_play_run) (ps := ["desk", "orders", "words"]) KX G (fun _ _ _ _ _ _ us hl => match us, hl with | [_, _, _], _ => rfl) ?a_play_run ?l_play_run ?c_play_run ?k_play_run (fun f_play_run m_play_run => ?_)
    (case a_play_run => k_is); (case l_play_run => k_is); (case c_play_run => k_is); (case k_play_run => k_is)
    refine' Dd.def_step (x := "play_entry") (st := Dd.s_play_entry) (ps := ["desk", "entry"]) KX G (fun _ _ _ _ _ _ us hl => match us, hl with | [_, _], _ => rfl) ?a_play_entry ?l_play_entry ?c_play_entry ?k_play_entry (fun f_play_entry m_play_entry => ?_)
    (case a_play_entry => k_is); (case l_play_entry => k_is); (case c_play_entry => k_is); (case k_play_entry => k_is)
    refine' Dd.def_step (x := "fault") (st := Dd.s_fault) (ps := ["kind", "place"]) KX G (fun _ _ _ _ _ _ us hl => match us, hl with | [_, _], _ => rfl) ?a_fault ?l_fault ?c_fault ?k_fault (fun f_fault m_fault => ?_)
    (case a_fault => k_is); (case l_fault => k_is); (case c_fault => k_is); (case k_fault => k_is)
    refine' Dd.def_step (x := "play") (st := Dd.s_play) (ps := ["desk", "numbers"]) KX G (fun _ _ _ _ _ _ us hl => match us, hl with | [_, _], _ => rfl) ?a_play ?l_play ?c_play ?k_play (fun f_play m_play => ?_)
    (case a_play => k_is); (case l_play => k_is); (case c_play => k_is); (case k_play => k_is)
    refine' Dd.def_step (x := "take_over") (st := Dd.s_take_over) (ps := ["desk", "played"]) KX G (fun _ _ _ _ _ _ us hl => match us, hl with | [_, _], _ => rfl) ?a_take_over ?l_take_over ?c_take_over ?k_take_over (fun f_take_over m_take_over => ?_)
    (case a_take_over => k_is); (case l_take_over => k_is); (case c_take_over => k_is); (case k_take_over => k_is)
    refine' Dd.def_step (x := "answer") (st := Dd.s_answer) (ps := ["desk", "call", "numbers", "row"]) KX G (fun _ _ _ _ _ _ us hl => match us, hl with | [_, _, _, _], _ => rfl) ?a_answer ?l_answer ?c_answer ?k_answer (fun f_answer m_answer => ?_)
    (case a_answer => k_is); (case l_answer => k_is); (case c_answer => k_is); (case k_answer => k_is)
    refine' Dd.def_step (x := "answer_without_row") (st := Dd.s_answer_without_row) (ps := ["desk", "call", "numbers"]) KX G (fun _ _ _ _ _ _ us hl => match us, hl with | [_, _, _], _ => rfl) ?a_answer_without_row ?l_answer_without_row ?c_answer_without_row ?k_answer_without_row (fun f_answer_without_row m_answer_without_row => ?_)
    (case a_answer_without_row => k_is); (case l_answer_without_row => k_is); (case c_answer_without_row => k_is); (case k_answer_without_row => k_is)
    refine' Dd.def_step (x := "answers") (st := Dd.s_answers) (ps := ["calls"]) KX G (fun _ _ _ _ _ _ us hl => match us, hl with | [_], _ => rfl) ?a_answers ?l_answers ?c_answers ?k_answers (fun f_answers m_answers => ?_)
    (case a_answers => k_is); (case l_answers => k_is); (case c_answers => k_is); (case k_answers => k_is)
    refine' Dd.cls_step (x := "Machine") (qual := "Machine.__init__") (st := Dd.s_Machine_init) (ps := ["self", "parts", "pairs"]) (fields := ["state", "over", "order_at", "tick", "a", "d", "drum", "hopper", "tray"]) KX G (fun _ _ _ _ _ _ us hl => match us, hl with | [_, _, _], _ => rfl) ?aC_Machine ?a_Machine ?i_Machine ?l_Machine ?c_Machine ?k_Machine ?pg_Machine ?hd_Machine ?po_Machine ?sa_Machine ?mk_Machine ?kc_Machine (Dd.na_cons ?n_Machine_state (Dd.na_cons ?n_Machine_over (Dd.na_cons ?n_Machine_order_at (Dd.na_cons ?n_Machine_tick (Dd.na_cons ?n_Machine_a (Dd.na_cons ?n_Machine_d (Dd.na_cons ?n_Machine_drum (Dd.na_cons ?n_Machine_hopper (Dd.na_cons ?n_Machine_tray Dd.na_nil))))))))) (fun k_Machine => ?_)
    (case aC_Machine => k_is); (case a_Machine => k_is); (case i_Machine => k_is); (case l_Machine => k_is); (case c_Machine => k_is); (case k_Machine => k_is); (case pg_Machine => k_is); (case hd_Machine => k_is); (case po_Machine => k_is); (case sa_Machine => k_is); (case mk_Machine => k_is); (case kc_Machine => k_is); (case n_Machine_state => k_is); (case n_Machine_over => k_is); (case n_Machine_order_at => k_is); (case n_Machine_tick => k_is); (case n_Machine_a => k_is); (case n_Machine_d => k_is); (case n_Machine_drum => k_is); (case n_Machine_hopper => k_is); (case n_Machine_tray => k_is)
    refine' Dd.cls_step (x := "Run") (qual := "Run.__init__") (st := Dd.s_Run_init) (ps := ["self", "machine", "stops"]) (fields := ["machine", "stops", "begun", "hopper_before", "tray_before"]) KX G (fun _ _ _ _ _ _ us hl => match us, hl with | [_, _, _], _ => rfl) ?aC_Run ?a_Run ?i_Run ?l_Run ?c_Run ?k_Run ?pg_Run ?hd_Run ?po_Run ?sa_Run ?mk_Run ?kc_Run (Dd.na_cons ?n_Run_machine (Dd.na_cons ?n_Run_stops (Dd.na_cons ?n_Run_begun (Dd.na_cons ?n_Run_hopper_before (Dd.na_cons ?n_Run_tray_before Dd.na_nil))))) (fun k_Run => ?_)
    (case aC_Run => k_is); (case a_Run => k_is); (case i_Run => k_is); (case l_Run => k_is); (case c_Run => k_is); (case k_Run => k_is); (case pg_Run => k_is); (case hd_Run => k_is); (case po_Run => k_is); (case sa_Run => k_is); (case mk_Run => k_is); (case kc_Run => k_is); (case n_Run_machine => k_is); (case n_Run_stops => k_is); (case n_Run_begun => k_is); (case n_Run_hopper_before => k_is); (case n_Run_tray_before => k_is)
    refine' Dd.cls_step (x := "Desk") (qual := "Desk.__init__") (st := Dd.s_Desk_init) (ps := ["self"]) (fields := ["machine", "stops", "journal"]) KX G (fun _ _ _ _ _ _ us hl => match us, hl with | [_], _ => rfl) ?aC_Desk ?a_Desk ?i_Desk ?l_Desk ?c_Desk ?k_Desk ?pg_Desk ?hd_Desk ?po_Desk ?sa_Desk ?mk_Desk ?kc_Desk (Dd.na_cons ?n_Desk_machine (Dd.na_cons ?n_Desk_stops (Dd.na_cons ?n_Desk_journal Dd.na_nil))) (fun k_Desk => ?_)
    (case aC_Desk => k_is); (case a_Desk => k_is); (case i_Desk => k_is); (case l_Desk => k_is); (case c_Desk => k_is); (case k_Desk => k_is); (case pg_Desk => k_is); (case hd_Desk => k_is); (case po_Desk => k_is); (case sa_Desk => k_is); (case mk_Desk => k_is); (case kc_Desk => k_is); (case n_Desk_machine => k_is); (case n_Desk_stops => k_is); (case n_Desk_journal => k_is)
    refine' Dd.int_step (x := "WORD_MOST") (i := 9999999999) KX G ?a_WORD_MOST (fun c_WORD_MOST => ?_)
    (case a_WORD_MOST => k_is)
    refine' Dd.int_step (x := "LONG_MOST") (i := 99999999999999999999) KX G ?a_LONG_MOST (fun c_LONG_MOST => ?_)
    (case a_LONG_MOST => k_is)
    refine' Dd.int_step (x := "WORD_SIZE") (i := 10000000000) KX G ?a_WORD_SIZE (fun c_WORD_SIZE => ?_)
    (case a_WORD_SIZE => k_is)
    refine' Dd.int_step (x := "LONG_SIZE") (i := 100000000000000000000) KX G ?a_LONG_SIZE (fun c_LONG_SIZE => ?_)
    (case a_LONG_SIZE => k_is)
    refine' Dd.int_step (x := "DRUM_SIZE") (i := 2000) KX G ?a_DRUM_SIZE (fun c_DRUM_SIZE => ?_)
    (case a_DRUM_SIZE => k_is)
    refine' Dd.int_step (x := "BAND_SIZE") (i := 40) KX G ?a_BAND_SIZE (fun c_BAND_SIZE => ?_)
    (case a_BAND_SIZE => k_is)
    refine' Dd.int_step (x := "CARD_SIZE") (i := 8) KX G ?a_CARD_SIZE (fun c_CARD_SIZE => ?_)
    (case a_CARD_SIZE => k_is)
    refine' Dd.int_step (x := "TICKS") (i := 18446744073709551616) KX G ?a_TICKS (fun c_TICKS => ?_)
    (case a_TICKS => k_is)
    refine' Dd.int_step (x := "HALT") (i := 0) KX G ?a_HALT (fun c_HALT => ?_)
    (case a_HALT => k_is)
    refine' Dd.int_step (x := "NOTHING") (i := 1) KX G ?a_NOTHING (fun c_NOTHING => ?_)
    (case a_NOTHING => k_is)
    refine' Dd.int_step (x := "SHIFT_FIRST") (i := 40) KX G ?a_SHIFT_FIRST (fun c_SHIFT_FIRST => ?_)
    (case a_SHIFT_FIRST => k_is)
    refine' Dd.int_step (x := "SCALE") (i := 43) KX G ?a_SCALE (fun c_SCALE => ?_)
    (case a_SCALE => k_is)
    refine' Dd.int_step (x := "READ") (i := 70) KX G ?a_READ (fun c_READ => ?_)
    (case a_READ => k_is)
    refine' Dd.int_step (x := "PUNCH") (i := 71) KX G ?a_PUNCH (fun c_PUNCH => ?_)
    (case a_PUNCH => k_is)
    refine' Dd.int_step (x := "MOST_SHIFT") (i := 20) KX G ?a_MOST_SHIFT (fun c_MOST_SHIFT => ?_)
    (case a_MOST_SHIFT => k_is)
    refine' Dd.int_step (x := "TRAY_MOST") (i := 64) KX G ?a_TRAY_MOST (fun c_TRAY_MOST => ?_)
    (case a_TRAY_MOST => k_is)
    refine' Dd.int_step (x := "STOPPED") (i := 0) KX G ?a_STOPPED (fun c_STOPPED => ?_)
    (case a_STOPPED => k_is)
    refine' Dd.int_step (x := "ALL_BEGUN") (i := 1) KX G ?a_ALL_BEGUN (fun c_ALL_BEGUN => ?_)
    (case a_ALL_BEGUN => k_is)
    refine' Dd.int_step (x := "TICK_MET") (i := 2) KX G ?a_TICK_MET (fun c_TICK_MET => ?_)
    (case a_TICK_MET => k_is)
    refine' Dd.int_step (x := "STOP_MET") (i := 3) KX G ?a_STOP_MET (fun c_STOP_MET => ?_)
    (case a_STOP_MET => k_is)
    refine' Dd.int_step (x := "PAUSED") (i := 4) KX G ?a_PAUSED (fun c_PAUSED => ?_)
    (case a_PAUSED => k_is)
    refine' Dd.int_step (x := "TRAY_FULL") (i := 5) KX G ?a_TRAY_FULL (fun c_TRAY_FULL => ?_)
    (case a_TRAY_FULL => k_is)
    refine' Dd.int_step (x := "WRONG") (i := (-1)) KX G ?a_WRONG (fun c_WRONG => ?_)
    (case a_WRONG => k_is)
    refine' Dd.int_step (x := "WRONG_FORM") (i := (-6)) KX G ?a_WRONG_FORM (fun c_WRONG_FORM => ?_)
    (case a_WRONG_FORM => k_is)
    refine' Dd.int_step (x := "TOO_MANY") (i := (-9)) KX G ?a_TOO_MANY (fun c_TOO_MANY => ?_)
    (case a_TOO_MANY => k_is)
    refine' Dd.int_step (x := "JOURNAL_FULL") (i := (-7)) KX G ?a_JOURNAL_FULL (fun c_JOURNAL_FULL => ?_)
    (case a_JOURNAL_FULL => k_is)
    refine' Dd.int_step (x := "STOPS_MOST") (i := 64) KX G ?a_STOPS_MOST (fun c_STOPS_MOST => ?_)
    (case a_STOPS_MOST => k_is)
    refine' Dd.int_step (x := "HOPPER_MOST") (i := 64) KX G ?a_HOPPER_MOST (fun c_HOPPER_MOST => ?_)
    (case a_HOPPER_MOST => k_is)
    refine' Dd.int_step (x := "HANDED_MOST") (i := 512) KX G ?a_HANDED_MOST (fun c_HANDED_MOST => ?_)
    (case a_HANDED_MOST => k_is)
    refine' Dd.int_step (x := "ORDERS_MOST") (i := 10000) KX G ?a_ORDERS_MOST (fun c_ORDERS_MOST => ?_)
    (case a_ORDERS_MOST => k_is)
    refine' Dd.int_step (x := "PAUSE_MOST") (i := 64) KX G ?a_PAUSE_MOST (fun c_PAUSE_MOST => ?_)
    (case a_PAUSE_MOST => k_is)
    refine' Dd.int_step (x := "JOURNAL_MOST") (i := 20000) KX G ?a_JOURNAL_MOST (fun c_JOURNAL_MOST => ?_)
    (case a_JOURNAL_MOST => k_is)
    refine' Dd.int_step (x := "PUT_ENTRY") (i := 1) KX G ?a_PUT_ENTRY (fun c_PUT_ENTRY => ?_)
    (case a_PUT_ENTRY => k_is)
    refine' Dd.int_step (x := "STOP_ENTRY") (i := 2) KX G ?a_STOP_ENTRY (fun c_STOP_ENTRY => ?_)
    (case a_STOP_ENTRY => k_is)
    refine' Dd.int_step (x := "RUN_ENTRY") (i := 3) KX G ?a_RUN_ENTRY (fun c_RUN_ENTRY => ?_)
    (case a_RUN_ENTRY => k_is)
    refine' Dd.int_step (x := "PARTS_SIZE") (i := 6) KX G ?a_PARTS_SIZE (fun c_PARTS_SIZE => ?_)
    (case a_PARTS_SIZE => k_is)
    refine' Dd.int_step (x := "HEAD_SIZE") (i := 7) KX G ?a_HEAD_SIZE (fun c_HEAD_SIZE => ?_)
    (case a_HEAD_SIZE => k_is)
    refine' Dd.int_step (x := "ENTRY_SIZE") (i := 3) KX G ?a_ENTRY_SIZE (fun c_ENTRY_SIZE => ?_)
    (case a_ENTRY_SIZE => k_is)
    refine' Dd.int_step (x := "CARDS_MOST") (i := 10000) KX G ?a_CARDS_MOST (fun c_CARDS_MOST => ?_)
    (case a_CARDS_MOST => k_is)
    refine' Dd.int_step (x := "NO_FAULT") (i := 0) KX G ?a_NO_FAULT (fun c_NO_FAULT => ?_)
    (case a_NO_FAULT => k_is)
    refine' Dd.int_step (x := "NO_HEAD") (i := 1) KX G ?a_NO_HEAD (fun c_NO_HEAD => ?_)
    (case a_NO_HEAD => k_is)
    refine' Dd.int_step (x := "NOT_LOADED") (i := 2) KX G ?a_NOT_LOADED (fun c_NOT_LOADED => ?_)
    (case a_NOT_LOADED => k_is)
    refine' Dd.int_step (x := "WRONG_ENTRY") (i := 3) KX G ?a_WRONG_ENTRY (fun c_WRONG_ENTRY => ?_)
    (case a_WRONG_ENTRY => k_is)
    refine' Dd.int_step (x := "LOAD") (i := 1) KX G ?a_LOAD (fun c_LOAD => ?_)
    (case a_LOAD => k_is)
    refine' Dd.int_step (x := "PUT") (i := 2) KX G ?a_PUT (fun c_PUT => ?_)
    (case a_PUT => k_is)
    refine' Dd.int_step (x := "STOP") (i := 3) KX G ?a_STOP (fun c_STOP => ?_)
    (case a_STOP => k_is)
    refine' Dd.int_step (x := "HAND") (i := 4) KX G ?a_HAND (fun c_HAND => ?_)
    (case a_HAND => k_is)
    refine' Dd.int_step (x := "RUN") (i := 5) KX G ?a_RUN (fun c_RUN => ?_)
    (case a_RUN => k_is)
    refine' Dd.int_step (x := "TOLD") (i := 6) KX G ?a_TOLD (fun c_TOLD => ?_)
    (case a_TOLD => k_is)
    refine' Dd.int_step (x := "PEEK") (i := 7) KX G ?a_PEEK (fun c_PEEK => ?_)
    (case a_PEEK => k_is)
    refine' Dd.int_step (x := "TRAY") (i := 8) KX G ?a_TRAY (fun c_TRAY => ?_)
    (case a_TRAY => k_is)
    refine' Dd.int_step (x := "PLAY") (i := 10) KX G ?a_PLAY (fun c_PLAY => ?_)
    (case a_PLAY => k_is)
    refine' Dd.int_step (x := "NO_MACHINE") (i := (-3)) KX G ?a_NO_MACHINE (fun c_NO_MACHINE => ?_)
    (case a_NO_MACHINE => k_is)
    refine' Dd.dict_step (P := PySem.Challenge.pw_drumdesk_s01_answers) (w := w) (x := "ORDERS") KX G ?a_ORDERS ?l_ORDERS ?hi_ORDERS ?hn_ORDERS (fun m_ORDERS d_ORDERS => ?_)
    (case a_ORDERS => k_is); (case l_ORDERS => k_is)
    (case hi_ORDERS => with_unfolding_all rfl); (case hn_ORDERS => with_unfolding_all rfl)
    refine' Dd.dict_step (P := PySem.Challenge.pw_drumdesk_s01_answers) (w := w) (x := "WHOLE_NUMBERS") KX G ?a_WHOLE_NUMBERS ?l_WHOLE_NUMBERS ?hi_WHOLE_NUMBERS ?hn_WHOLE_NUMBERS (fun m_WHOLE_NUMBERS d_WHOLE_NUMBERS => ?_)
    (case a_WHOLE_NUMBERS => k_is); (case l_WHOLE_NUMBERS => k_is)
    (case hi_WHOLE_NUMBERS => with_unfolding_all rfl); (case hn_WHOLE_NUMBERS => with_unfolding_all rfl)
    refine' Dd.tup_step (x := "WITH_ROW") (xs := [.int 1, .int 4, .int 10]) KX G ?a_WITH_ROW ?l_WITH_ROW ?hc_WITH_ROW ?hd_WITH_ROW ?hz_WITH_ROW ?hv_WITH_ROW (fun m_WITH_ROW t_WITH_ROW => ?_)
    (case a_WITH_ROW => k_is); (case l_WITH_ROW => k_is)
    (case hc_WITH_ROW => exact rfl); (case hd_WITH_ROW => exact rfl); (case hz_WITH_ROW => exact (by decide)); (case hv_WITH_ROW => exact (.cons ⟨_, rfl⟩ (.cons ⟨_, rfl⟩ (.cons ⟨_, rfl⟩ .nil))))
    refine' Dd.blt_step (x := "abs") KX G ?a_abs (fun b_abs => ?_)
    (case a_abs => k_is)
    refine' Dd.blt_step (x := "all") KX G ?a_all (fun b_all => ?_)
    (case a_all => k_is)
    refine' Dd.blt_step (x := "enumerate") KX G ?a_enumerate (fun b_enumerate => ?_)
    (case a_enumerate => k_is)
    refine' Dd.blt_step (x := "int") KX G ?a_int (fun b_int => ?_)
    (case a_int => k_is)
    refine' Dd.blt_step (x := "len") KX G ?a_len (fun b_len => ?_)
    (case a_len => k_is)
    refine' Dd.blt_step (x := "list") KX G ?a_list (fun b_list => ?_)
    (case a_list => k_is)
    refine' Dd.blt_step (x := "range") KX G ?a_range (fun b_range => ?_)
    (case a_range => k_is)
    refine' Dd.blt_step (x := "str") KX G ?a_str (fun b_str => ?_)
    (case a_str => k_is)
    refine' Dd.blt_step (x := "sum") KX G ?a_sum (fun b_sum => ?_)
    (case a_sum => k_is)
    refine' Dd.blt_step (x := "zip") KX G ?a_zip (fun b_zip => ?_)
    (case a_zip => k_is)
    exact HF _ _ _ _ ⟨_, _, _, _, _, _, _, _⟩ _ ⟨f_is_word, f_is_long, f_with_sign_of, f_upper_word, f_lower_word, f_lower_twenty, f_quotient_toward_zero, f_quotient_to_nearest, f_digit_sum, f_power_of_ten, f_drum_of, f_is_address, f_is_tick, f_are_parts, f_are_pairs, f_first_tick_at, f_band_start, f_around_band, f_words_around, f_code_of, f_data_address, f_next_address, f_keep_in_a, f_do_nothing, f_load_a, f_load_negated, f_add, f_subtract, f_add_without_sign, f_subtract_without_sign, f_add_upper, f_subtract_upper, f_multiply, f_divide, f_store_lower, f_store_upper, f_store_d, f_shift_left, f_shift_right, f_shift_right_rounded, f_scale, f_branch_below_zero, f_branch_not_zero, f_branch_over, f_look_up, f_read_card, f_punch_card, f_begins_with_d, f_waits_for_data, f_state_behind, f_is_punching, f_do_order, f_carry_out, f_cards_read, f_punched, f_end_before_order, f_go_on, f_go_through, f_has_room, f_load, f_put, f_stop, f_are_words, f_are_cards, f_cards_of, f_hand, f_run, f_note_run, f_told, f_peek, f_tray, f_journal, f_pairs_end, f_has_head, f_fault_of_machine, f_has_three, f_begins_wrong, f_entry_end, f_play_run, f_play_entry, f_fault, f_play, f_take_over, f_answer, f_answer_without_row, f_answers, k_Machine, k_Run, k_Desk, c_WORD_MOST, c_LONG_MOST, c_WORD_SIZE, c_LONG_SIZE, c_DRUM_SIZE, c_BAND_SIZE, c_CARD_SIZE, c_TICKS, c_HALT, c_NOTHING, c_SHIFT_FIRST, c_SCALE, c_READ, c_PUNCH, c_MOST_SHIFT, c_TRAY_MOST, c_STOPPED, c_ALL_BEGUN, c_TICK_MET, c_STOP_MET, c_PAUSED, c_TRAY_FULL, c_WRONG, c_WRONG_FORM, c_TOO_MANY, c_JOURNAL_FULL, c_STOPS_MOST, c_HOPPER_MOST, c_HANDED_MOST, c_ORDERS_MOST, c_PAUSE_MOST, c_JOURNAL_MOST, c_PUT_ENTRY, c_STOP_ENTRY, c_RUN_ENTRY, c_PARTS_SIZE, c_HEAD_SIZE, c_ENTRY_SIZE, c_CARDS_MOST, c_NO_FAULT, c_NO_HEAD, c_NOT_LOADED, c_WRONG_ENTRY, c_LOAD, c_PUT, c_STOP, c_HAND, c_RUN, c_TOLD, c_PEEK, c_TRAY, c_PLAY, c_NO_MACHINE, m_ORDERS, d_ORDERS, ⟨_, (by with_unfolding_all rfl), m_do_nothing⟩, ⟨_, (by with_unfolding_all rfl), m_load_a⟩, ⟨_, (by with_unfolding_all rfl), m_load_negated⟩, ⟨_, (by with_unfolding_all rfl), m_add⟩, ⟨_, (by with_unfolding_all rfl), m_subtract⟩, ⟨_, (by with_unfolding_all rfl), m_add_without_sign⟩, ⟨_, (by with_unfolding_all rfl), m_subtract_without_sign⟩, ⟨_, (by with_unfolding_all rfl), m_add_upper⟩, ⟨_, (by with_unfolding_all rfl), m_subtract_upper⟩, ⟨_, (by with_unfolding_all rfl), m_do_nothing⟩, ⟨_, (by with_unfolding_all rfl), m_multiply⟩, ⟨_, (by with_unfolding_all rfl), m_divide⟩, ⟨_, (by with_unfolding_all rfl), m_store_lower⟩, ⟨_, (by with_unfolding_all rfl), m_store_upper⟩, ⟨_, (by with_unfolding_all rfl), m_store_d⟩, ⟨_, (by with_unfolding_all rfl), m_shift_left⟩, ⟨_, (by with_unfolding_all rfl), m_shift_right⟩, ⟨_, (by with_unfolding_all rfl), m_shift_right_rounded⟩, ⟨_, (by with_unfolding_all rfl), m_scale⟩, ⟨_, (by with_unfolding_all rfl), m_branch_below_zero⟩, ⟨_, (by with_unfolding_all rfl), m_branch_not_zero⟩, ⟨_, (by with_unfolding_all rfl), m_branch_over⟩, ⟨_, (by with_unfolding_all rfl), m_look_up⟩, ⟨_, (by with_unfolding_all rfl), m_read_card⟩, ⟨_, (by with_unfolding_all rfl), m_punch_card⟩, (Dd.find_not (by with_unfolding_all rfl)), m_WHOLE_NUMBERS, d_WHOLE_NUMBERS, ⟨_, (by with_unfolding_all rfl)⟩, ⟨_, (by with_unfolding_all rfl)⟩, ⟨_, (by with_unfolding_all rfl)⟩, ⟨_, (by with_unfolding_all rfl)⟩, ⟨_, (by with_unfolding_all rfl)⟩, ⟨_, (by with_unfolding_all rfl)⟩, ⟨_, (by with_unfolding_all rfl)⟩, ⟨_, (by with_unfolding_all rfl)⟩, ⟨_, (by with_unfolding_all rfl)⟩, ⟨_, (by with_unfolding_all rfl)⟩, m_WITH_ROW, t_WITH_ROW, b_abs, b_all, b_enumerate, b_int, b_len, b_list, b_range, b_str, b_sum, b_zip⟩ hmg
  case S =>
    intro K H xs a hO hwi hask hx
    cases hx with
    | cons h1 h2 =>
      cases h2
      cases h1 with
      | lst hs ha =>
        have e := L2.ints_dw a.1 _ ha
        subst e
        have q : ((Codec.inLen 0 15000 a.1 && a.1.all (Codec.inInt (-100000000000000000000) 100000000000000000000)) && true) = true := hwi
        rw [Bool.and_eq_true, Bool.and_eq_true] at q
        exact ⟨_, a.1, rfl, hs, (Codec.inNat_iff.mp q.1.1).2, hask, fun H' p hp => .lst (L2.SqL.of hp) (L2.dw_ints _)⟩

end
local macro_rules
  | `(tactic| simp_arith [$xs,*] $[$l:location]?) => `(tactic| ((try simp only [L2.start, L2.cxOf, List.map_cons, List.map_nil, List.length_cons, List.length_nil, List.replicate, List.append_nil, List.cons_append, List.nil_append] $[$l:location]?); simp only [↓Dd.tVar_0, ↓Dd.tVar_s, ↓Dd.gName_0, ↓Dd.gName_s, ↓Dd.rI_i, ↓Dd.rI0_i, ↓Dd.ex_b, ↓Dd.ex_i, ↓Dd.kS_c, ↓Dd.kS_s, ↓Dd.lS_s, ↓Dd.fS_c, ↓Dd.fS_i, ↓Dd.gS_c, ↓Dd.gS_i, ↓Dd.rIxH_i, ↓Dd.rLenH_i, ↓Dd.tCall_n, ↓Dd.rEq_i, ↓Dd.rNe_i, Dd.kS, Dd.lS, Dd.fS, Dd.gS, L2.start, L2.tSeq, L2.tNext, L2.tRet, L2.tRetN, L2.tIfS, L2.tAsg, L2.gName, L2.tVar, L2.tC, L2.tOp, L2.tUn, L2.tTest, L2.tChain, L2.tAnd, L2.tOr, L2.tNot, L2.tAndV, L2.tOrV, L2.tNotV, L2.tIf, L2.tB, L2.tCall, L2.tCons, L2.tNil, L2.tCB, L2.tDrop, L2.rI, L2.rI0, L2.rU, L2.rEq, L2.rNe, L2.scal, List.map_cons, List.map_nil, List.length_cons, List.length_nil, List.replicate, List.append_nil, List.nil_append, List.cons_append, List.getElem?_cons_zero, List.getElem?_cons_succ, List.set_cons_zero, List.set_cons_succ, Option.some.injEq, L2.V.int.injEq, L2.V.bl.injEq, L2.V.ref.injEq, L2.V.str.injEq, exists_eq_left, exists_eq_left', exists_eq_right, exists_eq_right', exists_and_left, exists_and_right, and_true, true_and, List.cons.injEq, and_self, and_assoc, Bool.false_eq_true, if_false, if_true, ite_true, ite_false, L2.cxOf, L2.rIxH, L2.rLenH, L2.atI_0, L2.atI_1, L2.atI_2, L2.atI_3, L2.atI_4, L2.atI_5, L2.atI_6, L2.tFld, L2.sFld, L2.tBML, L2.upd_same, L2.upd_upd, L2.HO.lst.injEq, L2.HO.ins.injEq, L2.tLst, L2.tSl, L2.tNoPart, L2.tPart, L2.rSlH, L2.gSub, L2.rSetL, L2.sFldAug, L2.rAdd, L2.rSub, L2.rAppend, L2.rExtend, L2.rPopAt, L2.rListOfH, L2.rSumH, L2.rAllH, L2.rCat, $xs,*] $[$l:location]?))
  | `(tactic| simp_arith $[$l:location]?) => `(tactic| ((try simp only [L2.start, L2.cxOf, List.map_cons, List.map_nil, List.length_cons, List.length_nil, List.replicate, List.append_nil, List.cons_append, List.nil_append] $[$l:location]?); simp only [↓Dd.tVar_0, ↓Dd.tVar_s, ↓Dd.gName_0, ↓Dd.gName_s, ↓Dd.rI_i, ↓Dd.rI0_i, ↓Dd.ex_b, ↓Dd.ex_i, ↓Dd.kS_c, ↓Dd.kS_s, ↓Dd.lS_s, ↓Dd.fS_c, ↓Dd.fS_i, ↓Dd.gS_c, ↓Dd.gS_i, ↓Dd.rIxH_i, ↓Dd.rLenH_i, ↓Dd.tCall_n, ↓Dd.rEq_i, ↓Dd.rNe_i, Dd.kS, Dd.lS, Dd.fS, Dd.gS, L2.start, L2.tSeq, L2.tNext, L2.tRet, L2.tRetN, L2.tIfS, L2.tAsg, L2.gName, L2.tVar, L2.tC, L2.tOp, L2.tUn, L2.tTest, L2.tChain, L2.tAnd, L2.tOr, L2.tNot, L2.tAndV, L2.tOrV, L2.tNotV, L2.tIf, L2.tB, L2.tCall, L2.tCons, L2.tNil, L2.tCB, L2.tDrop, L2.rI, L2.rI0, L2.rU, L2.rEq, L2.rNe, L2.scal, List.map_cons, List.map_nil, List.length_cons, List.length_nil, List.replicate, List.append_nil, List.nil_append, List.cons_append, List.getElem?_cons_zero, List.getElem?_cons_succ, List.set_cons_zero, List.set_cons_succ, Option.some.injEq, L2.V.int.injEq, L2.V.bl.injEq, L2.V.ref.injEq, L2.V.str.injEq, exists_eq_left, exists_eq_left', exists_eq_right, exists_eq_right', exists_and_left, exists_and_right, and_true, true_and, List.cons.injEq, and_self, and_assoc, Bool.false_eq_true, if_false, if_true, ite_true, ite_false, L2.cxOf, L2.rIxH, L2.rLenH, L2.atI_0, L2.atI_1, L2.atI_2, L2.atI_3, L2.atI_4, L2.atI_5, L2.atI_6, L2.tFld, L2.sFld, L2.tBML, L2.upd_same, L2.upd_upd, L2.HO.lst.injEq, L2.HO.ins.injEq, L2.tLst, L2.tSl, L2.tNoPart, L2.tPart, L2.rSlH, L2.gSub, L2.rSetL, L2.sFldAug, L2.rAdd, L2.rSub, L2.rAppend, L2.rExtend, L2.rPopAt, L2.rListOfH, L2.rSumH, L2.rAllH, L2.rCat] $[$l:location]?))

namespace Dd
open PySem PySem.Spec PyProof.Rows L2 TL
def sp1 (C : Int → Prop) (f : Int → V) : Sp := fun vs H Q _ => ∃ n : Int, vs = [.int n] ∧ C n ∧ Q (f n) H
def sp2 (C : Int → Int → Prop) (f : Int → Int → V) : Sp := fun vs H Q _ => ∃ n m : Int, vs = [.int n, .int m] ∧ C n m ∧ Q (f n m) H
def sp1F (C : Int → Prop) (f : Int → V) : Sp := fun vs H Q _ => ∃ n : Int, vs = [.int n] ∧ C n ∧ ∀ H', Same H H' → Q (f n) H'
theorem sp1F_len {C : Int → Prop} {f : Int → V} {vs : List V} {H : Hp} {Q : VK} {E : XK} (h : sp1F C f vs H Q E) : vs.length = 1 := by obtain ⟨n, rfl, _⟩ := h; rfl
theorem same_upd {H : Hp} {D : Addr} {o : HO} (h : H D = none) : Same H (upd H D o) := fun b u e => by rw [upd_ne (ne_of_none e h)]; exact e
theorem take_snoc {α : Type} : ∀ {l : List α} {i : Nat} {x : α}, l[i]? = some x → l.take (i + 1) = l.take i ++ [x]
  | [], i, x, h => by simp at h
  | a :: l, 0, x, h => by
    have e : a = x := Option.some.inj h
    subst e
    rfl
  | a :: l, i + 1, x, h => by
    have ih := take_snoc (l := l) (i := i) (x := x) h
    show a :: l.take (i + 1) = a :: l.take i ++ [x]
    rw [ih]
    rfl
theorem sp1_len {C : Int → Prop} {f : Int → V} {vs : List V} {H : Hp} {Q : VK} {E : XK} (h : sp1 C f vs H Q E) : vs.length = 1 := by obtain ⟨n, rfl, _⟩ := h; rfl
theorem sp2_len {C : Int → Int → Prop} {f : Int → Int → V} {vs : List V} {H : Hp} {Q : VK} {E : XK} (h : sp2 C f vs H Q E) : vs.length = 2 := by obtain ⟨n, m, rfl, _⟩ := h; rfl
theorem isWord_iff (n : Int) : Drum.isWord n = true ↔ -9999999999 ≤ n ∧ n ≤ 9999999999 := by
  unfold Drum.isWord Drum.TEN
  rw [decide_eq_true_iff]
  omega
theorem isLong_iff (n : Int) : Drum.isLong n = true ↔ -99999999999999999999 ≤ n ∧ n ≤ 99999999999999999999 := by
  unfold Drum.isLong Drum.TEN
  rw [decide_eq_true_iff]
  omega
theorem abs_eq (n : Int) : (if n < 0 then -n else n) = (n.natAbs : Int) := by split <;> omega
theorem chain_bl {a b : Prop} [Decidable a] [Decidable b] {Q : V → Prop} {k : Bool} (e : k = true ↔ a ∧ b) (h : Q (.bl k)) : if decide a = true then Q (.bl (decide b)) else Q (.bl false) := by
  by_cases ha : a
  · rw [if_pos (decide_eq_true ha)]
    have : decide b = k := by
      rw [Bool.eq_iff_iff, decide_eq_true_iff, e]
      exact ⟨fun x => ⟨ha, x⟩, fun x => x.2⟩
    rw [this]; exact h
  · rw [if_neg (by rw [decide_eq_true_iff]; exact ha)]
    have : k = false := by
      cases hk : k with
      | false => rfl
      | true => exact absurd (e.mp hk).1 ha
    rw [← this]; exact h
theorem ok_is_word {P : Program} {w : World} {K : PySem.W.Frag} {mg : Str → Option Value} {A : Adr} {base : Heap} (T : Txt P w K mg A) : Callee P w K mg base 1 "is_word" ["number"] (sp1 (fun _ => True) fun n => .bl (Drum.isWord n)) := by
  have SC := sc_is_word
  refine T.f_is_word.ok (k := 0) sc_is_word (fun vs H Q E h => ?_) (fun f cdv Ar outer s H vs Q E hr h => ?_)
  · exact sp1_len h
  · obtain ⟨n, rfl, -, h⟩ := h
    refine ⟨_, (pss_one (ps_ret (pe_chain op_le op_le (pe_un un_neg (pe_gint T.c_WORD_MOST)) (pv 0) (pe_gint T.c_WORD_MOST)))), ?_⟩
    simp_arith
    exact chain_bl (Q := fun v => Q v H) (isWord_iff n) h
theorem ok_is_long {P : Program} {w : World} {K : PySem.W.Frag} {mg : Str → Option Value} {A : Adr} {base : Heap} (T : Txt P w K mg A) : Callee P w K mg base 1 "is_long" ["number"] (sp1 (fun _ => True) fun n => .bl (Drum.isLong n)) := by
  have SC := sc_is_long
  refine T.f_is_long.ok (k := 0) sc_is_long (fun vs H Q E h => ?_) (fun f cdv Ar outer s H vs Q E hr h => ?_)
  · exact sp1_len h
  · obtain ⟨n, rfl, -, h⟩ := h
    refine ⟨_, (pss_one (ps_ret (pe_chain op_le op_le (pe_un un_neg (pe_gint T.c_LONG_MOST)) (pv 0) (pe_gint T.c_LONG_MOST)))), ?_⟩
    simp_arith
    exact chain_bl (Q := fun v => Q v H) (isLong_iff n) h
def signZ (n m : Int) : Int := if n < 0 then -m else m
theorem ok_with_sign_of {P : Program} {w : World} {K : PySem.W.Frag} {mg : Str → Option Value} {A : Adr} {base : Heap} (T : Txt P w K mg A) : Callee P w K mg base 1 "with_sign_of" ["number", "size"] (sp2 (fun _ _ => True) fun n m => .int (signZ n m)) := by
  have SC := sc_with_sign_of
  refine T.f_with_sign_of.ok (k := 0) sc_with_sign_of (fun vs H Q E h => ?_) (fun f cdv Ar outer s H vs Q E hr h => ?_)
  · exact sp2_len h
  · obtain ⟨n, m, rfl, -, h⟩ := h
    refine ⟨_, (pss_one (ps_ret (pe_ifExp (pt_cmpR op_lt (pv 0) pe_int (nomark _)) (pe_un un_neg (pv 1)) (pv 1)))), ?_⟩
    simp_arith [signZ, decide_eq_true_iff] at h ⊢
    split
    · rename_i hn; rw [if_pos hn] at h; exact h
    · rename_i hn; rw [if_neg hn] at h; exact h
theorem signZ_cast (n : Int) (k : Nat) : signZ n (k : Int) = Drum.signed n k := by
  unfold signZ Drum.signed; rfl
theorem ok_upper_word {P : Program} {w : World} {K : PySem.W.Frag} {mg : Str → Option Value} {A : Adr} {base : Heap} (T : Txt P w K mg A) : Callee P w K mg base 2 "upper_word" ["number"] (sp1 (fun _ => True) fun n => .int (Drum.upper n)) := by
  have G_with_sign_of := ok_with_sign_of (P := P) (w := w) (base := base) T
  have SC := sc_upper_word
  refine T.f_upper_word.ok (k := 1) sc_upper_word (fun vs H Q E h => ?_) (fun f cdv Ar outer s H vs Q E hr h => ?_)
  · exact sp1_len h
  · obtain ⟨n, rfl, -, h⟩ := h
    refine ⟨_, (pss_one (ps_ret (pe_callC G_with_sign_of hr (by decide) (pa_cons (pv 0) (pa_cons (pe_op op_fdivB (pe_callB call_abs (by rfl) T.b_abs bt_abs (pa_cons (pv 0) pa_nil)) (pe_gint T.c_WORD_SIZE)) pa_nil))))), ?_⟩
    simp_arith [sp2, abs_eq]
    refine ⟨by unfold CDivB; omega, ?_⟩
    have e : ((n.natAbs : Int) / 10000000000) = ((n.natAbs / Drum.TEN : Nat) : Int) := by unfold Drum.TEN; omega
    rw [e, signZ_cast]
    exact h
theorem ok_lower_word {P : Program} {w : World} {K : PySem.W.Frag} {mg : Str → Option Value} {A : Adr} {base : Heap} (T : Txt P w K mg A) : Callee P w K mg base 2 "lower_word" ["number"] (sp1 (fun _ => True) fun n => .int (Drum.lower n)) := by
  have G_with_sign_of := ok_with_sign_of (P := P) (w := w) (base := base) T
  have SC := sc_lower_word
  refine T.f_lower_word.ok (k := 1) sc_lower_word (fun vs H Q E h => ?_) (fun f cdv Ar outer s H vs Q E hr h => ?_)
  · exact sp1_len h
  · obtain ⟨n, rfl, -, h⟩ := h
    refine ⟨_, (pss_one (ps_ret (pe_callC G_with_sign_of hr (by decide) (pa_cons (pv 0) (pa_cons (pe_op op_mod (pe_callB call_abs (by rfl) T.b_abs bt_abs (pa_cons (pv 0) pa_nil)) (pe_gint T.c_WORD_SIZE)) pa_nil))))), ?_⟩
    simp_arith [sp2, abs_eq]
    refine ⟨by omega, ?_⟩
    have e : ((n.natAbs : Int) % 10000000000) = ((n.natAbs % Drum.TEN : Nat) : Int) := by unfold Drum.TEN; omega
    rw [e, signZ_cast]
    exact h
theorem ok_lower_twenty {P : Program} {w : World} {K : PySem.W.Frag} {mg : Str → Option Value} {A : Adr} {base : Heap} (T : Txt P w K mg A) : Callee P w K mg base 2 "lower_twenty" ["number"] (sp1 (fun _ => True) fun n => .int (Drum.signed n (n.natAbs % (Drum.TEN * Drum.TEN)))) := by
  have G_with_sign_of := ok_with_sign_of (P := P) (w := w) (base := base) T
  have SC := sc_lower_twenty
  refine T.f_lower_twenty.ok (k := 1) sc_lower_twenty (fun vs H Q E h => ?_) (fun f cdv Ar outer s H vs Q E hr h => ?_)
  · exact sp1_len h
  · obtain ⟨n, rfl, -, h⟩ := h
    refine ⟨_, (pss_one (ps_ret (pe_callC G_with_sign_of hr (by decide) (pa_cons (pv 0) (pa_cons (pe_op op_mod (pe_callB call_abs (by rfl) T.b_abs bt_abs (pa_cons (pv 0) pa_nil)) (pe_gint T.c_LONG_SIZE)) pa_nil))))), ?_⟩
    simp_arith [sp2, abs_eq]
    refine ⟨by omega, ?_⟩
    have e : ((n.natAbs : Int) % 100000000000000000000) = ((n.natAbs % (Drum.TEN * Drum.TEN) : Nat) : Int) := by unfold Drum.TEN; omega
    rw [e, signZ_cast]
    exact h
theorem tdiv_eq (n m : Int) : n.tdiv m = if decide (n < 0) = decide (m < 0) then ((n.natAbs / m.natAbs : Nat) : Int) else -((n.natAbs / m.natAbs : Nat) : Int) := by
  cases n with
  | ofNat a =>
    have ha : decide (Int.ofNat a < 0) = false := decide_eq_false (Int.not_lt.mpr (Int.natCast_nonneg a))
    cases m with
    | ofNat b =>
      have hb : decide (Int.ofNat b < 0) = false := decide_eq_false (Int.not_lt.mpr (Int.natCast_nonneg b))
      rw [ha, hb, if_pos rfl]
      rfl
    | negSucc b =>
      have hb : decide (Int.negSucc b < 0) = true := decide_eq_true (Int.negSucc_lt_zero b)
      rw [ha, hb, if_neg (by decide)]
      rfl
  | negSucc a =>
    have ha : decide (Int.negSucc a < 0) = true := decide_eq_true (Int.negSucc_lt_zero a)
    cases m with
    | ofNat b =>
      have hb : decide (Int.ofNat b < 0) = false := decide_eq_false (Int.not_lt.mpr (Int.natCast_nonneg b))
      rw [ha, hb, if_neg (by decide)]
      rfl
    | negSucc b =>
      have hb : decide (Int.negSucc b < 0) = true := decide_eq_true (Int.negSucc_lt_zero b)
      rw [ha, hb, if_pos rfl]
      rfl
theorem ok_quotient_toward_zero {P : Program} {w : World} {K : PySem.W.Frag} {mg : Str → Option Value} {A : Adr} {base : Heap} (T : Txt P w K mg A) : Callee P w K mg base 1 "quotient_toward_zero" ["number", "divisor"] (sp2 (fun _ m => m ≠ 0 ∧ m.natAbs < 2 ^ 100) fun n m => .int (n.tdiv m)) := by
  have SC := sc_quotient_toward_zero
  refine T.f_quotient_toward_zero.ok (k := 0) sc_quotient_toward_zero (fun vs H Q E h => ?_) (fun f cdv Ar outer s H vs Q E hr h => ?_)
  · exact sp2_len h
  · obtain ⟨n, m, rfl, ⟨hm, hb⟩, h⟩ := h
    refine ⟨_, (pss_cons (ps_set (i := 2) SC.nd rfl (by first | exact Or.inl rfl | exact Or.inr rfl) (pe_op op_fdivB (pe_callB call_abs (by rfl) T.b_abs bt_abs (pa_cons (pv 0) pa_nil)) (pe_callB call_abs (by rfl) T.b_abs bt_abs (pa_cons (pv 1) pa_nil)))) (pss_one (ps_ret (pe_ifExp (pt_cmpR op_ne (pe_cmpR op_lt (pv 0) pe_int (nomark _)) (pe_cmpR op_lt (pv 1) pe_int (nomark _)) (nomark _)) (pe_un un_neg (pv 2)) (pv 2))))), ?_⟩
    simp_arith [abs_eq]
    refine ⟨by unfold CDivB; omega, ?_⟩
    have h' : Q (.int (n.tdiv m)) H := h
    rw [tdiv_eq, Int.natCast_ediv] at h'
    by_cases c : decide (n < 0) = decide (m < 0)
    · rw [if_pos c] at h'
      rw [decide_eq_true c]
      exact h'
    · rw [if_neg c] at h'
      rw [decide_eq_false c]
      exact h'
theorem ok_quotient_to_nearest {P : Program} {w : World} {K : PySem.W.Frag} {mg : Str → Option Value} {A : Adr} {base : Heap} (T : Txt P w K mg A) : Callee P w K mg base 2 "quotient_to_nearest" ["number", "divisor"] (sp2 (fun _ m => 0 < m ∧ m < 2 ^ 100) fun n m => .int (signZ n (((n.natAbs : Int) + m / 2) / m))) := by
  have G_with_sign_of := ok_with_sign_of (P := P) (w := w) (base := base) T
  have SC := sc_quotient_to_nearest
  refine T.f_quotient_to_nearest.ok (k := 1) sc_quotient_to_nearest (fun vs H Q E h => ?_) (fun f cdv Ar outer s H vs Q E hr h => ?_)
  · exact sp2_len h
  · obtain ⟨n, m, rfl, hm, h⟩ := h
    refine ⟨_, (pss_one (ps_ret (pe_callC G_with_sign_of hr (by decide) (pa_cons (pv 0) (pa_cons (pe_op op_fdivB (pe_op op_add (pe_callB call_abs (by rfl) T.b_abs bt_abs (pa_cons (pv 0) pa_nil)) (pe_op op_fdivB (pv 1) pe_int)) (pv 1)) pa_nil))))), ?_⟩
    simp_arith [sp2, abs_eq]
    exact ⟨by unfold CDivB; omega, hm, h⟩
def spTen : Sp := sp1 (fun n => 0 ≤ n ∧ n ≤ 20) fun n => .int (10 ^ n.toNat)
theorem ten_lt {k : Nat} (h : k ≤ 20) : ((10 : Int) ^ k).natAbs < 2 ^ 100 := by
  rw [Int.natAbs_pow]
  exact Nat.lt_of_le_of_lt (Nat.pow_le_pow_right (by decide) h) (by decide)
theorem ok_power_of_ten {P : Program} {w : World} {K : PySem.W.Frag} {mg : Str → Option Value} {A : Adr} {base : Heap} (T : Txt P w K mg A) : Callee P w K mg base 1 "power_of_ten" ["exponent"] spTen := by
  have SC := sc_power_of_ten
  refine T.f_power_of_ten.ok (k := 0) sc_power_of_ten (fun vs H Q E h => ?_) (fun f cdv Ar outer s H vs Q E hr h => ?_)
  · exact sp1_len h
  · obtain ⟨n, rfl, ⟨h0, h1⟩, h⟩ := h
    refine ⟨_, (pss_cons (ps_set (i := 1) SC.nd rfl (by first | exact Or.inl rfl | exact Or.inr rfl) pe_int) (pss_cons (ps_for PassesOwn.never rfl (pi_range1 rfl T.b_range (pa_cons (pv 0) pa_nil)) (pg_name (i := 2) SC.nd rfl (by first | exact Or.inl rfl | exact Or.inr rfl)) (pss_one (ps_set (i := 1) SC.nd rfl (by first | exact Or.inl rfl | exact Or.inr rfl) (pe_op op_mulB (pv 1) pe_int)))) (pss_one (ps_ret (pv 1))))), ?_⟩
    simp_arith
    refine ⟨_, rfl, n, rfl, by omega, by omega, for_range (fun i σ H' => H' = H ∧ ∃ v, σ = [some (.int n), some (.int (10 ^ i)), v]) ⟨rfl, none, rfl⟩ ?_ ?_⟩
    · rintro i σ H' hi ⟨rfl, v, rfl⟩
      simp_arith
      refine ⟨⟨ten_lt (by omega), by decide⟩, ?_⟩
      rw [Int.pow_succ]
    · rintro σ H' ⟨rfl, v, rfl⟩
      simp_arith
      exact h
theorem lc_str {x : Str} {g : TG} {tt : TT} {te : TE} {vs : List Nat} {σ : L2.St} {H1 : Hp} {D : Addr} {Qd : Hp → Prop} (Pv : Nat → Hp → Prop) (h0 : Pv 0 (upd H1 D (.lst [])))
    (hs : ∀ i c H, x.cps[i]? = some c → Pv i H → g (.str ⟨#[c]⟩) (wipe σ vs) H fun σ2 H2 => wipe σ2 vs = wipe σ vs ∧ tt σ2 H2 fun b H3 =>
      if b = true then te σ2 H3 fun y H4 => ∃ acc, H4 D = some (.lst acc) ∧ acc.length < sizeLine ∧ Pv (i + 1) (upd H4 D (.lst (acc ++ [y]))) else Pv (i + 1) H3) (hd : ∀ H, Pv x.cps.size H → Qd H) :
    ∃ W : Nat → Nat → Hp → Prop, (∃ m, W 0 m (upd H1 D (.lst []))) ∧ ∀ i m H, W i m H →
      ((Its x).stop i H ∧ Qd H) ∨ ((Its x).go i H ∧ ∃ Nx : Hp → Prop, (∀ H', Nx H' → ∃ m', m' < m ∧ W (i + 1) m' H') ∧ ∀ v H', (Its x).yld i H v H' → g v (wipe σ vs) H' fun σ2 H2 => wipe σ2 vs = wipe σ vs ∧ tt σ2 H2 fun b H3 =>
        if b = true then te σ2 H3 fun y H4 => ∃ acc, H4 D = some (.lst acc) ∧ acc.length < sizeLine ∧ Nx (upd H4 D (.lst (acc ++ [y]))) else Nx H3) := by
  refine ⟨fun i m H => i + m = x.cps.size ∧ Pv i H, ⟨x.cps.size, by omega, h0⟩, fun i m H ⟨e, p⟩ => ?_⟩
  by_cases hi : i < x.cps.size
  · refine .inr ⟨hi, Pv (i + 1), fun H' q => ⟨m - 1, by omega, by omega, q⟩, fun v H' hy => ?_⟩
    obtain ⟨rfl, c, hc, rfl⟩ := hy
    exact hs i c _ hc p
  · have e2 : i = x.cps.size := by omega
    exact .inl ⟨Nat.not_lt.mp hi, hd H (e2 ▸ p)⟩
theorem digit_int : ∀ d : Nat, d < 10 → intText? ⟨#[48 + d]⟩ = some (d : Int) := by decide +kernel
theorem numL_ten (n : Nat) : ∀ c ∈ numL n, ∃ d, d < 10 ∧ c = 48 + d := by
  induction n using Nat.strongRecOn with
  | ind n ih =>
    intro c hc
    by_cases h : n < 10
    · rw [numL_lt h] at hc
      exact ⟨n, h, by simpa using hc⟩
    · rw [numL_step (by omega)] at hc
      rcases List.mem_append.mp hc with q | q
      · exact ih (n / 10) (by omega) c q
      · exact ⟨n % 10, by omega, by simpa using q⟩
theorem sumN_cons (a : Nat) (l : List Nat) : Drum.sumN (a :: l) = a + Drum.sumN l := rfl
theorem digit_div (n k : Nat) : Drum.digit n (k + 1) = Drum.digit (n / 10) k := by
  unfold Drum.digit
  rw [Nat.pow_succ, Nat.mul_comm, ← Nat.div_div_eq_div_mul]
theorem sumN_range (n k : Nat) : Drum.sumN ((List.range (k + 1)).map (Drum.digit n)) = n % 10 + Drum.sumN ((List.range k).map (Drum.digit (n / 10))) := by
  rw [List.range_succ_eq_map, List.map_cons, sumN_cons, List.map_map]
  have e : (Drum.digit n ∘ Nat.succ) = Drum.digit (n / 10) := by funext i; exact digit_div n i
  rw [e]
  have e0 : Drum.digit n 0 = n % 10 := by simp [Drum.digit]
  rw [e0]
theorem sumN_zero (k : Nat) : Drum.sumN ((List.range k).map (Drum.digit 0)) = 0 := by
  induction k with
  | zero => rfl
  | succ k ih => rw [sumN_range, Nat.zero_div, ih]
theorem sum_app (a : List Int) (b : Int) : (a ++ [b]).sum = a.sum + b := by
  induction a with
  | nil => simp
  | cons x r ih => simp only [List.cons_append, List.sum_cons, ih]; omega
theorem digits_sum (k : Nat) : ∀ n : Nat, n < 10 ^ (k + 1) → ((numL n).map fun c => ((c - 48 : Nat) : Int)).sum = (Drum.sumN ((List.range (k + 1)).map (Drum.digit n)) : Int) := by
  induction k with
  | zero =>
    intro n h
    have h' : n < 10 := by simpa using h
    rw [numL_lt h', sumN_range]
    simp [Drum.sumN]
    omega
  | succ k ih =>
    intro n h
    rw [sumN_range]
    by_cases hn : n < 10
    · have e : n / 10 = 0 := by omega
      rw [numL_lt hn, e, sumN_zero]
      simp
      omega
    · rw [numL_step (by omega), List.map_append, List.map_cons, List.map_nil, sum_app, ih (n / 10) (by rw [Nat.pow_succ] at h; omega)]
      have : 48 + n % 10 - 48 = n % 10 := by omega
      rw [this]
      omega
theorem ok_digit_sum {P : Program} {w : World} {K : PySem.W.Frag} {mg : Str → Option Value} {A : Adr} {base : Heap} (T : Txt P w K mg A) : Callee P w K mg base 1 "digit_sum" ["number"] (sp1F (fun n => n.natAbs < 10 ^ 20) fun n => .int (Drum.digitSum n)) := by
  have SC := sc_digit_sum
  refine T.f_digit_sum.ok (k := 0) sc_digit_sum (fun vs H Q E h => ?_) (fun f cdv Ar outer s H vs Q E hr h => ?_)
  · exact sp1F_len h
  · obtain ⟨n, rfl, hn, h⟩ := h
    refine ⟨_, (pss_one (ps_ret (pe_callB (cr_sumH rfl) (by rfl) T.b_sum bt_sum (pa_cons (pe_lc (own := [("digit", 1)]) rfl SC.nd (pi_str (pe_callTy call_str_int (by rfl) T.b_str bt_str (pa_cons (pe_callB call_abs (by rfl) T.b_abs bt_abs (pa_cons (pv 0) pa_nil)) pa_nil))) (blkOk_by rfl) (fun _ _ _ _ _ => (pg_name (i := 1) SC.nd rfl (by first | exact Or.inl rfl | exact Or.inr rfl))) (fun _ _ _ _ _ => pts_nil) (fun _ _ _ _ _ => (pe_callTy call_int_str (by rfl) T.b_int bt_int (pa_cons (pv 1) pa_nil)))) pa_nil)))), ?_⟩
    simp_arith [abs_eq]
    refine ⟨_, rfl, n, rfl, _, rfl, ?_, _, rfl, fun D hD => lc_str (fun i H' => H' = upd H D (.lst (((numL n.natAbs).take i).map fun c => V.int ((c - 48 : Nat) : Int)))) rfl ?_ ?_⟩
    · have : (n.natAbs : Int).natAbs.log2 < 100 := log2_small (by rw [Int.natAbs_natCast]; exact Nat.lt_of_lt_of_le hn (by decide))
      omega
    · rintro i c H' hc rfl
      have hc' : (numL n.natAbs)[i]? = some c := by
        rw [← tl_num, ← Array.getElem?_toList] at *
        exact hc
      obtain ⟨d, hd, rfl⟩ := numL_ten _ c (List.mem_of_getElem? hc')
      simp_arith [tYes, wipe, digit_int d hd]
      refine ⟨(by show 1 ≤ 640; decide), ?_, ?_⟩
      · rw [List.length_map, List.length_take]
        have : (numL n.natAbs).length ≤ 20 := numL_len (by decide) hn
        exact Nat.lt_of_le_of_lt (Nat.min_le_right _ _) (Nat.lt_of_le_of_lt this (by decide))
      · rw [take_snoc hc', List.map_append]
        simp
    · rintro H' rfl
      have e : (Str.ofString (toString (n.natAbs : Int))).cps.size = (numL n.natAbs).length := by
        rw [← tl_num, Array.length_toList]
      rw [e, List.take_length]
      refine ⟨D, rfl, (numL n.natAbs).map fun c => ((c - 48 : Nat) : Int), ?_, ?_⟩
      · rw [upd_same, List.map_map]; rfl
      · rw [digits_sum 19 _ hn]
        exact h _ (same_upd hD)
end Dd

namespace Dd
open PySem PySem.Spec PyProof.Rows L2
open Drum (Machine)
def flagI (b : Bool) : Int := if b = true then 1 else 0
def mf (m : Machine) (dr hp tr : Addr) : List (Str × V) :=
  [("state", .int m.state), ("over", .int (flagI m.over)), ("order_at", .int m.next), ("tick", .int m.tick), ("a", .int m.a), ("d", .int m.d), ("drum", .ref dr), ("hopper", .ref hp), ("tray", .ref tr)]
section
variable (m : Machine) (dr hp tr : Addr)
theorem mf_state : (mf m dr hp tr).lookup ("state" : Str) = some (V.int m.state) := by rfl
theorem mf_over : (mf m dr hp tr).lookup ("over" : Str) = some (V.int (flagI m.over)) := by rfl
theorem mf_order_at : (mf m dr hp tr).lookup ("order_at" : Str) = some (V.int m.next) := by rfl
theorem mf_tick : (mf m dr hp tr).lookup ("tick" : Str) = some (V.int m.tick) := by rfl
theorem mf_a : (mf m dr hp tr).lookup ("a" : Str) = some (V.int m.a) := by rfl
theorem mf_d : (mf m dr hp tr).lookup ("d" : Str) = some (V.int m.d) := by rfl
theorem mf_drum : (mf m dr hp tr).lookup ("drum" : Str) = some (V.ref dr) := by rfl
theorem mf_hopper : (mf m dr hp tr).lookup ("hopper" : Str) = some (V.ref hp) := by rfl
theorem mf_tray : (mf m dr hp tr).lookup ("tray" : Str) = some (V.ref tr) := by rfl
theorem mp_state (z : Nat) : putF ("state" : Str) (V.int z) (mf m dr hp tr) = mf { m with state := z } dr hp tr := by rfl
theorem mp_over (b : Bool) : putF ("over" : Str) (V.int (flagI b)) (mf m dr hp tr) = mf { m with over := b } dr hp tr := by rfl
theorem mp_over1 : putF ("over" : Str) (V.int 1) (mf m dr hp tr) = mf { m with over := true } dr hp tr := by rfl
theorem mp_over0 : putF ("over" : Str) (V.int 0) (mf m dr hp tr) = mf { m with over := false } dr hp tr := by rfl
theorem mp_order_at (z : Nat) : putF ("order_at" : Str) (V.int z) (mf m dr hp tr) = mf { m with next := z } dr hp tr := by rfl
theorem mp_tick (z : Nat) : putF ("tick" : Str) (V.int z) (mf m dr hp tr) = mf { m with tick := z } dr hp tr := by rfl
theorem mp_a (z : Int) : putF ("a" : Str) (V.int z) (mf m dr hp tr) = mf { m with a := z } dr hp tr := by rfl
theorem mp_d (z : Int) : putF ("d" : Str) (V.int z) (mf m dr hp tr) = mf { m with d := z } dr hp tr := by rfl
theorem mp_hopper (z : Addr) : putF ("hopper" : Str) (V.ref z) (mf m dr hp tr) = mf m dr z tr := by rfl
theorem mp_tray (z : Addr) : putF ("tray" : Str) (V.ref z) (mf m dr hp tr) = mf m dr hp z := by rfl
theorem mf_len : (mf m dr hp tr).length < 1000 := by show 9 < 1000; decide
end
end Dd

namespace Dd
open PySem PySem.Spec PyProof.Rows L2
open Drum (Machine)
theorem within_iff (n : Int) (k : Nat) : Drum.within n k = true ↔ 0 ≤ n ∧ n < (k : Int) := by
  unfold Drum.within
  rw [Bool.and_eq_true, decide_eq_true_iff, decide_eq_true_iff]
theorem ok_is_address {P : Program} {w : World} {K : PySem.W.Frag} {mg : Str → Option Value} {A : Adr} {base : Heap} (T : Txt P w K mg A) : Callee P w K mg base 1 "is_address" ["number"] (sp1 (fun _ => True) fun n => .bl (Drum.within n Drum.WORDS)) := by
  have SC := sc_is_address
  refine T.f_is_address.ok (k := 0) sc_is_address (fun vs H Q E h => ?_) (fun f cdv Ar outer s H vs Q E hr h => ?_)
  · exact sp1_len h
  · obtain ⟨n, rfl, -, h⟩ := h
    refine ⟨_, (pss_one (ps_ret (pe_chain op_le op_lt pe_int (pv 0) (pe_gint T.c_DRUM_SIZE)))), ?_⟩
    simp_arith
    exact chain_bl (Q := fun v => Q v H) (within_iff n 2000) h
theorem ok_is_tick {P : Program} {w : World} {K : PySem.W.Frag} {mg : Str → Option Value} {A : Adr} {base : Heap} (T : Txt P w K mg A) : Callee P w K mg base 1 "is_tick" ["number"] (sp1 (fun _ => True) fun n => .bl (Drum.within n Drum.WRAP)) := by
  have SC := sc_is_tick
  refine T.f_is_tick.ok (k := 0) sc_is_tick (fun vs H Q E h => ?_) (fun f cdv Ar outer s H vs Q E hr h => ?_)
  · exact sp1_len h
  · obtain ⟨n, rfl, -, h⟩ := h
    refine ⟨_, (pss_one (ps_ret (pe_chain op_le op_lt pe_int (pv 0) (pe_gint T.c_TICKS)))), ?_⟩
    simp_arith
    exact chain_bl (Q := fun v => Q v H) (within_iff n Drum.WRAP) h
def partsOk (st ov n t a d : Int) : Bool := Drum.within st 7 && (Drum.within ov 2 && (Drum.within n Drum.WORDS && (Drum.within t Drum.WRAP && (Drum.isLong a && Drum.isWord d))))
def sp_are_parts : Sp := fun vs H Q _ => ∃ (p : Addr) (st ov n t a d : Int), vs = [.ref p] ∧ H p = some (.lst [.int st, .int ov, .int n, .int t, .int a, .int d]) ∧ Q (.bl (partsOk st ov n t a d)) H
theorem ok_are_parts {P : Program} {w : World} {K : PySem.W.Frag} {mg : Str → Option Value} {A : Adr} {base : Heap} (T : Txt P w K mg A) : Callee P w K mg base 2 "are_parts" ["parts"] sp_are_parts := by
  have G_is_word := ok_is_word (P := P) (w := w) (base := base) T
  have G_is_long := ok_is_long (P := P) (w := w) (base := base) T
  have G_is_address := ok_is_address (P := P) (w := w) (base := base) T
  have G_is_tick := ok_is_tick (P := P) (w := w) (base := base) T
  have SC := sc_are_parts
  refine T.f_are_parts.ok (k := 1) sc_are_parts (fun vs H Q E h => ?_) (fun f cdv Ar outer s H vs Q E hr h => ?_)
  · obtain ⟨p, st, ov, n, t, a, d, rfl, _⟩ := h; rfl
  · obtain ⟨p, st, ov, n, t, a, d, rfl, hp, h⟩ := h
    refine ⟨_, (pss_cons (ps_if (PW.pt (pw_or (pt_not (pt_chain op_le op_le pe_int (pe_ix ix_lst (pv 0) pe_int (fun _ _ => rfl)) pe_int)) (pw_or1 (pt_not (pt_chain op_le op_le pe_int (pe_ix ix_lst (pv 0) pe_int (fun _ _ => rfl)) pe_int))))) (pss_one (ps_ret pe_bl)) pss_nil) (pss_cons (ps_if (PW.pt (pw_or (pt_not (pt_val (pe_callC G_is_address hr (by decide) (pa_cons (pe_ix ix_lst (pv 0) pe_int (fun _ _ => rfl)) pa_nil)))) (pw_or1 (pt_not (pt_val (pe_callC G_is_tick hr (by decide) (pa_cons (pe_ix ix_lst (pv 0) pe_int (fun _ _ => rfl)) pa_nil))))))) (pss_one (ps_ret pe_bl)) pss_nil) (pss_one (ps_ret (pe_and (pe_callC G_is_long hr (by decide) (pa_cons (pe_ix ix_lst (pv 0) pe_int (fun _ _ => rfl)) pa_nil)) (pe_one (pe_callC G_is_word hr (by decide) (pa_cons (pe_ix ix_lst (pv 0) pe_int (fun _ _ => rfl)) pa_nil)))))))), ?_⟩
    simp_arith [hp, sp1]
    unfold partsOk at h
    have w7 : Drum.within st 7 = (decide (0 ≤ st) && decide (st ≤ 6)) := by
      unfold Drum.within; congr 1; exact decide_eq_decide.mpr (by omega)
    have w2 : Drum.within ov 2 = (decide (0 ≤ ov) && decide (ov ≤ 1)) := by
      unfold Drum.within; congr 1; exact decide_eq_decide.mpr (by omega)
    rw [w7, w2] at h
    generalize decide (0 ≤ st) = b1 at h ⊢
    generalize decide (st ≤ 6) = b2 at h ⊢
    generalize decide (0 ≤ ov) = b3 at h ⊢
    generalize decide (ov ≤ 1) = b4 at h ⊢
    generalize Drum.within n Drum.WORDS = b5 at h ⊢
    generalize Drum.within t Drum.WRAP = b6 at h ⊢
    generalize Drum.isLong a = b7 at h ⊢
    cases b1 with
    | false => simpa using h
    | true =>
      cases b2 with
      | false => simpa using h
      | true =>
        cases b3 with
        | false => simpa using h
        | true =>
          cases b4 with
          | false => simpa using h
          | true =>
            cases b5 with
            | false => simpa using h
            | true =>
              cases b6 with
              | false => simpa using h
              | true =>
                cases b7 with
                | false => simpa using h
                | true => simpa using h
theorem rgc (L c : Nat) (h : L < 2 ^ 60) (hc : 0 < c) (hc2 : c < 1000) : RgC 0 L c ((L + c - 1) / c) := by
  have e : Builtin.Range.rangeSize 0 (L : Int) (c : Int) = (((L + c - 1) / c : Nat) : Int) := by
    rw [rangeSize_pos (by omega) (by omega)]
    rw [Int.natCast_ediv]
    congr 1
    omega
  refine ⟨by omega, by omega, ?_, e⟩
  unfold Builtin.Range.small
  rw [e]
  have h3 : (L + c - 1) / c ≤ L + c - 1 := Nat.div_le_self _ _
  simp only [Builtin.Range.rangeFitsLong, Bool.and_eq_true, Bool.or_eq_true, decide_eq_true_eq, beq_iff_eq]
  generalize (L + c - 1) / c = z at *
  have hc3 : (c : Int) > 0 := by omega
  rw [if_pos hc3, Bool.and_eq_true, decide_eq_true_iff, decide_eq_true_iff]
  omega
theorem atI_map {l : List Int} {i : Nat} {z : Int} (h : l[i]? = some z) : atI (l.map V.int) (i : Int) = some (.int z) := atI_nat (by rw [List.getElem?_map, h]; rfl)
def sp_are_pairs : Sp := fun vs H Q _ => ∃ (p : Addr) (l : List Int), vs = [.ref p] ∧ H p = some (.lst (l.map V.int)) ∧ l.length < 2 ^ 60 ∧ Q (.bl (Drum.noted l 0).isSome) H
theorem noted_none_odd : ∀ (l : List Int) (z : Int), l.length % 2 = 1 → Drum.noted l z = none
  | [], z, h => by simp at h
  | [_], z, h => rfl
  | a :: v :: r, z, h => by
    have ih := noted_none_odd r (a + 1) (by simp at h; omega)
    unfold Drum.noted
    rw [ih]
    split <;> rfl
theorem drop2 {l : List Int} {i : Nat} (h : i + 1 < l.length) : ∃ a v, l[i]? = some a ∧ l[i + 1]? = some v ∧ l.drop i = a :: v :: l.drop (i + 2) := by
  refine ⟨l[i], l[i + 1], by simp [show i < l.length by omega], by simp [h], ?_⟩
  rw [List.drop_eq_getElem_cons (show i < l.length by omega), List.drop_eq_getElem_cons h]
theorem noted_step (a v : Int) (r : List Int) (z : Int) (h : ¬ (a < z ∨ (Drum.WORDS : Int) ≤ a ∨ Drum.isWord v = false ∨ v = 0)) : (Drum.noted (a :: v :: r) z).isSome = (Drum.noted r (a + 1)).isSome := by
  conv => lhs; unfold Drum.noted
  rw [if_neg h, Option.isSome_map]
theorem noted_bad (a v : Int) (r : List Int) (z : Int) (h : a < z ∨ (Drum.WORDS : Int) ≤ a ∨ Drum.isWord v = false ∨ v = 0) : (Drum.noted (a :: v :: r) z).isSome = false := by
  unfold Drum.noted
  rw [if_pos h]; rfl
theorem ok_are_pairs {P : Program} {w : World} {K : PySem.W.Frag} {mg : Str → Option Value} {A : Adr} {base : Heap} (T : Txt P w K mg A) : Callee P w K mg base 2 "are_pairs" ["pairs"] sp_are_pairs := by
  have G_is_word := ok_is_word (P := P) (w := w) (base := base) T
  have G_is_address := ok_is_address (P := P) (w := w) (base := base) T
  have SC := sc_are_pairs
  refine T.f_are_pairs.ok (k := 1) sc_are_pairs (fun vs H Q E h => ?_) (fun f cdv Ar outer s H vs Q E hr h => ?_)
  · obtain ⟨p, l, rfl, _⟩ := h; rfl
  · obtain ⟨p, l, rfl, hp, hl, h⟩ := h
    refine ⟨_, (pss_cons (ps_if (pt_cmpR op_ne (pe_op op_mod (pe_callB call_len_lst (by rfl) T.b_len bt_len (pa_cons (pv 0) pa_nil)) pe_int) pe_int (nomark _)) (pss_one (ps_ret pe_bl)) pss_nil) (pss_cons (ps_set (i := 1) SC.nd rfl (by first | exact Or.inl rfl | exact Or.inr rfl) (pe_un un_neg pe_int)) (pss_cons (ps_for PassesOwn.never rfl (pi_range3 rfl T.b_range (pa_cons pe_int (pa_cons (pe_callB call_len_lst (by rfl) T.b_len bt_len (pa_cons (pv 0) pa_nil)) (pa_cons pe_int pa_nil)))) (pg_name (i := 2) SC.nd rfl (by first | exact Or.inl rfl | exact Or.inr rfl)) (pss_cons (ps_set (i := 3) SC.nd rfl (by first | exact Or.inl rfl | exact Or.inr rfl) (pe_ix ix_lst (pv 0) (pv 2) (fun _ _ => rfl))) (pss_cons (ps_set (i := 4) SC.nd rfl (by first | exact Or.inl rfl | exact Or.inr rfl) (pe_ix ix_lst (pv 0) (pe_op op_add (pv 2) pe_int) (fun _ _ => rfl))) (pss_cons (ps_if (PW.pt (pw_or (pt_cmpR op_le (pv 3) (pv 1) (nomark _)) (pw_or1 (pt_not (pt_val (pe_callC G_is_address hr (by decide) (pa_cons (pv 3) pa_nil))))))) (pss_one (ps_ret pe_bl)) pss_nil) (pss_cons (ps_if (PW.pt (pw_or (pt_cmpR op_eq (pv 4) pe_int (nomark _)) (pw_or1 (pt_not (pt_val (pe_callC G_is_word hr (by decide) (pa_cons (pv 4) pa_nil))))))) (pss_one (ps_ret pe_bl)) pss_nil) (pss_one (ps_set (i := 1) SC.nd rfl (by first | exact Or.inl rfl | exact Or.inr rfl) (pv 3)))))))) (pss_one (ps_ret pe_bl))))), ?_⟩
    simp_arith [hp, sp1, List.length_map]
    refine ⟨by decide, ?_⟩
    by_cases hodd : l.length % 2 = 1
    · rw [noted_none_odd l 0 hodd] at h
      rw [if_pos (by rw [decide_eq_false (by omega)]; rfl)]
      exact h
    · rw [if_neg (by rw [decide_eq_true (by omega)]; decide)]
      refine ⟨_, rfl, p, _, rfl, hp, 0, _, 2, (l.length + 2 - 1) / 2, rfl, (by rw [List.length_map]; exact rgc l.length 2 hl (by decide) (by decide)), for_rangeC (fun i σ H' => H' = H ∧ ∃ (last : Int) (v2 v3 v4 : Option V), σ = [some (.ref p), some (.int last), v2, v3, v4] ∧ -1 ≤ last ∧ (Drum.noted l 0).isSome = (Drum.noted (l.drop (2 * i)) (last + 1)).isSome) ⟨rfl, -1, none, none, none, rfl, by decide, rfl⟩ ?_ ?_⟩
      · rintro i σ H' hi ⟨rfl, last, v2, v3, v4, rfl, hlast, hn⟩
        obtain ⟨a, v, ha, hv, hd⟩ := drop2 (l := l) (i := 2 * i) (by omega)
        rw [hd] at hn
        have ea : atI (l.map V.int) (0 + (i : Int) * 2) = some (.int a) := by
          have := atI_map ha
          rw [show (0 + (i : Int) * 2) = ((2 * i : Nat) : Int) by omega]; exact this
        have ev : atI (l.map V.int) (0 + (i : Int) * 2 + 1) = some (.int v) := by
          have := atI_map hv
          rw [show (0 + (i : Int) * 2 + 1) = ((2 * i + 1 : Nat) : Int) by omega]; exact this
        simp_arith [hp, sp1, ea, ev]
        by_cases hbad : a < last + 1 ∨ (Drum.WORDS : Int) ≤ a ∨ Drum.isWord v = false ∨ v = 0
        · rw [noted_bad _ _ _ _ hbad] at hn
          rw [hn] at h
          by_cases c1 : a ≤ last
          · rw [if_pos (decide_eq_true c1)]; exact h
          · rw [if_neg (by simpa using c1)]
            cases c2 : Drum.within a Drum.WORDS with
            | false => exact h
            | true =>
              rw [if_neg (by decide)]
              by_cases c3 : v = 0
              · rw [if_pos (decide_eq_true c3)]; exact h
              · rw [if_neg (by simpa using c3)]
                cases c4 : Drum.isWord v with
                | false => exact h
                | true =>
                  have := (within_iff _ _).mp c2
                  rw [c4] at hbad
                  simp at hbad
                  omega
        · rw [noted_step _ _ _ _ hbad] at hn
          simp only [not_or] at hbad
          obtain ⟨b1, b2, b3, b4⟩ := hbad
          have c2 : Drum.within a Drum.WORDS = true := (within_iff _ _).mpr (by omega)
          rw [if_neg (by rw [decide_eq_true_iff]; omega), c2, if_neg (by decide), if_neg (by simpa using b4), (by simpa using b3 : Drum.isWord v = true), if_neg (by decide)]
          exact ⟨by omega, hn⟩
      · rintro σ H' ⟨rfl, last, v2, v3, v4, rfl, hlast, hn⟩
        simp_arith
        rw [List.drop_eq_nil_of_le (by omega)] at hn
        rw [hn] at h
        exact h
theorem noted_map : ∀ (l : List Int) (z : Int) (ps : List (Nat × Int)), Drum.noted l z = some ps → 0 ≤ z → (∀ q ∈ ps, q.1 < 2000 ∧ Drum.isWord q.2 = true) ∧ l = ps.flatMap fun q => [(q.1 : Int), q.2]
  | [], z, ps, h, hz => by
    cases (show some [] = some ps from h)
    exact ⟨by simp, rfl⟩
  | [_], z, ps, h, hz => by cases (show (none : Option (List (Nat × Int))) = some ps from h)
  | a :: v :: r, z, ps, h, hz => by
    unfold Drum.noted at h
    split at h
    · cases h
    · rename_i hb
      simp only [not_or] at hb
      obtain ⟨qs, hq, rfl⟩ := Option.map_eq_some_iff.mp h
      obtain ⟨i1, i2⟩ := noted_map r (a + 1) qs hq (by omega)
      have hw : (Drum.WORDS : Int) = 2000 := rfl
      refine ⟨fun q hm => ?_, ?_⟩
      · rcases List.mem_cons.mp hm with rfl | hm
        · exact ⟨by show a.toNat < 2000; omega, by simpa using hb.2.2.1⟩
        · exact i1 q hm
      · rw [List.flatMap_cons, ← i2]
        show a :: v :: r = (a.toNat : Int) :: v :: r
        rw [Int.toNat_of_nonneg (by omega)]
theorem flat_len (ps : List (Nat × Int)) : (ps.flatMap fun q => [(q.1 : Int), q.2]).length = 2 * ps.length := by
  induction ps with
  | nil => rfl
  | cons q r ih => rw [List.flatMap_cons, List.length_append, ih]; simp only [List.length_cons, List.length_nil]; omega
theorem flat_at (ps : List (Nat × Int)) : ∀ {i : Nat} {q : Nat × Int}, ps[i]? = some q → (ps.flatMap fun q => [(q.1 : Int), q.2])[2 * i]? = some (q.1 : Int) ∧ (ps.flatMap fun q => [(q.1 : Int), q.2])[2 * i + 1]? = some q.2 := by
  induction ps with
  | nil => intro i q h; simp at h
  | cons x r ih =>
    intro i q h
    cases i with
    | zero =>
      have e : x = q := by simpa using h
      subst e
      exact ⟨rfl, rfl⟩
    | succ i =>
      obtain ⟨h1, h2⟩ := ih (i := i) (q := q) (by simpa using h)
      rw [List.flatMap_cons]
      exact ⟨h1, h2⟩
theorem drumOf_snoc (ps : List (Nat × Int)) (q : Nat × Int) : Drum.drumOf (ps ++ [q]) = (Drum.drumOf ps).set q.1 q.2 := by
  unfold Drum.drumOf
  rw [List.foldl_append]; rfl
theorem foldl_set_len (ps : List (Nat × Int)) : ∀ l : List Int, (ps.foldl (fun (d : List Int) (u : Nat × Int) => d.set u.1 u.2) l).length = l.length := by
  induction ps with
  | nil => intro l; rfl
  | cons q r ih => intro l; rw [List.foldl_cons, ih, List.length_set]
theorem drumOf_len (ps : List (Nat × Int)) : (Drum.drumOf ps).length = 2000 := by
  unfold Drum.drumOf
  rw [foldl_set_len, List.length_replicate]; rfl
theorem ixN_nat {n j : Nat} (h : j < n) : ixN n (j : Int) = some j := by
  unfold ixN
  rw [if_pos (by omega), if_pos (by omega), Int.toNat_natCast]
theorem map_set_int (l : List Int) (j : Nat) (z : Int) : (l.map V.int).set j (.int z) = (l.set j z).map V.int := by
  rw [List.map_set]
def sp_drum_of : Sp := fun vs H Q _ => ∃ (p : Addr) (l : List Int) (ps : List (Nat × Int)), vs = [.ref p] ∧ H p = some (.lst (l.map V.int)) ∧ l.length < 2 ^ 60 ∧ Drum.noted l 0 = some ps ∧ ∀ D, H D = none → ∀ H', Same H H' → H' D = some (.lst ((Drum.drumOf ps).map V.int)) → Q (.ref D) H'
theorem ok_drum_of {P : Program} {w : World} {K : PySem.W.Frag} {mg : Str → Option Value} {A : Adr} {base : Heap} (T : Txt P w K mg A) : Callee P w K mg base 1 "drum_of" ["pairs"] sp_drum_of := by
  have SC := sc_drum_of
  refine T.f_drum_of.ok (k := 0) sc_drum_of (fun vs H Q E h => ?_) (fun f cdv Ar outer s H vs Q E hr h => ?_)
  · obtain ⟨p, l, ps, rfl, _⟩ := h; rfl
  · obtain ⟨p, l, ps, rfl, hp, hl, hn, h⟩ := h
    obtain ⟨hok, hfl⟩ := noted_map l 0 ps hn (by decide)
    have hlen : l.length = 2 * ps.length := by rw [hfl, flat_len]
    refine ⟨_, (pss_cons (ps_set (i := 1) SC.nd rfl (by first | exact Or.inl rfl | exact Or.inr rfl) (pe_op op_rep (pe_lst (pa_cons pe_int pa_nil)) (pe_gint T.c_DRUM_SIZE))) (pss_cons (ps_for PassesOwn.never rfl (pi_range3 rfl T.b_range (pa_cons pe_int (pa_cons (pe_callB call_len_lst (by rfl) T.b_len bt_len (pa_cons (pv 0) pa_nil)) (pa_cons pe_int pa_nil)))) (pg_name (i := 2) SC.nd rfl (by first | exact Or.inl rfl | exact Or.inr rfl)) (pss_one (ps_asg (pe_ix ix_lst (pv 0) (pe_op op_add (pv 2) pe_int) (fun _ _ => rfl)) (pg_sub (pv 1) (pe_ix ix_lst (pv 0) (pv 2) (fun _ _ => rfl)) set_list)))) (pss_one (ps_ret (pv 1))))), ?_⟩
    refine ⟨(by decide), fun q hq => ⟨q, 2000, _, rfl, rfl, upd_same, by decide, by decide, by decide, fun D hD => ?_⟩⟩
    have hqD : q ≠ D := ne_of_none upd_same hD
    have hpD : p ≠ D := ne_of_none (by rw [upd_ne (ne_of_none hp hq)]; exact hp) hD
    have hpq : p ≠ q := ne_of_none hp hq
    simp_arith
    refine ⟨_, rfl, p, _, rfl, (by rw [upd_ne hpD, upd_ne hpq]; exact hp), 0, _, 2, (l.length + 2 - 1) / 2, rfl, (by rw [List.length_map]; exact rgc l.length 2 hl (by decide) (by decide)),
      for_rangeC (fun i σ H' => (∃ v2 : Option V, σ = [some (.ref p), some (.ref D), v2]) ∧ Same H H' ∧ H' D = some (.lst ((Drum.drumOf (ps.take i)).map V.int))) ⟨⟨none, rfl⟩, (same_upd hq).trans (same_upd hD), ?_⟩ ?_ ?_⟩
    · rw [upd_same]; rfl
    · rintro i σ H' hi ⟨⟨v2, rfl⟩, hs, hD'⟩
      obtain ⟨u, hu⟩ : ∃ u, ps[i]? = some u := ⟨_, List.getElem?_eq_getElem (show i < ps.length by omega)⟩
      obtain ⟨h1, h2⟩ := flat_at ps hu
      rw [← hfl] at h1 h2
      have ea : atI (l.map V.int) (0 + (i : Int) * 2) = some (.int u.1) := by
        rw [show (0 + (i : Int) * 2) = ((2 * i : Nat) : Int) by omega]; exact atI_map h1
      have ev : atI (l.map V.int) (0 + (i : Int) * 2 + 1) = some (.int u.2) := by
        rw [show (0 + (i : Int) * 2 + 1) = ((2 * i + 1 : Nat) : Int) by omega]; exact atI_map h2
      have hp' := hs _ _ hp
      have hu1 := (hok u (List.mem_of_getElem? hu)).1
      have hDn : H D = none := Same.free (same_upd hq) hD
      simp_arith [hp', ea, ev, hD']
      rw [take_snoc hu, drumOf_snoc]
      refine ⟨u.1, by rw [List.length_map, drumOf_len]; exact ixN_nat hu1, ⟨_, rfl⟩, fun b o e => by rw [upd_ne (ne_of_none e hDn)]; exact hs b o e, ?_⟩
      rw [map_set_int]
    · rintro σ H' ⟨⟨v2, rfl⟩, hs, hD'⟩
      rw [List.take_of_length_le (by omega)] at hD'
      have hDn : H D = none := Same.free (same_upd hq) hD
      exact ⟨_, rfl, h D hDn H' hs hD'⟩
def sp_first_tick_at : Sp := fun vs H Q _ => ∃ t a : Nat, vs = [.int t, .int a] ∧ Q (.int (Drum.comes t (Drum.place a))) H
theorem ok_first_tick_at {P : Program} {w : World} {K : PySem.W.Frag} {mg : Str → Option Value} {A : Adr} {base : Heap} (T : Txt P w K mg A) : Callee P w K mg base 1 "first_tick_at" ["tick", "address"] sp_first_tick_at := by
  have SC := sc_first_tick_at
  refine T.f_first_tick_at.ok (k := 0) sc_first_tick_at (fun vs H Q E h => ?_) (fun f cdv Ar outer s H vs Q E hr h => ?_)
  · obtain ⟨t, a, rfl, _⟩ := h; rfl
  · obtain ⟨t, a, rfl, h⟩ := h
    refine ⟨_, (pss_one (ps_ret (pe_op op_add (pv 0) (pe_op op_mod (pe_op op_sub (pv 1) (pv 0)) (pe_gint T.c_BAND_SIZE))))), ?_⟩
    simp_arith
    refine ⟨by decide, ?_⟩
    have e : ((t : Int) + ((a : Int) - (t : Int)) % 40) = (Drum.comes t (Drum.place a) : Int) := by
      unfold Drum.comes Drum.place Drum.PLACES; omega
    rw [e]; exact h
def sp_band_start : Sp := fun vs H Q _ => ∃ a : Nat, vs = [.int a] ∧ Q (.int ((a / 40 * 40 : Nat) : Int)) H
theorem ok_band_start {P : Program} {w : World} {K : PySem.W.Frag} {mg : Str → Option Value} {A : Adr} {base : Heap} (T : Txt P w K mg A) : Callee P w K mg base 1 "band_start" ["address"] sp_band_start := by
  have SC := sc_band_start
  refine T.f_band_start.ok (k := 0) sc_band_start (fun vs H Q E h => ?_) (fun f cdv Ar outer s H vs Q E hr h => ?_)
  · obtain ⟨a, rfl, _⟩ := h; rfl
  · obtain ⟨a, rfl, h⟩ := h
    refine ⟨_, (pss_one (ps_ret (pe_op op_sub (pv 0) (pe_op op_mod (pv 0) (pe_gint T.c_BAND_SIZE))))), ?_⟩
    simp_arith
    refine ⟨by decide, ?_⟩
    have e : ((a : Int) - (a : Int) % 40) = ((a / 40 * 40 : Nat) : Int) := by omega
    rw [e]; exact h
def sp_around_band : Sp := fun vs H Q _ => ∃ a c : Nat, vs = [.int a, .int c] ∧ c ≤ 40 ∧ ∀ D, H D = none → Q (.ref D) (upd H D (.lst ((List.range c).map fun k => V.int (Drum.around a k))))
theorem ok_around_band {P : Program} {w : World} {K : PySem.W.Frag} {mg : Str → Option Value} {A : Adr} {base : Heap} (T : Txt P w K mg A) : Callee P w K mg base 2 "around_band" ["address", "count"] sp_around_band := by
  have G_band_start := ok_band_start (P := P) (w := w) (base := base) T
  have SC := sc_around_band
  refine T.f_around_band.ok (k := 1) sc_around_band (fun vs H Q E h => ?_) (fun f cdv Ar outer s H vs Q E hr h => ?_)
  · obtain ⟨t, a, rfl, _⟩ := h; rfl
  · obtain ⟨a, c, rfl, hc, h⟩ := h
    refine ⟨_, (pss_cons (ps_set (i := 2) SC.nd rfl (by first | exact Or.inl rfl | exact Or.inr rfl) (pe_callC G_band_start hr (by decide) (pa_cons (pv 0) pa_nil))) (pss_one (ps_ret (pe_lc (own := [("step", 3)]) rfl SC.nd (pi_range1 rfl T.b_range (pa_cons (pv 1) pa_nil)) (blkOk_by rfl) (fun _ _ _ _ _ => (pg_name (i := 3) SC.nd rfl (by first | exact Or.inl rfl | exact Or.inr rfl))) (fun _ _ _ _ _ => pts_nil) (fun _ _ _ _ _ => (pe_op op_add (pv 2) (pe_op op_mod (pe_op op_add (pv 0) (pv 3)) (pe_gint T.c_BAND_SIZE)))))))), ?_⟩
    simp_arith [sp_band_start]
    refine ⟨a, rfl, _, rfl, (c : Int), rfl, by omega, by omega, fun D hD => lc_range (fun i H' => H' = upd H D (.lst ((List.range i).map fun k => V.int (Drum.around a k)))) rfl ?_ ?_⟩
    · rintro i H' hi rfl
      simp_arith [tYes, wipe]
      have hi' : i < 40 := by omega
      refine ⟨by decide, ?_, ?_⟩
      · rw [List.length_map, List.length_range]
        exact Nat.lt_of_lt_of_le hi' (by decide)
      · rw [List.range_succ, List.map_append]
        have e : (((a / 40 * 40 : Nat) : Int) + ((a : Int) + (0 + (i : Int))) % 40) = (Drum.around a i : Int) := by
          unfold Drum.around Drum.PLACES; omega
        rw [e]; rfl
    · rintro H' rfl
      rw [Int.toNat_natCast]
      exact h D hD
def wordsAround (l : List Int) (a : Nat) : List Int := (List.range 40).map fun k => l.getD (Drum.around a k) 0
theorem wordsAround_eq {l : List Int} {a : Nat} (hl : l.length = 2000) (ha : a < 2000) : (l.drop a).take (a / 40 * 40 + 40 - a) ++ (l.drop (a / 40 * 40)).take (a - a / 40 * 40) = wordsAround l a := by
  refine List.ext_getElem? fun k => ?_
  unfold wordsAround
  rw [List.getElem?_map]
  have h1 : ((l.drop a).take (a / 40 * 40 + 40 - a)).length = a / 40 * 40 + 40 - a := by
    rw [List.length_take, List.length_drop]; omega
  by_cases hk : k < 40
  · rw [List.getElem?_range hk]
    show _ = some (l.getD (Drum.around a k) 0)
    by_cases c : k < a / 40 * 40 + 40 - a
    · rw [List.getElem?_append_left (by rw [h1]; exact c), List.getElem?_take_of_lt c, List.getElem?_drop]
      have e : Drum.around a k = a + k := by unfold Drum.around Drum.PLACES; omega
      rw [e, List.getD_eq_getElem?_getD, List.getElem?_eq_getElem (by omega)]; rfl
    · rw [List.getElem?_append_right (by rw [h1]; omega), h1, List.getElem?_take_of_lt (by omega), List.getElem?_drop]
      have e : Drum.around a k = a / 40 * 40 + (k - (a / 40 * 40 + 40 - a)) := by unfold Drum.around Drum.PLACES; omega
      rw [e, List.getD_eq_getElem?_getD, List.getElem?_eq_getElem (by omega)]; rfl
  · rw [List.getElem?_eq_none (by rw [List.length_append, h1, List.length_take, List.length_drop]; omega), List.getElem?_eq_none (by rw [List.length_range]; omega)]
    rfl
theorem cut_nat {l : List Int} {i j : Nat} (hi : i ≤ l.length) (hj : j ≤ l.length) : cutV (l.map V.int) (some (i : Int)) (some (j : Int)) = ((l.drop i).take (j - i)).map V.int := by
  unfold cutV
  rw [HT.sIx_nat, HT.sIx_nat, List.length_map, Nat.min_eq_left hi, Nat.min_eq_left hj, ← List.map_drop, ← List.map_take]
def sp_words_around : Sp := fun vs H Q _ => ∃ (dr : Addr) (l : List Int) (a : Nat), vs = [.ref dr, .int a] ∧ H dr = some (.lst (l.map V.int)) ∧ l.length = 2000 ∧ a < 2000 ∧ ∀ H' D, H D = none → Same H H' → H' D = some (.lst ((wordsAround l a).map V.int)) → Q (.ref D) H'
theorem ok_words_around {P : Program} {w : World} {K : PySem.W.Frag} {mg : Str → Option Value} {A : Adr} {base : Heap} (T : Txt P w K mg A) : Callee P w K mg base 2 "words_around" ["drum", "address"] sp_words_around := by
  have G_band_start := ok_band_start (P := P) (w := w) (base := base) T
  have SC := sc_words_around
  refine T.f_words_around.ok (k := 1) sc_words_around (fun vs H Q E h => ?_) (fun f cdv Ar outer s H vs Q E hr h => ?_)
  · obtain ⟨dr, l, a, rfl, _⟩ := h; rfl
  · obtain ⟨dr, l, a, rfl, hd, hl, ha, h⟩ := h
    refine ⟨_, (pss_cons (ps_set (i := 2) SC.nd rfl (by first | exact Or.inl rfl | exact Or.inr rfl) (pe_callC G_band_start hr (by decide) (pa_cons (pv 1) pa_nil))) (pss_one (ps_ret (pe_op op_cat (pe_slice sl_lst (pv 0) (po_some (pv 1)) (po_some (pe_op op_add (pv 2) (pe_gint T.c_BAND_SIZE)))) (pe_slice sl_lst (pv 0) (po_some (pv 2)) (po_some (pv 1))))))), ?_⟩
    simp_arith [sp_band_start, hd]
    refine ⟨a, rfl, fun p hp => ?_⟩
    have n1 : dr ≠ p := ne_of_none hd hp
    refine ⟨_, by rw [upd_ne n1]; exact hd, fun q hq => ?_⟩
    have n2 : p ≠ q := ne_of_none upd_same hq
    refine ⟨_, by rw [upd_ne n2, upd_same], ?_, fun D hD => ?_⟩
    · have e1 := cut_nat (l := l) (i := a) (j := a / 40 * 40 + 40) (by omega) (by omega)
      have e2 := cut_nat (l := l) (i := a / 40 * 40) (j := a) (by omega) (by omega)
      have e3 : (((a / 40 * 40 : Nat) : Int) + 40) = ((a / 40 * 40 + 40 : Nat) : Int) := by omega
      rw [e3, e1, e2, List.length_map, List.length_map, List.length_take, List.length_take, List.length_drop, List.length_drop]
      have : sizeLine = 16777216 := by decide
      omega
    · have s1 := same_upd (H := H) (o := .lst (cutV (l.map V.int) (some (a : Int)) (some (((a / 40 * 40 : Nat) : Int) + 40)))) hp
      have s2 := s1.trans (same_upd (o := .lst (cutV (l.map V.int) (some (((a / 40 * 40 : Nat) : Int))) (some (a : Int)))) hq)
      refine h _ D (s2.free hD) (s2.trans (same_upd hD)) ?_
      have e1 := cut_nat (l := l) (i := a) (j := a / 40 * 40 + 40) (by omega) (by omega)
      have e2 := cut_nat (l := l) (i := a / 40 * 40) (j := a) (by omega) (by omega)
      have e3 : (((a / 40 * 40 : Nat) : Int) + 40) = ((a / 40 * 40 + 40 : Nat) : Int) := by omega
      rw [upd_same, e3, e1, e2, ← List.map_append, wordsAround_eq hl ha]
def mkM (st ov n t a d : Int) (ps : List (Nat × Int)) : Machine := ⟨Drum.drumOf ps, a, d, ov == 1, t.toNat, n.toNat, st.toNat⟩
theorem machineOf_eq (st ov n t a d : Int) (l : List Int) : Drum.machineOf st ov n t a d l = if partsOk st ov n t a d = true then some ((Drum.noted l 0).map (mkM st ov n t a d)) else none := rfl
def sp_Machine_init (A : Adr) : Sp := fun vs H Q _ => ∃ (x dx pp pl : Addr) (st ov n t a d : Int) (l : List Int) (ps : List (Nat × Int)), vs = [.ref x, .ref pp, .ref pl] ∧ H x = some (.ins A.cMachine dx []) ∧
  H pp = some (.lst [.int st, .int ov, .int n, .int t, .int a, .int d]) ∧ H pl = some (.lst (l.map V.int)) ∧ l.length < 2 ^ 60 ∧ Drum.noted l 0 = some ps ∧ partsOk st ov n t a d = true ∧
  ∀ (dr hp tr : Addr) (H' : Hp), H dr = none → H hp = none → H tr = none → dr ≠ hp → dr ≠ tr → hp ≠ tr → (∀ b o, H b = some o → b ≠ x → H' b = some o) →
    H' x = some (.ins A.cMachine dx (mf (mkM st ov n t a d ps) dr hp tr)) → H' dr = some (.lst ((Drum.drumOf ps).map V.int)) → H' hp = some (.lst []) → H' tr = some (.lst []) → Q .non H'
theorem ok_Machine_init {P : Program} {w : World} {K : PySem.W.Frag} {mg : Str → Option Value} {A : Adr} {base : Heap} (T : Txt P w K mg A) : Maker P w K mg base 2 "Machine" A.cMachine ["self", "parts", "pairs"] (sp_Machine_init A) := by
  have G_drum_of := ok_drum_of (P := P) (w := w) (base := base) T
  have SC := sc_Machine_init
  refine T.k_Machine.ok (k := 1) sc_Machine_init (fun vs H Q E h => ?_) (fun f cdv Ar outer s H vs Q E hr h => ?_)
  · obtain ⟨x, dx, pp, pl, st, ov, n, t, a, d, l, ps, rfl, _⟩ := h; rfl
  · obtain ⟨x, dx, pp, pl, st, ov, n, t, a, d, l, ps, rfl, hx, hpp, hpl, hl, hn, hok, h⟩ := h
    have n1 : pp ≠ x := ne_of hpp hx (by intro q; cases q)
    have n2 : pl ≠ x := ne_of hpl hx (by intro q; cases q)
    refine ⟨_, (pss_cons (ps_fld (pv 0) (pe_ix ix_lst (pv 1) pe_int (fun _ _ => rfl)) rfl) (pss_cons (ps_fld (pv 0) (pe_ix ix_lst (pv 1) pe_int (fun _ _ => rfl)) rfl) (pss_cons (ps_fld (pv 0) (pe_ix ix_lst (pv 1) pe_int (fun _ _ => rfl)) rfl) (pss_cons (ps_fld (pv 0) (pe_ix ix_lst (pv 1) pe_int (fun _ _ => rfl)) rfl) (pss_cons (ps_fld (pv 0) (pe_ix ix_lst (pv 1) pe_int (fun _ _ => rfl)) rfl) (pss_cons (ps_fld (pv 0) (pe_ix ix_lst (pv 1) pe_int (fun _ _ => rfl)) rfl) (pss_cons (ps_fld (pv 0) (pe_callC G_drum_of hr (by decide) (pa_cons (pv 2) pa_nil)) rfl) (pss_cons (ps_fld (pv 0) (pe_lst pa_nil) rfl) (pss_one (ps_fld (pv 0) (pe_lst pa_nil) rfl)))))))))), ?_⟩
    simp_arith [T.k_Machine.cl, na_Machine_state T, na_Machine_over T, na_Machine_order_at T, na_Machine_tick T, na_Machine_a T, na_Machine_d T, na_Machine_drum T, na_Machine_hopper T, na_Machine_tray T, T.k_Run.cl, na_Run_machine T, na_Run_stops T, na_Run_begun T, na_Run_hopper_before T, na_Run_tray_before T, T.k_Desk.cl, na_Desk_machine T, na_Desk_stops T, na_Desk_journal T, hx, hpp, hpl, upd_ne n1, upd_ne n2]
    refine ⟨(show 0 < 1000 by decide), (show 1 < 1000 by decide), (show 2 < 1000 by decide), (show 3 < 1000 by decide), (show 4 < 1000 by decide), (show 5 < 1000 by decide), pl, l, ps, rfl, by rw [upd_ne n2]; exact hpl, hl, hn, fun dr hdr H1 hs hD1 => ?_⟩
    have x1 := hs _ _ upd_same
    have ndx : x ≠ dr := ne_of_none upd_same hdr
    refine ⟨_, _, _, x1, T.k_Machine.cl, na_Machine_drum T, (show 6 < 1000 by decide), Nat.zero_le _, fun hp hhp => ?_⟩
    have nhx : x ≠ hp := ne_of_none upd_same hhp
    have ndh : dr ≠ hp := ne_of_none (by rw [upd_ne ndx.symm]; exact hD1) hhp
    refine ⟨_, _, _, (by rw [upd_ne nhx, upd_same]), T.k_Machine.cl, na_Machine_hopper T, (by exact (by decide : 7 < 1000)), Nat.zero_le _, fun tr htr => ?_⟩
    have ntx : x ≠ tr := ne_of_none upd_same htr
    have nht : hp ≠ tr := ne_of_none (by rw [upd_ne nhx.symm, upd_same]) htr
    have ndt : dr ≠ tr := ne_of_none (by rw [upd_ne ndx.symm, upd_ne ndh, upd_ne ndx.symm]; exact hD1) htr
    refine ⟨_, _, _, (by rw [upd_ne ntx, upd_same]), T.k_Machine.cl, na_Machine_tray T, (by exact (by decide : 8 < 1000)), ?_⟩
    have hdr0 : H dr = none := by rw [upd_ne ndx.symm] at hdr; exact hdr
    have sm : ∀ b o, H b = some o → b ≠ x → H1 b = some o := fun b o e nb => hs b o (by rw [upd_ne nb]; exact e)
    have hhp0 : H hp = none := by
      rw [upd_ne nhx.symm] at hhp
      cases q : H hp with
      | none => rfl
      | some o => rw [sm hp o q nhx.symm] at hhp; cases hhp
    have htr0 : H tr = none := by
      rw [upd_ne ntx.symm, upd_ne nht.symm, upd_ne ntx.symm] at htr
      cases q : H tr with
      | none => rfl
      | some o => rw [sm tr o q ntx.symm] at htr; cases htr
    refine h dr hp tr _ hdr0 hhp0 htr0 ndh ndt nht (fun b o e nb => ?_) ?_ ?_ ?_ ?_
    · have b1 : b ≠ hp := ne_of_none e hhp0
      have b2 : b ≠ tr := ne_of_none e htr0
      rw [upd_ne nb, upd_ne b2, upd_ne nb, upd_ne b1, upd_ne nb]
      exact sm b o e nb
    · rw [upd_same]
      unfold partsOk at hok
      simp only [Bool.and_eq_true, within_iff] at hok
      obtain ⟨⟨s1, s2⟩, ⟨o1, o2⟩, ⟨n1', n2'⟩, ⟨t1, t2⟩, _⟩ := hok
      have e1 : ((st.toNat : Nat) : Int) = st := Int.toNat_of_nonneg s1
      have e2 : flagI (ov == 1) = ov := by
        rcases (by omega : ov = 0 ∨ ov = 1) with rfl | rfl <;> rfl
      have e3 : ((n.toNat : Nat) : Int) = n := Int.toNat_of_nonneg n1'
      have e4 : ((t.toNat : Nat) : Int) = t := Int.toNat_of_nonneg t1
      unfold mf mkM
      simp only [e1, e2, e3, e4]
      rfl
    · rw [upd_ne ndx.symm, upd_ne ndt, upd_ne ndx.symm, upd_ne ndh, upd_ne ndx.symm]; exact hD1
    · rw [upd_ne nhx.symm, upd_ne nht, upd_ne nhx.symm, upd_same]
    · rw [upd_ne ntx.symm, upd_same]
end Dd

namespace Dd
open PySem PySem.Spec PyProof.Rows L2
open Drum (Machine)
structure MAt (C : Addr) (H : Hp) (x : Addr) (m : Machine) (dr hp tr : Addr) : Prop where
  obj : ∃ dx, H x = some (.ins C dx (mf m dr hp tr))
  drum : H dr = some (.lst (m.drum.map V.int))
def FrM (x dr : Addr) (H H' : Hp) : Prop := ∀ b o, H b = some o → b ≠ x → b ≠ dr → H' b = some o
theorem FrM.refl (x dr : Addr) (H : Hp) : FrM x dr H H := fun _ _ e _ _ => e
theorem FrM.trans {x dr : Addr} {H H1 H2 : Hp} (a : FrM x dr H H1) (b : FrM x dr H1 H2) : FrM x dr H H2 := fun c o e h1 h2 => b c o (a c o e h1 h2) h1 h2
theorem FrM.updx {x dr : Addr} {H : Hp} {o : HO} : FrM x dr H (upd H x o) := fun b u e h1 _ => by rw [upd_ne h1]; exact e
theorem FrM.updd {x dr : Addr} {H : Hp} {o : HO} : FrM x dr H (upd H dr o) := fun b u e _ h2 => by rw [upd_ne h2]; exact e
theorem FrM.same {x dr : Addr} {H H' : Hp} (s : Same H H') : FrM x dr H H' := fun b u e _ _ => s b u e
theorem MAt.ne {C : Addr} {H : Hp} {x : Addr} {m : Machine} {dr hp tr : Addr} (M : MAt C H x m dr hp tr) : dr ≠ x := by
  obtain ⟨dx, hx⟩ := M.obj
  exact ne_of M.drum hx (by intro q; cases q)
theorem MAt.setx {C : Addr} {H : Hp} {x dx : Addr} {m m' : Machine} {dr hp tr : Addr} (M : MAt C H x m dr hp tr) (e : m'.drum = m.drum) : MAt C (upd H x (.ins C dx (mf m' dr hp tr))) x m' dr hp tr :=
  ⟨⟨dx, upd_same⟩, by rw [upd_ne M.ne, e]; exact M.drum⟩
theorem MAt.setd {C : Addr} {H : Hp} {x : Addr} {m : Machine} {dr hp tr : Addr} {l : List Int} (M : MAt C H x m dr hp tr) : MAt C (upd H dr (.lst (l.map V.int))) x { m with drum := l } dr hp tr := by
  obtain ⟨dx, hx⟩ := M.obj
  exact ⟨⟨dx, by rw [upd_ne M.ne.symm]; exact hx⟩, upd_same⟩
theorem MAt.same {C : Addr} {H H' : Hp} {x : Addr} {m : Machine} {dr hp tr : Addr} (M : MAt C H x m dr hp tr) (s : Same H H') : MAt C H' x m dr hp tr := by
  obtain ⟨dx, hx⟩ := M.obj
  exact ⟨⟨dx, s _ _ hx⟩, s _ _ M.drum⟩
structure GoodM (m : Machine) : Prop where
  len : m.drum.length = 2000
  words : ∀ v ∈ m.drum, Drum.isWord v = true
  a : Drum.isLong m.a = true
  d : Drum.isWord m.d = true
  next : m.next < 2000
  tick : m.tick < Drum.WRAP
def aft (c : Nat) (m : Machine) (at_ : Nat) (card : List Int) : Machine := { (Drum.does m ⟨c, at_, m.next⟩ card).m with next := if (Drum.does m ⟨c, at_, m.next⟩ card).jump = true then at_ else m.next }
def tks (c : Nat) (m : Machine) (at_ : Nat) : Nat := (Drum.does m ⟨c, at_, m.next⟩ []).behind + if c = 60 then (Drum.lookUp m at_ m.d).getD 39 else 0
def argOk (c at_ : Nat) : Prop := if c = 1 ∨ c = 43 then True else if 40 ≤ c ∧ c ≤ 42 then at_ ≤ 20 else at_ < 2000
def spM (A : Adr) (c : Nat) : Sp := fun vs H Q _ => ∃ (x : Addr) (at_ : Nat) (m : Machine) (dr hp tr : Addr), vs = [.ref x, .int at_] ∧ MAt A.cMachine H x m dr hp tr ∧ GoodM m ∧ argOk c at_ ∧
  ∀ H', MAt A.cMachine H' x (aft c m at_ []) dr hp tr → FrM x dr H H' → Q (.int (tks c m at_)) H'
theorem spM_len {A : Adr} {c : Nat} {vs : List V} {H : Hp} {Q : VK} {E : XK} (h : spM A c vs H Q E) : vs.length = 2 := by obtain ⟨x, at_, m, dr, hp, tr, rfl, _⟩ := h; rfl
def sp_keep (A : Adr) : Sp := fun vs H Q _ => ∃ (x : Addr) (v : Int) (m : Machine) (dr hp tr : Addr), vs = [.ref x, .int v] ∧ MAt A.cMachine H x m dr hp tr ∧
  ∀ H', MAt A.cMachine H' x (Drum.sumTo m (Drum.fitted v)) dr hp tr → FrM x dr H H' → Q .non H'
theorem ok_keep_in_a {P : Program} {w : World} {K : PySem.W.Frag} {mg : Str → Option Value} {A : Adr} {base : Heap} (T : Txt P w K mg A) : Callee P w K mg base 3 "keep_in_a" ["machine", "number"] (sp_keep A) := by
  have G_is_long := ok_is_long (P := P) (w := w) (base := base) T
  have G_lower_twenty := ok_lower_twenty (P := P) (w := w) (base := base) T
  have SC := sc_keep_in_a
  refine T.f_keep_in_a.ok (k := 2) sc_keep_in_a (fun vs H Q E h => ?_) (fun f cdv Ar outer s H vs Q E hr h => ?_)
  · obtain ⟨x, v, m, dr, hp, tr, rfl, _⟩ := h; rfl
  · obtain ⟨x, v, m, dr, hp, tr, rfl, M, h⟩ := h
    obtain ⟨dx, hx⟩ := M.obj
    refine ⟨_, (pss_one (ps_if (pt_val (pe_callC G_is_long hr (by decide) (pa_cons (pv 1) pa_nil))) (pss_one (ps_fld (pv 0) (pv 1) rfl)) (pss_cons (ps_fld (pv 0) pe_int rfl) (pss_one (ps_fld (pv 0) (pe_callC G_lower_twenty hr (by decide) (pa_cons (pv 1) pa_nil)) rfl))))), ?_⟩
    simp_arith [T.k_Machine.cl, na_Machine_state T, na_Machine_over T, na_Machine_order_at T, na_Machine_tick T, na_Machine_a T, na_Machine_d T, na_Machine_drum T, na_Machine_hopper T, na_Machine_tray T, T.k_Run.cl, na_Run_machine T, na_Run_stops T, na_Run_begun T, na_Run_hopper_before T, na_Run_tray_before T, T.k_Desk.cl, na_Desk_machine T, na_Desk_stops T, na_Desk_journal T, mf_state, mf_over, mf_order_at, mf_tick, mf_a, mf_d, mf_drum, mf_hopper, mf_tray, mp_state, mp_over, mp_over1, mp_over0, mp_order_at, mp_tick, mp_a, mp_d, mp_hopper, mp_tray, mf_len, hx, sp1]
    have e : Drum.sumTo m (Drum.fitted v) = if Drum.isLong v = true then { m with a := v } else { m with a := Drum.signed v (v.natAbs % (Drum.TEN * Drum.TEN)), over := true } := by
      unfold Drum.sumTo Drum.fitted
      split <;> simp
    rw [e] at h
    split
    · rename_i c
      rw [if_pos c] at h
      exact h _ (M.setx rfl) .updx
    · rename_i c
      rw [if_neg c] at h
      exact h _ (M.setx rfl) .updx
theorem ok_do_nothing {P : Program} {w : World} {K : PySem.W.Frag} {mg : Str → Option Value} {A : Adr} {base : Heap} (T : Txt P w K mg A) : Callee P w K mg base 1 "do_nothing" ["machine", "at"] (fun vs H Q _ => ∃ x at_, vs = [.ref x, .int at_] ∧ Q (.int 0) H) := by
  have SC := sc_do_nothing
  refine T.f_do_nothing.ok (k := 0) sc_do_nothing (fun vs H Q E h => ?_) (fun f cdv Ar outer s H vs Q E hr h => ?_)
  · obtain ⟨x, a, rfl, _⟩ := h; rfl
  · obtain ⟨x, a, rfl, h⟩ := h
    refine ⟨_, (pss_one (ps_ret pe_int)), ?_⟩
    simpa only [↓tVar_0, ↓tVar_s, ↓gName_0, ↓gName_s, ↓rI_i, ↓rI0_i, ↓ex_b, ↓ex_i, ↓kS_c, ↓kS_s, ↓lS_s, ↓fS_c, ↓fS_i, ↓gS_c, ↓gS_i, ↓rIxH_i, ↓rLenH_i, ↓tCall_n, ↓rEq_i, ↓rNe_i, kS, lS, fS, gS, L2.start, tSeq, tNext, tRet, tRetN, tIfS, tAsg, gName, tVar, tC, tOp, tUn, tTest, tChain, tAnd, tOr, tNot, tAndV, tOrV, tNotV, tIf, tB, tCall, tCons, tNil, tCB, tDrop, rI, rI0, rU, rEq, rNe, scal, List.map_cons, List.map_nil, List.length_cons, List.length_nil, List.replicate, List.append_nil, List.nil_append, List.cons_append, List.getElem?_cons_zero, List.getElem?_cons_succ, List.set_cons_zero, List.set_cons_succ, Option.some.injEq, V.int.injEq, V.bl.injEq, V.ref.injEq, V.str.injEq, exists_eq_left, exists_eq_left', exists_eq_right, exists_eq_right', exists_and_left, exists_and_right, and_true, true_and, List.cons.injEq, and_self, and_assoc, Bool.false_eq_true, if_false, if_true, ite_true, ite_false, cxOf, rIxH, rLenH, atI_0, atI_1, atI_2, atI_3, atI_4, atI_5, atI_6, tFld, sFld, tBML, upd_same, upd_upd, HO.lst.injEq, HO.ins.injEq, tLst, tSl, tNoPart, tPart, rSlH, gSub, rSetL, sFldAug, rAdd, rSub, rAppend, rExtend, rPopAt, rListOfH, rSumH, rAllH, rCat] using h
theorem ok_load_a {P : Program} {w : World} {K : PySem.W.Frag} {mg : Str → Option Value} {A : Adr} {base : Heap} (T : Txt P w K mg A) : Callee P w K mg base 1 "load_a" ["machine", "at"] (spM A 10) := by
  have SC := sc_load_a
  refine T.f_load_a.ok (k := 0) sc_load_a (fun vs H Q E h => ?_) (fun f cdv Ar outer s H vs Q E hr h => ?_)
  · exact spM_len h
  · obtain ⟨x, at_, m, dr, hp, tr, rfl, M, G, ok, h⟩ := h
    obtain ⟨dx, hx⟩ := M.obj
    refine ⟨_, (pss_cons (ps_fld (pv 0) (pe_fld (pv 0) rfl) rfl) (pss_one (ps_ret pe_int))), ?_⟩
    simp_arith [T.k_Machine.cl, na_Machine_state T, na_Machine_over T, na_Machine_order_at T, na_Machine_tick T, na_Machine_a T, na_Machine_d T, na_Machine_drum T, na_Machine_hopper T, na_Machine_tray T, T.k_Run.cl, na_Run_machine T, na_Run_stops T, na_Run_begun T, na_Run_hopper_before T, na_Run_tray_before T, T.k_Desk.cl, na_Desk_machine T, na_Desk_stops T, na_Desk_journal T, mf_state, mf_over, mf_order_at, mf_tick, mf_a, mf_d, mf_drum, mf_hopper, mf_tray, mp_state, mp_over, mp_over1, mp_over0, mp_order_at, mp_tick, mp_a, mp_d, mp_hopper, mp_tray, mf_len, hx]
    exact h _ (M.setx rfl) .updx
theorem ok_load_negated {P : Program} {w : World} {K : PySem.W.Frag} {mg : Str → Option Value} {A : Adr} {base : Heap} (T : Txt P w K mg A) : Callee P w K mg base 1 "load_negated" ["machine", "at"] (spM A 11) := by
  have SC := sc_load_negated
  refine T.f_load_negated.ok (k := 0) sc_load_negated (fun vs H Q E h => ?_) (fun f cdv Ar outer s H vs Q E hr h => ?_)
  · exact spM_len h
  · obtain ⟨x, at_, m, dr, hp, tr, rfl, M, G, ok, h⟩ := h
    obtain ⟨dx, hx⟩ := M.obj
    refine ⟨_, (pss_cons (ps_fld (pv 0) (pe_un un_neg (pe_fld (pv 0) rfl)) rfl) (pss_one (ps_ret pe_int))), ?_⟩
    simp_arith [T.k_Machine.cl, na_Machine_state T, na_Machine_over T, na_Machine_order_at T, na_Machine_tick T, na_Machine_a T, na_Machine_d T, na_Machine_drum T, na_Machine_hopper T, na_Machine_tray T, T.k_Run.cl, na_Run_machine T, na_Run_stops T, na_Run_begun T, na_Run_hopper_before T, na_Run_tray_before T, T.k_Desk.cl, na_Desk_machine T, na_Desk_stops T, na_Desk_journal T, mf_state, mf_over, mf_order_at, mf_tick, mf_a, mf_d, mf_drum, mf_hopper, mf_tray, mp_state, mp_over, mp_over1, mp_over0, mp_order_at, mp_tick, mp_a, mp_d, mp_hopper, mp_tray, mf_len, hx]
    exact h _ (M.setx rfl) .updx
theorem ok_branch_below_zero {P : Program} {w : World} {K : PySem.W.Frag} {mg : Str → Option Value} {A : Adr} {base : Heap} (T : Txt P w K mg A) : Callee P w K mg base 1 "branch_below_zero" ["machine", "at"] (spM A 50) := by
  have SC := sc_branch_below_zero
  refine T.f_branch_below_zero.ok (k := 0) sc_branch_below_zero (fun vs H Q E h => ?_) (fun f cdv Ar outer s H vs Q E hr h => ?_)
  · exact spM_len h
  · obtain ⟨x, at_, m, dr, hp, tr, rfl, M, G, ok, h⟩ := h
    obtain ⟨dx, hx⟩ := M.obj
    have hd := M.drum
    refine ⟨_, (pss_cons (ps_if (pt_cmpR op_lt (pe_fld (pv 0) rfl) pe_int (nomark _)) (pss_one (ps_fld (pv 0) (pv 1) rfl)) pss_nil) (pss_one (ps_ret pe_int))), ?_⟩
    simp_arith [T.k_Machine.cl, na_Machine_state T, na_Machine_over T, na_Machine_order_at T, na_Machine_tick T, na_Machine_a T, na_Machine_d T, na_Machine_drum T, na_Machine_hopper T, na_Machine_tray T, T.k_Run.cl, na_Run_machine T, na_Run_stops T, na_Run_begun T, na_Run_hopper_before T, na_Run_tray_before T, T.k_Desk.cl, na_Desk_machine T, na_Desk_stops T, na_Desk_journal T, mf_state, mf_over, mf_order_at, mf_tick, mf_a, mf_d, mf_drum, mf_hopper, mf_tray, mp_state, mp_over, mp_over1, mp_over0, mp_order_at, mp_tick, mp_a, mp_d, mp_hopper, mp_tray, mf_len, hx, hd, sp1, sp2, spTen]
    have e : aft 50 m at_ [] = if decide (m.a < 0) = true then { m with next := at_ } else m := by
      unfold aft Drum.does
      by_cases c : m.a < 0
      · simp [c]
      · simp [c]
    rw [e] at h
    split
    · rename_i c
      rw [if_pos c] at h
      exact h _ (M.setx rfl) .updx
    · rename_i c
      rw [if_neg c] at h
      exact h _ M (.refl _ _ _)
theorem ok_branch_not_zero {P : Program} {w : World} {K : PySem.W.Frag} {mg : Str → Option Value} {A : Adr} {base : Heap} (T : Txt P w K mg A) : Callee P w K mg base 1 "branch_not_zero" ["machine", "at"] (spM A 51) := by
  have SC := sc_branch_not_zero
  refine T.f_branch_not_zero.ok (k := 0) sc_branch_not_zero (fun vs H Q E h => ?_) (fun f cdv Ar outer s H vs Q E hr h => ?_)
  · exact spM_len h
  · obtain ⟨x, at_, m, dr, hp, tr, rfl, M, G, ok, h⟩ := h
    obtain ⟨dx, hx⟩ := M.obj
    have hd := M.drum
    refine ⟨_, (pss_cons (ps_if (pt_cmpR op_ne (pe_fld (pv 0) rfl) pe_int (nomark _)) (pss_one (ps_fld (pv 0) (pv 1) rfl)) pss_nil) (pss_one (ps_ret pe_int))), ?_⟩
    simp_arith [T.k_Machine.cl, na_Machine_state T, na_Machine_over T, na_Machine_order_at T, na_Machine_tick T, na_Machine_a T, na_Machine_d T, na_Machine_drum T, na_Machine_hopper T, na_Machine_tray T, T.k_Run.cl, na_Run_machine T, na_Run_stops T, na_Run_begun T, na_Run_hopper_before T, na_Run_tray_before T, T.k_Desk.cl, na_Desk_machine T, na_Desk_stops T, na_Desk_journal T, mf_state, mf_over, mf_order_at, mf_tick, mf_a, mf_d, mf_drum, mf_hopper, mf_tray, mp_state, mp_over, mp_over1, mp_over0, mp_order_at, mp_tick, mp_a, mp_d, mp_hopper, mp_tray, mf_len, hx, hd, sp1, sp2, spTen]
    have e : aft 51 m at_ [] = if (!decide (m.a = 0)) = true then { m with next := at_ } else m := by
      show ({ m with next := if decide (m.a ≠ 0) = true then at_ else m.next } : Machine) = _
      by_cases c : m.a = 0
      · rw [if_neg (by simp [c]), if_neg (by simp [c])]
      · rw [if_pos (by simp [c]), if_pos (by simp [c])]
    rw [e] at h
    split
    · rename_i c
      rw [if_pos c] at h
      exact h _ (M.setx rfl) .updx
    · rename_i c
      rw [if_neg c] at h
      exact h _ M (.refl _ _ _)
theorem ok_branch_over {P : Program} {w : World} {K : PySem.W.Frag} {mg : Str → Option Value} {A : Adr} {base : Heap} (T : Txt P w K mg A) : Callee P w K mg base 1 "branch_over" ["machine", "at"] (spM A 52) := by
  have SC := sc_branch_over
  refine T.f_branch_over.ok (k := 0) sc_branch_over (fun vs H Q E h => ?_) (fun f cdv Ar outer s H vs Q E hr h => ?_)
  · exact spM_len h
  · obtain ⟨x, at_, m, dr, hp, tr, rfl, M, G, ok, h⟩ := h
    obtain ⟨dx, hx⟩ := M.obj
    have hd := M.drum
    refine ⟨_, (pss_cons (ps_if (pt_cmpR op_eq (pe_fld (pv 0) rfl) pe_int (nomark _)) (pss_cons (ps_fld (pv 0) pe_int rfl) (pss_one (ps_fld (pv 0) (pv 1) rfl))) pss_nil) (pss_one (ps_ret pe_int))), ?_⟩
    simp_arith [T.k_Machine.cl, na_Machine_state T, na_Machine_over T, na_Machine_order_at T, na_Machine_tick T, na_Machine_a T, na_Machine_d T, na_Machine_drum T, na_Machine_hopper T, na_Machine_tray T, T.k_Run.cl, na_Run_machine T, na_Run_stops T, na_Run_begun T, na_Run_hopper_before T, na_Run_tray_before T, T.k_Desk.cl, na_Desk_machine T, na_Desk_stops T, na_Desk_journal T, mf_state, mf_over, mf_order_at, mf_tick, mf_a, mf_d, mf_drum, mf_hopper, mf_tray, mp_state, mp_over, mp_over1, mp_over0, mp_order_at, mp_tick, mp_a, mp_d, mp_hopper, mp_tray, mf_len, hx, hd, sp1, sp2, spTen]
    have e : aft 52 m at_ [] = if m.over = true then { m with over := false, next := at_ } else m := by
      unfold aft Drum.does
      obtain ⟨a, b, c, o, _⟩ := m
      cases o <;> rfl
    rw [e] at h
    cases c : m.over with
    | true =>
      rw [if_pos c] at h
      exact h _ (M.setx rfl) .updx
    | false =>
      rw [c, if_neg (by decide)] at h
      exact h _ M (.refl _ _ _)
theorem ok_add {P : Program} {w : World} {K : PySem.W.Frag} {mg : Str → Option Value} {A : Adr} {base : Heap} (T : Txt P w K mg A) : Callee P w K mg base 4 "add" ["machine", "at"] (spM A 12) := by
  have G_keep_in_a := ok_keep_in_a (P := P) (w := w) (base := base) T
  have SC := sc_add
  refine T.f_add.ok (k := 3) sc_add (fun vs H Q E h => ?_) (fun f cdv Ar outer s H vs Q E hr h => ?_)
  · exact spM_len h
  · obtain ⟨x, at_, m, dr, hp, tr, rfl, M, G, ok, h⟩ := h
    obtain ⟨dx, hx⟩ := M.obj
    have hd := M.drum
    refine ⟨_, (pss_cons (ps_expr (pe_callC G_keep_in_a hr (by decide) (pa_cons (pv 0) (pa_cons (pe_op op_add (pe_fld (pv 0) rfl) (pe_fld (pv 0) rfl)) pa_nil)))) (pss_one (ps_ret pe_int))), ?_⟩
    simp_arith [T.k_Machine.cl, na_Machine_state T, na_Machine_over T, na_Machine_order_at T, na_Machine_tick T, na_Machine_a T, na_Machine_d T, na_Machine_drum T, na_Machine_hopper T, na_Machine_tray T, T.k_Run.cl, na_Run_machine T, na_Run_stops T, na_Run_begun T, na_Run_hopper_before T, na_Run_tray_before T, T.k_Desk.cl, na_Desk_machine T, na_Desk_stops T, na_Desk_journal T, mf_state, mf_over, mf_order_at, mf_tick, mf_a, mf_d, mf_drum, mf_hopper, mf_tray, mp_state, mp_over, mp_over1, mp_over0, mp_order_at, mp_tick, mp_a, mp_d, mp_hopper, mp_tray, mf_len, hx, hd, sp1, sp2, spTen]
    exact ⟨x, _, m, dr, hp, tr, rfl, M, fun H' M' F => h H' M' F⟩
theorem ok_subtract {P : Program} {w : World} {K : PySem.W.Frag} {mg : Str → Option Value} {A : Adr} {base : Heap} (T : Txt P w K mg A) : Callee P w K mg base 4 "subtract" ["machine", "at"] (spM A 13) := by
  have G_keep_in_a := ok_keep_in_a (P := P) (w := w) (base := base) T
  have SC := sc_subtract
  refine T.f_subtract.ok (k := 3) sc_subtract (fun vs H Q E h => ?_) (fun f cdv Ar outer s H vs Q E hr h => ?_)
  · exact spM_len h
  · obtain ⟨x, at_, m, dr, hp, tr, rfl, M, G, ok, h⟩ := h
    obtain ⟨dx, hx⟩ := M.obj
    have hd := M.drum
    refine ⟨_, (pss_cons (ps_expr (pe_callC G_keep_in_a hr (by decide) (pa_cons (pv 0) (pa_cons (pe_op op_sub (pe_fld (pv 0) rfl) (pe_fld (pv 0) rfl)) pa_nil)))) (pss_one (ps_ret pe_int))), ?_⟩
    simp_arith [T.k_Machine.cl, na_Machine_state T, na_Machine_over T, na_Machine_order_at T, na_Machine_tick T, na_Machine_a T, na_Machine_d T, na_Machine_drum T, na_Machine_hopper T, na_Machine_tray T, T.k_Run.cl, na_Run_machine T, na_Run_stops T, na_Run_begun T, na_Run_hopper_before T, na_Run_tray_before T, T.k_Desk.cl, na_Desk_machine T, na_Desk_stops T, na_Desk_journal T, mf_state, mf_over, mf_order_at, mf_tick, mf_a, mf_d, mf_drum, mf_hopper, mf_tray, mp_state, mp_over, mp_over1, mp_over0, mp_order_at, mp_tick, mp_a, mp_d, mp_hopper, mp_tray, mf_len, hx, hd, sp1, sp2, spTen]
    exact ⟨x, _, m, dr, hp, tr, rfl, M, fun H' M' F => h H' (by rw [Int.sub_eq_add_neg] at M'; exact M') F⟩
theorem ok_add_without_sign {P : Program} {w : World} {K : PySem.W.Frag} {mg : Str → Option Value} {A : Adr} {base : Heap} (T : Txt P w K mg A) : Callee P w K mg base 4 "add_without_sign" ["machine", "at"] (spM A 14) := by
  have G_keep_in_a := ok_keep_in_a (P := P) (w := w) (base := base) T
  have SC := sc_add_without_sign
  refine T.f_add_without_sign.ok (k := 3) sc_add_without_sign (fun vs H Q E h => ?_) (fun f cdv Ar outer s H vs Q E hr h => ?_)
  · exact spM_len h
  · obtain ⟨x, at_, m, dr, hp, tr, rfl, M, G, ok, h⟩ := h
    obtain ⟨dx, hx⟩ := M.obj
    have hd := M.drum
    refine ⟨_, (pss_cons (ps_expr (pe_callC G_keep_in_a hr (by decide) (pa_cons (pv 0) (pa_cons (pe_op op_add (pe_fld (pv 0) rfl) (pe_callB call_abs (by rfl) T.b_abs bt_abs (pa_cons (pe_fld (pv 0) rfl) pa_nil))) pa_nil)))) (pss_one (ps_ret pe_int))), ?_⟩
    simp_arith [T.k_Machine.cl, na_Machine_state T, na_Machine_over T, na_Machine_order_at T, na_Machine_tick T, na_Machine_a T, na_Machine_d T, na_Machine_drum T, na_Machine_hopper T, na_Machine_tray T, T.k_Run.cl, na_Run_machine T, na_Run_stops T, na_Run_begun T, na_Run_hopper_before T, na_Run_tray_before T, T.k_Desk.cl, na_Desk_machine T, na_Desk_stops T, na_Desk_journal T, mf_state, mf_over, mf_order_at, mf_tick, mf_a, mf_d, mf_drum, mf_hopper, mf_tray, mp_state, mp_over, mp_over1, mp_over0, mp_order_at, mp_tick, mp_a, mp_d, mp_hopper, mp_tray, mf_len, hx, hd, sp1, sp2, spTen]
    exact ⟨x, _, m, dr, hp, tr, rfl, M, fun H' M' F => h H' (by rw [abs_eq] at M'; exact M') F⟩
theorem ok_subtract_without_sign {P : Program} {w : World} {K : PySem.W.Frag} {mg : Str → Option Value} {A : Adr} {base : Heap} (T : Txt P w K mg A) : Callee P w K mg base 4 "subtract_without_sign" ["machine", "at"] (spM A 15) := by
  have G_keep_in_a := ok_keep_in_a (P := P) (w := w) (base := base) T
  have SC := sc_subtract_without_sign
  refine T.f_subtract_without_sign.ok (k := 3) sc_subtract_without_sign (fun vs H Q E h => ?_) (fun f cdv Ar outer s H vs Q E hr h => ?_)
  · exact spM_len h
  · obtain ⟨x, at_, m, dr, hp, tr, rfl, M, G, ok, h⟩ := h
    obtain ⟨dx, hx⟩ := M.obj
    have hd := M.drum
    refine ⟨_, (pss_cons (ps_expr (pe_callC G_keep_in_a hr (by decide) (pa_cons (pv 0) (pa_cons (pe_op op_sub (pe_fld (pv 0) rfl) (pe_callB call_abs (by rfl) T.b_abs bt_abs (pa_cons (pe_fld (pv 0) rfl) pa_nil))) pa_nil)))) (pss_one (ps_ret pe_int))), ?_⟩
    simp_arith [T.k_Machine.cl, na_Machine_state T, na_Machine_over T, na_Machine_order_at T, na_Machine_tick T, na_Machine_a T, na_Machine_d T, na_Machine_drum T, na_Machine_hopper T, na_Machine_tray T, T.k_Run.cl, na_Run_machine T, na_Run_stops T, na_Run_begun T, na_Run_hopper_before T, na_Run_tray_before T, T.k_Desk.cl, na_Desk_machine T, na_Desk_stops T, na_Desk_journal T, mf_state, mf_over, mf_order_at, mf_tick, mf_a, mf_d, mf_drum, mf_hopper, mf_tray, mp_state, mp_over, mp_over1, mp_over0, mp_order_at, mp_tick, mp_a, mp_d, mp_hopper, mp_tray, mf_len, hx, hd, sp1, sp2, spTen]
    exact ⟨x, _, m, dr, hp, tr, rfl, M, fun H' M' F => h H' (by rw [abs_eq, Int.sub_eq_add_neg] at M'; exact M') F⟩
theorem ok_add_upper {P : Program} {w : World} {K : PySem.W.Frag} {mg : Str → Option Value} {A : Adr} {base : Heap} (T : Txt P w K mg A) : Callee P w K mg base 4 "add_upper" ["machine", "at"] (spM A 16) := by
  have G_keep_in_a := ok_keep_in_a (P := P) (w := w) (base := base) T
  have SC := sc_add_upper
  refine T.f_add_upper.ok (k := 3) sc_add_upper (fun vs H Q E h => ?_) (fun f cdv Ar outer s H vs Q E hr h => ?_)
  · exact spM_len h
  · obtain ⟨x, at_, m, dr, hp, tr, rfl, M, G, ok, h⟩ := h
    obtain ⟨dx, hx⟩ := M.obj
    have hd := M.drum
    refine ⟨_, (pss_cons (ps_expr (pe_callC G_keep_in_a hr (by decide) (pa_cons (pv 0) (pa_cons (pe_op op_add (pe_fld (pv 0) rfl) (pe_op op_mulB (pe_fld (pv 0) rfl) (pe_gint T.c_WORD_SIZE))) pa_nil)))) (pss_one (ps_ret pe_int))), ?_⟩
    simp_arith [T.k_Machine.cl, na_Machine_state T, na_Machine_over T, na_Machine_order_at T, na_Machine_tick T, na_Machine_a T, na_Machine_d T, na_Machine_drum T, na_Machine_hopper T, na_Machine_tray T, T.k_Run.cl, na_Run_machine T, na_Run_stops T, na_Run_begun T, na_Run_hopper_before T, na_Run_tray_before T, T.k_Desk.cl, na_Desk_machine T, na_Desk_stops T, na_Desk_journal T, mf_state, mf_over, mf_order_at, mf_tick, mf_a, mf_d, mf_drum, mf_hopper, mf_tray, mp_state, mp_over, mp_over1, mp_over0, mp_order_at, mp_tick, mp_a, mp_d, mp_hopper, mp_tray, mf_len, hx, hd, sp1, sp2, spTen]
    have hw := (isWord_iff _).mp G.d
    exact ⟨⟨by omega, by decide⟩, x, _, m, dr, hp, tr, rfl, M, fun H' M' F => h H' M' F⟩
theorem ok_subtract_upper {P : Program} {w : World} {K : PySem.W.Frag} {mg : Str → Option Value} {A : Adr} {base : Heap} (T : Txt P w K mg A) : Callee P w K mg base 4 "subtract_upper" ["machine", "at"] (spM A 17) := by
  have G_keep_in_a := ok_keep_in_a (P := P) (w := w) (base := base) T
  have SC := sc_subtract_upper
  refine T.f_subtract_upper.ok (k := 3) sc_subtract_upper (fun vs H Q E h => ?_) (fun f cdv Ar outer s H vs Q E hr h => ?_)
  · exact spM_len h
  · obtain ⟨x, at_, m, dr, hp, tr, rfl, M, G, ok, h⟩ := h
    obtain ⟨dx, hx⟩ := M.obj
    have hd := M.drum
    refine ⟨_, (pss_cons (ps_expr (pe_callC G_keep_in_a hr (by decide) (pa_cons (pv 0) (pa_cons (pe_op op_sub (pe_fld (pv 0) rfl) (pe_op op_mulB (pe_fld (pv 0) rfl) (pe_gint T.c_WORD_SIZE))) pa_nil)))) (pss_one (ps_ret pe_int))), ?_⟩
    simp_arith [T.k_Machine.cl, na_Machine_state T, na_Machine_over T, na_Machine_order_at T, na_Machine_tick T, na_Machine_a T, na_Machine_d T, na_Machine_drum T, na_Machine_hopper T, na_Machine_tray T, T.k_Run.cl, na_Run_machine T, na_Run_stops T, na_Run_begun T, na_Run_hopper_before T, na_Run_tray_before T, T.k_Desk.cl, na_Desk_machine T, na_Desk_stops T, na_Desk_journal T, mf_state, mf_over, mf_order_at, mf_tick, mf_a, mf_d, mf_drum, mf_hopper, mf_tray, mp_state, mp_over, mp_over1, mp_over0, mp_order_at, mp_tick, mp_a, mp_d, mp_hopper, mp_tray, mf_len, hx, hd, sp1, sp2, spTen]
    have hw := (isWord_iff _).mp G.d
    exact ⟨⟨by omega, by decide⟩, x, _, m, dr, hp, tr, rfl, M, fun H' M' F => h H' (by rw [Int.sub_eq_add_neg] at M'; exact M') F⟩
theorem ok_store_lower {P : Program} {w : World} {K : PySem.W.Frag} {mg : Str → Option Value} {A : Adr} {base : Heap} (T : Txt P w K mg A) : Callee P w K mg base 3 "store_lower" ["machine", "at"] (spM A 30) := by
  have G_lower_word := ok_lower_word (P := P) (w := w) (base := base) T
  have SC := sc_store_lower
  refine T.f_store_lower.ok (k := 2) sc_store_lower (fun vs H Q E h => ?_) (fun f cdv Ar outer s H vs Q E hr h => ?_)
  · exact spM_len h
  · obtain ⟨x, at_, m, dr, hp, tr, rfl, M, G, ok, h⟩ := h
    obtain ⟨dx, hx⟩ := M.obj
    have hd := M.drum
    refine ⟨_, (pss_cons (ps_asg (pe_callC G_lower_word hr (by decide) (pa_cons (pe_fld (pv 0) rfl) pa_nil)) (pg_sub (pe_fld (pv 0) rfl) (pv 1) set_list)) (pss_one (ps_ret pe_int))), ?_⟩
    simp_arith [T.k_Machine.cl, na_Machine_state T, na_Machine_over T, na_Machine_order_at T, na_Machine_tick T, na_Machine_a T, na_Machine_d T, na_Machine_drum T, na_Machine_hopper T, na_Machine_tray T, T.k_Run.cl, na_Run_machine T, na_Run_stops T, na_Run_begun T, na_Run_hopper_before T, na_Run_tray_before T, T.k_Desk.cl, na_Desk_machine T, na_Desk_stops T, na_Desk_journal T, mf_state, mf_over, mf_order_at, mf_tick, mf_a, mf_d, mf_drum, mf_hopper, mf_tray, mp_state, mp_over, mp_over1, mp_over0, mp_order_at, mp_tick, mp_a, mp_d, mp_hopper, mp_tray, mf_len, hx, hd, sp1, sp2, spTen]
    have hat : at_ < 2000 := by simpa [argOk] using ok
    refine ⟨at_, by rw [List.length_map, G.len]; exact ixN_nat hat, ?_⟩
    rw [map_set_int]
    exact h _ M.setd .updd
theorem ok_store_upper {P : Program} {w : World} {K : PySem.W.Frag} {mg : Str → Option Value} {A : Adr} {base : Heap} (T : Txt P w K mg A) : Callee P w K mg base 3 "store_upper" ["machine", "at"] (spM A 31) := by
  have G_upper_word := ok_upper_word (P := P) (w := w) (base := base) T
  have SC := sc_store_upper
  refine T.f_store_upper.ok (k := 2) sc_store_upper (fun vs H Q E h => ?_) (fun f cdv Ar outer s H vs Q E hr h => ?_)
  · exact spM_len h
  · obtain ⟨x, at_, m, dr, hp, tr, rfl, M, G, ok, h⟩ := h
    obtain ⟨dx, hx⟩ := M.obj
    have hd := M.drum
    refine ⟨_, (pss_cons (ps_asg (pe_callC G_upper_word hr (by decide) (pa_cons (pe_fld (pv 0) rfl) pa_nil)) (pg_sub (pe_fld (pv 0) rfl) (pv 1) set_list)) (pss_one (ps_ret pe_int))), ?_⟩
    simp_arith [T.k_Machine.cl, na_Machine_state T, na_Machine_over T, na_Machine_order_at T, na_Machine_tick T, na_Machine_a T, na_Machine_d T, na_Machine_drum T, na_Machine_hopper T, na_Machine_tray T, T.k_Run.cl, na_Run_machine T, na_Run_stops T, na_Run_begun T, na_Run_hopper_before T, na_Run_tray_before T, T.k_Desk.cl, na_Desk_machine T, na_Desk_stops T, na_Desk_journal T, mf_state, mf_over, mf_order_at, mf_tick, mf_a, mf_d, mf_drum, mf_hopper, mf_tray, mp_state, mp_over, mp_over1, mp_over0, mp_order_at, mp_tick, mp_a, mp_d, mp_hopper, mp_tray, mf_len, hx, hd, sp1, sp2, spTen]
    have hat : at_ < 2000 := by simpa [argOk] using ok
    refine ⟨at_, by rw [List.length_map, G.len]; exact ixN_nat hat, ?_⟩
    rw [map_set_int]
    exact h _ M.setd .updd
theorem ok_store_d {P : Program} {w : World} {K : PySem.W.Frag} {mg : Str → Option Value} {A : Adr} {base : Heap} (T : Txt P w K mg A) : Callee P w K mg base 1 "store_d" ["machine", "at"] (spM A 32) := by
  have SC := sc_store_d
  refine T.f_store_d.ok (k := 0) sc_store_d (fun vs H Q E h => ?_) (fun f cdv Ar outer s H vs Q E hr h => ?_)
  · exact spM_len h
  · obtain ⟨x, at_, m, dr, hp, tr, rfl, M, G, ok, h⟩ := h
    obtain ⟨dx, hx⟩ := M.obj
    have hd := M.drum
    refine ⟨_, (pss_cons (ps_asg (pe_fld (pv 0) rfl) (pg_sub (pe_fld (pv 0) rfl) (pv 1) set_list)) (pss_one (ps_ret pe_int))), ?_⟩
    simp_arith [T.k_Machine.cl, na_Machine_state T, na_Machine_over T, na_Machine_order_at T, na_Machine_tick T, na_Machine_a T, na_Machine_d T, na_Machine_drum T, na_Machine_hopper T, na_Machine_tray T, T.k_Run.cl, na_Run_machine T, na_Run_stops T, na_Run_begun T, na_Run_hopper_before T, na_Run_tray_before T, T.k_Desk.cl, na_Desk_machine T, na_Desk_stops T, na_Desk_journal T, mf_state, mf_over, mf_order_at, mf_tick, mf_a, mf_d, mf_drum, mf_hopper, mf_tray, mp_state, mp_over, mp_over1, mp_over0, mp_order_at, mp_tick, mp_a, mp_d, mp_hopper, mp_tray, mf_len, hx, hd, sp1, sp2, spTen]
    have hat : at_ < 2000 := by simpa [argOk] using ok
    refine ⟨at_, by rw [List.length_map, G.len]; exact ixN_nat hat, ?_⟩
    rw [map_set_int]
    exact h _ M.setd .updd
theorem long_abs {z : Int} (h : Drum.isLong z = true) : z.natAbs < 10 ^ 20 := by
  have := (isLong_iff z).mp h
  omega
theorem word_abs {z : Int} (h : Drum.isWord z = true) : z.natAbs < 10 ^ 10 := by
  have := (isWord_iff z).mp h
  omega
theorem long_mul {z : Int} (h : Drum.isLong z = true) : z.natAbs < 2 ^ 100 := Nat.lt_of_lt_of_le (long_abs h) (by decide)
theorem word_mul {z : Int} (h : Drum.isWord z = true) : z.natAbs < 2 ^ 100 := Nat.lt_of_lt_of_le (word_abs h) (by decide)
theorem ten_pos (k : Nat) : (0 : Int) < 10 ^ k := Int.pow_pos (by decide)
theorem ten_ltI {k : Nat} (h : k ≤ 20) : ((10 : Int) ^ k) < 2 ^ 100 := by
  have h1 := ten_lt h
  have h2 := ten_pos k
  omega
theorem ok_shift_left {P : Program} {w : World} {K : PySem.W.Frag} {mg : Str → Option Value} {A : Adr} {base : Heap} (T : Txt P w K mg A) : Callee P w K mg base 4 "shift_left" ["machine", "at"] (spM A 40) := by
  have G_power_of_ten := ok_power_of_ten (P := P) (w := w) (base := base) T
  have G_keep_in_a := ok_keep_in_a (P := P) (w := w) (base := base) T
  have SC := sc_shift_left
  refine T.f_shift_left.ok (k := 3) sc_shift_left (fun vs H Q E h => ?_) (fun f cdv Ar outer s H vs Q E hr h => ?_)
  · exact spM_len h
  · obtain ⟨x, at_, m, dr, hp, tr, rfl, M, G, ok, h⟩ := h
    obtain ⟨dx, hx⟩ := M.obj
    have hd := M.drum
    refine ⟨_, (pss_cons (ps_expr (pe_callC G_keep_in_a hr (by decide) (pa_cons (pv 0) (pa_cons (pe_op op_mulB (pe_fld (pv 0) rfl) (pe_callC G_power_of_ten hr (by decide) (pa_cons (pv 1) pa_nil))) pa_nil)))) (pss_one (ps_ret (pe_op op_add pe_int (pv 1))))), ?_⟩
    simp_arith [T.k_Machine.cl, na_Machine_state T, na_Machine_over T, na_Machine_order_at T, na_Machine_tick T, na_Machine_a T, na_Machine_d T, na_Machine_drum T, na_Machine_hopper T, na_Machine_tray T, T.k_Run.cl, na_Run_machine T, na_Run_stops T, na_Run_begun T, na_Run_hopper_before T, na_Run_tray_before T, T.k_Desk.cl, na_Desk_machine T, na_Desk_stops T, na_Desk_journal T, mf_state, mf_over, mf_order_at, mf_tick, mf_a, mf_d, mf_drum, mf_hopper, mf_tray, mp_state, mp_over, mp_over1, mp_over0, mp_order_at, mp_tick, mp_a, mp_d, mp_hopper, mp_tray, mf_len, hx, hd, sp1, sp2, spTen]
    have hat : at_ ≤ 20 := by simpa [argOk] using ok
    simp only [Int.toNat_natCast]
    exact ⟨by omega, by omega, ⟨long_mul G.a, ten_lt hat⟩, x, _, m, dr, hp, tr, rfl, M, fun H' M' F => by
      have := h H' M' F
      simpa [tks, Drum.does, Drum.did] using this⟩
theorem tdiv_ten (z : Int) (k : Nat) : z.tdiv (10 ^ k) = Drum.right z k := by
  rw [tdiv_eq]
  unfold Drum.right Drum.signed
  have h1 : decide ((10 : Int) ^ k < 0) = false := decide_eq_false (by have := ten_pos k; omega)
  have h2 : ((10 : Int) ^ k).natAbs = 10 ^ k := by rw [Int.natAbs_pow]; rfl
  rw [h1, h2]
  by_cases c : z < 0
  · rw [decide_eq_true c, if_neg (by decide), if_pos c]
  · rw [decide_eq_false c, if_pos rfl, if_neg c]
theorem near_ten (z : Int) (k : Nat) : signZ z (((z.natAbs : Int) + 10 ^ k / 2) / 10 ^ k) = Drum.round z k := by
  unfold Drum.round
  have e : ((z.natAbs : Int) + 10 ^ k / 2) / 10 ^ k = (((2 * z.natAbs + 10 ^ k) / (2 * 10 ^ k) : Nat) : Int) := by
    cases k with
    | zero => simp; omega
    | succ k =>
      have h0 : 0 < 10 ^ k := Nat.pow_pos (by decide)
      rw [Nat.pow_succ, Int.pow_succ]
      have e1 : ((10 : Int) ^ k) = ((10 ^ k : Nat) : Int) := by rw [Int.natCast_pow]; rfl
      rw [e1]
      generalize 10 ^ k = p at *
      have e2 : ((p : Int) * 10 / 2) = ((p * 5 : Nat) : Int) := by omega
      rw [e2]
      have e3 : (z.natAbs : Int) + ((p * 5 : Nat) : Int) = ((z.natAbs + p * 5 : Nat) : Int) := by omega
      have e4 : (p : Int) * 10 = ((p * 10 : Nat) : Int) := by omega
      rw [e3, e4, ← Int.natCast_ediv]
      congr 1
      rw [show 2 * z.natAbs + p * 10 = 2 * (z.natAbs + p * 5) by omega, Nat.mul_div_mul_left _ _ (by decide)]
  rw [e, signZ_cast]
theorem ok_shift_right {P : Program} {w : World} {K : PySem.W.Frag} {mg : Str → Option Value} {A : Adr} {base : Heap} (T : Txt P w K mg A) : Callee P w K mg base 2 "shift_right" ["machine", "at"] (spM A 41) := by
  have G_quotient_toward_zero := ok_quotient_toward_zero (P := P) (w := w) (base := base) T
  have G_power_of_ten := ok_power_of_ten (P := P) (w := w) (base := base) T
  have SC := sc_shift_right
  refine T.f_shift_right.ok (k := 1) sc_shift_right (fun vs H Q E h => ?_) (fun f cdv Ar outer s H vs Q E hr h => ?_)
  · exact spM_len h
  · obtain ⟨x, at_, m, dr, hp, tr, rfl, M, G, ok, h⟩ := h
    obtain ⟨dx, hx⟩ := M.obj
    have hd := M.drum
    refine ⟨_, (pss_cons (ps_fld (pv 0) (pe_callC G_quotient_toward_zero hr (by decide) (pa_cons (pe_fld (pv 0) rfl) (pa_cons (pe_callC G_power_of_ten hr (by decide) (pa_cons (pv 1) pa_nil)) pa_nil))) rfl) (pss_one (ps_ret (pe_op op_add pe_int (pv 1))))), ?_⟩
    simp_arith [T.k_Machine.cl, na_Machine_state T, na_Machine_over T, na_Machine_order_at T, na_Machine_tick T, na_Machine_a T, na_Machine_d T, na_Machine_drum T, na_Machine_hopper T, na_Machine_tray T, T.k_Run.cl, na_Run_machine T, na_Run_stops T, na_Run_begun T, na_Run_hopper_before T, na_Run_tray_before T, T.k_Desk.cl, na_Desk_machine T, na_Desk_stops T, na_Desk_journal T, mf_state, mf_over, mf_order_at, mf_tick, mf_a, mf_d, mf_drum, mf_hopper, mf_tray, mp_state, mp_over, mp_over1, mp_over0, mp_order_at, mp_tick, mp_a, mp_d, mp_hopper, mp_tray, mf_len, hx, hd, sp1, sp2, spTen]
    have hat : at_ ≤ 20 := by simpa [argOk] using ok
    simp only [Int.toNat_natCast]
    refine ⟨by omega, by omega, by have := ten_pos at_; omega, ten_lt hat, ?_⟩
    rw [tdiv_ten]
    have := h _ (M.setx (dx := dx) (m' := { m with a := Drum.right m.a at_ }) rfl) .updx
    simpa [tks, Drum.does, Drum.did] using this
theorem ok_shift_right_rounded {P : Program} {w : World} {K : PySem.W.Frag} {mg : Str → Option Value} {A : Adr} {base : Heap} (T : Txt P w K mg A) : Callee P w K mg base 3 "shift_right_rounded" ["machine", "at"] (spM A 42) := by
  have G_quotient_to_nearest := ok_quotient_to_nearest (P := P) (w := w) (base := base) T
  have G_power_of_ten := ok_power_of_ten (P := P) (w := w) (base := base) T
  have SC := sc_shift_right_rounded
  refine T.f_shift_right_rounded.ok (k := 2) sc_shift_right_rounded (fun vs H Q E h => ?_) (fun f cdv Ar outer s H vs Q E hr h => ?_)
  · exact spM_len h
  · obtain ⟨x, at_, m, dr, hp, tr, rfl, M, G, ok, h⟩ := h
    obtain ⟨dx, hx⟩ := M.obj
    have hd := M.drum
    refine ⟨_, (pss_cons (ps_fld (pv 0) (pe_callC G_quotient_to_nearest hr (by decide) (pa_cons (pe_fld (pv 0) rfl) (pa_cons (pe_callC G_power_of_ten hr (by decide) (pa_cons (pv 1) pa_nil)) pa_nil))) rfl) (pss_one (ps_ret (pe_op op_add pe_int (pv 1))))), ?_⟩
    simp_arith [T.k_Machine.cl, na_Machine_state T, na_Machine_over T, na_Machine_order_at T, na_Machine_tick T, na_Machine_a T, na_Machine_d T, na_Machine_drum T, na_Machine_hopper T, na_Machine_tray T, T.k_Run.cl, na_Run_machine T, na_Run_stops T, na_Run_begun T, na_Run_hopper_before T, na_Run_tray_before T, T.k_Desk.cl, na_Desk_machine T, na_Desk_stops T, na_Desk_journal T, mf_state, mf_over, mf_order_at, mf_tick, mf_a, mf_d, mf_drum, mf_hopper, mf_tray, mp_state, mp_over, mp_over1, mp_over0, mp_order_at, mp_tick, mp_a, mp_d, mp_hopper, mp_tray, mf_len, hx, hd, sp1, sp2, spTen]
    have hat : at_ ≤ 20 := by simpa [argOk] using ok
    simp only [Int.toNat_natCast]
    refine ⟨by omega, by omega, ten_pos _, ten_ltI hat, ?_⟩
    rw [near_ten]
    have := h _ (M.setx (dx := dx) (m' := { m with a := Drum.round m.a at_ }) rfl) .updx
    simpa [tks, Drum.does, Drum.did] using this
theorem lower_abs (z : Int) : (Drum.lower z).natAbs < 10 ^ 10 := by
  unfold Drum.lower Drum.signed Drum.TEN
  split <;> omega
theorem sumN_le : ∀ (l : List Nat), (∀ x ∈ l, x ≤ 9) → Drum.sumN l ≤ 9 * l.length
  | [], _ => Nat.le_refl _
  | a :: r, h => by
    have ih := sumN_le r fun x hx => h x (List.mem_cons_of_mem _ hx)
    have ha := h a (List.mem_cons_self)
    rw [sumN_cons, List.length_cons]
    omega
theorem digitSum_le (z : Int) : Drum.digitSum z ≤ 180 := by
  unfold Drum.digitSum
  have := sumN_le ((List.range 20).map fun k => Drum.digit z.natAbs k) (fun x hx => by
    obtain ⟨k, _, rfl⟩ := List.mem_map.mp hx
    unfold Drum.digit
    omega)
  rw [List.length_map, List.length_range] at this
  exact this
theorem ok_multiply {P : Program} {w : World} {K : PySem.W.Frag} {mg : Str → Option Value} {A : Adr} {base : Heap} (T : Txt P w K mg A) : Callee P w K mg base 3 "multiply" ["machine", "at"] (spM A 20) := by
  have G_lower_word := ok_lower_word (P := P) (w := w) (base := base) T
  have G_digit_sum := ok_digit_sum (P := P) (w := w) (base := base) T
  have SC := sc_multiply
  refine T.f_multiply.ok (k := 2) sc_multiply (fun vs H Q E h => ?_) (fun f cdv Ar outer s H vs Q E hr h => ?_)
  · exact spM_len h
  · obtain ⟨x, at_, m, dr, hp, tr, rfl, M, G, ok, h⟩ := h
    obtain ⟨dx, hx⟩ := M.obj
    have hd := M.drum
    refine ⟨_, (pss_cons (ps_fld (pv 0) (pe_op op_mulB (pe_callC G_lower_word hr (by decide) (pa_cons (pe_fld (pv 0) rfl) pa_nil)) (pe_fld (pv 0) rfl)) rfl) (pss_one (ps_ret (pe_op op_add pe_int (pe_op op_mulB pe_int (pe_callC G_digit_sum hr (by decide) (pa_cons (pe_fld (pv 0) rfl) pa_nil))))))), ?_⟩
    simp_arith [T.k_Machine.cl, na_Machine_state T, na_Machine_over T, na_Machine_order_at T, na_Machine_tick T, na_Machine_a T, na_Machine_d T, na_Machine_drum T, na_Machine_hopper T, na_Machine_tray T, T.k_Run.cl, na_Run_machine T, na_Run_stops T, na_Run_begun T, na_Run_hopper_before T, na_Run_tray_before T, T.k_Desk.cl, na_Desk_machine T, na_Desk_stops T, na_Desk_journal T, mf_state, mf_over, mf_order_at, mf_tick, mf_a, mf_d, mf_drum, mf_hopper, mf_tray, mp_state, mp_over, mp_over1, mp_over0, mp_order_at, mp_tick, mp_a, mp_d, mp_hopper, mp_tray, mf_len, hx, hd, sp1, sp2, spTen]
    refine ⟨⟨Nat.lt_of_lt_of_le (lower_abs _) (by decide), word_mul G.d⟩, m.d, rfl, Nat.lt_of_lt_of_le (word_abs G.d) (by decide), fun H' hs => ⟨_, rfl, ⟨by decide, ?_⟩, ?_⟩⟩
    · have := digitSum_le m.d
      omega
    · have := h H' ((M.setx (dx := dx) (m' := { m with a := Drum.lower m.a * m.d }) rfl).same hs) (FrM.updx.trans (.same hs))
      simpa [tks, Drum.does, Drum.did] using this
theorem ok_divide {P : Program} {w : World} {K : PySem.W.Frag} {mg : Str → Option Value} {A : Adr} {base : Heap} (T : Txt P w K mg A) : Callee P w K mg base 2 "divide" ["machine", "at"] (spM A 21) := by
  have G_quotient_toward_zero := ok_quotient_toward_zero (P := P) (w := w) (base := base) T
  have G_digit_sum := ok_digit_sum (P := P) (w := w) (base := base) T
  have SC := sc_divide
  refine T.f_divide.ok (k := 1) sc_divide (fun vs H Q E h => ?_) (fun f cdv Ar outer s H vs Q E hr h => ?_)
  · exact spM_len h
  · obtain ⟨x, at_, m, dr, hp, tr, rfl, M, G, ok, h⟩ := h
    obtain ⟨dx, hx⟩ := M.obj
    have hd := M.drum
    refine ⟨_, (pss_cons (ps_if (pt_cmpR op_ge (pe_callB call_abs (by rfl) T.b_abs bt_abs (pa_cons (pe_fld (pv 0) rfl) pa_nil)) (pe_op op_mulB (pe_callB call_abs (by rfl) T.b_abs bt_abs (pa_cons (pe_fld (pv 0) rfl) pa_nil)) (pe_gint T.c_WORD_SIZE)) (nomark _)) (pss_cons (ps_fld (pv 0) pe_int rfl) (pss_one (ps_ret pe_int))) pss_nil) (pss_cons (ps_set (i := 2) SC.nd rfl (by first | exact Or.inl rfl | exact Or.inr rfl) (pe_callC G_quotient_toward_zero hr (by decide) (pa_cons (pe_fld (pv 0) rfl) (pa_cons (pe_fld (pv 0) rfl) pa_nil)))) (pss_cons (ps_fld (pv 0) (pe_op op_sub (pe_fld (pv 0) rfl) (pe_op op_mulB (pv 2) (pe_fld (pv 0) rfl))) rfl) (pss_cons (ps_fld (pv 0) (pv 2) rfl) (pss_one (ps_ret (pe_op op_add pe_int (pe_op op_mulB pe_int (pe_callC G_digit_sum hr (by decide) (pa_cons (pv 2) pa_nil)))))))))), ?_⟩
    simp_arith [T.k_Machine.cl, na_Machine_state T, na_Machine_over T, na_Machine_order_at T, na_Machine_tick T, na_Machine_a T, na_Machine_d T, na_Machine_drum T, na_Machine_hopper T, na_Machine_tray T, T.k_Run.cl, na_Run_machine T, na_Run_stops T, na_Run_begun T, na_Run_hopper_before T, na_Run_tray_before T, T.k_Desk.cl, na_Desk_machine T, na_Desk_stops T, na_Desk_journal T, mf_state, mf_over, mf_order_at, mf_tick, mf_a, mf_d, mf_drum, mf_hopper, mf_tray, mp_state, mp_over, mp_over1, mp_over0, mp_order_at, mp_tick, mp_a, mp_d, mp_hopper, mp_tray, mf_len, hx, hd, sp1, sp2, spTen]
    simp only [abs_eq]
    have hw := word_abs G.d
    have ha := long_abs G.a
    refine ⟨⟨by omega, by decide⟩, ?_⟩
    by_cases c : m.d = 0 ∨ m.d.natAbs * Drum.TEN ≤ m.a.natAbs
    · have e : (Drum.by_ m.a m.d) = (m.a, 0, true) := by unfold Drum.by_; rw [if_pos c]
      have c' : (m.d.natAbs : Int) * 10000000000 ≤ (m.a.natAbs : Int) := by unfold Drum.TEN at c; omega
      rw [if_pos (decide_eq_true c')]
      have e1 : aft 21 m at_ [] = { m with over := true } := by simp [aft, Drum.does, e, Drum.did]
      have e2 : tks 21 m at_ = 6 := by simp [tks, Drum.does, e, Drum.did]
      rw [e1, e2] at h
      exact h _ (M.setx rfl) .updx
    · have e : (Drum.by_ m.a m.d) = (m.a.tdiv m.d, m.a.tmod m.d, false) := by unfold Drum.by_; rw [if_neg c]
      have c' : ¬ (m.d.natAbs : Int) * 10000000000 ≤ (m.a.natAbs : Int) := by unfold Drum.TEN at c; omega
      rw [if_neg (by rw [decide_eq_true_iff]; exact c')]
      have hq : (m.a.tdiv m.d).natAbs ≤ m.a.natAbs := by rw [Int.natAbs_tdiv]; exact Nat.div_le_self _ _
      have e1 : aft 21 m at_ [] = { m with a := m.a.tdiv m.d, d := m.a.tmod m.d } := by simp [aft, Drum.does, e, Drum.did]
      have e2 : tks 21 m at_ = 6 + 2 * Drum.digitSum (m.a.tdiv m.d) := by simp [tks, Drum.does, e, Drum.did]
      have e3 : m.a - m.a.tdiv m.d * m.d = m.a.tmod m.d := by rw [Int.tmod_def, Int.mul_comm]
      rw [e1, e2] at h
      rw [e3]
      refine ⟨fun q => c (.inl q), by omega, ⟨by omega, by omega⟩, _, rfl, by omega, fun H' hs => ⟨_, rfl, ⟨by decide, ?_⟩, ?_⟩⟩
      · have := digitSum_le (m.a.tdiv m.d)
        omega
      · have := h H' ((M.setx (dx := dx) (m' := { m with a := m.a.tdiv m.d, d := m.a.tmod m.d }) rfl).same hs) (FrM.updx.trans (.same hs))
        simpa using this
theorem str_len (n : Nat) : (Str.ofString (toString (n : Int))).length = (TL.numL n).length := by
  rw [← TL.tl_num, TL.len_tl]
theorem digits_num {n : Nat} (h : n ≠ 0) : Drum.digits n = (TL.numL n).length := by
  unfold Drum.digits TL.numL
  rw [if_neg h, List.length_map]
theorem numL_pos (n : Nat) : 0 < (TL.numL n).length := List.length_pos_iff.mpr (TL.numL_ne n)
theorem ok_scale {P : Program} {w : World} {K : PySem.W.Frag} {mg : Str → Option Value} {A : Adr} {base : Heap} (T : Txt P w K mg A) : Callee P w K mg base 2 "scale" ["machine", "at"] (spM A 43) := by
  have G_power_of_ten := ok_power_of_ten (P := P) (w := w) (base := base) T
  have SC := sc_scale
  refine T.f_scale.ok (k := 1) sc_scale (fun vs H Q E h => ?_) (fun f cdv Ar outer s H vs Q E hr h => ?_)
  · exact spM_len h
  · obtain ⟨x, at_, m, dr, hp, tr, rfl, M, G, ok, h⟩ := h
    obtain ⟨dx, hx⟩ := M.obj
    have hd := M.drum
    refine ⟨_, (pss_cons (ps_set (i := 2) SC.nd rfl (by first | exact Or.inl rfl | exact Or.inr rfl) pe_int) (pss_cons (ps_if (pt_cmpR op_ne (pe_fld (pv 0) rfl) pe_int (nomark _)) (pss_one (ps_set (i := 2) SC.nd rfl (by first | exact Or.inl rfl | exact Or.inr rfl) (pe_op op_sub pe_int (pe_callB call_len_str (by rfl) T.b_len bt_len (pa_cons (pe_callTy call_str_int (by rfl) T.b_str bt_str (pa_cons (pe_callB call_abs (by rfl) T.b_abs bt_abs (pa_cons (pe_fld (pv 0) rfl) pa_nil)) pa_nil)) pa_nil))))) pss_nil) (pss_cons (ps_fld (pv 0) (pe_op op_mulB (pe_fld (pv 0) rfl) (pe_callC G_power_of_ten hr (by decide) (pa_cons (pv 2) pa_nil))) rfl) (pss_cons (ps_fld (pv 0) (pv 2) rfl) (pss_one (ps_ret (pe_op op_add pe_int (pv 2)))))))), ?_⟩
    simp_arith [T.k_Machine.cl, na_Machine_state T, na_Machine_over T, na_Machine_order_at T, na_Machine_tick T, na_Machine_a T, na_Machine_d T, na_Machine_drum T, na_Machine_hopper T, na_Machine_tray T, T.k_Run.cl, na_Run_machine T, na_Run_stops T, na_Run_begun T, na_Run_hopper_before T, na_Run_tray_before T, T.k_Desk.cl, na_Desk_machine T, na_Desk_stops T, na_Desk_journal T, mf_state, mf_over, mf_order_at, mf_tick, mf_a, mf_d, mf_drum, mf_hopper, mf_tray, mp_state, mp_over, mp_over1, mp_over0, mp_order_at, mp_tick, mp_a, mp_d, mp_hopper, mp_tray, mf_len, hx, hd, sp1, sp2, spTen]
    simp only [abs_eq, str_len]
    have ha := long_abs G.a
    have hl := TL.numL_len (k := 20) (by decide) ha
    have hp0 := numL_pos m.a.natAbs
    by_cases c : m.a = 0
    · rw [if_neg (by simp [c])]
      have e : Drum.count m.a = (m.a * 10 ^ Int.toNat 20, 20) := by rw [c]; rfl
      have e1 : aft 43 m at_ [] = { m with a := m.a * 10 ^ Int.toNat 20, d := 20 } := by simp only [aft, Drum.does, Drum.did, e]; rfl
      have e2 : tks 43 m at_ = 22 := by simp only [tks, Drum.does, Drum.did, e]; rfl
      rw [e1, e2] at h
      exact ⟨by decide, by decide, ⟨long_mul G.a, by decide⟩, h _ (M.setx rfl) .updx⟩
    · rw [if_pos (by simp [c])]
      have c0 : m.a.natAbs ≠ 0 := by omega
      have eL : (20 - ((TL.numL m.a.natAbs).length : Int)) = ((20 - (TL.numL m.a.natAbs).length : Nat) : Int) := by omega
      rw [eL, Int.toNat_natCast]
      have e : Drum.count m.a = (m.a * 10 ^ (20 - (TL.numL m.a.natAbs).length), 20 - (TL.numL m.a.natAbs).length) := by
        unfold Drum.count
        rw [if_neg c, digits_num c0]
      generalize hz : 20 - (TL.numL m.a.natAbs).length = z at *
      have e1 : aft 43 m at_ [] = { m with a := m.a * 10 ^ z, d := (z : Int) } := by simp only [aft, Drum.does, Drum.did, e]; rfl
      have e2 : tks 43 m at_ = 2 + z := by simp only [tks, Drum.does, Drum.did, e]; rfl
      rw [e1, e2] at h
      refine ⟨?_, Nat.le_trans hl (by decide), by omega, by omega, ⟨long_mul G.a, ten_lt (by omega)⟩, ?_⟩
      · have : (m.a.natAbs : Int).natAbs.log2 < 100 := log2_small (by rw [Int.natAbs_natCast]; exact long_mul G.a)
        omega
      · have := h _ (M.setx (dx := dx) (m' := { m with a := m.a * 10 ^ z, d := (z : Int) }) rfl) .updx
        simpa using this
end Dd

namespace Dd
open PySem PySem.Spec PyProof.Rows L2
open Drum (Machine)
theorem for_enum {K : PySem.W.Frag} {a : Addr} {xs : List V} {g : TG} {tb : TS} {D : Ends} {σ : L2.St} {H : Hp} (Pv : Nat → L2.St → Hp → Prop) (h0 : Pv 0 σ H) (hl : ∀ i σ H, i ≤ xs.length → Pv i σ H → SqL K H a xs)
    (hs : ∀ i x σ H T, xs[i]? = some x → Pv i σ H → H T = none → g (.ref T) σ (upd H T (.tup [.int (i : Nat), x])) fun σ2 H2 => tb { D with nx := Pv (i + 1), ct := Pv (i + 1), bk := D.nx } σ2 H2) (hd : ∀ σ H, Pv xs.length σ H → D.nx σ H) :
    ∃ W : Nat → Nat → L2.St → Hp → Prop, (∃ m, W 0 m σ H) ∧ ∀ i m σ H, W i m σ H →
      ((Ite K a).stop i H ∧ D.nx σ H) ∨ ((Ite K a).go i H ∧ ∃ N : L2.St → Hp → Prop, (∀ σ' H', N σ' H' → ∃ m', m' < m ∧ W (i + 1) m' σ' H') ∧ ∀ x H', (Ite K a).yld i H x H' → g x σ H' fun σ2 H2 => tb { D with nx := N, ct := N, bk := D.nx } σ2 H2) := by
  refine ⟨fun i m σ H => m = xs.length - i ∧ i ≤ xs.length ∧ Pv i σ H, ⟨xs.length, by simp, Nat.zero_le _, h0⟩, ?_⟩
  rintro i m σ H ⟨rfl, hi, p⟩
  have q := hl i σ H hi p
  by_cases hlt : i < xs.length
  · refine .inr ⟨⟨xs, xs[i], q, by simp [hlt]⟩, Pv (i + 1), fun σ' H' p' => ⟨xs.length - (i + 1), by omega, rfl, hlt, p'⟩, fun x H' y => ?_⟩
    obtain ⟨T, z, rfl, hT, e, y⟩ := y
    subst e
    exact hs i z σ H T (y xs q) p hT
  · have e : i = xs.length := by omega
    subst e
    exact .inl ⟨⟨xs, q, Nat.le_refl _⟩, hd σ H p⟩
theorem for_zip {K : PySem.W.Frag} {a b : Addr} {xs ys : List V} {g : TG} {tb : TS} {D : Ends} {σ : L2.St} {H : Hp} (Pv : Nat → L2.St → Hp → Prop) (h0 : Pv 0 σ H) (hn : xs.length = ys.length) (hl : ∀ i σ H, i ≤ xs.length → Pv i σ H → SqL K H a xs ∧ SqL K H b ys)
    (hs : ∀ i x y σ H T, xs[i]? = some x → ys[i]? = some y → Pv i σ H → H T = none → g (.ref T) σ (upd H T (.tup [x, y])) fun σ2 H2 => tb { D with nx := Pv (i + 1), ct := Pv (i + 1), bk := D.nx } σ2 H2) (hd : ∀ σ H, Pv xs.length σ H → D.nx σ H) :
    ∃ W : Nat → Nat → L2.St → Hp → Prop, (∃ m, W 0 m σ H) ∧ ∀ i m σ H, W i m σ H →
      ((Itz K a b).stop i H ∧ D.nx σ H) ∨ ((Itz K a b).go i H ∧ ∃ N : L2.St → Hp → Prop, (∀ σ' H', N σ' H' → ∃ m', m' < m ∧ W (i + 1) m' σ' H') ∧ ∀ x H', (Itz K a b).yld i H x H' → g x σ H' fun σ2 H2 => tb { D with nx := N, ct := N, bk := D.nx } σ2 H2) := by
  refine ⟨fun i m σ H => m = xs.length - i ∧ i ≤ xs.length ∧ Pv i σ H, ⟨xs.length, by simp, Nat.zero_le _, h0⟩, ?_⟩
  rintro i m σ H ⟨rfl, hi, p⟩
  obtain ⟨q1, q2⟩ := hl i σ H hi p
  by_cases hlt : i < xs.length
  · refine .inr ⟨⟨xs, ys, xs[i], ys[i], q1, q2, by simp [hlt], by simp⟩, Pv (i + 1), fun σ' H' p' => ⟨xs.length - (i + 1), by omega, rfl, hlt, p'⟩, fun x H' y => ?_⟩
    obtain ⟨T, z, z2, rfl, hT, e, y1, y2⟩ := y
    subst e
    exact hs i z z2 σ H T (y1 xs q1) (y2 ys q2) p hT
  · have e : i = xs.length := by omega
    subst e
    exact .inl ⟨⟨xs, ys, q1, q2, .inl (Nat.le_refl _)⟩, hd σ H p⟩
theorem around_lt {a : Nat} (k : Nat) (h : a < 2000) : Drum.around a k < 2000 := by
  unfold Drum.around Drum.PLACES; omega
theorem at_drum {m : Machine} {j : Nat} (h : j < m.drum.length) : m.drum[j]? = some (m.at_ j) := by
  unfold Drum.Machine.at_
  rw [List.getD_eq_getElem?_getD, List.getElem?_eq_getElem h]; rfl
theorem find_range {p : Nat → Bool} : ∀ (n i : Nat), i < n → p i = true → (∀ j, j < i → p j = false) → (List.range n).find? p = some i := by
  intro n i hi hp hb
  rw [List.find?_range_eq_some]
  exact ⟨hp, by simpa using hi, fun j hj => by simp [hb j hj]⟩
theorem find_range_none {p : Nat → Bool} (n : Nat) (hb : ∀ j, j < n → p j = false) : (List.range n).find? p = none := by
  rw [List.find?_eq_none]
  intro j hj
  simp [hb j (by simpa using hj)]
theorem wa_at {l : List Int} {a i : Nat} {y : V} (h : ((wordsAround l a).map V.int)[i]? = some y) : i < 40 ∧ y = V.int (l.getD (Drum.around a i) 0) := by
  unfold wordsAround at h
  obtain ⟨k, rfl⟩ := List.getElem?_eq_some_iff.mp h
  have hk' : i < 40 := by simpa using k
  exact ⟨hk', by simp⟩
theorem ok_look_up {P : Program} {w : World} {K : PySem.W.Frag} {mg : Str → Option Value} {A : Adr} {base : Heap} (T : Txt P w K mg A) : Callee P w K mg base 3 "look_up" ["machine", "at"] (spM A 60) := by
  have G_words_around := ok_words_around (P := P) (w := w) (base := base) T
  have SC := sc_look_up
  refine T.f_look_up.ok (k := 2) sc_look_up (fun vs H Q E h => ?_) (fun f cdv Ar outer s H vs Q E hr h => ?_)
  · exact spM_len h
  · obtain ⟨x, at_, m, dr, hp, tr, rfl, M, G, ok, h⟩ := h
    have hat : at_ < 2000 := by simpa [argOk] using ok
    obtain ⟨dx, hx⟩ := M.obj
    have hd := M.drum
    refine ⟨_, (pss_cons (ps_for PassesOwn.never rfl (pi_enum rfl T.b_enumerate (pa_cons (pe_callC G_words_around hr (by decide) (pa_cons (pe_fld (pv 0) rfl) (pa_cons (pv 1) pa_nil))) pa_nil)) (pg_tup rfl (pgs_cons (pg_name (i := 2) SC.nd rfl (by first | exact Or.inl rfl | exact Or.inr rfl)) (pgs_cons (pg_name (i := 3) SC.nd rfl (by first | exact Or.inl rfl | exact Or.inr rfl)) pgs_nil))) (pss_one (ps_if (pt_cmpR op_ge (pv 3) (pe_fld (pv 0) rfl) (nomark _)) (pss_cons (ps_fld (pv 0) (pv 2) rfl) (pss_one (ps_ret (pe_op op_add (pv 2) pe_int)))) pss_nil))) (pss_cons (ps_fld (pv 0) pe_int rfl) (pss_cons (ps_set (i := 4) SC.nd rfl (by first | exact Or.inl rfl | exact Or.inr rfl) (pe_op op_sub (pe_gint T.c_BAND_SIZE) pe_int)) (pss_one (ps_ret (pe_op op_add (pv 4) pe_int)))))), ?_⟩
    simp_arith
    refine ⟨_, rfl, x, _, _, _, _, rfl, hx, T.k_Machine.cl, na_Machine_drum T, mf_drum _ _ _ _, _, rfl, dr, m.drum, at_, rfl, hd, G.len, hat, fun H0 B hB s0 hB0 => ?_⟩
    refine ⟨B, _, rfl, SqL.of hB0, for_enum (fun i σ H' => (∃ v2 v3 v4 : Option V, σ = [some (.ref x), some (.int at_), v2, v3, v4]) ∧ Same H H' ∧ H' B = some (.lst ((wordsAround m.drum at_).map V.int)) ∧ ∀ j, j < i → decide (m.d ≤ m.at_ (Drum.around at_ j)) = false)
      ⟨⟨none, none, none, rfl⟩, s0, hB0, fun j hj => absurd hj (Nat.not_lt_zero j)⟩ (fun i σ H' _ p => SqL.of p.2.2.1) ?_ ?_⟩
    · rintro i y σ H' Tp hy ⟨⟨v2, v3, v4, rfl⟩, hs, hB', hb⟩ hT
      obtain ⟨hi, rfl⟩ := wa_at hy
      refine ⟨Tp, _, rfl, SqT.of upd_same, rfl, _, _, rfl, _, _, rfl, rfl, ?_⟩
      have hs' := hs.trans (same_upd (o := .tup [.int (i : Nat), .int (m.drum.getD (Drum.around at_ i) 0)]) hT)
      have hx' := hs' _ _ hx
      simp_arith [T.k_Machine.cl, na_Machine_state T, na_Machine_over T, na_Machine_order_at T, na_Machine_tick T, na_Machine_a T, na_Machine_d T, na_Machine_drum T, na_Machine_hopper T, na_Machine_tray T, T.k_Run.cl, na_Run_machine T, na_Run_stops T, na_Run_begun T, na_Run_hopper_before T, na_Run_tray_before T, T.k_Desk.cl, na_Desk_machine T, na_Desk_stops T, na_Desk_journal T, mf_state, mf_over, mf_order_at, mf_tick, mf_a, mf_d, mf_drum, mf_hopper, mf_tray, mp_state, mp_over, mp_over1, mp_over0, mp_order_at, mp_tick, mp_a, mp_d, mp_hopper, mp_tray, mf_len, hx']
      by_cases c : m.d ≤ m.at_ (Drum.around at_ i)
      · rw [if_pos (decide_eq_true (show m.d ≤ m.drum.getD (Drum.around at_ i) 0 from c))]
        have e : Drum.lookUp m at_ m.d = some i := find_range 40 i hi (decide_eq_true c) hb
        have e1 : aft 60 m at_ [] = { m with a := (i : Int) } := by simp only [aft, Drum.does, e]; rfl
        have e2 : tks 60 m at_ = i + 1 := by simp only [tks, Drum.does, e]; show 1 + i = i + 1; omega
        rw [e1, e2] at h
        exact h _ ((M.same hs').setx rfl) ((FrM.same hs').trans .updx)
      · rw [if_neg (by rw [decide_eq_true_iff]; exact c)]
        refine ⟨⟨_, rfl⟩, hs', by rw [upd_ne (ne_of_none hB' hT)]; exact hB', fun j hj => ?_⟩
        by_cases ej : j = i
        · subst ej; exact decide_eq_false c
        · exact hb j (by omega)
    · rintro σ H' ⟨⟨v2, v3, v4, rfl⟩, hs, hB', hb⟩
      have hx' := hs _ _ hx
      simp_arith [T.k_Machine.cl, na_Machine_state T, na_Machine_over T, na_Machine_order_at T, na_Machine_tick T, na_Machine_a T, na_Machine_d T, na_Machine_drum T, na_Machine_hopper T, na_Machine_tray T, T.k_Run.cl, na_Run_machine T, na_Run_stops T, na_Run_begun T, na_Run_hopper_before T, na_Run_tray_before T, T.k_Desk.cl, na_Desk_machine T, na_Desk_stops T, na_Desk_journal T, mf_state, mf_over, mf_order_at, mf_tick, mf_a, mf_d, mf_drum, mf_hopper, mf_tray, mp_state, mp_over, mp_over1, mp_over0, mp_order_at, mp_tick, mp_a, mp_d, mp_hopper, mp_tray, mf_len, hx']
      rw [List.length_map, show (wordsAround m.drum at_).length = 40 by unfold wordsAround; rw [List.length_map, List.length_range]] at hb
      have e : Drum.lookUp m at_ m.d = none := find_range_none 40 hb
      have e1 : aft 60 m at_ [] = { m with over := true } := by simp only [aft, Drum.does, e]; rfl
      have e2 : tks 60 m at_ = 40 := by simp only [tks, Drum.does, e]; rfl
      rw [e1, e2] at h
      exact h _ ((M.same hs).setx rfl) ((FrM.same hs).trans .updx)
def puts (m : Machine) (at_ : Nat) (card : List Int) (i : Nat) : Machine := (List.range i).foldl (fun (x : Machine) (k : Nat) => x.put (Drum.around at_ k) (card.getD k 0)) m
theorem puts_succ (m : Machine) (at_ : Nat) (card : List Int) (i : Nat) : puts m at_ card (i + 1) = (puts m at_ card i).put (Drum.around at_ i) (card.getD i 0) := by
  unfold puts
  rw [List.range_succ, List.foldl_append]; rfl
theorem puts_is (m : Machine) (at_ : Nat) (card : List Int) (i : Nat) : ∃ l, puts m at_ card i = { m with drum := l } ∧ l.length = m.drum.length := by
  induction i with
  | zero => exact ⟨m.drum, rfl, rfl⟩
  | succ i ih =>
    obtain ⟨l, e, hl⟩ := ih
    refine ⟨l.set (Drum.around at_ i) (card.getD i 0), ?_, by rw [List.length_set]; exact hl⟩
    rw [puts_succ, e]; rfl
def sp_read (A : Adr) : Sp := fun vs H Q _ => ∃ (x : Addr) (at_ : Nat) (m : Machine) (dr hp tr c0 : Addr) (hs : List Addr) (card : List Int), vs = [.ref x, .int at_] ∧ MAt A.cMachine H x m dr hp tr ∧ m.drum.length = 2000 ∧ at_ < 2000 ∧
  H hp = some (.lst (V.ref c0 :: hs.map V.ref)) ∧ H c0 = some (.lst (card.map V.int)) ∧ card.length = 8 ∧ hp ≠ dr ∧ c0 ≠ dr ∧ c0 ≠ hp ∧
  ∀ H', MAt A.cMachine H' x (puts m at_ card 8) dr hp tr → H' hp = some (.lst (hs.map V.ref)) → (∀ b o, H b = some o → b ≠ x → b ≠ dr → b ≠ hp → H' b = some o) → Q (.int 60) H'
theorem ok_read_card {P : Program} {w : World} {K : PySem.W.Frag} {mg : Str → Option Value} {A : Adr} {base : Heap} (T : Txt P w K mg A) : Callee P w K mg base 3 "read_card" ["machine", "at"] (sp_read A) := by
  have G_around_band := ok_around_band (P := P) (w := w) (base := base) T
  have SC := sc_read_card
  refine T.f_read_card.ok (k := 2) sc_read_card (fun vs H Q E h => ?_) (fun f cdv Ar outer s H vs Q E hr h => ?_)
  · obtain ⟨x, at_, m, dr, hp, tr, c0, hs, card, rfl, _⟩ := h; rfl
  · obtain ⟨x, at_, m, dr, hp, tr, c0, hs, card, rfl, M, hlen, hat, hhp, hc0, hcl, n1, n2, n3, h⟩ := h
    obtain ⟨dx, hx⟩ := M.obj
    have hd := M.drum
    have nx : hp ≠ x := ne_of hhp hx (by intro q; cases q)
    have ncx : c0 ≠ x := ne_of hc0 hx (by intro q; cases q)
    refine ⟨_, (pss_cons (ps_set (i := 2) SC.nd rfl (by first | exact Or.inl rfl | exact Or.inr rfl) (pe_bmL PySem.F.slot_list_pop PySem.F.type_list_pop mt_popAt (pe_fld (pv 0) rfl) (pa_cons pe_int pa_nil))) (pss_cons (ps_for PassesOwn.never rfl (pi_zip rfl T.b_zip (pa_cons (pe_callC G_around_band hr (by decide) (pa_cons (pv 1) (pa_cons (pe_gint T.c_CARD_SIZE) pa_nil))) (pa_cons (pv 2) pa_nil))) (pg_tup rfl (pgs_cons (pg_name (i := 3) SC.nd rfl (by first | exact Or.inl rfl | exact Or.inr rfl)) (pgs_cons (pg_name (i := 4) SC.nd rfl (by first | exact Or.inl rfl | exact Or.inr rfl)) pgs_nil))) (pss_one (ps_asg (pv 4) (pg_sub (pe_fld (pv 0) rfl) (pv 3) set_list)))) (pss_one (ps_ret pe_int)))), ?_⟩
    simp_arith [T.k_Machine.cl, na_Machine_state T, na_Machine_over T, na_Machine_order_at T, na_Machine_tick T, na_Machine_a T, na_Machine_d T, na_Machine_drum T, na_Machine_hopper T, na_Machine_tray T, T.k_Run.cl, na_Run_machine T, na_Run_stops T, na_Run_begun T, na_Run_hopper_before T, na_Run_tray_before T, T.k_Desk.cl, na_Desk_machine T, na_Desk_stops T, na_Desk_journal T, mf_state, mf_over, mf_order_at, mf_tick, mf_a, mf_d, mf_drum, mf_hopper, mf_tray, mp_state, mp_over, mp_over1, mp_over0, mp_order_at, mp_tick, mp_a, mp_d, mp_hopper, mp_tray, mf_len, hx, hhp]
    refine ⟨⟨_, rfl⟩, by decide, by decide, 0, (ixN_seq (ixN_nat (Nat.succ_pos _))).1, _, rfl, ?_⟩
    show tFor _ _ _ _ _ (upd H hp (.lst (hs.map V.ref)))
    refine ⟨_, rfl, at_, 8, rfl, by decide, fun B hB => ⟨_, rfl, B, c0, _, card.map V.int, rfl, SqL.of upd_same, SqL.of ?_, ?_⟩⟩
    · rw [upd_ne (ne_of_none (by rw [upd_ne n3]; exact hc0) hB), upd_ne n3]; exact hc0
    have hB0 : H B = none := by
      have : B ≠ hp := fun q => by rw [q, upd_same] at hB; cases hB
      rw [upd_ne this] at hB; exact hB
    have nBx : B ≠ x := fun q => by rw [q, hx] at hB0; cases hB0
    have nBd : B ≠ dr := fun q => by rw [q, hd] at hB0; cases hB0
    have nBh : B ≠ hp := fun q => by rw [q, hhp] at hB0; cases hB0
    have nBc : B ≠ c0 := fun q => by rw [q, hc0] at hB0; cases hB0
    refine for_zip (xs := (List.range 8).map fun k => V.int (Drum.around at_ k)) (ys := card.map V.int) (fun i σ H' => (∃ v3 v4 : Option V, σ = [some (.ref x), some (.int at_), some (.ref c0), v3, v4]) ∧ MAt A.cMachine H' x (puts m at_ card i) dr hp tr ∧ H' hp = some (.lst (hs.map V.ref)) ∧
        H' B = some (.lst ((List.range 8).map fun k => V.int (Drum.around at_ k))) ∧ ∀ b o, H b = some o → b ≠ x → b ≠ dr → b ≠ hp → H' b = some o)
      ⟨⟨none, none, rfl⟩, ⟨⟨dx, ?_⟩, ?_⟩, ?_, upd_same, ?_⟩ (by rw [List.length_map, List.length_map, List.length_range, hcl]) (fun i σ H' _ p => ⟨SqL.of p.2.2.2.1, SqL.of (p.2.2.2.2 c0 _ hc0 ncx n2 n3)⟩) ?_ ?_
    · rw [upd_ne nBx.symm, upd_ne nx.symm]; exact hx
    · rw [upd_ne nBd.symm, upd_ne n1.symm]; exact hd
    · rw [upd_ne nBh.symm, upd_same]
    · intro b o e b1 b2 b3
      rw [upd_ne (ne_of_none e hB0), upd_ne b3]; exact e
    · rintro i y z σ H' Tp hy hz ⟨⟨v3, v4, rfl⟩, M', hh', hB', hk⟩ hT
      obtain ⟨hi, rfl⟩ : i < 8 ∧ y = V.int (Drum.around at_ i) := by
        obtain ⟨k, rfl⟩ := List.getElem?_eq_some_iff.mp hy
        have hk' : i < 8 := by simpa using k
        exact ⟨hk', by simp⟩
      obtain rfl : z = V.int (card.getD i 0) := by
        rw [List.getElem?_map] at hz
        obtain ⟨c, hc, rfl⟩ := Option.map_eq_some_iff.mp hz
        rw [List.getD_eq_getElem?_getD, hc]; rfl
      refine ⟨Tp, _, rfl, SqT.of upd_same, rfl, _, _, rfl, _, _, rfl, rfl, ?_⟩
      have sT := same_upd (H := H') (o := .tup [.int (Drum.around at_ i), .int (card.getD i 0)]) hT
      have M2 := M'.same sT
      obtain ⟨dx', hx'⟩ := M2.obj
      have hd' := M2.drum
      obtain ⟨l, el, hll⟩ := puts_is m at_ card i
      have e1 : (puts m at_ card i).drum.length = 2000 := by rw [el]; exact hll.trans hlen
      simp_arith [T.k_Machine.cl, na_Machine_state T, na_Machine_over T, na_Machine_order_at T, na_Machine_tick T, na_Machine_a T, na_Machine_d T, na_Machine_drum T, na_Machine_hopper T, na_Machine_tray T, T.k_Run.cl, na_Run_machine T, na_Run_stops T, na_Run_begun T, na_Run_hopper_before T, na_Run_tray_before T, T.k_Desk.cl, na_Desk_machine T, na_Desk_stops T, na_Desk_journal T, mf_state, mf_over, mf_order_at, mf_tick, mf_a, mf_d, mf_drum, mf_hopper, mf_tray, mp_state, mp_over, mp_over1, mp_over0, mp_order_at, mp_tick, mp_a, mp_d, mp_hopper, mp_tray, mf_len, hx', hd']
      refine ⟨Drum.around at_ i, by rw [List.length_map, e1]; exact ixN_nat (around_lt i hat), ⟨_, rfl⟩, ?_, ?_, ?_, ?_⟩
      · rw [map_set_int, puts_succ]
        exact M2.setd
      · rw [upd_ne n1]; exact sT _ _ hh'
      · rw [upd_ne nBd]; exact sT _ _ hB'
      · intro b o e b1 b2 b3
        rw [upd_ne b2]; exact sT _ _ (hk b o e b1 b2 b3)
    · rintro σ H' ⟨⟨v3, v4, rfl⟩, M', hh', hB', hk⟩
      rw [List.length_map, List.length_range] at M'
      simp_arith
      exact h H' M' hh' hk
def cardOf (m : Machine) (at_ : Nat) : List Int := (List.range 8).map fun k => m.at_ (Drum.around at_ k)
def sp_punch (A : Adr) : Sp := fun vs H Q _ => ∃ (x : Addr) (at_ : Nat) (m : Machine) (dr hp tr : Addr) (ts : List Addr), vs = [.ref x, .int at_] ∧ MAt A.cMachine H x m dr hp tr ∧ m.drum.length = 2000 ∧ at_ < 2000 ∧
  H tr = some (.lst (ts.map V.ref)) ∧ ts.length < sizeLine ∧ tr ≠ dr ∧
  ∀ H' D, H D = none → MAt A.cMachine H' x m dr hp tr → H' tr = some (.lst ((ts ++ [D]).map V.ref)) → H' D = some (.lst ((cardOf m at_).map V.int)) → (∀ b o, H b = some o → b ≠ tr → H' b = some o) → Q (.int 60) H'
theorem take8 (m : Machine) (at_ : Nat) : (wordsAround m.drum at_).take 8 = cardOf m at_ := by
  unfold wordsAround cardOf
  rw [← List.map_take, List.take_range]
  rfl
theorem ok_punch_card {P : Program} {w : World} {K : PySem.W.Frag} {mg : Str → Option Value} {A : Adr} {base : Heap} (T : Txt P w K mg A) : Callee P w K mg base 3 "punch_card" ["machine", "at"] (sp_punch A) := by
  have G_words_around := ok_words_around (P := P) (w := w) (base := base) T
  have SC := sc_punch_card
  refine T.f_punch_card.ok (k := 2) sc_punch_card (fun vs H Q E h => ?_) (fun f cdv Ar outer s H vs Q E hr h => ?_)
  · obtain ⟨x, at_, m, dr, hp, tr, ts, rfl, _⟩ := h; rfl
  · obtain ⟨x, at_, m, dr, hp, tr, ts, rfl, M, hlen, hat, htr, hts, n1, h⟩ := h
    obtain ⟨dx, hx⟩ := M.obj
    have hd := M.drum
    have nx : tr ≠ x := ne_of htr hx (by intro q; cases q)
    refine ⟨_, (pss_cons (ps_expr (pe_bmL PySem.F.slot_list_append PySem.F.type_list_append mt_append (pe_fld (pv 0) rfl) (pa_cons (pe_slice sl_lst (pe_callC G_words_around hr (by decide) (pa_cons (pe_fld (pv 0) rfl) (pa_cons (pv 1) pa_nil))) po_none (po_some (pe_gint T.c_CARD_SIZE))) pa_nil))) (pss_one (ps_ret pe_int))), ?_⟩
    simp_arith [T.k_Machine.cl, na_Machine_state T, na_Machine_over T, na_Machine_order_at T, na_Machine_tick T, na_Machine_a T, na_Machine_d T, na_Machine_drum T, na_Machine_hopper T, na_Machine_tray T, T.k_Run.cl, na_Run_machine T, na_Run_stops T, na_Run_begun T, na_Run_hopper_before T, na_Run_tray_before T, T.k_Desk.cl, na_Desk_machine T, na_Desk_stops T, na_Desk_journal T, mf_state, mf_over, mf_order_at, mf_tick, mf_a, mf_d, mf_drum, mf_hopper, mf_tray, mp_state, mp_over, mp_over1, mp_over0, mp_order_at, mp_tick, mp_a, mp_d, mp_hopper, mp_tray, mf_len, hx, htr]
    refine ⟨⟨_, rfl⟩, dr, m.drum, at_, rfl, hd, hlen, hat, fun H0 B hB s0 hB0 => ?_⟩
    refine ⟨B, rfl, _, hB0, fun D hD => ?_⟩
    have hD0 : H D = none := s0.free hD
    have sD := s0.trans (same_upd (o := .lst (cutV ((wordsAround m.drum at_).map V.int) none (some 8))) hD)
    have nD : tr ≠ D := ne_of_none (s0 _ _ htr) hD
    refine ⟨_, sD _ _ htr, by rw [List.length_map]; exact hts, ?_⟩
    refine h _ D hD0 ?_ ?_ ?_ ?_
    · refine ⟨⟨dx, ?_⟩, ?_⟩
      · rw [upd_ne nx.symm]; exact sD _ _ hx
      · rw [upd_ne n1.symm]; exact sD _ _ hd
    · rw [upd_same, List.map_append]; rfl
    · rw [upd_ne nD.symm, upd_same, ← take8, List.map_take]
      unfold cutV
      have e8 : (8 : Int) = ((8 : Nat) : Int) := rfl
      rw [HT.sIx_none, e8, HT.sIx_nat, List.length_map, List.drop_zero, Nat.sub_zero, show (wordsAround m.drum at_).length = 40 by unfold wordsAround; rw [List.length_map, List.length_range]]
      rfl
    · intro b o e nb
      rw [upd_ne nb]; exact sD _ _ e
end Dd

namespace Dd
open PySem PySem.Spec PyProof.Rows L2
open Drum (Machine)
def ordKeys : List Int := [1, 10, 11, 12, 13, 14, 15, 16, 17, 18, 20, 21, 30, 31, 32, 40, 41, 42, 43, 50, 51, 52, 60, 70, 71]
theorem orders_some {P : Program} {w : World} {K : PySem.W.Frag} {mg : Str → Option Value} {A : Adr} (T : Txt P w K mg A) (i : Int) : (A.kORDERS (.inl i)).isSome = decide (i ∈ ordKeys) := by
  by_cases h : i ∈ ordKeys
  · rw [decide_eq_true h]
    simp only [ordKeys, List.mem_cons, List.not_mem_nil, or_false] at h
    rcases h with rfl | rfl | rfl | rfl | rfl | rfl | rfl | rfl | rfl | rfl | rfl | rfl | rfl | rfl | rfl | rfl | rfl | rfl | rfl | rfl | rfl | rfl | rfl | rfl | rfl
    · obtain ⟨f, e, _⟩ := T.e_ORDERS_1; rw [e]; rfl
    · obtain ⟨f, e, _⟩ := T.e_ORDERS_10; rw [e]; rfl
    · obtain ⟨f, e, _⟩ := T.e_ORDERS_11; rw [e]; rfl
    · obtain ⟨f, e, _⟩ := T.e_ORDERS_12; rw [e]; rfl
    · obtain ⟨f, e, _⟩ := T.e_ORDERS_13; rw [e]; rfl
    · obtain ⟨f, e, _⟩ := T.e_ORDERS_14; rw [e]; rfl
    · obtain ⟨f, e, _⟩ := T.e_ORDERS_15; rw [e]; rfl
    · obtain ⟨f, e, _⟩ := T.e_ORDERS_16; rw [e]; rfl
    · obtain ⟨f, e, _⟩ := T.e_ORDERS_17; rw [e]; rfl
    · obtain ⟨f, e, _⟩ := T.e_ORDERS_18; rw [e]; rfl
    · obtain ⟨f, e, _⟩ := T.e_ORDERS_20; rw [e]; rfl
    · obtain ⟨f, e, _⟩ := T.e_ORDERS_21; rw [e]; rfl
    · obtain ⟨f, e, _⟩ := T.e_ORDERS_30; rw [e]; rfl
    · obtain ⟨f, e, _⟩ := T.e_ORDERS_31; rw [e]; rfl
    · obtain ⟨f, e, _⟩ := T.e_ORDERS_32; rw [e]; rfl
    · obtain ⟨f, e, _⟩ := T.e_ORDERS_40; rw [e]; rfl
    · obtain ⟨f, e, _⟩ := T.e_ORDERS_41; rw [e]; rfl
    · obtain ⟨f, e, _⟩ := T.e_ORDERS_42; rw [e]; rfl
    · obtain ⟨f, e, _⟩ := T.e_ORDERS_43; rw [e]; rfl
    · obtain ⟨f, e, _⟩ := T.e_ORDERS_50; rw [e]; rfl
    · obtain ⟨f, e, _⟩ := T.e_ORDERS_51; rw [e]; rfl
    · obtain ⟨f, e, _⟩ := T.e_ORDERS_52; rw [e]; rfl
    · obtain ⟨f, e, _⟩ := T.e_ORDERS_60; rw [e]; rfl
    · obtain ⟨f, e, _⟩ := T.e_ORDERS_70; rw [e]; rfl
    · obtain ⟨f, e, _⟩ := T.e_ORDERS_71; rw [e]; rfl
  · rw [decide_eq_false h, T.n_ORDERS i h]; rfl
theorem known_iff : ∀ c : Nat, c < 100 → Drum.known c = decide (c = 0 ∨ (c : Int) ∈ ordKeys) := by decide +kernel
theorem ok_code_of {P : Program} {w : World} {K : PySem.W.Frag} {mg : Str → Option Value} {A : Adr} {base : Heap} (T : Txt P w K mg A) : Callee P w K mg base 1 "code_of" ["word"] (sp1 (fun _ => True) fun n => .int (n / 100000000)) := by
  have SC := sc_code_of
  refine T.f_code_of.ok (k := 0) sc_code_of (fun vs H Q E h => ?_) (fun f cdv Ar outer s H vs Q E hr h => ?_)
  · exact sp1_len h
  · obtain ⟨n, rfl, -, h⟩ := h
    refine ⟨_, (pss_one (ps_ret (pe_op op_fdivB (pv 0) pe_int))), ?_⟩
    simp_arith
    exact ⟨⟨by decide, by decide⟩, h⟩
theorem ok_data_address {P : Program} {w : World} {K : PySem.W.Frag} {mg : Str → Option Value} {A : Adr} {base : Heap} (T : Txt P w K mg A) : Callee P w K mg base 1 "data_address" ["word"] (sp1 (fun _ => True) fun n => .int (n / 10000 % 10000)) := by
  have SC := sc_data_address
  refine T.f_data_address.ok (k := 0) sc_data_address (fun vs H Q E h => ?_) (fun f cdv Ar outer s H vs Q E hr h => ?_)
  · exact sp1_len h
  · obtain ⟨n, rfl, -, h⟩ := h
    refine ⟨_, (pss_one (ps_ret (pe_op op_mod (pe_op op_fdivB (pv 0) pe_int) pe_int))), ?_⟩
    simp_arith
    exact ⟨⟨by decide, by decide⟩, by decide, h⟩
theorem ok_next_address {P : Program} {w : World} {K : PySem.W.Frag} {mg : Str → Option Value} {A : Adr} {base : Heap} (T : Txt P w K mg A) : Callee P w K mg base 1 "next_address" ["word"] (sp1 (fun _ => True) fun n => .int (n % 10000)) := by
  have SC := sc_next_address
  refine T.f_next_address.ok (k := 0) sc_next_address (fun vs H Q E h => ?_) (fun f cdv Ar outer s H vs Q E hr h => ?_)
  · exact sp1_len h
  · obtain ⟨n, rfl, -, h⟩ := h
    refine ⟨_, (pss_one (ps_ret (pe_op op_mod (pv 0) pe_int))), ?_⟩
    simp_arith
    exact ⟨by decide, h⟩
def stB (v : Int) (card : Bool) : Nat := match Drum.faultOf v card with
  | some f => f
  | none => if (Drum.orderOf v).code = 0 then 1 else 0
theorem order_parts (v : Int) (h : 0 ≤ v) : v / 100000000 = ((Drum.orderOf v).code : Int) ∧ v / 10000 % 10000 = ((Drum.orderOf v).d : Int) ∧ v % 10000 = ((Drum.orderOf v).n : Int) := by
  unfold Drum.orderOf
  refine ⟨?_, ?_, ?_⟩
  · show v / 100000000 = ((v.natAbs / 100000000 : Nat) : Int); omega
  · show v / 10000 % 10000 = ((v.natAbs / 10000 % 10000 : Nat) : Int); omega
  · show v % 10000 = ((v.natAbs % 10000 : Nat) : Int); omega
theorem code_lt {v : Int} (h : Drum.isWord v = true) : (Drum.orderOf v).code < 100 := by
  have := (isWord_iff v).mp h
  show v.natAbs / 100000000 < 100
  omega
def stC (c d n : Nat) (b : Bool) : Nat := if c = 0 then 1 else if ¬ (c : Int) ∈ ordKeys then 3 else if 2000 ≤ n then 4 else if 40 ≤ c ∧ c ≤ 43 then (if c ≠ 43 ∧ 20 < d then 5 else 0) else if c ≠ 1 ∧ 2000 ≤ d then 4 else if c = 70 ∧ b = false then 6 else 0
theorem stB_neg {v : Int} (b : Bool) (h : v < 0) : stB v b = 2 := by
  unfold stB Drum.faultOf
  rw [if_pos h]
theorem stB_eq {v : Int} (b : Bool) (h : ¬ v < 0) (hc : (Drum.orderOf v).code < 100) : stB v b = stC (Drum.orderOf v).code (Drum.orderOf v).d (Drum.orderOf v).n b := by
  unfold stB Drum.faultOf
  generalize Drum.orderOf v = o at *
  obtain ⟨c, d, n⟩ := o
  simp only [if_neg h] at *
  unfold stC
  rw [known_iff c hc]
  by_cases c0 : c = 0
  · subst c0; simp [Drum.addresses]
  · by_cases ck : (c : Int) ∈ ordKeys
    · simp only [c0, ck, or_true, decide_true, Bool.true_eq_false, if_false, not_true_eq_false, ne_eq, not_false_eq_true, true_and, Drum.WORDS]
      by_cases cn : 2000 ≤ n
      · simp [cn]
      · simp only [cn, false_or, if_false]
        by_cases c4 : 40 ≤ c ∧ c ≤ 43
        · have ea : Drum.addresses c = false := by simp [Drum.addresses, c4.1, c4.2]
          simp only [ea, c4, Bool.false_eq_true, false_and, if_false, and_self, if_true, true_and]
          have e70 : c ≠ 70 := by omega
          by_cases c43 : c = 43
          · subst c43; simp
          · have : c ≤ 42 := by omega
            by_cases cd : 20 < d
            · simp [this, cd, c43]
            · simp [cd, e70]
        · have e42 : ¬ (40 ≤ c ∧ c ≤ 42 ∧ 20 < d) := by omega
          simp only [c4, if_false, e42]
          by_cases c1 : c = 1
          · subst c1; simp [Drum.addresses]
          · have ea : Drum.addresses c = true := by
              unfold Drum.addresses
              simp only [Bool.not_eq_true', Bool.or_eq_false_iff, beq_eq_false_iff_ne, Bool.and_eq_false_iff, decide_eq_false_iff_not]
              exact ⟨c0, c1, by omega⟩
            simp only [ea, true_and, c1, not_false_eq_true]
            by_cases cd : 2000 ≤ d
            · simp [cd]
            · simp only [cd, if_false]
              by_cases c7 : c = 70 ∧ b = false
              · simp [c7]
              · simp [c7]
    · simp [c0, ck]
def sp_state_behind : Sp := fun vs H Q _ => ∃ (v : Int) (b : Bool), vs = [.int v, .bl b] ∧ Drum.isWord v = true ∧ Q (.int (stB v b)) H
theorem ok_state_behind {P : Program} {w : World} {K : PySem.W.Frag} {mg : Str → Option Value} {A : Adr} {base : Heap} (T : Txt P w K mg A) : Callee P w K mg base 2 "state_behind" ["word", "has_card"] sp_state_behind := by
  have G_code_of := ok_code_of (P := P) (w := w) (base := base) T
  have G_data_address := ok_data_address (P := P) (w := w) (base := base) T
  have G_next_address := ok_next_address (P := P) (w := w) (base := base) T
  have SC := sc_state_behind
  refine T.f_state_behind.ok (k := 1) sc_state_behind (fun vs H Q E h => ?_) (fun f cdv Ar outer s H vs Q E hr h => ?_)
  · obtain ⟨v, b, rfl, _⟩ := h; rfl
  · obtain ⟨v, b, rfl, hv, h⟩ := h
    refine ⟨_, (pss_cons (ps_if (pt_cmpR op_lt (pv 0) pe_int (nomark _)) (pss_one (ps_ret pe_int)) pss_nil) (pss_cons (ps_set (i := 2) SC.nd rfl (by first | exact Or.inl rfl | exact Or.inr rfl) (pe_callC G_code_of hr (by decide) (pa_cons (pv 0) pa_nil))) (pss_cons (ps_if (pt_cmpR op_eq (pv 2) (pe_gint T.c_HALT) (nomark _)) (pss_one (ps_ret pe_int)) pss_nil) (pss_cons (ps_if (pt_cmpR (kd_notIn T.d_ORDERS) (pv 2) (pe_gref T.m_ORDERS) (by with_unfolding_all rfl)) (pss_one (ps_ret pe_int)) pss_nil) (pss_cons (ps_if (pt_cmpR op_ge (pe_callC G_next_address hr (by decide) (pa_cons (pv 0) pa_nil)) (pe_gint T.c_DRUM_SIZE) (nomark _)) (pss_one (ps_ret pe_int)) pss_nil) (pss_cons (ps_if (pt_chain op_le op_le (pe_gint T.c_SHIFT_FIRST) (pv 2) (pe_gint T.c_SCALE)) (pss_one (ps_ret (pe_ifExp (PW.pt (pw_and (pt_cmpR op_ne (pv 2) (pe_gint T.c_SCALE) (nomark _)) (pw_and1 (pt_cmpR op_gt (pe_callC G_data_address hr (by decide) (pa_cons (pv 0) pa_nil)) (pe_gint T.c_MOST_SHIFT) (nomark _))))) pe_int pe_int))) pss_nil) (pss_cons (ps_if (PW.pt (pw_and (pt_cmpR op_ne (pv 2) (pe_gint T.c_NOTHING) (nomark _)) (pw_and1 (pt_cmpR op_ge (pe_callC G_data_address hr (by decide) (pa_cons (pv 0) pa_nil)) (pe_gint T.c_DRUM_SIZE) (nomark _))))) (pss_one (ps_ret pe_int)) pss_nil) (pss_cons (ps_if (PW.pt (pw_and (pt_cmpR op_eq (pv 2) (pe_gint T.c_READ) (nomark _)) (pw_and1 (pt_not (pt_val (pv 1)))))) (pss_one (ps_ret pe_int)) pss_nil) (pss_one (ps_ret pe_int)))))))))), ?_⟩
    simp_arith [sp1, orders_some T]
    by_cases hn : v < 0
    · rw [if_pos (decide_eq_true hn)]
      rw [stB_neg b hn] at h; exact h
    · rw [if_neg (by rw [decide_eq_true_iff]; exact hn)]
      obtain ⟨e1, e2, e3⟩ := order_parts v (by omega)
      rw [stB_eq b hn (code_lt hv)] at h
      rw [e1, e2, e3]
      generalize (Drum.orderOf v).code = c at *
      generalize (Drum.orderOf v).d = d at *
      generalize (Drum.orderOf v).n = n at *
      unfold stC at h
      have i0 : ((c : Int) = 0) ↔ c = 0 := by omega
      have i1 : ((c : Int) = 1) ↔ c = 1 := by omega
      have i43 : ((c : Int) = 43) ↔ c = 43 := by omega
      have i70 : ((c : Int) = 70) ↔ c = 70 := by omega
      have i40 : ((40 : Int) ≤ c) ↔ 40 ≤ c := by omega
      have i4 : ((c : Int) ≤ 43) ↔ c ≤ 43 := by omega
      have in_ : ((2000 : Int) ≤ n) ↔ 2000 ≤ n := by omega
      have id_ : ((2000 : Int) ≤ d) ↔ 2000 ≤ d := by omega
      have i2 : ((20 : Int) < d) ↔ 20 < d := by omega
      simp only [i0, i1, i43, i70, i40, i4, in_, id_, i2, decide_eq_true_iff, Bool.not_eq_true', decide_eq_false_iff_not]
      repeat' split
      all_goals simp_all
end Dd

namespace Dd
open PySem PySem.Spec PyProof.Rows L2
open Drum (Machine)
structure GoodC (m : Machine) : Prop where
  len : m.drum.length = 2000
  words : ∀ v ∈ m.drum, Drum.isWord v = true
  a : Drum.isLong m.a = true
  d : Drum.isWord m.d = true
theorem long_of {z : Int} (h : z.natAbs < 10 ^ 20) : Drum.isLong z = true := by rw [isLong_iff]; omega
theorem word_of {z : Int} (h : z.natAbs < 10 ^ 10) : Drum.isWord z = true := by rw [isWord_iff]; omega
theorem signed_abs (v : Int) (n : Nat) : (Drum.signed v n).natAbs = n := by
  unfold Drum.signed; split <;> omega
theorem fitted_long (v : Int) : Drum.isLong (Drum.fitted v).1 = true := by
  unfold Drum.fitted
  split
  · assumption
  · refine long_of ?_
    rw [signed_abs]
    exact Nat.mod_lt _ (by decide)
theorem lower_word' (v : Int) : Drum.isWord (Drum.lower v) = true := word_of (lower_abs v)
theorem upper_word' {v : Int} (h : Drum.isLong v = true) : Drum.isWord (Drum.upper v) = true := by
  refine word_of ?_
  unfold Drum.upper
  rw [signed_abs]
  have := long_abs h
  unfold Drum.TEN
  omega
theorem times_long (v : Int) {d : Int} (h : Drum.isWord d = true) : Drum.isLong (Drum.times v d) = true := by
  refine long_of ?_
  unfold Drum.times
  rw [Int.natAbs_mul]
  have h1 := lower_abs v
  have h2 := word_abs h
  have h3 : (Drum.lower v).natAbs * d.natAbs ≤ (10 ^ 10 - 1) * (10 ^ 10 - 1) := Nat.mul_le_mul (by omega) (by omega)
  exact Nat.lt_of_le_of_lt h3 (by decide)
theorem numL_lt_pow (n : Nat) : n < 10 ^ (TL.numL n).length := by
  induction n using Nat.strongRecOn with
  | ind n ih =>
    by_cases h : n < 10
    · rw [TL.numL_lt h]; simpa using h
    · rw [TL.numL_step (by omega), List.length_append, List.length_singleton, Nat.pow_succ]
      have := ih (n / 10) (by omega)
      omega
theorem count_good {a : Int} (h : Drum.isLong a = true) : Drum.isLong (Drum.count a).1 = true ∧ Drum.isWord ((Drum.count a).2 : Int) = true := by
  have ha := long_abs h
  refine ⟨?_, ?_⟩
  · refine long_of ?_
    unfold Drum.count
    by_cases c : a = 0
    · rw [c]; decide
    · have c0 : a.natAbs ≠ 0 := by omega
      rw [if_neg c, digits_num c0]
      show (a * 10 ^ _).natAbs < _
      rw [Int.natAbs_mul, Int.natAbs_pow]
      have hl := TL.numL_len (k := 20) (by decide) ha
      have h1 := numL_lt_pow a.natAbs
      have h2 : 10 ^ 20 = 10 ^ (TL.numL a.natAbs).length * 10 ^ (20 - (TL.numL a.natAbs).length) := by
        rw [← Nat.pow_add]; congr 1; omega
      rw [h2]
      exact Nat.mul_lt_mul_of_pos_right h1 (Nat.pow_pos (by decide))
  · refine word_of ?_
    unfold Drum.count
    show ((20 - Drum.digits a.natAbs : Nat) : Int).natAbs < _
    omega
theorem right_long {a : Int} (k : Nat) (h : Drum.isLong a = true) : Drum.isLong (Drum.right a k) = true := by
  refine long_of ?_
  unfold Drum.right
  rw [signed_abs]
  exact Nat.lt_of_le_of_lt (Nat.div_le_self _ _) (long_abs h)
theorem round_long {a : Int} (k : Nat) (h : Drum.isLong a = true) : Drum.isLong (Drum.round a k) = true := by
  refine long_of ?_
  unfold Drum.round
  rw [signed_abs]
  have ha := long_abs h
  have hp : 0 < 10 ^ k := Nat.pow_pos (by decide)
  generalize 10 ^ k = p at *
  rw [Nat.div_lt_iff_lt_mul (by omega)]
  have h1 : 1 * (2 * 10 ^ 20 - 1) ≤ p * (2 * 10 ^ 20 - 1) := Nat.mul_le_mul_right _ hp
  omega
theorem by_good {a d : Int} (ha : Drum.isLong a = true) (hd : Drum.isWord d = true) : Drum.isLong (Drum.by_ a d).1 = true ∧ Drum.isWord (Drum.by_ a d).2.1 = true := by
  unfold Drum.by_
  split
  · exact ⟨ha, (by decide : Drum.isWord 0 = true)⟩
  · refine ⟨long_of ?_, word_of ?_⟩
    · show (a.tdiv d).natAbs < _
      rw [Int.natAbs_tdiv]
      exact Nat.lt_of_le_of_lt (Nat.div_le_self _ _) (long_abs ha)
    · show (a.tmod d).natAbs < _
      rw [Int.natAbs_tmod]
      rename_i c
      have : 0 < d.natAbs := by omega
      exact Nat.lt_trans (Nat.mod_lt _ this) (word_abs hd)
theorem put_good {m : Machine} {j : Nat} {v : Int} (G : GoodC m) (h : Drum.isWord v = true) : GoodC (m.put j v) := by
  refine ⟨?_, ?_, G.a, G.d⟩
  · show (m.drum.set j v).length = 2000
    rw [List.length_set]; exact G.len
  · intro z hz
    rcases List.mem_or_eq_of_mem_set (show z ∈ m.drum.set j v from hz) with q | q
    · exact G.words z q
    · rw [q]; exact h
theorem puts_good {m : Machine} {at_ : Nat} {card : List Int} (G : GoodC m) (hw : ∀ v ∈ card, Drum.isWord v = true) (i : Nat) : GoodC (puts m at_ card i) := by
  induction i with
  | zero => exact G
  | succ i ih =>
    rw [puts_succ]
    refine put_good ih ?_
    rw [List.getD_eq_getElem?_getD]
    cases e : card[i]? with
    | none => decide
    | some v => exact hw v (List.mem_of_getElem? e)
theorem lookUp_lt {m : Machine} {d : Nat} {v : Int} {k : Nat} (h : Drum.lookUp m d v = some k) : k < 40 := by
  have := List.mem_of_find?_eq_some h
  simpa [Drum.PLACES] using this
theorem does_good {m : Machine} {o : Drum.Order} {card : List Int} (G : GoodC m) (hw : ∀ v ∈ card, Drum.isWord v = true) : GoodC (Drum.does m o card).m := by
  have hs : ∀ v : Int, GoodC (Drum.sumTo m (Drum.fitted v)) := fun v => ⟨G.len, G.words, fitted_long v, G.d⟩
  unfold Drum.does
  split
  · exact ⟨G.len, G.words, long_of (Nat.lt_trans (word_abs G.d) (by decide)), G.d⟩
  · exact ⟨G.len, G.words, long_of (by show (-m.d).natAbs < _; rw [Int.natAbs_neg]; exact Nat.lt_trans (word_abs G.d) (by decide)), G.d⟩
  · exact hs _
  · exact hs _
  · exact hs _
  · exact hs _
  · exact hs _
  · exact hs _
  · exact ⟨G.len, G.words, times_long _ G.d, G.d⟩
  · split
    · exact ⟨G.len, G.words, G.a, G.d⟩
    · exact ⟨G.len, G.words, (by_good G.a G.d).1, (by_good G.a G.d).2⟩
  · exact put_good G (lower_word' _)
  · exact put_good G (upper_word' G.a)
  · exact put_good G G.d
  · exact hs _
  · exact ⟨G.len, G.words, right_long _ G.a, G.d⟩
  · exact ⟨G.len, G.words, round_long _ G.a, G.d⟩
  · exact ⟨G.len, G.words, (count_good G.a).1, (count_good G.a).2⟩
  · exact G
  · exact G
  · exact ⟨G.len, G.words, G.a, G.d⟩
  · split
    · rename_i k e
      have := lookUp_lt e
      exact ⟨G.len, G.words, long_of (by show ((k : Int)).natAbs < _; omega), G.d⟩
    · exact ⟨G.len, G.words, G.a, G.d⟩
  · exact puts_good G hw 8
  · exact G
  · exact G
theorem does_next (m : Machine) (k : Nat) (o : Drum.Order) (card : List Int) : Drum.does { m with next := k } o card = { Drum.does m o card with m := { (Drum.does m o card).m with next := k } } := by
  unfold Drum.does
  split <;> try rfl
  · split <;> rfl
  · show (match Drum.lookUp m o.d m.d with | some j => _ | none => _) = _
    generalize Drum.lookUp m o.d m.d = z
    cases z <;> rfl
theorem does_tick (m : Machine) (o : Drum.Order) (card : List Int) : (Drum.does m o card).m.tick = m.tick ∧ (Drum.does m o card).m.state = m.state := by
  unfold Drum.does
  split <;> try exact ⟨rfl, rfl⟩
  · split <;> exact ⟨rfl, rfl⟩
  · split <;> exact ⟨rfl, rfl⟩
theorem does_card {m : Machine} {o : Drum.Order} (h : o.code ≠ 70) (card card' : List Int) : Drum.does m o card = Drum.does m o card' := by
  unfold Drum.does
  split <;> try rfl
  · rename_i e; exact absurd e h
theorem does_out {m : Machine} {o : Drum.Order} (h : o.code ≠ 71) (card : List Int) : (Drum.does m o card).out = [] := by
  unfold Drum.does
  split <;> try rfl
  · split <;> rfl
  · split <;> rfl
  · rename_i e; exact absurd e h
theorem does_jump {m : Machine} {o : Drum.Order} {card : List Int} (h : (Drum.does m o card).jump = true) : 50 ≤ o.code ∧ o.code ≤ 52 := by
  unfold Drum.does at h
  split at h <;> first | (cases h; done) | omega | (split at h <;> cases h)
end Dd

namespace Dd
open PySem PySem.Spec PyProof.Rows L2
open Drum (Machine)
theorem fault_pos {v : Int} {b : Bool} {f : Nat} (h : Drum.faultOf v b = some f) : 2 ≤ f ∧ f ≤ 6 := by
  unfold Drum.faultOf at h
  simp only at h
  split at h
  · cases h; decide
  · split at h
    · cases h; decide
    · split at h
      · cases h; decide
      · split at h
        · cases h; decide
        · split at h
          · cases h; decide
          · cases h
def punches (v : Int) : Bool := (Drum.faultOf v true).isNone && decide ((Drum.orderOf v).code = 71)
theorem fault_card {v : Int} (h : (Drum.orderOf v).code ≠ 70) (b c : Bool) : Drum.faultOf v b = Drum.faultOf v c := by
  unfold Drum.faultOf
  simp only [h, false_and, if_false]
theorem punches_eq {v : Int} : punches v = (decide (v / 100000000 = 71) && decide (stB v false = 0)) := by
  unfold punches
  by_cases hn : v < 0
  · have e1 : (Drum.faultOf v true) = some 2 := by unfold Drum.faultOf; rw [if_pos hn]
    rw [e1, stB_neg false hn]
    simp
  · obtain ⟨e1, e2, e3⟩ := order_parts v (by omega)
    rw [e1]
    by_cases hc : (Drum.orderOf v).code = 71
    · have h70 : (Drum.orderOf v).code ≠ 70 := by omega
      rw [fault_card h70 true false]
      unfold stB
      rw [hc]
      cases e : Drum.faultOf v false with
      | none => simp
      | some f =>
        have := fault_pos e
        have : ¬ f = 0 := by omega
        simp [this]
    · have : ¬ ((Drum.orderOf v).code : Int) = 71 := by omega
      rw [decide_eq_false hc, decide_eq_false this]
      simp
def sp_is_punching : Sp := fun vs H Q _ => ∃ v : Int, vs = [.int v] ∧ Drum.isWord v = true ∧ Q (.bl (punches v)) H
theorem ok_is_punching {P : Program} {w : World} {K : PySem.W.Frag} {mg : Str → Option Value} {A : Adr} {base : Heap} (T : Txt P w K mg A) : Callee P w K mg base 3 "is_punching" ["word"] sp_is_punching := by
  have G_code_of := ok_code_of (P := P) (w := w) (base := base) T
  have G_state_behind := ok_state_behind (P := P) (w := w) (base := base) T
  have SC := sc_is_punching
  refine T.f_is_punching.ok (k := 2) sc_is_punching (fun vs H Q E h => ?_) (fun f cdv Ar outer s H vs Q E hr h => ?_)
  · obtain ⟨v, rfl, _⟩ := h; rfl
  · obtain ⟨v, rfl, hv, h⟩ := h
    refine ⟨_, (pss_one (ps_ret (pe_and (pe_cmpR op_eq (pe_callC G_code_of hr (by decide) (pa_cons (pv 0) pa_nil)) (pe_gint T.c_PUNCH) (nomark _)) (pe_one (pe_cmpR op_eq (pe_callC G_state_behind hr (by decide) (pa_cons (pv 0) (pa_cons pe_bl pa_nil))) pe_int (nomark _)))))), ?_⟩
    rw [punches_eq] at h
    simp_arith [sp1, sp_state_behind]
    have e : decide (((stB v false : Nat) : Int) = 0) = decide (stB v false = 0) := decide_eq_decide.mpr (by omega)
    rw [e]
    cases c : decide (v / 100000000 = 71) with
    | true => rw [c] at h; exact ⟨hv, h⟩
    | false => rw [c] at h; exact h
theorem ok_begins_with_d {P : Program} {w : World} {K : PySem.W.Frag} {mg : Str → Option Value} {A : Adr} {base : Heap} (T : Txt P w K mg A) : Callee P w K mg base 1 "begins_with_d" ["code"] (sp1 (fun _ => True) fun n => .bl (decide (10 ≤ n ∧ n ≤ 21))) := by
  have SC := sc_begins_with_d
  refine T.f_begins_with_d.ok (k := 0) sc_begins_with_d (fun vs H Q E h => ?_) (fun f cdv Ar outer s H vs Q E hr h => ?_)
  · exact sp1_len h
  · obtain ⟨n, rfl, -, h⟩ := h
    refine ⟨_, (pss_one (ps_ret (pe_chain op_le op_le pe_int (pv 0) pe_int))), ?_⟩
    simp_arith
    exact chain_bl (Q := fun v => Q v H) (by rw [decide_eq_true_iff]) h
theorem ok_waits_for_data {P : Program} {w : World} {K : PySem.W.Frag} {mg : Str → Option Value} {A : Adr} {base : Heap} (T : Txt P w K mg A) : Callee P w K mg base 1 "waits_for_data" ["code"] (sp1 (fun _ => True) fun n => .bl (decide ((10 ≤ n ∧ n ≤ 32) ∨ n = 60))) := by
  have SC := sc_waits_for_data
  refine T.f_waits_for_data.ok (k := 0) sc_waits_for_data (fun vs H Q E h => ?_) (fun f cdv Ar outer s H vs Q E hr h => ?_)
  · exact sp1_len h
  · obtain ⟨n, rfl, -, h⟩ := h
    refine ⟨_, (pss_one (ps_ret (pe_or (pe_chain op_le op_le pe_int (pv 0) pe_int) (pe_one (pe_cmpR op_eq (pv 0) pe_int (nomark _)))))), ?_⟩
    simp_arith
    have h' : Q (V.bl (decide ((10 ≤ n ∧ n ≤ 32) ∨ n = 60))) H := h
    by_cases c1 : 10 ≤ n
    · rw [if_pos (decide_eq_true c1)]
      by_cases c2 : n ≤ 32
      · rw [if_pos (decide_eq_true c2)]
        rw [decide_eq_true (.inl ⟨c1, c2⟩)] at h'; exact h'
      · rw [if_neg (by rw [decide_eq_true_iff]; exact c2)]
        rw [decide_eq_decide.mpr (show ((10 ≤ n ∧ n ≤ 32) ∨ n = 60) ↔ n = 60 by omega)] at h'; exact h'
    · rw [if_neg (by rw [decide_eq_true_iff]; exact c1)]
      rw [decide_eq_decide.mpr (show ((10 ≤ n ∧ n ≤ 32) ∨ n = 60) ↔ n = 60 by omega)] at h'; exact h'
def CardsAt (H : Hp) : List Addr → List (List Int) → Prop := Paired fun a c => H a = some (.lst (c.map V.int))
theorem CardsAt.keep {H H' : Hp} : ∀ {as : List Addr} {cs : List (List Int)}, CardsAt H as cs → (∀ a ∈ as, ∀ o, H a = some o → H' a = some o) → CardsAt H' as cs
  | _, _, .nil, _ => .nil
  | _, _, .cons r t, k => .cons (k _ (List.mem_cons_self) _ r) (CardsAt.keep t fun a ha => k a (List.mem_cons_of_mem _ ha))
theorem CardsAt.app {H : Hp} : ∀ {as bs : List Addr} {cs ds : List (List Int)}, CardsAt H as cs → CardsAt H bs ds → CardsAt H (as ++ bs) (cs ++ ds)
  | _, _, _, _, .nil, s => s
  | _, _, _, _, .cons r t, s => .cons r (CardsAt.app t s)
structure MFull (C : Addr) (H : Hp) (x : Addr) (m : Machine) (dr hp tr : Addr) (hs ts : List Addr) (cs tc : List (List Int)) : Prop where
  M : MAt C H x m dr hp tr
  G : GoodM m
  hop : H hp = some (.lst (hs.map V.ref))
  tray : H tr = some (.lst (ts.map V.ref))
  hc : CardsAt H hs cs
  ht : CardsAt H ts tc
  ndh : hp ≠ dr
  ndt : tr ≠ dr
  nht : tr ≠ hp
  nh : ∀ c ∈ hs, c ≠ dr ∧ c ≠ hp ∧ c ≠ tr ∧ c ≠ x
  nt : ∀ c ∈ ts, c ≠ dr ∧ c ≠ hp ∧ c ≠ tr ∧ c ≠ x
  cw : ∀ c ∈ cs, c.length = 8 ∧ ∀ v ∈ c, Drum.isWord v = true
  tw : ∀ c ∈ tc, c.length = 8
def Grown (H : Hp) (ts ts' : List Addr) : Prop := ts <+: ts' ∧ ∀ c ∈ ts', c ∈ ts ∨ H c = none
theorem Grown.refl {H : Hp} {ts : List Addr} : Grown H ts ts := ⟨List.prefix_refl _, fun c h => .inl h⟩
theorem Grown.back {H H1 : Hp} {ts ts' : List Addr} (g : Grown H1 ts ts') (k : ∀ c, H1 c = none → H c = none) : Grown H ts ts' := ⟨g.1, fun c h => (g.2 c h).imp id (k c)⟩
theorem Grown.trans {H : Hp} {ts t1 t2 : List Addr} (a : Grown H ts t1) (b : Grown H t1 t2) : Grown H ts t2 := ⟨a.1.trans b.1, fun c h => (b.2 c h).elim (a.2 c) .inr⟩
theorem upd_none {H : Hp} {a b : Addr} {o : HO} (h : upd H a o b = none) : b ≠ a ∧ H b = none := by
  have n : b ≠ a := fun q => by rw [q, upd_same] at h; cases h
  exact ⟨n, by rw [upd_ne n] at h; exact h⟩
def Fr4 (x dr hp tr : Addr) (H H' : Hp) : Prop := ∀ b o, H b = some o → b ≠ x → b ≠ dr → b ≠ hp → b ≠ tr → H' b = some o
theorem Fr4.trans {x dr hp tr : Addr} {H H1 H2 : Hp} (a : Fr4 x dr hp tr H H1) (b : Fr4 x dr hp tr H1 H2) : Fr4 x dr hp tr H H2 := fun c o e h1 h2 h3 h4 => b c o (a c o e h1 h2 h3 h4) h1 h2 h3 h4
theorem FrM.free {C x dr hp tr : Addr} {m : Machine} {H H1 : Hp} {c : Addr} (f : FrM x dr H H1) (M : MAt C H1 x m dr hp tr) (h : H1 c = none) : H c = none := by
  obtain ⟨dx, hx⟩ := M.obj
  cases e : H c with
  | none => rfl
  | some o =>
    have n1 : c ≠ x := fun q => by rw [q, hx] at h; cases h
    have n2 : c ≠ dr := fun q => by rw [q, M.drum] at h; cases h
    rw [f c o e n1 n2] at h; cases h
theorem FrM.fr4 {x dr hp tr : Addr} {H H' : Hp} (f : FrM x dr H H') : Fr4 x dr hp tr H H' := fun b o e h1 h2 _ _ => f b o e h1 h2
section
variable {C : Addr} {H H' : Hp} {x : Addr} {m m' : Machine} {dr hp tr : Addr} {hs ts : List Addr} {cs tc : List (List Int)}
theorem MFull.hx (F : MFull C H x m dr hp tr hs ts cs tc) : hp ≠ x := by
  obtain ⟨dx, hx⟩ := F.M.obj
  exact ne_of F.hop hx (by intro q; cases q)
theorem MFull.tx (F : MFull C H x m dr hp tr hs ts cs tc) : tr ≠ x := by
  obtain ⟨dx, hx⟩ := F.M.obj
  exact ne_of F.tray hx (by intro q; cases q)
theorem MFull.mk1 (F : MFull C H x m dr hp tr hs ts cs tc) (f : FrM x dr H H') (M : MAt C H' x m' dr hp tr) (G : GoodM m') : MFull C H' x m' dr hp tr hs ts cs tc :=
  ⟨M, G, f _ _ F.hop F.hx F.ndh, f _ _ F.tray F.tx F.ndt, F.hc.keep fun a ha o e => f a o e (F.nh a ha).2.2.2 (F.nh a ha).1, F.ht.keep fun a ha o e => f a o e (F.nt a ha).2.2.2 (F.nt a ha).1, F.ndh, F.ndt, F.nht, F.nh, F.nt, F.cw, F.tw⟩
end
theorem good_aft {c at_ : Nat} {m : Machine} {card : List Int} (G : GoodM m) (ok : argOk c at_) (hw : ∀ v ∈ card, Drum.isWord v = true) : GoodM (aft c m at_ card) := by
  have g := does_good (m := m) (o := ⟨c, at_, m.next⟩) ⟨G.len, G.words, G.a, G.d⟩ hw
  refine ⟨g.len, g.words, g.a, g.d, ?_, ?_⟩
  · show (if (Drum.does m ⟨c, at_, m.next⟩ card).jump = true then at_ else m.next) < 2000
    split
    · rename_i hj
      have hc := does_jump hj
      have h1 : ¬ (c = 1 ∨ c = 43) := by have : 50 ≤ c := hc.1; omega
      have h2 : ¬ (40 ≤ c ∧ c ≤ 42) := by have : 50 ≤ c := hc.1; omega
      unfold argOk at ok
      rw [if_neg h1, if_neg h2] at ok
      exact ok
    · exact G.next
  · show (Drum.does m ⟨c, at_, m.next⟩ card).m.tick < _
    rw [(does_tick m _ card).1]; exact G.tick
def spOrd (A : Adr) (c : Nat) : Sp := fun vs H Q _ => ∃ (x : Addr) (at_ : Nat) (m : Machine) (dr hp tr : Addr) (hs ts : List Addr) (cs tc : List (List Int)), vs = [.ref x, .int at_] ∧ MFull A.cMachine H x m dr hp tr hs ts cs tc ∧ argOk c at_ ∧ (c = 70 → cs ≠ []) ∧ ts.length < 10000 ∧
  ∀ H' hs' ts', MFull A.cMachine H' x (aft c m at_ (cs.headD [])) dr hp tr hs' ts' (if c = 70 then cs.drop 1 else cs) (tc ++ (Drum.does m ⟨c, at_, m.next⟩ (cs.headD [])).out) →
    hs' = (if c = 70 then hs.drop 1 else hs) → Grown H ts ts' → Fr4 x dr hp tr H H' → Q (.int (tks c m at_)) H'
theorem Callee.imp {P : Program} {w : World} {K : PySem.W.Frag} {mg : Str → Option Value} {base : Heap} {k : Nat} {x : Str} {ps : List Str} {sp sp' : Sp} (G : L2.Callee P w K mg base k x ps sp) (h : ∀ vs H Q E, sp' vs H Q E → sp vs H Q E) : L2.Callee P w K mg base k x ps sp' := by
  obtain ⟨f, fd, F, r⟩ := G.ex
  exact ⟨f, fd, F.imp h, r⟩
theorem ord_of_M {A : Adr} {c : Nat} (h70 : c ≠ 70) (h71 : c ≠ 71) (vs : List V) (H : Hp) (Q : VK) (E : XK) (h : spOrd A c vs H Q E) : spM A c vs H Q E := by
  obtain ⟨x, at_, m, dr, hp, tr, hs, ts, cs, tc, rfl, F, ok, _, _, k⟩ := h
  refine ⟨x, at_, m, dr, hp, tr, rfl, F.M, F.G, ok, fun H' M' f => ?_⟩
  have e1 : aft c m at_ (cs.headD []) = aft c m at_ [] := by
    unfold aft
    rw [does_card (m := m) (o := ⟨c, at_, m.next⟩) h70 (cs.headD []) []]
  have e2 : (Drum.does m ⟨c, at_, m.next⟩ (cs.headD [])).out = [] := does_out h71 _
  rw [e1, e2, if_neg h70, if_neg h70, List.append_nil] at k
  have G' : GoodM (aft c m at_ []) := good_aft F.G ok (fun v hv => by simp at hv)
  exact k H' hs ts (F.mk1 f M' G') rfl .refl f.fr4
theorem ord_of_nothing {A : Adr} {c : Nat} (hc : c = 1 ∨ c = 18) (vs : List V) (H : Hp) (Q : VK) (E : XK) (h : spOrd A c vs H Q E) : ∃ x at_, vs = [.ref x, .int at_] ∧ Q (.int 0) H := by
  have h70 : c ≠ 70 := by omega
  have h71 : c ≠ 71 := by omega
  obtain ⟨x, at_, m, dr, hp, tr, rfl, M, G, ok, k⟩ := ord_of_M h70 h71 vs H Q E h
  refine ⟨x, _, rfl, ?_⟩
  have e1 : aft c m at_ [] = m := by rcases hc with rfl | rfl <;> rfl
  have e2 : tks c m at_ = 0 := by rcases hc with rfl | rfl <;> rfl
  rw [e1, e2] at k
  exact k H M (.refl _ _ _)
theorem ord_of_read {A : Adr} (vs : List V) (H : Hp) (Q : VK) (E : XK) (h : spOrd A 70 vs H Q E) : sp_read A vs H Q E := by
  obtain ⟨x, at_, m, dr, hp, tr, hs, ts, cs, tc, rfl, F, ok, hne, _, k⟩ := h
  have hat : at_ < 2000 := by simpa [argOk] using ok
  obtain ⟨hM, hG, hhop, htray, hhc, hht, n1, n2, n3, nh, nt, cw, tw⟩ := F
  cases hhc with
  | nil => exact absurd rfl (hne rfl)
  | @cons c0 card hs cs r t =>
    have F : MFull A.cMachine H x m dr hp tr (c0 :: hs) ts (card :: cs) tc := ⟨hM, hG, hhop, htray, .cons r t, hht, n1, n2, n3, nh, nt, cw, tw⟩
    have q := nh c0 (List.mem_cons_self)
    have w := cw card (List.mem_cons_self)
    refine ⟨x, at_, m, dr, hp, tr, c0, hs, card, rfl, hM, hG.len, hat, hhop, r, w.1, n1, q.1, q.2.1, fun H' M' hh' fr => ?_⟩
    refine k H' hs ts ⟨M', good_aft hG ok w.2, hh', fr _ _ htray F.tx n2 n3, ?_, ?_, n1, n2, n3, fun c hc => nh c (List.mem_cons_of_mem _ hc), nt, fun c hc => cw c (List.mem_cons_of_mem _ hc), (by show ∀ c ∈ tc ++ ([] : List (List Int)), c.length = 8; rw [List.append_nil]; exact tw)⟩ rfl .refl fun b o e b1 b2 b3 _ => fr b o e b1 b2 b3
    · exact CardsAt.keep t fun a ha o e => by
        have z := nh a (List.mem_cons_of_mem _ ha)
        exact fr a o e z.2.2.2 z.1 z.2.1
    · show CardsAt H' ts (tc ++ [])
      rw [List.append_nil]
      exact CardsAt.keep hht fun a ha o e => by
        have z := nt a ha
        exact fr a o e z.2.2.2 z.1 z.2.1
theorem ord_of_punch {A : Adr} (vs : List V) (H : Hp) (Q : VK) (E : XK) (h : spOrd A 71 vs H Q E) : sp_punch A vs H Q E := by
  obtain ⟨x, at_, m, dr, hp, tr, hs, ts, cs, tc, rfl, F, ok, _, hts, k⟩ := h
  have hat : at_ < 2000 := by simpa [argOk] using ok
  refine ⟨x, at_, m, dr, hp, tr, ts, rfl, F.M, F.G.len, hat, F.tray, Nat.lt_trans hts (by decide), F.ndt, fun H' D hD M' ht' hD' fr => ?_⟩
  have nD : ∀ {b : Addr} {o : HO}, H b = some o → D ≠ b := fun e q => by rw [q, e] at hD; cases hD
  obtain ⟨dx, hx⟩ := F.M.obj
  have gD : ∀ c ∈ ts ++ [D], c ∈ ts ∨ H c = none := fun c hc => by
    rcases List.mem_append.mp hc with q | q
    · exact .inl q
    · have : c = D := by simpa using q
      rw [this]; exact .inr hD
  refine k H' hs (ts ++ [D]) ⟨M', F.G, fr _ _ F.hop F.nht.symm, ht', ?_, ?_, F.ndh, F.ndt, F.nht, F.nh, ?_, F.cw, ?_⟩ rfl ⟨List.prefix_append _ _, gD⟩ fun b o e _ _ _ b4 => fr b o e b4
  · exact F.hc.keep fun a ha o e => fr a o e (F.nh a ha).2.2.1
  · exact CardsAt.app (F.ht.keep fun a ha o e => fr a o e (F.nt a ha).2.2.1) (.cons hD' .nil)
  · intro c hc
    rcases List.mem_append.mp hc with q | q
    · exact F.nt c q
    · have : c = D := by simpa using q
      subst this
      exact ⟨nD F.M.drum, nD F.hop, nD F.tray, nD hx⟩
  · intro c hc
    rcases List.mem_append.mp hc with q | q
    · exact F.tw c q
    · have q' : c ∈ [cardOf m at_] := q
      have : c = cardOf m at_ := by simpa using q'
      rw [this]
      unfold cardOf
      rw [List.length_map, List.length_range]
end Dd

namespace Dd
open PySem PySem.Spec PyProof.Rows L2
open Drum (Machine)
theorem Callee.mono {P : Program} {w : World} {K : PySem.W.Frag} {mg : Str → Option Value} {base : Heap} {k j : Nat} {x : Str} {ps : List Str} {sp : Sp} (G : L2.Callee P w K mg base k x ps sp) (h : k ≤ j) : L2.Callee P w K mg base j x ps sp := by
  obtain ⟨f, fd, F, r⟩ := G.ex
  exact ⟨f, fd, F.mono h, r⟩
def ordNs : List Nat := [1, 10, 11, 12, 13, 14, 15, 16, 17, 18, 20, 21, 30, 31, 32, 40, 41, 42, 43, 50, 51, 52, 60, 70, 71]
theorem ordN {c : Nat} (h : (c : Int) ∈ ordKeys) : c ∈ [1, 10, 11, 12, 13, 14, 15, 16, 17, 18, 20, 21, 30, 31, 32, 40, 41, 42, 43, 50, 51, 52, 60, 70, 71] := by
  have e : ordKeys = ordNs.map Int.ofNat := rfl
  rw [e] at h
  obtain ⟨d, h1, h2⟩ := List.mem_map.mp h
  cases Int.ofNat.inj h2
  exact h1
theorem ord_all {P : Program} {w : World} {K : PySem.W.Frag} {mg : Str → Option Value} {A : Adr} {base : Heap} (T : Txt P w K mg A) (c : Nat) (h : (c : Int) ∈ ordKeys) :
    ∃ (x : Str) (f : Addr), A.kORDERS (.inl c) = some (.ref f) ∧ mg x = some (.ref f) ∧ L2.Callee P w K mg base 4 x ["machine", "at"] (spOrd A c) := by
  have h' := ordN h
  simp only [List.mem_cons, List.not_mem_nil, or_false] at h'
  rcases h' with rfl | rfl | rfl | rfl | rfl | rfl | rfl | rfl | rfl | rfl | rfl | rfl | rfl | rfl | rfl | rfl | rfl | rfl | rfl | rfl | rfl | rfl | rfl | rfl | rfl
  · obtain ⟨f, e1, e2⟩ := T.e_ORDERS_1; exact ⟨_, f, e1, e2, Callee.mono (Callee.imp (ok_do_nothing T) (ord_of_nothing (.inl rfl))) (by decide)⟩
  · obtain ⟨f, e1, e2⟩ := T.e_ORDERS_10; exact ⟨_, f, e1, e2, Callee.mono (Callee.imp (ok_load_a T) (ord_of_M (by decide) (by decide))) (by decide)⟩
  · obtain ⟨f, e1, e2⟩ := T.e_ORDERS_11; exact ⟨_, f, e1, e2, Callee.mono (Callee.imp (ok_load_negated T) (ord_of_M (by decide) (by decide))) (by decide)⟩
  · obtain ⟨f, e1, e2⟩ := T.e_ORDERS_12; exact ⟨_, f, e1, e2, Callee.mono (Callee.imp (ok_add T) (ord_of_M (by decide) (by decide))) (by decide)⟩
  · obtain ⟨f, e1, e2⟩ := T.e_ORDERS_13; exact ⟨_, f, e1, e2, Callee.mono (Callee.imp (ok_subtract T) (ord_of_M (by decide) (by decide))) (by decide)⟩
  · obtain ⟨f, e1, e2⟩ := T.e_ORDERS_14; exact ⟨_, f, e1, e2, Callee.mono (Callee.imp (ok_add_without_sign T) (ord_of_M (by decide) (by decide))) (by decide)⟩
  · obtain ⟨f, e1, e2⟩ := T.e_ORDERS_15; exact ⟨_, f, e1, e2, Callee.mono (Callee.imp (ok_subtract_without_sign T) (ord_of_M (by decide) (by decide))) (by decide)⟩
  · obtain ⟨f, e1, e2⟩ := T.e_ORDERS_16; exact ⟨_, f, e1, e2, Callee.mono (Callee.imp (ok_add_upper T) (ord_of_M (by decide) (by decide))) (by decide)⟩
  · obtain ⟨f, e1, e2⟩ := T.e_ORDERS_17; exact ⟨_, f, e1, e2, Callee.mono (Callee.imp (ok_subtract_upper T) (ord_of_M (by decide) (by decide))) (by decide)⟩
  · obtain ⟨f, e1, e2⟩ := T.e_ORDERS_18; exact ⟨_, f, e1, e2, Callee.mono (Callee.imp (ok_do_nothing T) (ord_of_nothing (.inr rfl))) (by decide)⟩
  · obtain ⟨f, e1, e2⟩ := T.e_ORDERS_20; exact ⟨_, f, e1, e2, Callee.mono (Callee.imp (ok_multiply T) (ord_of_M (by decide) (by decide))) (by decide)⟩
  · obtain ⟨f, e1, e2⟩ := T.e_ORDERS_21; exact ⟨_, f, e1, e2, Callee.mono (Callee.imp (ok_divide T) (ord_of_M (by decide) (by decide))) (by decide)⟩
  · obtain ⟨f, e1, e2⟩ := T.e_ORDERS_30; exact ⟨_, f, e1, e2, Callee.mono (Callee.imp (ok_store_lower T) (ord_of_M (by decide) (by decide))) (by decide)⟩
  · obtain ⟨f, e1, e2⟩ := T.e_ORDERS_31; exact ⟨_, f, e1, e2, Callee.mono (Callee.imp (ok_store_upper T) (ord_of_M (by decide) (by decide))) (by decide)⟩
  · obtain ⟨f, e1, e2⟩ := T.e_ORDERS_32; exact ⟨_, f, e1, e2, Callee.mono (Callee.imp (ok_store_d T) (ord_of_M (by decide) (by decide))) (by decide)⟩
  · obtain ⟨f, e1, e2⟩ := T.e_ORDERS_40; exact ⟨_, f, e1, e2, Callee.mono (Callee.imp (ok_shift_left T) (ord_of_M (by decide) (by decide))) (by decide)⟩
  · obtain ⟨f, e1, e2⟩ := T.e_ORDERS_41; exact ⟨_, f, e1, e2, Callee.mono (Callee.imp (ok_shift_right T) (ord_of_M (by decide) (by decide))) (by decide)⟩
  · obtain ⟨f, e1, e2⟩ := T.e_ORDERS_42; exact ⟨_, f, e1, e2, Callee.mono (Callee.imp (ok_shift_right_rounded T) (ord_of_M (by decide) (by decide))) (by decide)⟩
  · obtain ⟨f, e1, e2⟩ := T.e_ORDERS_43; exact ⟨_, f, e1, e2, Callee.mono (Callee.imp (ok_scale T) (ord_of_M (by decide) (by decide))) (by decide)⟩
  · obtain ⟨f, e1, e2⟩ := T.e_ORDERS_50; exact ⟨_, f, e1, e2, Callee.mono (Callee.imp (ok_branch_below_zero T) (ord_of_M (by decide) (by decide))) (by decide)⟩
  · obtain ⟨f, e1, e2⟩ := T.e_ORDERS_51; exact ⟨_, f, e1, e2, Callee.mono (Callee.imp (ok_branch_not_zero T) (ord_of_M (by decide) (by decide))) (by decide)⟩
  · obtain ⟨f, e1, e2⟩ := T.e_ORDERS_52; exact ⟨_, f, e1, e2, Callee.mono (Callee.imp (ok_branch_over T) (ord_of_M (by decide) (by decide))) (by decide)⟩
  · obtain ⟨f, e1, e2⟩ := T.e_ORDERS_60; exact ⟨_, f, e1, e2, Callee.mono (Callee.imp (ok_look_up T) (ord_of_M (by decide) (by decide))) (by decide)⟩
  · obtain ⟨f, e1, e2⟩ := T.e_ORDERS_70; exact ⟨_, f, e1, e2, Callee.mono (Callee.imp (ok_read_card T) (ord_of_read)) (by decide)⟩
  · obtain ⟨f, e1, e2⟩ := T.e_ORDERS_71; exact ⟨_, f, e1, e2, Callee.mono (Callee.imp (ok_punch_card T) (ord_of_punch)) (by decide)⟩
def carr (m : Machine) (o : Drum.Order) (card : List Int) : Machine := { (Drum.does (Drum.loaded m o) o card).m with next := if (Drum.does (Drum.loaded m o) o card).jump = true then o.d else o.n }
theorem no_fault {v : Int} {b : Bool} (hw : Drum.isWord v = true) (h : Drum.faultOf v b = none) (h0 : (Drum.orderOf v).code ≠ 0) :
    0 ≤ v ∧ ((Drum.orderOf v).code : Int) ∈ ordKeys ∧ (Drum.orderOf v).n < 2000 ∧ argOk (Drum.orderOf v).code (Drum.orderOf v).d ∧ ((Drum.orderOf v).code = 70 → b = true) := by
  have hs : stB v b = 0 := by unfold stB; rw [h]; exact if_neg h0
  by_cases hn : v < 0
  · rw [stB_neg b hn] at hs; cases hs
  · rw [stB_eq b hn (code_lt hw)] at hs
    generalize Drum.orderOf v = o at *
    obtain ⟨c, d, n⟩ := o
    simp only at *
    unfold stC at hs
    rw [if_neg h0] at hs
    split at hs
    · cases hs
    · rename_i hk
      split at hs
      · cases hs
      · rename_i hn2
        refine ⟨by omega, Decidable.not_not.mp hk, by omega, ?_, ?_⟩
        · unfold argOk
          split at hs
          · rename_i h4
            split at hs
            · cases hs
            · rename_i h5
              split
              · trivial
              · rw [if_pos (by omega)]
                omega
          · rename_i h4
            split at hs
            · cases hs
            · rename_i h5
              split
              · trivial
              · rw [if_neg (by omega)]
                omega
        · intro h7
          subst h7
          cases b with
          | true => rfl
          | false =>
            simp at hs
            split at hs <;> cases hs
theorem loads_iff (c : Nat) : Drum.loads c = decide (10 ≤ (c : Int) ∧ (c : Int) ≤ 21) := by
  unfold Drum.loads
  rw [Bool.eq_iff_iff]
  simp only [Bool.and_eq_true, decide_eq_true_iff]
  omega
theorem waits_iff {c : Nat} (h : (c : Int) ∈ ordKeys) : Drum.waits c = decide ((10 ≤ (c : Int) ∧ (c : Int) ≤ 32) ∨ (c : Int) = 60) := by
  have q : ∀ c ∈ ordNs, Drum.waits c = decide ((10 ≤ (c : Int) ∧ (c : Int) ≤ 32) ∨ (c : Int) = 60) := by decide
  exact q c (ordN h)
theorem aft_carr (m : Machine) (o : Drum.Order) (card : List Int) : aft o.code { Drum.loaded m o with next := o.n } o.d card = carr m o card ∧
    (Drum.does { Drum.loaded m o with next := o.n } ⟨o.code, o.d, o.n⟩ card).out = (Drum.does (Drum.loaded m o) o card).out ∧
    (Drum.does { Drum.loaded m o with next := o.n } ⟨o.code, o.d, o.n⟩ card).behind = (Drum.does (Drum.loaded m o) o card).behind := by
  obtain ⟨c, d, n⟩ := o
  unfold aft carr
  rw [does_next]
  exact ⟨rfl, rfl, rfl⟩
theorem loaded_good {m : Machine} {o : Drum.Order} (G : GoodM m) (hn : o.n < 2000) (ok : Drum.loads o.code = true → o.d < 2000) : GoodM { Drum.loaded m o with next := o.n } := by
  unfold Drum.loaded
  split
  · rename_i h
    refine ⟨G.len, G.words, G.a, ?_, hn, G.tick⟩
    exact G.words _ (List.mem_of_getElem? (at_drum (by rw [G.len]; exact ok h)))
  · exact ⟨G.len, G.words, G.a, G.d, hn, G.tick⟩
theorem look_loaded (m : Machine) {o : Drum.Order} (h : o.code = 60) : Drum.lookUp { Drum.loaded m o with next := o.n } o.d ({ Drum.loaded m o with next := o.n } : Machine).d = Drum.lookUp m o.d m.d := by
  have : Drum.loaded m o = m := by unfold Drum.loaded; rw [h]; rfl
  rw [this]; rfl
def sp_carry (A : Adr) : Sp := fun vs H Q _ => ∃ (x : Addr) (v : Int) (t : Nat) (m : Machine) (dr hp tr : Addr) (hs ts : List Addr) (cs tc : List (List Int)), vs = [.ref x, .int v, .int t] ∧ MFull A.cMachine H x m dr hp tr hs ts cs tc ∧ Drum.isWord v = true ∧
  Drum.faultOf v (!cs.isEmpty) = none ∧ (Drum.orderOf v).code ≠ 0 ∧ ts.length < 10000 ∧
  ∀ H' hs' ts', MFull A.cMachine H' x (carr m (Drum.orderOf v) (cs.headD [])) dr hp tr hs' ts' (if (Drum.orderOf v).code = 70 then cs.drop 1 else cs) (tc ++ (Drum.does (Drum.loaded m (Drum.orderOf v)) (Drum.orderOf v) (cs.headD [])).out) →
    hs' = (if (Drum.orderOf v).code = 70 then hs.drop 1 else hs) → Grown H ts ts' → Fr4 x dr hp tr H H' →
    Q (.int (Drum.passed m (Drum.orderOf v) t + (Drum.does (Drum.loaded m (Drum.orderOf v)) (Drum.orderOf v) (cs.headD [])).behind : Nat)) H'
theorem ok_carry_out {P : Program} {w : World} {K : PySem.W.Frag} {mg : Str → Option Value} {A : Adr} {base : Heap} (T : Txt P w K mg A) : Callee P w K mg base 5 "carry_out" ["machine", "word", "tick"] (sp_carry A) := by
  have G_first_tick_at := ok_first_tick_at (P := P) (w := w) (base := base) T
  have G_code_of := ok_code_of (P := P) (w := w) (base := base) T
  have G_data_address := ok_data_address (P := P) (w := w) (base := base) T
  have G_next_address := ok_next_address (P := P) (w := w) (base := base) T
  have G_begins_with_d := ok_begins_with_d (P := P) (w := w) (base := base) T
  have G_waits_for_data := ok_waits_for_data (P := P) (w := w) (base := base) T
  have SC := sc_carry_out
  refine T.f_carry_out.ok (k := 4) sc_carry_out (fun vs H Q E h => ?_) (fun f cdv Ar outer s H vs Q E hr h => ?_)
  · obtain ⟨x, v, t, m, dr, hp, tr, hs, ts, cs, tc, rfl, _⟩ := h; rfl
  · obtain ⟨x, v, t, m, dr, hp, tr, hs, ts, cs, tc, rfl, F, hw, hf, h0, hts, h⟩ := h
    obtain ⟨hv0, hk, hn, ok, h70⟩ := no_fault hw hf h0
    obtain ⟨e1, e2, e3⟩ := order_parts v hv0
    obtain ⟨dx, hx⟩ := F.M.obj
    have hd := F.M.drum
    have nd : dr ≠ x := F.M.ne
    refine ⟨_, (pss_cons (ps_set (i := 3) SC.nd rfl (by first | exact Or.inl rfl | exact Or.inr rfl) (pe_callC G_code_of hr (by decide) (pa_cons (pv 1) pa_nil))) (pss_cons (ps_set (i := 4) SC.nd rfl (by first | exact Or.inl rfl | exact Or.inr rfl) (pe_callC G_data_address hr (by decide) (pa_cons (pv 1) pa_nil))) (pss_cons (ps_fld (pv 0) (pe_callC G_next_address hr (by decide) (pa_cons (pv 1) pa_nil)) rfl) (pss_cons (ps_if (pt_val (pe_callC G_waits_for_data hr (by decide) (pa_cons (pv 3) pa_nil))) (pss_one (ps_set (i := 2) SC.nd rfl (by first | exact Or.inl rfl | exact Or.inr rfl) (pe_op op_add (pe_callC G_first_tick_at hr (by decide) (pa_cons (pv 2) (pa_cons (pv 4) pa_nil))) pe_int))) pss_nil) (pss_cons (ps_if (pt_val (pe_callC G_begins_with_d hr (by decide) (pa_cons (pv 3) pa_nil))) (pss_one (ps_fld (pv 0) (pe_ix ix_lst (pe_fld (pv 0) rfl) (pv 4) (fun _ _ => rfl)) rfl)) pss_nil) (pss_one (ps_ret (pe_op op_add (pv 2) (pe_callSub (pe_kd T.d_ORDERS (pe_gref T.m_ORDERS) (pv 3) (fun _ _ => rfl)) hr (pa_cons (pv 0) (pa_cons (pv 4) pa_nil))))))))))), ?_⟩
    simp_arith [T.k_Machine.cl, na_Machine_state T, na_Machine_over T, na_Machine_order_at T, na_Machine_tick T, na_Machine_a T, na_Machine_d T, na_Machine_drum T, na_Machine_hopper T, na_Machine_tray T, T.k_Run.cl, na_Run_machine T, na_Run_stops T, na_Run_begun T, na_Run_hopper_before T, na_Run_tray_before T, T.k_Desk.cl, na_Desk_machine T, na_Desk_stops T, na_Desk_journal T, mf_state, mf_over, mf_order_at, mf_tick, mf_a, mf_d, mf_drum, mf_hopper, mf_tray, mp_state, mp_over, mp_over1, mp_over0, mp_order_at, mp_tick, mp_a, mp_d, mp_hopper, mp_tray, mf_len, sp1, hx, e1, e2, e3]
    generalize ho : Drum.orderOf v = o at *
    have okd : Drum.loads o.code = true → o.d < 2000 := fun hl => by
      unfold Drum.loads at hl
      simp only [Bool.and_eq_true, decide_eq_true_iff] at hl
      unfold argOk at ok
      rw [if_neg (by omega), if_neg (by omega)] at ok
      exact ok
    have last : ∀ (t' : Nat) (H1 : Hp), MAt A.cMachine H1 x { Drum.loaded m o with next := o.n } dr hp tr → FrM x dr H H1 → t' + tks o.code { Drum.loaded m o with next := o.n } o.d = Drum.passed m o t + (Drum.does (Drum.loaded m o) o (cs.headD [])).behind →
        tCallV P w K mg base 4 (tKD A.aORDERS A.kORDERS (tC (V.ref A.aORDERS)) (tVar 3)) (tCons (tVar 0) (tCons (tVar 4) tNil)) [some (V.ref x), some (V.int v), some (V.int t'), some (V.int o.code), some (V.int o.d)] H1 fun y H2 => ∃ z, y = V.int z ∧ Q (V.int (t' + z)) H2 := by
      intro t' H1 M1 f1 et
      obtain ⟨nm, f, k1, k2, G⟩ := ord_all (base := base) T o.code hk
      refine ⟨_, rfl, rfl, _, _, .ref f, rfl, k1, rfl, nm, f, _, _, 4, rfl, k2, G, Nat.le_refl _, _, rfl, _, rfl, ?_⟩
      have F1 := F.mk1 f1 M1 (loaded_good F.G hn okd)
      obtain ⟨a1, a2, a3⟩ := aft_carr m o (cs.headD [])
      refine ⟨x, o.d, _, dr, hp, tr, hs, ts, cs, tc, rfl, F1, ok, fun q e => ?_, hts, fun H' hs' ts' F' b1 b2 f2 => ⟨_, rfl, ?_⟩⟩
      · have := h70 q
        rw [e] at this
        cases this
      · rw [a1] at F'
        have a2' : (Drum.does { Drum.loaded m o with next := o.n } ⟨o.code, o.d, ({ Drum.loaded m o with next := o.n } : Machine).next⟩ (cs.headD [])).out = _ := a2
        rw [a2'] at F'
        have := h H' hs' ts' F' b1 (b2.back fun c => f1.free M1) (f1.fr4.trans f2)
        rw [← et, Int.natCast_add] at this
        exact this
    have hb : (Drum.does { Drum.loaded m o with next := o.n } ⟨o.code, o.d, o.n⟩ []).behind = (Drum.does (Drum.loaded m o) o (cs.headD [])).behind := by
      obtain ⟨c, d, n⟩ := o
      rw [does_next]
      show (Drum.does (Drum.loaded m ⟨c, d, n⟩) ⟨c, d, n⟩ []).behind = _
      by_cases c7 : c = 70
      · subst c7; rfl
      · rw [does_card (o := ⟨c, d, n⟩) c7 [] (cs.headD [])]
    have tk1 : ∀ u : Nat, Drum.waits o.code = true → u = Drum.comes t (Drum.place o.d) + 1 → u + tks o.code { Drum.loaded m o with next := o.n } o.d = Drum.passed m o t + (Drum.does (Drum.loaded m o) o (cs.headD [])).behind := by
      intro u hwt hu
      unfold Drum.passed tks
      rw [if_pos hwt]
      have hb' : (Drum.does { Drum.loaded m o with next := o.n } ⟨o.code, o.d, ({ Drum.loaded m o with next := o.n } : Machine).next⟩ []).behind = _ := hb
      rw [hb']
      by_cases c6 : o.code = 60
      · rw [if_pos c6, if_pos c6, look_loaded m c6]; omega
      · rw [if_neg c6, if_neg c6]; omega
    have tk0 : Drum.waits o.code = false → t + tks o.code { Drum.loaded m o with next := o.n } o.d = Drum.passed m o t + (Drum.does (Drum.loaded m o) o (cs.headD [])).behind := by
      intro hwt
      have c6 : o.code ≠ 60 := fun q => by rw [q] at hwt; cases hwt
      have hb' : (Drum.does { Drum.loaded m o with next := o.n } ⟨o.code, o.d, ({ Drum.loaded m o with next := o.n } : Machine).next⟩ []).behind = _ := hb
      unfold Drum.passed tks
      rw [hb', if_neg c6, hwt]
      simp
    rw [← waits_iff hk, ← loads_iff]
    have ml : Drum.loads o.code = true → ({ Drum.loaded m o with next := o.n } : Machine) = { m with next := o.n, d := m.at_ o.d } := fun hl => by
      unfold Drum.loaded; rw [if_pos hl]
    have mn : Drum.loads o.code = false → ({ Drum.loaded m o with next := o.n } : Machine) = { m with next := o.n } := fun hl => by
      unfold Drum.loaded; rw [if_neg (by rw [hl]; decide)]
    have ei : Drum.loads o.code = true → atI (m.drum.map V.int) (o.d : Int) = some (.int (m.at_ o.d)) := fun hl => atI_map (at_drum (by rw [F.G.len]; exact okd hl))
    cases hwt : Drum.waits o.code with
    | true =>
      rw [if_pos rfl]
      refine ⟨t, o.d, rfl, _, rfl, ?_⟩
      cases hl : Drum.loads o.code with
      | true =>
        rw [if_pos rfl]
        simp_arith [T.k_Machine.cl, na_Machine_state T, na_Machine_over T, na_Machine_order_at T, na_Machine_tick T, na_Machine_a T, na_Machine_d T, na_Machine_drum T, na_Machine_hopper T, na_Machine_tray T, T.k_Run.cl, na_Run_machine T, na_Run_stops T, na_Run_begun T, na_Run_hopper_before T, na_Run_tray_before T, T.k_Desk.cl, na_Desk_machine T, na_Desk_stops T, na_Desk_journal T, mf_state, mf_over, mf_order_at, mf_tick, mf_a, mf_d, mf_drum, mf_hopper, mf_tray, mp_state, mp_over, mp_over1, mp_over0, mp_order_at, mp_tick, mp_a, mp_d, mp_hopper, mp_tray, mf_len, hd, upd_ne nd, ei hl]
        have := last (Drum.comes t (Drum.place o.d) + 1) _ (by rw [ml hl]; exact F.M.setx (dx := dx) (m' := { m with next := o.n, d := m.at_ o.d }) rfl) .updx (tk1 _ hwt rfl)
        rw [Int.natCast_add] at this
        exact this
      | false =>
        rw [if_neg (by decide)]
        have := last (Drum.comes t (Drum.place o.d) + 1) _ (by rw [mn hl]; exact F.M.setx (dx := dx) (m' := { m with next := o.n }) rfl) .updx (tk1 _ hwt rfl)
        rw [Int.natCast_add] at this
        exact this
    | false =>
      rw [if_neg (by decide)]
      cases hl : Drum.loads o.code with
      | true =>
        unfold Drum.waits at hwt
        rw [hl] at hwt
        cases hwt
      | false =>
        rw [if_neg (by decide)]
        exact last t _ (by rw [mn hl]; exact F.M.setx (dx := dx) (m' := { m with next := o.n }) rfl) .updx (tk0 hwt)
end Dd

namespace Dd
open PySem PySem.Spec PyProof.Rows L2
open Drum (Machine)
def sp_do_order (A : Adr) : Sp := fun vs H Q _ => ∃ (x : Addr) (m : Machine) (dr hp tr : Addr) (hs ts : List Addr) (cs tc : List (List Int)), vs = [.ref x] ∧ MFull A.cMachine H x m dr hp tr hs ts cs tc ∧ m.state = 0 ∧ ts.length < 10000 ∧
  ∀ H' hs' ts', MFull A.cMachine H' x (m.step cs).1 dr hp tr hs' ts' (if (m.step cs).2.1 = true then cs.drop 1 else cs) (tc ++ (m.step cs).2.2) →
    hs' = (if (m.step cs).2.1 = true then hs.drop 1 else hs) → Grown H ts ts' → Fr4 x dr hp tr H H' → Q .non H'
theorem cards_len {H : Hp} : ∀ {as : List Addr} {cs : List (List Int)}, CardsAt H as cs → as.length = cs.length
  | _, _, .nil => rfl
  | _, _, .cons _ t => by rw [List.length_cons, List.length_cons, cards_len t]
theorem step_some {m : Machine} {cs : List (List Int)} {f : Nat} (h : Drum.faultOf (m.at_ m.next) (!cs.isEmpty) = some f) : m.step cs = ({ m with tick := (Drum.comes m.tick (Drum.place m.next) + 3) % Drum.WRAP, state := f }, false, []) := by
  unfold Drum.Machine.step
  simp only [h]
theorem step_halt {m : Machine} {cs : List (List Int)} (h : Drum.faultOf (m.at_ m.next) (!cs.isEmpty) = none) (h0 : (Drum.orderOf (m.at_ m.next)).code = 0) : m.step cs = ({ m with tick := (Drum.comes m.tick (Drum.place m.next) + 3) % Drum.WRAP, state := 1 }, false, []) := by
  unfold Drum.Machine.step
  simp only [h, h0, if_true]
theorem step_go {m : Machine} {cs : List (List Int)} (h : Drum.faultOf (m.at_ m.next) (!cs.isEmpty) = none) (h0 : (Drum.orderOf (m.at_ m.next)).code ≠ 0) :
    m.step cs = ({ carr m (Drum.orderOf (m.at_ m.next)) (cs.headD []) with tick := (Drum.passed m (Drum.orderOf (m.at_ m.next)) (Drum.comes m.tick (Drum.place m.next) + 3) + (Drum.does (Drum.loaded m (Drum.orderOf (m.at_ m.next))) (Drum.orderOf (m.at_ m.next)) (cs.headD [])).behind) % Drum.WRAP },
      (Drum.orderOf (m.at_ m.next)).code == 70, (Drum.does (Drum.loaded m (Drum.orderOf (m.at_ m.next))) (Drum.orderOf (m.at_ m.next)) (cs.headD [])).out) := by
  unfold Drum.Machine.step
  simp only [h, if_neg h0]
  rfl
theorem ok_do_order {P : Program} {w : World} {K : PySem.W.Frag} {mg : Str → Option Value} {A : Adr} {base : Heap} (T : Txt P w K mg A) : Callee P w K mg base 6 "do_order" ["machine"] (sp_do_order A) := by
  have G_first_tick_at := ok_first_tick_at (P := P) (w := w) (base := base) T
  have G_state_behind := ok_state_behind (P := P) (w := w) (base := base) T
  have G_carry_out := ok_carry_out (P := P) (w := w) (base := base) T
  have SC := sc_do_order
  refine T.f_do_order.ok (k := 5) sc_do_order (fun vs H Q E h => ?_) (fun f cdv Ar outer s H vs Q E hr h => ?_)
  · obtain ⟨x, m, dr, hp, tr, hs, ts, cs, tc, rfl, _⟩ := h; rfl
  · obtain ⟨x, m, dr, hp, tr, hs, ts, cs, tc, rfl, F, h0, hts, h⟩ := h
    obtain ⟨dx, hx⟩ := F.M.obj
    have hd := F.M.drum
    have hh := F.hop
    have ei : atI (m.drum.map V.int) (m.next : Int) = some (.int (m.at_ m.next)) := atI_map (at_drum (by rw [F.G.len]; exact F.G.next))
    refine ⟨_, (pss_cons (ps_set (i := 1) SC.nd rfl (by first | exact Or.inl rfl | exact Or.inr rfl) (pe_ix ix_lst (pe_fld (pv 0) rfl) (pe_fld (pv 0) rfl) (fun _ _ => rfl))) (pss_cons (ps_set (i := 2) SC.nd rfl (by first | exact Or.inl rfl | exact Or.inr rfl) (pe_op op_add (pe_callC G_first_tick_at hr (by decide) (pa_cons (pe_fld (pv 0) rfl) (pa_cons (pe_fld (pv 0) rfl) pa_nil))) pe_int)) (pss_cons (ps_fld (pv 0) (pe_callC G_state_behind hr (by decide) (pa_cons (pv 1) (pa_cons (pe_cmpR op_gt (pe_callB call_len_lst (by rfl) T.b_len bt_len (pa_cons (pe_fld (pv 0) rfl) pa_nil)) pe_int (nomark _)) pa_nil))) rfl) (pss_cons (ps_if (pt_cmpR op_eq (pe_fld (pv 0) rfl) pe_int (nomark _)) (pss_one (ps_set (i := 2) SC.nd rfl (by first | exact Or.inl rfl | exact Or.inr rfl) (pe_callC G_carry_out hr (by decide) (pa_cons (pv 0) (pa_cons (pv 1) (pa_cons (pv 2) pa_nil)))))) pss_nil) (pss_one (ps_fld (pv 0) (pe_op op_mod (pv 2) (pe_gint T.c_TICKS)) rfl)))))), ?_⟩
    simp_arith [T.k_Machine.cl, na_Machine_state T, na_Machine_over T, na_Machine_order_at T, na_Machine_tick T, na_Machine_a T, na_Machine_d T, na_Machine_drum T, na_Machine_hopper T, na_Machine_tray T, T.k_Run.cl, na_Run_machine T, na_Run_stops T, na_Run_begun T, na_Run_hopper_before T, na_Run_tray_before T, T.k_Desk.cl, na_Desk_machine T, na_Desk_stops T, na_Desk_journal T, mf_state, mf_over, mf_order_at, mf_tick, mf_a, mf_d, mf_drum, mf_hopper, mf_tray, mp_state, mp_over, mp_over1, mp_over0, mp_order_at, mp_tick, mp_a, mp_d, mp_hopper, mp_tray, mf_len, hx, hd, ei]
    refine ⟨m.tick, m.next, rfl, _, rfl, ?_⟩
    simp_arith [T.k_Machine.cl, na_Machine_state T, na_Machine_over T, na_Machine_order_at T, na_Machine_tick T, na_Machine_a T, na_Machine_d T, na_Machine_drum T, na_Machine_hopper T, na_Machine_tray T, T.k_Run.cl, na_Run_machine T, na_Run_stops T, na_Run_begun T, na_Run_hopper_before T, na_Run_tray_before T, T.k_Desk.cl, na_Desk_machine T, na_Desk_stops T, na_Desk_journal T, mf_state, mf_over, mf_order_at, mf_tick, mf_a, mf_d, mf_drum, mf_hopper, mf_tray, mp_state, mp_over, mp_over1, mp_over0, mp_order_at, mp_tick, mp_a, mp_d, mp_hopper, mp_tray, mf_len, hx, hd, hh, List.length_map, cards_len F.hc]
    have hw : Drum.isWord (m.at_ m.next) = true := F.G.words _ (List.mem_of_getElem? (at_drum (by rw [F.G.len]; exact F.G.next)))
    have hb : decide (0 < ((cs.length : Nat) : Int)) = !cs.isEmpty := by
      cases cs with
      | nil => rfl
      | cons a r => simp
    rw [hb]
    refine ⟨m.at_ m.next, _, rfl, hw, ?_⟩
    simp_arith [T.k_Machine.cl, na_Machine_state T, na_Machine_over T, na_Machine_order_at T, na_Machine_tick T, na_Machine_a T, na_Machine_d T, na_Machine_drum T, na_Machine_hopper T, na_Machine_tray T, T.k_Run.cl, na_Run_machine T, na_Run_stops T, na_Run_begun T, na_Run_hopper_before T, na_Run_tray_before T, T.k_Desk.cl, na_Desk_machine T, na_Desk_stops T, na_Desk_journal T, mf_state, mf_over, mf_order_at, mf_tick, mf_a, mf_d, mf_drum, mf_hopper, mf_tray, mp_state, mp_over, mp_over1, mp_over0, mp_order_at, mp_tick, mp_a, mp_d, mp_hopper, mp_tray, mf_len, hx, hd]
    have hT : (Drum.WRAP : Int) = 18446744073709551616 := rfl
    have em : (((Drum.comes m.tick (Drum.place m.next) : Nat) : Int) + 3) % 18446744073709551616 = (((Drum.comes m.tick (Drum.place m.next) + 3) % Drum.WRAP : Nat) : Int) := by
      rw [Int.natCast_emod, hT, Int.natCast_add]; rfl
    have stopped : ∀ f : Nat, f ≠ 0 → stB (m.at_ m.next) (!cs.isEmpty) = f → m.step cs = ({ m with tick := (Drum.comes m.tick (Drum.place m.next) + 3) % Drum.WRAP, state := f }, false, []) →
        if decide (((stB (m.at_ m.next) (!cs.isEmpty) : Nat) : Int) = 0) = true then False else 0 < (18446744073709551616 : Int) ∧ Q V.non (upd H x (.ins A.cMachine dx (putF (Str.ofString "tick") (V.int ((((Drum.comes m.tick (Drum.place m.next) : Nat) : Int) + 3) % 18446744073709551616)) (mf { m with state := stB (m.at_ m.next) (!cs.isEmpty) } dr hp tr)))) := by
      intro f hf es e
      rw [es, if_neg (by rw [decide_eq_true_iff]; omega), em, mp_tick]
      rw [e] at h
      refine ⟨by decide, h _ hs ts ?_ rfl .refl (FrM.updx (dr := dr)).fr4⟩
      rw [List.append_nil]
      exact F.mk1 .updx (F.M.setx rfl) ⟨F.G.len, F.G.words, F.G.a, F.G.d, F.G.next, Nat.mod_lt _ (by decide)⟩
    cases e : Drum.faultOf (m.at_ m.next) (!cs.isEmpty) with
    | some f =>
      have es : stB (m.at_ m.next) (!cs.isEmpty) = f := by unfold stB; rw [e]
      have hf := fault_pos e
      have := stopped f (by omega) es (step_some e)
      rw [es, if_neg (by rw [decide_eq_true_iff]; omega)] at this ⊢
      exact this
    | none =>
      by_cases c0 : (Drum.orderOf (m.at_ m.next)).code = 0
      · have es : stB (m.at_ m.next) (!cs.isEmpty) = 1 := by unfold stB; rw [e]; exact if_pos c0
        have := stopped 1 (by decide) es (step_halt e c0)
        rw [es, if_neg (by decide)] at this ⊢
        exact this
      · have es : stB (m.at_ m.next) (!cs.isEmpty) = 0 := by unfold stB; rw [e]; exact if_neg c0
        rw [es, if_pos (by decide)]
        have em0 : ({ m with state := 0 } : Machine) = m := by rw [← h0]
        have F0 : MFull A.cMachine (upd H x (.ins A.cMachine dx (mf m dr hp tr))) x m dr hp tr hs ts cs tc := F.mk1 .updx (F.M.setx rfl) F.G
        refine ⟨x, m.at_ m.next, Drum.comes m.tick (Drum.place m.next) + 3, m, dr, hp, tr, hs, ts, cs, tc, rfl, (by rw [← em0] at F0; exact em0 ▸ F0), hw, e, c0, hts, fun H' hs' ts' F' b1 b2 f' => ?_⟩
        rw [step_go e c0] at h
        refine ⟨_, rfl, by decide, ?_⟩
        obtain ⟨dx', hx'⟩ := F'.M.obj
        refine ⟨_, _, _, hx', T.k_Machine.cl, na_Machine_tick T, mf_len _ _ _ _, ?_⟩
        have em2 : ∀ n : Nat, ((n : Int) % 18446744073709551616) = ((n % Drum.WRAP : Nat) : Int) := fun n => by rw [Int.natCast_emod, hT]
        rw [em2, mp_tick]
        refine h _ hs' ts' ?_ ?_ (b2.back fun c q => (upd_none q).2) ((FrM.updx (x := x) (dr := dr)).fr4.trans (f'.trans (FrM.updx (dr := dr)).fr4))
        · have G' := F'.G
          have := F'.mk1 (m' := { carr m (Drum.orderOf (m.at_ m.next)) (cs.headD []) with tick := (Drum.passed m (Drum.orderOf (m.at_ m.next)) (Drum.comes m.tick (Drum.place m.next) + 3) + (Drum.does (Drum.loaded m (Drum.orderOf (m.at_ m.next))) (Drum.orderOf (m.at_ m.next)) (cs.headD [])).behind) % Drum.WRAP }) .updx (F'.M.setx (dx := dx') rfl) ⟨G'.len, G'.words, G'.a, G'.d, G'.next, Nat.mod_lt _ (by decide)⟩
          simpa using this
        · simpa using b1
end Dd

namespace Dd
open PySem PySem.Spec PyProof.Rows L2
open Drum (Machine)
def sv (stops : List Nat) : List (Key × V) := stops.map fun (a : Nat) => (Sum.inl ((a : Nat) : Int), V.bl true)
theorem sv_in (stops : List Nat) (a : Nat) : (valV (sv stops) (Sum.inl (a : Int))).isSome = stops.contains a := by
  induction stops with
  | nil => rfl
  | cons b r ih =>
    show (valV ((Sum.inl (b : Int), V.bl true) :: sv r) _).isSome = _
    by_cases e : b = a
    · subst e
      rw [valV_pos rfl]; simp
    · rw [valV_neg (by intro q; exact e (Int.ofNat.inj (Sum.inl.inj q)))]
      rw [ih, List.contains_cons]
      have : (a == b) = false := by simpa using fun q : a = b => e q.symm
      rw [this]; rfl
theorem sv_none {stops : List Nat} {a : Nat} (h : stops.contains a = false) : valV (sv stops) (Sum.inl (a : Int)) = none := by
  have := sv_in stops a
  rw [h] at this
  cases e : valV (sv stops) (Sum.inl (a : Int)) with
  | none => rfl
  | some v => rw [e] at this; cases this
theorem sv_len (stops : List Nat) : (sv stops).length = stops.length := by unfold sv; rw [List.length_map]
theorem cards_mem {H : Hp} : ∀ {as : List Addr} {cs : List (List Int)} {a : Addr}, CardsAt H as cs → a ∈ as → ∃ c : List Int, H a = some (.lst (c.map V.int))
  | _, _, _, .nil, h => by simp at h
  | _, _, a, .cons r t, h => by
    rcases List.mem_cons.mp h with rfl | h
    · exact ⟨_, r⟩
    · exact cards_mem t h
def rf (x st : Addr) (b : Nat) (hb : Addr) (tb : Nat) : List (Str × V) := [("machine", .ref x), ("stops", .ref st), ("begun", .int b), ("hopper_before", .ref hb), ("tray_before", .int tb)]
section
variable (x st : Addr) (b : Nat) (hb : Addr) (tb : Nat)
theorem rf_machine : (rf x st b hb tb).lookup ("machine" : Str) = some (V.ref x) := by rfl
theorem rf_stops : (rf x st b hb tb).lookup ("stops" : Str) = some (V.ref st) := by rfl
theorem rf_begun : (rf x st b hb tb).lookup ("begun" : Str) = some (V.int b) := by rfl
theorem rf_hopper_before : (rf x st b hb tb).lookup ("hopper_before" : Str) = some (V.ref hb) := by rfl
theorem rf_tray_before : (rf x st b hb tb).lookup ("tray_before" : Str) = some (V.int tb) := by rfl
theorem rp_begun (z : Nat) : putF ("begun" : Str) (V.int z) (rf x st b hb tb) = rf x st z hb tb := by rfl
theorem rf_len : (rf x st b hb tb).length < 1000 := by show 5 < 1000; decide
end
structure RunAt (A : Adr) (H : Hp) (r x st hb : Addr) (stops : List Nat) (b tb : Nat) (hs0 : List Addr) (cs0 : List (List Int)) : Prop where
  obj : ∃ dx, H r = some (.ins A.cRun dx (rf x st b hb tb))
  stp : H st = some (.dK (sv stops))
  hop : H hb = some (.lst (hs0.map V.ref))
  crd : CardsAt H hs0 cs0
def sp_punched (A : Adr) : Sp := fun vs H Q _ => ∃ (r x st hb : Addr) (stops : List Nat) (b tb : Nat) (hs0 : List Addr) (cs0 : List (List Int)) (m : Machine) (dr hp tr : Addr) (hs ts : List Addr) (cs tc : List (List Int)), vs = [.ref r] ∧ RunAt A H r x st hb stops b tb hs0 cs0 ∧ MFull A.cMachine H x m dr hp tr hs ts cs tc ∧ Q (.int ((ts.length : Int) - tb)) H
theorem ok_punched {P : Program} {w : World} {K : PySem.W.Frag} {mg : Str → Option Value} {A : Adr} {base : Heap} (T : Txt P w K mg A) : Callee P w K mg base 1 "punched" ["run"] (sp_punched A) := by
  have SC := sc_punched
  refine T.f_punched.ok (k := 0) sc_punched (fun vs H Q E h => ?_) (fun f cdv Ar outer s H vs Q E hr h => ?_)
  · obtain ⟨r, x, st, hb, stops, b, tb, hs0, cs0, m, dr, hp, tr, hs, ts, cs, tc, rfl, _⟩ := h; rfl
  · obtain ⟨r, x, st, hb, stops, b, tb, hs0, cs0, m, dr, hp, tr, hs, ts, cs, tc, rfl, R, F, h⟩ := h
    obtain ⟨dxr, hr'⟩ := R.obj
    obtain ⟨dx, hx⟩ := F.M.obj
    have ht := F.tray
    refine ⟨_, (pss_one (ps_ret (pe_op op_sub (pe_callB call_len_lst (by rfl) T.b_len bt_len (pa_cons (pe_fld (pe_fld (pv 0) rfl) rfl) pa_nil)) (pe_fld (pv 0) rfl)))), ?_⟩
    simp_arith [T.k_Machine.cl, na_Machine_state T, na_Machine_over T, na_Machine_order_at T, na_Machine_tick T, na_Machine_a T, na_Machine_d T, na_Machine_drum T, na_Machine_hopper T, na_Machine_tray T, T.k_Run.cl, na_Run_machine T, na_Run_stops T, na_Run_begun T, na_Run_hopper_before T, na_Run_tray_before T, T.k_Desk.cl, na_Desk_machine T, na_Desk_stops T, na_Desk_journal T, mf_state, mf_over, mf_order_at, mf_tick, mf_a, mf_d, mf_drum, mf_hopper, mf_tray, mp_state, mp_over, mp_over1, mp_over0, mp_order_at, mp_tick, mp_a, mp_d, mp_hopper, mp_tray, mf_len, rf_machine, rf_stops, rf_begun, rf_hopper_before, rf_tray_before, rp_begun, rf_len, hr', hx, ht, List.length_map]
    exact h
def sp_cards_read (A : Adr) : Sp := fun vs H Q _ => ∃ (r x st hb : Addr) (stops : List Nat) (b tb : Nat) (hs0 : List Addr) (cs0 : List (List Int)) (m : Machine) (dr hp tr : Addr) (hs ts : List Addr) (cs tc : List (List Int)), vs = [.ref r] ∧ RunAt A H r x st hb stops b tb hs0 cs0 ∧ MFull A.cMachine H x m dr hp tr hs ts cs tc ∧
  (∃ pre, hs0 = pre ++ hs) ∧ ∀ D, H D = none → Q (.ref D) (upd H D (.lst ((hs0.take (hs0.length - hs.length)).map V.ref)))
theorem ok_cards_read {P : Program} {w : World} {K : PySem.W.Frag} {mg : Str → Option Value} {A : Adr} {base : Heap} (T : Txt P w K mg A) : Callee P w K mg base 1 "cards_read" ["run"] (sp_cards_read A) := by
  have SC := sc_cards_read
  refine T.f_cards_read.ok (k := 0) sc_cards_read (fun vs H Q E h => ?_) (fun f cdv Ar outer s H vs Q E hr h => ?_)
  · obtain ⟨r, x, st, hb, stops, b, tb, hs0, cs0, m, dr, hp, tr, hs, ts, cs, tc, rfl, _⟩ := h; rfl
  · obtain ⟨r, x, st, hb, stops, b, tb, hs0, cs0, m, dr, hp, tr, hs, ts, cs, tc, rfl, R, F, ⟨pre, e⟩, h⟩ := h
    obtain ⟨dxr, hr'⟩ := R.obj
    obtain ⟨dx, hx⟩ := F.M.obj
    have ht := F.hop
    have hh := R.hop
    refine ⟨_, (pss_one (ps_ret (pe_slice sl_lst (pe_fld (pv 0) rfl) po_none (po_some (pe_op op_sub (pe_callB call_len_lst (by rfl) T.b_len bt_len (pa_cons (pe_fld (pv 0) rfl) pa_nil)) (pe_callB call_len_lst (by rfl) T.b_len bt_len (pa_cons (pe_fld (pe_fld (pv 0) rfl) rfl) pa_nil))))))), ?_⟩
    simp_arith [T.k_Machine.cl, na_Machine_state T, na_Machine_over T, na_Machine_order_at T, na_Machine_tick T, na_Machine_a T, na_Machine_d T, na_Machine_drum T, na_Machine_hopper T, na_Machine_tray T, T.k_Run.cl, na_Run_machine T, na_Run_stops T, na_Run_begun T, na_Run_hopper_before T, na_Run_tray_before T, T.k_Desk.cl, na_Desk_machine T, na_Desk_stops T, na_Desk_journal T, mf_state, mf_over, mf_order_at, mf_tick, mf_a, mf_d, mf_drum, mf_hopper, mf_tray, mp_state, mp_over, mp_over1, mp_over0, mp_order_at, mp_tick, mp_a, mp_d, mp_hopper, mp_tray, mf_len, rf_machine, rf_stops, rf_begun, rf_hopper_before, rf_tray_before, rp_begun, rf_len, hr', hx, ht, hh, List.length_map]
    intro D hD
    have e2 : ((hs0.length : Int) - (hs.length : Int)) = ((hs0.length - hs.length : Nat) : Int) := by
      have : hs.length ≤ hs0.length := by rw [e, List.length_append]; omega
      omega
    have := h D hD
    rw [e2]
    unfold cutV
    rw [HT.sIx_none, HT.sIx_nat, List.length_map, List.drop_zero, Nat.sub_zero, Nat.min_eq_left (by omega), ← List.map_take]
    exact this
def sp_Run_init (A : Adr) : Sp := fun vs H Q _ => ∃ (r dxr x st : Addr) (stops : List Nat) (m : Machine) (dr hp tr : Addr) (hs ts : List Addr) (cs tc : List (List Int)), vs = [.ref r, .ref x, .ref st] ∧ H r = some (.ins A.cRun dxr []) ∧ H st = some (.dK (sv stops)) ∧ MFull A.cMachine H x m dr hp tr hs ts cs tc ∧
  ∀ H' hb, H hb = none → (∀ b o, H b = some o → b ≠ r → H' b = some o) → RunAt A H' r x st hb stops 0 ts.length hs cs → Q .non H'
theorem ok_Run_init {P : Program} {w : World} {K : PySem.W.Frag} {mg : Str → Option Value} {A : Adr} {base : Heap} (T : Txt P w K mg A) : Maker P w K mg base 1 "Run" A.cRun ["self", "machine", "stops"] (sp_Run_init A) := by
  have SC := sc_Run_init
  refine T.k_Run.ok (k := 0) sc_Run_init (fun vs H Q E h => ?_) (fun f cdv Ar outer s H vs Q E hr h => ?_)
  · obtain ⟨r, dxr, x, st, stops, m, dr, hp, tr, hs, ts, cs, tc, rfl, _⟩ := h; rfl
  · obtain ⟨r, dxr, x, st, stops, m, dr, hp, tr, hs, ts, cs, tc, rfl, hr', hst, F, h⟩ := h
    obtain ⟨dx, hx⟩ := F.M.obj
    have ht := F.tray
    have hh := F.hop
    have nx : x ≠ r := ne_of hx hr' (by intro q; injection q with _ _ q3; cases q3)
    have nh : hp ≠ r := ne_of hh hr' (by intro q; cases q)
    have nt : tr ≠ r := ne_of ht hr' (by intro q; cases q)
    refine ⟨_, (pss_cons (ps_fld (pv 0) (pv 1) rfl) (pss_cons (ps_fld (pv 0) (pv 2) rfl) (pss_cons (ps_fld (pv 0) pe_int rfl) (pss_cons (ps_fld (pv 0) (pe_callTy call_list_lst (by rfl) T.b_list bt_list (pa_cons (pe_fld (pv 1) rfl) pa_nil)) rfl) (pss_one (ps_fld (pv 0) (pe_callB call_len_lst (by rfl) T.b_len bt_len (pa_cons (pe_fld (pv 1) rfl) pa_nil)) rfl)))))), ?_⟩
    simp_arith [T.k_Machine.cl, na_Machine_state T, na_Machine_over T, na_Machine_order_at T, na_Machine_tick T, na_Machine_a T, na_Machine_d T, na_Machine_drum T, na_Machine_hopper T, na_Machine_tray T, T.k_Run.cl, na_Run_machine T, na_Run_stops T, na_Run_begun T, na_Run_hopper_before T, na_Run_tray_before T, T.k_Desk.cl, na_Desk_machine T, na_Desk_stops T, na_Desk_journal T, mf_state, mf_over, mf_order_at, mf_tick, mf_a, mf_d, mf_drum, mf_hopper, mf_tray, mp_state, mp_over, mp_over1, mp_over0, mp_order_at, mp_tick, mp_a, mp_d, mp_hopper, mp_tray, mf_len, rf_machine, rf_stops, rf_begun, rf_hopper_before, rf_tray_before, rp_begun, rf_len, hr', hx, ht, hh, upd_ne nx, upd_ne nh, upd_ne nt, List.length_map]
    refine ⟨by decide, (by exact (by decide : 1 < 1000)), (by exact (by decide : 2 < 1000)), fun hb hhb => ?_⟩
    have nr : r ≠ hb := ne_of_none upd_same hhb
    have hhb0 : H hb = none := by rw [upd_ne nr.symm] at hhb; exact hhb
    have nbx : x ≠ hb := ne_of_none hx hhb0
    have nbt : tr ≠ hb := ne_of_none ht hhb0
    refine ⟨_, _, _, (by rw [upd_ne nr, upd_same]), T.k_Run.cl, na_Run_hopper_before T, (by exact (by decide : 3 < 1000)), ?_⟩
    refine ⟨_, _, _, (by rw [upd_ne nbx, upd_ne nx]; exact hx), T.k_Machine.cl, na_Machine_tray T, _, mf_tray _ _ _ _, _, rfl, _, (by rw [upd_ne nt, upd_ne nbt, upd_ne nt]; exact ht), T.k_Run.cl, na_Run_tray_before T, (by exact (by decide : 4 < 1000)), ?_⟩
    refine h _ hb hhb0 (fun b o e nb => ?_) ⟨⟨dxr, ?_⟩, ?_, ?_, ?_⟩
    · rw [upd_ne nb, upd_ne (ne_of_none e hhb0), upd_ne nb]; exact e
    · rw [upd_same, List.length_map]; rfl
    · have n1 : st ≠ r := ne_of hst hr' (by intro q; cases q)
      rw [upd_ne n1, upd_ne (ne_of_none hst hhb0), upd_ne n1]; exact hst
    · rw [upd_ne nr.symm, upd_same]
    · refine F.hc.keep fun a ha o e => ?_
      have na : a ≠ r := fun q => by
        subst q
        obtain ⟨c, hc⟩ := cards_mem F.hc ha
        rw [hr'] at hc; cases hc
      rw [upd_ne na, upd_ne (ne_of_none e hhb0), upd_ne na]; exact e
def endB (stops : List Nat) (m : Machine) (b orders until_ tl : Nat) : Option Nat :=
  if m.state ≠ 0 then some 0 else if orders ≤ b then some 1 else if until_ ≤ m.tick then some 2 else if 0 < b ∧ stops.contains m.next = true then some 3 else if 64 ≤ tl ∧ punches (m.at_ m.next) = true then some 5 else none
def optV : Option Nat → V
  | some n => .int n
  | none => .non
def sp_end_before (A : Adr) : Sp := fun vs H Q _ => ∃ (r x st hb : Addr) (stops : List Nat) (b tb : Nat) (hs0 : List Addr) (cs0 : List (List Int)) (m : Machine) (dr hp tr : Addr) (hs ts : List Addr) (cs tc : List (List Int)) (orders until_ : Nat),
  vs = [.ref r, .int orders, .int until_] ∧ RunAt A H r x st hb stops b tb hs0 cs0 ∧ MFull A.cMachine H x m dr hp tr hs ts cs tc ∧ Q (optV (endB stops m b orders until_ ts.length)) H
theorem ok_end_before_order {P : Program} {w : World} {K : PySem.W.Frag} {mg : Str → Option Value} {A : Adr} {base : Heap} (T : Txt P w K mg A) : Callee P w K mg base 4 "end_before_order" ["run", "orders", "until"] (sp_end_before A) := by
  have G_is_punching := ok_is_punching (P := P) (w := w) (base := base) T
  have SC := sc_end_before_order
  refine T.f_end_before_order.ok (k := 3) sc_end_before_order (fun vs H Q E h => ?_) (fun f cdv Ar outer s H vs Q E hr h => ?_)
  · obtain ⟨r, x, st, hb, stops, b, tb, hs0, cs0, m, dr, hp, tr, hs, ts, cs, tc, orders, until_, rfl, _⟩ := h; rfl
  · obtain ⟨r, x, st, hb, stops, b, tb, hs0, cs0, m, dr, hp, tr, hs, ts, cs, tc, orders, until_, rfl, R, F, h⟩ := h
    obtain ⟨dxr, hr'⟩ := R.obj
    obtain ⟨dx, hx⟩ := F.M.obj
    have ht := F.tray
    have hd := F.M.drum
    have hst := R.stp
    have hu := hu_of hr
    have ei : atI (m.drum.map V.int) (m.next : Int) = some (.int (m.at_ m.next)) := atI_map (at_drum (by rw [F.G.len]; exact F.G.next))
    have hw : Drum.isWord (m.at_ m.next) = true := F.G.words _ (List.mem_of_getElem? (at_drum (by rw [F.G.len]; exact F.G.next)))
    have hg : DGet H st (V.int m.next) (valV (sv stops) (Sum.inl (m.next : Int))) := DGet.k (k := Sum.inl (m.next : Int)) hst
    refine ⟨_, (pss_cons (ps_set (i := 3) SC.nd rfl (by first | exact Or.inl rfl | exact Or.inr rfl) (pe_fld (pv 0) rfl)) (pss_cons (ps_if (pt_cmpR op_ne (pe_fld (pv 3) rfl) pe_int (nomark _)) (pss_one (ps_ret (pe_gint T.c_STOPPED))) pss_nil) (pss_cons (ps_if (pt_cmpR op_ge (pe_fld (pv 0) rfl) (pv 1) (nomark _)) (pss_one (ps_ret (pe_gint T.c_ALL_BEGUN))) pss_nil) (pss_cons (ps_if (pt_cmpR op_ge (pe_fld (pv 3) rfl) (pv 2) (nomark _)) (pss_one (ps_ret (pe_gint T.c_TICK_MET))) pss_nil) (pss_cons (ps_if (PW.pt (pw_and (pt_cmpR op_gt (pe_fld (pv 0) rfl) pe_int (nomark _)) (pw_and1 (pt_cmp (pc_din hu (pe_fld (pv 3) rfl) (pe_fld (pv 0) rfl)))))) (pss_one (ps_ret (pe_gint T.c_STOP_MET))) pss_nil) (pss_cons (ps_if (PW.pt (pw_and (pt_cmpR op_ge (pe_callB call_len_lst (by rfl) T.b_len bt_len (pa_cons (pe_fld (pv 3) rfl) pa_nil)) (pe_gint T.c_TRAY_MOST) (nomark _)) (pw_and1 (pt_val (pe_callC G_is_punching hr (by decide) (pa_cons (pe_ix ix_lst (pe_fld (pv 3) rfl) (pe_fld (pv 3) rfl) (fun _ _ => rfl)) pa_nil)))))) (pss_one (ps_ret (pe_gint T.c_TRAY_FULL))) pss_nil) (pss_one (ps_ret pe_non)))))))), ?_⟩
    simp_arith [T.k_Machine.cl, na_Machine_state T, na_Machine_over T, na_Machine_order_at T, na_Machine_tick T, na_Machine_a T, na_Machine_d T, na_Machine_drum T, na_Machine_hopper T, na_Machine_tray T, T.k_Run.cl, na_Run_machine T, na_Run_stops T, na_Run_begun T, na_Run_hopper_before T, na_Run_tray_before T, T.k_Desk.cl, na_Desk_machine T, na_Desk_stops T, na_Desk_journal T, mf_state, mf_over, mf_order_at, mf_tick, mf_a, mf_d, mf_drum, mf_hopper, mf_tray, mp_state, mp_over, mp_over1, mp_over0, mp_order_at, mp_tick, mp_a, mp_d, mp_hopper, mp_tray, mf_len, rf_machine, rf_stops, rf_begun, rf_hopper_before, rf_tray_before, rp_begun, rf_len, hr', hx, ht, hd, ei, List.length_map, tDIn]
    have tail : (stops.contains m.next = true → ¬ 0 < b) → m.state = 0 → ¬ orders ≤ b → ¬ until_ ≤ m.tick → (if decide ((64 : Int) ≤ (ts.length : Int)) = true then
          sp_is_punching [V.int (m.at_ m.next)] H (fun x H1 => ∃ c, x = V.bl c ∧ if c = true then Q (V.int 5) H1 else Q V.non H1) E0 else Q V.non H) := by
      intro h3 h0 h1 h2
      have e : endB stops m b orders until_ ts.length = if 64 ≤ ts.length ∧ punches (m.at_ m.next) = true then some 5 else none := by
        unfold endB
        rw [if_neg (by omega), if_neg h1, if_neg h2, if_neg (fun q => h3 q.2 q.1)]
      rw [e] at h
      by_cases c : 64 ≤ ts.length
      · rw [if_pos (decide_eq_true (by omega))]
        refine ⟨_, rfl, hw, _, rfl, ?_⟩
        cases p : punches (m.at_ m.next) with
        | true => rw [if_pos ⟨c, p⟩] at h; exact h
        | false => rw [if_neg (by rw [p]; simp)] at h; exact h
      · rw [if_neg (by rw [decide_eq_true_iff]; omega)]
        rw [if_neg (fun q => c q.1)] at h; exact h
    by_cases c0 : m.state = 0
    · rw [if_neg (by rw [decide_eq_true (show (m.state : Int) = 0 by omega)]; decide)]
      by_cases c1 : orders ≤ b
      · rw [if_pos (decide_eq_true (by omega))]
        have e : endB stops m b orders until_ ts.length = some 1 := by unfold endB; rw [if_neg (by omega), if_pos c1]
        rw [e] at h; exact h
      · rw [if_neg (by rw [decide_eq_true_iff]; omega)]
        by_cases c2 : until_ ≤ m.tick
        · rw [if_pos (decide_eq_true (by omega))]
          have e : endB stops m b orders until_ ts.length = some 2 := by unfold endB; rw [if_neg (by omega), if_neg c1, if_pos c2]
          rw [e] at h; exact h
        · rw [if_neg (by rw [decide_eq_true_iff]; omega)]
          by_cases c3 : 0 < b
          · rw [if_pos (decide_eq_true (by omega))]
            refine ⟨_, hg, ?_⟩
            rw [sv_in]
            cases c4 : stops.contains m.next with
            | true =>
              have e : endB stops m b orders until_ ts.length = some 3 := by unfold endB; rw [if_neg (by omega), if_neg c1, if_neg c2, if_pos ⟨c3, c4⟩]
              rw [e] at h; exact h
            | false => exact tail (fun q => by rw [c4] at q; cases q) c0 c1 c2
          · rw [if_neg (by rw [decide_eq_true_iff]; omega)]
            exact tail (fun _ => c3) c0 c1 c2
    · rw [if_pos (by rw [decide_eq_false (show ¬ (m.state : Int) = 0 by omega)]; rfl)]
      have e : endB stops m b orders until_ ts.length = some 0 := by unfold endB; rw [if_pos c0]
      rw [e] at h; exact h
def outc (stops : List Nat) (until_ pause room orders b : Nat) (o : Drum.Outcome) : Drum.Outcome := Drum.deskRun stops until_ pause room (orders - b) (b == 0) o
theorem codeNext_iff {m : Machine} : (Drum.codeNext m = some 71) ↔ punches (m.at_ m.next) = true := by
  unfold Drum.codeNext punches
  cases h : (Drum.faultOf (m.at_ m.next) true).isNone with
  | true => simp
  | false => simp
theorem first_iff (b : Nat) : ((b == 0) = false) ↔ 0 < b := by
  constructor
  · intro q
    have : b ≠ 0 := by simpa using q
    omega
  · intro q
    have : b ≠ 0 := by omega
    simpa using this
theorem outc_end {stops : List Nat} {until_ pause room orders b : Nat} {o : Drum.Outcome} {tl e : Nat} (hr : room ≤ o.punched.length ↔ 64 ≤ tl) (h : endB stops o.m b orders until_ tl = some e) : outc stops until_ pause room orders b o = { o with why := e } := by
  unfold outc
  unfold endB at h
  rw [Drum.deskRun.eq_def]
  dsimp only
  split at h
  · rename_i c
    cases h
    rw [if_pos c]
  · rename_i c
    rw [if_neg c]
    split at h
    · rename_i c1
      cases h
      have : orders - b = 0 := by omega
      rw [this]
    · rename_i c1
      obtain ⟨k, hk⟩ : ∃ k, orders - b = k + 1 := ⟨orders - b - 1, by omega⟩
      rw [hk]
      simp only
      split at h
      · rename_i c2
        cases h
        rw [if_pos c2]
      · rename_i c2
        rw [if_neg c2]
        split at h
        · rename_i c3
          cases h
          rw [if_pos ⟨(first_iff b).mpr c3.1, c3.2⟩]
        · rename_i c3
          rw [if_neg (fun q => c3 ⟨(first_iff b).mp q.1, q.2⟩)]
          split at h
          · rename_i c4
            cases h
            rw [if_pos ⟨codeNext_iff.mpr c4.2, hr.mpr c4.1⟩]
          · cases h
def nxt (o : Drum.Outcome) : Drum.Outcome := { o with m := (o.m.step o.left).1, begun := o.begun + 1, read := if (o.m.step o.left).2.1 = true then o.read ++ o.left.take 1 else o.read, left := if (o.m.step o.left).2.1 = true then o.left.drop 1 else o.left, punched := o.punched ++ (o.m.step o.left).2.2 }
theorem step_out {m : Machine} {cs : List (List Int)} (h : punches (m.at_ m.next) = false) : (m.step cs).2.2 = [] := by
  cases e : Drum.faultOf (m.at_ m.next) (!cs.isEmpty) with
  | some f => rw [step_some e]
  | none =>
    by_cases c0 : (Drum.orderOf (m.at_ m.next)).code = 0
    · rw [step_halt e c0]
    · rw [step_go e c0]
      refine does_out (fun q => ?_) _
      unfold punches at h
      have h70 : (Drum.orderOf (m.at_ m.next)).code ≠ 70 := by omega
      rw [fault_card h70 true (!cs.isEmpty), e, q] at h
      cases h
theorem outc_go {stops : List Nat} {until_ pause room orders b : Nat} {o : Drum.Outcome} {tl : Nat} (hr : room ≤ o.punched.length ↔ 64 ≤ tl) (h : endB stops o.m b orders until_ tl = none) :
    o.m.state = 0 ∧ b < orders ∧ (64 ≤ tl → (o.m.step o.left).2.2 = []) ∧ outc stops until_ pause room orders b o = if (o.m.step o.left).2.2 ≠ [] ∧ pause ≠ 0 ∧ pause ≤ (nxt o).punched.length then { nxt o with why := 4 } else outc stops until_ pause room orders (b + 1) (nxt o) := by
  unfold endB at h
  split at h
  · cases h
  · rename_i c
    split at h
    · cases h
    · rename_i c1
      split at h
      · cases h
      · rename_i c2
        split at h
        · cases h
        · rename_i c3
          split at h
          · cases h
          · rename_i c4
            refine ⟨by omega, by omega, fun ht => step_out ?_, ?_⟩
            · cases p : punches (o.m.at_ o.m.next) with
              | false => rfl
              | true => exact absurd ⟨ht, p⟩ c4
            · unfold outc
              obtain ⟨k, hk⟩ : ∃ k, orders - b = k + 1 := ⟨orders - b - 1, by omega⟩
              have hk' : orders - (b + 1) = k := by omega
              rw [hk, hk', Drum.deskRun, if_neg c]
              simp only
              rw [if_neg c2, if_neg (fun q => c3 ⟨(first_iff b).mp q.1, q.2⟩), if_neg (fun q => c4 ⟨hr.mp q.2, codeNext_iff.mp q.1⟩)]
              have eb : ((b + 1 == 0) : Bool) = false := rfl
              rw [eb]
              rfl
end Dd

namespace Dd
open PySem PySem.Spec PyProof.Rows L2
open Drum (Machine)
def Fr5 (x dr hp tr r : Addr) (H H' : Hp) : Prop := ∀ b o, H b = some o → b ≠ x → b ≠ dr → b ≠ hp → b ≠ tr → b ≠ r → H' b = some o
theorem Fr5.trans {x dr hp tr r : Addr} {H H1 H2 : Hp} (a : Fr5 x dr hp tr r H H1) (b : Fr5 x dr hp tr r H1 H2) : Fr5 x dr hp tr r H H2 := fun c o e h1 h2 h3 h4 h5 => b c o (a c o e h1 h2 h3 h4 h5) h1 h2 h3 h4 h5
theorem Fr4.fr5 {x dr hp tr r : Addr} {H H' : Hp} (f : Fr4 x dr hp tr H H') : Fr5 x dr hp tr r H H' := fun b o e h1 h2 h3 h4 _ => f b o e h1 h2 h3 h4
theorem Fr5.refl {x dr hp tr r : Addr} {H : Hp} : Fr5 x dr hp tr r H H := fun _ _ e _ _ _ _ _ => e
theorem Fr5.updr {x dr hp tr r : Addr} {H : Hp} {o : HO} : Fr5 x dr hp tr r H (upd H r o) := fun b u e _ _ _ _ h5 => by rw [upd_ne h5]; exact e
structure Apart (r st hb x dr hp tr : Addr) : Prop where
  rx : r ≠ x
  rdr : r ≠ dr
  rhp : r ≠ hp
  rtr : r ≠ tr
  hbx : hb ≠ x
  hbdr : hb ≠ dr
  hbhp : hb ≠ hp
  hbtr : hb ≠ tr
  hbr : hb ≠ r
  stx : st ≠ x
  stdr : st ≠ dr
  sthp : st ≠ hp
  sttr : st ≠ tr
  str : st ≠ r
theorem RunAt.keep4 {A : Adr} {H H' : Hp} {r x st hb dr hp tr : Addr} {stops : List Nat} {b tb : Nat} {hs0 : List Addr} {cs0 : List (List Int)} (R : RunAt A H r x st hb stops b tb hs0 cs0) (f : Fr4 x dr hp tr H H') (a : Apart r st hb x dr hp tr)
    (nh : ∀ c ∈ hs0, c ≠ dr ∧ c ≠ hp ∧ c ≠ tr ∧ c ≠ x) : RunAt A H' r x st hb stops b tb hs0 cs0 := by
  obtain ⟨⟨dx, ho⟩, h1, h2, h3⟩ := R
  exact ⟨⟨dx, f _ _ ho a.rx a.rdr a.rhp a.rtr⟩, f _ _ h1 a.stx a.stdr a.sthp a.sttr, f _ _ h2 a.hbx a.hbdr a.hbhp a.hbtr, h3.keep fun c hc o e => f c o e (nh c hc).2.2.2 (nh c hc).1 (nh c hc).2.1 (nh c hc).2.2.1⟩
theorem step_out1 (m : Machine) (cs : List (List Int)) : (m.step cs).2.2.length ≤ 1 := by
  cases e : Drum.faultOf (m.at_ m.next) (!cs.isEmpty) with
  | some f => rw [step_some e]; exact Nat.zero_le _
  | none =>
    by_cases c0 : (Drum.orderOf (m.at_ m.next)).code = 0
    · rw [step_halt e c0]; exact Nat.zero_le _
    · rw [step_go e c0]
      show (Drum.does _ _ _).out.length ≤ 1
      by_cases c1 : (Drum.orderOf (m.at_ m.next)).code = 71
      · unfold Drum.does
        rw [c1]
        exact Nat.le_refl 1
      · rw [does_out c1]; exact Nat.zero_le _
theorem MFull.other {C : Addr} {H H' : Hp} {x : Addr} {m : Machine} {dr hp tr r : Addr} {hs ts : List Addr} {cs tc : List (List Int)} {Cr dxr : Addr} {fs : List (Str × V)} (F : MFull C H x m dr hp tr hs ts cs tc) (hr : H r = some (.ins Cr dxr fs)) (rx : r ≠ x)
    (k : ∀ b o, H b = some o → b ≠ r → H' b = some o) : MFull C H' x m dr hp tr hs ts cs tc := by
  obtain ⟨dx, hx⟩ := F.M.obj
  have nl : ∀ {b : Addr} {l : List V}, H b = some (.lst l) → b ≠ r := fun e q => by rw [q, hr] at e; cases e
  refine ⟨⟨⟨dx, k _ _ hx rx.symm⟩, k _ _ F.M.drum (nl F.M.drum)⟩, F.G, k _ _ F.hop (nl F.hop), k _ _ F.tray (nl F.tray), ?_, ?_, F.ndh, F.ndt, F.nht, F.nh, F.nt, F.cw, F.tw⟩
  · refine F.hc.keep fun a ha o e => k a o e ?_
    obtain ⟨c, hc⟩ := cards_mem F.hc ha
    exact nl hc
  · refine F.ht.keep fun a ha o e => k a o e ?_
    obtain ⟨c, hc⟩ := cards_mem F.ht ha
    exact nl hc
theorem RunAt.begun {A : Adr} {H : Hp} {r x st hb dxr : Addr} {stops : List Nat} {b b' tb : Nat} {hs0 : List Addr} {cs0 : List (List Int)} (R : RunAt A H r x st hb stops b tb hs0 cs0) (n1 : st ≠ r) (n2 : hb ≠ r) : RunAt A (upd H r (.ins A.cRun dxr (rf x st b' hb tb))) r x st hb stops b' tb hs0 cs0 := by
  obtain ⟨⟨dx, ho⟩, h1, h2, h3⟩ := R
  refine ⟨⟨dxr, upd_same⟩, by rw [upd_ne n1]; exact h1, by rw [upd_ne n2]; exact h2, h3.keep fun c hc o e => ?_⟩
  obtain ⟨l, hl⟩ := cards_mem h3 hc
  have : c ≠ r := fun q => by rw [q, ho] at hl; cases hl
  rw [upd_ne this]; exact e
theorem Fr5.free {A : Adr} {C x dr hp tr r st hb : Addr} {m : Machine} {H H1 : Hp} {c : Addr} {hs ts : List Addr} {cs tc : List (List Int)} {stops : List Nat} {b tb : Nat} {hs0 : List Addr} {cs0 : List (List Int)} (f : Fr5 x dr hp tr r H H1) (F : MFull C H1 x m dr hp tr hs ts cs tc) (R : RunAt A H1 r x st hb stops b tb hs0 cs0) (h : H1 c = none) : H c = none := by
  obtain ⟨dx, hx⟩ := F.M.obj
  obtain ⟨dr', hr'⟩ := R.obj
  have n : ∀ {a : Addr} {o : HO}, H1 a = some o → c ≠ a := fun e q => by rw [q, e] at h; cases h
  cases e : H c with
  | none => rfl
  | some o => rw [f c o e (n hx) (n F.M.drum) (n F.hop) (n F.tray) (n hr')] at h; cases h
structure Loop (A : Adr) (H0 : Hp) (r x st hb dr hp tr : Addr) (stops : List Nat) (orders until_ pause tb : Nat) (hs : List Addr) (ts : List Addr) (cs tc : List (List Int)) (fin : Drum.Outcome) (b : Nat) (H : Hp) : Prop where
  ex : ∃ (o : Drum.Outcome) (hs' ts' pre : List Addr), RunAt A H r x st hb stops b tb hs cs ∧ MFull A.cMachine H x o.m dr hp tr hs' ts' o.left (tc ++ o.punched) ∧ o.begun = b ∧ cs = o.read ++ o.left ∧ hs = pre ++ hs' ∧
    outc stops until_ pause (64 - tb) orders b o = fin ∧ (pause = 0 ∨ o.punched.length < pause) ∧ Grown H0 ts ts' ∧ ts'.length ≤ 64 ∧ Fr5 x dr hp tr r H0 H
def sp_go_on (A : Adr) : Sp := fun vs H Q _ => ∃ (r x st hb : Addr) (stops : List Nat) (m : Machine) (dr hp tr : Addr) (hs ts : List Addr) (cs tc : List (List Int)) (orders until_ pause : Nat),
  vs = [.ref r, .int orders, .int until_, .int pause] ∧ RunAt A H r x st hb stops 0 ts.length hs cs ∧ MFull A.cMachine H x m dr hp tr hs ts cs tc ∧ Apart r st hb x dr hp tr ∧ ts.length ≤ 64 ∧
  ∀ (H' : Hp) (fin : Drum.Outcome) (hs' ts' pre : List Addr), fin = Drum.deskRun stops until_ pause (64 - ts.length) orders true ⟨m, 0, [], cs, [], 0⟩ → RunAt A H' r x st hb stops fin.begun ts.length hs cs → MFull A.cMachine H' x fin.m dr hp tr hs' ts' fin.left (tc ++ fin.punched) →
    cs = fin.read ++ fin.left → hs = pre ++ hs' → Grown H ts ts' → ts'.length ≤ 64 → Fr5 x dr hp tr r H H' → Q (.int fin.why) H'
theorem ok_go_on {P : Program} {w : World} {K : PySem.W.Frag} {mg : Str → Option Value} {A : Adr} {base : Heap} (T : Txt P w K mg A) : Callee P w K mg base 7 "go_on" ["run", "orders", "until", "pause"] (sp_go_on A) := by
  have G_do_order := ok_do_order (P := P) (w := w) (base := base) T
  have G_punched := ok_punched (P := P) (w := w) (base := base) T
  have G_end_before_order := ok_end_before_order (P := P) (w := w) (base := base) T
  have SC := sc_go_on
  refine T.f_go_on.ok (k := 6) sc_go_on (fun vs H Q E h => ?_) (fun f cdv Ar outer s H vs Q E hr h => ?_)
  · obtain ⟨r, x, st, hb, stops, m, dr, hp, tr, hs, ts, cs, tc, orders, until_, pause, rfl, _⟩ := h; rfl
  · obtain ⟨r, x, st, hb, stops, m, dr, hp, tr, hs, ts, cs, tc, orders, until_, pause, rfl, R, F, a, hts, h⟩ := h
    refine ⟨_, (pss_one (ps_while PassesOwn.never (pt_val pe_bl) (pss_cons (ps_set (i := 4) SC.nd rfl (by first | exact Or.inl rfl | exact Or.inr rfl) (pe_callC G_end_before_order hr (by decide) (pa_cons (pv 0) (pa_cons (pv 1) (pa_cons (pv 2) pa_nil))))) (pss_cons (ps_if (pt_cmpR op_notN (pv 4) pe_non (nomark _)) (pss_one (ps_ret (pv 4))) pss_nil) (pss_cons (ps_expr (pe_callC G_do_order hr (by decide) (pa_cons (pe_fld (pv 0) rfl) pa_nil))) (pss_cons (ps_fldaug (pv 0) pe_int in_add) (pss_one (ps_if (PW.pt (pw_and (pt_cmpR op_gt (pv 3) pe_int (nomark _)) (pw_and1 (pt_cmpR op_eq (pe_callC G_punched hr (by decide) (pa_cons (pv 0) pa_nil)) (pv 3) (nomark _))))) (pss_one (ps_ret (pe_gint T.c_PAUSED))) pss_nil)))))))), ?_⟩
    refine ⟨fun k σ H' => (∃ v4 : Option V, σ = [some (.ref r), some (.int orders), some (.int until_), some (.int pause), v4]) ∧ ∃ b, k = orders - b ∧
      Loop A H r x st hb dr hp tr stops orders until_ pause ts.length hs ts cs tc (Drum.deskRun stops until_ pause (64 - ts.length) orders true ⟨m, 0, [], cs, [], 0⟩) b H', ⟨orders, ⟨none, rfl⟩, 0, rfl, ⟨⟨m, 0, [], cs, [], 0⟩, hs, ts, [], R, by rw [List.append_nil]; exact F, rfl, rfl, rfl, rfl, ?_, Grown.refl, hts, .refl⟩⟩, ?_⟩
    · show pause = 0 ∨ 0 < pause
      omega
    · rintro k σ H' ⟨⟨v4, rfl⟩, b, rfl, ⟨o, hs', ts', pre, R', F', eb, ec, eh, eo, hp', ht', hl', f'⟩⟩
      refine ⟨_, rfl, iteT ⟨fun σ2 H2 => (∃ v4 : Option V, σ2 = [some (.ref r), some (.int orders), some (.int until_), some (.int pause), v4]) ∧ b < orders ∧
        Loop A H r x st hb dr hp tr stops orders until_ pause ts.length hs ts cs tc (Drum.deskRun stops until_ pause (64 - ts.length) orders true ⟨m, 0, [], cs, [], 0⟩) (b + 1) H2, ?_, ?_⟩⟩
      · rintro σ2 H2 ⟨e1, e2, e3⟩
        exact ⟨orders - (b + 1), by omega, e1, b + 1, rfl, e3⟩
      · have lt' : ts'.length = ts.length + o.punched.length := by
          rw [cards_len F'.ht, List.length_append, ← cards_len F.ht]
        have hroom : 64 - ts.length ≤ o.punched.length ↔ 64 ≤ ts'.length := by omega
        refine ⟨_, rfl, _, rfl, _, rfl, r, x, st, hb, stops, b, _, hs, cs, o.m, dr, hp, tr, hs', ts', _, _, orders, until_, rfl, R', F', ?_⟩
        cases hE : endB stops o.m b orders until_ ts'.length with
        | some e =>
          have ef := (outc_end hroom hE).symm.trans eo
          have := h H' { o with why := e } hs' ts' pre ef (by rw [← eb] at R'; exact R') F' ec eh ht' hl' f'
          simp_arith [optV, Bool.not_false, decide_false, reduceCtorEq]
          exact this
        | none =>
          obtain ⟨s0, blt, h64, eo2⟩ := outc_go (pause := pause) hroom hE
          rw [eo] at eo2
          obtain ⟨dxr, hr'⟩ := R'.obj
          simp_arith [optV]
          rw [if_neg (by simp)]
          refine ⟨_, _, _, hr', T.k_Run.cl, na_Run_machine T, _, rf_machine _ _ _ _ _, ?_⟩
          refine ⟨x, o.m, dr, hp, tr, hs', ts', o.left, _, rfl, F', s0, by omega, fun H1 hs1 ts1 F1 e1 p1 f1 => ?_⟩
          have R1 := R'.keep4 f1 a F.nh
          obtain ⟨dxr1, hr1⟩ := R1.obj
          refine ⟨_, _, _, hr1, T.k_Run.cl, na_Run_begun T, _, rf_begun _ _ _ _ _, _, rfl, _, _, hr1, rf_len _ _ _ _ _, ?_⟩
          have eb1 : ((b : Int) + 1) = ((b + 1 : Nat) : Int) := rfl
          rw [eb1, rp_begun]
          have R2 : RunAt A (upd H1 r (.ins A.cRun dxr1 (rf x st (b + 1) hb ts.length))) r x st hb stops (b + 1) ts.length hs cs := R1.begun a.str a.hbr
          rw [List.append_assoc] at F1
          have F2 : MFull A.cMachine (upd H1 r (.ins A.cRun dxr1 (rf x st (b + 1) hb ts.length))) x (nxt o).m dr hp tr hs1 ts1 (nxt o).left (tc ++ (nxt o).punched) := F1.other hr1 a.rx fun c u e nc => by rw [upd_ne nc]; exact e
          have f2 : Fr5 x dr hp tr r H (upd H1 r (.ins A.cRun dxr1 (rf x st (b + 1) hb ts.length))) := f'.trans (f1.fr5.trans .updr)
          have ec2 : cs = (nxt o).read ++ (nxt o).left := by
            unfold nxt
            cases (o.m.step o.left).2.1 with
            | true =>
              simp only [if_true]
              rw [List.append_assoc, List.take_append_drop]; exact ec
            | false => simpa using ec
          obtain ⟨pre1, eh2⟩ : ∃ pre1, hs = pre1 ++ hs1 := by
            rw [e1]
            cases (o.m.step o.left).2.1 with
            | true =>
              refine ⟨pre ++ hs'.take 1, ?_⟩
              simp only [if_true]
              rw [List.append_assoc, List.take_append_drop]; exact eh
            | false => exact ⟨pre, by simpa using eh⟩
          have l1 : ts1.length = ts.length + (nxt o).punched.length := by
            rw [cards_len F2.ht, List.length_append, ← cards_len F.ht]
          have lo := step_out1 o.m o.left
          have ln : (nxt o).punched.length = o.punched.length + (o.m.step o.left).2.2.length := by
            show (o.punched ++ (o.m.step o.left).2.2).length = _
            rw [List.length_append]
          have l64 : ts1.length ≤ 64 := by
            by_cases c : 64 ≤ ts'.length
            · have := h64 c
              rw [this] at ln
              simp at ln
              omega
            · omega
          have ht2 : Grown H ts ts1 := ht'.trans (p1.back fun c q => f'.free F' R' q)
          have nil_iff : (o.m.step o.left).2.2 ≠ [] ↔ (o.m.step o.left).2.2.length = 1 := by
            cases q : (o.m.step o.left).2.2 with
            | nil => simp
            | cons z w => rw [q] at lo; simp at lo ⊢; omega
          have goes : ¬ ((o.m.step o.left).2.2 ≠ [] ∧ pause ≠ 0 ∧ pause ≤ (nxt o).punched.length) → (pause = 0 ∨ (nxt o).punched.length < pause) → Loop A H r x st hb dr hp tr stops orders until_ pause ts.length hs ts cs tc (Drum.deskRun stops until_ pause (64 - ts.length) orders true ⟨m, 0, [], cs, [], 0⟩) (b + 1) (upd H1 r (.ins A.cRun dxr1 (rf x st (b + 1) hb ts.length))) := by
            intro nc hpz
            rw [if_neg nc] at eo2
            exact ⟨nxt o, hs1, ts1, pre1, R2, F2, by show o.begun + 1 = b + 1; omega, ec2, eh2, eo2.symm, hpz, ht2, l64, f2⟩
          by_cases cp : 0 < pause
          · rw [if_pos (decide_eq_true (by omega))]
            refine ⟨r, x, st, hb, stops, b + 1, ts.length, hs, cs, _, dr, hp, tr, hs1, ts1, _, _, rfl, R2, F2, rfl, ?_⟩
            by_cases ce : (nxt o).punched.length = pause
            · rw [if_pos (decide_eq_true (by rw [V.int.injEq]; omega))]
              have cc : (o.m.step o.left).2.2 ≠ [] ∧ pause ≠ 0 ∧ pause ≤ (nxt o).punched.length := ⟨nil_iff.mpr (by omega), by omega, by omega⟩
              rw [if_pos cc] at eo2
              have := h _ { nxt o with why := 4 } hs1 ts1 pre1 eo2.symm (by show RunAt A _ r x st hb stops (o.begun + 1) _ _ _; rw [eb]; exact R2) F2 ec2 eh2 ht2 l64 f2
              exact this
            · rw [if_neg (by rw [decide_eq_true_iff, V.int.injEq]; omega)]
              exact ⟨⟨_, rfl⟩, blt, goes (fun q => ce (by have := nil_iff.mp q.1; omega)) (.inr (by omega))⟩
          · rw [if_neg (by rw [decide_eq_true_iff]; omega)]
            exact ⟨⟨_, rfl⟩, blt, goes (fun q => q.2.1 (by omega)) (.inl (by omega))⟩
end Dd

namespace Dd
open Drum (Machine)
theorem wi_iff (n : Int) (k : Nat) : Drum.within n k = true ↔ 0 ≤ n ∧ n < (k : Int) := by
  unfold Drum.within
  rw [Bool.and_eq_true, decide_eq_true_iff, decide_eq_true_iff]
theorem wi_f (n : Int) (k : Nat) : Drum.within n k = false ↔ ¬ (0 ≤ n ∧ n < (k : Int)) := by
  rw [← wi_iff]; simp
def addRun (b rd : Nat) (p : List (List Int)) (r : Drum.Run) : Drum.Run := ⟨r.m, b + r.begun, rd + r.read, p ++ r.punched⟩
theorem addRun_0 (r : Drum.Run) : addRun 0 0 [] r = r := by unfold addRun; simp
theorem run_stops {k : Nat} {m : Machine} {cs : List (List Int)} (h : k = 0 ∨ m.state ≠ 0) : Drum.run k Drum.WRAP m cs = ⟨m, 0, 0, []⟩ := by
  cases k with
  | zero => rfl
  | succ k =>
    rw [Drum.run, if_pos (.inl (by rcases h with h | h; · cases h
                                   · exact h))]
theorem run_goes {n b rd : Nat} {p : List (List Int)} {m : Machine} {cs : List (List Int)} (hs : m.state = 0) (ht : m.tick < Drum.WRAP) (hb : b < n) :
    addRun b rd p (Drum.run (n - b) Drum.WRAP m cs) = addRun (b + 1) (rd + if (m.step cs).2.1 = true then 1 else 0) (p ++ (m.step cs).2.2) (Drum.run (n - (b + 1)) Drum.WRAP (m.step cs).1 (if (m.step cs).2.1 = true then cs.drop 1 else cs)) := by
  obtain ⟨k, hk⟩ : ∃ k, n - b = k + 1 := ⟨n - b - 1, by omega⟩
  have hk' : n - (b + 1) = k := by omega
  rw [hk, hk', Drum.run, if_neg (by omega)]
  unfold addRun
  simp only [Drum.Run.mk.injEq, List.append_assoc, and_true, true_and]
  omega
theorem step_read {m : Machine} {cs : List (List Int)} (h : (m.step cs).2.1 = true) : cs ≠ [] := by
  intro e
  subst e
  unfold Drum.Machine.step at h
  simp only at h
  split at h
  · cases h
  · rename_i hf
    split at h
    · cases h
    · have h70 : (Drum.orderOf (m.at_ m.next)).code = 70 := by simpa using h
      unfold Drum.faultOf at hf
      simp only at hf
      split at hf
      · cases hf
      · split at hf
        · cases hf
        · split at hf
          · cases hf
          · split at hf
            · cases hf
            · rw [if_pos ⟨h70, rfl⟩] at hf; cases hf
def doRow (d : Drum.Desk) (z a v : Int) (s : List Int) : Option Drum.Desk :=
  if z = 1 then (if (Drum.within a Drum.WORDS && Drum.isWord v) = true then d.do_ (.put a.toNat v) else none)
  else if z = 2 then (if (Drum.within a Drum.WORDS && Drum.within v 2) = true then d.do_ (.halt_ a.toNat (v == 1)) else none)
  else if (Drum.within a (Drum.ORDERS + 1) && s.all Drum.isWord) = true then d.do_ (.ran a.toNat (Drum.eights (8 * v.toNat + 1) s)) else none
def cnt (z v : Int) : Nat := if z = 3 then 8 * v.toNat else 0
theorem plays_end {f : Nat} {p k : Nat} {d : Drum.Desk} : Drum.plays f [] p k d = .ok (d, (k, p)) := by
  cases f <;> rfl
theorem plays_bad {f : Nat} {z : Int} {r : List Int} {p k : Nat} {d : Drum.Desk} (h1 : z ≠ 1) (h2 : z ≠ 2) (h3 : z ≠ 3) : Drum.plays (f + 1) (z :: r) p k d = .error (3, p) := by
  have : Drum.readEntry (z :: r) = .none := by simp only [Drum.readEntry]; rw [if_pos (by omega)]
  rw [Drum.plays, this]
theorem plays_badv {f : Nat} {a v : Int} {s : List Int} {p k : Nat} {d : Drum.Desk} (h : ¬ (0 ≤ v ∧ v ≤ 10000)) : Drum.plays (f + 1) (3 :: a :: v :: s) p k d = .error (3, p) := by
  have : Drum.readEntry (3 :: a :: v :: s) = .none := by
    simp only [Drum.readEntry]
    rw [if_neg (by omega)]
    rw [if_neg (by decide), if_neg (by decide), if_pos ((wi_f _ _).mpr (by unfold Drum.ORDERS; omega))]
  rw [Drum.plays, this]
theorem plays_torn2 {f : Nat} {z : Int} {r : List Int} {p k : Nat} {d : Drum.Desk} (h : z = 1 ∨ z = 2 ∨ z = 3) (hr : r.length < 2) : Drum.plays (f + 1) (z :: r) p k d = .ok (d, (k, p)) := by
  have : Drum.readEntry (z :: r) = .torn := by
    simp only [Drum.readEntry]
    rw [if_neg (by omega)]
    match r, hr with
    | [], _ => rfl
    | [_], _ => rfl
  rw [Drum.plays, this]
theorem plays_torn3 {f : Nat} {a v : Int} {s : List Int} {p k : Nat} {d : Drum.Desk} (h : 0 ≤ v ∧ v ≤ 10000) (hs : s.length < 8 * v.toNat) : Drum.plays (f + 1) (3 :: a :: v :: s) p k d = .ok (d, (k, p)) := by
  have : Drum.readEntry (3 :: a :: v :: s) = .torn := by
    simp only [Drum.readEntry]
    rw [if_neg (by omega)]
    rw [if_neg (by decide), if_neg (by decide), if_neg (by rw [wi_f]; unfold Drum.ORDERS; omega), if_pos hs]
  rw [Drum.plays, this]
theorem plays_do {f : Nat} {z a v : Int} {s : List Int} {p k : Nat} {d : Drum.Desk} (hz : z = 1 ∨ z = 2 ∨ z = 3) (hv : z = 3 → 0 ≤ v ∧ v ≤ 10000) (hs : cnt z v ≤ s.length) :
    Drum.plays (f + 1) (z :: a :: v :: s) p k d = match doRow d z a v (s.take (cnt z v)) with
      | none => .error (3, p)
      | some x => Drum.plays f (s.drop (cnt z v)) (p + 3 + cnt z v) (k + 1) x := by
  unfold doRow
  rcases hz with rfl | rfl | rfl
  · have c0 : cnt 1 v = 0 := by unfold cnt; rw [if_neg (by decide)]
    rw [if_pos rfl, c0, List.drop_zero, Nat.add_zero]
    cases c : (Drum.within a Drum.WORDS && Drum.isWord v) with
    | true =>
      have : Drum.readEntry (1 :: a :: v :: s) = .entry (.put a.toNat v) 3 := by
        simp only [Drum.readEntry]
        rw [if_neg (by decide)]
        rw [if_pos trivial, c, if_pos rfl]
      rw [Drum.plays, this, if_pos rfl]
      simp only
      cases d.do_ (.put a.toNat v) with
      | none => rfl
      | some x => rfl
    | false =>
      have : Drum.readEntry (1 :: a :: v :: s) = .none := by
        simp only [Drum.readEntry]
        rw [if_neg (by decide)]
        rw [if_pos trivial, c, if_neg (by decide)]
      rw [Drum.plays, this, if_neg (by decide)]
  · have c0 : cnt 2 v = 0 := by unfold cnt; rw [if_neg (by decide)]
    rw [if_neg (by decide), if_pos rfl, c0, List.drop_zero, Nat.add_zero]
    cases c : (Drum.within a Drum.WORDS && Drum.within v 2) with
    | true =>
      have : Drum.readEntry (2 :: a :: v :: s) = .entry (.halt_ a.toNat (v == 1)) 3 := by
        simp only [Drum.readEntry]
        rw [if_neg (by decide)]
        rw [if_neg (by decide), if_pos trivial, c, if_pos rfl]
      rw [Drum.plays, this, if_pos rfl]
      simp only
      cases d.do_ (.halt_ a.toNat (v == 1)) with
      | none => rfl
      | some x => rfl
    | false =>
      have : Drum.readEntry (2 :: a :: v :: s) = .none := by
        simp only [Drum.readEntry]
        rw [if_neg (by decide)]
        rw [if_neg (by decide), if_pos trivial, c, if_neg (by decide)]
      rw [Drum.plays, this, if_neg (by decide)]
  · have c0 : cnt 3 v = 8 * v.toNat := by unfold cnt; rw [if_pos rfl]
    rw [if_neg (by decide), if_neg (by decide), c0]
    obtain ⟨v1, v2⟩ := hv rfl
    have hs' : ¬ s.length < 8 * v.toNat := by
      unfold cnt at hs
      rw [if_pos rfl] at hs
      omega
    cases c : (Drum.within a (Drum.ORDERS + 1) && (s.take (8 * v.toNat)).all Drum.isWord) with
    | true =>
      have : Drum.readEntry (3 :: a :: v :: s) = .entry (.ran a.toNat (Drum.eights (8 * v.toNat + 1) (s.take (8 * v.toNat)))) (3 + 8 * v.toNat) := by
        simp only [Drum.readEntry]
        rw [if_neg (by decide)]
        rw [if_neg (by decide), if_neg (by decide), if_neg (by rw [wi_f]; unfold Drum.ORDERS; omega), if_neg hs', c, if_pos rfl]
      rw [Drum.plays, this, if_pos rfl]
      simp only
      cases d.do_ (.ran a.toNat (Drum.eights (8 * v.toNat + 1) (s.take (8 * v.toNat)))) with
      | none => rfl
      | some x =>
        simp only
        congr 1
        · show (3 :: a :: v :: s).drop (3 + 8 * v.toNat) = _
          rw [Nat.add_comm, List.drop_succ_cons, List.drop_succ_cons, List.drop_succ_cons]
        · omega
    | false =>
      have : Drum.readEntry (3 :: a :: v :: s) = .none := by
        simp only [Drum.readEntry]
        rw [if_neg (by decide)]
        rw [if_neg (by decide), if_neg (by decide), if_neg (by rw [wi_f]; unfold Drum.ORDERS; omega), if_neg hs', c, if_neg (by decide)]
      rw [Drum.plays, this, if_neg (by decide)]
theorem on_put_row {d : Drum.Desk} {a v : Int} (hl : DrumDeskSeed.long d 3 = false) : (doRow d 1 a v [] = none ∧ (DrumDeskSeed.on d (.put a v)).2 = [-1]) ∨ (∃ x, doRow d 1 a v [] = some x ∧ DrumDeskSeed.on d (.put a v) = (x, [0])) := by
  unfold doRow DrumDeskSeed.on
  rw [if_pos rfl]
  simp only
  cases c : (Drum.within a Drum.WORDS && Drum.isWord v) with
  | false => exact .inl ⟨rfl, rfl⟩
  | true =>
    refine .inr ?_
    rw [if_pos rfl, if_neg (by decide), hl, if_neg (by decide)]
    rw [Bool.and_eq_true, wi_iff] at c
    have : d.do_ (.put a.toNat v) = some { d with m := d.m.put a.toNat v, log := d.log ++ [.put a.toNat v] } := by
      show (if _ then none else some _) = _
      rw [if_neg (by rw [c.2]; unfold Drum.WORDS at *; simp; omega)]
    rw [this]
    exact ⟨_, rfl, rfl⟩
theorem on_halt_row {d : Drum.Desk} {a v : Int} (hl : DrumDeskSeed.long d 3 = false) : (doRow d 2 a v [] = none ∧ ((DrumDeskSeed.on d (.halt_ a v)).2 = [-1] ∨ (DrumDeskSeed.on d (.halt_ a v)).2 = [0, 0] ∨ (DrumDeskSeed.on d (.halt_ a v)).2 = [-9])) ∨ (∃ x, doRow d 2 a v [] = some x ∧ DrumDeskSeed.on d (.halt_ a v) = (x, [0, 1])) := by
  unfold doRow DrumDeskSeed.on
  rw [if_neg (by decide), if_pos rfl]
  simp only
  cases c : (Drum.within a Drum.WORDS && Drum.within v 2) with
  | false => exact .inl ⟨rfl, .inl (by rw [if_pos rfl]; rfl)⟩
  | true =>
    rw [if_pos rfl, if_neg (by decide), hl]
    rw [Bool.and_eq_true, wi_iff, wi_iff] at c
    by_cases c2 : d.stops.contains a.toNat = (v == 1)
    · rw [if_pos c2]
      refine .inl ⟨?_, .inr (.inl rfl)⟩
      show (if _ then none else some _) = _
      rw [if_pos (.inr (.inl c2))]
    · rw [if_neg c2]
      by_cases c3 : v = 1 ∧ Drum.STOPS ≤ d.stops.length
      · rw [if_pos c3]
        refine .inl ⟨?_, .inr (.inr rfl)⟩
        show (if _ then none else some _) = _
        rw [if_pos (.inr (.inr ⟨by rw [c3.1]; rfl, c3.2⟩))]
      · rw [if_neg c3, if_neg (by decide)]
        refine .inr ?_
        have : d.do_ (.halt_ a.toNat (v == 1)) = some { d with stops := if (v == 1) = true then d.stops ++ [a.toNat] else d.stops.filter (fun (x : Nat) => x != a.toNat), log := d.log ++ [.halt_ a.toNat (v == 1)] } := by
          show (if _ then none else some _) = _
          rw [if_neg]
          intro q
          rcases q with q | q | q
          · unfold Drum.WORDS at *; omega
          · exact c2 q
          · exact c3 ⟨by simpa using q.1, q.2⟩
        rw [this]
        exact ⟨_, rfl, rfl⟩
section
variable {d : Drum.Desk}
theorem on_put_bad {a v : Int} (h : (Drum.within a Drum.WORDS && Drum.isWord v) = false) : DrumDeskSeed.on d (.put a v) = (d, [-1]) := by
  unfold DrumDeskSeed.on; simp only; rw [h, if_pos rfl]; rfl
theorem on_put_long {a v : Int} (h : (Drum.within a Drum.WORDS && Drum.isWord v) = true) (hl : DrumDeskSeed.long d 3 = true) : DrumDeskSeed.on d (.put a v) = (d, [-7]) := by
  unfold DrumDeskSeed.on; simp only; rw [h, if_neg (by decide), hl, if_pos rfl]; rfl
theorem on_put_ok {a v : Int} (h : (Drum.within a Drum.WORDS && Drum.isWord v) = true) (hl : DrumDeskSeed.long d 3 = false) : DrumDeskSeed.on d (.put a v) = ({ d with m := d.m.put a.toNat v, log := d.log ++ [.put a.toNat v] }, [0]) := by
  have h' := h
  rw [Bool.and_eq_true, wi_iff] at h'
  have : d.do_ (.put a.toNat v) = some { d with m := d.m.put a.toNat v, log := d.log ++ [.put a.toNat v] } := by
    show (if _ then none else some _) = _
    rw [if_neg (by rw [h'.2]; unfold Drum.WORDS at *; simp; omega)]
  unfold DrumDeskSeed.on; simp only; rw [h, if_neg (by decide), hl, if_neg (by decide), this]; rfl
theorem on_halt_bad {a v : Int} (h : (Drum.within a Drum.WORDS && Drum.within v 2) = false) : DrumDeskSeed.on d (.halt_ a v) = (d, [-1]) := by
  unfold DrumDeskSeed.on; simp only; rw [h, if_pos rfl]; rfl
theorem on_halt_same {a v : Int} (h : (Drum.within a Drum.WORDS && Drum.within v 2) = true) (h2 : d.stops.contains a.toNat = (v == 1)) : DrumDeskSeed.on d (.halt_ a v) = (d, [0, 0]) := by
  unfold DrumDeskSeed.on; simp only; rw [h, if_neg (by decide), if_pos h2]; rfl
theorem on_halt_many {a v : Int} (h : (Drum.within a Drum.WORDS && Drum.within v 2) = true) (h2 : ¬ d.stops.contains a.toNat = (v == 1)) (h3 : v = 1 ∧ Drum.STOPS ≤ d.stops.length) : DrumDeskSeed.on d (.halt_ a v) = (d, [-9]) := by
  unfold DrumDeskSeed.on; simp only; rw [h, if_neg (by decide), if_neg h2, if_pos h3]; rfl
theorem on_halt_long {a v : Int} (h : (Drum.within a Drum.WORDS && Drum.within v 2) = true) (h2 : ¬ d.stops.contains a.toNat = (v == 1)) (h3 : ¬ (v = 1 ∧ Drum.STOPS ≤ d.stops.length)) (hl : DrumDeskSeed.long d 3 = true) : DrumDeskSeed.on d (.halt_ a v) = (d, [-7]) := by
  unfold DrumDeskSeed.on; simp only; rw [h, if_neg (by decide), if_neg h2, if_neg h3, hl, if_pos rfl]; rfl
theorem on_halt_ok {a v : Int} (h : (Drum.within a Drum.WORDS && Drum.within v 2) = true) (h2 : ¬ d.stops.contains a.toNat = (v == 1)) (h3 : ¬ (v = 1 ∧ Drum.STOPS ≤ d.stops.length)) (hl : DrumDeskSeed.long d 3 = false) :
    DrumDeskSeed.on d (.halt_ a v) = ({ d with stops := if (v == 1) = true then d.stops ++ [a.toNat] else d.stops.filter (fun (x : Nat) => x != a.toNat), log := d.log ++ [.halt_ a.toNat (v == 1)] }, [0, 1]) := by
  have h' := h
  rw [Bool.and_eq_true, wi_iff, wi_iff] at h'
  have : d.do_ (.halt_ a.toNat (v == 1)) = some { d with stops := if (v == 1) = true then d.stops ++ [a.toNat] else d.stops.filter (fun (x : Nat) => x != a.toNat), log := d.log ++ [.halt_ a.toNat (v == 1)] } := by
    show (if _ then none else some _) = _
    rw [if_neg]
    intro q
    rcases q with q | q | q
    · unfold Drum.WORDS at *; omega
    · exact h2 q
    · exact h3 ⟨by simpa using q.1, q.2⟩
  unfold DrumDeskSeed.on; simp only; rw [h, if_neg (by decide), if_neg h2, if_neg h3, hl, if_neg (by decide), this]; rfl
theorem on_hand_bad {l : List Int} (h : DrumDeskSeed.handed l = false) : DrumDeskSeed.on d (.hand l) = (d, [-1]) := by
  unfold DrumDeskSeed.on; simp only; rw [h, if_pos rfl]; rfl
theorem on_hand_many {l : List Int} (h : DrumDeskSeed.handed l = true) (h2 : Drum.HOLDS < d.hopper.length + l.length / 8) : DrumDeskSeed.on d (.hand l) = (d, [-9]) := by
  unfold DrumDeskSeed.on; simp only; rw [h, if_neg (by decide), if_pos h2]; rfl
theorem on_hand_ok {l : List Int} (h : DrumDeskSeed.handed l = true) (h2 : ¬ Drum.HOLDS < d.hopper.length + l.length / 8) : DrumDeskSeed.on d (.hand l) = ({ d with hopper := d.hopper ++ Drum.eights (l.length + 1) l }, [0, ((d.hopper ++ Drum.eights (l.length + 1) l).length : Int)]) := by
  unfold DrumDeskSeed.on; simp only; rw [h, if_neg (by decide), if_neg h2]; rfl
def runOk (k u p : Int) : Bool := Drum.within k (Drum.ORDERS + 1) && (Drum.within u Drum.WRAP && Drum.within p (Drum.HOLDS + 1))
theorem on_run_bad {k u p : Int} (h : runOk k u p = false) : DrumDeskSeed.on d (.run k u p) = (d, [-1]) := by
  unfold runOk at h
  unfold DrumDeskSeed.on; simp only; rw [h, if_pos rfl]; rfl
theorem on_run_long {k u p : Int} (h : runOk k u p = true) (hl : DrumDeskSeed.long d (3 + 8 * d.hopper.length) = true) : DrumDeskSeed.on d (.run k u p) = (d, [-7]) := by
  unfold runOk at h
  unfold DrumDeskSeed.on; simp only; rw [h, if_neg (by decide), hl, if_pos rfl]; rfl
theorem on_run_ok {k u p : Int} (h : runOk k u p = true) (hl : DrumDeskSeed.long d (3 + 8 * d.hopper.length) = false) : DrumDeskSeed.on d (.run k u p) = ((d.run k.toNat u.toNat p.toNat).1, [0, ((d.run k.toNat u.toNat p.toNat).2.why : Int), ((d.run k.toNat u.toNat p.toNat).2.begun : Int), ((d.run k.toNat u.toNat p.toNat).2.read.length : Int), ((d.run k.toNat u.toNat p.toNat).2.punched.length : Int)]) := by
  unfold runOk at h
  unfold DrumDeskSeed.on; simp only; rw [h, if_neg (by decide), hl, if_neg (by decide)]; rfl
theorem on_peek_bad {a : Int} (h : Drum.within a Drum.WORDS = false) : DrumDeskSeed.on d (.peek a) = (d, [-1]) := by
  unfold DrumDeskSeed.on; simp only; rw [h, if_neg (by decide)]; rfl
theorem on_peek_ok {a : Int} (h : Drum.within a Drum.WORDS = true) : DrumDeskSeed.on d (.peek a) = (d, [0, d.m.at_ a.toNat]) := by
  unfold DrumDeskSeed.on; simp only; rw [h, if_pos rfl]; rfl
end
theorem do_ran {d : Drum.Desk} {n : Nat} {cs : List (List Int)} (h1 : 1 ≤ n) (h2 : n ≤ 10000) : d.do_ (.ran n cs) = if (Drum.run n Drum.WRAP d.m cs).begun ≠ n ∨ (Drum.run n Drum.WRAP d.m cs).read ≠ cs.length then none else some { d with m := (Drum.run n Drum.WRAP d.m cs).m, log := d.log ++ [.ran n cs] } := by
  show (if n = 0 ∨ Drum.ORDERS < n then none else _) = _
  rw [if_neg (by unfold Drum.ORDERS; omega)]
theorem do_ran_bad {d : Drum.Desk} {n : Nat} {cs : List (List Int)} (h : ¬ (1 ≤ n ∧ n ≤ 10000)) : d.do_ (.ran n cs) = none := by
  show (if n = 0 ∨ Drum.ORDERS < n then none else _) = _
  rw [if_pos (by unfold Drum.ORDERS; omega)]
theorem doRow_keeps {d x : Drum.Desk} {z a v : Int} {s : List Int} (h : doRow d z a v s = some x) : x.hopper = d.hopper ∧ x.tray = d.tray := by
  have key : ∀ e, d.do_ e = some x → x.hopper = d.hopper ∧ x.tray = d.tray := by
    intro e he
    cases e with
    | put b w =>
      replace he : (if _ then none else some _) = some x := he
      split at he
      · cases he
      · cases he; exact ⟨rfl, rfl⟩
    | halt_ b o =>
      replace he : (if _ then none else some _) = some x := he
      split at he
      · cases he
      · cases he; exact ⟨rfl, rfl⟩
    | ran n cs =>
      by_cases c : 1 ≤ n ∧ n ≤ 10000
      · rw [do_ran c.1 c.2] at he
        split at he
        · cases he
        · cases he; exact ⟨rfl, rfl⟩
      · rw [do_ran_bad c] at he; cases he
  unfold doRow at h
  split at h
  · split at h
    · exact key _ h
    · cases h
  · split at h
    · split at h
      · exact key _ h
      · cases h
    · split at h
      · exact key _ h
      · cases h
end Dd

namespace Dd
theorem calls_nil {sh : Int → Option (Nat × Nat)} {f : Nat} : PyFlat.calls sh f [] = some [] := by cases f <;> rfl
theorem calls_0 {sh : Int → Option (Nat × Nat)} {f n : Nat} {p : Int} {r : List Int} {cs : List (List (List Int))} (hs : sh p = some (n, 0)) (h : PyFlat.calls sh f (p :: r) = some cs) :
    n ≤ r.length ∧ ∃ f' cs', PyFlat.calls sh f' (r.drop n) = some cs' ∧ cs = [p :: r.take n] :: cs' := by
  cases f with
  | zero => cases h
  | succ f =>
    simp only [PyFlat.calls, PyFlat.call, hs] at h
    by_cases c : r.length < n
    · rw [if_pos c] at h; cases h
    · rw [if_neg c] at h
      simp only [PyFlat.rows] at h
      cases e : PyFlat.calls sh f (r.drop n) with
      | none => rw [e] at h; cases h
      | some cs' =>
        rw [e] at h
        cases h
        exact ⟨by omega, f, cs', e, rfl⟩
theorem calls_1 {sh : Int → Option (Nat × Nat)} {f n : Nat} {p : Int} {r : List Int} {cs : List (List (List Int))} (hs : sh p = some (n, 1)) (h : PyFlat.calls sh f (p :: r) = some cs) :
    ∃ (k : Nat), r[n]? = some (k : Int) ∧ n + 1 + k ≤ r.length ∧ ∃ f' cs', PyFlat.calls sh f' (r.drop (n + 1 + k)) = some cs' ∧ cs = [p :: r.take n, (r.drop (n + 1)).take k] :: cs' := by
  cases f with
  | zero => cases h
  | succ f =>
    simp only [PyFlat.calls, PyFlat.call, hs] at h
    by_cases c : r.length < n
    · rw [if_pos c] at h; cases h
    · rw [if_neg c] at h
      simp only [PyFlat.rows] at h
      cases ed : r.drop n with
      | nil => rw [ed] at h; cases h
      | cons z t =>
        rw [ed] at h
        simp only [PyFlat.row] at h
        by_cases cz : 0 ≤ z ∧ z.toNat ≤ t.length
        · rw [if_pos cz] at h
          simp only at h
          have hn : r[n]? = some z := by
            have := congrArg List.head? ed
            rw [List.head?_drop] at this
            exact this
          have ht : r.drop (n + 1) = t := by
            have := congrArg List.tail ed
            rw [List.tail_drop] at this
            exact this
          have hl : t.length = r.length - (n + 1) := by rw [← ht, List.length_drop]
          have hlt : n < r.length := by
            rcases Nat.lt_or_ge n r.length with q | q
            · exact q
            · rw [List.getElem?_eq_none q] at hn; cases hn
          cases e : PyFlat.calls sh f (t.drop z.toNat) with
          | none => rw [e] at h; cases h
          | some cs' =>
            rw [e] at h
            cases h
            refine ⟨z.toNat, by rw [hn, Int.toNat_of_nonneg cz.1], by omega, f, cs', ?_, ?_⟩
            · rw [← List.drop_drop, ht]; exact e
            · rw [ht]
        · rw [if_neg cz] at h; cases h
theorem calls_bad {sh : Int → Option (Nat × Nat)} {f : Nat} {p : Int} {r : List Int} {cs : List (List (List Int))} (hs : sh p = none) (h : PyFlat.calls sh f (p :: r) = some cs) : False := by
  cases f with
  | zero => cases h
  | succ f =>
    simp only [PyFlat.calls, PyFlat.call, hs] at h
    cases h
inductive Plain : Int → List Int → DrumDeskSeed.Call → Prop
  | put (a v : Int) : Plain 2 [a, v] (.put a v)
  | halt_ (a v : Int) : Plain 3 [a, v] (.halt_ a v)
  | run (k u p : Int) : Plain 5 [k, u, p] (.run k u p)
  | told : Plain 6 [] .told
  | peek (a : Int) : Plain 7 [a] (.peek a)
  | tray : Plain 8 [] .tray
  | journal : Plain 9 [] .journal
inductive CallIs : Int → List Int → List Int → DrumDeskSeed.Call → Prop
  | load (st ov n t a d : Int) (l : List Int) : CallIs 1 [st, ov, n, t, a, d] l (.load st ov n t a d l)
  | hand (l : List Int) : CallIs 4 [] l (.hand l)
  | play (l : List Int) : CallIs 10 [] l (.play l)
  | plain {k : Int} {xs : List Int} {c : DrumDeskSeed.Call} : Plain k xs c → CallIs k xs [] c
theorem shape_cases {k : Int} {n w : Nat} (h : PyWqdrmf.shape k = some (n, w)) : (k = 1 ∧ n = 6 ∧ w = 1) ∨ (k = 2 ∧ n = 2 ∧ w = 0) ∨ (k = 3 ∧ n = 2 ∧ w = 0) ∨ (k = 4 ∧ n = 0 ∧ w = 1) ∨ (k = 5 ∧ n = 3 ∧ w = 0) ∨ (k = 6 ∧ n = 0 ∧ w = 0) ∨ (k = 7 ∧ n = 1 ∧ w = 0) ∨ (k = 8 ∧ n = 0 ∧ w = 0) ∨ (k = 9 ∧ n = 0 ∧ w = 0) ∨ (k = 10 ∧ n = 0 ∧ w = 1) := by
  unfold PyWqdrmf.shape at h
  repeat' split at h
  all_goals first
    | (cases h; subst_vars; decide)
    | cases h
def due (s : DrumDeskSeed.State) (cs : List (List (List Int))) : List Int := PyFlat.told (PyFlat.played DeskNeutral.step s (cs.map PyWqdrmf.whole))
theorem due_cons {s : DrumDeskSeed.State} {q : List (List Int)} {cs : List (List (List Int))} {c : DrumDeskSeed.Call} (h : DeskNeutral.callOf (PyWqdrmf.whole q) = some c) : due s (q :: cs) = (((DrumDeskSeed.step s c).2.length : Int) :: (DrumDeskSeed.step s c).2) ++ due (DrumDeskSeed.step s c).1 cs := by
  unfold due
  rw [List.map_cons]
  show PyFlat.told ((DeskNeutral.step s (PyWqdrmf.whole q)).2 :: PyFlat.played DeskNeutral.step (DeskNeutral.step s (PyWqdrmf.whole q)).1 (cs.map PyWqdrmf.whole)) = _
  have e : DeskNeutral.step s (PyWqdrmf.whole q) = DrumDeskSeed.step s c := by unfold DeskNeutral.step; rw [h]
  rw [e]
  rfl
theorem take1 {r : List Int} (h : 1 ≤ r.length) : ∃ a, r.take 1 = [a] := by
  match r, h with
  | a :: _, _ => exact ⟨a, rfl⟩
theorem take2 {r : List Int} (h : 2 ≤ r.length) : ∃ a b, r.take 2 = [a, b] := by
  match r, h with
  | a :: b :: _, _ => exact ⟨a, b, rfl⟩
  | [_], h => simp at h
theorem take3 {r : List Int} (h : 3 ≤ r.length) : ∃ a b c, r.take 3 = [a, b, c] := by
  match r, h with
  | a :: b :: c :: _, _ => exact ⟨a, b, c, rfl⟩
  | [_], h => simp at h
  | [_, _], h => simp at h
theorem take6 {r : List Int} (h : 6 ≤ r.length) : ∃ a b c d e f, r.take 6 = [a, b, c, d, e, f] := by
  match r, h with
  | a :: b :: c :: d :: e :: f :: _, _ => exact ⟨a, b, c, d, e, f, rfl⟩
  | [_], h => simp at h
  | [_, _], h => simp at h
  | [_, _, _], h => simp at h
  | [_, _, _, _], h => simp at h
  | [_, _, _, _, _], h => simp at h
theorem one_call {f : Nat} {k : Int} {r : List Int} {cs : List (List (List Int))} (h : PyFlat.calls PyWqdrmf.shape f (k :: r) = some cs) :
    ∃ (n w : Nat), PyWqdrmf.shape k = some (n, w) ∧ n ≤ r.length ∧
      ((w = 0 ∧ ∃ (f' : Nat) (q : List (List Int)) (cs' : List (List (List Int))) (c : DrumDeskSeed.Call), PyFlat.calls PyWqdrmf.shape f' (r.drop n) = some cs' ∧ cs = q :: cs' ∧ DeskNeutral.callOf (PyWqdrmf.whole q) = some c ∧ CallIs k (r.take n) [] c) ∨
       (w = 1 ∧ ∃ (z f' : Nat) (q : List (List Int)) (cs' : List (List (List Int))) (c : DrumDeskSeed.Call), r[n]? = some (z : Int) ∧ n + 1 + z ≤ r.length ∧ PyFlat.calls PyWqdrmf.shape f' (r.drop (n + 1 + z)) = some cs' ∧ cs = q :: cs' ∧ DeskNeutral.callOf (PyWqdrmf.whole q) = some c ∧ CallIs k (r.take n) ((r.drop (n + 1)).take z) c)) := by
  cases hs : PyWqdrmf.shape k with
  | none => exact (calls_bad hs h).elim
  | some nw =>
    obtain ⟨n, w⟩ := nw
    rcases shape_cases hs with ⟨rfl, rfl, rfl⟩ | ⟨rfl, rfl, rfl⟩ | ⟨rfl, rfl, rfl⟩ | ⟨rfl, rfl, rfl⟩ | ⟨rfl, rfl, rfl⟩ | ⟨rfl, rfl, rfl⟩ | ⟨rfl, rfl, rfl⟩ | ⟨rfl, rfl, rfl⟩ | ⟨rfl, rfl, rfl⟩ | ⟨rfl, rfl, rfl⟩
    · obtain ⟨z, h1, h2, f', cs', h3, h4⟩ := calls_1 hs h
      obtain ⟨a, b, c, d, e, g, q⟩ := take6 (r := r) (by omega)
      refine ⟨6, 1, rfl, by omega, .inr ⟨rfl, z, f', _, cs', .load a b c d e g ((r.drop 7).take z), h1, h2, h3, h4, ?_, ?_⟩⟩
      · rw [q]; rfl
      · rw [q]; exact .load a b c d e g _
    · obtain ⟨h1, f', cs', h3, h4⟩ := calls_0 hs h
      obtain ⟨a, b, q⟩ := take2 h1
      refine ⟨2, 0, rfl, h1, .inl ⟨rfl, f', _, cs', .put a b, h3, h4, ?_, ?_⟩⟩
      · rw [q]; rfl
      · rw [q]; exact .plain (.put a b)
    · obtain ⟨h1, f', cs', h3, h4⟩ := calls_0 hs h
      obtain ⟨a, b, q⟩ := take2 h1
      refine ⟨2, 0, rfl, h1, .inl ⟨rfl, f', _, cs', .halt_ a b, h3, h4, ?_, ?_⟩⟩
      · rw [q]; rfl
      · rw [q]; exact .plain (.halt_ a b)
    · obtain ⟨z, h1, h2, f', cs', h3, h4⟩ := calls_1 hs h
      exact ⟨0, 1, rfl, by omega, .inr ⟨rfl, z, f', _, cs', _, h1, h2, h3, h4, rfl, .hand _⟩⟩
    · obtain ⟨h1, f', cs', h3, h4⟩ := calls_0 hs h
      obtain ⟨a, b, c, q⟩ := take3 h1
      refine ⟨3, 0, rfl, h1, .inl ⟨rfl, f', _, cs', .run a b c, h3, h4, ?_, ?_⟩⟩
      · rw [q]; rfl
      · rw [q]; exact .plain (.run a b c)
    · obtain ⟨h1, f', cs', h3, h4⟩ := calls_0 hs h
      exact ⟨0, 0, rfl, h1, .inl ⟨rfl, f', _, cs', .told, h3, h4, rfl, .plain .told⟩⟩
    · obtain ⟨h1, f', cs', h3, h4⟩ := calls_0 hs h
      obtain ⟨a, q⟩ := take1 h1
      refine ⟨1, 0, rfl, h1, .inl ⟨rfl, f', _, cs', .peek a, h3, h4, ?_, ?_⟩⟩
      · rw [q]; rfl
      · rw [q]; exact .plain (.peek a)
    · obtain ⟨h1, f', cs', h3, h4⟩ := calls_0 hs h
      exact ⟨0, 0, rfl, h1, .inl ⟨rfl, f', _, cs', .tray, h3, h4, rfl, .plain .tray⟩⟩
    · obtain ⟨h1, f', cs', h3, h4⟩ := calls_0 hs h
      exact ⟨0, 0, rfl, h1, .inl ⟨rfl, f', _, cs', .journal, h3, h4, rfl, .plain .journal⟩⟩
    · obtain ⟨z, h1, h2, f', cs', h3, h4⟩ := calls_1 hs h
      exact ⟨0, 1, rfl, by omega, .inr ⟨rfl, z, f', _, cs', _, h1, h2, h3, h4, rfl, .play _⟩⟩
theorem answers_due {ns : List Int} (h : PyWqdrmf.answers_asked ns = true) : ∃ cs, PyFlat.calls PyWqdrmf.shape ns.length ns = some cs ∧ cs.length ≤ 100 ∧ PyWqdrmf.answers ns = due ⟨none⟩ cs := by
  unfold PyWqdrmf.answers_asked PyWqdrmf.calls at h
  unfold PyWqdrmf.answers PyWqdrmf.calls
  cases e : PyFlat.calls PyWqdrmf.shape ns.length ns with
  | none => rw [e] at h; cases h
  | some cs =>
    rw [e] at h
    simp only at h
    refine ⟨cs, rfl, ?_, rfl⟩
    rw [Bool.and_eq_true] at h
    have h2 := h.2
    unfold DeskNeutral.asked at h2
    simp only [Bool.and_eq_true, decide_eq_true_iff, List.length_map] at h2
    exact h2.2.1
end Dd

namespace Dd
open Drum (Machine)
def noteF (u : Int × Nat) : List Int := if u.1 = 0 then [] else [(u.2 : Int), u.1]
def setAll (l : List Int) (ps : List (Nat × Int)) : List Int := ps.foldl (fun (d : List Int) (u : Nat × Int) => d.set u.1 u.2) l
theorem setAll_cons (l : List Int) (q : Nat × Int) (ps : List (Nat × Int)) : setAll l (q :: ps) = setAll (l.set q.1 q.2) ps := rfl
theorem setAll_app : ∀ (ps : List (Nat × Int)) (pre l : List Int), setAll (pre ++ l) (ps.map fun q => (pre.length + q.1, q.2)) = pre ++ setAll l ps
  | [], pre, l => rfl
  | q :: r, pre, l => by
    rw [List.map_cons, setAll_cons, setAll_cons]
    show setAll ((pre ++ l).set (pre.length + q.1) q.2) _ = _
    rw [List.set_append_right _ _ (by omega), Nat.add_sub_cancel_left, setAll_app r]
theorem zeros_notes : ∀ (n k : Nat), ((List.replicate n (0 : Int)).zipIdx k).flatMap noteF = []
  | 0, k => rfl
  | n + 1, k => by
    rw [List.replicate_succ, List.zipIdx_cons, List.flatMap_cons, zeros_notes n (k + 1)]
    rfl
def Rising : Nat → Nat → List (Nat × Int) → Prop
  | _, _, [] => True
  | k, n, q :: r => k ≤ q.1 ∧ q.1 < n ∧ q.2 ≠ 0 ∧ Rising (q.1 + 1) n r
theorem set_zero (n j : Nat) (v : Int) (h : j < n) : (List.replicate n (0 : Int)).set j v = List.replicate j 0 ++ v :: List.replicate (n - j - 1) 0 := by
  induction j generalizing n with
  | zero =>
    obtain ⟨m, rfl⟩ : ∃ m, n = m + 1 := ⟨n - 1, by omega⟩
    rw [List.replicate_succ]; rfl
  | succ j ih =>
    obtain ⟨m, rfl⟩ : ∃ m, n = m + 1 := ⟨n - 1, by omega⟩
    rw [List.replicate_succ, List.set_cons_succ, ih m (by omega), List.replicate_succ, List.cons_append]
    congr 4
    omega
theorem notes_from : ∀ (ps : List (Nat × Int)) (k n : Nat), Rising k (k + n) ps → ((setAll (List.replicate n 0) (ps.map fun q => (q.1 - k, q.2))).zipIdx k).flatMap noteF = ps.flatMap fun q => [(q.1 : Int), q.2]
  | [], k, n, _ => zeros_notes n k
  | q :: r, k, n, h => by
    obtain ⟨h1, h2, h3, h4⟩ := h
    rw [List.map_cons, setAll_cons]
    show ((setAll ((List.replicate n 0).set (q.1 - k) q.2) _).zipIdx k).flatMap noteF = _
    rw [set_zero n (q.1 - k) q.2 (by omega)]
    have e : (r.map fun u => (u.1 - k, u.2)) = ((r.map fun u => (u.1 - (q.1 + 1), u.2)).map fun u => ((List.replicate (q.1 - k) (0 : Int) ++ [q.2]).length + u.1, u.2)) := by
      rw [List.map_map]
      refine List.map_congr_left fun u hu => ?_
      have hk : ∀ (l : List (Nat × Int)) (a : Nat), Rising a (k + n) l → ∀ z ∈ l, a ≤ z.1 := by
        intro l
        induction l with
        | nil => intro a _ z hz; simp at hz
        | cons y l ih =>
          intro a hh z hz
          obtain ⟨g1, g2, g3, g4⟩ := hh
          rcases List.mem_cons.mp hz with rfl | hz
          · exact g1
          · have := ih _ g4 z hz
            omega
      have := hk r _ h4 u hu
      simp only [Function.comp, List.length_append, List.length_replicate, List.length_singleton, Prod.mk.injEq, and_true]
      omega
    rw [e, show List.replicate (q.1 - k) (0 : Int) ++ q.2 :: List.replicate (n - (q.1 - k) - 1) 0 = (List.replicate (q.1 - k) 0 ++ [q.2]) ++ List.replicate (n - (q.1 - k) - 1) 0 by rw [List.append_assoc]; rfl]
    rw [setAll_app, List.zipIdx_append, List.flatMap_append, List.zipIdx_append, List.flatMap_append, zeros_notes, List.nil_append]
    have ih := notes_from r (q.1 + 1) (n - (q.1 - k) - 1) (by have : q.1 + 1 + (n - (q.1 - k) - 1) = k + n := by omega
                                                              rw [this]; exact h4)
    have e2 : k + (List.replicate (q.1 - k) (0 : Int) ++ [q.2]).length = q.1 + 1 := by
      simp only [List.length_append, List.length_replicate, List.length_singleton]; omega
    rw [e2, ih]
    have e3 : k + (List.replicate (q.1 - k) (0 : Int)).length = q.1 := by rw [List.length_replicate]; omega
    rw [e3]
    show (noteF (q.2, q.1) ++ []) ++ _ = _
    unfold noteF
    rw [if_neg h3]
    rfl
theorem noted_rising : ∀ (l : List Int) (z : Int) (ps : List (Nat × Int)), Drum.noted l z = some ps → 0 ≤ z → Rising z.toNat 2000 ps
  | [], z, ps, h, hz => by
    cases (show some [] = some ps from h)
    trivial
  | [_], z, ps, h, hz => by cases (show (none : Option (List (Nat × Int))) = some ps from h)
  | a :: v :: r, z, ps, h, hz => by
    unfold Drum.noted at h
    split at h
    · cases h
    · rename_i hb
      simp only [not_or] at hb
      obtain ⟨qs, hq, rfl⟩ := Option.map_eq_some_iff.mp h
      have ih := noted_rising r (a + 1) qs hq (by omega)
      have hw : (Drum.WORDS : Int) = 2000 := rfl
      refine ⟨by show z.toNat ≤ a.toNat; omega, by show a.toNat < 2000; omega, hb.2.2.2, ?_⟩
      have : (a + 1).toNat = a.toNat + 1 := by omega
      rw [this] at ih
      exact ih
theorem notes_drumOf {l : List Int} {ps : List (Nat × Int)} (h : Drum.noted l 0 = some ps) : Drum.notes (Drum.drumOf ps) = l := by
  have hr := noted_rising l 0 ps h (by decide)
  have hn := notes_from ps 0 2000 hr
  obtain ⟨_, e⟩ := noted_map l 0 ps h (by decide)
  rw [e]
  have e1 : (ps.map fun q => (q.1 - 0, q.2)) = ps := by simp
  rw [e1] at hn
  exact hn
theorem mkM_row {st ov n t a d : Int} {l : List Int} {ps : List (Nat × Int)} (hok : partsOk st ov n t a d = true) (h : Drum.noted l 0 = some ps) : (mkM st ov n t a d ps).row = [st, ov, n, t, a, d, (l.length : Int)] ++ l := by
  unfold Drum.Machine.row
  have e : (mkM st ov n t a d ps).drum = Drum.drumOf ps := rfl
  rw [e, notes_drumOf h]
  unfold partsOk at hok
  simp only [Bool.and_eq_true, within_iff] at hok
  obtain ⟨⟨s1, s2⟩, ⟨o1, o2⟩, ⟨n1', n2'⟩, ⟨t1, t2⟩, _⟩ := hok
  have e1 : ((st.toNat : Nat) : Int) = st := Int.toNat_of_nonneg s1
  have e3 : ((n.toNat : Nat) : Int) = n := Int.toNat_of_nonneg n1'
  have e4 : ((t.toNat : Nat) : Int) = t := Int.toNat_of_nonneg t1
  have e2 : (if (ov == 1) = true then (1 : Int) else 0) = ov := by
    rcases (by omega : ov = 0 ∨ ov = 1) with rfl | rfl <;> rfl
  show [((st.toNat : Nat) : Int), if (ov == 1) = true then 1 else 0, ((n.toNat : Nat) : Int), ((t.toNat : Nat) : Int), a, d, (l.length : Int)] ++ l = _
  rw [e1, e2, e3, e4]
theorem rising_len : ∀ (ps : List (Nat × Int)) (k n : Nat), Rising k n ps → ps.length + k ≤ max n k
  | [], k, n, _ => by simp; omega
  | q :: r, k, n, h => by
    obtain ⟨h1, h2, h3, h4⟩ := h
    have := rising_len r (q.1 + 1) n h4
    rw [List.length_cons]
    omega
theorem noted_len {l : List Int} {ps : List (Nat × Int)} (h : Drum.noted l 0 = some ps) : l.length ≤ 4000 := by
  have hr := rising_len ps 0 2000 (noted_rising l 0 ps h (by decide))
  obtain ⟨_, e⟩ := noted_map l 0 ps h (by decide)
  rw [e, flat_len]
  omega
theorem eights_nil (f : Nat) : Drum.eights f [] = [] := by cases f <;> rfl
theorem eights_range : ∀ (f k : Nat) (l : List Int), l.length = 8 * k → k ≤ f → Drum.eights f l = (List.range k).map fun i => (l.drop (8 * i)).take 8
  | f, 0, l, h, _ => by
    have : l = [] := List.eq_nil_of_length_eq_zero (by omega)
    rw [this, eights_nil]; rfl
  | 0, k + 1, l, h, hf => by omega
  | f + 1, k + 1, l, h, hf => by
    have hne : l ≠ [] := fun q => by rw [q] at h; simp at h
    unfold Drum.eights
    rw [if_neg hne, eights_range f k (l.drop 8) (by rw [List.length_drop]; omega) (by omega), List.range_succ_eq_map, List.map_cons, List.map_map]
    congr 1
    refine List.map_congr_left fun i _ => ?_
    show ((l.drop 8).drop (8 * i)).take 8 = (l.drop (8 * (i + 1))).take 8
    rw [List.drop_drop]
    congr 2
    omega
end Dd

namespace Dd
open PySem PySem.Spec PyProof.Rows L2
open Drum (Machine)
theorem gen_post {c : (Bool → Hp → Prop) → Prop} {b : Bool} {H : Hp} {R : Bool → Hp → Prop} (k : ∀ R : Bool → Hp → Prop, R b H → c R) (h : R b H) : c R := k R h
structure LoopT (A : Adr) (H0 : Hp) (r x st hb dr hp tr : Addr) (stops : List Nat) (orders tb : Nat) (hs ts : List Addr) (cs tc : List (List Int)) (fin : Drum.Run) (b : Nat) (H : Hp) : Prop where
  ex : ∃ (m' : Machine) (cs' p' : List (List Int)) (rd : Nat) (hs' ts' pre : List Addr), RunAt A H r x st hb stops b tb hs cs ∧ MFull A.cMachine H x m' dr hp tr hs' ts' cs' (tc ++ p') ∧
    hs = pre ++ hs' ∧ rd + cs'.length = cs.length ∧ addRun b rd p' (Drum.run (orders - b) Drum.WRAP m' cs') = fin ∧ Grown H0 ts ts' ∧ ts'.length ≤ ts.length + b ∧ b ≤ orders ∧ Fr5 x dr hp tr r H0 H
def sp_go_through (A : Adr) : Sp := fun vs H Q _ => ∃ (r x st hb : Addr) (stops : List Nat) (m : Machine) (dr hp tr : Addr) (hs ts : List Addr) (cs tc : List (List Int)) (orders : Nat),
  vs = [.ref r, .int orders] ∧ RunAt A H r x st hb stops 0 ts.length hs cs ∧ MFull A.cMachine H x m dr hp tr hs ts cs tc ∧ Apart r st hb x dr hp tr ∧ ts.length + orders ≤ 10000 ∧
  ∀ (H' : Hp) (fin : Drum.Run) (cs' : List (List Int)) (hs' ts' pre : List Addr), fin = Drum.run orders Drum.WRAP m cs → RunAt A H' r x st hb stops fin.begun ts.length hs cs → MFull A.cMachine H' x fin.m dr hp tr hs' ts' cs' (tc ++ fin.punched) →
    fin.read + cs'.length = cs.length → fin.begun ≤ orders → hs = pre ++ hs' → Grown H ts ts' → Fr5 x dr hp tr r H H' → Q .non H'
theorem ok_go_through {P : Program} {w : World} {K : PySem.W.Frag} {mg : Str → Option Value} {A : Adr} {base : Heap} (T : Txt P w K mg A) : Callee P w K mg base 7 "go_through" ["run", "orders"] (sp_go_through A) := by
  have G_do_order := ok_do_order (P := P) (w := w) (base := base) T
  have SC := sc_go_through
  refine T.f_go_through.ok (k := 6) sc_go_through (fun vs H Q E h => ?_) (fun f cdv Ar outer s H vs Q E hr h => ?_)
  · obtain ⟨r, x, st, hb, stops, m, dr, hp, tr, hs, ts, cs, tc, orders, rfl, _⟩ := h; rfl
  · obtain ⟨r, x, st, hb, stops, m, dr, hp, tr, hs, ts, cs, tc, orders, rfl, R, F, a, hts, h⟩ := h
    refine ⟨_, (pss_one (ps_while PassesOwn.never (PW.pt (pw_and (pt_cmpR op_lt (pe_fld (pv 0) rfl) (pv 1) (nomark _)) (pw_and1 (pt_cmpR op_eq (pe_fld (pe_fld (pv 0) rfl) rfl) pe_int (nomark _))))) (pss_cons (ps_expr (pe_callC G_do_order hr (by decide) (pa_cons (pe_fld (pv 0) rfl) pa_nil))) (pss_one (ps_fldaug (pv 0) pe_int in_add))))), ?_⟩
    refine ⟨fun k σ H' => σ = [some (.ref r), some (.int orders)] ∧ ∃ b, k = orders - b ∧ LoopT A H r x st hb dr hp tr stops orders ts.length hs ts cs tc (Drum.run orders Drum.WRAP m cs) b H',
      ⟨orders, rfl, 0, rfl, ⟨m, cs, [], 0, hs, ts, [], R, by rw [List.append_nil]; exact F, rfl, by omega, addRun_0 _, Grown.refl, by omega, by omega, .refl⟩⟩, ?_⟩
    rintro k σ H' ⟨rfl, b, rfl, ⟨m', cs', p', rd, hs', ts', pre, R', F', eh, ec, eo, g', l', hbo, f'⟩⟩
    obtain ⟨dxr, hr'⟩ := R'.obj
    obtain ⟨dx, hx⟩ := F'.M.obj
    refine gen_post (b := decide (b < orders) && decide (m'.state = 0)) (H := H') (fun Rr hR => ?_) ?_
    · simp_arith [T.k_Machine.cl, na_Machine_state T, na_Machine_over T, na_Machine_order_at T, na_Machine_tick T, na_Machine_a T, na_Machine_d T, na_Machine_drum T, na_Machine_hopper T, na_Machine_tray T, T.k_Run.cl, na_Run_machine T, na_Run_stops T, na_Run_begun T, na_Run_hopper_before T, na_Run_tray_before T, T.k_Desk.cl, na_Desk_machine T, na_Desk_stops T, na_Desk_journal T, mf_state, mf_over, mf_order_at, mf_tick, mf_a, mf_d, mf_drum, mf_hopper, mf_tray, mp_state, mp_over, mp_over1, mp_over0, mp_order_at, mp_tick, mp_a, mp_d, mp_hopper, mp_tray, mf_len, rf_machine, rf_stops, rf_begun, rf_hopper_before, rf_tray_before, rp_begun, rf_len, hr', hx]
      by_cases c1 : b < orders
      · rw [if_pos (decide_eq_true (by omega))]
        rw [decide_eq_true c1, Bool.true_and] at hR
        rw [decide_eq_decide.mpr (show ((m'.state : Nat) : Int) = 0 ↔ m'.state = 0 by omega)]
        exact hR
      · rw [if_neg (by rw [decide_eq_true_iff]; omega)]
        rw [decide_eq_false c1, Bool.false_and] at hR
        exact hR
    · by_cases c : b < orders ∧ m'.state = 0
      · rw [if_pos (by rw [decide_eq_true c.1, decide_eq_true c.2]; rfl)]
        refine ⟨fun σ2 H2 => σ2 = [some (.ref r), some (.int orders)] ∧ LoopT A H r x st hb dr hp tr stops orders ts.length hs ts cs tc (Drum.run orders Drum.WRAP m cs) (b + 1) H2, ?_, ?_⟩
        · rintro σ2 H2 ⟨rfl, L⟩
          exact ⟨orders - (b + 1), by omega, rfl, b + 1, rfl, L⟩
        · simp_arith [T.k_Machine.cl, na_Machine_state T, na_Machine_over T, na_Machine_order_at T, na_Machine_tick T, na_Machine_a T, na_Machine_d T, na_Machine_drum T, na_Machine_hopper T, na_Machine_tray T, T.k_Run.cl, na_Run_machine T, na_Run_stops T, na_Run_begun T, na_Run_hopper_before T, na_Run_tray_before T, T.k_Desk.cl, na_Desk_machine T, na_Desk_stops T, na_Desk_journal T, mf_state, mf_over, mf_order_at, mf_tick, mf_a, mf_d, mf_drum, mf_hopper, mf_tray, mp_state, mp_over, mp_over1, mp_over0, mp_order_at, mp_tick, mp_a, mp_d, mp_hopper, mp_tray, mf_len, rf_machine, rf_stops, rf_begun, rf_hopper_before, rf_tray_before, rp_begun, rf_len, hr']
          refine ⟨x, m', dr, hp, tr, hs', ts', cs', _, rfl, F', c.2, by omega, fun H1 hs1 ts1 F1 e1 p1 f1 => ?_⟩
          have R1 := R'.keep4 f1 a F.nh
          obtain ⟨dxr1, hr1⟩ := R1.obj
          refine ⟨_, _, _, hr1, T.k_Run.cl, na_Run_begun T, _, rf_begun _ _ _ _ _, _, rfl, _, _, hr1, rf_len _ _ _ _ _, ?_⟩
          have eb1 : ((b : Int) + 1) = ((b + 1 : Nat) : Int) := rfl
          rw [eb1, rp_begun]
          refine ⟨(m'.step cs').1, (if (m'.step cs').2.1 = true then cs'.drop 1 else cs'), p' ++ (m'.step cs').2.2, rd + (if (m'.step cs').2.1 = true then 1 else 0), hs1, ts1, ?_⟩
          rw [List.append_assoc] at F1
          obtain ⟨pre1, eh2⟩ : ∃ pre1, hs = pre1 ++ hs1 := by
            rw [e1]
            cases (m'.step cs').2.1 with
            | true =>
              refine ⟨pre ++ hs'.take 1, ?_⟩
              simp only [if_true]
              rw [List.append_assoc, List.take_append_drop]; exact eh
            | false => exact ⟨pre, by simpa using eh⟩
          have F2 := F1.other (H' := upd H1 r (.ins A.cRun dxr1 (rf x st (b + 1) hb ts.length))) hr1 a.rx fun c u e nc => by rw [upd_ne nc]; exact e
          refine ⟨pre1, R1.begun a.str a.hbr, F2, eh2, ?_, ?_, g'.trans (p1.back fun c q => f'.free F' R' q), ?_, by omega, f'.trans (f1.fr5.trans .updr)⟩
          · cases q : (m'.step cs').2.1 with
            | true =>
              have := step_read q
              simp only [if_true, List.length_drop]
              have : 0 < cs'.length := List.length_pos_iff.mpr this
              omega
            | false => simpa using ec
          · rw [← eo]
            exact (run_goes c.2 F'.G.tick c.1).symm
          · have lo := step_out1 m' cs'
            have l1 := cards_len F2.ht
            have l2 := cards_len F'.ht
            simp only [List.length_append] at l1 l2
            omega
      · rw [if_neg (by rw [Bool.and_eq_true, decide_eq_true_iff, decide_eq_true_iff]; exact c)]
        have ns : orders - b = 0 ∨ m'.state ≠ 0 := by
          by_cases c1 : b < orders
          · exact .inr fun q => c ⟨c1, q⟩
          · exact .inl (by omega)
        have e0 := run_stops (k := orders - b) (m := m') (cs := cs') ns
        rw [e0] at eo
        refine h H' ⟨m', b + 0, rd + 0, p' ++ []⟩ cs' hs' ts' pre eo R' ?_ ec hbo eh g' f'
        show MFull A.cMachine H' x m' dr hp tr hs' ts' cs' (tc ++ (p' ++ []))
        rw [List.append_nil]; exact F'
theorem cards_at {H : Hp} : ∀ {as : List Addr} {cs : List (List Int)} {i : Nat} {a : Addr}, CardsAt H as cs → as[i]? = some a → ∃ c : List Int, cs[i]? = some c ∧ H a = some (.lst (c.map V.int))
  | _, _, _, _, .nil, h => by simp at h
  | _, _, 0, a, .cons r t, h => by
    cases (show some _ = some a from h)
    exact ⟨_, rfl, r⟩
  | _, _, i + 1, a, .cons r t, h => by
    obtain ⟨c, hc, e⟩ := cards_at (i := i) t (by simpa using h)
    exact ⟨c, by simpa using hc, e⟩
theorem flat8 : ∀ {l : List (List Int)}, (∀ c ∈ l, c.length = 8) → l.flatten.length = 8 * l.length
  | [], _ => rfl
  | c :: r, h => by
    rw [List.flatten_cons, List.length_append, flat8 (fun z hz => h z (List.mem_cons_of_mem _ hz)), h c (List.mem_cons_self), List.length_cons]
    omega
def df (mv : V) (st jl : Addr) : List (Str × V) := [("machine", mv), ("stops", .ref st), ("journal", .ref jl)]
section
variable (mv : V) (st jl : Addr)
theorem df_machine : (df mv st jl).lookup ("machine" : Str) = some mv := by rfl
theorem df_stops : (df mv st jl).lookup ("stops" : Str) = some (V.ref st) := by rfl
theorem df_journal : (df mv st jl).lookup ("journal" : Str) = some (V.ref jl) := by rfl
theorem dp_machine (z : V) : putF ("machine" : Str) z (df mv st jl) = df z st jl := by rfl
theorem dp_stops (z : Addr) : putF ("stops" : Str) (V.ref z) (df mv st jl) = df mv z jl := by rfl
theorem dp_journal (z : Addr) : putF ("journal" : Str) (V.ref z) (df mv st jl) = df mv st z := by rfl
theorem df_len : (df mv st jl).length < 1000 := by show 3 < 1000; decide
end
theorem free_kept {H H' : Hp} {j q : Addr} {u : HO} (k : ∀ b o, H b = some o → b ≠ j → H' b = some o) (hj : H' j = some u) (h : H' q = none) : H q = none := by
  cases e : H q with
  | none => rfl
  | some o =>
    have n : q ≠ j := fun z => by rw [z, hj] at h; cases h
    rw [k q o e n] at h; cases h
def sp_note_run (A : Adr) : Sp := fun vs H Q _ => ∃ (dk r : Addr) (mv : V) (st0 jl dx : Addr) (j : List Int) (x st hb : Addr) (stops : List Nat) (b tb : Nat) (hs0 : List Addr) (cs0 : List (List Int)) (m : Machine) (dr hp tr : Addr) (hs ts : List Addr) (cs tc : List (List Int)) (pre : List Addr),
  vs = [.ref dk, .ref r] ∧ H dk = some (.ins A.cDesk dx (df mv st0 jl)) ∧ H jl = some (.lst (j.map V.int)) ∧ RunAt A H r x st hb stops b tb hs0 cs0 ∧ MFull A.cMachine H x m dr hp tr hs ts cs tc ∧ hs0 = pre ++ hs ∧ (∀ c ∈ hs0, c ≠ jl) ∧ (∀ c ∈ cs0, c.length = 8) ∧ cs0.length ≤ 20000 ∧ j.length ≤ 20000 ∧
  ∀ H', (∀ b o, H b = some o → b ≠ jl → H' b = some o) → H' jl = some (.lst ((j ++ [3, (b : Int), ((cs0.length - cs.length : Nat) : Int)] ++ (cs0.take (cs0.length - cs.length)).flatten).map V.int)) → Q .non H'
theorem ok_note_run {P : Program} {w : World} {K : PySem.W.Frag} {mg : Str → Option Value} {A : Adr} {base : Heap} (T : Txt P w K mg A) : Callee P w K mg base 2 "note_run" ["desk", "this_run"] (sp_note_run A) := by
  have G_cards_read := ok_cards_read (P := P) (w := w) (base := base) T
  have SC := sc_note_run
  refine T.f_note_run.ok (k := 1) sc_note_run (fun vs H Q E h => ?_) (fun f cdv Ar outer s H vs Q E hr h => ?_)
  · obtain ⟨dk, r, mv, st0, jl, dx, j, x, st, hb, stops, b, tb, hs0, cs0, m, dr, hp, tr, hs, ts, cs, tc, pre, rfl, _⟩ := h; rfl
  · obtain ⟨dk, r, mv, st0, jl, dx, j, x, st, hb, stops, b, tb, hs0, cs0, m, dr, hp, tr, hs, ts, cs, tc, pre, rfl, hk, hj, R, F, ep, nj, c8, l0, lj, h⟩ := h
    obtain ⟨dxr, hr'⟩ := R.obj
    have lh : hs0.length = cs0.length := cards_len R.crd
    have lc : hs.length = cs.length := cards_len F.hc
    refine ⟨_, (pss_cons (ps_set (i := 2) SC.nd rfl (by first | exact Or.inl rfl | exact Or.inr rfl) (pe_callC G_cards_read hr (by decide) (pa_cons (pv 1) pa_nil))) (pss_cons (ps_expr (pe_bmL PySem.F.slot_list_extend PySem.F.type_list_extend mt_extend (pe_fld (pv 0) rfl) (pa_cons (pe_lst (pa_cons (pe_gint T.c_RUN_ENTRY) (pa_cons (pe_fld (pv 1) rfl) (pa_cons (pe_callB call_len_lst (by rfl) T.b_len bt_len (pa_cons (pv 2) pa_nil)) pa_nil)))) pa_nil))) (pss_one (ps_for PassesOwn.never rfl (pi_list (pv 2)) (pg_name (i := 3) SC.nd rfl (by first | exact Or.inl rfl | exact Or.inr rfl)) (pss_one (ps_expr (pe_bmL PySem.F.slot_list_extend PySem.F.type_list_extend mt_extend (pe_fld (pv 0) rfl) (pa_cons (pv 3) pa_nil)))))))), ?_⟩
    simp_arith
    refine ⟨r, x, st, hb, stops, b, tb, hs0, cs0, m, dr, hp, tr, hs, ts, cs, tc, rfl, R, F, ⟨pre, ep⟩, fun D hD => ?_⟩
    have sD := same_upd (H := H) (o := .lst ((hs0.take (hs0.length - hs.length)).map V.ref)) hD
    have hk1 := sD _ _ hk
    have hr1 := sD _ _ hr'
    have hj1 := sD _ _ hj
    simp_arith [T.k_Machine.cl, na_Machine_state T, na_Machine_over T, na_Machine_order_at T, na_Machine_tick T, na_Machine_a T, na_Machine_d T, na_Machine_drum T, na_Machine_hopper T, na_Machine_tray T, T.k_Run.cl, na_Run_machine T, na_Run_stops T, na_Run_begun T, na_Run_hopper_before T, na_Run_tray_before T, T.k_Desk.cl, na_Desk_machine T, na_Desk_stops T, na_Desk_journal T, df_machine, df_stops, df_journal, dp_machine, dp_stops, dp_journal, df_len, rf_machine, rf_stops, rf_begun, rf_hopper_before, rf_tray_before, rp_begun, rf_len, hk1, hr1, hj1]
    have eN : ((hs0.take (hs0.length - hs.length)).map V.ref).length = cs0.length - cs.length := by rw [List.length_map, List.length_take]; omega
    refine ⟨⟨_, rfl⟩, by decide, fun p hp => ?_⟩
    have sp := sD.trans (same_upd (o := .lst [V.int 3, V.int b, V.int ((hs0.take (hs0.length - hs.length)).map V.ref).length]) hp)
    have nDp : D ≠ p := ne_of_none upd_same hp
    have nDj : D ≠ jl := fun q => by rw [q, hj] at hD; cases hD
    have nkj : dk ≠ jl := ne_of hk hj (by intro q; cases q)
    have hsz : sizeLine = 16777216 := by decide
    refine ⟨_, sp _ _ hj, by rw [List.length_map]; omega, ?_⟩
    refine ⟨_, rfl, D, rfl, ⟨_, SqL.of (by rw [upd_ne nDj, upd_ne nDp, upd_same])⟩, for_list (K := K) (a := D) (xs := (hs0.take (hs0.length - hs.length)).map V.ref)
      (fun i σ H' => (∃ v3 : Option V, σ = [some (.ref dk), some (.ref r), some (.ref D), v3]) ∧ (∀ b o, (H b = some o ∨ (b = D ∧ o = .lst ((hs0.take (hs0.length - hs.length)).map V.ref))) → b ≠ jl → H' b = some o) ∧ H' jl = some (.lst ((j ++ [3, (b : Int), ((cs0.length - cs.length : Nat) : Int)] ++ (cs0.take i).flatten).map V.int))) ⟨⟨none, rfl⟩, ?_, ?_⟩ (fun i σ H' _ p => SqL.of (p.2.1 D _ (.inr ⟨rfl, rfl⟩) nDj)) ?_ ?_⟩
    · intro c o e nb
      rcases e with e | ⟨rfl, rfl⟩
      · rw [upd_ne nb]; exact sp c o e
      · rw [upd_ne nb, upd_ne nDp, upd_same]
    · rw [upd_same, eN, List.take_zero, List.flatten_nil, List.append_nil, List.map_append]; rfl
    · rintro i y σ H' hy ⟨⟨v3, rfl⟩, k', hj'⟩
      rw [List.getElem?_map] at hy
      obtain ⟨c, hc, rfl⟩ := Option.map_eq_some_iff.mp hy
      have hi : i < hs0.length - hs.length := by
        obtain ⟨q, _⟩ := List.getElem?_eq_some_iff.mp hc
        rw [List.length_take] at q
        omega
      rw [List.getElem?_take_of_lt hi] at hc
      obtain ⟨card, hcard, hcc⟩ := cards_at R.crd hc
      have hc' := k' c _ (.inl hcc) (nj c (List.mem_of_getElem? hc))
      have hk' := k' dk _ (.inl hk) nkj
      have l8 := c8 card (List.mem_of_getElem? hcard)
      have lf : (cs0.take i).flatten.length = 8 * i := by
        rw [flat8 (fun z hz => c8 z (List.mem_of_mem_take hz)), List.length_take]
        have : i < cs0.length := by omega
        omega
      simp_arith [T.k_Machine.cl, na_Machine_state T, na_Machine_over T, na_Machine_order_at T, na_Machine_tick T, na_Machine_a T, na_Machine_d T, na_Machine_drum T, na_Machine_hopper T, na_Machine_tray T, T.k_Run.cl, na_Run_machine T, na_Run_stops T, na_Run_begun T, na_Run_hopper_before T, na_Run_tray_before T, T.k_Desk.cl, na_Desk_machine T, na_Desk_stops T, na_Desk_journal T, df_machine, df_stops, df_journal, dp_machine, dp_stops, dp_journal, df_len, hk', hj', hc', List.length_map]
      refine ⟨⟨_, rfl⟩, ?_, ⟨_, rfl⟩, fun b o e nb => by rw [upd_ne nb]; exact k' b o e nb, ?_⟩
      · rw [List.length_append, List.length_append, lf, l8]
        have : ([3, (b : Int), ((cs0.length - cs.length : Nat) : Int)] : List Int).length = 3 := rfl
        omega
      · rw [← List.map_append, take_snoc hcard, List.flatten_append, List.flatten_cons, List.flatten_nil, List.append_nil, List.append_assoc, List.append_assoc]
    · rintro σ H' ⟨⟨v3, rfl⟩, k', hj'⟩
      rw [eN] at hj'
      exact h H' (fun b o e nb => k' b o (.inl e) nb) hj'
end Dd

namespace Dd
open PySem PySem.Spec PyProof.Rows L2
open Drum (Machine)
structure DAt (A : Adr) (H : Hp) (dk : Addr) (d : Drum.Desk) (x dr hp tr st jl : Addr) (hs ts : List Addr) : Prop where
  obj : ∃ dx, H dk = some (.ins A.cDesk dx (df (.ref x) st jl))
  F : MFull A.cMachine H x d.m dr hp tr hs ts d.hopper d.tray
  stp : H st = some (.dK (sv d.stops))
  jnl : H jl = some (.lst (d.journal.map V.int))
  jdr : jl ≠ dr
  jhp : jl ≠ hp
  jtr : jl ≠ tr
  jh : ∀ c ∈ hs, c ≠ jl
  jt : ∀ c ∈ ts, c ≠ jl
  sn : d.stops.length ≤ 64
  sk : ∀ a ∈ d.stops, a < 2000
  hn : d.hopper.length ≤ 64
  tn : d.tray.length ≤ 64
  jn : d.journal.length ≤ 20000
def StAt (A : Adr) (H : Hp) (dk : Addr) (s : Option Drum.Desk) (O : List Addr) : Prop := match s with
  | none => (∃ dx st jl, H dk = some (.ins A.cDesk dx (df .non st jl))) ∧ O = [dk]
  | some d => ∃ x dr hp tr st jl hs ts, DAt A H dk d x dr hp tr st jl hs ts ∧ O = [dk, x, dr, hp, tr, st, jl] ++ (hs ++ ts)
def FrO (O : List Addr) (H H' : Hp) : Prop := ∀ b o, H b = some o → b ∉ O → H' b = some o
section
variable {A : Adr} {H H' : Hp} {dk : Addr} {d : Drum.Desk} {x dr hp tr st jl : Addr} {hs ts : List Addr}
theorem DAt.kx (D : DAt A H dk d x dr hp tr st jl hs ts) : dk ≠ x := by
  obtain ⟨dx, h1⟩ := D.obj
  obtain ⟨dx', h2⟩ := D.F.M.obj
  exact ne_of h1 h2 (by intro q; injection q with _ _ q3; cases q3)
theorem DAt.nl (D : DAt A H dk d x dr hp tr st jl hs ts) {b : Addr} {l : List V} (h : H b = some (.lst l)) : b ≠ dk ∧ b ≠ x ∧ b ≠ st := by
  obtain ⟨dx, h1⟩ := D.obj
  obtain ⟨dx', h2⟩ := D.F.M.obj
  exact ⟨ne_of h h1 (by intro q; cases q), ne_of h h2 (by intro q; cases q), ne_of h D.stp (by intro q; cases q)⟩
theorem DAt.sk' (D : DAt A H dk d x dr hp tr st jl hs ts) : st ≠ dk ∧ st ≠ x := by
  obtain ⟨dx, h1⟩ := D.obj
  obtain ⟨dx', h2⟩ := D.F.M.obj
  exact ⟨ne_of D.stp h1 (by intro q; cases q), ne_of D.stp h2 (by intro q; cases q)⟩
end
section
variable {A : Adr} {H H' : Hp} {dk : Addr} {d d' : Drum.Desk} {x dr hp tr st jl : Addr} {hs ts : List Addr}
theorem MFull.same {C : Addr} {m : Machine} {cs tc : List (List Int)} (F : MFull C H x m dr hp tr hs ts cs tc) (s : Same H H') : MFull C H' x m dr hp tr hs ts cs tc :=
  ⟨F.M.same s, F.G, s _ _ F.hop, s _ _ F.tray, F.hc.keep fun a _ o e => s a o e, F.ht.keep fun a _ o e => s a o e, F.ndh, F.ndt, F.nht, F.nh, F.nt, F.cw, F.tw⟩
theorem DAt.same (D : DAt A H dk d x dr hp tr st jl hs ts) (s : Same H H') : DAt A H' dk d x dr hp tr st jl hs ts := by
  obtain ⟨dx, h1⟩ := D.obj
  exact ⟨⟨dx, s _ _ h1⟩, D.F.same s, s _ _ D.stp, s _ _ D.jnl, D.jdr, D.jhp, D.jtr, D.jh, D.jt, D.sn, D.sk, D.hn, D.tn, D.jn⟩
theorem MFull.apart {C : Addr} {m : Machine} {cs tc : List (List Int)} {j : Addr} {l : List V} {u : HO} (F : MFull C H x m dr hp tr hs ts cs tc) (hj : H j = some (.lst l)) (n1 : j ≠ dr) (n2 : j ≠ hp) (n3 : j ≠ tr) (n4 : ∀ c ∈ hs, c ≠ j) (n5 : ∀ c ∈ ts, c ≠ j) : MFull C (upd H j u) x m dr hp tr hs ts cs tc := by
  obtain ⟨dx, hx⟩ := F.M.obj
  have nx : x ≠ j := ne_of hx hj (by intro q; cases q)
  exact ⟨⟨⟨dx, by rw [upd_ne nx]; exact hx⟩, by rw [upd_ne n1.symm]; exact F.M.drum⟩, F.G, by rw [upd_ne n2.symm]; exact F.hop, by rw [upd_ne n3.symm]; exact F.tray,
    F.hc.keep fun a ha o e => by rw [upd_ne (n4 a ha)]; exact e, F.ht.keep fun a ha o e => by rw [upd_ne (n5 a ha)]; exact e, F.ndh, F.ndt, F.nht, F.nh, F.nt, F.cw, F.tw⟩
theorem DAt.setj (D : DAt A H dk d x dr hp tr st jl hs ts) (em : d'.m = d.m) (es : d'.stops = d.stops) (eh : d'.hopper = d.hopper) (et : d'.tray = d.tray) (hj : d'.journal.length ≤ 20000) : DAt A (upd H jl (.lst (d'.journal.map V.int))) dk d' x dr hp tr st jl hs ts := by
  obtain ⟨dx, h1⟩ := D.obj
  obtain ⟨n1, n2, n3⟩ := D.nl D.jnl
  refine ⟨⟨dx, by rw [upd_ne n1.symm]; exact h1⟩, ?_, by rw [upd_ne n3.symm, es]; exact D.stp, upd_same, D.jdr, D.jhp, D.jtr, D.jh, D.jt, by rw [es]; exact D.sn, by rw [es]; exact D.sk, by rw [eh]; exact D.hn, by rw [et]; exact D.tn, hj⟩
  rw [em, eh, et]
  exact D.F.apart D.jnl D.jdr D.jhp D.jtr D.jh D.jt
theorem journal_snoc (d : Drum.Desk) (e : Drum.Entry) : ({ d with log := d.log ++ [e] } : Drum.Desk).journal = d.journal ++ e.row := by
  unfold Drum.Desk.journal
  show _ ++ (d.log ++ [e]).flatMap _ = _
  rw [List.flatMap_append, List.append_assoc, List.flatMap_cons, List.flatMap_nil, List.append_nil]
theorem FrO.same {O : List Addr} (s : Same H H') : FrO O H H' := fun b o e _ => s b o e
theorem FrO.mono {O O2 : List Addr} (f : FrO O H H') (h : ∀ b ∈ O, b ∈ O2) : FrO O2 H H' := fun b o e nb => f b o e fun q => nb (h b q)
theorem FrO.cards {O : List Addr} {hs ts : List Addr} (f : FrO O H H') : FrO (O ++ (hs ++ ts)) H H' := f.mono fun b hb => List.mem_append_left _ hb
theorem FrO.trans {O : List Addr} {H1 H2 : Hp} (a : FrO O H H1) (b : FrO O H1 H2) : FrO O H H2 := fun c o e h => b c o (a c o e h) h
theorem FrO.upd {O : List Addr} {a : Addr} {u : HO} (h : a ∈ O) : FrO O H (L2.upd H a u) := fun c o e hc => by rw [upd_ne (fun q => hc (by rw [q]; exact h))]; exact e
end
def sp_has_room (A : Adr) : Sp := fun vs H Q _ => ∃ (dk : Addr) (d : Drum.Desk) (x dr hp tr st jl : Addr) (hs ts : List Addr) (n : Nat), vs = [.ref dk, .int n] ∧ DAt A H dk d x dr hp tr st jl hs ts ∧ Q (.bl (!DrumDeskSeed.long d n)) H
theorem ok_has_room {P : Program} {w : World} {K : PySem.W.Frag} {mg : Str → Option Value} {A : Adr} {base : Heap} (T : Txt P w K mg A) : Callee P w K mg base 1 "has_room" ["desk", "more"] (sp_has_room A) := by
  have SC := sc_has_room
  refine T.f_has_room.ok (k := 0) sc_has_room (fun vs H Q E h => ?_) (fun f cdv Ar outer s H vs Q E hr h => ?_)
  · obtain ⟨dk, d, x, dr, hp, tr, st, jl, hs, ts, n, rfl, _⟩ := h; rfl
  · obtain ⟨dk, d, x, dr, hp, tr, st, jl, hs, ts, n, rfl, D, h⟩ := h
    obtain ⟨dx, hx⟩ := D.obj
    have hj := D.jnl
    refine ⟨_, (pss_one (ps_ret (pe_cmpR op_le (pe_op op_add (pe_callB call_len_lst (by rfl) T.b_len bt_len (pa_cons (pe_fld (pv 0) rfl) pa_nil)) (pv 1)) (pe_gint T.c_JOURNAL_MOST) (nomark _)))), ?_⟩
    simp_arith [T.k_Machine.cl, na_Machine_state T, na_Machine_over T, na_Machine_order_at T, na_Machine_tick T, na_Machine_a T, na_Machine_d T, na_Machine_drum T, na_Machine_hopper T, na_Machine_tray T, T.k_Run.cl, na_Run_machine T, na_Run_stops T, na_Run_begun T, na_Run_hopper_before T, na_Run_tray_before T, T.k_Desk.cl, na_Desk_machine T, na_Desk_stops T, na_Desk_journal T, mf_state, mf_over, mf_order_at, mf_tick, mf_a, mf_d, mf_drum, mf_hopper, mf_tray, mp_state, mp_over, mp_over1, mp_over0, mp_order_at, mp_tick, mp_a, mp_d, mp_hopper, mp_tray, mf_len, df_machine, df_stops, df_journal, dp_machine, dp_stops, dp_journal, df_len, hx, hj, List.length_map]
    have e : decide (((d.journal.length : Nat) : Int) + (n : Int) ≤ 20000) = !DrumDeskSeed.long d n := by
      unfold DrumDeskSeed.long DrumDeskSeed.LONGEST
      rw [← decide_not]
      exact decide_eq_decide.mpr (by omega)
    rw [e]; exact h
def spOn (A : Adr) (ps : List V → DrumDeskSeed.Call → Hp → Prop) : Sp := fun vs H Q _ => ∃ (dk : Addr) (d : Drum.Desk) (x dr hp tr st jl : Addr) (hs ts : List Addr) (args : List V) (c : DrumDeskSeed.Call), vs = .ref dk :: args ∧ DAt A H dk d x dr hp tr st jl hs ts ∧ ps args c H ∧
  ∀ (H' : Hp) (D : Addr) (O' : List Addr), StAt A H' dk (some (DrumDeskSeed.on d c).1) O' → H' D = some (.lst ((DrumDeskSeed.on d c).2.map V.int)) → H D = none → (∀ b ∈ O', b ∈ [dk, x, dr, hp, tr, st, jl] ++ (hs ++ ts) ∨ H b = none) → FrO [dk, x, dr, hp, tr, st, jl] H H' → Q (.ref D) H'
theorem on_same {A : Adr} {H : Hp} {dk : Addr} {d : Drum.Desk} {x dr hp tr st jl : Addr} {hs ts : List Addr} {c : DrumDeskSeed.Call} {Q : VK} (D : DAt A H dk d x dr hp tr st jl hs ts)
    (h : ∀ (H' : Hp) (D : Addr) (O' : List Addr), StAt A H' dk (some (DrumDeskSeed.on d c).1) O' → H' D = some (.lst ((DrumDeskSeed.on d c).2.map V.int)) → H D = none → (∀ b ∈ O', b ∈ [dk, x, dr, hp, tr, st, jl] ++ (hs ++ ts) ∨ H b = none) → FrO [dk, x, dr, hp, tr, st, jl] H H' → Q (.ref D) H')
    {ns : List Int} (e : DrumDeskSeed.on d c = (d, ns)) (p : Addr) (hq : H p = none) : Q (.ref p) (upd H p (.lst (ns.map V.int))) := by
  rw [e] at h
  have s := same_upd (H := H) (o := .lst (ns.map V.int)) hq
  exact h _ p _ ⟨_, _, _, _, _, _, _, _, D.same s, rfl⟩ upd_same hq (fun b hb => .inl hb) (.same s)
end Dd

namespace Dd
open PySem PySem.Spec PyProof.Rows L2
open Drum (Machine)
theorem nF {p q : Prop} (h : p) : if (!false) = true then p else q := h
theorem nT {p q : Prop} (h : q) : if (!true) = true then p else q := h
theorem sv_put {stops : List Nat} {a : Nat} (h : stops.contains a = false) : putK (sv stops) (Sum.inl (a : Int)) (V.bl true) = sv (stops ++ [a]) := by
  rw [putK_new _ (sv_none h)]; unfold sv; rw [List.map_append]; rfl
theorem sv_drop (stops : List Nat) (a : Nat) : dropK (sv stops) (Sum.inl (a : Int)) = sv (stops.filter fun x => x != a) := by
  unfold sv dropK
  rw [List.filter_map]
  congr 1
  refine List.filter_congr fun x _ => ?_
  by_cases e : x = a
  · subst e; simp
  · have : ¬ ((x : Int) = (a : Int)) := by omega
    simp [e, this]
section
variable {A : Adr} {H H' H2 : Hp} {dk : Addr} {d d' : Drum.Desk} {x dr hp tr st jl hp' tr' : Addr} {hs ts hs' ts' : List Addr}
theorem DAt.mach (D : DAt A H dk d x dr hp tr st jl hs ts) (F' : MFull A.cMachine H' x d'.m dr hp' tr' hs' ts' d'.hopper d'.tray) (k1 : ∀ o, H dk = some o → H' dk = some o) (k2 : ∀ o, H st = some o → H' st = some o) (k3 : ∀ o, H jl = some o → H' jl = some o)
    (es : d'.stops = d.stops) (ej : d'.journal = d.journal) (n1 : jl ≠ hp') (n2 : jl ≠ tr') (nh : ∀ c ∈ hs', c ≠ jl) (nt : ∀ c ∈ ts', c ≠ jl) (hn : d'.hopper.length ≤ 64) (tn : d'.tray.length ≤ 64) : DAt A H' dk d' x dr hp' tr' st jl hs' ts' := by
  obtain ⟨dx, h1⟩ := D.obj
  exact ⟨⟨dx, k1 _ h1⟩, F', by rw [es]; exact k2 _ D.stp, by rw [ej]; exact k3 _ D.jnl, D.jdr, n1, n2, nh, nt, by rw [es]; exact D.sn, by rw [es]; exact D.sk, hn, tn, by rw [ej]; exact D.jn⟩
theorem DAt.put (D : DAt A H dk d x dr hp tr st jl hs ts) {a : Nat} {v : Int} (hw : Drum.isWord v = true) : DAt A (upd H dr (.lst ((d.m.drum.set a v).map V.int))) dk { d with m := d.m.put a v } x dr hp tr st jl hs ts := by
  have nd : dk ≠ dr ∧ st ≠ dr := by
    have := D.nl D.F.M.drum
    exact ⟨this.1.symm, this.2.2.symm⟩
  have G : GoodM (d.m.put a v) := by
    have g := D.F.G
    refine ⟨by show (d.m.drum.set a v).length = 2000; rw [List.length_set]; exact g.len, fun z hz => ?_, g.a, g.d, g.next, g.tick⟩
    rcases List.mem_or_eq_of_mem_set hz with q | q
    · exact g.words z q
    · rw [q]; exact hw
  refine D.mach (d' := { d with m := d.m.put a v }) (D.F.mk1 (m' := d.m.put a v) .updd (D.F.M.setd) G) (fun o e => by rw [upd_ne nd.1]; exact e) (fun o e => by rw [upd_ne nd.2]; exact e) (fun o e => by rw [upd_ne D.jdr]; exact e) rfl rfl D.jhp D.jtr D.jh D.jt D.hn D.tn
theorem DAt.note (D : DAt A H dk d x dr hp tr st jl hs ts) (e : Drum.Entry) (hl : d.journal.length + e.row.length ≤ 20000) : DAt A (upd H jl (.lst (d.journal.map V.int ++ e.row.map V.int))) dk { d with log := d.log ++ [e] } x dr hp tr st jl hs ts := by
  have q := D.setj (d' := { d with log := d.log ++ [e] }) rfl rfl rfl rfl (by rw [journal_snoc, List.length_append]; exact hl)
  rw [journal_snoc, List.map_append] at q
  exact q
theorem DAt.stops (D : DAt A H dk d x dr hp tr st jl hs ts) {s' : List Nat} (h1 : s'.length ≤ 64) (h2 : ∀ a ∈ s', a < 2000) : DAt A (upd H st (.dK (sv s'))) dk { d with stops := s' } x dr hp tr st jl hs ts := by
  obtain ⟨dx, h0⟩ := D.obj
  obtain ⟨dxm, hm⟩ := D.F.M.obj
  have nl : ∀ {b : Addr} {l : List V}, H b = some (.lst l) → b ≠ st := fun e => (D.nl e).2.2
  have F := D.F
  refine ⟨⟨dx, by rw [upd_ne D.sk'.1.symm]; exact h0⟩, ?_, upd_same, by rw [upd_ne (nl D.jnl)]; exact D.jnl, D.jdr, D.jhp, D.jtr, D.jh, D.jt, h1, h2, D.hn, D.tn, D.jn⟩
  refine ⟨⟨⟨dxm, by rw [upd_ne D.sk'.2.symm]; exact hm⟩, by rw [upd_ne (nl F.M.drum)]; exact F.M.drum⟩, F.G, by rw [upd_ne (nl F.hop)]; exact F.hop, by rw [upd_ne (nl F.tray)]; exact F.tray, ?_, ?_, F.ndh, F.ndt, F.nht, F.nh, F.nt, F.cw, F.tw⟩
  · refine F.hc.keep fun a ha o e => ?_
    obtain ⟨c, hc⟩ := cards_mem F.hc ha
    rw [upd_ne (nl hc)]; exact e
  · refine F.ht.keep fun a ha o e => ?_
    obtain ⟨c, hc⟩ := cards_mem F.ht ha
    rw [upd_ne (nl hc)]; exact e
theorem on_fin {c : DrumDeskSeed.Call} {Q : VK}
    (h : ∀ (H' : Hp) (D : Addr) (O' : List Addr), StAt A H' dk (some (DrumDeskSeed.on d c).1) O' → H' D = some (.lst ((DrumDeskSeed.on d c).2.map V.int)) → H D = none → (∀ b ∈ O', b ∈ [dk, x, dr, hp, tr, st, jl] ++ (hs ++ ts) ∨ H b = none) → FrO [dk, x, dr, hp, tr, st, jl] H H' → Q (.ref D) H')
    {ns : List Int} (e : DrumDeskSeed.on d c = (d', ns)) (D2 : DAt A H2 dk d' x dr hp tr st jl hs' ts') (f : FrO [dk, x, dr, hp, tr, st, jl] H H2) (g : ∀ b, H2 b = none → H b = none) (p : Addr) (hq : H2 p = none) (hc : ∀ c ∈ hs' ++ ts', c ∈ hs ++ ts ∨ H c = none := by exact fun c hc => .inl hc) : Q (.ref p) (upd H2 p (.lst (ns.map V.int))) := by
  rw [e] at h
  have s := same_upd (H := H2) (o := .lst (ns.map V.int)) hq
  refine h _ p _ ⟨_, _, _, _, _, _, _, _, D2.same s, rfl⟩ upd_same (g p hq) (fun b hb => ?_) (f.trans (.same s))
  rcases List.mem_append.mp hb with q | q
  · exact .inl (List.mem_append_left _ q)
  · exact (hc b q).imp (List.mem_append_right _) id
end
theorem eights_len {l : List Int} {k : Nat} (hl : l.length = 8 * k) : (Drum.eights (l.length + 1) l).length = k := by
  rw [eights_range (l.length + 1) k l hl (by omega), List.length_map, List.length_range]
theorem eights_ok {l : List Int} {k : Nat} (hl : l.length = 8 * k) (hw : ∀ v ∈ l, Drum.isWord v = true) : ∀ c ∈ Drum.eights (l.length + 1) l, c.length = 8 ∧ ∀ v ∈ c, Drum.isWord v = true := by
  rw [eights_range (l.length + 1) k l hl (by omega)]
  intro c hc
  obtain ⟨i, hi, rfl⟩ := List.mem_map.mp hc
  have hi' : i < k := by simpa using hi
  refine ⟨by rw [List.length_take, List.length_drop]; omega, fun v hv => hw v (List.mem_of_mem_drop (List.mem_of_mem_take hv))⟩
theorem MFull.more {C : Addr} {H : Hp} {x : Addr} {m : Machine} {dr hp tr : Addr} {hs ts as : List Addr} {cs tc cs' : List (List Int)} (F : MFull C H x m dr hp tr hs ts cs tc) (hc' : CardsAt H as cs') (nh : ∀ c ∈ as, c ≠ dr ∧ c ≠ hp ∧ c ≠ tr ∧ c ≠ x)
    (cw' : ∀ c ∈ cs', c.length = 8 ∧ ∀ v ∈ c, Drum.isWord v = true) : MFull C (upd H hp (.lst ((hs ++ as).map V.ref))) x m dr hp tr (hs ++ as) ts (cs ++ cs') tc := by
  obtain ⟨dx, hx⟩ := F.M.obj
  refine ⟨⟨⟨dx, by rw [upd_ne F.hx.symm]; exact hx⟩, by rw [upd_ne F.ndh.symm]; exact F.M.drum⟩, F.G, upd_same, by rw [upd_ne F.nht]; exact F.tray, ?_, ?_, F.ndh, F.ndt, F.nht, ?_, F.nt, ?_, F.tw⟩
  · exact CardsAt.app (F.hc.keep fun a ha o e => by rw [upd_ne (F.nh a ha).2.1]; exact e) (hc'.keep fun a ha o e => by rw [upd_ne (nh a ha).2.1]; exact e)
  · exact F.ht.keep fun a ha o e => by rw [upd_ne (F.nt a ha).2.1]; exact e
  · intro c hc
    rcases List.mem_append.mp hc with q | q
    · exact F.nh c q
    · exact nh c q
  · intro c hc
    rcases List.mem_append.mp hc with q | q
    · exact F.cw c q
    · exact cw' c q
theorem MFull.keepj {C : Addr} {H H' : Hp} {x : Addr} {m : Machine} {dr hp tr jl : Addr} {hs ts : List Addr} {cs tc : List (List Int)} {l : List V} (F : MFull C H x m dr hp tr hs ts cs tc) (hj : H jl = some (.lst l)) (k : ∀ b o, H b = some o → b ≠ jl → H' b = some o) (n1 : jl ≠ dr) (n2 : jl ≠ hp) (n3 : jl ≠ tr) (n4 : ∀ c ∈ hs, c ≠ jl) (n5 : ∀ c ∈ ts, c ≠ jl) : MFull C H' x m dr hp tr hs ts cs tc := by
  obtain ⟨dx, hx⟩ := F.M.obj
  have nx : x ≠ jl := ne_of hx hj (by intro q; cases q)
  exact ⟨⟨⟨dx, k _ _ hx nx⟩, k _ _ F.M.drum n1.symm⟩, F.G, k _ _ F.hop n2.symm, k _ _ F.tray n3.symm, F.hc.keep fun a ha o e => k _ _ e (n4 a ha), F.ht.keep fun a ha o e => k _ _ e (n5 a ha), F.ndh, F.ndt, F.nht, F.nh, F.nt, F.cw, F.tw⟩
theorem DAt.notek {A : Adr} {H H' : Hp} {dk : Addr} {d : Drum.Desk} {x dr hp tr st jl : Addr} {hs ts : List Addr} (D : DAt A H dk d x dr hp tr st jl hs ts) (e : Drum.Entry) (k : ∀ b o, H b = some o → b ≠ jl → H' b = some o) (hj : H' jl = some (.lst ((d.journal ++ e.row).map V.int))) (hl : d.journal.length + e.row.length ≤ 20000) : DAt A H' dk { d with log := d.log ++ [e] } x dr hp tr st jl hs ts := by
  obtain ⟨dx, h1⟩ := D.obj
  obtain ⟨n1, n2, n3⟩ := D.nl D.jnl
  have ej := journal_snoc d e
  exact ⟨⟨dx, k _ _ h1 n1.symm⟩, D.F.keepj D.jnl k D.jdr D.jhp D.jtr D.jh D.jt, k _ _ D.stp n3.symm, by rw [ej]; exact hj, D.jdr, D.jhp, D.jtr, D.jh, D.jt, D.sn, D.sk, D.hn, D.tn, by rw [ej, List.length_append]; exact hl⟩
theorem RunAt.same {A : Adr} {H H' : Hp} {r x st hb : Addr} {stops : List Nat} {b tb : Nat} {hs0 : List Addr} {cs0 : List (List Int)} (R : RunAt A H r x st hb stops b tb hs0 cs0) (s : Same H H') : RunAt A H' r x st hb stops b tb hs0 cs0 := by
  obtain ⟨⟨dx, ho⟩, h1, h2, h3⟩ := R
  exact ⟨⟨dx, s _ _ ho⟩, s _ _ h1, s _ _ h2, h3.keep fun c _ o e => s c o e⟩
theorem RunAt.keepj {A : Adr} {H H' : Hp} {r x st hb jl : Addr} {stops : List Nat} {b tb : Nat} {hs0 : List Addr} {cs0 : List (List Int)} {l : List V} (R : RunAt A H r x st hb stops b tb hs0 cs0) (hj : H jl = some (.lst l)) (k : ∀ b o, H b = some o → b ≠ jl → H' b = some o) (n1 : hb ≠ jl) (n2 : ∀ c ∈ hs0, c ≠ jl) : RunAt A H' r x st hb stops b tb hs0 cs0 := by
  obtain ⟨⟨dx, ho⟩, h1, h2, h3⟩ := R
  exact ⟨⟨dx, k _ _ ho (ne_of ho hj (by intro q; cases q))⟩, k _ _ h1 (ne_of h1 hj (by intro q; cases q)), k _ _ h2 n1, h3.keep fun c hc o e => k c o e (n2 c hc)⟩
end Dd

namespace Dd
open PySem PySem.Spec PyProof.Rows L2
open Drum (Machine)
section
variable {C : Addr} {H : Hp} {x dx : Addr} {m : Machine} {dr hp tr hp' tr' : Addr} {hs ts as : List Addr} {cs tc cs' : List (List Int)}
theorem cards_ne {a b dxb C' : Addr} {fs : List (Str × V)} (h : CardsAt H as cs) (ha : a ∈ as) (hb : H b = some (.ins C' dxb fs)) : a ≠ b := by
  obtain ⟨c, hc⟩ := cards_mem h ha
  exact ne_of hc hb (by intro q; cases q)
theorem MFull.hopper (F : MFull C H x m dr hp tr hs ts cs tc) (h' : H hp' = some (.lst (as.map V.ref))) (hc' : CardsAt H as cs') (n1 : hp' ≠ dr) (n2 : tr ≠ hp') (nh : ∀ c ∈ as, c ≠ dr ∧ c ≠ hp' ∧ c ≠ tr ∧ c ≠ x) (nt : ∀ c ∈ ts, c ≠ hp')
    (cw' : ∀ c ∈ cs', c.length = 8 ∧ ∀ v ∈ c, Drum.isWord v = true) : MFull C (upd H x (.ins C dx (mf m dr hp' tr))) x m dr hp' tr as ts cs' tc := by
  obtain ⟨dx', hx⟩ := F.M.obj
  have nl : ∀ {b : Addr} {l : List V}, H b = some (.lst l) → b ≠ x := fun e => ne_of e hx (by intro q; cases q)
  refine ⟨⟨⟨dx, upd_same⟩, by rw [upd_ne (nl F.M.drum)]; exact F.M.drum⟩, F.G, by rw [upd_ne (nl h')]; exact h', by rw [upd_ne (nl F.tray)]; exact F.tray, ?_, ?_, n1, F.ndt, n2, nh, fun c hc => ⟨(F.nt c hc).1, nt c hc, (F.nt c hc).2.2.1, (F.nt c hc).2.2.2⟩, cw', F.tw⟩
  · exact hc'.keep fun a ha o e => by rw [upd_ne (cards_ne hc' ha hx)]; exact e
  · exact F.ht.keep fun a ha o e => by rw [upd_ne (cards_ne F.ht ha hx)]; exact e
theorem MFull.newtray (F : MFull C H x m dr hp tr hs ts cs tc) (h' : H tr' = some (.lst [])) (n1 : tr' ≠ dr) (n2 : tr' ≠ hp) (nh : ∀ c ∈ hs, c ≠ tr') : MFull C (upd H x (.ins C dx (mf m dr hp tr'))) x m dr hp tr' hs [] cs [] := by
  obtain ⟨dx', hx⟩ := F.M.obj
  have nl : ∀ {b : Addr} {l : List V}, H b = some (.lst l) → b ≠ x := fun e => ne_of e hx (by intro q; cases q)
  refine ⟨⟨⟨dx, upd_same⟩, by rw [upd_ne (nl F.M.drum)]; exact F.M.drum⟩, F.G, by rw [upd_ne (nl F.hop)]; exact F.hop, by rw [upd_ne (nl h')]; exact h', ?_, .nil, F.ndh, n1, n2, fun c hc => ⟨(F.nh c hc).1, (F.nh c hc).2.1, nh c hc, (F.nh c hc).2.2.2⟩, fun c hc => by simp at hc, F.cw, fun c hc => by simp at hc⟩
  exact F.hc.keep fun a ha o e => by rw [upd_ne (cards_ne F.hc ha hx)]; exact e
end
theorem foldl_words : ∀ (ps : List (Nat × Int)) (l : List Int), (∀ q ∈ ps, Drum.isWord q.2 = true) → (∀ v ∈ l, Drum.isWord v = true) → ∀ v ∈ ps.foldl (fun (d : List Int) (u : Nat × Int) => d.set u.1 u.2) l, Drum.isWord v = true
  | [], l, _, h => h
  | q :: r, l, hp, h => by
    rw [List.foldl_cons]
    refine foldl_words r _ (fun z hz => hp z (List.mem_cons_of_mem _ hz)) fun v hv => ?_
    rcases List.mem_or_eq_of_mem_set hv with e | e
    · exact h v e
    · rw [e]; exact hp q (List.mem_cons_self)
theorem good_mkM {st ov n t a d : Int} {l : List Int} {ps : List (Nat × Int)} (hok : partsOk st ov n t a d = true) (hn : Drum.noted l 0 = some ps) : GoodM (mkM st ov n t a d ps) := by
  obtain ⟨hw, _⟩ := noted_map l 0 ps hn (by decide)
  unfold partsOk at hok
  simp only [Bool.and_eq_true, within_iff] at hok
  obtain ⟨⟨s1, s2⟩, ⟨o1, o2⟩, ⟨n1, n2⟩, ⟨t1, t2⟩, ha, hd⟩ := hok
  refine ⟨drumOf_len ps, foldl_words ps _ (fun q hq => (hw q hq).2) (fun v hv => ?_), ha, hd, ?_, ?_⟩
  · rw [(List.mem_replicate.mp hv).2]; decide
  · show n.toNat < 2000
    have : (Drum.WORDS : Int) = 2000 := rfl
    omega
  · show t.toNat < Drum.WRAP
    omega
theorem StAt.obj {A : Adr} {H : Hp} {dk : Addr} {s : Option Drum.Desk} {O : List Addr} (S : StAt A H dk s O) : dk ∈ O ∧ ∃ dx mv st jl, H dk = some (.ins A.cDesk dx (df mv st jl)) := by
  cases s with
  | none =>
    obtain ⟨⟨dx, st, jl, h⟩, rfl⟩ := S
    exact ⟨by simp, dx, _, st, jl, h⟩
  | some d =>
    obtain ⟨x, dr, hp, tr, st, jl, hs, ts, D, rfl⟩ := S
    obtain ⟨dx, h⟩ := D.obj
    exact ⟨by simp, dx, _, st, jl, h⟩
theorem StAt.same {A : Adr} {H H' : Hp} {dk : Addr} {s : Option Drum.Desk} {O : List Addr} (S : StAt A H dk s O) (e : Same H H') : StAt A H' dk s O := by
  cases s with
  | none =>
    obtain ⟨⟨dx, st, jl, h⟩, rfl⟩ := S
    exact ⟨⟨dx, st, jl, e _ _ h⟩, rfl⟩
  | some d =>
    obtain ⟨x, dr, hp, tr, st, jl, hs, ts, D, rfl⟩ := S
    exact ⟨x, dr, hp, tr, st, jl, hs, ts, D.same e, rfl⟩
def spTop (A : Adr) (ps : List V → DrumDeskSeed.Call → Hp → Prop) : Sp := fun vs H Q _ => ∃ (dk : Addr) (s : Option Drum.Desk) (O : List Addr) (args : List V) (c : DrumDeskSeed.Call), vs = .ref dk :: args ∧ StAt A H dk s O ∧ ps args c H ∧
  ∀ (H' : Hp) (D : Addr) (O' : List Addr), StAt A H' dk (DrumDeskSeed.step ⟨s⟩ c).1.has O' → H' D = some (.lst ((DrumDeskSeed.step ⟨s⟩ c).2.map V.int)) → H D = none → (∀ b ∈ O', b ∈ O ∨ H b = none) → FrO O H H' → Q (.ref D) H'
theorem top_same {A : Adr} {H H2 : Hp} {dk : Addr} {s : Option Drum.Desk} {O : List Addr} {c : DrumDeskSeed.Call} {Q : VK} (S : StAt A H dk s O)
    (h : ∀ (H' : Hp) (D : Addr) (O' : List Addr), StAt A H' dk (DrumDeskSeed.step ⟨s⟩ c).1.has O' → H' D = some (.lst ((DrumDeskSeed.step ⟨s⟩ c).2.map V.int)) → H D = none → (∀ b ∈ O', b ∈ O ∨ H b = none) → FrO O H H' → Q (.ref D) H')
    {ns : List Int} (e : DrumDeskSeed.step ⟨s⟩ c = (⟨s⟩, ns)) (s2 : Same H H2) (p : Addr) (hq : H2 p = none) : Q (.ref p) (upd H2 p (.lst (ns.map V.int))) := by
  rw [e] at h
  have s3 := s2.trans (same_upd (H := H2) (o := .lst (ns.map V.int)) hq)
  exact h _ p _ (S.same s3) upd_same (s2.free hq) (fun b hb => .inl hb) (.same s3)
def ps_load : List V → DrumDeskSeed.Call → Hp → Prop := fun args c H => ∃ (pp pl : Addr) (st ov n t a d : Int) (l : List Int), args = [.ref pp, .ref pl] ∧ c = .load st ov n t a d l ∧ H pp = some (.lst [.int st, .int ov, .int n, .int t, .int a, .int d]) ∧ H pl = some (.lst (l.map V.int)) ∧ l.length ≤ 100000
theorem load_bad {s : DrumDeskSeed.State} {st ov n t a d : Int} {l : List Int} (h : partsOk st ov n t a d = false) : DrumDeskSeed.step s (.load st ov n t a d l) = (s, [-1]) := by
  show (match Drum.machineOf st ov n t a d l with | none => _ | some none => _ | some (some m) => _) = _
  rw [machineOf_eq, h]; rfl
theorem load_form {s : DrumDeskSeed.State} {st ov n t a d : Int} {l : List Int} (h : partsOk st ov n t a d = true) (h2 : (Drum.noted l 0).isSome = false) : DrumDeskSeed.step s (.load st ov n t a d l) = (s, [-6]) := by
  have e : Drum.noted l 0 = none := by
    cases q : Drum.noted l 0 with
    | none => rfl
    | some z => rw [q] at h2; cases h2
  show (match Drum.machineOf st ov n t a d l with | none => _ | some none => _ | some (some m) => _) = _
  rw [machineOf_eq, h, e]; rfl
theorem load_ok {s : DrumDeskSeed.State} {st ov n t a d : Int} {l : List Int} {ps : List (Nat × Int)} (h : partsOk st ov n t a d = true) (h2 : Drum.noted l 0 = some ps) : DrumDeskSeed.step s (.load st ov n t a d l) = (⟨some (Drum.loadedDesk (mkM st ov n t a d ps))⟩, [0]) := by
  show (match Drum.machineOf st ov n t a d l with | none => _ | some none => _ | some (some m) => _) = _
  rw [machineOf_eq, h, h2]; rfl
theorem loaded_journal {st ov n t a d : Int} {l : List Int} {ps : List (Nat × Int)} (h : partsOk st ov n t a d = true) (h2 : Drum.noted l 0 = some ps) : (Drum.loadedDesk (mkM st ov n t a d ps)).journal = [st, ov, n, t, a, d, (l.length : Int)] ++ l := by
  unfold Drum.Desk.journal
  show (mkM st ov n t a d ps).row ++ [] = _
  rw [List.append_nil, mkM_row h h2]
end Dd

namespace Dd
open PySem PySem.Spec PyProof.Rows L2
open Drum (Machine)
def ps_put : List V → DrumDeskSeed.Call → Hp → Prop := fun args c _ => ∃ a v, args = [.int a, .int v] ∧ c = .put a v
theorem ok_put {P : Program} {w : World} {K : PySem.W.Frag} {mg : Str → Option Value} {A : Adr} {base : Heap} (T : Txt P w K mg A) : Callee P w K mg base 2 "put" ["desk", "address", "word"] (spOn A ps_put) := by
  have G_is_word := ok_is_word (P := P) (w := w) (base := base) T
  have G_is_address := ok_is_address (P := P) (w := w) (base := base) T
  have G_has_room := ok_has_room (P := P) (w := w) (base := base) T
  have SC := sc_put
  refine T.f_put.ok (k := 1) sc_put (fun vs H Q E h => ?_) (fun f cdv Ar outer s H vs Q E hr h => ?_)
  · obtain ⟨dk, d, x, dr, hp, tr, st, jl, hs, ts, args, c, rfl, D, ⟨a, v, rfl, rfl⟩, _⟩ := h; rfl
  · obtain ⟨dk, d, x, dr, hp, tr, st, jl, hs, ts, args, c, rfl, D, ⟨a, v, rfl, rfl⟩, h⟩ := h
    obtain ⟨dx, hx⟩ := D.obj
    obtain ⟨dxm, hm⟩ := D.F.M.obj
    have hd := D.F.M.drum
    have hj := D.jnl
    refine ⟨_, (pss_cons (ps_if (PW.pt (pw_or (pt_not (pt_val (pe_callC G_is_address hr (by decide) (pa_cons (pv 1) pa_nil)))) (pw_or1 (pt_not (pt_val (pe_callC G_is_word hr (by decide) (pa_cons (pv 2) pa_nil))))))) (pss_one (ps_ret (pe_lst (pa_cons (pe_gint T.c_WRONG) pa_nil)))) pss_nil) (pss_cons (ps_if (pt_not (pt_val (pe_callC G_has_room hr (by decide) (pa_cons (pv 0) (pa_cons pe_int pa_nil))))) (pss_one (ps_ret (pe_lst (pa_cons (pe_gint T.c_JOURNAL_FULL) pa_nil)))) pss_nil) (pss_cons (ps_asg (pv 2) (pg_sub (pe_fld (pe_fld (pv 0) rfl) rfl) (pv 1) set_list)) (pss_cons (ps_expr (pe_bmL PySem.F.slot_list_extend PySem.F.type_list_extend mt_extend (pe_fld (pv 0) rfl) (pa_cons (pe_lst (pa_cons (pe_gint T.c_PUT_ENTRY) (pa_cons (pv 1) (pa_cons (pv 2) pa_nil)))) pa_nil))) (pss_one (ps_ret (pe_lst (pa_cons pe_int pa_nil)))))))), ?_⟩
    simp_arith [T.k_Machine.cl, na_Machine_state T, na_Machine_over T, na_Machine_order_at T, na_Machine_tick T, na_Machine_a T, na_Machine_d T, na_Machine_drum T, na_Machine_hopper T, na_Machine_tray T, T.k_Run.cl, na_Run_machine T, na_Run_stops T, na_Run_begun T, na_Run_hopper_before T, na_Run_tray_before T, T.k_Desk.cl, na_Desk_machine T, na_Desk_stops T, na_Desk_journal T, mf_state, mf_over, mf_order_at, mf_tick, mf_a, mf_d, mf_drum, mf_hopper, mf_tray, mp_state, mp_over, mp_over1, mp_over0, mp_order_at, mp_tick, mp_a, mp_d, mp_hopper, mp_tray, mf_len, df_machine, df_stops, df_journal, dp_machine, dp_stops, dp_journal, df_len, hx, hm, hd, sp1]
    cases ca : Drum.within a Drum.WORDS with
    | false =>
      refine nF ?_
      exact ⟨by decide, fun p hq => on_same D h (on_put_bad (by rw [ca]; rfl)) p hq⟩
    | true =>
      refine nT ?_
      cases cv : Drum.isWord v with
      | false =>
        refine nF ?_
        exact ⟨by decide, fun p hq => on_same D h (on_put_bad (by rw [ca, cv]; rfl)) p hq⟩
      | true =>
        refine nT ?_
        have cc : (Drum.within a Drum.WORDS && Drum.isWord v) = true := by rw [ca, cv]; rfl
        refine ⟨dk, d, x, dr, hp, tr, st, jl, hs, ts, 3, rfl, D, _, rfl, ?_⟩
        cases cl : DrumDeskSeed.long d 3 with
        | true =>
          refine nF ?_
          exact ⟨by decide, fun p hq => on_same D h (on_put_long cc cl) p hq⟩
        | false =>
          refine nT ?_
          obtain ⟨n, rfl⟩ : ∃ n : Nat, a = (n : Int) := ⟨a.toNat, by have := (within_iff _ _).mp ca; omega⟩
          have hn : n < 2000 := by
            have := (within_iff _ _).mp ca
            have e2 : (Drum.WORDS : Int) = 2000 := rfl
            omega
          have eo := on_put_ok cc cl
          rw [Int.toNat_natCast] at eo
          have ia : ixN (d.m.drum.map V.int).length (n : Int) = some n := by rw [List.length_map, D.F.G.len]; exact ixN_nat hn
          have ndk : dk ≠ dr := (D.nl hd).1.symm
          simp_arith [T.k_Machine.cl, na_Machine_state T, na_Machine_over T, na_Machine_order_at T, na_Machine_tick T, na_Machine_a T, na_Machine_d T, na_Machine_drum T, na_Machine_hopper T, na_Machine_tray T, T.k_Run.cl, na_Run_machine T, na_Run_stops T, na_Run_begun T, na_Run_hopper_before T, na_Run_tray_before T, T.k_Desk.cl, na_Desk_machine T, na_Desk_stops T, na_Desk_journal T, mf_state, mf_over, mf_order_at, mf_tick, mf_a, mf_d, mf_drum, mf_hopper, mf_tray, mp_state, mp_over, mp_over1, mp_over0, mp_order_at, mp_tick, mp_a, mp_d, mp_hopper, mp_tray, mf_len, df_machine, df_stops, df_journal, dp_machine, dp_stops, dp_journal, df_len, hx, hm, hd, hj, ia, upd_ne ndk, upd_ne D.jdr, map_set_int]
          refine ⟨⟨_, rfl⟩, by decide, fun p hq => ?_⟩
          have D2 := (D.put (a := n) cv).same (same_upd (o := .lst [V.int 1, V.int (n : Int), V.int v]) hq)
          have hsz : sizeLine = 16777216 := by decide
          have lj : d.journal.length + 3 ≤ 20000 := by
            unfold DrumDeskSeed.long DrumDeskSeed.LONGEST at cl
            have := of_decide_eq_false cl
            omega
          refine ⟨_, D2.jnl, by rw [List.length_map]; show d.journal.length + _ ≤ _; omega, by decide, fun q hq2 => ?_⟩
          have D3 := D2.note (.put n v) lj
          refine on_fin h eo D3 (((FrO.upd (by simp)).trans (.same (same_upd hq))).trans (FrO.upd (by simp))) (fun b hb => (upd_none (upd_none (upd_none hb).2).2).2) q hq2
end Dd

namespace Dd
open PySem PySem.Spec PyProof.Rows L2
open Drum (Machine)
def ps_stop : List V → DrumDeskSeed.Call → Hp → Prop := fun args c _ => ∃ a v, args = [.int a, .int v] ∧ c = .halt_ a v
theorem ok_stop {P : Program} {w : World} {K : PySem.W.Frag} {mg : Str → Option Value} {A : Adr} {base : Heap} (T : Txt P w K mg A) : Callee P w K mg base 2 "stop" ["desk", "address", "on"] (spOn A ps_stop) := by
  have G_is_address := ok_is_address (P := P) (w := w) (base := base) T
  have G_has_room := ok_has_room (P := P) (w := w) (base := base) T
  have SC := sc_stop
  refine T.f_stop.ok (k := 1) sc_stop (fun vs H Q E h => ?_) (fun f cdv Ar outer s H vs Q E hr h => ?_)
  · obtain ⟨dk, d, x, dr, hp, tr, st, jl, hs, ts, args, c, rfl, D, ⟨a, v, rfl, rfl⟩, _⟩ := h; rfl
  · obtain ⟨dk, d, x, dr, hp, tr, st, jl, hs, ts, args, c, rfl, D, ⟨a, v, rfl, rfl⟩, h⟩ := h
    obtain ⟨dx, hx⟩ := D.obj
    have hst := D.stp
    have hj := D.jnl
    have hu := hu_of hr
    refine ⟨_, (pss_cons (ps_if (PW.pt (pw_or (pt_not (pt_val (pe_callC G_is_address hr (by decide) (pa_cons (pv 1) pa_nil)))) (pw_or1 (pt_not (pt_chain op_le op_le pe_int (pv 2) pe_int))))) (pss_one (ps_ret (pe_lst (pa_cons (pe_gint T.c_WRONG) pa_nil)))) pss_nil) (pss_cons (ps_if (pt_cmpR op_eq (pe_cmp (pc_din hu (pv 1) (pe_fld (pv 0) rfl))) (pe_cmpR op_eq (pv 2) pe_int (nomark _)) (nomark _)) (pss_one (ps_ret (pe_lst (pa_cons pe_int (pa_cons pe_int pa_nil))))) pss_nil) (pss_cons (ps_if (PW.pt (pw_and (pt_cmpR op_eq (pv 2) pe_int (nomark _)) (pw_and1 (pt_cmpR op_ge (pe_callB call_lenD (by rfl) T.b_len bt_len (pa_cons (pe_fld (pv 0) rfl) pa_nil)) (pe_gint T.c_STOPS_MOST) (nomark _))))) (pss_one (ps_ret (pe_lst (pa_cons (pe_gint T.c_TOO_MANY) pa_nil)))) pss_nil) (pss_cons (ps_if (pt_not (pt_val (pe_callC G_has_room hr (by decide) (pa_cons (pv 0) (pa_cons pe_int pa_nil))))) (pss_one (ps_ret (pe_lst (pa_cons (pe_gint T.c_JOURNAL_FULL) pa_nil)))) pss_nil) (pss_cons (ps_if (pt_cmpR op_eq (pv 2) pe_int (nomark _)) (pss_one (ps_dput hu (pe_fld (pv 0) rfl) (pv 1) pe_bl rfl)) (pss_one (ps_expr (pe_dpop1 (pe_fld (pv 0) rfl) (pv 1) ⟨rfl, rfl, rfl, rfl⟩)))) (pss_cons (ps_expr (pe_bmL PySem.F.slot_list_extend PySem.F.type_list_extend mt_extend (pe_fld (pv 0) rfl) (pa_cons (pe_lst (pa_cons (pe_gint T.c_STOP_ENTRY) (pa_cons (pv 1) (pa_cons (pv 2) pa_nil)))) pa_nil))) (pss_one (ps_ret (pe_lst (pa_cons pe_int (pa_cons pe_int pa_nil))))))))))), ?_⟩
    simp_arith [T.k_Machine.cl, na_Machine_state T, na_Machine_over T, na_Machine_order_at T, na_Machine_tick T, na_Machine_a T, na_Machine_d T, na_Machine_drum T, na_Machine_hopper T, na_Machine_tray T, T.k_Run.cl, na_Run_machine T, na_Run_stops T, na_Run_begun T, na_Run_hopper_before T, na_Run_tray_before T, T.k_Desk.cl, na_Desk_machine T, na_Desk_stops T, na_Desk_journal T, mf_state, mf_over, mf_order_at, mf_tick, mf_a, mf_d, mf_drum, mf_hopper, mf_tray, mp_state, mp_over, mp_over1, mp_over0, mp_order_at, mp_tick, mp_a, mp_d, mp_hopper, mp_tray, mf_len, df_machine, df_stops, df_journal, dp_machine, dp_stops, dp_journal, df_len, hx, hst, sp1]
    cases ca : Drum.within a Drum.WORDS with
    | false =>
      refine nF ?_
      exact ⟨by decide, fun p hq => on_same D h (on_halt_bad (by rw [ca]; rfl)) p hq⟩
    | true =>
      refine nT ?_
      by_cases cv : 0 ≤ v ∧ v ≤ 1
      · have cc : (Drum.within a Drum.WORDS && Drum.within v 2) = true := by rw [ca, Bool.true_and, within_iff]; omega
        rw [if_pos (decide_eq_true cv.1), decide_eq_true cv.2]
        refine nT ?_
        obtain ⟨n, rfl⟩ : ∃ n : Nat, a = (n : Int) := ⟨a.toNat, by have := (within_iff _ _).mp ca; omega⟩
        have hn : n < 2000 := by
          have := (within_iff _ _).mp ca
          have e2 : (Drum.WORDS : Int) = 2000 := rfl
          omega
        have hg : DGet H st (V.int n) (valV (sv d.stops) (Sum.inl (n : Int))) := DGet.k (k := Sum.inl (n : Int)) hst
        have hsz : sizeLine = 16777216 := by decide
        have nks : dk ≠ st := D.sk'.1.symm
        have njs : jl ≠ st := (D.nl hj).2.2
        simp_arith [T.k_Machine.cl, na_Machine_state T, na_Machine_over T, na_Machine_order_at T, na_Machine_tick T, na_Machine_a T, na_Machine_d T, na_Machine_drum T, na_Machine_hopper T, na_Machine_tray T, T.k_Run.cl, na_Run_machine T, na_Run_stops T, na_Run_begun T, na_Run_hopper_before T, na_Run_tray_before T, T.k_Desk.cl, na_Desk_machine T, na_Desk_stops T, na_Desk_journal T, df_machine, df_stops, df_journal, dp_machine, dp_stops, dp_journal, df_len, tDIn, hx, hst]
        refine ⟨_, hg, ?_⟩
        rw [sv_in]
        by_cases c2 : d.stops.contains n = (v == 1)
        · rw [if_pos (decide_eq_true (show d.stops.contains n = decide (v = 1) from c2))]
          exact ⟨by decide, fun p hq => on_same D h (on_halt_same cc (by rw [Int.toNat_natCast]; exact c2)) p hq⟩
        · rw [if_neg (by rw [decide_eq_true_iff]; exact c2)]
          have c2' : ¬ d.stops.contains (n : Int).toNat = (v == 1) := by rw [Int.toNat_natCast]; exact c2
          have lj : DrumDeskSeed.long d 3 = false → d.journal.length + 3 ≤ 20000 := fun cl => by
            unfold DrumDeskSeed.long DrumDeskSeed.LONGEST at cl
            have := of_decide_eq_false cl
            omega
          rcases (by omega : v = 0 ∨ v = 1) with rfl | rfl
          · rw [if_neg (by decide)]
            have cont : d.stops.contains n = true := by
              cases q : d.stops.contains n with
              | true => rfl
              | false => exact absurd q c2
            refine ⟨dk, d, x, dr, hp, tr, st, jl, hs, ts, 3, rfl, D, _, rfl, ?_⟩
            cases cl : DrumDeskSeed.long d 3 with
            | true =>
              refine nF ?_
              exact ⟨by decide, fun p hq => on_same D h (on_halt_long cc c2' (by omega) cl) p hq⟩
            | false =>
              refine nT ?_
              rw [if_neg (by decide)]
              obtain ⟨v', hv'⟩ := Option.isSome_iff_exists.mp ((sv_in d.stops n).trans cont)
              have eo : DrumDeskSeed.on d (.halt_ (n : Int) 0) = ({ d with stops := d.stops.filter (fun x => x != n), log := d.log ++ [.halt_ n false] }, [0, 1]) := by
                have := on_halt_ok cc c2' (by omega) cl
                rw [Int.toNat_natCast] at this
                exact this
              simp_arith [T.k_Machine.cl, na_Machine_state T, na_Machine_over T, na_Machine_order_at T, na_Machine_tick T, na_Machine_a T, na_Machine_d T, na_Machine_drum T, na_Machine_hopper T, na_Machine_tray T, T.k_Run.cl, na_Run_machine T, na_Run_stops T, na_Run_begun T, na_Run_hopper_before T, na_Run_tray_before T, T.k_Desk.cl, na_Desk_machine T, na_Desk_stops T, na_Desk_journal T, df_machine, df_stops, df_journal, dp_machine, dp_stops, dp_journal, df_len, tDPop1, hx, hst]
              refine ⟨.inl ⟨_, .inl hst⟩, _, rfl, Sum.inl (n : Int), rfl, ⟨v', hv'⟩, ?_⟩
              rw [sv_drop]
              simp_arith [T.k_Machine.cl, na_Machine_state T, na_Machine_over T, na_Machine_order_at T, na_Machine_tick T, na_Machine_a T, na_Machine_d T, na_Machine_drum T, na_Machine_hopper T, na_Machine_tray T, T.k_Run.cl, na_Run_machine T, na_Run_stops T, na_Run_begun T, na_Run_hopper_before T, na_Run_tray_before T, T.k_Desk.cl, na_Desk_machine T, na_Desk_stops T, na_Desk_journal T, df_machine, df_stops, df_journal, dp_machine, dp_stops, dp_journal, df_len, upd_ne nks, upd_ne njs, hx, hj]
              refine ⟨⟨_, rfl⟩, by decide, fun p hq => ?_⟩
              have D1 := D.stops (s' := d.stops.filter (fun x => x != n)) (Nat.le_trans (List.length_filter_le _ _) D.sn) (fun a ha => D.sk a (List.mem_filter.mp ha).1)
              have D2 := D1.same (same_upd (o := .lst [V.int 2, V.int (n : Int), V.int 0]) hq)
              refine ⟨_, D2.jnl, by rw [List.length_map]; show d.journal.length + _ ≤ _; have := lj cl; omega, by decide, fun q hq2 => ?_⟩
              have D3 := D2.note (.halt_ n false) (lj cl)
              refine on_fin h eo D3 (((FrO.upd (by simp)).trans (.same (same_upd hq))).trans (FrO.upd (by simp))) (fun b hb => (upd_none (upd_none (upd_none hb).2).2).2) q hq2
          · rw [if_pos (by decide)]
            have cont : d.stops.contains n = false := by
              cases q : d.stops.contains n with
              | false => rfl
              | true => exact absurd q c2
            refine ⟨_, rfl, ?_⟩
            by_cases c3 : 64 ≤ d.stops.length
            · rw [if_pos (decide_eq_true (by rw [sv_len]; omega))]
              exact ⟨by decide, fun p hq => on_same D h (on_halt_many cc c2' ⟨rfl, c3⟩) p hq⟩
            · rw [if_neg (by rw [decide_eq_true_iff, sv_len]; omega)]
              have c3' : ¬ ((1 : Int) = 1 ∧ Drum.STOPS ≤ d.stops.length) := fun q => c3 q.2
              refine ⟨dk, d, x, dr, hp, tr, st, jl, hs, ts, 3, rfl, D, _, rfl, ?_⟩
              cases cl : DrumDeskSeed.long d 3 with
              | true =>
                refine nF ?_
                exact ⟨by decide, fun p hq => on_same D h (on_halt_long cc c2' c3' cl) p hq⟩
              | false =>
                refine nT ?_
                rw [if_pos (by decide)]
                have eo : DrumDeskSeed.on d (.halt_ (n : Int) 1) = ({ d with stops := d.stops ++ [n], log := d.log ++ [.halt_ n true] }, [0, 1]) := by
                  have := on_halt_ok cc c2' c3' cl
                  rw [Int.toNat_natCast] at this
                  exact this
                simp_arith [T.k_Machine.cl, na_Machine_state T, na_Machine_over T, na_Machine_order_at T, na_Machine_tick T, na_Machine_a T, na_Machine_d T, na_Machine_drum T, na_Machine_hopper T, na_Machine_tray T, T.k_Run.cl, na_Run_machine T, na_Run_stops T, na_Run_begun T, na_Run_hopper_before T, na_Run_tray_before T, T.k_Desk.cl, na_Desk_machine T, na_Desk_stops T, na_Desk_journal T, df_machine, df_stops, df_journal, dp_machine, dp_stops, dp_journal, df_len, sDPut, hx, hst]
                refine ⟨_, DPut.k (k := Sum.inl (n : Int)) hst (by rw [sv_len]; omega), ?_⟩
                rw [sv_put cont]
                simp_arith [T.k_Machine.cl, na_Machine_state T, na_Machine_over T, na_Machine_order_at T, na_Machine_tick T, na_Machine_a T, na_Machine_d T, na_Machine_drum T, na_Machine_hopper T, na_Machine_tray T, T.k_Run.cl, na_Run_machine T, na_Run_stops T, na_Run_begun T, na_Run_hopper_before T, na_Run_tray_before T, T.k_Desk.cl, na_Desk_machine T, na_Desk_stops T, na_Desk_journal T, df_machine, df_stops, df_journal, dp_machine, dp_stops, dp_journal, df_len, upd_ne nks, upd_ne njs, hx, hj]
                refine ⟨⟨_, rfl⟩, by decide, fun p hq => ?_⟩
                have D1 := D.stops (s' := d.stops ++ [n]) (by rw [List.length_append]; show _ + 1 ≤ 64; omega) (fun a ha => by
                  rcases List.mem_append.mp ha with q | q
                  · exact D.sk a q
                  · have : a = n := by simpa using q
                    omega)
                have D2 := D1.same (same_upd (o := .lst [V.int 2, V.int (n : Int), V.int 1]) hq)
                refine ⟨_, D2.jnl, by rw [List.length_map]; show d.journal.length + _ ≤ _; have := lj cl; omega, by decide, fun q hq2 => ?_⟩
                have D3 := D2.note (.halt_ n true) (lj cl)
                refine on_fin h eo D3 (((FrO.upd (by simp)).trans (.same (same_upd hq))).trans (FrO.upd (by simp))) (fun b hb => (upd_none (upd_none (upd_none hb).2).2).2) q hq2
      · have cc : (Drum.within a Drum.WORDS && Drum.within v 2) = false := by
          cases q : (Drum.within a Drum.WORDS && Drum.within v 2) with
          | false => rfl
          | true => rw [Bool.and_eq_true, within_iff, within_iff] at q; exact absurd ⟨q.2.1, by omega⟩ cv
        have fin : 0 + 1 ≤ sizeLine ∧ ∀ (p : Addr), H p = none → Q (V.ref p) (upd H p (HO.lst [V.int (-1)])) := ⟨by decide, fun p hq => on_same D h (on_halt_bad cc) p hq⟩
        by_cases c0 : 0 ≤ v
        · rw [if_pos (decide_eq_true c0), decide_eq_false (fun q => cv ⟨c0, q⟩)]
          exact nF fin
        · rw [if_neg (by rw [decide_eq_true_iff]; exact c0)]
          exact fin
end Dd

namespace Dd
open PySem PySem.Spec PyProof.Rows L2
open Drum (Machine)
def ps_told : List V → DrumDeskSeed.Call → Hp → Prop := fun args c _ => args = [] ∧ c = .told
theorem ok_told {P : Program} {w : World} {K : PySem.W.Frag} {mg : Str → Option Value} {A : Adr} {base : Heap} (T : Txt P w K mg A) : Callee P w K mg base 1 "told" ["desk"] (spOn A ps_told) := by
  have SC := sc_told
  refine T.f_told.ok (k := 0) sc_told (fun vs H Q E h => ?_) (fun f cdv Ar outer s H vs Q E hr h => ?_)
  · obtain ⟨dk, d, x, dr, hp, tr, st, jl, hs, ts, args, c, rfl, D, ⟨rfl, rfl⟩, _⟩ := h; rfl
  · obtain ⟨dk, d, x, dr, hp, tr, st, jl, hs, ts, args, c, rfl, D, ⟨rfl, rfl⟩, h⟩ := h
    obtain ⟨dx, hx⟩ := D.obj
    obtain ⟨dxm, hm⟩ := D.F.M.obj
    refine ⟨_, (pss_cons (ps_set (i := 1) SC.nd rfl (by first | exact Or.inl rfl | exact Or.inr rfl) (pe_fld (pv 0) rfl)) (pss_one (ps_ret (pe_lst (pa_cons pe_int (pa_cons (pe_fld (pv 1) rfl) (pa_cons (pe_fld (pv 1) rfl) (pa_cons (pe_fld (pv 1) rfl) (pa_cons (pe_fld (pv 1) rfl) (pa_cons (pe_fld (pv 1) rfl) (pa_cons (pe_fld (pv 1) rfl) pa_nil))))))))))), ?_⟩
    simp_arith [T.k_Machine.cl, na_Machine_state T, na_Machine_over T, na_Machine_order_at T, na_Machine_tick T, na_Machine_a T, na_Machine_d T, na_Machine_drum T, na_Machine_hopper T, na_Machine_tray T, T.k_Run.cl, na_Run_machine T, na_Run_stops T, na_Run_begun T, na_Run_hopper_before T, na_Run_tray_before T, T.k_Desk.cl, na_Desk_machine T, na_Desk_stops T, na_Desk_journal T, mf_state, mf_over, mf_order_at, mf_tick, mf_a, mf_d, mf_drum, mf_hopper, mf_tray, mp_state, mp_over, mp_over1, mp_over0, mp_order_at, mp_tick, mp_a, mp_d, mp_hopper, mp_tray, mf_len, df_machine, df_stops, df_journal, dp_machine, dp_stops, dp_journal, df_len, hx, hm]
    exact ⟨by decide, fun p hq => on_same D h (ns := [0, (d.m.state : Int), flagI d.m.over, (d.m.next : Int), (d.m.tick : Int), d.m.a, d.m.d]) rfl p hq⟩
def ps_peek : List V → DrumDeskSeed.Call → Hp → Prop := fun args c _ => ∃ a, args = [.int a] ∧ c = .peek a
theorem ok_peek {P : Program} {w : World} {K : PySem.W.Frag} {mg : Str → Option Value} {A : Adr} {base : Heap} (T : Txt P w K mg A) : Callee P w K mg base 2 "peek" ["desk", "address"] (spOn A ps_peek) := by
  have G_is_address := ok_is_address (P := P) (w := w) (base := base) T
  have SC := sc_peek
  refine T.f_peek.ok (k := 1) sc_peek (fun vs H Q E h => ?_) (fun f cdv Ar outer s H vs Q E hr h => ?_)
  · obtain ⟨dk, d, x, dr, hp, tr, st, jl, hs, ts, args, c, rfl, D, ⟨a, rfl, rfl⟩, _⟩ := h; rfl
  · obtain ⟨dk, d, x, dr, hp, tr, st, jl, hs, ts, args, c, rfl, D, ⟨a, rfl, rfl⟩, h⟩ := h
    obtain ⟨dx, hx⟩ := D.obj
    obtain ⟨dxm, hm⟩ := D.F.M.obj
    have hd := D.F.M.drum
    refine ⟨_, (pss_cons (ps_if (pt_not (pt_val (pe_callC G_is_address hr (by decide) (pa_cons (pv 1) pa_nil)))) (pss_one (ps_ret (pe_lst (pa_cons (pe_gint T.c_WRONG) pa_nil)))) pss_nil) (pss_one (ps_ret (pe_lst (pa_cons pe_int (pa_cons (pe_ix ix_lst (pe_fld (pe_fld (pv 0) rfl) rfl) (pv 1) (fun _ _ => rfl)) pa_nil)))))), ?_⟩
    simp_arith [T.k_Machine.cl, na_Machine_state T, na_Machine_over T, na_Machine_order_at T, na_Machine_tick T, na_Machine_a T, na_Machine_d T, na_Machine_drum T, na_Machine_hopper T, na_Machine_tray T, T.k_Run.cl, na_Run_machine T, na_Run_stops T, na_Run_begun T, na_Run_hopper_before T, na_Run_tray_before T, T.k_Desk.cl, na_Desk_machine T, na_Desk_stops T, na_Desk_journal T, mf_state, mf_over, mf_order_at, mf_tick, mf_a, mf_d, mf_drum, mf_hopper, mf_tray, mp_state, mp_over, mp_over1, mp_over0, mp_order_at, mp_tick, mp_a, mp_d, mp_hopper, mp_tray, mf_len, df_machine, df_stops, df_journal, dp_machine, dp_stops, dp_journal, df_len, hx, hm, hd, sp1]
    cases ca : Drum.within a Drum.WORDS with
    | false =>
      refine nF ?_
      exact ⟨by decide, fun p hq => on_same D h (on_peek_bad ca) p hq⟩
    | true =>
      refine nT ?_
      have := (within_iff _ _).mp ca
      have e2 : (Drum.WORDS : Int) = 2000 := rfl
      have ea : a = ((a.toNat : Nat) : Int) := by omega
      have ei : atI (d.m.drum.map V.int) a = some (.int (d.m.at_ a.toNat)) := by
        rw [ea, Int.toNat_natCast]
        exact atI_map (at_drum (by rw [D.F.G.len]; omega))
      exact ⟨_, ei, by decide, fun p hq => on_same D h (on_peek_ok ca) p hq⟩
def ps_journal : List V → DrumDeskSeed.Call → Hp → Prop := fun args c _ => args = [] ∧ c = .journal
theorem ok_journal {P : Program} {w : World} {K : PySem.W.Frag} {mg : Str → Option Value} {A : Adr} {base : Heap} (T : Txt P w K mg A) : Callee P w K mg base 1 "journal" ["desk"] (spOn A ps_journal) := by
  have SC := sc_journal
  refine T.f_journal.ok (k := 0) sc_journal (fun vs H Q E h => ?_) (fun f cdv Ar outer s H vs Q E hr h => ?_)
  · obtain ⟨dk, d, x, dr, hp, tr, st, jl, hs, ts, args, c, rfl, D, ⟨rfl, rfl⟩, _⟩ := h; rfl
  · obtain ⟨dk, d, x, dr, hp, tr, st, jl, hs, ts, args, c, rfl, D, ⟨rfl, rfl⟩, h⟩ := h
    obtain ⟨dx, hx⟩ := D.obj
    have hj := D.jnl
    refine ⟨_, (pss_one (ps_ret (pe_op op_cat (pe_lst (pa_cons pe_int pa_nil)) (pe_fld (pv 0) rfl)))), ?_⟩
    simp_arith [T.k_Machine.cl, na_Machine_state T, na_Machine_over T, na_Machine_order_at T, na_Machine_tick T, na_Machine_a T, na_Machine_d T, na_Machine_drum T, na_Machine_hopper T, na_Machine_tray T, T.k_Run.cl, na_Run_machine T, na_Run_stops T, na_Run_begun T, na_Run_hopper_before T, na_Run_tray_before T, T.k_Desk.cl, na_Desk_machine T, na_Desk_stops T, na_Desk_journal T, mf_state, mf_over, mf_order_at, mf_tick, mf_a, mf_d, mf_drum, mf_hopper, mf_tray, mp_state, mp_over, mp_over1, mp_over0, mp_order_at, mp_tick, mp_a, mp_d, mp_hopper, mp_tray, mf_len, df_machine, df_stops, df_journal, dp_machine, dp_stops, dp_journal, df_len, hx, hj]
    refine ⟨by decide, fun p hq => ?_⟩
    have s1 := same_upd (H := H) (o := .lst [V.int 0]) hq
    refine ⟨_, _, _, s1 _ _ hx, T.k_Desk.cl, na_Desk_journal T, _, df_journal _ _ _, _, rfl, _, s1 _ _ hj, ?_, fun q hq2 => ?_⟩
    · rw [List.length_map]
      have := D.jn
      have hsz : sizeLine = 16777216 := by decide
      omega
    · exact on_fin h (ns := 0 :: d.journal) rfl (D.same s1) (.same s1) (fun b => s1.free) q hq2
end Dd

namespace Dd
open PySem PySem.Spec PyProof.Rows L2
open Drum (Machine)
def sp_are_words : Sp := fun vs H Q _ => ∃ (p : Addr) (l : List Int), vs = [.ref p] ∧ H p = some (.lst (l.map V.int)) ∧ l.length ≤ 100000 ∧ ∀ H', Same H H' → Q (.bl (l.all Drum.isWord)) H'
theorem ok_are_words {P : Program} {w : World} {K : PySem.W.Frag} {mg : Str → Option Value} {A : Adr} {base : Heap} (T : Txt P w K mg A) : Callee P w K mg base 2 "are_words" ["numbers"] sp_are_words := by
  have G_is_word := ok_is_word (P := P) (w := w) (base := base) T
  have SC := sc_are_words
  refine T.f_are_words.ok (k := 1) sc_are_words (fun vs H Q E h => ?_) (fun f cdv Ar outer s H vs Q E hr h => ?_)
  · obtain ⟨p, l, rfl, _⟩ := h; rfl
  · obtain ⟨p, l, rfl, hp, hl, h⟩ := h
    refine ⟨_, (pss_one (ps_ret (pe_callB (cr_allH rfl) (by rfl) T.b_all bt_all (pa_cons (pe_lc (own := [("number", 1)]) rfl SC.nd (pi_list (pv 0)) (blkOk_by rfl) (fun _ _ _ _ _ => (pg_name (i := 1) SC.nd rfl (by first | exact Or.inl rfl | exact Or.inr rfl))) (fun _ _ _ _ _ => pts_nil) (fun _ _ _ _ _ => (pe_callC G_is_word hr (by decide) (pa_cons (pv 1) pa_nil)))) pa_nil)))), ?_⟩
    simp_arith [hp, sp1]
    refine ⟨_, rfl, p, rfl, ⟨_, SqL.of hp⟩, fun D hD => lc_list (K := K) (a := p) (xs := l.map V.int) (fun i H' => H' = upd H D (.lst ((l.take i).map fun v => V.bl (Drum.isWord v)))) rfl ?_ ?_ ?_⟩
    · rintro i H' hi rfl
      exact SqL.of (by rw [upd_ne (ne_of_none hp hD)]; exact hp)
    · rintro i y H' hy rfl
      rw [List.getElem?_map] at hy
      obtain ⟨v, hv, rfl⟩ := Option.map_eq_some_iff.mp hy
      simp_arith [tYes, wipe, sp1]
      refine ⟨?_, ?_⟩
      · have hsz : sizeLine = 16777216 := by decide
        rw [List.length_map, List.length_take]
        omega
      · rw [take_snoc hv, List.map_append]; rfl
    · rintro H' rfl
      rw [List.length_map, List.take_length]
      refine ⟨D, rfl, l.map Drum.isWord, ?_, ?_⟩
      · rw [upd_same, List.map_map]; rfl
      · have e : (l.map Drum.isWord).all id = l.all Drum.isWord := by rw [List.all_map]; rfl
        rw [e]; exact h _ (same_upd hD)
def sp_are_cards : Sp := fun vs H Q _ => ∃ (p : Addr) (l : List Int), vs = [.ref p] ∧ H p = some (.lst (l.map V.int)) ∧ l.length ≤ 100000 ∧ ∀ H', Same H H' → Q (.bl (DrumDeskSeed.handed l)) H'
theorem ok_are_cards {P : Program} {w : World} {K : PySem.W.Frag} {mg : Str → Option Value} {A : Adr} {base : Heap} (T : Txt P w K mg A) : Callee P w K mg base 3 "are_cards" ["words"] sp_are_cards := by
  have G_are_words := ok_are_words (P := P) (w := w) (base := base) T
  have SC := sc_are_cards
  refine T.f_are_cards.ok (k := 2) sc_are_cards (fun vs H Q E h => ?_) (fun f cdv Ar outer s H vs Q E hr h => ?_)
  · obtain ⟨p, l, rfl, _⟩ := h; rfl
  · obtain ⟨p, l, rfl, hp, hl, h⟩ := h
    refine ⟨_, (pss_one (ps_ret (pe_and (pe_cmpR op_le (pe_callB call_len_lst (by rfl) T.b_len bt_len (pa_cons (pv 0) pa_nil)) (pe_gint T.c_HANDED_MOST) (nomark _)) (pe_and (pe_cmpR op_eq (pe_op op_mod (pe_callB call_len_lst (by rfl) T.b_len bt_len (pa_cons (pv 0) pa_nil)) (pe_gint T.c_CARD_SIZE)) pe_int (nomark _)) (pe_one (pe_callC G_are_words hr (by decide) (pa_cons (pv 0) pa_nil))))))), ?_⟩
    simp_arith [hp, sp1, List.length_map]
    by_cases c1 : l.length ≤ 512
    · rw [if_pos (decide_eq_true (by omega))]
      refine ⟨by decide, ?_⟩
      by_cases c2 : l.length % 8 = 0
      · rw [if_pos (decide_eq_true (by omega))]
        refine ⟨p, l, rfl, hp, hl, fun H' s => ?_⟩
        have e : DrumDeskSeed.handed l = l.all Drum.isWord := by
          unfold DrumDeskSeed.handed DrumDeskSeed.HAND
          rw [decide_eq_true c1, c2]; rfl
        rw [← e]; exact h H' s
      · rw [if_neg (by rw [decide_eq_true_iff]; omega)]
        have e : DrumDeskSeed.handed l = false := by
          unfold DrumDeskSeed.handed
          have : (l.length % 8 == 0) = false := by simpa using c2
          rw [this, Bool.false_and, Bool.and_false]
        rw [e] at h
        exact h H fun _ _ q => q
    · rw [if_neg (by rw [decide_eq_true_iff]; omega)]
      have e : DrumDeskSeed.handed l = false := by
        unfold DrumDeskSeed.handed DrumDeskSeed.HAND
        rw [decide_eq_false c1, Bool.false_and]
      rw [e] at h
      exact h H fun _ _ q => q
end Dd

namespace Dd
open PySem PySem.Spec PyProof.Rows L2
open Drum (Machine)
theorem lc_rangeC {lo c : Int} {n : Nat} {g : TG} {tt : TT} {te : TE} {vs : List Nat} {σ : L2.St} {H1 : Hp} {D : Addr} {Qd : Hp → Prop} (Pv : Nat → Hp → Prop) (h0 : Pv 0 (upd H1 D (.lst [])))
    (hs : ∀ i H, i < n → Pv i H → g (.int (lo + (i : Nat) * c)) (wipe σ vs) H fun σ2 H2 => wipe σ2 vs = wipe σ vs ∧ tt σ2 H2 fun b H3 =>
      if b = true then te σ2 H3 fun y H4 => ∃ acc, H4 D = some (.lst acc) ∧ acc.length < sizeLine ∧ Pv (i + 1) (upd H4 D (.lst (acc ++ [y]))) else Pv (i + 1) H3) (hd : ∀ H, Pv n H → Qd H) :
    ∃ W : Nat → Nat → Hp → Prop, (∃ m, W 0 m (upd H1 D (.lst []))) ∧ ∀ i m H, W i m H →
      ((Itc lo c n).stop i H ∧ Qd H) ∨ ((Itc lo c n).go i H ∧ ∃ Nx : Hp → Prop, (∀ H', Nx H' → ∃ m', m' < m ∧ W (i + 1) m' H') ∧ ∀ x H', (Itc lo c n).yld i H x H' → g x (wipe σ vs) H' fun σ2 H2 => wipe σ2 vs = wipe σ vs ∧ tt σ2 H2 fun b H3 =>
        if b = true then te σ2 H3 fun y H4 => ∃ acc, H4 D = some (.lst acc) ∧ acc.length < sizeLine ∧ Nx (upd H4 D (.lst (acc ++ [y]))) else Nx H3) := by
  refine ⟨fun i m H => m = n - i ∧ i ≤ n ∧ Pv i H, ⟨n, by simp, Nat.zero_le _, h0⟩, ?_⟩
  rintro i m H ⟨rfl, hi, p⟩
  by_cases hlt : i < n
  · refine .inr ⟨hlt, Pv (i + 1), fun H' p' => ⟨n - (i + 1), by omega, rfl, hlt, p'⟩, fun x H' y => ?_⟩
    obtain ⟨e, y⟩ := y
    subst e y
    exact hs i _ hlt p
  · have e : i = n := by omega
    subst e
    exact .inl ⟨Nat.le_refl _, hd H p⟩
def sp_cards_of : Sp := fun vs H Q _ => ∃ (p : Addr) (l : List Int) (k : Nat), vs = [.ref p] ∧ H p = some (.lst (l.map V.int)) ∧ l.length = 8 * k ∧ l.length ≤ 100000 ∧
  ∀ (H' : Hp) (D : Addr) (as : List Addr), H D = none → Same H H' → H' D = some (.lst (as.map V.ref)) → CardsAt H' as (Drum.eights (l.length + 1) l) → (∀ a ∈ as, H a = none ∧ a ≠ D) → Q (.ref D) H'
theorem ok_cards_of {P : Program} {w : World} {K : PySem.W.Frag} {mg : Str → Option Value} {A : Adr} {base : Heap} (T : Txt P w K mg A) : Callee P w K mg base 1 "cards_of" ["words"] sp_cards_of := by
  have SC := sc_cards_of
  refine T.f_cards_of.ok (k := 0) sc_cards_of (fun vs H Q E h => ?_) (fun f cdv Ar outer s H vs Q E hr h => ?_)
  · obtain ⟨p, l, k, rfl, _⟩ := h; rfl
  · obtain ⟨p, l, k, rfl, hp, hl, hl2, h⟩ := h
    refine ⟨_, (pss_one (ps_ret (pe_lc (own := [("first", 1)]) rfl SC.nd (pi_range3 rfl T.b_range (pa_cons pe_int (pa_cons (pe_callB call_len_lst (by rfl) T.b_len bt_len (pa_cons (pv 0) pa_nil)) (pa_cons (pe_gint T.c_CARD_SIZE) pa_nil)))) (blkOk_by rfl) (fun _ _ _ _ _ => (pg_name (i := 1) SC.nd rfl (by first | exact Or.inl rfl | exact Or.inr rfl))) (fun _ _ _ _ _ => pts_nil) (fun _ _ _ _ _ => (pe_slice sl_lst (pv 0) (po_some (pv 1)) (po_some (pe_op op_add (pv 1) (pe_gint T.c_CARD_SIZE)))))))), ?_⟩
    simp_arith [hp, List.length_map]
    refine ⟨_, rfl, p, _, rfl, hp, 0, _, 8, (l.length + 8 - 1) / 8, rfl, (by rw [List.length_map]; exact rgc l.length 8 (by omega) (by decide) (by decide)), fun D hD => lc_rangeC (fun i H' => ∃ as : List Addr, Same H H' ∧ H' D = some (.lst (as.map V.ref)) ∧ CardsAt H' as ((List.range i).map fun j => (l.drop (8 * j)).take 8) ∧ (∀ a ∈ as, H a = none ∧ a ≠ D) ∧ as.length = i)
      ⟨[], same_upd hD, upd_same, .nil, by simp, rfl⟩ ?_ ?_⟩
    · rintro i H' hi ⟨as, s, hD', hc, ha, hl'⟩
      have hp' := s _ _ hp
      simp_arith [tYes, wipe, hp']
      intro q hq
      have hDq : D ≠ q := ne_of_none hD' hq
      refine ⟨_, by rw [upd_ne hDq]; exact hD', ?_, ?_, as ++ [q], ?_, ?_, ?_, ?_⟩
      · have hsz : sizeLine = 16777216 := by decide
        rw [List.length_map, hl']
        omega
      · intro b o e
        have hbD : b ≠ D := ne_of_none e hD
        rw [upd_ne hbD, upd_ne (ne_of_none (s b o e) hq)]
        exact s b o e
      · rw [List.map_append]; rfl
      · rw [List.range_succ, List.map_append]
        refine CardsAt.app (hc.keep fun a hm o e => ?_) (.cons ?_ .nil)
        · rw [upd_ne (ha a hm).2, upd_ne (ne_of_none e hq)]; exact e
        · rw [upd_ne hDq.symm, upd_same]
          have e1 : (0 + (i : Int) * 8) = ((8 * i : Nat) : Int) := by omega
          have e2 : (0 + (i : Int) * 8 + 8) = ((8 * i + 8 : Nat) : Int) := by omega
          rw [e2, e1, cut_nat (by omega) (by omega), show 8 * i + 8 - 8 * i = 8 by omega]
      · intro a hm
        rcases List.mem_append.mp hm with z | z
        · exact ha a z
        · have : a = q := by simpa using z
          subst this
          exact ⟨s.free hq, hDq.symm⟩
      · rw [List.length_append, hl']; rfl
    · rintro H' ⟨as, s, hD', hc, ha, _⟩
      rw [show (l.length + 8 - 1) / 8 = k by omega, ← eights_range (l.length + 1) k l hl (by omega)] at hc
      exact h H' D as hD s hD' hc ha
end Dd

namespace Dd
open PySem PySem.Spec PyProof.Rows L2
open Drum (Machine)
def sp_Desk_init (A : Adr) : Sp := fun vs H Q _ => ∃ (k dx : Addr), vs = [.ref k] ∧ H k = some (.ins A.cDesk dx []) ∧ ∀ (H' : Hp) (st jl : Addr), (∀ b o, H b = some o → b ≠ k → H' b = some o) → H' k = some (.ins A.cDesk dx (df .non st jl)) → Q .non H'
theorem ok_Desk_init {P : Program} {w : World} {K : PySem.W.Frag} {mg : Str → Option Value} {A : Adr} {base : Heap} (T : Txt P w K mg A) : Maker P w K mg base 1 "Desk" A.cDesk ["self"] (sp_Desk_init A) := by
  have SC := sc_Desk_init
  refine T.k_Desk.ok (k := 0) sc_Desk_init (fun vs H Q E h => ?_) (fun f cdv Ar outer s H vs Q E hr h => ?_)
  · obtain ⟨k, dx, rfl, _⟩ := h; rfl
  · obtain ⟨k, dx, rfl, hk, h⟩ := h
    refine ⟨_, (pss_cons (ps_fld (pv 0) pe_non rfl) (pss_cons (ps_fld (pv 0) pe_dnewK rfl) (pss_one (ps_fld (pv 0) (pe_lst pa_nil) rfl)))), ?_⟩
    simp_arith [T.k_Machine.cl, na_Machine_state T, na_Machine_over T, na_Machine_order_at T, na_Machine_tick T, na_Machine_a T, na_Machine_d T, na_Machine_drum T, na_Machine_hopper T, na_Machine_tray T, T.k_Run.cl, na_Run_machine T, na_Run_stops T, na_Run_begun T, na_Run_hopper_before T, na_Run_tray_before T, T.k_Desk.cl, na_Desk_machine T, na_Desk_stops T, na_Desk_journal T, hk, tDNewK]
    refine ⟨by decide, fun p hp => ?_⟩
    have np : k ≠ p := ne_of_none upd_same hp
    refine ⟨_, _, _, (by rw [upd_ne np, upd_same]), T.k_Desk.cl, na_Desk_stops T, (by exact (by decide : 1 < 1000)), Nat.zero_le _, fun q hq => ?_⟩
    have nq : k ≠ q := ne_of_none upd_same hq
    refine ⟨_, _, _, (by rw [upd_ne nq, upd_same]), T.k_Desk.cl, na_Desk_journal T, (by exact (by decide : 2 < 1000)), ?_⟩
    have hp0 : H p = none := (upd_none hp).2
    have hq0 : H q = none := (upd_none (upd_none (upd_none hq).2).2).2
    refine h _ p q (fun b o e nb => ?_) ?_
    · rw [upd_ne nb, upd_ne (ne_of_none e hq0), upd_ne nb, upd_ne (ne_of_none e hp0), upd_ne nb]; exact e
    · rw [upd_same]; rfl
end Dd

namespace Dd
open PySem PySem.Spec PyProof.Rows L2
open Drum (Machine)
theorem ok_load {P : Program} {w : World} {K : PySem.W.Frag} {mg : Str → Option Value} {A : Adr} {base : Heap} (T : Txt P w K mg A) : Callee P w K mg base 4 "load" ["desk", "parts", "pairs"] (spTop A ps_load) := by
  have M_Machine := ok_Machine_init (P := P) (w := w) (base := base) T
  have G_are_parts := ok_are_parts (P := P) (w := w) (base := base) T
  have G_are_pairs := ok_are_pairs (P := P) (w := w) (base := base) T
  have SC := sc_load
  refine T.f_load.ok (k := 3) sc_load (fun vs H Q E h => ?_) (fun f cdv Ar outer s H vs Q E hr h => ?_)
  · obtain ⟨dk, s, O, args, c, rfl, S, ⟨pp, pl, st, ov, n, t, a, d, l, rfl, rfl, _⟩, _⟩ := h; rfl
  · obtain ⟨dk, s, O, args, c, rfl, S, ⟨pp, pl, st, ov, n, t, a, d, l, rfl, rfl, hpp, hpl, hl⟩, h⟩ := h
    obtain ⟨hO, dx, mv, st0, jl0, hk⟩ := S.obj
    refine ⟨_, (pss_cons (ps_if (pt_not (pt_val (pe_callC G_are_parts hr (by decide) (pa_cons (pv 1) pa_nil)))) (pss_one (ps_ret (pe_lst (pa_cons (pe_gint T.c_WRONG) pa_nil)))) pss_nil) (pss_cons (ps_if (pt_not (pt_val (pe_callC G_are_pairs hr (by decide) (pa_cons (pv 2) pa_nil)))) (pss_one (ps_ret (pe_lst (pa_cons (pe_gint T.c_WRONG_FORM) pa_nil)))) pss_nil) (pss_cons (ps_fld (pv 0) (pe_makeC M_Machine hr (by decide) (pa_cons (pv 1) (pa_cons (pv 2) pa_nil))) rfl) (pss_cons (ps_fld (pv 0) pe_dnewK rfl) (pss_cons (ps_fld (pv 0) (pe_op op_cat (pe_op op_cat (pv 1) (pe_lst (pa_cons (pe_callB call_len_lst (by rfl) T.b_len bt_len (pa_cons (pv 2) pa_nil)) pa_nil))) (pv 2)) rfl) (pss_one (ps_ret (pe_lst (pa_cons pe_int pa_nil))))))))), ?_⟩
    simp_arith [T.k_Machine.cl, na_Machine_state T, na_Machine_over T, na_Machine_order_at T, na_Machine_tick T, na_Machine_a T, na_Machine_d T, na_Machine_drum T, na_Machine_hopper T, na_Machine_tray T, T.k_Run.cl, na_Run_machine T, na_Run_stops T, na_Run_begun T, na_Run_hopper_before T, na_Run_tray_before T, T.k_Desk.cl, na_Desk_machine T, na_Desk_stops T, na_Desk_journal T, df_machine, df_stops, df_journal, dp_machine, dp_stops, dp_journal, df_len, hk]
    refine ⟨pp, st, ov, n, t, a, d, rfl, hpp, _, rfl, ?_⟩
    cases c1 : partsOk st ov n t a d with
    | false =>
      refine nF ?_
      exact ⟨by decide, fun p hq => top_same S h (load_bad c1) (fun _ _ e => e) p hq⟩
    | true =>
      refine nT ?_
      refine ⟨pl, l, rfl, hpl, by omega, _, rfl, ?_⟩
      cases c2 : Drum.noted l 0 with
      | none =>
        refine nF ?_
        exact ⟨by decide, fun p hq => top_same S h (load_form c1 (by rw [c2]; rfl)) (fun _ _ e => e) p hq⟩
      | some ps =>
        refine nT ?_
        refine ⟨_, rfl, _, rfl, fun x dxm hx0 hdx0 ndx => ?_⟩
        have s0 : ∀ b o, H b = some o → (upd (upd H dxm (.own x)) x (.ins A.cMachine dxm [])) b = some o := fun b o e => by rw [upd_ne (ne_of_none e hx0), upd_ne (ne_of_none e hdx0)]; exact e
        refine ⟨x, dxm, pp, pl, st, ov, n, t, a, d, l, ps, rfl, upd_same, s0 _ _ hpp, s0 _ _ hpl, by omega, c2, c1, fun dr hp tr H1 f1 f2 f3 n1 n2 n3 k1 hx1 hd1 hh1 ht1 => ⟨rfl, ?_⟩⟩
        have s1 : Same H H1 := Same.made hx0 hdx0 k1
        have npk : pp ≠ dk := ne_of hpp hk (by intro q; cases q)
        have nlk : pl ≠ dk := ne_of hpl hk (by intro q; cases q)
        refine ⟨_, _, _, s1 _ _ hk, T.k_Desk.cl, na_Desk_machine T, df_len _ _ _, ?_⟩
        rw [dp_machine]
        intro sta hsta
        have nks : dk ≠ sta := ne_of_none upd_same hsta
        refine ⟨_, _, _, (by rw [upd_ne nks, upd_same]), T.k_Desk.cl, na_Desk_stops T, df_len _ _ _, ?_⟩
        rw [dp_stops]
        have hs1 : H1 sta = none := (upd_none hsta).2
        have k2 : ∀ b o, H1 b = some o → b ≠ dk → upd (upd (upd H1 dk (.ins A.cDesk dx (df (.ref x) st0 jl0))) sta (.dK [])) dk (.ins A.cDesk dx (df (.ref x) sta jl0)) b = some o := fun b o e nb => by rw [upd_ne nb, upd_ne (ne_of_none e hs1), upd_ne nb]; exact e
        have hk2 : upd (upd (upd H1 dk (.ins A.cDesk dx (df (.ref x) st0 jl0))) sta (.dK [])) dk (.ins A.cDesk dx (df (.ref x) sta jl0)) dk = _ := upd_same
        have hst2 : upd (upd (upd H1 dk (.ins A.cDesk dx (df (.ref x) st0 jl0))) sta (.dK [])) dk (.ins A.cDesk dx (df (.ref x) sta jl0)) sta = _ := (upd_ne nks.symm).trans upd_same
        have fr2 : ∀ b, upd (upd (upd H1 dk (.ins A.cDesk dx (df (.ref x) st0 jl0))) sta (.dK [])) dk (.ins A.cDesk dx (df (.ref x) sta jl0)) b = none → H1 b = none := fun b e => (upd_none (upd_none (upd_none e).2).2).2
        generalize upd (upd (upd H1 dk (.ins A.cDesk dx (df (.ref x) st0 jl0))) sta (.dK [])) dk (.ins A.cDesk dx (df (.ref x) sta jl0)) = H2 at *
        have hpp2 := k2 _ _ (s1 _ _ hpp) npk
        have hpl2 := k2 _ _ (s1 _ _ hpl) nlk
        have hsz : sizeLine = 16777216 := by decide
        refine ⟨_, hpl2, by decide, fun p hq => ?_⟩
        have s3 := same_upd (H := H2) (o := .lst [V.int ((l.map V.int).length : Nat)]) hq
        refine ⟨_, s3 _ _ hpp2, by show 6 + (0 + 1) ≤ sizeLine; omega, fun q hq2 => ?_⟩
        have s4 := s3.trans (same_upd (o := .lst ([V.int st, V.int ov, V.int n, V.int t, V.int a, V.int d] ++ [V.int ((l.map V.int).length : Nat)])) hq2)
        refine ⟨_, s4 _ _ hpl2, by rw [List.length_map]; show 7 + l.length ≤ sizeLine; omega, fun jl hq3 => ?_⟩
        have ej : ([V.int st, V.int ov, V.int n, V.int t, V.int a, V.int d] ++ [V.int ((l.map V.int).length : Nat)] ++ l.map V.int) = (Drum.loadedDesk (mkM st ov n t a d ps)).journal.map V.int := by
          rw [loaded_journal c1 c2, List.map_append, List.length_map]; rfl
        rw [ej]
        have hq3' := hq3
        generalize upd (upd H2 p (.lst [V.int ((l.map V.int).length : Nat)])) q (.lst ([V.int st, V.int ov, V.int n, V.int t, V.int a, V.int d] ++ [V.int ((l.map V.int).length : Nat)])) = H4 at *
        have s5 := s4.trans (same_upd (o := .lst ((Drum.loadedDesk (mkM st ov n t a d ps)).journal.map V.int)) hq3)
        refine ⟨_, _, _, s5 _ _ hk2, T.k_Desk.cl, na_Desk_journal T, df_len _ _ _, by decide, fun D hD => ?_⟩
        rw [dp_journal] at hD ⊢
        have hdr0 : H dr = none := (upd_none (upd_none f1).2).2
        have hhp0 : H hp = none := (upd_none (upd_none f2).2).2
        have htr0 : H tr = none := (upd_none (upd_none f3).2).2
        have nk : ∀ {b : Addr}, H b = none → b ≠ dk := fun e z => by rw [z, hk] at e; cases e
        have x5 := s5 _ _ (k2 _ _ hx1 (nk hx0))
        have d4 := s4 _ _ (k2 _ _ hd1 (nk hdr0))
        have h4 := s4 _ _ (k2 _ _ hh1 (nk hhp0))
        have t4 := s4 _ _ (k2 _ _ ht1 (nk htr0))
        have st5 := s5 _ _ hst2
        have njk : jl ≠ dk := fun z => by rw [z, s4 _ _ hk2] at hq3; cases hq3
        have nj : ∀ {b : Addr} {o : HO}, H4 b = some o → jl ≠ b := fun e z => by rw [z, e] at hq3; cases hq3
        have sj := same_upd (H := H4) (o := .lst ((Drum.loadedDesk (mkM st ov n t a d ps)).journal.map V.int)) hq3
        have DD : DAt A (upd (upd H4 jl (.lst ((Drum.loadedDesk (mkM st ov n t a d ps)).journal.map V.int))) dk (.ins A.cDesk dx (df (.ref x) sta jl))) dk (Drum.loadedDesk (mkM st ov n t a d ps)) x dr hp tr sta jl [] [] := by
          refine ⟨⟨dx, upd_same⟩, ⟨⟨⟨dxm, by rw [upd_ne (nk hx0)]; exact x5⟩, by rw [upd_ne (nk hdr0)]; exact sj _ _ d4⟩, good_mkM c1 c2, by rw [upd_ne (nk hhp0)]; exact sj _ _ h4, by rw [upd_ne (nk htr0)]; exact sj _ _ t4, .nil, .nil, n1.symm, n2.symm, n3.symm, (fun c hc => by simp at hc), (fun c hc => by simp at hc), (fun c hc => by cases hc), (fun c hc => by cases hc)⟩,
            by rw [upd_ne nks.symm]; exact st5, by rw [upd_ne njk, upd_same], nj d4, nj h4, nj t4, (fun c hc => by simp at hc), (fun c hc => by simp at hc), Nat.zero_le _, (fun c hc => by cases hc), Nat.zero_le _, Nat.zero_le _, ?_⟩
          rw [loaded_journal c1 c2, List.length_append]
          have := noted_len c2
          show 7 + l.length ≤ 20000
          omega
        have hf : ∀ b, H4 b = none → H b = none := fun b e => s1.free (fr2 b (s4.free e))
        rw [load_ok c1 c2] at h
        refine h _ D [dk, x, dr, hp, tr, sta, jl] ⟨x, dr, hp, tr, sta, jl, [], [], DD.same (same_upd hD), rfl⟩ upd_same (hf D (upd_none (upd_none hD).2).2) (fun b hb => ?_) (fun b o e nb => ?_)
        · simp only [List.mem_cons, List.not_mem_nil, or_false] at hb
          rcases hb with rfl | rfl | rfl | rfl | rfl | rfl | rfl
          · exact .inl hO
          · exact .inr hx0
          · exact .inr hdr0
          · exact .inr hhp0
          · exact .inr htr0
          · exact .inr (s1.free hs1)
          · exact .inr (hf _ hq3)
        · have nbk : b ≠ dk := fun z => nb (by rw [z]; exact hO)
          exact same_upd hD _ _ (by rw [upd_ne nbk]; exact s5 _ _ (k2 _ _ (s1 _ _ e) nbk))
end Dd

namespace Dd
open PySem PySem.Spec PyProof.Rows L2
open Drum (Machine)
def ps_run : List V → DrumDeskSeed.Call → Hp → Prop := fun args c _ => ∃ k u p, args = [.int k, .int u, .int p] ∧ c = .run k u p
theorem ok_run {P : Program} {w : World} {K : PySem.W.Frag} {mg : Str → Option Value} {A : Adr} {base : Heap} (T : Txt P w K mg A) : Callee P w K mg base 8 "run" ["desk", "orders", "until", "pause"] (spOn A ps_run) := by
  have G_is_tick := ok_is_tick (P := P) (w := w) (base := base) T
  have M_Run := ok_Run_init (P := P) (w := w) (base := base) T
  have G_cards_read := ok_cards_read (P := P) (w := w) (base := base) T
  have G_punched := ok_punched (P := P) (w := w) (base := base) T
  have G_go_on := ok_go_on (P := P) (w := w) (base := base) T
  have G_has_room := ok_has_room (P := P) (w := w) (base := base) T
  have G_note_run := ok_note_run (P := P) (w := w) (base := base) T
  have SC := sc_run
  refine T.f_run.ok (k := 7) sc_run (fun vs H Q E h => ?_) (fun f cdv Ar outer s H vs Q E hr h => ?_)
  · obtain ⟨dk, d, x, dr, hp, tr, st, jl, hs, ts, args, c, rfl, D, ⟨k, u, p, rfl, rfl⟩, _⟩ := h; rfl
  · obtain ⟨dk, d, x, dr, hp, tr, st, jl, hs, ts, args, c, rfl, D, ⟨k, u, p, rfl, rfl⟩, h⟩ := h
    obtain ⟨dx, hx⟩ := D.obj
    obtain ⟨dxm, hm⟩ := D.F.M.obj
    have hh := D.F.hop
    refine ⟨_, (pss_cons (ps_if (PW.pt (pw_or (pt_not (pt_chain op_le op_le pe_int (pv 1) (pe_gint T.c_ORDERS_MOST))) (pw_or (pt_not (pt_val (pe_callC G_is_tick hr (by decide) (pa_cons (pv 2) pa_nil)))) (pw_or1 (pt_not (pt_chain op_le op_le pe_int (pv 3) (pe_gint T.c_PAUSE_MOST))))))) (pss_one (ps_ret (pe_lst (pa_cons (pe_gint T.c_WRONG) pa_nil)))) pss_nil) (pss_cons (ps_if (pt_not (pt_val (pe_callC G_has_room hr (by decide) (pa_cons (pv 0) (pa_cons (pe_op op_add pe_int (pe_op op_mulB (pe_gint T.c_CARD_SIZE) (pe_callB call_len_lst (by rfl) T.b_len bt_len (pa_cons (pe_fld (pe_fld (pv 0) rfl) rfl) pa_nil)))) pa_nil))))) (pss_one (ps_ret (pe_lst (pa_cons (pe_gint T.c_JOURNAL_FULL) pa_nil)))) pss_nil) (pss_cons (ps_set (i := 4) SC.nd rfl (by first | exact Or.inl rfl | exact Or.inr rfl) (pe_makeC M_Run hr (by decide) (pa_cons (pe_fld (pv 0) rfl) (pa_cons (pe_fld (pv 0) rfl) pa_nil)))) (pss_cons (ps_set (i := 5) SC.nd rfl (by first | exact Or.inl rfl | exact Or.inr rfl) (pe_callC G_go_on hr (by decide) (pa_cons (pv 4) (pa_cons (pv 1) (pa_cons (pv 2) (pa_cons (pv 3) pa_nil)))))) (pss_cons (ps_if (pt_cmpR op_gt (pe_fld (pv 4) rfl) pe_int (nomark _)) (pss_one (ps_expr (pe_callC G_note_run hr (by decide) (pa_cons (pv 0) (pa_cons (pv 4) pa_nil))))) pss_nil) (pss_one (ps_ret (pe_lst (pa_cons pe_int (pa_cons (pv 5) (pa_cons (pe_fld (pv 4) rfl) (pa_cons (pe_callB call_len_lst (by rfl) T.b_len bt_len (pa_cons (pe_callC G_cards_read hr (by decide) (pa_cons (pv 4) pa_nil)) pa_nil)) (pa_cons (pe_callC G_punched hr (by decide) (pa_cons (pv 4) pa_nil)) pa_nil))))))))))))), ?_⟩
    simp_arith [T.k_Machine.cl, na_Machine_state T, na_Machine_over T, na_Machine_order_at T, na_Machine_tick T, na_Machine_a T, na_Machine_d T, na_Machine_drum T, na_Machine_hopper T, na_Machine_tray T, T.k_Run.cl, na_Run_machine T, na_Run_stops T, na_Run_begun T, na_Run_hopper_before T, na_Run_tray_before T, T.k_Desk.cl, na_Desk_machine T, na_Desk_stops T, na_Desk_journal T, mf_state, mf_over, mf_order_at, mf_tick, mf_a, mf_d, mf_drum, mf_hopper, mf_tray, mp_state, mp_over, mp_over1, mp_over0, mp_order_at, mp_tick, mp_a, mp_d, mp_hopper, mp_tray, mf_len, df_machine, df_stops, df_journal, dp_machine, dp_stops, dp_journal, df_len, hx, hm, hh, sp1, List.length_map]
    cases ck : runOk k u p with
    | false =>
      have fin : 0 + 1 ≤ sizeLine ∧ ∀ (p : Addr), H p = none → Q (V.ref p) (upd H p (HO.lst [V.int (-1)])) := ⟨by decide, fun q hq => on_same D h (on_run_bad ck) q hq⟩
      by_cases a1 : 0 ≤ k
      · rw [if_pos (decide_eq_true a1)]
        by_cases a2 : k ≤ 10000
        · rw [decide_eq_true a2]
          refine nT ?_
          cases a3 : Drum.within u Drum.WRAP with
          | false => exact nF fin
          | true =>
            refine nT ?_
            by_cases a4 : 0 ≤ p
            · rw [if_pos (decide_eq_true a4)]
              by_cases a5 : p ≤ 64
              · have : runOk k u p = true := by
                  unfold runOk Drum.ORDERS Drum.HOLDS
                  rw [a3, Bool.and_eq_true, Bool.and_eq_true, within_iff, within_iff]
                  exact ⟨by omega, rfl, by omega⟩
                rw [this] at ck; cases ck
              · rw [decide_eq_false a5]
                exact nF fin
            · rw [if_neg (by rw [decide_eq_true_iff]; exact a4)]
              exact nF fin
        · rw [decide_eq_false a2]
          exact nF fin
      · rw [if_neg (by rw [decide_eq_true_iff]; exact a1)]
        exact nF fin
    | true =>
      have ck' := ck
      unfold runOk Drum.ORDERS Drum.HOLDS at ck'
      simp only [Bool.and_eq_true, within_iff] at ck'
      obtain ⟨⟨a1, a2⟩, a3', a4, a5⟩ := ck'
      have a3 := (within_iff _ _).mpr a3'
      rw [if_pos (decide_eq_true a1), decide_eq_true (show k ≤ 10000 by omega)]
      refine nT ?_
      rw [a3]
      refine nT ?_
      rw [if_pos (decide_eq_true a4), decide_eq_true (show p ≤ 64 by omega)]
      refine nT ?_
      have hlen : hs.length = d.hopper.length := cards_len D.F.hc
      have hhn := D.hn
      obtain ⟨kn, rfl⟩ : ∃ n : Nat, k = (n : Int) := ⟨k.toNat, by omega⟩
      obtain ⟨un, rfl⟩ : ∃ n : Nat, u = (n : Int) := ⟨u.toNat, by omega⟩
      obtain ⟨pn, rfl⟩ : ∃ n : Nat, p = (n : Int) := ⟨p.toNat, by omega⟩
      refine ⟨⟨by decide, by show ((hs.length : Int)).natAbs < 2 ^ 100; omega⟩, dk, d, x, dr, hp, tr, st, jl, hs, ts, 3 + 8 * hs.length, rfl, D, _, rfl, ?_⟩
      rw [hlen]
      cases cl : DrumDeskSeed.long d (3 + 8 * d.hopper.length) with
      | true =>
        refine nF ?_
        exact ⟨by decide, fun q hq => on_same D h (on_run_long ck cl) q hq⟩
      | false =>
        refine nT ?_
        refine ⟨_, rfl, dk, _, _, _, _, rfl, hx, T.k_Desk.cl, na_Desk_machine T, df_machine _ _ _, _, rfl, dk, _, _, _, _, rfl, hx, T.k_Desk.cl, na_Desk_stops T, df_stops _ _ _, fun r dxr hr0 hdx0 ndx => ?_⟩
        have s0 : Same H (upd (upd H dxr (.own r)) r (.ins A.cRun dxr [])) := fun b o e => by rw [upd_ne (ne_of_none e hr0), upd_ne (ne_of_none e hdx0)]; exact e
        refine ⟨r, dxr, x, st, d.stops, d.m, dr, hp, tr, hs, ts, d.hopper, d.tray, rfl, upd_same, s0 _ _ D.stp, D.F.same s0, fun H1 hb hb0 k1 R1 => ⟨rfl, ?_⟩⟩
        have s1 : Same H H1 := Same.made hr0 hdx0 k1
        have D1 := D.same s1
        have hb00 : H hb = none := (upd_none (upd_none hb0).2).2
        have nhr : hb ≠ r := (upd_none hb0).1
        have nr : ∀ {b : Addr} {o : HO}, H b = some o → r ≠ b := fun e z => by rw [z, e] at hr0; cases hr0
        have nb : ∀ {b : Addr} {o : HO}, H b = some o → hb ≠ b := fun e z => by rw [z, e] at hb00; cases hb00
        have ap : Apart r st hb x dr hp tr := ⟨nr hm, nr D.F.M.drum, nr hh, nr D.F.tray, nb hm, nb D.F.M.drum, nb hh, nb D.F.tray, nhr, D.sk'.2, (D.nl D.F.M.drum).2.2.symm, (D.nl hh).2.2.symm, (D.nl D.F.tray).2.2.symm, (nr D.stp).symm⟩
        have lts : ts.length = d.tray.length := cards_len D.F.ht
        have htn := D.tn
        refine ⟨r, x, st, hb, d.stops, d.m, dr, hp, tr, hs, ts, d.hopper, d.tray, kn, un, pn, rfl, R1, D1.F, ap, by omega, fun H2 fin hs' ts' pre efin R2 F2 ec eh g2 l64 f2 => ?_⟩
        have efin' : d.run kn un pn = ({ d with m := fin.m, hopper := fin.left, tray := d.tray ++ fin.punched, log := if fin.begun = 0 then d.log else d.log ++ [.ran fin.begun fin.read] }, fin) := by
          unfold Drum.Desk.run
          rw [show Drum.HOLDS - d.tray.length = 64 - ts.length by rw [lts]; rfl, ← efin]
        have lc : d.hopper.length = fin.read.length + fin.left.length := by rw [ec, List.length_append]
        have lt2 := cards_len F2.ht
        rw [List.length_append] at lt2
        have D2 : DAt A H2 dk { d with m := fin.m, hopper := fin.left, tray := d.tray ++ fin.punched } x dr hp tr st jl hs' ts' := by
          refine D1.mach (d' := { d with m := fin.m, hopper := fin.left, tray := d.tray ++ fin.punched }) F2 (fun o e => ?_) (fun o e => ?_) (fun o e => ?_) rfl rfl D.jhp D.jtr (fun c hc => D.jh c (by rw [eh]; exact List.mem_append_right _ hc)) (fun c hc => ?_) (by show fin.left.length ≤ 64; omega) (by show (d.tray ++ fin.punched).length ≤ 64; rw [List.length_append]; omega)
          · exact f2 _ _ e D.kx (D.nl D.F.M.drum).1.symm (D.nl hh).1.symm (D.nl D.F.tray).1.symm (nr hx).symm
          · exact f2 _ _ e ap.stx ap.stdr ap.sthp ap.sttr ap.str
          · exact f2 _ _ e (D.nl D.jnl).2.1 D.jdr D.jhp D.jtr (nr D.jnl).symm
          · rcases g2.2 c hc with q | q
            · exact D.jt c q
            · intro z
              rw [z, D1.jnl] at q; cases q
        obtain ⟨dxr2, hr2⟩ := R2.obj
        refine ⟨r, rfl, _, _, _, hr2, T.k_Run.cl, na_Run_begun T, _, rf_begun _ _ _ _ _, _, rfl, ?_⟩
        have eo := on_run_ok ck cl
        rw [Int.toNat_natCast, Int.toNat_natCast, Int.toNat_natCast, efin'] at eo
        have f02 : FrO [dk, x, dr, hp, tr, st, jl] H H2 := fun b o e nbO => by
          simp only [List.mem_cons, List.not_mem_nil, or_false, not_or] at nbO
          exact f2 _ _ (s1 _ _ e) nbO.2.1 nbO.2.2.1 nbO.2.2.2.1 nbO.2.2.2.2.1 (nr e).symm
        have g02 : ∀ b, H2 b = none → H b = none := fun b e => s1.free (f2.free F2 R2 e)
        have lh' : hs'.length = fin.left.length := cards_len F2.hc
        have hcc : ∀ c ∈ hs' ++ ts', c ∈ hs ++ ts ∨ H c = none := fun c hc => by
          rcases List.mem_append.mp hc with z | z
          · exact .inl (List.mem_append_left _ (by rw [eh]; exact List.mem_append_right _ z))
          · exact (g2.2 c z).imp (List.mem_append_right _) (fun y => s1.free y)
        by_cases cb : 0 < fin.begun
        · rw [if_pos (decide_eq_true (by omega))]
          have eo3 : DrumDeskSeed.on d (.run (kn : Int) (un : Int) (pn : Int)) = ({ d with m := fin.m, hopper := fin.left, tray := d.tray ++ fin.punched, log := d.log ++ [.ran fin.begun fin.read] }, [0, (fin.why : Int), (fin.begun : Int), (fin.read.length : Int), (fin.punched.length : Int)]) := by
            rw [if_neg (show ¬ fin.begun = 0 by omega)] at eo; exact eo
          obtain ⟨dx2, hk2⟩ := D2.obj
          refine ⟨dk, r, .ref x, st, jl, dx2, d.journal, x, st, hb, d.stops, fin.begun, ts.length, hs, d.hopper, fin.m, dr, hp, tr, hs', ts', fin.left, d.tray ++ fin.punched, pre, rfl, hk2, D2.jnl, R2, F2, eh, D.jh, (fun c hc => (D.F.cw c hc).1), by omega, D.jn, fun H3 k3 hj3 => ?_⟩
          have et : d.hopper.take fin.read.length = fin.read := by rw [ec, List.take_left]
          have el : d.hopper.length - fin.left.length = fin.read.length := by omega
          rw [el, et, List.append_assoc] at hj3
          have lfl : fin.read.flatten.length = 8 * fin.read.length := flat8 fun c hc => (D.F.cw c (by rw [ec]; exact List.mem_append_left _ hc)).1
          have lj : d.journal.length + (3 + 8 * d.hopper.length) ≤ 20000 := by
            unfold DrumDeskSeed.long DrumDeskSeed.LONGEST at cl
            have := of_decide_eq_false cl
            omega
          have erow : (Drum.Entry.ran fin.begun fin.read).row.length = 3 + fin.read.flatten.length := by
            show (([3, (fin.begun : Int), (fin.read.length : Int)] : List Int) ++ fin.read.flatten).length = _
            rw [List.length_append]; rfl
          have D3 := D2.notek (.ran fin.begun fin.read) k3 hj3 (by rw [erow]; show d.journal.length + _ ≤ _; omega)
          have R3 := R2.keepj D2.jnl k3 (nb D.jnl) D.jh
          have f03 : FrO [dk, x, dr, hp, tr, st, jl] H H3 := f02.trans fun b o e nbO => k3 b o e (fun z => nbO (by rw [z]; simp))
          have g03 : ∀ b, H3 b = none → H b = none := fun b e => g02 b (free_kept k3 hj3 e)
          obtain ⟨dxr3, hr3⟩ := R3.obj
          refine ⟨r, rfl, _, _, _, hr3, T.k_Run.cl, na_Run_begun T, _, rf_begun _ _ _ _ _, ?_⟩
          refine ⟨r, x, st, hb, d.stops, fin.begun, ts.length, hs, d.hopper, fin.m, dr, hp, tr, hs', ts', fin.left, d.tray ++ fin.punched, rfl, R3, D3.F, ⟨pre, eh⟩, fun E hE => ?_⟩
          have sE := same_upd (H := H3) (o := .lst ((hs.take (hs.length - hs'.length)).map V.ref)) hE
          refine ⟨_, rfl, _, upd_same, ?_⟩
          refine ⟨r, x, st, hb, d.stops, fin.begun, ts.length, hs, d.hopper, fin.m, dr, hp, tr, hs', ts', fin.left, d.tray ++ fin.punched, rfl, R3.same sE, D3.F.same sE, by decide, fun q hq => ?_⟩
          have e1 : (((hs.take (hs.length - hs'.length)).map V.ref).length : Int) = (fin.read.length : Int) := by rw [List.length_map, List.length_take]; omega
          have e2 : ((ts'.length : Int) - (ts.length : Nat)) = (fin.punched.length : Int) := by omega
          rw [e1, e2]
          exact on_fin h eo3 (D3.same sE) (f03.trans (.same sE)) (fun b hb' => g03 b (sE.free hb')) q hq hcc
        · rw [if_neg (by rw [decide_eq_true_iff]; omega)]
          have eo3 : DrumDeskSeed.on d (.run (kn : Int) (un : Int) (pn : Int)) = ({ d with m := fin.m, hopper := fin.left, tray := d.tray ++ fin.punched }, [0, (fin.why : Int), (fin.begun : Int), (fin.read.length : Int), (fin.punched.length : Int)]) := by
            rw [if_pos (show fin.begun = 0 by omega)] at eo; exact eo
          obtain ⟨dxr3, hr3⟩ := R2.obj
          refine ⟨r, rfl, _, _, _, hr3, T.k_Run.cl, na_Run_begun T, _, rf_begun _ _ _ _ _, ?_⟩
          refine ⟨r, x, st, hb, d.stops, fin.begun, ts.length, hs, d.hopper, fin.m, dr, hp, tr, hs', ts', fin.left, d.tray ++ fin.punched, rfl, R2, D2.F, ⟨pre, eh⟩, fun E hE => ?_⟩
          have sE := same_upd (H := H2) (o := .lst ((hs.take (hs.length - hs'.length)).map V.ref)) hE
          refine ⟨_, rfl, _, upd_same, ?_⟩
          refine ⟨r, x, st, hb, d.stops, fin.begun, ts.length, hs, d.hopper, fin.m, dr, hp, tr, hs', ts', fin.left, d.tray ++ fin.punched, rfl, R2.same sE, D2.F.same sE, by decide, fun q hq => ?_⟩
          have e1 : (((hs.take (hs.length - hs'.length)).map V.ref).length : Int) = (fin.read.length : Int) := by rw [List.length_map, List.length_take]; omega
          have e2 : ((ts'.length : Int) - (ts.length : Nat)) = (fin.punched.length : Int) := by omega
          rw [e1, e2]
          exact on_fin h eo3 (D2.same sE) (f02.trans (.same sE)) (fun b hb' => g02 b (sE.free hb')) q hq hcc
end Dd

namespace Dd
open PySem PySem.Spec PyProof.Rows L2
open Drum (Machine)
def ps_hand : List V → DrumDeskSeed.Call → Hp → Prop := fun args c H => ∃ w l, args = [.ref w] ∧ c = .hand l ∧ H w = some (.lst (l.map V.int)) ∧ l.length ≤ 100000
theorem ok_hand {P : Program} {w : World} {K : PySem.W.Frag} {mg : Str → Option Value} {A : Adr} {base : Heap} (T : Txt P w K mg A) : Callee P w K mg base 4 "hand" ["desk", "words"] (spOn A ps_hand) := by
  have G_are_cards := ok_are_cards (P := P) (w := w) (base := base) T
  have G_cards_of := ok_cards_of (P := P) (w := w) (base := base) T
  have SC := sc_hand
  refine T.f_hand.ok (k := 3) sc_hand (fun vs H Q E h => ?_) (fun f cdv Ar outer s H vs Q E hr h => ?_)
  · obtain ⟨dk, d, x, dr, hp, tr, st, jl, hs, ts, args, c, rfl, D, ⟨w, l, rfl, rfl, _⟩, _⟩ := h; rfl
  · obtain ⟨dk, d, x, dr, hp, tr, st, jl, hs, ts, args, c, rfl, D, ⟨w, l, rfl, rfl, hw, hl⟩, h⟩ := h
    obtain ⟨dx, hx⟩ := D.obj
    obtain ⟨dxm, hm⟩ := D.F.M.obj
    have hh := D.F.hop
    refine ⟨_, (pss_cons (ps_set (i := 2) SC.nd rfl (by first | exact Or.inl rfl | exact Or.inr rfl) (pe_fld (pe_fld (pv 0) rfl) rfl)) (pss_cons (ps_if (pt_not (pt_val (pe_callC G_are_cards hr (by decide) (pa_cons (pv 1) pa_nil)))) (pss_one (ps_ret (pe_lst (pa_cons (pe_gint T.c_WRONG) pa_nil)))) pss_nil) (pss_cons (ps_if (pt_cmpR op_gt (pe_op op_add (pe_callB call_len_lst (by rfl) T.b_len bt_len (pa_cons (pv 2) pa_nil)) (pe_op op_fdivB (pe_callB call_len_lst (by rfl) T.b_len bt_len (pa_cons (pv 1) pa_nil)) (pe_gint T.c_CARD_SIZE))) (pe_gint T.c_HOPPER_MOST) (nomark _)) (pss_one (ps_ret (pe_lst (pa_cons (pe_gint T.c_TOO_MANY) pa_nil)))) pss_nil) (pss_cons (ps_expr (pe_bmL PySem.F.slot_list_extend PySem.F.type_list_extend mt_extend (pv 2) (pa_cons (pe_callC G_cards_of hr (by decide) (pa_cons (pv 1) pa_nil)) pa_nil))) (pss_one (ps_ret (pe_lst (pa_cons pe_int (pa_cons (pe_callB call_len_lst (by rfl) T.b_len bt_len (pa_cons (pv 2) pa_nil)) pa_nil))))))))), ?_⟩
    simp_arith [T.k_Machine.cl, na_Machine_state T, na_Machine_over T, na_Machine_order_at T, na_Machine_tick T, na_Machine_a T, na_Machine_d T, na_Machine_drum T, na_Machine_hopper T, na_Machine_tray T, T.k_Run.cl, na_Run_machine T, na_Run_stops T, na_Run_begun T, na_Run_hopper_before T, na_Run_tray_before T, T.k_Desk.cl, na_Desk_machine T, na_Desk_stops T, na_Desk_journal T, mf_state, mf_over, mf_order_at, mf_tick, mf_a, mf_d, mf_drum, mf_hopper, mf_tray, mp_state, mp_over, mp_over1, mp_over0, mp_order_at, mp_tick, mp_a, mp_d, mp_hopper, mp_tray, mf_len, df_machine, df_stops, df_journal, dp_machine, dp_stops, dp_journal, df_len, hx, hm, sp1]
    refine ⟨w, l, rfl, hw, hl, fun H1 s1 => ⟨_, rfl, ?_⟩⟩
    have D1 := D.same s1
    cases cb : DrumDeskSeed.handed l with
    | false =>
      refine nF ?_
      exact ⟨by decide, fun p hq => on_fin h (on_hand_bad cb) D1 (.same s1) (fun b => s1.free) p hq⟩
    | true =>
      refine nT ?_
      refine ⟨_, s1 _ _ hh, _, s1 _ _ hw, ⟨by decide, by decide⟩, ?_⟩
      rw [List.length_map, List.length_map]
      have hlen : hs.length = d.hopper.length := cards_len D.F.hc
      have hH : Drum.HOLDS = 64 := rfl
      have cb' := cb
      unfold DrumDeskSeed.handed DrumDeskSeed.HAND at cb'
      rw [Bool.and_eq_true, Bool.and_eq_true, decide_eq_true_iff, beq_iff_eq, List.all_eq_true] at cb'
      obtain ⟨b1, b2, b3⟩ := cb'
      by_cases c2 : Drum.HOLDS < d.hopper.length + l.length / 8
      · rw [if_pos (decide_eq_true (by omega))]
        exact ⟨by decide, fun p hq => on_fin h (on_hand_many cb c2) D1 (.same s1) (fun b => s1.free) p hq⟩
      · rw [if_neg (by rw [decide_eq_true_iff]; omega)]
        have h8 : l.length = 8 * (l.length / 8) := by omega
        refine ⟨⟨_, s1 _ _ hh⟩, w, l, l.length / 8, rfl, s1 _ _ hw, h8, hl, fun H2 E as hE s2 hE' hc ha' => ?_⟩
        have D2 := D1.same s2
        have la := cards_len hc
        rw [eights_len h8] at la
        have hsz : sizeLine = 16777216 := by decide
        refine ⟨_, rfl, _, s2 _ _ (s1 _ _ hh), _, hE', by rw [List.length_map, List.length_map]; omega, by decide, fun q hq => ?_⟩
        have nn : ∀ {a b : Addr} {o : HO}, a ∈ as → H1 b = some o → a ≠ b := fun ha e z => by rw [z] at ha; rw [(ha' _ ha).1] at e; cases e
        obtain ⟨dxm1, hm1⟩ := D1.F.M.obj
        have F3 := D2.F.more hc (fun c hc' => ⟨nn hc' D1.F.M.drum, nn hc' D1.F.hop, nn hc' D1.F.tray, nn hc' hm1⟩) (eights_ok h8 b3)
        rw [← List.map_append] at hq ⊢
        have ek : dk ≠ hp := (D2.nl D2.F.hop).1.symm
        have es : st ≠ hp := (D2.nl D2.F.hop).2.2.symm
        have D3 := D2.mach (d' := { d with hopper := d.hopper ++ Drum.eights (l.length + 1) l }) F3 (fun o e => by rw [upd_ne ek]; exact e) (fun o e => by rw [upd_ne es]; exact e) (fun o e => by rw [upd_ne D2.jhp]; exact e) rfl rfl D2.jhp D2.jtr
          (fun c hc' => by
            rcases List.mem_append.mp hc' with z | z
            · exact D2.jh c z
            · exact nn z D1.jnl) D2.jt (by show (d.hopper ++ _).length ≤ 64; rw [List.length_append, eights_len h8]; omega) D2.tn
        have e := on_hand_ok cb c2
        have le : (d.hopper ++ Drum.eights (l.length + 1) l).length = ((hs ++ as).map V.ref).length := by rw [List.length_map, List.length_append, List.length_append, eights_len h8, hlen, la]
        rw [le] at e
        exact on_fin h e D3 ((FrO.same (s1.trans s2)).trans (FrO.upd (by simp))) (fun b hb => (s1.trans s2).free (upd_none hb).2) q hq (fun c hc => by
          rcases List.mem_append.mp hc with z | z
          · rcases List.mem_append.mp z with y | y
            · exact .inl (List.mem_append_left _ y)
            · exact .inr (s1.free (ha' c y).1)
          · exact .inl (List.mem_append_right _ z))
end Dd

namespace Dd
open PySem PySem.Spec PyProof.Rows L2
open Drum (Machine)
def PlayTo (A : Adr) (H : Hp) (dk : Addr) (O : List Addr) (r : Option Drum.Desk) (Q : VK) : Prop :=
  (r = none → ∀ H', FrO O H H' → Q (.bl false) H') ∧ ∀ d', r = some d' → ∀ H' O', StAt A H' dk (some d') O' → (∀ b ∈ O', b ∈ O ∨ H b = none) → FrO O H H' → Q (.bl true) H'
def ranRow (d : Drum.Desk) (a : Int) (s : List Int) : Option Drum.Desk := if (Drum.within a (Drum.ORDERS + 1) && s.all Drum.isWord) = true then d.do_ (.ran a.toNat (Drum.eights (s.length + 1) s)) else none
def sp_play_run (A : Adr) : Sp := fun vs H Q _ => ∃ (dk w : Addr) (d : Drum.Desk) (O : List Addr) (a : Int) (s : List Int) (kk : Nat), vs = [.ref dk, .int a, .ref w] ∧ StAt A H dk (some d) O ∧ d.hopper = [] ∧ d.tray = [] ∧ H w = some (.lst (s.map V.int)) ∧ s.length = 8 * kk ∧ d.journal.length + 3 + s.length ≤ 20000 ∧ PlayTo A H dk O (ranRow d a s) Q
theorem ranRow_out {d : Drum.Desk} {a : Int} {s : List Int} (h : ¬ (1 ≤ a ∧ a ≤ 10000)) : ranRow d a s = none := by
  unfold ranRow
  split
  · rename_i q
    rw [Bool.and_eq_true, within_iff] at q
    unfold Drum.ORDERS at q
    exact do_ran_bad (by omega)
  · rfl
theorem ranRow_words {d : Drum.Desk} {a : Int} {s : List Int} (h : s.all Drum.isWord = false) : ranRow d a s = none := by
  unfold ranRow
  rw [h, Bool.and_false]; rfl
theorem ranRow_in {d : Drum.Desk} {n : Nat} {s : List Int} (h1 : 1 ≤ n) (h2 : n ≤ 10000) (h : s.all Drum.isWord = true) : ranRow d (n : Int) s = if (Drum.run n Drum.WRAP d.m (Drum.eights (s.length + 1) s)).begun ≠ n ∨ (Drum.run n Drum.WRAP d.m (Drum.eights (s.length + 1) s)).read ≠ (Drum.eights (s.length + 1) s).length then none else some { d with m := (Drum.run n Drum.WRAP d.m (Drum.eights (s.length + 1) s)).m, log := d.log ++ [.ran n (Drum.eights (s.length + 1) s)] } := by
  unfold ranRow
  rw [if_pos (by rw [h, Bool.and_true, within_iff]; unfold Drum.ORDERS; omega), Int.toNat_natCast, do_ran h1 h2]
end Dd

namespace Dd
open PySem PySem.Spec PyProof.Rows L2
open Drum (Machine)
def sp_pairs_end : Sp := fun vs H Q _ => ∃ (w : Addr) (ns : List Int) (z : Int), vs = [.ref w] ∧ H w = some (.lst (ns.map V.int)) ∧ ns[6]? = some z ∧ Q (.int (7 + z)) H
theorem ok_pairs_end {P : Program} {w : World} {K : PySem.W.Frag} {mg : Str → Option Value} {A : Adr} {base : Heap} (T : Txt P w K mg A) : Callee P w K mg base 1 "pairs_end" ["numbers"] sp_pairs_end := by
  have SC := sc_pairs_end
  refine T.f_pairs_end.ok (k := 0) sc_pairs_end (fun vs H Q E h => ?_) (fun f cdv Ar outer s H vs Q E hr h => ?_)
  · obtain ⟨w, ns, z, rfl, _⟩ := h; rfl
  · obtain ⟨w, ns, z, rfl, hw, hz, h⟩ := h
    have e6 : atI (ns.map V.int) 6 = some (.int z) := atI_map (i := 6) hz
    refine ⟨_, (pss_one (ps_ret (pe_op op_add (pe_gint T.c_HEAD_SIZE) (pe_ix ix_lst (pv 0) (pe_gint T.c_PARTS_SIZE) (fun _ _ => rfl))))), ?_⟩
    simp_arith [hw, e6]
    exact h
def headOk : List Int → Bool
  | _ :: _ :: _ :: _ :: _ :: _ :: k :: r => decide (0 ≤ k) && decide (k ≤ (r.length : Int))
  | _ => false
def sp_has_head : Sp := fun vs H Q _ => ∃ (w : Addr) (ns : List Int), vs = [.ref w] ∧ H w = some (.lst (ns.map V.int)) ∧ Q (.bl (headOk ns)) H
theorem short7 : ∀ {ns : List Int}, ns.length < 7 → headOk ns = false
  | [], _ => rfl
  | [_], _ => rfl
  | [_, _], _ => rfl
  | [_, _, _], _ => rfl
  | [_, _, _, _], _ => rfl
  | [_, _, _, _, _], _ => rfl
  | [_, _, _, _, _, _], _ => rfl
  | _ :: _ :: _ :: _ :: _ :: _ :: _ :: _, h => by simp at h; omega
theorem long7 : ∀ {ns : List Int}, 7 ≤ ns.length → ∃ st ov n t a d k r, ns = st :: ov :: n :: t :: a :: d :: k :: r
  | st :: ov :: n :: t :: a :: d :: k :: r, _ => ⟨st, ov, n, t, a, d, k, r, rfl⟩
  | [], h => by simp at h
  | [_], h => by simp at h
  | [_, _], h => by simp at h
  | [_, _, _], h => by simp at h
  | [_, _, _, _], h => by simp at h
  | [_, _, _, _, _], h => by simp at h
  | [_, _, _, _, _, _], h => by simp at h
theorem ok_has_head {P : Program} {w : World} {K : PySem.W.Frag} {mg : Str → Option Value} {A : Adr} {base : Heap} (T : Txt P w K mg A) : Callee P w K mg base 2 "has_head" ["numbers"] sp_has_head := by
  have G_pairs_end := ok_pairs_end (P := P) (w := w) (base := base) T
  have SC := sc_has_head
  refine T.f_has_head.ok (k := 1) sc_has_head (fun vs H Q E h => ?_) (fun f cdv Ar outer s H vs Q E hr h => ?_)
  · obtain ⟨w, ns, rfl, _⟩ := h; rfl
  · obtain ⟨w, ns, rfl, hw, h⟩ := h
    refine ⟨_, (pss_cons (ps_if (PW.pt (pw_or (pt_cmpR op_lt (pe_callB call_len_lst (by rfl) T.b_len bt_len (pa_cons (pv 0) pa_nil)) (pe_gint T.c_HEAD_SIZE) (nomark _)) (pw_or1 (pt_cmpR op_lt (pe_ix ix_lst (pv 0) (pe_gint T.c_PARTS_SIZE) (fun _ _ => rfl)) pe_int (nomark _))))) (pss_one (ps_ret pe_bl)) pss_nil) (pss_one (ps_ret (pe_cmpR op_le (pe_callC G_pairs_end hr (by decide) (pa_cons (pv 0) pa_nil)) (pe_callB call_len_lst (by rfl) T.b_len bt_len (pa_cons (pv 0) pa_nil)) (nomark _))))), ?_⟩
    by_cases c : ns.length < 7
    · rw [short7 c] at h
      simp_arith [hw, List.length_map]
      rw [if_pos (decide_eq_true (by omega))]
      exact h
    · obtain ⟨st, ov, n, t, a, d, k, r, rfl⟩ := long7 (ns := ns) (by omega)
      have e6 : atI ((st :: ov :: n :: t :: a :: d :: k :: r).map V.int) 6 = some (.int k) := atI_map (i := 6) rfl
      simp_arith [hw, e6, List.length_map]
      rw [if_neg (by rw [decide_eq_true_iff]; omega)]
      have e : headOk (st :: ov :: n :: t :: a :: d :: k :: r) = (decide (0 ≤ k) && decide (k ≤ (r.length : Int))) := rfl
      rw [e] at h
      by_cases c0 : k < 0
      · rw [if_pos (decide_eq_true c0)]
        rw [decide_eq_false (by omega), Bool.false_and] at h; exact h
      · rw [if_neg (by rw [decide_eq_true_iff]; exact c0)]
        refine ⟨w, _, k, rfl, hw, rfl, ?_⟩
        refine ⟨_, hw, _, rfl, ?_⟩
        rw [decide_eq_true (show 0 ≤ k by omega), Bool.true_and] at h
        have e2 : decide (7 + k ≤ ((((st :: ov :: n :: t :: a :: d :: k :: r).map V.int).length : Nat) : Int)) = decide (k ≤ (r.length : Int)) := decide_eq_decide.mpr (by rw [List.length_map]; simp only [List.length_cons]; omega)
        rw [e2]; exact h
def faultM : List Int → Nat
  | st :: ov :: n :: t :: a :: d :: k :: r => if k < 0 ∨ (r.length : Int) < k then 1 else (match Drum.machineOf st ov n t a d (r.take k.toNat) with
    | some (some _) => 0
    | _ => 2)
  | _ => 1
theorem fault1 {ns : List Int} (h : headOk ns = false) : faultM ns = 1 := by
  by_cases c : ns.length < 7
  · match ns, c with
    | [], _ => rfl
    | [_], _ => rfl
    | [_, _], _ => rfl
    | [_, _, _], _ => rfl
    | [_, _, _, _], _ => rfl
    | [_, _, _, _, _], _ => rfl
    | [_, _, _, _, _, _], _ => rfl
    | _ :: _ :: _ :: _ :: _ :: _ :: _ :: _, h => simp at h; omega
  · obtain ⟨st, ov, n, t, a, d, k, r, rfl⟩ := long7 (ns := ns) (by omega)
    have h' : (decide (0 ≤ k) && decide (k ≤ (r.length : Int))) = false := h
    show (if _ then _ else _) = _
    rw [if_pos]
    by_cases c0 : 0 ≤ k
    · rw [decide_eq_true c0, Bool.true_and] at h'
      have := of_decide_eq_false h'
      omega
    · omega
theorem faultM_eq {st ov n t a d : Int} {kn : Nat} {r : List Int} (hk : kn ≤ r.length) : faultM (st :: ov :: n :: t :: a :: d :: (kn : Int) :: r) = (match Drum.machineOf st ov n t a d (r.take kn) with
    | some (some _) => 0
    | _ => 2) := by
  show (if _ then _ else _) = _
  rw [if_neg (by omega), Int.toNat_natCast]
theorem cut_nat0 {l : List Int} {j : Nat} (hj : j ≤ l.length) : cutV (l.map V.int) none (some (j : Int)) = (l.take j).map V.int := by
  unfold cutV
  rw [HT.sIx_none, HT.sIx_nat, List.length_map, Nat.min_eq_left hj, List.drop_zero, Nat.sub_zero, ← List.map_take]
def sp_fault_of_machine : Sp := fun vs H Q _ => ∃ (w : Addr) (ns : List Int), vs = [.ref w] ∧ H w = some (.lst (ns.map V.int)) ∧ ns.length ≤ 20000 ∧ ∀ H', Same H H' → Q (.int (faultM ns)) H'
theorem ok_fault_of_machine {P : Program} {w : World} {K : PySem.W.Frag} {mg : Str → Option Value} {A : Adr} {base : Heap} (T : Txt P w K mg A) : Callee P w K mg base 3 "fault_of_machine" ["numbers"] sp_fault_of_machine := by
  have G_are_parts := ok_are_parts (P := P) (w := w) (base := base) T
  have G_are_pairs := ok_are_pairs (P := P) (w := w) (base := base) T
  have G_pairs_end := ok_pairs_end (P := P) (w := w) (base := base) T
  have G_has_head := ok_has_head (P := P) (w := w) (base := base) T
  have SC := sc_fault_of_machine
  refine T.f_fault_of_machine.ok (k := 2) sc_fault_of_machine (fun vs H Q E h => ?_) (fun f cdv Ar outer s H vs Q E hr h => ?_)
  · obtain ⟨w, ns, rfl, _⟩ := h; rfl
  · obtain ⟨w, ns, rfl, hw, hl, h⟩ := h
    refine ⟨_, (pss_cons (ps_if (pt_not (pt_val (pe_callC G_has_head hr (by decide) (pa_cons (pv 0) pa_nil)))) (pss_one (ps_ret (pe_gint T.c_NO_HEAD))) pss_nil) (pss_cons (ps_if (PW.pt (pw_or (pt_not (pt_val (pe_callC G_are_parts hr (by decide) (pa_cons (pe_slice sl_lst (pv 0) po_none (po_some (pe_gint T.c_PARTS_SIZE))) pa_nil)))) (pw_or1 (pt_not (pt_val (pe_callC G_are_pairs hr (by decide) (pa_cons (pe_slice sl_lst (pv 0) (po_some (pe_gint T.c_HEAD_SIZE)) (po_some (pe_callC G_pairs_end hr (by decide) (pa_cons (pv 0) pa_nil)))) pa_nil))))))) (pss_one (ps_ret (pe_gint T.c_NOT_LOADED))) pss_nil) (pss_one (ps_ret (pe_gint T.c_NO_FAULT))))), ?_⟩
    simp_arith [hw]
    refine ⟨w, ns, rfl, hw, _, rfl, ?_⟩
    cases ch : headOk ns with
    | false =>
      refine nF ?_
      rw [fault1 ch] at h
      exact h H fun _ _ q => q
    | true =>
      refine nT ?_
      have c7 : ¬ ns.length < 7 := fun q => by rw [short7 q] at ch; cases ch
      obtain ⟨st, ov, n, t, a, d, k, r, rfl⟩ := long7 (ns := ns) (by omega)
      have ch' : (decide (0 ≤ k) && decide (k ≤ (r.length : Int))) = true := ch
      rw [Bool.and_eq_true, decide_eq_true_iff, decide_eq_true_iff] at ch'
      obtain ⟨kn, rfl⟩ : ∃ n : Nat, k = (n : Int) := ⟨k.toNat, by omega⟩
      have hkr : kn ≤ r.length := by omega
      rw [faultM_eq hkr, machineOf_eq] at h
      have hl' : (st :: ov :: n :: t :: a :: d :: (kn : Int) :: r).length = r.length + 7 := by simp only [List.length_cons]
      refine ⟨_, hw, fun p hp => ?_⟩
      have e6 : cutV ((st :: ov :: n :: t :: a :: d :: (kn : Int) :: r).map V.int) none (some 6) = [.int st, .int ov, .int n, .int t, .int a, .int d] := cut_nat0 (j := 6) (by omega)
      rw [e6]
      have s1 := same_upd (H := H) (o := .lst [.int st, .int ov, .int n, .int t, .int a, .int d]) hp
      refine ⟨p, st, ov, n, t, a, d, rfl, upd_same, _, rfl, ?_⟩
      cases c1 : partsOk st ov n t a d with
      | false =>
        refine nF ?_
        rw [c1] at h
        exact h _ s1
      | true =>
        refine nT ?_
        rw [c1] at h
        refine ⟨w, _, (kn : Int), rfl, s1 _ _ hw, rfl, _, rfl, _, s1 _ _ hw, fun q hq => ?_⟩
        have e7 : cutV ((st :: ov :: n :: t :: a :: d :: (kn : Int) :: r).map V.int) (some 7) (some (7 + (kn : Int))) = (r.take kn).map V.int := by
          have := cut_nat (l := st :: ov :: n :: t :: a :: d :: (kn : Int) :: r) (i := 7) (j := 7 + kn) (by omega) (by omega)
          rw [Nat.add_sub_cancel_left] at this
          rw [Int.natCast_add] at this
          exact this
        rw [e7]
        have s2 := s1.trans (same_upd (o := .lst ((r.take kn).map V.int)) hq)
        refine ⟨q, r.take kn, rfl, upd_same, by rw [List.length_take]; omega, _, rfl, ?_⟩
        cases c2 : Drum.noted (r.take kn) 0 with
        | none =>
          refine nF ?_
          rw [c2] at h
          exact h _ s2
        | some ps =>
          refine nT ?_
          rw [c2] at h
          exact h _ s2
end Dd

namespace Dd
open PySem PySem.Spec PyProof.Rows L2
open Drum (Machine)
def sp_has_three : Sp := fun vs H Q _ => ∃ (w : Addr) (ns : List Int) (p : Nat), vs = [.ref w, .int p] ∧ H w = some (.lst (ns.map V.int)) ∧ Q (.bl (decide (p + 3 ≤ ns.length))) H
theorem ok_has_three {P : Program} {w : World} {K : PySem.W.Frag} {mg : Str → Option Value} {A : Adr} {base : Heap} (T : Txt P w K mg A) : Callee P w K mg base 1 "has_three" ["numbers", "at"] sp_has_three := by
  have SC := sc_has_three
  refine T.f_has_three.ok (k := 0) sc_has_three (fun vs H Q E h => ?_) (fun f cdv Ar outer s H vs Q E hr h => ?_)
  · obtain ⟨w, ns, p, rfl, _⟩ := h; rfl
  · obtain ⟨w, ns, p, rfl, hw, h⟩ := h
    refine ⟨_, (pss_one (ps_ret (pe_cmpR op_le (pe_op op_add (pv 1) (pe_gint T.c_ENTRY_SIZE)) (pe_callB call_len_lst (by rfl) T.b_len bt_len (pa_cons (pv 0) pa_nil)) (nomark _)))), ?_⟩
    simp_arith [hw, List.length_map]
    rw [decide_eq_decide.mpr (show ((p : Int) + 3 ≤ (ns.length : Int)) ↔ p + 3 ≤ ns.length by omega)]
    exact h
def wrongAt : List Int → Bool
  | z :: _ :: v :: _ => if z = 3 then !(decide (0 ≤ v) && decide (v ≤ 10000)) else !(z == 1) && !(z == 2)
  | z :: _ => if z = 3 then false else !(z == 1) && !(z == 2)
  | [] => false
def sizeAt : List Int → Int
  | z :: _ :: v :: _ => if z = 3 then 3 + 8 * v else 3
  | _ => 3
def sp_begins_wrong : Sp := fun vs H Q _ => ∃ (w : Addr) (ns : List Int) (p : Nat), vs = [.ref w, .int p] ∧ H w = some (.lst (ns.map V.int)) ∧ p < ns.length ∧ Q (.bl (wrongAt (ns.drop p))) H
theorem at_drop {ns : List Int} {p : Nat} (h : p < ns.length) : ∃ z r, ns.drop p = z :: r ∧ ns[p]? = some z ∧ r.length + p + 1 = ns.length ∧ ∀ i : Nat, ns[p + 1 + i]? = r[i]? := by
  refine ⟨ns[p], ns.drop (p + 1), List.drop_eq_getElem_cons h, List.getElem?_eq_getElem h, by rw [List.length_drop]; omega, fun i => by rw [List.getElem?_drop]⟩
theorem two_of {r : List Int} (h : 2 ≤ r.length) : ∃ a v s, r = a :: v :: s := by
  match r, h with
  | a :: v :: s, _ => exact ⟨a, v, s, rfl⟩
  | [_], h => simp at h
theorem wrong_short {r : List Int} (h : r.length < 2) : wrongAt (3 :: r) = false ∧ sizeAt (3 :: r) = 3 := by
  match r, h with
  | [], _ => exact ⟨rfl, rfl⟩
  | [_], _ => exact ⟨rfl, rfl⟩
  | _ :: _ :: _, h => simp at h; omega
theorem wrong_not {z : Int} (r : List Int) (h : ¬ z = 3) : wrongAt (z :: r) = (!(decide (z = 1)) && !(decide (z = 2))) ∧ sizeAt (z :: r) = 3 := by
  match r with
  | [] => exact ⟨if_neg h, rfl⟩
  | [_] => exact ⟨if_neg h, rfl⟩
  | _ :: _ :: _ => exact ⟨if_neg h, if_neg h⟩
theorem ok_begins_wrong {P : Program} {w : World} {K : PySem.W.Frag} {mg : Str → Option Value} {A : Adr} {base : Heap} (T : Txt P w K mg A) : Callee P w K mg base 2 "begins_wrong" ["numbers", "at"] sp_begins_wrong := by
  have G_has_three := ok_has_three (P := P) (w := w) (base := base) T
  have SC := sc_begins_wrong
  refine T.f_begins_wrong.ok (k := 1) sc_begins_wrong (fun vs H Q E h => ?_) (fun f cdv Ar outer s H vs Q E hr h => ?_)
  · obtain ⟨w, ns, p, rfl, _⟩ := h; rfl
  · obtain ⟨w, ns, p, rfl, hw, hp, h⟩ := h
    obtain ⟨z, r, ed, ez, el, ei⟩ := at_drop hp
    have e0 : atI (ns.map V.int) (p : Int) = some (.int z) := atI_map ez
    refine ⟨_, (pss_cons (ps_if (pt_cmpR op_eq (pe_ix ix_lst (pv 0) (pv 1) (fun _ _ => rfl)) (pe_gint T.c_RUN_ENTRY) (nomark _)) (pss_one (ps_ret (pe_and (pe_callC G_has_three hr (by decide) (pa_cons (pv 0) (pa_cons (pv 1) pa_nil))) (pe_one (pe_not (pe_chain op_le op_le pe_int (pe_ix ix_lst (pv 0) (pe_op op_add (pv 1) pe_int) (fun _ _ => rfl)) (pe_gint T.c_CARDS_MOST))))))) pss_nil) (pss_one (ps_ret (pe_and (pe_cmpR op_ne (pe_ix ix_lst (pv 0) (pv 1) (fun _ _ => rfl)) (pe_gint T.c_PUT_ENTRY) (nomark _)) (pe_one (pe_cmpR op_ne (pe_ix ix_lst (pv 0) (pv 1) (fun _ _ => rfl)) (pe_gint T.c_STOP_ENTRY) (nomark _))))))), ?_⟩
    simp_arith [hw, e0]
    rw [ed] at h
    by_cases c3 : z = 3
    · rw [if_pos (decide_eq_true c3)]
      subst c3
      refine ⟨w, ns, p, rfl, hw, _, rfl, ?_⟩
      by_cases cl : p + 3 ≤ ns.length
      · rw [decide_eq_true cl, if_pos rfl]
        obtain ⟨a, v, s, rfl⟩ := two_of (r := r) (by omega)
        have e2 : atI (ns.map V.int) ((p : Int) + 2) = some (.int v) := atI_map (i := p + 1 + 1) (ei 1)
        refine ⟨_, hw, _, e2, v, rfl, ?_⟩
        have h' : Q (.bl (!(decide (0 ≤ v) && decide (v ≤ 10000)))) H := h
        by_cases c0 : 0 ≤ v
        · rw [if_pos (decide_eq_true c0)]
          rw [decide_eq_true c0, Bool.true_and] at h'
          exact ⟨v, rfl, h'⟩
        · rw [if_neg (by rw [decide_eq_true_iff]; exact c0)]
          rw [decide_eq_false c0, Bool.false_and] at h'
          exact h'
      · rw [decide_eq_false cl, if_neg (by decide)]
        rw [(wrong_short (r := r) (by omega)).1] at h
        exact h
    · rw [if_neg (by rw [decide_eq_true_iff]; exact c3)]
      rw [(wrong_not r c3).1] at h
      cases c1 : decide (z = 1) with
      | true =>
        rw [c1] at h
        exact nT h
      | false =>
        rw [c1] at h
        exact nF h
def sp_entry_end : Sp := fun vs H Q _ => ∃ (w : Addr) (ns : List Int) (p : Nat), vs = [.ref w, .int p] ∧ H w = some (.lst (ns.map V.int)) ∧ p < ns.length ∧ (wrongAt (ns.drop p) = false) ∧ Q (.int (p + sizeAt (ns.drop p))) H
theorem ok_entry_end {P : Program} {w : World} {K : PySem.W.Frag} {mg : Str → Option Value} {A : Adr} {base : Heap} (T : Txt P w K mg A) : Callee P w K mg base 2 "entry_end" ["numbers", "at"] sp_entry_end := by
  have G_has_three := ok_has_three (P := P) (w := w) (base := base) T
  have SC := sc_entry_end
  refine T.f_entry_end.ok (k := 1) sc_entry_end (fun vs H Q E h => ?_) (fun f cdv Ar outer s H vs Q E hr h => ?_)
  · obtain ⟨w, ns, p, rfl, _⟩ := h; rfl
  · obtain ⟨w, ns, p, rfl, hw, hp, hn, h⟩ := h
    obtain ⟨z, r, ed, ez, el, ei⟩ := at_drop hp
    have e0 : atI (ns.map V.int) (p : Int) = some (.int z) := atI_map ez
    refine ⟨_, (pss_cons (ps_if (PW.pt (pw_and (pt_cmpR op_eq (pe_ix ix_lst (pv 0) (pv 1) (fun _ _ => rfl)) (pe_gint T.c_RUN_ENTRY) (nomark _)) (pw_and1 (pt_val (pe_callC G_has_three hr (by decide) (pa_cons (pv 0) (pa_cons (pv 1) pa_nil))))))) (pss_one (ps_ret (pe_op op_add (pe_op op_add (pv 1) (pe_gint T.c_ENTRY_SIZE)) (pe_op op_mulB (pe_gint T.c_CARD_SIZE) (pe_ix ix_lst (pv 0) (pe_op op_add (pv 1) pe_int) (fun _ _ => rfl)))))) pss_nil) (pss_one (ps_ret (pe_op op_add (pv 1) (pe_gint T.c_ENTRY_SIZE))))), ?_⟩
    simp_arith [hw, e0]
    rw [ed] at h hn
    by_cases c3 : z = 3
    · rw [if_pos (decide_eq_true c3)]
      subst c3
      refine ⟨w, ns, p, rfl, hw, _, rfl, ?_⟩
      by_cases cl : p + 3 ≤ ns.length
      · rw [decide_eq_true cl, if_pos rfl]
        obtain ⟨a, v, s, rfl⟩ := two_of (r := r) (by omega)
        have e2 : atI (ns.map V.int) ((p : Int) + 2) = some (.int v) := atI_map (i := p + 1 + 1) (ei 1)
        have hn' : (!(decide (0 ≤ v) && decide (v ≤ 10000))) = false := hn
        rw [Bool.not_eq_false', Bool.and_eq_true, decide_eq_true_iff, decide_eq_true_iff] at hn'
        refine ⟨_, hw, _, e2, v, rfl, ⟨by decide, by show v.natAbs < 2 ^ 100; omega⟩, ?_⟩
        have h' : Q (.int ((p : Int) + (3 + 8 * v))) H := h
        rw [Int.add_assoc]
        exact h'
      · rw [decide_eq_false cl, if_neg (by decide)]
        rw [(wrong_short (r := r) (by omega)).2] at h
        exact h
    · rw [if_neg (by rw [decide_eq_true_iff]; exact c3)]
      rw [(wrong_not r c3).2] at h
      exact h
end Dd

namespace Dd
open PySem PySem.Spec PyProof.Rows L2
open Drum (Machine)
def sp_fault : Sp := fun vs H Q _ => ∃ k p : Int, vs = [.int k, .int p] ∧ ∀ D, H D = none → Q (.ref D) (upd H D (.lst [.int 0, .int k, .int p, .int 0, .int 0]))
theorem ok_fault {P : Program} {w : World} {K : PySem.W.Frag} {mg : Str → Option Value} {A : Adr} {base : Heap} (T : Txt P w K mg A) : Callee P w K mg base 1 "fault" ["kind", "place"] sp_fault := by
  have SC := sc_fault
  refine T.f_fault.ok (k := 0) sc_fault (fun vs H Q E h => ?_) (fun f cdv Ar outer s H vs Q E hr h => ?_)
  · obtain ⟨k, p, rfl, _⟩ := h; rfl
  · obtain ⟨k, p, rfl, h⟩ := h
    refine ⟨_, (pss_one (ps_ret (pe_lst (pa_cons pe_int (pa_cons (pv 0) (pa_cons (pv 1) (pa_cons pe_int (pa_cons pe_int pa_nil)))))))), ?_⟩
    simp_arith
    exact ⟨by decide, h⟩
def sp_take_over (A : Adr) : Sp := fun vs H Q _ => ∃ (dk pk dx dxp : Addr) (mv mvp : V) (st jl stp jlp : Addr), vs = [.ref dk, .ref pk] ∧ dk ≠ pk ∧ H dk = some (.ins A.cDesk dx (df mv st jl)) ∧ H pk = some (.ins A.cDesk dxp (df mvp stp jlp)) ∧ Q .non (upd H dk (.ins A.cDesk dx (df mvp stp jlp)))
theorem ok_take_over {P : Program} {w : World} {K : PySem.W.Frag} {mg : Str → Option Value} {A : Adr} {base : Heap} (T : Txt P w K mg A) : Callee P w K mg base 1 "take_over" ["desk", "played"] (sp_take_over A) := by
  have SC := sc_take_over
  refine T.f_take_over.ok (k := 0) sc_take_over (fun vs H Q E h => ?_) (fun f cdv Ar outer s H vs Q E hr h => ?_)
  · obtain ⟨dk, pk, dx, dxp, mv, mvp, st, jl, stp, jlp, rfl, _⟩ := h; rfl
  · obtain ⟨dk, pk, dx, dxp, mv, mvp, st, jl, stp, jlp, rfl, nk, hk, hpk, h⟩ := h
    refine ⟨_, (pss_cons (ps_fld (pv 0) (pe_fld (pv 1) rfl) rfl) (pss_cons (ps_fld (pv 0) (pe_fld (pv 1) rfl) rfl) (pss_one (ps_fld (pv 0) (pe_fld (pv 1) rfl) rfl)))), ?_⟩
    simp_arith [T.k_Machine.cl, na_Machine_state T, na_Machine_over T, na_Machine_order_at T, na_Machine_tick T, na_Machine_a T, na_Machine_d T, na_Machine_drum T, na_Machine_hopper T, na_Machine_tray T, T.k_Run.cl, na_Run_machine T, na_Run_stops T, na_Run_begun T, na_Run_hopper_before T, na_Run_tray_before T, T.k_Desk.cl, na_Desk_machine T, na_Desk_stops T, na_Desk_journal T, df_machine, df_stops, df_journal, dp_machine, dp_stops, dp_journal, df_len, hk, hpk, upd_ne nk.symm]
    exact h
end Dd

namespace Dd
open PySem PySem.Spec PyProof.Rows L2
open Drum (Machine)
def ps_tray : List V → DrumDeskSeed.Call → Hp → Prop := fun args c _ => args = [] ∧ c = .tray
theorem ok_tray {P : Program} {w : World} {K : PySem.W.Frag} {mg : Str → Option Value} {A : Adr} {base : Heap} (T : Txt P w K mg A) : Callee P w K mg base 1 "tray" ["desk"] (spOn A ps_tray) := by
  have SC := sc_tray
  refine T.f_tray.ok (k := 0) sc_tray (fun vs H Q E h => ?_) (fun f cdv Ar outer s H vs Q E hr h => ?_)
  · obtain ⟨dk, d, x, dr, hp, tr, st, jl, hs, ts, args, c, rfl, D, ⟨rfl, rfl⟩, _⟩ := h; rfl
  · obtain ⟨dk, d, x, dr, hp, tr, st, jl, hs, ts, args, c, rfl, D, ⟨rfl, rfl⟩, h⟩ := h
    obtain ⟨dx, hx⟩ := D.obj
    obtain ⟨dxm, hm⟩ := D.F.M.obj
    have ht := D.F.tray
    refine ⟨_, (pss_cons (ps_set (i := 1) SC.nd rfl (by first | exact Or.inl rfl | exact Or.inr rfl) (pe_fld (pv 0) rfl)) (pss_cons (ps_set (i := 2) SC.nd rfl (by first | exact Or.inl rfl | exact Or.inr rfl) (pe_lst pa_nil)) (pss_cons (ps_for PassesOwn.never rfl (pi_list (pe_fld (pv 1) rfl)) (pg_name (i := 3) SC.nd rfl (by first | exact Or.inl rfl | exact Or.inr rfl)) (pss_one (ps_expr (pe_bmL PySem.F.slot_list_extend PySem.F.type_list_extend mt_extend (pv 2) (pa_cons (pv 3) pa_nil))))) (pss_cons (ps_fld (pv 1) (pe_lst pa_nil) rfl) (pss_one (ps_ret (pe_op op_cat (pe_lst (pa_cons pe_int pa_nil)) (pv 2)))))))), ?_⟩
    simp_arith [T.k_Machine.cl, na_Machine_state T, na_Machine_over T, na_Machine_order_at T, na_Machine_tick T, na_Machine_a T, na_Machine_d T, na_Machine_drum T, na_Machine_hopper T, na_Machine_tray T, T.k_Run.cl, na_Run_machine T, na_Run_stops T, na_Run_begun T, na_Run_hopper_before T, na_Run_tray_before T, T.k_Desk.cl, na_Desk_machine T, na_Desk_stops T, na_Desk_journal T, mf_state, mf_over, mf_order_at, mf_tick, mf_a, mf_d, mf_drum, mf_hopper, mf_tray, mp_state, mp_over, mp_over1, mp_over0, mp_order_at, mp_tick, mp_a, mp_d, mp_hopper, mp_tray, mf_len, df_machine, df_stops, df_journal, dp_machine, dp_stops, dp_journal, df_len, hx, hm]
    refine ⟨Nat.zero_le _, fun p hq => ?_⟩
    have s1 := same_upd (H := H) (o := .lst []) hq
    have hsz : sizeLine = 16777216 := by decide
    have lt : ts.length = d.tray.length := cards_len D.F.ht
    have ntp : ∀ c ∈ ts, c ≠ p := fun c hc z => by
      obtain ⟨l, hl⟩ := cards_mem D.F.ht hc
      rw [z, hq] at hl; cases hl
    refine ⟨_, rfl, x, _, _, _, _, rfl, s1 _ _ hm, T.k_Machine.cl, na_Machine_tray T, mf_tray _ _ _ _, tr, rfl, ⟨_, SqL.of (s1 _ _ ht)⟩, for_list (K := K) (a := tr) (xs := ts.map V.ref)
      (fun i σ H' => (∃ v3 : Option V, σ = [some (.ref dk), some (.ref x), some (.ref p), v3]) ∧ H' = upd H p (.lst ((d.tray.take i).flatten.map V.int))) ⟨⟨none, rfl⟩, rfl⟩ ?_ ?_ ?_⟩
    · rintro i σ H' _ ⟨_, rfl⟩
      exact SqL.of (same_upd hq _ _ ht)
    · rintro i y σ H' hy ⟨⟨v3, rfl⟩, rfl⟩
      rw [List.getElem?_map] at hy
      obtain ⟨c, hc, rfl⟩ := Option.map_eq_some_iff.mp hy
      obtain ⟨card, hcard, hcc⟩ := cards_at D.F.ht hc
      have hc' : upd H p (.lst ((d.tray.take i).flatten.map V.int)) c = _ := same_upd hq _ _ hcc
      have l8 := D.F.tw card (List.mem_of_getElem? hcard)
      have li : i < d.tray.length := (List.getElem?_eq_some_iff.mp hcard).1
      have lf : (d.tray.take i).flatten.length = 8 * i := by
        rw [flat8 (fun z hz => D.F.tw z (List.mem_of_mem_take hz)), List.length_take]
        omega
      simp_arith [hc', List.length_map]
      refine ⟨⟨_, rfl⟩, (by have := D.tn; omega), ⟨_, rfl⟩, ?_⟩
      rw [take_snoc hcard, List.flatten_append, List.flatten_cons, List.flatten_nil, List.append_nil, List.map_append]
    · rintro σ H' ⟨⟨v3, rfl⟩, rfl⟩
      have lt' : (ts.map V.ref).length = d.tray.length := by rw [List.length_map, lt]
      rw [lt', List.take_length]
      have s2 := same_upd (H := H) (o := .lst (d.tray.flatten.map V.int)) hq
      have hm2 := s2 _ _ hm
      simp_arith [T.k_Machine.cl, na_Machine_state T, na_Machine_over T, na_Machine_order_at T, na_Machine_tick T, na_Machine_a T, na_Machine_d T, na_Machine_drum T, na_Machine_hopper T, na_Machine_tray T, T.k_Run.cl, na_Run_machine T, na_Run_stops T, na_Run_begun T, na_Run_hopper_before T, na_Run_tray_before T, T.k_Desk.cl, na_Desk_machine T, na_Desk_stops T, na_Desk_journal T, mf_state, mf_over, mf_order_at, mf_tick, mf_a, mf_d, mf_drum, mf_hopper, mf_tray, mp_state, mp_over, mp_over1, mp_over0, mp_order_at, mp_tick, mp_a, mp_d, mp_hopper, mp_tray, mf_len, hm2]
      refine ⟨Nat.zero_le _, fun tr' hq2 => ?_⟩
      have s3 := s2.trans (same_upd (o := .lst []) hq2)
      refine ⟨_, _, _, s3 _ _ hm, T.k_Machine.cl, na_Machine_tray T, mf_len _ _ _ _, ?_⟩
      rw [mp_tray]
      have ntp' : tr' ≠ p := (upd_none hq2).1
      have htr0 : H tr' = none := (upd_none hq2).2
      have npx : p ≠ x := fun z => by rw [z, hm] at hq; cases hq
      have nn : ∀ {b : Addr} {o : HO}, H b = some o → tr' ≠ b := fun e z => by rw [z, e] at htr0; cases htr0
      refine ⟨by decide, fun q hq3 => ?_⟩
      have hpq : p ≠ q := ne_of_none (by rw [upd_ne npx, upd_ne ntp'.symm, upd_same]) hq3
      have lf : d.tray.flatten.length = 8 * d.tray.length := flat8 D.F.tw
      refine ⟨_, by rw [upd_ne hpq, upd_ne npx, upd_ne ntp'.symm, upd_same], by rw [List.length_map]; have := D.tn; omega, fun r hr => ?_⟩
      have D0 := D.same s3
      have F3 := D0.F.newtray (tr' := tr') (dx := dxm) upd_same (nn D.F.M.drum) (nn D.F.hop) (fun c hc => by
        obtain ⟨l, hl⟩ := cards_mem D.F.hc hc
        exact (nn hl).symm)
      have nkx : dk ≠ x := D.kx
      have nsx : st ≠ x := D.sk'.2
      have njx : jl ≠ x := (D.nl D.jnl).2.1
      have D3 := D0.mach (d' := { d with tray := [] }) F3 (fun o e => by rw [upd_ne nkx]; exact e) (fun o e => by rw [upd_ne nsx]; exact e) (fun o e => by rw [upd_ne njx]; exact e) rfl rfl D.jhp (nn D.jnl).symm D.jh (fun c hc => by simp at hc) D.hn (Nat.zero_le _)
      have D4 := D3.same (same_upd (o := .lst [V.int 0]) hq3)
      have hr0 : H r = none := (upd_none (upd_none (upd_none (upd_none hr).2).2).2).2
      refine h _ r ([dk, x, dr, hp, tr', st, jl] ++ (hs ++ [])) ⟨x, dr, hp, tr', st, jl, hs, [], D4.same (same_upd hr), rfl⟩ upd_same hr0 (fun b hb => ?_) (((FrO.same s3).trans (FrO.upd (by simp))).trans ((FrO.same (same_upd hq3)).trans (.same (same_upd hr))))
      simp only [List.mem_append, List.mem_cons, List.not_mem_nil, or_false] at hb ⊢
      rcases hb with (rfl | rfl | rfl | rfl | rfl | rfl | rfl) | hb
      · simp
      · simp
      · simp
      · simp
      · exact .inr htr0
      · simp
      · simp
      · exact .inl (.inr (.inl hb))
end Dd

namespace Dd
open PySem PySem.Spec PyProof.Rows L2
open Drum (Machine)
theorem ok_play_run {P : Program} {w : World} {K : PySem.W.Frag} {mg : Str → Option Value} {A : Adr} {base : Heap} (T : Txt P w K mg A) : Callee P w K mg base 8 "play_run" ["desk", "orders", "words"] (sp_play_run A) := by
  have M_Run := ok_Run_init (P := P) (w := w) (base := base) T
  have G_go_through := ok_go_through (P := P) (w := w) (base := base) T
  have G_are_words := ok_are_words (P := P) (w := w) (base := base) T
  have G_cards_of := ok_cards_of (P := P) (w := w) (base := base) T
  have G_note_run := ok_note_run (P := P) (w := w) (base := base) T
  have SC := sc_play_run
  refine T.f_play_run.ok (k := 7) sc_play_run (fun vs H Q E h => ?_) (fun f cdv Ar outer s H vs Q E hr h => ?_)
  · obtain ⟨dk, w, d, O, a, s, kk, rfl, _⟩ := h; rfl
  · obtain ⟨dk, w, d, O, a, s, kk, rfl, ⟨x, dr, hp, tr, st, jl, hs, ts, D, rfl⟩, eh, et, hw, hs8, hj, h0, h1⟩ := h
    obtain ⟨dx, hx⟩ := D.obj
    obtain ⟨dxm, hm⟩ := D.F.M.obj
    refine ⟨_, (pss_cons (ps_if (PW.pt (pw_or (pt_not (pt_chain op_le op_le pe_int (pv 1) (pe_gint T.c_ORDERS_MOST))) (pw_or1 (pt_not (pt_val (pe_callC G_are_words hr (by decide) (pa_cons (pv 2) pa_nil))))))) (pss_one (ps_ret pe_bl)) pss_nil) (pss_cons (ps_set (i := 3) SC.nd rfl (by first | exact Or.inl rfl | exact Or.inr rfl) (pe_fld (pv 0) rfl)) (pss_cons (ps_fld (pv 3) (pe_callC G_cards_of hr (by decide) (pa_cons (pv 2) pa_nil)) rfl) (pss_cons (ps_set (i := 4) SC.nd rfl (by first | exact Or.inl rfl | exact Or.inr rfl) (pe_makeC M_Run hr (by decide) (pa_cons (pv 3) (pa_cons (pe_fld (pv 0) rfl) pa_nil)))) (pss_cons (ps_expr (pe_callC G_go_through hr (by decide) (pa_cons (pv 4) (pa_cons (pv 1) pa_nil)))) (pss_cons (ps_fld (pv 3) (pe_lst pa_nil) rfl) (pss_cons (ps_if (PW.pt (pw_or (pt_cmpR op_lt (pe_fld (pv 4) rfl) (pv 1) (nomark _)) (pw_or1 (pt_cmpR op_gt (pe_callB call_len_lst (by rfl) T.b_len bt_len (pa_cons (pe_fld (pv 3) rfl) pa_nil)) pe_int (nomark _))))) (pss_one (ps_ret pe_bl)) pss_nil) (pss_cons (ps_expr (pe_callC G_note_run hr (by decide) (pa_cons (pv 0) (pa_cons (pv 4) pa_nil)))) (pss_one (ps_ret pe_bl)))))))))), ?_⟩
    simp_arith
    by_cases ca : 1 ≤ a ∧ a ≤ 10000
    · rw [if_pos (decide_eq_true ca.1), decide_eq_true ca.2]
      refine nT ?_
      refine ⟨w, s, rfl, hw, by omega, fun H1 s1 => ⟨_, rfl, ?_⟩⟩
      cases cw : s.all Drum.isWord with
      | false =>
        refine nF ?_
        exact h0 (ranRow_words cw) H1 (.same s1)
      | true =>
        refine nT ?_
        have D1 := D.same s1
        obtain ⟨n, rfl⟩ : ∃ n : Nat, a = (n : Int) := ⟨a.toNat, by omega⟩
        rw [ranRow_in (by omega) (by omega) cw] at h0 h1
        obtain ⟨dx1, hx1⟩ := D1.obj
        obtain ⟨dxm1, hm1⟩ := D1.F.M.obj
        refine ⟨_, _, _, hx1, T.k_Desk.cl, na_Desk_machine T, _, df_machine _ _ _, ?_⟩
        refine ⟨w, s, kk, rfl, s1 _ _ hw, hs8, by omega, fun H2 hq as hhq s2 hq2 hc2 ha2 => ?_⟩
        have D2 := D1.same s2
        obtain ⟨dxm2, hm2⟩ := D2.F.M.obj
        refine ⟨x, rfl, _, _, _, hm2, T.k_Machine.cl, na_Machine_hopper T, mf_len _ _ _ _, ?_⟩
        rw [mp_hopper]
        have nq : ∀ {b : Addr} {o : HO}, H1 b = some o → hq ≠ b := fun e z => by rw [z, e] at hhq; cases hhq
        have na : ∀ {c b : Addr} {o : HO}, c ∈ as → H1 b = some o → c ≠ b := fun hc e z => by rw [z] at hc; rw [(ha2 _ hc).1] at e; cases e
        have lts : ts = [] := List.eq_nil_of_length_eq_zero (by rw [cards_len D.F.ht, et]; rfl)
        subst lts
        have lhs0 : hs = [] := List.eq_nil_of_length_eq_zero (by rw [cards_len D.F.hc, eh]; rfl)
        subst lhs0
        have le : (Drum.eights (s.length + 1) s).length = kk := eights_len hs8
        have ok8 := eights_ok hs8 (List.all_eq_true.mp cw)
        generalize Drum.eights (s.length + 1) s = cards at *
        have F3 := D2.F.hopper (hp' := hq) (dx := dxm2) hq2 hc2 (nq D1.F.M.drum) (nq D1.F.tray).symm (fun c hc => ⟨na hc D1.F.M.drum, (ha2 c hc).2, na hc D1.F.tray, na hc hm1⟩) (fun c hc => by simp at hc) ok8
        have k3 : ∀ b o, H2 b = some o → b ≠ x → upd H2 x (.ins A.cMachine dxm2 (mf d.m dr hq tr)) b = some o := fun b o e nb => by rw [upd_ne nb]; exact e
        have fr3 : ∀ b, upd H2 x (.ins A.cMachine dxm2 (mf d.m dr hq tr)) b = none → H2 b = none := fun b e => (upd_none e).2
        generalize upd H2 x (.ins A.cMachine dxm2 (mf d.m dr hq tr)) = H3 at *
        obtain ⟨dx2, hx2⟩ := D2.obj
        have nkx : dk ≠ x := D.kx
        have nsx : st ≠ x := D.sk'.2
        have njx : jl ≠ x := (D.nl D.jnl).2.1
        have hk3 := k3 _ _ hx2 nkx
        have hst3 := k3 _ _ D2.stp nsx
        have hj3 := k3 _ _ D2.jnl njx
        refine ⟨_, rfl, _, rfl, dk, _, _, _, _, rfl, hk3, T.k_Desk.cl, na_Desk_stops T, df_stops _ _ _, fun r dxr hr0 hdx0 ndx => ?_⟩
        have s3 : Same H3 (upd (upd H3 dxr (.own r)) r (.ins A.cRun dxr [])) := fun b o e => by rw [upd_ne (ne_of_none e hr0), upd_ne (ne_of_none e hdx0)]; exact e
        refine ⟨r, dxr, x, st, d.stops, d.m, dr, hq, tr, as, [], cards, d.tray, rfl, upd_same, s3 _ _ hst3, F3.same s3, fun H4 hb hb0 k4 R4 => ⟨rfl, ?_⟩⟩
        have s4 : Same H3 H4 := Same.made hr0 hdx0 k4
        have F4 := F3.same s4
        have hb00 : H3 hb = none := (upd_none (upd_none hb0).2).2
        have nhr : hb ≠ r := (upd_none hb0).1
        have nr : ∀ {b : Addr} {o : HO}, H3 b = some o → r ≠ b := fun e z => by rw [z, e] at hr0; cases hr0
        have nb : ∀ {b : Addr} {o : HO}, H3 b = some o → hb ≠ b := fun e z => by rw [z, e] at hb00; cases hb00
        obtain ⟨dxm3, hm3⟩ := F3.M.obj
        have nsl : ∀ {b : Addr} {l : List V}, H3 b = some (.lst l) → st ≠ b := fun e => ne_of hst3 e (by intro q; cases q)
        have ap : Apart r st hb x dr hq tr := ⟨nr hm3, nr F3.M.drum, nr F3.hop, nr F3.tray, nb hm3, nb F3.M.drum, nb F3.hop, nb F3.tray, nhr, nsx, nsl F3.M.drum, nsl F3.hop, nsl F3.tray, (nr hst3).symm⟩
        refine ⟨r, x, st, hb, d.stops, d.m, dr, hq, tr, as, [], cards, d.tray, n, rfl, R4, F4, ap, by show 0 + n ≤ 10000; omega, fun H5 fin cs' hs' ts' pre efin R5 F5 er eb ehs g5 f5 => ?_⟩
        refine ⟨Nat.zero_le _, fun tq htq => ?_⟩
        have s5 := same_upd (H := H5) (o := .lst []) htq
        obtain ⟨dxm5, hm5⟩ := F5.M.obj
        refine ⟨x, rfl, _, _, _, s5 _ _ hm5, T.k_Machine.cl, na_Machine_tray T, mf_len _ _ _ _, ?_⟩
        rw [mp_tray]
        have nt : ∀ {b : Addr} {o : HO}, H5 b = some o → tq ≠ b := fun e z => by rw [z, e] at htq; cases htq
        have F6 := (F5.same s5).newtray (tr' := tq) (dx := dxm5) upd_same (nt F5.M.drum) (nt F5.hop) (fun c hc => by
          obtain ⟨l, hl⟩ := cards_mem F5.hc hc
          exact (nt hl).symm)
        have k6 : ∀ b o, H5 b = some o → b ≠ x → upd (upd H5 tq (.lst [])) x (.ins A.cMachine dxm5 (mf fin.m dr hq tq)) b = some o := fun b o e nb => by rw [upd_ne nb]; exact s5 _ _ e
        have fr6 : ∀ b, upd (upd H5 tq (.lst [])) x (.ins A.cMachine dxm5 (mf fin.m dr hq tq)) b = none → H5 b = none := fun b e => (upd_none (upd_none e).2).2
        generalize upd (upd H5 tq (.lst [])) x (.ins A.cMachine dxm5 (mf fin.m dr hq tq)) = H6 at *
        obtain ⟨dxr5, hr5⟩ := R5.obj
        have nrx : r ≠ x := ap.rx
        have hr6 := k6 _ _ hr5 nrx
        obtain ⟨dxm6, hm6⟩ := F6.M.obj
        have fO : FrO [dk, x, dr, hp, tr, st, jl] H H6 := fun b o e nbO => by
          simp only [List.mem_cons, List.not_mem_nil, or_false, not_or] at nbO
          obtain ⟨b1, b2, b3, b4, b5, b6, b7⟩ := nbO
          have e3 := k3 _ _ (s2 _ _ (s1 _ _ e)) b2
          exact k6 _ _ (f5 _ _ (s4 _ _ e3) b2 b3 (nq (s1 _ _ e)).symm b5 (nr e3).symm) b2
        refine ⟨r, rfl, _, _, _, hr6, T.k_Run.cl, na_Run_begun T, _, rf_begun _ _ _ _ _, _, rfl, ?_⟩
        rw [← efin] at h0 h1
        by_cases c1 : fin.begun < n
        · rw [if_pos (decide_eq_true (by omega))]
          exact h0 (if_pos (.inl (by omega))) H6 fO
        · rw [if_neg (by rw [decide_eq_true_iff]; omega)]
          refine ⟨x, rfl, _, _, _, hm6, T.k_Machine.cl, na_Machine_hopper T, _, mf_hopper _ _ _ _, hq, rfl, _, F6.hop, ?_⟩
          have lh' : hs'.length = cs'.length := cards_len F5.hc
          rw [List.length_map]
          by_cases c2 : 0 < cs'.length
          · rw [if_pos (decide_eq_true (by omega))]
            exact h0 (if_pos (.inr (by omega))) H6 fO
          · rw [if_neg (by rw [decide_eq_true_iff]; omega)]
            have ecs : cs' = [] := List.eq_nil_of_length_eq_zero (by omega)
            have ehs' : hs' = [] := List.eq_nil_of_length_eq_zero (by omega)
            have ebn : fin.begun = n := by omega
            subst ecs ehs'
            have hk5 := f5 _ _ (s4 _ _ hk3) nkx (ne_of hk3 F3.M.drum (by intro q; cases q)) (ne_of hk3 F3.hop (by intro q; cases q)) (ne_of hk3 F3.tray (by intro q; cases q)) (nr hk3).symm
            have hst5 := f5 _ _ (s4 _ _ hst3) ap.stx ap.stdr ap.sthp ap.sttr ap.str
            have hj5 := f5 _ _ (s4 _ _ hj3) njx D.jdr (nq D1.jnl).symm D.jtr (nr hj3).symm
            have hk6 := k6 _ _ hk5 nkx
            have hst6 := k6 _ _ hst5 nsx
            have hj6 := k6 _ _ hj5 njx
            have R6 : RunAt A H6 r x st hb d.stops fin.begun 0 as cards := ⟨⟨dxr5, hr6⟩, hst6, k6 _ _ R5.hop ap.hbx, R5.crd.keep fun c hc o e => k6 _ _ e (na hc hm1)⟩
            refine ⟨dk, r, .ref x, st, jl, dx2, d.journal, x, st, hb, d.stops, fin.begun, 0, as, cards, fin.m, dr, hq, tq, [], [], [], [], pre, rfl, hk6, hj6, R6, F6, ehs, (fun c hc => na hc D1.jnl), (fun c hc => (ok8 c hc).1), by omega, D.jn, fun H7 k7 hj7 => ?_⟩
            rw [List.length_nil, Nat.sub_zero, List.take_length, ebn, List.append_assoc] at hj7
            have D6 : DAt A H6 dk { d with m := fin.m } x dr hq tq st jl [] [] := by
              refine ⟨⟨dx2, hk6⟩, ?_, hst6, hj6, D.jdr, (nq D1.jnl).symm, (nt hj5).symm, (fun c hc => by simp at hc), (fun c hc => by simp at hc), D.sn, D.sk, D.hn, D.tn, D.jn⟩
              show MFull A.cMachine H6 x fin.m dr hq tq [] [] d.hopper d.tray
              rw [eh, et]; exact F6
            have lfl : cards.flatten.length = 8 * cards.length := flat8 fun c hc => (ok8 c hc).1
            have erow : (Drum.Entry.ran n cards).row.length = 3 + cards.flatten.length := by
              show (([3, (n : Int), (cards.length : Int)] : List Int) ++ cards.flatten).length = _
              rw [List.length_append]; rfl
            have D7 := D6.notek (.ran n cards) k7 hj7 (by rw [erow]; show d.journal.length + _ ≤ _; omega)
            have e7 : (if fin.begun ≠ n ∨ fin.read ≠ cards.length then none else some ({ d with m := fin.m, log := d.log ++ [Drum.Entry.ran n cards] } : Drum.Desk)) = some ({ d with m := fin.m, log := d.log ++ [Drum.Entry.ran n cards] } : Drum.Desk) := if_neg (by rw [List.length_nil] at er; omega)
            refine h1 _ e7 H7 [dk, x, dr, hq, tq, st, jl] ⟨x, dr, hq, tq, st, jl, [], [], D7, rfl⟩ (fun b hb => ?_) (fO.trans fun b o e nbO => k7 b o e (fun z => nbO (by rw [z]; simp)))
            simp only [List.mem_cons, List.not_mem_nil, or_false] at hb ⊢
            rcases hb with rfl | rfl | rfl | rfl | rfl | rfl | rfl
            · simp
            · simp
            · simp
            · exact .inr (s1.free hhq)
            · exact .inr (s1.free (s2.free (fr3 _ (s4.free (f5.free F5 R5 htq)))))
            · simp
            · simp
    · have e0 := h0 (ranRow_out ca) H (.same fun _ _ q => q)
      by_cases a1 : 1 ≤ a
      · rw [if_pos (decide_eq_true a1), decide_eq_false (fun q => ca ⟨a1, q⟩)]
        exact nF e0
      · rw [if_neg (by rw [decide_eq_true_iff]; exact a1)]
        exact nF e0
end Dd

namespace Dd
open PySem PySem.Spec PyProof.Rows L2
open Drum (Machine)
theorem play_long {s : DrumDeskSeed.State} {l : List Int} (h : 20000 < l.length) : DrumDeskSeed.step s (.play l) = (s, [-1]) := by
  show (if DrumDeskSeed.LONGEST < l.length then _ else _) = _
  rw [if_pos (show DrumDeskSeed.LONGEST < l.length from h)]; rfl
theorem play_short {s : DrumDeskSeed.State} {l : List Int} (h : ¬ 20000 < l.length) : DrumDeskSeed.step s (.play l) = (match Drum.played l with
    | .error f => (s, [0, (f.1 : Int), (f.2 : Int), 0, 0])
    | .ok x => (⟨some x.1⟩, [0, 0, 0, (x.2.1 : Int), (x.2.2 : Int)])) := by
  show (if DrumDeskSeed.LONGEST < l.length then _ else _) = _
  rw [if_neg (show ¬ DrumDeskSeed.LONGEST < l.length from h)]; rfl
theorem play_err {s : DrumDeskSeed.State} {l : List Int} {f p : Nat} (h : ¬ 20000 < l.length) (e : Drum.played l = .error (f, p)) : DrumDeskSeed.step s (.play l) = (s, [0, (f : Int), (p : Int), 0, 0]) := by
  rw [play_short h, e]
theorem play_okk {s : DrumDeskSeed.State} {l : List Int} {d : Drum.Desk} {k p : Nat} (h : ¬ 20000 < l.length) (e : Drum.played l = .ok (d, (k, p))) : DrumDeskSeed.step s (.play l) = (⟨some d⟩, [0, 0, 0, (k : Int), (p : Int)]) := by
  rw [play_short h, e]
theorem played_fault {l : List Int} (h : faultM l ≠ 0) : Drum.played l = .error (faultM l, 0) := by
  by_cases c : l.length < 7
  · rw [fault1 (short7 c)]
    match l, c with
    | [], _ => rfl
    | [_], _ => rfl
    | [_, _], _ => rfl
    | [_, _, _], _ => rfl
    | [_, _, _, _], _ => rfl
    | [_, _, _, _, _], _ => rfl
    | [_, _, _, _, _, _], _ => rfl
    | _ :: _ :: _ :: _ :: _ :: _ :: _ :: _, h => simp at h; omega
  · obtain ⟨st, ov, n, t, a, d, k, r, rfl⟩ := long7 (ns := l) (by omega)
    have e : faultM (st :: ov :: n :: t :: a :: d :: k :: r) = if k < 0 ∨ (r.length : Int) < k then 1 else (match Drum.machineOf st ov n t a d (r.take k.toNat) with
      | some (some _) => 0
      | _ => 2) := rfl
    rw [e] at h ⊢
    show (if k < 0 ∨ (r.length : Int) < k then _ else _) = _
    by_cases c0 : k < 0 ∨ (r.length : Int) < k
    · rw [if_pos c0, if_pos c0]
    · rw [if_neg c0] at h
      rw [if_neg c0, if_neg c0]
      cases em : Drum.machineOf st ov n t a d (r.take k.toNat) with
      | none => rfl
      | some x =>
        cases x with
        | none => rfl
        | some m => rw [em] at h; exact absurd rfl h
theorem played_good {l : List Int} (h : faultM l = 0) : ∃ (st ov n t a d : Int) (kn : Nat) (r : List Int) (ps : List (Nat × Int)), l = st :: ov :: n :: t :: a :: d :: (kn : Int) :: r ∧ kn ≤ r.length ∧ partsOk st ov n t a d = true ∧ Drum.noted (r.take kn) 0 = some ps ∧
    Drum.plays (l.length + 1) (l.drop (7 + kn)) (7 + kn) 0 (Drum.loadedDesk (mkM st ov n t a d ps)) = Drum.played l := by
  cases ch : headOk l with
  | false => rw [fault1 ch] at h; cases h
  | true =>
    have c7 : ¬ l.length < 7 := fun q => by rw [short7 q] at ch; cases ch
    obtain ⟨st, ov, n, t, a, d, k, r, rfl⟩ := long7 (ns := l) (by omega)
    have ch' : (decide (0 ≤ k) && decide (k ≤ (r.length : Int))) = true := ch
    rw [Bool.and_eq_true, decide_eq_true_iff, decide_eq_true_iff] at ch'
    obtain ⟨kn, rfl⟩ : ∃ n : Nat, k = (n : Int) := ⟨k.toNat, by omega⟩
    have hkr : kn ≤ r.length := by omega
    rw [faultM_eq hkr, machineOf_eq] at h
    cases c1 : partsOk st ov n t a d with
    | false => rw [c1] at h; cases h
    | true =>
      rw [c1] at h
      cases c2 : Drum.noted (r.take kn) 0 with
      | none => rw [c2] at h; cases h
      | some ps =>
        refine ⟨st, ov, n, t, a, d, kn, r, ps, rfl, hkr, c1, c2, ?_⟩
        have e : Drum.played (st :: ov :: n :: t :: a :: d :: (kn : Int) :: r) = if (kn : Int) < 0 ∨ (r.length : Int) < (kn : Int) then .error (1, 0) else (match Drum.machineOf st ov n t a d (r.take (kn : Int).toNat) with
          | some (some m) => Drum.plays ((st :: ov :: n :: t :: a :: d :: (kn : Int) :: r).length + 1) (r.drop (kn : Int).toNat) (7 + (kn : Int).toNat) 0 (Drum.loadedDesk m)
          | _ => .error (2, 0)) := rfl
        rw [e, if_neg (by omega), Int.toNat_natCast, machineOf_eq, c1, c2]
        show _ = Drum.plays _ (r.drop kn) (7 + kn) 0 (Drum.loadedDesk (mkM st ov n t a d ps))
        congr 1
        rw [Nat.add_comm]; rfl
theorem plays_wrong {f : Nat} {z : Int} {r : List Int} {p k : Nat} {d : Drum.Desk} (h : wrongAt (z :: r) = true) : Drum.plays (f + 1) (z :: r) p k d = .error (3, p) := by
  by_cases c3 : z = 3
  · subst c3
    by_cases c : r.length < 2
    · rw [(wrong_short c).1] at h; cases h
    · obtain ⟨a, v, s, rfl⟩ := two_of (r := r) (by omega)
      have h' : (!(decide (0 ≤ v) && decide (v ≤ 10000))) = true := h
      refine plays_badv fun q => ?_
      rw [decide_eq_true q.1, decide_eq_true q.2] at h'
      cases h'
  · rw [(wrong_not r c3).1, Bool.and_eq_true] at h
    refine plays_bad (fun q => ?_) (fun q => ?_) c3
    · rw [decide_eq_true q] at h; cases h.1
    · rw [decide_eq_true q] at h; cases h.2
theorem right_z {z : Int} {r : List Int} (h : wrongAt (z :: r) = false) : z = 1 ∨ z = 2 ∨ z = 3 := by
  by_cases c3 : z = 3
  · exact .inr (.inr c3)
  · rw [(wrong_not r c3).1] at h
    by_cases c1 : z = 1
    · exact .inl c1
    · rw [decide_eq_false c1] at h
      by_cases c2 : z = 2
      · exact .inr (.inl c2)
      · rw [decide_eq_false c2] at h; cases h
theorem right_v {a v : Int} {s : List Int} (h : wrongAt (3 :: a :: v :: s) = false) : 0 ≤ v ∧ v ≤ 10000 := by
  have h' : (!(decide (0 ≤ v) && decide (v ≤ 10000))) = false := h
  rw [Bool.not_eq_false', Bool.and_eq_true, decide_eq_true_iff, decide_eq_true_iff] at h'
  exact h'
theorem plays_torn {f : Nat} {z : Int} {r : List Int} {p k : Nat} {d : Drum.Desk} (h : wrongAt (z :: r) = false) (hs : (((z :: r).length : Nat) : Int) < sizeAt (z :: r)) : Drum.plays (f + 1) (z :: r) p k d = .ok (d, (k, p)) := by
  by_cases c3 : z = 3
  · subst c3
    by_cases c : r.length < 2
    · exact plays_torn2 (.inr (.inr rfl)) c
    · obtain ⟨a, v, s, rfl⟩ := two_of (r := r) (by omega)
      have hv := right_v h
      have hs' : (((3 :: a :: v :: s).length : Nat) : Int) < 3 + 8 * v := hs
      simp only [List.length_cons] at hs'
      exact plays_torn3 hv (by omega)
  · rw [(wrong_not r c3).2, List.length_cons] at hs
    exact plays_torn2 (right_z h) (by omega)
theorem plays_whole {z : Int} {r : List Int} (h : wrongAt (z :: r) = false) (hs : ¬ (((z :: r).length : Nat) : Int) < sizeAt (z :: r)) : ∃ a v s, r = a :: v :: s ∧ (z = 3 → 0 ≤ v ∧ v ≤ 10000) ∧ cnt z v ≤ s.length ∧ sizeAt (z :: r) = ((3 + cnt z v : Nat) : Int) := by
  by_cases c3 : z = 3
  · subst c3
    by_cases c : r.length < 2
    · rw [(wrong_short c).2, List.length_cons] at hs
      omega
    · obtain ⟨a, v, s, rfl⟩ := two_of (r := r) (by omega)
      have hv := right_v h
      have hs' : ¬ (((3 :: a :: v :: s).length : Nat) : Int) < 3 + 8 * v := hs
      simp only [List.length_cons] at hs'
      have ec : cnt 3 v = 8 * v.toNat := by unfold cnt; rw [if_pos rfl]
      refine ⟨a, v, s, rfl, fun _ => hv, by rw [ec]; omega, ?_⟩
      show 3 + 8 * v = _
      rw [ec]
      omega
  · have e3 := (wrong_not r c3).2
    rw [e3, List.length_cons] at hs
    obtain ⟨a, v, s, rfl⟩ := two_of (r := r) (by omega)
    have ec : cnt z v = 0 := by unfold cnt; rw [if_neg c3]
    exact ⟨a, v, s, rfl, fun q => absurd q c3, by rw [ec]; omega, by rw [e3, ec]; rfl⟩
theorem doRow_len {d x : Drum.Desk} {z a v : Int} {s : List Int} (hz : z = 1 ∨ z = 2 ∨ z = 3) (hs : s.length = cnt z v) (h : doRow d z a v s = some x) : x.journal.length = d.journal.length + 3 + s.length := by
  rcases hz with rfl | rfl | rfl
  · have es : s.length = 0 := hs
    unfold doRow at h
    rw [if_pos rfl] at h
    split at h
    · replace h : (if _ then none else some _) = some x := h
      split at h
      · cases h
      · cases h
        have := journal_snoc d (.put a.toNat v)
        rw [es]
        show (Drum.Desk.journal { d with log := d.log ++ [.put a.toNat v] }).length = _
        rw [this, List.length_append]; rfl
    · cases h
  · have es : s.length = 0 := hs
    unfold doRow at h
    rw [if_neg (by decide), if_pos rfl] at h
    split at h
    · replace h : (if _ then none else some _) = some x := h
      split at h
      · cases h
      · cases h
        have := journal_snoc d (.halt_ a.toNat (v == 1))
        rw [es]
        show (Drum.Desk.journal { d with log := d.log ++ [.halt_ a.toNat (v == 1)] }).length = _
        rw [this, List.length_append]; rfl
    · cases h
  · have es : s.length = 8 * v.toNat := hs
    unfold doRow at h
    rw [if_neg (by decide), if_neg (by decide)] at h
    split at h
    · rename_i q
      rw [Bool.and_eq_true, within_iff, List.all_eq_true] at q
      by_cases c : 1 ≤ a.toNat ∧ a.toNat ≤ 10000
      · rw [do_ran c.1 c.2] at h
        split at h
        · cases h
        · cases h
          have e1 := journal_snoc d (.ran a.toNat (Drum.eights (8 * v.toNat + 1) s))
          rw [← es] at e1 ⊢
          have l8 := flat8 (l := Drum.eights (s.length + 1) s) fun c hc => (eights_ok es q.2 c hc).1
          rw [eights_len es] at l8
          have erow : (Drum.Entry.ran a.toNat (Drum.eights (s.length + 1) s)).row.length = 3 + (Drum.eights (s.length + 1) s).flatten.length := by
            show (([3, (a.toNat : Int), ((Drum.eights (s.length + 1) s).length : Int)] : List Int) ++ (Drum.eights (s.length + 1) s).flatten).length = _
            rw [List.length_append]; rfl
          show (Drum.Desk.journal { d with log := d.log ++ [.ran a.toNat (Drum.eights (s.length + 1) s)] }).length = _
          rw [e1, List.length_append, erow]
          omega
      · rw [do_ran_bad c] at h; cases h
    · cases h
end Dd

namespace Dd
open PySem PySem.Spec PyProof.Rows L2
open Drum (Machine)
def ps_awr : List V → DrumDeskSeed.Call → Hp → Prop := fun args c H => ∃ (k : Int) (nw : Addr) (xs : List Int), args = [.int k, .ref nw] ∧ H nw = some (.lst (xs.map V.int)) ∧ Plain k xs c
theorem ok_answer_without_row {P : Program} {w : World} {K : PySem.W.Frag} {mg : Str → Option Value} {A : Adr} {base : Heap} (T : Txt P w K mg A) : Callee P w K mg base 9 "answer_without_row" ["desk", "call", "numbers"] (spOn A ps_awr) := by
  have G_put := ok_put (P := P) (w := w) (base := base) T
  have G_stop := ok_stop (P := P) (w := w) (base := base) T
  have G_run := ok_run (P := P) (w := w) (base := base) T
  have G_told := ok_told (P := P) (w := w) (base := base) T
  have G_peek := ok_peek (P := P) (w := w) (base := base) T
  have G_tray := ok_tray (P := P) (w := w) (base := base) T
  have G_journal := ok_journal (P := P) (w := w) (base := base) T
  have SC := sc_answer_without_row
  refine T.f_answer_without_row.ok (k := 8) sc_answer_without_row (fun vs H Q E h => ?_) (fun f cdv Ar outer s H vs Q E hr h => ?_)
  · obtain ⟨dk, d, x, dr, hp, tr, st, jl, hs, ts, args, c, rfl, D, ⟨k, nw, xs, rfl, _⟩, _⟩ := h; rfl
  · obtain ⟨dk, d, x, dr, hp, tr, st, jl, hs, ts, args, c, rfl, D, ⟨k, nw, xs, rfl, hn, P⟩, h⟩ := h
    refine ⟨_, (pss_cons (ps_if (pt_cmpR op_eq (pv 1) (pe_gint T.c_PUT) (nomark _)) (pss_one (ps_ret (pe_callC G_put hr (by decide) (pa_cons (pv 0) (pa_cons (pe_ix ix_lst (pv 2) pe_int (fun _ _ => rfl)) (pa_cons (pe_ix ix_lst (pv 2) pe_int (fun _ _ => rfl)) pa_nil)))))) pss_nil) (pss_cons (ps_if (pt_cmpR op_eq (pv 1) (pe_gint T.c_STOP) (nomark _)) (pss_one (ps_ret (pe_callC G_stop hr (by decide) (pa_cons (pv 0) (pa_cons (pe_ix ix_lst (pv 2) pe_int (fun _ _ => rfl)) (pa_cons (pe_ix ix_lst (pv 2) pe_int (fun _ _ => rfl)) pa_nil)))))) pss_nil) (pss_cons (ps_if (pt_cmpR op_eq (pv 1) (pe_gint T.c_RUN) (nomark _)) (pss_one (ps_ret (pe_callC G_run hr (by decide) (pa_cons (pv 0) (pa_cons (pe_ix ix_lst (pv 2) pe_int (fun _ _ => rfl)) (pa_cons (pe_ix ix_lst (pv 2) pe_int (fun _ _ => rfl)) (pa_cons (pe_ix ix_lst (pv 2) pe_int (fun _ _ => rfl)) pa_nil))))))) pss_nil) (pss_cons (ps_if (pt_cmpR op_eq (pv 1) (pe_gint T.c_PEEK) (nomark _)) (pss_one (ps_ret (pe_callC G_peek hr (by decide) (pa_cons (pv 0) (pa_cons (pe_ix ix_lst (pv 2) pe_int (fun _ _ => rfl)) pa_nil))))) pss_nil) (pss_cons (ps_if (pt_cmpR op_eq (pv 1) (pe_gint T.c_TOLD) (nomark _)) (pss_one (ps_ret (pe_callC G_told hr (by decide) (pa_cons (pv 0) pa_nil)))) pss_nil) (pss_cons (ps_if (pt_cmpR op_eq (pv 1) (pe_gint T.c_TRAY) (nomark _)) (pss_one (ps_ret (pe_callC G_tray hr (by decide) (pa_cons (pv 0) pa_nil)))) pss_nil) (pss_one (ps_ret (pe_callC G_journal hr (by decide) (pa_cons (pv 0) pa_nil)))))))))), ?_⟩
    cases P with
    | put a v =>
      simp only [List.map_cons, List.map_nil] at hn
      simp_arith [hn]
      exact ⟨dk, d, x, dr, hp, tr, st, jl, hs, ts, _, _, rfl, D, ⟨a, v, rfl, rfl⟩, h⟩
    | halt_ a v =>
      simp only [List.map_cons, List.map_nil] at hn
      simp_arith [hn]
      exact ⟨dk, d, x, dr, hp, tr, st, jl, hs, ts, _, _, rfl, D, ⟨a, v, rfl, rfl⟩, h⟩
    | run k u p =>
      simp only [List.map_cons, List.map_nil] at hn
      simp_arith [hn]
      exact ⟨dk, d, x, dr, hp, tr, st, jl, hs, ts, _, _, rfl, D, ⟨k, u, p, rfl, rfl⟩, h⟩
    | told =>
      simp_arith [hn]
      exact ⟨dk, d, x, dr, hp, tr, st, jl, hs, ts, _, _, rfl, D, ⟨rfl, rfl⟩, h⟩
    | peek a =>
      simp only [List.map_cons, List.map_nil] at hn
      simp_arith [hn]
      exact ⟨dk, d, x, dr, hp, tr, st, jl, hs, ts, _, _, rfl, D, ⟨a, rfl, rfl⟩, h⟩
    | tray =>
      simp_arith [hn]
      exact ⟨dk, d, x, dr, hp, tr, st, jl, hs, ts, _, _, rfl, D, ⟨rfl, rfl⟩, h⟩
    | journal =>
      simp_arith [hn]
      exact ⟨dk, d, x, dr, hp, tr, st, jl, hs, ts, _, _, rfl, D, ⟨rfl, rfl⟩, h⟩
end Dd

namespace Dd
open PySem PySem.Spec PyProof.Rows L2
open Drum (Machine)
def sp_play_entry (A : Adr) : Sp := fun vs H Q _ => ∃ (dk w : Addr) (d : Drum.Desk) (O : List Addr) (z a v : Int) (s : List Int), vs = [.ref dk, .ref w] ∧ StAt A H dk (some d) O ∧ d.hopper = [] ∧ d.tray = [] ∧ H w = some (.lst ((z :: a :: v :: s).map V.int)) ∧ (z = 1 ∨ z = 2 ∨ z = 3) ∧ s.length = cnt z v ∧ d.journal.length + 3 + s.length ≤ 20000 ∧ PlayTo A H dk O (doRow d z a v s) Q
theorem cut_from {l : List Int} {i : Nat} (hi : i ≤ l.length) : cutV (l.map V.int) (some (i : Int)) none = (l.drop i).map V.int := by
  unfold cutV
  rw [HT.sIx_none, HT.sIx_nat, List.length_map, Nat.min_eq_left hi, ← List.map_drop, ← List.map_take, List.take_of_length_le (by rw [List.length_drop]; omega)]
theorem ok_play_entry {P : Program} {w : World} {K : PySem.W.Frag} {mg : Str → Option Value} {A : Adr} {base : Heap} (T : Txt P w K mg A) : Callee P w K mg base 9 "play_entry" ["desk", "entry"] (sp_play_entry A) := by
  have G_put := ok_put (P := P) (w := w) (base := base) T
  have G_stop := ok_stop (P := P) (w := w) (base := base) T
  have G_play_run := ok_play_run (P := P) (w := w) (base := base) T
  have SC := sc_play_entry
  refine T.f_play_entry.ok (k := 8) sc_play_entry (fun vs H Q E h => ?_) (fun f cdv Ar outer s H vs Q E hr h => ?_)
  · obtain ⟨dk, w, d, O, z, a, v, s, rfl, _⟩ := h; rfl
  · obtain ⟨dk, w, d, O, z, a, v, s, rfl, S, eh, et, hw, hz, hs, hj, h0, h1⟩ := h
    have ew0 : atI ((z :: a :: v :: s).map V.int) 0 = some (.int z) := atI_map (i := 0) rfl
    have ew1 : atI ((z :: a :: v :: s).map V.int) 1 = some (.int a) := atI_map (i := 1) rfl
    have ew2 : atI ((z :: a :: v :: s).map V.int) 2 = some (.int v) := atI_map (i := 2) rfl
    refine ⟨_, (pss_cons (ps_if (pt_cmpR op_eq (pe_ix ix_lst (pv 1) pe_int (fun _ _ => rfl)) (pe_gint T.c_PUT_ENTRY) (nomark _)) (pss_one (ps_ret (pe_cmpR (op_eqD hr.units) (pe_callC G_put hr (by decide) (pa_cons (pv 0) (pa_cons (pe_ix ix_lst (pv 1) pe_int (fun _ _ => rfl)) (pa_cons (pe_ix ix_lst (pv 1) pe_int (fun _ _ => rfl)) pa_nil)))) (pe_lst (pa_cons pe_int pa_nil)) (nomark _)))) pss_nil) (pss_cons (ps_if (pt_cmpR op_eq (pe_ix ix_lst (pv 1) pe_int (fun _ _ => rfl)) (pe_gint T.c_STOP_ENTRY) (nomark _)) (pss_one (ps_ret (pe_cmpR (op_eqD hr.units) (pe_callC G_stop hr (by decide) (pa_cons (pv 0) (pa_cons (pe_ix ix_lst (pv 1) pe_int (fun _ _ => rfl)) (pa_cons (pe_ix ix_lst (pv 1) pe_int (fun _ _ => rfl)) pa_nil)))) (pe_lst (pa_cons pe_int (pa_cons pe_int pa_nil))) (nomark _)))) pss_nil) (pss_one (ps_ret (pe_callC G_play_run hr (by decide) (pa_cons (pv 0) (pa_cons (pe_ix ix_lst (pv 1) pe_int (fun _ _ => rfl)) (pa_cons (pe_slice sl_lst (pv 1) (po_some (pe_gint T.c_ENTRY_SIZE)) po_none) pa_nil)))))))), ?_⟩
    simp_arith [hw, ew0, ew1, ew2]
    have S0 := S
    obtain ⟨x, dr, hp, tr, st, jl, hs0, ts, D, rfl⟩ := S
    have lj : DrumDeskSeed.long d 3 = false := by
      unfold DrumDeskSeed.long DrumDeskSeed.LONGEST
      exact decide_eq_false (by omega)
    rcases hz with rfl | rfl | rfl
    · rw [if_pos (decide_eq_true rfl)]
      have es : s = [] := List.eq_nil_of_length_eq_zero (by rw [hs]; rfl)
      subst es
      refine ⟨dk, d, x, dr, hp, tr, st, jl, hs0, ts, _, _, rfl, D, ⟨a, v, rfl, rfl⟩, fun H1 E O' S1 hE hE0 hO' f1 => ?_⟩
      refine ⟨by decide, fun p hp => ?_⟩
      have s1 := same_upd (H := H1) (o := .lst [V.int 0]) hp
      rcases on_put_row (a := a) (v := v) lj with ⟨e1, e2⟩ | ⟨y, e1, e2⟩
      · rw [e2] at hE
        exact ⟨.list [.int (-1)], .list [.int 0], .lst (SqL.of (s1 _ _ hE)) (.cons (.int _) .nil), .lst (SqL.of upd_same) (.cons (.int _) .nil), rfl, rfl, h0 e1 _ (f1.trans (.same s1)).cards⟩
      · rw [e2] at hE S1
        exact ⟨.list [.int 0], .list [.int 0], .lst (SqL.of (s1 _ _ hE)) (.cons (.int _) .nil), .lst (SqL.of upd_same) (.cons (.int _) .nil), rfl, rfl, h1 y e1 _ O' (S1.same s1) hO' (f1.trans (.same s1)).cards⟩
    · rw [if_neg (by decide), if_pos (decide_eq_true rfl)]
      have es : s = [] := List.eq_nil_of_length_eq_zero (by rw [hs]; rfl)
      subst es
      refine ⟨dk, d, x, dr, hp, tr, st, jl, hs0, ts, _, _, rfl, D, ⟨a, v, rfl, rfl⟩, fun H1 E O' S1 hE hE0 hO' f1 => ?_⟩
      refine ⟨by decide, fun p hp => ?_⟩
      have s1 := same_upd (H := H1) (o := .lst [V.int 0, V.int 1]) hp
      rcases on_halt_row (a := a) (v := v) lj with ⟨e1, e2 | e2 | e2⟩ | ⟨y, e1, e2⟩
      · rw [e2] at hE
        exact ⟨.list [.int (-1)], .list [.int 0, .int 1], .lst (SqL.of (s1 _ _ hE)) (.cons (.int _) .nil), .lst (SqL.of upd_same) (.cons (.int _) (.cons (.int _) .nil)), rfl, rfl, h0 e1 _ (f1.trans (.same s1)).cards⟩
      · rw [e2] at hE
        exact ⟨.list [.int 0, .int 0], .list [.int 0, .int 1], .lst (SqL.of (s1 _ _ hE)) (.cons (.int _) (.cons (.int _) .nil)), .lst (SqL.of upd_same) (.cons (.int _) (.cons (.int _) .nil)), rfl, rfl, h0 e1 _ (f1.trans (.same s1)).cards⟩
      · rw [e2] at hE
        exact ⟨.list [.int (-9)], .list [.int 0, .int 1], .lst (SqL.of (s1 _ _ hE)) (.cons (.int _) .nil), .lst (SqL.of upd_same) (.cons (.int _) (.cons (.int _) .nil)), rfl, rfl, h0 e1 _ (f1.trans (.same s1)).cards⟩
      · rw [e2] at hE S1
        exact ⟨.list [.int 0, .int 1], .list [.int 0, .int 1], .lst (SqL.of (s1 _ _ hE)) (.cons (.int _) (.cons (.int _) .nil)), .lst (SqL.of upd_same) (.cons (.int _) (.cons (.int _) .nil)), rfl, rfl, h1 y e1 _ O' (S1.same s1) hO' (f1.trans (.same s1)).cards⟩
    · rw [if_neg (by decide), if_neg (by decide)]
      intro p hp
      have ec : cutV (V.int 3 :: V.int a :: V.int v :: s.map V.int) (some 3) none = s.map V.int := cut_from (l := 3 :: a :: v :: s) (i := 3) (by simp only [List.length_cons]; omega)
      rw [ec]
      have s1 := same_upd (H := H) (o := .lst (s.map V.int)) hp
      have h8 : s.length = 8 * v.toNat := hs
      have er : ranRow d a s = doRow d 3 a v s := by
        unfold doRow
        rw [if_neg (show ¬ (3 : Int) = 1 by decide), if_neg (show ¬ (3 : Int) = 2 by decide)]
        unfold ranRow
        rw [h8]
      refine ⟨dk, p, d, _, a, s, v.toNat, rfl, S0.same s1, eh, et, upd_same, h8, hj, ?_, ?_⟩
      · rw [er]
        exact fun e H' f => h0 e H' ((FrO.same s1).trans f)
      · rw [er]
        exact fun d' e H' O' S' hO' f => h1 d' e H' O' S' (fun b hb => (hO' b hb).imp id (fun q => s1.free q)) ((FrO.same s1).trans f)
end Dd

namespace Dd
open PySem PySem.Spec PyProof.Rows L2
open Drum (Machine)
def ps_play : List V → DrumDeskSeed.Call → Hp → Prop := fun args c H => ∃ w l, args = [.ref w] ∧ c = .play l ∧ H w = some (.lst (l.map V.int)) ∧ l.length ≤ 100000
theorem ok_play {P : Program} {w : World} {K : PySem.W.Frag} {mg : Str → Option Value} {A : Adr} {base : Heap} (T : Txt P w K mg A) : Callee P w K mg base 10 "play" ["desk", "numbers"] (spTop A ps_play) := by
  have M_Desk := ok_Desk_init (P := P) (w := w) (base := base) T
  have G_load := ok_load (P := P) (w := w) (base := base) T
  have G_pairs_end := ok_pairs_end (P := P) (w := w) (base := base) T
  have G_fault_of_machine := ok_fault_of_machine (P := P) (w := w) (base := base) T
  have G_begins_wrong := ok_begins_wrong (P := P) (w := w) (base := base) T
  have G_entry_end := ok_entry_end (P := P) (w := w) (base := base) T
  have G_play_entry := ok_play_entry (P := P) (w := w) (base := base) T
  have G_fault := ok_fault (P := P) (w := w) (base := base) T
  have G_take_over := ok_take_over (P := P) (w := w) (base := base) T
  have SC := sc_play
  refine T.f_play.ok (k := 9) sc_play (fun vs H Q E h => ?_) (fun f cdv Ar outer s H vs Q E hr h => ?_)
  · obtain ⟨dk, s, O, args, c, rfl, S, ⟨w, l, rfl, rfl, _⟩, _⟩ := h; rfl
  · obtain ⟨dk, s, O, args, c, rfl, S, ⟨w, l, rfl, rfl, hw, hl⟩, h⟩ := h
    refine ⟨_, (pss_cons (ps_if (pt_cmpR op_gt (pe_callB call_len_lst (by rfl) T.b_len bt_len (pa_cons (pv 1) pa_nil)) (pe_gint T.c_JOURNAL_MOST) (nomark _)) (pss_one (ps_ret (pe_lst (pa_cons (pe_gint T.c_WRONG) pa_nil)))) pss_nil) (pss_cons (ps_set (i := 2) SC.nd rfl (by first | exact Or.inl rfl | exact Or.inr rfl) (pe_callC G_fault_of_machine hr (by decide) (pa_cons (pv 1) pa_nil))) (pss_cons (ps_if (pt_cmpR op_ne (pv 2) (pe_gint T.c_NO_FAULT) (nomark _)) (pss_one (ps_ret (pe_callC G_fault hr (by decide) (pa_cons (pv 2) (pa_cons pe_int pa_nil))))) pss_nil) (pss_cons (ps_set (i := 3) SC.nd rfl (by first | exact Or.inl rfl | exact Or.inr rfl) (pe_callC G_pairs_end hr (by decide) (pa_cons (pv 1) pa_nil))) (pss_cons (ps_set (i := 4) SC.nd rfl (by first | exact Or.inl rfl | exact Or.inr rfl) (pe_makeC0 M_Desk hr (by decide))) (pss_cons (ps_expr (pe_callC G_load hr (by decide) (pa_cons (pv 4) (pa_cons (pe_slice sl_lst (pv 1) po_none (po_some (pe_gint T.c_PARTS_SIZE))) (pa_cons (pe_slice sl_lst (pv 1) (po_some (pe_gint T.c_HEAD_SIZE)) (po_some (pv 3))) pa_nil))))) (pss_cons (ps_set (i := 5) SC.nd rfl (by first | exact Or.inl rfl | exact Or.inr rfl) pe_int) (pss_cons (ps_while PassesOwn.never (pt_cmpR op_lt (pv 3) (pe_callB call_len_lst (by rfl) T.b_len bt_len (pa_cons (pv 1) pa_nil)) (nomark _)) (pss_cons (ps_if (pt_val (pe_callC G_begins_wrong hr (by decide) (pa_cons (pv 1) (pa_cons (pv 3) pa_nil)))) (pss_one (ps_ret (pe_callC G_fault hr (by decide) (pa_cons (pe_gint T.c_WRONG_ENTRY) (pa_cons (pv 3) pa_nil))))) pss_nil) (pss_cons (ps_set (i := 6) SC.nd rfl (by first | exact Or.inl rfl | exact Or.inr rfl) (pe_callC G_entry_end hr (by decide) (pa_cons (pv 1) (pa_cons (pv 3) pa_nil)))) (pss_cons (ps_if (pt_cmpR op_gt (pv 6) (pe_callB call_len_lst (by rfl) T.b_len bt_len (pa_cons (pv 1) pa_nil)) (nomark _)) (pss_one ps_break) pss_nil) (pss_cons (ps_if (pt_not (pt_val (pe_callC G_play_entry hr (by decide) (pa_cons (pv 4) (pa_cons (pe_slice sl_lst (pv 1) (po_some (pv 3)) (po_some (pv 6))) pa_nil))))) (pss_one (ps_ret (pe_callC G_fault hr (by decide) (pa_cons (pe_gint T.c_WRONG_ENTRY) (pa_cons (pv 3) pa_nil))))) pss_nil) (pss_cons (ps_aug (i := 5) SC.nd rfl (by first | exact Or.inl rfl | exact Or.inr rfl) pe_int ip_add) (pss_one (ps_set (i := 3) SC.nd rfl (by first | exact Or.inl rfl | exact Or.inr rfl) (pv 6))))))))) (pss_cons (ps_expr (pe_callC G_take_over hr (by decide) (pa_cons (pv 0) (pa_cons (pv 4) pa_nil)))) (pss_one (ps_ret (pe_lst (pa_cons pe_int (pa_cons (pe_gint T.c_NO_FAULT) (pa_cons pe_int (pa_cons (pv 5) (pa_cons (pv 3) pa_nil))))))))))))))))), ?_⟩
    simp_arith [hw, List.length_map]
    by_cases cL : 20000 < l.length
    · rw [if_pos (decide_eq_true (by omega))]
      exact ⟨by decide, fun p hq => top_same S h (play_long cL) (fun _ _ e => e) p hq⟩
    · rw [if_neg (by rw [decide_eq_true_iff]; omega)]
      refine ⟨w, l, rfl, hw, by omega, fun H1 s1 => ⟨rfl, ?_⟩⟩
      by_cases cf : faultM l = 0
      · rw [cf, decide_eq_true (show V.int ((0 : Nat) : Int) = V.int 0 from rfl)]
        refine nT ?_
        obtain ⟨st, ov, n, t, a, d0, kn, r0, ps, el, hkr, c1, c2, eP⟩ := played_good cf
        obtain ⟨hO, dxk, mvk, stk, jlk, hk⟩ := S.obj
        have hlen : l.length = r0.length + 7 := by rw [el]; simp only [List.length_cons]
        have h6 : l[6]? = some (kn : Int) := by rw [el]; rfl
        refine ⟨w, l, (kn : Int), rfl, s1 _ _ hw, h6, ?_⟩
        intro pk dxp hpk0 hdxp0 ndxp
        refine ⟨pk, dxp, rfl, upd_same, fun H2 st2 jl2 k2 hk2 => ⟨rfl, ?_⟩⟩
        have s2 : Same H1 H2 := Same.made hpk0 hdxp0 k2
        have hw2 := s2 _ _ (s1 _ _ hw)
        refine ⟨_, hw2, fun p hp => ?_⟩
        have e6 : cutV (l.map V.int) none (some 6) = [.int st, .int ov, .int n, .int t, .int a, .int d0] := by
          have := cut_nat0 (l := l) (j := 6) (by omega)
          rw [el] at this ⊢
          exact this
        have e7 : cutV (l.map V.int) (some 7) (some (7 + (kn : Int))) = (r0.take kn).map V.int := by
          have := cut_nat (l := l) (i := 7) (j := 7 + kn) (by omega) (by omega)
          rw [Nat.add_sub_cancel_left, Int.natCast_add] at this
          rw [el] at this ⊢
          exact this
        rw [e6]
        have s3 := same_upd (H := H2) (o := .lst [.int st, .int ov, .int n, .int t, .int a, .int d0]) hp
        refine ⟨_, rfl, _, s3 _ _ hw2, fun q hq => ?_⟩
        rw [e7]
        have npq : p ≠ q := ne_of_none upd_same hq
        have s4 := s3.trans (same_upd (o := .lst ((r0.take kn).map V.int)) hq)
        have hp4 : upd (upd H2 p (.lst [.int st, .int ov, .int n, .int t, .int a, .int d0])) q (.lst ((r0.take kn).map V.int)) p = _ := (upd_ne npq).trans upd_same
        have hq4 : upd (upd H2 p (.lst [.int st, .int ov, .int n, .int t, .int a, .int d0])) q (.lst ((r0.take kn).map V.int)) q = _ := upd_same
        generalize upd (upd H2 p (.lst [.int st, .int ov, .int n, .int t, .int a, .int d0])) q (.lst ((r0.take kn).map V.int)) = H4 at *
        have S4 : StAt A H4 pk none [pk] := ⟨⟨dxp, st2, jl2, s4 _ _ hk2⟩, rfl⟩
        refine ⟨pk, none, [pk], _, _, rfl, S4, ⟨p, q, st, ov, n, t, a, d0, r0.take kn, rfl, rfl, hp4, hq4, by rw [List.length_take]; omega⟩, fun H5 E O5 S5 hE hE0 hO5 f5 => ?_⟩
        rw [load_ok c1 c2] at S5
        have s04 : Same H H4 := (s1.trans s2).trans s4
        have hpk : H pk = none := s1.free hpk0
        have s05 : Same H H5 := fun b o e => f5 b o (s04 _ _ e) (fun z => by
          have : b = pk := by simpa using z
          rw [this, hpk] at e; cases e)
        have hO5' : ∀ b ∈ O5, H b = none := fun b hb => by
          rcases hO5 b hb with z | z
          · have : b = pk := by simpa using z
            rw [this]; exact hpk
          · exact s04.free z
        have ln := loaded_journal c1 c2
        have fin : ∀ (k pn : Nat) (d : Drum.Desk) (O' : List Addr) (H' : Hp) (v2 v6 : Option V), StAt A H' pk (some d) O' → (∀ b ∈ O', H b = none) → Same H H' → Drum.played l = .ok (d, (k, pn)) →
            (tSeq (tDrop (tCall (sp_take_over A) [] E0 (tCons (tVar 0) (tCons (tVar 4) tNil)))) (tRet (tLst (tCons (tC (V.int 0)) (tCons (tC (V.int 0)) (tCons (tC (V.int 0)) (tCons (tVar 5) (tCons (tVar 3) tNil)))))))) { nx := fun x H' => Q V.non H', rt := Q } [some (V.ref dk), some (V.ref w), v2, some (V.int (pn : Int)), some (V.ref pk), some (V.int (k : Int)), v6] H' := by
          intro k pn d O' H' v2 v6 S' hO' s' ep
          obtain ⟨x, dr, hp', tr, sta, jla, hs, ts, D', rfl⟩ := S'
          obtain ⟨dxp', hpk'⟩ := D'.obj
          have nkp : dk ≠ pk := fun z => by rw [z, hpk] at hk; cases hk
          simp_arith
          refine ⟨dk, pk, dxk, dxp', mvk, .ref x, stk, jlk, sta, jla, rfl, nkp, s' _ _ hk, hpk', by decide, fun D hD => ?_⟩
          have nk : ∀ {b : Addr}, H b = none → b ≠ dk := fun e z => by rw [z, hk] at e; cases e
          have hx0 := hO' x (by simp)
          have hdr0 := hO' dr (by simp)
          have hhp0 := hO' hp' (by simp)
          have htr0 := hO' tr (by simp)
          have hst0 := hO' sta (by simp)
          have hjl0 := hO' jla (by simp)
          have hk' := s' _ _ hk
          have ku : ∀ b o, H' b = some o → b ≠ dk → upd H' dk (.ins A.cDesk dxk (df (.ref x) sta jla)) b = some o := fun b o e nb => by rw [upd_ne nb]; exact e
          have DD : DAt A (upd H' dk (.ins A.cDesk dxk (df (.ref x) sta jla))) dk d x dr hp' tr sta jla hs ts := by
            have F := D'.F.other (H' := upd H' dk (.ins A.cDesk dxk (df (.ref x) sta jla))) hk' (nk hx0).symm ku
            exact ⟨⟨dxk, upd_same⟩, F, ku _ _ D'.stp (nk hst0), ku _ _ D'.jnl (nk hjl0), D'.jdr, D'.jhp, D'.jtr, D'.jh, D'.jt, D'.sn, D'.sk, D'.hn, D'.tn, D'.jn⟩
          rw [play_okk cL ep] at h
          refine h _ D ([dk, x, dr, hp', tr, sta, jla] ++ (hs ++ ts)) ⟨x, dr, hp', tr, sta, jla, hs, ts, DD.same (same_upd hD), rfl⟩ upd_same (s'.free (upd_none hD).2) (fun b hb => ?_) (fun b o e nb => ?_)
          · rcases List.mem_append.mp hb with hb | hc
            rotate_left
            · exact .inr (hO' b (List.mem_append_right _ hc))
            simp only [List.mem_cons, List.not_mem_nil, or_false] at hb
            rcases hb with rfl | rfl | rfl | rfl | rfl | rfl | rfl
            · exact .inl hO
            · exact .inr hx0
            · exact .inr hdr0
            · exact .inr hhp0
            · exact .inr htr0
            · exact .inr hst0
            · exact .inr hjl0
          · have nbk : b ≠ dk := fun z => nb (by rw [z]; exact hO)
            exact same_upd hD _ _ (by rw [upd_ne nbk]; exact s' _ _ e)
        refine ⟨fun m σ H' => ∃ (pn k f : Nat) (d : Drum.Desk) (O' : List Addr) (v2 v6 : Option V), σ = [some (.ref dk), some (.ref w), v2, some (.int (pn : Int)), some (.ref pk), some (.int (k : Int)), v6] ∧ m = l.length - pn ∧ pn ≤ l.length ∧ StAt A H' pk (some d) O' ∧ d.hopper = [] ∧ d.tray = [] ∧ d.journal.length = pn ∧ (∀ b ∈ O', H b = none) ∧ Same H H' ∧ l.length - pn < f ∧ Drum.plays f (l.drop pn) pn k d = Drum.played l,
          ⟨l.length - (7 + kn), 7 + kn, 0, l.length + 1, _, O5, _, _, rfl, rfl, by omega, S5, rfl, rfl, by rw [ln, List.length_append, List.length_take]; show 7 + _ = _; omega, hO5', s05, by omega, eP⟩, ?_⟩
        rintro m σ H' ⟨pn, k, f, d, O', v2, v6, rfl, rfl, hpn, S', eh, et, ej, hO', s', hf, ep⟩
        have hw' := s' _ _ hw
        refine gen_post (b := decide (pn < l.length)) (H := H') (fun Rr hR => ?_) ?_
        · simp_arith [hw', List.length_map]
          rw [decide_eq_decide.mpr (show ((pn : Int) < (l.length : Int)) ↔ pn < l.length by omega)]
          exact hR
        · by_cases c : pn < l.length
          · rw [if_pos (decide_eq_true c)]
            obtain ⟨f, rfl⟩ : ∃ g, f = g + 1 := ⟨f - 1, by omega⟩
            obtain ⟨z, r, ed, ez, elr, ei⟩ := at_drop c
            obtain ⟨N, hN⟩ : ∃ N : L2.St → Hp → Prop, N = fun σ2 H2 => ∃ (pn' k f : Nat) (d : Drum.Desk) (O' : List Addr) (v2 v6 : Option V), pn < pn' ∧ σ2 = [some (.ref dk), some (.ref w), v2, some (.int (pn' : Int)), some (.ref pk), some (.int (k : Int)), v6] ∧ pn' ≤ l.length ∧ StAt A H2 pk (some d) O' ∧ d.hopper = [] ∧ d.tray = [] ∧ d.journal.length = pn' ∧ (∀ b ∈ O', H b = none) ∧ Same H H2 ∧ l.length - pn' < f ∧ Drum.plays f (l.drop pn') pn' k d = Drum.played l := ⟨_, rfl⟩
            refine ⟨N, ?_, ?_⟩
            · rw [hN]
              rintro σ2 H2 ⟨pn', k', f', d', O2, v2', v6', hlt, rest⟩
              exact ⟨l.length - pn', by have := rest.2.1; omega, pn', k', f', d', O2, v2', v6', rest.1, rfl, rest.2⟩
            · simp_arith [hw', List.length_map]
              refine ⟨w, l, pn, rfl, hw', c, _, rfl, ?_⟩
              rw [ed] at ep
              rw [ed]
              cases cw : wrongAt (z :: r) with
              | true =>
                rw [if_pos rfl]
                rw [plays_wrong cw] at ep
                exact ⟨3, pn, rfl, fun D hD => top_same S h (play_err cL ep.symm) s' D hD⟩
              | false =>
                rw [if_neg (by decide)]
                refine ⟨w, l, pn, rfl, hw', c, (by rw [ed]; exact cw), ?_⟩
                rw [ed]
                refine ⟨_, hw', _, rfl, ?_⟩
                rw [List.length_map]
                have hl2 : (z :: r).length = l.length - pn := by rw [← ed, List.length_drop]
                by_cases ce : ((l.length : Nat) : Int) < (pn : Int) + sizeAt (z :: r)
                · rw [if_pos (decide_eq_true ce)]
                  rw [plays_torn cw (by rw [hl2]; omega)] at ep
                  exact fin k pn d O' H' v2 _ S' hO' s' ep.symm
                · rw [if_neg (by rw [decide_eq_true_iff]; exact ce)]
                  obtain ⟨a1, v1, t1, er, hv1, hc1, es1⟩ := plays_whole cw (by rw [hl2]; omega)
                  have hz := right_z cw
                  subst er
                  rw [plays_do hz hv1 hc1] at ep
                  rw [es1] at ce ⊢
                  refine ⟨_, rfl, _, hw', fun E1 hE1 => ?_⟩
                  have hle : pn + (3 + cnt z v1) ≤ l.length := by omega
                  have ecut : cutV (l.map V.int) (some (pn : Int)) (some ((pn : Int) + ((3 + cnt z v1 : Nat) : Int))) = (z :: a1 :: v1 :: t1.take (cnt z v1)).map V.int := by
                    have := cut_nat (l := l) (i := pn) (j := pn + (3 + cnt z v1)) (by omega) hle
                    rw [Nat.add_sub_cancel_left, ed, Int.natCast_add pn] at this
                    rw [this, Nat.add_comm 3]; rfl
                  rw [ecut]
                  have sE := same_upd (H := H') (o := .lst ((z :: a1 :: v1 :: t1.take (cnt z v1)).map V.int)) hE1
                  have lt1 : (t1.take (cnt z v1)).length = cnt z v1 := by rw [List.length_take]; omega
                  have sf : ∀ H7, FrO O' (upd H' E1 (.lst ((z :: a1 :: v1 :: t1.take (cnt z v1)).map V.int))) H7 → Same H H7 := fun H7 f7 b o e => f7 b o (sE _ _ (s' _ _ e)) (fun q => by rw [hO' b q] at e; cases e)
                  refine ⟨pk, E1, d, O', z, a1, v1, t1.take (cnt z v1), rfl, S'.same sE, eh, et, upd_same, hz, lt1, by omega, ?_, ?_⟩
                  · intro e0 H7 f7
                    refine ⟨_, rfl, ?_⟩
                    refine nF ?_
                    rw [e0] at ep
                    exact ⟨3, pn, rfl, fun D hD => top_same S h (play_err cL ep.symm) (sf H7 f7) D hD⟩
                  · intro d' e0 H7 O7 S7 hO7 f7
                    refine ⟨_, rfl, ?_⟩
                    refine nT ?_
                    rw [e0] at ep
                    refine ⟨_, rfl, _, _, rfl, rfl, _, rfl, ?_⟩
                    rw [hN]
                    obtain ⟨k1, k2⟩ := doRow_keeps e0
                    have ed2 : l.drop (pn + 3 + cnt z v1) = t1.drop (cnt z v1) := by
                      rw [Nat.add_assoc, ← List.drop_drop, ed, Nat.add_comm 3]; rfl
                    have epn : ((pn : Int) + ((3 + cnt z v1 : Nat) : Int)) = ((pn + 3 + cnt z v1 : Nat) : Int) := by omega
                    refine ⟨pn + 3 + cnt z v1, k + 1, f, d', O7, v2, some (.int ((pn : Int) + ((3 + cnt z v1 : Nat) : Int))), by omega, ?_, by omega, S7, k1.trans eh, k2.trans et, ?_, ?_, sf H7 f7, by omega, ?_⟩
                    · rw [epn]; rfl
                    · rw [doRow_len hz lt1 e0, lt1, ej]
                    · intro b hb
                      rcases hO7 b hb with q | q
                      · exact hO' b q
                      · exact (s'.trans sE).free q
                    · rw [ed2]; exact ep
          · rw [if_neg (by rw [decide_eq_true_iff]; exact c)]
            have e0 : l.drop pn = [] := List.drop_eq_nil_of_le (by omega)
            rw [e0, plays_end] at ep
            exact fin k pn d O' H' v2 v6 S' hO' s' ep.symm
      · rw [decide_eq_false (show ¬ V.int ((faultM l : Nat) : Int) = V.int 0 from fun q => cf (by have := V.int.inj q; omega))]
        refine nF ?_
        exact ⟨_, _, rfl, fun D hD => top_same S h (play_err cL (played_fault cf)) s1 D hD⟩
end Dd

namespace Dd
open PySem PySem.Spec PyProof.Rows L2
open Drum (Machine)
def ps_answer : List V → DrumDeskSeed.Call → Hp → Prop := fun args c H => ∃ (k : Int) (nw rr : Addr) (xs row : List Int), args = [.int k, .ref nw, .ref rr] ∧ H nw = some (.lst (xs.map V.int)) ∧ H rr = some (.lst (row.map V.int)) ∧ row.length ≤ 100000 ∧ CallIs k xs row c
theorem ok_answer {P : Program} {w : World} {K : PySem.W.Frag} {mg : Str → Option Value} {A : Adr} {base : Heap} (T : Txt P w K mg A) : Callee P w K mg base 11 "answer" ["desk", "call", "numbers", "row"] (spTop A ps_answer) := by
  have G_load := ok_load (P := P) (w := w) (base := base) T
  have G_hand := ok_hand (P := P) (w := w) (base := base) T
  have G_play := ok_play (P := P) (w := w) (base := base) T
  have G_answer_without_row := ok_answer_without_row (P := P) (w := w) (base := base) T
  have SC := sc_answer
  refine T.f_answer.ok (k := 10) sc_answer (fun vs H Q E h => ?_) (fun f cdv Ar outer s H vs Q E hr h => ?_)
  · obtain ⟨dk, s, O, args, c, rfl, S, ⟨k, nw, rr, xs, row, rfl, _⟩, _⟩ := h; rfl
  · obtain ⟨dk, s, O, args, c, rfl, S, ⟨k, nw, rr, xs, row, rfl, hn, hr', hl, P⟩, h⟩ := h
    obtain ⟨hO, dx, mv, st0, jl0, hk⟩ := S.obj
    refine ⟨_, (pss_cons (ps_if (pt_cmpR op_eq (pv 1) (pe_gint T.c_LOAD) (nomark _)) (pss_one (ps_ret (pe_callC G_load hr (by decide) (pa_cons (pv 0) (pa_cons (pv 2) (pa_cons (pv 3) pa_nil)))))) pss_nil) (pss_cons (ps_if (pt_cmpR op_eq (pv 1) (pe_gint T.c_PLAY) (nomark _)) (pss_one (ps_ret (pe_callC G_play hr (by decide) (pa_cons (pv 0) (pa_cons (pv 3) pa_nil))))) pss_nil) (pss_cons (ps_if (pt_cmpR op_isN (pe_fld (pv 0) rfl) pe_non (nomark _)) (pss_one (ps_ret (pe_lst (pa_cons (pe_gint T.c_NO_MACHINE) pa_nil)))) pss_nil) (pss_cons (ps_if (pt_cmpR op_eq (pv 1) (pe_gint T.c_HAND) (nomark _)) (pss_one (ps_ret (pe_callC G_hand hr (by decide) (pa_cons (pv 0) (pa_cons (pv 3) pa_nil))))) pss_nil) (pss_one (ps_ret (pe_callC G_answer_without_row hr (by decide) (pa_cons (pv 0) (pa_cons (pv 1) (pa_cons (pv 2) pa_nil)))))))))), ?_⟩
    simp_arith
    cases P with
    | load st ov n t a d l =>
      rw [if_pos (decide_eq_true rfl)]
      exact ⟨dk, s, O, _, _, rfl, S, ⟨nw, rr, st, ov, n, t, a, d, row, rfl, rfl, hn, hr', hl⟩, h⟩
    | play l =>
      rw [if_neg (by decide), if_pos (decide_eq_true rfl)]
      exact ⟨dk, s, O, _, _, rfl, S, ⟨rr, row, rfl, rfl, hr', hl⟩, h⟩
    | hand l =>
      rw [if_neg (by decide), if_neg (by decide)]
      cases s with
      | none =>
        have S0 := S
        obtain ⟨⟨dx', st', jl', hk'⟩, rfl⟩ := S
        refine ⟨_, _, _, hk', T.k_Desk.cl, na_Desk_machine T, _, df_machine _ _ _, ?_⟩
        rw [if_pos (decide_eq_true rfl)]
        exact ⟨by decide, fun p hq => top_same S0 h rfl (fun _ _ e => e) p hq⟩
      | some d =>
        obtain ⟨x, dr, hp, tr, st, jl, hs, ts, D, rfl⟩ := S
        obtain ⟨dx', hk'⟩ := D.obj
        refine ⟨_, _, _, hk', T.k_Desk.cl, na_Desk_machine T, _, df_machine _ _ _, ?_⟩
        rw [if_neg (by rw [decide_eq_true_iff]; intro q; cases q), if_pos (decide_eq_true rfl)]
        exact ⟨dk, d, x, dr, hp, tr, st, jl, hs, ts, _, _, rfl, D, ⟨rr, row, rfl, rfl, hr', hl⟩, fun H' E O' S' hE hE0 hO' f => h H' E O' S' hE hE0 hO' f.cards⟩
    | plain Pl =>
      have hk : k ≠ 1 ∧ k ≠ 10 ∧ k ≠ 4 := by cases Pl <;> decide
      rw [if_neg (by rw [decide_eq_true_iff]; exact hk.1), if_neg (by rw [decide_eq_true_iff]; exact hk.2.1)]
      cases s with
      | none =>
        have S0 := S
        obtain ⟨⟨dx', st', jl', hk'⟩, rfl⟩ := S
        refine ⟨_, _, _, hk', T.k_Desk.cl, na_Desk_machine T, _, df_machine _ _ _, ?_⟩
        rw [if_pos (decide_eq_true rfl)]
        exact ⟨by decide, fun p hq => top_same S0 h (ns := [-3]) (by cases Pl <;> rfl) (fun _ _ e => e) p hq⟩
      | some d =>
        obtain ⟨x, dr, hp, tr, st, jl, hs, ts, D, rfl⟩ := S
        obtain ⟨dx', hk'⟩ := D.obj
        refine ⟨_, _, _, hk', T.k_Desk.cl, na_Desk_machine T, _, df_machine _ _ _, ?_⟩
        rw [if_neg (by rw [decide_eq_true_iff]; intro q; cases q), if_neg (by rw [decide_eq_true_iff]; exact hk.2.2)]
        have e : DrumDeskSeed.step ⟨some d⟩ c = (⟨some (DrumDeskSeed.on d c).1⟩, (DrumDeskSeed.on d c).2) := by cases Pl <;> rfl
        rw [e] at h
        exact ⟨dk, d, x, dr, hp, tr, st, jl, hs, ts, _, _, rfl, D, ⟨k, nw, xs, rfl, hn, Pl⟩, fun H' E O' S' hE hE0 hO' f => h H' E O' S' hE hE0 hO' f.cards⟩
end Dd

namespace Dd
open PySem PySem.Spec PyProof.Rows L2
open Drum (Machine)
theorem wn_of {P : Program} {w : World} {K : PySem.W.Frag} {mg : Str → Option Value} {A : Adr} (T : Txt P w K mg A) {k : Int} {n q : Nat} (h : PyWqdrmf.shape k = some (n, q)) : ∃ t, A.kWHOLE_NUMBERS (.inl k) = some (.int (n : Int) t) := by
  rcases shape_cases h with ⟨rfl, rfl, _⟩ | ⟨rfl, rfl, _⟩ | ⟨rfl, rfl, _⟩ | ⟨rfl, rfl, _⟩ | ⟨rfl, rfl, _⟩ | ⟨rfl, rfl, _⟩ | ⟨rfl, rfl, _⟩ | ⟨rfl, rfl, _⟩ | ⟨rfl, rfl, _⟩ | ⟨rfl, rfl, _⟩
  · exact T.e_WHOLE_NUMBERS_1
  · exact T.e_WHOLE_NUMBERS_2
  · exact T.e_WHOLE_NUMBERS_3
  · exact T.e_WHOLE_NUMBERS_4
  · exact T.e_WHOLE_NUMBERS_5
  · exact T.e_WHOLE_NUMBERS_6
  · exact T.e_WHOLE_NUMBERS_7
  · exact T.e_WHOLE_NUMBERS_8
  · exact T.e_WHOLE_NUMBERS_9
  · exact T.e_WHOLE_NUMBERS_10
theorem row_of {k : Int} {n q : Nat} (h : PyWqdrmf.shape k = some (n, q)) : inV (.int k) [.int 1, .int 4, .int 10] = decide (q = 1) := by
  rcases shape_cases h with ⟨rfl, rfl, rfl⟩ | ⟨rfl, rfl, rfl⟩ | ⟨rfl, rfl, rfl⟩ | ⟨rfl, rfl, rfl⟩ | ⟨rfl, rfl, rfl⟩ | ⟨rfl, rfl, rfl⟩ | ⟨rfl, rfl, rfl⟩ | ⟨rfl, rfl, rfl⟩ | ⟨rfl, rfl, rfl⟩ | ⟨rfl, rfl, rfl⟩ <;> rfl
theorem on_len {A : Adr} {H : Hp} {dk : Addr} {s : Option Drum.Desk} {O : List Addr} (S : StAt A H dk s O) (c : DrumDeskSeed.Call) : (DrumDeskSeed.step ⟨s⟩ c).2.length ≤ 20001 := by
  have other : ∀ d, s = some d → ∀ c, (DrumDeskSeed.on d c).2.length ≤ 20001 := by
    intro d e c
    subst e
    obtain ⟨x, dr, hp, tr, st, jl, hs, ts, D, rfl⟩ := S
    cases c with
    | load st ov n t a d l => exact Nat.zero_le _
    | play l => exact Nat.zero_le _
    | put a v =>
      cases h : (Drum.within a Drum.WORDS && Drum.isWord v) with
      | false => rw [on_put_bad h]; exact Nat.le_of_ble_eq_true rfl
      | true =>
        cases hl : DrumDeskSeed.long d 3 with
        | true => rw [on_put_long h hl]; exact Nat.le_of_ble_eq_true rfl
        | false => rw [on_put_ok h hl]; exact Nat.le_of_ble_eq_true rfl
    | halt_ a v =>
      cases h : (Drum.within a Drum.WORDS && Drum.within v 2) with
      | false => rw [on_halt_bad h]; exact Nat.le_of_ble_eq_true rfl
      | true =>
        by_cases h2 : d.stops.contains a.toNat = (v == 1)
        · rw [on_halt_same h h2]; exact Nat.le_of_ble_eq_true rfl
        · by_cases h3 : v = 1 ∧ Drum.STOPS ≤ d.stops.length
          · rw [on_halt_many h h2 h3]; exact Nat.le_of_ble_eq_true rfl
          · cases hl : DrumDeskSeed.long d 3 with
            | true => rw [on_halt_long h h2 h3 hl]; exact Nat.le_of_ble_eq_true rfl
            | false => rw [on_halt_ok h h2 h3 hl]; exact Nat.le_of_ble_eq_true rfl
    | hand l =>
      cases h : DrumDeskSeed.handed l with
      | false => rw [on_hand_bad h]; exact Nat.le_of_ble_eq_true rfl
      | true =>
        by_cases h2 : Drum.HOLDS < d.hopper.length + l.length / 8
        · rw [on_hand_many h h2]; exact Nat.le_of_ble_eq_true rfl
        · rw [on_hand_ok h h2]; show 2 ≤ 20001; decide
    | run k u p =>
      cases h : runOk k u p with
      | false => rw [on_run_bad h]; exact Nat.le_of_ble_eq_true rfl
      | true =>
        cases hl : DrumDeskSeed.long d (3 + 8 * d.hopper.length) with
        | true => rw [on_run_long h hl]; exact Nat.le_of_ble_eq_true rfl
        | false => rw [on_run_ok h hl]; show 5 ≤ 20001; decide
    | told => show 7 ≤ 20001; decide
    | peek a =>
      cases h : Drum.within a Drum.WORDS with
      | false => rw [on_peek_bad h]; exact Nat.le_of_ble_eq_true rfl
      | true => rw [on_peek_ok h]; show 2 ≤ 20001; decide
    | tray =>
      show d.tray.flatten.length + 1 ≤ 20001
      rw [flat8 D.F.tw]
      have := D.tn
      omega
    | journal =>
      show d.journal.length + 1 ≤ 20001
      have := D.jn
      omega
  cases s with
  | none =>
    cases c with
    | load st ov n t a d l =>
      cases h : partsOk st ov n t a d with
      | false => rw [load_bad h]; exact Nat.le_of_ble_eq_true rfl
      | true =>
        cases h2 : Drum.noted l 0 with
        | none => rw [load_form h (by rw [h2]; rfl)]; exact Nat.le_of_ble_eq_true rfl
        | some ps => rw [load_ok h h2]; exact Nat.le_of_ble_eq_true rfl
    | play l =>
      by_cases h : 20000 < l.length
      · rw [play_long h]; exact Nat.le_of_ble_eq_true rfl
      · rw [play_short h]
        cases Drum.played l with
        | error f => show 5 ≤ 20001; decide
        | ok x => show 5 ≤ 20001; decide
    | _ => show 1 ≤ 20001; decide
  | some d =>
    cases c with
    | load st ov n t a d l =>
      cases h : partsOk st ov n t a d with
      | false => rw [load_bad h]; exact Nat.le_of_ble_eq_true rfl
      | true =>
        cases h2 : Drum.noted l 0 with
        | none => rw [load_form h (by rw [h2]; rfl)]; exact Nat.le_of_ble_eq_true rfl
        | some ps => rw [load_ok h h2]; exact Nat.le_of_ble_eq_true rfl
    | play l =>
      by_cases h : 20000 < l.length
      · rw [play_long h]; exact Nat.le_of_ble_eq_true rfl
      · rw [play_short h]
        cases Drum.played l with
        | error f => show 5 ≤ 20001; decide
        | ok x => show 5 ≤ 20001; decide
    | put a v => exact other d rfl _
    | halt_ a v => exact other d rfl _
    | hand l => exact other d rfl _
    | run k u p => exact other d rfl _
    | told => exact other d rfl _
    | peek a => exact other d rfl _
    | tray => exact other d rfl _
    | journal => exact other d rfl _
theorem StAt.away {A : Adr} {H : Hp} {dk an : Addr} {s : Option Drum.Desk} {O : List Addr} {l : List V} {u : HO} (S : StAt A H dk s O) (ha : H an = some (.lst l)) (hn : an ∉ O) : StAt A (upd H an u) dk s O := by
  cases s with
  | none =>
    obtain ⟨⟨dx, st, jl, h⟩, rfl⟩ := S
    exact ⟨⟨dx, st, jl, by rw [upd_ne (fun z => hn (by rw [← z]; simp))]; exact h⟩, rfl⟩
  | some d =>
    obtain ⟨x, dr, hp, tr, st, jl, hs, ts, D, rfl⟩ := S
    obtain ⟨dx, h⟩ := D.obj
    have n : ∀ b ∈ [dk, x, dr, hp, tr, st, jl] ++ (hs ++ ts), b ≠ an := fun b hb z => hn (by rw [← z]; exact hb)
    have F := D.F.apart (u := u) ha (n dr (by simp)).symm (n hp (by simp)).symm (n tr (by simp)).symm (fun c hc => n c (by simp [hc])) (fun c hc => n c (by simp [hc]))
    exact ⟨x, dr, hp, tr, st, jl, hs, ts, ⟨⟨dx, by rw [upd_ne (n dk (by simp))]; exact h⟩, F, by rw [upd_ne (n st (by simp))]; exact D.stp, by rw [upd_ne (n jl (by simp))]; exact D.jnl, D.jdr, D.jhp, D.jtr, D.jh, D.jt, D.sn, D.sk, D.hn, D.tn, D.jn⟩, rfl⟩
theorem fn_answers {P : Program} {w : World} {K : PySem.W.Frag} {mg : Str → Option Value} {A : Adr} {base : Heap} (T : Txt P w K mg A) {f : Addr} {fd : FuncData} (F : Fun K "answers" "answers" s_answers f fd) : FnOk P w K mg base CX0 12 f fd ["calls"] (sp_answers K) := by
  have M_Desk := ok_Desk_init (P := P) (w := w) (base := base) T
  have G_answer := ok_answer (P := P) (w := w) (base := base) T
  have SC := sc_answers
  refine F.ok (k := 11) sc_answers (fun vs H Q E h => ?_) (fun cdv Ar outer s H vs Q E hr h => ?_)
  · obtain ⟨a, ns, rfl, _⟩ := h; rfl
  · obtain ⟨a, ns, rfl, hS, hl, hask, h⟩ := h
    refine ⟨_, (pss_cons (ps_set (i := 1) SC.nd rfl (by first | exact Or.inl rfl | exact Or.inr rfl) (pe_makeC0 M_Desk hr (by decide))) (pss_cons (ps_set (i := 2) SC.nd rfl (by first | exact Or.inl rfl | exact Or.inr rfl) (pe_lst pa_nil)) (pss_cons (ps_set (i := 3) SC.nd rfl (by first | exact Or.inl rfl | exact Or.inr rfl) pe_int) (pss_cons (ps_while PassesOwn.never (pt_cmpR op_lt (pv 3) (pe_callB call_len_seq (by rfl) T.b_len bt_len (pa_cons (pv 0) pa_nil)) (nomark _)) (pss_cons (ps_set (i := 4) SC.nd rfl (by first | exact Or.inl rfl | exact Or.inr rfl) (pe_ix ix_list (pv 0) (pv 3) (fun _ _ => rfl))) (pss_cons (ps_set (i := 5) SC.nd rfl (by first | exact Or.inl rfl | exact Or.inr rfl) (pe_op op_add (pe_op op_add (pv 3) pe_int) (pe_kd T.d_WHOLE_NUMBERS (pe_gref T.m_WHOLE_NUMBERS) (pv 4) (fun _ _ => rfl)))) (pss_cons (ps_set (i := 6) SC.nd rfl (by first | exact Or.inl rfl | exact Or.inr rfl) (pe_slice sl_list (pv 0) (po_some (pe_op op_add (pv 3) pe_int)) (po_some (pv 5)))) (pss_cons (ps_set (i := 7) SC.nd rfl (by first | exact Or.inl rfl | exact Or.inr rfl) (pe_lst pa_nil)) (pss_cons (ps_set (i := 3) SC.nd rfl (by first | exact Or.inl rfl | exact Or.inr rfl) (pv 5)) (pss_cons (ps_if (pt_cmpR op_in_seq (pv 4) (pe_gref T.m_WITH_ROW) (by with_unfolding_all rfl)) (pss_cons (ps_set (i := 3) SC.nd rfl (by first | exact Or.inl rfl | exact Or.inr rfl) (pe_op op_add (pe_op op_add (pv 5) pe_int) (pe_ix ix_list (pv 0) (pv 5) (fun _ _ => rfl)))) (pss_one (ps_set (i := 7) SC.nd rfl (by first | exact Or.inl rfl | exact Or.inr rfl) (pe_slice sl_list (pv 0) (po_some (pe_op op_add (pv 5) pe_int)) (po_some (pv 3)))))) pss_nil) (pss_cons (ps_set (i := 8) SC.nd rfl (by first | exact Or.inl rfl | exact Or.inr rfl) (pe_callC G_answer hr (by decide) (pa_cons (pv 1) (pa_cons (pv 4) (pa_cons (pv 6) (pa_cons (pv 7) pa_nil)))))) (pss_cons (ps_expr (pe_bmL PySem.F.slot_list_append PySem.F.type_list_append mt_append (pv 2) (pa_cons (pe_callB call_len_lst (by rfl) T.b_len bt_len (pa_cons (pv 8) pa_nil)) pa_nil))) (pss_one (ps_expr (pe_bmL PySem.F.slot_list_extend PySem.F.type_list_extend mt_extend (pv 2) (pa_cons (pv 8) pa_nil))))))))))))) (pss_one (ps_ret (pv 2))))))), ?_⟩
    simp_arith
    obtain ⟨cs0, ec0, hc100, eA⟩ := answers_due hask
    intro dk dxk hk0 hdx0 ndx
    refine ⟨dk, dxk, rfl, upd_same, fun H1 st1 jl1 k1 hk1 => ⟨rfl, ?_⟩⟩
    have s1 : Same H H1 := Same.made hk0 hdx0 k1
    refine ⟨Nat.zero_le _, fun an han => ?_⟩
    have s2 := s1.trans (same_upd (o := .lst []) han)
    have hsz : sizeLine = 16777216 := by decide
    have han0 : H an = none := s1.free han
    refine ⟨fun m σ H' => ∃ (pn f nd : Nat) (s : Option Drum.Desk) (O : List Addr) (acc : List Int) (cs : List (List (List Int))) (v4 v5 v6 v7 v8 : Option V), σ = [some (.ref a), some (.ref dk), some (.ref an), some (.int (pn : Int)), v4, v5, v6, v7, v8] ∧ m = ns.length - pn ∧ pn ≤ ns.length ∧ StAt A H' dk s O ∧ (∀ b ∈ O, H b = none ∧ b ≠ an) ∧ Same H H' ∧ H' an = some (.lst (acc.map V.int)) ∧ PyFlat.calls PyWqdrmf.shape f (ns.drop pn) = some cs ∧ acc ++ due ⟨s⟩ cs = due ⟨none⟩ cs0 ∧ nd + cs.length ≤ 100 ∧ acc.length ≤ nd * 20002,
      ⟨ns.length, 0, ns.length, 0, none, [dk], [], cs0, none, none, none, none, none, rfl, rfl, Nat.zero_le _, ⟨⟨dxk, st1, jl1, same_upd han _ _ hk1⟩, rfl⟩, fun b hb => ?_, s2, upd_same, ec0, rfl, by omega, Nat.zero_le _⟩, ?_⟩
    · have : b = dk := by simpa using hb
      subst this
      exact ⟨hk0, ne_of_none hk1 han⟩
    rintro m σ H' ⟨pn, f, nd, s, O, acc, cs, v4, v5, v6, v7, v8, rfl, rfl, hpn, S, hO, s', ha', ec, ed, hnd, hacc⟩
    have hS' := s'.seq hS
    refine gen_post (b := decide (pn < ns.length)) (H := H') (fun Rr hR => ?_) ?_
    · simp_arith
      refine ⟨_, .inl hS', ?_⟩
      rw [List.length_map, decide_eq_decide.mpr (show ((pn : Int) < (ns.length : Int)) ↔ pn < ns.length by omega)]
      exact hR
    · by_cases c : pn < ns.length
      · rw [if_pos (decide_eq_true c)]
        obtain ⟨k, r, edr, ez, elr, ei⟩ := at_drop c
        rw [edr] at ec
        obtain ⟨n, q, hsh, hn, hcase⟩ := one_call ec
        obtain ⟨tw, hwn⟩ := wn_of T hsh
        have hrow := row_of hsh
        obtain ⟨N, hN⟩ : ∃ N : L2.St → Hp → Prop, N = fun σ2 H2 => ∃ (pn' f nd : Nat) (s : Option Drum.Desk) (O : List Addr) (acc : List Int) (cs : List (List (List Int))) (v4 v5 v6 v7 v8 : Option V), pn < pn' ∧ σ2 = [some (.ref a), some (.ref dk), some (.ref an), some (.int (pn' : Int)), v4, v5, v6, v7, v8] ∧ pn' ≤ ns.length ∧ StAt A H2 dk s O ∧ (∀ b ∈ O, H b = none ∧ b ≠ an) ∧ Same H H2 ∧ H2 an = some (.lst (acc.map V.int)) ∧ PyFlat.calls PyWqdrmf.shape f (ns.drop pn') = some cs ∧ acc ++ due ⟨s⟩ cs = due ⟨none⟩ cs0 ∧ nd + cs.length ≤ 100 ∧ acc.length ≤ nd * 20002 := ⟨_, rfl⟩
        refine ⟨N, ?_, ?_⟩
        · rw [hN]
          rintro σ2 H2 ⟨pn', f', nd', s3, O3, acc3, cs3, w4, w5, w6, w7, w8, hlt, rest⟩
          exact ⟨ns.length - pn', by have := rest.2.1; omega, pn', f', nd', s3, O3, acc3, cs3, w4, w5, w6, w7, w8, rest.1, rfl, rest.2⟩
        · refine ⟨_, rfl, _, rfl, a, _, _, .int k, rfl, rfl, hS', atI_map ez, ?_⟩
          simp_arith [tKD, rKD]
          have edr1 : ns.drop (pn + 1) = r := by rw [← List.drop_drop, edr]; rfl
          have go : ∀ (H3 : Hp) (nw rr : Addr) (row : List Int) (cl : DrumDeskSeed.Call) (f' : Nat) (q0 : List (List Int)) (cs' : List (List (List Int))) (pn' : Nat) (pnI : Int) (w5 : Option V), Same H H3 → StAt A H3 dk s O → H3 an = some (.lst (acc.map V.int)) → H3 nw = some (.lst ((r.take n).map V.int)) → H3 rr = some (.lst (row.map V.int)) → row.length ≤ 100000 → CallIs k (r.take n) row cl →
              DeskNeutral.callOf (PyWqdrmf.whole q0) = some cl → cs = q0 :: cs' → PyFlat.calls PyWqdrmf.shape f' (ns.drop pn') = some cs' → pnI = (pn' : Int) → pn < pn' → pn' ≤ ns.length →
              spTop A ps_answer [V.ref dk, V.int k, V.ref nw, V.ref rr] H3 (fun x_4 H1 => (∃ x, H1 an = some (HO.lst x)) ∧ ∃ p_1, x_4 = V.ref p_1 ∧ ∃ x_5, H1 p_1 = some (HO.lst x_5) ∧ ∃ x_6, H1 an = some (HO.lst x_6) ∧ x_6.length < sizeLine ∧ (∃ x, x_6 ++ [V.int x_5.length] = x) ∧ ∃ x_7, x_4 = V.ref x_7 ∧ ∃ x_8, upd H1 an (HO.lst (x_6 ++ [V.int x_5.length])) x_7 = some (HO.lst x_8) ∧ (x_6 ++ [V.int x_5.length]).length + x_8.length ≤ sizeLine ∧
                N [some (V.ref a), some (V.ref dk), some (V.ref an), some (V.int pnI), some (V.int k), w5, some (V.ref nw), some (V.ref rr), some x_4] (upd H1 an (HO.lst (x_6 ++ [V.int x_5.length] ++ x_8)))) E0 := by
            intro H3 nw rr row cl f' q0 cs' pn' pnI w5 s3 S3 ha3 hnw3 hrr3 hlr hci hco ecs ec' hpI hlt hle
            refine ⟨dk, s, O, _, cl, rfl, S3, ⟨k, nw, rr, r.take n, row, rfl, hnw3, hrr3, hlr, hci⟩, fun H4 D O4 S4 hD hD0 hO4 f4 => ?_⟩
            have s04 : Same H H4 := fun b o e => f4 b o (s3 b o e) (fun z => by rw [(hO b z).1] at e; cases e)
            have nDan : D ≠ an := fun z => by rw [z, ha3] at hD0; cases hD0
            have ha4 : H4 an = some (.lst (acc.map V.int)) := f4 an _ ha3 (fun z => (hO an z).2 rfl)
            have lans := on_len S cl
            have hnd' : nd + 1 + cs'.length ≤ 100 := by rw [ecs, List.length_cons] at hnd; omega
            have hO4' : ∀ b ∈ O4, H b = none ∧ b ≠ an := fun b hb => by
              rcases hO4 b hb with z | z
              · exact hO b z
              · exact ⟨s3.free z, fun y => by rw [y, ha3] at z; cases z⟩
            refine ⟨⟨_, ha4⟩, D, rfl, _, hD, _, ha4, ?_, ⟨_, rfl⟩, D, rfl, _, by rw [upd_ne nDan]; exact hD, ?_, ?_⟩
            · rw [List.length_map]; omega
            · rw [List.length_append, List.length_map, List.length_map]; show acc.length + 1 + _ ≤ _; omega
            · rw [hN]
              refine ⟨pn', f', nd + 1, (DrumDeskSeed.step ⟨s⟩ cl).1.has, O4, acc ++ (((DrumDeskSeed.step ⟨s⟩ cl).2.length : Int) :: (DrumDeskSeed.step ⟨s⟩ cl).2), cs', _, _, _, _, _, hlt, by rw [hpI], hle, S4.away ha4 (fun z => (hO4' an z).2 rfl), hO4', ?_, ?_, ec', ?_, hnd', ?_⟩
              · exact fun b o e => by rw [upd_ne (fun z => by rw [z, han0] at e; cases e)]; exact s04 b o e
              · rw [upd_same, List.length_map, List.append_assoc, List.map_append]; rfl
              · rw [← ed, ecs, due_cons hco, List.append_assoc]
              · rw [List.length_append, List.length_cons]; omega
          refine ⟨_, hwn, .int n, ⟨tw, rfl⟩, _, rfl, ?_⟩
          refine ⟨a, _, rfl, hS', fun nw hnw => ?_⟩
          have ecut : cutV (ns.map V.int) (some ((pn : Int) + 1)) (some ((pn : Int) + 1 + (n : Int))) = (r.take n).map V.int := by
            have := cut_nat (l := ns) (i := pn + 1) (j := pn + 1 + n) (by omega) (by omega)
            rw [Nat.add_sub_cancel_left, edr1] at this
            exact this
          rw [ecut]
          have sn := same_upd (H := H') (o := .lst ((r.take n).map V.int)) hnw
          refine ⟨Nat.zero_le _, fun pw hpw => ?_⟩
          have nnp : nw ≠ pw := ne_of_none upd_same hpw
          have sp := sn.trans (same_upd (o := .lst []) hpw)
          have hnw2 : upd (upd H' nw (.lst ((r.take n).map V.int))) pw (.lst []) nw = _ := (upd_ne nnp).trans upd_same
          have hpw2 : upd (upd H' nw (.lst ((r.take n).map V.int))) pw (.lst []) pw = _ := upd_same
          generalize upd (upd H' nw (.lst ((r.take n).map V.int))) pw (.lst []) = H2 at *
          refine ⟨A.aWITH_ROW, _, rfl, .inr (T.t_WITH_ROW _), rfl, rfl, ?_⟩
          refine ⟨_, rfl, ?_⟩
          have hin : (if false = true then !inV (.int k) [.int 1, .int 4, .int 10] else inV (.int k) [.int 1, .int 4, .int 10]) = decide (q = 1) := hrow
          rw [hin]
          rcases hcase with ⟨hq, f', q0, cs', cl, ec', ecs, hco, hci⟩ | ⟨hq, z, f', q0, cs', cl, hz, hzl, ec', ecs, hco, hci⟩
          · rw [if_neg (by rw [decide_eq_true_iff]; omega)]
            have ec2 : PyFlat.calls PyWqdrmf.shape f' (ns.drop (pn + 1 + n)) = some cs' := by rw [← List.drop_drop, edr1]; exact ec'
            exact go H2 nw pw [] cl f' q0 cs' (pn + 1 + n) _ _ (s'.trans sp) (S.same sp) (sp _ _ ha') hnw2 hpw2 (Nat.zero_le _) hci hco ecs ec2 rfl (by omega) (by omega)
          · rw [if_pos (decide_eq_true hq)]
            have ez2 : ns[pn + 1 + n]? = some (z : Int) := by rw [ei n]; exact hz
            refine ⟨a, _, _, .int z, rfl, rfl, sp.seq hS', atI_map (i := pn + 1 + n) ez2, ?_⟩
            refine ⟨_, rfl, ?_⟩
            refine ⟨a, _, rfl, sp.seq hS', fun rr hrr => ?_⟩
            have ecut2 : cutV (ns.map V.int) (some ((pn : Int) + 1 + (n : Int) + 1)) (some ((pn : Int) + 1 + (n : Int) + 1 + (z : Int))) = ((r.drop (n + 1)).take z).map V.int := by
              have := cut_nat (l := ns) (i := pn + 1 + n + 1) (j := pn + 1 + n + 1 + z) (by omega) (by omega)
              rw [Nat.add_sub_cancel_left, show pn + 1 + n + 1 = pn + 1 + (n + 1) by omega, ← List.drop_drop, edr1] at this
              rw [← this]
              congr 2 <;> congr 1 <;> omega
            rw [ecut2]
            have sr := same_upd (H := H2) (o := .lst (((r.drop (n + 1)).take z).map V.int)) hrr
            have ec2 : PyFlat.calls PyWqdrmf.shape f' (ns.drop (pn + 1 + n + 1 + z)) = some cs' := by
              rw [show pn + 1 + n + 1 + z = pn + 1 + (n + 1 + z) by omega, ← List.drop_drop, edr1]; exact ec'
            exact go _ nw rr _ cl f' q0 cs' (pn + 1 + n + 1 + z) _ _ ((s'.trans sp).trans sr) ((S.same sp).same sr) (sr _ _ (sp _ _ ha')) (sr _ _ hnw2) upd_same (by rw [List.length_take, List.length_drop]; omega) hci hco ecs ec2 rfl (by omega) (by omega)
      · rw [if_neg (by rw [decide_eq_true_iff]; exact c)]
        have e0 : ns.drop pn = [] := List.drop_eq_nil_of_le (by omega)
        rw [e0, calls_nil] at ec
        cases ec
        have e1 : due ⟨s⟩ [] = [] := rfl
        rw [e1, List.append_nil] at ed
        refine ⟨_, rfl, ?_⟩
        refine h H' an ?_
        rw [eA, ← ed]; exact ha'
end Dd

set_option maxRecDepth 100000
set_option maxHeartbeats 2000000
namespace Dd
open PySem PySem.Spec PyProof.Rows L2
theorem all_fin (P : Program) (w : World) (K : PySem.W.Frag) (mg : Str → Option Value) (A : Adr) (fa : Addr) (T : Txt P w K mg A) (hfa : mg "answers" = some (.ref fa)) : Upshot P w K mg fa := by
  obtain ⟨f, fd, F, hm, hb⟩ := T.f_answers.ex
  cases hfa.symm.trans hm
  refine ⟨fd, ?_, fun base _ _ => fn_answers T F⟩
  obtain ⟨oc, od, kV, doc, pm, an, cdv, ct, osl, rfl, lk, hcd⟩ := F.ex
  exact fun s us hu => match us, hu with | [_], _ => .of_eq rfl
end Dd
theorem PySem.Challenge.cw_drumdesk_s01_answers_holds : PySem.Challenge.rw_drumdesk_s01_answers.Holds := by
  exact Dd.by_head Dd.all_fin
