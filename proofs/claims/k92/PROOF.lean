import PyProof.Rows.All
import OpenK.ZGo
import OpenK.KLine
import KE.KIsAll
import KE.KItem
import KE.IntBitsLaws
import KE.KRevIter
import KE.LcTurns
import PyProof.EqAt
import PyProof.EqKinds
import PyProof.TupleCall
import PyProof.ExcBaseAll.ValueError
import PyProof.P3Eq
import PyProof.NeData
import PyProof.DictTable
import KE.KEqDict
import PyProof.EnumFor
import PyProof.EnumMake
import PyProof.EnumStmt
import PyProof.NsDelKeeps
import KE.KListMore
import PyProof.Rows.SortWalk
import PyProof.ListRange
import KE.KIntText
import PyProof.StrLawsTight
import PyProof.Rows.StrSplitCount
import PyProof.JoinWalk
import PyProof.P3In
import OpenK.KTop
import PyProof.StrLawsFirst
import PyProof.MeetsStr
import PyProof.StrLawsChain
import PySem.Challenge.RW_knockwright_k92_bodies_kept
set_option Elab.async false
set_option linter.all false
set_option maxRecDepth 100000
noncomputable def PySem.W.Fast.tw4074448060930335258 : PySem.Program := PySem.Challenge.pw_knockwright_k92_bodies_kept
theorem PySem.W.Fast.te4074448060930335258 : PySem.Challenge.pw_knockwright_k92_bodies_kept = PySem.W.Fast.tw4074448060930335258 := rfl
namespace PySem.W.Fast
noncomputable def tw6241959398422275167:Unit:=()
noncomputable def tw6044533089366213018:Unit:=()
noncomputable def tw3009508531047439798:Unit:=()
noncomputable def tw12639149576217755470:Unit:=()
noncomputable def tw10474286798916706261:Unit:=()
noncomputable def tw8568350539165106229:Unit:=()
noncomputable def tw9315697760057833013:Unit:=()
noncomputable def tw1550201124395046570:Unit:=()
noncomputable def tw9588403583145244635:Unit:=()
noncomputable def tw13511269459748816078:Unit:=()
noncomputable def tw11530186726216666776:Unit:=()
noncomputable def tw15114962506785119445:Unit:=()
noncomputable def tw7867530798930282848:Unit:=()
noncomputable def tw5760383217726082392:Unit:=()
noncomputable def tw12327322423269239927:Unit:=()
noncomputable def tw12337814785368437877:Unit:=()
noncomputable def tw744425474963356994:Unit:=()
noncomputable def tw7003343761066254325:Unit:=()
noncomputable def tw13123595623261674359:Unit:=()
noncomputable def tw1600238864023779997:Unit:=()
noncomputable def tw16566582516392931785:Unit:=()
noncomputable def tw9894637880225506795:Unit:=()
noncomputable def tw4308390738130326189:Unit:=()
noncomputable def tw2633235505515950350:Unit:=()
noncomputable def tw1645049926967405952:Unit:=()
noncomputable def tw17860820403816363799:Unit:=()
noncomputable def tw13347346379663507333:Unit:=()
noncomputable def tw1161607634673878109:Unit:=()
noncomputable def tw6269299240711948745:Unit:=()
noncomputable def tw3034393751446055699:Unit:=()
noncomputable def tw8846264328432652671:Unit:=()
noncomputable def tw2201717593188699008:Unit:=()
noncomputable def tw9871367290624548812:Unit:=()
noncomputable def tw6994046620716862109:Unit:=()
noncomputable def tw2162089733253155369:Unit:=()
noncomputable def tw14020320050550980160:Unit:=()
noncomputable def tw15584860307726311704:Unit:=()
noncomputable def tw14083098152979740968:Unit:=()
noncomputable def tw16280015245349974745:Unit:=()
noncomputable def tw4920453044477779252:Unit:=()
noncomputable def tw4883342229648425165:Unit:=()
noncomputable def tw16791917871319436602:Unit:=()
noncomputable def tw1516403641933420342:Unit:=()
noncomputable def tw18357804066355922487:Unit:=()
noncomputable def tw3085509926118693846:Unit:=()
noncomputable def tw10645772832644940970:Unit:=()
noncomputable def tw8806657862589142080:Unit:=()
noncomputable def tw6707031713811444422:Unit:=()
noncomputable def tw15752972061363857989:Unit:=()
noncomputable def tw11986564136380281688:Unit:=()
noncomputable def tw18175012146353094477:Unit:=()
noncomputable def tw9092778650744864210:Unit:=()
noncomputable def tw18029837670143167844:Unit:=()
noncomputable def tw10343466121221632773:Unit:=()
noncomputable def tw8460756760675140498:Unit:=()
noncomputable def tw1241707940764661165:Unit:=()
noncomputable def tw16199522986894439805:Unit:=()
noncomputable def tw17513333527673107444:Unit:=()
noncomputable def tw7844156295118940262:Unit:=()
noncomputable def tw4983159161754445571:Unit:=()
noncomputable def tw10623331997241088398:Unit:=()
noncomputable def tw5333223262775784846:Unit:=()
noncomputable def tw4323633513482757486:Unit:=()
noncomputable def tw12982862965331835972:Unit:=()
noncomputable def tw875770690851071258:Unit:=()
noncomputable def tw13016899877047277211:Unit:=()
noncomputable def tw4191646805194484412:Unit:=()
noncomputable def tw11585585939808813346:Unit:=()
noncomputable def tw7025106591051775936:Unit:=()
noncomputable def tw8987086007275540351:Unit:=()
noncomputable def tw9503500131876241680:Unit:=()
noncomputable def tw13901844051987297832:Unit:=()
noncomputable def tw17552265116925392257:Unit:=()
noncomputable def tw17395784519158785034:Unit:=()
noncomputable def tw3679129766528842936:Unit:=()
noncomputable def tw3995871199589442184:Unit:=()
noncomputable def tw3917680015100350714:Unit:=()
noncomputable def tw16447897703652570175:Unit:=()
noncomputable def tw5286003176101180300:Unit:=()
noncomputable def tw18188107320779364014:Unit:=()
noncomputable def tw16317928761796498352:Unit:=()
noncomputable def tw4008631239680444068:Unit:=()
noncomputable def tw11020887553375332400:Unit:=()
noncomputable def tw15666720836058707561:Unit:=()
noncomputable def tw7931162337944308241:Unit:=()
noncomputable def tw8417246795890861749:Unit:=()
noncomputable def tw5865382772524421379:Unit:=()
noncomputable def tw9584007176511565061:Unit:=()
noncomputable def tw11539106758579195297:Unit:=()
noncomputable def tw8973484798774816397:Unit:=()
noncomputable def tw12043993721866052585:Unit:=()
noncomputable def tw10191816711001345282:Unit:=()
noncomputable def tw6316601882889396482:Unit:=()
noncomputable def tw14227798809047449009:Unit:=()
noncomputable def tw3497029916054517566:Unit:=()
noncomputable def tw651189960499872264:Unit:=()
noncomputable def tw5523317266277221278:Unit:=()
noncomputable def tw6434233539184256701:Unit:=()
noncomputable def tw16955910498275775311:Unit:=()
noncomputable def tw7939689317065256682:Unit:=()
noncomputable def tw14673366952123386597:Unit:=()
noncomputable def tw17950510745535547235:Unit:=()
noncomputable def tw4353855715448894865:Unit:=()
noncomputable def tw4360688084964260804:Unit:=()
noncomputable def tw12881589130763683112:Unit:=()
noncomputable def tw13997290399242608146:Unit:=()
noncomputable def tw1362833466813154372:Unit:=()
noncomputable def tw820904916877856923:Unit:=()
noncomputable def tw12311722130455021510:Unit:=()
noncomputable def tw16215451306330027492:Unit:=()
noncomputable def tw6710144389031740280:Unit:=()
noncomputable def tw7753888316596866517:Unit:=()
noncomputable def tw1720333005477686531:Unit:=()
noncomputable def tw6154539452490009232:Unit:=()
noncomputable def tw7345443048265037171:Unit:=()
noncomputable def tw8647052239848065599:Unit:=()
noncomputable def tw11276786034776957414:Unit:=()
noncomputable def tw373195058544697256:Unit:=()
noncomputable def tw8445014345598160341:Unit:=()
noncomputable def tw1749815822510397555:Unit:=()
noncomputable def tw11411547987138322633:Unit:=()
noncomputable def tw3780592059313004316:Unit:=()
noncomputable def tw7080148806490776145:Unit:=()
noncomputable def tw5802291658411601993:Unit:=()
noncomputable def tw10136706920967442288:Unit:=()
noncomputable def tw3786444300211116724:Unit:=()
noncomputable def tw10700405471374417842:Unit:=()
noncomputable def tw8899300306101137195:Unit:=()
noncomputable def tw15353510489656354920:Unit:=()
noncomputable def tw110132028984452235:Unit:=()
noncomputable def tw10710067926774551015:Unit:=()
noncomputable def tw2139566894343904603:Unit:=()
noncomputable def tw2849496816445308931:Unit:=()
noncomputable def tw16296565160983543013:Unit:=()
noncomputable def tw550318707852992124:Unit:=()
noncomputable def tw6575537940818229456:Unit:=()
noncomputable def tw14031142318781359594:Unit:=()
noncomputable def tw17457778230380924825:Unit:=()
noncomputable def tw3109254555680023978:Unit:=()
noncomputable def tw4054122824436192053:Unit:=()
noncomputable def tw5956207630625419943:Unit:=()
noncomputable def tw11325047018418047494:Unit:=()
noncomputable def tw2730347660225310240:Unit:=()
noncomputable def tw5018246284705826202:Unit:=()
noncomputable def tw16277959887926534237:Unit:=()
noncomputable def tw6359868799926697605:Unit:=()
noncomputable def tw9487730833061972927:Unit:=()
noncomputable def tw7780543271984750445:Unit:=()
noncomputable def tw12475424915094577907:Unit:=()
noncomputable def tw12037449135922468053:Unit:=()
noncomputable def tw1568909483639248874:Unit:=()
noncomputable def tw12839079635207752934:Unit:=()
noncomputable def tw14278242994292379180:Unit:=()
noncomputable def tw2155595329586266633:Unit:=()
noncomputable def tw4762091683381534866:Unit:=()
noncomputable def tw9814910334176600703:Unit:=()
noncomputable def tw11677436383487838034:Unit:=()
noncomputable def tw7322446023650369135:Unit:=()
noncomputable def tw7504840507558975764:Unit:=()
noncomputable def tw4745264593760280231:Unit:=()
noncomputable def tw10540744335557092676:Unit:=()
noncomputable def tw10948357408859352800:Unit:=()
noncomputable def tw61471997154131720:Unit:=()
noncomputable def tw1115017411467981086:Unit:=()
noncomputable def tw2142825783134978651:Unit:=()
noncomputable def tw6253590604267961839:Unit:=()
noncomputable def tw16351147492522122371:Unit:=()
noncomputable def tw2954416664638320628:Unit:=()
noncomputable def tw7045564321048447507:Unit:=()
noncomputable def tw18206727037741954115:Unit:=()
noncomputable def tw2294451699703276499:Unit:=()
noncomputable def tw7227581448242853258:Unit:=()
noncomputable def tw790928550243516624:Unit:=()
noncomputable def tw10909268333987782170:Unit:=()
noncomputable def tw341760246372164441:Unit:=()
noncomputable def tw11239591685428390341:Unit:=()
noncomputable def tw9773068313062776708:Unit:=()
noncomputable def tw16684369154768542555:Unit:=()
noncomputable def tw13256328376080435475:Unit:=()
noncomputable def tw5181723300921130264:Unit:=()
noncomputable def tw9130812030116512128:Unit:=()
noncomputable def tw1987288630247395139:Unit:=()
noncomputable def tw1091868051061119889:Unit:=()
noncomputable def tw510071214752886211:Unit:=()
noncomputable def tw10320700588738756609:Unit:=()
noncomputable def tw11763673283333749129:Unit:=()
noncomputable def tw8450117626230407332:Unit:=()
noncomputable def tw8738738614332197631:Unit:=()
noncomputable def tw14337118587223727300:Unit:=()
noncomputable def tw9180411590900484939:Unit:=()
noncomputable def tw10886884754916273024:Unit:=()
noncomputable def tw14278303218685238588:Unit:=()
noncomputable def tw16985088186536557320:Unit:=()
noncomputable def tw1070744362954861914:Unit:=()
noncomputable def tw11343176153518731948:Unit:=()
noncomputable def tw12925053607251873771:Unit:=()
noncomputable def tw1054598698539547245:Unit:=()
noncomputable def tw10136102264005993523:Unit:=()
noncomputable def tw16352949488314903427:Unit:=()
noncomputable def tw14135986139368461848:Unit:=()
noncomputable def tw11306674788314156449:Unit:=()
noncomputable def tw2929224632694910958:Unit:=()
noncomputable def tw11199480925853700794:Unit:=()
noncomputable def tw7102685780695227731:Unit:=()
noncomputable def tw707255068746197784:Unit:=()
noncomputable def tw5988460988396440798:Unit:=()
noncomputable def tw16714569453332588002:Unit:=()
noncomputable def tw673109097458434570:Unit:=()
noncomputable def tw13013301272046720535:Unit:=()
noncomputable def tw7955343004650722750:Unit:=()
noncomputable def tw15812686071495169355:Unit:=()
noncomputable def tw7251981321761266869:Unit:=()
noncomputable def tw14692742321466977899:Unit:=()
noncomputable def tw16808842804889459874:Unit:=()
noncomputable def tw1603623444295515439:Unit:=()
noncomputable def tw2342179932659360278:Unit:=()
noncomputable def tw12551073454721789516:Unit:=()
noncomputable def tw17931483879159993924:Unit:=()
noncomputable def tw8444663728863268321:Unit:=()
noncomputable def tw4345761883667072534:Unit:=()
noncomputable def tw13686684305747714665:Unit:=()
noncomputable def tw14815965138689214121:Unit:=()
noncomputable def tw9675422481506222888:Unit:=()
noncomputable def tw13082526903777278752:Unit:=()
noncomputable def tw12974159627294227479:Unit:=()
noncomputable def tw16890054849715790844:Unit:=()
noncomputable def tw16976127059848450294:Unit:=()
noncomputable def tw12533976221169293077:Unit:=()
noncomputable def tw13755854307254570291:Unit:=()
noncomputable def tw7999594486313766267:Unit:=()
noncomputable def tw4599708123923857150:Unit:=()
noncomputable def tw17807330478659038679:Unit:=()
noncomputable def tw17072888050746225372:Unit:=()
noncomputable def tw1954615485943305332:Unit:=()
noncomputable def tw4721223452120953936:Unit:=()
noncomputable def tw15724949728768419849:Unit:=()
noncomputable def tw4597564234799117212:Unit:=()
noncomputable def tw9730909491486154316:Unit:=()
noncomputable def tw11561958069554250610:Unit:=()
noncomputable def tw16310633073746344686:Unit:=()
noncomputable def tw9101636708815523137:Unit:=()
noncomputable def tw10336711673990056857:Unit:=()
noncomputable def tw8188354993394506340:Unit:=()
noncomputable def tw1953449533729253884:Unit:=()
noncomputable def tw2009473397233061698:Unit:=()
noncomputable def tw16414275554509976767:Unit:=()
noncomputable def tw15865331338442419528:Unit:=()
noncomputable def tw15077345563682120210:Unit:=()
noncomputable def tw6277014795109912477:Unit:=()
noncomputable def tw11575775262998052776:Unit:=()
noncomputable def tw9194957001313814988:Unit:=()
noncomputable def tw17689231495609230343:Unit:=()
noncomputable def tw8661177123652555278:Unit:=()
noncomputable def tw2968865913602182002:Unit:=()
noncomputable def tw9545312594813892473:Unit:=()
noncomputable def tw17106279697754783733:Unit:=()
noncomputable def tw3281362163510217265:Unit:=()
noncomputable def tw7100771725220931773:Unit:=()
noncomputable def tw17208149313634204355:Unit:=()
noncomputable def tw2389171744866157619:Unit:=()
noncomputable def tw9198668794327437961:Unit:=()
noncomputable def tw7952595434083786087:Unit:=()
noncomputable def tw8288473335617545572:Unit:=()
noncomputable def tw4933346525402197525:Unit:=()
noncomputable def tw1143427730864149971:Unit:=()
noncomputable def tw4922536053339046519:Unit:=()
noncomputable def tw6137630256600610164:Unit:=()
noncomputable def tw13753076669336173264:Unit:=()
noncomputable def tw14282620407026826448:Unit:=()
noncomputable def tw10949088070285081:Unit:=()
noncomputable def tw7846350503554462913:Unit:=()
noncomputable def tw13953597850403101583:Unit:=()
noncomputable def tw6225939722719796537:Unit:=()
noncomputable def tw1636676531532948655:Unit:=()
noncomputable def tw15860791619965536630:Unit:=()
noncomputable def tw1285149602154345787:Unit:=()
noncomputable def tw1538835486819685603:Unit:=()
noncomputable def tw2477786569098366544:Unit:=()
noncomputable def tw9604001925663116551:Unit:=()
noncomputable def tw11077037769742953238:Unit:=()
noncomputable def tw882765167775885979:Unit:=()
noncomputable def tw18133674770738671633:Unit:=()
noncomputable def tw16250424918484168962:Unit:=()
noncomputable def tw10258136301677144235:Unit:=()
noncomputable def tw5649986102968171884:Unit:=()
noncomputable def tw13960738335758921748:Unit:=()
noncomputable def tw9523365166406968908:Unit:=()
noncomputable def tw5113429636986129019:Unit:=()
noncomputable def tw2360267867828135808:Unit:=()
noncomputable def tw15165403447435214948:Unit:=()
noncomputable def tw10148497952256138839:Unit:=()
noncomputable def tw10435207157641512069:Unit:=()
noncomputable def tw7932996884443703798:Unit:=()
noncomputable def tw9524286198068896534:Unit:=()
noncomputable def tw6509026397934124641:Unit:=()
noncomputable def tw12726830887724943250:Unit:=()
noncomputable def tw15536594696699765712:Unit:=()
noncomputable def tw12215450833402390193:Unit:=()
noncomputable def tw9863494772592809841:Unit:=()
noncomputable def tw7908182576506665706:Unit:=()
noncomputable def tw5545622453210476867:Unit:=()
noncomputable def tw9588879923553204255:Unit:=()
noncomputable def tw15620894991946160613:Unit:=()
noncomputable def tw9628544288029554727:Unit:=()
noncomputable def tw2577221748605302454:Unit:=()
noncomputable def tw16324595551063221845:Unit:=()
noncomputable def tw10473311380665703118:Unit:=()
noncomputable def tw380926626531089392:Unit:=()
noncomputable def tw7008989935675925917:Unit:=()
noncomputable def tw13418911290844304688:Unit:=()
noncomputable def tw1601725435796569451:Unit:=()
noncomputable def tw11863982085973420901:Unit:=()
noncomputable def tw13669459902596630607:Unit:=()
noncomputable def tw730864472625020929:Unit:=()
noncomputable def tw5436637980731150874:Unit:=()
noncomputable def tw5014316057662508790:Unit:=()
noncomputable def tw14824649556767361648:Unit:=()
noncomputable def tw16212515413391845887:Unit:=()
noncomputable def tw6496322174086404745:Unit:=()
noncomputable def tw6956519460310346038:Unit:=()
noncomputable def tw755933729952860158:Unit:=()
noncomputable def tw18067569650151072794:Unit:=()
noncomputable def tw18439645614637310488:Unit:=()
noncomputable def tw12934230885374903938:Unit:=()
noncomputable def tw15584757222533102163:Unit:=()
noncomputable def tw13131583463884570719:Unit:=()
noncomputable def tw14489423437687560599:Unit:=()
noncomputable def tw609056614577501379:Unit:=()
noncomputable def tw2362504063059314689:Unit:=()
noncomputable def tw396316156871165685:Unit:=()
noncomputable def tw6744986083988249290:Unit:=()
noncomputable def tw17417914485623570010:Unit:=()
noncomputable def tw2876799467655759137:Unit:=()
noncomputable def tw14854807186243043817:Unit:=()
noncomputable def tw4181598183684532619:Unit:=()
noncomputable def tw16534919582221253933:Unit:=()
noncomputable def tw2190372989341751830:Unit:=()
noncomputable def tw347371371599262690:Unit:=()
noncomputable def tw3534747006201468440:Unit:=()
noncomputable def tw16455912938419459708:Unit:=()
noncomputable def tw7811687370510580856:Unit:=()
noncomputable def tw4900436997373177406:Unit:=()
noncomputable def tw15848724966605610412:Unit:=()
noncomputable def tw1396109097803776454:Unit:=()
noncomputable def tw7282570519208874515:Unit:=()
noncomputable def tw10944002380583185201:Unit:=()
noncomputable def tw7428686472351331335:Unit:=()
noncomputable def tw13818996152178991319:Unit:=()
noncomputable def tw15435059713675655573:Unit:=()
noncomputable def tw5148742131667390295:Unit:=()
noncomputable def tw1908853739934476799:Unit:=()
noncomputable def tw17358757928336250227:Unit:=()
noncomputable def tw7310692460171634684:Unit:=()
noncomputable def tw17263768933769949053:Unit:=()
noncomputable def tw7133872470240936542:Unit:=()
noncomputable def tw10866254885781856348:Unit:=()
noncomputable def tw1893055440771404876:Unit:=()
noncomputable def tw7126016515601809637:Unit:=()
noncomputable def tw2709497018477443184:Unit:=()
noncomputable def tw9542778772382996277:Unit:=()
noncomputable def tw10756356032931071388:Unit:=()
noncomputable def tw15095581014482117333:Unit:=()
noncomputable def tw2626018874126994937:Unit:=()
noncomputable def tw16922813006079457048:Unit:=()
noncomputable def tw11694995024992485269:Unit:=()
noncomputable def tw10679052866933717961:Unit:=()
noncomputable def tw4714102933812887644:Unit:=()
noncomputable def tw8037660564336509223:Unit:=()
noncomputable def tw3223025170357335394:Unit:=()
noncomputable def tw16070281735082391326:Unit:=()
noncomputable def tw5911161502589161614:Unit:=()
noncomputable def tw1206000556217452383:Unit:=()
noncomputable def tw18220074011583202032:Unit:=()
noncomputable def tw3974807489865886260:Unit:=()
noncomputable def tw9127034310781223977:Unit:=()
noncomputable def tw2642674470761468898:Unit:=()
noncomputable def tw4186768861055711962:Unit:=()
noncomputable def tw3979620668446027917:Unit:=()
noncomputable def tw10350184921417769033:Unit:=()
noncomputable def tw2509092709036091219:Unit:=()
noncomputable def tw8981237149146410557:Unit:=()
noncomputable def tw3811944523989772075:Unit:=()
noncomputable def tw18113147694862164111:Unit:=()
noncomputable def tw17571291922169613370:Unit:=()
noncomputable def tw12873394467540474654:Unit:=()
noncomputable def tw4333886026816867394:Unit:=()
noncomputable def tw10111122841224075186:Unit:=()
noncomputable def tw7656429291933033747:Unit:=()
noncomputable def tw4085193683567807146:Unit:=()
noncomputable def tw6849786377372354365:Unit:=()
noncomputable def tw3655418039710941972:Unit:=()
noncomputable def tw5906659044386005910:Unit:=()
noncomputable def tw7026281778248890427:Unit:=()
noncomputable def tw6198994427192403329:Unit:=()
noncomputable def tw15564597843493376075:Unit:=()
noncomputable def tw3454142147696055156:Unit:=()
noncomputable def tw12324590225546002204:Unit:=()
noncomputable def tw7244211496466314197:Unit:=()
noncomputable def tw12044728979643990419:Unit:=()
noncomputable def tw13410909879117310611:Unit:=()
noncomputable def tw11563870222583205654:Unit:=()
noncomputable def tw5257346959218965998:Unit:=()
noncomputable def tw18276245506976574179:Unit:=()
noncomputable def tw15152144551607870504:Unit:=()
noncomputable def tw3792252045662183948:Unit:=()
noncomputable def tw16455141634383233602:Unit:=()
noncomputable def tw5823936854973204743:Unit:=()
noncomputable def tw14747372642808725665:Unit:=()
noncomputable def tw3107780063756528032:Unit:=()
noncomputable def tw543170777962482736:Unit:=()
noncomputable def tw10574599545347079008:Unit:=()
noncomputable def tw13324037559483315862:Unit:=()
noncomputable def tw14558626224521036722:Unit:=()
noncomputable def tw16991272437583565803:Unit:=()
noncomputable def tw18359805702341953514:Unit:=()
noncomputable def tw6007867748036193395:Unit:=()
noncomputable def tw5319820024019011414:Unit:=()
noncomputable def tw4556986370989114203:Unit:=()
noncomputable def tw16159624917922213050:Unit:=()
noncomputable def tw8445033320343103826:Unit:=()
noncomputable def tw1291631177585539590:Unit:=()
noncomputable def tw7646782264879193441:Unit:=()
noncomputable def tw12870451102188842464:Unit:=()
noncomputable def tw15121047428250336215:Unit:=()
noncomputable def tw12536619413361524021:Unit:=()
noncomputable def tw9130162760937645680:Unit:=()
noncomputable def tw17623521952652381825:Unit:=()
noncomputable def tw2072015739386538807:Unit:=()
noncomputable def tw3449682272494416578:Unit:=()
noncomputable def tw1913463134620859248:Unit:=()
noncomputable def tw3406133896362728000:Unit:=()
noncomputable def tw12132714500778887699:Unit:=()
noncomputable def tw12161737222799359802:Unit:=()
noncomputable def tw4706373478320289710:Unit:=()
noncomputable def tw11376763710129814422:Unit:=()
noncomputable def tw14063770991557405274:Unit:=()
noncomputable def tw12604677534410976174:Unit:=()
noncomputable def tw16851115835755640324:Unit:=()
noncomputable def tw15372208972331275668:Unit:=()
noncomputable def tw7418166814842289956:Unit:=()
noncomputable def tw2558315403172770685:Unit:=()
noncomputable def tw1504050424597477911:Unit:=()
noncomputable def tw16225458076027663405:Unit:=()
noncomputable def tw12612548955697479291:Unit:=()
noncomputable def tw14832147780415173527:Unit:=()
noncomputable def tw16658200603949923379:Unit:=()
noncomputable def tw11512280699990514844:Unit:=()
noncomputable def tw9561314386175044116:Unit:=()
noncomputable def tw15533715754949679838:Unit:=()
noncomputable def tw3670863105931574185:Unit:=()
noncomputable def tw12472471665035534406:Unit:=()
noncomputable def tw8664975261485834101:Unit:=()
noncomputable def tw6742311165861457539:Unit:=()
noncomputable def tw14314420477251943801:Unit:=()
noncomputable def tw6721173847064990383:Unit:=()
noncomputable def tw7336427491850745090:Unit:=()
noncomputable def tw6811660443665271263:Unit:=()
noncomputable def tw18238244134451813029:Unit:=()
noncomputable def tw7548322294151708450:Unit:=()
noncomputable def tw3024862337288067755:Unit:=()
noncomputable def tw18327851467213582109:Unit:=()
noncomputable def tw13268818179581894906:Unit:=()
noncomputable def tw467227774459431483:Unit:=()
noncomputable def tw1091778457423806286:Unit:=()
noncomputable def tw17112781167601818450:Unit:=()
noncomputable def tw13718337365112212969:Unit:=()
noncomputable def tw3060470621174107594:Unit:=()
noncomputable def tw8830784141171954357:Unit:=()
noncomputable def tw13592826617836970986:Unit:=()
noncomputable def tw4872536356329339179:Unit:=()
noncomputable def tw2773746199863905886:Unit:=()
noncomputable def tw5815347002264940383:Unit:=()
noncomputable def tw1343485343745253825:Unit:=()
noncomputable def tw13085759853209927337:Unit:=()
noncomputable def tw1359312715288171683:Unit:=()
noncomputable def tw3478614552369597767:Unit:=()
noncomputable def tw5427215142420133996:Unit:=()
noncomputable def tw9055755664349516751:Unit:=()
noncomputable def tw17327515676071458411:Unit:=()
noncomputable def tw15851118121906279714:Unit:=()
noncomputable def tw11611744164844358397:Unit:=()
noncomputable def tw11079548599751952841:Unit:=()
noncomputable def tw11970242527965851950:Unit:=()
noncomputable def tw3834801579739982177:Unit:=()
noncomputable def tw17760569058007084324:Unit:=()
noncomputable def tw13420441936634881415:Unit:=()
noncomputable def tw3128586884948949028:Unit:=()
noncomputable def tw5583439893841693440:Unit:=()
noncomputable def tw17446407149582680496:Unit:=()
noncomputable def tw1472266253361917271:Unit:=()
noncomputable def tw2922136088081033650:Unit:=()
noncomputable def tw12823607580530493273:Unit:=()
noncomputable def tw6482285197223577627:Unit:=()
noncomputable def tw7607330555450115479:Unit:=()
noncomputable def tw4899569904477808119:Unit:=()
noncomputable def tw17664555031654046665:Unit:=()
noncomputable def tw9884558616288737082:Unit:=()
noncomputable def tw14987480177342084571:Unit:=()
noncomputable def tw8707168916838340202:Unit:=()
noncomputable def tw13198782488173510641:Unit:=()
noncomputable def tw6785631274081534911:Unit:=()
noncomputable def tw4068183846946425040:Unit:=()
noncomputable def tw15956206024122826863:Unit:=()
noncomputable def tw2503514649891058241:Unit:=()
noncomputable def tw11434752430408784294:Unit:=()
noncomputable def tw327549445797604397:Unit:=()
noncomputable def tw13463873895912318813:Unit:=()
noncomputable def tw5419502378155859872:Unit:=()
noncomputable def tw751396857642058805:Unit:=()
noncomputable def tw5458868534811457086:Unit:=()
noncomputable def tw2349088698387289651:Unit:=()
noncomputable def tw6497126595772246572:Unit:=()
noncomputable def tw11840445328161730996:Unit:=()
noncomputable def tw8799040664033858056:Unit:=()
noncomputable def tw5092065485147625072:Unit:=()
noncomputable def tw6262150651856686387:Unit:=()
noncomputable def tw3929769717059981966:Unit:=()
noncomputable def tw12339199226553687374:Unit:=()
noncomputable def tw13937453081668436993:Unit:=()
noncomputable def tw14714054147555042366:Unit:=()
noncomputable def tw327449164691602636:Unit:=()
noncomputable def tw8823217110345292343:Unit:=()
noncomputable def tw895519198607729697:Unit:=()
noncomputable def tw12057958420954186668:Unit:=()
noncomputable def tw3428042229120265779:Unit:=()
noncomputable def tw1966772950545375402:Unit:=()
noncomputable def tw2441132268955867530:Unit:=()
noncomputable def tw11570415985673558930:Unit:=()
noncomputable def tw11379070099886881334:Unit:=()
noncomputable def tw4694525619622367692:Unit:=()
noncomputable def tw4681000622263689008:Unit:=()
noncomputable def tw2395164670354133600:Unit:=()
noncomputable def tw13816978233470203136:Unit:=()
noncomputable def tw17371460314365738892:Unit:=()
noncomputable def tw6702121896965576050:Unit:=()
noncomputable def tw18003345323251061565:Unit:=()
noncomputable def tw1806262607442866062:Unit:=()
noncomputable def tw14840076442328672001:Unit:=()
noncomputable def tw3644330054506159455:Unit:=()
noncomputable def tw1203627516461003406:Unit:=()
noncomputable def tw15737907497341263316:Unit:=()
noncomputable def tw9145270679956513397:Unit:=()
noncomputable def tw1679475560863600298:Unit:=()
noncomputable def tw5465935593486136132:Unit:=()
noncomputable def tw2987423469355235188:Unit:=()
noncomputable def tw10028813239111986574:Unit:=()
noncomputable def tw2757645551342465402:Unit:=()
noncomputable def tw15167742170314209433:Unit:=()
noncomputable def tw14082590273546851299:Unit:=()
noncomputable def tw9068662672781682122:Unit:=()
noncomputable def tw10207081287075688698:Unit:=()
noncomputable def tw8771050629700406380:Unit:=()
noncomputable def tw1512874680896801831:Unit:=()
noncomputable def tw16487275472604172301:Unit:=()
noncomputable def tw15612572914324362752:Unit:=()
noncomputable def tw13518454194762240509:Unit:=()
noncomputable def tw15408289489862757140:Unit:=()
noncomputable def tw3939972699156253558:Unit:=()
noncomputable def tw9213444812644724425:Unit:=()
noncomputable def tw1051250224229665308:Unit:=()
noncomputable def tw9405865272960015934:Unit:=()
noncomputable def tw14576459399674710672:Unit:=()
noncomputable def tw14716979643982906432:Unit:=()
noncomputable def tw1855507238855267106:Unit:=()
noncomputable def tw15350697657342171995:Unit:=()
noncomputable def tw5336088812953051873:Unit:=()
noncomputable def tw5972158480047878599:Unit:=()
noncomputable def tw11814082519625552478:Unit:=()
noncomputable def tw16892281284103591196:Unit:=()
noncomputable def tw11116760085749113320:Unit:=()
noncomputable def tw6834581610001940514:Unit:=()
noncomputable def tw1378118482743715776:Unit:=()
noncomputable def tw9666292325738672974:Unit:=()
noncomputable def tw4356580455909110047:Unit:=()
noncomputable def tw233143700744155499:Unit:=()
noncomputable def tw2507733822077394038:Unit:=()
noncomputable def tw10171958039256210338:Unit:=()
noncomputable def tw1136581042561553750:Unit:=()
noncomputable def tw9748368855013674853:Unit:=()
noncomputable def tw1977753534338536788:Unit:=()
noncomputable def tw13441002916622235819:Unit:=()
noncomputable def tw7224522337851868257:Unit:=()
noncomputable def tw12447515464279769317:Unit:=()
noncomputable def tw14542422056306973748:Unit:=()
noncomputable def tw1148098353556122056:Unit:=()
noncomputable def tw15575367367365963413:Unit:=()
noncomputable def tw16780191351402911276:Unit:=()
noncomputable def tw2168767016651708555:Unit:=()
noncomputable def tw14274680624136870752:Unit:=()
noncomputable def tw4772781645948680117:Unit:=()
noncomputable def tw1324888687586123282:Unit:=()
noncomputable def tw18144290876636238149:Unit:=()
noncomputable def tw3725282026260563170:Unit:=()
noncomputable def tw18388203798802271776:Unit:=()
noncomputable def tw7346287839488385516:Unit:=()
noncomputable def tw8971374099564563703:Unit:=()
noncomputable def tw7872805940397672873:Unit:=()
noncomputable def tw15256988277591616394:Unit:=()
noncomputable def tw13884087764353666299:Unit:=()
noncomputable def tw7671700076010330386:Unit:=()
noncomputable def tw1317550534179222212:Unit:=()
noncomputable def tw10595926044584474572:Unit:=()
noncomputable def tw1550977033959115914:Unit:=()
noncomputable def tw14602499893641863902:Unit:=()
noncomputable def tw5835860947180046987:Unit:=()
noncomputable def tw2351234352724798657:Unit:=()
noncomputable def tw14746293433032981592:Unit:=()
noncomputable def tw4553717634723143533:Unit:=()
noncomputable def tw5433330884336291519:Unit:=()
noncomputable def tw6589004749949481349:Unit:=()
noncomputable def tw172244918855099117:Unit:=()
noncomputable def tw17191156456414659701:Unit:=()
noncomputable def tw12554255859697571090:Unit:=()
noncomputable def tw684207242560743872:Unit:=()
noncomputable def tw2698413586978415678:Unit:=()
noncomputable def tw4070813448082832386:Unit:=()
noncomputable def tw10837627553327298131:Unit:=()
noncomputable def tw9372938393344709909:Unit:=()
noncomputable def tw15008299954987094499:Unit:=()
noncomputable def tw5322617858511005517:Unit:=()
noncomputable def tw3795357465041598118:Unit:=()
noncomputable def tw7139621264632745464:Unit:=()
noncomputable def tw11000960503356962426:Unit:=()
noncomputable def tw1606429225656972279:Unit:=()
noncomputable def tw17775479784607377720:Unit:=()
noncomputable def tw7029641003461645021:Unit:=()
noncomputable def tw9831802765873082085:Unit:=()
noncomputable def tw13101137027202412742:Unit:=()
noncomputable def tw14642133941106917187:Unit:=()
noncomputable def tw12357333750078411162:Unit:=()
noncomputable def tw846887783710131631:Unit:=()
noncomputable def tw3412503741038090943:Unit:=()
noncomputable def tw7267633894803852690:Unit:=()
noncomputable def tw8372241971878856798:Unit:=()
noncomputable def tw5680791305780543275:Unit:=()
noncomputable def tw16496536256897304766:Unit:=()
noncomputable def tw13286135888512106507:Unit:=()
noncomputable def tw3662911566149090241:Unit:=()
noncomputable def tw17529017012766091373:Unit:=()
noncomputable def tw3569626980189119705:Unit:=()
noncomputable def tw4723492855138710557:Unit:=()
noncomputable def tw4113484383993472321:Unit:=()
noncomputable def tw3743172167068767066:Unit:=()
noncomputable def tw14467742917675327021:Unit:=()
noncomputable def tw4019560524019026995:Unit:=()
noncomputable def tw9588344312608865439:Unit:=()
noncomputable def tw5986566778339209728:Unit:=()
noncomputable def tw3052120872929895858:Unit:=()
noncomputable def tw15998297435356332594:Unit:=()
noncomputable def tw2362278498920203407:Unit:=()
noncomputable def tw1020318327903737786:Unit:=()
noncomputable def tw5709095616680094869:Unit:=()
noncomputable def tw17535154695291366023:Unit:=()
noncomputable def tw16266798710616403308:Unit:=()
noncomputable def tw7870847410881388686:Unit:=()
noncomputable def tw11503552834656765264:Unit:=()
noncomputable def tw3048250332665787803:Unit:=()
noncomputable def tw9807238838076186184:Unit:=()
noncomputable def tw181896503362930232:Unit:=()
noncomputable def tw11940087516985277269:Unit:=()
noncomputable def tw12449663866348568964:Unit:=()
noncomputable def tw10580544237194625916:Unit:=()
noncomputable def tw15471245561089899483:Unit:=()
noncomputable def tw15394540520687446141:Unit:=()
noncomputable def tw16610867184205516043:Unit:=()
noncomputable def tw16271432481657221924:Unit:=()
noncomputable def tw11572788185485952846:Unit:=()
noncomputable def tw13091354062683562614:Unit:=()
noncomputable def tw12123201979741547349:Unit:=()
noncomputable def tw16543738995416365695:Unit:=()
noncomputable def tw7371114747383413340:Unit:=()
noncomputable def tw8804592156286183631:Unit:=()
noncomputable def tw12376633485878326079:Unit:=()
noncomputable def tw13473596791089436337:Unit:=()
noncomputable def tw12135870651870975492:Unit:=()
noncomputable def tw1946133608825435308:Unit:=()
noncomputable def tw13366232895992570615:Unit:=()
noncomputable def tw13517388065640492820:Unit:=()
noncomputable def tw3757539281648618626:Unit:=()
noncomputable def tw15100531628109218595:Unit:=()
noncomputable def tw8187444202228114526:Unit:=()
noncomputable def tw15277482121974714290:Unit:=()
noncomputable def tw9632122529998412631:Unit:=()
noncomputable def tw16455766864059105454:Unit:=()
noncomputable def tw4592350808763950715:Unit:=()
noncomputable def tw17679933707075781216:Unit:=()
noncomputable def tw16241767929390760373:Unit:=()
noncomputable def tw8468602948593923293:Unit:=()
noncomputable def tw138182876232983541:Unit:=()
noncomputable def tw159971304495071797:Unit:=()
noncomputable def tw17558277151735134185:Unit:=()
noncomputable def tw11622734216754760857:Unit:=()
noncomputable def tw17950597063544080005:Unit:=()
noncomputable def tw474251025687033016:Unit:=()
noncomputable def tw17374745697589486285:Unit:=()
noncomputable def tw1816131376075862048:Unit:=()
noncomputable def tw15897675249349351190:Unit:=()
noncomputable def tw13996739343500602230:Unit:=()
noncomputable def tw9004068486346454401:Unit:=()
noncomputable def tw12772737456136913829:Unit:=()
noncomputable def tw5913065294456871394:Unit:=()
noncomputable def tw18131986287360731554:Unit:=()
noncomputable def tw16246662069776636699:Unit:=()
noncomputable def tw4432602370042860275:Unit:=()
noncomputable def tw14841805116608589858:Unit:=()
noncomputable def tw13373093149884683866:Unit:=()
noncomputable def tw6504172567707936018:Unit:=()
noncomputable def tw464026798245542551:Unit:=()
noncomputable def tw9535841588130108419:Unit:=()
noncomputable def tw4305571312976843151:Unit:=()
noncomputable def tw2518159584461856628:Unit:=()
noncomputable def tw6394642624613148006:Unit:=()
noncomputable def tw14857546357194756043:Unit:=()
noncomputable def tw13956827304009673189:Unit:=()
noncomputable def tw11186922808507308658:Unit:=()
noncomputable def tw12623760463797521094:Unit:=()
noncomputable def tw12939579876001764982:Unit:=()
noncomputable def tw5418991974742730447:Unit:=()
noncomputable def tw14133233309671829288:Unit:=()
noncomputable def tw16373357517398817748:Unit:=()
noncomputable def tw9479832734110177044:Unit:=()
noncomputable def tw5200668835334225057:Unit:=()
noncomputable def tw16464812750365579796:Unit:=()
noncomputable def tw16437419941362520335:Unit:=()
noncomputable def tw8849685444407917856:Unit:=()
noncomputable def tw14311854732407584884:Unit:=()
noncomputable def tw6930443808832900952:Unit:=()
noncomputable def tw2937786729092973883:Unit:=()
noncomputable def tw27378312167627002:Unit:=()
noncomputable def tw5921910399740075332:Unit:=()
noncomputable def tw7266982451535561541:Unit:=()
noncomputable def tw14773306388566463095:Unit:=()
noncomputable def tw4337913224146182578:Unit:=()
noncomputable def tw10788483688092916451:Unit:=()
noncomputable def tw8960388669084694698:Unit:=()
noncomputable def tw2631899979911570843:Unit:=()
noncomputable def tw16481301084499588169:Unit:=()
noncomputable def tw2926460323183412905:Unit:=()
noncomputable def tw847901042555216821:Unit:=()
noncomputable def tw1571628633749406659:Unit:=()
noncomputable def tw1405551766978850786:Unit:=()
noncomputable def tw4680408916850206334:Unit:=()
noncomputable def tw7887047030766384167:Unit:=()
noncomputable def tw17474399557307022461:Unit:=()
noncomputable def tw7670213812717122989:Unit:=()
noncomputable def tw17180271392722347275:Unit:=()
noncomputable def tw17049503539524904163:Unit:=()
noncomputable def tw17155472552696926040:Unit:=()
noncomputable def tw4141096718372973915:Unit:=()
noncomputable def tw16547634882303462067:Unit:=()
noncomputable def tw5654002595520916954:Unit:=()
noncomputable def tw10751391567633059196:Unit:=()
noncomputable def tw13973674120788827661:Unit:=()
noncomputable def tw8861045468083964465:Unit:=()
noncomputable def tw5499665490886357422:Unit:=()
noncomputable def tw10543491392782238736:Unit:=()
noncomputable def tw2621807220070589754:Unit:=()
noncomputable def tw8618025222000585185:Unit:=()
noncomputable def tw9224401353796268479:Unit:=()
noncomputable def tw5960719658808225104:Unit:=()
noncomputable def tw410810580742071858:Unit:=()
noncomputable def tw1738693857911657688:Unit:=()
noncomputable def tw5853637618573186788:Unit:=()
noncomputable def tw17097265159415382263:Unit:=()
noncomputable def tw1047285435824081993:Unit:=()
noncomputable def tw2865868068755934357:Unit:=()
noncomputable def tw15457373541823140515:Unit:=()
noncomputable def tw13598179272215275645:Unit:=()
noncomputable def tw16511574519379482391:Unit:=()
noncomputable def tw17160448301614909292:Unit:=()
noncomputable def tw8825830322614681338:Unit:=()
noncomputable def tw6341348217241219126:Unit:=()
noncomputable def tw10707344737051645562:Unit:=()
noncomputable def tw15954042525749531117:Unit:=()
noncomputable def tw6713532094950626909:Unit:=()
noncomputable def tw17381950498418524162:Unit:=()
noncomputable def tw13000787456753309490:Unit:=()
noncomputable def tw4789361444103752416:Unit:=()
noncomputable def tw7641744064792546094:Unit:=()
noncomputable def tw17172598749613619083:Unit:=()
noncomputable def tw6059427982489990061:Unit:=()
noncomputable def tw3500897718794144960:Unit:=()
noncomputable def tw16870194056116661326:Unit:=()
noncomputable def tw18245113137207111648:Unit:=()
noncomputable def tw3103449654612139318:Unit:=()
noncomputable def tw6075884889311346552:Unit:=()
noncomputable def tw16993333287884665787:Unit:=()
noncomputable def tw11201389612865728788:Unit:=()
noncomputable def tw3340753779203448621:Unit:=()
noncomputable def tw2880934864637123332:Unit:=()
noncomputable def tw18297850286333894675:Unit:=()
noncomputable def tw11343961443170546326:Unit:=()
noncomputable def tw11111647684243174090:Unit:=()
noncomputable def tw13939835182568607817:Unit:=()
noncomputable def tw14320760962310134716:Unit:=()
noncomputable def tw8486242212083711002:Unit:=()
noncomputable def tw1421383096085763396:Unit:=()
noncomputable def tw4209984020365716424:Unit:=()
noncomputable def tw11530592303696676294:Unit:=()
noncomputable def tw11247005198527213227:Unit:=()
noncomputable def tw1933616129674564020:Unit:=()
noncomputable def tw7892606558457524659:Unit:=()
noncomputable def tw7870840905079044537:Unit:=()
noncomputable def tw9060358651058602977:Unit:=()
noncomputable def tw15367452044547312776:Unit:=()
noncomputable def tw10811945737435880195:Unit:=()
noncomputable def tw852396524389251267:Unit:=()
noncomputable def tw6431419402186456608:Unit:=()
noncomputable def tw8236110948624907711:Unit:=()
noncomputable def tw813960447409472165:Unit:=()
noncomputable def tw14450268860657159192:Unit:=()
noncomputable def tw15188160327077384714:Unit:=()
noncomputable def tw15794298227700515858:Unit:=()
noncomputable def tw17934751842007743941:Unit:=()
noncomputable def tw14333757078856432553:Unit:=()
noncomputable def tw10584668928369379754:Unit:=()
noncomputable def tw2626525163604949874:Unit:=()
noncomputable def tw276967778908817939:Unit:=()
noncomputable def tw15169999691239468147:Unit:=()
noncomputable def tw5906577377642686880:Unit:=()
noncomputable def tw12571568331274658339:Unit:=()
noncomputable def tw4100258042322537376:Unit:=()
noncomputable def tw14491126957090165232:Unit:=()
noncomputable def tw5080952897772369556:Unit:=()
noncomputable def tw3428889887360891141:Unit:=()
noncomputable def tw14030978888543240607:Unit:=()
noncomputable def tw3912686832501199658:Unit:=()
noncomputable def tw10773838925809848210:Unit:=()
noncomputable def tw9492369148152030779:Unit:=()
noncomputable def tw1001536465976465672:Unit:=()
noncomputable def tw4658386104256158377:Unit:=()
noncomputable def tw1077975563959045484:Unit:=()
noncomputable def tw15354411220346798237:Unit:=()
noncomputable def tw9514747567761570027:Unit:=()
noncomputable def tw15150897393724921149:Unit:=()
noncomputable def tw242131307493522059:Unit:=()
noncomputable def tw8129006299166921389:Unit:=()
noncomputable def tw11413962353616549212:Unit:=()
noncomputable def tw12539562357483630806:Unit:=()
noncomputable def tw6406565099003264414:Unit:=()
noncomputable def tw1636877214674195044:Unit:=()
noncomputable def tw7236419085135951345:Unit:=()
noncomputable def tw5291620667387471270:Unit:=()
noncomputable def tw13464522760133047849:Unit:=()
noncomputable def tw5498152382709967825:Unit:=()
noncomputable def tw6840741028416624460:Unit:=()
noncomputable def tw10624285183324894610:Unit:=()
noncomputable def tw10564118150263912278:Unit:=()
noncomputable def tw2735169371247853031:Unit:=()
noncomputable def tw3159039951657144925:Unit:=()
noncomputable def tw9965264951794753009:Unit:=()
noncomputable def tw505224506738308401:Unit:=()
noncomputable def tw8476034025796767855:Unit:=()
noncomputable def tw3644178333260023295:Unit:=()
noncomputable def tw938873931973619917:Unit:=()
noncomputable def tw8637199191945105594:Unit:=()
noncomputable def tw91716935265999538:Unit:=()
noncomputable def tw6605995826295356516:Unit:=()
noncomputable def tw7786966849655074049:Unit:=()
noncomputable def tw14345793293402914208:Unit:=()
noncomputable def tw13426479379442032641:Unit:=()
noncomputable def tw1199273902400193461:Unit:=()
noncomputable def tw7139193795544795598:Unit:=()
noncomputable def tw1400560573812355012:Unit:=()
noncomputable def tw3750573631179140250:Unit:=()
noncomputable def tw16563933880735550453:Unit:=()
noncomputable def tw10867492734365745359:Unit:=()
noncomputable def tw3727872271101355148:Unit:=()
noncomputable def tw17484240213392130994:Unit:=()
noncomputable def tw9471342261546722880:Unit:=()
noncomputable def tw10422215551916772923:Unit:=()
noncomputable def tw4943204999222292000:Unit:=()
noncomputable def tw14863572559969849850:Unit:=()
noncomputable def tw14873728301223144698:Unit:=()
noncomputable def tw9214110592167491101:Unit:=()
noncomputable def tw12212187498445645836:Unit:=()
noncomputable def tw1241368070261410653:Unit:=()
noncomputable def tw11760177396981836356:Unit:=()
noncomputable def tw330757590082896419:Unit:=()
noncomputable def tw4829656067543749378:Unit:=()
noncomputable def tw15806570959017418679:Unit:=()
noncomputable def tw17088118737738150221:Unit:=()
noncomputable def tw11081678527270395063:Unit:=()
noncomputable def tw5775056604612177699:Unit:=()
noncomputable def tw11728574290942514419:Unit:=()
noncomputable def tw9047086194315601741:Unit:=()
noncomputable def tw17346781314851831295:Unit:=()
noncomputable def tw2211160537413579524:Unit:=()
noncomputable def tw10177221747034956401:Unit:=()
noncomputable def tw4999727284923820182:Unit:=()
noncomputable def tw2758922710854452697:Unit:=()
noncomputable def tw18405269489122394158:Unit:=()
noncomputable def tw8061028554717782616:Unit:=()
noncomputable def tw6049903322234295645:Unit:=()
noncomputable def tw16564225562424598830:Unit:=()
noncomputable def tw8643492117361815504:Unit:=()
noncomputable def tw586860790776322591:Unit:=()
noncomputable def tw4615344273497254598:Unit:=()
noncomputable def tw12372306497029842559:Unit:=()
noncomputable def tw9790194943530253602:Unit:=()
noncomputable def tw4585889439367868119:Unit:=()
noncomputable def tw17329318696173926293:Unit:=()
noncomputable def tw494622839355988265:Unit:=()
noncomputable def tw12536676298320140583:Unit:=()
noncomputable def tw18170568398144537000:Unit:=()
noncomputable def tw18331522616214694612:Unit:=()
noncomputable def tw11592683482733130012:Unit:=()
noncomputable def tw4723987986236569092:Unit:=()
noncomputable def tw16280930734811850197:Unit:=()
noncomputable def tw4179373454472613718:Unit:=()
noncomputable def tw12971925489549471859:Unit:=()
noncomputable def tw2547513936084681406:Unit:=()
noncomputable def tw3528950473014426069:Unit:=()
noncomputable def tw3099110286707872043:Unit:=()
noncomputable def tw14849638233491115665:Unit:=()
noncomputable def tw16387045465427719486:Unit:=()
noncomputable def tw16621865064833598871:Unit:=()
noncomputable def tw13822505729644224945:Unit:=()
noncomputable def tw12344390182054672965:Unit:=()
noncomputable def tw11513817369000982878:Unit:=()
noncomputable def tw888418903884799505:Unit:=()
noncomputable def tw11938866488038314371:Unit:=()
noncomputable def tw12320114052515043641:Unit:=()
noncomputable def tw13790399718629960611:Unit:=()
noncomputable def tw4816336915724560887:Unit:=()
end PySem.W.Fast
open PySem PySem.W PyProof.Rows in
set_option maxHeartbeats 0 in
open_top hdK for PySem.Challenge.rw_knockwright_k92_bodies_kept
set_option Elab.async false
set_option linter.all false
set_option maxRecDepth 100000
namespace L2
open PySem PySem.Spec PyProof.Rows
noncomputable abbrev Key := Sum Int Str
noncomputable def keyIs : Key → Value → Bool
  | .inl k, v => Value.isInt k v
  | .inr x, v => Value.isStrOf x v
noncomputable def keyH (w : World) : Key → Int
  | .inl k => hashInt k
  | .inr x => hashStr w x
theorem keyIs_shape : ∀ {k : Key} {v : Value}, keyIs k v = true → (∃ i t, k = Sum.inl i ∧ v = Value.int i t) ∨ (∃ x t, k = Sum.inr x ∧ v = Value.str x t)
  | .inl i, v, h => by
    obtain ⟨t, e⟩ := Value.isInt_shape (k := i) (v := v) h
    exact .inl ⟨i, t, rfl, e⟩
  | .inr x, v, h => by
    obtain ⟨t, e⟩ := Value.isStrOf_shape (x := x) (v := v) h
    exact .inr ⟨x, t, rfl, e⟩
theorem key_ll (a b : Int) : decide ((Sum.inl a : Key) = Sum.inl b) = (a == b) := by
  by_cases e : a = b
  · subst e; simp
  · have h : ¬ (Sum.inl a : Key) = Sum.inl b := fun q => e (Sum.inl.inj q)
    rw [decide_eq_false h]
    exact (beq_eq_false_iff_ne.mpr e).symm
theorem key_rr (a b : Str) : decide ((Sum.inr a : Key) = Sum.inr b) = decide (a = b) := by
  by_cases e : a = b
  · subst e; simp
  · have h : ¬ (Sum.inr a : Key) = Sum.inr b := fun q => e (Sum.inr.inj q)
    rw [decide_eq_false h, decide_eq_false e]
theorem key_lr (a : Int) (b : Str) : decide ((Sum.inl a : Key) = Sum.inr b) = false := decide_eq_false (fun q => nomatch q)
theorem key_rl (a : Str) (b : Int) : decide ((Sum.inr a : Key) = Sum.inl b) = false := decide_eq_false (fun q => nomatch q)
noncomputable def mixKind (prog : Program) (w : World) : PySem.KeyKind prog w Key where
  is := keyIs
  hash := keyH w
  inj := fun v a b ha hb => by
    rcases keyIs_shape ha with ⟨i, t, rfl, rfl⟩ | ⟨x, t, rfl, rfl⟩
    · rcases keyIs_shape hb with ⟨j, u, rfl, e⟩ | ⟨y, u, rfl, e⟩
      · injection e with e1 _; rw [e1]
      · exact nomatch e
    · rcases keyIs_shape hb with ⟨j, u, rfl, e⟩ | ⟨y, u, rfl, e⟩
      · exact nomatch e
      · injection e with e1 _; rw [e1]
  byValue := fun k v h => by
    rcases keyIs_shape h with ⟨i, t, rfl, rfl⟩ | ⟨x, t, rfl, rfl⟩ <;> rfl
  pyHash := fun hv h => by
    rcases keyIs_shape hv with ⟨i, t, rfl, rfl⟩ | ⟨x, t, rfl, rfl⟩
    · exact wpAny_pyHash_int h
    · exact wpAny_pyHash_str h
  eqBool := fun hu hv h => by
    rcases keyIs_shape hu with ⟨i, t, rfl, rfl⟩ | ⟨x, t, rfl, rfl⟩
    · rcases keyIs_shape hv with ⟨j, u, rfl, rfl⟩ | ⟨y, u, rfl, rfl⟩
      · rw [key_ll] at h; exact wpAny_eqBool_int h
      · rw [key_lr] at h; exact SeqAt.EqAt.int_str i t y u _ _ _ _ h
    · rcases keyIs_shape hv with ⟨j, u, rfl, rfl⟩ | ⟨y, u, rfl, rfl⟩
      · rw [key_rl] at h; exact SeqAt.EqAt.str_int x t j u _ _ _ _ h
      · rw [key_rr] at h; exact wpAny_eqBool_str h
  «strs» := fun k x t v h => by
    rcases keyIs_shape h with ⟨i, u, rfl, e⟩ | ⟨y, u, rfl, e⟩
    · exact nomatch e
    · injection e with e1 _
      subst e1
      cases v <;> rfl
end L2
namespace L2
open PySem PySem.Spec PyProof.Rows
inductive V where
  | non | bl (b : Bool) | int (i : Int) | str (x : Str) | byt (b : Array UInt8) | flt (b : UInt64) | ref (a : Addr) | ty (n : String)
  deriving DecidableEq
noncomputable def RelV : V → Value → Prop
  | .non, u => u = Value.none
  | .bl b, u => u = Value.bool b
  | .int i, u => ∃ t, u = Value.int i t
  | .str x, u => ∃ t, u = Value.str x t
  | .byt b, u => ∃ t, u = Value.bytes b t
  | .flt b, u => ∃ t, u = Value.float b t
  | .ref a, u => u = Value.ref a
  | .ty n, u => u = Value.type n
noncomputable abbrev Vals : List V → List Value → Prop := Paired RelV
theorem Vals.length {xs : List V} {us : List Value} (r : Vals xs us) : xs.length = us.length := Paired.length r
theorem Vals.get : ∀ {xs : List V} {us : List Value} {i : Nat} {x : V}, Vals xs us → xs[i]? = some x → ∃ u, us[i]? = some u ∧ RelV x u
  | _, _, _, _, .nil, e => by simp at e
  | _, _, 0, _, .cons r _, e => by simp at e; subst e; exact ⟨_, rfl, r⟩
  | _, _, i + 1, x, .cons _ t, e => by
    obtain ⟨u, h1, h2⟩ := Vals.get (i := i) (x := x) t (by simpa using e)
    exact ⟨u, by simpa using h1, h2⟩
theorem Vals.set {x : V} {u : Value} (r : RelV x u) : ∀ {xs : List V} {us : List Value} (i : Nat), Vals xs us → Vals (xs.set i x) (us.set i u)
  | _, _, _, .nil => .nil
  | _, _, 0, .cons _ t => .cons r t
  | _, _, i + 1, .cons q t => .cons q (Vals.set r i t)
theorem Vals.append : ∀ {xs ys : List V} {us ws : List Value}, Vals xs us → Vals ys ws → Vals (xs ++ ys) (us ++ ws)
  | _, _, _, _, .nil, s => s
  | _, _, _, _, .cons r t, s => .cons r (Vals.append t s)
theorem Vals.take : ∀ {xs : List V} {us : List Value} (n : Nat), Vals xs us → Vals (xs.take n) (us.take n)
  | _, _, 0, _ => .nil
  | _, _, _ + 1, .nil => .nil
  | _, _, n + 1, .cons r t => .cons r (Vals.take n t)
theorem Vals.drop : ∀ {xs : List V} {us : List Value} (n : Nat), Vals xs us → Vals (xs.drop n) (us.drop n)
  | _, _, 0, r => r
  | _, _, _ + 1, .nil => .nil
  | _, _, n + 1, .cons _ t => Vals.drop n t
noncomputable def RelO : Option V → Option Value → Prop
  | some v, some u => RelV v u
  | none, none => True
  | _, _ => False
noncomputable def KV {κ : Type} : List (κ × V) → List (κ × Value) → Prop := Paired fun (p : κ × V) (q : κ × Value) => p.1 = q.1 ∧ RelV p.2 q.2
noncomputable def kV : Key → V
  | .inl i => .int i
  | .inr x => .str x
inductive HO where
  | lst (xs : List V)
  | tup (xs : List V)
  | dK (kvs : List (Key × V)) | dT (kvs : List (List Key × V))
  | set (S : Int → Bool) (n : Nat)
  | ins (C dx : Addr) (fs : List (Str × V))
  | own (x : Addr)
  | xd (fs : List (Str × V))
  | met (f x : Addr)
  | rng (lo hi : Int)
  | frz (o : Obj) (u : HO)
  | tbl (ps : Array Value)
  | ext (φ : Heap → Prop)
noncomputable abbrev Hp := Addr → Option HO
noncomputable def upd (H : Hp) (a : Addr) (o : HO) : Hp := fun b => if b = a then some o else H b
theorem upd_same {H : Hp} {a : Addr} {o : HO} : upd H a o a = some o := by unfold upd; rw [if_pos rfl]
theorem upd_ne {H : Hp} {a b : Addr} {o : HO} (h : b ≠ a) : upd H a o b = H b := by unfold upd; rw [if_neg h]
theorem ne_of_none {H : Hp} {a b : Addr} {o : HO} (h : H a = some o) (h' : H b = none) : a ≠ b := by
  intro e; subst e; rw [h] at h'; cases h'
section
variable (P : Program) (w : World)
noncomputable def ObjOk (H : Hp) (h : Heap) (a : Addr) : HO → Prop
  | .lst xs => xs.length ≤ sizeLine ∧ ∃ (its : List Value) (n : Nat), Vals xs its ∧ h.get? a = some { cls := .type "list", data := .seq its.toArray n }
  | .tup xs => xs.length ≤ sizeLine ∧ ∃ its : List Value, Vals xs its ∧ IsTup h a its.toArray
  | .dK kvs => kvs.length ≤ sizeLine ∧ (a == sysModules) = false ∧ ∃ vs, KV kvs vs ∧ h.DictOf (mixKind P w) a vs
  | .dT kvs => kvs.length ≤ sizeLine ∧ (a == sysModules) = false ∧ ∃ xs : List (List Key × Addr × Value),
      Paired (fun (p : List Key × V) (q : List Key × Addr × Value) => p.1 = q.1 ∧ H q.2.1 = some (.tup (p.1.map kV)) ∧ RelV p.2 q.2.2) kvs xs ∧
      ∃ o es ep, h.get? a = some o ∧ o.ExactDict ∧ o.data = .dict es ep ∧ es.toList = xs.map (entryOfKey (tupleKind (mixKind P w))) ∧ (xs.map (·.1)).Nodup
  | .set S n => h.SetOf (intKind P w) a S n
  | .ins C dx fs => H dx = some (.own a) ∧ fs.length ≤ 1000 ∧ dx ≠ a ∧ h.get? a = some (PySem.W.instObj C dx) ∧
      ∃ mA, h.Ns1 dx mA ∧ (∀ f, RelO (fs.lookup f) (mA f)) ∧ PySem.Within mA (fs.map (·.1))
  | .own _ => ∃ o, h.get? a = some o
  | .xd fs => ∃ mA, h.Ns1 a mA ∧ ∀ f, RelO (fs.lookup f) (mA f)
  | .rng lo hi => ∃ t u v, h.get? a = some { cls := .type "range", data := .fields #[.int lo t, .int hi u, .int 1 v] }
  | .frz o u => h.get? a = some o ∧ ObjOk H h a u
  | .tbl ps => h.get? a = some { cls := .none, data := .fields ps }
  | .met f x => h.get? a = some (PySem.W.methodObj (.ref f) (.ref x))
  | .ext φ => φ h ∧ (∃ o, h.get? a = some o) ∧ ∀ h1 h2 : Heap, φ h1 → (∀ o, h1.get? a = some o → h2.get? a = some o) → φ h2
noncomputable def HOk (H : Hp) (h : Heap) : Prop := ∀ a o, H a = some o → ObjOk P w H h a o
end
section
variable {P : Program} {w : World} {H H' : Hp} {h h' : Heap} {a : Addr} {o : HO}
theorem ObjOk.lt (x : ObjOk P w H h a o) : a < h.objs.size := by
  cases o with
  | lst xs => obtain ⟨_, _, _, _, e⟩ := x; exact Heap.lt_size e
  | tup xs => obtain ⟨_, _, _, p⟩ := x; exact p.lt
  | dK kvs => obtain ⟨_, _, _, _, o, _, _, e, _⟩ := x; exact Heap.lt_size e
  | dT kvs => obtain ⟨_, _, _, _, o, _, _, e, _⟩ := x; exact Heap.lt_size e
  | set S n => obtain ⟨o, _, _, _, e, _⟩ := x; exact Heap.lt_size e
  | ins C dx fs => obtain ⟨_, _, _, e, _⟩ := x; exact Heap.lt_size e
  | own y => obtain ⟨_, e⟩ := x; exact Heap.lt_size e
  | xd fs => obtain ⟨_, ⟨_, _, _, e, _⟩, _⟩ := x; exact Heap.lt_size e
  | rng lo hi => obtain ⟨_, _, _, e⟩ := x; exact Heap.lt_size e
  | frz ob u => obtain ⟨e, _⟩ := x; exact Heap.lt_size e
  | tbl ps => exact Heap.lt_size (show h.get? a = some _ from x)
  | met f y => exact Heap.lt_size (show h.get? a = some _ from x)
  | ext φ => obtain ⟨_, ⟨_, e⟩, _⟩ := x; exact Heap.lt_size e
theorem Paired.mapP {α β : Type} {F G : α → β → Prop} : ∀ {l₁ : List α} {l₂ : List β}, Paired F l₁ l₂ → (∀ a b, F a b → G a b) → Paired G l₁ l₂
  | _, _, .nil, _ => .nil
  | _, _, .cons r t, f => .cons (f _ _ r) (Paired.mapP t f)
theorem ObjOk.stay (x : ObjOk P w H h a o) (k : ∀ b u, (b = a ∨ H b = some (.own a)) → h.get? b = some u → h'.get? b = some u)
    (ho : ∀ b, H b = some (.own a) → H' b = some (.own a)) (ht : ∀ b xs, H b = some (.tup xs) → H' b = some (.tup xs)) : ObjOk P w H' h' a o := by
  induction o with
  | lst xs => obtain ⟨z, its, n, r, e⟩ := x; exact ⟨z, its, n, r, k _ _ (.inl rfl) e⟩
  | tup xs => obtain ⟨z, its, r, ob, e, c⟩ := x; exact ⟨z, its, r, ob, k _ _ (.inl rfl) e, c⟩
  | dK kvs => obtain ⟨z, y, vs, r, ob, es, ep, e, c⟩ := x; exact ⟨z, y, vs, r, ob, es, ep, k _ _ (.inl rfl) e, c⟩
  | dT kvs =>
    obtain ⟨z, y, xs, r, ob, es, ep, e, c⟩ := x
    exact ⟨z, y, xs, Paired.mapP r fun p q z => ⟨z.1, ht _ _ z.2.1, z.2.2⟩, ob, es, ep, k _ _ (.inl rfl) e, c⟩
  | set S n => obtain ⟨ob, es, ep, t, e, c⟩ := x; exact ⟨ob, es, ep, t, k _ _ (.inl rfl) e, c⟩
  | ins C dx fs =>
    obtain ⟨d, z, ne, e, mA, ⟨od, es, ep, e2, c⟩, r⟩ := x
    exact ⟨ho _ d, z, ne, k _ _ (.inl rfl) e, mA, ⟨od, es, ep, k _ _ (.inr d) e2, c⟩, r⟩
  | own y => obtain ⟨ob, e⟩ := x; exact ⟨ob, k _ _ (.inl rfl) e⟩
  | xd fs => obtain ⟨mA, ⟨od, es, ep, e, c⟩, r⟩ := x; exact ⟨mA, ⟨od, es, ep, k _ _ (.inl rfl) e, c⟩, r⟩
  | rng lo hi => obtain ⟨t, u, v, e⟩ := x; exact ⟨t, u, v, k _ _ (.inl rfl) e⟩
  | frz ob u ih => obtain ⟨e, q⟩ := x; exact ⟨k _ _ (.inl rfl) e, ih q⟩
  | tbl ps =>
    have e : h.get? a = some { cls := .none, data := .fields ps } := x
    show h'.get? a = some { cls := .none, data := .fields ps }
    exact k a _ (.inl rfl) e
  | met f y =>
    have e : h.get? a = some (PySem.W.methodObj (.ref f) (.ref y)) := x
    show h'.get? a = some (PySem.W.methodObj (.ref f) (.ref y))
    exact k a _ (.inl rfl) e
  | ext φ => obtain ⟨p, ⟨o, e⟩, st⟩ := x; exact ⟨st _ _ p fun o q => k _ _ (.inl rfl) q, ⟨o, k _ _ (.inl rfl) e⟩, st⟩
theorem HOk.lt (x : HOk P w H h) (e : H a = some o) : a < h.objs.size := (x a o e).lt
theorem HOk.fresh (x : HOk P w H h) (e : h.objs.size ≤ a) : H a = none := by
  cases q : H a with
  | none => rfl
  | some u => exact absurd (Nat.lt_of_lt_of_le (x.lt q) e) (Nat.lt_irrefl _)
theorem HOk.kept (x : HOk P w H h) (k : ∀ b u, h.get? b = some u → h'.get? b = some u) : HOk P w H h' := fun a o e =>
  (x a o e).stay (fun b u _ q => k b u q) (fun _ q => q) fun _ _ q => q
theorem HOk.laid (x : HOk P w H h) (k : ∀ b u, h.get? b = some u → h'.get? b = some u) (hp : h.objs.size ≤ a) (new : ObjOk P w (upd H a o) h' a o) : HOk P w (upd H a o) h' := fun b u e => by
  have hn := x.fresh hp
  by_cases hb : b = a
  · subst hb; rw [upd_same] at e; cases e; exact new
  · rw [upd_ne hb] at e
    exact (x b u e).stay (fun c v _ q => k c v q) (fun c q => by rw [upd_ne (ne_of_none q hn)]; exact q) fun c xs q => by rw [upd_ne (ne_of_none q hn)]; exact q
end
noncomputable def Rd (H : Hp) (a : Addr) (u : HO) : Prop := H a = some u ∨ ∃ o, H a = some (.frz o u)
theorem Rd.ok {P : Program} {w : World} {H : Hp} {h : Heap} {a : Addr} {u : HO} (r : Rd H a u) (x : HOk P w H h) : ObjOk P w H h a u := by
  rcases r with r | ⟨o, r⟩
  · exact x a u r
  · obtain ⟨_, q⟩ := x a _ r
    exact q
noncomputable def Mut : Option HO → Prop
  | some (.lst _) => True
  | some (.dK _) => True
  | some (.dT _) => True
  | some (.set _ _) => True
  | some (.ins _ _ _) => True
  | some (.ext _) => True
  | _ => False
section
variable {P : Program} {w : World} {H : Hp} {h h' : Heap} {x e : Addr} {o' : HO}
theorem HOk.write (ok : HOk P w H h) (mu : Mut (H x)) (he : e = x ∨ H e = some (.own x)) (k : ∀ b u, b ≠ e → h.get? b = some u → h'.get? b = some u) (heo : ∃ u, h'.get? e = some u)
    (new : ObjOk P w (upd H x o') h' x o') : HOk P w (upd H x o') h' := fun b u q => by
  have nown : ∀ c y, H c = some (.own y) → c ≠ x := fun c y r z => by subst z; rw [r] at mu; exact mu
  have ntup : ∀ c xs, H c = some (.tup xs) → c ≠ x := fun c xs r z => by subst z; rw [r] at mu; exact mu
  by_cases hb : b = x
  · subst hb; rw [upd_same] at q; cases q; exact new
  · rw [upd_ne hb] at q
    by_cases hbe : b = e
    · have q' : H b = some (.own x) := by
        rcases he with z | z
        · exact absurd (hbe.trans z) hb
        · rw [hbe]; exact z
      rw [q] at q'; cases q'
      obtain ⟨v, hv⟩ := heo
      exact ⟨v, by rw [hbe]; exact hv⟩
    · refine (ok b u q).stay (fun c v hc r => k c v ?_ r) (fun c r => by rw [upd_ne (nown c b r)]; exact r) fun c xs r => by rw [upd_ne (ntup c xs r)]; exact r
      rcases hc with rfl | hc
      · exact hbe
      · rintro rfl
        rcases he with z | z
        · exact nown c b hc z
        · rw [hc] at z; cases z; exact hb rfl
end
structure Un (fs ex : List Addr) (H H' : Hp) (h h' : Heap) : Prop where
  keep : ∀ b o, h.get? b = some o → H b = none → b ∉ fs → b ∉ ex → h'.get? b = some o
  slot : ∀ b o, h.get? b = some o → H b = none → b ∈ fs → b ∉ ex → ∃ sl, h'.get? b = some { o with slots := sl }
  free : ∀ b o, h.get? b = some o → H b = none → b ∉ ex → H' b = none
  there : ∀ b o, h.get? b = some o → b ∉ ex → ∃ o', h'.get? b = some o'
  tups : ∀ b xs, H b = some (.tup xs) → H' b = some (.tup xs)
  frzs : ∀ b o u, H b = some (.frz o u) → H' b = some (.frz o u)
  tbls : ∀ b ps, H b = some (.tbl ps) → ∃ more, H' b = some (.tbl (ps ++ more))
section
variable {fs fs' ex ex' : List Addr} {H H1 H2 : Hp} {h h1 h2 h' : Heap} {a x e : Addr} {o : HO}
theorem Un.any (u : Un fs ex H H1 h h1) {b : Addr} {ob : Obj} (q : h.get? b = some ob) (n : H b = none) (hx : b ∉ ex) : ∃ sl, h1.get? b = some { ob with slots := sl } := by
  by_cases hb : b ∈ fs
  · exact u.slot b ob q n hb hx
  · exact ⟨ob.slots, u.keep b ob q n hb hx⟩
theorem Un.kept (k : ∀ b u, h.get? b = some u → h'.get? b = some u) : Un fs ex H H h h' :=
  ⟨fun b ob q _ _ _ => k b ob q, fun b ob q _ _ _ => ⟨ob.slots, k b ob q⟩, fun _ _ _ n _ => n, fun b ob q _ => ⟨ob, k b ob q⟩, fun _ _ q => q, fun _ _ _ q => q, fun _ ps q => ⟨#[], by rw [q]; simp⟩⟩
theorem Un.refl : Un fs ex H H h h := Un.kept fun _ _ q => q
theorem Un.laid (k : ∀ b u, h.get? b = some u → h'.get? b = some u) (hp : h.objs.size ≤ a) (hn : H a = none) : Un fs ex H (upd H a o) h h' where
  keep := fun b u q _ _ _ => k b u q
  slot := fun b u q _ _ _ => ⟨u.slots, k b u q⟩
  free := fun b u q n _ => by rw [upd_ne (Nat.ne_of_lt (Nat.lt_of_lt_of_le (Heap.lt_size q) hp))]; exact n
  there := fun b u q _ => ⟨u, k b u q⟩
  tups := fun b xs q => by rw [upd_ne (ne_of_none q hn)]; exact q
  frzs := fun b u xs q => by rw [upd_ne (ne_of_none q hn)]; exact q
  tbls := fun b ps q => ⟨#[], by rw [upd_ne (ne_of_none q hn), q]; simp⟩
theorem Un.write (mu : Mut (H x)) (he : e = x ∨ H e = some (.own x)) (k : ∀ b u, b ≠ e → h.get? b = some u → h'.get? b = some u) (heo : ∃ u, h'.get? e = some u) : Un fs ex H (upd H x o) h h' := by
  have hx : ∀ b, H b = none → b ≠ x := fun b n z => by subst z; rw [n] at mu; exact mu
  have hb : ∀ b, H b = none → b ≠ e := fun b n z => by
    subst z
    rcases he with r | r
    · exact hx b n r
    · rw [n] at r; cases r
  have hm : ∀ b u, H b = some u → ¬ Mut (some u) → b ≠ x := fun b u q nm z => by subst z; rw [q] at mu; exact nm mu
  refine ⟨fun b u q n _ _ => k b u (hb b n) q, fun b u q n _ _ => ⟨u.slots, k b u (hb b n) q⟩, fun b u q n _ => by rw [upd_ne (hx b n)]; exact n, fun b u q _ => ?_,
    fun b xs q => by rw [upd_ne (hm b _ q fun z => z)]; exact q, fun b u xs q => by rw [upd_ne (hm b _ q fun z => z)]; exact q, fun b ps q => ⟨#[], by rw [upd_ne (hm b _ q fun z => z), q]; simp⟩⟩
  by_cases hbe : b = e
  · subst hbe; exact heo
  · exact ⟨u, k b u hbe q⟩
end
noncomputable def trk (h : Heap) (H : Hp) : List Addr := (List.range h.objs.size).filter fun a => (H a).isSome
noncomputable def hidT (h : Heap) (H : Hp) : Heap := PySem.W.hideAll h (trk h H)
theorem hidT_size (h : Heap) (H : Hp) : (hidT h H).objs.size = h.objs.size := PySem.W.hideAll_size _ _
theorem hidT_get {h : Heap} {H : Hp} {b : Addr} {o : Obj} (e : h.get? b = some o) (n : H b = none) : (hidT h H).get? b = some o :=
  PySem.W.hideAll_get _ e fun hm => by
    have q : (H b).isSome = true := (List.mem_filter.mp hm).2
    rw [n] at q; simp at q
theorem of_hidT {h : Heap} {H : Hp} {b : Addr} {o : Obj} (e : (hidT h H).get? b = some o) : h.get? b = some o ∧ H b = none := by
  have e' : h.get? b = some o := PySem.W.of_hideAll (trk h H) e
  refine ⟨e', ?_⟩
  cases q : H b with
  | none => rfl
  | some x =>
    have hm : b ∈ trk h H := List.mem_filter.mpr ⟨List.mem_range.mpr (Heap.lt_size e'), by simp [q]⟩
    have z : (hidT h H).get? b = none := PySem.W.hideAll_none (trk h H) hm
    rw [z] at e; cases e
end L2
namespace L2
open PySem PySem.Spec PyProof.Rows
structure Mod (K : PySem.W.Frag) (mg : Str → Option Value) (base : Heap) : Prop where
  kin : K.In base
  glob : base.Ns mainGlobals mg
  blt : ∃ mb, base.Ns builtinsNs mb ∧ ∀ x : Str, x ≠ "__name__" → mb x = bootBuiltins x
  nolimit : base.NoLimit
structure Cx where
  prog : Program
  w : World
  K : PySem.W.Frag
  mg : Str → Option Value
  base : Heap
  A : Around
  N : List Str
  s₀ : Shared
  H₀ : Hp
  env : Env
  outer : List Env
  stack : List Env
  ex : List Addr
  fn : Str → Bool
  calm : Bool
  pn : List (Addr × Obj)
  xe : Value → Shared → Prop
noncomputable def frs (l : List Env) : List Addr := l.filterMap (·.frame)
noncomputable abbrev Cx.fs (X : Cx) : List Addr := frs X.outer
noncomputable def Vis (sc : Scope) (x : Str) : Prop := sc.names.lookup x = some .local ∨ sc.names.lookup x = some .cell ∨ sc.names.lookup x = some .free
noncomputable def Loc (sc : Scope) (x : Str) : Prop := sc.names.lookup x = some .local ∨ sc.names.lookup x = some .cell
noncomputable def Look (env : Env) (h : Heap) (m : Str → Option Value) (x : Str) (u : Value) : Prop :=
  (env.kindOf x = some .local ∧ m x = some u) ∨ ((env.kindOf x = some .cell ∨ env.kindOf x = some .free) ∧ ∃ c, env.cells.lookup x = some c ∧ h.IsCell c (some u))
structure Cx.Ok (X : Cx) : Prop where
  mod : Mod X.K X.mg X.base
  kind : X.env.scope.kind = .function
  glob : X.env.globals = mainGlobals
  blt : X.env.builtins = builtinsNs
  above : X.s₀.heap.objs.size ≤ X.env.locals
  inj : ∀ x y c, X.env.cells.lookup x = some c → X.env.cells.lookup y = some c → x = y
  has : ∀ x, (X.env.kindOf x = some .cell ∨ X.env.kindOf x = some .free) → ∃ c, X.env.cells.lookup x = some c
  cab : ∀ x c, X.fn x = true → X.env.cells.lookup x = some c → X.s₀.heap.objs.size ≤ c
  hd : X.calm = true → X.A.handled = none
  frames : X.A.frames = some X.stack
  stk : X.stack = X.outer ∨ (X.stack = X.env :: X.outer ∧ X.env.frame = some X.env.locals)
  exf : ∀ b ∈ X.ex, b ≠ X.env.locals ∧ ∀ x c, X.env.cells.lookup x = some c → c ≠ b
  bs : ∀ b o, X.base.get? b = some o → X.s₀.heap.get? b = some o ∧ X.H₀ b = none
  bsz : X.base.objs.size ≤ X.s₀.heap.objs.size
  noex : ∀ b o, X.base.get? b = some o → b ∉ X.ex
  exfs : ∀ b ∈ X.ex, b ∉ X.fs
  funs : X.s₀.heap.FunFrames X.base X.outer
  frf : ∀ b ∈ X.fs, X.H₀ b = none
structure Inv (X : Cx) (pins : List (Addr × Obj)) (σ : List (Option V)) (H : Hp) (s : Shared) : Prop where
  ok : X.Ok
  os : s.os = X.s₀.os
  bare : AllBare s.gens
  base : Un X.fs X.ex X.H₀ H X.s₀.heap s.heap
  loc : ∃ m, s.heap.Ns X.env.locals m ∧ ∀ (i : Nat) (x : Str) (v : V), X.N[i]? = some x → σ[i]? = some (some v) → Vis X.env.scope x → ∃ u, RelV v u ∧ Look X.env s.heap m x u
  cell : ∀ x c, X.env.cells.lookup x = some c → ∃ v, s.heap.IsCell c v
  free : H X.env.locals = none
  freeC : ∀ x c, X.env.cells.lookup x = some c → H c = none
  pin : ∀ p ∈ X.pn ++ pins, s.heap.get? p.1 = some p.2 ∧ H p.1 = none ∧ p.1 ≠ X.env.locals ∧ p.1 ∉ X.fs ∧ ∀ v, p.2.data ≠ .cell v
  hok : HOk X.prog X.w H s.heap
  len : σ.length = X.N.length
section
variable {X : Cx} {pins : List (Addr × Obj)} {σ : List (Option V)} {H H' : Hp} {s : Shared} {h' : Heap}
theorem Cx.Ok.nofr (ok : X.Ok) {b : Addr} {o : Obj} (e : X.base.get? b = some o) : b ∉ X.fs := fun hb => by
  have := (ok.funs.mem hb).1
  rw [e] at this; cases this
theorem Inv.bs (I : Inv X pins σ H s) : ∀ b o, X.base.get? b = some o → s.heap.get? b = some o ∧ H b = none := fun b o e =>
  ⟨I.base.keep b o (I.ok.bs b o e).1 (I.ok.bs b o e).2 (I.ok.nofr e) (I.ok.noex b o e), I.base.free b o (I.ok.bs b o e).1 (I.ok.bs b o e).2 (I.ok.noex b o e)⟩
theorem Inv.bk (I : Inv X pins σ H s) : ∀ b o, X.base.get? b = some o → s.heap.get? b = some o := fun b o e => (I.bs b o e).1
theorem Inv.mod (I : Inv X pins σ H s) : Mod X.K X.mg X.base := I.ok.mod
theorem Inv.kIn (I : Inv X pins σ H s) : X.K.In s.heap := I.ok.mod.kin.keeps I.bk
theorem Inv.lt (I : Inv X pins σ H s) : X.env.locals < s.heap.objs.size := let ⟨_, hn, _⟩ := I.loc; hn.lt
theorem Inv.sz (I : Inv X pins σ H s) : X.s₀.heap.objs.size ≤ s.heap.objs.size := Nat.le_trans I.ok.above (Nat.le_of_lt I.lt)
theorem Inv.nofs (I : Inv X pins σ H s) {a : Addr} (h : s.heap.objs.size ≤ a) : a ∉ X.fs := fun hb => by
  obtain ⟨_, o, ho, _⟩ := I.ok.funs.mem hb
  exact absurd (Nat.lt_of_lt_of_le (Heap.lt_size ho) (Nat.le_trans I.sz h)) (Nat.lt_irrefl _)
theorem Inv.cne (I : Inv X pins σ H s) : ∀ x c, X.env.cells.lookup x = some c → c ≠ X.env.locals := fun x c e z => by
  obtain ⟨v, o, ho, hd⟩ := I.cell x c e
  obtain ⟨m, ⟨o', es, ep, ho', hd', _⟩, _⟩ := I.loc
  rw [z, ho'] at ho; cases ho; rw [hd'] at hd; cases hd
theorem Inv.funs (I : Inv X pins σ H s) : s.heap.FunFrames X.base X.outer := by
  have all : ∀ (l : List Env), (∀ b ∈ frs l, b ∈ X.fs) → X.s₀.heap.FunFrames X.base l → s.heap.FunFrames X.base l := by
    intro l
    induction l with
    | nil => intro _ _; trivial
    | cons env r ih =>
      intro hs hl
      obtain ⟨hk, ⟨L, o, hf, hn, ho, hd⟩, hr⟩ := hl
      have hL : L ∈ X.fs := hs L (by unfold frs; rw [List.filterMap_cons, hf]; exact List.mem_cons_self)
      obtain ⟨sl, e⟩ := I.base.slot L o ho (I.ok.frf L hL) hL fun z => I.ok.exfs L z hL
      exact ⟨hk, ⟨L, _, hf, hn, e, hd⟩, ih (fun b hb => hs b (by unfold frs; rw [List.filterMap_cons, hf]; exact List.mem_cons_of_mem _ hb)) hr⟩
  exact all X.outer (fun _ hb => hb) I.ok.funs
theorem Inv.stack (I : Inv X pins σ H s) : s.heap.FunFrames X.base X.stack := by
  rcases I.ok.stk with e | ⟨e, hf⟩
  · rw [e]; exact I.funs
  · rw [e]
    obtain ⟨m, hn, _⟩ := I.loc
    refine .cons (by rw [I.ok.kind]; decide) hf hn ?_ I.funs
    exact Heap.get?_none_of_le (Nat.le_trans I.ok.bsz I.ok.above)
theorem Inv.stkSub (I : Inv X pins σ H s) : ∀ b ∈ frs X.stack, b ∈ X.env.locals :: X.fs := fun b hb => by
  rcases I.ok.stk with e | ⟨e, hf⟩
  · rw [e] at hb; exact List.mem_cons_of_mem _ hb
  · rw [e] at hb
    unfold frs at hb
    rw [List.filterMap_cons, hf] at hb
    exact hb
theorem Inv.stkFree (I : Inv X pins σ H s) : ∀ b ∈ frs X.stack, H b = none := fun b hb => by
  rcases List.mem_cons.mp (I.stkSub b hb) with e | hb
  · rw [e]; exact I.free
  · obtain ⟨_, o, ho, _⟩ := I.ok.funs.mem hb
    exact I.base.free b o ho (I.ok.frf b hb) fun z => I.ok.exfs b z hb
theorem Inv.step {g' : Array GenState} {t' : Nat} {d' : Drawn} {ch : List Addr} (I : Inv X pins σ H s)
    (hch : ∀ b ∈ ch, (b ∈ X.ex ∨ X.s₀.heap.objs.size ≤ b) ∧ b ≠ X.env.locals ∧ (∀ x c, X.env.cells.lookup x = some c → c ≠ b) ∧ ∀ p ∈ X.pn ++ pins, p.1 ≠ b)
    (keep : ∀ b o, b ≠ X.env.locals → b ∉ X.fs → b ∉ ch → s.heap.get? b = some o → H b = none → h'.get? b = some o)
    (slot : ∀ b o, b ≠ X.env.locals → b ∈ X.fs → b ∉ ch → s.heap.get? b = some o → H b = none → ∃ sl, h'.get? b = some { o with slots := sl }) (free : ∀ b o, b ∉ ch → s.heap.get? b = some o → H b = none → H' b = none)
    (there : ∀ b o, b ∉ ch → s.heap.get? b = some o → ∃ o', h'.get? b = some o')
    (tups : ∀ b xs, H b = some (.tup xs) → H' b = some (.tup xs)) (frzs : ∀ b o u, H b = some (.frz o u) → H' b = some (.frz o u)) (tbls : ∀ b ps, H b = some (.tbl ps) → ∃ more, H' b = some (.tbl (ps ++ more)))
    (ns : ∀ m, s.heap.Ns X.env.locals m → h'.Ns X.env.locals m) (hok : HOk X.prog X.w H' h') (hg : AllBare g') :
    Inv X pins σ H' { s with heap := h', gens := g', drawn := d', toks := t' } := by
  have neL : ∀ b o, X.s₀.heap.get? b = some o → b ≠ X.env.locals := fun b o e => Nat.ne_of_lt (Nat.lt_of_lt_of_le (Heap.lt_size e) I.ok.above)
  have neC : ∀ b o, X.s₀.heap.get? b = some o → b ∉ X.ex → b ∉ ch := fun b o e hx hb => by
    rcases (hch b hb).1 with z | z
    · exact hx z
    · exact absurd (Nat.lt_of_lt_of_le (Heap.lt_size e) z) (Nat.lt_irrefl _)
  have cellK : ∀ x c, X.env.cells.lookup x = some c → ∀ v, s.heap.IsCell c v → h'.IsCell c v := fun x c e v ⟨o, ho, hd⟩ => by
    have nch : c ∉ ch := fun z => (hch c z).2.2.1 x c e rfl
    by_cases hc : c ∈ X.fs
    · obtain ⟨sl, q⟩ := slot c o (I.cne x c e) hc nch ho (I.freeC x c e)
      exact ⟨_, q, hd⟩
    · exact ⟨o, keep c o (I.cne x c e) hc nch ho (I.freeC x c e), hd⟩
  refine ⟨I.ok, I.os, hg, ⟨fun b o e n hb hx => ?_, fun b o e n hb hx => ?_, fun b o e n hx => ?_, fun b o e hx => ?_, fun b xs e => tups b xs (I.base.tups b xs e), fun b o xs e => frzs b o xs (I.base.frzs b o xs e), fun b ps e => ?_⟩, ?_, fun x c e => ?_, ?_, fun x c e => ?_, fun p hp => ?_, hok, I.len⟩
  · exact keep b o (neL b o e) hb (neC b o e hx) (I.base.keep b o e n hb hx) (I.base.free b o e n hx)
  · obtain ⟨sl, e1⟩ := I.base.slot b o e n hb hx
    obtain ⟨sl', e2⟩ := slot b _ (neL b o e) hb (neC b o e hx) e1 (I.base.free b o e n hx)
    exact ⟨sl', e2⟩
  · obtain ⟨o', e1⟩ := I.base.there b o e hx
    exact free b o' (neC b o e hx) e1 (I.base.free b o e n hx)
  · obtain ⟨o', e1⟩ := I.base.there b o e hx
    exact there b o' (neC b o e hx) e1
  · obtain ⟨m1, e1⟩ := I.base.tbls b ps e
    obtain ⟨m2, e2⟩ := tbls b _ e1
    exact ⟨m1 ++ m2, by rw [e2, Array.append_assoc]⟩
  · obtain ⟨m, hn, hl⟩ := I.loc
    refine ⟨m, ns m hn, fun i x v e1 e2 e3 => ?_⟩
    obtain ⟨u, r, l⟩ := hl i x v e1 e2 e3
    refine ⟨u, r, ?_⟩
    rcases l with l | ⟨k, c, e, z⟩
    · exact .inl l
    · exact .inr ⟨k, c, e, cellK x c e _ z⟩
  · obtain ⟨v, z⟩ := I.cell x c e
    exact ⟨v, cellK x c e v z⟩
  · obtain ⟨m, ⟨o, _, _, ho, _⟩, _⟩ := I.loc
    exact free _ o (fun z => (hch _ z).2.1 rfl) ho I.free
  · obtain ⟨v, o, ho, hd⟩ := I.cell x c e
    exact free c o (fun z => (hch c z).2.2.1 x c e rfl) ho (I.freeC x c e)
  · obtain ⟨e, n, ne, nf, d⟩ := I.pin p hp
    have nch : p.1 ∉ ch := fun z => (hch p.1 z).2.2.2 p hp rfl
    exact ⟨keep p.1 p.2 ne nf nch e n, free p.1 p.2 nch e n, ne, nf, d⟩
theorem Inv.un {t' : Nat} (I : Inv X pins σ H s) (u : Un X.fs [] H H' s.heap h') (hok : HOk X.prog X.w H' h') : Inv X pins σ H' { s with heap := h', toks := t' } := by
  obtain ⟨m, ⟨o, es, ep, ho, r⟩, _⟩ := id I.loc
  obtain ⟨sl, hL⟩ := u.any ho I.free (by simp)
  exact I.step (g' := s.gens) (d' := s.drawn) (ch := []) (fun _ z => nomatch z) (fun b o _ hb _ e n => u.keep b o e n hb (by simp)) (fun b o _ hb _ e n => u.slot b o e n hb (by simp)) (fun b o _ e n => u.free b o e n (by simp)) (fun b o _ e => u.there b o e (by simp)) u.tups u.frzs u.tbls (fun m' hm => by
    obtain ⟨o', es', ep', ho', r'⟩ := hm
    rw [ho] at ho'; cases ho'
    exact ⟨_, es', ep', hL, r'⟩) hok I.bare
theorem Inv.call {g' : Array GenState} {t' : Nat} {d' : Drawn} {ch : List Addr} (I : Inv X pins σ H s) (u : Un (frs X.stack) ch H H' s.heap h') (hok : HOk X.prog X.w H' h') (hg : AllBare g')
    (hch : ∀ b ∈ ch, (b ∈ X.ex ∨ X.s₀.heap.objs.size ≤ b) ∧ b ≠ X.env.locals ∧ (∀ x c, X.env.cells.lookup x = some c → c ≠ b) ∧ ∀ p ∈ X.pn ++ pins, p.1 ≠ b) :
    Inv X pins σ H' { s with heap := h', gens := g', drawn := d', toks := t' } := by
  obtain ⟨m, ⟨o, es, ep, ho, r⟩, _⟩ := id I.loc
  obtain ⟨sl, hL⟩ := u.any ho I.free fun z => (hch _ z).2.1 rfl
  exact I.step (ch := ch) hch (fun b o hL hb hc e n => u.keep b o e n (fun z => (List.mem_cons.mp (I.stkSub b z)).elim hL hb) hc) (fun b o _ _ hc e n => u.any e n hc) (fun b o hc e n => u.free b o e n hc) (fun b o hc e => u.there b o e hc) u.tups u.frzs u.tbls (fun m' hm => by
    obtain ⟨o', es', ep', ho', r'⟩ := hm
    rw [ho] at ho'; cases ho'
    exact ⟨_, es', ep', hL, r'⟩) hok hg
theorem Inv.turned {t' : Nat} {it : Addr} (I : Inv X pins σ H s) (k : ∀ b o, b ≠ it → s.heap.get? b = some o → h'.get? b = some o) (hn : H it = none) (hL : it ≠ X.env.locals)
    (h1 : it ∈ X.ex ∨ X.s₀.heap.objs.size ≤ it) (h2 : ∀ x c, X.env.cells.lookup x = some c → c ≠ it) (h3 : ∀ p ∈ X.pn ++ pins, p.1 ≠ it) : Inv X pins σ H { s with heap := h', toks := t' } := by
  have nit : ∀ b u, H b = some u → b ≠ it := fun b u e z => by rw [z, hn] at e; cases e
  refine I.step (g' := s.gens) (d' := s.drawn) (ch := [it]) (fun b hb => ?_) (fun b o _ _ hc e _ => k b o (fun z => hc (by simp [z])) e) (fun b o _ _ hc e _ => ⟨o.slots, k b o (fun z => hc (by simp [z])) e⟩) (fun _ _ _ _ n => n)
    (fun b o hc e => ⟨o, k b o (fun z => hc (by simp [z])) e⟩) (fun _ _ e => e) (fun _ _ _ e => e) (fun b ps e => ⟨#[], by rw [e]; simp⟩) (fun m hm => ?_) (fun b u e => ?_) I.bare
  · have e : b = it := by simpa using hb
    subst e
    exact ⟨h1, hL, h2, h3⟩
  · obtain ⟨o, es, ep, ho, r⟩ := hm
    exact ⟨o, es, ep, k _ o (Ne.symm hL) ho, r⟩
  · refine (I.hok b u e).stay (fun c v hc q => k c v ?_ q) (fun _ q => q) fun _ _ q => q
    rcases hc with z | z
    · rw [z]; exact nit b u e
    · exact nit c _ z
theorem Inv.tok (I : Inv X pins σ H s) (t : Nat) : Inv X pins σ H { s with toks := t } := I.un (h' := s.heap) (t' := t) Un.refl I.hok
theorem Inv.kept {t' : Nat} (I : Inv X pins σ H s) (k : ∀ b u, s.heap.get? b = some u → h'.get? b = some u) : Inv X pins σ H { s with heap := h', toks := t' } := I.un (Un.kept k) (I.hok.kept k)
theorem Inv.laid {a : Addr} {o : HO} {t' : Nat} (I : Inv X pins σ H s) (k : ∀ b u, s.heap.get? b = some u → h'.get? b = some u) (hp : s.heap.objs.size ≤ a) (new : ObjOk X.prog X.w (upd H a o) h' a o) :
    Inv X pins σ (upd H a o) { s with heap := h', toks := t' } := I.un (Un.laid k hp (I.hok.fresh hp)) (I.hok.laid k hp new)
theorem Inv.write {x e : Addr} {o : HO} {t' : Nat} (I : Inv X pins σ H s) (mu : Mut (H x)) (he : e = x ∨ H e = some (.own x)) (k : ∀ b u, b ≠ e → s.heap.get? b = some u → h'.get? b = some u) (heo : ∃ u, h'.get? e = some u)
    (new : ObjOk X.prog X.w (upd H x o) h' x o) : Inv X pins σ (upd H x o) { s with heap := h', toks := t' } := I.un (Un.write mu he k heo) (I.hok.write mu he k heo new)
theorem Inv.weak {σ' : List (Option V)} (I : Inv X pins σ H s) (hl : σ'.length = σ.length) (w : ∀ (i : Nat) v, σ'[i]? = some (some v) → σ[i]? = some (some v)) : Inv X pins σ' H s :=
  ⟨I.ok, I.os, I.bare, I.base, let ⟨m, hn, hl'⟩ := I.loc; ⟨m, hn, fun i x v e1 e2 e3 => hl' i x v e1 (w i v e2) e3⟩, I.cell, I.free, I.freeC, I.pin, I.hok, hl.trans I.len⟩
theorem Inv.pins_of {pins' : List (Addr × Obj)} (I : Inv X pins σ H s) (h : ∀ p ∈ pins', s.heap.get? p.1 = some p.2 ∧ H p.1 = none ∧ p.1 ≠ X.env.locals ∧ p.1 ∉ X.fs ∧ ∀ v, p.2.data ≠ .cell v) : Inv X pins' σ H s :=
  ⟨I.ok, I.os, I.bare, I.base, I.loc, I.cell, I.free, I.freeC, fun p hp => (List.mem_append.mp hp).elim (fun z => I.pin p (List.mem_append_left _ z)) (h p), I.hok, I.len⟩
theorem nodup_ix {N : List Str} (hN : N.Nodup) {i j : Nat} {x : Str} (a : N[i]? = some x) (b : N[j]? = some x) : i = j := by
  obtain ⟨h1, e1⟩ := List.getElem?_eq_some_iff.mp a
  obtain ⟨h2, e2⟩ := List.getElem?_eq_some_iff.mp b
  exact (List.getElem_inj hN).mp (e1.trans e2.symm)
theorem store_ok2 {M : Model} {A : Around} {E : Value → Shared → Prop} {i : Nat} {x : Str} {v : V} {u : Value} {Q : Unit → Shared → Prop} (I : Inv X pins σ H s) (hN : X.N.Nodup) (hi : X.N[i]? = some x) (hx : Loc X.env.scope x) (r : RelV v u)
    (h : ∀ s', Inv X pins (σ.set i (some v)) H s' → (∃ a, Heap.SameBut a s.heap s'.heap ∧ (a = X.env.locals ∨ X.env.cells.lookup x = some a)) → Q () s') (hf : X.fn x = true ∨ X.env.scope.names.lookup x = some .local := by first | exact .inl rfl | exact .inr rfl | assumption) : wpAny M A (storeName X.env x u) Q E s := by
  obtain ⟨m, hn, hl⟩ := id I.loc
  have hcls : (X.env.scope.kind == .class || (X.env.scope.kind == .module && X.env.locals != X.env.globals)) = false := by rw [I.ok.kind]; rfl
  have hiσ : i < σ.length := by rw [I.len]; exact (List.getElem?_eq_some_iff.mp hi).1
  have cne := I.cne
  have tracked : ∀ {a : Addr} {h' : Heap}, (∃ o, s.heap.get? a = some o ∧ H a = none) → Heap.SameBut a s.heap h' → HOk X.prog X.w H h' := fun {a h'} ha hs b ob e => by
    obtain ⟨_, _, hfree⟩ := ha
    refine (I.hok b ob e).stay (fun c w' hc q => (hs.2 c ?_).trans q) (fun _ q => q) fun _ _ q => q
    rintro rfl
    rcases hc with rfl | hc
    · rw [hfree] at e; cases e
    · rw [hfree] at hc; cases hc
  rcases hx with hk | hk
  · refine wpAny_storeName_local hk hn (fun h' hn' hs => ?_) hcls
    obtain ⟨oL, _, _, hoL, _⟩ := id hn
    refine h _ ⟨I.ok, I.os, I.bare, ⟨fun b o e n hb hx => ?_, fun b o e n hb hx => ?_, I.base.free, fun b o e hx => ?_, I.base.tups, I.base.frzs, I.base.tbls⟩, ⟨_, hn', fun j y v' e1 e2 e3 => ?_⟩, fun y c e => ?_, I.free, I.freeC, fun p hp => ?_, tracked ⟨oL, hoL, I.free⟩ hs, by simpa using I.len⟩ ⟨_, hs, .inl rfl⟩
    · exact (hs.2 b (Nat.ne_of_lt (Nat.lt_of_lt_of_le (Heap.lt_size e) I.ok.above))).trans (I.base.keep b o e n hb hx)
    · obtain ⟨sl, e1⟩ := I.base.slot b o e n hb hx
      exact ⟨sl, (hs.2 b (Nat.ne_of_lt (Nat.lt_of_lt_of_le (Heap.lt_size e) I.ok.above))).trans e1⟩
    · obtain ⟨o', e1⟩ := I.base.there b o e hx
      exact ⟨o', (hs.2 b (Nat.ne_of_lt (Nat.lt_of_lt_of_le (Heap.lt_size e) I.ok.above))).trans e1⟩
    · by_cases hj : j = i
      · subst hj
        rw [hi] at e1; cases e1
        rw [List.getElem?_set_self hiσ] at e2
        cases e2
        exact ⟨u, r, .inl ⟨hk, by simp⟩⟩
      · rw [List.getElem?_set_ne (Ne.symm hj)] at e2
        obtain ⟨u', r', q⟩ := hl j y v' e1 e2 e3
        refine ⟨u', r', ?_⟩
        rcases q with ⟨k, e⟩ | ⟨k, c, e, z⟩
        · refine .inl ⟨k, ?_⟩
          have : y ≠ x := fun e => hj (nodup_ix hN e1 (e ▸ hi))
          simp [this, e]
        · exact .inr ⟨k, c, e, z.sameBut hs (cne y c e)⟩
    · obtain ⟨w', z⟩ := I.cell y c e
      exact ⟨w', z.sameBut hs (cne y c e)⟩
    · obtain ⟨e, n, ne, nf, d⟩ := I.pin p hp
      exact ⟨(hs.2 p.1 ne).trans e, n, ne, nf, d⟩
  · have hfn : X.fn x = true := by
      rcases hf with z | z
      · exact z
      · rw [z] at hk; cases hk
    obtain ⟨c, hc⟩ := I.ok.has x (.inl hk)
    obtain ⟨w', z⟩ := I.cell x c hc
    refine wpAny_storeName_cell I.ok.kind hk hc z (fun h' hc' hs => ?_)
    obtain ⟨oc, hoc, hocd⟩ := id z
    refine h { s with heap := h' } ⟨I.ok, I.os, I.bare, ⟨fun b o e n hb hx => ?_, fun b o e n hb hx => ?_, I.base.free, fun b o e hx => ?_, I.base.tups, I.base.frzs, I.base.tbls⟩, ⟨m, hn.sameBut hs (Ne.symm (cne x c hc)), fun j y v' e1 e2 e3 => ?_⟩, fun y c' e => ?_, I.free, I.freeC, fun p hp => ?_, tracked ⟨oc, hoc, I.freeC x c hc⟩ hs, by simpa using I.len⟩ ⟨c, hs, .inr hc⟩
    · exact (hs.2 b (Nat.ne_of_lt (Nat.lt_of_lt_of_le (Heap.lt_size e) (I.ok.cab x c hfn hc)))).trans (I.base.keep b o e n hb hx)
    · obtain ⟨sl, e1⟩ := I.base.slot b o e n hb hx
      exact ⟨sl, (hs.2 b (Nat.ne_of_lt (Nat.lt_of_lt_of_le (Heap.lt_size e) (I.ok.cab x c hfn hc)))).trans e1⟩
    · obtain ⟨o', e1⟩ := I.base.there b o e hx
      exact ⟨o', (hs.2 b (Nat.ne_of_lt (Nat.lt_of_lt_of_le (Heap.lt_size e) (I.ok.cab x c hfn hc)))).trans e1⟩
    · by_cases hj : j = i
      · subst hj
        rw [hi] at e1; cases e1
        rw [List.getElem?_set_self hiσ] at e2
        cases e2
        exact ⟨u, r, .inr ⟨.inl hk, c, hc, hc'⟩⟩
      · rw [List.getElem?_set_ne (Ne.symm hj)] at e2
        obtain ⟨u', r', q⟩ := hl j y v' e1 e2 e3
        refine ⟨u', r', ?_⟩
        rcases q with q | ⟨k, c', e, z'⟩
        · exact .inl q
        · refine .inr ⟨k, c', e, z'.sameBut hs ?_⟩
          rintro rfl
          exact hj (nodup_ix hN e1 (I.ok.inj _ _ _ e hc ▸ hi))
    · by_cases hcc : c' = c
      · subst hcc; exact ⟨_, hc'⟩
      · obtain ⟨w2, z2⟩ := I.cell y c' e
        exact ⟨w2, z2.sameBut hs hcc⟩
    · obtain ⟨e, n, ne, nf, d⟩ := I.pin p hp
      refine ⟨(hs.2 p.1 ?_).trans e, n, ne, nf, d⟩
      intro q
      rw [q, hoc] at e
      have q' : oc = p.2 := Option.some.inj e
      exact d w' (by rw [← q']; exact hocd)
theorem store_ok {M : Model} {A : Around} {E : Value → Shared → Prop} {i : Nat} {x : Str} {v : V} {u : Value} {Q : Unit → Shared → Prop} (I : Inv X pins σ H s) (hN : X.N.Nodup) (hi : X.N[i]? = some x) (hx : Loc X.env.scope x) (r : RelV v u)
    (h : ∀ s', Inv X pins (σ.set i (some v)) H s' → Q () s') (hf : X.fn x = true ∨ X.env.scope.names.lookup x = some .local := by first | exact .inl rfl | exact .inr rfl | assumption) : wpAny M A (storeName X.env x u) Q E s :=
  store_ok2 I hN hi hx r (fun s' I' _ => h s' I') hf
theorem Inv.call' {s' : Shared} {ch : List Addr} (I : Inv X pins σ H s) (ho : s'.os = s.os) (u : Un (frs X.stack) ch H H' s.heap s'.heap) (hok : HOk X.prog X.w H' s'.heap) (hg : AllBare s'.gens)
    (hch : ∀ b ∈ ch, (b ∈ X.ex ∨ X.s₀.heap.objs.size ≤ b) ∧ b ≠ X.env.locals ∧ (∀ x c, X.env.cells.lookup x = some c → c ≠ b) ∧ ∀ p ∈ X.pn ++ pins, p.1 ≠ b) : Inv X pins σ H' s' := by
  obtain ⟨h', g', d', t', o'⟩ := s'
  have e : o' = s.os := ho
  subst e
  exact I.call (g' := g') (t' := t') (d' := d') u hok hg hch
end
noncomputable abbrev XK := Value → Option Addr → Hp → Prop
noncomputable abbrev St := List (Option V)
noncomputable abbrev VK := V → Hp → Prop
noncomputable abbrev TE := St → Hp → VK → Prop
noncomputable abbrev TT := St → Hp → (Bool → Hp → Prop) → Prop
noncomputable abbrev TA := St → Hp → (List V → Hp → Prop) → Prop
structure Ends where
  nx : St → Hp → Prop
  rt : VK
  bk : St → Hp → Prop := fun _ _ => False
  ct : St → Hp → Prop := fun _ _ => False
noncomputable abbrev TS := Ends → St → Hp → Prop
noncomputable def EP (X : Cx) (pins : List (Addr × Obj)) (σ : St) (Q : VK) (u : Value) (s' : Shared) : Prop := ∃ v H', Inv X pins σ H' s' ∧ RelV v u ∧ Q v H'
noncomputable def TP (X : Cx) (pins : List (Addr × Obj)) (σ : St) (Q : Bool → Hp → Prop) (b : Bool) (s' : Shared) : Prop := ∃ H', Inv X pins σ H' s' ∧ Q b H'
noncomputable def AP (X : Cx) (pins : List (Addr × Obj)) (σ : St) (Q : List V → Hp → Prop) (us : List Value) (s' : Shared) : Prop := ∃ vs H', Inv X pins σ H' s' ∧ Vals vs us ∧ Q vs H'
noncomputable def SP (X : Cx) (pins : List (Addr × Obj)) (D : Ends) (f : Flow) (s' : Shared) : Prop :=
  match f with
  | .next => ∃ σ' H', Inv X pins σ' H' s' ∧ D.nx σ' H'
  | .brk => ∃ σ' H', Inv X pins σ' H' s' ∧ D.bk σ' H'
  | .cont => ∃ σ' H', Inv X pins σ' H' s' ∧ D.ct σ' H'
  | .ret u => ∃ v σ' H', Inv X pins σ' H' s' ∧ RelV v u ∧ D.rt v H'
noncomputable def PE (X : Cx) (e : Expr) (t : TE) : Prop :=
  ∀ (pins : List (Addr × Obj)) (s : Shared) (σ : St) (H : Hp) (Q : VK), Inv X pins σ H s → t σ H Q → wpAny (model X.prog X.w) X.A (eval e X.env) (EP X pins σ Q) X.xe s
noncomputable def PT (X : Cx) (e : Expr) (t : TT) : Prop :=
  ∀ (pins : List (Addr × Obj)) (s : Shared) (σ : St) (H : Hp) (Q : Bool → Hp → Prop), Inv X pins σ H s → t σ H Q → wpAny (model X.prog X.w) X.A (isTrue e X.env (eval e X.env)) (TP X pins σ Q) X.xe s
noncomputable def PW (X : Cx) (e : Expr) (t : TT) : Prop :=
  ∀ (whole : Sem Value) (pins : List (Addr × Obj)) (s : Shared) (σ : St) (H : Hp) (Q : Bool → Hp → Prop), Inv X pins σ H s → t σ H Q → wpAny (model X.prog X.w) X.A (isTrue e X.env whole) (TP X pins σ Q) X.xe s
theorem PW.pt {X : Cx} {e : Expr} {t : TT} (h : PW X e t) : PT X e t := h _
noncomputable def PA (X : Cx) (es : List Expr) (t : TA) : Prop :=
  ∀ (pos : Pos) (pins : List (Addr × Obj)) (s : Shared) (σ : St) (H : Hp) (Q : List V → Hp → Prop), Inv X pins σ H s → t σ H Q → wpAny (model X.prog X.w) X.A (spliced (backTo pos (starEach es X.env))) (AP X pins σ Q) X.xe s
noncomputable def PS (X : Cx) (st : Stmt) (t : TS) : Prop :=
  ∀ (pins : List (Addr × Obj)) (s : Shared) (σ : St) (H : Hp) (D : Ends), Inv X pins σ H s → t D σ H → wpAny (model X.prog X.w) X.A (exec st X.env) (SP X pins D) X.xe s
noncomputable def PSs (X : Cx) (st : List Stmt) (t : TS) : Prop :=
  ∀ (pins : List (Addr × Obj)) (s : Shared) (σ : St) (H : Hp) (D : Ends), Inv X pins σ H s → t D σ H → wpAny (model X.prog X.w) X.A (execs st X.env) (SP X pins D) X.xe s
theorem thn {α : Type} {t : Sem α} {Q Q' : α → Shared → Prop} {M : Model} {A : Around} {E : Value → Shared → Prop} {s : Shared} (h : wpAny M A t Q E s) (hQ : ∀ a s, Q a s → Q' a s) : wpAny M A t Q' E s := wpAny_mono h hQ fun _ _ x => x
end L2
namespace L2
open PySem PySem.Spec PyProof.Rows
section
variable {X : Cx}
noncomputable def tVar (i : Nat) : TE := fun σ H Q => ∃ v, σ[i]? = some (some v) ∧ Q v H
noncomputable def tC (v : V) : TE := fun _ H Q => Q v H
theorem pe_var {i : Nat} {x : Str} {pos : Pos} (hN : X.N[i]? = some x) (hv : Vis X.env.scope x) (hd : (x == ("__debug__" : Str)) = false := by decide) (hcd : (x == ("__classdict__" : Str)) = false := by decide) : PE X (.Name x pos) (tVar i) := by
  intro pins s σ H Q I h
  obtain ⟨v, e, h⟩ := h
  obtain ⟨m, hn, hl⟩ := I.loc
  obtain ⟨u, r, l⟩ := hl i x v hN e hv
  have fin : EP X pins σ Q u s := ⟨v, H, I, r, h⟩
  rcases l with ⟨hk, hm⟩ | ⟨hk, c, hc, hcell⟩
  · exact wpAny_Name (wpAny_loadName_local I.ok.kind hk hn hm fin) hd
  · rcases hk with hk | hk
    · exact wpAny_Name (wpAny_loadName_cell I.ok.kind hk hc hcell fin) hd
    · exact wpAny_Name (wpAny_loadName_free I.ok.kind hk hc hcell fin hcd) hd
theorem pe_int {i j pos} : PE X (.Constant (.int i) j pos) (tC (.int i)) := fun _ _ _ H _ I h => wpAny_Constant_int ⟨.int i, H, I.tok _, ⟨_, rfl⟩, h⟩
theorem pe_bl {b j pos} : PE X (.Constant (.bool b) j pos) (tC (.bl b)) := fun _ _ _ H _ I h => Constant_bool ⟨.bl b, H, I, rfl, h⟩
theorem pe_non {j pos} : PE X (.Constant .none j pos) (tC .non) := fun _ _ _ H _ I h => Constant_none ⟨.non, H, I, rfl, h⟩
theorem pe_str {x j pos} : PE X (.Constant (.str x) j pos) (tC (.str x)) := fun _ _ _ H _ I h => Calls.Constant_str ⟨.str x, H, I.tok _, ⟨_, rfl⟩, h⟩
noncomputable def Gl (X : Cx) (x : Str) : Prop := X.env.kindOf x = some .globalImplicit
theorem ld_glob {E : Value → Shared → Prop} {pins : List (Addr × Obj)} {s : Shared} {σ : St} {H : Hp} {x : Str} {u : Value} {pos : Pos} {Q : Value → Shared → Prop} (I : Inv X pins σ H s) (hg : Gl X x) (hm : X.mg x = some u) (h : Q u s)
    (hd : (x == ("__debug__" : Str)) = false := by decide) : wpAny (model X.prog X.w) X.A (eval (.Name x pos) X.env) Q E s :=
  Calls.Name_function_global I.ok.kind hg (Calls.loadGlobal_global (by rw [I.ok.glob]; exact I.mod.glob.keeps I.bk) hm h) hd
theorem ld_blt {E : Value → Shared → Prop} {pins : List (Addr × Obj)} {s : Shared} {σ : St} {H : Hp} {x : Str} {u : Value} {pos : Pos} {Q : Value → Shared → Prop} (I : Inv X pins σ H s) (hg : Gl X x) (hm : X.mg x = none) (hv : bootBuiltins x = some u) (h : Q u s)
    (hn : x ≠ "__name__" := by decide) (hd : (x == ("__debug__" : Str)) = false := by decide) : wpAny (model X.prog X.w) X.A (eval (.Name x pos) X.env) Q E s := by
  obtain ⟨mb, h1, h2⟩ := I.mod.blt
  exact Calls.Name_function_global I.ok.kind hg (Calls.loadGlobal_builtin (by rw [I.ok.glob]; exact I.mod.glob.keeps I.bk) hm (by rw [I.ok.blt]; exact h1.keeps I.bk) ((h2 x hn).trans hv) h) hd
theorem pe_glob {x : Str} {v : V} {u : Value} {pos : Pos} (hg : Gl X x) (hm : X.mg x = some u) (r : RelV v u) (hd : (x == ("__debug__" : Str)) = false := by decide) : PE X (.Name x pos) (tC v) :=
  fun _ _ _ H _ I h => ld_glob I hg hm ⟨v, H, I, r, h⟩ hd
theorem pe_bltn {x : Str} {v : V} {u : Value} {pos : Pos} (hg : Gl X x) (hm : X.mg x = none) (hv : bootBuiltins x = some u) (r : RelV v u) (hn : x ≠ "__name__" := by decide) (hd : (x == ("__debug__" : Str)) = false := by decide) : PE X (.Name x pos) (tC v) :=
  fun _ _ _ H _ I h => ld_blt I hg hm hv ⟨v, H, I, r, h⟩ hn hd
variable {a b : Expr} {ta tb : TE} {pos : Pos}
noncomputable def tB (t : TE) : TT := fun σ H Q => t σ H fun x H1 => ∃ c, x = .bl c ∧ Q c H1
theorem pt_val {e : Expr} {t : TE} (h : PE X e t) (he : ∀ whole, isTrue e X.env whole = (do let v ← whole; standAt e.pos; holding [v] (truthy v)) := by intro _; rfl) : PT X e (tB t) := by
  intro pins s σ H Q I hw
  refine isTrue_plain (thn (h pins s σ H _ I hw) fun v s1 ⟨x, H1, I1, r1, q1⟩ => ?_) (he _)
  obtain ⟨d, rfl, q⟩ := q1
  cases r1
  exact wpAny_truthy_bool ⟨H1, I1, q⟩
variable {tA tB' : TT} {rest : List Expr}
noncomputable def tAnd (t u : TT) : TT := fun σ H Q => t σ H fun c H1 => if c = true then u σ H1 Q else Q false H1
noncomputable def tOr (t u : TT) : TT := fun σ H Q => t σ H fun c H1 => if c = true then Q true H1 else u σ H1 Q
noncomputable def tNot (t : TT) : TT := fun σ H Q => t σ H fun c H1 => Q (!c) H1
theorem pw_and1 (ha : PT X a tA) : PW X (.BoolOp .And [a] pos) tA := by
  intro wh pins s σ H Q I h
  refine isTrue_and (thn (ha pins s σ H Q I h) fun c s1 e => ?_)
  cases c with
  | true => exact isTrue_and_nil e
  | false => exact e
theorem pw_or1 (ha : PT X a tA) : PW X (.BoolOp .Or [a] pos) tA := by
  intro wh pins s σ H Q I h
  refine isTrue_or (thn (ha pins s σ H Q I h) fun c s1 e => ?_)
  cases c with
  | false => exact isTrue_or_nil e
  | true => exact e
theorem pw_and (ha : PT X a tA) (hb : PW X (.BoolOp .And (b :: rest) pos) tB') : PW X (.BoolOp .And (a :: b :: rest) pos) (tAnd tA tB') := by
  intro wh pins s σ H Q I h
  refine isTrue_and (thn (ha pins s σ H _ I h) fun c s1 zz => ?_)
  obtain ⟨H1, I1, q1⟩ := zz
  cases c with
  | true => exact hb wh pins s1 σ H1 Q I1 q1
  | false => exact ⟨H1, I1, q1⟩
theorem pw_or (ha : PT X a tA) (hb : PW X (.BoolOp .Or (b :: rest) pos) tB') : PW X (.BoolOp .Or (a :: b :: rest) pos) (tOr tA tB') := by
  intro wh pins s σ H Q I h
  refine isTrue_or (thn (ha pins s σ H _ I h) fun c s1 zz => ?_)
  obtain ⟨H1, I1, q1⟩ := zz
  cases c with
  | true => exact ⟨H1, I1, q1⟩
  | false => exact hb wh pins s1 σ H1 Q I1 q1
theorem pt_not (ha : PT X a tA) : PT X (.UnaryOp .Not a pos) (tNot tA) := by
  intro pins s σ H Q I h
  exact isTrue_not (ha pins s σ H (fun c H1 => Q (!c) H1) I h)
noncomputable def tAndV (ta tb : TE) : TE := fun σ H Q => ta σ H fun x H1 => ∃ c, x = .bl c ∧ if c = true then tb σ H1 Q else Q (.bl false) H1
noncomputable def tOrV (ta tb : TE) : TE := fun σ H Q => ta σ H fun x H1 => ∃ c, x = .bl c ∧ if c = true then Q (.bl true) H1 else tb σ H1 Q
noncomputable def tNotV (ta : TE) : TE := fun σ H Q => ta σ H fun x H1 => ∃ c, x = .bl c ∧ Q (.bl (!c)) H1
theorem pe_one {op} {t : TE} (h : PE X a t) : PE X (.BoolOp op [a] pos) t := fun pins s σ H Q I hw => BoolOp_one (h pins s σ H Q I hw)
theorem pe_and (ha : PE X a ta) (hb : PE X (.BoolOp .And (b :: rest) pos) tb) : PE X (.BoolOp .And (a :: b :: rest) pos) (tAndV ta tb) := by
  intro pins s σ H Q I h
  refine BoolOp_and (thn (ha pins s σ H _ I h) fun v s1 zz => ?_)
  obtain ⟨x, H1, I1, r1, q1⟩ := zz
  obtain ⟨c, rfl, q1⟩ := q1
  cases r1
  refine wpAny_truthy_bool ?_
  cases c with
  | true => exact hb pins s1 σ H1 Q I1 q1
  | false => exact ⟨.bl false, H1, I1, rfl, q1⟩
theorem pe_or (ha : PE X a ta) (hb : PE X (.BoolOp .Or (b :: rest) pos) tb) : PE X (.BoolOp .Or (a :: b :: rest) pos) (tOrV ta tb) := by
  intro pins s σ H Q I h
  refine BoolOp_or (thn (ha pins s σ H _ I h) fun v s1 zz => ?_)
  obtain ⟨x, H1, I1, r1, q1⟩ := zz
  obtain ⟨c, rfl, q1⟩ := q1
  cases r1
  refine wpAny_truthy_bool ?_
  cases c with
  | false => exact hb pins s1 σ H1 Q I1 q1
  | true => exact ⟨.bl true, H1, I1, rfl, q1⟩
theorem pe_not (ha : PE X a ta) : PE X (.UnaryOp .Not a pos) (tNotV ta) := by
  intro pins s σ H Q I h
  refine UnaryOp_ (thn (ha pins s σ H _ I h) fun v s1 zz => ?_)
  obtain ⟨x, H1, I1, r1, q1⟩ := zz
  obtain ⟨c, rfl, q1⟩ := q1
  cases r1
  exact not_of (wpAny_truthy_bool ⟨.bl (!c), H1, I1, rfl, q1⟩)
noncomputable def tIf (t : TT) (ta tb : TE) : TE := fun σ H Q => t σ H fun c H1 => if c = true then ta σ H1 Q else tb σ H1 Q
theorem pe_ifExp {c : Expr} (hc : PT X c tA) (ha : PE X a ta) (hb : PE X b tb) : PE X (.IfExp c a b pos) (tIf tA ta tb) := by
  intro pins s σ H Q I h
  refine wpAny_IfExp (thn (hc pins s σ H _ I h) fun d s1 zz => ?_)
  obtain ⟨H1, I1, q1⟩ := zz
  cases d with
  | true => exact ha pins s1 σ H1 Q I1 q1
  | false => exact hb pins s1 σ H1 Q I1 q1
end
end L2
namespace L2
open PySem PySem.Spec PyProof.Rows
noncomputable def SqL (K : PySem.W.Frag) (H : Hp) (a : Addr) (xs : List V) : Prop :=
  Rd H a (.lst xs) ∨
    ∃ (o : Obj) (its : Array Value) (n : Nat), K.lookup a = some o ∧ o.cls = .type "list" ∧ o.dict = none ∧ o.data = .seq its n ∧ its.size ≤ sizeLine ∧ Vals xs its.toList
noncomputable def SqT (K : PySem.W.Frag) (H : Hp) (a : Addr) (xs : List V) : Prop :=
  Rd H a (.tup xs) ∨
    ∃ (o : Obj) (its : Array Value) (n : Nat), K.lookup a = some o ∧ o.cls = .type "tuple" ∧ o.data = .seq its n ∧ its.size ≤ sizeLine ∧ Vals xs its.toList
noncomputable def absV : Value → Option V
  | .none => some .non
  | .bool b => some (.bl b)
  | .int i _ => some (.int i)
  | .str x _ => some (.str x)
  | .bytes b _ => some (.byt b)
  | .float b _ => some (.flt b)
  | .ref a => some (.ref a)
  | .type n => some (.ty n)
  | _ => none
theorem RelV.abs {x : V} {u : Value} (r : RelV x u) : absV u = some x := by
  cases x with
  | non => cases r; rfl
  | bl _ => cases r; rfl
  | int _ => obtain ⟨t, rfl⟩ := r; rfl
  | str _ => obtain ⟨t, rfl⟩ := r; rfl
  | byt _ => obtain ⟨t, rfl⟩ := r; rfl
  | flt _ => obtain ⟨t, rfl⟩ := r; rfl
  | ref _ => cases r; rfl
  | ty _ => cases r; rfl
theorem RelV.inj {x y : V} {u : Value} (r : RelV x u) (q : RelV y u) : x = y := Option.some.inj (r.abs.symm.trans q.abs)
theorem Vals.inj : ∀ {xs ys : List V} {us : List Value}, Vals xs us → Vals ys us → xs = ys
  | _, _, _, .nil, .nil => rfl
  | _, _, _, .cons r t, .cons r' t' => by rw [r.inj r', Vals.inj t t']
section
variable {X : Cx} {pins : List (Addr × Obj)} {σ : St} {H : Hp} {s : Shared} {a : Addr} {xs ys : List V}
theorem SqL.of {K : PySem.W.Frag} (h : H a = some (.lst xs)) : SqL K H a xs := .inl (.inl h)
theorem SqT.of {K : PySem.W.Frag} (h : H a = some (.tup xs)) : SqT K H a xs := .inl (.inl h)
theorem Inv.list (I : Inv X pins σ H s) (h : SqL X.K H a xs) : ∃ its : List Value, Vals xs its ∧ PlainL s.heap a its.toArray ∧ xs.length ≤ sizeLine := by
  rcases h with h | ⟨o, its, n, hk, hc, hd, hs, hz, r⟩
  · obtain ⟨z, its, n, r, e⟩ := h.ok I.hok
    exact ⟨its, r, ⟨_, n, e, rfl, rfl, rfl⟩, z⟩
  · refine ⟨its.toList, r, ⟨o, n, I.kIn a o hk, hc, hd, by simpa using hs⟩, ?_⟩
    have e := r.length
    simp only [Array.length_toList] at e
    omega
theorem Inv.tuple (I : Inv X pins σ H s) (h : SqT X.K H a xs) : ∃ its : List Value, Vals xs its ∧ IsTup s.heap a its.toArray ∧ xs.length ≤ sizeLine := by
  rcases h with h | ⟨o, its, n, hk, hc, hs, hz, r⟩
  · obtain ⟨z, its, r, p⟩ := h.ok I.hok
    exact ⟨its, r, p, z⟩
  · refine ⟨its.toList, r, ⟨o, I.kIn a o hk, hc, n, by simpa using hs⟩, ?_⟩
    have e := r.length
    simp only [Array.length_toList] at e
    omega
theorem Inv.list_inj (I : Inv X pins σ H s) (h : SqL X.K H a xs) (h' : SqL X.K H a ys) : xs = ys := by
  obtain ⟨its, r, ⟨o, n, e, _, _, d⟩, _⟩ := I.list h
  obtain ⟨its', r', ⟨o', n', e', _, _, d'⟩, _⟩ := I.list h'
  rw [e] at e'; cases e'
  rw [d] at d'
  injection d' with d1 _
  have : its = its' := by simpa using congrArg Array.toList d1
  subst this
  exact r.inj r'
theorem Inv.tuple_inj (I : Inv X pins σ H s) (h : SqT X.K H a xs) (h' : SqT X.K H a ys) : xs = ys := by
  obtain ⟨its, r, ⟨o, e, _, n, d⟩, _⟩ := I.tuple h
  obtain ⟨its', r', ⟨o', e', _, n', d'⟩, _⟩ := I.tuple h'
  rw [e] at e'; cases e'
  rw [d] at d'
  injection d' with d1 _
  have : its = its' := by simpa using congrArg Array.toList d1
  subst this
  exact r.inj r'
end
noncomputable abbrev Cx.wish (X : Cx) (E : Value → Shared → Prop) : Cx := { X with xe := E }
noncomputable abbrev Cx.nox (X : Cx) : Cx := X.wish fun _ _ => False
theorem Cx.Ok.wish {X : Cx} (ok : X.Ok) (E : Value → Shared → Prop) : (X.wish E).Ok :=
  ⟨ok.mod, ok.kind, ok.glob, ok.blt, ok.above, ok.inj, ok.has, ok.cab, ok.hd, ok.frames, ok.stk, ok.exf, ok.bs, ok.bsz, ok.noex, ok.exfs, ok.funs, ok.frf⟩
theorem Cx.Ok.unwish {X : Cx} {E : Value → Shared → Prop} (ok : (X.wish E).Ok) : X.Ok :=
  ⟨ok.mod, ok.kind, ok.glob, ok.blt, ok.above, ok.inj, ok.has, ok.cab, ok.hd, ok.frames, ok.stk, ok.exf, ok.bs, ok.bsz, ok.noex, ok.exfs, ok.funs, ok.frf⟩
section
variable {X : Cx} {pins : List (Addr × Obj)} {σ : St} {H : Hp} {s : Shared} {E : Value → Shared → Prop}
theorem Inv.wish (I : Inv X pins σ H s) (E : Value → Shared → Prop) : Inv (X.wish E) pins σ H s := ⟨I.ok.wish E, I.os, I.bare, I.base, I.loc, I.cell, I.free, I.freeC, I.pin, I.hok, I.len⟩
theorem Inv.unwish (I : Inv (X.wish E) pins σ H s) : Inv X pins σ H s := ⟨I.ok.unwish, I.os, I.bare, I.base, I.loc, I.cell, I.free, I.freeC, I.pin, I.hok, I.len⟩
theorem SP.unwish {D : Ends} {f : Flow} {s' : Shared} (h : SP (X.wish E) pins D f s') : SP X pins D f s' := by
  cases f with
  | next => obtain ⟨σ', H', I, q⟩ := h; exact ⟨σ', H', I.unwish, q⟩
  | brk => obtain ⟨σ', H', I, q⟩ := h; exact ⟨σ', H', I.unwish, q⟩
  | cont => obtain ⟨σ', H', I, q⟩ := h; exact ⟨σ', H', I.unwish, q⟩
  | ret u => obtain ⟨v, σ', H', I, r, q⟩ := h; exact ⟨v, σ', H', I.unwish, r, q⟩
theorem PSs.nox {st : List Stmt} {t : TS} (h : PSs X.nox st t) : PSs X st t := fun pins s σ H D I hw =>
  wpAny_mono (h pins s σ H D (I.wish _) hw) (fun _ _ q => q.unwish) fun _ _ z => False.elim z
end
section
variable {X : Cx} {st : Stmt} {rest : List Stmt} {t u : TS} {e : Expr} {te : TE} {pos : Pos}
noncomputable def tNext : TS := fun D σ H => D.nx σ H
noncomputable def tSeq (t u : TS) : TS := fun D σ H => t { D with nx := u D } σ H
theorem pss_nil : PSs X [] tNext := fun _ _ σ H _ I h => wpAny_execs_nil ⟨σ, H, I, h⟩
theorem pss_cons (h1 : PS X st t) (h2 : PSs X rest u) : PSs X (st :: rest) (tSeq t u) := by
  intro pins s σ H D I h
  refine wpAny_execs_cons (thn (h1 pins s σ H { D with nx := u D } I h) fun f s1 q => ?_)
  cases f with
  | next =>
    obtain ⟨σ', H', I', q⟩ := q
    exact h2 pins s1 σ' H' D I' q
  | ret v => exact q
  | brk => exact q
  | cont => exact q
theorem pss_one (h1 : PS X st t) : PSs X [st] t := by
  intro pins s σ H D I h
  refine wpAny_execs_cons (thn (h1 pins s σ H D I h) fun f s1 q => ?_)
  cases f with
  | next => exact wpAny_execs_nil q
  | ret v => exact q
  | brk => exact q
  | cont => exact q
theorem Inv.quiet {pins : List (Addr × Obj)} {σ : St} {H : Hp} {s : Shared} (I : Inv X pins σ H s) : interactive X.env = false := by simp [interactive, I.ok.kind]
noncomputable def tDrop (te : TE) : TS := fun D σ H => te σ H fun _ H1 => D.nx σ H1
theorem ps_expr (he : PE X e te) (hs : swapsWith e none pos.line X.env = pure false := by rfl) : PS X (.Expr e pos) (tDrop te) := by
  intro pins s σ H D I h
  exact wpAny_Expr_any (thn (he pins s σ H _ I h) fun v s1 ⟨x, H1, I1, r1, q1⟩ => ⟨σ, H1, I1, q1⟩) I.quiet hs
noncomputable def tRet (te : TE) : TS := fun D σ H => te σ H D.rt
theorem ps_ret (he : PE X e te) : PS X (.Return (some e) pos) (tRet te) := by
  intro pins s σ H D I h
  exact wpAny_Return_some (thn (he pins s σ H _ I h) fun v s1 ⟨x, H1, I1, r1, q1⟩ => ⟨x, σ, H1, I1, r1, q1⟩)
noncomputable def tIfS (c : TT) (t u : TS) : TS := fun D σ H => c σ H fun b H1 => if b = true then t D σ H1 else u D σ H1
theorem ps_if {c : Expr} {a b : List Stmt} {tc : TT} (hc : PT X c tc) (ha : PSs X a t) (hb : PSs X b u) : PS X (.If c a b pos) (tIfS tc t u) := by
  intro pins s σ H D I h
  refine wpAny_If (thn (hc pins s σ H _ I h) fun d s1 zz => ?_)
  obtain ⟨H1, I1, q1⟩ := zz
  cases d with
  | true => exact ha pins s1 σ H1 D I1 q1
  | false => exact hb pins s1 σ H1 D I1 q1
noncomputable def tNever : TS := fun _ _ _ => False
theorem ps_never : PS X st tNever := fun _ _ _ _ _ _ h => h.elim
theorem pss_never {sts : List Stmt} : PSs X sts tNever := fun _ _ _ _ _ _ h => h.elim
end
noncomputable abbrev TG := V → St → Hp → (St → Hp → Prop) → Prop
noncomputable abbrev TGs := List V → St → Hp → (St → Hp → Prop) → Prop
noncomputable def PG (X : Cx) (target : Expr) (t : TG) : Prop :=
  ∀ (pins : List (Addr × Obj)) (s : Shared) (σ : St) (H : Hp) (v : V) (u : Value) (Q : St → Hp → Prop), Inv X pins σ H s → RelV v u → t v σ H Q →
    wpAny (model X.prog X.w) X.A (assign target X.env u) (fun _ s' => ∃ σ' H', Inv X pins σ' H' s' ∧ Q σ' H') X.xe s
noncomputable def PGs (X : Cx) (ts : List Expr) (t : TGs) : Prop :=
  ∀ (pins : List (Addr × Obj)) (s : Shared) (σ : St) (H : Hp) (vs : List V) (us : List Value) (Q : St → Hp → Prop), Inv X pins σ H s → Vals vs us → t vs σ H Q →
    wpAny (model X.prog X.w) X.A (assignInOrder ((assignEach ts X.env).map (·.2)) us) (fun _ s' => ∃ σ' H', Inv X pins σ' H' s' ∧ Q σ' H') X.xe s
noncomputable abbrev TSet := V → V → V → Hp → (Hp → Prop) → Prop
noncomputable def PSet (X : Cx) (t : TSet) : Prop :=
  ∀ (pins : List (Addr × Obj)) (s : Shared) (σ : St) (H : Hp) (o i v : V) (ov iv u : Value) (Q : Hp → Prop), Inv X pins σ H s → RelV o ov → RelV i iv → RelV v u → t o i v H Q →
    wpAny (model X.prog X.w) X.A (setItem ov iv u) (fun _ s' => ∃ H', Inv X pins σ H' s' ∧ Q H') X.xe s
section
variable {X : Cx} {pos : Pos}
noncomputable def gName (i : Nat) : TG := fun v σ H Q => Q (σ.set i (some v)) H
theorem pg_name {i : Nat} {x : Str} (hN : X.N.Nodup) (hi : X.N[i]? = some x) (hx : Loc X.env.scope x) (hf : X.fn x = true ∨ X.env.scope.names.lookup x = some .local := by first | exact .inl rfl | exact .inr rfl | assumption) : PG X (.Name x pos) (gName i) := by
  intro pins s σ H v u Q I r h
  exact wpAny_assign_Name (store_ok I hN hi hx r (fun s' I' => ⟨_, H, I', h⟩) hf)
noncomputable def gNil : TGs := fun vs σ H Q => vs = [] ∧ Q σ H
noncomputable def gCons (t : TG) (u : TGs) : TGs := fun vs σ H Q => ∃ v r, vs = v :: r ∧ t v σ H fun σ' H' => u r σ' H' Q
theorem pgs_nil : PGs X [] gNil := by
  intro pins s σ H vs us Q I r h
  obtain ⟨e, h⟩ := h
  subst e
  cases r
  exact assignInOrder_nil ⟨σ, H, I, h⟩
theorem pgs_cons {e : Expr} {es : List Expr} {t : TG} {u : TGs} (h1 : PG X e t) (h2 : PGs X es u)
    (hs : (assignEach (e :: es) X.env).map (·.2) = assign e X.env :: (assignEach es X.env).map (·.2) := by rfl) : PGs X (e :: es) (gCons t u) := by
  intro pins s σ H vs us Q I r h
  obtain ⟨v, vr, e1, h⟩ := h
  subst e1
  cases r with
  | cons r rr =>
    rw [hs]
    refine assignInOrder_cons (thn (h1 pins s σ H _ _ _ I r h) fun _ s1 zz => ?_)
    obtain ⟨σ1, H1, I1, q1⟩ := zz
    exact h2 pins s1 σ1 H1 _ _ Q I1 rr q1
noncomputable def gTup (K : PySem.W.Frag) (n : Nat) (t : TGs) : TG := fun v σ H Q => ∃ a xs, v = .ref a ∧ SqT K H a xs ∧ xs.length = n ∧ t xs σ H Q
theorem pg_tup {es : List Expr} {k : Nat} {t : TGs} {n : Nat} (hc : X.calm = true) (h : PGs X es t)
    (hn : (assignEach es X.env).length = n := by rfl) (hst : (assignEach es X.env).findIdx? (·.1) = none := by rfl) : PG X (.Tuple es k pos) (gTup X.K n t) := by
  intro pins s σ H v u Q I r hw
  obtain ⟨a, xs, e1, hq, hl, hw⟩ := hw
  subst e1
  cases r
  obtain ⟨its, rv, ht, hz⟩ := I.tuple hq
  refine assign_Tuple_tuple (I.ok.hd hc) ht (by simp [hn, ← hl, rv.length]) hst fun h' hx => ?_
  have I1 : Inv X pins σ H { s with heap := h' } := I.kept (t' := s.toks) fun b o e => hx b o (Nat.ne_of_lt (Heap.lt_size e)) e
  exact h pins _ σ H xs _ Q I1 (by simpa using rv) hw
noncomputable def gSub (to ti : TE) (t : TSet) : TG := fun v σ H Q => to σ H fun o H1 => ti σ H1 fun i H2 => t o i v H2 fun H3 => Q σ H3
theorem pg_sub {o i : Expr} {to ti : TE} {t : TSet} (ho : PE X o to) (hi : PE X i ti) (hs : PSet X t)
    (ha : ∀ v, assign (.Subscript o i pos) X.env v = (do
      let ov ← holding [v] (eval o X.env)
      let iv ← holding [v, ov] (eval i X.env)
      standAt pos
      holding [v, ov, iv] (setItem ov iv v)
      release [v, ov, iv] []) := by intro _; rfl) : PG X (.Subscript o i pos) (gSub to ti t) := by
  intro pins s σ H v u Q I r h
  rw [ha]
  refine wpAny_bind (wpAny_holding (thn (ho pins s σ H _ I h) fun ov s1 zz => ?_))
  obtain ⟨x, H1, I1, r1, q1⟩ := zz
  refine wpAny_bind (wpAny_holding (thn (hi pins s1 σ H1 _ I1 q1) fun iv s2 zz => ?_))
  obtain ⟨y, H2, I2, r2, q2⟩ := zz
  refine wpAny_bind (wpAny_standAt (wpAny_bind (wpAny_holding (thn (hs pins s2 σ H2 x y v ov iv u _ I2 r1 r2 r q2) fun _ s3 zz => ?_))))
  obtain ⟨H3, I3, q3⟩ := zz
  exact wpAny_release ⟨σ, H3, I3, q3⟩
noncomputable def tAsg (te : TE) (g : TG) : TS := fun D σ H => te σ H fun x H1 => g x σ H1 D.nx
theorem ps_asg {tg e : Expr} {te : TE} {g : TG} (he : PE X e te) (hg : PG X tg g) (hs : swapsWithSole [tg] e pos.line X.env = pure false := by rfl) (hw : swappedStores [tg] e X.env = pure none := by rfl)
    (h1 : (assignEach [tg] X.env).map (·.2) = [assign tg X.env] := by rfl) : PS X (.Assign [tg] e pos) (tAsg te g) := by
  intro pins s σ H D I h
  refine wpAny_Assign_stores (thn (he pins s σ H _ I h) fun v s1 ⟨x, H1, I1, r1, q1⟩ => ?_) hs hw
  rw [h1]
  exact thn (hg pins s1 σ H1 x v _ I1 r1 q1) fun _ s2 q => q
theorem ps_set {i : Nat} {x : Str} {e : Expr} {te : TE} {pos' : Pos} (hN : X.N.Nodup) (hi : X.N[i]? = some x) (hx : Loc X.env.scope x) (he : PE X e te) (hs : swapsWith e (some (.Name x pos')) pos.line X.env = pure false := by rfl) (hf : X.fn x = true ∨ X.env.scope.names.lookup x = some .local := by first | exact .inl rfl | exact .inr rfl | assumption) :
    PS X (.Assign [.Name x pos'] e pos) (tAsg te (gName i)) := by
  intro pins s σ H D I h
  refine wpAny_Assign_Name (thn (he pins s σ H _ I h) fun v s1 ⟨y, H1, I1, r1, q1⟩ => ?_) hs
  exact store_ok I1 hN hi hx r1 (fun s2 I2 => ⟨_, H1, I2, q1⟩) hf
noncomputable def tPar (i j : Nat) (ta : TA) : TS := fun D σ H => ta σ H fun vs H1 => ∃ v w, vs = [v, w] ∧ D.nx ((σ.set i (some v)).set j (some w)) H1
theorem ps_par {i j : Nat} {x y : Str} {a b : Expr} {ta : TA} {px py pt : Pos} {kt k2 pt2} (hc : X.calm = true) (hN : X.N.Nodup) (hi : X.N[i]? = some x) (hj : X.N[j]? = some y) (hij : i ≠ j)
    (hx : X.env.scope.names.lookup x = some .local) (hy : X.env.scope.names.lookup y = some .local) (ha : PA X [a, b] ta)
    (hw : swappedStores [.Tuple [.Name x px, .Name y py] kt pt] (.Tuple [a, b] k2 pt2) X.env = pure (some [x, y]))
    (hs : swapsWithSole [.Tuple [.Name x px, .Name y py] kt pt] (.Tuple [a, b] k2 pt2) pos.line X.env = pure false := by rfl) :
    PS X (.Assign [.Tuple [.Name x px, .Name y py] kt pt] (.Tuple [a, b] k2 pt2) pos) (tPar i j ta) := by
  intro pins s σ H D I h
  rw [exec_Assign_arm]
  refine wpAny_bind (wpAny_standAt ?_)
  rw [hs]
  refine wpAny_bind (wpAny_pure ?_)
  rw [if_neg (by decide)]
  refine wpAny_bind (Tuple_ (thn (ha _ pins s σ H _ I h) fun us s1 zz => ?_))
  obtain ⟨vs, H1, I1, r1, q1⟩ := zz
  obtain ⟨v, w, e1, q1⟩ := q1
  subst e1
  obtain ⟨u1, u2, rfl, rv, rw'⟩ : ∃ u1 u2, us = [u1, u2] ∧ RelV v u1 ∧ RelV w u2 := by
    cases r1 with
    | cons p q =>
      cases q with
      | cons p' q' =>
        cases q'
        exact ⟨_, _, rfl, p, p'⟩
  refine wpAny_newObj_type ?_ (by show 2 ≤ sizeLine; decide)
  have I2 : Inv X pins σ H1 { s1 with heap := s1.heap.push { cls := .type "tuple", data := .seq [u1, u2].toArray } } := I1.kept (t' := s1.toks) fun b o e => Heap.get?_push_of_some _ e
  rw [hw]
  refine wpAny_bind (wpAny_pure ?_)
  show wpAny (model X.prog X.w) X.A (do rule "assign.swapped-stores"; let items ← unpackItems (.ref s1.heap.objs.size) 2 none; assignInOrder [fun v => bindName X.env y v, fun v => bindName X.env x v] items.reverse; pure Flow.next) _ _ _
  refine wpAny_bind (wpAny_rule (wpAny_bind (unpackItems_tuple (items := #[u1, u2]) (I.ok.hd hc) (IsTup.new s1.heap _) fun h' hx' => ?_)))
  have I3 := I2.kept (h' := h') (t' := s1.toks) fun b o e => hx' b o (Nat.ne_of_lt (Heap.lt_size e)) e
  show wpAny _ _ (assignInOrder [fun v => bindName X.env y v, fun v => bindName X.env x v] [u2, u1] >>= fun _ => pure Flow.next) _ _ _
  refine wpAny_bind (assignInOrder_cons (wpAny_bindName (store_ok I3 hN hj (.inl hy) rw' (fun s2 I4 => ?_) (.inr hy))))
  refine assignInOrder_cons (wpAny_bindName (store_ok I4 hN hi (.inl hx) rv (fun s3 I5 => assignInOrder_nil (wpAny_pure ?_)) (.inr hx)))
  rw [List.set_comm _ _ (Ne.symm hij)] at I5
  exact ⟨_, H1, I5, q1⟩
end
section
variable {X : Cx} {pos : Pos}
noncomputable def tWhile (c : TT) (tb : TS) : TS := fun D σ H => ∃ W : Nat → St → Hp → Prop, (∃ m, W m σ H) ∧ ∀ m σ H, W m σ H →
  c σ H fun b H1 => if b = true then ∃ N : St → Hp → Prop, (∀ σ' H', N σ' H' → ∃ m', m' < m ∧ W m' σ' H') ∧ tb { D with nx := N, ct := N, bk := D.nx } σ H1 else D.nx σ H1
theorem ps_while {c : Expr} {body : List Stmt} {tc : TT} {tb : TS} (hp : PassesOwn (model X.prog X.w) X.A X.env X.xe) (hc : PT X c tc) (hb : PSs X body tb) : PS X (.While c body [] pos) (tWhile tc tb) := by
  intro pins s σ H D I h
  obtain ⟨W, ⟨m0, w0⟩, turn⟩ := h
  refine wpAny_While (codeAny_whileLoop (fun n s' => ∃ σ' H', Inv X pins σ' H' s' ∧ W n σ' H') ?_ m0 ⟨σ, H, I, w0⟩)
  rintro n s1 ⟨σ1, H1, I1, w1⟩
  refine wpAny_passesOwn hp (thn (hc pins s1 σ1 H1 _ I1 (turn n σ1 H1 w1)) fun b s2 zz => ?_)
  obtain ⟨H2, I2, q2⟩ := zz
  cases b with
  | true =>
    obtain ⟨N, hN, q2⟩ := q2
    rw [if_pos rfl]
    refine wpAny_passesOwn hp (thn (hb pins s2 σ1 H2 _ I2 q2) fun f s3 q3 => ?_)
    cases f with
    | next =>
      obtain ⟨σ3, H3, I3, n3⟩ := q3
      obtain ⟨m', hm, w3⟩ := hN σ3 H3 n3
      exact ⟨m', hm, σ3, H3, I3, w3⟩
    | cont =>
      obtain ⟨σ3, H3, I3, n3⟩ := q3
      obtain ⟨m', hm, w3⟩ := hN σ3 H3 n3
      exact ⟨m', hm, σ3, H3, I3, w3⟩
    | brk => exact q3
    | ret v => exact q3
  | false =>
    rw [if_neg Bool.false_ne_true]
    exact wpAny_execs_nil ⟨σ1, H2, I2, q2⟩
end
structure It where
  go : Nat → Hp → Prop
  yld : Nat → Hp → V → Hp → Prop
  stop : Nat → Hp → Prop
noncomputable def FpOk (X : Cx) (pins : List (Addr × Obj)) (H : Hp) (b : Addr) : Prop :=
  H b = none ∧ b ≠ X.env.locals ∧ b ∉ X.fs ∧ (b ∈ X.ex ∨ X.s₀.heap.objs.size ≤ b) ∧ (∀ x c, X.env.cells.lookup x = some c → c ≠ b) ∧ ∀ p ∈ X.pn ++ pins, p.1 ≠ b
theorem Inv.fpOk {X : Cx} {pins : List (Addr × Obj)} {σ : St} {H H' : Hp} {s : Shared} {b : Addr} (I : Inv X pins σ H s) (hb : s.heap.objs.size ≤ b) (hn : H' b = none) : FpOk X pins H' b := by
  refine ⟨hn, Nat.ne_of_gt (Nat.lt_of_lt_of_le I.lt hb), I.nofs hb, .inr (Nat.le_trans I.sz hb), fun x c e z => ?_, fun p hp z => ?_⟩
  · obtain ⟨v, q⟩ := I.cell x c e
    exact absurd (Nat.lt_of_lt_of_le q.lt (by rw [z]; exact hb)) (Nat.lt_irrefl _)
  · exact absurd (Nat.lt_of_lt_of_le (Heap.lt_size (I.pin p hp).1) (by rw [z]; exact hb)) (Nat.lt_irrefl _)
structure Turn (P : Program) (w : World) (K : PySem.W.Frag) (tg : Expr) (J : It) (fp : List Addr) (it : Addr) (tn : Nat → Heap → Prop) : Prop where
  mem : it ∈ fp
  obj : ∀ i h, tn i h → ∀ b ∈ fp, ∃ o, h.get? b = some o ∧ ∀ v, o.data ≠ .cell v
  keep : ∀ i h h', tn i h → (∀ b ∈ fp, ∀ o, h.get? b = some o → h'.get? b = some o) → tn i h'
  item : ∀ (X : Cx), X.prog = P → X.w = w → X.K = K → X.calm = true → ∀ (i : Nat) (pins : List (Addr × Obj)) (s : Shared) (σ : St) (H : Hp) (E : Value → Shared → Prop), Inv X pins σ H s → (∀ b ∈ fp, FpOk X pins H b) → tn i s.heap → J.go i H →
    wpAny (model P w) X.A (pyNext (.ref it)) (fun r s1 => ∃ u, r = some u ∧
      wpAny (model P w) X.A (letOwnedTupleGo tg (.ref it) u) (fun _ s2 => ∃ x H', Inv X pins σ H' s2 ∧ RelV x u ∧ J.yld i H x H' ∧ tn (i + 1) s2.heap ∧ ∀ b ∈ fp, H' b = none) E s1) E s
  done : ∀ (X : Cx), X.prog = P → X.w = w → X.K = K → X.calm = true → ∀ (i : Nat) (pins : List (Addr × Obj)) (s : Shared) (σ : St) (H : Hp) (E : Value → Shared → Prop), Inv X pins σ H s → (∀ b ∈ fp, FpOk X pins H b) → tn i s.heap → J.stop i H →
    wpAny (model P w) X.A (pyNext (.ref it)) (fun r s1 => r = none ∧ Inv X pins σ H s1) E s
  self : ∀ (A : Around) (i : Nat) (s : Shared) (Q : Value → Shared → Prop) (E : Value → Shared → Prop), tn i s.heap → Q (.ref it) s → wpAny (model P w) A (pyIter (.ref it)) Q E s
noncomputable abbrev TI := St → Hp → (It → Hp → Prop) → Prop
noncomputable def PIE (X : Cx) (pins : List (Addr × Obj)) (σ : St) (tg : Expr) (R : It → Hp → Prop) (itv : Value) (s2 : Shared) : Prop :=
  ∃ (it : Addr) (fp : List Addr) (tn : Nat → Heap → Prop) (J : It) (H' : Hp), itv = .ref it ∧ Inv X pins σ H' s2 ∧ Turn X.prog X.w X.K tg J fp it tn ∧ tn 0 s2.heap ∧ (∀ b ∈ fp, FpOk X pins H' b) ∧ R J H'
noncomputable def PI (X : Cx) (tg iter : Expr) (wi : TI) : Prop :=
  ∀ (pins : List (Addr × Obj)) (s : Shared) (σ : St) (H : Hp) (R : It → Hp → Prop), Inv X pins σ H s → wi σ H R →
    wpAny (model X.prog X.w) X.A (eval iter X.env) (fun v s1 => wpAny (model X.prog X.w) X.A (pyIter v) (PIE X pins σ tg R) X.xe s1) X.xe s
theorem go_of {M : Model} {A : Around} {E : Value → Shared → Prop} {s : Shared} {tg : Expr} {it : Addr} {u : Value} {o : Obj} {n : String} {vs : Array Value} {Q : Unit → Shared → Prop} (ho : s.heap.get? it = some o) (hc : o.cls = .type n) (hd : o.data = .fields vs)
    (hn : ["enumerate", "zip", "dict_itemiterator", "dict_reverseitemiterator", "odict_iterator", "itertools.zip_longest", "itertools.pairwise"].contains n = false) (hQ : Q () s) : wpAny M A (letOwnedTupleGo tg (.ref it) u) Q E s := by
  unfold letOwnedTupleGo
  cases tg <;> first
    | exact wpAny_pure hQ
    | (cases u <;> first
        | exact wpAny_pure hQ
        | (refine wpAny_bind (wpAny_load ho ?_)
           rw [hc, hd]
           show wpAny M A (if (["enumerate", "zip", "dict_itemiterator", "dict_reverseitemiterator", "odict_iterator", "itertools.zip_longest", "itertools.pairwise"].contains n && vs[0]? == some (rawInt _)) = true then _ else _) Q E s
           rw [if_neg (by intro h; rw [hn, Bool.false_and] at h; cases h)]
           exact wpAny_pure hQ))
noncomputable def Itl (K : PySem.W.Frag) (a : Addr) : It :=
  ⟨fun i H => ∃ xs x, SqL K H a xs ∧ xs[i]? = some x, fun i H x H' => H' = H ∧ ∀ xs, SqL K H a xs → xs[i]? = some x, fun i H => ∃ xs, SqL K H a xs ∧ xs.length ≤ i⟩
noncomputable def Itt (K : PySem.W.Frag) (a : Addr) : It :=
  ⟨fun i H => ∃ xs x, SqT K H a xs ∧ xs[i]? = some x, fun i H x H' => H' = H ∧ ∀ xs, SqT K H a xs → xs[i]? = some x, fun i H => ∃ xs, SqT K H a xs ∧ xs.length ≤ i⟩
noncomputable def Itr (lo : Int) (n : Nat) : It := ⟨fun i _ => i < n, fun i H x H' => H' = H ∧ x = .int (lo + i), fun i _ => n ≤ i⟩
theorem turn_list {P : Program} {w : World} {K : PySem.W.Frag} {tg : Expr} (a it : Addr) : Turn P w K tg (Itl K a) [it] it (fun i h => h.IsListIter it a i) where
  mem := by simp
  obj := fun i h st b hb => by
    have e : b = it := by simpa using hb
    subst e
    obtain ⟨o, e, c, d⟩ := st
    exact ⟨o, e, fun v z => by rw [d] at z; cases z⟩
  keep := fun i h h' st k => st.at fun o e => k it (by simp) o e
  item := by
    intro X hP hw hK hc i pins s σ H E I hf st hg
    subst hP hw hK
    obtain ⟨xs, x, hq, hx⟩ := hg
    obtain ⟨its, rv, p, hz⟩ := I.list hq
    obtain ⟨u, hu, ru⟩ := rv.get hx
    obtain ⟨f0, f1, f2, f3, f4, f5⟩ := hf it (by simp)
    refine wpAny_pyNext_list_item st p.isList (x := u) (by simpa using hu) fun h' st' sb => ?_
    have I1 : Inv X pins σ H { s with heap := h' } := I.turned (t' := s.toks) (fun b o hb e => (sb.2 b hb).trans e) f0 f1 f3 f4 f5
    obtain ⟨o, e, c, d⟩ := id st'
    exact ⟨u, rfl, go_of (s := { s with heap := h' }) e c d (by decide) ⟨x, H, I1, ru, ⟨rfl, fun ys hy => by rw [I.list_inj hy hq]; exact hx⟩, st', fun b hb => (hf b hb).1⟩⟩
  done := by
    intro X hP hw hK hc i pins s σ H E I hf st hg
    subst hP hw hK
    obtain ⟨xs, hq, hx⟩ := hg
    obtain ⟨its, rv, p, hz⟩ := I.list hq
    obtain ⟨f0, f1, f2, f3, f4, f5⟩ := hf it (by simp)
    have hl := rv.length
    exact wpAny_pyNext_list_end (I.ok.hd hc) st p.isList (by simp; omega) fun h' eb => ⟨rfl, I.turned (t' := s.toks) (fun b o hb e => eb b o hb e) f0 f1 f3 f4 f5⟩
  self := fun _ _ _ _ _ st h => wpAny_pyIter_listiter st h
theorem turn_tuple {P : Program} {w : World} {K : PySem.W.Frag} {tg : Expr} (a it : Addr) : Turn P w K tg (Itt K a) [it] it (fun i h => h.IsTupleIter it a i) where
  mem := by simp
  obj := fun i h st b hb => by
    have e : b = it := by simpa using hb
    subst e
    obtain ⟨o, e, c, d⟩ := st
    exact ⟨o, e, fun v z => by rw [d] at z; cases z⟩
  keep := fun i h h' st k => st.at fun o e => k it (by simp) o e
  item := by
    intro X hP hw hK hc i pins s σ H E I hf st hg
    subst hP hw hK
    obtain ⟨xs, x, hq, hx⟩ := hg
    obtain ⟨its, rv, p, hz⟩ := I.tuple hq
    obtain ⟨u, hu, ru⟩ := rv.get hx
    obtain ⟨f0, f1, f2, f3, f4, f5⟩ := hf it (by simp)
    refine wpAny_pyNext_tuple_item st (show s.heap.IsTuple a its.toArray from p) (x := u) (by simpa using hu) fun h' st' sb => ?_
    have I1 : Inv X pins σ H { s with heap := h' } := I.turned (t' := s.toks) (fun b o hb e => (sb.2 b hb).trans e) f0 f1 f3 f4 f5
    obtain ⟨o, e, c, d⟩ := id st'
    exact ⟨u, rfl, go_of (s := { s with heap := h' }) e c d (by decide) ⟨x, H, I1, ru, ⟨rfl, fun ys hy => by rw [I.tuple_inj hy hq]; exact hx⟩, st', fun b hb => (hf b hb).1⟩⟩
  done := by
    intro X hP hw hK hc i pins s σ H E I hf st hg
    subst hP hw hK
    obtain ⟨xs, hq, hx⟩ := hg
    obtain ⟨its, rv, p, hz⟩ := I.tuple hq
    obtain ⟨f0, f1, f2, f3, f4, f5⟩ := hf it (by simp)
    have hl := rv.length
    exact wpAny_pyNext_tuple_end (I.ok.hd hc) st (show s.heap.IsTuple a its.toArray from p) (by simp; omega) fun h' eb => ⟨rfl, I.turned (t' := s.toks) (fun b o hb e => eb b o hb e) f0 f1 f3 f4 f5⟩
  self := fun _ _ _ _ _ st h => wpAny_pyIter_tupleiter st h
theorem turn_range {P : Program} {w : World} {K : PySem.W.Frag} {tg : Expr} (it : Addr) (lo : Int) (n : Nat) : Turn P w K tg (Itr lo n) [it] it (fun i h => IsRangeIter h it (lo + (i : Nat) * 1) ((n : Int) - (i : Nat)) 1) where
  mem := by simp
  obj := fun i h st b hb => by
    have e : b = it := by simpa using hb
    subst e
    exact ⟨_, st, fun v z => by
      have z' : Data.fields _ = Data.cell v := z
      cases z'⟩
  keep := fun i h h' st k => k it (by simp) _ st
  item := by
    intro X hP hw hK hc i pins s σ H E I hf st hg
    subst hP hw hK
    obtain ⟨f0, f1, f2, f3, f4, f5⟩ := hf it (by simp)
    have W := Walks.range (prog := X.prog) (w := X.w) (I.ok.hd hc) it lo 1 n
    refine W.item i s _ _ hg st fun v h' tk hv st' kk => ?_
    obtain ⟨t, rfl⟩ := hv
    have I1 : Inv X pins σ H { s with heap := h', toks := tk } := I.turned (fun b o hb e => kk b o (by simpa using hb) e) f0 f1 f3 f4 f5
    refine ⟨_, rfl, go_of (s := { s with heap := h', toks := tk }) (n := "range_iterator") st' rfl rfl (by decide) ⟨.int (lo + i), H, I1, ⟨t, ?_⟩, ⟨rfl, rfl⟩, st', fun b hb => (hf b hb).1⟩⟩
    rw [Int.mul_one]
  done := by
    intro X hP hw hK hc i pins s σ H E I hf st hg
    subst hP hw hK
    obtain ⟨f0, f1, f2, f3, f4, f5⟩ := hf it (by simp)
    exact wpAny_pyNext_range_end (I.ok.hd hc) st (by have : n ≤ i := hg; omega) fun h' eb => ⟨rfl, I.turned (t' := s.toks) (fun b o hb e => eb b o hb e) f0 f1 f3 f4 f5⟩
  self := fun _ _ _ _ _ st h => wpAny_pyIter_rangeiter st h
end L2
namespace L2
open PySem PySem.Spec PyProof.Rows
section
variable {X : Cx} {tg : Expr}
noncomputable def iList (K : PySem.W.Frag) (tl : TE) : TI := fun σ H R => tl σ H fun x H1 => ∃ a, x = .ref a ∧ (∃ xs, SqL K H1 a xs) ∧ R (Itl K a) H1
noncomputable def iTup (K : PySem.W.Frag) (tl : TE) : TI := fun σ H R => tl σ H fun x H1 => ∃ a, x = .ref a ∧ (∃ xs, SqT K H1 a xs) ∧ R (Itt K a) H1
theorem pi_list {l : Expr} {tl : TE} (hl : PE X l tl) : PI X tg l (iList X.K tl) := by
  intro pins s σ H R I h
  refine thn (hl pins s σ H _ I h) fun v s1 zz => ?_
  obtain ⟨x, H1, I1, r1, q1⟩ := zz
  obtain ⟨a, e, ⟨xs, hq⟩, q⟩ := q1
  subst e
  cases r1
  obtain ⟨its, rv, p, hz⟩ := I1.list hq
  refine wpAny_pyIter_list p.isList ?_
  refine ⟨s1.heap.objs.size, [s1.heap.objs.size], _, _, H1, rfl, I1.kept (t' := s1.toks) fun b o e => Heap.get?_push_of_some _ e, turn_list a _, ⟨_, Heap.get?_push_size _ rfl, rfl, rfl⟩, fun b hb => ?_, q⟩
  have e : b = s1.heap.objs.size := by simpa using hb
  subst e
  exact I1.fpOk (Nat.le_refl _) (I1.hok.fresh (Nat.le_refl _))
theorem pi_tup {l : Expr} {tl : TE} (hl : PE X l tl) : PI X tg l (iTup X.K tl) := by
  intro pins s σ H R I h
  refine thn (hl pins s σ H _ I h) fun v s1 zz => ?_
  obtain ⟨x, H1, I1, r1, q1⟩ := zz
  obtain ⟨a, e, ⟨xs, hq⟩, q⟩ := q1
  subst e
  cases r1
  obtain ⟨its, rv, p, hz⟩ := I1.tuple hq
  refine wpAny_pyIter_tuple (show s1.heap.IsTuple a its.toArray from p) ?_
  refine ⟨s1.heap.objs.size, [s1.heap.objs.size], _, _, H1, rfl, I1.kept (t' := s1.toks) fun b o e => Heap.get?_push_of_some _ e, turn_tuple a _, ⟨_, Heap.get?_push_size _ rfl, rfl, rfl⟩, fun b hb => ?_, q⟩
  have e : b = s1.heap.objs.size := by simpa using hb
  subst e
  exact I1.fpOk (Nat.le_refl _) (I1.hok.fresh (Nat.le_refl _))
theorem range_it {pins : List (Addr × Obj)} {σ : St} {H : Hp} {s : Shared} {R : It → Hp → Prop} {E : Value → Shared → Prop} {lo hi : Int} {t u v : Tok} {tk : Nat} (I : Inv X pins σ H s) (h1 : -(2 ^ 62) ≤ lo) (h2 : lo < 2 ^ 62) (h3 : -(2 ^ 62) ≤ hi) (h4 : hi < 2 ^ 62)
    (q : R (Itr lo (hi - lo).toNat) H) : wpAny (model X.prog X.w) X.A (pyIter (.ref s.heap.objs.size)) (PIE X pins σ tg R) E { s with heap := s.heap.push { cls := .type "range", data := .fields #[.int lo t, .int hi u, .int 1 v] }, toks := tk } := by
  refine wpAny_pyIter_range (IsRange.new ..) (small_one h1 h2 h3 h4) ?_
  have I1 : Inv X pins σ H { s with heap := s.heap.push { cls := .type "range", data := .fields #[.int lo t, .int hi u, .int 1 v] }, toks := tk } := I.kept fun b o e => Heap.get?_push_of_some _ e
  refine ⟨(s.heap.push { cls := .type "range", data := .fields #[.int lo t, .int hi u, .int 1 v] }).objs.size, [(s.heap.push { cls := .type "range", data := .fields #[.int lo t, .int hi u, .int 1 v] }).objs.size], _, _, H, rfl,
    I1.kept (t' := tk) fun b o e => Heap.get?_push_of_some _ e, turn_range _ lo (hi - lo).toNat, ?_, fun b hb => ?_, q⟩
  · have e1 : lo + ((0 : Nat) : Int) * 1 = lo := by simp
    have e2 : (((hi - lo).toNat : Nat) : Int) - ((0 : Nat) : Int) = Builtin.Range.rangeSize lo hi 1 := by rw [rangeSize_one]; split <;> omega
    show IsRangeIter _ _ (lo + ((0 : Nat) : Int) * 1) ((((hi - lo).toNat : Nat) : Int) - ((0 : Nat) : Int)) 1
    rw [e1, e2]
    exact Heap.get?_push_size _ rfl
  · have e : b = (s.heap.push { cls := .type "range", data := .fields #[.int lo t, .int hi u, .int 1 v] }).objs.size := by simpa using hb
    subst e
    exact I1.fpOk (Nat.le_refl _) (I1.hok.fresh (Nat.le_refl _))
noncomputable def iRng1 (ta : TA) : TI := fun σ H R => ta σ H fun vs H1 => ∃ j : Int, vs = [.int j] ∧ -(2 ^ 62) ≤ j ∧ j < 2 ^ 62 ∧ R (Itr 0 j.toNat) H1
noncomputable def iRng2 (ta : TA) : TI := fun σ H R => ta σ H fun vs H1 => ∃ i j : Int, vs = [.int i, .int j] ∧ (-(2 ^ 62) ≤ i ∧ i < 2 ^ 62 ∧ -(2 ^ 62) ≤ j ∧ j < 2 ^ 62) ∧ R (Itr i (j - i).toNat) H1
theorem pi_range1 {a : Expr} {ta : TA} {p pos : Pos} (hg : Gl X "range") (hm : X.mg "range" = none) (ha : PA X [a] ta) (hs : starEach [a] X.env = [(false, eval a X.env)] := by rfl) : PI X tg (.Call (.Name "range" p) [a] [] pos) (iRng1 ta) := by
  intro pins s σ H R I h
  refine Call_ (ld_blt I hg hm boot_range (PyProof.Rows.callWith_type1 (thn (ha pos pins s σ H _ I h) fun us s1 ⟨vs, H1, I1, r1, q1⟩ => ?_) hs rfl))
  obtain ⟨j, e, q1, q2, q⟩ := q1
  subst e
  cases r1 with
  | cons r rr =>
    cases rr
    obtain ⟨t, rfl⟩ := r
    exact call_range_1 (range_it I1 (by omega) (by omega) q1 q2 (by simpa using q))
theorem pi_range2 {a b : Expr} {ta : TA} {p pos : Pos} (hg : Gl X "range") (hm : X.mg "range" = none) (ha : PA X [a, b] ta) (hs : starEach [a, b] X.env = [(false, eval a X.env), (false, eval b X.env)] := by rfl) (hs2 : starEach [b] X.env = [(false, eval b X.env)] := by rfl) :
    PI X tg (.Call (.Name "range" p) [a, b] [] pos) (iRng2 ta) := by
  intro pins s σ H R I h
  refine Call_ (ld_blt I hg hm boot_range (PyProof.Rows.callWith_type1 (thn (ha pos pins s σ H _ I h) fun us s1 ⟨vs, H1, I1, r1, q1⟩ => ?_) (by rw [hs, hs2]) (by rw [hs2]; rfl)))
  obtain ⟨i, j, e, ⟨q1, q2, q3, q4⟩, q⟩ := q1
  subst e
  cases r1 with
  | cons r rr =>
    cases rr with
    | cons r' rr =>
      cases rr
      obtain ⟨t, rfl⟩ := r
      obtain ⟨t', rfl⟩ := r'
      exact call_range_2 (range_it I1 q1 q2 q3 q4 q)
noncomputable def tFor (wi : TI) (g : TG) (tb : TS) : TS := fun D σ H => wi σ H fun J H1 => ∃ W : Nat → Nat → St → Hp → Prop, (∃ m, W 0 m σ H1) ∧ ∀ i m σ H, W i m σ H →
  (J.stop i H ∧ D.nx σ H) ∨ (J.go i H ∧ ∃ N : St → Hp → Prop, (∀ σ' H', N σ' H' → ∃ m', m' < m ∧ W (i + 1) m' σ' H') ∧ ∀ x H', J.yld i H x H' → g x σ H' fun σ2 H2 => tb { D with nx := N, ct := N, bk := D.nx } σ2 H2)
noncomputable def pinsAt (fp : List Addr) (h : Heap) : List (Addr × Obj) := fp.filterMap fun b => (h.get? b).map fun o => (b, o)
theorem mem_pinsAt {fp : List Addr} {h : Heap} {b : Addr} {o : Obj} (hb : b ∈ fp) (e : h.get? b = some o) : (b, o) ∈ pinsAt fp h := List.mem_filterMap.mpr ⟨b, hb, by rw [e]; rfl⟩
theorem of_pinsAt {fp : List Addr} {h : Heap} {p : Addr × Obj} (hp : p ∈ pinsAt fp h) : p.1 ∈ fp ∧ h.get? p.1 = some p.2 := by
  obtain ⟨b, hb, e⟩ := List.mem_filterMap.mp hp
  cases q : h.get? b with
  | none => rw [q] at e; cases e
  | some o =>
    rw [q] at e
    have e' : (b, o) = p := Option.some.inj e
    subst e'
    exact ⟨hb, q⟩
theorem Inv.pinned {pins : List (Addr × Obj)} {σ : St} {H : Hp} {s : Shared} {fp : List Addr} (I : Inv X pins σ H s) (hf : ∀ b ∈ fp, FpOk X pins H b) (ho : ∀ b ∈ fp, ∃ o, s.heap.get? b = some o ∧ ∀ v, o.data ≠ .cell v) : Inv X (pins ++ pinsAt fp s.heap) σ H s :=
  I.pins_of fun p hp => (List.mem_append.mp hp).elim (fun z => I.pin p (List.mem_append_right _ z)) fun z => by
    obtain ⟨hb, e⟩ := of_pinsAt z
    obtain ⟨f0, f1, f2, _⟩ := hf p.1 hb
    obtain ⟨o, e', d⟩ := ho p.1 hb
    rw [e] at e'; cases e'
    exact ⟨e, f0, f1, f2, d⟩
theorem Inv.unpinned {pins pl : List (Addr × Obj)} {σ : St} {H : Hp} {s : Shared} (I : Inv X (pins ++ pl) σ H s) : Inv X pins σ H s := I.pins_of fun p hp => I.pin p (List.mem_append_right _ (List.mem_append_left _ hp))
theorem ps_for {iter : Expr} {body : List Stmt} {wi : TI} {g : TG} {tb : TS} {pos : Pos} (hp : PassesOwn (model X.prog X.w) X.A X.env X.xe) (hc : X.calm = true) (hi : PI X tg iter wi) (hg : PG X tg g) (hb : PSs X body tb)
    (hs : ∀ x, foldedSetIterable iter X.env x = pure x := by intro _; rfl) : PS X (.For tg iter body [] pos) (tFor wi g tb) := by
  intro pins s σ H D I h
  refine wpAny_For (thn (hi pins s σ H _ I h) fun v s1 h1 => thn h1 fun itv s2 h2 => ?_) hs
  obtain ⟨it, fp, tn, J, H2, e, I2, T, st2, f2, W, ⟨m0, w0⟩, turn⟩ := h2
  subst e
  have stat : ∀ {H' : Hp}, (∀ b ∈ fp, H' b = none) → ∀ b ∈ fp, FpOk X pins H' b := fun hn b hb => ⟨hn b hb, (f2 b hb).2⟩
  refine codeAny_forLoop_any (fun n s' => ∃ i σ' H', Inv X pins σ' H' s' ∧ tn i s'.heap ∧ (∀ b ∈ fp, H' b = none) ∧ W i n σ' H') ?_ m0 ⟨0, σ, H2, I2, st2, fun b hb => (f2 b hb).1, w0⟩
  rintro n s3 ⟨i, σ3, H3, I3, st3, fr3, w3⟩
  rcases turn i n σ3 H3 w3 with ⟨stop, qn⟩ | ⟨go, N, hN, step⟩
  · refine wpAny_passesOwn hp (thn (T.done X rfl rfl rfl hc i pins s3 σ3 H3 X.xe I3 (stat fr3) st3 stop) fun r s4 zz => ?_)
    obtain ⟨hr, I4⟩ := zz
    subst hr
    exact wpAny_execs_nil ⟨σ3, H3, I4, qn⟩
  · refine wpAny_passesOwn hp (thn (T.item X rfl rfl rfl hc i pins s3 σ3 H3 X.xe I3 (stat fr3) st3 go) fun r s4 zz => ?_)
    obtain ⟨u, hr, h4⟩ := zz
    subst hr
    refine wpAny_passesOwn hp (thn h4 fun _ s5 zz => ?_)
    obtain ⟨x, H5, I5, r5, y5, st5, fr5⟩ := zz
    have I5' := I5.pinned (stat fr5) (T.obj _ _ st5)
    refine wpAny_passesOwn hp (thn (hg _ s5 σ3 H5 x u _ I5' r5 (step x H5 y5)) fun _ s6 zz => ?_)
    obtain ⟨σ6, H6, I6, q6⟩ := zz
    refine wpAny_passesOwn hp (thn (hb _ s6 σ6 H6 _ I6 q6) fun f s7 q7 => ?_)
    have again : ∀ {σ7 : St} {H7 : Hp}, Inv X (pins ++ pinsAt fp s5.heap) σ7 H7 s7 → N σ7 H7 → ∃ m, m < n ∧ ∃ i σ' H', Inv X pins σ' H' s7 ∧ tn i s7.heap ∧ (∀ b ∈ fp, H' b = none) ∧ W i m σ' H' := fun {σ7 H7} I7 n7 => by
      obtain ⟨m', hm, w7⟩ := hN σ7 H7 n7
      refine ⟨m', hm, i + 1, σ7, H7, I7.unpinned, T.keep _ _ _ st5 fun b hb o e => (I7.pin (b, o) (List.mem_append_right _ (List.mem_append_right _ (mem_pinsAt hb e)))).1, fun b hb => ?_, w7⟩
      obtain ⟨o, e, d⟩ := T.obj _ _ st5 b hb
      exact (I7.pin (b, o) (List.mem_append_right _ (List.mem_append_right _ (mem_pinsAt hb e)))).2.1
    cases f with
    | next => obtain ⟨σ7, H7, I7, n7⟩ := q7; exact again I7 n7
    | cont => obtain ⟨σ7, H7, I7, n7⟩ := q7; exact again I7 n7
    | brk => obtain ⟨σ7, H7, I7, q7⟩ := q7; exact ⟨σ7, H7, I7.unpinned, q7⟩
    | ret v => obtain ⟨x7, σ7, H7, I7, r7, q7⟩ := q7; exact ⟨x7, σ7, H7, I7.unpinned, r7, q7⟩
end
theorem for_list {K : PySem.W.Frag} {a : Addr} {xs : List V} {g : TG} {tb : TS} {D : Ends} {σ : St} {H : Hp} (Pv : Nat → St → Hp → Prop) (h0 : Pv 0 σ H) (hl : ∀ i σ H, i ≤ xs.length → Pv i σ H → SqL K H a xs)
    (hs : ∀ i x σ H, xs[i]? = some x → Pv i σ H → g x σ H fun σ2 H2 => tb { D with nx := Pv (i + 1), ct := Pv (i + 1), bk := D.nx } σ2 H2) (hd : ∀ σ H, Pv xs.length σ H → D.nx σ H) :
    ∃ W : Nat → Nat → St → Hp → Prop, (∃ m, W 0 m σ H) ∧ ∀ i m σ H, W i m σ H →
      ((Itl K a).stop i H ∧ D.nx σ H) ∨ ((Itl K a).go i H ∧ ∃ N : St → Hp → Prop, (∀ σ' H', N σ' H' → ∃ m', m' < m ∧ W (i + 1) m' σ' H') ∧ ∀ x H', (Itl K a).yld i H x H' → g x σ H' fun σ2 H2 => tb { D with nx := N, ct := N, bk := D.nx } σ2 H2) := by
  refine ⟨fun i m σ H => m = xs.length - i ∧ i ≤ xs.length ∧ Pv i σ H, ⟨xs.length, by simp, Nat.zero_le _, h0⟩, ?_⟩
  rintro i m σ H ⟨rfl, hi, p⟩
  have q := hl i σ H hi p
  by_cases hlt : i < xs.length
  · refine .inr ⟨⟨xs, xs[i], q, by simp [hlt]⟩, Pv (i + 1), fun σ' H' p' => ⟨xs.length - (i + 1), by omega, rfl, hlt, p'⟩, fun x H' y => ?_⟩
    obtain ⟨e, y⟩ := y
    subst e
    exact hs i x σ _ (y xs q) p
  · have e : i = xs.length := by omega
    subst e
    exact .inl ⟨⟨xs, q, Nat.le_refl _⟩, hd σ H p⟩
theorem for_range {lo : Int} {n : Nat} {g : TG} {tb : TS} {D : Ends} {σ : St} {H : Hp} (Pv : Nat → St → Hp → Prop) (h0 : Pv 0 σ H)
    (hs : ∀ i σ H, i < n → Pv i σ H → g (.int (lo + i)) σ H fun σ2 H2 => tb { D with nx := Pv (i + 1), ct := Pv (i + 1), bk := D.nx } σ2 H2) (hd : ∀ σ H, Pv n σ H → D.nx σ H) :
    ∃ W : Nat → Nat → St → Hp → Prop, (∃ m, W 0 m σ H) ∧ ∀ i m σ H, W i m σ H →
      ((Itr lo n).stop i H ∧ D.nx σ H) ∨ ((Itr lo n).go i H ∧ ∃ N : St → Hp → Prop, (∀ σ' H', N σ' H' → ∃ m', m' < m ∧ W (i + 1) m' σ' H') ∧ ∀ x H', (Itr lo n).yld i H x H' → g x σ H' fun σ2 H2 => tb { D with nx := N, ct := N, bk := D.nx } σ2 H2) := by
  refine ⟨fun i m σ H => m = n - i ∧ i ≤ n ∧ Pv i σ H, ⟨n, by simp, Nat.zero_le _, h0⟩, ?_⟩
  rintro i m σ H ⟨rfl, hi, p⟩
  by_cases hlt : i < n
  · refine .inr ⟨hlt, Pv (i + 1), fun σ' H' p' => ⟨n - (i + 1), by omega, rfl, hlt, p'⟩, fun x H' y => ?_⟩
    obtain ⟨e, y⟩ := y
    subst e y
    exact hs i σ _ hlt p
  · have e : i = n := by omega
    subst e
    exact .inl ⟨Nat.le_refl _, hd σ H p⟩
end L2
namespace L2
open PySem PySem.Spec PyProof.Rows
noncomputable abbrev R2 := V → V → Hp → VK → Prop
noncomputable def OpR (X : Cx) (f : Value → Value → Sem Value) (r : R2) : Prop :=
  ∀ (pins : List (Addr × Obj)) (s : Shared) (σ : St) (H : Hp) (x y : V) (v u : Value) (Q : VK), Inv X pins σ H s → RelV x v → RelV y u → r x y H Q →
    wpAny (model X.prog X.w) X.A (f v u) (EP X pins σ Q) X.xe s
noncomputable def UnR (X : Cx) (f : Value → Sem Value) (r : V → Hp → VK → Prop) : Prop :=
  ∀ (pins : List (Addr × Obj)) (s : Shared) (σ : St) (H : Hp) (x : V) (v : Value) (Q : VK), Inv X pins σ H s → RelV x v → r x H Q →
    wpAny (model X.prog X.w) X.A (f v) (EP X pins σ Q) X.xe s
noncomputable def CallR (X : Cx) (f : Value) (r : List V → Hp → VK → Prop) : Prop :=
  ∀ (pins : List (Addr × Obj)) (s : Shared) (σ : St) (H : Hp) (xs : List V) (us : List Value) (Q : VK), Inv X pins σ H s → Vals xs us → r xs H Q →
    wpAny (model X.prog X.w) X.A (call f us) (EP X pins σ Q) X.xe s
noncomputable def tOp (r : R2) (ta tb : TE) : TE := fun σ H Q => ta σ H fun x H1 => tb σ H1 fun y H2 => r x y H2 Q
noncomputable def tUn (r : V → Hp → VK → Prop) (ta : TE) : TE := fun σ H Q => ta σ H fun x H1 => r x H1 Q
noncomputable def rI (C : Int → Int → Prop) (g : Int → Int → V) : R2 := fun x y H Q => ∃ i j, x = .int i ∧ y = .int j ∧ C i j ∧ Q (g i j) H
noncomputable def rI0 (g : Int → Int → V) : R2 := fun x y H Q => ∃ i j, x = .int i ∧ y = .int j ∧ Q (g i j) H
noncomputable def rU (g : Int → V) : V → Hp → VK → Prop := fun x H Q => ∃ i, x = .int i ∧ Q (g i) H
section
variable {X : Cx} {a b c : Expr} {ta tb tc : TE} {pos : Pos}
theorem binT (ha : PE X a ta) (hb : PE X b tb) {pins : List (Addr × Obj)} {s : Shared} {σ : St} {H : Hp} {R : V → V → Hp → Prop} (I : Inv X pins σ H s)
    (h : ta σ H fun x H1 => tb σ H1 fun y H2 => R x y H2) {Q : Value → Shared → Prop} {f : Value → Value → Sem Value}
    (hf : ∀ v u s2 x y H2, Inv X pins σ H2 s2 → RelV x v → RelV y u → R x y H2 → wpAny (model X.prog X.w) X.A (f v u) Q X.xe s2) :
    wpAny (model X.prog X.w) X.A (eval a X.env) (fun v s₁ => wpAny (model X.prog X.w) X.A (eval b X.env) (fun u s₂ => wpAny (model X.prog X.w) X.A (f v u) Q X.xe s₂) X.xe s₁) X.xe s := by
  refine thn (ha pins s σ H _ I h) fun v s1 zz => ?_
  obtain ⟨x, H1, I1, r1, q1⟩ := zz
  refine thn (hb pins s1 σ H1 _ I1 q1) fun u s2 zz => ?_
  obtain ⟨y, H2, I2, r2, q2⟩ := zz
  exact hf v u s2 x y H2 I2 r1 r2 q2
theorem pe_op {op : Operator} {r : R2} (ho : OpR X (binaryOp op) r) (ha : PE X a ta) (hb : PE X b tb) : PE X (.BinOp a op b pos) (tOp r ta tb) := by
  intro pins s σ H Q I h
  exact wpAny_BinOp (binT ha hb I h fun v u s2 x y H2 I2 rx ry q => ho pins s2 σ H2 x y v u Q I2 rx ry q)
theorem pe_un {op : UnaryOp} {r : V → Hp → VK → Prop} (ho : UnR X (unaryOp op) r) (ha : PE X a ta) : PE X (.UnaryOp op a pos) (tUn r ta) := by
  intro pins s σ H Q I h
  exact UnaryOp_ (thn (ha pins s σ H _ I h) fun v s1 ⟨x, H1, I1, r1, q1⟩ => ho pins s1 σ H1 x v Q I1 r1 q1)
theorem opI {f : Value → Value → Sem Value} {C : Int → Int → Prop} {g : Int → Int → Int}
    (rule : ∀ (i j : Int) (t u : Tok) (s : Shared) (Q : Value → Shared → Prop) (E : Value → Shared → Prop), C i j → Q (.int (g i j) s.toks) { s with toks := s.toks + 1 } → wpAny (model X.prog X.w) X.A (f (.int i t) (.int j u)) Q E s) :
    OpR X f (rI C fun i j => .int (g i j)) := by
  intro pins s σ H x y v u Q I rx ry h
  obtain ⟨i, j, rfl, rfl, hc, q⟩ := h
  obtain ⟨t, rfl⟩ := rx
  obtain ⟨t', rfl⟩ := ry
  exact rule i j t t' s _ _ hc ⟨.int (g i j), H, I.tok _, ⟨_, rfl⟩, q⟩
theorem opI0 {f : Value → Value → Sem Value} {g : Int → Int → Int}
    (rule : ∀ (i j : Int) (t u : Tok) (s : Shared) (Q : Value → Shared → Prop) (E : Value → Shared → Prop), Q (.int (g i j) s.toks) { s with toks := s.toks + 1 } → wpAny (model X.prog X.w) X.A (f (.int i t) (.int j u)) Q E s) :
    OpR X f (rI0 fun i j => .int (g i j)) := by
  intro pins s σ H x y v u Q I rx ry h
  obtain ⟨i, j, rfl, rfl, q⟩ := h
  obtain ⟨t, rfl⟩ := rx
  obtain ⟨t', rfl⟩ := ry
  exact rule i j t t' s _ _ ⟨.int (g i j), H, I.tok _, ⟨_, rfl⟩, q⟩
theorem opB0 {f : Value → Value → Sem Value} {g : Int → Int → Bool}
    (rule : ∀ (i j : Int) (t u : Tok) (s : Shared) (Q : Value → Shared → Prop) (E : Value → Shared → Prop), Q (.bool (g i j)) s → wpAny (model X.prog X.w) X.A (f (.int i t) (.int j u)) Q E s) :
    OpR X f (rI0 fun i j => .bl (g i j)) := by
  intro pins s σ H x y v u Q I rx ry h
  obtain ⟨i, j, rfl, rfl, q⟩ := h
  obtain ⟨t, rfl⟩ := rx
  obtain ⟨t', rfl⟩ := ry
  exact rule i j t t' s _ _ ⟨.bl (g i j), H, I, rfl, q⟩
noncomputable def CPow (i j : Int) : Prop := 0 ≤ j ∧ j ≤ 1000000 ∧ i.natAbs < 2 ^ 64
theorem op_add : OpR X (binaryOp .Add) (rI0 fun i j => .int (i + j)) := opI0 fun _ _ _ _ _ _ _ q => add_int q
theorem op_sub : OpR X (binaryOp .Sub) (rI0 fun i j => .int (i - j)) := opI0 fun _ _ _ _ _ _ _ q => sub_int q
theorem op_mod : OpR X (binaryOp .Mod) (rI (fun _ j => 0 < j) fun i j => .int (i % j)) := opI fun i j _ _ _ _ _ hc q => by
  have h1 : (0 : Int) < j := hc
  exact mod_int' (by omega) (by rw [Int.fmod_eq_emod_of_nonneg i (by omega)]; exact q)
theorem op_pow : OpR X (binaryOp .Pow) (rI CPow fun i j => .int (i ^ j.toNat)) := opI fun _ _ _ _ _ _ _ hc q => pow_int_small hc.1 hc.2.1 hc.2.2 q
theorem unI {f : Value → Sem Value} {g : Int → Int}
    (rule : ∀ (i : Int) (t : Tok) (s : Shared) (Q : Value → Shared → Prop) (E : Value → Shared → Prop), Q (.int (g i) s.toks) { s with toks := s.toks + 1 } → wpAny (model X.prog X.w) X.A (f (.int i t)) Q E s) :
    UnR X f (rU fun i => .int (g i)) := by
  intro pins s σ H x v Q I rx h
  obtain ⟨i, rfl, q⟩ := h
  obtain ⟨t, rfl⟩ := rx
  exact rule i t s _ _ ⟨.int (g i), H, I.tok _, ⟨_, rfl⟩, q⟩
theorem un_neg : UnR X (unaryOp .USub) (rU fun i => .int (-i)) := unI fun _ _ _ _ _ q => neg_int q
end
noncomputable def scal : V → V → Bool
  | .non, .non => true | .non, .int _ => true | .int _, .non => true | .non, .bl _ => true | .bl _, .non => true | .non, .str _ => true | .str _, .non => true
  | .int _, .int _ => true | .bl _, .bl _ => true | .str _, .str _ => true | .byt _, .byt _ => true
  | .int _, .str _ => true | .str _, .int _ => true | .bl _, .str _ => true | .str _, .bl _ => true
  | _, _ => false
noncomputable def rEq : R2 := fun x y H Q => scal x y = true ∧ Q (.bl (decide (x = y))) H
noncomputable def rNe : R2 := fun x y H Q => scal x y = true ∧ Q (.bl (!decide (x = y))) H
theorem dec_int {i j : Int} : decide (V.int i = V.int j) = (i == j) := by
  rw [Bool.eq_iff_iff]
  simp
theorem dec_bl {i j : Bool} : decide (V.bl i = V.bl j) = (i == j) := by
  rw [Bool.eq_iff_iff]
  simp
theorem dec_str {i j : Str} : decide (V.str i = V.str j) = (i == j) := by
  rw [Bool.eq_iff_iff]
  simp
theorem dec_byt {i j : Array UInt8} : decide (V.byt i = V.byt j) = (i.toList == j.toList) := by
  rw [Bool.eq_iff_iff]
  cases i
  cases j
  simp
section
variable {X : Cx} {a b c : Expr} {ta tb tc : TE} {pos : Pos}
theorem fin_bl {pins : List (Addr × Obj)} {σ : St} {H : Hp} {s : Shared} {Q : VK} {k k' : Bool} (I : Inv X pins σ H s) (q : Q (.bl k) H) (e : k = k') : EP X pins σ Q (.bool k') s := by
  subst e
  exact ⟨.bl k, H, I, rfl, q⟩
theorem op_eq : OpR X (compareOp .Eq) rEq := by
  intro pins s σ H x y v u Q I rx ry h
  obtain ⟨hs, q⟩ := h
  cases x with
  | non =>
    cases rx
    cases y with
    | non => cases ry; exact PySem.EqNone.eq_none_none (fin_bl I q (by simp))
    | bl j => cases ry; exact PySem.EqNone.eq_none_bool (fin_bl I q (by simp))
    | int j => obtain ⟨t', rfl⟩ := ry; exact PySem.EqNone.eq_none_int (fin_bl I q (by simp))
    | str j => obtain ⟨t', rfl⟩ := ry; exact PySem.EqNone.eq_none_str (fin_bl I q (by simp))
    | _ => exact absurd (show false = true from hs) Bool.false_ne_true
  | bl i =>
    cases rx
    cases y with
    | non => cases ry; exact PySem.EqNone.eq_bool_none (fin_bl I q (by simp))
    | bl j => cases ry; exact eq_bool (fin_bl I q dec_bl)
    | str j => obtain ⟨t', rfl⟩ := ry; exact PySem.EqMixed.eq_bool_str (fin_bl I q (by simp))
    | _ => exact absurd (show false = true from hs) Bool.false_ne_true
  | int i =>
    obtain ⟨t, rfl⟩ := rx
    cases y with
    | non => cases ry; exact PySem.EqNone.eq_int_none (fin_bl I q (by simp))
    | int j => obtain ⟨t', rfl⟩ := ry; exact eq_int (fin_bl I q dec_int)
    | str j => obtain ⟨t', rfl⟩ := ry; exact PySem.EqMixed.eq_int_str (fin_bl I q (by simp))
    | _ => exact absurd (show false = true from hs) Bool.false_ne_true
  | str i =>
    obtain ⟨t, rfl⟩ := rx
    cases y with
    | non => cases ry; exact PySem.EqNone.eq_str_none (fin_bl I q (by simp))
    | bl j => cases ry; exact PySem.EqMixed.eq_str_bool (fin_bl I q (by simp))
    | int j => obtain ⟨t', rfl⟩ := ry; exact PySem.EqMixed.eq_str_int (fin_bl I q (by simp))
    | str j => obtain ⟨t', rfl⟩ := ry; exact eq_str (fin_bl I q dec_str)
    | _ => exact absurd (show false = true from hs) Bool.false_ne_true
  | byt i =>
    obtain ⟨t, rfl⟩ := rx
    cases y with
    | byt j => obtain ⟨t', rfl⟩ := ry; exact PySem.W.eq_bytes (fin_bl I q dec_byt)
    | _ => exact absurd (show false = true from hs) Bool.false_ne_true
  | _ => cases y <;> exact absurd (show false = true from hs) Bool.false_ne_true
theorem op_ne : OpR X (compareOp .NotEq) rNe := by
  intro pins s σ H x y v u Q I rx ry h
  obtain ⟨hs, q⟩ := h
  cases x with
  | non =>
    cases rx
    cases y with
    | non => cases ry; exact PySem.EqNone.ne_none_none (fin_bl I q (by simp))
    | bl j => cases ry; exact PySem.EqNone.ne_none_bool (fin_bl I q (by simp))
    | int j => obtain ⟨t', rfl⟩ := ry; exact PySem.EqNone.ne_none_int (fin_bl I q (by simp))
    | str j => obtain ⟨t', rfl⟩ := ry; exact PySem.EqNone.ne_none_str (fin_bl I q (by simp))
    | _ => exact absurd (show false = true from hs) Bool.false_ne_true
  | bl i =>
    cases rx
    cases y with
    | non => cases ry; exact PySem.EqNone.ne_bool_none (fin_bl I q (by simp))
    | bl j => cases ry; exact ne_bool (fin_bl I q (congrArg not dec_bl))
    | str j => obtain ⟨t', rfl⟩ := ry; exact PySem.EqMixed.ne_bool_str (fin_bl I q (by simp))
    | _ => exact absurd (show false = true from hs) Bool.false_ne_true
  | int i =>
    obtain ⟨t, rfl⟩ := rx
    cases y with
    | non => cases ry; exact PySem.EqNone.ne_int_none (fin_bl I q (by simp))
    | int j => obtain ⟨t', rfl⟩ := ry; exact ne_int (fin_bl I q (congrArg not dec_int))
    | str j => obtain ⟨t', rfl⟩ := ry; exact PySem.EqMixed.ne_int_str (fin_bl I q (by simp))
    | _ => exact absurd (show false = true from hs) Bool.false_ne_true
  | str i =>
    obtain ⟨t, rfl⟩ := rx
    cases y with
    | non => cases ry; exact PySem.EqNone.ne_str_none (fin_bl I q (by simp))
    | bl j => cases ry; exact PySem.EqMixed.ne_str_bool (fin_bl I q (by simp))
    | int j => obtain ⟨t', rfl⟩ := ry; exact PySem.EqMixed.ne_str_int (fin_bl I q (by simp))
    | str j => obtain ⟨t', rfl⟩ := ry; exact ne_str (fin_bl I q (congrArg not dec_str))
    | _ => exact absurd (show false = true from hs) Bool.false_ne_true
  | byt i =>
    obtain ⟨t, rfl⟩ := rx
    cases y with
    | byt j => obtain ⟨t', rfl⟩ := ry; exact PySem.W.ne_bytes (fin_bl I q (congrArg not dec_byt))
    | _ => exact absurd (show false = true from hs) Bool.false_ne_true
  | _ => cases y <;> exact absurd (show false = true from hs) Bool.false_ne_true
theorem op_lt : OpR X (compareOp .Lt) (rI0 fun i j => .bl (decide (i < j))) := opB0 fun _ _ _ _ _ _ _ q => lt_int q
theorem op_le : OpR X (compareOp .LtE) (rI0 fun i j => .bl (decide (i ≤ j))) := opB0 fun _ _ _ _ _ _ _ q => le_int q
theorem op_gt : OpR X (compareOp .Gt) (rI0 fun i j => .bl (decide (j < i))) := opB0 fun _ _ _ _ _ _ _ q => gt_int q
theorem op_ge : OpR X (compareOp .GtE) (rI0 fun i j => .bl (decide (j ≤ i))) := opB0 fun _ _ _ _ _ _ _ q => ge_int q
theorem op_in_str : OpR X (compareOp .In) (fun x y H Q => ∃ i j, x = .str i ∧ y = .str j ∧ Q (.bl (!(Builtin.Str.occurrences j i 0 j.length 1).isEmpty)) H) := by
  intro pins s σ H x y v u Q I rx ry h
  obtain ⟨i, j, rfl, rfl, q⟩ := h
  obtain ⟨t, rfl⟩ := rx
  obtain ⟨t', rfl⟩ := ry
  exact in_str (fin_bl I q rfl)
theorem op_isN : OpR X (compareOp .Is) (fun x y H Q => y = .non ∧ Q (.bl (decide (x = .non))) H) := by
  intro pins s σ H x y v u Q I rx ry h
  obtain ⟨rfl, q⟩ := h
  cases ry
  refine is_none_gen (fin_bl I q ?_)
  cases x <;> first
    | (cases rx; rfl)
    | (obtain ⟨t, rfl⟩ := rx; rfl)
theorem op_notN : OpR X (compareOp .IsNot) (fun x y H Q => y = .non ∧ Q (.bl (!decide (x = .non))) H) := by
  intro pins s σ H x y v u Q I rx ry h
  obtain ⟨rfl, q⟩ := h
  cases ry
  refine isnot_none_gen (fin_bl I q ?_)
  cases x <;> first
    | (cases rx; rfl)
    | (obtain ⟨t, rfl⟩ := rx; rfl)
theorem nomark (b : Expr) {op : CmpOp} (h : op ≠ .In := by decide) (h2 : op ≠ .NotIn := by decide) : behindInMarks op b = false := by
  have e1 : (op == CmpOp.In) = false := by cases op <;> first | rfl | exact absurd rfl h
  have e2 : (op == CmpOp.NotIn) = false := by cases op <;> first | rfl | exact absurd rfl h2
  cases b <;> simp [behindInMarks, e1, e2]
theorem pe_cmpR {op : CmpOp} {r : R2} (ho : OpR X (compareOp op) r) (ha : PE X a ta) (hb : PE X b tb) (hm : behindInMarks op b = false) : PE X (.Compare a [op] [b] pos) (tOp r ta tb) := by
  intro pins s σ H Q I h
  exact wpAny_Compare1 (binT ha hb I h fun v u s2 x y H2 I2 rx ry q => ho pins s2 σ H2 x y v u Q I2 rx ry q) hm
noncomputable def tTest (t : TE) : TT := fun σ H Q => t σ H fun x H' => ∃ k, x = .bl k ∧ Q k H'
theorem pt_cmpR {op : CmpOp} {r : R2} (ho : OpR X (compareOp op) r) (ha : PE X a ta) (hb : PE X b tb) (hm : behindInMarks op b = false) : PT X (.Compare a [op] [b] pos) (tTest (tOp r ta tb)) := by
  intro pins s σ H Q I h
  refine wpAny_isTrue_Compare1 (thn (ha pins s σ H _ I h) fun v s1 ⟨x, H1, I1, r1, q1⟩ => thn (hb pins s1 σ H1 _ I1 q1) fun u s2 ⟨y, H2, I2, r2, q2⟩ =>
    thn (ho pins s2 σ H2 x y v u _ I2 r1 r2 q2) fun c s3 ⟨z, H3, I3, r3, k, e, q3⟩ => ?_) hm
  subst e
  cases r3
  exact wpAny_truthy_bool ⟨H3, I3, q3⟩
noncomputable def tChain (r r' : R2) (ta tb tc : TE) : TE := fun σ H Q => ta σ H fun x H1 => tb σ H1 fun y H2 => r x y H2 fun z H3 => ∃ k, z = .bl k ∧
  (if k = true then tc σ H3 fun w' H4 => r' y w' H4 Q else Q (.bl false) H3)
theorem pe_chain {op op' : CmpOp} {r r' : R2} (ho : OpR X (compareOp op) r) (ho' : OpR X (compareOp op') r') (ha : PE X a ta) (hb : PE X b tb) (hc : PE X c tc)
    (hm : lastMarks [op, op'] [b, c] = false := by with_unfolding_all rfl) : PE X (.Compare a [op, op'] [b, c] pos) (tChain r r' ta tb tc) := by
  intro pins s σ H Q I h
  refine Compare_chain (thn (ha pins s σ H _ I h) fun v s1 ⟨x, H1, I1, r1, q1⟩ => chain_link (thn (hb pins s1 σ H1 _ I1 q1) fun u s2 ⟨y, H2, I2, r2, q2⟩ =>
    thn (ho pins s2 σ H2 x y v u _ I2 r1 r2 q2) fun d s3 ⟨z, H3, I3, r3, k, e, q3⟩ => ?_)) hm
  subst e
  cases r3
  refine wpAny_truthy_bool ?_
  cases k with
  | false => exact ite_ff ⟨.bl false, H3, I3, rfl, q3⟩
  | true => exact ite_tt (chain_last (thn (hc pins s3 σ H3 _ I3 q3) fun w' s4 ⟨z', H4, I4, r4, q4⟩ => ho' pins s4 σ H4 y z' u w' Q I4 r2 r4 q4))
theorem pt_chain {op op' : CmpOp} {r r' : R2} (ho : OpR X (compareOp op) r) (ho' : OpR X (compareOp op') r') (ha : PE X a ta) (hb : PE X b tb) (hc : PE X c tc)
    (hm : lastMarks [op, op'] [b, c] = false := by with_unfolding_all rfl) : PT X (.Compare a [op, op'] [b, c] pos) (tTest (tChain r r' ta tb tc)) := by
  intro pins s σ H Q I h
  refine isTrue_chain (thn (ha pins s σ H _ I h) fun v s1 ⟨x, H1, I1, r1, q1⟩ => test_link (thn (hb pins s1 σ H1 _ I1 q1) fun u s2 ⟨y, H2, I2, r2, q2⟩ =>
    thn (ho pins s2 σ H2 x y v u _ I2 r1 r2 q2) fun d s3 ⟨z, H3, I3, r3, k, e, q3⟩ => ?_)) hm
  subst e
  cases r3
  refine wpAny_truthy_bool ?_
  cases k with
  | false =>
    obtain ⟨k', e', q'⟩ := q3
    cases e'
    exact ite_ff ⟨H3, I3, q'⟩
  | true =>
    refine ite_tt (test_last (thn (hc pins s3 σ H3 _ I3 q3) fun w' s4 ⟨z', H4, I4, r4, q4⟩ => thn (ho' pins s4 σ H4 y z' u w' _ I4 r2 r4 q4) fun d' s5 zz => ?_))
    obtain ⟨z2, H5, I5, r5, k2, e2, q5⟩ := zz
    subst e2
    cases r5
    exact wpAny_truthy_bool ⟨H5, I5, q5⟩
theorem line63 : (sizeLine : Nat) < 2 ^ 63 := by rw [sizeLine_eq]; decide
theorem op_add_str : OpR X (binaryOp .Add) (fun x y H Q => ∃ i j, x = .str i ∧ y = .str j ∧ i.length + j.length ≤ sizeLine ∧ Q (.str (i ++ j)) H) := by
  intro pins s σ H x y v u Q I rx ry h
  obtain ⟨i, j, rfl, rfl, hz, q⟩ := h
  obtain ⟨t, rfl⟩ := rx
  obtain ⟨t', rfl⟩ := ry
  exact add_str (fun t' tk => ⟨.str (i ++ j), H, I.tok _, ⟨_, rfl⟩, q⟩) hz
theorem vals1 {x : V} {us : List Value} (r : Vals [x] us) : ∃ u, us = [u] ∧ RelV x u := by
  cases r with
  | cons r1 r2 => cases r2; exact ⟨_, rfl, r1⟩
theorem vals2 {x y : V} {us : List Value} (r : Vals [x, y] us) : ∃ u w', us = [u, w'] ∧ RelV x u ∧ RelV y w' := by
  cases r with
  | cons r1 r2 =>
    cases r2 with
    | cons r3 r4 => cases r4; exact ⟨_, _, rfl, r1, r3⟩
theorem call_abs : CallR X (.builtin "abs") (fun xs H Q => ∃ i, xs = [.int i] ∧ Q (.int (if i < 0 then -i else i)) H) := by
  intro pins s σ H xs us Q I r h
  obtain ⟨i, rfl, q⟩ := h
  obtain ⟨u, rfl, t, rfl⟩ := vals1 r
  exact call_abs_int fun u tk => ⟨.int (if i < 0 then -i else i), H, I.tok _, ⟨_, rfl⟩, q⟩
theorem call_max2 (hc : X.calm = true) : CallR X (.builtin "max") (fun xs H Q => ∃ i j, xs = [.int i, .int j] ∧ Q (.int (if j > i then j else i)) H) := by
  intro pins s σ H xs us Q I r h
  obtain ⟨i, j, rfl, q⟩ := h
  obtain ⟨u, w', rfl, ⟨t, rfl⟩, ⟨t', rfl⟩⟩ := vals2 r
  refine max_two_ints (I.ok.hd hc) fun h' tk k => ⟨_, H, I.kept k, ?_, q⟩
  by_cases hj : j > i
  · rw [if_pos hj, if_pos hj]; exact ⟨_, rfl⟩
  · rw [if_neg hj, if_neg hj]; exact ⟨_, rfl⟩
theorem call_min2 (hc : X.calm = true) : CallR X (.builtin "min") (fun xs H Q => ∃ i j, xs = [.int i, .int j] ∧ Q (.int (if j < i then j else i)) H) := by
  intro pins s σ H xs us Q I r h
  obtain ⟨i, j, rfl, q⟩ := h
  obtain ⟨u, w', rfl, ⟨t, rfl⟩, ⟨t', rfl⟩⟩ := vals2 r
  refine min_two_ints (I.ok.hd hc) fun h' tk k => ⟨_, H, I.kept k, ?_, q⟩
  by_cases hj : j < i
  · rw [if_pos hj, if_pos hj]; exact ⟨_, rfl⟩
  · rw [if_neg hj, if_neg hj]; exact ⟨_, rfl⟩
theorem call_str_int : CallR X (.type "str") (fun xs H Q => ∃ i, xs = [.int i] ∧ i.natAbs.log2 < 1920 ∧ Q (.str (toString i)) H) := by
  intro pins s σ H xs us Q I r h
  obtain ⟨i, rfl, hz, q⟩ := h
  obtain ⟨u, rfl, t, rfl⟩ := vals1 r
  exact PySem.P.str_of_int hz ⟨.str _, H, I.tok _, ⟨_, rfl⟩, q⟩
noncomputable def LenV (K : PySem.W.Frag) (x : V) (H : Hp) (n : Nat) : Prop :=
  match x with
  | .str y => y.length ≤ sizeLine ∧ n = y.length
  | .byt y => y.size ≤ sizeLine ∧ n = y.size
  | .ref p => (∃ xs, SqL K H p xs ∧ n = xs.length) ∨ ∃ xs, SqT K H p xs ∧ n = xs.length
  | _ => False
theorem call_len : CallR X (.builtin "len") (fun xs H Q => ∃ x n, xs = [x] ∧ LenV X.K x H n ∧ Q (.int n) H) := by
  intro pins s σ H xs us Q I r h
  obtain ⟨x, n, rfl, e, q⟩ := h
  obtain ⟨u, rfl, rx⟩ := vals1 r
  have hl := line63
  have hs : sizeLine = 16777216 := sizeLine_eq
  cases x with
  | str y =>
    obtain ⟨t, rfl⟩ := rx
    obtain ⟨hy, e'⟩ : y.length ≤ sizeLine ∧ n = y.length := e
    subst e'
    exact len_str (by omega) ⟨.int _, H, I.tok _, ⟨_, rfl⟩, q⟩
  | byt y =>
    obtain ⟨t, rfl⟩ := rx
    obtain ⟨hy, e'⟩ : y.size ≤ sizeLine ∧ n = y.size := e
    subst e'
    exact PySem.W.len_bytes (by omega) ⟨.int _, H, I.tok _, ⟨_, rfl⟩, q⟩
  | ref p =>
    cases rx
    have e' : (∃ xs, SqL X.K H p xs ∧ n = xs.length) ∨ ∃ xs, SqT X.K H p xs ∧ n = xs.length := e
    rcases e' with ⟨xs, hx, e'⟩ | ⟨xs, hx, e'⟩
    · subst e'
      obtain ⟨its, r', pl, hz⟩ := I.list hx
      have hlen := r'.length
      exact Calls.call_len_list pl.isList (by simp only [List.size_toArray]; omega) ⟨.int xs.length, H, I.tok _, ⟨_, by simp only [List.size_toArray]; rw [hlen]⟩, q⟩
    · subst e'
      obtain ⟨its, r', pl, hz⟩ := I.tuple hx
      have hlen := r'.length
      exact len_tuple pl (by simp only [List.size_toArray]; omega) ⟨.int xs.length, H, I.tok _, ⟨_, by simp only [List.size_toArray]; rw [hlen]⟩, q⟩
  | _ => exact (show False from e).elim
end
end L2
namespace L2
open PySem PySem.Spec PyProof.Rows
structure ObjM (h : Heap) (x dx C : Addr) (mA : Str → Option Value) : Prop where
  obj : h.get? x = some (PySem.W.instObj C dx)
  ns : h.Ns1 dx mA
  ne : dx ≠ x
theorem lookIn_ns {h : Heap} {dx : Addr} {mA : Str → Option Value} (n : h.Ns1 dx mA) : ∃ od, h.get? dx = some od ∧ ∀ name, PySem.W.lookIn name od = some (mA name) := by
  obtain ⟨o, es, ep, ho, hd, hk, _, hm⟩ := n
  refine ⟨o, ho, fun name => ?_⟩
  have e := hm name
  unfold nsFind findBy at e
  rw [← Array.find?_toList] at e
  unfold PySem.W.lookIn
  rw [hd]
  dsimp only
  split
  · rename_i y q
    rw [q] at e
    exact congrArg some e
  · rename_i q
    rw [q] at e
    have a : es.toList.any (·.refKey) = false := by
      rw [List.any_eq_false]
      intro y hy
      obtain ⟨z, t, hkey⟩ := hk y (Array.mem_toList_iff.mp hy)
      simp [DictEntry.refKey, hkey]
    have a' : ¬ es.toList.any (·.refKey) = true := by rw [a]; exact Bool.false_ne_true
    rw [if_neg a']
    exact congrArg some e
theorem ObjM.look {h : Heap} {x dx C : Addr} {mA : Str → Option Value} (I : ObjM h x dx C mA) : ∃ od, PySem.W.InstAt h x (PySem.W.instObj C dx) C (some od) ∧ ∀ name, PySem.W.lookIn name od = some (mA name) :=
  let ⟨od, ho, hl⟩ := lookIn_ns I.ns
  ⟨od, ⟨I.obj, rfl, rfl, ho⟩, hl⟩
section
variable {prog : Program} {w : World} {A : Around} {E : Value → Shared → Prop} {s : Shared} {K : PySem.W.Frag} {x dx C f : Addr} {mA : Str → Option Value} {name : Str} {v : Value}
theorem get_map {expr : Bool} {Q : Value → Shared → Prop} (X : K.In s.heap) (I : ObjM s.heap x dx C mA) (hg : PySem.W.plainGet K C name = true) (hh : PySem.W.hasDictIn K C = true)
    (ha : PySem.W.findIn K (.ref C) name = some none) (hv : mA name = some v) (hv' : PySem.W.handedIn v = true) (h : Q v { s with toks := s.toks + 1 }) :
    wpAny (model prog w) A (getAttr (.ref x) name expr) Q E s := by
  obtain ⟨od, J, hl⟩ := I.look
  exact PySem.W.get_value X J (PySem.W.plainGet_of hg).1 (PySem.W.findObj_own hh ha rfl (by rw [hl, hv])) hv' h
theorem get_meth {pl : Sem Bool} {Q : Value × List Value → Shared → Prop} (X : K.In s.heap) (I : ObjM s.heap x dx C mA) (hg : PySem.W.plainGet K C name = true)
    (hf : PySem.W.findIn K (.ref C) name = some (some (.ref f))) (ht : PySem.W.isFn K (.ref f) = true) (hv : mA name = none) (h : Q (.ref f, [.ref x]) s) :
    wpAny (model prog w) A (getMethod (.ref x) name pl) Q E s := by
  obtain ⟨od, J, hl⟩ := I.look
  exact PySem.W.method_fn X J (PySem.W.plainGet_of hg).1 (PySem.W.plainGet_of hg).2 hf (beq_iff_eq.mp ht) (by show (PySem.W.lookIn name od).map (·.isSome) = some false; rw [hl, hv]; rfl) h
theorem set_map {ns : List Str} {Q : Unit → Shared → Prop} (X : K.In s.heap) (I : ObjM s.heap x dx C mA)
    (hs : PySem.W.findIn K (.ref C) "__setattr__" = some (some (.builtin "object.__setattr__"))) (hp : PySem.W.plainOver K C = true) (ht : PySem.W.takerIn K C name = some none) (hh : PySem.W.hasDictIn K C = true)
    (hw : PySem.Within mA ns) (hsz : ns.length ≤ sizeLine)
    (h : ∀ h', ObjM h' x dx C (fun y => if y = name then some v else mA y) → Heap.SameBut dx s.heap h' → Q () { s with heap := h', toks := s.toks + 2 }) :
    wpAny (model prog w) A (setAttr (.ref x) name v) Q E s := by
  obtain ⟨od, J, hl⟩ := I.look
  refine PySem.W.set_plain X J hs (PySem.W.osa_open (s := { s with toks := s.toks + 1 }) (r := none) X J hp ht fun b => ?_)
  obtain ⟨cd, hc, hd'⟩ := PySem.W.any_some hh
  have hx : s.heap.get? x = some ⟨.ref C, some dx, .plain, #[]⟩ := I.obj
  refine wpAny_bind (wpAny_pure (wpAny_bind (wpAny_bind (wpAny_loadPart hx (wpAny_bind (PySem.W.Looks.here (s := { s with toks := s.toks + 1 }) (PySem.W.looks_clsIn X hc) ?_))))))
  rw [hd']
  refine wpAny_pure (a := some dx) (wpAny_bind (wpAny_pure (wpAny_bind ?_)))
  refine wpAny_nsSet1 (s := { s with toks := s.toks + 1 }) I.ns fun h' hn2 hs2 => ?_
  obtain ⟨oD, esD, epD, hoD, hdD, hcD⟩ := hn2.count (PySem.Within.cons name v hw)
  refine wpAny_bind (wpAny_lookBehind hoD (by rw [hdD]; exact pastItsLine_dict (Nat.le_trans hcD (by rw [List.length_cons]; omega))) ?_)
  exact wpAny_pure (h _ ⟨(hs2.2 _ (Ne.symm I.ne)).trans I.obj, hn2, I.ne⟩ hs2)
theorem make_map {R : Result → Shared → Prop} {vs : List Value} {kw : List (Str × Value)} (X : K.In s.heap) (hm : PySem.W.makesIn K C = true)
    (hi : PySem.W.findIn K (.ref C) "__init__" = some (some (.ref f))) (hf : PySem.W.typeIn K (.ref f) = some (.type "function"))
    (h : codeAny (model prog w) (A.under (.builtin "type.__call__" ⟨.ref C :: vs, kw⟩)) (.call (.ref f) ⟨.ref (s.heap.objs.size + 1) :: vs, kw⟩) (PySem.W.InitBack (s.heap.objs.size + 1) R)
      { s with heap := (s.heap.push PySem.W.emptyDict).push (PySem.W.instObj C s.heap.objs.size) }) :
    codeAny (model prog w) A (.call (.ref C) ⟨vs, kw⟩) R s := by
  obtain ⟨hh, g, d, t, os⟩ := s
  exact PySem.W.make_core (PySem.W.makes_of X hm) (PySem.W.looks_findIn X hi) (fun self => PySem.W.bind_fn X self hf) (.inl rfl) h
end
noncomputable def putF (f : Str) (v : V) : List (Str × V) → List (Str × V)
  | [] => [(f, v)]
  | (g, x) :: r => if g = f then (g, v) :: r else (g, x) :: putF f v r
theorem lookup_putF (f g : Str) (v : V) : ∀ fs : List (Str × V), (putF f v fs).lookup g = if g = f then some v else fs.lookup g
  | [] => by
    show List.lookup g [(f, v)] = _
    by_cases h : g = f
    · have hb : (g == f) = true := beq_iff_eq.mpr h
      simp only [List.lookup, hb, if_pos h]
    · have hb : (g == f) = false := beq_eq_false_iff_ne.mpr h
      simp only [List.lookup, hb, if_neg h]
  | (k, x) :: r => by
    have ih := lookup_putF f g v r
    rw [show putF f v ((k, x) :: r) = (if k = f then (k, v) :: r else (k, x) :: putF f v r) from rfl]
    by_cases hk : k = f
    · rw [if_pos hk]
      by_cases h : g = k
      · have hb : (g == k) = true := beq_iff_eq.mpr h
        simp only [List.lookup, hb, if_pos (h.trans hk)]
      · have hb : (g == k) = false := beq_eq_false_iff_ne.mpr h
        simp only [List.lookup, hb, if_neg (fun e : g = f => h (e.trans hk.symm))]
    · rw [if_neg hk]
      by_cases h : g = k
      · have hb : (g == k) = true := beq_iff_eq.mpr h
        simp only [List.lookup, hb, if_neg (fun e : g = f => hk (h.symm.trans e))]
      · have hb : (g == k) = false := beq_eq_false_iff_ne.mpr h
        simp only [List.lookup, hb]
        exact ih
theorem keys_putF (f : Str) (v : V) : ∀ fs : List (Str × V), f ∈ (putF f v fs).map (·.1) ∧ ∀ g, g ∈ fs.map (·.1) → g ∈ (putF f v fs).map (·.1)
  | [] => ⟨by simp [putF], fun g h => by simp at h⟩
  | (k, x) :: r => by
    obtain ⟨i1, i2⟩ := keys_putF f v r
    rw [show putF f v ((k, x) :: r) = (if k = f then (k, v) :: r else (k, x) :: putF f v r) from rfl]
    by_cases hk : k = f
    · rw [if_pos hk]
      subst hk
      exact ⟨by simp, fun g h => by simpa using h⟩
    · rw [if_neg hk]
      refine ⟨?_, fun g h => ?_⟩
      · rw [List.map_cons]
        exact List.mem_cons_of_mem _ i1
      · rw [List.map_cons] at h ⊢
        rcases List.mem_cons.mp h with e | e
        · exact List.mem_cons.mpr (.inl e)
        · exact List.mem_cons_of_mem _ (i2 g e)
theorem length_putF (f : Str) (v : V) : ∀ fs : List (Str × V), (putF f v fs).length ≤ fs.length + 1
  | [] => by simp [putF]
  | (k, x) :: r => by
    have ih := length_putF f v r
    rw [show putF f v ((k, x) :: r) = (if k = f then (k, v) :: r else (k, x) :: putF f v r) from rfl]
    by_cases hk : k = f
    · rw [if_pos hk, List.length_cons, List.length_cons]; omega
    · rw [if_neg hk, List.length_cons, List.length_cons]; omega
theorem RelO.some_of {v : V} {o : Option Value} (r : RelO (some v) o) : ∃ u, o = some u ∧ RelV v u := by
  cases o with
  | none => exact (show False from r).elim
  | some u => exact ⟨u, rfl, r⟩
theorem RelO.none_of {o : Option Value} (r : RelO none o) : o = none := by
  cases o with
  | none => rfl
  | some u => exact (show False from r).elim
theorem handed_of {v : V} {u : Value} (r : RelV v u) : PySem.W.handedIn u = true := by
  cases v with
  | non => cases (show u = Value.none from r); rfl
  | bl b => cases (show u = Value.bool b from r); rfl
  | int i => obtain ⟨t, e⟩ := (show ∃ t, u = Value.int i t from r); cases e; rfl
  | str x => obtain ⟨t, e⟩ := (show ∃ t, u = Value.str x t from r); cases e; rfl
  | byt b => obtain ⟨t, e⟩ := (show ∃ t, u = Value.bytes b t from r); cases e; rfl
  | flt b => obtain ⟨t, e⟩ := (show ∃ t, u = Value.float b t from r); cases e; rfl
  | ref a => cases (show u = Value.ref a from r); rfl
  | ty n => cases (show u = Value.type n from r); rfl
section
variable {P : Program} {w : World} {H H' : Hp} {h h' : Heap} {a C dx : Addr} {fs fs' : List (Str × V)}
theorem ins_get (hok : HOk P w H h) (e : H a = some (.ins C dx fs)) : ∃ mA, ObjM h a dx C mA ∧ (∀ f, RelO (fs.lookup f) (mA f)) ∧ PySem.Within mA (fs.map (·.1)) ∧ fs.length ≤ 1000 ∧ H dx = some (.own a) := by
  obtain ⟨d, z, ne, ob, mA, n, r, q⟩ := (show ObjOk P w H h a (.ins C dx fs) from hok a _ e)
  exact ⟨mA, ⟨ob, n, ne⟩, r, q, z, d⟩
end
structure Cls (K : PySem.W.Frag) (C : Addr) : Prop where
  pg : PySem.W.plainGet K C Str.empty = true
  hd : PySem.W.hasDictIn K C = true
  po : PySem.W.plainOver K C = true
  sa : PySem.W.findIn K (.ref C) "__setattr__" = some (some (.builtin "object.__setattr__"))
theorem Cls.get {K : PySem.W.Frag} {C : Addr} (c : Cls K C) (f : Str) : PySem.W.plainGet K C f = true := c.pg
noncomputable def NoAttr (K : PySem.W.Frag) (C : Addr) (f : Str) : Prop := PySem.W.findIn K (.ref C) f = some none
theorem NoAttr.taker {K : PySem.W.Frag} {C : Addr} {f : Str} (n : NoAttr K C f) : PySem.W.takerIn K C f = some none := by
  unfold PySem.W.takerIn
  rw [show PySem.W.findIn K (.ref C) f = some none from n]
  rfl
structure Meth (K : PySem.W.Frag) (C : Addr) (m : Str) (f : Addr) : Prop where
  at_ : PySem.W.findIn K (.ref C) m = some (some (.ref f))
  fn : PySem.W.isFn K (.ref f) = true
  kp : PySem.W.keepIn K (.ref f) = true
section
variable {X : Cx} {pins : List (Addr × Obj)} {σ : St} {H : Hp} {s : Shared} {a C dx : Addr} {fs : List (Str × V)} {f : Str} {v : V} {A : Around} {E : Value → Shared → Prop}
theorem getattr_ok {b : Bool} {Q : Value → Shared → Prop} (I : Inv X pins σ H s) (e : H a = some (.ins C dx fs)) (c : Cls X.K C) (n : NoAttr X.K C f) (l : fs.lookup f = some v)
    (h : ∀ u s', Inv X pins σ H s' → RelV v u → Q u s') : wpAny (model X.prog X.w) A (getAttr (.ref a) f b) Q E s := by
  obtain ⟨mA, O, r, _, _, _⟩ := ins_get I.hok e
  obtain ⟨u, hu, ru⟩ := RelO.some_of (v := v) (o := mA f) (by rw [← l]; exact r f)
  exact get_map I.kIn O (c.get f) c.hd n hu (handed_of ru) (h u _ (I.tok _) ru)
theorem getmeth_ok {m : Str} {g : Addr} {pl : Sem Bool} {Q : Value × List Value → Shared → Prop} (I : Inv X pins σ H s) (e : H a = some (.ins C dx fs)) (c : Cls X.K C) (k : Meth X.K C m g) (l : fs.lookup m = none)
    (h : Q (.ref g, [.ref a]) s) : wpAny (model X.prog X.w) A (getMethod (.ref a) m pl) Q E s := by
  obtain ⟨mA, O, r, _, _, _⟩ := ins_get I.hok e
  have hn : mA m = none := RelO.none_of (by rw [← l]; exact r m)
  exact get_meth I.kIn O (c.get m) k.at_ k.fn hn h
theorem setattr_ok {y : V} {u : Value} {Q : Unit → Shared → Prop} (I : Inv X pins σ H s) (e : H a = some (.ins C dx fs)) (c : Cls X.K C) (n : NoAttr X.K C f) (hl : fs.length < 1000) (ry : RelV y u)
    (h : ∀ s', Inv X pins σ (upd H a (.ins C dx (putF f y fs))) s' → Q () s') : wpAny (model X.prog X.w) A (setAttr (.ref a) f u) Q E s := by
  obtain ⟨mA, O, r, wi, _, ho⟩ := ins_get I.hok e
  have hz : (fs.map (·.1)).length ≤ sizeLine := by rw [List.length_map, sizeLine_eq]; omega
  refine set_map I.kIn O c.sa c.po n.taker c.hd wi hz fun h' O' sb => h _ ?_
  have hd : ∃ o, h'.get? dx = some o := let ⟨o, _, _, e', _⟩ := O'.ns; ⟨o, e'⟩
  refine I.write (x := a) (e := dx) (by rw [e]; exact True.intro) (.inr ho) (fun b q hb z => (sb.2 b hb).trans z) hd ?_
  refine ⟨by rw [upd_ne O.ne]; exact ho, ?_, O.ne, O'.obj, _, O'.ns, fun g => ?_, fun g hg => ?_⟩
  · have := length_putF f y fs; omega
  · show RelO ((putF f y fs).lookup g) (if g = f then some u else mA g)
    rw [lookup_putF]
    by_cases q : g = f
    · rw [if_pos q, if_pos q]; exact ry
    · rw [if_neg q, if_neg q]; exact r g
  · by_cases q : g = f
    · rw [q]; exact (keys_putF f y fs).1
    · refine (keys_putF f y fs).2 g (wi g fun z => hg ?_)
      show (if g = f then some u else mA g) = none
      rw [if_neg q]; exact z
theorem Inv.made (I : Inv X pins σ H s) : Inv X pins σ (upd (upd H s.heap.objs.size (.own (s.heap.objs.size + 1))) (s.heap.objs.size + 1) (.ins C s.heap.objs.size []))
    { s with heap := (s.heap.push PySem.W.emptyDict).push (PySem.W.instObj C s.heap.objs.size) } := by
  have e1 : (s.heap.push PySem.W.emptyDict).get? s.heap.objs.size = some PySem.W.emptyDict := Heap.get?_push_size s.heap rfl
  have e2 : ((s.heap.push PySem.W.emptyDict).push (PySem.W.instObj C s.heap.objs.size)).get? (s.heap.objs.size + 1) = some (PySem.W.instObj C s.heap.objs.size) := by
    have := Heap.get?_push_size (s.heap.push PySem.W.emptyDict) (o := PySem.W.instObj C s.heap.objs.size) rfl
    rwa [Heap.size_push] at this
  have e3 : (s.heap.push PySem.W.emptyDict).Ns s.heap.objs.size (fun _ => none) := ⟨PySem.W.emptyDict, #[], _, e1, rfl, (fun e he => absurd he (by simp)), fun _ => rfl⟩
  have I1 := I.laid (a := s.heap.objs.size) (o := .own (s.heap.objs.size + 1)) (h' := s.heap.push PySem.W.emptyDict) (t' := s.toks) (fun b u q => Heap.get?_push_of_some _ q) (Nat.le_refl _) ⟨_, e1⟩
  refine I1.laid (a := s.heap.objs.size + 1) (o := .ins C s.heap.objs.size []) (t' := s.toks) (fun b u q => Heap.get?_push_of_some _ q) (Nat.le_of_eq (Heap.size_push _ _)) ?_
  have ne : s.heap.objs.size ≠ s.heap.objs.size + 1 := Nat.ne_of_lt (Nat.lt_succ_self _)
  refine ⟨by rw [upd_ne ne, upd_same], Nat.zero_le _, ne, e2, fun _ => none, (Heap.Ns1.of_empty e3).at fun o q => Heap.get?_push_of_some _ q, fun _ => True.intro, fun y hy => absurd rfl hy⟩
theorem attr_of {prog : Program} {w : World} {env : Env} {e : Expr} {f : Str} {pos : Pos} {s : Shared} {Q : Value → Shared → Prop} (hb : attributeBase e f env (eval e env) = eval e env)
    (h : wpAny (model prog w) A (eval e env) (fun o s₁ => wpAny (model prog w) A (getAttr o f true) Q E s₁) E s) : wpAny (model prog w) A (eval (.Attribute e f pos) env) Q E s :=
  Attribute_any_ h (by rw [arm_eval_Attribute, hb])
end
section
variable {X : Cx} {o e value : Expr} {f : Str} {pos pos' tpos : Pos} {ta tv : TE}
end
section
variable {X : Cx} {pins : List (Addr × Obj)} {σ : St} {H : Hp} {s : Shared} {A : Around} {E : Value → Shared → Prop} {Q : Value → Shared → Prop} {c : Value} {b : Bool}
inductive TyOf (K : PySem.W.Frag) (H : Hp) : V → Value → Prop where
  | non : TyOf K H .non (.type "NoneType")
  | bl (x : Bool) : TyOf K H (.bl x) (.type "bool")
  | int (i : Int) : TyOf K H (.int i) (.type "int")
  | str (x : Str) : TyOf K H (.str x) (.type "str")
  | flt (x : UInt64) : TyOf K H (.flt x) (.type "float")
  | lst {a : Addr} {xs : List V} (e : H a = some (.lst xs)) : TyOf K H (.ref a) (.type "list")
  | frz {a : Addr} {o : Obj} {xs : List V} (e : H a = some (.frz o (.lst xs))) : TyOf K H (.ref a) (.type "list")
  | tup {a : Addr} {xs : List V} (e : H a = some (.tup xs)) : TyOf K H (.ref a) (.type "tuple")
  | dK {a : Addr} {kvs : List (Key × V)} (e : H a = some (.dK kvs)) : TyOf K H (.ref a) (.type "dict")
  | dT {a : Addr} {kvs : List (List Key × V)} (e : H a = some (.dT kvs)) : TyOf K H (.ref a) (.type "dict")
  | ins {a C dx : Addr} {fs : List (Str × V)} (e : H a = some (.ins C dx fs)) (cl : Cls K C) (ha : PySem.W.findIn K (.ref C) "__class__" = some (some (.builtin "object.__class__")))
      (hn : PySem.W.specialIn K (.builtin "object.__class__") "__get__" = some (some (.builtin "getset_descriptor.__get__"))) (htk : PySem.W.takesIn K (.builtin "object.__class__") = some true)
      (hm : PySem.W.mroIn K C (.type "object") = some true) : TyOf K H (.ref a) (.ref C)
theorem isinst_ok {x : V} {u t : Value} (I : Inv X pins σ H s) (rx : RelV x u) (ty : TyOf X.K H x t) (e : PySem.W.kitOne X.K t c = some b) (h : ∀ tk, Q (.bool b) { s with toks := tk }) :
    wpAny (model X.prog X.w) A (call (.builtin "isinstance") [u, c]) Q E s := by
  cases ty with
  | non => cases (show u = Value.none from rx); exact PySem.W.kia_one PySem.W.kitx_none I.kIn True.intro e (fun z => nomatch z) h
  | bl y => cases (show u = Value.bool y from rx); exact PySem.W.kia_one PySem.W.kitx_bool I.kIn True.intro e (fun z => nomatch z) h
  | int i => obtain ⟨t, q⟩ := (show ∃ t, u = Value.int i t from rx); cases q; exact PySem.W.kia_one PySem.W.kitx_int I.kIn True.intro e (fun z => nomatch z) h
  | str y => obtain ⟨t, q⟩ := (show ∃ t, u = Value.str y t from rx); cases q; exact PySem.W.kia_one PySem.W.kitx_str I.kIn True.intro e (fun z => nomatch z) h
  | flt y => obtain ⟨t, q⟩ := (show ∃ t, u = Value.float y t from rx); cases q; exact PySem.W.kia_one PySem.W.kitx_float I.kIn True.intro e (fun z => nomatch z) h
  | @lst a xs ea =>
    cases (show u = Value.ref a from rx)
    obtain ⟨_, _, n, _, h1⟩ := (show ObjOk X.prog X.w H s.heap a (.lst xs) from I.hok a _ ea)
    exact PySem.W.kia_one PySem.W.kitx_list I.kIn ⟨_, h1, rfl⟩ e (fun z => nomatch z) h
  | @frz a ob xs ea =>
    cases (show u = Value.ref a from rx)
    obtain ⟨_, _, _, n, _, h1⟩ := (show ObjOk X.prog X.w H s.heap a (.frz ob (.lst xs)) from I.hok a _ ea)
    exact PySem.W.kia_one PySem.W.kitx_list I.kIn ⟨_, h1, rfl⟩ e (fun z => nomatch z) h
  | @tup a xs ea =>
    cases (show u = Value.ref a from rx)
    obtain ⟨_, _, _, p⟩ := (show ObjOk X.prog X.w H s.heap a (.tup xs) from I.hok a _ ea)
    obtain ⟨o, h1, h2, _⟩ := p
    exact PySem.W.kia_one PySem.W.kitx_tuple I.kIn ⟨o, h1, h2⟩ e (fun z => nomatch z) h
  | @dK a kvs ea =>
    cases (show u = Value.ref a from rx)
    obtain ⟨_, _, vs, _, p⟩ := (show ObjOk X.prog X.w H s.heap a (.dK kvs) from I.hok a _ ea)
    obtain ⟨o, es, ep, h1, h2, _⟩ := p
    exact PySem.W.kia_one PySem.W.kitx_dict I.kIn ⟨o, h1, h2.1⟩ e (fun z => nomatch z) h
  | @dT a kvs ea =>
    cases (show u = Value.ref a from rx)
    obtain ⟨_, _, xs, _, o, es, ep, h1, h2, _⟩ := (show ObjOk X.prog X.w H s.heap a (.dT kvs) from I.hok a _ ea)
    exact PySem.W.kia_one PySem.W.kitx_dict I.kIn ⟨o, h1, h2.1⟩ e (fun z => nomatch z) h
  | @ins a C dx fs ea cl ha hn htk hm =>
    cases (show u = Value.ref a from rx)
    obtain ⟨mA, O, _⟩ := ins_get I.hok ea
    obtain ⟨od, J, _⟩ := O.look
    exact PySem.W.kia_one (PySem.W.kitx_own (cl.get _) cl.hd ha hn htk hm) I.kIn J e (fun z => nomatch z) h
end
end L2
namespace L2
open PySem PySem.Spec PyProof.Rows
structure Room (k : Nat) (A : Around) : Prop where
  hd : A.handled = none
  dp : A.depth + 3 * k + 5 < recursionLimit
  un : A.units + 16 * k + 200 < cLine
theorem Room.mono {j k : Nat} {A : Around} (r : Room k A) (h : j ≤ k) : Room j A := ⟨r.hd, by have := r.dp; omega, by have := r.un; omega⟩
theorem Room.deeper {k : Nat} {A : Around} (r : Room (k + 1) A) (env : Env) : Room k (A.deeper env) :=
  ⟨r.hd, by have := r.dp; show A.depth + 1 + 3 * k + 5 < _; omega, by have := r.un; show A.units + 3 + 16 * k + 200 < _; omega⟩
theorem make_depth {A : Around} {C : Addr} {us : List Value} {kw : List (Str × Value)} : (A.under (.builtin "type.__call__" ⟨.ref C :: us, kw⟩)).depth = A.depth + 1 := by
  first | rfl | simp [Around.under, Code.weight, Code.isCreation, Code.isGuard, Code.isCaller, Code.frames, Code.isFrame, guardIds]
theorem make_units {A : Around} {C : Addr} {us : List Value} {kw : List (Str × Value)} : (A.under (.builtin "type.__call__" ⟨.ref C :: us, kw⟩)).units = A.units + 1 := by
  first | rfl | simp [Around.under, Code.cUnits, Code.frames, Code.isFrame]
theorem Room.make {k : Nat} {A : Around} (r : Room (k + 1) A) (C : Addr) (us : List Value) (kw : List (Str × Value)) : Room k (A.under (.builtin "type.__call__" ⟨.ref C :: us, kw⟩)) :=
  ⟨r.hd, by have := r.dp; rw [make_depth]; omega, by have := r.un; rw [make_units]; omega⟩
theorem Room.depth {k : Nat} {A : Around} (r : Room k A) : A.depth < recursionLimit := by have := r.dp; omega
noncomputable def tNil : TA := fun _ H Q => Q [] H
noncomputable def tCons (ta : TE) (tr : TA) : TA := fun σ H Q => ta σ H fun x H1 => tr σ H1 fun xs H2 => Q (x :: xs) H2
section
variable {X : Cx} {e : Expr} {es : List Expr} {te : TE} {t : TA} {pos : Pos}
theorem pa_nil : PA X [] tNil := fun _ _ _ _ H Q I h => Calls.spliced_nil ⟨[], H, I, .nil, h⟩
theorem pa_cons (ha : PE X e te) (hr : PA X es t) (hs : starEach (e :: es) X.env = (false, eval e X.env) :: starEach es X.env := by rfl) : PA X (e :: es) (tCons te t) := by
  intro pos pins s σ H Q I h
  rw [hs]
  show wpAny _ _ (spliced ((false, eval e X.env) :: backTo pos (starEach es X.env))) _ _ s
  refine Calls.spliced_cons (thn (ha pins s σ H _ I h) fun u s1 zz => ?_)
  obtain ⟨x, H1, I1, r1, q1⟩ := zz
  exact thn (hr pos pins s1 σ H1 _ I1 q1) fun us s2 ⟨xs, H2, I2, r2, q2⟩ => ⟨x :: xs, H2, I2, .cons r1 r2, q2⟩
noncomputable def tTup (t : TA) : TE := fun σ H Q => t σ H fun xs H1 => xs.length ≤ sizeLine ∧ ∀ p, H1 p = none → Q (.ref p) (upd H1 p (.tup xs))
noncomputable def tLst (t : TA) : TE := fun σ H Q => t σ H fun xs H1 => xs.length ≤ sizeLine ∧ ∀ p, H1 p = none → Q (.ref p) (upd H1 p (.lst xs))
theorem pe_tup {x1} (h : PA X es t) : PE X (.Tuple es x1 pos) (tTup t) := by
  intro pins s σ H Q I hq
  refine wpAny_Tuple_spliced (thn (h pos pins s σ H _ I hq) fun us s1 ⟨xs, H1, I1, r, z, q⟩ => ⟨by rw [← r.length]; exact z, ?_⟩)
  have hf : H1 s1.heap.objs.size = none := I1.hok.fresh (Nat.le_refl _)
  refine ⟨.ref s1.heap.objs.size, upd H1 s1.heap.objs.size (.tup xs), I1.laid (t' := s1.toks) (fun b u e => Heap.get?_push_of_some _ e) (Nat.le_refl _) ?_, rfl, q _ hf⟩
  exact ⟨z, us, r, ⟨_, Heap.get?_push_size _ rfl, rfl, _, rfl⟩⟩
theorem pe_lst (h : PA X es t) : PE X (.List es pos) (tLst t) := by
  intro pins s σ H Q I hq
  refine wpAny_List_spliced (thn (h pos pins s σ H _ I hq) fun us s1 ⟨xs, H1, I1, r, z, q⟩ => ⟨by rw [← r.length]; exact z, ?_⟩)
  have hf : H1 s1.heap.objs.size = none := I1.hok.fresh (Nat.le_refl _)
  refine ⟨.ref s1.heap.objs.size, upd H1 s1.heap.objs.size (.lst xs), I1.laid (t' := s1.toks) (fun b u e => Heap.get?_push_of_some _ e) (Nat.le_refl _) ?_, rfl, q _ hf⟩
  exact ⟨z, us, 0, r, Heap.get?_push_size _ rfl⟩
end
noncomputable abbrev Sp := List V → Hp → VK → XK → Prop
noncomputable abbrev CXT := List Env → Hp → Shared → XK → Value → Shared → Prop
structure Env0 (P : Program) (w : World) (K : PySem.W.Frag) (mg : Str → Option Value) (base : Heap) (A : Around) (outer : List Env) (s : Shared) (H : Hp) : Prop where
  frames : A.frames = some outer
  mod : Mod K mg base
  bs : ∀ b o, base.get? b = some o → s.heap.get? b = some o ∧ H b = none
  bsz : base.objs.size ≤ s.heap.objs.size
  funs : s.heap.FunFrames base outer
  frf : ∀ b ∈ frs outer, H b = none
  hok : HOk P w H s.heap
  bare : AllBare s.gens
noncomputable def CE (outer : List Env) (P : Program) (w : World) (H : Hp) (s : Shared) (Q : VK) (u : Value) (s' : Shared) : Prop :=
  ∃ v H', s'.os = s.os ∧ AllBare s'.gens ∧ Un (frs outer) [] H H' s.heap s'.heap ∧ HOk P w H' s'.heap ∧ RelV v u ∧ Q v H'
noncomputable def CR (CX : CXT) (outer : List Env) (P : Program) (w : World) (H : Hp) (s : Shared) (Q : VK) (E : XK) (r : Result) (s' : Shared) : Prop :=
  match r with
  | .ok (.ret u) => CE outer P w H s Q u s'
  | .ok _ => False
  | .error e => CX outer H s E e s'
structure FnOk (P : Program) (w : World) (K : PySem.W.Frag) (mg : Str → Option Value) (base : Heap) (CX : CXT) (k : Nat) (f : Addr) (fd : FuncData) (ps : List Str) (sp : Sp) : Prop where
  len : ∀ vs H Q E, sp vs H Q E → vs.length = ps.length
  run : ∀ (A : Around) (outer : List Env) (s : Shared) (H : Hp) (args : Args) (us : List Value) (vs : List V) (Q : VK) (E : XK), Room k A → Env0 P w K mg base A outer s H → BindsTo s fd args (ps.zip us) → Vals vs us → sp vs H Q E →
    codeAny (model P w) A (.call (.ref f) args) (CR CX outer P w H s Q E) s
theorem FnOk.imp {P : Program} {w : World} {K : PySem.W.Frag} {mg : Str → Option Value} {base : Heap} {CX : CXT} {k : Nat} {f : Addr} {fd : FuncData} {ps : List Str} {sp sp' : Sp} (F : FnOk P w K mg base CX k f fd ps sp)
    (h : ∀ vs H Q E, sp' vs H Q E → sp vs H Q E) : FnOk P w K mg base CX k f fd ps sp' :=
  ⟨fun vs H Q E q => F.len vs H Q E (h _ _ _ _ q), fun A outer s H args us vs Q E hr he hb hv hs => F.run A outer s H args us vs Q E hr he hb hv (h _ _ _ _ hs)⟩
theorem Env0.make {P : Program} {w : World} {K : PySem.W.Frag} {mg : Str → Option Value} {base : Heap} {A : Around} {outer : List Env} {s : Shared} {H : Hp} (e : Env0 P w K mg base A outer s H) (C : Addr) (us : List Value) (kw : List (Str × Value)) :
    Env0 P w K mg base (A.under (.builtin "type.__call__" ⟨.ref C :: us, kw⟩)) outer s H := ⟨by first | exact e.frames | (simpa [Around.under, Code.envs, Code.isFrame, pushEnvs] using e.frames), e.mod, e.bs, e.bsz, e.funs, e.frf, e.hok, e.bare⟩
section
variable {X : Cx} {pins : List (Addr × Obj)} {σ : St} {H : Hp} {s s' : Shared}
theorem Inv.env0 (I : Inv X pins σ H s) : Env0 X.prog X.w X.K X.mg X.base X.A X.stack s H :=
  ⟨I.ok.frames, I.ok.mod, I.bs, Nat.le_trans I.ok.bsz I.sz, I.stack, I.stkFree, I.hok, I.bare⟩
theorem Inv.after {Q : VK} {u : Value} (I : Inv X pins σ H s) (h : CE X.stack X.prog X.w H s Q u s') : EP X pins σ Q u s' := by
  obtain ⟨v, H', os, bare, un, hok, r, q⟩ := h
  obtain ⟨hh, g, d, t, os'⟩ := s'
  obtain rfl : os' = s.os := os
  exact ⟨v, H', I.call (h' := hh) (g' := g) (d' := d) (t' := t) (ch := []) un hok bare (fun b z => absurd z (by simp)), r, q⟩
end
noncomputable def tCall (sp : Sp) (dvs : List V) (E : XK) (t : TA) : TE := fun σ H Q => t σ H fun vs H1 => sp (vs ++ dvs) H1 Q E
noncomputable def tMeth (C : Addr) (m : Str) (sp : Sp) (dvs : List V) (E : XK) (ta : TE) (t : TA) : TE := fun σ H Q => ta σ H fun x H1 => ∃ a dx fs, x = .ref a ∧ H1 a = some (.ins C dx fs) ∧ fs.lookup m = none ∧
  t σ H1 fun vs H2 => sp (x :: (vs ++ dvs)) H2 Q E
noncomputable def tMake (C : Addr) (sp : Sp) (dvs : List V) (E : XK) (t : TA) : TE := fun σ H Q => t σ H fun vs H1 => ∀ x dx, H1 x = none → H1 dx = none → dx ≠ x →
  sp (.ref x :: (vs ++ dvs)) (upd (upd H1 dx (.own x)) x (.ins C dx [])) (fun v H2 => v = .non ∧ Q (.ref x) H2) E
noncomputable def Binds (K : PySem.W.Frag) (fd : FuncData) (ps : List Str) (ds : List Value) : Prop :=
  ∀ (s : Shared) (us : List Value), K.In s.heap → (us ++ ds).length = ps.length → BindsTo s fd ⟨us, []⟩ (ps.zip (us ++ ds))
theorem Binds.all {K : PySem.W.Frag} {fd : FuncData} {ps : List Str} (h : ∀ us : List Value, us.length = ps.length → bindArgs fd ⟨us, []⟩ = pure (ps.zip us)) : Binds K fd ps [] := fun s us _ hl => by
  rw [List.append_nil] at hl ⊢
  exact .of_eq (h us hl)
noncomputable def Passes (CX : CXT) (X : Cx) (E : XK) : Prop := ∀ (pins : List (Addr × Obj)) (σ : St) (H : Hp) (s : Shared) (e : Value) (s' : Shared), Inv X pins σ H s → CX X.stack H s E e s' → X.xe e s'
section
variable {X : Cx} {CX : CXT} {k : Nat} {f C : Addr} {fd : FuncData} {ps : List Str} {sp : Sp} {dvs : List V} {ds : List Value} {E : XK} {x m : Str} {p pos apos : Pos} {e o : Expr} {es : List Expr} {ta : TE} {t : TA}
theorem run_fn {pins : List (Addr × Obj)} {σ : St} {H : Hp} {s : Shared} {Q : VK} {us : List Value} {vs : List V} (F : FnOk X.prog X.w X.K X.mg X.base CX k f fd ps sp) (hr : Room k X.A) (hb : Binds X.K fd ps ds) (hd : Vals dvs ds) (hx : Passes CX X E)
    (I : Inv X pins σ H s) (r : Vals vs us) (h : sp (vs ++ dvs) H Q E) : wpAny (model X.prog X.w) X.A (call (.ref f) us) (EP X pins σ Q) X.xe s := by
  have r2 : Vals (vs ++ dvs) (us ++ ds) := r.append hd
  have hl : (us ++ ds).length = ps.length := by rw [← r2.length]; exact F.len _ _ _ _ h
  refine wpAny_call (codeAny_mono (F.run X.A X.stack s H ⟨us, []⟩ (us ++ ds) (vs ++ dvs) Q E hr I.env0 (hb s us I.kIn hl) r2 h) fun r s' hq => ?_)
  cases r with
  | error e => exact hx pins σ H s e s' I hq
  | ok fl =>
    cases fl with
    | ret u => exact I.after hq
    | next => exact False.elim hq
    | brk => exact False.elim hq
    | cont => exact False.elim hq
theorem pe_call (F : FnOk X.prog X.w X.K X.mg X.base CX k f fd ps sp) (hr : Room k X.A) (hg : Gl X x) (hm : X.mg x = some (.ref f)) (hk : PySem.W.keepIn X.K (.ref f) = true) (hb : Binds X.K fd ps ds) (hd : Vals dvs ds) (hx : Passes CX X E)
    (ha : PA X (e :: es) t) (hdb : (x == ("__debug__" : Str)) = false := by decide) (he : starEach (e :: es) X.env = (false, eval e X.env) :: starEach es X.env := by rfl) (hpl : (backTo pos (starEach es X.env)).any (·.1) = false := by rfl) :
    PE X (.Call (.Name x p) (e :: es) [] pos) (tCall sp dvs E t) := by
  intro pins s σ H Q I h
  refine wpAny_Call_Name_kw (ld_glob I hg hm ?_ hdb)
  refine PySem.W.callWith_K (h₀ := X.base) I.ok.mod.kin hk (thn (ha pos pins s σ H _ I h) fun us s1 ⟨vs, H1, I1, r, q⟩ => ⟨I1.kIn, ?_⟩) he hpl
  exact run_fn F hr hb hd hx I1 r q
theorem pe_meth {pl : Sem Bool} (he : PE X o ta) (c : Cls X.K C) (hm : Meth X.K C m f) (F : FnOk X.prog X.w X.K X.mg X.base CX k f fd ps sp) (hr : Room k X.A) (hb : Binds X.K fd ps ds) (hd : Vals dvs ds) (hx : Passes CX X E) (ha : PA X (e :: es) t)
    (hst : starEach (e :: es) X.env = (false, eval e X.env) :: starEach es X.env := by rfl) (hpl : (backTo pos (starEach es X.env)).any (·.1) = false := by rfl)
    (ht : eval (.Call (.Attribute o m apos) (e :: es) [] pos) X.env = (do
      let ov ← eval o X.env
      standAt apos.atName
      let (f, first) ← holding [ov] (getMethod ov m pl)
      callWith pos f first (backTo pos (starEach (e :: es) X.env)) (backToKw pos (keywordEach [] X.env))) := by rfl) :
    PE X (.Call (.Attribute o m apos) (e :: es) [] pos) (tMeth C m sp dvs E ta t) := by
  intro pins s σ H Q I h
  refine PySem.W.methodCall_KW (pl := pl) (thn (he pins s σ H _ I h) fun u s1 ⟨x, H1, I1, rx, a, dx, fs, ex, ea, l, q⟩ => ?_) ht
  subst ex
  obtain rfl : u = Value.ref a := rx
  refine getmeth_ok I1 ea c hm l ?_
  refine PySem.W.callWith_K (first := [.ref a]) (h₀ := X.base) I.ok.mod.kin hm.kp (thn (ha pos pins s1 σ H1 _ I1 q) fun us s2 ⟨vs, H2, I2, r, q2⟩ => ⟨I2.kIn, ?_⟩) hst hpl
  exact run_fn (us := .ref a :: us) (vs := .ref a :: vs) F hr hb hd hx I2 (.cons rfl r) q2
structure Mk (K : PySem.W.Frag) (C f : Addr) : Prop where
  makes : PySem.W.makesIn K C = true
  init : PySem.W.findIn K (.ref C) "__init__" = some (some (.ref f))
  fn : PySem.W.isFn K (.ref f) = true
  kp : PySem.W.keepIn K (.ref C) = true
theorem run_make {pins : List (Addr × Obj)} {σ : St} {H : Hp} {s : Shared} {Q : VK} {us : List Value} {vs : List V} (M : Mk X.K C f) (F : FnOk X.prog X.w X.K X.mg X.base CX k f fd ps sp) (hr : Room (k + 1) X.A) (hb : Binds X.K fd ps ds) (hd : Vals dvs ds)
    (hx : Passes CX X E) (I : Inv X pins σ H s) (r : Vals vs us)
    (h : ∀ x dx, H x = none → H dx = none → dx ≠ x → sp (.ref x :: (vs ++ dvs)) (upd (upd H dx (.own x)) x (.ins C dx [])) (fun v H2 => v = .non ∧ Q (.ref x) H2) E) :
    wpAny (model X.prog X.w) X.A (call (.ref C) us) (EP X pins σ Q) X.xe s := by
  have hq := h (s.heap.objs.size + 1) s.heap.objs.size (I.hok.fresh (Nat.le_succ _)) (I.hok.fresh (Nat.le_refl _)) (Nat.ne_of_lt (Nat.lt_succ_self _))
  have I2 := Inv.made (C := C) I
  have r2 : Vals (V.ref (s.heap.objs.size + 1) :: (vs ++ dvs)) (Value.ref (s.heap.objs.size + 1) :: (us ++ ds)) := .cons rfl (r.append hd)
  have hl : (Value.ref (s.heap.objs.size + 1) :: us ++ ds).length = ps.length := by
    have e := r2.length
    rw [F.len _ _ _ _ hq] at e
    exact e.symm
  refine wpAny_call (make_map (f := f) I.kIn M.makes M.init (beq_iff_eq.mp M.fn) (codeAny_mono (F.run _ X.stack _ _ ⟨Value.ref (s.heap.objs.size + 1) :: us, []⟩ (Value.ref (s.heap.objs.size + 1) :: (us ++ ds)) _ _ E (hr.make C us [])
    (I2.env0.make C us []) (hb _ (Value.ref (s.heap.objs.size + 1) :: us) I2.kIn hl) r2 hq) fun r s' hq' => ?_))
  cases r with
  | error e => exact hx pins σ _ _ e s' I2 hq'
  | ok fl =>
    cases fl with
    | ret u =>
      obtain ⟨v, H', I3, rv, ev, q3⟩ := I2.after hq'
      subst ev
      exact ⟨rv, ⟨V.ref (s.heap.objs.size + 1), H', I3, rfl, q3⟩⟩
    | next => exact False.elim hq'
    | brk => exact False.elim hq'
    | cont => exact False.elim hq'
theorem pe_make0 (M : Mk X.K C f) (F : FnOk X.prog X.w X.K X.mg X.base CX k f fd ps sp) (hr : Room (k + 1) X.A) (hg : Gl X x) (hm : X.mg x = some (.ref C)) (hb : Binds X.K fd ps ds) (hd : Vals dvs ds) (hx : Passes CX X E)
    (hdb : (x == ("__debug__" : Str)) = false := by decide) : PE X (.Call (.Name x p) [] [] pos) (tMake C sp dvs E tNil) := by
  intro pins s σ H Q I h
  refine wpAny_Call_Name_kw (ld_glob I hg hm ?_ hdb)
  exact PySem.W.callWith_K0 I.kIn M.kp (run_make (us := []) M F hr hb hd hx I .nil h)
end
section
variable {X : Cx} {CX : CXT} {k : Nat} {f C : Addr} {fd : FuncData} {ps ks : List Str} {sp : Sp} {E : XK} {x m : Str} {p pos apos kpos : Pos} {e o : Expr} {es : List Expr} {kws : List Keyword} {te ta : TE} {t tk : TA} {nm : Option Str}
variable {g : List Value → List Value → List Value} {gV : List V → List V → List V}
end
structure FnScope (N P : List Str) (sc : Scope) : Prop where
  kind : sc.kind = .function
  co : sc.isCoroutine = false
  gen : sc.isGenerator = false
  nd : N.Nodup
  pre : N.take P.length = P
  par : ∀ x ∈ P, sc.names.lookup x = some .local ∨ sc.names.lookup x = some .cell
  nofree : ∀ y ∈ sc.names, y.2 ≠ .free
theorem bindL_out {kindOf : Str → Option NameKind} {x : Str} : ∀ {binds : List (Str × Value)} {m : Str → Option Value}, (∀ v, (x, v) ∉ binds) → bindL kindOf binds m x = m x
  | [], _, _ => rfl
  | (n, v) :: r, m, h => by
    unfold bindL
    rw [bindL_out fun w hw => h w (List.mem_cons_of_mem _ hw)]
    split
    · have : x ≠ n := by rintro rfl; exact h v List.mem_cons_self
      simp [this]
    · rfl
theorem bindC_out {kindOf : Str → Option NameKind} {x : Str} : ∀ {binds : List (Str × Value)} {m : Str → Option Value}, (∀ v, (x, v) ∉ binds) → bindC kindOf binds m x = m x
  | [], _, _ => rfl
  | (n, v) :: r, m, h => by
    unfold bindC
    rw [bindC_out fun w hw => h w (List.mem_cons_of_mem _ hw)]
    split
    · rfl
    · have : x ≠ n := by rintro rfl; exact h v List.mem_cons_self
      simp [this]
theorem bindL_get {kindOf : Str → Option NameKind} {x : Str} {v : Value} : ∀ {P : List Str} {vs : List Value} {i : Nat} {m : Str → Option Value}, P.Nodup → P[i]? = some x → vs[i]? = some v → kindOf x = some .local →
    bindL kindOf (P.zip vs) m x = some v
  | [], _, _, _, _, h, _, _ => by simp at h
  | _ :: _, [], _, _, _, _, h, _ => by simp at h
  | p :: P, w :: vs, 0, m, nd, h1, h2, hk => by
    simp at h1 h2; subst h1; subst h2
    show bindL kindOf ((p, w) :: P.zip vs) m p = _
    unfold bindL
    rw [bindL_out fun v hv => (List.nodup_cons.mp nd).1 (List.of_mem_zip hv).1, if_pos hk]
    simp
  | p :: P, w :: vs, i + 1, m, nd, h1, h2, hk => by
    show bindL kindOf ((p, w) :: P.zip vs) m x = _
    unfold bindL
    exact bindL_get (i := i) (List.nodup_cons.mp nd).2 (by simpa using h1) (by simpa using h2) hk
theorem bindC_get {kindOf : Str → Option NameKind} {x : Str} {v : Value} : ∀ {P : List Str} {vs : List Value} {i : Nat} {m : Str → Option Value}, P.Nodup → P[i]? = some x → vs[i]? = some v → kindOf x ≠ some .local →
    bindC kindOf (P.zip vs) m x = some v
  | [], _, _, _, _, h, _, _ => by simp at h
  | _ :: _, [], _, _, _, _, h, _ => by simp at h
  | p :: P, w :: vs, 0, m, nd, h1, h2, hk => by
    simp at h1 h2; subst h1; subst h2
    show bindC kindOf ((p, w) :: P.zip vs) m p = _
    unfold bindC
    rw [bindC_out fun v hv => (List.nodup_cons.mp nd).1 (List.of_mem_zip hv).1, if_neg hk]
    simp
  | p :: P, w :: vs, i + 1, m, nd, h1, h2, hk => by
    show bindC kindOf ((p, w) :: P.zip vs) m x = _
    unfold bindC
    exact bindC_get (i := i) (List.nodup_cons.mp nd).2 (by simpa using h1) (by simpa using h2) hk
noncomputable def start (N : List Str) (vs : List V) : St := vs.map some ++ List.replicate (N.length - vs.length) none
noncomputable def cxOf (CX : CXT) (P : Program) (w : World) (K : PySem.W.Frag) (mg : Str → Option Value) (base : Heap) (N : List Str) (qual : Str) (scope : Scope) (f : Addr) (cd : Value) (A : Around) (outer : List Env) (s : Shared) (H : Hp) (E : XK) : Cx where
  prog := P
  w := w
  K := K
  mg := mg
  base := base
  A := A.deeper (envOfC qual scope s.heap.objs.size f cd)
  N := N
  s₀ := s
  H₀ := H
  env := envOfC qual scope s.heap.objs.size f cd
  outer := outer
  stack := envOfC qual scope s.heap.objs.size f cd :: outer
  ex := []
  calm := true
  fn := fun _ => true
  pn := []
  xe := fun e s' => wpAny (model P w) (A.deeper (envOfC qual scope s.heap.objs.size f cd)) (leaving (envOfC qual scope s.heap.objs.size f cd) e) (fun _ s'' => CX outer H s E e s'') (fun e' s'' => CX outer H s E e' s'') s'
theorem cell_has {sc : Scope} {n : Nat} {x : Str} (h : sc.names.lookup x = some .cell) : ∃ c, (cellsFrom n sc.names []).lookup x = some c := by
  have q := PySem.W.cellsFrom_some sc.names n [] (.inl h)
  exact Option.isSome_iff_exists.mp q
theorem inv_start {CX : CXT} {P : Program} {w : World} {K : PySem.W.Frag} {mg : Str → Option Value} {base : Heap} {N ps : List Str} {qual : Str} {scope : Scope} {f : Addr} {cd : Value} {A : Around} {outer : List Env} {s s1 : Shared} {H : Hp} {E : XK} {us : List Value} {vs : List V}
    (S : FnScope N ps scope) (hd : A.handled = none) (e0 : Env0 P w K mg base A outer s H) (hl : vs.length = ps.length) (r : Vals vs us)
    (x : InCallC s s.heap.objs.size (bindL (envOfC qual scope s.heap.objs.size f cd).kindOf (ps.zip us) fun _ => none) (cellsFrom (s.heap.objs.size + 1) scope.names []) (bindC (envOfC qual scope s.heap.objs.size f cd).kindOf (ps.zip us) fun _ => none) s1) :
    Inv (cxOf CX P w K mg base N qual scope f cd A outer s H E) [] (start N vs) H s1 := by
  have hpl : ps.length ≤ N.length := by have := congrArg List.length S.pre; rw [List.length_take] at this; omega
  obtain ⟨h1, tk, rfl, hk⟩ := x.done
  have noA : ∀ b : Addr, b ∉ (cxOf CX P w K mg base N qual scope f cd A outer s H E).ex := fun b z => absurd (show b ∈ ([] : List Addr) from z) (by simp)
  refine ⟨⟨e0.mod, S.kind, rfl, rfl, Nat.le_refl _, fun y z c h1 h2 => ?_, fun y hy => ?_, fun y c _ h => ?_, fun _ => hd, Around.frames_deeper e0.frames, .inr ⟨rfl, rfl⟩, fun b z => absurd z (noA b), e0.bs, e0.bsz, fun b _ _ => noA b, fun b z => absurd z (noA b), e0.funs, e0.frf⟩,
    rfl, e0.bare, Un.kept hk, ⟨_, x.toInCall.ns, fun i y v h1 h2 h3 => ?_⟩, fun y c h => ⟨_, x.cell y c h⟩, e0.hok.fresh (Nat.le_refl _), fun y c h => ?_, fun p hp => absurd (show p ∈ ([] : List (Addr × Obj)) from hp) (by simp), e0.hok.kept hk, ?_⟩
  · exact name_of_addr x.apart (PySem.mem_of_lookup h1) (PySem.mem_of_lookup h2)
  · have hy : scope.names.lookup y = some .cell ∨ scope.names.lookup y = some .free := hy
    rcases hy with hy | hy
    · exact cell_has hy
    · exact absurd rfl (S.nofree _ (PySem.mem_of_lookup hy))
  · exact Nat.le_of_lt (x.above y c (PySem.mem_of_lookup h))
  · have hi : i < vs.length := by
      unfold start at h2
      by_cases hi : i < vs.length
      · exact hi
      · rw [List.getElem?_append_right (by simpa using hi)] at h2
        rw [List.getElem?_replicate] at h2
        split at h2 <;> cases h2
    have ha : vs[i]? = some v := by
      unfold start at h2
      rw [List.getElem?_append_left (by simpa using hi), List.getElem?_map] at h2
      cases e : vs[i]? with
      | none => rw [e] at h2; cases h2
      | some a => rw [e] at h2; cases h2; rfl
    obtain ⟨u, hu, rv⟩ := r.get ha
    have hp : ps[i]? = some y := by
      rw [← S.pre, List.getElem?_take_of_lt (by omega)]; exact h1
    have ndP : ps.Nodup := by rw [← S.pre]; exact S.nd.sublist (List.take_sublist _ _)
    refine ⟨u, rv, ?_⟩
    rcases S.par y (List.mem_of_getElem? hp) with k | k
    · exact .inl ⟨k, bindL_get ndP hp hu k⟩
    · obtain ⟨c, e⟩ := cell_has (n := s.heap.objs.size + 1) k
      refine .inr ⟨.inl k, c, e, ?_⟩
      have q := x.cell y c e
      rw [bindC_get ndP hp hu (by show scope.names.lookup y ≠ _; rw [k]; decide)] at q
      exact q
  · exact e0.hok.fresh (Nat.le_of_lt (x.above y c (PySem.mem_of_lookup h)))
  · unfold start
    show _ = N.length
    rw [List.length_append, List.length_map, List.length_replicate]
    omega
theorem fn_of {CX : CXT} {P : Program} {w : World} {K : PySem.W.Frag} {mg : Str → Option Value} {base : Heap} {k : Nat} {f : Addr} {name qual : Str} {params : Arguments} {body : List Stmt} {scope : Scope} {dV kV doc pm cdv ct oc : Value} {an od : Option Addr}
    {osl : Array (Option Value)} {N ps : List Str} {sp : Sp} (lk : K.lookup f = some ⟨oc, od, .func (PySem.W.fnOf name qual params body scope dV kV doc pm an cdv ct), osl⟩) (hcd : PySem.W.codeIn K cdv qual = true) (S : FnScope N ps scope)
    (len : ∀ vs H Q E, sp vs H Q E → vs.length = ps.length)
    (hbody : ∀ (A : Around) (outer : List Env) (s : Shared) (H : Hp) (vs : List V) (Q : VK) (E : XK), Room k (A.deeper (envOfC qual scope s.heap.objs.size f cdv)) → sp vs H Q E →
      ∃ t, PSs (cxOf CX P w K mg base N qual scope f cdv A outer s H E) body t ∧ t { nx := fun _ H' => Q .non H', rt := Q } (start N vs) H) :
    FnOk P w K mg base CX (k + 1) f (PySem.W.fnOf name qual params body scope dV kV doc pm an cdv ct) ps sp := by
  refine ⟨len, fun A outer s H args us vs Q E hr e0 hb r hsp => ?_⟩
  have hl := len _ _ _ _ hsp
  have KX : K.In s.heap := e0.mod.kin.keeps fun b o e => (e0.bs b o e).1
  have lim : s.heap.NoLimit := e0.mod.nolimit.keeps fun b o e => (e0.bs b o e).1
  have hkind : ∀ y ∈ ps.zip us, scope.names.lookup y.1 = some .local ∨ (scope.names.lookup y.1 = some .cell ∧ ((cellsFrom (s.heap.objs.size + 1) scope.names []).lookup y.1).isSome = true) := fun ⟨n, v⟩ hy => by
    rcases S.par n (List.of_mem_zip hy).1 with q | q
    · exact .inl q
    · exact .inr ⟨q, PySem.W.cellsFrom_some _ _ _ (.inl q)⟩
  refine codeAny_call_function hr.depth (KX _ _ lk) rfl S.co S.gen rfl (PySem.W.codeRec_of KX hcd) (hb _ _ _ _ ?_)
  refine wpAny_newFunctionEnv_cells S.kind hkind fun env he s1 x => ?_
  subst he
  refine ⟨lim.keeps x.toInCall.keep, codeAny_func ?_⟩
  obtain ⟨t, ht, hq⟩ := hbody A outer s H vs Q E (hr.deeper _) hsp
  have I : Inv (cxOf CX P w K mg base N qual scope f cdv A outer s H E) [] (start N vs) H s1 := inv_start S hr.hd e0 hl r x
  refine wpAny_mono (ht [] s1 (start N vs) H _ I hq) (fun fl s' hs => ?_) fun e s' hs => hs
  have fin : ∀ {σ' : St} {H' : Hp} {v : V} {u : Value}, Inv (cxOf CX P w K mg base N qual scope f cdv A outer s H E) [] σ' H' s' → RelV v u → Q v H' → CE outer P w H s Q u s' :=
    fun {σ' H' v u} J rv q => ⟨v, H', J.os, J.bare, J.base, J.hok, rv, q⟩
  cases fl with
  | ret u =>
    obtain ⟨v, σ', H', J, rv, q⟩ := hs
    exact fin J rv q
  | next =>
    obtain ⟨σ', H', J, q⟩ := hs
    exact fin (v := V.non) (u := Value.none) J rfl q
  | brk =>
    obtain ⟨_, _, _, q⟩ := hs
    exact False.elim q
  | cont =>
    obtain ⟨_, _, _, q⟩ := hs
    exact False.elim q
end L2
namespace L2
open PySem PySem.Spec PyProof.Rows
section
variable {X : Cx} {x : Str} {p pos : Pos} {e : Expr} {es : List Expr} {t : TA} {id T : String} {r : List V → Hp → VK → Prop}
noncomputable def tCB (r : List V → Hp → VK → Prop) (t : TA) : TE := fun σ H Q => t σ H fun vs H1 => r vs H1 Q
theorem pe_callB (hc : CallR X (.builtin id) r) (hg : Gl X x) (hm : X.mg x = none) (hv : bootBuiltins x = some (.builtin id)) (ha : PA X (e :: es) t) (hn : x ≠ "__name__" := by decide) (hdb : (x == ("__debug__" : Str)) = false := by decide)
    (he : starEach (e :: es) X.env = (false, eval e X.env) :: starEach es X.env := by rfl) (hpl : (backTo pos (starEach es X.env)).any (·.1) = false := by rfl) : PE X (.Call (.Name x p) (e :: es) [] pos) (tCB r t) := by
  intro pins s σ H Q I h
  refine wpAny_Call_Name_kw (ld_blt I hg hm hv ?_ hn hdb)
  exact PyProof.Rows.callWith_builtin1 (thn (ha pos pins s σ H _ I h) fun us s1 ⟨vs, H1, I1, r1, q1⟩ => hc pins s1 σ H1 vs us Q I1 r1 q1) he hpl
theorem pe_callTy (hc : CallR X (.type T) r) (hg : Gl X x) (hm : X.mg x = none) (hv : bootBuiltins x = some (.type T)) (ha : PA X (e :: es) t) (hn : x ≠ "__name__" := by decide) (hdb : (x == ("__debug__" : Str)) = false := by decide)
    (he : starEach (e :: es) X.env = (false, eval e X.env) :: starEach es X.env := by rfl) (hpl : (backTo pos (starEach es X.env)).any (·.1) = false := by rfl) : PE X (.Call (.Name x p) (e :: es) [] pos) (tCB r t) := by
  intro pins s σ H Q I h
  refine wpAny_Call_Name_kw (ld_blt I hg hm hv ?_ hn hdb)
  exact PyProof.Rows.callWith_type1 (thn (ha pos pins s σ H _ I h) fun us s1 ⟨vs, H1, I1, r1, q1⟩ => hc pins s1 σ H1 vs us Q I1 r1 q1) he hpl
end
end L2
namespace HT
open PySem PyProof.Rows
section
open PySem.SeqAt
open PySem.AutoSeq1 (wpAny_loadPart')
open PySem.MeetsSeq PySem.MeetsSeq2 PySem.MeetsSeq3
end
section
variable {prog : Program} {w : World} {A : Around} {E : Value → Shared → Prop} {s : Shared}
noncomputable def sIx (n d : Nat) : Option Int → Nat
  | none => d
  | some v => if v < 0 then (v + (n : Int)).toNat else min v.toNat n
theorem sIx_none (n d : Nat) : sIx n d none = d := rfl
theorem sIx_nat (n d k : Nat) : sIx n d (some (k : Int)) = min k n := by
  show (if (k : Int) < 0 then ((k : Int) + (n : Int)).toNat else min (k : Int).toNat n) = min k n
  rw [if_neg (by omega), Int.toNat_natCast]
end
end HT
namespace L2
open PySem PySem.Spec PyProof.Rows
noncomputable abbrev TO := St → Hp → (Option Int → Hp → Prop) → Prop
noncomputable def PO (X : Cx) (e : Option Expr) (t : TO) : Prop :=
  ∀ (pins : List (Addr × Obj)) (s : Shared) (σ : St) (H : Hp) (Q : Option Int → Hp → Prop), Inv X pins σ H s → t σ H Q →
    wpAny (model X.prog X.w) X.A (evalPart e X.env) (fun u s' => ∃ o H', Inv X pins σ H' s' ∧ IsPart u o ∧ Q o H') X.xe s
noncomputable def tNoPart : TO := fun _ H Q => Q none H
noncomputable def tPart (t : TE) : TO := fun σ H Q => t σ H fun x H1 => ∃ i, x = .int i ∧ Q (some i) H1
section
variable {X : Cx} {e : Expr} {te : TE} {lo hi : Option Expr} {tl th : TO} {pos p2 : Pos}
theorem po_none : PO X none tNoPart := by
  intro pins s σ H Q I h
  rw [evalPart_none]
  exact wpAny_pure ⟨none, H, I, .none, h⟩
theorem po_some (h : PE X e te) : PO X (some e) (tPart te) := by
  intro pins s σ H Q I hw
  rw [evalPart_some]
  refine thn (h pins s σ H _ I hw) fun u s1 zz => ?_
  obtain ⟨x, H1, I1, r1, q1⟩ := zz
  obtain ⟨i, rfl, q⟩ := q1
  obtain ⟨t, rfl⟩ := r1
  exact ⟨some i, H1, I1, .int i t, q⟩
noncomputable def SlR (X : Cx) (r : V → Option Int → Option Int → Hp → VK → Prop) : Prop :=
  ∀ (pins : List (Addr × Obj)) (s : Shared) (σ : St) (H : Hp) (x : V) (v vl vu : Value) (lo hi : Option Int) (sl : Addr) (Q : VK), Inv X pins σ H s → RelV x v → s.heap.IsSliceOf sl vl vu .none → IsPart vl lo → IsPart vu hi → r x lo hi H Q →
    ∃ T id, typeLookup (.type T) "__getitem__" = pure (some (.builtin id)) ∧ s.TypeIs v T ∧ wpAny (model X.prog X.w) X.A (getItem v (.ref sl)) (EP X pins σ Q) X.xe s
noncomputable def tSl (r : V → Option Int → Option Int → Hp → VK → Prop) (te : TE) (tl th : TO) : TE := fun σ H Q => te σ H fun x H1 => tl σ H1 fun l H2 => th σ H2 fun u H3 => r x l u H3 Q
theorem pe_slice {r : V → Option Int → Option Int → Hp → VK → Prop} (hr : SlR X r) (he : PE X e te) (hl : PO X lo tl) (hu : PO X hi th) : PE X (.Subscript e (.Slice lo hi none p2) pos) (tSl r te tl th) := by
  intro pins s σ H Q I h
  refine Subscript_ (thn (he pins s σ H _ I h) fun v s1 zz => ?_)
  obtain ⟨x, H1, I1, r1, q1⟩ := zz
  refine wpAny_Slice (thn (hl pins s1 σ H1 _ I1 q1) fun vl s2 ⟨l, H2, I2, pl, q2⟩ => thn (hu pins s2 σ H2 _ I2 q2) fun vu s3 zz => ?_)
  obtain ⟨u, H3, I3, pu, q3⟩ := zz
  rw [evalPart_none]
  refine wpAny_pure ?_
  have I4 : Inv X pins σ H3 { s3 with heap := s3.heap.push { cls := .type "slice", data := .fields #[vl, vu, .none] } } := I3.kept (t' := s3.toks) fun b ob q => Heap.get?_push_of_some _ q
  obtain ⟨T, id, hT, ht, hg⟩ := hr pins { s3 with heap := s3.heap.push { cls := .type "slice", data := .fields #[vl, vu, .none] } } σ H3 x v vl vu l u s3.heap.objs.size Q I4 r1 (Heap.IsSliceOf.new ..) pl pu q3
  show wpAny (model X.prog X.w) X.A (subscriptTail e (.Slice lo hi none p2) v (.ref s3.heap.objs.size)) (EP X pins σ Q) X.xe { s3 with heap := s3.heap.push { cls := .type "slice", data := .fields #[vl, vu, .none] } }
  exact tail_any (ops := [.ref s3.heap.objs.size, v]) ht hT hg (by with_unfolding_all rfl)
noncomputable def cutV (xs : List V) (lo hi : Option Int) : List V := (xs.drop (HT.sIx xs.length 0 lo)).take (HT.sIx xs.length xs.length hi - HT.sIx xs.length 0 lo)
theorem cutV_length (xs : List V) (lo hi : Option Int) : (cutV xs lo hi).length ≤ xs.length := by
  unfold cutV
  rw [List.length_take, List.length_drop]
  omega
end
end L2
namespace L2
open PySem PySem.Spec PyProof.Rows
noncomputable def ixN (n : Nat) (i : Int) : Option Nat := if 0 ≤ i then (if i < n then some i.toNat else none) else if -(n : Int) ≤ i then some (i + n).toNat else none
noncomputable def atI {α : Type} (xs : List α) (i : Int) : Option α := (ixN xs.length i).bind fun j => xs[j]?
theorem ixN_seq {n : Nat} {i : Int} {j : Nat} (h : ixN n i = some j) : seqIndex? i n = some j ∧ j < n ∧ -(n : Int) ≤ i ∧ i < n := by
  unfold ixN at h
  by_cases h0 : 0 ≤ i
  · rw [if_pos h0] at h
    by_cases h1 : i < n
    · rw [if_pos h1] at h
      have e : i.toNat = j := Option.some.inj h
      exact ⟨by rw [seqIndex_of h0 h1, e], by omega, by omega, h1⟩
    · rw [if_neg h1] at h; cases h
  · rw [if_neg h0] at h
    by_cases h1 : -(n : Int) ≤ i
    · rw [if_pos h1] at h
      have e : (i + n).toNat = j := Option.some.inj h
      exact ⟨by rw [seqIndex_neg (by omega) h1, e], by omega, h1, by omega⟩
    · rw [if_neg h1] at h; cases h
theorem atI_get {α : Type} {xs : List α} {i : Int} {v : α} (h : atI xs i = some v) : ∃ j, seqIndex? i xs.length = some j ∧ xs[j]? = some v ∧ j < xs.length ∧ -(xs.length : Int) ≤ i ∧ i < xs.length := by
  unfold atI at h
  cases e : ixN xs.length i with
  | none => rw [e] at h; cases h
  | some j =>
    rw [e] at h
    obtain ⟨h1, h2, h3, h4⟩ := ixN_seq e
    exact ⟨j, h1, h, h2, h3, h4⟩
theorem atI_nat {α : Type} {xs : List α} {j : Nat} {v : α} (h : xs[j]? = some v) : atI xs (j : Int) = some v := by
  have hj : j < xs.length := (List.getElem?_eq_some_iff.mp h).1
  have e : ixN xs.length (j : Int) = some j := by
    unfold ixN
    rw [if_pos (by omega), if_pos (by omega)]; simp
  unfold atI; rw [e]; exact h
noncomputable def PlainIx (b : Expr) : Prop := ∀ o i, subscripted b false o i = operate [o, i] (getItem o i)
noncomputable def IxR (X : Cx) (r : R2) : Prop :=
  ∀ (value slice : Expr) (pins : List (Addr × Obj)) (s : Shared) (σ : St) (H : Hp) (x y : V) (v u : Value) (Q : VK), Inv X pins σ H s → RelV x v → RelV y u → r x y H Q →
    subscripted slice false v u = operate [v, u] (getItem v u) → wpAny (model X.prog X.w) X.A (subscriptTail value slice v u) (EP X pins σ Q) X.xe s
noncomputable def MtR (X : Cx) (id : String) (r : V → List V → Hp → VK → Prop) : Prop :=
  ∀ (pins : List (Addr × Obj)) (s : Shared) (σ : St) (H : Hp) (x : V) (xs : List V) (v : Value) (us : List Value) (Q : VK), Inv X pins σ H s → RelV x v → Vals xs us → r x xs H Q →
    wpAny (model X.prog X.w) X.A (call (.builtin id) (v :: us)) (EP X pins σ Q) X.xe s
section
variable {X : Cx} {a b : Expr} {ta tb : TE} {pos : Pos}
theorem pe_ix {r : R2} (hr : IxR X r) (ha : PE X a ta) (hb : PE X b tb) (hs : PlainIx b) : PE X (.Subscript a b pos) (tOp r ta tb) := by
  intro pins s σ H Q I h
  exact Subscript_ (binT ha hb I h fun v u s2 x y H2 I2 rx ry q => hr a b pins s2 σ H2 x y v u Q I2 rx ry q (hs _ _))
noncomputable def rIxL (K : PySem.W.Frag) : R2 := fun x y H Q => ∃ p xs i v, x = .ref p ∧ y = .int i ∧ SqL K H p xs ∧ atI xs i = some v ∧ Q v H
noncomputable def rIxT (K : PySem.W.Frag) : R2 := fun x y H Q => ∃ p xs i v, x = .ref p ∧ y = .int i ∧ SqT K H p xs ∧ atI xs i = some v ∧ Q v H
theorem ix_list : IxR X (rIxL X.K) := by
  intro value slice pins s σ H x y v u Q I rx ry h hs
  obtain ⟨p, xs, i, z, rfl, rfl, hq, he, q⟩ := h
  cases rx
  obtain ⟨t, rfl⟩ := ry
  obtain ⟨its, r, pl, hz⟩ := I.list hq
  obtain ⟨j, h1, h2, h3, h4, h5⟩ := atI_get he
  obtain ⟨w, ew, rw'⟩ := r.get h2
  have hl := r.length
  have hn := line63
  have fin : EP X pins σ Q w s := ⟨z, H, I, rw', q⟩
  by_cases h0 : 0 ≤ i
  · have hj : i.toNat = j := by
      rw [seqIndex_of h0 h5] at h1
      exact Option.some.inj h1
    exact item_listR pl.isList h0 (by omega) (by rw [hj]; simpa using ew) fin hs
  · have hj : (i + (its.toArray.size : Int)).toNat = j := by
      rw [seqIndex_neg (by omega) h4] at h1
      rw [List.size_toArray, ← hl]
      exact Option.some.inj h1
    exact subscriptTail_builtinR (x := w) pl.isList.typeIs slot_list_getitem.lookup
      (wpAny_getItem_list_neg (Q := fun r s' => r = w ∧ EP X pins σ Q r s') pl.isList (by omega) (by rw [List.size_toArray] <;> omega) (by omega) (by rw [hj]; simpa using ew) ⟨rfl, fin⟩) hs
theorem ix_tup : IxR X (rIxT X.K) := by
  intro value slice pins s σ H x y v u Q I rx ry h hs
  obtain ⟨p, xs, i, z, rfl, rfl, hq, he, q⟩ := h
  cases rx
  obtain ⟨t, rfl⟩ := ry
  obtain ⟨its, r, pl, hz⟩ := I.tuple hq
  obtain ⟨j, h1, h2, h3, h4, h5⟩ := atI_get he
  obtain ⟨w, ew, rw'⟩ := r.get h2
  have hl := r.length
  have hn := line63
  have fin : EP X pins σ Q w s := ⟨z, H, I, rw', q⟩
  exact subscriptTail_builtinR (x := w) pl.typeIs slot_tuple_getitem.lookup
    (getItem_tuple (j := j) (Q := fun r s' => r = w ∧ EP X pins σ Q r s') pl (by omega) (by omega) (by rw [List.size_toArray, ← hl]; exact h1) (by simpa using ew) ⟨rfl, fin⟩) hs
theorem mapSeq_set (its : List Value) (n j : Nat) (u : Value) : Obj.mapSeq (·.setIfInBounds j u) { cls := .type "list", data := .seq its.toArray n } = { cls := .type "list", data := .seq (its.set j u).toArray n } := by
  simp [Obj.mapSeq]
theorem Inv.lst {pins : List (Addr × Obj)} {σ : St} {H : Hp} {s : Shared} {p : Addr} {xs : List V} (I : Inv X pins σ H s) (h : H p = some (.lst xs)) :
    ∃ (its : List Value) (n : Nat), Vals xs its ∧ s.heap.get? p = some { cls := .type "list", data := .seq its.toArray n } ∧ xs.length ≤ sizeLine := by
  obtain ⟨z, its, n, r, e⟩ := I.hok p _ h
  exact ⟨its, n, r, e, z⟩
theorem Inv.lstUpd {pins : List (Addr × Obj)} {σ : St} {H : Hp} {s : Shared} {p : Addr} {xs ys : List V} {its its' : List Value} {n n' : Nat} {f : Obj → Obj} (I : Inv X pins σ H s) (h : H p = some (.lst xs))
    (ho : s.heap.get? p = some { cls := .type "list", data := .seq its.toArray n }) (hf : f { cls := .type "list", data := .seq its.toArray n } = { cls := .type "list", data := .seq its'.toArray n' }) (r : Vals ys its') (hz : ys.length ≤ sizeLine) (t : Nat) :
    Inv X pins σ (upd H p (.lst ys)) { s with heap := s.heap.update p f, toks := t } := by
  have e : (s.heap.update p f).get? p = some { cls := .type "list", data := .seq its'.toArray n' } := by
    rw [Heap.get?_update_self f ho (by rw [hf] <;> rfl), hf]
  refine I.write (x := p) (e := p) (by rw [h]; trivial) (.inl rfl) (fun b u hb q => (Heap.get?_update_other _ _ (Ne.symm hb)).trans q) ⟨_, e⟩ ?_
  exact ⟨hz, its', n', r, e⟩
noncomputable def rSetL : V → V → V → Hp → (Hp → Prop) → Prop := fun o i v H Q => ∃ p xs k j, o = .ref p ∧ i = .int k ∧ H p = some (.lst xs) ∧ ixN xs.length k = some j ∧ Q (upd H p (.lst (xs.set j v)))
theorem set_list : PSet X rSetL := by
  intro pins s σ H o i v ov iv u Q I ro ri rv h
  obtain ⟨p, xs, k, j, rfl, rfl, hp, hj, q⟩ := h
  cases ro
  obtain ⟨t, rfl⟩ := ri
  obtain ⟨its, n, r, ho, hz⟩ := I.lst hp
  obtain ⟨h1, h2, h3, h4⟩ := ixN_seq hj
  have hl := r.length
  have hn := line63
  have I' : Inv X pins σ (upd H p (.lst (xs.set j v))) { s with heap := s.heap.update p (Obj.mapSeq (·.setIfInBounds j u)) } :=
    I.lstUpd hp ho (mapSeq_set its n j u) (r.set rv j) (by rw [List.length_set]; exact hz) s.toks
  by_cases h0 : 0 ≤ k
  · have hk : k.toNat = j := by
      rw [seqIndex_of h0 h4] at h1
      exact Option.some.inj h1
    exact PySem.W.ki_setAt ho h0 (by omega) (by rw [List.size_toArray, ← hl]; exact h4) (by rw [hk]; exact ⟨_, I', q⟩)
  · have hk : (k + (its.toArray.size : Int)).toNat = j := by
      rw [seqIndex_neg (by omega) h3] at h1
      rw [List.size_toArray, ← hl]
      exact Option.some.inj h1
    exact PySem.W.ki_setBack ho (by omega) (by rw [List.size_toArray, ← hl]; exact h3) (by omega) (by rw [hk]; exact ⟨_, I', q⟩)
theorem slice_bounds (lo hi : Option Int) (n : Nat) : (sliceBounds lo hi none n).1 = ((HT.sIx n 0 lo : Nat) : Int) ∧ (sliceBounds lo hi none n).2.1 = ((HT.sIx n n hi : Nat) : Int) ∧ (sliceBounds lo hi none n).2.2 = 1 := by
  refine ⟨?_, ?_, rfl⟩
  · cases lo with
    | none => simp [sliceBounds, HT.sIx]
    | some i =>
      simp only [sliceBounds, HT.sIx, Option.getD_none, show (1 : Int) > 0 by decide, if_true]
      by_cases h : i < 0
      · simp only [h, if_true] <;> omega
      · simp only [h, if_false] <;> omega
  · cases hi with
    | none => simp [sliceBounds, HT.sIx]
    | some i =>
      simp only [sliceBounds, HT.sIx, Option.getD_none, show (1 : Int) > 0 by decide, if_true]
      by_cases h : i < 0
      · simp only [h, if_true] <;> omega
      · simp only [h, if_false] <;> omega
theorem slicePick_cut (its : List Value) (lo hi : Option Int) : slicePick its.toArray lo hi none = ((its.drop (HT.sIx its.length 0 lo)).take (HT.sIx its.length its.length hi - HT.sIx its.length 0 lo)).toArray := by
  obtain ⟨h1, h2, h3⟩ := slice_bounds lo hi its.toArray.size
  unfold slicePick
  rw [h1, h2, h3]
  simp only [sliceRange_one, pick_run, List.size_toArray] <;> rfl
noncomputable def rSlL (K : PySem.W.Frag) : V → Option Int → Option Int → Hp → VK → Prop := fun x lo hi H Q => ∃ a xs, x = .ref a ∧ SqL K H a xs ∧ ∀ p, H p = none → Q (.ref p) (upd H p (.lst (cutV xs lo hi)))
theorem sl_list : SlR X (rSlL X.K) := by
  intro pins s σ H x v vl vu lo hi sl Q I rx hs pl pu h
  obtain ⟨a, xs, rfl, hx, q⟩ := h
  cases rx
  obtain ⟨its, r, ht, hz⟩ := I.list hx
  have hlen := r.length
  refine ⟨"list", _, slot_list_getitem.lookup, ht.isList.typeIs, ?_⟩
  refine wpAny_getItem_list_slice ht.isList hs pl pu .none (by simp) ?_ (by rw [List.size_toArray] <;> omega)
  rw [slicePick_cut, ← hlen]
  refine ⟨.ref s.heap.objs.size, _, I.laid (t' := s.toks) (o := .lst (cutV xs lo hi)) (fun b ob q => Heap.get?_push_of_some _ q) (Nat.le_refl _) ?_, rfl, q _ (I.hok.fresh (Nat.le_refl _))⟩
  exact ⟨Nat.le_trans (cutV_length xs lo hi) hz, _, 0, (r.drop (HT.sIx xs.length 0 lo)).take (HT.sIx xs.length xs.length hi - HT.sIx xs.length 0 lo), Heap.get?_push_size _ rfl⟩
theorem call_tuple_of : CallR X (.type "tuple") (fun xs H Q => ∃ p ys, xs = [.ref p] ∧ ((SqL X.K H p ys ∧ ∀ l, H l = none → Q (.ref l) (upd H l (.tup ys))) ∨ (SqT X.K H p ys ∧ Q (.ref p) H))) := by
  intro pins s σ H xs us Q I r h
  obtain ⟨p, ys, rfl, h⟩ := h
  obtain ⟨u, rfl, rx⟩ := vals1 r
  cases rx
  rcases h with ⟨hq, q⟩ | ⟨hq, q⟩
  · obtain ⟨its, r', pl, hz⟩ := I.list hq
    have hlen := r'.length
    refine call_tuple_list pl.isList (fun h' kp => ?_) (by simp only [List.size_toArray] <;> omega)
    have I1 : Inv X pins σ H { s with heap := h' } := I.kept (t' := s.toks) kp
    have I2 : Inv X pins σ (upd H h'.objs.size (.tup ys)) { s with heap := h'.push { cls := .type "tuple", data := .seq its.toArray } } :=
      I1.laid (t' := s.toks) (fun b o e => Heap.get?_push_of_some _ e) (Nat.le_refl _) (show ObjOk X.prog X.w _ _ _ (.tup ys) from ⟨hz, its, r', IsTup.new _ _⟩)
    exact ⟨.ref h'.objs.size, _, I2, rfl, q _ (I1.hok.fresh (Nat.le_refl _))⟩
  · obtain ⟨its, r', pl, hz⟩ := I.tuple hq
    exact call_tuple_same pl ⟨.ref p, H, I, rfl, q⟩
noncomputable def tyV (K : PySem.W.Frag) (T : String) (x : V) (H : Hp) : Prop := match x with
  | .str _ => T = "str"
  | .int _ => T = "int"
  | .ref p => (T = "list" ∧ ∃ xs, SqL K H p xs) ∨ (T = "tuple" ∧ ∃ o, K.lookup p = some o ∧ o.cls = .type "tuple" ∧ o.dict = none) ∨
      (T = "dict" ∧ ((∃ kvs, H p = some (.dK kvs)) ∨ ∃ kvs, H p = some (.dT kvs))) ∨ (T = "set" ∧ ∃ S n, H p = some (.set S n))
  | _ => False
theorem tyV_is {pins : List (Addr × Obj)} {σ : St} {H : Hp} {s : Shared} {T : String} {x : V} {v : Value} (I : Inv X pins σ H s) (r : RelV x v) (ty : tyV X.K T x H) :
    s.TypeIs v T ∧ ∀ a, v = .ref a → ∃ ob, s.heap.get? a = some ob ∧ ob.dict = none := by
  cases x with
  | str z =>
    obtain ⟨t, rfl⟩ := r
    cases (show T = "str" from ty)
    exact ⟨typeIs_str s z t, fun _ e => nomatch e⟩
  | int i =>
    obtain ⟨t, rfl⟩ := r
    cases (show T = "int" from ty)
    exact ⟨typeIs_int s i t, fun _ e => nomatch e⟩
  | ref p =>
    cases r
    rcases ty with ⟨rfl, xs, hq⟩ | ⟨rfl, o, hk, hc, hd⟩ | ⟨rfl, hk⟩ | ⟨rfl, S, n, hk⟩
    · obtain ⟨its, _, pl, _⟩ := I.list hq
      refine ⟨pl.isList.typeIs, fun a e => ?_⟩
      cases e
      obtain ⟨o, n, e, c, hd, _⟩ := pl
      exact ⟨o, e, hd⟩
    · refine ⟨⟨o, I.kIn p o hk, hc⟩, fun a e => ?_⟩
      cases e
      exact ⟨o, I.kIn _ o hk, hd⟩
    · have z : ∃ o, s.heap.get? p = some o ∧ o.ExactDict := by
        rcases hk with ⟨kvs, hk⟩ | ⟨kvs, hk⟩
        · obtain ⟨_, _, _, _, o, _, _, e, ex, _⟩ := I.hok p _ hk
          exact ⟨o, e, ex⟩
        · obtain ⟨_, _, _, _, o, _, _, e, ex, _⟩ := I.hok p _ hk
          exact ⟨o, e, ex⟩
      obtain ⟨o, e, ex⟩ := z
      refine ⟨⟨o, e, ex.1⟩, fun a e2 => ?_⟩
      cases e2
      exact ⟨o, e, ex.2.1⟩
    · obtain ⟨o, _, _, _, e, ex, _⟩ := I.hok p _ hk
      refine ⟨⟨o, e, ex.1⟩, fun a e2 => ?_⟩
      cases e2
      exact ⟨o, e, ex.2.1⟩
  | _ => exact False.elim ty
noncomputable def tBM0 (K : PySem.W.Frag) (T : String) (r : V → List V → Hp → VK → Prop) (to : TE) : TE := fun σ H Q => to σ H fun x H1 => tyV K T x H1 ∧ r x [] H1 Q
noncomputable def tBM (K : PySem.W.Frag) (T : String) (r : V → List V → Hp → VK → Prop) (to : TE) (t : TA) : TE := fun σ H Q => to σ H fun x H1 => tyV K T x H1 ∧ t σ H1 fun xs H2 => r x xs H2 Q
variable {o e : Expr} {es : List Expr} {to : TE} {t : TA} {name : Str} {apos cpos : Pos} {T id : String} {r : V → List V → Hp → VK → Prop}
theorem pe_bm0 (pa : PlainAttrs T) (slot : Slot T name id) (hty : typeOf (.builtin id) = pure (.type "method_descriptor")) (hm : MtR X id r) (ho : PE X o to)
    (hbase : attributeBase o name X.env (eval o X.env) = eval o X.env := by rfl) (hline : (apos.endLine == cpos.line) = true := by rfl) : PE X (.Call (.Attribute o name apos) [] [] cpos) (tBM0 X.K T r to) := by
  intro pins s σ H Q I h
  refine wpAny_Call_method0_late hbase hline (thn (ho pins s σ H _ I h) fun v s1 zz => ?_)
  obtain ⟨x, H1, I1, r1, ty, q1⟩ := zz
  obtain ⟨h1, h2⟩ := tyV_is I1 r1 ty
  exact ⟨T, id, pa, slot, hty, h1, h2, Calls.callWith_builtin rfl (PySem.evalArgs_none (hm pins s1 σ H1 x [] v [] Q I1 r1 .nil q1))⟩
theorem pe_bm (pa : PlainAttrs T) (slot : Slot T name id) (hty : typeOf (.builtin id) = pure (.type "method_descriptor")) (hm : MtR X id r) (ho : PE X o to) (ha : PA X (e :: es) t)
    (hbase : attributeBase o name X.env (eval o X.env) = eval o X.env := by rfl)
    (hfew : ((backTo cpos (starEach (e :: es) X.env)).all (fun x => !x.1) && (backToKw cpos (keywordEach [] X.env)).all (fun x => x.1.isSome)
      && decide ((e :: es).length + ([] : List Keyword).length + (if ([] : List Keyword).isEmpty then 0 else 1) < 30)) = true := by rfl)
    (hline : (apos.endLine == cpos.line) = true := by rfl) (hs : starEach (e :: es) X.env = (false, eval e X.env) :: starEach es X.env := by rfl) (hplain : (backTo cpos (starEach es X.env)).any (·.1) = false := by rfl) :
    PE X (.Call (.Attribute o name apos) (e :: es) [] cpos) (tBM X.K T r to t) := by
  intro pins s σ H Q I h
  refine wpAny_Call_method_late hbase hfew hline rfl (thn (ho pins s σ H _ I h) fun v s1 zz => ?_)
  obtain ⟨x, H1, I1, r1, ty, q1⟩ := zz
  obtain ⟨h1, h2⟩ := tyV_is I1 r1 ty
  refine ⟨T, id, pa, slot, hty, h1, h2, ?_⟩
  have hA := ha cpos pins s1 σ H1 _ I1 q1
  rw [hs] at hA ⊢
  refine Calls.callWith_builtin (by show (false || (backTo cpos (starEach es X.env)).any (·.1)) = false; rw [hplain] <;> rfl) (Calls.evalArgs_plain ?_)
  exact thn hA fun us s2 ⟨vs, H2, I2, r2, q2⟩ => hm pins s2 σ H2 x vs v us Q I2 r1 r2 q2
end
end L2
namespace L2
open PySem PySem.Spec PyProof.Rows
noncomputable def MtM (X : Cx) (id : String) (r : V → List V → Hp → VK → Prop) : Prop :=
  ∀ (pins : List (Addr × Obj)) (s : Shared) (σ : St) (H : Hp) (x : V) (xs : List V) (v : Value) (us : List Value) (Q : VK), Inv X pins σ H s → RelV x v → Vals xs us → r x xs H Q →
    wpAny (model X.prog X.w) X.A (call (.builtin id) (v :: us)) (EP X pins σ Q) X.xe s
theorem Vals.one : ∀ {x : V} {us : List Value}, Vals [x] us → ∃ u, us = [u] ∧ RelV x u
  | _, _, .cons r .nil => ⟨_, rfl, r⟩
section
variable {X : Cx} {pins : List (Addr × Obj)} {σ : St} {H : Hp} {s : Shared} {l b : Addr} {xs ys zs : List V}
theorem Inv.lset {its its' : List Value} {n : Nat} {f : Array Value → Array Value} {t' : Nat} (I : Inv X pins σ H s) (hH : H l = some (.lst xs))
    (e : s.heap.get? l = some { cls := .type "list", data := .seq its.toArray n }) (hf : f its.toArray = its'.toArray) (hv : Vals ys its') (hz : ys.length ≤ sizeLine) :
    Inv X pins σ (upd H l (.lst ys)) { s with heap := s.heap.update l (Obj.mapSeq f), toks := t' } := by
  have q := PySem.IsL.update e f
  rw [hf] at q
  refine I.write (x := l) (e := l) (by rw [hH]; exact trivial) (.inl rfl) (fun b' u hb hu => (Heap.get?_update_other s.heap (Obj.mapSeq f) (Ne.symm hb)).trans hu) ⟨_, q⟩ ?_
  exact ⟨hz, its', _, hv, q⟩
theorem Inv.lnew {its : List Value} {t' : Nat} (I : Inv X pins σ H s) (hv : Vals ys its) (hz : ys.length ≤ sizeLine) :
    Inv X pins σ (upd H s.heap.objs.size (.lst ys)) { s with heap := s.heap.push { cls := .type "list", data := .seq its.toArray }, toks := t' } :=
  I.laid (fun _ _ q => Heap.get?_push_of_some _ q) (Nat.le_refl _) ⟨hz, its, 0, hv, Heap.get?_push_size _ rfl⟩
theorem Inv.fresh (I : Inv X pins σ H s) : H s.heap.objs.size = none := I.hok.fresh (Nat.le_refl _)
theorem Inv.lstM (I : Inv X pins σ H s) (hH : H l = some (.lst xs)) : xs.length ≤ sizeLine ∧ ∃ (its : List Value) (n : Nat), Vals xs its ∧ xs.length = its.length ∧ s.heap.get? l = some { cls := .type "list", data := .seq its.toArray n } := by
  obtain ⟨z, its, n, r, e⟩ := I.hok l _ hH
  exact ⟨z, its, n, r, r.length, e⟩
end
section
variable {X : Cx}
noncomputable def rAppend : V → List V → Hp → VK → Prop := fun x vs H Q => ∃ l xs y, x = .ref l ∧ vs = [y] ∧ H l = some (.lst xs) ∧ xs.length < sizeLine ∧ Q .non (upd H l (.lst (xs ++ [y])))
theorem mt_append : MtM X "list.append" rAppend := by
  intro pins s σ H x vs v us Q I rx rv h
  obtain ⟨l, xs, y, rfl, rfl, hH, hz, q⟩ := h
  cases rx
  obtain ⟨u, rfl, ru⟩ := rv.one
  obtain ⟨z, its, n, r, hl, e⟩ := I.lstM hH
  refine call_meets F.slot_list_append ⟨_, e, rfl⟩ F.entry_list_append (F.args_list_append_2 _ _) (PySem.list_append l its.toArray n u (by rw [List.size_toArray]; omega)) ⟨e, ?_⟩
  refine ⟨.non, _, I.lset (its' := its ++ [u]) hH e (by simp) (r.append (.cons ru .nil)) ?_, rfl, q⟩
  rw [List.length_append, List.length_singleton]
  omega
noncomputable def rCat : R2 := fun x y H Q => ∃ l b xs zs, x = .ref l ∧ y = .ref b ∧ H l = some (.lst xs) ∧ H b = some (.lst zs) ∧ xs.length + zs.length ≤ sizeLine ∧ ∀ p, H p = none → Q (.ref p) (upd H p (.lst (xs ++ zs)))
theorem op_cat : OpR X (binaryOp .Add) rCat := by
  intro pins s σ H x y v u Q I rx ry h
  obtain ⟨l, b, xs, zs, rfl, rfl, hH, hB, hz, q⟩ := h
  cases rx
  cases ry
  obtain ⟨z, its, n, r, hl, e⟩ := I.lstM hH
  obtain ⟨z2, its2, n2, r2, hl2, e2⟩ := I.lstM hB
  refine PySem.P.add_list e e2 ?_ (by rw [List.size_toArray, List.size_toArray]; omega)
  have ea : its.toArray ++ its2.toArray = (its ++ its2).toArray := by simp
  rw [ea]
  exact ⟨.ref _, _, I.lnew (t' := s.toks) (r.append r2) (by rw [List.length_append]; omega), rfl, q _ I.fresh⟩
end
section
variable {prog : Program} {w : World} {A : Around} {E : Value → Shared → Prop} {s : Shared}
end
section
variable {X : Cx}
end
end L2
namespace Att
open PySem PySem.W PySem.Calls PyProof.Rows
theorem ints_of_wellAll {P : Params} {h : Heap} : ∀ (ns : List Int) (vs : List Value), WellAll P h vs (ns.map WData.int) → IntsAre vs ns := by
  intro ns
  induction ns with
  | nil =>
    intro vs w
    rw [List.map_nil] at w
    cases w
    exact .nil
  | cons n ns ih =>
    intro vs w
    rw [List.map_cons] at w
    cases w with
    | cons a b =>
      cases a
      exact .cons _ _ (ih _ b)
theorem script_of {l : OpenLaw} {n : Nat} (hn : l.most = some n) {P : Params} {h : Heap} {args : List WData} {vals : List Value}
    (hpre : l.row.toRowW.claim.pre args = true) (hwl : WellAll P h vals args) :
    ∃ a vs ns, vals = [Value.ref a] ∧ args = [WData.list (ns.map WData.int)] ∧ h.get? a = some { cls := .type "list", data := .seq vs.toArray } ∧ IntsAre vs ns ∧ ns.length ≤ n := by
  have hsh : WShape.hasAll [] args [.list .int] = true := (pre_splitW hpre).1
  have hc : l.pre.holds [] { args := args } = true := (pre_splitW hpre).2
  obtain ⟨d, r, rfl, h1, h2⟩ := hasAllW_cons hsh
  obtain rfl := hasAllW_nil h2
  obtain ⟨xs, rfl, h3⟩ := hasW_list h1
  obtain ⟨ns, rfl⟩ := items_int h3
  have hlen : ns.length ≤ n := by
    unfold OpenLaw.pre at hc
    have h4 : (WTm.not (.lt (.lit (.int (n : Int))) (.len (.arg 0)))).holds [] { args := [.list (ns.map .int)] } = true := by
      have h4 := (holds_andW hc).1
      rw [hn] at h4
      exact h4
    have h5 := condW_of h4 (w_not (w_lt w_lit (w_len_list (w_arg rfl))))
    rw [List.length_map] at h5
    refine Nat.le_of_not_lt fun q => ?_
    have q' : (n : Int) < ((ns.length : Nat) : Int) := by omega
    first
      | (rw [decide_eq_true q'] at h5; exact absurd h5 (by decide))
      | (simp at h5; omega)
  cases hwl with
  | cons w1 w2 =>
    cases w2
    cases w1 with
    | list ho hall => exact ⟨_, _, ns, rfl, rfl, ho, ints_of_wellAll ns _ hall, hlen⟩
theorem post_true (l : OpenLaw) (args : List WData) : l.row.toRowW.claim.post args (.bool true) args = true :=
  postW_of (r := l.row.toRowW) (X := (true == true))
    (show WShape.has [] (.bool true) .bool = true by first | rfl | decide | simp [WShape.has, WShape.arms, WShape.armsAll])
    (show (WTm.eq .res (.lit (.bool true))).value [] { args := args, res := some (.bool true), after := args } = some (.bool (true == true)) from w_eq_bool (w_res rfl) w_lit) rfl
section
variable {prog : Program} {w : World} {A : Around} {E : Value → Shared → Prop} {s : Shared} {K : Frag}
end
end Att
namespace L2
open PySem PySem.Spec PyProof.Rows
theorem vals_ints : ∀ {vs : List Value} {ns : List Int}, IntsAre vs ns → Vals (ns.map V.int) vs
  | _, _, .nil => .nil
  | _, _, .cons n t h => .cons ⟨t, rfl⟩ (vals_ints h)
noncomputable def Only (H : Hp) : Prop := ∀ b, H b = none ∨ ∃ o xs, H b = some (.frz o (.lst xs))
theorem law_call {P : Program} {w : World} {K : PySem.W.Frag} {mg mb : Str → Option Value} {CX : CXT} {k : Nat} {fa a : Addr} {fd : FuncData} {x : Str} {sp : Sp} {s₁ : Shared} {vs : List Value} {ns : List Int}
    (KX : K.In s₁.heap) (hns : s₁.heap.Ns mainGlobals mg) (hb : s₁.heap.Ns builtinsNs mb) (hbb : ∀ x : Str, x ≠ "__name__" → mb x = bootBuiltins x) (hlim : s₁.heap.NoLimit) (hg : s₁.gens = #[])
    (ha : s₁.heap.get? a = some { cls := .type "list", data := .seq vs.toArray }) (hi : IntsAre vs ns) (hl : ns.length ≤ sizeLine) (hr : Room k callerA)
    (F : ∀ base : Heap, K.In base → base.Ns mainGlobals mg → FnOk P w K mg base CX k fa fd [x] sp) (hbind : ∀ (s : Shared) (u : Value), BindsTo s fd ⟨[u], []⟩ [(x, u)])
    (hsp : ∀ H : Hp, Only H → SqL K H a (ns.map V.int) → sp [.ref a] H (fun v _ => v = .bl true) fun _ _ _ => False)
    (hCX : ∀ H e s', CX [] H s₁ (fun _ _ _ => False) e s' → False) :
    codeAny (model P w) callerA (.call (.ref fa) ⟨[.ref a], []⟩) (fun r s' => r = .ok (.ret (.bool true)) ∧ OldK s₁.heap s'.heap ∧ s'.os = s₁.os ∧ AllBare s'.gens) s₁ := by
  have rv := vals_ints hi
  have lenV := hi.length
  have core : ∀ H : Hp, Only H → SqL K H a (ns.map V.int) → HOk P w H s₁.heap → (∀ b, H b ≠ none → b = a) → (H a ≠ none → K.lookup a = none) →
      codeAny (model P w) callerA (.call (.ref fa) ⟨[.ref a], []⟩) (fun r s' => r = .ok (.ret (.bool true)) ∧ OldK s₁.heap s'.heap ∧ s'.os = s₁.os ∧ AllBare s'.gens) s₁ := by
    intro H hO hS hok hA hK
    have base_of : ∀ {b : Addr} {o : Obj}, s₁.heap.get? b = some o → H b = none → (hidT s₁.heap H).get? b = some o := fun e n => hidT_get e n
    have noA : ∀ {b : Addr} {o : Obj} {es : Array DictEntry} {ep : Nat}, s₁.heap.get? b = some o → o.data = .dict es ep → H b = none := fun {b o es ep} e d => by
      cases q : H b with
      | none => rfl
      | some u =>
        have e' : b = a := hA b (by rw [q]; simp)
        subst e'
        rw [ha] at e; cases e
        have d' : Data.seq vs.toArray _ = Data.dict es ep := d
        cases d'
    have nsK : ∀ {b : Addr} {m : Str → Option Value}, s₁.heap.Ns b m → (hidT s₁.heap H).Ns b m := fun {b m} ⟨o, es, ep, e, d, r⟩ => ⟨o, es, ep, base_of e (noA e d), d, r⟩
    have hKb : K.In (hidT s₁.heap H) := fun b o e => base_of (KX b o e) (by
      cases q : H b with
      | none => rfl
      | some u =>
        have e' : b = a := hA b (by rw [q]; simp)
        subst e'
        rw [hK (by rw [q]; simp)] at e; cases e)
    have hM : Mod K mg (hidT s₁.heap H) := ⟨hKb, nsK hns, ⟨mb, nsK hb, hbb⟩, let ⟨mc, h1, h2⟩ := hlim; ⟨mc, nsK h1, h2⟩⟩
    have e0 : Env0 P w K mg (hidT s₁.heap H) callerA [] s₁ H := ⟨rfl, hM, fun b o e => of_hidT e, Nat.le_of_eq (hidT_size _ _), trivial, fun b hb => absurd (show b ∈ ([] : List Addr) from hb) (by simp), hok, .of_eq hg⟩
    refine codeAny_mono ((F _ hKb (nsK hns)).run callerA [] s₁ H ⟨[.ref a], []⟩ [.ref a] [.ref a] _ _ hr e0 (hbind s₁ (.ref a)) (.cons rfl .nil) (hsp H hO hS)) fun r s' h => ?_
    cases r with
    | error e => exact (hCX H e s' h).elim
    | ok fl =>
      cases fl with
      | next => exact False.elim h
      | brk => exact False.elim h
      | cont => exact False.elim h
      | ret u =>
        obtain ⟨v, H', os, bare, un, hok', r', q⟩ := h
        have q' : v = .bl true := q
        subst q'
        obtain rfl : u = Value.bool true := r'
        refine ⟨rfl, OldK.of_keep fun b o e => ?_, os, bare⟩
        cases q : H b with
        | none => exact un.keep b o e q (by intro z; exact absurd (show b ∈ ([] : List Addr) from z) (by simp)) (by simp)
        | some u =>
          rcases hO b with z | ⟨ob, xs, z⟩
          · rw [q] at z; cases z
          · have z2 := un.frzs b ob _ z
            obtain ⟨e1, _⟩ := hok b _ z
            obtain ⟨e2, _⟩ := hok' b _ z2
            rw [e] at e1; cases e1
            exact e2
  cases hk : K.lookup a with
  | some o =>
    have e := KX a o hk
    rw [ha] at e
    cases e
    refine core (fun _ => none) (fun _ => .inl rfl) (.inr ⟨_, vs.toArray, _, hk, rfl, rfl, rfl, by rw [List.size_toArray, lenV]; exact hl, by simpa using rv⟩) (fun b u z => by have z' : (none : Option HO) = some u := z; cases z') (fun b z => absurd rfl z) fun z => absurd rfl z
  | none =>
    refine core (fun b => if b = a then some (.frz { cls := .type "list", data := .seq vs.toArray } (.lst (ns.map V.int))) else none) (fun b => ?_) (.inl (.inr ⟨{ cls := .type "list", data := .seq vs.toArray }, if_pos rfl⟩)) (fun b u z => ?_) (fun b z => ?_) fun _ => hk
    · by_cases hb : b = a
      · exact .inr ⟨_, _, if_pos hb⟩
      · exact .inl (if_neg hb)
    · by_cases hb : b = a
      · have z' := (if_pos hb).symm.trans z
        cases z'
        subst hb
        exact ⟨ha, by rw [List.length_map]; exact hl, vs, _, rv, ha⟩
      · have z' := (if_neg hb).symm.trans z
        cases z'
    · by_cases hb : b = a
      · exact hb
      · exact absurd (if_neg hb) z
end L2
namespace L2
open PySem PySem.Spec PyProof.Rows
end L2
namespace L2
open PySem PySem.Spec PyProof.Rows
noncomputable def defArgs (s : Stmt) : Arguments := match s with
  | .FunctionDef _ a _ _ _ _ _ _ _ _ => a
  | _ => { posonlyargs := [], args := [], vararg := none, kwonlyargs := [], kw_defaults := [], kwarg := none, defaults := [] }
noncomputable def defBody (s : Stmt) : List Stmt := match s with
  | .FunctionDef _ _ b _ _ _ _ _ _ _ => b
  | _ => []
noncomputable def defScope (s : Stmt) : Scope := match s with
  | .FunctionDef _ _ _ _ _ _ sc _ _ _ => sc
  | _ => { kind := .function, names := [], isGenerator := false, isCoroutine := false }
noncomputable abbrev E0 : XK := fun _ _ _ => False
section
variable {P : Program} {w : World} {K : PySem.W.Frag} {mg : Str → Option Value} {base : Heap}
end
section
variable {X : Cx}
theorem pv (i : Nat) {x : Str} {pos : Pos} (hN : X.N[i]? = some x := by rfl) (hv : Vis X.env.scope x := by first | exact Or.inl rfl | exact Or.inr (Or.inl rfl) | exact Or.inr (Or.inr rfl)) (hd : (x == ("__debug__" : Str)) = false := by decide)
    (hcd : (x == ("__classdict__" : Str)) = false := by decide) : PE X (.Name x pos) (tVar i) := pe_var hN hv hd hcd
end
theorem iteF {A B : Prop} (h : B) : if false = true then A else B := by
  rw [if_neg Bool.false_ne_true]
  exact h
theorem iteT {A B : Prop} (h : A) : if true = true then A else B := by
  rw [if_pos rfl]
  exact h
noncomputable def Same (H H' : Hp) : Prop := ∀ b o, H b = some o → H' b = some o
theorem Same.refl (H : Hp) : Same H H := fun _ _ h => h
theorem Same.trans {H H1 H2 : Hp} (a : Same H H1) (b : Same H1 H2) : Same H H2 := fun c o h => b c o (a c o h)
theorem Same.seq {K : PySem.W.Frag} {H H' : Hp} {a : Addr} {xs : List V} (e : Same H H') (h : SqL K H a xs) : SqL K H' a xs := by
  rcases h with (h | ⟨o, h⟩) | h
  · exact .inl (.inl (e _ _ h))
  · exact .inl (.inr ⟨o, e _ _ h⟩)
  · exact .inr h
end L2
set_option maxRecDepth 100000
namespace Kw
theorem gcd_step (g s : Int) (hg : 0 ≤ g) (hs : 0 < s) : Int.gcd s (g % s) = Int.gcd g s := by
  obtain ⟨m, rfl⟩ := Int.eq_ofNat_of_zero_le hg
  obtain ⟨n, rfl⟩ := Int.eq_ofNat_of_zero_le (Int.le_of_lt hs)
  have e : ((m : Int) % (n : Int)) = ((m % n : Nat) : Int) := by omega
  rw [e]
  show Nat.gcd n (m % n) = Nat.gcd m n
  rw [Nat.gcd_comm m n, Nat.gcd_rec n m, Nat.gcd_comm]
theorem gcd_abs (a b : Int) : Int.gcd (if a < 0 then -a else a) (if b < 0 then -b else b) = Int.gcd a b := by
  have e : ∀ x : Int, (if x < 0 then -x else x).natAbs = x.natAbs := fun x => by split <;> omega
  show Nat.gcd _ _ = Nat.gcd _ _
  rw [e, e]
theorem gcd_end (g : Int) (hg : 0 ≤ g) : ((Int.gcd g 0 : Nat) : Int) = g := by
  show ((Nat.gcd g.natAbs 0 : Nat) : Int) = g
  rw [Nat.gcd_zero_right]; omega
theorem abs_nn (a : Int) : 0 ≤ (if a < 0 then -a else a) := by split <;> omega
noncomputable def dv (t b : Int) : Int := if b < 0 then -((Int.gcd t b : Nat) : Int) else ((Int.gcd t b : Nat) : Int)
noncomputable def fT (t b : Int) : Int := t.fdiv (dv t b)
noncomputable def fB (t b : Int) : Int := b.fdiv (dv t b)
theorem dv_ne {t b : Int} (h : b ≠ 0) : dv t b ≠ 0 := by
  have hp : 0 < Int.gcd t b := Int.gcd_pos_of_ne_zero_right _ h
  unfold dv; split <;> omega
theorem dv_le {t b : Int} (h : b ≠ 0) : (dv t b).natAbs ≤ b.natAbs := by
  have hd : Int.gcd t b ∣ b.natAbs := Nat.gcd_dvd_right _ _
  have := Nat.le_of_dvd (by omega) hd
  unfold dv; split <;> omega
theorem dv_dvd_b (t b : Int) : dv t b ∣ b := by
  have h : ((Int.gcd t b : Nat) : Int) ∣ b := Int.gcd_dvd_right ..
  unfold dv; split
  · exact (Int.neg_dvd).mpr h
  · exact h
theorem dv_dvd_t (t b : Int) : dv t b ∣ t := by
  have h : ((Int.gcd t b : Nat) : Int) ∣ t := Int.gcd_dvd_left ..
  unfold dv; split
  · exact (Int.neg_dvd).mpr h
  · exact h
theorem fT_mul (t b : Int) : dv t b * fT t b = t := by
  unfold fT
  exact Int.mul_fdiv_cancel' (dv_dvd_t t b)
theorem fB_mul (t b : Int) : dv t b * fB t b = b := by
  unfold fB
  exact Int.mul_fdiv_cancel' (dv_dvd_b t b)
theorem fB_pos {t b : Int} (h : b ≠ 0) : 0 < fB t b := by
  have e := fB_mul t b
  have hn := dv_ne (t := t) h
  have hg : 0 ≤ ((Int.gcd t b : Nat) : Int) := Int.natCast_nonneg _
  rcases Int.lt_or_gt_of_ne h with hb | hb
  · have hd : dv t b < 0 := by unfold dv at hn ⊢; rw [if_pos hb] at hn ⊢; omega
    refine Int.not_le.mp fun q => ?_
    have := Int.mul_nonneg_of_nonpos_of_nonpos (Int.le_of_lt hd) q
    omega
  · have hd : 0 < dv t b := by unfold dv at hn ⊢; rw [if_neg (by omega)] at hn ⊢; omega
    refine Int.not_le.mp fun q => ?_
    have := Int.mul_nonpos_of_nonneg_of_nonpos (Int.le_of_lt hd) q
    omega
theorem natAbs_le_mul {d x : Int} (h : d ≠ 0) : x.natAbs ≤ (d * x).natAbs := by
  rw [Int.natAbs_mul]
  exact Nat.le_mul_of_pos_left _ (by omega)
theorem fT_le {t b : Int} (h : b ≠ 0) : (fT t b).natAbs ≤ t.natAbs := by
  have q := natAbs_le_mul (x := fT t b) (dv_ne (t := t) h)
  rw [fT_mul] at q; exact q
theorem fB_le {t b : Int} (h : b ≠ 0) : (fB t b).natAbs ≤ b.natAbs := by
  have q := natAbs_le_mul (x := fB t b) (dv_ne (t := t) h)
  rw [fB_mul] at q; exact q
end Kw
set_option Elab.async false
set_option linter.all false
set_option maxRecDepth 100000
set_option maxHeartbeats 4000000
namespace Kw
open PySem PySem.Spec PyProof.Rows L2
noncomputable def But (b : Addr) (H H' : Hp) : Prop := ∀ a o, a ≠ b → H a = some o → H' a = some o
theorem But.refl {b : Addr} (H : Hp) : But b H H := fun _ _ _ h => h
theorem But.trans {b : Addr} {H H1 H2 : Hp} (x : But b H H1) (y : But b H1 H2) : But b H H2 := fun a o n h => y a o n (x a o n h)
theorem But.of {b : Addr} {H H' : Hp} (x : Same H H') : But b H H' := fun a o _ h => x a o h
theorem same_new {H : Hp} {p : Addr} (h : H p = none) (o : HO) : Same H (upd H p o) := fun b u q => by rw [upd_ne (ne_of_none q h)]; exact q
theorem but_upd {H : Hp} {p : Addr} (o : HO) : But p H (upd H p o) := fun b u n q => by rw [upd_ne n]; exact q
theorem Same.tup {K : PySem.W.Frag} {H H' : Hp} {a : Addr} {xs : List V} (e : Same H H') (h : SqT K H a xs) : SqT K H' a xs := by
  rcases h with (h | ⟨o, h⟩) | h
  · exact .inl (.inl (e _ _ h))
  · exact .inl (.inr ⟨o, e _ _ h⟩)
  · exact .inr h
section
variable {σ : L2.St} {H : Hp} {Q : VK} {v : V} {i j : Int} {K : PySem.W.Frag} {p : Addr} {xs : List V}
theorem rd_new {R : V → Hp → Prop} {o : HO} (h : ∀ p H', Same H H' → H' p = some o → R (.ref p) H') : ∀ p, H p = none → R (.ref p) (upd H p o) := fun p hp => h p _ (same_new hp o) upd_same
end
theorem if_cases {c : Bool} {A B : Prop} (h1 : c = true → A) (h2 : c = false → B) : if c = true then A else B := by
  cases c
  · exact iteF (h2 rfl)
  · exact iteT (h1 rfl)
theorem if_dec {c : Prop} [Decidable c] {A B : Prop} (h1 : c → A) (h2 : ¬ c → B) : if decide c = true then A else B :=
  if_cases (fun e => h1 (of_decide_eq_true e)) (fun e => h2 (of_decide_eq_false e))
theorem if_decI {i j : Int} {A B : Prop} (h1 : i = j → A) (h2 : i ≠ j → B) : if decide (V.int i = V.int j) = true then A else B :=
  if_dec (fun e => h1 (V.int.inj e)) (fun e => h2 fun z => e (congrArg V.int z))
theorem if_neI {i j : Int} {A B : Prop} (h1 : i ≠ j → A) (h2 : i = j → B) : if (!decide (V.int i = V.int j)) = true then A else B := by
  by_cases e : i = j
  · rw [show decide (V.int i = V.int j) = true by simp [e]]; exact iteF (h2 e)
  · rw [show decide (V.int i = V.int j) = false by simp [e]]; exact iteT (h1 e)
section
variable {X : Cx} {a b c : Expr} {ta tb tc : TE} {pos : Pos}
noncomputable def CDivB (_ j : Int) : Prop := j ≠ 0 ∧ j.natAbs.log2 < 9000
theorem op_fdivB : OpR X (binaryOp .FloorDiv) (rI CDivB fun i j => .int (i.fdiv j)) := opI fun _ _ _ _ _ _ _ hc q => floordiv_int hc.1 q (.inl (PyProof.noPylong_of_log2 hc.2))
theorem op_mulB : OpR X (binaryOp .Mult) (rI IntMulOk fun i j => .int (i * j)) := opI fun _ _ _ _ _ _ _ hc q => mul_int q hc
theorem call_divmodB : CallR X (.builtin "divmod") (fun xs H Q => ∃ i j, xs = [.int i, .int j] ∧ (0 < j ∧ j.natAbs.log2 < 9000) ∧ ∀ p, H p = none → Q (.ref p) (upd H p (.tup [.int (i / j), .int (i % j)]))) := by
  intro pins s σ H xs us Q I r h
  obtain ⟨i, j, rfl, ⟨h1, h2⟩, q⟩ := h
  obtain ⟨u, w', rfl, ⟨t, rfl⟩, ⟨t', rfl⟩⟩ := vals2 r
  refine divmod_int (by omega) ?_ (.inl (PyProof.noPylong_of_log2 h2))
  rw [Int.fdiv_eq_ediv_of_nonneg i (by omega), Int.fmod_eq_emod_of_nonneg i (by omega)]
  have hn : H s.heap.objs.size = none := I.hok.fresh (Nat.le_refl _)
  refine ⟨.ref s.heap.objs.size, _, ?_, rfl, q _ hn⟩
  refine I.laid (fun b o e => Heap.get?_push_of_some _ e) (Nat.le_refl _) ⟨by simp only [List.length_cons, List.length_nil]; rw [sizeLine_eq]; decide, [.int (i / j) s.toks, .int (i % j) (s.toks + 1)], .cons ⟨_, rfl⟩ (.cons ⟨_, rfl⟩ .nil), ?_⟩
  exact ⟨_, Heap.get?_push_size s.heap rfl, rfl, 0, rfl⟩
theorem pe_globI {x : Str} {i : Int} {pos : Pos} (hg : Gl X x) (hm : ∃ t, X.mg x = some (.int i t)) (hd : (x == ("__debug__" : Str)) = false := by decide) (hcd : (x == ("__classdict__" : Str)) = false := by decide) : PE X (.Name x pos) (tC (.int i)) := by
  obtain ⟨t, hm⟩ := hm
  exact pe_glob hg hm ⟨t, rfl⟩ hd
theorem pe_bty {x : Str} {T : String} {pos : Pos} (hg : Gl X x) (hm : X.mg x = none) (hv : bootBuiltins x = some (.type T)) (hn : x ≠ "__name__" := by decide) (hd : (x == ("__debug__" : Str)) = false := by decide) : PE X (.Name x pos) (tC (.ty T)) :=
  pe_bltn hg hm hv (v := .ty T) rfl hn hd
noncomputable def valC : V → Value
  | .ty T => .type T
  | .ref C => .ref C
  | _ => .none
noncomputable def IsI (K : PySem.W.Frag) (H : Hp) (x c : V) (b : Bool) : Prop := ∃ t, TyOf K H x t ∧ PySem.W.kitOne K t (valC c) = some b
theorem call_isinst : CallR X (.builtin "isinstance") (fun xs H Q => ∃ x c b, xs = [x, c] ∧ ((∃ T, c = .ty T) ∨ ∃ C, c = .ref C) ∧ IsI X.K H x c b ∧ Q (.bl b) H) := by
  intro pins s σ H xs us Q I r h
  obtain ⟨x, c, b, rfl, hc, ⟨t, ty, e⟩, q⟩ := h
  obtain ⟨u, w', rfl, rx, rc⟩ := vals2 r
  have ec : w' = valC c := by
    rcases hc with ⟨T, rfl⟩ | ⟨C, rfl⟩
    · exact rc
    · exact rc
  subst ec
  exact isinst_ok I rx ty e fun tk => ⟨.bl b, H, I.tok _, rfl, q⟩
end
end Kw
set_option Elab.async false
set_option linter.all false
set_option maxRecDepth 100000
set_option maxHeartbeats 4000000
namespace Kw
open PySem PySem.Spec PyProof.Rows L2
noncomputable def TrD (h bs : Heap) (x : Addr) (c : Value) (od : Option Addr) (a0 fl : Value) : Prop :=
  ∃ o vs T oT ts, h.get? x = some o ∧ o.cls = c ∧ o.dict = od ∧ o.data = .fields vs ∧ vs[0]? = some a0 ∧ vs[1]? = some (.ref T) ∧ bs.get? T = none ∧ T ≠ x ∧ h.get? T = some oT ∧ oT.data = .fields ts ∧ ts[3]? = some fl
structure Noted (bs : Heap) (l : List Env) (x : Addr) (c : Value) (od : Option Addr) (a0 fl : Value) (h h' : Heap) : Prop where
  st : bs.StaysIn h'
  fr : h'.FunFrames bs l
  tr : TrD h' bs x c od a0 fl
  up : h.UpToSlots h'
section
variable {M : Model} {A : Around} {E : Value → Shared → Prop} {s : Shared} {bs : Heap} {l up : List Env} {env : Env} {x L : Addr} {c : Value} {od : Option Addr} {a0 fl : Value} {Q : Unit → Shared → Prop}
theorem Noted.trans {h h1 h2 : Heap} {f1 f2 : Value} (a : Noted bs l x c od a0 f1 h h1) (b : Noted bs l x c od a0 f2 h1 h2) : Noted bs l x c od a0 f2 h h2 := ⟨b.st, b.fr, b.tr, a.up.trans b.up⟩
theorem Noted.tail {h h1 : Heap} (a : Noted bs (env :: up) x c od a0 fl h h1) : Noted bs up x c od a0 fl h h1 := ⟨a.st, a.fr.2.2, a.tr, a.up⟩
theorem flight0 (st : bs.StaysIn s.heap) (fr : s.heap.FunFrames bs l) (tr : TrD s.heap bs x c od a0 fl) (q : ∀ h', Noted bs l x c od a0 .none s.heap h' → Q () { s with heap := h' }) : wpAny M A (setFlight (.ref x) none) Q E s := by
  obtain ⟨o, vs, T, oT, ts, e1, c1, d1, f1, z0, z1, nT, ne, e2, f2, z3⟩ := tr
  have big : 3 < ts.size := (Array.getElem?_eq_some_iff.mp z3).1
  have oth : ∀ b, b ≠ T → (s.heap.update T (Obj.mapFields (·.setIfInBounds 3 Value.none))).get? b = s.heap.get? b := fun b hb => Heap.get?_update_other _ _ (Ne.symm hb)
  have nf : ∀ b u, s.heap.get? b = some u → (∀ ws, u.data ≠ .fields ws) → b ≠ T := fun b u y n z => by
    subst z
    rw [e2] at y
    cases y
    exact n ts f2
  unfold setFlight
  refine wpAny_bind (wpAny_field e1 f1 z1 ?_)
  rw [if_pos (by simp)]
  refine wpAny_setField e2 f2 big (q _ ⟨fun b u y => ?_, ?_, ?_, ?_⟩)
  · exact (oth b fun z => by rw [z, nT] at y; cases y).trans (st b u y)
  · exact fr.of_keeps fun b u y n => ⟨u, (oth b (nf b u y n)).trans y, rfl⟩
  · exact ⟨o, vs, T, _, _, (oth x (Ne.symm ne)).trans e1, c1, d1, f1, z0, z1, nT, ne, Heap.get?_update_self _ e2 (Obj.isFreed_of_fields (Obj.data_mapFields f2 _)), Obj.data_mapFields f2 _, by simp [big]⟩
  · exact fun b u y n => ⟨u.slots, (oth b (nf b u y n)).trans y⟩
theorem entry_done {h h1 : Heap} {o N : Obj} {vs ts : Array Value} (fr : h.FunFrames bs (env :: up)) (so : Heap.SlotsOnly ((env :: up).filterMap (·.frame)) h h1) (ex : h.get? x = some o) (st : bs.StaysIn h) (nx : bs.get? x = none) (fo : o.data = .fields vs) (big : 1 < vs.size)
    (z0 : vs[0]? = some a0) (hN : N.data = .fields ts) (hN3 : ts[3]? = some fl) :
    Noted bs (env :: up) x o.cls o.dict a0 fl h ((h1.push N).update x (Obj.mapFields (·.setIfInBounds 1 (Value.ref h1.objs.size)))) := by
  have out : x ∉ (env :: up).filterMap (·.frame) := fun m => by
    obtain ⟨_, u, y, n⟩ := fr.mem m
    rw [ex] at y
    cases y
    exact n vs fo
  have x1 : h1.get? x = some o := (so.2.1 x out).trans ex
  have b1 : bs.StaysIn h1 := fun b u y => (so.2.1 b fun m => by rw [(fr.mem m).1] at y; cases y).trans (st b u y)
  have nw : h1.objs.size ≠ x := Nat.ne_of_gt (Heap.lt_size x1)
  have kp : ∀ b u, b ≠ x → h1.get? b = some u → ((h1.push N).update x (Obj.mapFields (·.setIfInBounds 1 (Value.ref h1.objs.size)))).get? b = some u := fun b u hb y => by
    rw [Heap.get?_update_other _ _ (Ne.symm hb)]
    exact Heap.get?_push_of_some _ y
  have nf : ∀ b u, h.get? b = some u → (∀ ws, u.data ≠ .fields ws) → b ≠ x := fun b u y n z => by
    subst z
    rw [ex] at y
    cases y
    exact n vs fo
  have d3 := Obj.data_mapFields fo (·.setIfInBounds 1 (Value.ref h1.objs.size))
  have fN : N.isFreed = false := Obj.isFreed_of_fields hN
  refine ⟨fun b u y => kp b u (fun z => by rw [z, nx] at y; cases y) (b1 b u y), fr.of_keeps fun b u y n => ?_, ?_, fun b u y n => ?_⟩
  · obtain ⟨sl, hs⟩ := so.2.2 b u y
    exact ⟨_, kp b _ (nf b u y n) hs, rfl⟩
  · refine ⟨_, _, h1.objs.size, N, ts, Heap.get?_update_self _ (Heap.get?_push_of_some N x1) (Obj.isFreed_of_fields d3), Obj.cls_mapFields _ _, ?_, d3, by rw [Array.getElem?_setIfInBounds_ne (by decide)]; exact z0, by simp [big], b1.fresh, nw, ?_, hN, hN3⟩
    · obtain ⟨oc, odd, oda, osl⟩ := o
      simp only at fo
      subst fo
      rfl
    · rw [Heap.get?_update_other _ _ (Ne.symm nw)]
      exact Heap.get?_push_size h1 fN
  · obtain ⟨sl, hs⟩ := so.2.2 b u y
    exact ⟨sl, kp b _ (nf b u y n) hs⟩
theorem entry1 {o : Obj} {vs : Array Value} {head : Value} {had : Bool} (af : A.frames = some (env :: up)) (fr : s.heap.FunFrames bs (env :: up)) (ef : env.frame = some L) (ex : s.heap.get? x = some o) (st : bs.StaysIn s.heap) (nx : bs.get? x = none) (fo : o.data = .fields vs) (big : 1 < vs.size)
    (z0 : vs[0]? = some a0) (q : ∀ h', Noted bs (env :: up) x o.cls o.dict a0 (rawInt L) s.heap h' → Q () { s with heap := h' }) :
    wpAny M A (do let fa ← frameOf env; let pl ← entryPlaceOf L had; let en ← EntryCells.newEntry head fa .none (rawInt L) .none pl; setField (.ref x) 1 en) Q E s := by
  refine wpAny_bind (wpAny_frameOf_fun af fr ef fun h1 so => ?_)
  refine wpAny_bind (wpAny_entryPlaceOf fun pl hp => ?_)
  unfold EntryCells.newEntry newFields
  refine wpAny_bind (wpAny_newObj_type ?_ (hp.sizeOk5 _ _ _ _ _))
  have out : x ∉ (env :: up).filterMap (·.frame) := fun m => by
    obtain ⟨_, u, y, n⟩ := fr.mem m
    rw [ex] at y
    cases y
    exact n vs fo
  have x1 : h1.get? x = some o := (so.2.1 x out).trans ex
  refine wpAny_setField (Heap.get?_push_of_some _ x1) fo big (q _ (entry_done fr so ex st nx fo big z0 rfl ?_))
  first
    | (simp; done)
    | (rcases hp with rfl | ⟨_, _, _, _, _, _, _, rfl⟩ <;> simp)
theorem elder {T : Addr} {oT : Obj} {ts : Array Value} (e2 : s.heap.get? T = some oT) (f2 : oT.data = .fields ts) (nT : bs.get? T = none) (st : bs.StaysIn s.heap) (fr : s.heap.FunFrames bs l) :
    let h1 := s.heap.update T (Obj.mapFields (·.setIfInBounds 3 Value.none))
    (∀ b, b ≠ T → h1.get? b = s.heap.get? b) ∧ bs.StaysIn h1 ∧ h1.FunFrames bs l ∧ s.heap.UpToSlots h1 := by
  intro h1
  have oth : ∀ b, b ≠ T → h1.get? b = s.heap.get? b := fun b hb => Heap.get?_update_other _ _ (Ne.symm hb)
  have nf : ∀ b u, s.heap.get? b = some u → (∀ ws, u.data ≠ .fields ws) → b ≠ T := fun b u y n z => by
    subst z
    rw [e2] at y
    cases y
    exact n ts f2
  exact ⟨oth, fun b u y => (oth b fun z => by rw [z, nT] at y; cases y).trans (st b u y), fr.of_keeps fun b u y n => ⟨u, (oth b (nf b u y n)).trans y, rfl⟩, fun b u y n => ⟨u.slots, (oth b (nf b u y n)).trans y⟩⟩
theorem look1 (af : A.frames = some (env :: up)) (ef : env.frame = some L) (st : bs.StaysIn s.heap) (fr : s.heap.FunFrames bs (env :: up)) (nx : bs.get? x = none) (tr : TrD s.heap bs x c od a0 .none)
    (q : ∀ h', Noted bs (env :: up) x c od a0 (rawInt L) s.heap h' → Q () { s with heap := h' }) : wpAny M A (noteFrame (.ref x) env) Q E s := by
  obtain ⟨o, vs, T, oT, ts, e1, rfl, rfl, f1, z0, z1, nT, ne, e2, f2, z3⟩ := tr
  unfold noteFrame
  simp only [ef]
  refine wpAny_bind (wpAny_field e1 f1 z1 ?_)
  rw [if_pos (by simp)]
  refine wpAny_bind (wpAny_field e2 f2 z3 ?_)
  rw [if_neg (by simp [rawInt])]
  refine wpAny_bind (wpAny_setField e2 f2 (Array.getElem?_eq_some_iff.mp z3).1 ?_)
  obtain ⟨oth, st1, fr1, up1⟩ := elder e2 f2 nT st fr
  exact entry1 af fr1 ef ((oth x (Ne.symm ne)).trans e1) st1 nx f1 (Array.getElem?_eq_some_iff.mp z1).1 z0 fun h' n => q h' ⟨n.st, n.fr, n.tr, up1.trans n.up⟩
theorem leave1 (af : A.frames = some (env :: up)) (ef : env.frame = some L) (st : bs.StaysIn s.heap) (fr : s.heap.FunFrames bs (env :: up)) (nx : bs.get? x = none) (tr : TrD s.heap bs x c od a0 .none)
    (q : ∀ h', Noted bs up x c od a0 .none s.heap h' → Q () { s with heap := h' }) : wpAny M A (leaving env (.ref x)) Q E s := by
  unfold leaving
  refine wpAny_bind (look1 af ef st fr nx tr fun h1 n1 => ?_)
  exact flight0 n1.st n1.fr n1.tr fun h2 n2 => q h2 (n1.trans n2).tail
theorem leave0 {o : Obj} {vs : Array Value} (af : A.frames = some (env :: up)) (ef : env.frame = some L) (st : bs.StaysIn s.heap) (fr : s.heap.FunFrames bs (env :: up)) (nx : bs.get? x = none) (ex : s.heap.get? x = some o) (fo : o.data = .fields vs) (z0 : vs[0]? = some a0) (z1 : vs[1]? = some .none)
    (q : ∀ h', Noted bs up x o.cls o.dict a0 .none s.heap h' → Q () { s with heap := h' }) : wpAny M A (leaving env (.ref x)) Q E s := by
  unfold leaving
  refine wpAny_bind ?_
  unfold noteFrame
  simp only [ef]
  refine wpAny_bind (wpAny_field ex fo z1 ?_)
  rw [if_neg (by decide)]
  refine entry1 af fr ef ex st nx fo (Array.getElem?_eq_some_iff.mp z1).1 z0 fun h1 n1 => ?_
  exact flight0 n1.st n1.fr n1.tr fun h2 n2 => q h2 (n1.trans n2).tail
end
end Kw
set_option Elab.async false
set_option linter.all false
set_option maxRecDepth 100000
set_option maxHeartbeats 4000000
namespace Kw
open PySem PySem.Spec PyProof.Rows L2
structure FlyAt (H : Hp) (h0 h : Heap) (x : Addr) (C : Value) (od : Option Addr) : Prop where
  new : h0.get? x = none
  free : H x = none
  tr : ∃ oe vs a0 T oT ts, h.get? x = some oe ∧ oe.cls = C ∧ oe.dict = od ∧ oe.data = .fields vs ∧ vs[0]? = some a0 ∧ vs[1]? = some (.ref T) ∧ h0.get? T = none ∧ H T = none ∧ T ≠ x ∧ h.get? T = some oT ∧ oT.data = .fields ts ∧ ts[3]? = some .none
noncomputable def CXE (P : Program) (w : World) : CXT := fun outer H s E e s' =>
  ∃ (x : Addr) (C : Value) (od : Option Addr) (H' : Hp), e = .ref x ∧ s'.os = s.os ∧ AllBare s'.gens ∧ Un (frs outer) [] H H' s.heap s'.heap ∧ HOk P w H' s'.heap ∧ FlyAt H' s.heap s'.heap x C od ∧ E C od H'
theorem passE0 {P : Program} {w : World} {X : Cx} : Passes (CXE P w) X E0 := fun _ _ _ _ _ _ _ h => by
  obtain ⟨_, _, _, _, _, _, _, _, _, _, q⟩ := h
  exact q.elim
theorem objOk_there {P : Program} {w : World} {H : Hp} {h : Heap} {a : Addr} {o : HO} (x : ObjOk P w H h a o) : ∃ ob, h.get? a = some ob := by
  cases o with
  | lst xs => obtain ⟨_, _, _, _, e⟩ := x; exact ⟨_, e⟩
  | tup xs => obtain ⟨_, _, _, p⟩ := x; obtain ⟨ob, e, _⟩ := p; exact ⟨ob, e⟩
  | dK kvs => obtain ⟨_, _, _, _, ob, _, _, e, _⟩ := x; exact ⟨ob, e⟩
  | dT kvs => obtain ⟨_, _, _, _, ob, _, _, e, _⟩ := x; exact ⟨ob, e⟩
  | set S n => obtain ⟨ob, _, _, _, e, _⟩ := x; exact ⟨ob, e⟩
  | ins C dx fs => obtain ⟨_, _, _, e, _⟩ := x; exact ⟨_, e⟩
  | own y => exact x
  | xd fs => obtain ⟨_, ⟨ob, _, _, e, _⟩, _⟩ := x; exact ⟨ob, e⟩
  | rng lo hi => obtain ⟨_, _, _, e⟩ := x; exact ⟨_, e⟩
  | frz ob u => obtain ⟨e, _⟩ := x; exact ⟨_, e⟩
  | tbl ps => exact ⟨_, (show h.get? a = some _ from x)⟩
  | met f y => exact ⟨_, (show h.get? a = some _ from x)⟩
  | ext φ => obtain ⟨_, e, _⟩ := x; exact e
theorem free_of_none {P : Program} {w : World} {H : Hp} {h : Heap} {a : Addr} (k : HOk P w H h) (e : h.get? a = none) : H a = none := by
  cases q : H a with
  | none => rfl
  | some o =>
    obtain ⟨ob, z⟩ := objOk_there (k a o q)
    rw [e] at z; cases z
structure Plain (X : Cx) : Prop where
  ex : X.ex = []
  stk : X.stack = X.env :: X.outer
  fr : X.env.frame = some X.env.locals
section
variable {X : Cx} {pins : List (Addr × Obj)} {σ : L2.St} {H : Hp} {s : Shared} {h' : Heap} {ch : List Addr}
theorem inStack (pl : Plain X) {b : Addr} (hb : b ∈ X.fs) : b ∈ frs X.stack := by
  rw [pl.stk]
  unfold frs
  rw [List.filterMap_cons, pl.fr]
  exact List.mem_cons_of_mem _ hb
theorem locInStack (pl : Plain X) : X.env.locals ∈ frs X.stack := by
  rw [pl.stk]
  unfold frs
  rw [List.filterMap_cons, pl.fr]
  exact List.mem_cons_self
theorem old_notStack (I : Inv X pins σ H s) {b : Addr} {o : Obj} (q : X.s₀.heap.get? b = some o) (hb : b ∉ X.fs) : b ∉ frs X.stack := fun z => by
  rcases List.mem_cons.mp (I.stkSub b z) with e | z
  · subst e
    exact absurd (Heap.lt_size q) (Nat.not_lt.mpr I.ok.above)
  · exact hb z
structure Flown (X : Cx) (H : Hp) (h h' : Heap) (ch : List Addr) : Prop where
  keep : ∀ b o, h.get? b = some o → b ∉ frs X.stack → b ∉ ch → h'.get? b = some o
  slot : ∀ b o, h.get? b = some o → b ∈ frs X.stack → ∃ sl, h'.get? b = some { o with slots := sl }
  young : ∀ b ∈ ch, X.s₀.heap.get? b = none ∧ H b = none
theorem Flown.un (pl : Plain X) (I : Inv X pins σ H s) (f : Flown X H s.heap h' ch) : Un X.fs [] X.H₀ H X.s₀.heap h' where
  keep := fun b o q n hb _ => f.keep b o (I.base.keep b o q n hb (by rw [pl.ex]; simp)) (old_notStack I q hb) fun z => by
    rw [(f.young b z).1] at q; cases q
  slot := fun b o q n hb _ => by
    obtain ⟨sl, e⟩ := I.base.slot b o q n hb (by rw [pl.ex]; simp)
    obtain ⟨sl', e'⟩ := f.slot b _ e (inStack pl hb)
    exact ⟨sl', e'⟩
  free := fun b o q n _ => I.base.free b o q n (by rw [pl.ex]; simp)
  there := fun b o q _ => by
    obtain ⟨o1, e1⟩ := I.base.there b o q (by rw [pl.ex]; simp)
    by_cases hb : b ∈ frs X.stack
    · obtain ⟨sl, e⟩ := f.slot b o1 e1 hb
      exact ⟨_, e⟩
    · exact ⟨o1, f.keep b o1 e1 hb fun z => by rw [(f.young b z).1] at q; cases q⟩
  tups := I.base.tups
  frzs := I.base.frzs
  tbls := I.base.tbls
theorem Flown.hok (I : Inv X pins σ H s) (f : Flown X H s.heap h' ch) : HOk X.prog X.w H h' := fun a o e => by
  have tr : ∀ b, H b ≠ none → b ∉ frs X.stack ∧ b ∉ ch := fun b hb => ⟨fun z => hb (I.stkFree b z), fun z => hb (f.young b z).2⟩
  refine (I.hok a o e).stay (fun b u hb ho => ?_) (fun _ z => z) fun _ _ z => z
  have nb : H b ≠ none := by
    rcases hb with z | z
    · subst z; rw [e]; exact fun q => nomatch q
    · rw [z]; exact fun q => nomatch q
  exact f.keep b u ho (tr b nb).1 (tr b nb).2
theorem Flown.cxe (pl : Plain X) (I : Inv X pins σ H s) (f : Flown X H s.heap h' ch) {x : Addr} {C : Value} {od : Option Addr} {E : XK} {s' : Shared} (hs : s'.heap = h') (ho : s'.os = s.os) (hg : AllBare s'.gens) (fl : FlyAt H X.s₀.heap h' x C od) (q : E C od H) :
    CXE X.prog X.w X.outer X.H₀ X.s₀ E (.ref x) s' := by
  subst hs
  exact ⟨x, C, od, H, rfl, ho.trans I.os, hg, f.un pl I, f.hok I, fl, q⟩
theorem old_of (pl : Plain X) (I : Inv X pins σ H s) {b : Addr} (e : s.heap.get? b = none) : X.s₀.heap.get? b = none := by
  cases q : X.s₀.heap.get? b with
  | none => rfl
  | some o =>
    obtain ⟨o1, z⟩ := I.base.there b o q (by rw [pl.ex]; simp)
    rw [e] at z; cases z
end
theorem frames_hid {X : Cx} {pins : List (Addr × Obj)} {σ : L2.St} {H : Hp} {s : Shared} (pl : Plain X) (I : Inv X pins σ H s) (l : List Addr) : s.heap.FunFrames (PySem.W.hideAll s.heap (l ++ frs X.stack)) (X.env :: X.outer) := by
  have st := I.stack
  rw [pl.stk] at st
  refine PySem.W.funFrames_hide st fun env he a ha => List.mem_append_right _ ?_
  rw [pl.stk]
  exact List.mem_filterMap.mpr ⟨env, he, ha⟩
theorem frame_nofields {X : Cx} {pins : List (Addr × Obj)} {σ : L2.St} {H : Hp} {s : Shared} (I : Inv X pins σ H s) {b : Addr} {o : Obj} (hb : b ∈ frs X.stack) (e : s.heap.get? b = some o) : ∀ vs, o.data ≠ .fields vs := by
  obtain ⟨_, o', e', n⟩ := I.stack.mem hb
  rw [e] at e'
  cases e'
  exact n
theorem leaves {X : Cx} {pins : List (Addr × Obj)} {σ : L2.St} {H : Hp} {s s' : Shared} {x : Addr} {C : Value} {od : Option Addr} {E : XK} (pl : Plain X) (I0 : Inv X pins σ H s) {H' : Hp} (I : Inv X pins σ H' s') (there : ∀ b o, s.heap.get? b = some o → ∃ o', s'.heap.get? b = some o')
    (fly : FlyAt H' s.heap s'.heap x C od) (q : E C od H') {Q : Unit → Shared → Prop} {R : Value → Shared → Prop} (hQ : ∀ s'', CXE X.prog X.w X.outer X.H₀ X.s₀ E (.ref x) s'' → Q () s'') :
    wpAny (model X.prog X.w) X.A (leaving X.env (.ref x)) Q R s' := by
  obtain ⟨new, free, oe, vs, a0, T, oT, ts, he, hcl, hdc, hd, h0, h1, hT0, hTf, hTx, hT, hdT, h3⟩ := fly
  have n0 := old_of pl I0 new
  have nT := old_of pl I0 hT0
  refine leave1 (bs := PySem.W.hideAll s'.heap ([x, T] ++ frs X.stack)) (up := X.outer) (by rw [I.ok.frames, pl.stk]) pl.fr (fun b o z => PySem.W.of_hideAll _ z) (frames_hid pl I _) (PySem.W.hideAll_none _ (by simp))
    ⟨oe, vs, T, oT, ts, he, hcl, hdc, hd, h0, h1, PySem.W.hideAll_none _ (by simp), hTx, hT, hdT, h3⟩ fun h' nt => hQ _ ?_
  have up := nt.up
  have F : Flown X H' s'.heap h' [x, T] := by
    refine ⟨fun b o ho hs hc => nt.st b o (PySem.W.hideAll_get _ ho fun z => ?_), fun b o ho hb => up b o ho (frame_nofields I hb ho), fun b hb => ?_⟩
    · rcases List.mem_append.mp z with z | z
      · exact hc z
      · exact hs z
    · simp only [List.mem_cons, List.not_mem_nil, or_false] at hb
      rcases hb with rfl | rfl
      · exact ⟨n0, free⟩
      · exact ⟨nT, hTf⟩
  refine F.cxe pl I rfl rfl I.bare ⟨n0, free, ?_⟩ q
  obtain ⟨oe', vs', T', oT', ts', he', hc', hdc', hd', h0', h1', hnT', hTe', hT', hdT', h3'⟩ := nt.tr
  refine ⟨oe', vs', a0, T', oT', ts', he', hc', hdc', hd', h0', h1', ?_, ?_, hTe', hT', hdT', h3'⟩
  all_goals
    cases z : s'.heap.get? T' with
    | none => first | exact old_of pl I z | exact free_of_none I.hok z
    | some o1 =>
      have hm : T' ∈ [x, T] ++ frs X.stack := Classical.byContradiction fun hm => by
        rw [PySem.W.hideAll_get _ z hm] at hnT'; cases hnT'
      rcases List.mem_append.mp hm with hm | hm
      · simp only [List.mem_cons, List.not_mem_nil, or_false] at hm
        rcases hm with rfl | rfl
        · exact absurd rfl hTe'
        · first | exact nT | exact hTf
      · obtain ⟨sl, e⟩ := up T' o1 z (frame_nofields I hm z)
        rw [e] at hT'
        cases hT'
        exact absurd hdT' (frame_nofields I hm z _)
noncomputable def Leaves (X : Cx) (E : XK) : Prop := ∀ (e : Value) (s' : Shared), (∀ Q : Unit → Shared → Prop, ∀ R : Value → Shared → Prop, (∀ s'', CXE X.prog X.w X.outer X.H₀ X.s₀ E e s'' → Q () s'') → wpAny (model X.prog X.w) X.A (leaving X.env e) Q R s') → X.xe e s'
theorem passL {X : Cx} {E : XK} (pl : Plain X) (L : Leaves X E) : Passes (CXE X.prog X.w) X E := by
  intro pins σ H s e s' I hc
  obtain ⟨x, C, od, H', rfl, os, bare, un, hok, fly, q⟩ := hc
  have I' : Inv X pins σ H' s' := I.call' (ch := []) os un hok bare (fun b hb => absurd hb (by simp))
  exact L _ _ fun Q R hQ => leaves pl I I' (fun b o z => un.there b o z (by simp)) fly q hQ
theorem plain_cxOf {CX : CXT} {P : Program} {w : World} {K : PySem.W.Frag} {mg : Str → Option Value} {base : Heap} {N : List Str} {qual : Str} {scope : Scope} {f : Addr} {cd : Value} {A : Around} {outer : List Env} {s : Shared} {H : Hp} {E : XK} :
    Plain (cxOf CX P w K mg base N qual scope f cd A outer s H E) := ⟨rfl, rfl, rfl⟩
theorem leaves_cxOf {P : Program} {w : World} {K : PySem.W.Frag} {mg : Str → Option Value} {base : Heap} {N : List Str} {qual : Str} {scope : Scope} {f : Addr} {cd : Value} {A : Around} {outer : List Env} {s : Shared} {H : Hp} {E : XK} :
    Leaves (cxOf (CXE P w) P w K mg base N qual scope f cd A outer s H E) E := fun _ _ h => h _ _ fun _ z => z
end Kw
set_option Elab.async false
set_option linter.all false
set_option maxRecDepth 100000
set_option maxHeartbeats 4000000
namespace Kw
open PySem PySem.Spec PyProof.Rows L2
noncomputable abbrev bmV : List Value := [.type "ValueError", .type "Exception", .type "BaseException", .type "object"]
noncomputable abbrev ExcC (K : PySem.W.Frag) (C : Addr) : Prop := PySem.W.excIn K C bmV "ValueError.__new__" = true
theorem exc_obj {K : PySem.W.Frag} {h : Heap} {C : Addr} (X : K.In h) (q : ExcC K C) :
    ∃ bm N nm qn bs hdct sn sub ab col dd k0 k1 k2 k3 k5 mN, h.get? C = some (excClassObj nm qn C N bs bm hdct sn sub ab col dd k0 k1 k2 k3 k5 "ValueError.__new__") ∧ h.Ns N mN ∧ mN "__init__" = none ∧ OwnTail h bmV bm := by
  have q' : PySem.W.excIn K C bmV "ValueError.__new__" = true := q
  unfold PySem.W.excIn at q'
  cases hl : K.lookup C with
  | none => rw [hl] at q'; cases q'
  | some o =>
    rw [hl] at q'
    split at q'
    · rename_i dd cd sl eo
      cases eo
      split at q'
      · rename_i C' bm k0 k1 k2 k3 n k5 hm hs
        simp only [Bool.and_eq_true, beq_iff_eq, Bool.not_eq_true'] at q'
        obtain ⟨⟨⟨⟨⟨e1, e2⟩, e3⟩, e4⟩, e5⟩, e6⟩ := q'
        subst e1 e2
        cases cd with
        | mk nm bs mro ns qn hd sn sub ab col del =>
          simp only at hm e3 e5 e6
          subst hm e3
          cases sl with
          | mk sll =>
            simp only at hs
            subst hs
            exact ⟨bm, ns, nm, qn, bs, hd, sn, sub, ab, col, dd, k0, k1, k2, k3, k5, _, X _ _ hl, .of_isNs (PySem.W.isNs_of_in X e5), PySem.W.nsMap_none_of_in X e5 e6, PySem.W.tail_of_in X e4⟩
      · cases q'
    · cases q'
section
variable {X : Cx} {x : Str} {C : Addr} {E : XK} {e : Expr} {es : List Expr} {t : TA} {np cpos pos : Pos}
noncomputable def tRaise (C : Addr) (E : XK) (t : TA) : TS := fun _ σ H => t σ H fun vs H1 => vs.length ≤ sizeLine ∧ E (.ref C) none H1
theorem ps_raise (pl : Plain X) (L : Leaves X E) (hc : X.calm = true) (hg : Gl X x) (hm : X.mg x = some (.ref C)) (hC : ExcC X.K C) (ha : PA X (e :: es) t)
    (hd : (x == ("__debug__" : Str)) = false := by decide) (he : starEach (e :: es) X.env = (false, eval e X.env) :: starEach es X.env := by rfl) (hpl : (backTo cpos (starEach es X.env)).any (·.1) = false := by rfl) :
    PS X (.Raise (some (.Call (.Name x np) (e :: es) [] cpos)) none pos) (tRaise C E t) := by
  intro pins s σ H D I h
  obtain ⟨bm, N, nm, qn, bs, hdct, sn, sub, ab, col, dd, k0, k1, k2, k3, k5, mN, hO, hN, hni, TL⟩ := exc_obj I.mod.kin hC
  have hany : (backTo cpos (starEach (e :: es) X.env)).any (·.1) = false := by
    rw [he]
    show (false || (backTo cpos (starEach es X.env)).any (·.1)) = false
    rw [hpl]; rfl
  refine wpAny_Raise_call_subT (C := C) (nm := nm) (q := qn) (N := N) (bs := bs) (bm := bm) (hdct := hdct) (sn := sn) (sub := sub) (ab := ab) (col := col) (dd := dd) (k0 := k0) (k1 := k1) (k2 := k2) (k3 := k3) (k5 := k5)
    PySem.F.excBase_ValueError (mN := mN) (TL.hasType PySem.F.excBase_ValueError.hasBase) (I.ok.hd hc) hany hni (ld_glob I hg hm ⟨rfl, ?_⟩ hd)
  have hargs := ha cpos pins s σ H _ I h
  rw [he] at hargs ⊢
  refine Calls.evalArgs_plain (thn hargs fun us s2 ⟨vs, H2, I2, r, hz, q⟩ => ⟨rfl, by rw [← r.length]; exact hz, I2.bk _ _ hO, hN.keeps I2.bk, TL.keeps I2.bk, fun h' ex hx => ?_⟩)
  refine L _ _ fun Q R hQ => ?_
  obtain ⟨tq, htq, htn, ht⟩ := hx.there
  refine leave0 (bs := PySem.W.hideAll s2.heap ([] ++ frs X.stack)) (up := X.outer) (by rw [I2.ok.frames, pl.stk]) pl.fr (fun b o z => hx.keeps b o (PySem.W.of_hideAll _ z)) ((frames_hid pl I2 _).of_keeps fun b o hb _ => ⟨o, hx.keeps b o hb, rfl⟩) ?_ htq rfl rfl rfl fun h'' nt => hQ _ ?_
  · cases z : (PySem.W.hideAll s2.heap ([] ++ frs X.stack)).get? ex with
    | none => rfl
    | some o =>
      have y := PySem.W.of_hideAll _ z
      rw [hx.new] at y
      cases y
  have up := nt.up
  have F : Flown X H2 s2.heap h'' [] := by
    refine ⟨fun b o ho hs _ => nt.st b o (PySem.W.hideAll_get _ ho hs), fun b o ho hb => ?_, fun b hb => absurd hb (by simp)⟩
    exact up b o (hx.keeps b o ho) (frame_nofields I2 hb ho)
  refine F.cxe pl I2 rfl rfl I2.bare ⟨old_of pl I2 hx.new, free_of_none I2.hok hx.new, ?_⟩ q
  obtain ⟨oe', vs', T', oT', ts', he', hc', hdc', hd', h0', h1', hnT', hTe', hT', hdT', h3'⟩ := nt.tr
  refine ⟨oe', vs', _, T', oT', ts', he', hc', hdc', hd', h0', h1', ?_, ?_, hTe', hT', hdT', h3'⟩
  all_goals
    cases z : s2.heap.get? T' with
    | none => first | exact old_of pl I2 z | exact free_of_none I2.hok z
    | some o1 =>
      have hmm : T' ∈ [] ++ frs X.stack := Classical.byContradiction fun hmm => by
        rw [PySem.W.hideAll_get _ z hmm] at hnT'; cases hnT'
      have hmm' : T' ∈ frs X.stack := hmm
      obtain ⟨sl, ee⟩ := up T' o1 (hx.keeps _ _ z) (frame_nofields I2 hmm' z)
      rw [ee] at hT'
      cases hT'
      exact absurd hdT' (frame_nofields I2 hmm' z _)
end
structure Fu (K : PySem.W.Frag) (x : Str) (st : Stmt) (f : Addr) (fd : FuncData) : Prop where
  ex : ∃ (oc : Value) (od : Option Addr) (dV kV doc pm : Value) (an : Option Addr) (cdv ct : Value) (osl : Array (Option Value)),
    fd = PySem.W.fnOf x x (defArgs st) (defBody st) (defScope st) dV kV doc pm an cdv ct ∧ K.lookup f = some ⟨oc, od, .func fd, osl⟩ ∧ PySem.W.codeIn K cdv x = true
  kp : PySem.W.keepIn K (.ref f) = true
structure Df (K : PySem.W.Frag) (mg : Str → Option Value) (x : Str) (st : Stmt) (ps : List Str) : Prop where
  ex : ∃ f fd, Fu K x st f fd ∧ Binds K fd ps [] ∧ mg x = some (.ref f)
structure Fn (P : Program) (w : World) (K : PySem.W.Frag) (mg : Str → Option Value) (base : Heap) (k : Nat) (x : Str) (ps : List Str) (sp : Sp) : Prop where
  ex : ∃ f fd, FnOk P w K mg base (CXE P w) k f fd ps sp ∧ mg x = some (.ref f) ∧ PySem.W.keepIn K (.ref f) = true ∧ Binds K fd ps [] ∧ ∃ oc od osl, K.lookup f = some ⟨oc, od, .func fd, osl⟩
section
variable {P : Program} {w : World} {K : PySem.W.Frag} {mg : Str → Option Value} {base : Heap} {x : Str} {st : Stmt} {N ps : List Str} {k : Nat} {sp : Sp}
theorem Df.ok0 (D : Df K mg x st ps) (S : FnScope N ps (defScope st)) (len : ∀ vs H Q E, sp vs H Q E → vs.length = ps.length)
    (hbody : ∀ (f : Addr) (cdv : Value) (A : Around) (outer : List Env) (s : Shared) (H : Hp) (vs : List V) (Q : VK) (E : XK), Room k (A.deeper (envOfC x (defScope st) s.heap.objs.size f cdv)) → sp vs H Q E →
      ∃ t, PSs (cxOf (CXE P w) P w K mg base N x (defScope st) f cdv A outer s H E).nox (defBody st) t ∧ t { nx := fun _ H' => Q .non H', rt := Q } (start N vs) H) : Fn P w K mg base (k + 1) x ps sp := by
  obtain ⟨f, fd, ⟨⟨oc, od, dV, kV, doc, pm, an, cdv, ct, osl, rfl, lk, hcd⟩, kp⟩, bd, hm⟩ := D.ex
  refine ⟨f, _, fn_of lk hcd S len fun A outer s H vs Q E hr hsp => ?_, hm, kp, bd, _, _, _, lk⟩
  obtain ⟨t, h, q⟩ := hbody f cdv A outer s H vs Q E hr hsp
  exact ⟨t, h.nox, q⟩
theorem Df.okX (D : Df K mg x st ps) (S : FnScope N ps (defScope st)) (len : ∀ vs H Q E, sp vs H Q E → vs.length = ps.length)
    (hbody : ∀ (f : Addr) (cdv : Value) (A : Around) (outer : List Env) (s : Shared) (H : Hp) (vs : List V) (Q : VK) (E : XK), Room k (A.deeper (envOfC x (defScope st) s.heap.objs.size f cdv)) → sp vs H Q E →
      ∃ t, PSs (cxOf (CXE P w) P w K mg base N x (defScope st) f cdv A outer s H E) (defBody st) t ∧ t { nx := fun _ H' => Q .non H', rt := Q } (start N vs) H) : Fn P w K mg base (k + 1) x ps sp := by
  obtain ⟨f, fd, ⟨⟨oc, od, dV, kV, doc, pm, an, cdv, ct, osl, rfl, lk, hcd⟩, kp⟩, bd, hm⟩ := D.ex
  exact ⟨f, _, fn_of lk hcd S len fun A outer s H vs Q E hr hsp => hbody f cdv A outer s H vs Q E hr hsp, hm, kp, bd, _, _, _, lk⟩
end
section
variable {X : Cx} {k k' : Nat} {x : Str} {ps : List Str} {sp : Sp} {E : XK} {p pos : Pos} {e : Expr} {es : List Expr} {t : TA}
theorem pe_fn (F : Fn X.prog X.w X.K X.mg X.base k x ps sp) (hk : k ≤ k') (hr : Room k' X.A) (hg : Gl X x) (hx : Passes (CXE X.prog X.w) X E) (ha : PA X (e :: es) t) (hdb : (x == ("__debug__" : Str)) = false := by decide)
    (he : starEach (e :: es) X.env = (false, eval e X.env) :: starEach es X.env := by rfl) (hpl : (backTo pos (starEach es X.env)).any (·.1) = false := by rfl) : PE X (.Call (.Name x p) (e :: es) [] pos) (tCall sp [] E t) := by
  obtain ⟨f, fd, G, hm, kp, bd, _⟩ := F.ex
  exact pe_call G (hr.mono hk) hg hm kp bd .nil hx ha hdb he hpl
end
end Kw
set_option Elab.async false
set_option linter.all false
set_option maxRecDepth 100000
set_option maxHeartbeats 4000000
namespace Kw
open PySem PySem.Spec PyProof.Rows L2
noncomputable def Bd (n : Nat) (i : Int) : Prop := i.natAbs < 2 ^ n
theorem Bd.mono {m n : Nat} {i : Int} (h : Bd m i) (l : m ≤ n) : Bd n i := Nat.lt_of_lt_of_le h (Nat.pow_le_pow_right (by decide) l)
theorem Bd.of_le {n : Nat} {i j : Int} (h : Bd n j) (l : i.natAbs ≤ j.natAbs) : Bd n i := Nat.lt_of_le_of_lt l h
theorem Bd.bits {n : Nat} {i : Int} (h : Bd n i) : Builtin.Int.intBits i ≤ n := intBits_le_iff.mpr h
theorem bd_bits {n : Nat} {i : Int} (h : Builtin.Int.intBits i ≤ n) : Bd n i := intBits_le_iff.mp h
theorem Bd.mul {m n : Nat} {i j : Int} (h : Bd m i) (g : Bd n j) : Bd (m + n) (i * j) := bd_bits (intBits_mul_le h.bits g.bits)
theorem Bd.add {m : Nat} {i j : Int} (h : Bd m i) (g : Bd m j) : Bd (m + 1) (i + j) := bd_bits (Nat.le_trans (intBits_add_le h.bits g.bits) (by omega))
theorem Bd.ok {m n : Nat} {i j : Int} (h : Bd m i) (g : Bd n j) (l : m + n ≤ 134217728) : IntMulOk i j := .of_le h.bits g.bits l
theorem Bd.small {i : Int} (h1 : -(2 ^ 64) < i) (h2 : i < 2 ^ 64) : Bd 64 i := bd_bits (intBits_le_64 h1 h2)
theorem Bd.log {i : Int} (h : Bd 9000 i) : i.natAbs.log2 < 9000 := by
  by_cases h0 : i.natAbs = 0
  · rw [h0]; decide +kernel
  · exact (Nat.log2_lt h0).mpr h
theorem mulOk_small {i j : Int} (h1 : -(2 ^ 64) < j) (h2 : j < 2 ^ 64) : IntMulOk i j := .of_right (intBits_le_64 h1 h2)
theorem mulOk_smallL {i j : Int} (h1 : -(2 ^ 64) < i) (h2 : i < 2 ^ 64) : IntMulOk i j := .of_left (intBits_le_64 h1 h2)
theorem bd_fT {n : Nat} {t b : Int} (h : b ≠ 0) (g : Bd n t) : Bd n (fT t b) := g.of_le (fT_le h)
theorem bd_fB {n : Nat} {t b : Int} (h : b ≠ 0) (g : Bd n b) : Bd n (fB t b) := g.of_le (fB_le h)
theorem bd_dv {n : Nat} {t b : Int} (h : b ≠ 0) (g : Bd n b) : Bd n (dv t b) := g.of_le (dv_le h)
section
variable {K : PySem.W.Frag}
theorem kit_int_int : PySem.W.kitOne K (.type "int") (.type "int") = some true := by with_unfolding_all rfl
theorem kit_int_bool : PySem.W.kitOne K (.type "int") (.type "bool") = some false := by with_unfolding_all rfl
theorem kit_tup_tup : PySem.W.kitOne K (.type "tuple") (.type "tuple") = some true := by with_unfolding_all rfl
end
noncomputable def spWhole (K : PySem.W.Frag) : Sp := fun vs H Q _ => ∃ x t b1 b2, vs = [x] ∧ TyOf K H x t ∧ PySem.W.kitOne K t (.type "int") = some b1 ∧ PySem.W.kitOne K t (.type "bool") = some b2 ∧ Q (.bl (b1 && !b2)) H
noncomputable def Frac (t b : Int) (H : Hp) (Q : VK) : Prop := ∀ p H', Same H H' → H' p = some (.tup [.int (fT t b), .int (fB t b)]) → Q (.ref p) H'
noncomputable def Scr (K : PySem.W.Frag) (H : Hp) (a : Addr) : Prop := ∃ ns : List Int, SqL K H a (ns.map V.int) ∧ ns.length ≤ 63 ∧ ∀ n ∈ ns, Bd 1048576 n
noncomputable def spCell (K : PySem.W.Frag) : Sp := fun vs H Q _ => ∃ a k, vs = [.ref a, .int k] ∧ Scr K H a ∧ 0 ≤ k ∧ k ≤ 1000 ∧ ∀ c, Bd 1048576 c → Q (.int c) H
noncomputable def spMix : Sp := fun vs H Q _ => ∃ c k, vs = [.int c, .int k] ∧ Bd 1048576 c ∧ 0 ≤ k ∧ k ≤ 1000 ∧ ∀ n, Q (.int n) H
noncomputable def spBox (K : PySem.W.Frag) : Sp := fun vs H Q _ => ∃ a k, vs = [.ref a, .int k] ∧ Scr K H a ∧ 0 ≤ k ∧ k ≤ 1000 ∧ ∀ p n H', H p = none → Same H H' → H' p = some (.lst [.int n]) → Q (.ref p) H'
noncomputable def spTake : Sp := fun vs H Q _ => ∃ b m n, vs = [.ref b, .int m] ∧ H b = some (.lst [.int n]) ∧ 0 < m ∧ Bd 9000 m ∧ ∀ d n' H', 0 ≤ d → d < m → But b H H' → H' b = some (.lst [.int n']) → Q (.int d) H'
noncomputable def spFit : Sp := fun vs H Q _ => ∃ a b : Int, vs = [.int a, .int b] ∧ b ≠ 0 ∧ Bd 9000 b ∧ Frac a b H Q
end Kw
set_option Elab.async false
set_option linter.all false
set_option maxRecDepth 100000
set_option maxHeartbeats 4000000
namespace Kw
open PySem PySem.Spec PyProof.Rows L2
noncomputable def ExcIs (x : Addr) (C : Value) (h : Heap) : Prop := ∃ o vs, h.get? x = some o ∧ o.cls = C ∧ o.data = .fields vs
section
variable {X : Cx} {pins : List (Addr × Obj)} {σ : L2.St} {H : Hp} {s : Shared} {h' : Heap} {ch : List Addr} {x : Addr}
theorem Flown.inv (pl : Plain X) (hcell : X.env.cells = []) (I : Inv X pins σ H s) (f : Flown X H s.heap h' ch) (np : ∀ p ∈ X.pn ++ pins, p.1 ∉ ch) {s' : Shared} (hs : s'.heap = h') (ho : s'.os = s.os) (hg : AllBare s'.gens) : Inv X pins σ H s' := by
  subst hs
  refine ⟨I.ok, ho.trans I.os, hg, ?_, ?_, fun x c z => ?_, I.free, I.freeC, fun p hp => ?_, f.hok I, I.len⟩
  · have u := f.un pl I
    rw [pl.ex]
    exact u
  · obtain ⟨m, hn, hl⟩ := I.loc
    obtain ⟨o, es, ep, e1, e2, e3⟩ := hn
    obtain ⟨sl, e4⟩ := f.slot _ o e1 (locInStack pl)
    refine ⟨m, ⟨_, es, ep, e4, e2, e3⟩, fun i x v a b c => ?_⟩
    obtain ⟨u, r, lk⟩ := hl i x v a b c
    refine ⟨u, r, ?_⟩
    rcases lk with lk | ⟨_, c', lk, _⟩
    · exact .inl lk
    · rw [hcell] at lk
      cases lk
  · rw [hcell] at z
    cases z
  · obtain ⟨a, b, c, d, e⟩ := I.pin p hp
    refine ⟨f.keep _ _ a (fun z => ?_) (np p hp), b, c, d, e⟩
    rcases List.mem_cons.mp (I.stkSub _ z) with q | q
    · exact c q
    · exact d q
theorem Inv.adopt (hcl : ∀ y c, X.env.cells.lookup y = some c → c ≠ x)   {o : HO} (I : Inv X pins σ H s) (n0 : X.s₀.heap.get? x = none) (hx : H x = none) (hL : x ≠ X.env.locals) (np : ∀ p ∈ X.pn ++ pins, p.1 ≠ x) (ok : ObjOk X.prog X.w (upd H x o) s.heap x o) :
    Inv X pins σ (upd H x o) s := by
  have nx : ∀ b, H b ≠ none → b ≠ x := fun b hb z => hb (by rw [z]; exact hx)
  refine ⟨I.ok, I.os, I.bare, ⟨I.base.keep, I.base.slot, fun b ob q n hb => ?_, I.base.there, fun b xs q => ?_, fun b ob u q => ?_, fun b ps q => ?_⟩, I.loc, I.cell, ?_, fun y c z => ?_, fun p hp => ?_, fun a u e => ?_, I.len⟩
  · rw [upd_ne fun z => by rw [z, n0] at q; cases q]
    exact I.base.free b ob q n hb
  · have z := I.base.tups b xs q
    rw [upd_ne (nx b (by rw [z]; exact fun q => nomatch q))]
    exact z
  · have z := I.base.frzs b ob u q
    rw [upd_ne (nx b (by rw [z]; exact fun q => nomatch q))]
    exact z
  · obtain ⟨more, z⟩ := I.base.tbls b ps q
    exact ⟨more, by rw [upd_ne (nx b (by rw [z]; exact fun q => nomatch q))]; exact z⟩
  · rw [upd_ne (Ne.symm hL)]
    exact I.free
  · rw [upd_ne (hcl y c z)]
    exact I.freeC y c z
  · obtain ⟨a, b, c, d, e⟩ := I.pin p hp
    exact ⟨a, by rw [upd_ne (np p hp)]; exact b, c, d, e⟩
  · by_cases z : a = x
    · subst z
      rw [upd_same] at e
      cases e
      exact ok
    · rw [upd_ne z] at e
      refine (I.hok a u e).stay (fun b v hb q => q) (fun b q => ?_) fun b xs q => ?_
      · rw [upd_ne (nx b (by rw [q]; exact fun q => nomatch q))]
        exact q
      · rw [upd_ne (nx b (by rw [q]; exact fun q => nomatch q))]
        exact q
end
noncomputable def sut (X : Cx) (x : Addr) : Cx := { X with A := X.A.mark (some (.ref x)), calm := false, xe := fun _ _ => False }
theorem Inv.sut {X : Cx} {pins : List (Addr × Obj)} {σ : L2.St} {H : Hp} {s : Shared} (I : Inv X pins σ H s) (x : Addr) : Inv (sut X x) pins σ H s := by
  obtain ⟨ok, r1, r2, r3, r4, r5, r6, r7, r8, r9, r10⟩ := I
  obtain ⟨a1, a2, a3, a4, a5, a6, a7, a8, a9, a10, a11, a12, a13, a14, a15, a16, a17, a18⟩ := ok
  exact ⟨⟨a1, a2, a3, a4, a5, a6, a7, a8, (fun z => nomatch z), a10, a11, a12, a13, a14, a15, a16, a17, a18⟩, r1, r2, r3, r4, r5, r6, r7, r8, r9, r10⟩
theorem Inv.unsut {X : Cx} {pins : List (Addr × Obj)} {σ : L2.St} {H : Hp} {s : Shared} {x : Addr} (ok : X.Ok) (I : Inv (Kw.sut X x) pins σ H s) : Inv X pins σ H s := by
  obtain ⟨_, r1, r2, r3, r4, r5, r6, r7, r8, r9, r10⟩ := I
  exact ⟨ok, r1, r2, r3, r4, r5, r6, r7, r8, r9, r10⟩
end Kw
set_option Elab.async false
set_option linter.all false
set_option maxRecDepth 100000
set_option maxHeartbeats 4000000
namespace Kw
open PySem PySem.Spec PyProof.Rows L2
section
variable {X : Cx} {pins : List (Addr × Obj)} {σ : L2.St} {H : Hp} {s : Shared}
theorem Inv.forget (pl : Plain X) (hcell : X.env.cells = []) (I : Inv X pins σ H s) {h' : Heap} {m' : Str → Option Value} {tk : Nat} (hn : h'.Ns X.env.locals m') (sb : Heap.SameBut X.env.locals s.heap h') :
    Inv X pins (List.replicate X.N.length none) H { s with heap := h', toks := tk } := by
  have kp : ∀ b, b ≠ X.env.locals → h'.get? b = s.heap.get? b := fun b hb => sb.2 b hb
  have old : ∀ b o, X.s₀.heap.get? b = some o → b ≠ X.env.locals := fun b o q z => by
    subst z
    exact absurd (Heap.lt_size q) (Nat.not_lt.mpr I.ok.above)
  refine ⟨I.ok, I.os, I.bare, ⟨fun b o q n a c => ?_, fun b o q n a c => ?_, I.base.free, fun b o q c => ?_, I.base.tups, I.base.frzs, I.base.tbls⟩, ⟨m', hn, fun i x v a b c => ?_⟩, fun x c z => ?_, I.free, I.freeC, fun p hp => ?_, fun a o e => ?_, by simp⟩
  · exact (kp b (old b o q)).trans (I.base.keep b o q n a c)
  · obtain ⟨sl, z⟩ := I.base.slot b o q n a c
    exact ⟨sl, (kp b (old b o q)).trans z⟩
  · obtain ⟨o', z⟩ := I.base.there b o q c
    exact ⟨o', (kp b (old b o q)).trans z⟩
  · exfalso
    rw [List.getElem?_replicate] at b
    split at b <;> cases b
  · rw [hcell] at z
    cases z
  · obtain ⟨a, b, c, d, e⟩ := I.pin p hp
    exact ⟨(kp _ c).trans a, b, c, d, e⟩
  · refine (I.hok a o e).stay (fun b u hb ho => ?_) (fun _ z => z) fun _ _ z => z
    have nb : b ≠ X.env.locals := fun z => by
      subst z
      rcases hb with q | q
      · rw [← q, I.free] at e; cases e
      · rw [I.free] at q; cases q
    exact (kp b nb).trans ho
end
section
variable {X : Cx} {k k' i j : Nat} {fx y n xK : Str} {ps : List Str} {sp : Sp} {CK : Addr} {e : Expr} {es : List Expr} {t : TA} {ts : TS} {b₀ : Stmt} {suite : List Stmt} {np cpos yp apos kp hpos pos : Pos}
end
end Kw
set_option Elab.async false
set_option linter.all false
set_option maxRecDepth 100000
set_option maxHeartbeats 4000000
namespace Kw
open PySem PySem.Spec PyProof.Rows L2
theorem exc_ty {x : Addr} {C : Value} (M : Model) (h : Heap) (p : ExcIs x C h) : PySem.W.Looks M h (typeOf (.ref x)) C := by
  obtain ⟨o, vs, a, b, _⟩ := p
  exact b ▸ (PySem.W.Looks.ld a).andThen .now
section
variable {X : Cx}
end
end Kw
set_option Elab.async false
set_option linter.all false
set_option maxRecDepth 100000
set_option maxHeartbeats 4000000
namespace Kw
open PySem PySem.Spec PyProof.Rows L2
section
variable {X : Cx} {pins : List (Addr × Obj)} {σ : L2.St} {H : Hp} {s : Shared} {h' : Heap} {ch : List Addr}
end
end Kw
set_option Elab.async false
set_option linter.all false
set_option maxRecDepth 100000
set_option maxHeartbeats 4000000
namespace Kw
open PySem PySem.Spec PyProof.Rows L2
section
variable {X : Cx}
end
end Kw
set_option Elab.async false
set_option linter.all false
set_option maxRecDepth 100000
set_option maxHeartbeats 4000000
namespace Kw
open PySem PySem.Spec PyProof.Rows L2
theorem weight_items : ∀ (ns : List Int) (n : Int), n ∈ ns → Builtin.Int.intBits n ≤ PySem.W.WData.weightAll (ns.map PySem.W.WData.int)
  | [], _, h => nomatch h
  | m :: r, n, h => by
    have e : PySem.W.WData.weightAll ((m :: r).map PySem.W.WData.int) = Builtin.Int.intBits m + 1 + PySem.W.WData.weightAll (r.map PySem.W.WData.int) := rfl
    rw [e]
    rcases List.mem_cons.mp h with z | z
    · subst z; omega
    · have := weight_items r n z
      omega
theorem script_bits {ns : List Int} (h : PySem.W.WData.layableAll [PySem.W.WData.list (ns.map PySem.W.WData.int)] = true) : ∀ n ∈ ns, Bd 1048576 n := fun n hn => by
  have h1 : PySem.W.WData.layable (PySem.W.WData.list (ns.map PySem.W.WData.int)) = true := by
    unfold PySem.W.WData.layableAll at h
    simpa using h
  unfold PySem.W.WData.layable at h1
  rw [Bool.and_eq_true] at h1
  have h2 : PySem.W.WData.weightAll (ns.map PySem.W.WData.int) ≤ 2 ^ 20 := of_decide_eq_true h1.2
  exact bd_bits (Nat.le_trans (weight_items ns n hn) h2)
noncomputable def spLaw (K : PySem.W.Frag) : Sp := fun vs H Q _ => ∃ a, vs = [.ref a] ∧ Scr K H a ∧ ∀ H', Q (.bl true) H'
theorem walk_kw {pn : Str} {l : PySem.W.OpenLaw} {k : Nat} {q : Program} {loose : List Str} {XP : (Str → Option Value) → Heap → Prop} {YP : World → Heap → Prop} {d : DefRec} {K : Params → PySem.W.Frag}
    (hn : l.most = some 63) (hdf : d.params.defaults = []) (hr : Room k callerA) (hY : ∀ (w : World) (h : Heap), YP w h → (K w.params).In h) (hnm : d.name = "law")
    (F : ∀ (w : World) (mg : Str → Option Value) (h : Heap), (K w.params).In h → h.Ns mainGlobals mg → ∃ fa, mg "law" = some (.ref fa) ∧ ∃ fd : FuncData, (∀ (s : Shared) (u : Value), BindsTo s fd ⟨[u], []⟩ [(pn, u)]) ∧
      ∀ base : Heap, (K w.params).In base → base.Ns mainGlobals mg → FnOk l.prog w (K w.params) mg base (CXE l.prog w) k fa fd [pn] (spLaw (K w.params))) :
    PySem.W.WalkO q loose XP YP l.row.toRowW d [] (fun f vs => PySem.call f vs) := by
  intro w s₀ s₁ mg mb G Y fa o pm cd doc dV kV ho hd hcd hD hmg hg args vals as hpre hlay hrd hwl hlo
  obtain ⟨a, vs, ns, e1, e2, hobj, hints, hlen⟩ := Att.script_of hn hpre hwl
  subst e1 e2
  have KX := hY w _ Y
  obtain ⟨fa', hfa, fd, hb, hF⟩ := F w mg _ KX G.T.g
  rw [hnm, hfa] at hmg
  cases hmg
  have core := law_call KX G.T.g G.T.b G.T.builtins G.T.nolimit hg hobj hints (Nat.le_trans hlen (by decide)) hr hF hb (fun H hO hS => ⟨a, rfl, ⟨ns, hS, hlen, script_bits hlay⟩, fun _ => rfl⟩) (fun H e s' z => by
    obtain ⟨_, _, _, _, _, _, _, _, _, _, z⟩ := z
    exact z)
  refine PySem.W.enter_call (codeAny_mono core fun r s' hq => ?_)
  obtain ⟨rfl, h2, h3, h4⟩ := hq
  exact ⟨.inl ⟨.bool true, .bool true, [], rfl, fun _ => rfl, .bool true, Att.post_true l _, fun _ => ⟨List.Pairwise.nil, fun _ hm => (nomatch hm)⟩⟩, h2, h3, h4⟩
theorem pe_cls {X : Cx} {x : Str} {C : Addr} {pos : Pos} (hg : Gl X x) (hm : X.mg x = some (.ref C)) (hd : (x == ("__debug__" : Str)) = false := by decide) : PE X (.Name x pos) (tC (.ref C)) := pe_glob hg hm (v := .ref C) rfl hd
theorem plain_nox {CX : CXT} {P : Program} {w : World} {K : PySem.W.Frag} {mg : Str → Option Value} {base : Heap} {N : List Str} {qual : Str} {scope : Scope} {f : Addr} {cd : Value} {A : Around} {outer : List Env} {s : Shared} {H : Hp} {E : XK} :
    Plain (cxOf CX P w K mg base N qual scope f cd A outer s H E).nox := ⟨rfl, rfl, rfl⟩
theorem df_mk {K : PySem.W.Frag} {h : Heap} {mg : Str → Option Value} {x : Str} {st : Stmt} {ps : List Str} {f : Addr} {od an : Option Addr} {sl : Array (Option Value)} {oc kV dc pm cd ct : Value} (X : K.In h) (G : h.Ns mainGlobals mg)
    (a : PySem.W.nsIn K mainGlobals x = some (some (.ref f))) (l : K.lookup f = some ⟨oc, od, .func (PySem.W.fnOf x x (defArgs st) (defBody st) (defScope st) .none kV dc pm an cd ct), sl⟩) (c : PySem.W.codeIn K cd x = true) (k : PySem.W.keepIn K (.ref f) = true)
    (b : ∀ us : List Value, us.length = ps.length → bindArgs (PySem.W.fnOf x x (defArgs st) (defBody st) (defScope st) .none kV dc pm an cd ct) ⟨us, []⟩ = pure (ps.zip us)) : Df K mg x st ps :=
  ⟨f, _, ⟨⟨oc, od, .none, kV, dc, pm, an, cd, ct, sl, rfl, l, c⟩, k⟩, .all b, PySem.W.mg_of X G a⟩
theorem law_end {pn : Str} {P : Program} {w : World} {K : PySem.W.Frag} {h : Heap} {mg : Str → Option Value} {st : Stmt} {f : Addr} {od an : Option Addr} {sl : Array (Option Value)} {oc kV dc pm cd ct : Value} {k : Nat} (X : K.In h) (G : h.Ns mainGlobals mg)
    (a : PySem.W.nsIn K mainGlobals "law" = some (some (.ref f))) (l : K.lookup f = some ⟨oc, od, .func (PySem.W.fnOf "law" "law" (defArgs st) (defBody st) (defScope st) .none kV dc pm an cd ct), sl⟩)
    (b : ∀ u : Value, bindArgs (PySem.W.fnOf "law" "law" (defArgs st) (defBody st) (defScope st) .none kV dc pm an cd ct) ⟨[u], []⟩ = pure [(pn, u)])
    (F : ∀ base : Heap, K.In base → base.Ns mainGlobals mg → Fn P w K mg base k "law" [pn] (spLaw K)) :
    ∃ fa, mg "law" = some (.ref fa) ∧ ∃ fd : FuncData, (∀ (s : Shared) (u : Value), BindsTo s fd ⟨[u], []⟩ [(pn, u)]) ∧ ∀ base : Heap, K.In base → base.Ns mainGlobals mg → FnOk P w K mg base (CXE P w) k fa fd [pn] (spLaw K) := by
  have hm := PySem.W.mg_of X G a
  refine ⟨f, hm, _, fun s u => .of_eq (b u), fun base kb nb => ?_⟩
  obtain ⟨f', fd', G', hm', _, _, _, _, _, lk⟩ := (F base kb nb).ex
  rw [hm] at hm'
  cases hm'
  rw [l] at lk
  cases lk
  exact G'
end Kw
set_option maxRecDepth 100000
namespace Kw
theorem q_of {n d : Int} (hd : 0 < d) (hg : Int.gcd n d = 1) : (Rat.divInt n d).num = n ∧ (((Rat.divInt n d).den : Nat) : Int) = d := by
  rw [Rat.num_divInt, Rat.den_divInt, Int.gcd_comm, hg, Int.sign_eq_one_of_pos hd, if_neg (by omega)]
  constructor
  · simp
  · simp; omega
theorem q_is {q : Rat} {n d : Int} (hd : 0 < d) (hg : Int.gcd n d = 1) (e : q = Rat.divInt n d) : n = q.num ∧ d = ((q.den : Nat) : Int) := by
  subst e
  obtain ⟨a, b⟩ := q_of hd hg
  exact ⟨a.symm, b.symm⟩
theorem gcd_fT_fB {t b : Int} (h : b ≠ 0) : Int.gcd (fT t b) (fB t b) = 1 := by
  have hp : 0 < Int.gcd t b := Int.gcd_pos_of_ne_zero_right _ h
  have e1 := fT_mul t b
  have e2 := fB_mul t b
  have e : Int.gcd (dv t b * fT t b) (dv t b * fB t b) = (dv t b).natAbs * Int.gcd (fT t b) (fB t b) := Int.gcd_mul_left ..
  rw [e1, e2] at e
  have hn : (dv t b).natAbs = Int.gcd t b := by unfold dv; split <;> simp
  rw [hn] at e
  exact Nat.eq_of_mul_eq_mul_left hp (by omega)
theorem q_fit {t b : Int} (h : b ≠ 0) : fT t b = (Rat.divInt t b).num ∧ fB t b = (((Rat.divInt t b).den : Nat) : Int) := by
  refine q_is (fB_pos h) (gcd_fT_fB h) ?_
  have e := Rat.divInt_mul_left (n := fT t b) (d := fB t b) (dv_ne (t := t) h)
  rw [fT_mul, fB_mul] at e
  exact e
theorem q_pos (q : Rat) : 0 < ((q.den : Nat) : Int) := by
  have := q.den_nz
  omega
theorem q_lt (x y : Rat) : x < y ↔ x.num * y.den < y.num * x.den := Rat.lt_iff x y
end Kw
set_option Elab.async false
set_option linter.all false
set_option maxRecDepth 100000
set_option maxHeartbeats 4000000
namespace Kw
open PySem PySem.Spec PyProof.Rows L2 PySem.Builtin PySem.Builtin.ObjectAttr PySem.Builtin.Getset_descriptor
structure ExcQ (K : PySem.W.Frag) (C : Addr) : Prop where
  ga : PySem.W.findIn K (.ref C) "__getattribute__" = some (some (.builtin "BaseException.__getattribute__"))
  hk : PySem.W.findIn K (.ref C) "__getattr__" = some none
  cl : PySem.W.findIn K (.ref C) "__class__" = some (some (.builtin "object.__class__"))
  gt : PySem.W.specialIn K (.builtin "object.__class__") "__get__" = some (some (.builtin "getset_descriptor.__get__"))
  tk : PySem.W.takesIn K (.builtin "object.__class__") = some true
  ob : PySem.W.mroIn K C (.type "object") = some true
  be : PySem.W.mroIn K C (.type "BaseException") = some true
section
variable {prog : Program} {w : World} {A : Around} {E : Value → Shared → Prop} {s : Shared} {K : PySem.W.Frag} {x C : Addr}
theorem find_cls {M : Model} {h : Heap} {self : Value} (kx : K.In h) (q : ExcQ K C) : PySem.W.Looks M h (find self (.ref C) "__class__") (.bind (.builtin "getset_descriptor.__get__") (.builtin "object.__class__")) := by
  have l1 := PySem.W.looks_findIn (M := M) kx q.cl
  have l2 : PySem.W.Looks M h (getOf (some (.builtin "object.__class__"))) _ := PySem.W.looks_specialIn kx q.gt
  have l3 := PySem.W.looks_takesIn (M := M) kx q.tk
  have l4 : PySem.W.Looks M h (dataDescriptor? (some (.builtin "object.__class__")) (some (.builtin "getset_descriptor.__get__"))) (some (.builtin "getset_descriptor.__get__", .builtin "object.__class__")) := l3.andThen .now
  exact l1.andThen (l2.andThen (l4.andThen (PySem.W.Looks.tag .now)))
theorem cls_get {R : Result → Shared → Prop} {tp : Value} (kx : K.In s.heap) (L0 : PySem.W.Looks (model prog w) s.heap (typeOf (.ref x)) (.ref C)) (q : ExcQ K C) (want : R (.ok (.ret (.ref C))) s) :
    codeAny (model prog w) A (.call (.builtin "getset_descriptor.__get__") ⟨[.builtin "object.__class__", .ref x, tp], []⟩) R s := by
  obtain ⟨z0, z1, z2, z3, z4⟩ := s
  have L1 := PySem.W.looks_mroIn (M := model prog w) kx q.ob
  refine codeAny_call_builtin PySem.W.KF.slot_gs.plain PySem.W.KF.entry_gs (PySem.W.KF.slot_gs.check _ _ _ _ _ _ _ _ PySem.W.KF.type_class (PySem.W.KF.args_gs _ _ _) ?_)
  unfold Builtin.«getset_descriptor.__get__» descrGet
  rw [PySem.W.dga_obj]
  refine wpAny_bind (wpAny_pure ?_)
  unfold descrGetter descrCheckInstance descrNameAndClass isInstance
  simp only [PySem.W.KF.owner_class]
  repeat lk
  refine ⟨Code.quiet_builtin _ (by decide +kernel), codeAny_builtin PySem.W.KF.entry_class ?_⟩
  unfold Builtin.«object.__class__» shownTypeOf
  repeat lk
  exact want
theorem ga_entry {tk : Tok} {Q : Fin → Shared → Prop} (kx : K.In s.heap) (L0 : PySem.W.Looks (model prog w) s.heap (typeOf (.ref x)) (.ref C)) (q : ExcQ K C) (want : Q (.done (.ret (.ref C))) s) :
    wpAny (model prog w) A (Builtin.«object.__getattribute__» ⟨[.ref x, .str "__class__" tk], []⟩) Q E s := by
  obtain ⟨z0, z1, z2, z3, z4⟩ := s
  have L1 := find_cls (M := model prog w) (self := .ref x) kx q
  unfold Builtin.«object.__getattribute__»
  repeat ((fail_if_success (with_reducible show wpAny _ _ (bindTo _ _ _ _) _ _ _)); lk)
  unfold bindTo
  refine wpAny_bind (wpAny_holding (wpAny_call (cls_get kx L0 q ?_)))
  exact wpAny_pure want
theorem ga_check {nameV : Value} {Q : Unit → Shared → Prop} (kx : K.In s.heap) (L0 : PySem.W.Looks (model prog w) s.heap (typeOf (.ref x)) (.ref C)) (q : ExcQ K C) (want : Q () s) :
    wpAny (model prog w) A (checkBuiltinCall "BaseException.__getattribute__" ⟨[.ref x, nameV], []⟩) Q E s := by
  obtain ⟨z0, z1, z2, z3, z4⟩ := s
  have hk : builtinKind "BaseException.__getattribute__" = some .slot := by decide +kernel
  have hsp : splitId "BaseException.__getattribute__" = some ("BaseException", "__getattribute__") := by decide +kernel
  have L1 := PySem.W.looks_mroIn (M := model prog w) kx q.be
  have ha := PySem.F.args_bexc_ga (.ref x) nameV
  simp only [checkBuiltinCall, hk, hsp]
  refine wpAny_bind ?_
  unfold isInstance
  repeat (first | lk | wp_step)
  exact want
theorem exc_class {Q : Option Value → Shared → Prop} (kx : K.In s.heap) (L0 : PySem.W.Looks (model prog w) s.heap (typeOf (.ref x)) (.ref C)) (q : ExcQ K C) (want : Q (some (.ref C)) { s with toks := s.toks + 1 }) :
    wpAny (model prog w) A (getAttr? (.ref x) "__class__") Q E s := by
  obtain ⟨z0, z1, z2, z3, z4⟩ := s
  have L1 := PySem.W.looks_findIn (M := model prog w) kx q.ga
  have L2 := PySem.W.looks_findIn (M := model prog w) kx q.hk
  have f3 := PySem.F.excAttr_ValueError.ga.bind (.ref x)
  unfold getAttr? getAttrBy? getAttrBy
  refine wpAny_bind (wpAny_mkText (wpAny_bind (wpAny_attempt (wpAny_holding (wpAny_bind (L0.at (wpAny_bind (L1.at ?_))))))))
  dsimp only
  have e1 : (Value.builtin "BaseException.__getattribute__" == Value.builtin "object.__getattribute__") = false := by decide +kernel
  rw [e1, Bool.and_false, if_neg (by decide)]
  unfold getAttrByItsOwn hookBefore
  rw [show onTheHeap (Value.ref C) = true from rfl, if_pos rfl]
  refine wpAny_bind (L2.at ?_)
  refine wpAny_bind (wpAny_attempt (wpAny_holding ?_))
  unfold callGetattribute boundAndCalled
  rw [if_neg (by decide), f3]
  refine wpAny_bind (wpAny_pure ?_)
  dsimp only
  refine wpAny_call (codeAny_call_builtin PySem.F.excAttr_ValueError.ga.plain PySem.F.entry_bexc_ga (ga_check kx L0 q (ga_entry kx L0 q ?_)))
  exact wpAny_pure (wpAny_pure want)
theorem cls_of (q : ExcQ K C) : ∃ c d cd sl, K.lookup C = some ⟨c, d, .cls cd, sl⟩ := by
  obtain ⟨cd, e, _⟩ := Option.bind_eq_some_iff.mp q.ob
  unfold PySem.W.clsIn at e
  split at e
  · rename_i ho
    exact ⟨_, _, _, _, ho⟩
  · cases e
theorem kitx_exc (q : ExcQ K C) : PySem.W.KitX K (.ref x) (.ref C) (ExcIs x (.ref C)) where
  ty := fun M h _ p => exc_ty M h p
  it := fun M h kx _ => by
    obtain ⟨c, d, cd, sl, ho⟩ := cls_of q
    intro A' Q' E' s' keep want
    unfold isType loadHead
    exact wpAny_bind (wpAny_loadPart (keep _ _ (kx _ _ ho)) (wpAny_pure want))
  ne := fun h tp dd its n sl kx htp => by
    obtain ⟨c, d, cd, sl', ho⟩ := cls_of q
    refine Bool.eq_false_iff.mpr fun z => ?_
    have e : C = tp := Value.ref.inj (beq_iff_eq.mp z)
    subst e
    have y := (kx _ _ ho).symm.trans htp
    cases y
  ca := fun kx p want => exc_class kx (exc_ty _ _ p) q want
end
section
variable {X : Cx}
end
end Kw
set_option Elab.async false
set_option linter.all false
set_option maxRecDepth 100000
set_option maxHeartbeats 4000000
namespace Kw
open PySem PySem.Spec PyProof.Rows L2
mutual
inductive Dp (K : PySem.W.Frag) (H : Hp) : V → PyData → Prop
  | non : Dp K H .non .none
  | bl (b : Bool) : Dp K H (.bl b) (.bool b)
  | int (i : Int) : Dp K H (.int i) (.int i)
  | str (x : Str) : Dp K H (.str x) (.str x)
  | lst {p : Addr} {xs : List V} {ds : List PyData} : SqL K H p xs → Dps K H xs ds → Dp K H (.ref p) (.list ds)
  | tup {p : Addr} {xs : List V} {ds : List PyData} : SqT K H p xs → Dps K H xs ds → Dp K H (.ref p) (.tuple ds)
inductive Dps (K : PySem.W.Frag) (H : Hp) : List V → List PyData → Prop
  | nil : Dps K H [] []
  | cons {x : V} {xs : List V} {d : PyData} {ds : List PyData} : Dp K H x d → Dps K H xs ds → Dps K H (x :: xs) (d :: ds)
end
section
variable {X : Cx} {pins : List (Addr × Obj)} {σ : L2.St} {H : Hp} {s : Shared}
mutual
theorem Dp.reads (I : Inv X pins σ H s) : ∀ {x : V} {d : PyData} {u : Value}, Dp X.K H x d → RelV x u → ∃ as, Reads s.heap u d as
  | _, _, _, .non, r => by cases r; exact ⟨_, .none⟩
  | _, _, _, .bl b, r => by cases r; exact ⟨_, .bool b⟩
  | _, _, _, .int i, r => by obtain ⟨t, rfl⟩ := r; exact ⟨_, .int i t⟩
  | _, _, _, .str x, r => by obtain ⟨t, rfl⟩ := r; exact ⟨_, .str x t⟩
  | _, _, _, .lst h q, r => by
    cases r
    obtain ⟨its, r', pl, hz⟩ := I.list h
    obtain ⟨as, ra⟩ := Dps.reads I q r'
    obtain ⟨o, n, ho, hc, _, hd⟩ := pl
    exact ⟨_, .list ho hc hd ra⟩
  | _, _, _, .tup h q, r => by
    cases r
    obtain ⟨its, r', pl, hz⟩ := I.tuple h
    obtain ⟨as, ra⟩ := Dps.reads I q r'
    obtain ⟨o, ho, hc, n, hd⟩ := pl
    exact ⟨_, .tuple ho hc hd ra⟩
theorem Dps.reads (I : Inv X pins σ H s) : ∀ {xs : List V} {ds : List PyData} {us : List Value}, Dps X.K H xs ds → Vals xs us → ∃ as, ReadsAll s.heap us ds as
  | _, _, _, .nil, r => by cases r; exact ⟨_, .nil⟩
  | _, _, _, .cons h q, r => by
    cases r with
    | cons a b =>
      obtain ⟨as, ra⟩ := Dp.reads I h a
      obtain ⟨bs, rb⟩ := Dps.reads I q b
      exact ⟨_, .cons ra rb⟩
end
noncomputable def rDp (K : PySem.W.Frag) (g : Bool → Bool) : V → V → Hp → VK → Prop := fun x y H Q => ∃ dx dy, Dp K H x dx ∧ Dp K H y dy ∧ dx.canLay0 = true ∧ dy.canLay0 = true ∧ min dx.depth dy.depth ≤ 60 ∧ Q (.bl (g (PyData.eqv dx dy))) H
theorem op_eqD {K : PySem.W.Frag} (hK : X.K = K) (hu : X.A.units + 100 < cLine) : OpR X (compareOp .Eq) (rDp K id) := by
  subst hK
  intro pins s σ H x y v u Q I rx ry h
  obtain ⟨dx, dy, hx, hy, cx, cy, dep, q⟩ := h
  obtain ⟨as, ra⟩ := hx.reads I rx
  obtain ⟨bs, rb⟩ := hy.reads I ry
  exact SeqAt.compareEq_reads ra rb cx cy (by omega) ⟨.bl (PyData.eqv dx dy), H, I, rfl, q⟩
theorem op_neD {K : PySem.W.Frag} (hK : X.K = K) (hu : X.A.units + 100 < cLine) : OpR X (compareOp .NotEq) (rDp K not) := by
  subst hK
  intro pins s σ H x y v u Q I rx ry h
  obtain ⟨dx, dy, hx, hy, cx, cy, dep, q⟩ := h
  obtain ⟨as, ra⟩ := hx.reads I rx
  obtain ⟨bs, rb⟩ := hy.reads I ry
  exact SeqAt.compareNe_reads ra rb cx cy (by omega) ⟨.bl (!PyData.eqv dx dy), H, I, rfl, q⟩
end
end Kw
set_option Elab.async false
set_option linter.all false
set_option maxRecDepth 100000
set_option maxHeartbeats 4000000
namespace Kw
open PySem PySem.Spec PyProof.Rows L2
section
variable {X : Cx} {pos : Pos} {k v : Expr} {x : Str} {i : Int}
end
end Kw
namespace Kw
open PySem PySem.Spec PyProof.Rows L2
section
variable {X : Cx}
end
section
variable {K : PySem.W.Frag} {H H' : Hp} {v : V} {t : Value}
noncomputable def WhN (K : PySem.W.Frag) (H : Hp) (v : V) : Prop := ∃ t b1 b2, TyOf K H v t ∧ PySem.W.kitOne K t (.type "int") = some b1 ∧ PySem.W.kitOne K t (.type "bool") = some b2 ∧ (b1 && !b2) = false
theorem kit_non_int : PySem.W.kitOne K (.type "NoneType") (.type "int") = some false := by with_unfolding_all rfl
theorem kit_non_bool : PySem.W.kitOne K (.type "NoneType") (.type "bool") = some false := by with_unfolding_all rfl
theorem kit_tup_int : PySem.W.kitOne K (.type "tuple") (.type "int") = some false := by with_unfolding_all rfl
theorem kit_tup_bool : PySem.W.kitOne K (.type "tuple") (.type "bool") = some false := by with_unfolding_all rfl
noncomputable def FracB (K : PySem.W.Frag) (H : Hp) (x : V) (b : Bool) : Prop :=
  (b = false ∧ ∃ t, TyOf K H x t ∧ PySem.W.kitOne K t (.type "tuple") = some false) ∨ (b = false ∧ ∃ p xs, x = .ref p ∧ H p = some (.tup xs) ∧ xs.length ≠ 2) ∨
  (b = false ∧ ∃ p u v, x = .ref p ∧ H p = some (.tup [u, v]) ∧ (WhN K H u ∨ (∃ i, u = .int i) ∧ WhN K H v)) ∨
  ∃ p i j, x = .ref p ∧ H p = some (.tup [.int i, .int j]) ∧ Bd 4000 j ∧ b = (decide (1 ≤ j) && decide (((Int.gcd i j : Nat) : Int) = 1))
end
end Kw
namespace Kw
open PySem PySem.Spec PyProof.Rows L2
section
variable {X : Cx} {k k' : Nat} {x : Str} {ps : List Str} {sp : Sp} {E : XK} {p pos : Pos} {e : Expr} {es : List Expr} {t : TA} {dv : V}
end
end Kw
namespace Kw
end Kw
namespace Kw
open PySem PySem.Spec PyProof.Rows L2
end Kw
namespace Kw
open PySem PySem.Spec PyProof.Rows L2
theorem newO {H : Hp} {p : Addr} (hp : H p = none) (o : HO) : ∃ H', upd H p o = H' ∧ Same H H' ∧ H' p = some o := ⟨_, rfl, same_new hp o, upd_same⟩
end Kw
namespace Kw
open PySem PySem.Spec PyProof.Rows L2
end Kw
theorem Kw.u100 {k : Nat} {A : PySem.Around} (r : L2.Room k A) : A.units + 100 < PySem.cLine := by have := r.un; omega
namespace Kw
open PySem PySem.Spec PyProof.Rows L2
theorem cut1 {s1 r : TS} {D : Ends} {σ : L2.St} {H : Hp} (P : L2.St → Hp → Prop) (h : ∀ N : L2.St → Hp → Prop, (∀ σ' H', P σ' H' → N σ' H') → s1 { D with nx := N } σ H) (rest : ∀ σ' H', P σ' H' → r D σ' H') :
    tSeq s1 r D σ H := h (r D) rest
end Kw
set_option Elab.async false
set_option linter.all false
set_option maxRecDepth 100000
set_option maxHeartbeats 4000000
namespace Kw
open PySem PySem.Spec PyProof.Rows L2
noncomputable def cxC (X : Cx) (N : List Str) (scope : Scope) (cl : List (Str × Addr)) (C : Addr) (s : Shared) (H : Hp) (fp : List Addr) : Cx :=
  { X with N := N, s₀ := s, H₀ := H, env := compEnvC scope cl C X.env, outer := X.stack, stack := X.stack, ex := fp, fn := fun _ => false, pn := [], xe := fun _ _ => False }
section
variable {X : Cx} {pins : List (Addr × Obj)} {σ : L2.St} {H : Hp} {s : Shared} {N ns : List Str} {scope : Scope} {cl : List (Str × Addr)} {C : Addr} {fp : List Addr} {x : Str} {idx : List Nat}
theorem okC (I : Inv X pins σ H s) (f : ∀ b ∈ fp, FpOk X pins H b) (lt : ∀ b ∈ fp, b < s.heap.objs.size) (hC : s.heap.objs.size ≤ C) (hkind : scope.kind = .function) (hcl : ∀ y c, cl.lookup y = some c → X.env.cells.lookup y = some c)
    (hfr : ∀ y, ((compEnvC scope cl C X.env).kindOf y = some .cell ∨ (compEnvC scope cl C X.env).kindOf y = some .free) → ∃ c, cl.lookup y = some c) : (cxC X N scope cl C s H fp).Ok where
  mod := I.ok.mod
  kind := hkind
  glob := I.ok.glob
  blt := I.ok.blt
  above := hC
  inj := fun x y c e1 e2 => I.ok.inj x y c (hcl _ _ e1) (hcl _ _ e2)
  has := hfr
  cab := fun _ _ h => nomatch h
  hd := I.ok.hd
  frames := I.ok.frames
  stk := .inl rfl
  exf := fun b hb => ⟨Nat.ne_of_lt (Nat.lt_of_lt_of_le (lt b hb) hC), fun x c e => (f b hb).2.2.2.2.1 x c (hcl _ _ e)⟩
  bs := I.bs
  bsz := Nat.le_trans I.ok.bsz I.sz
  noex := fun b o e hb => by
    rcases (f b hb).2.2.2.1 with z | z
    · exact I.ok.noex b o e z
    · exact absurd (Nat.lt_of_lt_of_le (Heap.lt_size e) (Nat.le_trans I.ok.bsz z)) (Nat.lt_irrefl _)
  exfs := fun b hb hs => by
    rcases List.mem_cons.mp (I.stkSub b hs) with z | z
    · exact (f b hb).2.1 z
    · exact (f b hb).2.2.1 z
  funs := I.stack
  frf := I.stkFree
noncomputable def Capt (X : Cx) (scope : Scope) (cl : List (Str × Addr)) (ns : List Str) (idx : List Nat) : Prop :=
  idx.length = ns.length ∧ ∀ (k : Nat) (y : Str), ns[k]? = some y → ∃ j c, idx[k]? = some j ∧ X.N[j]? = some y ∧ X.env.kindOf y = some .cell ∧ X.env.cells.lookup y = some c ∧ cl.lookup y = some c ∧ ((relabel scope X.env).names.lookup y = some .cell ∨ (relabel scope X.env).names.lookup y = some .free)
noncomputable def stIn (v : Option V) (idx : List Nat) (σ : L2.St) : L2.St := v :: idx.map fun j => (σ[j]?).join
theorem invC {D : Addr} {h1 : Heap} {t : Nat} {o : Obj} {mC : Str → Option Value} (I : Inv X pins σ H s) (ok : (cxC X (x :: ns) scope cl C s H fp).Ok) (cap : Capt X scope cl ns idx) (hcl : ∀ y c, cl.lookup y = some c → X.env.cells.lookup y = some c)
    (keep : ∀ b u, s.heap.get? b = some u → h1.get? b = some u) (hC : s.heap.objs.size ≤ C) (hns : h1.Ns C mC) (hD : h1.get? D = some o) (hDs : s.heap.objs.size ≤ D) (hDC : D ≠ C) (hod : ∀ v, o.data ≠ .cell v) (hx : (relabel scope X.env).names.lookup x = some .local) :
    Inv (cxC X (x :: ns) scope cl C s H fp) [(D, o)] (stIn none idx σ) H { s with heap := h1, toks := t } := by
  have cellK : ∀ y c, cl.lookup y = some c → ∀ v, s.heap.IsCell c v → h1.IsCell c v := fun y c e v ⟨o, ho, hd⟩ => ⟨o, keep _ _ ho, hd⟩
  refine ⟨ok, rfl, I.bare, Un.kept keep, ⟨mC, hns, fun i y v e1 e2 e3 => ?_⟩, fun y c e => ?_, I.hok.fresh hC, fun y c e => I.freeC y c (hcl y c e), fun p hp => ?_, I.hok.kept keep, ?_⟩
  · cases i with
    | zero => cases e2
    | succ k =>
      have e1' : ns[k]? = some y := e1
      obtain ⟨j, c, h1', h2, h3, h4, h5, h6⟩ := cap.2 k y e1'
      have e2' : (idx.map fun j => (σ[j]?).join)[k]? = some (some v) := e2
      rw [List.getElem?_map, h1'] at e2'
      have e4 : (σ[j]?).join = some v := Option.some.inj e2'
      have e5 : σ[j]? = some (some v) := by
        cases q : σ[j]? with
        | none => rw [q] at e4; cases e4
        | some z => rw [q] at e4; exact congrArg some e4
      obtain ⟨m, hn, hl⟩ := I.loc
      obtain ⟨u, r, lk⟩ := hl j y v h2 e5 (.inr (.inl h3))
      refine ⟨u, r, .inr ⟨h6, c, h5, ?_⟩⟩
      rcases lk with ⟨z, _⟩ | ⟨_, c', z, ic⟩
      · rw [h3] at z; cases z
      · rw [h4] at z; cases z
        exact cellK y c h5 _ ic
  · obtain ⟨v, ic⟩ := I.cell y c (hcl y c e)
    exact ⟨v, cellK y c e v ic⟩
  · have e : p = (D, o) := by simpa [cxC] using hp
    subst e
    refine ⟨hD, I.hok.fresh hDs, hDC, fun hs => ?_, hod⟩
    obtain ⟨_, o', ho', _⟩ := I.stack.mem hs
    exact absurd (Heap.lt_size ho') (Nat.not_lt.mpr hDs)
  · unfold stIn
    rw [List.length_cons, List.length_map, cap.1]
    rfl
end
noncomputable abbrev NoE : Value → Shared → Prop := fun _ _ => False
noncomputable abbrev testsOf (ifs : List Expr) (env : Env) : Sem Bool := forIn ifs true fun c r => if r = true then do let ok ← isTrue c env (eval c env); pure (ForInStep.yield ok) else pure (ForInStep.yield r)
noncomputable def PTs (X : Cx) (ifs : List Expr) (t : TT) : Prop :=
  ∀ (pins : List (Addr × Obj)) (s : Shared) (σ : L2.St) (H : Hp) (Q : Bool → Hp → Prop), Inv X pins σ H s → t σ H Q → wpAny (model X.prog X.w) X.A (testsOf ifs X.env) (TP X pins σ Q) X.xe s
noncomputable def ttNil : TT := fun _ H Q => Q true H
theorem pts_nil {X : Cx} : PTs X [] ttNil := fun _ _ _ H _ I h => wpAny_tests_nil ⟨H, I, h⟩
theorem pts_one {X : Cx} {c : Expr} {t : TT} (h : PT X c t) : PTs X [c] t := fun pins s σ H Q I q => wpAny_tests_one (h pins s σ H Q I q)
theorem lc_loop {prog : Program} {w : World} {A : Around} {R : Result → Shared → Prop} {s : Shared} {elt target iter : Expr} {ifs : List Expr} {scope : Scope} {pos : Pos} {it acc : Value} {env : Env} (Z : Nat → Shared → Prop)
    (turn : ∀ n z, Z n z → wpAny (model prog w) A (pyNext it) (fun r z1 => match r with
      | none => R (.ok .next) z1
      | some v => wpAny (model prog w) A (letOwnedTupleGo target it v) (fun _ z2 => wpAny (model prog w) A (assign target env v) (fun _ z3 => wpAny (model prog w) A (testsOf ifs env) (fun ok z4 => if ok = true then
          wpAny (model prog w) A (eval elt env) (fun y z5 => wpAny (model prog w) A (call (.builtin "list.append") [acc, y]) (fun _ z6 => ∃ m, m < n ∧ Z m z6) NoE z5) NoE z4 else ∃ m, m < n ∧ Z m z4) NoE z3) NoE z2) NoE z1) NoE z)
    (n : Nat) (h : Z n s) : codeAny (model prog w) A (.compLoop (.ListComp elt [⟨target, iter, ifs, 0⟩] scope pos) 0 it acc env) R s := by
  refine codeAny_loop rfl Z (fun n z hZ => ?_) n h
  show wpAny _ A ((compTurn (.ListComp elt [⟨target, iter, ifs, 0⟩] scope pos) 0 it acc env).onRaise (fun q => do noteFrame q env; theTreesLotGoes q)) _ _ z
  refine wpAny_noted ?_
  rw [compTurn_list]
  refine wpAny_bind (wpAny_standAt (wpAny_bind (wpAny_mono (turn n z hZ) (fun r z1 k1 => ?_) fun _ _ q => q.elim)))
  cases r with
  | none => exact wpAny_pure k1
  | some v =>
    refine wpAny_bind (wpAny_mono k1 (fun _ z2 k2 => ?_) fun _ _ q => q.elim)
    refine wpAny_bind (wpAny_mono k2 (fun _ z3 k3 => ?_) fun _ _ q => q.elim)
    refine wpAny_bind (wpAny_mono k3 (fun ok z4 k4 => ?_) fun _ _ q => q.elim)
    cases ok with
    | false => exact wpAny_pure ⟨rfl, k4⟩
    | true =>
      refine wpAny_bind (wpAny_bind (wpAny_mono (show wpAny _ _ _ _ _ _ from k4) (fun y z5 k5 => ?_) fun _ _ q => q.elim))
      exact wpAny_bind (wpAny_mono k5 (fun _ z6 k6 => wpAny_pure (wpAny_pure ⟨rfl, k6⟩)) fun _ _ q => q.elim)
noncomputable def LcBody (J : It) (idx : List Nat) (te : TE) (σ : L2.St) (Q : VK) (H1 : Hp) : Prop := ∃ W : Nat → Nat → List V → Hp → Prop, (∃ m, W 0 m [] H1) ∧ ∀ i m ys H, W i m ys H → ys.length ≤ sizeLine ∧
  ((J.stop i H ∧ ∀ p, H p = none → Q (.ref p) (upd H p (.lst ys))) ∨ (J.go i H ∧ ∀ y H', J.yld i H y H' → te (stIn (some y) idx σ) H' fun v H2 => ∃ m', m' < m ∧ W (i + 1) m' (ys ++ [v]) H2))
noncomputable def tLc (wi : TI) (idx : List Nat) (te : TE) : TE := fun σ H Q => wi σ H fun J H1 => LcBody J idx te σ Q H1
noncomputable def LcBodyT (J : It) (idx : List Nat) (tt : TT) (te : TE) (σ : L2.St) (Q : VK) (H1 : Hp) : Prop := ∃ W : Nat → Nat → List V → Hp → Prop, (∃ m, W 0 m [] H1) ∧ ∀ i m ys H, W i m ys H → ys.length ≤ sizeLine ∧
  ((J.stop i H ∧ ∀ p, H p = none → Q (.ref p) (upd H p (.lst ys))) ∨ (J.go i H ∧ ∀ y H', J.yld i H y H' → tt (stIn (some y) idx σ) H' fun b H3 => if b = true then te (stIn (some y) idx σ) H3 fun v H2 => ∃ m', m' < m ∧ W (i + 1) m' (ys ++ [v]) H2
    else ∃ m', m' < m ∧ W (i + 1) m' ys H3))
noncomputable def tLcT (wi : TI) (idx : List Nat) (tt : TT) (te : TE) : TE := fun σ H Q => wi σ H fun J H1 => LcBodyT J idx tt te σ Q H1
theorem LcBody.toT {J : It} {idx : List Nat} {te : TE} {σ : L2.St} {Q : VK} {H1 : Hp} (h : LcBody J idx te σ Q H1) : LcBodyT J idx ttNil te σ Q H1 := by
  obtain ⟨W, w0, turn⟩ := h
  refine ⟨W, w0, fun i m ys H w => ?_⟩
  obtain ⟨hz, h⟩ := turn i m ys H w
  refine ⟨hz, h.imp id fun h => ⟨h.1, fun y H' yl => ?_⟩⟩
  show (if true = true then te (stIn (some y) idx σ) H' (fun v H2 => ∃ m', m' < m ∧ W (i + 1) m' (ys ++ [v]) H2) else ∃ m', m' < m ∧ W (i + 1) m' ys H')
  rw [if_pos rfl]
  exact h.2 y H' yl
section
variable {X : Cx} {elt iter : Expr} {ifs : List Expr} {x : Str} {px pos : Pos} {scope : Scope} {cl : List (Str × Addr)} {wi : TI} {tt : TT} {te : TE} {ns : List Str} {idx : List Nat}
structure LcEnd (X : Cx) (fp : List Addr) (H2 H4 : Hp) (s2 s5 : Shared) (C D : Addr) (ys : List V) : Prop where
  dn : D = s2.heap.objs.size
  cn : s2.heap.objs.size ≤ C
  dc : D ≠ C
  un : Un (frs X.stack) fp H2 H4 s2.heap s5.heap
  hok : HOk X.prog X.w H4 s5.heap
  cf : H4 C = none
  df : H4 D = none
  os : s5.os = s2.os
  bare : AllBare s5.gens
  ns : ∃ m, s5.heap.Ns C m
  obj : ∃ us, Vals ys us ∧ s5.heap.get? D = some (LCg.lst us)
  len : ys.length ≤ sizeLine
theorem lc_main (hc : X.calm = true) (hi : PI X (.Name x px) iter wi) (hclos : closureFor scope X.env = pure cl) (hcell : ∀ y ∈ scope.names, y.2 ≠ .cell) (hkind : scope.kind = .function)
    (hnames : ∀ y ∈ scope.names, y.2 = .local → scope.names.lookup y.1 = some .local) (hx : scope.names.lookup x = some .local) (nd : (x :: ns).Nodup) (cap : Capt X scope cl ns idx)
    (hcl : ∀ y c, cl.lookup y = some c → X.env.cells.lookup y = some c) (hfr : ∀ y, ((relabel scope X.env).names.lookup y = some .cell ∨ (relabel scope X.env).names.lookup y = some .free) → ∃ c, cl.lookup y = some c)
    (htt : ∀ (C : Addr) (s : Shared) (H : Hp) (fp : List Addr), PTs (cxC X (x :: ns) scope cl C s H fp) ifs tt) (hel : ∀ (C : Addr) (s : Shared) (H : Hp) (fp : List Addr), PE (cxC X (x :: ns) scope cl C s H fp) elt te)
    {pins : List (Addr × Obj)} {σ : L2.St} {Q : VK} {itv : Value} {s2 : Shared} {E : Value → Shared → Prop} {RR : Value → Addr → Result → Shared → Prop} (h2 : PIE X pins σ (.Name x px) (fun J H1 => LcBodyT J idx tt te σ Q H1) itv s2)
    (hRR : ∀ fp H2 H4 s5 C D ys, Inv X pins σ H2 s2 → (∀ b ∈ fp, FpOk X pins H2 b) → LcEnd X fp H2 H4 s2 s5 C D ys → Q (.ref D) (upd H4 D (.lst ys)) → RR (.ref D) C (.ok .next) s5) :
    wpAny (model X.prog X.w) X.A (newList []) (fun acc s3 => wpAny (model X.prog X.w) X.A (newFunctionEnv scope X.env.globals cl [] X.env.qual none .none (some X.env)) (fun cenv s4 =>
      codeAny (model X.prog X.w) X.A (.compStart (.ListComp elt [⟨.Name x px, iter, ifs, 0⟩] scope pos) 0 itv acc { cenv with scope := relabel scope X.env }) (RR acc cenv.locals) s4) E s3) E s2 := by
  obtain ⟨it, fp, tn, J, H2, e, I2, T, st2, f2, W, ⟨m0, w0⟩, turn⟩ := h2
  subst e
  refine wpAny_newObj_type (wpAny_newFunctionEnv hcell (by intro y hy; simp at hy) (fun h1 hns1 hsb1 => ?_) hkind)
  dsimp only at hns1 hsb1 ⊢
  generalize hH2 : s2.heap.push { cls := .type "list", dict := none, data := .seq ([] : List Value).toArray } = g2 at hns1 hsb1 ⊢
  have hC : g2.objs.size = s2.heap.objs.size + 1 := by rw [← hH2, Heap.size_push]
  have hDC : s2.heap.objs.size ≠ g2.objs.size := by rw [hC]; exact Nat.ne_of_lt (Nat.lt_succ_self _)
  have hCle : s2.heap.objs.size ≤ g2.objs.size := by rw [hC]; exact Nat.le_succ _
  have keep1 : ∀ b o, s2.heap.get? b = some o → h1.get? b = some o := fun b o e => hsb1.extBut b o (Nat.ne_of_lt (Nat.lt_of_lt_of_le (Heap.lt_size e) hCle)) (Heap.get?_push_of_some _ (hH2 ▸ Heap.get?_push_of_some _ e))
  have hacc : h1.get? s2.heap.objs.size = some { cls := .type "list", data := .seq ([] : List Value).toArray 0 } := hsb1.extBut _ _ hDC (Heap.get?_push_of_some _ (hH2 ▸ Heap.get?_push_size _ rfl))
  have lt : ∀ b ∈ fp, b < s2.heap.objs.size := fun b hb => by
    obtain ⟨o, e, _⟩ := T.obj _ _ st2 b hb
    exact Heap.lt_size e
  have hxr : (relabel scope X.env).names.lookup x = some .local := lookup_relabel_local hx
  have ok := okC (N := x :: ns) (scope := scope) (cl := cl) (C := g2.objs.size) I2 f2 lt hCle hkind hcl hfr
  have I3 := invC (D := s2.heap.objs.size) (t := s2.toks + ([] : List (Str × Value)).length) I2 ok cap hcl keep1 hCle hns1 hacc (Nat.le_refl _) hDC (fun v z => by cases z) hxr
  have fC : ∀ {H' : Hp} {pl : List (Addr × Obj)}, (∀ p ∈ pl, p.1 = s2.heap.objs.size) → (∀ b ∈ fp, H' b = none) → ∀ b ∈ fp, FpOk (cxC X (x :: ns) scope cl g2.objs.size s2 H2 fp) pl H' b := fun {H' pl} hpl hn b hb =>
    ⟨hn b hb, (ok.exf b hb).1, fun z => ok.exfs b hb z, .inl hb, (ok.exf b hb).2, fun p hp z => by
      have q := hpl p (by simpa [cxC] using hp)
      have := lt b hb
      rw [← z, q] at this
      exact Nat.lt_irrefl _ this⟩
  have lnc : ∀ us : List Value, ∀ v, (LCg.lst us).data ≠ .cell v := fun us v z => by cases z
  have loop : ∀ s3 : Shared, s3 = { s2 with heap := h1, toks := s2.toks + ([] : List (Str × Value)).length } →
      codeAny (model X.prog X.w) X.A (.compLoop (.ListComp elt [⟨.Name x px, iter, ifs, 0⟩] scope pos) 0 (.ref it) (.ref s2.heap.objs.size) (compEnvC scope cl g2.objs.size X.env))
        (RR (.ref s2.heap.objs.size) g2.objs.size) s3 := by
    rintro s3 rfl
    refine lc_loop (fun n s' => ∃ i ys us r H', Inv (cxC X (x :: ns) scope cl g2.objs.size s2 H2 fp) [(s2.heap.objs.size, LCg.lst us)] (stIn r idx σ) H' s' ∧ tn i s'.heap ∧ (∀ b ∈ fp, H' b = none) ∧ Vals ys us ∧ W i n ys H') ?_ m0
      ⟨0, [], [], none, H2, I3, T.keep _ _ _ st2 fun b _ o e => keep1 b o e, fun b hb => (f2 b hb).1, .nil, w0⟩
    rintro n s4 ⟨i, ys, us, r, H4, I4, st4, fr4, vs4, w4⟩
    obtain ⟨hz, ⟨stop, qn⟩ | ⟨go, step⟩⟩ := turn i n ys H4 w4
    · refine thn (T.done (cxC X (x :: ns) scope cl g2.objs.size s2 H2 fp) rfl rfl rfl hc i _ s4 _ H4 NoE I4 (fC (fun p hp => by rw [List.mem_singleton.mp hp]) fr4) st4 stop) fun r5 s5 zz => ?_
      obtain ⟨hr5, I5⟩ := zz
      subst hr5
      obtain ⟨mC, hnC, _⟩ := I5.loc
      obtain ⟨pD1, pD2, _⟩ := I5.pin (s2.heap.objs.size, LCg.lst us) (List.mem_append_right _ (List.mem_singleton.mpr rfl))
      exact hRR fp H2 H4 s5 g2.objs.size s2.heap.objs.size ys I2 f2 ⟨rfl, hCle, hDC, I5.base, I5.hok, I5.free, pD2, I5.os, I5.bare, ⟨mC, hnC⟩, ⟨us, vs4, pD1⟩, hz⟩ (qn _ pD2)
    · refine thn (T.item (cxC X (x :: ns) scope cl g2.objs.size s2 H2 fp) rfl rfl rfl hc i _ s4 _ H4 NoE I4 (fC (fun p hp => by rw [List.mem_singleton.mp hp]) fr4) st4 go) fun r5 s5 zz => ?_
      obtain ⟨u, hr5, k5⟩ := zz
      subst hr5
      refine thn k5 fun _ s6 zz => ?_
      obtain ⟨y, H6, I6, r6, y6, st6, fr6⟩ := zz
      have I6' := I6.pinned (fC (fun p hp => by rw [List.mem_singleton.mp hp]) fr6) (T.obj _ _ st6)
      have G := pg_name (X := cxC X (x :: ns) scope cl g2.objs.size s2 H2 fp) (pos := px) (i := 0) (x := x) nd rfl (.inl hxr) (.inr hxr)
      refine thn (G _ s6 _ H6 y u (fun σ' H' => σ' = stIn (some y) idx σ ∧ H' = H6) I6' r6 ⟨rfl, rfl⟩) fun _ s7 zz => ?_
      obtain ⟨σ7, H7, I7, e7, eH⟩ := zz
      subst e7 eH
      refine thn (htt g2.objs.size s2 H2 fp _ s7 _ _ _ I7 (step y _ y6)) fun ok s71 zz => ?_
      obtain ⟨H71, I71, k71⟩ := zz
      cases ok with
      | false =>
        obtain ⟨m', lm, w8⟩ := (show ∃ m', m' < n ∧ W (i + 1) m' ys H71 from k71)
        have kf : ∀ b ∈ fp, ∀ o, s6.heap.get? b = some o → s71.heap.get? b = some o ∧ H71 b = none := fun b hb o e => by
          have q := I71.pin (b, o) (List.mem_append_right _ (List.mem_append_right _ (mem_pinsAt hb e)))
          exact ⟨q.1, q.2.1⟩
        obtain ⟨pD1, pD2, pD3, pD4, _⟩ := I71.pin (s2.heap.objs.size, LCg.lst us) (by simp [cxC])
        refine ⟨m', lm, i + 1, ys, us, some y, H71, I71.pins_of fun p hp => ?_, ?_, fun b hb => ?_, vs4, w8⟩
        · rw [List.mem_singleton.mp hp]
          exact ⟨pD1, pD2, pD3, pD4, lnc _⟩
        · exact T.keep _ _ _ st6 fun b hb o e => (kf b hb o e).1
        · obtain ⟨o, e, _⟩ := T.obj _ _ st6 b hb
          exact (kf b hb o e).2
      | true =>
      refine thn (hel g2.objs.size s2 H2 fp _ s71 _ _ _ I71 k71) fun y8 s8 zz => ?_
      obtain ⟨v, H8, I8, r8, m', lm, w8⟩ := zz
      obtain ⟨pD1, pD2, pD3, pD4, _⟩ := I8.pin (s2.heap.objs.size, LCg.lst us) (by simp [cxC])
      have kf : ∀ b ∈ fp, ∀ o, s6.heap.get? b = some o → s8.heap.get? b = some o ∧ H8 b = none := fun b hb o e => by
        have q := I8.pin (b, o) (List.mem_append_right _ (List.mem_append_right _ (mem_pinsAt hb e)))
        exact ⟨q.1, q.2.1⟩
      refine append_at (hsz := by show us.toArray.size ≤ sizeLine; rw [List.size_toArray, ← vs4.length]; exact hz) pD1 fun h9 sb9 hD9 => ?_
      have I8' : Inv (cxC X (x :: ns) scope cl g2.objs.size s2 H2 fp) [] (stIn (some y) idx σ) H8 s8 := I8.pins_of fun p hp => nomatch hp
      have I9 := I8'.turned (it := s2.heap.objs.size) (h' := h9) (t' := s8.toks) (fun b o hb e => (sb9.2 b hb).trans e) pD2 pD3 (.inr (Nat.le_refl _)) (fun y c e z => by
          obtain ⟨v, q⟩ := I2.cell y c (hcl y c e)
          exact absurd q.lt (by rw [z]; exact Nat.lt_irrefl _)) (fun p hp => by simp [cxC] at hp)
      refine ⟨m', lm, i + 1, ys ++ [v], us ++ [y8], some y, H8, I9.pins_of fun p hp => ?_, ?_, fun b hb => ?_, vs4.append (.cons r8 .nil), w8⟩
      · rw [List.mem_singleton.mp hp]
        exact ⟨hD9.trans (congrArg some (LCg.lst_snoc us y8)), pD2, pD3, pD4, lnc _⟩
      · exact T.keep _ _ _ st6 fun b hb o e => (sb9.2 b (Nat.ne_of_lt (lt b hb))).trans (kf b hb o e).1
      · obtain ⟨o, e, _⟩ := T.obj _ _ st6 b hb
        exact (kf b hb o e).2
  exact codeAny_compStart_list (loop _ rfl) (T.self _ 0 _ _ _ (T.keep _ _ _ st2 fun b _ o e => keep1 b o e) (loop _ rfl))
theorem LcEnd.inv {fp : List Addr} {H2 H4 : Hp} {s2 s5 : Shared} {C D : Addr} {ys : List V} {pins : List (Addr × Obj)} {σ : L2.St} {h' : Heap} (L : LcEnd X fp H2 H4 s2 s5 C D ys) (I2 : Inv X pins σ H2 s2) (f2 : ∀ b ∈ fp, FpOk X pins H2 b) (sb : Heap.SameBut C s5.heap h') :
    Inv X pins σ (upd H4 D (.lst ys)) { s5 with heap := h' } := by
  obtain ⟨rfl, hCle, hDC, U, hok, cf, pD2, eo, bare, ⟨mC, hnC⟩, ⟨us, vs4, pD1⟩, hz⟩ := L
  have neC : ∀ b o, s2.heap.get? b = some o → b ≠ C := fun b o e => Nat.ne_of_lt (Nat.lt_of_lt_of_le (Heap.lt_size e) hCle)
  have U' : Un (frs X.stack) fp H2 H4 s2.heap h' := ⟨fun b o e n hb hx => (sb.2 b (neC b o e)).trans (U.keep b o e n hb hx), fun b o e n hb hx => by
      obtain ⟨sl, q⟩ := U.slot b o e n hb hx
      exact ⟨sl, (sb.2 b (neC b o e)).trans q⟩, U.free, fun b o e hx => by
      obtain ⟨o', q⟩ := U.there b o e hx
      exact ⟨o', (sb.2 b (neC b o e)).trans q⟩, U.tups, U.frzs, U.tbls⟩
  have hok' : HOk X.prog X.w H4 h' := fun a o e => by
    refine (hok a o e).stay (fun b u hb q => (sb.2 b ?_).trans q) (fun _ z => z) fun _ _ z => z
    rintro rfl
    rcases hb with hb | hb
    · rw [← hb, cf] at e; cases e
    · rw [cf] at hb; cases hb
  have I6 := I2.call (ch := fp) (h' := h') (g' := s5.gens) (t' := s5.toks) (d' := s5.drawn) U' hok' bare fun b hb => ⟨(f2 b hb).2.2.2.1, (f2 b hb).2.1, (f2 b hb).2.2.2.2.1, (f2 b hb).2.2.2.2.2⟩
  have I7 := Inv.adopt (x := s2.heap.objs.size) (o := .lst ys) (fun y c e z => by
      obtain ⟨v, q⟩ := I2.cell y c e
      exact absurd q.lt (by rw [z]; exact Nat.lt_irrefl _)) I6 (Heap.get?_none_of_le I2.sz) pD2 (Nat.ne_of_gt I2.lt) (fun p hp z => by
      have := Heap.lt_size (I2.pin p hp).1
      rw [z] at this
      exact Nat.lt_irrefl _ this) ⟨hz, us, us.length, vs4, (sb.2 _ hDC).trans pD1⟩
  rw [← eo] at I7
  exact I7
theorem pie_toT {pins : List (Addr × Obj)} {σ : L2.St} {tg : Expr} {Q : VK} {itv : Value} {s2 : Shared} (h : PIE X pins σ tg (fun J H1 => LcBody J idx te σ Q H1) itv s2) : PIE X pins σ tg (fun J H1 => LcBodyT J idx ttNil te σ Q H1) itv s2 := by
  obtain ⟨it, fp, tn, J, H', a, b, c, d, e, q⟩ := h
  exact ⟨it, fp, tn, J, H', a, b, c, d, e, q.toT⟩
theorem ps_lcT {j : Nat} {y : Str} {py spos : Pos} (hN : X.N.Nodup) (hj : X.N[j]? = some y) (hy : X.env.scope.names.lookup y = some .local) (hsw : swapsWith (.ListComp elt [⟨.Name x px, iter, ifs, 0⟩] scope pos) (some (.Name y py)) spos.line X.env = pure true)
    (hc : X.calm = true) (hi : PI X (.Name x px) iter wi) (hclos : closureFor scope X.env = pure cl) (hcell : ∀ y ∈ scope.names, y.2 ≠ .cell) (hkind : scope.kind = .function)
    (hnames : ∀ y ∈ scope.names, y.2 = .local → scope.names.lookup y.1 = some .local) (hx : scope.names.lookup x = some .local) (nd : (x :: ns).Nodup) (cap : Capt X scope cl ns idx)
    (hcl : ∀ y c, cl.lookup y = some c → X.env.cells.lookup y = some c) (hfr : ∀ y, ((relabel scope X.env).names.lookup y = some .cell ∨ (relabel scope X.env).names.lookup y = some .free) → ∃ c, cl.lookup y = some c)
    (htt : ∀ (C : Addr) (s : Shared) (H : Hp) (fp : List Addr), PTs (cxC X (x :: ns) scope cl C s H fp) ifs tt) (hel : ∀ (C : Addr) (s : Shared) (H : Hp) (fp : List Addr), PE (cxC X (x :: ns) scope cl C s H fp) elt te) (hs : ∀ v, foldedSetIterable iter X.env v = pure v) :
    PS X (.Assign [.Name y py] (.ListComp elt [⟨.Name x px, iter, ifs, 0⟩] scope pos) spos) (tAsg (tLcT wi idx tt te) (gName j)) := by
  intro pins s σ H D I h
  rw [exec_Assign_Name_used _ _ _ _ hsw]
  refine wpAny_bind (wpAny_standAt (wpAny_bind ?_))
  show wpAny _ _ (do let _ ← comprehension (.ListComp elt [⟨.Name x px, iter, ifs, 0⟩] scope pos) scope X.env _ (newList []) false (eval iter X.env) (some (assign (.Name y py) X.env))) _ _ s
  refine wpAny_bind (wpAny_mono (wpAny_comprehension_free (use := some (assign (.Name y py) X.env)) (Q := fun _ s' => SP X pins D .next s') rfl hs hclos hkind hnames
    (thn (hi pins s σ H _ I h) fun v s1 h1 => thn h1 fun itv s2 h2 => ?_)) (fun _ s' hq => wpAny_pure (wpAny_pure hq)) fun _ _ e => e)
  refine lc_main hc hi hclos hcell hkind hnames hx nd cap hcl hfr htt hel (RR := fun acc C => compPost (model X.prog X.w) X.A X.xe (some (assign (.Name y py) X.env)) (fun _ s' => SP X pins D .next s') acc C) h2 fun fp H2 H4 s5 C Da ys I2 f2 L q => ?_
  have I7 := L.inv I2 f2 (h' := s5.heap) ⟨rfl, fun _ _ => rfl⟩
  show wpAny _ _ (assign (.Name y py) X.env (.ref Da)) _ _ s5
  have cL : C ≠ X.env.locals := Nat.ne_of_gt (Nat.lt_of_lt_of_le I2.lt L.cn)
  have cc : ∀ z c, X.env.cells.lookup z = some c → c ≠ C := fun z c e => by
    obtain ⟨v, k⟩ := I2.cell z c e
    exact Nat.ne_of_lt (Nat.lt_of_lt_of_le k.lt L.cn)
  refine wpAny_assign_Name (store_ok2 I7 hN hj (.inl hy) (v := .ref Da) rfl (fun s8 I8 sm => ?_) (.inr hy))
  obtain ⟨a, sba, ha⟩ := sm
  have ac : C ≠ a := by
    rcases ha with rfl | ha
    · exact cL
    · exact Ne.symm (cc _ _ ha)
  obtain ⟨mC, o, es, ep, e1, e2⟩ := L.ns
  refine ⟨mC, ⟨o, es, ep, (sba.2 C ac).trans e1, e2⟩, fun h' sb => ⟨_, _, ?_, q⟩⟩
  refine I8.turned (it := C) (h' := h') (t' := s8.toks) (fun b u nb e => (sb.2 b nb).trans e) ?_ cL (.inr (Nat.le_trans I2.sz L.cn)) cc fun p hp z => ?_
  · rw [upd_ne (Ne.symm L.dc)]
    exact L.cf
  · have := Heap.lt_size (I2.pin p hp).1
    rw [z] at this
    exact absurd this (Nat.not_lt.mpr L.cn)
theorem pe_lc (hc : X.calm = true) (hi : PI X (.Name x px) iter wi) (hclos : closureFor scope X.env = pure cl) (hcell : ∀ y ∈ scope.names, y.2 ≠ .cell) (hkind : scope.kind = .function)
    (hnames : ∀ y ∈ scope.names, y.2 = .local → scope.names.lookup y.1 = some .local) (hx : scope.names.lookup x = some .local) (nd : (x :: ns).Nodup) (cap : Capt X scope cl ns idx)
    (hcl : ∀ y c, cl.lookup y = some c → X.env.cells.lookup y = some c) (hfr : ∀ y, ((relabel scope X.env).names.lookup y = some .cell ∨ (relabel scope X.env).names.lookup y = some .free) → ∃ c, cl.lookup y = some c)
    (hel : ∀ (C : Addr) (s : Shared) (H : Hp) (fp : List Addr), PE (cxC X (x :: ns) scope cl C s H fp) elt te) (hs : ∀ v, foldedSetIterable iter X.env v = pure v := by intro _; rfl) :
    PE X (.ListComp elt [⟨.Name x px, iter, [], 0⟩] scope pos) (tLc wi idx te) := by
  intro pins s σ H Q I h
  rw [eval_ListComp]
  refine wpAny_comprehension_free (use := none) rfl hs hclos hkind hnames (thn (hi pins s σ H _ I h) fun v s1 h1 => thn h1 fun itv s2 h2 => ?_)
  refine lc_main (tt := ttNil) hc hi hclos hcell hkind hnames hx nd cap hcl hfr (fun _ _ _ _ => pts_nil) hel (RR := fun acc C => compPost (model X.prog X.w) X.A X.xe none (EP X pins σ Q) acc C) (pie_toT h2) fun fp H2 H4 s5 C D ys I2 f2 L q => ?_
  obtain ⟨mC, hnC⟩ := L.ns
  exact ⟨mC, hnC, fun h' sb => ⟨.ref D, _, L.inv I2 f2 sb, rfl, q⟩⟩
end
end Kw
set_option Elab.async false
set_option linter.all false
set_option maxRecDepth 100000
set_option maxHeartbeats 4000000
namespace Kw
open PySem PySem.Spec PyProof.Rows L2
theorem all_range_bl (bs : List Bool) : (List.range bs.length).all (fun i => bs.getD i false) = bs.all id := by
  rw [Bool.eq_iff_iff, List.all_eq_true, List.all_eq_true]
  constructor
  · intro h b hb
    obtain ⟨i, hi, rfl⟩ := List.mem_iff_getElem.mp hb
    have := h i (List.mem_range.mpr hi)
    simpa [List.getD, hi] using this
  · intro h i hi
    have hi' := List.mem_range.mp hi
    have := h bs[i] (List.getElem_mem hi')
    simpa [List.getD, hi'] using this
section
variable {X : Cx}
noncomputable def rAll (K : PySem.W.Frag) : List V → Hp → VK → Prop := fun xs H Q => ∃ p, ∃ bs : List Bool, xs = [.ref p] ∧ SqL K H p (bs.map V.bl) ∧ Q (.bl (bs.all id)) H
theorem call_all {K : PySem.W.Frag} (hK : X.K = K) (hc : X.calm = true) : CallR X (.builtin "all") (rAll K) := by
  subst hK
  intro pins s σ H xs us Q I r h
  obtain ⟨p, bs, rfl, hp, q⟩ := h
  obtain ⟨u, rfl, rx⟩ := vals1 r
  cases rx
  obtain ⟨its, r', pl, hz⟩ := I.list hp
  have hlen := r'.length
  rw [List.length_map] at hlen
  have hlt : p < s.heap.objs.size := by
    obtain ⟨o, n, e, _⟩ := pl
    exact Heap.lt_size e
  refine call_all_walk (wpAny_pyIter_list pl.isList ?_)
  refine ⟨s.heap.objs.size, [s.heap.objs.size, p], [s.heap.objs.size], its.toArray.size, fun i v => its.toArray[i]? = some v, fun i h => h.IsListIter s.heap.objs.size p i ∧ h.IsList p its.toArray, fun i => bs.getD i false, rfl, Walks.list (A := X.A.in1) (I.ok.hd hc) s.heap.objs.size p (Nat.ne_of_lt hlt) its.toArray, ⟨⟨_, Heap.get?_push_size _ rfl, rfl, rfl⟩, pl.isList.push _⟩, ?_, fun h' tk kk => ?_⟩
  · intro i v z Q' E' hv hq
    have hv' : its[i]? = some v := by simpa using hv
    obtain ⟨hi, e⟩ := List.getElem?_eq_some_iff.mp hv'
    have hi' : i < bs.length := by omega
    have eb : (bs.map V.bl)[i]? = some (V.bl bs[i]) := by rw [List.getElem?_map, List.getElem?_eq_getElem hi']; rfl
    obtain ⟨w', hw, rw'⟩ := r'.get eb
    rw [hv'] at hw
    cases hw
    cases (show v = Value.bool bs[i] from rw')
    have e2 : bs.getD i false = bs[i] := by simp [List.getD, hi']
    dsimp only at hq
    rw [e2] at hq
    exact wpAny_truthy_bool hq
  · rw [List.size_toArray, ← hlen, all_range_bl]
    refine ⟨.bl (bs.all id), H, I.kept (t' := tk) fun b o e => ?_, rfl, q⟩
    exact kk b o (fun z => by
      have e' := List.mem_singleton.mp z
      have := Heap.lt_size e
      rw [e'] at this
      exact Nat.lt_irrefl _ this) (Heap.get?_push_of_some _ e)
end
end Kw
namespace Kw
open PySem PySem.Spec PyProof.Rows L2
section
variable {prog : Program} {w : World} {A : Around} {E : Value → Shared → Prop} {s : Shared} {I l S : Addr} {items : Array Value}
noncomputable abbrev RevP (items : Array Value) : Nat → Value → Prop := fun i v => items[items.size - 1 - i]? = some v
theorem lri_nolen : typeLookup (.type "list_reverseiterator") "__len__" = pure none := by
  rw [typeLookup_type, builtinLookup_eq_fast]
  kernel_rfl
theorem lri_hint : typeLookup (.type "list_reverseiterator") "__length_hint__" = pure (some (.builtin "list_reverseiterator.__length_hint__")) := by
  rw [typeLookup_type, builtinLookup_eq_fast]
  kernel_rfl
theorem extend_rev {R : Result → Shared → Prop} {res : Value} {c0 : Nat} (hh : A.handled = none) (hit : s.heap.IsRevIter I l ((items.size : Int) - 1)) (hl : s.heap.IsList l items) (ne : l ≠ I) (hz : items.size ≤ sizeLine) (nS : S ∉ [I, l])
    (kS : s.heap.get? S = some { cls := .type "list", data := .seq #[] c0 })
    (hR : ∀ z acc c, Moved (S :: [I]) (fun a b => b = a) s z → z.heap.get? S = some { cls := .type "list", dict := none, data := .seq acc c, slots := #[] } → ItemsOf (RevP items) acc items.size → R (.ok (.ret res)) z) :
    wpAny (model prog w) A.in1 (Builtin.List.listExtendWith (.ref S) (.ref I) res) (fun fin z => match fin with | .done f => R (.ok f) z | .again c => c.quiet = true ∧ codeAny (model prog w) A c R z) (fun e z => R (.error e) z) s := by
  have Wk := (Walks.listRev (prog := prog) (w := w) (A := A.in1) hh I l ne items).toS
  have tI : s.TypeIs (.ref I) "list_reverseiterator" := hit.typeIs
  have nI : S ≠ I := fun e => nS (by rw [e]; simp)
  have d1 : Builtin.List.listSameRef (.ref S) (.ref I) = false := by simp [Builtin.List.listSameRef, nI]
  unfold Builtin.List.listExtendWith
  refine wpAny_bind (wpAny_typeOf tI ?_)
  rw [if_neg (by rw [d1]; decide)]
  refine wpAny_bind (wpAny_pyIter_revIter hit ?_)
  refine wpAny_bind (wpAny_holding ?_)
  unfold Builtin.List.listLengthHint
  refine wpAny_bind (wpAny_specialOf tI lri_nolen ?_)
  show wpAny _ _ (specialOf (.ref I) (Str.ofString "__length_hint__") >>= _) _ _ s
  refine wpAny_bind (wpAny_specialOf tI lri_hint ?_)
  generalize hid : ("list_reverseiterator.__length_hint__" : String) = id0
  wp_delta
  rw [show splitId id0 = some ("list_reverseiterator", "__length_hint__") from by subst hid; decide +kernel]
  subst hid
  refine wpAny_bind (wpAny_isInstance (b := true) tI (by rw [isSubtype_type]; kernel_rfl) ?_)
  refine wpAny_pure ?_
  rw [if_neg (by decide)]
  refine wpAny_pure ⟨plainId_quiet F.plain_extend_loop _, codeAny_extend_loopS Wk hz S nS res items.size 0 _ #[] c0 rfl (Nat.zero_le _) ⟨Nat.zero_le _, by simpa using hit, hl⟩ kS (ItemsOf.nil _) fun z acc c hm hS hacc => hR z acc c hm hS hacc⟩
end
end Kw
namespace Kw
open PySem PySem.Spec PyProof.Rows L2
theorem rev_items {its : List Value} {acc : Array Value} (h : ItemsOf (RevP its.toArray) acc its.toArray.size) : acc.toList = its.reverse := by
  obtain ⟨h0, h2⟩ := h
  have h1 : acc.size = its.length := by simpa using h0
  refine List.ext_getElem? fun j => ?_
  by_cases hj : j < its.length
  · have hj' : j < acc.size := by omega
    have e := h2 j acc[j] (Array.getElem?_eq_getElem hj')
    have e' : its[its.length - 1 - j]? = some acc[j] := by simpa [RevP] using e
    rw [List.getElem?_reverse hj, e']
    simp [hj']
  · rw [List.getElem?_eq_none (by simp; omega), List.getElem?_eq_none (by simp; omega)]
noncomputable def RevAt (X : Cx) (it p : Addr) (n : Nat) (h : Heap) : Prop := X.s₀.heap.objs.size ≤ it ∧ h.IsRevIter it p ((n : Int) - 1)
section
variable {X : Cx}
theorem call_reversed : CallR X (.type "reversed") (fun xs H Q => ∃ p ys, xs = [.ref p] ∧ SqL X.K H p ys ∧ ∀ l, H l = none → Q (.ref l) (upd H l (.ext (RevAt X l p ys.length)))) := by
  intro pins s σ H xs us Q I r h
  obtain ⟨p, ys, rfl, hp, q⟩ := h
  obtain ⟨u, rfl, rx⟩ := vals1 r
  cases rx
  obtain ⟨its, r', pl, hz⟩ := I.list hp
  refine call_reversed_list pl.isList ?_
  have hn : H s.heap.objs.size = none := I.hok.fresh (Nat.le_refl _)
  refine ⟨.ref s.heap.objs.size, _, I.laid (t' := s.toks) (fun b o e => Heap.get?_push_of_some _ e) (Nat.le_refl _) ?_, rfl, q _ hn⟩
  have e : RevAt X s.heap.objs.size p ys.length (s.heap.push (revObj p ((its.toArray.size : Int) - 1))) := ⟨I.sz, _, Heap.get?_push_size _ rfl, rfl, by rw [List.size_toArray, ← r'.length]; rfl⟩
  exact ⟨e, ⟨_, Heap.get?_push_size _ rfl⟩, fun _ _ a k => ⟨a.1, a.2.at fun o e => k o e⟩⟩
noncomputable def del (H : Hp) (a : Addr) : Hp := fun b => if b = a then none else H b
theorem del_ne {H : Hp} {a b : Addr} (h : b ≠ a) : del H a b = H b := if_neg h
theorem del_same {H : Hp} {a : Addr} : del H a a = none := if_pos rfl
theorem del_none {H : Hp} {a b : Addr} (h : H b = none) : del H a b = none := by
  unfold del
  split
  · rfl
  · exact h
theorem Inv.drop {pins : List (Addr × Obj)} {σ : L2.St} {H : Hp} {s : Shared} {it : Addr} {φ : Heap → Prop} (I : Inv X pins σ H s) (hi : H it = some (.ext φ)) : Inv X pins σ (del H it) s := by
  have nt : ∀ b u, H b = some u → (∀ ψ, u ≠ .ext ψ) → b ≠ it := fun b u e k y => by rw [y, hi] at e; cases e; exact k _ rfl
  refine ⟨I.ok, I.os, I.bare, ⟨I.base.keep, I.base.slot, fun b o q n hx => del_none (I.base.free b o q n hx), I.base.there, fun b xs q => ?_, fun b ob u q => ?_, fun b ps q => ?_⟩, I.loc, I.cell, del_none I.free, fun y c e => del_none (I.freeC y c e), fun p hp => ?_, fun a u e => ?_, I.len⟩
  · have e := I.base.tups b xs q
    rw [del_ne (nt b _ e fun ψ y => by cases y)]
    exact e
  · have e := I.base.frzs b ob u q
    rw [del_ne (nt b _ e fun ψ y => by cases y)]
    exact e
  · obtain ⟨more, e⟩ := I.base.tbls b ps q
    exact ⟨more, by rw [del_ne (nt b _ e fun ψ y => by cases y)]; exact e⟩
  · obtain ⟨a, b, c⟩ := I.pin p hp
    exact ⟨a, del_none b, c⟩
  · have na : a ≠ it := fun y => by rw [y, del_same] at e; cases e
    rw [del_ne na] at e
    refine (I.hok a u e).stay (fun _ _ _ q => q) (fun b q => ?_) fun b xs q => ?_
    · rw [del_ne (nt b _ q fun ψ y => by cases y)]
      exact q
    · rw [del_ne (nt b _ q fun ψ y => by cases y)]
      exact q
end
end Kw
set_option Elab.async false
set_option linter.all false
set_option maxRecDepth 100000
set_option maxHeartbeats 4000000
namespace Kw
open PySem PySem.Spec PyProof.Rows L2
section
variable {X : Cx}
end
end Kw
set_option Elab.async false
set_option linter.all false
set_option maxRecDepth 100000
set_option maxHeartbeats 4000000
namespace Kw
open PySem PySem.Spec PyProof.Rows L2
noncomputable abbrev FQ (K : PySem.W.Frag) (H : Hp) (p : Addr) (x : Rat) : Prop := SqT K H p [.int x.num, .int ((x.den : Nat) : Int)]
section
variable {K : PySem.W.Frag} {H H' : Hp} {p q : Addr} {x y : Rat} {m n : Nat}
theorem FQ.fit {t b : Int} (h : b ≠ 0) (e : SqT K H p [.int (fT t b), .int (fB t b)]) : FQ K H p (Rat.divInt t b) := by
  obtain ⟨e1, e2⟩ := q_fit (t := t) h
  rw [e1, e2] at e
  exact e
noncomputable def FB (n : Nat) (x : Rat) : Prop := Bd n x.num ∧ Bd n ((x.den : Nat) : Int)
theorem FB.mono (h : FB m x) (l : m ≤ n) : FB n x := ⟨h.1.mono l, h.2.mono l⟩
theorem FB.fit {t b : Int} (h : b ≠ 0) (g1 : Bd n t) (g2 : Bd n b) : FB n (Rat.divInt t b) := by
  obtain ⟨e1, e2⟩ := q_fit (t := t) h
  refine ⟨?_, ?_⟩
  · rw [← e1]; exact bd_fT h g1
  · rw [← e2]; exact bd_fB h g2
theorem FB.ofInt {i : Int} (h : Bd n i) (l : 64 ≤ n) : FB n (i : Rat) := ⟨h, (Bd.small (i := 1) (by decide) (by decide)).mono l⟩
end
theorem atI_mem (ns : List Int) (d : Int) (lo : 0 ≤ d) (hi : d < (ns.length : Int)) : ∃ v, atI (ns.map V.int) d = some (.int v) ∧ v ∈ ns := by
  have hk : d.toNat < ns.length := by omega
  have ek : d = ((d.toNat : Nat) : Int) := by omega
  have z : atI (ns.map V.int) ((d.toNat : Nat) : Int) = some (.int ns[d.toNat]) := atI_nat (by rw [List.getElem?_map, List.getElem?_eq_getElem hk] <;> rfl)
  rw [← ek] at z
  exact ⟨_, z, List.getElem_mem hk⟩
theorem Scr.same {K : PySem.W.Frag} {H H' : Hp} {a : Addr} (h : Scr K H a) (s : Same H H') : Scr K H' a := by
  obtain ⟨ns, x, y⟩ := h
  exact ⟨ns, s.seq x, y⟩
theorem Fn.imp {P : Program} {w : World} {K : PySem.W.Frag} {mg : Str → Option Value} {base : Heap} {k : Nat} {x : Str} {ps : List Str} {sp sp' : Sp} (F : Fn P w K mg base k x ps sp) (h : ∀ vs H Q E, sp' vs H Q E → sp vs H Q E) : Fn P w K mg base k x ps sp' := by
  obtain ⟨f, fd, g, r⟩ := F.ex
  exact ⟨f, fd, g.imp h, r⟩
theorem if_not {c : Prop} [Decidable c] {A B : Prop} (h1 : ¬ c → A) (h2 : c → B) : if (!decide c) = true then A else B := by
  by_cases e : c
  · rw [decide_eq_true e]; exact iteF (h2 e)
  · rw [decide_eq_false e]; exact iteT (h1 e)
section
variable {X : Cx}
noncomputable def rAl (K : PySem.W.Frag) (r : Bool) : V → V → Hp → VK → Prop := fun x y H Q => ∃ d, Dp K H x d ∧ Dp K H y d ∧ d.canLay0 = true ∧ Nat.ble d.depth 60 = true ∧ Q (.bl r) H
theorem op_neA {K : PySem.W.Frag} (hK : X.K = K) (hu : X.A.units + 100 < cLine) : OpR X (compareOp .NotEq) (rAl K false) := by
  intro pins s σ H x y v u Q I rx ry h
  obtain ⟨d, hx, hy, c, dep, q⟩ := h
  refine op_neD hK hu pins s σ H x y v u Q I rx ry ⟨d, d, hx, hy, c, c, ?_, ?_⟩
  · have := Nat.le_of_ble_eq_true dep
    omega
  · rw [SeqAt.eqv_refl d c]
    exact q
noncomputable def IsTup2 (K : PySem.W.Frag) (H : Hp) (x c : V) (b : Bool) : Prop := IsI K H x c b ∨ ∃ a xs, x = .ref a ∧ SqT K H a xs ∧ PySem.W.kitOne K (.type "tuple") (valC c) = some b
theorem call_isiTup {K : PySem.W.Frag} (hK : X.K = K) : CallR X (.builtin "isinstance") (fun xs H Q => ∃ x c b, xs = [x, c] ∧ ((∃ T, c = .ty T) ∨ ∃ C, c = .ref C) ∧ IsTup2 K H x c b ∧ Q (.bl b) H) := by
  subst hK
  intro pins s σ H xs us Q I r h
  obtain ⟨x, c, b, e0, hc, hi, q⟩ := h
  rcases hi with hi | ⟨a, ys, rfl, ha, e⟩
  · exact call_isinst pins s σ H xs us Q I r ⟨x, c, b, e0, hc, hi, q⟩
  subst e0
  obtain ⟨u, w', rfl, rx, rc⟩ := vals2 r
  have ec : w' = valC c := by
    rcases hc with ⟨T, rfl⟩ | ⟨C, rfl⟩
    · exact rc
    · exact rc
  subst ec
  cases (show u = Value.ref a from rx)
  obtain ⟨its, _, ⟨o, h1, h2, _⟩, _⟩ := I.tuple ha
  exact PySem.W.kia_one PySem.W.kitx_tuple I.kIn ⟨o, h1, h2⟩ e (fun z => nomatch z) fun tk => ⟨.bl b, H, I.tok _, rfl, q⟩
end
end Kw
set_option Elab.async false
set_option linter.all false
set_option maxRecDepth 100000
set_option maxHeartbeats 4000000
namespace Kw
open PySem PySem.Spec PyProof.Rows L2
section
variable {K : PySem.W.Frag} {idx : List Nat} {te : TE} {σ : L2.St} {H : Hp} {Q : VK}
theorem lc_list {a : Addr} {xs : List V} (Pv : Nat → List V → Hp → Prop) (h0 : Pv 0 [] H) (hz : xs.length ≤ sizeLine) (hy : ∀ i ys H, Pv i ys H → ys.length = i) (hl : ∀ i ys H, Pv i ys H → SqL K H a xs)
    (hs : ∀ i x ys H (Q' : VK), xs[i]? = some x → Pv i ys H → (∀ v H2, Pv (i + 1) (ys ++ [v]) H2 → Q' v H2) → te (stIn (some x) idx σ) H Q') (hd : ∀ ys H, Pv xs.length ys H → ∀ p, H p = none → Q (.ref p) (upd H p (.lst ys))) :
    LcBody (Itl K a) idx te σ Q H := by
  refine ⟨fun i m ys H => m = xs.length - i ∧ i ≤ xs.length ∧ Pv i ys H, ⟨xs.length, by simp, Nat.zero_le _, h0⟩, ?_⟩
  rintro i m ys H ⟨rfl, hi, p⟩
  have q := hl i ys H p
  refine ⟨by rw [hy i ys H p]; omega, ?_⟩
  by_cases hlt : i < xs.length
  · refine .inr ⟨⟨xs, xs[i], q, by simp [hlt]⟩, fun y H' yl => ?_⟩
    obtain ⟨e, yl⟩ := yl
    subst e
    exact hs i y ys _ _ (yl xs q) p fun v H2 z => ⟨xs.length - (i + 1), by omega, rfl, hlt, z⟩
  · have e : i = xs.length := by omega
    subst e
    exact .inl ⟨⟨xs, q, Nat.le_refl _⟩, hd ys H p⟩
theorem lc_range {lo : Int} {n : Nat} (Pv : Nat → List V → Hp → Prop) (h0 : Pv 0 [] H) (hz : n ≤ sizeLine) (hy : ∀ i ys H, Pv i ys H → ys.length = i)
    (hs : ∀ i ys H (Q' : VK), i < n → Pv i ys H → (∀ v H2, Pv (i + 1) (ys ++ [v]) H2 → Q' v H2) → te (stIn (some (.int (lo + (i : Int)))) idx σ) H Q') (hd : ∀ ys H, Pv n ys H → ∀ p, H p = none → Q (.ref p) (upd H p (.lst ys))) :
    LcBody (Itr lo n) idx te σ Q H := by
  refine ⟨fun i m ys H => m = n - i ∧ i ≤ n ∧ Pv i ys H, ⟨n, by simp, Nat.zero_le _, h0⟩, ?_⟩
  rintro i m ys H ⟨rfl, hi, p⟩
  refine ⟨by rw [hy i ys H p]; omega, ?_⟩
  by_cases hlt : i < n
  · refine .inr ⟨hlt, fun y H' yl => ?_⟩
    obtain ⟨e, yl⟩ := yl
    subst e yl
    exact hs i ys _ _ hlt p fun v H2 z => ⟨n - (i + 1), by omega, rfl, hlt, z⟩
  · have e : i = n := by omega
    subst e
    exact .inl ⟨Nat.le_refl _, hd ys H p⟩
end
theorem no_free {names : List (Str × NameKind)} {cl : List (Str × Addr)} (h : names.all (fun z => z.2 != .cell && z.2 != .free) = true) : ∀ y, (names.lookup y = some .cell ∨ names.lookup y = some .free) → ∃ c, cl.lookup y = some c := fun y hy => by
  have mem : ∀ (l : List (Str × NameKind)) k, l.lookup y = some k → ∃ z ∈ l, z.2 = k := fun l => by
    induction l with
    | nil => intro k e; cases e
    | cons a r ih =>
      intro k e
      rw [List.lookup_cons] at e
      split at e
      · exact ⟨a, List.mem_cons_self, Option.some.inj e⟩
      · obtain ⟨z, hz, ez⟩ := ih k e
        exact ⟨z, List.mem_cons_of_mem _ hz, ez⟩
  rcases hy with e | e
  all_goals
    obtain ⟨z, hz, ez⟩ := mem _ _ e
    have := List.all_eq_true.mp h z hz
    rw [ez] at this
    simp at this
theorem cap_none {X : Cx} {scope : Scope} {cl : List (Str × Addr)} : Capt X scope cl [] [] := ⟨rfl, fun k y h => by simp at h⟩
end Kw
namespace Kw
open PySem PySem.Spec PyProof.Rows L2
section
variable {K : PySem.W.Frag} {H H' : Hp} {b : Addr} {v : V}
theorem kit_lst_lst : PySem.W.kitOne K (.type "list") (.type "list") = some true := by with_unfolding_all rfl
noncomputable def FracC (K : PySem.W.Frag) (H : Hp) (x : V) (c : Bool) : Prop :=
  (c = false ∧ ∃ t, TyOf K H x t ∧ PySem.W.kitOne K t (.type "tuple") = some false) ∨ (c = false ∧ ∃ p xs, x = .ref p ∧ H p = some (.tup xs) ∧ xs.length ≠ 2) ∨
  (c = false ∧ ∃ p u v, x = .ref p ∧ H p = some (.tup [u, v]) ∧ (WhN K H u ∨ (∃ i, u = .int i) ∧ WhN K H v)) ∨
  ∃ p i j, x = .ref p ∧ H p = some (.tup [.int i, .int j]) ∧ Bd 3000 i ∧ Bd 3000 j ∧ c = (decide (1 ≤ j) && decide (((Int.gcd i j : Nat) : Int) = 1))
theorem FracC.toB {x : V} {c : Bool} (h : FracC K H x c) : FracB K H x c := by
  rcases h with h | h | h | ⟨p, i, j, a, d, _, bj, e⟩
  · exact .inl h
  · exact .inr (.inl h)
  · exact .inr (.inr (.inl h))
  · exact .inr (.inr (.inr ⟨p, i, j, a, d, bj.mono (by decide), e⟩))
noncomputable def WtC (K : PySem.W.Frag) (H : Hp) (x : V) (c : Bool) : Prop := (c = false ∧ WhN K H x) ∨ ∃ i, x = .int i ∧ c = (decide (1 ≤ i) && decide (i ≤ 1000))
noncomputable def BodyC (K : PySem.W.Frag) (H : Hp) (x : V) (c : Bool) : Prop :=
  (c = false ∧ ∃ t, TyOf K H x t ∧ PySem.W.kitOne K t (.type "tuple") = some false) ∨ (c = false ∧ ∃ p xs, x = .ref p ∧ H p = some (.tup xs) ∧ xs.length ≠ 3) ∨
  ∃ p u v w c1 c2 c3, x = .ref p ∧ H p = some (.tup [u, v, w]) ∧ FracC K H u c1 ∧ FracC K H v c2 ∧ WtC K H w c3 ∧ c = (c1 && (c2 && c3))
noncomputable def BodiesC (K : PySem.W.Frag) (H : Hp) : List V → List Bool → Prop
  | [], [] => True
  | x :: xs, c :: cs => BodyC K H x c ∧ BodiesC K H xs cs
  | _, _ => False
theorem BodiesC.len : ∀ {xs : List V} {cs : List Bool}, BodiesC K H xs cs → cs.length = xs.length
  | [], [], _ => rfl
  | _ :: _, _ :: _, h => congrArg Nat.succ (BodiesC.len h.2)
  | [], _ :: _, h => h.elim
  | _ :: _, [], h => h.elim
theorem BodiesC.get : ∀ {xs : List V} {cs : List Bool} {i : Nat} {x : V}, BodiesC K H xs cs → xs[i]? = some x → ∃ c, cs[i]? = some c ∧ BodyC K H x c
  | _ :: _, c :: _, 0, _, h, e => by cases e; exact ⟨c, rfl, h.1⟩
  | _ :: _, _ :: _, i + 1, _, h, e => BodiesC.get (i := i) h.2 (by simpa using e)
  | [], _, _, _, _, e => by simp at e
  | _ :: _, [], _, _, h, _ => h.elim
end
end Kw
namespace Kw
open PySem PySem.Spec PyProof.Rows L2
section
variable {K : PySem.W.Frag} {H H' : Hp} {b c : Addr} {x : V}
end
end Kw
namespace Kw
open PySem PySem.Spec PyProof.Rows L2
theorem cap_one {X : Cx} {scope : Scope} {cl : List (Str × Addr)} {y : Str} {j : Nat} {c : Addr} (h1 : X.N[j]? = some y) (h2 : X.env.kindOf y = some .cell) (h3 : X.env.cells.lookup y = some c) (h4 : cl.lookup y = some c)
    (h5 : (relabel scope X.env).names.lookup y = some .cell ∨ (relabel scope X.env).names.lookup y = some .free) : Capt X scope cl [y] [j] :=
  ⟨rfl, fun k z h => by
    cases k with
    | zero => cases h; exact ⟨j, c, rfl, h1, h2, h3, h4, h5⟩
    | succ k => simp at h⟩
theorem cap_fr {names : List (Str × NameKind)} {cl : List (Str × Addr)} (h : names.all (fun z => (z.2 != .cell && z.2 != .free) || (cl.lookup z.1).isSome) = true) : ∀ y, (names.lookup y = some .cell ∨ names.lookup y = some .free) → ∃ c, cl.lookup y = some c := fun y hy => by
  have mem : ∀ (l : List (Str × NameKind)) k, l.lookup y = some k → (y, k) ∈ l := fun l => by
    induction l with
    | nil => intro k e; cases e
    | cons a r ih =>
      intro k e
      rw [List.lookup_cons] at e
      split at e
      · rename_i q
        have e1 : y = a.1 := by simpa using q
        have e2 := Option.some.inj e
        rw [e1, ← e2]
        exact List.mem_cons_self
      · exact List.mem_cons_of_mem _ (ih k e)
  rcases hy with e | e
  all_goals
    have := List.all_eq_true.mp h _ (mem _ _ e)
    exact Option.isSome_iff_exists.mp (by simpa using this)
end Kw
theorem Kw.ixL {X : L2.Cx} {K : PySem.W.Frag} (hK : X.K = K) : L2.IxR X (L2.rIxL K) := by
  subst hK
  exact L2.ix_list
theorem Kw.ixT {X : L2.Cx} {K : PySem.W.Frag} (hK : X.K = K) : L2.IxR X (L2.rIxT K) := by
  subst hK
  exact L2.ix_tup
namespace Kw
open PySem PySem.Spec PyProof.Rows L2
section
variable {K : PySem.W.Frag} {H : Hp} {b : Addr} {x : V}
end
end Kw
set_option Elab.async false
set_option linter.all false
set_option maxRecDepth 100000
set_option maxHeartbeats 4000000
namespace Kw
open PySem PySem.Spec PyProof.Rows L2
noncomputable def Al2 {β : Type} (R : V → β → Prop) : List V → List β → Prop
  | [], [] => True
  | x :: xs, b :: bs => R x b ∧ Al2 R xs bs
  | _, _ => False
section
variable {β : Type} {R R' : V → β → Prop}
theorem Al2.imp (h : ∀ x b, R x b → R' x b) : ∀ {xs : List V} {bs : List β}, Al2 R xs bs → Al2 R' xs bs
  | [], [], _ => trivial
  | _ :: _, _ :: _, z => ⟨h _ _ z.1, Al2.imp h z.2⟩
  | [], _ :: _, z => z.elim
  | _ :: _, [], z => z.elim
theorem Al2.len : ∀ {xs : List V} {bs : List β}, Al2 R xs bs → xs.length = bs.length
  | [], [], _ => rfl
  | _ :: _, _ :: _, z => by simp [Al2.len z.2]
  | [], _ :: _, z => z.elim
  | _ :: _, [], z => z.elim
theorem Al2.get : ∀ {xs : List V} {bs : List β} {i : Nat} {x : V}, Al2 R xs bs → xs[i]? = some x → ∃ b, bs[i]? = some b ∧ R x b
  | [], _, _, _, _, e => by simp at e
  | _ :: _, [], _, _, z, _ => z.elim
  | _ :: _, b :: _, 0, _, z, e => by
    simp only [List.getElem?_cons_zero, Option.some.injEq] at e
    subst e
    exact ⟨b, rfl, z.1⟩
  | _ :: _, _ :: _, i + 1, _, z, e => by
    simp only [List.getElem?_cons_succ] at e
    obtain ⟨b, h1, h2⟩ := Al2.get z.2 e
    exact ⟨b, by simpa using h1, h2⟩
theorem Al2.snoc : ∀ {xs : List V} {bs : List β} {x : V} {b : β}, Al2 R xs bs → R x b → Al2 R (xs ++ [x]) (bs ++ [b])
  | [], [], _, _, _, h => ⟨h, trivial⟩
  | _ :: _, _ :: _, _, _, z, h => ⟨z.1, Al2.snoc z.2 h⟩
  | [], _ :: _, _, _, z, _ => z.elim
  | _ :: _, [], _, _, z, _ => z.elim
theorem take_snoc {bs : List β} {i : Nat} {b : β} (h : bs[i]? = some b) : bs.take (i + 1) = bs.take i ++ [b] := by
  rw [List.take_add_one, h]
  rfl
end
noncomputable def BdQ (K : PySem.W.Frag) (H : Hp) (n : Nat) (x : V) (b : Rat × Rat × Int) : Prop := ∃ p a c, x = .ref p ∧ SqT K H p [.ref a, .ref c, .int b.2.2] ∧ FQ K H a b.1 ∧ FQ K H c b.2.1 ∧ FB n b.1 ∧ FB n b.2.1 ∧ 1 ≤ b.2.2 ∧ b.2.2 ≤ 10000
section
variable {K : PySem.W.Frag} {H H' : Hp} {n m : Nat} {x : V} {q : Rat} {b : Rat × Rat × Int}
theorem BdQ.same (h : BdQ K H n x b) (s : Same H H') : BdQ K H' n x b := by
  obtain ⟨p, a, c, e, h1, h2, h3, r⟩ := h
  exact ⟨p, a, c, e, Kw.Same.tup s h1, Kw.Same.tup s h2, Kw.Same.tup s h3, r⟩
theorem bds_same {xs : List V} {bs : List (Rat × Rat × Int)} (h : Al2 (BdQ K H n) xs bs) (s : Same H H') : Al2 (BdQ K H' n) xs bs := Al2.imp (fun _ _ z => z.same s) h
end
section
variable {X : Cx} {K : PySem.W.Frag}
noncomputable def tGlobT (K : PySem.W.Frag) (t b : Int) : TE := fun _ H Q => ∀ N, (∀ H1, SqT K H1 N [.int t, .int b]) → Q (.ref N) H
theorem pe_globT {x : Str} {t b : Int} {pos : Pos} (hK : X.K = K) (hg : Gl X x) (hm : ∃ N, X.mg x = some (.ref N) ∧ ∀ H, SqT K H N [.int t, .int b]) (hd : (x == ("__debug__" : Str)) = false := by decide) : PE X (.Name x pos) (tGlobT K t b) := by
  obtain ⟨N, hm, hN⟩ := hm
  intro pins s σ H Q I h
  exact pe_glob hg hm (v := .ref N) rfl hd pins s σ H Q I (h N hN)
theorem sqt_const {A : Addr} {o : Option Addr} {t b : Int} {k1 k2 : Tok} {n : Nat} {sl : Array (Option Value)} (h : K.lookup A = some ⟨.type "tuple", o, .seq #[.int t k1, .int b k2] n, sl⟩) : ∀ H, SqT K H A [.int t, .int b] := fun H =>
  .inr ⟨_, _, _, h, rfl, rfl, by show 2 ≤ sizeLine; decide, .cons ⟨_, rfl⟩ (.cons ⟨_, rfl⟩ .nil)⟩
end
end Kw
set_option Elab.async false
set_option linter.all false
set_option maxRecDepth 100000
set_option maxHeartbeats 4000000
namespace Kw
open PySem PySem.Spec PyProof.Rows L2
section
variable {pr : Program} {wd : World} {Ar : Around} {Er : Value → Shared → Prop}
end
section
variable {X : Cx} {pos : Pos}
end
end Kw
set_option Elab.async false
set_option linter.all false
set_option maxRecDepth 100000
set_option maxHeartbeats 4000000
namespace Kw
open PySem PySem.Spec PyProof.Rows L2
section
variable {K : PySem.W.Frag} {te : TE} {σ : L2.St} {H : Hp} {Q : VK} {idx : List Nat}
end
end Kw
set_option Elab.async false
set_option linter.all false
set_option maxRecDepth 100000
set_option maxHeartbeats 4000000
namespace Kw
open PySem PySem.Spec PyProof.Rows L2
section
variable {K : PySem.W.Frag} {H H' : Hp} {n : Nat} {x : V} {q : Rat} {b : Rat × Rat × Int} {c : Addr} {zs xs : List V} {bs : List (Rat × Rat × Int)}
theorem newB {H : Hp} {p : Addr} (o : HO) : ∃ H', upd H p o = H' ∧ But p H H' ∧ H' p = some o := ⟨_, rfl, but_upd _, upd_same⟩
noncomputable def Asc (bs : List (Rat × Rat × Int)) : Prop := List.Pairwise (fun a b => a.1 < b.1) bs
end
section
end
theorem most_of (ns : List Int) (N : Int) (h : 1 ≤ N) : ∃ m : Int, (if (if N < (((ns.map V.int).length : Nat) : Int) then N else (((ns.map V.int).length : Nat) : Int)) > 1 then (if N < (((ns.map V.int).length : Nat) : Int) then N else (((ns.map V.int).length : Nat) : Int)) else 1) = m ∧ 1 ≤ m ∧ m ≤ N := by
  refine ⟨_, rfl, ?_⟩
  split
  · split <;> omega
  · omega
end Kw
set_option Elab.async false
set_option linter.all false
set_option maxRecDepth 100000
set_option maxHeartbeats 4000000
namespace Kw
open PySem PySem.Spec PyProof.Rows L2
section
variable {X : Cx} {pins : List (Addr × Obj)} {σ : L2.St} {H : Hp} {s : Shared} {N ns xs : List Str} {scope : Scope} {cl : List (Str × Addr)} {C : Addr} {fp : List Addr} {idx : List Nat}
end
section
variable {X : Cx} {elt iter tg : Expr} {ifs : List Expr} {xs : List Str} {pos : Pos} {scope : Scope} {cl : List (Str × Addr)} {wi : TI} {g : TG} {tt : TT} {te : TE} {ns : List Str} {idx : List Nat}
end
section
variable {K : PySem.W.Frag} {te : TE} {tt : TT} {g : TG} {σ : L2.St} {H : Hp} {Q : VK} {idx : List Nat} {k : Nat}
end
section
variable {X : Cx} {pos : Pos}
end
end Kw
set_option Elab.async false
set_option linter.all false
set_option maxRecDepth 100000
set_option maxHeartbeats 4000000
namespace Kw
open PySem PySem.Spec PyProof.Rows L2
end Kw
set_option Elab.async false
set_option linter.all false
set_option maxRecDepth 100000
set_option maxHeartbeats 4000000
namespace Kw
open PySem PySem.Spec PyProof.Rows L2
noncomputable def excO (K : PySem.W.Frag) (C : Addr) : Bool := match K.lookup C with
  | some ⟨.type "type", _, .cls klass, sl⟩ => (match klass.mro, sl.toList with
    | .ref C' :: bm, [_, _, _, _, some (.builtin n), _] => C' == C && n == "ValueError.__new__" && !klass.hasDel && PySem.W.tailIn K bmV bm && PySem.W.nsOkIn K klass.ns
    | _, _ => false)
  | _ => false
theorem excO_obj {K : PySem.W.Frag} {h : Heap} {C : Addr} (X : K.In h) (q : excO K C = true) :
    ∃ bm N nm qn bs hdct sn sub ab col dd k0 k1 k2 k3 k5, h.get? C = some (excClassObj nm qn C N bs bm hdct sn sub ab col dd k0 k1 k2 k3 k5 "ValueError.__new__") ∧ OwnTail h bmV bm := by
  unfold excO at q
  cases hl : K.lookup C with
  | none => rw [hl] at q; cases q
  | some o =>
    rw [hl] at q
    split at q
    · rename_i dd klass sl eo
      cases eo
      split at q
      · rename_i C' bm k0 k1 k2 k3 n k5 hm hs
        simp only [Bool.and_eq_true, beq_iff_eq, Bool.not_eq_true'] at q
        obtain ⟨⟨⟨⟨e1, e2⟩, e3⟩, e4⟩, e5⟩ := q
        subst e1 e2
        cases klass with
        | mk nm bs mro ns qn hd sn sub ab col del =>
          simp only at hm e3 e5
          subst hm e3
          cases sl with
          | mk sll =>
            simp only at hs
            subst hs
            exact ⟨bm, ns, nm, qn, bs, hd, sn, sub, ab, col, dd, k0, k1, k2, k3, k5, X _ _ hl, PySem.W.tail_of_in X e4⟩
      · cases q
    · cases q
noncomputable abbrev newX (C t : Addr) : Obj := { cls := .ref C, data := .fields #[.ref t, .none, .none, .none, .bool false, .none] }
section
variable {prog : Program} {w : World} {A : Around} {E : Value → Shared → Prop} {h : Heap} {g : Array GenState} {d : Drawn} {t : Nat} {os : OsState} {C f : Addr} {K : PySem.W.Frag}
theorem type_call_init {more : List Value} {Q : Fin → Shared → Prop} (kx : K.In h) (q : excO K C = true) (hi : PySem.W.findIn K (.ref C) "__init__" = some (some (.ref f))) (hf : PySem.W.typeIn K (.ref f) = some (.type "function"))
    (hz : more.length ≤ sizeLine)
    (want : codeAny (model prog w) A (.call (.ref f) ⟨.ref (h.objs.size + 1) :: more, []⟩) (fun r s' => match r with | .ok (.ret v) => v = .none ∧ Q (.done (.ret (.ref (h.objs.size + 1)))) s' | .ok _ => False | .error e => E e s')
      ⟨(h.push { cls := .type "tuple", data := .seq more.toArray }).push (newX C h.objs.size), g, d, t, os⟩) :
    wpAny (model prog w) A (Builtin.«type.__call__» ⟨.ref C :: more, []⟩) Q E ⟨h, g, d, t, os⟩ := by
  obtain ⟨bm, N, nm, qn, bs, hdct, sn, sub, ab, col, dd, k0, k1, k2, k3, k5, kC, T⟩ := excO_obj kx q
  have F := PySem.F.excBase_ValueError
  repeat (first | with_reducible refine wpAny_madeBy_exc kC ?_ | with_reducible refine wpAny_loadPart_at kC ?_ | wp_step)
  refine codeAny_call_builtin_code (Code.quiet_builtin _ F.quiet) (wpAny_check_new_subT F T kC ?_)
  refine codeAny_exc_new_subT F T kC ?_ hz
  show wpAny _ _ _ _ _ _
  have hk : ∀ b o, h.get? b = some o → ((h.push { cls := .type "tuple", data := .seq more.toArray }).push (newX C h.objs.size)).get? b = some o := fun b o e => Heap.get?_push_of_some _ (Heap.get?_push_of_some _ e)
  have kC1 := hk _ _ kC
  have kx1 : K.In ((h.push { cls := .type "tuple", data := .seq more.toArray }).push (newX C h.objs.size)) := fun a o e => hk a o (kx a o e)
  have hget : ((h.push { cls := .type "tuple", data := .seq more.toArray }).push (newX C h.objs.size)).get? (h.objs.size + 1) = some (newX C h.objs.size) := by heap_get
  have kself : (Value.ref C :: bm).contains (.ref C) = true := by simp
  unfold isInstance
  repeat (first | with_reducible refine wpAny_loadPart_at hget ?_ | (with_reducible refine wpAny_isSubtype_exc kC1 ?_; rw [kself]) | wp_step)
  show wpAny _ _ (typeLookup (.ref C) _) _ _ _
  refine (PySem.W.looks_findIn kx1 hi).at ?_
  refine wpAny_holding (wpAny_bind ((PySem.W.bind_fn kx1 (.ref (h.objs.size + 1)) hf).at ?_))
  dsimp only
  refine wpAny_bind (wpAny_call (codeAny_mono want fun r z hr => ?_))
  cases r with
  | error e => exact hr
  | ok fl =>
    cases fl with
    | ret v =>
      obtain ⟨rfl, hq⟩ := hr
      refine wpAny_pure ?_
      exact wpAny_pure hq
    | next => exact hr.elim
    | brk => exact hr.elim
    | cont => exact hr.elim
theorem call_init {more : List Value} {Q : Value → Shared → Prop} (kx : K.In h) (q : excO K C = true) (hi : PySem.W.findIn K (.ref C) "__init__" = some (some (.ref f))) (hf : PySem.W.typeIn K (.ref f) = some (.type "function")) (hz : more.length ≤ sizeLine)
    (want : ∀ A' : Around, A' = A.under (.builtin "type.__call__" ⟨.ref C :: more, []⟩) → codeAny (model prog w) A' (.call (.ref f) ⟨.ref (h.objs.size + 1) :: more, []⟩) (fun r s' => match r with | .ok (.ret v) => v = .none ∧ Q (.ref (h.objs.size + 1)) s' | .ok _ => False | .error e => E e s')
      ⟨(h.push { cls := .type "tuple", data := .seq more.toArray }).push (newX C h.objs.size), g, d, t, os⟩) :
    wpAny (model prog w) A (call (.ref C) more) Q E ⟨h, g, d, t, os⟩ := by
  obtain ⟨bm, N, nm, qn, bs, hdct, sn, sub, ab, col, dd, k0, k1, k2, k3, k5, kC, T⟩ := excO_obj kx q
  have f1 := tc_lookup
  have f2 := tc_bind (.ref C)
  have tC : (⟨h, g, d, t, os⟩ : Shared).TypeIs (.ref C) "type" := ⟨_, kC, rfl⟩
  refine wpAny_call (codeAny_of_tree ?_)
  show wpAny _ _ (callAny (.ref C) _) _ _ _
  repeat (any_goals (first | assumption | with_reducible refine wpAny_loadPart_at kC ?_ | wp_step))
  refine ⟨rfl, ?_⟩
  refine codeAny_call_builtin_at (Code.quiet_builtin _ (by decide +kernel)) entry_typeCall (wpAny_check_type_call_sub kC (type_call_init kx q hi hf hz (codeAny_mono (want _ ?_) fun r z hr => ?_)))
  · rfl
  · cases r with
    | error e => exact hr
    | ok fl =>
      cases fl with
      | ret v => exact hr
      | next => exact hr.elim
      | brk => exact hr.elim
      | cont => exact hr.elim
end
end Kw
namespace Kw
open PySem PySem.Spec PyProof.Rows L2
section
variable {prog : Program} {w : World} {A : Around} {E : Value → Shared → Prop} {h : Heap} {g : Array GenState} {d : Drawn} {t : Nat} {os : OsState} {C e : Addr} {K : PySem.W.Frag} {oe : Obj} {vs : Array Value}
theorem base_init {more : List Value} {Q : Value → Shared → Prop} (kx : K.In h) (q : excO K C = true) (he : h.get? e = some oe) (hcls : oe.cls = .ref C) (hd : oe.data = .fields vs) (h0 : 0 < vs.size) (hz : more.length ≤ sizeLine)
    (want : ∀ h', (∀ b o, b ≠ e → h.get? b = some o → h'.get? b = some o) → (∃ v, h'.get? e = some { oe with data := .fields (vs.setIfInBounds 0 v) }) → Q .none ⟨h', g, d, t, os⟩) :
    wpAny (model prog w) A (call (.builtin "ValueError.__init__") (.ref e :: more)) Q E ⟨h, g, d, t, os⟩ := by
  obtain ⟨bm, N, nm, qn, bs, hdct, sn, sub, ab, col, dd, k0, k1, k2, k3, k5, kC, T⟩ := excO_obj kx q
  have F := PySem.F.excBase_ValueError
  refine wpAny_call (codeAny_call_builtin F.init.plain F.initEntry (wpAny_check_init_subT F T kC he hcls ?_))
  have he1 := Heap.get?_push_of_some { cls := .type "tuple", data := .seq more.toArray } he
  repeat (first | wp_step)
  rw [hd]
  refine wpAny_pure ?_
  rw [Array.getElem?_eq_getElem h0]
  refine wpAny_pure ?_
  refine wpAny_bind (wpAny_setField he1 hd h0 ?_)
  have fin := want ((h.push { cls := .type "tuple", data := .seq more.toArray }).update e (Obj.mapFields (·.setIfInBounds 0 (.ref h.objs.size)))) (fun b o hb e' => by
      rw [Heap.get?_update_other _ _ (Ne.symm hb)]
      exact Heap.get?_push_of_some _ e') (by
      obtain ⟨c, dd', da, sl⟩ := oe
      simp only at hd
      subst hd
      refine ⟨.ref h.objs.size, ?_⟩
      rw [Heap.get?_update_self _ he1 rfl]
      rfl)
  generalize vs[0] = v0
  cases v0 <;> first | exact wpAny_pure (wpAny_pure fin) | exact wpAny_letGo (wpAny_pure fin)
end
end Kw
namespace Kw
open PySem PySem.Spec PyProof.Rows L2 PySem.Builtin PySem.Builtin.ObjectAttr
noncomputable def isRefV : Value → Bool
  | .ref _ => true
  | _ => false
noncomputable def onlyExc : List Value → Bool
  | [] => false
  | c :: r => (c :: r) == bmV || (isRefV c && onlyExc r)
theorem refuse_skip (self : Value) {n : String} {l : List Value} (h : fastBuiltinOwn n "__setattr__" = none) (h1 : (n == "_thread._local") = false) (h2 : (n == "_pickle.Pickler" || n == "_pickle.Unpickler") = false) :
    PySem.refuseLoop self "__setattr__" (.type n :: l) = PySem.refuseLoop self "__setattr__" l := by
  have e : classOwn (.type n) "__setattr__" = pure none := by
    show (pure (builtinOwn n "__setattr__") : Sem (Option Value)) = pure none
    rw [builtinOwn_eq_fast, h]
  unfold PySem.refuseLoop
  simp only [List.forIn_cons, h1, h2, e]
  rfl
theorem refuse_bm (self : Value) : PySem.refuseLoop self "__setattr__" bmV = pure () := by
  unfold bmV
  rw [refuse_skip self (by decide +kernel) (by decide) (by decide), refuse_skip self (by decide +kernel) (by decide) (by decide), refuse_skip self (by decide +kernel) (by decide) (by decide)]
  exact PySem.F.store_object.passes self
theorem isRefV_eq {c : Value} (h : isRefV c = true) : ∃ a, c = .ref a := by
  cases c <;> first | exact ⟨_, rfl⟩ | cases h
theorem refuse_exc (self : Value) : ∀ {l : List Value}, onlyExc l = true → PySem.refuseLoop self "__setattr__" l = pure ()
  | c :: r, e => by
    unfold onlyExc at e
    rcases Bool.or_eq_true_iff.mp e with e | e
    · rw [beq_iff_eq.mp e]
      exact refuse_bm self
    · rw [Bool.and_eq_true] at e
      obtain ⟨a, rfl⟩ := isRefV_eq e.1
      rw [PySem.refuseLoop_ref]
      exact refuse_exc self e.2
noncomputable def excOver (K : PySem.W.Frag) (C : Addr) : Bool := (PySem.W.clsIn K C).any fun klass => onlyExc klass.mro && klass.hasDict
section
variable {prog : Program} {w : World} {A : Around} {R : Result → Shared → Prop} {s : Shared} {K : PySem.W.Frag} {x C : Addr} {ox : Obj} {od : Option Obj} {name : Str} {tk : Tok} {v : Value}
theorem xsa_open (X : K.In s.heap) (I : PySem.W.InstAt s.heap x ox C od) (hp : excOver K C = true) (ob : PySem.W.mroIn K C (.type "object") = some true) (hn : PySem.W.findIn K (.ref C) name = some none)
    (want : ∀ b, wpAny (model prog w) A.in1 (storeInOwnDict (.ref x) (.ref C) (.str name tk) name v b) (fun fin z => match fin with | .done f => R (.ok f) z | .again c => c.quiet = true ∧ codeAny (model prog w) A c R z) (fun e z => R (.error e) z) s) :
    codeAny (model prog w) A (.call (.builtin "object.__setattr__") ⟨[.ref x, .str name tk, v], []⟩) R s := by
  have sto := PySem.F.store_object
  obtain ⟨klass, hc, ho⟩ := PySem.W.any_some hp
  rw [Bool.and_eq_true] at ho
  have isO : PySem.W.Looks (model prog w) s.heap (isInstance (.ref x) (.type "object")) true := I.type.andThen (PySem.W.looks_mroIn X ob)
  refine codeAny_call_builtin sto.slot.plain sto.entry (@PySem.W.check_slot (model prog w) _ _ s "object.__setattr__" "object" "__setattr__" (.ref x) [.str name tk, v] [] _ sto.kind sto.split isO (sto.args (.ref x) (.str name tk) v) ?_)
  have lm : PySem.W.Looks (model prog w) s.heap (mroOf (.ref C)) klass.mro := (PySem.W.looks_clsIn X hc).andThen .now
  have lt : PySem.W.Looks (model prog w) s.heap (storeTaker? none) none := .now
  rw [PySem.W.osa_eq, PySem.refuse_eq]
  refine wpAny_bind (wpAny_bind (I.type.here (wpAny_bind (lm.here ?_))))
  rw [refuse_exc _ ho.1]
  refine wpAny_pure (wpAny_bind (I.type.here (wpAny_bind ((PySem.W.looks_findIn X hn).here (wpAny_bind (lt.here ?_))))))
  exact want _
end
end Kw
set_option Elab.async false
set_option linter.all false
set_option maxRecDepth 100000
set_option maxHeartbeats 4000000
namespace Kw
open PySem PySem.Spec PyProof.Rows L2 PySem.Builtin PySem.Builtin.ObjectAttr
section
variable {prog : Program} {w : World} {A : Around} {R : Result → Shared → Prop} {s : Shared} {K : PySem.W.Frag} {x C : Addr} {ox : Obj} {od : Option Obj} {name : Str} {tk : Tok} {v : Value}
theorem set_first {Q : Unit → Shared → Prop} {E : Value → Shared → Prop} {vs : Array Value} {sl : Array (Option Value)} (X : K.In s.heap) (hx : s.heap.get? x = some ⟨.ref C, none, .fields vs, sl⟩) (hp : excOver K C = true) (ob : PySem.W.mroIn K C (.type "object") = some true)
    (hsa : PySem.W.findIn K (.ref C) "__setattr__" = some (some (.builtin "object.__setattr__"))) (hn : PySem.W.findIn K (.ref C) name = some none)
    (want : ∀ h' tk', h'.get? x = some ⟨.ref C, some s.heap.objs.size, .fields vs, sl⟩ → h'.Ns1 s.heap.objs.size (fun y => if y = name then some v else none) → (∀ b o, b ≠ x → s.heap.get? b = some o → h'.get? b = some o) → Q () { s with heap := h', toks := tk' }) :
    wpAny (model prog w) A (setAttr (.ref x) name v) Q E s := by
  have I : PySem.W.InstAt s.heap x ⟨.ref C, none, .fields vs, sl⟩ C none := ⟨hx, rfl, rfl, True.intro⟩
  refine PySem.W.set_plain X I hsa (xsa_open (s := { s with toks := s.toks + 1 }) X I hp ob hn fun b => ?_)
  obtain ⟨cd, hc, ho⟩ := PySem.W.any_some hp
  rw [Bool.and_eq_true] at ho
  unfold storeInOwnDict
  refine wpAny_bind (wpAny_pure ?_)
  rw [if_neg (by intro z; cases (beq_iff_eq.mp z))]
  unfold ownDictForStores
  refine wpAny_bind ?_
  unfold instanceDict
  refine wpAny_bind (wpAny_loadPart hx ?_)
  dsimp only
  refine wpAny_bind (PySem.W.Looks.here (s := { s with toks := s.toks + 1 }) (PySem.W.looks_clsIn X hc) ?_)
  rw [ho.2]
  rw [if_neg (by decide), if_neg (by show ¬ ((!true || !true) = true); decide)]
  refine wpAny_bind (wpAny_alloc ?_)
  have hx1 := Heap.get?_push_of_some { cls := .type "dict", data := .dict #[] } hx
  refine wpAny_bind (wpAny_update hx1 ?_)
  refine wpAny_pure ?_
  unfold storeInDict
  have hlt : x < s.heap.objs.size := Heap.lt_size hx
  have nx : x ≠ s.heap.objs.size := Nat.ne_of_lt hlt
  have hd1 : ((s.heap.push { cls := .type "dict", data := .dict #[] }).update x fun o => { o with dict := some s.heap.objs.size }).Ns1 s.heap.objs.size fun _ => none :=
    ⟨_, #[], 0, (Heap.get?_update_other _ _ nx).trans (Heap.get?_push_size _ rfl), rfl, (fun e he => by simp at he), (by simp [UniqKeys]), fun _ => rfl⟩
  refine wpAny_bind (wpAny_pure (wpAny_bind ?_))
  refine wpAny_nsSet1 hd1 fun h' hn2 hs2 => ?_
  obtain ⟨oD, esD, epD, kD1, kD2, kD3⟩ := hn2.count (PySem.Within.cons name v (ns := []) (fun y hy => by simp at hy))
  refine wpAny_bind (wpAny_lookBehind kD1 (by rw [kD2]; exact pastItsLine_dict (Nat.le_trans kD3 (by rw [sizeLine_eq]; simp))) ?_)
  refine wpAny_pure (want h' _ ?_ hn2 fun b o hb e => ?_)
  · rw [hs2.2 x nx, Heap.get?_update_self _ hx1 rfl]
  · have hb' : b ≠ s.heap.objs.size := Nat.ne_of_lt (Heap.lt_size e)
    rw [hs2.2 b hb', Heap.get?_update_other _ _ (Ne.symm hb)]
    exact Heap.get?_push_of_some _ e
theorem set_more {Q : Unit → Shared → Prop} {E : Value → Shared → Prop} {vs : Array Value} {sl : Array (Option Value)} {dx : Addr} {mA : Str → Option Value} {ns : List Str} (X : K.In s.heap) (hx : s.heap.get? x = some ⟨.ref C, some dx, .fields vs, sl⟩) (hd : s.heap.Ns1 dx mA) (hw : PySem.Within mA ns) (hz : ns.length < sizeLine)
    (hp : excOver K C = true) (ob : PySem.W.mroIn K C (.type "object") = some true) (hsa : PySem.W.findIn K (.ref C) "__setattr__" = some (some (.builtin "object.__setattr__"))) (hn : PySem.W.findIn K (.ref C) name = some none)
    (want : ∀ h' tk', h'.Ns1 dx (fun y => if y = name then some v else mA y) → Heap.SameBut dx s.heap h' → Q () { s with heap := h', toks := tk' }) : wpAny (model prog w) A (setAttr (.ref x) name v) Q E s := by
  obtain ⟨odx, es, ep, e1, e2⟩ := id hd
  have I : PySem.W.InstAt s.heap x ⟨.ref C, some dx, .fields vs, sl⟩ C (some odx) := ⟨hx, rfl, rfl, e1⟩
  refine PySem.W.set_plain X I hsa (xsa_open (s := { s with toks := s.toks + 1 }) X I hp ob hn fun b => ?_)
  obtain ⟨cd, hc, ho⟩ := PySem.W.any_some hp
  rw [Bool.and_eq_true] at ho
  unfold storeInOwnDict
  refine wpAny_bind (wpAny_pure ?_)
  rw [if_neg (by intro z; cases (beq_iff_eq.mp z))]
  unfold ownDictForStores
  refine wpAny_bind ?_
  unfold instanceDict
  refine wpAny_bind (wpAny_loadPart hx ?_)
  dsimp only
  refine wpAny_bind (PySem.W.Looks.here (s := { s with toks := s.toks + 1 }) (PySem.W.looks_clsIn X hc) ?_)
  rw [ho.2, if_neg (by decide)]
  refine wpAny_pure ?_
  unfold storeInDict
  refine wpAny_bind (wpAny_pure (wpAny_bind ?_))
  refine wpAny_nsSet1 (s := { s with toks := s.toks + 1 }) hd fun h' hn2 hs2 => ?_
  obtain ⟨oD, esD, epD, kD1, kD2, kD3⟩ := hn2.count (PySem.Within.cons name v hw)
  refine wpAny_bind (wpAny_lookBehind kD1 (by rw [kD2]; exact pastItsLine_dict (Nat.le_trans kD3 (by rw [List.length_cons]; omega))) ?_)
  exact wpAny_pure (want h' _ hn2 hs2)
end
end Kw
set_option Elab.async false
set_option linter.all false
set_option maxRecDepth 100000
set_option maxHeartbeats 4000000
namespace Kw
open PySem PySem.Spec PyProof.Rows L2 PySem.Builtin PySem.Builtin.ObjectAttr
theorem look_ns1 {h : Heap} {dx : Addr} {mA : Str → Option Value} {name : Str} (hd : h.Ns1 dx mA) : ∃ o, h.get? dx = some o ∧ PySem.W.lookIn name o = some (mA name) := by
  obtain ⟨o, es, ep, e1, e2, k, _, f⟩ := hd
  refine ⟨o, e1, ?_⟩
  unfold PySem.W.lookIn
  rw [e2]
  dsimp only
  have e3 : (es.toList.find? (·.key.isStr name)).map (·.val) = mA name := by
    rw [← f name]
    unfold nsFind findBy
    rw [← Array.find?_toList]
  cases q : es.toList.find? (·.key.isStr name) with
  | some en =>
    rw [q] at e3
    exact congrArg some e3
  | none =>
    rw [q] at e3
    have ha : es.toList.any (·.refKey) = false := by
      rw [List.any_eq_false]
      intro en hen
      obtain ⟨n, t, ek⟩ := k en (by simpa using hen)
      simp [DictEntry.refKey, ek]
    dsimp only
    rw [ha, if_neg (by decide)]
    exact congrArg some e3
section
variable {prog : Program} {w : World} {A : Around} {E : Value → Shared → Prop} {s : Shared} {K : PySem.W.Frag} {x C : Addr} {ox : Obj} {odx : Obj} {name : Str} {v : Value}
theorem ga_value {tk : Tok} {Q : Fin → Shared → Prop} (kx : K.In s.heap) (I : PySem.W.InstAt s.heap x ox C (some odx)) (hf : PySem.W.findObj K C (some odx) name = some (.value v)) (want : Q (.done (.ret v)) s) :
    wpAny (model prog w) A (Builtin.«object.__getattribute__» ⟨[.ref x, .str name tk], []⟩) Q E s := by
  obtain ⟨z0, z1, z2, z3, z4⟩ := s
  have L0 := I.type (M := model prog w)
  have L1 := PySem.W.looks_find (M := model prog w) kx I hf
  unfold Builtin.«object.__getattribute__»
  repeat lk
  exact want
theorem exc_fld {expr : Bool} {Q : Value → Shared → Prop} (kx : K.In s.heap) (I : PySem.W.InstAt s.heap x ox C (some odx)) (q : ExcQ K C) (hf : PySem.W.findObj K C (some odx) name = some (.value v)) (hh : PySem.W.handedIn v = true) (want : Q v { s with toks := s.toks + 1 }) :
    wpAny (model prog w) A (getAttr (.ref x) name expr) Q E s := by
  obtain ⟨z0, z1, z2, z3, z4⟩ := s
  have L0 := I.type (M := model prog w)
  have L1 := PySem.W.looks_findIn (M := model prog w) kx q.ga
  have L2 := PySem.W.looks_findIn (M := model prog w) kx q.hk
  have f3 := PySem.F.excAttr_ValueError.ga.bind (.ref x)
  unfold getAttr getAttrBy
  refine wpAny_bind (wpAny_mkText (wpAny_holding (wpAny_bind (L0.at (wpAny_bind (L1.at ?_))))))
  dsimp only
  have e1 : (Value.builtin "BaseException.__getattribute__" == Value.builtin "object.__getattribute__") = false := by decide +kernel
  rw [e1, Bool.and_false, if_neg (by decide)]
  unfold getAttrByItsOwn hookBefore
  rw [show onTheHeap (Value.ref C) = true from rfl, if_pos rfl]
  refine wpAny_bind (L2.at ?_)
  refine wpAny_bind (wpAny_attempt (wpAny_holding ?_))
  unfold callGetattribute boundAndCalled
  rw [if_neg (by cases expr <;> decide), f3]
  refine wpAny_bind (wpAny_pure ?_)
  dsimp only
  refine wpAny_call (codeAny_call_builtin PySem.F.excAttr_ValueError.ga.plain PySem.F.entry_bexc_ga (ga_check kx L0 q (ga_value kx I hf ?_)))
  show wpAny _ _ (handedOut v) _ _ _
  rw [PySem.W.handedOut_of hh]
  exact wpAny_pure want
end
end Kw
set_option Elab.async false
set_option linter.all false
set_option maxRecDepth 100000
set_option maxHeartbeats 4000000
namespace Kw
open PySem PySem.Spec PyProof.Rows L2
noncomputable def XoIs (x C : Addr) (od : Option Addr) (h : Heap) : Prop := ∃ (vs : Array Value) (sl : Array (Option Value)), (∃ a, vs = #[a, .none, .none, .none, .bool false, .none]) ∧ h.get? x = some ⟨.ref C, od, .fields vs, sl⟩
noncomputable abbrev Xo (x C : Addr) (od : Option Addr) : HO := .ext (XoIs x C od)
noncomputable def XdIs (d : Addr) (fs : List (Str × V)) (h : Heap) : Prop := ∃ mA, h.Ns1 d mA ∧ (∀ f, RelO (fs.lookup f) (mA f)) ∧ PySem.Within mA (fs.map (·.1))
noncomputable abbrev Xd (d : Addr) (fs : List (Str × V)) : HO := .ext (XdIs d fs)
section
variable {P : Program} {w : World} {H : Hp} {h : Heap} {x C d : Addr} {od : Option Addr} {fs : List (Str × V)}
theorem xo_ok (e : XoIs x C od h) : ObjOk P w H h x (Xo x C od) := by
  obtain ⟨vs, sl, a, b⟩ := id e
  exact ⟨e, ⟨_, b⟩, fun _ _ ⟨vs, sl, a, b⟩ k => ⟨vs, sl, a, k _ b⟩⟩
theorem xd_ok (e : XdIs d fs h) : ObjOk P w H h d (Xd d fs) := by
  obtain ⟨mA, ⟨o, es, ep, ho, _⟩, _⟩ := id e
  exact ⟨e, ⟨o, ho⟩, fun _ _ ⟨mA, ⟨o, es, ep, q, c⟩, r, wi⟩ k => ⟨mA, ⟨o, es, ep, k _ q, c⟩, r, wi⟩⟩
end
structure MkX (K : PySem.W.Frag) (C f : Addr) : Prop where
  o : excO K C = true
  init : PySem.W.findIn K (.ref C) "__init__" = some (some (.ref f))
  fn : PySem.W.typeIn K (.ref f) = some (.type "function")
  kp : PySem.W.keepIn K (.ref C) = true
structure XCls (K : PySem.W.Frag) (C : Addr) : Prop where
  ov : excOver K C = true
  ob : PySem.W.mroIn K C (.type "object") = some true
  sa : PySem.W.findIn K (.ref C) "__setattr__" = some (some (.builtin "object.__setattr__"))
  hd : PySem.W.hasDictIn K C = true
noncomputable def tMkx (C : Addr) (sp : Sp) (E : XK) (t : TA) : TE := fun σ H Q => t σ H fun vs H1 => vs.length ≤ sizeLine ∧ ∀ x, H1 x = none →
  sp (.ref x :: vs) (upd H1 x (Xo x C none)) (fun v H2 => v = .non ∧ Q (.ref x) H2) E
noncomputable def tBase (K : PySem.W.Frag) (t : TA) : TE := fun σ H Q => t σ H fun vs H1 => ∃ x C od more, vs = .ref x :: more ∧ H1 x = some (Xo x C od) ∧ excO K C = true ∧ more.length ≤ sizeLine ∧ Q .non H1
noncomputable def sXf (K : PySem.W.Frag) (ta tv : TE) (f : Str) : TS := fun D σ H => tv σ H fun y H1 => ta σ H1 fun x H2 => ∃ a C, x = .ref a ∧ XCls K C ∧ NoAttr K C f ∧
  ((H2 a = some (Xo a C none) ∧ ∀ d, H2 d = none → D.nx σ (upd (upd H2 d (Xd d [(f, y)])) a (Xo a C (some d)))) ∨
    ∃ d fs, H2 a = some (Xo a C (some d)) ∧ H2 d = some (Xd d fs) ∧ fs.length < 1000 ∧ D.nx σ (upd H2 d (Xd d (putF f y fs))))
structure FnI (P : Program) (w : World) (K : PySem.W.Frag) (mg : Str → Option Value) (base : Heap) (k : Nat) (C : Addr) (ps : List Str) (sp : Sp) : Prop where
  ex : ∃ f fd, FnOk P w K mg base (CXE P w) k f fd ps sp ∧ MkX K C f ∧ Binds K fd ps []
structure DfI (K : PySem.W.Frag) (C : Addr) (qual : Str) (st : Stmt) (ps : List Str) : Prop where
  ex : ∃ (f : Addr) (oc : Value) (od : Option Addr) (kV doc pm : Value) (an : Option Addr) (cdv ct : Value) (osl : Array (Option Value)),
    K.lookup f = some ⟨oc, od, .func (PySem.W.fnOf "__init__" qual (defArgs st) (defBody st) (defScope st) .none kV doc pm an cdv ct), osl⟩ ∧ PySem.W.codeIn K cdv qual = true ∧ MkX K C f ∧
    Binds K (PySem.W.fnOf "__init__" qual (defArgs st) (defBody st) (defScope st) .none kV doc pm an cdv ct) ps []
section
variable {P : Program} {w : World} {K : PySem.W.Frag} {mg : Str → Option Value} {base : Heap} {C : Addr} {qual : Str} {st : Stmt} {N ps : List Str} {k : Nat} {sp : Sp}
theorem DfI.ok (D : DfI K C qual st ps) (S : FnScope N ps (defScope st)) (len : ∀ vs H Q E, sp vs H Q E → vs.length = ps.length)
    (hbody : ∀ (f : Addr) (cdv : Value) (A : Around) (outer : List Env) (s : Shared) (H : Hp) (vs : List V) (Q : VK) (E : XK), Room k (A.deeper (envOfC qual (defScope st) s.heap.objs.size f cdv)) → sp vs H Q E →
      ∃ t, PSs (cxOf (CXE P w) P w K mg base N qual (defScope st) f cdv A outer s H E).nox (defBody st) t ∧ t { nx := fun _ H' => Q .non H', rt := Q } (start N vs) H) : FnI P w K mg base (k + 1) C ps sp := by
  obtain ⟨f, oc, od, kV, doc, pm, an, cdv, ct, osl, lk, hcd, M, bd⟩ := D.ex
  refine ⟨f, _, fn_of lk hcd S len fun A outer s H vs Q E hr hsp => ?_, M, bd⟩
  obtain ⟨t, h, q⟩ := hbody f cdv A outer s H vs Q E hr hsp
  exact ⟨t, h.nox, q⟩
end
section
variable {X : Cx} {pins : List (Addr × Obj)} {σ : L2.St} {H : Hp} {s : Shared} {k k' : Nat} {f C CK : Addr} {fd : FuncData} {ps : List Str} {sp : Sp} {E : XK} {x : Str} {p pos apos : Pos} {e : Expr} {es : List Expr} {t : TA}
theorem run_mkx {Q : VK} {us : List Value} {vs : List V} (M : MkX X.K C f) (F : FnOk X.prog X.w X.K X.mg X.base (CXE X.prog X.w) k f fd ps sp) (hr : Room (k + 1) X.A) (hb : Binds X.K fd ps [])
    (hx : Passes (CXE X.prog X.w) X E) (I : Inv X pins σ H s) (r : Vals vs us) (hz : vs.length ≤ sizeLine)
    (h : ∀ x, H x = none → sp (.ref x :: vs) (upd H x (Xo x C none)) (fun v H2 => v = .non ∧ Q (.ref x) H2) E) :
    wpAny (model X.prog X.w) X.A (call (.ref C) us) (EP X pins σ Q) X.xe s := by
  obtain ⟨hh, g, d, t, os⟩ := s
  have hq := h (hh.objs.size + 1) (I.hok.fresh (Nat.le_succ _))
  have I1 := I.kept (h' := hh.push { cls := .type "tuple", data := .seq us.toArray }) (t' := t) (fun b u q => Heap.get?_push_of_some _ q)
  have e2 : ((hh.push { cls := .type "tuple", data := .seq us.toArray }).push (newX C hh.objs.size)).get? (hh.objs.size + 1) = some (newX C hh.objs.size) := by heap_get
  have I2 := I1.laid (a := hh.objs.size + 1) (o := Xo (hh.objs.size + 1) C none) (h' := (hh.push { cls := .type "tuple", data := .seq us.toArray }).push (newX C hh.objs.size)) (t' := t)
    (fun b u q => Heap.get?_push_of_some _ q) (Nat.le_of_eq (Heap.size_push _ _)) (xo_ok ⟨_, _, ⟨_, rfl⟩, e2⟩)
  have r2 : Vals (V.ref (hh.objs.size + 1) :: vs) (Value.ref (hh.objs.size + 1) :: us) := .cons rfl r
  have hl : (Value.ref (hh.objs.size + 1) :: us).length = ps.length := by
    have e := r2.length
    rw [F.len _ _ _ _ hq] at e
    exact e.symm
  refine call_init I.kIn M.o M.init M.fn (by rw [← r.length]; exact hz) fun A' eA => ?_
  subst eA
  have bd := hb _ (Value.ref (hh.objs.size + 1) :: us) I2.kIn (by rw [List.append_nil]; exact hl)
  rw [List.append_nil] at bd
  refine codeAny_mono (F.run _ X.stack _ _ ⟨Value.ref (hh.objs.size + 1) :: us, []⟩ (Value.ref (hh.objs.size + 1) :: us) _ _ E (hr.make C us []) (I2.env0.make C us []) bd r2 hq) fun r s' hq' => ?_
  cases r with
  | error e => exact hx pins σ _ _ e s' I2 hq'
  | ok fl =>
    cases fl with
    | ret u =>
      obtain ⟨v, H', I3, rv, ev, q3⟩ := I2.after hq'
      subst ev
      exact ⟨rv, ⟨V.ref (hh.objs.size + 1), H', I3, rfl, q3⟩⟩
    | next => exact False.elim hq'
    | brk => exact False.elim hq'
    | cont => exact False.elim hq'
theorem pe_mkx (M : FnI X.prog X.w X.K X.mg X.base k C ps sp) (hk : k + 1 ≤ k') (hr : Room k' X.A) (hg : Gl X x) (hm : X.mg x = some (.ref C)) (hx : Passes (CXE X.prog X.w) X E)
    (ha : PA X (e :: es) t) (hdb : (x == ("__debug__" : Str)) = false := by decide) (he : starEach (e :: es) X.env = (false, eval e X.env) :: starEach es X.env := by rfl) (hpl : (backTo pos (starEach es X.env)).any (·.1) = false := by rfl) :
    PE X (.Call (.Name x p) (e :: es) [] pos) (tMkx C sp E t) := by
  intro pins s σ H Q I h
  obtain ⟨f, fd, F, MX, bd⟩ := M.ex
  refine wpAny_Call_Name_kw (ld_glob I hg hm ?_ hdb)
  refine PySem.W.callWith_K (h₀ := X.base) I.ok.mod.kin MX.kp (thn (ha pos pins s σ H _ I h) fun us s1 ⟨vs, H1, I1, r, hz, q⟩ => ⟨I1.kIn, ?_⟩) he hpl
  exact run_mkx MX F (hr.mono hk) bd hx I1 r hz q
theorem upd_self {H : Hp} {a : Addr} {o : HO} (h : H a = some o) : upd H a o = H := by
  funext b
  unfold upd
  split
  · rename_i z; rw [z, h]
  · rfl
theorem pe_base {pl : Sem Bool} (hg : Gl X x) (hm : X.mg x = some (.ref CK)) (rd : PySem.W.readsIn X.K CK (.type "type") = true) (fc : PySem.W.findCls X.K (.ref CK) (.type "type") "__init__" = some (.val (.builtin "ValueError.__init__")))
    (gs : PySem.W.specialIn X.K (.ref CK) "__getattribute__" = some (some (.builtin "type.__getattribute__"))) (ha : PA X (e :: es) t) (hdb : (x == ("__debug__" : Str)) = false := by decide)
    (hst : starEach (e :: es) X.env = (false, eval e X.env) :: starEach es X.env := by rfl) (hpl : (backTo pos (starEach es X.env)).any (·.1) = false := by rfl)
    (ht : eval (.Call (.Attribute (.Name x p) "__init__" apos) (e :: es) [] pos) X.env = (do
      let ov ← eval (.Name x p) X.env
      standAt apos.atName
      let (f, first) ← holding [ov] (getMethod ov "__init__" pl)
      callWith pos f first (backTo pos (starEach (e :: es) X.env)) (backToKw pos (keywordEach [] X.env))) := by rfl) :
    PE X (.Call (.Attribute (.Name x p) "__init__" apos) (e :: es) [] pos) (tBase X.K t) := by
  intro pins s σ H Q I h
  refine PySem.W.methodCall_KW (pl := pl) (ld_glob I hg hm ?_ hdb) ht
  refine PySem.W.method_cls I.kIn gs (PySem.W.cls_value I.kIn rd fc rfl ?_)
  refine PyProof.Rows.callWith_builtin1 (thn (ha pos pins _ σ H _ (I.tok _) h) fun us s1 ⟨vs, H1, I1, r, y, C, od, more, ev, hx, ho, hz, q⟩ => ?_) hst hpl
  subst ev
  cases r with
  | @cons _ u0 _ us' r0 r =>
    cases (show u0 = Value.ref y from r0)
    obtain ⟨vs', sl, h0, he⟩ := (show ObjOk X.prog X.w H1 s1.heap y (Xo y C od) from I1.hok y _ hx).1
    obtain ⟨hh, g, d, tk, os⟩ := s1
    obtain ⟨a0, rfl⟩ := h0
    refine base_init I1.kIn ho he rfl rfl (by simp) (by rw [← r.length]; exact hz) fun h' keep ⟨v0, e2⟩ => ⟨.non, H1, ?_, rfl, q⟩
    have J := I1.write (x := y) (e := y) (o := Xo y C od) (h' := h') (t' := tk) (by rw [hx]; exact True.intro) (.inl rfl) keep ⟨_, e2⟩ (xo_ok ⟨_, sl, ⟨v0, rfl⟩, e2⟩)
    rw [upd_self hx] at J
    exact J
theorem Inv.dressed {a C d : Addr} {fs : List (Str × V)} {h' : Heap} {tk' : Nat} (I : Inv X pins σ H s) (hx : H a = some (Xo a C none)) (hd : s.heap.objs.size ≤ d)
    (h1 : XoIs a C (some d) h') (h2 : XdIs d fs h') (keep : ∀ b o, b ≠ a → s.heap.get? b = some o → h'.get? b = some o) : Inv X pins σ (upd (upd H d (Xd d fs)) a (Xo a C (some d))) { s with heap := h', toks := tk' } := by
  have hdn : H d = none := I.hok.fresh hd
  have nda : d ≠ a := fun z => by rw [z, hx] at hdn; cases hdn
  have nl : ∀ b o, s.heap.get? b = some o → b ≠ d := fun b o q => Nat.ne_of_lt (Nat.lt_of_lt_of_le (Heap.lt_size q) hd)
  have na : ∀ b, H b = none → b ≠ a := fun b q z => by rw [z, hx] at q; cases q
  have oth : ∀ b u, H b = some u → (∀ φ, u ≠ .ext φ) → upd (upd H d (Xd d fs)) a (Xo a C (some d)) b = H b := fun b u q nu => by
    rw [upd_ne (fun z => by rw [z, hx] at q; exact nu _ (Option.some.inj q).symm), upd_ne (fun z => by rw [z, hdn] at q; cases q)]
  refine I.un ⟨fun b o q n _ _ => keep b o (na b n) q, fun b o q n _ _ => ⟨o.slots, keep b o (na b n) q⟩, fun b o q n _ => by rw [upd_ne (na b n), upd_ne (nl b o q)]; exact n, fun b o q _ => ?_,
    fun b xs q => by rw [oth b _ q fun φ z => nomatch z]; exact q, fun b o u q => by rw [oth b _ q fun φ z => nomatch z]; exact q, fun b ps q => ⟨#[], by rw [oth b _ q fun φ z => nomatch z]; simpa using q⟩⟩ fun b u q => ?_
  · by_cases z : b = a
    · obtain ⟨vs, sl, _, e⟩ := h1
      exact ⟨_, by rw [z]; exact e⟩
    · exact ⟨o, keep b o z q⟩
  · by_cases z : b = a
    · subst z
      rw [upd_same] at q
      cases q
      exact xo_ok h1
    · rw [upd_ne z] at q
      by_cases y : b = d
      · subst y
        rw [upd_same] at q
        cases q
        exact xd_ok h2
      · rw [upd_ne y] at q
        refine (I.hok b u q).stay (fun c v hc r => keep c v ?_ r) (fun c r => by rw [oth c _ r fun φ z => nomatch z]; exact r) fun c xs r => by rw [oth c _ r fun φ z => nomatch z]; exact r
        rcases hc with rfl | hc
        · exact z
        · rintro rfl
          rw [hx] at hc
          cases hc
theorem xd_put {h' : Heap} {d : Addr} {fs : List (Str × V)} {mA : Str → Option Value} {f : Str} {y : V} {u : Value} (hn : h'.Ns1 d fun g => if g = f then some u else mA g) (r : ∀ g, RelO (fs.lookup g) (mA g)) (wi : PySem.Within mA (fs.map (·.1))) (ry : RelV y u) :
    XdIs d (putF f y fs) h' := by
  refine ⟨_, hn, fun g => ?_, fun g hg => ?_⟩
  · rw [lookup_putF]
    by_cases q : g = f
    · rw [if_pos q, if_pos q]; exact ry
    · rw [if_neg q, if_neg q]; exact r g
  · by_cases q : g = f
    · rw [q]; exact (keys_putF f y fs).1
    · refine (keys_putF f y fs).2 g (wi g fun z => hg ?_)
      show (if g = f then some u else mA g) = none
      rw [if_neg q]; exact z
variable {o value : Expr} {f : Str} {pos' : Pos} {ta tv : TE}
theorem ps_xf (ha : PE X o ta) (hv : PE X value tv) (hs : swapsWith value (some (.Attribute o f pos')) pos.line X.env = pure false := by rfl) : PS X (.Assign [.Attribute o f pos'] value pos) (sXf X.K ta tv f) := by
  intro pins s σ H D I h
  refine plainObj_wpAny_Assign_Attribute (thn (hv pins s σ H _ I h) fun u s1 ⟨y, H1, I1, ry, q⟩ => thn (ha pins s1 σ H1 _ I1 q) fun ov s2 ⟨x, H2, I2, rx, a, C, ex, xc, n, q2⟩ => ?_) hs
  subst ex
  obtain rfl : ov = Value.ref a := rx
  rcases q2 with ⟨hx, q2⟩ | ⟨d, fs, hx, hd, hl, q2⟩
  · obtain ⟨vs, sl, h0, e0⟩ := (show ObjOk X.prog X.w H2 s2.heap a (Xo a C none) from I2.hok a _ hx).1
    refine set_first I2.kIn e0 xc.ov xc.ob xc.sa n fun h' tk' e1 e2 keep => ⟨σ, _, ?_, q2 s2.heap.objs.size (I2.hok.fresh (Nat.le_refl _))⟩
    exact Kw.Inv.dressed I2 hx (Nat.le_refl _) ⟨vs, sl, h0, e1⟩ (xd_put (fs := []) e2 (fun _ => True.intro) (fun g hg => absurd rfl hg) ry) keep
  · obtain ⟨vs, sl, h0, e0⟩ := (show ObjOk X.prog X.w H2 s2.heap a (Xo a C (some d)) from I2.hok a _ hx).1
    obtain ⟨mA, hn, r, wi⟩ := (show ObjOk X.prog X.w H2 s2.heap d (Xd d fs) from I2.hok d _ hd).1
    refine set_more I2.kIn e0 hn wi (by rw [List.length_map, sizeLine_eq]; omega) xc.ov xc.ob xc.sa n fun h' tk' e1 sb => ⟨σ, _, ?_, q2⟩
    have e1' := e1
    obtain ⟨o', _, _, e2, _⟩ := e1'
    exact I2.write (x := d) (e := d) (h' := h') (t' := tk') (by rw [hd]; exact True.intro) (.inl rfl) (fun b v hb z => (sb.2 b hb).trans z) ⟨o', e2⟩ (xd_ok (xd_put e1 r wi ry))
end
end Kw
set_option Elab.async false
set_option linter.all false
set_option maxRecDepth 100000
set_option maxHeartbeats 4000000
namespace Kw
open PySem PySem.Spec PyProof.Rows L2
noncomputable def xq (K : PySem.W.Frag) (C : Addr) : Bool := PySem.W.findIn K (.ref C) "__getattribute__" == some (some (.builtin "BaseException.__getattribute__")) && PySem.W.findIn K (.ref C) "__getattr__" == some none &&
  PySem.W.findIn K (.ref C) "__class__" == some (some (.builtin "object.__class__")) && PySem.W.specialIn K (.builtin "object.__class__") "__get__" == some (some (.builtin "getset_descriptor.__get__")) &&
  PySem.W.takesIn K (.builtin "object.__class__") == some true && PySem.W.mroIn K C (.type "object") == some true && PySem.W.mroIn K C (.type "BaseException") == some true
theorem xq_ok {K : PySem.W.Frag} {C : Addr} (h : xq K C = true) : ExcQ K C := by
  simp only [xq, Bool.and_eq_true, beq_iff_eq] at h
  obtain ⟨⟨⟨⟨⟨⟨a, b⟩, c⟩, d⟩, e⟩, f⟩, g⟩ := h
  exact ⟨a, b, c, d, e, f, g⟩
noncomputable def xcb (K : PySem.W.Frag) (C : Addr) : Bool := excOver K C && PySem.W.mroIn K C (.type "object") == some true && PySem.W.findIn K (.ref C) "__setattr__" == some (some (.builtin "object.__setattr__")) && PySem.W.hasDictIn K C
theorem xcb_ok {K : PySem.W.Frag} {C : Addr} (h : xcb K C = true) : XCls K C := by
  simp only [xcb, Bool.and_eq_true, beq_iff_eq] at h
  obtain ⟨⟨⟨a, b⟩, c⟩, d⟩ := h
  exact ⟨a, b, c, d⟩
noncomputable def chk1 (K : PySem.W.Frag) (CK : Addr) (C : Nat → Addr) (n m i : Nat) : Bool := xq K (C i) && PySem.W.keepIn K (.ref (C i)) && PySem.W.kitOne K (.ref (C i)) (.ref CK) == some true && PySem.W.kitOne K (.ref (C i)) (.type "ValueError") == some true &&
  ((List.range n).all fun j => PySem.W.kitOne K (.ref (C i)) (.ref (C j)) == some (decide (i = j))) && (if i < m then PySem.W.excIn K (C i) bmV "ValueError.__new__" else excO K (C i) && xcb K (C i))
noncomputable def chkN (K : PySem.W.Frag) (CK : Addr) (C : Nat → Addr) (n m : Nat) : Bool := (List.range n).all (chk1 K CK C n m)
structure Refs (K : PySem.W.Frag) (CK : Addr) (C : Nat → Addr) (n m : Nat) : Prop where
  q : ∀ i, i < n → ExcQ K (C i)
  kp : ∀ i, i < n → PySem.W.keepIn K (.ref (C i)) = true
  k : ∀ i, i < n → PySem.W.kitOne K (.ref (C i)) (.ref CK) = some true
  v : ∀ i, i < n → PySem.W.kitOne K (.ref (C i)) (.type "ValueError") = some true
  mm : ∀ i j, i < n → j < n → PySem.W.kitOne K (.ref (C i)) (.ref (C j)) = some (decide (i = j))
  x : ∀ i, i < m → i < n → ExcC K (C i)
  o : ∀ i, m ≤ i → i < n → excO K (C i) = true
  c : ∀ i, m ≤ i → i < n → XCls K (C i)
theorem refs_ok {K : PySem.W.Frag} {CK : Addr} {C : Nat → Addr} {n m : Nat} (h : chkN K CK C n m = true) : Refs K CK C n m := by
  have g : ∀ i, i < n → chk1 K CK C n m i = true := fun i hi => List.all_eq_true.mp h i (List.mem_range.mpr hi)
  have g' : ∀ i, i < n → (((((xq K (C i) = true ∧ PySem.W.keepIn K (.ref (C i)) = true) ∧ PySem.W.kitOne K (.ref (C i)) (.ref CK) = some true) ∧ PySem.W.kitOne K (.ref (C i)) (.type "ValueError") = some true) ∧
      ((List.range n).all fun j => PySem.W.kitOne K (.ref (C i)) (.ref (C j)) == some (decide (i = j))) = true) ∧ (if i < m then PySem.W.excIn K (C i) bmV "ValueError.__new__" else excO K (C i) && xcb K (C i)) = true) := fun i hi => by
    have z := g i hi
    simp only [chk1, Bool.and_eq_true, beq_iff_eq] at z
    exact z
  refine ⟨fun i hi => xq_ok (g' i hi).1.1.1.1.1, fun i hi => (g' i hi).1.1.1.1.2, fun i hi => (g' i hi).1.1.1.2, fun i hi => (g' i hi).1.1.2, fun i j hi hj => ?_, fun i hm hi => ?_, fun i hm hi => ?_, fun i hm hi => ?_⟩
  · exact beq_iff_eq.mp (List.all_eq_true.mp (g' i hi).1.2 j (List.mem_range.mpr hj))
  · have z := (g' i hi).2
    rw [if_pos hm] at z
    exact z
  · have z := (g' i hi).2
    rw [if_neg (by omega), Bool.and_eq_true] at z
    exact z.1
  · have z := (g' i hi).2
    rw [if_neg (by omega), Bool.and_eq_true] at z
    exact xcb_ok z.2
noncomputable def clsAt (l : List Addr) (n : Nat) : Addr := l.getD n 0
theorem dfi_mk {K : PySem.W.Frag} {C f : Addr} {qual : Str} {st : Stmt} {ps : List Str} {od an : Option Addr} {sl : Array (Option Value)} {oc kV dc pm cd ct : Value} (i : PySem.W.findIn K (.ref C) "__init__" = some (some (.ref f)))
    (t : PySem.W.typeIn K (.ref f) = some (.type "function")) (l : K.lookup f = some ⟨oc, od, .func (PySem.W.fnOf "__init__" qual (defArgs st) (defBody st) (defScope st) .none kV dc pm an cd ct), sl⟩) (q : PySem.W.codeIn K cd qual = true) (o : excO K C = true) (kp : PySem.W.keepIn K (.ref C) = true)
    (b : ∀ us : List Value, us.length = ps.length → bindArgs (PySem.W.fnOf "__init__" qual (defArgs st) (defBody st) (defScope st) .none kV dc pm an cd ct) ⟨us, []⟩ = pure (ps.zip us)) : DfI K C qual st ps :=
  ⟨⟨f, oc, od, kV, dc, pm, an, cd, ct, sl, l, q, ⟨o, i, t, kp⟩, .all b⟩⟩
noncomputable def mthOf (s : Stmt) : Stmt := match s with
  | .ClassDef _ _ _ b _ _ _ _ _ _ _ => b.headD (.Pass ⟨0, 0, 0, 0⟩)
  | _ => .Pass ⟨0, 0, 0, 0⟩
theorem same_of_but {H H' : Hp} {x : Addr} {o : HO} (hx : H x = none) (b : But x (upd H x o) H') : Same H H' := fun a u q => by
  have nx : a ≠ x := ne_of_none q hx
  exact b a u nx (by rw [upd_ne nx]; exact q)
theorem dressO {H : Hp} {x d : Addr} {o0 : HO} (o1 o2 : HO) (hx : H x = some o0) (hd : H d = none) : ∃ H', upd (upd H d o1) x o2 = H' ∧ But x H H' ∧ H' x = some o2 ∧ H' d = some o1 := by
  have nd : d ≠ x := fun z => by rw [z, hx] at hd; cases hd
  exact ⟨_, rfl, fun a o na q => by rw [upd_ne na, upd_ne (ne_of_none q hd)]; exact q, upd_same, by rw [upd_ne nd, upd_same]⟩
theorem putO {H0 H : Hp} {x d : Addr} {o0 o2 : HO} (o3 : HO) (h0 : H0 d = none) (h1 : H0 x = some o0) (b : But x H0 H) (hx : H x = some o2) : ∃ H', upd H d o3 = H' ∧ But x H0 H' ∧ H' x = some o2 ∧ H' d = some o3 := by
  have nd : x ≠ d := fun z => by rw [z, h0] at h1; cases h1
  exact ⟨_, rfl, fun a o na q => by rw [upd_ne (ne_of_none q h0)]; exact b a o na q, by rw [upd_ne nd]; exact hx, upd_same⟩
end Kw
set_option Elab.async false
set_option linter.all false
set_option maxRecDepth 100000
set_option maxHeartbeats 4000000
namespace Kw
open PySem PySem.Spec PyProof.Rows L2
noncomputable def XcIs (x C : Addr) (od : Option Addr) (h : Heap) : Prop := ∃ (vs : Array Value) (sl : Array (Option Value)), h.get? x = some ⟨.ref C, od, .fields vs, sl⟩
noncomputable abbrev Xc (x C : Addr) (od : Option Addr) : HO := .ext (XcIs x C od)
theorem xc_ok {P : Program} {w : World} {H : Hp} {h : Heap} {x C : Addr} {od : Option Addr} (e : XcIs x C od h) : ObjOk P w H h x (Xc x C od) := by
  obtain ⟨vs, sl, b⟩ := id e
  exact ⟨e, ⟨_, b⟩, fun _ _ ⟨vs, sl, b⟩ k => ⟨vs, sl, k _ b⟩⟩
theorem xc_exc {h : Heap} {x C : Addr} {od : Option Addr} (e : XcIs x C od h) : ExcIs x (.ref C) h := by
  obtain ⟨vs, sl, b⟩ := e
  exact ⟨_, vs, b, rfl, rfl⟩
noncomputable def ClsX (K : PySem.W.Frag) (C : Addr) : Prop := ∀ h : Heap, K.In h → ∃ bm N nm qn bs hdct sn sub ab col dd k0 k1 k2 k3 k5, h.get? C = some (excClassObj nm qn C N bs bm hdct sn sub ab col dd k0 k1 k2 k3 k5 "ValueError.__new__") ∧ OwnTail h bmV bm
theorem clsx_o {K : PySem.W.Frag} {C : Addr} (q : excO K C = true) : ClsX K C := fun _ X => excO_obj X q
theorem clsx_c {K : PySem.W.Frag} {C : Addr} (q : ExcC K C) : ClsX K C := fun _ X => by
  obtain ⟨bm, N, nm, qn, bs, hdct, sn, sub, ab, col, dd, k0, k1, k2, k3, k5, _, hO, _, _, TL⟩ := exc_obj X q
  exact ⟨bm, N, nm, qn, bs, hdct, sn, sub, ab, col, dd, k0, k1, k2, k3, k5, hO, TL⟩
theorem raise_made {M : Model} {A : Around} {E : Value → Shared → Prop} {s : Shared} {env : Env} {x : Sem Value} {Q : Flow → Shared → Prop} {K : PySem.W.Frag} (hh : A.handled = none)
    (h : wpAny M A x (fun v s1 => ∃ e C od a sl, v = .ref e ∧ K.In s1.heap ∧ ClsX K C ∧ s1.heap.get? e = some ⟨.ref C, od, .fields #[a, .none, .none, .none, .bool false, .none], sl⟩ ∧ E (.ref e) s1) E s) :
    wpAny M A (raiseStmt env (some x) none) Q E s := by
  unfold raiseStmt
  refine wpAny_bind (wpAny_mono h (fun v s1 h1 => ?_) fun _ _ z => z)
  obtain ⟨e, C, od, a, sl, rfl, kx, cx, he, hE⟩ := h1
  obtain ⟨hp, g, d, tk, os⟩ := s1
  obtain ⟨bm, N, nm, qn, bs, hdct, sn, sub, ab, col, dd, k0, k1, k2, k3, k5, hO, TL⟩ := cx hp kx
  have hB : (Value.ref C :: bm).contains (.type "BaseException") = true := by rw [List.contains_cons, TL.hasType PySem.F.excBase_ValueError.hasBase, Bool.or_true]
  repeat (first
    | with_reducible refine wpAny_loadPart_at he ?_
    | with_reducible refine wpAny_loadPart_at hO ?_
    | (with_reducible refine wpAny_isSubtype_exc hO ?_; rw [hB])
    | wp_step)
  exact wpAny_raiseNew_none hh hE
section
variable {X : Cx} {E : XK} {e : Expr} {te : TE} {pos : Pos}
noncomputable def tRaiseX (K : PySem.W.Frag) (H0 : Hp) (E : XK) (te : TE) : TS := fun _ σ H => te σ H fun v H1 => ∃ x C od, v = .ref x ∧ H1 x = some (Xo x C od) ∧ H0 x = none ∧ ClsX K C ∧ E (.ref C) od (del H1 x)
theorem ps_raiseX (pl : Plain X) (L : Leaves X E) (hc : X.calm = true) (he : PE X e te) : PS X (.Raise (some e) none pos) (tRaiseX X.K X.H₀ E te) := by
  intro pins s σ H D I h
  rw [arm_exec_Raise]
  refine wpAny_bind (wpAny_standAt ?_)
  refine raise_made (K := X.K) (I.ok.hd hc) (wpAny_bind (wpAny_mono (he pins s σ H _ I h) (fun v s1 h1 => wpAny_bind (wpAny_standAt (wpAny_pure ?_))) fun _ _ z => z))
  obtain ⟨y, H1, I1, r, x, C, od, rfl, hx, hx0, cx, q⟩ := h1
  cases (show v = Value.ref x from r)
  obtain ⟨vs, sl, ⟨a0, rfl⟩, hox⟩ := (show ObjOk X.prog X.w H1 s1.heap x (Xo x C od) from I1.hok x _ hx).1
  refine ⟨x, C, od, a0, sl, rfl, I1.kIn, cx, hox, ?_⟩
  have n0 : X.s₀.heap.get? x = none := by
    cases z : X.s₀.heap.get? x with
    | none => rfl
    | some o =>
      have y := I1.base.free x o z hx0 (by rw [pl.ex]; simp)
      rw [hx] at y
      cases y
  have I2 := Kw.Inv.drop I1 hx
  refine L _ _ fun Q R hQ => ?_
  refine leave0 (bs := PySem.W.hideAll s1.heap ([x] ++ frs X.stack)) (up := X.outer) (by rw [I2.ok.frames, pl.stk]) pl.fr (fun b o z => PySem.W.of_hideAll _ z) (frames_hid pl I2 _) (PySem.W.hideAll_none _ (by simp)) hox rfl rfl rfl fun h' nt => hQ _ ?_
  have up := nt.up
  have F : Flown X (del H1 x) s1.heap h' [x] := by
    refine ⟨fun b o ho hs hn => nt.st b o (PySem.W.hideAll_get _ ho fun z => (List.mem_append.mp z).elim hn hs), fun b o ho hb => up b o ho (frame_nofields I2 hb ho), fun b hb => ?_⟩
    cases List.mem_singleton.mp hb
    exact ⟨n0, del_same⟩
  refine F.cxe pl I2 rfl rfl I2.bare ⟨n0, del_same, ?_⟩ q
  obtain ⟨oe', vs', T', oT', ts', he', hc', hdc', hd', h0', h1', hnT', hTe', hT', hdT', h3'⟩ := nt.tr
  refine ⟨oe', vs', _, T', oT', ts', he', hc', hdc', hd', h0', h1', ?_, ?_, hTe', hT', hdT', h3'⟩
  all_goals
    cases z : s1.heap.get? T' with
    | none => first | exact old_of pl I2 z | exact free_of_none I2.hok z
    | some o1 =>
      have hmm : T' ∈ [x] ++ frs X.stack := Classical.byContradiction fun hmm => by
        rw [PySem.W.hideAll_get _ z hmm] at hnT'; cases hnT'
      rcases List.mem_append.mp hmm with hm | hm
      · exact absurd (List.mem_singleton.mp hm) hTe'
      · obtain ⟨sl, ee⟩ := up T' o1 z (frame_nofields I2 hm z)
        rw [ee] at hT'
        cases hT'
        exact absurd hdT' (frame_nofields I2 hm z _)
theorem none_of_same {H H' : Hp} {a : Addr} (s : Same H H') (h : H' a = none) : H a = none := by
  cases z : H a with
  | none => rfl
  | some o => rw [s a o z] at h; cases h
noncomputable def rIsC (K : PySem.W.Frag) : List V → Hp → VK → Prop := fun xs H Q => ∃ x C od c b, xs = [.ref x, c] ∧ ((∃ T, c = .ty T) ∨ ∃ C', c = .ref C') ∧ H x = some (Xc x C od) ∧ ExcQ K C ∧ PySem.W.kitOne K (.ref C) (valC c) = some b ∧ Q (.bl b) H
theorem call_isinstC {K : PySem.W.Frag} (hK : X.K = K) : CallR X (.builtin "isinstance") (rIsC K) := by
  subst hK
  intro pins s σ H xs us Q I r h
  obtain ⟨x, C, od, c, b, rfl, hc, hx, eq, e, q⟩ := h
  obtain ⟨u, w', rfl, rx, rc⟩ := vals2 r
  cases (show u = Value.ref x from rx)
  have ec : w' = valC c := by
    rcases hc with ⟨T, rfl⟩ | ⟨C', rfl⟩
    · exact rc
    · exact rc
  subst ec
  have ok := xc_exc (show ObjOk X.prog X.w H s.heap x (Xc x C od) from I.hok x _ hx).1
  exact PySem.W.kia_one (kitx_exc eq) I.kIn ok e (fun z => nomatch z) fun tk => ⟨.bl b, H, I.tok _, rfl, q⟩
variable {o : Expr} {f : Str} {ta : TE}
noncomputable def tXcf (K : PySem.W.Frag) (ta : TE) (f : Str) : TE := fun σ H Q => ta σ H fun x H1 => ∃ a C d fs v, x = .ref a ∧ H1 a = some (Xc a C (some d)) ∧ H1 d = some (Xd d fs) ∧ ExcQ K C ∧ XCls K C ∧ NoAttr K C f ∧ fs.lookup f = some v ∧ Q v H1
theorem pe_xcf (he : PE X o ta) (hb : attributeBase o f X.env (eval o X.env) = eval o X.env := by rfl) : PE X (.Attribute o f pos) (tXcf X.K ta f) := by
  intro pins s σ H Q I h
  refine attr_of hb (thn (he pins s σ H _ I h) fun u s1 zz => ?_)
  obtain ⟨x, H1, I1, rx, a, C, d, fs, v, ex, hx, hd, eq, xc, n, l, q⟩ := zz
  subst ex
  obtain rfl : u = Value.ref a := rx
  obtain ⟨vs, sl, e0⟩ := (show ObjOk X.prog X.w H1 s1.heap a (Xc a C (some d)) from I1.hok a _ hx).1
  obtain ⟨mA, hn, r, wi⟩ := (show ObjOk X.prog X.w H1 s1.heap d (Xd d fs) from I1.hok d _ hd).1
  obtain ⟨od, e1, e2⟩ := look_ns1 (name := f) hn
  obtain ⟨u, hu, ru⟩ := RelO.some_of (v := v) (o := mA f) (by rw [← l]; exact r f)
  have J : PySem.W.InstAt s1.heap a ⟨.ref C, some d, .fields vs, sl⟩ C (some od) := ⟨e0, rfl, rfl, e1⟩
  exact exc_fld I1.kIn J eq (PySem.W.findObj_own xc.hd n rfl (by rw [e2, hu])) (handed_of ru) ⟨v, H1, I1.tok _, ru, q⟩
theorem pe_xcfK {K : PySem.W.Frag} (hK : X.K = K) (he : PE X o ta) (hb : attributeBase o f X.env (eval o X.env) = eval o X.env := by rfl) : PE X (.Attribute o f pos) (tXcf K ta f) := by
  subst hK
  exact pe_xcf he hb
end
end Kw
set_option Elab.async false
set_option linter.all false
set_option maxRecDepth 100000
set_option maxHeartbeats 4000000
namespace Kw
open PySem PySem.Spec PyProof.Rows L2
noncomputable abbrev Cx.cat (X : Cx) (pn0 : List (Addr × Obj)) (E0 : Value → Shared → Prop) : Cx := { X with pn := X.pn ++ pn0, xe := E0 }
section
variable {X : Cx} {pins pins' : List (Addr × Obj)} {σ : L2.St} {H : Hp} {s : Shared} {E0 : Value → Shared → Prop}
theorem Inv.cat (I : Inv X pins σ H s) : Inv (Cx.cat X pins E0) [] σ H s := by
  obtain ⟨ok, r1, r2, r3, r4, r5, r6, r7, r8, r9, r10⟩ := I
  obtain ⟨a1, a2, a3, a4, a5, a6, a7, a8, a9, a10, a11, a12, a13, a14, a15, a16, a17, a18⟩ := ok
  exact ⟨⟨a1, a2, a3, a4, a5, a6, a7, a8, a9, a10, a11, a12, a13, a14, a15, a16, a17, a18⟩, r1, r2, r3, r4, r5, r6, r7, fun p hp => r8 p (by rw [List.append_nil] at hp; exact hp), r9, r10⟩
theorem Inv.uncat (I : Inv (Cx.cat X pins E0) pins' σ H s) : Inv X pins σ H s := by
  obtain ⟨ok, r1, r2, r3, r4, r5, r6, r7, r8, r9, r10⟩ := I
  obtain ⟨a1, a2, a3, a4, a5, a6, a7, a8, a9, a10, a11, a12, a13, a14, a15, a16, a17, a18⟩ := ok
  exact ⟨⟨a1, a2, a3, a4, a5, a6, a7, a8, a9, a10, a11, a12, a13, a14, a15, a16, a17, a18⟩, r1, r2, r3, r4, r5, r6, r7, fun p hp => r8 p (List.mem_append_left _ hp), r9, r10⟩
theorem SP.uncat {D : Ends} {f : Flow} (h : SP (Cx.cat X pins E0) [] D f s) : SP X pins D f s := by
  cases f with
  | next => obtain ⟨σ', H', I, q⟩ := h; exact ⟨σ', H', Kw.Inv.uncat I, q⟩
  | brk => obtain ⟨σ', H', I, q⟩ := h; exact ⟨σ', H', Kw.Inv.uncat I, q⟩
  | cont => obtain ⟨σ', H', I, q⟩ := h; exact ⟨σ', H', Kw.Inv.uncat I, q⟩
  | ret u => obtain ⟨v, σ', H', I, r, q⟩ := h; exact ⟨v, σ', H', Kw.Inv.uncat I, r, q⟩
end
noncomputable abbrev blank (X : Cx) : L2.St := List.replicate X.N.length none
structure AtH (X : Cx) (pins : List (Addr × Obj)) (H : Hp) (s : Shared) (hc : Heap) (x CA : Addr) (od : Option Addr) : Prop where
  inv : Inv X pins (blank X) H s
  fly : FlyAt H hc s.heap x (.ref CA) od
  pn : ∀ p ∈ X.pn ++ pins, ∃ o, hc.get? p.1 = some o
  old : ∀ b o, X.s₀.heap.get? b = some o → ∃ o', hc.get? b = some o'
  thr : ∀ b o, hc.get? b = some o → ∃ o', s.heap.get? b = some o'
section
variable {X : Cx} {pins : List (Addr × Obj)} {H : Hp} {s : Shared} {hc : Heap} {x CA : Addr} {od : Option Addr}
theorem AtH.young (a : AtH X pins H s hc x CA od) {b : Addr} (e : hc.get? b = none) : X.s₀.heap.get? b = none := by
  cases q : X.s₀.heap.get? b with
  | none => rfl
  | some o =>
    obtain ⟨o', z⟩ := a.old b o q
    rw [e] at z
    cases z
theorem AtH.go {G : Prop} (pl : Plain X) (hcell : X.env.cells = []) (a : AtH X pins H s hc x CA od)
    (step : ∀ (bs : Heap) (a0 : Value), bs.StaysIn s.heap → s.heap.FunFrames bs (X.env :: X.outer) → bs.get? x = none → TrD s.heap bs x (.ref CA) od a0 .none → (∀ h', Noted bs (X.env :: X.outer) x (.ref CA) od a0 .none s.heap h' → AtH X pins H { s with heap := h' } hc x CA od) → G) : G := by
  obtain ⟨I, ⟨new, free, oe, vs, a0, T, oT, ts, he, hcl, hdc, hd, h0, h1, hT0, hTf, hTx, hT, hdT, h3⟩, pn, old, thr⟩ := id a
  have n0 := a.young new
  have nT := a.young hT0
  refine step (PySem.W.hideAll s.heap ([x, T] ++ frs X.stack)) a0 (fun b o z => PySem.W.of_hideAll _ z) (frames_hid pl I _) (PySem.W.hideAll_none _ (by simp))
    ⟨oe, vs, T, oT, ts, he, hcl, hdc, hd, h0, h1, PySem.W.hideAll_none _ (by simp), hTx, hT, hdT, h3⟩ fun h' nt => ?_
  have up := nt.up
  have F : Flown X H s.heap h' [x, T] := by
    refine ⟨fun b o ho hs hn => nt.st b o (PySem.W.hideAll_get _ ho fun z => (List.mem_append.mp z).elim hn hs), fun b o ho hb => up b o ho (frame_nofields I hb ho), fun b hb => ?_⟩
    simp only [List.mem_cons, List.not_mem_nil, or_false] at hb
    rcases hb with rfl | rfl
    · exact ⟨n0, free⟩
    · exact ⟨nT, hTf⟩
  have np : ∀ p ∈ X.pn ++ pins, p.1 ∉ [x, T] := fun p hp z => by
    obtain ⟨o, y⟩ := pn p hp
    simp only [List.mem_cons, List.not_mem_nil, or_false] at z
    rcases z with z | z
    · rw [z, new] at y; cases y
    · rw [z, hT0] at y; cases y
  refine ⟨F.inv pl hcell I np rfl rfl I.bare, ⟨new, free, ?_⟩, pn, old, fun b o y => ?_⟩
  · obtain ⟨oe', vs', T', oT', ts', he', hc', hdc', hd', h0', h1', hnT', hTe', hT', hdT', h3'⟩ := nt.tr
    have both : hc.get? T' = none ∧ H T' = none := by
      cases z : s.heap.get? T' with
      | none =>
        refine ⟨?_, free_of_none I.hok z⟩
        cases y : hc.get? T' with
        | none => rfl
        | some o =>
          obtain ⟨o', w'⟩ := thr T' o y
          rw [z] at w'
          cases w'
      | some o1 =>
        have hm : T' ∈ [x, T] ++ frs X.stack := Classical.byContradiction fun hm => by
          rw [PySem.W.hideAll_get _ z hm] at hnT'; cases hnT'
        rcases List.mem_append.mp hm with hm | hm
        · simp only [List.mem_cons, List.not_mem_nil, or_false] at hm
          rcases hm with rfl | rfl
          · exact absurd rfl hTe'
          · exact ⟨hT0, hTf⟩
        · obtain ⟨sl, ee⟩ := up T' o1 z (frame_nofields I hm z)
          rw [ee] at hT'
          cases hT'
          exact absurd hdT' (frame_nofields I hm z _)
    exact ⟨oe', vs', a0, T', oT', ts', he', hc', hdc', hd', h0', h1', both.1, both.2, hTe', hT', hdT', h3'⟩
  · obtain ⟨o', y'⟩ := thr b o y
    by_cases hb : b ∈ frs X.stack
    · obtain ⟨sl, ee⟩ := up b o' y' (frame_nofields I hb y')
      exact ⟨_, ee⟩
    · refine ⟨o', nt.st b o' (PySem.W.hideAll_get _ y' fun z => ?_)⟩
      rcases List.mem_append.mp z with z | z
      · simp only [List.mem_cons, List.not_mem_nil, or_false] at z
        rcases z with rfl | rfl
        · rw [new] at y; cases y
        · rw [hT0] at y; cases y
      · exact hb z
theorem AtH.led {R : Value → Shared → Prop} {Q : Unit → Shared → Prop} {A : Around} (pl : Plain X) (hcell : X.env.cells = []) (a : AtH X pins H s hc x CA od) (q : ∀ h', AtH X pins H { s with heap := h' } hc x CA od → Q () { s with heap := h' }) :
    wpAny (model X.prog X.w) A (setFlight (.ref x) none) Q R s :=
  a.go pl hcell fun bs a0 st fr nx tr k => flight0 st fr tr fun h' n => q h' (k h' n)
theorem AtH.noted {R : Value → Shared → Prop} {Q : Unit → Shared → Prop} (pl : Plain X) (hcell : X.env.cells = []) (a : AtH X pins H s hc x CA od) (q : ∀ h', AtH X pins H { s with heap := h' } hc x CA od → Q () { s with heap := h' }) :
    wpAny (model X.prog X.w) X.A (noteFrame (.ref x) X.env) (fun _ s' => wpAny (model X.prog X.w) X.A (setFlight (.ref x) none) Q R s') R s :=
  a.go pl hcell fun bs a0 st fr nx tr k => look1 (up := X.outer) (by rw [a.inv.ok.frames, pl.stk]) pl.fr st fr nx tr fun h1 n1 => flight0 n1.st n1.fr n1.tr fun h2 n2 => q h2 (k h2 (n1.trans n2))
end
theorem excMatches_g {M : Model} {A : Around} {R : Value → Shared → Prop} {Q : Bool → Shared → Prop} {K : PySem.W.Frag} {s : Shared} {x C CK : Addr} {oe : Obj} {b : Bool} (X : K.In s.heap) (he : s.heap.get? x = some oe) (hc : oe.cls = .ref C) (hK : ClsX K CK)
    (hsub : PySem.W.Looks M s.heap (isSubtype (.ref C) (.ref CK)) b) (hq : Q b s) : wpAny M A (excMatches (.ref x) (.ref CK)) Q R s := by
  obtain ⟨hp, gg, dd, tt, oo⟩ := s
  obtain ⟨bm, N, nm, qn, bs, hdct, sn, sub, ab, col, dct, k0, k1, k2, k3, k5, hO, TL⟩ := hK hp X
  have hB : (Value.ref CK :: bm).contains (.type "BaseException") = true := by
    rw [List.contains_cons, TL.hasType PySem.F.excBase_ValueError.hasBase, Bool.or_true]
  have nt := tc_notTuple
  unfold excMatches
  repeat (first
    | (with_reducible refine hsub.at ?_)
    | (with_reducible refine wpAny_loadPart_at he ?_; rw [hc])
    | with_reducible refine wpAny_loadPart_at hO ?_
    | (with_reducible refine wpAny_isSubtype_exc hO ?_; rw [hB])
    | wp_step)
  cases b
  · repeat (first | wp_step)
    exact hq
  · repeat (first | wp_step)
    exact hq
section
variable {X : Cx} {pins : List (Addr × Obj)} {σ : L2.St} {H : Hp} {s : Shared}
theorem Inv.unname (pl : Plain X) (hcell : X.env.cells = []) (hN : X.N.Nodup) {j : Nat} {n : Str} (hj : X.N[j]? = some n) (I : Inv X pins σ H s) {h' : Heap} {m : Str → Option Value} {v : Option Value} {tk : Nat} (hm : s.heap.Ns X.env.locals m)
    (hl : ∀ (i : Nat) (x : Str) (v : V), X.N[i]? = some x → σ[i]? = some (some v) → Vis X.env.scope x → ∃ u, RelV v u ∧ Look X.env s.heap m x u)
    (hn : h'.Ns X.env.locals (fun y => if y = n then v else m y)) (sb : Heap.SameBut X.env.locals s.heap h') : Inv X pins (σ.set j none) H { s with heap := h', toks := tk } := by
  have kp : ∀ b, b ≠ X.env.locals → h'.get? b = s.heap.get? b := fun b hb => sb.2 b hb
  have old : ∀ b o, X.s₀.heap.get? b = some o → b ≠ X.env.locals := fun b o q z => by
    subst z
    exact absurd (Heap.lt_size q) (Nat.not_lt.mpr I.ok.above)
  refine ⟨I.ok, I.os, I.bare, ⟨fun b o q n a c => ?_, fun b o q n a c => ?_, I.base.free, fun b o q c => ?_, I.base.tups, I.base.frzs, I.base.tbls⟩, ⟨_, hn, fun i x v a b c => ?_⟩, fun x c z => ?_, I.free, I.freeC, fun p hp => ?_, fun a o e => ?_, by rw [List.length_set]; exact I.len⟩
  · exact (kp b (old b o q)).trans (I.base.keep b o q n a c)
  · obtain ⟨sl, z⟩ := I.base.slot b o q n a c
    exact ⟨sl, (kp b (old b o q)).trans z⟩
  · obtain ⟨o', z⟩ := I.base.there b o q c
    exact ⟨o', (kp b (old b o q)).trans z⟩
  · have hij : j ≠ i := fun z => by
      subst z
      rw [List.getElem?_set] at b
      simp at b
    rw [List.getElem?_set_ne hij] at b
    obtain ⟨u, r, lk⟩ := hl i x v a b c
    refine ⟨u, r, ?_⟩
    rcases lk with ⟨k1, k2⟩ | ⟨_, c', lk, _⟩
    · refine .inl ⟨k1, ?_⟩
      show (if x = n then _ else m x) = some u
      rw [if_neg fun z => hij (nodup_ix hN hj (by rw [a, z]))]
      exact k2
    · rw [hcell] at lk
      cases lk
  · rw [hcell] at z
    cases z
  · obtain ⟨a, b, c, d, e⟩ := I.pin p hp
    exact ⟨(kp _ c).trans a, b, c, d, e⟩
  · refine (I.hok a o e).stay (fun b u hb ho => ?_) (fun _ z => z) fun _ _ z => z
    have nb : b ≠ X.env.locals := fun z => by
      subst z
      rcases hb with q | q
      · rw [← q, I.free] at e; cases e
      · rw [I.free] at q; cases q
    exact (kp b nb).trans ho
end
noncomputable def PH (X : Cx) (hs : List ExceptHandler) (t : Ends → Addr → Option Addr → Hp → Prop) : Prop :=
  ∀ (pins : List (Addr × Obj)) (s : Shared) (H : Hp) (hc : Heap) (x CA : Addr) (od : Option Addr) (D : Ends), AtH X pins H s hc x CA od → t D CA od H → wpAny (model X.prog X.w) X.A (handleBy (.ref x) X.env hs) (SP X pins D) X.xe s
noncomputable def tHnil : Ends → Addr → Option Addr → Hp → Prop := fun _ _ _ _ => False
noncomputable def tHas (K : PySem.W.Frag) (N : List Str) (CK : Addr) (j : Nat) (ts : TS) (tr : Ends → Addr → Option Addr → Hp → Prop) : Ends → Addr → Option Addr → Hp → Prop := fun D CA od H =>
  (PySem.W.subIn K (.ref CA) (.ref CK) = some true ∧ ∀ x, H x = none → ts { nx := fun σ H' => D.nx (σ.set j none) H', rt := D.rt } ((List.replicate N.length none).set j (some (.ref x))) (upd H x (Xc x CA od))) ∨
  (PySem.W.subIn K (.ref CA) (.ref CK) = some false ∧ tr D CA od H)
section
variable {X : Cx} {j : Nat} {n xK : Str} {CK : Addr} {ts : TS} {b₀ : Stmt} {suite : List Stmt} {kp hpos pos : Pos} {rest : List ExceptHandler} {tr : Ends → Addr → Option Addr → Hp → Prop}
theorem ph_nil : PH X [] tHnil := fun _ _ _ _ _ _ _ _ _ h => h.elim
theorem ph_as (pl : Plain X) (hcell : X.env.cells = []) (hN : X.N.Nodup) (hj : X.N[j]? = some n) (hn : X.env.scope.names.lookup n = some .local) (hgK : Gl X xK) (hmK : X.mg xK = some (.ref CK)) (hCK : ClsX X.K CK)
    (hs : ∀ x, PSs (sut X x) (b₀ :: suite) ts) (hr : PH X rest tr) (hfn : X.fn n = true := by rfl) (hdK : (xK == ("__debug__" : Str)) = false := by decide)
    (hkc : (X.env.scope.kind == .class || (X.env.scope.kind == .module && X.env.locals != X.env.globals)) = false := by rfl) (hkn : X.env.kindOf n = some .local := by rfl) :
    PH X (.ExceptHandler (some (.Name xK kp)) (some n) (b₀ :: suite) hpos :: rest) (tHas X.K X.N CK j ts tr) := by
  intro pins s H hc x CA od D a h
  obtain ⟨o5, ho5, hc5⟩ : ∃ o, s.heap.get? x = some o ∧ o.cls = .ref CA := by
    obtain ⟨oe, _, _, _, _, _, z1, z2, _⟩ := a.fly.tr
    exact ⟨oe, z1, z2⟩
  refine wpAny_handleBy_cons (codeAny_handlers_test (ld_glob (X := sut X x) (Kw.Inv.sut a.inv x) hgK hmK ?_ hdK)) (by intro z; cases z)
  rcases h with ⟨hsub, hq⟩ | ⟨hsub, hq⟩
  · refine excMatches_g (K := X.K) a.inv.kIn ho5 hc5 hCK (PySem.W.looks_subIn a.inv.kIn hsub) ?_
    refine codeAny_handlers_suite_as ?_
    refine a.led pl hcell fun h6 a6 => ?_
    have I6 := a6.inv
    have n0 := a6.young a6.fly.new
    obtain ⟨o6, v6, _, _, _, _, ho6, hc6, hdc6, hd6, _⟩ := a6.fly.tr
    have free := a6.fly.free
    have hxL : x ≠ X.env.locals := fun z => by
      obtain ⟨m, ⟨o, es', ep, e1, e2, _⟩, _⟩ := I6.loc
      rw [← z] at e1
      have e1' : h6.get? x = some o := e1
      have ho6' : h6.get? x = some o6 := ho6
      rw [ho6'] at e1'
      cases e1'
      rw [hd6] at e2
      cases e2
    have ok : XcIs x CA od h6 := by
      obtain ⟨c6, d6, da6, sl6⟩ := o6
      simp only at hc6 hdc6 hd6
      subst hc6 hdc6 hd6
      exact ⟨v6, sl6, ho6⟩
    have I7 : Inv X pins (blank X) (upd H x (Xc x CA od)) { s with heap := h6 } := Kw.Inv.adopt (fun y c z => by rw [hcell] at z; cases z) I6 n0 free hxL (fun p hp z => by
      obtain ⟨o, y⟩ := a6.pn p hp
      rw [z, a6.fly.new] at y
      cases y) (xc_ok ok)
    refine store_ok (X := sut X x) (Kw.Inv.sut I7 x) hN hj (.inl hn) (v := .ref x) rfl (fun s8 I8 => ?_) (.inl hfn)
    refine wpAny_mono (hs x pins s8 _ _ _ I8 (hq x free)) (fun f9 s9 h9 => ?_) fun _ _ z => z.elim
    cases f9 with
    | ret u =>
      obtain ⟨v, σ9, H9, I9, r9, q9⟩ := h9
      have J9 := Kw.Inv.unsut a.inv.ok I9
      obtain ⟨m, hn9, _⟩ := J9.loc
      exact wpAny_nameGoes hkn hn9 hkc fun h10 m10 hn10 sb => ⟨v, _, H9, Kw.Inv.forget pl hcell J9 hn10 sb, r9, q9⟩
    | next =>
      obtain ⟨σ9, H9, I9, q9⟩ := h9
      have J9 := Kw.Inv.unsut a.inv.ok I9
      obtain ⟨m, hn9, hl9⟩ := J9.loc
      exact wpAny_nameGoes_keeps hkn hn9 hkc fun h10 v10 hn10 sb => ⟨_, H9, Kw.Inv.unname pl hcell hN hj J9 hn9 hl9 hn10 sb, q9⟩
    | brk =>
      obtain ⟨_, _, _, z⟩ := h9
      exact False.elim z
    | cont =>
      obtain ⟨_, _, _, z⟩ := h9
      exact False.elim z
  · refine excMatches_g (K := X.K) a.inv.kIn ho5 hc5 hCK (PySem.W.looks_subIn a.inv.kIn hsub) ?_
    exact hr pins s H hc x CA od D a hq
variable {body : List Stmt} {tb : XK → TS} {th : Ends → Addr → Option Addr → Hp → Prop} {h₀ : ExceptHandler} {hs : List ExceptHandler}
noncomputable def tTryG (tb : XK → TS) (th : Ends → Addr → Option Addr → Hp → Prop) : TS := fun D σ H => tb (fun C od H2 => ∃ CA, C = .ref CA ∧ th D CA od H2) D σ H
theorem ps_tryG (pl : Plain X) (hcell : X.env.cells = []) (hb : ∀ (E : XK) (pn0 : List (Addr × Obj)) (E0 : Value → Shared → Prop), Passes (CXE X.prog X.w) (Cx.cat X pn0 E0) E → PSs (Cx.cat X pn0 E0) body (tb E)) (hh : PH X (h₀ :: hs) th) :
    PS X (.Try body (h₀ :: hs) [] [] pos) (tTryG tb th) := by
  intro pins s σ H D I h
  refine wpAny_Try_except ?_
  have pass : Passes (CXE X.prog X.w) (Cx.cat X pins fun e s' => ∃ hc x CA od H2, e = .ref x ∧ AtH X pins H2 s' hc x CA od ∧ th D CA od H2) (fun C od H2 => ∃ CA, C = .ref CA ∧ th D CA od H2) := by
    intro pins' σ' H' s1 e s2 I1 hc1
    obtain ⟨x, C, od, H2, rfl, os, bare, un, hok, fly, CA, rfl, hth⟩ := hc1
    have I2 := I1.call' (ch := []) os un hok bare (fun b hb => absurd hb (by simp))
    have I3 := Kw.Inv.uncat I2
    refine ⟨s1.heap, x, CA, od, H2, rfl, ⟨I3.weak (by rw [List.length_replicate]; exact I3.len.symm) fun i v z => ?_, fly, fun p hp => ⟨_, ((Kw.Inv.uncat I1).pin p hp).1⟩, fun b o z => (Kw.Inv.uncat I1).base.there b o z (by rw [pl.ex]; simp), fun b o z => un.there b o z (by simp)⟩, hth⟩
    rw [List.getElem?_replicate] at z
    split at z <;> cases z
  refine wpAny_mono (hb _ pins _ pass [] s σ H D (Kw.Inv.cat I) h) (fun f s' h' => ?_) fun e s' h' => ?_
  · have h2 := Kw.SP.uncat h'
    cases f with
    | next => exact wpAny_execs_nil h2
    | ret u => exact h2
    | brk => exact h2
    | cont => exact h2
  · obtain ⟨hc, x, CA, od, H2, rfl, a, hth⟩ := h'
    exact a.noted pl hcell fun h2 a2 => hh pins _ H2 hc x CA od D a2 hth
end
end Kw
set_option Elab.async false
set_option linter.all false
set_option maxRecDepth 100000
set_option maxHeartbeats 4000000
namespace Kw
open PySem PySem.Spec PyProof.Rows L2
theorem list_ins {prog : Program} {w : World} {A : Around} {E : Value → Shared → Prop} {s : Shared} {l : Addr} {items : Array Value} {n : Nat} {x : Int} {t : Tok} {y : Value} {Q : Value → Shared → Prop} (e : s.heap.get? l = some { cls := .type "list", dict := none, data := .seq items n, slots := #[] })
    (hf : ¬ (!Builtin.List.listFitsIndex x) = true) (hz : items.size ≤ sizeLine)
    (want : ∀ f : Array Value → Array Value, (∀ xs, f xs = (xs.extract 0 (if x < 0 then (x + (xs.size : Int)).toNat else min x.toNat xs.size)).push y ++ xs.extract (if x < 0 then (x + (xs.size : Int)).toNat else min x.toNat xs.size)) → Q .none { s with heap := s.heap.update l (Obj.mapSeq f), toks := s.toks }) :
    wpAny (model prog w) A (call (.builtin "list.insert") [.ref l, .int x t, y]) Q E s :=
  call_meets PySem.F.slot_list_insert ⟨_, e, rfl⟩ PySem.F.entry_list_insert (PySem.F.args_list_insert_3 _ _ _) (PySem.AutoSeq1.list_insert_list_int_val_1 l _ n x t y hf hz) ⟨e, want _ fun _ => rfl⟩
section
variable {X : Cx}
noncomputable def rInsert : V → List V → Hp → VK → Prop := fun x vs H Q => ∃ l xs y, ∃ k : Nat, x = .ref l ∧ vs = [.int (k : Int), y] ∧ H l = some (.lst xs) ∧ k ≤ xs.length ∧ xs.length < sizeLine ∧ Q .non (upd H l (.lst (xs.take k ++ y :: xs.drop k)))
theorem mt_insert : MtM X "list.insert" rInsert := by
  intro pins s σ H x vs v us Q I rx rv h
  obtain ⟨l, xs, y, k, rfl, rfl, hH, hk, hz, q⟩ := h
  cases rx
  obtain ⟨u1, u2, rfl, r1, r2⟩ := vals2 rv
  obtain ⟨t, rfl⟩ := r1
  obtain ⟨z, its, n, r, hl, e⟩ := I.lstM hH
  have hk2 : k ≤ its.length := by omega
  have s2 := sizeLine_eq
  have hf : Builtin.List.listFitsIndex (k : Int) = true := by
    unfold Builtin.List.listFitsIndex
    rw [Bool.and_eq_true, decide_eq_true_iff, decide_eq_true_iff]
    omega
  have nf : ¬ (!Builtin.List.listFitsIndex (k : Int)) = true := by rw [hf]; exact Bool.false_ne_true
  have sz : its.toArray.size ≤ sizeLine := by rw [List.size_toArray]; omega
  refine list_ins e nf sz fun f hfx => ?_
  refine ⟨.non, _, I.lset (its' := its.take k ++ u2 :: its.drop k) hH e ?_ ((r.take k).append (.cons r2 (r.drop k))) ?_, rfl, q⟩
  · have ek : (if (k : Int) < 0 then ((k : Int) + (its.toArray.size : Int)).toNat else min (k : Int).toNat its.toArray.size) = k := by
      rw [if_neg (by omega), List.size_toArray]
      omega
    rw [hfx, ek]
    exact PySem.W.kl_ins_eq its k u2
  · rw [List.length_append, List.length_cons, List.length_take, List.length_drop]
    omega
noncomputable def rEqNil (K : PySem.W.Frag) : V → V → Hp → VK → Prop := fun x y H Q => ∃ a b xs, x = .ref a ∧ y = .ref b ∧ SqL K H a xs ∧ SqL K H b [] ∧ Q (.bl xs.isEmpty) H
theorem op_eqNil {K : PySem.W.Frag} (hK : X.K = K) (hu : X.A.units + 100 < cLine) : OpR X (compareOp .Eq) (rEqNil K) := by
  subst hK
  intro pins s σ H x y v u Q I rx ry h
  obtain ⟨a, b, xs, rfl, rfl, ha, hb, q⟩ := h
  cases xs with
  | nil => exact op_eqD rfl hu pins s σ H _ _ v u Q I rx ry ⟨.list [], .list [], .lst ha .nil, .lst hb .nil, rfl, rfl, by decide, q⟩
  | cons z zs =>
    cases (show v = Value.ref a from rx)
    cases (show u = Value.ref b from ry)
    obtain ⟨its, r, pl, hz⟩ := I.list ha
    obtain ⟨its2, r2, pl2, hz2⟩ := I.list hb
    have l1 := r.length
    have l2 := r2.length
    have w' := SeqAt.RcAt.lists_lengths pl.isList pl2.isList (by simp at l1 l2 ⊢; omega) (show X.A.units < cLine by omega)
    exact w' X.prog X.w X.xe _ ⟨.bl false, H, I, rfl, q⟩
end
section
variable {K : PySem.W.Frag} {idx : List Nat} {tt : TT} {te : TE} {σ : L2.St} {H : Hp} {Q : VK}
end
end Kw
set_option Elab.async false
set_option linter.all false
set_option maxRecDepth 100000
set_option maxHeartbeats 4000000
namespace Kw
open PySem PySem.Spec PyProof.Rows L2
section
variable {K : PySem.W.Frag} {te : TE} {tt : TT} {σ : L2.St} {H : Hp} {Q : VK} {idx : List Nat} {n : Nat}
end
section
variable {K : PySem.W.Frag} {H : Hp} {m n : Nat} {x : V} {b : Bod}
end
end Kw
set_option Elab.async false
set_option linter.all false
set_option maxRecDepth 100000
set_option maxHeartbeats 4000000
namespace Kw
open PySem PySem.Spec PyProof.Rows L2
section
variable {B C : Int} {x y : Rat}
end
end Kw
set_option Elab.async false
set_option linter.all false
set_option maxRecDepth 100000
set_option maxHeartbeats 4000000
namespace Kw
open PySem PySem.Spec PyProof.Rows L2
end Kw
set_option maxRecDepth 100000
set_option linter.all false
namespace Kw
end Kw
namespace Kw
end Kw
set_option Elab.async false
set_option linter.all false
set_option maxRecDepth 100000
set_option maxHeartbeats 4000000
namespace Kw
open PySem PySem.Spec PyProof.Rows L2
section
variable {X : Cx}
noncomputable def rBits : V → List V → Hp → VK → Prop := fun x vs H Q => ∃ i : Int, x = .int i ∧ vs = [] ∧ Q (.int ((Builtin.Int.intBits i : Nat) : Int)) H
theorem mt_bits : MtR X "int.bit_length" rBits := by
  intro pins s σ H x vs v us Q I rx rv h
  obtain ⟨i, rfl, rfl, q⟩ := h
  obtain ⟨t, rfl⟩ := rx
  cases rv
  exact call_gives PySem.F.slot_int_bit_length (typeIs_int s i t) PySem.F.entry_int_bit_length (PySem.F.args_int_bit_length_1 _) (PySem.AutoIntG2.int_bit_length_int_0 i t) ⟨.int ((Builtin.Int.intBits i : Nat) : Int), H, I.tok _, ⟨_, rfl⟩, q⟩
end
noncomputable def spGcdB : Sp := fun vs H Q _ => ∃ a b : Int, vs = [.int a, .int b] ∧ Bd 4000 b ∧ Q (.int ((Int.gcd a b : Nat) : Int)) H
theorem short_min {a b : Int} (h : Bd 4000 b) : ¬ (((Builtin.Int.intBits (if (if b < 0 then -b else b) < (if a < 0 then -a else a) then (if b < 0 then -b else b) else (if a < 0 then -a else a)) : Nat) : Int) > 4000) := by
  have l : Bd 4000 (if (if b < 0 then -b else b) < (if a < 0 then -a else a) then (if b < 0 then -b else b) else (if a < 0 then -a else a)) := by
    refine h.of_le ?_
    split <;> split <;> (try split) <;> omega
  have := l.bits
  omega
end Kw
set_option Elab.async false
set_option linter.all false
set_option maxRecDepth 100000
set_option maxHeartbeats 4000000
namespace Kw
open PySem PySem.Spec PyProof.Rows L2
end Kw
namespace Kw
open PySem PySem.Spec PyProof.Rows L2
theorem cap_two {X : Cx} {scope : Scope} {cl : List (Str × Addr)} {y y' : Str} {j j' : Nat} {c c' : Addr} (h1 : X.N[j]? = some y) (h2 : X.env.kindOf y = some .cell) (h3 : X.env.cells.lookup y = some c) (h4 : cl.lookup y = some c)
    (h5 : (relabel scope X.env).names.lookup y = some .cell ∨ (relabel scope X.env).names.lookup y = some .free)
    (g1 : X.N[j']? = some y') (g2 : X.env.kindOf y' = some .cell) (g3 : X.env.cells.lookup y' = some c') (g4 : cl.lookup y' = some c')
    (g5 : (relabel scope X.env).names.lookup y' = some .cell ∨ (relabel scope X.env).names.lookup y' = some .free) : Capt X scope cl [y, y'] [j, j'] :=
  ⟨rfl, fun k z h => by
    match k with
    | 0 => cases h; exact ⟨j, c, rfl, h1, h2, h3, h4, h5⟩
    | 1 => cases h; exact ⟨j', c', rfl, g1, g2, g3, g4, g5⟩
    | k + 2 => simp at h⟩
end Kw
namespace Kw
theorem cl_two {cells : List (PySem.Str × PySem.Addr)} {y1 y2 : PySem.Str} {c1 c2 : PySem.Addr} (h1 : cells.lookup y1 = some c1) (h2 : cells.lookup y2 = some c2) : ∀ y c, List.lookup y [(y1, c1), (y2, c2)] = some c → cells.lookup y = some c := by
  intro y c e
  rw [List.lookup_cons] at e
  split at e
  · rename_i q
    have e1 : y = y1 := by simpa using q
    cases e
    rw [e1]
    exact h1
  · rw [List.lookup_cons] at e
    split at e
    · rename_i q
      have e1 : y = y2 := by simpa using q
      cases e
      rw [e1]
      exact h2
    · cases e
end Kw
set_option Elab.async false
set_option linter.all false
set_option maxRecDepth 100000
set_option maxHeartbeats 4000000
namespace Kw
open PySem PySem.Spec PyProof.Rows L2
end Kw
namespace Kw
open PySem PySem.Spec PyProof.Rows L2
end Kw
namespace Kw
open PySem PySem.Spec PyProof.Rows L2
end Kw
set_option Elab.async false
set_option linter.all false
set_option maxRecDepth 100000
set_option maxHeartbeats 4000000
namespace Kw
open PySem PySem.Spec PyProof.Rows L2
section
variable {S : V → Prop} {lt : V → V → Bool} {x y : V} {row : List V}
end
end Kw
set_option Elab.async false
set_option linter.all false
set_option maxRecDepth 100000
set_option maxHeartbeats 4000000
namespace Kw
open PySem PySem.Spec PyProof.Rows L2
noncomputable def spInitN (C : Addr) (fs : List Str) : Sp := fun vs H Q _ => ∃ x ys, vs = .ref x :: ys ∧ ys.length = fs.length ∧ H x = some (Xo x C none) ∧ ∀ d H', d ≠ x → But x H H' → H' x = some (Xo x C (some d)) → H' d = some (Xd d (fs.zip ys)) → Q .non H'
noncomputable def optV : Option Nat → V
  | none => .non
  | some i => .int (i : Int)
section
variable {K : PySem.W.Frag} {H H' : Hp} {c : Addr} {x : V} {k k' : Int × Int} {xs ys : List V} {key : V → Int × Int}
end
end Kw
set_option Elab.async false
set_option linter.all false
set_option maxRecDepth 100000
set_option maxHeartbeats 4000000
namespace Kw
open PySem PySem.Spec PyProof.Rows L2
section
variable {K : PySem.W.Frag} {H H' : Hp} {b c : Addr} {x : V} {xs ys : List V}
end
end Kw
namespace Kw
open PySem PySem.Spec PyProof.Rows L2
end Kw
namespace Kw
open PySem PySem.Spec PyProof.Rows L2
end Kw
namespace Kw
open PySem PySem.Spec PyProof.Rows L2
end Kw
namespace Kw
open PySem PySem.Spec PyProof.Rows L2
theorem g_go {i : Nat} {x : V} {σ : L2.St} {H : Hp} {Q : L2.St → Hp → Prop} (h : Q (σ.set i (some x)) H) : gName i x σ H Q := h
end Kw
set_option Elab.async false
set_option linter.all false
set_option maxRecDepth 100000
set_option maxHeartbeats 4000000
namespace Kw
open PySem PySem.Spec PyProof.Rows L2
section
variable {idx : List Nat} {tt : TT} {te : TE} {σ : L2.St} {H : Hp} {Q : VK}
end
end Kw
set_option Elab.async false
set_option linter.all false
set_option maxRecDepth 100000
set_option maxHeartbeats 4000000
namespace Kw
open PySem PySem.Spec PyProof.Rows L2
section
variable {X : Cx}
end
end Kw
namespace Kw
open PySem PySem.Spec PyProof.Rows L2
section
variable {X : Cx} {pos : Pos}
end
end Kw
set_option Elab.async false
set_option linter.all false
set_option maxRecDepth 100000
set_option maxHeartbeats 4000000
namespace Kw
open PySem PySem.Spec PyProof.Rows L2
section
variable {X : Cx}
end
section
variable {K : PySem.W.Frag} {idx : List Nat} {te : TE} {σ : L2.St} {H : Hp} {Q : VK}
theorem lc_tup {a : Addr} {xs : List V} (Pv : Nat → List V → Hp → Prop) (h0 : Pv 0 [] H) (hz : xs.length ≤ sizeLine) (hy : ∀ i ys H, Pv i ys H → ys.length = i) (hl : ∀ i ys H, Pv i ys H → SqT K H a xs)
    (hs : ∀ i x ys H (Q' : VK), xs[i]? = some x → Pv i ys H → (∀ v H2, Pv (i + 1) (ys ++ [v]) H2 → Q' v H2) → te (stIn (some x) idx σ) H Q') (hd : ∀ ys H, Pv xs.length ys H → ∀ p, H p = none → Q (.ref p) (upd H p (.lst ys))) :
    LcBody (Itt K a) idx te σ Q H := by
  refine ⟨fun i m ys H => m = xs.length - i ∧ i ≤ xs.length ∧ Pv i ys H, ⟨xs.length, by simp, Nat.zero_le _, h0⟩, ?_⟩
  rintro i m ys H ⟨rfl, hi, p⟩
  have q := hl i ys H p
  refine ⟨by rw [hy i ys H p]; omega, ?_⟩
  by_cases hlt : i < xs.length
  · refine .inr ⟨⟨xs, xs[i], q, by simp [hlt]⟩, fun y H' yl => ?_⟩
    obtain ⟨e, yl⟩ := yl
    subst e
    exact hs i y ys _ _ (yl xs q) p fun v H2 z => ⟨xs.length - (i + 1), by omega, rfl, hlt, z⟩
  · have e : i = xs.length := by omega
    subst e
    exact .inl ⟨⟨xs, q, Nat.le_refl _⟩, hd ys H p⟩
end
end Kw
set_option Elab.async false
set_option linter.all false
set_option maxRecDepth 100000
set_option maxHeartbeats 4000000
namespace Kw
open PySem PySem.Spec PySem.NumText PyProof.Rows L2
noncomputable def dg (m : Nat) : List Nat := (Nat.toDigits 10 m).map Char.toNat
noncomputable def nS (i : Int) : List Nat := if i < 0 then 45 :: dg i.natAbs else dg i.natAbs
noncomputable def nT (i : Int) : Str := Str.ofString (toString i)
theorem dg_all (m : Nat) : AllDigits (dg m) := fun c hc => by
  obtain ⟨ch, hch, e⟩ := List.mem_map.mp hc
  rw [← e]
  exact digit_range (Nat.isDigit_of_mem_toDigits (by decide) (by decide) hch)
theorem dg_pos (m : Nat) : 0 < (dg m).length := by
  unfold dg
  rw [List.length_map]
  exact Nat.length_toDigits_pos
theorem dg_len {m k : Nat} (h : 0 < k) : (dg m).length ≤ k ↔ m < 10 ^ k := by
  unfold dg
  rw [List.length_map]
  exact Nat.length_toDigits_le_iff (by decide) h
theorem dg_ne (m : Nat) : dg m ≠ [] := fun e => by
  have := dg_pos m
  rw [e] at this
  exact absurd this (by decide)
theorem dg_val (m : Nat) : digitsVal (dg m) = m := PySem.W.KIN.val_back m
theorem dg_step {m d : Nat} (h : 0 < m) (hd : d < 10) : dg (m * 10 + d) = dg m ++ [(Nat.digitChar d).toNat] := by
  unfold dg
  rw [Nat.mul_comm, ← Nat.toDigits_append_toDigits (by decide) h hd, List.map_append, Nat.toDigits_of_lt_base hd]
  rfl
theorem dg_one {d : Nat} (hd : d < 10) : dg d = [(Nat.digitChar d).toNat] := by
  unfold dg
  rw [Nat.toDigits_of_lt_base hd]
  rfl
theorem nT_signs (i : Int) : (nT i).cps.toList = nS i := by
  unfold nT nS
  cases i with
  | ofNat m =>
    rw [if_neg (show ¬ (Int.ofNat m) < 0 from Int.not_lt.mpr (Int.natCast_nonneg m))]
    exact PySem.W.KIN.signs_num m
  | negSucc m =>
    rw [if_pos (show Int.negSucc m < 0 from Int.negSucc_lt_zero m), signs_ofString]
    show (("-" ++ Nat.repr (m + 1)) : String).toList.map Char.toNat = _
    rw [String.toList_append, List.map_append, Nat.toList_repr]
    rfl
theorem str_ext {x y : Str} (h : x.cps.toList = y.cps.toList) : x = y := by
  cases x with
  | mk a =>
    cases y with
    | mk b =>
      have : a = b := Array.toList_inj.mp h
      rw [this]
theorem signs_app (x y : Str) : (x ++ y).cps.toList = x.cps.toList ++ y.cps.toList := by
  show (x.cps ++ y.cps).toList = _
  simp
theorem len_signs (x : Str) : x.length = x.cps.toList.length := (Array.length_toList (xs := x.cps)).symm
theorem nS_sign {i : Int} {c : Nat} (h : c ∈ nS i) : c = 45 ∨ (48 ≤ c ∧ c ≤ 57) := by
  unfold nS at h
  split at h
  · rcases List.mem_cons.mp h with e | h
    · exact .inl e
    · exact .inr (dg_all _ c h)
  · exact .inr (dg_all _ c h)
theorem nT_free {i : Int} {c : Nat} (h : c = 10 ∨ c = 32 ∨ c = 47) : c ∉ (nT i).cps.toList := fun z => by
  rw [nT_signs] at z
  rcases nS_sign z with e | e <;> omega
theorem nS_len (i : Int) : (nS i).length ≤ (dg i.natAbs).length + 1 := by
  unfold nS
  split
  · simp
  · omega
theorem nT_len {i : Int} {k : Nat} (h : 0 < k) (hi : i.natAbs < 10 ^ k) : (nT i).length ≤ k + 1 := by
  rw [len_signs, nT_signs]
  have := nS_len i
  have := (dg_len h).mpr hi
  omega
theorem nT_inj {i j : Int} (h : nT i = nT j) : i = j := by
  have e : nS i = nS j := by rw [← nT_signs, ← nT_signs, h]
  unfold nS at e
  by_cases hi : i < 0
  · by_cases hj : j < 0
    · rw [if_pos hi, if_pos hj] at e
      injection e with _ e
      have := congrArg digitsVal e
      rw [dg_val, dg_val] at this
      omega
    · rw [if_pos hi, if_neg hj] at e
      have := dg_all j.natAbs 45 (by rw [← e]; exact List.mem_cons_self)
      omega
  · by_cases hj : j < 0
    · rw [if_neg hi, if_pos hj] at e
      have := dg_all i.natAbs 45 (by rw [e]; exact List.mem_cons_self)
      omega
    · rw [if_neg hi, if_neg hj] at e
      have := congrArg digitsVal e
      rw [dg_val, dg_val] at this
      omega
theorem nT_read {i : Int} (h : (nT i).length ≤ 4300) : PySem.intText? (nT i) = some i := by
  have e := nT_signs i
  unfold nS at e
  by_cases hi : i < 0
  · rw [if_pos hi] at e
    rw [intText_neg e (dg_all _) (dg_ne _) h, dg_val]
    congr 1
    omega
  · rw [if_neg hi] at e
    have := intText_digits (x := nT i) (by rw [e]; exact dg_all _) (by rw [e]; exact dg_ne _) h
    rw [this, e, dg_val]
    congr 1
    omega
noncomputable def padL (k r : Nat) : List Nat := List.replicate (k - (dg r).length) 48 ++ dg r
theorem pad_step {k r : Nat} (hk : 0 < k) (h : r < 10 ^ (k + 1)) : padL (k + 1) r = padL k (r / 10) ++ [(Nat.digitChar (r % 10)).toNat] := by
  unfold padL
  have hm : r % 10 < 10 := Nat.mod_lt r (by decide)
  by_cases h10 : r < 10
  · have e0 : r / 10 = 0 := by omega
    have e1 : r % 10 = r := by omega
    rw [e0, e1, dg_one h10, dg_one (show 0 < 10 by decide)]
    show List.replicate (k + 1 - 1) 48 ++ [_] = List.replicate (k - 1) 48 ++ [48] ++ [_]
    rw [show List.replicate (k - 1) 48 ++ [48] = List.replicate k 48 by
      rw [← List.replicate_succ', Nat.sub_add_cancel hk]]
    rfl
  · have e : r = r / 10 * 10 + r % 10 := by omega
    have e2 : dg r = dg (r / 10) ++ [(Nat.digitChar (r % 10)).toNat] := by
      rw [← dg_step (by omega) hm, ← e]
    rw [e2, List.length_append, ← List.append_assoc]
    show List.replicate (k + 1 - ((dg (r / 10)).length + 1)) 48 ++ _ ++ _ = _
    rw [Nat.add_sub_add_right]
theorem dg_split {a : Nat} (ha : 0 < a) : ∀ {k r : Nat}, 0 < k → r < 10 ^ k → dg (a * 10 ^ k + r) = dg a ++ padL k r
  | 1, r, _, h => by
    have hr : r < 10 := h
    rw [show a * 10 ^ 1 + r = a * 10 + r from rfl, dg_step ha hr]
    unfold padL
    rw [dg_one hr]
    rfl
  | k + 2, r, _, h => by
    have hm : r % 10 < 10 := Nat.mod_lt r (by decide)
    have hq : r / 10 < 10 ^ (k + 1) := by
      have : (10 : Nat) ^ (k + 2) = 10 ^ (k + 1) * 10 := rfl
      omega
    have e : a * 10 ^ (k + 2) + r = (a * 10 ^ (k + 1) + r / 10) * 10 + r % 10 := by
      have : (10 : Nat) ^ (k + 2) = 10 ^ (k + 1) * 10 := rfl
      rw [this, ← Nat.mul_assoc, Nat.add_mul]
      omega
    have p : 0 < a * 10 ^ (k + 1) + r / 10 := Nat.lt_of_lt_of_le (Nat.mul_pos ha (Nat.pow_pos (by decide))) (Nat.le_add_right _ _)
    rw [e, dg_step p hm, dg_split ha (by omega) hq, pad_step (by omega) h, List.append_assoc]
theorem join_signs_cons (sep x y : Str) (r : List Str) : (Str.join sep (x :: y :: r)).cps.toList = x.cps.toList ++ sep.cps.toList ++ (Str.join sep (y :: r)).cps.toList := by
  show (x ++ sep ++ Str.join sep (y :: r)).cps.toList = _
  rw [signs_app, signs_app]
theorem cut_uniq {c : Nat} : ∀ {a b x y : List Nat}, c ∉ a → c ∉ b → a ++ c :: x = b ++ c :: y → a = b ∧ x = y
  | [], [], x, y, _, _, e => by
    injection e with _ e
    exact ⟨rfl, e⟩
  | [], d :: b, x, y, _, hb, e => by
    injection e with e _
    exact absurd (e ▸ List.mem_cons_self) hb
  | d :: a, [], x, y, ha, _, e => by
    injection e with e _
    exact absurd (e ▸ List.mem_cons_self) ha
  | d :: a, d' :: b, x, y, ha, hb, e => by
    injection e with e1 e2
    obtain ⟨h1, h2⟩ := cut_uniq (fun z => ha (List.mem_cons_of_mem _ z)) (fun z => hb (List.mem_cons_of_mem _ z)) e2
    exact ⟨by rw [e1, h1], h2⟩
theorem join_uniq {c : Nat} : ∀ {ps qs : List Str}, ps ≠ [] → qs ≠ [] → (∀ p ∈ ps, c ∉ p.cps.toList) → (∀ q ∈ qs, c ∉ q.cps.toList) → Str.join ⟨#[c]⟩ ps = Str.join ⟨#[c]⟩ qs → ps = qs
  | [], _, h, _, _, _, _ => absurd rfl h
  | _ :: _, [], _, h, _, _, _ => absurd rfl h
  | [p], [q], _, _, _, _, e => by
    have e' : p = q := e
    rw [e']
  | [p], q :: q2 :: qs, _, _, hp, _, e => by
    have e' : p.cps.toList = (Str.join ⟨#[c]⟩ (q :: q2 :: qs)).cps.toList := by rw [← e]; rfl
    rw [join_signs_cons] at e'
    exact absurd (by rw [e']; simp) (hp p List.mem_cons_self)
  | p :: p2 :: ps, [q], _, _, _, hq, e => by
    have e' : q.cps.toList = (Str.join ⟨#[c]⟩ (p :: p2 :: ps)).cps.toList := by rw [e]; rfl
    rw [join_signs_cons] at e'
    exact absurd (by rw [e']; simp) (hq q List.mem_cons_self)
  | p :: p2 :: ps, q :: q2 :: qs, _, _, hp, hq, e => by
    have e' : (Str.join ⟨#[c]⟩ (p :: p2 :: ps)).cps.toList = (Str.join ⟨#[c]⟩ (q :: q2 :: qs)).cps.toList := by rw [e]
    rw [join_signs_cons, join_signs_cons] at e'
    have e2 : p.cps.toList ++ c :: (Str.join ⟨#[c]⟩ (p2 :: ps)).cps.toList = q.cps.toList ++ c :: (Str.join ⟨#[c]⟩ (q2 :: qs)).cps.toList := by simpa using e'
    obtain ⟨h1, h2⟩ := cut_uniq (hp p List.mem_cons_self) (hq q List.mem_cons_self) e2
    have ih := join_uniq (ps := p2 :: ps) (qs := q2 :: qs) (by simp) (by simp) (fun z hz => hp z (List.mem_cons_of_mem _ hz)) (fun z hz => hq z (List.mem_cons_of_mem _ hz)) (str_ext h2)
    rw [str_ext h1, ih]
theorem split_join {c : Nat} {ps : List Str} (hn : ps ≠ []) (hp : ∀ p ∈ ps, c ∉ p.cps.toList) : Txt.split (Str.join ⟨#[c]⟩ ps) ⟨#[c]⟩ = ps := by
  refine join_uniq (c := c) ?_ hn (StrLaws.split_free _ c) hp (StrLaws.join_split _ _)
  intro e
  have := split_pos (Str.join ⟨#[c]⟩ ps) ⟨#[c]⟩
  rw [e] at this
  exact absurd this (by decide)
end Kw
set_option Elab.async false
set_option linter.all false
set_option maxRecDepth 100000
set_option maxHeartbeats 4000000
namespace Kw
open PySem PySem.Spec PySem.NumText PyProof.Rows L2
section
variable {X : Cx}
theorem call_int_txt : CallR X (.type "int") (fun xs H Q => ∃ z n, xs = [.str z] ∧ z.length ≤ 640 ∧ PySem.intText? z = some n ∧ Q (.int n) H) := by
  intro pins s σ H xs us Q I r h
  obtain ⟨z, n, rfl, hl, hn, q⟩ := h
  obtain ⟨u, rfl, t, rfl⟩ := vals1 r
  exact PySem.W.KIN.call_text hn hl ⟨.int n, H, I.tok _, ⟨_, rfl⟩, q⟩
noncomputable def rStarts : V → List V → Hp → VK → Prop := fun x vs H Q => ∃ a b, x = .str a ∧ vs = [.str b] ∧ Q (.bl (Txt.startswith a b)) H
theorem mt_starts : MtR X "str.startswith" rStarts := by
  intro pins s σ H x vs v us Q I rx rv h
  obtain ⟨a, b, rfl, rfl, q⟩ := h
  obtain ⟨t, rfl⟩ := rx
  obtain ⟨u, rfl, t', rfl⟩ := vals1 rv
  exact PySem.SC.startswith ⟨.bl _, H, I, rfl, q⟩
noncomputable def rZfill : V → List V → Hp → VK → Prop := fun x vs H Q => ∃ a i, x = .str a ∧ vs = [.int i] ∧ PadOk i = true ∧ Q (.str (Txt.zfill a i)) H
theorem mt_zfill : MtR X "str.zfill" rZfill := by
  intro pins s σ H x vs v us Q I rx rv h
  obtain ⟨a, i, rfl, rfl, hp, q⟩ := h
  obtain ⟨t, rfl⟩ := rx
  obtain ⟨u, rfl, t', rfl⟩ := vals1 rv
  exact PySem.SC.zfill hp fun t' k => ⟨.str _, H, I.kept (fun b o e => e), ⟨_, rfl⟩, q⟩
theorem vals_strs : ∀ {ts : List Str} {us : List Value}, Vals (ts.map V.str) us → ∃ l : List (Str × Tok), strValues l = us ∧ l.map (·.1) = ts
  | [], us, h => by
    cases h
    exact ⟨[], rfl, rfl⟩
  | t :: ts, us, h => by
    rw [List.map_cons] at h
    cases h with
    | cons r1 r2 =>
      obtain ⟨k, rfl⟩ := r1
      obtain ⟨l, e1, e2⟩ := vals_strs r2
      exact ⟨(t, k) :: l, by rw [← e1]; rfl, by rw [← e2]; rfl⟩
noncomputable def rJoin (K : PySem.W.Frag) : V → List V → Hp → VK → Prop := fun x vs H Q => ∃ sep p ts, x = .str sep ∧ vs = [.ref p] ∧ SqL K H p (ts.map V.str) ∧ JoinOk sep ts = true ∧ Q (.str (Str.join sep ts)) H
theorem mt_join {K : PySem.W.Frag} (hK : X.K = K) : MtR X "str.join" (rJoin K) := by
  subst hK
  intro pins s σ H x vs v us Q I rx rv h
  obtain ⟨sep, p, ts, rfl, rfl, hp, ok, q⟩ := h
  obtain ⟨t, rfl⟩ := rx
  obtain ⟨u, rfl, ru⟩ := vals1 rv
  cases ru
  obtain ⟨its, r', pl, hz⟩ := I.list hp
  obtain ⟨l, e1, e2⟩ := vals_strs r'
  rw [← e1] at pl
  refine PySem.SC.join pl.isList e2 ok fun t' k => ⟨.str _, H, I.kept (fun b o e => e), ⟨_, rfl⟩, ?_⟩
  rw [show Txt.join sep ts = Str.join sep ts from StrLaws.glued_eq_join sep ts]
  exact q
noncomputable def rSplit (K : PySem.W.Frag) : V → List V → Hp → VK → Prop := fun x vs H Q => ∃ a b, x = .str a ∧ vs = [.str b] ∧ (b.length == 0) = false ∧ a.length + 2 ≤ 100000 ∧ ∀ p, H p = none → Q (.ref p) (upd H p (.lst ((Txt.split a b).map V.str)))
theorem strs_vals : ∀ (l : List (Str × Tok)), Vals ((l.map (·.1)).map V.str) (strValues l)
  | [] => .nil
  | (x, t) :: l => .cons ⟨t, rfl⟩ (strs_vals l)
theorem mt_split {K : PySem.W.Frag} : MtR X "str.split" (rSplit K) := by
  intro pins s σ H x vs v us Q I rx rv h
  obtain ⟨a, b, rfl, rfl, hb, hl, q⟩ := h
  obtain ⟨t, rfl⟩ := rx
  obtain ⟨u, rfl, t', rfl⟩ := vals1 rv
  have hz : a.length ≤ sizeLine := by rw [sizeLine_eq]; omega
  have hn : (Builtin.Str.partsBetween a (Builtin.Str.occurrences a b 0 a.length (a.length + 1)) b.length).length ≤ sizeLine := by
    rw [len_partsBetween, sizeLine_eq]
    have := StrLaws.occ_length_le a b 0 a.length (a.length + 1)
    omega
  have fin : ∀ (l : List (Str × Tok)) (k : Nat), l.map (·.1) = Txt.split a b → EP X pins σ Q (.ref s.heap.objs.size) { s with heap := s.heap.push { cls := .type "list", data := .seq (strValues l).toArray }, toks := k } := fun l k e => by
    have rv := strs_vals l
    rw [e] at rv
    have hlen := rv.length
    have ln : (strValues l).length ≤ sizeLine := by
      rw [← hlen, List.length_map, sizeLine_eq]
      have := split_le a b
      omega
    exact ⟨.ref s.heap.objs.size, _, I.laid (t' := k) (o := .lst ((Txt.split a b).map V.str)) (fun b ob q => Heap.get?_push_of_some _ q) (Nat.le_refl _) ⟨by rw [hlen]; exact ln, _, 0, rv, Heap.get?_push_size _ rfl⟩, rfl, q _ (I.hok.fresh (Nat.le_refl _))⟩
  cases h1 : (decide (a.length < b.length) || decide (Builtin.Str.strKind a < Builtin.Str.strKind b))
  · cases hf : (Builtin.Str.occurrences a b 0 a.length (a.length + 1)).isEmpty
    · refine call_meets F.slot_str_split (typeIs_str _ _ _) F.entry_str_split (F.args_str_split_2 _ _) (meets_str_split_sep a b t t' h1 hb hf hz hn) ?_
      show wants _ _ _ { s with toks := _, heap := s.heap.push { cls := .type "list", data := .seq (strsFrom s.toks (Builtin.Str.partsBetween a (Builtin.Str.occurrences a b 0 a.length (a.length + 1)) b.length)).toArray } }
      rw [strsFrom_eq]
      exact fin (numbered s.toks _) _ ((numbered_texts _ _).trans ((if_neg (ne_true_of_eq_false h1)).trans (if_neg (ne_true_of_eq_false hf))).symm)
    · exact call_meets F.slot_str_split (typeIs_str _ _ _) F.entry_str_split (F.args_str_split_2 _ _) (meets_str_split_not_found a b t t' h1 hb hf)
        (fin [(a, t)] s.toks ((if_neg (ne_true_of_eq_false h1)).trans (if_pos hf)).symm)
  · exact call_meets F.slot_str_split (typeIs_str _ _ _) F.entry_str_split (F.args_str_split_2 _ _) (meets_str_split_cannot_occur a b t t' h1)
      (fin [(a, t)] s.toks (if_pos h1).symm)
end
end Kw
set_option Elab.async false
set_option linter.all false
set_option maxRecDepth 100000
set_option maxHeartbeats 4000000
namespace Kw
open PySem PySem.Spec PySem.NumText PyProof.Rows L2
theorem idx_from {len : Nat} (h : 1 ≤ len) : Builtin.Str.strSliceIndices (some 1) none 1 len = (List.range (len - 1)).map (fun k => 1 + k) := by
  have e := StrLaws.strSliceIndices_plain (a := 1) (b := len) (len := len) h (Nat.le_refl _)
  rw [← e]
  simp only [Builtin.Str.strSliceIndices]
  simp
  rw [show max 0 (min (if (len : Int) < 0 then (len : Int) + len else len) len) = (len : Int) by split <;> omega]
noncomputable def rest1 (z : Str) : Str := ⟨(z.cps.toList.drop 1).toArray⟩
section
variable {X : Cx}
noncomputable def rSlS : V → Option Int → Option Int → Hp → VK → Prop := fun x lo hi H Q => ∃ z, x = .str z ∧ lo = some 1 ∧ hi = none ∧ 1 ≤ z.length ∧ z.length ≤ 100000 ∧ Q (.str (rest1 z)) H
theorem sl_str : SlR X rSlS := by
  intro pins s σ H x v vl vu lo hi sl Q I rx hs pl pu h
  obtain ⟨z, rfl, rfl, rfl, hl, hz, q⟩ := h
  obtain ⟨t, rfl⟩ := rx
  cases pu
  cases pl with
  | int i t1 =>
    refine ⟨"str", _, PySem.F.slot_str_getitem.lookup, typeIs_str s z t, ?_⟩
    refine wpAny_getItem_str_slice (l := some (1, t1)) (u := none) (st := none) hs rfl ?_
    unfold sliceMade
    have ep : slicePicked z (some (1, t1)) none none = (List.range (z.length - 1)).map (fun k => 1 + k) := idx_from hl
    rw [ep]
    rw [if_neg (by rw [List.length_map, List.length_range]; simp; omega)]
    have ef : ((List.range (z.length - 1)).map (fun k => 1 + k)).filterMap (z.cps[·]?) = z.cps.toList.drop 1 := by
      have h := StrLaws.picks z.cps.toList (z.length - 1) 1 (by rw [len_signs] at hl ⊢; omega)
      have e2 : (z.cps.toList.drop 1).take (z.length - 1) = z.cps.toList.drop 1 := List.take_of_length_le (by rw [List.length_drop, len_signs]; omega)
      rw [e2] at h
      simpa using h
    rw [ef]
    refine ⟨?_, .str _, H, I.tok _, ⟨_, rfl⟩, q⟩
    show (rest1 z).length ≤ sizeLine
    rw [len_signs, sizeLine_eq]
    show (z.cps.toList.drop 1).toArray.toList.length ≤ _
    rw [List.toList_toArray, List.length_drop]
    rw [len_signs] at hz
    omega
noncomputable def Its (x : Str) : It := ⟨fun i _ => i < x.cps.size, fun i H v H' => H' = H ∧ ∃ c, x.cps[i]? = some c ∧ v = .str ⟨#[c]⟩, fun i _ => i = x.cps.size⟩
theorem turn_str {P : Program} {w : World} {K : PySem.W.Frag} {tg : Expr} {ty : String} (hty : ty = "str_ascii_iterator" ∨ ty = "str_iterator") (it : Addr) (x : Str) (t : Tok) : Turn P w K tg (Its x) [it] it (fun i h => h.IsStrIter it ty x t i) where
  mem := by simp
  obj := fun i h st b hb => by
    have e : b = it := by simpa using hb
    subst e
    obtain ⟨o, e, c, d⟩ := st
    exact ⟨o, e, fun v z => by rw [d] at z; cases z⟩
  keep := fun i h h' st k => by
    obtain ⟨o, e, r⟩ := st
    exact ⟨o, k it (by simp) o e, r⟩
  item := by
    intro X hP hw hK hc i pins s σ H E I hf st hg
    subst hP hw hK
    obtain ⟨f0, f1, f2, f3, f4, f5⟩ := hf it (by simp)
    have W : Walks X.prog X.w X.A it [it] [it] x.cps.size (SignAt x) (fun i h => h.IsStrIter it ty x t i) := by
      rcases hty with rfl | rfl
      · exact Walks.strAscii (I.ok.hd hc) it x t
      · exact Walks.strWide (I.ok.hd hc) it x t
    refine W.item i s _ _ hg st fun v h' tk hv st' kk => ?_
    obtain ⟨c, u, hc', rfl⟩ := hv
    have I1 : Inv X pins σ H { s with heap := h', toks := tk } := I.turned (fun b o hb e => kk b o (by simpa using hb) e) f0 f1 f3 f4 f5
    obtain ⟨o, e, c0, d⟩ := id st'
    refine ⟨_, rfl, go_of (s := { s with heap := h', toks := tk }) e c0 d (by rcases hty with rfl | rfl <;> decide) ⟨.str ⟨#[c]⟩, H, I1, ⟨u, rfl⟩, ⟨rfl, c, hc', rfl⟩, st', fun b hb => (hf b hb).1⟩⟩
  done := by
    intro X hP hw hK hc i pins s σ H E I hf st hg
    subst hP hw hK
    obtain ⟨f0, f1, f2, f3, f4, f5⟩ := hf it (by simp)
    have W : Walks X.prog X.w X.A it [it] [it] x.cps.size (SignAt x) (fun i h => h.IsStrIter it ty x t i) := by
      rcases hty with rfl | rfl
      · exact Walks.strAscii (I.ok.hd hc) it x t
      · exact Walks.strWide (I.ok.hd hc) it x t
    have ei : i = x.cps.size := hg
    subst ei
    exact W.done s _ _ st fun h' tk kk => ⟨rfl, I.turned (fun b o hb e => kk b o (by simpa using hb) e) f0 f1 f3 f4 f5⟩
  self := fun _ _ _ _ _ st h => by
    rcases hty with rfl | rfl
    · exact wpAny_pyIter_striter_ascii st h
    · exact wpAny_pyIter_striter_wide st h
noncomputable def iStr (tl : TE) : TI := fun σ H R => tl σ H fun x H1 => ∃ z, x = .str z ∧ R (Its z) H1
theorem pi_str {X : Cx} {tg : Expr} {l : Expr} {tl : TE} (hl : PE X l tl) : PI X tg l (iStr tl) := by
  intro pins s σ H R I h
  refine thn (hl pins s σ H _ I h) fun v s1 zz => ?_
  obtain ⟨x, H1, I1, r1, q1⟩ := zz
  obtain ⟨z, rfl, q⟩ := q1
  obtain ⟨t, rfl⟩ := r1
  have fp : ∀ b ∈ [s1.heap.objs.size], FpOk X pins H1 b := fun b hb => by
    have e : b = s1.heap.objs.size := by simpa using hb
    subst e
    exact I1.fpOk (Nat.le_refl _) (I1.hok.fresh (Nat.le_refl _))
  cases ha : z.cps.all (· < 128)
  · refine wpAny_pyIter_wide ha ?_
    exact ⟨s1.heap.objs.size, [s1.heap.objs.size], _, _, H1, rfl, I1.kept (t' := s1.toks) fun b o e => Heap.get?_push_of_some _ e, turn_str (.inr rfl) _ z t, ⟨_, Heap.get?_push_size _ rfl, rfl, rfl⟩, fp, q⟩
  · refine wpAny_pyIter_ascii ha ?_
    exact ⟨s1.heap.objs.size, [s1.heap.objs.size], _, _, H1, rfl, I1.kept (t' := s1.toks) fun b o e => Heap.get?_push_of_some _ e, turn_str (.inl rfl) _ z t, ⟨_, Heap.get?_push_size _ rfl, rfl, rfl⟩, fp, q⟩
theorem lc_str {idx : List Nat} {te : TE} {σ : L2.St} {H : Hp} {Q : VK} {z : Str} (Pv : Nat → List V → Hp → Prop) (h0 : Pv 0 [] H) (hz : z.length ≤ 100000) (hy : ∀ i ys H, Pv i ys H → ys.length = i)
    (hs : ∀ i c ys H (Q' : VK), z.cps.toList[i]? = some c → Pv i ys H → (∀ v H2, Pv (i + 1) (ys ++ [v]) H2 → Q' v H2) → te (stIn (some (.str ⟨#[c]⟩)) idx σ) H Q') (hd : ∀ ys H, Pv z.length ys H → ∀ p, H p = none → Q (.ref p) (upd H p (.lst ys))) :
    LcBody (Its z) idx te σ Q H := by
  have en : z.cps.size = z.length := rfl
  refine ⟨fun i m ys H => m = z.length - i ∧ i ≤ z.length ∧ Pv i ys H, ⟨z.length, by simp, Nat.zero_le _, h0⟩, ?_⟩
  rintro i m ys H ⟨rfl, hi, p⟩
  refine ⟨by rw [hy i ys H p, sizeLine_eq]; omega, ?_⟩
  by_cases hlt : i < z.length
  · refine .inr ⟨hlt, fun y H' yl => ?_⟩
    obtain ⟨e, c, hc, ey⟩ := yl
    subst e ey
    exact hs i c ys _ _ (by simpa using hc) p fun v H2 w => ⟨z.length - (i + 1), by omega, rfl, hlt, w⟩
  · have e : i = z.length := by omega
    subst e
    exact .inl ⟨rfl, hd ys H p⟩
end
end Kw
set_option Elab.async false
set_option linter.all false
set_option maxRecDepth 100000
set_option maxHeartbeats 4000000
namespace Kw
open PySem PySem.Spec PySem.NumText PyProof.Rows L2
section
variable {prog : Program} {w : World} {A : Around} {E : Value → Shared → Prop} {s : Shared} {I l : Addr} {items : Array Value}
theorem collect_rev {Q : List Value → Shared → Prop} (hh : A.handled = none) (hit : s.heap.IsRevIter I l ((items.size : Int) - 1)) (hl : s.heap.IsList l items) (ne : l ≠ I) (hz : items.size ≤ sizeLine)
    (hQ : ∀ s' acc, Moved [I] (fun a b => b = a) s s' → ItemsOf (RevP items) acc items.size → Q acc.toList s') : wpAny (model prog w) A (collect (.ref I)) Q E s := by
  have l1 : I < s.heap.objs.size := by
    obtain ⟨o, e, _⟩ := hit
    exact Heap.lt_size e
  have l2 : l < s.heap.objs.size := by
    obtain ⟨o, e, _⟩ := hl
    exact Heap.lt_size e
  unfold collect
  refine wpAny_bind (wpAny_runValue (codeAny_builtin F.entry_proto_collect ?_))
  rw [Around.under_plainId F.plain_proto_collect _]
  show wpAny _ A.in1 (newList [] >>= fun l => again (.builtin "list.__iadd__" ⟨[l, .ref I], []⟩)) _ _ s
  refine wpAny_bind (wpAny_newObj_type ?_)
  refine wpAny_pure ⟨plainId_quiet F.plain_list_iadd _, codeAny_builtin F.entry_list_iadd ?_⟩
  rw [Around.under_plainId F.plain_list_iadd _]
  have hS₁ : (s.heap.push { cls := .type "list", data := .seq ([] : List Value).toArray }).get? s.heap.objs.size = some { cls := .type "list", data := .seq ([] : List Value).toArray } := Heap.get?_push_size _ rfl
  show wpAny _ A.in1 (Builtin.List.listExtendWith (.ref s.heap.objs.size) (.ref I) (.ref s.heap.objs.size)) _ _ _
  refine extend_rev (s := { s with heap := s.heap.push { cls := .type "list", data := .seq ([] : List Value).toArray } }) (c0 := 0) (R := fun r s' => match r with | .ok (.ret v) => wpAny (model prog w) A (match v with | .ref a => (do match (← load a).data with | .seq xs _ => pure xs.toList | _ => unsupported "internal:collect") | _ => unsupported "internal:collect") Q E s' | .ok _ => False | .error e => E e s') (res := .ref s.heap.objs.size) (prog := prog) (w := w) (A := A) (I := I) (l := l) (items := items) hh (hit.at fun u e => Heap.get?_push_of_some _ e) (hl.push _) ne hz (fun q => ?_) hS₁ fun z acc c hm hS hacc => ?_
  · simp only [List.mem_cons, List.not_mem_nil, or_false] at q
    rcases q with q | q
    · exact absurd l1 (by rw [← q]; exact Nat.lt_irrefl _)
    · exact absurd l2 (by rw [← q]; exact Nat.lt_irrefl _)
  · show wpAny _ A (load s.heap.objs.size >>= _) _ _ z
    refine wpAny_bind (wpAny_load hS ?_)
    exact wpAny_pure (hQ z acc (Moved.drop_new (o := { cls := .type "list", data := .seq ([] : List Value).toArray }) (tk := s.toks) hm (Nat.le_refl _)) hacc)
theorem gives_tail (x : Str) (l : List (Str × Tok)) (hok : Builtin.Str.tooLong ((l.map (·.1)).toArray.foldl (fun x1 x2 => x1 + x2.length + x.length) 0) = false) : Gives (joinTail x (strValues l)) (joinMade x l) := by
  have g0 := gives_joinTail x l hok
  cases l with
  | nil => exact g0
  | cons p r => cases r with
    | nil => exact g0
    | cons q r' => exact g0
theorem join_rev {x : Str} {t : Tok} {ps : List (Str × Tok)} {Q : Value → Shared → Prop} (hh : A.handled = none) (hit : s.heap.IsRevIter I l (((strValues ps).toArray.size : Int) - 1)) (hl : s.heap.IsList l (strValues ps).toArray) (ne : l ≠ I) (hz : (strValues ps).toArray.size ≤ sizeLine)
    (hok : JoinOk x (ps.reverse.map (·.1)) = true) (hq : ∀ s', Moved [I] (fun a b => b = a) s s' → ∀ t' k, Q (.str (Txt.join x (ps.reverse.map (·.1))) t') { s' with toks := k }) :
    wpAny (model prog w) A (call (.builtin "str.join") [.str x t, .ref I]) Q E s := by
  refine wpAny_call (codeAny_call_builtin F.slot_str_join.plain F.entry_str_join (F.slot_str_join.check _ _ _ _ _ _ _ _ (typeIs_str _ _ _) (F.args_str_join_2 _ _) ?_))
  rw [join_tree_other]
  refine wpAny_bind (wpAny_typeOf hit.typeIs ?_)
  show wpAny _ A.in1 ((pyIter (.ref I)).tryCatch _ >>= fun it => collect it >>= fun items => joinTail x items) _ _ s
  refine wpAny_bind (wpAny_tryCatch (wpAny_pyIter_revIter hit ?_))
  refine wpAny_bind (collect_rev (A := A.in1) hh hit hl ne hz fun s' acc hm hacc => ?_)
  have e1 := rev_items hacc
  have e2 : (strValues ps).reverse = strValues ps.reverse := by
    unfold strValues
    rw [List.map_reverse]
  rw [e1, e2]
  unfold JoinOk at hok
  rw [Bool.not_eq_true'] at hok
  exact gives_tail x ps.reverse hok prog w A (wants Q E) s' (post_join ps.reverse ⟨joinFit_length hok, hq s' hm⟩)
end
section
variable {X : Cx}
noncomputable def rJoinRev (X : Cx) : V → List V → Hp → VK → Prop := fun x vs H Q => ∃ (sep : Str) (it p : Addr) (ts : List Str), x = .str sep ∧ vs = [.ref it] ∧ H it = some (.ext (RevAt X it p ts.length)) ∧ SqL X.K H p (ts.map V.str) ∧ JoinOk sep ts.reverse = true ∧ ∀ H', But it H H' → H' it = none → Q (.str (Str.join sep ts.reverse)) H'
theorem mt_joinRev (hc : X.calm = true) : MtR X "str.join" (rJoinRev X) := by
  intro pins s σ H x vs v us Q I rx rv h
  obtain ⟨sep, it, p, ts, rfl, rfl, hi, hp, hok, q⟩ := h
  obtain ⟨t, rfl⟩ := rx
  obtain ⟨u, rfl, ru⟩ := vals1 rv
  cases ru
  obtain ⟨its, r', pl, hz⟩ := I.list hp
  obtain ⟨ps, e1, e2⟩ := vals_strs r'
  subst e1
  obtain ⟨⟨young, ok⟩, _⟩ := (show ObjOk X.prog X.w H s.heap it (.ext (RevAt X it p ts.length)) from I.hok it _ hi)
  have hlen := r'.length
  rw [List.length_map] at hlen
  have ok' : s.heap.IsRevIter it p (((strValues ps).toArray.size : Int) - 1) := by
    rw [List.size_toArray, ← hlen]
    exact ok
  have ne : p ≠ it := by
    rintro rfl
    obtain ⟨o, n, e, c1, _⟩ := pl
    obtain ⟨o', e', c2, _⟩ := ok
    rw [e] at e'
    cases e'
    exact absurd (c1.symm.trans c2) (by simp)
  have et : ps.reverse.map (·.1) = ts.reverse := by rw [List.map_reverse, e2]
  refine join_rev (I.ok.hd hc) ok' pl.isList ne (by rw [List.size_toArray]; rw [List.length_map] at hz; omega) (by rw [et]; exact hok) fun z hm t' k => ?_
  have keep : ∀ b o, b ≠ it → s.heap.get? b = some o → z.heap.get? b = some o := fun b o hb e => hm.heap b o (fun hx => hb (List.mem_singleton.mp hx)) e
  have n0 : ∀ b, H b = none → b ≠ it := fun b e y => by rw [y, hi] at e; cases e
  have nits : it ≠ X.env.locals := (n0 _ I.free).symm
  have I1 := Inv.drop I hi
  have I2 := I1.turned (it := it) (h' := z.heap) (t' := k) keep del_same nits (.inr young) (fun y c e => n0 _ (I.freeC y c e)) fun p hp => n0 _ (I.pin p hp).2.1
  have es : { z with toks := k } = { s with heap := z.heap, toks := k } := by
    obtain ⟨a1, a2, a3, a4, a5⟩ := z
    have e1 : a2 = s.gens := hm.gens
    have e2 : a3 = s.drawn := hm.drawn
    have e3 : a5 = s.os := hm.os
    subst e1 e2 e3
    rfl
  rw [es, et, show Txt.join sep ts.reverse = Str.join sep ts.reverse from StrLaws.glued_eq_join sep _]
  exact ⟨.str _, _, I2, ⟨_, rfl⟩, q _ (fun a o na e => by rw [del_ne na]; exact e) del_same⟩
end
end Kw
set_option Elab.async false
set_option linter.all false
set_option maxRecDepth 100000
set_option maxHeartbeats 4000000
namespace Kw
open PySem PySem.Spec PySem.NumText PyProof.Rows L2
theorem pe_globS {X : Cx} {x : Str} {z : Str} {pos : Pos} (hg : Gl X x) (hm : ∃ t, X.mg x = some (.str z t)) (hd : (x == ("__debug__" : Str)) = false := by decide) : PE X (.Name x pos) (tC (.str z)) := by
  obtain ⟨t, hm⟩ := hm
  exact pe_glob hg hm ⟨t, rfl⟩ hd
theorem sep_blank : (Str.ofString " ") = ⟨#[32]⟩ := by decide +kernel
theorem sep_over : (Str.ofString "/") = ⟨#[47]⟩ := by decide +kernel
theorem sep_minus : (Str.ofString "-") = ⟨#[45]⟩ := by decide +kernel
theorem sep_none : (Str.ofString "") = ⟨#[]⟩ := by decide +kernel
theorem figs_signs : (Str.ofString "0123456789").cps.toList = [48, 49, 50, 51, 52, 53, 54, 55, 56, 57] := by decide +kernel
theorem nT_nat {i : Int} (h : 0 ≤ i) : (nT i).cps.toList = dg i.toNat := by
  rw [nT_signs]
  unfold nS
  rw [if_neg (by omega), show i.natAbs = i.toNat by omega]
theorem dg_cons (m : Nat) : ∃ c r, dg m = c :: r ∧ 48 ≤ c ∧ c ≤ 57 := by
  cases e : dg m with
  | nil => exact absurd e (dg_ne m)
  | cons c r =>
    have := dg_all m c (by rw [e]; exact List.mem_cons_self)
    exact ⟨c, r, rfl, this.1, this.2⟩
theorem zfill_signs {r : Nat} (k : Nat) : (Txt.zfill (nT (r : Int)) (k : Int)).cps.toList = padL k r := by
  have es : (nT (r : Int)).cps.toList = dg r := by rw [nT_nat (by omega)]; simp
  have el : (nT (r : Int)).length = (dg r).length := by rw [len_signs, es]
  unfold Txt.zfill padL
  rw [el]
  by_cases h : (k : Int) ≤ ((dg r).length : Nat)
  · rw [if_pos h, es, show k - (dg r).length = 0 by omega]
    rfl
  · rw [if_neg h]
    obtain ⟨c, t, ec, c1, c2⟩ := dg_cons r
    have e0 : (nT (r : Int)).cps[0]? = some c := by
      rw [← Array.getElem?_toList, es, ec]
      rfl
    have ez : zfilled (nT (r : Int)) ((k : Int).toNat - (dg r).length) = Builtin.Str.padded (nT (r : Int)) ((k : Int).toNat - (dg r).length) 0 48 := by
      unfold zfilled
      rw [e0]
      split
      · rename_i h; injection h with h; omega
      · rename_i h; injection h with h; omega
      · rfl
    rw [ez]
    show (Array.replicate ((k : Int).toNat - (dg r).length) 48 ++ (nT (r : Int)).cps ++ Array.replicate 0 48).toList = _
    simp [es]
theorem join_one {sep x : Str} : Str.join sep [x] = x := rfl
theorem join_two {sep x y : Str} : Str.join sep [x, y] = x ++ sep ++ y := rfl
theorem fig_two {i : Int} (h1 : 10 ^ 64 ≤ i) : Str.join (Str.ofString "") [nT (i / 10 ^ 64), Txt.zfill (nT (i % 10 ^ 64)) 64] = nT i := by
  have p : (0 : Int) < 10 ^ 64 := by decide
  have q0 : 0 ≤ i / 10 ^ 64 := Int.ediv_nonneg (by omega) (by omega)
  have q1 : 1 ≤ i / 10 ^ 64 := by
    have := Int.le_ediv_iff_mul_le (a := 1) (b := i) p
    omega
  have r0 := Int.emod_nonneg i (show (10 : Int) ^ 64 ≠ 0 by decide)
  have r1 := Int.emod_lt_of_pos i p
  have eP : ((10 ^ 64 : Nat) : Int) = (10 : Int) ^ 64 := Int.natCast_pow 10 64
  obtain ⟨a, ea⟩ := Int.eq_ofNat_of_zero_le q0
  obtain ⟨r, er⟩ := Int.eq_ofNat_of_zero_le r0
  have ei : i = ((a * 10 ^ 64 + r : Nat) : Int) := by
    have := Int.mul_ediv_add_emod i (10 ^ 64)
    rw [ea, er] at this
    rw [← this, Int.natCast_add, Int.natCast_mul, eP, Int.mul_comm]
  have ha : 0 < a := by omega
  have hr : r < 10 ^ 64 := by
    have : ((r : Nat) : Int) < ((10 ^ 64 : Nat) : Int) := by rw [← er, eP]; exact r1
    exact Int.ofNat_lt.mp this
  refine str_ext ?_
  rw [join_two, signs_app, signs_app, ea, er, sep_none, nT_nat (by omega)]
  have ez := zfill_signs (r := r) 64
  rw [show ((64 : Nat) : Int) = 64 from rfl] at ez
  rw [ez, ei, nT_nat (by omega)]
  have e := dg_split ha (k := 64) (r := r) (by decide) hr
  rw [show ((a : Nat) : Int).toNat = a from Int.toNat_natCast a, Int.toNat_natCast, e]
  simp
theorem minus_nT {t : Int} (h : t < 0) : Str.ofString "-" ++ nT (-t) = nT t := by
  refine str_ext ?_
  rw [signs_app, sep_minus, nT_signs, nT_signs]
  unfold nS
  rw [if_neg (by omega), if_pos h, show (-t).natAbs = t.natAbs by omega]
  rfl
theorem plus_nT (t : Int) : Str.ofString "" ++ nT t = nT t := by
  refine str_ext ?_
  rw [signs_app, sep_none]
  rfl
noncomputable def lng (i : Int) : Bool := decide (10 ^ 100 ≤ i.natAbs)
theorem short_nT {i : Int} (l : lng i = false) : (nT i).length ≤ 101 := by
  unfold lng at l
  have l' := of_decide_eq_false l
  exact nT_len (by decide) (by omega)
noncomputable def frP (q : Rat) : List Str := if ((q.den : Nat) : Int) = 1 then [nT q.num] else [nT q.num, nT ((q.den : Nat) : Int)]
noncomputable def frT (q : Rat) : Str := Str.join (Str.ofString "/") (frP q)
noncomputable def rowT (b : Rat × Rat × Int) : Str := Str.join (Str.ofString " ") [frT b.1, frT b.2.1, nT b.2.2]
theorem frP_ne (q : Rat) : frP q ≠ [] := by
  unfold frP
  split <;> simp
theorem frP_nT {q : Rat} {z : Str} (h : z ∈ frP q) : ∃ i, z = nT i := by
  unfold frP at h
  split at h
  · exact ⟨_, by simpa using h⟩
  · rcases List.mem_cons.mp h with e | h
    · exact ⟨_, e⟩
    · exact ⟨_, by simpa using h⟩
theorem split_frT (q : Rat) : Txt.split (frT q) (Str.ofString "/") = frP q := by
  unfold frT
  rw [sep_over]
  refine split_join (frP_ne q) fun p hp => ?_
  obtain ⟨i, rfl⟩ := frP_nT hp
  exact nT_free (.inr (.inr rfl))
theorem join_free {c d : Nat} (hcd : c ≠ d) : ∀ {ps : List Str}, (∀ p ∈ ps, c ∉ p.cps.toList) → c ∉ (Str.join ⟨#[d]⟩ ps).cps.toList
  | [], _, h => by simp [Str.join, Str.empty] at h
  | [p], hp, h => hp p List.mem_cons_self h
  | p :: p2 :: ps, hp, h => by
    rw [join_signs_cons] at h
    rcases List.mem_append.mp h with h | h
    · rcases List.mem_append.mp h with h | h
      · exact hp p List.mem_cons_self h
      · exact hcd (by simpa using h)
    · exact join_free hcd (ps := p2 :: ps) (fun z hz => hp z (List.mem_cons_of_mem _ hz)) h
theorem frT_free {q : Rat} {c : Nat} (h : c = 10 ∨ c = 32) : c ∉ (frT q).cps.toList := by
  unfold frT
  rw [sep_over]
  refine join_free (by omega) fun p hp => ?_
  obtain ⟨i, rfl⟩ := frP_nT hp
  exact nT_free (by omega)
theorem len_app (x y : Str) : (x ++ y).length = x.length + y.length := by rw [len_signs, len_signs, len_signs, signs_app, List.length_append]
theorem len_join {d B : Nat} : ∀ {ps : List Str}, (∀ p ∈ ps, p.length ≤ B) → (Str.join ⟨#[d]⟩ ps).length ≤ ps.length * (B + 1)
  | [], _ => by simp [Str.join, Str.empty, Str.length]
  | [p], h => by
    have := h p List.mem_cons_self
    show p.length ≤ 1 * (B + 1)
    omega
  | p :: p2 :: ps, h => by
    have h1 := h p List.mem_cons_self
    have ih := len_join (d := d) (B := B) (ps := p2 :: ps) fun z hz => h z (List.mem_cons_of_mem _ hz)
    show (p ++ ⟨#[d]⟩ ++ Str.join ⟨#[d]⟩ (p2 :: ps)).length ≤ _
    rw [len_app, len_app]
    have e1 : (⟨#[d]⟩ : Str).length = 1 := rfl
    rw [List.length_cons, Nat.succ_mul]
    omega
noncomputable def shF (q : Rat) : Prop := lng q.num = false ∧ lng ((q.den : Nat) : Int) = false
theorem frT_len {q : Rat} (h : shF q) : (frT q).length ≤ 204 := by
  unfold frT
  rw [sep_over]
  have := len_join (d := 47) (B := 101) (ps := frP q) fun p hp => by
    unfold frP at hp
    split at hp
    · rw [List.mem_singleton.mp hp]
      exact short_nT h.1
    · rcases List.mem_cons.mp hp with rfl | hp
      · exact short_nT h.1
      · rw [List.mem_singleton.mp hp]
        exact short_nT h.2
  have l2 : (frP q).length ≤ 2 := by
    unfold frP
    split <;> simp
  have := Nat.mul_le_mul_right 102 l2
  omega
noncomputable def shB (b : Rat × Rat × Int) : Prop := shF b.1 ∧ shF b.2.1 ∧ lng b.2.2 = false
theorem row_part {b : Rat × Rat × Int} (h : shB b) : ∀ p ∈ [frT b.1, frT b.2.1, nT b.2.2], p.length ≤ 204 := fun p hp => by
  simp only [List.mem_cons, List.not_mem_nil, or_false] at hp
  rcases hp with rfl | rfl | rfl
  · exact frT_len h.1
  · exact frT_len h.2.1
  · have := short_nT h.2.2
    omega
theorem rowT_len {b : Rat × Rat × Int} (h : shB b) : (rowT b).length ≤ 615 := by
  unfold rowT
  rw [sep_blank]
  exact len_join (d := 32) (B := 204) (row_part h)
theorem world_part {bs : List (Rat × Rat × Int)} (h : ∀ b ∈ bs, shB b) : ∀ p ∈ bs.map rowT, p.length ≤ 615 := fun p hp => by
  obtain ⟨b, hb, rfl⟩ := List.mem_map.mp hp
  exact rowT_len (h b hb)
theorem join_ok {sep : Str} {ts : List Str} {B : Nat} (hB : ∀ y ∈ ts, y.length ≤ B) (h : ts.length * B + ts.length * sep.length ≤ 16777216) : JoinOk sep ts = true := by
  unfold JoinOk
  rw [StrLaws.joinFits hB h]
  rfl
end Kw
namespace Kw
open PySem PySem.Spec PySem.NumText PyProof.Rows L2
theorem zfill_len {j : Int} (h0 : 0 ≤ j) (h1 : j < 10 ^ 64) : (Txt.zfill (nT j) 64).length ≤ 64 := by
  obtain ⟨r, rfl⟩ := Int.eq_ofNat_of_zero_le h0
  have eP : ((10 ^ 64 : Nat) : Int) = (10 : Int) ^ 64 := Int.natCast_pow 10 64
  have hr : r < 10 ^ 64 := by omega
  rw [len_signs]
  have e := zfill_signs (r := r) 64
  rw [show ((64 : Nat) : Int) = 64 from rfl] at e
  rw [e]
  unfold padL
  have := (dg_len (m := r) (k := 64) (by decide)).mpr hr
  rw [List.length_append, List.length_replicate]
  omega
end Kw
set_option Elab.async false
set_option linter.all false
set_option maxRecDepth 100000
set_option maxHeartbeats 4000000
namespace Kw
open PySem PySem.Spec PySem.NumText PyProof.Rows L2
noncomputable def dropS (z : Str) (a : Nat) : Str := ⟨(z.cps.toList.drop a).toArray⟩
section
variable {X : Cx}
end
end Kw
set_option Elab.async false
set_option linter.all false
set_option maxRecDepth 100000
set_option maxHeartbeats 4000000
namespace Kw
open PySem PySem.Spec PyProof.Rows L2
theorem dv_up {t b m : Int} (hb : 0 < b) (h : t ≤ m * b) : Rat.divInt t b ≤ (m : Rat) := by
  rw [Rat.divInt_eq_div]
  have b0 : (0 : Rat) < (b : Rat) := Rat.intCast_lt_intCast.mpr hb
  refine Rat.not_lt.mp fun c => ?_
  have e : (t : Rat) / b * b = t := Rat.div_mul_cancel (Rat.ne_of_gt b0)
  have c2 := Rat.mul_lt_mul_of_pos_right c b0
  rw [e, ← Rat.intCast_mul] at c2
  have := Rat.intCast_lt_intCast.mp c2
  omega
theorem dv_low {t b m : Int} (hb : 0 < b) (h : m * b ≤ t) : (m : Rat) ≤ Rat.divInt t b := by
  rw [Rat.divInt_eq_div]
  have b0 : (0 : Rat) < (b : Rat) := Rat.intCast_lt_intCast.mpr hb
  refine Rat.not_lt.mp fun c => ?_
  have e : (t : Rat) / b * b = t := Rat.div_mul_cancel (Rat.ne_of_gt b0)
  have c2 := Rat.mul_lt_mul_of_pos_right c b0
  rw [e, ← Rat.intCast_mul] at c2
  have := Rat.intCast_lt_intCast.mp c2
  omega
theorem dv_small {d v : Int} (h1 : 0 ≤ d) (h2 : d < 25) (v1 : 1 ≤ v) : ((-12 : Int) : Rat) ≤ Rat.divInt (d - 12) v ∧ Rat.divInt (d - 12) v ≤ ((12 : Int) : Rat) :=
  ⟨dv_low (by omega) (by omega), dv_up (by omega) (by omega)⟩
section
variable {β : Type} {R : V → β → Prop} {xs : List V} {bs : List β}
theorem Al2.take : ∀ {xs : List V} {bs : List β} (k : Nat), Al2 R xs bs → Al2 R (xs.take k) (bs.take k)
  | [], [], k, _ => by simp [Al2]
  | _ :: _, _ :: _, 0, _ => trivial
  | _ :: _, _ :: _, k + 1, z => ⟨z.1, Al2.take k z.2⟩
  | [], _ :: _, _, z => z.elim
  | _ :: _, [], _, z => z.elim
theorem Al2.drop : ∀ {xs : List V} {bs : List β} (k : Nat), Al2 R xs bs → Al2 R (xs.drop k) (bs.drop k)
  | [], [], k, _ => by simp [Al2]
  | _ :: _, _ :: _, 0, z => z
  | _ :: _, _ :: _, k + 1, z => Al2.drop k z.2
  | [], _ :: _, _, z => z.elim
  | _ :: _, [], _, z => z.elim
theorem Al2.app : ∀ {xs ys : List V} {bs cs : List β}, Al2 R xs bs → Al2 R ys cs → Al2 R (xs ++ ys) (bs ++ cs)
  | [], _, [], _, _, h => h
  | _ :: _, _, _ :: _, _, z, h => ⟨z.1, Al2.app z.2 h⟩
  | [], _, _ :: _, _, z, _ => z.elim
  | _ :: _, _, [], _, z, _ => z.elim
end
theorem cut_drop {xs : List V} {k : Nat} (h : k ≤ xs.length) : cutV xs (some (k : Int)) none = xs.drop k := by
  unfold cutV
  rw [HT.sIx_none, HT.sIx_nat, Nat.min_eq_left h]
  exact List.take_of_length_le (by rw [List.length_drop]; omega)
end Kw
set_option Elab.async false
set_option linter.all false
set_option maxRecDepth 100000
set_option maxHeartbeats 4000000
namespace Kw
open PySem PySem.Spec PyProof.Rows L2
noncomputable def FH (H : Hp) (p : Addr) (x : Rat) : Prop := H p = some (.tup [.int x.num, .int ((x.den : Nat) : Int)])
section
variable {K : PySem.W.Frag} {H H' : Hp} {p b c : Addr} {x y : Rat} {v : V} {ys : List V}
theorem FH.fq (h : FH H p x) : FQ K H p x := SqT.of h
theorem FH.ofInt {i : Int} (h : H p = some (.tup [.int i, .int 1])) : FH H p (i : Rat) := h
end
section
variable {X : Cx}
end
section
variable {K : PySem.W.Frag} {H H' : Hp} {b c : Addr} {z : V} {k l : Bx} {ys : List V}
end
end Kw
namespace Kw
end Kw
namespace Kw
open PySem PySem.Spec PyProof.Rows L2
theorem FH.lit {H : Hp} {p : Addr} {t b : Int} (h : H p = some (.tup [.int t, .int b])) (e1 : 0 < b) (e2 : Int.gcd t b = 1) : FH H p (Rat.divInt t b) := by
  obtain ⟨z1, z2⟩ := q_of e1 e2
  unfold FH
  rw [z1, z2]
  exact h
end Kw
namespace Kw
open PySem PySem.Spec PyProof.Rows L2
section
variable {X : Cx} {es1 es2 es3 es4 es5 es6 : List Expr} {x1 x2 x3 x4 x5 x6 : Nat} {q1 q2 q3 q4 q5 q6 q7 pos : Pos} {t1 t2 t3 t4 t5 t6 t7 : TE}
end
end Kw
set_option Elab.async false
set_option linter.all false
set_option maxRecDepth 100000
set_option maxHeartbeats 4000000
namespace Kw
open PySem PySem.Spec PySem.NumText PyProof.Rows L2
theorem digitsVal_lt {cs : List Nat} (h : AllDigits cs) : digitsVal cs < 10 ^ cs.length := by
  generalize hn : cs.length = n
  induction n generalizing cs with
  | zero => rw [List.eq_nil_of_length_eq_zero hn]; decide
  | succ n ih =>
    obtain ⟨r, d, rfl⟩ : ∃ r d, cs = r ++ [d] := by
      rcases List.eq_nil_or_concat cs with e | ⟨r, d, e⟩
      · rw [e] at hn; cases hn
      · exact ⟨r, d, by rw [e]; simp⟩
    have h1 := ih (cs := r) (fun c hc => h c (List.mem_append_left _ hc)) (by simpa using hn)
    have h2 := h d (by simp)
    rw [digitsVal_snoc, Nat.pow_succ]
    omega
theorem dg_head {m c : Nat} {r : List Nat} (h : dg m = c :: r) : r = [] ∨ 49 ≤ c := by
  by_cases e : r = []
  · exact .inl e
  · right
    have ha := dg_all m
    rw [h] at ha
    have h1 := ha.head
    by_cases c0 : c = 48
    · exfalso
      subst c0
      have hv := dg_val m
      rw [h, digitsVal_zero] at hv
      have lt := digitsVal_lt ha.tail
      rw [hv] at lt
      have hl := (dg_len (m := m) (k := r.length) (List.length_pos_iff.mpr e)).mpr lt
      rw [h] at hl
      have hl' : r.length + 1 ≤ r.length := hl
      omega
    · omega
noncomputable def isN (w : Str) (n : Int) : Prop := w = nT n ∧ lng n = false
theorem isN.uniq {w : Str} {n m : Int} (h : isN w n) (g : isN w m) : n = m := nT_inj (h.1.symm.trans g.1)
theorem lng_dg {n : Int} : lng n = false ↔ (dg n.natAbs).length ≤ 100 := by
  rw [dg_len (by decide)]
  unfold lng
  rw [decide_eq_false_iff_not]
  omega
theorem fig_yes {w : Str} {n : Int} (h : isN w n) (n0 : 0 ≤ n) : AllDigits w.cps.toList ∧ 1 ≤ w.length ∧ w.length ≤ 100 ∧ (w.length = 1 ∨ w.cps.toList.head? ≠ some 48) := by
  have e : w.cps.toList = dg n.toNat := by rw [h.1, nT_nat n0]
  have l : w.length = (dg n.toNat).length := by rw [len_signs, e]
  have l2 := lng_dg.mp h.2
  rw [show n.natAbs = n.toNat by omega] at l2
  refine ⟨by rw [e]; exact dg_all _, by rw [l]; exact dg_pos _, by omega, ?_⟩
  cases hd : dg n.toNat with
  | nil => exact absurd hd (dg_ne _)
  | cons c r =>
    rcases dg_head hd with z | z
    · left; rw [l, hd, z]; rfl
    · right
      rw [e, hd]
      intro y
      injection y with y
      omega
theorem isN.read {w : Str} {n : Int} (h : isN w n) : PySem.intText? w = some n := by
  rw [h.1]
  have := short_nT h.2
  exact nT_read (by omega)
theorem isN.neg {w : Str} {n : Int} (h : isN w n) : w.cps.toList.head? = some 45 ↔ n < 0 := by
  rw [h.1, nT_signs]
  unfold nS
  by_cases c : n < 0
  · rw [if_pos c]
    exact ⟨fun _ => c, fun _ => rfl⟩
  · rw [if_neg c]
    refine ⟨fun z => ?_, fun z => absurd z c⟩
    exfalso
    cases hd : dg n.natAbs with
    | nil => exact dg_ne _ hd
    | cons d r =>
      have ha := dg_all n.natAbs
      rw [hd] at z ha
      injection z with z
      have := ha.head
      omega
noncomputable def fgS (w : Str) : Str := if w.cps.toList.head? = some 45 then dropS w 1 else w
theorem isN.figs {w : Str} {n : Int} (h : isN w n) : isN (fgS w) ((n.natAbs : Nat) : Int) := by
  have l : lng ((n.natAbs : Nat) : Int) = false := by
    have := h.2
    unfold lng at *
    rw [Int.natAbs_natCast]
    exact this
  refine ⟨?_, l⟩
  unfold fgS
  by_cases c : n < 0
  · rw [if_pos (h.neg.mpr c), h.1]
    refine str_ext ?_
    show ((nT n).cps.toList.drop 1).toArray.toList = _
    rw [List.toList_toArray, nT_signs, nT_nat (by omega), Int.toNat_natCast]
    unfold nS
    rw [if_pos c]
    rfl
  · rw [if_neg (fun z => c (h.neg.mp z)), h.1]
    congr 1
    omega
theorem whole_int {w : Str} (h : AllDigits (fgS w).cps.toList) (h1 : 1 ≤ (fgS w).length) (h2 : (fgS w).length ≤ 100) : ∃ m, PySem.intText? w = some m ∧ w.length ≤ 101 ∧ lng m = false := by
  have hn : (fgS w).cps.toList ≠ [] := fun e => by
    rw [len_signs, e] at h1
    exact absurd h1 (by decide)
  unfold fgS at h h1 h2 hn
  by_cases c : w.cps.toList.head? = some 45
  · rw [if_pos c] at h h1 h2 hn
    obtain ⟨r, hr⟩ : ∃ r, w.cps.toList = 45 :: r := by
      cases e : w.cps.toList with
      | nil => rw [e] at c; cases c
      | cons d r =>
        rw [e] at c
        injection c with c
        exact ⟨r, by rw [c]⟩
    have er : (dropS w 1).cps.toList = r := by
      show (w.cps.toList.drop 1).toArray.toList = r
      rw [List.toList_toArray, hr]
      rfl
    rw [er] at h hn
    rw [len_signs, er] at h1 h2
    have hl : w.length = r.length + 1 := by rw [len_signs, hr]; rfl
    refine ⟨_, intText_neg hr h hn (by omega), by omega, ?_⟩
    refine lng_dg.mpr ?_
    have lt := digitsVal_lt h
    have : digitsVal r < 10 ^ 100 := Nat.lt_of_lt_of_le lt (Nat.pow_le_pow_right (by decide) h2)
    rw [dg_len (by decide)]
    omega
  · rw [if_neg c] at h h1 h2 hn
    refine ⟨_, intText_digits h hn (by omega), by omega, ?_⟩
    refine lng_dg.mpr ?_
    have lt := digitsVal_lt h
    rw [← len_signs] at lt
    have : digitsVal w.cps.toList < 10 ^ 100 := Nat.lt_of_lt_of_le lt (Nat.pow_le_pow_right (by decide) h2)
    rw [dg_len (by decide)]
    omega
noncomputable def isF (w : Str) (q : Rat) : Prop := w = frT q ∧ shF q
theorem one_two {α : Type} (ps : List α) (h : 1 ≤ ps.length) : (∃ p, ps = [p]) ∨ (∃ p r, ps = [p, r]) ∨ 3 ≤ ps.length := by
  match ps with
  | [] => simp at h
  | [p] => exact .inl ⟨p, rfl⟩
  | [p, r] => exact .inr (.inl ⟨p, r, rfl⟩)
  | _ :: _ :: _ :: _ => exact .inr (.inr (by simp))
theorem isF.split {w : Str} {q : Rat} (h : isF w q) : Txt.split w (Str.ofString "/") = frP q := by rw [h.1]; exact split_frT q
theorem isF_one {w p : Str} (hs : Txt.split w (Str.ofString "/") = [p]) {q : Rat} : isF w q ↔ ((q.den : Nat) : Int) = 1 ∧ isN p q.num := by
  have hj : w = p := by
    have z := StrLaws.join_split w (Str.ofString "/")
    rw [hs] at z
    exact z.symm
  constructor
  · intro h
    have e := h.split
    rw [hs] at e
    unfold frP at e
    by_cases c : ((q.den : Nat) : Int) = 1
    · rw [if_pos c] at e
      injection e with e _
      exact ⟨c, e, h.2.1⟩
    · rw [if_neg c] at e
      injection e with _ e
      cases e
  · rintro ⟨c, h1, h2⟩
    refine ⟨?_, h2, ?_⟩
    · unfold frT frP
      rw [if_pos c, hj, h1]
      rfl
    · rw [c]
      decide +kernel
theorem isF_two {w p r : Str} (hs : Txt.split w (Str.ofString "/") = [p, r]) {q : Rat} : isF w q ↔ ((q.den : Nat) : Int) ≠ 1 ∧ isN p q.num ∧ isN r ((q.den : Nat) : Int) := by
  have hj : w = Str.join (Str.ofString "/") [p, r] := by
    have z := StrLaws.join_split w (Str.ofString "/")
    rw [hs] at z
    exact z.symm
  constructor
  · intro h
    have e := h.split
    rw [hs] at e
    unfold frP at e
    by_cases c : ((q.den : Nat) : Int) = 1
    · rw [if_pos c] at e
      injection e with _ e
      cases e
    · rw [if_neg c] at e
      injection e with e1 e
      injection e with e2 _
      exact ⟨c, ⟨e1, h.2.1⟩, ⟨e2, h.2.2⟩⟩
  · rintro ⟨c, ⟨h1, h2⟩, ⟨h3, h4⟩⟩
    refine ⟨?_, h2, h4⟩
    unfold frT frP
    rw [if_neg c, hj, h1, h3]
theorem isF_more {w : Str} (h : 3 ≤ (Txt.split w (Str.ofString "/")).length) {q : Rat} : ¬ isF w q := fun z => by
  rw [z.split] at h
  unfold frP at h
  split at h
  · exact absurd h (by show ¬ 3 ≤ 1; decide)
  · exact absurd h (by show ¬ 3 ≤ 2; decide)
theorem isF.uniq {w : Str} {q q' : Rat} (h : isF w q) (g : isF w q') : q = q' := by
  have e : frP q = frP q' := h.split.symm.trans g.split
  unfold frP at e
  by_cases c : ((q.den : Nat) : Int) = 1
  · by_cases d : ((q'.den : Nat) : Int) = 1
    · rw [if_pos c, if_pos d] at e
      injection e with e _
      exact Rat.ext (nT_inj e) (by omega)
    · rw [if_pos c, if_neg d] at e
      injection e with _ e
      cases e
  · by_cases d : ((q'.den : Nat) : Int) = 1
    · rw [if_neg c, if_pos d] at e
      injection e with _ e
      cases e
    · rw [if_neg c, if_neg d] at e
      injection e with e1 e
      injection e with e2 _
      exact Rat.ext (nT_inj e1) (by have := nT_inj e2; omega)
noncomputable def dgB (c : Nat) : Bool := decide (48 ≤ c ∧ c ≤ 57)
theorem in_figs (c : Nat) : (!(Builtin.Str.occurrences (Str.ofString "0123456789") ⟨#[c]⟩ 0 (Str.ofString "0123456789").length 1).isEmpty) = dgB c := by
  rw [StrLaws.found_one, figs_signs]
  unfold dgB
  refine decide_eq_decide.mpr ?_
  simp only [List.mem_cons, List.not_mem_nil, or_false]
  omega
theorem all_figs {cs : List Nat} : (cs.map dgB).all id = true ↔ AllDigits cs := by
  rw [List.all_map, List.all_eq_true]
  unfold AllDigits dgB
  simp
theorem starts_minus (w : Str) : Txt.startswith w (Str.ofString "-") = decide (w.cps.toList.head? = some 45) := by
  unfold Txt.startswith
  rw [StrLaws.subAt_eq, sep_minus, len_signs w, len_signs]
  cases w.cps.toList with
  | nil => rfl
  | cons c r =>
    by_cases h : c = 45
    · subst h
      simp
    · have : decide ((c :: r).head? = some 45) = false := decide_eq_false (by simp [h])
      rw [this]
      simp
      omega
theorem drop_len (w : Str) (a : Nat) : (dropS w a).length ≤ w.length := by
  rw [len_signs, len_signs]
  show (w.cps.toList.drop a).toArray.toList.length ≤ _
  rw [List.toList_toArray, List.length_drop]
  omega
theorem fgS_len (w : Str) : (fgS w).length ≤ w.length := by
  unfold fgS
  split
  · exact drop_len w 1
  · exact Nat.le_refl _
theorem split_len {w : Str} {c : Nat} {p : Str} (h : p ∈ Txt.split w ⟨#[c]⟩) : p.length ≤ w.length := by
  have key : ∀ {ps : List Str}, p ∈ ps → p.length ≤ (Str.join ⟨#[c]⟩ ps).length := fun {ps} => by
    induction ps with
    | nil => intro h; cases h
    | cons q ps ih =>
      intro h
      cases ps with
      | nil =>
        rcases List.mem_cons.mp h with rfl | h
        · exact Nat.le_refl _
        · cases h
      | cons q2 ps =>
        rw [len_signs (Str.join _ _), join_signs_cons, List.length_append, List.length_append]
        rcases List.mem_cons.mp h with rfl | h
        · rw [len_signs]; omega
        · have := ih h
          rw [len_signs (Str.join _ _)] at this
          omega
  have z := key h
  rwa [StrLaws.join_split] at z
theorem split_many {w : Str} {c : Nat} : (Txt.split w ⟨#[c]⟩).length ≤ w.length + 1 := by
  have key : ∀ ps : List Str, ps.length ≤ (Str.join ⟨#[c]⟩ ps).length + 1 := fun ps => by
    induction ps with
    | nil => exact Nat.zero_le _
    | cons q ps ih =>
      cases ps with
      | nil => simp
      | cons q2 ps =>
        rw [len_signs (Str.join _ _), join_signs_cons, List.length_append, List.length_append]
        rw [len_signs (Str.join _ _)] at ih
        simp only [List.length_cons, List.length_nil] at ih ⊢
        omega
  have z := key (Txt.split w ⟨#[c]⟩)
  rwa [StrLaws.join_split] at z
section
variable {X : Cx}
end
noncomputable def RdN (z : Str) (v : V) : Prop := (∃ n, isN z n ∧ v = .int n) ∨ ((¬ ∃ n, isN z n) ∧ v = .non)
noncomputable def RdF (K : PySem.W.Frag) (H : Hp) (z : Str) (v : V) : Prop := (∃ q p, isF z q ∧ v = .ref p ∧ FH H p q) ∨ ((¬ ∃ q, isF z q) ∧ FracC K H v false)
theorem kit_non_tuple {K : PySem.W.Frag} : PySem.W.kitOne K (.type "NoneType") (.type "tuple") = some false := by with_unfolding_all rfl
theorem fracC_non {K : PySem.W.Frag} {H : Hp} : FracC K H .non false := .inl ⟨rfl, _, .non, kit_non_tuple⟩
theorem whN_non {K : PySem.W.Frag} {H : Hp} : WhN K H .non := ⟨_, _, _, .non, kit_non_int, kit_non_bool, rfl⟩
theorem fhFrac {K : PySem.W.Frag} {H : Hp} {p : Addr} {x : Rat} (h : FH H p x) (d : FB 3000 x) : FracC K H (.ref p) true := by
  refine .inr (.inr (.inr ⟨p, x.num, ((x.den : Nat) : Int), rfl, h, d.1, d.2, ?_⟩))
  have dp := q_pos x
  have g : Int.gcd x.num ((x.den : Nat) : Int) = 1 := by
    have := x.reduced
    unfold Nat.Coprime at this
    exact this
  rw [decide_eq_true (show (1 : Int) ≤ ((x.den : Nat) : Int) by omega), g]
  rfl
theorem sh_bits {q : Rat} (h : shF q) : FB 900 q := by
  have e : (10 : Nat) ^ 100 ≤ 2 ^ 333 := by decide +kernel
  have l : ∀ {i : Int}, lng i = false → Bd 900 i := fun {i} hi => by
    unfold lng at hi
    have hi' := of_decide_eq_false hi
    have : Bd 333 i := by
      unfold Bd
      omega
    exact this.mono (by decide)
  exact ⟨l h.1, l h.2⟩
theorem lng_small {i : Int} (h1 : 1 ≤ i) (h2 : i ≤ 1000) : lng i = false := by
  unfold lng
  refine decide_eq_false ?_
  have e : (1000 : Nat) < 10 ^ 100 := by decide
  omega
end Kw
set_option Elab.async false
set_option linter.all false
set_option maxRecDepth 100000
set_option maxHeartbeats 4000000
namespace Kw
open PySem PySem.Spec PyProof.Rows L2
noncomputable def mthAt (s : Stmt) (j : Nat) : Stmt := match s with
  | .ClassDef _ _ _ b _ _ _ _ _ _ _ => b.getD j (.Pass ⟨0, 0, 0, 0⟩)
  | _ => .Pass ⟨0, 0, 0, 0⟩
noncomputable def DfM (K : PySem.W.Frag) (C : Addr) (m qual : Str) (st : Stmt) (ps : List Str) : Prop :=
  ∃ (f : Addr) (oc : Value) (od : Option Addr) (kV doc pm : Value) (an : Option Addr) (cdv ct : Value) (osl : Array (Option Value)),
    K.lookup f = some ⟨oc, od, .func (PySem.W.fnOf m qual (defArgs st) (defBody st) (defScope st) .none kV doc pm an cdv ct), osl⟩ ∧ PySem.W.codeIn K cdv qual = true ∧ Meth K C m f ∧
    Binds K (PySem.W.fnOf m qual (defArgs st) (defBody st) (defScope st) .none kV doc pm an cdv ct) ps []
noncomputable def FnM (P : Program) (w : World) (K : PySem.W.Frag) (mg : Str → Option Value) (base : Heap) (k : Nat) (C : Addr) (m : Str) (ps : List Str) (sp : Sp) : Prop :=
  ∃ f fd, FnOk P w K mg base (CXE P w) k f fd ps sp ∧ Meth K C m f ∧ Binds K fd ps []
section
variable {P : Program} {w : World} {K : PySem.W.Frag} {mg : Str → Option Value} {base : Heap} {C : Addr} {m qual : Str} {st : Stmt} {N ps : List Str} {k : Nat} {sp : Sp}
theorem DfM.ok0 (D : DfM K C m qual st ps) (S : FnScope N ps (defScope st)) (len : ∀ vs H Q E, sp vs H Q E → vs.length = ps.length)
    (hbody : ∀ (f : Addr) (cdv : Value) (A : Around) (outer : List Env) (s : Shared) (H : Hp) (vs : List V) (Q : VK) (E : XK), Room k (A.deeper (envOfC qual (defScope st) s.heap.objs.size f cdv)) → sp vs H Q E →
      ∃ t, PSs (cxOf (CXE P w) P w K mg base N qual (defScope st) f cdv A outer s H E).nox (defBody st) t ∧ t { nx := fun _ H' => Q .non H', rt := Q } (start N vs) H) : FnM P w K mg base (k + 1) C m ps sp := by
  obtain ⟨f, oc, od, kV, doc, pm, an, cdv, ct, osl, lk, hcd, M, bd⟩ := D
  refine ⟨f, _, fn_of lk hcd S len fun A outer s H vs Q E hr hsp => ?_, M, bd⟩
  obtain ⟨t, h, q⟩ := hbody f cdv A outer s H vs Q E hr hsp
  exact ⟨t, h.nox, q⟩
theorem DfM.okX (D : DfM K C m qual st ps) (S : FnScope N ps (defScope st)) (len : ∀ vs H Q E, sp vs H Q E → vs.length = ps.length)
    (hbody : ∀ (f : Addr) (cdv : Value) (A : Around) (outer : List Env) (s : Shared) (H : Hp) (vs : List V) (Q : VK) (E : XK), Room k (A.deeper (envOfC qual (defScope st) s.heap.objs.size f cdv)) → sp vs H Q E →
      ∃ t, PSs (cxOf (CXE P w) P w K mg base N qual (defScope st) f cdv A outer s H E) (defBody st) t ∧ t { nx := fun _ H' => Q .non H', rt := Q } (start N vs) H) : FnM P w K mg base (k + 1) C m ps sp := by
  obtain ⟨f, oc, od, kV, doc, pm, an, cdv, ct, osl, lk, hcd, M, bd⟩ := D
  exact ⟨f, _, fn_of lk hcd S len fun A outer s H vs Q E hr hsp => hbody f cdv A outer s H vs Q E hr hsp, M, bd⟩
theorem dfm_mk {f : Addr} {od an : Option Addr} {sl : Array (Option Value)} {oc kV dc pm cd ct : Value} (i : PySem.W.findIn K (.ref C) m = some (some (.ref f)))
    (t : PySem.W.isFn K (.ref f) = true) (l : K.lookup f = some ⟨oc, od, .func (PySem.W.fnOf m qual (defArgs st) (defBody st) (defScope st) .none kV dc pm an cd ct), sl⟩) (q : PySem.W.codeIn K cd qual = true) (kp : PySem.W.keepIn K (.ref f) = true)
    (b : ∀ us : List Value, us.length = ps.length → bindArgs (PySem.W.fnOf m qual (defArgs st) (defBody st) (defScope st) .none kV dc pm an cd ct) ⟨us, []⟩ = pure (ps.zip us)) : DfM K C m qual st ps :=
  ⟨f, oc, od, kV, dc, pm, an, cd, ct, sl, l, q, ⟨i, t, kp⟩, .all b⟩
end
section
variable {X : Cx} {k k' : Nat} {C : Addr} {m x f : Str} {ps : List Str} {sp : Sp} {E : XK} {p pos apos pos' tpos : Pos} {o e value : Expr} {es : List Expr} {t : TA} {ta tv : TE}
theorem pe_mt {pl : Sem Bool} (c : Cls X.K C) (F : FnM X.prog X.w X.K X.mg X.base k C m ps sp) (hk : k ≤ k') (hr : Room k' X.A) (hx : Passes (CXE X.prog X.w) X E) (he : PE X o ta) (ha : PA X (e :: es) t)
    (hst : starEach (e :: es) X.env = (false, eval e X.env) :: starEach es X.env := by rfl) (hpl : (backTo pos (starEach es X.env)).any (·.1) = false := by rfl)
    (ht : eval (.Call (.Attribute o m apos) (e :: es) [] pos) X.env = (do
      let ov ← eval o X.env
      standAt apos.atName
      let (f, first) ← holding [ov] (getMethod ov m pl)
      callWith pos f first (backTo pos (starEach (e :: es) X.env)) (backToKw pos (keywordEach [] X.env))) := by rfl) :
    PE X (.Call (.Attribute o m apos) (e :: es) [] pos) (tMeth C m sp [] E ta t) := by
  obtain ⟨f, fd, G, hm, bd⟩ := F
  exact pe_meth he c hm G (hr.mono hk) bd .nil hx ha hst hpl ht
noncomputable def tFldC (C : Addr) (ta : TE) (f : Str) : TE := fun σ H Q => ta σ H fun x H1 => ∃ a dx fs v, x = .ref a ∧ H1 a = some (.ins C dx fs) ∧ fs.lookup f = some v ∧ Q v H1
theorem pe_fldC (c : Cls X.K C) (n : NoAttr X.K C f) (he : PE X e ta) (hb : attributeBase e f X.env (eval e X.env) = eval e X.env := by rfl) : PE X (.Attribute e f pos) (tFldC C ta f) := by
  intro pins s σ H Q I h
  refine attr_of hb (thn (he pins s σ H _ I h) fun u s1 zz => ?_)
  obtain ⟨x, H1, I1, rx, a, dx, fs, v, ex, ea, l, q⟩ := zz
  subst ex
  obtain rfl : u = Value.ref a := rx
  exact getattr_ok I1 ea c n l fun u' s2 I2 ru => ⟨v, H1, I2, ru, q⟩
noncomputable def sFldC (C : Addr) (ta tv : TE) (f : Str) : TS := fun D σ H => tv σ H fun y H1 => ta σ H1 fun x H2 => ∃ a dx fs, x = .ref a ∧ H2 a = some (.ins C dx fs) ∧ fs.length < 1000 ∧
  D.nx σ (upd H2 a (.ins C dx (putF f y fs)))
theorem ps_fldC (c : Cls X.K C) (n : NoAttr X.K C f) (ha : PE X o ta) (hv : PE X value tv) (hs : swapsWith value (some (.Attribute o f pos')) pos.line X.env = pure false := by rfl) : PS X (.Assign [.Attribute o f pos'] value pos) (sFldC C ta tv f) := by
  intro pins s σ H D I h
  refine plainObj_wpAny_Assign_Attribute (thn (hv pins s σ H _ I h) fun u s1 ⟨y, H1, I1, ry, q⟩ => thn (ha pins s1 σ H1 _ I1 q) fun ov s2 ⟨x, H2, I2, rx, a, dx, fs, ex, ea, l, q2⟩ => ?_) hs
  subst ex
  obtain rfl : ov = Value.ref a := rx
  exact setattr_ok I2 ea c n l ry fun s3 I3 => ⟨σ, _, I3, q2⟩
end
noncomputable def Buts (as : List Addr) (H H' : Hp) : Prop := ∀ a o, a ∉ as → H a = some o → H' a = some o
section
variable {K : PySem.W.Frag} {H H1 H2 : Hp} {as : List Addr}
theorem Buts.one {b : Addr} (x : But b H H1) (h : b ∈ as) : Buts as H H1 := fun a o n q => x a o (fun e => n (e ▸ h)) q
noncomputable def NoT (as : List Addr) (H : Hp) : Prop := ∀ a ∈ as, (∀ ys, H a ≠ some (.tup ys)) ∧ ∀ o ys, H a ≠ some (.frz o (.tup ys))
theorem Buts.tup {p : Addr} {xs : List V} (x : Buts as H H1) (n : NoT as H) (h : SqT K H p xs) : SqT K H1 p xs := by
  rcases h with (h | ⟨ob, h⟩) | h
  · exact .inl (.inl (x _ _ (fun m => (n _ m).1 _ h) h))
  · exact .inl (.inr ⟨ob, x _ _ (fun m => (n _ m).2 _ _ h) h⟩)
  · exact .inr h
theorem BdQ.buts {n : Nat} {v : V} {b : Rat × Rat × Int} (x : Buts as H H1) (nt : NoT as H) (z : BdQ K H n v b) : BdQ K H1 n v b := by
  obtain ⟨p, a, c, e, h1, h2, h3, r⟩ := z
  exact ⟨p, a, c, e, x.tup nt h1, x.tup nt h2, x.tup nt h3, r⟩
theorem Buts.bds {n : Nat} {xs : List V} {bs : List (Rat × Rat × Int)} (x : Buts as H H1) (nt : NoT as H) (h : Al2 (BdQ K H n) xs bs) : Al2 (BdQ K H1 n) xs bs := Al2.imp (fun _ _ z => z.buts x nt) h
theorem NoT.nil : NoT [] H := fun _ h => nomatch h
theorem NoT.lst {a : Addr} {xs : List V} (h : H a = some (.lst xs)) (r : NoT as H) : NoT (a :: as) H := fun b hb => by
  rcases List.mem_cons.mp hb with rfl | hb
  · rw [h]
    exact ⟨fun _ z => (nomatch z), fun _ _ z => (nomatch z)⟩
  · exact r b hb
theorem NoT.ins {a C dx : Addr} {fs : List (Str × V)} (h : H a = some (.ins C dx fs)) (r : NoT as H) : NoT (a :: as) H := fun b hb => by
  rcases List.mem_cons.mp hb with rfl | hb
  · rw [h]
    exact ⟨fun _ z => (nomatch z), fun _ _ z => (nomatch z)⟩
  · exact r b hb
theorem Buts.fresh (s : Same H H1) (x : Buts as H1 H2) (n : ∀ a ∈ as, H a = none) : Same H H2 := fun a o h => x a o (fun m => by rw [n a m] at h; cases h) (s a o h)
end
end Kw
set_option Elab.async false
set_option linter.all false
set_option maxRecDepth 100000
set_option maxHeartbeats 4000000
namespace Kw
open PySem PySem.Spec PyProof.Rows L2
section
variable {X : Cx}
noncomputable def rPart : V → List V → Hp → VK → Prop := fun x vs H Q => ∃ a b, x = .str a ∧ vs = [.str b] ∧ (b.length == 0) = false ∧ a.length ≤ 100000 ∧ ∀ p, H p = none → Q (.ref p) (upd H p (.tup [.str (Txt.partition a b).1, .str (Txt.partition a b).2.1, .str (Txt.partition a b).2.2]))
theorem mt_part : MtR X "str.partition" rPart := by
  intro pins s σ H x vs v us Q I rx rv h
  obtain ⟨a, b, rfl, rfl, hb, hl, q⟩ := h
  obtain ⟨t, rfl⟩ := rx
  obtain ⟨u, rfl, t', rfl⟩ := vals1 rv
  have hz : a.length ≤ sizeLine := by rw [sizeLine_eq]; omega
  refine call_meets F.slot_str_partition (typeIs_str _ _ _) F.entry_str_partition (F.args_str_partition_2 _ _) (meets_str_partition a b t t' hb hz) ?_
  have fin : ∀ (z1 z2 z3 : Str) (k1 k2 k3 : Tok) (k : Nat), Txt.partition a b = (z1, z2, z3) → EP X pins σ Q (.ref s.heap.objs.size) { s with heap := s.heap.push { cls := .type "tuple", data := .seq [.str z1 k1, .str z2 k2, .str z3 k3].toArray }, toks := k } := fun z1 z2 z3 k1 k2 k3 k e => by
    have z := q s.heap.objs.size (I.hok.fresh (Nat.le_refl _))
    rw [e] at z
    exact ⟨.ref s.heap.objs.size, _, I.laid (t' := k) (o := .tup [.str z1, .str z2, .str z3]) (fun b ob q => Heap.get?_push_of_some _ q) (Nat.le_refl _) ⟨by show 3 ≤ sizeLine; decide, [.str z1 k1, .str z2 k2, .str z3 k3], .cons ⟨_, rfl⟩ (.cons ⟨_, rfl⟩ (.cons ⟨_, rfl⟩ .nil)), _, Heap.get?_push_size _ rfl, rfl, 0, rfl⟩, rfl, z⟩
  show wants _ _ _ _
  cases e : Builtin.Str.occurrences a b 0 a.length 1 with
  | nil => exact fin a Str.empty Str.empty _ _ _ _ (by unfold Txt.partition; rw [e])
  | cons i r => exact fin _ _ _ _ _ _ _ (by unfold Txt.partition; rw [e])
noncomputable def DkAt (K : PySem.W.Frag) (w : World) (D : Addr) (z : Str) (o : Option Value) : Prop := ∃ (es : Array DictEntry) (n : Nat), K.lookup D = some ⟨.type "dict", none, .dict es n, #[]⟩ ∧ PySem.W.KeysLit w.params es.toList ∧ (D == sysModules) = false ∧ findBy Value.isStrOf es z = o
noncomputable def rNotInK (K : PySem.W.Frag) (w : World) : V → V → Hp → VK → Prop := fun x y H Q => ∃ z D o, x = .str z ∧ y = .ref D ∧ DkAt K w D z o ∧ Q (.bl (!o.isSome)) H
theorem op_notInK {K : PySem.W.Frag} {w : World} (hK : X.K = K) (hw : X.w = w) : OpR X (compareOp .NotIn) (rNotInK K w) := by
  subst hK hw
  intro pins s σ H x y v u Q I rx ry h
  obtain ⟨z, D, o, rfl, rfl, ⟨es, n, hl, hk, hd, hf⟩, q⟩ := h
  obtain ⟨t, rfl⟩ := rx
  cases ry
  refine wpAny_notIn_of (strKind_is X.prog X.w z t) hd (PySem.W.mapOf_K (prog := X.prog) I.kIn hl hk) ?_
  rw [hf]
  exact ⟨.bl (!o.isSome), H, I.tok _, rfl, q⟩
noncomputable def rIxK (K : PySem.W.Frag) (w : World) : V → V → Hp → VK → Prop := fun x y H Q => ∃ z D p, x = .ref D ∧ y = .str z ∧ DkAt K w D z (some (.ref p)) ∧ Q (.ref p) H
theorem ix_dictK {K : PySem.W.Frag} {w : World} (hK : X.K = K) (hw : X.w = w) : IxR X (rIxK K w) := by
  subst hK hw
  intro value slice pins s σ H x y v u Q I rx ry h hs
  obtain ⟨z, D, p, rfl, rfl, ⟨es, n, hl, hk, hd, hf⟩, q⟩ := h
  cases rx
  obtain ⟨t, rfl⟩ := ry
  have hm := PySem.W.mapOf_K (prog := X.prog) I.kIn hl hk
  exact tail_any hm.typeIs PySem.F.slot_dict_getitem.lookup (wpAny_getItem_of (strKind_is X.prog X.w z t) hm hf ⟨.ref p, H, I.tok _, rfl, q⟩) hs
noncomputable def rCountD (K : PySem.W.Frag) : V → List V → Hp → VK → Prop := fun x vs H Q => ∃ (l : Addr) (xs : List V) (v : V) (ds : List PyData) (d : PyData), x = .ref l ∧ vs = [v] ∧ H l = some (.lst xs) ∧ Dps K H xs ds ∧ Dp K H v d ∧ PyData.canLayAll0 ds = true ∧ d.canLay0 = true ∧ min (PyData.depthAll ds) d.depth ≤ 60 ∧ Q (.int ((ds.countP fun z => PyData.eqv z d : Nat) : Int)) H
theorem mt_countD {K : PySem.W.Frag} (hK : X.K = K) (hu : X.A.units + 100 < cLine) : MtR X "list.count" (rCountD K) := by
  subst hK
  intro pins s σ H x vs v us Q I rx rv h
  obtain ⟨l, xs, v', ds, d, rfl, rfl, hl, al, dv, c1, c2, dep, k⟩ := h
  obtain ⟨u, rfl, ru⟩ := rv.one
  obtain ⟨as, ra⟩ := dv.reads I ru
  obtain ⟨bs, rb⟩ := (Dp.lst (SqL.of hl) al).reads I rx
  cases rx
  obtain ⟨z, its, m, r, hl', e⟩ := I.lstM hl
  cases rb with
  | list h1 h2 h3 h4 =>
    rename_i o arr nn as'
    have eo := e.symm.trans h1
    cases eo
    cases h3
    refine call_meets PySem.F.slot_list_count ⟨_, e, rfl⟩ PySem.F.entry_list_count (PySem.F.args_list_count_2 _ _) (PySem.SeqAt.list_countAt l its.toArray m none #[] u fun y => PyData.eqv (PySem.SeqAt.readOf s.heap y) d) ⟨e, ?_, ?_⟩
    · exact PySem.SeqAt.items_eqAt h4 ra c1 c2 (by show _ + 1 + min _ _ < cLine; omega)
    · refine ⟨.int ((ds.countP fun z => PyData.eqv z d : Nat) : Int), H, I.tok _, ?_, k⟩
      have ec : (its.toArray.toList.countP fun y => PyData.eqv (PySem.SeqAt.readOf s.heap y) d) = ds.countP fun z => PyData.eqv z d := by
        rw [← PySem.SeqAt.readsAll_map _ _ _ c1 h4, List.countP_map]
        rfl
      rw [ec]
      exact ⟨_, rfl⟩
noncomputable def rIndexD (K : PySem.W.Frag) : V → List V → Hp → VK → Prop := fun x vs H Q => ∃ (l : Addr) (xs : List V) (v : V) (ds : List PyData) (d : PyData) (j : Nat) (dj : PyData), x = .ref l ∧ vs = [v] ∧ H l = some (.lst xs) ∧ Dps K H xs ds ∧ Dp K H v d ∧ PyData.canLayAll0 ds = true ∧ d.canLay0 = true ∧ min (PyData.depthAll ds) d.depth ≤ 60 ∧ ds[j]? = some dj ∧ PyData.eqv dj d = true ∧ (∀ m z, m < j → ds[m]? = some z → PyData.eqv z d = false) ∧ j < 1000000 ∧ Q (.int (j : Int)) H
theorem mt_indexD {K : PySem.W.Frag} (hK : X.K = K) (hu : X.A.units + 100 < cLine) : MtR X "list.index" (rIndexD K) := by
  subst hK
  intro pins s σ H x vs v us Q I rx rv h
  obtain ⟨l, xs, v', ds, d, j, dj, rfl, rfl, hl, al, dv, c1, c2, dep, hj, ej, no, j6, k⟩ := h
  obtain ⟨u, rfl, ru⟩ := rv.one
  obtain ⟨as, ra⟩ := dv.reads I ru
  obtain ⟨bs, rb⟩ := (Dp.lst (SqL.of hl) al).reads I rx
  cases rx
  obtain ⟨z, its, m, r, hl', e⟩ := I.lstM hl
  cases rb with
  | list h1 h2 h3 h4 =>
    rename_i o arr nn as'
    have eo := e.symm.trans h1
    cases eo
    cases h3
    have em := PySem.SeqAt.readsAll_map _ _ _ c1 h4
    have ln : its.length = ds.length := by
      have := congrArg List.length em
      simpa using this
    have jl : j < ds.length := (List.getElem?_eq_some_iff.mp hj).1
    have at_ : ∀ (m : Nat) (hm : m < its.toArray.size), ds[m]? = some (PySem.SeqAt.readOf s.heap its.toArray[m]) := fun m hm => by
      have hm' : m < its.length := by simpa using hm
      rw [← em, List.getElem?_map]
      simp [hm']
    refine call_meets PySem.F.slot_list_index ⟨_, e, rfl⟩ PySem.F.entry_list_index (PySem.F.args_list_index_2 _ _)
      (PySem.SeqAt.list_indexAt l its.toArray m none #[] u (fun y => PyData.eqv (PySem.SeqAt.readOf s.heap y) d) j (by simpa [ln] using jl) (by omega) ?_ ?_) ⟨e, PySem.SeqAt.items_eqAt h4 ra c1 c2 (by show _ + 1 + min _ _ < cLine; omega), ⟨.int (j : Int), H, I.tok _, ⟨_, rfl⟩, k⟩⟩
    · have z := at_ j (by simpa [ln] using jl)
      rw [hj] at z
      injection z with z
      rw [← z]
      exact ej
    · intro m' hm' lt
      exact no m' _ lt (at_ m' hm')
end
theorem strSub_drop (x : Str) (i : Nat) : Builtin.Str.strSub x i x.length = dropS x i := str_ext (by
  rw [StrLaws.strSub_toList]
  show _ = (x.cps.toList.drop i).toArray.toList
  rw [List.toList_toArray, Kw.len_signs]
  exact List.take_of_length_le (by rw [List.length_drop]; exact Nat.le_refl _))
theorem part_none {x : Str} {c : Nat} (h : c ∉ x.cps.toList) : Txt.partition x ⟨#[c]⟩ = (x, Str.empty, Str.empty) := by
  unfold Txt.partition
  rcases StrLaws.occ_head x ⟨#[c]⟩ 1 (Nat.le_refl _) with ⟨e, _⟩ | ⟨i, r, e, ha, _⟩
  · rw [e]
  · exact absurd (List.mem_of_getElem? ((StrLaws.subAt_one x c i).mp ha)) h
theorem part_some {x u v : Str} {c : Nat} (hx : x = u ++ ⟨#[c]⟩ ++ v) (h : c ∉ u.cps.toList) : Txt.partition x ⟨#[c]⟩ = (u, ⟨#[c]⟩, v) := by
  have hs : x.cps.toList = u.cps.toList ++ c :: v.cps.toList := by
    rw [hx, signs_app, signs_app, List.append_assoc]
    rfl
  have at_u : x.cps.toList[u.cps.toList.length]? = some c := by
    rw [hs, List.getElem?_append_right (Nat.le_refl _), Nat.sub_self]
    rfl
  unfold Txt.partition
  rcases StrLaws.occ_head x ⟨#[c]⟩ 1 (Nat.le_refl _) with ⟨e, no⟩ | ⟨i, r, e, ha, no⟩
  · exact absurd ((StrLaws.subAt_one x c _).mpr at_u) (no _)
  · have hi := (StrLaws.subAt_one x c i).mp ha
    have ei : i = u.cps.toList.length := by
      rcases Nat.lt_trichotomy i u.cps.toList.length with l | l | l
      · rw [hs, List.getElem?_append_left l] at hi
        exact absurd (List.mem_of_getElem? hi) h
      · exact l
      · exact absurd ((StrLaws.subAt_one x c _).mpr at_u) (no _ l)
    rw [e]
    subst ei
    have e1 : Builtin.Str.strSub x 0 u.cps.toList.length = u := str_ext (by
      rw [StrLaws.strSub_toList, hs, List.drop_zero, Nat.sub_zero, List.take_left'] <;> rfl)
    have e2 : Builtin.Str.strSub x (u.cps.toList.length + (⟨#[c]⟩ : Str).length) x.length = v := by
      rw [strSub_drop]
      refine str_ext ?_
      show (x.cps.toList.drop _).toArray.toList = _
      rw [List.toList_toArray, hs]
      show (u.cps.toList ++ c :: v.cps.toList).drop (u.cps.toList.length + 1) = _
      rw [← List.drop_drop, List.drop_left' rfl]
      rfl
    dsimp only
    rw [e1, e2]
section
variable {X : Cx} {k k' : Nat} {C : Addr} {x : Str} {ps : List Str} {sp : Sp} {E : XK} {p pos : Pos}
theorem pe_mko0 (mk : PySem.W.makesIn X.K C = true) (kp : PySem.W.keepIn X.K (.ref C) = true) (F : FnM X.prog X.w X.K X.mg X.base k C "__init__" ps sp) (hk : k + 1 ≤ k') (hr : Room k' X.A) (hg : Gl X x) (hm : X.mg x = some (.ref C)) (hx : Passes (CXE X.prog X.w) X E)
    (hdb : (x == ("__debug__" : Str)) = false := by decide) : PE X (.Call (.Name x p) [] [] pos) (tMake C sp [] E tNil) := by
  obtain ⟨f, fd, G, hf, bd⟩ := F
  exact pe_make0 ⟨mk, hf.at_, hf.fn, kp⟩ G (hr.mono hk) hg hm bd .nil hx hdb
end
theorem pe_bmD {X : Cx} {K : PySem.W.Frag} {o e : Expr} {es : List Expr} {to : TE} {t : TA} {name : Str} {apos cpos : Pos} {T id : String} {r : V → List V → Hp → VK → Prop} (hK : X.K = K) (pa : PlainAttrs T) (slot : Slot T name id) (hty : typeOf (.builtin id) = pure (.type "method_descriptor")) (hm : MtR X id r) (ho : PE X o to) (ha : PA X (e :: es) t)
    (hbase : attributeBase o name X.env (eval o X.env) = eval o X.env := by rfl)
    (hfew : ((backTo cpos (starEach (e :: es) X.env)).all (fun x => !x.1) && (backToKw cpos (keywordEach [] X.env)).all (fun x => x.1.isSome)
      && decide ((e :: es).length + ([] : List Keyword).length + (if ([] : List Keyword).isEmpty then 0 else 1) < 30)) = true := by rfl)
    (hline : (apos.endLine == cpos.line) = true := by rfl) (hs : starEach (e :: es) X.env = (false, eval e X.env) :: starEach es X.env := by rfl) (hplain : (backTo cpos (starEach es X.env)).any (·.1) = false := by rfl) :
    PE X (.Call (.Attribute o name apos) (e :: es) [] cpos) (tBM K T r to t) := by
  subst hK
  exact pe_bm pa slot hty hm ho ha hbase hfew hline hs hplain
theorem pi_tupK {X : Cx} {K : PySem.W.Frag} {tg l : Expr} {tl : TE} (hK : X.K = K) (hl : PE X l tl) : PI X tg l (iTup K tl) := by
  subst hK
  exact pi_tup hl
end Kw
set_option Elab.async false
set_option linter.all false
set_option maxRecDepth 100000
set_option maxHeartbeats 4000000
namespace Kw
open PySem PySem.Spec PyProof.Rows L2
noncomputable def formL : List (String × List String) := [("body", ["fraction", "fraction", "number"]), ("clear", []), ("world", []), ("meet", ["number", "number"]), ("run", ["number"]), ("at", ["fraction"]), ("back", ["fraction"]), ("likes", ["fraction"]), ("round", ["length"]), ("wall", ["number"]), ("count", ["number", "number"]), ("stuck", []), ("clumps", ["fraction"])]
noncomputable def formOf (z : Str) : Option (List String) := (formL.find? fun r => decide (z = Str.ofString r.1)).map (·.2)
noncomputable def strV (k : String) : V := .str (Str.ofString k)
noncomputable def EnF (K : PySem.W.Frag) (e : DictEntry) (r : String × List String) : Prop := ∃ t p, e.key = .str (Str.ofString r.1) t ∧ e.val = .ref p ∧ ∀ H, SqT K H p (r.2.map strV)
inductive EnFs (K : PySem.W.Frag) : List DictEntry → List (String × List String) → Prop
  | nil : EnFs K [] []
  | cons {e r es rs} : EnF K e r → EnFs K es rs → EnFs K (e :: es) (r :: rs)
theorem enfs_find {K : PySem.W.Frag} (z : Str) : ∀ {es : List DictEntry} {rs : List (String × List String)}, EnFs K es rs →
    (∃ r p, rs.find? (fun r => decide (z = Str.ofString r.1)) = some r ∧ (es.find? fun e => Value.isStrOf z e.key).map (·.val) = some (.ref p) ∧ ∀ H, SqT K H p (r.2.map strV)) ∨
    (rs.find? (fun r => decide (z = Str.ofString r.1)) = none ∧ (es.find? fun e => Value.isStrOf z e.key).map (·.val) = none) := fun {es rs} h => by
  induction h with
  | nil => exact .inr ⟨rfl, rfl⟩
  | @cons e r es rs he hs ih =>
    obtain ⟨t, p, hk, hv, hq⟩ := he
    have ek : Value.isStrOf z e.key = decide (z = Str.ofString r.1) := by
      rw [hk]
      show (Str.ofString r.1 == z) = _
      exact Bool.eq_iff_iff.mpr ⟨fun q => decide_eq_true (eq_of_beq q).symm, fun q => beq_iff_eq.mpr (of_decide_eq_true q).symm⟩
    rw [List.find?_cons, List.find?_cons, ek]
    by_cases c : z = Str.ofString r.1
    · rw [decide_eq_true c]
      exact .inl ⟨r, p, rfl, by show some e.val = _; rw [hv], hq⟩
    · rw [decide_eq_false c]
      exact ih
noncomputable def FormsK (K : PySem.W.Frag) (w : World) (D : Addr) : Prop := ∀ z, (∃ ks p, formOf z = some ks ∧ DkAt K w D z (some (.ref p)) ∧ ∀ H, SqT K H p (ks.map strV)) ∨ (formOf z = none ∧ DkAt K w D z none)
theorem forms_ok {K : PySem.W.Frag} {w : World} {D : Addr} {es : List DictEntry} {n : Nat} (l : K.lookup D = some ⟨.type "dict", none, .dict es.toArray n, #[]⟩) (k : PySem.W.KeysLit w.params es) (d : (D == sysModules) = false) (h : EnFs K es formL) : FormsK K w D := fun z => by
  have fb : findBy Value.isStrOf es.toArray z = (es.find? fun e => Value.isStrOf z e.key).map (·.val) := by
    unfold findBy
    rw [List.find?_toArray]
  rcases enfs_find z h with ⟨r, p, h1, h2, h3⟩ | ⟨h1, h2⟩
  · exact .inl ⟨r.2, p, by unfold formOf; rw [h1]; rfl, ⟨es.toArray, n, l, by simpa using k, d, fb.trans h2⟩, h3⟩
  · exact .inr ⟨by unfold formOf; rw [h1]; rfl, ⟨es.toArray, n, l, by simpa using k, d, fb.trans h2⟩⟩
theorem sqt0 {K : PySem.W.Frag} {A : Addr} {o : Option Addr} {n : Nat} {sl : Array (Option Value)} (h : K.lookup A = some ⟨.type "tuple", o, .seq #[] n, sl⟩) : ∀ H, SqT K H A (([] : List String).map strV) := fun H =>
  .inr ⟨_, _, _, h, rfl, rfl, by show 0 ≤ sizeLine; decide, .nil⟩
theorem sqt1 {K : PySem.W.Frag} {A : Addr} {o : Option Addr} {a : String} {k1 : Tok} {n : Nat} {sl : Array (Option Value)} (h : K.lookup A = some ⟨.type "tuple", o, .seq #[.str (Str.ofString a) k1] n, sl⟩) : ∀ H, SqT K H A ([a].map strV) := fun H =>
  .inr ⟨_, _, _, h, rfl, rfl, by show 1 ≤ sizeLine; decide, .cons ⟨_, rfl⟩ .nil⟩
theorem sqt2 {K : PySem.W.Frag} {A : Addr} {o : Option Addr} {a b : String} {k1 k2 : Tok} {n : Nat} {sl : Array (Option Value)} (h : K.lookup A = some ⟨.type "tuple", o, .seq #[.str (Str.ofString a) k1, .str (Str.ofString b) k2] n, sl⟩) : ∀ H, SqT K H A ([a, b].map strV) := fun H =>
  .inr ⟨_, _, _, h, rfl, rfl, by show 2 ≤ sizeLine; decide, .cons ⟨_, rfl⟩ (.cons ⟨_, rfl⟩ .nil)⟩
theorem sqt3 {K : PySem.W.Frag} {A : Addr} {o : Option Addr} {a b c : String} {k1 k2 k3 : Tok} {n : Nat} {sl : Array (Option Value)} (h : K.lookup A = some ⟨.type "tuple", o, .seq #[.str (Str.ofString a) k1, .str (Str.ofString b) k2, .str (Str.ofString c) k3] n, sl⟩) : ∀ H, SqT K H A ([a, b, c].map strV) := fun H =>
  .inr ⟨_, _, _, h, rfl, rfl, by show 3 ≤ sizeLine; decide, .cons ⟨_, rfl⟩ (.cons ⟨_, rfl⟩ (.cons ⟨_, rfl⟩ .nil))⟩
noncomputable def tGlobF (K : PySem.W.Frag) (w : World) : TE := fun _ H Q => ∀ D, FormsK K w D → Q (.ref D) H
theorem pe_globF {X : Cx} {K : PySem.W.Frag} {w : World} {x : Str} {pos : Pos} (hK : X.K = K) (hw : X.w = w) (hg : Gl X x) (hm : ∃ D, X.mg x = some (.ref D) ∧ FormsK K w D) (hd : (x == ("__debug__" : Str)) = false := by decide) : PE X (.Name x pos) (tGlobF K w) := by
  obtain ⟨N, hm, hN⟩ := hm
  intro pins s σ H Q I h
  exact pe_glob hg hm (v := .ref N) rfl hd pins s σ H Q I (h N hN)
end Kw
set_option Elab.async false
set_option linter.all false
set_option maxRecDepth 100000
set_option maxHeartbeats 4000000
namespace Kw
open PySem PySem.Spec PyProof.Rows L2
noncomputable abbrev Bo := Rat × Rat × Int
noncomputable def lessB (bs : List Bo) (x : Rat) : List Bo := bs.filter fun a => decide (a.1 < x)
noncomputable def moreB (bs : List Bo) (x : Rat) : List Bo := bs.filter fun a => decide (x < a.1)
noncomputable def putB (bs : List Bo) (b : Bo) : List Bo := lessB bs b.1 ++ b :: moreB bs b.1
noncomputable def SpotQ (bs : List Bo) (x : Rat) (m : Nat) : Prop := m ≤ bs.length ∧ (∀ (i : Nat) (a : Bo), i < m → bs[i]? = some a → a.1 ≤ x) ∧ ∀ (i : Nat) (a : Bo), m ≤ i → bs[i]? = some a → x < a.1
theorem filter_all {p : Bo → Bool} : ∀ {l : List Bo}, (∀ a ∈ l, p a = true) → l.filter p = l := fun h => List.filter_eq_self.mpr h
theorem filter_no {p : Bo → Bool} : ∀ {l : List Bo}, (∀ a ∈ l, p a = false) → l.filter p = [] := fun h => List.filter_eq_nil_iff.mpr fun a ha => by rw [h a ha]; decide
theorem mem_take_lt {α : Type} {l : List α} {k : Nat} {a : α} (h : a ∈ l.take k) : ∃ i, i < k ∧ l[i]? = some a := by
  obtain ⟨i, hi⟩ := List.mem_iff_getElem?.mp h
  rw [List.getElem?_take] at hi
  split at hi
  · rename_i c
    exact ⟨i, c, hi⟩
  · cases hi
theorem mem_drop_ge {α : Type} {l : List α} {k : Nat} {a : α} (h : a ∈ l.drop k) : ∃ i, k ≤ i ∧ l[i]? = some a := by
  obtain ⟨i, hi⟩ := List.mem_iff_getElem?.mp h
  rw [List.getElem?_drop] at hi
  exact ⟨k + i, by omega, hi⟩
theorem asc_at {bs : List Bo} (h : Asc bs) {i j : Nat} {a b : Bo} (hi : bs[i]? = some a) (hj : bs[j]? = some b) (l : i < j) : a.1 < b.1 := by
  obtain ⟨i1, e1⟩ := List.getElem?_eq_some_iff.mp hi
  obtain ⟨j1, e2⟩ := List.getElem?_eq_some_iff.mp hj
  have := (List.pairwise_iff_getElem.mp h) i j i1 j1 l
  rw [e1, e2] at this
  exact this
theorem put_cases {bs : List Bo} {b : Bo} {m : Nat} (asc : Asc bs) (s : SpotQ bs b.1 m) :
    ((lessB bs b.1).length + (moreB bs b.1).length = bs.length ∧ bs.take m ++ b :: bs.drop m = putB bs b ∧ Asc (putB bs b)) ∨
    ((lessB bs b.1).length + (moreB bs b.1).length < bs.length ∧ m = (lessB bs b.1).length + 1 ∧ ∃ a, bs[m - 1]? = some a ∧ a.1 = b.1) := by
  obtain ⟨hm, lo, hi⟩ := s
  have eb : bs = bs.take m ++ bs.drop m := (List.take_append_drop m bs).symm
  have l2 : lessB (bs.drop m) b.1 = [] := filter_no fun a ha => by
    obtain ⟨i, h1, h2⟩ := mem_drop_ge ha
    have := hi i a h1 h2
    exact decide_eq_false (by grind)
  have m2 : moreB (bs.drop m) b.1 = bs.drop m := filter_all fun a ha => by
    obtain ⟨i, h1, h2⟩ := mem_drop_ge ha
    exact decide_eq_true (hi i a h1 h2)
  have m1 : moreB (bs.take m) b.1 = [] := filter_no fun a ha => by
    obtain ⟨i, h1, h2⟩ := mem_take_lt ha
    have := lo i a h1 h2
    exact decide_eq_false (by grind)
  have eL : lessB bs b.1 = lessB (bs.take m) b.1 := by
    conv => lhs; rw [eb]
    unfold lessB
    rw [List.filter_append]
    show lessB (bs.take m) b.1 ++ lessB (bs.drop m) b.1 = _
    rw [l2, List.append_nil]
    rfl
  have eM : moreB bs b.1 = bs.drop m := by
    conv => lhs; rw [eb]
    unfold moreB
    rw [List.filter_append]
    show moreB (bs.take m) b.1 ++ moreB (bs.drop m) b.1 = _
    rw [m1, m2, List.nil_append]
  have ld : (bs.drop m).length = bs.length - m := List.length_drop ..
  have lt : (bs.take m).length = m := by rw [List.length_take]; omega
  by_cases q : ∀ a ∈ bs.take m, a.1 < b.1
  · left
    have eL' : lessB bs b.1 = bs.take m := eL.trans (filter_all fun a ha => decide_eq_true (q a ha))
    refine ⟨by rw [eL', eM, ld, lt]; omega, by unfold putB; rw [eL', eM], ?_⟩
    unfold putB
    rw [eL', eM]
    refine List.pairwise_append.mpr ⟨List.Pairwise.sublist (List.take_sublist _ _) asc, List.pairwise_cons.mpr ⟨fun a ha => ?_, List.Pairwise.sublist (List.drop_sublist _ _) asc⟩, fun a ha c hc => ?_⟩
    · obtain ⟨i, h1, h2⟩ := mem_drop_ge ha
      exact hi i a h1 h2
    · have := q a ha
      rcases List.mem_cons.mp hc with rfl | hc
      · exact this
      · obtain ⟨i, h1, h2⟩ := mem_drop_ge hc
        have := hi i c h1 h2
        grind
  · right
    obtain ⟨a0, ha0⟩ := Classical.not_forall.mp q
    have ha1 : a0 ∈ bs.take m ∧ ¬ a0.1 < b.1 := Classical.not_imp.mp ha0
    obtain ⟨i0, h1, h2⟩ := mem_take_lt ha1.1
    have e0 : a0.1 = b.1 := by
      have := lo i0 a0 h1 h2
      have := ha1.2
      grind
    have i1 : i0 = m - 1 := by
      rcases Nat.lt_or_ge i0 (m - 1) with c | c
      · obtain ⟨c1, hc1⟩ : ∃ c1, bs[m - 1]? = some c1 := ⟨_, List.getElem?_eq_getElem (by omega)⟩
        have := asc_at asc h2 hc1 c
        have := lo (m - 1) c1 (by omega) hc1
        grind
      · omega
    subst i1
    have et : bs.take m = bs.take (m - 1) ++ [a0] := by
      have : m = (m - 1) + 1 := by omega
      conv => lhs; rw [this]
      rw [List.take_add_one, h2]
      rfl
    have eL' : lessB bs b.1 = bs.take (m - 1) := by
      rw [eL, et]
      unfold lessB
      rw [List.filter_append, filter_all (l := bs.take (m - 1)), filter_no (l := [a0]), List.append_nil]
      · intro a ha
        rw [List.mem_singleton.mp ha]
        exact decide_eq_false ha1.2
      · intro a ha
        obtain ⟨i, g1, g2⟩ := mem_take_lt ha
        have := asc_at asc g2 h2 g1
        exact decide_eq_true (by grind)
    have lt' : (bs.take (m - 1)).length = m - 1 := by rw [List.length_take]; omega
    exact ⟨by rw [eL', eM, ld, lt']; omega, by rw [eL', lt']; omega, a0, h2, e0⟩
noncomputable def MisQ (bs : List Bo) (r : Option Nat) : Prop := (r = none ∧ Asc bs) ∨ ∃ k a b, r = some k ∧ 1 ≤ k ∧ bs[k - 1]? = some a ∧ bs[k]? = some b ∧ ¬ a.1 < b.1 ∧ ∀ (j : Nat) (c d : Bo), 1 ≤ j → j < k → bs[j - 1]? = some c → bs[j]? = some d → c.1 < d.1
theorem asc_near {bs : List Bo} (h : ∀ (j : Nat) (c d : Bo), 1 ≤ j → bs[j - 1]? = some c → bs[j]? = some d → c.1 < d.1) : Asc bs := by
  have key : ∀ (n i : Nat) (c d : Bo), bs[i]? = some c → bs[i + n + 1]? = some d → c.1 < d.1 := fun n => by
    induction n with
    | zero => exact fun i c d hc hd => h (i + 1) c d (by omega) hc hd
    | succ n ih =>
      intro i c d hc hd
      obtain ⟨e, he⟩ : ∃ e, bs[i + n + 1]? = some e := ⟨_, List.getElem?_eq_getElem (by have := (List.getElem?_eq_some_iff.mp hd).1; omega)⟩
      have a1 := ih i c e hc he
      have a2 := h (i + n + 2) e d (by omega) he hd
      grind
  refine List.pairwise_iff_getElem.mpr fun i j hi hj l => ?_
  refine key (j - i - 1) i _ _ (List.getElem?_eq_getElem hi) ?_
  rw [show i + (j - i - 1) + 1 = j by omega]
  exact List.getElem?_eq_getElem hj
theorem put_mis {bs : List Bo} {b : Bo} {m : Nat} {r : Option Nat} (asc : Asc bs) (s : SpotQ bs b.1 m) (h : MisQ (bs.take m ++ b :: bs.drop m) r) :
    ((lessB bs b.1).length + (moreB bs b.1).length = bs.length ∧ r = none ∧ bs.take m ++ b :: bs.drop m = putB bs b ∧ Asc (putB bs b)) ∨
    ((lessB bs b.1).length + (moreB bs b.1).length < bs.length ∧ r = some ((lessB bs b.1).length + 1)) := by
  have lt : (bs.take m).length = m := by rw [List.length_take]; have := s.1; omega
  have atL : ∀ i, i < m → (bs.take m ++ b :: bs.drop m)[i]? = bs[i]? := fun i hi => by
    rw [List.getElem?_append_left (by omega), List.getElem?_take, if_pos hi]
  have atM : (bs.take m ++ b :: bs.drop m)[m]? = some b := by
    rw [List.getElem?_append_right (by omega), lt, Nat.sub_self]
    rfl
  rcases put_cases asc s with ⟨c1, c2, c3⟩ | ⟨c1, c2, a, c3, c4⟩
  · left
    refine ⟨c1, ?_, c2, c3⟩
    rcases h with ⟨h, _⟩ | ⟨k, x, y, _, k1, hx, hy, no, _⟩
    · exact h
    · rw [c2] at hx hy
      exact absurd (asc_at c3 hx hy (by omega)) no
  · right
    refine ⟨c1, ?_⟩
    have ha : (bs.take m ++ b :: bs.drop m)[m - 1]? = some a := by rw [atL _ (by omega)]; exact c3
    rcases h with ⟨_, h⟩ | ⟨k, x, y, e, k1, hx, hy, no, ok⟩
    · have := asc_at h ha atM (by omega)
      grind
    · rw [e, ← c2]
      congr 1
      rcases Nat.lt_trichotomy k m with l | l | l
      · rw [atL _ (by omega)] at hx hy
        exact absurd (asc_at asc hx hy (by omega)) no
      · exact l
      · have := ok m a b (by omega) l ha atM
        grind
theorem take_len_of {α : Type} {l : List α} {m : Nat} (h : m ≤ l.length) : (l.take m).length = m := by rw [List.length_take]; omega
theorem put_mem {bs : List Bo} {b a : Bo} (h : a ∈ putB bs b) : a = b ∨ a ∈ bs := by
  unfold putB at h
  rcases List.mem_append.mp h with h | h
  · exact .inr (List.mem_filter.mp h).1
  · rcases List.mem_cons.mp h with h | h
    · exact .inl h
    · exact .inr (List.mem_filter.mp h).1
end Kw
set_option Elab.async false
set_option linter.all false
set_option maxRecDepth 100000
set_option maxHeartbeats 4000000
namespace Kw
open PySem PySem.Spec PyProof.Rows L2
structure FnOkH (P : Program) (w : World) (K : PySem.W.Frag) (mg : Str → Option Value) (base : Heap) (k : Nat) (f : Addr) (fd : FuncData) (ps : List Str) (sp : Sp) : Prop where
  len : ∀ vs H Q E, sp vs H Q E → vs.length = ps.length
  run : ∀ (A : Around) (x : Addr) (outer : List Env) (s : Shared) (H : Hp) (args : Args) (us : List Value) (vs : List V) (Q : VK) (E : XK), Room k A → Env0 P w K mg base (A.mark (some (.ref x))) outer s H → BindsTo s fd args (ps.zip us) → Vals vs us → sp vs H Q E →
    codeAny (model P w) (A.mark (some (.ref x))) (.call (.ref f) args) (CR (CXE P w) outer P w H s Q E) s
structure FnH (P : Program) (w : World) (K : PySem.W.Frag) (mg : Str → Option Value) (base : Heap) (k : Nat) (x : Str) (ps : List Str) (sp : Sp) : Prop where
  ex : ∃ f fd, FnOkH P w K mg base k f fd ps sp ∧ mg x = some (.ref f) ∧ PySem.W.keepIn K (.ref f) = true ∧ Binds K fd ps []
section
variable {P : Program} {w : World} {K : PySem.W.Frag} {mg : Str → Option Value} {base : Heap} {x : Str} {st : Stmt} {N ps : List Str} {k : Nat} {sp : Sp}
theorem Df.okH (D : Df K mg x st ps) (S : FnScope N ps (defScope st)) (len : ∀ vs H Q E, sp vs H Q E → vs.length = ps.length)
    (hbody : ∀ (f : Addr) (cdv : Value) (A : Around) (outer : List Env) (s : Shared) (H : Hp) (vs : List V) (Q : VK) (E : XK) (y : Addr), Room k (A.deeper (envOfC x (defScope st) s.heap.objs.size f cdv)) → sp vs H Q E →
      ∃ t, PSs (sut (cxOf (CXE P w) P w K mg base N x (defScope st) f cdv A outer s H E) y) (defBody st) t ∧ t { nx := fun _ H' => Q .non H', rt := Q } (start N vs) H) : FnH P w K mg base (k + 1) x ps sp := by
  obtain ⟨f, fd, ⟨⟨oc, od, dV, kV, doc, pm, an, cdv, ct, osl, rfl, lk, hcd⟩, kp⟩, bd, hm⟩ := D.ex
  refine ⟨f, _, ⟨len, fun A y outer s H args us vs Q E room e0 bt vls want => ?_⟩, hm, kp, bd⟩
  have lenv := len _ _ _ _ want
  have inK : K.In s.heap := e0.mod.kin.keeps fun b o e => (e0.bs b o e).1
  have eA : Env0 P w K mg base A outer s H := ⟨e0.frames, e0.mod, e0.bs, e0.bsz, e0.funs, e0.frf, e0.hok, e0.bare⟩
  refine codeAny_call_function (show (A.mark (some (.ref y))).depth < recursionLimit from room.depth) (inK _ _ lk) rfl S.co S.gen rfl (PySem.W.codeRec_of inK hcd) (bt _ _ _ _ ?_)
  refine wpAny_newFunctionEnv_cells S.kind (fun z hz => ?_) fun env ee s1 ic => ?_
  · rcases S.par z.1 (List.of_mem_zip (show (z.1, z.2) ∈ ps.zip us from hz)).1 with q | q
    · exact .inl q
    · exact .inr ⟨q, PySem.W.cellsFrom_some _ _ _ (.inl q)⟩
  subst ee
  refine ⟨(e0.mod.nolimit.keeps fun b o e => (e0.bs b o e).1).keeps ic.toInCall.keep, codeAny_func ?_⟩
  obtain ⟨t, pt, ht⟩ := hbody f cdv A outer s H vs Q E y (room.deeper _) want
  have I0 := Inv.sut (inv_start (CX := CXE P w) (E := E) S room.hd eA lenv vls ic) y
  refine wpAny_mono (pt [] s1 (start N vs) H _ I0 ht) (fun fl s' hs => ?_) fun e s' hs => hs.elim
  cases fl with
  | ret u =>
    obtain ⟨v, σ', H', J, rv, q⟩ := hs
    exact ⟨v, H', J.os, J.bare, J.base, J.hok, rv, q⟩
  | next =>
    obtain ⟨σ', H', J, q⟩ := hs
    exact ⟨V.non, H', J.os, J.bare, J.base, J.hok, rfl, q⟩
  | brk =>
    obtain ⟨_, _, _, q⟩ := hs
    exact q.elim
  | cont =>
    obtain ⟨_, _, _, q⟩ := hs
    exact q.elim
end
section
variable {X : Cx} {k k' : Nat} {x : Str} {ps : List Str} {sp : Sp} {p pos : Pos} {e : Expr} {es : List Expr} {t : TA} {y : Addr}
theorem pe_fnH (F : FnH X.prog X.w X.K X.mg X.base k x ps sp) (hk : k ≤ k') (hr : Room k' X.A) (hg : Gl X x) (ha : PA (sut X y) (e :: es) t) (hdb : (x == ("__debug__" : Str)) = false := by decide)
    (he : starEach (e :: es) X.env = (false, eval e X.env) :: starEach es X.env := by rfl) (hpl : (backTo pos (starEach es X.env)).any (·.1) = false := by rfl) : PE (sut X y) (.Call (.Name x p) (e :: es) [] pos) (tCall sp [] E0 t) := by
  obtain ⟨f, fd, G, hm, kp, bd⟩ := F.ex
  intro pins s σ H Q I h
  refine wpAny_Call_Name_kw (ld_glob (X := sut X y) I hg hm ?_ hdb)
  refine PySem.W.callWith_K (h₀ := X.base) I.ok.mod.kin kp (thn (ha pos pins s σ H _ I h) fun us s1 ⟨vs, H1, I1, r, q⟩ => ⟨I1.kIn, ?_⟩) he hpl
  have q' : sp vs H1 Q E0 := by simpa using q
  have hl : us.length = ps.length := by rw [← r.length]; exact G.len _ _ _ _ q'
  have bd' : BindsTo s1 fd ⟨us, []⟩ (ps.zip us) := by
    have z := bd s1 us I1.kIn (by rw [List.append_nil]; exact hl)
    rw [List.append_nil] at z
    exact z
  refine wpAny_call (codeAny_mono (G.run X.A y X.stack s1 H1 ⟨us, []⟩ us vs Q E0 (hr.mono hk) I1.env0 bd' r q') fun r s' hq => ?_)
  cases r with
  | error e => exact passE0 (X := sut X y) pins σ H1 s1 e s' I1 hq
  | ok fl =>
    cases fl with
    | ret u => exact I1.after hq
    | next => exact hq.elim
    | brk => exact hq.elim
    | cont => exact hq.elim
end
end Kw
set_option Elab.async false
set_option linter.all false
set_option maxRecDepth 100000
set_option maxHeartbeats 4000000
namespace Kw
open PySem PySem.Spec PyProof.Rows L2
variable {X : Cx} {pos : Pos}
noncomputable def tPar3 (i j k : Nat) (ta : TA) : TS := fun D σ H => ta σ H fun vs H1 => ∃ v w u, vs = [v, w, u] ∧ D.nx (((σ.set i (some v)).set j (some w)).set k (some u)) H1
theorem ps_par3 {i j k : Nat} {x y z : Str} {a b c : Expr} {ta : TA} {px py pz pt : Pos} {kt k2 pt2} (hc : X.calm = true) (hN : X.N.Nodup) (hi : X.N[i]? = some x) (hj : X.N[j]? = some y) (hk : X.N[k]? = some z) (hij : i ≠ j) (hik : i ≠ k) (hjk : j ≠ k)
    (hx : X.env.scope.names.lookup x = some .local) (hy : X.env.scope.names.lookup y = some .local) (hz : X.env.scope.names.lookup z = some .local) (ha : PA X [a, b, c] ta)
    (sw : swappedStores [.Tuple [.Name x px, .Name y py, .Name z pz] kt pt] (.Tuple [a, b, c] k2 pt2) X.env = pure (some [x, y, z]))
    (ss : swapsWithSole [.Tuple [.Name x px, .Name y py, .Name z pz] kt pt] (.Tuple [a, b, c] k2 pt2) pos.line X.env = pure false := by rfl) :
    PS X (.Assign [.Tuple [.Name x px, .Name y py, .Name z pz] kt pt] (.Tuple [a, b, c] k2 pt2) pos) (tPar3 i j k ta) := by
  intro pins s σ H D I h
  rw [exec_Assign_arm]
  refine wpAny_bind (wpAny_standAt ?_)
  rw [ss]
  refine wpAny_bind (wpAny_pure ?_)
  rw [if_neg (by decide)]
  refine wpAny_bind (Tuple_ (thn (ha _ pins s σ H _ I h) fun us s1 zz => ?_))
  obtain ⟨vs, H1, I1, r1, q1⟩ := zz
  obtain ⟨v, w, u, e1, q1⟩ := q1
  subst e1
  obtain ⟨u1, u2, u3, rfl, rv, rw', ru⟩ : ∃ u1 u2 u3, us = [u1, u2, u3] ∧ RelV v u1 ∧ RelV w u2 ∧ RelV u u3 := by
    cases r1 with
    | cons p q => cases q with
      | cons p' q' => cases q' with
        | cons p2 q2 =>
          cases q2
          exact ⟨_, _, _, rfl, p, p', p2⟩
  refine wpAny_newObj_type ?_ (by show 3 ≤ sizeLine; decide)
  have I2 : Inv X pins σ H1 { s1 with heap := s1.heap.push { cls := .type "tuple", data := .seq [u1, u2, u3].toArray } } := I1.kept (t' := s1.toks) fun b o e => Heap.get?_push_of_some _ e
  rw [sw]
  refine wpAny_bind (wpAny_pure ?_)
  show wpAny (model X.prog X.w) X.A (do rule "assign.swapped-stores"; let its ← unpackItems (.ref s1.heap.objs.size) 3 none; assignInOrder [fun v => bindName X.env z v, fun v => bindName X.env y v, fun v => bindName X.env x v] its.reverse; pure Flow.next) _ _ _
  refine wpAny_bind (wpAny_rule (wpAny_bind (unpackItems_tuple (items := #[u1, u2, u3]) (I.ok.hd hc) (IsTup.new s1.heap _) fun h' hx' => ?_)))
  have I3 := I2.kept (h' := h') (t' := s1.toks) fun b o e => hx' b o (Nat.ne_of_lt (Heap.lt_size e)) e
  show wpAny _ _ (assignInOrder [fun v => bindName X.env z v, fun v => bindName X.env y v, fun v => bindName X.env x v] [u3, u2, u1] >>= fun _ => pure Flow.next) _ _ _
  refine wpAny_bind (assignInOrder_cons (wpAny_bindName (store_ok I3 hN hk (.inl hz) ru (fun s2 I4 => ?_) (.inr hz))))
  refine assignInOrder_cons (wpAny_bindName (store_ok I4 hN hj (.inl hy) rw' (fun s3 I5 => ?_) (.inr hy)))
  refine assignInOrder_cons (wpAny_bindName (store_ok I5 hN hi (.inl hx) rv (fun s4 I6 => assignInOrder_nil (wpAny_pure ?_)) (.inr hx)))
  rw [List.set_comm _ _ (Ne.symm hij), List.set_comm _ _ (Ne.symm hik), List.set_comm _ _ (Ne.symm hjk)] at I6
  exact ⟨_, H1, I6, q1⟩
end Kw
set_option Elab.async false
set_option linter.all false
set_option maxRecDepth 100000
set_option maxHeartbeats 4000000
namespace Kw
open PySem PySem.Spec PyProof.Rows L2
noncomputable def Sm (q : Rat) : Prop := -10000 < q.num ∧ q.num < 10000 ∧ ((q.den : Nat) : Int) < 10000
theorem Sm.fb {q : Rat} (h : Sm q) : FB 64 q := by
  obtain ⟨h1, h2, h3⟩ := h
  have h4 : (0 : Int) ≤ ((q.den : Nat) : Int) := Int.natCast_nonneg _
  exact ⟨Bd.small (by omega) (by omega), Bd.small (by omega) (by omega)⟩
theorem lng_few {i : Int} (h1 : -100000 < i) (h2 : i < 100000) : lng i = false := by
  unfold lng
  refine decide_eq_false ?_
  have e : (100000 : Nat) < 10 ^ 100 := by decide
  omega
theorem Sm.sh {q : Rat} (h : Sm q) : shF q := by
  obtain ⟨h1, h2, h3⟩ := h
  have h4 : (0 : Int) ≤ ((q.den : Nat) : Int) := Int.natCast_nonneg _
  exact ⟨lng_few (by omega) (by omega), lng_few (by omega) (by omega)⟩
noncomputable def TdK (H : Hp) (v : V) (b : Bo) : Prop := ∃ p a c : Addr, v = .ref p ∧ H p = some (.tup [.ref a, .ref c, .int b.2.2]) ∧ FH H a b.1 ∧ FH H c b.2.1 ∧ Sm b.1 ∧ Sm b.2.1
noncomputable def WtOk (b : Bo) : Prop := 1 ≤ b.2.2 ∧ b.2.2 ≤ 1000
noncomputable def BdK (H : Hp) (v : V) (b : Bo) : Prop := TdK H v b ∧ WtOk b
section
variable {K : PySem.W.Frag} {H H' : Hp} {v : V} {b : Bo} {xs : List V} {bs : List Bo} {as : List Addr}
theorem FH.buts {p : Addr} {x : Rat} (h : FH H p x) (s : Buts as H H') (nt : NoT as H) : FH H' p x := s _ _ (fun m => (nt _ m).1 _ h) h
theorem TdK.same (h : TdK H v b) (s : Same H H') : TdK H' v b := by
  obtain ⟨p, a, c, e, h1, h2, h3, h4⟩ := h
  exact ⟨p, a, c, e, s _ _ h1, s _ _ h2, s _ _ h3, h4⟩
theorem TdK.buts (h : TdK H v b) (s : Buts as H H') (nt : NoT as H) : TdK H' v b := by
  obtain ⟨p, a, c, e, h1, h2, h3, h4⟩ := h
  exact ⟨p, a, c, e, s _ _ (fun m => (nt _ m).1 _ h1) h1, h2.buts s nt, h3.buts s nt, h4⟩
theorem bks_same (h : Al2 (BdK H) xs bs) (s : Same H H') : Al2 (BdK H') xs bs := Al2.imp (fun _ _ z => ⟨z.1.same s, z.2⟩) h
theorem bks_buts (h : Al2 (BdK H) xs bs) (s : Buts as H H') (nt : NoT as H) : Al2 (BdK H') xs bs := Al2.imp (fun _ _ z => ⟨z.1.buts s nt, z.2⟩) h
theorem BdK.bd (h : BdK H v b) : BdQ K H 900 v b := by
  obtain ⟨⟨p, a, c, e, h1, h2, h3, h4, h5⟩, h6, h7⟩ := h
  exact ⟨p, a, c, e, SqT.of h1, h2.fq, h3.fq, h4.fb.mono (by decide), h5.fb.mono (by decide), h6, by omega⟩
theorem bks_bds (h : Al2 (BdK H) xs bs) : Al2 (BdQ K H 900) xs bs := Al2.imp (fun _ _ z => z.bd) h
theorem TdK.is (h : TdK H v b) : BodyC K H v (decide (1 ≤ b.2.2) && decide (b.2.2 ≤ 1000)) := by
  obtain ⟨p, a, c, e, h1, h2, h3, h4, h5⟩ := h
  exact .inr (.inr ⟨p, _, _, _, true, true, _, e, h1, fhFrac h2 (h4.fb.mono (by decide)), fhFrac h3 (h5.fb.mono (by decide)), .inr ⟨_, rfl, rfl⟩, rfl⟩)
theorem BdK.sh (h : BdK H v b) : shB b := ⟨h.1.choose_spec.choose_spec.choose_spec.2.2.2.2.1.sh, h.1.choose_spec.choose_spec.choose_spec.2.2.2.2.2.sh, lng_small h.2.1 h.2.2⟩
theorem bks_sh : ∀ {xs : List V} {bs : List Bo}, Al2 (BdK H) xs bs → ∀ c ∈ bs, shB c := fun {xs bs} h c hc => by
  obtain ⟨i, hi⟩ := List.mem_iff_getElem?.mp hc
  have l := Al2.len h
  obtain ⟨x, hx⟩ : ∃ x, xs[i]? = some x := ⟨_, List.getElem?_eq_getElem (by have := (List.getElem?_eq_some_iff.mp hi).1; omega)⟩
  obtain ⟨c', hc', z⟩ := Al2.get h hx
  rw [hi] at hc'
  cases hc'
  exact z.sh
end
noncomputable def DeskAt (H : Hp) (CD d kp : Addr) (bs : List Bo) : Prop := ∃ (dx : Addr) (xs : List V), H d = some (.ins CD dx [("kept", .ref kp)]) ∧ H kp = some (.lst xs) ∧ Al2 (BdK H) xs bs ∧ Asc bs ∧ bs.length ≤ 6
section
variable {H H' : Hp} {CD d kp : Addr} {bs : List Bo} {as : List Addr}
theorem DeskAt.same (h : DeskAt H CD d kp bs) (s : Same H H') : DeskAt H' CD d kp bs := by
  obtain ⟨dx, xs, h1, h2, h3, h4⟩ := h
  exact ⟨dx, xs, s _ _ h1, s _ _ h2, bks_same h3 s, h4⟩
theorem DeskAt.buts (h : DeskAt H CD d kp bs) (s : Buts as H H') (nt : NoT as H) (hd : d ∉ as) (hk : kp ∉ as) : DeskAt H' CD d kp bs := by
  obtain ⟨dx, xs, h1, h2, h3, h4⟩ := h
  exact ⟨dx, xs, s _ _ hd h1, s _ _ hk h2, bks_buts h3 s nt, h4⟩
theorem DeskAt.noT (h : DeskAt H CD d kp bs) : NoT [d] H := by
  obtain ⟨dx, xs, h1, _⟩ := h
  exact NoT.ins h1 NoT.nil
end
inductive An where
  | txt (z : Str)
  | mark (s : String)
  | wld (k : Nat)
noncomputable def anD : An → PyData
  | .txt z => .str z
  | .mark s => .tuple [.str (Str.ofString s)]
  | .wld k => .tuple [.str (Str.ofString "world"), .int (k : Int)]
noncomputable def AnQ (K : PySem.W.Frag) (H : Hp) (v : V) : An → Prop
  | .txt z => v = .str z
  | .mark s => ∃ p, v = .ref p ∧ SqT K H p [strV s]
  | .wld k => ∃ p, v = .ref p ∧ SqT K H p [strV "world", .int (k : Int)]
theorem AnQ.same {K : PySem.W.Frag} {H H' : Hp} {v : V} {a : An} (h : AnQ K H v a) (s : Same H H') : AnQ K H' v a := by
  cases a with
  | txt z => exact h
  | mark z => obtain ⟨p, e, g⟩ := h; exact ⟨p, e, Kw.Same.tup s g⟩
  | wld k => obtain ⟨p, e, g⟩ := h; exact ⟨p, e, Kw.Same.tup s g⟩
theorem AnQ.dp {K : PySem.W.Frag} {H : Hp} {v : V} {a : An} (h : AnQ K H v a) : Dp K H v (anD a) := by
  cases a with
  | txt z => rw [show v = .str z from h]; exact .str z
  | mark z => obtain ⟨p, e, g⟩ := h; rw [e]; exact .tup g (.cons (.str _) .nil)
  | wld k => obtain ⟨p, e, g⟩ := h; rw [e]; exact .tup g (.cons (.str _) (.cons (.int _) .nil))
noncomputable def Pln (z : Str) : Prop := ∀ c ∈ z.cps.toList, c < 128
theorem Pln.ok {z : Str} (h : Pln z) : PyData.strOk z = true := by
  unfold PyData.strOk
  refine Array.all_eq_true_iff_forall_mem.mpr fun c hc => ?_
  have := h c (by simpa using hc)
  simp
  omega
theorem Pln.nT (i : Int) : Pln (nT i) := fun c hc => by
  rw [nT_signs] at hc
  rcases nS_sign hc with h | h <;> omega
theorem Pln.join {d : Nat} (hd : d < 128) : ∀ {ps : List Str}, (∀ p ∈ ps, Pln p) → Pln (Str.join ⟨#[d]⟩ ps)
  | [], _ => fun c hc => by cases hc
  | [x], h => h x (List.mem_singleton.mpr rfl)
  | x :: y :: r, h => fun c hc => by
    rw [join_signs_cons] at hc
    rcases List.mem_append.mp hc with hc | hc
    · rcases List.mem_append.mp hc with hc | hc
      · exact h x (List.mem_cons_self ..) c hc
      · have : c = d := by simpa using hc
        omega
    · exact Pln.join hd (ps := y :: r) (fun p hp => h p (List.mem_cons_of_mem _ hp)) c hc
theorem Pln.joinS {sep : Str} (hs : Pln sep) : ∀ {ps : List Str}, (∀ p ∈ ps, Pln p) → Pln (Str.join sep ps)
  | [], _ => fun c hc => by cases hc
  | [x], h => h x (List.mem_singleton.mpr rfl)
  | x :: y :: r, h => fun c hc => by
    rw [join_signs_cons] at hc
    rcases List.mem_append.mp hc with hc | hc
    · rcases List.mem_append.mp hc with hc | hc
      · exact h x (List.mem_cons_self ..) c hc
      · exact hs c hc
    · exact Pln.joinS hs (ps := y :: r) (fun p hp => h p (List.mem_cons_of_mem _ hp)) c hc
theorem Pln.fr (q : Rat) : Pln (frT q) := by
  unfold frT
  rw [sep_over]
  refine Pln.join (by decide) fun p hp => ?_
  obtain ⟨i, rfl⟩ := frP_nT hp
  exact Pln.nT i
theorem Pln.row (b : Bo) : Pln (rowT b) := by
  unfold rowT
  rw [sep_blank]
  refine Pln.join (by decide) fun p hp => ?_
  simp only [List.mem_cons, List.not_mem_nil, or_false] at hp
  rcases hp with rfl | rfl | rfl
  · exact Pln.fr _
  · exact Pln.fr _
  · exact Pln.nT _
noncomputable def An.Ok : An → Prop
  | .txt z => Pln z
  | .mark s => Pln (Str.ofString s)
  | .wld _ => True
theorem an_ok {a : An} (h : a.Ok) : (anD a).canLay0 = true ∧ Nat.ble (anD a).depth 60 = true := by
  cases a with
  | txt z => exact ⟨Pln.ok h, rfl⟩
  | mark s =>
    refine ⟨?_, rfl⟩
    show (PyData.strOk (Str.ofString s) && true) = true
    rw [Pln.ok h]
    rfl
  | wld k => exact ⟨by show (PyData.strOk (Str.ofString "world") && true) = true; decide +kernel, rfl⟩
noncomputable def ansB (bs : List Bo) (b : Bo) : An := if ¬ (1 ≤ b.2.2 ∧ b.2.2 ≤ 1000) then .mark "body" else if bs.length = 6 then .mark "many" else if (lessB bs b.1).length + (moreB bs b.1).length < bs.length then .wld ((lessB bs b.1).length + 1) else .txt (nT ((bs.length + 1 : Nat) : Int))
noncomputable def nowB (bs : List Bo) (b : Bo) : List Bo := if ¬ (1 ≤ b.2.2 ∧ b.2.2 ≤ 1000) then bs else if bs.length = 6 then bs else if (lessB bs b.1).length + (moreB bs b.1).length < bs.length then bs else putB bs b
noncomputable def deskT (bs : List Bo) : Str := if bs = [] then Str.ofString "none" else Str.join (Str.ofString "; ") (bs.map rowT)
theorem Pln.desk (bs : List Bo) : Pln (deskT bs) := by
  unfold deskT
  split
  · exact by unfold Pln; decide +kernel
  · refine Pln.joinS (by unfold Pln; decide +kernel) fun p hp => ?_
    obtain ⟨b, _, rfl⟩ := List.mem_map.mp hp
    exact Pln.row b
theorem ans_ok (bs : List Bo) (b : Bo) : (ansB bs b).Ok := by
  unfold ansB
  split
  · exact (show Pln (Str.ofString "body") by unfold Pln; decide +kernel)
  · split
    · exact (show Pln (Str.ofString "many") by unfold Pln; decide +kernel)
    · split
      · trivial
      · exact Pln.nT _
noncomputable def KdV (H : Hp) (k : String) (z : Str) (v : V) : Prop :=
  (k = "number" ∧ ∃ n, isN z n ∧ 0 ≤ n ∧ n < 10000 ∧ v = .int n) ∨ (k = "fraction" ∧ ∃ q p, isF z q ∧ Sm q ∧ v = .ref p ∧ FH H p q) ∨ (k = "length" ∧ ∃ q p, isF z q ∧ Sm q ∧ 0 < q ∧ v = .ref p ∧ FH H p q)
noncomputable def KdG (k : String) (z : Str) : Prop := (k = "number" ∧ ∃ n, isN z n ∧ 0 ≤ n ∧ n < 10000) ∨ (k = "fraction" ∧ ∃ q, isF z q ∧ Sm q) ∨ (k = "length" ∧ ∃ q, isF z q ∧ Sm q ∧ 0 < q)
noncomputable def isKd (k : String) : Prop := k = "number" ∨ k = "fraction" ∨ k = "length"
theorem KdV.same {H H' : Hp} {k : String} {z : Str} {v : V} (h : KdV H k z v) (s : Same H H') : KdV H' k z v := by
  rcases h with h | ⟨e, q, p, h1, h2, h3, h4⟩ | ⟨e, q, p, h1, h2, h0, h3, h4⟩
  · exact .inl h
  · exact .inr (.inl ⟨e, q, p, h1, h2, h3, s _ _ h4⟩)
  · exact .inr (.inr ⟨e, q, p, h1, h2, h0, h3, s _ _ h4⟩)
inductive KdGs : List String → List Str → Prop
  | nil : KdGs [] []
  | cons {k z ks zs} : KdG k z → KdGs ks zs → KdGs (k :: ks) (z :: zs)
inductive KdVs (H : Hp) : List String → List Str → List V → Prop
  | nil : KdVs H [] [] []
  | cons {k z v ks zs vs} : KdV H k z v → KdVs H ks zs vs → KdVs H (k :: ks) (z :: zs) (v :: vs)
theorem KdVs.same {H H' : Hp} {ks : List String} {zs : List Str} {vs : List V} (h : KdVs H ks zs vs) (s : Same H H') : KdVs H' ks zs vs := by
  induction h with
  | nil => exact .nil
  | cons a _ ih => exact .cons (a.same s) ih
theorem KdVs.snoc {H : Hp} {ks : List String} {zs : List Str} {vs : List V} {k : String} {z : Str} {v : V} (h : KdVs H ks zs vs) (g : KdV H k z v) : KdVs H (ks ++ [k]) (zs ++ [z]) (vs ++ [v]) := by
  induction h with
  | nil => exact .cons g .nil
  | cons a _ ih => exact .cons a ih
theorem KdVs.len {H : Hp} {ks : List String} {zs : List Str} {vs : List V} (h : KdVs H ks zs vs) : vs.length = ks.length ∧ zs.length = ks.length := by
  induction h with
  | nil => exact ⟨rfl, rfl⟩
  | cons a _ ih => exact ⟨congrArg Nat.succ ih.1, congrArg Nat.succ ih.2⟩
theorem KdGs.get {ks : List String} {zs : List Str} (h : KdGs ks zs) : ∀ {i : Nat} {k : String} {z : Str}, ks[i]? = some k → zs[i]? = some z → KdG k z := by
  induction h with
  | nil => intro i k z h; cases i <;> cases h
  | cons a _ ih =>
    intro i k z h1 h2
    cases i with
    | zero => cases h1; cases h2; exact a
    | succ i => exact ih h1 h2
theorem KdGs.len {ks : List String} {zs : List Str} (h : KdGs ks zs) : zs.length = ks.length := by
  induction h with
  | nil => rfl
  | cons _ _ ih => exact congrArg Nat.succ ih
theorem kdvs_take {H : Hp} {ks : List String} {zs : List Str} {vs : List V} {i : Nat} {k : String} {z : Str} {v : V} (h : KdVs H (ks.take i) (zs.take i) vs) (hk : ks[i]? = some k) (hz : zs[i]? = some z) (g : KdV H k z v) : KdVs H (ks.take (i + 1)) (zs.take (i + 1)) (vs ++ [v]) := by
  rw [List.take_add_one, List.take_add_one, hk, hz]
  exact h.snoc g
theorem form_kinds {z : Str} {ks : List String} (h : formOf z = some ks) : ks.length ≤ 3 ∧ ∀ k ∈ ks, isKd k := by
  unfold formOf at h
  obtain ⟨r, hr, e⟩ := Option.map_eq_some_iff.mp h
  have m := List.mem_of_find?_eq_some hr
  subst e
  have all : ∀ r ∈ formL, r.2.length ≤ 3 ∧ ∀ k ∈ r.2, k = "number" ∨ k = "fraction" ∨ k = "length" := by decide
  exact all r m
theorem row_words {z w0 : Str} {zs : List Str} (h : Txt.split z (Str.ofString " ") = w0 :: zs) : (Txt.partition z (Str.ofString " ")).1 = w0 := by
  have j := StrLaws.join_split z (Str.ofString " ")
  rw [h] at j
  have free : ∀ p ∈ w0 :: zs, 32 ∉ p.cps.toList := fun p hp => by
    rw [← h] at hp
    rw [sep_blank] at hp
    exact StrLaws.split_free z 32 p hp
  rw [sep_blank] at j ⊢
  cases zs with
  | nil =>
    rw [join_one] at j
    subst j
    rw [part_none (free _ (List.mem_cons_self ..))]
  | cons y r =>
    have e : z = w0 ++ ⟨#[32]⟩ ++ Str.join ⟨#[32]⟩ (y :: r) := by
      rw [← j]
      refine str_ext ?_
      rw [join_signs_cons, signs_app, signs_app]
    rw [part_some e (free _ (List.mem_cons_self ..))]
theorem frT_int (i : Int) : frT (i : Rat) = nT i := by
  unfold frT frP
  rw [if_pos (show ((((i : Int) : Rat).den : Nat) : Int) = 1 from rfl)]
  rfl
theorem shF_int {i : Int} (h : lng i = false) : shF (i : Rat) := ⟨h, (show lng 1 = false by decide +kernel)⟩
theorem sep_semi : (Str.ofString "; ").length = 2 := by decide +kernel
theorem u100m {k : Nat} {A : Around} {x : Option Value} (r : Room k A) : (A.mark x).units + 100 < cLine := by
  have := r.un
  show A.units + 100 < cLine
  omega
section
variable {K : PySem.W.Frag} {te : TE} {tt : TT} {σ : L2.St} {H : Hp} {Q : VK} {idx : List Nat} {n : Nat}
theorem lc_filterB {a : Addr} {xs : List V} {qs : List Bo} (f : Bo → Bool) (hl : SqL K H a xs) (hz : xs.length ≤ sizeLine) (al : Al2 (BdQ K H n) xs qs)
    (ht : ∀ x q H1 (Q' : Bool → Hp → Prop), Same H H1 → BdQ K H1 n x q → (∀ H2, Same H1 H2 → Q' (f q) H2) → tt (stIn (some x) idx σ) H1 Q') (he : ∀ x H1 (Q' : VK), Q' x H1 → te (stIn (some x) idx σ) H1 Q')
    (hd : ∀ ys H1, Same H H1 → Al2 (BdQ K H1 n) ys (qs.filter f) → ∀ p, H1 p = none → Q (.ref p) (upd H1 p (.lst ys))) : LcBodyT (Itl K a) idx tt te σ Q H := by
  refine ⟨fun i m ys H' => m = xs.length - i ∧ i ≤ xs.length ∧ Same H H' ∧ Al2 (BdQ K H' n) ys ((qs.take i).filter f), ⟨xs.length, by simp, Nat.zero_le _, Same.refl H, trivial⟩, ?_⟩
  rintro i m ys H' ⟨rfl, hi, sm, hy⟩
  have ly := Al2.len hy
  have lf := List.length_filter_le f (qs.take i)
  rw [List.length_take] at lf
  refine ⟨by omega, ?_⟩
  by_cases hlt : i < xs.length
  · refine .inr ⟨⟨xs, xs[i], sm.seq hl, by simp [hlt]⟩, fun y H2 yl => ?_⟩
    obtain ⟨e, yl⟩ := yl
    subst e
    have ex := yl xs (sm.seq hl)
    obtain ⟨q, eq, fq⟩ := Al2.get al ex
    refine ht y q _ _ sm (fq.same sm) fun H3 s3 => ?_
    cases c : f q with
    | true =>
      refine iteT (he y _ _ ⟨xs.length - (i + 1), by omega, rfl, hlt, sm.trans s3, ?_⟩)
      rw [take_snoc eq, List.filter_append]
      have e1 : [q].filter f = [q] := by simp [c]
      rw [e1]
      exact Al2.snoc (bds_same hy s3) (fq.same (sm.trans s3))
    | false =>
      refine iteF ⟨xs.length - (i + 1), by omega, rfl, hlt, sm.trans s3, ?_⟩
      rw [take_snoc eq, List.filter_append]
      have e1 : [q].filter f = [] := by simp [c]
      rw [e1, List.append_nil]
      exact bds_same hy s3
  · have e : i = xs.length := by omega
    subst e
    have et : qs.take xs.length = qs := by rw [Al2.len al, List.take_length]
    rw [et] at hy
    exact .inl ⟨⟨xs, sm.seq hl, Nat.le_refl _⟩, hd ys _ sm hy⟩
end
theorem Sm.of {x : Rat} (h : FB 13 x) : Sm x := by
  obtain ⟨h1, h2⟩ := h
  unfold Bd at h1 h2
  have e : (2 : Nat) ^ 13 = 8192 := by decide
  rw [e] at h1 h2
  exact ⟨by omega, by omega, by omega⟩
theorem bd13 {i : Int} (h1 : -8000 < i) (h2 : i < 8000) : Bd 13 i := by
  unfold Bd
  have e : (2 : Nat) ^ 13 = 8192 := by decide
  omega
theorem newI {H : Hp} {y dy C : Addr} (ny : H y = none) (ndy : H dy = none) (ne : dy ≠ y) : ∃ H1, upd (upd H dy (.own y)) y (.ins C dy []) = H1 ∧ Same H H1 ∧ H1 y = some (.ins C dy []) := by
  refine ⟨_, rfl, fun a o ha => ?_, upd_same⟩
  rw [upd_ne (ne_of_none ha ny), upd_ne (ne_of_none ha ndy)]
  exact ha
noncomputable def bTwo : Bo := (Rat.divInt 1 2, -3, 4)
theorem two_row : Txt.split (Str.ofString "body 1/2 -3 4") (Str.ofString " ") = [Str.ofString "body", Str.ofString "1/2", Str.ofString "-3", Str.ofString "4"] := by decide +kernel
theorem two_is : isF (Str.ofString "1/2") bTwo.1 ∧ isF (Str.ofString "-3") bTwo.2.1 ∧ isN (Str.ofString "4") bTwo.2.2 := by
  have s1 : nT 1 = Str.ofString "1" := str_ext (by rw [nT_signs]; decide +kernel)
  have s2 : nT 2 = Str.ofString "2" := str_ext (by rw [nT_signs]; decide +kernel)
  have s3 : nT (-3) = Str.ofString "-3" := str_ext (by rw [nT_signs]; decide +kernel)
  have s4 : nT 4 = Str.ofString "4" := str_ext (by rw [nT_signs]; decide +kernel)
  have n1 : bTwo.1.num = 1 := by decide +kernel
  have n2 : ((bTwo.1.den : Nat) : Int) = 2 := by decide +kernel
  have n3 : bTwo.2.1.num = -3 := by decide +kernel
  have n4 : ((bTwo.2.1.den : Nat) : Int) = 1 := by decide +kernel
  refine ⟨⟨?_, ?_⟩, ⟨?_, ?_⟩, ?_, ?_⟩
  · unfold frT frP
    rw [n1, n2, if_neg (by decide), s1, s2]
    decide +kernel
  · unfold shF
    rw [n1, n2]
    decide +kernel
  · unfold frT frP
    rw [n3, n4, if_pos rfl, s3]
    rfl
  · unfold shF
    rw [n3, n4]
    decide +kernel
  · exact s4.symm
  · decide +kernel
theorem two_sm : Sm bTwo.1 ∧ Sm bTwo.2.1 := by unfold Sm; decide +kernel
theorem two_text : deskT [bTwo] = Str.ofString "1/2 -3 4" := by
  unfold deskT
  rw [if_neg (by simp)]
  show rowT bTwo = _
  unfold rowT
  rw [← two_is.1.1, ← two_is.2.1.1, ← two_is.2.2.1]
  decide +kernel
theorem row_body {b : Bo} : Txt.split (Str.ofString "body " ++ rowT b) (Str.ofString " ") = [Str.ofString "body", frT b.1, frT b.2.1, nT b.2.2] := by
  have e : Str.ofString "body " ++ rowT b = Str.join ⟨#[32]⟩ [Str.ofString "body", frT b.1, frT b.2.1, nT b.2.2] := by
    refine str_ext ?_
    rw [signs_app, join_signs_cons]
    unfold rowT
    rw [sep_blank]
    rw [show (Str.ofString "body ").cps.toList = (Str.ofString "body").cps.toList ++ (⟨#[32]⟩ : Str).cps.toList by decide +kernel]
  rw [e, sep_blank]
  refine split_join (by simp) fun p hp => ?_
  simp only [List.mem_cons, List.not_mem_nil, or_false] at hp
  rcases hp with rfl | rfl | rfl | rfl
  · decide +kernel
  · exact frT_free (.inr rfl)
  · exact frT_free (.inr rfl)
  · exact nT_free (.inr (.inl rfl))
end Kw
set_option Elab.async false
set_option linter.all false
set_option maxRecDepth 100000
set_option maxHeartbeats 4000000
namespace Prf
open PySem PySem.Spec PyProof.Rows L2 Kw
noncomputable def top (i : Nat) : Stmt := PySem.Challenge.pw_knockwright_k92_bodies_kept.main.body.getD i (.Pass ⟨0, 0, 0, 0⟩)
structure Tx (K : PySem.W.Frag) (mg : Str → Option Value) (CK : Addr) (C : Nat → Addr) (w : World) : Prop where
  b_isinstance : mg "isinstance" = none
  b_int : mg "int" = none
  b_bool : mg "bool" = none
  b_tuple : mg "tuple" = none
  b_list : mg "list" = none
  b_str : mg "str" = none
  b_abs : mg "abs" = none
  b_len : mg "len" = none
  b_divmod : mg "divmod" = none
  b_range : mg "range" = none
  b_max : mg "max" = none
  b_min : mg "min" = none
  b_reversed : mg "reversed" = none
  b_all : mg "all" = none
  b_ValueError : mg "ValueError" = none
  c_KnockError : mg "KnockError" = some (.ref CK)
  c_NoBody : mg "NoBody" = some (.ref (C 0))
  c_NoMoment : mg "NoMoment" = some (.ref (C 1))
  c_NoNumber : mg "NoNumber" = some (.ref (C 2))
  c_NoRow : mg "NoRow" = some (.ref (C 3))
  c_TooMany : mg "TooMany" = some (.ref (C 4))
  c_NoWorld : mg "NoWorld" = some (.ref (C 5))
  c_Crowd : mg "Crowd" = some (.ref (C 6))
  R : Refs K CK C 7 5
  rd : PySem.W.readsIn K CK (.type "type") = true
  fc : PySem.W.findCls K (.ref CK) (.type "type") "__init__" = some (.val (.builtin "ValueError.__init__"))
  gs : PySem.W.specialIn K (.ref CK) "__getattribute__" = some (some (.builtin "type.__getattribute__"))
  n_NoWorld_at : NoAttr K (C 5) "at"
  n_Crowd_moment : NoAttr K (C 6) "moment"
  n_Crowd_place : NoAttr K (C 6) "place"
  n_Crowd_numbers : NoAttr K (C 6) "numbers"
  s_NoBody_KnockError : PySem.W.subIn K (.ref (C 0)) (.ref CK) = some true
  s_NoRow_KnockError : PySem.W.subIn K (.ref (C 3)) (.ref CK) = some true
  s_TooMany_KnockError : PySem.W.subIn K (.ref (C 4)) (.ref CK) = some true
  s_NoWorld_KnockError : PySem.W.subIn K (.ref (C 5)) (.ref CK) = some true
  c_Desk : mg "Desk" = some (.ref (C 7))
  cl_Desk : Cls K (C 7)
  mk_Desk : PySem.W.makesIn K (C 7) = true
  kp_Desk : PySem.W.keepIn K (.ref (C 7)) = true
  n_Desk_kept : NoAttr K (C 7) "kept"
  k_LONG_BITS : ∃ t, mg "LONG_BITS" = some (.int 4000 t)
  k_MOST_WEIGHT : ∃ t, mg "MOST_WEIGHT" = some (.int 1000 t)
  k_MOST_BODIES : ∃ t, mg "MOST_BODIES" = some (.int 12 t)
  k_MOST_FIGURES : ∃ t, mg "MOST_FIGURES" = some (.int 100 t)
  k_MOST_KEPT : ∃ t, mg "MOST_KEPT" = some (.int 6 t)
  k_FIGURES : ∃ t, mg "FIGURES" = some (.str "0123456789" t)
  k_NOUGHT : ∃ N, mg "NOUGHT" = some (.ref N) ∧ ∀ H, SqT K H N [.int 0, .int 1]
  k_TOO_GREAT : ∃ t, mg "TOO_GREAT" = some (.int 10000 t)
  k_FORMS : ∃ D, mg "FORMS" = some (.ref D) ∧ FormsK K w D
  x_KnockError : ExcC K CK
section
variable {P : Program} {w : World} {K : PySem.W.Frag} {mg : Str → Option Value} {base : Heap} {CK : Addr} {C : Nat → Addr}
theorem Tx.x_NoBody (T : Tx K mg CK C w) : ExcC K (C 0) := T.R.x 0 (by decide) (by decide)
theorem Tx.x_NoRow (T : Tx K mg CK C w) : ExcC K (C 3) := T.R.x 3 (by decide) (by decide)
theorem Tx.x_TooMany (T : Tx K mg CK C w) : ExcC K (C 4) := T.R.x 4 (by decide) (by decide)
theorem Tx.o_NoWorld (T : Tx K mg CK C w) : excO K (C 5) = true := T.R.o 5 (by decide) (by decide)
theorem Tx.p_NoWorld (T : Tx K mg CK C w) : PySem.W.keepIn K (.ref (C 5)) = true := T.R.kp 5 (by decide)
theorem sc_NoWorld___init__ : FnScope ["self", "at"] ["self", "at"] (defScope (mthOf (top 8))) := ⟨rfl, rfl, rfl, by decide +kernel, rfl, by decide +kernel, by decide +kernel⟩
theorem ok_NoWorld___init__ (D : DfI K (C 5) "NoWorld.__init__" (mthOf (top 8)) ["self", "at"]) (T : Tx K mg CK C w) : FnI P w K mg base 1 (C 5) ["self", "at"] (spInitN (C 5) ["at"]) := by
  refine D.ok sc_NoWorld___init__ (fun vs H Q E h => ?_) (fun f cdv A outer s H vs Q E hr h => ?_)
  · obtain ⟨x, ys, rfl, hl, _⟩ := h
    exact congrArg Nat.succ hl
  obtain ⟨x, ys, rfl, hl, hx, q⟩ := h
  obtain ⟨y0, rfl⟩ : ∃ y0, ys = [y0] := List.length_eq_one_iff.mp hl
  refine ⟨_, (pss_cons (ps_expr (pe_base (by rfl) T.c_KnockError T.rd T.fc T.gs (pa_cons (pv 0) (pa_cons (pv 1) pa_nil))))
      (pss_one (ps_xf (pv 0) (pv 1)))), ?_⟩
  refine ⟨_, rfl, _, rfl, x, C 5, none, [y0], rfl, hx, T.o_NoWorld, (by show 1 ≤ sizeLine; decide), ?_⟩
  refine ⟨_, rfl, _, rfl, x, C 5, rfl, T.R.c 5 (by decide) (by decide), T.n_NoWorld_at, .inl ⟨hx, fun d hd => ?_⟩⟩
  obtain ⟨H0, q0, b0, x0, d0⟩ := dressO (Xd d [("at", y0)]) (Xo x (C 5) (some d)) hx hd
  dsimp only
  rw [q0]
  exact q d H0 (fun z => by rw [z, hx] at hd; cases hd) b0 x0 d0
theorem Tx.o_Crowd (T : Tx K mg CK C w) : excO K (C 6) = true := T.R.o 6 (by decide) (by decide)
theorem Tx.p_Crowd (T : Tx K mg CK C w) : PySem.W.keepIn K (.ref (C 6)) = true := T.R.kp 6 (by decide)
theorem sc_Crowd___init__ : FnScope ["self", "moment", "place", "numbers"] ["self", "moment", "place", "numbers"] (defScope (mthOf (top 9))) := ⟨rfl, rfl, rfl, by decide +kernel, rfl, by decide +kernel, by decide +kernel⟩
theorem ok_Crowd___init__ (D : DfI K (C 6) "Crowd.__init__" (mthOf (top 9)) ["self", "moment", "place", "numbers"]) (T : Tx K mg CK C w) : FnI P w K mg base 1 (C 6) ["self", "moment", "place", "numbers"] (spInitN (C 6) ["moment", "place", "numbers"]) := by
  refine D.ok sc_Crowd___init__ (fun vs H Q E h => ?_) (fun f cdv A outer s H vs Q E hr h => ?_)
  · obtain ⟨x, ys, rfl, hl, _⟩ := h
    exact congrArg Nat.succ hl
  obtain ⟨x, ys, rfl, hl, hx, q⟩ := h
  obtain ⟨y0, y1, y2, rfl⟩ : ∃ y0 y1 y2, ys = [y0, y1, y2] := match ys, hl with | [y0, y1, y2], _ => ⟨y0, y1, y2, rfl⟩
  refine ⟨_, (pss_cons (ps_expr (pe_base (by rfl) T.c_KnockError T.rd T.fc T.gs (pa_cons (pv 0) (pa_cons (pv 1) (pa_cons (pv 2) (pa_cons (pv 3) pa_nil))))))
      (pss_cons (ps_xf (pv 0) (pv 1))
      (pss_cons (ps_xf (pv 0) (pv 2))
      (pss_one (ps_xf (pv 0) (pv 3)))))), ?_⟩
  refine ⟨_, rfl, _, rfl, _, rfl, _, rfl, x, C 6, none, [y0, y1, y2], rfl, hx, T.o_Crowd, (by show 3 ≤ sizeLine; decide), ?_⟩
  refine ⟨_, rfl, _, rfl, x, C 6, rfl, T.R.c 6 (by decide) (by decide), T.n_Crowd_moment, .inl ⟨hx, fun d hd => ?_⟩⟩
  obtain ⟨H0, q0, b0, x0, d0⟩ := dressO (Xd d [("moment", y0)]) (Xo x (C 6) (some d)) hx hd
  dsimp only
  rw [q0]
  refine ⟨_, rfl, _, rfl, x, C 6, rfl, T.R.c 6 (by decide) (by decide), T.n_Crowd_place, .inr ⟨d, [("moment", y0)], x0, d0, (by show 1 < 1000; decide), ?_⟩⟩
  have pf1 : putF "place" y1 [("moment", y0)] = ([("moment", y0), ("place", y1)] : List (Str × V)) := rfl
  obtain ⟨H1, q1, b1, x1, d1⟩ := putO (Xd d [("moment", y0), ("place", y1)]) hd hx b0 x0
  dsimp only
  rw [pf1, q1]
  refine ⟨_, rfl, _, rfl, x, C 6, rfl, T.R.c 6 (by decide) (by decide), T.n_Crowd_numbers, .inr ⟨d, [("moment", y0), ("place", y1)], x1, d1, (by show 2 < 1000; decide), ?_⟩⟩
  have pf2 : putF "numbers" y2 [("moment", y0), ("place", y1)] = ([("moment", y0), ("place", y1), ("numbers", y2)] : List (Str × V)) := rfl
  obtain ⟨H2, q2, b2, x2, d2⟩ := putO (Xd d [("moment", y0), ("place", y1), ("numbers", y2)]) hd hx b1 x1
  dsimp only
  rw [pf2, q2]
  exact q d H2 (fun z => by rw [z, hx] at hd; cases hd) b2 x2 d2
theorem sc_is_whole : FnScope ["thing"] ["thing"] (defScope (top 13)) := ⟨rfl, rfl, rfl, by decide +kernel, rfl, by decide +kernel, by decide +kernel⟩
theorem ok_is_whole (D : Df K mg "is_whole" (top 13) ["thing"]) (T : Tx K mg CK C w) : Fn P w K mg base 1 "is_whole" ["thing"] (spWhole K) := by
  refine D.ok0 sc_is_whole (fun vs H Q E h => ?_) (fun f cdv A outer s H vs Q E hr h => ?_)
  · obtain ⟨x, t, b1, b2, rfl, _⟩ := h
    rfl
  obtain ⟨x, t, b1, b2, rfl, ty, k1, k2, q⟩ := h
  refine ⟨_, (pss_one (ps_ret (pe_and (pe_callB call_isinst (by rfl) T.b_isinstance PyProof.Rows.Boot.«isinstance» (pa_cons (pv 0) (pa_cons (pe_bty (by rfl) T.b_int PyProof.Rows.Boot.«int») pa_nil))) (pe_one (pe_not (pe_callB call_isinst (by rfl) T.b_isinstance PyProof.Rows.Boot.«isinstance» (pa_cons (pv 0) (pa_cons (pe_bty (by rfl) T.b_bool PyProof.Rows.Boot.«bool») pa_nil)))))))), ?_⟩
  refine ⟨_, rfl, x, _, b1, rfl, .inl ⟨_, rfl⟩, ⟨t, ty, k1⟩, b1, rfl, ?_⟩
  cases b1 with
  | false => exact iteF q
  | true => exact iteT ⟨_, rfl, x, _, b2, rfl, .inl ⟨_, rfl⟩, ⟨t, ty, k2⟩, b2, rfl, q⟩
theorem sc_common_divisor : FnScope ["one", "other", "great", "small", "steps", "rest"] ["one", "other"] (defScope (top 15)) := ⟨rfl, rfl, rfl, by decide +kernel, rfl, by decide +kernel, by decide +kernel⟩
theorem ok_common_divisor (D : Df K mg "common_divisor" (top 15) ["one", "other"]) (T : Tx K mg CK C w) : Fn P w K mg base 1 "common_divisor" ["one", "other"] spGcdB := by
  refine D.ok0 sc_common_divisor (fun vs H Q E h => ?_) (fun f cdv A outer s H vs Q E hr h => ?_)
  · obtain ⟨a, b, rfl, _⟩ := h
    rfl
  obtain ⟨a, b, rfl, hb, q⟩ := h
  refine ⟨_, (pss_cons (ps_set (i := 2) sc_common_divisor.nd rfl (Or.inl rfl) (pe_callB call_abs (by rfl) T.b_abs PyProof.Rows.Boot.«abs» (pa_cons (pv 0) pa_nil)))
      (pss_cons (ps_set (i := 3) sc_common_divisor.nd rfl (Or.inl rfl) (pe_callB call_abs (by rfl) T.b_abs PyProof.Rows.Boot.«abs» (pa_cons (pv 1) pa_nil)))
      (pss_cons (ps_while PassesOwn.never (pt_cmpR op_gt (pe_bm0 PySem.F.plainAttrs_int PySem.F.slot_int_bit_length PySem.F.type_int_bit_length mt_bits (pe_callB (call_min2 rfl) (by rfl) T.b_min PyProof.Rows.Boot.«min» (pa_cons (pv 2) (pa_cons (pv 3) pa_nil)))) (pe_globI (by rfl) T.k_LONG_BITS) (nomark _)) pss_never)
      (pss_cons (ps_while PassesOwn.never (pt_cmpR op_gt (pv 3) pe_int (nomark _)) (pss_cons (ps_set (i := 5) sc_common_divisor.nd rfl (Or.inl rfl) (pe_op op_mod (pv 2) (pv 3)))
      (pss_cons (ps_set (i := 2) sc_common_divisor.nd rfl (Or.inl rfl) (pv 3))
      (pss_one (ps_set (i := 3) sc_common_divisor.nd rfl (Or.inl rfl) (pv 5))))))
      (pss_one (ps_ret (pv 2))))))), ?_⟩
  refine ⟨_, rfl, _, rfl, _, rfl, _, rfl, ?_⟩
  refine ⟨fun m σ' H' => ∃ r1 r2 : Option V, σ' = [some (.int a), some (.int b), some (.int (if a < 0 then -a else a)), some (.int (if b < 0 then -b else b)), r1, r2] ∧ H' = H, ⟨0, _, _, rfl, rfl⟩, ?_⟩
  rintro m σ' H' ⟨r1, r2, rfl, rfl⟩
  refine ⟨_, rfl, _, rfl, _, _, rfl, rfl, _, rfl, rfl, _, _, rfl, rfl, _, rfl, ?_⟩
  refine if_dec (fun c => absurd c (short_min hb)) (fun _ => ?_)
  refine ⟨fun m σ' H2 => ∃ g s : Int, ∃ r1 r2 : Option V, σ' = [some (.int a), some (.int b), some (.int g), some (.int s), r1, r2] ∧ H2 = H' ∧ 0 ≤ g ∧ 0 ≤ s ∧ m = s.toNat ∧ Int.gcd g s = Int.gcd a b, ⟨_, _, _, _, _, rfl, rfl, abs_nn a, abs_nn b, rfl, gcd_abs a b⟩, ?_⟩
  rintro m σ' H2 ⟨g, s, r1, r2, rfl, rfl, hg, hs, rfl, e⟩
  refine ⟨_, rfl, _, _, rfl, rfl, _, rfl, ?_⟩
  refine if_dec (fun c => ?_) (fun c => ?_)
  · refine ⟨_, fun _ _ n => n, ?_⟩
    refine ⟨_, rfl, _, rfl, _, _, rfl, rfl, c, _, rfl, _, rfl, ?_⟩
    have l := Int.emod_lt_of_pos g c
    have l0 := Int.emod_nonneg g (show s ≠ 0 by omega)
    exact ⟨_, by omega, s, g % s, _, _, rfl, rfl, by omega, l0, rfl, (gcd_step g s hg c).trans e⟩
  · refine ⟨_, rfl, ?_⟩
    have s0 : s = 0 := by omega
    subst s0
    have z := gcd_end g hg
    rw [e] at z
    rw [← z]
    exact q
noncomputable def sp_under (K : PySem.W.Frag) : Sp := fun vs H Q _ => ∃ (p_x : Addr) (x : Rat) (p_y : Addr) (y : Rat), vs = [.ref p_x, .ref p_y] ∧ FQ K H p_x x ∧ FB 8900 x ∧ FQ K H p_y y ∧ FB 8900 y ∧ (∀  (H1 : Hp), Same H H1 → Q (.bl (decide (x < y))) H1)
theorem sc_under : FnScope ["one", "other"] ["one", "other"] (defScope (top 22)) := ⟨rfl, rfl, rfl, by decide +kernel, rfl, by decide +kernel, by decide +kernel⟩
theorem ok_under (D : Df K mg "under" (top 22) ["one", "other"]) (T : Tx K mg CK C w) : Fn P w K mg base 1 "under" ["one", "other"] (sp_under K) := by
  refine D.ok0 sc_under (fun vs H Q E h => ?_) (fun f cdv A outer s H vs Q E hr h => ?_)
  · obtain ⟨p_x, x, p_y, y, rfl, _⟩ := h
    rfl
  obtain ⟨p_x, x, p_y, y, rfl, g_x, d_x, g_y, d_y, k0⟩ := h
  refine ⟨_, (pss_one (ps_ret (pe_cmpR op_lt (pe_op op_mulB (pe_ix ix_tup (pv 0) pe_int (fun _ _ => rfl)) (pe_ix ix_tup (pv 1) pe_int (fun _ _ => rfl))) (pe_op op_mulB (pe_ix ix_tup (pv 1) pe_int (fun _ _ => rfl)) (pe_ix ix_tup (pv 0) pe_int (fun _ _ => rfl))) (nomark _)))), ?_⟩
  refine ⟨_, rfl, p_x, _, _, _, rfl, rfl, g_x, rfl, _, rfl, p_y, _, _, _, rfl, rfl, g_y, rfl, _, _, rfl, rfl, (d_x.1.ok d_y.2 (by decide)), _, rfl, p_y, _, _, _, rfl, rfl, g_y, rfl, _, rfl, p_x, _, _, _, rfl, rfl, g_x, rfl, _, _, rfl, rfl, (d_y.1.ok d_x.2 (by decide)), _, _, rfl, rfl, ?_⟩
  try dsimp only
  rw [show decide (((x).num * (((y).den : Nat) : Int)) < ((y).num * (((x).den : Nat) : Int))) = decide (x < y) from decide_eq_decide.mpr (by exact (q_lt x y).symm)]
  exact k0 _ (Same.refl _)
theorem lg_of {i : Int} (h : Bd 1900 i) : i.natAbs.log2 < 1920 := by
  by_cases h0 : i.natAbs = 0
  · rw [h0]; decide +kernel
  · exact (Nat.log2_lt h0).mpr (Nat.lt_of_lt_of_le h (Nat.pow_le_pow_right (by decide) (by decide)))
theorem bd_fig {i : Int} (h0 : 0 ≤ i) (h1 : i < 10 ^ 128) : Bd 1900 i := by
  have e : (10 : Int) ^ 128 ≤ 2 ^ 426 := by decide +kernel
  have : Bd 426 i := by
    unfold Bd
    have e2 : ((2 ^ 426 : Nat) : Int) = (2 : Int) ^ 426 := Int.natCast_pow 2 426
    omega
  exact this.mono (by decide)
theorem sh_bd {i : Int} (l : lng i = false) : ((i.natAbs : Nat) : Int) < 10 ^ 100 := by
  unfold lng at l
  have l' := of_decide_eq_false l
  have e2 : ((10 ^ 100 : Nat) : Int) = (10 : Int) ^ 100 := Int.natCast_pow 10 100
  omega
theorem sh_bd2 {i : Int} (l : lng i = false) : ((i.natAbs : Nat) : Int) < 10 ^ 128 := by
  have := sh_bd l
  have e : (10 : Int) ^ 100 ≤ 10 ^ 128 := by decide +kernel
  omega
theorem bd_abs {i : Int} (h : ((i.natAbs : Nat) : Int) < 10 ^ 128) : Bd 1900 i := by
  have := bd_fig (i := ((i.natAbs : Nat) : Int)) (by omega) h
  exact this.of_le (by omega)
noncomputable def spReadW : Sp := fun vs H Q _ => ∃ z : Str, vs = [.str z] ∧ z.length ≤ 90000 ∧ ∀ (v : V) (H' : Hp), Same H H' → RdN z v → Q v H'
theorem sc_read_whole : FnScope ["word", "figures", "number"] ["word"] (defScope (top 105)) := ⟨rfl, rfl, rfl, by decide +kernel, rfl, by decide +kernel, by decide +kernel⟩
theorem ok_read_whole (D : Df K mg "read_whole" (top 105) ["word"]) (T : Tx K mg CK C w) : Fn P w K mg base 1 "read_whole" ["word"] spReadW := by
  refine D.ok0 sc_read_whole (fun vs H Q E h => ?_) (fun f cdv A outer s H vs Q E hr h => ?_)
  · obtain ⟨z, rfl, _⟩ := h
    rfl
  obtain ⟨z, rfl, zl, kk0⟩ := h
  have ky : ∀ n, isN z n → ∀ H', Same H H' → Q (.int n) H' := fun n h H' s => kk0 _ H' s (.inl ⟨n, h, rfl⟩)
  have kn : (¬ ∃ n, isN z n) → ∀ H', Same H H' → Q .non H' := fun h H' s => kk0 _ H' s (.inr ⟨h, rfl⟩)
  refine ⟨_, (pss_cons (ps_set (i := 1) sc_read_whole.nd rfl (Or.inl rfl) (pe_ifExp (pt_val (pe_bm PySem.F.plainAttrs_str PySem.F.slot_str_startswith PySem.F.type_str_startswith mt_starts (pv 0) (pa_cons pe_str pa_nil)) (fun _ => rfl)) (pe_slice sl_str (pv 0) (po_some pe_int) po_none) (pv 0)))
      (pss_cons (ps_if (pt_not (pt_chain op_le op_le pe_int (pe_callB call_len (by rfl) T.b_len PyProof.Rows.Boot.«len» (pa_cons (pv 1) pa_nil)) (pe_globI (by rfl) T.k_MOST_FIGURES))) (pss_one (ps_ret pe_non)) pss_nil)
      (pss_cons (ps_if (pt_not (pt_val (pe_callB (call_all (K := K) rfl rfl) (by rfl) T.b_all PyProof.Rows.Boot.«all» (pa_cons (@pe_lc _ _ _ _ _ _ _ _ _ _ [] [] rfl (pi_str (pv 1)) rfl (by decide) rfl (by decide) rfl (by decide) cap_none (fun _ _ h => nomatch h) (no_free rfl) (fun C z Hc fp => (pe_cmpR op_in_str (pv 0) (pe_globS (by rfl) T.k_FIGURES) (by first | rfl | with_unfolding_all rfl))) (fun _ => rfl)) pa_nil)) (fun _ => rfl))) (pss_one (ps_ret pe_non)) pss_nil)
      (pss_cons (ps_set (i := 2) sc_read_whole.nd rfl (Or.inl rfl) (pe_callTy call_int_txt (by rfl) T.b_int PyProof.Rows.Boot.«int» (pa_cons (pv 0) pa_nil)))
      (pss_one (ps_ret (pe_ifExp (pt_cmpR op_eq (pe_callTy call_str_int (by rfl) T.b_str PyProof.Rows.Boot.«str» (pa_cons (pv 2) pa_nil)) (pv 0) (nomark _)) (pv 2) pe_non))))))), ?_⟩
  have fl := fgS_len z
  refine cut1 (fun σ' H' => σ' = [some (.str z), some (.str (fgS z)), none] ∧ H' = H) (fun N hN => ?_) ?_
  · refine ⟨_, rfl, rfl, _, _, rfl, rfl, _, rfl, ?_⟩
    rw [starts_minus]
    refine if_dec (fun c => ?_) (fun c => ?_)
    · refine ⟨_, rfl, _, rfl, z, rfl, rfl, rfl, ?_, by omega, ?_⟩
      · rw [Kw.len_signs]
        cases e : z.cps.toList with
        | nil => rw [e] at c; cases c
        | cons d r => simp
      refine hN _ _ ⟨?_, rfl⟩
      unfold fgS
      rw [if_pos c]
      rfl
    · refine ⟨_, rfl, ?_⟩
      refine hN _ _ ⟨?_, rfl⟩
      unfold fgS
      rw [if_neg c]
      rfl
  rintro σ' H0 ⟨rfl, rfl⟩
  have no : ∀ {n : Int}, isN z n → PySem.NumText.AllDigits (fgS z).cps.toList ∧ 1 ≤ (fgS z).length ∧ (fgS z).length ≤ 100 := fun {n} h => by
    have y := fig_yes h.figs (by omega)
    exact ⟨y.1, y.2.1, y.2.2.1⟩
  refine ⟨_, rfl, _, _, rfl, ⟨by rw [sizeLine_eq]; omega, rfl⟩, _, _, rfl, rfl, _, rfl, ?_⟩
  refine if_dec (fun c1 => ?_) (fun c1 => ?_)
  · refine ⟨_, _, rfl, rfl, _, rfl, ?_⟩
    refine if_not (fun c2 => ?_) (fun c2 => ?_)
    · exact kn (fun ⟨n, h⟩ => c2 (by have := (no h).2.2; omega)) _ (Same.refl _)
    · refine ⟨_, rfl, fgS z, rfl, lc_str (z := fgS z) (fun k ys H' => H0 = H' ∧ k ≤ (fgS z).cps.toList.length ∧ ys = (((fgS z).cps.toList.take k).map dgB).map V.bl) ⟨rfl, Nat.zero_le _, rfl⟩ (by omega) (fun k ys H' ⟨_, l, e⟩ => by rw [e]; simp only [List.length_map, List.length_take]; omega) ?_ ?_⟩
      · rintro k c' ys H' Q' hc ⟨rfl, hl, rfl⟩ kk
        refine ⟨_, rfl, ⟨#[c']⟩, Str.ofString "0123456789", rfl, rfl, ?_⟩
        rw [in_figs]
        have kl := (List.getElem?_eq_some_iff.mp hc).1
        exact kk _ _ ⟨rfl, by omega, by rw [List.take_add_one, hc, List.map_append, List.map_append]; rfl⟩
      rintro ys H' ⟨rfl, _, rfl⟩
      rw [Kw.len_signs, List.take_length]
      intro p5 n5
      obtain ⟨H5, q5, s5, e5⟩ := newO n5 (.lst (((fgS z).cps.toList.map dgB).map V.bl))
      rw [q5]
      clear q5
      refine ⟨p5, _, rfl, SqL.of e5, _, rfl, ?_⟩
      by_cases ad : PySem.NumText.AllDigits (fgS z).cps.toList
      · rw [all_figs.mpr ad]
        refine iteF ?_
        obtain ⟨m, hm, wl, ml⟩ := whole_int ad (by omega) (by omega)
        refine ⟨_, rfl, z, m, rfl, by omega, hm, ?_⟩
        refine ⟨_, rfl, _, rfl, lg_of (bd_abs (sh_bd2 ml)), _, rfl, rfl, _, rfl, ?_⟩
        by_cases e : nT m = z
        · rw [show decide (V.str (Str.ofString (toString m)) = V.str z) = true from decide_eq_true (congrArg V.str e)]
          exact iteT ⟨_, rfl, ky m ⟨e.symm, ml⟩ _ s5⟩
        · rw [show decide (V.str (Str.ofString (toString m)) = V.str z) = false from decide_eq_false (fun y => e (by injection y))]
          refine iteF (kn (fun ⟨n, h⟩ => e ?_) _ s5)
          have y := h.read
          rw [hm] at y
          cases y
          exact h.1.symm
      · have na : ((fgS z).cps.toList.map dgB).all id = false := by
          cases e : ((fgS z).cps.toList.map dgB).all id with
          | false => rfl
          | true => exact absurd (all_figs.mp e) ad
        rw [na]
        refine iteT ?_
        exact kn (fun ⟨n, h⟩ => ad (no h).1) _ s5
  · refine ⟨_, rfl, iteT ?_⟩
    exact kn (fun ⟨n, h⟩ => c1 (by have := (no h).2.1; omega)) _ (Same.refl _)
noncomputable def spReadF (K : PySem.W.Frag) : Sp := fun vs H Q _ => ∃ z : Str, vs = [.str z] ∧ z.length ≤ 90000 ∧ ∀ (v : V) (H' : Hp), Same H H' → RdF K H' z v → Q v H'
theorem sc_read_fraction : FnScope ["word", "parts", "top", "bottom"] ["word"] (defScope (top 106)) := ⟨rfl, rfl, rfl, by decide +kernel, rfl, by decide +kernel, by decide +kernel⟩
theorem ok_read_fraction (D : Df K mg "read_fraction" (top 106) ["word"]) (T : Tx K mg CK C w) (F_read_whole : Fn P w K mg base 1 "read_whole" ["word"] spReadW) : Fn P w K mg base 2 "read_fraction" ["word"] (spReadF K) := by
  refine D.ok0 sc_read_fraction (fun vs H Q E h => ?_) (fun f cdv A outer s H vs Q E hr h => ?_)
  · obtain ⟨z, rfl, _⟩ := h
    rfl
  obtain ⟨z, rfl, zl, k⟩ := h
  refine ⟨_, (pss_cons (ps_set (i := 1) sc_read_fraction.nd rfl (Or.inl rfl) (pe_bm PySem.F.plainAttrs_str PySem.F.slot_str_split PySem.F.type_str_split (mt_split (K := K)) (pv 0) (pa_cons pe_str pa_nil)))
      (pss_cons (ps_set (i := 2) sc_read_fraction.nd rfl (Or.inl rfl) (pe_fn F_read_whole (by decide) hr (by rfl) passE0 (pa_cons (pe_ix ix_list (pv 1) pe_int (fun _ _ => rfl)) pa_nil)))
      (pss_cons (ps_if (pt_cmpR op_eq (pe_callB call_len (by rfl) T.b_len PyProof.Rows.Boot.«len» (pa_cons (pv 1) pa_nil)) pe_int (nomark _)) (pss_one (ps_ret (pe_ifExp (pt_cmpR op_isN (pv 2) pe_non (nomark _)) pe_non (pe_tup (pa_cons (pv 2) (pa_cons pe_int pa_nil)))))) pss_nil)
      (pss_cons (ps_set (i := 3) sc_read_fraction.nd rfl (Or.inl rfl) (pe_fn F_read_whole (by decide) hr (by rfl) passE0 (pa_cons (pe_ix ix_list (pv 1) pe_int (fun _ _ => rfl)) pa_nil)))
      (pss_cons (ps_if (pw_or (pt_cmpR op_gt (pe_callB call_len (by rfl) T.b_len PyProof.Rows.Boot.«len» (pa_cons (pv 1) pa_nil)) pe_int (nomark _)) (pw_or (pt_cmpR op_isN (pv 3) pe_non (nomark _)) (pw_or1 (pt_cmpR op_eq (pv 3) pe_int (nomark _))))).pt (pss_one (ps_ret pe_non)) pss_nil)
      (pss_one (ps_ret (pe_tup (pa_cons (pv 2) (pa_cons (pv 3) pa_nil)))))))))), ?_⟩
  refine ⟨_, rfl, rfl, z, Str.ofString "/", rfl, rfl, by decide +kernel, by omega, ?_⟩
  obtain ⟨ps, hs⟩ : ∃ ps, Txt.split z (Str.ofString "/") = ps := ⟨_, rfl⟩
  have l1 : 1 ≤ ps.length := by rw [← hs]; exact split_pos z _
  have pl : ∀ p ∈ ps, p.length ≤ 90000 := fun p hp => by
    rw [← hs, sep_over] at hp
    have := split_len hp
    omega
  have lm : ps.length ≤ 90001 := by
    have := split_many (w := z) (c := 47)
    rw [← sep_over, hs] at this
    omega
  rw [hs]
  rcases one_two ps l1 with ⟨p, rfl⟩ | ⟨p, r, rfl⟩ | l3
  · skip
    intro p1 n1
    obtain ⟨H1, q1, s1, e1⟩ := newO n1 (.lst ([p].map V.str))
    rw [q1]
    clear q1
    replace e1 : H1 p1 = some (.lst [.str p]) := e1
    refine ⟨_, rfl, p1, _, _, _, rfl, rfl, SqL.of e1, rfl, p, rfl, pl p (by simp), fun v H2 s2 rd => ?_⟩
    refine ⟨_, rfl, _, _, rfl, .inl ⟨_, SqL.of (s2 _ _ e1), rfl⟩, rfl, _, rfl, iteT ?_⟩
    rcases rd with ⟨n, hn, rfl⟩ | ⟨hn, rfl⟩
    · refine ⟨_, rfl, rfl, _, rfl, iteF ⟨_, rfl, by show 2 ≤ sizeLine; decide, ?_⟩⟩
      intro p3 n3
      obtain ⟨H3, q3, s3, e3⟩ := newO n3 (.tup [.int n, .int 1])
      rw [q3]
      clear q3
      exact k _ _ (s1.trans (s2.trans s3)) (.inl ⟨(n : Rat), p3, (isF_one hs).mpr ⟨rfl, hn⟩, rfl, FH.ofInt e3⟩)
    · refine ⟨_, rfl, rfl, _, rfl, iteT ?_⟩
      exact k _ _ (s1.trans s2) (.inr ⟨fun ⟨q, hq⟩ => hn ⟨_, ((isF_one hs).mp hq).2⟩, fracC_non⟩)
  · skip
    intro p1 n1
    obtain ⟨H1, q1, s1, e1⟩ := newO n1 (.lst ([p, r].map V.str))
    rw [q1]
    clear q1
    replace e1 : H1 p1 = some (.lst [.str p, .str r]) := e1
    refine ⟨_, rfl, p1, _, _, _, rfl, rfl, SqL.of e1, rfl, p, rfl, pl p (by simp), fun v H2 s2 rd => ?_⟩
    have e12 := s2 _ _ e1
    refine ⟨_, rfl, _, _, rfl, .inl ⟨_, SqL.of e12, rfl⟩, rfl, _, rfl, iteF ?_⟩
    refine ⟨_, rfl, p1, _, _, _, rfl, rfl, SqL.of e12, rfl, r, rfl, pl r (by simp), fun v2 H3 s3 rd2 => ?_⟩
    have s13 := s1.trans (s2.trans s3)
    have e13 := s3 _ _ e12
    refine ⟨_, rfl, _, _, rfl, .inl ⟨_, SqL.of e13, rfl⟩, _, _, rfl, rfl, _, rfl, iteF ?_⟩
    rcases rd2 with ⟨d, hd, rfl⟩ | ⟨hd, rfl⟩
    · refine ⟨_, rfl, rfl, _, rfl, iteF ?_⟩
      refine ⟨_, rfl, rfl, _, rfl, ?_⟩
      refine if_decI (fun d1 => ?_) (fun d1 => ?_)
      · refine k _ _ s13 (.inr ⟨fun ⟨q, hq⟩ => ?_, fracC_non⟩)
        obtain ⟨c1, c2, c3⟩ := (isF_two hs).mp hq
        exact c1 ((c3.uniq hd).trans d1)
      · refine ⟨_, rfl, _, rfl, by show 2 ≤ sizeLine; decide, ?_⟩
        have bd : Bd 3000 d := (bd_abs (sh_bd2 hd.2)).mono (by decide)
        rcases rd with ⟨n, hn, rfl⟩ | ⟨hn, rfl⟩
        · skip
          intro p4 n4
          obtain ⟨H4, q4, s4, e4⟩ := newO n4 (.tup [.int n, .int d])
          rw [q4]
          clear q4
          have bn : Bd 3000 n := (bd_abs (sh_bd2 hn.2)).mono (by decide)
          by_cases good : 1 ≤ d ∧ Int.gcd n d = 1
          · have ez := q_of (n := n) (d := d) (by omega) good.2
            have fq : isF z (Rat.divInt n d) := (isF_two hs).mpr ⟨by rw [ez.2]; exact d1, by rw [ez.1]; exact hn, by rw [ez.2]; exact hd⟩
            exact k _ _ (s13.trans s4) (.inl ⟨_, p4, fq, rfl, FH.lit e4 (by omega) good.2⟩)
          · refine k _ _ (s13.trans s4) (.inr ⟨fun ⟨q, hq⟩ => good ?_, .inr (.inr (.inr ⟨p4, n, d, rfl, e4, bn, bd, ?_⟩))⟩)
            · obtain ⟨c1, c2, c3⟩ := (isF_two hs).mp hq
              have a1 := c2.uniq hn
              have a2 := c3.uniq hd
              have g := q.reduced
              unfold Nat.Coprime at g
              have dp := q.den_pos
              subst a1 a2
              exact ⟨by omega, g⟩
            · by_cases c1 : 1 ≤ d
              · rw [decide_eq_true c1, decide_eq_false (fun y => good ⟨c1, by omega⟩)]
                rfl
              · rw [decide_eq_false c1]
                rfl
        · skip
          intro p4 n4
          obtain ⟨H4, q4, s4, e4⟩ := newO n4 (.tup [.non, .int d])
          rw [q4]
          clear q4
          refine k _ _ (s13.trans s4) (.inr ⟨fun ⟨q, hq⟩ => ?_, .inr (.inr (.inl ⟨rfl, p4, .non, .int d, rfl, e4, .inl whN_non⟩))⟩)
          exact hn ⟨_, ((isF_two hs).mp hq).2.1⟩
    · refine ⟨_, rfl, rfl, _, rfl, iteT ?_⟩
      refine k _ _ s13 (.inr ⟨fun ⟨q, hq⟩ => ?_, fracC_non⟩)
      exact hd ⟨_, ((isF_two hs).mp hq).2.2⟩
  · skip
    intro p1 n1
    obtain ⟨H1, q1, s1, e1⟩ := newO n1 (.lst (ps.map V.str))
    rw [q1]
    clear q1
    obtain ⟨x0, hx0⟩ : ∃ x, ps[0]? = some x := ⟨_, List.getElem?_eq_getElem (by omega)⟩
    obtain ⟨x1, hx1⟩ : ∃ x, ps[1]? = some x := ⟨_, List.getElem?_eq_getElem (by omega)⟩
    have at0 : atI (ps.map V.str) 0 = some (.str x0) := atI_nat (j := 0) (by rw [List.getElem?_map, hx0]; rfl)
    have at1 : atI (ps.map V.str) 1 = some (.str x1) := atI_nat (j := 1) (by rw [List.getElem?_map, hx1]; rfl)
    have lmap : (ps.map V.str).length = ps.length := List.length_map ..
    refine ⟨_, rfl, p1, _, _, _, rfl, rfl, SqL.of e1, at0, x0, rfl, pl x0 (List.mem_of_getElem? hx0), fun v H2 s2 rd => ?_⟩
    have e12 := s2 _ _ e1
    refine ⟨_, rfl, _, _, rfl, .inl ⟨_, SqL.of e12, rfl⟩, rfl, _, rfl, ?_⟩
    refine if_decI (fun y => absurd y (by omega)) (fun _ => ?_)
    refine ⟨_, rfl, p1, _, _, _, rfl, rfl, SqL.of e12, at1, x1, rfl, pl x1 (List.mem_of_getElem? hx1), fun v2 H3 s3 rd2 => ?_⟩
    refine ⟨_, rfl, _, _, rfl, .inl ⟨_, SqL.of (s3 _ _ e12), rfl⟩, _, _, rfl, rfl, _, rfl, ?_⟩
    refine if_dec (fun _ => ?_) (fun y => absurd (show (((ps.map V.str).length : Nat) : Int) > 2 by omega) y)
    exact k _ _ (s1.trans (s2.trans s3)) (.inr ⟨fun ⟨q, hq⟩ => isF_more (by rw [hs]; exact l3) hq, fracC_non⟩)
noncomputable def spIsFrac (K : PySem.W.Frag) : Sp := fun vs H Q _ => ∃ x b, vs = [x] ∧ FracB K H x b ∧ Q (.bl b) H
theorem sc_is_fraction : FnScope ["thing", "top", "bottom"] ["thing"] (defScope (top 16)) := ⟨rfl, rfl, rfl, by decide +kernel, rfl, by decide +kernel, by decide +kernel⟩
theorem ok_is_fraction (D : Df K mg "is_fraction" (top 16) ["thing"]) (T : Tx K mg CK C w) (F_is_whole : Fn P w K mg base 1 "is_whole" ["thing"] (spWhole K)) (F_common_divisor : Fn P w K mg base 1 "common_divisor" ["one", "other"] spGcdB) :
    Fn P w K mg base 2 "is_fraction" ["thing"] (spIsFrac K) := by
  refine D.ok0 sc_is_fraction (fun vs H Q E h => ?_) (fun f cdv A outer s H vs Q E hr h => ?_)
  · obtain ⟨x, b, rfl, _⟩ := h
    rfl
  obtain ⟨x, b, rfl, hf, q⟩ := h
  refine ⟨_, (pss_cons (ps_if (pw_or (pt_not (pt_val (pe_callB call_isinst (by rfl) T.b_isinstance PyProof.Rows.Boot.«isinstance» (pa_cons (pv 0) (pa_cons (pe_bty (by rfl) T.b_tuple PyProof.Rows.Boot.«tuple») pa_nil))) (fun _ => rfl))) (pw_or1 (pt_cmpR op_ne (pe_callB call_len (by rfl) T.b_len PyProof.Rows.Boot.«len» (pa_cons (pv 0) pa_nil)) pe_int (nomark _)))).pt (pss_one (ps_ret pe_bl)) pss_nil)
      (pss_cons (ps_set (i := 1) sc_is_fraction.nd rfl (Or.inl rfl) (pe_ix ix_tup (pv 0) pe_int (fun _ _ => rfl)))
      (pss_cons (ps_set (i := 2) sc_is_fraction.nd rfl (Or.inl rfl) (pe_ix ix_tup (pv 0) pe_int (fun _ _ => rfl)))
      (pss_cons (ps_if (pw_or (pt_not (pt_val (pe_fn F_is_whole (by decide) hr (by rfl) passE0 (pa_cons (pv 1) pa_nil)) (fun _ => rfl))) (pw_or1 (pt_not (pt_val (pe_fn F_is_whole (by decide) hr (by rfl) passE0 (pa_cons (pv 2) pa_nil)) (fun _ => rfl))))).pt (pss_one (ps_ret pe_bl)) pss_nil)
      (pss_one (ps_ret (pe_and (pe_cmpR op_ge (pv 2) pe_int (nomark _)) (pe_one (pe_cmpR op_eq (pe_fn F_common_divisor (by decide) hr (by rfl) passE0 (pa_cons (pv 1) (pa_cons (pv 2) pa_nil))) pe_int (nomark _)))))))))), ?_⟩
  rcases hf with ⟨rfl, t, ty, kt⟩ | ⟨rfl, p, xs, rfl, hp, hl⟩ | ⟨rfl, p, u, v, rfl, hp, hn⟩ | ⟨p, i, j, rfl, hp, bj, rfl⟩
  · exact ⟨_, rfl, _, _, false, rfl, .inl ⟨_, rfl⟩, ⟨_, ty, kt⟩, _, rfl, iteT q⟩
  · refine ⟨_, rfl, _, _, true, rfl, .inl ⟨_, rfl⟩, ⟨_, .tup hp, kit_tup_tup⟩, _, rfl, iteF ?_⟩
    refine ⟨_, rfl, _, _, rfl, .inr ⟨_, SqT.of hp, rfl⟩, rfl, _, rfl, ?_⟩
    refine if_neI (fun _ => q) (fun z => ?_)
    exact absurd (show xs.length = 2 by omega) hl
  · refine ⟨_, rfl, _, _, true, rfl, .inl ⟨_, rfl⟩, ⟨_, .tup hp, kit_tup_tup⟩, _, rfl, iteF ?_⟩
    refine ⟨_, rfl, _, _, rfl, .inr ⟨_, SqT.of hp, rfl⟩, rfl, _, rfl, iteF ?_⟩
    refine ⟨_, rfl, p, _, _, _, rfl, rfl, SqT.of hp, rfl, _, rfl, p, _, _, _, rfl, rfl, SqT.of hp, rfl, ?_⟩
    rcases hn with ⟨t, b1, b2, ty, k1, k2, k3⟩ | ⟨⟨i, rfl⟩, t, b1, b2, ty, k1, k2, k3⟩
    · refine ⟨_, rfl, _, _, b1, b2, rfl, ty, k1, k2, _, rfl, ?_⟩
      rw [k3]
      exact iteT q
    · refine ⟨_, rfl, _, _, true, false, rfl, .int i, kit_int_int, kit_int_bool, _, rfl, iteF ?_⟩
      refine ⟨_, rfl, _, _, b1, b2, rfl, ty, k1, k2, _, rfl, ?_⟩
      rw [k3]
      exact iteT q
  · refine ⟨_, rfl, _, _, true, rfl, .inl ⟨_, rfl⟩, ⟨_, .tup hp, kit_tup_tup⟩, _, rfl, iteF ?_⟩
    refine ⟨_, rfl, _, _, rfl, .inr ⟨_, SqT.of hp, rfl⟩, rfl, _, rfl, iteF ?_⟩
    refine ⟨_, rfl, p, _, _, _, rfl, rfl, SqT.of hp, rfl, _, rfl, p, _, _, _, rfl, rfl, SqT.of hp, rfl, ?_⟩
    refine ⟨_, rfl, _, _, true, false, rfl, .int i, kit_int_int, kit_int_bool, _, rfl, iteF ?_⟩
    refine ⟨_, rfl, _, _, true, false, rfl, .int j, kit_int_int, kit_int_bool, _, rfl, iteF ?_⟩
    refine ⟨_, rfl, _, _, rfl, rfl, _, rfl, ?_⟩
    refine if_dec (fun c => ?_) (fun c => ?_)
    · rw [decide_eq_true c, Bool.true_and] at q
      refine ⟨_, rfl, _, rfl, i, j, rfl, bj, rfl, ?_⟩
      rw [show decide (V.int ((Int.gcd i j : Nat) : Int) = V.int 1) = decide (((Int.gcd i j : Nat) : Int) = 1) by simp only [V.int.injEq]]
      exact q
    · rw [decide_eq_false c, Bool.false_and] at q
      exact q
noncomputable def sp_is_short : Sp := fun vs H Q _ => ∃ i : Int, vs = [.int i] ∧ Q (.bl (decide (-10000 < i ∧ i < 10000))) H
theorem sc_is_short : FnScope ["number"] ["number"] (defScope (top 111)) := ⟨rfl, rfl, rfl, by decide +kernel, rfl, by decide +kernel, by decide +kernel⟩
theorem ok_is_short (D : Df K mg "is_short" (top 111) ["number"]) (T : Tx K mg CK C w)  : Fn P w K mg base 1 "is_short" ["number"] sp_is_short := by
  refine D.ok0 sc_is_short (fun vs H Q E h => ?_) (fun f cdv A outer s H vs Q E hr h => ?_)
  · obtain ⟨i, rfl, _⟩ := h
    rfl
  obtain ⟨i, rfl, q⟩ := h
  refine ⟨_, (pss_one (ps_ret (pe_chain op_lt op_lt (pe_un un_neg (pe_globI (by rfl) T.k_TOO_GREAT)) (pv 0) (pe_globI (by rfl) T.k_TOO_GREAT)))), ?_⟩
  refine ⟨_, rfl, _, rfl, _, _, rfl, rfl, _, rfl, ?_⟩
  refine if_dec (fun c => ?_) (fun c => ?_)
  · refine ⟨_, _, rfl, rfl, ?_⟩
    rw [show decide (-10000 < i ∧ i < 10000) = decide (i < 10000) from decide_eq_decide.mpr ⟨fun h => h.2, fun h => ⟨c, h⟩⟩] at q
    exact q
  · rw [show decide (-10000 < i ∧ i < 10000) = false from decide_eq_false fun h => c h.1] at q
    exact q
noncomputable def sp_is_fitting (K : PySem.W.Frag) : Sp := fun vs H Q _ => ∃ (v : V) (k : String) (z : Str), vs = [v, strV k] ∧ isKd k ∧ ((k = "number" ∧ RdN z v) ∨ (k ≠ "number" ∧ RdF K H z v)) ∧ ∀ (c : Bool) (H1 : Hp), Same H H1 → (c = true → KdV H1 k z v) → (c = false → ¬ KdG k z) → Q (.bl c) H1
theorem rdf_sm {K : PySem.W.Frag} {H : Hp} {z : Str} {v : V} {q : Rat} {p : Addr} (h : isF z q) : FB 3000 q := (sh_bits h.2).mono (by decide)
theorem sc_is_fitting : FnScope ["value", "kind"] ["value", "kind"] (defScope (top 112)) := ⟨rfl, rfl, rfl, by decide +kernel, rfl, by decide +kernel, by decide +kernel⟩
theorem ok_is_fitting (D : Df K mg "is_fitting" (top 112) ["value", "kind"]) (T : Tx K mg CK C w) (F_is_fraction : Fn P w K mg base 2 "is_fraction" ["thing"] (spIsFrac K)) (F_is_short : Fn P w K mg base 1 "is_short" ["number"] sp_is_short) (F_under : Fn P w K mg base 1 "under" ["one", "other"] (sp_under K)) : Fn P w K mg base 3 "is_fitting" ["value", "kind"] (sp_is_fitting K) := by
  refine D.ok0 sc_is_fitting (fun vs H Q E h => ?_) (fun f cdv A outer s H vs Q E hr h => ?_)
  · obtain ⟨v, k, z, rfl, _⟩ := h
    rfl
  obtain ⟨v, k, z, rfl, hk, rd, fin⟩ := h
  refine ⟨_, (pss_cons (ps_if (pt_cmpR op_eq (pv 1) pe_str (nomark _)) (pss_one (ps_ret (pe_and (pe_cmpR op_notN (pv 0) pe_non (nomark _)) (pe_one (pe_chain op_le op_lt pe_int (pv 0) (pe_globI (by rfl) T.k_TOO_GREAT)))))) pss_nil)
      (pss_cons (ps_if (pw_or (pt_not (pt_val (pe_fn F_is_fraction (by decide) hr (by rfl) passE0 (pa_cons (pv 0) pa_nil)) (fun _ => rfl))) (pw_or (pt_not (pt_val (pe_fn F_is_short (by decide) hr (by rfl) passE0 (pa_cons (pe_ix ix_tup (pv 0) pe_int (fun _ _ => rfl)) pa_nil)) (fun _ => rfl))) (pw_or1 (pt_not (pt_val (pe_fn F_is_short (by decide) hr (by rfl) passE0 (pa_cons (pe_ix ix_tup (pv 0) pe_int (fun _ _ => rfl)) pa_nil)) (fun _ => rfl)))))).pt (pss_one (ps_ret pe_bl)) pss_nil)
      (pss_one (ps_ret (pe_or (pe_cmpR op_eq (pv 1) pe_str (nomark _)) (pe_one (pe_fn F_under (by decide) hr (by rfl) passE0 (pa_cons (pe_globT (K := K) rfl (by rfl) T.k_NOUGHT) (pa_cons (pv 0) pa_nil))))))))), ?_⟩
  by_cases kn : k = "number"
  · subst kn
    have rn : RdN z v := by
      rcases rd with ⟨_, h⟩ | ⟨h, _⟩
      · exact h
      · exact absurd rfl h
    have kg : KdG "number" z → ∃ n, isN z n ∧ 0 ≤ n ∧ n < 10000 := fun h => by
      rcases h with ⟨_, h⟩ | ⟨h, _⟩ | ⟨h, _⟩
      · exact h
      · exact absurd h (by decide)
      · exact absurd h (by decide)
    refine ⟨_, rfl, rfl, _, rfl, iteT ?_⟩
    rcases rn with ⟨n, hn, rfl⟩ | ⟨hn, rfl⟩
    · refine ⟨_, rfl, rfl, _, rfl, iteT ?_⟩
      refine ⟨_, rfl, _, _, rfl, rfl, _, rfl, ?_⟩
      refine if_dec (fun c0 => ?_) (fun c0 => ?_)
      · refine ⟨_, _, rfl, rfl, ?_⟩
        refine fin _ H (Same.refl H) (fun e => .inl ⟨rfl, n, hn, c0, of_decide_eq_true e, rfl⟩) (fun e g => ?_)
        obtain ⟨m, hm, m0, m1⟩ := kg g
        rw [hm.uniq hn] at m1
        exact of_decide_eq_false e m1
      · refine fin false H (Same.refl H) (fun e => nomatch e) (fun _ g => ?_)
        obtain ⟨m, hm, m0, m1⟩ := kg g
        rw [hm.uniq hn] at m0
        exact c0 m0
    · refine ⟨_, rfl, rfl, _, rfl, iteF ?_⟩
      refine fin false H (Same.refl H) (fun e => nomatch e) (fun _ g => ?_)
      obtain ⟨m, hm, _⟩ := kg g
      exact hn ⟨m, hm⟩
  · have rf : RdF K H z v := by
      rcases rd with ⟨h, _⟩ | ⟨_, h⟩
      · exact absurd h kn
      · exact h
    refine ⟨_, rfl, rfl, _, rfl, ?_⟩
    rw [show decide (strV k = V.str (Str.ofString "number")) = false from decide_eq_false (fun e => kn (by
      rcases hk with rfl | rfl | rfl
      · rfl
      · exact absurd e (by decide +kernel)
      · exact absurd e (by decide +kernel)))]
    refine iteF ?_
    have kg : KdG k z → ∃ q, isF z q ∧ Sm q ∧ (k = "length" → 0 < q) := fun h => by
      rcases h with ⟨h, _⟩ | ⟨h, q, h1, h2⟩ | ⟨h, q, h1, h2, h3⟩
      · exact absurd h kn
      · exact ⟨q, h1, h2, fun e => by rw [h] at e; exact absurd e (by decide)⟩
      · exact ⟨q, h1, h2, fun _ => h3⟩
    rcases rf with ⟨q, p, hq, rfl, hp⟩ | ⟨hq, fc⟩
    · refine ⟨_, rfl, _, true, rfl, (fhFrac hp (rdf_sm (K := K) (H := H) (v := .ref p) (p := p) hq)).toB, _, rfl, iteF ?_⟩
      have no : ¬ Sm q → KdG k z → False := fun n g => by
        obtain ⟨q', h1, h2, _⟩ := kg g
        rw [h1.uniq hq] at h2
        exact n h2
      refine ⟨_, rfl, p, _, _, _, rfl, rfl, hp.fq, rfl, _, rfl, _, rfl, ?_⟩
      refine if_not (fun c1 => ?_) (fun c1 => ?_)
      · exact fin false H (Same.refl H) (fun e => nomatch e) (fun _ => no fun s => c1 ⟨s.1, s.2.1⟩)
      · refine ⟨_, rfl, p, _, _, _, rfl, rfl, hp.fq, rfl, _, rfl, _, rfl, ?_⟩
        refine if_not (fun c2 => ?_) (fun c2 => ?_)
        · exact fin false H (Same.refl H) (fun e => nomatch e) (fun _ => no fun s => c2 ⟨by have := s.2.2; have := q_pos q; omega, s.2.2⟩)
        · have sm : Sm q := ⟨c1.1, c1.2, c2.2⟩
          refine ⟨_, rfl, rfl, _, rfl, ?_⟩
          rcases hk with rfl | rfl | rfl
          · exact absurd rfl kn
          · refine iteT ?_
            exact fin true H (Same.refl H) (fun _ => .inr (.inl ⟨rfl, q, p, hq, sm, rfl, hp⟩)) (fun e => nomatch e)
          · refine iteF (fun N hN => ?_)
            have gN : FQ K H N (((0 : Int)) : Rat) := hN _
            have dN : FB 64 (((0 : Int)) : Rat) := FB.ofInt (Bd.small (i := 0) (by decide) (by decide)) (by decide)
            refine ⟨_, rfl, _, _, _, _, rfl, gN, dN.mono (by decide), hp.fq, sm.fb.mono (by decide), fun H1 s1 => ?_⟩
            refine fin _ H1 s1 (fun e => .inr (.inr ⟨rfl, q, p, hq, sm, of_decide_eq_true e, rfl, s1 _ _ hp⟩)) (fun e g => ?_)
            obtain ⟨q', h1, h2, h3⟩ := kg g
            rw [h1.uniq hq] at h3
            exact of_decide_eq_false e (h3 rfl)
    · refine ⟨_, rfl, _, false, rfl, fc.toB, _, rfl, iteT ?_⟩
      exact fin false H (Same.refl H) (fun e => nomatch e) (fun _ g => by
        obtain ⟨q', h1, _⟩ := kg g
        exact hq ⟨q', h1⟩)
noncomputable def sp_value_of (K : PySem.W.Frag) (C : Nat → Addr) : Sp := fun vs H Q E => ∃ (z : Str) (k : String), vs = [.str z, strV k] ∧ isKd k ∧ z.length ≤ 90000 ∧ (∀ (v : V) (H1 : Hp), Same H H1 → KdV H1 k z v → Q v H1) ∧ (¬ KdG k z → ∀ H1, Same H H1 → E (.ref (C 3)) none H1)
theorem sc_value_of : FnScope ["word", "kind", "value"] ["word", "kind"] (defScope (top 113)) := ⟨rfl, rfl, rfl, by decide +kernel, rfl, by decide +kernel, by decide +kernel⟩
theorem ok_value_of (D : Df K mg "value_of" (top 113) ["word", "kind"]) (T : Tx K mg CK C w) (F_read_whole : Fn P w K mg base 1 "read_whole" ["word"] spReadW) (F_read_fraction : Fn P w K mg base 2 "read_fraction" ["word"] (spReadF K)) (F_is_fitting : Fn P w K mg base 3 "is_fitting" ["value", "kind"] (sp_is_fitting K)) : Fn P w K mg base 4 "value_of" ["word", "kind"] (sp_value_of K C) := by
  refine D.okX sc_value_of (fun vs H Q E h => ?_) (fun f cdv A outer s H vs Q E hr h => ?_)
  · obtain ⟨z, k, rfl, _⟩ := h
    rfl
  obtain ⟨z, k, rfl, hk, zl, fin, bad⟩ := h
  refine ⟨_, (pss_cons (ps_set (i := 2) sc_value_of.nd rfl (Or.inl rfl) (pe_ifExp (pt_cmpR op_eq (pv 1) pe_str (nomark _)) (pe_fn F_read_whole (by decide) hr (by rfl) passE0 (pa_cons (pv 0) pa_nil)) (pe_fn F_read_fraction (by decide) hr (by rfl) passE0 (pa_cons (pv 0) pa_nil))))
      (pss_cons (ps_if (pt_not (pt_val (pe_fn F_is_fitting (by decide) hr (by rfl) passE0 (pa_cons (pv 2) (pa_cons (pv 1) pa_nil))) (fun _ => rfl))) (pss_one (ps_raise plain_cxOf leaves_cxOf rfl rfl T.c_NoRow T.x_NoRow (pa_cons pe_str pa_nil))) pss_nil)
      (pss_one (ps_ret (pv 2))))), ?_⟩
  refine cut1 (fun σ' H' => ∃ v, σ' = [some (.str z), some (strV k), some v] ∧ Same H H' ∧ ((k = "number" ∧ RdN z v) ∨ (k ≠ "number" ∧ RdF K H' z v))) (fun N hN => ?_) ?_
  · refine ⟨_, rfl, rfl, _, rfl, ?_⟩
    by_cases kn : k = "number"
    · subst kn
      refine iteT ⟨_, rfl, z, rfl, zl, fun v H1 s1 rd => hN _ _ ⟨v, rfl, s1, .inl ⟨rfl, rd⟩⟩⟩
    · rw [show decide (strV k = V.str (Str.ofString "number")) = false from decide_eq_false (fun e => kn (by
        rcases hk with rfl | rfl | rfl
        · rfl
        · exact absurd e (by decide +kernel)
        · exact absurd e (by decide +kernel)))]
      refine iteF ⟨_, rfl, z, rfl, zl, fun v H1 s1 rd => hN _ _ ⟨v, rfl, s1, .inr ⟨kn, rd⟩⟩⟩
  · rintro σ' H1 ⟨v, rfl, s1, rd⟩
    refine ⟨_, rfl, _, rfl, v, k, z, rfl, hk, rd, fun c H2 s2 yes no => ⟨_, rfl, ?_⟩⟩
    cases c with
    | true => exact iteF ⟨_, rfl, fin v H2 (s1.trans s2) (yes rfl)⟩
    | false => exact iteT ⟨by show 1 ≤ sizeLine; decide, bad (no rfl) H2 (s1.trans s2)⟩
noncomputable def sp_values_of (K : PySem.W.Frag) (C : Nat → Addr) : Sp := fun vs H Q E => ∃ (pw pf : Addr) (zs : List Str) (ks : List String), vs = [.ref pw, .ref pf] ∧ SqL K H pw (zs.map V.str) ∧ (∀ H1, SqT K H1 pf (ks.map strV)) ∧ zs.length ≤ 90001 ∧ (∀ z ∈ zs, z.length ≤ 90000) ∧ ks.length ≤ 3 ∧ (∀ k ∈ ks, isKd k) ∧
  ((zs.length ≠ ks.length ∧ ∀ H1, Same H H1 → E (.ref (C 3)) none H1) ∨ (KdGs ks zs ∧ ∀ (r : Addr) (ys : List V) (H1 : Hp), Same H H1 → H r = none → H1 r = some (.tup ys) → KdVs H1 ks zs ys → Q (.ref r) H1))
theorem sc_values_of : FnScope ["words", "form"] ["words", "form"] (defScope (top 114)) := ⟨rfl, rfl, rfl, by decide +kernel, rfl, by decide +kernel, by decide +kernel⟩
theorem ok_values_of (D : Df K mg "values_of" (top 114) ["words", "form"]) (T : Tx K mg CK C w) (F_value_of : Fn P w K mg base 4 "value_of" ["word", "kind"] (sp_value_of K C)) : Fn P w K mg base 5 "values_of" ["words", "form"] (sp_values_of K C) := by
  refine D.okX sc_values_of (fun vs H Q E h => ?_) (fun f cdv A outer s H vs Q E hr h => ?_)
  · obtain ⟨pw, pf, zs, ks, rfl, _⟩ := h
    rfl
  obtain ⟨pw, pf, zs, ks, rfl, hw, hf, l9, zl, l3, hk, h⟩ := h
  refine ⟨_, (pss_cons (ps_if (pt_cmpR op_ne (pe_callB call_len (by rfl) T.b_len PyProof.Rows.Boot.«len» (pa_cons (pv 0) pa_nil)) (pe_callB call_len (by rfl) T.b_len PyProof.Rows.Boot.«len» (pa_cons (pv 1) pa_nil)) (nomark _)) (pss_one (ps_raise plain_cxOf leaves_cxOf rfl rfl T.c_NoRow T.x_NoRow (pa_cons pe_str pa_nil))) pss_nil)
      (pss_one (ps_ret (pe_callTy call_tuple_of (by rfl) T.b_tuple PyProof.Rows.Boot.«tuple» (pa_cons (@pe_lc _ _ _ _ _ _ _ _ _ _ ["words", "form"] [0, 1] rfl (pi_range1 (by rfl) T.b_range (pa_cons (pe_callB call_len (by rfl) T.b_len PyProof.Rows.Boot.«len» (pa_cons (pv 1) pa_nil)) pa_nil)) rfl (by decide) rfl (by decide) rfl (by decide) (cap_two (j := 0) (j' := 1) rfl rfl rfl rfl (.inl rfl) rfl rfl rfl rfl (.inl rfl)) (cl_two rfl rfl) (cap_fr rfl) (fun C z Hc fp => (pe_fn F_value_of (by decide) hr (by rfl) passE0 (pa_cons (pe_ix (ixL (K := K) rfl) (pv 1) (pv 0) (fun _ _ => rfl)) (pa_cons (pe_ix (ixT (K := K) rfl) (pv 2) (pv 0) (fun _ _ => rfl)) pa_nil)))) (fun _ => rfl)) pa_nil))))), ?_⟩
  have lz : (zs.map V.str).length = zs.length := List.length_map ..
  have lk : (ks.map strV).length = ks.length := List.length_map ..
  refine ⟨_, rfl, _, _, rfl, .inl ⟨_, hw, rfl⟩, _, rfl, _, _, rfl, .inr ⟨_, hf _, rfl⟩, rfl, _, rfl, ?_⟩
  refine if_neI (fun c => ?_) (fun c => ?_)
  · rcases h with ⟨_, bad⟩ | ⟨g, _⟩
    · exact ⟨by show 1 ≤ sizeLine; decide, bad H (Same.refl H)⟩
    · exact absurd g.len (by omega)
  rcases h with ⟨ne, _⟩ | ⟨g, fin⟩
  · exact absurd (show zs.length = ks.length by omega) ne
  refine ⟨_, rfl, _, _, rfl, .inr ⟨_, hf _, rfl⟩, _, rfl, by omega, by omega, lc_range (n := (ks.map strV).length) (fun i ys H' => Same H H' ∧ i ≤ ks.length ∧ KdVs H' (ks.take i) (zs.take i) ys) ⟨Same.refl H, Nat.zero_le _, .nil⟩ (by rw [lk]; exact Nat.le_trans l3 (by decide)) (fun i ys H' ⟨_, l, e⟩ => by rw [e.len.1, List.length_take]; omega) ?_ ?_⟩
  · rintro i ys H' Q' hi ⟨s1, li, kv⟩ k
    rw [lk] at hi
    obtain ⟨kd, hkd⟩ : ∃ kd, ks[i]? = some kd := ⟨_, List.getElem?_eq_getElem hi⟩
    obtain ⟨z, hz⟩ : ∃ z, zs[i]? = some z := ⟨_, List.getElem?_eq_getElem (by omega)⟩
    have a1 : atI (zs.map V.str) (0 + (i : Int)) = some (.str z) := by
      rw [Int.zero_add]
      exact atI_nat (by rw [List.getElem?_map, hz]; rfl)
    have a2 : atI (ks.map strV) (0 + (i : Int)) = some (strV kd) := by
      rw [Int.zero_add]
      exact atI_nat (by rw [List.getElem?_map, hkd]; rfl)
    refine ⟨_, rfl, _, rfl, pw, _, _, _, rfl, rfl, s1.seq hw, a1, _, rfl, _, rfl, pf, _, _, _, rfl, rfl, hf _, a2, z, kd, rfl, hk kd (List.mem_of_getElem? hkd), zl z (List.mem_of_getElem? hz), fun v H1 s2 kv1 => ?_, fun no => (no (g.get hkd hz)).elim⟩
    exact k _ _ ⟨s1.trans s2, by omega, kdvs_take (kv.same s2) hkd hz kv1⟩
  · rintro ys H' ⟨s1, _, kv⟩
    rw [lk, List.take_length, List.take_of_length_le (by omega)] at kv
    intro p5 n5
    obtain ⟨H5, q5, s5, e5⟩ := newO n5 (.lst ys)
    rw [q5]
    clear q5
    refine ⟨p5, ys, rfl, .inl ⟨SqL.of e5, ?_⟩⟩
    intro p6 n6
    obtain ⟨H6, q6, s6, e6⟩ := newO n6 (.tup ys)
    rw [q6]
    clear q6
    exact fin p6 ys H6 (s1.trans (s5.trans s6)) (none_of_same (s1.trans s5) n6) e6 (kv.same (s5.trans s6))
theorem kit_str_str : PySem.W.kitOne K (.type "str") (.type "str") = some true := by with_unfolding_all rfl
noncomputable def sp_read_row (K : PySem.W.Frag) (C : Nat → Addr) : Sp := fun vs H Q E => ∃ (z w0 : Str) (zs : List Str), vs = [.str z] ∧ z.length ≤ 90000 ∧ Txt.split z (Str.ofString " ") = w0 :: zs ∧ w0 ≠ Str.ofString "paper" ∧
  ((formOf w0 = none ∧ ∀ H1, Same H H1 → E (.ref (C 3)) none H1) ∨ ∃ ks, formOf w0 = some ks ∧ ((zs.length ≠ ks.length ∧ ∀ H1, Same H H1 → E (.ref (C 3)) none H1) ∨ (KdGs ks zs ∧ ∀ (r q : Addr) (ys : List V) (H1 : Hp), Same H H1 → H1 r = some (.tup [.str w0, .ref q]) → H q = none → H1 q = some (.tup ys) → KdVs H1 ks zs ys → Q (.ref r) H1)))
theorem sc_read_row : FnScope ["row", "parts", "word", "words"] ["row"] (defScope (top 116)) := ⟨rfl, rfl, rfl, by decide +kernel, rfl, by decide +kernel, by decide +kernel⟩
theorem ok_read_row (D : Df K mg "read_row" (top 116) ["row"]) (T : Tx K mg CK C w) (F_values_of : Fn P w K mg base 5 "values_of" ["words", "form"] (sp_values_of K C)) : Fn P w K mg base 6 "read_row" ["row"] (sp_read_row K C) := by
  refine D.okX sc_read_row (fun vs H Q E h => ?_) (fun f cdv A outer s H vs Q E hr h => ?_)
  · obtain ⟨z, w0, zs, rfl, _⟩ := h
    rfl
  obtain ⟨z, w0, zs, rfl, zl, sp, np, h⟩ := h
  refine ⟨_, (pss_cons (ps_if (pt_not (pt_val (pe_callB call_isinst (by rfl) T.b_isinstance PyProof.Rows.Boot.«isinstance» (pa_cons (pv 0) (pa_cons (pe_bty (by rfl) T.b_str PyProof.Rows.Boot.«str») pa_nil))) (fun _ => rfl))) (pss_one ps_never) pss_nil)
      (pss_cons (ps_set (i := 1) sc_read_row.nd rfl (Or.inl rfl) (pe_bm PySem.F.plainAttrs_str PySem.F.slot_str_partition PySem.F.type_str_partition mt_part (pv 0) (pa_cons pe_str pa_nil)))
      (pss_cons (ps_set (i := 2) sc_read_row.nd rfl (Or.inl rfl) (pe_ix ix_tup (pv 1) pe_int (fun _ _ => rfl)))
      (pss_cons (ps_if (pt_cmpR op_eq (pv 2) pe_str (nomark _)) (pss_one ps_never) pss_nil)
      (pss_cons (ps_if (pt_cmpR (op_notInK (K := K) (w := w) rfl rfl) (pv 2) (pe_globF (K := K) (w := w) rfl rfl (by rfl) T.k_FORMS) (by first | rfl | with_unfolding_all rfl)) (pss_one (ps_raise plain_cxOf leaves_cxOf rfl rfl T.c_NoRow T.x_NoRow (pa_cons pe_str pa_nil))) pss_nil)
      (pss_cons (ps_set (i := 3) sc_read_row.nd rfl (Or.inl rfl) (pe_bm PySem.F.plainAttrs_str PySem.F.slot_str_split PySem.F.type_str_split (mt_split (K := K)) (pv 0) (pa_cons pe_str pa_nil)))
      (pss_one (ps_ret (pe_tup (pa_cons (pv 2) (pa_cons (pe_fn F_values_of (by decide) hr (by rfl) (passL plain_cxOf leaves_cxOf) (pa_cons (pe_slice sl_list (pv 3) (po_some pe_int) po_none) (pa_cons (pe_ix (ix_dictK (K := K) (w := w) rfl rfl) (pe_globF (K := K) (w := w) rfl rfl (by rfl) T.k_FORMS) (pv 2) (fun _ _ => rfl)) pa_nil))) pa_nil))))))))))), ?_⟩
  have pw := row_words sp
  have wl : ∀ p ∈ w0 :: zs, p.length ≤ 90000 := fun p hp => by
    rw [← sp, sep_blank] at hp
    have := split_len hp
    omega
  have wn : (w0 :: zs).length ≤ 90001 := by
    rw [← sp, sep_blank]
    have := split_many (w := z) (c := 32)
    omega
  refine ⟨_, rfl, _, _, true, rfl, .inl ⟨_, rfl⟩, ⟨_, .str _, kit_str_str⟩, _, rfl, iteF ?_⟩
  refine ⟨_, rfl, rfl, z, Str.ofString " ", rfl, rfl, by decide +kernel, by omega, ?_⟩
  intro p1 n1
  obtain ⟨H1, q1, s1, e1⟩ := newO n1 (.tup [.str (Txt.partition z (Str.ofString " ")).1, .str (Txt.partition z (Str.ofString " ")).2.1, .str (Txt.partition z (Str.ofString " ")).2.2])
  rw [q1]
  clear q1
  rw [pw] at e1
  refine ⟨_, rfl, p1, _, _, _, rfl, rfl, SqT.of e1, rfl, ?_⟩
  refine ⟨_, rfl, rfl, _, rfl, ?_⟩
  rw [show decide (V.str w0 = V.str (Str.ofString "paper")) = false from decide_eq_false (fun e => np (by injection e))]
  refine iteF ?_
  refine ⟨_, rfl, fun D hD => ?_⟩
  rcases hD w0 with ⟨ks', pf, e', dk, hf⟩ | ⟨e', dk⟩
  · refine ⟨w0, D, _, rfl, rfl, dk, _, rfl, iteF ?_⟩
    refine ⟨_, rfl, rfl, z, Str.ofString " ", rfl, rfl, by decide +kernel, by omega, ?_⟩
    rw [sp]
    intro p2 n2
    obtain ⟨H2, q2, s2, e2⟩ := newO n2 (.lst ((w0 :: zs).map V.str))
    rw [q2]
    clear q2
    rcases h with ⟨e, _⟩ | ⟨ks, e, h⟩
    · rw [e] at e'
      cases e'
    obtain ⟨f3, fk⟩ := form_kinds e
    refine ⟨_, rfl, _, rfl, _, rfl, p2, _, rfl, SqL.of e2, ?_⟩
    rw [show cutV ((w0 :: zs).map V.str) (some 1) none = ((w0 :: zs).map V.str).drop 1 from cut_drop (k := 1) (by rw [List.length_map]; show 1 ≤ zs.length + 1; omega)]
    intro p3 n3
    obtain ⟨H3, q3, s3, e3⟩ := newO n3 (.lst (((w0 :: zs).map V.str).drop 1))
    rw [q3]
    clear q3
    replace e3 : H3 p3 = some (.lst (zs.map V.str)) := e3
    refine fun D2 hD2 => ?_
    have s13 := s1.trans (s2.trans s3)
    rcases hD2 w0 with ⟨ks2, pf2, e2', dk2, hf2⟩ | ⟨e2', _⟩
    · rw [show ks2 = ks by rw [e] at e2'; injection e2' with z; exact z.symm] at hf2
      refine ⟨_, rfl, w0, D2, pf2, rfl, rfl, dk2, p3, pf2, zs, ks, rfl, SqL.of e3, hf2, by have : zs.length + 1 ≤ 90001 := wn; omega, fun y hy => wl y (List.mem_cons_of_mem _ hy), f3, fk, ?_⟩
      rcases h with ⟨ne, bad⟩ | ⟨g, fin⟩
      · exact .inl ⟨ne, fun H4 s4 => bad H4 (s13.trans s4)⟩
      · refine .inr ⟨g, fun r ys H4 s4 nr e4 kv => ⟨by show 2 ≤ sizeLine; decide, ?_⟩⟩
        intro p5 n5
        obtain ⟨H5, q5, s5, e5⟩ := newO n5 (.tup [.str w0, .ref r])
        rw [q5]
        clear q5
        exact fin p5 r ys H5 (s13.trans (s4.trans s5)) e5 (none_of_same s13 nr) (s5 _ _ e4) (kv.same s5)
    · rw [e] at e2'
      cases e2'
  · refine ⟨w0, D, _, rfl, rfl, dk, _, rfl, iteT ?_⟩
    rcases h with ⟨_, bad⟩ | ⟨ks, e, _⟩
    · exact ⟨by show 1 ≤ sizeLine; decide, bad H1 s1⟩
    · rw [e] at e'
      cases e'
noncomputable def spWt (K : PySem.W.Frag) : Sp := fun vs H Q _ => ∃ x c, vs = [x] ∧ WtC K H x c ∧ Q (.bl c) H
theorem sc_is_weight : FnScope ["thing"] ["thing"] (defScope (top 94)) := ⟨rfl, rfl, rfl, by decide +kernel, rfl, by decide +kernel, by decide +kernel⟩
theorem ok_is_weight (D : Df K mg "is_weight" (top 94) ["thing"]) (T : Tx K mg CK C w) (F_is_whole : Fn P w K mg base 1 "is_whole" ["thing"] (spWhole K)) : Fn P w K mg base 2 "is_weight" ["thing"] (spWt K) := by
  refine D.ok0 sc_is_weight (fun vs H Q E h => ?_) (fun f cdv A outer s H vs Q E hr h => ?_)
  · obtain ⟨x, c, rfl, _⟩ := h
    rfl
  obtain ⟨x, c, rfl, hw, q⟩ := h
  refine ⟨_, (pss_one (ps_ret (pe_and (pe_fn F_is_whole (by decide) hr (by rfl) passE0 (pa_cons (pv 0) pa_nil)) (pe_one (pe_chain op_le op_le pe_int (pv 0) (pe_globI (by rfl) T.k_MOST_WEIGHT)))))), ?_⟩
  rcases hw with ⟨rfl, t, b1, b2, ty, k1, k2, k3⟩ | ⟨i, rfl, rfl⟩
  · refine ⟨_, rfl, _, _, b1, b2, rfl, ty, k1, k2, _, rfl, ?_⟩
    rw [k3]
    exact iteF q
  · refine ⟨_, rfl, _, _, true, false, rfl, .int i, kit_int_int, kit_int_bool, _, rfl, iteT ?_⟩
    refine ⟨_, rfl, _, _, rfl, rfl, _, rfl, ?_⟩
    refine if_dec (fun c => ?_) (fun c => ?_)
    · rw [decide_eq_true c, Bool.true_and] at q
      exact ⟨_, _, rfl, rfl, q⟩
    · rw [decide_eq_false c, Bool.false_and] at q
      exact q
noncomputable def spBody (K : PySem.W.Frag) : Sp := fun vs H Q _ => ∃ x c, vs = [x] ∧ BodyC K H x c ∧ Q (.bl c) H
theorem sc_is_body : FnScope ["thing"] ["thing"] (defScope (top 95)) := ⟨rfl, rfl, rfl, by decide +kernel, rfl, by decide +kernel, by decide +kernel⟩
theorem ok_is_body (D : Df K mg "is_body" (top 95) ["thing"]) (T : Tx K mg CK C w) (F_is_fraction : Fn P w K mg base 2 "is_fraction" ["thing"] (spIsFrac K)) (F_is_weight : Fn P w K mg base 2 "is_weight" ["thing"] (spWt K)) : Fn P w K mg base 3 "is_body" ["thing"] (spBody K) := by
  refine D.ok0 sc_is_body (fun vs H Q E h => ?_) (fun f cdv A outer s H vs Q E hr h => ?_)
  · obtain ⟨x, c, rfl, _⟩ := h
    rfl
  obtain ⟨x, c, rfl, hb, q⟩ := h
  refine ⟨_, (pss_cons (ps_if (pw_or (pt_not (pt_val (pe_callB call_isinst (by rfl) T.b_isinstance PyProof.Rows.Boot.«isinstance» (pa_cons (pv 0) (pa_cons (pe_bty (by rfl) T.b_tuple PyProof.Rows.Boot.«tuple») pa_nil))) (fun _ => rfl))) (pw_or1 (pt_cmpR op_ne (pe_callB call_len (by rfl) T.b_len PyProof.Rows.Boot.«len» (pa_cons (pv 0) pa_nil)) pe_int (nomark _)))).pt (pss_one (ps_ret pe_bl)) pss_nil)
      (pss_one (ps_ret (pe_and (pe_fn F_is_fraction (by decide) hr (by rfl) passE0 (pa_cons (pe_ix ix_tup (pv 0) pe_int (fun _ _ => rfl)) pa_nil)) (pe_and (pe_fn F_is_fraction (by decide) hr (by rfl) passE0 (pa_cons (pe_ix ix_tup (pv 0) pe_int (fun _ _ => rfl)) pa_nil)) (pe_one (pe_fn F_is_weight (by decide) hr (by rfl) passE0 (pa_cons (pe_ix ix_tup (pv 0) pe_int (fun _ _ => rfl)) pa_nil)))))))), ?_⟩
  rcases hb with ⟨rfl, t, ty, kt⟩ | ⟨rfl, p, xs, rfl, hp, hl⟩ | ⟨p, u, v, w', c1, c2, c3, rfl, hp, h1, h2, h3, rfl⟩
  · exact ⟨_, rfl, _, _, false, rfl, .inl ⟨_, rfl⟩, ⟨_, ty, kt⟩, _, rfl, iteT q⟩
  · refine ⟨_, rfl, _, _, true, rfl, .inl ⟨_, rfl⟩, ⟨_, .tup hp, kit_tup_tup⟩, _, rfl, iteF ?_⟩
    refine ⟨_, rfl, _, _, rfl, .inr ⟨_, SqT.of hp, rfl⟩, rfl, _, rfl, ?_⟩
    refine if_neI (fun _ => q) (fun z => ?_)
    exact absurd (show xs.length = 3 by omega) hl
  · refine ⟨_, rfl, _, _, true, rfl, .inl ⟨_, rfl⟩, ⟨_, .tup hp, kit_tup_tup⟩, _, rfl, iteF ?_⟩
    refine ⟨_, rfl, _, _, rfl, .inr ⟨_, SqT.of hp, rfl⟩, rfl, _, rfl, iteF ?_⟩
    refine ⟨_, rfl, p, _, _, _, rfl, rfl, SqT.of hp, rfl, u, c1, rfl, h1.toB, _, rfl, ?_⟩
    cases c1 with
    | false => exact iteF q
    | true =>
      refine iteT ⟨_, rfl, p, _, _, _, rfl, rfl, SqT.of hp, rfl, v, c2, rfl, h2.toB, _, rfl, ?_⟩
      cases c2 with
      | false => exact iteF q
      | true => exact iteT ⟨_, rfl, p, _, _, _, rfl, rfl, SqT.of hp, rfl, w', c3, rfl, h3, q⟩
noncomputable def spBodies (K : PySem.W.Frag) : Sp := fun vs H Q _ => ∃ x, vs = [x] ∧ ((∃ t, TyOf K H x t ∧ PySem.W.kitOne K t (.type "list") = some false) ∧ Q (.bl false) H ∨
  ∃ p xs cs, x = .ref p ∧ xs.length ≤ 100 ∧ H p = some (.lst xs) ∧ BodiesC K H xs cs ∧ ∀ H', Same H H' → Q (.bl (cs.all id)) H')
theorem sc_are_bodies : FnScope ["thing"] ["thing"] (defScope (top 96)) := ⟨rfl, rfl, rfl, by decide +kernel, rfl, by decide +kernel, by decide +kernel⟩
theorem ok_are_bodies (D : Df K mg "are_bodies" (top 96) ["thing"]) (T : Tx K mg CK C w) (F_is_body : Fn P w K mg base 3 "is_body" ["thing"] (spBody K)) : Fn P w K mg base 4 "are_bodies" ["thing"] (spBodies K) := by
  refine D.ok0 sc_are_bodies (fun vs H Q E h => ?_) (fun f cdv A outer s H vs Q E hr h => ?_)
  · obtain ⟨x, rfl, _⟩ := h
    rfl
  obtain ⟨x, rfl, h⟩ := h
  refine ⟨_, (pss_one (ps_ret (pe_and (pe_callB call_isinst (by rfl) T.b_isinstance PyProof.Rows.Boot.«isinstance» (pa_cons (pv 0) (pa_cons (pe_bty (by rfl) T.b_list PyProof.Rows.Boot.«list») pa_nil))) (pe_one (pe_callB (call_all (K := K) rfl rfl) (by rfl) T.b_all PyProof.Rows.Boot.«all» (pa_cons (@pe_lc _ _ _ _ _ _ _ _ _ _ [] [] rfl (pi_list (pv 0)) rfl (by decide) rfl (by decide) rfl (by decide) cap_none (fun _ _ h => nomatch h) (no_free rfl) (fun C z Hc fp => (pe_fn F_is_body (by decide) hr (by rfl) passE0 (pa_cons (pv 0) pa_nil))) (fun _ => rfl)) pa_nil)))))), ?_⟩
  rcases h with ⟨⟨t, ty, kt⟩, q⟩ | ⟨p, xs, cs, rfl, hl, hp, hcs, q⟩
  · exact ⟨_, rfl, _, _, false, rfl, .inl ⟨_, rfl⟩, ⟨_, ty, kt⟩, _, rfl, iteF q⟩
  · refine ⟨_, rfl, _, _, true, rfl, .inl ⟨_, rfl⟩, ⟨_, .lst hp, kit_lst_lst⟩, _, rfl, iteT ?_⟩
    have hz : xs.length ≤ sizeLine := by rw [sizeLine_eq]; omega
    refine ⟨_, rfl, p, rfl, ⟨_, SqL.of hp⟩, lc_list (K := K) (xs := xs) (fun i ys H' => H' = H ∧ ys = (cs.take i).map V.bl ∧ i ≤ cs.length) ⟨rfl, rfl, Nat.zero_le _⟩ hz (fun i ys H' ⟨_, e, l⟩ => by rw [e]; simp; omega) (fun i ys H' ⟨e, _⟩ => by rw [e]; exact SqL.of hp) ?_ ?_⟩
    · rintro i y ys H' Q' hy ⟨rfl, rfl, li⟩ k
      obtain ⟨c, hc, hbc⟩ := hcs.get hy
      refine ⟨_, rfl, y, c, rfl, hbc, k _ _ ⟨rfl, ?_, ?_⟩⟩
      · obtain ⟨hi, e⟩ := List.getElem?_eq_some_iff.mp hc
        rw [List.take_succ, hc]
        simp
      · obtain ⟨hi, e⟩ := List.getElem?_eq_some_iff.mp hc
        exact hi
    · rintro ys H' ⟨rfl, rfl, _⟩
      rw [← hcs.len, List.take_length]
      intro p5 n5
      obtain ⟨H5, q5, s5, e5⟩ := newO n5 (.lst (cs.map V.bl))
      rw [q5]
      clear q5
      exact ⟨p5, cs, rfl, SqL.of e5, q _ s5⟩
noncomputable def sp_spot_for (K : PySem.W.Frag) : Sp := fun vs H Q _ => ∃ (q a : Addr) (xs : List V) (bs : List Bo) (x : Rat), vs = [.ref q, .ref a] ∧ FQ K H q x ∧ FB 900 x ∧ H a = some (.lst xs) ∧ Al2 (BdQ K H 900) xs bs ∧ Asc bs ∧ bs.length ≤ 100 ∧ ∀ (m : Nat) (H' : Hp), Same H H' → SpotQ bs x m → Q (.int (m : Int)) H'
theorem sc_spot_for : FnScope ["place", "row", "low", "high", "middle"] ["place", "row"] (defScope (top 98)) := ⟨rfl, rfl, rfl, by decide +kernel, rfl, by decide +kernel, by decide +kernel⟩
theorem ok_spot_for (D : Df K mg "spot_for" (top 98) ["place", "row"]) (T : Tx K mg CK C w) (F_under : Fn P w K mg base 1 "under" ["one", "other"] (sp_under K)) : Fn P w K mg base 2 "spot_for" ["place", "row"] (sp_spot_for K) := by
  refine D.ok0 sc_spot_for (fun vs H Q E h => ?_) (fun f cdv A outer s H vs Q E hr h => ?_)
  · obtain ⟨q, a, xs, bs, x, rfl, _⟩ := h
    rfl
  obtain ⟨q, a, xs, bs, x, rfl, gq, dq, ha, al, asc, l100, fin⟩ := h
  refine ⟨_, (pss_cons (ps_set (i := 2) sc_spot_for.nd rfl (Or.inl rfl) pe_int)
      (pss_cons (ps_set (i := 3) sc_spot_for.nd rfl (Or.inl rfl) (pe_callB call_len (by rfl) T.b_len PyProof.Rows.Boot.«len» (pa_cons (pv 1) pa_nil)))
      (pss_cons (ps_while PassesOwn.never (pt_cmpR op_lt (pv 2) (pv 3) (nomark _)) (pss_cons (ps_set (i := 4) sc_spot_for.nd rfl (Or.inl rfl) (pe_op op_fdivB (pe_op op_add (pv 2) (pv 3)) pe_int))
      (pss_one (ps_if (pt_val (pe_fn F_under (by decide) hr (by rfl) passE0 (pa_cons (pv 0) (pa_cons (pe_ix ix_tup (pe_ix ix_list (pv 1) (pv 4) (fun _ _ => rfl)) pe_int (fun _ _ => rfl)) pa_nil))) (fun _ => rfl)) (pss_one (ps_set (i := 3) sc_spot_for.nd rfl (Or.inl rfl) (pv 4))) (pss_one (ps_set (i := 2) sc_spot_for.nd rfl (Or.inl rfl) (pe_op op_add (pv 4) pe_int)))))))
      (pss_one (ps_ret (pv 2)))))), ?_⟩
  have hz := Al2.len al
  refine ⟨_, rfl, _, _, rfl, .inl ⟨_, SqL.of ha, rfl⟩, ?_⟩
  refine ⟨fun m σ' H' => ∃ (lo hi : Nat) (r : Option V), σ' = [some (.ref q), some (.ref a), some (.int (lo : Int)), some (.int (hi : Int)), r] ∧ Same H H' ∧ lo ≤ hi ∧ hi ≤ bs.length ∧ m = hi - lo ∧
    (∀ (i : Nat) (c : Bo), i < lo → bs[i]? = some c → c.1 ≤ x) ∧ (∀ (i : Nat) (c : Bo), hi ≤ i → bs[i]? = some c → x < c.1), ⟨_, 0, xs.length, _, rfl, Same.refl H, Nat.zero_le _, by omega, rfl, fun i v z => absurd z (Nat.not_lt_zero _), fun i v z e => ?_⟩, ?_⟩
  · rw [List.getElem?_eq_none (by omega)] at e
    cases e
  rintro m σ' H' ⟨lo, hi, r, rfl, s1, l1, l2, rfl, i1, i2⟩
  refine ⟨_, rfl, _, rfl, _, _, rfl, rfl, _, rfl, ?_⟩
  refine if_dec (fun c => ?_) (fun c => ?_)
  · refine ⟨_, fun _ _ n => n, ?_⟩
    have em : ((lo : Int) + (hi : Int)).fdiv 2 = (((lo + hi) / 2 : Nat) : Int) := by
      rw [Int.fdiv_eq_ediv_of_nonneg _ (by decide)]
      omega
    have hm : (lo + hi) / 2 < bs.length := by omega
    refine ⟨_, rfl, _, rfl, _, _, rfl, rfl, _, _, rfl, rfl, ⟨by decide, by decide +kernel⟩, ?_⟩
    dsimp only
    rw [em]
    obtain ⟨y, hy⟩ : ∃ y, xs[(lo + hi) / 2]? = some y := ⟨_, List.getElem?_eq_getElem (by omega)⟩
    obtain ⟨b, hb, p1, a1, c1, rfl, hp1, ha1, hc1, da1, dc1, w1, w2⟩ := Al2.get (bds_same al s1) hy
    refine ⟨_, rfl, _, rfl, _, rfl, a, _, _, _, rfl, rfl, SqL.of (s1 _ _ ha), atI_nat hy, p1, _, _, _, rfl, rfl, hp1, rfl, _, _, _, _, rfl, Kw.Same.tup s1 gq, dq.mono (by decide), ha1, da1.mono (by decide), fun H2 s2 => ⟨_, rfl, ?_⟩⟩
    refine if_dec (fun lt => ?_) (fun lt => ?_)
    · refine ⟨_, rfl, ?_⟩
      refine ⟨_, by omega, lo, (lo + hi) / 2, _, rfl, s1.trans s2, by omega, by omega, rfl, i1, fun i v z e => ?_⟩
      rcases Nat.lt_or_ge ((lo + hi) / 2) i with g | g
      · have := asc_at asc hb e g
        grind
      · have : i = (lo + hi) / 2 := by omega
        subst this
        rw [hb] at e
        cases e
        exact lt
    · refine ⟨_, rfl, _, _, rfl, rfl, ?_⟩
      refine ⟨_, by omega, (lo + hi) / 2 + 1, hi, _, rfl, s1.trans s2, by omega, by omega, rfl, fun i v z e => ?_, i2⟩
      rcases Nat.lt_or_ge i ((lo + hi) / 2) with g | g
      · have := asc_at asc e hb g
        grind
      · have : i = (lo + hi) / 2 := by omega
        subst this
        rw [hb] at e
        cases e
        grind
  · have e : lo = hi := by omega
    subst e
    exact ⟨_, rfl, fin lo H' s1 ⟨l2, i1, i2⟩⟩
noncomputable def sp_by_places (K : PySem.W.Frag) : Sp := fun vs H Q _ => ∃ (a : Addr) (xs : List V) (x : V) (bs : List Bo) (b : Bo), vs = [.ref a] ∧ H a = some (.lst (xs ++ [x])) ∧ Al2 (BdQ K H 900) xs bs ∧ BdQ K H 900 x b ∧ Asc bs ∧ bs.length ≤ 50 ∧ ∀ (r : Addr) (m : Nat) (H' : Hp), Same H H' → H r = none → SpotQ bs b.1 m → H' r = some (.lst (xs.take m ++ x :: xs.drop m)) → Q (.ref r) H'
theorem same_but {H H' : Hp} {r : Addr} {o : HO} (n : H r = none) (b : But r (upd H r o) H') : Same H H' := fun a u e => b a u (ne_of_none e n) (by rw [upd_ne (ne_of_none e n)]; exact e)
theorem but_same {H H1 H2 : Hp} {r : Addr} (b : But r H H1) (s : Same H1 H2) : But r H H2 := fun a o n e => s a o (b a o n e)
theorem spot_end {bs : List Bo} {x : Rat} {m : Nat} (s : SpotQ bs x m) (h : ∀ c ∈ bs, c.1 < x) : m = bs.length := by
  rcases Nat.lt_or_ge m bs.length with l | l
  · obtain ⟨c, hc⟩ : ∃ c, bs[m]? = some c := ⟨_, List.getElem?_eq_getElem l⟩
    have := s.2.2 m c (Nat.le_refl _) hc
    have := h c (List.mem_of_getElem? hc)
    grind
  · have := s.1
    omega
theorem sc_by_places : FnScope ["bodies", "row", "body"] ["bodies"] (defScope (top 99)) := ⟨rfl, rfl, rfl, by decide +kernel, rfl, by decide +kernel, by decide +kernel⟩
theorem ok_by_places (D : Df K mg "by_places" (top 99) ["bodies"]) (T : Tx K mg CK C w) (F_spot_for : Fn P w K mg base 2 "spot_for" ["place", "row"] (sp_spot_for K)) : Fn P w K mg base 3 "by_places" ["bodies"] (sp_by_places K) := by
  refine D.ok0 sc_by_places (fun vs H Q E h => ?_) (fun f cdv A outer s H vs Q E hr h => ?_)
  · obtain ⟨a, xs, x, bs, b, rfl, _⟩ := h
    rfl
  obtain ⟨a, xs, x, bs, b, rfl, ha, al, bx, asc, l50, fin⟩ := h
  refine ⟨_, (pss_cons (ps_set (i := 1) sc_by_places.nd rfl (Or.inl rfl) (pe_lst pa_nil))
      (pss_cons (ps_for PassesOwn.never rfl (pi_list (pv 0)) (pg_name (i := 2) sc_by_places.nd rfl (Or.inl rfl)) (pss_one (ps_expr (pe_bm PySem.F.plainAttrs_list PySem.F.slot_list_insert PySem.F.type_list_insert mt_insert (pv 1) (pa_cons (pe_fn F_spot_for (by decide) hr (by rfl) passE0 (pa_cons (pe_ix ix_tup (pv 2) pe_int (fun _ _ => rfl)) (pa_cons (pv 1) pa_nil))) (pa_cons (pv 2) pa_nil))))))
      (pss_one (ps_ret (pv 1))))), ?_⟩
  have hz := Al2.len al
  refine ⟨by show 0 ≤ sizeLine; decide, fun r nr => ?_⟩
  have nar : a ≠ r := ne_of_none ha nr
  have lx : (xs ++ [x]).length = xs.length + 1 := by simp
  refine ⟨_, rfl, a, rfl, ⟨_, SqL.of (by rw [upd_ne nar]; exact ha)⟩, for_list (K := K) (xs := xs ++ [x]) (fun i σ' H' => ∃ rb : Option V, σ' = [some (.ref a), some (.ref r), rb] ∧ But r (upd H r (.lst [])) H' ∧ ((i ≤ xs.length ∧ H' r = some (.lst (xs.take i))) ∨ (i = xs.length + 1 ∧ ∃ m, SpotQ bs b.1 m ∧ H' r = some (.lst (xs.take m ++ x :: xs.drop m))))) ⟨_, rfl, But.refl _, .inl ⟨Nat.zero_le _, upd_same⟩⟩ (fun i σ' H' _ ⟨_, _, b, _⟩ => SqL.of (same_but nr b _ _ ha)) ?_ ?_⟩
  · rintro i y σ' H' hy ⟨rb, rfl, bt, hr'⟩
    have sm := same_but nr bt
    have hi : i < (xs ++ [x]).length := (List.getElem?_eq_some_iff.mp hy).1
    rcases hr' with ⟨li, hr'⟩ | ⟨e, _⟩
    rotate_left
    · omega
    have lt : (xs.take i).length = i := take_len_of li
    have ltb : (bs.take i).length = i := take_len_of (by omega)
    have al' := bds_same al sm
    have alt : Al2 (BdQ K H' 900) (xs.take i) (bs.take i) := Al2.take i al'
    have asct : Asc (bs.take i) := List.Pairwise.sublist (List.take_sublist _ _) asc
    obtain ⟨c, hc, ⟨p, pa, pc, rfl, hp, hpa, hpc, d1, d2, w1, w2⟩⟩ : ∃ c : Bo, ((i < xs.length ∧ bs[i]? = some c) ∨ (i = xs.length ∧ y = x ∧ c = b)) ∧ BdQ K H' 900 y c := by
      rcases Nat.lt_or_ge i xs.length with g | g
      · rw [List.getElem?_append_left g] at hy
        obtain ⟨c, hc, z⟩ := Al2.get al' hy
        exact ⟨c, .inl ⟨g, hc⟩, z⟩
      · have ei : i = xs.length := by omega
        subst ei
        rw [List.getElem?_append_right (Nat.le_refl _), Nat.sub_self] at hy
        cases hy
        exact ⟨b, .inr ⟨rfl, rfl, rfl⟩, bx.same sm⟩
    refine ⟨_, rfl, .inl ⟨rfl, _, SqL.of hr'⟩, _, rfl, p, _, _, _, rfl, rfl, hp, rfl, _, rfl, pa, r, _, _, _, rfl, hpa, d1, hr', alt, asct, by omega, fun k H2 s2 sq => ?_⟩
    have hr2 := s2 _ _ hr'
    have kl : k ≤ (xs.take i).length := by have := sq.1; omega
    refine ⟨_, rfl, r, _, .ref p, k, rfl, rfl, hr2, kl, by rw [sizeLine_eq]; omega, ?_⟩
    refine ⟨_, rfl, (but_same bt s2).trans (but_upd _), ?_⟩
    rw [upd_same]
    rcases hc with ⟨g, hc⟩ | ⟨rfl, rfl, rfl⟩
    · left
      have ek : k = i := by
        have := spot_end sq (fun e he => by
          obtain ⟨j, h1, h2⟩ := mem_take_lt he
          exact asc_at asc h2 hc h1)
        omega
      subst ek
      rw [List.getElem?_append_left g] at hy
      refine ⟨by omega, ?_⟩
      rw [List.take_of_length_le (by omega), List.drop_eq_nil_of_le (by omega), List.take_add_one, hy]
      rfl
    · right
      rw [List.take_of_length_le (Nat.le_refl _)]
      rw [List.take_of_length_le (by omega)] at sq
      exact ⟨rfl, k, sq, rfl⟩
  · rintro σ' H' ⟨rb, rfl, bt, hr'⟩
    rcases hr' with ⟨l, _⟩ | ⟨_, m, sq, hr'⟩
    · omega
    · exact ⟨_, rfl, fin r m H' (same_but nr bt) nr sq hr'⟩
noncomputable def sp_first_misplaced (K : PySem.W.Frag) : Sp := fun vs H Q _ => ∃ (a : Addr) (xs : List V) (bs : List Bo), vs = [.ref a] ∧ H a = some (.lst xs) ∧ Al2 (BdQ K H 900) xs bs ∧ 1 ≤ bs.length ∧ bs.length ≤ 7 ∧ ∀ (r : Option Nat) (H' : Hp), Same H H' → MisQ bs r → Q (optV r) H'
theorem sc_first_misplaced : FnScope ["bodies", "number"] ["bodies"] (defScope (top 97)) := ⟨rfl, rfl, rfl, by decide +kernel, rfl, by decide +kernel, by decide +kernel⟩
theorem ok_first_misplaced (D : Df K mg "first_misplaced" (top 97) ["bodies"]) (T : Tx K mg CK C w) (F_under : Fn P w K mg base 1 "under" ["one", "other"] (sp_under K)) : Fn P w K mg base 2 "first_misplaced" ["bodies"] (sp_first_misplaced K) := by
  refine D.ok0 sc_first_misplaced (fun vs H Q E h => ?_) (fun f cdv A outer s H vs Q E hr h => ?_)
  · obtain ⟨a, xs, bs, rfl, _⟩ := h
    rfl
  obtain ⟨a, xs, bs, rfl, ha, al, l1, l7, fin⟩ := h
  refine ⟨_, (pss_cons (ps_if (pt_cmpR op_eq (pe_callB call_len (by rfl) T.b_len PyProof.Rows.Boot.«len» (pa_cons (pv 0) pa_nil)) pe_int (nomark _)) (pss_one (ps_ret pe_int)) pss_nil)
      (pss_cons (ps_for PassesOwn.never rfl (pi_range2 (by rfl) T.b_range (pa_cons pe_int (pa_cons (pe_callB call_len (by rfl) T.b_len PyProof.Rows.Boot.«len» (pa_cons (pv 0) pa_nil)) pa_nil))) (pg_name (i := 1) sc_first_misplaced.nd rfl (Or.inl rfl)) (pss_one (ps_if (pw_or (pt_cmpR op_eq (pv 1) (pe_globI (by rfl) T.k_MOST_BODIES) (nomark _)) (pw_or1 (pt_not (pt_val (pe_fn F_under (by decide) hr (by rfl) passE0 (pa_cons (pe_ix ix_tup (pe_ix ix_list (pv 0) (pe_op op_sub (pv 1) pe_int) (fun _ _ => rfl)) pe_int (fun _ _ => rfl)) (pa_cons (pe_ix ix_tup (pe_ix ix_list (pv 0) (pv 1) (fun _ _ => rfl)) pe_int (fun _ _ => rfl)) pa_nil))) (fun _ => rfl))))).pt (pss_one (ps_ret (pv 1))) pss_nil)))
      (pss_one (ps_ret pe_non)))), ?_⟩
  have hz := Al2.len al
  refine ⟨_, rfl, _, _, rfl, .inl ⟨_, SqL.of ha, rfl⟩, rfl, _, rfl, ?_⟩
  refine if_decI (fun z => absurd z (by omega)) (fun z => ?_)
  refine ⟨_, rfl, _, _, rfl, .inl ⟨_, SqL.of ha, rfl⟩, _, _, rfl, ⟨by decide, by decide, by omega, by omega⟩, for_range (lo := 1) (n := ((xs.length : Int) - 1).toNat) (fun i σ' H' => ∃ r : Option V, σ' = [some (.ref a), r] ∧ Same H H' ∧ ∀ (j : Nat) (c d : Bo), 1 ≤ j → j < i + 1 → bs[j - 1]? = some c → bs[j]? = some d → c.1 < d.1) ⟨_, rfl, Same.refl H, fun j c d h1 h2 => by omega⟩ ?_ ?_⟩
  · rintro i σ' H' hi ⟨r, rfl, s1, inv⟩
    refine ⟨_, rfl, rfl, _, rfl, ?_⟩
    refine if_decI (fun e => by omega) (fun e => ?_)
    obtain ⟨y0, hy0⟩ : ∃ y, xs[i]? = some y := ⟨_, List.getElem?_eq_getElem (by omega)⟩
    obtain ⟨y1, hy1⟩ : ∃ y, xs[i + 1]? = some y := ⟨_, List.getElem?_eq_getElem (by omega)⟩
    have al' := bds_same al s1
    obtain ⟨b0, hb0, p0, a0, c0, rfl, hp0, ha0, _, d0, _⟩ := Al2.get al' hy0
    obtain ⟨b1, hb1, p1, a1, c1, rfl, hp1, ha1, _, d1, _⟩ := Al2.get al' hy1
    have t0 : atI xs (1 + (i : Int) - 1) = some (.ref p0) := by
      rw [show (1 + (i : Int) - 1) = ((i : Nat) : Int) by omega]
      exact atI_nat hy0
    have t1 : atI xs (1 + (i : Int)) = some (.ref p1) := by
      rw [show (1 + (i : Int)) = ((i + 1 : Nat) : Int) by omega]
      exact atI_nat hy1
    have ha' := SqL.of (K := K) (s1 _ _ ha)
    refine ⟨_, rfl, _, rfl, _, _, rfl, rfl, a, _, _, _, rfl, rfl, ha', t0, p0, _, _, _, rfl, rfl, hp0, rfl, _, rfl, _, rfl, a, _, _, _, rfl, rfl, ha', t1, p1, _, _, _, rfl, rfl, hp1, rfl, _, _, _, _, rfl, ha0, d0.mono (by decide), ha1, d1.mono (by decide), fun H2 s2 => ⟨_, rfl, ?_⟩⟩
    refine if_not (fun c => ?_) (fun c => ?_)
    · refine ⟨_, rfl, ?_⟩
      have z := fin (some (i + 1)) H2 (s1.trans s2) (.inr ⟨i + 1, b0, b1, rfl, by omega, hb0, hb1, c, fun j c d h1 h2 => inv j c d h1 (by omega)⟩)
      rw [show (1 + (i : Int)) = ((i + 1 : Nat) : Int) by omega]
      exact z
    · refine ⟨_, rfl, s1.trans s2, fun j c' d' h1 h2 h3 h4 => ?_⟩
      rcases Nat.lt_or_ge j (i + 1) with g | g
      · exact inv j c' d' h1 g h3 h4
      · have ej : j = i + 1 := by omega
        subst ej
        rw [show i + 1 - 1 = i by omega, hb0] at h3
        rw [hb1] at h4
        cases h3
        cases h4
        exact c
  · rintro σ' H' ⟨r, rfl, s1, inv⟩
    refine fin none H' s1 (.inl ⟨rfl, asc_near fun j c d h1 h2 h3 => inv j c d h1 ?_ h2 h3⟩)
    have := (List.getElem?_eq_some_iff.mp h3).1
    omega
noncomputable def sp_numbered (K : PySem.W.Frag) (C : Nat → Addr) : Sp := fun vs H Q E => ∃ (a : Addr) (xs : List V) (x : V) (bs : List Bo) (b : Bo), vs = [.ref a] ∧ H a = some (.lst (xs ++ [x])) ∧ Al2 (BdK H) xs bs ∧ BdK H x b ∧ Asc bs ∧ bs.length ≤ 5 ∧
  ((lessB bs b.1).length + (moreB bs b.1).length < bs.length → ∀ (d : Addr) (H1 : Hp), Same H H1 → H1 d = some (Xd d [("at", .int (((lessB bs b.1).length + 1 : Nat) : Int))]) → E (.ref (C 5)) (some d) H1) ∧
  (¬ (lessB bs b.1).length + (moreB bs b.1).length < bs.length → ∀ (r : Addr) (ys : List V) (H1 : Hp), Same H H1 → H r = none → H1 r = some (.lst ys) → Al2 (BdK H1) ys (putB bs b) → Asc (putB bs b) → (putB bs b).length = bs.length + 1 → Q (.ref r) H1)
theorem bks_are {H : Hp} {xs : List V} {bs : List Bo} (h : Al2 (BdK H) xs bs) : BodiesC K H xs (xs.map fun _ => true) := by
  induction xs generalizing bs with
  | nil => exact trivial
  | cons x xs ih =>
    cases bs with
    | nil => exact h.elim
    | cons b bs =>
      refine ⟨?_, ih h.2⟩
      have z := h.1.1.is (K := K)
      rw [show (decide (1 ≤ b.2.2) && decide (b.2.2 ≤ 1000)) = true by rw [decide_eq_true h.1.2.1, decide_eq_true h.1.2.2]; rfl] at z
      exact z
theorem al_snoc {R : V → Bo → Prop} {xs : List V} {bs : List Bo} {x : V} {b : Bo} (h : Al2 R xs bs) (g : R x b) : Al2 R (xs ++ [x]) (bs ++ [b]) := Al2.app h ⟨g, trivial⟩
theorem same_del {H H' : Hp} {x : Addr} (n : H x = none) (s : Same H H') : Same H (del H' x) := fun a u e => by
  rw [del_ne (ne_of_none e n)]
  exact s a u e
theorem sc_numbered : FnScope ["bodies", "world", "at"] ["bodies"] (defScope (top 100)) := ⟨rfl, rfl, rfl, by decide +kernel, rfl, by decide +kernel, by decide +kernel⟩
theorem ok_numbered (D : Df K mg "numbered" (top 100) ["bodies"]) (T : Tx K mg CK C w) (F_are_bodies : Fn P w K mg base 4 "are_bodies" ["thing"] (spBodies K)) (F_by_places : Fn P w K mg base 3 "by_places" ["bodies"] (sp_by_places K)) (F_first_misplaced : Fn P w K mg base 2 "first_misplaced" ["bodies"] (sp_first_misplaced K)) (F_NoWorld___init__ : FnI P w K mg base 1 (C 5) ["self", "at"] (spInitN (C 5) ["at"])) : Fn P w K mg base 5 "numbered" ["bodies"] (sp_numbered K C) := by
  refine D.okX sc_numbered (fun vs H Q E h => ?_) (fun f cdv A outer s H vs Q E hr h => ?_)
  · obtain ⟨a, xs, x, bs, b, rfl, _⟩ := h
    rfl
  obtain ⟨a, xs, x, bs, b, rfl, ha, al, bx, asc, l5, kx, k⟩ := h
  refine ⟨_, (pss_cons (ps_if (pt_not (pt_val (pe_fn F_are_bodies (by decide) hr (by rfl) (passL plain_cxOf leaves_cxOf) (pa_cons (pv 0) pa_nil)) (fun _ => rfl))) (pss_one ps_never) pss_nil)
      (pss_cons (ps_set (i := 1) sc_numbered.nd rfl (Or.inl rfl) (pe_fn F_by_places (by decide) hr (by rfl) (passL plain_cxOf leaves_cxOf) (pa_cons (pv 0) pa_nil)))
      (pss_cons (ps_set (i := 2) sc_numbered.nd rfl (Or.inl rfl) (pe_fn F_first_misplaced (by decide) hr (by rfl) (passL plain_cxOf leaves_cxOf) (pa_cons (pv 1) pa_nil)))
      (pss_cons (ps_if (pt_cmpR op_notN (pv 2) pe_non (nomark _)) (pss_one (ps_raiseX plain_cxOf leaves_cxOf rfl (pe_mkx F_NoWorld___init__ (by decide) hr (by rfl) T.c_NoWorld (passL plain_cxOf leaves_cxOf) (pa_cons (pv 2) pa_nil)))) pss_nil)
      (pss_one (ps_ret (pv 1))))))), ?_⟩
  have hz := Al2.len al
  have alS : Al2 (BdK H) (xs ++ [x]) (bs ++ [b]) := al_snoc al bx
  have lx : (xs ++ [x]).length = xs.length + 1 := by simp
  refine ⟨_, rfl, _, rfl, .inr ⟨a, _, _, rfl, by omega, ha, bks_are alS, fun H1 s1 => ⟨_, rfl, ?_⟩⟩⟩
  rw [show ((xs ++ [x]).map fun _ => true).all id = true from List.all_eq_true.mpr fun z hz => by obtain ⟨_, _, rfl⟩ := List.mem_map.mp hz; rfl]
  refine iteF ⟨_, rfl, a, xs, x, bs, b, rfl, s1 _ _ ha, bds_same (bks_bds al) s1, (bx.bd).same s1, asc, by omega, fun r m H2 s2 nr sq hr => ?_⟩
  have s12 := s1.trans s2
  have ml : m ≤ bs.length := sq.1
  have al2 := bks_same al s12
  have bx2 : BdK H2 x b := ⟨bx.1.same s12, bx.2⟩
  have alN : Al2 (BdK H2) (xs.take m ++ x :: xs.drop m) (bs.take m ++ b :: bs.drop m) := Al2.app (Al2.take m al2) ⟨bx2, Al2.drop m al2⟩
  have ln : (bs.take m ++ b :: bs.drop m).length = bs.length + 1 := by
    rw [List.length_append, List.length_cons, List.length_take, List.length_drop]
    omega
  refine ⟨_, rfl, r, _, _, rfl, hr, bks_bds alN, by omega, by omega, fun o H3 s3 mq => ?_⟩
  rcases put_mis asc sq mq with ⟨c1, rfl, c2, c3⟩ | ⟨c1, rfl⟩
  · refine ⟨_, rfl, rfl, _, rfl, iteF ⟨_, rfl, ?_⟩⟩
    rw [c2] at alN ln
    exact k (by omega) r _ H3 (s12.trans s3) (none_of_same s1 nr) (s3 _ _ hr) (bks_same alN s3) c3 ln
  · refine ⟨_, rfl, rfl, _, rfl, iteT ⟨_, rfl, by show 1 ≤ sizeLine; decide, fun x nx => ⟨x, [.int (((lessB bs b.1).length + 1 : Nat) : Int)], rfl, rfl, upd_same, fun d H4 nd b4 e4 f4 => ⟨rfl, ?_⟩⟩⟩⟩
    have s13 := s12.trans s3
    have s4 := same_of_but nx b4
    have nx0 := none_of_same s13 nx
    refine ⟨x, C 5, some d, rfl, e4, nx0, clsx_o T.o_NoWorld, kx c1 d _ (same_del nx0 (s13.trans s4)) ?_⟩
    rw [del_ne nd]
    exact f4
noncomputable def sp_with_body (K : PySem.W.Frag) (C : Nat → Addr) : Sp := fun vs H Q E => ∃ (a : Addr) (xs : List V) (v : V) (bs : List Bo) (b : Bo), vs = [.ref a, v] ∧ H a = some (.lst xs) ∧ Al2 (BdK H) xs bs ∧ TdK H v b ∧ Asc bs ∧ bs.length ≤ 6 ∧
  (¬ WtOk b → ∀ H1, Same H H1 → E (.ref (C 0)) none H1) ∧ (WtOk b → bs.length = 6 → ∀ H1, Same H H1 → E (.ref (C 4)) none H1) ∧
  (WtOk b → bs.length ≠ 6 → (lessB bs b.1).length + (moreB bs b.1).length < bs.length → ∀ (d : Addr) (H1 : Hp), Same H H1 → H1 d = some (Xd d [("at", .int (((lessB bs b.1).length + 1 : Nat) : Int))]) → E (.ref (C 5)) (some d) H1) ∧
  (WtOk b → bs.length ≠ 6 → ¬ (lessB bs b.1).length + (moreB bs b.1).length < bs.length → ∀ (r : Addr) (ys : List V) (H1 : Hp), Same H H1 → H r = none → H1 r = some (.lst ys) → Al2 (BdK H1) ys (putB bs b) → Asc (putB bs b) → (putB bs b).length = bs.length + 1 → Q (.ref r) H1)
theorem sc_with_body : FnScope ["bodies", "body"] ["bodies", "body"] (defScope (top 121)) := ⟨rfl, rfl, rfl, by decide +kernel, rfl, by decide +kernel, by decide +kernel⟩
theorem ok_with_body (D : Df K mg "with_body" (top 121) ["bodies", "body"]) (T : Tx K mg CK C w) (F_is_body : Fn P w K mg base 3 "is_body" ["thing"] (spBody K)) (F_numbered : Fn P w K mg base 5 "numbered" ["bodies"] (sp_numbered K C)) : Fn P w K mg base 6 "with_body" ["bodies", "body"] (sp_with_body K C) := by
  refine D.okX sc_with_body (fun vs H Q E h => ?_) (fun f cdv A outer s H vs Q E hr h => ?_)
  · obtain ⟨a, xs, v, bs, b, rfl, _⟩ := h
    rfl
  obtain ⟨a, xs, v, bs, b, rfl, ha, al, td, asc, l6, k1, k2, k3, k4⟩ := h
  refine ⟨_, (pss_cons (ps_if (pt_not (pt_val (pe_fn F_is_body (by decide) hr (by rfl) (passL plain_cxOf leaves_cxOf) (pa_cons (pv 1) pa_nil)) (fun _ => rfl))) (pss_one (ps_raise plain_cxOf leaves_cxOf rfl rfl T.c_NoBody T.x_NoBody (pa_cons pe_str pa_nil))) pss_nil)
      (pss_cons (ps_if (pt_cmpR op_eq (pe_callB call_len (by rfl) T.b_len PyProof.Rows.Boot.«len» (pa_cons (pv 0) pa_nil)) (pe_globI (by rfl) T.k_MOST_KEPT) (nomark _)) (pss_one (ps_raise plain_cxOf leaves_cxOf rfl rfl T.c_TooMany T.x_TooMany (pa_cons pe_str pa_nil))) pss_nil)
      (pss_one (ps_ret (pe_fn F_numbered (by decide) hr (by rfl) (passL plain_cxOf leaves_cxOf) (pa_cons (pe_op op_cat (pv 0) (pe_lst (pa_cons (pv 1) pa_nil))) pa_nil)))))), ?_⟩
  have hz := Al2.len al
  refine ⟨_, rfl, v, _, rfl, td.is, _, rfl, ?_⟩
  by_cases wt : WtOk b
  rotate_left
  · rw [show (decide (1 ≤ b.2.2) && decide (b.2.2 ≤ 1000)) = false by
      rw [← Bool.decide_and]
      exact decide_eq_false wt]
    exact iteT ⟨by show 1 ≤ sizeLine; decide, k1 wt H (Same.refl H)⟩
  rw [show (decide (1 ≤ b.2.2) && decide (b.2.2 ≤ 1000)) = true by rw [decide_eq_true wt.1, decide_eq_true wt.2]; rfl]
  refine iteF ⟨_, rfl, _, _, rfl, .inl ⟨_, SqL.of ha, rfl⟩, rfl, _, rfl, ?_⟩
  refine if_decI (fun c => ?_) (fun c => ?_)
  · exact ⟨by show 1 ≤ sizeLine; decide, k2 wt (by omega) H (Same.refl H)⟩
  refine ⟨_, rfl, _, rfl, by show 1 ≤ sizeLine; decide, ?_⟩
  intro p1 n1
  obtain ⟨H1, q1, s1, e1⟩ := newO n1 (.lst [v])
  rw [q1]
  clear q1
  refine ⟨a, p1, _, _, rfl, rfl, s1 _ _ ha, e1, by rw [sizeLine_eq]; simp only [List.length_cons, List.length_nil]; omega, ?_⟩
  intro p2 n2
  obtain ⟨H2, q2, s2, e2⟩ := newO n2 (.lst (xs ++ [v]))
  rw [q2]
  clear q2
  have s12 := s1.trans s2
  refine ⟨p2, xs, v, bs, b, rfl, e2, bks_same al s12, ⟨td.same s12, wt⟩, asc, by omega, fun lt d H3 s3 hd => k3 wt (by omega) lt d H3 (s12.trans s3) hd, fun nl r ys H3 s3 nr hr aly ap lp => k4 wt (by omega) nl r ys H3 (s12.trans s3) (none_of_same s12 nr) hr aly ap lp⟩
noncomputable def spFig : Sp := fun vs H Q _ => ∃ i : Int, vs = [.int i] ∧ 0 ≤ i ∧ i < 10 ^ 128 ∧ ∀ H', Same H H' → Q (.str (nT i)) H'
theorem sc_figures : FnScope ["number", "step", "pieces", "rest"] ["number"] (defScope (top 23)) := ⟨rfl, rfl, rfl, by decide +kernel, rfl, by decide +kernel, by decide +kernel⟩
theorem ok_figures (D : Df K mg "figures" (top 23) ["number"]) (T : Tx K mg CK C w) : Fn P w K mg base 1 "figures" ["number"] spFig := by
  refine D.ok0 sc_figures (fun vs H Q E h => ?_) (fun f cdv A outer s H vs Q E hr h => ?_)
  · obtain ⟨i, rfl, _⟩ := h
    rfl
  obtain ⟨i, rfl, i0, i1, q⟩ := h
  refine ⟨_, (pss_cons (ps_set (i := 1) sc_figures.nd rfl (Or.inl rfl) (pe_op op_pow pe_int pe_int))
      (pss_cons (ps_set (i := 2) sc_figures.nd rfl (Or.inl rfl) (pe_lst pa_nil))
      (pss_cons (ps_set (i := 3) sc_figures.nd rfl (Or.inl rfl) (pv 0))
      (pss_cons (ps_while PassesOwn.never (pt_cmpR op_ge (pv 3) (pv 1) (nomark _)) (pss_cons (ps_expr (pe_bm PySem.F.plainAttrs_list PySem.F.slot_list_append PySem.F.type_list_append mt_append (pv 2) (pa_cons (pe_bm PySem.F.plainAttrs_str PySem.F.slot_str_zfill PySem.F.type_str_zfill mt_zfill (pe_callTy call_str_int (by rfl) T.b_str PyProof.Rows.Boot.«str» (pa_cons (pe_op op_mod (pv 3) (pv 1)) pa_nil)) (pa_cons pe_int pa_nil)) pa_nil)))
      (pss_one (ps_set (i := 3) sc_figures.nd rfl (Or.inl rfl) (pe_op op_fdivB (pv 3) (pv 1))))))
      (pss_cons (ps_expr (pe_bm PySem.F.plainAttrs_list PySem.F.slot_list_append PySem.F.type_list_append mt_append (pv 2) (pa_cons (pe_callTy call_str_int (by rfl) T.b_str PyProof.Rows.Boot.«str» (pa_cons (pv 3) pa_nil)) pa_nil)))
      (pss_one (ps_ret (pe_bm PySem.F.plainAttrs_str PySem.F.slot_str_join PySem.F.type_str_join (mt_joinRev rfl) pe_str (pa_cons (pe_callTy call_reversed (by rfl) T.b_reversed PyProof.Rows.Boot.«reversed» (pa_cons (pv 2) pa_nil)) pa_nil))))))))), ?_⟩
  refine ⟨_, _, rfl, rfl, ⟨by decide, by decide, by decide⟩, ?_⟩
  refine ⟨by show 0 ≤ sizeLine; decide, ?_⟩
  intro p1 n1
  obtain ⟨H1, q1, s1, e1⟩ := newO n1 (.lst [])
  rw [q1]
  clear q1
  have S0 : (0 : Int) < 10 ^ 64 := by decide
  have b1 : Bd 1900 i := bd_fig i0 i1
  refine ⟨_, rfl, ?_⟩
  refine ⟨fun m σ' H' => ∃ (rest : Int) (ts : List Str), σ' = [some (.int i), some (.int (10 ^ 64)), some (.ref p1), some (.int rest)] ∧ But p1 H1 H' ∧ H' p1 = some (.lst (ts.map V.str)) ∧ ((m = 1 ∧ ts = [] ∧ rest = i) ∨ (m = 0 ∧ ts = [Txt.zfill (nT (i % 10 ^ 64)) 64] ∧ rest = i / 10 ^ 64 ∧ 10 ^ 64 ≤ i)), ⟨1, i, [], rfl, But.refl _, e1, .inl ⟨rfl, rfl, rfl⟩⟩, ?_⟩
  rintro m σ' H2 ⟨rest, ts, rfl, s2, e2, hc⟩
  refine ⟨_, rfl, _, rfl, _, _, rfl, rfl, _, rfl, ?_⟩
  refine if_dec (fun c => ?_) (fun c => ?_)
  · rcases hc with ⟨rfl, rfl, rfl⟩ | ⟨rfl, rfl, rfl, hi⟩
    · refine ⟨_, fun _ _ n => n, ?_⟩
      have r0 := Int.emod_nonneg rest (show (10 : Int) ^ 64 ≠ 0 by decide)
      have r1 := Int.emod_lt_of_pos rest S0
      have br : Bd 1900 (rest % 10 ^ 64) := b1.of_le (by omega)
      refine ⟨_, rfl, .inl ⟨rfl, _, SqL.of e2⟩, _, rfl, _, rfl, _, _, rfl, rfl, S0, _, rfl, lg_of br, rfl, nT (rest % 10 ^ 64), 64, rfl, rfl, by decide, p1, _, _, rfl, rfl, e2, by rw [sizeLine_eq]; simp, ?_⟩
      obtain ⟨H3, q3, s3, e3⟩ := newB (H := H2) (p := p1) (.lst (([] : List Str).map V.str ++ [.str (Txt.zfill (nT (rest % 10 ^ 64)) 64)]))
      dsimp only
      rw [q3]
      clear q3
      refine ⟨_, rfl, _, rfl, _, _, rfl, rfl, ⟨by decide, by decide +kernel⟩, ?_⟩
      refine ⟨0, by decide, rest / 10 ^ 64, [Txt.zfill (nT (rest % 10 ^ 64)) 64], ?_, s2.trans s3, e3, .inr ⟨rfl, rfl, rfl, c⟩⟩
      dsimp only
      rw [Int.fdiv_eq_ediv_of_nonneg _ (by decide)]
      rfl
    · exfalso
      have h2 : i / 10 ^ 64 < 10 ^ 64 := Int.ediv_lt_of_lt_mul S0 (by
        have : (10 : Int) ^ 64 * 10 ^ 64 = 10 ^ 128 := by decide +kernel
        omega)
      have c' : (10 : Int) ^ 64 ≤ i / 10 ^ 64 := c
      omega
  · have br : Bd 1900 rest := by
      rcases hc with ⟨_, _, rfl⟩ | ⟨_, _, rfl, hi⟩
      · exact b1
      · have := Int.ediv_nonneg i0 (show (0 : Int) ≤ 10 ^ 64 by decide)
        have := Int.ediv_le_self (10 ^ 64) i0
        exact b1.of_le (by omega)
    have lt : ts.length ≤ 1 := by rcases hc with ⟨_, rfl, _⟩ | ⟨_, rfl, _⟩ <;> simp
    refine ⟨_, rfl, .inl ⟨rfl, _, SqL.of e2⟩, _, rfl, _, rfl, lg_of br, p1, _, _, rfl, rfl, e2, by rw [sizeLine_eq, List.length_map]; omega, ?_⟩
    obtain ⟨H3, q3, s3, e3⟩ := newB (H := H2) (p := p1) (.lst (ts.map V.str ++ [.str (nT rest)]))
    replace q3 : upd H2 p1 (.lst (ts.map V.str ++ [.str (Str.ofString (toString rest))])) = H3 := q3
    rw [q3]
    clear q3
    have e3' : H3 p1 = some (.lst ((ts ++ [nT rest]).map V.str)) := by
      rw [e3, List.map_append]
      rfl
    refine ⟨rfl, _, rfl, p1, _, rfl, SqL.of e3', fun l hl => ?_⟩
    have s4 := same_new hl (.ext (RevAt (cxOf (CXE P w) P w K mg base ["number", "step", "pieces", "rest"] "figures" (defScope (top 23)) f cdv A outer s H E).nox l p1 ((ts ++ [nT rest]).map V.str).length))
    have tot : Same H H3 := fun a o e => (s2.trans s3) a o (ne_of_none e n1) (s1 a o e)
    refine ⟨Str.ofString "", l, p1, ts ++ [nT rest], rfl, rfl, ?_, SqL.of (s4 _ _ e3'), ?_, fun H5 b5 n5 => ?_⟩
    · rw [List.length_map]
      exact upd_same
    · refine join_ok (B := 600) (fun y hy => ?_) ?_
      · rcases List.mem_append.mp (List.mem_reverse.mp hy) with hy | hy
        · rcases hc with ⟨_, rfl, _⟩ | ⟨_, rfl, _⟩
          · exact nomatch hy
          · rw [List.mem_singleton.mp hy]
            have := zfill_len (Int.emod_nonneg i (show (10 : Int) ^ 64 ≠ 0 by decide)) (Int.emod_lt_of_pos i S0)
            omega
        · rw [List.mem_singleton.mp hy]
          have r128 : rest.natAbs < 10 ^ 128 := by
            have e2 : ((10 ^ 128 : Nat) : Int) = (10 : Int) ^ 128 := Int.natCast_pow 10 128
            rcases hc with ⟨_, _, rfl⟩ | ⟨_, _, rfl, hi⟩
            · omega
            · have := Int.ediv_nonneg i0 (show (0 : Int) ≤ 10 ^ 64 by decide)
              have := Int.ediv_le_self (10 ^ 64) i0
              omega
          have := nT_len (i := rest) (k := 128) (by decide) r128
          omega
      · rw [List.length_reverse, List.length_append, sep_none]
        show (ts.length + 1) * 600 + (ts.length + 1) * 0 ≤ _
        omega
    · have z := q H5 fun a o e => b5 a o (ne_of_none (tot a o e) hl) (s4 a o (tot a o e))
      rcases hc with ⟨_, rfl, rfl⟩ | ⟨_, rfl, rfl, hi⟩
      · exact z
      · rw [← fig_two hi] at z
        exact z
noncomputable def spShown (K : PySem.W.Frag) : Sp := fun vs H Q _ => ∃ p q, vs = [.ref p] ∧ FQ K H p q ∧ shF q ∧ ∀ H', Same H H' → Q (.str (frT q)) H'
theorem sh_neg {i : Int} (h : lng i = false) : lng (-i) = false := by
  unfold lng at *
  rw [Int.natAbs_neg]
  exact h
theorem lz : ∀ {x y : Str} {a b : Nat}, x.length ≤ a → y.length ≤ b → a + b ≤ 2000 → x.length + y.length ≤ sizeLine := fun h1 h2 h3 => by
  rw [sizeLine_eq]
  omega
theorem sc_shown : FnScope ["one", "sign", "top"] ["one"] (defScope (top 24)) := ⟨rfl, rfl, rfl, by decide +kernel, rfl, by decide +kernel, by decide +kernel⟩
theorem ok_shown (D : Df K mg "shown" (top 24) ["one"]) (T : Tx K mg CK C w) (F_figures : Fn P w K mg base 1 "figures" ["number"] spFig) : Fn P w K mg base 2 "shown" ["one"] (spShown K) := by
  refine D.ok0 sc_shown (fun vs H Q E h => ?_) (fun f cdv A outer s H vs Q E hr h => ?_)
  · obtain ⟨p, q, rfl, _⟩ := h
    rfl
  obtain ⟨p, q, rfl, hp, ⟨l1, l2⟩, k⟩ := h
  refine ⟨_, (pss_cons (ps_set (i := 1) sc_shown.nd rfl (Or.inl rfl) (pe_ifExp (pt_cmpR op_lt (pe_ix ix_tup (pv 0) pe_int (fun _ _ => rfl)) pe_int (nomark _)) pe_str pe_str))
      (pss_cons (ps_set (i := 2) sc_shown.nd rfl (Or.inl rfl) (pe_op op_add_str (pv 1) (pe_fn F_figures (by decide) hr (by rfl) passE0 (pa_cons (pe_callB call_abs (by rfl) T.b_abs PyProof.Rows.Boot.«abs» (pa_cons (pe_ix ix_tup (pv 0) pe_int (fun _ _ => rfl)) pa_nil)) pa_nil))))
      (pss_cons (ps_if (pt_cmpR op_eq (pe_ix ix_tup (pv 0) pe_int (fun _ _ => rfl)) pe_int (nomark _)) (pss_one (ps_ret (pv 2))) pss_nil)
      (pss_one (ps_ret (pe_op op_add_str (pe_op op_add_str (pv 2) pe_str) (pe_fn F_figures (by decide) hr (by rfl) passE0 (pa_cons (pe_ix ix_tup (pv 0) pe_int (fun _ _ => rfl)) pa_nil)))))))), ?_⟩
  have b1 := sh_bd2 l1
  have b2 := sh_bd2 l2
  have dp := q_pos q
  refine ⟨_, rfl, p, _, _, _, rfl, rfl, hp, rfl, _, _, rfl, rfl, _, rfl, ?_⟩
  refine if_dec (fun c => ?_) (fun c => ?_)
  · refine ⟨_, rfl, _, rfl, p, _, _, _, rfl, rfl, hp, rfl, _, rfl, ?_⟩
    dsimp only
    rw [if_pos c]
    refine ⟨_, rfl, by omega, by omega, fun H1 s1 => ?_⟩
    have l3 := short_nT (i := -q.num) (sh_neg l1)
    refine ⟨Str.ofString "-", nT (-q.num), rfl, rfl, lz (a := 1) (b := 101) (by decide +kernel) l3 (by decide), ?_⟩
    rw [minus_nT c]
    have hp1 := Kw.Same.tup s1 hp
    refine ⟨_, rfl, p, _, _, _, rfl, rfl, hp1, rfl, rfl, _, rfl, ?_⟩
    refine if_decI (fun e => ?_) (fun e => ?_)
    · refine ⟨_, rfl, ?_⟩
      have z := k H1 s1
      unfold frT frP at z
      rw [if_pos e] at z
      exact z
    · refine ⟨_, rfl, nT q.num, Str.ofString "/", rfl, rfl, lz (a := 101) (b := 1) (short_nT l1) (by decide +kernel) (by decide), _, rfl, p, _, _, _, rfl, rfl, hp1, rfl, _, rfl, by omega, by omega, fun H2 s2 => ?_⟩
      have l4 : (nT q.num ++ Str.ofString "/").length ≤ 102 := by
        rw [len_app]
        have := short_nT l1
        have e1 : (Str.ofString "/").length = 1 := by decide +kernel
        omega
      refine ⟨nT q.num ++ Str.ofString "/", nT ((q.den : Nat) : Int), rfl, rfl, lz l4 (short_nT l2) (by decide), ?_⟩
      have z := k H2 (s1.trans s2)
      unfold frT frP at z
      rw [if_neg e] at z
      exact z
  · refine ⟨_, rfl, _, rfl, p, _, _, _, rfl, rfl, hp, rfl, _, rfl, ?_⟩
    dsimp only
    rw [if_neg c]
    refine ⟨_, rfl, by omega, by omega, fun H1 s1 => ?_⟩
    have l3 := short_nT (i := q.num) l1
    refine ⟨Str.ofString "", nT (q.num), rfl, rfl, lz (a := 1) (b := 101) (by decide +kernel) l3 (by decide), ?_⟩
    rw [plus_nT]
    have hp1 := Kw.Same.tup s1 hp
    refine ⟨_, rfl, p, _, _, _, rfl, rfl, hp1, rfl, rfl, _, rfl, ?_⟩
    refine if_decI (fun e => ?_) (fun e => ?_)
    · refine ⟨_, rfl, ?_⟩
      have z := k H1 s1
      unfold frT frP at z
      rw [if_pos e] at z
      exact z
    · refine ⟨_, rfl, nT q.num, Str.ofString "/", rfl, rfl, lz (a := 101) (b := 1) (short_nT l1) (by decide +kernel) (by decide), _, rfl, p, _, _, _, rfl, rfl, hp1, rfl, _, rfl, by omega, by omega, fun H2 s2 => ?_⟩
      have l4 : (nT q.num ++ Str.ofString "/").length ≤ 102 := by
        rw [len_app]
        have := short_nT l1
        have e1 : (Str.ofString "/").length = 1 := by decide +kernel
        omega
      refine ⟨nT q.num ++ Str.ofString "/", nT ((q.den : Nat) : Int), rfl, rfl, lz l4 (short_nT l2) (by decide), ?_⟩
      have z := k H2 (s1.trans s2)
      unfold frT frP at z
      rw [if_neg e] at z
      exact z
noncomputable def spLong : Sp := fun vs H Q _ => ∃ i, vs = [.int i] ∧ Q (.bl (lng i)) H
theorem lng_is (i : Int) : decide ((10 : Int) ^ 50 * 10 ^ 50 ≤ (if i < 0 then -i else i)) = lng i := by
  unfold lng
  have e : (10 : Int) ^ 50 * 10 ^ 50 = 10 ^ 100 := by decide +kernel
  have e2 : ((10 ^ 100 : Nat) : Int) = (10 : Int) ^ 100 := Int.natCast_pow 10 100
  rw [e]
  refine decide_eq_decide.mpr ?_
  split <;> omega
theorem sc_is_long : FnScope ["number"] ["number"] (defScope (top 104)) := ⟨rfl, rfl, rfl, by decide +kernel, rfl, by decide +kernel, by decide +kernel⟩
theorem ok_is_long (D : Df K mg "is_long" (top 104) ["number"]) (T : Tx K mg CK C w) : Fn P w K mg base 1 "is_long" ["number"] spLong := by
  refine D.ok0 sc_is_long (fun vs H Q E h => ?_) (fun f cdv A outer s H vs Q E hr h => ?_)
  · obtain ⟨i, rfl, _⟩ := h
    rfl
  obtain ⟨i, rfl, q⟩ := h
  refine ⟨_, (pss_one (ps_ret (pe_cmpR op_ge (pe_callB call_abs (by rfl) T.b_abs PyProof.Rows.Boot.«abs» (pa_cons (pv 0) pa_nil)) (pe_op op_mulB (pe_op op_pow pe_int pe_int) (pe_op op_pow pe_int pe_int)) (nomark _)))), ?_⟩
  rw [← lng_is] at q
  have b50 : Bd 200 ((10 : Int) ^ 50) := by unfold Bd; decide +kernel
  exact ⟨_, rfl, _, rfl, _, _, rfl, rfl, ⟨by decide, by decide, by decide⟩, _, _, rfl, rfl, ⟨by decide, by decide, by decide⟩, _, _, rfl, rfl, b50.ok b50 (by decide), _, _, rfl, rfl, q⟩
noncomputable def sp_number_word (K : PySem.W.Frag) (C : Nat → Addr) : Sp := fun vs H Q E => ∃ (v : V) (q : Rat), vs = [v] ∧ ((∃ i : Int, v = .int i ∧ q = (i : Rat)) ∨ ∃ p, v = .ref p ∧ FH H p q) ∧ (shF q → ∀ H1, Same H H1 → Q (.str (frT q)) H1) ∧ (¬ shF q → ∀ H1, Same H H1 → E (.ref (C 4)) none H1)
theorem sc_number_word : FnScope ["number", "one"] ["number"] (defScope (top 122)) := ⟨rfl, rfl, rfl, by decide +kernel, rfl, by decide +kernel, by decide +kernel⟩
theorem ok_number_word (D : Df K mg "number_word" (top 122) ["number"]) (T : Tx K mg CK C w) (F_is_whole : Fn P w K mg base 1 "is_whole" ["thing"] (spWhole K)) (F_is_long : Fn P w K mg base 1 "is_long" ["number"] spLong) (F_shown : Fn P w K mg base 2 "shown" ["one"] (spShown K)) : Fn P w K mg base 3 "number_word" ["number"] (sp_number_word K C) := by
  refine D.okX sc_number_word (fun vs H Q E h => ?_) (fun f cdv A outer s H vs Q E hr h => ?_)
  · obtain ⟨v, q, rfl, _⟩ := h
    rfl
  obtain ⟨v, q, rfl, nm, fin, bad⟩ := h
  refine ⟨_, (pss_cons (ps_set (i := 1) sc_number_word.nd rfl (Or.inl rfl) (pe_ifExp (pt_val (pe_fn F_is_whole (by decide) hr (by rfl) passE0 (pa_cons (pv 0) pa_nil)) (fun _ => rfl)) (pe_tup (pa_cons (pv 0) (pa_cons pe_int pa_nil))) (pv 0)))
      (pss_cons (ps_if (pw_or (pt_val (pe_fn F_is_long (by decide) hr (by rfl) passE0 (pa_cons (pe_ix ix_tup (pv 1) pe_int (fun _ _ => rfl)) pa_nil)) (fun _ => rfl)) (pw_or1 (pt_val (pe_fn F_is_long (by decide) hr (by rfl) passE0 (pa_cons (pe_ix ix_tup (pv 1) pe_int (fun _ _ => rfl)) pa_nil)) (fun _ => rfl)))).pt (pss_one (ps_raise plain_cxOf leaves_cxOf rfl rfl T.c_TooMany T.x_TooMany (pa_cons pe_str pa_nil))) pss_nil)
      (pss_one (ps_ret (pe_fn F_shown (by decide) hr (by rfl) passE0 (pa_cons (pv 1) pa_nil)))))), ?_⟩
  refine cut1 (fun σ' H' => ∃ p, σ' = [some v, some (.ref p)] ∧ Same H H' ∧ FH H' p q) (fun N hN => ?_) ?_
  · rcases nm with ⟨i, rfl, rfl⟩ | ⟨p, rfl, hp⟩
    · refine ⟨_, rfl, _, _, true, false, rfl, .int i, kit_int_int, kit_int_bool, _, rfl, iteT ?_⟩
      refine ⟨_, rfl, by show 2 ≤ sizeLine; decide, ?_⟩
      intro p1 n1
      obtain ⟨H1, q1, s1, e1⟩ := newO n1 (.tup [.int i, .int 1])
      rw [q1]
      clear q1
      exact hN _ _ ⟨p1, rfl, s1, FH.ofInt e1⟩
    · refine ⟨_, rfl, _, _, false, false, rfl, .tup hp, kit_tup_int, kit_tup_bool, _, rfl, iteF ⟨_, rfl, ?_⟩⟩
      exact hN _ _ ⟨p, rfl, Same.refl _, hp⟩
  rintro σ' H1 ⟨p, rfl, s1, hp⟩
  refine ⟨_, rfl, p, _, _, _, rfl, rfl, hp.fq, rfl, _, rfl, _, rfl, ?_⟩
  cases c1 : lng q.num with
  | true => exact iteT ⟨by show 1 ≤ sizeLine; decide, bad (fun h => by rw [h.1] at c1; cases c1) H1 s1⟩
  | false =>
    refine iteF ⟨_, rfl, p, _, _, _, rfl, rfl, hp.fq, rfl, _, rfl, _, rfl, ?_⟩
    cases c2 : lng ((q.den : Nat) : Int) with
    | true => exact iteT ⟨by show 1 ≤ sizeLine; decide, bad (fun h => by rw [h.2] at c2; cases c2) H1 s1⟩
    | false => exact iteF ⟨_, rfl, p, q, rfl, hp.fq, ⟨c1, c2⟩, fun H2 s2 => fin ⟨c1, c2⟩ H2 (s1.trans s2)⟩
noncomputable def sp_words_of (K : PySem.W.Frag) : Sp := fun vs H Q _ => ∃ (v : V) (b : Bo), vs = [v] ∧ BdK H v b ∧ ∀ H1, Same H H1 → Q (.str (rowT b)) H1
theorem sc_words_of : FnScope ["thing"] ["thing"] (defScope (top 123)) := ⟨rfl, rfl, rfl, by decide +kernel, rfl, by decide +kernel, by decide +kernel⟩
theorem ok_words_of (D : Df K mg "words_of" (top 123) ["thing"]) (T : Tx K mg CK C w) (F_number_word : Fn P w K mg base 3 "number_word" ["number"] (sp_number_word K C)) : Fn P w K mg base 4 "words_of" ["thing"] (sp_words_of K) := by
  refine D.ok0 sc_words_of (fun vs H Q E h => ?_) (fun f cdv A outer s H vs Q E hr h => ?_)
  · obtain ⟨v, b, rfl, _⟩ := h
    rfl
  obtain ⟨v, b, rfl, bk, fin⟩ := h
  refine ⟨_, (pss_one (ps_ret (pe_bm PySem.F.plainAttrs_str PySem.F.slot_str_join PySem.F.type_str_join (mt_join (K := K) rfl) pe_str (pa_cons (@pe_lc _ _ _ _ _ _ _ _ _ _ [] [] rfl (pi_tup (pv 0)) rfl (by decide) rfl (by decide) rfl (by decide) cap_none (fun _ _ h => nomatch h) (no_free rfl) (fun C z Hc fp => (pe_fn F_number_word (by decide) hr (by rfl) passE0 (pa_cons (pv 0) pa_nil))) (fun _ => rfl)) pa_nil)))), ?_⟩
  have sh := bk.sh
  obtain ⟨⟨p, a, c, rfl, hp, ha, hc, sa, sc⟩, w1, w2⟩ := bk
  refine ⟨rfl, _, rfl, p, rfl, ⟨_, SqT.of hp⟩, lc_tup (K := K) (xs := [.ref a, .ref c, .int b.2.2]) (fun i ys H' => Same H H' ∧ ys = ([frT b.1, frT b.2.1, nT b.2.2].take i).map V.str ∧ i ≤ 3) ⟨Same.refl _, rfl, by omega⟩ (by rw [sizeLine_eq]; simp) (fun i ys H' ⟨_, e, l⟩ => by rw [e]; simp; omega) (fun i ys H' ⟨s, _⟩ => SqT.of (s _ _ hp)) ?_ ?_⟩
  · rintro i y ys H' Q' hy ⟨s1, rfl, li⟩ k
    match i, hy with
    | 0, hy => cases hy; exact ⟨_, rfl, _, b.1, rfl, .inr ⟨a, rfl, s1 _ _ ha⟩, fun _ H2 s2 => k _ _ ⟨s1.trans s2, rfl, by omega⟩, fun n => (n sh.1).elim⟩
    | 1, hy => cases hy; exact ⟨_, rfl, _, b.2.1, rfl, .inr ⟨c, rfl, s1 _ _ hc⟩, fun _ H2 s2 => k _ _ ⟨s1.trans s2, rfl, by omega⟩, fun n => (n sh.2.1).elim⟩
    | 2, hy =>
      cases hy
      refine ⟨_, rfl, _, (b.2.2 : Rat), rfl, .inl ⟨_, rfl, rfl⟩, fun _ H2 s2 => ?_, fun n => (n (shF_int sh.2.2)).elim⟩
      rw [frT_int]
      exact k _ _ ⟨s1.trans s2, rfl, by omega⟩
  · rintro ys H' ⟨s1, ey, _⟩
    replace ey : ys = [frT b.1, frT b.2.1, nT b.2.2].map V.str := ey
    subst ey
    intro p5 n5
    obtain ⟨H5, q5, s5, e5⟩ := newO n5 (.lst ([frT b.1, frT b.2.1, nT b.2.2].map V.str))
    rw [q5]
    clear q5
    replace e5 : H5 p5 = some (.lst ([frT b.1, frT b.2.1, nT b.2.2].map V.str)) := e5
    exact ⟨Str.ofString " ", p5, [frT b.1, frT b.2.1, nT b.2.2], rfl, rfl, SqL.of e5, join_ok (row_part sh) (by show 3 * 204 + 3 * (Str.ofString " ").length ≤ 16777216; rw [sep_blank]; decide), fin _ (s1.trans s5)⟩
noncomputable def sp_list_words (K : PySem.W.Frag) : Sp := fun vs H Q _ => ∃ (a : Addr) (xs : List V) (bs : List Bo), vs = [.ref a] ∧ H a = some (.lst xs) ∧ Al2 (BdK H) xs bs ∧ bs.length ≤ 6 ∧ ∀ H1, Same H H1 → Q (.str (deskT bs)) H1
theorem sc_list_words : FnScope ["things"] ["things"] (defScope (top 124)) := ⟨rfl, rfl, rfl, by decide +kernel, rfl, by decide +kernel, by decide +kernel⟩
theorem ok_list_words (D : Df K mg "list_words" (top 124) ["things"]) (T : Tx K mg CK C w) (F_words_of : Fn P w K mg base 4 "words_of" ["thing"] (sp_words_of K)) : Fn P w K mg base 5 "list_words" ["things"] (sp_list_words K) := by
  refine D.ok0 sc_list_words (fun vs H Q E h => ?_) (fun f cdv A outer s H vs Q E hr h => ?_)
  · obtain ⟨a, xs, bs, rfl, _⟩ := h
    rfl
  obtain ⟨a, xs, bs, rfl, ha, al, l6, fin⟩ := h
  refine ⟨_, (pss_cons (ps_if (pt_cmpR op_eq (pe_callB call_len (by rfl) T.b_len PyProof.Rows.Boot.«len» (pa_cons (pv 0) pa_nil)) pe_int (nomark _)) (pss_one (ps_ret pe_str)) pss_nil)
      (pss_one (ps_ret (pe_bm PySem.F.plainAttrs_str PySem.F.slot_str_join PySem.F.type_str_join (mt_join (K := K) rfl) pe_str (pa_cons (@pe_lc _ _ _ _ _ _ _ _ _ _ [] [] rfl (pi_list (pv 0)) rfl (by decide) rfl (by decide) rfl (by decide) cap_none (fun _ _ h => nomatch h) (no_free rfl) (fun C z Hc fp => (pe_fn F_words_of (by decide) hr (by rfl) passE0 (pa_cons (pv 0) pa_nil))) (fun _ => rfl)) pa_nil))))), ?_⟩
  have hz := Al2.len al
  have sh := bks_sh al
  refine ⟨_, rfl, _, _, rfl, .inl ⟨_, SqL.of ha, rfl⟩, rfl, _, rfl, ?_⟩
  refine if_decI (fun c => ?_) (fun c => ?_)
  · have e : bs = [] := List.eq_nil_of_length_eq_zero (by omega)
    have z := fin H (Same.refl H)
    unfold deskT at z
    rw [if_pos e] at z
    exact z
  refine ⟨rfl, _, rfl, a, rfl, ⟨_, SqL.of ha⟩, lc_list (K := K) (xs := xs) (fun i ys H' => Same H H' ∧ ys = ((bs.take i).map rowT).map V.str ∧ i ≤ bs.length) ⟨Same.refl _, rfl, Nat.zero_le _⟩ (by rw [sizeLine_eq]; omega) (fun i ys H' ⟨_, e, l⟩ => by rw [e]; simp; omega) (fun i ys H' ⟨s, _⟩ => SqL.of (s _ _ ha)) ?_ ?_⟩
  · rintro i y ys H' Q' hy ⟨s1, rfl, li⟩ k
    obtain ⟨b, hb, bk⟩ := Al2.get (bks_same al s1) hy
    refine ⟨_, rfl, y, b, rfl, bk, fun H2 s2 => k _ _ ⟨s1.trans s2, ?_, ?_⟩⟩
    · rw [List.take_add_one, hb]
      simp
    · have := (List.getElem?_eq_some_iff.mp hb).1
      omega
  · rintro ys H' ⟨s1, rfl, _⟩
    rw [hz, List.take_length]
    intro p5 n5
    obtain ⟨H5, q5, s5, e5⟩ := newO n5 (.lst ((bs.map rowT).map V.str))
    rw [q5]
    clear q5
    have z := fin H5 (s1.trans s5)
    unfold deskT at z
    rw [if_neg (fun e => by rw [e] at hz; exact c (by rw [hz]; rfl))] at z
    exact ⟨Str.ofString "; ", p5, bs.map rowT, rfl, rfl, SqL.of e5, join_ok (world_part sh) (by rw [List.length_map, sep_semi]; omega), z⟩
noncomputable def spD_init (CD : Addr) : Sp := fun vs H Q _ => ∃ (x dx : Addr), vs = [.ref x] ∧ H x = some (.ins CD dx []) ∧ ∀ (kp : Addr) (H1 : Hp), But x H H1 → H kp = none → DeskAt H1 CD x kp [] → Q .non H1
theorem sc_Desk___init__ : FnScope ["self"] ["self"] (defScope (mthAt (top 130) 0)) := ⟨rfl, rfl, rfl, by decide +kernel, rfl, by decide +kernel, by decide +kernel⟩
theorem ok_Desk___init__ (D : DfM K (C 7) "__init__" "Desk.__init__" (mthAt (top 130) 0) ["self"]) (T : Tx K mg CK C w) : FnM P w K mg base 1 (C 7) "__init__" ["self"] (spD_init (C 7)) := by
  refine D.ok0 sc_Desk___init__ (fun vs H Q E h => ?_) (fun f cdv A outer s H vs Q E hr h => ?_)
  · obtain ⟨x, dx, rfl, _⟩ := h
    rfl
  obtain ⟨x, dx, rfl, hx, k⟩ := h
  refine ⟨_, (pss_one (ps_fldC T.cl_Desk T.n_Desk_kept (pv 0) (pe_lst pa_nil))), ?_⟩
  refine ⟨by show 0 ≤ sizeLine; decide, ?_⟩
  intro p1 n1
  obtain ⟨H1, q1, s1, e1⟩ := newO n1 (.lst [])
  rw [q1]
  clear q1
  refine ⟨_, rfl, x, dx, [], rfl, s1 _ _ hx, by decide, ?_⟩
  obtain ⟨H2, q2, s2, e2⟩ := newB (H := H1) (p := x) (.ins (C 7) dx (putF ("kept" : Str) (V.ref p1) []))
  try dsimp only
  rw [q2]
  clear q2
  have px : p1 ≠ x := fun z => by rw [z, hx] at n1; cases n1
  exact k p1 H2 ((But.of s1).trans s2) n1 ⟨dx, [], e2, s2 _ _ px e1, trivial, List.Pairwise.nil, by decide⟩
noncomputable def RowB (z : Str) (b : Bo) : Prop := ∃ s1 s2 s3, Txt.split z (Str.ofString " ") = [Str.ofString "body", s1, s2, s3] ∧ isF s1 b.1 ∧ isF s2 b.2.1 ∧ isN s3 b.2.2 ∧ Sm b.1 ∧ Sm b.2.1 ∧ 0 ≤ b.2.2 ∧ b.2.2 < 10000
noncomputable def RowBad (z : Str) : Prop := ∃ w0 zs, Txt.split z (Str.ofString " ") = w0 :: zs ∧ w0 ≠ Str.ofString "paper" ∧ (formOf w0 = none ∨ ∃ ks, formOf w0 = some ks ∧ zs.length ≠ ks.length)
noncomputable def SayB (C : Nat → Addr) (d kp : Addr) (bs : List Bo) (b : Bo) (H : Hp) (Q : VK) (E : XK) : Prop := (¬ WtOk b → ∀ H1, Same H H1 → E (.ref (C 0)) none H1) ∧ (WtOk b → bs.length = 6 → ∀ H1, Same H H1 → E (.ref (C 4)) none H1) ∧
  (WtOk b → bs.length ≠ 6 → (lessB bs b.1).length + (moreB bs b.1).length < bs.length → ∀ (x : Addr) (H1 : Hp), Same H H1 → H1 x = some (Xd x [("at", .int (((lessB bs b.1).length + 1 : Nat) : Int))]) → E (.ref (C 5)) (some x) H1) ∧
  (WtOk b → bs.length ≠ 6 → ¬ (lessB bs b.1).length + (moreB bs b.1).length < bs.length → ∀ (r : Addr) (H1 : Hp), But d H H1 → H r = none → DeskAt H1 (C 7) d r (putB bs b) → Q (.str (nT ((bs.length + 1 : Nat) : Int))) H1)
noncomputable def spD_say (K : PySem.W.Frag) (C : Nat → Addr) : Sp := fun vs H Q E => ∃ (d kp : Addr) (bs : List Bo) (z : Str), vs = [.ref d, .str z] ∧ DeskAt H (C 7) d kp bs ∧ z.length ≤ 90000 ∧
  ((∃ b, RowB z b ∧ SayB C d kp bs b H Q E) ∨ (z = Str.ofString "clear" ∧ ∀ (r : Addr) (H1 : Hp), But d H H1 → H r = none → DeskAt H1 (C 7) d r [] → Q (.str (Str.ofString "0")) H1) ∨ (z = Str.ofString "world" ∧ ∀ H1, Same H H1 → Q (.str (deskT bs)) H1) ∨ (RowBad z ∧ ∀ H1, Same H H1 → E (.ref (C 3)) none H1))
theorem kdgs_body {s1 s2 s3 : Str} {b : Bo} (h1 : isF s1 b.1) (h2 : isF s2 b.2.1) (h3 : isN s3 b.2.2) (m1 : Sm b.1) (m2 : Sm b.2.1) (w0 : 0 ≤ b.2.2) (w1 : b.2.2 < 10000) : KdGs ["fraction", "fraction", "number"] [s1, s2, s3] :=
  .cons (.inr (.inl ⟨rfl, _, h1, m1⟩)) (.cons (.inr (.inl ⟨rfl, _, h2, m2⟩)) (.cons (.inl ⟨rfl, _, h3, w0, w1⟩) .nil))
theorem kdv_fr {H : Hp} {z : Str} {v : V} (h : KdV H "fraction" z v) : ∃ q p, isF z q ∧ Sm q ∧ v = .ref p ∧ FH H p q := by
  rcases h with ⟨e, _⟩ | ⟨_, h⟩ | ⟨e, _⟩
  · exact absurd e (by decide)
  · exact h
  · exact absurd e (by decide)
theorem kdv_nm {H : Hp} {z : Str} {v : V} (h : KdV H "number" z v) : ∃ n, isN z n ∧ 0 ≤ n ∧ n < 10000 ∧ v = .int n := by
  rcases h with ⟨_, h⟩ | ⟨e, _⟩ | ⟨e, _⟩
  · exact h
  · exact absurd e (by decide)
  · exact absurd e (by decide)
theorem kdvs_body {H : Hp} {s1 s2 s3 : Str} {ys : List V} {q : Addr} {b : Bo} (h : KdVs H ["fraction", "fraction", "number"] [s1, s2, s3] ys) (hq : H q = some (.tup ys)) (h1 : isF s1 b.1) (h2 : isF s2 b.2.1) (h3 : isN s3 b.2.2) : TdK H (.ref q) b := by
  cases h with
  | cons a h => cases h with
    | cons c h => cases h with
      | cons d h => cases h with
        | nil =>
          obtain ⟨q1, p1, i1, m1, rfl, f1⟩ := kdv_fr a
          obtain ⟨q2, p2, i2, m2, rfl, f2⟩ := kdv_fr c
          obtain ⟨n, i3, _, _, rfl⟩ := kdv_nm d
          rw [i1.uniq h1] at m1 f1
          rw [i2.uniq h2] at m2 f2
          rw [i3.uniq h3] at hq
          exact ⟨q, p1, p2, rfl, hq, f1, f2, m1, m2⟩
theorem sc_Desk_say : FnScope ["self", "row", "told", "word", "values"] ["self", "row"] (defScope (mthAt (top 130) 1)) := ⟨rfl, rfl, rfl, by decide +kernel, rfl, by decide +kernel, by decide +kernel⟩
theorem ok_Desk_say (D : DfM K (C 7) "say" "Desk.say" (mthAt (top 130) 1) ["self", "row"]) (T : Tx K mg CK C w) (F_read_row : Fn P w K mg base 6 "read_row" ["row"] (sp_read_row K C)) (F_with_body : Fn P w K mg base 6 "with_body" ["bodies", "body"] (sp_with_body K C)) (F_number_word : Fn P w K mg base 3 "number_word" ["number"] (sp_number_word K C)) (F_list_words : Fn P w K mg base 5 "list_words" ["things"] (sp_list_words K)) : FnM P w K mg base 7 (C 7) "say" ["self", "row"] (spD_say K C) := by
  refine D.okX sc_Desk_say (fun vs H Q E h => ?_) (fun f cdv A outer s H vs Q E hr h => ?_)
  · obtain ⟨d, kp, bs, z, rfl, _⟩ := h
    rfl
  obtain ⟨d, kp, bs, z, rfl, dk, zl, h⟩ := h
  refine ⟨_, (pss_cons (ps_set (i := 2) sc_Desk_say.nd rfl (Or.inl rfl) (pe_fn F_read_row (by decide) hr (by rfl) (passL plain_cxOf leaves_cxOf) (pa_cons (pv 1) pa_nil)))
      (pss_cons (ps_set (i := 3) sc_Desk_say.nd rfl (Or.inl rfl) (pe_ix ix_tup (pv 2) pe_int (fun _ _ => rfl)))
      (pss_cons (ps_set (i := 4) sc_Desk_say.nd rfl (Or.inl rfl) (pe_ix ix_tup (pv 2) pe_int (fun _ _ => rfl)))
      (pss_cons (ps_if (pt_cmpR op_eq (pv 3) pe_str (nomark _)) (pss_cons (ps_fldC T.cl_Desk T.n_Desk_kept (pv 0) (pe_fn F_with_body (by decide) hr (by rfl) (passL plain_cxOf leaves_cxOf) (pa_cons (pe_fldC T.cl_Desk T.n_Desk_kept (pv 0)) (pa_cons (pv 4) pa_nil))))
      (pss_one (ps_ret (pe_fn F_number_word (by decide) hr (by rfl) (passL plain_cxOf leaves_cxOf) (pa_cons (pe_callB call_len (by rfl) T.b_len PyProof.Rows.Boot.«len» (pa_cons (pe_fldC T.cl_Desk T.n_Desk_kept (pv 0)) pa_nil)) pa_nil))))) pss_nil)
      (pss_cons (ps_if (pt_cmpR op_eq (pv 3) pe_str (nomark _)) (pss_cons (ps_fldC T.cl_Desk T.n_Desk_kept (pv 0) (pe_lst pa_nil))
      (pss_one (ps_ret pe_str))) pss_nil)
      (pss_cons (ps_if (pt_cmpR op_eq (pv 3) pe_str (nomark _)) (pss_one (ps_ret (pe_fn F_list_words (by decide) hr (by rfl) (passL plain_cxOf leaves_cxOf) (pa_cons (pe_fldC T.cl_Desk T.n_Desk_kept (pv 0)) pa_nil)))) pss_nil)
      (pss_cons (ps_if (pt_cmpR op_eq (pv 3) pe_str (nomark _)) (pss_one ps_never) pss_nil)
      (pss_cons ps_never
      (pss_one ps_never))))))))), ?_⟩
  obtain ⟨dx, xs, hd, hkp, al, asc, l6⟩ := id dk
  have hz := Al2.len al
  rcases h with ⟨b, ⟨z1, z2, z3, sp, i1, i2, i3, m1, m2, w0, w1⟩, k1, k2, k3, k4⟩ | ⟨rfl, k⟩ | ⟨rfl, k⟩ | ⟨⟨w0, zs, sp, np, bad⟩, k⟩
  · refine ⟨_, rfl, z, _, _, rfl, zl, sp, by decide +kernel, .inr ⟨_, (by decide +kernel : formOf (Str.ofString "body") = some ["fraction", "fraction", "number"]), .inr ⟨kdgs_body i1 i2 i3 m1 m2 w0 w1, fun r q ys H1 s1 hr nq hq kv => ?_⟩⟩⟩
    have td := kdvs_body kv hq i1 i2 i3
    refine ⟨_, rfl, r, _, _, _, rfl, rfl, SqT.of hr, rfl, ?_⟩
    refine ⟨_, rfl, r, _, _, _, rfl, rfl, SqT.of hr, rfl, ?_⟩
    refine ⟨_, rfl, rfl, _, rfl, iteT ?_⟩
    refine ⟨_, rfl, d, _, _, _, rfl, s1 _ _ hd, rfl, _, rfl, kp, xs, .ref q, bs, b, rfl, s1 _ _ hkp, bks_same al s1, td, asc, l6, fun nw H2 s2 => k1 nw H2 (s1.trans s2), fun wt e6 H2 s2 => k2 wt e6 H2 (s1.trans s2), fun wt n6 lt x H2 s2 hx => k3 wt n6 lt x H2 (s1.trans s2) hx, fun wt n6 nl r2 ys2 H2 s2 nr2 hr2 al2 asc2 ln2 => ?_⟩
    have s12 := s1.trans s2
    refine ⟨_, rfl, d, _, _, rfl, s12 _ _ hd, by show (1 : Nat) < 1000; decide, ?_⟩
    obtain ⟨H3, q3, s3, e3⟩ := newB (H := H2) (p := d) (.ins (C 7) dx (putF ("kept" : Str) (V.ref r2) [("kept", .ref kp)]))
    try dsimp only
    rw [q3]
    clear q3
    replace e3 : H3 d = some (.ins (C 7) dx [("kept", .ref r2)]) := e3
    have rd : r2 ≠ d := fun y => by rw [y, s1 _ _ hd] at nr2; cases nr2
    have hr3 := s3 _ _ rd hr2
    have ntd : NoT [d] H2 := NoT.ins (s12 _ _ hd) NoT.nil
    have al3 := bks_buts al2 (Buts.one s3 (List.mem_singleton.mpr rfl)) ntd
    have dk3 : DeskAt H3 (C 7) d r2 (putB bs b) := ⟨dx, ys2, e3, hr3, al3, asc2, by omega⟩
    have hz2 := Al2.len al2
    refine ⟨_, rfl, d, _, _, _, rfl, e3, rfl, _, _, rfl, .inl ⟨_, SqL.of hr3, rfl⟩, _, _, rfl, .inl ⟨_, rfl, rfl⟩, fun _ H4 s4 => ?_, fun n => (n (shF_int (lng_few (by omega) (by omega)))).elim⟩
    rw [frT_int, show ((ys2.length : Nat) : Int) = ((bs.length + 1 : Nat) : Int) by omega]
    exact k4 wt n6 nl r2 H4 (fun a o na e => s4 a o (s3 a o na (s12 a o e))) (none_of_same s1 nr2) (dk3.same s4)
  · refine ⟨_, rfl, _, Str.ofString "clear", [], rfl, zl, by decide +kernel, by decide +kernel, .inr ⟨[], by decide +kernel, .inr ⟨.nil, fun r q ys H1 s1 hr nq hq kv => ?_⟩⟩⟩
    refine ⟨_, rfl, r, _, _, _, rfl, rfl, SqT.of hr, rfl, ?_⟩
    refine ⟨_, rfl, r, _, _, _, rfl, rfl, SqT.of hr, rfl, ?_⟩
    refine ⟨_, rfl, rfl, _, rfl, ?_⟩
    rw [show decide (V.str (Str.ofString "clear") = V.str (Str.ofString "body")) = false by decide +kernel]
    refine iteF ⟨_, rfl, rfl, _, rfl, iteT ?_⟩
    refine ⟨by show 0 ≤ sizeLine; decide, ?_⟩
    intro p2 n2
    obtain ⟨H2, q2, s2, e2⟩ := newO n2 (.lst [])
    rw [q2]
    clear q2
    have s12 := s1.trans s2
    refine ⟨_, rfl, d, _, _, rfl, s12 _ _ hd, by show (1 : Nat) < 1000; decide, ?_⟩
    obtain ⟨H3, q3, s3, e3⟩ := newB (H := H2) (p := d) (.ins (C 7) dx (putF ("kept" : Str) (V.ref p2) [("kept", .ref kp)]))
    try dsimp only
    rw [q3]
    clear q3
    have rd : p2 ≠ d := fun y => by rw [y, s1 _ _ hd] at n2; cases n2
    exact k p2 H3 (fun a o na e => s3 a o na (s12 a o e)) (none_of_same s1 n2) ⟨dx, [], e3, s3 _ _ rd e2, trivial, List.Pairwise.nil, by decide⟩
  · refine ⟨_, rfl, _, Str.ofString "world", [], rfl, zl, by decide +kernel, by decide +kernel, .inr ⟨[], by decide +kernel, .inr ⟨.nil, fun r q ys H1 s1 hr nq hq kv => ?_⟩⟩⟩
    refine ⟨_, rfl, r, _, _, _, rfl, rfl, SqT.of hr, rfl, ?_⟩
    refine ⟨_, rfl, r, _, _, _, rfl, rfl, SqT.of hr, rfl, ?_⟩
    refine ⟨_, rfl, rfl, _, rfl, ?_⟩
    rw [show decide (V.str (Str.ofString "world") = V.str (Str.ofString "body")) = false by decide +kernel]
    refine iteF ⟨_, rfl, rfl, _, rfl, ?_⟩
    rw [show decide (V.str (Str.ofString "world") = V.str (Str.ofString "clear")) = false by decide +kernel]
    refine iteF ⟨_, rfl, rfl, _, rfl, iteT ?_⟩
    exact ⟨_, rfl, d, _, _, _, rfl, s1 _ _ hd, rfl, kp, xs, bs, rfl, s1 _ _ hkp, bks_same al s1, l6, fun H2 s2 => k H2 (s1.trans s2)⟩
  · refine ⟨_, rfl, z, w0, zs, rfl, zl, sp, np, ?_⟩
    rcases bad with e | ⟨ks, e, ne⟩
    · exact .inl ⟨e, k⟩
    · exact .inr ⟨ks, e, .inl ⟨ne, k⟩⟩
noncomputable def MarkQ (C : Nat → Addr) (H : Hp) (i : Nat) (od : Option Addr) (a : An) : Prop := (i = 0 ∧ a = .mark "body") ∨ (i = 3 ∧ a = .mark "row") ∨ (i = 4 ∧ a = .mark "many") ∨ (i = 5 ∧ ∃ d k, od = some d ∧ H d = some (Xd d [("at", .int ((k : Nat) : Int))]) ∧ a = .wld k)
noncomputable def sp_law_mark (K : PySem.W.Frag) (C : Nat → Addr) : Sp := fun vs H Q _ => ∃ (x : Addr) (i : Nat) (od : Option Addr) (a : An), vs = [.ref x] ∧ H x = some (Xc x (C i) od) ∧ MarkQ C H i od a ∧ ∀ (v : V) (H1 : Hp), Same H H1 → AnQ K H1 v a → Q v H1
theorem mk_count {bs : List Bool} : ((bs.map PyData.bool).countP fun z => PyData.eqv z (.bool true)) = bs.count true := by
  induction bs with
  | nil => rfl
  | cons b bs ih =>
    rw [List.map_cons, List.countP_cons, List.count_cons, ih]
    cases b <;> rfl
theorem bls_dps {H : Hp} : ∀ bs : List Bool, Dps K H (bs.map V.bl) (bs.map PyData.bool)
  | [] => .nil
  | b :: bs => .cons (.bl b) (bls_dps bs)
theorem sc_law_mark : FnScope ["e", "marks"] ["e"] (defScope (top 139)) := ⟨rfl, rfl, rfl, by decide +kernel, rfl, by decide +kernel, by decide +kernel⟩
theorem ok_law_mark (D : Df K mg "_law_mark" (top 139) ["e"]) (T : Tx K mg CK C w)  : FnH P w K mg base 1 "_law_mark" ["e"] (sp_law_mark K C) := by
  refine D.okH sc_law_mark (fun vs H Q E h => ?_) (fun f cdv A outer s H vs Q E y hr h => ?_)
  · obtain ⟨x, i, od, a, rfl, _⟩ := h
    rfl
  obtain ⟨x, i, od, a, rfl, hx, mk, fin⟩ := h
  refine ⟨_, (pss_cons (ps_if (pt_not (pt_val (pe_callB (call_isinstC (K := K) rfl) (by rfl) T.b_isinstance PyProof.Rows.Boot.«isinstance» (pa_cons (pv 0) (pa_cons (pe_bty (by rfl) T.b_ValueError PyProof.Rows.Boot.«ValueError») pa_nil))) (fun _ => rfl))) (pss_one (ps_ret (pe_tup (pa_cons pe_str pa_nil)))) pss_nil)
      (pss_cons (ps_if (pt_val (pe_callB (call_isinstC (K := K) rfl) (by rfl) T.b_isinstance PyProof.Rows.Boot.«isinstance» (pa_cons (pv 0) (pa_cons (pe_cls (by rfl) T.c_Crowd) pa_nil))) (fun _ => rfl)) (pss_one ps_never) pss_nil)
      (pss_cons (ps_if (pt_val (pe_callB (call_isinstC (K := K) rfl) (by rfl) T.b_isinstance PyProof.Rows.Boot.«isinstance» (pa_cons (pv 0) (pa_cons (pe_cls (by rfl) T.c_NoWorld) pa_nil))) (fun _ => rfl)) (pss_one (ps_ret (pe_tup (pa_cons pe_str (pa_cons (pe_xcfK (K := K) rfl (pv 0)) pa_nil))))) pss_nil)
      (pss_cons (ps_set (i := 1) sc_law_mark.nd rfl (Or.inl rfl) (pe_lst (pa_cons (pe_callB (call_isinstC (K := K) rfl) (by rfl) T.b_isinstance PyProof.Rows.Boot.«isinstance» (pa_cons (pv 0) (pa_cons (pe_cls (by rfl) T.c_NoBody) pa_nil))) (pa_cons (pe_callB (call_isinstC (K := K) rfl) (by rfl) T.b_isinstance PyProof.Rows.Boot.«isinstance» (pa_cons (pv 0) (pa_cons (pe_cls (by rfl) T.c_NoMoment) pa_nil))) (pa_cons (pe_callB (call_isinstC (K := K) rfl) (by rfl) T.b_isinstance PyProof.Rows.Boot.«isinstance» (pa_cons (pv 0) (pa_cons (pe_cls (by rfl) T.c_NoNumber) pa_nil))) (pa_cons (pe_callB (call_isinstC (K := K) rfl) (by rfl) T.b_isinstance PyProof.Rows.Boot.«isinstance» (pa_cons (pv 0) (pa_cons (pe_cls (by rfl) T.c_NoRow) pa_nil))) pa_nil))))))
      (pss_cons (ps_expr (pe_bm PySem.F.plainAttrs_list PySem.F.slot_list_append PySem.F.type_list_append mt_append (pv 1) (pa_cons (pe_callB (call_isinstC (K := K) rfl) (by rfl) T.b_isinstance PyProof.Rows.Boot.«isinstance» (pa_cons (pv 0) (pa_cons (pe_cls (by rfl) T.c_TooMany) pa_nil))) pa_nil)))
      (pss_cons (ps_if (pt_cmpR op_ne (pe_bmD (K := K) rfl PySem.F.plainAttrs_list PySem.F.slot_list_count PySem.F.type_list_count (mt_countD (K := K) rfl (u100m hr)) (pv 1) (pa_cons pe_bl pa_nil)) pe_int (nomark _)) (pss_one (ps_ret (pe_tup (pa_cons pe_str pa_nil)))) pss_nil)
      (pss_one (ps_ret (pe_tup (pa_cons (pe_ix ix_list (pe_lst (pa_cons pe_str (pa_cons pe_str (pa_cons pe_str (pa_cons pe_str (pa_cons pe_str pa_nil)))))) (pe_bmD (K := K) rfl PySem.F.plainAttrs_list PySem.F.slot_list_index PySem.F.type_list_index (mt_indexD (K := K) rfl (u100m hr)) (pv 1) (pa_cons pe_bl pa_nil)) (fun _ _ => rfl)) pa_nil)))))))))), ?_⟩
  have i7 : i < 7 := by
    rcases mk with ⟨rfl, _⟩ | ⟨rfl, _⟩ | ⟨rfl, _⟩ | ⟨rfl, _⟩ <;> decide
  refine ⟨_, rfl, x, C i, od, _, true, rfl, .inl ⟨_, rfl⟩, hx, T.R.q i i7, T.R.v i i7, _, rfl, iteF ?_⟩
  refine ⟨_, rfl, x, C i, od, _, _, rfl, .inr ⟨_, rfl⟩, hx, T.R.q i i7, T.R.mm i 6 i7 (by decide), _, rfl, ?_⟩
  refine if_dec (fun e => by subst e; rcases mk with ⟨e, _⟩ | ⟨e, _⟩ | ⟨e, _⟩ | ⟨e, _⟩ <;> exact absurd e (by decide)) (fun _ => ?_)
  refine ⟨_, rfl, x, C i, od, _, _, rfl, .inr ⟨_, rfl⟩, hx, T.R.q i i7, T.R.mm i 5 i7 (by decide), _, rfl, ?_⟩
  refine if_dec (fun e => ?_) (fun nw => ?_)
  · subst e
    rcases mk with ⟨e, _⟩ | ⟨e, _⟩ | ⟨e, _⟩ | ⟨_, d, k, rfl, hd, rfl⟩
    · exact absurd e (by decide)
    · exact absurd e (by decide)
    · exact absurd e (by decide)
    refine ⟨_, rfl, x, C 5, d, _, _, rfl, hx, hd, T.R.q 5 (by decide), T.R.c 5 (by decide) (by decide), T.n_NoWorld_at, rfl, by show 2 ≤ sizeLine; decide, ?_⟩
    intro p1 n1
    obtain ⟨H1, q1, s1, e1⟩ := newO n1 (.tup [.str "world", .int ((k : Nat) : Int)])
    rw [q1]
    clear q1
    exact fin _ H1 s1 ⟨p1, rfl, SqT.of e1⟩
  refine ⟨_, rfl, x, C i, od, _, _, rfl, .inr ⟨_, rfl⟩, hx, T.R.q i i7, T.R.mm i 0 i7 (by decide), _, rfl, x, C i, od, _, _, rfl, .inr ⟨_, rfl⟩, hx, T.R.q i i7, T.R.mm i 1 i7 (by decide), _, rfl, x, C i, od, _, _, rfl, .inr ⟨_, rfl⟩, hx, T.R.q i i7, T.R.mm i 2 i7 (by decide), _, rfl, x, C i, od, _, _, rfl, .inr ⟨_, rfl⟩, hx, T.R.q i i7, T.R.mm i 3 i7 (by decide), by show 4 ≤ sizeLine; decide, ?_⟩
  intro p1 n1
  obtain ⟨H1, q1, s1, e1⟩ := newO n1 (.lst [.bl (decide (i = 0)), .bl (decide (i = 1)), .bl (decide (i = 2)), .bl (decide (i = 3))])
  rw [q1]
  clear q1
  refine ⟨_, rfl, .inl ⟨rfl, _, SqL.of e1⟩, _, rfl, x, C i, od, _, _, rfl, .inr ⟨_, rfl⟩, s1 _ _ hx, T.R.q i i7, T.R.mm i 4 i7 (by decide), p1, _, _, rfl, rfl, e1, by show (4 : Nat) < sizeLine; decide, ?_⟩
  obtain ⟨H2, q2, s2, e2⟩ := newB (H := H1) (p := p1) (.lst ([.bl (decide (i = 0)), .bl (decide (i = 1)), .bl (decide (i = 2)), .bl (decide (i = 3))] ++ [.bl (decide (i = 4))]))
  try dsimp only
  rw [q2]
  clear q2
  replace e2 : H2 p1 = some (.lst ([decide (i = 0), decide (i = 1), decide (i = 2), decide (i = 3), decide (i = 4)].map V.bl)) := e2
  have s02 : Same H H2 := fun a o e => s2 a o (fun z => by rw [z, n1] at e; cases e) (s1 a o e)
  obtain ⟨j, w, ec, ej, en, hj5, ew, ea⟩ : ∃ (j : Nat) (w : String), [decide (i = 0), decide (i = 1), decide (i = 2), decide (i = 3), decide (i = 4)].count true = 1 ∧ ([decide (i = 0), decide (i = 1), decide (i = 2), decide (i = 3), decide (i = 4)].map PyData.bool)[j]? = some (.bool true) ∧ (∀ m z, m < j → ([decide (i = 0), decide (i = 1), decide (i = 2), decide (i = 3), decide (i = 4)].map PyData.bool)[m]? = some z → PyData.eqv z (.bool true) = false) ∧ j < 5 ∧ ["body", "moment", "number", "row", "many"][j]? = some w ∧ a = .mark w := by
    rcases mk with ⟨rfl, rfl⟩ | ⟨rfl, rfl⟩ | ⟨rfl, rfl⟩ | ⟨rfl, _⟩
    · exact ⟨0, "body", rfl, rfl, fun m z h => by omega, by decide, rfl, rfl⟩
    · refine ⟨3, "row", rfl, rfl, fun m z h e => ?_, by decide, rfl, rfl⟩
      rcases (show m = 0 ∨ m = 1 ∨ m = 2 by omega) with rfl | rfl | rfl <;> cases e <;> rfl
    · refine ⟨4, "many", rfl, rfl, fun m z h e => ?_, by decide, rfl, rfl⟩
      rcases (show m = 0 ∨ m = 1 ∨ m = 2 ∨ m = 3 by omega) with rfl | rfl | rfl | rfl <;> cases e <;> rfl
    · exact absurd rfl nw
  subst ea
  generalize [decide (i = 0), decide (i = 1), decide (i = 2), decide (i = 3), decide (i = 4)] = ms at e2 ec ej en
  have dps := bls_dps (K := K) (H := H2) ms
  have lay : PyData.canLayAll0 (ms.map PyData.bool) = true := by
    clear dps en ej ec e2
    induction ms with
    | nil => rfl
    | cons b ms ih => exact (by show (true && PyData.canLayAll0 (ms.map PyData.bool)) = true; rw [ih]; rfl)
  refine ⟨_, rfl, .inl ⟨rfl, _, SqL.of e2⟩, p1, _, _, _, _, rfl, rfl, e2, dps, .bl true, lay, rfl, by show min _ 0 ≤ 60; omega, rfl, _, rfl, ?_⟩
  refine if_neI (fun c => absurd (by rw [mk_count, ec]; rfl) c) (fun _ => ?_)
  refine ⟨by show 5 ≤ sizeLine; decide, ?_⟩
  intro p3 n3
  obtain ⟨H3, q3, s3, e3⟩ := newO n3 (.lst [.str "body", .str "moment", .str "number", .str "row", .str "many"])
  rw [q3]
  clear q3
  have e23 := s3 _ _ e2
  have dps3 := bls_dps (K := K) (H := H3) ms
  refine ⟨_, rfl, .inl ⟨rfl, _, SqL.of e23⟩, p1, _, _, _, _, j, _, rfl, rfl, e23, dps3, .bl true, lay, rfl, by show min _ 0 ≤ 60; omega, ej, rfl, en, by omega, ?_⟩
  have at_ : atI [V.str "body", .str "moment", .str "number", .str "row", .str "many"] (j : Int) = some (strV w) := atI_nat (by
    have z : ([V.str "body", .str "moment", .str "number", .str "row", .str "many"] : List V) = ["body", "moment", "number", "row", "many"].map strV := rfl
    rw [z, List.getElem?_map, ew]
    rfl)
  refine ⟨p3, _, _, _, rfl, rfl, SqL.of e3, at_, by show 1 ≤ sizeLine; decide, ?_⟩
  intro p4 n4
  obtain ⟨H4, q4, s4, e4⟩ := newO n4 (.tup [strV w])
  rw [q4]
  clear q4
  exact fin _ H4 (s02.trans (s3.trans s4)) ⟨p4, rfl, SqT.of e4⟩
noncomputable def sp_law_said (K : PySem.W.Frag) (C : Nat → Addr) : Sp := fun vs H Q _ => ∃ (d kp : Addr) (bs : List Bo) (z : Str), vs = [.ref d, .str z] ∧ DeskAt H (C 7) d kp bs ∧ z.length ≤ 90000 ∧
  ((∃ b, RowB z b ∧ ∀ (v : V) (k2 : Addr) (H1 : Hp), But d H H1 → (k2 = kp ∨ H k2 = none) → DeskAt H1 (C 7) d k2 (nowB bs b) → AnQ K H1 v (ansB bs b) → Q v H1) ∨ (z = Str.ofString "clear" ∧ ∀ (v : V) (k2 : Addr) (H1 : Hp), But d H H1 → H k2 = none → DeskAt H1 (C 7) d k2 [] → AnQ K H1 v (.txt (Str.ofString "0")) → Q v H1) ∨
    (z = Str.ofString "world" ∧ ∀ (v : V) (H1 : Hp), Same H H1 → AnQ K H1 v (.txt (deskT bs)) → Q v H1) ∨ (RowBad z ∧ ∀ (v : V) (H1 : Hp), Same H H1 → AnQ K H1 v (.mark "row") → Q v H1))
theorem ans_w {bs : List Bo} {b : Bo} (h : ¬ WtOk b) : ansB bs b = .mark "body" ∧ nowB bs b = bs := by
  unfold ansB nowB
  exact ⟨if_pos h, if_pos h⟩
theorem ans_m {bs : List Bo} {b : Bo} (h : WtOk b) (g : bs.length = 6) : ansB bs b = .mark "many" ∧ nowB bs b = bs := by
  unfold ansB nowB
  exact ⟨(if_neg (fun z => z h)).trans (if_pos g), (if_neg (fun z => z h)).trans (if_pos g)⟩
theorem ans_l {bs : List Bo} {b : Bo} (h : WtOk b) (g : bs.length ≠ 6) (l : (lessB bs b.1).length + (moreB bs b.1).length < bs.length) : ansB bs b = .wld ((lessB bs b.1).length + 1) ∧ nowB bs b = bs := by
  unfold ansB nowB
  exact ⟨(if_neg (fun z => z h)).trans ((if_neg g).trans (if_pos l)), (if_neg (fun z => z h)).trans ((if_neg g).trans (if_pos l))⟩
theorem ans_t {bs : List Bo} {b : Bo} (h : WtOk b) (g : bs.length ≠ 6) (l : ¬ (lessB bs b.1).length + (moreB bs b.1).length < bs.length) : ansB bs b = .txt (nT ((bs.length + 1 : Nat) : Int)) ∧ nowB bs b = putB bs b := by
  unfold ansB nowB
  exact ⟨(if_neg (fun z => z h)).trans ((if_neg g).trans (if_neg l)), (if_neg (fun z => z h)).trans ((if_neg g).trans (if_neg l))⟩
theorem Tx.g_KnockError (T : Tx K mg CK C w) : ClsX K CK := clsx_c T.x_KnockError
theorem sc_law_said : FnScope ["desk", "row", "found", "e"] ["desk", "row"] (defScope (top 140)) := ⟨rfl, rfl, rfl, by decide +kernel, rfl, by decide +kernel, by decide +kernel⟩
theorem ok_law_said (D : Df K mg "_law_said" (top 140) ["desk", "row"]) (T : Tx K mg CK C w) (F_Desk_say : FnM P w K mg base 7 (C 7) "say" ["self", "row"] (spD_say K C)) (F_law_mark : FnH P w K mg base 1 "_law_mark" ["e"] (sp_law_mark K C)) : Fn P w K mg base 8 "_law_said" ["desk", "row"] (sp_law_said K C) := by
  refine D.ok0 sc_law_said (fun vs H Q E h => ?_) (fun f cdv A outer s H vs Q E hr h => ?_)
  · obtain ⟨d, kp, bs, z, rfl, _⟩ := h
    rfl
  obtain ⟨d, kp, bs, z, rfl, dk, zl, h⟩ := h
  refine ⟨_, (pss_cons (ps_tryG plain_nox rfl (fun E pn0 E0 hp => (pss_one (ps_set (i := 2) sc_law_said.nd rfl (Or.inl rfl) (pe_mt T.cl_Desk F_Desk_say (by decide) hr hp (pv 0) (pa_cons (pv 1) pa_nil))))) (ph_as plain_nox rfl sc_law_said.nd (j := 3) rfl rfl (by rfl) T.c_KnockError T.g_KnockError (fun x => (pss_one (ps_ret (pe_fnH F_law_mark (by decide) hr (by rfl) (pa_cons (pv 3) pa_nil))))) ph_nil))
      (pss_cons (ps_if (pt_not (pt_val (pe_callB call_isinst (by rfl) T.b_isinstance PyProof.Rows.Boot.«isinstance» (pa_cons (pv 2) (pa_cons (pe_bty (by rfl) T.b_str PyProof.Rows.Boot.«str») pa_nil))) (fun _ => rfl))) (pss_one (ps_ret (pe_tup (pa_cons pe_str pa_nil)))) pss_nil)
      (pss_one (ps_ret (pv 2))))), ?_⟩
  obtain ⟨dx, xs, hd, _⟩ := id dk
  have mark : ∀ (i : Nat) (od : Option Addr) (a : An) (e : Addr) (H1 H2 : Hp), MarkQ C H1 i od a → H1 e = none → upd H1 e (Xc e (C i) od) = H2 → MarkQ C H2 i od a := fun i od a e H1 H2 m ne q => by
    rcases m with m | m | m | ⟨m, d', k, m1, m2, m3⟩
    · exact .inl m
    · exact .inr (.inl m)
    · exact .inr (.inr (.inl m))
    · refine .inr (.inr (.inr ⟨m, d', k, m1, ?_, m3⟩))
      rw [← q, upd_ne (ne_of_none m2 ne)]
      exact m2
  rcases h with ⟨b, rb, k⟩ | ⟨rfl, k⟩ | ⟨rfl, k⟩ | ⟨rb, k⟩
  · refine ⟨_, rfl, d, _, _, rfl, hd, rfl, _, rfl, d, kp, bs, z, rfl, dk, zl, .inl ⟨b, rb, fun nw H1 s1 => ⟨C 0, rfl, .inl ⟨T.s_NoBody_KnockError, fun e ne => ?_⟩⟩, fun wt e6 H1 s1 => ⟨C 4, rfl, .inl ⟨T.s_TooMany_KnockError, fun e ne => ?_⟩⟩, fun wt n6 lt x H1 s1 hx => ⟨C 5, rfl, .inl ⟨T.s_NoWorld_KnockError, fun e ne => ?_⟩⟩, fun wt n6 nl r H1 s1 nr dk1 => ?_⟩⟩
    · obtain ⟨H2, q2, s2, e2⟩ := newO ne (Xc e (C 0) none)
      rw [q2]
      refine ⟨_, rfl, e, 0, none, .mark "body", rfl, e2, .inl ⟨rfl, rfl⟩, fun v H3 s3 aq => ?_⟩
      obtain ⟨z1, z2⟩ := ans_w (bs := bs) nw
      have s13 := s1.trans (s2.trans s3)
      exact k v kp H3 (But.of s13) (.inl rfl) (by rw [z2]; exact dk.same s13) (by rw [z1]; exact aq)
    · obtain ⟨H2, q2, s2, e2⟩ := newO ne (Xc e (C 4) none)
      rw [q2]
      refine ⟨_, rfl, e, 4, none, .mark "many", rfl, e2, .inr (.inr (.inl ⟨rfl, rfl⟩)), fun v H3 s3 aq => ?_⟩
      obtain ⟨z1, z2⟩ := ans_m wt e6
      have s13 := s1.trans (s2.trans s3)
      exact k v kp H3 (But.of s13) (.inl rfl) (by rw [z2]; exact dk.same s13) (by rw [z1]; exact aq)
    · obtain ⟨H2, q2, s2, e2⟩ := newO ne (Xc e (C 5) (some x))
      rw [q2]
      refine ⟨_, rfl, e, 5, some x, .wld _, rfl, e2, .inr (.inr (.inr ⟨rfl, x, _, rfl, s2 _ _ hx, rfl⟩)), fun v H3 s3 aq => ?_⟩
      obtain ⟨z1, z2⟩ := ans_l wt n6 lt
      have s13 := s1.trans (s2.trans s3)
      exact k v kp H3 (But.of s13) (.inl rfl) (by rw [z2]; exact dk.same s13) (by rw [z1]; exact aq)
    · refine ⟨_, rfl, _, _, true, rfl, .inl ⟨_, rfl⟩, ⟨_, .str _, kit_str_str⟩, _, rfl, iteF ⟨_, rfl, ?_⟩⟩
      obtain ⟨z1, z2⟩ := ans_t wt n6 nl
      exact k _ r H1 s1 (.inr nr) (by rw [z2]; exact dk1) (by rw [z1]; exact rfl)
  · refine ⟨_, rfl, d, _, _, rfl, hd, rfl, _, rfl, d, kp, bs, _, rfl, dk, zl, .inr (.inl ⟨rfl, fun r H1 s1 nr dk1 => ?_⟩)⟩
    exact ⟨_, rfl, _, _, true, rfl, .inl ⟨_, rfl⟩, ⟨_, .str _, kit_str_str⟩, _, rfl, iteF ⟨_, rfl, k _ r H1 s1 nr dk1 rfl⟩⟩
  · refine ⟨_, rfl, d, _, _, rfl, hd, rfl, _, rfl, d, kp, bs, _, rfl, dk, zl, .inr (.inr (.inl ⟨rfl, fun H1 s1 => ?_⟩))⟩
    exact ⟨_, rfl, _, _, true, rfl, .inl ⟨_, rfl⟩, ⟨_, .str _, kit_str_str⟩, _, rfl, iteF ⟨_, rfl, k _ H1 s1 rfl⟩⟩
  · refine ⟨_, rfl, d, _, _, rfl, hd, rfl, _, rfl, d, kp, bs, z, rfl, dk, zl, .inr (.inr (.inr ⟨rb, fun H1 s1 => ⟨C 3, rfl, .inl ⟨T.s_NoRow_KnockError, fun e ne => ?_⟩⟩⟩))⟩
    obtain ⟨H2, q2, s2, e2⟩ := newO ne (Xc e (C 3) none)
    rw [q2]
    exact ⟨_, rfl, e, 3, none, .mark "row", rfl, e2, .inr (.inl ⟨rfl, rfl⟩), fun v H3 s3 aq => k v H3 (s1.trans (s2.trans s3)) aq⟩
theorem sc_law_cell : FnScope ["script", "k"] ["script", "k"] (defScope (top 132)) := ⟨rfl, rfl, rfl, by decide +kernel, rfl, by decide +kernel, by decide +kernel⟩
theorem ok_law_cell (D : Df K mg "_law_cell" (top 132) ["script", "k"]) (T : Tx K mg CK C w) : Fn P w K mg base 1 "_law_cell" ["script", "k"] (spCell K) := by
  refine D.ok0 sc_law_cell (fun vs H Q E h => ?_) (fun f cdv A outer s H vs Q E hr h => ?_)
  · obtain ⟨a, k, rfl, _⟩ := h
    rfl
  obtain ⟨a, k, rfl, ⟨ns, hS, h63, hbd⟩, k0, k1, q⟩ := h
  refine ⟨_, (pss_cons (ps_if (pt_cmpR op_lt (pv 1) (pe_callB call_len (by rfl) T.b_len PyProof.Rows.Boot.«len» (pa_cons (pv 0) pa_nil)) (nomark _)) (pss_one (ps_ret (pe_ix ix_list (pv 0) (pv 1) (fun _ _ => rfl)))) pss_nil)
      (pss_one (ps_ret (pe_op op_add (pe_op op_mulB pe_int (pv 1)) pe_int)))), ?_⟩
  refine ⟨_, rfl, _, rfl, _, _, rfl, .inl ⟨_, hS, rfl⟩, _, _, rfl, rfl, _, rfl, ?_⟩
  refine if_dec (fun c => ?_) (fun c => ?_)
  · rw [List.length_map] at c
    have hk : k.toNat < ns.length := by omega
    have ek : k = ((k.toNat : Nat) : Int) := by omega
    have z : atI (ns.map V.int) ((k.toNat : Nat) : Int) = some (.int ns[k.toNat]) := atI_nat (by rw [List.getElem?_map, List.getElem?_eq_getElem hk] <;> rfl)
    rw [← ek] at z
    exact ⟨_, rfl, _, rfl, a, _, _, _, rfl, rfl, hS, z, q _ (hbd _ (List.getElem_mem hk))⟩
  · refine ⟨_, rfl, _, _, rfl, rfl, mulOk_smallL (by decide) (by decide), _, _, rfl, rfl, q _ ?_⟩
    exact (Bd.small (by omega) (by omega)).mono (by decide)
theorem sc_law_mix : FnScope ["cell", "k", "number"] ["cell", "k"] (defScope (top 133)) := ⟨rfl, rfl, rfl, by decide +kernel, rfl, by decide +kernel, by decide +kernel⟩
theorem ok_law_mix (D : Df K mg "_law_mix" (top 133) ["cell", "k"]) (T : Tx K mg CK C w) : Fn P w K mg base 1 "_law_mix" ["cell", "k"] spMix := by
  refine D.ok0 sc_law_mix (fun vs H Q E h => ?_) (fun f cdv A outer s H vs Q E hr h => ?_)
  · obtain ⟨c, k, rfl, _⟩ := h
    rfl
  obtain ⟨c, k, rfl, hc, k0, k1, q⟩ := h
  refine ⟨_, (pss_cons (ps_set (i := 2) sc_law_mix.nd rfl (Or.inl rfl) (pe_op op_add (pe_op op_mulB (pe_op op_add (pv 0) pe_int) pe_int) (pe_op op_mulB pe_int (pv 1))))
      (pss_cons (ps_set (i := 2) sc_law_mix.nd rfl (Or.inl rfl) (pe_op op_add (pe_op op_mod (pe_op op_mulB (pv 2) (pv 2)) pe_int) (pv 1)))
      (pss_one (ps_ret (pe_op op_mod (pe_op op_mulB (pv 2) (pe_op op_add (pv 2) pe_int)) pe_int))))), ?_⟩
  have s1 : ∀ i : Int, -(2 ^ 64) < i → i < 2 ^ 64 → Bd 1048576 i := fun i h1 h2 => (Bd.small h1 h2).mono (by decide)
  have b1 : Bd 1048641 ((c + 1) * 40692) := ((hc.add (s1 1 (by decide) (by decide))).mul (Bd.small (i := 40692) (by decide) (by decide))).mono (by decide)
  have b2 : Bd 1048642 ((c + 1) * 40692 + 104729 * k) := (b1.add ((Bd.small (by omega) (by omega)).mono (by decide))).mono (by decide)
  refine ⟨_, rfl, _, _, rfl, rfl, _, _, rfl, rfl, mulOk_small (by decide) (by decide), _, rfl, _, _, rfl, rfl, mulOk_smallL (by decide) (by decide), _, _, rfl, rfl, ?_⟩
  refine ⟨_, rfl, _, rfl, _, _, rfl, rfl, b2.ok b2 (by decide), _, _, rfl, rfl, (by show (0 : Int) < 2147483399; decide), _, rfl, _, _, rfl, rfl, ?_⟩
  have e0 := Int.emod_nonneg (((c + 1) * 40692 + 104729 * k) * ((c + 1) * 40692 + 104729 * k)) (show (2147483399 : Int) ≠ 0 by decide)
  have e1 := Int.emod_lt_of_pos (((c + 1) * 40692 + 104729 * k) * ((c + 1) * 40692 + 104729 * k)) (show (0 : Int) < 2147483399 by decide)
  exact ⟨_, rfl, _, rfl, _, _, rfl, rfl, _, _, rfl, rfl, mulOk_smallL (by omega) (by omega), _, _, rfl, rfl, (by show (0 : Int) < 2147483563; decide), q _⟩
theorem sc_law_box : FnScope ["script", "k", "here", "number", "j"] ["script", "k"] (defScope (top 134)) := ⟨rfl, rfl, rfl, by decide +kernel, rfl, by decide +kernel, by decide +kernel⟩
theorem ok_law_box (D : Df K mg "_law_box" (top 134) ["script", "k"]) (T : Tx K mg CK C w) (F_law_cell : Fn P w K mg base 1 "_law_cell" ["script", "k"] (spCell K)) (F_law_mix : Fn P w K mg base 1 "_law_mix" ["cell", "k"] spMix) :
    Fn P w K mg base 2 "_law_box" ["script", "k"] (spBox K) := by
  refine D.ok0 sc_law_box (fun vs H Q E h => ?_) (fun f cdv A outer s H vs Q E hr h => ?_)
  · obtain ⟨a, k, rfl, _⟩ := h
    rfl
  obtain ⟨a, k, rfl, hS, k0, k1, q⟩ := h
  refine ⟨_, (pss_cons (ps_set (i := 2) sc_law_box.nd rfl (Or.inl rfl) (pe_fn F_law_cell (by decide) hr (by rfl) passE0 (pa_cons (pv 0) (pa_cons (pv 1) pa_nil))))
      (pss_cons (ps_if (pt_cmpR op_eq (pe_op op_mod (pv 2) pe_int) pe_int (nomark _)) (pss_one (ps_ret (pe_lst (pa_cons (pe_op op_fdivB (pv 2) pe_int) pa_nil)))) pss_nil)
      (pss_cons (ps_set (i := 3) sc_law_box.nd rfl (Or.inl rfl) pe_int)
      (pss_cons (ps_for PassesOwn.never rfl (pi_range1 (by rfl) T.b_range (pa_cons pe_int pa_nil)) (pg_name (i := 4) sc_law_box.nd rfl (Or.inl rfl)) (pss_one (ps_set (i := 3) sc_law_box.nd rfl (Or.inl rfl) (pe_op op_add (pe_op op_mulB (pv 3) pe_int) (pe_fn F_law_mix (by decide) hr (by rfl) passE0 (pa_cons (pv 2) (pa_cons (pv 4) pa_nil)))))))
      (pss_one (ps_ret (pe_lst (pa_cons (pv 3) pa_nil)))))))), ?_⟩
  refine ⟨_, rfl, _, rfl, a, k, rfl, hS, k0, k1, fun c hc => ?_⟩
  refine ⟨_, rfl, _, _, rfl, rfl, (by show (0 : Int) < 2; decide), rfl, _, rfl, ?_⟩
  refine if_decI (fun z => ?_) (fun z => ?_)
  · refine ⟨_, rfl, _, _, rfl, rfl, ⟨by decide, by decide +kernel⟩, (by show 1 ≤ sizeLine; decide), fun p hp => ?_⟩
    exact q p _ _ hp (same_new hp _) upd_same
  refine ⟨_, rfl, by decide, by decide, for_range (n := 16) (fun i σ' H' => ∃ (n : Int) (r : Option V), σ' = [some (.ref a), some (.int k), some (.int c), some (.int n), r] ∧ H' = H) ⟨_, _, rfl, rfl⟩ ?_ ?_⟩
  · rintro i σ' H' hi ⟨n, r, rfl, rfl⟩
    refine ⟨_, rfl, _, _, rfl, rfl, mulOk_small (by decide) (by decide), _, rfl, _, rfl, c, _, rfl, hc, by omega, by omega, fun m => ?_⟩
    exact ⟨_, _, rfl, rfl, _, _, rfl, rfl⟩
  · rintro σ' H' ⟨n, r, rfl, rfl⟩
    refine ⟨_, rfl, (by show 1 ≤ sizeLine; decide), fun p hp => ?_⟩
    exact q p _ _ hp (same_new hp _) upd_same
theorem sc_law_take : FnScope ["box", "many", "left", "digit"] ["box", "many"] (defScope (top 135)) := ⟨rfl, rfl, rfl, by decide +kernel, rfl, by decide +kernel, by decide +kernel⟩
theorem ok_law_take (D : Df K mg "_law_take" (top 135) ["box", "many"]) (T : Tx K mg CK C w) : Fn P w K mg base 1 "_law_take" ["box", "many"] spTake := by
  refine D.ok0 sc_law_take (fun vs H Q E h => ?_) (fun f cdv A outer s H vs Q E hr h => ?_)
  · obtain ⟨b, m, n, rfl, _⟩ := h
    rfl
  obtain ⟨b, m, n, rfl, hb, m0, hm, q⟩ := h
  refine ⟨_, (pss_cons (ps_asg (pe_callB call_divmodB (by rfl) T.b_divmod PyProof.Rows.Boot.«divmod» (pa_cons (pe_ix ix_list (pv 0) pe_int (fun _ _ => rfl)) (pa_cons (pv 1) pa_nil))) (pg_tup rfl (pgs_cons (pg_name (i := 2) sc_law_take.nd rfl (Or.inl rfl)) (pgs_cons (pg_name (i := 3) sc_law_take.nd rfl (Or.inl rfl)) pgs_nil))))
      (pss_cons (ps_asg (pv 2) (pg_sub (pv 0) pe_int set_list))
      (pss_one (ps_ret (pv 3))))), ?_⟩
  refine ⟨_, rfl, b, _, _, _, rfl, rfl, SqL.of hb, rfl, _, rfl, n, m, rfl, ⟨m0, hm.log⟩, ?_⟩
  intro p hp0
  have sm := same_new hp0 (.tup [.int (n / m), .int (n % m)])
  have hp : upd H p (.tup [.int (n / m), .int (n % m)]) p = some (.tup [.int (n / m), .int (n % m)]) := upd_same
  refine ⟨p, _, rfl, SqT.of hp, rfl, _, _, rfl, _, _, rfl, rfl, ?_⟩
  refine ⟨_, rfl, _, rfl, b, _, _, 0, rfl, rfl, sm _ _ hb, rfl, _, rfl, ?_⟩
  have d0 := Int.emod_nonneg n (show m ≠ 0 by omega)
  have d1 := Int.emod_lt_of_pos n m0
  exact q (n % m) (n / m) _ d0 d1 ((But.of sm).trans (but_upd _)) upd_same
theorem sc_law_fit : FnScope ["top", "bottom", "one", "other"] ["top", "bottom"] (defScope (top 136)) := ⟨rfl, rfl, rfl, by decide +kernel, rfl, by decide +kernel, by decide +kernel⟩
theorem ok_law_fit0 (D : Df K mg "_law_fit" (top 136) ["top", "bottom"]) (T : Tx K mg CK C w) : Fn P w K mg base 1 "_law_fit" ["top", "bottom"] spFit := by
  refine D.ok0 sc_law_fit (fun vs H Q E h => ?_) (fun f cdv A outer s H vs Q E hr h => ?_)
  · obtain ⟨a, b, rfl, _⟩ := h
    rfl
  obtain ⟨a, b, rfl, c, hb, hq⟩ := h
  refine ⟨_, (pss_cons (ps_par (i := 2) (j := 3) rfl sc_law_fit.nd rfl rfl (by decide) rfl rfl (pa_cons (pe_callB call_abs (by rfl) T.b_abs PyProof.Rows.Boot.«abs» (pa_cons (pv 0) pa_nil)) (pa_cons (pe_callB call_abs (by rfl) T.b_abs PyProof.Rows.Boot.«abs» (pa_cons (pv 1) pa_nil)) pa_nil)) rfl)
      (pss_cons (ps_while PassesOwn.never (pt_cmpR op_gt (pv 3) pe_int (nomark _)) (pss_one (ps_par (i := 2) (j := 3) rfl sc_law_fit.nd rfl rfl (by decide) rfl rfl (pa_cons (pv 3) (pa_cons (pe_op op_mod (pv 2) (pv 3)) pa_nil)) rfl)))
      (pss_cons (ps_if (pt_cmpR op_lt (pv 1) pe_int (nomark _)) (pss_one (ps_set (i := 2) sc_law_fit.nd rfl (Or.inl rfl) (pe_op op_sub pe_int (pv 2)))) pss_nil)
      (pss_one (ps_ret (pe_tup (pa_cons (pe_op op_fdivB (pv 0) (pv 2)) (pa_cons (pe_op op_fdivB (pv 1) (pv 2)) pa_nil)))))))), ?_⟩
  refine ⟨_, rfl, _, rfl, _, rfl, _, rfl, _, _, rfl, ?_⟩
  refine ⟨fun m σ' H' => ∃ g s : Int, σ' = [some (.int a), some (.int b), some (.int g), some (.int s)] ∧ H' = H ∧ 0 ≤ g ∧ 0 ≤ s ∧ m = s.toNat ∧ Int.gcd g s = Int.gcd a b, ⟨_, _, _, rfl, rfl, abs_nn a, abs_nn b, rfl, gcd_abs a b⟩, ?_⟩
  rintro m σ' H' ⟨g, s, rfl, rfl, hg, hs, rfl, e⟩
  refine ⟨_, rfl, _, _, rfl, rfl, _, rfl, ?_⟩
  refine if_dec (fun c => ?_) (fun z => ?_)
  · refine ⟨_, fun _ _ n => n, ?_⟩
    refine ⟨_, rfl, _, rfl, _, rfl, _, _, rfl, rfl, c, _, _, rfl, ?_⟩
    have l := Int.emod_lt_of_pos g c
    have l0 := Int.emod_nonneg g (show s ≠ 0 by omega)
    exact ⟨_, by omega, s, g % s, rfl, rfl, by omega, l0, rfl, (gcd_step g s hg c).trans e⟩
  · have s0 : s = 0 := by omega
    subst s0
    have z := gcd_end g hg
    rw [e] at z
    subst z
    have hd : (if b < 0 then -((Int.gcd a b : Nat) : Int) else ((Int.gcd a b : Nat) : Int)) = dv a b := rfl
    have lg := (bd_dv (t := a) c hb).log
    refine ⟨_, rfl, _, _, rfl, rfl, _, rfl, ?_⟩
    refine if_dec (fun n => ?_) (fun n => ?_)
    · rw [if_pos n] at hd
      refine ⟨_, rfl, _, _, rfl, rfl, ?_⟩
      dsimp only
      rw [show (0 : Int) - ((Int.gcd a b : Nat) : Int) = dv a b by rw [← hd]; omega]
      refine ⟨_, rfl, _, rfl, _, _, rfl, rfl, ⟨dv_ne c, lg⟩, _, rfl, _, rfl, _, _, rfl, rfl, ⟨dv_ne c, lg⟩, by show 2 ≤ sizeLine; decide, ?_⟩
      exact rd_new fun p H' sm hp => hq p H' sm hp
    · rw [if_neg n] at hd
      rw [hd]
      refine ⟨_, rfl, _, rfl, _, _, rfl, rfl, ⟨dv_ne c, lg⟩, _, rfl, _, rfl, _, _, rfl, rfl, ⟨dv_ne c, lg⟩, by show 2 ≤ sizeLine; decide, ?_⟩
      exact rd_new fun p H' sm hp => hq p H' sm hp
noncomputable def sp_law_fit (K : PySem.W.Frag) : Sp := fun vs H Q _ => ∃ (a : Int) (b : Int), vs = [.int a, .int b] ∧ Bd 9000 b ∧ b ≠ 0 ∧ (∀ (p_r : Addr) (H1 : Hp), Same H H1 → FQ K H1 p_r (Rat.divInt a b) → Q (.ref p_r) H1)
theorem ok_law_fit (D : Df K mg "_law_fit" (top 136) ["top", "bottom"]) (T : Tx K mg CK C w) : Fn P w K mg base 1 "_law_fit" ["top", "bottom"] (sp_law_fit K) :=
  (ok_law_fit0 D T).imp fun vs H Q E h => by
    obtain ⟨a, b, rfl, hb, b0, k⟩ := h
    exact ⟨a, b, rfl, b0, hb, fun p H' s e => k p H' s (FQ.fit b0 (SqT.of e))⟩
noncomputable def sp_law_less (K : PySem.W.Frag) : Sp := fun vs H Q _ => ∃ (p_x : Addr) (x : Rat) (p_y : Addr) (y : Rat), vs = [.ref p_x, .ref p_y] ∧ FQ K H p_x x ∧ FB 60000 x ∧ FQ K H p_y y ∧ FB 60000 y ∧ (∀  (H1 : Hp), Same H H1 → Q (.bl (decide (x < y))) H1)
theorem sc_law_less : FnScope ["one", "other"] ["one", "other"] (defScope (top 137)) := ⟨rfl, rfl, rfl, by decide +kernel, rfl, by decide +kernel, by decide +kernel⟩
theorem ok_law_less (D : Df K mg "_law_less" (top 137) ["one", "other"]) (T : Tx K mg CK C w) : Fn P w K mg base 1 "_law_less" ["one", "other"] (sp_law_less K) := by
  refine D.ok0 sc_law_less (fun vs H Q E h => ?_) (fun f cdv A outer s H vs Q E hr h => ?_)
  · obtain ⟨p_x, x, p_y, y, rfl, _⟩ := h
    rfl
  obtain ⟨p_x, x, p_y, y, rfl, g_x, d_x, g_y, d_y, k0⟩ := h
  refine ⟨_, (pss_one (ps_ret (pe_cmpR op_lt (pe_op op_mulB (pe_ix ix_tup (pv 0) pe_int (fun _ _ => rfl)) (pe_ix ix_tup (pv 1) pe_int (fun _ _ => rfl))) (pe_op op_mulB (pe_ix ix_tup (pv 1) pe_int (fun _ _ => rfl)) (pe_ix ix_tup (pv 0) pe_int (fun _ _ => rfl))) (nomark _)))), ?_⟩
  refine ⟨_, rfl, p_x, _, _, _, rfl, rfl, g_x, rfl, _, rfl, p_y, _, _, _, rfl, rfl, g_y, rfl, _, _, rfl, rfl, (d_x.1.ok d_y.2 (by decide)), _, rfl, p_y, _, _, _, rfl, rfl, g_y, rfl, _, rfl, p_x, _, _, _, rfl, rfl, g_x, rfl, _, _, rfl, rfl, (d_y.1.ok d_x.2 (by decide)), _, _, rfl, rfl, ?_⟩
  try dsimp only
  rw [show decide (((x).num * (((y).den : Nat) : Int)) < ((y).num * (((x).den : Nat) : Int))) = decide (x < y) from decide_eq_decide.mpr (by exact (q_lt x y).symm)]
  exact k0 _ (Same.refl _)
noncomputable def sp_law_word (K : PySem.W.Frag) : Sp := fun vs H Q _ => ∃ (v : V) (q : Rat), vs = [v] ∧ ((∃ i : Int, v = .int i ∧ q = (i : Rat)) ∨ ∃ p, v = .ref p ∧ FQ K H p q) ∧ shF q ∧ Q (.str (frT q)) H
theorem sc_law_word : FnScope ["one"] ["one"] (defScope (top 141)) := ⟨rfl, rfl, rfl, by decide +kernel, rfl, by decide +kernel, by decide +kernel⟩
theorem ok_law_word (D : Df K mg "_law_word" (top 141) ["one"]) (T : Tx K mg CK C w)  : Fn P w K mg base 1 "_law_word" ["one"] (sp_law_word K) := by
  refine D.ok0 sc_law_word (fun vs H Q E h => ?_) (fun f cdv A outer s H vs Q E hr h => ?_)
  · obtain ⟨v, q, rfl, _⟩ := h
    rfl
  obtain ⟨v, q, rfl, nm, ⟨l1, l2⟩, z⟩ := h
  refine ⟨_, (pss_cons (ps_if (pt_val (pe_callB (call_isiTup (K := K) rfl) (by rfl) T.b_isinstance PyProof.Rows.Boot.«isinstance» (pa_cons (pv 0) (pa_cons (pe_bty (by rfl) T.b_int PyProof.Rows.Boot.«int») pa_nil))) (fun _ => rfl)) (pss_one (ps_ret (pe_callTy call_str_int (by rfl) T.b_str PyProof.Rows.Boot.«str» (pa_cons (pv 0) pa_nil)))) pss_nil)
      (pss_cons (ps_if (pt_cmpR op_eq (pe_ix ix_tup (pv 0) pe_int (fun _ _ => rfl)) pe_int (nomark _)) (pss_one (ps_ret (pe_callTy call_str_int (by rfl) T.b_str PyProof.Rows.Boot.«str» (pa_cons (pe_ix ix_tup (pv 0) pe_int (fun _ _ => rfl)) pa_nil)))) pss_nil)
      (pss_one (ps_ret (pe_op op_add_str (pe_op op_add_str (pe_callTy call_str_int (by rfl) T.b_str PyProof.Rows.Boot.«str» (pa_cons (pe_ix ix_tup (pv 0) pe_int (fun _ _ => rfl)) pa_nil)) pe_str) (pe_callTy call_str_int (by rfl) T.b_str PyProof.Rows.Boot.«str» (pa_cons (pe_ix ix_tup (pv 0) pe_int (fun _ _ => rfl)) pa_nil))))))), ?_⟩
  have b1 := bd_abs (sh_bd2 l1)
  have b2 := bd_abs (sh_bd2 l2)
  rcases nm with ⟨i, rfl, rfl⟩ | ⟨p, rfl, hp⟩
  · refine ⟨_, rfl, _, _, true, rfl, .inl ⟨_, rfl⟩, .inl ⟨_, .int i, kit_int_int⟩, _, rfl, iteT ?_⟩
    rw [frT_int] at z
    exact ⟨_, rfl, _, rfl, lg_of b1, z⟩
  refine ⟨_, rfl, _, _, false, rfl, .inl ⟨_, rfl⟩, .inr ⟨p, _, rfl, hp, kit_tup_int⟩, _, rfl, iteF ?_⟩
  unfold frT frP at z
  refine ⟨_, rfl, p, _, _, _, rfl, rfl, hp, rfl, rfl, _, rfl, ?_⟩
  refine if_decI (fun e => ?_) (fun e => ?_)
  · rw [if_pos e] at z
    exact ⟨_, rfl, p, _, _, _, rfl, rfl, hp, rfl, _, rfl, lg_of b1, z⟩
  · rw [if_neg e] at z
    have l4 : (nT q.num ++ Str.ofString "/").length ≤ 102 := by
      rw [len_app]
      have := short_nT l1
      have e1 : (Str.ofString "/").length = 1 := by decide +kernel
      omega
    exact ⟨_, rfl, p, _, _, _, rfl, rfl, hp, rfl, _, rfl, lg_of b1, nT q.num, Str.ofString "/", rfl, rfl, lz (a := 101) (b := 1) (short_nT l1) (by decide +kernel) (by decide), _, rfl, p, _, _, _, rfl, rfl, hp, rfl, _, rfl, lg_of b2, nT q.num ++ Str.ofString "/", nT ((q.den : Nat) : Int), rfl, rfl, lz l4 (short_nT l2) (by decide), z⟩
noncomputable def sp_law_text (K : PySem.W.Frag) : Sp := fun vs H Q _ => ∃ (a : Addr) (xs : List V) (bs : List Bo), vs = [.ref a] ∧ H a = some (.lst xs) ∧ Al2 (BdQ K H 900) xs bs ∧ (∀ b ∈ bs, shB b) ∧ bs.length ≤ 6 ∧ ∀ H1, Same H H1 → Q (.str (deskT bs)) H1
theorem sc_law_text : FnScope ["bodies"] ["bodies"] (defScope (top 142)) := ⟨rfl, rfl, rfl, by decide +kernel, rfl, by decide +kernel, by decide +kernel⟩
theorem ok_law_text (D : Df K mg "_law_text" (top 142) ["bodies"]) (T : Tx K mg CK C w) (F_law_word : Fn P w K mg base 1 "_law_word" ["one"] (sp_law_word K)) : Fn P w K mg base 2 "_law_text" ["bodies"] (sp_law_text K) := by
  refine D.ok0 sc_law_text (fun vs H Q E h => ?_) (fun f cdv A outer s H vs Q E hr h => ?_)
  · obtain ⟨a, xs, bs, rfl, _⟩ := h
    rfl
  obtain ⟨a, xs, bs, rfl, ha, al, sh, l6, fin⟩ := h
  refine ⟨_, (pss_cons (ps_if (pt_cmpR (op_eqNil (K := K) rfl (u100 hr)) (pv 0) (pe_lst pa_nil) (nomark _)) (pss_one (ps_ret pe_str)) pss_nil)
      (pss_one (ps_ret (pe_bm PySem.F.plainAttrs_str PySem.F.slot_str_join PySem.F.type_str_join (mt_join (K := K) rfl) pe_str (pa_cons (@pe_lc _ _ _ _ _ _ _ _ _ _ [] [] rfl (pi_list (pv 0)) rfl (by decide) rfl (by decide) rfl (by decide) cap_none (fun _ _ h => nomatch h) (no_free rfl) (fun C z Hc fp => (pe_bmD (K := K) rfl PySem.F.plainAttrs_str PySem.F.slot_str_join PySem.F.type_str_join (mt_join (K := K) rfl) pe_str (pa_cons (@pe_lc _ _ _ _ _ _ _ _ _ _ [] [] rfl (pi_tupK (K := K) rfl (pv 0)) rfl (by decide) rfl (by decide) rfl (by decide) cap_none (fun _ _ h => nomatch h) (no_free rfl) (fun C z Hc fp => (pe_fn F_law_word (by decide) hr (by rfl) passE0 (pa_cons (pv 0) pa_nil))) (fun _ => rfl)) pa_nil))) (fun _ => rfl)) pa_nil))))), ?_⟩
  have hz := Al2.len al
  refine ⟨_, rfl, by show 0 ≤ sizeLine; decide, ?_⟩
  intro p1 n1
  obtain ⟨H1, q1, s1, e1⟩ := newO n1 (.lst [])
  rw [q1]
  clear q1
  have ha1 := s1 _ _ ha
  refine ⟨a, p1, xs, rfl, rfl, SqL.of ha1, SqL.of e1, _, rfl, ?_⟩
  cases xs with
  | nil =>
    have e : bs = [] := List.eq_nil_of_length_eq_zero (by rw [← hz]; rfl)
    have z := fin H1 s1
    unfold deskT at z
    rw [if_pos e] at z
    exact iteT z
  | cons x0 xs0 =>
  generalize hxs : x0 :: xs0 = xs at *
  have ne : xs.isEmpty = false := by rw [← hxs]; rfl
  have nb : bs ≠ [] := fun e => by rw [e, ← hxs] at hz; cases hz
  rw [ne]
  refine iteF ⟨rfl, _, rfl, a, rfl, ⟨_, SqL.of ha1⟩, lc_list (K := K) (xs := xs) (fun i ys H' => Same H1 H' ∧ ys = ((bs.take i).map rowT).map V.str ∧ i ≤ bs.length) ⟨Same.refl _, rfl, Nat.zero_le _⟩ (by rw [sizeLine_eq]; omega) (fun i ys H' ⟨_, e, l⟩ => by rw [e]; simp; omega) (fun i ys H' ⟨s, _⟩ => SqL.of (s _ _ ha1)) ?_ ?_⟩
  · rintro i y ys H' Q' hy ⟨s2, rfl, li⟩ k
    obtain ⟨b, hb, p, pa, pc, rfl, hp, hpa, hpc, d1, d2, w1, w2⟩ := Al2.get (bds_same al (s1.trans s2)) hy
    have shb := sh b (List.mem_of_getElem? hb)
    refine ⟨rfl, _, rfl, p, rfl, ⟨_, hp⟩, lc_tup (K := K) (xs := [.ref pa, .ref pc, .int b.2.2]) (fun i ys H'' => H'' = H' ∧ ys = ([frT b.1, frT b.2.1, nT b.2.2].take i).map V.str ∧ i ≤ 3) ⟨rfl, rfl, by omega⟩ (by rw [sizeLine_eq]; simp) (fun i ys H'' ⟨_, e, l⟩ => by rw [e]; simp; omega) (fun i ys H'' ⟨e, _⟩ => by rw [e]; exact hp) ?_ ?_⟩
    · rintro i y ys H'' Q'' hy ⟨rfl, rfl, li⟩ kj
      match i, hy with
      | 0, hy => cases hy; exact ⟨_, rfl, _, b.1, rfl, .inr ⟨pa, rfl, hpa⟩, shb.1, kj _ _ ⟨rfl, rfl, by omega⟩⟩
      | 1, hy => cases hy; exact ⟨_, rfl, _, b.2.1, rfl, .inr ⟨pc, rfl, hpc⟩, shb.2.1, kj _ _ ⟨rfl, rfl, by omega⟩⟩
      | 2, hy =>
        cases hy
        refine ⟨_, rfl, _, (b.2.2 : Rat), rfl, .inl ⟨_, rfl, rfl⟩, shF_int shb.2.2, ?_⟩
        rw [frT_int]
        exact kj _ _ ⟨rfl, rfl, by omega⟩
    rintro ys H'' ⟨rfl, ey, _⟩
    replace ey : ys = [frT b.1, frT b.2.1, nT b.2.2].map V.str := ey
    subst ey
    intro p5 n5
    obtain ⟨H5, q5, s5, e5⟩ := newO n5 (.lst ([frT b.1, frT b.2.1, nT b.2.2].map V.str))
    rw [q5]
    clear q5
    refine ⟨Str.ofString " ", p5, [frT b.1, frT b.2.1, nT b.2.2], rfl, rfl, SqL.of e5, join_ok (row_part shb) (by show 3 * 204 + 3 * (Str.ofString " ").length ≤ 16777216; rw [sep_blank]; decide), ?_⟩
    refine k _ _ ⟨s2.trans s5, ?_, ?_⟩
    · rw [List.take_add_one, hb]
      simp
      rfl
    · have := (List.getElem?_eq_some_iff.mp hb).1
      omega
  · rintro ys H' ⟨s2, rfl, _⟩
    rw [hz, List.take_length]
    intro p5 n5
    obtain ⟨H5, q5, s5, e5⟩ := newO n5 (.lst ((bs.map rowT).map V.str))
    rw [q5]
    clear q5
    have z := fin H5 (s1.trans (s2.trans s5))
    unfold deskT at z
    rw [if_neg nb] at z
    exact ⟨Str.ofString "; ", p5, bs.map rowT, rfl, rfl, SqL.of e5, join_ok (world_part sh) (by rw [List.length_map, sep_semi]; omega), z⟩
noncomputable def TdQ (K : PySem.W.Frag) (H : Hp) (v : V) (b : Bo) : Prop := ∃ p a c : Addr, v = .ref p ∧ SqT K H p [.ref a, .ref c, .int b.2.2] ∧ FQ K H a b.1 ∧ FQ K H c b.2.1 ∧ FB 900 b.1 ∧ FB 900 b.2.1
noncomputable def sp_law_put (K : PySem.W.Frag) : Sp := fun vs H Q _ => ∃ (a : Addr) (xs : List V) (v : V) (bs : List Bo) (b : Bo), vs = [.ref a, v] ∧ H a = some (.lst xs) ∧ Al2 (BdQ K H 900) xs bs ∧ TdQ K H v b ∧ bs.length ≤ 6 ∧ -10000 < b.2.2 ∧ b.2.2 < 10000 ∧ ∀ (r : Addr) (u : V) (q : Addr) (ys : List V) (H1 : Hp), Same H H1 → SqT K H1 r [u, .ref q] → AnQ K H1 u (ansB bs b) → H1 q = some (.lst ys) → Al2 (BdQ K H1 900) ys (nowB bs b) → (q = a ∨ H q = none) → Q (.ref r) H1
theorem sc_law_put : FnScope ["bodies", "body", "ahead", "behind_v"] ["bodies", "body"] (defScope (top 143)) := ⟨rfl, rfl, rfl, by decide +kernel, rfl, by decide +kernel, by decide +kernel⟩
theorem ok_law_put (D : Df K mg "_law_put" (top 143) ["bodies", "body"]) (T : Tx K mg CK C w) (F_law_less : Fn P w K mg base 1 "_law_less" ["one", "other"] (sp_law_less K)) : Fn P w K mg base 2 "_law_put" ["bodies", "body"] (sp_law_put K) := by
  refine D.ok0 sc_law_put (fun vs H Q E h => ?_) (fun f cdv A outer s H vs Q E hr h => ?_)
  · obtain ⟨a, xs, v, bs, b, rfl, _⟩ := h
    rfl
  obtain ⟨a, xs, v, bs, b, rfl, ha, al, td, l6, w0, w1, fin⟩ := h
  refine ⟨_, (pss_cons (ps_if (pt_not (pt_chain op_le op_le pe_int (pe_ix ix_tup (pv 1) pe_int (fun _ _ => rfl)) pe_int)) (pss_one (ps_ret (pe_tup (pa_cons (pe_tup (pa_cons pe_str pa_nil)) (pa_cons (pv 0) pa_nil))))) pss_nil)
      (pss_cons (ps_if (pt_cmpR op_eq (pe_callB call_len (by rfl) T.b_len PyProof.Rows.Boot.«len» (pa_cons (pv 0) pa_nil)) pe_int (nomark _)) (pss_one (ps_ret (pe_tup (pa_cons (pe_tup (pa_cons pe_str pa_nil)) (pa_cons (pv 0) pa_nil))))) pss_nil)
      (pss_cons (@ps_lcT _ _ _ _ _ _ _ _ _ _ _ _ ["body"] [1] 2 _ _ _ sc_law_put.nd rfl rfl rfl rfl (pi_list (pv 0)) rfl (by decide) rfl (by decide) rfl (by decide) (cap_one (j := 1) rfl rfl rfl rfl (.inl rfl)) (fun y c h => h) (cap_fr rfl) (fun C z Hc fp => pts_one (pt_val (pe_fn F_law_less (by decide) hr (by rfl) passE0 (pa_cons (pe_ix (ixT (K := K) rfl) (pv 0) pe_int (fun _ _ => rfl)) (pa_cons (pe_ix (ixT (K := K) rfl) (pv 1) pe_int (fun _ _ => rfl)) pa_nil))) (fun _ => rfl))) (fun C z Hc fp => (pv 0)) (fun _ => rfl))
      (pss_cons (@ps_lcT _ _ _ _ _ _ _ _ _ _ _ _ ["body"] [1] 3 _ _ _ sc_law_put.nd rfl rfl rfl rfl (pi_list (pv 0)) rfl (by decide) rfl (by decide) rfl (by decide) (cap_one (j := 1) rfl rfl rfl rfl (.inl rfl)) (fun y c h => h) (cap_fr rfl) (fun C z Hc fp => pts_one (pt_val (pe_fn F_law_less (by decide) hr (by rfl) passE0 (pa_cons (pe_ix (ixT (K := K) rfl) (pv 1) pe_int (fun _ _ => rfl)) (pa_cons (pe_ix (ixT (K := K) rfl) (pv 0) pe_int (fun _ _ => rfl)) pa_nil))) (fun _ => rfl))) (fun C z Hc fp => (pv 0)) (fun _ => rfl))
      (pss_cons (ps_if (pt_cmpR op_lt (pe_op op_add (pe_callB call_len (by rfl) T.b_len PyProof.Rows.Boot.«len» (pa_cons (pv 2) pa_nil)) (pe_callB call_len (by rfl) T.b_len PyProof.Rows.Boot.«len» (pa_cons (pv 3) pa_nil))) (pe_callB call_len (by rfl) T.b_len PyProof.Rows.Boot.«len» (pa_cons (pv 0) pa_nil)) (nomark _)) (pss_one (ps_ret (pe_tup (pa_cons (pe_tup (pa_cons pe_str (pa_cons (pe_op op_add (pe_callB call_len (by rfl) T.b_len PyProof.Rows.Boot.«len» (pa_cons (pv 2) pa_nil)) pe_int) pa_nil))) (pa_cons (pv 0) pa_nil))))) pss_nil)
      (pss_one (ps_ret (pe_tup (pa_cons (pe_callTy call_str_int (by rfl) T.b_str PyProof.Rows.Boot.«str» (pa_cons (pe_op op_add (pe_callB call_len (by rfl) T.b_len PyProof.Rows.Boot.«len» (pa_cons (pv 0) pa_nil)) pe_int) pa_nil)) (pa_cons (pe_op op_cat (pe_op op_cat (pv 2) (pe_lst (pa_cons (pv 1) pa_nil))) (pv 3)) pa_nil)))))))))), ?_⟩
  have hz := Al2.len al
  obtain ⟨p, pa, pc, rfl, hp, hpa, hpc, d1, d2⟩ := id td
  have bad : ¬ WtOk b → ∀ (H1 : Hp) (r p2 : Addr), Same H H1 → H1 p2 = some (.tup [strV "body"]) → H1 r = some (.tup [.ref p2, .ref a]) → Q (.ref r) H1 := fun wt H1 r p2 s1 e1 e2 => by
    obtain ⟨z1, z2⟩ := ans_w (bs := bs) wt
    exact fin r _ a xs H1 s1 (SqT.of e2) (by rw [z1]; exact ⟨p2, rfl, SqT.of e1⟩) (s1 _ _ ha) (by rw [z2]; exact bds_same al s1) (.inl rfl)
  refine ⟨_, rfl, p, _, _, _, rfl, rfl, hp, rfl, _, _, rfl, rfl, _, rfl, ?_⟩
  refine if_dec (fun c1 => ?_) (fun c1 => ?_)
  rotate_left
  · refine ⟨_, rfl, iteT ?_⟩
    refine ⟨by show 1 ≤ sizeLine; decide, ?_⟩
    intro p1 n1
    obtain ⟨H1, q1, s1, e1⟩ := newO n1 (.tup [.str "body"])
    rw [q1]
    clear q1
    refine ⟨_, rfl, by show 2 ≤ sizeLine; decide, ?_⟩
    intro p2 n2
    obtain ⟨H2, q2, s2, e2⟩ := newO n2 (.tup [.ref p1, .ref a])
    rw [q2]
    clear q2
    exact bad (fun w => c1 w.1) H2 p2 p1 (s1.trans s2) (s2 _ _ e1) e2
  refine ⟨_, _, rfl, rfl, _, rfl, ?_⟩
  refine if_not (fun c2 => ?_) (fun c2 => ?_)
  · refine ⟨by show 1 ≤ sizeLine; decide, ?_⟩
    intro p1 n1
    obtain ⟨H1, q1, s1, e1⟩ := newO n1 (.tup [.str "body"])
    rw [q1]
    clear q1
    refine ⟨_, rfl, by show 2 ≤ sizeLine; decide, ?_⟩
    intro p2 n2
    obtain ⟨H2, q2, s2, e2⟩ := newO n2 (.tup [.ref p1, .ref a])
    rw [q2]
    clear q2
    exact bad (fun w => c2 w.2) H2 p2 p1 (s1.trans s2) (s2 _ _ e1) e2
  have wt : WtOk b := ⟨c1, c2⟩
  refine ⟨_, rfl, _, _, rfl, .inl ⟨_, SqL.of ha, rfl⟩, rfl, _, rfl, ?_⟩
  refine if_decI (fun c6 => ?_) (fun c6 => ?_)
  · refine ⟨by show 1 ≤ sizeLine; decide, ?_⟩
    intro p1 n1
    obtain ⟨H1, q1, s1, e1⟩ := newO n1 (.tup [.str "many"])
    rw [q1]
    clear q1
    refine ⟨_, rfl, by show 2 ≤ sizeLine; decide, ?_⟩
    intro p2 n2
    obtain ⟨H2, q2, s2, e2⟩ := newO n2 (.tup [.ref p1, .ref a])
    rw [q2]
    clear q2
    obtain ⟨z1, z2⟩ := ans_m wt (show bs.length = 6 by omega)
    have s12 := s1.trans s2
    exact fin p2 _ a xs H2 s12 (SqT.of e2) (by rw [z1]; exact ⟨p1, rfl, SqT.of (s2 _ _ e1)⟩) (s12 _ _ ha) (by rw [z2]; exact bds_same al s12) (.inl rfl)
  have nsix : bs.length ≠ 6 := by omega
  refine ⟨_, rfl, a, rfl, ⟨_, SqL.of ha⟩, lc_filterB (n := 900) (fun c => decide (c.1 < b.1)) (SqL.of ha) (by rw [sizeLine_eq]; omega) al (fun y c H1 Q' s1 bq hQ => ?_) (fun y H1 Q' hQ => ⟨_, rfl, hQ⟩) (fun ys1 H1 s1 al1 => ?_)⟩
  · obtain ⟨py, qy, cy, rfl, e1, e2, e3, f1, f2, _, _⟩ := bq
    exact ⟨_, rfl, py, _, _, _, rfl, rfl, e1, rfl, _, rfl, p, _, _, _, rfl, rfl, Kw.Same.tup s1 hp, rfl, _, _, _, _, rfl, e2, f1.mono (by decide), Kw.Same.tup s1 hpa, d1.mono (by decide), fun H2 s2 => ⟨_, rfl, hQ H2 s2⟩⟩
  intro p2 n2
  obtain ⟨H2, q2, s2, e2⟩ := newO n2 (.lst ys1)
  rw [q2]
  clear q2
  have s02 := s1.trans s2
  have ha2 := s02 _ _ ha
  refine ⟨_, rfl, a, rfl, ⟨_, SqL.of ha2⟩, lc_filterB (n := 900) (fun c => decide (b.1 < c.1)) (SqL.of ha2) (by rw [sizeLine_eq]; omega) (bds_same al s02) (fun y c H3 Q' s3 bq hQ => ?_) (fun y H3 Q' hQ => ⟨_, rfl, hQ⟩) (fun ys2 H3 s3 al3 => ?_)⟩
  · obtain ⟨py, qy, cy, rfl, e1, e2, e3, f1, f2, _, _⟩ := bq
    have s03 := s02.trans s3
    exact ⟨_, rfl, p, _, _, _, rfl, rfl, Kw.Same.tup s03 hp, rfl, _, rfl, py, _, _, _, rfl, rfl, e1, rfl, _, _, _, _, rfl, Kw.Same.tup s03 hpa, d1.mono (by decide), e2, f1.mono (by decide), fun H4 s4 => ⟨_, rfl, hQ H4 s4⟩⟩
  intro p4 n4
  obtain ⟨H4, q4, s4, e4⟩ := newO n4 (.lst ys2)
  rw [q4]
  clear q4
  have s24 := s3.trans s4
  have e24 := s24 _ _ e2
  have s04 := s02.trans s24
  have l1 : ys1.length = (lessB bs b.1).length := Al2.len al1
  have l2 : ys2.length = (moreB bs b.1).length := Al2.len al3
  have ha4 := s04 _ _ ha
  refine ⟨_, rfl, _, _, rfl, .inl ⟨_, SqL.of e24, rfl⟩, _, rfl, _, _, rfl, .inl ⟨_, SqL.of e4, rfl⟩, _, _, rfl, rfl, _, rfl, _, _, rfl, .inl ⟨_, SqL.of ha4, rfl⟩, _, _, rfl, rfl, _, rfl, ?_⟩
  refine if_dec (fun lt => ?_) (fun lt => ?_)
  · refine ⟨_, rfl, _, _, rfl, .inl ⟨_, SqL.of e24, rfl⟩, _, _, rfl, rfl, by show 2 ≤ sizeLine; decide, ?_⟩
    intro p5 n5
    obtain ⟨H5, q5, s5, e5⟩ := newO n5 (.tup [.str "world", .int (((ys1.length : Nat) : Int) + 1)])
    rw [q5]
    clear q5
    refine ⟨_, rfl, by show 2 ≤ sizeLine; decide, ?_⟩
    intro p6 n6
    obtain ⟨H6, q6, s6, e6⟩ := newO n6 (.tup [.ref p5, .ref a])
    rw [q6]
    clear q6
    obtain ⟨z1, z2⟩ := ans_l wt nsix (show (lessB bs b.1).length + (moreB bs b.1).length < bs.length by omega)
    have s06 := s04.trans (s5.trans s6)
    refine fin p6 _ a xs H6 s06 (SqT.of e6) (by
      rw [z1]
      refine ⟨p5, rfl, ?_⟩
      rw [show (((lessB bs b.1).length + 1 : Nat) : Int) = ((ys1.length : Nat) : Int) + 1 by omega]
      exact SqT.of (s6 _ _ e5)) (s06 _ _ ha) (by rw [z2]; exact bds_same al s06) (.inl rfl)
  · obtain ⟨z1, z2⟩ := ans_t wt nsix (show ¬ (lessB bs b.1).length + (moreB bs b.1).length < bs.length by omega)
    refine ⟨_, rfl, _, _, rfl, .inl ⟨_, SqL.of ha4, rfl⟩, _, _, rfl, rfl, _, rfl, lg_of ((Bd.small (by omega) (by omega)).mono (by decide)), _, rfl, _, rfl, by show 1 ≤ sizeLine; decide, ?_⟩
    intro p5 n5
    obtain ⟨H5, q5, s5, e5⟩ := newO n5 (.lst [.ref p])
    rw [q5]
    clear q5
    have fl1 : ys1.length ≤ 6 := by
      have := List.length_filter_le (fun c : Bo => decide (c.1 < b.1)) bs
      have : (lessB bs b.1).length ≤ bs.length := this
      omega
    have fl2 : ys2.length ≤ 6 := by
      have := List.length_filter_le (fun c : Bo => decide (b.1 < c.1)) bs
      have : (moreB bs b.1).length ≤ bs.length := this
      omega
    refine ⟨p2, p5, _, _, rfl, rfl, s5 _ _ e24, e5, by rw [sizeLine_eq]; simp only [List.length_cons, List.length_nil]; omega, ?_⟩
    intro p6 n6
    obtain ⟨H6, q6, s6, e6⟩ := newO n6 (.lst (ys1 ++ [.ref p]))
    rw [q6]
    clear q6
    refine ⟨_, rfl, p6, p4, _, _, rfl, rfl, e6, s6 _ _ (s5 _ _ e4), by rw [sizeLine_eq]; simp only [List.length_append, List.length_cons, List.length_nil]; omega, ?_⟩
    intro p7 n7
    obtain ⟨H7, q7, s7, e7⟩ := newO n7 (.lst (ys1 ++ [.ref p] ++ ys2))
    rw [q7]
    clear q7
    refine ⟨by show 2 ≤ sizeLine; decide, ?_⟩
    intro p8 n8
    obtain ⟨H8, q8, s8, e8⟩ := newO n8 (.tup [.str (Str.ofString (toString (((xs.length : Nat) : Int) + 1))), .ref p7])
    rw [q8]
    clear q8
    have s48 := s5.trans (s6.trans (s7.trans s8))
    have s08 := s04.trans s48
    have bd : BdQ K H8 900 (.ref p) b := ⟨p, pa, pc, rfl, Kw.Same.tup s08 hp, Kw.Same.tup s08 hpa, Kw.Same.tup s08 hpc, d1, d2, c1, by have : b.2.2 ≤ 1000 := c2; omega⟩
    have alN : Al2 (BdQ K H8 900) (ys1 ++ [.ref p] ++ ys2) (putB bs b) := by
      unfold putB
      rw [List.append_assoc]
      exact Al2.app (bds_same al1 (s2.trans (s24.trans s48))) ⟨bd, bds_same al3 (s4.trans s48)⟩
    have n07 : H p7 = none := none_of_same (s04.trans (s5.trans s6)) n7
    refine fin p8 _ p7 _ H8 s08 (SqT.of e8) (by
      rw [z1]
      show V.str (nT _) = V.str (nT _)
      rw [show ((bs.length + 1 : Nat) : Int) = ((xs.length : Nat) : Int) + 1 by omega]) (s8 _ _ e7) (by rw [z2]; exact alN) (.inr n07)
noncomputable def spSmall (K : PySem.W.Frag) : Sp := fun vs H Q _ => ∃ b n, vs = [.ref b] ∧ H b = some (.lst [.int n]) ∧ ∀ p x n' H', But b H H' → H' b = some (.lst [.int n']) → FQ K H' p x → FB 13 x → ((-12 : Int) : Rat) ≤ x → x ≤ ((12 : Int) : Rat) → Q (.ref p) H'
theorem sc_law_small : FnScope ["box"] ["box"] (defScope (top 138)) := ⟨rfl, rfl, rfl, by decide +kernel, rfl, by decide +kernel, by decide +kernel⟩
theorem ok_law_small (D : Df K mg "_law_small" (top 138) ["box"]) (T : Tx K mg CK C w) (F_law_take : Fn P w K mg base 1 "_law_take" ["box", "many"] spTake) (F_law_fit : Fn P w K mg base 1 "_law_fit" ["top", "bottom"] (sp_law_fit K)) : Fn P w K mg base 2 "_law_small" ["box"] (spSmall K) := by
  refine D.ok0 sc_law_small (fun vs H Q E h => ?_) (fun f cdv A outer s H vs Q E hr h => ?_)
  · obtain ⟨b, n, rfl, _⟩ := h
    rfl
  obtain ⟨b, n, rfl, hb, q⟩ := h
  refine ⟨_, (pss_one (ps_ret (pe_fn F_law_fit (by decide) hr (by rfl) passE0 (pa_cons (pe_op op_sub (pe_fn F_law_take (by decide) hr (by rfl) passE0 (pa_cons (pv 0) (pa_cons pe_int pa_nil))) pe_int) (pa_cons (pe_ix ix_list (pe_lst (pa_cons pe_int (pa_cons pe_int (pa_cons pe_int (pa_cons pe_int pa_nil))))) (pe_fn F_law_take (by decide) hr (by rfl) passE0 (pa_cons (pv 0) (pa_cons pe_int pa_nil))) (fun _ _ => rfl)) pa_nil))))), ?_⟩
  have sm9 : ∀ i : Int, -(2 ^ 64) < i → i < 2 ^ 64 → Bd 9000 i := fun i h1 h2 => (Bd.small h1 h2).mono (by decide)
  refine ⟨_, rfl, b, 25, n, rfl, hb, by decide, sm9 _ (by decide) (by decide), fun d1 n1 H1 u1 v1 s1 hb1 => ?_⟩
  refine ⟨_, _, rfl, rfl, by show 4 ≤ sizeLine; decide, ?_⟩
  intro p2 n2
  obtain ⟨H2, q2, s2, e2⟩ := newO n2 (.lst [.int 1, .int 1, .int 2, .int 3])
  rw [q2]
  clear q2
  have hb2 := s2 _ _ hb1
  have nl : p2 ≠ b := Ne.symm (ne_of_none hb1 n2)
  refine ⟨_, rfl, b, 4, n1, rfl, hb2, by decide, sm9 _ (by decide) (by decide), fun d3 n3 H3 u3 v3 s3 hb3 => ?_⟩
  obtain ⟨v, ev, mv⟩ := atI_mem [1, 1, 2, 3] d3 u3 v3
  have bv : 1 ≤ v ∧ v ≤ 3 := (show ∀ z ∈ ([1, 1, 2, 3] : List Int), 1 ≤ z ∧ z ≤ 3 by decide) v mv
  refine ⟨p2, _, _, _, rfl, rfl, SqL.of (s3 _ _ nl e2), ev, _, _, rfl, sm9 _ (by omega) (by omega), by omega, fun p4 H4 s4 g4 => ?_⟩
  have z := dv_small u1 v1 bv.1
  exact q p4 _ n3 H4 (s1.trans ((But.of s2).trans (s3.trans (.of s4)))) (s4 _ _ hb3) g4 (FB.fit (by omega) (bd13 (by omega) (by omega)) (bd13 (by omega) (by omega))) z.1 z.2
noncomputable def SaidQ (bs : List Bo) (z : Str) (an : An) (cs : List Bo) : Prop := (∃ b, RowB z b ∧ an = ansB bs b ∧ cs = nowB bs b) ∨ (z = Str.ofString "clear" ∧ an = .txt (Str.ofString "0") ∧ cs = [])
theorem SaidQ.ok {bs : List Bo} {z : Str} {an : An} {cs : List Bo} (h : SaidQ bs z an cs) : an.Ok := by
  rcases h with ⟨b, _, rfl, _⟩ | ⟨_, rfl, _⟩
  · exact ans_ok bs b
  · exact (show Pln (Str.ofString "0") by unfold Pln; decide +kernel)
theorem said_any {d kp : Addr} {bs cs : List Bo} {z : Str} {an : An} {H : Hp} {Q : VK} (h : SaidQ bs z an cs) (k : ∀ (v : V) (k2 : Addr) (H1 : Hp), But d H H1 → (k2 = kp ∨ H k2 = none) → DeskAt H1 (C 7) d k2 cs → AnQ K H1 v an → Q v H1) :
    ((∃ b, RowB z b ∧ ∀ (v : V) (k2 : Addr) (H1 : Hp), But d H H1 → (k2 = kp ∨ H k2 = none) → DeskAt H1 (C 7) d k2 (nowB bs b) → AnQ K H1 v (ansB bs b) → Q v H1) ∨ (z = Str.ofString "clear" ∧ ∀ (v : V) (k2 : Addr) (H1 : Hp), But d H H1 → H k2 = none → DeskAt H1 (C 7) d k2 [] → AnQ K H1 v (.txt (Str.ofString "0")) → Q v H1) ∨
    (z = Str.ofString "world" ∧ ∀ (v : V) (H1 : Hp), Same H H1 → AnQ K H1 v (.txt (deskT bs)) → Q v H1) ∨ (RowBad z ∧ ∀ (v : V) (H1 : Hp), Same H H1 → AnQ K H1 v (.mark "row") → Q v H1)) := by
  rcases h with ⟨b, rb, rfl, rfl⟩ | ⟨rfl, rfl, rfl⟩
  · exact .inl ⟨b, rb, k⟩
  · exact .inr (.inl ⟨rfl, fun v k2 H1 bt n => k v k2 H1 bt (.inr n)⟩)
theorem bad_row : RowBad (Str.ofString "world x") := ⟨Str.ofString "world", [Str.ofString "x"], by decide +kernel, by decide +kernel, .inr ⟨[], by decide +kernel, by decide⟩⟩
theorem sc_law : FnScope ["script", "k", "box", "desk", "second", "bodies", "turn", "way", "due", "row", "weight", "place", "body"] ["script"] (defScope (top 144)) := ⟨rfl, rfl, rfl, by decide +kernel, rfl, by decide +kernel, by decide +kernel⟩
theorem ok_law (D : Df K mg "law" (top 144) ["script"]) (T : Tx K mg CK C w) (F_law_box : Fn P w K mg base 2 "_law_box" ["script", "k"] (spBox K)) (F_Desk___init__ : FnM P w K mg base 1 (C 7) "__init__" ["self"] (spD_init (C 7))) (F_Desk_say : FnM P w K mg base 7 (C 7) "say" ["self", "row"] (spD_say K C)) (F_law_take : Fn P w K mg base 1 "_law_take" ["box", "many"] spTake) (F_law_fit : Fn P w K mg base 1 "_law_fit" ["top", "bottom"] (sp_law_fit K)) (F_law_small : Fn P w K mg base 2 "_law_small" ["box"] (spSmall K)) (F_law_put : Fn P w K mg base 2 "_law_put" ["bodies", "body"] (sp_law_put K)) (F_law_word : Fn P w K mg base 1 "_law_word" ["one"] (sp_law_word K)) (F_law_said : Fn P w K mg base 8 "_law_said" ["desk", "row"] (sp_law_said K C)) (F_law_text : Fn P w K mg base 2 "_law_text" ["bodies"] (sp_law_text K)) : Fn P w K mg base 9 "law" ["script"] (spLaw K) := by
  refine D.ok0 sc_law (fun vs H Q E h => ?_) (fun f cdv A outer s H vs Q E hr h => ?_)
  · obtain ⟨a, rfl, _⟩ := h
    rfl
  obtain ⟨a, rfl, hS, fin⟩ := h
  refine ⟨_, (pss_cons (ps_for PassesOwn.never rfl (pi_range1 (by rfl) T.b_range (pa_cons (pe_callB (call_max2 rfl) (by rfl) T.b_max PyProof.Rows.Boot.«max» (pa_cons pe_int (pa_cons (pe_callB (call_min2 rfl) (by rfl) T.b_min PyProof.Rows.Boot.«min» (pa_cons (pe_callB call_len (by rfl) T.b_len PyProof.Rows.Boot.«len» (pa_cons (pv 0) pa_nil)) (pa_cons pe_int pa_nil))) pa_nil))) pa_nil)) (pg_name (i := 1) sc_law.nd rfl (Or.inl rfl)) (pss_cons (ps_set (i := 2) sc_law.nd rfl (Or.inl rfl) (pe_fn F_law_box (by decide) hr (by rfl) passE0 (pa_cons (pv 0) (pa_cons (pv 1) pa_nil))))
      (pss_cons (ps_par3 (i := 3) (j := 4) (k := 5) rfl sc_law.nd rfl rfl rfl (by decide) (by decide) (by decide) rfl rfl rfl (pa_cons (pe_mko0 T.mk_Desk T.kp_Desk F_Desk___init__ (by decide) hr (by rfl) T.c_Desk passE0) (pa_cons (pe_mko0 T.mk_Desk T.kp_Desk F_Desk___init__ (by decide) hr (by rfl) T.c_Desk passE0) (pa_cons (pe_lst pa_nil) pa_nil))) rfl)
      (pss_cons (ps_expr (pe_mt T.cl_Desk F_Desk_say (by decide) hr passE0 (pv 4) (pa_cons pe_str pa_nil)))
      (pss_cons (ps_for PassesOwn.never rfl (pi_range1 (by rfl) T.b_range (pa_cons (pe_fn F_law_take (by decide) hr (by rfl) passE0 (pa_cons (pv 2) (pa_cons pe_int pa_nil))) pa_nil)) (pg_name (i := 6) sc_law.nd rfl (Or.inl rfl)) (pss_cons (ps_set (i := 7) sc_law.nd rfl (Or.inl rfl) (pe_fn F_law_take (by decide) hr (by rfl) passE0 (pa_cons (pv 2) (pa_cons pe_int pa_nil))))
      (pss_cons (ps_if (pt_cmpR op_eq (pv 7) pe_int (nomark _)) (pss_cons (ps_par (i := 8) (j := 5) rfl sc_law.nd rfl rfl (by decide) rfl rfl (pa_cons pe_str (pa_cons (pe_lst pa_nil) pa_nil)) rfl)
      (pss_one (ps_set (i := 9) sc_law.nd rfl (Or.inl rfl) pe_str))) (pss_cons (ps_set (i := 10) sc_law.nd rfl (Or.inl rfl) (pe_ix ix_list (pe_lst (pa_cons (pe_op op_add pe_int (pe_fn F_law_take (by decide) hr (by rfl) passE0 (pa_cons (pv 2) (pa_cons pe_int pa_nil)))) (pa_cons pe_int (pa_cons pe_int pa_nil)))) (pe_ix ix_list (pe_lst (pa_cons pe_int (pa_cons pe_int (pa_cons pe_int (pa_cons pe_int (pa_cons pe_int (pa_cons pe_int (pa_cons pe_int pa_nil)))))))) (pe_fn F_law_take (by decide) hr (by rfl) passE0 (pa_cons (pv 2) (pa_cons pe_int pa_nil))) (fun _ _ => rfl)) (fun _ _ => rfl)))
      (pss_cons (ps_set (i := 11) sc_law.nd rfl (Or.inl rfl) (pe_fn F_law_fit (by decide) hr (by rfl) passE0 (pa_cons (pe_op op_sub (pe_fn F_law_take (by decide) hr (by rfl) passE0 (pa_cons (pv 2) (pa_cons pe_int pa_nil))) pe_int) (pa_cons (pe_op op_add pe_int (pe_fn F_law_take (by decide) hr (by rfl) passE0 (pa_cons (pv 2) (pa_cons pe_int pa_nil)))) pa_nil))))
      (pss_cons (ps_set (i := 12) sc_law.nd rfl (Or.inl rfl) (pe_tup (pa_cons (pv 11) (pa_cons (pe_fn F_law_small (by decide) hr (by rfl) passE0 (pa_cons (pv 2) pa_nil)) (pa_cons (pv 10) pa_nil)))))
      (pss_cons (ps_asg (pe_fn F_law_put (by decide) hr (by rfl) passE0 (pa_cons (pv 5) (pa_cons (pv 12) pa_nil))) (pg_tup rfl (pgs_cons (pg_name (i := 8) sc_law.nd rfl (Or.inl rfl)) (pgs_cons (pg_name (i := 5) sc_law.nd rfl (Or.inl rfl)) pgs_nil))))
      (pss_one (ps_set (i := 9) sc_law.nd rfl (Or.inl rfl) (pe_op op_add_str pe_str (pe_bm PySem.F.plainAttrs_str PySem.F.slot_str_join PySem.F.type_str_join (mt_join (K := K) rfl) pe_str (pa_cons (@pe_lc _ _ _ _ _ _ _ _ _ _ [] [] rfl (pi_tup (pv 12)) rfl (by decide) rfl (by decide) rfl (by decide) cap_none (fun _ _ h => nomatch h) (no_free rfl) (fun C z Hc fp => (pe_fn F_law_word (by decide) hr (by rfl) passE0 (pa_cons (pv 0) pa_nil))) (fun _ => rfl)) pa_nil))))))))))
      (pss_cons (ps_if (pw_or (pt_cmpR (op_neA (K := K) rfl (u100 hr)) (pe_fn F_law_said (by decide) hr (by rfl) passE0 (pa_cons (pv 3) (pa_cons (pv 9) pa_nil))) (pv 8) (nomark _)) (pw_or1 (pt_cmpR (op_neA (K := K) rfl (u100 hr)) (pe_fn F_law_said (by decide) hr (by rfl) passE0 (pa_cons (pv 3) (pa_cons pe_str pa_nil))) (pe_fn F_law_text (by decide) hr (by rfl) passE0 (pa_cons (pv 5) pa_nil)) (nomark _)))).pt (pss_one (ps_ret pe_bl)) pss_nil)
      (pss_one (ps_if (pw_and (pt_cmpR op_eq (pv 7) pe_int (nomark _)) (pw_and1 (pt_cmpR (op_neA (K := K) rfl (u100 hr)) (pe_fn F_law_said (by decide) hr (by rfl) passE0 (pa_cons (pv 3) (pa_cons pe_str pa_nil))) (pe_tup (pa_cons pe_str pa_nil)) (nomark _)))).pt (pss_one (ps_ret pe_bl)) pss_nil))))))
      (pss_one (ps_if (pw_or (pt_cmpR (op_neA (K := K) rfl (u100 hr)) (pe_fn F_law_said (by decide) hr (by rfl) passE0 (pa_cons (pv 3) (pa_cons pe_str pa_nil))) (pe_fn F_law_text (by decide) hr (by rfl) passE0 (pa_cons (pv 5) pa_nil)) (nomark _)) (pw_or1 (pt_cmpR op_ne (pe_mt T.cl_Desk F_Desk_say (by decide) hr passE0 (pv 4) (pa_cons pe_str pa_nil)) pe_str (nomark _)))).pt (pss_one (ps_ret pe_bl)) pss_nil)))))))
      (pss_one (ps_ret pe_bl))), ?_⟩
  have sm9 : ∀ i : Int, -(2 ^ 64) < i → i < 2 ^ 64 → Bd 9000 i := fun i h1 h2 => (Bd.small h1 h2).mono (by decide)
  obtain ⟨ns, hL, h63, _⟩ := id hS
  refine ⟨_, rfl, _, _, rfl, .inl ⟨_, hL, rfl⟩, _, _, rfl, _, _, rfl, _, rfl, ?_⟩
  obtain ⟨m, hme, m1, m8⟩ := most_of ns 3 (by decide)
  rw [hme]
  refine ⟨by omega, by omega, for_range (n := m.toNat) (fun i σ' H' => ∃ r1 r2 r3 r4 r5 r6 r7 r8 r9 r10 r11 r12 : Option V, σ' = [some (.ref a), r1, r2, r3, r4, r5, r6, r7, r8, r9, r10, r11, r12] ∧ Same H H') ⟨_, _, _, _, _, _, _, _, _, _, _, _, rfl, Same.refl H⟩ ?_ ?_⟩
  · rintro i σ0 H0 hi ⟨r1, r2, r3, r4, r5, r6, r7, r8, r9, r10, r11, r12, rfl, sm⟩
    refine ⟨_, rfl, _, rfl, a, _, rfl, Scr.same hS sm, by omega, by omega, fun b nb Hb hb0 sb hb => ?_⟩
    intro d dx nd ndx ned
    obtain ⟨H1, q1, s1, e1⟩ := newI (C := C 7) nd ndx ned
    try dsimp only
    rw [q1]
    clear q1
    refine ⟨d, dx, rfl, e1, fun kp H2 b2 nkp dk => ⟨rfl, ?_⟩⟩
    intro d2 dx2 nd2 ndx2 ned2
    obtain ⟨H3, q3, s3, e3⟩ := newI (C := C 7) nd2 ndx2 ned2
    try dsimp only
    rw [q3]
    clear q3
    refine ⟨d2, dx2, rfl, e3, fun kp2 H4 b4 nkp2 dk2 => ⟨rfl, ?_⟩⟩
    refine ⟨by show 0 ≤ sizeLine; decide, ?_⟩
    intro p5 n5
    obtain ⟨H5, q5, s5, e5⟩ := newO n5 (.lst [])
    rw [q5]
    clear q5
    have bd : b ≠ d := fun z => by rw [z, nd] at hb; cases hb
    have hb2 : H2 b = some (.lst [.int nb]) := b2 _ _ bd (s1 _ _ hb)
    have bkp : b ≠ kp := fun z => by rw [← z, s1 _ _ hb] at nkp; cases nkp
    have bd2 : b ≠ d2 := fun z => by rw [z, nd2] at hb2; cases hb2
    have hb4 : H4 b = some (.lst [.int nb]) := b4 _ _ bd2 (s3 _ _ hb2)
    have bkp2 : b ≠ kp2 := fun z => by rw [← z, s3 _ _ hb2] at nkp2; cases nkp2
    have hb5 := s5 _ _ hb4
    have bp5 : b ≠ p5 := fun z => by rw [← z, hb4] at n5; cases n5
    obtain ⟨dx', xs', hd2', _⟩ := id dk
    have dd2 : d ≠ d2 := fun z => by rw [← z, hd2'] at nd2; cases nd2
    have nt3 : NoT [d2] H3 := NoT.ins e3 NoT.nil
    have dk4 : DeskAt H4 (C 7) d kp [] := (dk.same s3).buts (Buts.one b4 (List.mem_singleton.mpr rfl)) nt3 (by simp [dd2]) (by
      have := (dk.same s3)
      obtain ⟨_, _, _, hk, _⟩ := this
      exact fun z => by rw [List.mem_singleton.mp z, e3] at hk; cases hk)
    have dk5 := dk4.same s5
    have dk25 := dk2.same s5
    have S5 : Same H0 H5 := fun x o e => by
      have x1 : x ≠ d := fun z => by
        have := sb _ _ e
        rw [z, nd] at this
        cases this
      have h2 := b2 _ _ x1 (s1 _ _ (sb _ _ e))
      have x2 : x ≠ d2 := fun z => by rw [z, nd2] at h2; cases h2
      exact s5 _ _ (b4 _ _ x2 (s3 _ _ h2))
    obtain ⟨dxx, xsx, hdx, _⟩ := id dk25
    refine ⟨_, _, _, rfl, _, rfl, d2, _, _, rfl, hdx, rfl, d2, kp2, [], _, rfl, dk25, by decide +kernel, .inl ⟨bTwo, ⟨_, _, _, two_row, two_is.1, two_is.2.1, two_is.2.2, two_sm.1, two_sm.2, by decide, by decide⟩, fun z => absurd (show WtOk bTwo from ⟨by decide, by decide⟩) z, fun _ z => absurd z (by decide), fun _ _ z => absurd z (by decide), fun _ _ _ kp6 H6 b6 n6 dk26 => ?_⟩⟩
    have nt5 : NoT [d2] H5 := NoT.ins hdx NoT.nil
    have bt6 : Buts [d2] H5 H6 := Buts.one b6 (List.mem_singleton.mpr rfl)
    obtain ⟨dxy, xsy, hdy, hky, _⟩ := id dk5
    have dk6 : DeskAt H6 (C 7) d kp [] := dk5.buts bt6 nt5 (by simp [dd2]) (fun z => by rw [List.mem_singleton.mp z, hdx] at hky; cases hky)
    have hb6 := b6 _ _ bd2 hb5
    have bkp6 : b ≠ kp6 := fun z => by rw [← z, hb5] at n6; cases n6
    have p5d2 : p5 ≠ d2 := fun z => by rw [z, hdx] at e5; cases e5
    have e6 := b6 _ _ p5d2 e5
    have nd0 : H0 d = none := none_of_same sb nd
    have nd20 : H0 d2 = none := by
      cases q : H0 d2 with
      | none => rfl
      | some o =>
        have x1 : d2 ≠ d := Ne.symm dd2
        have z := b2 _ _ x1 (s1 _ _ (sb _ _ q))
        rw [nd2] at z
        cases z
    have S6 : Same H0 H6 := Buts.fresh S5 bt6 (fun z hz => by rw [List.mem_singleton.mp hz]; exact nd20)
    refine ⟨_, rfl, b, 15, nb, rfl, hb6, by decide, sm9 _ (by decide) (by decide), fun dt n7 H7 lo7 hi7 s7 hb7 => ?_⟩
    have nb6 : NoT [b] H6 := NoT.lst hb6 NoT.nil
    have bt7 : Buts [b] H6 H7 := Buts.one s7 (List.mem_singleton.mpr rfl)
    have ne1 : ∀ {x : Addr}, b ≠ x → x ∉ [b] := fun h z => h (List.mem_singleton.mp z).symm
    refine ⟨_, rfl, by omega, by omega, for_range (n := dt.toNat) (fun t σ' H' => ∃ (k1 k2 pb : Addr) (xs : List V) (bs : List Bo) (n' : Int) (u6 u7 u8 u9 u10 u11 u12 : Option V), σ' = [some (.ref a), some (.int (0 + (i : Int))), some (.ref b), some (.ref d), some (.ref d2), some (.ref pb), u6, u7, u8, u9, u10, u11, u12] ∧ Same H0 H' ∧ H' b = some (.lst [.int n']) ∧ DeskAt H' (C 7) d k1 bs ∧ DeskAt H' (C 7) d2 k2 [bTwo] ∧ H' pb = some (.lst xs) ∧ Al2 (BdQ K H' 900) xs bs ∧ (∀ c ∈ bs, shB c) ∧ b ≠ k1 ∧ b ≠ k2 ∧ b ≠ pb) ⟨kp, kp6, p5, [], [], n7, _, _, _, _, _, _, _, rfl, Buts.fresh S6 bt7 (fun z hz => by rw [List.mem_singleton.mp hz]; exact hb0), hb7, dk6.buts bt7 nb6 (ne1 bd) (ne1 bkp), dk26.buts bt7 nb6 (ne1 bd2) (ne1 bkp6), s7 _ _ (Ne.symm bp5) e6, trivial, (fun c hc => nomatch hc), bkp, bkp6, bp5⟩ ?_ ?_⟩
    · rintro t σ1 H8 ht ⟨k1, k2, pb, xs, bs, n8, u6, u7, u8, u9, u10, u11, u12, rfl, S8, hb8, dk8, dk28, hp8, al8, sh8, b1, b2', b3⟩
      have l6 : bs.length ≤ 6 := by obtain ⟨_, _, _, _, _, _, z⟩ := id dk8; exact z
      refine ⟨_, rfl, b, 12, n8, rfl, hb8, by decide, sm9 _ (by decide) (by decide), fun dw n9 H9 lo9 hi9 s9 hb9 => ?_⟩
      have keep : ∀ {Hx Hy : Hp} {q : Addr} {cs : List Bo} {n : Int}, Hx b = some (.lst [.int n]) → But b Hx Hy → DeskAt Hx (C 7) d q cs → b ≠ q → DeskAt Hy (C 7) d q cs := fun {Hx Hy q cs n} hbx sx dx' bq =>
        dx'.buts (Buts.one sx (List.mem_singleton.mpr rfl)) (NoT.lst hbx NoT.nil) (ne1 bd) (ne1 bq)
      refine g_go ?_
      dsimp only
      refine cut1 (fun σ' H' => ∃ (w : V) (z : Str) (an : An) (cs : List Bo) (q : Addr) (ys : List V) (n' : Int) (v10 v11 v12 : Option V), σ' = [some (.ref a), some (.int (0 + (i : Int))), some (.ref b), some (.ref d), some (.ref d2), some (.ref q), some (.int (0 + (t : Int))), some (.int dw), some w, some (.str z), v10, v11, v12] ∧ But b H9 H' ∧ H' b = some (.lst [.int n']) ∧ SaidQ bs z an cs ∧ AnQ K H' w an ∧ H' q = some (.lst ys) ∧ Al2 (BdQ K H' 900) ys cs ∧ (∀ c ∈ cs, shB c) ∧ cs.length ≤ 6 ∧ b ≠ q ∧ z.length ≤ 90000) (fun N hN => ?_) ?_
      · refine ⟨_, rfl, rfl, _, rfl, ?_⟩
        refine if_decI (fun c => ?_) (fun c => ?_)
        · refine ⟨by show 0 ≤ sizeLine; decide, ?_⟩
          intro p10 n10
          obtain ⟨H10, q10, s10, e10⟩ := newO n10 (.lst [])
          rw [q10]
          clear q10
          refine ⟨_, _, rfl, ?_⟩
          refine hN _ _ ⟨_, _, _, [], p10, [], n9, _, _, _, rfl, But.of s10, s10 _ _ hb9, .inr ⟨rfl, rfl, rfl⟩, rfl, e10, trivial, (fun c hc => nomatch hc), by decide, ?_, by decide +kernel⟩
          exact fun z => by rw [← z, hb9] at n10; cases n10
        · refine ⟨_, rfl, b, 1000, n9, rfl, hb9, by decide, sm9 _ (by decide) (by decide), fun d10 n10 H10 lo10 hi10 s10 hb10 => ?_⟩
          refine ⟨_, _, rfl, rfl, by show 3 ≤ sizeLine; decide, ?_⟩
          intro p11 n11
          obtain ⟨H11, q11, s11, e11⟩ := newO n11 (.lst [.int (1 + d10), .int 0, .int 1001])
          rw [q11]
          clear q11
          refine ⟨by show 7 ≤ sizeLine; decide, ?_⟩
          intro p12 n12
          obtain ⟨H12, q12, s12, e12⟩ := newO n12 (.lst [.int 0, .int 0, .int 0, .int 0, .int 0, .int 1, .int 2])
          rw [q12]
          clear q12
          have hb11 := s11 _ _ hb10
          have hb12 := s12 _ _ hb11
          have x11 : p11 ≠ b := Ne.symm (ne_of_none hb10 n11)
          have x12 : p12 ≠ b := Ne.symm (ne_of_none hb11 n12)
          refine ⟨_, rfl, b, 7, n10, rfl, hb12, by decide, sm9 _ (by decide) (by decide), fun d13 n13 H13 lo13 hi13 s13 hb13 => ?_⟩
          obtain ⟨e, ae, me⟩ := atI_mem [0, 0, 0, 0, 0, 1, 2] d13 lo13 hi13
          have be : 0 ≤ e ∧ e ≤ 2 := (show ∀ z ∈ ([0, 0, 0, 0, 0, 1, 2] : List Int), 0 ≤ z ∧ z ≤ 2 by decide) e me
          obtain ⟨wt, aw, w0, w1⟩ : ∃ wt : Int, atI [V.int (1 + d10), .int 0, .int 1001] e = some (.int wt) ∧ 0 ≤ wt ∧ wt < 10000 := by
            rcases (show e = 0 ∨ e = 1 ∨ e = 2 by omega) with rfl | rfl | rfl
            · exact ⟨_, rfl, by omega, by omega⟩
            · exact ⟨0, rfl, by omega, by omega⟩
            · exact ⟨1001, rfl, by omega, by omega⟩
          refine ⟨p12, _, _, _, rfl, rfl, SqL.of (s13 _ _ x12 e12), ae, p11, _, _, _, rfl, rfl, SqL.of (s13 _ _ x11 (s12 _ _ e11)), aw, ?_⟩
          refine ⟨_, rfl, b, 13, n13, rfl, hb13, by decide, sm9 _ (by decide) (by decide), fun d14 n14 H14 lo14 hi14 s14 hb14 => ?_⟩
          refine ⟨_, _, rfl, rfl, _, rfl, b, 2, n14, rfl, hb14, by decide, sm9 _ (by decide) (by decide), fun d15 n15 H15 lo15 hi15 s15 hb15 => ?_⟩
          refine ⟨_, _, rfl, rfl, _, _, rfl, sm9 _ (by omega) (by omega), by omega, fun p16 H16 s16 g16 => ?_⟩
          have sm16 : FB 13 (Rat.divInt (d14 - 6) (1 + d15)) := FB.fit (by omega) (bd13 (by omega) (by omega)) (bd13 (by omega) (by omega))
          generalize Rat.divInt (d14 - 6) (1 + d15) = x at g16 sm16
          have hb16 := s16 _ _ hb15
          refine ⟨_, rfl, _, rfl, b, n15, rfl, hb16, fun p17 y n17 H17 s17 hb17 g17 sm17 _ _ => ?_⟩
          refine ⟨_, rfl, by show 3 ≤ sizeLine; decide, ?_⟩
          intro p18 n18
          obtain ⟨H18, q18, s18, e18⟩ := newO n18 (.tup [.ref p16, .ref p17, .int wt])
          rw [q18]
          clear q18
          have hb18 := s18 _ _ hb17
          have bt16 : But b H9 H16 := s10.trans ((But.of (s11.trans s12)).trans (s13.trans (s14.trans (s15.trans (But.of s16)))))
          have bt18 : But b H9 H18 := bt16.trans (s17.trans (But.of s18))
          have nt16 : NoT [b] H16 := NoT.lst hb16 NoT.nil
          have g16' : FQ K H18 p16 x := Kw.Same.tup s18 (Buts.tup (Buts.one s17 (List.mem_singleton.mpr rfl)) nt16 g16)
          have g17' : FQ K H18 p17 y := Kw.Same.tup s18 g17
          have B18 : But b H8 H18 := s9.trans bt18
          have nt8 : NoT [b] H8 := NoT.lst hb8 NoT.nil
          have BS18 : Buts [b] H8 H18 := Buts.one B18 (List.mem_singleton.mpr rfl)
          have hp18 := B18 _ _ (Ne.symm b3) hp8
          have al18 : Al2 (BdQ K H18 900) xs bs := BS18.bds nt8 al8
          have t18 : SqT K H18 p18 [.ref p16, .ref p17, .int wt] := SqT.of e18
          refine ⟨_, rfl, _, rfl, pb, xs, .ref p18, bs, (x, y, wt), rfl, hp18, al18, ⟨p18, p16, p17, rfl, t18, g16', g17', sm16.mono (by decide), sm17.mono (by decide)⟩, l6, by show -10000 < wt; omega, w1, fun r u q ys H19 s19 hr aq hq aly oq => ?_⟩
          refine ⟨r, _, rfl, hr, rfl, _, _, rfl, _, _, rfl, rfl, ?_⟩
          have hp19 := Kw.Same.tup s19 t18
          have g16'' := Kw.Same.tup s19 g16'
          have g17'' := Kw.Same.tup s19 g17'
          have shn : shB ((x, y, wt) : Bo) := ⟨(Sm.of sm16).sh, (Sm.of sm17).sh, lng_few (by show -100000 < wt; omega) (by show wt < 100000; omega)⟩
          refine ⟨rfl, _, rfl, p18, rfl, ⟨_, hp19⟩, lc_tup (K := K) (xs := [.ref p16, .ref p17, .int ((x, y, wt) : Bo).2.2]) (fun i ys H' => H' = H19 ∧ ys = ([frT ((x, y, wt) : Bo).1, frT ((x, y, wt) : Bo).2.1, nT ((x, y, wt) : Bo).2.2].take i).map V.str ∧ i ≤ 3) ⟨rfl, rfl, by omega⟩ (by rw [sizeLine_eq]; simp) (fun i ys H' ⟨_, e, l⟩ => by rw [e]; simp; omega) (fun i ys H' ⟨e, _⟩ => by rw [e]; exact hp19) ?_ ?_⟩
          · rintro i y ys H' Q' hy ⟨rfl, rfl, li⟩ kj
            match i, hy with
            | 0, hy => cases hy; exact ⟨_, rfl, _, ((x, y, wt) : Bo).1, rfl, .inr ⟨p16, rfl, g16''⟩, shn.1, kj _ _ ⟨rfl, rfl, by omega⟩⟩
            | 1, hy => cases hy; exact ⟨_, rfl, _, ((x, y, wt) : Bo).2.1, rfl, .inr ⟨p17, rfl, g17''⟩, shn.2.1, kj _ _ ⟨rfl, rfl, by omega⟩⟩
            | 2, hy =>
              cases hy
              refine ⟨_, rfl, _, (((x, y, wt) : Bo).2.2 : Rat), rfl, .inl ⟨_, rfl, rfl⟩, shF_int shn.2.2, ?_⟩
              rw [frT_int]
              exact kj _ _ ⟨rfl, rfl, by omega⟩
          rintro ys H' ⟨rfl, ey, _⟩
          replace ey : ys = [frT ((x, y, wt) : Bo).1, frT ((x, y, wt) : Bo).2.1, nT ((x, y, wt) : Bo).2.2].map V.str := ey
          subst ey
          intro p20 n20
          obtain ⟨H20, q20, s20, e20⟩ := newO n20 (.lst ([frT ((x, y, wt) : Bo).1, frT ((x, y, wt) : Bo).2.1, nT ((x, y, wt) : Bo).2.2].map V.str))
          rw [q20]
          clear q20
          refine ⟨Str.ofString " ", p20, [frT ((x, y, wt) : Bo).1, frT ((x, y, wt) : Bo).2.1, nT ((x, y, wt) : Bo).2.2], rfl, rfl, SqL.of e20, join_ok (row_part shn) (by show 3 * 204 + 3 * (Str.ofString " ").length ≤ 16777216; rw [sep_blank]; decide), ?_⟩
          have rl := rowT_len shn
          have e5' : (Str.ofString "body ").length = 5 := by decide +kernel
          refine ⟨Str.ofString "body ", rowT (x, y, wt), rfl, rfl, lz (a := 5) (b := 615) (by omega) rl (by decide), ?_⟩
          have s1920 := s19.trans s20
          refine hN _ _ ⟨u, _, ansB bs (x, y, wt), nowB bs (x, y, wt), q, ys, n17, _, _, _, rfl, bt18.trans (But.of s1920), s1920 _ _ hb18, .inl ⟨(x, y, wt), ⟨_, _, _, row_body, ⟨rfl, shn.1⟩, ⟨rfl, shn.2.1⟩, ⟨rfl, shn.2.2⟩, Sm.of sm16, Sm.of sm17, w0, w1⟩, rfl, rfl⟩, aq.same s20, s20 _ _ hq, bds_same aly s20, ?_, ?_, ?_, by rw [len_app]; omega⟩
          · intro c hc
            unfold nowB at hc
            split at hc
            · exact sh8 c hc
            · split at hc
              · exact sh8 c hc
              · split at hc
                · exact sh8 c hc
                · rcases put_mem hc with rfl | hc
                  · exact shn
                  · exact sh8 c hc
          · unfold nowB
            split
            · exact l6
            · split
              · exact l6
              · split
                · exact l6
                · unfold putB
                  have f1 := List.length_filter_le (fun c : Bo => decide (c.1 < x)) bs
                  have f2 : (lessB bs x).length + (moreB bs x).length ≤ bs.length := by
                    have z : ∀ l : List Bo, (lessB l x).length + (moreB l x).length ≤ l.length := fun l => by
                      induction l with
                      | nil => exact Nat.le_refl _
                      | cons c l ih =>
                        unfold lessB moreB at ih ⊢
                        rw [List.filter_cons, List.filter_cons]
                        by_cases h1 : c.1 < x
                        · rw [if_pos (decide_eq_true h1), if_neg (by rw [decide_eq_false (show ¬ x < c.1 by grind)]; decide)]
                          simp only [List.length_cons]
                          omega
                        · rw [if_neg (by rw [decide_eq_false h1]; decide)]
                          split
                          · simp only [List.length_cons]
                            omega
                          · simp only [List.length_cons]
                            omega
                    exact z bs
                  rw [List.length_append, List.length_cons]
                  show (lessB bs x).length + ((moreB bs x).length + 1) ≤ 6
                  omega
          · rcases oq with rfl | nq
            · exact b3
            · exact fun z => by rw [← z, hb18] at nq; cases nq
      · rintro σ' H10 ⟨w, z, an, cs, q, ys, n10, v10, v11, v12, rfl, s10, hb10, sq, aw, hq, aly, shc, lc6, bq, zl⟩
        have ok := an_ok sq.ok
        have dk9 : DeskAt H9 (C 7) d k1 bs := keep hb8 s9 dk8 b1
        have dk10 : DeskAt H10 (C 7) d k1 bs := keep hb9 s10 dk9 b1
        have BB10 : But b H8 H10 := s9.trans s10
        have nt8 : NoT [b] H8 := NoT.lst hb8 NoT.nil
        have BS10 : Buts [b] H8 H10 := Buts.one BB10 (List.mem_singleton.mpr rfl)
        have dk210 := dk28.buts BS10 nt8 (ne1 bd2) (ne1 b2')
        have S10 : Same H0 H10 := Buts.fresh S8 BS10 (fun z hz => by rw [List.mem_singleton.mp hz]; exact hb0)
        refine ⟨_, rfl, _, rfl, d, k1, bs, z, rfl, dk10, zl, said_any sq (fun v k3 H11 b11 ok3 dk11 aq11 => ?_)⟩
        have ntd : NoT [d] H10 := dk10.noT
        have bs11 : Buts [d] H10 H11 := Buts.one b11 (List.mem_singleton.mpr rfl)
        have aw11 : AnQ K H11 w an := by
          cases an with
          | txt z => exact aw
          | mark z => obtain ⟨p, e, g⟩ := aw; exact ⟨p, e, bs11.tup ntd g⟩
          | wld k => obtain ⟨p, e, g⟩ := aw; exact ⟨p, e, bs11.tup ntd g⟩
        have hb11 := b11 _ _ bd hb10
        obtain ⟨dxz, xsz, hdz, hkz, _⟩ := id dk10
        have qd : q ≠ d := fun y => by rw [y, hdz] at hq; cases hq
        have hq11 := b11 _ _ qd hq
        have aly11 := bs11.bds ntd aly
        have dk211 : DeskAt H11 (C 7) d2 k2 [bTwo] := dk210.buts bs11 ntd (by simp [Ne.symm dd2]) (by
          obtain ⟨_, _, _, hk, _⟩ := id dk210
          exact fun y => by rw [List.mem_singleton.mp y, hdz] at hk; cases hk)
        have S11 : Same H0 H11 := Buts.fresh S10 bs11 (fun y hy => by rw [List.mem_singleton.mp hy]; exact nd0)
        have bk3 : b ≠ k3 := by
          rcases ok3 with rfl | n3
          · exact b1
          · exact fun y => by rw [← y, hb10] at n3; cases n3
        refine ⟨_, rfl, anD an, aq11.dp, aw11.dp, ok.1, ok.2, _, rfl, iteF ?_⟩
        refine ⟨_, rfl, d, k3, cs, _, rfl, dk11, by decide +kernel, .inr (.inr (.inl ⟨rfl, fun v2 H12 s12 aq12 => ⟨_, rfl, q, ys, cs, rfl, s12 _ _ hq11, bds_same aly11 s12, shc, lc6, fun H13 s13 => ⟨anD (.txt (deskT cs)), (aq12.same s13).dp, .str _, (an_ok (a := .txt (deskT cs)) (Pln.desk cs)).1, rfl, _, rfl, iteF ?_⟩⟩⟩))⟩
        have s113 := s12.trans s13
        refine ⟨_, rfl, rfl, _, rfl, ?_⟩
        refine if_decI (fun c => ?_) (fun c => ?_)
        · refine ⟨_, rfl, d, k3, cs, _, rfl, dk11.same s113, by decide +kernel, .inr (.inr (.inr ⟨bad_row, fun v4 H14 s14 aq14 => ⟨by show 1 ≤ sizeLine; decide, ?_⟩⟩))⟩
          intro p15 n15
          obtain ⟨H15, q15, s15, e15⟩ := newO n15 (.tup [.str "row"])
          rw [q15]
          clear q15
          have okr := an_ok (a := .mark "row") (show Pln (Str.ofString "row") by unfold Pln; decide +kernel)
          refine ⟨anD (.mark "row"), (aq14.same s15).dp, .tup (SqT.of e15) (.cons (.str _) .nil), okr.1, okr.2, _, rfl, iteF ?_⟩
          have s115 := s113.trans (s14.trans s15)
          exact ⟨k3, k2, q, ys, cs, n10, _, _, _, _, _, _, _, rfl, S11.trans s115, s115 _ _ hb11, dk11.same s115, dk211.same s115, s115 _ _ hq11, bds_same aly11 s115, shc, bk3, b2', bq⟩
        · exact ⟨k3, k2, q, ys, cs, n10, _, _, _, _, _, _, _, rfl, S11.trans s113, s113 _ _ hb11, dk11.same s113, dk211.same s113, s113 _ _ hq11, bds_same aly11 s113, shc, bk3, b2', bq⟩
    · rintro σ1 H8 ⟨k1, k2, pb, xs, bs, n8, u6, u7, u8, u9, u10, u11, u12, rfl, S8, hb8, dk8, dk28, hp8, al8, sh8, b1, b2', b3⟩
      have l6 : bs.length ≤ 6 := by obtain ⟨_, _, _, _, _, _, z⟩ := id dk8; exact z
      refine ⟨_, rfl, d, k1, bs, _, rfl, dk8, by decide +kernel, .inr (.inr (.inl ⟨rfl, fun v2 H9 s9 aq9 => ⟨_, rfl, pb, xs, bs, rfl, s9 _ _ hp8, bds_same al8 s9, sh8, l6, fun H10 s10 => ⟨anD (.txt (deskT bs)), (aq9.same s10).dp, .str _, (an_ok (a := .txt (deskT bs)) (Pln.desk bs)).1, rfl, _, rfl, iteF ?_⟩⟩⟩))⟩
      have s810 := s9.trans s10
      obtain ⟨dxw, xsw, hdw, _⟩ := id (dk28.same s810)
      refine ⟨_, rfl, d2, _, _, rfl, hdw, rfl, d2, k2, [bTwo], _, rfl, dk28.same s810, by decide +kernel, .inr (.inr (.inl ⟨rfl, fun H11 s11 => ?_⟩))⟩
      refine ⟨rfl, _, rfl, ?_⟩
      rw [two_text]
      refine if_not (fun c => absurd rfl c) (fun _ => ?_)
      exact ⟨_, _, _, _, _, _, _, _, _, _, _, _, rfl, sm.trans (S8.trans (s810.trans s11))⟩
  · rintro σ0 H0 ⟨r1, r2, r3, r4, r5, r6, r7, r8, r9, r10, r11, r12, rfl, sm⟩
    exact fin _
end
theorem len1 {p : List Value → Prop} (h : ∀ x0, p [x0]) : ∀ us : List Value, us.length = 1 → p us := by
  intro us e
  cases us with
  | nil => exact absurd e (by show ¬ 0 = 1; decide)
  | cons x0 us =>
    cases us with
    | nil => exact h x0
    | cons y us => exact absurd e (by show ¬ us.length + 2 = 1; omega)
theorem len2 {p : List Value → Prop} (h : ∀ x0 x1, p [x0, x1]) : ∀ us : List Value, us.length = 2 → p us := by
  intro us e
  cases us with
  | nil => exact absurd e (by show ¬ 0 = 2; decide)
  | cons x0 us =>
    cases us with
    | nil => exact absurd e (by show ¬ 1 = 2; decide)
    | cons x1 us =>
      cases us with
      | nil => exact h x0 x1
      | cons y us => exact absurd e (by show ¬ us.length + 3 = 2; omega)
theorem len4 {p : List Value → Prop} (h : ∀ x0 x1 x2 x3, p [x0, x1, x2, x3]) : ∀ us : List Value, us.length = 4 → p us := by
  intro us e
  cases us with
  | nil => exact absurd e (by show ¬ 0 = 4; decide)
  | cons x0 us =>
    cases us with
    | nil => exact absurd e (by show ¬ 1 = 4; decide)
    | cons x1 us =>
      cases us with
      | nil => exact absurd e (by show ¬ 2 = 4; decide)
      | cons x2 us =>
        cases us with
        | nil => exact absurd e (by show ¬ 3 = 4; decide)
        | cons x3 us =>
          cases us with
          | nil => exact h x0 x1 x2 x3
          | cons y us => exact absurd e (by show ¬ us.length + 5 = 4; omega)
set_option maxHeartbeats 0 in
theorem all_mk {P : Program} {w : World} {K : PySem.W.Frag} {h : Heap} {mg : Str → Option Value} (X : K.In h) (G : h.Ns mainGlobals mg)
    {C_KnockError C_NoBody C_NoMoment C_NoNumber C_NoRow C_TooMany C_NoWorld C_Crowd C_Desk f0 f1 f2 f3 f4 f5 f6 f7 f8 f9 f10 f11 f12 f13 f14 f15 f16 f17 f18 f19 f20 f21 f22 f23 f24 f25 f26 f27 f28 f29 f30 f31 f32 f33 f34 f35 f36 f37 f38 f39 f40 f41 : Addr}
    {oc0 kV0 dc0 pm0 cd0 ct0 oc1 kV1 dc1 pm1 cd1 ct1 oc2 kV2 dc2 pm2 cd2 ct2 oc3 kV3 dc3 pm3 cd3 ct3 oc4 kV4 dc4 pm4 cd4 ct4 oc5 kV5 dc5 pm5 cd5 ct5 oc6 kV6 dc6 pm6 cd6 ct6 oc7 kV7 dc7 pm7 cd7 ct7 oc8 kV8 dc8 pm8 cd8 ct8 oc9 kV9 dc9 pm9 cd9 ct9 oc10 kV10 dc10 pm10 cd10 ct10 oc11 kV11 dc11 pm11 cd11 ct11 oc12 kV12 dc12 pm12 cd12 ct12 oc13 kV13 dc13 pm13 cd13 ct13 oc14 kV14 dc14 pm14 cd14 ct14 oc15 kV15 dc15 pm15 cd15 ct15 oc16 kV16 dc16 pm16 cd16 ct16 oc17 kV17 dc17 pm17 cd17 ct17 oc18 kV18 dc18 pm18 cd18 ct18 oc19 kV19 dc19 pm19 cd19 ct19 oc20 kV20 dc20 pm20 cd20 ct20 oc21 kV21 dc21 pm21 cd21 ct21 oc22 kV22 dc22 pm22 cd22 ct22 oc23 kV23 dc23 pm23 cd23 ct23 oc24 kV24 dc24 pm24 cd24 ct24 oc25 kV25 dc25 pm25 cd25 ct25 oc26 kV26 dc26 pm26 cd26 ct26 oc27 kV27 dc27 pm27 cd27 ct27 oc28 kV28 dc28 pm28 cd28 ct28 oc29 kV29 dc29 pm29 cd29 ct29 oc30 kV30 dc30 pm30 cd30 ct30 oc31 kV31 dc31 pm31 cd31 ct31 oc32 kV32 dc32 pm32 cd32 ct32 oc33 kV33 dc33 pm33 cd33 ct33 oc34 kV34 dc34 pm34 cd34 ct34 oc35 kV35 dc35 pm35 cd35 ct35 oc36 kV36 dc36 pm36 cd36 ct36 oc37 kV37 dc37 pm37 cd37 ct37 oc38 kV38 dc38 pm38 cd38 ct38 oc39 kV39 dc39 pm39 cd39 ct39 oc40 kV40 dc40 pm40 cd40 ct40 oc41 kV41 dc41 pm41 cd41 ct41 : Value}
    {od0 an0 od1 an1 od2 an2 od3 an3 od4 an4 od5 an5 od6 an6 od7 an7 od8 an8 od9 an9 od10 an10 od11 an11 od12 an12 od13 an13 od14 an14 od15 an15 od16 an16 od17 an17 od18 an18 od19 an19 od20 an20 od21 an21 od22 an22 od23 an23 od24 an24 od25 an25 od26 an26 od27 an27 od28 an28 od29 an29 od30 an30 od31 an31 od32 an32 od33 an33 od34 an34 od35 an35 od36 an36 od37 an37 od38 an38 od39 an39 od40 an40 od41 an41 : Option Addr}
    {sl0 sl1 sl2 sl3 sl4 sl5 sl6 sl7 sl8 sl9 sl10 sl11 sl12 sl13 sl14 sl15 sl16 sl17 sl18 sl19 sl20 sl21 sl22 sl23 sl24 sl25 sl26 sl27 sl28 sl29 sl30 sl31 sl32 sl33 sl34 sl35 sl36 sl37 sl38 sl39 sl40 sl41 : Array (Option Value)}
    {tk_LONG_BITS : Tok}
    {tk_MOST_WEIGHT : Tok}
    {tk_MOST_BODIES : Tok}
    {tk_MOST_FIGURES : Tok}
    {tk_MOST_KEPT : Tok}
    {tk_FIGURES : Tok}
    {A_NOUGHT : Addr} {oG_NOUGHT : Option Addr} {k1_NOUGHT k2_NOUGHT : Tok} {nG_NOUGHT : Nat} {slG_NOUGHT : Array (Option Value)}
    {tk_TOO_GREAT : Tok}
    {A_FORMS : Addr} {nF : Nat} {hF0 hF1 hF2 hF3 hF4 hF5 hF6 hF7 hF8 hF9 hF10 hF11 hF12 : Int} {tF0 tF1 tF2 tF3 tF4 tF5 tF6 tF7 tF8 tF9 tF10 tF11 tF12 : Tok} {aF0 aF1 aF2 aF3 aF4 aF5 aF6 aF7 aF8 aF9 aF10 aF11 aF12 : Addr}
    {oF0 : Option Addr} {mF0 : Nat} {sF0 : Array (Option Value)} {uF0_0 : Tok} {uF0_1 : Tok} {uF0_2 : Tok}
    {oF1 : Option Addr} {mF1 : Nat} {sF1 : Array (Option Value)}
    {oF2 : Option Addr} {mF2 : Nat} {sF2 : Array (Option Value)}
    {oF3 : Option Addr} {mF3 : Nat} {sF3 : Array (Option Value)} {uF3_0 : Tok} {uF3_1 : Tok}
    {oF4 : Option Addr} {mF4 : Nat} {sF4 : Array (Option Value)} {uF4_0 : Tok}
    {oF5 : Option Addr} {mF5 : Nat} {sF5 : Array (Option Value)} {uF5_0 : Tok}
    {oF6 : Option Addr} {mF6 : Nat} {sF6 : Array (Option Value)} {uF6_0 : Tok}
    {oF7 : Option Addr} {mF7 : Nat} {sF7 : Array (Option Value)} {uF7_0 : Tok}
    {oF8 : Option Addr} {mF8 : Nat} {sF8 : Array (Option Value)} {uF8_0 : Tok}
    {oF9 : Option Addr} {mF9 : Nat} {sF9 : Array (Option Value)} {uF9_0 : Tok}
    {oF10 : Option Addr} {mF10 : Nat} {sF10 : Array (Option Value)} {uF10_0 : Tok} {uF10_1 : Tok}
    {oF11 : Option Addr} {mF11 : Nat} {sF11 : Array (Option Value)}
    {oF12 : Option Addr} {mF12 : Nat} {sF12 : Array (Option Value)} {uF12_0 : Tok}
    (c_KnockError : PySem.W.nsIn K mainGlobals "KnockError" = some (some (.ref C_KnockError)))
    (c_NoBody : PySem.W.nsIn K mainGlobals "NoBody" = some (some (.ref C_NoBody)))
    (c_NoMoment : PySem.W.nsIn K mainGlobals "NoMoment" = some (some (.ref C_NoMoment)))
    (c_NoNumber : PySem.W.nsIn K mainGlobals "NoNumber" = some (some (.ref C_NoNumber)))
    (c_NoRow : PySem.W.nsIn K mainGlobals "NoRow" = some (some (.ref C_NoRow)))
    (c_TooMany : PySem.W.nsIn K mainGlobals "TooMany" = some (some (.ref C_TooMany)))
    (c_NoWorld : PySem.W.nsIn K mainGlobals "NoWorld" = some (some (.ref C_NoWorld)))
    (c_Crowd : PySem.W.nsIn K mainGlobals "Crowd" = some (some (.ref C_Crowd)))
    (c_Desk : PySem.W.nsIn K mainGlobals "Desk" = some (some (.ref C_Desk)))
    (b_isinstance : PySem.W.nsIn K mainGlobals "isinstance" = some none)
    (b_int : PySem.W.nsIn K mainGlobals "int" = some none)
    (b_bool : PySem.W.nsIn K mainGlobals "bool" = some none)
    (b_tuple : PySem.W.nsIn K mainGlobals "tuple" = some none)
    (b_list : PySem.W.nsIn K mainGlobals "list" = some none)
    (b_str : PySem.W.nsIn K mainGlobals "str" = some none)
    (b_abs : PySem.W.nsIn K mainGlobals "abs" = some none)
    (b_len : PySem.W.nsIn K mainGlobals "len" = some none)
    (b_divmod : PySem.W.nsIn K mainGlobals "divmod" = some none)
    (b_range : PySem.W.nsIn K mainGlobals "range" = some none)
    (b_max : PySem.W.nsIn K mainGlobals "max" = some none)
    (b_min : PySem.W.nsIn K mainGlobals "min" = some none)
    (b_reversed : PySem.W.nsIn K mainGlobals "reversed" = some none)
    (b_all : PySem.W.nsIn K mainGlobals "all" = some none)
    (b_ValueError : PySem.W.nsIn K mainGlobals "ValueError" = some none)
    (chk : chkN K C_KnockError (clsAt [C_NoBody, C_NoMoment, C_NoNumber, C_NoRow, C_TooMany, C_NoWorld, C_Crowd]) 7 5 = true)
    (rd : PySem.W.readsIn K C_KnockError (.type "type") = true)
    (fc : PySem.W.findCls K (.ref C_KnockError) (.type "type") "__init__" = some (.val (.builtin "ValueError.__init__")))
    (gs : PySem.W.specialIn K (.ref C_KnockError) "__getattribute__" = some (some (.builtin "type.__getattribute__")))
    (n_NoWorld_at : PySem.W.findIn K (.ref C_NoWorld) "at" = some none)
    (n_Crowd_moment : PySem.W.findIn K (.ref C_Crowd) "moment" = some none)
    (n_Crowd_place : PySem.W.findIn K (.ref C_Crowd) "place" = some none)
    (n_Crowd_numbers : PySem.W.findIn K (.ref C_Crowd) "numbers" = some none)
    (s_NoBody_KnockError : PySem.W.subIn K (.ref C_NoBody) (.ref C_KnockError) = some true)
    (s_NoRow_KnockError : PySem.W.subIn K (.ref C_NoRow) (.ref C_KnockError) = some true)
    (s_TooMany_KnockError : PySem.W.subIn K (.ref C_TooMany) (.ref C_KnockError) = some true)
    (s_NoWorld_KnockError : PySem.W.subIn K (.ref C_NoWorld) (.ref C_KnockError) = some true)
    (pg_Desk : PySem.W.plainGet K C_Desk Str.empty = true)
    (hd_Desk : PySem.W.hasDictIn K C_Desk = true)
    (po_Desk : PySem.W.plainOver K C_Desk = true)
    (sa_Desk : PySem.W.findIn K (.ref C_Desk) "__setattr__" = some (some (.builtin "object.__setattr__")))
    (mk_Desk : PySem.W.makesIn K C_Desk = true)
    (kp_Desk : PySem.W.keepIn K (.ref C_Desk) = true)
    (n_Desk_kept : PySem.W.findIn K (.ref C_Desk) "kept" = some none)
    (i_LONG_BITS : PySem.W.nsIn K mainGlobals "LONG_BITS" = some (some (.int 4000 tk_LONG_BITS)))
    (i_MOST_WEIGHT : PySem.W.nsIn K mainGlobals "MOST_WEIGHT" = some (some (.int 1000 tk_MOST_WEIGHT)))
    (i_MOST_BODIES : PySem.W.nsIn K mainGlobals "MOST_BODIES" = some (some (.int 12 tk_MOST_BODIES)))
    (i_MOST_FIGURES : PySem.W.nsIn K mainGlobals "MOST_FIGURES" = some (some (.int 100 tk_MOST_FIGURES)))
    (i_MOST_KEPT : PySem.W.nsIn K mainGlobals "MOST_KEPT" = some (some (.int 6 tk_MOST_KEPT)))
    (i_FIGURES : PySem.W.nsIn K mainGlobals "FIGURES" = some (some (.str "0123456789" tk_FIGURES)))
    (c_NOUGHT : PySem.W.nsIn K mainGlobals "NOUGHT" = some (some (.ref A_NOUGHT)))
    (z_NOUGHT : K.lookup A_NOUGHT = some ⟨.type "tuple", oG_NOUGHT, .seq #[.int 0 k1_NOUGHT, .int 1 k2_NOUGHT] nG_NOUGHT, slG_NOUGHT⟩)
    (i_TOO_GREAT : PySem.W.nsIn K mainGlobals "TOO_GREAT" = some (some (.int 10000 tk_TOO_GREAT)))
    (c_FORMS : PySem.W.nsIn K mainGlobals "FORMS" = some (some (.ref A_FORMS)))
    (l_FORMS : K.lookup A_FORMS = some ⟨.type "dict", none, .dict #[⟨hF0, .str "body" tF0, .ref aF0⟩, ⟨hF1, .str "clear" tF1, .ref aF1⟩, ⟨hF2, .str "world" tF2, .ref aF2⟩, ⟨hF3, .str "meet" tF3, .ref aF3⟩, ⟨hF4, .str "run" tF4, .ref aF4⟩, ⟨hF5, .str "at" tF5, .ref aF5⟩, ⟨hF6, .str "back" tF6, .ref aF6⟩, ⟨hF7, .str "likes" tF7, .ref aF7⟩, ⟨hF8, .str "round" tF8, .ref aF8⟩, ⟨hF9, .str "wall" tF9, .ref aF9⟩, ⟨hF10, .str "count" tF10, .ref aF10⟩, ⟨hF11, .str "stuck" tF11, .ref aF11⟩, ⟨hF12, .str "clumps" tF12, .ref aF12⟩] nF, #[]⟩)
    (y_FORMS : PySem.W.KeysLit w.params [⟨hF0, .str "body" tF0, .ref aF0⟩, ⟨hF1, .str "clear" tF1, .ref aF1⟩, ⟨hF2, .str "world" tF2, .ref aF2⟩, ⟨hF3, .str "meet" tF3, .ref aF3⟩, ⟨hF4, .str "run" tF4, .ref aF4⟩, ⟨hF5, .str "at" tF5, .ref aF5⟩, ⟨hF6, .str "back" tF6, .ref aF6⟩, ⟨hF7, .str "likes" tF7, .ref aF7⟩, ⟨hF8, .str "round" tF8, .ref aF8⟩, ⟨hF9, .str "wall" tF9, .ref aF9⟩, ⟨hF10, .str "count" tF10, .ref aF10⟩, ⟨hF11, .str "stuck" tF11, .ref aF11⟩, ⟨hF12, .str "clumps" tF12, .ref aF12⟩])
    (d_FORMS : (A_FORMS == sysModules) = false)
    (z0_FORMS : K.lookup aF0 = some ⟨.type "tuple", oF0, .seq #[.str "fraction" uF0_0, .str "fraction" uF0_1, .str "number" uF0_2] mF0, sF0⟩)
    (z1_FORMS : K.lookup aF1 = some ⟨.type "tuple", oF1, .seq #[] mF1, sF1⟩)
    (z2_FORMS : K.lookup aF2 = some ⟨.type "tuple", oF2, .seq #[] mF2, sF2⟩)
    (z3_FORMS : K.lookup aF3 = some ⟨.type "tuple", oF3, .seq #[.str "number" uF3_0, .str "number" uF3_1] mF3, sF3⟩)
    (z4_FORMS : K.lookup aF4 = some ⟨.type "tuple", oF4, .seq #[.str "number" uF4_0] mF4, sF4⟩)
    (z5_FORMS : K.lookup aF5 = some ⟨.type "tuple", oF5, .seq #[.str "fraction" uF5_0] mF5, sF5⟩)
    (z6_FORMS : K.lookup aF6 = some ⟨.type "tuple", oF6, .seq #[.str "fraction" uF6_0] mF6, sF6⟩)
    (z7_FORMS : K.lookup aF7 = some ⟨.type "tuple", oF7, .seq #[.str "fraction" uF7_0] mF7, sF7⟩)
    (z8_FORMS : K.lookup aF8 = some ⟨.type "tuple", oF8, .seq #[.str "length" uF8_0] mF8, sF8⟩)
    (z9_FORMS : K.lookup aF9 = some ⟨.type "tuple", oF9, .seq #[.str "number" uF9_0] mF9, sF9⟩)
    (z10_FORMS : K.lookup aF10 = some ⟨.type "tuple", oF10, .seq #[.str "number" uF10_0, .str "number" uF10_1] mF10, sF10⟩)
    (z11_FORMS : K.lookup aF11 = some ⟨.type "tuple", oF11, .seq #[] mF11, sF11⟩)
    (z12_FORMS : K.lookup aF12 = some ⟨.type "tuple", oF12, .seq #[.str "fraction" uF12_0] mF12, sF12⟩)
    (x_KnockError : PySem.W.excIn K C_KnockError [.type "ValueError", .type "Exception", .type "BaseException", .type "object"] "ValueError.__new__" = true)
    (a0 : PySem.W.findIn K (.ref C_NoWorld) "__init__" = some (some (.ref f0)))
    (t0 : PySem.W.typeIn K (.ref f0) = some (.type "function"))
    (l0 : K.lookup f0 = some ⟨oc0, od0, .func (PySem.W.fnOf "__init__" "NoWorld.__init__" (defArgs (mthOf (top 8))) (defBody (mthOf (top 8))) (defScope (mthOf (top 8))) .none kV0 dc0 pm0 an0 cd0 ct0), sl0⟩)
    (q0 : PySem.W.codeIn K cd0 "NoWorld.__init__" = true)
    (a1 : PySem.W.findIn K (.ref C_Crowd) "__init__" = some (some (.ref f1)))
    (t1 : PySem.W.typeIn K (.ref f1) = some (.type "function"))
    (l1 : K.lookup f1 = some ⟨oc1, od1, .func (PySem.W.fnOf "__init__" "Crowd.__init__" (defArgs (mthOf (top 9))) (defBody (mthOf (top 9))) (defScope (mthOf (top 9))) .none kV1 dc1 pm1 an1 cd1 ct1), sl1⟩)
    (q1 : PySem.W.codeIn K cd1 "Crowd.__init__" = true)
    (a2 : PySem.W.nsIn K mainGlobals "is_whole" = some (some (.ref f2)))
    (l2 : K.lookup f2 = some ⟨oc2, od2, .func (PySem.W.fnOf "is_whole" "is_whole" (defArgs (top 13)) (defBody (top 13)) (defScope (top 13)) .none kV2 dc2 pm2 an2 cd2 ct2), sl2⟩)
    (q2 : PySem.W.codeIn K cd2 "is_whole" = true)
    (k2 : PySem.W.keepIn K (.ref f2) = true)
    (a3 : PySem.W.nsIn K mainGlobals "common_divisor" = some (some (.ref f3)))
    (l3 : K.lookup f3 = some ⟨oc3, od3, .func (PySem.W.fnOf "common_divisor" "common_divisor" (defArgs (top 15)) (defBody (top 15)) (defScope (top 15)) .none kV3 dc3 pm3 an3 cd3 ct3), sl3⟩)
    (q3 : PySem.W.codeIn K cd3 "common_divisor" = true)
    (k3 : PySem.W.keepIn K (.ref f3) = true)
    (a4 : PySem.W.nsIn K mainGlobals "under" = some (some (.ref f4)))
    (l4 : K.lookup f4 = some ⟨oc4, od4, .func (PySem.W.fnOf "under" "under" (defArgs (top 22)) (defBody (top 22)) (defScope (top 22)) .none kV4 dc4 pm4 an4 cd4 ct4), sl4⟩)
    (q4 : PySem.W.codeIn K cd4 "under" = true)
    (k4 : PySem.W.keepIn K (.ref f4) = true)
    (a5 : PySem.W.nsIn K mainGlobals "read_whole" = some (some (.ref f5)))
    (l5 : K.lookup f5 = some ⟨oc5, od5, .func (PySem.W.fnOf "read_whole" "read_whole" (defArgs (top 105)) (defBody (top 105)) (defScope (top 105)) .none kV5 dc5 pm5 an5 cd5 ct5), sl5⟩)
    (q5 : PySem.W.codeIn K cd5 "read_whole" = true)
    (k5 : PySem.W.keepIn K (.ref f5) = true)
    (a6 : PySem.W.nsIn K mainGlobals "read_fraction" = some (some (.ref f6)))
    (l6 : K.lookup f6 = some ⟨oc6, od6, .func (PySem.W.fnOf "read_fraction" "read_fraction" (defArgs (top 106)) (defBody (top 106)) (defScope (top 106)) .none kV6 dc6 pm6 an6 cd6 ct6), sl6⟩)
    (q6 : PySem.W.codeIn K cd6 "read_fraction" = true)
    (k6 : PySem.W.keepIn K (.ref f6) = true)
    (a7 : PySem.W.nsIn K mainGlobals "is_fraction" = some (some (.ref f7)))
    (l7 : K.lookup f7 = some ⟨oc7, od7, .func (PySem.W.fnOf "is_fraction" "is_fraction" (defArgs (top 16)) (defBody (top 16)) (defScope (top 16)) .none kV7 dc7 pm7 an7 cd7 ct7), sl7⟩)
    (q7 : PySem.W.codeIn K cd7 "is_fraction" = true)
    (k7 : PySem.W.keepIn K (.ref f7) = true)
    (a8 : PySem.W.nsIn K mainGlobals "is_short" = some (some (.ref f8)))
    (l8 : K.lookup f8 = some ⟨oc8, od8, .func (PySem.W.fnOf "is_short" "is_short" (defArgs (top 111)) (defBody (top 111)) (defScope (top 111)) .none kV8 dc8 pm8 an8 cd8 ct8), sl8⟩)
    (q8 : PySem.W.codeIn K cd8 "is_short" = true)
    (k8 : PySem.W.keepIn K (.ref f8) = true)
    (a9 : PySem.W.nsIn K mainGlobals "is_fitting" = some (some (.ref f9)))
    (l9 : K.lookup f9 = some ⟨oc9, od9, .func (PySem.W.fnOf "is_fitting" "is_fitting" (defArgs (top 112)) (defBody (top 112)) (defScope (top 112)) .none kV9 dc9 pm9 an9 cd9 ct9), sl9⟩)
    (q9 : PySem.W.codeIn K cd9 "is_fitting" = true)
    (k9 : PySem.W.keepIn K (.ref f9) = true)
    (a10 : PySem.W.nsIn K mainGlobals "value_of" = some (some (.ref f10)))
    (l10 : K.lookup f10 = some ⟨oc10, od10, .func (PySem.W.fnOf "value_of" "value_of" (defArgs (top 113)) (defBody (top 113)) (defScope (top 113)) .none kV10 dc10 pm10 an10 cd10 ct10), sl10⟩)
    (q10 : PySem.W.codeIn K cd10 "value_of" = true)
    (k10 : PySem.W.keepIn K (.ref f10) = true)
    (a11 : PySem.W.nsIn K mainGlobals "values_of" = some (some (.ref f11)))
    (l11 : K.lookup f11 = some ⟨oc11, od11, .func (PySem.W.fnOf "values_of" "values_of" (defArgs (top 114)) (defBody (top 114)) (defScope (top 114)) .none kV11 dc11 pm11 an11 cd11 ct11), sl11⟩)
    (q11 : PySem.W.codeIn K cd11 "values_of" = true)
    (k11 : PySem.W.keepIn K (.ref f11) = true)
    (a12 : PySem.W.nsIn K mainGlobals "read_row" = some (some (.ref f12)))
    (l12 : K.lookup f12 = some ⟨oc12, od12, .func (PySem.W.fnOf "read_row" "read_row" (defArgs (top 116)) (defBody (top 116)) (defScope (top 116)) .none kV12 dc12 pm12 an12 cd12 ct12), sl12⟩)
    (q12 : PySem.W.codeIn K cd12 "read_row" = true)
    (k12 : PySem.W.keepIn K (.ref f12) = true)
    (a13 : PySem.W.nsIn K mainGlobals "is_weight" = some (some (.ref f13)))
    (l13 : K.lookup f13 = some ⟨oc13, od13, .func (PySem.W.fnOf "is_weight" "is_weight" (defArgs (top 94)) (defBody (top 94)) (defScope (top 94)) .none kV13 dc13 pm13 an13 cd13 ct13), sl13⟩)
    (q13 : PySem.W.codeIn K cd13 "is_weight" = true)
    (k13 : PySem.W.keepIn K (.ref f13) = true)
    (a14 : PySem.W.nsIn K mainGlobals "is_body" = some (some (.ref f14)))
    (l14 : K.lookup f14 = some ⟨oc14, od14, .func (PySem.W.fnOf "is_body" "is_body" (defArgs (top 95)) (defBody (top 95)) (defScope (top 95)) .none kV14 dc14 pm14 an14 cd14 ct14), sl14⟩)
    (q14 : PySem.W.codeIn K cd14 "is_body" = true)
    (k14 : PySem.W.keepIn K (.ref f14) = true)
    (a15 : PySem.W.nsIn K mainGlobals "are_bodies" = some (some (.ref f15)))
    (l15 : K.lookup f15 = some ⟨oc15, od15, .func (PySem.W.fnOf "are_bodies" "are_bodies" (defArgs (top 96)) (defBody (top 96)) (defScope (top 96)) .none kV15 dc15 pm15 an15 cd15 ct15), sl15⟩)
    (q15 : PySem.W.codeIn K cd15 "are_bodies" = true)
    (k15 : PySem.W.keepIn K (.ref f15) = true)
    (a16 : PySem.W.nsIn K mainGlobals "spot_for" = some (some (.ref f16)))
    (l16 : K.lookup f16 = some ⟨oc16, od16, .func (PySem.W.fnOf "spot_for" "spot_for" (defArgs (top 98)) (defBody (top 98)) (defScope (top 98)) .none kV16 dc16 pm16 an16 cd16 ct16), sl16⟩)
    (q16 : PySem.W.codeIn K cd16 "spot_for" = true)
    (k16 : PySem.W.keepIn K (.ref f16) = true)
    (a17 : PySem.W.nsIn K mainGlobals "by_places" = some (some (.ref f17)))
    (l17 : K.lookup f17 = some ⟨oc17, od17, .func (PySem.W.fnOf "by_places" "by_places" (defArgs (top 99)) (defBody (top 99)) (defScope (top 99)) .none kV17 dc17 pm17 an17 cd17 ct17), sl17⟩)
    (q17 : PySem.W.codeIn K cd17 "by_places" = true)
    (k17 : PySem.W.keepIn K (.ref f17) = true)
    (a18 : PySem.W.nsIn K mainGlobals "first_misplaced" = some (some (.ref f18)))
    (l18 : K.lookup f18 = some ⟨oc18, od18, .func (PySem.W.fnOf "first_misplaced" "first_misplaced" (defArgs (top 97)) (defBody (top 97)) (defScope (top 97)) .none kV18 dc18 pm18 an18 cd18 ct18), sl18⟩)
    (q18 : PySem.W.codeIn K cd18 "first_misplaced" = true)
    (k18 : PySem.W.keepIn K (.ref f18) = true)
    (a19 : PySem.W.nsIn K mainGlobals "numbered" = some (some (.ref f19)))
    (l19 : K.lookup f19 = some ⟨oc19, od19, .func (PySem.W.fnOf "numbered" "numbered" (defArgs (top 100)) (defBody (top 100)) (defScope (top 100)) .none kV19 dc19 pm19 an19 cd19 ct19), sl19⟩)
    (q19 : PySem.W.codeIn K cd19 "numbered" = true)
    (k19 : PySem.W.keepIn K (.ref f19) = true)
    (a20 : PySem.W.nsIn K mainGlobals "with_body" = some (some (.ref f20)))
    (l20 : K.lookup f20 = some ⟨oc20, od20, .func (PySem.W.fnOf "with_body" "with_body" (defArgs (top 121)) (defBody (top 121)) (defScope (top 121)) .none kV20 dc20 pm20 an20 cd20 ct20), sl20⟩)
    (q20 : PySem.W.codeIn K cd20 "with_body" = true)
    (k20 : PySem.W.keepIn K (.ref f20) = true)
    (a21 : PySem.W.nsIn K mainGlobals "figures" = some (some (.ref f21)))
    (l21 : K.lookup f21 = some ⟨oc21, od21, .func (PySem.W.fnOf "figures" "figures" (defArgs (top 23)) (defBody (top 23)) (defScope (top 23)) .none kV21 dc21 pm21 an21 cd21 ct21), sl21⟩)
    (q21 : PySem.W.codeIn K cd21 "figures" = true)
    (k21 : PySem.W.keepIn K (.ref f21) = true)
    (a22 : PySem.W.nsIn K mainGlobals "shown" = some (some (.ref f22)))
    (l22 : K.lookup f22 = some ⟨oc22, od22, .func (PySem.W.fnOf "shown" "shown" (defArgs (top 24)) (defBody (top 24)) (defScope (top 24)) .none kV22 dc22 pm22 an22 cd22 ct22), sl22⟩)
    (q22 : PySem.W.codeIn K cd22 "shown" = true)
    (k22 : PySem.W.keepIn K (.ref f22) = true)
    (a23 : PySem.W.nsIn K mainGlobals "is_long" = some (some (.ref f23)))
    (l23 : K.lookup f23 = some ⟨oc23, od23, .func (PySem.W.fnOf "is_long" "is_long" (defArgs (top 104)) (defBody (top 104)) (defScope (top 104)) .none kV23 dc23 pm23 an23 cd23 ct23), sl23⟩)
    (q23 : PySem.W.codeIn K cd23 "is_long" = true)
    (k23 : PySem.W.keepIn K (.ref f23) = true)
    (a24 : PySem.W.nsIn K mainGlobals "number_word" = some (some (.ref f24)))
    (l24 : K.lookup f24 = some ⟨oc24, od24, .func (PySem.W.fnOf "number_word" "number_word" (defArgs (top 122)) (defBody (top 122)) (defScope (top 122)) .none kV24 dc24 pm24 an24 cd24 ct24), sl24⟩)
    (q24 : PySem.W.codeIn K cd24 "number_word" = true)
    (k24 : PySem.W.keepIn K (.ref f24) = true)
    (a25 : PySem.W.nsIn K mainGlobals "words_of" = some (some (.ref f25)))
    (l25 : K.lookup f25 = some ⟨oc25, od25, .func (PySem.W.fnOf "words_of" "words_of" (defArgs (top 123)) (defBody (top 123)) (defScope (top 123)) .none kV25 dc25 pm25 an25 cd25 ct25), sl25⟩)
    (q25 : PySem.W.codeIn K cd25 "words_of" = true)
    (k25 : PySem.W.keepIn K (.ref f25) = true)
    (a26 : PySem.W.nsIn K mainGlobals "list_words" = some (some (.ref f26)))
    (l26 : K.lookup f26 = some ⟨oc26, od26, .func (PySem.W.fnOf "list_words" "list_words" (defArgs (top 124)) (defBody (top 124)) (defScope (top 124)) .none kV26 dc26 pm26 an26 cd26 ct26), sl26⟩)
    (q26 : PySem.W.codeIn K cd26 "list_words" = true)
    (k26 : PySem.W.keepIn K (.ref f26) = true)
    (a27 : PySem.W.findIn K (.ref C_Desk) "__init__" = some (some (.ref f27)))
    (t27 : PySem.W.isFn K (.ref f27) = true)
    (l27 : K.lookup f27 = some ⟨oc27, od27, .func (PySem.W.fnOf "__init__" "Desk.__init__" (defArgs (mthAt (top 130) 0)) (defBody (mthAt (top 130) 0)) (defScope (mthAt (top 130) 0)) .none kV27 dc27 pm27 an27 cd27 ct27), sl27⟩)
    (q27 : PySem.W.codeIn K cd27 "Desk.__init__" = true)
    (k27 : PySem.W.keepIn K (.ref f27) = true)
    (a28 : PySem.W.findIn K (.ref C_Desk) "say" = some (some (.ref f28)))
    (t28 : PySem.W.isFn K (.ref f28) = true)
    (l28 : K.lookup f28 = some ⟨oc28, od28, .func (PySem.W.fnOf "say" "Desk.say" (defArgs (mthAt (top 130) 1)) (defBody (mthAt (top 130) 1)) (defScope (mthAt (top 130) 1)) .none kV28 dc28 pm28 an28 cd28 ct28), sl28⟩)
    (q28 : PySem.W.codeIn K cd28 "Desk.say" = true)
    (k28 : PySem.W.keepIn K (.ref f28) = true)
    (a29 : PySem.W.nsIn K mainGlobals "_law_mark" = some (some (.ref f29)))
    (l29 : K.lookup f29 = some ⟨oc29, od29, .func (PySem.W.fnOf "_law_mark" "_law_mark" (defArgs (top 139)) (defBody (top 139)) (defScope (top 139)) .none kV29 dc29 pm29 an29 cd29 ct29), sl29⟩)
    (q29 : PySem.W.codeIn K cd29 "_law_mark" = true)
    (k29 : PySem.W.keepIn K (.ref f29) = true)
    (a30 : PySem.W.nsIn K mainGlobals "_law_said" = some (some (.ref f30)))
    (l30 : K.lookup f30 = some ⟨oc30, od30, .func (PySem.W.fnOf "_law_said" "_law_said" (defArgs (top 140)) (defBody (top 140)) (defScope (top 140)) .none kV30 dc30 pm30 an30 cd30 ct30), sl30⟩)
    (q30 : PySem.W.codeIn K cd30 "_law_said" = true)
    (k30 : PySem.W.keepIn K (.ref f30) = true)
    (a31 : PySem.W.nsIn K mainGlobals "_law_cell" = some (some (.ref f31)))
    (l31 : K.lookup f31 = some ⟨oc31, od31, .func (PySem.W.fnOf "_law_cell" "_law_cell" (defArgs (top 132)) (defBody (top 132)) (defScope (top 132)) .none kV31 dc31 pm31 an31 cd31 ct31), sl31⟩)
    (q31 : PySem.W.codeIn K cd31 "_law_cell" = true)
    (k31 : PySem.W.keepIn K (.ref f31) = true)
    (a32 : PySem.W.nsIn K mainGlobals "_law_mix" = some (some (.ref f32)))
    (l32 : K.lookup f32 = some ⟨oc32, od32, .func (PySem.W.fnOf "_law_mix" "_law_mix" (defArgs (top 133)) (defBody (top 133)) (defScope (top 133)) .none kV32 dc32 pm32 an32 cd32 ct32), sl32⟩)
    (q32 : PySem.W.codeIn K cd32 "_law_mix" = true)
    (k32 : PySem.W.keepIn K (.ref f32) = true)
    (a33 : PySem.W.nsIn K mainGlobals "_law_box" = some (some (.ref f33)))
    (l33 : K.lookup f33 = some ⟨oc33, od33, .func (PySem.W.fnOf "_law_box" "_law_box" (defArgs (top 134)) (defBody (top 134)) (defScope (top 134)) .none kV33 dc33 pm33 an33 cd33 ct33), sl33⟩)
    (q33 : PySem.W.codeIn K cd33 "_law_box" = true)
    (k33 : PySem.W.keepIn K (.ref f33) = true)
    (a34 : PySem.W.nsIn K mainGlobals "_law_take" = some (some (.ref f34)))
    (l34 : K.lookup f34 = some ⟨oc34, od34, .func (PySem.W.fnOf "_law_take" "_law_take" (defArgs (top 135)) (defBody (top 135)) (defScope (top 135)) .none kV34 dc34 pm34 an34 cd34 ct34), sl34⟩)
    (q34 : PySem.W.codeIn K cd34 "_law_take" = true)
    (k34 : PySem.W.keepIn K (.ref f34) = true)
    (a35 : PySem.W.nsIn K mainGlobals "_law_fit" = some (some (.ref f35)))
    (l35 : K.lookup f35 = some ⟨oc35, od35, .func (PySem.W.fnOf "_law_fit" "_law_fit" (defArgs (top 136)) (defBody (top 136)) (defScope (top 136)) .none kV35 dc35 pm35 an35 cd35 ct35), sl35⟩)
    (q35 : PySem.W.codeIn K cd35 "_law_fit" = true)
    (k35 : PySem.W.keepIn K (.ref f35) = true)
    (a36 : PySem.W.nsIn K mainGlobals "_law_less" = some (some (.ref f36)))
    (l36 : K.lookup f36 = some ⟨oc36, od36, .func (PySem.W.fnOf "_law_less" "_law_less" (defArgs (top 137)) (defBody (top 137)) (defScope (top 137)) .none kV36 dc36 pm36 an36 cd36 ct36), sl36⟩)
    (q36 : PySem.W.codeIn K cd36 "_law_less" = true)
    (k36 : PySem.W.keepIn K (.ref f36) = true)
    (a37 : PySem.W.nsIn K mainGlobals "_law_word" = some (some (.ref f37)))
    (l37 : K.lookup f37 = some ⟨oc37, od37, .func (PySem.W.fnOf "_law_word" "_law_word" (defArgs (top 141)) (defBody (top 141)) (defScope (top 141)) .none kV37 dc37 pm37 an37 cd37 ct37), sl37⟩)
    (q37 : PySem.W.codeIn K cd37 "_law_word" = true)
    (k37 : PySem.W.keepIn K (.ref f37) = true)
    (a38 : PySem.W.nsIn K mainGlobals "_law_text" = some (some (.ref f38)))
    (l38 : K.lookup f38 = some ⟨oc38, od38, .func (PySem.W.fnOf "_law_text" "_law_text" (defArgs (top 142)) (defBody (top 142)) (defScope (top 142)) .none kV38 dc38 pm38 an38 cd38 ct38), sl38⟩)
    (q38 : PySem.W.codeIn K cd38 "_law_text" = true)
    (k38 : PySem.W.keepIn K (.ref f38) = true)
    (a39 : PySem.W.nsIn K mainGlobals "_law_put" = some (some (.ref f39)))
    (l39 : K.lookup f39 = some ⟨oc39, od39, .func (PySem.W.fnOf "_law_put" "_law_put" (defArgs (top 143)) (defBody (top 143)) (defScope (top 143)) .none kV39 dc39 pm39 an39 cd39 ct39), sl39⟩)
    (q39 : PySem.W.codeIn K cd39 "_law_put" = true)
    (k39 : PySem.W.keepIn K (.ref f39) = true)
    (a40 : PySem.W.nsIn K mainGlobals "_law_small" = some (some (.ref f40)))
    (l40 : K.lookup f40 = some ⟨oc40, od40, .func (PySem.W.fnOf "_law_small" "_law_small" (defArgs (top 138)) (defBody (top 138)) (defScope (top 138)) .none kV40 dc40 pm40 an40 cd40 ct40), sl40⟩)
    (q40 : PySem.W.codeIn K cd40 "_law_small" = true)
    (k40 : PySem.W.keepIn K (.ref f40) = true)
    (a41 : PySem.W.nsIn K mainGlobals "law" = some (some (.ref f41)))
    (l41 : K.lookup f41 = some ⟨oc41, od41, .func (PySem.W.fnOf "law" "law" (defArgs (top 144)) (defBody (top 144)) (defScope (top 144)) .none kV41 dc41 pm41 an41 cd41 ct41), sl41⟩)
    (q41 : PySem.W.codeIn K cd41 "law" = true)
    (k41 : PySem.W.keepIn K (.ref f41) = true) :
    ∃ fa, mg "law" = some (.ref fa) ∧ ∃ fd : FuncData, (∀ (s : Shared) (u : Value), BindsTo s fd ⟨[u], []⟩ [("script", u)]) ∧ ∀ base : Heap, K.In base → base.Ns mainGlobals mg → FnOk P w K mg base (CXE P w) 9 fa fd ["script"] (spLaw K) := by
  have T : Tx K mg C_KnockError (clsAt [C_NoBody, C_NoMoment, C_NoNumber, C_NoRow, C_TooMany, C_NoWorld, C_Crowd, C_Desk]) w := ⟨PySem.W.mg_none_of X G b_isinstance, PySem.W.mg_none_of X G b_int, PySem.W.mg_none_of X G b_bool, PySem.W.mg_none_of X G b_tuple, PySem.W.mg_none_of X G b_list, PySem.W.mg_none_of X G b_str, PySem.W.mg_none_of X G b_abs, PySem.W.mg_none_of X G b_len, PySem.W.mg_none_of X G b_divmod, PySem.W.mg_none_of X G b_range, PySem.W.mg_none_of X G b_max, PySem.W.mg_none_of X G b_min, PySem.W.mg_none_of X G b_reversed, PySem.W.mg_none_of X G b_all, PySem.W.mg_none_of X G b_ValueError, PySem.W.mg_of X G c_KnockError, PySem.W.mg_of X G c_NoBody, PySem.W.mg_of X G c_NoMoment, PySem.W.mg_of X G c_NoNumber, PySem.W.mg_of X G c_NoRow, PySem.W.mg_of X G c_TooMany, PySem.W.mg_of X G c_NoWorld, PySem.W.mg_of X G c_Crowd, refs_ok chk, rd, fc, gs, n_NoWorld_at, n_Crowd_moment, n_Crowd_place, n_Crowd_numbers, s_NoBody_KnockError, s_NoRow_KnockError, s_TooMany_KnockError, s_NoWorld_KnockError, PySem.W.mg_of X G c_Desk, ⟨pg_Desk, hd_Desk, po_Desk, sa_Desk⟩, mk_Desk, kp_Desk, n_Desk_kept, ⟨_, PySem.W.mg_of X G i_LONG_BITS⟩, ⟨_, PySem.W.mg_of X G i_MOST_WEIGHT⟩, ⟨_, PySem.W.mg_of X G i_MOST_BODIES⟩, ⟨_, PySem.W.mg_of X G i_MOST_FIGURES⟩, ⟨_, PySem.W.mg_of X G i_MOST_KEPT⟩, ⟨_, PySem.W.mg_of X G i_FIGURES⟩, ⟨_, PySem.W.mg_of X G c_NOUGHT, sqt_const z_NOUGHT⟩, ⟨_, PySem.W.mg_of X G i_TOO_GREAT⟩, ⟨_, PySem.W.mg_of X G c_FORMS, forms_ok (es := [⟨hF0, .str "body" tF0, .ref aF0⟩, ⟨hF1, .str "clear" tF1, .ref aF1⟩, ⟨hF2, .str "world" tF2, .ref aF2⟩, ⟨hF3, .str "meet" tF3, .ref aF3⟩, ⟨hF4, .str "run" tF4, .ref aF4⟩, ⟨hF5, .str "at" tF5, .ref aF5⟩, ⟨hF6, .str "back" tF6, .ref aF6⟩, ⟨hF7, .str "likes" tF7, .ref aF7⟩, ⟨hF8, .str "round" tF8, .ref aF8⟩, ⟨hF9, .str "wall" tF9, .ref aF9⟩, ⟨hF10, .str "count" tF10, .ref aF10⟩, ⟨hF11, .str "stuck" tF11, .ref aF11⟩, ⟨hF12, .str "clumps" tF12, .ref aF12⟩]) l_FORMS y_FORMS d_FORMS (.cons ⟨_, _, rfl, rfl, sqt3 z0_FORMS⟩ (.cons ⟨_, _, rfl, rfl, sqt0 z1_FORMS⟩ (.cons ⟨_, _, rfl, rfl, sqt0 z2_FORMS⟩ (.cons ⟨_, _, rfl, rfl, sqt2 z3_FORMS⟩ (.cons ⟨_, _, rfl, rfl, sqt1 z4_FORMS⟩ (.cons ⟨_, _, rfl, rfl, sqt1 z5_FORMS⟩ (.cons ⟨_, _, rfl, rfl, sqt1 z6_FORMS⟩ (.cons ⟨_, _, rfl, rfl, sqt1 z7_FORMS⟩ (.cons ⟨_, _, rfl, rfl, sqt1 z8_FORMS⟩ (.cons ⟨_, _, rfl, rfl, sqt1 z9_FORMS⟩ (.cons ⟨_, _, rfl, rfl, sqt2 z10_FORMS⟩ (.cons ⟨_, _, rfl, rfl, sqt0 z11_FORMS⟩ (.cons ⟨_, _, rfl, rfl, sqt1 z12_FORMS⟩ .nil)))))))))))))⟩, x_KnockError⟩
  have D0 := dfi_mk (ps := ["self", "at"]) a0 t0 l0 q0 T.o_NoWorld T.p_NoWorld (len2 fun _ _ => rfl)
  have D1 := dfi_mk (ps := ["self", "moment", "place", "numbers"]) a1 t1 l1 q1 T.o_Crowd T.p_Crowd (len4 fun _ _ _ _ => rfl)
  have D2 := df_mk (ps := ["thing"]) X G a2 l2 q2 k2 (len1 fun _ => rfl)
  have D3 := df_mk (ps := ["one", "other"]) X G a3 l3 q3 k3 (len2 fun _ _ => rfl)
  have D4 := df_mk (ps := ["one", "other"]) X G a4 l4 q4 k4 (len2 fun _ _ => rfl)
  have D5 := df_mk (ps := ["word"]) X G a5 l5 q5 k5 (len1 fun _ => rfl)
  have D6 := df_mk (ps := ["word"]) X G a6 l6 q6 k6 (len1 fun _ => rfl)
  have D7 := df_mk (ps := ["thing"]) X G a7 l7 q7 k7 (len1 fun _ => rfl)
  have D8 := df_mk (ps := ["number"]) X G a8 l8 q8 k8 (len1 fun _ => rfl)
  have D9 := df_mk (ps := ["value", "kind"]) X G a9 l9 q9 k9 (len2 fun _ _ => rfl)
  have D10 := df_mk (ps := ["word", "kind"]) X G a10 l10 q10 k10 (len2 fun _ _ => rfl)
  have D11 := df_mk (ps := ["words", "form"]) X G a11 l11 q11 k11 (len2 fun _ _ => rfl)
  have D12 := df_mk (ps := ["row"]) X G a12 l12 q12 k12 (len1 fun _ => rfl)
  have D13 := df_mk (ps := ["thing"]) X G a13 l13 q13 k13 (len1 fun _ => rfl)
  have D14 := df_mk (ps := ["thing"]) X G a14 l14 q14 k14 (len1 fun _ => rfl)
  have D15 := df_mk (ps := ["thing"]) X G a15 l15 q15 k15 (len1 fun _ => rfl)
  have D16 := df_mk (ps := ["place", "row"]) X G a16 l16 q16 k16 (len2 fun _ _ => rfl)
  have D17 := df_mk (ps := ["bodies"]) X G a17 l17 q17 k17 (len1 fun _ => rfl)
  have D18 := df_mk (ps := ["bodies"]) X G a18 l18 q18 k18 (len1 fun _ => rfl)
  have D19 := df_mk (ps := ["bodies"]) X G a19 l19 q19 k19 (len1 fun _ => rfl)
  have D20 := df_mk (ps := ["bodies", "body"]) X G a20 l20 q20 k20 (len2 fun _ _ => rfl)
  have D21 := df_mk (ps := ["number"]) X G a21 l21 q21 k21 (len1 fun _ => rfl)
  have D22 := df_mk (ps := ["one"]) X G a22 l22 q22 k22 (len1 fun _ => rfl)
  have D23 := df_mk (ps := ["number"]) X G a23 l23 q23 k23 (len1 fun _ => rfl)
  have D24 := df_mk (ps := ["number"]) X G a24 l24 q24 k24 (len1 fun _ => rfl)
  have D25 := df_mk (ps := ["thing"]) X G a25 l25 q25 k25 (len1 fun _ => rfl)
  have D26 := df_mk (ps := ["things"]) X G a26 l26 q26 k26 (len1 fun _ => rfl)
  have D27 := dfm_mk (ps := ["self"]) a27 t27 l27 q27 k27 (len1 fun _ => rfl)
  have D28 := dfm_mk (ps := ["self", "row"]) a28 t28 l28 q28 k28 (len2 fun _ _ => rfl)
  have D29 := df_mk (ps := ["e"]) X G a29 l29 q29 k29 (len1 fun _ => rfl)
  have D30 := df_mk (ps := ["desk", "row"]) X G a30 l30 q30 k30 (len2 fun _ _ => rfl)
  have D31 := df_mk (ps := ["script", "k"]) X G a31 l31 q31 k31 (len2 fun _ _ => rfl)
  have D32 := df_mk (ps := ["cell", "k"]) X G a32 l32 q32 k32 (len2 fun _ _ => rfl)
  have D33 := df_mk (ps := ["script", "k"]) X G a33 l33 q33 k33 (len2 fun _ _ => rfl)
  have D34 := df_mk (ps := ["box", "many"]) X G a34 l34 q34 k34 (len2 fun _ _ => rfl)
  have D35 := df_mk (ps := ["top", "bottom"]) X G a35 l35 q35 k35 (len2 fun _ _ => rfl)
  have D36 := df_mk (ps := ["one", "other"]) X G a36 l36 q36 k36 (len2 fun _ _ => rfl)
  have D37 := df_mk (ps := ["one"]) X G a37 l37 q37 k37 (len1 fun _ => rfl)
  have D38 := df_mk (ps := ["bodies"]) X G a38 l38 q38 k38 (len1 fun _ => rfl)
  have D39 := df_mk (ps := ["bodies", "body"]) X G a39 l39 q39 k39 (len2 fun _ _ => rfl)
  have D40 := df_mk (ps := ["box"]) X G a40 l40 q40 k40 (len1 fun _ => rfl)
  have D41 := df_mk (ps := ["script"]) X G a41 l41 q41 k41 (len1 fun _ => rfl)
  refine law_end X G a41 l41 (fun _ => rfl) fun base kb nb => ?_
  have F0 := ok_NoWorld___init__ (P := P) (w := w) (base := base) D0 T
  have F1 := ok_Crowd___init__ (P := P) (w := w) (base := base) D1 T
  have F2 := ok_is_whole (P := P) (w := w) (base := base) D2 T
  have F3 := ok_common_divisor (P := P) (w := w) (base := base) D3 T
  have F4 := ok_under (P := P) (w := w) (base := base) D4 T
  have F5 := ok_read_whole (P := P) (w := w) (base := base) D5 T
  have F6 := ok_read_fraction (P := P) (w := w) (base := base) D6 T F5
  have F7 := ok_is_fraction (P := P) (w := w) (base := base) D7 T F2 F3
  have F8 := ok_is_short (P := P) (w := w) (base := base) D8 T
  have F9 := ok_is_fitting (P := P) (w := w) (base := base) D9 T F7 F8 F4
  have F10 := ok_value_of (P := P) (w := w) (base := base) D10 T F5 F6 F9
  have F11 := ok_values_of (P := P) (w := w) (base := base) D11 T F10
  have F12 := ok_read_row (P := P) (w := w) (base := base) D12 T F11
  have F13 := ok_is_weight (P := P) (w := w) (base := base) D13 T F2
  have F14 := ok_is_body (P := P) (w := w) (base := base) D14 T F7 F13
  have F15 := ok_are_bodies (P := P) (w := w) (base := base) D15 T F14
  have F16 := ok_spot_for (P := P) (w := w) (base := base) D16 T F4
  have F17 := ok_by_places (P := P) (w := w) (base := base) D17 T F16
  have F18 := ok_first_misplaced (P := P) (w := w) (base := base) D18 T F4
  have F19 := ok_numbered (P := P) (w := w) (base := base) D19 T F15 F17 F18 F0
  have F20 := ok_with_body (P := P) (w := w) (base := base) D20 T F14 F19
  have F21 := ok_figures (P := P) (w := w) (base := base) D21 T
  have F22 := ok_shown (P := P) (w := w) (base := base) D22 T F21
  have F23 := ok_is_long (P := P) (w := w) (base := base) D23 T
  have F24 := ok_number_word (P := P) (w := w) (base := base) D24 T F2 F23 F22
  have F25 := ok_words_of (P := P) (w := w) (base := base) D25 T F24
  have F26 := ok_list_words (P := P) (w := w) (base := base) D26 T F25
  have F27 := ok_Desk___init__ (P := P) (w := w) (base := base) D27 T
  have F28 := ok_Desk_say (P := P) (w := w) (base := base) D28 T F12 F20 F24 F26
  have F29 := ok_law_mark (P := P) (w := w) (base := base) D29 T
  have F30 := ok_law_said (P := P) (w := w) (base := base) D30 T F28 F29
  have F31 := ok_law_cell (P := P) (w := w) (base := base) D31 T
  have F32 := ok_law_mix (P := P) (w := w) (base := base) D32 T
  have F33 := ok_law_box (P := P) (w := w) (base := base) D33 T F31 F32
  have F34 := ok_law_take (P := P) (w := w) (base := base) D34 T
  have F35 := ok_law_fit (P := P) (w := w) (base := base) D35 T
  have F36 := ok_law_less (P := P) (w := w) (base := base) D36 T
  have F37 := ok_law_word (P := P) (w := w) (base := base) D37 T
  have F38 := ok_law_text (P := P) (w := w) (base := base) D38 T F37
  have F39 := ok_law_put (P := P) (w := w) (base := base) D39 T F36
  have F40 := ok_law_small (P := P) (w := w) (base := base) D40 T F34 F35
  have F41 := ok_law (P := P) (w := w) (base := base) D41 T F33 F27 F28 F34 F35 F40 F39 F37 F30 F38
  exact F41
end Prf
namespace Kw
open PySem PySem.Spec PyProof.Rows L2
theorem walk_kwX {pn : Str} {l : PySem.W.OpenLaw} {k : Nat} {q : Program} {loose : List Str} {XP : (Str → Option Value) → Heap → Prop} {as0 : List Addr} {n0 t0 : Nat} {d : DefRec} {K : Params → PySem.W.Frag}
    (hn : l.most = some 63) (hdf : d.params.defaults = []) (hr : Room k callerA) (hK : ∀ P, as0 = (K P).map (·.1)) (hnm : d.name = "law")
    (F : ∀ (w : World) (mg : Str → Option Value) (h : Heap), (K w.params).In h → h.Ns mainGlobals mg → ∃ fa, mg "law" = some (.ref fa) ∧ ∃ fd : FuncData, (∀ (s : Shared) (u : Value), BindsTo s fd ⟨[u], []⟩ [(pn, u)]) ∧
      ∀ base : Heap, (K w.params).In base → base.Ns mainGlobals mg → FnOk l.prog w (K w.params) mg base (CXE l.prog w) k fa fd [pn] (spLaw (K w.params))) :
    PySem.W.WalkX q loose XP (PySem.W.X.obsZ as0) (PySem.W.X.valZ K n0 t0) l.row.toRowW d [] (fun f vs => PySem.call f vs) := by
  intro w s₀ s₁ mg mb G Y fa o pm cd doc dV kV ho hd hcd hD hmg hg args vals as L hpre hlay hrd hwl hlo
  exact walk_kw (YP := fun w h => (K w.params).In h) hn hdf hr (fun _ _ z => z) hnm F w s₀ s₁ mg mb G (PySem.W.InK.keeps w _ _ (PySem.W.X.z_facts hK Y).2.1 L.keeps) fa o pm cd doc dV kV ho hd hcd hD hmg hg args vals as hpre hlay hrd hwl hlo
end Kw
open PySem PySem.W PyProof.Rows
set_option maxRecDepth 100000 in
set_option maxHeartbeats 0 in
theorem PySem.Challenge.cw_knockwright_k92_bodies_kept_holds : PySem.Challenge.rw_knockwright_k92_bodies_kept.Holds := by
  refine hdK ?_
  k_fill
  refine Kw.walk_kw (pn := "script") (l := PySem.Challenge.rw_knockwright_k92_bodies_kept) (k := 9) rfl rfl ⟨rfl, by decide, by decide⟩ (fun w h Y => PySem.W.kIn_of Y) rfl ?F
  case F =>
    intro w mg h KX G
    refine' Prf.all_mk KX G ?c_KnockError ?c_NoBody ?c_NoMoment ?c_NoNumber ?c_NoRow ?c_TooMany ?c_NoWorld ?c_Crowd ?c_Desk ?b_isinstance ?b_int ?b_bool ?b_tuple ?b_list ?b_str ?b_abs ?b_len ?b_divmod ?b_range ?b_max ?b_min ?b_reversed ?b_all ?b_ValueError ?chk ?rd ?fc ?gs ?n_NoWorld_at ?n_Crowd_moment ?n_Crowd_place ?n_Crowd_numbers ?s_NoBody_KnockError ?s_NoRow_KnockError ?s_TooMany_KnockError ?s_NoWorld_KnockError ?pg_Desk ?hd_Desk ?po_Desk ?sa_Desk ?mk_Desk ?kp_Desk ?n_Desk_kept ?i_LONG_BITS ?i_MOST_WEIGHT ?i_MOST_BODIES ?i_MOST_FIGURES ?i_MOST_KEPT ?i_FIGURES ?c_NOUGHT ?z_NOUGHT ?i_TOO_GREAT ?c_FORMS ?l_FORMS ?y_FORMS ?d_FORMS ?z0_FORMS ?z1_FORMS ?z2_FORMS ?z3_FORMS ?z4_FORMS ?z5_FORMS ?z6_FORMS ?z7_FORMS ?z8_FORMS ?z9_FORMS ?z10_FORMS ?z11_FORMS ?z12_FORMS ?x_KnockError ?a0 ?t0 ?l0 ?q0 ?a1 ?t1 ?l1 ?q1 ?a2 ?l2 ?q2 ?k2 ?a3 ?l3 ?q3 ?k3 ?a4 ?l4 ?q4 ?k4 ?a5 ?l5 ?q5 ?k5 ?a6 ?l6 ?q6 ?k6 ?a7 ?l7 ?q7 ?k7 ?a8 ?l8 ?q8 ?k8 ?a9 ?l9 ?q9 ?k9 ?a10 ?l10 ?q10 ?k10 ?a11 ?l11 ?q11 ?k11 ?a12 ?l12 ?q12 ?k12 ?a13 ?l13 ?q13 ?k13 ?a14 ?l14 ?q14 ?k14 ?a15 ?l15 ?q15 ?k15 ?a16 ?l16 ?q16 ?k16 ?a17 ?l17 ?q17 ?k17 ?a18 ?l18 ?q18 ?k18 ?a19 ?l19 ?q19 ?k19 ?a20 ?l20 ?q20 ?k20 ?a21 ?l21 ?q21 ?k21 ?a22 ?l22 ?q22 ?k22 ?a23 ?l23 ?q23 ?k23 ?a24 ?l24 ?q24 ?k24 ?a25 ?l25 ?q25 ?k25 ?a26 ?l26 ?q26 ?k26 ?a27 ?t27 ?l27 ?q27 ?k27 ?a28 ?t28 ?l28 ?q28 ?k28 ?a29 ?l29 ?q29 ?k29 ?a30 ?l30 ?q30 ?k30 ?a31 ?l31 ?q31 ?k31 ?a32 ?l32 ?q32 ?k32 ?a33 ?l33 ?q33 ?k33 ?a34 ?l34 ?q34 ?k34 ?a35 ?l35 ?q35 ?k35 ?a36 ?l36 ?q36 ?k36 ?a37 ?l37 ?q37 ?k37 ?a38 ?l38 ?q38 ?k38 ?a39 ?l39 ?q39 ?k39 ?a40 ?l40 ?q40 ?k40 ?a41 ?l41 ?q41 ?k41
    (case c_KnockError => k_is)
    (case c_NoBody => k_is)
    (case c_NoMoment => k_is)
    (case c_NoNumber => k_is)
    (case c_NoRow => k_is)
    (case c_TooMany => k_is)
    (case c_NoWorld => k_is)
    (case c_Crowd => k_is)
    (case c_Desk => k_is)
    (case b_isinstance => k_is)
    (case b_int => k_is)
    (case b_bool => k_is)
    (case b_tuple => k_is)
    (case b_list => k_is)
    (case b_str => k_is)
    (case b_abs => k_is)
    (case b_len => k_is)
    (case b_divmod => k_is)
    (case b_range => k_is)
    (case b_max => k_is)
    (case b_min => k_is)
    (case b_reversed => k_is)
    (case b_all => k_is)
    (case b_ValueError => k_is)
    (case chk => kernel_rfl)
    (case rd => k_is)
    (case fc => k_is)
    (case gs => k_is)
    (case n_NoWorld_at => k_is)
    (case n_Crowd_moment => k_is)
    (case n_Crowd_place => k_is)
    (case n_Crowd_numbers => k_is)
    (case s_NoBody_KnockError => k_is)
    (case s_NoRow_KnockError => k_is)
    (case s_TooMany_KnockError => k_is)
    (case s_NoWorld_KnockError => k_is)
    (case pg_Desk => k_is)
    (case hd_Desk => k_is)
    (case po_Desk => k_is)
    (case sa_Desk => k_is)
    (case mk_Desk => k_is)
    (case kp_Desk => k_is)
    (case n_Desk_kept => k_is)
    (case i_LONG_BITS => k_is)
    (case i_MOST_WEIGHT => k_is)
    (case i_MOST_BODIES => k_is)
    (case i_MOST_FIGURES => k_is)
    (case i_MOST_KEPT => k_is)
    (case i_FIGURES => k_is)
    (case c_NOUGHT => k_is)
    (case z_NOUGHT => k_is)
    (case i_TOO_GREAT => k_is)
    (case c_FORMS => k_is)
    (case l_FORMS => k_is)
    (case y_FORMS => k_keys)
    (case d_FORMS => decide)
    (case z0_FORMS => k_is)
    (case z1_FORMS => k_is)
    (case z2_FORMS => k_is)
    (case z3_FORMS => k_is)
    (case z4_FORMS => k_is)
    (case z5_FORMS => k_is)
    (case z6_FORMS => k_is)
    (case z7_FORMS => k_is)
    (case z8_FORMS => k_is)
    (case z9_FORMS => k_is)
    (case z10_FORMS => k_is)
    (case z11_FORMS => k_is)
    (case z12_FORMS => k_is)
    (case x_KnockError => k_exc)
    (case a0 => k_is)
    (case t0 => k_is)
    (case l0 => k_is)
    (case q0 => k_is)
    (case a1 => k_is)
    (case t1 => k_is)
    (case l1 => k_is)
    (case q1 => k_is)
    (case a2 => k_is)
    (case l2 => k_is)
    (case q2 => k_is)
    (case k2 => k_is)
    (case a3 => k_is)
    (case l3 => k_is)
    (case q3 => k_is)
    (case k3 => k_is)
    (case a4 => k_is)
    (case l4 => k_is)
    (case q4 => k_is)
    (case k4 => k_is)
    (case a5 => k_is)
    (case l5 => k_is)
    (case q5 => k_is)
    (case k5 => k_is)
    (case a6 => k_is)
    (case l6 => k_is)
    (case q6 => k_is)
    (case k6 => k_is)
    (case a7 => k_is)
    (case l7 => k_is)
    (case q7 => k_is)
    (case k7 => k_is)
    (case a8 => k_is)
    (case l8 => k_is)
    (case q8 => k_is)
    (case k8 => k_is)
    (case a9 => k_is)
    (case l9 => k_is)
    (case q9 => k_is)
    (case k9 => k_is)
    (case a10 => k_is)
    (case l10 => k_is)
    (case q10 => k_is)
    (case k10 => k_is)
    (case a11 => k_is)
    (case l11 => k_is)
    (case q11 => k_is)
    (case k11 => k_is)
    (case a12 => k_is)
    (case l12 => k_is)
    (case q12 => k_is)
    (case k12 => k_is)
    (case a13 => k_is)
    (case l13 => k_is)
    (case q13 => k_is)
    (case k13 => k_is)
    (case a14 => k_is)
    (case l14 => k_is)
    (case q14 => k_is)
    (case k14 => k_is)
    (case a15 => k_is)
    (case l15 => k_is)
    (case q15 => k_is)
    (case k15 => k_is)
    (case a16 => k_is)
    (case l16 => k_is)
    (case q16 => k_is)
    (case k16 => k_is)
    (case a17 => k_is)
    (case l17 => k_is)
    (case q17 => k_is)
    (case k17 => k_is)
    (case a18 => k_is)
    (case l18 => k_is)
    (case q18 => k_is)
    (case k18 => k_is)
    (case a19 => k_is)
    (case l19 => k_is)
    (case q19 => k_is)
    (case k19 => k_is)
    (case a20 => k_is)
    (case l20 => k_is)
    (case q20 => k_is)
    (case k20 => k_is)
    (case a21 => k_is)
    (case l21 => k_is)
    (case q21 => k_is)
    (case k21 => k_is)
    (case a22 => k_is)
    (case l22 => k_is)
    (case q22 => k_is)
    (case k22 => k_is)
    (case a23 => k_is)
    (case l23 => k_is)
    (case q23 => k_is)
    (case k23 => k_is)
    (case a24 => k_is)
    (case l24 => k_is)
    (case q24 => k_is)
    (case k24 => k_is)
    (case a25 => k_is)
    (case l25 => k_is)
    (case q25 => k_is)
    (case k25 => k_is)
    (case a26 => k_is)
    (case l26 => k_is)
    (case q26 => k_is)
    (case k26 => k_is)
    (case a27 => k_is)
    (case t27 => k_is)
    (case l27 => k_is)
    (case q27 => k_is)
    (case k27 => k_is)
    (case a28 => k_is)
    (case t28 => k_is)
    (case l28 => k_is)
    (case q28 => k_is)
    (case k28 => k_is)
    (case a29 => k_is)
    (case l29 => k_is)
    (case q29 => k_is)
    (case k29 => k_is)
    (case a30 => k_is)
    (case l30 => k_is)
    (case q30 => k_is)
    (case k30 => k_is)
    (case a31 => k_is)
    (case l31 => k_is)
    (case q31 => k_is)
    (case k31 => k_is)
    (case a32 => k_is)
    (case l32 => k_is)
    (case q32 => k_is)
    (case k32 => k_is)
    (case a33 => k_is)
    (case l33 => k_is)
    (case q33 => k_is)
    (case k33 => k_is)
    (case a34 => k_is)
    (case l34 => k_is)
    (case q34 => k_is)
    (case k34 => k_is)
    (case a35 => k_is)
    (case l35 => k_is)
    (case q35 => k_is)
    (case k35 => k_is)
    (case a36 => k_is)
    (case l36 => k_is)
    (case q36 => k_is)
    (case k36 => k_is)
    (case a37 => k_is)
    (case l37 => k_is)
    (case q37 => k_is)
    (case k37 => k_is)
    (case a38 => k_is)
    (case l38 => k_is)
    (case q38 => k_is)
    (case k38 => k_is)
    (case a39 => k_is)
    (case l39 => k_is)
    (case q39 => k_is)
    (case k39 => k_is)
    (case a40 => k_is)
    (case l40 => k_is)
    (case q40 => k_is)
    (case k40 => k_is)
    (case a41 => k_is)
    (case l41 => k_is)
    (case q41 => k_is)
    (case k41 => k_is)
