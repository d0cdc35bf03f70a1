import PyProof.Rows.All
import Wide.All
import OpenK.AllK
import Wide.FinOn
import PyProof.EqAt
import PyProof.EqKinds
import PyProof.TupleCall
import KE.BitLaws
import Open.SpecLaws
import KE.OsHead
import KE.OsGo
import KE.KTryOn
import PyProof.InstStoreFacts
import PyProof.ExcAttrAll.Exception
import PyProof.Rows.SortShellAny
import TlAns
import TlLampSpec
import PyWqaqcb
import PyFlatLaws
import PySem.Challenge.RW_lampshows_s01_answers
set_option Elab.async false
set_option linter.all false
set_option maxRecDepth 100000
set_option maxHeartbeats 0
namespace PySem.W.Fast
local macro_rules|`(universe $xs*)=>do return Lean.mkNullNode (←xs.mapM λx=>`(theorem $x:ident : True:=⟨⟩))
universe tw18068231683805763345 tw3949835335322567905 tw14925310530818352537 tw13407207492322121723 tw13236190427543485635 tw4865760234027946951 tw3668503295131529717 tw17099783693968126077 tw3691088997709670634 tw5090896674348081266 tw5456742155277245583 tw5752916307270604919 tw18304420074625615606 tw9785959105251778841 tw13122104256044292194 tw3849810452899356023 tw10653694799341292604 tw7948903034692106725 tw9678700251744154193 tw14924155276604404248 tw7344952508394643096 tw7842056792437151852 tw7649349405818417729 tw11578438323844479818 tw10318228297664966683 tw5101598323462952721 tw12668475479111458712 tw6100332786971642285 tw10435042070473811891 tw7033352517691550110 tw14435845701828807088 tw13756564743137589236 tw2503621189163699028 tw10084943546131509107 tw16967598707726041523 tw10319204953842089011 tw15769951263202129292 tw3515264909200253564 tw5002731521059620034 tw8474997845381444422 tw40861783915574524 tw3704117783705460327 tw12142285110198341852 tw2260065556428937505 tw5961235615168479092 tw11016420638342215985 tw4437837915529452520 tw7304611962658714764 tw11547939292339648642 tw2817060888888417442 tw7912961342696779233 tw1939880448282322144 tw14790265330548008917 tw15408872551375975226 tw14044145805747528701 tw1275484785311010519 tw17792645466462477228 tw16913639094616050480 tw12189720346559052111 tw10321488934581931871 tw9053039413385481456 tw17921877880571714099 tw12963700866649254133 tw3933557677951026952 tw14442160195571410919 tw6871497675020209813 tw8820010692922946732 tw5654111493980095999 tw920208254728562174 tw1531030204348653990 tw4488571217761457262 tw7075212575733016152 tw15150507219093837078 tw1882452661793030022 tw13971674657749846986 tw17249595520108091006 tw1012966773255146560 tw13672722138312507437 tw3916899088796314799 tw9346344594928789899 tw15028597223366475174 tw10615556167528309314 tw14550941792297138598 tw17244091014152870237 tw15902128201189045991 tw11729443576837327702 tw13577430637094453877 tw16552047434321790498 tw345511177996589197 tw6501966298129237496 tw7925646202636042623 tw1846019638944571667 tw5472650365051745468 tw5535012207806144673 tw7097633227126633411 tw9827576258215884647 tw12909141517591754986 tw13216422675470984831 tw5471082421615874824 tw14716060380646268233 tw13498284278499726518 tw9905073784424266405 tw246873999343689758 tw3315433378906762552 tw8692005333477581579 tw903819446339175300 tw13016462286078772901 tw10648122134103494291 tw6976902593881812316 tw14912903682799930275 tw2600256734760802974 tw5941325950695865749 tw1421937697059119048 tw1174202621507700332 tw11659875269963683379 tw7421025927167968423 tw7483798551517136894 tw17011497787133299999 tw630765893955032576 tw3196951858401630729 tw18040597873882907195 tw13010008298318199360 tw861635968479374645 tw6131573185353562309 tw1995417153389737413 tw7533828151524201122 tw9568144408811737245 tw13107598604468148781 tw17470407335482347498 tw12776222231422035345 tw14590523584709814247 tw15006336942883850258 tw7860546800586082833 tw14616859825424665477 tw7698504695001281903 tw14985492985647397986 tw4477061280429383783 tw2155971541244308434 tw817835526443967312 tw14694313924537460421 tw10080271561417673255 tw17078642003415383312 tw11463343412063350189 tw16689664170069389027 tw5173368381365851789 tw4831301770628134437 tw12182748238394832003 tw14511211874188056991 tw15139756440002641526 tw14395456971144576036 tw652407978825121405 tw14812001456712959486 tw5890168847571899850 tw4022103613233326746 tw5812331775869075701 tw9248341921842054968 tw2960864779671876459 tw8399395799867009713 tw11496365613641410873 tw659598298236699550 tw2233554867448891460 tw10945224572705301302 tw8017775506252120333 tw3768121431616583351 tw3843056502498504927 tw5652547012863855679 tw15663768596980576267 tw6460677871364665264 tw8974719955979776221 tw15301792687537431209 tw7197366696634613933 tw11034854362915300523 tw16839080084147840533 tw12751245415859595419 tw12470107581885863612 tw8793969693535522722 tw16553859999711325778 tw5384715961362263228 tw14870032493678786726 tw2117931159633245865 tw8253669298246454170 tw2999999739881027576 tw7559072972751161390 tw14976901999909679988 tw6676676124488466881 tw18286657957045964234 tw3977550618921236015 tw1017601073705544869 tw11419433026137990518 tw14239242219469021817 tw9581008106453858442 tw13911089850235833320 tw111829278035786371 tw13729299923621898683 tw17934709826431249629 tw6981847377698666815 tw2400128517781213069 tw10475857634928823065 tw9600177519460392800 tw7312164884203823888 tw16023082393719175544 tw7567255260163677531 tw5659618161671103216 tw6753861221949696950 tw7325943465395375618 tw13003993817999434892 tw11226014857738190396 tw4637927587545228921 tw8067265392639917155 tw4945783378331923491 tw11633815427088662457 tw6142844179830490238 tw4893754938442881490 tw7515412120329609057 tw15474808355909595716 tw16138014180108485750 tw1940630246447287802 tw1633819938325240343 tw10670637581048060683 tw2335753012020237169 tw790192260711276114 tw18340940631085269655 tw8066517488086955435 tw1874908509275592010 tw9058268084545770471 tw4674039184428762077 tw8404630866267024315 tw13647168293168625379 tw7585854090697430849 tw9118950240145485269 tw7443942073132709203 tw15322762272076377776 tw10622444267235378318 tw17500985262736205342 tw18036637786797980943 tw13374165815055250078 tw1176842132274597591 tw274166125555050667 tw10652755775619367308 tw15365302551667668585 tw5740665834682493971 tw17788691229513726866 tw3241655018139900038 tw12645835862995260684 tw17224410267207910510 tw14676844876077575301 tw373381034494573568 tw12554901678515108107 tw5680446500096158176 tw7359057559015720550 tw10625607592998428761 tw17137203609670413070 tw8444119477966758979 tw3493068601738479510 tw627014542829894088 tw9940155223256916210 tw2204592722262290903 tw15047405638433086577 tw7839271739676978716 tw15526127080027618491 tw3214148720161558720 tw11708628363812203111 tw7053053783304189317 tw8259319366820446448 tw3348955098897377612 tw6341487340883227110 tw9058980767923693999 tw6782532501805766802 tw4294633016270057697 tw4985151640927254561 tw8148607791126928272 tw5886227015489358365 tw16679226571073901408 tw10566714776976599430 tw10723576553890214244 tw8697926015591449162 tw3599717860157630160 tw7725933221207225122 tw7689631643594390086 tw4736029691913360997 tw10349868095339232827 tw3806869048812945650 tw15007628294828239479 tw832114642605934214 tw1802461949423090557 tw17504671373162306368 tw2935068854057575717 tw3565099728215982685 tw15190002229065187952 tw8008713110421471376 tw15917295753716849807 tw6935899738407795915 tw12604049154749622756 tw288451397145467874 tw6307349349043114737 tw7220008240375625699 tw18216746702813610894 tw14685095278113928002 tw8298280139144421233 tw14779057597050829127 tw13402185989217542803 tw7544065535324863299 tw16379378537945324832 tw285097215983070267 tw922393294687035471 tw11653797884296602270 tw11434179534038812787 tw1723168794433539890 tw15586502151407002639 tw16981475671902310243 tw10550717139033821406 tw2508231651907092402 tw18006042948731431882 tw13596468701381552656 tw176562835589042662 tw10122795708596775900 tw5542036086648054507 tw4056717937955423005 tw14749207100337759377 tw6650426531692039659 tw4555804132058806794 tw6067821651619118274 tw14729472374769562565 tw6282287654237492078 tw8451521413394411365 tw7369135920253531194 tw9022732576760750236 tw9016365043922832483 tw13431956475623723072 tw3757255554011008489 tw17440818957901054756 tw5199290284833619711 tw13155712585277145340 tw3917357928119505935 tw2771652003840475483 tw1238577457146686532 tw6091901296771825495 tw14200853004251303123 tw2513187180931183924 tw7788915580668939121 tw14831716633536855634 tw12406783434767015596 tw694648405644742471 tw5524343743320082040 tw275719965684311670 tw9539211240022418694 tw16574275681323629317 tw10006105789207153176 tw53565411856770866 tw8250780600667004960 tw13250855926256197883 tw9704121220813401093 tw3741278555242421740 tw6599504430135816711 tw11438399803887488314 tw66320813007575377 tw8529498710138592777 tw3222878263767762641 tw5864096680295109925 tw12720585468405538854 tw9692783716558986808 tw6830478992798662115 tw2829894045931547642 tw4927269713540320262 tw4791016033731923311 tw8880434971966433411 tw4914106315080158624 tw7215542642121497703 tw12142681125748652473 tw13742205455022850644 tw13998687077182006345 tw16339683544415105733 tw2805248656337892332 tw15013790115682401196 tw14809596631265023446 tw12460426968520754552 tw3888169551150696442 tw18324076688723266723 tw3221477733578645392 tw3180925947640456762 tw13907005674082989408 tw10355946433729222005 tw659096256961429255 tw557087968708663608 tw12556402123533109424 tw6373006708434356823 tw8602654075060814329 tw1931193290853913111 tw8330506537133576313 tw15451236791213452647 tw9616901585668363723 tw17501441791125574727 tw8516644282307170885 tw4644737057960924899 tw5793749527796741595 tw15095582458276384855 tw17953021504756401318 tw1041537309002546426 tw9992992562544087510 tw2719929973489300910 tw3831253619159686000 tw12324067594336095782 tw7989030506796574036 tw4179702424688929774 tw13589168452681547256 tw18395091685799439591 tw8312561372419650387 tw546779107433776205 tw2450386254135792687 tw2127878308464694870 tw11641163224918859535 tw11962675420455437313 tw11718512591431344565 tw7393061549474479341 tw13939940616207996988 tw5983734168472818637 tw8712138259346829485 tw8059274520221756554 tw15902401657961500573 tw4719817896757806284 tw8532046933601420587 tw3781504192282998224 tw14984176993590796362 tw106733763293372733 tw14813579118228294146 tw11337579324449167410 tw15808983211445285957 tw14675518480151402088 tw17811369515254798244 tw3029570405182413113 tw8029512394565645127 tw15307933074991236198 tw12196572112503615446 tw1985347623439862631 tw5295393872571025614 tw6519252255573089856 tw6485225047307255374 tw3237503465467522514 tw11902043698708968975 tw15807238458037659614 tw14823436040378807692 tw7561852156856603286 tw16796857877203507937 tw15774391557472414135 tw9198173100366934232 tw15244799902388355648 tw558211903270502994 tw7447138554010985510 tw6045077936726692998 tw15067852430414060351 tw3415907363154128940 tw11478276022800263498 tw9501670919603408074 tw16770771890716149593 tw8981150162688983012 tw1958413130404201979 tw3409430433985594207 tw4623902066179265670 tw1311225725110246201 tw10337596618641354044 tw14245362042385458443 tw12363593815216241441 tw3070911938255579360 tw10037150735306930614 tw15873896828731258793 tw14689143918473711828 tw9983527768095564152 tw16639791157754494664 tw15113701962030138980 tw10615611376117799547 tw9015735676878775323 tw8264940804671002399 tw9167920111995662919 tw1640709203904413223 tw6223805449117882067 tw11741981138768634568 tw9733403082563981399 tw5504434619371692367 tw666449828228921803 tw8295961181588621409 tw6366378959221578007 tw3848811102564695735 tw14692091625619658830 tw16573331611409433410 tw3434763868779332576 tw8002179263900400327 tw4713689369921731251 tw1602830803437827519 tw5263704940411205383 tw5218187933395978663 tw17488461952573724141 tw4216197838412377922 tw12797669502288162647 tw17558540445160959990 tw2948631870174493857 tw16972387680330001890 tw16990046079684491459 tw16189936300768151024 tw9726691623702060818 tw7099502745380069694 tw17132891702573357304 tw16364224858147390237 tw17797546368881728539 tw4297886776491313725 tw10860897341057859124 tw7207178562800821314 tw5305006974099387336 tw16332001243266186162 tw18037089678334554599 tw7507561485177601625 tw6582902067632338797 tw8203295754354750541 tw8018639659268690217 tw15471062423520813981 tw14168690599164916932 tw5693058185306621961 tw10753866535840414002 tw2132066405633831735 tw6167641941712650257 tw513784235704504218 tw9568314202504428522 tw9079698713297721129 tw9120252599842127351 tw14691775176796301293 tw12884835132968088558 tw11670571744169183316 tw336852369652327066 tw17276081621678062002 tw1977395426899203951 tw12638421323701349957 tw8406228258425330798 tw10453175579965798863 tw4098941545363054069 tw17258316066096613900 tw3260156508996315929 tw8032659157276920825 tw16001710103364341476 tw11510524564194113504 tw1437054843325893746 tw14625601876897379303 tw80551484822021685 tw18130929320789692027 tw3994541857510235113 tw7870634493559615261 tw1667919606341369478 tw5966892348975168903 tw16092324828401266337 tw14827029833152656518 tw8907164948794778973 tw1076234517557955619 tw8823269961930253660 tw16461751949270154037 tw9068904884851899560 tw2480308834604619744 tw16890505757511138439 tw122805815872372644 tw9489681162665248350 tw17454174752937368936 tw14437491543928011142 tw10900144572967147907 tw17404339348245383945 tw17827150428399803134 tw1988099718889322527 tw2257971884252633081 tw3411993594725852155 tw1076274324068291314 tw3129639754461842217 tw7020451158926675594 tw10905831932058310011 tw652872350260733498 tw9974614803690089618 tw4003636299750214287 tw7123754797509716688 tw17354893326636775487 tw16774629544047685614 tw15051054029650948580 tw5127195616116717403 tw13125295937215377542 tw164261776397130052 tw17626973779599329253 tw16432211245877135610 tw8427874649103504878 tw3733248155390782456 tw8184994086965850941 tw16596417194423667581 tw16302929004693294447 tw18081171987703625319 tw9159464195996344723 tw15214171055300760459 tw1977303514873435043 tw10385196665652096260 tw6067629483012031125 tw9652902909104462843 tw7559051968676525122 tw5220275279398160898 tw657021714383636908 tw16366970534477853951 tw18417931072667892399 tw17198553525531586724 tw9825062008307355228 tw1147828338715848309 tw16721292415866446488 tw16778775704762096657 tw14390219516912753026 tw3995346927314716168 tw5846393176511349338 tw14026597932466587576 tw8507114652048415346 tw14278919199173356919 tw2550545305838906402 tw3451639658950086630 tw6575206497944843432 tw6542422549521800214 tw13036025262705310663 tw1369307313184595296 tw13543638412319725265 tw5889721265148822496 tw15130434005532654697 tw9514808174690886116 tw11501071346946410785 tw17372336391109631566 tw4054402439835695814 tw103620788058215664 tw9192697281766042409 tw1375919038442550302 tw7632039305086303430 tw622090112413705469 tw12171146903328059459 tw15341458408745334309 tw6611839249215978943 tw1022156356711657209 tw10269917515043299382 tw11385820533648285737 tw13084377698478838671 tw11283980662867299574 tw6147585013407361458 tw2228081640966124478 tw13547856008946210543 tw12193879712610697378 tw12529854576041333822 tw8048887707471809916 tw13511256804366182001 tw7936291246378064956 tw443991901243692528 tw16460062191322320317 tw12421919880424919271 tw9112671100614296625 tw2180460664255377582 tw689147448144257523 tw1401255885015665316 tw5191226101863494983 tw5249787087943561875 tw2858392736748706225 tw3009864258732110786 tw7552798333811872863 tw5969787717115932571 tw1901628976353814973 tw9494554099203766508 tw8507027548471776143 tw5098924422488557129 tw17960850256416424305 tw15347594274530078725 tw15562879175371265436 tw15849283311764332414 tw1573452642855351827 tw11385695826020726369 tw1088833095702016762 tw13450638872053247884 tw9885403591055691126 tw10246564981083520752 tw6687186015945814862 tw10225579693743405783 tw11360302021664720743 tw1018114745770415858 tw6702198369141715994 tw5815235901375686268 tw8552778215287039244 tw9363292448806753217 tw10368181869317460900 tw8693745791724454329 tw12906557016062708213 tw11628065266069582435 tw17808563985042674689 tw11332138406937883498 tw6279823607963593415 tw9226047857860779850 tw10683760153869045310 tw5488663133944689664 tw18240510930206231828 tw13484293687886051959 tw6516928488291037113 tw17659708844509165879 tw12199597485153310730 tw7032555166064127376 tw11609645335863113471 tw10104726561421301784 tw3875334455578283365 tw9679691341673790384 tw10738674709403465312 tw5190886571225485474 tw9259055532077388180 tw11608928839129334875 tw5858825137801584105 tw3597002199706898951 tw5209074191123761695 tw10770851885384563521 tw9549464180836450872 tw10171815924912270687 tw9263638490187753156 tw14870487290213628699 tw819447287164481559 tw2484761553703313263 tw5189968337552125120 tw14812559744273442299 tw9630432278127636497 tw11076140861287120652 tw194741273293128551 tw5683688483480506694 tw12124273255302724382 tw11068719657825834261 tw13351121407299812342 tw6313663620887927130 tw7527469887717220444 tw15978588151140431010 tw14348876625864117983 tw16947286274257016891 tw6061869082488760731 tw2752409901419658482 tw9667537549584899500 tw9701642942280808406 tw14350691891875363438 tw1389149164427377699 tw16410792150890985900 tw7463017535179821298 tw5164027110551128797 tw4705070271434909522 tw4990306334239512859 tw7108425841953100257 tw7185141096502355092 tw3932899444854123143 tw1426559322273579333 tw12990468766366410479 tw9792880588555846746 tw8565619246568332705 tw16794372240750922514 tw6959697521770262509 tw5877386793693073997 tw18266846982948824593 tw16958991902605162279 tw10316137376924925482 tw17964008775780856780 tw18004253277120981153 tw16745802332104916527 tw1684934748991795484 tw8988495362612001698 tw884300033156299660 tw9653943145164281662 tw2175473295942282143 tw5231328207455454640 tw238151913641698719 tw18399857372409863381 tw1904873670052464989 tw16471140942773102697 tw17855292403831578472 tw3557167773441329602 tw2324648342334470983 tw17856731131966089233 tw1675804843296823505 tw8921681032000826220 tw14691949906571366310 tw16740654392592406767 tw17711353343603507768 tw6404323779804045874 tw6524094631721479031 tw13387092263444748754 tw14676179715987838818 tw9711474072853203708 tw9065852634068971074 tw5360495578740402521 tw9546698041638628164 tw8935826229958343061
end PySem.W.Fast
namespace LH
open PySem
noncomputable def bf:List Stmt:=by
 refine (?f:(PySem.Challenge.pw_lampshows_s01_answers.main.body=?t)→List Stmt) ?p
 case f=>exact λ_=>?t
 case p=>
  delta PySem.Challenge.pw_lampshows_s01_answers
  dsimp only
  conv=>lhs;simp only[Str.ofString_eq_toList,String.reduceToList,List.map_cons,List.map_nil,Char.reduceToNat]
noncomputable def sf:Scope:=by
 refine (?f:(PySem.Challenge.pw_lampshows_s01_answers.main.scope=?t)→Scope) ?p
 case f=>exact λ_=>?t
 case p=>
  delta PySem.Challenge.pw_lampshows_s01_answers
  dsimp only
  conv=>lhs;simp only[Str.ofString_eq_toList,String.reduceToList,List.map_cons,List.map_nil,Char.reduceToNat]
noncomputable def _root_.PySem.W.Fast.tw15160814149889827695:Program:={main:={body:=bf,scope:=sf,futureAnnotations:=false,file:="/claim/cut.py",more:=[]},modules:=[],parses:=[],absent:=[],harvested:=[],given:={argv:=[],stdin:=[],environ:=some [([76,67,95,65,76,76],[67,46,85,84,70,45,56])]}}
theorem _root_.PySem.W.Fast.te15160814149889827695:PySem.Challenge.pw_lampshows_s01_answers=PySem.W.Fast.tw15160814149889827695:=by kernel_rfl
def nth:Nat→List Stmt→Stmt
 |_,[]=>.Pass ⟨0,0,0,0⟩
 |0,x::_=>x
 |n+1,_::l=>nth n l
def n(i:Nat):Stmt:=nth i PySem.Challenge.pw_lampshows_s01_answers.main.body
def pwF:Program:={PySem.Challenge.pw_lampshows_s01_answers with main:={PySem.Challenge.pw_lampshows_s01_answers.main with body:=[n 0,n 1,n 2,n 3,n 4,n 5,n 6,n 7,n 8,n 9,n 10,n 11,n 12,n 13,n 14,n 15,n 16,n 17,n 18,n 19,n 20,n 21,n 22,n 23,n 24,n 25,n 26,n 27,n 28,n 29,n 30,n 31,n 32,n 33,n 34,n 35,n 36,n 37,n 38,n 39,n 40,n 41,n 42,n 43,n 44,n 45,n 46,n 47,n 48,n 49,n 50,n 51,n 52,n 53,n 54,n 55,n 56,n 57,n 58,n 59,n 60,n 61,n 62,n 63,n 64,n 65,n 66,n 67,n 68,n 69,n 70,n 71,n 72,n 73,n 74,n 75,n 76,n 77,n 78,n 79,n 80,n 81,n 82,n 83,n 84,n 85,n 86,n 87,n 88,n 89,n 90,n 91,n 92,n 93,n 94,n 95,n 96,n 97,n 98,n 99,n 100,n 101,n 102,n 103,n 104,n 105,n 106,n 107,n 108,n 109,n 110,n 111,n 112,n 113,n 114,n 115,n 116,n 117,n 118,n 119,n 120,n 121,n 122,n 123,n 124,n 125,n 126,n 127,n 128,n 129,n 130,n 131,n 132,n 133,n 134,n 135,n 136,n 137,n 138,n 139,n 140,n 141,n 142,n 143,n 144,n 145,n 146,n 147,n 148,n 149,n 150,n 151]}}
def rwF:PySem.W.OpenSpec:=PySem.W.OpenSpec.mk pwF PySem.Challenge.nm_lampshows_s01_answers PySem.Challenge.fa_lampshows_s01_answers PySem.Challenge.fr_lampshows_s01_answers @PyWqaqcb.answers_asked @PyWqaqcb.answers
theorem rw_eq:PySem.Challenge.rw_lampshows_s01_answers=rwF:=by kernel_rfl
end LH
section
open PySem PySem.W PyProof.Rows
local macro_rules|`(tactic|k_head)=>`(tactic|k_headS)
local macro_rules|`(tactic|w_witness2)=>`(tactic|exact ⟨[.list [.int 5]],by decide+kernel,by decide+kernel⟩)
open_top LH.hd for LH.rwF
end
set_option maxHeartbeats 2000000
open PySem.W (WRecords bind_fn callWith_K callWith_K0 cellsFrom_some codeIn codeRec_of emptyDict fnOf handedIn hasDictIn instObj isFn isNs_of_in lookIn makesIn nsMap_none_of_in nsOkIn plainGet plainGet_of plainOver takerIn typeIn)
open PySem.F (plainAttrs_list slot_list_extend type_list_extend)
open Tilt (Book Bytes DRAIN Fault LEVELS LOOP Line NAME Show TEXT Table faulty isSmall nat8 says tells)
open LampNeutral (asked1 natural whole32)
open TiltLampCalls (BOOKTEXT LOOKED ofBook ticksNums)
open Bool (and_eq_true and_eq_true_iff eq_false_iff false_eq_true or_eq_true)
open Int (toNat_natCast)
open Array (length_toList)
open Option (getD_none isSome_map)
open PySem.Heap (get?_push_of_some get?_push_size get?_update_other get?_update_self lt_size size_push)
open PySem.Obj (data_mapFields isFreed_of_fields)
open PyFlat (okCall played putRows told)
open PyWqaqcb (answers answers_asked shape)
open List (all_eq_true any_eq_true mem_map nodup_cons)
open PySem.W (Frag mg_of mg_none_of findIn nsIn keepIn)
open List (all_cons any_cons append_assoc append_nil cons_append contains_cons contains_iff_mem drop_drop drop_eq_getElem_cons drop_eq_nil_of_le drop_left drop_length drop_take filter_append filter_congr filter_cons find?_cons flatten_cons foldl_append foldl_cons getElem?_append_left getElem?_append_right getElem?_eq_getElem getElem?_map getElem?_replicate getElem?_set_ne getElem?_set_self getElem_mem length_append length_cons length_drop length_filter_le length_map length_nil length_set length_take lookup_cons map_append map_cons map_map map_nil mem_append mem_append_left mem_append_right mem_cons mem_cons_of_mem mem_cons_self mem_filter mem_of_getElem? mem_singleton nodup_nil not_mem_nil of_mem_zip range_succ replicate_succ size_toArray take_length)
open Nat (le_of_eq le_of_lt le_refl le_succ le_trans lt_irrefl lt_of_le_of_lt lt_of_lt_of_le lt_succ_of_lt lt_succ_self lt_trans mod_eq_of_lt mod_lt mul_comm mul_le_mul_right ne_of_gt ne_of_lt sub_self succ_mul testBit_and testBit_or zero_le)
def af:= @PySem.wpAny_bind
def ag:= @if_neg
def aj:= @of_decide_eq_true
def ak:= @if_pos
def ao:= @Option.some.inj
def aq:= @List.length_append
def au:= @of_decide_eq_false
def aw:= @List.length_map
def ax:= @PySem.Heap.get?_push_of_some
def ay:= @List.getElem?_eq_some_iff
def az:= @List.getElem?_eq_getElem
def aA:= @List.mem_cons
def aB:= @PySem.wpAny_pure
def aC:= @List.mem_cons_of_mem
def aD:= @Bool.false_ne_true
def aE:= @PySem.PassesOwn.leaving
def aF:= @List.length_cons
def aG:= @List.mem_append
def aH:= @Nat.le_refl
def aI:= @PySem.F.slot_list_append
def aJ:= @PySem.F.type_list_append
def aK:= @List.getElem?_map
def aL:= @List.map_append
def aM:= @List.mem_cons_self
def aN:= @PySem.Heap.get?_push_size
def aO:= @Bool.and_eq_true
def aP:= @List.size_toArray
def aQ:= @congrArg
def aR:= @List.mem_of_getElem?
def aS:= @Nat.lt_of_lt_of_le
def aU:= @PySem.wpAny_loadPart_at
def aV:= @decide_eq_false
def aW:= @Ne.symm
def aX:= @PySem.F.plainAttrs_list
def aY:= @PySem.mem_of_lookup
def aZ:= @PySem.Heap.lt_size
def a0:= @List.append_assoc
def a6:= @decide_eq_decide
def a7:= @Nat.le_trans
def a8:= @PySem.Heap.get?_update_self
def a9:= @Nat.ne_of_lt
def bb:= @PySem.Heap.get?_update_other
def bc:= @List.getElem?_replicate
def bg:= @PyProof.Rows.callWith_type1
def bh:= @List.length_take
def bj:= @List.getElem?_set_ne
def bp:= @PySem.wpAny_mono
def bq:= @decide_eq_true_eq
def bu:= @Nat.zero_le
def bw:= @PySem.wpAny_Call_Name_kw
def bC:= @List.length_drop
def bD:= @List.getElem?_set_self
def bE:= @List.drop_eq_nil_of_le
def bF:= @Bool.false_eq_true
def bG:= @List.cons.injEq
def bH:= @PySem.F.slot_dict_valueiterator_next
def bI:= @List.contains_iff_mem
def bJ:= @List.map_cons
def bK:= @List.append_nil
def bL:= @PySem.wpAny_newObj_type
def bM:= @PySem.wpAny_field
def bN:= @List.take_length
def bO:= @List.getElem?_append_right
def bP:= @PySem.wpAny_standAt
def bQ:= @Nat.lt_of_le_of_lt
def bR:= @List.mem_append_right
def bS:= @if_false
def bU:= @PySem.wpAny_callSpecial?_slot
def bW:= @Nat.mul_le_mul_right
def bX:= @List.length_filter_le
def bY:= @List.drop_eq_getElem_cons
def bZ:= @List.findIdx?_eq_some_iff_getElem
def b5:= @PySem.wpAny_isSubtype_exc
def b6:= @List.all_eq_true
def b8:= @PySem.Heap.size_push
def b9:= @PySem.wpAny_holding
def cb:= @PySem.wpAny_typeNameOfWhole_valiter
def cf:= @PySem.Obj.isFreed_of_fields
def cg:= @beq_eq_false_iff_ne
def cj:= @Bool.true_and
def ck:= @PySem.W.nsMap_none_of_in
def cn:= @PySem.wpAny_call_entry
def cq:= @PySem.wpAny_setField
def cu:= @PySem.F.slot_tuple_iterator_next
def cv:= @List.findIdx?_eq_none_iff
def cw:= @PySem.wpAny_passesOwn
def cx:= @Bool.eq_iff_iff
def cy:= @List.getElem?_append_left
def cz:= @PySem.wpAny_typeLookup_exc
def cA:= @Prod.mk.inj
def cC:= @PySem.wpAny_typeNameOf_valiter
def cE:= @PySem.plainObj_wpAny_Assign_Attribute
def cG:= @List.map_map
def cH:= @decide_eq_true
def cI:= @PySem.Obj.data_mapFields
def cJ:= @List.getLast?_eq_some_getLast
def cK:= @Nat.lt_succ_self
def cM:= @List.foldl_cons
def cN:= @List.take_of_length_le
def cO:= @UInt8.toNat_ofNat'
def cP:= @Bool.and_eq_true_iff
def cQ:= @List.dropLast_concat_getLast
def cS:= @Nat.lt_succ_of_lt
def cT:= @List.filter_append
def cV:= @Prod.mk.injEq
def cX:= @PySem.wpAny_isOneOf_valiter
def cY:= @UInt8.le_iff_toNat_le
def cZ:= @PySem.wpAny_truthy_bool
def c7:= @List.lookup_cons
def c9:= @List.find?_cons
def da:= @List.length_nil
def df:= @Array.getElem?_eq_some_iff
def dg:= @Nat.pow_le_pow_right
def dh:= @List.filter_cons
def di:= @PySem.codeAny_mono
def dj:= @if_true
def dn:= @Array.getElem?_eq_getElem
def du:= @PySem.Heap.SameBut.update
def dv:= @Array.length_toList
def dw:= @Int.toNat_natCast
def dA:= @List.mem_filter
def dC:= @List.mem_append_left
def dD:= @PySem.wpAny_execs_nil
def dE:= @List.mem_map
def dF:= @PySem.wpAny_loadPart'
def dG:= @List.length_set
def dH:= @PySem.tupleKind_room_in1
def dI:= @Nat.lt_irrefl
def dJ:= @PySem.wpAny_throw
def dM:= @decide_eq_false_iff_not
def dO:= @List.length_eq_zero_iff
def dP:= @Bool.false_and
def dQ:= @List.replicate_succ
def dR:= @Nat.le_of_succ_le
def dS:= @Array.getElem?_eq_none
def dU:= @PySem.wpAny_pyIter_enum
def dW:= @PySem.Heap.size_after_update
def dX:= @PySem.wpAny_dictEntries
def dY:= @List.length_singleton
def dZ:= @Array.getElem?_toList
def d6:= @beq_iff_eq
def d7:= @PySem.F.slot_list_extend
def d8:= @PySem.F.type_list_extend
def ee:= @PySem.Paired.length
def eg:= @List.mem_singleton
def ej:= @Nat.ne_of_gt
def ek:= @List.getElem_mem
def et:= @Nat.testBit_and
def eB:= @PySem.pushCells_keeps
def eC:= @UInt8.toNat_inj
def eD:= @List.foldl_append
def eG:= @List.filter_congr
def eI:= @Bool.eq_false_iff
def eJ:= @Nat.mod_eq_of_lt
def eK:= @List.nodup_nil
def eM:= @List.drop_drop
def eO:= @List.nodup_cons
def eP:= @List.all_cons
def eQ:= @Bool.or_eq_true
def eS:= @Nat.lt_trans
def eU:= @List.mem_filter
namespace L2
open PySem PySem.Spec PyProof.Rows
noncomputable abbrev Key:=Sum Int Str
noncomputable def EH:Key->Value->Bool
 |.inl k,v=>Value.isInt k v
 |.inr x,v=>Value.isStrOf x v
noncomputable def Zp(w:World):Key->Int
 |.inl k=>hashInt k
 |.inr x=>hashStr w x
theorem jm:∀{k:Key}{v:Value},EH k v=true->(∃i t,k=Sum.inl i/\v=Value.int i t)\/(∃x t,k=Sum.inr x/\v=Value.str x t)
 |.inl i,v,h=>by
  obtain⟨t,e⟩:=Value.isInt_shape h;exact .inl ⟨i,t,rfl,e⟩
 |.inr x,v,h=>by
  obtain⟨t,e⟩:=Value.isStrOf_shape h;exact .inr ⟨x,t,rfl,e⟩
def Nh(i:Int)(t:Tok):EH (.inl i) (.int i t)=true:=by simp[EH,Value.isInt]
def Ni(x:Str)(t:Tok):EH (.inr x) (.str x t)=true:=by simp[EH,Value.isStrOf]
def Uu(a b:Int):decide ((Sum.inl a:Key)=Sum.inl b)=(a==b):=by
 by_cases e:a=b
 .subst e;simp
 have h:¬(Sum.inl a:Key)=Sum.inl b:=λq=>e (Sum.inl.inj q);rw[aV h];exact(cg.mpr e).symm
def Uv(a b:Str):decide ((Sum.inr a:Key)=Sum.inr b)=decide (a=b):=by
 by_cases e:a=b
 .subst e;simp
 have h:¬(Sum.inr a:Key)=Sum.inr b:=λq=>e (Sum.inr.inj q);rw[aV h,aV e]
def Uw(a:Int)(b:Str):decide ((Sum.inl a:Key)=Sum.inr b)=false:=aV (λq=>nomatch q)
def Ux(a:Str)(b:Int):decide ((Sum.inr a:Key)=Sum.inl b)=false:=aV (λq=>nomatch q)
noncomputable def jM(prog:Program)(w:World):PySem.KeyKind prog w Key where
 is:=EH
 hash:=Zp w
 inj:=λv a b ha hb=>by
  rcases jm ha with⟨i,t,rfl,rfl⟩|⟨x,t,rfl,rfl⟩
  .rcases jm hb with⟨j,u,rfl,e⟩|⟨y,u,rfl,e⟩
   .injection e with e1 _;rw[e1]
   exact nomatch e
  rcases jm hb with⟨j,u,rfl,e⟩|⟨y,u,rfl,e⟩
  .exact nomatch e
  injection e with e1 _;rw[e1]
 byValue:=λk v h=>by
  rcases jm h with⟨i,t,rfl,rfl⟩|⟨x,t,rfl,rfl⟩<;>rfl
 pyHash:=λhv h=>by
  rcases jm hv with⟨i,t,rfl,rfl⟩|⟨x,t,rfl,rfl⟩
  .exact wpAny_pyHash_int h
  exact wpAny_pyHash_str h
 eqBool:=λhu hv h=>by
  rcases jm hu with⟨i,t,rfl,rfl⟩|⟨x,t,rfl,rfl⟩
  .rcases jm hv with⟨j,u,rfl,rfl⟩|⟨y,u,rfl,rfl⟩
   .rw[Uu]at h;exact wpAny_eqBool_int h
   rw[Uw]at h;exact SeqAt.EqAt.int_str i t y u _ _ _ _ h
  rcases jm hv with⟨j,u,rfl,rfl⟩|⟨y,u,rfl,rfl⟩
  .rw[Ux]at h;exact SeqAt.EqAt.str_int x t j u _ _ _ _ h
  rw[Uv]at h;exact wpAny_eqBool_str h
 «strs»:=λk x t v h=>by
  rcases jm h with⟨i,u,rfl,e⟩|⟨y,u,rfl,e⟩
  .exact nomatch e
  injection e with e1 _;subst e1;cases v<;>rfl
def AQ(prog:Program)(w:World)(i:Int)(t:Tok):(jM prog w).is (.inl i) (.int i t)=true:=Nh i t
def Hf(prog:Program)(w:World)(x:Str)(t:Tok):(jM prog w).is (.inr x) (.str x t)=true:=Ni x t
end L2
namespace L2
open PySem PySem.Spec PyProof.Rows
inductive V where
 |hJ|bl (b:Bool)|int (i:Int)|str (x:Str)|JA (b:Array UInt8)|Uy (b:UInt64)|ref (a:Addr)|ty (n:String)
 deriving DecidableEq
def RelV:V->Value->Prop
 |.hJ,u=>u=Value.none
 |.bl b,u=>u=Value.bool b
 |.int i,u=>∃t,u=Value.int i t
 |.str x,u=>∃t,u=Value.str x t
 |.JA b,u=>∃t,u=Value.bytes b t
 |.Uy b,u=>∃t,u=Value.float b t
 |.ref a,u=>u=Value.ref a
 |.ty n,u=>u=Value.type n
abbrev Vals:List V->List Value->Prop:=Paired RelV
theorem Vals.length(r:Vals xs us):xs.length=us.length:=ee r
theorem Vals.get:∀{xs:List V}{us:List Value}{i:Nat}{x:V},Vals xs us->xs[i]? =some x->∃u,us[i]? =some u/\RelV x u
 |_,_,_,_,.nil,e=>by simp at e
 |_,_,0,_,.cons r _,e=>by simp at e;subst e;exact⟨_,rfl,r⟩
 |_,_,i+1,x,.cons _ t,e=>by
  obtain⟨u,h1,h2⟩:=Vals.get t (by simpa using e);exact⟨u,by simpa using h1,h2⟩
theorem Vals.set(r:RelV x u):∀{xs:List V}{us:List Value}(i:Nat),Vals xs us->Vals (xs.set i x) (us.set i u)
 |_,_,_,.nil=>.nil
 |_,_,0,.cons _ t=>.cons r t
 |_,_,i+1,.cons q t=>.cons q (Vals.set r i t)
theorem Vals.append:∀{xs ys:List V}{us ws:List Value},Vals xs us->Vals ys ws->Vals (xs++ys) (us++ws)
 |_,_,_,_,.nil,s=>s
 |_,_,_,_,.cons r t,s=>.cons r (Vals.append t s)
theorem Vals.take:∀{xs:List V}{us:List Value}(n:Nat),Vals xs us->Vals (xs.take n) (us.take n)
 |_,_,0,_=>.nil
 |_,_,_+1,.nil=>.nil
 |_,_,n+1,.cons r t=>.cons r (Vals.take n t)
theorem Vals.drop:∀{xs:List V}{us:List Value}(n:Nat),Vals xs us->Vals (xs.drop n) (us.drop n)
 |_,_,0,r=>r
 |_,_,_+1,.nil=>.nil
 |_,_,n+1,.cons _ t=>Vals.drop n t
def sE:Option V->Option Value->Prop
 |some v,some u=>RelV v u
 |none,none=>True
 |_,_=>False
def KV:List (κ×V)->List (κ×Value)->Prop:=Paired λp q=>p.1=q.1/\RelV p.2 q.2
noncomputable def kV:Key->V
 |.inl i=>.int i
 |.inr x=>.str x
inductive HO where
 |lst (xs:List V)
 |tup (xs:List V)
 |dK (kvs:List (Key×V))|dT (kvs:List (List Key×V))
 |set (S:Int->Bool) (n:Nat)
 |ins (C dx:Addr) (fs:List (Str×V))
 |own (x:Addr)
 |xd (fs:List (Str×V))
 |met (f x:Addr)
 |Zq (lo hi:Int)
 |FJ (o:Obj) (u:HO)
 |Uz (ps:Array Value)
 |ext (φ:Heap->Prop)
noncomputable abbrev Hp:=Addr->Option HO
noncomputable def upd(H:Hp)(a:Addr)(o:HO):Hp:=λb=>if b=a then some o else H b
def eV:upd H a o a=some o:=by unfold upd;rw[ak rfl]
def eY(h:b≠a):upd H a o b=H b:=by unfold upd;rw[ag h]
def gn:upd (upd H a o) a u=upd H a u:=by
 funext b;unfold upd;split<;>rfl
def gK{H:Hp}(h:H a=some o)(h':H b=some u)(d:o≠u):a≠b:=by
 intro e;subst e;rw[h]at h';exact d (ao h')
def ft{H:Hp}(h:H a=some o)(h':H b=none):a≠b:=by
 intro e;subst e;rw[h]at h';cases h'
section
variable(P:Program)(w:World)
def i7(H:Hp)(h:Heap)(a:Addr):HO->Prop
 |.lst xs=>xs.length<=sizeLine/\∃(its:List Value)(n:Nat),Vals xs its/\h.get? a=some {cls:=.type "list",data:=.seq its.toArray n}
 |.tup xs=>xs.length<=sizeLine/\∃its:List Value,Vals xs its/\IsTup h a its.toArray
 |.dK kvs=>kvs.length<=sizeLine/\(a==sysModules)=false/\∃vs,KV kvs vs/\h.DictOf (jM P w) a vs
 |.dT kvs=>kvs.length<=sizeLine/\(a==sysModules)=false/\∃xs:List (List Key×Addr×Value),
   Paired (λp q=>p.1=q.1/\H q.2.1=some (.tup (p.1.map kV))/\RelV p.2 q.2.2) kvs xs/\
   ∃o es ep,h.get? a=some o/\o.ExactDict/\o.data=.dict es ep/\es.toList=xs.map (entryOfKey (tupleKind (jM P w)))/\(xs.map (·.1)).Nodup
 |.set S n=>h.SetOf (intKind P w) a S n
 |.ins C dx fs=>H dx=some (.own a)/\fs.length<=1000/\dx≠a/\h.get? a=some (instObj C dx)/\
   ∃mA,h.Ns1 dx mA/\(∀f,sE (fs.lookup f) (mA f))/\PySem.Within mA (fs.map (·.1))
 |.own _=>∃o,h.get? a=some o
 |.xd fs=>∃mA,h.Ns1 a mA/\∀f,sE (fs.lookup f) (mA f)
 |.Zq lo hi=>∃t u v,h.get? a=some {cls:=.type "range",data:=.fields #[.int lo t,.int hi u,.int 1 v]}
 |.FJ o u=>h.get? a=some o/\i7 H h a u
 |.Uz ps=>h.get? a=some {cls:=.none,data:=.fields ps}
 |.met f x=>h.get? a=some (PySem.W.methodObj (.ref f) (.ref x))
 |.ext φ=>φ h/\(∃o,h.get? a=some o)/\∀h1 h2:Heap,φ h1->(∀o,h1.get? a=some o->h2.get? a=some o)->φ h2
def tU(H:Hp)(h:Heap):Prop:=∀a o,H a=some o->i7 P w H h a o
end
section
variable{P:Program}{w:World}{H H':Hp}{h h':Heap}{a:Addr}{o:HO}
theorem i7.lt(x:i7 P w H h a o):a<h.objs.size:=by
 cases o with
 |lst xs=>obtain⟨_,_,_,_,e⟩:=x;exact aZ e
 |tup xs=>obtain⟨_,_,_,p⟩:=x;exact p.lt
 |dK kvs=>obtain⟨_,_,_,_,o,_,_,e,_⟩:=x;exact aZ e
 |dT kvs=>obtain⟨_,_,_,_,o,_,_,e,_⟩:=x;exact aZ e
 |set S n=>obtain⟨o,_,_,_,e,_⟩:=x;exact aZ e
 |ins C dx fs=>obtain⟨_,_,_,e,_⟩:=x;exact aZ e
 |own y=>obtain⟨_,e⟩:=x;exact aZ e
 |xd fs=>obtain⟨_,⟨_,_,_,e,_⟩,_⟩:=x;exact aZ e
 |Zq lo hi=>obtain⟨_,_,_,e⟩:=x;exact aZ e
 |FJ ob u=>obtain⟨e,_⟩:=x;exact aZ e
 |Uz ps=>exact aZ (show h.get? a=some _ from x)
 |met f y=>exact aZ (show h.get? a=some _ from x)
 |ext φ=>obtain⟨_,⟨_,e⟩,_⟩:=x;exact aZ e
theorem Paired.UA:∀{l₁:List α}{l₂:List β},Paired F l₁ l₂->(∀a b,F a b->G a b)->Paired G l₁ l₂
 |_,_,.nil,_=>.nil
 |_,_,.cons r t,f=>.cons (f _ _ r) (Paired.UA t f)
theorem i7.Eg(x:i7 P w H h a o)(k:∀b u,(b=a\/H b=some (.own a))->h.get? b=some u->h'.get? b=some u)
  (ho:∀b,H b=some (.own a)->H' b=some (.own a)) (ht:∀b xs,H b=some (.tup xs)->H' b=some (.tup xs)):i7 P w H' h' a o:=by
 induction o with
 |lst xs=>obtain⟨z,its,n,r,e⟩:=x;exact⟨z,its,n,r,k _ _ (.inl rfl) e⟩
 |tup xs=>obtain⟨z,its,r,ob,e,c⟩:=x;exact⟨z,its,r,ob,k _ _ (.inl rfl) e,c⟩
 |dK kvs=>obtain⟨z,y,vs,r,ob,es,ep,e,c⟩:=x;exact⟨z,y,vs,r,ob,es,ep,k _ _ (.inl rfl) e,c⟩
 |dT kvs=>
  obtain⟨z,y,xs,r,ob,es,ep,e,c⟩:=x;exact⟨z,y,xs,Paired.UA r λp q z=>⟨z.1,ht _ _ z.2.1,z.2.2⟩,ob,es,ep,k _ _ (.inl rfl) e,c⟩
 |set S n=>obtain⟨ob,es,ep,t,e,c⟩:=x;exact⟨ob,es,ep,t,k _ _ (.inl rfl) e,c⟩
 |ins C dx fs=>
  obtain⟨d,z,ne,e,mA,⟨od,es,ep,e2,c⟩,r⟩:=x;exact⟨ho _ d,z,ne,k _ _ (.inl rfl) e,mA,⟨od,es,ep,k _ _ (.inr d) e2,c⟩,r⟩
 |own y=>obtain⟨ob,e⟩:=x;exact⟨ob,k _ _ (.inl rfl) e⟩
 |xd fs=>obtain⟨mA,⟨od,es,ep,e,c⟩,r⟩:=x;exact⟨mA,⟨od,es,ep,k _ _ (.inl rfl) e,c⟩,r⟩
 |Zq lo hi=>obtain⟨t,u,v,e⟩:=x;exact⟨t,u,v,k _ _ (.inl rfl) e⟩
 |FJ ob u ih=>obtain⟨e,q⟩:=x;exact⟨k _ _ (.inl rfl) e,ih q⟩
 |Uz ps=>
  have e:=x;exact k a _ (.inl rfl) e
 |met f y=>
  have e:=x;exact k a _ (.inl rfl) e
 |ext φ=>obtain⟨p,⟨o,e⟩,st⟩:=x;exact⟨st _ _ p λo q=>k _ _ (.inl rfl) q,⟨o,k _ _ (.inl rfl) e⟩,st⟩
theorem tU.lt(x:tU P w H h)(e:H a=some o):a<h.objs.size:=(x a o e).lt
theorem tU.fresh(x:tU P w H h)(e:h.objs.size<=a):H a=none:=by
 cases q:H a with
 |none=>rfl
 |some u=>exact absurd (aS (x.lt q) e) (dI _)
def tU.kept(x:tU P w H h)(k:∀b u,h.get? b=some u->h'.get? b=some u):tU P w H h':=λa o e=>
 (x a o e).Eg (λb u _ q=>k b u q) (λ_ q=>q) λ_ _ q=>q
def tU.laid(x:tU P w H h)(k:∀b u,h.get? b=some u->h'.get? b=some u)(hp:h.objs.size<=a)(new:i7 P w (upd H a o) h' a o):tU P w (upd H a o) h':=λb u e=>by
 have hn:=x.fresh hp;by_cases hb:b=a
 .subst hb;rw[eV]at e;cases e;exact new
 rw[eY hb]at e;exact(x b u e).Eg (λc v _ q=>k c v q) (λc q=>by rw[eY (ft q hn)];exact q) λc xs q=>by rw[eY (ft q hn)];exact q
end
def Rd(H:Hp)(a:Addr)(u:HO):Prop:=H a=some u\/∃o,H a=some (.FJ o u)
def Rd.ok(r:Rd H a u)(x:tU P w H h):i7 P w H h a u:=by
 rcases r with r|⟨o,r⟩
 .exact x a u r
 obtain⟨_,q⟩:=x a _ r;exact q
def Tc:Option HO->Prop
 |some (.lst _)=>True
 |some (.dK _)=>True
 |some (.dT _)=>True
 |some (.set _ _)=>True
 |some (.ins _ _ _)=>True
 |some (.ext _)=>True
 |_=>False
section
variable{P:Program}{w:World}{H:Hp}{h h':Heap}{x e:Addr}{o':HO}
def tU.write(ok:tU P w H h)(mu:Tc (H x))(he:e=x\/H e=some (.own x))(k:∀b u,b≠e->h.get? b=some u->h'.get? b=some u)(heo:∃u,h'.get? e=some u)
  (new:i7 P w (upd H x o') h' x o'):tU P w (upd H x o') h':=λb u q=>by
 have nown:∀c y,H c=some (.own y)->c≠x:=λc y r z=>by subst z;rw[r]at mu;exact mu
 have ntup:∀c xs,H c=some (.tup xs)->c≠x:=λc xs r z=>by subst z;rw[r]at mu;exact mu
 by_cases hb:b=x
 .subst hb;rw[eV]at q;cases q;exact new
 rw[eY hb]at q;by_cases hbe:b=e
 .have q':H b=some (.own x):=by
   rcases he with z|z
   .exact absurd (hbe.trans z) hb
   rw[hbe];exact z
  rw[q]at q';cases q';obtain⟨v,hv⟩:=heo;exact⟨v,by rw[hbe];exact hv⟩
 refine(ok b u q).Eg (λc v hc r=>k c v ?_ r) (λc r=>by rw[eY (nown c b r)];exact r) λc xs r=>by rw[eY (ntup c xs r)];exact r
 rcases hc with rfl|hc
 .exact hbe
 rintro rfl;rcases he with z|z
 .exact nown c b hc z
 rw[hc]at z;cases z;exact hb rfl
end
structure Un(fs ex:List Addr)(H H':Hp)(h h':Heap):Prop where
 keep:∀b o,h.get? b=some o->H b=none->b∉fs->b∉ex->h'.get? b=some o
 slot:∀b o,h.get? b=some o->H b=none->b∈fs->b∉ex->∃sl,h'.get? b=some {o with slots:=sl}
 free:∀b o,h.get? b=some o->H b=none->b∉ex->H' b=none
 there:∀b o,h.get? b=some o->b∉ex->∃o',h'.get? b=some o'
 FK:∀b xs,H b=some (.tup xs)->H' b=some (.tup xs)
 Eh:∀b o u,H b=some (.FJ o u)->H' b=some (.FJ o u)
 FL:∀b ps,H b=some (.Uz ps)->∃more,H' b=some (.Uz (ps++more))
section
variable{fs Uj ex ex':List Addr}{H H1 H2:Hp}{h h1 h2 h':Heap}{a x e:Addr}{o:HO}
def Un.any(u:Un fs ex H H1 h h1)(q:h.get? b=some ob)(n:H b=none)(hx:b∉ex):∃sl,h1.get? b=some {ob with slots:=sl}:=by
 by_cases hb:b∈fs
 .exact u.slot b ob q n hb hx
 exact⟨ob.slots,u.keep b ob q n hb hx⟩
def Un.kept(k:∀b u,h.get? b=some u->h'.get? b=some u):Un fs ex H H h h':=
 ⟨λb ob q _ _ _=>k b ob q,λb ob q _ _ _=>⟨ob.slots,k b ob q⟩,λ_ _ _ n _=>n,λb ob q _=>⟨ob,k b ob q⟩,λ_ _ q=>q,λ_ _ _ q=>q,λ_ ps q=>⟨#[],by rw[q];simp⟩⟩
def Un.refl:Un fs ex H H h h:=Un.kept λ_ _ q=>q
def Un.laid(k:∀b u,h.get? b=some u->h'.get? b=some u)(hp:h.objs.size<=a)(hn:H a=none):Un fs ex H (upd H a o) h h' where
 keep:=λb u q _ _ _=>k b u q
 slot:=λb u q _ _ _=>⟨u.slots,k b u q⟩
 free:=λb u q n _=>by rw[eY (a9 (aS (aZ q) hp))];exact n
 there:=λb u q _=>⟨u,k b u q⟩
 FK:=λb xs q=>by rw[eY (ft q hn)];exact q
 Eh:=λb u xs q=>by rw[eY (ft q hn)];exact q
 FL:=λb ps q=>⟨#[],by rw[eY (ft q hn),q];simp⟩
def Un.write(mu:Tc (H x))(he:e=x\/H e=some (.own x))(k:∀b u,b≠e->h.get? b=some u->h'.get? b=some u)(heo:∃u,h'.get? e=some u):Un fs ex H (upd H x o) h h':=by
 have hx:∀b,H b=none->b≠x:=λb n z=>by subst z;rw[n]at mu;exact mu
 have hb:∀b,H b=none->b≠e:=λb n z=>by
  subst z;rcases he with r|r
  .exact hx b n r
  rw[n]at r;cases r
 have hm:∀b u,H b=some u->¬Tc (some u)->b≠x:=λb u q nm z=>by subst z;rw[q]at mu;exact nm mu
 refine⟨λb u q n _ _=>k b u (hb b n) q,λb u q n _ _=>⟨u.slots,k b u (hb b n) q⟩,λb u q n _=>by rw[eY (hx b n)];exact n,λb u q _=>?_,
  λb xs q=>by rw[eY (hm b _ q λz=>z)];exact q,λb u xs q=>by rw[eY (hm b _ q λz=>z)];exact q,λb ps q=>⟨#[],by rw[eY (hm b _ q λz=>z),q];simp⟩⟩
 by_cases hbe:b=e
 .subst hbe;exact heo
 exact⟨u,k b u hbe q⟩
end
noncomputable def YB(h:Heap)(H:Hp):List Addr:=(List.range h.objs.size).filter λa=>(H a).isSome
noncomputable def FN(h:Heap)(H:Hp):Heap:=PySem.W.hideAll h (YB h H)
def Nj(h:Heap)(H:Hp):(FN h H).objs.size=h.objs.size:=PySem.W.hideAll_size _ _
def OE(e:h.get? b=some o)(n:H b=none):(FN h H).get? b=some o:=
 PySem.W.hideAll_get _ e λhm=>by
  have q:=(dA.mp hm).2;rw[n]at q;simp at q
theorem RF(e:(FN h H).get? b=some o):h.get? b=some o/\H b=none:=by
 have e':h.get? b=some o:=PySem.W.of_hideAll (YB h H) e;refine⟨e',?_⟩;cases q:H b with
 |none=>rfl
 |some x=>
  have hm:b∈YB h H:=dA.mpr ⟨List.mem_range.mpr (aZ e'),by simp[q]⟩;have z:(FN h H).get? b=none:=PySem.W.hideAll_none (YB h H) hm;rw[z]at e;cases e
end L2
namespace L2
open PySem PySem.Spec PyProof.Rows
structure Mod(K:Frag)(mg:Str->Option Value)(base:Heap):Prop where
 Td:K.In base
 glob:base.Ns mainGlobals mg
 blt:∃mb,base.Ns builtinsNs mb/\∀x:Str,x≠"__name__"->mb x=bootBuiltins x
 nolimit:base.NoLimit
structure Cx where
 prog:Program
 w:World
 K:Frag
 mg:Str->Option Value
 base:Heap
 A:Around
 N:List Str
 Ee:Shared
 Wq:Hp
 env:Env
 outer:List Env
 stack:List Env
 ex:List Addr
 fn:Str->Bool
 calm:Bool
 pn:List (Addr×Obj)
 xe:Value->Shared->Prop
noncomputable def Ac(l:List Env):List Addr:=l.filterMap (·.frame)
noncomputable abbrev Cx.fs(X:Cx):List Addr:=Ac X.outer
def RG(sc:Scope)(x:Str):Prop:=sc.names.lookup x=some .local\/sc.names.lookup x=some .cell\/sc.names.lookup x=some .free
def Loc(sc:Scope)(x:Str):Prop:=sc.names.lookup x=some .local\/sc.names.lookup x=some .cell
def Look(env:Env)(h:Heap)(m:Str->Option Value)(x:Str)(u:Value):Prop:=
 (env.kindOf x=some .local/\m x=some u)\/((env.kindOf x=some .cell\/env.kindOf x=some .free)/\∃c,env.cells.lookup x=some c/\h.IsCell c (some u))
structure Cx.Ok(X:Cx):Prop where
 mod:Mod X.K X.mg X.base
 kind:X.env.scope.kind=.function
 glob:X.env.globals=mainGlobals
 blt:X.env.builtins=builtinsNs
 above:X.Ee.heap.objs.size<=X.env.locals
 inj:∀x y c,X.env.cells.lookup x=some c->X.env.cells.lookup y=some c->x=y
 has:∀x,(X.env.kindOf x=some .cell\/X.env.kindOf x=some .free)->∃c,X.env.cells.lookup x=some c
 RH:∀x c,X.fn x=true->X.env.cells.lookup x=some c->X.Ee.heap.objs.size<=c
 hd:X.calm=true->X.A.handled=none
 frames:X.A.frames=some X.stack
 Te:X.stack=X.outer\/(X.stack=X.env::X.outer/\X.env.frame=some X.env.locals)
 Tf:∀b∈X.ex,b≠X.env.locals/\∀x c,X.env.cells.lookup x=some c->c≠b
 bs:∀b o,X.base.get? b=some o->X.Ee.heap.get? b=some o/\X.Wq b=none
 JG:X.base.objs.size<=X.Ee.heap.objs.size
 FO:∀b o,X.base.get? b=some o->b∉X.ex
 FP:∀b∈X.ex,b∉X.fs
 u7:X.Ee.heap.FunFrames X.base X.outer
 Ox:∀b∈X.fs,X.Wq b=none
structure Inv(X:Cx)(pins:List (Addr×Obj))(σ:List (Option V))(H:Hp)(s:Shared):Prop where
 ok:X.Ok
 os:s.os=X.Ee.os
 bare:AllBare s.gens
 base:Un X.fs X.ex X.Wq H X.Ee.heap s.heap
 loc:∃m,s.heap.Ns X.env.locals m/\∀(i:Nat)(x:Str)(v:V),X.N[i]? =some x->σ[i]? =some (some v)->RG X.env.scope x->∃u,RelV v u/\Look X.env s.heap m x u
 cell:∀x c,X.env.cells.lookup x=some c->∃v,s.heap.IsCell c v
 free:H X.env.locals=none
 pD:∀x c,X.env.cells.lookup x=some c->H c=none
 pin:∀p∈X.pn++pins,s.heap.get? p.1=some p.2/\H p.1=none/\p.1≠X.env.locals/\p.1∉X.fs/\∀v,p.2.data≠.cell v
 gZ:tU X.prog X.w H s.heap
 len:σ.length=X.N.length
section
variable{X:Cx}{pins:List (Addr×Obj)}{σ:List (Option V)}{H H':Hp}{s:Shared}{h':Heap}
def Cx.Ok.Zr(ok:X.Ok)(e:X.base.get? b=some o):b∉X.fs:=λhb=>by
 have:=(ok.u7.mem hb).1;rw[e]at this;cases this
theorem Inv.bs(I:Inv X pins σ H s):∀b o,X.base.get? b=some o->s.heap.get? b=some o/\H b=none:=λb o e=>
 ⟨I.base.keep b o (I.ok.bs b o e).1 (I.ok.bs b o e).2 (I.ok.Zr e) (I.ok.FO b o e),I.base.free b o (I.ok.bs b o e).1 (I.ok.bs b o e).2 (I.ok.FO b o e)⟩
def Inv.bk(I:Inv X pins σ H s):∀b o,X.base.get? b=some o->s.heap.get? b=some o:=λb o e=>(I.bs b o e).1
theorem Inv.mod(I:Inv X pins σ H s):Mod X.K X.mg X.base:=I.ok.mod
def Inv.pS(I:Inv X pins σ H s):X.K.In s.heap:=I.ok.mod.Td.keeps I.bk
def Inv.fr(I:Inv X pins σ H s):∃m,Fr X.base X.env.locals s.heap m:=
 let⟨m,hn,_⟩:=I.loc
 ⟨m,hn,I.bk,a7 I.ok.JG I.ok.above⟩
theorem Inv.lt(I:Inv X pins σ H s):X.env.locals<s.heap.objs.size:=let⟨_,hn,_⟩:=I.loc;hn.lt
def Inv.sz(I:Inv X pins σ H s):X.Ee.heap.objs.size<=s.heap.objs.size:=a7 I.ok.above (le_of_lt I.lt)
def Inv.Zs(I:Inv X pins σ H s)(h:s.heap.objs.size<=a):a∉X.fs:=λhb=>by
 obtain⟨_,o,ho,_⟩:=I.ok.u7.mem hb;exact absurd (aS (aZ ho) (a7 I.sz h)) (dI _)
def Inv.Tg(I:Inv X pins σ H s):∀x c,X.env.cells.lookup x=some c->c≠X.env.locals:=λx c e z=>by
 obtain⟨v,o,ho,hd⟩:=I.cell x c e;obtain⟨m,⟨_,_,_,ho',Eb,_⟩,_⟩:=I.loc;rw[z,ho']at ho;cases ho;rw[Eb]at hd;cases hd
theorem Inv.u7(I:Inv X pins σ H s):s.heap.FunFrames X.base X.outer:=by
 have all:∀(l:List Env),(∀b∈Ac l,b∈X.fs)->X.Ee.heap.FunFrames X.base l->s.heap.FunFrames X.base l:=by
  intro l;induction l with
  |nil=>intro _ _;trivial
  |cons env r ih=>
   intro hs hl;obtain⟨hk,⟨L,o,hf,hn,ho,hd⟩,hr⟩:=hl;have hL:=hs L (by unfold Ac;rw[List.filterMap_cons,hf];exact aM);obtain⟨sl,e⟩:=I.base.slot L o ho (I.ok.Ox L hL) hL λz=>I.ok.FP L z hL;exact⟨hk,⟨L,_,hf,hn,e,hd⟩,ih (λb hb=>hs b (by unfold Ac;rw[List.filterMap_cons,hf];exact aC _ hb)) hr⟩
 exact all X.outer (λ_ hb=>hb) I.ok.u7
theorem Inv.stack(I:Inv X pins σ H s):s.heap.FunFrames X.base X.stack:=by
 rcases I.ok.Te with e|⟨e,hf⟩
 .rw[e];exact I.u7
 rw[e];obtain⟨m,hn,_⟩:=I.loc;refine .cons (by rw[I.ok.kind];decide) hf hn ?_ I.u7;exact Heap.get?_none_of_le (a7 I.ok.JG I.ok.above)
def Inv.JH(I:Inv X pins σ H s):∀b∈Ac X.stack,b∈X.env.locals::X.fs:=λb hb=>by
 rcases I.ok.Te with e|⟨e,hf⟩
 .rw[e]at hb;exact aC _ hb
 rw[e]at hb;unfold Ac at hb;rw[List.filterMap_cons,hf]at hb;exact hb
def Inv.FQ(I:Inv X pins σ H s):∀b∈Ac X.stack,H b=none:=λb hb=>by
 rcases aA.mp (I.JH b hb)with e|hb
 .rw[e];exact I.free
 obtain⟨_,o,ho,_⟩:=I.ok.u7.mem hb;exact I.base.free b o ho (I.ok.Ox b hb) λz=>I.ok.FP b z hb
def Inv.step{g':Array GenState}{t':Nat}{d':Drawn}{ch:List Addr}(I:Inv X pins σ H s)
  (hch:∀b∈ch,(b∈X.ex\/X.Ee.heap.objs.size<=b)/\b≠X.env.locals/\(∀x c,X.env.cells.lookup x=some c->c≠b)/\∀p∈X.pn++pins,p.1≠b)
  (keep:∀b o,b≠X.env.locals->b∉X.fs->b∉ch->s.heap.get? b=some o->H b=none->h'.get? b=some o)
  (slot:∀b o,b≠X.env.locals->b∈X.fs->b∉ch->s.heap.get? b=some o->H b=none->∃sl,h'.get? b=some {o with slots:=sl}) (free:∀b o,b∉ch->s.heap.get? b=some o->H b=none->H' b=none)
  (there:∀b o,b∉ch->s.heap.get? b=some o->∃o',h'.get? b=some o')
  (FK:∀b xs,H b=some (.tup xs)->H' b=some (.tup xs)) (Eh:∀b o u,H b=some (.FJ o u)->H' b=some (.FJ o u)) (FL:∀b ps,H b=some (.Uz ps)->∃more,H' b=some (.Uz (ps++more)))
  (ns:∀m,s.heap.Ns X.env.locals m->h'.Ns X.env.locals m) (gZ:tU X.prog X.w H' h') (hg:AllBare g'):
  Inv X pins σ H' {s with heap:=h',gens:=g',drawn:=d',toks:=t'}:=by
 have neL:∀b o,X.Ee.heap.get? b=some o->b≠X.env.locals:=λb o e=>a9 (aS (aZ e) I.ok.above)
 have neC:∀b o,X.Ee.heap.get? b=some o->b∉X.ex->b∉ch:=λb o e hx hb=>by
  rcases(hch b hb).1 with z|z
  .exact hx z
  exact absurd (aS (aZ e) z) (dI _)
 have cellK:∀x c,X.env.cells.lookup x=some c->∀v,s.heap.IsCell c v->h'.IsCell c v:=λx c e v⟨o,ho,hd⟩=>by
  have XC:c∉ch:=λz=>(hch c z).2.2.1 x c e rfl;by_cases hc:c∈X.fs
  .obtain⟨sl,q⟩:=slot c o (I.Tg x c e) hc XC ho (I.pD x c e);exact⟨_,q,hd⟩
  exact⟨o,keep c o (I.Tg x c e) hc XC ho (I.pD x c e),hd⟩
 refine⟨I.ok,I.os,hg,⟨λb o e n hb hx=>?_,λb o e n hb hx=>?_,λb o e n hx=>?_,λb o e hx=>?_,λb xs e=>FK b xs (I.base.FK b xs e),λb o xs e=>Eh b o xs (I.base.Eh b o xs e),λb ps e=>?_⟩,?_,λx c e=>?_,?_,λx c e=>?_,λp hp=>?_,gZ,I.len⟩
 .exact keep b o (neL b o e) hb (neC b o e hx) (I.base.keep b o e n hb hx) (I.base.free b o e n hx)
 .obtain⟨sl,e1⟩:=I.base.slot b o e n hb hx;obtain⟨sl',e2⟩:=slot b _ (neL b o e) hb (neC b o e hx) e1 (I.base.free b o e n hx);exact⟨sl',e2⟩
 .obtain⟨o',e1⟩:=I.base.there b o e hx;exact free b o' (neC b o e hx) e1 (I.base.free b o e n hx)
 .obtain⟨o',e1⟩:=I.base.there b o e hx;exact there b o' (neC b o e hx) e1
 .obtain⟨m1,e1⟩:=I.base.FL b ps e;obtain⟨m2,e2⟩:=FL b _ e1;exact⟨m1++m2,by rw[e2,Array.append_assoc]⟩
 .obtain⟨m,hn,hl⟩:=I.loc;refine⟨m,ns m hn,λi x v e1 e2 e3=>?_⟩;obtain⟨u,r,l⟩:=hl i x v e1 e2 e3;refine⟨u,r,?_⟩;rcases l with l|⟨k,c,e,z⟩
  .exact .inl l
  exact .inr ⟨k,c,e,cellK x c e _ z⟩
 .obtain⟨v,z⟩:=I.cell x c e;exact⟨v,cellK x c e v z⟩
 .obtain⟨m,⟨o,_,_,ho,_⟩,_⟩:=I.loc;exact free _ o (λz=>(hch _ z).2.1 rfl) ho I.free
 .obtain⟨v,o,ho,hd⟩:=I.cell x c e;exact free c o (λz=>(hch c z).2.2.1 x c e rfl) ho (I.pD x c e)
 obtain⟨e,n,ne,nf,d⟩:=I.pin p hp;have XC:p.1∉ch:=λz=>(hch p.1 z).2.2.2 p hp rfl;exact⟨keep p.1 p.2 ne nf XC e n,free p.1 p.2 XC e n,ne,nf,d⟩
def Inv.un{t':Nat}(I:Inv X pins σ H s)(u:Un X.fs [] H H' s.heap h')(gZ:tU X.prog X.w H' h'):Inv X pins σ H' {s with heap:=h',toks:=t'}:=by
 obtain⟨m,⟨o,es,ep,ho,r⟩,_⟩:=id I.loc;obtain⟨sl,hL⟩:=u.any ho I.free (by simp)
 exact I.step (ch:=[]) (λ_ z=>nomatch z) (λb o _ hb _ e n=>u.keep b o e n hb (by simp)) (λb o _ hb _ e n=>u.slot b o e n hb (by simp)) (λb o _ e n=>u.free b o e n (by simp)) (λb o _ e=>u.there b o e (by simp)) u.FK u.Eh u.FL (λm' hm=>by
  obtain⟨o',es',Z7,ho',r'⟩:=hm;rw[ho]at ho';cases ho';exact⟨_,es',Z7,hL,r'⟩) gZ I.bare
def Inv.call(I:Inv X pins σ H s)(u:Un (Ac X.stack) ch H H' s.heap h')(gZ:tU X.prog X.w H' h')(hg:AllBare g')
  (hch:∀b∈ch,(b∈X.ex\/X.Ee.heap.objs.size<=b)/\b≠X.env.locals/\(∀x c,X.env.cells.lookup x=some c->c≠b)/\∀p∈X.pn++pins,p.1≠b):
  Inv X pins σ H' {s with heap:=h',gens:=g',drawn:=d',toks:=t'}:=by
 obtain⟨m,⟨o,es,ep,ho,r⟩,_⟩:=id I.loc;obtain⟨sl,hL⟩:=u.any ho I.free λz=>(hch _ z).2.1 rfl
 exact I.step hch (λb o hL hb hc e n=>u.keep b o e n (λz=>(aA.mp (I.JH b z)).elim hL hb) hc) (λb o _ _ hc e n=>u.any e n hc) (λb o hc e n=>u.free b o e n hc) (λb o hc e=>u.there b o e hc) u.FK u.Eh u.FL (λm' hm=>by
  obtain⟨o',es',Z7,ho',r'⟩:=hm;rw[ho]at ho';cases ho';exact⟨_,es',Z7,hL,r'⟩) gZ hg
def Inv.turned{t':Nat}{it:Addr}(I:Inv X pins σ H s)(k:∀b o,b≠it->s.heap.get? b=some o->h'.get? b=some o)(hn:H it=none)(hL:it≠X.env.locals)
  (h1:it∈X.ex\/X.Ee.heap.objs.size<=it) (h2:∀x c,X.env.cells.lookup x=some c->c≠it) (h3:∀p∈X.pn++pins,p.1≠it):Inv X pins σ H {s with heap:=h',toks:=t'}:=by
 have XD:∀b u,H b=some u->b≠it:=λb u e z=>by rw[z,hn]at e;cases e
 refine I.step (ch:=[it]) (λb hb=>?_) (λb o _ _ hc e _=>k b o (λz=>hc (by simp[z])) e) (λb o _ _ hc e _=>⟨o.slots,k b o (λz=>hc (by simp[z])) e⟩) (λ_ _ _ _ n=>n)
  (λb o hc e=>⟨o,k b o (λz=>hc (by simp[z])) e⟩) (λ_ _ e=>e) (λ_ _ _ e=>e) (λb ps e=>⟨#[],by rw[e];simp⟩) (λm hm=>?_) (λb u e=>?_) I.bare
 .have e:b=it:=by simpa using hb
  subst e;exact⟨h1,hL,h2,h3⟩
 .obtain⟨o,es,ep,ho,r⟩:=hm;exact⟨o,es,ep,k _ o (aW hL) ho,r⟩
 refine(I.gZ b u e).Eg (λc v hc q=>k c v ?_ q) (λ_ q=>q) λ_ _ q=>q;rcases hc with z|z
 .rw[z];exact XD b u e
 exact XD c _ z
def Inv.tok(I:Inv X pins σ H s)(t:Nat):Inv X pins σ H {s with toks:=t}:=I.un Un.refl I.gZ
theorem Inv.kept(I:Inv X pins σ H s)(k:∀b u,s.heap.get? b=some u->h'.get? b=some u):Inv X pins σ H {s with heap:=h',toks:=t'}:=I.un (Un.kept k) (I.gZ.kept k)
theorem Inv.laid(I:Inv X pins σ H s)(k:∀b u,s.heap.get? b=some u->h'.get? b=some u)(hp:s.heap.objs.size<=a)(new:i7 X.prog X.w (upd H a o) h' a o):
  Inv X pins σ (upd H a o) {s with heap:=h',toks:=t'}:=I.un (Un.laid k hp (I.gZ.fresh hp)) (I.gZ.laid k hp new)
theorem Inv.write(I:Inv X pins σ H s)(mu:Tc (H x))(he:e=x\/H e=some (.own x))(k:∀b u,b≠e->s.heap.get? b=some u->h'.get? b=some u)(heo:∃u,h'.get? e=some u)
  (new:i7 X.prog X.w (upd H x o) h' x o):Inv X pins σ (upd H x o) {s with heap:=h',toks:=t'}:=I.un (Un.write mu he k heo) (I.gZ.write mu he k heo new)
def Inv.weak(I:Inv X pins σ H s)(hl:σ'.length=σ.length)(w:∀(i:Nat) v,σ'[i]? =some (some v)->σ[i]? =some (some v)):Inv X pins σ' H s:=
 ⟨I.ok,I.os,I.bare,I.base,let⟨m,hn,XE⟩:=I.loc;⟨m,hn,λi x v e1 e2 e3=>XE i x v e1 (w i v e2) e3⟩,I.cell,I.free,I.pD,I.pin,I.gZ,hl.trans I.len⟩
def Inv.K0(I:Inv X pins σ H s)(h:∀p∈Js,s.heap.get? p.1=some p.2/\H p.1=none/\p.1≠X.env.locals/\p.1∉X.fs/\∀v,p.2.data≠.cell v):Inv X Js σ H s:=
 ⟨I.ok,I.os,I.bare,I.base,I.loc,I.cell,I.free,I.pD,λp hp=>(aG.mp hp).elim (λz=>I.pin p (dC _ z)) (h p),I.gZ,I.len⟩
def Ct{N:List Str}(hN:N.Nodup){i j:Nat}{x:Str}(a:N[i]? =some x)(b:N[j]? =some x):i=j:=by
 obtain⟨h1,e1⟩:=ay.mp a;obtain⟨h2,e2⟩:=ay.mp b;exact(List.getElem_inj hN).mp (e1.trans e2.symm)
def Nk{M:Model}{A:Around}{E:Value->Shared->Prop}{i:Nat}{x:Str}{v:V}{u:Value}{Q:Unit->Shared->Prop}(I:Inv X pins σ H s)(hN:X.N.Nodup)(hi:X.N[i]? =some x)(hx:Loc X.env.scope x)(r:RelV v u)
  (h:∀s',Inv X pins (σ.set i (some v)) H s'->(∃a,Heap.SameBut a s.heap s'.heap/\(a=X.env.locals\/X.env.cells.lookup x=some a))->Q () s') (hf:X.fn x=true\/X.env.scope.names.lookup x=some .local:=by first|exact .inl rfl|exact .inr rfl|assumption):wpAny M A (storeName X.env x u) Q E s:=by
 obtain⟨m,hn,hl⟩:=id I.loc;have Z8:(X.env.scope.kind==.class||(X.env.scope.kind==.module&&X.env.locals !=X.env.globals))=false:=by rw[I.ok.kind];rfl
 have hiσ:i<σ.length:=by rw[I.len];exact(ay.mp hi).1
 have Tg:=I.Tg
 have tracked:∀{a:Addr}{h':Heap},(∃o,s.heap.get? a=some o/\H a=none)->Heap.SameBut a s.heap h'->tU X.prog X.w H h':=λ{a h'} ha hs b ob e=>by
  obtain⟨_,_,FI⟩:=ha;refine(I.gZ b ob e).Eg (λc w' hc q=>(hs.2 c ?_).trans q) (λ_ q=>q) λ_ _ q=>q;rintro rfl;rcases hc with rfl|hc
  .rw[FI]at e;cases e
  rw[FI]at hc;cases hc
 rcases hx with hk|hk
 .refine wpAny_storeName_local hk hn (λh' Vp hs=>?_) Z8;obtain⟨oL,_,_,XF,_⟩:=id hn;refine h _ ⟨I.ok,I.os,I.bare,⟨λb o e n hb hx=>?_,λb o e n hb hx=>?_,I.base.free,λb o e hx=>?_,I.base.FK,I.base.Eh,I.base.FL⟩,⟨_,Vp,λj y v' e1 e2 e3=>?_⟩,λy c e=>?_,I.free,I.pD,λp hp=>?_,tracked ⟨oL,XF,I.free⟩ hs,by simpa using I.len⟩ ⟨_,hs,.inl rfl⟩
  .exact(hs.2 b (a9 (aS (aZ e) I.ok.above))).trans (I.base.keep b o e n hb hx)
  .obtain⟨sl,e1⟩:=I.base.slot b o e n hb hx;exact⟨sl,(hs.2 b (a9 (aS (aZ e) I.ok.above))).trans e1⟩
  .obtain⟨o',e1⟩:=I.base.there b o e hx;exact⟨o',(hs.2 b (a9 (aS (aZ e) I.ok.above))).trans e1⟩
  .by_cases hj:j=i
   .subst hj;rw[hi]at e1;cases e1;rw[bD hiσ]at e2;cases e2;exact⟨u,r,.inl ⟨hk,by simp⟩⟩
   rw[bj (aW hj)]at e2;obtain⟨u',r',q⟩:=hl j y v' e1 e2 e3;refine⟨u',r',?_⟩;rcases q with⟨k,e⟩|⟨k,c,e,z⟩
   .refine .inl ⟨k,?_⟩;have:y≠x:=λe=>hj (Ct hN e1 (e▸hi));simp[this,e]
   exact .inr ⟨k,c,e,z.sameBut hs (Tg y c e)⟩
  .obtain⟨w',z⟩:=I.cell y c e;exact⟨w',z.sameBut hs (Tg y c e)⟩
  obtain⟨e,n,ne,nf,d⟩:=I.pin p hp;exact⟨(hs.2 p.1 ne).trans e,n,ne,nf,d⟩
 have Z9:X.fn x=true:=by
  rcases hf with z|z
  .exact z
  rw[z]at hk;cases hk
 obtain⟨c,hc⟩:=I.ok.has x (.inl hk);obtain⟨w',z⟩:=I.cell x c hc;refine wpAny_storeName_cell I.ok.kind hk hc z λh' V8 hs=>?_;obtain⟨oc,hoc,aaa⟩:=id z;refine h {s with heap:=h'} ⟨I.ok,I.os,I.bare,⟨λb o e n hb hx=>?_,λb o e n hb hx=>?_,I.base.free,λb o e hx=>?_,I.base.FK,I.base.Eh,I.base.FL⟩,⟨m,hn.sameBut hs (aW (Tg x c hc)),λj y v' e1 e2 e3=>?_⟩,λy c' e=>?_,I.free,I.pD,λp hp=>?_,tracked ⟨oc,hoc,I.pD x c hc⟩ hs,by simpa using I.len⟩ ⟨c,hs,.inr hc⟩
 .exact(hs.2 b (a9 (aS (aZ e) (I.ok.RH x c Z9 hc)))).trans (I.base.keep b o e n hb hx)
 .obtain⟨sl,e1⟩:=I.base.slot b o e n hb hx;exact⟨sl,(hs.2 b (a9 (aS (aZ e) (I.ok.RH x c Z9 hc)))).trans e1⟩
 .obtain⟨o',e1⟩:=I.base.there b o e hx;exact⟨o',(hs.2 b (a9 (aS (aZ e) (I.ok.RH x c Z9 hc)))).trans e1⟩
 .by_cases hj:j=i
  .subst hj;rw[hi]at e1;cases e1;rw[bD hiσ]at e2;cases e2;exact⟨u,r,.inr ⟨.inl hk,c,hc,V8⟩⟩
  rw[bj (aW hj)]at e2;obtain⟨u',r',q⟩:=hl j y v' e1 e2 e3;refine⟨u',r',?_⟩;rcases q with q|⟨k,c',e,z'⟩
  .exact .inl q
  refine .inr ⟨k,c',e,z'.sameBut hs ?_⟩;rintro rfl;exact hj (Ct hN e1 (I.ok.inj _ _ _ e hc▸hi))
 .by_cases hcc:c'=c
  .subst hcc;exact⟨_,V8⟩
  obtain⟨w2,z2⟩:=I.cell y c' e;exact⟨w2,z2.sameBut hs hcc⟩
 obtain⟨e,n,ne,nf,d⟩:=I.pin p hp;refine⟨(hs.2 p.1 ?_).trans e,n,ne,nf,d⟩;intro q;rw[q,hoc]at e;have q':oc=p.2:=ao e;exact d w' (by rw[<-q'];exact aaa)
def yw(I:Inv X pins σ H s)(hN:X.N.Nodup)(hi:X.N[i]? =some x)(hx:Loc X.env.scope x)(r:RelV v u)
  (h:∀s',Inv X pins (σ.set i (some v)) H s'->Q () s') (hf:X.fn x=true\/X.env.scope.names.lookup x=some .local:=by first|exact .inl rfl|exact .inr rfl|assumption):wpAny M A (storeName X.env x u) Q E s:=
 Nk I hN hi hx r (λs' I' _=>h s' I') hf
def Inv.OF(I:Inv X pins σ H s)(ho:s'.os=s.os)(u:Un (Ac X.stack) ch H H' s.heap s'.heap)(gZ:tU X.prog X.w H' s'.heap)(hg:AllBare s'.gens)
  (hch:∀b∈ch,(b∈X.ex\/X.Ee.heap.objs.size<=b)/\b≠X.env.locals/\(∀x c,X.env.cells.lookup x=some c->c≠b)/\∀p∈X.pn++pins,p.1≠b):Inv X pins σ H' s':=by
 obtain⟨h',g',d',t',o'⟩:=s';have e:=ho;subst e;exact I.call u gZ hg hch
end
noncomputable abbrev XK:=Value->Option Addr->Hp->Prop
noncomputable abbrev St:=List (Option V)
noncomputable abbrev VK:=V->Hp->Prop
noncomputable abbrev TE:=St->Hp->VK->Prop
noncomputable abbrev TT:=St->Hp->(Bool->Hp->Prop)->Prop
noncomputable abbrev TA:=St->Hp->(List V->Hp->Prop)->Prop
structure Ends where
 nx:St->Hp->Prop
 rt:VK
 bk:St->Hp->Prop:=λ_ _=>False
 ct:St->Hp->Prop:=λ_ _=>False
noncomputable abbrev TS:=Ends->St->Hp->Prop
inductive EP(X:Cx)(pins:List (Addr×Obj))(σ:St)(Q:VK)(u:Value)(s':Shared):Prop
 |mk:∀v H',Inv X pins σ H' s'->RelV v u->Q v H'->EP X pins σ Q u s'
def TP(X:Cx)(pins:List (Addr×Obj))(σ:St)(Q:Bool->Hp->Prop)(b:Bool)(s':Shared):Prop:=∃H',Inv X pins σ H' s'/\Q b H'
inductive AP(X:Cx)(pins:List (Addr×Obj))(σ:St)(Q:List V->Hp->Prop)(us:List Value)(s':Shared):Prop
 |mk:∀vs H',Inv X pins σ H' s'->Vals vs us->Q vs H'->AP X pins σ Q us s'
def SP(X:Cx)(pins:List (Addr×Obj))(D:Ends)(f:Flow)(s':Shared):Prop:=
 match f with
 |.next=>∃σ' H',Inv X pins σ' H' s'/\D.nx σ' H'
 |.brk=>∃σ' H',Inv X pins σ' H' s'/\D.bk σ' H'
 |.cont=>∃σ' H',Inv X pins σ' H' s'/\D.ct σ' H'
 |.ret u=>∃v σ' H',Inv X pins σ' H' s'/\RelV v u/\D.rt v H'
def PE(X:Cx)(e:Expr)(t:TE):Prop:=
 ∀(pins:List (Addr×Obj))(s:Shared)(σ:St)(H:Hp)(Q:VK),Inv X pins σ H s->t σ H Q->wpAny (model X.prog X.w) X.A (eval e X.env) (EP X pins σ Q) X.xe s
def PT(X:Cx)(e:Expr)(t:TT):Prop:=
 ∀(pins:List (Addr×Obj))(s:Shared)(σ:St)(H:Hp)(Q:Bool->Hp->Prop),Inv X pins σ H s->t σ H Q->wpAny (model X.prog X.w) X.A (isTrue e X.env (eval e X.env)) (TP X pins σ Q) X.xe s
def PW(X:Cx)(e:Expr)(t:TT):Prop:=
 ∀(whole:Sem Value)(pins:List (Addr×Obj))(s:Shared)(σ:St)(H:Hp)(Q:Bool->Hp->Prop),Inv X pins σ H s->t σ H Q->wpAny (model X.prog X.w) X.A (isTrue e X.env whole) (TP X pins σ Q) X.xe s
def PW.pt(h:PW X e t):PT X e t:=h _
def PA(X:Cx)(es:List Expr)(t:TA):Prop:=
 ∀(pos:Pos)(pins:List (Addr×Obj))(s:Shared)(σ:St)(H:Hp)(Q:List V->Hp->Prop),Inv X pins σ H s->t σ H Q->wpAny (model X.prog X.w) X.A (spliced (backTo pos (starEach es X.env))) (AP X pins σ Q) X.xe s
def PS(X:Cx)(st:Stmt)(t:TS):Prop:=
 ∀(pins:List (Addr×Obj))(s:Shared)(σ:St)(H:Hp)(D:Ends),Inv X pins σ H s->t D σ H->wpAny (model X.prog X.w) X.A (exec st X.env) (SP X pins D) X.xe s
def Hg(X:Cx)(st:List Stmt)(t:TS):Prop:=
 ∀(pins:List (Addr×Obj))(s:Shared)(σ:St)(H:Hp)(D:Ends),Inv X pins σ H s->t D σ H->wpAny (model X.prog X.w) X.A (execs st X.env) (SP X pins D) X.xe s
def iO(h:wpAny M A t Q E s)(hQ:∀a s,Q a s->Q' a s):wpAny M A t Q' E s:=bp h hQ λ_ _ x=>x
end L2
namespace L2
open PySem PySem.Spec PyProof.Rows
section
variable{X:Cx}
inductive jk(i:Nat)(σ:St)(H:Hp)(Q:VK):Prop
 |mk:∀v,σ[i]? =some (some v)->Q v H->jk i σ H Q
def tC(v:V):TE:=λ_ H Q=>Q v H
def Ad{i:Nat}(hN:X.N[i]? =some x)(hv:RG X.env.scope x)(hd:(x==("__debug__":Str))=false:=by decide)(hcd:(x==("__classdict__":Str))=false:=by decide):PE X (.Name x pos) (jk i):=by
 intro pins s σ H Q I h;obtain⟨v,e,h⟩:=h;obtain⟨m,hn,hl⟩:=I.loc;obtain⟨u,r,l⟩:=hl i x v hN e hv;have fin:EP X pins σ Q u s:=⟨v,H,I,r,h⟩;rcases l with⟨hk,hm⟩|⟨hk,c,hc,Ec⟩
 .exact wpAny_Name (wpAny_loadName_local I.ok.kind hk hn hm fin) hd
 rcases hk with hk|hk
 .exact wpAny_Name (wpAny_loadName_cell I.ok.kind hk hc Ec fin) hd
 exact wpAny_Name (wpAny_loadName_free I.ok.kind hk hc Ec fin hcd) hd
def fA{i j pos}:PE X (.Constant (.int i) j pos) (tC (.int i)):=λ_ _ _ H _ I h=>wpAny_Constant_int ⟨.int i,H,I.tok _,⟨_,rfl⟩,h⟩
def wV{b j pos}:PE X (.Constant (.bool b) j pos) (tC (.bl b)):=λ_ _ _ H _ I h=>Constant_bool ⟨.bl b,H,I,rfl,h⟩
def qb{j pos}:PE X (.Constant .none j pos) (tC .hJ):=λ_ _ _ H _ I h=>Constant_none ⟨.hJ,H,I,rfl,h⟩
def gY{x j pos}:PE X (.Constant (.str x) j pos) (tC (.str x)):=λ_ _ _ H _ I h=>Calls.Constant_str ⟨.str x,H,I.tok _,⟨_,rfl⟩,h⟩
def Gl(X:Cx)(x:Str):Prop:=X.env.kindOf x=some .globalImplicit
def oJ(I:Inv X pins σ H s)(hg:Gl X x)(hm:X.mg x=some u)(h:Q u s)
  (hd:(x==("__debug__":Str))=false:=by decide):wpAny (model X.prog X.w) X.A (eval (.Name x pos) X.env) Q E s:=
 Calls.Name_function_global I.ok.kind hg (Calls.loadGlobal_global (by rw[I.ok.glob];exact I.mod.glob.keeps I.bk) hm h) hd
def tV(I:Inv X pins σ H s)(hg:Gl X x)(hm:X.mg x=none)(hv:bootBuiltins x=some u)(h:Q u s)
  (hn:x≠"__name__":=by decide) (hd:(x==("__debug__":Str))=false:=by decide):wpAny (model X.prog X.w) X.A (eval (.Name x pos) X.env) Q E s:=by
 obtain⟨mb,h1,h2⟩:=I.mod.blt;exact Calls.Name_function_global I.ok.kind hg (Calls.loadGlobal_builtin (by rw[I.ok.glob];exact I.mod.glob.keeps I.bk) hm (by rw[I.ok.blt];exact h1.keeps I.bk) ((h2 x hn).trans hv) h) hd
def RI(hg:Gl X x)(hm:X.mg x=some u)(r:RelV v u)(hd:(x==("__debug__":Str))=false:=by decide):PE X (.Name x pos) (tC v):=
 λ_ _ _ H _ I h=>oJ I hg hm ⟨v,H,I,r,h⟩ hd
variable{a b:Expr}{ta tb:TE}{pos:Pos}
def PC(X:Cx)(op:CmpOp)(a b:Expr)(t:TE):Prop:=
 ∀(pins:List (Addr×Obj))(s:Shared)(σ:St)(H:Hp)(Q:VK),Inv X pins σ H s->t σ H Q->
  wpAny (model X.prog X.w) X.A (eval a X.env) (λv s₁=>wpAny (model X.prog X.w) X.A (eval b X.env) (λu s₂=>wpAny (model X.prog X.w) X.A (compareOp op v u) (EP X pins σ Q) X.xe s₂) X.xe s₁) X.xe s
inductive tBI(Q:Bool->Hp->Prop)(x:V)(H1:Hp):Prop
 |mk:∀c,(x=.bl c)->(Q c H1)->tBI Q x H1
def tB(t:TE):TT:=λσ H Q=>t σ H λx H1=>tBI Q x H1
def Cu(h:PC X op a b t)(h1:behindInMarks op b=false:=by first|exact Wr _ (by decide) (by decide)|rfl):PT X (.Compare a [op] [b] pos) (tB t):=by
 intro pins s σ H Q I hw;refine wpAny_isTrue_Compare1 (iO (h pins s σ H _ I hw) λv s1 h1=>iO h1 λu s2 h2=>iO h2 λc s3⟨x,H1,I1,r1,q1⟩=>?_) h1;obtain⟨d,rfl,q⟩:=q1;cases r1;exact cZ ⟨H1,I1,q⟩
def jd(h:PE X e t)(he:∀whole,isTrue e X.env whole=(do let v<-whole;standAt e.pos;holding [v] (truthy v)):=by intro _;rfl):PT X e (tB t):=by
 intro pins s σ H Q I hw;refine isTrue_plain (iO (h pins s σ H _ I hw) λv s1⟨x,H1,I1,r1,q1⟩=>?_) (he _);obtain⟨d,rfl,q⟩:=q1;cases r1;exact cZ ⟨H1,I1,q⟩
variable{tA YM:TT}{rest:List Expr}
def Zt(t u:TT):TT:=λσ H Q=>t σ H λc H1=>if c=true then u σ H1 Q else Q false H1
def tOr(t u:TT):TT:=λσ H Q=>t σ H λc H1=>if c=true then Q true H1 else u σ H1 Q
def Ws(t:TT):TT:=λσ H Q=>t σ H λc H1=>Q (!c) H1
theorem qX(ha:PT X a tA):PW X (.BoolOp .And [a] pos) tA:=by
 intro wh pins s σ H Q I h;refine isTrue_and (iO (ha pins s σ H Q I h) λc s1 e=>?_);cases c with
 |true=>exact isTrue_and_nil e
 |false=>exact e
theorem og(ha:PT X a tA):PW X (.BoolOp .Or [a] pos) tA:=by
 intro wh pins s σ H Q I h;refine isTrue_or (iO (ha pins s σ H Q I h) λc s1 e=>?_);cases c with
 |false=>exact isTrue_or_nil e
 |true=>exact e
theorem qc(ha:PT X a tA)(hb:PW X (.BoolOp .And (b::rest) pos) YM):PW X (.BoolOp .And (a::b::rest) pos) (Zt tA YM):=by
 intro wh pins s σ H Q I h;refine isTrue_and (iO (ha pins s σ H _ I h) λc s1⟨H1,I1,q1⟩=>?_);cases c with
 |true=>exact hb wh pins s1 σ H1 Q I1 q1
 |false=>exact⟨H1,I1,q1⟩
theorem qd(ha:PT X a tA)(hb:PW X (.BoolOp .Or (b::rest) pos) YM):PW X (.BoolOp .Or (a::b::rest) pos) (tOr tA YM):=by
 intro wh pins s σ H Q I h;refine isTrue_or (iO (ha pins s σ H _ I h) λc s1⟨H1,I1,q1⟩=>?_);cases c with
 |true=>exact⟨H1,I1,q1⟩
 |false=>exact hb wh pins s1 σ H1 Q I1 q1
def qe(ha:PT X a tA):PT X (.UnaryOp .Not a pos) (Ws tA):=by
 intro pins s σ H Q I h;exact isTrue_not (ha pins s σ H (λc H1=>Q (!c) H1) I h)
inductive OG(tb:TE)(σ:St)(Q:VK)(x:V)(H1:Hp):Prop
 |mk:∀c,(x=.bl c)->(if c=true then tb σ H1 Q else Q (.bl false) H1)->OG tb σ Q x H1
def OH(ta tb:TE):TE:=λσ H Q=>ta σ H λx H1=>OG tb σ Q x H1
def Ae{op}(h:PE X a t):PE X (.BoolOp op [a] pos) t:=λpins s σ H Q I hw=>BoolOp_one (h pins s σ H Q I hw)
theorem Af(ha:PE X a ta)(hb:PE X (.BoolOp .And (b::rest) pos) tb):PE X (.BoolOp .And (a::b::rest) pos) (OH ta tb):=by
 intro pins s σ H Q I h;refine BoolOp_and (iO (ha pins s σ H _ I h) λv s1⟨x,H1,I1,r1,q1⟩=>?_);obtain⟨c,rfl,q1⟩:=q1;cases r1;refine cZ ?_;cases c with
 |true=>exact hb pins s1 σ H1 Q I1 q1
 |false=>exact⟨.bl false,H1,I1,rfl,q1⟩
def tIf(t:TT)(ta tb:TE):TE:=λσ H Q=>t σ H λc H1=>if c=true then ta σ H1 Q else tb σ H1 Q
theorem OI(hc:PT X c tA)(ha:PE X a ta)(hb:PE X b tb):PE X (.IfExp c a b pos) (tIf tA ta tb):=by
 intro pins s σ H Q I h;refine wpAny_IfExp (iO (hc pins s σ H _ I h) λd s1⟨H1,I1,q1⟩=>?_);cases d with
 |true=>exact ha pins s1 σ H1 Q I1 q1
 |false=>exact hb pins s1 σ H1 Q I1 q1
end
end L2
namespace L2
open PySem PySem.Spec PyProof.Rows
def gC(K:Frag)(H:Hp)(a:Addr)(xs:List V):Prop:=
 Rd H a (.lst xs)\/
  ∃(o:Obj)(its:Array Value)(n:Nat),K.lookup a=some o/\o.cls=.type "list"/\o.dict=none/\o.data=.seq its n/\its.size<=sizeLine/\Vals xs its.toList
def m5(K:Frag)(H:Hp)(a:Addr)(xs:List V):Prop:=
 Rd H a (.tup xs)\/
  ∃(o:Obj)(its:Array Value)(n:Nat),K.lookup a=some o/\o.cls=.type "tuple"/\o.data=.seq its n/\its.size<=sizeLine/\Vals xs its.toList
noncomputable def Zu:Value->Option V
 |.none=>some .hJ
 |.bool b=>some (.bl b)
 |.int i _=>some (.int i)
 |.str x _=>some (.str x)
 |.bytes b _=>some (.JA b)
 |.float b _=>some (.Uy b)
 |.ref a=>some (.ref a)
 |.type n=>some (.ty n)
 |_=>none
theorem RelV.abs(r:RelV x u):Zu u=some x:=by
 cases x with
 |hJ=>cases r;rfl
 |bl _=>cases r;rfl
 |int _=>obtain⟨t,rfl⟩:=r;rfl
 |str _=>obtain⟨t,rfl⟩:=r;rfl
 |JA _=>obtain⟨t,rfl⟩:=r;rfl
 |Uy _=>obtain⟨t,rfl⟩:=r;rfl
 |ref _=>cases r;rfl
 |ty _=>cases r;rfl
theorem RelV.inj(r:RelV x u)(q:RelV y u):x=y:=ao (r.abs.symm.trans q.abs)
theorem Vals.inj:∀{xs ys:List V}{us:List Value},Vals xs us->Vals ys us->xs=ys
 |_,_,_,.nil,.nil=>rfl
 |_,_,_,.cons r t,.cons r' t'=>by rw[r.inj r',Vals.inj t t']
section
variable{X:Cx}{pins:List (Addr×Obj)}{σ:St}{H:Hp}{s:Shared}{a:Addr}{xs ys:List V}
def gC.of{K:Frag}(h:H a=some (.lst xs)):gC K H a xs:=.inl (.inl h)
def m5.of{K:Frag}(h:H a=some (.tup xs)):m5 K H a xs:=.inl (.inl h)
def Inv.list(I:Inv X pins σ H s)(h:gC X.K H a xs):∃its:List Value,Vals xs its/\PlainL s.heap a its.toArray/\xs.length<=sizeLine:=by
 rcases h with h|⟨o,its,n,hk,hc,hd,hs,hz,r⟩
 .obtain⟨z,its,n,r,e⟩:=h.ok I.gZ;exact⟨its,r,⟨_,n,e,rfl,rfl,rfl⟩,z⟩
 refine⟨its.toList,r,⟨o,n,I.pS a o hk,hc,hd,by simpa using hs⟩,?_⟩;have e:=r.length;simp only[dv]at e;omega
def Inv.tuple(I:Inv X pins σ H s)(h:m5 X.K H a xs):∃its:List Value,Vals xs its/\IsTup s.heap a its.toArray/\xs.length<=sizeLine:=by
 rcases h with h|⟨o,its,n,hk,hc,hs,hz,r⟩
 .obtain⟨z,its,r,p⟩:=h.ok I.gZ;exact⟨its,r,p,z⟩
 refine⟨its.toList,r,⟨o,I.pS a o hk,hc,n,by simpa using hs⟩,?_⟩;have e:=r.length;simp only[dv]at e;omega
def Inv.Cv(I:Inv X pins σ H s)(h:gC X.K H a xs)(h':gC X.K H a ys):xs=ys:=by
 obtain⟨its,r,⟨o,n,e,_,_,d⟩,_⟩:=I.list h;obtain⟨its',r',⟨_,_,e',_,_,d'⟩,_⟩:=I.list h';rw[e]at e';cases e';rw[d]at d';injection d' with d1 _;have:its=its':=by simpa using aQ Array.toList d1
 subst this;exact r.inj r'
def Inv.EI(I:Inv X pins σ H s)(h:m5 X.K H a xs)(h':m5 X.K H a ys):xs=ys:=by
 obtain⟨its,r,⟨o,e,_,n,d⟩,_⟩:=I.tuple h;obtain⟨its',r',⟨_,e',_,_,d'⟩,_⟩:=I.tuple h';rw[e]at e';cases e';rw[d]at d';injection d' with d1 _;have:its=its':=by simpa using aQ Array.toList d1
 subst this;exact r.inj r'
end
noncomputable abbrev Cx.Nl(X:Cx)(E:Value->Shared->Prop):Cx:={X with xe:=E}
theorem Cx.Ok.Nl{X:Cx}(ok:X.Ok)(E:Value->Shared->Prop):(X.Nl E).Ok:=
 ⟨ok.mod,ok.kind,ok.glob,ok.blt,ok.above,ok.inj,ok.has,ok.RH,ok.hd,ok.frames,ok.Te,ok.Tf,ok.bs,ok.JG,ok.FO,ok.FP,ok.u7,ok.Ox⟩
section
variable{X:Cx}{pins:List (Addr×Obj)}{σ:St}{H:Hp}{s:Shared}{E:Value->Shared->Prop}
theorem Inv.Nl(I:Inv X pins σ H s)(E:Value->Shared->Prop):Inv (X.Nl E) pins σ H s:=⟨I.ok.Nl E,I.os,I.bare,I.base,I.loc,I.cell,I.free,I.pD,I.pin,I.gZ,I.len⟩
end
section
variable{X:Cx}{st:Stmt}{rest:List Stmt}{t u:TS}{e:Expr}{te:TE}{pos:Pos}
def Hh:TS:=λD σ H=>D.nx σ H
def gP(t u:TS):TS:=λD σ H=>t {D with nx:=u D} σ H
def fB:Hg X [] Hh:=λ_ _ σ H _ I h=>dD ⟨σ,H,I,h⟩
theorem eW(h1:PS X st t)(h2:Hg X rest u):Hg X (st::rest) (gP t u):=by
 intro pins s σ H D I h;refine wpAny_execs_cons (iO (h1 pins s σ H {D with nx:=u D} I h) λf s1 q=>?_);cases f with
 |next=>
  obtain⟨σ',H',I',q⟩:=q;exact h2 pins s1 σ' H' D I' q
 |ret v=>exact q
 |brk=>exact q
 |cont=>exact q
theorem ff(h1:PS X st t):Hg X [st] t:=by
 intro pins s σ H D I h;refine wpAny_execs_cons (iO (h1 pins s σ H D I h) λf s1 q=>?_);cases f with
 |next=>exact dD q
 |ret v=>exact q
 |brk=>exact q
 |cont=>exact q
def Inv.quiet(I:Inv X pins σ H s):interactive X.env=false:=by simp[interactive,I.ok.kind]
def K2(te:TE):TS:=λD σ H=>te σ H λ_ H1=>D.nx σ H1
def gi(he:PE X e te)(hs:swapsWith e none pos.line X.env=pure false:=by rfl):PS X (.Expr e pos) (K2 te):=by
 intro pins s σ H D I h;exact wpAny_Expr_any (iO (he pins s σ H _ I h) λv s1⟨x,H1,I1,r1,q1⟩=>⟨σ,H1,I1,q1⟩) I.quiet hs
def BZ(te:TE):TS:=λD σ H=>te σ H D.rt
def tW(he:PE X e te):PS X (.Return (some e) pos) (BZ te):=by
 intro pins s σ H D I h;exact wpAny_Return_some (iO (he pins s σ H _ I h) λv s1⟨x,H1,I1,r1,q1⟩=>⟨x,σ,H1,I1,r1,q1⟩)
def OJ(c:TT)(t u:TS):TS:=λD σ H=>c σ H λb H1=>if b=true then t D σ H1 else u D σ H1
theorem fS(hc:PT X c tc)(ha:Hg X a t)(hb:Hg X b u):PS X (.If c a b pos) (OJ tc t u):=by
 intro pins s σ H D I h;refine wpAny_If (iO (hc pins s σ H _ I h) λd s1⟨H1,I1,q1⟩=>?_);cases d with
 |true=>exact ha pins s1 σ H1 D I1 q1
 |false=>exact hb pins s1 σ H1 D I1 q1
end
noncomputable abbrev TG:=V->St->Hp->(St->Hp->Prop)->Prop
noncomputable abbrev Wt:=List V->St->Hp->(St->Hp->Prop)->Prop
def PG(X:Cx)(target:Expr)(t:TG):Prop:=
 ∀(pins:List (Addr×Obj))(s:Shared)(σ:St)(H:Hp)(v:V)(u:Value)(Q:St->Hp->Prop),Inv X pins σ H s->RelV v u->t v σ H Q->
  wpAny (model X.prog X.w) X.A (assign target X.env u) (λ_ s'=>∃σ' H',Inv X pins σ' H' s'/\Q σ' H') X.xe s
def YC(X:Cx)(ts:List Expr)(t:Wt):Prop:=
 ∀(pins:List (Addr×Obj))(s:Shared)(σ:St)(H:Hp)(vs:List V)(us:List Value)(Q:St->Hp->Prop),Inv X pins σ H s->Vals vs us->t vs σ H Q->
  wpAny (model X.prog X.w) X.A (assignInOrder ((assignEach ts X.env).map (·.2)) us) (λ_ s'=>∃σ' H',Inv X pins σ' H' s'/\Q σ' H') X.xe s
noncomputable abbrev UB:=V->V->V->Hp->(Hp->Prop)->Prop
def UC(X:Cx)(t:UB):Prop:=
 ∀(pins:List (Addr×Obj))(s:Shared)(σ:St)(H:Hp)(o i v:V)(ov iv u:Value)(Q:Hp->Prop),Inv X pins σ H s->RelV o ov->RelV i iv->RelV v u->t o i v H Q->
  wpAny (model X.prog X.w) X.A (setItem ov iv u) (λ_ s'=>∃H',Inv X pins σ H' s'/\Q H') X.xe s
noncomputable abbrev Zv:=V->V->Hp->VK->Prop
def Wu(X:Cx)(op:Operator)(t:Zv):Prop:=
 ∀(pins:List (Addr×Obj))(s:Shared)(σ:St)(H:Hp)(x y:V)(v u:Value)(Q:VK),Inv X pins σ H s->RelV x v->RelV y u->t x y H Q->
  wpAny (model X.prog X.w) X.A (inplaceOp op v u) (EP X pins σ Q) X.xe s
section
variable{X:Cx}{pos:Pos}
def EJ(i:Nat):TG:=λv σ H Q=>Q (σ.set i (some v)) H
def ib(hN:X.N.Nodup)(hi:X.N[i]? =some x)(hx:Loc X.env.scope x)(hf:X.fn x=true\/X.env.scope.names.lookup x=some .local:=by first|exact .inl rfl|exact .inr rfl|assumption):PG X (.Name x pos) (EJ i):=by
 intro pins s σ H v u Q I r h;exact wpAny_assign_Name (yw I hN hi hx r (λs' I'=>⟨_,H,I',h⟩) hf)
def Zw:Wt:=λvs σ H Q=>vs=[]/\Q σ H
inductive Th(t:TG)(u:Wt)(vs:List V)(σ:St)(H:Hp)(Q:St->Hp->Prop):Prop
 |mk:∀v r,vs=v::r->(t v σ H λσ' H'=>u r σ' H' Q)->Th t u vs σ H Q
def FR:YC X [] Zw:=by
 intro pins s σ H vs us Q I r h;obtain⟨e,h⟩:=h;subst e;cases r;exact assignInOrder_nil ⟨σ,H,I,h⟩
theorem sI(h1:PG X e t)(h2:YC X es u)
  (hs:(assignEach (e::es) X.env).map (·.2)=assign e X.env::(assignEach es X.env).map (·.2):=by rfl):YC X (e::es) (Th t u):=by
 intro pins s σ H vs us Q I r h;obtain⟨v,vr,e1,h⟩:=h;subst e1;cases r with
 |cons r rr=>
  rw[hs];refine assignInOrder_cons (iO (h1 pins s σ H _ _ _ I r h) λ_ s1⟨σ1,H1,I1,q1⟩=>?_);exact h2 pins s1 σ1 H1 _ _ Q I1 rr q1
inductive Wv(K:Frag)(n:Nat)(t:Wt)(v:V)(σ:St)(H:Hp)(Q:St->Hp->Prop):Prop
 |mk:∀a xs,v=.ref a->m5 K H a xs->xs.length=n->t xs σ H Q->Wv K n t v σ H Q
def JI{es:List Expr}{k:Nat}{t:Wt}{n:Nat}(hc:X.calm=true)(h:YC X es t)
  (hn:(assignEach es X.env).length=n:=by rfl) (hst:(assignEach es X.env).findIdx? (·.1)=none:=by rfl):PG X (.Tuple es k pos) (Wv X.K n t):=by
 intro pins s σ H v u Q I r hw;obtain⟨a,xs,e1,hq,hl,hw⟩:=hw;subst e1;cases r;obtain⟨its,rv,ht,hz⟩:=I.tuple hq;refine assign_Tuple_tuple (I.ok.hd hc) ht (by simp[hn,<-hl,rv.length]) hst λh' hx=>?_;have I1:Inv X pins σ H {s with heap:=h'}:=I.kept λb o e=>hx b o (a9 (aZ e)) e;exact h pins _ σ H xs _ Q I1 (by simpa using rv) hw
def Zx(to ti:TE)(t:UB):TG:=λv σ H Q=>to σ H λo H1=>ti σ H1 λi H2=>t o i v H2 λH3=>Q σ H3
def OK(ho:PE X o to)(hi:PE X i ti)(hs:UC X t)
  (ha:∀v,assign (.Subscript o i pos) X.env v=(do
   let ov<-holding [v] (eval o X.env)
   let iv<-holding [v,ov] (eval i X.env)
   standAt pos
   holding [v,ov,iv] (setItem ov iv v)
   release [v,ov,iv] []):=by intro _;rfl):PG X (.Subscript o i pos) (Zx to ti t):=by
 intro pins s σ H v u Q I r h;rw[ha];refine af (b9 (iO (ho pins s σ H _ I h) λov s1⟨x,H1,I1,r1,q1⟩=>?_));refine af (b9 (iO (hi pins s1 σ H1 _ I1 q1) λiv s2⟨y,H2,I2,r2,q2⟩=>?_));refine af (bP (af (b9 (iO (hs pins s2 σ H2 x y v ov iv u _ I2 r1 r2 r q2) λ_ s3⟨H3,I3,q3⟩=>?_))));exact wpAny_release ⟨σ,H3,I3,q3⟩
def OL(te:TE)(g:TG):TS:=λD σ H=>te σ H λx H1=>g x σ H1 D.nx
def OM(he:PE X e te)(hg:PG X tg g)(hs:swapsWithSole [tg] e pos.line X.env=pure false:=by rfl)(hw:swappedStores [tg] e X.env=pure none:=by rfl)
  (h1:(assignEach [tg] X.env).map (·.2)=[assign tg X.env]:=by rfl):PS X (.Assign [tg] e pos) (OL te g):=by
 intro pins s σ H D I h;refine wpAny_Assign_stores (iO (he pins s σ H _ I h) λv s1⟨x,H1,I1,r1,q1⟩=>?_) hs hw;rw[h1];exact iO (hg pins s1 σ H1 x v _ I1 r1 q1) λ_ s2 q=>q
def UD(hN:X.N.Nodup)(hi:X.N[i]? =some x)(hx:Loc X.env.scope x)(he:PE X e te)(hs:swapsWith e (some (.Name x pos')) pos.line X.env=pure false:=by rfl)(hf:X.fn x=true\/X.env.scope.names.lookup x=some .local:=by first|exact .inl rfl|exact .inr rfl|assumption):
  PS X (.Assign [.Name x pos'] e pos) (OL te (EJ i)):=by
 intro pins s σ H D I h;refine wpAny_Assign_Name (iO (he pins s σ H _ I h) λv s1⟨y,H1,I1,r1,q1⟩=>?_) hs;exact yw I1 hN hi hx r1 (λs2 I2=>⟨_,H1,I2,q1⟩) hf
inductive Ww(i:Nat)(te:TE)(ti:Zv)(D:Ends)(σ:St)(H:Hp):Prop
 |mk:∀x,σ[i]? =some (some x)->(te σ H λy H1=>ti x y H1 λz H2=>D.nx (σ.set i (some z)) H2)->Ww i te ti D σ H
def xQ(hN:X.N.Nodup)(hi:X.N[i]? =some x)(hx:Loc X.env.scope x)(he:PE X e te)(ho:Wu X op ti)(hf:X.fn x=true\/X.env.scope.names.lookup x=some .local:=by first|exact .inl rfl|exact .inr rfl|assumption):
  PS X (.AugAssign (.Name x pos') op e pos) (Ww i te ti):=by
 intro pins s σ H D I h;obtain⟨v,e1,h⟩:=h;obtain⟨m,hn,hl⟩:=I.loc;have vis:RG X.env.scope x:=by rcases hx with k|k;exact .inl k;exact .inr (.inl k)
 obtain⟨u,r,l⟩:=hl i x v hi e1 vis;refine wpAny_AugAssign_Name ?_
 have go:wpAny (model X.prog X.w) X.A (eval e X.env) (λw s₂=>wpAny (model X.prog X.w) X.A (inplaceOp op u w) (λr s₃=>wpAny (model X.prog X.w) X.A (storeName X.env x r) (λ_=>SP X pins D .next) X.xe s₃) X.xe s₂) X.xe s:=by
  refine iO (he pins s σ H _ I h) λw s1⟨y,H1,I1,r1,q1⟩=>?_;refine iO (ho pins s1 σ H1 v y u w _ I1 r r1 q1) λz s2⟨zv,H2,I2,r2,q2⟩=>?_;exact yw I2 hN hi hx r2 (λs3 I3=>⟨_,H2,I3,q2⟩) hf
 rcases l with⟨hk,hm⟩|⟨hk,c,hc,Ec⟩
 .exact wpAny_loadName_local I.ok.kind hk hn hm go
 rcases hk with hk|hk
 .exact wpAny_loadName_cell I.ok.kind hk hc Ec go
 rcases hx with k|k
 .have:X.env.scope.names.lookup x=some .free:=hk;rw[k]at this;cases this
 have:X.env.scope.names.lookup x=some .free:=hk;rw[k]at this;cases this
def Wx(to ti te:TE)(tget:V->V->Hp->VK->Prop)(tip:Zv)(tset:UB):TS:=λD σ H=>to σ H λo H1=>ti σ H1 λi H2=>tget o i H2 λx H3=>te σ H3 λy H4=>tip x y H4 λz H5=>tset o i z H5 λH6=>D.nx σ H6
def Wy(X:Cx)(t:V->V->Hp->VK->Prop):Prop:=
 ∀(pins:List (Addr×Obj))(s:Shared)(σ:St)(H:Hp)(o i:V)(ov iv:Value)(Q:VK),Inv X pins σ H s->RelV o ov->RelV i iv->t o i H Q->
  wpAny (model X.prog X.w) X.A (getItem ov iv) (EP X pins σ Q) X.xe s
def K3(ho:PE X o to)(hi:PE X i ti)(hg:Wy X tget)(he:PE X e te)(hp:Wu X op tip)(hs:UC X tset)
  (ha:∀ov iv new,augStore i ov iv new=(do holding [new,ov,iv] (setItem ov iv new);release [new,ov,iv] [];pure .next):=by intros;rfl):PS X (.AugAssign (.Subscript o i Jt) op e pos) (Wx to ti te tget tip tset):=by
 intro pins s σ H D I h;refine wpAny_AugAssign_SubscriptAny (iO (ho pins s σ H _ I h) λov s1⟨x1,H1,I1,r1,q1⟩=>?_) ha;refine iO (hi pins s1 σ H1 _ I1 q1) λiv s2⟨x2,H2,I2,r2,q2⟩=>?_;refine iO (hg pins s2 σ H2 x1 x2 ov iv _ I2 r1 r2 q2) λold s3⟨x3,H3,I3,r3,q3⟩=>?_;refine iO (he pins s3 σ H3 _ I3 q3) λv s4⟨x4,H4,I4,r4,q4⟩=>?_;refine iO (hp pins s4 σ H4 x3 x4 old v _ I4 r3 r4 q4) λnew s5⟨x5,H5,I5,r5,q5⟩=>?_;exact iO (hs pins s5 σ H5 x1 x2 x5 ov iv new _ I5 r1 r2 r5 q5) λ_ s6⟨H6,I6,q6⟩=>⟨σ,H6,I6,q6⟩
inductive YD(f:Int->Int->Int)(x:V)(y:V)(H:Hp)(Q:VK):Prop
 |mk:∀i j,x=.int i->y=.int j->Q (.int (f i j)) H->YD f x y H Q
def Cw:Wu X .Add (YD λi j=>i+j):=by
 intro pins s σ H x y v u Q I r1 r2 h;obtain⟨i,j,e1,e2,q⟩:=h;subst e1;subst e2;obtain⟨t,rfl⟩:=r1;obtain⟨t',rfl⟩:=r2;exact iadd_int ⟨.int _,H,I.tok _,⟨_,rfl⟩,q⟩
end
section
variable{X:Cx}{pos:Pos}
def UE(c:TT)(tb:TS):TS:=λD σ H=>∃W:Nat->St->Hp->Prop,(∃m,W m σ H)/\∀m σ H,W m σ H->
 c σ H λb H1=>if b=true then∃N:St->Hp->Prop,(∀σ' H',N σ' H'->∃m',m'<m/\W m' σ' H')/\tb {D with nx:=N,ct:=N,bk:=D.nx} σ H1 else D.nx σ H1
theorem m6(hp:PassesOwn (model X.prog X.w) X.A X.env X.xe)(hc:PT X c tc)(hb:Hg X body tb):PS X (.While c body [] pos) (UE tc tb):=by
 intro pins s σ H D I h;obtain⟨W,⟨m0,w0⟩,turn⟩:=h;refine wpAny_While (codeAny_whileLoop (λn s'=>∃σ' H',Inv X pins σ' H' s'/\W n σ' H') ?_ m0 ⟨σ,H,I,w0⟩);rintro n s1 ⟨σ1,H1,I1,w1⟩;refine cw hp (iO (hc pins s1 σ1 H1 _ I1 (turn n σ1 H1 w1)) λb s2⟨H2,I2,q2⟩=>?_);cases b with
 |true=>
  obtain⟨N,hN,q2⟩:=q2;rw[ak rfl];refine cw hp (iO (hb pins s2 σ1 H2 _ I2 q2) λf s3 q3=>?_);cases f with
  |next=>
   obtain⟨σ3,H3,I3,n3⟩:=q3;obtain⟨m',hm,w3⟩:=hN σ3 H3 n3;exact⟨m',hm,σ3,H3,I3,w3⟩
  |cont=>
   obtain⟨σ3,H3,I3,n3⟩:=q3;obtain⟨m',hm,w3⟩:=hN σ3 H3 n3;exact⟨m',hm,σ3,H3,I3,w3⟩
  |brk=>exact q3
  |ret v=>exact q3
 |false=>
  rw[ag aD];exact dD ⟨σ1,H2,I2,q2⟩
end
structure It where
 go:Nat->Hp->Prop
 Nm:Nat->Hp->V->Hp->Prop
 stop:Nat->Hp->Prop
def Cy(X:Cx)(pins:List (Addr×Obj))(H:Hp)(b:Addr):Prop:=
 H b=none/\b≠X.env.locals/\b∉X.fs/\(b∈X.ex\/X.Ee.heap.objs.size<=b)/\(∀x c,X.env.cells.lookup x=some c->c≠b)/\∀p∈X.pn++pins,p.1≠b
def Inv.JJ(I:Inv X pins σ H s)(hb:s.heap.objs.size<=b)(hn:H' b=none):Cy X pins H' b:=by
 refine⟨hn,ej (aS I.lt hb),I.Zs hb,.inr (a7 I.sz hb),λx c e z=>?_,λp hp z=>?_⟩
 .obtain⟨v,q⟩:=I.cell x c e;exact absurd (aS q.lt (by rw[z];exact hb)) (dI _)
 exact absurd (aS (aZ (I.pin p hp).1) (by rw[z];exact hb)) (dI _)
structure Turn(P:Program)(w:World)(K:Frag)(tg:Expr)(J:It)(fp:List Addr)(it:Addr)(tn:Nat->Heap->Prop):Prop where
 mem:it∈fp
 obj:∀i h,tn i h->∀b∈fp,∃o,h.get? b=some o/\∀v,o.data≠.cell v
 keep:∀i h h',tn i h->(∀b∈fp,∀o,h.get? b=some o->h'.get? b=some o)->tn i h'
 item:∀(X:Cx),X.prog=P->X.w=w->X.K=K->X.calm=true->∀(i:Nat)(pins:List (Addr×Obj))(s:Shared)(σ:St)(H:Hp)(E:Value->Shared->Prop),Inv X pins σ H s->(∀b∈fp,Cy X pins H b)->tn i s.heap->J.go i H->
  wpAny (model P w) X.A (pyNext (.ref it)) (λr s1=>∃u,r=some u/\
   wpAny (model P w) X.A (letOwnedTupleGo tg (.ref it) u) (λ_ s2=>∃x H',Inv X pins σ H' s2/\RelV x u/\J.Nm i H x H'/\tn (i+1) s2.heap/\∀b∈fp,H' b=none) E s1) E s
 done:∀(X:Cx),X.prog=P->X.w=w->X.K=K->X.calm=true->∀(i:Nat)(pins:List (Addr×Obj))(s:Shared)(σ:St)(H:Hp)(E:Value->Shared->Prop),Inv X pins σ H s->(∀b∈fp,Cy X pins H b)->tn i s.heap->J.stop i H->
  wpAny (model P w) X.A (pyNext (.ref it)) (λr s1=>r=none/\Inv X pins σ H s1) E s
 self:∀(A:Around)(i:Nat)(s:Shared)(Q:Value->Shared->Prop)(E:Value->Shared->Prop),tn i s.heap->Q (.ref it) s->wpAny (model P w) A (pyIter (.ref it)) Q E s
noncomputable abbrev TI:=St->Hp->(It->Hp->Prop)->Prop
inductive YE(X:Cx)(pins:List (Addr×Obj))(σ:St)(tg:Expr)(R:It->Hp->Prop)(itv:Value)(s2:Shared):Prop
 |mk:∀(it:Addr)(fp:List Addr)(tn:Nat->Heap->Prop)(J:It)(H':Hp),itv=.ref it->Inv X pins σ H' s2->Turn X.prog X.w X.K tg J fp it tn->tn 0 s2.heap->(∀b∈fp,Cy X pins H' b)->R J H'->YE X pins σ tg R itv s2
def PI(X:Cx)(tg iter:Expr)(wi:TI):Prop:=
 ∀(pins:List (Addr×Obj))(s:Shared)(σ:St)(H:Hp)(R:It->Hp->Prop),Inv X pins σ H s->wi σ H R->
  wpAny (model X.prog X.w) X.A (eval iter X.env) (λv s1=>wpAny (model X.prog X.w) X.A (pyIter v) (YE X pins σ tg R) X.xe s1) X.xe s
def EK(ho:s.heap.get? it=some o)(hc:o.cls=.type n)(hd:o.data=.fields vs)
  (hn:["enumerate","zip","dict_itemiterator","dict_reverseitemiterator","odict_iterator","itertools.zip_longest","itertools.pairwise"].contains n=false) (hQ:Q () s):wpAny M A (letOwnedTupleGo tg (.ref it) u) Q E s:=by
 cases tg<;>first
  |exact aB hQ
  |(cases u<;>first
    |exact aB hQ
    |(refine af (wpAny_load ho ?_);rw[hc,hd];show wpAny M A (if(["enumerate","zip","dict_itemiterator","dict_reverseitemiterator","odict_iterator","itertools.zip_longest","itertools.pairwise"].contains n&&vs[0]? ==some (rawInt _))=true then _ else _) Q E s;rw[ag (by intro h;rw[hn,dP]at h;cases h)];exact aB hQ))
noncomputable def Ti(K:Frag)(a:Addr):It:=
 ⟨λi H=>∃xs x,gC K H a xs/\xs[i]? =some x,λi H x H'=>H'=H/\∀xs,gC K H a xs->xs[i]? =some x,λi H=>∃xs,gC K H a xs/\xs.length<=i⟩
noncomputable def Wz(K:Frag)(a:Addr):It:=
 ⟨λi H=>∃xs x,m5 K H a xs/\xs[i]? =some x,λi H x H'=>H'=H/\∀xs,m5 K H a xs->xs[i]? =some x,λi H=>∃xs,m5 K H a xs/\xs.length<=i⟩
noncomputable def Rq(lo:Int)(n:Nat):It:=⟨λi _=>i<n,λi H x H'=>H'=H/\x=.int (lo+i),λi _=>n<=i⟩
def Nn{P:Program}{w:World}{K:Frag}{tg:Expr}(a it:Addr):Turn P w K tg (Ti K a) [it] it (λi h=>h.IsListIter it a i)where
 mem:=by simp
 obj:=λi h st b hb=>by
  have e:b=it:=by simpa using hb
  subst e;obtain⟨o,e,c,d⟩:=st;exact⟨o,e,λv z=>by rw[d]at z;cases z⟩
 keep:=λi h h' st k=>st.at λo e=>k it (by simp) o e
 item:=by
  intro X hP hw hK hc i pins s σ H E I hf st hg;subst hP hw hK;obtain⟨xs,x,hq,hx⟩:=hg;obtain⟨_,rv,p,_⟩:=I.list hq;obtain⟨u,hu,ru⟩:=rv.get hx;obtain⟨f0,f1,f2,f3,f4,f5⟩:=hf it (by simp);refine wpAny_pyNext_list_item st p.isList (x:=u) (by simpa using hu) λh' Hb sb=>?_;have I1:Inv X pins σ H {s with heap:=h'}:=I.turned (λb o hb e=>(sb.2 b hb).trans e) f0 f1 f3 f4 f5;obtain⟨o,e,c,d⟩:=id Hb;exact⟨u,rfl,EK e c d (by decide) ⟨x,H,I1,ru,⟨rfl,λys hy=>by rw[I.Cv hy hq];exact hx⟩,Hb,λb hb=>(hf b hb).1⟩⟩
 done:=by
  intro X hP hw hK hc i pins s σ H E I hf st hg;subst hP hw hK;obtain⟨_,hq,_⟩:=hg;obtain⟨_,rv,p,_⟩:=I.list hq;obtain⟨f0,f1,f2,f3,f4,f5⟩:=hf it (by simp);have hl:=rv.length;exact wpAny_pyNext_list_end (I.ok.hd hc) st p.isList (by simp;omega) λh' eb=>⟨rfl,I.turned (λb o hb e=>eb b o hb e) f0 f1 f3 f4 f5⟩
 self:=λ_ _ _ _ _ st h=>wpAny_pyIter_listiter st h
def JK{P:Program}{w:World}{K:Frag}{tg:Expr}(a it:Addr):Turn P w K tg (Wz K a) [it] it (λi h=>h.IsTupleIter it a i)where
 mem:=by simp
 obj:=λi h st b hb=>by
  have e:b=it:=by simpa using hb
  subst e;obtain⟨o,e,c,d⟩:=st;exact⟨o,e,λv z=>by rw[d]at z;cases z⟩
 keep:=λi h h' st k=>st.at λo e=>k it (by simp) o e
 item:=by
  intro X hP hw hK hc i pins s σ H E I hf st hg;subst hP hw hK;obtain⟨xs,x,hq,hx⟩:=hg;obtain⟨its,rv,p,hz⟩:=I.tuple hq;obtain⟨u,hu,ru⟩:=rv.get hx;obtain⟨f0,f1,f2,f3,f4,f5⟩:=hf it (by simp);refine wpAny_pyNext_tuple_item st (show s.heap.IsTuple a its.toArray from p) (x:=u) (by simpa using hu) λh' Hb sb=>?_;have I1:Inv X pins σ H {s with heap:=h'}:=I.turned (λb o hb e=>(sb.2 b hb).trans e) f0 f1 f3 f4 f5;obtain⟨o,e,c,d⟩:=id Hb;exact⟨u,rfl,EK e c d (by decide) ⟨x,H,I1,ru,⟨rfl,λys hy=>by rw[I.EI hy hq];exact hx⟩,Hb,λb hb=>(hf b hb).1⟩⟩
 done:=by
  intro X hP hw hK hc i pins s σ H E I hf st hg;subst hP hw hK;obtain⟨_,hq,_⟩:=hg;obtain⟨its,rv,p,hz⟩:=I.tuple hq;obtain⟨f0,f1,f2,f3,f4,f5⟩:=hf it (by simp);have hl:=rv.length;exact wpAny_pyNext_tuple_end (I.ok.hd hc) st (show s.heap.IsTuple a its.toArray from p) (by simp;omega) λh' eb=>⟨rfl,I.turned (λb o hb e=>eb b o hb e) f0 f1 f3 f4 f5⟩
 self:=λ_ _ _ _ _ st h=>wpAny_pyIter_tupleiter st h
def JL{P:Program}{w:World}{K:Frag}{tg:Expr}(it:Addr)(lo:Int)(n:Nat):Turn P w K tg (Rq lo n) [it] it (λi h=>IsRangeIter h it (lo+(i:Nat)*1) ((n:Int) - (i:Nat)) 1)where
 mem:=by simp
 obj:=λi h st b hb=>by
  have e:b=it:=by simpa using hb
  subst e
  exact⟨_,st,λv z=>by
   have z':Data.fields _=Data.cell v:=z;cases z'⟩
 keep:=λi h h' st k=>k it (by simp) _ st
 item:=by
  intro X hP hw hK hc i pins s σ H E I hf st hg;subst hP hw hK;obtain⟨f0,f1,f2,f3,f4,f5⟩:=hf it (by simp);have W:=Walks.range (prog:=X.prog) (w:=X.w) (I.ok.hd hc) it lo 1 n;refine W.item i s _ _ hg st λv h' tk hv Hb kk=>?_;obtain⟨t,rfl⟩:=hv;have I1:Inv X pins σ H {s with heap:=h',toks:=tk}:=I.turned (λb o hb e=>kk b o (by simpa using hb) e) f0 f1 f3 f4 f5;refine⟨_,rfl,EK (s:={s with heap:=h',toks:=tk}) (n:="range_iterator") Hb rfl rfl (by decide) ⟨.int (lo+i),H,I1,⟨t,?_⟩,⟨rfl,rfl⟩,Hb,λb hb=>(hf b hb).1⟩⟩;rw[Int.mul_one]
 done:=by
  intro X hP hw hK hc i pins s σ H E I hf st hg;subst hP hw hK;obtain⟨f0,f1,f2,f3,f4,f5⟩:=hf it (by simp);exact wpAny_pyNext_range_end (I.ok.hd hc) st (by have:n<=i:=hg;omega) λh' eb=>⟨rfl,I.turned (t':=s.toks) (λb o hb e=>eb b o hb e) f0 f1 f3 f4 f5⟩
 self:=λ_ _ _ _ _ st h=>wpAny_pyIter_rangeiter st h
end L2
namespace L2
open PySem PySem.Spec PyProof.Rows
section
variable{X:Cx}{tg:Expr}
inductive ON(K:Frag)(R:It->Hp->Prop)(x:V)(H1:Hp):Prop
 |mk:∀a,(x=.ref a)->(∃xs,gC K H1 a xs)->(R (Ti K a) H1)->ON K R x H1
def WA(K:Frag)(tl:TE):TI:=λσ H R=>tl σ H λx H1=>ON K R x H1
inductive Tj(K:Frag)(R:It->Hp->Prop)(x:V)(H1:Hp):Prop
 |mk:∀a,(x=.ref a)->(∃xs,m5 K H1 a xs)->(R (Wz K a) H1)->Tj K R x H1
def WB(K:Frag)(tl:TE):TI:=λσ H R=>tl σ H λx H1=>Tj K R x H1
def qY(hl:PE X l tl):PI X tg l (WA X.K tl):=by
 intro pins s σ H R I h;refine iO (hl pins s σ H _ I h) λv s1⟨x,H1,I1,r1,q1⟩=>?_;obtain⟨a,e,⟨xs,hq⟩,q⟩:=q1;subst e;cases r1;obtain⟨_,_,p,_⟩:=I1.list hq;refine wpAny_pyIter_list p.isList ?_;refine⟨s1.heap.objs.size,[s1.heap.objs.size],_,_,H1,rfl,I1.kept (t':=s1.toks) λb o e=>ax _ e,Nn a _,⟨_,aN _ rfl,rfl,rfl⟩,λb hb=>?_,q⟩;have e:b=s1.heap.objs.size:=by simpa using hb
 subst e;exact I1.JJ (aH _) (I1.gZ.fresh (aH _))
def OO(hl:PE X l tl):PI X tg l (WB X.K tl):=by
 intro pins s σ H R I h;refine iO (hl pins s σ H _ I h) λv s1⟨x,H1,I1,r1,q1⟩=>?_;obtain⟨a,e,⟨xs,hq⟩,q⟩:=q1;subst e;cases r1;obtain⟨its,_,p,_⟩:=I1.tuple hq;refine wpAny_pyIter_tuple (show s1.heap.IsTuple a its.toArray from p) ?_;refine⟨s1.heap.objs.size,[s1.heap.objs.size],_,_,H1,rfl,I1.kept (t':=s1.toks) λb o e=>ax _ e,JK a _,⟨_,aN _ rfl,rfl,rfl⟩,λb hb=>?_,q⟩;have e:b=s1.heap.objs.size:=by simpa using hb
 subst e;exact I1.JJ (aH _) (I1.gZ.fresh (aH _))
def Hi{pins:List (Addr×Obj)}{σ:St}{H:Hp}{s:Shared}{R:It->Hp->Prop}{E:Value->Shared->Prop}{lo hi:Int}{t u v:Tok}{tk:Nat}(I:Inv X pins σ H s)(h1: -(2^62)<=lo)(h2:lo<2^62)(h3: -(2^62)<=hi)(h4:hi<2^62)
  (q:R (Rq lo (hi - lo).toNat) H):wpAny (model X.prog X.w) X.A (pyIter (.ref s.heap.objs.size)) (YE X pins σ tg R) E {s with heap:=s.heap.push {cls:=.type "range",data:=.fields #[.int lo t,.int hi u,.int 1 v]},toks:=tk}:=by
 refine wpAny_pyIter_range (IsRange.new ..) (small_one h1 h2 h3 h4) ?_;have I1:Inv X pins σ H {s with heap:=s.heap.push {cls:=.type "range",data:=.fields #[.int lo t,.int hi u,.int 1 v]},toks:=tk}:=I.kept λb o e=>ax _ e
 refine⟨(s.heap.push {cls:=.type "range",data:=.fields #[.int lo t,.int hi u,.int 1 v]}).objs.size,[(s.heap.push {cls:=.type "range",data:=.fields #[.int lo t,.int hi u,.int 1 v]}).objs.size],_,_,H,rfl,
  I1.kept λb o e=>ax _ e,JL _ lo (hi - lo).toNat,?_,λb hb=>?_,q⟩
 .have e1:lo+((0:Nat):Int)*1=lo:=by simp
  have e2:(((hi - lo).toNat:Nat):Int) - ((0:Nat):Int)=Builtin.Range.rangeSize lo hi 1:=by rw[rangeSize_one];split<;>omega
  rw[e1,e2];exact aN _ rfl
 have e:b=(s.heap.push {cls:=.type "range",data:=.fields #[.int lo t,.int hi u,.int 1 v]}).objs.size:=by simpa using hb
 subst e;exact I1.JJ (aH _) (I1.gZ.fresh (aH _))
inductive OP(R:It->Hp->Prop)(vs:List V)(H1:Hp):Prop
 |mk:∀j:Int,(vs=[.int j])->(-(2^62)<=j)->(j<2^62)->(R (Rq 0 j.toNat) H1)->OP R vs H1
def WC(ta:TA):TI:=λσ H R=>ta σ H λvs H1=>OP R vs H1
inductive OQ(R:It->Hp->Prop)(vs:List V)(H1:Hp):Prop
 |mk:∀i j:Int,(vs=[.int i,.int j])->(-(2^62)<=i/\i<2^62/\ -(2^62)<=j/\j<2^62)->(R (Rq i (j - i).toNat) H1)->OQ R vs H1
def WE(ta:TA):TI:=λσ H R=>ta σ H λvs H1=>OQ R vs H1
theorem Ag{a:Expr}{ta:TA}{p pos:Pos}(hg:Gl X "range")(hm:X.mg "range"=none)(ha:PA X [a] ta)(hs:starEach [a] X.env=[(false,eval a X.env)]:=by rfl):PI X tg (.Call (.Name "range" p) [a] [] pos) (WC ta):=by
 intro pins s σ H R I h;refine Call_ (tV I hg hm boot_range (bg (iO (ha pos pins s σ H _ I h) λus s1⟨vs,H1,I1,r1,q1⟩=>?_) hs rfl));obtain⟨j,e,q1,q2,q⟩:=q1;subst e;cases r1 with
 |cons r rr=>
  cases rr;obtain⟨t,rfl⟩:=r;exact call_range_1 (Hi I1 (by omega) (by omega) q1 q2 (by simpa using q))
theorem Ah(hg:Gl X "range")(hm:X.mg "range"=none)(ha:PA X [a,b] ta)(hs:starEach [a,b] X.env=[(false,eval a X.env),(false,eval b X.env)]:=by rfl)(hs2:starEach [b] X.env=[(false,eval b X.env)]:=by rfl):
  PI X tg (.Call (.Name "range" p) [a,b] [] pos) (WE ta):=by
 intro pins s σ H R I h;refine Call_ (tV I hg hm boot_range (bg (iO (ha pos pins s σ H _ I h) λus s1⟨vs,H1,I1,r1,q1⟩=>?_) (by rw[hs,hs2]) (by rw[hs2];rfl)));obtain⟨i,j,e,⟨q1,q2,q3,q4⟩,q⟩:=q1;subst e;cases r1 with
 |cons r rr=>
  cases rr with
  |cons r' rr=>
   cases rr;obtain⟨t,rfl⟩:=r;obtain⟨t',rfl⟩:=r';exact call_range_2 (Hi I1 q1 q2 q3 q4 q)
def WG(wi:TI)(g:TG)(tb:TS):TS:=λD σ H=>wi σ H λJ H1=>∃W:Nat->Nat->St->Hp->Prop,(∃m,W 0 m σ H1)/\∀i m σ H,W i m σ H->
 (J.stop i H/\D.nx σ H)\/(J.go i H/\∃N:St->Hp->Prop,(∀σ' H',N σ' H'->∃m',m'<m/\W (i+1) m' σ' H')/\∀x H',J.Nm i H x H'->g x σ H' λσ2 H2=>tb {D with nx:=N,ct:=N,bk:=D.nx} σ2 H2)
noncomputable def Cz(fp:List Addr)(h:Heap):List (Addr×Obj):=fp.filterMap λb=>(h.get? b).map λo=>(b,o)
def xS(hb:b∈fp)(e:h.get? b=some o):(b,o)∈Cz fp h:=List.mem_filterMap.mpr ⟨b,hb,by rw[e];rfl⟩
theorem Np(hp:p∈Cz fp h):p.1∈fp/\h.get? p.1=some p.2:=by
 obtain⟨b,hb,e⟩:=List.mem_filterMap.mp hp;cases q:h.get? b with
 |none=>rw[q]at e;cases e
 |some o=>
  rw[q]at e;have e':=ao e;subst e';exact⟨hb,q⟩
def Inv.pinned(I:Inv X pins σ H s)(hf:∀b∈fp,Cy X pins H b)(ho:∀b∈fp,∃o,s.heap.get? b=some o/\∀v,o.data≠.cell v):Inv X (pins++Cz fp s.heap) σ H s:=
 I.K0 λp hp=>(aG.mp hp).elim (λz=>I.pin p (bR _ z)) λz=>by
  obtain⟨hb,e⟩:=Np z;obtain⟨f0,f1,f2,_⟩:=hf p.1 hb;obtain⟨o,e',d⟩:=ho p.1 hb;rw[e]at e';cases e';exact⟨e,f0,f1,f2,d⟩
def Inv.yx(I:Inv X (pins++pl) σ H s):Inv X pins σ H s:=I.K0 λp hp=>I.pin p (bR _ (dC _ hp))
def jN(hp:PassesOwn (model X.prog X.w) X.A X.env X.xe)(hc:X.calm=true)(hi:PI X tg iter wi)(hg:PG X tg g)(hb:Hg X body tb)
  (hs:∀x,foldedSetIterable iter X.env x=pure x:=by intro _;rfl):PS X (.For tg iter body [] pos) (WG wi g tb):=by
 intro pins s σ H D I h;refine wpAny_For (iO (hi pins s σ H _ I h) λv s1 h1=>iO h1 λitv s2 h2=>?_) hs;obtain⟨it,fp,tn,J,H2,e,I2,T,YN,f2,W,⟨m0,w0⟩,turn⟩:=h2;subst e;have stat:∀{H':Hp},(∀b∈fp,H' b=none)->∀b∈fp,Cy X pins H' b:=λhn b hb=>⟨hn b hb,(f2 b hb).2⟩;refine codeAny_forLoop_any (λn s'=>∃i σ' H',Inv X pins σ' H' s'/\tn i s'.heap/\(∀b∈fp,H' b=none)/\W i n σ' H') ?_ m0 ⟨0,σ,H2,I2,YN,λb hb=>(f2 b hb).1,w0⟩;rintro n s3 ⟨i,σ3,H3,I3,YO,fr3,w3⟩;rcases turn i n σ3 H3 w3 with⟨stop,qn⟩|⟨go,N,hN,step⟩
 .refine cw hp (iO (T.done X rfl rfl rfl hc i pins s3 σ3 H3 X.xe I3 (stat fr3) YO stop) λr s4⟨hr,I4⟩=>?_);subst hr;exact dD ⟨σ3,H3,I4,qn⟩
 refine cw hp (iO (T.item X rfl rfl rfl hc i pins s3 σ3 H3 X.xe I3 (stat fr3) YO go) λr s4⟨u,hr,h4⟩=>?_);subst hr;refine cw hp (iO h4 λ_ s5⟨x,H5,I5,r5,y5,V9,fr5⟩=>?_);have I5':=I5.pinned (stat fr5) (T.obj _ _ V9);refine cw hp (iO (hg _ s5 σ3 H5 x u _ I5' r5 (step x H5 y5)) λ_ s6⟨σ6,H6,I6,q6⟩=>?_);refine cw hp (iO (hb _ s6 σ6 H6 _ I6 q6) λf s7 q7=>?_)
 have again:∀{σ7:St}{H7:Hp},Inv X (pins++Cz fp s5.heap) σ7 H7 s7->N σ7 H7->∃m,m<n/\∃i σ' H',Inv X pins σ' H' s7/\tn i s7.heap/\(∀b∈fp,H' b=none)/\W i m σ' H':=λ{σ7 H7} I7 n7=>by
  obtain⟨m',hm,w7⟩:=hN σ7 H7 n7;refine⟨m',hm,i+1,σ7,H7,I7.yx,T.keep _ _ _ V9 λb hb o e=>(I7.pin (b,o) (bR _ (bR _ (xS hb e)))).1,λb hb=>?_,w7⟩;obtain⟨o,e,d⟩:=T.obj _ _ V9 b hb;exact(I7.pin (b,o) (bR _ (bR _ (xS hb e)))).2.1
 cases f with
 |next=>obtain⟨σ7,H7,I7,n7⟩:=q7;exact again I7 n7
 |cont=>obtain⟨σ7,H7,I7,n7⟩:=q7;exact again I7 n7
 |brk=>obtain⟨σ7,H7,I7,q7⟩:=q7;exact⟨σ7,H7,I7.yx,q7⟩
 |ret v=>obtain⟨x7,σ7,H7,I7,r7,q7⟩:=q7;exact⟨x7,σ7,H7,I7.yx,r7,q7⟩
end
def oQ{K:Frag}{g:TG}{tb:TS}{D:Ends}(Pv:Nat->St->Hp->Prop)(h0:Pv 0 σ H)(hl:∀i σ H,i<=xs.length->Pv i σ H->gC K H a xs)
  (hs:∀i x σ H,xs[i]? =some x->Pv i σ H->g x σ H λσ2 H2=>tb {D with nx:=Pv (i+1),ct:=Pv (i+1),bk:=D.nx} σ2 H2) (hd:∀σ H,Pv xs.length σ H->D.nx σ H):
  ∃W:Nat->Nat->St->Hp->Prop,(∃m,W 0 m σ H)/\∀i m σ H,W i m σ H->
   ((Ti K a).stop i H/\D.nx σ H)\/((Ti K a).go i H/\∃N:St->Hp->Prop,(∀σ' H',N σ' H'->∃m',m'<m/\W (i+1) m' σ' H')/\∀x H',(Ti K a).Nm i H x H'->g x σ H' λσ2 H2=>tb {D with nx:=N,ct:=N,bk:=D.nx} σ2 H2):=by
 refine⟨λi m σ H=>m=xs.length - i/\i<=xs.length/\Pv i σ H,⟨xs.length,by simp,bu _,h0⟩,?_⟩;rintro i m σ H ⟨rfl,hi,p⟩;have q:=hl i σ H hi p;by_cases zZ:i<xs.length
 .refine .inr ⟨⟨xs,xs[i],q,by simp[zZ]⟩,Pv (i+1),λσ' H' p'=>⟨xs.length - (i+1),by omega,rfl,zZ,p'⟩,λx H' y=>?_⟩;obtain⟨e,y⟩:=y;subst e;exact hs i x σ _ (y xs q) p
 have e:i=xs.length:=by omega
 subst e;exact .inl ⟨⟨xs,q,aH _⟩,hd σ H p⟩
def K4{K:Frag}{g:TG}{tb:TS}{D:Ends}(Pv:Nat->St->Hp->Prop)(h0:Pv 0 σ H)(hl:∀i σ H,i<=xs.length->Pv i σ H->m5 K H a xs)
  (hs:∀i x σ H,xs[i]? =some x->Pv i σ H->g x σ H λσ2 H2=>tb {D with nx:=Pv (i+1),ct:=Pv (i+1),bk:=D.nx} σ2 H2) (hd:∀σ H,Pv xs.length σ H->D.nx σ H):
  ∃W:Nat->Nat->St->Hp->Prop,(∃m,W 0 m σ H)/\∀i m σ H,W i m σ H->
   ((Wz K a).stop i H/\D.nx σ H)\/((Wz K a).go i H/\∃N:St->Hp->Prop,(∀σ' H',N σ' H'->∃m',m'<m/\W (i+1) m' σ' H')/\∀x H',(Wz K a).Nm i H x H'->g x σ H' λσ2 H2=>tb {D with nx:=N,ct:=N,bk:=D.nx} σ2 H2):=by
 refine⟨λi m σ H=>m=xs.length - i/\i<=xs.length/\Pv i σ H,⟨xs.length,by simp,bu _,h0⟩,?_⟩;rintro i m σ H ⟨rfl,hi,p⟩;have q:=hl i σ H hi p;by_cases zZ:i<xs.length
 .refine .inr ⟨⟨xs,xs[i],q,by simp[zZ]⟩,Pv (i+1),λσ' H' p'=>⟨xs.length - (i+1),by omega,rfl,zZ,p'⟩,λx H' y=>?_⟩;obtain⟨e,y⟩:=y;subst e;exact hs i x σ _ (y xs q) p
 have e:i=xs.length:=by omega
 subst e;exact .inl ⟨⟨xs,q,aH _⟩,hd σ H p⟩
def sJ{n:Nat}{lo:Int}{g:TG}{tb:TS}{D:Ends}(Pv:Nat->St->Hp->Prop)(h0:Pv 0 σ H)
  (hs:∀i σ H,i<n->Pv i σ H->g (.int (lo+i)) σ H λσ2 H2=>tb {D with nx:=Pv (i+1),ct:=Pv (i+1),bk:=D.nx} σ2 H2) (hd:∀σ H,Pv n σ H->D.nx σ H):
  ∃W:Nat->Nat->St->Hp->Prop,(∃m,W 0 m σ H)/\∀i m σ H,W i m σ H->
   ((Rq lo n).stop i H/\D.nx σ H)\/((Rq lo n).go i H/\∃N:St->Hp->Prop,(∀σ' H',N σ' H'->∃m',m'<m/\W (i+1) m' σ' H')/\∀x H',(Rq lo n).Nm i H x H'->g x σ H' λσ2 H2=>tb {D with nx:=N,ct:=N,bk:=D.nx} σ2 H2):=by
 refine⟨λi m σ H=>m=n - i/\i<=n/\Pv i σ H,⟨n,by simp,bu _,h0⟩,?_⟩;rintro i m σ H ⟨rfl,hi,p⟩;by_cases zZ:i<n
 .refine .inr ⟨zZ,Pv (i+1),λσ' H' p'=>⟨n - (i+1),by omega,rfl,zZ,p'⟩,λx H' y=>?_⟩;obtain⟨e,y⟩:=y;subst e y;exact hs i σ _ zZ p
 have e:i=n:=by omega
 subst e;exact .inl ⟨aH _,hd σ H p⟩
end L2
namespace L2
open PySem PySem.Spec PyProof.Rows
noncomputable abbrev R2:=V->V->Hp->VK->Prop
def yu(X:Cx)(f:Value->Value->Sem Value)(r:R2):Prop:=
 ∀(pins:List (Addr×Obj))(s:Shared)(σ:St)(H:Hp)(x y:V)(v u:Value)(Q:VK),Inv X pins σ H s->RelV x v->RelV y u->r x y H Q->
  wpAny (model X.prog X.w) X.A (f v u) (EP X pins σ Q) X.xe s
def Zy(X:Cx)(f:Value->Sem Value)(r:V->Hp->VK->Prop):Prop:=
 ∀(pins:List (Addr×Obj))(s:Shared)(σ:St)(H:Hp)(x:V)(v:Value)(Q:VK),Inv X pins σ H s->RelV x v->r x H Q->
  wpAny (model X.prog X.w) X.A (f v) (EP X pins σ Q) X.xe s
def CA(X:Cx)(f:Value)(r:List V->Hp->VK->Prop):Prop:=
 ∀(pins:List (Addr×Obj))(s:Shared)(σ:St)(H:Hp)(xs:List V)(us:List Value)(Q:VK),Inv X pins σ H s->Vals xs us->r xs H Q->
  wpAny (model X.prog X.w) X.A (call f us) (EP X pins σ Q) X.xe s
def K5(r:R2)(ta tb:TE):TE:=λσ H Q=>ta σ H λx H1=>tb σ H1 λy H2=>r x y H2 Q
def tUn(r:V->Hp->VK->Prop)(ta:TE):TE:=λσ H Q=>ta σ H λx H1=>r x H1 Q
inductive rI(C:Int->Int->Prop)(g:Int->Int->V)(x:V)(y:V)(H:Hp)(Q:VK):Prop
 |mk:∀i j,x=.int i->y=.int j->C i j->Q (g i j) H->rI C g x y H Q
inductive Nq(g:Int->Int->V)(x:V)(y:V)(H:Hp)(Q:VK):Prop
 |mk:∀i j,x=.int i->y=.int j->Q (g i j) H->Nq g x y H Q
inductive rU(g:Int->V)(x:V)(H:Hp)(Q:VK):Prop
 |mk:∀i,x=.int i->Q (g i) H->rU g x H Q
section
variable{X:Cx}{a b c:Expr}{ta tb tc:TE}{pos:Pos}
def UG(ha:PE X a ta)(hb:PE X b tb){pins:List (Addr×Obj)}{s:Shared}{σ:St}{H:Hp}{R:V->V->Hp->Prop}(I:Inv X pins σ H s)
  (h:ta σ H λx H1=>tb σ H1 λy H2=>R x y H2) {Q:Value->Shared->Prop} {f:Value->Value->Sem Value}
  (hf:∀v u s2 x y H2,Inv X pins σ H2 s2->RelV x v->RelV y u->R x y H2->wpAny (model X.prog X.w) X.A (f v u) Q X.xe s2):
  wpAny (model X.prog X.w) X.A (eval a X.env) (λv s₁=>wpAny (model X.prog X.w) X.A (eval b X.env) (λu s₂=>wpAny (model X.prog X.w) X.A (f v u) Q X.xe s₂) X.xe s₁) X.xe s:=by
 refine iO (ha pins s σ H _ I h) λv s1⟨x,H1,I1,r1,q1⟩=>?_;refine iO (hb pins s1 σ H1 _ I1 q1) λu s2⟨y,H2,I2,r2,q2⟩=>?_;exact hf v u s2 x y H2 I2 r1 r2 q2
def g0{op:Operator}{r:R2}(ho:yu X (binaryOp op) r)(ha:PE X a ta)(hb:PE X b tb):PE X (.BinOp a op b pos) (K5 r ta tb):=by
 intro pins s σ H Q I h;exact wpAny_BinOp (UG ha hb I h λv u s2 x y H2 I2 rx ry q=>ho pins s2 σ H2 x y v u Q I2 rx ry q)
def yy(ho:Zy X (unaryOp op) r)(ha:PE X a ta):PE X (.UnaryOp op a pos) (tUn r ta):=by
 intro pins s σ H Q I h;exact UnaryOp_ (iO (ha pins s σ H _ I h) λv s1⟨x,H1,I1,r1,q1⟩=>ho pins s1 σ H1 x v Q I1 r1 q1)
def Zz{g:Int->Int->Int}
  (rule:∀(i j:Int)(t u:Tok)(s:Shared)(Q:Value->Shared->Prop)(E:Value->Shared->Prop),C i j->Q (.int (g i j) s.toks) {s with toks:=s.toks+1}->wpAny (model X.prog X.w) X.A (f (.int i t) (.int j u)) Q E s):
  yu X f (rI C λi j=>.int (g i j)):=by
 intro pins s σ H x y v u Q I rx ry h;obtain⟨i,j,rfl,rfl,hc,q⟩:=h;obtain⟨t,rfl⟩:=rx;obtain⟨t',rfl⟩:=ry;exact rule i j t t' s _ _ hc ⟨.int (g i j),H,I.tok _,⟨_,rfl⟩,q⟩
def RJ{g:Int->Int->Int}
  (rule:∀(i j:Int)(t u:Tok)(s:Shared)(Q:Value->Shared->Prop)(E:Value->Shared->Prop),Q (.int (g i j) s.toks) {s with toks:=s.toks+1}->wpAny (model X.prog X.w) X.A (f (.int i t) (.int j u)) Q E s):
  yu X f (Nq λi j=>.int (g i j)):=by
 intro pins s σ H x y v u Q I rx ry h;obtain⟨i,j,rfl,rfl,q⟩:=h;obtain⟨t,rfl⟩:=rx;obtain⟨t',rfl⟩:=ry;exact rule i j t t' s _ _ ⟨.int (g i j),H,I.tok _,⟨_,rfl⟩,q⟩
def RK{g:Int->Int->Bool}
  (rule:∀(i j:Int)(t u:Tok)(s:Shared)(Q:Value->Shared->Prop)(E:Value->Shared->Prop),Q (.bool (g i j)) s->wpAny (model X.prog X.w) X.A (f (.int i t) (.int j u)) Q E s):
  yu X f (Nq λi j=>.bl (g i j)):=by
 intro pins s σ H x y v u Q I rx ry h;obtain⟨i,j,rfl,rfl,q⟩:=h;obtain⟨t,rfl⟩:=rx;obtain⟨t',rfl⟩:=ry;exact rule i j t t' s _ _ ⟨.bl (g i j),H,I,rfl,q⟩
def ZA(i j:Int):Prop:=0<j/\j<1073741824
def RL(i j:Int):Prop:=(-(2^64)<i/\i<2^64)\/(-(2^64)<j/\j<2^64)
def RL.ok{i j:Int}(h:RL i j):IntMulOk i j:=by
 rcases h with⟨h1,h2⟩|⟨h1,h2⟩
 .exact .of_left (intBits_le_64 h1 h2)
 exact .of_right (intBits_le_64 h1 h2)
def kI:yu X (binaryOp .Add) (Nq λi j=>.int (i+j)):=RJ λ_ _ _ _ _ _ _ q=>add_int q
def FT:yu X (binaryOp .Sub) (Nq λi j=>.int (i - j)):=RJ λ_ _ _ _ _ _ _ q=>sub_int q
def JM:yu X (binaryOp .Mult) (rI RL λi j=>.int (i*j)):=Zz λ_ _ _ _ _ _ _ hc q=>mul_int q hc.ok
def K6:yu X (binaryOp .FloorDiv) (rI ZA λi j=>.int (i/j)):=Zz λi j _ _ _ _ _ hc q=>by
 have h1:(0:Int)<j:=hc.1;have h2:j<1073741824:=hc.2;exact floordiv_int (by omega) (by rw[Int.fdiv_eq_ediv_of_nonneg i (by omega)];exact q) (.inl (PyProof.noPylong_small (by omega)))
def JN:yu X (binaryOp .Mod) (rI (λ_ j=>0<j) λi j=>.int (i % j)):=Zz λi j _ _ _ _ _ hc q=>by
 have h1:(0:Int)<j:=hc;exact mod_int' (by omega) (by rw[Int.fmod_eq_emod_of_nonneg i (by omega)];exact q)
def JO:yu X (binaryOp .BitAnd) (Nq λi j=>.int (Builtin.bitAnd i j)):=RJ λ_ _ _ _ _ _ _ q=>and_int q
def WH:yu X (binaryOp .BitOr) (Nq λi j=>.int (Builtin.bitOr i j)):=RJ λ_ _ _ _ _ _ _ q=>or_int q
def unI{g:Int->Int}
  (rule:∀(i:Int)(t:Tok)(s:Shared)(Q:Value->Shared->Prop)(E:Value->Shared->Prop),Q (.int (g i) s.toks) {s with toks:=s.toks+1}->wpAny (model X.prog X.w) X.A (f (.int i t)) Q E s):
  Zy X f (rU λi=>.int (g i)):=by
 intro pins s σ H x v Q I rx h;obtain⟨i,rfl,q⟩:=h;obtain⟨t,rfl⟩:=rx;exact rule i t s _ _ ⟨.int (g i),H,I.tok _,⟨_,rfl⟩,q⟩
def tX:Zy X (unaryOp .USub) (rU λi=>.int (-i)):=unI λ_ _ _ _ _ q=>neg_int q
end
noncomputable def WI:V->V->Bool
 |.hJ,.hJ=>true|.hJ,.int _=>true|.int _,.hJ=>true|.hJ,.bl _=>true|.bl _,.hJ=>true|.hJ,.str _=>true|.str _,.hJ=>true
 |.int _,.int _=>true|.bl _,.bl _=>true|.str _,.str _=>true|.JA _,.JA _=>true
 |.int _,.str _=>true|.str _,.int _=>true|.bl _,.str _=>true|.str _,.bl _=>true
 |_,_=>false
def WJ:R2:=λx y H Q=>WI x y=true/\Q (.bl (decide (x=y))) H
def rNe:R2:=λx y H Q=>WI x y=true/\Q (.bl (!decide (x=y))) H
def K7{i j:Int}:decide (V.int i=V.int j)=(i==j):=by
 rw[cx];simp
def OR{i j:Bool}:decide (V.bl i=V.bl j)=(i==j):=by
 rw[cx];simp
def K8:decide (V.str i=V.str j)=(i==j):=by
 rw[cx];simp
def K9:decide (V.JA i=V.JA j)=(i.toList==j.toList):=by
 rw[cx];cases i;cases j;simp
section
variable{X:Cx}{a b c:Expr}{ta tb tc:TE}{pos:Pos}
def hX(I:Inv X pins σ H s)(q:Q (.bl k) H)(e:k=k'):EP X pins σ Q (.bool k') s:=by
 subst e;exact⟨.bl k,H,I,rfl,q⟩
theorem ig:yu X (compareOp .Eq) WJ:=by
 intro pins s σ H x y v u Q I rx ry h;obtain⟨hs,q⟩:=h;cases x with
 |hJ=>
  cases rx;cases y with
  |hJ=>cases ry;exact PySem.EqNone.eq_none_none (hX I q (by simp))
  |bl j=>cases ry;exact PySem.EqNone.eq_none_bool (hX I q (by simp))
  |int j=>obtain⟨t',rfl⟩:=ry;exact PySem.EqNone.eq_none_int (hX I q (by simp))
  |str j=>obtain⟨t',rfl⟩:=ry;exact PySem.EqNone.eq_none_str (hX I q (by simp))
  |_=>exact absurd (show false=true from hs) aD
 |bl i=>
  cases rx;cases y with
  |hJ=>cases ry;exact PySem.EqNone.eq_bool_none (hX I q (by simp))
  |bl j=>cases ry;exact eq_bool (hX I q OR)
  |str j=>obtain⟨t',rfl⟩:=ry;exact PySem.EqMixed.eq_bool_str (hX I q (by simp))
  |_=>exact absurd (show false=true from hs) aD
 |int i=>
  obtain⟨t,rfl⟩:=rx;cases y with
  |hJ=>cases ry;exact PySem.EqNone.eq_int_none (hX I q (by simp))
  |int j=>obtain⟨t',rfl⟩:=ry;exact eq_int (hX I q K7)
  |str j=>obtain⟨t',rfl⟩:=ry;exact PySem.EqMixed.eq_int_str (hX I q (by simp))
  |_=>exact absurd (show false=true from hs) aD
 |str i=>
  obtain⟨t,rfl⟩:=rx;cases y with
  |hJ=>cases ry;exact PySem.EqNone.eq_str_none (hX I q (by simp))
  |bl j=>cases ry;exact PySem.EqMixed.eq_str_bool (hX I q (by simp))
  |int j=>obtain⟨t',rfl⟩:=ry;exact PySem.EqMixed.eq_str_int (hX I q (by simp))
  |str j=>obtain⟨t',rfl⟩:=ry;exact eq_str (hX I q K8)
  |_=>exact absurd (show false=true from hs) aD
 |JA i=>
  obtain⟨t,rfl⟩:=rx;cases y with
  |JA j=>obtain⟨t',rfl⟩:=ry;exact PySem.W.eq_bytes (hX I q K9)
  |_=>exact absurd (show false=true from hs) aD
 |_=>cases y<;>exact absurd (show false=true from hs) aD
theorem La:yu X (compareOp .NotEq) rNe:=by
 intro pins s σ H x y v u Q I rx ry h;obtain⟨hs,q⟩:=h;cases x with
 |hJ=>
  cases rx;cases y with
  |hJ=>cases ry;exact PySem.EqNone.ne_none_none (hX I q (by simp))
  |bl j=>cases ry;exact PySem.EqNone.ne_none_bool (hX I q (by simp))
  |int j=>obtain⟨t',rfl⟩:=ry;exact PySem.EqNone.ne_none_int (hX I q (by simp))
  |str j=>obtain⟨t',rfl⟩:=ry;exact PySem.EqNone.ne_none_str (hX I q (by simp))
  |_=>exact absurd (show false=true from hs) aD
 |bl i=>
  cases rx;cases y with
  |hJ=>cases ry;exact PySem.EqNone.ne_bool_none (hX I q (by simp))
  |bl j=>cases ry;exact ne_bool (hX I q (aQ not OR))
  |str j=>obtain⟨t',rfl⟩:=ry;exact PySem.EqMixed.ne_bool_str (hX I q (by simp))
  |_=>exact absurd (show false=true from hs) aD
 |int i=>
  obtain⟨t,rfl⟩:=rx;cases y with
  |hJ=>cases ry;exact PySem.EqNone.ne_int_none (hX I q (by simp))
  |int j=>obtain⟨t',rfl⟩:=ry;exact ne_int (hX I q (aQ not K7))
  |str j=>obtain⟨t',rfl⟩:=ry;exact PySem.EqMixed.ne_int_str (hX I q (by simp))
  |_=>exact absurd (show false=true from hs) aD
 |str i=>
  obtain⟨t,rfl⟩:=rx;cases y with
  |hJ=>cases ry;exact PySem.EqNone.ne_str_none (hX I q (by simp))
  |bl j=>cases ry;exact PySem.EqMixed.ne_str_bool (hX I q (by simp))
  |int j=>obtain⟨t',rfl⟩:=ry;exact PySem.EqMixed.ne_str_int (hX I q (by simp))
  |str j=>obtain⟨t',rfl⟩:=ry;exact ne_str (hX I q (aQ not K8))
  |_=>exact absurd (show false=true from hs) aD
 |JA i=>
  obtain⟨t,rfl⟩:=rx;cases y with
  |JA j=>obtain⟨t',rfl⟩:=ry;exact PySem.W.ne_bytes (hX I q (aQ not K9))
  |_=>exact absurd (show false=true from hs) aD
 |_=>cases y<;>exact absurd (show false=true from hs) aD
def pE:yu X (compareOp .Lt) (Nq λi j=>.bl (decide (i<j))):=RK λ_ _ _ _ _ _ _ q=>lt_int q
def EL:yu X (compareOp .LtE) (Nq λi j=>.bl (decide (i<=j))):=RK λ_ _ _ _ _ _ _ q=>le_int q
def ve:yu X (compareOp .Gt) (Nq λi j=>.bl (decide (j<i))):=RK λ_ _ _ _ _ _ _ q=>gt_int q
def Tn:yu X (compareOp .GtE) (Nq λi j=>.bl (decide (j<=i))):=RK λ_ _ _ _ _ _ _ q=>ge_int q
def JP:yu X (compareOp .Is) (λx y H Q=>y=.hJ/\Q (.bl (decide (x=.hJ))) H):=by
 intro pins s σ H x y v u Q I rx ry h;obtain⟨rfl,q⟩:=h;cases ry;refine is_none_gen (hX I q ?_)
 cases x<;>first
  |(cases rx;rfl)
  |(obtain⟨t,rfl⟩:=rx;rfl)
def Lb:yu X (compareOp .IsNot) (λx y H Q=>y=.hJ/\Q (.bl (!decide (x=.hJ))) H):=by
 intro pins s σ H x y v u Q I rx ry h;obtain⟨rfl,q⟩:=h;cases ry;refine isnot_none_gen (hX I q ?_)
 cases x<;>first
  |(cases rx;rfl)
  |(obtain⟨t,rfl⟩:=rx;rfl)
def fv(b:Expr)(h:op≠.In:=by decide)(h2:op≠.NotIn:=by decide):behindInMarks op b=false:=by
 have e1:(op==CmpOp.In)=false:=by cases op<;>first|rfl|exact absurd rfl h
 have e2:(op==CmpOp.NotIn)=false:=by cases op<;>first|rfl|exact absurd rfl h2
 cases b<;>simp[behindInMarks,e1,e2]
def ma{op:CmpOp}{r:R2}(ho:yu X (compareOp op) r)(ha:PE X a ta)(hb:PE X b tb)(hm:behindInMarks op b=false):PE X (.Compare a [op] [b] pos) (K5 r ta tb):=by
 intro pins s σ H Q I h;exact wpAny_Compare1 (UG ha hb I h λv u s2 x y H2 I2 rx ry q=>ho pins s2 σ H2 x y v u Q I2 rx ry q) hm
inductive OS(Q:Bool->Hp->Prop)(x:V)(H':Hp):Prop
 |mk:∀k,(x=.bl k)->(Q k H')->OS Q x H'
def Lc(t:TE):TT:=λσ H Q=>t σ H λx H'=>OS Q x H'
def fm(ho:yu X (compareOp op) r)(ha:PE X a ta)(hb:PE X b tb)(hm:behindInMarks op b=false):PT X (.Compare a [op] [b] pos) (Lc (K5 r ta tb)):=by
 intro pins s σ H Q I h
 refine wpAny_isTrue_Compare1 (iO (ha pins s σ H _ I h) λv s1⟨x,H1,I1,r1,q1⟩=>iO (hb pins s1 σ H1 _ I1 q1) λu s2⟨y,H2,I2,r2,q2⟩=>
  iO (ho pins s2 σ H2 x y v u _ I2 r1 r2 q2) λc s3⟨z,H3,I3,r3,k,e,q3⟩=>?_) hm
 subst e;cases r3;exact cZ ⟨H3,I3,q3⟩
inductive Ld(r':R2)(tc:TE)(σ:St)(Q:VK)(y:V)(z:V)(H3:Hp):Prop
 |mk:∀k,(z=.bl k)->(if k=true then tc σ H3 λw' H4=>r' y w' H4 Q else Q (.bl false) H3)->Ld r' tc σ Q y z H3
def UH(r r':R2)(ta tb tc:TE):TE:=λσ H Q=>ta σ H λx H1=>tb σ H1 λy H2=>r x y H2 λz H3=>Ld r' tc σ Q y z H3
theorem Hk(ho:yu X (compareOp op) r)(ho':yu X (compareOp op') r')(ha:PE X a ta)(hb:PE X b tb)(hc:PE X c tc)
  (hm:lastMarks [op,op'] [b,c]=false:=by with_unfolding_all rfl):PE X (.Compare a [op,op'] [b,c] pos) (UH r r' ta tb tc):=by
 intro pins s σ H Q I h
 refine Compare_chain (iO (ha pins s σ H _ I h) λv s1⟨x,H1,I1,r1,q1⟩=>chain_link (iO (hb pins s1 σ H1 _ I1 q1) λu s2⟨y,H2,I2,r2,q2⟩=>
  iO (ho pins s2 σ H2 x y v u _ I2 r1 r2 q2) λd s3⟨z,H3,I3,r3,k,e,q3⟩=>?_)) hm
 subst e;cases r3;refine cZ ?_;cases k with
 |false=>exact ite_ff ⟨.bl false,H3,I3,rfl,q3⟩
 |true=>exact ite_tt (chain_last (iO (hc pins s3 σ H3 _ I3 q3) λw' s4⟨z',H4,I4,r4,q4⟩=>ho' pins s4 σ H4 y z' u w' Q I4 r2 r4 q4))
def CB:(sizeLine:Nat)<2^63:=by rw[sizeLine_eq];decide
theorem vals1(r:Vals [x] us):∃u,us=[u]/\RelV x u:=by
 cases r with
 |cons r1 r2=>cases r2;exact⟨_,rfl,r1⟩
def OT:CA X (.builtin "ord") (λxs H Q=>∃x,xs=[.str x]/\x.length=1/\Q (.int (x.cps.getD 0 0:Nat)) H):=by
 intro pins s σ H xs us Q I r h;obtain⟨x,rfl,hz,q⟩:=h;obtain⟨u,rfl,t,rfl⟩:=vals1 r;exact ord_of_one hz ⟨.int _,H,I.tok _,⟨_,rfl⟩,q⟩
end
end L2
namespace L2
open PySem PySem.Spec PyProof.Rows
structure JQ(h:Heap)(x dx C:Addr)(mA:Str->Option Value):Prop where
 obj:h.get? x=some (instObj C dx)
 ns:h.Ns1 dx mA
 ne:dx≠x
def Nr{h:Heap}{mA:Str->Option Value}(n:h.Ns1 dx mA):∃od,h.get? dx=some od/\∀name,lookIn name od=some (mA name):=by
 obtain⟨o,es,ep,ho,hd,hk,_,hm⟩:=n;refine⟨o,ho,λname=>?_⟩;have e:=hm name;unfold nsFind findBy at e;rw[<-Array.find?_toList]at e;unfold lookIn;rw[hd];dsimp only;split
 .rename_i y q;rw[q]at e;exact aQ some e
 rename_i q;rw[q]at e
 have a:es.toList.any (·.refKey)=false:=by
  rw[List.any_eq_false];intro y hy;obtain⟨z,t,aab⟩:=hk y (Array.mem_toList_iff.mp hy);simp[DictEntry.refKey,aab]
 have a':¬es.toList.any (·.refKey)=true:=by rw[a];exact aD
 rw[ag a'];exact aQ some e
def JQ.look(I:JQ h x dx C mA):∃od,PySem.W.InstAt h x (instObj C dx) C (some od)/\∀name,lookIn name od=some (mA name):=
 let⟨od,ho,hl⟩:=Nr I.ns
 ⟨od,⟨I.obj,rfl,rfl,ho⟩,hl⟩
section
variable{prog:Program}{w:World}{A:Around}{E:Value->Shared->Prop}{s:Shared}{K:Frag}{x dx C f:Addr}{mA:Str->Option Value}{name:Str}{v:Value}
def get_map(X:K.In s.heap)(I:JQ s.heap x dx C mA)(hg:plainGet K C name=true)(hh:hasDictIn K C=true)
  (ha:findIn K (.ref C) name=some none) (hv:mA name=some v) (hv':handedIn v=true) (h:Q v {s with toks:=s.toks+1}):
  wpAny (model prog w) A (getAttr (.ref x) name expr) Q E s:=by
 obtain⟨od,J,hl⟩:=I.look;exact PySem.W.get_value X J (plainGet_of hg).1 (PySem.W.findObj_own hh ha rfl (by rw[hl,hv])) hv' h
def OU(X:K.In s.heap)(I:JQ s.heap x dx C mA)(hg:plainGet K C name=true)
  (hf:findIn K (.ref C) name=some (some (.ref f))) (ht:isFn K (.ref f)=true) (hv:mA name=none) (h:Q (.ref f,[.ref x]) s):
  wpAny (model prog w) A (getMethod (.ref x) name pl) Q E s:=by
 obtain⟨od,J,hl⟩:=I.look;exact PySem.W.method_fn X J (plainGet_of hg).1 (plainGet_of hg).2 hf (d6.mp ht) (by show(lookIn name od).map (·.isSome)=some false;rw[hl,hv];rfl) h
def RM(X:K.In s.heap)(I:JQ s.heap x dx C mA)
  (hs:findIn K (.ref C) "__setattr__"=some (some (.builtin "object.__setattr__"))) (hp:plainOver K C=true) (ht:takerIn K C name=some none) (hh:hasDictIn K C=true)
  (hw:PySem.Within mA ns) (hsz:ns.length<=sizeLine)
  (h:∀h',JQ h' x dx C (λy=>if y=name then some v else mA y)->Heap.SameBut dx s.heap h'->Q () {s with heap:=h',toks:=s.toks+2}):
  wpAny (model prog w) A (setAttr (.ref x) name v) Q E s:=by
 obtain⟨_,J,_⟩:=I.look;refine PySem.W.set_plain X J hs (PySem.W.osa_open X J hp ht λb=>?_);obtain⟨cd,hc,Eb⟩:=PySem.W.any_some hh;have hx:=I.obj;refine af (aB (af (af (wpAny_loadPart hx (af (PySem.W.Looks.here (PySem.W.looks_clsIn X hc) ?_))))));rw[Eb];refine aB (af (aB (af ?_)));refine wpAny_nsSet1 I.ns λh' hn2 hs2=>?_;obtain⟨_,_,_,hoD,hdD,XG⟩:=hn2.count (PySem.Within.cons name v hw);refine af (wpAny_lookBehind hoD (by rw[hdD];exact pastItsLine_dict (a7 XG (by rw[aF];omega))) ?_);exact aB (h _ ⟨(hs2.2 _ (aW I.ne)).trans I.obj,hn2,I.ne⟩ hs2)
def OV(X:K.In s.heap)(hm:makesIn K C=true)
  (hi:findIn K (.ref C) "__init__"=some (some (.ref f))) (hf:typeIn K (.ref f)=some (.type "function"))
  (h:codeAny (model prog w) (A.under (.builtin "type.__call__" ⟨.ref C::vs,kw⟩)) (.call (.ref f) ⟨.ref (s.heap.objs.size+1)::vs,kw⟩) (PySem.W.InitBack (s.heap.objs.size+1) R)
   {s with heap:=(s.heap.push emptyDict).push (instObj C s.heap.objs.size)}):
  codeAny (model prog w) A (.call (.ref C) ⟨vs,kw⟩) R s:=by
 obtain _:=s;exact PySem.W.make_core (PySem.W.makes_of X hm) (PySem.W.looks_findIn X hi) (λself=>bind_fn X self hf) (.inl rfl) h
end
noncomputable def gw(f:Str)(v:V):List (Str×V)->List (Str×V)
 |[]=>[(f,v)]
 |(g,x)::r=>if g=f then(g,v)::r else(g,x)::gw f v r
theorem vf(f g:Str)(v:V):∀fs:List (Str×V),(gw f v fs).lookup g=if g=f then some v else fs.lookup g
 |[]=>by
  show List.lookup g [(f,v)]=_;by_cases h:g=f
  .have hb:(g==f)=true:=d6.mpr h;simp only[List.lookup,hb,ak h]
  have hb:=cg.mpr h;simp only[List.lookup,hb,ag h]
 |(k,x)::r=>by
  have ih:=vf f g v r;rw[show gw f v ((k,x)::r)=(if k=f then(k,v)::r else(k,x)::gw f v r)from rfl];by_cases hk:k=f
  .rw[ak hk];by_cases h:g=k
   .have hb:=d6.mpr h;simp only[List.lookup,hb,ak (h.trans hk)]
   have hb:=cg.mpr h;simp only[List.lookup,hb,ag λe:g=f=>h (e.trans hk.symm)]
  rw[ag hk];by_cases h:g=k
  .have hb:=d6.mpr h;simp only[List.lookup,hb,ag λe:g=f=>hk (h.symm.trans e)]
  have hb:=cg.mpr h;simp only[List.lookup,hb];exact ih
theorem sL(f:Str)(v:V):∀fs:List (Str×V),f∈(gw f v fs).map (·.1)/\∀g,g∈fs.map (·.1)->g∈(gw f v fs).map (·.1)
 |[]=>⟨by simp[gw],λg h=>by simp at h⟩
 |(k,x)::r=>by
  obtain⟨i1,i2⟩:=sL f v r;rw[show gw f v ((k,x)::r)=(if k=f then(k,v)::r else(k,x)::gw f v r)from rfl];by_cases hk:k=f
  .rw[ak hk];subst hk;exact⟨by simp,λg h=>by simpa using h⟩
  rw[ag hk];refine⟨?_,λg h=>?_⟩
  .rw[bJ];exact aC _ i1
  rw[bJ]at h⊢;rcases aA.mp h with e|e
  .exact aA.mpr (.inl e)
  exact aC _ (i2 g e)
theorem AR(f:Str)(v:V):∀fs:List (Str×V),(gw f v fs).length<=fs.length+1
 |[]=>by simp[gw]
 |(k,x)::r=>by
  have ih:=AR f v r;rw[show gw f v ((k,x)::r)=(if k=f then(k,v)::r else(k,x)::gw f v r)from rfl];by_cases hk:k=f
  .rw[ak hk,aF,aF];omega
  rw[ag hk,aF,aF];omega
theorem sE.some_of(r:sE (some v) o):∃u,o=some u/\RelV v u:=by
 cases o with
 |none=>exact(show False from r).elim
 |some u=>exact⟨u,rfl,r⟩
theorem sE.none_of(r:sE none o):o=none:=by
 cases o with
 |none=>rfl
 |some u=>exact(show False from r).elim
theorem EM(r:RelV v u):handedIn u=true:=by
 cases v with
 |hJ=>cases(show u=Value.none from r);rfl
 |bl b=>cases(show u=Value.bool b from r);rfl
 |int i=>obtain⟨t,e⟩:=(show∃t,u=Value.int i t from r);cases e;rfl
 |str x=>obtain⟨t,e⟩:=(show∃t,u=Value.str x t from r);cases e;rfl
 |JA b=>obtain⟨t,e⟩:=(show∃t,u=Value.bytes b t from r);cases e;rfl
 |Uy b=>obtain⟨t,e⟩:=(show∃t,u=Value.float b t from r);cases e;rfl
 |ref a=>cases(show u=Value.ref a from r);rfl
 |ty n=>cases(show u=Value.type n from r);rfl
section
variable{P:Program}{w:World}{H H':Hp}{h h':Heap}{a C dx:Addr}{fs Uj:List (Str×V)}
def FV(gZ:tU P w H h)(e:H a=some (.ins C dx fs)):∃mA,JQ h a dx C mA/\(∀f,sE (fs.lookup f) (mA f))/\PySem.Within mA (fs.map (·.1))/\fs.length<=1000/\H dx=some (.own a):=by
 obtain⟨d,z,ne,ob,mA,n,r,q⟩:=(show i7 P w H h a (.ins C dx fs)from gZ a _ e);exact⟨mA,⟨ob,n,ne⟩,r,q,z,d⟩
end
structure CC(K:Frag)(C:Addr):Prop where
 pg:plainGet K C Str.empty=true
 hd:hasDictIn K C=true
 po:plainOver K C=true
 sa:findIn K (.ref C) "__setattr__"=some (some (.builtin "object.__setattr__"))
def CC.get{K:Frag}(c:CC K C)(f:Str):plainGet K C f=true:=c.pg
def fW(K:Frag)(C:Addr)(f:Str):Prop:=findIn K (.ref C) f=some none
def fW.WK{K:Frag}{C:Addr}{f:Str}(n:fW K C f):takerIn K C f=some none:=by
 unfold takerIn;rw[show findIn K (.ref C) f=some none from n];rfl
structure Meth(K:Frag)(C:Addr)(m:Str)(f:Addr):Prop where
 at_:findIn K (.ref C) m=some (some (.ref f))
 fn:isFn K (.ref f)=true
 kp:keepIn K (.ref f)=true
section
variable{X:Cx}{pins:List (Addr×Obj)}{σ:St}{H:Hp}{s:Shared}{a C dx:Addr}{fs:List (Str×V)}{f:Str}{v:V}{A:Around}{E:Value->Shared->Prop}
def CD(I:Inv X pins σ H s)(e:H a=some (.ins C dx fs))(c:CC X.K C)(n:fW X.K C f)(l:fs.lookup f=some v)
  (h:∀u s',Inv X pins σ H s'->RelV v u->Q u s'):wpAny (model X.prog X.w) A (getAttr (.ref a) f b) Q E s:=by
 obtain⟨mA,O,r,_⟩:=FV I.gZ e;obtain⟨u,hu,ru⟩:=sE.some_of (by rw[<-l];exact r f);exact get_map I.pS O (c.get f) c.hd n hu (EM ru) (h u _ (I.tok _) ru)
def CF(I:Inv X pins σ H s)(e:H a=some (.ins C dx fs))(c:CC X.K C)(k:Meth X.K C m g)(l:fs.lookup m=none)
  (h:Q (.ref g,[.ref a]) s):wpAny (model X.prog X.w) A (getMethod (.ref a) m pl) Q E s:=by
 obtain⟨mA,O,r,_⟩:=FV I.gZ e;have hn:=sE.none_of (by rw[<-l];exact r m);exact OU I.pS O (c.get m) k.at_ k.fn hn h
def CG(I:Inv X pins σ H s)(e:H a=some (.ins C dx fs))(c:CC X.K C)(n:fW X.K C f)(hl:fs.length<1000)(ry:RelV y u)
  (h:∀s',Inv X pins σ (upd H a (.ins C dx (gw f y fs))) s'->Q () s'):wpAny (model X.prog X.w) A (setAttr (.ref a) f u) Q E s:=by
 obtain⟨mA,O,r,wi,_,ho⟩:=FV I.gZ e;have hz:(fs.map (·.1)).length<=sizeLine:=by rw[aw,sizeLine_eq];omega
 refine RM I.pS O c.sa c.po n.WK c.hd wi hz λh' O' sb=>h _ ?_;have hd:∃o,h'.get? dx=some o:=let⟨o,_,_,e',_⟩:=O'.ns;⟨o,e'⟩;refine I.write (by rw[e];exact True.intro) (.inr ho) (λb q hb z=>(sb.2 b hb).trans z) hd ?_;refine⟨by rw[eY O.ne];exact ho,?_,O.ne,O'.obj,_,O'.ns,λg=>?_,λg hg=>?_⟩
 .have:=AR f y fs;omega
 .rw[vf];by_cases q:g=f
  .rw[ak q,ak q];exact ry
  rw[ag q,ag q];exact r g
 by_cases q:g=f
 .rw[q];exact(sL f y fs).1
 refine(sL f y fs).2 g (wi g λz=>hg ?_);show(if g=f then some u else mA g)=none;rw[ag q];exact z
def Inv.made(I:Inv X pins σ H s):Inv X pins σ (upd (upd H s.heap.objs.size (.own (s.heap.objs.size+1))) (s.heap.objs.size+1) (.ins C s.heap.objs.size []))
  {s with heap:=(s.heap.push emptyDict).push (instObj C s.heap.objs.size)}:=by
 have e1:(s.heap.push emptyDict).get? s.heap.objs.size=some emptyDict:=aN s.heap rfl
 have e2:((s.heap.push emptyDict).push (instObj C s.heap.objs.size)).get? (s.heap.objs.size+1)=some (instObj C s.heap.objs.size):=by
  have:=aN (s.heap.push emptyDict) (o:=instObj C s.heap.objs.size) rfl
  rwa [b8]at this
 have e3:(s.heap.push emptyDict).Ns s.heap.objs.size (λ_=>none):=⟨emptyDict,#[],_,e1,rfl,(λe he=>absurd he (by simp)),λ_=>rfl⟩;have I1:=I.laid (a:=s.heap.objs.size) (o:=.own (s.heap.objs.size+1)) (h':=s.heap.push emptyDict) (t':=s.toks) (λb u q=>ax _ q) (aH _) ⟨_,e1⟩;refine I1.laid (a:=s.heap.objs.size+1) (o:=.ins C s.heap.objs.size []) (t':=s.toks) (λb u q=>ax _ q) (le_of_eq (b8 _ _)) ?_;have ne:s.heap.objs.size≠s.heap.objs.size+1:=a9 (cK _);refine⟨by rw[eY ne,eV],bu _,ne,e2,λ_=>none,(Heap.Ns1.of_empty e3).at λo q=>ax _ q,λ_=>True.intro,λy hy=>absurd rfl hy⟩
def Le(hb:attributeBase e f env (eval e env)=eval e env)
  (h:wpAny (model prog w) A (eval e env) (λo s₁=>wpAny (model prog w) A (getAttr o f true) Q E s₁) E s):wpAny (model prog w) A (eval (.Attribute e f pos) env) Q E s:=
 Attribute_any_ h (by rw[arm_eval_Attribute,hb])
end
inductive To(K:Frag)(f:Str)(Q:VK)(x:V)(H1:Hp):Prop
 |mk:∀a C dx fs v,(x=.ref a)->(H1 a=some (.ins C dx fs))->(CC K C)->(fW K C f)->(fs.lookup f=some v)->(Q v H1)->To K f Q x H1
def wK(K:Frag)(ta:TE)(f:Str):TE:=λσ H Q=>ta σ H λx H1=>To K f Q x H1
inductive Tr(K:Frag)(f:Str)(D:Ends)(σ:St)(y:V)(x:V)(H2:Hp):Prop
 |mk:∀a C dx fs,(x=.ref a)->(H2 a=some (.ins C dx fs))->(CC K C)->(fW K C f)->(fs.length<1000)->(D.nx σ (upd H2 a (.ins C dx (gw f y fs))))->Tr K f D σ y x H2
def ZC(K:Frag)(ta tv:TE)(f:Str):TS:=λD σ H=>tv σ H λy H1=>ta σ H1 λx H2=>Tr K f D σ y x H2
def WL(X:Cx)(op:Operator)(rd:V->V->Hp->VK->Prop):Prop:=
 ∀(pins:List (Addr×Obj))(s:Shared)(σ:St)(H:Hp)(x y:V)(u v:Value)(Q:VK),Inv X pins σ H s->RelV x u->RelV y v->rd x y H Q->wpAny (model X.prog X.w) X.A (inplaceOp op u v) (EP X pins σ Q) X.xe s
def FW(K:Frag)(ta tv:TE)(rd:V->V->Hp->VK->Prop)(f:Str):TS:=λD σ H=>ta σ H λx H1=>∃a C dx fs v,x=.ref a/\H1 a=some (.ins C dx fs)/\CC K C/\fW K C f/\fs.lookup f=some v/\
 tv σ H1 λy H2=>rd v y H2 λz H3=>∃Q6 Uj,H3 a=some (.ins C Q6 Uj)/\Uj.length<1000/\D.nx σ (upd H3 a (.ins C Q6 (gw f z Uj)))
section
variable{X:Cx}{o e value:Expr}{f:Str}{pos pos' Jt:Pos}{ta tv:TE}
def mm(he:PE X e ta)(hb:attributeBase e f X.env (eval e X.env)=eval e X.env):PE X (.Attribute e f pos) (wK X.K ta f):=by
 intro pins s σ H Q I h;refine Le hb (iO (he pins s σ H _ I h) λu s1⟨x,H1,I1,rx,a,C,dx,fs,v,ex,ea,c,n,l,q⟩=>?_);subst ex;obtain rfl:u=Value.ref a:=rx;exact CD I1 ea c n l λu' s2 I2 ru=>⟨v,H1,I2,ru,q⟩
def fT(ha:PE X o ta)(hv:PE X value tv)(hs:swapsWith value (some (.Attribute o f pos')) pos.line X.env=pure false):PS X (.Assign [.Attribute o f pos'] value pos) (ZC X.K ta tv f):=by
 intro pins s σ H D I h;refine cE (iO (hv pins s σ H _ I h) λu s1⟨y,H1,I1,ry,q⟩=>iO (ha pins s1 σ H1 _ I1 q) λov s2⟨x,H2,I2,rx,a,C,dx,fs,ex,ea,c,n,l,q2⟩=>?_) hs;subst ex;obtain rfl:ov=Value.ref a:=rx;exact CG I2 ea c n l ry λs3 I3=>⟨σ,_,I3,q2⟩
def sM(ha:PE X o ta)(hv:PE X value tv)(hop:WL X op rd):PS X (.AugAssign (.Attribute o f Jt) op value pos) (FW X.K ta tv rd f):=by
 intro pins s σ H D I h;refine wpAny_AugAssign_AttributeAny (iO (ha pins s σ H _ I h) λov s1⟨x,H1,I1,rx,a,C,dx,fs,v,ex,ea,c,n,l,q⟩=>?_);subst ex;obtain rfl:ov=Value.ref a:=rx;refine CD I1 ea c n l λu s2 I2 ru=>iO (hv pins s2 σ H1 _ I2 q) λw3 s3⟨y,H2,I3,ry,q3⟩=>iO (hop pins s3 σ H2 v y u w3 _ I3 ru ry q3) λw4 s4⟨z,H3,I4,rz,Q6,Uj,ea',l',q4⟩=>?_;exact CG I4 ea' c n l' rz λs5 I5=>⟨σ,_,I5,q4⟩
inductive RN(x:V)(y:V)(H:Hp)(Q:VK):Prop
 |mk:∀i j,x=.int i->y=.int j->Q (.int (i+j)) H->RN x y H Q
def CH:WL X .Add RN:=by
 rintro pins s σ H x y u v Q I rx ry ⟨i,j,rfl,rfl,q⟩;obtain⟨t,rfl⟩:=(show∃t,u=Value.int i t from rx);obtain⟨t',rfl⟩:=(show∃t',v=Value.int j t' from ry);exact PyProof.Rows.iadd_int ⟨.int (i+j),H,I.tok _,⟨_,rfl⟩,q⟩
end
end L2
namespace L2
open PySem PySem.Spec PyProof.Rows
structure jJ(k:Nat)(A:Around):Prop where
 hd:A.handled=none
 dp:A.depth+3*k+5<recursionLimit
 un:A.units+16*k+200<cLine
def jJ.mono(r:jJ k A)(h:j<=k):jJ j A:=⟨r.hd,by have:=r.dp;omega,by have:=r.un;omega⟩
theorem jJ.deeper(r:jJ (k+1) A)(env:Env):jJ k (A.deeper env):=
 ⟨r.hd,by have:=r.dp;show A.depth+1+3*k+5<_;omega,by have:=r.un;show A.units+3+16*k+200<_;omega⟩
def CI{A:Around}:(A.under (.builtin "type.__call__" ⟨.ref C::us,kw⟩)).depth=A.depth+1:=by
 first|rfl|simp[Around.under,Code.weight,Code.isCreation,Code.isGuard,Code.isCaller,Code.frames,Code.isFrame,guardIds]
def CJ{A:Around}:(A.under (.builtin "type.__call__" ⟨.ref C::us,kw⟩)).units=A.units+1:=by
 first|rfl|simp[Around.under,Code.cUnits,Code.frames,Code.isFrame]
def jJ.make(r:jJ (k+1) A)(C:Addr)(us:List Value)(kw:List (Str×Value)):jJ k (A.under (.builtin "type.__call__" ⟨.ref C::us,kw⟩)):=
 ⟨r.hd,by have:=r.dp;rw[CI];omega,by have:=r.un;rw[CJ];omega⟩
theorem jJ.depth(r:jJ k A):A.depth<recursionLimit:=by have:=r.dp;omega
theorem jJ.units(r:jJ k A):A.units+64<cLine:=by have:=r.un;omega
def o8:TA:=λ_ H Q=>Q [] H
def kL(ta:TE)(tr:TA):TA:=λσ H Q=>ta σ H λx H1=>tr σ H1 λxs H2=>Q (x::xs) H2
section
variable{X:Cx}{e:Expr}{es:List Expr}{te:TE}{t:TA}{pos:Pos}
def m8:PA X [] o8:=λ_ _ _ _ H Q I h=>Calls.spliced_nil ⟨[],H,I,.nil,h⟩
def Cb(ha:PE X e te)(hr:PA X es t)(hs:starEach (e::es) X.env=(false,eval e X.env)::starEach es X.env:=by rfl):PA X (e::es) (kL te t):=by
 intro pos pins s σ H Q I h;rw[hs];refine Calls.spliced_cons (iO (ha pins s σ H _ I h) λu s1⟨x,H1,I1,r1,q1⟩=>?_);exact iO (hr pos pins s1 σ H1 _ I1 q1) λus s2⟨xs,H2,I2,r2,q2⟩=>⟨x::xs,H2,I2,.cons r1 r2,q2⟩
def ZD(t:TA):TE:=λσ H Q=>t σ H λxs H1=>xs.length<=sizeLine/\∀p,H1 p=none->Q (.ref p) (upd H1 p (.tup xs))
def Hm(t:TA):TE:=λσ H Q=>t σ H λxs H1=>xs.length<=sizeLine/\∀p,H1 p=none->Q (.ref p) (upd H1 p (.lst xs))
def UI{x1}(h:PA X es t):PE X (.Tuple es x1 pos) (ZD t):=by
 intro pins s σ H Q I hq;refine wpAny_Tuple_spliced (iO (h pos pins s σ H _ I hq) λus s1⟨xs,H1,I1,r,z,q⟩=>⟨by rw[<-r.length];exact z,?_⟩);have hf:=I1.gZ.fresh (aH _);refine⟨.ref s1.heap.objs.size,upd H1 s1.heap.objs.size (.tup xs),I1.laid (λb u e=>ax _ e) (aH _) ?_,rfl,q _ hf⟩;exact⟨z,us,r,⟨_,aN _ rfl,rfl,_,rfl⟩⟩
def gO(h:PA X es t):PE X (.List es pos) (Hm t):=by
 intro pins s σ H Q I hq;refine wpAny_List_spliced (iO (h pos pins s σ H _ I hq) λus s1⟨xs,H1,I1,r,z,q⟩=>⟨by rw[<-r.length];exact z,?_⟩);have hf:=I1.gZ.fresh (aH _);refine⟨.ref s1.heap.objs.size,upd H1 s1.heap.objs.size (.lst xs),I1.laid (λb u e=>ax _ e) (aH _) ?_,rfl,q _ hf⟩;exact⟨z,us,0,r,aN _ rfl⟩
end
noncomputable abbrev Sp:=List V->Hp->VK->XK->Prop
noncomputable abbrev Rr:=List Env->Hp->Shared->XK->Value->Shared->Prop
structure Hn(P:Program)(w:World)(K:Frag)(mg:Str->Option Value)(base:Heap)(A:Around)(outer:List Env)(s:Shared)(H:Hp):Prop where
 frames:A.frames=some outer
 mod:Mod K mg base
 bs:∀b o,base.get? b=some o->s.heap.get? b=some o/\H b=none
 JG:base.objs.size<=s.heap.objs.size
 u7:s.heap.FunFrames base outer
 Ox:∀b∈Ac outer,H b=none
 gZ:tU P w H s.heap
 bare:AllBare s.gens
inductive CE(outer:List Env)(P:Program)(w:World)(H:Hp)(s:Shared)(Q:VK)(u:Value)(s':Shared):Prop
 |mk:∀v H',s'.os=s.os->AllBare s'.gens->Un (Ac outer) [] H H' s.heap s'.heap->tU P w H' s'.heap->RelV v u->Q v H'->CE outer P w H s Q u s'
def CR(CX:Rr)(outer:List Env)(P:Program)(w:World)(H:Hp)(s:Shared)(Q:VK)(E:XK)(r:Result)(s':Shared):Prop:=
 match r with
 |.ok (.ret u)=>CE outer P w H s Q u s'
 |.ok _=>False
 |.error e=>CX outer H s E e s'
structure vg(P:Program)(w:World)(K:Frag)(mg:Str->Option Value)(base:Heap)(CX:Rr)(k:Nat)(f:Addr)(fd:FuncData)(ps:List Str)(sp:Sp):Prop where
 len:∀vs H Q E,sp vs H Q E->vs.length=ps.length
 run:∀(A:Around)(outer:List Env)(s:Shared)(H:Hp)(args:Args)(us:List Value)(vs:List V)(Q:VK)(E:XK),jJ k A->Hn P w K mg base A outer s H->BindsTo s fd args (ps.zip us)->Vals vs us->sp vs H Q E->
  codeAny (model P w) A (.call (.ref f) args) (CR CX outer P w H s Q E) s
theorem vg.mono{K:Frag}(F:vg P w K mg base CX j f fd ps sp)(h:j<=k):
  vg P w K mg base CX k f fd ps sp:=⟨F.len,λA outer s H args us vs Q E hr=>F.run A outer s H args us vs Q E (hr.mono h)⟩
def Hn.make{K:Frag}(e:Hn P w K mg base A outer s H)(C:Addr)(us:List Value)(kw:List (Str×Value)):
  Hn P w K mg base (A.under (.builtin "type.__call__" ⟨.ref C::us,kw⟩)) outer s H:=⟨by first|exact e.frames|(simpa[Around.under,Code.envs,Code.isFrame,pushEnvs]using e.frames),e.mod,e.bs,e.JG,e.u7,e.Ox,e.gZ,e.bare⟩
section
variable{X:Cx}{pins:List (Addr×Obj)}{σ:St}{H:Hp}{s s':Shared}
def Inv.RO(I:Inv X pins σ H s):Hn X.prog X.w X.K X.mg X.base X.A X.stack s H:=
 ⟨I.ok.frames,I.ok.mod,I.bs,a7 I.ok.JG I.sz,I.stack,I.FQ,I.gZ,I.bare⟩
def Inv.after(I:Inv X pins σ H s)(h:CE X.stack X.prog X.w H s Q u s'):EP X pins σ Q u s':=by
 obtain⟨v,H',os,bare,un,gZ,r,q⟩:=h;obtain⟨hh,g,d,t,os'⟩:=s';obtain rfl:os'=s.os:=os;exact⟨v,H',I.call un gZ bare (λb z=>absurd z (by simp)),r,q⟩
end
def Ho(sp:Sp)(dvs:List V)(E:XK)(t:TA):TE:=λσ H Q=>t σ H λvs H1=>sp (vs++dvs) H1 Q E
inductive OW(C:Addr)(m:Str)(sp:Sp)(dvs:List V)(E:XK)(t:TA)(σ:St)(Q:VK)(x:V)(H1:Hp):Prop
 |mk:∀a dx fs,(x=.ref a)->(H1 a=some (.ins C dx fs))->(fs.lookup m=none)->(t σ H1 λvs H2=>sp (x::(vs++dvs)) H2 Q E)->OW C m sp dvs E t σ Q x H1
def CK(C:Addr)(m:Str)(sp:Sp)(dvs:List V)(E:XK)(ta:TE)(t:TA):TE:=λσ H Q=>ta σ H λx H1=>OW C m sp dvs E t σ Q x H1
def Lf(C:Addr)(sp:Sp)(dvs:List V)(E:XK)(t:TA):TE:=λσ H Q=>t σ H λvs H1=>∀x dx,H1 x=none->H1 dx=none->dx≠x->
 sp (.ref x::(vs++dvs)) (upd (upd H1 dx (.own x)) x (.ins C dx [])) (λv H2=>v=.hJ/\Q (.ref x) H2) E
def Binds(K:Frag)(fd:FuncData)(ps:List Str)(ds:List Value):Prop:=
 ∀(s:Shared)(us:List Value),K.In s.heap->(us++ds).length=ps.length->BindsTo s fd ⟨us,[]⟩ (ps.zip (us++ds))
def Passes(CX:Rr)(X:Cx)(E:XK):Prop:=∀(pins:List (Addr×Obj))(σ:St)(H:Hp)(s:Shared)(e:Value)(s':Shared),Inv X pins σ H s->CX X.stack H s E e s'->X.xe e s'
section
variable{X:Cx}{CX:Rr}{k:Nat}{f C:Addr}{fd:FuncData}{ps:List Str}{sp:Sp}{dvs:List V}{ds:List Value}{E:XK}{x m:Str}{p pos apos:Pos}{e o:Expr}{es:List Expr}{ta:TE}{t:TA}
theorem FX(F:vg X.prog X.w X.K X.mg X.base CX k f fd ps sp)(hr:jJ k X.A)(hb:Binds X.K fd ps ds)(hd:Vals dvs ds)(hx:Passes CX X E)
  (I:Inv X pins σ H s) (r:Vals vs us) (h:sp (vs++dvs) H Q E):wpAny (model X.prog X.w) X.A (call (.ref f) us) (EP X pins σ Q) X.xe s:=by
 have r2:=r.append hd;have hl:(us++ds).length=ps.length:=by rw[<-r2.length];exact F.len _ _ _ _ h
 refine wpAny_call (di (F.run X.A X.stack s H ⟨us,[]⟩ (us++ds) (vs++dvs) Q E hr I.RO (hb s us I.pS hl) r2 h) λr s' hq=>?_);cases r with
 |error e=>exact hx pins σ H s e s' I hq
 |ok fl=>
  cases fl with
  |ret u=>exact I.after hq
  |next=>exact False.elim hq
  |brk=>exact False.elim hq
  |cont=>exact False.elim hq
def RP(F:vg X.prog X.w X.K X.mg X.base CX k f fd ps sp)(hr:jJ k X.A)(hg:Gl X x)(hm:X.mg x=some (.ref f))(hk:keepIn X.K (.ref f)=true)(hb:Binds X.K fd ps ds)(hd:Vals dvs ds)(hx:Passes CX X E)
  (ha:PA X (e::es) t) (hdb:(x==("__debug__":Str))=false:=by decide) (he:starEach (e::es) X.env=(false,eval e X.env)::starEach es X.env:=by rfl) (hpl:(backTo pos (starEach es X.env)).any (·.1)=false:=by rfl):
  PE X (.Call (.Name x p) (e::es) [] pos) (Ho sp dvs E t):=by
 intro pins s σ H Q I h;refine bw (oJ I hg hm ?_ hdb);refine callWith_K I.ok.mod.Td hk (iO (ha pos pins s σ H _ I h) λus s1⟨vs,H1,I1,r,q⟩=>⟨I1.pS,?_⟩) he hpl;exact FX F hr hb hd hx I1 r q
def OX(F:vg X.prog X.w X.K X.mg X.base CX k f fd ps sp)(hr:jJ k X.A)(hg:Gl X x)(hm:X.mg x=some (.ref f))(hk:keepIn X.K (.ref f)=true)(hb:Binds X.K fd ps ds)(hd:Vals dvs ds)(hx:Passes CX X E)
  (hdb:(x==("__debug__":Str))=false:=by decide):PE X (.Call (.Name x p) [] [] pos) (Ho sp dvs E o8):=by
 intro pins s σ H Q I h;refine bw (oJ I hg hm ?_ hdb);exact callWith_K0 I.pS hk (FX F hr hb hd hx I .nil h)
def RQ(he:PE X o ta)(c:CC X.K C)(hm:Meth X.K C m f)(F:vg X.prog X.w X.K X.mg X.base CX k f fd ps sp)(hr:jJ k X.A)(hb:Binds X.K fd ps ds)(hd:Vals dvs ds)(hx:Passes CX X E)(ha:PA X (e::es) t)
  (hst:starEach (e::es) X.env=(false,eval e X.env)::starEach es X.env:=by rfl) (hpl:(backTo pos (starEach es X.env)).any (·.1)=false:=by rfl)
  (ht:eval (.Call (.Attribute o m apos) (e::es) [] pos) X.env=(do
   let ov<-eval o X.env
   standAt apos.atName
   let(f,first)<-holding [ov] (getMethod ov m pl)
   callWith pos f first (backTo pos (starEach (e::es) X.env)) (backToKw pos (keywordEach [] X.env))):=by rfl):
  PE X (.Call (.Attribute o m apos) (e::es) [] pos) (CK C m sp dvs E ta t):=by
 intro pins s σ H Q I h;refine PySem.W.methodCall_KW (iO (he pins s σ H _ I h) λu s1⟨x,H1,I1,rx,a,dx,fs,ex,ea,l,q⟩=>?_) ht;subst ex;obtain rfl:u=Value.ref a:=rx;refine CF I1 ea c hm l ?_;refine callWith_K I.ok.mod.Td hm.kp (iO (ha pos pins s1 σ H1 _ I1 q) λus s2⟨vs,H2,I2,r,q2⟩=>⟨I2.pS,?_⟩) hst hpl;exact FX (vs:=.ref a::vs) F hr hb hd hx I2 (.cons rfl r) q2
def OY(he:PE X o ta)(c:CC X.K C)(hm:Meth X.K C m f)(F:vg X.prog X.w X.K X.mg X.base CX k f fd ps sp)(hr:jJ k X.A)(hb:Binds X.K fd ps ds)(hd:Vals dvs ds)(hx:Passes CX X E)
  (ht:eval (.Call (.Attribute o m apos) [] [] pos) X.env=(do
   let ov<-eval o X.env
   standAt apos.atName
   let(f,first)<-holding [ov] (getMethod ov m pl)
   callWith pos f first (backTo pos (starEach [] X.env)) (backToKw pos (keywordEach [] X.env))):=by rfl):
  PE X (.Call (.Attribute o m apos) [] [] pos) (CK C m sp dvs E ta o8):=by
 intro pins s σ H Q I h;refine PySem.W.methodCall_KW (iO (he pins s σ H _ I h) λu s1⟨x,H1,I1,rx,a,dx,fs,ex,ea,l,q⟩=>?_) ht;subst ex;obtain rfl:u=Value.ref a:=rx;refine CF I1 ea c hm l ?_;exact callWith_K0 I1.pS hm.kp (FX (vs:=[.ref a]) F hr hb hd hx I1 (.cons rfl .nil) q)
structure Mk(K:Frag)(C f:Addr):Prop where
 makes:makesIn K C=true
 init:findIn K (.ref C) "__init__"=some (some (.ref f))
 fn:isFn K (.ref f)=true
 kp:keepIn K (.ref C)=true
theorem Hq{pins:List (Addr×Obj)}{σ:St}{H:Hp}{s:Shared}{Q:VK}{us:List Value}{vs:List V}(M:Mk X.K C f)(F:vg X.prog X.w X.K X.mg X.base CX k f fd ps sp)(hr:jJ (k+1) X.A)(hb:Binds X.K fd ps ds)(hd:Vals dvs ds)
  (hx:Passes CX X E) (I:Inv X pins σ H s) (r:Vals vs us)
  (h:∀x dx,H x=none->H dx=none->dx≠x->sp (.ref x::(vs++dvs)) (upd (upd H dx (.own x)) x (.ins C dx [])) (λv H2=>v=.hJ/\Q (.ref x) H2) E):
  wpAny (model X.prog X.w) X.A (call (.ref C) us) (EP X pins σ Q) X.xe s:=by
 have hq:=h (s.heap.objs.size+1) s.heap.objs.size (I.gZ.fresh (le_succ _)) (I.gZ.fresh (aH _)) (a9 (cK _));have I2:=Inv.made (C:=C) I;have r2:Vals (V.ref (s.heap.objs.size+1)::(vs++dvs)) (Value.ref (s.heap.objs.size+1)::(us++ds)):=.cons rfl (r.append hd)
 have hl:(Value.ref (s.heap.objs.size+1)::us++ds).length=ps.length:=by
  have e:=r2.length;rw[F.len _ _ _ _ hq]at e;exact e.symm
 refine wpAny_call (OV (f:=f) I.pS M.makes M.init (d6.mp M.fn) (di (F.run _ X.stack _ _ ⟨Value.ref (s.heap.objs.size+1)::us,[]⟩ (Value.ref (s.heap.objs.size+1)::(us++ds)) _ _ E (hr.make C us [])
  (I2.RO.make C us []) (hb _ (Value.ref (s.heap.objs.size+1)::us) I2.pS hl) r2 hq) λr s' Ju=>?_))
 cases r with
 |error e=>exact hx pins σ _ _ e s' I2 Ju
 |ok fl=>
  cases fl with
  |ret u=>
   obtain⟨v,H',I3,rv,ev,q3⟩:=I2.after Ju;subst ev;exact⟨rv,⟨V.ref (s.heap.objs.size+1),H',I3,rfl,q3⟩⟩
  |next=>exact False.elim Ju
  |brk=>exact False.elim Ju
  |cont=>exact False.elim Ju
def RR(M:Mk X.K C f)(F:vg X.prog X.w X.K X.mg X.base CX k f fd ps sp)(hr:jJ (k+1) X.A)(hg:Gl X x)(hm:X.mg x=some (.ref C))(hb:Binds X.K fd ps ds)(hd:Vals dvs ds)(hx:Passes CX X E)
  (ha:PA X (e::es) t) (hdb:(x==("__debug__":Str))=false:=by decide) (he:starEach (e::es) X.env=(false,eval e X.env)::starEach es X.env:=by rfl) (hpl:(backTo pos (starEach es X.env)).any (·.1)=false:=by rfl):
  PE X (.Call (.Name x p) (e::es) [] pos) (Lf C sp dvs E t):=by
 intro pins s σ H Q I h;refine bw (oJ I hg hm ?_ hdb);refine callWith_K I.ok.mod.Td M.kp (iO (ha pos pins s σ H _ I h) λus s1⟨vs,H1,I1,r,q⟩=>⟨I1.pS,?_⟩) he hpl;exact Hq M F hr hb hd hx I1 r q
def OZ(M:Mk X.K C f)(F:vg X.prog X.w X.K X.mg X.base CX k f fd ps sp)(hr:jJ (k+1) X.A)(hg:Gl X x)(hm:X.mg x=some (.ref C))(hb:Binds X.K fd ps ds)(hd:Vals dvs ds)(hx:Passes CX X E)
  (hdb:(x==("__debug__":Str))=false:=by decide):PE X (.Call (.Name x p) [] [] pos) (Lf C sp dvs E o8):=by
 intro pins s σ H Q I h;refine bw (oJ I hg hm ?_ hdb);exact callWith_K0 I.pS M.kp (Hq M F hr hb hd hx I .nil h)
end
structure fh(N P:List Str)(sc:Scope):Prop where
 kind:sc.kind=.function
 co:sc.isCoroutine=false
 gen:sc.isGenerator=false
 nd:N.Nodup
 pre:N.take P.length=P
 par:∀x∈P,sc.names.lookup x=some .local\/sc.names.lookup x=some .cell
 JR:∀y∈sc.names,y.2≠.free
theorem EN{kindOf:Str->Option NameKind}:∀{binds:List (Str×Value)}{m:Str->Option Value},(∀v,(x,v)∉binds)->bindL kindOf binds m x=m x
 |[],_,_=>rfl
 |(n,v)::r,m,h=>by
  unfold bindL;rw[EN λw hw=>h w (aC _ hw)];split
  .have:x≠n:=by rintro rfl;exact h v aM
   simp[this]
  rfl
theorem EO{kindOf:Str->Option NameKind}:∀{binds:List (Str×Value)}{m:Str->Option Value},(∀v,(x,v)∉binds)->bindC kindOf binds m x=m x
 |[],_,_=>rfl
 |(n,v)::r,m,h=>by
  unfold bindC;rw[EO λw hw=>h w (aC _ hw)];split
  .rfl
  have:x≠n:=by rintro rfl;exact h v aM
  simp[this]
theorem ER{kindOf:Str->Option NameKind}{x:Str}{v:Value}:∀{P:List Str}{vs:List Value}{i:Nat}{m:Str->Option Value},P.Nodup->P[i]? =some x->vs[i]? =some v->kindOf x=some .local->
  bindL kindOf (P.zip vs) m x=some v
 |[],_,_,_,_,h,_,_=>by simp at h
 |_::_,[],_,_,_,_,h,_=>by simp at h
 |p::P,w::vs,0,m,nd,h1,h2,hk=>by
  simp at h1 h2;subst h1;subst h2;show bindL kindOf ((p,w)::P.zip vs) m p=_;unfold bindL;rw[EN λv hv=>(eO.mp nd).1 (of_mem_zip hv).1,ak hk];simp
 |p::P,w::vs,i+1,m,nd,h1,h2,hk=>by
  unfold bindL;exact ER (i:=i) (eO.mp nd).2 (by simpa using h1) (by simpa using h2) hk
theorem ES{kindOf:Str->Option NameKind}{x:Str}{v:Value}:∀{P:List Str}{vs:List Value}{i:Nat}{m:Str->Option Value},P.Nodup->P[i]? =some x->vs[i]? =some v->kindOf x≠some .local->
  bindC kindOf (P.zip vs) m x=some v
 |[],_,_,_,_,h,_,_=>by simp at h
 |_::_,[],_,_,_,_,h,_=>by simp at h
 |p::P,w::vs,0,m,nd,h1,h2,hk=>by
  simp at h1 h2;subst h1;subst h2;show bindC kindOf ((p,w)::P.zip vs) m p=_;unfold bindC;rw[EO λv hv=>(eO.mp nd).1 (of_mem_zip hv).1,ag hk];simp
 |p::P,w::vs,i+1,m,nd,h1,h2,hk=>by
  unfold bindC;exact ES (i:=i) (eO.mp nd).2 (by simpa using h1) (by simpa using h2) hk
noncomputable def start(N:List Str)(vs:List V):St:=vs.map some++List.replicate (N.length - vs.length) none
noncomputable def nS(CX:Rr)(P:Program)(w:World)(K:Frag)(mg:Str->Option Value)(base:Heap)(N:List Str)(qual:Str)(scope:Scope)(f:Addr)(cd:Value)(A:Around)(outer:List Env)(s:Shared)(H:Hp)(E:XK):Cx where
 prog:=P
 w:=w
 K:=K
 mg:=mg
 base:=base
 A:=A.deeper (envOfC qual scope s.heap.objs.size f cd)
 N:=N
 Ee:=s
 Wq:=H
 env:=envOfC qual scope s.heap.objs.size f cd
 outer:=outer
 stack:=envOfC qual scope s.heap.objs.size f cd::outer
 ex:=[]
 calm:=true
 fn:=λ_=>true
 pn:=[]
 xe:=λe s'=>wpAny (model P w) (A.deeper (envOfC qual scope s.heap.objs.size f cd)) (leaving (envOfC qual scope s.heap.objs.size f cd) e) (λ_ XH=>CX outer H s E e XH) (λe' XH=>CX outer H s E e' XH) s'
def Hr{sc:Scope}(h:sc.names.lookup x=some .cell):∃c,(cellsFrom n sc.names []).lookup x=some c:=by
 have q:=cellsFrom_some sc.names n [] (.inl h);exact Option.isSome_iff_exists.mp q
def ET{K:Frag}
  (S:fh N ps scope) (hd:A.handled=none) (e0:Hn P w K mg base A outer s H) (hl:vs.length=ps.length) (r:Vals vs us)
  (x:InCallC s s.heap.objs.size (bindL (envOfC qual scope s.heap.objs.size f cd).kindOf (ps.zip us) λ_=>none) (cellsFrom (s.heap.objs.size+1) scope.names []) (bindC (envOfC qual scope s.heap.objs.size f cd).kindOf (ps.zip us) λ_=>none) s1):
  Inv (nS CX P w K mg base N qual scope f cd A outer s H E) [] (start N vs) H s1:=by
 have hpl:ps.length<=N.length:=by have:=aQ List.length S.pre;rw[bh]at this;omega
 obtain⟨h1,tk,rfl,hk⟩:=x.done;have noA:∀b:Addr,b∉(nS CX P w K mg base N qual scope f cd A outer s H E).ex:=λb z=>absurd (show b∈([]:List Addr)from z) (by simp)
 refine⟨⟨e0.mod,S.kind,rfl,rfl,aH _,λy z c h1 h2=>?_,λy hy=>?_,λy c _ h=>?_,λ_=>hd,Around.frames_deeper e0.frames,.inr ⟨rfl,rfl⟩,λb z=>absurd z (noA b),e0.bs,e0.JG,λb _ _=>noA b,λb z=>absurd z (noA b),e0.u7,e0.Ox⟩,
  rfl,e0.bare,Un.kept hk,⟨_,x.toInCall.ns,λi y v h1 h2 h3=>?_⟩,λy c h=>⟨_,x.cell y c h⟩,e0.gZ.fresh (aH _),λy c h=>?_,λp hp=>absurd (show p∈([]:List (Addr×Obj))from hp) (by simp),e0.gZ.kept hk,?_⟩
 .exact name_of_addr x.apart (aY h1) (aY h2)
 .have hy:scope.names.lookup y=some .cell\/scope.names.lookup y=some .free:=hy;rcases hy with hy|hy
  .exact Hr hy
  exact absurd rfl (S.JR _ (aY hy))
 .exact le_of_lt (x.above y c (aY h))
 .have hi:i<vs.length:=by
   unfold start at h2;by_cases hi:i<vs.length
   .exact hi
   rw[bO (by simpa using hi)]at h2;rw[bc]at h2;split at h2<;>cases h2
  have ha:vs[i]? =some v:=by
   unfold start at h2;rw[cy (by simpa using hi),aK]at h2;cases e:vs[i]? with
   |none=>rw[e]at h2;cases h2
   |some a=>rw[e]at h2;cases h2;rfl
  obtain⟨u,hu,rv⟩:=r.get ha
  have hp:ps[i]? =some y:=by
   rw[<-S.pre,List.getElem?_take_of_lt (by omega)];exact h1
  have ndP:ps.Nodup:=by rw[<-S.pre];exact S.nd.sublist (List.take_sublist _ _)
  refine⟨u,rv,?_⟩;rcases S.par y (aR hp)with k|k
  .exact .inl ⟨k,ER ndP hp hu k⟩
  obtain⟨c,e⟩:=Hr (n:=s.heap.objs.size+1) k;refine .inr ⟨.inl k,c,e,?_⟩;have q:=x.cell y c e;rw[ES ndP hp hu (by show scope.names.lookup y≠_;rw[k];decide)]at q;exact q
 .exact e0.gZ.fresh (le_of_lt (x.above y c (aY h)))
 unfold start;show _=N.length;rw[aq,aw,List.length_replicate];omega
theorem WM{CX:Rr}{P:Program}{w:World}{K:Frag}{mg:Str->Option Value}{base:Heap}{k:Nat}{f:Addr}{name qual:Str}{params:Arguments}{body:List Stmt}{scope:Scope}{dV kV doc pm cdv ct oc:Value}{an od:Option Addr}
  {osl:Array (Option Value)} {N ps:List Str} {sp:Sp} (lk:K.lookup f=some ⟨oc,od,.func (fnOf name qual params body scope dV kV doc pm an cdv ct),osl⟩) (hcd:codeIn K cdv qual=true) (S:fh N ps scope)
  (len:∀vs H Q E,sp vs H Q E->vs.length=ps.length)
  (hbody:∀(A:Around)(outer:List Env)(s:Shared)(H:Hp)(vs:List V)(Q:VK)(E:XK),jJ k (A.deeper (envOfC qual scope s.heap.objs.size f cdv))->sp vs H Q E->
   ∃t,Hg (nS CX P w K mg base N qual scope f cdv A outer s H E) body t/\t {nx:=λ_ H'=>Q .hJ H',rt:=Q} (start N vs) H):
  vg P w K mg base CX (k+1) f (fnOf name qual params body scope dV kV doc pm an cdv ct) ps sp:=by
 refine⟨len,λA outer s H args us vs Q E hr e0 hb r hsp=>?_⟩;have hl:=len _ _ _ _ hsp;have KX:K.In s.heap:=e0.mod.Td.keeps λb o e=>(e0.bs b o e).1;have lim:s.heap.NoLimit:=e0.mod.nolimit.keeps λb o e=>(e0.bs b o e).1
 have Q7:∀y∈ps.zip us,scope.names.lookup y.1=some .local\/(scope.names.lookup y.1=some .cell/\((cellsFrom (s.heap.objs.size+1) scope.names []).lookup y.1).isSome=true):=λ⟨n,v⟩ hy=>by
  rcases S.par n (of_mem_zip hy).1 with q|q
  .exact .inl q
  exact .inr ⟨q,cellsFrom_some _ _ _ (.inl q)⟩
 refine codeAny_call_function hr.depth (KX _ _ lk) rfl S.co S.gen rfl (codeRec_of KX hcd) (hb _ _ _ _ ?_);refine wpAny_newFunctionEnv_cells S.kind Q7 λenv he s1 x=>?_;subst he;refine⟨lim.keeps x.toInCall.keep,codeAny_func ?_⟩;obtain⟨t,ht,hq⟩:=hbody A outer s H vs Q E (hr.deeper _) hsp;have I:Inv (nS CX P w K mg base N qual scope f cdv A outer s H E) [] (start N vs) H s1:=ET S hr.hd e0 hl r x;refine bp (ht [] s1 (start N vs) H _ I hq) (λfl s' hs=>?_) λe s' hs=>hs
 have fin:∀{σ':St}{H':Hp}{v:V}{u:Value},Inv (nS CX P w K mg base N qual scope f cdv A outer s H E) [] σ' H' s'->RelV v u->Q v H'->CE outer P w H s Q u s':=
  λ{σ' H' v u} J rv q=>⟨v,H',J.os,J.bare,J.base,J.gZ,rv,q⟩
 cases fl with
 |ret u=>
  obtain⟨v,σ',H',J,rv,q⟩:=hs;exact fin J rv q
 |next=>
  obtain⟨σ',H',J,q⟩:=hs;exact fin (v:=V.hJ) (u:=Value.none) J rfl q
 |brk=>
  obtain⟨_,_,_,q⟩:=hs;exact False.elim q
 |cont=>
  obtain⟨_,_,_,q⟩:=hs;exact False.elim q
end L2
namespace L2
open PySem PySem.Spec PyProof.Rows
section
variable{X:Cx}{x:Str}{p pos:Pos}{e:Expr}{es:List Expr}{t:TA}{id T:String}{r:List V->Hp->VK->Prop}
def YF(r:List V->Hp->VK->Prop)(t:TA):TE:=λσ H Q=>t σ H λvs H1=>r vs H1 Q
def CM(hc:CA X (.builtin id) r)(hg:Gl X x)(hm:X.mg x=none)(hv:bootBuiltins x=some (.builtin id))(ha:PA X (e::es) t)(hn:x≠"__name__":=by decide)(hdb:(x==("__debug__":Str))=false:=by decide)
  (he:starEach (e::es) X.env=(false,eval e X.env)::starEach es X.env:=by rfl) (hpl:(backTo pos (starEach es X.env)).any (·.1)=false:=by rfl):PE X (.Call (.Name x p) (e::es) [] pos) (YF r t):=by
 intro pins s σ H Q I h;refine bw (tV I hg hm hv ?_ hn hdb);exact PyProof.Rows.callWith_builtin1 (iO (ha pos pins s σ H _ I h) λus s1⟨vs,H1,I1,r1,q1⟩=>hc pins s1 σ H1 vs us Q I1 r1 q1) he hpl
def wo(hc:CA X (.type T) r)(hg:Gl X x)(hm:X.mg x=none)(hv:bootBuiltins x=some (.type T))(ha:PA X (e::es) t)(hn:x≠"__name__":=by decide)(hdb:(x==("__debug__":Str))=false:=by decide)
  (he:starEach (e::es) X.env=(false,eval e X.env)::starEach es X.env:=by rfl) (hpl:(backTo pos (starEach es X.env)).any (·.1)=false:=by rfl):PE X (.Call (.Name x p) (e::es) [] pos) (YF r t):=by
 intro pins s σ H Q I h;refine bw (tV I hg hm hv ?_ hn hdb);exact bg (iO (ha pos pins s σ H _ I h) λus s1⟨vs,H1,I1,r1,q1⟩=>hc pins s1 σ H1 vs us Q I1 r1 q1) he hpl
end
end L2
namespace HT
open PySem PyProof.Rows
section
variable{prog:Program}{w:World}{A:Around}{E:Value->Shared->Prop}{s:Shared}
noncomputable def JB(n d:Nat):Option Int->Nat
 |none=>d
 |some v=>if v<0 then(v+(n:Int)).toNat else min v.toNat n
def Lg(n d k:Nat):JB n d (some (k:Int))=min k n:=by
 show(if(k:Int)<0 then((k:Int)+(n:Int)).toNat else min (k:Int).toNat n)=min k n;rw[ag (by omega),dw]
end
end HT
namespace L2
open PySem PySem.Spec PyProof.Rows
noncomputable abbrev TO:=St->Hp->(Option Int->Hp->Prop)->Prop
def PO(X:Cx)(e:Option Expr)(t:TO):Prop:=
 ∀(pins:List (Addr×Obj))(s:Shared)(σ:St)(H:Hp)(Q:Option Int->Hp->Prop),Inv X pins σ H s->t σ H Q->
  wpAny (model X.prog X.w) X.A (evalPart e X.env) (λu s'=>∃o H',Inv X pins σ H' s'/\IsPart u o/\Q o H') X.xe s
inductive O0(Q:Option Int->Hp->Prop)(x:V)(H1:Hp):Prop
 |mk:∀i,(x=.int i)->(Q (some i) H1)->O0 Q x H1
def WN(t:TE):TO:=λσ H Q=>t σ H λx H1=>O0 Q x H1
section
variable{X:Cx}{e:Expr}{te:TE}{lo hi:Option Expr}{tl th:TO}{pos p2:Pos}
def wq(h:PE X e te):PO X (some e) (WN te):=by
 intro pins s σ H Q I hw;rw[evalPart_some];refine iO (h pins s σ H _ I hw) λu s1⟨x,H1,I1,r1,q1⟩=>?_;obtain⟨i,rfl,q⟩:=q1;obtain⟨t,rfl⟩:=r1;exact⟨some i,H1,I1,.int i t,q⟩
def SlR(X:Cx)(r:V->Option Int->Option Int->Hp->VK->Prop):Prop:=
 ∀(pins:List (Addr×Obj))(s:Shared)(σ:St)(H:Hp)(x:V)(v vl vu:Value)(lo hi:Option Int)(sl:Addr)(Q:VK),Inv X pins σ H s->RelV x v->s.heap.IsSliceOf sl vl vu .none->IsPart vl lo->IsPart vu hi->r x lo hi H Q->
  ∃T id,typeLookup (.type T) "__getitem__"=pure (some (.builtin id))/\s.TypeIs v T/\wpAny (model X.prog X.w) X.A (getItem v (.ref sl)) (EP X pins σ Q) X.xe s
def tSl(r:V->Option Int->Option Int->Hp->VK->Prop)(te:TE)(tl th:TO):TE:=λσ H Q=>te σ H λx H1=>tl σ H1 λl H2=>th σ H2 λu H3=>r x l u H3 Q
def CN{r:V->Option Int->Option Int->Hp->VK->Prop}(hr:SlR X r)(he:PE X e te)(hl:PO X lo tl)(hu:PO X hi th):PE X (.Subscript e (.Slice lo hi none p2) pos) (tSl r te tl th):=by
 intro pins s σ H Q I h;refine Subscript_ (iO (he pins s σ H _ I h) λv s1⟨x,H1,I1,r1,q1⟩=>?_);refine wpAny_Slice (iO (hl pins s1 σ H1 _ I1 q1) λvl s2⟨l,H2,I2,pl,q2⟩=>iO (hu pins s2 σ H2 _ I2 q2) λvu s3⟨u,H3,I3,pu,q3⟩=>?_);rw[evalPart_none];refine aB ?_;have I4:Inv X pins σ H3 {s3 with heap:=s3.heap.push {cls:=.type "slice",data:=.fields #[vl,vu,.none]}}:=I3.kept (t':=s3.toks) λb ob q=>ax _ q;obtain⟨T,id,hT,ht,hg⟩:=hr pins {s3 with heap:=s3.heap.push {cls:=.type "slice",data:=.fields #[vl,vu,.none]}} σ H3 x v vl vu l u s3.heap.objs.size Q I4 r1 (Heap.IsSliceOf.new ..) pl pu q3;exact tail_any ht hT hg (by with_unfolding_all rfl)
noncomputable def FY(xs:List V)(lo hi:Option Int):List V:=(xs.drop (HT.JB xs.length 0 lo)).take (HT.JB xs.length xs.length hi - HT.JB xs.length 0 lo)
def Hs(xs:List V)(lo hi:Option Int):(FY xs lo hi).length<=xs.length:=by
 unfold FY;rw[bh,bC];omega
end
end L2
namespace L2
open PySem PySem.Spec PyProof.Rows
noncomputable def Nt(n:Nat)(i:Int):Option Nat:=if 0<=i then(if i<n then some i.toNat else none)else if -(n:Int)<=i then some (i+n).toNat else none
noncomputable def Oy(xs:List α)(i:Int):Option α:=(Nt xs.length i).bind λj=>xs[j]?
def Lh{n:Nat}{i:Int}{j:Nat}(h:Nt n i=some j):seqIndex? i n=some j/\j<n/\ -(n:Int)<=i/\i<n:=by
 unfold Nt at h;by_cases h0:0<=i
 .rw[ak h0]at h;by_cases h1:i<n
  .rw[ak h1]at h;have e:i.toNat=j:=ao h;exact⟨by rw[seqIndex_of h0 h1,e],by omega,by omega,h1⟩
  rw[ag h1]at h;cases h
 rw[ag h0]at h;by_cases h1: -(n:Int)<=i
 .rw[ak h1]at h;have e:=ao h;exact⟨by rw[seqIndex_neg (by omega) h1,e],by omega,h1,by omega⟩
 rw[ag h1]at h;cases h
theorem FZ{i:Int}(h:Oy xs i=some v):∃j,seqIndex? i xs.length=some j/\xs[j]? =some v/\j<xs.length/\ -(xs.length:Int)<=i/\i<xs.length:=by
 unfold Oy at h;cases e:Nt xs.length i with
 |none=>rw[e]at h;cases h
 |some j=>
  rw[e]at h;obtain⟨h1,h2,h3,h4⟩:=Lh e;exact⟨j,h1,h,h2,h3,h4⟩
def RS{α:Type}{xs:List α}{j:Nat}{v:α}(h:xs[j]? =some v):Oy xs (j:Int)=some v:=by
 have hj:j<xs.length:=(ay.mp h).1
 have e:Nt xs.length (j:Int)=some j:=by
  unfold Nt;rw[ak (by omega),ak (by omega)];simp
 unfold Oy;rw[e];exact h
def yz(xs:List α)(v:α):Oy (xs++[v]) (-1)=some v:=by
 have hl:(xs++[v]).length=xs.length+1:=by simp
 have e:Nt (xs++[v]).length (-1)=some xs.length:=by
  unfold Nt;rw[hl,ag (by decide),ak (by omega)];congr 1;omega
 unfold Oy;rw[e];simp
def RT(b:Expr):Prop:=∀o i,subscripted b false o i=operate [o,i] (getItem o i)
def ZE(X:Cx)(r:R2):Prop:=
 ∀(value slice:Expr)(pins:List (Addr×Obj))(s:Shared)(σ:St)(H:Hp)(x y:V)(v u:Value)(Q:VK),Inv X pins σ H s->RelV x v->RelV y u->r x y H Q->
  subscripted slice false v u=operate [v,u] (getItem v u)->wpAny (model X.prog X.w) X.A (subscriptTail value slice v u) (EP X pins σ Q) X.xe s
def MtR(X:Cx)(id:String)(r:V->List V->Hp->VK->Prop):Prop:=
 ∀(pins:List (Addr×Obj))(s:Shared)(σ:St)(H:Hp)(x:V)(xs:List V)(v:Value)(us:List Value)(Q:VK),Inv X pins σ H s->RelV x v->Vals xs us->r x xs H Q->
  wpAny (model X.prog X.w) X.A (call (.builtin id) (v::us)) (EP X pins σ Q) X.xe s
section
variable{X:Cx}{a b:Expr}{ta tb:TE}{pos:Pos}
def gQ(hr:ZE X r)(ha:PE X a ta)(hb:PE X b tb)(hs:RT b):PE X (.Subscript a b pos) (K5 r ta tb):=by
 intro pins s σ H Q I h;exact Subscript_ (UG ha hb I h λv u s2 x y H2 I2 rx ry q=>hr a b pins s2 σ H2 x y v u Q I2 rx ry q (hs _ _))
inductive UJ(K:Frag)(x:V)(y:V)(H:Hp)(Q:VK):Prop
 |mk:∀p xs i v,x=.ref p->y=.int i->gC K H p xs->Oy xs i=some v->Q v H->UJ K x y H Q
inductive WO(K:Frag)(x:V)(y:V)(H:Hp)(Q:VK):Prop
 |mk:∀p xs i v,x=.ref p->y=.int i->m5 K H p xs->Oy xs i=some v->Q v H->WO K x y H Q
def gp:ZE X (UJ X.K):=by
 intro value slice pins s σ H x y v u Q I rx ry h hs;obtain⟨p,xs,i,z,rfl,rfl,hq,he,q⟩:=h;cases rx;obtain⟨t,rfl⟩:=ry;obtain⟨its,r,pl,hz⟩:=I.list hq;obtain⟨j,h1,h2,h3,h4,h5⟩:=FZ he;obtain⟨w,ew,Q8⟩:=r.get h2;have hl:=r.length;have hn:=CB;have fin:EP X pins σ Q w s:=⟨z,H,I,Q8,q⟩;by_cases h0:0<=i
 .have hj:i.toNat=j:=by
   rw[seqIndex_of h0 h5]at h1;exact ao h1
  exact item_listR pl.isList h0 (by omega) (by rw[hj];simpa using ew) fin hs
 have hj:(i+(its.toArray.size:Int)).toNat=j:=by
  rw[seqIndex_neg (by omega) h4]at h1;rw[aP,<-hl];exact ao h1
 exact subscriptTail_builtinR pl.isList.typeIs slot_list_getitem.lookup
  (wpAny_getItem_list_neg (Q:=λr s'=>r=w/\EP X pins σ Q r s') pl.isList (by omega) (by rw[aP]<;>omega) (by omega) (by rw[hj];simpa using ew) ⟨rfl,fin⟩) hs
def rV:ZE X (WO X.K):=by
 intro value slice pins s σ H x y v u Q I rx ry h hs;obtain⟨p,xs,i,z,rfl,rfl,hq,he,q⟩:=h;cases rx;obtain⟨t,rfl⟩:=ry;obtain⟨_,r,pl,_⟩:=I.tuple hq;obtain⟨j,h1,h2,_⟩:=FZ he;obtain⟨w,ew,Q8⟩:=r.get h2;have hl:=r.length;have hn:=CB;have fin:EP X pins σ Q w s:=⟨z,H,I,Q8,q⟩
 exact subscriptTail_builtinR (x:=w) pl.typeIs slot_tuple_getitem.lookup
  (getItem_tuple (j:=j) (Q:=λr s'=>r=w/\EP X pins σ Q r s') pl (by omega) (by omega) (by rw[aP,<-hl];exact h1) (by simpa using ew) ⟨rfl,fin⟩) hs
def JS(its:List Value)(n j:Nat)(u:Value):Obj.mapSeq (·.setIfInBounds j u) {cls:=.type "list",data:=.seq its.toArray n}={cls:=.type "list",data:=.seq (its.set j u).toArray n}:=by
 simp[Obj.mapSeq]
theorem Inv.lst(I:Inv X pins σ H s)(h:H p=some (.lst xs)):
  ∃(its:List Value)(n:Nat),Vals xs its/\s.heap.get? p=some {cls:=.type "list",data:=.seq its.toArray n}/\xs.length<=sizeLine:=by
 obtain⟨z,its,n,r,e⟩:=I.gZ p _ h;exact⟨its,n,r,e,z⟩
def Inv.UK{its its':List Value}(I:Inv X pins σ H s)(h:H p=some (.lst xs))
  (ho:s.heap.get? p=some {cls:=.type "list",data:=.seq its.toArray n}) (hf:f {cls:=.type "list",data:=.seq its.toArray n}={cls:=.type "list",data:=.seq its'.toArray n'}) (r:Vals ys its') (hz:ys.length<=sizeLine) (t:Nat):
  Inv X pins σ (upd H p (.lst ys)) {s with heap:=s.heap.update p f,toks:=t}:=by
 have e:(s.heap.update p f).get? p=some {cls:=.type "list",data:=.seq its'.toArray n'}:=by
  rw[a8 f ho (by rw[hf]<;>rfl),hf]
 refine I.write (by rw[h];trivial) (.inl rfl) (λb u hb q=>(bb _ _ (aW hb)).trans q) ⟨_,e⟩ ?_;exact⟨hz,its',n',r,e⟩
inductive O5(o:V)(i:V)(v:V)(H:Hp)(Q:Hp->Prop):Prop
 |mk:∀p xs k j,(o=.ref p)->(i=.int k)->(H p=some (.lst xs))->(Nt xs.length k=some j)->(Q (upd H p (.lst (xs.set j v))))->O5 o i v H Q
def WQ:V->V->V->Hp->(Hp->Prop)->Prop:=λo i v H Q=>O5 o i v H Q
def set_list:UC X WQ:=by
 intro pins s σ H o i v ov iv u Q I ro ri rv h;obtain⟨p,xs,k,j,rfl,rfl,hp,hj,q⟩:=h;cases ro;obtain⟨t,rfl⟩:=ri;obtain⟨its,n,r,ho,hz⟩:=I.lst hp;obtain⟨h1,h2,h3,h4⟩:=Lh hj;have hl:=r.length;have hn:=CB
 have I':Inv X pins σ (upd H p (.lst (xs.set j v))) {s with heap:=s.heap.update p (Obj.mapSeq (·.setIfInBounds j u))}:=
  I.UK hp ho (JS its n j u) (r.set rv j) (by rw[dG];exact hz) s.toks
 by_cases h0:0<=k
 .have hk:k.toNat=j:=by
   rw[seqIndex_of h0 h4]at h1;exact ao h1
  exact PySem.W.ki_setAt ho h0 (by omega) (by rw[aP,<-hl];exact h4) (by rw[hk];exact⟨_,I',q⟩)
 have hk:(k+(its.toArray.size:Int)).toNat=j:=by
  rw[seqIndex_neg (by omega) h3]at h1;rw[aP,<-hl];exact ao h1
 exact PySem.W.ki_setBack ho (by omega) (by rw[aP,<-hl];exact h3) (by omega) (by rw[hk];exact⟨_,I',q⟩)
def F2(lo hi:Option Int)(n:Nat):(sliceBounds lo hi none n).1=((HT.JB n 0 lo:Nat):Int)/\(sliceBounds lo hi none n).2.1=((HT.JB n n hi:Nat):Int)/\(sliceBounds lo hi none n).2.2=1:=by
 refine⟨?_,?_,rfl⟩
 .cases lo with
  |none=>simp[sliceBounds,HT.JB]
  |some i=>
   simp only[sliceBounds,HT.JB,getD_none,show(1:Int)>0 by decide,dj];by_cases h:i<0
   .simp only[h,dj]<;>omega
   simp only[h,bS]<;>omega
 cases hi with
 |none=>simp[sliceBounds,HT.JB]
 |some i=>
  simp only[sliceBounds,HT.JB,getD_none,show(1:Int)>0 by decide,dj];by_cases h:i<0
  .simp only[h,dj]<;>omega
  simp only[h,bS]<;>omega
def Ei(its:List Value)(lo hi:Option Int):slicePick its.toArray lo hi none=((its.drop (HT.JB its.length 0 lo)).take (HT.JB its.length its.length hi - HT.JB its.length 0 lo)).toArray:=by
 obtain⟨h1,h2,h3⟩:=F2 lo hi its.toArray.size;unfold slicePick;rw[h1,h2,h3];simp only[sliceRange_one,pick_run,aP]<;>rfl
inductive WR(K:Frag)(x:V)(lo:Option Int)(hi:Option Int)(H:Hp)(Q:VK):Prop
 |mk:∀a xs,x=.ref a->gC K H a xs->(∀p,H p=none->Q (.ref p) (upd H p (.lst (FY xs lo hi))))->WR K x lo hi H Q
def F3:SlR X (WR X.K):=by
 intro pins s σ H x v vl vu lo hi sl Q I rx hs pl pu h;obtain⟨a,xs,rfl,hx,q⟩:=h;cases rx;obtain⟨_,r,ht,hz⟩:=I.list hx;have hlen:=r.length;refine⟨"list",_,slot_list_getitem.lookup,ht.isList.typeIs,?_⟩;refine wpAny_getItem_list_slice ht.isList hs pl pu .none (by simp) ?_ (by rw[aP]<;>omega);rw[Ei,<-hlen];refine⟨.ref s.heap.objs.size,_,I.laid (λb ob q=>ax _ q) (aH _) ?_,rfl,q _ (I.gZ.fresh (aH _))⟩;exact⟨a7 (Hs xs lo hi) hz,_,0,(r.drop (HT.JB xs.length 0 lo)).take (HT.JB xs.length xs.length hi - HT.JB xs.length 0 lo),aN _ rfl⟩
noncomputable def yA:V->Bool
 |.hJ=>true
 |.bl _=>true
 |.int _=>true
 |.str _=>true
 |_=>false
noncomputable def Rt:V->V->Bool
 |.hJ,.hJ=>true
 |.bl a,.bl b=>a==b
 |.bl a,.int b=>(if a then 1 else 0)==b
 |.int a,.bl b=>a==(if b then 1 else 0)
 |.int a,.int b=>a==b
 |.str a,.str b=>a==b
 |_,_=>false
theorem UL(ry:RelV y u)(rx:RelV x v)(fy:yA y=true)(fx:yA x=true):SeqAt.EqAt A s u v (Rt y x):=by
 cases y with
 |hJ=>
  cases ry;cases x with
  |hJ=>cases rx;exact SeqAt.EqAt.same _
  |bl b=>cases rx;exact SeqAt.EqAt.none_bool b
  |int b=>obtain⟨t,rfl⟩:=rx;exact SeqAt.EqAt.none_int b t
  |str b=>obtain⟨t,rfl⟩:=rx;exact SeqAt.EqAt.none_str b t
  |_=>exact absurd (show false=true from fx) aD
 |bl a=>
  cases ry;cases x with
  |hJ=>cases rx;exact SeqAt.EqAt.bool_none a
  |bl b=>cases rx;exact SeqAt.EqAt.bool_bool a b
  |int b=>obtain⟨t,rfl⟩:=rx;exact SeqAt.EqAt.bool_int a b t
  |str b=>obtain⟨t,rfl⟩:=rx;exact SeqAt.EqAt.bool_str a b t
  |_=>exact absurd (show false=true from fx) aD
 |int a=>
  obtain⟨t',rfl⟩:=ry;cases x with
  |hJ=>cases rx;exact SeqAt.EqAt.int_none a t'
  |bl b=>cases rx;exact SeqAt.EqAt.int_bool a t' b
  |int b=>obtain⟨t,rfl⟩:=rx;exact SeqAt.EqAt.int_int a t' b t
  |str b=>obtain⟨t,rfl⟩:=rx;exact SeqAt.EqAt.int_str a t' b t
  |_=>exact absurd (show false=true from fx) aD
 |str a=>
  obtain⟨t',rfl⟩:=ry;cases x with
  |hJ=>cases rx;exact SeqAt.EqAt.str_none a t'
  |bl b=>cases rx;exact SeqAt.EqAt.str_bool a t' b
  |int b=>obtain⟨t,rfl⟩:=rx;exact SeqAt.EqAt.str_int a t' b t
  |str b=>obtain⟨t,rfl⟩:=rx;exact SeqAt.EqAt.str_str a t' b t
  |_=>exact absurd (show false=true from fx) aD
 |_=>exact absurd (show false=true from fy) aD
noncomputable def JT(x:V)(u:Value):Bool:=match u with
 |.none=>Rt .hJ x
 |.bool b=>Rt (.bl b) x
 |.int i _=>Rt (.int i) x
 |.str z _=>Rt (.str z) x
 |_=>false
theorem O6(r:RelV y u)(f:yA y=true):JT x u=Rt y x:=by
 cases y with
 |hJ=>cases r;rfl
 |bl b=>cases r;rfl
 |int i=>obtain⟨t,rfl⟩:=r;rfl
 |str z=>obtain⟨t,rfl⟩:=r;rfl
 |_=>exact absurd (show false=true from f) aD
theorem yB:∀{xs:List V}{us:List Value},Vals xs us->xs.all yA=true->us.any (JT x)=xs.any λy=>Rt y x
 |_,_,.nil,_=>rfl
 |y::xs,u::us,.cons r t,f=>by
  rw[eP,aO]at f;rw[any_cons,any_cons,O6 r f.1,yB t f.2]
theorem vh(rx:RelV x v)(fx:yA x=true):∀{xs:List V}{us:List Value},Vals xs us->xs.all yA=true->∀u∈us,SeqAt.EqAt A s u v (JT x u)
 |_,_,.nil,_=>λu hu=>by cases hu
 |y::xs,u::us,.cons r t,f=>λu' hu=>by
  rw[eP,aO]at f;rcases aA.mp hu with rfl|hu
  .rw[O6 r f.1];exact UL r rx f.1 fx
  exact vh rx fx t f.2 u' hu
noncomputable def Ru(x:V)(xs:List V):Bool:=xs.any λy=>Rt y x
inductive WS(K:Frag)(neg:Bool)(x:V)(y:V)(H:Hp)(Q:VK):Prop
 |mk:∀p xs,y=.ref p->(gC K H p xs\/m5 K H p xs)->yA x=true->xs.all yA=true->Q (.bl (if neg then !Ru x xs else Ru x xs)) H->WS K neg x y H Q
def Ai:yu X (compareOp .In) (WS X.K false):=by
 intro pins s σ H x y v u Q I rx ry h;obtain⟨p,xs,rfl,hq,fx,fs,q⟩:=h;cases ry;rcases hq with hq|hq
 .obtain⟨its,r,pl,hz⟩:=I.list hq;refine SeqAt.in_listAt (JT x) pl.isList (λw hw=>vh rx fx r fs w (by simpa using hw)) ⟨.bl _,H,I,rfl,?_⟩;rw[show its.toArray.any (JT x)=its.any (JT x) by simp,yB r fs];exact q
 obtain⟨its,r,pl,hz⟩:=I.tuple hq;refine SeqAt.in_tupleAt (JT x) pl (λw hw=>vh rx fx r fs w (by simpa using hw)) ⟨.bl _,H,I,rfl,?_⟩;rw[show its.toArray.any (JT x)=its.any (JT x) by simp,yB r fs];exact q
def F5:yu X (compareOp .NotIn) (WS X.K true):=by
 intro pins s σ H x y v u Q I rx ry h;obtain⟨p,xs,rfl,hq,fx,fs,q⟩:=h;cases ry;rcases hq with hq|hq
 .obtain⟨its,r,pl,hz⟩:=I.list hq;refine SeqAt.notIn_listAt (JT x) pl.isList (λw hw=>vh rx fx r fs w (by simpa using hw)) ⟨.bl _,H,I,rfl,?_⟩;rw[show its.toArray.any (JT x)=its.any (JT x) by simp,yB r fs];exact q
 obtain⟨its,r,pl,hz⟩:=I.tuple hq;refine SeqAt.notIn_tupleAt (JT x) pl (λw hw=>vh rx fx r fs w (by simpa using hw)) ⟨.bl _,H,I,rfl,?_⟩;rw[show its.toArray.any (JT x)=its.any (JT x) by simp,yB r fs];exact q
def F6:CA X (.builtin "len") (λxs H Q=>∃p ys,xs=[.ref p]/\(gC X.K H p ys\/m5 X.K H p ys)/\Q (.int ys.length) H):=by
 intro pins s σ H xs us Q I r h;obtain⟨p,ys,rfl,hq,q⟩:=h;obtain⟨u,rfl,rx⟩:=vals1 r;cases rx;have hn:=CB;rcases hq with hq|hq
 .obtain⟨its,r',pl,hz⟩:=I.list hq;have hlen:=r'.length;exact Calls.call_len_list pl.isList (by simp only[aP]<;>omega) ⟨.int ys.length,H,I.tok _,⟨s.toks+1,by rw[aP,hlen]⟩,q⟩
 obtain⟨its,r',pl,hz⟩:=I.tuple hq;have hlen:=r'.length;exact len_tuple pl (by simp only[aP]<;>omega) ⟨.int ys.length,H,I.tok _,⟨s.toks+1,by rw[aP,hlen]⟩,q⟩
def yC:CA X (.type "list") (λxs H Q=>∃p ys,xs=[.ref p]/\(gC X.K H p ys\/m5 X.K H p ys)/\∀l,H l=none->Q (.ref l) (upd H l (.lst ys))):=by
 intro pins s σ H xs us Q I r h;obtain⟨p,ys,rfl,hq,q⟩:=h;obtain⟨u,rfl,rx⟩:=vals1 r;cases rx
 have fin:∀(its:List Value),Vals ys its->ys.length<=sizeLine->∀(h':Heap)(c':Nat),(∀b o',s.heap.get? b=some o'->h'.get? b=some o')->
   h'.get? s.heap.objs.size=some {cls:=.type "list",dict:=none,data:=.seq its.toArray c',slots:= #[]}->EP X pins σ Q (.ref s.heap.objs.size) {s with heap:=h'}:=λits r' hz h' c' kp e=>
  ⟨.ref s.heap.objs.size,_,I.laid kp (aH _) (show i7 X.prog X.w _ h' _ (.lst ys)from⟨hz,its,c',r',e⟩),rfl,q _ (I.gZ.fresh (aH _))⟩
 rcases hq with hq|hq
 .obtain⟨its,r',pl,hz⟩:=I.list hq;have hlen:=r'.length;obtain⟨o,ho,hc,n,hd⟩:=pl.isList;exact call_list_seq p (.inl rfl) ho hc hd (λh' c' kp e=>fin its r' hz h' c' kp e) (by simp only[aP]<;>omega)
 obtain⟨its,r',pl,hz⟩:=I.tuple hq;have hlen:=r'.length;obtain⟨o,ho,hc,n,hd⟩:=pl;exact call_list_seq p (.inr rfl) ho hc hd (λh' c' kp e=>fin its r' hz h' c' kp e) (by simp only[aP]<;>omega)
def wW:CA X (.type "tuple") (λxs H Q=>∃p ys,xs=[.ref p]/\((gC X.K H p ys/\∀l,H l=none->Q (.ref l) (upd H l (.tup ys)))\/(m5 X.K H p ys/\Q (.ref p) H))):=by
 intro pins s σ H xs us Q I r h;obtain⟨p,ys,rfl,h⟩:=h;obtain⟨u,rfl,rx⟩:=vals1 r;cases rx;rcases h with⟨hq,q⟩|⟨hq,q⟩
 .obtain⟨its,r',pl,hz⟩:=I.list hq;have hlen:=r'.length;refine call_tuple_list pl.isList (λh' kp=>?_) (by simp only[aP]<;>omega);have I1:Inv X pins σ H {s with heap:=h'}:=I.kept (t':=s.toks) kp
  have I2:Inv X pins σ (upd H h'.objs.size (.tup ys)) {s with heap:=h'.push {cls:=.type "tuple",data:=.seq its.toArray}}:=
   I1.laid (t':=s.toks) (λb o e=>ax _ e) (aH _) (show i7 X.prog X.w _ _ _ (.tup ys)from⟨hz,its,r',IsTup.new _ _⟩)
  exact⟨.ref h'.objs.size,_,I2,rfl,q _ (I1.gZ.fresh (aH _))⟩
 obtain⟨its,r',pl,hz⟩:=I.tuple hq;exact call_tuple_same pl ⟨.ref p,H,I,rfl,q⟩
def tyV(K:Frag)(T:String)(x:V)(H:Hp):Prop:=match x with
 |.str _=>T="str"
 |.int _=>T="int"
 |.ref p=>(T="list"/\∃xs,gC K H p xs)\/(T="tuple"/\∃o,K.lookup p=some o/\o.cls=.type "tuple"/\o.dict=none)\/
   (T="dict"/\((∃kvs,H p=some (.dK kvs))\/∃kvs,H p=some (.dT kvs)))\/(T="set"/\∃S n,H p=some (.set S n))
 |_=>False
theorem UM(I:Inv X pins σ H s)(r:RelV x v)(ty:tyV X.K T x H):
  s.TypeIs v T/\∀a,v=.ref a->∃ob,s.heap.get? a=some ob/\ob.dict=none:=by
 cases x with
 |str z=>
  obtain⟨t,rfl⟩:=r;cases(show T="str" from ty);exact⟨typeIs_str s z t,λ_ e=>nomatch e⟩
 |int i=>
  obtain⟨t,rfl⟩:=r;cases(show T="int" from ty);exact⟨typeIs_int s i t,λ_ e=>nomatch e⟩
 |ref p=>
  cases r;rcases ty with⟨rfl,xs,hq⟩|⟨rfl,o,hk,hc,hd⟩|⟨rfl,hk⟩|⟨rfl,S,n,hk⟩
  .obtain⟨_,_,pl,_⟩:=I.list hq;refine⟨pl.isList.typeIs,λa e=>?_⟩;cases e;obtain⟨o,n,e,c,hd,_⟩:=pl;exact⟨o,e,hd⟩
  .refine⟨⟨o,I.pS p o hk,hc⟩,λa e=>?_⟩;cases e;exact⟨o,I.pS _ o hk,hd⟩
  .have z:∃o,s.heap.get? p=some o/\o.ExactDict:=by
    rcases hk with⟨kvs,hk⟩|⟨_,hk⟩
    .obtain⟨_,_,_,_,o,_,_,e,ex,_⟩:=I.gZ p _ hk;exact⟨o,e,ex⟩
    obtain⟨_,_,_,_,o,_,_,e,ex,_⟩:=I.gZ p _ hk;exact⟨o,e,ex⟩
   obtain⟨o,e,ex⟩:=z;refine⟨⟨o,e,ex.1⟩,λa e2=>?_⟩;cases e2;exact⟨o,e,ex.2.1⟩
  obtain⟨o,_,_,_,e,ex,_⟩:=I.gZ p _ hk;refine⟨⟨o,e,ex.1⟩,λa e2=>?_⟩;cases e2;exact⟨o,e,ex.2.1⟩
 |_=>exact False.elim ty
def tBM(K:Frag)(T:String)(r:V->List V->Hp->VK->Prop)(to:TE)(t:TA):TE:=λσ H Q=>to σ H λx H1=>tyV K T x H1/\t σ H1 λxs H2=>r x xs H2 Q
variable{o e:Expr}{es:List Expr}{to:TE}{t:TA}{name:Str}{apos l0:Pos}{T id:String}{r:V->List V->Hp->VK->Prop}
def mD(pa:PlainAttrs T)(slot:Slot T name id)(hty:typeOf (.builtin id)=pure (.type "method_descriptor"))(hm:MtR X id r)(ho:PE X o to)(ha:PA X (e::es) t)
  (hbase:attributeBase o name X.env (eval o X.env)=eval o X.env:=by rfl)
  (hfew:((backTo l0 (starEach (e::es) X.env)).all (λx=> !x.1)&&(backToKw l0 (keywordEach [] X.env)).all (λx=>x.1.isSome)
   &&decide ((e::es).length+([]:List Keyword).length+(if([]:List Keyword).isEmpty then 0 else 1)<30))=true:=by rfl)
  (hline:(apos.endLine==l0.line)=true:=by rfl) (hs:starEach (e::es) X.env=(false,eval e X.env)::starEach es X.env:=by rfl) (hplain:(backTo l0 (starEach es X.env)).any (·.1)=false:=by rfl):
  PE X (.Call (.Attribute o name apos) (e::es) [] l0) (tBM X.K T r to t):=by
 intro pins s σ H Q I h;refine wpAny_Call_method_late hbase hfew hline rfl (iO (ho pins s σ H _ I h) λv s1⟨x,H1,I1,r1,ty,q1⟩=>?_);obtain⟨h1,h2⟩:=UM I1 r1 ty;refine⟨T,id,pa,slot,hty,h1,h2,?_⟩;have hA:=ha l0 pins s1 σ H1 _ I1 q1;rw[hs]at hA⊢;refine Calls.callWith_builtin (by show(false||(backTo l0 (starEach es X.env)).any (·.1))=false;rw[hplain]<;>rfl) (Calls.evalArgs_plain ?_);exact iO hA λus s2⟨vs,H2,I2,r2,q2⟩=>hm pins s2 σ H2 x vs v us Q I2 r1 r2 q2
end
end L2
namespace L2
open PySem PySem.Spec PyProof.Rows
def ZF(X:Cx)(id:String)(r:V->List V->Hp->VK->Prop):Prop:=
 ∀(pins:List (Addr×Obj))(s:Shared)(σ:St)(H:Hp)(x:V)(xs:List V)(v:Value)(us:List Value)(Q:VK),Inv X pins σ H s->RelV x v->Vals xs us->r x xs H Q->
  wpAny (model X.prog X.w) X.A (call (.builtin id) (v::us)) (EP X pins σ Q) X.xe s
theorem Vals.one:∀{x:V}{us:List Value},Vals [x] us->∃u,us=[u]/\RelV x u
 |_,_,.cons r .nil=>⟨_,rfl,r⟩
theorem Vals.rep(h:Vals xs us):∀k:Nat,Vals (List.replicate k xs).flatten (List.replicate k us).flatten
 |0=>.nil
 |k+1=>by
  rw[dQ,dQ,flatten_cons,flatten_cons];exact Vals.append h (Vals.rep h k)
theorem foldl_rep(its:List Value):∀(k:Nat)(acc:List Value),
  List.foldl (λx1 x2=>x1++x2) acc.toArray (List.replicate k its.toArray)=(acc++(List.replicate k its).flatten).toArray
 |0,acc=>by simp
 |k+1,acc=>by
  have e:acc.toArray++its.toArray=(acc++its).toArray:=by simp
  have e2:(acc++its)++(List.replicate k its).flatten=acc++(List.replicate (k+1) its).flatten:=by
   rw[dQ,flatten_cons,a0]
  rw[<-e2,<-foldl_rep its k (acc++its),<-e,dQ,cM]
section
variable{X:Cx}{pins:List (Addr×Obj)}{σ:St}{H:Hp}{s:Shared}{l b:Addr}{xs ys zs:List V}
def Inv.UN{its its':List Value}(I:Inv X pins σ H s)(hH:H l=some (.lst xs))
  (e:s.heap.get? l=some {cls:=.type "list",data:=.seq its.toArray n}) (hf:f its.toArray=its'.toArray) (hv:Vals ys its') (hz:ys.length<=sizeLine):
  Inv X pins σ (upd H l (.lst ys)) {s with heap:=s.heap.update l (Obj.mapSeq f),toks:=t'}:=by
 have q:=PySem.IsL.update e f;rw[hf]at q;refine I.write (by rw[hH];exact trivial) (.inl rfl) (λb' u hb hu=>(bb s.heap (Obj.mapSeq f) (aW hb)).trans hu) ⟨_,q⟩ ?_;exact⟨hz,its',_,hv,q⟩
def Inv.WT(I:Inv X pins σ H s)(hv:Vals ys its)(hz:ys.length<=sizeLine):
  Inv X pins σ (upd H s.heap.objs.size (.lst ys)) {s with heap:=s.heap.push {cls:=.type "list",data:=.seq its.toArray},toks:=t'}:=
 I.laid (λ_ _ q=>ax _ q) (aH _) ⟨hz,its,0,hv,aN _ rfl⟩
theorem Inv.fresh(I:Inv X pins σ H s):H s.heap.objs.size=none:=I.gZ.fresh (aH _)
def Inv.JU(I:Inv X pins σ H s)(hH:H l=some (.lst xs)):xs.length<=sizeLine/\∃(its:List Value)(n:Nat),Vals xs its/\xs.length=its.length/\s.heap.get? l=some {cls:=.type "list",data:=.seq its.toArray n}:=by
 obtain⟨z,its,n,r,e⟩:=I.gZ l _ hH;exact⟨z,its,n,r,r.length,e⟩
def CO(h:n<=sizeLine):Builtin.List.listTooLong n=false:=by
 exact aV (by omega)
end
section
variable{X:Cx}
inductive Li(x:V)(vs:List V)(H:Hp)(Q:VK):Prop
 |mk:∀l xs y,x=.ref l->vs=[y]->H l=some (.lst xs)->xs.length<sizeLine->Q .hJ (upd H l (.lst (xs++[y])))->Li x vs H Q
def iD:ZF X "list.append" Li:=by
 intro pins s σ H x vs v us Q I rx rv h;obtain⟨l,xs,y,rfl,rfl,hH,hz,q⟩:=h;cases rx;obtain⟨u,rfl,ru⟩:=rv.one;obtain⟨z,its,n,r,hl,e⟩:=I.JU hH;refine call_meets F.slot_list_append ⟨_,e,rfl⟩ F.entry_list_append (F.args_list_append_2 _ _) (PySem.list_append l its.toArray n u (by rw[aP];omega)) ⟨e,?_⟩;refine⟨.hJ,_,I.UN (its':=its++[u]) hH e (by simp) (r.append (.cons ru .nil)) ?_,rfl,q⟩;rw[aq,dY];omega
inductive Lj(x:V)(vs:List V)(H:Hp)(Q:VK):Prop
 |mk:∀l b xs zs,x=.ref l->vs=[.ref b]->H l=some (.lst xs)->H b=some (.lst zs)->xs.length+zs.length<=sizeLine->Q .hJ (upd H l (.lst (xs++zs)))->Lj x vs H Q
def Aj:ZF X "list.extend" Lj:=by
 intro pins s σ H x vs v us Q I rx rv h;obtain⟨l,b,xs,zs,rfl,rfl,hH,hB,hz,q⟩:=h;cases rx;obtain⟨u,rfl,ru⟩:=rv.one;cases ru;obtain⟨z,its,n,r,hl,e⟩:=I.JU hH;obtain⟨z2,Ed,n2,r2,XI,e2⟩:=I.JU hB;have hsz:its.toArray.size+Ed.toArray.size<=sizeLine:=by rw[aP,aP];omega
 have Jv:¬(!its.toArray.isEmpty&&Builtin.List.listTooLong (its.toArray.size+Ed.toArray.size))=true:=by
  rw[CO hsz,Bool.and_false];exact aD
 refine call_meets F.slot_list_extend ⟨_,e,rfl⟩ F.entry_list_extend (F.args_list_extend_2 _ _)
  (AutoSeq1.list_extend_list_list_0 l its.toArray n b Ed.toArray n2 Jv (by rw[aP];omega) (by omega)) ⟨e,e2,?_⟩
 refine⟨.hJ,_,I.UN (its':=its++Ed) hH e (by simp) (r.append r2) ?_,rfl,q⟩;rw[aq];omega
inductive UO(x:V)(y:V)(H:Hp)(Q:VK):Prop
 |mk:∀l b xs zs,x=.ref l->y=.ref b->H l=some (.lst xs)->H b=some (.lst zs)->xs.length+zs.length<=sizeLine->(∀p,H p=none->Q (.ref p) (upd H p (.lst (xs++zs))))->UO x y H Q
def xT:yu X (binaryOp .Add) UO:=by
 intro pins s σ H x y v u Q I rx ry h;obtain⟨_,_,_,_,rfl,rfl,hH,hB,_,q⟩:=h;cases rx;cases ry;obtain⟨z,its,n,r,hl,e⟩:=I.JU hH;obtain⟨_,Ed,_,r2,_,e2⟩:=I.JU hB;refine PySem.P.add_list e e2 ?_ (by rw[aP,aP];omega);have ea:its.toArray++Ed.toArray=(its++Ed).toArray:=by simp
 rw[ea];exact⟨.ref _,_,I.WT (r.append r2) (by rw[aq];omega),rfl,q _ I.fresh⟩
inductive WU(x:V)(y:V)(H:Hp)(Q:VK):Prop
 |mk:∀l k xs,x=.ref l->y=.int k->H l=some (.lst xs)-> -(2^63)<=k->k<2^63->xs.length*k.toNat<=sizeLine->(∀p,H p=none->Q (.ref p) (upd H p (.lst (List.replicate k.toNat xs).flatten)))->WU x y H Q
theorem len_rep(xs:List α)(k:Nat):(List.replicate k xs).flatten.length=k*xs.length:=by
 induction k with
 |zero=>simp
 |succ k ih=>rw[dQ,flatten_cons,aq,ih,succ_mul,Nat.add_comm]
def JV:yu X (binaryOp .Mult) WU:=by
 intro pins s σ H x y v u Q I rx ry h;obtain⟨l,k,xs,rfl,rfl,hH,h1,h2,hz,q⟩:=h;cases rx;obtain⟨t,rfl⟩:=ry;obtain⟨z,its,n,r,hl,e⟩:=I.JU hH;have hlen:its.toArray.size*k.toNat<=sizeLine:=by rw[aP,<-hl];exact hz
 have aae:¬its.toArray.size*k.toNat>(2^63 - 1)/8:=by
  have:(sizeLine:Nat)<=(2^63 - 1)/8:=by decide
  omega
 have aaf:¬(!Builtin.List.listFitsIndex k)=true:=by
  rw[fitsIndex_both h1 h2];exact aD
 have Jv:¬Builtin.List.listTooLong (its.toArray.size*k.toNat)=true:=by
  rw[CO hlen];exact aD
 have aag:List.foldl (λx1 x2=>x1++x2) #[] (List.replicate (if its.toArray.isEmpty=true then 0 else k.toNat) its.toArray)=(List.replicate k.toNat its).flatten.toArray:=by
  have f0:∀m:Nat,List.foldl (λx1 x2=>x1++x2) #[] (List.replicate m its.toArray)=(List.replicate m its).flatten.toArray:=λm=>by
   have:=foldl_rep its m [];rw[List.nil_append]at this;exact this
  rw[f0];cases its with
  |nil=>simp
  |cons a r'=>rw[ag (by simp)]
 refine wpAny_binaryOp_repeat_ref (by decide) ⟨_,e,rfl⟩ (λs'=>typeIs_int s' k t) noFill_list_mul F.fills_int_mul F.slot_int_rmul repeat_list F.slot_int_index.lookup
  (call_meets F.slot_int_rmul (typeIs_int s k t) F.entry_int_rmul (F.args_int_rmul_2 _ _) (int___rmul___int_list k t l its.toArray n)
   ⟨e,rfl,⟨_,e,rfl⟩,call_meets F.slot_list_mul ⟨_,e,rfl⟩ F.entry_list_mul (F.args_list_mul_2 _ _) (AutoListH.list___mul___list_int_3 l its.toArray n k t aaf aae Jv) ⟨e,?_⟩⟩)
 rw[aag];exact⟨.ref _,_,I.WT (r.rep k.toNat) (by rw[len_rep,mul_comm];exact hz),rfl,q _ I.fresh⟩
end
end L2
namespace L2
open PySem PySem.Spec PyProof.Rows
theorem Vals.ints:∀{ns:List Int}{us:List Value},Vals (ns.map V.int) us->IntsAre us ns
 |[],us,h=>by
  rw[map_nil]at h;cases h;exact IntsAre.nil
 |n::ns,us,h=>by
  rw[bJ]at h;cases h with
  |cons r t=>
   obtain⟨k,rfl⟩:=r;exact IntsAre.cons n k (Vals.ints t)
theorem yD:∀{us:List Value}{ns:List Int},IntsAre us ns->Vals (ns.map V.int) us
 |_,_,.nil=>by rw[map_nil];exact Paired.nil
 |_,_,.cons n t h=>by rw[bJ];exact Paired.cons (show RelV (V.int n) (Value.int n t)from⟨t,rfl⟩) (yD h)
mutual
inductive Dp(K:Frag)(H:Hp):V->PyData->Prop
 |hJ:Dp K H .hJ .none
 |bl (b:Bool):Dp K H (.bl b) (.bool b)
 |int (i:Int):Dp K H (.int i) (.int i)
 |str (x:Str):Dp K H (.str x) (.str x)
 |lst {a:Addr} {xs:List V} {ds:List PyData}:gC K H a xs->CP K H xs ds->Dp K H (.ref a) (.list ds)
 |tup {a:Addr} {xs:List V} {ds:List PyData}:m5 K H a xs->CP K H xs ds->Dp K H (.ref a) (.tuple ds)
inductive CP(K:Frag)(H:Hp):List V->List PyData->Prop
 |nil:CP K H [] []
 |cons {v:V} {vs:List V} {d:PyData} {ds:List PyData}:Dp K H v d->CP K H vs ds->CP K H (v::vs) (d::ds)
end
section
variable{X:Cx}{pins:List (Addr×Obj)}{σ:St}{H:Hp}{s:Shared}
mutual
theorem Dp.reads(I:Inv X pins σ H s):∀(d:PyData)(v:V)(u:Value),Dp X.K H v d->RelV v u->∃as,Reads s.heap u d as
 |.none,_,_,h,r=>by
  cases h;cases r;exact⟨_,Reads.none⟩
 |.bool b,_,_,h,r=>by
  cases h;cases r;exact⟨_,Reads.bool b⟩
 |.int i,_,_,h,r=>by
  cases h;obtain⟨t,rfl⟩:=r;exact⟨_,Reads.int i t⟩
 |.str x,_,_,h,r=>by
  cases h;obtain⟨t,rfl⟩:=r;exact⟨_,Reads.str x t⟩
 |.list ds,_,_,h,r=>by
  cases h with
  |lst hs ha=>
   cases r;obtain⟨its,rv,⟨o,n,ho,hc,_,hd⟩,_⟩:=I.list hs;obtain⟨as,hr⟩:=Dp.readsAll I ds _ its ha rv;exact⟨_,Reads.list ho hc hd hr⟩
 |.tuple ds,_,_,h,r=>by
  cases h with
  |tup hs ha=>
   cases r;obtain⟨its,rv,⟨o,ho,hc,n,hd⟩,_⟩:=I.tuple hs;obtain⟨as,hr⟩:=Dp.readsAll I ds _ its ha rv;exact⟨_,Reads.tuple ho hc hd hr⟩
 |.dict _,_,_,h,_=>by cases h
theorem Dp.readsAll(I:Inv X pins σ H s):∀(ds:List PyData)(vs:List V)(us:List Value),CP X.K H vs ds->Vals vs us->∃as,ReadsAll s.heap us ds as
 |[],_,_,h,r=>by
  cases h;cases r;exact⟨_,ReadsAll.nil⟩
 |d::ds,_,_,h,r=>by
  cases h with
  |cons h1 h2=>
   cases r with
   |cons r1 r2=>
    obtain⟨as,q1⟩:=Dp.reads I d _ _ h1 r1;obtain⟨bs,q2⟩:=Dp.readsAll I ds _ _ h2 r2;exact⟨_,ReadsAll.cons q1 q2⟩
end
end
section
variable{X:Cx}
inductive WV(K:Frag)(x:V)(y:V)(H:Hp)(Q:VK):Prop
 |mk:∀d e,Dp K H x d->Dp K H y e->SeqAt.shaped d=true->SeqAt.shaped e=true->Q (.bl (PyData.eqv d e)) H->WV K x y H Q
inductive WW(K:Frag)(x:V)(y:V)(H:Hp)(Q:VK):Prop
 |mk:∀d e,Dp K H x d->Dp K H y e->SeqAt.shaped d=true->SeqAt.shaped e=true->Q (.bl (!PyData.eqv d e)) H->WW K x y H Q
def xU(hu:X.A.units+64<cLine):yu X (compareOp .Eq) (WV X.K):=by
 intro pins s σ H x y v u Q I rx ry h;obtain⟨d,e,hd,he,sd,se,q⟩:=h;obtain⟨as,r1⟩:=Dp.reads I d x v hd rx;obtain⟨bs,r2⟩:=Dp.reads I e y u he ry;exact SeqAt.compareEq_shaped r1 r2 sd se hu ⟨.bl _,H,I,rfl,q⟩
def UP(hu:X.A.units+64<cLine):yu X (compareOp .NotEq) (WW X.K):=by
 intro pins s σ H x y v u Q I rx ry h;obtain⟨d,e,hd,he,sd,se,q⟩:=h;obtain⟨as,r1⟩:=Dp.reads I d x v hd rx;obtain⟨bs,r2⟩:=Dp.reads I e y u he ry;exact SeqAt.compareNe_shaped r1 r2 sd se hu ⟨.bl _,H,I,rfl,q⟩
end
end L2
namespace L2
open PySem PySem.Spec PyProof.Rows
abbrev O7(h:Heap)(c:Addr)(v:Option Value):Prop:=h.IsCell c v
noncomputable def ZG(scope sc:Scope):Scope:=
 {scope with names:=scope.names.map λ(n,k)=>if(k==.free&&sc.kind==.function&&sc.names.lookup n==some .cell)then(n,.cell)else(n,k)}
noncomputable def iP(cells:List (Str×Addr)):List (Str×NameKind)->List (Str×Addr)->List (Str×Addr)
 |[],acc=>acc
 |(n,k)::r,acc=>if k==.free then iP cells r ((n,(cells.lookup n).getD 0)::acc)else iP cells r acc
theorem yE(env:Env)(f:Str×NameKind->List (Str×Addr)->Sem (ForInStep (List (Str×Addr))))
  (hf:∀n k c,f (n,k) c=if k==.free then(do let a<-cellOf env n;pure (.yield ((n,a)::c)))else pure (.yield c)):
  ∀(names:List (Str×NameKind))(acc:List (Str×Addr)),(∀y∈names,y.2=.free->∃c,env.cells.lookup y.1=some c)->forIn names acc f=pure (iP env.cells names acc)
 |[],acc,_=>by rw[List.forIn_nil];rfl
 |(n,k)::r,acc,h=>by
  rw[List.forIn_cons,hf];have ih:=λacc=>yE env f hf r acc λy hy=>h y (aC _ hy);unfold iP;by_cases hk:(k==NameKind.free)=true
  .rw[ak hk,ak hk];obtain⟨c,hc⟩:=h (n,k) aM (by simpa using hk);have e:cellOf env n=pure c:=by unfold cellOf;rw[hc]
   rw[e];have e2:(env.cells.lookup n).getD 0=c:=by rw[hc];rfl
   rw[e2];exact ih _
  rw[ag hk,ag hk];exact ih _
def JW(h:∀y∈scope.names,y.2=.free->∃c,env.cells.lookup y.1=some c):closureFor scope env=pure (iP env.cells scope.names []):=by
 simp only[closureFor];rw[yE env _ (λn k c=>rfl) scope.names [] h];rfl
theorem mem_lookup:∀{l:List (Str×α)}{n:Str}{c:α},(n,c)∈l->∃c',l.lookup n=some c'
 |(k,v)::r,n,c,h=>by
  rw[c7];cases hb:n==k with
  |true=>exact⟨_,rfl⟩
  |false=>
   rcases aA.mp h with e|h
   .cases e;simp at hb
   exact mem_lookup h
theorem qZ:∀{names:List (Str×NameKind)}{acc:List (Str×Addr)}{n:Str}{c:Addr},(n,c)∈iP cells names acc->(n,c)∈acc\/((n,.free)∈names/\c=(cells.lookup n).getD 0)
 |[],_,_,_,h=>.inl h
 |(m,k)::r,acc,n,c,h=>by
  unfold iP at h;split at h
  .rename_i hk;have hk:k=.free:=by simpa using hk
   rcases qZ h with h|⟨h1,h2⟩
   .rcases aA.mp h with e|h
    .cases e;exact .inr ⟨hk▸aM,rfl⟩
    exact .inl h
   exact .inr ⟨aC _ h1,h2⟩
  rcases qZ h with h|⟨h1,h2⟩
  .exact .inl h
  exact .inr ⟨aC _ h1,h2⟩
theorem vi:∀{names:List (Str×NameKind)}{acc:List (Str×Addr)}{p:Str×Addr},p∈acc->p∈iP cells names acc
 |[],_,_,h=>h
 |(m,k)::r,acc,p,h=>by
  unfold iP;split
  .exact vi (aC _ h)
  exact vi h
theorem vj:∀{names:List (Str×NameKind)}{acc:List (Str×Addr)}{n:Str},(n,.free)∈names->(n,(cells.lookup n).getD 0)∈iP cells names acc
 |(m,k)::r,acc,n,h=>by
  unfold iP;rcases aA.mp h with e|h
  .cases e;exact vi aM
  split
  .exact vj h
  exact vj h
theorem sN:∀{names:List (Str×NameKind)}{h:Heap}{acc:List (Str×Addr)}{x:Str}{c:Addr},(x,c)∈cellsFrom h.objs.size names acc->
  (x,c)∈acc\/((x,.cell)∈names/\h.objs.size<=c/\O7 (pushCells h names) c none)
 |[],_,_,_,_,h=>.inl h
 |(n,k)::r,h,acc,x,c,hm=>by
  unfold cellsFrom at hm;unfold pushCells;split at hm
  .rename_i hk;rw[ak hk];have hk:k=.cell:=by simpa using hk
   rw[<-b8 h {cls:=.type "cell",data:=.cell none}]at hm;rcases sN hm with hm|⟨h1,h2,h3⟩
   .rcases aA.mp hm with e|hm
    .cases e;exact .inr ⟨hk▸aM,aH _,_,eB r _ _ _ (aN _ rfl),rfl⟩
    exact .inl hm
   rw[b8]at h2;exact .inr ⟨aC _ h1,dR h2,h3⟩
  rename_i hk;rw[ag hk];rcases sN hm with hm|⟨h1,h2,h3⟩
  .exact .inl hm
  exact .inr ⟨aC _ h1,h2,h3⟩
theorem wt:∀{names:List (Str×NameKind)}{n:Nat}{acc:List (Str×Addr)}{p:Str×Addr},p∈acc->p∈cellsFrom n names acc
 |[],_,_,_,h=>h
 |(m,k)::r,n,acc,p,h=>by
  unfold cellsFrom;split
  .exact wt (aC _ h)
  exact wt h
theorem Ak:∀{names:List (Str×NameKind)}{n:Nat}{acc:List (Str×Addr)}{x:Str},(x,.cell)∈names->∃c,(x,c)∈cellsFrom n names acc
 |(m,k)::r,n,acc,x,h=>by
  unfold cellsFrom;rcases aA.mp h with e|h
  .cases e;exact⟨n,wt aM⟩
  split
  .exact Ak h
  exact Ak h
theorem Al:∀{names:List (Str×NameKind)}{h:Heap}{acc:List (Str×Addr)}{x y:Str}{c:Addr},(∀p∈acc,p.2<h.objs.size)->(∀x y c,(x,c)∈acc->(y,c)∈acc->x=y)->
  (x,c)∈cellsFrom h.objs.size names acc->(y,c)∈cellsFrom h.objs.size names acc->x=y
 |[],_,_,_,_,_,_,hi,h1,h2=>hi _ _ _ h1 h2
 |(n,k)::r,h,acc,x,y,c,hl,hi,h1,h2=>by
  unfold cellsFrom at h1 h2;split at h1
  .rename_i hk;rw[ak hk]at h2;rw[<-b8 h {cls:=.type "cell",data:=.cell none}]at h1 h2;refine Al (λp hp=>?_) (λx y c a b=>?_) h1 h2
   .rw[b8];rcases aA.mp hp with rfl|hp
    .exact cK _
    exact cS (hl p hp)
   rcases aA.mp a with e|a<;>rcases aA.mp b with e'|b
   .cases e;cases e';rfl
   .cases e;exact absurd (hl _ b) (dI _)
   .cases e';exact absurd (hl _ a) (dI _)
   exact hi _ _ _ a b
  rename_i hk;rw[ag hk]at h2;exact Al hl hi h1 h2
def Ht{code:Value}
  (h:Q (newEnv scope s.heap.objs.size globals (cellsFrom (s.heap.objs.size+1) scope.names closure) qual func code (some around) builtins)
   {s with heap:=pushCells (s.heap.push {cls:=.type "dict",data:=.dict #[]}) scope.names}):
  wpAny M A (newFunctionEnv scope globals closure [] qual func code (some around) builtins) Q E s:=by
 simp only[newFunctionEnv,Option.isSome_some,dj];refine af (wpAny_alloc ?_);refine af (wpAny_layCells _ (λn k c=>rfl) scope.names closure _ _ ?_);rw[show({s with heap:=s.heap.push {cls:=.type "dict",data:=.dict #[]}}:Shared).heap.objs.size=s.heap.objs.size+1 from b8 ..];rw[List.forIn_nil];exact af (aB (aB h))
theorem vk{sc:Scope}:∀{names:List (Str×NameKind)}{x:Str}{k:NameKind},
  (names.map λ(n,k)=>if(k==NameKind.free&&sc.kind==.function&&sc.names.lookup n==some .cell)then(n,NameKind.cell)else(n,k)).lookup x=some k->
  ∃k',names.lookup x=some k'/\(k=k'\/(k'=.free/\k=.cell))
 |[],_,_,h=>by simp at h
 |(n,k₀)::r,x,k,h=>by
  have ih:= @vk sc r x k;have h':List.lookup x ((if(k₀==NameKind.free&&sc.kind==.function&&sc.names.lookup n==some .cell)=true then(n,NameKind.cell)else(n,k₀))::(r.map _))=some k:=h;cases hx:x==n with
  |true=>
   simp only[c7,hx];by_cases hc:(k₀==NameKind.free&&sc.kind==.function&&sc.names.lookup n==some .cell)=true
   .rw[ak hc]at h';simp only[c7,hx]at h';cases h';simp only[aO,d6]at hc;exact⟨k₀,rfl,.inr ⟨hc.1.1,rfl⟩⟩
   rw[ag hc]at h';simp only[c7,hx]at h';cases h';exact⟨_,rfl,.inl rfl⟩
  |false=>
   simp only[c7,hx];by_cases hc:(k₀==NameKind.free&&sc.kind==.function&&sc.names.lookup n==some .cell)=true
   .rw[ak hc]at h';simp only[c7,hx]at h';exact ih h'
   rw[ag hc]at h';simp only[c7,hx]at h';exact ih h'
structure Lk(N:List Str)(sc scope:Scope)(own:List (Str×Nat)):Prop where
 kind:scope.kind=.function
 uniq:∀y∈scope.names,scope.names.lookup y.1=some y.2
 ix:∀p∈own,N[p.2]? =some p.1
 free:∀y∈scope.names,y.2=.free->sc.names.lookup y.1=some .cell\/sc.names.lookup y.1=some .free
 own:∀y∈scope.names,y.2=.local\/y.2=.cell->y.1∈own.map (·.1)\/y.1∉N
noncomputable def wipe(σ:St):List Nat->St
 |[]=>σ
 |v::vs=>(wipe σ vs).set v none
theorem vm(σ:St):∀vs:List Nat,(wipe σ vs).length=σ.length
 |[]=>rfl
 |v::vs=>by unfold wipe;rw[dG,vm σ vs]
theorem Am:∀{vs:List Nat},(wipe σ vs)[i]? =some (some x)->σ[i]? =some (some x)/\i∉vs
 |[],h=>⟨h,by simp⟩
 |v::vs,h=>by
  unfold wipe at h;by_cases hi:v=i
  .subst hi;by_cases hv:v<(wipe σ vs).length
   .rw[bD hv]at h;cases h
   rw[List.getElem?_eq_none (by simpa using hv)]at h;cases h
  rw[bj hi]at h;obtain⟨h1,h2⟩:=Am h;exact⟨h1,by simp only[mem_cons,not_or];exact⟨λe=>hi e.symm,h2⟩⟩
noncomputable abbrev Cx.JC(X:Cx)(s:Shared)(H:Hp)(scope:Scope)(cenv:Env)(fp:List Addr):Cx:={X with Ee:=s,Wq:=H,env:=cenv,outer:=X.stack,ex:=fp,fn:=λx=>scope.names.lookup x==some .cell,pn:=[],xe:=λ_ _=>False}
section
variable{X:Cx}{pins:List (Addr×Obj)}{σ:St}{H:Hp}{s:Shared}
def Hu(I:Inv X pins σ H s)(ok:Lk X.N X.env.scope scope own)(hN:X.N.Nodup)(hfp:∀b∈fp,Cy X pins H b/\b<s.heap.objs.size):
  Inv (X.JC s H scope (compEnvC scope (cellsFrom (s.heap.objs.size+1) scope.names (iP X.env.cells scope.names [])) s.heap.objs.size X.env) fp) [] (wipe σ (own.map (·.2))) H {s with heap:=pushCells (s.heap.push {cls:=.type "dict",data:=.dict #[]}) scope.names}:=by
 have FI:∀y∈scope.names,y.2=.free->∃c,X.env.cells.lookup y.1=some c:=λy hy e=>by
  rcases ok.free y hy e with k|k
  .exact I.ok.has _ (.inl k)
  exact I.ok.has _ (.inr k)
 generalize Jw:compEnvC scope (cellsFrom (s.heap.objs.size+1) scope.names (iP X.env.cells scope.names [])) s.heap.objs.size X.env=cenv;have kp:∀b o,s.heap.get? b=some o->(pushCells (s.heap.push {cls:=.type "dict",data:=.dict #[]}) scope.names).get? b=some o:=λb o e=>eB _ _ _ _ (ax _ e);have hL:cenv.locals=s.heap.objs.size:=by rw[<-Jw];rfl
 have Vq:cenv.cells=cellsFrom (s.heap.objs.size+1) scope.names (iP X.env.cells scope.names []):=by rw[<-Jw];rfl
 have hsc:cenv.scope=ZG scope X.env.scope:=by rw[<-Jw];rfl
 rw[<-b8 s.heap {cls:=.type "dict",data:=.dict #[]}]at Vq
 have cm:∀{y c},(y,c)∈iP X.env.cells scope.names []->X.env.cells.lookup y=some c/\c<s.heap.objs.size:=λ{y c} hm=>by
  rcases qZ hm with hm|⟨h1,rfl⟩
  .cases hm
  obtain⟨c,hc⟩:=FI _ h1 rfl;rw[hc];obtain⟨w,z⟩:=I.cell _ _ hc;exact⟨rfl,z.lt⟩
 have mem:∀{y c},cenv.cells.lookup y=some c->(X.env.cells.lookup y=some c/\c<s.heap.objs.size)\/(s.heap.objs.size+1<=c/\O7 (pushCells (s.heap.push {cls:=.type "dict",data:=.dict #[]}) scope.names) c none):=λ{y c} e=>by
  rw[Vq]at e;rcases sN (aY e)with hm|⟨_,h2,h3⟩
  .exact .inl (cm hm)
  rw[b8]at h2;exact .inr ⟨h2,h3⟩
 have look:∀{y},scope.names.lookup y=some .free->∃c,cenv.cells.lookup y=some c/\X.env.cells.lookup y=some c:=λ{y} hl=>by
  have hy:=aY hl;obtain⟨c',e'⟩:=mem_lookup (wt (vj hy));rw[<-Vq]at e';refine⟨c',e',?_⟩;rw[Vq]at e';rcases sN (aY e')with hm|⟨h1,_⟩
  .exact(cm hm).1
  have:=ok.uniq _ h1;rw[hl]at this;cases this
 have okB:(X.JC s H scope cenv fp).Ok:=by
  refine⟨I.ok.mod,by show cenv.scope.kind=_;rw[hsc];exact ok.kind,by show cenv.globals=_;rw[<-Jw];exact I.ok.glob,by show cenv.builtins=_;rw[<-Jw];exact I.ok.blt,by show s.heap.objs.size<=cenv.locals;rw[hL];exact aH _,
   λy z c e1 e2=>?_,λy hy=>?_,λy c z e=>?_,I.ok.hd,I.ok.frames,.inl rfl,λb hb=>⟨?_,λy c e z=>?_⟩,I.bs,a7 I.ok.JG I.sz,λb o e hb=>?_,λb hb z=>?_,I.stack,I.FQ⟩
  .have e1:=e1;have e2:=e2;rw[Vq]at e1 e2;refine Al (λp hp=>?_) (λy z c a b=>I.ok.inj y z c (cm a).1 (cm b).1) (aY e1) (aY e2);rw[b8];exact cS (cm hp).2
  .have key:∀k,cenv.kindOf y=some k->(k=.cell\/k=.free)->∃c,cenv.cells.lookup y=some c:=λk hk S6=>by
    unfold Env.kindOf at hk;rw[hsc]at hk;obtain⟨k',e,r⟩:=vk hk
    have:k'=.cell\/k'=.free:=by
     rcases r with rfl|⟨rfl,_⟩
     .exact S6
     exact .inr rfl
    rcases this with rfl|rfl
    .obtain⟨c,hm⟩:=Ak (aY e);obtain⟨c',e'⟩:=mem_lookup hm;exact⟨c',by rw[Vq];exact e'⟩
    obtain⟨c,h1,_⟩:=look e;exact⟨c,h1⟩
   rcases hy with hy|hy
   .exact key _ hy (.inl rfl)
   exact key _ hy (.inr rfl)
  .have z:=z;have z:scope.names.lookup y=some .cell:=by simpa using z
   have e:=e;rw[Vq]at e;rcases sN (aY e)with hm|⟨_,h2,_⟩
   .rcases qZ hm with hm|⟨h1,_⟩
    .cases hm
    have q:=ok.uniq _ h1;rw[z]at q;cases q
   rw[b8]at h2;exact dR h2
  .rw[hL];exact a9 (hfp b hb).2
  .have e:=e;rcases mem e with⟨h1,_⟩|⟨h1,_⟩
   .exact(hfp b hb).1.2.2.2.2.1 y c h1 z
   have h2:s.heap.objs.size+1<=b:=by rw[<-z];exact h1
   exact absurd (aS (hfp b hb).2 (dR h2)) (dI _)
  .rcases(hfp b hb).1.2.2.2.1 with z|z
   .exact I.ok.FO b o e z
   exact absurd (aS (aZ e) (a7 I.ok.JG z)) (dI _)
  rcases aA.mp (I.JH b z)with z|z
  .exact(hfp b hb).1.2.1 z
  exact(hfp b hb).1.2.2.1 z
 refine⟨okB,rfl,I.bare,Un.kept kp,⟨λ_=>none,?_,λi y av e1 e2 e3=>?_⟩,λy c e=>?_,?_,λy c e=>?_,λp hp=>?_,I.gZ.kept kp,by rw[vm];exact I.len⟩
 .rw[hL];exact Heap.Ns.keeps (Heap.Ns.new ..) λb o e=>eB _ _ _ _ e
 .obtain⟨e2,hne⟩:=Am e2
  have hfr:scope.names.lookup y=some .free/\(cenv.kindOf y=some .cell\/cenv.kindOf y=some .free):=by
   have key:∀k,cenv.scope.names.lookup y=some k->k=.local\/k=.cell\/k=.free->scope.names.lookup y=some .free/\(cenv.kindOf y=some .cell\/cenv.kindOf y=some .free):=λk hk S6=>by
    have hk0:=hk;rw[hsc]at hk;obtain⟨k',e,r⟩:=vk hk
    have no:¬(k'=.local\/k'=.cell):=λhh=>by
     rcases ok.own _ (aY e) hh with e'|e'
     .obtain⟨p,hp,hpy⟩:=dE.mp e';have e3:=ok.ix p hp;have:p.1=y:=hpy;rw[this]at e3;exact hne (dE.mpr ⟨p,hp,Ct hN e3 e1⟩)
     exact e' (aR e1)
    rcases r with rfl|⟨rfl,rfl⟩
    .rcases S6 with rfl|rfl|rfl
     .exact absurd (.inl rfl) no
     .exact absurd (.inr rfl) no
     exact⟨e,.inr hk0⟩
    exact⟨e,.inl hk0⟩
   have e3:=e3;rcases e3 with e3|e3|e3
   .exact key _ e3 (.inl rfl)
   .exact key _ e3 (.inr (.inl rfl))
   exact key _ e3 (.inr (.inr rfl))
  obtain⟨m,hn,hl⟩:=I.loc;have aai:RG X.env.scope y:=(ok.free _ (aY hfr.1) rfl).elim (λk=>.inr (.inl k)) λk=>.inr (.inr k);obtain⟨w,r,q⟩:=hl i y av e1 e2 aai;refine⟨w,r,.inr ⟨hfr.2,?_⟩⟩;obtain⟨c,h1,h2⟩:=look hfr.1;rcases q with⟨k,_⟩|⟨_,c',e',z⟩
  .have k:X.env.scope.names.lookup y=some .local:=k;rcases ok.free _ (aY hfr.1) rfl with k'|k'<;>rw[show X.env.scope.names.lookup y=_ from k']at k<;>cases k
  rw[h2]at e';cases e';exact⟨c,h1,z.keeps kp⟩
 .have e:=e;rcases mem e with⟨h1,_⟩|⟨_,z⟩
  .obtain⟨w,z⟩:=I.cell y c h1;exact⟨w,z.keeps kp⟩
  exact⟨_,z⟩
 .rw[hL];exact I.gZ.fresh (aH _)
 .have e:=e;rcases mem e with⟨h1,_⟩|⟨h1,_⟩
  .exact I.pD y c h1
  exact I.gZ.fresh (dR h1)
 exact absurd (show p∈([]:List (Addr×Obj))++[]from hp) (by simp)
def UQ(I:Inv X pins σ H s)(hD:H D=some (.lst xs))(hz:xs.length<sizeLine)(r:RelV y v)
  (h:∀s',Inv X pins σ (upd H D (.lst (xs++[y]))) s'->Q .none s'):wpAny (model X.prog X.w) X.A (call (.builtin "list.append") [.ref D,v]) Q E s:=by
 obtain⟨_,its,n,ri,e⟩:=I.gZ D _ hD;have hl:=ri.length;refine append_at e λh' sb ho'=>?_;refine h {s with heap:=h'} (I.write (by rw[hD];trivial) (.inl rfl) (λb u hb q=>(sb.2 b hb).trans q) ⟨_,ho'⟩ ⟨by rw[aq];exact hz,its++[v],n+1,ri.append (.cons r .nil),?_⟩);rw[ho'];simp
def ZH(X:Cx)(ifs:List Expr)(t:TT):Prop:=
 ∀(pins:List (Addr×Obj))(s:Shared)(σ:St)(H:Hp)(Q:Bool->Hp->Prop),Inv X pins σ H s->t σ H Q->
  wpAny (model X.prog X.w) X.A (forIn ifs true λc r=>if r=true then do let ok<-isTrue c X.env (eval c X.env);pure (ForInStep.yield ok)else pure (ForInStep.yield r)) (TP X pins σ Q) X.xe s
def ZI:TT:=λ_ H Q=>Q true H
def F7:ZH X [] ZI:=λ_ _ _ H _ I h=>wpAny_tests_nil ⟨H,I,h⟩
end
def Nu(h:wpAny M A t Q (λ_ _=>False) s)(hQ:∀a s,Q a s->Q' a s):wpAny M A t Q' E s:=bp h hQ λ_ _ z=>False.elim z
theorem F8(I:Nat->Shared->Prop)
  (turn:∀n s,I n s->wpAny (model prog w) A (pyNext it) (λr s₁=>match r with
   |none=>R (.ok .next) s₁
   |some v=>wpAny (model prog w) A (letOwnedTupleGo target it v) (λ_ s₁'=>wpAny (model prog w) A (assign target env v) (λ_ s₂=>
     wpAny (model prog w) A (forIn ifs true λc r=>if r=true then do let ok<-isTrue c env (eval c env);pure (ForInStep.yield ok)else pure (ForInStep.yield r)) (λok s₃=>
      if ok=true then wpAny (model prog w) A (eval elt env) (λx s₄=>
       wpAny (model prog w) A (call (.builtin "list.append") [acc,x]) (λ_ s₅=>∃m,m<n/\I m s₅) (notedBy (model prog w) A env λe s'=>R (.error e) s') s₄) (notedBy (model prog w) A env λe s'=>R (.error e) s') s₃
      else∃m,m<n/\I m s₃) (notedBy (model prog w) A env λe s'=>R (.error e) s') s₂) (notedBy (model prog w) A env λe s'=>R (.error e) s') s₁') (notedBy (model prog w) A env λe s'=>R (.error e) s') s₁) (notedBy (model prog w) A env λe s'=>R (.error e) s') s)
  (n:Nat) (h:I n s):
  codeAny (model prog w) A (.compLoop (.ListComp elt [⟨target,iter,ifs,0⟩] scope pos) 0 it acc env) R s:=by
 refine codeAny_loop rfl I (λn s hI=>?_) n h;refine wpAny_noted ?_;rw[compTurn_list];refine af (bP (af (bp (turn n s hI) (λr s₁ h₁=>?_) λ_ _ h'=>h')));cases r with
 |none=>exact aB h₁
 |some v=>
  refine af (bp h₁ (λ_ s₁' h₁'=>?_) λ_ _ h'=>h');refine af (bp h₁' (λ_ s₂ h₂=>af (bp h₂ (λok s₃ h₃=>?_) λ_ _ h'=>h')) λ_ _ h'=>h');cases ok with
  |false=>exact aB ⟨rfl,h₃⟩
  |true=>
   exact af (af (bp h₃ (λx s₄ h₄=>af (bp h₄ (λ_ s₅ h₅=>aB (aB ⟨rfl,h₅⟩)) λ_ _ h'=>h')) λ_ _ h'=>h'))
section
variable{X:Cx}
def tLc(wi:TI)(g:TG)(tt:TT)(te:TE)(vs:List Nat):TE:=λσ H Q=>wi σ H λJ H1=>∀D,H1 D=none->∃W:Nat->Nat->Hp->Prop,(∃m,W 0 m (upd H1 D (.lst [])))/\∀i m H,W i m H->
 (J.stop i H/\Q (.ref D) H)\/(J.go i H/\∃Nx:Hp->Prop,(∀H',Nx H'->∃m',m'<m/\W (i+1) m' H')/\∀x H',J.Nm i H x H'->g x (wipe σ vs) H' λσ2 H2=>wipe σ2 vs=wipe σ vs/\tt σ2 H2 λb H3=>
  if b=true then te σ2 H3 λy H4=>∃acc,H4 D=some (.lst acc)/\acc.length<sizeLine/\Nx (upd H4 D (.lst (acc++[y])))else Nx H3)
def RU{pins:List (Addr×Obj)}{s:Shared}{σ:St}{H:Hp}{Q:VK}{elt tg iter:Expr}{ifs:List Expr}{scope:Scope}{own:List (Str×Nat)}{pos pos':Pos}{wi:TI}{g:TG}{tt:TT}{te:TE}{use:Option (Value->Sem Unit)}{Qf:Value->Shared->Prop}
  (hc:X.calm=true) (hN:X.N.Nodup) (I:Inv X pins σ H s) (hi:PI X tg iter wi) (ok:Lk X.N X.env.scope scope own)
  (hg:∀(s:Shared)(H:Hp)(C:Addr)(cl:List (Str×Addr))(fp:List Addr),PG (X.JC s H scope (compEnvC scope cl C X.env) fp) tg g) (ht:∀(s:Shared)(H:Hp)(C:Addr)(cl:List (Str×Addr))(fp:List Addr),ZH (X.JC s H scope (compEnvC scope cl C X.env) fp) ifs tt)
  (he:∀(s:Shared)(H:Hp)(C:Addr)(cl:List (Str×Addr))(fp:List Addr),PE (X.JC s H scope (compEnvC scope cl C X.env) fp) elt te) (hs:∀x,foldedSetIterable iter X.env x=pure x)
  (h:tLc wi g tt te (own.map (·.2)) σ H Q)
  (hRR:∀D C s' m H',Inv X pins σ H' s'->Q (.ref D) H'->s'.heap.Ns C m->Cy X pins H' C->compPost (model X.prog X.w) X.A X.xe use Qf (.ref D) C (.ok .next) s'):
  wpAny (model X.prog X.w) X.A (comprehension (.ListComp elt [⟨tg,iter,ifs,0⟩] scope pos) scope X.env pos' (newList []) false (eval iter X.env) use) Qf X.xe s:=by
 have FI:∀y∈scope.names,y.2=.free->∃c,X.env.cells.lookup y.1=some c:=λy hy e=>by
  rcases ok.free y hy e with k|k
  .exact I.ok.has _ (.inl k)
  exact I.ok.has _ (.inr k)
 refine wpAny_comprehension_free rfl hs (JW FI) ok.kind (λy hy e=>by rw[ok.uniq y hy,e])
  (iO (hi pins s σ H _ I h) λxv s1 hx=>iO hx λitv s2 h2=>?_)
 obtain⟨it,fp,tn,J,H2,e,I2,T,YN,f2,q⟩:=h2;subst e;refine bL (Ht ?_) (by show 0<=sizeLine;decide);generalize hD:s2.heap.objs.size=D;have hDn:=I2.gZ.fresh (le_of_eq hD);obtain⟨W,⟨m0,w0⟩,turn⟩:=q D hDn;generalize hs3:({s2 with heap:=s2.heap.push {cls:=.type "list",data:=.seq ([]:List Value).toArray}}:Shared)=s3
 have I3:Inv X pins σ (upd H2 D (.lst [])) s3:=by
  rw[<-hs3];refine I2.laid (λb o e=>ax _ e) (le_of_eq hD) ⟨bu _,[],0,.nil,?_⟩;rw[<-hD];exact aN _ rfl
 have h3:s3.heap=s2.heap.push {cls:=.type "list",data:=.seq ([]:List Value).toArray}:=by rw[<-hs3]
 have sz:∀b∈fp,b<s2.heap.objs.size:=λb hb=>by
  obtain⟨o,e,_⟩:=T.obj _ _ YN b hb;exact aZ e
 have f3:∀b∈fp,Cy X pins (upd H2 D (.lst [])) b/\b<s3.heap.objs.size:=λb hb=>by
  have zZ:=sz b hb;refine⟨⟨?_,(f2 b hb).2⟩,by rw[h3,b8];exact cS zZ⟩;rw[eY (by rw[<-hD];exact a9 zZ)];exact(f2 b hb).1
 have YO:tn 0 s3.heap:=T.keep _ _ _ YN λb _ o e=>by rw[h3];exact ax _ e
 have I4:=Hu I3 ok hN f3;have pg:=hg s3 (upd H2 D (.lst [])) s3.heap.objs.size (cellsFrom (s3.heap.objs.size+1) scope.names (iP X.env.cells scope.names [])) fp;have pt:=ht s3 (upd H2 D (.lst [])) s3.heap.objs.size (cellsFrom (s3.heap.objs.size+1) scope.names (iP X.env.cells scope.names [])) fp;have pe:=he s3 (upd H2 D (.lst [])) s3.heap.objs.size (cellsFrom (s3.heap.objs.size+1) scope.names (iP X.env.cells scope.names [])) fp;show codeAny _ _ (.compStart (.ListComp elt [⟨tg,iter,ifs,0⟩] scope pos) 0 (.ref it) (.ref D) (compEnvC scope (cellsFrom (s3.heap.objs.size+1) scope.names (iP X.env.cells scope.names [])) s3.heap.objs.size X.env)) (compPost (model X.prog X.w) X.A X.xe use Qf (.ref D) s3.heap.objs.size) {s3 with heap:=pushCells (s3.heap.push {cls:=.type "dict",data:=.dict #[]}) scope.names};have YQ:∀b∈fp,(upd H2 D (.lst [])) b=none:=λb hb=>(f3 b hb).1.1;generalize hce:compEnvC scope (cellsFrom (s3.heap.objs.size+1) scope.names (iP X.env.cells scope.names [])) s3.heap.objs.size X.env=ce at I4 pg pt pe⊢;have cL:ce.locals=s3.heap.objs.size:=by subst hce;rfl
 generalize hH3:upd H2 D (.lst [])=H3 at I3 I4 pg pt pe w0 YQ f3;generalize hs4:({s3 with heap:=pushCells (s3.heap.push {cls:=.type "dict",data:=.dict #[]}) scope.names}:Shared)=s4 at I4⊢;have YR:tn 0 s4.heap:=T.keep _ _ _ YO λb _ o e=>by rw[<-hs4];exact eB _ _ _ _ (ax _ e)
 have stat:∀{σ':St}{H':Hp}{s':Shared},Inv (X.JC s3 H3 scope ce fp) [] σ' H' s'->(∀b∈fp,H' b=none)->∀b∈fp,Cy (X.JC s3 H3 scope ce fp) [] H' b:=λ{σ' H' s'} I' hn b hb=>
  ⟨hn b hb,(I'.ok.Tf b hb).1,I'.ok.FP b hb,.inl hb,λx c e=>(I'.ok.Tf b hb).2 x c e,λp hp=>absurd (show p∈([]:List (Addr×Obj))++[]from hp) (by simp)⟩
 have loop:codeAny (model X.prog X.w) X.A (.compLoop (.ListComp elt [⟨tg,iter,ifs,0⟩] scope pos) 0 (.ref it) (.ref D) ce) (compPost (model X.prog X.w) X.A X.xe use Qf (.ref D) s3.heap.objs.size) s4:=by
  refine F8 (λn s'=>∃i H',Inv (X.JC s3 H3 scope ce fp) [] (wipe σ (own.map (·.2))) H' s'/\tn i s'.heap/\(∀b∈fp,H' b=none)/\W i n H') ?_ m0 ⟨0,H3,I4,YR,YQ,w0⟩;rintro n s5 ⟨i,H5,I5,V9,n5,w5⟩;rcases turn i n H5 w5 with⟨stop,qq⟩|⟨go,Nx,hNx,step⟩
  .have td:=T.done (X.JC s3 H3 scope ce fp) rfl rfl rfl hc i [] s5 _ H5 (λ_ _=>False) I5 (stat I5 n5) V9 stop;refine Nu td λr s6⟨hr,I6⟩=>?_;subst hr;have I7:Inv X pins σ H5 s6:=I3.OF (ch:=fp) I6.os I6.base I6.gZ I6.bare λb hb=>⟨(f3 b hb).1.2.2.2.1,(f3 b hb).1.2.1,(f3 b hb).1.2.2.2.2.1,(f3 b hb).1.2.2.2.2.2⟩
   have nC:H5 s3.heap.objs.size=none:=by
    have z:H5 ce.locals=none:=I6.free;rw[cL]at z;exact z
   obtain⟨m,hn,_⟩:=I6.loc;have hn:s6.heap.Ns ce.locals m:=hn;rw[cL]at hn;exact hRR D s3.heap.objs.size s6 m H5 I7 qq hn (I3.JJ (aH _) nC)
  have ti:=T.item (X.JC s3 H3 scope ce fp) rfl rfl rfl hc i [] s5 _ H5 (λ_ _=>False) I5 (stat I5 n5) V9 go;refine Nu ti λr s6⟨u,hr,h6⟩=>?_;subst hr;refine Nu h6 λ_ s7⟨x,H7,I7,r7,y7,st7,n7⟩=>?_;have I7':=I7.pinned (stat I7 n7) (T.obj _ _ st7);refine Nu (pg _ s7 _ H7 x u _ I7' r7 (step x H7 y7)) λ_ s8⟨σ8,H8,I8,hw8,q8⟩=>?_;refine Nu (pt _ s8 σ8 H8 _ I8 q8) λb s9⟨H9,I9,q9⟩=>?_
  have fin:∀{s':Shared}{H':Hp},Inv (X.JC s3 H3 scope ce fp) ([]++Cz fp s7.heap) σ8 H' s'->Nx H'->∃m,m<n/\∃i H',Inv (X.JC s3 H3 scope ce fp) [] (wipe σ (own.map (·.2))) H' s'/\tn i s'.heap/\(∀b∈fp,H' b=none)/\W i m H':=λ{s' H'} I' nx=>by
   obtain⟨m',hm,w'⟩:=hNx H' nx
   have pin':∀b∈fp,∀o,s7.heap.get? b=some o->s'.heap.get? b=some o/\H' b=none:=λb hb o e=>
    let z:=I'.pin (b,o) (bR _ (bR _ (xS hb e)))
    ⟨z.1,z.2.1⟩
   have hl:(wipe σ (own.map (·.2))).length=σ8.length:=by rw[<-hw8,vm]
   refine⟨m',hm,i+1,H',(I'.yx (pins:=[])).weak hl λj v e=>?_,T.keep _ _ _ st7 λb hb o e=>(pin' b hb o e).1,λb hb=>?_,w'⟩
   .rw[<-hw8]at e;exact(Am e).1
   obtain⟨o,e,_⟩:=T.obj _ _ st7 b hb;exact(pin' b hb o e).2
  cases b with
  |false=>
   simp only[bF,bS]at q9⊢;exact fin I9 q9
  |true=>
   simp only[dj]at q9⊢;refine Nu (pe _ s9 σ8 H9 _ I9 q9) λz s10⟨yv,H10,I10,r10,acc,aak,aal,nx⟩=>?_;exact UQ (X:=X.JC s3 H3 scope ce fp) I10 aak aal r10 λs11 I11=>fin I11 nx
 exact codeAny_compStart_list loop (T.self X.A 0 _ _ _ YR loop)
def O8(hc:X.calm=true)(hN:X.N.Nodup)(hi:PI X tg iter wi)(ok:Lk X.N X.env.scope scope own)
  (hg:∀(s:Shared)(H:Hp)(C:Addr)(cl:List (Str×Addr))(fp:List Addr),PG (X.JC s H scope (compEnvC scope cl C X.env) fp) tg g) (ht:∀(s:Shared)(H:Hp)(C:Addr)(cl:List (Str×Addr))(fp:List Addr),ZH (X.JC s H scope (compEnvC scope cl C X.env) fp) ifs tt)
  (he:∀(s:Shared)(H:Hp)(C:Addr)(cl:List (Str×Addr))(fp:List Addr),PE (X.JC s H scope (compEnvC scope cl C X.env) fp) elt te) (hs:∀x,foldedSetIterable iter X.env x=pure x:=by intro _;rfl):
  PE X (.ListComp elt [⟨tg,iter,ifs,0⟩] scope pos) (tLc wi g tt te (own.map (·.2))):=by
 intro pins s σ H Q I h;rw[eval_ListComp];refine RU hc hN I hi ok hg ht he hs h λD C s' m H' I' q hn f=>⟨m,hn,λVr sb=>?_⟩;obtain⟨f0,f1,f2,f3,f4,f5⟩:=f;exact⟨.ref D,H',I'.turned (λb o hb e=>(sb.2 b hb).trans e) f0 f1 f3 f4 f5,rfl,q⟩
end
def O9{n:Nat}{D:Addr}{lo:Int}{g:TG}{tt:TT}{te:TE}{Qd:Hp->Prop}(Pv:Nat->Hp->Prop)(h0:Pv 0 (upd H1 D (.lst [])))
  (hs:∀i H,i<n->Pv i H->g (.int (lo+i)) (wipe σ vs) H λσ2 H2=>wipe σ2 vs=wipe σ vs/\tt σ2 H2 λb H3=>
   if b=true then te σ2 H3 λy H4=>∃acc,H4 D=some (.lst acc)/\acc.length<sizeLine/\Pv (i+1) (upd H4 D (.lst (acc++[y])))else Pv (i+1) H3) (hd:∀H,Pv n H->Qd H):
  ∃W:Nat->Nat->Hp->Prop,(∃m,W 0 m (upd H1 D (.lst [])))/\∀i m H,W i m H->
   ((Rq lo n).stop i H/\Qd H)\/((Rq lo n).go i H/\∃Nx:Hp->Prop,(∀H',Nx H'->∃m',m'<m/\W (i+1) m' H')/\∀x H',(Rq lo n).Nm i H x H'->g x (wipe σ vs) H' λσ2 H2=>wipe σ2 vs=wipe σ vs/\tt σ2 H2 λb H3=>
    if b=true then te σ2 H3 λy H4=>∃acc,H4 D=some (.lst acc)/\acc.length<sizeLine/\Nx (upd H4 D (.lst (acc++[y])))else Nx H3):=by
 refine⟨λi m H=>m=n - i/\i<=n/\Pv i H,⟨n,by simp,bu _,h0⟩,?_⟩;rintro i m H ⟨rfl,hi,p⟩;by_cases zZ:i<n
 .refine .inr ⟨zZ,Pv (i+1),λH' p'=>⟨n - (i+1),by omega,rfl,zZ,p'⟩,λx H' y=>?_⟩;obtain⟨e,y⟩:=y;subst e y;exact hs i _ zZ p
 have e:i=n:=by omega
 subst e;exact .inl ⟨aH _,hd H p⟩
def RV{K:Frag}{g:TG}{tt:TT}{te:TE}{Qd:Hp->Prop}(Pv:Nat->Hp->Prop)(h0:Pv 0 (upd H1 D (.lst [])))(hl:∀i H,i<=xs.length->Pv i H->gC K H a xs)
  (hs:∀i x H,xs[i]? =some x->Pv i H->g x (wipe σ vs) H λσ2 H2=>wipe σ2 vs=wipe σ vs/\tt σ2 H2 λb H3=>
   if b=true then te σ2 H3 λy H4=>∃acc,H4 D=some (.lst acc)/\acc.length<sizeLine/\Pv (i+1) (upd H4 D (.lst (acc++[y])))else Pv (i+1) H3) (hd:∀H,Pv xs.length H->Qd H):
  ∃W:Nat->Nat->Hp->Prop,(∃m,W 0 m (upd H1 D (.lst [])))/\∀i m H,W i m H->
   ((Ti K a).stop i H/\Qd H)\/((Ti K a).go i H/\∃Nx:Hp->Prop,(∀H',Nx H'->∃m',m'<m/\W (i+1) m' H')/\∀x H',(Ti K a).Nm i H x H'->g x (wipe σ vs) H' λσ2 H2=>wipe σ2 vs=wipe σ vs/\tt σ2 H2 λb H3=>
    if b=true then te σ2 H3 λy H4=>∃acc,H4 D=some (.lst acc)/\acc.length<sizeLine/\Nx (upd H4 D (.lst (acc++[y])))else Nx H3):=by
 refine⟨λi m H=>m=xs.length - i/\i<=xs.length/\Pv i H,⟨xs.length,by simp,bu _,h0⟩,?_⟩;rintro i m H ⟨rfl,hi,p⟩;have q:=hl i H hi p;by_cases zZ:i<xs.length
 .refine .inr ⟨⟨xs,xs[i],q,by simp[zZ]⟩,Pv (i+1),λH' p'=>⟨xs.length - (i+1),by omega,rfl,zZ,p'⟩,λx H' y=>?_⟩;obtain⟨e,y⟩:=y;subst e;exact hs i x _ (y xs q) p
 have e:i=xs.length:=by omega
 subst e;exact .inl ⟨⟨xs,q,aH _⟩,hd H p⟩
noncomputable def WX(N:List Str)(sc scope:Scope)(own:List (Str×Nat)):Bool:=
 (match scope.kind with|.function=>true|_=>false)&&(scope.names.all λy=>decide (scope.names.lookup y.1=some y.2))&&(own.all λp=>decide (N[p.2]? =some p.1))&&
  (scope.names.all λy=>match y.2 with
   |.free=>(match sc.names.lookup y.1 with|some .cell=>true|some .free=>true|_=>false)
   |.local=>decide (y.1∈own.map (·.1))||decide (y.1∉N)
   |.cell=>decide (y.1∈own.map (·.1))||decide (y.1∉N)
   |_=>true)
def CQ(h:WX N sc scope own=true):Lk N sc scope own:=by
 unfold WX at h;simp only[aO,b6,bq]at h;obtain⟨⟨⟨h1,h2⟩,h3⟩,h4⟩:=h;refine⟨?_,h2,h3,λy hy e=>?_,λy hy e=>?_⟩
 .split at h1
  .assumption
  cases h1
 .have q:=h4 y hy;simp only[e]at q;split at q<;>first|exact .inl (by assumption)|exact .inr (by assumption)|cases q
 have q:=h4 y hy;rcases e with e|e<;>(simp only[e,eQ,bq]at q;exact q)
end L2
namespace L2
open PySem PySem.Spec PyProof.Rows
end L2
namespace L2
open PySem PySem.Spec PyProof.Rows
section
variable{κ:Type}[DecidableEq κ]
noncomputable def u9(kvs:List (κ×V))(k:κ):Option V:=(kvs.find? λkv=>decide (kv.1=k)).map (·.2)
noncomputable def putK(kvs:List (κ×V))(k:κ)(v:V):List (κ×V):=
 if(kvs.any λkv=>decide (kv.1=k))=true then kvs.map (λkv=>if kv.1=k then(kv.1,v)else kv)else kvs++[(k,v)]
def yF{p:κ×V}(e:p.1=k):u9 (p::r) k=some p.2:=by simp[u9,c9,e]
def yG{p:κ×V}{r:List (κ×V)}{k:κ}(e:¬p.1=k):u9 (p::r) k=u9 r k:=by simp[u9,c9,e]
theorem yH(k:κ):∀kvs:List (κ×V),(kvs.any λkv=>decide (kv.1=k))=(u9 kvs k).isSome
 |[]=>rfl
 |p::r=>by
  rw[any_cons];by_cases e:p.1=k
  .simp only[yF e,cH e,Bool.true_or,Option.isSome_some]
  rw[yG e,aV e,Bool.false_or];exact yH k r
def AS(kvs:List (κ×V))(k:κ)(v:V):(putK kvs k v).length<=kvs.length+1:=by
 unfold putK;split
 .rw[aw];omega
 rw[aq,aF,da];omega
def Hv{kvs:List (κ×V)}{k:κ}(v:V)(h:u9 kvs k=none):putK kvs k v=kvs++[(k,v)]:=by
 unfold putK;rw[yH,h];exact ag (by decide)
theorem sE.sP(r:sE o u):o.isSome=u.isSome:=by
 cases o with
 |none=>cases u with
  |none=>rfl
  |some _=>exact(show False from r).elim
 |some _=>cases u with
  |none=>exact(show False from r).elim
  |some _=>rfl
theorem KV.val(r:KV kvs vs)(k:κ):sE (u9 kvs k) (valueAt vs k):=by
 induction r with
 |nil=>exact True.intro
 | @cons p q ps qs h t ih=>
  obtain⟨h1,h2⟩:=h;by_cases e:p.1=k
  .have e':q.1=k:=h1.symm.trans e;have b:valueAt (q::qs) k=some q.2:=by simp[valueAt,c9,e']
   rw[yF e,b];exact h2
  have e':¬q.1=k:=λz=>e (h1.trans z);have b:valueAt (q::qs) k=valueAt qs k:=by simp[valueAt,c9,e']
  rw[yG e,b];exact ih
theorem KV.any(r:KV kvs vs)(k:κ):(kvs.any λkv=>decide (kv.1=k))=vs.any λkv=>decide (kv.1=k):=by
 induction r with
 |nil=>rfl
 |cons h t ih=>rw[any_cons,any_cons,ih,h.1]
theorem KV.US(r:KV kvs vs)(k:κ)(ry:RelV y u):
  KV (kvs.map λkv=>if kv.1=k then(kv.1,y)else kv) (vs.map λkv=>if kv.1=k then(kv.1,u)else kv):=by
 induction r with
 |nil=>exact .nil
 | @cons p q ps qs h t ih=>
  rw[bJ,bJ];refine .cons ?_ ih;obtain⟨h1,h2⟩:=h;by_cases e:p.1=k
  .rw[ak e,ak (h1.symm.trans e)];exact⟨h1,ry⟩
  rw[ag e,ag λz=>e (h1.trans z)];exact⟨h1,h2⟩
def KV.put(r:KV kvs vs)(k:κ)(ry:RelV y u):KV (putK kvs k y) (stored vs k u):=by
 unfold putK stored;rw[r.any k];by_cases e:(vs.any λkv=>decide (kv.1=k))=true
 .rw[ak e,ak e];exact r.US k ry
 rw[ag e,ag e];exact Paired.snoc r ⟨rfl,ry⟩
theorem KV.length(r:KV kvs vs):kvs.length=vs.length:=ee r
end
theorem Hw(r:RelV (kV k) u):(jM P w).is k u=true:=by
 cases k with
 |inl i=>obtain⟨t,e⟩:=(show∃t,u=Value.int i t from r);subst e;exact AQ P w i t
 |inr x=>obtain⟨t,e⟩:=(show∃t,u=Value.str x t from r);subst e;exact Hf P w x t
theorem EU:∀{ks:List Key}{us:List Value},Vals (ks.map kV) us->ItemsAre (jM P w) ks us
 |[],_,r=>by rw[map_nil]at r;cases r;exact .nil
 |k::ks,_,r=>by
  rw[bJ]at r;cases r with
  |cons h t=>exact .cons (Hw h) (EU t)
abbrev KT(H:Hp):List (List Key×V)->List (List Key×Addr×Value)->Prop:=Paired λp q=>p.1=q.1/\H q.2.1=some (.tup (p.1.map kV))/\RelV p.2 q.2.2
theorem KT.val(r:KT H kvs xs)(k:List Key):sE (u9 kvs k) ((atKey xs k).map (·.2)):=by
 induction r with
 |nil=>exact True.intro
 | @cons p q ps qs h t ih=>
  obtain⟨h1,_,h2⟩:=h;by_cases e:p.1=k
  .have e':q.1=k:=h1.symm.trans e;have b:atKey (q::qs) k=some q.2:=by simp[atKey,c9,e']
   rw[yF e,b];exact h2
  have e':¬q.1=k:=λz=>e (h1.trans z);have b:atKey (q::qs) k=atKey qs k:=by simp[atKey,c9,e']
  rw[yG e,b];exact ih
theorem KT.US(r:KT H kvs xs)(k:List Key)(ry:RelV y u):
  KT H (kvs.map λkv=>if kv.1=k then(kv.1,y)else kv) (xs.map (putAt k u)):=by
 induction r with
 |nil=>exact .nil
 | @cons p q ps qs h t ih=>
  rw[bJ,bJ];refine .cons ?_ ih;obtain⟨h1,h2,h3⟩:=h;unfold putAt;by_cases e:p.1=k
  .rw[ak e,ak (h1.symm.trans e)];exact⟨h1,h2,ry⟩
  rw[ag e,ag λz=>e (h1.trans z)];exact⟨h1,h2,h3⟩
def KT.put(r:KT H kvs xs)(k:List Key)(hb:H b=some (.tup (k.map kV)))(ry:RelV y u):
  KT H (putK kvs k y) (storedH xs k b u):=by
 have e:(kvs.any λkv=>decide (kv.1=k))=(atKey xs k).isSome:=by
  rw[yH,(r.val k).sP,isSome_map]
 unfold putK storedH;rw[e];by_cases q:(atKey xs k).isSome=true
 .rw[ak q,ak q];exact r.US k ry
 rw[ag q,ag q];exact Paired.snoc r ⟨rfl,hb,ry⟩
def KT.keeps(r:KT H kvs xs)(ht:∀b ys,H b=some (.tup ys)->H' b=some (.tup ys)):KT H' kvs xs:=
 Paired.UA r λ_ _ z=>⟨z.1,ht _ _ z.2.1,z.2.2⟩
section
variable{P:Program}{w:World}{H:Hp}{h:Heap}{a:Addr}
def Ts(ok:tU P w H h)(e:Rd H a u):i7 P w H h a u:=e.ok ok
def Hx(ok:tU P w H h)(e:Rd H a (.dK kvs)):kvs.length<=sizeLine/\(a==sysModules)=false/\∃vs,KV kvs vs/\h.DictOf (jM P w) a vs:=
 show i7 P w H h a (.dK kvs)from Ts ok e
def WY(ok:tU P w H h)(e:H a=some (.dK kvs)):kvs.length<=sizeLine/\(a==sysModules)=false/\∃vs,KV kvs vs/\h.DictOf (jM P w) a vs:=Hx ok (.inl e)
def CS(ok:tU P w H h)(e:H a=some (.tup (ks.map kV))):(tupleKind (jM P w)).is h ks a:=by
 obtain⟨_,its,r,o,h1,h2,n,h3⟩:=(show i7 P w H h a (.tup (ks.map kV))from ok a _ e);exact⟨o,its.toArray,n,h1,h2,h3,by simpa using EU r⟩
def Hy(ok:tU P w H h)(e:Rd H a (.dT kvs)):kvs.length<=sizeLine/\(a==sysModules)=false/\
  ∃xs,KT H kvs xs/\h.DictOfH (tupleKind (jM P w)) a xs:=by
 obtain⟨z,y,xs,r,o,es,ep,h1,h2,h3,h4,h5⟩:=(show i7 P w H h a (.dT kvs)from Ts ok e);refine⟨z,y,xs,r,o,es,ep,h1,h2,h3,h4,λx hx=>?_,h5⟩
 have all:∀{l:List (List Key×V)}{m:List (List Key×Addr×Value)},KT H l m->∀x∈m,(tupleKind (jM P w)).is h x.1 x.2.1:=by
  intro l m q;induction q with
  |nil=>intro x hx;exact nomatch hx
  | @cons p q ps qs hq t ih=>
   intro x hx;rcases aA.mp hx with e|hx
   .subst e;exact CS ok (by rw[<-hq.1];exact hq.2.1)
   exact ih x hx
 exact all r x hx
def Tt(ok:tU P w H h)(e:H a=some (.dT kvs)):kvs.length<=sizeLine/\(a==sysModules)=false/\
  ∃xs,KT H kvs xs/\h.DictOfH (tupleKind (jM P w)) a xs:=Hy ok (.inl e)
end
def vn(H:Hp)(a:Addr)(y:V)(r:Option V):Prop:=
 (∃kvs k,Rd H a (.dK kvs)/\y=kV k/\r=u9 kvs k)\/∃kvs k b,Rd H a (.dT kvs)/\y=.ref b/\H b=some (.tup (k.map kV))/\r=u9 kvs k
def CU(H:Hp)(a:Addr)(y v:V)(H':Hp):Prop:=
 (∃kvs k,H a=some (.dK kvs)/\y=kV k/\kvs.length<sizeLine/\H'=upd H a (.dK (putK kvs k v)))\/
 ∃kvs k b,H a=some (.dT kvs)/\y=.ref b/\H b=some (.tup (k.map kV))/\kvs.length<sizeLine/\H'=upd H a (.dT (putK kvs k v))
def vn.t{k:List Key}(e:H a=some (.dT kvs))(eb:H b=some (.tup (k.map kV))):vn H a (.ref b) (u9 kvs k):=.inr ⟨kvs,k,b,.inl e,rfl,eb,rfl⟩
def CU.t{k:List Key}(e:H a=some (.dT kvs))(eb:H b=some (.tup (k.map kV)))(hl:kvs.length<sizeLine):
  CU H a (.ref b) v (upd H a (.dT (putK kvs k v))):=.inr ⟨kvs,k,b,e,rfl,eb,hl,rfl⟩
section
variable{X:Cx}{pins:List (Addr×Obj)}{σ:St}{H:Hp}{s:Shared}{a:Addr}{y v:V}{u r:Value}{o:Option V}{A:Around}{E:Value->Shared->Prop}
def Inv.big(I:Inv X pins σ H s):sysModules<s.heap.objs.size:=by
 have h:=(I.mod.glob.keeps I.bk).lt;exact eS (by decide) h
def Nv(hu:A.units+1<cLine)(I:Inv X pins σ H s)(g:vn H a y (some v))(ry:RelV y u)(h:∀w' s',Inv X pins σ H s'->RelV v w'->Q w' s'):
  wpAny (model X.prog X.w) A (getItem (.ref a) u) Q E s:=by
 rcases g with⟨kvs,k,e,ey,l⟩|⟨_,k,b,e,ey,eb,l⟩
 .subst ey;obtain⟨z,hd,vs,rel,dd⟩:=Hx I.gZ e;obtain⟨w',hw,Q8⟩:=sE.some_of (by rw[l];exact rel.val k);exact wpAny_getItem_of (Hw ry) dd.mapOf hw (h w' _ (I.tok _) Q8)
 subst ey;cases(show u=Value.ref b from ry);obtain⟨z,hd,xs,rel,dd⟩:=Hy I.gZ e;obtain⟨w',hw,Q8⟩:=sE.some_of (by rw[l];exact rel.val k);obtain⟨p,hp,hp2⟩:=Option.map_eq_some_iff.mp hw;refine wpAny_getItem_heap (dH hu) (CS I.gZ eb) dd hp ?_;rw[hp2];exact h w' _ (I.tok _) Q8
def ZJ(hu:A.units+1<cLine)(I:Inv X pins σ H s)(g:vn H a y o)(ry:RelV y u)(h:∀s',Inv X pins σ H s'->Q (.bool o.isSome) s'):
  wpAny (model X.prog X.w) A (compareOp .In u (.ref a)) Q E s:=by
 rcases g with⟨kvs,k,e,ey,l⟩|⟨_,k,b,e,ey,eb,l⟩
 .subst ey;obtain⟨z,hd,vs,rel,dd⟩:=Hx I.gZ e;refine wpAny_in_of (Hw ry) hd dd.mapOf ?_;rw[<-(rel.val k).sP,<-l];exact h _ (I.tok _)
 subst ey;cases(show u=Value.ref b from ry);obtain⟨z,hd,xs,rel,dd⟩:=Hy I.gZ e;refine wpAny_in_heap (dH hu) (CS I.gZ eb) hd dd ?_;have q:=(rel.val k).sP;rw[isSome_map]at q;rw[<-q,<-l];exact h _ (I.tok _)
def RX(hu:A.units+1<cLine)(I:Inv X pins σ H s)(g:vn H a y o)(ry:RelV y u)(h:∀s',Inv X pins σ H s'->Q (.bool (!o.isSome)) s'):
  wpAny (model X.prog X.w) A (compareOp .NotIn u (.ref a)) Q E s:=by
 rcases g with⟨kvs,k,e,ey,l⟩|⟨_,k,b,e,ey,eb,l⟩
 .subst ey;obtain⟨z,hd,vs,rel,dd⟩:=Hx I.gZ e;refine wpAny_notIn_of (Hw ry) hd dd.mapOf ?_;rw[<-(rel.val k).sP,<-l];exact h _ (I.tok _)
 subst ey;cases(show u=Value.ref b from ry);obtain⟨z,hd,xs,rel,dd⟩:=Hy I.gZ e;refine wpAny_notIn_heap (dH hu) (CS I.gZ eb) hd dd ?_;have q:=(rel.val k).sP;rw[isSome_map]at q;rw[<-q,<-l];exact h _ (I.tok _)
def Ll(I:Inv X pins σ H s)(mu:Tc (H a))(hs:Heap.SameBut a s.heap h')(he:∃q,h'.get? a=some q)(new:i7 X.prog X.w (upd H a ob) h' a ob):
  Inv X pins σ (upd H a ob) {s with heap:=h',toks:=t'}:=
 I.write mu (.inl rfl) (λb q hb z=>(hs.2 b hb).trans z) he new
def UT(z:kvs.length<=sizeLine)(hd:(a==sysModules)=false)(rel:KV kvs vs)(dd:h'.DictOf (jM P w) a vs):
  i7 P w H' h' a (.dK kvs):=⟨z,hd,vs,rel,dd⟩
def Nw(hu:A.units+1<cLine)(I:Inv X pins σ H s)(g:CU H a y v H')(ry:RelV y u)(rv:RelV v r)(h:∀s',Inv X pins σ H' s'->Q () s'):
  wpAny (model X.prog X.w) A (setItem (.ref a) u r) Q E s:=by
 rcases g with⟨kvs,k,e,ey,l,eH⟩|⟨kvs,k,b,e,ey,eb,l,eH⟩
 .subst ey eH;obtain⟨z,hd,vs,rel,dd⟩:=WY I.gZ e;have hz:vs.length<=sizeLine:=by rw[<-rel.length];exact z
  have hl:(putK kvs k v).length<=sizeLine:=by have:=AS kvs k v;omega
  refine wpAny_setItem_pairs (Hw ry) dd λh' dd' hs=>h _ ?_;have he:∃q,h'.get? a=some q:=let⟨q,_,_,hq,_⟩:=dd';⟨q,hq⟩;exact Ll I (by rw[e];exact True.intro) hs he (UT hl hd (rel.put k rv) dd')
 subst ey eH;cases(show u=Value.ref b from ry);obtain⟨z,hd,xs,rel,dd⟩:=Tt I.gZ e;have hz:xs.length<=sizeLine:=by rw[<-ee rel];exact z
 have hl:(putK kvs k v).length<=sizeLine:=by have:=AS kvs k v;omega
 refine wpAny_setItem_heap (dH hu) (CS I.gZ eb) dd λh' dd' hs=>h _ ?_;obtain⟨q,es,ep,hq,h2,h3,h4,_,h5⟩:=dd';refine Ll I (by rw[e];exact True.intro) hs ⟨q,hq⟩ ⟨hl,hd,_,(rel.put k eb rv).keeps λc ys ec=>?_,q,es,ep,hq,h2,h3,h4,h5⟩;rw[eY (gK ec e λz=>nomatch z)];exact ec
end
def UU(i:Expr):Prop:=∀ov iv,subscripted i false ov iv=operate [ov,iv] (getItem ov iv)
def Lm{T id:String}
  (hl:typeLookup (.type T) "__getitem__"=pure (some (.builtin id))) (hs:UU slice)
  (h:wpAny (model prog w) A (eval value env) (λo s₁=>wpAny (model prog w) A (eval slice env) (λi s₂=>s₂.TypeIs o T/\wpAny (model prog w) A (getItem o i) Q E s₂) E s₁) E s):
  wpAny (model prog w) A (eval (.Subscript value slice pos) env) Q E s:=by
 refine Subscript_ (bp h (λo s₁ h₁=>bp h₁ (λi s₂ h₂=>?_) λ_ _ x=>x) λ_ _ x=>x);obtain⟨hT,h₂⟩:=h₂;refine af ?_;rw[getitemInPython_of_ne hT.not_modules];refine af (wpAny_specialOf hT hl ?_)
 have fin:wpAny (model prog w) A (subscripted slice false o i) (λr s₃=>wpAny (model prog w) A (letTemporaryGo value o r>>=λ_=>pure r) Q E s₃) E s₂:=by
  rw[hs o i];exact wpAny_operating (bp h₂ (λr s₃ h₃=>af (wpAny_letTemporaryGo (aB h₃))) λ_ _ x=>x)
 first
  |exact aB (af fin)
  |exact af (aB (af fin))
  |exact af fin
def Hz(I:Inv X pins σ H s)(g:vn H a y o):s.TypeIs (.ref a) "dict":=by
 rcases g with⟨kvs,k,e,_⟩|⟨_,_,_,e,_⟩
 .obtain⟨_,_,vs,_,dd⟩:=Hx I.gZ e;exact dd.typeIs
 obtain⟨_,_,xs,_,dd⟩:=Hy I.gZ e;exact dd.typeIs
inductive Pa(Q:VK)(x:V)(y:V)(H2:Hp):Prop
 |mk:∀a v,(x=.ref a)->(vn H2 a y (some v))->(Q v H2)->Pa Q x y H2
def WZ(td ty:TE):TE:=λσ H Q=>td σ H λx H1=>ty σ H1 λy H2=>Pa Q x y H2
inductive Tu(Q:VK)(y:V)(x:V)(H2:Hp):Prop
 |mk:∀a o,(x=.ref a)->(vn H2 a y o)->(Q (.bl o.isSome) H2)->Tu Q y x H2
def W0(ty td:TE):TE:=λσ H Q=>ty σ H λy H1=>td σ H1 λx H2=>Tu Q y x H2
inductive HA(Q:VK)(y:V)(x:V)(H2:Hp):Prop
 |mk:∀a o,(x=.ref a)->(vn H2 a y o)->(Q (.bl (!o.isSome)) H2)->HA Q y x H2
def RY(ty td:TE):TE:=λσ H Q=>ty σ H λy H1=>td σ H1 λx H2=>HA Q y x H2
inductive Pb(D:Ends)(σ:St)(v:V)(x:V)(y:V)(H3:Hp):Prop
 |mk:∀a H4,(x=.ref a)->(CU H3 a y v H4)->(D.nx σ H4)->Pb D σ v x y H3
def AU(td ty tv:TE):TS:=λD σ H=>tv σ H λv H1=>td σ H1 λx H2=>ty σ H2 λy H3=>Pb D σ v x y H3
section
variable{X:Cx}{o i e value:Expr}{pos pos' Jt:Pos}{td ty tv:TE}
def F9(hu:X.A.units+1<cLine)(ho:PE X o td)(hi:PE X i ty)(hs:UU i):PE X (.Subscript o i pos) (WZ td ty):=by
 intro pins s σ H Q I h;refine Lm PySem.F.slot_dict_getitem.lookup hs (iO (ho pins s σ H _ I h) λu s1⟨x,H1,I1,rx,q1⟩=>iO (hi pins s1 σ H1 _ I1 q1) λiv s2⟨y,H2,I2,ry,a,v,ex,g,q2⟩=>?_);subst ex;obtain rfl:u=Value.ref a:=rx;exact⟨Hz I2 g,Nv hu I2 g ry λw' s3 I3 Q8=>⟨v,H2,I3,Q8,q2⟩⟩
def Ga(hu:X.A.units+1<cLine)(hi:PE X i ty)(ho:PE X o td):PC X .In i o (W0 ty td):=by
 intro pins s σ H Q I h;refine iO (hi pins s σ H _ I h) λiv s1⟨y,H1,I1,ry,q1⟩=>iO (ho pins s1 σ H1 _ I1 q1) λu s2⟨x,H2,I2,rx,a,ov,ex,g,q2⟩=>?_;subst ex;obtain rfl:u=Value.ref a:=rx;exact ZJ hu I2 g ry λs3 I3=>⟨.bl ov.isSome,H2,I3,rfl,q2⟩
def Ny(hu:X.A.units+1<cLine)(hi:PE X i ty)(ho:PE X o td):PC X .NotIn i o (RY ty td):=by
 intro pins s σ H Q I h;refine iO (hi pins s σ H _ I h) λiv s1⟨y,H1,I1,ry,q1⟩=>iO (ho pins s1 σ H1 _ I1 q1) λu s2⟨x,H2,I2,rx,a,ov,ex,g,q2⟩=>?_;subst ex;obtain rfl:u=Value.ref a:=rx;exact RX hu I2 g ry λs3 I3=>⟨.bl (!ov.isSome),H2,I3,rfl,q2⟩
def tY(hu:X.A.units+1<cLine)(ho:PE X o td)(hi:PE X i ty)(hv:PE X value tv)(hs:swapsWith value (some (.Subscript o i pos')) pos.line X.env=pure false):
  PS X (.Assign [.Subscript o i pos'] value pos) (AU td ty tv):=by
 intro pins s σ H D I h;refine wpAny_Assign_Subscript (iO (hv pins s σ H _ I h) λr s1⟨v,H1,I1,rv,q1⟩=>iO (ho pins s1 σ H1 _ I1 q1) λu s2⟨x,H2,I2,rx,q2⟩=>iO (hi pins s2 σ H2 _ I2 q2) λiv s3⟨y,H3,I3,ry,a,H4,ex,g,q3⟩=>?_) hs;subst ex;obtain rfl:u=Value.ref a:=rx;exact Nw hu I3 g ry rv λs4 I4=>⟨σ,H4,I4,q3⟩
end
def Pc(h:Heap)(hb:sysModules<h.objs.size):i7 P w H (h.push {cls:=.type "dict",data:=.dict #[]}) h.objs.size (.dT []):=
 ⟨bu _,cg.mpr (aW (a9 hb)),[],.nil,_,#[],0,aN _ rfl,⟨rfl,rfl,rfl⟩,rfl,rfl,eK⟩
def UX:TE:=λ_ H Q=>∀p,H p=none->Q (.ref p) (upd H p (.dT []))
section
variable{X:Cx}{pos:Pos}
def sQ:PE X (.Dict [] [] pos) UX:=λpins s σ H Q I h=>
 wpAny_Dict_empty ⟨.ref s.heap.objs.size,_,I.laid (λ_ _ q=>ax _ q) (aH _) (Pc s.heap I.big),rfl,h _ (I.gZ.fresh (aH _))⟩
end
end L2
namespace L2
open PySem PySem.Spec PyProof.Rows
end L2
namespace L2
open PySem PySem.Spec PyProof.Rows
def CV:bootBuiltins "reversed"=some (.type "reversed"):=by decide+kernel
section
variable{X:Cx}{pins:List (Addr×Obj)}{σ:St}{H:Hp}{s:Shared}{h':Heap}
def Inv.EV{t':Nat}{ch:List Addr}{T:Addr}{ob:HO}(I:Inv X pins σ H s)(k:∀b o,b∉ch->s.heap.get? b=some o->h'.get? b=some o)(hf:∀b∈ch,Cy X pins H b)(hT:s.heap.objs.size<=T)
  (new:i7 X.prog X.w (upd H T ob) h' T ob):Inv X pins σ (upd H T ob) {s with heap:=h',toks:=t'}:=by
 have hn:=I.gZ.fresh hT
 have XD:∀b u,H b=some u->b∉ch:=λb u e z=>by
  have q:=(hf b z).1;rw[q]at e;cases e
 refine I.step (λb hb=>⟨(hf b hb).2.2.2.1,(hf b hb).2.1,(hf b hb).2.2.2.2.1,(hf b hb).2.2.2.2.2⟩) (λb o _ _ hc e _=>k b o hc e) (λb o _ _ hc e _=>⟨o.slots,k b o hc e⟩)
  (λb o _ e n=>?_) (λb o hc e=>⟨o,k b o hc e⟩) (λb xs e=>?_) (λb o u e=>?_) (λb ps e=>⟨#[],?_⟩) (λm hm=>?_) (λb u e=>?_) I.bare
 .rw[eY (a9 (aS (aZ e) hT))];exact n
 .rw[eY (ft e hn)];exact e
 .rw[eY (ft e hn)];exact e
 .rw[eY (ft e hn),e];simp
 .obtain⟨o,es,ep,ho,r⟩:=hm;exact⟨o,es,ep,k _ o (λz=>(hf _ z).2.1 rfl) ho,r⟩
 by_cases hb:b=T
 .subst hb;rw[eV]at e;cases e;exact new
 rw[eY hb]at e;refine(I.gZ b u e).Eg (λc v hc q=>k c v ?_ q) (λc q=>by rw[eY (ft q hn)];exact q) λc xs q=>by rw[eY (ft q hn)];exact q
 rcases hc with z|z
 .rw[z];exact XD b u e
 exact XD c _ z
end
section
variable{X:Cx}
def Gb(I:Inv X pins σ H s)(o:Obj)
  (T:Turn X.prog X.w X.K tg J [s.heap.objs.size] s.heap.objs.size tn) (st:tn 0 (s.heap.push o)) (q:R J H):YE X pins σ tg R (.ref s.heap.objs.size) {s with heap:=s.heap.push o,toks:=tk}:=by
 refine⟨s.heap.objs.size,[s.heap.objs.size],tn,J,H,rfl,I.kept λb ob e=>ax _ e,T,st,λb hb=>?_,q⟩;have e:b=s.heap.objs.size:=by simpa using hb
 subst e;exact I.JJ (aH _) (I.gZ.fresh (aH _))
end
noncomputable def W2(lo c:Int)(n:Nat):It:=⟨λi _=>i<n,λi H x H'=>H'=H/\x=.int (lo+(i:Nat)*c),λi _=>n<=i⟩
def HB{P:Program}{w:World}{K:Frag}{tg:Expr}(it:Addr)(lo c:Int)(n:Nat):Turn P w K tg (W2 lo c n) [it] it (λi h=>IsRangeIter h it (lo+(i:Nat)*c) ((n:Int) - (i:Nat)) c)where
 mem:=by simp
 obj:=λi h st b hb=>by
  have e:b=it:=by simpa using hb
  subst e;exact⟨_,st,λv z=>nomatch z⟩
 keep:=λi h h' st k=>k it (by simp) _ st
 item:=by
  intro X hP hw hK hc i pins s σ H E I hf st hg;subst hP hw hK;obtain⟨f0,f1,f2,f3,f4,f5⟩:=hf it (by simp);have W:=Walks.range (prog:=X.prog) (w:=X.w) (I.ok.hd hc) it lo c n;refine W.item i s _ _ hg st λv h' tk hv Hb kk=>?_;obtain⟨t,rfl⟩:=hv;have I1:Inv X pins σ H {s with heap:=h',toks:=tk}:=I.turned (λb o hb e=>kk b o (by simpa using hb) e) f0 f1 f3 f4 f5;exact⟨_,rfl,EK (s:={s with heap:=h',toks:=tk}) (n:="range_iterator") Hb rfl rfl (by decide) ⟨.int (lo+(i:Nat)*c),H,I1,⟨t,rfl⟩,⟨rfl,rfl⟩,Hb,λb hb=>(hf b hb).1⟩⟩
 done:=by
  intro X hP hw hK hc i pins s σ H E I hf st hg;subst hP hw hK;obtain⟨f0,f1,f2,f3,f4,f5⟩:=hf it (by simp);exact wpAny_pyNext_range_end (I.ok.hd hc) st (by have:n<=i:=hg;omega) λh' eb=>⟨rfl,I.turned (t':=s.toks) (λb o hb e=>eb b o hb e) f0 f1 f3 f4 f5⟩
 self:=λA i s Q E st h=>wpAny_pyIter_rangeiter st h
def RgC(i j c:Int)(n:Nat):Prop:=c≠0/\c.natAbs<1073741824/\Builtin.Range.small i j c=true/\Builtin.Range.rangeSize i j c=n
inductive Pd(R:It->Hp->Prop)(vs:List V)(H1:Hp):Prop
 |mk:∀(i j c:Int)(n:Nat),(vs=[.int i,.int j,.int c])->(RgC i j c n)->(R (W2 i c n) H1)->Pd R vs H1
def W3(ta:TA):TI:=λσ H R=>ta σ H λvs H1=>Pd R vs H1
section
variable{X:Cx}{tg:Expr}
theorem Nz{a b c:Expr}{ta:TA}{p pos:Pos}(hg:Gl X "range")(hm:X.mg "range"=none)(ha:PA X [a,b,c] ta)
  (hs:starEach [a,b,c] X.env=(false,eval a X.env)::starEach [b,c] X.env:=by rfl) (hpl:(backTo pos (starEach [b,c] X.env)).any (·.1)=false:=by rfl):
  PI X tg (.Call (.Name "range" p) [a,b,c] [] pos) (W3 ta):=by
 intro pins s σ H R I h;refine Call_ (tV I hg hm boot_range (bg (iO (ha pos pins s σ H _ I h) λus s1⟨vs,H1,I1,r1,q1⟩=>?_) hs hpl));obtain⟨i,j,k,n,e,⟨c0,c1,c2,c3⟩,q⟩:=q1;subst e;cases r1 with
 |cons r rr=>
  cases rr with
  |cons r' rr=>
   cases rr with
   |cons r'' rr=>
    cases rr;obtain⟨t,rfl⟩:=r;obtain⟨t',rfl⟩:=r';obtain⟨t'',rfl⟩:=r'';refine call_range_3 c0 ?_ (.inl (PyProof.noPylong_small c1));refine wpAny_pyIter_range (IsRange.new ..) c2 ?_;have I2:Inv X pins σ H1 {s1 with heap:=s1.heap.push {cls:=.type "range",data:=.fields #[.int i t,.int j t',.int k t'']}}:=I1.kept (t':=s1.toks) λb o e=>ax _ e;refine Gb I2 _ (HB _ i k n) ?_ q;have e1:i+((0:Nat):Int)*k=i:=by simp
    have e2:(n:Int) - ((0:Nat):Int)=Builtin.Range.rangeSize i j k:=by rw[c3];simp
    rw[e1,e2];exact aN _ rfl
end
def JX{n:Nat}{lo c:Int}{g:TG}{tb:TS}{D:Ends}(Pv:Nat->St->Hp->Prop)(h0:Pv 0 σ H)
  (hs:∀i σ H,i<n->Pv i σ H->g (.int (lo+(i:Nat)*c)) σ H λσ2 H2=>tb {D with nx:=Pv (i+1),ct:=Pv (i+1),bk:=D.nx} σ2 H2) (hd:∀σ H,Pv n σ H->D.nx σ H):
  ∃W:Nat->Nat->St->Hp->Prop,(∃m,W 0 m σ H)/\∀i m σ H,W i m σ H->
   ((W2 lo c n).stop i H/\D.nx σ H)\/((W2 lo c n).go i H/\∃N:St->Hp->Prop,(∀σ' H',N σ' H'->∃m',m'<m/\W (i+1) m' σ' H')/\∀x H',(W2 lo c n).Nm i H x H'->g x σ H' λσ2 H2=>tb {D with nx:=N,ct:=N,bk:=D.nx} σ2 H2):=by
 refine⟨λi m σ H=>m=n - i/\i<=n/\Pv i σ H,⟨n,by simp,bu _,h0⟩,?_⟩;rintro i m σ H ⟨rfl,hi,p⟩;by_cases zZ:i<n
 .refine .inr ⟨zZ,Pv (i+1),λσ' H' p'=>⟨n - (i+1),by omega,rfl,zZ,p'⟩,λx H' y=>?_⟩;obtain⟨e,y⟩:=y;subst e y;exact hs i σ _ zZ p
 have e:i=n:=by omega
 subst e;exact .inl ⟨aH _,hd σ H p⟩
noncomputable def Itv(K:Frag)(a:Addr)(n:Nat):It:=
 ⟨λi H=>i<n/\∃(xs:List V)(x:V),gC K H a xs/\xs[n - 1 - i]? =some x,λi H x H'=>H'=H/\∀xs,gC K H a xs->xs[n - 1 - i]? =some x,λi _=>n<=i⟩
def Pe{P:Program}{w:World}{K:Frag}{tg:Expr}(a it:Addr)(n:Nat):Turn P w K tg (Itv K a n) [it] it (λi h=>i<=n/\h.IsRevIter it a ((n:Int) - 1 - (i:Nat)))where
 mem:=by simp
 obj:=λi h st b hb=>by
  have e:b=it:=by simpa using hb
  subst e;obtain⟨_,o,e,c,d⟩:=st;exact⟨o,e,λv z=>by rw[d]at z;cases z⟩
 keep:=λi h h' st k=>⟨st.1,st.2.at λo e=>k it (by simp) o e⟩
 item:=by
  intro X hP hw hK hc i pins s σ H E I hf st hg;subst hP hw hK;obtain⟨hin,xs,x,hq,hx⟩:=hg;obtain⟨_,rv,p,_⟩:=I.list hq;obtain⟨u,hu,ru⟩:=rv.get hx;obtain⟨f0,f1,f2,f3,f4,f5⟩:=hf it (by simp);obtain⟨_,hit⟩:=st;have e1:(n:Int) - 1 - ((i:Nat):Int)=((n - 1 - i:Nat):Int):=by omega
  rw[e1]at hit;refine wpAny_pyNext_rev_item hit p.isList (x:=u) (by simpa using hu) λh' Hb sb=>?_;have e2:((n - 1 - i:Nat):Int) - 1=(n:Int) - 1 - ((i+1:Nat):Int):=by omega
  rw[e2]at Hb;have I1:Inv X pins σ H {s with heap:=h'}:=I.turned (λb o hb e=>(sb.2 b hb).trans e) f0 f1 f3 f4 f5;obtain⟨o,e,c,d⟩:=id Hb;exact⟨u,rfl,EK e c d (by decide) ⟨x,H,I1,ru,⟨rfl,λys hy=>by rw[I.Cv hy hq];exact hx⟩,⟨hin,Hb⟩,λb hb=>(hf b hb).1⟩⟩
 done:=by
  intro X hP hw hK hc i pins s σ H E I hf st hg;subst hP hw hK;obtain⟨f0,f1,f2,f3,f4,f5⟩:=hf it (by simp);obtain⟨_,hit⟩:=st;have hge:n<=i:=hg;have e1:(n:Int) - 1 - ((i:Nat):Int)= -1:=by omega
  rw[e1]at hit;exact wpAny_pyNext_rev_end (I.ok.hd hc) hit λh' eb=>⟨rfl,I.turned (λb o hb e=>eb b o hb e) f0 f1 f3 f4 f5⟩
 self:=λA i s Q E st h=>wpAny_pyIter_revIter st.2 h
inductive Tv(K:Frag)(R:It->Hp->Prop)(vs:List V)(H1:Hp):Prop
 |mk:∀(a:Addr)(xs:List V),(vs=[.ref a])->(gC K H1 a xs)->(R (Itv K a xs.length) H1)->Tv K R vs H1
def ZK(K:Frag)(ta:TA):TI:=λσ H R=>ta σ H λvs H1=>Tv K R vs H1
section
variable{X:Cx}{tg:Expr}
theorem HC(hg:Gl X "reversed")(hm:X.mg "reversed"=none)(ha:PA X [e] ta)(hs:starEach [e] X.env=[(false,eval e X.env)]:=by rfl):PI X tg (.Call (.Name "reversed" p) [e] [] pos) (ZK X.K ta):=by
 intro pins s σ H R I h;refine Call_ (tV I hg hm CV (bg (iO (ha pos pins s σ H _ I h) λus s1⟨vs,H1,I1,r1,q1⟩=>?_) hs rfl));obtain⟨a,xs,e,hq,q⟩:=q1;subst e;cases r1 with
 |cons r rr=>
  cases rr;cases r;obtain⟨its,rv,p',hz⟩:=I1.list hq;have hl:=rv.length;have e1:((its.toArray.size:Nat):Int) - 1=(xs.length:Int) - 1 - ((0:Nat):Int):=by simp only[aP];omega
  refine call_reversed_list p'.isList (wpAny_pyIter_revIter ⟨_,aN _ rfl,rfl,rfl⟩ ?_);refine Gb (tk:=s1.toks) I1 _ (Pe a _ xs.length) ⟨bu _,?_⟩ q;rw[<-e1];exact⟨_,aN _ rfl,rfl,rfl⟩
end
noncomputable def Its(x:Str):It:=⟨λi _=>i<x.cps.size,λi H v H'=>H'=H/\∃c,x.cps[i]? =some c/\v=.str ⟨#[c]⟩,λi _=>x.cps.size<=i⟩
def HD{P:Program}{w:World}{K:Frag}{tg:Expr}(it:Addr)(x:Str)(t:Tok)(ty:String)(hty:ty="str_ascii_iterator"\/ty="str_iterator"):
  Turn P w K tg (Its x) [it] it (λi h=>h.IsStrIter it ty x t i)where
 mem:=by simp
 obj:=λi h st b hb=>by
  have e:b=it:=by simpa using hb
  subst e;obtain⟨o,e,c,d⟩:=st;exact⟨o,e,λv z=>by rw[d]at z;cases z⟩
 keep:=λi h h' st k=>let⟨o,ho,r⟩:=st;⟨o,k it (by simp) o ho,r⟩
 item:=by
  intro X hP hw hK hc i pins s σ H E I hf st hg;subst hP hw hK;obtain⟨f0,f1,f2,f3,f4,f5⟩:=hf it (by simp)
  have W:Walks X.prog X.w X.A it [it] [it] x.cps.size (SignAt x) (λi h=>h.IsStrIter it ty x t i):=by
   rcases hty with e|e
   .rw[e];exact Walks.strAscii (I.ok.hd hc) it x t
   rw[e];exact Walks.strWide (I.ok.hd hc) it x t
  have Wa:["enumerate","zip","dict_itemiterator","dict_reverseitemiterator","odict_iterator","itertools.zip_longest","itertools.pairwise"].contains ty=false:=by
   rcases hty with e|e
   .rw[e];decide
   rw[e];decide
  refine W.item i s _ _ hg st λv h' tk hv Hb kk=>?_;obtain⟨c,u,hcx,rfl⟩:=hv;have I1:Inv X pins σ H {s with heap:=h',toks:=tk}:=I.turned (λb o hb e=>kk b o (by simpa using hb) e) f0 f1 f3 f4 f5;obtain⟨oi,e,cc,dd⟩:=id Hb;exact⟨_,rfl,EK e cc dd Wa ⟨.str ⟨#[c]⟩,H,I1,⟨u,rfl⟩,⟨rfl,c,hcx,rfl⟩,Hb,λb hb=>(hf b hb).1⟩⟩
 done:=by
  intro X hP hw hK hc i pins s σ H E I hf st hg;subst hP hw hK;obtain⟨f0,f1,f2,f3,f4,f5⟩:=hf it (by simp);have hx:=dS hg;rcases hty with e|e
  .rw[e]at st;exact wpAny_pyNext_ascii_end (I.ok.hd hc) st hx λh' eb=>⟨rfl,I.turned (λb o hb e=>eb b o hb e) f0 f1 f3 f4 f5⟩
  rw[e]at st;exact wpAny_pyNext_wide_end (I.ok.hd hc) st hx λh' eb=>⟨rfl,I.turned (λb o hb e=>eb b o hb e) f0 f1 f3 f4 f5⟩
 self:=λA i s Q E st h=>by
  rcases hty with e|e
  .rw[e]at st;exact wpAny_pyIter_striter_ascii st h
  rw[e]at st;exact wpAny_pyIter_striter_wide st h
inductive Tw(R:It->Hp->Prop)(v:V)(H1:Hp):Prop
 |mk:∀x,(v=.str x)->(R (Its x) H1)->Tw R v H1
def ZL(te:TE):TI:=λσ H R=>te σ H λv H1=>Tw R v H1
def UY(he:PE X e te):PI X tg e (ZL te):=by
 intro pins s σ H R I h;refine iO (he pins s σ H _ I h) λv s1⟨y,H1,I1,r1,x,ex,q⟩=>?_;subst ex;obtain⟨t,rfl⟩:=r1;cases ha:x.cps.all (·<128)
 .exact wpAny_pyIter_wide ha (Gb (tk:=s1.toks) I1 _ (HD _ x t "str_iterator" (.inr rfl)) ⟨_,aN _ rfl,rfl,rfl⟩ q)
 exact wpAny_pyIter_ascii ha (Gb (tk:=s1.toks) I1 _ (HD _ x t "str_ascii_iterator" (.inl rfl)) ⟨_,aN _ rfl,rfl,rfl⟩ q)
noncomputable def Ite(K:Frag)(a:Addr):It:=
 ⟨λi H=>∃(xs:List V)(x:V),gC K H a xs/\xs[i]? =some x,λi H v H'=>∃T x,v=.ref T/\H T=none/\H'=upd H T (.tup [.int (i:Nat),x])/\∀xs,gC K H a xs->xs[i]? =some x,λi H=>∃xs:List V,gC K H a xs/\xs.length<=i⟩
def NA{kk:Nat}{K:Frag}(a e it:Addr):
  Turn P w K (.Tuple elts kk Jt) (Ite K a) [e,it] e (λi h=>(∃old,IsEnum h e it ((i:Nat):Int) old)/\h.IsListIter it a i/\e≠it)where
 mem:=by simp
 obj:=λi h st b hb=>by
  obtain⟨⟨old,he⟩,⟨o,ho,hc,hd⟩,_⟩:=st;have e':b=e\/b=it:=by simpa using hb
  rcases e' with z|z
  .rw[z];exact⟨_,he,λv q=>nomatch q⟩
  rw[z];exact⟨o,ho,λv q=>by rw[hd]at q;cases q⟩
 keep:=λi h h' st k=>let⟨⟨old,he⟩,hi,hne⟩:=st;⟨⟨old,k e (by simp) _ he⟩,hi.at λo q=>k it (by simp) o q,hne⟩
 item:=by
  intro X hP hw hK hc i pins s σ H E I hf st hg;subst hP hw hK;obtain⟨⟨_,he⟩,hit,hne⟩:=st;obtain⟨xs,x,hq,hx⟩:=hg;obtain⟨_,rv,p,_⟩:=I.list hq;obtain⟨u,hu,ru⟩:=rv.get hx;have XJ:=aZ he;have Wb:it<s.heap.objs.size:=by obtain⟨_,q,_⟩:=hit;exact aZ q
  refine wpAny_pyNext_enum_item he hit p.isList (by simpa using hu) hne λh' ho KU hT hsz hk=>?_;refine⟨_,rfl,wpAny_letOwnedTupleGo_enum ho λVr XM sb=>?_⟩;have hT2:=(sb.2 _ (ej XJ)).trans hT
  have new:i7 X.prog X.w (upd H s.heap.objs.size (.tup [.int (i:Nat),x])) Vr s.heap.objs.size (.tup [.int (i:Nat),x]):=
   ⟨by show 2<=sizeLine;decide,[.int i s.toks,u],.cons ⟨_,rfl⟩ (.cons ru .nil),⟨_,hT2,rfl,_,rfl⟩⟩
  have I1:Inv X pins σ (upd H s.heap.objs.size (.tup [.int (i:Nat),x])) {s with heap:=Vr,toks:=s.toks+1}:=
   I.EV (λb ob hb q=>(sb.2 b λz=>hb (by simp[z])).trans (hk b ob (λz=>hb (by simp[z])) (λz=>hb (by simp[z])) q)) hf (aH _) new
  refine⟨.ref s.heap.objs.size,_,I1,rfl,⟨_,x,rfl,I.gZ.fresh (aH _),rfl,λys hy=>by rw[I.Cv hy hq];exact hx⟩,⟨⟨u,?_⟩,KU.at λo q=>(sb.2 it (aW hne)).trans q,hne⟩,λb hb=>?_⟩
  .have e1:((i+1:Nat):Int)=(i:Int)+1:=by omega
   rw[e1];exact XM
  have hb':b<s.heap.objs.size:=by
   have e':b=e\/b=it:=by simpa using hb
   rcases e' with z|z
   .rw[z];exact XJ
   rw[z];exact Wb
  rw[eY (a9 hb')];exact(hf b hb).1
 done:=by
  intro X hP hw hK hc i pins s σ H E I hf st hg;subst hP hw hK;obtain⟨⟨_,he⟩,hit,hne⟩:=st;obtain⟨_,hq,_⟩:=hg;obtain⟨_,rv,p,_⟩:=I.list hq;obtain⟨f0,f1,f2,f3,f4,f5⟩:=hf it (by simp);have hl:=rv.length;exact wpAny_pyNext_enum_end (I.ok.hd hc) he hit p.isList (by simp;omega) λh' eb=>⟨rfl,I.turned (λb o hb q=>eb b o hb q) f0 f1 f3 f4 f5⟩
 self:=λA i s Q E st h=>let⟨⟨_,he⟩,_⟩:=st;dU he h
inductive Pf(K:Frag)(R:It->Hp->Prop)(vs:List V)(H1:Hp):Prop
 |mk:∀a xs,(vs=[.ref a])->(gC K H1 a xs)->(R (Ite K a) H1)->Pf K R vs H1
def W4(K:Frag)(ta:TA):TI:=λσ H R=>ta σ H λvs H1=>Pf K R vs H1
theorem Ln(hg:Gl X "enumerate")(hm:X.mg "enumerate"=none)(ha:PA X [e] ta)(hs:starEach [e] X.env=[(false,eval e X.env)]:=by rfl):
  PI X (.Tuple elts kk Jt) (.Call (.Name "enumerate" p) [e] [] pos) (W4 X.K ta):=by
 intro pins s σ H R I h;refine Call_ (tV I hg hm boot_enumerate (bg (iO (ha pos pins s σ H _ I h) λus s1⟨vs,H1,I1,r1,q1⟩=>?_) hs rfl));obtain⟨a,xs,ex,hq,q⟩:=q1;subst ex;cases r1 with
 |cons r rr=>
  cases rr;cases r;obtain⟨its,rv,p',hz⟩:=I1.list hq;refine call_enumerate_list p'.isList λh' he hit hsz hk=>dU he ?_;have I2:Inv X pins σ H1 {s1 with heap:=h'}:=I1.kept hk;refine⟨s1.heap.objs.size+1,[s1.heap.objs.size+1,s1.heap.objs.size],_,_,H1,rfl,I2,NA a (s1.heap.objs.size+1) s1.heap.objs.size,⟨⟨.none,he⟩,hit,Nat.succ_ne_self _⟩,λb hb=>?_,q⟩;have e':b=s1.heap.objs.size+1\/b=s1.heap.objs.size:=by simpa using hb
  have hle:s1.heap.objs.size<=b:=by
   rcases e' with z|z
   .rw[z];exact Nat.le_add_right _ _
   rw[z];exact aH _
  exact I1.JJ hle (I1.gZ.fresh hle)
end L2
section
namespace Bits
open PySem PyProof.Rows
end Bits
end
section
namespace TL
open PySem PySem.Builtin PySem.Builtin.Str PySem.StrLaws
end TL
end
namespace L2
open PySem PySem.Spec PyProof.Rows
end L2
namespace L2
open PySem PySem.Spec PyProof.Rows
end L2
namespace Att
open PySem PySem.W PySem.Calls PyProof.Rows
end Att
namespace L2
open PySem PySem.Spec PyProof.Rows
end L2
namespace L2
open PySem PySem.Spec PyProof.Rows
end L2
namespace L2
open PySem PySem.Spec PyProof.Rows
noncomputable def inClass(s:Stmt)(j:Nat):Stmt:=match s with
 |.ClassDef _ _ _ body _ _ _ _ _ _ _=>body.getD j (.Pass ⟨0,0,0,0⟩)
 |_=>.Pass ⟨0,0,0,0⟩
noncomputable def yI(s:Stmt):Arguments:=match s with
 |.FunctionDef _ a _ _ _ _ _ _ _ _=>a
 |_=>{posonlyargs:=[],args:=[],vararg:=none,kwonlyargs:=[],kw_defaults:=[],kwarg:=none,defaults:=[]}
noncomputable def pT(s:Stmt):List Stmt:=match s with
 |.FunctionDef _ _ b _ _ _ _ _ _ _=>b
 |_=>[]
noncomputable def eZ(s:Stmt):Scope:=match s with
 |.FunctionDef _ _ _ _ _ _ sc _ _ _=>sc
 |_=>{kind:=.function,names:=[],isGenerator:=false,isCoroutine:=false}
structure W5(K:Frag)(x qual:Str)(st:Stmt)(f:Addr)(fd:FuncData):Prop where
 ex:∃(oc:Value)(od:Option Addr)(kV doc pm:Value)(an:Option Addr)(cdv ct:Value)(osl:Array (Option Value)),
  fd=fnOf x qual (yI st) (pT st) (eZ st) .none kV doc pm an cdv ct/\K.lookup f=some ⟨oc,od,.func fd,osl⟩/\codeIn K cdv qual=true
 kp:keepIn K (.ref f)=true
section
variable{P:Program}{w:World}{K:Frag}{mg:Str->Option Value}{base:Heap}
def UZ{st:Stmt}{kV doc pm cdv ct:Value}(l:K.lookup f=some ⟨oc,od,.func (fnOf x qual (yI st) (pT st) (eZ st) .none kV doc pm an cdv ct),osl⟩)
  (c:codeIn K cdv qual=true) (k:keepIn K (.ref f)=true):W5 K x qual st f (fnOf x qual (yI st) (pT st) (eZ st) .none kV doc pm an cdv ct):=⟨⟨oc,od,kV,doc,pm,an,cdv,ct,osl,rfl,l,c⟩,k⟩
end
def rf(hr:jJ k A):A.units+1<cLine:=bQ (Nat.add_le_add_left (by decide:1<=64) _) hr.units
section
variable{X:Cx}
def pv(i:Nat)(hN:X.N[i]? =some x:=by rfl)(hv:RG X.env.scope x:=by first|exact Or.inl rfl|exact Or.inr (Or.inl rfl)|exact Or.inr (Or.inr rfl))(hd:(x==("__debug__":Str))=false:=by decide)
  (hcd:(x==("__classdict__":Str))=false:=by decide):PE X (.Name x pos) (jk i):=Ad hN hv hd hcd
end
def oh{A B:Prop}(h:B):if false=true then A else B:=by
 rw[ag aD];exact h
def m9{A B:Prop}(h:A):if true=true then A else B:=by
 rw[ak rfl];exact h
def W6{c A B:Prop}[Decidable c](h1:c->A)(h2:¬c->B):if c then A else B:=by
 by_cases h:c
 .rw[ak h];exact h1 h
 rw[ag h];exact h2 h
def oj(H H':Hp):Prop:=∀b o,H b=some o->H' b=some o
def at_of{xs:List V}{z:Int}{j:Nat}{v:V}(e:z=(j:Int))(h:xs[j]? =some v):Oy xs z=some v:=by
 rw[e];exact RS h
end L2
namespace L2
open PySem PySem.Spec PyProof.Rows
open PySem.W (WData Codec OpenSpec Well WellAll ReadsW ReadsAllW)
mutual
inductive Dw(K:Frag)(H:Hp):V->WData->Prop
 |hJ:Dw K H .hJ .none
 |bl (b:Bool):Dw K H (.bl b) (.bool b)
 |int (i:Int):Dw K H (.int i) (.int i)
 |str (x:Str):Dw K H (.str x) (.str x)
 |JA (b:Array UInt8):Dw K H (.JA b) (.bytes b.toList)
 |lst {a:Addr} {xs:List V} {ds:List WData}:gC K H a xs->vo K H xs ds->Dw K H (.ref a) (.list ds)
 |tup {a:Addr} {xs:List V} {ds:List WData}:m5 K H a xs->vo K H xs ds->Dw K H (.ref a) (.tuple ds)
inductive vo(K:Frag)(H:Hp):List V->List WData->Prop
 |nil:vo K H [] []
 |cons {v:V} {vs:List V} {d:WData} {ds:List WData}:Dw K H v d->vo K H vs ds->vo K H (v::vs) (d::ds)
end
theorem Lo{K:Frag}:∀ns:List Int,vo K H (ns.map V.int) (ns.map WData.int)
 |[]=>.nil
 |n::r=>.cons (.int n) (Lo r)
theorem Lp{K:Frag}:∀(ns:List Int)(xs:List V),vo K H xs (ns.map WData.int)->xs=ns.map V.int
 |[],xs,h=>by
  cases h;rfl
 |n::r,xs,h=>by
  cases h with
  |cons h1 h2=>
   cases h1;rw[Lp r _ h2]<;>rfl
section
variable{P:Program}{w:World}{K:Frag}{H:Hp}{h:Heap}{R:WRecords}{cl:Str->Option Addr}
def U1(gZ:tU P w H h)(KX:K.In h)(q:gC K H a xs):∃(its:List Value)(o:Obj)(n:Nat),Vals xs its/\h.get? a=some o/\o.cls=.type "list"/\o.data=.seq its.toArray n:=by
 rcases q with q|⟨o,its,n,e,hc,_,hd,_,hv⟩
 .obtain⟨_,its,n,hv,e⟩:=(show i7 P w H h a (.lst xs)from q.ok gZ);exact⟨its,_,n,hv,e,rfl,rfl⟩
 exact⟨its.toList,o,n,hv,KX _ _ e,hc,by simp[hd]⟩
def U2(gZ:tU P w H h)(KX:K.In h)(q:m5 K H a xs):∃(its:List Value)(o:Obj)(n:Nat),Vals xs its/\h.get? a=some o/\o.cls=.type "tuple"/\o.data=.seq its.toArray n:=by
 rcases q with q|⟨o,its,n,e,hc,hd,_,hv⟩
 .obtain⟨_,its,hv,o,e,hc,n,hd⟩:=(show i7 P w H h a (.tup xs)from q.ok gZ);exact⟨its,o,n,hv,e,hc,hd⟩
 exact⟨its.toList,o,n,hv,KX _ _ e,hc,by simp[hd]⟩
mutual
theorem Dw.reads(gZ:tU P w H h)(KX:K.In h):∀(d:WData)(v:V)(u:Value),Dw K H v d->RelV v u->∃as,ReadsW R cl h u d as
 |.none,_,_,x,r=>by
  cases x;cases r;exact⟨_,ReadsW.none⟩
 |.bool b,_,_,x,r=>by
  cases x;cases r;exact⟨_,ReadsW.bool b⟩
 |.int i,_,_,x,r=>by
  cases x;obtain⟨t,rfl⟩:=r;exact⟨_,ReadsW.int i t⟩
 |.str s,_,_,x,r=>by
  cases x;obtain⟨t,rfl⟩:=r;exact⟨_,ReadsW.str s t⟩
 |.bytes b,_,_,x,r=>by
  cases x;obtain⟨t,rfl⟩:=r;exact⟨_,ReadsW.bytes _ t⟩
 |.list ds,_,_,x,r=>by
  cases x with
  |lst hs ha=>
   cases r;obtain⟨its,o,n,rv,ho,hc,hd⟩:=U1 gZ KX hs;obtain⟨as,hr⟩:=Dw.readsAll gZ KX ds _ its ha rv;exact⟨_,ReadsW.list ho hc hd hr⟩
 |.tuple ds,_,_,x,r=>by
  cases x with
  |tup hs ha=>
   cases r;obtain⟨its,o,n,rv,ho,hc,hd⟩:=U2 gZ KX hs;obtain⟨as,hr⟩:=Dw.readsAll gZ KX ds _ its ha rv;exact⟨_,ReadsW.tuple ho hc hd hr⟩
 |.float _,_,_,x,_=>by cases x
 |.dict _,_,_,x,_=>by cases x
 |.bytearray _,_,_,x,_=>by cases x
 |.set _,_,_,x,_=>by cases x
 |.frozenset _,_,_,x,_=>by cases x
 |.obj _ _,_,_,x,_=>by cases x
theorem Dw.readsAll(gZ:tU P w H h)(KX:K.In h):∀(ds:List WData)(vs:List V)(us:List Value),vo K H vs ds->Vals vs us->∃as,ReadsAllW R cl h us ds as
 |[],_,_,x,r=>by
  cases x;cases r;exact⟨_,ReadsAllW.nil⟩
 |d::ds,_,_,x,r=>by
  cases x with
  |cons h1 h2=>
   cases r with
   |cons r1 r2=>
    obtain⟨as,q1⟩:=Dw.reads gZ KX d _ _ h1 r1;obtain⟨bs,q2⟩:=Dw.readsAll gZ KX ds _ _ h2 r2;exact⟨_,ReadsAllW.cons q1 q2⟩
end
end
mutual
noncomputable def Oz:WData->Bool
 |.none=>true
 |.bool _=>true
 |.int _=>true
 |.str _=>true
 |.bytes _=>true
 |.list xs=>Ej xs
 |.tuple xs=>Ej xs
 |_=>false
noncomputable def Ej:List WData->Bool
 |[]=>true
 |x::r=>Oz x&&Ej r
end
theorem HE{α:Type}{f:α->WData}(h:∀a,Oz (f a)=true):∀l:List α,Ej (l.map f)=true
 |[]=>rfl
 |x::r=>by
  show(Oz (f x)&&Ej (r.map f))=true;rw[h x,HE h r]<;>rfl
theorem vp:∀(c:Codec)(a:c.denote),Oz (c.enc a)=true
 |.unit,_=>rfl
 |.bool,_=>rfl
 |.int _ _,_=>rfl
 |.nat _ _,_=>rfl
 |.u8,_=>rfl
 |.bytes _ _,_=>rfl
 |.text _ _ _ _,_=>rfl
 |.list _ _ c,a=>HE (λx=>vp c x) a
 |.pair c d,a=>by
  show(Oz (c.enc a.1)&&(Oz (d.enc a.2)&&true))=true;rw[vp c a.1,vp d a.2]<;>rfl
 |.triple c d e,a=>by
  show(Oz (c.enc a.1)&&(Oz (d.enc a.2.1)&&(Oz (e.enc a.2.2)&&true)))=true;rw[vp c a.1,vp d a.2.1,vp e a.2.2]<;>rfl
 |.option c,none=>rfl
 |.option c,some x=>vp c x
theorem EW:∀(cs:List Codec)(a:Codec.denoteAll cs),Ej (Codec.encAll cs a)=true
 |[],_=>rfl
 |c::cs,a=>by
  show(Oz (c.enc a.1)&&Ej (Codec.encAll cs a.2))=true;rw[vp c a.1,EW cs a.2]<;>rfl
theorem xV:∀{xs:List WData}{d:WData},d∈xs->d.weight<=WData.weightAll xs
 |[],d,h=>absurd h (by simp)
 |x::r,d,h=>by
  show d.weight<=x.weight+1+WData.weightAll r;rcases aA.mp h with e|m
  .rw[e];omega
  have z:=xV m;omega
noncomputable def toV:Value->V
 |.none=>.hJ
 |.bool b=>.bl b
 |.int i _=>.int i
 |.str x _=>.str x
 |.bytes b _=>.JA b
 |.ref a=>.ref a
 |_=>.hJ
def NC(A:List Addr):Value->Prop
 |.none=>True
 |.bool _=>True
 |.int _ _=>True
 |.str _ _=>True
 |.bytes _ _=>True
 |.ref a=>a∈A
 |_=>False
theorem NC.mono(h:∀a∈A,a∈B):∀{u:Value},NC A u->NC B u:=λ{u} x=>by
 cases u with
 |ref a=>exact h a x
 |none=>trivial
 |bool b=>trivial
 |int i t=>trivial
 |str s t=>trivial
 |bytes b t=>trivial
 |_=>exact False.elim x
theorem Pg(x:NC A u):RelV (toV u) u:=by
 cases u with
 |ref a=>rfl
 |none=>rfl
 |bool b=>rfl
 |int i t=>exact⟨t,rfl⟩
 |str s t=>exact⟨t,rfl⟩
 |bytes b t=>exact⟨t,rfl⟩
 |_=>exact False.elim x
theorem sR:∀{vs:List Value},(∀u∈vs,NC A u)->Vals (vs.map toV) vs
 |[],_=>.nil
 |u::r,h=>.cons (Pg (h u (aM ..))) (sR λx hx=>h x (aC _ hx))
inductive sS(h:Heap)(A:List Addr)(a:Addr):Prop
 |mk:∀vs:List Value,vs.length<=sizeLine->(∀u∈vs,NC A u)->(h.get? a=some {cls:=.type "list",data:=.seq vs.toArray}\/h.get? a=some {cls:=.type "tuple",data:=.seq vs.toArray})->sS h A a
theorem sS.mono(k:∀a∈A,a∈B)(x:sS h A a):sS h B a:=by
 obtain⟨vs,h1,h2,h3⟩:=x;exact⟨vs,h1,λu hu=>(h2 u hu).mono k,h3⟩
theorem rg:∀{vs:List Value}{ds:List WData},WellAll P h vs ds->vs.length=ds.length
 |_,_,.nil=>rfl
 |_,_,.cons _ b=>by
  show _+1=_+1;rw[rg b]
theorem EX(x:Well P h v (.list ds)):∃(a:Addr)(vs:List Value),v=.ref a/\h.get? a=some {cls:=.type "list",data:=.seq vs.toArray}/\WellAll P h vs ds:=by
 cases x with
 |list ho nR=>exact⟨_,_,rfl,ho,nR⟩
theorem CW(x:Well P h v (.tuple ds)):∃(a:Addr)(vs:List Value),v=.ref a/\h.get? a=some {cls:=.type "tuple",data:=.seq vs.toArray}/\WellAll P h vs ds:=by
 cases x with
 |tuple ho nR=>exact⟨_,_,rfl,ho,nR⟩
theorem EY(x:WellAll P h us (d::ds)):∃(v:Value)(vs:List Value),us=v::vs/\Well P h v d/\WellAll P h vs ds:=by
 cases x with
 |cons a b=>exact⟨_,_,rfl,a,b⟩
def Lq(h:n<=1048576):n<=sizeLine:=a7 h (by decide)
section
variable{P:Params}{h:Heap}
mutual
theorem Ph:∀(d:WData)(v:Value),Well P h v d->Oz d=true->d.weight<=1048576->∃A:List Addr,NC A v/\∀a∈A,sS h A a
 |.none,_,x,_,_=>by
  cases x;exact⟨[],trivial,λa m=>absurd m (by simp)⟩
 |.bool b,_,x,_,_=>by
  cases x;exact⟨[],trivial,λa m=>absurd m (by simp)⟩
 |.int i,_,x,_,_=>by
  cases x;exact⟨[],trivial,λa m=>absurd m (by simp)⟩
 |.str s,_,x,_,_=>by
  cases x;exact⟨[],trivial,λa m=>absurd m (by simp)⟩
 |.bytes b,_,x,_,_=>by
  cases x;exact⟨[],trivial,λa m=>absurd m (by simp)⟩
 |.list ds,_,x,p,z=>by
  obtain⟨a,vs,rfl,ho,nR⟩:=EX x;have z2:=z;obtain⟨A,h1,h2⟩:=yJ ds _ nR p λd hd=>a7 (xV hd) z2;have k:∀b∈A,b∈a::A:=λb hb=>aC _ hb;refine⟨a::A,aM ..,λb hb=>?_⟩;rcases aA.mp hb with e|m
  .rw[e];exact⟨vs,Lq (by rw[rg nR];exact a7 (PySem.W.length_le_weightAllW ds) z2),λu hu=>(h1 u hu).mono k,.inl ho⟩
  exact(h2 b m).mono k
 |.tuple ds,_,x,p,z=>by
  obtain⟨a,vs,rfl,ho,nR⟩:=CW x;have z2:=z;obtain⟨A,h1,h2⟩:=yJ ds _ nR p λd hd=>a7 (xV hd) z2;have k:∀b∈A,b∈a::A:=λb hb=>aC _ hb;refine⟨a::A,aM ..,λb hb=>?_⟩;rcases aA.mp hb with e|m
  .rw[e];exact⟨vs,Lq (by rw[rg nR];exact a7 (PySem.W.length_le_weightAllW ds) z2),λu hu=>(h1 u hu).mono k,.inr ho⟩
  exact(h2 b m).mono k
 |.float _,_,_,p,_=>Bool.noConfusion (show false=true from p)
 |.dict _,_,_,p,_=>Bool.noConfusion (show false=true from p)
 |.bytearray _,_,_,p,_=>Bool.noConfusion (show false=true from p)
 |.set _,_,_,p,_=>Bool.noConfusion (show false=true from p)
 |.frozenset _,_,_,p,_=>Bool.noConfusion (show false=true from p)
 |.obj _ _,_,_,p,_=>Bool.noConfusion (show false=true from p)
theorem yJ:∀(ds:List WData)(vs:List Value),WellAll P h vs ds->Ej ds=true->(∀d∈ds,d.weight<=1048576)->∃A:List Addr,(∀u∈vs,NC A u)/\∀a∈A,sS h A a
 |[],_,x,_,_=>by
  cases x;exact⟨[],λu m=>absurd m (by simp),λa m=>absurd m (by simp)⟩
 |d::ds,_,x,p,z=>by
  obtain⟨v,vs,rfl,x1,x2⟩:=EY x;have q:=cP.mp p;obtain⟨A,a1,a2⟩:=Ph d v x1 q.1 (z d (aM ..));obtain⟨B,b1,b2⟩:=yJ ds vs x2 q.2 λe he=>z e (aC _ he);have kA:∀b∈A,b∈A++B:=λb hb=>aG.mpr (.inl hb);have kB:∀b∈B,b∈A++B:=λb hb=>aG.mpr (.inr hb);refine⟨A++B,λu hu=>?_,λb hb=>?_⟩
  .rcases aA.mp hu with e|m
   .rw[e];exact a1.mono kA
   exact(b1 u m).mono kB
  rcases aG.mp hb with m|m
  .exact(a2 b m).mono kA
  exact(b2 b m).mono kB
end
end
noncomputable def RZ(o:Obj):Option HO:=match o.data with
 |.seq vs _=>if(o.cls==Value.type "list")=true then some (.FJ o (.lst (vs.toList.map toV)))else some (.FJ o (.tup (vs.toList.map toV)))
 |_=>none
noncomputable def tZ(K:Frag)(h:Heap)(A:List Addr):Hp:=λb=>if b∈A then(if(K.lookup b).isNone=true then(h.get? b).bind RZ else none)else none
def Lr(H:Hp):Prop:=∀b,H b=none\/∃o u,H b=some (.FJ o u)
def HF(vs:List Value):RZ {cls:=.type "list",data:=.seq vs.toArray}=some (.FJ {cls:=.type "list",data:=.seq vs.toArray} (.lst (vs.map toV))):=by
 show(if(Value.type "list"==Value.type "list")=true then some (HO.FJ {cls:=.type "list",data:=.seq vs.toArray} (.lst (vs.toArray.toList.map toV)))else some (HO.FJ {cls:=.type "list",data:=.seq vs.toArray} (.tup (vs.toArray.toList.map toV))))=_;rw[ak (beq_self_eq_true _)]
def HG(vs:List Value):RZ {cls:=.type "tuple",data:=.seq vs.toArray}=some (.FJ {cls:=.type "tuple",data:=.seq vs.toArray} (.tup (vs.map toV))):=by
 show(if(Value.type "tuple"==Value.type "list")=true then some (HO.FJ {cls:=.type "tuple",data:=.seq vs.toArray} (.lst (vs.toArray.toList.map toV)))else some (HO.FJ {cls:=.type "tuple",data:=.seq vs.toArray} (.tup (vs.toArray.toList.map toV))))=_;rw[ag (by decide)]
section
variable{P:Program}{w:World}{K:Frag}{h:Heap}{A:List Addr}
def Cc(hb:b∈A)(hk:K.lookup b=none)(e:h.get? b=some o):tZ K h A b=RZ o:=by
 unfold tZ;rw[ak hb,hk,ak (show(none:Option Obj).isNone=true from rfl),e]<;>rfl
def R0(q:tZ K h A b=some u):b∈A/\K.lookup b=none:=by
 unfold tZ at q;by_cases hb:b∈A
 .rw[ak hb]at q;cases hk:K.lookup b with
  |none=>exact⟨hb,rfl⟩
  |some o=>
   rw[hk,ag (by simp)]at q;cases q
 rw[ag hb]at q;cases q
def Cd(ar:∀a∈A,sS h A a)(q:tZ K h A b=some u):K.lookup b=none/\∃vs:List Value,vs.length<=sizeLine/\(∀u∈vs,NC A u)/\
  ((h.get? b=some {cls:=.type "list",data:=.seq vs.toArray}/\u=.FJ {cls:=.type "list",data:=.seq vs.toArray} (.lst (vs.map toV)))\/
  (h.get? b=some {cls:=.type "tuple",data:=.seq vs.toArray}/\u=.FJ {cls:=.type "tuple",data:=.seq vs.toArray} (.tup (vs.map toV)))):=by
 obtain⟨hb,hk⟩:=R0 q;obtain⟨vs,h1,h2,h3⟩:=ar b hb;refine⟨hk,vs,h1,h2,?_⟩;rcases h3 with e|e
 .rw[Cc hb hk e,HF]at q;exact .inl ⟨e,(ao q).symm⟩
 rw[Cc hb hk e,HG]at q;exact .inr ⟨e,(ao q).symm⟩
theorem ND(ar:∀a∈A,sS h A a):Lr (tZ K h A):=λb=>by
 cases q:tZ K h A b with
 |none=>exact .inl rfl
 |some u=>
  obtain⟨_,vs,_,_,⟨_,e⟩|⟨_,e⟩⟩:=Cd ar q
  .exact .inr ⟨_,_,by rw[e]⟩
  exact .inr ⟨_,_,by rw[e]⟩
def R8(ar:∀a∈A,sS h A a):tU P w (tZ K h A) h:=λb u q=>by
 obtain⟨_,vs,h1,h2,⟨e,rfl⟩|⟨e,rfl⟩⟩:=Cd ar q
 .exact⟨e,by rw[aw];exact h1,vs,_,sR h2,e⟩
 exact⟨e,by rw[aw];exact h1,vs,sR h2,_,e,rfl,_,rfl⟩
def Ce{vs us:List Value}(e:(some {cls:=c,data:=.seq vs.toArray}:Option Obj)=some {cls:=c',data:=.seq us.toArray}):c=c'/\vs=us:=by
 have e1:=ao e;have e2:=aQ Obj.cls e1;have e3:Data.seq vs.toArray=Data.seq us.toArray:=aQ Obj.data e1;injection e3 with e4;refine⟨e2,?_⟩;have e5:=aQ Array.toList e4;simpa using e5
theorem ZM(KX:K.In h)(ar:∀a∈A,sS h A a){vs:List Value}(ha:a∈A)(e:h.get? a=some {cls:=.type "list",data:=.seq vs.toArray}):(∀u∈vs,NC A u)/\gC K (tZ K h A) a (vs.map toV):=by
 obtain⟨us,h1,h2,h3⟩:=ar a ha
 have hu:us=vs:=by
  rcases h3 with q|q
  .rw[e]at q;exact(Ce q).2.symm
  rw[e]at q;exact absurd (Value.type.inj (Ce q).1) (by decide)
 subst hu;refine⟨h2,?_⟩;cases hk:K.lookup a with
 |none=>exact .inl (.inr ⟨_,by rw[Cc ha hk e,HF]⟩)
 |some o=>
  have e2:=KX a o hk;rw[e]at e2;obtain rfl:=ao e2;exact .inr ⟨_,us.toArray,_,hk,rfl,rfl,rfl,by rw[aP];exact h1,by simpa using sR h2⟩
theorem ZN(KX:K.In h)(ar:∀a∈A,sS h A a){vs:List Value}(ha:a∈A)(e:h.get? a=some {cls:=.type "tuple",data:=.seq vs.toArray}):(∀u∈vs,NC A u)/\m5 K (tZ K h A) a (vs.map toV):=by
 obtain⟨us,h1,h2,h3⟩:=ar a ha
 have hu:us=vs:=by
  rcases h3 with q|q
  .rw[e]at q;exact absurd (Value.type.inj (Ce q).1) (by decide)
  rw[e]at q;exact(Ce q).2.symm
 subst hu;refine⟨h2,?_⟩;cases hk:K.lookup a with
 |none=>exact .inl (.inr ⟨_,by rw[Cc ha hk e,HG]⟩)
 |some o=>
  have e2:=KX a o hk;rw[e]at e2;obtain rfl:=ao e2;exact .inr ⟨_,us.toArray,_,hk,rfl,rfl,by rw[aP];exact h1,by simpa using sR h2⟩
mutual
theorem U3{Pm:Params}(KX:K.In h)(ar:∀a∈A,sS h A a):∀(d:WData)(v:Value),Well Pm h v d->Oz d=true->NC A v->Dw K (tZ K h A) (toV v) d
 |.none,_,x,_,_=>by
  cases x;exact .hJ
 |.bool b,_,x,_,_=>by
  cases x;exact .bl b
 |.int i,_,x,_,_=>by
  cases x;exact .int i
 |.str s,_,x,_,_=>by
  cases x;exact .str s
 |.bytes b,_,x,_,_=>by
  cases x;have z:=Dw.JA (K:=K) (H:=tZ K h A) b.toArray;exact z
 |.list ds,_,x,p,hu=>by
  obtain⟨a,vs,rfl,ho,nR⟩:=EX x;obtain⟨h2,hs⟩:=ZM KX ar hu ho;exact .lst hs (Gd KX ar ds _ nR p h2)
 |.tuple ds,_,x,p,hu=>by
  obtain⟨a,vs,rfl,ho,nR⟩:=CW x;obtain⟨h2,hs⟩:=ZN KX ar hu ho;exact .tup hs (Gd KX ar ds _ nR p h2)
 |.float _,_,_,p,_=>Bool.noConfusion (show false=true from p)
 |.dict _,_,_,p,_=>Bool.noConfusion (show false=true from p)
 |.bytearray _,_,_,p,_=>Bool.noConfusion (show false=true from p)
 |.set _,_,_,p,_=>Bool.noConfusion (show false=true from p)
 |.frozenset _,_,_,p,_=>Bool.noConfusion (show false=true from p)
 |.obj _ _,_,_,p,_=>Bool.noConfusion (show false=true from p)
theorem Gd(KX:K.In h)(ar:∀a∈A,sS h A a):∀(ds:List WData)(vs:List Value),WellAll Pm h vs ds->Ej ds=true->(∀u∈vs,NC A u)->vo K (tZ K h A) (vs.map toV) ds
 |[],_,x,_,_=>by
  cases x;exact .nil
 |d::ds,_,x,p,hu=>by
  obtain⟨v,vs,rfl,x1,x2⟩:=EY x;have q:=cP.mp p;exact .cons (U3 KX ar d v x1 q.1 (hu _ (aM ..))) (Gd KX ar ds vs x2 q.2 λu m=>hu u (aC _ m))
end
end
theorem NG{P:Program}{w:World}{K:Frag}{mg mb:Str->Option Value}{CX:Rr}{k:Nat}{fa:Addr}{ps:List Str}{sp:Sp}{s₁:Shared}{vals:List Value}{ds:List WData}{R:WRecords}{cl:Str->Option Addr}{d0:WData}
  (KX:K.In s₁.heap) (hns:s₁.heap.Ns mainGlobals mg) (hb:s₁.heap.Ns builtinsNs mb) (hbb:∀x:Str,x≠"__name__"->mb x=bootBuiltins x) (hlim:s₁.heap.NoLimit) (hg:s₁.gens= #[])
  (hwl:WellAll w.params s₁.heap vals ds) (hpl:Ej ds=true) (hwt:∀d∈ds,d.weight<=1048576) (hr:jJ k callerA)
  (F:∀base:Heap,K.In base->base.Ns mainGlobals mg->∃fd,vg P w K mg base CX k fa fd ps sp/\Binds K fd ps []) (hlen:ds.length=ps.length)
  (hsp:∀(H:Hp)(xs:List V),Lr H->vo K H xs ds->sp xs H (λv H'=>Dw K H' v d0) λ_ _ _=>False)
  (hCX:∀H e s',CX [] H s₁ (λ_ _ _=>False) e s'->False):
  codeAny (model P w) callerA (.call (.ref fa) ⟨vals,[]⟩) (λr s'=>∃u as,r=.ok (.ret u)/\ReadsW R cl s'.heap u d0 as/\OldK s₁.heap s'.heap/\s'.os=s₁.os/\AllBare s'.gens) s₁:=by
 obtain⟨A,ho,ar⟩:=yJ ds vals hwl hpl hwt;have hO:Lr (tZ K s₁.heap A):=ND ar;have gZ:tU P w (tZ K s₁.heap A) s₁.heap:=R8 ar;have hS:=Gd KX ar ds vals hwl hpl ho;have hV:=sR ho;have hK:∀b u,tZ K s₁.heap A b=some u->K.lookup b=none:=λb u q=>(Cd ar q).1
 have noA:∀{b:Addr}{o:Obj}{es:Array DictEntry}{ep:Nat},s₁.heap.get? b=some o->o.data=.dict es ep->tZ K s₁.heap A b=none:=λ{b o es ep} e d=>by
  cases q:tZ K s₁.heap A b with
  |none=>rfl
  |some u=>
   obtain⟨_,vs,_,_,⟨e2,_⟩|⟨e2,_⟩⟩:=Cd ar q
   .rw[e2]at e;cases e;have d':Data.seq vs.toArray _=Data.dict es ep:=d;cases d'
   rw[e2]at e;cases e;have d':Data.seq vs.toArray _=Data.dict es ep:=d;cases d'
 generalize tZ K s₁.heap A=H at hO gZ hS hK noA;have Nb:∀{b:Addr}{o:Obj},s₁.heap.get? b=some o->H b=none->(FN s₁.heap H).get? b=some o:=λe n=>OE e n;have nsK:∀{b:Addr}{m:Str->Option Value},s₁.heap.Ns b m->(FN s₁.heap H).Ns b m:=λ{b m}⟨o,es,ep,e,d,r⟩=>⟨o,es,ep,Nb e (noA e d),d,r⟩
 have nK:∀b o,K.lookup b=some o->H b=none:=λb o e=>by
  cases q:H b with
  |none=>rfl
  |some u=>
   rw[hK b u q]at e;cases e
 have hKb:K.In (FN s₁.heap H):=λb o e=>Nb (KX b o e) (nK b o e);have hM:Mod K mg (FN s₁.heap H):=⟨hKb,nsK hns,⟨mb,nsK hb,hbb⟩,let⟨mc,h1,h2⟩:=hlim;⟨mc,nsK h1,h2⟩⟩;have e0:Hn P w K mg (FN s₁.heap H) callerA [] s₁ H:=⟨rfl,hM,λb o e=>RF e,le_of_eq (Nj _ _),trivial,λb hb=>absurd (show b∈([]:List Addr)from hb) (by simp),gZ,.of_eq hg⟩;have hl:vals.length=ps.length:=by rw[rg hwl];exact hlen
 obtain⟨fd,F,XN⟩:=F _ hKb (nsK hns);have bt:=XN s₁ vals KX (by rw[bK];exact hl);rw[bK]at bt;refine di (F.run callerA [] s₁ H ⟨vals,[]⟩ vals (vals.map toV) _ _ hr e0 bt hV (hsp H _ hO hS)) λr s' x=>?_;cases r with
 |error e=>exact(hCX H e s' x).elim
 |ok fl=>
  cases fl with
  |next=>exact False.elim x
  |brk=>exact False.elim x
  |cont=>exact False.elim x
  |ret u=>
   obtain⟨v,H',os,bare,un,XO,r',q⟩:=x
   have kept:∀b o,s₁.heap.get? b=some o->s'.heap.get? b=some o:=λb o e=>by
    cases q2:H b with
    |none=>exact un.keep b o e q2 (by intro z;exact absurd (show b∈([]:List Addr)from z) (by simp)) (by simp)
    |some u2=>
     rcases hO b with z|⟨ob,u3,z⟩
     .rw[q2]at z;cases z
     have z2:=un.Eh b ob _ z;obtain⟨e1,_⟩:=gZ b _ z;obtain⟨e2,_⟩:=XO b _ z2;rw[e]at e1;cases e1;exact e2
   have KX':K.In s'.heap:=λb o e=>kept b o (KX b o e);obtain⟨as,hrd⟩:=Dw.reads (R:=R) (cl:=cl) XO KX' d0 v u q r';exact⟨u,as,rfl,hrd,OldK.of_keep kept,os,bare⟩
def CY(h:WData.layableAll ds=true):∀d∈ds,d.weight<=1048576:=λd hd=>
 (PySem.W.layableW_iff.mp (b6.mp h d hd)).2.2
theorem CZ:∀(cs:List Codec)(a:Codec.denoteAll cs),(Codec.encAll cs a).length=cs.length
 |[],_=>rfl
 |c::cs,a=>by
  show(Codec.encAll cs a.2).length+1=cs.length+1;rw[CZ cs a.2]
def NH{r:OpenSpec}{k:Nat}{q:Program}{loose:List Str}{XP:(Str->Option Value)->Heap->Prop}{YP:World->Heap->Prop}{d:DefRec}{K:Params->Frag}{CX:World->Rr}{ps:List Str}{sp:World->Sp}
  (hwell:r.wellSaid=true) (hdf:d.params.defaults=[]) (hlen:r.args.length=ps.length) (hr:jJ k callerA)
  (hY:∀(w:World)(h:Heap),YP w h->(K w.params).In h)
  (F:∀(w:World)(mg:Str->Option Value)(fa:Addr)(h:Heap),YP w h->(K w.params).In h->h.Ns mainGlobals mg->mg d.name=some (.ref fa)->
   ∀base:Heap,(K w.params).In base->base.Ns mainGlobals mg->∃fd,vg r.prog w (K w.params) mg base (CX w) k fa fd ps (sp w)/\Binds (K w.params) fd ps [])
  (hsp:∀(w:World)(H:Hp)(xs:List V)(a:Codec.denoteAll r.args),Lr H->Codec.withinAll r.args a=true->Codec.app r.args r.asked a=true->vo (K w.params) H xs (Codec.encAll r.args a)->
   sp w xs H (λv H'=>Dw (K w.params) H' v (r.ret.enc (Codec.app r.args r.f a))) λ_ _ _=>False)
  (hCX:∀(w:World)(H:Hp)(s:Shared)(e:Value)(s':Shared),CX w [] H s (λ_ _ _=>False) e s'->False):
  PySem.W.WalkOS q loose XP YP r d [] (λf vs=>PySem.call f vs):=by
 intro w Ee s₁ mg mb G Y fa o pm cd doc dV kV ho hd hcd hD YS hg args vals as Q9 aap hrd hwl hlo;obtain⟨a,e1,e2⟩:=PySem.W.os_pre_some Q9;obtain⟨e3,XQ⟩:=Codec.encAll_of_decAll r.args args a e1;subst e3;have KX:=hY w _ Y;have hF:=F w mg fa _ Y KX G.T.g YS
 refine PySem.W.enter_call (di (NG (R:=[]) (cl:=classAt Ee.heap) (d0:=r.ret.enc (Codec.app r.args r.f a)) KX G.T.g G.T.b G.T.builtins G.T.nolimit hg hwl (EW _ _) (CY aap) hr hF (by rw[CZ];exact hlen)
  (λH xs hO hS=>hsp w H xs a hO XQ e2 hS) λH e s'=>hCX w H s₁ e s') λr' s' hq=>?_)
 obtain⟨u,as',rfl,h1,h2,h3,h4⟩:=hq;exact⟨.inl ⟨u,_,as',rfl,λ_=>rfl,h1,(OpenSpec.post_iff hwell XQ _ _).mpr rfl,λz=>Bool.noConfusion (show false=true from z)⟩,h2,h3,h4⟩
end L2
namespace LX
open PySem PySem.Spec PyProof.Rows L2
inductive Rec(h:Heap)(a:Addr)(cls:Value)(od:Option Addr)(ctx:Value)(T:Option Addr)(fl:Value):Prop
 |mk:∀oe vs,h.get? a=some oe->oe.cls=cls->oe.dict=od->oe.data=.fields vs->vs.size=6->vs[2]? =some ctx->(match T with|none=>vs[1]? =some .none|some t=>vs[1]? =some (.ref t)/\t≠a/\∃oT ts,h.get? t=some oT/\oT.data=.fields ts/\ts[3]? =some fl)->Rec h a cls od ctx T fl
structure Turn(fs ch:List Addr)(h h':Heap):Prop where
 keep:∀b o,h.get? b=some o->b∉fs->b∉ch->h'.get? b=some o
 slot:∀b o,h.get? b=some o->b∈fs->b∉ch->∃sl,h'.get? b=some {o with slots:=sl}
 there:∀b o,h.get? b=some o->∃o',h'.get? b=some o'
 size:h.objs.size<=h'.objs.size
def Turn.refl:Turn fs ch h h:=⟨λ_ _ e _ _=>e,λ_ o e _ _=>⟨o.slots,e⟩,λ_ o e=>⟨o,e⟩,aH _⟩
def Turn.trans(x:Turn fs ch h h1)(y:Turn fs ch h1 h2):Turn fs ch h h2:=
 ⟨λb o e n m=>y.keep b o (x.keep b o e n m) n m,λb o e n m=>let⟨_,e1⟩:=x.slot b o e n m;let⟨sl,e2⟩:=y.slot b _ e1 n m;⟨sl,e2⟩,
 λb o e=>let⟨o1,e1⟩:=x.there b o e;y.there b o1 e1,a7 x.size y.size⟩
def Turn.mono(x:Turn fs ch h h')(k:∀b∈ch,b∈ch'):Turn fs ch' h h':=
 ⟨λb o e n m=>x.keep b o e n λz=>m (k b z),λb o e n m=>x.slot b o e n λz=>m (k b z),x.there,x.size⟩
def Turn.one(e:h.get? a=some o)(hfr:(f o).isFreed=false):Turn fs [a] h (h.update a f):=by
 have other:∀b,b≠a->(h.update a f).get? b=h.get? b:=λb hb=>bb _ _ (aW hb);refine⟨λb u q _ m=>(other b λz=>m (by simp[z])).trans q,λb u q _ m=>⟨u.slots,(other b λz=>m (by simp[z])).trans q⟩,λb u q=>?_,le_of_eq (dW ..).symm⟩;by_cases hb:b=a
 .subst hb;exact⟨_,a8 _ e hfr⟩
 exact⟨u,(other b hb).trans q⟩
theorem Turn.push:Turn fs ch h (h.push o):=
 ⟨λb u q _ _=>ax _ q,λb u q _ _=>⟨u.slots,ax _ q⟩,λb u q=>⟨u,ax _ q⟩,by rw[b8];exact le_succ _⟩
def Turn.slots(x:Heap.SlotsOnly fs h h'):Turn fs ch h h':=
 ⟨λb o e n _=>(x.2.1 b n).trans e,λb o e _ _=>x.2.2 b o e,λb o e=>let⟨_,q⟩:=x.2.2 b o e;⟨_,q⟩,le_of_eq x.1.symm⟩
section
variable{M:Model}{A:Around}{E:Value->Shared->Prop}{s:Shared}{a L:Addr}{cls ctx fl:Value}{od:Option Addr}{T:Option Addr}{base:Heap}{env:Env}{outer:List Env}
def EZ{S7:Bool}(hfr:A.frames=some (env::outer))(hl:s.heap.FunFrames base (env::outer))(hf:env.frame=some L)
  {oe:Obj} {vs:Array Value} (he:s.heap.get? a=some oe) (hc:oe.cls=cls) (ho:oe.dict=od) (hd:oe.data=.fields vs) (hz:vs.size=6) (hx:vs[2]? =some ctx)
  (k:∀h' T',Rec h' a cls od ctx (some T') (rawInt L)->s.heap.objs.size<=T'->T'<h'.objs.size->Turn (Ac (env::outer)) [a] s.heap h'->Q () {s with heap:=h'}):
  wpAny M A (do let f<-frameOf env;let pl<-entryPlaceOf L S7;let b<-EntryCells.newEntry head f .none (rawInt L) .none pl;setField (.ref a) 1 b) Q E s:=by
 have naf:a∉Ac (env::outer):=λm=>by
  obtain⟨_,o,e2,nd⟩:=hl.mem m;rw[he]at e2;cases e2;exact nd vs hd
 refine af (wpAny_frameOf_fun hfr hl hf λh1 so=>af (wpAny_entryPlaceOf λpl hpl=>?_));have YT:=(so.2.1 a naf).trans he;unfold EntryCells.newEntry newFields;refine af (bL ?_ (hpl.sizeOk5 _ _ _ _ _));generalize ht:(([head,.ref L,.none,rawInt L,.none]++(if pl.isEmpty then List.replicate 6 Value.none else pl)).toArray:Array Value)=ts;have h3:ts[3]? =some (rawInt L):=by subst ht;rcases hpl with rfl|⟨_,_,_,_,_,_,_,rfl⟩<;>simp
 have he2:(h1.push {cls:=.type "traceback",dict:=none,data:=.fields ts}).get? a=some oe:=ax _ YT;have d3:=cI hd (·.setIfInBounds 1 (Value.ref h1.objs.size));have hTa:=ej (aZ YT);refine cq he2 hd (by rw[hz];decide) (k _ h1.objs.size ?_ (by rw[so.1];exact aH _) (by rw[dW,b8];exact cK _) ?_)
 .refine⟨_,_,a8 _ he2 (cf d3),(Obj.cls_mapFields _ _).trans hc,?_,d3,by simp[hz],?_,?_,hTa,?_⟩
  .obtain⟨c,d,dt,sl⟩:=oe;cases dt<;>exact ho
  .rw[Array.getElem?_setIfInBounds_ne (by decide)];exact hx
  .simp[hz]
  refine⟨{cls:=.type "traceback",dict:=none,data:=.fields ts},ts,?_,rfl,h3⟩;rw[bb _ _ hTa.symm];exact aN h1 rfl
 exact((Turn.slots so).trans Turn.push).trans (Turn.one he2 (cf d3))
theorem yK{Q:Unit->Shared->Prop}(hfr:A.frames=some (env::outer))(hl:s.heap.FunFrames base (env::outer))(hf:env.frame=some L)(R:Rec s.heap a cls od ctx T fl)
  (k:∀h' T',Rec h' a cls od ctx (some T') (rawInt L)->(T=some T'\/s.heap.objs.size<=T')->T'<h'.objs.size->Turn (Ac (env::outer)) (a::T.toList) s.heap h'->Q () {s with heap:=h'}):
  wpAny M A (noteFrame (.ref a) env) Q E s:=by
 obtain⟨oe,vs,he,hc,ho,hd,hz,hx,hT⟩:=R;unfold noteFrame;simp only[hf];cases T with
 |none=>
  refine af (bM he hd hT ?_);rw[ag (by decide)];exact EZ hfr hl hf he hc ho hd hz hx λh' T' R' l l2 t=>k h' T' R' (.inr l) l2 t
 |some t0=>
  obtain⟨h1,XR,oT,ts,Ry,Uk,h3⟩:=hT;refine af (bM he hd h1 ?_);rw[ak (show(Value.ref t0 !=Value.none)=true by simp)];refine af (bM Ry Uk h3 ?_);by_cases q:(fl==rawInt L)=true
  .rw[ak q];have e:fl=rawInt L:=by simpa using q
   subst e;exact aB (k _ t0 ⟨oe,vs,he,hc,ho,hd,hz,hx,h1,XR,oT,ts,Ry,Uk,h3⟩ (.inl rfl) (aZ Ry) .refl)
  rw[ag q];have fr:=cf (cI Uk (·.setIfInBounds 3 Value.none));have t1:Turn (Ac (env::outer)) [t0] s.heap (s.heap.update t0 (Obj.mapFields (·.setIfInBounds 3 Value.none))):=Turn.one Ry fr;refine af (cq Ry Uk (df.mp h3).1 ?_);have YT:(s.heap.update t0 (Obj.mapFields (·.setIfInBounds 3 Value.none))).get? a=some oe:=(bb _ _ XR).trans he;refine EZ hfr (base:=base) ?_ hf YT hc ho hd hz hx λh' T' R' l l2 t=>k h' T' R' (.inr (by rw[dW]at l;exact l)) l2 ((t1.mono (by simp)).trans (t.mono (by simp)));refine hl.of_keeps λb o e nd=>⟨o,?_,rfl⟩;refine(bb _ _ λz=>?_).trans e;subst z;rw[Ry]at e;cases e;exact nd ts Uk
theorem mn(R:Rec s.heap a cls od ctx T fl)
  (k:∀h' Nc,(∀t,T=some t->Nc=(fo.elim Value.none λf=>rawInt f))->Rec h' a cls od ctx T Nc->Turn fs T.toList s.heap h'->Q () {s with heap:=h'}):
  wpAny M A (setFlight (.ref a) fo) Q E s:=by
 obtain⟨oe,vs,he,hc,ho,hd,hz,hx,hT⟩:=R;cases T with
 |none=>
  refine af (bM he hd hT ?_);rw[ag (by decide)];exact aB (k _ fl (λ_ z=>by cases z) ⟨oe,vs,he,hc,ho,hd,hz,hx,hT⟩ .refl)
 |some t0=>
  obtain⟨h1,XR,_,_,Ry,Uk,h3⟩:=hT;refine af (bM he hd h1 ?_);rw[ak (show(Value.ref t0 !=Value.none)=true by simp)];have sz:=(df.mp h3).1;have dd:=cI Uk (·.setIfInBounds 3 (fo.elim Value.none λf=>rawInt f));refine cq Ry Uk sz (k _ _ (λ_ _=>rfl) ⟨oe,vs,?_,hc,ho,hd,hz,hx,h1,XR,_,_,a8 _ Ry (cf dd),dd,by simp[sz]⟩ (Turn.one Ry (cf dd)));exact(bb _ _ XR).trans he
end
structure jX(X:Cx)(pins:List (Addr×Obj))(H:Hp)(b:Addr):Prop where
 free:H b=none
 new:X.Ee.heap.objs.size<=b
 loc:b≠X.env.locals
 cell:∀x c,X.env.cells.lookup x=some c->c≠b
 pin:∀p∈X.pn++pins,p.1≠b
section
variable{X:Cx}{pins:List (Addr×Obj)}{σ:L2.St}{H H':Hp}{s:Shared}{h':Heap}{ch:List Addr}{b:Addr}
def kb(I:Inv X pins σ H s)(l:s.heap.objs.size<=b)(hb:H' b=none):jX X pins H' b:=by
 have ne:∀c o,s.heap.get? c=some o->c≠b:=λc o e=>a9 (aS (aZ e) l);refine⟨hb,a7 I.sz l,ej (aS I.lt l),λx c e=>?_,λp hp=>ne _ _ (I.pin p hp).1⟩;obtain⟨v,o,ho,_⟩:=I.cell x c e;exact ne c o ho
def jB(I:Inv X pins σ H s)(t:Turn (Ac X.stack) ch s.heap h')(hc:∀b∈ch,jX X pins H b):Inv X pins σ H {s with heap:=h'}:=by
 have u:Un (Ac X.stack) ch H H s.heap h':=⟨λb o e _ n m=>t.keep b o e n m,λb o e _ n m=>t.slot b o e n m,λ_ _ _ n _=>n,λb o e _=>t.there b o e,λ_ _ e=>e,λ_ _ _ e=>e,λ_ ps e=>⟨#[],by rw[e];simp⟩⟩;have nf:∀c q,H c=some q->c∉Ac X.stack:=λc q e m=>by rw[I.FQ c m]at e;cases e
 have nc:∀c q,H c=some q->c∉ch:=λc q e m=>by rw[(hc c m).free]at e;cases e
 have ok:tU X.prog X.w H h':=λb o e=>(I.gZ b o e).Eg (λc v Vs q=>by
  rcases Vs with z|z
  .subst z;exact t.keep _ _ q (nf _ _ e) (nc _ _ e)
  exact t.keep _ _ q (nf _ _ z) (nc _ _ z)) (λ_ q=>q) λ_ _ q=>q
 exact I.call u ok I.bare λb m=>⟨.inr (hc b m).new,(hc b m).loc,(hc b m).cell,(hc b m).pin⟩
end
def Rz(pl:Value->Prop)(X:Cx)(E:XK):Prop:=∀(pins:List (Addr×Obj))(σ:L2.St)(H:Hp)(s:Shared)(a:Addr)(cls:Value)(od:Option Addr)(ctx:Value)(T:Option Addr)(fl:Value),
 Inv X pins σ H s->Rec s.heap a cls od ctx T fl->(pl cls->ctx=.none)->jX X pins H a->(∀t∈T.toList,jX X pins H t)->E cls od H->X.xe (.ref a) s
inductive W7(P:Program)(w:World)(pl:Value->Prop)(outer:List Env)(H:Hp)(s:Shared)(E:XK)(e:Value)(s':Shared):Prop
 |mk:∀(a:Addr)(cls:Value)(od:Option Addr)(ctx:Value)(T:Addr)(H':Hp),(e=.ref a)->(s'.os=s.os)->(AllBare s'.gens)->(Un (Ac outer) [] H H' s.heap s'.heap)->(tU P w H' s'.heap)->(Rec s'.heap a cls od ctx (some T) .none)->(pl cls->ctx=.none)->(s.heap.objs.size<=a)->(s.heap.objs.size<=T)->(H' a=none)->(H' T=none)->(E cls od H')->W7 P w pl outer H s E e s'
def vd(P:Program)(w:World)(pl:Value->Prop):Rr:=λouter H s E e s'=>W7 P w pl outer H s E e s'
def An(h:vd P w pl outer H s (λ_ _ _=>False) e s'):False:=by
 obtain⟨_,_,_,_,_,_,_,_,_,_,_,_,_,_,_,_,_,z⟩:=h;exact z
def NI(R:Rz pl X E):Passes (vd X.prog X.w pl) X E:=by
 intro pins σ H s e s' I h;obtain⟨a,cls,od,ctx,T,H',rfl,os,bare,un,gZ,rc,hp,la,lT,na,nT,hE⟩:=h;have I':=I.OF os un gZ bare λb z=>absurd z (by simp)
 exact R pins σ H' s' a cls od ctx (some T) .none I' rc hp (kb I la na) (λt m=>by
  have e:t=T:=by simpa using m
  subst e;exact kb I lT nT) hE
section
variable{P:Program}{w:World}{K:Frag}{mg:Str->Option Value}{base:Heap}{N:List Str}{qual:Str}{scope:Scope}{f:Addr}{cd:Value}{A:Around}{outer:List Env}{s:Shared}{H:Hp}{E:XK}{pl:Value->Prop}
def Ao:Rz pl (nS (vd P w pl) P w K mg base N qual scope f cd A outer s H E) E:=by
 intro pins σ H1 s1 a cls od ctx T fl I R hp aa aT hE;show wpAny _ _ (leaving _ _) _ _ _;unfold leaving;refine af (yK I.ok.frames I.stack rfl R λh1 T' R1 hT lt t=>?_)
 have I1:=jB I t λb m=>by
  rcases aA.mp m with rfl|m
  .exact aa
  exact aT b m
 have Nd:jX (nS (vd P w pl) P w K mg base N qual scope f cd A outer s H E) pins H1 T':=by
  rcases hT with z|z
  .exact aT T' (by rw[z];simp)
  exact kb I z (I.gZ.fresh z)
 refine mn (fo:=none) (fs:=Ac (nS (vd P w pl) P w K mg base N qual scope f cd A outer s H E).stack) R1 λh2 Nc hf R2 t2=>?_
 have I2:=jB I1 t2 λb m=>by
  have e:b=T':=by simpa using m
  subst e;exact Nd
 have ef:Nc=.none:=hf T' rfl;subst ef;exact⟨a,cls,od,ctx,T',H1,rfl,I2.os,I2.bare,I2.base,I2.gZ,R2,hp,aa.new,Nd.new,aa.free,Nd.free,hE⟩
end
noncomputable abbrev JY:List Value:=[.type "Exception",.type "BaseException",.type "object"]
structure mZ(K:Frag)(C N:Addr):Prop where
 at_:∃nm q bs sn sub ab col dd k0 k1 k2 k3 k5,K.lookup C=some (excClassObj nm q C N bs JY true sn sub ab col dd k0 k1 k2 k3 k5 "Exception.__new__")
 ns:nsOkIn K N=true
 sa:nsIn K N "__setattr__"=some none
 kp:keepIn K (.ref C)=true
def HH:ExcBaseFacts "Exception" "Exception.__new__" "Exception.__init__" JY:=PySem.F.excBase_Exception
noncomputable abbrev xo(C:Addr)(od:Option Addr)(t:Addr)(v1 v2 v3 v4:Value):Obj:={cls:=.ref C,dict:=od,data:=.fields #[.ref t,v1,v2,v3,v4,.none]}
section
variable{prog:Program}{w:World}{A:Around}{K:Frag}{C N f:Addr}{s:Shared}{R:Result->Shared->Prop}{vs:List Value}
def HI(X:K.In s.heap)(c:mZ K C N)(hi:findIn K (.ref C) "__init__"=some (some init))(hf:∀(h:Heap)(self:Value),K.In h->PySem.W.Looks (model prog w) h (bindSpecial init self) (init,[self]))(hl:vs.length<=sizeLine)
  (h:codeAny (model prog w) (A.under (.builtin "type.__call__" ⟨.ref C::vs,[]⟩)) (.call init ⟨.ref (s.heap.objs.size+1)::vs,[]⟩) (PySem.W.InitBack (s.heap.objs.size+1) R)
   {s with heap:=(s.heap.push {cls:=.type "tuple",data:=.seq vs.toArray}).push (xo C none s.heap.objs.size .none .none .none (.bool false))}):
  codeAny (model prog w) A (.call (.ref C) ⟨vs,[]⟩) R s:=by
 obtain⟨_,_,_,_,_,_,_,_,_,_,k2,_,_,lk⟩:=c.at_;have hC:=X _ _ lk;obtain⟨hh,g,d,t,os⟩:=s;have f1:=tc_lookup;have f2:=tc_bind (.ref C);have hT:(⟨hh,g,d,t,os⟩:Shared).TypeIs (.ref C) "type":=⟨_,hC,rfl⟩;refine codeAny_of_tree ?_;show wpAny _ _ (callAny (.ref C) _) _ _ _
 repeat (any_goals (first|assumption|with_reducible refine aU hC ?_|wp_step))
 refine⟨rfl,codeAny_call_builtin_at (Code.quiet_builtin _ (by decide+kernel)) entry_typeCall (wpAny_check_type_call_sub hC ?_)⟩
 repeat (first|with_reducible refine aU hC ?_|with_reducible refine wpAny_madeBy_exc hC ?_|wp_step)
 refine codeAny_call_builtin_code (Code.quiet_builtin _ HH.quiet) (wpAny_check_new_sub HH hC (codeAny_exc_new_sub HH hC ?_ hl));show wpAny _ _ _ _ _ (⟨(hh.push {cls:=.type "tuple",data:=.seq vs.toArray}).push (xo C none hh.objs.size .none .none .none (.bool false)),g,d,t,os⟩:Shared);generalize hP:((hh.push {cls:=.type "tuple",data:=.seq vs.toArray}).push (xo C none hh.objs.size .none .none .none (.bool false)):Heap)=h2;have k2:∀b o,hh.get? b=some o->h2.get? b=some o:=λb o e=>by rw[<-hP];exact ax _ (ax _ e)
 have hC2:=k2 _ _ hC;have X2:K.In h2:=X.keeps k2;have hx:h2.get? (hh.objs.size+1)=some (xo C none hh.objs.size .none .none .none (.bool false)):=by rw[<-hP];heap_get
 have hcC:(Value.ref C::JY).contains (.ref C)=true:=by simp
 unfold isInstance
 repeat (first|with_reducible refine aU hx ?_|(with_reducible refine b5 hC2 ?_;rw[hcC])|wp_step)
 refine(PySem.W.looks_findIn X2 hi).at ?_;have lb:=hf h2 (.ref (hh.objs.size+1)) X2;refine b9 (af (lb.at ?_));refine af (wpAny_call ?_);rw[<-hP];refine di h λr s' z=>?_;rcases r with e|(v|_|_|_)<;>first|exact z|exact z.elim|skip
 obtain⟨rfl,z⟩:=z;exact aB (aB z)
def W8(X:K.In s.heap)(c:mZ K C N)(hi:findIn K (.ref C) "__init__"=some (some (.ref f)))(hf:typeIn K (.ref f)=some (.type "function"))(hl:vs.length<=sizeLine)
  (h:codeAny (model prog w) (A.under (.builtin "type.__call__" ⟨.ref C::vs,[]⟩)) (.call (.ref f) ⟨.ref (s.heap.objs.size+1)::vs,[]⟩) (PySem.W.InitBack (s.heap.objs.size+1) R)
   {s with heap:=(s.heap.push {cls:=.type "tuple",data:=.seq vs.toArray}).push (xo C none s.heap.objs.size .none .none .none (.bool false))}):
  codeAny (model prog w) A (.call (.ref C) ⟨vs,[]⟩) R s:=HI X c hi (λh self X'=>bind_fn X' self hf) hl h
end
section
variable{prog:Program}{w:World}{A:Around}{R:Result->Shared->Prop}{h:Heap}{g:Array GenState}{d:Drawn}{tk:Nat}{os:OsState}
variable{nm q:Str}{C N:Addr}{bs bm:List Value}{hdct:Bool}{sn:List Str}{sub:List Value}{ab:Bool}{col:Option Bool}{dd:Option Addr}{k0 k1 k2 k3 k5:Option Value}{B newId Ra:String}
def U4(F:ExcBaseFacts B newId Ra bm)(hC:h.get? C=some (excClassObj nm q C N bs bm hdct sn sub ab col dd k0 k1 k2 k3 k5 newId))(ha:h.get? a=some (xo C none t .none .none .none (.bool false)))
  (hq:R (.ok (.ret .none)) ⟨(h.push {cls:=.type "tuple",data:=.seq ([]:List Value).toArray}).update a (Obj.mapFields (·.setIfInBounds 0 (.ref h.objs.size))),g,d,tk,os⟩):
  codeAny (model prog w) A (.call (.builtin Ra) ⟨[.ref a],[]⟩) R ⟨h,g,d,tk,os⟩:=by
 refine codeAny_call_builtin F.init.plain F.initEntry (wpAny_check_init_sub F hC ha rfl ?_)
 wp_walk
 exact hq
end
open Builtin Builtin.ObjectAttr
def SE:StoreFacts "Exception" JY "object.__setattr__" "object":=PySem.F.store_Exception
section
variable{prog:Program}{w:World}{A:Around}{E:Value->Shared->Prop}{h:Heap}{g:Array GenState}{d:Drawn}{t:Nat}{os:OsState}
variable{nm q:Str}{C N x:Addr}{bs:List Value}{sn:List Str}{sub:List Value}{ab:Bool}{col:Option Bool}{dd:Option Addr}{k0 k1 k2 k3 k5:Option Value}{newId B sa owner:String}{bm:List Value}{mN:Str->Option Value}{name:Str}{v:Value}
def NJ{o:Obj}(SF:StoreFacts B bm sa owner)(hC:h.get? C=some (excClassObj nm q C N bs bm true sn sub ab col dd k0 k1 k2 k3 k5 newId))(hn:h.Ns N mN)(hns:mN "__setattr__"=none)(hna:mN name=none)
  (hB:typeLookup (.type B) name=pure none) (hx:h.get? x=some o) (hc:o.cls=.ref C) (ho:o.dict=none) (hnc:∀c,o.data≠.cls c)
  (hq:∀h' tk',h'.get? x=some {o with dict:=some h.objs.size}->h'.Ns1 h.objs.size (λy=>if y=name then some v else none)->(∀b u,b≠x->h.get? b=some u->h'.get? b=some u)->Q () ⟨h',g,d,tk',os⟩):
  wpAny (model prog w) A (setAttr (.ref x) name v) Q E ⟨h,g,d,t,os⟩:=by
 have f3:=SF.slot.bind (.ref x);have XS:=SF.passes (.ref x);unfold setAttr callSpecial? specialOf
 repeat (any_goals (first|assumption|(with_reducible refine aU hx ?_;rw[hc])|(with_reducible refine cz hC hn SF.mro SF.slot.lookup ?_;rw[hns])|wp_step))
 refine codeAny_call_builtin SF.slot.plain SF.entry (wpAny_check_sa SF hC hx hc ?_);unfold Builtin.«object.__setattr__»
 repeat (first|rw[refuse_eq]|(rw[refuseLoop_ref,XS])|(with_reducible refine aU hx ?_;rw[hc])|with_reducible refine wpAny_mroOf_exc hC ?_|(with_reducible refine cz hC hn SF.mro hB ?_;rw[hna])|wp_step)
 rw[ho,ag (by simp[typeHasDict])];split
 .rename_i z;cases z
 split
 .rename_i c z;exact absurd z (hnc c)
 have hx1:(h.push {cls:=.type "dict",data:=.dict #[]}).get? x=some o:=ax _ hx;have nx:=a9 (aZ hx);refine af (wpAny_alloc' (af (wpAny_update' hx1 (aB ?_))));generalize hP:((h.push {cls:=.type "dict",data:=.dict #[]}).update x λo=>{cls:=o.cls,dict:=some h.objs.size,data:=o.data,slots:=o.slots}:Heap)=h2
 have fo:({o with dict:=some h.objs.size}:Obj).isFreed=false:=by
  have z:=(Heap.get?_some_iff.mp hx).2;obtain⟨_,_,dt,_⟩:=o;cases dt<;>first|rfl|exact z
 have gx:h2.get? x=some {o with dict:=some h.objs.size}:=by rw[<-hP];exact a8 _ hx1 fo
 have gd:h2.get? h.objs.size=some {cls:=.type "dict",data:=.dict #[]}:=by
  rw[<-hP];exact(bb _ _ nx).trans (Heap.get?_push_at rfl rfl)
 have kp:∀b u,b≠x->h.get? b=some u->h2.get? b=some u:=λb u n e=>by
  rw[<-hP];exact(bb _ _ (aW n)).trans (ax _ e)
 have nd:h2.Ns h.objs.size (λ_=>none):=⟨_,#[],_,gd,rfl,λe he=>absurd he (by simp),λ_=>rfl⟩;refine af (aB (af (wpAny_nsSet1 (Heap.Ns1.of_empty nd) λh3 n3 sb=>?_)));obtain⟨_,_,_,hoD,hdD,XG⟩:=n3.count (Within.cons name v Within.nil);refine af (wpAny_lookBehind hoD (by rw[hdD];exact pastItsLine_dict (a7 XG (by rw[aF,da,sizeLine_eq];omega))) ?_)
 wp_walk
 exact hq h3 _ ((sb.2 x nx).trans gx) n3 λb u n e=>(sb.2 b (a9 (aZ e))).trans (kp b u n e)
end
noncomputable def xA(C:Addr)(od:Option Addr)(t a:Addr):HO:=.ext λh=>h.get? a=some (xo C od t .none .none .none (.bool false))
noncomputable def xD(fs:List (Str×V))(dx:Addr):HO:=.ext λh=>∃mA,h.Ns1 dx mA/\(∀f,sE (fs.lookup f) (mA f))/\PySem.Within mA (fs.map (·.1))
section
variable{P:Program}{w:World}{H:Hp}{h:Heap}{C t a dx:Addr}{od:Option Addr}{fs:List (Str×V)}
def Tx(e:h.get? a=some (xo C od t .none .none .none (.bool false))):i7 P w H h a (xA C od t a):=⟨e,⟨_,e⟩,λ_ _ e k=>k _ e⟩
def E0(x:tU P w H h)(e:H a=some (xA C od t a)):h.get? a=some (xo C od t .none .none .none (.bool false)):=(x a _ e).1
def Tz(n:h.Ns1 dx mA)(r:∀f,sE (fs.lookup f) (mA f))(wi:PySem.Within mA (fs.map (·.1))):i7 P w H h dx (xD fs dx):=by
 refine⟨⟨mA,n,r,wi⟩,let⟨o,_,_,e,_⟩:=n;⟨o,e⟩,λh1 h2 q k=>?_⟩;obtain⟨m,⟨o,es,ep,e,z⟩,r',w'⟩:=q;exact⟨m,⟨o,es,ep,k _ e,z⟩,r',w'⟩
def TB(x:tU P w H h)(e:H dx=some (xD fs dx)):∃mA,h.Ns1 dx mA/\(∀f,sE (fs.lookup f) (mA f))/\PySem.Within mA (fs.map (·.1)):=(x dx _ e).1
end
section
variable{X:Cx}{pins:List (Addr×Obj)}{σ:L2.St}{H:Hp}{s:Shared}{h':Heap}{x dx:Addr}{o o2:HO}{t':Nat}
def Ek(I:Inv X pins σ H s)(mu:Tc (H x))(k:∀b u,b≠x->s.heap.get? b=some u->h'.get? b=some u)(heo:∃u,h'.get? x=some u)(hp:s.heap.objs.size<=dx)
  (n1:i7 X.prog X.w (upd (upd H x o) dx o2) h' x o) (n2:i7 X.prog X.w (upd (upd H x o) dx o2) h' dx o2):Inv X pins σ (upd (upd H x o) dx o2) {s with heap:=h',toks:=t'}:=by
 have hn:=I.gZ.fresh hp;have nx:∀b,H b=none->b≠x:=λb n z=>by subst z;rw[n]at mu;exact mu
 have nd:∀b u,s.heap.get? b=some u->b≠dx:=λb u e=>a9 (aS (aZ e) hp);have nm:∀b u,H b=some u->¬Tc (some u)->b≠x:=λb u q z e=>by subst e;rw[q]at mu;exact z mu
 have up:∀b u,H b=some u->¬Tc (some u)->upd (upd H x o) dx o2 b=some u:=λb u q z=>by rw[eY (ft q hn),eY (nm b u q z)];exact q
 have un:Un X.fs [] H (upd (upd H x o) dx o2) s.heap h':=by
  refine⟨λb u q n _ _=>k b u (nx b n) q,λb u q n _ _=>⟨u.slots,k b u (nx b n) q⟩,λb u q n _=>by rw[eY (nd b u q),eY (nx b n)];exact n,λb u q _=>?_,
   λb xs q=>up b _ q λz=>z,λb u xs q=>up b _ q λz=>z,λb ps q=>⟨#[],by rw[up b _ q λz=>z];simp⟩⟩
  by_cases hb:b=x
  .subst hb;exact heo
  exact⟨u,k b u hb q⟩
 refine I.un un λb u q=>?_;by_cases hb:b=dx
 .subst hb;rw[eV]at q;cases q;exact n2
 rw[eY hb]at q;by_cases hc:b=x
 .subst hc;rw[eV]at q;cases q;exact n1
 rw[eY hc]at q;refine(I.gZ b u q).Eg (λc v hv r=>k c v ?_ r) (λc r=>up c _ r λz=>z) λc xs r=>up c _ r λz=>z;rcases hv with z|z
 .rw[z];exact hc
 exact nm c _ z λz=>z
end
section
variable{X:Cx}{pins:List (Addr×Obj)}{σ:L2.St}{H:Hp}{s:Shared}{C N a t dx:Addr}{fs:List (Str×V)}{name:Str}{y:V}{u:Value}{A:Around}{E:Value->Shared->Prop}{Q:Unit->Shared->Prop}
def Pj(I:Inv X pins σ H s)(c:mZ X.K C N)(hna:nsIn X.K N name=some none)(hB:typeLookup (.type "Exception") name=pure none)(e:H a=some (xA C none t a))(ry:RelV y u)
  (h:∀s' dx,H dx=none->dx≠a->Inv X pins σ (upd (upd H a (xA C (some dx) t a)) dx (xD [(name,y)] dx)) s'->Q () s'):wpAny (model X.prog X.w) A (setAttr (.ref a) name u) Q E s:=by
 obtain⟨_,_,_,_,_,_,_,_,_,_,_,_,_,lk⟩:=c.at_;have hC:=I.pS _ _ lk;have ho:=E0 I.gZ e;have n1:=ck I.pS c.ns c.sa;have n2:=ck I.pS c.ns hna;have nN:s.heap.Ns N (s.heap.nsMap N):=.of_isNs (isNs_of_in I.pS c.ns);have nad:=a9 (aZ ho);obtain⟨hh,g,d,tk,os⟩:=s;refine NJ SE hC nN n1 n2 hB ho rfl rfl (λc z=>by cases z) λh' tk' gx nd kp=>h _ _ (I.gZ.fresh (aH _)) nad.symm ?_;refine Ek I (by rw[e];exact True.intro) kp ⟨_,gx⟩ (aH _) (Tx gx) (Tz nd (λf=>?_) λf hf=>?_)
 .by_cases z:f=name
  .subst z;simp[List.lookup,sE,ry]
  rw[ag z,c7];have zz:(f==name)=false:=by simpa using z
  rw[zz];exact True.intro
 by_cases z:f=name
 .subst z;simp
 exact absurd (by rw[ag z]) hf
def NK(I:Inv X pins σ H s)(c:mZ X.K C N)(hna:nsIn X.K N name=some none)(hB:typeLookup (.type "Exception") name=pure none)(e:H a=some (xA C (some dx) t a))(ed:H dx=some (xD fs dx))(hl:fs.length<1000)(ry:RelV y u)
  (h:∀s',Inv X pins σ (upd H dx (xD (gw name y fs) dx)) s'->Q () s') (hac:a≠C):wpAny (model X.prog X.w) A (setAttr (.ref a) name u) Q E s:=by
 obtain⟨_,q,_,_,_,_,_,_,_,_,_,_,_,lk⟩:=c.at_;have hC:=I.pS _ _ lk;have ho:=E0 I.gZ e;obtain⟨mA,nA,rA,wA⟩:=TB I.gZ ed;have n1:=ck I.pS c.ns c.sa;have n2:=ck I.pS c.ns hna;have nN:s.heap.Ns N (s.heap.nsMap N):=.of_isNs (isNs_of_in I.pS c.ns)
 have hda:dx≠a:=λz=>by
  obtain⟨_,_,_,e1,e2,_⟩:=nA;rw[z,ho]at e1;cases e1;cases e2
 have hz:(fs.map (·.1)).length<=sizeLine:=by rw[aw,sizeLine_eq];omega
 obtain⟨hh,g,d,tk,os⟩:=s;refine store_attr SE hC nN n1 n2 hB hac ⟨_,ho,rfl,(λc z=>by cases z),.inr ⟨dx,rfl,hda,nA⟩⟩ (λh' tk' I' kp same=>h _ ?_) wA hz;obtain⟨o1,g1,c1,d1,s1,x1⟩:=same _ ho
 have e1:o1=xo C (some dx) t .none .none .none (.bool false):=by
  have x2:=x1 dx rfl;obtain⟨_,_,_,_⟩:=o1;cases c1;cases d1;cases s1;cases x2;rfl
 subst e1;obtain⟨o,gx,_,_,hd⟩:=I';rw[g1]at gx;cases gx
 have nd:h'.Ns1 dx (λz=>if z=name then some u else mA z):=by
  rcases hd with⟨z,_⟩|⟨d2,z,_,n⟩
  .cases z
  cases z;exact n
 refine I.write (by rw[ed];exact True.intro) (.inl rfl) (λb v hb z=>?_) (let⟨o,_,_,e,_⟩:=nd;⟨o,e⟩) (Tz nd (λf=>?_) λf hf=>?_)
 .by_cases ba:b=a
  .subst ba;have z':=z;rw[ho]at z';cases z';exact g1
  refine kp b v ba (λo0 d0 w1 w2=>?_) z;rw[ho]at w1;cases w1;cases w2;exact hb
 .rw[vf];by_cases z:f=name
  .rw[ak z,ak z];exact ry
  rw[ag z,ag z];exact rA f
 by_cases z:f=name
 .rw[z];exact(sL name y fs).1
 refine(sL name y fs).2 f (wA f λq=>hf ?_);rw[ag z];exact q
inductive Pk(C:Addr)(f:Str)(D:Ends)(σ:L2.St)(y:V)(x:V)(H2:Hp):Prop
 |mk:∀a t,(x=.ref a)->(H2 a=some (xA C none t a))->(∀dx,H2 dx=none->dx≠a->D.nx σ (upd (upd H2 a (xA C (some dx) t a)) dx (xD [(f,y)] dx)))->Pk C f D σ y x H2
def W9(C:Addr)(ta tv:TE)(f:Str):TS:=λD σ H=>tv σ H λy H1=>ta σ H1 λx H2=>Pk C f D σ y x H2
inductive Ls(C:Addr)(f:Str)(D:Ends)(σ:L2.St)(y:V)(x:V)(H2:Hp):Prop
 |mk:∀a t dx fs,(x=.ref a)->(H2 a=some (xA C (some dx) t a))->(H2 dx=some (xD fs dx))->(fs.length<1000)->(D.nx σ (upd H2 dx (xD (gw f y fs) dx)))->Ls C f D σ y x H2
def U5(C:Addr)(ta tv:TE)(f:Str):TS:=λD σ H=>tv σ H λy H1=>ta σ H1 λx H2=>Ls C f D σ y x H2
variable{ob value:Expr}{pos pos':Pos}{ta tv:TE}
def R9(c:mZ X.K C N)(hna:nsIn X.K N name=some none)(hB:typeLookup (.type "Exception") name=pure none)(ha:PE X ob ta)(hv:PE X value tv)
  (hs:swapsWith value (some (.Attribute ob name pos')) pos.line X.env=pure false):PS X (.Assign [.Attribute ob name pos'] value pos) (W9 C ta tv name):=by
 intro pins s σ H D I h;refine cE (iO (hv pins s σ H _ I h) λu s1⟨y,H1,I1,ry,q⟩=>iO (ha pins s1 σ H1 _ I1 q) λov s2⟨x,H2,I2,rx,a,t,ex,ea,q2⟩=>?_) hs;subst ex;obtain rfl:ov=Value.ref a:=rx;exact Pj I2 c hna hB ea ry λs3 dx n1 n2 I3=>⟨σ,_,I3,q2 dx n1 n2⟩
def Pl(c:mZ X.K C N)(hna:nsIn X.K N name=some none)(hB:typeLookup (.type "Exception") name=pure none)(ha:PE X ob ta)(hv:PE X value tv)
  (hs:swapsWith value (some (.Attribute ob name pos')) pos.line X.env=pure false):PS X (.Assign [.Attribute ob name pos'] value pos) (U5 C ta tv name):=by
 intro pins s σ H D I h;refine cE (iO (hv pins s σ H _ I h) λu s1⟨y,H1,I1,ry,q⟩=>iO (ha pins s1 σ H1 _ I1 q) λov s2⟨x,H2,I2,rx,a,t,dx,fs,ex,ea,ed,hl,q2⟩=>?_) hs;subst ex;obtain rfl:ov=Value.ref a:=rx;refine NK I2 c hna hB ea ed hl ry (λs3 I3=>⟨σ,_,I3,q2⟩) λz=>?_;obtain⟨_,_,_,_,_,_,_,_,_,_,_,_,_,lk⟩:=c.at_;have e1:=I2.pS _ _ lk;rw[<-z,E0 I2.gZ ea]at e1;cases e1
end
section
variable{M:Model}{A:Around}{E:Value->Shared->Prop}{env:Env}{s:Shared}
variable{nm q:Str}{C N:Addr}{bs:List Value}{hdct:Bool}{sn:List Str}{sub:List Value}{ab:Bool}{col:Option Bool}{dd:Option Addr}{k0 k1 k2 k3 k5:Option Value}{newId:String}
def C0(hh:A.handled=none)
  (h:wpAny M A x (λv s1=>∃e t od,v=.ref e/\s1.heap.get? C=some (excClassObj nm q C N bs JY hdct sn sub ab col dd k0 k1 k2 k3 k5 newId)/\s1.heap.get? e=some (xo C od t .none .none .none (.bool false))/\E (.ref e) s1) E s):
  wpAny M A (raiseStmt env (some x) none) Q E s:=by
 have XU:(Value.ref C::JY).contains (.type "BaseException")=true:=by simp
 refine af (bp h (λv s1 h1=>?_) λ_ _ x=>x);obtain⟨e,t,od,rfl,hC,he,hE⟩:=h1;obtain _:=s1
 repeat (first|with_reducible refine aU he ?_|with_reducible refine aU hC ?_|(with_reducible refine b5 hC ?_;rw[XU])|wp_step)
 exact wpAny_raiseNew_none hh hE
end
noncomputable def del(H:Hp)(a:Addr):Hp:=λb=>if b=a then none else H b
def vq:del H a a=none:=by unfold del;rw[ak rfl]
def xW(n:b≠a):del H a b=H b:=by unfold del;rw[ag n]
section
variable{X:Cx}{pins:List (Addr×Obj)}{σ:L2.St}{H:Hp}{s:Shared}{a:Addr}
def Lu(I:Inv X pins σ H s)(e:H a=some (.ext φ)):Inv X pins σ (del H a) s:=by
 have up:∀b u,H b=some u->(∀φ,u≠.ext φ)->del H a b=some u:=λb u q n=>by
  rw[xW λz=>?_];exact q;subst z;rw[e]at q;exact n φ (ao q).symm
 have un:Un X.fs [] H (del H a) s.heap s.heap:=⟨λ_ _ q _ _ _=>q,λ_ u q _ _ _=>⟨u.slots,q⟩,λb u q n _=>by
  by_cases z:b=a
  .rw[z];exact vq
  rw[xW z];exact n,λ_ u q _=>⟨u,q⟩,λb xs q=>up b _ q (λφ z=>by cases z),λb o u q=>up b _ q (λφ z=>by cases z),λb ps q=>⟨#[],by rw[up b _ q λφ z=>by cases z];simp⟩⟩
 refine I.un un λb u q=>?_;by_cases z:b=a
 .rw[z,vq]at q;cases q
 rw[xW z]at q;exact(I.gZ b u q).Eg (λ_ _ _ r=>r) (λc r=>up c _ r λφ z=>by cases z) λc xs r=>up c _ r (λφ z=>by cases z)
end
structure AV(k:Nat)(A:Around):Prop where
 dp:A.depth+3*k+5<recursionLimit
 un:A.units+16*k+200<cLine
def TC(r:jJ k A):AV k A:=⟨r.dp,r.un⟩
def AV.make(r:AV (k+1) A)(C:Addr)(us:List Value):AV k (A.under (.builtin "type.__call__" ⟨.ref C::us,[]⟩)):=
 ⟨by have:=r.dp;rw[CI];omega,by have:=r.un;rw[CJ];omega⟩
structure C1(P:Program)(w:World)(K:Frag)(mg:Str->Option Value)(base:Heap)(CX:Rr)(k:Nat)(f:Addr)(fd:FuncData)(ps:List Str)(sp:Sp):Prop where
 len:∀vs H Q E,sp vs H Q E->vs.length=ps.length
 run:∀(A:Around)(outer:List Env)(s:Shared)(H:Hp)(args:Args)(us:List Value)(vs:List V)(Q:VK)(E:XK),AV k A->Hn P w K mg base A outer s H->BindsTo s fd args (ps.zip us)->Vals vs us->sp vs H Q E->
  codeAny (model P w) A (.call (.ref f) args) (CR CX outer P w H s Q E) s
noncomputable abbrev JZ(X:Cx):Cx:={X with calm:=false}
theorem U6{K:Frag}{st:Stmt}(F:W5 K x qual st f fd)(S:fh N ps (eZ st))
  (len:∀vs H Q E,sp vs H Q E->vs.length=ps.length)
  (hbody:∀(cdv:Value)(A:Around)(outer:List Env)(s:Shared)(H:Hp)(vs:List V)(Q:VK)(E:XK),sp vs H Q E->
   ∃t,Hg (JZ (nS CX P w K mg base N qual (eZ st) f cdv A outer s H E)) (pT st) t/\t {nx:=λ_ H'=>Q .hJ H',rt:=Q} (start N vs) H):
  C1 P w K mg base CX (k+1) f fd ps sp:=by
 obtain⟨_,_,_,_,_,_,cdv,_,_,rfl,lk,hcd⟩:=F.ex;refine⟨len,λA outer s H args us vs Q E hr e0 hb r hsp=>?_⟩;have hl:=len _ _ _ _ hsp;have KX:=e0.mod.Td.keeps λb o e=>(e0.bs b o e).1;have lim:=e0.mod.nolimit.keeps λb o e=>(e0.bs b o e).1
 have Q7:∀y∈ps.zip us,(eZ st).names.lookup y.1=some .local\/((eZ st).names.lookup y.1=some .cell/\((cellsFrom (s.heap.objs.size+1) (eZ st).names []).lookup y.1).isSome=true):=λ⟨n,v⟩ hy=>by
  rcases S.par n (of_mem_zip hy).1 with q|q
  .exact .inl q
  exact .inr ⟨q,cellsFrom_some _ _ _ (.inl q)⟩
 refine codeAny_call_function (by have:=hr.dp;omega) (KX _ _ lk) rfl S.co S.gen rfl (codeRec_of KX hcd) (hb _ _ _ _ ?_);refine wpAny_newFunctionEnv_cells S.kind Q7 λenv he s1 x=>?_;subst he;refine⟨lim.keeps x.toInCall.keep,codeAny_func ?_⟩;obtain⟨t,ht,hq⟩:=hbody cdv A outer s H vs Q E hsp
 have I0:Inv (nS CX P w K mg base N qual (eZ st) f cdv {A with handled:=none} outer s H E) [] (start N vs) H s1:=
  ET S rfl ⟨e0.frames,e0.mod,e0.bs,e0.JG,e0.u7,e0.Ox,e0.gZ,e0.bare⟩ hl r x
 have I:Inv (JZ (nS CX P w K mg base N qual (eZ st) f cdv A outer s H E)) [] (start N vs) H s1:=
  ⟨⟨I0.ok.mod,I0.ok.kind,I0.ok.glob,I0.ok.blt,I0.ok.above,I0.ok.inj,I0.ok.has,I0.ok.RH,(λz=>by cases z),Around.frames_deeper e0.frames,I0.ok.Te,I0.ok.Tf,I0.ok.bs,I0.ok.JG,I0.ok.FO,I0.ok.FP,I0.ok.u7,I0.ok.Ox⟩,
   I0.os,I0.bare,I0.base,I0.loc,I0.cell,I0.free,I0.pD,I0.pin,I0.gZ,I0.len⟩
 refine bp (ht [] s1 (start N vs) H _ I hq) (λfl s' hs=>?_) λe s' hs=>hs
 have fin:∀{σ':L2.St}{H':Hp}{v:V}{u:Value},Inv (JZ (nS CX P w K mg base N qual (eZ st) f cdv A outer s H E)) [] σ' H' s'->RelV v u->Q v H'->CE outer P w H s Q u s':=
  λ{σ' H' v u} J rv q=>⟨v,H',J.os,J.bare,J.base,J.gZ,rv,q⟩
 cases fl with
 |ret u=>obtain⟨v,σ',H',J,rv,q⟩:=hs;exact fin J rv q
 |next=>obtain⟨σ',H',J,q⟩:=hs;exact fin (v:=V.hJ) (u:=Value.none) J rfl q
 |brk=>obtain⟨_,_,_,q⟩:=hs;exact q.elim
 |cont=>obtain⟨_,_,_,q⟩:=hs;exact q.elim
inductive HJ(C:Addr)(f1:Str)(f2:Str)(vs:List V)(H:Hp)(Q:VK)(u1:XK):Prop
 |mk:∀(a t:Addr)(x y:V),vs=[.ref a,x,y]->H a=some (xA C none t a)->(∀dx,H dx=none->dx≠a->Q .hJ (upd (upd (upd H a (xA C (some dx) t a)) dx (xD [(f1,x)] dx)) dx (xD (gw f2 y [(f1,x)]) dx)))->HJ C f1 f2 vs H Q u1
def TF{K:Frag}{st:Stmt}(F:W5 K "__init__" qual st f fd)
  (S:fh ["self",p1,p2] ["self",p1,p2] (eZ st)) (c:mZ K C N) (h1:nsIn K N f1=some none) (h2:nsIn K N f2=some none) (g1:typeLookup (.type "Exception") f1=pure none) (g2:typeLookup (.type "Exception") f2=pure none)
  (hb:pT st=[.Assign [.Attribute (.Name "self" a1) f1 a2] (.Name p1 a3) a4,.Assign [.Attribute (.Name "self" b1) f2 b2] (.Name p2 b3) b4])
  (d1:(p1==("__debug__":Str))=false) (d2:(p1==("__classdict__":Str))=false) (d3:(p2==("__debug__":Str))=false) (d4:(p2==("__classdict__":Str))=false):
  C1 P w K mg base CX (k+1) f fd ["self",p1,p2] (HJ C f1 f2):=by
 have vis:∀x∈(["self",p1,p2]:List Str),RG (eZ st) x:=λx m=>by
  rcases S.par x m with z|z
  .exact .inl z
  exact .inr (.inl z)
 refine U6 F S (λvs H Q E h=>?_) λcdv A outer s H vs Q E h=>?_
 .obtain⟨a,t,x,y,rfl,_⟩:=h;rfl
 obtain⟨a,t,x,y,rfl,e,k⟩:=h;rw[hb];refine⟨_,eW (R9 c h1 g1 (Ad (i:=0) rfl (vis _ (by simp))) (Ad (i:=1) rfl (vis _ (by simp)) d1 d2) rfl) (ff (Pl c h2 g2 (Ad (i:=0) rfl (vis _ (by simp))) (Ad (i:=2) rfl (vis _ (by simp)) d3 d4) rfl)),?_⟩;refine⟨x,rfl,.ref a,rfl,a,t,rfl,e,λdx n1 n2=>?_⟩;refine⟨y,rfl,.ref a,rfl,a,t,dx,_,rfl,by rw[eY (aW n2),eV],eV,by show 1<1000;decide,k dx n1 n2⟩
section
variable{X:Cx}{pl:Value->Prop}{k:Nat}{f C N:Addr}{fd:FuncData}{ps:List Str}{f1 f2 x:Str}{p l0 pos:Pos}{e:Expr}{es:List Expr}{t:TA}{E:XK}{pins:List (Addr×Obj)}{σ:L2.St}{H:Hp}{s:Shared}
theorem E1{G:V->V->Hp->Prop}{Q:Value->Shared->Prop}(c:mZ X.K C N)(hi:findIn X.K (.ref C) "__init__"=some (some (.ref f)))(hf:typeIn X.K (.ref f)=some (.type "function"))
  (F:C1 X.prog X.w X.K X.mg X.base (vd X.prog X.w pl) k f fd ps (HJ C f1 f2)) (hr:AV (k+1) X.A) (hg:Gl X x) (hm:X.mg x=some (.ref C)) (hb:Binds X.K fd ps []) (ha:PA X (e::es) t)
  (I:Inv X pins σ H s) (h:t σ H λvs H1=>∃y z,vs=[y,z]/\G y z H1)
  (q:∀a tt dx y z H1 H2 s',Inv X pins σ H2 s'->H2 a=some (xA C (some dx) tt a)->H2 dx=some (xD (gw f2 z [(f1,y)]) dx)->dx≠a->(∀b o,H1 b=some o->H2 b=some o/\b≠a)->(∀H',H' a=none->jX X pins H' a)->G y z H1->Q (.ref a) s')
  (hdb:(x==("__debug__":Str))=false:=by decide) (he:starEach (e::es) X.env=(false,eval e X.env)::starEach es X.env:=by rfl) (hpl:(backTo l0 (starEach es X.env)).any (·.1)=false:=by rfl):
  wpAny (model X.prog X.w) X.A (eval (.Call (.Name x p) (e::es) [] l0) X.env) Q X.xe s:=by
 refine bw (oJ I hg hm ?_ hdb);refine callWith_K (h₀:=X.base) I.ok.mod.Td c.kp (iO (ha l0 pins s σ H _ I h) λus s1⟨vs,H1,I1,r,y,z,ev,hG⟩=>⟨I1.pS,?_⟩) he hpl;subst ev;have hul:us.length<=sizeLine:=by rw[<-r.length];show 2<=sizeLine;decide
 have Ia:Inv X pins σ H1 {s1 with heap:=s1.heap.push {cls:=.type "tuple",data:=.seq us.toArray}}:=I1.kept (t':=s1.toks) λb u e=>ax _ e;have hz:(s1.heap.push {cls:=.type "tuple",data:=.seq us.toArray}).objs.size=s1.heap.objs.size+1:=b8 _ _
 have Ib:Inv X pins σ (upd H1 (s1.heap.objs.size+1) (xA C none s1.heap.objs.size (s1.heap.objs.size+1)))
   {s1 with heap:=(s1.heap.push {cls:=.type "tuple",data:=.seq us.toArray}).push (xo C none s1.heap.objs.size .none .none .none (.bool false))}:=by
  refine Ia.laid (t':=s1.toks) (λb u e=>ax _ e) (by rw[hz];exact aH _) (Tx ?_);exact Heap.get?_push_at (by rw[hz]) rfl
 have hn:H1 (s1.heap.objs.size+1)=none:=I1.gZ.fresh (le_succ _)
 have sp:HJ C f1 f2 [.ref (s1.heap.objs.size+1),y,z] (upd H1 (s1.heap.objs.size+1) (xA C none s1.heap.objs.size (s1.heap.objs.size+1)))
   (λv H2=>v=.hJ/\∃dx,H2 (s1.heap.objs.size+1)=some (xA C (some dx) s1.heap.objs.size (s1.heap.objs.size+1))/\H2 dx=some (xD (gw f2 z [(f1,y)]) dx)/\dx≠s1.heap.objs.size+1/\∀b o,H1 b=some o->H2 b=some o/\b≠s1.heap.objs.size+1)
   (λ_ _ _=>False):=by
  refine⟨_,_,y,z,rfl,eV,λdx n1 n2=>⟨rfl,dx,?_,eV,n2,λb o e=>?_⟩⟩
  .rw[eY (aW n2),eY (aW n2),eV]
  have nb:b≠s1.heap.objs.size+1:=ft e hn
  have nd:b≠dx:=by
   rw[eY n2]at n1;exact ft e n1
  exact⟨by rw[eY nd,eY nd,eY nb,eY nb];exact e,nb⟩
 have r2:Vals (V.ref (s1.heap.objs.size+1)::[y,z]) (Value.ref (s1.heap.objs.size+1)::us):=.cons rfl r
 have hl:(Value.ref (s1.heap.objs.size+1)::us++[]).length=ps.length:=by
  rw[bK,<-r2.length];exact F.len _ _ _ _ sp
 refine wpAny_call (W8 I1.pS c hi hf hul (di (F.run _ X.stack _ _ ⟨Value.ref (s1.heap.objs.size+1)::us,[]⟩ (Value.ref (s1.heap.objs.size+1)::us) _ _ _ (hr.make C us)
  (Ib.RO.make C us []) (by have:=hb _ (Value.ref (s1.heap.objs.size+1)::us) Ib.pS hl;rwa [bK]at this) r2 sp) λrr s' hq=>?_))
 cases rr with
 |error e=>exact(An hq).elim
 |ok fl=>
  cases fl with
  |ret u=>
   obtain⟨v,H',I3,rv,ev,dx,e1,e2,e3,e4⟩:=Ib.after hq;subst ev;exact⟨rv,q _ _ dx y z H1 H' s' I3 e1 e2 e3 e4 (λH'' Vp=>kb I1 (le_succ _) Vp) hG⟩
  |next=>exact False.elim hq
  |brk=>exact False.elim hq
  |cont=>exact False.elim hq
def Ge(C:Addr)(f1 f2:Str)(E:XK)(t:TA):TS:=λ_ σ H=>t σ H λvs H1=>∃y z,vs=[y,z]/\∀dx H2,H2 dx=some (xD (gw f2 z [(f1,y)]) dx)->(∀b o,H1 b=some o->H2 b=some o)->E (.ref C) (some dx) H2
def NL(R:Rz pl X E)(hcm:X.calm=true)(c:mZ X.K C N)(hi:findIn X.K (.ref C) "__init__"=some (some (.ref f)))(hf:typeIn X.K (.ref f)=some (.type "function"))
  (F:C1 X.prog X.w X.K X.mg X.base (vd X.prog X.w pl) k f fd ps (HJ C f1 f2)) (hr:AV (k+1) X.A) (hg:Gl X x) (hm:X.mg x=some (.ref C)) (hb:Binds X.K fd ps []) (ha:PA X (e::es) t)
  (hdb:(x==("__debug__":Str))=false:=by decide) (he:starEach (e::es) X.env=(false,eval e X.env)::starEach es X.env:=by rfl) (hpl:(backTo l0 (starEach es X.env)).any (·.1)=false:=by rfl):
  PS X (.Raise (some (.Call (.Name x p) (e::es) [] l0)) none pos) (Ge C f1 f2 E t):=by
 intro pins s σ H D I h;obtain⟨nm,q,bs,sn,sub,ab,col,dd,k0,k1,k2,k3,k5,lk⟩:=c.at_;rw[arm_exec_Raise];refine af (bP (C0 (C:=C) (nm:=nm) (q:=q) (N:=N) (bs:=bs) (hdct:=true) (sn:=sn) (sub:=sub) (ab:=ab) (col:=col) (dd:=dd) (k0:=k0) (k1:=k1) (k2:=k2) (k3:=k3) (k5:=k5) (newId:="Exception.__new__") (I.ok.hd hcm) ?_));show wpAny _ _ (eval (.Call (.Name x p) (e::es) [] l0) X.env>>=λv=>standAt pos>>=λ_=>pure v) _ _ s;refine af (E1 c hi hf F hr hg hm hb ha I h (λa tt dx y z H1 H2 s' I2 ea ed nd kp as hG=>?_) hdb he hpl);refine af (bP (aB ⟨a,tt,some dx,rfl,I2.pS _ _ lk,E0 I2.gZ ea,?_⟩));have I3:=Lu I2 ea;have kk:∀b o,H1 b=some o->del H2 a b=some o:=λb o q=>by rw[xW (kp b o q).2];exact(kp b o q).1
 refine R pins σ (del H2 a) s' a (.ref C) (some dx) .none none .none I3 ⟨_,_,E0 I2.gZ ea,rfl,rfl,rfl,rfl,rfl,rfl⟩ (λ_=>rfl) (as _ vq) (λt m=>by simp at m) (hG dx (del H2 a) (by rw[xW nd];exact ed) kk)
def Lv(C:Addr)(E:XK):TS:=λ_ _ H=>E (.ref C) none H
def E2{Q:Value->Shared->Prop}(c:mZ X.K C N)(hi:findIn X.K (.ref C) "__init__"=some (some (.builtin "Exception.__init__")))(hg:Gl X x)(hm:X.mg x=some (.ref C))(I:Inv X pins σ H s)
  (q:∀a tt s',Inv X pins σ H s'->s'.heap.get? a=some (xo C none tt .none .none .none (.bool false))->(∀H',H' a=none->jX X pins H' a)->H a=none->Q (.ref a) s') (hdb:(x==("__debug__":Str))=false:=by decide):
  wpAny (model X.prog X.w) X.A (eval (.Call (.Name x p) [] [] l0) X.env) Q X.xe s:=by
 obtain⟨nm,qn,bs,sn,sub,ab,col,dd,k0,k1,k2,k3,k5,lk⟩:=c.at_;refine bw (oJ I hg hm ?_ hdb);refine callWith_K0 I.pS c.kp ?_;have I0:=I;obtain⟨hh,g,d,tk,os⟩:=s;refine wpAny_call (HI (vs:=[]) I.pS c hi (λh self _=>PySem.W.Looks.of_pure (HH.init.bind self)) (by decide) ?_);generalize hP:((hh.push {cls:=.type "tuple",data:=.seq ([]:List Value).toArray}).push (xo C none hh.objs.size .none .none .none (.bool false)):Heap)=h2;have k2:∀b o,hh.get? b=some o->h2.get? b=some o:=λb o e=>by rw[<-hP];exact ax _ (ax _ e)
 have hx:h2.get? (hh.objs.size+1)=some (xo C none hh.objs.size .none .none .none (.bool false)):=by rw[<-hP];heap_get
 show codeAny _ _ _ _ ⟨h2,g,d,tk,os⟩;refine U4 HH (k2 _ _ (I.pS _ _ lk)) hx ⟨rfl,?_⟩;have YU:(h2.push {cls:=.type "tuple",data:=.seq ([]:List Value).toArray}).get? (hh.objs.size+1)=some (xo C none hh.objs.size .none .none .none (.bool false)):=ax _ hx;have la:hh.objs.size<=hh.objs.size+1:=le_succ _;refine q (hh.objs.size+1) h2.objs.size _ (I.kept (s:=⟨hh,g,d,tk,os⟩) (t':=tk) λb u e=>?_) ?_ (λH' hn=>kb I0 la hn) (I.gZ.fresh la)
 .have nb:b≠hh.objs.size+1:=a9 (cS (aZ (show hh.get? b=some u from e)));rw[bb _ _ (aW nb)];exact ax _ (k2 b u e)
 exact a8 _ YU rfl
def NM(R:Rz pl X E)(hcm:X.calm=true)(c:mZ X.K C N)(hi:findIn X.K (.ref C) "__init__"=some (some (.builtin "Exception.__init__")))(hg:Gl X x)(hm:X.mg x=some (.ref C))(hdb:(x==("__debug__":Str))=false:=by decide):
  PS X (.Raise (some (.Call (.Name x p) [] [] l0)) none pos) (Lv C E):=by
 intro pins s σ H D I h;obtain⟨nm,q,bs,sn,sub,ab,col,dd,k0,k1,k2,k3,k5,lk⟩:=c.at_;rw[arm_exec_Raise];refine af (bP (C0 (C:=C) (nm:=nm) (q:=q) (N:=N) (bs:=bs) (hdct:=true) (sn:=sn) (sub:=sub) (ab:=ab) (col:=col) (dd:=dd) (k0:=k0) (k1:=k1) (k2:=k2) (k3:=k3) (k5:=k5) (newId:="Exception.__new__") (I.ok.hd hcm) ?_));show wpAny _ _ (eval (.Call (.Name x p) [] [] l0) X.env>>=λv=>standAt pos>>=λ_=>pure v) _ _ s;refine af (E2 c hi hg hm I (λa tt s' I2 ga as hn=>?_) hdb);refine af (bP (aB ⟨a,tt,none,rfl,I2.pS _ _ lk,ga,?_⟩));exact R pins σ H s' a (.ref C) none .none none .none I2 ⟨_,_,ga,rfl,rfl,rfl,rfl,rfl,rfl⟩ (λ_=>rfl) (as _ hn) (λt m=>by simp at m) h
end
section
variable{prog:Program}{w:World}{A:Around}{E:Value->Shared->Prop}{h:Heap}{g:Array GenState}{d:Drawn}{t:Nat}{os:OsState}
variable{nm q:Str}{C N x dx:Addr}{bs:List Value}{sn:List Str}{sub:List Value}{ab:Bool}{col:Option Bool}{dd:Option Addr}{k0 k1 k2 k3 k5:Option Value}{newId B:String}{bm:List Value}{mN mA:Str->Option Value}{name:Str}{v:Value}{o:Obj}
def J0(FB:ExcAttrBase B bm)(hC:h.get? C=some (excClassObj nm q C N bs bm true sn sub ab col dd k0 k1 k2 k3 k5 newId))(hn:h.Ns N mN)(hna:mN name=none)
  (hB:typeLookup (.type B) name=pure none) (hx:h.get? x=some o) (hc:o.cls=.ref C) (hnc:∀c,o.data≠.cls c) (hd:o.dict=some dx) (hns:h.Ns1 dx mA) (hv:mA name=some v) (hq:Q (.done (.ret v)) ⟨h,g,d,t,os⟩):
  wpAny (model prog w) A (Builtin.«object.__getattribute__» ⟨[.ref x,.str name tk],[]⟩) Q E ⟨h,g,d,t,os⟩:=by
 repeat (first|(with_reducible refine aU hx ?_;rw[hc])|(with_reducible refine cz hC hn FB.mro hB ?_;rw[hna])|wp_step)
 split
 .rename_i c z;exact absurd z (hnc c)
 repeat (first|(with_reducible refine aU hx ?_;rw[hc])|with_reducible refine aU hC ?_|wp_step)
 rw[hd]
 repeat (first|(with_reducible refine wpAny_nsGet hns.ns ?_;rw[hv])|wp_step)
 exact hq
def J1(FB:ExcAttrBase B bm)(hC:h.get? C=some (excClassObj nm q C N bs bm true sn sub ab col dd k0 k1 k2 k3 k5 newId))
  (hx:h.get? x=some o) (hc:o.cls=.ref C) (hq:Q () ⟨h,g,d,t,os⟩):wpAny M A (checkBuiltinCall "BaseException.__getattribute__" ⟨[.ref x,ach],[]⟩) Q E ⟨h,g,d,t,os⟩:=by
 have hk:builtinKind "BaseException.__getattribute__"=some .slot:=by decide+kernel
 have hs:splitId "BaseException.__getattribute__"=some ("BaseException","__getattribute__"):=by decide+kernel
 have XU:(Value.ref C::bm).contains (.type "BaseException")=true:=by rw[contains_cons,FB.hasBase,Bool.or_true]
 simp only[checkBuiltinCall,hk,hs];refine af ?_
 repeat (first|(with_reducible refine aU hx ?_;rw[hc])|(with_reducible refine b5 hC ?_;rw[XU])|wp_step)
 exact hq
def ZO(FB:ExcAttrBase B bm)(hC:h.get? C=some (excClassObj nm q C N bs bm true sn sub ab col dd k0 k1 k2 k3 k5 newId))(hn:h.Ns N mN)(hna:mN name=none)(hng:mN "__getattribute__"=none)(hnh:mN "__getattr__"=none)
  (hB:typeLookup (.type B) name=pure none) (hx:h.get? x=some o) (hc:o.cls=.ref C) (hnc:∀c,o.data≠.cls c) (hd:o.dict=some dx) (hns:h.Ns1 dx mA) (hv:mA name=some v) (hh:handedOut v=pure v) (hq:Q v ⟨h,g,d,t+1,os⟩):
  wpAny (model prog w) A (getAttr (.ref x) name expr) Q E ⟨h,g,d,t,os⟩:=by
 have f3:=FB.ga.bind (.ref x);have hx0:(expr&&onTheHeap (Value.builtin "BaseException.__getattribute__"))=false:=by cases expr<;>rfl
 have hx2:(Value.builtin "BaseException.__getattribute__"==Value.builtin "object.__getattribute__")=false:=by decide+kernel
 have hx1:(onTheHeap (Value.ref C)&&Value.builtin "BaseException.__getattribute__"==Value.builtin "object.__getattribute__")=false:=by rw[hx2];rfl
 unfold getAttr
 repeat (any_goals (first|assumption|(with_reducible refine aU hx ?_;rw[hc])|(with_reducible refine cz hC hn FB.mro FB.ga.lookup ?_;rw[hng])|(with_reducible refine cz hC hn FB.mro FB.noGetattr ?_;rw[hnh])|wp_step))
 refine codeAny_call_builtin FB.ga.plain F.entry_bexc_ga (J1 FB hC hx hc (J0 FB hC hn hna hB hx hc hnc hd hns hv ?_));show wpAny _ _ (handedOut v) _ _ _;rw[hh];exact aB hq
end
section
variable{M:Model}{A:Around}{E:Value->Shared->Prop}{h:Heap}{g:Array GenState}{d:Drawn}{t:Nat}{os:OsState}
variable{nm q nm' q':Str}{C N D N' e:Addr}{bs bs':List Value}{hdct hdct':Bool}{sn sn':List Str}{sub sub':List Value}{ab ab':Bool}{col col':Option Bool}{dd dd':Option Addr}{k0 k1 k2 k3 k5 j0 j1 j2 j3 j5:Option Value}{newId newId':String}{o:Obj}
def E3(hC:h.get? C=some (excClassObj nm q C N bs JY hdct sn sub ab col dd k0 k1 k2 k3 k5 newId))(hD:h.get? D=some (excClassObj nm' q' D N' bs' JY hdct' sn' sub' ab' col' dd' j0 j1 j2 j3 j5 newId'))
  (he:h.get? e=some o) (hc:o.cls=.ref C) (hq:Q (decide (C=D)) ⟨h,g,d,t,os⟩):wpAny M A (excMatches (.ref e) (.ref D)) Q E ⟨h,g,d,t,os⟩:=by
 have hB:(Value.ref D::JY).contains (.type "BaseException")=true:=by simp
 have hCD:(Value.ref C::JY).contains (.ref D)=decide (C=D):=by
  by_cases z:C=D
  .subst z;simp
  have zz:=aW z;simp[z,zz]
 have f:=tc_notTuple;unfold excMatches
 repeat (first|(with_reducible refine aU he ?_;rw[hc])|with_reducible refine aU hD ?_|(with_reducible refine b5 hD ?_;rw[hB])|(with_reducible refine b5 hC ?_;rw[hCD])|wp_step)
 cases z:decide (C=D)<;>(rw[z]at hq;wp_walk;exact hq)
end
noncomputable abbrev i4(X:Cx)(a:Addr)(oe:Obj)(xe:Value->Shared->Prop):Cx:={X with A:=X.A.mark (some (.ref a)),calm:=false,pn:=(a,oe)::X.pn,xe:=xe}
section
variable{X:Cx}{pins:List (Addr×Obj)}{σ:L2.St}{H:Hp}{s:Shared}{a b:Addr}{oe:Obj}{xe:Value->Shared->Prop}{D:Ends}{f:Flow}
def wu(I:Inv X pins σ H s)(as:jX X pins H a)(e:s.heap.get? a=some oe)(nf:a∉X.fs)(nd:∀v,oe.data≠.cell v):Inv (i4 X a oe xe) pins σ H s:=
 ⟨⟨I.ok.mod,I.ok.kind,I.ok.glob,I.ok.blt,I.ok.above,I.ok.inj,I.ok.has,I.ok.RH,(λz=>by cases z),I.ok.frames,I.ok.Te,I.ok.Tf,I.ok.bs,I.ok.JG,I.ok.FO,I.ok.FP,I.ok.u7,I.ok.Ox⟩,
  I.os,I.bare,I.base,I.loc,I.cell,I.free,I.pD,λp hp=>by
   rcases aA.mp (show p∈(a,oe)::(X.pn++pins)from hp)with z|z
   .subst z;exact⟨e,as.free,as.loc,nf,nd⟩
   exact I.pin p z,I.gZ,I.len⟩
def kU{calm:Bool}(I:Inv (i4 X a oe xe) pins σ H s)(hd:X.calm=true->X.A.handled=none):Inv X pins σ H s:=
 ⟨⟨I.ok.mod,I.ok.kind,I.ok.glob,I.ok.blt,I.ok.above,I.ok.inj,I.ok.has,I.ok.RH,hd,I.ok.frames,I.ok.Te,I.ok.Tf,I.ok.bs,I.ok.JG,I.ok.FO,I.ok.FP,I.ok.u7,I.ok.Ox⟩,
  I.os,I.bare,I.base,I.loc,I.cell,I.free,I.pD,λp hp=>I.pin p (aC _ hp),I.gZ,I.len⟩
def oK(x:jX (i4 X a oe xe) pins H b):jX X pins H b:=⟨x.free,x.new,x.loc,x.cell,λp hp=>x.pin p (aC _ hp)⟩
theorem J2(hd:X.calm=true->X.A.handled=none)(h:SP (i4 X a oe xe) pins D f s):SP X pins D f s:=by
 cases f with
 |next=>obtain⟨σ',H',I,q⟩:=h;exact⟨σ',H',kU (calm:=true) I hd,q⟩
 |brk=>obtain⟨σ',H',I,q⟩:=h;exact⟨σ',H',kU (calm:=true) I hd,q⟩
 |cont=>obtain⟨σ',H',I,q⟩:=h;exact⟨σ',H',kU (calm:=true) I hd,q⟩
 |ret u=>obtain⟨v,σ',H',I,r,q⟩:=h;exact⟨v,σ',H',kU (calm:=true) I hd,r,q⟩
def yL(I:Inv X pins σ H s)(R:Rec s.heap a cls od ctx T fl):a∉X.fs:=λm=>by
 obtain⟨_,_,e,_,_,d,_⟩:=R;obtain⟨_,o,ho,nd⟩:=I.u7.mem m;rw[e]at ho;cases ho;exact nd _ d
end
def U7(X:Cx):Prop:=X.stack=X.env::X.outer/\X.env.frame=some X.env.locals
def Lw(X:Cx)(a:Addr):Value->Shared->Prop:=notedBy (model X.prog X.w) (X.A.mark (some (.ref a))) X.env (cameBackBy (model X.prog X.w) X.A X.env X.xe)
section
variable{X:Cx}{pl:Value->Prop}{E:XK}{pins:List (Addr×Obj)}{σ:L2.St}{H:Hp}{s:Shared}{a b:Addr}{oe:Obj}{cls ctx fl:Value}{od:Option Addr}{T:Option Addr}
def NN(R:Rz pl X E)(I:Inv X pins σ H s)(rc:Rec s.heap b cls od ctx T fl)(hT:T≠none)(hp:pl cls->ctx=.none)(as:jX X pins H b)(aT:∀t∈T.toList,jX X pins H t)(hE:E cls od H):
  cameBackBy (model X.prog X.w) X.A X.env X.xe (.ref b) s:=by
 obtain⟨T0,rfl⟩:∃t,T=some t:=by cases T with|none=>exact absurd rfl hT|some t=>exact⟨t,rfl⟩
 obtain⟨_,_,g1,_,_,g4,_,_,g7,_⟩:=id rc;refine af (bM g1 g4 g7 ?_);rw[ag (show¬((Value.ref T0==Value.none)=true) by simp)]
 have st:wpAny (model X.prog X.w) X.A (setFlight (.ref b) X.env.frame) (λ_ XH=>X.xe (.ref b) XH) X.xe s:=
  mn rc λh' Nc _ Ov t=>R pins σ H {s with heap:=h'} b cls od ctx (some T0) Nc (jB I t aT) Ov hp as aT hE
 first
  |exact af (aB st)
  |exact st
def Pn(tp:U7 X)(hd:X.calm=true->X.A.handled=none)(R:Rz pl X E):Rz pl (i4 X a oe (Lw X a)) E:=by
 intro pins σ H s b cls od ctx T fl I rc hp as aT hE;show wpAny _ _ (noteFrame _ _) _ _ _;have I0:Inv X pins σ H s:=kU (calm:=true) I hd;have fr:(X.A.mark (some (.ref a))).frames=some (X.env::X.outer):=by rw[<-tp.1];exact I.ok.frames
 have fu:s.heap.FunFrames X.base (X.env::X.outer):=by rw[<-tp.1];exact I0.stack
 refine yK fr fu tp.2 rc λh' T' Ov XW lt t=>?_;have t':Turn (Ac X.stack) (b::T.toList) s.heap h':=by rw[tp.1];exact t
 have I1:Inv X pins σ H {s with heap:=h'}:=jB I0 t' λc m=>by
  rcases aA.mp m with z|z
  .subst z;exact oK as
  exact oK (aT c z)
 have Nd:jX X pins H T':=by
  rcases XW with z|z
  .exact oK (aT T' (by rw[z];simp))
  exact kb I0 z (I0.gZ.fresh z)
 exact NN R I1 Ov (by simp) hp (oK as) (λc m=>by
  have e:c=T':=by simpa using m
  subst e;exact Nd) hE
end
noncomputable abbrev TH:=Addr->Option Addr->Ends->L2.St->Hp->Prop
def PH(pl:Value->Prop)(X:Cx)(hs:List ExceptHandler)(t:TH):Prop:=
 ∀(pins:List (Addr×Obj))(s:Shared)(σ:L2.St)(H:Hp)(D:Ends)(a C N:Addr)(od:Option Addr)(ctx:Value)(T:Addr),Inv X pins σ H s->mZ X.K C N->Rec s.heap a (.ref C) od ctx (some T) .none->(pl (.ref C)->ctx=.none)->
  jX X pins H a->jX X pins H T->t C od D σ H->wpAny (model X.prog X.w) X.A (handleBy (.ref a) X.env hs) (SP X pins D) X.xe s
section
variable{X:Cx}{pl:Value->Prop}{E:XK}{x:Str}{np pos:Pos}{D' N':Addr}{b0:Stmt}{body:List Stmt}{rest:List ExceptHandler}{tb:Option Addr->TS}{th:TH}
def J3(R:Rz pl X E):PH pl X [] (λC od _ _ H=>E (.ref C) od H):=by
 intro pins s σ H D a C N od ctx T I c rc hp as aT h
 have Nd:∀t∈(some T).toList,jX X pins H t:=λt m=>by
  have e:t=T:=by simpa using m
  subst e;exact aT
 obtain⟨_,_,g1,_,_,g4,_,_,g7,_⟩:=id rc;refine wpAny_handleBy_nil ?_;refine af (bM g1 g4 g7 ?_);rw[ag (show¬((Value.ref T==Value.none)=true) by simp)]
 have st:∀k:Unit->Sem Flow,(∀s',X.xe (.ref a) s'->wpAny (model X.prog X.w) X.A (k ()) (SP X pins D) X.xe s')->wpAny (model X.prog X.w) X.A (setFlight (.ref a) X.env.frame>>=k) (SP X pins D) X.xe s:=λk hk=>
  af (mn rc λh' Nc _ Ov t=>hk _ (R pins σ H {s with heap:=h'} a (.ref C) od ctx (some T) Nc (jB I t Nd) Ov hp as Nd h))
 first
  |exact af (aB (st _ λs' z=>dJ z))
  |exact st _ λs' z=>dJ z
def yM(c':mZ X.K D' N')(hg:Gl X x)(hm:X.mg x=some (.ref D'))(hb:∀a oe,Hg (i4 X a oe (Lw X a)) (b0::body) (tb oe.dict))(hr:PH pl X rest th)(hd:X.calm=true->X.A.handled=none)(hdb:(x==("__debug__":Str))=false:=by decide):
  PH pl X (.ExceptHandler (some (.Name x np)) none (b0::body) pos::rest) (λC od D σ H=>if C=D' then tb od D σ H else th C od D σ H):=by
 intro pins s σ H D a C N od ctx T I c rc hp as aT h;obtain⟨o,vs,g1,g2,g3,g4,g5,g6,g7,g8,g9⟩:=id rc;have nd:∀v,o.data≠.cell v:=λv z=>by rw[g4]at z;cases z
 obtain⟨nm,q,bs,sn,sub,ab,col,dd,k0,k1,k2,k3,k5,lk⟩:=c.at_;obtain⟨nm',q',bs',sn',sub',ab',col',dd',j0,j1,j2,j3,j5,Rb⟩:=c'.at_;have IS:Inv (i4 X a o (Lw X a)) pins σ H s:=wu I as g1 (yL I rc) nd;refine wpAny_handleBy_cons (codeAny_handlers_test (oJ IS hg hm ?_ hdb)) (by intro z;cases z);have hC:=I.pS _ _ lk;have hD:=I.pS _ _ Rb;obtain⟨hh,gg,dr,tk,os⟩:=s;refine E3 hC hD g1 g2 ?_;by_cases z:C=D'
 .rw[ak z]at h;rw[show(decide (C=D'))=true from cH z];refine codeAny_handlers_suite ?_;refine mn (fs:=Ac X.stack) rc λh' Nc hf Ov t=>?_
  have I1:Inv X pins σ H ⟨h',gg,dr,tk,os⟩:=jB (s:=⟨hh,gg,dr,tk,os⟩) I t λc m=>by
   have e:c=T:=by simpa using m
   subst e;exact aT
  obtain⟨o',vs',f1,f2,f3,f4,f5,f6,f7⟩:=id Ov;have nd':∀v,o'.data≠.cell v:=λv z=>by rw[f4]at z;cases z
  have I2:Inv (i4 X a o' (Lw X a)) pins σ H ⟨h',gg,dr,tk,os⟩:=wu I1 as f1 (yL I1 Ov) nd';refine bp (hb a o' pins _ σ H D I2 (by rw[f3];exact h)) (λf s2 q=>J2 hd q) λe s2 q=>q
 rw[ag z]at h;rw[show(decide (C=D'))=false from aV z];exact hr pins _ σ H D a C N od ctx T I c rc hp as aT h
end
section
variable{X:Cx}{pins:List (Addr×Obj)}{σ:L2.St}{H:Hp}{s:Shared}{h':Heap}{m':Str->Option Value}{t':Nat}
def C2(I:Inv X pins σ H s)(hn:h'.Ns X.env.locals m')(sb:Heap.SameBut X.env.locals s.heap h'):Inv X pins (List.replicate σ.length none) H {s with heap:=h',toks:=t'}:=by
 have ne:∀b o,X.Ee.heap.get? b=some o->b≠X.env.locals:=λb o e=>a9 (aS (aZ e) I.ok.above)
 refine⟨I.ok,I.os,I.bare,⟨λb o e n hb hx=>(sb.2 b (ne b o e)).trans (I.base.keep b o e n hb hx),λb o e n hb hx=>?_,I.base.free,λb o e hx=>?_,I.base.FK,I.base.Eh,I.base.FL⟩,
  ⟨m',hn,λi x v _ e2 _=>?_⟩,λx c e=>?_,I.free,I.pD,λp hp=>?_,λb o e=>?_,by rw[List.length_replicate];exact I.len⟩
 .obtain⟨sl,e1⟩:=I.base.slot b o e n hb hx;exact⟨sl,(sb.2 b (ne b o e)).trans e1⟩
 .obtain⟨o',e1⟩:=I.base.there b o e hx;exact⟨o',(sb.2 b (ne b o e)).trans e1⟩
 .rw[bc]at e2;split at e2<;>cases e2
 .obtain⟨v,o,ho,hd⟩:=I.cell x c e;exact⟨v,o,(sb.2 c (I.Tg x c e)).trans ho,hd⟩
 .obtain⟨e,r⟩:=I.pin p hp;exact⟨(sb.2 _ r.2.1).trans e,r⟩
 have fr:=I.free;refine(I.gZ b o e).Eg (λc v hc q=>(sb.2 c λz=>?_).trans q) (λ_ q=>q) λ_ _ q=>q;subst z;rcases hc with z|z
 .rw[<-z,fr]at e;cases e
 rw[fr]at z;cases z
def ZP(I:Inv X pins σ H s)(hl:X.env.kindOf n=some .local)
  (h:∀s',Inv X pins (List.replicate σ.length none) H s'->Q () s'):wpAny (model X.prog X.w) A (do bindName X.env n .none;unbindBehindTheSuite X.env n pos) Q E s:=by
 obtain⟨m,hn,_⟩:=I.loc;exact wpAny_nameGoes hl hn (by rw[I.ok.kind];rfl) λh' m' Vp sb=>h _ (C2 I Vp sb)
end
def YG(X:Cx)(a:Addr)(n:Str)(pos:Pos):Value->Shared->Prop:=λx s=>AsSuiteRaised (model X.prog X.w) (X.A.mark (some (.ref a))) X.env n pos (Lw X a) x s
section
variable{X:Cx}{pl:Value->Prop}{E:XK}{a:Addr}{oe:Obj}{n:Str}{pos:Pos}
def Po(I:Inv (i4 X a oe xe) pins σ H s):Inv (i4 X a oe xe') pins σ H s:=
 Inv.Nl I xe'
def TJ(tp:U7 X)(hd:X.calm=true->X.A.handled=none)(hl:X.env.kindOf n=some .local)(R:Rz pl X E):Rz pl (i4 X a oe (YG X a n pos)) E:=by
 intro pins σ H s b cls od ctx T fl I rc hp as aT hE;show wpAny _ _ (noteFrame _ _) _ _ _;have I0:Inv X pins σ H s:=kU (calm:=true) I hd;have fr:(X.A.mark (some (.ref a))).frames=some (X.env::X.outer):=by rw[<-tp.1];exact I.ok.frames
 have fu:s.heap.FunFrames X.base (X.env::X.outer):=by rw[<-tp.1];exact I0.stack
 refine yK fr fu tp.2 rc λh' T' Ov XW lt t=>?_;have t':Turn (Ac X.stack) (b::T.toList) s.heap h':=by rw[tp.1];exact t
 have I1:Inv (i4 X a oe (Lw X a)) pins σ H {s with heap:=h'}:=jB (Po I) t' λc m=>by
  rcases aA.mp m with z|z
  .subst z;exact⟨as.free,as.new,as.loc,as.cell,as.pin⟩
  have q:=aT c z;exact⟨q.free,q.new,q.loc,q.cell,q.pin⟩
 have Nd:jX (i4 X a oe (Lw X a)) pins H T':=by
  rcases XW with z|z
  .have q:=aT T' (by rw[z];simp);exact⟨q.free,q.new,q.loc,q.cell,q.pin⟩
  exact kb (Po (xe':=Lw X a) I) z (I.gZ.fresh z)
 have as':jX (i4 X a oe (Lw X a)) pins H b:=⟨as.free,as.new,as.loc,as.cell,as.pin⟩
 have aTl:∀c∈(some T').toList,jX (i4 X a oe (Lw X a)) pins H c:=λc m=>by
  have e:c=T':=by simpa using m
  subst e;exact Nd
 obtain⟨m,hn,_⟩:=I1.loc;refine wpAny_nameGoes hl hn (by rw[show X.env.scope.kind=.function from I.ok.kind];rfl) λh2 m' Vp sb=>?_;have I2:=C2 (t':=s.toks+1) I1 Vp sb
 have YV:Rec h2 b cls od ctx (some T') (rawInt X.env.locals):=by
  obtain⟨o,vs,g1,g2,g3,g4,g5,g6,g7,g8,oT,ts,g9,g10,g11⟩:=Ov;exact⟨o,vs,(sb.2 b as.loc).trans g1,g2,g3,g4,g5,g6,g7,g8,oT,ts,(sb.2 T' Nd.loc).trans g9,g10,g11⟩
 obtain⟨o,vs,g1,g2,g3,g4,g5,g6,g7,g8,g9⟩:=id YV;unfold PySem.passOn;refine af (bM g1 g4 g7 ?_);rw[ag (show¬((Value.ref T'==Value.none)=true) by simp)]
 have st:∀k:Unit->Sem Flow,(∀s',Lw X a (.ref b) s'->wpAny (model X.prog X.w) (X.A.mark (some (.ref a))) (k ()) (λ_ _=>False) (Lw X a) s')->
   wpAny (model X.prog X.w) (X.A.mark (some (.ref a))) (setFlight (.ref b) X.env.frame>>=k) (λ_ _=>False) (Lw X a) {s with heap:=h2,toks:=s.toks+1}:=λk hk=>
  af (mn (s:={s with heap:=h2,toks:=s.toks+1}) (fs:=Ac X.stack) YV λh3 Nc _ rc3 t3=>hk _ (Pn tp hd R pins _ H {s with heap:=h3,toks:=s.toks+1} b cls od ctx (some T') Nc (jB I2 t3 aTl) rc3 hp as' aTl hE))
 first
  |exact af (aB (st _ λs' z=>dJ z))
  |exact st _ λs' z=>dJ z
end
section
variable{X:Cx}{pl:Value->Prop}{E:XK}{x n:Str}{np pos:Pos}{D' N':Addr}{b0:Stmt}{body:List Stmt}{rest:List ExceptHandler}{tb:Addr->Option Addr->TS}{th:TH}{i:Nat}
def Pp(c':mZ X.K D' N')(hg:Gl X x)(hm:X.mg x=some (.ref D'))(hN:X.N.Nodup)(hi:X.N[i]? =some n)(hl:X.env.scope.names.lookup n=some .local)
  (hb:∀a oe vs,oe.cls=.ref D'->oe.data=.fields vs->(pl (.ref D')->vs[2]? =some .none)->Hg (i4 X a oe (YG X a n pos)) (b0::body) (tb a oe.dict)) (hr:PH pl X rest th) (hd:X.calm=true->X.A.handled=none) (hdb:(x==("__debug__":Str))=false:=by decide):
  PH pl X (.ExceptHandler (some (.Name x np)) (some n) (b0::body) pos::rest)
   (λC od D σ H=>if C=D' then∀a,H a=none->tb a od {nx:=λ_ _=>False,rt:=D.rt} (σ.set i (some (.ref a))) H else th C od D σ H):=by
 intro pins s σ H D a C N od ctx T I c rc hp as aT h;obtain⟨o,vs,g1,g2,g3,g4,g5,g6,g7,g8,g9⟩:=id rc;have nd:∀v,o.data≠.cell v:=λv z=>by rw[g4]at z;cases z
 obtain⟨nm,q,bs,sn,sub,ab,col,dd,k0,k1,k2,k3,k5,lk⟩:=c.at_;obtain⟨nm',q',bs',sn',sub',ab',col',dd',j0,j1,j2,j3,j5,Rb⟩:=c'.at_;have IS:Inv (i4 X a o (Lw X a)) pins σ H s:=wu I as g1 (yL I rc) nd;refine wpAny_handleBy_cons (codeAny_handlers_test (oJ IS hg hm ?_ hdb)) (by intro z;cases z);have hC:=I.pS _ _ lk;have hD:=I.pS _ _ Rb;obtain⟨hh,gg,dr,tk,os⟩:=s;refine E3 hC hD g1 g2 ?_;by_cases z:C=D'
 .rw[ak z]at h;rw[show(decide (C=D'))=true from cH z];refine codeAny_handlers_suite_as ?_;refine mn (fs:=Ac X.stack) rc λh' Nc hf Ov t=>?_
  have I1:Inv X pins σ H ⟨h',gg,dr,tk,os⟩:=jB (s:=⟨hh,gg,dr,tk,os⟩) I t λc m=>by
   have e:c=T:=by simpa using m
   subst e;exact aT
  obtain⟨o',vs',f1,f2,f3,f4,f5,f6,f7⟩:=id Ov;have nd':∀v,o'.data≠.cell v:=λv z=>by rw[f4]at z;cases z
  have I2:Inv (i4 X a o' (YG X a n pos)) pins σ H ⟨h',gg,dr,tk,os⟩:=wu I1 as f1 (yL I1 Ov) nd';refine yw (X:=i4 X a o' (YG X a n pos)) (i:=i) (x:=n) (v:=V.ref a) I2 hN hi (Or.inl hl) rfl (λs2 I3=>?_) (.inr hl);have hq:=hb a o' vs' (by rw[f2,z]) f4 (λy=>by rw[<-z]at y;rw[f6,hp y]) pins s2 (σ.set i (some (.ref a))) H {nx:=λ_ _=>False,rt:=D.rt} I3 (by rw[f3];exact h a as.free);refine bp hq (λf s3 q=>?_) λe s3 q=>q;cases f with
  |next=>obtain⟨_,_,_,z⟩:=q;exact z.elim
  |brk=>obtain⟨_,_,_,z⟩:=q;exact z.elim
  |cont=>obtain⟨_,_,_,z⟩:=q;exact z.elim
  |ret u=>
   obtain⟨v,σ',H',I4,r,qq⟩:=q;exact ZP (kU (calm:=true) I4 hd) hl λs5 I5=>⟨v,_,H',I5,r,qq⟩
 rw[ag z]at h;rw[show(decide (C=D'))=false from aV z];exact hr pins _ σ H D a C N od ctx T I c rc hp as aT h
end
def RzS(pl:Value->Prop)(X:Cx)(E:L2.St->XK):Prop:=∀(pins:List (Addr×Obj))(σ:L2.St)(H:Hp)(s:Shared)(a:Addr)(cls:Value)(od:Option Addr)(ctx:Value)(T:Option Addr)(fl:Value),
 Inv X pins σ H s->Rec s.heap a cls od ctx T fl->(pl cls->ctx=.none)->jX X pins H a->(∀t∈T.toList,jX X pins H t)->E σ cls od H->X.xe (.ref a) s
def xeT(X:Cx)(pins:List (Addr×Obj))(D:Ends)(hs:List ExceptHandler):Value->Shared->Prop:=λe s1=>wpAny (model X.prog X.w) X.A (noteFrame e X.env)
 (λ_ s2=>wpAny (model X.prog X.w) X.A (setFlight e none) (λ_ s3=>wpAny (model X.prog X.w) X.A (handleBy e X.env hs) (SP X pins D) X.xe s3) X.xe s2) X.xe s1
noncomputable abbrev Pq(X:Cx)(pins:List (Addr×Obj))(D:Ends)(hs:List ExceptHandler):Cx:={X with pn:=X.pn++pins,xe:=xeT X pins D hs}
noncomputable def ZQ(X:Cx)(th:TH)(D:Ends):L2.St->XK:=λσ cls od H=>∃C N,cls=.ref C/\mZ X.K C N/\th C od D σ H
section
variable{X:Cx}{pl:Value->Prop}{pins Js:List (Addr×Obj)}{D:Ends}{h0:ExceptHandler}{hs:List ExceptHandler}{th:TH}{body:List Stmt}{tb:Ends->TS}{pos:Pos}{σ:L2.St}{H:Hp}{s:Shared}
def sU(I:Inv (Pq X pins D hs) Js σ H s):Inv X pins σ H s:=
 ⟨⟨I.ok.mod,I.ok.kind,I.ok.glob,I.ok.blt,I.ok.above,I.ok.inj,I.ok.has,I.ok.RH,I.ok.hd,I.ok.frames,I.ok.Te,I.ok.Tf,I.ok.bs,I.ok.JG,I.ok.FO,I.ok.FP,I.ok.u7,I.ok.Ox⟩,
  I.os,I.bare,I.base,I.loc,I.cell,I.free,I.pD,λp hp=>I.pin p (dC _ hp),I.gZ,I.len⟩
def Sa(I:Inv X pins σ H s):Inv (Pq X pins D hs) [] σ H s:=
 ⟨⟨I.ok.mod,I.ok.kind,I.ok.glob,I.ok.blt,I.ok.above,I.ok.inj,I.ok.has,I.ok.RH,I.ok.hd,I.ok.frames,I.ok.Te,I.ok.Tf,I.ok.bs,I.ok.JG,I.ok.FO,I.ok.FP,I.ok.u7,I.ok.Ox⟩,
  I.os,I.bare,I.base,I.loc,I.cell,I.free,I.pD,λp hp=>I.pin p (by simpa using hp),I.gZ,I.len⟩
def rh(x:jX (Pq X pins D hs) Js H b):jX X pins H b:=⟨x.free,x.new,x.loc,x.cell,λp hp=>x.pin p (dC _ hp)⟩
def J4(tp:U7 X)(hh:PH pl X hs th):RzS pl (Pq X pins D hs) (ZQ X th D):=by
 intro Js σ H s a cls od ctx T fl I rc hp as aT hE;obtain⟨C,N,rfl,c,h⟩:=hE;have I0:Inv X pins σ H s:=sU I;show wpAny _ _ (noteFrame _ _) _ _ _;have fr:X.A.frames=some (X.env::X.outer):=by rw[<-tp.1];exact I.ok.frames
 have fu:s.heap.FunFrames X.base (X.env::X.outer):=by rw[<-tp.1];exact I0.stack
 refine yK fr fu tp.2 rc λh1 T' rc1 XW lt t=>?_;have t':Turn (Ac X.stack) (a::T.toList) s.heap h1:=by rw[tp.1];exact t
 have I1:Inv X pins σ H {s with heap:=h1}:=jB I0 t' λc m=>by
  rcases aA.mp m with z|z
  .subst z;exact rh as
  exact rh (aT c z)
 have Nd:jX X pins H T':=by
  rcases XW with z|z
  .exact rh (aT T' (by rw[z];simp))
  exact kb I0 z (I0.gZ.fresh z)
 refine mn (s:={s with heap:=h1}) (fo:=none) (fs:=Ac X.stack) rc1 λh2 Nc hf YV t2=>?_
 have I2:Inv X pins σ H {s with heap:=h2}:=jB (s:={s with heap:=h1}) I1 t2 λb m=>by
  have e:b=T':=by simpa using m
  subst e;exact Nd
 have ef:Nc=.none:=hf T' rfl;subst ef;exact hh pins _ σ H D a C N od ctx T' I2 c YV hp (rh as) Nd h
theorem J5(hb:∀pins D,Hg (Pq X pins D (h0::hs)) body (tb D)):PS X (.Try body (h0::hs) [] [] pos) (λD σ H=>tb D D σ H):=by
 intro pins s σ H D I h;refine wpAny_Try_except (bp (hb pins D [] s σ H D (Sa I) h) (λf s1 q=>?_) λe s1 q=>q);cases f with
 |next=>obtain⟨σ',H',I',q⟩:=q;exact dD ⟨σ',H',sU I',q⟩
 |brk=>obtain⟨σ',H',I',q⟩:=q;exact⟨σ',H',sU I',q⟩
 |cont=>obtain⟨σ',H',I',q⟩:=q;exact⟨σ',H',sU I',q⟩
 |ret u=>obtain⟨v,σ',H',I',r,q⟩:=q;exact⟨v,σ',H',sU I',r,q⟩
end
section
variable{X:Cx}{pl:Value->Prop}{k:Nat}{f:Addr}{fd:FuncData}{ps:List Str}{sp:Sp}{E:L2.St->XK}{x:Str}{p pos:Pos}{e:Expr}{es:List Expr}{t:TA}
def U8(sp:Sp)(E:L2.St->XK)(t:TA):TE:=λσ H Q=>t σ H λvs H1=>sp vs H1 Q (E σ)
theorem C3(R:RzS pl X E)(F:vg X.prog X.w X.K X.mg X.base (vd X.prog X.w pl) k f fd ps sp)(hr:jJ k X.A)(hg:Gl X x)(hm:X.mg x=some (.ref f))(hk:keepIn X.K (.ref f)=true)(hb:Binds X.K fd ps [])
  (ha:PA X (e::es) t) (hdb:(x==("__debug__":Str))=false:=by decide) (he:starEach (e::es) X.env=(false,eval e X.env)::starEach es X.env:=by rfl) (hpl:(backTo pos (starEach es X.env)).any (·.1)=false:=by rfl):
  PE X (.Call (.Name x p) (e::es) [] pos) (U8 sp E t):=by
 intro pins s σ H Q I h;refine bw (oJ I hg hm ?_ hdb);refine callWith_K I.ok.mod.Td hk (iO (ha pos pins s σ H _ I h) λus s1⟨vs,H1,I1,r,q⟩=>⟨I1.pS,?_⟩) he hpl;have hl:(us++[]).length=ps.length:=by rw[bK,<-r.length];exact F.len _ _ _ _ q
 refine wpAny_call (di (F.run X.A X.stack s1 H1 ⟨us,[]⟩ us vs Q (E σ) hr I1.RO (by have:=hb s1 us I1.pS hl;rwa [bK]at this) r q) λrr s' hq=>?_);cases rr with
 |error e=>
  obtain⟨a,cls,od,ctx,T,H',rfl,os,bare,un,gZ,rc,hp,la,lT,na,nT,hE⟩:=hq;have I':=I1.OF os un gZ bare λb z=>absurd z (by simp)
  exact R pins σ H' s' a cls od ctx (some T) .none I' rc hp (kb I1 la na) (λt m=>by
   have e:t=T:=by simpa using m
   subst e;exact kb I1 lT nT) hE
 |ok fl=>
  cases fl with
  |ret u=>exact I1.after hq
  |next=>exact False.elim hq
  |brk=>exact False.elim hq
  |cont=>exact False.elim hq
end
def El:entryFor table "proto.unchain"=some Builtin.«proto.unchain»:=entryFor_of_tree (by kernel_rfl)
section
variable{prog:Program}{w:World}{A:Around}{E:Value->Shared->Prop}{env:Env}{s:Shared}{a C N D N':Addr}{oe:Obj}{vs:Array Value}
variable{nm q nm' q':Str}{bs bs':List Value}{hdct hdct':Bool}{sn sn':List Str}{sub sub':List Value}{ab ab':Bool}{col col':Option Bool}{dd dd':Option Addr}{k0 k1 k2 k3 k5 j0 j1 j2 j3 j5:Option Value}{newId newId':String}
def C4{x c:Sem Value}{Q:Flow->Shared->Prop}(hh:A.handled=some (.ref a))
  (h:wpAny (model prog w) A x (λv s1=>∃b t od,v=.ref b/\wpAny (model prog w) A c (λu s2=>u=.ref a/\s2.heap.get? C=some (excClassObj nm q C N bs JY hdct sn sub ab col dd k0 k1 k2 k3 k5 newId)/\s2.heap.get? D=some (excClassObj nm' q' D N' bs' JY hdct' sn' sub' ab' col' dd' j0 j1 j2 j3 j5 newId')/\
   s2.heap.get? b=some (xo C od t .none .none .none (.bool false))/\s2.heap.get? a=some oe/\oe.cls=.ref D/\oe.data=.fields vs/\vs[2]? =some .none/\b≠a/\C≠b/\D≠b/\
   ∀h',h'.get? b=some (xo C od t .none (.ref a) (.ref a) (.bool true))->Turn [] [b] s2.heap h'->E (.ref b) {s2 with heap:=h'}) E s1) E s):
  wpAny (model prog w) A (raiseStmt env (some x) (some c)) Q E s:=by
 have XU:(Value.ref C::JY).contains (.type "BaseException")=true:=by simp
 have XG:(Value.ref D::JY).contains (.type "BaseException")=true:=by simp
 unfold raiseStmt;refine af (bp h (λv s1 h1=>?_) λ_ _ x=>x);obtain⟨b,t,od,rfl,h1⟩:=h1;refine af (b9 (bp h1 (λu s2 h2=>af (aB ?_)) λ_ _ x=>x));obtain⟨rfl,hC,hD,hb,ha,hac,had,Ul,YW,hCb,hDb,hE⟩:=h2;obtain⟨hp,g,d,tk,os⟩:=s2;dsimp only
 repeat (first|with_reducible refine aU hb ?_|(with_reducible refine aU ha ?_;rw[hac])|with_reducible refine aU hC ?_|with_reducible refine aU hD ?_|(with_reducible refine b5 hC ?_;rw[XU])|(with_reducible refine b5 hD ?_;rw[XG])|wp_step)
 have hb:hp.get? b=some (xo C od t .none .none .none (.bool false)):=hb;have ha:hp.get? a=some oe:=ha;have hb1:(hp.update b (Obj.mapFields λx=>x.setIfInBounds 3 (Value.ref a))).get? b=some (xo C od t .none .none (.ref a) (.bool false)):=a8 _ hb rfl;have t1:Turn [] [b] hp (hp.update b (Obj.mapFields λx=>x.setIfInBounds 3 (Value.ref a))):=Turn.one hb rfl;have t2:Turn [] [b] (hp.update b (Obj.mapFields λx=>x.setIfInBounds 3 (Value.ref a))) ((hp.update b (Obj.mapFields λx=>x.setIfInBounds 3 (Value.ref a))).update b (Obj.mapFields λx=>x.setIfInBounds 4 (Value.bool true))):=Turn.one hb1 rfl;have YX:((hp.update b (Obj.mapFields λx=>x.setIfInBounds 3 (Value.ref a))).update b (Obj.mapFields λx=>x.setIfInBounds 4 (Value.bool true))).get? b=some (xo C od t .none .none (.ref a) (.bool true)):=a8 _ hb1 rfl;have t3:=t1.trans t2;generalize ((hp.update b (Obj.mapFields λx=>x.setIfInBounds 3 (Value.ref a))).update b (Obj.mapFields λx=>x.setIfInBounds 4 (Value.bool true)))=h2 at YX t3⊢;have ha':h2.get? a=some oe:=t3.keep a oe ha (by simp) (by simp[aW YW]);unfold raiseNew;refine af (wpAny_handled ?_);rw[hh];dsimp only;rw[ak (show(Value.ref a !=Value.ref b)=true by simp[aW YW])]
 have step:wpAny (model prog w) A (holding [Value.ref b] (runValue (.builtin "proto.unchain" ⟨[.ref b,.ref a,.ref a,.bool false],[]⟩)))
   (λ_ s'=>s'=⟨h2,g,d,tk,os⟩) E ⟨h2,g,d,tk,os⟩:=by
  refine b9 (wpAny_runValue (codeAny_builtin El ?_));unfold Builtin.«proto.unchain»;refine af (bM ha' had Ul ?_);rw[ak (show(Value.none==Value.none)=true from rfl)]
  repeat (any_goals (first|rfl|wp_step))
 have ends:wpAny (model prog w) A (updateField b 2 (.ref a)) (λ_ s'=>E (.ref b) s') E ⟨h2,g,d,tk,os⟩:=by
  have r:=cq (M:=model prog w) (A:=A) (E:=E) (s:=⟨h2,g,d,tk,os⟩) (x:=.ref a) (i:=2) (Q:=λ_ s'=>E (.ref b) s') YX rfl (by show 2<6;decide) (hE _ (a8 _ YX rfl) (t3.trans (Turn.one YX rfl)));exact r
 refine af (bp step (λ_ s' e=>?_) λ_ _ x=>x);subst e;exact af (bp ends (λ_ s' e=>dJ e) λ_ _ x=>x)
end
section
variable{X:Cx}{pl:Value->Prop}{E:XK}{k:Nat}{f C N D N' a:Addr}{oe:Obj}{vs:Array Value}{xe:Value->Shared->Prop}{fd:FuncData}{ps:List Str}{f1 f2 x n:Str}{p l0 np pos:Pos}{e:Expr}{es:List Expr}{t:TA}{i:Nat}
def C5(u:Turn [] [b] h h'):Turn fs [b] h h':=
 ⟨λc o e _ m=>u.keep c o e (by simp) m,λc o e _ m=>⟨o.slots,u.keep c o e (by simp) m⟩,u.there,u.size⟩
def Pr(C:Addr)(i:Nat)(a:Addr)(f1 f2:Str)(E:XK)(t:TA):TS:=λ_ σ H=>σ[i]? =some (some (.ref a))/\t σ H λus H1=>∃y z,us=[y,z]/\∀dx H2,H2 dx=some (xD (gw f2 z [(f1,y)]) dx)->(∀b o,H1 b=some o->H2 b=some o)->E (.ref C) (some dx) H2
def Pt(R:Rz pl (i4 X a oe xe) E)(npl:¬pl (.ref C))(c:mZ X.K C N)(c':mZ X.K D N')(hi:findIn X.K (.ref C) "__init__"=some (some (.ref f)))(hf:typeIn X.K (.ref f)=some (.type "function"))
  (F:C1 X.prog X.w X.K X.mg X.base (vd X.prog X.w pl) k f fd ps (HJ C f1 f2)) (hr:AV (k+1) X.A) (hg:Gl X x) (hm:X.mg x=some (.ref C)) (hb:Binds X.K fd ps []) (ha:PA (i4 X a oe xe) (e::es) t)
  (h1:oe.cls=.ref D) (h2:oe.data=.fields vs) (h3:vs[2]? =some .none) (hn:X.N[i]? =some n) (hv:RG X.env.scope n)
  (hdb:(x==("__debug__":Str))=false:=by decide) (hdn:(n==("__debug__":Str))=false:=by decide) (hcn:(n==("__classdict__":Str))=false:=by decide)
  (he:starEach (e::es) X.env=(false,eval e X.env)::starEach es X.env:=by rfl) (hpl:(backTo l0 (starEach es X.env)).any (·.1)=false:=by rfl):
  PS (i4 X a oe xe) (.Raise (some (.Call (.Name x p) (e::es) [] l0)) (some (.Name n np)) pos) (Pr C i a f1 f2 E t):=by
 intro pins s σ H Dd I h;obtain⟨hσ,h⟩:=h;obtain⟨nm,q,bs,sn,sub,ab,col,dd,k0,k1,k2,k3,k5,lk⟩:=c.at_;obtain⟨nm',q',bs',sn',sub',ab',col',dd',j0,j1,j2,j3,j5,Rb⟩:=c'.at_;rw[arm_exec_Raise];refine af (bP ?_)
 have key:∀(y z:V)(H1 H2:Hp)(s':Shared)(b tt dx:Addr),Inv (i4 X a oe xe) pins σ H2 s'->H2 b=some (xA C (some dx) tt b)->H2 dx=some (xD (gw f2 z [(f1,y)]) dx)->dx≠b->(∀c o,H1 c=some o->H2 c=some o/\c≠b)->(∀H',H' b=none->jX (i4 X a oe xe) pins H' b)->
   (∀dx H2,H2 dx=some (xD (gw f2 z [(f1,y)]) dx)->(∀b o,H1 b=some o->H2 b=some o)->E (.ref C) (some dx) H2)->
   ∀h',h'.get? b=some (xo C (some dx) tt .none (.ref a) (.ref a) (.bool true))->Turn [] [b] s'.heap h'->xe (.ref b) {s' with heap:=h'}:=λy z H1 H2 s' b tt dx I2 ea ed nd kp as hG h' hb' tu=>by
  have I3:=Lu I2 ea;have kk:∀c o,H1 c=some o->del H2 b c=some o:=λc o q=>by rw[xW (kp c o q).2];exact(kp c o q).1
  have I4:Inv (i4 X a oe xe) pins σ (del H2 b) {s' with heap:=h'}:=jB I3 (C5 tu) λc m=>by
   have e:c=b:=by simpa using m
   subst e;exact as _ vq
  exact R pins σ (del H2 b) _ b (.ref C) (some dx) (.ref a) none .none I4 ⟨_,_,hb',rfl,rfl,rfl,rfl,rfl,rfl⟩ (λz=>absurd z npl) (as _ vq) (λt m=>by simp at m) (hG dx (del H2 b) (by rw[xW nd];exact ed) kk)
 refine C4 (a:=a) (C:=C) (D:=D) (N:=N) (N':=N') (oe:=oe) (vs:=vs) (nm:=nm) (q:=q) (bs:=bs) (hdct:=true) (sn:=sn) (sub:=sub) (ab:=ab) (col:=col) (dd:=dd) (k0:=k0) (k1:=k1) (k2:=k2) (k3:=k3) (k5:=k5) (newId:="Exception.__new__")
  (nm':=nm') (q':=q') (bs':=bs') (hdct':=true) (sn':=sn') (sub':=sub') (ab':=ab') (col':=col') (dd':=dd') (j0:=j0) (j1:=j1) (j2:=j2) (j3:=j3) (j5:=j5) (newId':="Exception.__new__") rfl ?_
 show wpAny _ _ (eval (.Call (.Name x p) (e::es) [] l0) X.env>>=λv=>standAt pos>>=λ_=>pure v) _ _ s;refine af (E1 (X:=i4 X a oe xe) c hi hf F ⟨hr.dp,hr.un⟩ hg hm hb ha I h (λb tt dx y z H1 H2 s' I2 ea ed nd kp as hG=>?_) hdb he hpl);refine af (bP (aB ⟨b,tt,some dx,rfl,?_⟩));show wpAny _ _ (eval (.Name n np) X.env>>=λv=>standAt pos>>=λ_=>pure v) _ _ s';refine af (iO (Ad (X:=i4 X a oe xe) hn hv hdn hcn pins s' σ H2 (λv H3=>v=.ref a/\H3=H2) I2 ⟨.ref a,hσ,rfl,rfl⟩) λu s3⟨v,H3,I3,rv,ev,e3⟩=>?_);subst ev e3;obtain rfl:u=.ref a:=rv;have Um:=(I3.pin (a,oe) (aM ..)).1;have hb3:=E0 I3.gZ ea;refine af (bP (aB ⟨rfl,I3.pS _ _ lk,I3.pS _ _ Rb,hb3,Um,h1,h2,h3,λz=>?_,λz=>?_,λz=>?_,λh' hb' tu=>key y z H1 H3 s3 b tt dx I3 ea ed nd kp as hG h' hb' tu⟩))
 .have z2:=(I3.pin (a,oe) (aM ..)).2.1;rw[<-z,ea]at z2;cases z2
 .have w1:=I3.pS _ _ lk;rw[z,hb3]at w1;cases w1
 have w1:=I3.pS _ _ Rb;rw[z,hb3]at w1;cases w1
def Pu(C:Addr)(i:Nat)(a:Addr)(E:XK):TS:=λ_ σ H=>σ[i]? =some (some (.ref a))/\E (.ref C) none H
def Pw(R:Rz pl (i4 X a oe xe) E)(npl:¬pl (.ref C))(c:mZ X.K C N)(c':mZ X.K D N')(hi:findIn X.K (.ref C) "__init__"=some (some (.builtin "Exception.__init__")))(hg:Gl X x)(hm:X.mg x=some (.ref C))
  (h1:oe.cls=.ref D) (h2:oe.data=.fields vs) (h3:vs[2]? =some .none) (hn:X.N[i]? =some n) (hv:RG X.env.scope n)
  (hdb:(x==("__debug__":Str))=false:=by decide) (hdn:(n==("__debug__":Str))=false:=by decide) (hcn:(n==("__classdict__":Str))=false:=by decide):
  PS (i4 X a oe xe) (.Raise (some (.Call (.Name x p) [] [] l0)) (some (.Name n np)) pos) (Pu C i a E):=by
 intro pins s σ H Dd I h;obtain⟨hσ,h⟩:=h;obtain⟨nm,q,bs,sn,sub,ab,col,dd,k0,k1,k2,k3,k5,lk⟩:=c.at_;obtain⟨nm',q',bs',sn',sub',ab',col',dd',j0,j1,j2,j3,j5,Rb⟩:=c'.at_;rw[arm_exec_Raise];refine af (bP ?_)
 refine C4 (a:=a) (C:=C) (D:=D) (N:=N) (N':=N') (oe:=oe) (vs:=vs) (nm:=nm) (q:=q) (bs:=bs) (hdct:=true) (sn:=sn) (sub:=sub) (ab:=ab) (col:=col) (dd:=dd) (k0:=k0) (k1:=k1) (k2:=k2) (k3:=k3) (k5:=k5) (newId:="Exception.__new__")
  (nm':=nm') (q':=q') (bs':=bs') (hdct':=true) (sn':=sn') (sub':=sub') (ab':=ab') (col':=col') (dd':=dd') (j0:=j0) (j1:=j1) (j2:=j2) (j3:=j3) (j5:=j5) (newId':="Exception.__new__") rfl ?_
 show wpAny _ _ (eval (.Call (.Name x p) [] [] l0) X.env>>=λv=>standAt pos>>=λ_=>pure v) _ _ s;refine af (E2 (X:=i4 X a oe xe) c hi hg hm I (λb tt s' I2 gb as hnb=>?_) hdb);have Ul:=(I2.pin (a,oe) (aM ..)).1;have YW:b≠a:=λz=>(as H hnb).pin (a,oe) (aM ..) z.symm
 have key:∀h',h'.get? b=some (xo C none tt .none (.ref a) (.ref a) (.bool true))->Turn [] [b] s'.heap h'->xe (.ref b) {s' with heap:=h'}:=λh' hb' tu=>by
  have I4:Inv (i4 X a oe xe) pins σ H {s' with heap:=h'}:=jB I2 (C5 tu) λc m=>by
   have e:c=b:=by simpa using m
   subst e;exact as _ hnb
  exact R pins σ H _ b (.ref C) none (.ref a) none .none I4 ⟨_,_,hb',rfl,rfl,rfl,rfl,rfl,rfl⟩ (λz=>absurd z npl) (as _ hnb) (λt m=>by simp at m) h
 refine af (bP (aB ⟨b,tt,none,rfl,?_⟩));show wpAny _ _ (eval (.Name n np) X.env>>=λv=>standAt pos>>=λ_=>pure v) _ _ s';obtain⟨m,hns,aaz⟩:=id I2.loc;obtain⟨u,ru,lk3⟩:=aaz i n (.ref a) hn hσ hv;obtain rfl:u=.ref a:=ru
 have fin:wpAny (model X.prog X.w) (X.A.mark (some (.ref a))) (eval (.Name n np) X.env) (λu s2=>u=.ref a/\s2=s') xe s':=by
  rcases lk3 with⟨hk,hmm⟩|⟨hk,cc,hc,Ec⟩
  .exact wpAny_Name (wpAny_loadName_local I2.ok.kind hk hns hmm ⟨rfl,rfl⟩) hdn
  rcases hk with hk|hk
  .exact wpAny_Name (wpAny_loadName_cell I2.ok.kind hk hc Ec ⟨rfl,rfl⟩) hdn
  exact wpAny_Name (wpAny_loadName_free I2.ok.kind hk hc Ec ⟨rfl,rfl⟩ hcn) hdn
 refine af (iO fin λu s3⟨eu,es⟩=>?_);subst eu es;refine af (bP (aB ⟨rfl,I2.pS _ _ lk,I2.pS _ _ Rb,gb,Ul,h1,h2,h3,YW,λz=>?_,λz=>?_,key⟩))
 .have w1:=I2.pS _ _ lk;rw[z,gb]at w1;cases w1
 have w1:=I2.pS _ _ Rb;rw[z,gb]at w1;cases w1
def HK(a:Addr)(od:Option Addr)(ta:TE)(g:Str):TE:=λσ H Q=>ta σ H λy H1=>y=.ref a/\∃dx fs v,od=some dx/\H1 dx=some (xD fs dx)/\fs.lookup g=some v/\Q v H1
def Cf(c:mZ X.K D N')(hga:nsIn X.K N' "__getattribute__"=some none)(hgb:nsIn X.K N' "__getattr__"=some none)(hna:nsIn X.K N' g=some none)(hB:typeLookup (.type "Exception") g=pure none)
  (h1:oe.cls=.ref D) (h2:oe.data=.fields vs) (he:PE (i4 X a oe xe) e ta) (hab:attributeBase e g X.env (eval e X.env)=eval e X.env):PE (i4 X a oe xe) (.Attribute e g pos) (HK a oe.dict ta g):=by
 intro pins s σ H Q I h;refine Le hab (iO (he pins s σ H _ I h) λu s1⟨y,H1,I1,ry,ey,dx,fs,v,ed,eh,lk,q⟩=>?_);subst ey;obtain rfl:u=.ref a:=ry;obtain⟨_,_,_,_,_,_,_,_,_,_,_,_,_,Rb⟩:=c.at_;have K1:=I1.pS;have n1:=ck K1 c.ns hna;have n2:=ck K1 c.ns hga;have n3:=ck K1 c.ns hgb;have nN:s1.heap.Ns N' (s1.heap.nsMap N'):=.of_isNs (isNs_of_in K1 c.ns);have ga:=(I1.pin (a,oe) (aM ..)).1;obtain⟨mA,nA,rA,_⟩:=TB I1.gZ eh;obtain⟨u,hu,ru⟩:=sE.some_of (by rw[<-lk];exact rA g);have hC:=K1 _ _ Rb;have I2:=I1.tok (s1.toks+1);obtain _:=s1;exact ZO PySem.F.attrBase_Exception hC nN n1 n2 n3 hB ga h1 (λc z=>by rw[h2]at z;cases z) ed nA hu (PySem.W.handedOut_of (EM ru)) ⟨v,H1,I2,ru,q⟩
end
def okx{K:Frag}{st:Stmt}(F:W5 K x qual st f fd)(S:fh N ps (eZ st))(len:∀vs H Q E,sp vs H Q E->vs.length=ps.length)
  (hbody:∀(cdv:Value)(A:Around)(outer:List Env)(s:Shared)(H:Hp)(vs:List V)(Q:VK)(E:XK),jJ k (A.deeper (envOfC qual (eZ st) s.heap.objs.size f cdv))->sp vs H Q E->
   ∃t,Hg (nS (vd P w pl) P w K mg base N qual (eZ st) f cdv A outer s H E) (pT st) t/\t {nx:=λ_ H'=>Q .hJ H',rt:=Q} (start N vs) H):vg P w K mg base (vd P w pl) (k+1) f fd ps sp:=by
 obtain⟨_,_,_,_,_,_,cdv,_,_,rfl,lk,hcd⟩:=F.ex;exact WM lk hcd S len λA outer s H vs Q E hr hsp=>hbody cdv A outer s H vs Q E hr hsp
section
variable{prog:Program}{w:World}{A:Around}{E:Value->Shared->Prop}{s:Shared}
def HL(d:Addr)(hd:(d==sysModules)=false):MeetsIn prog w (Builtin.«dict.values» ⟨[.ref d],[]⟩) (λ_ R s=>s.TypeIs (.ref d) "dict"/\R (.ok (.ret (.ref s.heap.objs.size))) {s with heap:=s.heap.push {cls:=.type "dict_values",data:=.fields #[.ref d]}}):=
 .of_wp λA R s⟨hT,h⟩=>by
  refine af ?_;refine af (wpAny_notOrdered_dict hT (show wpAny _ _ (pure d) _ _ s from aB ?_));unfold Builtin.Dict.showsAll;rw[ag (by rw[hd];exact aD)];exact af (aB (af (bL (aB ⟨_,rfl,h⟩))))
def J6(hv:s.heap.IsValuesView v d)(ho:s.heap.get? d=some o)(hdat:o.data=.dict es ep)
  (hQ:Q (.ref s.heap.objs.size) {s with heap:=s.heap.push {cls:=.type "dict_valueiterator",data:=.fields #[.ref d,.int 0 0,.int es.size 0,.int ep 0]}}):wpAny (model prog w) A (pyIter (.ref v)) Q E s:=by
 obtain⟨_,Wc,_,hdv⟩:=id hv;refine wpAny_pyIter_slot hv.typeIs F.slot_dict_values_iter (cn F.slot_dict_values_iter hv.typeIs F.entry_dict_values_iter ?_ (F.args_dict_values_iter_1 _));refine af (aB (af ?_));refine af (bM Wc hdv rfl (aB (af ?_)));refine af (dX ho hdat (af (wpAny_dictEpoch ho hdat ?_)));have Rc:Builtin.Dict_items.ownsTuple "dict_valueiterator"=false:=by decide
 simp only[Rc,bF,bS];refine bL (aB ⟨_,rfl,"dict_valueiterator",_,⟨_,aN _ rfl,rfl⟩,bH.lookup,?_⟩);simpa[rawInt]using hQ
def NO(hit:s.heap.IsValIter it d i n ep)(hod:s.heap.get? d=some od)(hdd:od.data=.dict es ep)
  (hsz:es.size=n) (hx:es[i]? =some en) (hQ:∀h',h'.IsValIter it d (i+1) n ep->Heap.SameBut it s.heap h'->Q (some en.val) {s with heap:=h'}):wpAny (model prog w) A (pyNext (.ref it)) Q E s:=by
 obtain⟨o,ho,hc,hd⟩:=id hit;refine af (wpAny_attempt (bU hit.typeIs bH (cn bH hit.typeIs F.entry_dict_valueiterator_next ?_ (F.args_dict_valueiterator_next_1 _))));refine af (aB (af (af ?_)))
 first|refine af (cb hit.typeIs (aB (af (wpAny_fieldsOf ho hd ?_))))|refine af (cC hit.typeIs (aB (af (wpAny_fieldsOf ho hd ?_))))
 have Rc:Builtin.Dict_items.ownsTuple "dict_valueiterator"=false:=by decide
 simp only[Rc,bF,bS];show wpAny _ _ (if(Value.ref d==Value.none)=true then _ else _) _ _ s;rw[ag (show¬((Value.ref d==Value.none)=true)from aD)];refine af (aB (af (dX hod hdd ?_)));rw[ag (by rw[hsz];simp)];refine af (aB (af (wpAny_dictEpoch hod hdd ?_)));rw[ag (by simp)];refine aB ?_;obtain⟨aaB,hen⟩:=df.mp hx;simp only[show¬((i:Int)<0)from by omega,bS,dw,dn aaB];refine af ?_
 first|refine af (cb hit.typeIs (aB (af (cX hit.typeIs ?_))))|refine af (cC hit.typeIs (aB (af (cX hit.typeIs ?_))))
 show wpAny _ _ (setField (.ref it) 1 (rawInt ((i:Int)+1))>>=_) _ _ s;refine af (cq ho hd (by simp) ?_);have KU:(s.heap.update it (Obj.mapFields (·.setIfInBounds 1 (rawInt ((i:Int)+1))))).IsValIter it d (i+1) n ep:=⟨_,a8 _ ho (cf (cI hd _)),(Obj.cls_mapFields ..).trans hc,by rw[cI hd];simp[rawInt]⟩;refine af (b9 (af (cX KU.typeIs ?_)));refine af (cX KU.typeIs (show wpAny _ _ (pure es[i].val) _ _ _ from ?_));rw[hen];exact aB (aB ⟨_,rfl,aB (hQ _ KU (du ..))⟩)
def Px(hh:A.handled=none)(hit:s.heap.IsValIter it d i n ep)(hod:s.heap.get? d=some od)(hdd:od.data=.dict es ep)
  (hsz:es.size=n) (hge:n<=i) (hQ:∀h',Heap.ExtBut it s.heap h'->Q none {s with heap:=h'}):wpAny (model prog w) A (pyNext (.ref it)) Q E s:=by
 obtain⟨o,ho,hc,hd⟩:=id hit;refine af (wpAny_attempt (bU hit.typeIs bH (cn bH hit.typeIs F.entry_dict_valueiterator_next ?_ (F.args_dict_valueiterator_next_1 _))));refine af (aB (af (af ?_)))
 first|refine af (cb hit.typeIs (aB (af (wpAny_fieldsOf ho hd ?_))))|refine af (cC hit.typeIs (aB (af (wpAny_fieldsOf ho hd ?_))))
 have Rc:Builtin.Dict_items.ownsTuple "dict_valueiterator"=false:=by decide
 simp only[Rc,bF,bS];show wpAny _ _ (if(Value.ref d==Value.none)=true then _ else _) _ _ s;rw[ag (show¬((Value.ref d==Value.none)=true)from aD)];refine af (aB (af (dX hod hdd ?_)));rw[ag (by rw[hsz];simp)];refine af (aB (af (wpAny_dictEpoch hod hdd ?_)));rw[ag (by simp)];refine aB ?_;have aaC:es.size<=i:=by rw[hsz];exact hge
 simp only[show¬((i:Int)<0)from by omega,bS,dw,dS aaC];refine af ?_
 first|refine af (cb hit.typeIs (aB ?_))|refine af (cC hit.typeIs (aB ?_))
 show wpAny _ _ (setField (.ref it) 0 .none>>=_) _ _ s;refine af (cq ho hd (by simp) ?_);refine af ?_;simp only[newExc,newTuple];refine af (bL ?_ (by size_fits));refine af (wpAny_of_eq (by first|rfl|(simp only[firstArgMember];rfl)) ?_);refine bL ?_ (by size_fits);simp only[raiseNew];refine af (wpAny_handled ?_);rw[show A.in1.handled=none from hh];refine af (aB (dJ ?_));refine af (wpAny_isInstance ⟨_,aN _ rfl,rfl⟩ isSubtype_stop ?_);exact aB (hQ _ (((du ..).extBut.push _).push _))
def HM(hh:A.handled=none)(hdd:od.data=.dict es ep)(nd:it≠d):
  WalksS prog w A it [it,d] [it] (λa b=>b=a) es.size (λi v=>∃en,es[i]? =some en/\v=en.val) (λi s=>s.heap.IsValIter it d i es.size ep/\s.heap.get? d=some od)where
 sub:=by simp
 grefl:=λ_=>rfl
 gtrans:=λa b c h1 h2=>h2.trans h1
 frame:=λi s h' tk⟨⟨o,h1,h2,h3⟩,h4⟩ _ k=>⟨⟨o,k it (by simp) o h1,h2,h3⟩,k d (by simp) od h4⟩
 item:=λi s Q E hi⟨h1,h2⟩ hQ=>NO h1 h2 hdd rfl (dn hi) λh' h3 sb=>hQ _ _ ⟨_,dn hi,rfl⟩ ⟨h3,(sb.2 d (aW nd)).trans h2⟩ ⟨λb o hb e=>(sb.2 b (by simpa using hb)).trans e,rfl,rfl,rfl,aH _⟩
 done:=λs Q E⟨h1,h2⟩ hQ=>Px hh h1 h2 hdd rfl (aH _) λh' eb=>hQ _ ⟨λb o hb e=>eb b o (by simpa using hb) e,rfl,rfl,rfl,aH _⟩
 self:=λi s Q E⟨h1,_⟩ h=>wpAny_pyIter_valiter h1 h
def HN:(Value.type "dict_values"==Value.type "list")=false:=by decide
def J7:(Value.type "dict_values"==Value.type "tuple")=false:=by decide
def Em(hh:A.handled=none){v d:Addr}{od:Obj}{es:Array DictEntry}{ep:Nat}{Q:List Value->Shared->Prop}(hv:s.heap.IsValuesView v d)(hod:s.heap.get? d=some od)(hdd:od.data=.dict es ep)(hn:es.size<=sizeLine)
  (hQ:∀h' tk,s.heap.objs.size<h'.objs.size->(∀b o,s.heap.get? b=some o->h'.get? b=some o)->Q (es.toList.map (·.val)) {s with heap:=h',toks:=tk}):wpAny (model prog w) A (collect (.ref v)) Q E s:=by
 obtain⟨ov,Wc,Vs,hdv⟩:=id hv;have vlt:v<s.heap.objs.size:=aZ Wc;have dlt:d<s.heap.objs.size:=aZ hod
 have h1:Builtin.List.listSameRef (.ref s.heap.objs.size) (.ref v)=false:=by
  show(s.heap.objs.size==v)=false;simpa using ej vlt
 unfold collect;refine af (wpAny_runValue (codeAny_builtin F.entry_proto_collect ?_));rw[Around.under_plainId F.plain_proto_collect _];show wpAny _ A.in1 (newList []>>=λl=>again (.builtin "list.__iadd__" ⟨[l,.ref v],[]⟩)) _ _ s;refine af (bL (aB ⟨plainId_quiet F.plain_list_iadd _,codeAny_builtin F.entry_list_iadd ?_⟩));rw[Around.under_plainId F.plain_list_iadd _];have hv1:(s.heap.push {cls:=.type "list",data:=.seq ([]:List Value).toArray}).IsValuesView v d:=⟨ov,ax _ Wc,Vs,hdv⟩;have XX:(s.heap.push {cls:=.type "list",data:=.seq ([]:List Value).toArray}).get? d=some od:=ax _ hod;have sz1:(s.heap.push {cls:=.type "list",data:=.seq ([]:List Value).toArray}).objs.size=s.heap.objs.size+1:=size_push' ..;show wpAny _ A.in1 (Builtin.List.listExtendWith (.ref s.heap.objs.size) (.ref v) (.ref s.heap.objs.size)) _ _ {s with heap:=s.heap.push {cls:=.type "list",data:=.seq ([]:List Value).toArray}};unfold Builtin.List.listExtendWith;refine af (wpAny_typeOf (T:="dict_values") ⟨ov,ax _ Wc,Vs⟩ ?_);rw[h1,HN,J7,ag (by decide)];refine af (J6 (s:={s with heap:=s.heap.push {cls:=.type "list",data:=.seq ([]:List Value).toArray}}) hv1 XX hdd ?_);generalize XY:(s.heap.push {cls:=.type "list",data:=.seq ([]:List Value).toArray}).push {cls:=.type "dict_valueiterator",data:=.fields #[.ref d,.int 0 0,.int es.size 0,.int ep 0]}=h2;have ov2:h2.get? v=some ov:=by rw[<-XY];exact ax _ (ax _ Wc)
 refine af (b9 ?_);unfold Builtin.List.listLengthHint;refine af (wpAny_specialOf (T:="dict_values") ⟨ov,ov2,Vs⟩ F.slot_dict_values_len.lookup ?_);generalize hid:("dict_values.__len__":String)=id0
 wp_delta
 rw[show splitId id0=some ("dict_values","__len__")from by subst hid;decide+kernel];subst hid;refine af (wpAny_isInstance (b:=true) (T:="dict_values") ⟨ov,ov2,Vs⟩ (by rw[isSubtype_type];kernel_rfl) ?_);refine af (m:=typeOf (Value.ref v)) (wpAny_typeOf (T:="dict_values") ⟨ov,ov2,Vs⟩ ?_);refine aB ?_;show wpAny _ A.in1 (rule "list.extend.makes-room">>=λ_=>Builtin.List.listTouch (.ref s.heap.objs.size)>>=λ_=>again (.builtin "list.extend.loop" ⟨[.ref s.heap.objs.size,.ref (s.heap.push {cls:=.type "list",data:=.seq ([]:List Value).toArray}).objs.size,.ref s.heap.objs.size],[]⟩)) _ _ _;rw[sz1];refine af (wpAny_rule (af ?_))
 have hS1:h2.get? s.heap.objs.size=some {cls:=.type "list",data:=.seq ([]:List Value).toArray}:=by
  rw[<-XY];exact ax _ (aN _ rfl)
 show wpAny _ A.in1 (updateSeq s.heap.objs.size (·.push .none)>>=λ_=>updateSeq s.heap.objs.size (·.pop)) _ _ _;refine af (wpAny_updateSeq hS1 rfl ?_);have hS2:=a8 (Obj.mapSeq (·.push Value.none)) hS1 rfl;refine wpAny_updateSeq hS2 rfl ?_;have hS3:=a8 (Obj.mapSeq (·.pop)) hS2 rfl;have oth:∀b o,b≠s.heap.objs.size->h2.get? b=some o->((h2.update s.heap.objs.size (Obj.mapSeq (·.push Value.none))).update s.heap.objs.size (Obj.mapSeq (·.pop))).get? b=some o:=λb o hb e=>(bb _ _ (aW hb)).trans ((bb _ _ (aW hb)).trans e)
 have hit:h2.get? (s.heap.objs.size+1)=some {cls:=.type "dict_valueiterator",data:=.fields #[.ref d,.int 0 0,.int es.size 0,.int ep 0]}:=by
  rw[<-XY,<-sz1];exact aN _ rfl
 have od2:h2.get? d=some od:=by rw[<-XY];exact ax _ XX
 have W:=HM (prog:=prog) (w:=w) (A:=A.in1) (it:=s.heap.objs.size+1) (d:=d) hh hdd (ej (cS dlt))
 have YQ:s.heap.objs.size∉[s.heap.objs.size+1,d]:=by
  intro z;rcases aA.mp z with y|y
  .exact a9 (cK _) y
  exact ej dlt (by simpa using y)
 refine aB ⟨plainId_quiet F.plain_extend_loop _,codeAny_extend_loopS W hn s.heap.objs.size YQ _ es.size 0 _ _ _ rfl (bu _) ⟨⟨_,oth _ _ (ej (cK _)) hit,rfl,rfl⟩,oth _ _ (a9 dlt) od2⟩ hS3 (ItemsOf.nil _) λs' Vt c' hm Wd XZ=>?_⟩;show wpAny _ A (load s.heap.objs.size>>=_) _ _ s';refine af (wpAny_load Wd (aB ?_))
 have ev:Vt.toList=es.toList.map (·.val):=by
  refine List.ext_getElem? λi=>?_;rw[aK,dZ,dZ];cases q:Vt[i]? with
  |none=>
   have:es.size<=i:=by rw[<-XZ.1];exact Array.getElem?_eq_none_iff.mp q
   rw[dS this];rfl
  |some v=>
   obtain⟨en,h1,h2⟩:=XZ.2 i v q;rw[h1,h2];rfl
 obtain⟨hp,m1,m2,m3,m4⟩:=hm;obtain⟨yt,g',d',t',o'⟩:=s';cases m1;cases m2;cases m3;show Q Vt.toList _;rw[ev];refine hQ _ _ (aZ Wd) λb o e=>hp b o ?_ (oth b o (a9 (aZ e)) (by rw[<-XY];exact ax _ (ax _ e)));intro z;rcases aA.mp z with y|y
 .exact a9 (aZ e) y
 exact a9 (cS (aZ e)) (by simpa using y)
def Gf(hh:A.handled=none){v d:Addr}{od:Obj}{es:Array DictEntry}{ep:Nat}{ns:List Int}{Q:Value->Shared->Prop}(hv:s.heap.IsValuesView v d)(hod:s.heap.get? d=some od)(hdd:od.data=.dict es ep)(hn:es.size<=sizeLine)(hI:IntsAre (es.toList.map (·.val)) ns)
  (h:∀(out:List Value)(ns':List Int)(h':Heap)(tk e:Nat)(r:Addr),IntsAre out ns'->ns'.Perm ns->ns'.Pairwise (·<=·)->(∀b o,s.heap.get? b=some o->h'.get? b=some o)->s.heap.objs.size<=r->h'.get? r=some {cls:=.type "list",data:=.seq out.toArray e}->Q (.ref r) {s with heap:=h',toks:=tk}):
  wpAny (model prog w) A (call (.builtin "sorted") [.ref v]) Q E s:=by
 have hL:(es.toList.map (·.val)).length<=sizeLine:=by rw[aw,dv];exact hn
 refine Calls.call_function_entry kind_sorted plain_sorted entry_sorted (args_sorted1 _) ?_;unfold Builtin.«sorted»;refine af (m:=checkCount "sorted" 1 1 _) (aB (af (Em (A:=A.in1) hh hv hod hdd hn λh1 tk le k1=>af (wpAny_newList ?_ hL))));have XF:(h1.push (seqObj "list" (es.toList.map (·.val)).toArray 0)).get? h1.objs.size=some (seqObj "list" (es.toList.map (·.val)).toArray 0):=aN _ rfl;refine af (b9 (cn slot_list_sort ⟨_,XF,rfl⟩ entry_list_sort (list_sort_treeAny XF hI hL λout ns' a1 a2 a3=>⟨_,rfl,aB ⟨_,rfl,?_⟩⟩) (args_list_sort _)));obtain⟨e,he⟩:=sortedHeap_at (out:=out) XF;refine h out.toList ns' _ tk e _ a1 a2 a3 (λb o q=>?_) (le_of_lt le) (by rw[he]);have q1:=k1 b o q;rw[sortedHeap_old (a9 (aZ q1)) (by rw[size_push'];exact cS (aZ q1))];exact ax _ q1
end
inductive E4(Q:VK)(x:V)(H1:Hp):Prop
 |mk:∀(d:Addr)(kvs:List (List Key×V))(ns:List Int),(x=.ref d)->(H1 d=some (.dT kvs))->(kvs.map (·.2)=ns.map V.int)->(∀(ns':List Int)(p:Addr),ns'.Perm ns->ns'.Pairwise (·<=·)->H1 p=none->Q (.ref p) (upd H1 p (.lst (ns'.map V.int))))->E4 Q x H1
def Py(td:TE):TE:=λσ H Q=>td σ H λx H1=>E4 Q x H1
theorem Lx{H:Hp}:∀{kvs:List (List Key×V)}{xs:List (List Key×Addr×Value)}{ns:List Int},Paired (λ(p:List Key×V)(q:List Key×Addr×Value)=>p.1=q.1/\H q.2.1=some (.tup (p.1.map kV))/\RelV p.2 q.2.2) kvs xs->kvs.map (·.2)=ns.map V.int->Vals (ns.map V.int) (xs.map (·.2.2))
 |[],_,ns,.nil,h=>by
  cases ns with
  |nil=>exact .nil
  |cons=>cases h
 |kv::kvs,_,ns,.cons r q,h=>by
  cases ns with
  |nil=>cases h
  |cons n ns=>
   rw[bJ,bJ,bG]at h;have r3:=r.2.2;rw[h.1]at r3;exact .cons r3 (Lx q h.2)
section
variable{X:Cx}{e:Expr}{td:TE}{apos l0 p pos:Pos}
def Eo(hg:Gl X "sorted")(hm:X.mg "sorted"=none)(he:PE X e td)(hc:X.calm=true:=by rfl)(hbase:attributeBase e "values" X.env (eval e X.env)=eval e X.env:=by rfl)(hline:(apos.endLine==l0.line)=true:=by rfl):
  PE X (.Call (.Name "sorted" p) [.Call (.Attribute e "values" apos) [] [] l0] [] pos) (Py td):=by
 intro pins s σ H Q I h;refine bw (tV I hg hm boot_sorted ?_ (by decide) (by decide));refine PyProof.Rows.callWith_builtin1 ?_ rfl rfl;show wpAny _ _ (spliced ((false,eval (.Call (.Attribute e "values" apos) [] [] l0) X.env)::backTo pos (starEach [] X.env))) _ _ s;refine Calls.spliced_cons ?_;refine wpAny_Call_method (T:="dict") (id:="dict.values") hbase rfl hline F.plainAttrs_dict F.slot_dict_values F.type_dict_values (iO (he pins s σ H _ I h) λu s1⟨x,H1,I1,rx,d,kvs,ns,ex,hd,hns,q⟩=>?_);subst ex;obtain rfl:u=Value.ref d:=rx;obtain⟨z,hs,xs,pr,o,es,ep,ho,hx,hdt,hes,_⟩:=(show i7 X.prog X.w H1 s1.heap d (.dT kvs)from I1.gZ d _ hd);have hT:s1.TypeIs (.ref d) "dict":=⟨o,ho,hx.1⟩;have I2:Inv X pins σ H1 {s1 with heap:=s1.heap.push {cls:=.type "dict_values",data:=.fields #[.ref d]}}:=I1.kept (t':=s1.toks) λb ob q=>ax _ q;have evs:es.toList.map (·.val)=xs.map (·.2.2):=by rw[hes,cG];rfl
 have hiv:IntsAre (es.toList.map (·.val)) ns:=by rw[evs];exact(Lx pr hns).ints
 have hn:es.size<=sizeLine:=by
  have l1:=aQ List.length hes;have l2:kvs.length=xs.length:=ee pr;rw[aw,dv]at l1;omega
 refine⟨hT,λa ea=>?_,?_⟩
 .cases ea;exact⟨o,ho,hx.2.1⟩
 show wpAny _ _ (callWith l0 (.builtin "dict.values") [.ref d] [] []) _ X.xe s1;refine method_meetsIn F.slot_dict_values F.entry_dict_values rfl (PySem.evalArgs_none ⟨rfl,hT,F.args_dict_values_1 _,_,HL d hs,hT,?_⟩);refine Calls.spliced_nil ?_;refine Gf (I2.ok.hd hc) ⟨_,aN _ rfl,rfl,rfl⟩ (ax _ ho) hdt hn hiv λout ns' h' tk e r a1 a2 a3 k le hr=>?_
 have hlen:(ns'.map V.int).length<=sizeLine:=by
  rw[aw,a2.length_eq,<-aw (f:=V.int),<-hns,aw];exact z
 exact⟨.ref r,upd H1 r (.lst (ns'.map V.int)),I2.laid (t':=tk) k le ⟨hlen,out,e,yD a1,hr⟩,rfl,q ns' r a2 a3 (I2.gZ.fresh le)⟩
end
open AutoSeq1 (wpAny_loadPart')
section
variable{prog:Program}{w:World}{A:Around}{E:Value->Shared->Prop}{s:Shared}
def J8(hit:s.heap.IsTupleIter it t i)(ht:s.heap.IsTuple t items)(hx:items[i]? =some x)
  (hQ:∀h',h'.IsTupleIter it t (i+1)->Heap.SameBut it s.heap h'->Q x {s with heap:=h'}):wpAny (model prog w) A (Builtin.SmallTypes.nextOf (.ref it)) Q E s:=by
 obtain⟨o,ho,hc,hd⟩:=id hit;obtain⟨_,hol,_,_,hdl⟩:=ht;refine af (bU hit.typeIs cu (cn cu hit.typeIs F.entry_tuple_iterator_next ?_ (F.args_tuple_iterator_next_1 _)));refine(show wpAny _ _ (field (.ref it) 0>>=_) _ _ s from af (bM ho hd rfl ?_));show wpAny _ _ (if(Value.ref t==Value.none)=true then _ else _) _ _ s;rw[ag (show¬((Value.ref t==Value.none)=true)from aD)];refine(show wpAny _ _ (field (.ref it) 1>>=_) _ _ s from af (bM ho hd rfl ?_));refine(show wpAny _ _ (seqItems? (.ref t)>>=_) _ _ s from af (wpAny_seqItems hol hdl ?_));simp only[dw,hx];refine af (cq ho hd (by simp) (aB ⟨x,rfl,aB (hQ _ ⟨_,a8 _ ho (cf (cI hd _)),(Obj.cls_mapFields ..).trans hc,?_⟩ (du ..))⟩));rw[cI hd];simp[rawInt]
def vt(hh:A.handled=none)(hit:s.heap.IsTupleIter it t i)(ht:s.heap.IsTuple t items)(hx:items[i]? =none)
  (hE:∀h' e,Heap.ExtBut it s.heap h'->(∃o,h'.get? e=some o/\o.cls=.type "StopIteration")->E (.ref e) {s with heap:=h'}):wpAny (model prog w) A (Builtin.SmallTypes.nextOf (.ref it)) Q E s:=by
 obtain⟨o,ho,hc,hd⟩:=id hit;obtain⟨_,hol,_,_,hdl⟩:=ht;refine af (bU hit.typeIs cu (cn cu hit.typeIs F.entry_tuple_iterator_next ?_ (F.args_tuple_iterator_next_1 _)));refine(show wpAny _ _ (field (.ref it) 0>>=_) _ _ s from af (bM ho hd rfl ?_));show wpAny _ _ (if(Value.ref t==Value.none)=true then _ else _) _ _ s;rw[ag (show¬((Value.ref t==Value.none)=true)from aD)];refine(show wpAny _ _ (field (.ref it) 1>>=_) _ _ s from af (bM ho hd rfl ?_));refine(show wpAny _ _ (seqItems? (.ref t)>>=_) _ _ s from af (wpAny_seqItems hol hdl ?_));simp only[dw,hx];refine af (wpAny_rule (af (cq ho hd (by simp) ?_)));refine(show wpAny _ _ (newExc (.type "StopIteration") []>>=_) _ _ _ from af ?_);simp only[newExc,newTuple];refine af (bL ?_ (by size_fits));refine af (wpAny_of_eq (by first|rfl|(simp only[firstArgMember];rfl)) (bL ?_ (by size_fits)));simp only[raiseNew];refine af (wpAny_handled ?_)
 first|rw[show A.in1.handled=none from hh]|rw[hh]
 exact af (aB (dJ (hE _ _ (((du ..).extBut.push _).push _) ⟨_,aN _ rfl,rfl⟩)))
def NP(hh:A.handled=none)(it l:Addr)(hne:l≠it)(items:Array Value):Draws prog w A it [it,l] items.size (λi v=>items[i]? =some v) (λi h=>h.IsTupleIter it l i/\h.IsTuple l items)where
 live:=λ_ _ st=>let⟨o,ho,_⟩:=st.1;⟨o,ho⟩
 frame:=λ_ _ _ st hk=>⟨let⟨o,ho,r⟩:=st.1;⟨o,hk it (by simp) o ho,r⟩,let⟨o,ho,r⟩:=st.2;⟨o,hk l (by simp) o ho,r⟩⟩
 item:=λi s Q E hi st hQ=>J8 st.1 st.2 (x:=items[i]) (by simp[hi]) λh' KU yt=>hQ _ h' s.toks (by simp[hi]) ⟨KU,st.2.extBut yt.extBut hne⟩ yt
 done:=λs Q E st hE=>vt hh st.1 st.2 (by simp) hE
end
def HP(l:Addr)(items:Array Value)(n:Nat)(dct:Option Addr)(sl:Array (Option Value)):
  Meets (Builtin.«enumerate.__new__» ⟨[.type "enumerate",.ref l],[]⟩) (λ_ R s=>s.heap.get? l=some {cls:=.type "tuple",dict:=dct,data:=.seq items n,slots:=sl}/\
   R (.ok (.ret (.ref (s.heap.push {cls:=.type "tuple_iterator",data:=.fields #[.ref l,.int 0 0]}).objs.size)))
    {s with heap:=(s.heap.push {cls:=.type "tuple_iterator",data:=.fields #[.ref l,.int 0 0]}).push {cls:=.type "enumerate",data:=.fields #[.none,.bool false,.ref s.heap.objs.size,rawInt 0,.none,.none]}}):=
 .of_wp λprog w A R s h=>by
  obtain⟨hp,g,d,tk,os⟩:=s;obtain⟨hl,h⟩:=h;have ad5:=sub_enumerate;have hL:Heap.IsTuple (Shared.heap ⟨hp,g,d,tk,os⟩) l items:=⟨_,hl,rfl,n,rfl⟩
  wp_walk using dF hl
  refine wpAny_stack_any λst=>aB ?_;split
  .rename_i c _ _ _ _ _;cases(c==Value.type "enumerate")<;>(wp_walk using dF hl,wpAny_pyIter_tuple hL;exact⟨_,rfl,h⟩)
  wp_walk using dF hl,wpAny_pyIter_tuple hL
  exact⟨_,rfl,h⟩
section
variable{prog:Program}{w:World}{A:Around}{E:Value->Shared->Prop}{s:Shared}
def J9{l:Addr}{items:Array Value}{Q:Value->Shared->Prop}(hL:s.heap.IsTuple l items)
  (h:∀h',IsEnum h' (s.heap.objs.size+1) s.heap.objs.size 0 .none->h'.IsTupleIter s.heap.objs.size l 0->(∀b o,s.heap.get? b=some o->h'.get? b=some o)->Q (.ref (s.heap.objs.size+1)) {s with heap:=h'}):
  wpAny (model prog w) A (call (.type "enumerate") [.ref l]) Q E s:=by
 obtain⟨⟨c,dct,dt,sl⟩,hl,hc,n,hd⟩:=hL;replace hc:c=.type "tuple":=hc;replace hd:dt=.seq items n:=hd;subst hc hd;refine callType_new F.called_enumerate (by decide) (F.typeCall_enumerate_1 _) (F.newCall_enumerate_1 _) (λobj=>F.args_object_init_2 obj _) F.entry_enumerate_new (HP l items n dct sl) ⟨hl,?_⟩;have hz:(s.heap.push {cls:=.type "tuple_iterator",data:=.fields #[.ref l,.int 0 0]}).objs.size=s.heap.objs.size+1:=b8 ..;rw[hz]
 have he:IsEnum ((s.heap.push {cls:=.type "tuple_iterator",data:=.fields #[.ref l,.int 0 0]}).push {cls:=.type "enumerate",data:=.fields #[.none,.bool false,.ref s.heap.objs.size,rawInt 0,.none,.none]}) (s.heap.objs.size+1) s.heap.objs.size 0 .none:=by
  have:=aN (s.heap.push {cls:=.type "tuple_iterator",data:=.fields #[.ref l,.int 0 0]}) (o:={cls:=.type "enumerate",data:=.fields #[.none,.bool false,.ref s.heap.objs.size,rawInt 0,.none,.none]}) rfl;rw[hz]at this;exact this
 exact⟨⟨_,he,rfl⟩,h _ he ⟨_,ax _ (aN _ rfl),rfl,rfl⟩ λb o x=>ax _ (ax _ x)⟩
end
section
variable{prog:Program}{w:World}{A:Around}{E:Value->Shared->Prop}{s:Shared}
def NQ(hh:A.handled=none)(he:IsEnum s.heap e it k old)(hit:s.heap.IsTupleIter it t i)(ht:s.heap.IsTuple t items)(hx:items[i]? =none)
  (hQ:∀h',Heap.ExtBut it s.heap h'->Q none {s with heap:=h'}):wpAny (model prog w) A (pyNext (.ref e)) Q E s:=by
 have hT:s.TypeIs (.ref e) "enumerate":=⟨_,he,rfl⟩;refine af (wpAny_attempt (bU hT F.slot_enumerate_next (cn F.slot_enumerate_next hT F.entry_enumerate_next ?_ (F.args_enumerate_next_1 _))));refine(show wpAny _ _ (field (.ref e) 2>>=_) _ _ _ from af (bM he rfl rfl ?_));refine af (vt hh hit ht hx λh' x XM⟨o,ho,hc⟩=>?_);exact af (wpAny_isInstance ⟨o,ho,hc⟩ isSubtype_stop (aB (hQ _ XM)))
end
noncomputable def Xa(K:Frag)(a:Addr):It:=
 ⟨λi H=>∃(xs:List V)(x:V),m5 K H a xs/\xs[i]? =some x,λi H v H'=>∃T x,v=.ref T/\H T=none/\H'=upd H T (.tup [.int (i:Nat),x])/\∀xs,m5 K H a xs->xs[i]? =some x,λi H=>∃xs:List V,m5 K H a xs/\xs.length<=i⟩
def Ka{P:Program}{w:World}{K:Frag}{elts:List Expr}{kk:Nat}{Jt:Pos}(a e it:Addr):
  L2.Turn P w K (.Tuple elts kk Jt) (Xa K a) [e,it] e (λi h=>(∃old,IsEnum h e it ((i:Nat):Int) old)/\h.IsTupleIter it a i/\e≠it)where
 mem:=by simp
 obj:=λi h st b hb=>by
  obtain⟨⟨old,he⟩,⟨o,ho,hc,hd⟩,_⟩:=st;have e':b=e\/b=it:=by simpa using hb
  rcases e' with z|z
  .rw[z];exact⟨_,he,λv q=>nomatch q⟩
  rw[z];exact⟨o,ho,λv q=>by rw[hd]at q;cases q⟩
 keep:=λi h h' st k=>let⟨⟨old,he⟩,⟨o,ho,r⟩,hne⟩:=st;⟨⟨old,k e (by simp) _ he⟩,⟨o,k it (by simp) o ho,r⟩,hne⟩
 item:=by
  intro X hP hw hK hc i pins s σ H E I hf st hg;subst hP hw hK;obtain⟨⟨old,he⟩,hit,hne⟩:=st;obtain⟨xs,x,hq,hx⟩:=hg;obtain⟨its,rv,p,hz⟩:=I.tuple hq;obtain⟨u,hu,ru⟩:=rv.get hx;have XJ:e<s.heap.objs.size:=aZ he;have Wb:it<s.heap.objs.size:=by obtain⟨_,q,_⟩:=hit;exact aZ q
  have ae:a≠e:=λz=>by
   obtain⟨o,q1,q2,_⟩:=p;rw[z,he]at q1;cases q1;exact absurd (Value.type.inj q2) (by decide)
  have ai:a≠it:=λz=>by
   obtain⟨o,q1,q2,_⟩:=p;obtain⟨o',q3,q4,_⟩:=hit;rw[z,q3]at q1;cases q1;rw[q4]at q2;exact absurd (Value.type.inj q2) (by decide)
  have D:=NP (prog:=X.prog) (w:=X.w) (A:=X.A.in1) (I.ok.hd hc) it a ai its.toArray;refine wpAny_pyNext_enum_itemD D he ⟨hit,p⟩ (by simpa using(ay.mp hu).1) hne (by simp[hne,aW ae]) λu' h' tk pu ho Vu hT hsz hk=>?_
  have eu:u'=u:=by
   have:its.toArray[i]? =some u:=by simpa using hu
   rw[this]at pu;exact(ao pu).symm
  subst eu;refine⟨_,rfl,wpAny_letOwnedTupleGo_enum (s:={s with heap:=h',toks:=tk+1}) ho λVr XM sb=>?_⟩;have hT2:Vr.get? s.heap.objs.size=some {cls:=.type "tuple",data:=.seq #[.int i tk,u']}:=(sb.2 _ (ej XJ)).trans hT;have new:i7 X.prog X.w (upd H s.heap.objs.size (.tup [.int (i:Nat),x])) Vr s.heap.objs.size (.tup [.int (i:Nat),x]):=⟨by show 2<=sizeLine;decide,[.int i tk,u'],.cons ⟨_,rfl⟩ (.cons ru .nil),⟨_,hT2,rfl,_,rfl⟩⟩
  have I1:Inv X pins σ (upd H s.heap.objs.size (.tup [.int (i:Nat),x])) {s with heap:=Vr,toks:=tk+1}:=
   I.EV (ch:=[e,it]) (λb ob hb q=>(sb.2 b λz=>hb (by simp[z])).trans (hk b ob (λz=>hb (by simp[z])) (λz=>hb (by simp[z])) q)) hf (aH _) new
  refine⟨.ref s.heap.objs.size,_,I1,rfl,⟨_,x,rfl,I.gZ.fresh (aH _),rfl,λys hy=>by rw[I.EI hy hq];exact hx⟩,⟨⟨u',?_⟩,?_,hne⟩,λb hb=>?_⟩
  .have e1:((i+1:Nat):Int)=(i:Int)+1:=by omega
   rw[e1];exact XM
  .obtain⟨o,q,r⟩:=Vu.1;exact⟨o,(sb.2 it (aW hne)).trans q,r⟩
  have hb':b<s.heap.objs.size:=by
   have e':b=e\/b=it:=by simpa using hb
   rcases e' with z|z
   .rw[z];exact XJ
   rw[z];exact Wb
  rw[eY (a9 hb')];exact(hf b hb).1
 done:=by
  intro X hP hw hK hc i pins s σ H E I hf st hg;subst hP hw hK;obtain⟨⟨old,he⟩,hit,hne⟩:=st;obtain⟨xs,hq,hx⟩:=hg;obtain⟨its,rv,p,hz⟩:=I.tuple hq;obtain⟨f0,f1,f2,f3,f4,f5⟩:=hf it (by simp);have hl:=rv.length;exact NQ (I.ok.hd hc) he hit (show s.heap.IsTuple a its.toArray from p) (by simp;omega) λh' eb=>⟨rfl,I.turned (t':=s.toks) (λb o hb q=>eb b o hb q) f0 f1 f3 f4 f5⟩
 self:=λA i s Q E st h=>let⟨⟨_,he⟩,_⟩:=st;dU he h
inductive Ly(K:Frag)(R:It->Hp->Prop)(vs:List V)(H1:Hp):Prop
 |mk:∀a xs,(vs=[.ref a])->(m5 K H1 a xs)->(R (Xa K a) H1)->Ly K R vs H1
def U9(K:Frag)(ta:TA):TI:=λσ H R=>ta σ H λvs H1=>Ly K R vs H1
theorem Pz(hg:Gl X "enumerate")(hm:X.mg "enumerate"=none)(ha:PA X [e] ta)(hs:starEach [e] X.env=[(false,eval e X.env)]:=by rfl):
  PI X (.Tuple elts kk Jt) (.Call (.Name "enumerate" p) [e] [] pos) (U9 X.K ta):=by
 intro pins s σ H R I h;refine Call_ (tV I hg hm boot_enumerate (bg (iO (ha pos pins s σ H _ I h) λus s1⟨vs,H1,I1,r1,q1⟩=>?_) hs rfl));obtain⟨a,xs,ex,hq,q⟩:=q1;subst ex;cases r1 with
 |cons r rr=>
  cases rr;cases r;obtain⟨its,rv,p',hz⟩:=I1.tuple hq;refine J9 (show s1.heap.IsTuple a its.toArray from p') λh' he hit hk=>dU he ?_;have I2:Inv X pins σ H1 {s1 with heap:=h'}:=I1.kept hk;refine⟨s1.heap.objs.size+1,[s1.heap.objs.size+1,s1.heap.objs.size],_,_,H1,rfl,I2,Ka a (s1.heap.objs.size+1) s1.heap.objs.size,⟨⟨.none,he⟩,hit,Nat.succ_ne_self _⟩,λb hb=>?_,q⟩;have e':b=s1.heap.objs.size+1\/b=s1.heap.objs.size:=by simpa using hb
  have hle:s1.heap.objs.size<=b:=by
   rcases e' with z|z
   .rw[z];exact Nat.le_add_right _ _
   rw[z];exact aH _
  exact I1.JJ hle (I1.gZ.fresh hle)
open AutoSeq1
def Sb(l:Addr)(items:Array Value)(n:Nat)(b:Addr)(items2:Array Value)(n2:Nat)(dct:Option Addr)(sl:Array (Option Value))(hs0:¬(!items.isEmpty&&Builtin.List.listTooLong (items.size+items2.size))=true)(hs1:items.size<=sizeLine)(hs2:items.size+items2.size<=sizeLine+1):
  Meets (Builtin.«list.extend» ⟨[.ref l,.ref b],[]⟩) (λ_ R s=>s.heap.get? l=some {cls:=.type "list",dict:=none,data:=.seq items n,slots:= #[]}/\s.heap.get? b=some {cls:=.type "tuple",dict:=dct,data:=.seq items2 n2,slots:=sl}/\R (.ok (.ret Value.none)) {s with heap:=s.heap.update l (Obj.mapSeq λx=>x++items2),toks:=s.toks}):=
 .of_wp λprog w A R s h=>by
  obtain _:=s;obtain⟨hl,hb,h⟩:=h;have YY:(items++items2).size<=sizeLine+1:=by rw[Array.size_append];exact hs2
  wp_walk using(wpAny_updateSeq hl rfl (_hz':=YY)),dF hl,dF hb
  exact⟨_,rfl,h⟩
inductive HQ(K:Frag)(x:V)(vs:List V)(H:Hp)(Q:VK):Prop
 |mk:∀l b xs zs,x=.ref l->vs=[.ref b]->H l=some (.lst xs)->m5 K H b zs->xs.length+zs.length<=sizeLine->Q .hJ (upd H l (.lst (xs++zs)))->HQ K x vs H Q
def Kb:ZF X "list.extend" (HQ X.K):=by
 intro pins s σ H x vs v us Q I rx rv h;obtain⟨l,b,_,_,rfl,rfl,hH,hB,_,q⟩:=h;cases rx;obtain⟨u,rfl,ru⟩:=rv.one;cases ru;obtain⟨z,its,n,r,hl,e⟩:=I.JU hH;obtain⟨Ed,r2,⟨⟨c2,d2,dt2,s2⟩,e2,Vv,n2,hd2⟩,hz2⟩:=I.tuple hB;have Vv:=Vv;have hd2:=hd2;subst Vv hd2;have XI:=r2.length;have hsz:its.toArray.size+Ed.toArray.size<=sizeLine:=by rw[aP,aP];omega
 have Jv:¬(!its.toArray.isEmpty&&Builtin.List.listTooLong (its.toArray.size+Ed.toArray.size))=true:=by
  rw[CO hsz,Bool.and_false];exact aD
 refine call_meets F.slot_list_extend ⟨_,e,rfl⟩ F.entry_list_extend (F.args_list_extend_2 _ _) (Sb l its.toArray n b Ed.toArray n2 d2 s2 Jv (by rw[aP];omega) (by omega)) ⟨e,e2,?_⟩;refine⟨.hJ,_,I.UN hH e (by simp) (r.append r2) ?_,rfl,q⟩;rw[aq];omega
inductive PB(P:Program)(w:World)(K:Frag)(Q:VK)(x:V)(y:V)(H2:Hp):Prop
 |mk:∀(d v:Addr)(i:Int),(x=.ref d)->(y=.int i)->(∀h:Heap,K.In h->∃f,h.MapOf (jM P w) d f/\f (Sum.inl i)=some (.ref v))->(Q (.ref v) H2)->PB P w K Q x y H2
def Xb(P:Program)(w:World)(K:Frag)(td ty:TE):TE:=λσ H Q=>td σ H λx H1=>ty σ H1 λy H2=>PB P w K Q x y H2
def Sd(ho:PE X o td)(hi:PE X i ty)(hs:UU i:=by exact λ_ _=>rfl):PE X (.Subscript o i pos) (Xb X.prog X.w X.K td ty):=by
 intro pins s σ H Q I h;refine Lm PySem.F.slot_dict_getitem.lookup hs (iO (ho pins s σ H _ I h) λu s1⟨x,H1,I1,rx,q1⟩=>iO (hi pins s1 σ H1 _ I1 q1) λiv s2⟨y,H2,I2,ry,d,v,j,ex,ey,hm,q2⟩=>?_);subst ex;subst ey;obtain rfl:u=Value.ref d:=rx;obtain⟨t,rfl⟩:=ry;obtain⟨f,m,hv⟩:=hm s2.heap I2.pS;exact⟨m.typeIs,wpAny_getItem_of (AQ X.prog X.w j t) m hv ⟨.ref v,H2,I2.tok _,rfl,q2⟩⟩
end LX
namespace MT
open Tilt
inductive fC{α β:Type}(R:α->β->Prop):Except Fault α->Except Fault β->Prop where
 |err (f:Fault):fC R (.error f) (.error f)
 |ok {a:α} {b:β} (h:R a b):fC R (.ok a) (.ok b)
theorem fC.bind
  (h:fC R x y) (k:∀a b,R a b->fC S (f a) (g b)):fC S (x>>=f) (y>>=g):=by
 cases h with
 |err f=>exact .err f
 |ok h=>exact k _ _ h
theorem fC.gc{α γ δ:Type}{S:γ->δ->Prop}{x:Except Fault α}{f:α->Except Fault γ}{g:α->Except Fault δ}
  (k:∀a,x=.ok a->fC S (f a) (g a)):fC S (x>>=f) (x>>=g):=by
 cases x with
 |error f=>exact .err f
 |ok a=>exact k a rfl
theorem fC.mono(h:fC R x y)(k:∀a b,R a b->S a b):fC S x y:=by
 cases h with
 |err f=>exact .err f
 |ok h=>exact .ok (k _ _ h)
noncomputable def nW(e:Nat)(l:List Word):Except Fault (Word×List Word):=do
 let x<-next e l
 if isName x.1.w=false then .error ⟨4,x.1.at_⟩else return x
noncomputable def vv(e:Nat)(had:List Bytes)(l:List Word):Except Fault (Word×List Word):=do
 let x<-nW e l
 if x.1.w∈had then .error ⟨5,x.1.at_⟩else return x
noncomputable def iU(e:Nat)(had:List Bytes)(l:List Word):Except Fault (Word×List Word):=do
 let x<-nW e l
 if x.1.w∈had then return x else .error ⟨6,x.1.at_⟩
noncomputable def ua(e:Nat)(bar:Bytes)(had:List Bytes)(l:List Word):Except Fault (Word×List Word):=do
 let x<-vv e had l
 if x.1.w=bar then .error ⟨4,x.1.at_⟩else return x
noncomputable def ji(w:Bytes):Option Nat:=if w=[]\/5<w.length\/(w.head?=some 48/\1<w.length)then none else
 if w.all isDigit=true then some (w.foldl (λn c=>10*n+(c.toNat - 48)) 0)else none
noncomputable def gU(e lo hi:Nat)(l:List Word):Except Fault ((Nat×Nat)×List Word):=do
 let x<-next e l
 match ji x.1.w with
 |none=>.error ⟨4,x.1.at_⟩
 |some n=>if n<lo\/hi<n then .error ⟨4,x.1.at_⟩else return ((n,x.1.at_),x.2)
structure fX where
 balls:Nat
 switches:List (Bytes×Nat):=[]
 lamps:List (Bytes×Nat):=[]
 coils:List (Bytes×Nat):=[]
 devices:List Bytes:=[]
 kicks:Nat:=0
 held:List Bytes:=[]
 fI:List Bytes:=[]
 drained:Nat:=0
 rank:Nat:=0
 last:Int:= -1
noncomputable abbrev nm(l:List (Bytes×Nat)):List Bytes:=l.map (·.1)
noncomputable def look(l:List (Bytes×Nat))(k:Bytes):Nat:=((l.find? λp=>p.1==k).map (·.2)).getD 0
noncomputable def kX(m:fX)(p a:Nat):Except Fault fX:=if(p:Int)<=m.last then .error ⟨5,a⟩else return {m with last:=p}
noncomputable def vw(e hi:Nat)(m:fX)(l:List Word):Except Fault ((Nat×fX)×List Word):=do
 let l1<-must e "at" l
 let x<-gU e 0 hi l1
 let m1<-kX m x.1.1 x.1.2
 return ((x.1.1,m1),x.2)
noncomputable def C6(e:Nat)(l:List Word):Except Fault fX:=do
 let l1<-must e "table" l
 let n<-nW e l1
 let l2<-must e "balls" n.2
 let b<-gU e 1 8 l2
 let _<-closed b.2
 return {balls:=b.1.1}
noncomputable def Cg(e:Nat)(m:fX)(l:List Word):Except Fault (fX×List Word):=do
 let n<-ua e DRAIN (nm m.switches) l
 let p<-vw e 63 m n.2
 let l1<-must e "close" p.2
 let c<-gU e 1 31 l1
 let l2<-must e "open" c.2
 let o<-gU e 1 31 l2
 let l3<-(if o.2=[]then pure []else must e "turned" o.2)
 return ({p.1.2 with switches:=p.1.2.switches++[(n.1.w,p.1.1)]},l3)
noncomputable def Lz(e:Nat)(m:fX)(l:List Word):Except Fault (fX×List Word):=do
 let n<-ua e LOOP (nm m.lamps) l
 let p<-vw e 63 m n.2
 return ({p.1.2 with lamps:=p.1.2.lamps++[(n.1.w,p.1.1)]},p.2)
noncomputable def HR(e:Nat)(m:fX)(l:List Word):Except Fault (fX×List Word):=do
 let n<-vv e (nm m.coils) l
 let p<-vw e 31 m n.2
 let l1<-must e "most" p.2
 let c<-gU e 1 1023 l1
 let l2<-must e "rest" c.2
 let o<-gU e 1 4095 l2
 let l3<-(if o.2=[]then pure []else do
  let l4<-must e "hold" o.2
  let h<-gU e 1 15 l4
  return h.2)
 return ({p.1.2 with coils:=p.1.2.coils++[(n.1.w,c.1.1)]},l3)
noncomputable def qf(e:Nat)(m:fX)(l:List Word):Except Fault (fX×List Word):=do
 let s<-iU e (nm m.switches) l
 if s.1.w∈m.held then .error ⟨7,s.1.at_⟩else return ({m with held:=m.held++[s.1.w]},s.2)
noncomputable def sV(e:Nat)(m:fX)(l:List Word):Except Fault (Word×List Word):=do
 let c<-iU e (nm m.coils) l
 if c.1.w∈m.fI then .error ⟨7,c.1.at_⟩else return c
noncomputable def jC(e:Nat):Nat->fX->Nat->List Word->Except Fault ((fX×Nat)×List Word)
 |0,m,n,l=>return ((m,n),l)
 |k+1,m,n,l=>match l with
  |[]=>return ((m,n),[])
  |w::r=>if w.w=DRAIN then return ((m,n),w::r)else do
   let x<-qf e m (w::r)
   jC e k x.1 (n+1) x.2
noncomputable def ub(e a:Nat)(m:fX)(l:List Word):Except Fault (fX×List Word):=
 if m.devices.length=8 then .error ⟨3,a⟩else do
 let n<-vv e m.devices l
 let l1<-must e "by" n.2
 let c<-sV e m l1
 let l2<-must e "holds" c.2
 let x<-qf e m l2
 let y<-jC e 7 x.1 1 x.2
 let z<-(if y.2=[]then pure (y.1.1,[])else do
  let l3<-must e "drain" y.2
  return ({y.1.1 with drained:=y.1.1.drained+y.1.2},l3))
 return ({z.1 with devices:=z.1.devices++[n.1.w],fI:=z.1.fI++[c.1.w]},z.2)
noncomputable def AW(e a:Nat)(m:fX)(l:List Word):Except Fault (fX×List Word):=
 if m.kicks=8 then .error ⟨3,a⟩else do
 let s<-iU e (nm m.switches) l
 let m1<-kX m (look m.switches s.1.w) s.1.at_
 let _<-(if s.1.w∈m1.held then .error ⟨7,s.1.at_⟩else pure ())
 let c<-sV e m1 s.2
 let l1<-must e "for" c.2
 let t<-gU e 1 255 l1
 let _<-(if look m1.coils c.1.w<t.1.1 then .error ⟨7,t.1.2⟩else pure ())
 let l2<-(if t.2=[]then pure []else do
  let l3<-must e "till" t.2
  let u<-iU e (nm m1.switches) l3
  if u.1.w=s.1.w then .error ⟨7,u.1.at_⟩else return u.2)
 return ({m1 with fI:=m1.fI++[c.1.w],kicks:=m1.kicks+1},l2)
noncomputable def vx:List Bytes:=[ascii "switch",ascii "lamp",ascii "coil",ascii "device",ascii "kick"]
noncomputable def ng(r:Nat)(w:Bytes):Option Nat:=(List.range' r (5 - r)).find? λi=>vx[i]? ==some w
noncomputable def pf(m:fX)(r:Nat):fX:=if r=m.rank then m else{m with rank:=r,last:= -1}
noncomputable def E5(e a:Nat)(m:fX)(l:List Word):Except Fault (fX×List Word):=
 if m.rank=0 then Cg e m l else if m.rank=1 then Lz e m l else if m.rank=2 then HR e m l else if m.rank=3 then ub e a m l else AW e a m l
noncomputable def lY(e:Nat)(m:fX)(l:List Word):Except Fault fX:=do
 let x<-next e l
 match ng m.rank x.1.w with
 |none=>.error ⟨3,x.1.at_⟩
 |some r=>do
  let y<-E5 e x.1.at_ (pf m r) x.2
  let _<-closed y.2
  return y.1
theorem LB:∀(w:Bytes)(n:Nat),n*10^w.length<=w.foldl (λ(n:Nat)(c:UInt8)=>10*n+(c.toNat - 48)) n
 |[],n=>by simp
 |c::r,n=>by
  have h:=LB r (10*n+(c.toNat - 48));refine a7 ?_ h;rw[aF,Nat.pow_succ]
  calc n*(10^r.length*10)=(10*n)*10^r.length:=by rw[mul_comm (10^r.length) 10,<-Nat.mul_assoc,mul_comm n 10]
   _<=(10*n+(c.toNat - 48))*10^r.length:=bW _ (by omega)
def C7(h:isDigit c=true):48<=c.toNat/\c.toNat<=57:=by
 unfold isDigit at h;simp at h;have h1:=cY.mp h.1;have h2:=cY.mp h.2;exact⟨h1,h2⟩
def NR(h:numberOf w=none):ji w=none:=by
 unfold numberOf at h;unfold ji;split at h
 .rename_i z;rcases z with z|z|⟨z1,z2⟩
  .rw[ak (.inl (List.isEmpty_iff.mp z))]
  .split
   .rfl
   rw[ag (by rw[z];simp)]
  cases w with
  |nil=>simp at z1
  |cons c s=>
   cases s with
   |nil=>simp at z1;subst z1;exact absurd rfl z2
   |cons=>rw[ak (.inr (.inr ⟨z1,by simp⟩))]
 cases h
def NS(h:numberOf w=some n):ji w=some n\/(ji w=none/\100000<=n):=by
 unfold numberOf at h;split at h
 .cases h
 rename_i z;have h':=ao h;have z0:w≠[]:=λq=>z (.inl (by rw[q];rfl))
 have z1:w.all isDigit=true:=by
  cases q:w.all isDigit with
  |true=>rfl
  |false=>exact absurd (.inr (.inl q)) z
 have z2:¬(w.head?=some 48/\1<w.length):=λq=>z (.inr (.inr ⟨q.1,λy=>by rw[y]at q;simp at q⟩));by_cases h5:5<w.length
 .refine .inr ⟨by unfold ji;rw[ak (.inr (.inl h5))],?_⟩;rw[<-h'];cases w with
  |nil=>exact absurd rfl z0
  |cons c s=>
   have hc:=C7 (b6.mp z1 c (aM ..))
   have Vv:c.toNat≠48:=λy=>by
    apply z2;have:c=48:=eC.mp y;subst this;simp at h5⊢;omega
   have g:=LB s (10*0+(c.toNat - 48));have hl:5<=s.length:=by simp at h5;omega
   have hp:10^5<=10^s.length:=dg (by decide) hl;have h1:1*10^5<=(10*0+(c.toNat - 48))*10^s.length:=Nat.mul_le_mul (by omega) hp;rw[cM];have ad6:(10:Nat)^5=100000:=by decide
   omega
 refine .inl ?_;unfold ji;rw[ag (by rintro(y|y|y);exact z0 y;exact h5 y;exact z2 y),ak z1,h']
theorem lD(hh:hi<100000):gU e lo hi l=number e lo hi l:=by
 cases l with
 |nil=>rfl
 |cons x r=>
  show(match ji x.w with
   |none=>Except.error (Fault.mk 4 x.at_)
   |some n=>if n<lo\/hi<n then Except.error (Fault.mk 4 x.at_)else Except.ok ((n,x.at_),r))=(match numberOf x.w with
   |none=>Except.error (Fault.mk 4 x.at_)
   |some n=>if n<lo\/hi<n then Except.error (Fault.mk 4 x.at_)else Except.ok ((n,x.at_),r))
  cases q:numberOf x.w with
  |none=>rw[NR q]
  |some n=>
   rcases NS q with z|⟨z,y⟩
   .rw[z]
   rw[z];show Except.error _=if _ then _ else _
   rw[ak (.inr (by omega))]
theorem yN:fC (λ(a:Word×List Word)(b:Bytes×List Word)=>a.1.w=b.1/\a.2=b.2/\a.1.w∉had) (vv e had l) (newName e had l):=by
 cases l with
 |nil=>exact .err _
 |cons x r=>
  unfold vv nW newName next;simp only[Bind.bind,Except.bind];by_cases h:isName x.w=false
  .simp only[h,dj];exact .err _
  simp only[h,bS,bF];by_cases h2:x.w∈had
  .have:had.contains x.w=true:=by simpa using h2
   simp[h2,this,pure,Except.pure];exact .err _
  have:had.contains x.w=false:=by simpa using h2
  simp[h2,this,pure,Except.pure];exact .ok ⟨rfl,rfl,h2⟩
theorem sW:fC (λ(a:Word×List Word)(b:(Nat×Nat)×List Word)=>a.2=b.2/\a.1.at_=b.1.2/\had[b.1.1]? =some a.1.w) (iU e had l) (known e had l):=by
 cases l with
 |nil=>exact .err _
 |cons x r=>
  unfold iU nW known next;simp only[Bind.bind,Except.bind];by_cases h:isName x.w=false
  .simp only[h,dj];exact .err _
  simp only[h,bS,bF];cases q:had.findIdx? λn=>n==x.w with
  |none=>
   have h2:x.w∉had:=λm=>by
    have:=cv.mp q x.w m;simp at this
   simp[h2,pure,Except.pure];exact .err _
  |some i=>
   obtain⟨hi,e1,_⟩:=bZ.mp q;have e2:had[i]=x.w:=by simpa using e1
   have h2:=e2▸ek hi;simp[h2,pure,Except.pure];refine .ok ⟨rfl,rfl,?_⟩;rw[az hi,e2]
noncomputable def places(T:Table)(r:Nat):List Nat:=if r=0 then T.switches.map (·.place)else if r=1 then T.lamps.map (·.place)else if r=2 then T.coils.map (·.place)else if r=3 then []else T.kicks.map (·.first)
structure Rel(m:fX)(s:Nat)(T:Table):Prop where
 balls:m.balls=T.balls
 sw:m.switches=T.switches.map λs=>(s.name,s.place)
 la:m.lamps=T.lamps.map λs=>(s.name,s.place)
 co:m.coils=T.coils.map λc=>(c.name,c.most)
 de:m.devices=T.devices.map (·.name)
 ki:m.kicks=T.kicks.length
 hd:∀z∈T.switches,(z.name∈m.held↔z.place∈T.held)
 sv:∀c∈T.coils,(c.name∈m.fI↔(T.devices.any (λd=>d.coil==c.place)||T.kicks.any λk=>k.coil==c.place)=true)
 dr:m.drained=T.room
 rk:m.rank=s - 1
 so:s<=5
 lst:∀p:Nat,((p:Int)<=m.last)↔¬((places T m.rank).all λq=>decide (q<p))=true
 h0:m.rank<3->m.held=[]
 s0:m.rank<3->m.fI=[]
 e1:m.rank<1->T.lamps=[]
 e2:m.rank<2->T.coils=[]
 e3:m.rank<3->T.devices=[]
 e4:m.rank<4->T.kicks=[]
 V2:(T.switches.map (·.name)).Nodup
 Xc:(T.switches.map (·.place)).Nodup
 ZR:(T.lamps.map (·.name)).Nodup
 YH:(T.lamps.map (·.place)).Pairwise (·< ·)
 Xd:∀l∈T.lamps,l.place<64
 Xe:(T.coils.map (·.name)).Nodup
 YI:(T.coils.map (·.place)).Nodup
 ZS:DRAIN∉nm m.switches
 YJ:LOOP∉nm m.lamps
 l8:T.devices.length<=8
 k8:T.kicks.length<=8
def Ci:must e s l=(next e l>>=λx=>if x.1.w=ascii s then .ok x.2 else .error ⟨3,x.1.at_⟩):=rfl
def Ap{e hi:Nat}(hh:hi<100000)(hl:∀p:Nat,((p:Int)<=m.last)↔¬(had.all λq=>decide (q<p))=true):
  fC (λ(a:(Nat×fX)×List Word)(b:Nat×List Word)=>a.1.1=b.1/\a.2=b.2/\a.1.2={m with last:=b.1}/\b.1<=hi/\(had.all λq=>decide (q<b.1))=true) (vw e hi m l) ((must e "at" l)>>=λl1=>place e hi had l1):=by
 refine fC.gc λl1 h1=>?_;rw[lD hh];refine fC.gc λx hx=>?_
 have aaH:x.1.1<=hi:=by
  unfold number at hx;cases l1 with
  |nil=>cases hx
  |cons c r=>
   simp only[next,Bind.bind,Except.bind]at hx;split at hx
   .cases hx
   split at hx
   .cases hx
   rename_i z;cases hx;dsimp only;omega
 unfold kX holds;by_cases h:(x.1.1:Int)<=m.last
 .have:=(hl x.1.1).mp h;simp only[h,dj,this,bS,Bind.bind,Except.bind];exact .err _
 have h':(had.all λq=>decide (q<x.1.1))=true:=by
  cases z:had.all λq=>decide (q<x.1.1)with
  |true=>rfl
  |false=>exact absurd ((hl x.1.1).mpr (by rw[z];simp)) h
 simp only[h,bS,h',dj,Bind.bind,Except.bind,pure,Except.pure];exact .ok ⟨rfl,rfl,rfl,aaH,h'⟩
def om(h:l.Nodup)(n:a∉l):(l++[a]).Nodup:=by
 rw[List.nodup_append];exact⟨h,by simp,λx hx y hy z=>n (by simp at hy;subst hy;subst z;exact hx)⟩
def E6{p:Nat}{had:List Nat}(h:(had.all λq=>decide (q<p))=true):p∉had:=λm=>by
 have:=b6.mp h p m;simp at this
def sX{p:Nat}{had:List Nat}(h:(had.all λq=>decide (q<p))=true):∀r:Nat,((r:Int)<=(p:Int))↔¬((had++[p]).all λq=>decide (q<r))=true:=by
 intro r;constructor
 .intro hr z;have:=b6.mp z p (by simp);simp at this;omega
 intro z;refine Int.ofNat_le.mpr (Nat.le_of_not_lt λq=>z (b6.mpr λx hx=>?_));rcases aG.mp hx with m|m
 .have:=b6.mp h x m;simp at this⊢;omega
 simp at m;subst m;simpa using q
def fC.HS
  (h:fC R x (y1>>=y2)) (k:∀a b,R a b->fC S (f a) (g b)):fC S (x>>=f) (y1>>=λa=>y2 a>>=g):=by
 have e:(y1>>=λa=>y2 a>>=g)=((y1>>=y2)>>=g):=by cases y1<;>rfl
 rw[e];exact h.bind k
def fC.assoc(h:fC S (x>>=λa=>f a>>=g) y):fC S ((x>>=f)>>=g) y:=by
 cases x<;>exact h
theorem LC(hb:bar∉had)(hn:isName bar=true):
  fC (λ(a:Word×List Word)(b:Bytes×List Word)=>a.1.w=b.1/\a.2=b.2/\a.1.w∉had/\a.1.w≠bar) (ua e bar had l) (notCalled bar l>>=λ_=>newName e had l):=by
 cases l with
 |nil=>exact .err _
 |cons x r=>
  unfold ua notCalled holds;by_cases h:x.w=bar
  .have h1:(x.w !=bar)=false:=by simpa using h
   have e1:vv e had (x::r)=.ok (x,r):=by
    unfold vv nW next;simp[Bind.bind,Except.bind,h,hn,hb,pure,Except.pure]
   rw[e1];simp only[Bind.bind,Except.bind,h,h1,dj,bne_self_eq_false,bF,bS];exact .err _
  have h1:(x.w !=bar)=true:=by simpa using h
  show fC _ _ (((if(x.w !=bar)=true then Except.ok ()else Except.error (Fault.mk 4 x.at_)):Except Fault Unit)>>=λ_=>newName e had (x::r));rw[h1,ak rfl];show fC _ _ (newName e had (x::r));have q:=yN (e:=e) (had:=had) (l:=x::r);generalize q1:vv e had (x::r)=u at q;generalize q2:newName e had (x::r)=v at q;cases q with
  |err f=>exact .err f
  | @ok a b z=>
   have ha:a.1=x:=by
    unfold vv nW next at q1;simp only[Bind.bind,Except.bind]at q1;split at q1
    .cases q1
    rename_i z1;split at z1
    .cases z1
    cases z1;split at q1
    .cases q1
    cases q1;rfl
   rw[<-ha]at h;show fC _ (if a.1.w=bar then _ else _) _;rw[ag h];exact .ok ⟨z.1,z.2.1,z.2.2,h⟩
def E7{l:List Switch}:nm (l.map λs=>(s.name,s.place))=l.map (·.name):=by simp
def TK{l:List Lamp}:nm (l.map λs=>(s.name,s.place))=l.map (·.name):=by simp
def E8{l:List Coil}:nm (l.map λs=>(s.name,s.most))=l.map (·.name):=by simp
def Va:isName DRAIN=true:=by decide
def Xf:isName LOOP=true:=by decide
def all_map{α:Type}{l:List α}{g:α->Nat}{p:Nat}:((l.map g).all λq=>decide (q<p))=(l.all λa=>decide (g a<p)):=by simp;rfl
def LD{p:Nat}{l:List Nat}(h:l.Pairwise (·< ·))(a:(l.all λq=>decide (q<p))=true):(l++[p]).Pairwise (·< ·):=by
 rw[List.pairwise_append];refine⟨h,by simp,λx hx y hy=>?_⟩;have:=b6.mp a x hx;simp at this hy;omega
theorem Kc{m:fX}{s:Nat}{T:Table}(R:Rel m s T)(hr:m.rank=0)(e:Nat)(l:List Word):
  fC (λa b=>Rel a 1 b) (Cg e m l>>=λz=>closed z.2>>=λ_=>pure z.1) (switchIn e T l):=by
 refine fC.assoc (fC.HS (LC R.ZS Va |> λh=>by rw[R.sw,E7]at h⊢;exact h) λn b hn=>?_);obtain⟨h1,h2,h3,h4⟩:=hn;rw[h2];have hp:places T m.rank=T.switches.map (·.place):=by rw[hr];rfl
 refine fC.assoc (fC.HS (Ap (by decide) (by rw[<-hp];exact R.lst)) λp q hq=>?_);obtain⟨p1,p2,p3,p4,p5⟩:=hq;rw[p2];refine fC.assoc (fC.gc λl1 _=>?_);rw[lD (by decide)];refine fC.assoc (fC.gc λc _=>?_);refine fC.assoc (fC.gc λl2 _=>?_);rw[lD (by decide)];refine fC.assoc (fC.gc λo _=>?_)
 have key:∀t:Bool,Rel {p.1.2 with switches:=p.1.2.switches++[(n.1.w,p.1.1)]} 1 {T with switches:=T.switches++[⟨q.1,c.1.1,o.1.1,t,b.1⟩]}:=by
  intro t;rw[p3,p1,h1];have JE:b.1∉T.switches.map (·.name):=by rw[<-h1];exact h3
  refine{R with sw:=?_,hd:=?_,rk:=hr,so:=by decide,lst:=?_,V2:=?_,Xc:=?_,ZS:=?_}
  .rw[R.sw,aL];rfl
  .intro s yt;have hh:T.held=[]:=by unfold Table.held;rw[R.e3 (by omega)];rfl
   have Vw:Table.held {T with switches:=T.switches++[⟨q.1,c.1.1,o.1.1,t,b.1⟩]}=[]:=hh;rw[Vw,show({m with last:=(q.1:Int),switches:=m.switches++[(b.1,q.1)]}:fX).held=[]from R.h0 (by omega)];simp
  .intro r;rw[hr];show((r:Int)<=(q.1:Int))↔¬(((T.switches++_).map (·.place)).all _)=true;rw[aL];exact sX p5 r
  .rw[aL];exact om R.V2 JE
  .rw[aL];exact om R.Xc (E6 p5)
  unfold nm;rw[aL];intro z;rcases aG.mp z with z|z
  .exact R.ZS z
  simp at z;exact h4 (by rw[h1];exact z.symm)
 refine fC.assoc ?_;generalize o.2=lo;cases lo with
 |nil=>exact .ok (key false)
 |cons x r=>
  simp;refine fC.gc λl1 _=>?_;exact fC.gc λ_ _=>.ok (key true)
def PD(R:Rel m s T)(hr:m.rank=1)(e:Nat)(l:List Word):
  fC (λa b=>Rel a 2 b) (Lz e m l>>=λz=>closed z.2>>=λ_=>pure z.1) (lampIn e T l):=by
 refine fC.assoc (fC.HS (LC R.YJ Xf |> λh=>by rw[R.la,TK]at h⊢;exact h) λn b hn=>?_);obtain⟨h1,h2,h3,h4⟩:=hn;rw[h2];have hp:places T m.rank=T.lamps.map (·.place):=by rw[hr];rfl
 refine fC.assoc (fC.HS (Ap (by decide) (by rw[<-hp];exact R.lst)) λp q hq=>?_);obtain⟨p1,p2,p3,p4,p5⟩:=hq;rw[p2];refine fC.gc λ_ _=>.ok ?_;rw[p3,p1,h1];have JE:b.1∉T.lamps.map (·.name):=by rw[<-h1];exact h3
 refine{R with la:=?_,rk:=hr,so:=by decide,lst:=?_,e1:=λz=>?_,ZR:=?_,YH:=?_,Xd:=?_,YJ:=?_}
 .rw[R.la,aL];rfl
 .intro r;rw[hr];show((r:Int)<=(q.1:Int))↔¬(((T.lamps++_).map (·.place)).all _)=true;rw[aL];exact sX p5 r
 .have z':m.rank<1:=z;omega
 .rw[aL];exact om R.ZR JE
 .rw[aL];exact LD R.YH p5
 .intro z hz;rcases aG.mp hz with w|w
  .exact R.Xd z w
  simp at w;subst w;show q.1<64;omega
 unfold nm;rw[aL];intro z;rcases aG.mp z with z|z
 .exact R.YJ z
 simp at z;exact h4 (by rw[h1];exact z.symm)
theorem PF{m:fX}{s:Nat}{T:Table}(R:Rel m s T)(hr:m.rank=2)(e:Nat)(l:List Word):
  fC (λa b=>Rel a 3 b) (HR e m l>>=λz=>closed z.2>>=λ_=>pure z.1) (coilIn e T l):=by
 unfold HR coilIn;have hq:=yN (e:=e) (had:=nm m.coils) (l:=l);rw[R.co,E8]at hq;rw[R.co,E8];refine fC.assoc (hq.bind λn b hn=>?_);obtain⟨h1,h2,h3⟩:=hn;rw[h2];have hp:places T m.rank=T.coils.map (·.place):=by rw[hr];rfl
 refine fC.assoc (fC.HS (Ap (m:=m) (had:=T.coils.map (·.place)) (by decide) (by rw[<-hp];exact R.lst)) λp q hq=>?_);obtain⟨_,p2,p3,_,p5⟩:=hq;rw[p2];refine fC.assoc (fC.gc λl1 _=>?_);rw[lD (by decide)];refine fC.assoc (fC.gc λc _=>?_);refine fC.assoc (fC.gc λl2 _=>?_);rw[lD (by decide)];refine fC.assoc (fC.gc λo _=>?_)
 have key:∀t:Nat,Rel {p.1.2 with coils:=p.1.2.coils++[(n.1.w,c.1.1)]} 3 {T with coils:=T.coils++[⟨q.1,c.1.1,o.1.1,t,b.1⟩]}:=by
  intro t;rw[p3,h1];have JE:b.1∉T.coils.map (·.name):=by rw[<-h1];exact h3
  refine{R with co:=?_,sv:=?_,rk:=hr,so:=by decide,lst:=?_,e2:=λz=>?_,Xe:=?_,YI:=?_}
  .rw[R.co,aL];rfl
  .intro s yt;have d0:=R.e3 (by omega);have k0:=R.e4 (by omega);rw[d0,k0,R.s0 (by omega)];simp
  .intro r;rw[hr];show((r:Int)<=(q.1:Int))↔¬(((T.coils++_).map (·.place)).all _)=true;rw[aL];exact sX p5 r
  .have z':m.rank<2:=z;omega
  .rw[aL];exact om R.Xe JE
  rw[aL];exact om R.YI (E6 p5)
 refine fC.assoc ?_;generalize o.2=lo;cases lo with
 |nil=>exact .ok (key 0)
 |cons x r=>
  simp only[List.isEmpty_cons,bF,bS,reduceCtorEq];refine fC.assoc (fC.gc λl1 _=>?_);rw[lD (by decide)];refine fC.assoc (fC.gc λh _=>?_);exact fC.gc (S:=λa b=>Rel a 3 b) λ_ _=>.ok (key _)
theorem lE:∀{l:List α},(l.map f).Nodup->∀{a b:α},a∈l->b∈l->f a=f b->a=b
 |[],_,_,_,h,_,_=>by simp at h
 |x::r,hn,a,b,ha,hb,e=>by
  rw[bJ,eO]at hn;rcases aA.mp ha with ha'|ha'
  .rcases aA.mp hb with hb'|hb'
   .rw[ha',hb']
   exact absurd (dE.mpr ⟨b,hb',by rw[<-e,ha']⟩) hn.1
  rcases aA.mp hb with hb'|hb'
  .exact absurd (dE.mpr ⟨a,ha',by rw[e,hb']⟩) hn.1
  exact lE hn.2 ha' hb' e
theorem Gg:∀{k:Bytes}{v:Nat},(l.map (·.1)).Nodup->(k,v)∈l->look l k=v:=by
 induction l with
 |nil=>intro k v _ h;simp at h
 |cons x r ih=>
  intro k v hn h;rw[bJ,eO]at hn;unfold look;rw[c9];rcases aA.mp h with rfl|h
  .simp
  have:(x.1==k)=false:=by
   refine cg.mpr λz=>hn.1 (z▸dE.mpr ⟨(k,v),h,rfl⟩)
  rw[this];exact ih hn.2 h
def Se{l:List Switch}{z:Switch}(hn:(l.map (·.name)).Nodup)(h:z∈l):look (l.map λs=>(s.name,s.place)) z.name=z.place:=
 Gg (by rw[cG];exact hn) (dE.mpr ⟨z,h,rfl⟩)
def Sf{l:List Coil}{z:Coil}(hn:(l.map (·.name)).Nodup)(h:z∈l):look (l.map λs=>(s.name,s.most)) z.name=z.most:=
 Gg (by rw[cG];exact hn) (dE.mpr ⟨z,h,rfl⟩)
theorem wx{α:Type}{g:α->Bytes}{l:List α}{i:Nat}{w:Bytes}(h:(l.map g)[i]? =some w):∃z,l[i]? =some z/\g z=w/\z∈l:=by
 rw[aK]at h;cases e:l[i]? with
 |none=>rw[e]at h;cases h
 |some z=>rw[e]at h;exact⟨z,rfl,ao h,aR e⟩
structure Hl(m0 m:fX)(T:Table)(had:List Nat)(n:Nat):Prop where
 eq:m={m0 with held:=m.held}
 mem:∀s∈T.switches,(s.name∈m.held↔s.place∈T.held++had)
 len:n=had.length
def HU{m0 m:fX}{T:Table}(H:Hl m0 m T had n)(hs:m0.switches=T.switches.map λs=>(s.name,s.place))(nd:(T.switches.map (·.name)).Nodup)(np:(T.switches.map (·.place)).Nodup):
  fC (λ(a:fX×List Word)(b:List Nat×List Word)=>a.2=b.2/\b.1≠[]/\Hl m0 a.1 T b.1 (n+1)) (qf e m l)
   (known e (T.switches.map λ(s:Switch)=>s.name) l>>=λx=>holds (!(T.held++had).contains (((T.switches[x.1.1]?).map λ(s:Switch)=>s.place).getD 0)) 7 x.1.2>>=λ_=>pure (had++[((T.switches[x.1.1]?).map λ(s:Switch)=>s.place).getD 0],x.2)):=by
 unfold qf;have e1:nm m.switches=T.switches.map (·.name):=by rw[H.eq];show nm m0.switches=_;rw[hs,E7]
 rw[e1];refine sW.bind λa b hab=>?_;obtain⟨h1,h2,h3⟩:=hab;obtain⟨z,hz,hw,hm⟩:=wx h3;rw[hz,h1,h2];show fC _ (if a.1.w∈m.held then _ else _) (holds (!(T.held++had).contains z.place) 7 b.1.2>>=λ_=>_);rw[<-hw];unfold holds;by_cases q:z.name∈m.held
 .have q2:=(H.mem z hm).mp q;have q3:(T.held++had).contains z.place=true:=by simpa using q2
  rw[ak q,q3];exact .err _
 have q2:¬z.place∈T.held++had:=λw=>q ((H.mem z hm).mpr w);have q3:(T.held++had).contains z.place=false:=by simpa using q2
 rw[ag q,q3];refine .ok ⟨rfl,by simp,⟨?_,?_,?_⟩⟩
 .rw[H.eq]
 .intro s yt;show s.name∈m.held++[z.name]↔s.place∈T.held++(had++[z.place]);rw[<-a0,mem_append,mem_append,H.mem s yt];refine or_congr Iff.rfl ?_;simp;constructor
  .intro w;rw[lE nd yt hm w]
  intro w;rw[lE np yt hm w]
 rw[aq,H.len];rfl
noncomputable def vy(e:Nat)(y:(fX×Nat)×List Word):Except Fault (fX×List Word):=if y.2=[]then pure (y.1.1,[])else do
  let l3<-must e "drain" y.2
  return ({y.1.1 with drained:=y.1.1.drained+y.1.2},l3)
theorem E9(hs:m0.switches=T.switches.map λs=>(s.name,s.place))(nd:(T.switches.map (·.name)).Nodup)(np:(T.switches.map (·.place)).Nodup):
  ∀(k:Nat)(m:fX)(had:List Nat)(n:Nat)(l:List Word),Hl m0 m T had n->had≠[]->
  fC (λ(a:fX)(b:List Nat×Bool)=>a={m0 with held:=a.held,drained:=m0.drained+(if b.2=true then b.1.length else 0)}/\∀s∈T.switches,(s.name∈a.held↔s.place∈T.held++b.1))
   (jC e k m n l>>=λy=>vy e y>>=λz=>closed z.2>>=λ_=>pure z.1) (heldIn e T k had l)
 |k,m,had,n,[],H,hne=>by
  have e1:jC e k m n []=pure ((m,n),[]):=by cases k<;>rfl
  have e2:heldIn e T k had []=.ok (had,false):=by
   cases k with
   |zero=>rfl
   |succ k=>
    cases had with
    |nil=>exact absurd rfl hne
    |cons=>rfl
  rw[e1,e2];refine .ok ⟨?_,H.mem⟩;have:=H.eq;rw[this];simp
 |k,m,had,n,w::r,H,hne=>by
  by_cases hd:w.w=DRAIN
  .have e1:jC e k m n (w::r)=pure ((m,n),w::r):=by
    cases k with
    |zero=>rfl
    |succ k=>show(if w.w=DRAIN then _ else _)=_;rw[ak hd]
   have e2:heldIn e T k had (w::r)=(closed r).map λ_=>(had,true):=by
    cases k with
    |zero=>show(if w.w=DRAIN then _ else _)=_;rw[ak hd]
    |succ k=>
     cases had with
     |nil=>exact absurd rfl hne
     |cons a had=>show(if _/\w.w=DRAIN then _ else _)=_;rw[ak ⟨hne,hd⟩]
   rw[e1,e2];have Eb:w.w=ascii "drain":=hd;show fC _ ((vy e ((m,n),w::r))>>=_) _;unfold vy;rw[ag (by simp)];show fC _ (((must e "drain" (w::r))>>=_)>>=_) _;rw[show must e "drain" (w::r)=.ok r from by rw[Ci];show(if w.w=ascii "drain" then _ else _)=_;rw[ak Eb]];cases r with
   |cons x r=>exact .err _
   |nil=>
    refine .ok ⟨?_,H.mem⟩;rw[H.eq,H.len];rfl
  cases k with
  |zero=>
   show fC _ (vy e ((m,n),w::r)>>=_) (if w.w=DRAIN then _ else _);rw[ag hd];unfold vy;rw[ag (by simp)];rw[show must e "drain" (w::r)=.error ⟨3,w.at_⟩from by rw[Ci];show(if w.w=ascii "drain" then _ else _)=_;rw[ag (show¬w.w=ascii "drain" from hd)]];exact .err _
  |succ k=>
   have e2:heldIn e T (k+1) had (w::r)=((known e (T.switches.map λs=>s.name) (w::r)>>=λx=>holds (!(T.held++had).contains (((T.switches[x.1.1]?).map λs=>s.place).getD 0)) 7 x.1.2>>=λ_=>pure (had++[((T.switches[x.1.1]?).map λs=>s.place).getD 0],x.2))>>=λz=>heldIn e T k z.1 z.2):=by
    cases had with
    |nil=>exact absurd rfl hne
    |cons a had=>
     show(if _/\w.w=DRAIN then _ else _)=_;rw[ag λz=>hd z.2];cases known e (T.switches.map λs=>s.name) (w::r)with
     |error f=>rfl
     |ok x=>
      show(holds _ _ _>>=_)=((holds _ _ _>>=_)>>=_);cases holds (!(T.held++(a::had)).contains (((T.switches[x.1.1]?).map λ(s:Switch)=>s.place).getD 0)) 7 x.1.2<;>rfl
   have e1:jC e (k+1) m n (w::r)=(qf e m (w::r)>>=λx=>jC e k x.1 (n+1) x.2):=by
    show(if w.w=DRAIN then _ else _)=_;rw[ag hd]
   rw[e1,e2];refine fC.assoc ((HU H hs nd np).bind λa b hab=>?_);obtain⟨h1,h2,h3⟩:=hab;rw[h1];exact E9 hs nd np k a.1 b.1 (n+1) b.2 h3 h2
def NT(T:Table)(d:Device):Table.room {T with devices:=T.devices++[d]}=T.room+(if d.drain=true then d.at_.length else 0):=by
 unfold Table.room;show(((T.devices++[d]).filter _).map _).foldl _ 0=_;rw[cT,aL,eD];by_cases h:d.drain=true
 .simp[dh,h]
 simp[dh,h]
def Kd{s:Nat}(R:Rel m s T)(hr:m.rank=3)(hl:T.devices.length<8)(e a:Nat)(l:List Word):
  fC (λa b=>Rel a 4 b) (ub e a m l>>=λz=>closed z.2>>=λ_=>pure z.1) (deviceIn e T l):=by
 unfold ub deviceIn;have XE:¬m.devices.length=8:=by rw[R.de,aw];omega
 rw[ag XE,R.de];refine fC.assoc (yN.bind λn nb hn=>?_);obtain⟨h1,h2,h3⟩:=hn;rw[h2];refine fC.assoc (fC.gc λl1 _=>?_);unfold sV coilNamed;rw[R.co,E8];refine fC.assoc ?_;refine fC.assoc ?_;have Vx:∀{α β γ:Type}(x:Except Fault α)(f:α->β)(g:β->Except Fault γ),((x>>=λa=>(pure (f a):Except Fault β))>>=g)=(x>>=λa=>g (f a)):=λx f g=>by cases x<;>rfl
 rw[Vx];refine sW.bind λc x hc=>?_;obtain⟨c1,c2,c3⟩:=hc;obtain⟨z,hz,hw,hm⟩:=wx c3;rw[hz];show fC _ ((if c.1.w∈m.fI then _ else _)>>=_) (holds (!(T.devices.any λd=>d.coil==z.place)) 7 x.1.2>>=λ_=>must e "holds" x.2>>=_);have k0:T.kicks=[]:=R.e4 (by omega);have svz:=R.sv z hm;rw[k0]at svz;simp only[List.any_nil,Bool.or_false]at svz;rw[hw]at svz;unfold holds;by_cases q:c.1.w∈m.fI
 .rw[ak q,svz.mp q,c2];exact .err _
 have q2:(T.devices.any λd=>d.coil==z.place)=false:=by
  cases w:T.devices.any λd=>d.coil==z.place with
  |false=>rfl
  |true=>exact absurd (svz.mpr w) q
 rw[ag q,q2];show fC _ (must e "holds" c.2>>=_>>=_) (must e "holds" x.2>>=_);rw[c1];refine fC.assoc (fC.gc λl2 _=>?_);have H0:Hl m m T [] 0:=⟨rfl,λs yt=>by rw[bK];exact R.hd s yt,rfl⟩
 have e2:heldIn e T 8 [] l2=((known e (T.switches.map λs=>s.name) l2>>=λx=>holds (!(T.held++[]).contains (((T.switches[x.1.1]?).map λ(s:Switch)=>s.place).getD 0)) 7 x.1.2>>=λ_=>pure ([]++[((T.switches[x.1.1]?).map λs=>s.place).getD 0],x.2))>>=λz=>heldIn e T 7 z.1 z.2):=by
  cases l2 with
  |nil=>rfl
  |cons w r=>
   rw[heldIn];rw[ag λz=>z.1 rfl];cases known e (T.switches.map λs=>s.name) (w::r)with
   |error f=>rfl
   |ok x=>
    show(holds _ _ _>>=_)=((holds _ _ _>>=_)>>=_);cases holds (!(T.held++[]).contains (((T.switches[x.1.1]?).map λ(s:Switch)=>s.place).getD 0)) 7 x.1.2<;>rfl
 rw[e2];refine fC.assoc ?_
 have big:fC (λa b=>a={m with held:=a.held,drained:=m.drained+(if b.2=true then b.1.length else 0)}/\∀s∈T.switches,(s.name∈a.held↔s.place∈T.held++b.1))
   (qf e m l2>>=λx=>jC e 7 x.1 1 x.2>>=λy=>vy e y>>=λz=>closed z.2>>=λ_=>pure z.1)
   ((known e (T.switches.map λs=>s.name) l2>>=λx=>holds (!(T.held++[]).contains (((T.switches[x.1.1]?).map λ(s:Switch)=>s.place).getD 0)) 7 x.1.2>>=λ_=>pure ([]++[((T.switches[x.1.1]?).map λs=>s.place).getD 0],x.2))>>=λz=>heldIn e T 7 z.1 z.2):=by
  refine(HU H0 R.sw R.V2 R.Xc).bind λa b hab=>?_;obtain⟨g1,g2,g3⟩:=hab;rw[g1];exact E9 R.sw R.V2 R.Xc 7 a.1 b.1 1 b.2 g3 g2
 have re:∀(f:fX->fX),(qf e m l2>>=λx=>(jC e 7 x.1 1 x.2>>=λy=>vy e y>>=λz=>(pure (f z.1,z.2):Except Fault (fX×List Word)))>>=λz=>closed z.2>>=λ_=>pure z.1)=
   ((qf e m l2>>=λx=>jC e 7 x.1 1 x.2>>=λy=>vy e y>>=λz=>closed z.2>>=λ_=>(pure z.1:Except Fault fX))>>=λa=>pure (f a)):=by
  intro f;cases qf e m l2 with
  |error _=>rfl
  |ok x=>
   show(jC e 7 x.1 1 x.2>>=_>>=_)=((jC e 7 x.1 1 x.2>>=_)>>=_);cases jC e 7 x.1 1 x.2 with
   |error _=>rfl
   |ok y=>
    show(vy e y>>=_>>=_)=((vy e y>>=_)>>=_);cases vy e y with
    |error _=>rfl
    |ok z=>
     show(closed z.2>>=_)=((closed z.2>>=_)>>=_);cases closed z.2<;>rfl
 have re':=re λa=>{a with devices:=a.devices++[n.1.w],fI:=a.fI++[c.1.w]};refine Eq.mpr (aQ (λu=>fC _ u _) re') (big.bind λa b hab=>.ok ?_);obtain⟨g1,g2⟩:=hab;generalize a.held=ah at g1 g2;subst g1;rw[h1,<-hw];rw[h1]at h3;show Rel _ 4 {T with devices:=T.devices++[⟨z.place,b.1,b.2,nb.1⟩]};refine{R with de:=?_,hd:=?_,sv:=?_,dr:=?_,rk:=hr,so:=by decide,h0:=λz=>?_,s0:=λz=>?_,e3:=λz=>?_,l8:=?_}
 .show m.devices++_=_;rw[R.de,aL];rfl
 .intro s yt
  have hh:Table.held {T with devices:=T.devices++[⟨z.place,b.1,b.2,nb.1⟩]}=T.held++b.1:=by
   unfold Table.held;show(T.devices++_).flatMap _=_;rw[List.flatMap_append];simp
  rw[hh];exact g2 s yt
 .intro y hy;show y.name∈m.fI++[z.name]↔((T.devices++_).any _||T.kicks.any _)=true;have:=R.sv y hy;rw[mem_append,this,k0];simp;refine or_congr Iff.rfl ?_;constructor
  .intro w;rw[lE R.Xe hy hm w]
  intro w;rw[lE R.YI hm hy w]
 .rw[NT,R.dr]
 .have z':m.rank<3:=z;omega
 .have z':m.rank<3:=z;omega
 .have z':m.rank<3:=z;omega
 rw[aq];simp;omega
def Ep(x:Except Fault α)(f:α->β)(g:β->Except Fault γ):((x>>=λa=>(pure (f a):Except Fault β))>>=g)=(x>>=λa=>g (f a)):=by cases x<;>rfl
def PJ(R:Rel m s T)(hr:m.rank=4)(hl:T.kicks.length<8)(e a:Nat)(l:List Word):
  fC (λa b=>Rel a 5 b) (AW e a m l>>=λz=>closed z.2>>=λ_=>pure z.1) (kickIn e T l):=by
 unfold AW kickIn;have XE:¬m.kicks=8:=by rw[R.ki];omega
 rw[ag XE,R.sw,E7];refine fC.assoc (sW.bind λs x hs=>?_);obtain⟨s1,s2,s3⟩:=hs;obtain⟨z,hz,hw,hm⟩:=wx s3;rw[hz,<-hw,Se R.V2 hm,s2];show fC _ (((kX m z.place x.1.2)>>=_)>>=_) (holds (T.kicks.all λk=>decide (k.first<z.place)) 5 x.1.2>>=λ_=>holds (!T.held.contains z.place) 7 x.1.2>>=λ_=>coilNamed e T x.2>>=_);have hlst:=R.lst z.place;rw[show places T m.rank=T.kicks.map (·.first)from by rw[hr];rfl,all_map]at hlst;unfold kX holds;by_cases q:(z.place:Int)<=m.last
 .have:=hlst.mp q;rw[ak q,ag this];exact .err _
 have qa:(T.kicks.all λk=>decide (k.first<z.place))=true:=by
  cases w:T.kicks.all λk=>decide (k.first<z.place)with
  |true=>rfl
  |false=>exact absurd (hlst.mpr (by rw[w];simp)) q
 rw[ag q,ak qa];show fC _ ((((if z.name∈m.held then _ else _):Except Fault Unit)>>=_)>>=_) ((if(!T.held.contains z.place)=true then _ else _)>>=_);by_cases h:z.name∈m.held
 .have h2:T.held.contains z.place=true:=by simpa using(R.hd z hm).mp h
  rw[ak h,h2];exact .err _
 have h2:T.held.contains z.place=false:=by
  cases w:T.held.contains z.place with
  |false=>rfl
  |true=>exact absurd ((R.hd z hm).mpr (by simpa using w)) h
 rw[ag h,h2];show fC _ (sV e {m with last:=(z.place:Int)} s.2>>=_>>=_) (coilNamed e T x.2>>=_);unfold sV coilNamed;rw[s1,Ep];have hkc:=sW (e:=e) (had:=T.coils.map λ(s:Coil)=>s.name) (l:=x.2);rw[<-E8,<-R.co]at hkc;rw[<-E8,<-R.co];refine fC.assoc (fC.assoc (hkc.bind λc y hc=>?_));obtain⟨c1,c2,c3⟩:=hc;rw[R.co,E8]at c3;obtain⟨v,hv,hvw,YZ⟩:=wx c3;rw[hv];show fC _ ((if c.1.w∈m.fI then _ else _)>>=_) ((if(!(T.devices.any λd=>d.coil==v.place)&& !(T.kicks.any λk=>k.coil==v.place))=true then _ else _)>>=_);have svz:=R.sv v YZ;rw[hvw]at svz;rw[show(!(T.devices.any λd=>d.coil==v.place)&& !(T.kicks.any λk=>k.coil==v.place))= !((T.devices.any λd=>d.coil==v.place)||(T.kicks.any λk=>k.coil==v.place))from by rw[Bool.not_or]];by_cases g:c.1.w∈m.fI
 .rw[ak g,svz.mp g,c2];exact .err _
 have g2:((T.devices.any λd=>d.coil==v.place)||(T.kicks.any λk=>k.coil==v.place))=false:=by
  cases w:((T.devices.any λd=>d.coil==v.place)||(T.kicks.any λk=>k.coil==v.place))with
  |false=>rfl
  |true=>exact absurd (svz.mpr w) g
 rw[ag g,g2];show fC _ (must e "for" c.2>>=_>>=_) (must e "for" y.2>>=_);rw[c1];refine fC.assoc (fC.gc λl1 _=>?_);rw[lD (by decide)];refine fC.assoc (fC.gc λt _=>?_)
 have lk:look ({m with last:=(z.place:Int)}:fX).coils c.1.w=v.most:=by
  rw[R.co,<-hvw];exact Sf R.Xe YZ
 rw[lk];show fC _ ((((if v.most<t.1.1 then _ else _):Except Fault Unit)>>=_)>>=_) ((if decide (t.1.1<=v.most)=true then _ else _)>>=_);by_cases k:v.most<t.1.1
 .rw[ak k,ag (show¬decide (t.1.1<=v.most)=true by simp;omega)];exact .err _
 rw[ag k,ak (show decide (t.1.1<=v.most)=true by simp;omega)]
 have key:∀till:Option Nat,Rel {m with last:=(z.place:Int),fI:=m.fI++[c.1.w],kicks:=m.kicks+1} 5 {T with kicks:=T.kicks++[⟨z.place,v.place,t.1.1,till⟩]}:=by
  intro till;refine{R with ki:=?_,sv:=?_,rk:=hr,so:=by decide,lst:=?_,h0:=λz=>?_,s0:=λz=>?_,e4:=λz=>?_,k8:=?_}
  .rw[R.ki,aq];rfl
  .intro y hy;have:=R.sv y hy;rw[mem_append,this,<-hvw];simp only[List.any_append,any_cons,List.any_nil,Bool.or_false,eQ,eg,d6];rw[<-or_assoc];refine or_congr Iff.rfl ?_;constructor
   .intro w;rw[lE R.Xe hy YZ w]
   intro w;rw[lE R.YI YZ hy w]
  .intro r;rw[hr];show((r:Int)<=(z.place:Int))↔¬(((T.kicks++_).map (·.first)).all _)=true;rw[aL];exact sX (by rw[all_map];exact qa) r
  .have z':m.rank<3:=z;omega
  .have z':m.rank<3:=z;omega
  .have z':m.rank<4:=z;omega
  rw[aq];simp;omega
 generalize t.2=lt;cases lt with
 |nil=>exact .ok (key none)
 |cons w r=>
  simp only[List.isEmpty_cons,bF,bS,reduceCtorEq];show fC _ (((must e "till" (w::r)>>=_)>>=_)>>=_) (must e "till" (w::r)>>=_);refine fC.assoc (fC.assoc (fC.gc λl3 _=>?_));have hku:=sW (e:=e) (had:=T.switches.map λs=>s.name) (l:=l3);rw[<-E7,<-R.sw]at hku;rw[<-E7,<-R.sw];refine fC.assoc (hku.bind λu o hu=>?_);obtain⟨u1,u2,u3⟩:=hu;rw[R.sw,E7]at u3;obtain⟨f,hf,hfw,hfm⟩:=wx u3;rw[hf,<-hfw,u2];show fC _ ((if f.name=z.name then _ else _)>>=_) ((if(f.place !=z.place)=true then _ else _)>>=_);by_cases n:f.name=z.name
  .rw[ak n,lE R.V2 hfm hm n];simp only[bne_self_eq_false,bF,bS];exact .err _
  have n2:(f.place !=z.place)=true:=by
   simp only[bne_iff_ne];exact λw=>n (by rw[lE R.Xc hfm hm w])
  rw[ag n,n2];rw[u1];exact fC.gc (S:=λa b=>Rel a 5 b) λ_ _=>.ok (key _)
theorem Sh:∀(s:Nat)(w:Bytes),s<=5->ng (s - 1) w=(if((SORTS.findIdx? λ(n:String)=>ascii n==w).getD 0)=0\/((SORTS.findIdx? λ(n:String)=>ascii n==w).getD 0)<s then none else some (((SORTS.findIdx? λ(n:String)=>ascii n==w).getD 0) - 1)):=by
 intro s w hs;by_cases h0:ascii "table"=w
 .subst h0
  match s,hs with
  |0,_=>decide
  |1,_=>decide
  |2,_=>decide
  |3,_=>decide
  |4,_=>decide
  |5,_=>decide
 by_cases h1:ascii "switch"=w
 .subst h1
  match s,hs with
  |0,_=>decide
  |1,_=>decide
  |2,_=>decide
  |3,_=>decide
  |4,_=>decide
  |5,_=>decide
 by_cases h2:ascii "lamp"=w
 .subst h2
  match s,hs with
  |0,_=>decide
  |1,_=>decide
  |2,_=>decide
  |3,_=>decide
  |4,_=>decide
  |5,_=>decide
 by_cases h3:ascii "coil"=w
 .subst h3
  match s,hs with
  |0,_=>decide
  |1,_=>decide
  |2,_=>decide
  |3,_=>decide
  |4,_=>decide
  |5,_=>decide
 by_cases h4:ascii "device"=w
 .subst h4
  match s,hs with
  |0,_=>decide
  |1,_=>decide
  |2,_=>decide
  |3,_=>decide
  |4,_=>decide
  |5,_=>decide
 by_cases h5:ascii "kick"=w
 .subst h5
  match s,hs with
  |0,_=>decide
  |1,_=>decide
  |2,_=>decide
  |3,_=>decide
  |4,_=>decide
  |5,_=>decide
 have e:(SORTS.findIdx? λn=>ascii n==w)=none:=by
  rw[cv];intro n hn;simp only[SORTS,mem_cons,not_mem_nil,or_false]at hn;rcases hn with rfl|rfl|rfl|rfl|rfl|rfl<;>simpa using ‹_›
 rw[e];rw[ak (.inl rfl)];unfold ng;rw[List.find?_eq_none];intro i hi;have hi':=List.mem_range'_1.mp hi;have:i<5:=by omega
 match i,this with
 |0,_=>simpa[vx]using h1
 |1,_=>simpa[vx]using h2
 |2,_=>simpa[vx]using h3
 |3,_=>simpa[vx]using h4
 |4,_=>simpa[vx]using h5
def NU(R:Rel m s T)(h1:m.rank<=r)(h2:r<=4):Rel (pf m r) (r+1) T:=by
 unfold pf;by_cases h:r=m.rank
 .rw[ak h];exact{R with rk:=by rw[h];rfl,so:=by omega}
 rw[ag h];refine{R with rk:=rfl,so:=by omega,lst:=λp=>?_,h0:=λz=>R.h0 ?_,s0:=λz=>R.s0 ?_,e1:=λz=>R.e1 ?_,e2:=λz=>R.e2 ?_,e3:=λz=>R.e3 ?_,e4:=λz=>R.e4 ?_}
 .have:places T r=[]:=by
   unfold places;rw[ag (by omega)];split
   .rw[R.e1 (by omega)];rfl
   split
   .rw[R.e2 (by omega)];rfl
   split
   .rfl
   rw[R.e4 (by omega)];rfl
  rw[this];simp;omega
 all_goals (have z':r<_:=z;omega)
def AX(R:Rel m s T)(e:Nat)(l:List Word):
  fC (λa(b:Option Had)=>∃y,b=some y/\Rel a y.sort y.T) (lY e m l) (lineIn (some ⟨s,T⟩) ⟨l,e⟩):=by
 refine fC.gc λx _=>?_;rw[R.rk,Sh s x.1.w R.so];generalize hq:((SORTS.findIdx? λn=>ascii n==x.1.w).getD 0)=q
 have hq5:q<=5:=by
  rw[<-hq];cases z:SORTS.findIdx? λn=>ascii n==x.1.w with
  |none=>simp
  |some i=>
   obtain⟨hi,_⟩:=bZ.mp z;have:SORTS.length=6:=rfl;simp;omega
 show fC _ _ (if q=0\/q<s\/(q=4/\EIGHT<=T.devices.length)\/(q=5/\EIGHT<=T.kicks.length)then Except.error (Fault.mk 3 x.1.at_)else
   (if q=1 then switchIn e T x.2>>=λT'=>pure (some (Had.mk q T'))else if q=2 then lampIn e T x.2>>=λT'=>pure (some (Had.mk q T'))else if q=3 then coilIn e T x.2>>=λT'=>pure (some (Had.mk q T'))else if q=4 then deviceIn e T x.2>>=λT'=>pure (some (Had.mk q T'))else kickIn e T x.2>>=λT'=>pure (some (Had.mk q T'))))
 by_cases h0:q=0\/q<s
 .rw[ak h0,ak (h0.elim .inl λz=>.inr (.inl z))];exact .err _
 rw[ag h0];have hq0:q≠0:=λz=>h0 (.inl z)
 have R2:Rel (pf m (q - 1)) q T:=by
  have:=NU R (r:=q - 1) (by rw[R.rk];omega) (by omega)
  rwa [show q - 1+1=q from by omega]at this
 have Rf:=R2.rk;show fC _ (E5 e x.1.at_ (pf m (q - 1)) x.2>>=λy=>closed y.2>>=λ_=>pure y.1) _;generalize pf m (q - 1)=m2 at R2 Rf⊢;show fC _ (E5 e x.1.at_ m2 x.2>>=λy=>closed y.2>>=λ_=>pure y.1) _
 have fin:∀{x:Except Fault fX}{y:Except Fault Table}{k:Nat},k=q->fC (λa b=>Rel a k b) x y->fC (λa(b:Option Had)=>∃y,b=some y/\Rel a y.sort y.T) x (y>>=λT'=>pure (some ⟨q,T'⟩)):=by
  intro x y k hk h;subst hk;cases h with
  |err f=>exact .err f
  |ok h=>exact .ok ⟨_,rfl,h⟩
 unfold E5;have hE:EIGHT=8:=rfl
 match q,hq0,hq5 with
 |1,_,_=>
  rw[Rf,ak rfl,ag (by simp;omega),ak rfl];exact fin rfl (Kc R2 Rf e x.2)
 |2,_,_=>
  rw[Rf,ag (by decide),ak rfl,ag (by simp;omega),ag (by decide),ak rfl];exact fin rfl (PD R2 Rf e x.2)
 |3,_,_=>
  rw[Rf,ag (by decide),ag (by decide),ak rfl,ag (by simp;omega),ag (by decide),ag (by decide),ak rfl];exact fin rfl (PF R2 Rf e x.2)
 |4,_,_=>
  rw[Rf,ag (by decide),ag (by decide),ag (by decide),ak rfl];by_cases h8:T.devices.length<8
  .rw[ag (by rintro(z|z|z|z)<;>omega),ag (by decide),ag (by decide),ag (by decide),ak rfl];exact fin rfl (Kd R2 Rf h8 e _ x.2)
  have:=R2.l8;rw[ak (.inr (.inr (.inl ⟨rfl,by omega⟩)))];unfold ub;rw[ak (by rw[R2.de,aw];omega)];exact .err _
 |5,_,_=>
  rw[Rf,ag (by decide),ag (by decide),ag (by decide),ag (by decide)];by_cases h8:T.kicks.length<8
  .rw[ag (by rintro(z|z|z|z)<;>omega),ag (by decide),ag (by decide),ag (by decide),ag (by decide)];exact fin rfl (PJ R2 Rf h8 e _ x.2)
  have:=R2.k8;rw[ak (.inr (.inr (.inr ⟨rfl,by omega⟩)))];unfold AW;rw[ak (by rw[R2.ki];omega)];exact .err _
 |0,h,_=>exact absurd rfl h
noncomputable def nX(p:Nat)(b:Bytes):Except Fault (Line×Bytes):=match upTo b with
 |none=>.error ⟨1,p+b.length⟩
 |some (l,r)=>match badByte true 0 l with
  |some i=>.error ⟨2,p+i⟩
  |none=>.ok (⟨wordsFrom p [] l,p+l.length⟩,r)
noncomputable def wX:Nat->Nat->fX->Bytes->Except Fault fX
 |0,_,m,_=>.ok m
 |k+1,p,m,b=>if b=[]then .ok m else nX p b>>=λx=>lY x.1.end_ m x.1.words>>=λm'=>wX k (x.1.end_+1) m' x.2
noncomputable def xX(b:Bytes):Except Fault fX:=do
 let x<-nX 0 b
 let m<-C6 x.1.end_ x.1.words
 let m'<-wX b.length (x.1.end_+1) m x.2
 if m'.drained<m'.balls then .error ⟨8,b.length⟩else return m'
theorem C8(f:σ->Line->Except Fault σ)(k p:Nat)(s:σ)(b:Bytes)(h:b≠[]):linesIn f (k+1) p s b=(nX p b>>=λx=>f s x.1>>=λt=>linesIn f k (x.1.end_+1) t x.2):=by
 rw[linesIn];rw[ag (by cases b with|nil=>exact absurd rfl h|cons=>simp)];unfold nX;cases upTo b with
 |none=>rfl
 |some x=>
  obtain⟨l,r⟩:=x;show(match badByte true 0 l with|some i=>_|none=>_)=((match badByte true 0 l with|some i=>_|none=>_)>>=_);cases badByte true 0 l with
  |some i=>rfl
  |none=>
   show(match f s _ with|.error e=>_|.ok t=>_)=(f s _>>=_);cases f s ⟨wordsFrom p [] l,p+l.length⟩<;>rfl
def Fb(f:σ->Line->Except Fault σ)(k p:Nat)(s:σ):linesIn f k p s []=.ok s:=by
 cases k<;>rfl
theorem HV:∀(k p:Nat)(m:fX)(y:Had)(b:Bytes),Rel m y.sort y.T->fC (λa(b:Option Had)=>∃y,b=some y/\Rel a y.sort y.T) (wX k p m b) (linesIn lineIn k p (some y) b)
 |0,p,m,y,b,R=>.ok ⟨y,rfl,R⟩
 |k+1,p,m,y,b,R=>by
  by_cases h:b=[]
  .subst h;rw[Fb];show fC _ (if _ then _ else _) _;rw[ak rfl];exact .ok ⟨y,rfl,R⟩
  rw[C8 _ _ _ _ _ h];show fC _ (if _ then _ else _) _;rw[ag h];refine fC.gc λx _=>?_;obtain _:=y;refine(AX R x.1.end_ x.1.words).bind λa b hab=>?_;obtain⟨y',rfl,R'⟩:=hab;exact HV k _ a y' x.2 R'
def HW(e:Nat)(l:List Word):fC (λa(b:Option Had)=>∃y,b=some y/\Rel a y.sort y.T) (C6 e l) (lineIn none ⟨l,e⟩):=by
 unfold C6 lineIn firstIn;rw[Ci];refine fC.assoc (fC.gc λx _=>?_);by_cases h:x.1.w=ascii "table"
 .rw[ak h,ak h]
  have hn:∀l,fC (λa b=>a.2=b.2) (nW e l) (newName e [] l):=by
   intro l;cases l with
   |nil=>exact .err _
   |cons x r=>
    unfold nW newName next;simp only[Bind.bind,Except.bind];by_cases h:isName x.w=false
    .simp only[h,dj];exact .err _
    simp only[h,bS,bF,List.contains_nil];exact .ok rfl
  have G9:∀{α β γ:Type}(x:Except Fault α)(f:α->Except Fault β)(g:β->Except Fault γ),((x>>=f)>>=g)=(x>>=λa=>f a>>=g):=λx f g=>by cases x<;>rfl
  rw[G9];refine(hn x.2).bind λa b hab=>?_;rw[hab,G9];refine fC.gc λl2 _=>?_;rw[lD (by decide),G9];refine fC.gc λc _=>?_;rw[G9];refine fC.gc λ_ _=>.ok ⟨_,rfl,?_⟩;refine⟨rfl,rfl,rfl,rfl,rfl,rfl,λs hs=>by simp[noTable]at hs,λs hs=>by simp[noTable]at hs,rfl,rfl,bu _,λp=>?_,λ_=>rfl,λ_=>rfl,λ_=>rfl,λ_=>rfl,λ_=>rfl,λ_=>rfl,eK,eK,eK,List.Pairwise.nil,λs hs=>by simp[noTable]at hs,eK,eK,by simp[nm],by simp[nm],by simp[noTable],by simp[noTable]⟩;simp[places,noTable];omega
 rw[ag h,ag h];exact .err _
noncomputable def Si(n:Nat):Except Fault (Option Had)->Except Fault Table
 |.error e=>.error e
 |.ok none=>.error ⟨1,n⟩
 |.ok (some h)=>if h.T.balls<=h.T.room then .ok h.T else .error ⟨8,n⟩
theorem PK(b:Bytes):readTable b=Si b.length (linesIn lineIn (b.length+1) 0 none b):=by
 unfold readTable Si;cases linesIn lineIn (b.length+1) 0 none b with
 |error e=>rfl
 |ok o=>cases o<;>rfl
def NV(b:Bytes):fC (λ(m:fX)(T:Table)=>∃s,Rel m s T) (xX b) (readTable b):=by
 rw[PK];unfold xX;by_cases h:b=[]
 .subst h;exact .err _
 rw[C8 _ _ _ _ _ h];cases nX 0 b with
 |error f=>exact .err f
 |ok x=>
  show fC _ (C6 x.1.end_ x.1.words>>=_) (Si b.length (lineIn none x.1>>=_));have q:=HW x.1.end_ x.1.words;generalize C6 x.1.end_ x.1.words=u at q;rw[show x.1=⟨x.1.words,x.1.end_⟩from rfl];generalize lineIn none ⟨x.1.words,x.1.end_⟩=v at q;cases q with
  |err f=>exact .err f
  | @ok a _ q=>
   obtain⟨y,rfl,R⟩:=q;show fC _ (wX b.length (x.1.end_+1) a x.2>>=_) (Si b.length (linesIn lineIn b.length (x.1.end_+1) (some y) x.2));have q2:=HV b.length (x.1.end_+1) a y x.2 R;generalize wX b.length (x.1.end_+1) a x.2=u at q2;generalize linesIn lineIn b.length (x.1.end_+1) (some y) x.2=v at q2;cases q2 with
   |err f=>exact .err f
   | @ok a' b' q2=>
    obtain⟨y',rfl,R'⟩:=q2;show fC _ (if a'.drained<a'.balls then _ else _) (if y'.T.balls<=y'.T.room then _ else _);rw[R'.dr,R'.balls];by_cases g:y'.T.room<y'.T.balls
    .rw[ak g,ag (by omega)];exact .err _
    rw[ag g,ak (by omega)];exact .ok ⟨_,R'⟩
noncomputable def i5(e:Nat)(lamps:List (Bytes×Nat))(before:Int)(l:List Word):Except Fault ((Nat×Nat)×List Word):=do
 let x<-iU e (nm lamps) l
 if(look lamps x.1.w:Int)<=before then .error ⟨5,x.1.at_⟩else return ((look lamps x.1.w,x.1.at_),x.2)
noncomputable def uH(e:Nat)(lamps:List (Bytes×Nat)):List Nat->Nat->List Word->Except Fault (List Nat×List Word)
 |had,_,[]=>.ok (had,[])
 |had,last,w::r=>if w.w=LOOP then .ok (had,w::r)else do
  let x<-i5 e lamps last (w::r)
  uH e lamps (had++[x.1.1]) x.1.1 r
noncomputable def qg(e:Nat)(lamps:List (Bytes×Nat))(l:List Word):Except Fault (List Nat×List Word):=do
 let x<-i5 e lamps (-1) l
 uH e lamps [x.1.1] x.1.1 x.2
noncomputable def je(e:Nat)(lamps:List (Bytes×Nat))(speaks:List Nat):List Nat->Int->List Word->Except Fault (List Nat)
 |had,_,[]=>.ok had
 |had,before,w::r=>do
  let x<-i5 e lamps before (w::r)
  if x.1.1∈speaks then je e lamps speaks (had++[x.1.1]) x.1.1 r else .error ⟨6,x.1.2⟩
noncomputable def awaits(b:Book):Bool:=match b.getLast? with
 |none=>false
 |some s=>decide (s.steps.length=0)
noncomputable def AY(e a:Nat)(lamps:List (Bytes×Nat))(b:Book)(l:List Word):Except Fault Show:=
 if b.length=32\/awaits b=true then .error ⟨3,a⟩else do
 let n<-vv e (b.map (·.name)) l
 let l1<-must e "on" n.2
 let y<-qg e lamps l1
 let l2<-(if y.2=[]then pure []else must e "loop" y.2)
 let _<-closed l2
 return ⟨n.1.w,y.1,decide (y.2≠[]),[]⟩
noncomputable def HX(e a:Nat)(lamps:List (Bytes×Nat))(b:Book)(l:List Word):Except Fault Step:=
 match b.getLast? with
 |none=>.error ⟨3,a⟩
 |some s=>if s.steps.length=16 then .error ⟨3,a⟩else do
  let t<-gU e 1 65535 l
  let p<-je e lamps s.speaks [] (-1) t.2
  return ⟨t.1.1,p⟩
noncomputable def wy(b:Book)(x:Step):Book:=match b.getLast? with
 |none=>b
 |some s=>b.dropLast++[{s with steps:=s.steps++[x]}]
noncomputable def jD(e:Nat)(lamps:List (Bytes×Nat))(b:Book)(l:List Word):Except Fault Book:=do
 let x<-next e l
 if x.1.w=ascii "show" then do
  let s<-AY e x.1.at_ lamps b x.2
  return b++[s]
 else if x.1.w=ascii "step" then do
  let s<-HX e x.1.at_ lamps b x.2
  return wy b s
 else .error ⟨3,x.1.at_⟩
noncomputable def ke(lamps:List (Bytes×Nat)):Nat->Nat->Book->Bytes->Except Fault Book
 |0,_,m,_=>.ok m
 |k+1,p,m,b=>if b=[]then .ok m else nX p b>>=λx=>jD x.1.end_ lamps m x.1.words>>=λm'=>ke lamps k (x.1.end_+1) m' x.2
noncomputable def AZ(lamps:List (Bytes×Nat))(b:Bytes):Except Fault Book:=do
 let m<-ke lamps (b.length+1) 0 [] b
 if awaits m=true then .error ⟨9,b.length⟩else return m
structure rj(lamps:List (Bytes×Nat))(T:Table):Prop where
 eq:lamps=T.lamps.map λs=>(s.name,s.place)
 nd:(T.lamps.map (·.name)).Nodup
 pw:(T.lamps.map (·.place)).Pairwise (·< ·)
 lt:∀l∈T.lamps,l.place<64
 nl:LOOP∉nm lamps
def Sj{l:List Lamp}{z:Lamp}(hn:(l.map (·.name)).Nodup)(h:z∈l):look (l.map λs=>(s.name,s.place)) z.name=z.place:=
 Gg (by rw[cG];exact hn) (dE.mpr ⟨z,h,rfl⟩)
def Xg(had:List Nat)(before:Int):Prop:=∀p:Nat,((p:Int)<=before)↔¬(had.all λq=>decide (q<p))=true
def LF:Xg [] (-1):=λp=>by simp;omega
def C9{p:Nat}{had:List Nat}(h:(had.all λq=>decide (q<p))=true):Xg (had++[p]) p:=sX h
def Aq{e:Nat}{before:Int}(L:rj lamps T)(hb:Xg had before):
  fC (λ(a:(Nat×Nat)×List Word)(b:Nat×Nat)=>a.1=b/\a.2=r/\(had.all λq=>decide (q<b.1))=true/\T.hasLamp b.1=true) (i5 e lamps before (w::r))
   (known 0 (T.lamps.map λ(l:Lamp)=>l.name) [w]>>=λx=>holds (had.all λ(q:Nat)=>decide (q<((T.lamps[x.1.1]?).map λ(l:Lamp)=>l.place).getD 0)) 5 x.1.2>>=λ_=>pure (((T.lamps[x.1.1]?).map λ(l:Lamp)=>l.place).getD 0,x.1.2)):=by
 unfold i5;rw[L.eq,TK]
 have kr:fC (λa b=>a.2=r/\a.1.at_=b.1.2/\(T.lamps.map λl=>l.name)[b.1.1]? =some a.1.w) (iU e (T.lamps.map λl=>l.name) (w::r)) (known 0 (T.lamps.map λl=>l.name) [w]):=by
  unfold known next;unfold iU nW next;simp only[Bind.bind,Except.bind];by_cases q:isName w.w=false
  .simp only[q,dj];exact .err _
  simp only[q,bS,bF,pure,Except.pure];cases hf:(T.lamps.map λl=>l.name).findIdx? λn=>n==w.w with
  |none=>
   have h2:w.w∉(T.lamps.map λ(l:Lamp)=>l.name):=λm=>by
    have:=cv.mp hf w.w m;simp at this
   simp only[Bool.true_eq_false,bS,h2];exact .err _
  |some i=>
   obtain⟨hi,e1,_⟩:=bZ.mp hf;have e2:(T.lamps.map λl=>l.name)[i]=w.w:=by simpa using e1
   have h2:w.w∈(T.lamps.map λ(l:Lamp)=>l.name):=e2▸ek hi;simp only[Bool.true_eq_false,bS,h2,dj];refine .ok ⟨rfl,rfl,?_⟩;rw[az hi,e2]
 refine kr.bind λa b hab=>?_;obtain⟨h1,h2,h3⟩:=hab;obtain⟨z,hz,hw,hm⟩:=wx h3;rw[hz,<-hw,Sj L.nd hm,h2];show fC _ (if(z.place:Int)<=before then _ else _) (holds (had.all λq=>decide (q<z.place)) 5 b.1.2>>=λ_=>pure (z.place,b.1.2));unfold holds;by_cases q:(z.place:Int)<=before
 .rw[ak q,ag ((hb z.place).mp q)];exact .err _
 have q2:(had.all λq=>decide (q<z.place))=true:=by
  cases y:had.all λq=>decide (q<z.place)with
  |true=>rfl
  |false=>exact absurd ((hb z.place).mpr (by rw[y];simp)) q
 rw[ag q,ak q2];refine .ok ⟨rfl,h1,q2,?_⟩;exact any_eq_true.mpr ⟨z,hm,by simp⟩
theorem uc:lampsIn T ok had (w::r)=
  ((known 0 (T.lamps.map λ(l:Lamp)=>l.name) [w]>>=λx=>holds (had.all λ(q:Nat)=>decide (q<((T.lamps[x.1.1]?).map λ(l:Lamp)=>l.place).getD 0)) 5 x.1.2>>=λ_=>pure (((T.lamps[x.1.1]?).map λ(l:Lamp)=>l.place).getD 0,x.1.2))>>=λy=>
   holds (ok y.1) 6 y.2>>=λ_=>lampsIn T ok (had++[y.1]) r):=by
 rw[lampsIn];cases known 0 (T.lamps.map λl=>l.name) [w]with
 |error f=>rfl
 |ok x=>
  show(holds _ _ _>>=_)=((holds _ _ _>>=_)>>=_);cases holds (had.all λ(q:Nat)=>decide (q<((T.lamps[x.1.1]?).map λ(l:Lamp)=>l.place).getD 0)) 5 x.1.2<;>rfl
structure Good(T:Table)(l:List Nat):Prop where
 pw:l.Pairwise (·< ·)
 has:∀p∈l,T.hasLamp p=true
def Good.snoc{p:Nat}(g:Good T l)(h:(l.all λq=>decide (q<p))=true)(hp:T.hasLamp p=true):Good T (l++[p]):=
 ⟨LD g.pw h,λq hq=>by
  rcases aG.mp hq with z|z
  .exact g.has q z
  simp at z;subst z;exact hp⟩
theorem Good.nil:Good T []:=⟨.nil,λ_ h=>by simp at h⟩
theorem wY{e:Nat}(L:rj lamps T):∀(l:List Word)(had:List Nat)(before:Int),Xg had before->Good T had->(∀p∈had,p∈speaks)->
  fC (λa b=>a=b/\Good T a/\∀p∈a,p∈speaks) (je e lamps speaks had before l) (lampsIn T speaks.contains had l)
 |[],had,before,_,g,s=>.ok ⟨rfl,g,s⟩
 |w::r,had,before,hb,g,s=>by
  rw[uc];refine(Aq L hb).bind λa b hab=>?_;obtain⟨h1,h2,h3,h4⟩:=hab;rw[h1];unfold holds;by_cases q:b.1∈speaks
  .have q2:speaks.contains b.1=true:=by simpa using q
   rw[ak q,ak q2];refine wY L r (had++[b.1]) b.1 (C9 h3) (g.snoc h3 h4) λp hp=>?_;rcases aG.mp hp with z|z
   .exact s p z
   simp at z;subst z;exact q
  have q2:speaks.contains b.1=false:=by simpa using q
  rw[ag q,q2];exact .err _
theorem HY(L:rj lamps T):∀(l:List Word)(had:List Nat)(last:Nat),Xg had last->Good T had->had≠[]->
  fC (λ(a:List Nat×List Word) b=>a.1=b/\Good T b/\b≠[]/\a.2=l.drop (l.takeWhile λ(y:Word)=>y.w !=LOOP).length) (uH e lamps had last l) (lampsIn T (λ_=>true) had (l.takeWhile λ(y:Word)=>y.w !=LOOP))
 |[],had,last,_,g,n=>.ok ⟨rfl,g,n,rfl⟩
 |w::r,had,last,hb,g,n=>by
  by_cases h:w.w=LOOP
  .have h1:(w.w !=LOOP)=false:=by simpa using h
   rw[List.takeWhile_cons,h1];show fC _ (if _ then _ else _) _;rw[ak h];exact .ok ⟨rfl,g,n,rfl⟩
  have h1:(w.w !=LOOP)=true:=by simpa using h
  rw[List.takeWhile_cons,h1];show fC _ (if _ then _ else _) (lampsIn T _ had (w::_));rw[ag h,uc];refine(Aq L hb).bind λa b hab=>?_;obtain⟨q1,q2,q3,q4⟩:=hab;rw[q1];refine(HY L r (had++[b.1]) b.1 (C9 q3) (g.snoc q3 q4) (by simp)).mono λa b z=>⟨z.1,z.2.1,z.2.2.1,?_⟩;rw[z.2.2.2];simp
structure HZ(T:Table)(s:Show):Prop where
 sp:Good T s.speaks
 st:∀x∈s.steps,Good T x.lit/\(∀p∈x.lit,p∈s.speaks)/\1<=x.ticks/\x.ticks<=65535
 n16:s.steps.length<=16
structure oR(T:Table)(b:Book):Prop where
 sh:∀s∈b,HZ T s
 ZT:∀s∈b.dropLast,s.steps≠[]
 nd:(b.map (·.name)).Nodup
 V3:b.length<=32
theorem LG:∀(r d:List Word),d=r.drop (r.takeWhile λ(y:Word)=>y.w !=LOOP).length->(match d with
    |[]=>(r.takeWhile λ(y:Word)=>y.w !=LOOP).length=r.length
    |x::s=>x.w=LOOP/\s=r.drop ((r.takeWhile λ(y:Word)=>y.w !=LOOP).length+1)/\(r.takeWhile λ(y:Word)=>y.w !=LOOP).length<r.length)
 |[],d,h2=>by subst h2;rfl
 |a::r,d,h2=>by
  rw[List.takeWhile_cons]at h2⊢;by_cases z:(a.w !=LOOP)=true
  .rw[z]at h2⊢;simp at h2⊢;have:=LG r d h2;cases d with
   |nil=>simpa using this
   |cons x s=>exact⟨this.1,this.2.1,by have:=this.2.2;omega⟩
  have z':(a.w !=LOOP)=false:=by simpa using z
  rw[z']at h2⊢;simp only[bF,bS,da,List.drop_zero]at h2⊢;subst h2;exact⟨by simpa using z,by simp,by simp⟩
def PM{e a:Nat}(L:rj lamps T)(G:oR T b):
  fC (λx y=>y=b++[x]/\oR T y) (AY e a lamps b l) (holds ((match b.getLast? with
   |some s=>decide (1<=s.steps.length)
   |none=>true)&&decide (b.length<SHOWS)) 3 a>>=λ_=>showIn e T b l):=by
 unfold AY;have hs:SHOWS=32:=rfl
 have ha:(match b.getLast? with
   |some s=>decide (1<=s.steps.length)
   |none=>true)= !(awaits b):=by
  unfold awaits;cases b.getLast? with
  |none=>rfl
  |some s=>
   show decide (1<=s.steps.length)= !decide (s.steps.length=0);by_cases q:s.steps.length=0
   .simp[q]
   have:1<=s.steps.length:=by omega
   simp[q,this]
 rw[ha];have V3:=G.V3;unfold holds;by_cases h:b.length=32\/awaits b=true
 .have h2:(!(awaits b)&&decide (b.length<SHOWS))=false:=by
   rcases h with h|h
   .simp[hs,h]
   simp[h]
  rw[ak h,h2];exact .err _
 have h2:(!(awaits b)&&decide (b.length<SHOWS))=true:=by
  have h3:awaits b=false:=by simpa using λz=>h (.inr z)
  have h4:b.length<32:=by have:b.length≠32:=λz=>h (.inl z);omega
  simp[h3,hs,h4]
 rw[ag h,ak h2];refine yN.bind λn nb hn=>?_;obtain⟨h5,h6,h7⟩:=hn;rw[h6];refine fC.gc λl1 _=>?_;cases l1 with
 |nil=>exact .err _
 |cons w r=>
  show fC _ ((i5 e lamps (-1) (w::r)>>=_)>>=_) (lampsIn T (λ_=>true) [] (w::_)>>=_);rw[uc];have as:∀{α β γ:Type}(x:Except Fault α)(f:α->Except Fault β)(g:β->Except Fault γ),((x>>=f)>>=g)=(x>>=λa=>f a>>=g):=λx f g=>by cases x<;>rfl
  rw[as,as (_>>=_)];refine(Aq L LF).bind λx y hxy=>?_;obtain⟨q1,q2,q3,q4⟩:=hxy;rw[q1,q2];refine(HY L r [y.1] y.1 (C9 (had:=[]) rfl) (Good.nil.snoc rfl q4) (by simp)).bind λu v huv=>?_;obtain⟨u1,u2,u3,u4⟩:=huv;generalize hk:(r.takeWhile λy=>y.w !=LOOP)=tw at u4⊢;have hd2:=LG r u.2 (by rw[hk];exact u4);rw[hk]at hd2
  have good:∀lp:Bool,oR T (b++[⟨nb.1,v,lp,[]⟩]):=by
   intro lp;refine⟨λs yt=>?_,λs yt=>?_,?_,?_⟩
   .rcases aG.mp yt with z|z
    .exact G.sh s z
    simp at z;subst z;exact⟨u2,λx hx=>by simp at hx,by simp⟩
   .rw[List.dropLast_concat]at yt;by_cases z:s∈b.dropLast
    .exact G.ZT s z
    intro st;have hb0:b≠[]:=λz2=>by rw[z2]at yt;simp at yt
    have X9:b.getLast?=some s:=by
     have e1:=(cQ hb0).symm;rw[e1]at yt;rcases aG.mp yt with z3|z3
     .exact absurd z3 z
     simp at z3;rw[cJ hb0,<-z3]
    refine h (.inr ?_);unfold awaits;rw[X9];simp[st]
   .rw[aL];exact om G.nd (by show nb.1∉_;rw[<-h5];exact h7)
   rw[aq];have:b.length≠32:=λz=>h (.inl z);simp;omega
  generalize hu:u.2=d at hd2;cases d with
  |nil=>
   simp only at hd2;rw[show r.drop (tw.length+1)=[]from bE (by omega)];refine .ok ⟨?_,?_⟩
   .rw[h5,u1,show decide (tw.length<r.length)=false from by simp;omega];rfl
   exact good _
  |cons x s=>
   obtain⟨d1,d2,d3⟩:=hd2;rw[ag (by simp),show must e "loop" (x::s)=.ok s from by rw[Ci];show(if x.w=ascii "loop" then _ else _)=_;rw[ak (show x.w=ascii "loop" from d1)],<-d2];refine fC.gc λ_ _=>.ok ⟨?_,good _⟩;rw[h5,u1,show decide (tw.length<r.length)=true from by simpa using d3];rfl
theorem Vb(hx:number e lo hi l=.ok x):lo<=x.1.1/\x.1.1<=hi:=by
 unfold number at hx;cases l with
 |nil=>cases hx
 |cons c r=>
  simp only[next,Bind.bind,Except.bind]at hx;split at hx
  .cases hx
  split at hx
  .cases hx
  rename_i z;cases hx;dsimp only;omega
theorem Dc(h:b.getLast?=some s):s∈b/\b=b.dropLast++[s]:=by
 cases b with
 |nil=>cases h
 |cons a r=>
  have hb:(a::r)≠[]:=by simp
  rw[cJ hb]at h;have h':=ao h;exact⟨h'▸List.getLast_mem hb,by rw[<-h'];exact(cQ hb).symm⟩
def PN(L:rj lamps T)(G:oR T b):
  fC (λx y=>x=y/\oR T y) (jD e lamps b l) (bookLine T b ⟨l,e⟩):=by
 refine fC.gc λx _=>?_;by_cases h1:x.1.w=ascii "show"
 .rw[ak h1,ak h1];have:=PM (e:=e) (a:=x.1.at_) (l:=x.2) L G;refine Eq.mp (aQ (fC _ _) ?_) (this.bind (S:=λx y=>x=y/\oR T y) (f:=λs=>pure (b++[s])) (g:=λy=>.ok y) λa c h=>.ok ⟨h.1.symm,h.2⟩);cases holds _ _ _ with
  |error f=>rfl
  |ok u=>
   cases showIn e T b x.2<;>rfl
 rw[ag h1,ag h1];by_cases h2:x.1.w=ascii "step"
 .rw[ak h2,ak h2];unfold HX wy;cases hl:b.getLast? with
  |none=>exact .err _
  |some s=>
   obtain⟨hm,hb⟩:=Dc hl;have gs:=G.sh s hm;show fC _ ((if s.steps.length=16 then _ else _)>>=_) (holds (decide (s.steps.length<STEPS)) 3 x.1.at_>>=_);have hs:STEPS=16:=rfl;have Rg:=gs.n16;unfold holds;by_cases q:s.steps.length=16
   .rw[ak q,ag (by simp;omega)];exact .err _
   rw[ag q,ak (by simp;omega)];unfold stepIn;rw[lD (by decide)];have as:∀{α β γ:Type}(x:Except Fault α)(f:α->Except Fault β)(g:β->Except Fault γ),((x>>=f)>>=g)=(x>>=λa=>f a>>=g):=λx f g=>by cases x<;>rfl
   rw[as,as];refine fC.gc λt ht=>?_;have htl:=Vb ht;rw[as,as];refine(wY L t.2 [] (-1) LF Good.nil λp hp=>by simp at hp).bind λu v huv=>?_;obtain⟨rfl,gu,su⟩:=huv;refine .ok ⟨rfl,?_⟩;refine⟨λz hz=>?_,λz hz=>?_,?_,?_⟩
   .rcases aG.mp hz with y|y
    .exact G.sh z (by rw[hb];exact dC _ y)
    simp at y;subst y;refine⟨gs.sp,λw hw=>?_,?_⟩
    .rcases aG.mp hw with k|k
     .exact gs.st w k
     simp at k;subst k;exact⟨gu,su,htl⟩
    rw[aq];simp;omega
   .rw[List.dropLast_concat]at hz;exact G.ZT z hz
   .have:=G.nd;rw[hb,aL]at this;rw[aL];exact this
   have:=G.V3;rw[hb,aq]at this;rw[aq];exact this
 rw[ag h2,ag h2];exact .err _
theorem yO(L:rj lamps T):∀(k p:Nat)(m:Book)(b:Bytes),oR T m->fC (λx y=>x=y/\oR T y) (ke lamps k p m b) (linesIn (bookLine T) k p m b)
 |0,p,m,b,G=>.ok ⟨rfl,G⟩
 |k+1,p,m,b,G=>by
  by_cases h:b=[]
  .subst h;rw[Fb];show fC _ (if _ then _ else _) _;rw[ak rfl];exact .ok ⟨rfl,G⟩
  rw[C8 _ _ _ _ _ h];show fC _ (if _ then _ else _) _;rw[ag h];refine fC.gc λx _=>?_;refine(PN L G).bind λa b hab=>?_;obtain⟨rfl,G'⟩:=hab;exact yO L k _ a x.2 G'
structure ph(T:Table)(b:Book):Prop where
 sh:∀s∈b,HZ T s/\s.steps≠[]
 nd:(b.map (·.name)).Nodup
 V3:b.length<=32
noncomputable def Xh(n:Nat):Except Fault Book->Except Fault Book
 |.error e=>.error e
 |.ok l=>if(l.getLast?.map λs=>decide (s.steps.length=0)).getD false=true then .error ⟨9,n⟩else .ok l
def NW(T:Table)(b:Bytes):T.readBook b=Xh b.length (linesIn (bookLine T) (b.length+1) 0 [] b):=by
 unfold Table.readBook Xh;cases linesIn (bookLine T) (b.length+1) 0 [] b<;>rfl
theorem PQ(L:rj lamps T)(b:Bytes):fC (λx y=>x=y/\ph T y) (AZ lamps b) (T.readBook b):=by
 rw[NW];unfold AZ;have q:=yO L (b.length+1) 0 [] b ⟨λs hs=>by simp at hs,λs hs=>by simp at hs,eK,by simp⟩;generalize ke lamps (b.length+1) 0 [] b=u at q;generalize linesIn (bookLine T) (b.length+1) 0 [] b=v at q;cases q with
 |err f=>exact .err f
 | @ok a _ q=>
  obtain⟨rfl,G⟩:=q;show fC _ (if awaits a=true then _ else _) (if(a.getLast?.map λ(s:Show)=>decide (s.steps.length=0)).getD false=true then _ else _)
  have e:(a.getLast?.map λ(s:Show)=>decide (s.steps.length=0)).getD false=awaits a:=by
   unfold awaits;cases a.getLast?<;>rfl
  rw[e];by_cases h:awaits a=true
  .rw[ak h,ak h];exact .err _
  rw[ag h,ag h];refine .ok ⟨rfl,λs hs=>⟨G.sh s hs,λz=>?_⟩,G.nd,G.V3⟩;by_cases m:s∈a.dropLast
  .exact G.ZT s m z
  have ha:a≠[]:=λy=>by rw[y]at hs;simp at hs
  have e1:=(cQ ha).symm;rw[e1]at hs;rcases aG.mp hs with y|y
  .exact m y
  simp at y;refine h ?_;unfold awaits;rw[cJ ha,<-y];simp[z]
def Ke(R:Rel m s T):rj m.lamps T:=⟨R.la,R.ZR,R.YH,R.Xd,R.YJ⟩
open Tilt TiltLampCalls
structure kJ(cols:List Nat)(f:Nat->Bool):Prop where
 len:cols.length=8
 lt:∀c(h:c<8),cols[c]'(by omega)<256
 bit:∀c(h:c<8) r,r<8->(cols[c]'(by omega)).testBit r=f (8*c+r)
def kJ.get(h:kJ cols f)(hc:c<8):∃x,cols[c]? =some x/\x<256/\∀r,r<8->x.testBit r=f (8*c+r):=
 ⟨cols[c]'(by rw[h.len];exact hc),az _,h.lt c hc,h.bit c hc⟩
def kJ.of(hl:cols.length=8)(h:∀c,c<8->∃x,cols[c]? =some x/\x<256/\∀r,r<8->x.testBit r=f (8*c+r)):kJ cols f:=by
 refine⟨hl,λc hc=>?_,λc hc r hr=>?_⟩
 .obtain⟨x,h1,h2,_⟩:=h c hc;rw[az (by omega)]at h1;rw[ao h1];exact h2
 obtain⟨x,h1,_,h3⟩:=h c hc;rw[az (by omega)]at h1;rw[ao h1];exact h3 r hr
def kJ.congr(h:kJ cols f)(e:∀p,p<64->f p=g p):kJ cols g:=
 ⟨h.len,h.lt,λc hc r hr=>(h.bit c hc r hr).trans (e _ (by omega))⟩
def Ar:kJ (List.replicate 8 0) (λ_=>false):=by
 refine .of (by simp) λc hc=>⟨0,by rw[bc,ak hc],by decide,λr _=>by simp⟩
def Sk(hx:x<256)(hy:y<256)(h:∀r,r<8->x.testBit r=y.testBit r):x=y:=by
 apply Nat.eq_of_testBit_eq;intro r;by_cases q:r<8
 .exact h r q
 have e:(256:Nat)<=2^r:=by
  calc (256:Nat)=2^8:=by decide
   _<=2^r:=dg (by decide) (by omega)
 rw[Nat.testBit_lt_two_pow (by omega),Nat.testBit_lt_two_pow (by omega)]
def Gh(hx:x<256)(hy:y<256):x|||y<256:=Nat.or_lt_two_pow (n:=8) hx hy
def yP(hy:y<256):x&&&y<256:=bQ Nat.and_le_right hy
def Gi(hx:x<256)(hr:r<8):(255 - x).testBit r= !x.testBit r:=by
 have:=Nat.testBit_two_pow_sub_succ (n:=8) (x:=x) hx r;rw[show 255 - x=2^8 - (x+1)from by omega,this];simp[hr]
def Gj{k r:Nat}:(2^k).testBit r=decide (k=r):=Nat.testBit_two_pow
noncomputable def jz(cols:List Nat)(p:Nat):List Nat:=cols.set (p/8) ((cols[p/8]?).getD 0|||2^(p % 8))
noncomputable def rm(cols:List Nat)(p:Nat):List Nat:=cols.set (p/8) ((cols[p/8]?).getD 0&&&(255 - 2^(p % 8)))
def De:2^(p % 8)<256:=by
 calc 2^(p % 8)<=2^7:=dg (by decide) (by omega)
  _<256:=by decide
def Ic(h:kJ cols f)(hp:p<64):kJ (jz cols p) (λq=>f q||q==p):=by
 unfold jz;obtain⟨x,hx,lx,bx⟩:=h.get (c:=p/8) (by omega);rw[hx];refine .of (by simp[h.len]) λc hc=>?_;by_cases e:c=p/8
 .subst e;refine⟨x|||2^(p % 8),by rw[bD (by rw[h.len];exact hc)];rfl,Gh lx De,λr hr=>?_⟩;rw[testBit_or,bx r hr,Gj];congr 1;by_cases q:p % 8=r
  .subst q;rw[show 8*(p/8)+p % 8=p from by omega];simp
  have:8*(p/8)+r≠p:=by omega
  simp[q,this]
 obtain⟨y,hy,ly,Ya⟩:=h.get hc;refine⟨y,by rw[bj (aW e)];exact hy,ly,λr hr=>?_⟩;rw[Ya r hr];have:8*c+r≠p:=by omega
 simp[this]
def PR(h:kJ cols f)(hp:p<64):kJ (rm cols p) (λq=>f q&&q !=p):=by
 unfold rm;obtain⟨x,hx,lx,bx⟩:=h.get (c:=p/8) (by omega);rw[hx];refine .of (by simp[h.len]) λc hc=>?_;by_cases e:c=p/8
 .subst e;refine⟨x&&&(255 - 2^(p % 8)),by rw[bD (by rw[h.len];exact hc)];rfl,yP (bQ (Nat.sub_le _ _) (by decide)),λr hr=>?_⟩;rw[et,bx r hr,Gi De hr,Gj];congr 1;by_cases q:p % 8=r
  .subst q;rw[show 8*(p/8)+p % 8=p from by omega];simp
  have:8*(p/8)+r≠p:=by omega
  simp[q,this]
 obtain⟨y,hy,ly,Ya⟩:=h.get hc;refine⟨y,by rw[bj (aW e)];exact hy,ly,λr hr=>?_⟩;rw[Ya r hr];have:8*c+r≠p:=by omega
 simp[this]
theorem Fc:∀(l:List Nat){cols:List Nat}{f:Nat->Bool},kJ cols f->(∀p∈l,p<64)->kJ (l.foldl jz cols) (λq=>f q||l.contains q)
 |[],cols,f,h,_=>h.congr λp _=>by simp
 |a::r,cols,f,h,hl=>by
  refine(Fc r (Ic h (hl a (aM ..))) λp hp=>hl p (aC _ hp)).congr λp _=>?_;rw[contains_cons,Bool.or_assoc]
def Gk{l:List Nat}(hl:∀p∈l,p<64):kJ (l.foldl jz (List.replicate 8 0)) l.contains:=
 (Fc l Ar hl).congr λp _=>by simp
noncomputable def placesOf(cols:List Nat):List Nat:=(List.range 8).flatMap λc=>((List.range 8).filter λr=>((cols[c]?).getD 0).testBit r).map λr=>c*8+r
def Sl:List.range 64=(List.range 8).flatMap λc=>(List.range 8).map λr=>c*8+r:=by decide
def places_eq(h:kJ cols f):placesOf cols=(List.range 64).filter f:=by
 rw[Sl,List.filter_flatMap];unfold placesOf;rw[List.flatMap_def,List.flatMap_def];congr 1;apply List.map_congr_left;intro c hc;have V8:c<8:=by simpa using hc
 obtain⟨x,hx,_,bx⟩:=h.get V8;rw[hx,List.filter_map];congr 1;apply eG;intro r hr;have Nf:r<8:=by simpa using hr
 show x.testBit r=f (c*8+r);rw[bx r Nf,mul_comm]
noncomputable def kM(a:Nat×Nat)(o:Option (Nat×Nat)):Nat×Nat:=match o with
 |none=>a
 |some (st,sh)=>(a.1|||(a.2&&&st),a.2&&&(255 - sh))
def NX(r:Nat)(o:Option (Nat×Nat))(s:Option Bool):Prop:=match o with
 |none=>s=none
 |some (st,sh)=>st<256/\sh<256/\(if sh.testBit r=true then s=some (st.testBit r)else s=none/\st.testBit r=false)
theorem yQ(hr:r<8):∀(is:List Nat)(a b:Nat),a<256->b<256->(∀l∈is,NX r (F l) (S l))->
  ((is.map F).foldl kM (a,b)).1<256/\((is.map F).foldl kM (a,b)).2<256/\
  ((is.map F).foldl kM (a,b)).1.testBit r=(a.testBit r||(b.testBit r&&(is.findSome? S).getD false))/\((is.map F).foldl kM (a,b)).2.testBit r=(b.testBit r&&(is.findSome? S).isNone)
 |[],a,b,ha,hb,_=>by simp[ha,hb]
 |l::is,a,b,ha,hb,h=>by
  have h1:=h l (aM ..);have Y0:∀l∈is,NX r (F l) (S l):=λk hk=>h k (aC _ hk);rw[bJ,cM,List.findSome?_cons];cases e:F l with
  |none=>
   rw[e]at h1;have Hc:=h1;rw[Hc];exact yQ hr is a b ha hb Y0
  |some p=>
   obtain⟨st,sh⟩:=p;rw[e]at h1;obtain⟨l1,l2,h3⟩:=h1;have q:=yQ hr is (a|||(b&&&st)) (b&&&(255 - sh)) (Gh ha (yP l1)) (yP (bQ (Nat.sub_le _ _) (by decide))) Y0;refine⟨q.1,q.2.1,?_,?_⟩
   .show((is.map F).foldl kM (a|||(b&&&st),b&&&(255 - sh))).1.testBit r=_;rw[q.2.2.1,testBit_or,et,et,Gi l2 hr];cases z:sh.testBit r with
    |true=>
     rw[z,ak rfl]at h3;rw[h3];simp
    |false=>
     rw[z,ag (by simp)]at h3;rw[h3.1,h3.2];simp
   show((is.map F).foldl kM (a|||(b&&&st),b&&&(255 - sh))).2.testBit r=_;rw[q.2.2.2,et,Gi l2 hr];cases z:sh.testBit r with
   |true=>
    rw[z,ak rfl]at h3;rw[h3];simp
   |false=>
    rw[z,ag (by simp)]at h3;rw[h3.1];simp
theorem Ie:∀(l:List Nat)(n i:Nat),(l.foldl (λ(n p:Nat)=>n|||2^p) n).testBit i=(n.testBit i||l.contains i)
 |[],n,i=>by simp
 |a::r,n,i=>by
  rw[cM,Ie r,testBit_or,Gj,contains_cons,Bool.or_assoc];congr 2;by_cases h:a=i
  .simp[h]
  simp[h,aW h]
theorem Vc{T:Table}{b:Book}{x:Light}{c B:Nat}(hc:c<8)(hB:B<256)(h:∀r,r<8->B.testBit r=(T.hasLamp (8*c+r)&&x.lit b (8*c+r))):x.mask T b/2^(8*c) % 256=B:=by
 refine Sk (mod_lt _ (by decide)) hB λr hr=>?_;rw[show(256:Nat)=2^8 from by decide,Nat.testBit_mod_two_pow,Nat.testBit_div_two_pow,h r hr];unfold Light.mask maskOf;rw[Ie];simp only[hr,decide_true,cj,Nat.zero_testBit,Bool.false_or];have:(8*c+r)<PLACES:=by show _<64;omega
 rw[Nat.add_comm r (8*c)];cases z:(T.hasLamp (8*c+r)&&x.lit b (8*c+r))with
 |true=>simp only[bI,eU,List.mem_range,this,z,and_self]
 |false=>
  rw[eI];intro w;rw[bI,eU]at w;rw[z]at w;exact absurd w.2 (by simp)
structure mq where
 number:Nat
 begun:Nat
 at_:Nat
 over:Nat
noncomputable def pre(st:List Step)(k:Nat):Nat:=((st.take k).map (·.ticks)).sum
def vz(h:st[k]? =some x):pre st (k+1)=pre st k+x.ticks:=by
 unfold pre;rw[List.take_add_one,h,aL,List.sum_append];simp
def Df(st:List Step):pre st 0=0:=by simp[pre]
def Gm(s:Show):s.total=pre s.steps s.steps.length:=by
 unfold Show.total pre;rw[bN];generalize s.steps.map (·.ticks)=l
 have:∀(l:List Nat)(n:Nat),l.foldl (λa b=>a+b) n=n+l.sum:=by
  intro l;induction l with
  |nil=>intro n;simp
  |cons a r ih=>intro n;rw[cM,ih,List.sum_cons];omega
 rw[this];simp
theorem Fd:∀(st:List Step)(k n:Nat),k<st.length->pre st k<=n->n<pre st (k+1)->stepAt st n=st[k]?
 |[],k,n,h,_,_=>by simp at h
 |s::r,0,n,_,_,h2=>by
  have:pre (s::r) 1=s.ticks:=by simp[pre]
  rw[this]at h2;rw[stepAt,ak h2];rfl
 |s::r,k+1,n,hl,h1,h2=>by
  have e1:pre (s::r) (k+1)=s.ticks+pre r k:=by simp[pre]
  have e2:pre (s::r) (k+1+1)=s.ticks+pre r (k+1):=by simp[pre]
  rw[e1]at h1;rw[e2]at h2;rw[stepAt,ag (by omega)];exact Fd r k (n - s.ticks) (by simpa using hl) (by omega) (by omega)
structure Fe(b:Book)(t:Nat)(r:mq)(x:Runs)(s:Show):Prop where
 sh:b[x.show_]? =some s
 num:r.number=x.show_
 at_:r.begun+x.at_=t
 lt:r.at_<s.steps.length
 ov:r.over=r.begun+pre s.steps (r.at_+1)
 lo:r.begun+pre s.steps r.at_<=t
 hi:t<r.over
def Fe.step(R:Fe b t r x s):stepAt s.steps x.at_=s.steps[r.at_]? :=by
 have h1:=R.at_;have h2:=R.ov;have h3:=R.lo;have h4:=R.hi;exact Fd _ _ _ R.lt (by omega) (by omega)
noncomputable def kN(s:Show)(t:Nat)(r:mq):Option mq:=
 if r.over=t then
  if r.at_+1=s.steps.length then(if s.loop=true then some {r with at_:=0,begun:=t,over:=t+pre s.steps 1}else none)
  else some {r with at_:=r.at_+1,over:=t+((s.steps[r.at_+1]?).map (·.ticks)).getD 0}
 else some r
def Ig(h:b[k]? =some s)(hne:s.steps≠[])(h1:∀x∈s.steps,1<=x.ticks):Fe b t ⟨k,t,0,t+pre s.steps 1⟩ ⟨k,0⟩ s:=by
 have hl:=List.length_pos_iff.mpr hne
 have hp:1<=pre s.steps 1:=by
  rw[vz (az hl),Df];have:=h1 _ (ek hl);omega
 exact⟨h,rfl,rfl,hl,rfl,by rw[Df];exact aH _,by show t<t+_;omega⟩
def Sn(R:Fe b t r x s)(hne:s.steps≠[])(h1:∀x∈s.steps,1<=x.ticks):
  match kN s (t+1) r with
  |none=>passLevel b (some x)=(none,true)
  |some r'=>∃x',passLevel b (some x)=(some x',false)/\Fe b (t+1) r' x' s:=by
 have e1:=R.at_;have e2:=R.ov;have e3:=R.lo;have e4:=R.hi;have e5:=R.lt
 have pl:passLevel b (some x)=(if x.at_+1<s.total then(some ⟨x.show_,x.at_+1⟩,false)else if s.loop=true then(some ⟨x.show_,0⟩,false)else(none,true)):=by
  show(match b[x.show_]? with|none=>_|some s=>_)=_;rw[R.sh]
 have mono:∀k,k<=s.steps.length->r.at_+1<=k->pre s.steps (r.at_+1)<=pre s.steps k:=by
  intro k;induction k with
  |zero=>intro _ h;omega
  |succ k ih=>
   intro hk h;by_cases q:r.at_=k
   .subst q;exact aH _
   have:=ih (by omega) (by omega);rw[vz (az (show k<s.steps.length by omega))];omega
 unfold kN;by_cases h:r.over=t+1
 .rw[ak h];by_cases g:r.at_+1=s.steps.length
  .rw[ak g];have Yb:¬x.at_+1<s.total:=by rw[Gm,<-g];omega
   rw[pl,ag Yb];by_cases l:s.loop=true
   .rw[ak l,ak l];refine⟨_,rfl,?_⟩;have:=Ig (t:=t+1) R.sh hne h1;exact⟨this.sh,R.num,this.at_,this.lt,this.ov,this.lo,this.hi⟩
   rw[ag l,ag l]
  rw[ag g];have hk:r.at_+1<s.steps.length:=by omega
  have p1:=vz (az hk);have t1:=h1 _ (ek hk)
  have m2:pre s.steps (r.at_+1+1)<=pre s.steps s.steps.length:=by
   have:∀k,k<=s.steps.length->r.at_+2<=k->pre s.steps (r.at_+2)<=pre s.steps k:=by
    intro k;induction k with
    |zero=>intro _ h;omega
    |succ k ih=>
     intro hk h;by_cases q:r.at_+1=k
     .subst q;exact aH _
     have:=ih (by omega) (by omega);rw[vz (az (show k<s.steps.length by omega))];omega
   exact this _ (aH _) (by omega)
  have Yb:x.at_+1<s.total:=by rw[Gm];omega
  rw[pl,ak Yb];refine⟨_,rfl,R.sh,R.num,by show r.begun+(x.at_+1)=_;omega,hk,?_,?_,?_⟩
  .show t+1+((s.steps[r.at_+1]?).map (·.ticks)).getD 0=r.begun+pre s.steps (r.at_+1+1);rw[az hk];show t+1+(s.steps[r.at_+1]).ticks=_;omega
  .show r.begun+pre s.steps (r.at_+1)<=t+1;omega
  rw[az hk];show t+1<t+1+(s.steps[r.at_+1]).ticks;omega
 rw[ag h];have:=mono s.steps.length (aH _) (by omega);have Yb:x.at_+1<s.total:=by rw[Gm];omega
 rw[pl,ak Yb];exact⟨_,rfl,R.sh,R.num,by show r.begun+(x.at_+1)=_;omega,R.lt,R.ov,by omega,by omega⟩
noncomputable def Vd(T:Table)(b:Book)(n:Nat):Nat->List Glow->Bool
 |_,[]=>true
 |bef,o::r=>decide (bef<=o.at_)&&(glowRight T b n o&&Vd T b n o.at_ r)
theorem PX(T:Table)(b:Book)(n:Nat):∀(l:List Glow)(bef:Nat),Vd T b n bef l=(l.all (glowRight T b n)&&(followsL (l.map (·.at_))&&(match l with|[]=>true|o::_=>decide (bef<=o.at_))))
 |[],_=>rfl
 |[o],bef=>by simp[Vd,followsL,Bool.and_comm]
 |o::p::r,bef=>by
  rw[Vd,PX T b n (p::r) o.at_];simp only[eP,bJ,followsL];generalize glowRight T b n o=A;generalize glowRight T b n p=B;generalize r.all (glowRight T b n)=C;generalize followsL (p.at_::r.map (·.at_))=D;generalize decide (bef<=o.at_)=E;generalize decide (o.at_<=p.at_)=F;cases A<;>cases B<;>cases C<;>cases D<;>cases E<;>cases F<;>rfl
def NY(T:Table)(b:Book)(n:Nat)(l:List Glow):Vd T b n 0 l=glowsRight T b n l:=by
 rw[PX];unfold glowsRight;cases l<;>simp
def Dg{A B C:List Glow}{i:Nat}(hA:∀o∈A,o.at_<i)(hB:∀o∈B,o.at_=i)(hC:∀o∈C,i<o.at_):(A++(B++C)).filter (λo=>o.at_==i)=B:=by
 rw[cT,cT];have h1:A.filter (λo=>o.at_==i)=[]:=List.filter_eq_nil_iff.mpr λo ho=>by have:=hA o ho;simp;omega
 have h2:B.filter (λo=>o.at_==i)=B:=List.filter_eq_self.mpr λo ho=>by simp[hB o ho]
 have h3:C.filter (λo=>o.at_==i)=[]:=List.filter_eq_nil_iff.mpr λo ho=>by have:=hC o ho;simp;omega
 rw[h1,h2,h3];simp
noncomputable def hZ(l:List Nat):List Nat:=l.foldl jz (List.replicate 8 0)
structure gv where
 tick:Nat
 levels:List (Option mq)
 cols:List Nat
noncomputable def Kf:gv:=⟨0,List.replicate 16 none,List.replicate 8 0⟩
def A1(b:Book)(t:Nat):Option mq->Option Runs->Prop
 |none,none=>True
 |some r,some q=>∃s,Fe b t r q s
 |_,_=>False
structure qh(T:Table)(b:Book)(m:gv)(x:Light):Prop where
 tick:m.tick=x.tick
 ml:m.levels.length=16
 xl:x.levels.length=16
 lv:∀i,i<16->∃r q,m.levels[i]? =some r/\x.levels[i]? =some q/\A1 b x.tick r q
 cols:kJ m.cols x.base.contains
 bs:x.base=(List.range 64).filter x.base.contains
 bl:∀p∈x.base,T.hasLamp p=true
def As{T:Table}(hl:∀l∈T.lamps,l.place<64)(h:T.hasLamp p=true):p<64:=by
 obtain⟨l,h1,h2⟩:=any_eq_true.mp h;have:l.place=p:=by simpa using h2
 rw[<-this];exact hl l h1
def NZ(T:Table)(b:Book):qh T b Kf lightBegun:=by
 refine⟨rfl,rfl,rfl,λi h=>?_,Ar.congr λp _=>by simp[lightBegun],by simp[lightBegun],λp hp=>by simp[lightBegun]at hp⟩;exact⟨none,none,by show(List.replicate 16 none)[i]? =_;rw[bc,ak h],by show(List.replicate 16 none)[i]? =_;rw[bc,ak h],trivial⟩
noncomputable def xY(b:Book)(k t:Nat):mq:=⟨k,t,0,t+((b[k]?).map λs=>pre s.steps 1).getD 0⟩
noncomputable def fQ(b:Book)(m:gv)(o:Glow):gv:=match o.kind with
 |0=>{m with levels:=m.levels.set o.level (some (xY b o.what m.tick))}
 |1=>{m with levels:=m.levels.set o.level none}
 |2=>{m with cols:=jz m.cols o.what}
 |3=>{m with cols:=rm m.cols o.what}
 |4=>{m with cols:=List.replicate 8 0}
 |_=>{m with levels:=List.replicate 16 none}
theorem Dh(hp:p<64):(sorted l).contains p=l.contains p:=by
 unfold sorted;cases h:l.contains p with
 |true=>
  rw[bI,eU];exact⟨by simp;exact hp,h⟩
 |false=>
  rw[eI];intro z;rw[bI,eU]at z;rw[h]at z;exact absurd z.2 (by simp)
def PY{ms:List (Option mq)}{xs:List (Option Runs)}(h1:ms.length=16)(h2:xs.length=16)(h:∀i,i<16->∃r q,ms[i]? =some r/\xs[i]? =some q/\A1 b t r q){l:Nat}(hr:A1 b t r q):
  ∀i,i<16->∃r' q',(ms.set l r)[i]? =some r'/\(xs.set l q)[i]? =some q'/\A1 b t r' q':=by
 intro i hi;by_cases e:l=i
 .subst e;exact⟨r,q,bD (by omega),bD (by omega),hr⟩
 obtain⟨r',q',a,c,d⟩:=h i hi;exact⟨r',q',by rw[bj e];exact a,by rw[bj e];exact c,d⟩
theorem N0{T:Table}{b:Book}{n:Nat}{o:Glow}{m:gv}{x:Light}(hl:∀l∈T.lamps,l.place<64)(B:ph T b)(ho:glowRight T b n o=true)(R:qh T b m x):qh T b (fQ b m o) (x.order o):=by
 obtain⟨oa,ok,ol,ow⟩:=o;have h:=ho;unfold glowRight at h;rw[aO]at h;have h2:=h.2
 match ok with
 |0=>
  have h3:(decide (ol<LEVELS)&&decide (ow<b.length))=true:=h2;rw[aO]at h3;have h4:=aj h3.2;have hs:=az h4;have g:=B.sh _ (ek h4);show qh T b {m with levels:=m.levels.set ol (some (xY b ow m.tick))} {x with levels:=x.levels.set ol (some ⟨ow,0⟩)};refine{R with ml:=by simp[R.ml],xl:=by simp[R.xl],lv:=PY R.ml R.xl R.lv (show A1 b x.tick (some (xY b ow m.tick)) (some ⟨ow,0⟩)from⟨b[ow],?_⟩)};have q:=Ig (t:=x.tick) hs g.2 λy hy=>(g.1.st y hy).2.2.1;unfold xY;rw[hs,R.tick];exact q
 |1=>
  show qh T b {m with levels:=m.levels.set ol none} {x with levels:=x.levels.set ol none};exact{R with ml:=by simp[R.ml],xl:=by simp[R.xl],lv:=PY R.ml R.xl R.lv trivial}
 |2=>
  have h3:(ol==0&&T.hasLamp ow)=true:=h2;rw[aO]at h3;have lt:=As hl h3.2;show qh T b {m with cols:=jz m.cols ow} {x with base:=sorted (ow::x.base)};refine{R with cols:=(Ic R.cols lt).congr λp hp=>?_,bs:=?_,bl:=λp hp=>?_}
  .rw[Dh hp,contains_cons,Bool.or_comm]
  .conv=>lhs;unfold sorted
   apply eG;intro p hp;exact(Dh (by simpa[PLACES]using hp)).symm
  have hp2:p∈ow::x.base:=by
   have:=(dA.mp hp).2;simpa using this
  rcases aA.mp hp2 with e|e
  .rw[e];exact h3.2
  exact R.bl p e
 |3=>
  have h3:(ol==0&&T.hasLamp ow)=true:=h2;rw[aO]at h3;have lt:=As hl h3.2;show qh T b {m with cols:=rm m.cols ow} {x with base:=x.base.filter λp=>p !=ow};refine{R with cols:=(PR R.cols lt).congr λp hp=>?_,bs:=?_,bl:=λp hp=>R.bl p (dA.mp hp).1}
  .rw[cx,aO,bI,bI,eU]
  show(x.base.filter λp=>p !=ow)=_
  conv=>lhs;rw[R.bs,List.filter_filter]
  apply eG;intro p hp;rw[cx,aO,bI,bI,eU,and_comm]
 |4=>
  show qh T b {m with cols:=List.replicate 8 0} {x with base:=[]};exact{R with cols:=Ar.congr λp _=>by simp,bs:=by simp,bl:=λp hp=>by simp at hp}
 |5=>
  show qh T b {m with levels:=List.replicate 16 none} {x with levels:=List.replicate LEVELS none};refine{R with ml:=by simp,xl:=by simp[LEVELS],lv:=λi hi=>?_};exact⟨none,none,by show(List.replicate 16 none)[i]? =_;rw[bc,ak hi],by show(List.replicate 16 none)[i]? =_;rw[bc,ak hi],trivial⟩
 |k+6=>cases h2
theorem Di(hl:∀l∈T.lamps,l.place<64)(B:ph T b):∀(os:List Glow){m:gv}{x:Light},(∀o∈os,glowRight T b n o=true)->qh T b m x->qh T b (os.foldl (fQ b) m) (os.foldl Light.order x)
 |[],_,_,_,R=>R
 |o::os,m,x,h,R=>Di hl B os (λp hp=>h p (aC _ hp)) (N0 hl B (h o (aM ..)) R)
noncomputable def gN(b:Book)(t:Nat)(o:Option mq):Option mq×Bool:=match o with
 |none=>(none,false)
 |some r=>match b[r.number]? with
  |none=>(none,false)
  |some s=>match kN s t r with
   |none=>(none,true)
   |some r'=>(some r',false)
noncomputable def jf(b:Book)(m:gv):gv×List Nat:=
 (⟨m.tick+1,m.levels.map λo=>(gN b (m.tick+1) o).1,m.cols⟩,(List.range 16).filter λi=>((m.levels[i]?).map λo=>(gN b (m.tick+1) o).2).getD false)
theorem A2(B:ph T b)(h:A1 b t o q):A1 b (t+1) (gN b (t+1) o).1 (passLevel b q).1/\(gN b (t+1) o).2=(passLevel b q).2:=by
 cases o with
 |none=>
  cases q with
  |none=>exact⟨trivial,rfl⟩
  |some q=>exact h.elim
 |some r=>
  cases q with
  |none=>exact h.elim
  |some q=>
   obtain⟨s,R⟩:=h;have g:=B.sh s (aR R.sh);have p:=Sn R g.2 λy hy=>(g.1.st y hy).2.2.1
   have e:gN b (t+1) (some r)=(match kN s (t+1) r with|none=>(none,true)|some r'=>(some r',false)):=by
    show(match b[r.number]? with|none=>_|some s=>_)=_;rw[R.num,R.sh]
   rw[e];cases z:kN s (t+1) r with
   |none=>
    rw[z]at p;have p':=p;rw[p'];exact⟨trivial,rfl⟩
   |some r'=>
    rw[z]at p;obtain⟨x',p1,p2⟩:=p;rw[p1];exact⟨⟨s,p2⟩,rfl⟩
def LI{x:Light}(h:x.levels[i]? =some q):x.level i=q:=by
 unfold Light.level;rw[List.getD_eq_getElem?_getD,h];rfl
def PZ(B:ph T b)(R:qh T b m x):
  qh T b (jf b m).1 ⟨x.tick+1,x.base,((List.range LEVELS).map λ(i:Nat)=>passLevel b (x.level i)).map λ(z:Option Runs×Bool)=>z.1⟩/\
  (jf b m).2=(List.range LEVELS).filter λ(i:Nat)=>((((List.range LEVELS).map λ(i:Nat)=>passLevel b (x.level i))[i]?).map λ(z:Option Runs×Bool)=>z.2).getD false:=by
 have hL:LEVELS=16:=rfl;refine⟨⟨?_,?_,?_,λi hi=>?_,R.cols,R.bs,R.bl⟩,?_⟩
 .show m.tick+1=x.tick+1;rw[R.tick]
 .show(m.levels.map _).length=16;rw[aw];exact R.ml
 .simp[hL]
 .obtain⟨r,q,h1,h2,h3⟩:=R.lv i hi;have z:=(A2 B h3).1;refine⟨(gN b (x.tick+1) r).1,(passLevel b q).1,?_,?_,z⟩
  .show(m.levels.map _)[i]? =_;rw[aK,h1,R.tick];rfl
  show((List.map _ _).map _)[i]? =_;rw[aK,aK,List.getElem?_range (by rw[hL];exact hi),<-LI h2];rfl
 rw[hL];apply eG;intro i hi;have hi':i<16:=by simpa using hi
 obtain⟨r,q,h1,h2,h3⟩:=R.lv i hi';have z:=(A2 B h3).2;rw[h1,aK,List.getElem?_range hi'];show(gN b (m.tick+1) _).2=(passLevel b (x.level i)).2;rw[R.tick,LI h2];exact z
noncomputable def kP(b:Book)(c:Nat)(o:Option mq):Option (Nat×Nat):=o.map λr=>match b[r.number]? with
 |some s=>(((hZ (((s.steps[r.at_]?).map (·.lit)).getD []))[c]?).getD 0,((hZ s.speaks)[c]?).getD 0)
 |none=>(0,0)
noncomputable def ud(b:Book)(m:gv)(c:Nat):Nat:=
 let z:=(m.levels.reverse.map (kP b c)).foldl kM (0,255)
 z.1|||(z.2&&&(m.cols[c]?).getD 0)
theorem Gn{t c r p:Nat}(hl:∀l∈T.lamps,l.place<64)(B:ph T b){x:Light}(h:A1 b t o (x.level i))(hc:c<8)(hr:r<8):NX r (kP b c o) (x.says b (8*c+r) i):=by
 unfold Light.says;cases o with
 |none=>
  cases e:x.level i with
  |none=>rfl
  |some q=>rw[e]at h;exact h.elim
 |some ru=>
  cases e:x.level i with
  |none=>rw[e]at h;exact h.elim
  |some q=>
   rw[e]at h;obtain⟨s,R⟩:=h;have g:=B.sh s (aR R.sh);have lt1:∀p∈s.speaks,p<64:=λp hp=>As hl (g.1.sp.has p hp);have hst:=az R.lt;have gst:=g.1.st _ (ek R.lt);have lt2:∀p∈(s.steps[ru.at_]'R.lt).lit,p<64:=λp hp=>As hl (gst.1.has p hp);obtain⟨a,ha,la,ba⟩:=(Gk lt2).get hc;obtain⟨d,hd,ld,bd⟩:=(Gk lt1).get hc;show NX r (some (match b[ru.number]? with|some s=>_|none=>_)) _;rw[R.num,R.sh];show NX r (some (((hZ (((s.steps[ru.at_]?).map (·.lit)).getD []))[c]?).getD 0,((hZ s.speaks)[c]?).getD 0)) _;rw[hst]
   have e1:((hZ (((some (s.steps[ru.at_]'R.lt)).map (·.lit)).getD []))[c]?).getD 0=a:=by
    show((hZ (s.steps[ru.at_]'R.lt).lit)[c]?).getD 0=a;unfold hZ;rw[ha];rfl
   have e2:((hZ s.speaks)[c]?).getD 0=d:=by unfold hZ;rw[hd];rfl
   rw[e1,e2];refine⟨la,ld,?_⟩;rw[bd r hr,ba r hr]
   have e3:((some q).bind λr_1=>(b[r_1.show_]?).bind λs=>if s.speaks.contains (8*c+r)=true then some (((stepAt s.steps r_1.at_).map λy=>y.lit.contains (8*c+r)).getD false)else none)=if s.speaks.contains (8*c+r)=true then some ((s.steps[ru.at_]'R.lt).lit.contains (8*c+r))else none:=by
    show((b[q.show_]?).bind _)=_;rw[R.sh];show(if s.speaks.contains (8*c+r)=true then some (((stepAt s.steps q.at_).map λ(y:Step)=>y.lit.contains (8*c+r)).getD false)else none)=_;rw[R.step,hst];rfl
   rw[e3];by_cases z:s.speaks.contains (8*c+r)=true
   .rw[ak z,ak z]
   rw[ag z,ag z];refine⟨rfl,?_⟩;rw[eI];intro y;rw[bI]at y;exact z (by rw[bI];exact gst.2.1 _ y)
def Kg{m:gv}(h:m.levels.length=16):m.levels.reverse=((List.range 16).reverse).map λi=>(m.levels[i]?).getD none:=by
 rw[List.map_reverse];congr 1;apply List.ext_getElem
 .simp[h]
 intro i h1 h2;simp[az h1]
theorem Au{T:Table}{b:Book}{m:gv}{x:Light}(hl:∀l∈T.lamps,l.place<64)(B:ph T b)(R:qh T b m x){c:Nat}(hc:c<8):
  ud b m c<256/\∀r,r<8->(ud b m c).testBit r=x.lit b (8*c+r):=by
 have sy:∀r,r<8->∀l∈(List.range 16).reverse,NX r (kP b c ((m.levels[l]?).getD none)) (x.says b (8*c+r) l):=by
  intro r hr l hm;have hm':l<16:=by simpa using hm
  refine Gn (p:=0) (t:=x.tick) hl B ?_ hc hr;obtain⟨_,_,h1,h2,h3⟩:=R.lv l hm';rw[h1,LI h2];exact h3
 obtain⟨y,hy,ly,Ya⟩:=R.cols.get hc
 have e:ud b m c=((((List.range 16).reverse).map λi=>kP b c ((m.levels[i]?).getD none)).foldl kM (0,255)).1|||(((((List.range 16).reverse).map λi=>kP b c ((m.levels[i]?).getD none)).foldl kM (0,255)).2&&&y):=by
  unfold ud;rw[Kg R.ml,cG,hy];rfl
 rw[e];have f0:=yQ (r:=0) (by decide) (F:=λi=>kP b c ((m.levels[i]?).getD none)) (S:=λl=>x.says b (8*c+0) l) ((List.range 16).reverse) 0 255 (by decide) (by decide) (sy 0 (by decide));refine⟨Gh f0.1 (yP ly),λr hr=>?_⟩;have f:=yQ hr (F:=λi=>kP b c ((m.levels[i]?).getD none)) (S:=λl=>x.says b (8*c+r) l) ((List.range 16).reverse) 0 255 (by decide) (by decide) (sy r hr);rw[testBit_or,et,f.2.2.1,f.2.2.2,Ya r hr]
 have aaL:(255:Nat).testBit r=true:=by
  match r,hr with
  |0,_=>rfl
  |1,_=>rfl
  |2,_=>rfl
  |3,_=>rfl
  |4,_=>rfl
  |5,_=>rfl
  |6,_=>rfl
  |7,_=>rfl
 rw[aaL,Nat.zero_testBit];show(false||(true&&((List.range 16).reverse.findSome? λl=>x.says b (8*c+r) l).getD false)||(true&&((List.range 16).reverse.findSome? λl=>x.says b (8*c+r) l).isNone&&x.base.contains (8*c+r)))=((List.range 16).reverse.findSome? λl=>x.says b (8*c+r) l).getD (x.base.contains (8*c+r));cases(List.range 16).reverse.findSome? λl=>x.says b (8*c+r) l with
 |none=>simp
 |some v=>simp
theorem LJ(B:ph T b)(R:qh T b m x)(h:x.lit b p=true):T.hasLamp p=true:=by
 unfold Light.lit at h;cases e:((List.range LEVELS).reverse).findSome? λ(l:Nat)=>x.says b p l with
 |none=>
  rw[e]at h;have h':=h;exact R.bl p (by simpa using h')
 |some v=>
  obtain⟨l,hl,hs⟩:=List.exists_of_findSome?_eq_some e;unfold Light.says at hs;cases q:x.level l with
  |none=>rw[q]at hs;cases hs
  |some r=>
   rw[q]at hs;cases w:b[r.show_]? with
   |none=>
    have yt:(b[r.show_]?).bind _=some v:=hs;rw[w]at yt;cases yt
   |some s=>
    have yt:(b[r.show_]?).bind _=some v:=hs;rw[w]at yt;have hs2:(if s.speaks.contains p=true then _ else none)=some v:=yt;by_cases z:s.speaks.contains p=true
    .have g:=B.sh s (aR w);exact g.1.sp.has p (by simpa using z)
    rw[ag z]at hs2;cases hs2
theorem P0(hl:∀l∈T.lamps,l.place<64)(B:ph T b)(R:qh T b m x):placesOf ((List.range 8).map λc=>ud b m c)=litNow ⟨T,b,x⟩:=by
 have ic:kJ ((List.range 8).map λc=>ud b m c) (λp=>x.lit b p):=by
  refine .of (by simp) λc hc=>⟨ud b m c,?_,(Au hl B R hc).1,(Au hl B R hc).2⟩;rw[aK,List.getElem?_range hc];rfl
 rw[places_eq ic];apply eG;intro p _;cases z:x.lit b p with
 |false=>simp
 |true=>rw[LJ B R z];rfl
def N7(R:qh T b m x):placesOf m.cols=x.base:=by
 rw[places_eq R.cols,<-R.bs]
noncomputable def kQ(b:Book)(m:gv)(os:List Glow):gv×Nat×List Nat:=
 let y:=os.foldl (fQ b) m
 ((jf b y).1,ud b y (m.tick % 8),(jf b y).2)
def Kh(x:Light)(o:Glow):(x.order o).tick=x.tick:=by
 unfold Light.order;split<;>rfl
theorem A3:∀(os:List Glow)(x:Light),(os.foldl Light.order x).tick=x.tick
 |[],_=>rfl
 |o::os,x=>by rw[cM,A3 os,Kh]
def P1(hl:∀l∈T.lamps,l.place<64)(B:ph T b)(ho:∀o∈os,glowRight T b n o=true)(R:qh T b m x):
  qh T b (kQ b m os).1 (T.glow b x os).1/\(kQ b m os).2=(T.glow b x os).2:=by
 have R2:=Di hl B os ho R;have p:=PZ B R2;have ht:=A3 os x;refine⟨?_,?_⟩
 .have:=p.1;rw[ht]at this;exact this
 show(ud b _ (m.tick % 8),(jf b _).2)=(Light.mask T b _/2^(8*(x.tick % 8)) % 256,_);have hc:x.tick % 8<8:=mod_lt _ (by decide);have mb:=Au hl B R2 hc;rw[R.tick,p.2,Vc hc mb.1 λr hr=>?_];rw[mb.2 r hr];cases z:(os.foldl Light.order x).lit b (8*(x.tick % 8)+r)with
 |false=>simp
 |true=>rw[LJ B R2 z];rfl
noncomputable def fU(b:Book)(os:List Glow):Nat->Nat->gv->gv×List Nat×List (Nat×Nat)
 |_,0,m=>(m,[],[])
 |i,n+1,m=>let z:=kQ b m (os.filter λo=>o.at_==i)
  let w:=fU b os (i+1) n z.1
  (w.1,z.2.1::w.2.1,z.2.2.map (λl=>(i,l))++w.2.2)
theorem Ff(hl:∀l∈T.lamps,l.place<64)(B:ph T b)(ho:∀o∈os,glowRight T b k o=true):∀(n i:Nat){m:gv}{x:Light},qh T b m x->
  qh T b (fU b os i n m).1 (T.glows b os i n x).1/\(fU b os i n m).2=(T.glows b os i n x).2
 |0,i,m,x,R=>⟨R,rfl⟩
 |n+1,i,m,x,R=>by
  have h1:=P1 hl B (os:=os.filter λo=>o.at_==i) (λo h=>ho o (dA.mp h).1) R;have h2:=Ff hl B ho n (i+1) h1.1;refine⟨h2.1,?_⟩;show((kQ b m _).2.1::(fU b os (i+1) n _).2.1,(kQ b m _).2.2.map _++(fU b os (i+1) n _).2.2)=_;rw[h1.2,h2.2];rfl
noncomputable def busy(ls:List (Option mq)):Nat:=(ls.filter Option.isSome).length
def Cj(ls:List (Option mq)):busy ls<=ls.length:=bX _ _
def p0(o:Option mq)(ls:List (Option mq)):busy (o::ls)=(if o.isSome=true then 1 else 0)+busy ls:=by
 unfold busy;rw[dh];by_cases h:o.isSome=true
 .rw[ak h,ak h,aF];omega
 rw[ag h,ag h];omega
theorem Dj:∀(ls:List (Option mq))(i:Nat)(o:Option mq),busy (ls.set i o)<=busy ls+1
 |[],i,o=>by simp
 |p::ls,0,o=>by
  show busy (o::ls)<=_;rw[p0,p0];split<;>split<;>omega
 |p::ls,i+1,o=>by
  show busy (p::ls.set i o)<=_;rw[p0,p0];have:=Dj ls i o;omega
def N8(n:Nat):busy (List.replicate n none)=0:=by
 unfold busy;rw[List.filter_replicate];simp
def Ih(b:Book)(m:gv)(o:Glow):busy (fQ b m o).levels<=busy m.levels+1:=by
 unfold fQ;split
 .exact Dj _ _ _
 .exact Dj _ _ _
 .exact le_succ _
 .exact le_succ _
 .exact le_succ _
 rw[N8];omega
theorem A4(b:Book):∀(os:List Glow)(m:gv),busy (os.foldl (fQ b) m).levels<=busy m.levels+os.length
 |[],m=>aH _
 |o::os,m=>by
  rw[cM,aF];have h1:=A4 b os (fQ b m o);have h2:=Ih b m o;omega
theorem yR(f:α->Bool)(ls:List α):∀n,((List.range n).filter λi=>((ls[i]?).map f).getD false).length=((ls.take n).filter f).length
 |0=>by simp
 |n+1=>by
  rw[range_succ,cT,aq,yR f ls n,List.take_add_one,cT,aq];congr 1;cases h:ls[n]? with
  |none=>simp[h]
  |some x=>by_cases q:f x=true<;>simp[h,q]
theorem Dk(b:Book)(t:Nat):∀ls:List (Option mq),(ls.filter λo=>(gN b t o).2).length+busy (ls.map λo=>(gN b t o).1)<=busy ls
 |[]=>by simp
 |o::ls=>by
  rw[bJ,p0,p0,dh];have ih:=Dk b t ls
  have h:(if(gN b t o).2=true then 1 else 0)+(if(gN b t o).1.isSome=true then 1 else 0)<=(if o.isSome=true then 1 else 0):=by
   cases o with
   |none=>simp[gN]
   |some r=>
    have e:gN b t (some r)=match b[r.number]? with|none=>(none,false)|some s=>match kN s t r with|none=>(none,true)|some r'=>(some r',false):=rfl
    rw[e];cases hb:b[r.number]? with
    |none=>simp
    |some s=>
     cases hp:kN s t r with
     |none=>simp[hp]
     |some r'=>simp[hp]
  by_cases q:(gN b t o).2=true
  .rw[ak q]at h⊢;rw[aF];omega
  rw[ag q]at h⊢;omega
def xZ(b:Book)(m:gv):(jf b m).2.length+busy (jf b m).1.levels<=busy m.levels:=by
 have h1:=yR (λo=>(gN b (m.tick+1) o).2) m.levels 16;have h2:=Dk b (m.tick+1) m.levels;have h3:((m.levels.take 16).filter λo=>(gN b (m.tick+1) o).2).length<=(m.levels.filter λo=>(gN b (m.tick+1) o).2).length:=((List.take_sublist 16 m.levels).filter _).length_le;show((List.range 16).filter λi=>((m.levels[i]?).map λo=>(gN b (m.tick+1) o).2).getD false).length+busy (m.levels.map λo=>(gN b (m.tick+1) o).1)<=_;omega
theorem yS(i:Nat):∀os:List Glow,(os.filter λo=>o.at_==i).length+(os.filter λo=>decide (i+1<=o.at_)).length=(os.filter λo=>decide (i<=o.at_)).length
 |[]=>rfl
 |o::os=>by
  have ih:=yS i os;rw[dh,dh,dh];by_cases h1:o.at_=i
  .rw[ak (by simpa using h1),ag (by simp;omega),ak (by simp;omega)];simp;omega
  rw[ag (by simpa using h1)];by_cases h2:i+1<=o.at_
  .rw[ak (by simpa using h2),ak (by simp;omega)];simp;omega
  rw[ag (by simpa using h2),ag (by simp;omega)];exact ih
theorem x8(b:Book)(os:List Glow):∀(n i:Nat)(m:gv),(fU b os i n m).2.2.length<=busy m.levels+(os.filter λo=>decide (i<=o.at_)).length
 |0,i,m=>bu _
 |n+1,i,m=>by
  have ih:=x8 b os n (i+1) (kQ b m (os.filter λo=>o.at_==i)).1;have h1:=xZ b ((os.filter λo=>o.at_==i).foldl (fQ b) m);have h2:=A4 b (os.filter λo=>o.at_==i) m;have h3:=yS i os;show(((kQ b m (os.filter λo=>o.at_==i)).2.2.map λ(l:Nat)=>(i,l))++(fU b os (i+1) n (kQ b m (os.filter λo=>o.at_==i)).1).2.2).length<=_;rw[aq,aw];have e1:(kQ b m (os.filter λo=>o.at_==i)).2.2=(jf b ((os.filter λo=>o.at_==i).foldl (fQ b) m)).2:=rfl;have e2:(kQ b m (os.filter λo=>o.at_==i)).1=(jf b ((os.filter λo=>o.at_==i).foldl (fQ b) m)).1:=rfl;rw[e1];rw[e2]at ih⊢;omega
theorem qi(b:Book)(os:List Glow):∀(n i:Nat)(m:gv),(fU b os i n m).2.1.length=n
 |0,i,m=>rfl
 |n+1,i,m=>by
  show(_::(fU b os (i+1) n _).2.1).length=_;rw[aF,qi b os n]
theorem x9(b:Book)(os:List Glow):∀(n i:Nat)(m:gv),fU b os i (n+1) m=
  ((kQ b (fU b os i n m).1 (os.filter λ(o:Glow)=>o.at_==i+n)).1,(fU b os i n m).2.1++[(kQ b (fU b os i n m).1 (os.filter λ(o:Glow)=>o.at_==i+n)).2.1],
   (fU b os i n m).2.2++(kQ b (fU b os i n m).1 (os.filter λ(o:Glow)=>o.at_==i+n)).2.2.map λ(l:Nat)=>(i+n,l))
 |0,i,m=>by
  show((kQ b m (os.filter λ(o:Glow)=>o.at_==i)).1,[(kQ b m (os.filter λ(o:Glow)=>o.at_==i)).2.1],(kQ b m (os.filter λ(o:Glow)=>o.at_==i)).2.2.map (λ(l:Nat)=>(i,l))++[])=_;rw[bK];rfl
 |n+1,i,m=>by
  have ih:=x9 b os n (i+1) (kQ b m (os.filter λo=>o.at_==i)).1;have e:i+1+n=i+(n+1):=by omega
  rw[e]at ih;show((fU b os (i+1) (n+1) (kQ b m (os.filter λ(o:Glow)=>o.at_==i)).1).1,_::(fU b os (i+1) (n+1) (kQ b m (os.filter λ(o:Glow)=>o.at_==i)).1).2.1,_++(fU b os (i+1) (n+1) (kQ b m (os.filter λ(o:Glow)=>o.at_==i)).1).2.2)=_;rw[ih];show _=((kQ b (fU b os (i+1) n (kQ b m (os.filter λ(o:Glow)=>o.at_==i)).1).1 _).1,(_::(fU b os (i+1) n (kQ b m (os.filter λ(o:Glow)=>o.at_==i)).1).2.1)++_,(_++(fU b os (i+1) n (kQ b m (os.filter λ(o:Glow)=>o.at_==i)).1).2.2)++_);rw[a0];rfl
def Ii(b:Book)(m:gv)(o:Glow)(h1:m.levels.length=16)(h2:m.cols.length=8):(fQ b m o).levels.length=16/\(fQ b m o).cols.length=8:=by
 unfold fQ;split
 .exact⟨by rw[dG];exact h1,h2⟩
 .exact⟨by rw[dG];exact h1,h2⟩
 .exact⟨h1,by show(jz _ _).length=8;unfold jz;rw[dG];exact h2⟩
 .exact⟨h1,by show(rm _ _).length=8;unfold rm;rw[dG];exact h2⟩
 .exact⟨h1,rfl⟩
 exact⟨rfl,h2⟩
theorem vA(b:Book):∀(os:List Glow)(m:gv),m.levels.length=16->m.cols.length=8->(os.foldl (fQ b) m).levels.length=16/\(os.foldl (fQ b) m).cols.length=8
 |[],m,h1,h2=>⟨h1,h2⟩
 |o::os,m,h1,h2=>let⟨g1,g2⟩:=Ii b m o h1 h2;vA b os _ g1 g2
def Ki(b:Book)(m:gv)(h1:m.levels.length=16)(h2:m.cols.length=8):(jf b m).1.levels.length=16/\(jf b m).1.cols.length=8:=⟨by show(m.levels.map _).length=16;rw[aw];exact h1,h2⟩
theorem Dl(b:Book)(os:List Glow):∀(n i:Nat)(m:gv),m.levels.length=16->m.cols.length=8->(fU b os i n m).1.levels.length=16/\(fU b os i n m).1.cols.length=8
 |0,i,m,h1,h2=>⟨h1,h2⟩
 |n+1,i,m,h1,h2=>by
  obtain⟨g1,g2⟩:=vA b (os.filter λo=>o.at_==i) m h1 h2;obtain⟨g3,g4⟩:=Ki b _ g1 g2;exact Dl b os n (i+1) _ g3 g4
def Ij(b:Book)(m:gv)(o:Glow):(fQ b m o).tick=m.tick:=by unfold fQ;split<;>rfl
theorem ue(b:Book):∀(os:List Glow)(m:gv),(os.foldl (fQ b) m).tick=m.tick
 |[],m=>rfl
 |o::os,m=>by rw[cM,ue b os,Ij]
end MT
open MT
namespace LP
open PySem PySem.Spec PyProof.Rows L2 LX
structure Def(K:Frag)(x qual:Str)(st:Stmt)(ps:List Str)(f:Addr):Prop where
 ex:∃fd,W5 K x qual st f fd/\Binds K fd ps []
structure gj(P:Program)(w:World)(K:Frag)(mg:Str->Option Value)(base:Heap)(pl:Value->Prop)(k:Nat)(f:Addr)(ps:List Str)(sp:Sp):Prop where
 ex:∃fd,vg P w K mg base (vd P w pl) k f fd ps sp/\Binds K fd ps []
 kp:keepIn K (.ref f)=true
section
variable{P:Program}{w:World}{K:Frag}{mg:Str->Option Value}{base:Heap}{pl:Value->Prop}
theorem gj.mono(G:gj P w K mg base pl j f ps sp)(h:j<=k):gj P w K mg base pl k f ps sp:=
 ⟨let⟨fd,F,b⟩:=G.ex;⟨fd,F.mono h,b⟩,G.kp⟩
def jx{st:Stmt}(D:Def K x qual st ps f)(S:fh N ps (eZ st))
  (hbody:∀(cdv:Value)(A:Around)(outer:List Env)(s:Shared)(H:Hp)(vs:List V)(Q:VK)(E:XK),let X:=nS (vd P w pl) P w K mg base N qual (eZ st) f cdv A outer s H E;jJ k (A.deeper (envOfC qual (eZ st) s.heap.objs.size f cdv))->sp vs H Q E->
   ∃t,Hg X (pT st) t/\t {nx:=λ_ H'=>Q .hJ H',rt:=Q} (start N vs) H)
  (len:∀vs H Q E,sp vs H Q E->vs.length=ps.length:=by intro vs H Q E h;cases h;subst_vars;rfl):gj P w K mg base pl (k+1) f ps sp:=by
 obtain⟨fd,F,b⟩:=D.ex;exact⟨⟨fd,okx F S len λcdv A outer s H vs Q E hr h=>hbody cdv A outer s H vs Q E hr h,b⟩,F.kp⟩
end
def Fg(h:let r0:=u;let r1:=gP t2 r0;gP t1 r1 D σ H):(gP t1 (gP t2 u)) D σ H:=h
def Kj(h:let r0:=u;let r1:=gP t3 r0;let r2:=gP t2 r1;gP t1 r2 D σ H):(gP t1 (gP t2 (gP t3 u))) D σ H:=h
def Rv(h:let r0:=u;let r1:=gP t4 r0;let r2:=gP t3 r1;let r3:=gP t2 r2;gP t1 r3 D σ H):(gP t1 (gP t2 (gP t3 (gP t4 u)))) D σ H:=h
def ZU(h:let r0:=u;let r1:=gP t5 r0;let r2:=gP t4 r1;let r3:=gP t3 r2;let r4:=gP t2 r3;gP t1 r4 D σ H):(gP t1 (gP t2 (gP t3 (gP t4 (gP t5 u))))) D σ H:=h
def YK(h:let r0:=u;let r1:=gP t7 r0;let r2:=gP t6 r1;let r3:=gP t5 r2;let r4:=gP t4 r3;let r5:=gP t3 r4;let r6:=gP t2 r5;gP t1 r6 D σ H):(gP t1 (gP t2 (gP t3 (gP t4 (gP t5 (gP t6 (gP t7 u))))))) D σ H:=h
def Xi(h:let r0:=u;let r1:=gP t10 r0;let r2:=gP t9 r1;let r3:=gP t8 r2;let r4:=gP t7 r3;let r5:=gP t6 r4;let r6:=gP t5 r5;let r7:=gP t4 r6;let r8:=gP t3 r7;let r9:=gP t2 r8;gP t1 r9 D σ H):(gP t1 (gP t2 (gP t3 (gP t4 (gP t5 (gP t6 (gP t7 (gP t8 (gP t9 (gP t10 u)))))))))) D σ H:=h
def Gp:Passes (vd X.prog X.w pl) X (λ_ _ _=>False):=λ_ _ _ _ _ _ _ h=>(An h).elim
section
variable{P:Program}{w:World}{K:Frag}{mg:Str->Option Value}{base:Heap}{N:List Str}{qual:Str}{scope:Scope}{f:Addr}{cd:Value}{A:Around}{outer:List Env}{s:Shared}{H:Hp}{E:XK}{pl:Value->Prop}
def YL:Passes (vd P w pl) (nS (vd P w pl) P w K mg base N qual scope f cd A outer s H E) E:=NI Ao
end
section
variable{X:Cx}{pl:Value->Prop}{j k:Nat}{f C:Addr}{ps:List Str}{sp:Sp}{E:XK}{x m:Str}{p pos apos:Pos}{e o:Expr}{es:List Expr}{ta:TE}{t:TA}
def gy(G:gj X.prog X.w X.K X.mg X.base pl j f ps sp)(hr:jJ k X.A)(hm:X.mg x=some (.ref f))(ha:PA X (e::es) t)
  (hj:j<=k:=by decide) (hg:Gl X x:=by exact rfl) (hx:Passes (vd X.prog X.w pl) X E:=by exact YL)
  (hdb:(x==("__debug__":Str))=false:=by decide) (he:starEach (e::es) X.env=(false,eval e X.env)::starEach es X.env:=by rfl) (hpl:(backTo pos (starEach es X.env)).any (·.1)=false:=by rfl):
  PE X (.Call (.Name x p) (e::es) [] pos) (Ho sp [] E t):=by
 obtain⟨fd,F,b⟩:=(G.mono hj).ex;exact RP F hr hg hm G.kp b .nil hx ha hdb he hpl
def P2(G:gj X.prog X.w X.K X.mg X.base pl j f ps sp)(hr:jJ k X.A)(hm:X.mg x=some (.ref f))
  (hj:j<=k:=by decide) (hg:Gl X x:=by exact rfl) (hx:Passes (vd X.prog X.w pl) X E:=by exact YL)
  (hdb:(x==("__debug__":Str))=false:=by decide):PE X (.Call (.Name x p) [] [] pos) (Ho sp [] E o8):=by
 obtain⟨fd,F,b⟩:=(G.mono hj).ex;exact OX F hr hg hm G.kp b .nil hx hdb
def kT(he:PE X o ta)(c:CC X.K C)(hm:Meth X.K C m f)(G:gj X.prog X.w X.K X.mg X.base pl j f ps sp)(hr:jJ k X.A)(ha:PA X (e::es) t)
  (hj:j<=k:=by decide) (hx:Passes (vd X.prog X.w pl) X E:=by exact YL)
  (hst:starEach (e::es) X.env=(false,eval e X.env)::starEach es X.env:=by rfl) (hpl:(backTo pos (starEach es X.env)).any (·.1)=false:=by rfl)
  (ht:eval (.Call (.Attribute o m apos) (e::es) [] pos) X.env=(do
   let ov<-eval o X.env
   standAt apos.atName
   let(f,first)<-holding [ov] (getMethod ov m pb)
   callWith pos f first (backTo pos (starEach (e::es) X.env)) (backToKw pos (keywordEach [] X.env))):=by rfl):
  PE X (.Call (.Attribute o m apos) (e::es) [] pos) (CK C m sp [] E ta t):=by
 obtain⟨fd,F,b⟩:=(G.mono hj).ex;exact RQ he c hm F hr b .nil hx ha hst hpl ht
def lW(he:PE X o ta)(c:CC X.K C)(hm:Meth X.K C m f)(G:gj X.prog X.w X.K X.mg X.base pl j f ps sp)(hr:jJ k X.A)
  (hj:j<=k:=by decide) (hx:Passes (vd X.prog X.w pl) X E:=by exact YL)
  (ht:eval (.Call (.Attribute o m apos) [] [] pos) X.env=(do
   let ov<-eval o X.env
   standAt apos.atName
   let(f,first)<-holding [ov] (getMethod ov m pb)
   callWith pos f first (backTo pos (starEach [] X.env)) (backToKw pos (keywordEach [] X.env))):=by rfl):
  PE X (.Call (.Attribute o m apos) [] [] pos) (CK C m sp [] E ta o8):=by
 obtain⟨fd,F,b⟩:=(G.mono hj).ex;exact OY he c hm F hr b .nil hx ht
def Gq(M:Mk X.K C f)(G:gj X.prog X.w X.K X.mg X.base pl j f ps sp)(hr:jJ (k+1) X.A)(hm:X.mg x=some (.ref C))(ha:PA X (e::es) t)
  (hj:j<=k:=by decide) (hg:Gl X x:=by exact rfl)
  (hdb:(x==("__debug__":Str))=false:=by decide) (he:starEach (e::es) X.env=(false,eval e X.env)::starEach es X.env:=by rfl) (hpl:(backTo pos (starEach es X.env)).any (·.1)=false:=by rfl):
  PE X (.Call (.Name x p) (e::es) [] pos) (Lf C sp [] (λ_ _ _=>False) t):=by
 obtain⟨fd,F,b⟩:=(G.mono hj).ex;exact RR M F hr hg hm b .nil Gp ha hdb he hpl
def Xk(M:Mk X.K C f)(G:gj X.prog X.w X.K X.mg X.base pl j f ps sp)(hr:jJ (k+1) X.A)(hm:X.mg x=some (.ref C))
  (hj:j<=k:=by decide) (hg:Gl X x:=by exact rfl)
  (hdb:(x==("__debug__":Str))=false:=by decide):PE X (.Call (.Name x p) [] [] pos) (Lf C sp [] (λ_ _ _=>False) o8):=by
 obtain⟨fd,F,b⟩:=(G.mono hj).ex;exact OZ M F hr hg hm b .nil Gp hdb
inductive GV(mg:Str->Option Value)(x:Str)(v:V):Prop
 |mk:∀u,mg x=some u->RelV v u->GV mg x v
def iy(h:GV X.mg x v)(hg:Gl X x:=by exact rfl)(hd:(x==("__debug__":Str))=false:=by decide):PE X (.Name x pos) (tC v):=
 let⟨_,hm,r⟩:=h
 RI hg hm r hd
end
structure X2(P:Program)(w:World)(K:Frag)(mg:Str->Option Value)(base:Heap)(pl:Value->Prop)(C:Addr)(x f1 f2:Str):Prop where
 ex:∃N f fd ps,mZ K C N/\findIn K (.ref C) "__init__"=some (some (.ref f))/\typeIn K (.ref f)=some (.type "function")/\(∀k,C1 P w K mg base (vd P w pl) (k+1) f fd ps (HJ C f1 f2))/\Binds K fd ps []
 mg:mg x=some (.ref C)
structure X0(K:Frag)(mg:Str->Option Value)(C:Addr)(x:Str):Prop where
 ex:∃N,mZ K C N/\findIn K (.ref C) "__init__"=some (some (.builtin "Exception.__init__"))
 mg:mg x=some (.ref C)
section
variable{P:Program}{w:World}{K:Frag}{mg:Str->Option Value}{base:Heap}{N:List Str}{qual:Str}{scope:Scope}{f:Addr}{cd:Value}{A:Around}{outer:List Env}{s:Shared}{H:Hp}{E:XK}{pl:Value->Prop}
variable{C:Addr}{x f1 f2:Str}{k:Nat}{p l0 pos:Pos}{e:Expr}{es:List Expr}{t:TA}
def Av(h:X2 P w K mg base pl C x f1 f2)(hr:jJ (k+2) (nS (vd P w pl) P w K mg base N qual scope f cd A outer s H E).A)(hg:Gl (nS (vd P w pl) P w K mg base N qual scope f cd A outer s H E) x)(ha:PA (nS (vd P w pl) P w K mg base N qual scope f cd A outer s H E) (e::es) t)
  (hdb:(x==("__debug__":Str))=false:=by decide) (he:starEach (e::es) (nS (vd P w pl) P w K mg base N qual scope f cd A outer s H E).env=(false,eval e (nS (vd P w pl) P w K mg base N qual scope f cd A outer s H E).env)::starEach es (nS (vd P w pl) P w K mg base N qual scope f cd A outer s H E).env:=by rfl)
  (hpl:(backTo l0 (starEach es (nS (vd P w pl) P w K mg base N qual scope f cd A outer s H E).env)).any (·.1)=false:=by rfl):
  PS (nS (vd P w pl) P w K mg base N qual scope f cd A outer s H E) (.Raise (some (.Call (.Name x p) (e::es) [] l0)) none pos) (Ge C f1 f2 E t):=by
 obtain⟨_,_,_,_,c,hi,hf,F,b⟩:=h.ex;exact NL Ao rfl c hi hf (F k) (TC hr) hg h.mg b ha hdb he hpl
def V4(h:X0 K mg C x)(hg:Gl (nS (vd P w pl) P w K mg base N qual scope f cd A outer s H E) x)(hdb:(x==("__debug__":Str))=false:=by decide):
  PS (nS (vd P w pl) P w K mg base N qual scope f cd A outer s H E) (.Raise (some (.Call (.Name x p) [] [] l0)) none pos) (Lv C E):=by
 obtain⟨N',c,hi⟩:=h.ex;exact NM Ao rfl c hi hg h.mg hdb
end
section
variable{X:Cx}
def TM:Wu X .BitOr (YD λi j=>Builtin.bitOr i j):=by
 intro pins s σ H x y v u Q I r1 r2 h;obtain⟨i,j,e1,e2,q⟩:=h;subst e1;subst e2;obtain⟨t,rfl⟩:=r1;obtain⟨t',rfl⟩:=r2;exact ior_int ⟨.int _,H,I.tok _,⟨_,rfl⟩,q⟩
def P4:Wu X .BitAnd (YD λi j=>Builtin.bitAnd i j):=by
 intro pins s σ H x y v u Q I r1 r2 h;obtain⟨i,j,e1,e2,q⟩:=h;subst e1;subst e2;obtain⟨t,rfl⟩:=r1;obtain⟨t',rfl⟩:=r2;exact iand_int ⟨.int _,H,I.tok _,⟨_,rfl⟩,q⟩
end
section
variable{X:Cx}{x f:Str}{e e1 e2 e3:Expr}{te t1 t2 t3:TE}{p p' pos:Pos}
def fP(i:Nat)(S:fh X.N ps sc)(he:PE X e te)(hi:X.N[i]? =some x:=by rfl)(hx:Loc X.env.scope x:=by exact .inl rfl)(hs:swapsWith e (some (.Name x p)) pos.line X.env=pure false:=by rfl)(hf:X.fn x=true\/X.env.scope.names.lookup x=some .local:=by first|exact .inl rfl|exact .inr rfl|assumption):
  PS X (.Assign [.Name x p] e pos) (OL te (EJ i)):=UD S.nd hi hx he hs hf
def gI(i:Nat)(hb:attributeBase (.Name x p) f X.env (eval (.Name x p) X.env)=eval (.Name x p) X.env:=by exact rfl)(hN:X.N[i]? =some x:=by rfl)(hv:RG X.env.scope x:=by first|exact Or.inl rfl|exact Or.inr (Or.inl rfl)|exact Or.inr (Or.inr rfl))(hd:(x==("__debug__":Str))=false:=by decide)
  (hcd:(x==("__classdict__":Str))=false:=by decide):PE X (.Attribute (.Name x p) f pos) (wK X.K (jk i) f):=mm (pv i hN hv hd hcd) hb
def iF(h:PE X e te)(hs:starEach [e] X.env=(false,eval e X.env)::starEach [] X.env:=by rfl):PA X [e] (kL te o8):=Cb h m8 hs
def jy(h:PE X e te)(h1:PE X e1 t1)(hs:starEach [e,e1] X.env=(false,eval e X.env)::starEach [e1] X.env:=by rfl)(hs1:starEach [e1] X.env=(false,eval e1 X.env)::starEach [] X.env:=by rfl):PA X [e,e1] (kL te (kL t1 o8)):=Cb h (iF h1 hs1) hs
def Ab(h:PE X e te)(h1:PE X e1 t1)(h2:PE X e2 t2)(hs:starEach [e,e1,e2] X.env=(false,eval e X.env)::starEach [e1,e2] X.env:=by rfl)(hs1:starEach [e1,e2] X.env=(false,eval e1 X.env)::starEach [e2] X.env:=by rfl)(hs2:starEach [e2] X.env=(false,eval e2 X.env)::starEach [] X.env:=by rfl):PA X [e,e1,e2] (kL te (kL t1 (kL t2 o8))):=Cb h (jy h1 h2 hs1 hs2) hs
def kY(h:PE X e te):Hg X [.Return (some e) pos] (BZ te):=ff (tW h)
def ya(h:PE X e te)(hs:swapsWith e none pos.line X.env=pure false:=by rfl):Hg X [.Expr e pos] (K2 te):=ff (gi h hs)
def gM(hm:X.mg "len"=none)(h:PE X e te)(hg:Gl X "len":=by exact rfl)(hs:starEach [e] X.env=(false,eval e X.env)::starEach [] X.env:=by rfl):
  PE X (.Call (.Name "len" p) [e] [] pos) (YF (λxs H Q=>∃p ys,xs=[.ref p]/\(gC X.K H p ys\/m5 X.K H p ys)/\Q (.int ys.length) H) (kL te o8)):=CM F6 hg hm PySem.boot_len (iF h hs) (he:=hs)
end
noncomputable def top(i:Nat):Stmt:=PySem.Challenge.pw_lampshows_s01_answers.main.body.getD i (.Pass ⟨0,0,0,0⟩)
noncomputable abbrev Dm:Stmt:=top 4
noncomputable abbrev Dn:Stmt:=top 5
noncomputable abbrev wZ:Stmt:=top 6
noncomputable abbrev yT:Stmt:=top 7
noncomputable abbrev A5:Stmt:=top 8
noncomputable abbrev vB:Stmt:=inClass (top 11) 0
noncomputable abbrev sY:Stmt:=inClass (top 12) 0
noncomputable abbrev yU:Stmt:=top 13
noncomputable abbrev yV:Stmt:=top 14
noncomputable abbrev Dq:Stmt:=top 15
noncomputable abbrev sZ:Stmt:=top 16
noncomputable abbrev uI:Stmt:=top 17
noncomputable abbrev uf:Stmt:=top 18
noncomputable abbrev rn:Stmt:=top 19
noncomputable abbrev A6:Stmt:=top 20
noncomputable abbrev oS:Stmt:=inClass (top 31) 0
noncomputable abbrev qj:Stmt:=inClass (top 35) 0
noncomputable abbrev Aw:Stmt:=top 49
noncomputable abbrev A7:Stmt:=top 50
noncomputable abbrev Dr:Stmt:=top 51
noncomputable abbrev Fh:Stmt:=top 52
noncomputable abbrev w8:Stmt:=top 53
noncomputable abbrev uJ:Stmt:=inClass (top 54) 0
noncomputable abbrev uK:Stmt:=inClass (top 54) 1
noncomputable abbrev A8:Stmt:=inClass (top 54) 2
noncomputable abbrev A9:Stmt:=inClass (top 54) 3
noncomputable abbrev tf:Stmt:=inClass (top 54) 4
noncomputable abbrev tj:Stmt:=inClass (top 54) 5
noncomputable abbrev oU:Stmt:=inClass (top 54) 6
noncomputable abbrev nh:Stmt:=inClass (top 54) 7
noncomputable abbrev qk:Stmt:=inClass (top 54) 8
noncomputable abbrev w9:Stmt:=inClass (top 54) 9
noncomputable abbrev Ds:Stmt:=top 55
noncomputable abbrev xa:Stmt:=top 56
noncomputable abbrev xb:Stmt:=top 57
noncomputable abbrev Ba:Stmt:=top 58
noncomputable abbrev uL:Stmt:=inClass (top 63) 0
noncomputable abbrev uM:Stmt:=inClass (top 64) 0
noncomputable abbrev uN:Stmt:=inClass (top 65) 0
noncomputable abbrev xc:Stmt:=top 66
noncomputable abbrev Bb:Stmt:=top 67
noncomputable abbrev rp:Stmt:=top 68
noncomputable abbrev rq:Stmt:=top 69
noncomputable abbrev vC:Stmt:=top 70
noncomputable abbrev Bc:Stmt:=top 71
noncomputable abbrev tm:Stmt:=top 72
noncomputable abbrev Bd:Stmt:=top 73
noncomputable abbrev uO:Stmt:=inClass (top 76) 0
noncomputable abbrev yW:Stmt:=top 77
noncomputable abbrev tq:Stmt:=inClass (top 86) 0
noncomputable abbrev xf:Stmt:=top 87
noncomputable abbrev Dt:Stmt:=top 88
noncomputable abbrev vD:Stmt:=top 89
noncomputable abbrev Be:Stmt:=top 90
noncomputable abbrev tx:Stmt:=inClass (top 104) 0
noncomputable abbrev xg:Stmt:=top 105
noncomputable abbrev uP:Stmt:=top 106
noncomputable abbrev yX:Stmt:=top 107
noncomputable abbrev tD:Stmt:=top 108
noncomputable abbrev Bf:Stmt:=top 109
noncomputable abbrev xh:Stmt:=top 110
noncomputable abbrev Bg:Stmt:=top 111
noncomputable abbrev Bh:Stmt:=top 112
noncomputable abbrev xi:Stmt:=top 113
noncomputable abbrev xj:Stmt:=top 114
noncomputable abbrev qm:Stmt:=top 115
noncomputable abbrev Bi:Stmt:=top 116
noncomputable abbrev Bj:Stmt:=top 117
noncomputable abbrev yY:Stmt:=top 118
noncomputable abbrev vE:Stmt:=top 119
noncomputable abbrev yZ:Stmt:=top 120
noncomputable abbrev qp:Stmt:=inClass (top 135) 0
noncomputable abbrev mv:Stmt:=top 136
noncomputable abbrev ni:Stmt:=top 137
noncomputable abbrev y0:Stmt:=top 138
noncomputable abbrev Bl:Stmt:=top 139
noncomputable abbrev Bm:Stmt:=top 140
noncomputable abbrev y4:Stmt:=top 141
noncomputable abbrev Bn:Stmt:=top 142
noncomputable abbrev pF:Stmt:=top 143
noncomputable abbrev y6:Stmt:=top 144
noncomputable abbrev Bo:Stmt:=top 145
noncomputable abbrev vF:Stmt:=top 146
noncomputable abbrev y8:Stmt:=top 147
noncomputable abbrev vG:Stmt:=top 148
noncomputable abbrev qr:Stmt:=top 149
noncomputable abbrev Du:Stmt:=top 150
noncomputable abbrev Fi:Stmt:=top 151
def jr(kind:sc.kind=.function:=by rfl)(co:sc.isCoroutine=false:=by rfl)(gen:sc.isGenerator=false:=by rfl)(nd:N.Nodup:=by decide+kernel)(pre:N.take P.length=P:=by rfl)(par:∀x∈P,sc.names.lookup x=some .local\/sc.names.lookup x=some .cell:=by decide+kernel)(JR:∀y∈sc.names,y.2≠.free:=by decide+kernel):fh N P sc:=⟨kind,co,gen,nd,pre,par,JR⟩
def Ik:fh [] [] (eZ Dm):=jr
def Il:fh ["columns","place"] ["columns","place"] (eZ Dn):=jr
def Dv:fh ["columns","place"] ["columns","place"] (eZ wZ):=jr
def rW:fh ["places","columns","place"] ["places"] (eZ yT):=jr
def lF:fh ["columns","places","column","byte","row","bit"] ["columns"] (eZ A5):=jr
def B0:fh ["self","number","show","tick"] ["self","number","show","tick"] (eZ vB):=jr
def y9:fh ["self","book"] ["self","book"] (eZ sY):=jr
def Er:fh ["board","level","number"] ["board","level","number"] (eZ yU):=jr
def Es:fh ["board","level"] ["board","level"] (eZ yV):=jr
def Im:fh ["board"] ["board"] (eZ Dq):=jr
def za:fh ["board"] ["board"] (eZ sZ):=jr
def ja:fh ["board","column","lit","unspoken","run"] ["board","column"] (eZ uI):=jr
def rX:fh ["board","column"] ["board"] (eZ uf):=jr
def yb:fh ["run","tick"] ["run","tick"] (eZ rn):=jr
def pU:fh ["board","ended","level","run"] ["board"] (eZ A6):=jr
def va:fh ["self","kind","place"] ["self","kind","place"] (eZ oS):=jr
def wL:fh ["self","kind","place"] ["self","kind","place"] (eZ qj):=jr
def yc:fh ["text","sign"] ["text"] (eZ Aw):=jr
def Gr:fh ["byte"] ["byte"] (eZ A7):=jr
def Io:fh ["byte"] ["byte"] (eZ Dr):=jr
def Dx:fh ["word","byte"] ["word"] (eZ Fh):=jr
def nj:fh ["word","number","byte"] ["word"] (eZ w8):=jr
def Ax:fh ["self","end"] ["self","end"] (eZ uJ):=jr
def Ay:fh ["self"] ["self"] (eZ uK):=jr
def Gs:fh ["self","mark"] ["self","mark"] (eZ A8):=jr
def zb:fh ["self","word"] ["self"] (eZ A9):=jr
def zc:fh ["self","mark"] ["self","mark"] (eZ tf):=jr
def rB:fh ["self","word"] ["self"] (eZ tj):=jr
def nY:fh ["self","known","name"] ["self","known"] (eZ oU):=jr
def mE:fh ["self","known","name"] ["self","known"] (eZ nh):=jr
def pG:fh ["self","least","most","number"] ["self","least","most"] (eZ qk):=jr
def Dy:fh ["self"] ["self"] (eZ w9):=jr
def vH:fh ["text","start","place"] ["text","start"] (eZ Ds):=jr
def kZ:fh ["text","start","end","before","place","byte"] ["text","start","end"] (eZ xa):=jr
def lg:fh ["text","start","end","line","first","place"] ["text","start","end"] (eZ xb):=jr
def zd:fh ["text","start","end"] ["text","start"] (eZ Ba):=jr
def Az:fh ["self","ticks","lamps"] ["self","ticks","lamps"] (eZ uL):=jr
def AA:fh ["self","name","lamps","loops"] ["self","name","lamps","loops"] (eZ uM):=jr
def AB:fh ["self","lamps","shows"] ["self","lamps","shows"] (eZ uN):=jr
def Dz:fh ["shows"] ["shows"] (eZ xc):=jr
def ze:fh ["table","line","before","place"] ["table","line","before"] (eZ Bb):=jr
def qt:fh ["table","line","lamps"] ["table","line"] (eZ rp):=jr
def jO:fh ["table","show","line","lamps","before"] ["table","show","line"] (eZ rq):=jr
def lG:fh ["table","shows","line","name","lamps","loops","show"] ["table","shows","line"] (eZ vC):=jr
def zf:fh ["table","shows","line","ticks"] ["table","shows","line"] (eZ Bc):=jr
def nk:fh ["table","shows","line","word","step"] ["table","shows","line"] (eZ tm):=jr
def nu:fh ["table","text","shows","start","line"] ["table","text"] (eZ Bd):=jr
def AD:fh ["self","name","wholes","rows"] ["self","name","wholes","rows"] (eZ uO):=jr
def iu:fh ["numbers","calls","at","form","wholes","rows","end"] ["numbers"] (eZ yW):=jr
def zg:fh ["self","tick","kind","level","what"] ["self","tick","kind","level","what"] (eZ tq):=jr
def qu:fh ["numbers","orders","at"] ["numbers"] (eZ xf):=jr
def Ip:fh ["book","order"] ["book","order"] (eZ Dt):=jr
def md:fh ["book","count","orders","before","order"] ["book","count","orders"] (eZ vD):=jr
def Gu:fh ["board","order"] ["board","order"] (eZ Be):=jr
def zh:fh ["self","balls"] ["self","balls"] (eZ tx):=jr
def DA:fh ["table","line","place"] ["table","line","place"] (eZ xg):=jr
def tE:fh ["line","barred","known","name"] ["line","barred","known"] (eZ uP):=jr
def xk:fh ["table","line","most","place"] ["table","line","most"] (eZ yX):=jr
def rC:fh ["table","line","coil"] ["table","line"] (eZ tD):=jr
def zj:fh ["line","balls"] ["line"] (eZ Bf):=jr
def qv:fh ["table","line","name","place"] ["table","line"] (eZ xh):=jr
def zk:fh ["table","line","name"] ["table","line"] (eZ Bg):=jr
def ug:fh ["table","line","name","most"] ["table","line"] (eZ Bh):=jr
def vI:fh ["table","line","switch"] ["table","line"] (eZ xi):=jr
def lh:fh ["table","line","name","coil","held"] ["table","line"] (eZ xj):=jr
def pH:fh ["table","line","switch"] ["table","line"] (eZ qm):=jr
def uh:fh ["table","line","switch","coil"] ["table","line"] (eZ Bi):=jr
def ui:fh ["table","line","word","rank"] ["table","line"] (eZ Bj):=jr
def Et:fh ["table","rank"] ["table","rank"] (eZ yY):=jr
def uQ:fh ["table","line","sort"] ["table","line"] (eZ vE):=jr
def oM:fh ["text","line","table"] ["text"] (eZ yZ):=jr
def wM:fh ["self"] ["self"] (eZ qp):=jr
def pI:fh ["text","fault"] ["text"] (eZ mv):=jr
def qw:fh ["table","text","fault"] ["table","text"] (eZ ni):=jr
def Eu:fh ["rows"] ["rows"] (eZ y0):=jr
def Gv:fh ["step"] ["step"] (eZ Bl):=jr
def uj:fh ["show","told","step"] ["show"] (eZ Bm):=jr
def rY:fh ["book","told","show"] ["book"] (eZ y4):=jr
def uk:fh ["book","name","number","show"] ["book","name"] (eZ Bn):=jr
def oV:fh ["machine","call","book"] ["machine","call"] (eZ pF):=jr
def rZ:fh ["rows","ends","told","end"] ["rows","ends"] (eZ y6):=jr
def jP:fh ["board","count","orders","rows","ends","done","number","level"] ["board","count","orders"] (eZ Bo):=jr
def uR:fh ["board","count","numbers","orders"] ["board","count","numbers"] (eZ vF):=jr
def xm:fh ["board","level","run"] ["board","level"] (eZ y8):=jr
def B1:fh ["machine","call"] ["machine","call"] (eZ vG):=jr
def wN:fh ["machine","call"] ["machine","call"] (eZ qr):=jr
def Fj:fh ["machine","call","fault"] ["machine","call"] (eZ Du):=jr
def qy:fh ["calls","machine","answered","call","told"] ["calls"] (eZ Fi):=jr
set_option genInjectivity false in
structure ij where
 mG:Addr
 gz:Addr
 eX:Addr
 gh:Addr
 gL:Addr
 fY:Addr
 gJ:Addr
 gE:Addr
 gR:Addr
 fj:Addr
 nv:Addr
 jg:Addr
 pj:Addr
 jQ:Addr
 kS:Addr
 fk:Addr
 gV:Addr
 ll:Addr
 mw:Addr
 kg:Addr
 jR:Addr
 lq:Addr
 qz:Addr
 oo:Addr
 lH:Addr
 jS:Addr
 oq:Addr
 jb:Addr
 iW:Addr
 lI:Addr
 iQ:Addr
 mH:Addr
 lu:Addr
 jT:Addr
 jE:Addr
 lz:Addr
 my:Addr
 p6:Addr
 kh:Addr
 pk:Addr
 pq:Addr
 vJ:Addr
 vK:Addr
 ot:Addr
 ou:Addr
 lA:Addr
 jU:Addr
 mz:Addr
 si:Addr
 ox:Addr
 km:Addr
 ko:Addr
 jK:Addr
 px:Addr
 pz:Addr
 pA:Addr
 js:Addr
 jL:Addr
 iR:Addr
 iS:Addr
 mI:Addr
 mJ:Addr
 jc:Addr
 mK:Addr
 pB:Addr
 lJ:Addr
 oy:Addr
 kx:Addr
 oz:Addr
 jF:Addr
 mL:Addr
 oA:Addr
 jt:Addr
 iX:Addr
 jn:Addr
 iG:Addr
 mM:Addr
 ky:Addr
 mO:Addr
 mP:Addr
 ju:Addr
 kz:Addr
 iH:Addr
 mQ:Addr
 mR:Addr
 lK:Addr
 jG:Addr
 lM:Addr
 mB:Addr
 ik:Addr
 iz:Addr
 lN:Addr
 mT:Addr
 mU:Addr
 lO:Addr
 mV:Addr
 iE:Addr
 lP:Addr
 mW:Addr
 jH:Addr
 lQ:Addr
 jI:Addr
 iI:Addr
 qA:Addr
 p7:Addr
 P5:Addr
 Gw:Addr
 LK:Addr
 um:Addr
 lR:Addr
 LL:Addr
 LM:Addr
 LN:Addr
 LO:Addr
 LQ:Addr
 LR:Addr
 LS:Addr
 LU:Addr
 LV:Addr
noncomputable def Iq(a:ij):Nat->Addr
 |1=>a.LL
 |2=>a.LM
 |3=>a.LN
 |4=>a.LO
 |5=>a.LQ
 |6=>a.LR
 |7=>a.LS
 |8=>a.LU
 |_=>a.LV
def P6(K:Frag)(a:ij):Prop:=∀(P:Program)(w:World)(h:Heap),K.In h->∃f,h.MapOf (jM P w) a.Gw f/\∀n:Nat,1<=n->n<=9->f (Sum.inl (n:Int))=some (.ref (Iq a n))
structure Tx0(K:Frag)(mg:Str->Option Value)(a:ij):Prop where
 iA:mg "len"=none
 TN:mg "ord"=none
 Gx:mg "tuple"=none
 Kk:mg "list"=none
 rD:mg "range"=none
 DB:mg "reversed"=none
 rE:mg "enumerate"=none
 Ir:mg "sorted"=none
 wz:GV mg "COLUMNS" (.int 8)
 Gy:GV mg "FULL" (.int 255)
 uo:GV mg "BITS" (.ref a.P5)
 pC:∀H,m5 K H a.P5 [.int 1,.int 2,.int 4,.int 8,.int 16,.int 32,.int 64,.int 128]
 qB:GV mg "LEVELS" (.int 16)
 Fl:GV mg "UNENDED" (.int 1)
 uq:GV mg "STRAY_BYTE" (.int 2)
 iK:GV mg "WRONG_WORD" (.int 3)
 oN:GV mg "WRONG_VALUE" (.int 4)
 wB:GV mg "NOT_NEW" (.int 5)
 vL:GV mg "NOT_KNOWN" (.int 6)
 oB:GV mg "CLASHING" (.int 7)
 zl:GV mg "FEW_DRAINS" (.int 8)
 Fm:GV mg "NO_STEP" (.int 9)
 AE:GV mg "NEWLINE" (.int 10)
 wC:GV mg "BLANK" (.int 32)
 Bp:GV mg "LAST_SIGN" (.int 126)
 Gz:GV mg "ZERO" (.int 48)
 P7:GV mg "NINE" (.int 57)
 Bq:GV mg "UNDERLINE" (.int 95)
 Fn:GV mg "SMALL_A" (.int 97)
 Fo:GV mg "SMALL_Z" (.int 122)
 rF:GV mg "MOST_NAME_BYTES" (.int 12)
 xn:GV mg "MOST_DIGITS" (.int 5)
 zm:GV mg "MOST_SHOWS" (.int 32)
 zo:GV mg "MOST_STEPS" (.int 16)
 rG:GV mg "MOST_STEP_TICKS" (.int 65535)
 LW:GV mg "FORMS" (.ref a.Gw)
 LY:∀H,m5 K H a.LL [.str "judge",.int 0,.int 2]
 LZ:∀H,m5 K H a.LM [.str "shows",.int 0,.int 2]
 L0:∀H,m5 K H a.LN [.str "find",.int 0,.int 3]
 L1:∀H,m5 K H a.LO [.str "begin",.int 0,.int 2]
 L4:∀H,m5 K H a.LQ [.str "lit",.int 0,.int 0]
 L5:∀H,m5 K H a.LR [.str "ticks",.int 1,.int 1]
 L6:∀H,m5 K H a.LS [.str "level",.int 1,.int 0]
 L7:∀H,m5 K H a.LU [.str "base",.int 0,.int 0]
 L8:∀H,m5 K H a.LV [.str "tick",.int 0,.int 0]
 uv:GV mg "BEGIN_SHOW" (.int 0)
 uw:GV mg "STOP_LEVEL" (.int 1)
 vM:GV mg "SWITCH_ON" (.int 2)
 ux:GV mg "SWITCH_OFF" (.int 3)
 oC:GV mg "SWITCH_ALL_OFF" (.int 4)
 DC:GV mg "STOP_ALL" (.int 5)
 qC:GV mg "NUMBERS_EACH" (.int 4)
 Ck:GV mg "SORTS" (.ref a.LK)
 Cm:∀H,m5 K H a.LK [.str "switch",.str "lamp",.str "coil",.str "device",.str "kick"]
 zp:GV mg "MOST_BALLS" (.int 8)
 uy:GV mg "LAST_PLACE" (.int 63)
 rH:GV mg "LAST_COIL_PLACE" (.int 31)
 lX:GV mg "MOST_SWITCH_TICKS" (.int 31)
 rJ:GV mg "MOST_COIL_TICKS" (.int 1023)
 Br:GV mg "MOST_REST" (.int 4095)
 Bs:GV mg "MOST_HOLD" (.int 15)
 vN:GV mg "MOST_DEVICES" (.int 8)
 Bt:GV mg "MOST_HELD" (.int 8)
 zq:GV mg "MOST_KICKS" (.int 8)
 rK:GV mg "MOST_KICK_TICKS" (.int 255)
 sj:GV mg "DONE" (.int 0)
 Bu:GV mg "NOT_RIGHT" (.int (-1))
 DD:GV mg "TOO_MUCH" (.int (-2))
 vO:GV mg "NO_SUCH_SHOW" (.int (-4))
 yd:GV mg "BAD_BOOK" (.int (-6))
 Bv:GV mg "BAD_TABLE" (.int (-8))
 Bw:GV mg "NOT_BEGUN" (.int (-10))
 qE:GV mg "MOST_TABLE_BYTES" (.int 16384)
 rL:GV mg "MOST_BOOK_BYTES" (.int 65536)
 zt:GV mg "MOST_TICKS" (.int 4096)
 xp:GV mg "MOST_ORDERS" (.int 4096)
 zu:GV mg "WITH_TEXTS" (.ref a.um)
 zw:∀H,m5 K H a.um [.str "judge",.str "shows",.str "find",.str "begin"]
 tF:GV mg "TELLING_FAULTS" (.ref a.lR)
 tG:∀H,m5 K H a.lR [.str "judge",.str "begin"]
 L9:P6 K a
 mG:mg "Run"=some (.ref a.mG)
 iB:CC K a.mG
 TQ:Mk K a.mG a.qz
 uz:fW K a.mG "number"
 mC:fW K a.mG "show"
 rM:fW K a.mG "begun"
 qF:fW K a.mG "at"
 lB:fW K a.mG "step"
 jY:fW K a.mG "step_over"
 gz:mg "Board"=some (.ref a.gz)
 gG:CC K a.gz
 Ma:Mk K a.gz a.oo
 pV:fW K a.gz "book"
 iL:fW K a.gz "tick"
 iM:fW K a.gz "levels"
 iJ:fW K a.gz "switched"
 eX:mg "TextFault"=some (.ref a.eX)
 gh:mg "NotRight"=some (.ref a.gh)
 gL:mg "TooMuch"=some (.ref a.gL)
 fY:mg "NoSuchShow"=some (.ref a.fY)
 gJ:mg "BadBook"=some (.ref a.gJ)
 gE:mg "BadTable"=some (.ref a.gE)
 gR:mg "NotBegun"=some (.ref a.gR)
 fj:mg "Line"=some (.ref a.fj)
structure Tx1(K:Frag)(mg:Str->Option Value)(a:ij):Prop where
 fg:CC K a.fj
 P8:Mk K a.fj a.pk
 jV:fW K a.fj "words"
 kC:fW K a.fj "starts"
 oD:fW K a.fj "end"
 jo:fW K a.fj "taken"
 fK:fW K a.fj "place"
 iY:Meth K a.fj "has_more" a.pq
 Kl:Meth K a.fj "sees" a.vJ
 AF:Meth K a.fj "take" a.vK
 gH:Meth K a.fj "take_mark" a.ot
 rN:Meth K a.fj "take_name" a.ou
 jZ:Meth K a.fj "take_new_name" a.lA
 iT:Meth K a.fj "take_known_name" a.jU
 iw:Meth K a.fj "take_number" a.mz
 zx:Meth K a.fj "finish" a.si
 nv:mg "Step"=some (.ref a.nv)
 ny:CC K a.nv
 Qa:Mk K a.nv a.px
 lS:fW K a.nv "ticks"
 pW:fW K a.nv "lamps"
 qH:fW K a.nv "columns"
 jg:mg "Show"=some (.ref a.jg)
 ie:CC K a.jg
 Qb:Mk K a.jg a.pz
 mX:fW K a.jg "name"
 nB:fW K a.jg "lamps"
 qI:fW K a.jg "columns"
 pX:fW K a.jg "loops"
 iC:fW K a.jg "steps"
 pj:mg "Book"=some (.ref a.pj)
 pY:CC K a.pj
 Qc:Mk K a.pj a.pA
 uA:fW K a.pj "lamps"
 jW:fW K a.pj "shows"
 jQ:mg "Call"=some (.ref a.jQ)
 gW:CC K a.jQ
 Qe:Mk K a.jQ a.pB
 gq:fW K a.jQ "name"
 oO:fW K a.jQ "wholes"
 oW:fW K a.jQ "rows"
 kS:mg "Order"=some (.ref a.kS)
 gf:CC K a.kS
 Mb:Mk K a.kS a.oy
 lU:fW K a.kS "tick"
 gX:fW K a.kS "kind"
 i8:fW K a.kS "level"
 i6:fW K a.kS "what"
 fk:mg "Table"=some (.ref a.fk)
 fJ:CC K a.fk
 Mc:Mk K a.fk a.oA
 sk:fW K a.fk "balls"
 ip:fW K a.fk "switches"
 jv:fW K a.fk "lamps"
 kD:fW K a.fk "coils"
 j9:fW K a.fk "devices"
 oP:fW K a.fk "kicks"
 nD:fW K a.fk "held"
 ka:fW K a.fk "serving"
 me:fW K a.fk "drained"
 lV:fW K a.fk "rank"
 jh:fW K a.fk "last_place"
 gV:mg "Machine"=some (.ref a.gV)
 jw:CC K a.gV
 Fp:Mk K a.gV a.mB
 gT:fW K a.gV "board"
 ll:mg "no_lamps"=some (.ref a.ll)
 DE:Def K "no_lamps" "no_lamps" Dm [] a.ll
 mw:mg "add_lamp"=some (.ref a.mw)
 DF:Def K "add_lamp" "add_lamp" Dn ["columns","place"] a.mw
 kg:mg "remove_lamp"=some (.ref a.kg)
 xq:Def K "remove_lamp" "remove_lamp" wZ ["columns","place"] a.kg
 jR:mg "columns_of"=some (.ref a.jR)
 zy:Def K "columns_of" "columns_of" yT ["places"] a.jR
 lq:mg "places_of"=some (.ref a.lq)
 Bx:Def K "places_of" "places_of" A5 ["columns"] a.lq
 vP:Def K "__init__" "Run.__init__" vB ["self","number","show","tick"] a.qz
structure Tx2(K:Frag)(mg:Str->Option Value)(a:ij):Prop where
 tH:Def K "__init__" "Board.__init__" sY ["self","book"] a.oo
 lH:mg "begin_show"=some (.ref a.lH)
 zA:Def K "begin_show" "begin_show" yU ["board","level","number"] a.lH
 jS:mg "stop_level"=some (.ref a.jS)
 zB:Def K "stop_level" "stop_level" yV ["board","level"] a.jS
 oq:mg "stop_all"=some (.ref a.oq)
 DG:Def K "stop_all" "stop_all" Dq ["board"] a.oq
 jb:mg "switch_all_off"=some (.ref a.jb)
 tI:Def K "switch_all_off" "switch_all_off" sZ ["board"] a.jb
 iW:mg "lit_in_column"=some (.ref a.iW)
 uS:Def K "lit_in_column" "lit_in_column" uI ["board","column"] a.iW
 lI:mg "lit_places"=some (.ref a.lI)
 zC:Def K "lit_places" "lit_places" uf ["board"] a.lI
 iQ:mg "enter_next_step"=some (.ref a.iQ)
 rO:Def K "enter_next_step" "enter_next_step" rn ["run","tick"] a.iQ
 mH:mg "pass_tick"=some (.ref a.mH)
 By:Def K "pass_tick" "pass_tick" A6 ["board"] a.mH
 oX:Def K "__init__" "TextFault.__init__" oS ["self","kind","place"] a.lu
 qJ:Def K "__init__" "BadBook.__init__" qj ["self","kind","place"] a.jT
 jE:mg "spelled"=some (.ref a.jE)
 Fq:Def K "spelled" "spelled" Aw ["text"] a.jE
 lz:mg "is_letter"=some (.ref a.lz)
 Bz:Def K "is_letter" "is_letter" A7 ["byte"] a.lz
 my:mg "is_digit"=some (.ref a.my)
 DH:Def K "is_digit" "is_digit" Dr ["byte"] a.my
 p6:mg "is_name"=some (.ref a.p6)
 Fs:Def K "is_name" "is_name" Fh ["word"] a.p6
structure Tx3(K:Frag)(mg:Str->Option Value)(a:ij):Prop where
 kh:mg "number_told"=some (.ref a.kh)
 xr:Def K "number_told" "number_told" w8 ["word"] a.kh
 uT:Def K "__init__" "Line.__init__" uJ ["self","end"] a.pk
 uU:Def K "has_more" "Line.has_more" uK ["self"] a.pq
 BA:Def K "sees" "Line.sees" A8 ["self","mark"] a.vJ
 BB:Def K "take" "Line.take" A9 ["self"] a.vK
 tJ:Def K "take_mark" "Line.take_mark" tf ["self","mark"] a.ot
 tK:Def K "take_name" "Line.take_name" tj ["self"] a.ou
 oY:Def K "take_new_name" "Line.take_new_name" oU ["self","known"] a.lA
 nE:Def K "take_known_name" "Line.take_known_name" nh ["self","known"] a.jU
 qK:Def K "take_number" "Line.take_number" qk ["self","least","most"] a.mz
 xt:Def K "finish" "Line.finish" w9 ["self"] a.si
 ox:mg "find_end"=some (.ref a.ox)
 DI:Def K "find_end" "find_end" Ds ["text","start"] a.ox
 km:mg "check_bytes"=some (.ref a.km)
 xw:Def K "check_bytes" "check_bytes" xa ["text","start","end"] a.km
 ko:mg "split_words"=some (.ref a.ko)
 xx:Def K "split_words" "split_words" xb ["text","start","end"] a.ko
 jK:mg "read_line"=some (.ref a.jK)
 BC:Def K "read_line" "read_line" Ba ["text","start"] a.jK
 uV:Def K "__init__" "Step.__init__" uL ["self","ticks","lamps"] a.px
 uW:Def K "__init__" "Show.__init__" uM ["self","name","lamps","loops"] a.pz
structure Tx4(K:Frag)(mg:Str->Option Value)(a:ij):Prop where
 uX:Def K "__init__" "Book.__init__" uN ["self","lamps","shows"] a.pA
 js:mg "awaits_step"=some (.ref a.js)
 xy:Def K "awaits_step" "awaits_step" xc ["shows"] a.js
 jL:mg "take_lamp"=some (.ref a.jL)
 BD:Def K "take_lamp" "take_lamp" Bb ["table","line","before"] a.jL
 iR:mg "take_show_lamps"=some (.ref a.iR)
 rP:Def K "take_show_lamps" "take_show_lamps" rp ["table","line"] a.iR
 iS:mg "take_step_lamps"=some (.ref a.iS)
 rQ:Def K "take_step_lamps" "take_step_lamps" rq ["table","show","line"] a.iS
 mI:mg "read_show"=some (.ref a.mI)
 BE:Def K "read_show" "read_show" vC ["table","shows","line"] a.mI
 mJ:mg "read_step"=some (.ref a.mJ)
 BF:Def K "read_step" "read_step" Bc ["table","shows","line"] a.mJ
 jc:mg "read_book_line"=some (.ref a.jc)
 tL:Def K "read_book_line" "read_book_line" tm ["table","shows","line"] a.jc
 mK:mg "read_book"=some (.ref a.mK)
 BG:Def K "read_book" "read_book" Bd ["table","text"] a.mK
 uY:Def K "__init__" "Call.__init__" uO ["self","name","wholes","rows"] a.pB
 lJ:mg "read_calls"=some (.ref a.lJ)
 zD:Def K "read_calls" "read_calls" yW ["numbers"] a.lJ
 tM:Def K "__init__" "Order.__init__" tq ["self","tick","kind","level","what"] a.oy
 kx:mg "read_orders"=some (.ref a.kx)
 xB:Def K "read_orders" "read_orders" xf ["numbers"] a.kx
 oz:mg "is_right"=some (.ref a.oz)
 DJ:Def K "is_right" "is_right" Dt ["book","order"] a.oz
 jF:mg "check_orders"=some (.ref a.jF)
 vQ:Def K "check_orders" "check_orders" vD ["book","count","orders"] a.jF
structure Tx5(K:Frag)(mg:Str->Option Value)(a:ij):Prop where
 mL:mg "carry_out"=some (.ref a.mL)
 BH:Def K "carry_out" "carry_out" Be ["board","order"] a.mL
 tN:Def K "__init__" "Table.__init__" tx ["self","balls"] a.oA
 jt:mg "check_rises"=some (.ref a.jt)
 xC:Def K "check_rises" "check_rises" xg ["table","line","place"] a.jt
 iX:mg "take_name_but"=some (.ref a.iX)
 uZ:Def K "take_name_but" "take_name_but" uP ["line","barred","known"] a.iX
 jn:mg "take_place"=some (.ref a.jn)
 zE:Def K "take_place" "take_place" yX ["table","line","most"] a.jn
 iG:mg "take_free_coil"=some (.ref a.iG)
 tO:Def K "take_free_coil" "take_free_coil" tD ["table","line"] a.iG
 mM:mg "read_head"=some (.ref a.mM)
 BI:Def K "read_head" "read_head" Bf ["line"] a.mM
 ky:mg "read_switch"=some (.ref a.ky)
 xE:Def K "read_switch" "read_switch" xh ["table","line"] a.ky
 mO:mg "read_lamp"=some (.ref a.mO)
 BJ:Def K "read_lamp" "read_lamp" Bg ["table","line"] a.mO
 mP:mg "read_coil"=some (.ref a.mP)
 BK:Def K "read_coil" "read_coil" Bh ["table","line"] a.mP
 ju:mg "hold_switch"=some (.ref a.ju)
 xG:Def K "hold_switch" "hold_switch" xi ["table","line"] a.ju
 kz:mg "read_device"=some (.ref a.kz)
 xH:Def K "read_device" "read_device" xj ["table","line"] a.kz
 iH:mg "take_kick_switch"=some (.ref a.iH)
 qL:Def K "take_kick_switch" "take_kick_switch" qm ["table","line"] a.iH
 mQ:mg "read_kick"=some (.ref a.mQ)
 BL:Def K "read_kick" "read_kick" Bi ["table","line"] a.mQ
 mR:mg "take_rank"=some (.ref a.mR)
 BM:Def K "take_rank" "take_rank" Bj ["table","line"] a.mR
structure Tx6(K:Frag)(mg:Str->Option Value)(a:ij):Prop where
 lK:mg "enter_rank"=some (.ref a.lK)
 zF:Def K "enter_rank" "enter_rank" yY ["table","rank"] a.lK
 jG:mg "read_further"=some (.ref a.jG)
 vR:Def K "read_further" "read_further" vE ["table","line"] a.jG
 lM:mg "read_table"=some (.ref a.lM)
 zG:Def K "read_table" "read_table" yZ ["text"] a.lM
 qM:Def K "__init__" "Machine.__init__" qp ["self"] a.mB
 ik:mg "read_right_table"=some (.ref a.ik)
 qN:Def K "read_right_table" "read_right_table" mv ["text"] a.ik
 iz:mg "read_right_book"=some (.ref a.iz)
 rR:Def K "read_right_book" "read_right_book" ni ["table","text"] a.iz
 lN:mg "read_texts"=some (.ref a.lN)
 zH:Def K "read_texts" "read_texts" y0 ["rows"] a.lN
 mT:mg "tell_step"=some (.ref a.mT)
 BN:Def K "tell_step" "tell_step" Bl ["step"] a.mT
 mU:mg "tell_show"=some (.ref a.mU)
 BO:Def K "tell_show" "tell_show" Bm ["show"] a.mU
 lO:mg "tell_shows"=some (.ref a.lO)
 zI:Def K "tell_shows" "tell_shows" y4 ["book"] a.lO
 mV:mg "find_show"=some (.ref a.mV)
 BP:Def K "find_show" "find_show" Bn ["book","name"] a.mV
 iE:mg "answer_with_texts"=some (.ref a.iE)
 pJ:Def K "answer_with_texts" "answer_with_texts" pF ["machine","call"] a.iE
 lP:mg "tell_ticks"=some (.ref a.lP)
 zJ:Def K "tell_ticks" "tell_ticks" y6 ["rows","ends"] a.lP
 mW:mg "run_ticks"=some (.ref a.mW)
 BQ:Def K "run_ticks" "run_ticks" Bo ["board","count","orders"] a.mW
 jH:mg "answer_ticks"=some (.ref a.jH)
 vS:Def K "answer_ticks" "answer_ticks" vF ["board","count","numbers"] a.jH
 lQ:mg "tell_level"=some (.ref a.lQ)
structure Tx7(K:Frag)(mg:Str->Option Value)(a:ij):Prop where
 zK:Def K "tell_level" "tell_level" y8 ["board","level"] a.lQ
 jI:mg "answer_begun"=some (.ref a.jI)
 vT:Def K "answer_begun" "answer_begun" vG ["machine","call"] a.jI
 iI:mg "answer_or_refuse"=some (.ref a.iI)
 qP:Def K "answer_or_refuse" "answer_or_refuse" qr ["machine","call"] a.iI
 qA:mg "answer"=some (.ref a.qA)
 Iu:Def K "answer" "answer" Du ["machine","call"] a.qA
 p7:mg "answers"=some (.ref a.p7)
 Ft:Def K "answers" "answers" Fi ["calls"] a.p7
 pZ:∃N,mZ K a.eX N/\nsIn K N "kind"=some none/\nsIn K N "place"=some none/\nsIn K N "__getattribute__"=some none/\nsIn K N "__getattr__"=some none
 uB:findIn K (.ref a.eX) "__init__"=some (some (.ref a.lu))/\typeIn K (.ref a.lu)=some (.type "function")
 vU:∃N,mZ K a.gh N/\True
 BR:findIn K (.ref a.gh) "__init__"=some (some (.builtin "Exception.__init__"))
 ye:∃N,mZ K a.gL N/\True
 DK:findIn K (.ref a.gL) "__init__"=some (some (.builtin "Exception.__init__"))
 sx:∃N,mZ K a.fY N/\True
 xI:findIn K (.ref a.fY) "__init__"=some (some (.builtin "Exception.__init__"))
 yf:∃N,mZ K a.gJ N/\nsIn K N "kind"=some none/\nsIn K N "place"=some none/\nsIn K N "__getattribute__"=some none/\nsIn K N "__getattr__"=some none
 yg:findIn K (.ref a.gJ) "__init__"=some (some (.ref a.jT))/\typeIn K (.ref a.jT)=some (.type "function")
 vV:∃N,mZ K a.gE N/\True
 BS:findIn K (.ref a.gE) "__init__"=some (some (.builtin "Exception.__init__"))
 vW:∃N,mZ K a.gR N/\True
 BU:findIn K (.ref a.gR) "__init__"=some (some (.builtin "Exception.__init__"))
 vb:a.gh≠a.eX
 vX:a.gL≠a.eX
 pK:a.gL≠a.gh
 tP:a.fY≠a.eX
 nF:a.fY≠a.gh
 nZ:a.fY≠a.gL
 oZ:a.gJ≠a.eX
 pL:a.gJ≠a.gh
 qQ:a.gJ≠a.gL
 n6:a.gJ≠a.fY
 n8:a.gE≠a.eX
 o5:a.gE≠a.gh
 pM:a.gE≠a.gL
 nG:a.gE≠a.fY
 pN:a.gE≠a.gJ
 vc:a.gR≠a.eX
 o6:a.gR≠a.gh
 pO:a.gR≠a.gL
 nH:a.gR≠a.fY
 pP:a.gR≠a.gJ
 o7:a.gR≠a.gE
structure Txt(K:Frag)(mg:Str->Option Value)(a:ij):Prop extends Tx0 K mg a,Tx1 K mg a,Tx2 K mg a,Tx3 K mg a,Tx4 K mg a,Tx5 K mg a,Tx6 K mg a,Tx7 K mg a
variable{P:Program}{w:World}{K:Frag}{mg:Str->Option Value}{bz:Heap}{a:ij}
structure fb(S:List Addr)(H H':Hp):Prop where
 k:∀b o,H b=some o->b∉S->H' b=some o
 t:∀b xs,H b=some (.tup xs)->H' b=some (.tup xs)
section
variable{S S':List Addr}{H H1 H2:Hp}{p:Addr}{o o':HO}
def fb.refl:fb S H H:=⟨λ_ _ e _=>e,λ_ _ e=>e⟩
def fb.trans(a:fb S H H1)(b:fb S H1 H2):fb S H H2:=⟨λc u e n=>b.k c u (a.k c u e n) n,λc xs e=>b.t c xs (a.t c xs e)⟩
def fb.mono(a:fb S H H1)(h:∀s∈S,s∈S'):fb S' H H1:=⟨λc u e n=>a.k c u e λz=>n (h c z),a.t⟩
def fb.put(e:H p=some o)(hp:p∈S)(n:∀xs,o≠.tup xs):fb S H (upd H p o'):=
 ⟨λc u q m=>by rw[eY λz=>m (by rw[z];exact hp)];exact q,λc xs q=>by rw[eY (gK q e λz=>n xs z.symm)];exact q⟩
def fb.new(e:H p=none):fb S H (upd H p o):=
 ⟨λc u q _=>by rw[eY (ft q e)];exact q,λc xs q=>by rw[eY (ft q e)];exact q⟩
def fb.of_same(s:oj H H1):fb S H H1:=⟨λc u q _=>s c u q,λc xs q=>s c _ q⟩
def fb.drop(k:fb (p::S) H H1)(e:H p=none):fb S H H1:=
 ⟨λc u q n=>k.k c u q λz=>(aA.mp z).elim (λy=>by rw[y,e]at q;cases q) n,k.t⟩
def fb.base(s:oj B H)(k:fb S H H1)(h:∀x∈S,B x=none):oj B H1:=λc u q=>k.k c u (s c u q) λz=>by rw[h c z]at q;cases q
end
noncomputable def bV(c:UInt8):V:=.int (c.toNat:Int)
noncomputable def kB(c:UInt8):Key:=Sum.inl (c.toNat:Int)
def qR(w:Bytes):(w.map kB).map kV=w.map bV:=by rw[cG];rfl
def vY(h:bV c=bV d):c=d:=by
 have:(c.toNat:Int)=d.toNat:=V.int.inj h;exact eC.mp (by omega)
theorem DL:∀{v w:Bytes},v.map bV=w.map bV->v=w
 |[],[],_=>rfl
 |[],_::_,h=>by simp at h
 |_::_,[],h=>by simp at h
 |c::v,d::w,h=>by
  rw[bJ,bJ,bG]at h;rw[vY h.1,DL h.2]
theorem DM:∀{v w:Bytes},v.map kB=w.map kB->v=w
 |[],[],_=>rfl
 |[],_::_,h=>by simp at h
 |_::_,[],h=>by simp at h
 |c::v,d::w,h=>by
  rw[bJ,bJ,bG]at h;have:(c.toNat:Int)=d.toNat:=Sum.inl.inj h.1;rw[eC.mp (show c.toNat=d.toNat by omega),DM h.2]
noncomputable abbrev nU(w:Bytes):HO:=.tup (w.map bV)
noncomputable def xJ(w:Bytes):PyData:=.tuple (w.map λc=>.int (c.toNat:Int))
theorem Qg(K:Frag)(H:Hp):∀w:Bytes,CP K H (w.map bV) (w.map λc=>.int (c.toNat:Int))
 |[]=>.nil
 |c::w=>.cons (.int _) (Qg K H w)
def JD{w:Bytes}{K:Frag}(h:H t=some (nU w)):Dp K H (.ref t) (xJ w):=.tup (m5.of h) (Qg K H w)
theorem lay_ints:∀ns:List Int,PyData.canLayAll0 (ns.map .int)=true
 |[]=>rfl
 |n::ns=>lay_ints ns
theorem yh:∀ns:List Int,PyData.depthAll (ns.map .int)=0
 |[]=>by decide
 |n::ns=>by
  show max 0 (PyData.depthAll (ns.map .int))=0;rw[yh ns];rfl
theorem DN:∀ns ms:List Int,PyData.eqvAll (ns.map .int) (ms.map .int)=decide (ns=ms)
 |[],[]=>rfl
 |[],m::ms=>by simp[PyData.eqvAll]
 |n::ns,[]=>by simp[PyData.eqvAll]
 |n::ns,m::ms=>by
  show(PyData.eqv (.int n) (.int m)&&PyData.eqvAll (ns.map .int) (ms.map .int))=_;rw[DN ns ms];show((n==m)&&decide (ns=ms))=_;by_cases h:n=m<;>by_cases h2:ns=ms<;>simp[h,h2]
def N9(w:Bytes):(w.map λc=>PyData.int (c.toNat:Int))=(w.map λc=>(c.toNat:Int)).map .int:=by rw[cG];rfl
def jq(w:Bytes):SeqAt.shaped (xJ w)=true:=by
 show(PyData.canLayAll0 _&&decide (PyData.depthAll _+1<=64))=true;rw[N9,lay_ints,yh];rfl
theorem DO:∀{v w:Bytes},(v.map λc=>(c.toNat:Int))=(w.map λc=>(c.toNat:Int))->v=w
 |[],[],_=>rfl
 |[],_::_,h=>by simp at h
 |_::_,[],h=>by simp at h
 |c::v,d::w,h=>by
  rw[bJ,bJ,bG]at h;rw[eC.mp (show c.toNat=d.toNat by omega),DO h.2]
def Iw(v w:Bytes):PyData.eqv (xJ v) (xJ w)=decide (v=w):=by
 show PyData.eqvAll _ _=_;rw[N9,N9,DN];by_cases h:v=w
 .rw[h];simp
 rw[aV h,aV λz=>h (DO z)]
noncomputable abbrev xF(f:Fault)(dx:Addr):HO:=xD (gw "place" (.int f.place) [("kind",.int f.kind)]) dx
def Run(C:Addr)(S:List Addr)(H:Hp)(r:Except Fault α)(ok:α->V->Hp->Prop)(Q:VK)(E:XK):Prop:=
 match r with
 |.ok a=>∀v H',fb S H H'->ok a v H'->Q v H'
 |.error f=>∀dx H',fb S H H'->H' dx=some (xF f dx)->E (.ref C) (some dx) H'
section
variable{α β:Type}{C:Addr}{S S1:List Addr}{H H1:Hp}{Q Q1:VK}{E:XK}
theorem Run.step(h:Run C S H (r1>>=f) ok Q E)(hk:fb S H H1)(sub:∀s∈S1,s∈S)
  (k:∀a v H',fb S H H'->mh a v H'->Run C S H (f a) ok Q E->Q1 v H'):Run C S1 H1 r1 mh Q1 E:=by
 cases r1 with
 |error e=>exact λdx H' kp q=>h dx H' (hk.trans (kp.mono sub)) q
 |ok a=>exact λv H' kp q=>k a v H' (hk.trans (kp.mono sub)) q h
def Run.raise(h:Run C S H (.error f) ok Q E)(hk:fb S H H1):∀dx H2,H2 dx=some (xF f dx)->(∀b o,H1 b=some o->H2 b=some o)->E (.ref C) (some dx) H2:=
 λdx H2 e s=>h dx H2 (hk.trans (.of_same s)) e
end
def GA{J:It}{g:TG}{tb:TS}{D:Ends}(Pv:Nat->L2.St->Hp->Prop)(h0:Pv 0 σ H)(hst:∀σ H,Pv n σ H->J.stop n H)
  (hs:∀i σ H,i<n->Pv i σ H->J.go i H/\∀x H',J.Nm i H x H'->g x σ H' λσ2 H2=>tb {D with nx:=Pv (i+1),ct:=Pv (i+1),bk:=D.nx} σ2 H2) (hd:∀σ H,Pv n σ H->D.nx σ H):
  ∃W:Nat->Nat->L2.St->Hp->Prop,(∃m,W 0 m σ H)/\∀i m σ H,W i m σ H->
   (J.stop i H/\D.nx σ H)\/(J.go i H/\∃N:L2.St->Hp->Prop,(∀σ' H',N σ' H'->∃m',m'<m/\W (i+1) m' σ' H')/\∀x H',J.Nm i H x H'->g x σ H' λσ2 H2=>tb {D with nx:=N,ct:=N,bk:=D.nx} σ2 H2):=by
 refine⟨λi m σ H=>m=n - i/\i<=n/\Pv i σ H,⟨n,by simp,bu _,h0⟩,?_⟩;rintro i m σ H ⟨rfl,hi,p⟩;by_cases zZ:i<n
 .obtain⟨h1,h2⟩:=hs i σ H zZ p;exact .inr ⟨h1,Pv (i+1),λσ' H' p'=>⟨n - (i+1),by omega,rfl,zZ,p'⟩,h2⟩
 have e:i=n:=by omega
 subst e;exact .inl ⟨hst σ H p,hd σ H p⟩
def Xl{J:It}{g:TG}{tt:TT}{te:TE}{Qd:Hp->Prop}(Pv:Nat->Hp->Prop)(h0:Pv 0 (upd H1 D (.lst [])))(hst:∀H,Pv n H->J.stop n H)
  (hs:∀i H,i<n->Pv i H->J.go i H/\∀x H',J.Nm i H x H'->g x (wipe σ vs) H' λσ2 H2=>wipe σ2 vs=wipe σ vs/\tt σ2 H2 λb H3=>
   if b=true then te σ2 H3 λy H4=>∃acc,H4 D=some (.lst acc)/\acc.length<sizeLine/\Pv (i+1) (upd H4 D (.lst (acc++[y])))else Pv (i+1) H3) (hd:∀H,Pv n H->Qd H):
  ∃W:Nat->Nat->Hp->Prop,(∃m,W 0 m (upd H1 D (.lst [])))/\∀i m H,W i m H->
   (J.stop i H/\Qd H)\/(J.go i H/\∃Nx:Hp->Prop,(∀H',Nx H'->∃m',m'<m/\W (i+1) m' H')/\∀x H',J.Nm i H x H'->g x (wipe σ vs) H' λσ2 H2=>wipe σ2 vs=wipe σ vs/\tt σ2 H2 λb H3=>
    if b=true then te σ2 H3 λy H4=>∃acc,H4 D=some (.lst acc)/\acc.length<sizeLine/\Nx (upd H4 D (.lst (acc++[y])))else Nx H3):=by
 refine⟨λi m H=>m=n - i/\i<=n/\Pv i H,⟨n,by simp,bu _,h0⟩,?_⟩;rintro i m H ⟨rfl,hi,p⟩;by_cases zZ:i<n
 .obtain⟨h1,h2⟩:=hs i H zZ p;exact .inr ⟨h1,Pv (i+1),λH' p'=>⟨n - (i+1),by omega,rfl,zZ,p'⟩,h2⟩
 have e:i=n:=by omega
 subst e;exact .inl ⟨hst H p,hd H p⟩
def take_snoc{l:List α}(h:l[i]? =some x):l.take (i+1)=l.take i++[x]:=by
 rw[List.take_add_one,h];rfl
abbrev PL(a:ij):Value->Prop:=λc=>c=.ref a.eX
def fN(T:Txt K mg a):X2 P w K mg bz (PL a) a.eX "TextFault" "kind" "place":=by
 obtain⟨fd,F,b⟩:=T.oX.ex;obtain⟨N,c,n1,n2,_⟩:=T.pZ;exact⟨⟨N,_,fd,_,c,T.uB.1,T.uB.2,λk=>TF F va c n1 n2 (by rfl) (by rfl) rfl (by decide) (by decide) (by decide) (by decide),b⟩,T.eX⟩
def Sg(s:String):Prop:=(Str.ofString s).cps.size<=64/\((Str.ofString s).cps.toList.map λ(c:Nat)=>V.int (c:Int))=(Tilt.ascii s).map bV
inductive Fu(vs:List V)(H:Hp)(Q:VK)(u1:XK):Prop
 |mk:∀s:String,vs=[.str (Str.ofString s)]->Sg s->(∀t H',fb [] H H'->H' t=some (nU (Tilt.ascii s))->Q (.ref t) H')->Fu vs H Q u1
def oE(T:Txt K mg a):gj P w K mg bz (PL a) 1 a.jE ["text"] Fu:=by
 refine jx T.Fq yc ?_;rintro _ _ _ _ H _ _ _ _ _ ⟨x,rfl,⟨S8,hs⟩,k⟩;refine⟨_,(kY (wo wW (by rfl) T.Gx rfl (iF (O8 (own:=[("sign",1)]) rfl yc.nd (UY (pv 0)) (CQ (N:=["text","sign"]) (sc:=eZ Aw) (by decide+kernel)) (λ_ _ _ _ _=>ib (i:=1) yc.nd rfl (Or.inl rfl)) (λ_ _ _ _ _=>F7) λ_ _ _ _ _=>(CM OT (by rfl) T.TN boot_ord (iF (pv 1))))))),?_⟩;generalize hx:Str.ofString x=xs at S8 hs;have big:64<sizeLine:=by decide
 refine⟨_,rfl,_,rfl,λD hD=>Xl (n:=xs.cps.size) (λi H'=>fb [D] H H'/\H' D=some (.lst ((xs.cps.toList.take i).map λ(c:Nat)=>V.int (c:Int)))) ⟨.new hD,eV⟩ (λ_ _=>aH _) (λi H1 hi p=>⟨hi,?_⟩) ?_⟩
 .rintro y H2 ⟨rfl,c,hc,rfl⟩;obtain⟨p1,p2⟩:=p;refine⟨rfl,_,rfl,_,rfl,rfl,_,p2,?_,p1.trans (.put p2 (by simp) (by intro _ z;cases z)),?_⟩
  .rw[aw,bh,dv];omega
  rw[eV,take_snoc (x:=c) (by rw[dZ];exact hc),aL];rfl
 rintro H1 ⟨p1,p2⟩;rw[cN (by rw[dv];exact aH _),hs]at p2;exact⟨_,_,rfl,.inl ⟨gC.of p2,λl hl=>k l _ ((p1.drop hD).trans (.new hl)) eV⟩⟩
inductive Iy(vs:List V)(H:Hp)(Q:VK)(u1:XK):Prop
 |mk:∀c:UInt8,vs=[bV c]->Q (.bl (isSmall c)) H->Iy vs H Q u1
def So(m:Nat)(hm:m<256)(c:UInt8):decide ((m:Int)<=(c.toNat:Int))=decide (UInt8.ofNat m<=c):=by
 rw[a6,cY,cO,eJ hm];omega
def Xm(m:Nat)(hm:m<256)(c:UInt8):decide ((c.toNat:Int)<=(m:Int))=decide (c<=UInt8.ofNat m):=by
 rw[a6,cY,cO,eJ hm];omega
def zL(T:Txt K mg a):gj P w K mg bz (PL a) 1 a.lz ["byte"] Iy:=by
 refine jx T.Bz Gr ?_;rintro _ _ _ _ H _ Q _ _ _ ⟨c,rfl,k⟩;refine⟨_,kY (Hk EL EL (iy T.Fn) (pv 0) (iy T.Fo)),?_⟩;refine⟨_,rfl,_,_,rfl,rfl,_,rfl,?_⟩;unfold isSmall at k;refine W6 (λq=>⟨_,_,rfl,rfl,?_⟩) (λq=>?_)
 .show Q (.bl (decide ((c.toNat:Int)<=122))) H;rw[show decide ((c.toNat:Int)<=122)=decide (c<=122)from Xm 122 (by decide) c];rw[show decide ((97:UInt8)<=c)=true from(So 97 (by decide) c).symm.trans q]at k;exact k
 have q':decide ((97:Int)<=(c.toNat:Int))=false:=by simpa using q
 rw[show decide ((97:UInt8)<=c)=false from(So 97 (by decide) c).symm.trans q']at k;exact k
inductive GB(vs:List V)(H:Hp)(Q:VK)(u1:XK):Prop
 |mk:∀c:UInt8,vs=[bV c]->Q (.bl (Tilt.isDigit c)) H->GB vs H Q u1
def BV(T:Txt K mg a):gj P w K mg bz (PL a) 1 a.my ["byte"] GB:=by
 refine jx T.DH Io ?_;rintro _ _ _ _ H _ Q _ _ _ ⟨c,rfl,k⟩;refine⟨_,kY (Hk EL EL (iy T.Gz) (pv 0) (iy T.P7)),?_⟩;refine⟨_,rfl,_,_,rfl,rfl,_,rfl,?_⟩;unfold Tilt.isDigit at k;refine W6 (λq=>⟨_,_,rfl,rfl,?_⟩) (λq=>?_)
 .show Q (.bl (decide ((c.toNat:Int)<=57))) H;rw[show decide ((c.toNat:Int)<=57)=decide (c<=57)from Xm 57 (by decide) c];rw[show decide ((48:UInt8)<=c)=true from(So 48 (by decide) c).symm.trans q]at k;exact k
 have q':decide ((48:Int)<=(c.toNat:Int))=false:=by simpa using q
 rw[show decide ((48:UInt8)<=c)=false from(So 48 (by decide) c).symm.trans q']at k;exact k
theorem fH{c:Bool}{A B:Prop}(h1:c=true->A)(h2:c=false->B):if c=true then A else B:=by
 cases c with
 |true=>rw[ak rfl];exact h1 rfl
 |false=>rw[ag (by simp)];exact h2 rfl
def Xn{c d:UInt8}:decide (bV c=bV d)=decide (c=d):=by
 rw[a6];exact⟨vY,λh=>by rw[h]⟩
noncomputable def Qh(c:UInt8):Bool:=isSmall c||(Tilt.isDigit c||c==95)
inductive Qi(vs:List V)(H:Hp)(Q:VK)(u1:XK):Prop
 |mk:∀(t:Addr)(w:Bytes),vs=[.ref t]->H t=some (nU w)->w≠[]->Q (.bl (Tilt.isName w)) H->Qi vs H Q u1
def Km(T:Txt K mg a):gj P w K mg bz (PL a) 2 a.p6 ["word"] Qi:=by
 refine jx T.Fs Dx ?_;rintro _ _ _ _ H _ _ _ _ hr ⟨t,w,rfl,ht,hne,k⟩
 refine⟨_,eW (fS (PW.pt (qd (fm ve (gM T.iA (pv 0)) (iy T.rF) (fv _)) (og (qe (jd (gy (zL T) hr T.lz (iF (gQ rV (pv 0) fA λ_ _=>rfl))))))))
   (kY wV)
   fB)
  (eW (jN aE rfl (OO (pv 0)) (ib (i:=1) Dx.nd rfl (Or.inl rfl))
   (ff (fS (PW.pt (qc (qe (jd (gy (zL T) hr T.lz (iF (pv 1))))) (qc (qe (jd (gy (BV T) hr T.my (iF (pv 1))))) (qX (fm La (pv 1) (iy T.Bq) (fv _))))))
    (kY wV)
    fB)))
  (kY wV)),Fg ?_⟩
 intros
 obtain⟨c,r,rfl⟩:∃c r,w=c::r:=by
  cases w with
  |nil=>exact absurd rfl hne
  |cons c r=>exact⟨c,r,rfl⟩
 have e1:Tilt.isName (c::r)=(decide ((c::r).length<=12)&&((c::r).all Qh&&isSmall c)):=by
  unfold Tilt.isName NAME;rw[show decide (1<=(c::r).length)=true from by simp];rfl
 rw[e1]at k;refine⟨_,rfl,_,_,rfl,.inr (m5.of ht),_,_,rfl,rfl,_,rfl,fH (λq=>m9 ?_) λq=>?_⟩
 .rw[show decide ((c::r).length<=12)=false from ?_]at k
  .exact k
  rw[aw]at q;have:=aj q;simp only[dM];omega
 have l12:decide ((c::r).length<=12)=true:=by
  rw[aw]at q;have:=au q;simp only[bq];omega
 rw[l12,cj]at k;refine⟨_,rfl,_,_,_,_,rfl,rfl,m5.of ht,at_of rfl rfl,c,rfl,_,rfl,fH (λq2=>?_) λq2=>?_⟩
 .have q3:isSmall c=false:=by simpa using q2
  rw[q3,Bool.and_false]at k;exact k
 have q3:isSmall c=true:=by simpa using q2
 rw[q3,Bool.and_true]at k;refine⟨_,rfl,t,rfl,⟨_,m5.of ht⟩,K4 (λi σ H'=>H'=H/\(∃v,σ=[some (.ref t),v])/\((c::r).take i).all Qh=true) ⟨rfl,⟨none,rfl⟩,rfl⟩ (λi σ H' _ p=>by rw[p.1];exact m5.of ht) ?_ ?_⟩
 .rintro i x σ H' hi ⟨rfl,⟨v,rfl⟩,nR⟩;rw[aK]at hi;cases hd:(c::r)[i]? with
  |none=>rw[hd]at hi;cases hi
  |some d=>
   rw[hd]at hi;have hx:=ao hi;subst hx
   have nxt:((c::r).take (i+1)).all Qh=Qh d:=by
    rw[take_snoc hd,List.all_append,nR];simp
   have stop:Qh d=false->(c::r).all Qh=false:=λz=>by
    rw[eI];intro y;have:=b6.mp y d (aR hd);rw[z]at this;cases this
   refine⟨_,rfl,d,rfl,_,rfl,fH (λs1=>?_) λs1=>oh ?_⟩
   .have Uo:isSmall d=false:=by simpa using s1
    refine⟨_,rfl,d,rfl,_,rfl,fH (λs2=>?_) λs2=>oh ?_⟩
    .have s2':Tilt.isDigit d=false:=by simpa using s2
     refine⟨_,rfl,rfl,_,rfl,fH (λs3=>?_) λs3=>?_⟩
     .have s3':(d==95)=false:=by
       have s4:decide (bV d=bV 95)=false:=by
        have s5:(!decide (bV d=bV 95))=true:=s3;simpa using s5
       rw[Xn]at s4;simpa using s4
      have z:Qh d=false:=by unfold Qh;rw[Uo,s2',s3'];rfl
      rw[stop z]at k;exact k
     have s3':(d==95)=true:=by
      have s4:decide (bV d=bV 95)=true:=by
       have s5:(!decide (bV d=bV 95))=false:=s3;simpa using s5
      rw[Xn]at s4;simpa using s4
     refine⟨rfl,⟨_,rfl⟩,nxt.trans ?_⟩;unfold Qh;rw[s3'];simp
    have s2':Tilt.isDigit d=true:=by simpa using s2
    refine⟨rfl,⟨_,rfl⟩,nxt.trans ?_⟩;unfold Qh;rw[s2'];simp
   have Uo:isSmall d=true:=by simpa using s1
   refine⟨rfl,⟨_,rfl⟩,nxt.trans ?_⟩;unfold Qh;rw[Uo];simp
 rintro σ H' ⟨rfl,⟨v,rfl⟩,nR⟩;rw[aw,bN]at nR;rw[nR]at k;exact k
noncomputable def ZV:Option Nat->V
 |none=>.hJ
 |some n=>.int (n:Int)
noncomputable def Ew(w:Bytes):Nat:=w.foldl (λn c=>10*n+(c.toNat - 48)) 0
def Oa{w:Bytes}{c:UInt8}:Ew (w++[c])=10*Ew w+(c.toNat - 48):=by unfold Ew;rw[eD];rfl
theorem Qj:∀(w:Bytes)(n:Nat),(∀c∈w,Tilt.isDigit c=true)->w.foldl (λ(n:Nat)(c:UInt8)=>10*n+(c.toNat - 48)) n<(n+1)*10^w.length
 |[],n,_=>by simp
 |c::w,n,h=>by
  have h1:=Qj w (10*n+(c.toNat - 48)) λd hd=>h d (aC _ hd);have h2:=C7 (h c (aM ..));rw[cM,aF,Nat.pow_succ];refine aS h1 ?_;rw[mul_comm (10^w.length) 10,<-Nat.mul_assoc];exact bW _ (by omega)
def Sq(w:Bytes)(h:∀c∈w,Tilt.isDigit c=true):Ew w<10^w.length:=by
 have:=Qj w 0 h;unfold Ew;omega
inductive Qk(vs:List V)(H:Hp)(Q:VK)(u1:XK):Prop
 |mk:∀(t:Addr)(w:Bytes),vs=[.ref t]->H t=some (nU w)->w≠[]->Q (ZV (ji w)) H->Qk vs H Q u1
def DP(T:Txt K mg a):gj P w K mg bz (PL a) 2 a.kh ["word"] Qk:=by
 refine jx T.xr nj ?_;rintro _ _ _ _ H _ Q E _ hr ⟨t,w,rfl,ht,hne,k⟩
 refine⟨_,eW (fS (PW.pt (qd (fm ve (gM T.iA (pv 0)) (iy T.xn) (fv _)) (og (PW.pt (qc (fm ig (gQ rV (pv 0) fA λ_ _=>rfl) (iy T.Gz) (fv _)) (qX (fm ve (gM T.iA (pv 0)) fA (fv _))))))))
   (kY qb)
   fB)
  (eW (fP 1 nj fA)
  (eW (jN aE rfl (OO (pv 0)) (ib (i:=2) nj.nd rfl (Or.inl rfl))
   (eW (fS (qe (jd (gy (BV T) hr T.my (iF (pv 2)))))
    (kY qb)
    fB)
   (ff (fP 1 nj (g0 FT (g0 kI (g0 JM (pv 1) fA) (pv 2)) (iy T.Gz))))))
  (kY (pv 1)))),Kj ?_⟩
 intros
 obtain⟨c,r,rfl⟩:∃c r,w=c::r:=by
  cases w with
  |nil=>exact absurd rfl hne
  |cons c r=>exact⟨c,r,rfl⟩
 have bad:(5<(c::r).length\/((c::r).head?=some 48/\1<(c::r).length))->ji (c::r)=none:=λz=>by
  unfold ji;rw[ak (.inr z)]
 refine⟨_,rfl,_,_,rfl,.inr (m5.of ht),_,_,rfl,rfl,_,rfl,fH (λq=>m9 ?_) λq=>?_⟩
 .rw[bad (.inl (by rw[aw]at q;have:=aj q;omega))]at k;exact k
 have l5:(c::r).length<=5:=by rw[aw]at q;have:=au q;omega
 have rest:¬((c::r).head?=some 48/\1<(c::r).length)->gP (OL (tC (V.int 0)) (EJ 1)) (gP (WG (WB K (jk 0)) (EJ 2)
   (gP (OJ (Ws (tB (Ho GB [] E (kL (jk 2) o8)))) (BZ (tC V.hJ)) Hh) (OL (K5 (Nq λi j=>.int (i - j)) (K5 (Nq λi j=>.int (i+j)) (K5 (rI RL λi j=>.int (i*j)) (jk 1) (tC (V.int 10))) (jk 2)) (tC (V.int 48))) (EJ 1)))) (BZ (jk 1)))
   {nx:=λ_ H'=>Q .hJ H',rt:=Q} [some (.ref t),none,none] H:=by
  intro nz;refine⟨_,rfl,t,rfl,⟨_,m5.of ht⟩,K4 (K:=K) (a:=t) (xs:=(c::r).map bV) (λi σ H'=>H'=H/\(∃v,σ=[some (.ref t),some (.int (Ew ((c::r).take i))),v])/\∀d∈(c::r).take i,Tilt.isDigit d=true) ⟨rfl,⟨none,rfl⟩,λd hd=>by simp at hd⟩ (λi σ H' _ p=>by rw[p.1];exact m5.of ht) ?_ ?_⟩
  .rintro i x σ H' hi ⟨rfl,⟨v,rfl⟩,nR⟩;rw[aK]at hi;cases hd:(c::r)[i]? with
   |none=>rw[hd]at hi;cases hi
   |some d=>
    rw[hd]at hi;have hx:=ao hi;subst hx;refine⟨_,rfl,d,rfl,_,rfl,fH (λs1=>?_) λs1=>?_⟩
    .have Uo:Tilt.isDigit d=false:=by simpa using s1
     have z:ji (c::r)=none:=by
      unfold ji;split
      .rfl
      rw[ag];intro y;have:=b6.mp y d (aR hd);rw[Uo]at this;cases this
     rw[z]at k;exact k
    have Uo:Tilt.isDigit d=true:=by simpa using s1
    have dl:=C7 Uo;have lt:=Sq _ nR;have lt2:10^((c::r).take i).length<=10^5:=dg (by decide) (by rw[bh];omega);have h5:(10:Nat)^5=100000:=by decide
    refine⟨_,rfl,_,_,rfl,rfl,.inl ⟨by omega,by omega⟩,_,rfl,_,_,rfl,rfl,_,_,rfl,rfl,?_⟩;refine⟨rfl,⟨some (bV d),?_⟩,?_⟩
    .show [some (V.ref t),some (V.int ((Ew ((c::r).take i):Int)*10+(d.toNat:Int) - 48)),some (bV d)]=_;rw[take_snoc hd,Oa];congr 3;have:((10*Ew ((c::r).take i)+(d.toNat - 48):Nat):Int)=(Ew ((c::r).take i):Int)*10+(d.toNat:Int) - 48:=by omega
     rw[this]
    intro e he;rw[take_snoc hd]at he;rcases aG.mp he with z|z
    .exact nR e z
    simp at z;rw[z];exact Uo
  rintro σ H' ⟨rfl,⟨v,rfl⟩,nR⟩;rw[aw,bN]at nR;refine⟨_,rfl,?_⟩;rw[aw,bN]
  have z:ji (c::r)=some (Ew (c::r)):=by
   unfold ji;rw[ag (by rintro(y|y|y);exact hne y;omega;exact nz y),ak (b6.mpr nR)];rfl
  rw[z]at k;exact k
 refine⟨_,rfl,_,_,_,_,rfl,rfl,m5.of ht,at_of rfl rfl,rfl,_,rfl,fH (λq2=>?_) λq2=>oh ?_⟩
 .have q3:c=48:=vY (aj q2);refine⟨_,rfl,_,_,rfl,.inr (m5.of ht),_,_,rfl,rfl,_,rfl,fH (λq4=>?_) λq4=>?_⟩
  .rw[bad (.inr ⟨by rw[q3];rfl,by rw[aw]at q4;have:=aj q4;omega⟩)]at k;exact k
  exact rest λz=>by rw[aw]at q4;have:=au q4;omega
 have q3:c≠48:=λz=>by rw[z]at q2;exact absurd (show decide (bV 48=bV 48)=false from q2) (by simp)
 exact rest λz=>q3 (by simpa using z.1)
open Tilt (Word Fault)
structure LA where
 p:Addr
 wl:Addr
 sl:Addr
noncomputable def Md(wl sl:Addr)(e k pl:Nat):List (Str×V):=[("words",.ref wl),("starts",.ref sl),("end",.int (e:Int)),("taken",.int (k:Int)),("place",.int (pl:Int))]
structure fw(C:Addr)(H:Hp)(L:LA)(e:Nat)(rest:List Word)(pl:Nat):Prop where
 ex:∃(dx:Addr)(ts:List Addr)(ws:List Word)(k:Nat),H L.p=some (.ins C dx (Md L.wl L.sl e k pl))/\H L.wl=some (.lst (ts.map V.ref))/\H L.sl=some (.lst (ws.map λw=>V.int (w.at_:Int)))/\ts.length=ws.length/\
  (∀(i:Nat)(t:Addr)(w:Word),ts[i]? =some t->ws[i]? =some w->H t=some (nU w.w))/\rest=ws.drop k/\k<=ws.length/\∀w∈ws,w.w≠[]
def fw.keep{rest:List Word}(x:fw C H L e rest pl)(k:fb S H H')(n1:L.p∉S)(n2:L.wl∉S)(n3:L.sl∉S):fw C H' L e rest pl:=by
 obtain⟨dx,ts,ws,j,h1,h2,h3,h4,h5,h6,h7,h8⟩:=x.ex;exact⟨dx,ts,ws,j,k.k _ _ h1 n1,k.k _ _ h2 n2,k.k _ _ h3 n3,h4,λi t w q1 q2=>k.t _ _ (h5 i t w q1 q2),h6,h7,h8⟩
def fw.same{rest:List Word}(x:fw C H L e rest pl)(k:fb [] H H'):fw C H' L e rest pl:=x.keep k (by simp) (by simp) (by simp)
inductive Ql(a:ij)(vs:List V)(H:Hp)(Q:VK)(u1:XK):Prop
 |mk:∀(p dx:Addr)(e:Nat),vs=[.ref p,.int (e:Int)]->H p=some (.ins a.fj dx [])->(∀wl sl H',fb [p] H H'->H wl=none->H sl=none->wl≠sl->H' p=some (.ins a.fj dx (Md wl sl e 0 e))->H' wl=some (.lst [])->H' sl=some (.lst [])->Q .hJ H')->Ql a vs H Q u1
def Sr(T:Txt K mg a):gj P w K mg bz (PL a) 1 a.pk ["self","end"] (Ql a):=by
 refine jx T.uT Ax ?_;rintro _ _ _ _ H _ _ _ _ _ ⟨p,dx,e,rfl,hp,k⟩
 refine⟨_,eW (fT (pv 0) (gO m8) rfl)
  (eW (fT (pv 0) (gO m8) rfl)
  (eW (fT (pv 0) (pv 1) rfl)
  (eW (fT (pv 0) fA rfl)
  (ff (fT (pv 0) (pv 1) rfl))))),Rv ?_⟩
 intros;refine⟨bu _,λwl hwl=>⟨_,rfl,p,a.fj,dx,[],rfl,by rw[eY (ft hp hwl)];exact hp,T.fg,T.jV,by decide,?_⟩⟩;have npw:=ft hp hwl;refine⟨bu _,λsl KW=>?_⟩;have nps:=ft (o:=.ins a.fj dx [("words",.ref wl)]) (by rw[eV];rfl) KW;have Yc:=ft (by rw[eY (aW npw),eV]) KW;have Vy:H sl=none:=by rw[eY (aW nps),eY (aW Yc)]at KW;exact KW
 refine⟨_,rfl,p,a.fj,dx,_,rfl,(eY nps).trans eV,T.fg,T.kC,(show 1<1000 by decide),?_⟩;refine⟨_,rfl,_,rfl,p,a.fj,dx,_,rfl,eV,T.fg,T.oD,(show 2<1000 by decide),?_⟩;refine⟨_,rfl,p,a.fj,dx,_,rfl,eV,T.fg,T.jo,(show 3<1000 by decide),?_⟩;refine⟨_,rfl,_,rfl,p,a.fj,dx,_,rfl,eV,T.fg,T.fK,(show 4<1000 by decide),?_⟩;rw[gn,gn,gn];refine k wl sl _ ⟨λb o hb nb=>?_,λb xs hb=>?_⟩ hwl Vy Yc (by rw[eV];rfl) (by rw[eY (aW npw),eY Yc,eY (aW npw),eV]) (by rw[eY (aW nps),eV])
 .have n1:b≠p:=by simpa using nb
  rw[eY n1,eY (ft hb Vy),eY n1,eY (ft hb hwl)];exact hb
 have n1:=gK hb hp (by intro z;cases z);rw[eY n1,eY (ft hb Vy),eY n1,eY (ft hb hwl)];exact hb
inductive Ko(a:ij)(vs:List V)(H:Hp)(Q:VK)(u1:XK):Prop
 |mk:∀(L:LA)(e pl:Nat)(rest:List Word),vs=[.ref L.p]->fw a.fj H L e rest pl->Q (.bl (!rest.isEmpty)) H->Ko a vs H Q u1
def gF(T:Txt K mg a):gj P w K mg bz (PL a) 1 a.pq ["self"] (Ko a):=by
 refine jx T.uU Ay ?_;rintro _ _ _ _ H _ Q _ _ _ ⟨L,e,pl,rest,rfl,⟨_,ts,ws,j,h1,h2,_,h4,_,h6,_⟩,k⟩;refine⟨_,kY (ma pE (gI 0) (gM T.iA (gI 0)) (fv _)),?_⟩;refine⟨_,rfl,_,_,_,_,_,rfl,h1,T.fg,T.jo,rfl,_,rfl,_,_,_,_,_,rfl,h1,T.fg,T.jV,rfl,_,_,rfl,.inl (gC.of h2),_,_,rfl,rfl,?_⟩
 have e1:decide ((j:Int)<((ts.map V.ref).length:Int))= !rest.isEmpty:=by
  rw[h6,aw,h4];by_cases q:j<ws.length
  .have:ws.drop j≠[]:=λz=>by have:=aQ List.length z;rw[bC]at this;simp at this;omega
   rw[show decide ((j:Int)<(ws.length:Int))=true from by simp;omega];cases hd:ws.drop j with
   |nil=>exact absurd hd this
   |cons=>rfl
  rw[show decide ((j:Int)<(ws.length:Int))=false from by simp;omega,bE (by omega)];rfl
 rw[e1];exact k
def fw.kF{C:Addr}{e pl:Nat}{rest:List Word}(x:fw C H L e rest pl):∃dx fs,H L.p=some (.ins C dx fs)/\fs.lookup ("has_more":Str)=none/\fs.lookup ("take":Str)=none/\fs.lookup ("take_name":Str)=none/\fs.lookup ("take_mark":Str)=none/\fs.lookup ("take_number":Str)=none/\
  fs.lookup ("take_new_name":Str)=none/\fs.lookup ("take_known_name":Str)=none/\fs.lookup ("finish":Str)=none/\fs.lookup ("sees":Str)=none/\fs.lookup ("place":Str)=some (.int (pl:Int))/\fs.lookup ("end":Str)=some (.int (e:Int)):=by
 obtain⟨dx,_,_,_,h1,_⟩:=x.ex;exact⟨dx,_,h1,rfl,rfl,rfl,rfl,rfl,rfl,rfl,rfl,rfl,rfl,rfl⟩
noncomputable def Iz(s:String):List Word->Bool
 |[]=>false
 |w::_=>decide (w.w=Tilt.ascii s)
inductive Qm(a:ij)(vs:List V)(H:Hp)(Q:VK)(u1:XK):Prop
 |mk:∀(L:LA)(e pl:Nat)(rest:List Word)(s:String),vs=[.ref L.p,.str (Str.ofString s)]->fw a.fj H L e rest pl->Sg s->(∀H',fb [] H H'->Q (.bl (Iz s rest)) H')->Qm a vs H Q u1
def zM(T:Txt K mg a):gj P w K mg bz (PL a) 2 a.vJ ["self","mark"] (Qm a):=by
 refine jx T.BA Gs ?_;rintro _ _ _ _ H _ _ _ _ hr ⟨L,e,pl,rest,s,rfl,X,sg,k⟩;obtain⟨_,ts,ws,j,h1,h2,_,_,h5,h6,_⟩:=X.ex;refine⟨_,kY (Af (lW (pv 0) T.fg T.iY (gF T) hr) (Ae (ma (xU hr.units) (gQ gp (gI 0) (gI 0) λ_ _=>rfl) (gy (oE T) hr T.jE (iF (pv 1))) (fv _)))),?_⟩;refine⟨_,rfl,_,_,_,rfl,h1,rfl,L,e,pl,rest,rfl,X,_,rfl,fH (λq=>?_) λq=>?_⟩
 .cases rest with
  |nil=>cases q
  |cons x r=>
   have hj:j<ws.length:=Nat.lt_of_not_le λz=>by rw[bE z]at h6;cases h6
   have hx:ws[j]? =some x:=by
    have:=aQ (λl=>l[0]?) h6;simpa using this.symm
   obtain⟨t,ht⟩:∃t,ts[j]? =some t:=⟨_,az (by omega)⟩;refine⟨_,rfl,_,_,_,_,_,rfl,h1,T.fg,T.jV,rfl,_,rfl,_,_,_,_,_,rfl,h1,T.fg,T.jo,rfl,_,_,_,_,rfl,rfl,gC.of h2,at_of rfl (by rw[aK,ht];rfl),_,rfl,s,rfl,sg,λu H' kp hu=>?_⟩;refine⟨_,_,JD (kp.t _ _ (h5 j t x ht hx)),JD hu,jq _,jq _,?_⟩;rw[Iw];exact k H' kp
 cases rest with
 |nil=>exact k H .refl
 |cons x r=>cases q
def V5(C:Addr)(L:LA)(e:Nat)(x:Word×List Word)(v:V)(H':Hp):Prop:=(∃t,v=.ref t/\H' t=some (nU x.1.w))/\x.1.w≠[]/\fw C H' L e x.2 x.1.at_
inductive Qn(a:ij)(vs:List V)(H:Hp)(Q:VK)(E:XK):Prop
 |mk:∀(L:LA)(e pl:Nat)(rest:List Word),vs=[.ref L.p]->fw a.fj H L e rest pl->Run a.eX [L.p] H (Tilt.next e rest) (V5 a.fj L e) Q E->Qn a vs H Q E
def nI(T:Txt K mg a):gj P w K mg bz (PL a) 3 a.vK ["self"] (Qn a):=by
 refine jx T.BB zb ?_;rintro _ _ _ _ _ _ _ _ _ hr ⟨L,e,pl,rest,rfl,X,R⟩;obtain⟨dx,ts,ws,j,h1,h2,h3,h4,h5,h6,h7,h8⟩:=X.ex
 refine⟨_,eW (fS (qe (jd (lW (pv 0) T.fg T.iY (gF T) hr)))
   (ff (Av (fN T) hr rfl (jy (iy T.iK) (gI 0))))
   fB)
  (eW (fP 1 zb (gQ gp (gI 0) (gI 0) λ_ _=>rfl))
  (eW (fT (pv 0) (gQ gp (gI 0) (gI 0) λ_ _=>rfl) rfl)
  (eW (sM (pv 0) fA CH)
  (kY (pv 1))))),Rv ?_⟩
 intros;refine⟨_,rfl,_,_,_,rfl,h1,rfl,L,e,pl,rest,rfl,X,_,rfl,fH (λq=>?_) λq=>?_⟩
 .cases rest with
  |cons x r=>cases q
  |nil=>exact⟨_,rfl,_,_,_,_,_,rfl,h1,T.fg,T.oD,rfl,_,_,rfl,Run.raise R .refl⟩
 cases rest with
 |nil=>cases q
 |cons x r=>
  have hj:=Nat.lt_of_not_le λz=>by rw[bE z]at h6;cases h6
  have hx:ws[j]? =some x:=by
   have:=aQ (λl=>l[0]?) h6;simpa using this.symm
  have Nf:r=ws.drop (j+1):=by
   have:=aQ List.tail h6;rw[List.tail_drop]at this;exact this
  obtain⟨t,ht⟩:∃t,ts[j]? =some t:=⟨_,az (by omega)⟩;have nw:=gK h2 h1 (by intro z;cases z);have ns:=gK h3 h1 (by intro z;cases z);refine⟨_,rfl,_,_,_,_,_,rfl,h1,T.fg,T.jV,rfl,_,rfl,_,_,_,_,_,rfl,h1,T.fg,T.jo,rfl,_,_,_,_,rfl,rfl,gC.of h2,at_of rfl (by rw[aK,ht];rfl),?_⟩;refine⟨_,rfl,_,_,_,_,_,rfl,h1,T.fg,T.kC,rfl,_,rfl,_,_,_,_,_,rfl,h1,T.fg,T.jo,rfl,_,_,_,_,rfl,rfl,gC.of h3,at_of rfl (by rw[aK,hx];rfl),_,rfl,_,_,_,_,rfl,h1,T.fg,T.fK,(show 5<1000 by decide),?_⟩;refine⟨_,rfl,_,_,_,_,_,rfl,eV,T.fg,T.jo,rfl,_,_,rfl,rfl,_,_,eV,(show 5<1000 by decide),_,rfl,?_⟩;rw[gn];refine R _ _ (.put h1 (by simp) (by intro _ z;cases z)) ⟨⟨t,rfl,?_⟩,h8 x (aR hx),dx,ts,ws,j+1,by rw[eV];rfl,by rw[eY nw];exact h2,by rw[eY ns];exact h3,h4,λi t' w' q1 q2=>?_,Nf,hj,h8⟩
  .rw[eY (gK (h5 j t x ht hx) h1 (by intro z;cases z))];exact h5 j t x ht hx
  rw[eY (gK (h5 i t' w' q1 q2) h1 (by intro z;cases z))];exact h5 i t' w' q1 q2
def okM(C:Addr)(L:LA)(e:Nat)(r:List Word)(v:V)(H':Hp):Prop:=v=.hJ/\∃pl,fw C H' L e r pl
inductive Kp(a:ij)(vs:List V)(H:Hp)(Q:VK)(E:XK):Prop
 |mk:∀(L:LA)(e pl:Nat)(rest:List Word)(s:String),vs=[.ref L.p,.str (Str.ofString s)]->fw a.fj H L e rest pl->Sg s->Run a.eX [L.p] H (Tilt.must e s rest) (okM a.fj L e) Q E->Kp a vs H Q E
def fM(T:Txt K mg a):gj P w K mg bz (PL a) 4 a.ot ["self","mark"] (Kp a):=by
 refine jx T.tJ zc ?_;rintro _ _ _ _ H _ Q E _ hr ⟨L,e,pl,rest,s,rfl,X,sg,R⟩;obtain⟨_,_,h1,_,l2,_⟩:=X.kF
 refine⟨_,ff (fS (fm (UP hr.units) (lW (pv 0) T.fg T.AF (nI T) hr) (gy (oE T) hr T.jE (iF (pv 1))) (fv _))
   (ff (Av (fN T) hr rfl (jy (iy T.iK) (gI 0))))
   fB),?_⟩
 refine⟨_,rfl,_,_,_,rfl,h1,l2,L,e,pl,rest,rfl,X,Run.step R .refl (λ_ h=>h) λx v H1 k1 mh R=>?_⟩;obtain⟨⟨t,rfl,ht⟩,hne,X1⟩:=mh;refine⟨_,rfl,s,rfl,sg,λu H2 k2 hu=>?_⟩;have X2:=X1.same k2;have k12:=k1.trans (k2.mono (by simp));refine⟨_,_,JD (k2.t _ _ ht),JD hu,jq _,jq _,_,rfl,?_⟩;rw[Iw];obtain⟨_,_,Hc,_,_,_,_,_,_,_,_,_,wU,_⟩:=X2.kF;refine fH (λq=>?_) (λq=>?_)
 .have q':¬x.1.w=Tilt.ascii s:=by simpa using q
  have R':Run a.eX [L.p] H (Except.error ⟨3,x.1.at_⟩:Except Fault (List Word)) (okM a.fj L e) Q E:=by
   have R2:=R;rw[ag q']at R2;exact R2
  exact⟨_,rfl,_,_,_,_,_,rfl,Hc,T.fg,T.fK,wU,_,_,rfl,Run.raise R' k12⟩
 have q':x.1.w=Tilt.ascii s:=by simpa using q
 have R2:=R;rw[ak q']at R2;exact R2 _ _ k12 ⟨rfl,_,X2⟩
inductive Me(a:ij)(vs:List V)(H:Hp)(Q:VK)(E:XK):Prop
 |mk:∀(L:LA)(e pl:Nat)(rest:List Word),vs=[.ref L.p]->fw a.fj H L e rest pl->Run a.eX [L.p] H (nW e rest) (V5 a.fj L e) Q E->Me a vs H Q E
def nJ(T:Txt K mg a):gj P w K mg bz (PL a) 4 a.ou ["self"] (Me a):=by
 refine jx T.tK rB ?_;rintro _ _ _ _ _ _ _ _ _ hr ⟨L,e,pl,rest,rfl,X,R⟩;obtain⟨_,_,h1,_,l2,_⟩:=X.kF
 refine⟨_,eW (fP 1 rB (lW (pv 0) T.fg T.AF (nI T) hr))
  (eW (fS (qe (jd (gy (Km T) hr T.p6 (iF (pv 1)))))
   (ff (Av (fN T) hr rfl (jy (iy T.oN) (gI 0))))
   fB)
  (kY (pv 1))),Fg ?_⟩
 intros;refine⟨_,rfl,_,_,_,rfl,h1,l2,L,e,pl,rest,rfl,X,Run.step R .refl (λ_ h=>h) λx v H1 k1 mh R=>?_⟩;obtain⟨⟨t,rfl,ht⟩,hne,X1⟩:=mh;obtain⟨_,_,Hc,_,_,_,_,_,_,_,_,_,wU,_⟩:=X1.kF;refine⟨_,rfl,t,x.1.w,rfl,ht,hne,_,rfl,fH (λq=>?_) λq=>?_⟩
 .have q':Tilt.isName x.1.w=false:=by simpa using q
  rw[ak q']at R;exact⟨_,rfl,_,_,_,_,_,rfl,Hc,T.fg,T.fK,wU,_,_,rfl,Run.raise R k1⟩
 have q':¬Tilt.isName x.1.w=false:=by simpa using q
 rw[ag q']at R;exact⟨_,rfl,R _ _ k1 ⟨⟨t,rfl,ht⟩,hne,X1⟩⟩
def okN(C:Addr)(L:LA)(e:Nat)(x:(Nat×Nat)×List Word)(v:V)(H':Hp):Prop:=v=.int (x.1.1:Int)/\fw C H' L e x.2 x.1.2
inductive TR(a:ij)(vs:List V)(H:Hp)(Q:VK)(E:XK):Prop
 |mk:∀(L:LA)(e pl lo hi:Nat)(rest:List Word),vs=[.ref L.p,.int (lo:Int),.int (hi:Int)]->fw a.fj H L e rest pl->Run a.eX [L.p] H (gU e lo hi rest) (okN a.fj L e) Q E->TR a vs H Q E
theorem gB(T:Txt K mg a):gj P w K mg bz (PL a) 4 a.mz ["self","least","most"] (TR a):=by
 refine jx T.qK pG ?_;rintro _ _ _ _ H _ Q E _ hr ⟨L,e,pl,lo,hi,rest,rfl,X,R⟩;obtain⟨dx,_,h1,_,l2,_⟩:=X.kF
 refine⟨_,eW (fP 3 pG (gy (DP T) hr T.kh (iF (lW (pv 0) T.fg T.AF (nI T) hr))))
  (eW (fS (PW.pt (qd (fm JP (pv 3) qb (fv _)) (qd (fm pE (pv 3) (pv 1) (fv _)) (og (fm ve (pv 3) (pv 2) (fv _))))))
   (ff (Av (fN T) hr rfl (jy (iy T.oN) (gI 0))))
   fB)
  (kY (pv 3))),Fg ?_⟩
 intros;refine⟨_,rfl,_,_,_,rfl,h1,l2,L,e,pl,rest,rfl,X,Run.step R .refl (λ_ h=>h) λx v H1 k1 mh R=>?_⟩;obtain⟨⟨t,rfl,ht⟩,hne,X1⟩:=mh;obtain⟨_,_,Hc,_,_,_,_,_,_,_,_,_,wU,_⟩:=X1.kF;refine⟨t,x.1.w,rfl,ht,hne,?_⟩;cases hn:ji x.1.w with
 |none=>
  rw[hn]at R;refine⟨_,rfl,rfl,_,rfl,m9 (m9 ?_)⟩;exact⟨_,rfl,_,_,_,_,_,rfl,Hc,T.fg,T.fK,wU,_,_,rfl,Run.raise R k1⟩
 |some n=>
  rw[hn]at R;have R':Run a.eX [L.p] H (if n<lo\/hi<n then Except.error ⟨4,x.1.at_⟩else Except.ok ((n,x.1.at_),x.2)) (okN a.fj L e) Q E:=R
  have err:(n<lo\/hi<n)->∀dx H2,H2 dx=some (xF ⟨4,x.1.at_⟩ dx)->(∀b o,H1 b=some o->H2 b=some o)->E (.ref a.eX) (some dx) H2:=λz=>by
   rw[ak z]at R';exact Run.raise R' k1
  refine⟨_,rfl,rfl,_,rfl,oh ⟨_,rfl,_,rfl,_,_,rfl,rfl,_,rfl,fH (λq=>m9 ?_) λq=>?_⟩⟩
  .exact⟨_,rfl,_,_,_,_,_,rfl,Hc,T.fg,T.fK,wU,_,_,rfl,err (.inl (by have:=aj q;omega))⟩
  refine⟨_,rfl,_,rfl,_,_,rfl,rfl,_,rfl,fH (λq2=>?_) λq2=>?_⟩
  .exact⟨_,rfl,_,_,_,_,_,rfl,Hc,T.fg,T.fK,wU,_,_,rfl,err (.inr (by have:=aj q2;omega))⟩
  rw[ag (by have h1:=au q;have h2:=au q2;omega)]at R';exact⟨_,rfl,R' _ _ k1 ⟨rfl,X1⟩⟩
inductive DQ(a:ij)(vs:List V)(H:Hp)(Q:VK)(E:XK):Prop
 |mk:∀(L:LA)(e pl:Nat)(rest:List Word),vs=[.ref L.p]->fw a.fj H L e rest pl->Run a.eX [] H (Tilt.closed rest) (λ_ v _=>v=.hJ) Q E->DQ a vs H Q E
def qS(T:Txt K mg a):gj P w K mg bz (PL a) 3 a.si ["self"] (DQ a):=by
 refine jx T.xt Dy ?_;rintro _ _ _ _ _ _ _ _ _ hr ⟨L,e,pl,rest,rfl,X,R⟩;obtain⟨_,_,ws,j,h1,_,h3,_,_,h6,_⟩:=X.ex
 refine⟨_,ff (fS (jd (lW (pv 0) T.fg T.iY (gF T) hr))
   (ff (Av (fN T) hr rfl (jy (iy T.iK) (gQ gp (gI 0) (gI 0) λ_ _=>rfl))))
   fB),?_⟩
 refine⟨_,rfl,_,_,_,rfl,h1,rfl,L,e,pl,rest,rfl,X,_,rfl,fH (λq=>?_) λq=>?_⟩
 .cases rest with
  |nil=>cases q
  |cons x r=>
   have hx:ws[j]? =some x:=by
    have:=aQ (λl=>l[0]?) h6;simpa using this.symm
   exact⟨_,rfl,_,_,_,_,_,rfl,h1,T.fg,T.kC,rfl,_,rfl,_,_,_,_,_,rfl,h1,T.fg,T.jo,rfl,_,_,_,_,rfl,rfl,gC.of h3,at_of rfl (by rw[aK,hx];rfl),_,_,rfl,Run.raise R .refl⟩
 cases rest with
 |cons x r=>cases q
 |nil=>exact R _ _ .refl rfl
def Ex(H:Hp)(ts:List Addr)(ns:List Bytes):Prop:=ts.length=ns.length/\∀(i:Nat)(t:Addr)(n:Bytes),ts[i]? =some t->ns[i]? =some n->H t=some (nU n)
def Ex.keep(x:Ex H ts ns)(k:fb S H H'):Ex H' ts ns:=⟨x.1,λi t n a b=>k.t _ _ (x.2 i t n a b)⟩
section
variable{X:Cx}
noncomputable def V6(H:Hp)(w:Bytes):Value->Bool
 |.ref t=>match H t with
  |some (.tup xs)=>decide (xs=w.map bV)
  |_=>false
 |_=>false
theorem IA{w:Bytes}:∀{ts:List Addr}{ns:List Bytes},Ex H ts ns->(ts.map Value.ref).any (V6 H w)=decide (w∈ns)
 |[],[],_=>by simp
 |[],_::_,h=>by simp[Ex]at h
 |_::_,[],h=>by simp[Ex]at h
 |t::ts,n::ns,h=>by
  have h0:=h.2 0 t n rfl rfl;have hr:Ex H ts ns:=⟨by have:=h.1;simpa using this,λi t' n' a b=>h.2 (i+1) t' n' (by simpa using a) (by simpa using b)⟩;rw[bJ,any_cons,IA hr]
  have e:V6 H w (.ref t)=decide (w=n):=by
   show(match H t with|some (.tup xs)=>decide (xs=w.map bV)|_=>false)=_;rw[h0];rw[a6];exact⟨λz=>(DL z).symm,λz=>by rw[z]⟩
  rw[e];by_cases q:w=n
  .simp[q]
  by_cases q2:w∈ns<;>simp[q,q2]
inductive Ve(x:V)(y:V)(H:Hp)(Q:VK):Prop
 |mk:∀(p t:Addr)(ts:List Addr)(w:Bytes)(ns:List Bytes),x=.ref t->y=.ref p->H t=some (nU w)->H p=some (.lst (ts.map V.ref))->Ex H ts ns->Q (.bl (decide (w∈ns))) H->Ve x y H Q
theorem Mf:∀{ts:List Addr}{us:List Value},Vals (ts.map V.ref) us->us=ts.map Value.ref
 |[],_,.nil=>rfl
 |t::ts,_,.cons r q=>by
  have r':=r;rw[r',Mf q];rfl
def IB(hu:X.A.units+128<cLine):yu X (compareOp .In) Ve:=by
 intro pins s σ H x y v u Q I rx ry h;obtain⟨p,t,ts,w,ns,rfl,rfl,ht,hp,tu,q⟩:=h;cases ry;obtain⟨its,r,pl,hz⟩:=I.list (gC.of hp);have e:=Mf r;obtain⟨as,ra⟩:=Dp.reads I (xJ w) (.ref t) v (JD ht) rx;refine SeqAt.in_listAt (V6 H w) pl.isList (λz hz=>?_) ⟨.bl _,H,I,rfl,?_⟩
 .have YY:z∈its:=by simpa using hz
  rw[e]at YY;obtain⟨t',ht',rfl⟩:=dE.mp YY;obtain⟨i,hi⟩:=List.getElem?_of_mem ht';obtain⟨n,hn⟩:∃n,ns[i]? =some n:=⟨_,az (by have:=(ay.mp hi).1;have:=tu.1;omega)⟩;have h':=tu.2 i t' n hi hn;obtain⟨bs,rb⟩:=Dp.reads I (xJ n) (.ref t') (.ref t') (JD h') rfl;have q1:=SeqAt.eqAt_reads (xJ n) (xJ w) X.A.in1 s (.ref t') v bs as rb ra (SeqAt.canLay_of_shaped (jq n)) (SeqAt.canLay_of_shaped (jq w)) (SeqAt.room_of_shaped (jq n) (by show X.A.units+1+64<cLine;omega))
  have e1:V6 H w (.ref t')=PyData.eqv (xJ n) (xJ w):=by
   rw[Iw];show(match H t' with|some (.tup xs)=>decide (xs=w.map bV)|_=>false)=_;rw[h'];rw[a6];exact⟨λz=>DL z,λz=>by rw[z]⟩
  rw[e1];exact q1
 rw[show its.toArray.any (V6 H w)=its.any (V6 H w) by simp,e,IA tu];exact q
def Vf(h1:PT X e t)(h2:PT X e u):PT X e (λσ H Q=>t σ H Q\/u σ H Q):=λpins s σ H Q I h=>h.elim (h1 pins s σ H Q I) (h2 pins s σ H Q I)
def Ss(hu:X.A.units+128<cLine)(hi:PE X i ty)(ho:PE X o td)(h1:behindInMarks .In o=false:=by rfl):PT X (.Compare i [.In] [o] pos) (λσ H Q=>tB (W0 ty td) σ H Q\/Lc (K5 Ve ty td) σ H Q):=
 Vf (Cu (Ga (by omega) hi ho) h1) (fm (IB hu) hi ho h1)
end
def Kn(H:Hp)(d:Addr)(ns:List Bytes):Prop:=(∃kvs,H d=some (.dT kvs)/\kvs.map (·.1)=ns.map (·.map kB))\/∃ts,H d=some (.lst (ts.map V.ref))/\Ex H ts ns
def AG{ns:List Bytes}{w:Bytes}(h:kvs.map (·.1)=ns.map (·.map kB)):(u9 kvs (w.map kB)).isSome=decide (w∈ns):=by
 rw[<-yH];have e1:(kvs.any λkv=>decide (kv.1=w.map kB))=(kvs.map (·.1)).any λk=>decide (k=w.map kB):=by rw[List.any_map];rfl
 rw[e1,h,List.any_map];by_cases q:w∈ns
 .rw[cH q];exact any_eq_true.mpr ⟨w,q,by simp⟩
 rw[aV q,eI];intro z;obtain⟨n,hn,e⟩:=any_eq_true.mp z;have e':=aj e;exact q (DM e'▸hn)
def jJ.ZW(r:jJ k A):A.units+128<cLine:=by have:=r.un;omega
theorem Kn.keep(x:Kn H d ns)(k:fb S H H')(n:d∉S):Kn H' d ns:=by
 rcases x with⟨kvs,h1,h2⟩|⟨ts,h1,h2⟩
 .exact .inl ⟨kvs,k.k _ _ h1 n,h2⟩
 exact .inr ⟨ts,k.k _ _ h1 n,h2.keep k⟩
inductive TU(a:ij)(vs:List V)(H:Hp)(Q:VK)(E:XK):Prop
 |mk:∀(L:LA)(e pl:Nat)(rest:List Word)(d:Addr)(ns:List Bytes),vs=[.ref L.p,.ref d]->fw a.fj H L e rest pl->Kn H d ns->Run a.eX [L.p] H (vv e ns rest) (V5 a.fj L e) Q E->TU a vs H Q E
def jj(T:Txt K mg a):gj P w K mg bz (PL a) 5 a.lA ["self","known"] (TU a):=by
 refine jx T.oY nY ?_;rintro _ _ _ _ _ _ _ _ _ hr ⟨L,e,pl,rest,d,ns,rfl,X,kn,R⟩;obtain⟨_,_,h1,_,_,l3,_⟩:=X.kF
 refine⟨_,eW (fP 2 nY (lW (pv 0) T.fg T.rN (nJ T) hr))
  (eW (fS (Ss (jJ.ZW hr) (pv 2) (pv 1))
   (ff (Av (fN T) hr rfl (jy (iy T.wB) (gI 0))))
   fB)
  (kY (pv 2))),Fg ?_⟩
 intros;refine⟨_,rfl,_,_,_,rfl,h1,l3,L,e,pl,rest,rfl,X,Run.step R .refl (λ_ h=>h) λx v H1 k1 mh R=>?_⟩;obtain⟨⟨t,rfl,ht⟩,hne,X1⟩:=mh;obtain⟨_,_,Hc,_,_,_,_,_,_,_,_,_,wU,_⟩:=X1.kF
 have nd:d≠L.p:=by
  rcases kn with⟨kvs,z,_⟩|⟨ts,z,_⟩
  .exact gK z h1 (by intro y;cases y)
  exact gK z h1 (by intro y;cases y)
 have kn1:=kn.keep k1 (by simpa using nd);rcases kn1 with⟨_,z1,z2⟩|⟨ts,z1,z2⟩
 .refine .inl ⟨_,rfl,_,rfl,d,_,rfl,vn.t (k:=x.1.w.map kB) z1 (by rw[qR];exact ht),_,rfl,?_⟩;rw[AG z2];refine fH (λq=>?_) (λq=>?_)
  .rw[ak (aj q)]at R;exact⟨_,rfl,_,_,_,_,_,rfl,Hc,T.fg,T.fK,wU,_,_,rfl,Run.raise R k1⟩
  rw[ag (au q)]at R;exact⟨_,rfl,R _ _ k1 ⟨⟨t,rfl,ht⟩,hne,X1⟩⟩
 refine .inr ⟨_,rfl,_,rfl,d,t,ts,x.1.w,ns,rfl,rfl,ht,z1,z2,_,rfl,?_⟩;refine fH (λq=>?_) (λq=>?_)
 .rw[ak (aj q)]at R;exact⟨_,rfl,_,_,_,_,_,rfl,Hc,T.fg,T.fK,wU,_,_,rfl,Run.raise R k1⟩
 rw[ag (au q)]at R;exact⟨_,rfl,R _ _ k1 ⟨⟨t,rfl,ht⟩,hne,X1⟩⟩
def Vg(H:Hp)(d:Addr)(ns:List Bytes):Prop:=∃kvs,H d=some (.dT kvs)/\kvs.map (·.1)=ns.map (·.map kB)
inductive Mg(a:ij)(vs:List V)(H:Hp)(Q:VK)(E:XK):Prop
 |mk:∀(L:LA)(e pl:Nat)(rest:List Word)(d:Addr)(ns:List Bytes),vs=[.ref L.p,.ref d]->fw a.fj H L e rest pl->Vg H d ns->Run a.eX [L.p] H (iU e ns rest) (V5 a.fj L e) Q E->Mg a vs H Q E
def iq(T:Txt K mg a):gj P w K mg bz (PL a) 5 a.jU ["self","known"] (Mg a):=by
 refine jx T.nE mE ?_;rintro _ _ _ _ _ _ _ _ _ hr ⟨L,e,pl,rest,d,ns,rfl,X,⟨kvs,z1,z2⟩,R⟩;obtain⟨dx,fs,h1,l1,l2,l3,l4,l5,l6,l7,l8,l9,tT,BY⟩:=X.kF
 refine⟨_,eW (fP 2 mE (lW (pv 0) T.fg T.rN (nJ T) hr))
  (eW (fS (Cu (Ny (rf hr) (pv 2) (pv 1)))
   (ff (Av (fN T) hr rfl (jy (iy T.vL) (gI 0))))
   fB)
  (kY (pv 2))),Fg ?_⟩
 intros;refine⟨_,rfl,_,_,_,rfl,h1,l3,L,e,pl,rest,rfl,X,Run.step (r1:=nW e rest) R .refl (λ_ h=>h) λx v H1 k1 mh R=>?_⟩;obtain⟨⟨t,rfl,ht⟩,hne,X1⟩:=mh;obtain⟨Q6,Uj,Hc,_,_,_,_,_,_,_,_,_,wU,_⟩:=X1.kF;have nd:d≠L.p:=gK z1 h1 (by intro y;cases y);have z1':=k1.k _ _ z1 (by simpa using nd);refine⟨_,rfl,_,rfl,d,_,rfl,vn.t (k:=x.1.w.map kB) z1' (by rw[qR];exact ht),_,rfl,?_⟩;rw[AG z2];refine fH (λq=>?_) (λq=>?_)
 .rw[ag (by simpa using q)]at R;exact⟨_,rfl,_,_,_,_,_,rfl,Hc,T.fg,T.fK,wU,_,_,rfl,Run.raise R k1⟩
 rw[ak (by simpa using q)]at R;exact⟨_,rfl,R _ _ k1 ⟨⟨t,rfl,ht⟩,hne,X1⟩⟩
structure qT(K:Frag)(H:Hp)(t:Addr)(bs:Bytes):Prop where
 sq:gC K H t (bs.map bV)
 len:bs.length<=1000000
def DR{K:Frag}(h:gC K H t xs)(k:fb S H H')(n:t∉S):gC K H' t xs:=by
 rcases h with(h|⟨o,h⟩)|h
 .exact .inl (.inl (k.k _ _ h n))
 .exact .inl (.inr ⟨o,k.k _ _ h n⟩)
 exact .inr h
def qT.keep{K:Frag}(x:qT K H t bs)(k:fb S H H')(n:t∉S):qT K H' t bs:=⟨DR x.sq k n,x.len⟩
def Su{l:List α}:(l.drop p)[i]? =l[p+i]? :=by rw[List.getElem?_drop]
def wD{p i:Nat}{c:UInt8}{bs:Bytes}(h:(bs.drop p)[i]? =some c):Oy (bs.map bV) ((p:Int)+(i:Nat))=some (bV c):=by
 refine at_of (j:=p+i) (by omega) ?_;rw[aK,<-Su,h];rfl
def Run.GC{C:Addr}{k p:Int}(h:Run C S H (.error f) ok Q E)(hk:fb S H H1)(e1:k=(f.kind:Int))(e2:p=(f.place:Int)):
  ∀dx H2,H2 dx=some (xD (gw "place" (.int p) [("kind",.int k)]) dx)->(∀b o,H1 b=some o->H2 b=some o)->E (.ref C) (some dx) H2:=by
 subst e1 e2;exact Run.raise h hk
noncomputable def Kq(p:Nat)(b:Bytes):Except Fault (Bytes×Bytes):=match Tilt.upTo b with
 |none=>.error ⟨1,p+b.length⟩
 |some x=>.ok x
theorem Fv:∀{b:Bytes},(∀c∈b,c≠10)->Tilt.upTo b=none
 |[],_=>rfl
 |c::r,h=>by
  have h1:=h c (aM ..);rw[Tilt.upTo,ag h1,Fv λd hd=>h d (aC _ hd)];rfl
theorem Fw:∀{l r:Bytes},(∀c∈l,c≠10)->Tilt.upTo (l++10::r)=some (l,r)
 |[],r,_=>by rw[List.nil_append,Tilt.upTo,ak rfl]
 |c::l,r,h=>by
  have h1:=h c (aM ..);rw[cons_append,Tilt.upTo,ag h1,Fw λd hd=>h d (aC _ hd)];rfl
inductive TV(K:Frag)(a:ij)(vs:List V)(H:Hp)(Q:VK)(E:XK):Prop
 |mk:∀(t:Addr)(bs:Bytes)(p:Nat),vs=[.ref t,.int (p:Int)]->qT K H t bs->p<=bs.length->Run a.eX [] H (Kq p (bs.drop p)) (λx v H'=>v=.int ((p+x.1.length:Nat):Int)) Q E->TV K a vs H Q E
def IC(T:Txt K mg a):gj P w K mg bz (PL a) 3 a.ox ["text","start"] (TV K a):=by
 refine jx T.DI vH ?_;rintro _ _ _ _ H _ Q E _ hr ⟨t,bs,p,rfl,X,hp,R⟩
 refine⟨_,eW (fP 2 vH (pv 1))
  (eW (m6 aE (PW.pt (qc (fm pE (pv 2) (gM T.iA (pv 0)) (fv _)) (qX (fm La (gQ gp (pv 0) (pv 2) λ_ _=>rfl) (iy T.AE) (fv _)))))
   (ff (xQ (i:=2) vH.nd rfl (Or.inl rfl) fA Cw)))
  (eW (fS (fm ig (pv 2) (gM T.iA (pv 0)) (fv _))
   (ff (Av (fN T) hr rfl (jy (iy T.Fl) (pv 2))))
   fB)
  (kY (pv 2)))),Kj ?_⟩
 intros;generalize hb:bs.drop p=b at R;have Vz:bs.length=p+b.length:=by rw[<-hb,bC];omega
 refine⟨_,rfl,λm σ H'=>∃i,m=b.length - i/\i<=b.length/\H'=H/\σ=[some (.ref t),some (.int (p:Int)),some (.int ((p:Int)+(i:Nat)))]/\∀c∈b.take i,c≠10,⟨_,0,rfl,bu _,rfl,by simp[L2.start],λc hc=>by simp at hc⟩,?_⟩;rintro m σ H' ⟨i,rfl,hi,rfl,rfl,nR⟩
 have fin:∀(stop:i=b.length\/∃r,b=b.take i++10::r),OJ (Lc (K5 WJ (jk 2) (YF (λxs H Q=>∃p ys,xs=[V.ref p]/\(gC K H p ys\/m5 K H p ys)/\Q (V.int ys.length) H) (kL (jk 0) o8)))) (Ge a.eX "kind" "place" E (kL (tC (V.int 1)) (kL (jk 2) o8))) Hh
   {nx:=BZ (jk 2) {nx:=λ_ H'=>Q .hJ H',rt:=Q},rt:=Q} [some (.ref t),some (.int (p:Int)),some (.int ((p:Int)+(i:Nat)))] H':=by
  intro stop;refine⟨_,rfl,_,rfl,_,_,rfl,.inl X.sq,rfl,_,rfl,fH (λq=>?_) λq=>?_⟩
  .have q':((p:Int)+(i:Nat))=((bs.map bV).length:Int):=V.int.inj (aj q);rw[aw,Vz]at q';have Y9:i=b.length:=by omega
   rw[Y9,bN]at nR;unfold Kq at R;rw[Fv nR]at R;refine⟨_,rfl,_,_,rfl,?_⟩;exact Run.GC R .refl rfl (by show _=((p+b.length:Nat):Int);omega)
  have q':¬((p:Int)+(i:Nat))=((bs.map bV).length:Int):=λz=>au q (by rw[z]);rw[aw,Vz]at q';rcases stop with z|⟨r,z⟩
  .omega
  unfold Kq at R;rw[z,Fw nR]at R;refine⟨_,rfl,R _ _ .refl ?_⟩;show V.int _=V.int _;rw[bh];congr 1;omega
 refine⟨_,rfl,_,rfl,_,_,rfl,.inl X.sq,_,_,rfl,rfl,_,rfl,fH (λq=>?_) λq=>?_⟩
 .have q':(p:Int)+(i:Nat)<((bs.map bV).length:Int):=aj q;rw[aw,Vz]at q';have Y9:i<b.length:=by omega
  have hc:=az Y9;have V8:(bs.drop p)[i]? =some b[i]:=by rw[hb];exact hc
  refine⟨_,rfl,_,rfl,_,_,_,_,rfl,rfl,X.sq,wD V8,rfl,_,rfl,fH (λq2=>?_) λq2=>?_⟩
  .have q3:b[i]≠10:=λz=>by
    have:(!decide (bV b[i]=bV 10))=true:=q2;rw[z]at this;simp at this
   refine⟨λσ' H''=>∃j,j=i+1/\H''=H'/\σ'=[some (.ref t),some (.int (p:Int)),some (.int ((p:Int)+(j:Nat)))],λσ' H''⟨j,e1,e2,e3⟩=>⟨b.length - j,by omega,j,rfl,by omega,e2,e3,λc Vv=>?_⟩,?_⟩
   .rw[e1,take_snoc hc]at Vv;rcases aG.mp Vv with z|z
    .exact nR c z
    simp at z;rw[z];exact q3
   refine⟨_,rfl,_,_,rfl,rfl,i+1,rfl,rfl,?_⟩;show [some (V.ref t),some (V.int (p:Int)),some (V.int ((p:Int)+(i:Nat)+1))]=_;rw[show(p:Int)+(i:Nat)+1=(p:Int)+((i+1:Nat):Int)from by omega]
  have q3:b[i]=10:=by
   have:(!decide (bV b[i]=bV 10))=false:=q2;exact vY (by simpa using this)
  refine fin (.inr ⟨b.drop (i+1),?_⟩);rw[<-q3,<-bY Y9,List.take_append_drop]
 have q':¬(p:Int)+(i:Nat)<((bs.map bV).length:Int):=au q;rw[aw,Vz]at q';exact fin (.inl (by omega))
def Xo(m:Nat)(hm:m<256)(c:UInt8):decide ((c.toNat:Int)<(m:Int))=decide (c<UInt8.ofNat m):=by
 rw[a6,UInt8.lt_iff_toNat_lt,cO,eJ hm];omega
def Xp(m:Nat)(hm:m<256)(c:UInt8):decide ((m:Int)<(c.toNat:Int))=decide (UInt8.ofNat m<c):=by
 rw[a6,UInt8.lt_iff_toNat_lt,cO,eJ hm];omega
noncomputable def AH(p:Nat)(l:Bytes):Except Fault Unit:=match Tilt.badByte true 0 l with
 |some i=>.error ⟨2,p+i⟩
 |none=>.ok ()
inductive Mh(K:Frag)(a:ij)(vs:List V)(H:Hp)(Q:VK)(E:XK):Prop
 |mk:∀(t:Addr)(bs:Bytes)(p:Nat)(l r:Bytes),vs=[.ref t,.int (p:Int),.int ((p+l.length:Nat):Int)]->qT K H t bs->bs.drop p=l++10::r->Run a.eX [] H (AH p l) (λ_ v _=>v=.hJ) Q E->Mh K a vs H Q E
def DS(T:Txt K mg a):gj P w K mg bz (PL a) 3 a.km ["text","start","end"] (Mh K a):=by
 refine jx T.xw kZ ?_;rintro _ _ _ _ H _ _ E _ hr ⟨t,bs,p,l,r,rfl,X,hb,R⟩
 refine⟨_,eW (fP 3 kZ (iy T.wC))
  (ff (jN aE rfl (Ah rfl T.rD (jy (pv 1) (pv 2))) (ib (i:=4) kZ.nd rfl (Or.inl rfl))
   (eW (fP 5 kZ (gQ gp (pv 0) (pv 4) λ_ _=>rfl))
   (eW (fS (PW.pt (qd (fm pE (pv 5) (iy T.wC) (fv _)) (og (fm ve (pv 5) (iy T.Bp) (fv _)))))
    (ff (Av (fN T) hr rfl (jy (iy T.uq) (pv 4))))
    fB)
   (eW (fS (PW.pt (qc (fm ig (pv 5) (iy T.wC) (fv _)) (qX (PW.pt (qd (fm ig (pv 3) (iy T.wC) (fv _)) (og (fm ig (g0 kI (pv 4) fA) (pv 2) (fv _))))))))
    (ff (Av (fN T) hr rfl (jy (iy T.uq) (pv 4))))
    fB)
   (ff (fP 3 kZ (pv 5)))))))),?_⟩
 have Vz:bs.length=p+(l++10::r).length\/(l++10::r).length=0:=by
  have:=aQ List.length hb;rw[bC]at this;omega
 rw[aq,aF]at Vz;have hl:=X.len;have hn:(((p+l.length:Nat):Int) - (p:Int)).toNat=l.length:=by omega
 refine⟨_,rfl,_,rfl,_,_,rfl,⟨by omega,by omega,by omega,by omega⟩,?_⟩;rw[hn]
 refine sJ (λi σ H'=>H'=H/\∃c v4 v5,σ=[some (.ref t),some (.int (p:Int)),some (.int ((p+l.length:Nat):Int)),some (bV c),v4,v5]/\Tilt.badByte true 0 l=Tilt.badByte (decide (c=32)) i (l.drop i)/\(c=32->i=0\/i<l.length))
  ⟨rfl,32,none,none,rfl,by simp,λ_=>.inl rfl⟩ ?_ ?_
 .rintro i σ H' hi ⟨rfl,c,v4,v5,rfl,qW,Yd⟩;have hd:=az hi;generalize l[i]=d at hd;have Eb:(bs.drop p)[i]? =some d:=by rw[hb,cy hi];exact hd
  have Ef:l.drop i=d::l.drop (i+1):=by
   rw[bY hi];congr 1;rw[az hi]at hd;exact ao hd
  rw[Ef]at qW;have step:Tilt.badByte (decide (c=32)) i (d::l.drop (i+1))=if d<32\/126<d then some i else if d=32 then(if decide (c=32)=true then some i else if(l.drop (i+1)).isEmpty=true then some i else Tilt.badByte true (i+1) (l.drop (i+1)))else Tilt.badByte false (i+1) (l.drop (i+1)):=rfl
  rw[step]at qW
  have bad:Tilt.badByte true 0 l=some i->∀dx H2,H2 dx=some (xD (gw "place" (.int ((p:Int)+(i:Nat))) [("kind",.int 2)]) dx)->(∀b o,H' b=some o->H2 b=some o)->E (.ref a.eX) (some dx) H2:=λz=>by
   unfold AH at R;rw[z]at R;exact Run.GC R .refl rfl (by show _=((p+i:Nat):Int);omega)
  refine⟨_,rfl,_,rfl,_,_,_,_,rfl,rfl,X.sq,wD Eb,?_⟩;refine⟨_,rfl,_,_,rfl,rfl,_,rfl,fH (λq=>m9 ?_) λq=>?_⟩
  .have q':=aj ((Xo 32 (by decide) d).symm.trans q);rw[ak (.inl q')]at qW;exact⟨_,rfl,_,_,rfl,bad qW⟩
  have q':=au ((Xo 32 (by decide) d).symm.trans q);refine⟨_,rfl,_,_,rfl,rfl,_,rfl,fH (λq2=>?_) λq2=>?_⟩
  .have Ye:=aj ((Xp 126 (by decide) d).symm.trans q2);rw[ak (.inr Ye)]at qW;exact⟨_,rfl,_,_,rfl,bad qW⟩
  have Ye:=au ((Xp 126 (by decide) d).symm.trans q2);rw[ag (by rintro(z|z);exact q' z;exact Ye z)]at qW;refine⟨_,rfl,rfl,_,rfl,fH (λq3=>?_) λq3=>oh ?_⟩
  .have We:d=32:=vY (aj q3);rw[ak We]at qW;refine⟨_,rfl,rfl,_,rfl,fH (λq4=>m9 ?_) λq4=>?_⟩
   .have q4':c=32:=vY (aj q4);rw[ak (by simpa using q4')]at qW;exact⟨_,rfl,_,_,rfl,bad qW⟩
   have q4':¬c=32:=λz=>au q4 (by rw[z];rfl);rw[ag (by simpa using q4')]at qW;refine⟨_,rfl,_,_,rfl,rfl,_,rfl,rfl,_,rfl,fH (λq5=>?_) λq5=>?_⟩
   .have q5':=V.int.inj (aj q5);rw[ak (by rw[bE (by omega)];rfl)]at qW;exact⟨_,rfl,_,_,rfl,bad qW⟩
   have q5':¬(p:Int)+(i:Nat)+1=((p+l.length:Nat):Int):=λz=>au q5 (aQ V.int z);have lt:i+1<l.length:=by omega
   rw[ag (by cases z:l.drop (i+1)with|nil=>have:=aQ List.length z;rw[bC]at this;simp at this;omega|cons=>simp)]at qW;exact⟨_,rfl,rfl,d,_,_,rfl,by rw[qW,We];rfl,λ_=>.inr lt⟩
  have We:¬d=32:=λz=>au q3 (by rw[z];rfl);rw[ag We]at qW;exact⟨_,rfl,rfl,d,_,_,rfl,by rw[qW,aV We],λz=>absurd z We⟩
 rintro σ H' ⟨rfl,c,_,_,rfl,qW,Yd⟩
 have e:Tilt.badByte true 0 l=none:=by
  rw[qW,drop_length];by_cases z:c=32
  .rcases Yd z with y|y
   .rw[y,cH z];rfl
   omega
  rw[aV z];rfl
 unfold AH at R;rw[e]at R;exact R _ _ .refl rfl
def Mi{xs:List V}{lo hi:Nat}(h:hi<=xs.length)(h2:lo<=hi):FY xs (some (lo:Int)) (some (hi:Int))=(xs.take hi).drop lo:=by
 unfold FY;rw[HT.Lg,HT.Lg,Nat.min_eq_left h,Nat.min_eq_left (by omega),drop_take]
def Sv(p:Nat)(l:Bytes)(i f:Nat)(ws:List Word):Prop:=
 (i<=l.length/\f<=i/\ws++Tilt.wordsFrom (p+i) ((l.take i).drop f) (l.drop i)=Tilt.wordsFrom p [] l/\Tilt.badByte (decide ((l.take i).drop f=[])) i (l.drop i)=none)\/(i=l.length+1/\ws=Tilt.wordsFrom p [] l)
def ZX(h:Tilt.badByte true 0 l=none):Sv p l 0 0 []:=.inl ⟨bu _,aH _,by simp,by simpa using h⟩
def vZ{l:Bytes}(h:l[i]? =some d)(hf:f<=i):(l.take (i+1)).drop f=(l.take i).drop f++[d]:=by
 have hi:=(ay.mp h).1;rw[take_snoc h,List.drop_append_of_le_length (by rw[bh];omega)]
def Qo(c:Sv p l i f ws)(hd:l[i]? =some d)(n:d≠32):Sv p l (i+1) f ws:=by
 have hi:=(ay.mp hd).1
 have Ef:l.drop i=d::l.drop (i+1):=by
  rw[bY hi,(ay.mp hd).2]
 rcases c with⟨h1,h2,h3,h4⟩|⟨h1,_⟩
 .refine .inl ⟨hi,by omega,?_,?_⟩
  .rw[Ef]at h3;rw[vZ hd h2,<-h3];congr 1;rw[Tilt.wordsFrom,ag n];rfl
  rw[Ef]at h4;rw[vZ hd h2,show decide ((l.take i).drop f++[d]=[])=false from by simp];have step:Tilt.badByte (decide ((l.take i).drop f=[])) i (d::l.drop (i+1))=if d<32\/126<d then some i else if d=32 then(if decide ((l.take i).drop f=[])=true then some i else if(l.drop (i+1)).isEmpty=true then some i else Tilt.badByte true (i+1) (l.drop (i+1)))else Tilt.badByte false (i+1) (l.drop (i+1)):=rfl
  rw[step]at h4;split at h4
  .cases h4
  exact h4
 omega
def Ob(c:Sv p l i f ws)(hd:l[i]? =some 32):f<i/\Sv p l (i+1) (i+1) (ws++[⟨(l.take i).drop f,p+f⟩])/\(l.take i).drop f≠[]:=by
 have hi:=(ay.mp hd).1
 have Ef:l.drop i=32::l.drop (i+1):=by
  rw[bY hi,(ay.mp hd).2]
 rcases c with⟨h1,h2,h3,h4⟩|_
 .rw[Ef]at h4;have step:Tilt.badByte (decide ((l.take i).drop f=[])) i (32::l.drop (i+1))=(if decide ((l.take i).drop f=[])=true then some i else if(l.drop (i+1)).isEmpty=true then some i else Tilt.badByte true (i+1) (l.drop (i+1))):=rfl;rw[step]at h4;have ne:(l.take i).drop f≠[]:=λz=>by rw[ak (by simpa using z)]at h4;cases h4
  rw[ag (by simpa using ne)]at h4
  have lf:f<i:=by
   rcases Nat.lt_or_ge f i with z|z
   .exact z
   exact absurd (bE (by rw[bh];omega)) ne
  refine⟨lf,.inl ⟨hi,aH _,?_,?_⟩,ne⟩
  .rw[Ef]at h3;rw[<-h3,a0];congr 1;rw[Tilt.wordsFrom,ak rfl];have e1:(l.take (i+1)).drop (i+1)=[]:=bE (by rw[bh];omega);have e2:p+i - ((l.take i).drop f).length=p+f:=by rw[bC,bh];omega
   rw[e1,e2];rfl
  have e1:(l.take (i+1)).drop (i+1)=[]:=bE (by rw[bh];omega);rw[e1,show decide (([]:Bytes)=[])=true from by simp];split at h4
  .cases h4
  exact h4
 omega
def Sw(c:Sv p l l.length f ws):(f<l.length->Sv p l (l.length+1) (l.length+1) (ws++[⟨l.drop f,p+f⟩])/\l.drop f≠[])/\(¬f<l.length->Sv p l (l.length+1) (l.length+1) ws):=by
 rcases c with⟨h1,_,h3,_⟩|_
 .rw[bN,drop_length]at h3;rw[Tilt.wordsFrom]at h3;refine⟨λz=>?_,λz=>?_⟩
  .have ne:l.drop f≠[]:=λy=>by have:=aQ List.length y;rw[bC]at this;simp at this;omega
   refine⟨.inr ⟨rfl,?_⟩,ne⟩;rw[ag (by cases q:l.drop f with|nil=>exact absurd q ne|cons=>simp)]at h3;rw[<-h3];have e2:p+l.length - (l.drop f).length=p+f:=by rw[bC];omega
   rw[e2]
  refine .inr ⟨rfl,?_⟩;rw[ak (by rw[bE (by omega)];rfl),bK]at h3;exact h3
 omega
structure Oc(C:Addr)(H:Hp)(L:LA)(e:Nat)(ws:List Word):Prop where
 ex:∃(dx:Addr)(ts:List Addr),H L.p=some (.ins C dx (Md L.wl L.sl e 0 e))/\H L.wl=some (.lst (ts.map V.ref))/\H L.sl=some (.lst (ws.map λw=>V.int (w.at_:Int)))/\ts.length=ws.length/\(∀(i:Nat)(t:Addr)(w:Word),ts[i]? =some t->ws[i]? =some w->H t=some (nU w.w))/\(∀w∈ws,w.w≠[])/\L.wl≠L.sl
def Oc.line(x:Oc C H L e ws):fw C H L e ws e:=by
 obtain⟨dx,ts,h1,h2,h3,h4,h5,h6,_⟩:=x.ex;exact⟨dx,ts,ws,0,h1,h2,h3,h4,h5,by simp,bu _,h6⟩
def p8{K:Frag}(h:gC K H t xs)(k:fb S H H')(n:∀z∈S,H z=none):gC K H' t xs:=by
 rcases h with(h|⟨o,h⟩)|h
 .exact .inl (.inl (k.k _ _ h λz=>by rw[n _ z]at h;cases h))
 .exact .inl (.inr ⟨o,k.k _ _ h λz=>by rw[n _ z]at h;cases h⟩)
 exact .inr h
def Oc.add{C:Addr}{e:Nat}{v:Addr}{at_:Nat}(x:Oc C H L e ws)(k:fb [] H H1)(hv:H1 v=some (nU cur))(ne:cur≠[]):
  ∃(dx:Addr)(xs ys:List V),H1 L.p=some (.ins C dx (Md L.wl L.sl e 0 e))/\H1 L.wl=some (.lst xs)/\xs.length=ws.length/\L.p≠L.wl/\upd H1 L.wl (.lst (xs++[.ref v])) L.sl=some (.lst ys)/\ys.length=ws.length/\
   Oc C (upd (upd H1 L.wl (.lst (xs++[.ref v]))) L.sl (.lst (ys++[.int (at_:Int)]))) L e (ws++[⟨cur,at_⟩]):=by
 obtain⟨dx,ts,h1,h2,h3,h4,h5,h6,h7⟩:=x.ex;have g1:=k.k _ _ h1 (by simp);have g2:=k.k _ _ h2 (by simp);have g3:=k.k _ _ h3 (by simp);have n1:=gK g1 g2 (by intro z;cases z);have n2:=gK g1 g3 (by intro z;cases z);refine⟨dx,_,_,g1,g2,by rw[aw];exact h4,n1,by rw[eY (aW h7)];exact g3,by rw[aw],dx,ts++[v],?_,?_,?_,?_,?_,?_,h7⟩
 .rw[eY n2,eY n1];exact g1
 .rw[eY h7,eV,aL];rfl
 .rw[eV,aL];rfl
 .rw[aq,aq,h4];rfl
 .intro i t w q1 q2
  have tt:H1 t=some (nU w.w):=by
   by_cases z:i<ts.length
   .rw[cy z]at q1;rw[cy (by omega)]at q2;exact k.t _ _ (h5 i t w q1 q2)
   have zi:i=ts.length:=by
    have:=(ay.mp q1).1;rw[aq]at this;simp at this;omega
   rw[zi,bO (aH _),sub_self]at q1;rw[zi,h4,bO (aH _),sub_self]at q2;have e1:=ao q1;have e2:=ao q2;subst e1 e2;exact hv
  rw[eY (gK tt g3 (by intro z;cases z)),eY (gK tt g2 (by intro z;cases z))];exact tt
 intro w hw;rcases aG.mp hw with z|z
 .exact h6 w z
 simp at z;subst z;exact ne
inductive Mj(K:Frag)(a:ij)(vs:List V)(H:Hp)(Q:VK)(u1:XK):Prop
 |mk:∀(t:Addr)(bs:Bytes)(p:Nat)(l r:Bytes),vs=[.ref t,.int (p:Int),.int ((p+l.length:Nat):Int)]->qT K H t bs->bs.drop p=l++10::r->(∀c∈l,c≠10)->Tilt.badByte true 0 l=none->(∀L H',fb [] H H'->H L.p=none->H L.wl=none->H L.sl=none->fw a.fj H' L (p+l.length) (Tilt.wordsFrom p [] l) (p+l.length)->Q (.ref L.p) H')->Mj K a vs H Q u1
def DT(T:Txt K mg a):gj P w K mg bz (PL a) 3 a.ko ["text","start","end"] (Mj K a):=by
 refine jx T.xx lg ?_;rintro _ _ _ _ H _ _ _ _ hr ⟨t,bs,p,l,r,rfl,X,hb,VA,qW,k⟩
 refine⟨_,eW (fP 3 lg (Gq T.P8 (Sr T) hr T.fj (iF (pv 2))))
  (eW (fP 4 lg (pv 1))
  (eW (jN aE rfl (Ah rfl T.rD (jy (pv 1) (g0 kI (pv 2) fA))) (ib (i:=5) lg.nd rfl (Or.inl rfl))
   (ff (fS (PW.pt (qd (fm ig (gQ gp (pv 0) (pv 5) λ_ _=>rfl) (iy T.wC) (fv _)) (og (fm ig (gQ gp (pv 0) (pv 5) λ_ _=>rfl) (iy T.AE) (fv _)))))
    (eW (fS (fm pE (pv 4) (pv 5) (fv _))
     (eW (gi (mD aX aI aJ iD (gI 3) (iF (wo wW (by rfl) T.Gx rfl (iF (CN F3 (pv 0) (wq (pv 4)) (wq (pv 5))))))))
     (ya (mD aX aI aJ iD (gI 3) (iF (pv 4)))))
     fB)
    (ff (fP 4 lg (g0 kI (pv 5) fA))))
    fB)))
  (kY (pv 3)))),Kj ?_⟩
 intros
 have Vz:bs.length=p+(l.length+(r.length+1)):=by
  have:=aQ List.length hb;rw[bC,aq,aF]at this;omega
 have hl:=X.len;refine⟨_,rfl,λx dx hx VB RA=>⟨x,dx,p+l.length,rfl,eV,λwl sl H2 k2 hwl KW Yc e1 e2 e3=>⟨rfl,?_⟩⟩⟩
 have VC:H wl=none:=by
  have n1:wl≠x:=λz=>by rw[z,eV]at hwl;cases hwl
  have n2:wl≠dx:=λz=>by rw[z,eY RA,eV]at hwl;cases hwl
  rw[eY n1,eY n2]at hwl;exact hwl
 have VD:H sl=none:=by
  have n1:sl≠x:=λz=>by rw[z,eV]at KW;cases KW
  have n2:sl≠dx:=λz=>by rw[z,eY RA,eV]at KW;cases KW
  rw[eY n1,eY n2]at KW;exact KW
 have k3:fb [] H H2:=((fb.new VB).trans (fb.new (by rw[eY (aW RA)];exact hx)) |>.trans k2).drop hx;have VE:(((p+l.length:Nat):Int)+1 - (p:Int)).toNat=l.length+1:=by omega
 refine⟨_,rfl,_,rfl,_,rfl,_,_,rfl,rfl,_,_,rfl,⟨by omega,by omega,by omega,by omega⟩,?_⟩;show∃W:Nat->Nat->L2.St->Hp->Prop,_;rw[VE]
 refine sJ (n:=l.length+1) (λi σ H'=>fb [wl,sl] H H'/\∃f ws v5,σ=[some (.ref t),some (.int (p:Int)),some (.int ((p+l.length:Nat):Int)),some (.ref x),some (.int ((p+f:Nat):Int)),v5]/\Sv p l i f ws/\ws.length<=i/\Oc a.fj H' ⟨x,wl,sl⟩ (p+l.length) ws)
  ⟨k3.mono (by simp),0,[],none,rfl,ZX qW,aH _,dx,[],e1,e2,e3,rfl,λi t w z=>by simp at z,λw hw=>by simp at hw,Yc⟩ ?_ ?_
 .rintro i σ H' hi ⟨kk,f,ws,v5,rfl,cur,XQ,fill⟩;have sq:gC K H' t (bs.map bV):=p8 X.sq kk (by intro z hz;simp at hz;rcases hz with rfl|rfl;exact VC;exact VD);have big:1000001<sizeLine:=by decide
  have fi:f<=i:=by
   rcases cur with⟨_,z,_⟩|⟨z,_⟩
   .exact z
   omega
  have VF:FY (bs.map bV) (some ((p+f:Nat):Int)) (some ((p:Int)+(i:Nat)))=((l.take i).drop f).map bV:=by
   rw[show(p:Int)+(i:Nat)=((p+i:Nat):Int)from by omega,Mi (by rw[aw];omega) (by omega),<-List.map_take,<-List.map_drop];congr 1;rw[<-eM,drop_take,show p+i - p=i from by omega,hb,List.take_append_of_le_length (by omega)]
  by_cases Wb:i<l.length
  .have hd:=az Wb;generalize l[i]=d at hd;have Eb:(bs.drop p)[i]? =some d:=by rw[hb,cy Wb];exact hd
   have d10:d≠10:=VA d (aR hd);refine⟨_,rfl,_,rfl,_,_,_,_,rfl,rfl,sq,wD Eb,rfl,_,rfl,fH (λq=>m9 ?_) λq=>?_⟩
   .have q':d=32:=vY (aj q);subst q';obtain⟨fi',VG,ne⟩:=Ob cur hd;refine⟨_,rfl,_,rfl,_,_,rfl,rfl,_,rfl,fH (λ_=>?_) λz=>absurd (au z) (by omega)⟩;obtain⟨Q6,ts',h1,h2,_⟩:=fill.ex;refine⟨_,rfl,_,_,_,_,_,rfl,h1,T.fg,T.jV,rfl,.inl ⟨rfl,_,gC.of h2⟩,_,rfl,_,rfl,_,rfl,_,rfl,_,rfl,_,_,rfl,sq,λu hu=>⟨u,_,rfl,.inl ⟨gC.of eV,λv hv=>?_⟩⟩⟩;rw[VF]at hv⊢;have hu':H' u=none:=hu;have kv:fb [] H' (upd (upd H' u (.lst (((l.take i).drop f).map bV))) v (.tup (((l.take i).drop f).map bV))):=(fb.new hu').trans (fb.new hv);obtain⟨dx2,xs,ys,g1,g2,g3,g4,g5,g6,g7⟩:=fill.add (at_:=p+f) kv eV ne;refine⟨wl,xs,_,rfl,rfl,g2,by omega,_,rfl,_,_,_,_,_,rfl,(eY g4).trans g1,T.fg,T.kC,rfl,.inl ⟨rfl,_,gC.of g5⟩,_,rfl,sl,ys,_,rfl,rfl,g5,by omega,?_⟩;have kf:=λ(o:HO)=>(kk.trans (kv.mono (by simp))).trans ((fb.put g2 (S:=[wl,sl]) (by simp) (by intro _ z;cases z)).trans (fb.put (o':=o) g5 (by simp) (by intro _ z;cases z)));exact⟨_,rfl,_,_,rfl,rfl,kf _,i+1,_,_,(show [some (V.ref t),some (V.int (p:Int)),some (V.int ((p+l.length:Nat):Int)),some (V.ref x),some (V.int ((p:Int)+(i:Nat)+1)),some (V.int ((p:Int)+(i:Nat)))]=_ by rw[show((p:Int)+(i:Nat)+1)=((p+(i+1):Nat):Int)from by omega]),VG,by rw[aq];simp;omega,g7⟩
   have q':d≠32:=λz=>au q (by rw[z];rfl);refine⟨_,rfl,_,rfl,_,_,_,_,rfl,rfl,sq,wD Eb,rfl,_,rfl,fH (λq2=>absurd (vY (aj q2)) d10) λq2=>?_⟩;exact⟨kk,f,ws,_,rfl,Qo cur hd q',by omega,fill⟩
  have hie:i=l.length:=by omega
  subst hie;have Eb:(bs.drop p)[l.length]? =some 10:=by rw[hb,bO (aH _),sub_self];rfl
  refine⟨_,rfl,_,rfl,_,_,_,_,rfl,rfl,sq,wD Eb,rfl,_,rfl,fH (λq=>absurd (V.int.inj (aj q)) (by decide)) λq=>?_⟩;refine⟨_,rfl,_,rfl,_,_,_,_,rfl,rfl,sq,wD Eb,rfl,_,rfl,fH (λq2=>?_) λq2=>absurd rfl (au q2)⟩;rw[bN]at VF;obtain⟨c1,c2⟩:=Sw cur;by_cases Uy:f<l.length
  .obtain⟨VG,ne⟩:=c1 Uy;refine⟨_,rfl,_,rfl,_,_,rfl,rfl,_,rfl,fH (λ_=>?_) λz=>absurd (au z) (by omega)⟩;obtain⟨Q6,ts',h1,h2,_⟩:=fill.ex;refine⟨_,rfl,_,_,_,_,_,rfl,h1,T.fg,T.jV,rfl,.inl ⟨rfl,_,gC.of h2⟩,_,rfl,_,rfl,_,rfl,_,rfl,_,rfl,_,_,rfl,sq,λu hu=>⟨u,_,rfl,.inl ⟨gC.of eV,λv hv=>?_⟩⟩⟩;rw[VF]at hv⊢;have hu':H' u=none:=hu;have kv:fb [] H' (upd (upd H' u (.lst ((l.drop f).map bV))) v (.tup ((l.drop f).map bV))):=(fb.new hu').trans (fb.new hv);obtain⟨dx2,xs,ys,g1,g2,g3,g4,g5,g6,g7⟩:=fill.add (at_:=p+f) kv eV ne;refine⟨wl,xs,_,rfl,rfl,g2,by omega,_,rfl,_,_,_,_,_,rfl,(eY g4).trans g1,T.fg,T.kC,rfl,.inl ⟨rfl,_,gC.of g5⟩,_,rfl,sl,ys,_,rfl,rfl,g5,by omega,?_⟩;have kf:=λ(o:HO)=>(kk.trans (kv.mono (by simp))).trans ((fb.put g2 (S:=[wl,sl]) (by simp) (by intro _ z;cases z)).trans (fb.put (o':=o) g5 (by simp) (by intro _ z;cases z)));exact⟨_,rfl,_,_,rfl,rfl,kf _,l.length+1,_,_,(show [some (V.ref t),some (V.int (p:Int)),some (V.int ((p+l.length:Nat):Int)),some (V.ref x),some (V.int ((p:Int)+(l.length:Nat)+1)),some (V.int ((p:Int)+(l.length:Nat)))]=_ by rw[show((p:Int)+(l.length:Nat)+1)=((p+(l.length+1):Nat):Int)from by omega]),VG,by rw[aq];simp;omega,g7⟩
  refine⟨_,rfl,_,rfl,_,_,rfl,rfl,_,rfl,fH (λz=>absurd (aj z) (by omega)) λ_=>?_⟩;exact⟨_,rfl,_,_,rfl,rfl,kk,l.length+1,ws,_,(show [some (V.ref t),some (V.int (p:Int)),some (V.int ((p+l.length:Nat):Int)),some (V.ref x),some (V.int ((p:Int)+(l.length:Nat)+1)),some (V.int ((p:Int)+(l.length:Nat)))]=_ by rw[show((p:Int)+(l.length:Nat)+1)=((p+(l.length+1):Nat):Int)from by omega]),c2 Uy,by omega,fill⟩
 rintro σ H' ⟨kk,f,ws,v5,rfl,cur,XQ,fill⟩
 have ew:ws=Tilt.wordsFrom p [] l:=by
  rcases cur with⟨z,_⟩|⟨_,z⟩
  .omega
  exact z
 subst ew;exact⟨_,rfl,k ⟨x,wl,sl⟩ H' ((kk.drop VC).drop VD) hx VC VD fill.line⟩
theorem ID:∀{b l r:Bytes},Tilt.upTo b=some (l,r)->b=l++10::r/\∀c∈l,c≠10
 |[],_,_,h=>by cases h
 |c::b,l,r,h=>by
  rw[Tilt.upTo]at h;by_cases q:c=10
  .rw[ak q]at h;cases h;exact⟨by rw[q];rfl,λd hd=>by simp at hd⟩
  rw[ag q]at h;cases e:Tilt.upTo b with
  |none=>rw[e]at h;cases h
  |some x=>
   rw[e]at h;have h':=ao h;cases h';obtain⟨h1,h2⟩:=ID e;refine⟨by rw[cons_append,<-h1],λd hd=>?_⟩;rcases aA.mp hd with z|z
   .rw[z];exact q
   exact h2 d z
theorem IE(p:Nat)(b:Bytes):nX p b=(Kq p b>>=λx=>AH p x.1>>=λ_=>pure ((⟨Tilt.wordsFrom p [] x.1,p+x.1.length⟩:Line),x.2)):=by
 unfold nX Kq AH;cases Tilt.upTo b with
 |none=>rfl
 |some x=>
  obtain⟨l,r⟩:=x;show(match Tilt.badByte true 0 l with|some i=>_|none=>_)=((match Tilt.badByte true 0 l with|some i=>_|none=>_)>>=_);cases Tilt.badByte true 0 l<;>rfl
theorem Ml(h:Kq p b=.ok x):b=x.1++10::x.2/\∀c∈x.1,c≠10:=by
 unfold Kq at h;cases e:Tilt.upTo b with
 |none=>rw[e]at h;cases h
 |some y=>rw[e]at h;cases h;exact ID e
theorem Run.gk(h:Run C S H (r1>>=f) ok Q E)(hk:fb S H H1)(sub:∀s∈S1,s∈S)
  (k:∀a v H',r1=.ok a->fb S H H'->fb S1 H1 H'->mh a v H'->Run C S H (f a) ok Q E->Q1 v H'):Run C S1 H1 r1 mh Q1 E:=by
 cases r1 with
 |error e=>exact λdx H' kp q=>h dx H' (hk.trans (kp.mono sub)) q
 |ok a=>exact λv H' kp q=>k a v H' rfl (hk.trans (kp.mono sub)) kp q h
inductive okL(C:Addr)(H:Hp)(p:Nat)(b:Bytes)(x:Line×Bytes)(v:V)(H':Hp):Prop
 |mk:∀L:LA,v=.ref L.p->H L.p=none->H L.wl=none->H L.sl=none->fw C H' L x.1.end_ x.1.words x.1.end_->(∃l,b=l++10::x.2/\x.1.end_=p+l.length)->okL C H p b x v H'
inductive DU(K:Frag)(a:ij)(vs:List V)(H:Hp)(Q:VK)(E:XK):Prop
 |mk:∀(t:Addr)(bs:Bytes)(p:Nat),vs=[.ref t,.int (p:Int)]->qT K H t bs->p<=bs.length->Run a.eX [] H (nX p (bs.drop p)) (okL a.fj H p (bs.drop p)) Q E->DU K a vs H Q E
def uC(T:Txt K mg a):gj P w K mg bz (PL a) 4 a.jK ["text","start"] (DU K a):=by
 refine jx T.BC zd ?_;rintro _ _ _ _ H _ _ _ _ hr ⟨t,bs,p,rfl,X,hp,R⟩
 refine⟨_,eW (fP 2 zd (gy (IC T) hr T.ox (jy (pv 0) (pv 1))))
  (eW (gi (gy (DS T) hr T.km (Ab (pv 0) (pv 1) (pv 2))))
  (kY (gy (DT T) hr T.ko (Ab (pv 0) (pv 1) (pv 2))))),Fg ?_⟩
 intros;rw[IE]at R;refine⟨_,rfl,_,rfl,t,bs,p,rfl,X,hp,Run.gk R .refl (λ_ h=>h) λx v H1 hx k1 _ mh R=>?_⟩;subst mh;obtain⟨hb,VA⟩:=Ml hx;have X1:=X.keep k1 (by simp);refine⟨_,rfl,_,rfl,_,rfl,t,bs,p,x.1,x.2,rfl,X1,hb,Run.gk R k1 (λ_ h=>h) λy v H2 hy k2 _ Hd R=>?_⟩
 have qW:Tilt.badByte true 0 x.1=none:=by
  unfold AH at hy;cases e:Tilt.badByte true 0 x.1 with
  |none=>rfl
  |some i=>rw[e]at hy;cases hy
 refine⟨_,rfl,_,rfl,_,rfl,t,bs,p,x.1,x.2,rfl,X.keep k2 (by simp),hb,VA,qW,λL H3 k3 f1 f2 f3 ls=>?_⟩
 have fr:∀z,H2 z=none->H z=none:=λz hz=>by
  cases q:H z with
  |none=>rfl
  |some o=>rw[k2.k z o q (by simp)]at hz;cases hz
 exact R _ _ (k2.trans k3) ⟨L,rfl,fr _ f1,fr _ f2,fr _ f3,ls,x.1,hb,rfl⟩
open MT (fX)
structure TA where
 p:Addr
 d:Fin 6->Addr
noncomputable def yi(A:TA)(m:fX):List (Str×V):=[("balls",.int (m.balls:Int)),("switches",.ref (A.d 0)),("lamps",.ref (A.d 1)),("coils",.ref (A.d 2)),("devices",.ref (A.d 3)),("kicks",.int (m.kicks:Int)),("held",.ref (A.d 4)),("serving",.ref (A.d 5)),
 ("drained",.int (m.drained:Int)),("rank",.int (m.rank:Int)),("last_place",.int m.last)]
noncomputable def dN(l:List (Bytes×Nat)):List (List Key×V):=l.map λx=>(x.1.map kB,.int (x.2:Int))
noncomputable def dB(l:List Bytes):List (List Key×V):=l.map λx=>(x.map kB,.bl true)
noncomputable def dk(m:fX):Fin 6->List (List Key×V)
 |0=>dN m.switches
 |1=>dN m.lamps
 |2=>dN m.coils
 |3=>dB m.devices
 |4=>dB m.held
 |5=>dB m.fI
structure fZ(C:Addr)(H:Hp)(A:TA)(m:fX)(n:Nat):Prop where
 ob:∃dx,H A.p=some (.ins C dx (yi A m))
 dt:∀i,H (A.d i)=some (.dT (dk m i))
 inj:∀i j,A.d i=A.d j->i=j
 bd:∀i,(dk m i).length<=n
def fZ.le(x:fZ C H A m n)(h:n<=k):fZ C H A m k:=⟨x.ob,x.dt,x.inj,λi=>a7 (x.bd i) h⟩
def fZ.keep(x:fZ C H A m n)(k:fb S H H')(h1:A.p∉S)(h2:∀i,A.d i∉S):fZ C H' A m n:=
 ⟨let⟨dx,e⟩:=x.ob;⟨dx,k.k _ _ e h1⟩,λi=>k.k _ _ (x.dt i) (h2 i),x.inj,x.bd⟩
def fZ.pd(x:fZ C H A m n)(i:Fin 6):A.d i≠A.p:=let⟨dx,e⟩:=x.ob;gK (x.dt i) e (by intro z;cases z)
section
variable{CT CL:Addr}{H:Hp}{A:TA}{m:fX}{n:Nat}{L:LA}{e pl:Nat}{rest:List Word}
def Vh(x:fZ CT H A m n)(y:fw CL H L e rest pl):A.p≠L.p:=by
 obtain⟨dx,h1⟩:=x.ob;obtain⟨_,_,h2,_,_,_,_,_,_,_,_,_,_,BY⟩:=y.kF;refine gK h1 h2 λz=>?_;injection z with _ _ z3;rw[<-z3]at BY;cases(show(none:Option V)=some _ from BY)
def Xq(x:fZ CT H A m n)(y:fw CL H L e rest pl)(i:Fin 6):A.d i≠L.p:=by
 obtain⟨_,_,h2,_⟩:=y.kF;exact gK (x.dt i) h2 (by intro z;cases z)
def TX(x:fZ CT H A m n)(y:fw CL H L e rest pl):L.wl≠A.p/\L.sl≠A.p:=by
 obtain⟨dx,h1⟩:=x.ob;obtain⟨_,_,_,_,_,h2,h3,_⟩:=y.ex;exact⟨gK h2 h1 (by intro z;cases z),gK h3 h1 (by intro z;cases z)⟩
def Xr(x:fZ CT H A m n)(y:fw CL H L e rest pl)(i:Fin 6):L.wl≠A.d i/\L.sl≠A.d i:=by
 obtain⟨_,_,_,_,_,h2,h3,_⟩:=y.ex;exact⟨gK h2 (x.dt i) (by intro z;cases z),gK h3 (x.dt i) (by intro z;cases z)⟩
def fZ.line(x:fZ CT H A m n)(y:fw CL H L e rest pl)(k:fb [L.p] H H'):fZ CT H' A m n:=
 x.keep k (by simpa using Vh x y) λi=>by simpa using Xq x y i
def fZ.Sx(x:fZ CT H A m n)(hd:dk m'=dk m):fZ CT (upd H A.p (.ins CT dx (yi A m'))) A m' n:=
 ⟨⟨dx,eV⟩,λi=>by rw[eY (x.pd i),hd];exact x.dt i,x.inj,λi=>by rw[hd];exact x.bd i⟩
def fw.yi{dx:Addr}{o:HO}(y:fw CL H L e rest pl)(x:fZ CT H A m n):fw CL (upd H A.p o) L e rest pl:=by
 obtain⟨dx,h1⟩:=x.ob;have w:=TX x y;exact y.keep (S:=[A.p]) (.put h1 (by simp) (by intro _ z;cases z)) (by simpa using(Vh x y).symm) (by simpa using w.1) (by simpa using w.2)
def fZ.Kr(x:fZ CT H A m n)(h1:yi A m'=yi A m)(h2:dk m' i=kvs)(h3:∀j,j≠i->dk m' j=dk m j)(h4:kvs.length<=n+1):fZ CT (upd H (A.d i) (.dT kvs)) A m' (n+1):=by
 obtain⟨dx,e⟩:=x.ob;refine⟨⟨dx,by rw[eY (aW (x.pd i)),h1];exact e⟩,λj=>?_,x.inj,λj=>?_⟩
 .by_cases z:j=i
  .subst z;rw[eV,h2]
  rw[eY λy=>z (x.inj _ _ y),h3 j z];exact x.dt j
 by_cases z:j=i
 .subst z;rw[h2];exact h4
 rw[h3 j z];exact Nat.le_succ_of_le (x.bd j)
def fw.Ks{i:Fin 6}{o:HO}(y:fw CL H L e rest pl)(x:fZ CT H A m n):fw CL (upd H (A.d i) o) L e rest pl:=by
 have w:=Xr x y i;exact y.keep (S:=[A.d i]) (.put (x.dt i) (by simp) (by intro _ z;cases z)) (by simpa using(Xq x y i).symm) (by simpa using w.1) (by simpa using w.2)
end
def Cn(l:List (Bytes×Nat)):(dN l).map (·.1)=(MT.nm l).map (·.map kB):=by unfold dN MT.nm;rw[cG,cG];rfl
def zN(l:List Bytes):(dB l).map (·.1)=l.map (·.map kB):=by unfold dB;rw[cG];rfl
theorem IF{kvs:List (List Key×V)}{ns:List Bytes}{w:Bytes}(h:kvs.map (·.1)=ns.map (·.map kB))(n:w∉ns):u9 kvs (w.map kB)=none:=by
 have:=AG (w:=w) h;rw[aV n]at this;cases e:u9 kvs (w.map kB)with
 |none=>rfl
 |some v=>rw[e]at this;cases this
def putN{l:List (Bytes×Nat)}{w:Bytes}{v:Nat}(n:w∉MT.nm l):putK (dN l) (w.map kB) (.int (v:Int))=dN (l++[(w,v)]):=by
 rw[Hv _ (IF (Cn l) n)];unfold dN;rw[aL];rfl
def Sy{w:Bytes}(n:w∉l):putK (dB l) (w.map kB) (.bl true)=dB (l++[w]):=by
 rw[Hv _ (IF (zN l) n)];unfold dB;rw[aL];rfl
theorem GD:∀{l:List (Bytes×Nat)}{w:Bytes},w∈MT.nm l->u9 (dN l) (w.map kB)=some (.int (MT.look l w:Int))
 |[],w,h=>by simp[MT.nm]at h
 |x::l,w,h=>by
  by_cases z:x.1=w
  .show u9 ((x.1.map kB,V.int (x.2:Int))::dN l) (w.map kB)=_;rw[yF (by show x.1.map kB=_;rw[z])];unfold MT.look;rw[c9,show(x.1==w)=true from by simpa using z];rfl
  show u9 ((x.1.map kB,V.int (x.2:Int))::dN l) (w.map kB)=_;rw[yG λy=>z (DM y)]
  have h':w∈MT.nm l:=by
   rcases aA.mp (show w∈x.1::MT.nm l from h)with y|y
   .exact absurd y.symm z
   exact y
  rw[GD h'];unfold MT.look;rw[c9,show(x.1==w)=false from by simpa using z]
inductive Mm(a:ij)(vs:List V)(H:Hp)(Q:VK)(E:XK):Prop
 |mk:∀(A:TA)(m:fX)(n:Nat)(L:LA)(e pl p:Nat)(rest:List Word),vs=[.ref A.p,.ref L.p,.int (p:Int)]->fZ a.fk H A m n->fw a.fj H L e rest pl->Run a.eX [A.p] H (kX m p pl) (λm' v H'=>v=.hJ/\fZ a.fk H' A m' n/\fw a.fj H' L e rest pl) Q E->Mm a vs H Q E
def v8(T:Txt K mg a):gj P w K mg bz (PL a) 3 a.jt ["table","line","place"] (Mm a):=by
 refine jx T.xC DA ?_;rintro _ _ _ _ _ _ _ _ _ hr ⟨A,m,n,L,e,pl,p,rest,rfl,X,Y,R⟩
 refine⟨_,eW (fS (fm EL (pv 2) (gI 0) (fv _))
   (ff (Av (fN T) hr rfl (jy (iy T.wB) (gI 1))))
   fB)
  (ff (fT (pv 0) (pv 2) rfl)),?_⟩
 obtain⟨dx,h1⟩:=X.ob;obtain⟨Q6,Uj,Hc,_,_,_,_,_,_,_,_,_,wU,_⟩:=Y.kF;unfold kX at R;refine⟨_,rfl,_,rfl,_,_,_,_,_,rfl,h1,T.fJ,T.jh,rfl,_,_,rfl,rfl,_,rfl,fH (λq=>?_) λq=>?_⟩
 .rw[ak (aj q)]at R;exact⟨_,rfl,_,_,_,_,_,rfl,Hc,T.fg,T.fK,wU,_,_,rfl,Run.raise R .refl⟩
 rw[ag (au q)]at R;exact⟨_,rfl,_,rfl,_,_,_,_,rfl,h1,T.fJ,T.jh,(show 11<1000 by decide),R _ _ (.put h1 (by simp) (by intro _ z;cases z)) ⟨rfl,X.Sx (m':={m with last:=(p:Int)}) rfl,Y.yi (dx:=dx) X⟩⟩
inductive TY(a:ij)(vs:List V)(H:Hp)(Q:VK)(E:XK):Prop
 |mk:∀(L:LA)(e pl:Nat)(rest:List Word)(d:Addr)(ns:List Bytes)(s:String),vs=[.ref L.p,.str (Str.ofString s),.ref d]->fw a.fj H L e rest pl->Kn H d ns->Sg s->Run a.eX [L.p] H (ua e (Tilt.ascii s) ns rest) (V5 a.fj L e) Q E->TY a vs H Q E
def tQ(T:Txt K mg a):gj P w K mg bz (PL a) 6 a.iX ["line","barred","known"] (TY a):=by
 refine jx T.uZ tE ?_;rintro _ _ _ _ H _ _ _ _ hr ⟨L,e,pl,rest,d,ns,s,rfl,X,kn,sg,R⟩;obtain⟨_,_,h1,_,_,_,_,_,l6,_⟩:=X.kF
 refine⟨_,eW (fP 3 tE (kT (pv 0) T.fg T.jZ (jj T) hr (iF (pv 2))))
  (eW (fS (fm (xU hr.units) (pv 3) (gy (oE T) hr T.jE (iF (pv 1))) (fv _))
   (ff (Av (fN T) hr rfl (jy (iy T.oN) (gI 0))))
   fB)
  (kY (pv 3))),Fg ?_⟩
 intros;refine⟨_,rfl,_,_,_,rfl,h1,l6,_,rfl,L,e,pl,rest,d,ns,rfl,X,kn,Run.step R .refl (λ_ h=>h) λx v H1 k1 mh R=>?_⟩;obtain⟨⟨t,rfl,ht⟩,hne,X1⟩:=mh;refine⟨_,rfl,_,rfl,s,rfl,sg,λu H2 k2 hu=>?_⟩;have X2:=X1.same k2;have k12:=k1.trans (k2.mono (by simp));obtain⟨_,_,Hc,_,_,_,_,_,_,_,_,_,wU,_⟩:=X2.kF;refine⟨_,_,JD (k2.t _ _ ht),JD hu,jq _,jq _,_,rfl,?_⟩;rw[Iw];refine fH (λq=>?_) (λq=>?_)
 .rw[ak (aj q)]at R;exact⟨_,rfl,_,_,_,_,_,rfl,Hc,T.fg,T.fK,wU,_,_,rfl,Run.raise R k12⟩
 rw[ag (au q)]at R;exact⟨_,rfl,R _ _ k12 ⟨⟨t,rfl,k2.t _ _ ht⟩,hne,X2⟩⟩
def AI(h:decide ((Str.ofString s).cps.size<=64/\((Str.ofString s).cps.toList.map λ(c:Nat)=>V.int (c:Int))=(Tilt.ascii s).map bV)=true):Sg s:=show _/\_ from aj h
inductive Mn(a:ij)(vs:List V)(H:Hp)(Q:VK)(E:XK):Prop
 |mk:∀(A:TA)(m:fX)(n:Nat)(L:LA)(e pl hi:Nat)(rest:List Word),vs=[.ref A.p,.ref L.p,.int (hi:Int)]->fZ a.fk H A m n->fw a.fj H L e rest pl->Run a.eX [L.p,A.p] H (vw e hi m rest) (λx v H'=>v=.int (x.1.1:Int)/\fZ a.fk H' A x.1.2 n/\∃pl',fw a.fj H' L e x.2 pl') Q E->Mn a vs H Q E
def sA(T:Txt K mg a):gj P w K mg bz (PL a) 5 a.jn ["table","line","most"] (Mn a):=by
 refine jx T.zE xk ?_;rintro _ _ _ _ _ _ _ _ _ hr ⟨A,m,n,L,e,pl,hi,rest,rfl,X,Y,R⟩
 refine⟨_,eW (gi (kT (pv 1) T.fg T.gH (fM T) hr (iF gY)))
  (eW (fP 3 xk (kT (pv 1) T.fg T.iw (gB T) hr (jy fA (pv 2))))
  (eW (gi (gy (v8 T) hr T.jt (Ab (pv 0) (pv 1) (pv 3))))
  (kY (pv 3)))),Kj ?_⟩
 intros;obtain⟨_,_,h1,_,_,_,l4,_⟩:=Y.kF;refine⟨_,rfl,_,_,_,rfl,h1,l4,L,e,pl,rest,"at",rfl,Y,AI (by decide+kernel),Run.gk R .refl (by simp) λx v H1 _ k1 j1 mh R=>?_⟩;obtain⟨rfl,Za,Y1⟩:=mh;have X1:=X.line Y j1;obtain⟨_,_,h1,_,_,_,_,l5,_⟩:=Y1.kF;refine⟨_,rfl,_,_,_,rfl,h1,l5,_,rfl,L,e,Za,0,hi,x,rfl,Y1,Run.gk R k1 (by simp) λy v H2 _ k2 j2 Hd R=>?_⟩;obtain⟨rfl,Y2⟩:=Hd;have X2:=X1.line Y1 j2;refine⟨_,rfl,_,rfl,_,rfl,A,m,n,L,e,y.1.2,y.1.1,y.2,rfl,X2,Y2,Run.gk R k2 (by simp) λm' v H3 _ k3 j3 Aa R=>?_⟩;obtain⟨rfl,X3,Y3⟩:=Aa;exact⟨_,rfl,R _ _ k3 ⟨rfl,X3,_,Y3⟩⟩
noncomputable def TS(L:LA)(A:TA):List Addr:=[L.p,A.p,A.d 0,A.d 1,A.d 2,A.d 3,A.d 4,A.d 5]
theorem Kt(L:LA)(A:TA):∀i:Fin 6,A.d i∈TS L A
 |0=>by simp[TS]
 |1=>by simp[TS]
 |2=>by simp[TS]
 |3=>by simp[TS]
 |4=>by simp[TS]
 |5=>by simp[TS]
def oF(k:fb [p] H Hj)(hp:Hj p=some o)(no:∀xs,o≠.tup xs)(hd:Hj d=none):
  fb [p] H (upd (upd Hj d (.dT [])) p o')/\(upd (upd Hj d (.dT [])) p o') d=some (.dT [])/\d≠p/\H d=none/\∀e u,Hj e=some u->e≠p->(upd (upd Hj d (.dT [])) p o') e=some u/\e≠d:=by
 have dp:=aW (ft hp hd);have pd:(upd Hj d (.dT [])) p=some o:=by rw[eY (aW dp)];exact hp
 refine⟨k.trans ((fb.new hd).trans (fb.put pd (by simp) no)),by rw[eY dp,eV],dp,?_,λe u he ne=>?_⟩
 .cases q:H d with
  |none=>rfl
  |some u=>rw[k.k d u q (by simpa using dp)]at hd;cases hd
 have ed:=ft he hd;exact⟨by rw[eY ne,eY ed];exact he,ed⟩
inductive Mo(a:ij)(vs:List V)(H:Hp)(Q:VK)(u1:XK):Prop
 |mk:∀(p dx:Addr)(b:Nat),vs=[.ref p,.int (b:Int)]->H p=some (.ins a.fk dx [])->(∀(A:TA)(H':Hp),A.p=p->fb [p] H H'->(∀i,H (A.d i)=none)->fZ a.fk H' A {balls:=b} 0->Q .hJ H')->Mo a vs H Q u1
def Qp(T:Txt K mg a):gj P w K mg bz (PL a) 1 a.oA ["self","balls"] (Mo a):=by
 refine jx T.tN zh ?_;rintro _ A _ _ H _ _ _ _ _ ⟨p,dx,b,rfl,hp,k⟩
 refine⟨_,eW (fT (pv 0) (pv 1) rfl)
  (eW (fT (pv 0) sQ rfl)
  (eW (fT (pv 0) sQ rfl)
  (eW (fT (pv 0) sQ rfl)
  (eW (fT (pv 0) sQ rfl)
  (eW (fT (pv 0) fA rfl)
  (eW (fT (pv 0) sQ rfl)
  (eW (fT (pv 0) sQ rfl)
  (eW (fT (pv 0) fA rfl)
  (eW (fT (pv 0) fA rfl)
  (ff (fT (pv 0) (yy tX fA) rfl))))))))))),Xi ?_⟩
 intros;have nt:∀{C dx fs},∀xs,HO.ins C dx fs≠.tup xs:=by intro _ _ _ _ z;cases z
 refine⟨_,rfl,_,rfl,p,a.fk,dx,_,rfl,hp,T.fJ,T.sk,(show 0<1000 by decide),?_⟩;have k0:fb [p] H (upd H p (.ins a.fk dx (gw "balls" (.int (b:Int)) []))):=.put hp (by simp) nt;refine λd0 h0=>⟨_,rfl,p,a.fk,dx,_,rfl,(eY (ft eV h0)).trans eV,T.fJ,T.ip,(show 1<1000 by decide),?_⟩;obtain⟨k1,e0,n0,f0,s0⟩:=oF (o':=.ins a.fk dx (gw "switches" (.ref d0) (gw "balls" (.int (b:Int)) []))) k0 eV nt h0;refine λd1 h1=>⟨_,rfl,p,a.fk,dx,_,rfl,(eY (ft eV h1)).trans eV,T.fJ,T.jv,(show 2<1000 by decide),?_⟩;obtain⟨k2,e1,n1,f1,s1⟩:=oF (o':=.ins a.fk dx (gw "lamps" (.ref d1) (gw "switches" (.ref d0) (gw "balls" (.int (b:Int)) [])))) k1 eV nt h1;obtain⟨e0,m01⟩:=s1 _ _ e0 n0;refine λd2 h2=>⟨_,rfl,p,a.fk,dx,_,rfl,(eY (ft eV h2)).trans eV,T.fJ,T.kD,(show 3<1000 by decide),?_⟩;obtain⟨k3,e2,n2,f2,s2⟩:=oF (o':=.ins a.fk dx (gw "coils" (.ref d2) (gw "lamps" (.ref d1) (gw "switches" (.ref d0) (gw "balls" (.int (b:Int)) []))))) k2 eV nt h2;obtain⟨e0,m02⟩:=s2 _ _ e0 n0;obtain⟨e1,m12⟩:=s2 _ _ e1 n1;refine λd3 h3=>⟨_,rfl,p,a.fk,dx,_,rfl,(eY (ft eV h3)).trans eV,T.fJ,T.j9,(show 4<1000 by decide),?_⟩;obtain⟨k4,e3,n3,f3,s3⟩:=oF (o':=.ins a.fk dx (gw "devices" (.ref d3) (gw "coils" (.ref d2) (gw "lamps" (.ref d1) (gw "switches" (.ref d0) (gw "balls" (.int (b:Int)) [])))))) k3 eV nt h3;obtain⟨e0,m03⟩:=s3 _ _ e0 n0;obtain⟨e1,m13⟩:=s3 _ _ e1 n1;obtain⟨e2,m23⟩:=s3 _ _ e2 n2;refine⟨_,rfl,p,a.fk,dx,_,rfl,eV,T.fJ,T.oP,(show 5<1000 by decide),?_⟩;rw[gn]
 obtain⟨k4,e3,n3,f3,s3⟩:=oF (o':=.ins a.fk dx (gw "kicks" (.int 0) (gw "devices" (.ref d3) (gw "coils" (.ref d2) (gw "lamps" (.ref d1) (gw "switches" (.ref d0) (gw "balls" (.int (b:Int)) []))))))) k3 eV nt h3;have up:∀{X:Hp}{d:Addr}{o1 o2:HO},d≠p->upd X p o1 d=some (HO.dT [])->upd X p o2 d=some (HO.dT []):=λn z=>by rw[eY n]at z⊢;exact z
 have e0:=up (o2:=.ins a.fk dx (gw "kicks" (.int 0) (gw "devices" (.ref d3) (gw "coils" (.ref d2) (gw "lamps" (.ref d1) (gw "switches" (.ref d0) (gw "balls" (.int (b:Int)) []))))))) n0 e0;have e1:=up (o2:=.ins a.fk dx (gw "kicks" (.int 0) (gw "devices" (.ref d3) (gw "coils" (.ref d2) (gw "lamps" (.ref d1) (gw "switches" (.ref d0) (gw "balls" (.int (b:Int)) []))))))) n1 e1;have e2:=up (o2:=.ins a.fk dx (gw "kicks" (.int 0) (gw "devices" (.ref d3) (gw "coils" (.ref d2) (gw "lamps" (.ref d1) (gw "switches" (.ref d0) (gw "balls" (.int (b:Int)) []))))))) n2 e2;refine λd4 h4=>⟨_,rfl,p,a.fk,dx,_,rfl,(eY (ft eV h4)).trans eV,T.fJ,T.nD,(show 6<1000 by decide),?_⟩;obtain⟨k5,e4,n4,f4,s4⟩:=oF (o':=.ins a.fk dx (gw "held" (.ref d4) (gw "kicks" (.int 0) (gw "devices" (.ref d3) (gw "coils" (.ref d2) (gw "lamps" (.ref d1) (gw "switches" (.ref d0) (gw "balls" (.int (b:Int)) [])))))))) k4 eV nt h4;obtain⟨e0,m04⟩:=s4 _ _ e0 n0;obtain⟨e1,m14⟩:=s4 _ _ e1 n1;obtain⟨e2,m24⟩:=s4 _ _ e2 n2;obtain⟨e3,m34⟩:=s4 _ _ e3 n3;refine λd5 h5=>⟨_,rfl,p,a.fk,dx,_,rfl,(eY (ft eV h5)).trans eV,T.fJ,T.ka,(show 7<1000 by decide),?_⟩;obtain⟨k6,e5,n5,f5,s5⟩:=oF (o':=.ins a.fk dx (gw "serving" (.ref d5) (gw "held" (.ref d4) (gw "kicks" (.int 0) (gw "devices" (.ref d3) (gw "coils" (.ref d2) (gw "lamps" (.ref d1) (gw "switches" (.ref d0) (gw "balls" (.int (b:Int)) []))))))))) k5 eV nt h5;obtain⟨e0,m05⟩:=s5 _ _ e0 n0;obtain⟨e1,m15⟩:=s5 _ _ e1 n1;obtain⟨e2,m25⟩:=s5 _ _ e2 n2;obtain⟨e3,m35⟩:=s5 _ _ e3 n3
 obtain⟨e4,m45⟩:=s5 _ _ e4 n4;refine⟨_,rfl,p,a.fk,dx,_,rfl,eV,T.fJ,T.me,(show 8<1000 by decide),?_⟩;refine⟨_,rfl,p,a.fk,dx,_,rfl,eV,T.fJ,T.lV,(show 9<1000 by decide),?_⟩;refine⟨_,rfl,_,rfl,p,a.fk,dx,_,rfl,eV,T.fJ,T.jh,(show 10<1000 by decide),?_⟩;rw[gn,gn,gn]
 let A:TA:=⟨p,λ|0=>d0|1=>d1|2=>d2|3=>d3|4=>d4|5=>d5⟩
 refine k A _ rfl ?_ (λi=>?_) ⟨⟨dx,eV⟩,λi=>?_,λi j h=>?_,λi=>?_⟩
 .refine⟨λb' o hb nb=>?_,λb' xs hb=>?_⟩
  .have n1:b'≠p:=by simpa using nb
   have:=k6.k b' o hb nb;rw[eY n1]at this⊢;exact this
  have n1:b'≠p:=gK hb hp (by intro z;cases z);have:=k6.t b' xs hb;rw[eY n1]at this⊢;exact this
 .match i with
  |0=>exact f0
  |1=>exact f1
  |2=>exact f2
  |3=>exact f3
  |4=>exact f4
  |5=>exact f5
 .match i with
  |0=>exact up n0 e0
  |1=>exact up n1 e1
  |2=>exact up n2 e2
  |3=>exact up n3 e3
  |4=>exact up n4 e4
  |5=>exact up n5 e5
 .revert h
  match i,j with
  |0,0=>exact λ_=>rfl
  |0,1=>exact λh=>absurd h m01
  |0,2=>exact λh=>absurd h m02
  |0,3=>exact λh=>absurd h m03
  |0,4=>exact λh=>absurd h m04
  |0,5=>exact λh=>absurd h m05
  |1,0=>exact λh=>absurd h.symm m01
  |1,1=>exact λ_=>rfl
  |1,2=>exact λh=>absurd h m12
  |1,3=>exact λh=>absurd h m13
  |1,4=>exact λh=>absurd h m14
  |1,5=>exact λh=>absurd h m15
  |2,0=>exact λh=>absurd h.symm m02
  |2,1=>exact λh=>absurd h.symm m12
  |2,2=>exact λ_=>rfl
  |2,3=>exact λh=>absurd h m23
  |2,4=>exact λh=>absurd h m24
  |2,5=>exact λh=>absurd h m25
  |3,0=>exact λh=>absurd h.symm m03
  |3,1=>exact λh=>absurd h.symm m13
  |3,2=>exact λh=>absurd h.symm m23
  |3,3=>exact λ_=>rfl
  |3,4=>exact λh=>absurd h m34
  |3,5=>exact λh=>absurd h m35
  |4,0=>exact λh=>absurd h.symm m04
  |4,1=>exact λh=>absurd h.symm m14
  |4,2=>exact λh=>absurd h.symm m24
  |4,3=>exact λh=>absurd h.symm m34
  |4,4=>exact λ_=>rfl
  |4,5=>exact λh=>absurd h m45
  |5,0=>exact λh=>absurd h.symm m05
  |5,1=>exact λh=>absurd h.symm m15
  |5,2=>exact λh=>absurd h.symm m25
  |5,3=>exact λh=>absurd h.symm m35
  |5,4=>exact λh=>absurd h.symm m45
  |5,5=>exact λ_=>rfl
 match i with
 |0=>exact bu _
 |1=>exact bu _
 |2=>exact bu _
 |3=>exact bu _
 |4=>exact bu _
 |5=>exact bu _
noncomputable abbrev Sz:Nat:=16000000
def yj:Sz<sizeLine:=by decide
theorem AJ(h:vv e ns l=.ok x):x.1.w∉ns:=by
 unfold vv at h;cases q:nW e l with
 |error f=>rw[q]at h;cases h
 |ok y=>
  rw[q]at h;have h':(if y.1.w∈ns then Except.error (Fault.mk 5 y.1.at_)else Except.ok y)=Except.ok x:=h;by_cases z:y.1.w∈ns
  .rw[ak z]at h';cases h'
  rw[ag z]at h';cases h';exact z
theorem Fx(h:ua e b ns l=.ok x):x.1.w∉ns:=by
 unfold ua at h;cases q:vv e ns l with
 |error f=>rw[q]at h;cases h
 |ok y=>
  rw[q]at h;have h':(if y.1.w=b then Except.error (Fault.mk 4 y.1.at_)else Except.ok y)=Except.ok x:=h;by_cases z:y.1.w=b
  .rw[ak z]at h';cases h'
  rw[ag z]at h';cases h';exact AJ q
theorem zO(h:iU e ns l=.ok x):x.1.w∈ns:=by
 unfold iU at h;cases q:nW e l with
 |error f=>rw[q]at h;cases h
 |ok y=>
  rw[q]at h;have h':(if y.1.w∈ns then Except.ok y else Except.error (Fault.mk 6 y.1.at_))=Except.ok x:=h;by_cases z:y.1.w∈ns
  .rw[ak z]at h';cases h';exact z
  rw[ag z]at h';cases h'
section
variable{CT CL:Addr}{H:Hp}{A:TA}{m:fX}{n:Nat}
def fZ.SA(x:fZ CT H A m n):Vg H (A.d 0) (MT.nm m.switches)/\Vg H (A.d 1) (MT.nm m.lamps)/\Vg H (A.d 2) (MT.nm m.coils)/\Vg H (A.d 3) m.devices:=
 ⟨⟨_,x.dt 0,Cn _⟩,⟨_,x.dt 1,Cn _⟩,⟨_,x.dt 2,Cn _⟩,⟨_,x.dt 3,zN _⟩⟩
def Vg.kn(x:Vg H d ns):Kn H d ns:=.inl x
end
inductive Qq(a:ij)(vs:List V)(H:Hp)(Q:VK)(E:XK):Prop
 |mk:∀(A:TA)(m:fX)(n:Nat)(L:LA)(e pl:Nat)(rest:List Word),vs=[.ref A.p,.ref L.p]->fZ a.fk H A m n->fw a.fj H L e rest pl->Run a.eX [L.p] H (sV e m rest) (V5 a.fj L e) Q E->Qq a vs H Q E
def rS(T:Txt K mg a):gj P w K mg bz (PL a) 6 a.iG ["table","line"] (Qq a):=by
 refine jx T.tO rC ?_;rintro _ _ _ _ _ _ _ _ _ hr ⟨A,m,n,L,e,pl,rest,rfl,X,Y,R⟩
 refine⟨_,eW (fP 2 rC (kT (pv 1) T.fg T.iT (iq T) hr (iF (gI 0))))
  (eW (fS (Cu (Ga (rf hr) (pv 2) (gI 0)))
   (ff (Av (fN T) hr rfl (jy (iy T.oB) (gI 1))))
   fB)
  (kY (pv 2))),Fg ?_⟩
 intros;obtain⟨dT,hT⟩:=X.ob;obtain⟨_,_,h1,_,_,_,_,_,_,l7,_⟩:=Y.kF;refine⟨_,rfl,_,_,_,rfl,h1,l7,_,rfl,_,_,_,_,_,rfl,hT,T.fJ,T.kD,rfl,L,e,pl,rest,A.d 2,MT.nm m.coils,rfl,Y,X.SA.2.2.1,Run.gk R .refl (λ_ h=>h) λx v H1 _ k1 j1 mh R=>?_⟩;obtain⟨⟨t,rfl,ht⟩,hne,Y1⟩:=mh;have X1:=X.line Y j1;obtain⟨dT,hT⟩:=X1.ob;obtain⟨_,_,h1,_,_,_,_,_,_,_,_,_,tT,_⟩:=Y1.kF;refine⟨_,rfl,_,rfl,_,_,_,_,_,rfl,hT,T.fJ,T.ka,rfl,A.d 5,_,rfl,vn.t (X1.dt 5) (by rw[qR];exact ht),_,rfl,?_⟩;rw[show dk m 5=dB m.fI from rfl,AG (zN m.fI)];refine fH (λq=>?_) (λq=>?_)
 .rw[ak (aj q)]at R;exact⟨_,rfl,_,_,_,_,_,rfl,h1,T.fg,T.fK,tT,_,_,rfl,Run.raise R k1⟩
 rw[ag (au q)]at R;exact⟨_,rfl,R _ _ k1 ⟨⟨t,rfl,ht⟩,hne,Y1⟩⟩
def B2(a:ij)(A:TA)(L:LA)(e n:Nat)(x:fX×List Word)(v:V)(H':Hp):Prop:=v=.hJ/\fZ a.fk H' A x.1 n/\∃pl,fw a.fj H' L e x.2 pl
inductive Qr(a:ij)(vs:List V)(H:Hp)(Q:VK)(E:XK):Prop
 |mk:∀(A:TA)(m:fX)(n:Nat)(L:LA)(e pl:Nat)(rest:List Word),vs=[.ref A.p,.ref L.p]->fZ a.fk H A m n->n<Sz->fw a.fj H L e rest pl->Run a.eX (TS L A) H (qf e m rest) (B2 a A L e (n+1)) Q E->Qr a vs H Q E
def v9(T:Txt K mg a):gj P w K mg bz (PL a) 6 a.ju ["table","line"] (Qr a):=by
 refine jx T.xG vI ?_;rintro _ _ _ _ _ _ _ _ _ hr ⟨A,m,n,L,e,pl,rest,rfl,X,hn,Y,R⟩
 refine⟨_,eW (fP 2 vI (kT (pv 1) T.fg T.iT (iq T) hr (iF (gI 0))))
  (eW (fS (Cu (Ga (rf hr) (pv 2) (gI 0)))
   (ff (Av (fN T) hr rfl (jy (iy T.oB) (gI 1))))
   fB)
  (ff (tY (rf hr) (gI 0) (pv 2) wV rfl))),Fg ?_⟩
 intros;obtain⟨dT,hT⟩:=X.ob;obtain⟨_,_,h1,_,_,_,_,_,_,l7,_⟩:=Y.kF;refine⟨_,rfl,_,_,_,rfl,h1,l7,_,rfl,_,_,_,_,_,rfl,hT,T.fJ,T.ip,rfl,L,e,pl,rest,A.d 0,MT.nm m.switches,rfl,Y,X.SA.1,Run.gk R .refl (by simp[TS]) λx v H1 _ k1 j1 mh R=>?_⟩;obtain⟨⟨t,rfl,ht⟩,hne,Y1⟩:=mh;have X1:=X.line Y j1;obtain⟨dT,hT⟩:=X1.ob;obtain⟨_,_,h1,_,_,_,_,_,_,_,_,_,tT,_⟩:=Y1.kF;refine⟨_,rfl,_,rfl,_,_,_,_,_,rfl,hT,T.fJ,T.nD,rfl,A.d 4,_,rfl,vn.t (X1.dt 4) (by rw[qR];exact ht),_,rfl,?_⟩;rw[show dk m 4=dB m.held from rfl,AG (zN m.held)];refine fH (λq=>?_) (λq=>?_)
 .rw[ak (aj q)]at R;exact⟨_,rfl,_,_,_,_,_,rfl,h1,T.fg,T.fK,tT,_,_,rfl,Run.raise R k1⟩
 have JE:=au q;rw[ag JE]at R;have bd4:=X1.bd 4;refine⟨_,rfl,_,_,_,_,_,rfl,hT,T.fJ,T.nD,rfl,_,rfl,A.d 4,_,rfl,CU.t (X1.dt 4) (by rw[qR];exact ht) (bQ bd4 (eS hn yj)),?_⟩;rw[show dk m 4=dB m.held from rfl,Sy JE];refine R _ _ (k1.trans (.put (X1.dt 4) (Kt L A 4) (by intro _ z;cases z))) ⟨rfl,X1.Kr rfl rfl (λj hj=>?_) ?_,_,Y1.Ks X1⟩
 .match j,hj with
  |0,_=>rfl
  |1,_=>rfl
  |2,_=>rfl
  |3,_=>rfl
  |5,_=>rfl
 have:(dB m.held).length<=n:=bd4;unfold dB at this⊢;rw[aw]at this⊢;rw[aq];simp;omega
inductive Qs(a:ij)(vs:List V)(H:Hp)(Q:VK)(E:XK):Prop
 |mk:∀(L:LA)(e pl:Nat)(rest:List Word),vs=[.ref L.p]->fw a.fj H L e rest pl->Run a.eX [L.p] H (C6 e rest) (λm v H'=>∃A:TA,v=.ref A.p/\H A.p=none/\(∀i,H (A.d i)=none)/\fZ a.fk H' A m 0/\∃r pl,fw a.fj H' L e r pl) Q E->Qs a vs H Q E
def GF(T:Txt K mg a):gj P w K mg bz (PL a) 5 a.mM ["line"] (Qs a):=by
 refine jx T.BI zj ?_;rintro _ A _ _ H _ _ _ _ hr ⟨L,e,pl,rest,rfl,Y,R⟩
 refine⟨_,eW (gi (kT (pv 0) T.fg T.gH (fM T) hr (iF gY)))
  (eW (gi (lW (pv 0) T.fg T.rN (nJ T) hr))
  (eW (gi (kT (pv 0) T.fg T.gH (fM T) hr (iF gY)))
  (eW (fP 1 zj (kT (pv 0) T.fg T.iw (gB T) hr (jy fA (iy T.zp))))
  (eW (gi (lW (pv 0) T.fg T.zx (qS T) hr))
  (kY (Gq T.Mc (Qp T) hr T.fk (iF (pv 1)))))))),ZU ?_⟩
 intros;obtain⟨_,_,h1,_,_,_,l4,_⟩:=Y.kF;refine⟨_,rfl,_,_,_,rfl,h1,l4,L,e,pl,rest,"table",rfl,Y,AI (by decide+kernel),Run.step R .refl (λ_ h=>h) λx v H1 k1 mh R=>?_⟩;obtain⟨rfl,Za,Y⟩:=mh;obtain⟨_,_,h1,_,_,l3,_⟩:=Y.kF;refine⟨_,rfl,_,_,_,rfl,h1,l3,L,e,Za,x,rfl,Y,Run.step R k1 (λ_ h=>h) λx v H1 k1 mh R=>?_⟩;obtain⟨⟨t,rfl,ht⟩,hne,Y⟩:=mh;obtain⟨_,_,h1,_,_,_,l4,_⟩:=Y.kF;refine⟨_,rfl,_,_,_,rfl,h1,l4,L,e,_,_,"balls",rfl,Y,AI (by decide+kernel),Run.step R k1 (λ_ h=>h) λx v H1 k1 mh R=>?_⟩;obtain⟨rfl,_,Y⟩:=mh;obtain⟨_,_,h1,_,_,_,_,l5,_⟩:=Y.kF;refine⟨_,rfl,_,_,_,rfl,h1,l5,L,e,_,1,8,_,rfl,Y,Run.step R k1 (λ_ h=>h) λx v H1 k1 mh R=>?_⟩;obtain⟨rfl,Y⟩:=mh;obtain⟨dx,_,h1,_,_,_,_,_,_,_,l8,_⟩:=Y.kF;refine⟨_,rfl,_,_,_,rfl,h1,l8,L,e,_,_,rfl,Y,Run.gk R k1 (by simp) λu v H1 _ k1 j1 mh R=>?_⟩;have h1:=j1.k _ _ h1 (by simp);have Y:=Y.same j1;refine⟨_,rfl,λp dx hp VB RA=>⟨p,dx,x.1.1,rfl,eV,λA H2 ep k2 fr st=>⟨rfl,?_⟩⟩⟩;subst ep;have k3:=((fb.new VB).trans (fb.new (by rw[eY (aW RA)];exact hp)) |>.trans k2).drop hp
 have fd:∀i,H1 (A.d i)=none:=λi=>by
  have z:=fr i;have n1:A.d i≠A.p:=λy=>by rw[y,eV]at z;cases z
  have n2:A.d i≠dx:=λy=>by rw[y,eY RA,eV]at z;cases z
  rw[eY n1,eY n2]at z;exact z
 have lp:∀z,H1 z=none->H z=none:=λz hz=>by
  cases q:H z with
  |none=>rfl
  |some o=>
   by_cases y:z=L.p
   .rw[y,h1]at hz;cases hz
   rw[k1.k z o q (by simpa using y)]at hz;cases hz
 exact R _ _ (k1.trans (k3.mono (by simp))) ⟨A,rfl,lp _ hp,λi=>lp _ (fd i),st,_,_,Y.same k3⟩
def SD(h:(!l.isEmpty)=true):¬l=[]:=by cases l with|nil=>cases h|cons=>simp
def Qt(h:(!l.isEmpty)=false):l=[]:=by cases l with|nil=>rfl|cons=>cases h
inductive IG(a:ij)(vs:List V)(H:Hp)(Q:VK)(E:XK):Prop
 |mk:∀(A:TA)(m:fX)(n:Nat)(L:LA)(e pl:Nat)(rest:List Word),vs=[.ref A.p,.ref L.p]->fZ a.fk H A m n->n<Sz->fw a.fj H L e rest pl->Run a.eX (TS L A) H (Cg e m rest) (B2 a A L e (n+1)) Q E->IG a vs H Q E
def DV(T:Txt K mg a):gj P w K mg bz (PL a) 7 a.ky ["table","line"] (IG a):=by
 refine jx T.xE qv ?_;rintro _ _ _ _ H _ Q E _ hr ⟨A,m,n,L,e,pl,rest,rfl,X,hn,Y,R⟩
 refine⟨_,eW (fP 2 qv (gy (tQ T) hr T.iX (Ab (pv 1) gY (gI 0))))
  (eW (fP 3 qv (gy (sA T) hr T.jn (Ab (pv 0) (pv 1) (iy T.uy))))
  (eW (gi (kT (pv 1) T.fg T.gH (fM T) hr (iF gY)))
  (eW (gi (kT (pv 1) T.fg T.iw (gB T) hr (jy fA (iy T.lX))))
  (eW (gi (kT (pv 1) T.fg T.gH (fM T) hr (iF gY)))
  (eW (gi (kT (pv 1) T.fg T.iw (gB T) hr (jy fA (iy T.lX))))
  (eW (fS (jd (lW (pv 1) T.fg T.iY (gF T) hr))
   (ya (kT (pv 1) T.fg T.gH (fM T) hr (iF gY)))
   fB)
  (ff (tY (rf hr) (gI 0) (pv 2) (pv 3) rfl)))))))),YK ?_⟩
 intros;obtain⟨dT,hT⟩:=X.ob;refine⟨_,rfl,_,rfl,_,_,_,_,_,rfl,hT,T.fJ,T.ip,rfl,L,e,pl,rest,A.d 0,MT.nm m.switches,"drain",rfl,Y,X.SA.1.kn,AI (by decide+kernel),Run.gk R .refl (by simp[TS]) λx v H1 hx k1 j1 mh R=>?_⟩;obtain⟨⟨t,rfl,ht⟩,hne,Y1⟩:=mh;have X1:=X.line Y j1;have JE:=Fx hx;refine⟨_,rfl,_,rfl,A,m,n,L,e,_,63,_,rfl,X1,Y1,Run.gk R k1 (by simp[TS]) λq v H2 hq k2 j2 Hd R=>?_⟩;obtain⟨rfl,X2,_,Y2⟩:=Hd;have ht:=j2.t _ _ ht;obtain⟨_,_,h1,_,_,_,l4,_⟩:=Y2.kF;refine⟨_,rfl,_,_,_,rfl,h1,l4,L,e,_,_,"close",rfl,Y2,AI (by decide+kernel),Run.gk R k2 (by simp[TS]) λy v H3 _ k3 j3 Aa R=>?_⟩;obtain⟨rfl,_,Y3⟩:=Aa;have X3:=X2.line Y2 j3;have ht:=j3.t _ _ ht;obtain⟨_,_,h1,_,_,_,_,l5,_⟩:=Y3.kF;refine⟨_,rfl,_,_,_,rfl,h1,l5,L,e,_,1,31,_,rfl,Y3,Run.gk R k3 (by simp[TS]) λc v H4 _ k4 j4 JF R=>?_⟩;obtain⟨rfl,Y4⟩:=JF;have X4:=X3.line Y3 j4;have ht:=j4.t _ _ ht;obtain⟨_,_,h1,_,_,_,l4,_⟩:=Y4.kF;refine⟨_,rfl,_,_,_,rfl,h1,l4,L,e,_,_,"open",rfl,Y4,AI (by decide+kernel),Run.gk R k4 (by simp[TS]) λy v H5 _ k5 j5 S9 R=>?_⟩;obtain⟨rfl,_,Y5⟩:=S9;have X5:=X4.line Y4 j5;have ht:=j5.t _ _ ht;obtain⟨_,_,h1,l1,_,l3,_,l5,_⟩:=Y5.kF;refine⟨_,rfl,_,_,_,rfl,h1,l5,L,e,_,1,31,_,rfl,Y5,Run.gk R k5 (by simp[TS]) λo v H6 _ k6 j6 VH R=>?_⟩;obtain⟨rfl,Y6⟩:=VH;have X6:=X5.line Y5 j6;have ht:=j6.t _ _ ht
 have em:∃ml,q.1.2={m with last:=ml}:=by
  unfold vw at hq;cases z1:Tilt.must e "at" x.2 with
  |error f=>rw[z1]at hq;cases hq
  |ok l1=>
   rw[z1]at hq;have Ju:(gU e 0 63 l1>>=_)=Except.ok q:=hq;cases z2:gU e 0 63 l1 with
   |error f=>rw[z2]at Ju;cases Ju
   |ok y=>
    rw[z2]at Ju;have OA:(kX m y.1.1 y.1.2>>=λm1=>pure ((y.1.1,m1),y.2))=Except.ok q:=Ju;unfold kX at OA;split at OA
    .cases OA
    cases OA;exact⟨_,rfl⟩
 obtain⟨ml,em⟩:=em;rw[em]at X6 R
 have fin:∀(H7:Hp)(l3:List Word)(pl7:Nat),fb (TS L A) H H7->fZ a.fk H7 A {m with last:=ml} n->fw a.fj H7 L e l3 pl7->H7 t=some (nU x.1.w)->
   Run a.eX (TS L A) H (pure ({m with last:=ml,switches:=m.switches++[(x.1.w,q.1.1)]},l3):Except Fault (fX×List Word)) (B2 a A L e (n+1)) Q E->
   AU (wK K (jk 0) "switches") (jk 2) (jk 3) {nx:=λ_ H'=>Q .hJ H',rt:=Q} [some (.ref A.p),some (.ref L.p),some (.ref t),some (.int (q.1.1:Int))] H7:=by
  intro H7 l3 pl7 k7 X7 Y7 ht R;obtain⟨dT,hT⟩:=X7.ob;have bd:=X7.bd 0;refine⟨_,rfl,_,rfl,_,_,_,_,_,rfl,hT,T.fJ,T.ip,rfl,_,rfl,A.d 0,_,rfl,CU.t (X7.dt 0) (by rw[qR];exact ht) (bQ bd (eS hn yj)),?_⟩;rw[show dk {m with last:=ml} 0=dN m.switches from rfl,putN JE];refine R _ _ (k7.trans (.put (X7.dt 0) (Kt L A 0) (by intro _ z;cases z))) ⟨rfl,X7.Kr rfl rfl (λj hj=>?_) ?_,_,Y7.Ks X7⟩
  .match j,hj with
   |1,_=>rfl
   |2,_=>rfl
   |3,_=>rfl
   |4,_=>rfl
   |5,_=>rfl
  have:(dN m.switches).length<=n:=bd;unfold dN at this⊢;rw[aw]at this⊢;rw[aq];simp;omega
 obtain⟨_,_,h1,l1,_,_,l4,_⟩:=Y6.kF;refine⟨_,rfl,_,_,_,rfl,h1,l1,L,e,_,_,rfl,Y6,_,rfl,fH (λz=>?_) λz=>?_⟩
 .rw[ag (SD z)]at R;refine⟨_,rfl,_,_,_,rfl,h1,l4,L,e,_,_,"turned",rfl,Y6,AI (by decide+kernel),Run.gk R k6 (by simp[TS]) λy v H7 _ k7 j7 Ow R=>?_⟩;obtain⟨rfl,pl7,Y7⟩:=Ow;exact fin H7 y pl7 k7 (X6.line Y6 j7) Y7 (j7.t _ _ ht) R
 rw[ak (Qt z)]at R;have Y6':=Y6;rw[Qt z]at Y6';exact fin H6 [] _ k6 X6 Y6' ht R
theorem DW(hq:vw e hi m l=.ok q):∃ml,q.1.2={m with last:=ml}:=by
 unfold vw at hq;cases z1:Tilt.must e "at" l with
 |error f=>rw[z1]at hq;cases hq
 |ok l1=>
  rw[z1]at hq;have Ju:(gU e 0 hi l1>>=_)=Except.ok q:=hq;cases z2:gU e 0 hi l1 with
  |error f=>rw[z2]at Ju;cases Ju
  |ok y=>
   rw[z2]at Ju;have OA:(kX m y.1.1 y.1.2>>=λm1=>pure ((y.1.1,m1),y.2))=Except.ok q:=Ju;unfold kX at OA;split at OA
   .cases OA
   cases OA;exact⟨_,rfl⟩
def Qu(h:(dN l).length<=n):(dN (l++[x])).length<=n+1:=by
 unfold dN at h⊢;rw[aw]at h⊢;rw[aq];simp;omega
def Ku(h:(dB l).length<=n):(dB (l++[x])).length<=n+1:=by
 unfold dB at h⊢;rw[aw]at h⊢;rw[aq];simp;omega
inductive Qv(a:ij)(vs:List V)(H:Hp)(Q:VK)(E:XK):Prop
 |mk:∀(A:TA)(m:fX)(n:Nat)(L:LA)(e pl:Nat)(rest:List Word),vs=[.ref A.p,.ref L.p]->fZ a.fk H A m n->n<Sz->fw a.fj H L e rest pl->Run a.eX (TS L A) H (Lz e m rest) (B2 a A L e (n+1)) Q E->Qv a vs H Q E
theorem GG(T:Txt K mg a):gj P w K mg bz (PL a) 7 a.mO ["table","line"] (Qv a):=by
 refine jx T.BJ zk ?_;rintro _ _ _ _ _ _ _ _ _ hr ⟨A,m,n,L,e,pl,rest,rfl,X,hn,Y,R⟩
 refine⟨_,eW (fP 2 zk (gy (tQ T) hr T.iX (Ab (pv 1) gY (gI 0))))
  (ff (tY (rf hr) (gI 0) (pv 2) (gy (sA T) hr T.jn (Ab (pv 0) (pv 1) (iy T.uy))) rfl)),?_⟩
 obtain⟨dT,hT⟩:=X.ob;refine⟨_,rfl,_,rfl,_,_,_,_,_,rfl,hT,T.fJ,T.jv,rfl,L,e,pl,rest,A.d 1,MT.nm m.lamps,"loop",rfl,Y,X.SA.2.1.kn,AI (by decide+kernel),Run.gk R .refl (by simp[TS]) λx v H1 hx k1 j1 mh R=>?_⟩;obtain⟨⟨t,rfl,ht⟩,hne,Y1⟩:=mh;have X1:=X.line Y j1;have JE:=Fx hx;refine⟨_,rfl,_,rfl,A,m,n,L,e,_,63,_,rfl,X1,Y1,Run.gk R k1 (by simp[TS]) λq v H2 hq k2 j2 Hd R=>?_⟩;obtain⟨rfl,X2,_,Y2⟩:=Hd;have ht:=j2.t _ _ ht;obtain⟨ml,em⟩:=DW hq;rw[em]at X2 R;obtain⟨dT,hT⟩:=X2.ob;have bd:=X2.bd 1;refine⟨_,rfl,_,_,_,_,_,rfl,hT,T.fJ,T.jv,rfl,_,rfl,A.d 1,_,rfl,CU.t (X2.dt 1) (by rw[qR];exact ht) (bQ bd (eS hn yj)),?_⟩;rw[show dk {m with last:=ml} 1=dN m.lamps from rfl,putN JE];refine R _ _ (k2.trans (.put (X2.dt 1) (Kt L A 1) (by intro _ z;cases z))) ⟨rfl,X2.Kr rfl rfl (λj hj=>?_) (Qu bd),_,Y2.Ks X2⟩
 match j,hj with
 |0,_=>rfl
 |2,_=>rfl
 |3,_=>rfl
 |4,_=>rfl
 |5,_=>rfl
inductive Qw(a:ij)(vs:List V)(H:Hp)(Q:VK)(E:XK):Prop
 |mk:∀(A:TA)(m:fX)(n:Nat)(L:LA)(e pl:Nat)(rest:List Word),vs=[.ref A.p,.ref L.p]->fZ a.fk H A m n->n<Sz->fw a.fj H L e rest pl->Run a.eX (TS L A) H (HR e m rest) (B2 a A L e (n+1)) Q E->Qw a vs H Q E
def GH(T:Txt K mg a):gj P w K mg bz (PL a) 6 a.mP ["table","line"] (Qw a):=by
 refine jx T.BK ug ?_;rintro _ _ _ _ H _ Q E _ hr ⟨A,m,n,L,e,pl,rest,rfl,X,hn,Y,R⟩
 refine⟨_,eW (fP 2 ug (kT (pv 1) T.fg T.jZ (jj T) hr (iF (gI 0))))
  (eW (gi (gy (sA T) hr T.jn (Ab (pv 0) (pv 1) (iy T.rH))))
  (eW (gi (kT (pv 1) T.fg T.gH (fM T) hr (iF gY)))
  (eW (fP 3 ug (kT (pv 1) T.fg T.iw (gB T) hr (jy fA (iy T.rJ))))
  (eW (gi (kT (pv 1) T.fg T.gH (fM T) hr (iF gY)))
  (eW (gi (kT (pv 1) T.fg T.iw (gB T) hr (jy fA (iy T.Br))))
  (eW (fS (jd (lW (pv 1) T.fg T.iY (gF T) hr))
   (eW (gi (kT (pv 1) T.fg T.gH (fM T) hr (iF gY)))
   (ya (kT (pv 1) T.fg T.iw (gB T) hr (jy fA (iy T.Bs)))))
   fB)
  (ff (tY (rf hr) (gI 0) (pv 2) (pv 3) rfl)))))))),YK ?_⟩
 intros;obtain⟨dT,hT⟩:=X.ob;obtain⟨_,_,h1,_,_,_,_,_,l6,_⟩:=Y.kF;refine⟨_,rfl,_,_,_,rfl,h1,l6,_,rfl,_,_,_,_,_,rfl,hT,T.fJ,T.kD,rfl,L,e,pl,rest,A.d 2,MT.nm m.coils,rfl,Y,X.SA.2.2.1.kn,Run.gk R .refl (by simp[TS]) λx v H1 hx k1 j1 mh R=>?_⟩;obtain⟨⟨t,rfl,ht⟩,hne,Y1⟩:=mh;have X1:=X.line Y j1;have JE:=AJ hx;refine⟨_,rfl,_,rfl,A,m,n,L,e,_,31,_,rfl,X1,Y1,Run.gk R k1 (by simp[TS]) λq v H2 hq k2 j2 Hd R=>?_⟩;obtain⟨rfl,X2,_,Y2⟩:=Hd;have ht:=j2.t _ _ ht;obtain⟨ml,em⟩:=DW hq;rw[em]at X2 R;obtain⟨_,_,h1,_,_,_,l4,_⟩:=Y2.kF;refine⟨_,rfl,_,_,_,rfl,h1,l4,L,e,_,_,"most",rfl,Y2,AI (by decide+kernel),Run.gk R k2 (by simp[TS]) λy v H3 _ k3 j3 Aa R=>?_⟩;obtain⟨rfl,_,Y3⟩:=Aa;have X3:=X2.line Y2 j3;have ht:=j3.t _ _ ht;obtain⟨_,_,h1,_,_,_,_,l5,_⟩:=Y3.kF;refine⟨_,rfl,_,_,_,rfl,h1,l5,L,e,_,1,1023,_,rfl,Y3,Run.gk R k3 (by simp[TS]) λc v H4 _ k4 j4 JF R=>?_⟩;obtain⟨rfl,Y4⟩:=JF;have X4:=X3.line Y3 j4;have ht:=j4.t _ _ ht;obtain⟨_,_,h1,_,_,_,l4,_⟩:=Y4.kF;refine⟨_,rfl,_,_,_,rfl,h1,l4,L,e,_,_,"rest",rfl,Y4,AI (by decide+kernel),Run.gk R k4 (by simp[TS]) λy v H5 _ k5 j5 S9 R=>?_⟩;obtain⟨rfl,_,Y5⟩:=S9;have X5:=X4.line Y4 j5;have ht:=j5.t _ _ ht;obtain⟨_,_,h1,_,_,l3,_,l5,_⟩:=Y5.kF;refine⟨_,rfl,_,_,_,rfl,h1,l5,L,e,_,1,4095,_,rfl,Y5,Run.gk R k5 (by simp[TS]) λo v H6 _ k6 j6 VH R=>?_⟩;obtain⟨rfl,Y6⟩:=VH;have X6:=X5.line Y5 j6;have ht:=j6.t _ _ ht
 have fin:∀(H7:Hp)(l3:List Word)(pl7:Nat),fb (TS L A) H H7->fZ a.fk H7 A {m with last:=ml} n->fw a.fj H7 L e l3 pl7->H7 t=some (nU x.1.w)->
   Run a.eX (TS L A) H (pure ({m with last:=ml,coils:=m.coils++[(x.1.w,c.1.1)]},l3):Except Fault (fX×List Word)) (B2 a A L e (n+1)) Q E->
   AU (wK K (jk 0) "coils") (jk 2) (jk 3) {nx:=λ_ H'=>Q .hJ H',rt:=Q} [some (.ref A.p),some (.ref L.p),some (.ref t),some (.int (c.1.1:Int))] H7:=by
  intro H7 l3 pl7 k7 X7 Y7 ht R;obtain⟨dT,hT⟩:=X7.ob;have bd:=X7.bd 2;refine⟨_,rfl,_,rfl,_,_,_,_,_,rfl,hT,T.fJ,T.kD,rfl,_,rfl,A.d 2,_,rfl,CU.t (X7.dt 2) (by rw[qR];exact ht) (bQ bd (eS hn yj)),?_⟩;rw[show dk {m with last:=ml} 2=dN m.coils from rfl,putN JE];refine R _ _ (k7.trans (.put (X7.dt 2) (Kt L A 2) (by intro _ z;cases z))) ⟨rfl,X7.Kr rfl rfl (λj hj=>?_) (Qu bd),_,Y7.Ks X7⟩
  match j,hj with
  |0,_=>rfl
  |1,_=>rfl
  |3,_=>rfl
  |4,_=>rfl
  |5,_=>rfl
 obtain⟨_,_,h1,l1,_,_,l4,_⟩:=Y6.kF;refine⟨_,rfl,_,_,_,rfl,h1,l1,L,e,_,_,rfl,Y6,_,rfl,fH (λz=>?_) λz=>?_⟩
 .rw[ag (SD z)]at R
  have R':Run a.eX (TS L A) H (Tilt.must e "hold" o.2>>=λl4=>gU e 1 15 l4>>=λh=>pure ({m with last:=ml,coils:=m.coils++[(x.1.w,c.1.1)]},h.2)) (B2 a A L e (n+1)) Q E:=by
   refine Eq.mp (aQ (λu=>Run a.eX (TS L A) H u (B2 a A L e (n+1)) Q E) ?_) R;cases Tilt.must e "hold" o.2 with
   |error f=>rfl
   |ok l4=>
    show((gU e 1 15 l4>>=_)>>=_)=(gU e 1 15 l4>>=_);cases gU e 1 15 l4<;>rfl
  refine⟨_,rfl,_,_,_,rfl,h1,l4,L,e,_,_,"hold",rfl,Y6,AI (by decide+kernel),Run.gk R' k6 (by simp[TS]) λy v H7 _ k7 j7 Ow R=>?_⟩;obtain⟨rfl,_,Y7⟩:=Ow;have X7:=X6.line Y6 j7;have ht:=j7.t _ _ ht;obtain⟨_,_,h1,_,_,_,_,l5,_⟩:=Y7.kF;refine⟨_,rfl,_,_,_,rfl,h1,l5,L,e,_,1,15,_,rfl,Y7,Run.gk R k7 (by simp[TS]) λh v H8 _ k8 j8 ok8 R=>?_⟩;obtain⟨rfl,Y8⟩:=ok8;exact fin H8 h.2 _ k8 (X7.line Y7 j8) Y8 (j8.t _ _ ht) R
 rw[ak (Qt z)]at R;have Y6':=Y6;rw[Qt z]at Y6';exact fin H6 [] _ k6 X6 Y6' ht R
section
variable{prog:Program}{w:World}{κ:Type}[DecidableEq κ](hk:HeapKind prog w κ){A:Around}{E:Value->Shared->Prop}{s:Shared}
def Od(x:Addr)(nm:(x==sysModules)=false):MeetsIn prog w (Builtin.«dict.__len__» ⟨[.ref x],[]⟩) (λ_ G s0=>∃ys:List (κ×Addr×Value),s0.heap.DictOfH hk x ys/\G (.ok (.ret (.int ys.length s0.toks))) {s0 with toks:=s0.toks+1}):=
 .of_wp λA0 G s0⟨ys,hy,q⟩=>by
  obtain⟨_,_,_,g1,_,g3,g4,_⟩:=hy;show wpAny _ _ (dictSize x>>=_) _ _ s0;unfold dictSize;refine af (af (dX g1 g3 (aB ?_)));refine af (wpAny_pendingCount_other nm ?_);refine wpAny_ret_mkInt ?_;rw[Nat.add_zero,size_of_entries g4];exact q
def ZY{x:Addr}(nm:(x==sysModules)=false)(hy:s.heap.DictOfH hk x ys)(fit:(ys.length:Int)<2^63)
  (q:Q (.int ys.length (s.toks+1)) {s with toks:=s.toks+1+1}):wpAny (model prog w) A (call (.builtin "len") [.ref x]) Q E s:=by
 refine Calls.call_function_entry kind_len plain_len entry_len (args_len1 _) ?_;refine af (aB ?_)
 refine af (bU hy.typeIs F.slot_dict_len
  (call_meetsIn F.slot_dict_len hy.typeIs F.entry_dict_len (F.args_dict_len_1 _) (Od hk x nm) ⟨ys,hy,?_⟩))
 refine af (b9 (aB ?_));refine af (wpAny_letGo ?_);rw[ag (by omega)];rw[ag (by omega)];exact af (wpAny_mkInt (aB ⟨_,rfl,q⟩))
end
def Kv:CA X (.builtin "len") (λxs H Q=>∃a kvs,xs=[V.ref a]/\H a=some (.dT kvs)/\Q (.int kvs.length) H):=by
 intro pins s σ H xs us Q I r h;obtain⟨d,kvs,rfl,hd,q⟩:=h;obtain⟨u,rfl,ru⟩:=vals1 r;cases ru;obtain⟨z,hn,ys,rel,dd⟩:=Tt I.gZ hd;have hl:=ee rel;refine ZY _ hn dd (by rw[<-hl];rw[sizeLine_eq]at z;omega) ?_;rw[<-hl];exact⟨.int kvs.length,H,I.tok _,⟨_,rfl⟩,q⟩
theorem Mp(h:qf e m l=.ok x):∃hs,x.1={m with held:=hs}:=by
 unfold qf at h;cases q:iU e (MT.nm m.switches) l with
 |error f=>rw[q]at h;cases h
 |ok y=>
  rw[q]at h;have h':(if y.1.w∈m.held then Except.error (Fault.mk 7 y.1.at_)else Except.ok ({m with held:=m.held++[y.1.w]},y.2))=Except.ok x:=h;split at h'
  .cases h'
  cases h';exact⟨_,rfl⟩
theorem DX(h:sV e m l=.ok x):x.1.w∉m.fI/\x.1.w∈MT.nm m.coils:=by
 unfold sV at h;cases q:iU e (MT.nm m.coils) l with
 |error f=>rw[q]at h;cases h
 |ok y=>
  rw[q]at h;have h':(if y.1.w∈m.fI then Except.error (Fault.mk 7 y.1.at_)else Except.ok y)=Except.ok x:=h;by_cases z:y.1.w∈m.fI
  .rw[ak z]at h';cases h'
  rw[ag z]at h';cases h';exact⟨z,zO q⟩
def IH(h:k=0\/l=[]\/∃w r,l=w::r/\w.w=DRAIN):jC e k m n l=pure ((m,n),l):=by
 rcases h with z|z|⟨w,r,z,y⟩
 .subst z;rfl
 .subst z;cases k<;>rfl
 subst z;cases k with
 |zero=>rfl
 |succ k=>show(if w.w=DRAIN then _ else _)=_;rw[ak y]
def Oe{w:Word}(h:w.w≠DRAIN):jC e (k+1) m n (w::r)=(qf e m (w::r)>>=λx=>jC e k x.1 (n+1) x.2):=by
 show(if w.w=DRAIN then _ else _)=_;rw[ag h]
inductive II(a:ij)(vs:List V)(H:Hp)(Q:VK)(E:XK):Prop
 |mk:∀(A:TA)(m:fX)(n:Nat)(L:LA)(e pl:Nat)(rest:List Word),vs=[.ref A.p,.ref L.p]->fZ a.fk H A m n->n+20<Sz->fw a.fj H L e rest pl->Run a.eX (TS L A) H (ub e pl m rest) (B2 a A L e (n+20)) Q E->II a vs H Q E
def DY(T:Txt K mg a):gj P w K mg bz (PL a) 7 a.kz ["table","line"] (II a):=by
 refine jx T.xH lh ?_;rintro _ _ _ _ H _ Q E _ hr ⟨A,m,n,L,e,pl,rest,rfl,X,hn,Y,R⟩
 refine⟨_,eW (fS (fm ig (CM Kv (by rfl) T.iA PySem.boot_len (iF (gI 0))) (iy T.vN) (fv _))
   (ff (Av (fN T) hr rfl (jy (iy T.iK) (gI 1))))
   fB)
  (eW (fP 2 lh (kT (pv 1) T.fg T.jZ (jj T) hr (iF (gI 0))))
  (eW (gi (kT (pv 1) T.fg T.gH (fM T) hr (iF gY)))
  (eW (fP 3 lh (gy (rS T) hr T.iG (jy (pv 0) (pv 1))))
  (eW (gi (kT (pv 1) T.fg T.gH (fM T) hr (iF gY)))
  (eW (gi (gy (v9 T) hr T.ju (jy (pv 0) (pv 1))))
  (eW (fP 4 lh fA)
  (eW (m6 aE (PW.pt (qc (fm pE (pv 4) (iy T.Bt) (fv _)) (qc (jd (lW (pv 1) T.fg T.iY (gF T) hr)) (qX (qe (jd (kT (pv 1) T.fg T.Kl (zM T) hr (iF gY))))))))
   (eW (gi (gy (v9 T) hr T.ju (jy (pv 0) (pv 1))))
   (ff (xQ (i:=4) lh.nd rfl (Or.inl rfl) fA Cw))))
  (eW (fS (jd (lW (pv 1) T.fg T.iY (gF T) hr))
   (eW (gi (kT (pv 1) T.fg T.gH (fM T) hr (iF gY)))
   (ff (sM (pv 0) (pv 4) CH)))
   fB)
  (eW (tY (rf hr) (gI 0) (pv 2) wV rfl)
  (ff (tY (rf hr) (gI 0) (pv 3) wV rfl))))))))))),Xi ?_⟩
 intros;obtain⟨dT,hT⟩:=X.ob;obtain⟨_,_,h1,_,_,_,_,_,l6,_,_,_,tT,_⟩:=Y.kF;have ld:(dk m 3).length=m.devices.length:=by show(dB m.devices).length=_;unfold dB;rw[aw]
 unfold ub at R;refine⟨_,rfl,_,_,_,_,_,rfl,hT,T.fJ,T.j9,rfl,A.d 3,_,rfl,X.dt 3,rfl,_,rfl,fH (λq=>?_) λq=>?_⟩
 .have q':((dk m 3).length:Int)=8:=V.int.inj (aj q);rw[ak (by omega)]at R;exact⟨_,rfl,_,_,_,_,_,rfl,h1,T.fg,T.fK,tT,_,_,rfl,Run.raise R .refl⟩
 have q':¬((dk m 3).length:Int)=8:=λz=>au q (aQ V.int z);rw[ag (by omega)]at R;refine⟨_,rfl,_,_,_,rfl,h1,l6,_,rfl,_,_,_,_,_,rfl,hT,T.fJ,T.j9,rfl,L,e,pl,rest,A.d 3,m.devices,rfl,Y,X.SA.2.2.2.kn,Run.gk R .refl (by simp[TS]) λx v H1 hx k1 j1 mh R=>?_⟩;obtain⟨⟨t,rfl,ht⟩,hne,Y1⟩:=mh;have X1:=X.line Y j1;have JE:=AJ hx;obtain⟨_,_,h1,_,_,_,l4,_⟩:=Y1.kF;refine⟨_,rfl,_,_,_,rfl,h1,l4,L,e,_,_,"by",rfl,Y1,AI (by decide+kernel),Run.gk R k1 (by simp[TS]) λy v H2 _ k2 j2 Hd R=>?_⟩;obtain⟨rfl,pl2,Y2⟩:=Hd;have X2:=X1.line Y1 j2;have ht:=j2.t _ _ ht;refine⟨_,rfl,_,rfl,A,m,n,L,e,_,_,rfl,X2,Y2,Run.gk R k2 (by simp[TS]) λc v H3 hc k3 j3 Aa R=>?_⟩;obtain⟨⟨u,rfl,hu⟩,aep,Y3⟩:=Aa;have X3:=X2.line Y2 j3;have ht:=j3.t _ _ ht;have nfr:=(DX hc).1;obtain⟨_,_,h1,_,_,l3,l4,_,_,l7,_⟩:=Y3.kF;refine⟨_,rfl,_,_,_,rfl,h1,l4,L,e,_,_,"holds",rfl,Y3,AI (by decide+kernel),Run.gk R k3 (by simp[TS]) λy v H4 _ k4 j4 JF R=>?_⟩;obtain⟨rfl,_,Y4⟩:=JF;have X4:=X3.line Y3 j4;have ht:=j4.t _ _ ht;have hu:=j4.t _ _ hu;refine⟨_,rfl,_,rfl,A,m,n,L,e,_,_,rfl,X4,by omega,Y4,Run.gk R k4 (λ_ h=>h) λx0 v H5 hx0 k5 j5 S9 R=>?_⟩;obtain⟨rfl,X5,pl5,Y5⟩:=S9;have ht:=j5.t _ _ ht;have hu:=j5.t _ _ hu;obtain⟨_,eh0⟩:=Mp hx0
 generalize hf:(λ(y:(fX×Nat)×List Word)=>((if y.2=[]then pure (y.1.1,[])else do
   let l3<-Tilt.must e "drain" y.2
   return ({y.1.1 with drained:=y.1.1.drained+y.1.2},l3)):Except Fault (fX×List Word))>>=λz=>(pure ({z.1 with devices:=z.1.devices++[x.1.w],fI:=z.1.fI++[c.1.w]},z.2):Except Fault (fX×List Word)))=f
 have R5:Run a.eX (TS L A) H (jC e 7 x0.1 1 x0.2>>=f) (B2 a A L e (n+20)) Q E:=by rw[<-hf];exact R
 clear R
 refine⟨λk σ H'=>∃(mj:fX)(j:Nat)(lj:List Word)(plj:Nat),j+k=8/\σ=[some (.ref A.p),some (.ref L.p),some (.ref t),some (.ref u),some (.int (j:Int))]/\fb (TS L A) H H'/\fZ a.fk H' A mj (n+j)/\fw a.fj H' L e lj plj/\H' t=some (nU x.1.w)/\H' u=some (nU c.1.w)/\mj.devices=m.devices/\mj.fI=m.fI/\
  Run a.eX (TS L A) H (jC e k mj j lj>>=f) (B2 a A L e (n+20)) Q E,⟨7,x0.1,1,x0.2,pl5,rfl,rfl,k5,X5,Y5,ht,hu,by rw[eh0],by rw[eh0],R5⟩,?_⟩
 rintro k σ H' ⟨mj,j,lj,_,_,rfl,kj,Xj,Yj,htj,huj,ed,es,Rj⟩
 have fin:∀H'',fb [] H' H''->(k=0\/lj=[]\/∃w r,lj=w::r/\w.w=DRAIN)->
   gP (OJ (tB (CK a.fj "has_more" (Ko a) [] E (jk 1) o8)) (gP (K2 (CK a.fj "take_mark" (Kp a) [] E (jk 1) (kL (tC (V.str "drain")) o8))) (FW K (jk 0) (jk 4) RN "drained")) Hh)
    (gP (AU (wK K (jk 0) "devices") (jk 2) (tC (V.bl true))) (AU (wK K (jk 0) "serving") (jk 3) (tC (V.bl true))))
    {nx:=λ_ H'=>Q .hJ H',rt:=Q} [some (.ref A.p),some (.ref L.p),some (.ref t),some (.ref u),some (.int (j:Int))] H'':=by
  intro H6 kk stop;have Y6:=Yj.same kk;have X6:=Xj.keep kk (by simp) (by simp);have ht:=kk.t _ _ htj;have hu:=kk.t _ _ huj;have k6:=kj.trans (kk.mono (by simp));rw[IH stop]at Rj;have R6:Run a.eX (TS L A) H (f ((mj,j),lj)) (B2 a A L e (n+20)) Q E:=Rj;rw[<-hf]at R6
  have put:∀(H7:Hp)(m7:fX)(l7:List Word)(pl7:Nat),fb (TS L A) H H7->fZ a.fk H7 A m7 (n+j)->fw a.fj H7 L e l7 pl7->H7 t=some (nU x.1.w)->H7 u=some (nU c.1.w)->m7.devices=m.devices->m7.fI=m.fI->
    Run a.eX (TS L A) H (pure ({m7 with devices:=m7.devices++[x.1.w],fI:=m7.fI++[c.1.w]},l7):Except Fault (fX×List Word)) (B2 a A L e (n+20)) Q E->
    gP (AU (wK K (jk 0) "devices") (jk 2) (tC (V.bl true))) (AU (wK K (jk 0) "serving") (jk 3) (tC (V.bl true))) {nx:=λ_ H'=>Q .hJ H',rt:=Q} [some (.ref A.p),some (.ref L.p),some (.ref t),some (.ref u),some (.int (j:Int))] H7:=by
   intro H7 m7 l7 pl7 k7 X7 Y7 ht hu e7 s7 R7;obtain⟨dT,hT⟩:=X7.ob;have bd:=X7.bd 3;refine⟨_,rfl,_,_,_,_,_,rfl,hT,T.fJ,T.j9,rfl,_,rfl,A.d 3,_,rfl,CU.t (k:=x.1.w.map kB) (X7.dt 3) (by rw[qR];exact ht) (bQ bd (eS (by omega) yj)),?_⟩;rw[show dk m7 3=dB m7.devices from rfl,Sy (by rw[e7];exact JE)]
   have X8:fZ a.fk (upd H7 (A.d 3) (.dT (dB (m7.devices++[x.1.w])))) A {m7 with devices:=m7.devices++[x.1.w]} (n+j+1):=X7.Kr rfl rfl (λi hi=>by
    match i,hi with
    |0,_=>rfl
    |1,_=>rfl
    |2,_=>rfl
    |4,_=>rfl
    |5,_=>rfl) (Ku bd)
   have Y8:fw a.fj (upd H7 (A.d 3) (.dT (dB (m7.devices++[x.1.w])))) L e l7 pl7:=Y7.Ks X7;have k8:fb (TS L A) H (upd H7 (A.d 3) (.dT (dB (m7.devices++[x.1.w])))):=k7.trans (.put (X7.dt 3) (Kt L A 3) (by intro _ z;cases z));have hu8:upd H7 (A.d 3) (.dT (dB (m7.devices++[x.1.w]))) u=some (nU c.1.w):=by rw[eY (gK hu (X7.dt 3) (by intro z;cases z))];exact hu
   obtain⟨dT,hT⟩:=X8.ob;have bd:=X8.bd 5;refine⟨_,rfl,_,_,_,_,_,rfl,hT,T.fJ,T.ka,rfl,_,rfl,A.d 5,_,rfl,CU.t (X8.dt 5) (by rw[qR];exact hu8) (bQ bd (eS (by omega) yj)),?_⟩;rw[show dk {m7 with devices:=m7.devices++[x.1.w]} 5=dB m7.fI from rfl,Sy (by rw[s7];exact nfr)]
   refine R7 _ _ (k8.trans (.put (X8.dt 5) (Kt L A 5) (by intro _ z;cases z))) ⟨rfl,(X8.Kr (i:=5) (m':={m7 with devices:=m7.devices++[x.1.w],fI:=m7.fI++[c.1.w]}) rfl rfl (λi hi=>by
    match i,hi with
    |0,_=>rfl
    |1,_=>rfl
    |2,_=>rfl
    |3,_=>rfl
    |4,_=>rfl
    |5,h=>exact absurd rfl h) (Ku bd)).le (by omega),_,Y8.Ks X8⟩
  obtain⟨dx,fs,h1,l1,l2,l3,l4,l5,l6,l7,l8,l9,tT,BY⟩:=Y6.kF;refine⟨_,rfl,_,_,_,rfl,h1,l1,L,e,_,_,rfl,Y6,_,rfl,fH (λz=>?_) λz=>?_⟩
  .have R7:Run a.eX (TS L A) H (Tilt.must e "drain" lj>>=λl3=>(pure ({mj with drained:=mj.drained+j,devices:=mj.devices++[x.1.w],fI:=mj.fI++[c.1.w]},l3):Except Fault (fX×List Word))) (B2 a A L e (n+20)) Q E:=by
    refine Eq.mp (aQ (λu=>Run a.eX (TS L A) H u (B2 a A L e (n+20)) Q E) ?_) R6;show((if lj=[]then _ else _)>>=_)=_;rw[ag (SD z)];cases Tilt.must e "drain" lj<;>rfl
   refine⟨_,rfl,_,_,_,rfl,h1,l4,L,e,_,_,"drain",rfl,Y6,AI (by decide+kernel),Run.gk (r1:=Tilt.must e "drain" lj) R7 k6 (by simp[TS]) λl7 v H7 _ k7 j7 Ow R=>?_⟩;obtain⟨rfl,pl7,Y7⟩:=Ow;have X7:=X6.line Y6 j7;obtain⟨dT,hT⟩:=X7.ob;refine⟨_,rfl,_,_,_,_,_,rfl,hT,T.fJ,T.me,rfl,_,rfl,_,_,rfl,rfl,_,_,hT,(show 11<1000 by decide),?_⟩
   have eF:gw "drained" (.int ((mj.drained:Int)+(j:Int))) (yi A mj)=yi A {mj with drained:=mj.drained+j}:=by
    have e9:((mj.drained+j:Nat):Int)=(mj.drained:Int)+(j:Int):=by omega
    simp only[yi];rw[e9];rfl
   rw[eF];exact put _ {mj with drained:=mj.drained+j} l7 pl7 (k7.trans (.put hT (by simp[TS]) (by intro _ z;cases z))) (X7.Sx rfl) (Y7.yi (dx:=dT) X7) (by rw[eY (gK (j7.t _ _ ht) hT (by intro z;cases z))];exact j7.t _ _ ht) (by rw[eY (gK (j7.t _ _ hu) hT (by intro z;cases z))];exact j7.t _ _ hu) ed es R
  have R7:Run a.eX (TS L A) H (pure ({mj with devices:=mj.devices++[x.1.w],fI:=mj.fI++[c.1.w]},[]):Except Fault (fX×List Word)) (B2 a A L e (n+20)) Q E:=by
   refine Eq.mp (aQ (λu=>Run a.eX (TS L A) H u (B2 a A L e (n+20)) Q E) ?_) R6;show((if lj=[]then _ else _)>>=_)=_;rw[ak (Qt z)];rfl
  have Y6':=Y6;rw[Qt z]at Y6';exact put H6 mj [] _ k6 X6 Y6' ht hu ed es R7
 obtain⟨_,_,h1,l1,l2,_,_,_,_,_,_,l9,_⟩:=Yj.kF;refine⟨_,rfl,_,_,rfl,rfl,_,rfl,fH (λq=>?_) λq=>?_⟩
 .have q':=aj q;refine⟨_,rfl,_,_,_,rfl,h1,l1,L,e,_,_,rfl,Yj,_,rfl,fH (λz=>?_) λz=>?_⟩
  .obtain⟨wd,r,Yf⟩:∃wd r,lj=wd::r:=by
    cases lj with
    |nil=>cases z
    |cons wd r=>exact⟨wd,r,rfl⟩
   subst Yf;refine⟨_,rfl,_,_,_,rfl,h1,l9,L,e,_,_,"drain",rfl,Yj,AI (by decide+kernel),λH6 kk=>⟨_,rfl,fH (λy=>?_) λy=>?_⟩⟩
   .have nd:wd.w≠DRAIN:=λy2=>by
     have y3:Iz "drain" (wd::r)=true:=by show decide (wd.w=Tilt.ascii "drain")=true;rw[show wd.w=Tilt.ascii "drain" from y2];simp
     rw[y3]at y;cases y
    obtain⟨k',S6⟩:∃k',k=k'+1:=⟨k - 1,by omega⟩;subst S6;rw[Oe nd]at Rj
    have Rj':Run a.eX (TS L A) H (qf e mj (wd::r)>>=λx=>jC e k' x.1 (j+1) x.2>>=f) (B2 a A L e (n+20)) Q E:=by
     refine Eq.mp (aQ (λu=>Run a.eX (TS L A) H u (B2 a A L e (n+20)) Q E) ?_) Rj;cases qf e mj (wd::r)<;>rfl
    refine⟨λσ' H''=>∃(m2:fX)(l2:List Word)(pl2:Nat),σ'=[some (.ref A.p),some (.ref L.p),some (.ref t),some (.ref u),some (.int ((j+1:Nat):Int))]/\fb (TS L A) H H''/\fZ a.fk H'' A m2 (n+(j+1))/\fw a.fj H'' L e l2 pl2/\H'' t=some (nU x.1.w)/\H'' u=some (nU c.1.w)/\m2.devices=m.devices/\m2.fI=m.fI/\Run a.eX (TS L A) H (jC e k' m2 (j+1) l2>>=f) (B2 a A L e (n+20)) Q E,
     λσ' H''⟨m2,l2,pl2,z1,z2,z3,z4,z5,z6,z7,z8,z9⟩=>⟨k',by omega,m2,j+1,l2,pl2,by omega,z1,z2,z3,z4,z5,z6,z7,z8,z9⟩,?_⟩
    refine⟨_,rfl,_,rfl,A,mj,n+j,L,e,_,_,rfl,Xj.keep kk (by simp) (by simp),by omega,Yj.same kk,Run.gk Rj' (kj.trans (kk.mono (by simp))) (λ_ h=>h) λx2 v H7 hx2 k7 j7 Ow R=>?_⟩;obtain⟨rfl,X7,pl7,Y7⟩:=Ow;obtain⟨_,eh2⟩:=Mp hx2;exact⟨_,rfl,_,_,rfl,rfl,x2.1,x2.2,pl7,rfl,k7,X7,Y7,j7.t _ _ (kk.t _ _ htj),j7.t _ _ (kk.t _ _ huj),by rw[eh2];exact ed,by rw[eh2];exact es,R⟩
   have y3:Iz "drain" (wd::r)=true:=by simpa using y
   exact fin H6 kk (.inr (.inr ⟨wd,r,rfl,aj y3⟩))
  exact fin H' .refl (.inr (.inl (Qt z)))
 have q':¬(j:Int)<8:=au q;exact fin H' .refl (.inl (by omega))
noncomputable def V7(e:Nat)(m:fX)(l:List Word):Except Fault ((Word×fX)×List Word):=do
 let s<-iU e (MT.nm m.switches) l
 let m1<-kX m (MT.look m.switches s.1.w) s.1.at_
 if s.1.w∈m1.held then .error ⟨7,s.1.at_⟩else return ((s.1,m1),s.2)
def Qx(e a:Nat)(m:fX)(l:List Word):AW e a m l=if m.kicks=8 then .error ⟨3,a⟩else V7 e m l>>=λs=>sV e s.1.2 s.2>>=λc=>Tilt.must e "for" c.2>>=λl1=>gU e 1 255 l1>>=λt=>
  if MT.look s.1.2.coils c.1.w<t.1.1 then .error ⟨7,t.1.2⟩else(if t.2=[]then pure []else Tilt.must e "till" t.2>>=λl3=>iU e (MT.nm s.1.2.switches) l3>>=λu=>if u.1.w=s.1.1.w then .error ⟨7,u.1.at_⟩else pure u.2)>>=λl2=>
   pure ({s.1.2 with fI:=s.1.2.fI++[c.1.w],kicks:=s.1.2.kicks+1},l2):=by
 unfold AW V7;split
 .rfl
 cases iU e (MT.nm m.switches) l with
 |error f=>rfl
 |ok s=>
  show(kX m _ _>>=_)=((kX m _ _>>=_)>>=_);cases kX m (MT.look m.switches s.1.w) s.1.at_ with
  |error f=>rfl
  |ok m1=>
   show(((if s.1.w∈m1.held then Except.error (Fault.mk 7 s.1.at_)else pure ()):Except Fault Unit)>>=_)=(((if s.1.w∈m1.held then Except.error (Fault.mk 7 s.1.at_)else pure ((s.1,m1),s.2)):Except Fault ((Word×fX)×List Word))>>=_);by_cases q:s.1.w∈m1.held
   .rw[ak q,ak q];rfl
   rw[ag q,ag q];show(sV e m1 s.2>>=_)=(sV e m1 s.2>>=_);cases sV e m1 s.2 with
   |error f=>rfl
   |ok c=>
    show(Tilt.must e "for" c.2>>=_)=(Tilt.must e "for" c.2>>=_);cases Tilt.must e "for" c.2 with
    |error f=>rfl
    |ok l1=>
     show(gU e 1 255 l1>>=_)=(gU e 1 255 l1>>=_);cases gU e 1 255 l1 with
     |error f=>rfl
     |ok t=>
      show(((if MT.look m1.coils c.1.w<t.1.1 then Except.error (Fault.mk 7 t.1.2)else pure ()):Except Fault Unit)>>=_)=(if MT.look m1.coils c.1.w<t.1.1 then _ else _);by_cases q2:MT.look m1.coils c.1.w<t.1.1
      .rw[ak q2,ak q2];rfl
      rw[ag q2,ag q2];rfl
theorem Xs(h:V7 e m l=.ok x):∃ml,x.1.2={m with last:=ml}:=by
 unfold V7 at h;cases q:iU e (MT.nm m.switches) l with
 |error f=>rw[q]at h;cases h
 |ok s=>
  rw[q]at h;have h':(kX m (MT.look m.switches s.1.w) s.1.at_>>=_)=Except.ok x:=h;unfold kX at h';split at h'
  .cases h'
  have h2:(if s.1.w∈m.held then Except.error (Fault.mk 7 s.1.at_)else Except.ok ((s.1,{m with last:=(MT.look m.switches s.1.w:Int)}),s.2))=Except.ok x:=h';split at h2
  .cases h2
  cases h2;exact⟨_,rfl⟩
inductive Xt(a:ij)(vs:List V)(H:Hp)(Q:VK)(E:XK):Prop
 |mk:∀(A:TA)(m:fX)(n:Nat)(L:LA)(e pl:Nat)(rest:List Word),vs=[.ref A.p,.ref L.p]->fZ a.fk H A m n->fw a.fj H L e rest pl->Run a.eX [L.p,A.p] H (V7 e m rest) (λx v H'=>(∃t,v=.ref t/\H' t=some (nU x.1.1.w))/\fZ a.fk H' A x.1.2 n/\∃pl,fw a.fj H' L e x.2 pl) Q E->Xt a vs H Q E
def wO(T:Txt K mg a):gj P w K mg bz (PL a) 6 a.iH ["table","line"] (Xt a):=by
 refine jx T.qL pH ?_;rintro _ _ _ _ _ _ _ _ _ hr ⟨A,m,n,L,e,pl,rest,rfl,X,Y,R⟩
 refine⟨_,eW (fP 2 pH (kT (pv 1) T.fg T.iT (iq T) hr (iF (gI 0))))
  (eW (gi (gy (v8 T) hr T.jt (Ab (pv 0) (pv 1) (F9 (rf hr) (gI 0) (pv 2) λ_ _=>rfl))))
  (eW (fS (Cu (Ga (rf hr) (pv 2) (gI 0)))
   (ff (Av (fN T) hr rfl (jy (iy T.oB) (gI 1))))
   fB)
  (kY (pv 2)))),Kj ?_⟩
 intros;obtain⟨dT,hT⟩:=X.ob;obtain⟨_,_,h1,_,_,_,_,_,_,l7,_⟩:=Y.kF;refine⟨_,rfl,_,_,_,rfl,h1,l7,_,rfl,_,_,_,_,_,rfl,hT,T.fJ,T.ip,rfl,L,e,pl,rest,A.d 0,MT.nm m.switches,rfl,Y,X.SA.1,Run.gk R .refl (by simp) λx v H1 hx k1 j1 mh R=>?_⟩;obtain⟨⟨t,rfl,ht⟩,hne,Y1⟩:=mh;have X1:=X.line Y j1;obtain⟨dT,hT⟩:=X1.ob;have hin:=zO hx;refine⟨_,rfl,_,rfl,_,rfl,_,_,_,_,_,rfl,hT,T.fJ,T.ip,rfl,_,rfl,A.d 0,.int (MT.look m.switches x.1.w:Int),rfl,?_,A,m,n,L,e,x.1.at_,MT.look m.switches x.1.w,x.2,rfl,X1,Y1,Run.gk R k1 (by simp) λm1 v H2 Zb k2 j2 Hd R=>?_⟩
 .have g:=vn.t (X1.dt 0) (by rw[qR];exact ht);rw[show dk m 0=dN m.switches from rfl,GD hin]at g;exact g
 obtain⟨rfl,X2,Y2⟩:=Hd;have ht:=j2.t _ _ ht;obtain⟨dT,hT⟩:=X2.ob;obtain⟨_,_,h1,_,_,_,_,_,_,_,_,_,tT,_⟩:=Y2.kF;refine⟨_,rfl,_,rfl,_,_,_,_,_,rfl,hT,T.fJ,T.nD,rfl,A.d 4,_,rfl,vn.t (X2.dt 4) (by rw[qR];exact ht),_,rfl,?_⟩;rw[show dk m1 4=dB m1.held from rfl,AG (zN m1.held)];refine fH (λq=>?_) (λq=>?_)
 .rw[ak (aj q)]at R;exact⟨_,rfl,_,_,_,_,_,rfl,h1,T.fg,T.fK,tT,_,_,rfl,Run.raise R k2⟩
 rw[ag (au q)]at R;exact⟨_,rfl,R _ _ k2 ⟨⟨t,rfl,ht⟩,X2,_,Y2⟩⟩
inductive Qy(a:ij)(vs:List V)(H:Hp)(Q:VK)(E:XK):Prop
 |mk:∀(A:TA)(m:fX)(n:Nat)(L:LA)(e pl:Nat)(rest:List Word),vs=[.ref A.p,.ref L.p]->fZ a.fk H A m n->n+20<Sz->fw a.fj H L e rest pl->Run a.eX (TS L A) H (AW e pl m rest) (B2 a A L e (n+20)) Q E->Qy a vs H Q E
def GI(T:Txt K mg a):gj P w K mg bz (PL a) 7 a.mQ ["table","line"] (Qy a):=by
 refine jx T.BL uh ?_;rintro _ _ _ _ H _ Q E _ hr ⟨A,m,n,L,e,pl,rest,rfl,X,hn,Y,R⟩
 refine⟨_,eW (fS (fm ig (gI 0) (iy T.zq) (fv _))
   (ff (Av (fN T) hr rfl (jy (iy T.iK) (gI 1))))
   fB)
  (eW (fP 2 uh (gy (wO T) hr T.iH (jy (pv 0) (pv 1))))
  (eW (fP 3 uh (gy (rS T) hr T.iG (jy (pv 0) (pv 1))))
  (eW (gi (kT (pv 1) T.fg T.gH (fM T) hr (iF gY)))
  (eW (fS (fm ve (kT (pv 1) T.fg T.iw (gB T) hr (jy fA (iy T.rK))) (F9 (rf hr) (gI 0) (pv 3) λ_ _=>rfl) (fv _))
   (ff (Av (fN T) hr rfl (jy (iy T.oB) (gI 1))))
   fB)
  (eW (fS (jd (lW (pv 1) T.fg T.iY (gF T) hr))
   (eW (gi (kT (pv 1) T.fg T.gH (fM T) hr (iF gY)))
   (ff (fS (fm (xU hr.units) (kT (pv 1) T.fg T.iT (iq T) hr (iF (gI 0))) (pv 2) (fv _))
    (ff (Av (fN T) hr rfl (jy (iy T.oB) (gI 1))))
    fB)))
   fB)
  (eW (tY (rf hr) (gI 0) (pv 3) wV rfl)
  (ff (sM (pv 0) fA CH)))))))),YK ?_⟩
 intros;obtain⟨dT,hT⟩:=X.ob;obtain⟨dx,fs,h1,l1,l2,l3,l4,l5,l6,l7,l8,l9,tT,BY⟩:=Y.kF;rw[Qx]at R;refine⟨_,rfl,_,_,_,_,_,rfl,hT,T.fJ,T.oP,rfl,rfl,_,rfl,fH (λq=>?_) λq=>?_⟩
 .have q':(m.kicks:Int)=8:=V.int.inj (aj q);rw[ak (by omega)]at R;exact⟨_,rfl,_,_,_,_,_,rfl,h1,T.fg,T.fK,tT,_,_,rfl,Run.raise R .refl⟩
 have q':¬(m.kicks:Int)=8:=λz=>au q (aQ V.int z);rw[ag (by omega)]at R;refine⟨_,rfl,_,rfl,A,m,n,L,e,pl,rest,rfl,X,Y,Run.gk (r1:=V7 e m rest) R .refl (by simp[TS]) λx v H1 hx k1 j1 mh R=>?_⟩;obtain⟨⟨t,rfl,ht⟩,X1,Za,Y1⟩:=mh;obtain⟨ml,em⟩:=Xs hx;rw[em]at X1 R;refine⟨_,rfl,_,rfl,A,_,n,L,e,_,_,rfl,X1,Y1,Run.gk (r1:=sV e {m with last:=ml} x.2) R k1 (by simp[TS]) λc v H2 hc k2 j2 Hd R=>?_⟩;obtain⟨⟨u,rfl,hu⟩,aer,Y2⟩:=Hd;have X2:=X1.line Y1 j2;have ht:=j2.t _ _ ht;obtain⟨nfr,cin⟩:=DX hc;obtain⟨dx,fs,h1,l1,l2,l3,l4,l5,l6,l7,l8,l9,tT,BY⟩:=Y2.kF;refine⟨_,rfl,_,_,_,rfl,h1,l4,L,e,_,_,"for",rfl,Y2,AI (by decide+kernel),Run.gk (r1:=Tilt.must e "for" c.2) R k2 (by simp[TS]) λy v H3 _ k3 j3 Aa R=>?_⟩;obtain⟨rfl,pl3,Y3⟩:=Aa;have X3:=X2.line Y2 j3;have ht:=j3.t _ _ ht;have hu:=j3.t _ _ hu;obtain⟨dx,fs,h1,l1,l2,l3,l4,l5,l6,l7,l8,l9,tT,BY⟩:=Y3.kF;refine⟨_,rfl,_,_,_,rfl,h1,l5,L,e,_,1,255,_,rfl,Y3,Run.gk (r1:=gU e 1 255 y) R k3 (by simp[TS]) λtt v H4 _ k4 j4 JF R=>?_⟩;obtain⟨rfl,Y4⟩:=JF;have X4:=X3.line Y3 j4;have ht:=j4.t _ _ ht;have hu:=j4.t _ _ hu;obtain⟨dT,hT⟩:=X4.ob;obtain⟨dx,fs,h1,l1,l2,l3,l4,l5,l6,l7,l8,l9,tT,BY⟩:=Y4.kF;refine⟨_,rfl,_,_,_,_,_,rfl,hT,T.fJ,T.kD,rfl,_,rfl,A.d 2,.int (MT.look m.coils c.1.w:Int),rfl,?_,_,_,rfl,rfl,_,rfl,fH (λq2=>?_) λq2=>?_⟩
 .have g:=vn.t (k:=c.1.w.map kB) (X4.dt 2) (by rw[qR];exact hu);rw[show dk {m with last:=ml} 2=dN m.coils from rfl,GD cin]at g;exact g
 .have Ye:=aj q2;rw[ak (by show MT.look m.coils c.1.w<tt.1.1;omega)]at R;exact⟨_,rfl,_,_,_,_,_,rfl,h1,T.fg,T.fK,tT,_,_,rfl,Run.raise R k4⟩
 have Ye:=au q2;rw[ag (by show¬MT.look m.coils c.1.w<tt.1.1;omega)]at R
 have fin:∀(H7:Hp)(l7:List Word)(pl7:Nat),fb (TS L A) H H7->fZ a.fk H7 A {m with last:=ml} n->fw a.fj H7 L e l7 pl7->H7 u=some (nU c.1.w)->
   Run a.eX (TS L A) H (pure ({m with last:=ml,fI:=m.fI++[c.1.w],kicks:=m.kicks+1},l7):Except Fault (fX×List Word)) (B2 a A L e (n+20)) Q E->
   gP (AU (wK K (jk 0) "serving") (jk 3) (tC (V.bl true))) (FW K (jk 0) (tC (V.int 1)) RN "kicks") {nx:=λ_ H'=>Q .hJ H',rt:=Q} [some (.ref A.p),some (.ref L.p),some (.ref t),some (.ref u)] H7:=by
  intro H7 l7 pl7 k7 X7 Y7 hu R;obtain⟨dT,hT⟩:=X7.ob;have bd:=X7.bd 5;refine⟨_,rfl,_,_,_,_,_,rfl,hT,T.fJ,T.ka,rfl,_,rfl,A.d 5,_,rfl,CU.t (k:=c.1.w.map kB) (X7.dt 5) (by rw[qR];exact hu) (bQ bd (eS (by omega) yj)),?_⟩;rw[show dk {m with last:=ml} 5=dB m.fI from rfl,Sy nfr]
  have X8:fZ a.fk (upd H7 (A.d 5) (.dT (dB (m.fI++[c.1.w])))) A {m with last:=ml,fI:=m.fI++[c.1.w]} (n+1):=X7.Kr (i:=5) rfl rfl (λi hi=>by
   match i,hi with
   |0,_=>rfl
   |1,_=>rfl
   |2,_=>rfl
   |3,_=>rfl
   |4,_=>rfl
   |5,h=>exact absurd rfl h) (Ku bd)
  have Y8:fw a.fj (upd H7 (A.d 5) (.dT (dB (m.fI++[c.1.w])))) L e l7 pl7:=Y7.Ks X7;obtain⟨dT,hT⟩:=X8.ob;refine⟨_,rfl,_,_,_,_,_,rfl,hT,T.fJ,T.oP,rfl,_,_,rfl,rfl,_,_,hT,(show 11<1000 by decide),?_⟩
  have eF:gw "kicks" (.int ((m.kicks:Int)+1)) (yi A {m with last:=ml,fI:=m.fI++[c.1.w]})=yi A {m with last:=ml,fI:=m.fI++[c.1.w],kicks:=m.kicks+1}:=by
   have e9:((m.kicks+1:Nat):Int)=(m.kicks:Int)+1:=by omega
   simp only[yi];rw[e9];rfl
  refine R _ _ ((k7.trans (.put (X7.dt 5) (Kt L A 5) (by intro _ z;cases z))).trans (.put hT (by simp[TS]) (by intro _ z;cases z))) ⟨rfl,?_,_,Y8.yi (dx:=dT) X8⟩;show fZ a.fk (upd _ A.p (.ins a.fk dT (gw "kicks" (.int ((m.kicks:Int)+1)) (yi A {m with last:=ml,fI:=m.fI++[c.1.w]})))) A _ _;rw[eF];exact(X8.Sx (m':={m with last:=ml,fI:=m.fI++[c.1.w],kicks:=m.kicks+1}) rfl).le (by omega)
 refine⟨_,rfl,_,_,_,rfl,h1,l1,L,e,_,_,rfl,Y4,_,rfl,fH (λz=>?_) λz=>?_⟩
 .rw[ag (SD z)]at R
  have R':Run a.eX (TS L A) H (Tilt.must e "till" tt.2>>=λl3=>iU e (MT.nm m.switches) l3>>=λu=>if u.1.w=x.1.1.w then Except.error ⟨7,u.1.at_⟩else(pure ({m with last:=ml,fI:=m.fI++[c.1.w],kicks:=m.kicks+1},u.2):Except Fault (fX×List Word))) (B2 a A L e (n+20)) Q E:=by
   refine Eq.mp (aQ (λu=>Run a.eX (TS L A) H u (B2 a A L e (n+20)) Q E) ?_) R;cases Tilt.must e "till" tt.2 with
   |error f=>rfl
   |ok l3=>
    show((iU e (MT.nm m.switches) l3>>=_)>>=_)=(iU e (MT.nm m.switches) l3>>=_);cases iU e (MT.nm m.switches) l3 with
    |error f=>rfl
    |ok uu=>
     show((if uu.1.w=x.1.1.w then _ else _)>>=_)=(if uu.1.w=x.1.1.w then _ else _);split<;>rfl
  refine⟨_,rfl,_,_,_,rfl,h1,l4,L,e,_,_,"till",rfl,Y4,AI (by decide+kernel),Run.gk (r1:=Tilt.must e "till" tt.2) R' k4 (by simp[TS]) λy v H5 _ k5 j5 S9 R=>?_⟩;obtain⟨rfl,pl5,Y5⟩:=S9;have X5:=X4.line Y4 j5;have ht:=j5.t _ _ ht;have hu:=j5.t _ _ hu;obtain⟨dT,hT⟩:=X5.ob;obtain⟨dx,fs,h1,l1,l2,l3,l4,l5,l6,l7,l8,l9,tT,BY⟩:=Y5.kF;refine⟨_,rfl,_,_,_,rfl,h1,l7,_,rfl,_,_,_,_,_,rfl,hT,T.fJ,T.ip,rfl,L,e,_,_,A.d 0,MT.nm m.switches,rfl,Y5,X5.SA.1,Run.gk (r1:=iU e (MT.nm m.switches) y) R k5 (by simp[TS]) λuu v H6 _ k6 j6 VH R=>?_⟩;obtain⟨⟨s2,rfl,hs2⟩,aes,Y6⟩:=VH;have X6:=X5.line Y5 j6;have ht:=j6.t _ _ ht;have hu:=j6.t _ _ hu;obtain⟨dx,fs,h1,_,_,_,_,_,_,_,_,_,tT,_⟩:=Y6.kF;refine⟨_,rfl,_,_,JD hs2,JD ht,jq _,jq _,_,rfl,?_⟩;rw[Iw];refine fH (λq3=>?_) (λq3=>?_)
  .rw[ak (aj q3)]at R;exact⟨_,rfl,_,_,_,_,_,rfl,h1,T.fg,T.fK,tT,_,_,rfl,Run.raise R k6⟩
  rw[ag (au q3)]at R;exact fin H6 uu.2 _ k6 X6 Y6 hu R
 rw[ak (Qt z)]at R;have Y4':=Y4;rw[Qt z]at Y4';exact fin H4 [] _ k4 X4 Y4' hu R
noncomputable def Qz:List String:=["switch","lamp","coil","device","kick"]
theorem Mq(h:j<5):∃s,Qz[j]? =some s/\Sg s/\vx[j]? =some (Tilt.ascii s):=by
 match j,h with
 |0,_=>exact⟨"switch",rfl,AI (by decide+kernel),rfl⟩
 |1,_=>exact⟨"lamp",rfl,AI (by decide+kernel),rfl⟩
 |2,_=>exact⟨"coil",rfl,AI (by decide+kernel),rfl⟩
 |3,_=>exact⟨"device",rfl,AI (by decide+kernel),rfl⟩
 |4,_=>exact⟨"kick",rfl,AI (by decide+kernel),rfl⟩
def QA{w:Bytes}(hi:i<5 - r)(hn:∀j,j<i->vx[r+j]? ≠some w)(h:vx[r+i]? =some w):ng r w=some (r+i):=by
 unfold ng;rw[List.find?_eq_some_iff_getElem];refine⟨by simpa using h,i,by rw[List.length_range'];exact hi,by rw[List.getElem_range'];simp,λj hj=>?_⟩;rw[List.getElem_range'];have:=hn j hj;simpa using this
def Of{w:Bytes}(hn:∀j,j<5 - r->vx[r+j]? ≠some w):ng r w=none:=by
 unfold ng;rw[List.find?_eq_none];intro x hx;obtain⟨i,hi,e⟩:=List.mem_range'.mp hx;have:=hn i hi;rw[e];simpa using this
def SG{w:Bytes}(h:ng r w=some q):q<5:=by
 have:=List.mem_of_find?_eq_some h;obtain _:=List.mem_range'.mp this;omega
noncomputable def IJ(e:Nat)(m:fX)(l:List Word):Except Fault ((Nat×Nat)×List Word):=do
 let x<-Tilt.next e l
 match ng m.rank x.1.w with
 |none=>.error ⟨3,x.1.at_⟩
 |some r=>.ok ((r,x.1.at_),x.2)
theorem IK(e:Nat)(m:fX)(l:List Word):lY e m l=(IJ e m l>>=λr=>E5 e r.1.2 (pf m r.1.1) r.2>>=λy=>Tilt.closed y.2>>=λ_=>pure y.1):=by
 unfold lY IJ;cases Tilt.next e l with
 |error f=>rfl
 |ok x=>
  show(match ng m.rank x.1.w with|none=>_|some r=>_)=((match ng m.rank x.1.w with|none=>_|some r=>_)>>=_);cases ng m.rank x.1.w<;>rfl
inductive QB(a:ij)(vs:List V)(H:Hp)(Q:VK)(E:XK):Prop
 |mk:∀(A:TA)(m:fX)(n:Nat)(L:LA)(e pl:Nat)(rest:List Word),vs=[.ref A.p,.ref L.p]->fZ a.fk H A m n->m.rank<=4->fw a.fj H L e rest pl->Run a.eX [L.p] H (IJ e m rest) (λx v H'=>v=.int (x.1.1:Int)/\fw a.fj H' L e x.2 x.1.2) Q E->QB a vs H Q E
def GJ(T:Txt K mg a):gj P w K mg bz (PL a) 4 a.mR ["table","line"] (QB a):=by
 refine jx T.BM ui ?_;rintro _ _ _ s H _ Q E _ hr ⟨A,m,n,L,e,pl,rest,rfl,X,_,Y,R⟩
 refine⟨_,eW (fP 2 ui (lW (pv 1) T.fg T.AF (nI T) hr))
  (eW (jN aE rfl (Ah rfl T.rD (jy (gI 0) (gM T.iA (iy T.Ck)))) (ib (i:=3) ui.nd rfl (Or.inl rfl))
   (ff (fS (fm (xU hr.units) (pv 2) (gy (oE T) hr T.jE (iF (gQ rV (iy T.Ck) (pv 3) λ_ _=>rfl))) (fv _))
    (kY (pv 3))
    fB)))
  (ff (Av (fN T) hr rfl (jy (iy T.iK) (gI 1))))),Fg ?_⟩
 intros;obtain⟨_,_,h1,_,l2,_⟩:=Y.kF;refine⟨_,rfl,_,_,_,rfl,h1,l2,L,e,pl,rest,rfl,Y,Run.gk R .refl (λ_ h=>h) λx v H1 _ k1 j1 mh R=>?_⟩;obtain⟨⟨t,rfl,ht⟩,hne,Y1⟩:=mh;have X1:=X.line Y j1;obtain⟨dT,hT⟩:=X1.ob;have VE:((5:Int) - (m.rank:Int)).toNat=5 - m.rank:=by omega
 refine⟨_,rfl,_,_,_,_,_,rfl,hT,T.fJ,T.lV,rfl,_,_,rfl,.inr (T.Cm H1),_,_,rfl,⟨by omega,by omega,by decide,by decide⟩,?_⟩;rw[show((([V.str "switch",V.str "lamp",V.str "coil",V.str "device",V.str "kick"]:List V).length:Int) - (m.rank:Int)).toNat=5 - m.rank from VE];refine sJ (λi σ H'=>fb [] H1 H'/\(∃v,σ=[some (.ref A.p),some (.ref L.p),some (.ref t),v])/\∀j,j<i->vx[m.rank+j]? ≠some x.1.w) ⟨.refl,⟨none,rfl⟩,λj hj=>by omega⟩ ?_ ?_
 .rintro i σ H' hi ⟨kk,⟨v,rfl⟩,Wa⟩;obtain⟨sn,s1,s2,s3⟩:=Mq (j:=m.rank+i) (by omega);refine⟨_,rfl,_,rfl,_,_,_,_,rfl,rfl,T.Cm H',at_of (j:=m.rank+i) (v:=.str (Str.ofString sn)) (by omega) ?_,sn,rfl,s2,λu H2 k2 hu=>?_⟩
  .show(Qz.map λs=>V.str (Str.ofString s))[m.rank+i]? =_;rw[aK,s1];rfl
  refine⟨_,_,JD (k2.t _ _ (kk.t _ _ ht)),JD hu,jq _,jq _,_,rfl,?_⟩;rw[Iw];refine fH (λq=>?_) (λq=>?_)
  .have q':=aj q;have hit:=QA hi Wa (by rw[s3,q']);have R':=R;rw[hit]at R';refine⟨_,rfl,R' _ _ (k1.trans ((kk.trans k2).mono (by simp))) ⟨?_,Y1.same (kk.trans k2)⟩⟩;congr 1
  have q':=au q;refine⟨kk.trans k2,⟨_,rfl⟩,λj hj=>?_⟩;by_cases z:j=i
  .rw[z,s3];exact λy=>q' (ao y).symm
  exact Wa j (by omega)
 rintro σ H' ⟨kk,⟨v,rfl⟩,Wa⟩;have R':=R;rw[Of Wa]at R';obtain⟨_,_,h1,_,_,_,_,_,_,_,_,_,tT,_⟩:=(Y1.same kk).kF;exact⟨_,rfl,_,_,_,_,_,rfl,h1,T.fg,T.fK,tT,_,_,rfl,Run.raise R' (k1.trans (kk.mono (by simp)))⟩
inductive Mr(a:ij)(vs:List V)(H:Hp)(Q:VK)(u1:XK):Prop
 |mk:∀(A:TA)(m:fX)(n r:Nat),vs=[.ref A.p,.int (r:Int)]->fZ a.fk H A m n->(∀H',fb [A.p] H H'->fZ a.fk H' A (pf m r) n->Q .hJ H')->Mr a vs H Q u1
def Ey(T:Txt K mg a):gj P w K mg bz (PL a) 1 a.lK ["table","rank"] (Mr a):=by
 refine jx T.zF Et ?_;rintro _ _ _ _ H _ _ _ _ _ ⟨A,m,n,r,rfl,X,k⟩
 refine⟨_,ff (fS (fm La (pv 1) (gI 0) (fv _))
   (eW (fT (pv 0) (pv 1) rfl)
   (ff (fT (pv 0) (yy tX fA) rfl)))
   fB),?_⟩
 obtain⟨dT,hT⟩:=X.ob;unfold pf at k;refine⟨_,rfl,_,rfl,_,_,_,_,_,rfl,hT,T.fJ,T.lV,rfl,rfl,_,rfl,fH (λq=>?_) λq=>?_⟩
 .have q':¬r=m.rank:=λz=>by
   have q2:(!decide (V.int (r:Int)=V.int (m.rank:Int)))=true:=q;rw[z]at q2;simp at q2
  rw[ag q']at k;refine⟨_,rfl,_,rfl,_,_,_,_,rfl,hT,T.fJ,T.lV,(show 11<1000 by decide),?_⟩;refine⟨_,rfl,_,rfl,_,_,_,_,rfl,eV,T.fJ,T.jh,(show 11<1000 by decide),?_⟩;rw[gn];exact k _ (.put hT (by simp) (by intro _ z;cases z)) (X.Sx (m':={m with rank:=r,last:= -1}) rfl)
 have q':r=m.rank:=by
  have q2:(!decide (V.int (r:Int)=V.int (m.rank:Int)))=false:=q;have q3:V.int (r:Int)=V.int (m.rank:Int):=by simpa using q2
  have:=V.int.inj q3;omega
 rw[ak q']at k;exact k H .refl X
def Ez(m:fX)(r:Nat):(pf m r).rank=r:=by
 unfold pf;split
 .rename_i h;exact h.symm
 rfl
inductive Fy(a:ij)(vs:List V)(H:Hp)(Q:VK)(E:XK):Prop
 |mk:∀(A:TA)(m:fX)(n:Nat)(L:LA)(e pl:Nat)(rest:List Word),vs=[.ref A.p,.ref L.p]->fZ a.fk H A m n->n+20<Sz->m.rank<=4->fw a.fj H L e rest pl->Run a.eX (TS L A) H (lY e m rest) (λm' v H'=>v=.hJ/\fZ a.fk H' A m' (n+20)/\∃r pl,fw a.fj H' L e r pl) Q E->Fy a vs H Q E
theorem B5(T:Txt K mg a):gj P w K mg bz (PL a) 8 a.jG ["table","line"] (Fy a):=by
 refine jx T.vR uQ ?_;rintro _ _ _ s H _ Q E _ hr ⟨A,m,n,L,e,pl,rest,rfl,X,hn,hrk,Y,R⟩
 refine⟨_,eW (gi (gy (Ey T) hr T.lK (jy (pv 0) (gy (GJ T) hr T.mR (jy (pv 0) (pv 1))))))
  (eW (fP 2 uQ (gQ rV (iy T.Ck) (gI 0) λ_ _=>rfl))
  (eW (fS (fm ig (pv 2) gY (fv _))
   (ya (gy (DV T) hr T.ky (jy (pv 0) (pv 1))))
   (ff (fS (fm ig (pv 2) gY (fv _))
    (ya (gy (GG T) hr T.mO (jy (pv 0) (pv 1))))
    (ff (fS (fm ig (pv 2) gY (fv _))
     (ya (gy (GH T) hr T.mP (jy (pv 0) (pv 1))))
     (ff (fS (fm ig (pv 2) gY (fv _))
      (ya (gy (DY T) hr T.kz (jy (pv 0) (pv 1))))
      (ya (gy (GI T) hr T.mQ (jy (pv 0) (pv 1)))))))))))
  (ya (lW (pv 1) T.fg T.zx (qS T) hr)))),Kj ?_⟩
 intros;rw[IK]at R;refine⟨_,rfl,_,rfl,_,rfl,A,m,n,L,e,pl,rest,rfl,X,hrk,Y,Run.gk (r1:=IJ e m rest) R .refl (by simp[TS]) λr v H1 Yg k1 j1 mh R=>?_⟩;obtain⟨rfl,Y1⟩:=mh;have X1:=X.line Y j1
 have r5:r.1.1<5:=by
  unfold IJ at Yg;cases z:Tilt.next e rest with
  |error f=>rw[z]at Yg;cases Yg
  |ok x=>
   rw[z]at Yg;have h2:(match ng m.rank x.1.w with|none=>Except.error (Fault.mk 3 x.1.at_)|some q=>Except.ok ((q,x.1.at_),x.2))=Except.ok r:=Yg;cases y:ng m.rank x.1.w with
   |none=>rw[y]at h2;cases h2
   |some q=>rw[y]at h2;cases h2;exact SG y
 refine⟨A,m,n,r.1.1,rfl,X1,λH2 j2 X2=>?_⟩;have k2:fb (TS L A) H H2:=k1.trans (j2.mono (by simp[TS]));have w1:=TX X1 Y1;have Y2:=Y1.keep j2 (by simpa using(Vh X1 Y1).symm) (by simpa using w1.1) (by simpa using w1.2);have er:=Ez m r.1.1;generalize pf m r.1.1=m2 at X2 R er;obtain⟨dT,hT⟩:=X2.ob;obtain⟨sn,s1,s2,s3⟩:=Mq (j:=r.1.1) r5;refine⟨_,rfl,_,_,_,_,_,rfl,hT,T.fJ,T.lV,rfl,_,_,_,_,rfl,rfl,T.Cm H2,at_of (j:=r.1.1) (v:=.str (Str.ofString sn)) (by rw[er]) ?_,?_⟩
 .show(Qz.map λs=>V.str (Str.ofString s))[r.1.1]? =_;rw[aK,s1];rfl
 have fin:∀(H3:Hp)(y:fX×List Word)(v:V),fb (TS L A) H H3->B2 a A L e (n+20) y v H3->Run a.eX (TS L A) H (Tilt.closed y.2>>=λ_=>pure y.1) (λm' v H'=>v=.hJ/\fZ a.fk H' A m' (n+20)/\∃r pl,fw a.fj H' L e r pl) Q E->
   K2 (CK a.fj "finish" (DQ a) [] E (jk 1) o8) {nx:=λ_ H'=>Q .hJ H',rt:=Q} [some (.ref A.p),some (.ref L.p),some (.str (Str.ofString sn))] H3:=by
  intro H3 y v k3 Aa R;obtain⟨_,X3,pl3,Y3⟩:=Aa;obtain⟨dx,fs,h1,l1,l2,l3,l4,l5,l6,l7,l8,l9,tT,BY⟩:=Y3.kF;refine⟨_,rfl,_,_,_,rfl,h1,l8,L,e,_,_,rfl,Y3,Run.gk (r1:=Tilt.closed y.2) R k3 (by simp) λu v H4 _ k4 j4 JF R=>?_⟩;exact R _ _ k4 ⟨rfl,X3.keep j4 (by simp) (by simp),_,_,Y3.same j4⟩
 have RB:∀(x y:String),Str.ofString x≠Str.ofString y->decide (V.str (Str.ofString x)=V.str (Str.ofString y))=false:=λx y h=>aV λz=>h (V.str.inj z);unfold E5 at R
 match hq:r.1.1,r5 with
 |0,_=>
  rw[hq]at er s1;have Ta:"switch"=sn:=ao s1;subst Ta;rw[ak er]at R;refine⟨_,rfl,rfl,_,rfl,m9 ?_⟩;refine⟨_,rfl,_,rfl,A,m2,n,L,e,_,_,rfl,X2,by omega,Y2,Run.gk (r1:=Cg e m2 r.2) R k2 (λ_ h=>h) λy v H3 _ k3 j3 Aa R=>?_⟩;obtain⟨e1,e2,e3⟩:=Aa;exact fin H3 y v k3 ⟨e1,e2.le (by omega),e3⟩ R
 |1,_=>
  rw[hq]at er s1;have Ta:"lamp"=sn:=ao s1;subst Ta;rw[ag (by omega),ak er]at R;refine⟨_,rfl,rfl,_,rfl,?_⟩;rw[RB _ _ (by decide)];refine oh ⟨_,rfl,rfl,_,rfl,m9 ?_⟩;refine⟨_,rfl,_,rfl,A,m2,n,L,e,_,_,rfl,X2,by omega,Y2,Run.gk (r1:=Lz e m2 r.2) R k2 (λ_ h=>h) λy v H3 _ k3 j3 Aa R=>?_⟩;obtain⟨e1,e2,e3⟩:=Aa;exact fin H3 y v k3 ⟨e1,e2.le (by omega),e3⟩ R
 |2,_=>
  rw[hq]at er s1;have Ta:"coil"=sn:=ao s1;subst Ta;rw[ag (by omega),ag (by omega),ak er]at R;refine⟨_,rfl,rfl,_,rfl,?_⟩;rw[RB _ _ (by decide)];refine oh ⟨_,rfl,rfl,_,rfl,?_⟩;rw[RB _ _ (by decide)];refine oh ⟨_,rfl,rfl,_,rfl,m9 ?_⟩;refine⟨_,rfl,_,rfl,A,m2,n,L,e,_,_,rfl,X2,by omega,Y2,Run.gk (r1:=HR e m2 r.2) R k2 (λ_ h=>h) λy v H3 _ k3 j3 Aa R=>?_⟩;obtain⟨e1,e2,e3⟩:=Aa;exact fin H3 y v k3 ⟨e1,e2.le (by omega),e3⟩ R
 |3,_=>
  rw[hq]at er s1;have Ta:"device"=sn:=ao s1;subst Ta;rw[ag (by omega),ag (by omega),ag (by omega),ak er]at R;refine⟨_,rfl,rfl,_,rfl,?_⟩;rw[RB _ _ (by decide)];refine oh ⟨_,rfl,rfl,_,rfl,?_⟩;rw[RB _ _ (by decide)];refine oh ⟨_,rfl,rfl,_,rfl,?_⟩;rw[RB _ _ (by decide)];refine oh ⟨_,rfl,rfl,_,rfl,m9 ?_⟩;refine⟨_,rfl,_,rfl,A,m2,n,L,e,_,_,rfl,X2,by omega,Y2,Run.gk (r1:=ub e r.1.2 m2 r.2) R k2 (λ_ h=>h) λy v H3 _ k3 j3 Aa R=>?_⟩;exact fin H3 y v k3 Aa R
 |4,_=>
  rw[hq]at er s1;have Ta:"kick"=sn:=ao s1;subst Ta;rw[ag (by omega),ag (by omega),ag (by omega),ag (by omega)]at R;refine⟨_,rfl,rfl,_,rfl,?_⟩;rw[RB _ _ (by decide)];refine oh ⟨_,rfl,rfl,_,rfl,?_⟩;rw[RB _ _ (by decide)];refine oh ⟨_,rfl,rfl,_,rfl,?_⟩;rw[RB _ _ (by decide)];refine oh ⟨_,rfl,rfl,_,rfl,?_⟩;rw[RB _ _ (by decide)];refine oh ?_;refine⟨_,rfl,_,rfl,A,m2,n,L,e,_,_,rfl,X2,by omega,Y2,Run.gk (r1:=AW e r.1.2 m2 r.2) R k2 (λ_ h=>h) λy v H3 _ k3 j3 Aa R=>?_⟩;exact fin H3 y v k3 Aa R
theorem Run.xK(h:Run C [] H (r1>>=f) ok Q E)(hk:fb [] H H1)(fr:∀s∈S1,H s=none)
  (k:∀a v H',r1=.ok a->fb [] H H'->fb S1 H1 H'->mh a v H'->Run C [] H (f a) ok Q E->Q1 v H'):Run C S1 H1 r1 mh Q1 E:=by
 have kk:∀H',fb S1 H1 H'->fb [] H H':=λH' kp=>⟨λb o e _=>kp.k b o (hk.k b o e (by simp)) λz=>(by rw[fr b z]at e;cases e),λb xs e=>kp.t b xs (hk.t b xs e)⟩;cases r1 with
 |error e=>exact λdx H' kp q=>h dx H' (kk H' kp) q
 |ok a=>exact λv H' kp q=>k a v H' rfl (kk H' kp) kp q h
theorem fb.fresh(k:fb [] H H1)(h:H1 z=none):H z=none:=by
 cases q:H z with
 |none=>rfl
 |some o=>rw[k.k z o q (by simp)]at h;cases h
def QC(R:Rel m s T):m.rank<=4:=by have:=R.rk;have:=R.so;omega
inductive wa(a:ij)(H:Hp)(m:fX)(v:V)(H':Hp):Prop
 |mk:∀(A:TA)(n:Nat),v=.ref A.p->H A.p=none->(∀i,H (A.d i)=none)->fZ a.fk H' A m n->wa a H m v H'
inductive TZ(K:Frag)(a:ij)(vs:List V)(H:Hp)(Q:VK)(E:XK):Prop
 |mk:∀(t:Addr)(bs:Bytes),vs=[.ref t]->qT K H t bs->bs.length<=16384->Run a.eX [] H (xX bs) (wa a H) Q E->TZ K a vs H Q E
def xM(T:Txt K mg a):gj P w K mg bz (PL a) 9 a.lM ["text"] (TZ K a):=by
 refine jx T.zG oM ?_;rintro _ A _ _ H _ Q E _ hr ⟨t,bs,rfl,X,hbs,R⟩
 refine⟨_,eW (fP 1 oM (gy (uC T) hr T.jK (jy (pv 0) fA)))
  (eW (fP 2 oM (gy (GF T) hr T.mM (iF (pv 1))))
  (eW (m6 aE (fm pE (g0 kI (gI 1) fA) (gM T.iA (pv 0)) (fv _))
   (eW (fP 1 oM (gy (uC T) hr T.jK (jy (pv 0) (g0 kI (gI 1) fA))))
   (ya (gy (B5 T) hr T.jG (jy (pv 2) (pv 1))))))
  (eW (fS (fm pE (gI 2) (gI 2) (fv _))
   (ff (Av (fN T) hr rfl (jy (iy T.zl) (gM T.iA (pv 0)))))
   fB)
  (kY (pv 2))))),Rv ?_⟩
 intros;unfold xX at R;refine⟨_,rfl,t,bs,0,rfl,X,bu _,Run.xK (r1:=nX 0 bs) R .refl (by simp) λx v H1 hx k1 j1 mh R=>?_⟩;obtain⟨L,rfl,f1,f2,f3,Y1,l,hl,he⟩:=mh;have hl:bs=l++10::x.2:=hl;refine⟨_,rfl,L,_,_,_,rfl,Y1,Run.xK (r1:=C6 x.1.end_ x.1.words) R k1 (by intro z hz;simp at hz;rw[hz];exact f1) λm v H2 hm k2 j2 Hd R=>?_⟩;obtain⟨A,rfl,g1,g2,X2,r2,pl2,Y2⟩:=Hd;have gA:H A.p=none:=k1.fresh g1;have gD:∀i,H (A.d i)=none:=λi=>k1.fresh (g2 i)
 obtain⟨sT,TT,RelM⟩:∃sT TT,Rel m sT TT:=by
  have q:=HW x.1.end_ x.1.words;rw[hm]at q;generalize Tilt.lineIn none ⟨x.1.words,x.1.end_⟩=z at q;cases q with
  |ok h=>obtain⟨y,_,r⟩:=h;exact⟨_,_,r⟩
 generalize hf:(λ(m':fX)=>((if m'.drained<m'.balls then .error ⟨8,bs.length⟩else return m'):Except Fault fX))=f;have R2:Run a.eX [] H (wX bs.length (x.1.end_+1) m x.2>>=f) (wa a H) Q E:=by rw[<-hf];exact R
 clear R
 have VI:=aQ List.length hl;rw[aq,aF]at VI
 refine⟨λmu σ H'=>∃(L:LA)(e pl:Nat)(rr:List Word)(m:fX)(n k:Nat)(r:Bytes)(sT:Nat)(TT:Table),mu=r.length/\σ=[some (.ref t),some (.ref L.p),some (.ref A.p)]/\fb [] H H'/\H L.p=none/\fw a.fj H' L e rr pl/\fZ a.fk H' A m n/\Rel m sT TT/\bs.drop (e+1)=r/\e+1+r.length=bs.length/\r.length<k/\n+20*r.length<=20*bs.length/\
  Run a.eX [] H (wX k (e+1) m r>>=f) (wa a H) Q E,⟨_,L,x.1.end_,pl2,r2,m,0,bs.length,x.2,sT,TT,rfl,rfl,k2,f1,Y2,X2,RelM,?_,?_,?_,?_,R2⟩,?_⟩
 .rw[he,hl,show 0+l.length+1=l.length+1 from by omega,<-eM,drop_left];rfl
 .rw[he];omega
 .omega
 .omega
 rintro mu σ H' ⟨L,e,pl,rr,m,n,k,r,sT,TT,rfl,rfl,kH,fL,Y,X',Rm,Ef,hlen,hk,hn,R⟩;have XT:=X.keep kH (by simp);obtain⟨dx,fs,h1,_,_,_,_,_,_,_,_,_,_,BY⟩:=Y.kF;refine⟨_,rfl,_,_,_,_,_,rfl,h1,T.fg,T.oD,BY,_,_,rfl,rfl,_,rfl,_,_,rfl,.inl XT.sq,_,_,rfl,rfl,_,rfl,fH (λq=>?_) λq=>?_⟩
 .have q':=aj q;rw[aw]at q';have VJ:r≠[]:=λz=>by rw[z]at hlen;simp at hlen;omega
  obtain⟨k',S6⟩:∃k',k=k'+1:=⟨k - 1,by omega⟩;subst S6
  have R':Run a.eX [] H (nX (e+1) r>>=λx=>lY x.1.end_ m x.1.words>>=λm'=>wX k' (x.1.end_+1) m' x.2>>=f) (wa a H) Q E:=by
   refine Eq.mp (aQ (λu=>Run a.eX [] H u (wa a H) Q E) ?_) R;show((if r=[]then _ else _)>>=_)=_;rw[ag VJ];cases nX (e+1) r with
   |error _=>rfl
   |ok x=>
    show((lY x.1.end_ m x.1.words>>=_)>>=_)=(lY x.1.end_ m x.1.words>>=_);cases lY x.1.end_ m x.1.words<;>rfl
  refine⟨λσ' H''=>∃Jx,Jx<r.length/\∃(L:LA)(e pl:Nat)(rr:List Word)(m:fX)(n k:Nat)(r:Bytes)(sT:Nat)(TT:Table),Jx=r.length/\σ'=[some (.ref t),some (.ref L.p),some (.ref A.p)]/\fb [] H H''/\H L.p=none/\fw a.fj H'' L e rr pl/\fZ a.fk H'' A m n/\Rel m sT TT/\bs.drop (e+1)=r/\e+1+r.length=bs.length/\r.length<k/\n+20*r.length<=20*bs.length/\
   Run a.eX [] H (wX k (e+1) m r>>=f) (wa a H) Q E,λσ' H'' z=>z,?_⟩
  refine⟨_,rfl,_,rfl,_,_,_,_,_,rfl,h1,T.fg,T.oD,BY,_,_,rfl,rfl,t,bs,e+1,?_,XT,by omega,?_⟩
  .show [V.ref t,V.int ((e:Int)+1)]=[V.ref t,V.int ((e+1:Nat):Int)];rw[show((e+1:Nat):Int)=(e:Int)+1 from by omega]
  rw[Ef];refine Run.xK (r1:=nX (e+1) r) R' kH (by simp) λx3 v H3 YU k3 j3 Aa R3=>?_;obtain⟨L3,rfl,f1,f2,f3,Y3,l3,Yh,he3⟩:=Aa;have X3:=X'.keep j3 (by simp) (by simp);have Yi:=aQ List.length Yh;rw[aq,aF]at Yi;refine⟨_,rfl,_,rfl,A,m,n,L3,_,_,_,rfl,X3,by simp only[Sz];omega,QC Rm,Y3,Run.xK (r1:=lY x3.1.end_ m x3.1.words) R3 k3 ?_ λm4 v H4 hm4 k4 j4 JF R4=>?_⟩
  .intro z hz;simp only[TS,mem_cons,not_mem_nil,or_false]at hz;rcases hz with rfl|rfl|rfl|rfl|rfl|rfl|rfl|rfl
   .exact kH.fresh f1
   .exact gA
   .exact gD 0
   .exact gD 1
   .exact gD 2
   .exact gD 3
   .exact gD 4
   exact gD 5
  obtain⟨rfl,X4,r4,Yk,Y4⟩:=JF
  obtain⟨s4,T4,Rel4⟩:∃sT TT,Rel m4 sT TT:=by
   have q:=AX Rm x3.1.end_ x3.1.words;rw[hm4]at q;generalize Tilt.lineIn (some ⟨sT,TT⟩) ⟨x3.1.words,x3.1.end_⟩=z at q;cases q with
   |ok h=>obtain⟨y,_,r⟩:=h;exact⟨_,_,r⟩
  refine⟨x3.2.length,by omega,L3,x3.1.end_,Yk,r4,m4,n+20,k',x3.2,s4,T4,rfl,rfl,k4,kH.fresh f1,Y4,X4,Rel4,?_,by omega,by omega,by omega,R4⟩;rw[he3,show e+1+l3.length+1=(e+1)+(l3.length+1)from by omega,<-eM,Ef,Yh,<-eM,drop_left];rfl
 have q':=au q;rw[aw]at q';have VJ:r=[]:=dO.mp (by omega)
 have e1:wX k (e+1) m r=.ok m:=by
  rw[VJ];cases k with
  |zero=>rfl
  |succ k=>show(if _ then _ else _)=_;rw[ak rfl]
 rw[e1]at R;have R5:Run a.eX [] H (f m) (wa a H) Q E:=R;rw[<-hf]at R5;obtain⟨dT,hT⟩:=X'.ob;refine⟨_,rfl,_,_,_,_,_,rfl,hT,T.fJ,T.me,rfl,_,rfl,_,_,_,_,_,rfl,hT,T.fJ,T.sk,rfl,_,_,rfl,rfl,_,rfl,fH (λz=>?_) λz=>?_⟩
 .have z':=aj z;have R6:Run a.eX [] H (if m.drained<m.balls then Except.error ⟨8,bs.length⟩else Except.ok m) (wa a H) Q E:=R5;rw[ak (by omega)]at R6;refine⟨_,rfl,_,_,rfl,.inl XT.sq,_,_,rfl,Run.GC R6 kH rfl ?_⟩;show(((bs.map bV).length:Nat):Int)=_;rw[aw]
 have z':=au z;have R6:Run a.eX [] H (if m.drained<m.balls then Except.error ⟨8,bs.length⟩else Except.ok m) (wa a H) Q E:=R5;rw[ag (by omega)]at R6;exact⟨_,rfl,R6 _ _ kH ⟨A,n,rfl,gA,gD,X'⟩⟩
noncomputable def nV(l:List Nat):List V:=l.map λ(n:Nat)=>V.int (n:Int)
def ia(l:List Nat):(nV l).length=l.length:=aw ..
def wb{l:List Nat}{i:Nat}:(nV l)[i]? =(l[i]?).map λ(n:Nat)=>V.int (n:Int):=aK ..
def QD{l:List Nat}{i v:Nat}:(nV l).set i (.int (v:Int))=nV (l.set i v):=by unfold nV;rw[List.map_set]
def nP(l m:List Nat):nV (l++m)=nV l++nV m:=aL ..
def Kw(x y:Nat):Builtin.bitOr (x:Int) (y:Int)=((x|||y:Nat):Int):=by
 unfold Builtin.bitOr;rw[bitAnd_nn (by unfold Builtin.bitNot;omega) (by unfold Builtin.bitNot;omega)];unfold Builtin.bitNot;rw[show(-(-(x:Int) - 1) - 1)=(x:Int)from by omega,show(-(-(y:Int) - 1) - 1)=(y:Int)from by omega];simp only[dw];omega
def zP(x y:Nat):Builtin.bitAnd (x:Int) (y:Int)=((x&&&y:Nat):Int):=by simp[Builtin.bitAnd]
section
variable{X:Cx}
def IL:Wy X (UJ X.K):=by
 intro pins s σ H o i ov iv Q I ro ri h;obtain⟨p,xs,j,z,rfl,rfl,hq,he,q⟩:=h;cases ro;obtain⟨t,rfl⟩:=ri;obtain⟨its,r,pl,hz⟩:=I.list hq;obtain⟨n,h1,h2,h3,h4,h5⟩:=FZ he;obtain⟨w,ew,Q8⟩:=r.get h2;have hl:=r.length;have hn:=CB;have fin:EP X pins σ Q w s:=⟨z,H,I,Q8,q⟩;by_cases h0:0<=j
 .have hj:j.toNat=n:=by
   rw[seqIndex_of h0 h5]at h1;exact ao h1
  exact wpAny_getItem_list pl.isList h0 (by omega) (by rw[hj];simpa using ew) fin
 have hj:(j+(its.toArray.size:Int)).toNat=n:=by
  rw[seqIndex_neg (by omega) h4]at h1;rw[aP,<-hl];exact ao h1
 exact wpAny_getItem_list_neg pl.isList (by omega) (by rw[aP]<;>omega) (by omega) (by rw[hj];simpa using ew) fin
end
def Co{n j:Nat}(h:j<n):Nt n (j:Int)=some j:=by
 unfold Nt;rw[ak (by omega)];simp[h]
def Og:Sp:=λvs H Q _=>vs=[]/\∀c H',H c=none->fb [] H H'->H' c=some (.lst (nV (List.replicate 8 0)))->Q (.ref c) H'
def wc(T:Txt K mg a):gj P w K mg bz (PL a) 1 a.ll [] Og:=by
 refine jx T.DE Ik ?_;rintro _ _ _ _ _ _ _ _ _ _ ⟨rfl,k⟩;refine⟨_,kY (g0 JV (gO (iF fA)) (iy T.wz)),?_⟩;refine⟨by decide,λl hl=>⟨l,8,_,rfl,rfl,eV,by decide,by decide,by decide,λp hp=>?_⟩⟩;have nl:p≠l:=λz=>by rw[z,eV]at hp;cases hp
 exact k p _ (by rw[eY nl]at hp;exact hp) ((fb.new hl).trans (fb.new hp)) (by rw[eV];rfl)
noncomputable def T1:List V:=[.int 1,.int 2,.int 4,.int 8,.int 16,.int 32,.int 64,.int 128]
theorem Cp{j:Nat}(h:j<8):T1[j]? =some (.int ((2^j:Nat):Int)):=by
 match j,h with
 |0,_=>rfl
 |1,_=>rfl
 |2,_=>rfl
 |3,_=>rfl
 |4,_=>rfl
 |5,_=>rfl
 |6,_=>rfl
 |7,_=>rfl
inductive T3(a:ij)(vs:List V)(H:Hp)(Q:VK)(u1:XK):Prop
 |mk:∀(c:Addr)(cols:List Nat)(p:Nat),vs=[.ref c,.int (p:Int)]->H c=some (.lst (nV cols))->cols.length=8->p<64->Q .hJ (upd H c (.lst (nV (jz cols p))))->T3 a vs H Q u1
def BW(T:Txt K mg a):gj P w K mg bz (PL a) 1 a.mw ["columns","place"] (T3 a):=by
 refine jx T.DF Il ?_;rintro _ _ _ _ H _ Q _ _ _ ⟨c,cols,p,rfl,hc,hl,hp,k⟩;refine⟨_,ff (K3 (pv 0) (g0 K6 (pv 1) (gM T.iA (iy T.uo))) IL (gQ rV (iy T.uo) (g0 JN (pv 1) (gM T.iA (iy T.uo))) λ_ _=>rfl) TM set_list),?_⟩;obtain⟨x,hx⟩:∃x,cols[p/8]? =some x:=⟨_,az (by omega)⟩;refine⟨_,rfl,_,rfl,_,_,rfl,.inr (T.pC H),_,_,rfl,rfl,⟨by decide,by decide⟩,?_⟩;have ediv:((p:Int)/8)=((p/8:Nat):Int):=by omega
 have emod:((p:Int) % 8)=((p % 8:Nat):Int):=by omega
 refine⟨c,_,_,_,rfl,rfl,gC.of hc,at_of (j:=p/8) ediv (by rw[wb,hx];rfl),?_⟩;refine⟨_,rfl,_,_,rfl,.inr (T.pC H),_,_,rfl,rfl,(by show(0:Int)<8;decide),_,_,_,_,rfl,rfl,T.pC H,at_of (j:=p % 8) emod (Cp (by omega)),_,_,rfl,rfl,c,_,_,p/8,rfl,rfl,hc,?_,?_⟩
 .show Nt _ ((p:Int)/8)=_;rw[ediv,ia];exact Co (by omega)
 show Q .hJ (upd H c (.lst ((nV cols).set (p/8) (.int (Builtin.bitOr (x:Int) ((2^(p % 8):Nat):Int))))));rw[Kw,QD];unfold jz at k;rw[hx]at k;exact k
inductive T5(a:ij)(vs:List V)(H:Hp)(Q:VK)(u1:XK):Prop
 |mk:∀(c:Addr)(cols:List Nat)(p:Nat),vs=[.ref c,.int (p:Int)]->H c=some (.lst (nV cols))->cols.length=8->p<64->Q .hJ (upd H c (.lst (nV (rm cols p))))->T5 a vs H Q u1
def DZ(T:Txt K mg a):gj P w K mg bz (PL a) 1 a.kg ["columns","place"] (T5 a):=by
 refine jx T.xq Dv ?_;rintro _ _ _ _ H _ Q _ _ _ ⟨c,cols,p,rfl,hc,hl,hp,k⟩;refine⟨_,ff (K3 (pv 0) (g0 K6 (pv 1) (gM T.iA (iy T.uo))) IL (g0 FT (iy T.Gy) (gQ rV (iy T.uo) (g0 JN (pv 1) (gM T.iA (iy T.uo))) λ_ _=>rfl)) P4 set_list),?_⟩;obtain⟨x,hx⟩:∃x,cols[p/8]? =some x:=⟨_,az (by omega)⟩;refine⟨_,rfl,_,rfl,_,_,rfl,.inr (T.pC H),_,_,rfl,rfl,⟨by decide,by decide⟩,?_⟩;have ediv:((p:Int)/8)=((p/8:Nat):Int):=by omega
 have emod:((p:Int) % 8)=((p % 8:Nat):Int):=by omega
 refine⟨c,_,_,_,rfl,rfl,gC.of hc,at_of (j:=p/8) ediv (by rw[wb,hx];rfl),?_⟩;refine⟨_,rfl,_,_,rfl,.inr (T.pC H),_,_,rfl,rfl,(by show(0:Int)<8;decide),_,_,_,_,rfl,rfl,T.pC H,at_of (j:=p % 8) emod (Cp (by omega)),_,_,rfl,rfl,_,_,rfl,rfl,c,_,_,p/8,rfl,rfl,hc,?_,?_⟩
 .show Nt _ ((p:Int)/8)=_;rw[ediv,ia];exact Co (by omega)
 show Q .hJ (upd H c (.lst ((nV cols).set (p/8) (.int (Builtin.bitAnd (x:Int) (255 - ((2^(p % 8):Nat):Int)))))));have h2:2^(p % 8)<256:=De;rw[show(255:Int) - ((2^(p % 8):Nat):Int)=((255 - 2^(p % 8):Nat):Int)from by omega,zP,QD];unfold rm at k;rw[hx]at k;exact k
def SH(cols:List Nat)(p:Nat):(jz cols p).length=cols.length:=by unfold jz;rw[dG]
theorem D0:∀(l cols:List Nat),(l.foldl jz cols).length=cols.length
 |[],_=>rfl
 |p::l,cols=>by rw[cM,D0 l,SH]
inductive QE(K:Frag)(a:ij)(vs:List V)(H:Hp)(Q:VK)(u1:XK):Prop
 |mk:∀(t:Addr)(ps:List Nat),vs=[.ref t]->gC K H t (nV ps)->(∀p∈ps,p<64)->(∀c H',H c=none->fb [] H H'->H' c=some (.lst (nV (hZ ps)))->Q (.ref c) H')->QE K a vs H Q u1
def xN(T:Txt K mg a):gj P w K mg bz (PL a) 2 a.jR ["places"] (QE K a):=by
 refine jx T.zy rW ?_;rintro _ _ _ _ H _ _ _ _ hr ⟨t,ps,rfl,ht,hp,k⟩
 refine⟨_,eW (fP 1 rW (P2 (wc T) hr T.ll))
  (eW (jN aE rfl (qY (pv 0)) (ib (i:=2) rW.nd rfl (Or.inl rfl))
   (ya (gy (BW T) hr T.mw (jy (pv 1) (pv 2)))))
  (kY (pv 1))),Fg ?_⟩
 intros;refine⟨rfl,λc H1 hc k1 h1=>?_⟩;refine⟨_,rfl,t,rfl,⟨_,p8 ht k1 (by simp)⟩,oQ (xs:=nV ps) (λi σ H'=>fb [c] H H'/\(∃v,σ=[some (.ref t),some (.ref c),v])/\H' c=some (.lst (nV ((ps.take i).foldl jz (List.replicate 8 0))))) ⟨k1.mono (by simp),⟨none,rfl⟩,h1⟩ (λi σ H' _ p=>p8 ht p.1 (by intro z hz;simp at hz;rw[hz];exact hc)) ?_ ?_⟩
 .rintro i x σ H' hi ⟨kk,⟨v,rfl⟩,hh⟩;rw[wb]at hi;cases hd:ps[i]? with
  |none=>rw[hd]at hi;cases hi
  |some p=>
   rw[hd]at hi;have hx:=ao hi;subst hx;refine⟨_,rfl,_,rfl,c,_,p,rfl,hh,by rw[D0];rfl,hp p (aR hd),kk.trans (.put hh (by simp) (by intro _ z;cases z)),⟨_,rfl⟩,?_⟩;rw[eV,take_snoc hd,eD];rfl
 rintro σ H' ⟨kk,⟨v,rfl⟩,hh⟩;rw[ia,bN]at hh;exact⟨_,rfl,k c H' hc (kk.drop hc) hh⟩
noncomputable def xK(t:Nat)(l c:Addr):List (Str×V):=[("ticks",.int (t:Int)),("lamps",.ref l),("columns",.ref c)]
noncomputable def BX(nt l c:Addr)(lp:Bool)(st:Addr):List (Str×V):=[("name",.ref nt),("lamps",.ref l),("columns",.ref c),("loops",.bl lp),("steps",.ref st)]
noncomputable def QF(l s:Addr):List (Str×V):=[("lamps",.ref l),("shows",.ref s)]
def lC:∀xs,HO.ins C dx fs≠.tup xs:=by intro _ z;cases z
def gS:∀xs,HO.lst ys≠.tup xs:=by intro _ z;cases z
inductive QG(K:Frag)(a:ij)(vs:List V)(H:Hp)(Q:VK)(u1:XK):Prop
 |mk:∀(p dx l:Addr)(t:Nat)(ps:List Nat),vs=[.ref p,.int (t:Int),.ref l]->H p=some (.ins a.nv dx [])->H l=some (.lst (nV ps))->(∀q∈ps,q<64)->(∀c H',H c=none->fb [p] H H'->H' p=some (.ins a.nv dx (xK t l c))->H' c=some (.lst (nV (hZ ps)))->Q .hJ H')->QG K a vs H Q u1
def SI(T:Txt K mg a):gj P w K mg bz (PL a) 3 a.px ["self","ticks","lamps"] (QG K a):=by
 refine jx T.uV Az ?_;rintro _ _ _ _ H _ _ _ _ hr ⟨p,dx,l,t,ps,rfl,hp,hl,S8,k⟩
 refine⟨_,eW (fT (pv 0) (pv 1) rfl)
  (eW (fT (pv 0) (pv 2) rfl)
  (ff (fT (pv 0) (gy (xN T) hr T.jR (iF (pv 2))) rfl))),Fg ?_⟩
 intros;have lp:=gK hl hp (by intro z;cases z);refine⟨_,rfl,_,rfl,p,_,dx,_,rfl,hp,T.ny,T.lS,(show 0<1000 by decide),?_⟩;refine⟨_,rfl,_,rfl,p,_,dx,_,rfl,eV,T.ny,T.pW,(show 1<1000 by decide),?_⟩;rw[gn];refine⟨_,rfl,l,ps,rfl,gC.of (by rw[eY lp];exact hl),S8,λc H1 hc k1 h1=>?_⟩;have cp:c≠p:=λz=>by rw[z,eV]at hc;cases hc
 have hc0:H c=none:=by rw[eY cp]at hc;exact hc
 refine⟨_,rfl,p,_,dx,_,rfl,k1.k _ _ eV (by simp),T.ny,T.qH,(show 2<1000 by decide),?_⟩;refine k c _ hc0 ((fb.put hp (by simp) lC).trans ((k1.mono (by simp)).trans (.put (k1.k _ _ eV (by simp)) (by simp) lC))) eV (by rw[eY cp];exact h1)
inductive Kx(K:Frag)(a:ij)(vs:List V)(H:Hp)(Q:VK)(u1:XK):Prop
 |mk:∀(p dx nt l:Addr)(lp:Bool)(ps:List Nat),vs=[.ref p,.ref nt,.ref l,.bl lp]->H p=some (.ins a.jg dx [])->H l=some (.lst (nV ps))->(∀q∈ps,q<64)->(∀c st H',H c=none->H st=none->c≠st->fb [p] H H'->H' p=some (.ins a.jg dx (BX nt l c lp st))->H' c=some (.lst (nV (hZ ps)))->H' st=some (.lst [])->Q .hJ H')->Kx K a vs H Q u1
def SJ(T:Txt K mg a):gj P w K mg bz (PL a) 3 a.pz ["self","name","lamps","loops"] (Kx K a):=by
 refine jx T.uW AA ?_;rintro _ _ _ _ H _ _ _ _ hr ⟨p,dx,nt,l,lp,ps,rfl,hp,hl,S8,k⟩
 refine⟨_,eW (fT (pv 0) (pv 1) rfl)
  (eW (fT (pv 0) (pv 2) rfl)
  (eW (fT (pv 0) (gy (xN T) hr T.jR (iF (pv 2))) rfl)
  (eW (fT (pv 0) (pv 3) rfl)
  (ff (fT (pv 0) (gO m8) rfl))))),Rv ?_⟩
 intros;have lp':l≠p:=gK hl hp (by intro z;cases z);refine⟨_,rfl,_,rfl,p,_,dx,_,rfl,hp,T.ie,T.mX,(show 0<1000 by decide),?_⟩;refine⟨_,rfl,_,rfl,p,_,dx,_,rfl,eV,T.ie,T.nB,(show 1<1000 by decide),?_⟩;rw[gn];refine⟨_,rfl,l,ps,rfl,gC.of (by rw[eY lp'];exact hl),S8,λc H1 hc k1 h1=>?_⟩;have cp:c≠p:=λz=>by rw[z,eV]at hc;cases hc
 have hc0:H c=none:=by rw[eY cp]at hc;exact hc
 have hp1:=k1.k _ _ eV (by simp);have kH1:fb [p] H H1:=(fb.put hp (by simp) lC).trans (k1.mono (by simp));refine⟨_,rfl,p,_,dx,_,rfl,hp1,T.ie,T.qI,(show 2<1000 by decide),?_⟩;refine⟨_,rfl,_,rfl,p,_,dx,_,rfl,eV,T.ie,T.pX,(show 3<1000 by decide),?_⟩;rw[gn];refine⟨by decide,λst hst=>?_⟩;have sp:st≠p:=λz=>by rw[z,eV]at hst;cases hst
 have VL:H1 st=none:=by rw[eY sp]at hst;exact hst
 have cs:c≠st:=λz=>by rw[z]at h1;rw[VL]at h1;cases h1
 have aaZ:H st=none:=by
  cases q:H st with
  |none=>rfl
  |some o=>rw[kH1.k st o q (by simpa using sp)]at VL;cases VL
 refine⟨_,rfl,p,_,dx,_,rfl,(eY (aW sp)).trans eV,T.ie,T.iC,(show 4<1000 by decide),?_⟩;refine k c st _ hc0 aaZ cs ?_ eV (by rw[eY cp,eY cs,eY cp];exact h1) (by rw[eY sp,eV]);refine kH1.trans ((fb.put hp1 (by simp) lC).trans ((fb.new hst).trans (.put ((eY (aW sp)).trans eV) (by simp) lC)))
inductive QH(a:ij)(vs:List V)(H:Hp)(Q:VK)(u1:XK):Prop
 |mk:∀(p dx l s:Addr),vs=[.ref p,.ref l,.ref s]->H p=some (.ins a.pj dx [])->Q .hJ (upd H p (.ins a.pj dx (QF l s)))->QH a vs H Q u1
def SK(T:Txt K mg a):gj P w K mg bz (PL a) 1 a.pA ["self","lamps","shows"] (QH a):=by
 refine jx T.uX AB ?_;rintro _ _ _ _ _ _ _ _ _ _ ⟨p,dx,l,s,rfl,hp,k⟩
 refine⟨_,eW (fT (pv 0) (pv 1) rfl)
  (ff (fT (pv 0) (pv 2) rfl)),?_⟩
 refine⟨_,rfl,_,rfl,p,_,dx,_,rfl,hp,T.pY,T.uA,(show 0<1000 by decide),?_⟩;refine⟨_,rfl,_,rfl,p,_,dx,_,rfl,eV,T.pY,T.jW,(show 1<1000 by decide),?_⟩;rw[gn];exact k
def okP(C:Addr)(L:LA)(e:Nat)(x:(Nat×Nat)×List Word)(v:V)(H':Hp):Prop:=v=.int (x.1.1:Int)/\fw C H' L e x.2 x.1.2
inductive IM(a:ij)(vs:List V)(H:Hp)(Q:VK)(E:XK):Prop
 |mk:∀(A:TA)(m:fX)(n:Nat)(L:LA)(e pl:Nat)(bef:Int)(rest:List Word),vs=[.ref A.p,.ref L.p,.int bef]->fZ a.fk H A m n->fw a.fj H L e rest pl->Run a.eX [L.p] H (i5 e m.lamps bef rest) (okP a.fj L e) Q E->IM a vs H Q E
def uD(T:Txt K mg a):gj P w K mg bz (PL a) 6 a.jL ["table","line","before"] (IM a):=by
 refine jx T.BD ze ?_;rintro _ _ _ _ _ _ _ _ _ hr ⟨A,m,_,L,e,pl,_,rest,rfl,X,Y,R⟩
 refine⟨_,eW (fP 3 ze (F9 (rf hr) (gI 0) (kT (pv 1) T.fg T.iT (iq T) hr (iF (gI 0))) λ_ _=>rfl))
  (eW (fS (fm EL (pv 3) (pv 2) (fv _))
   (ff (Av (fN T) hr rfl (jy (iy T.wB) (gI 1))))
   fB)
  (kY (pv 3))),Fg ?_⟩
 intros;obtain⟨dT,hT⟩:=X.ob;obtain⟨_,_,h1,_,_,_,_,_,_,l7,_⟩:=Y.kF;refine⟨_,rfl,_,_,_,_,_,rfl,hT,T.fJ,T.jv,rfl,_,rfl,_,_,_,rfl,h1,l7,_,rfl,_,_,_,_,_,rfl,hT,T.fJ,T.jv,rfl,L,e,pl,rest,A.d 1,MT.nm m.lamps,rfl,Y,X.SA.2.1,Run.gk R .refl (λ_ h=>h) λx v H1 hx k1 j1 mh R=>?_⟩;obtain⟨⟨t,rfl,ht⟩,hne,Y1⟩:=mh;have X1:=X.line Y j1;obtain⟨_,_,h1,_,_,_,_,_,_,_,_,_,tT,_⟩:=Y1.kF;refine⟨A.d 1,.int (MT.look m.lamps x.1.w:Int),rfl,?_,_,rfl,_,rfl,_,_,rfl,rfl,_,rfl,fH (λq=>?_) λq=>?_⟩
 .have g:=vn.t (X1.dt 1) (by rw[qR];exact ht);rw[show dk m 1=dN m.lamps from rfl,GD (zO hx)]at g;exact g
 .rw[ak (aj q)]at R;exact⟨_,rfl,_,_,_,_,_,rfl,h1,T.fg,T.fK,tT,_,_,rfl,Run.raise R k1⟩
 rw[ag (au q)]at R;exact⟨_,rfl,R _ _ k1 ⟨rfl,Y1⟩⟩
def we{w:Word}(h:i5 e lamps bef (w::r)=.ok x):x.2=r:=by
 unfold i5 iU nW Tilt.next at h;simp only[Bind.bind,Except.bind,pure,Except.pure]at h;split at h
 .cases h
 rename_i v hv;split at hv
 .cases hv
 rename_i v2 hv2;split at hv2
 .cases hv2
 cases hv2;split at hv
 .cases hv;split at h
  .cases h
  cases h;rfl
 cases hv
inductive IP(a:ij)(vs:List V)(H:Hp)(Q:VK)(E:XK):Prop
 |mk:∀(A:TA)(m:fX)(n:Nat)(L:LA)(e pl:Nat)(rest:List Word),vs=[.ref A.p,.ref L.p]->fZ a.fk H A m n->fw a.fj H L e rest pl->rest.length<=100000->Run a.eX [L.p] H (qg e m.lamps rest) (λx v H'=>∃l,v=.ref l/\H l=none/\H' l=some (.lst (nV x.1))/\∃pl,fw a.fj H' L e x.2 pl) Q E->IP a vs H Q E
def yk(T:Txt K mg a):gj P w K mg bz (PL a) 7 a.iR ["table","line"] (IP a):=by
 refine jx T.rP qt ?_;rintro _ _ _ _ H _ Q E _ hr ⟨A,m,n,L,e,pl,rest,rfl,X,Y,Cr,R⟩
 refine⟨_,eW (fP 2 qt (gO (iF (gy (uD T) hr T.jL (Ab (pv 0) (pv 1) (yy tX fA))))))
  (eW (m6 aE (PW.pt (qc (jd (lW (pv 1) T.fg T.iY (gF T) hr)) (qX (qe (jd (kT (pv 1) T.fg T.Kl (zM T) hr (iF gY)))))))
   (ya (mD aX aI aJ iD (pv 2) (iF (gy (uD T) hr T.jL (Ab (pv 0) (pv 1) (gQ gp (pv 2) (yy tX fA) λ_ _=>rfl)))))))
  (kY (pv 2))),Fg ?_⟩
 intros;unfold qg at R;refine⟨_,rfl,_,rfl,_,rfl,A,m,n,L,e,pl,-1,rest,rfl,X,Y,Run.gk (r1:=i5 e m.lamps (-1) rest) R .refl (λ_ h=>h) λx v H1 hx k1 j1 mh R=>?_⟩;obtain⟨rfl,Y1⟩:=mh;have X1:=X.line Y j1;refine⟨(show 1<=sizeLine by decide),λl hl=>?_⟩
 have Yl:L.wl≠l/\L.sl≠l:=by
  obtain⟨_,_,_,_,_,hw,hs,_⟩:=Y1.ex;exact⟨ft hw hl,ft hs hl⟩
 have VI:H l=none:=by
  obtain⟨_,_,h1,_⟩:=Y1.kF;cases q:H l with
  |none=>rfl
  |some o=>
   by_cases z:l=L.p
   .rw[z,h1]at hl;cases hl
   rw[k1.k l o q (by simpa using z)]at hl;cases hl
 have x2l:x.2.length<=100000:=by
  cases rest with
  |nil=>cases hx
  |cons w r=>rw[we hx];simp at Cr;omega
 refine⟨λmu σ H'=>∃(hs:List Nat)(last:Nat)(lj:List Word)(plj:Nat),mu=lj.length/\σ=[some (.ref A.p),some (.ref L.p),some (.ref l)]/\fb [L.p,l] H H'/\fZ a.fk H' A m n/\fw a.fj H' L e lj plj/\H' l=some (.lst (nV (hs++[last])))/\hs.length+lj.length<=100000/\
  Run a.eX [L.p] H (uH e m.lamps (hs++[last]) last lj) (λx v H'=>∃l,v=.ref l/\H l=none/\H' l=some (.lst (nV x.1))/\∃pl,fw a.fj H' L e x.2 pl) Q E,
  ⟨_,[],x.1.1,x.2,x.1.2,rfl,rfl,(k1.mono (by simp)).trans (.new hl),X1.keep (S:=[]) (.new hl) (by simp) (by simp),Y1.same (.new hl),eV,by simpa using x2l,R⟩,?_⟩
 rintro mu σ H' ⟨hs,last,lj,plj,rfl,rfl,kj,Xj,Yj,Wf,hlen,Rj⟩;have big:100002<sizeLine:=by decide
 have kd:∀{H''},fb [L.p,l] H H''->fb [L.p] H H'':=λkk=>⟨λb o e nb=>kk.k b o e (by
  intro z;rcases aA.mp z with y|y
  .exact nb (by rw[y];simp)
  have:b=l:=by simpa using y
  rw[this,VI]at e;cases e),kk.t⟩
 obtain⟨dx,fs,h1,l1,l2,l3,l4,l5,l6,l7,l8,l9,tT,BY⟩:=Yj.kF;refine⟨_,rfl,_,_,_,rfl,h1,l1,L,e,_,_,rfl,Yj,_,rfl,fH (λz=>?_) λz=>?_⟩
 .obtain⟨wd,r,Yf⟩:∃wd r,lj=wd::r:=by
   cases lj with
   |nil=>cases z
   |cons wd r=>exact⟨wd,r,rfl⟩
  subst Yf;refine⟨_,rfl,_,_,_,rfl,h1,l9,L,e,_,_,"loop",rfl,Yj,AI (by decide+kernel),λH6 kk=>⟨_,rfl,fH (λy=>?_) λy=>?_⟩⟩
  .have nd:wd.w≠LOOP:=λy2=>by
    have y3:Iz "loop" (wd::r)=true:=by show decide (wd.w=Tilt.ascii "loop")=true;rw[show wd.w=Tilt.ascii "loop" from y2];simp
    rw[y3]at y;cases y
   have Rj':Run a.eX [L.p] H (i5 e m.lamps last (wd::r)>>=λx=>uH e m.lamps (hs++[last]++[x.1.1]) x.1.1 r) (λx v H'=>∃l,v=.ref l/\H l=none/\H' l=some (.lst (nV x.1))/\∃pl,fw a.fj H' L e x.2 pl) Q E:=by
    have:uH e m.lamps (hs++[last]) last (wd::r)=(i5 e m.lamps last (wd::r)>>=λx=>uH e m.lamps (hs++[last]++[x.1.1]) x.1.1 r):=by
     show(if wd.w=LOOP then _ else _)=_;rw[ag nd]
    rw[this]at Rj;exact Rj
   refine⟨λσ' H''=>∃Jx,Jx<(wd::r).length/\∃(hs:List Nat)(last:Nat)(lj:List Word)(plj:Nat),Jx=lj.length/\σ'=[some (.ref A.p),some (.ref L.p),some (.ref l)]/\fb [L.p,l] H H''/\fZ a.fk H'' A m n/\fw a.fj H'' L e lj plj/\H'' l=some (.lst (nV (hs++[last])))/\hs.length+lj.length<=100000/\
    Run a.eX [L.p] H (uH e m.lamps (hs++[last]) last lj) (λx v H'=>∃l,v=.ref l/\H l=none/\H' l=some (.lst (nV x.1))/\∃pl,fw a.fj H' L e x.2 pl) Q E,λσ' H'' z=>z,?_⟩
   have Zc:=kk.k _ _ Wf (by simp);have Y6:=Yj.same kk;have X6:=Xj.keep kk (by simp) (by simp);refine⟨_,rfl,.inl ⟨rfl,_,gC.of Zc⟩,_,rfl,_,rfl,_,rfl,_,rfl,l,_,_,_,rfl,rfl,gC.of Zc,?_,A,m,n,L,e,_,(last:Int),_,rfl,X6,Y6,Run.gk (r1:=i5 e m.lamps last (wd::r)) Rj' (kd (kj.trans (kk.mono (by simp)))) (λ_ h=>h) λx7 v H7 hx7 k7 j7 Ow R7=>?_⟩
   .rw[nP];exact yz _ _
   obtain⟨rfl,Y7⟩:=Ow;have X7:=X6.line Y6 j7
   have lL:l≠L.p:=by
    obtain⟨_,_,hq,_⟩:=Y6.kF;exact gK Zc hq (by intro z;cases z)
   have He:=j7.k _ _ Zc (by simpa using lL);have Wg:fb [L.p,l] H H7:=(kj.trans (kk.mono (by simp))).trans (j7.mono (by simp));have e2:=we hx7;obtain⟨_,_,_,_,_,hw7,hs7,_⟩:=Y7.ex;simp only[aF]at hlen;refine⟨l,_,_,rfl,rfl,He,by rw[ia,aq];simp;omega,?_⟩;refine⟨r.length,by simp,hs++[last],x7.1.1,r,x7.1.2,rfl,rfl,Wg.trans (.put He (by simp) gS),X7.keep (S:=[l]) (.put He (by simp) gS) ?_ λi=>?_,?_,?_,by rw[aq];simp;omega,R7⟩
   .obtain⟨d9,h9⟩:=X7.ob;simpa using gK h9 He (by intro z;cases z)
   .simpa using gK (X7.dt i) He (by intro z;cases z)
   .rw[<-e2];refine Y7.keep (S:=[l]) (.put He (by simp) gS) (by simpa using lL.symm) ?_ ?_
    .simpa using Yl.1
    simpa using Yl.2
   rw[eV,nP (hs++[last])];rfl
  have y3:Iz "loop" (wd::r)=true:=by simpa using y
  have Rj':uH e m.lamps (hs++[last]) last (wd::r)=.ok (hs++[last],wd::r):=by
   show(if wd.w=LOOP then _ else _)=_;rw[ak (show wd.w=LOOP from aj y3)]
  rw[Rj']at Rj;exact⟨_,rfl,Rj _ _ (kd (kj.trans (kk.mono (by simp)))) ⟨l,rfl,VI,kk.k _ _ Wf (by simp),_,Yj.same kk⟩⟩
 have e0:=Qt z;subst e0;exact⟨_,rfl,Rj _ _ (kd kj) ⟨l,rfl,VI,Wf,_,Yj⟩⟩
theorem GK(p:Nat):∀l:List Nat,Ru (.int (p:Int)) (nV l)=decide (p∈l)
 |[]=>by simp[Ru,nV]
 |q::l=>by
  show(Rt (.int (q:Int)) (.int (p:Int))||Ru (.int (p:Int)) (nV l))=_;rw[GK p l]
  have e:Rt (.int (q:Int)) (.int (p:Int))=decide (p=q):=by
   show decide ((q:Int)=(p:Int))=_;rw[a6];omega
  rw[e];by_cases h:p=q<;>by_cases h2:p∈l<;>simp[h,h2]
theorem GL:∀l:List Nat,(nV l).all yA=true
 |[]=>rfl
 |_::l=>GL l
inductive Fz(a:ij)(vs:List V)(H:Hp)(Q:VK)(E:XK):Prop
 |mk:∀(A:TA)(m:fX)(n:Nat)(L:LA)(e pl:Nat)(rest:List Word)(sp dx nt sl c st:Addr)(lp:Bool)(speaks:List Nat),vs=[.ref A.p,.ref sp,.ref L.p]->fZ a.fk H A m n->fw a.fj H L e rest pl->rest.length<=100000->H sp=some (.ins a.jg dx (BX nt sl c lp st))->H sl=some (.lst (nV speaks))->Run a.eX [L.p] H (je e m.lamps speaks [] (-1) rest) (λx v H'=>∃l,v=.ref l/\H l=none/\H' l=some (.lst (nV x))/\∃r pl,fw a.fj H' L e r pl) Q E->Fz a vs H Q E
def yl(T:Txt K mg a):gj P w K mg bz (PL a) 7 a.iS ["table","show","line"] (Fz a):=by
 refine jx T.rQ jO ?_;rintro _ _ _ _ H _ Q E _ hr ⟨A,m,n,L,e,pl,rest,sp,Zd,nt,sl,c,st,lp,speaks,rfl,X,Y,Cr,hsp,KW,R⟩
 refine⟨_,eW (fP 3 jO (gO m8))
  (eW (fP 4 jO (yy tX fA))
  (eW (m6 aE (jd (lW (pv 2) T.fg T.iY (gF T) hr))
   (eW (fP 4 jO (gy (uD T) hr T.jL (Ab (pv 0) (pv 2) (pv 4))))
   (eW (fS (fm F5 (pv 4) (gI 1) rfl)
    (ff (Av (fN T) hr rfl (jy (iy T.vL) (gI 2))))
    fB)
   (ya (mD aX aI aJ iD (pv 3) (iF (pv 4)))))))
  (kY (pv 3)))),Kj ?_⟩
 intros;refine⟨(show 0<=sizeLine by decide),λl hl=>?_⟩
 have Yl:L.wl≠l/\L.sl≠l:=by
  obtain⟨_,_,_,_,_,hw,hs,_⟩:=Y.ex;exact⟨ft hw hl,ft hs hl⟩
 have spL:sp≠L.p:=by
  obtain⟨_,fs,h1,_,_,_,_,_,_,_,_,_,_,BY⟩:=Y.kF;refine gK hsp h1 λz=>?_;injection z with _ _ z3;rw[<-z3]at BY;cases(show(none:Option V)=some _ from BY)
 have slL:sl≠L.p:=by
  obtain⟨_,fs,h1,_⟩:=Y.kF;exact gK KW h1 (by intro z;cases z)
 have spl:sp≠l:=ft hsp hl;have sll:sl≠l:=ft KW hl
 have lL:l≠L.p:=by
  obtain⟨_,fs,h1,_⟩:=Y.kF;exact(ft h1 hl).symm
 refine⟨_,rfl,?_⟩
 refine⟨λmu σ H'=>∃(had:List Nat)(bef:Int)(lj:List Word)(plj:Nat),mu=lj.length/\σ=[some (.ref A.p),some (.ref sp),some (.ref L.p),some (.ref l),some (.int bef)]/\fb [L.p,l] H H'/\fZ a.fk H' A m n/\fw a.fj H' L e lj plj/\H' l=some (.lst (nV had))/\had.length+lj.length<=100000/\
  Run a.eX [L.p] H (je e m.lamps speaks had bef lj) (λx v H'=>∃l,v=.ref l/\H l=none/\H' l=some (.lst (nV x))/\∃r pl,fw a.fj H' L e r pl) Q E,
  ⟨_,[],-1,rest,pl,rfl,rfl,.new hl,X.keep (S:=[]) (.new hl) (by simp) (by simp),Y.same (.new hl),eV,by simpa using Cr,R⟩,?_⟩
 rintro mu σ H' ⟨had,bef,lj,plj,rfl,rfl,kj,Xj,Yj,Wf,hlen,Rj⟩;have big:100002<sizeLine:=by decide
 have kd:∀{H''},fb [L.p,l] H H''->fb [L.p] H H'':=λkk=>⟨λb o e nb=>kk.k b o e (by
  intro z;rcases aA.mp z with y|y
  .exact nb (by rw[y];simp)
  have:b=l:=by simpa using y
  rw[this,hl]at e;cases e),kk.t⟩
 obtain⟨dx,fs,h1,l1,l2,l3,l4,l5,l6,l7,l8,l9,tT,BY⟩:=Yj.kF;refine⟨_,rfl,_,_,_,rfl,h1,l1,L,e,_,_,rfl,Yj,_,rfl,fH (λz=>?_) λz=>?_⟩
 .obtain⟨wd,r,Yf⟩:∃wd r,lj=wd::r:=by
   cases lj with
   |nil=>cases z
   |cons wd r=>exact⟨wd,r,rfl⟩
  subst Yf;have Rj':Run a.eX [L.p] H (i5 e m.lamps bef (wd::r)>>=λx=>if x.1.1∈speaks then je e m.lamps speaks (had++[x.1.1]) x.1.1 r else .error ⟨6,x.1.2⟩) (λx v H'=>∃l,v=.ref l/\H l=none/\H' l=some (.lst (nV x))/\∃r pl,fw a.fj H' L e r pl) Q E:=Rj
  refine⟨λσ' H''=>∃Jx,Jx<(wd::r).length/\∃(had:List Nat)(bef:Int)(lj:List Word)(plj:Nat),Jx=lj.length/\σ'=[some (.ref A.p),some (.ref sp),some (.ref L.p),some (.ref l),some (.int bef)]/\fb [L.p,l] H H''/\fZ a.fk H'' A m n/\fw a.fj H'' L e lj plj/\H'' l=some (.lst (nV had))/\had.length+lj.length<=100000/\
   Run a.eX [L.p] H (je e m.lamps speaks had bef lj) (λx v H'=>∃l,v=.ref l/\H l=none/\H' l=some (.lst (nV x))/\∃r pl,fw a.fj H' L e r pl) Q E,λσ' H'' z=>z,?_⟩
  refine⟨_,rfl,_,rfl,_,rfl,A,m,n,L,e,_,bef,_,rfl,Xj,Yj,Run.gk (r1:=i5 e m.lamps bef (wd::r)) Rj' (kd kj) (λ_ h=>h) λx7 v H7 hx7 k7 j7 Ow R7=>?_⟩;obtain⟨rfl,Y7⟩:=Ow;have X7:=Xj.line Yj j7;have Wg:fb [L.p,l] H H7:=kj.trans (j7.mono (by simp));have He:=j7.k _ _ Wf (by simpa using lL);have aa2:=Wg.k _ _ hsp (by simp[spL,spl]);have aa3:=Wg.k _ _ KW (by simp[slL,sll]);have e2:=we hx7;obtain⟨dx,fs,h1,_,_,_,_,_,_,_,_,_,tT,_⟩:=Y7.kF;simp only[aF]at hlen;refine⟨_,rfl,_,rfl,_,_,_,_,_,rfl,aa2,T.ie,T.nB,rfl,sl,_,rfl,.inl (gC.of aa3),rfl,GL _,_,rfl,?_⟩;rw[GK];refine fH (λq=>?_) (λq=>?_)
  .rw[ag (by simpa using q)]at R7;exact⟨_,rfl,_,_,_,_,_,rfl,h1,T.fg,T.fK,tT,_,_,rfl,Run.raise R7 (kd Wg)⟩
  rw[ak (by simpa using q)]at R7;refine⟨_,rfl,.inl ⟨rfl,_,gC.of He⟩,_,rfl,l,_,_,rfl,rfl,He,by rw[ia];omega,?_⟩;refine⟨r.length,by simp,had++[x7.1.1],x7.1.1,r,x7.1.2,rfl,rfl,Wg.trans (.put He (by simp) gS),X7.keep (S:=[l]) (.put He (by simp) gS) ?_ λi=>?_,?_,?_,by rw[aq];simp;omega,R7⟩
  .obtain⟨d9,h9⟩:=X7.ob;simpa using gK h9 He (by intro z;cases z)
  .simpa using gK (X7.dt i) He (by intro z;cases z)
  .rw[<-e2];exact Y7.keep (S:=[l]) (.put He (by simp) gS) (by simpa using lL.symm) (by simpa using Yl.1) (by simpa using Yl.2)
  rw[eV,nP];rfl
 have e0:=Qt z;subst e0;exact⟨_,rfl,Rj _ _ (kd kj) ⟨l,rfl,hl,Wf,_,_,Yj⟩⟩
theorem fb.back(k:fb S H H1)(hs:∀s∈S,H1 s≠none)(h:H1 z=none):H z=none:=by
 cases q:H z with
 |none=>rfl
 |some o=>
  by_cases y:z∈S
  .exact absurd h (hs z y)
  rw[k.k z o q y]at h;cases h
def fw.nn{rest:List Word}(x:fw C H L e rest pl):∀s∈[L.p],H s≠none:=λs hs=>by
 obtain⟨_,_,h1,_⟩:=x.kF;have:s=L.p:=by simpa using hs
 rw[this,h1];intro z;cases z
inductive ir{α β:Type}(R:α->β->Prop):List α->List β->Prop
 |nil:ir R [] []
 |cons {x y xs ys}:R x y->ir R xs ys->ir R (x::xs) (y::ys)
section
variable{α β:Type}{R R':α->β->Prop}
theorem ir.imp(h:∀x y,R x y->R' x y):∀{xs:List α}{ys:List β},ir R xs ys->ir R' xs ys
 |_,_,.nil=>.nil
 |_,_,.cons a b=>.cons (h _ _ a) (ir.imp h b)
theorem ir.len:∀{xs:List α}{ys:List β},ir R xs ys->xs.length=ys.length
 |_,_,.nil=>rfl
 |_,_,.cons _ b=>by rw[aF,aF,b.len]
theorem ir.snoc:∀{xs:List α}{ys:List β}{x:α}{y:β},ir R xs ys->R x y->ir R (xs++[x]) (ys++[y])
 |_,_,_,_,.nil,h=>.cons h .nil
 |_,_,_,_,.cons a b,h=>.cons a (b.snoc h)
theorem ir.get:∀{xs:List α}{ys:List β}{i:Nat}{x:α}{y:β},ir R xs ys->xs[i]? =some x->ys[i]? =some y->R x y
 |_,_,0,_,_,.cons a b,h1,h2=>by
  have e1:=ao h1;have e2:=ao h2;subst e1;subst e2;exact a
 |_,_,i+1,_,_,.cons a b,h1,h2=>b.get (by simpa using h1) (by simpa using h2)
def ir.GN{xs:List α}{ys:List β}{i:Nat}{y:β}(h:ir R xs ys)(h2:ys[i]? =some y):∃x,xs[i]? =some x/\R x y:=by
 have hl:=h.len;have hi:=(ay.mp h2).1;obtain⟨x,hx⟩:∃x,xs[i]? =some x:=⟨_,az (by omega)⟩;exact⟨x,hx,h.get hx h2⟩
def ir.getL{xs:List α}{ys:List β}{i:Nat}{x:α}(h:ir R xs ys)(h2:xs[i]? =some x):∃y,ys[i]? =some y/\R x y:=by
 have hl:=h.len;have hi:=(ay.mp h2).1;obtain⟨y,hy⟩:∃y,ys[i]? =some y:=⟨_,az (by omega)⟩;exact⟨y,hy,h.get h2 hy⟩
theorem ir.of:∀{xs:List α}{ys:List β},xs.length=ys.length->(∀(i:Nat) x y,xs[i]? =some x->ys[i]? =some y->R x y)->ir R xs ys
 |[],[],_,_=>.nil
 |[],_::_,h,_=>by simp at h
 |_::_,[],h,_=>by simp at h
 |x::xs,y::ys,h,k=>.cons (k 0 x y rfl rfl) (ir.of (by simpa using h) λi x' y' a b=>k (i+1) x' y' (by simpa using a) (by simpa using b))
end
inductive sC(a:ij)(F:Hp)(p:Addr)(x:Tilt.Step):Prop
 |mk:∀dx l c,F p=some (.ins a.nv dx (xK x.ticks l c))->F l=some (.lst (nV x.lit))->F c=some (.lst (nV (hZ x.lit)))->sC a F p x
inductive FA(a:ij)(F:Hp)(H:Hp)(p:Addr)(st:Addr)(s:Show):Prop
 |mk:∀dx nt l c sps,F p=some (.ins a.jg dx (BX nt l c s.loop st))->F nt=some (nU s.name)->F l=some (.lst (nV s.speaks))->F c=some (.lst (nV (hZ s.speaks)))->H st=some (.lst (sps.map V.ref))->ir (sC a F) sps s.steps->FA a F H p st s
inductive oG(a:ij)(F:Hp)(p:Addr)(s:Show):Prop
 |mk:∀st,FA a F F p st s->oG a F p s
def sC.same(h:sC a F p x)(s:oj F G):sC a G p x:=
 let⟨dx,l,c,h1,h2,h3⟩:=h
 ⟨dx,l,c,s _ _ h1,s _ _ h2,s _ _ h3⟩
theorem FA.same{p st:Addr}(h:FA a F H p st x)(s:oj F G)(t:∀o,H st=some o->H' st=some o):FA a G H' p st x:=
 let⟨dx,nt,l,c,sps,h1,h2,h3,h4,h5,h6⟩:=h
 ⟨dx,nt,l,c,sps,s _ _ h1,s _ _ h2,s _ _ h3,s _ _ h4,t _ h5,h6.imp λ_ _ z=>z.same s⟩
theorem oG.same(h:oG a F p x)(s:oj F G):oG a G p x:=
 let⟨st,h⟩:=h
 ⟨st,h.same s λo z=>s _ _ z⟩
structure Oh(a:ij)(F H:Hp)(sh:Addr)(M:List Addr)(b:Book):Prop where
 same:oj F H
 fr:∀x∈M,F x=none
 mem:sh∈M
 al:∀x∈M,H x≠none
 ex:(b=[]/\H sh=some (.lst []))\/∃fs s qs p st,b=fs++[s]/\H sh=some (.lst ((qs++[p]).map V.ref))/\ir (oG a F) qs fs/\FA a F H p st s/\st∈M/\st≠sh
def Oh.keep(x:Oh a F H sh M b)(k:fb S H H')(n:∀z∈S,F z=none/\z∉M):Oh a F H' sh M b:=by
 have q:∀z o,z∈M->H z=some o->H' z=some o:=λz o hz e=>k.k z o e λy=>(n z y).2 hz;refine⟨fb.base x.same k λz hz=>(n z hz).1,x.fr,x.mem,λz hz=>?_,?_⟩
 .cases e:H z with
  |none=>exact absurd e (x.al z hz)
  |some o=>rw[q z o hz e];intro y;cases y
 rcases x.ex with⟨h1,h2⟩|⟨fs,s,qs,p,st,h1,h2,h3,h4,h5,h6⟩
 .exact .inl ⟨h1,q _ _ x.mem h2⟩
 exact .inr ⟨fs,s,qs,p,st,h1,q _ _ x.mem h2,h3,h4.same (λ_ _ z=>z) λo z=>q _ _ h5 z,h5,h6⟩
theorem Oh.lst(x:Oh a F H sh M b):∃qs,H sh=some (.lst (qs.map V.ref))/\ir (λp(s:Show)=>∃dx nt l c st,F p=some (.ins a.jg dx (BX nt l c s.loop st))/\F nt=some (nU s.name)) qs b:=by
 rcases x.ex with⟨h1,h2⟩|⟨fs,s,qs,p,st,h1,h2,h3,h4,h5,h6⟩
 .exact⟨[],h2,by rw[h1];exact .nil⟩
 refine⟨qs++[p],h2,?_⟩;rw[h1];refine ir.snoc (h3.imp λy z w=>?_) ?_
 .obtain⟨st,dx,nt,l,c,sps,g1,g2,_⟩:=w;exact⟨dx,nt,l,c,st,g1,g2⟩
 obtain⟨dx,nt,l,c,sps,g1,g2,_⟩:=h4;exact⟨dx,nt,l,c,st,g1,g2⟩
def IQ(fs:Book)(s:Show):awaits (fs++[s])=decide (s.steps.length=0):=by
 unfold awaits;rw[List.getLast?_append];rfl
inductive IT(a:ij)(vs:List V)(H:Hp)(Q:VK)(u1:XK):Prop
 |mk:∀(F:Hp)(sh:Addr)(M:List Addr)(b:Book),vs=[.ref sh]->Oh a F H sh M b->Q (.bl (awaits b)) H->IT a vs H Q u1
def wg(T:Txt K mg a):gj P w K mg bz (PL a) 1 a.js ["shows"] (IT a):=by
 refine jx T.xy Dz ?_;rintro _ _ _ s H _ Q _ _ _ ⟨F,sh,M,b,rfl,B,k⟩;refine⟨_,kY (Af (ma ve (gM T.iA (pv 0)) fA (fv _)) (Ae (ma ig (gM T.iA (mm (gQ gp (pv 0) (yy tX fA) λ_ _=>rfl) rfl)) fA (fv _)))),?_⟩;rcases B.ex with⟨h1,h2⟩|⟨_,s,qs,p,_,h1,h2,_,h4,_⟩
 .refine⟨_,rfl,_,_,rfl,.inl (gC.of h2),_,_,rfl,rfl,_,rfl,oh ?_⟩;rw[h1]at k;exact k
 obtain⟨_,_,_,_,sps,g1,_,_,_,g5,g6⟩:=h4;refine⟨_,rfl,_,_,rfl,.inl (gC.of h2),_,_,rfl,rfl,_,rfl,?_⟩;rw[show decide (((qs++[p]).map V.ref).length>(0:Int))=true from by rw[aw,aq];simp];refine m9 ⟨_,rfl,_,rfl,_,_,_,_,rfl,rfl,gC.of h2,?_,_,_,_,_,_,rfl,B.same _ _ g1,T.ie,T.iC,rfl,_,_,rfl,.inl (gC.of g5),rfl,?_⟩
 .rw[aL];exact yz _ _
 rw[h1,IQ]at k
 have e:decide (V.int ((sps.map V.ref).length:Int)=V.int 0)=decide (s.steps.length=0):=by
  rw[aw,g6.len,a6];exact⟨λz=>by have:=V.int.inj z;omega,λz=>by rw[z];rfl⟩
 rw[e];exact k
theorem ym{α β:Type}{r:Except Fault α}{f:α->Except Fault β}{y:β}(h:(r>>=f)=.ok y):∃x,r=.ok x/\f x=.ok y:=by
 cases r with
 |error e=>cases h
 |ok x=>exact⟨x,rfl,h⟩
theorem Cq(h:Tilt.next e l=.ok x):x.2.length<=l.length:=by
 cases l with
 |nil=>cases h
 |cons w r=>cases h;simp
def QI{l:List Word}{x:Word×List Word}(h:nW e l=.ok x):x.2.length<=l.length:=by
 obtain⟨y,h1,h2⟩:=ym (show(Tilt.next e l>>=λx=>if Tilt.isName x.1.w=false then .error ⟨4,x.1.at_⟩else pure x)=.ok x from h);by_cases q:Tilt.isName y.1.w=false
 .rw[ak q]at h2;cases h2
 rw[ag q]at h2;cases h2;exact Cq h1
def SM{l:List Word}{x:Word×List Word}(h:vv e ns l=.ok x):x.2.length<=l.length:=by
 obtain⟨y,h1,h2⟩:=ym (show(nW e l>>=λx=>if x.1.w∈ns then .error ⟨5,x.1.at_⟩else pure x)=.ok x from h);by_cases q:y.1.w∈ns
 .rw[ak q]at h2;cases h2
 rw[ag q]at h2;cases h2;exact QI h1
def SN{l r:List Word}(h:Tilt.must e s l=.ok r):r.length<=l.length:=by
 obtain⟨y,h1,h2⟩:=ym (show(Tilt.next e l>>=λx=>if x.1.w=Tilt.ascii s then pure x.2 else .error ⟨3,x.1.at_⟩)=.ok r from h);by_cases q:y.1.w=Tilt.ascii s
 .rw[ak q]at h2;cases h2;exact Cq h1
 rw[ag q]at h2;cases h2
theorem Ky{e lo hi:Nat}{l:List Word}(h:gU e lo hi l=.ok x):x.2.length<=l.length:=by
 obtain⟨y,h1,h2⟩:=ym (show(Tilt.next e l>>=λx=>match ji x.1.w with
  |none=>.error ⟨4,x.1.at_⟩
  |some n=>if n<lo\/hi<n then .error ⟨4,x.1.at_⟩else pure ((n,x.1.at_),x.2))=.ok x from h)
 cases q:ji y.1.w with
 |none=>rw[q]at h2;cases h2
 |some n=>
  rw[q]at h2;by_cases z:n<lo\/hi<n
  .have h3:(if n<lo\/hi<n then Except.error (Fault.mk 4 y.1.at_)else pure ((n,y.1.at_),y.2))=.ok x:=h2;rw[ak z]at h3;cases h3
  have h3:(if n<lo\/hi<n then Except.error (Fault.mk 4 y.1.at_)else pure ((n,y.1.at_),y.2))=.ok x:=h2;rw[ag z]at h3;cases h3;exact Cq h1
theorem SO{w:Bytes}(h:∀x∈lamps,x.2<n)(hw:w∈MT.nm lamps):MT.look lamps w<n:=by
 unfold MT.look;cases q:lamps.find? λp=>p.1==w with
 |none=>
  obtain⟨x,hx,e⟩:=dE.mp hw;have:=List.find?_eq_none.mp q x hx;rw[e]at this;simp at this
 |some x=>exact h x (List.mem_of_find?_eq_some q)
def AK{x:(Nat×Nat)×List Word}(hl:∀x∈lamps,x.2<n)(h:i5 e lamps bef l=.ok x):x.1.1<n:=by
 obtain⟨y,h1,h2⟩:=ym (show(iU e (MT.nm lamps) l>>=λx=>if(MT.look lamps x.1.w:Int)<=bef then .error ⟨5,x.1.at_⟩else pure ((MT.look lamps x.1.w,x.1.at_),x.2))=.ok x from h);by_cases q:(MT.look lamps y.1.w:Int)<=bef
 .rw[ak q]at h2;cases h2
 rw[ag q]at h2;cases h2;exact SO hl (zO h1)
theorem Ms(hl:∀x∈lamps,x.2<n):∀(l:List Word)(had:List Nat)(last:Nat){y:List Nat×List Word},(∀p∈had,p<n)->uH e lamps had last l=.ok y->(∀p∈y.1,p<n)/\y.2.length<=l.length
 |[],had,last,y,hh,h=>by cases h;exact⟨hh,aH _⟩
 |w::r,had,last,y,hh,h=>by
  have h':(if w.w=LOOP then Except.ok (had,w::r)else i5 e lamps last (w::r)>>=λx=>uH e lamps (had++[x.1.1]) x.1.1 r)=.ok y:=h;by_cases q:w.w=LOOP
  .rw[ak q]at h';cases h';exact⟨hh,aH _⟩
  rw[ag q]at h';obtain⟨x,h1,h2⟩:=ym h'
  obtain⟨g1,g2⟩:=Ms hl r _ _ (λp hp=>by
   rcases aG.mp hp with z|z
   .exact hh p z
   simp at z;rw[z];exact AK hl h1) h2
  exact⟨g1,by simp;omega⟩
def GO(hl:∀x∈lamps,x.2<n){y:List Nat×List Word}(h:qg e lamps l=.ok y):∀p∈y.1,p<n:=by
 obtain⟨x,h1,h2⟩:=ym (show(i5 e lamps (-1) l>>=λx=>uH e lamps [x.1.1] x.1.1 x.2)=.ok y from h);exact(Ms hl x.2 _ _ (λp hp=>by simp at hp;rw[hp];exact AK hl h1) h2).1
theorem zQ{e n:Nat}{lamps:List (Bytes×Nat)}{speaks:List Nat}(hl:∀x∈lamps,x.2<n):∀(l:List Word)(had:List Nat)(bef:Int){y:List Nat},(∀p∈had,p<n)->je e lamps speaks had bef l=.ok y->∀p∈y,p<n
 |[],had,bef,y,hh,h=>by cases h;exact hh
 |w::r,had,bef,y,hh,h=>by
  obtain⟨x,h1,h2⟩:=ym (show(i5 e lamps bef (w::r)>>=λx=>if x.1.1∈speaks then je e lamps speaks (had++[x.1.1]) x.1.1 r else .error ⟨6,x.1.2⟩)=.ok y from h);by_cases q:x.1.1∈speaks
  .rw[ak q]at h2
   exact zQ hl r _ _ (λp hp=>by
    rcases aG.mp hp with z|z
    .exact hh p z
    simp at z;rw[z];exact AK hl h1) h2
  rw[ag q]at h2;cases h2
theorem IU{a:ij}:∀{qs:List Addr}{b:Book},ir (λp(s:Show)=>∃dx nt l c st,F p=some (.ins a.jg dx (BX nt l c s.loop st))/\F nt=some (nU s.name)) qs b->
  ∃ts:List Addr,ir (λp t=>∃dx l c lp st,F p=some (.ins a.jg dx (BX t l c lp st))) qs ts/\Ex F ts (b.map (·.name))
 |_,_,.nil=>⟨[],.nil,rfl,λi t n h=>by simp at h⟩
 |_,_,.cons h r=>by
  obtain⟨ts,h1,h2,h3⟩:=IU r;obtain⟨dx,nt,l,c,st,g1,g2⟩:=h;refine⟨nt::ts,.cons ⟨dx,l,c,_,st,g1⟩ h1,by simp[h2],λi t n q1 q2=>?_⟩;cases i with
  |zero=>
   have e1:=ao q1;have e2:=ao q2;subst e1;subst e2;exact g2
  |succ i=>exact h3 i t n (by simpa using q1) (by simpa using q2)
inductive D1(a:ij)(L:LA)(e:Nat)(H:Hp)(s:Show)(v:V)(H':Hp):Prop
 |mk:∀p st,v=.ref p->H p=none->H st=none->H' st=some (.lst [])->(∃dx nt l c,H l=none/\H c=none/\H' p=some (.ins a.jg dx (BX nt l c s.loop st))/\H' nt=some (nU s.name)/\H' l=some (.lst (nV s.speaks))/\H' c=some (.lst (nV (hZ s.speaks)))/\l≠st/\c≠st)->s.steps=[]->(∃r pl,fw a.fj H' L e r pl)->D1 a L e H s v H'
structure Bk(a:ij)(H:Hp)(A:TA)(m:fX)(L:LA)(e:Nat)(rest:List Word)(pl:Nat)(F:Hp)(sh:Addr)(M:List Addr)(b:Book):Prop where
 X:∃n,fZ a.fk H A m n
 Y:fw a.fj H L e rest pl
 ln:rest.length<=100000
 lt:∀x∈m.lamps,x.2<64
 B:Oh a F H sh M b
 fL:F L.p=none
 nL:L.p∉M
 ZZ:L.wl≠sh/\L.sl≠sh
 Z0:L.wl∉M/\L.sl∉M
theorem Bk.line{rest Rh:List Word}(x:Bk a H A m L e rest pl F sh M b)(k:fb [L.p] H H')(y:fw a.fj H' L e Rh pl')(h:Rh.length<=rest.length):Bk a H' A m L e Rh pl' F sh M b:=by
 obtain⟨n,X⟩:=x.X;exact⟨⟨n,X.line x.Y k⟩,y,a7 h x.ln,x.lt,x.B.keep k (λz hz=>by simp at hz;rw[hz];exact⟨x.fL,x.nL⟩),x.fL,x.nL,x.ZZ,x.Z0⟩
inductive Mt(a:ij)(vs:List V)(H:Hp)(Q:VK)(E:XK):Prop
 |mk:∀(A:TA)(m:fX)(L:LA)(e:Nat)(rest:List Word)(pl:Nat)(F:Hp)(sh:Addr)(M:List Addr)(b:Book),vs=[.ref A.p,.ref sh,.ref L.p]->Bk a H A m L e rest pl F sh M b->b.length<=32->Run a.eX [L.p] H (AY e pl m.lamps b rest) (D1 a L e H) Q E->Mt a vs H Q E
def GP(T:Txt K mg a):gj P w K mg bz (PL a) 8 a.mI ["table","shows","line"] (Mt a):=by
 refine jx T.BE lG ?_;rintro _ _ _ _ H _ Q E _ hr ⟨A,m,L,e,rest,pl,F,sh,M,b,rfl,Z,Ym,R⟩
 refine⟨_,(eW (fS (PW.pt (qd (fm ig (gM T.iA (pv 1)) (iy T.zm) (fv _)) (og (jd (gy (wg T) hr T.js (iF (pv 1)))))))
   (ff (Av (fN T) hr rfl (jy (iy T.iK) (gI 2))))
   fB)
  (eW (fP 3 lG (kT (pv 2) T.fg T.jZ (jj T) hr (iF (O8 (te:=wK K (jk 6) "name") (own:=[("show",6)]) rfl lG.nd (qY (pv 1)) (CQ (N:=["table","shows","line","name","lamps","loops","show"]) (sc:=eZ vC) (by decide+kernel)) (λ_ _ _ _ _=>ib (i:=6) lG.nd rfl (Or.inl rfl)) (λ_ _ _ _ _=>F7) λ_ _ _ _ _=>(gI 6)))))
  (eW (gi (kT (pv 2) T.fg T.gH (fM T) hr (iF gY)))
  (eW (fP 4 lG (gy (yk T) hr T.iR (jy (pv 0) (pv 2))))
  (eW (fP 5 lG (lW (pv 2) T.fg T.iY (gF T) hr))
  (eW (fS (jd (pv 5))
   (ya (kT (pv 2) T.fg T.gH (fM T) hr (iF gY)))
   fB)
  (eW (gi (lW (pv 2) T.fg T.zx (qS T) hr))
  (kY (Gq T.Qb (SJ T) hr T.jg (Ab (pv 3) (pv 4) (pv 5))))))))))),YK ?_⟩
 intros;obtain⟨qs,hq,all⟩:=Z.B.lst;obtain⟨dx,fs,h1,l1,l2,l3,l4,l5,l6,l7,l8,l9,tT,BY⟩:=Z.Y.kF;unfold AY at R
 have e32:decide (V.int ((qs.map V.ref).length:Int)=V.int 32)=decide (b.length=32):=by
  rw[aw,all.len,a6];exact⟨λz=>by have:=V.int.inj z;omega,λz=>by rw[z];rfl⟩
 refine⟨_,rfl,_,_,rfl,.inl (gC.of hq),rfl,_,rfl,?_⟩;rw[e32];refine fH (λq=>m9 ?_) (λq=>⟨_,rfl,F,sh,M,b,rfl,Z.B,_,rfl,fH (λq2=>?_) λq2=>?_⟩)
 .rw[ak (.inl (aj q))]at R;exact⟨_,rfl,_,_,_,_,_,rfl,h1,T.fg,T.fK,tT,_,_,rfl,Run.raise R .refl⟩
 .rw[ak (.inr q2)]at R;exact⟨_,rfl,_,_,_,_,_,rfl,h1,T.fg,T.fK,tT,_,_,rfl,Run.raise R .refl⟩
 rw[ag λz=>z.elim (λz=>au q z) λz=>by rw[q2]at z;cases z]at R;obtain⟨ts,at2,tu⟩:=IU all;refine⟨_,rfl,_,_,_,rfl,h1,l6,_,rfl,sh,rfl,⟨_,gC.of hq⟩,λD hD=>RV (K:=K) (a:=sh) (xs:=qs.map V.ref) (λi H'=>fb [D] H H'/\H' D=some (.lst ((ts.take i).map V.ref))) ⟨.new hD,eV⟩ (λi H' _ p=>gC.of (p.1.k _ _ hq (by simpa using ft hq hD))) ?_ ?_⟩
 .rintro i x H2 hx ⟨p1,p2⟩;rw[aK]at hx;cases Cs:qs[i]? with
  |none=>rw[Cs]at hx;cases hx
  |some p=>
   rw[Cs]at hx;have Ha:=ao hx;subst Ha;obtain⟨t,ht,dx,l,c,lp,st,g1⟩:=at2.getL Cs;have g1':=Z.B.same _ _ g1;have ils:=(ay.mp Cs).1;have l1':=all.len;have big:100<sizeLine:=by decide
   refine⟨rfl,_,rfl,p,_,_,_,_,rfl,p1.k _ _ g1' (by simpa using ft g1' hD),T.ie,T.mX,rfl,_,p2,?_,p1.trans (.put p2 (by simp) gS),?_⟩
   .rw[aw,bh];omega
   rw[eV,take_snoc ht,aL];rfl
 rintro H2 ⟨p1,p2⟩;rw[aw,cN (by rw[at2.len];exact aH _)]at p2;have k2:fb [] H H2:=p1.drop hD;have Z2:Bk a H2 A m L e rest pl F sh M b:=Z.line (k2.mono (by simp)) (Z.Y.same k2) (aH _);refine⟨L,e,pl,rest,D,b.map (·.name),rfl,Z2.Y,.inr ⟨ts,p2,tu.keep (fb.of_same (S:=[]) Z2.B.same)⟩,Run.gk (r1:=vv e (b.map (·.name)) rest) R (k2.mono (by simp)) (λ_ h=>h) λx v H3 hx k3 j3 Aa R=>?_⟩;obtain⟨⟨t,rfl,ht⟩,hne,Y3⟩:=Aa;have Z3:=Z2.line j3 Y3 (SM hx);obtain⟨dx,fs,h1,l1,l2,l3,l4,l5,l6,l7,l8,l9,tT,BY⟩:=Z3.Y.kF;refine⟨_,rfl,_,_,_,rfl,h1,l4,L,e,_,_,"on",rfl,Z3.Y,AI (by decide+kernel),Run.gk (r1:=Tilt.must e "on" _) R k3 (λ_ h=>h) λx4 v H4 hx4 k4 j4 JF R=>?_⟩;obtain⟨rfl,Yk,Y4⟩:=JF;have Z4:=Z3.line j4 Y4 (SN hx4);obtain⟨n,X4⟩:=Z4.X;refine⟨_,rfl,_,rfl,A,m,n,L,e,_,_,rfl,X4,Z4.Y,Z4.ln,Run.gk (r1:=qg e m.lamps _) R k4 (λ_ h=>h) λy v H5 hy k5 j5 S9 R=>?_⟩;obtain⟨l,rfl,VI,hl5,pl5,Y5⟩:=S9;have lt5:=GO Z4.lt hy;obtain⟨dx,fs,h1,l1,l2,l3,l4,l5,l6,l7,l8,l9,tT,BY⟩:=Y5.kF;refine⟨_,rfl,_,_,_,rfl,h1,l1,L,e,_,_,rfl,Y5,_,rfl,?_⟩;have lL:l≠L.p:=λz=>by rw[z,h1]at hl5;cases hl5
 have ht5:H5 t=some (nU x.1.w):=j5.t _ _ (j4.t _ _ ht)
 have fin:∀(H7:Hp)(lp:Bool)(r7:List Word)(pl7:Nat),fb [L.p] H H7->fb [L.p] H5 H7->fw a.fj H7 L e r7 pl7->(∀v H',fb [L.p] H H'->D1 a L e H ⟨x.1.w,y.1,lp,[]⟩ v H'->Q v H')->
   ∀p dx,H7 p=none->H7 dx=none->dx≠p->Kx K a [.ref p,.ref t,.ref l,.bl lp] (upd (upd H7 dx (.own p)) p (.ins a.jg dx [])) (λv H2=>v=.hJ/\Q (.ref p) H2) (λ_ _ _=>False):=by
  intro H7 lp r7 pl7 k7 j7 Y7 R p dx hp VB RA;have He:=j7.k _ _ hl5 (by simpa using lL);have k8:fb [] H7 (upd (upd H7 dx (.own p)) p (.ins a.jg dx [])):=(fb.new VB).trans (fb.new (by rw[eY (aW RA)];exact hp));refine⟨p,dx,t,l,lp,y.1,rfl,eV,k8.k _ _ He (by simp),lt5,λc st H9 fc fst ncs k9 o9 oc ost=>⟨rfl,R _ _ ?_ ?_⟩⟩
  .exact k7.trans (((k8.mono (by simp)).trans k9).drop hp |>.mono (by simp))
  have k79:fb [] H7 H9:=((k8.mono (by simp)).trans k9).drop hp;have f7:∀{z},upd (upd H7 dx (.own p)) p (.ins a.jg dx []) z=none->H7 z=none:=λh=>k8.fresh h;have b7:∀{z},H7 z=none->H z=none:=λh=>k7.back Y7.nn h;refine⟨p,st,rfl,b7 hp,b7 (f7 fst),ost,⟨dx,t,l,c,?_,b7 (f7 fc),o9,k79.t _ _ (j7.t _ _ ht5),k79.k _ _ He (by simp),oc,?_,ncs⟩,rfl,r7,pl7,Y7.same k79⟩
  .exact(k4.back Y4.nn VI)
  exact λz=>by have:=f7 fst;rw[<-z,He]at this;cases this
 cases hy2:y.2 with
 |nil=>
  rw[hy2]at R Y5;rw[ak rfl]at R;have R:Run a.eX [L.p] H (Tilt.closed []>>=λ_=>pure (⟨x.1.w,y.1,false,[]⟩:Show)) (D1 a L e H) Q E:=R;refine⟨_,rfl,oh ?_⟩;obtain⟨dx,fs,h1,l1,l2,l3,l4,l5,l6,l7,l8,l9,tT,BY⟩:=Y5.kF;refine⟨_,rfl,_,_,_,rfl,h1,l8,L,e,_,_,rfl,Y5,Run.gk (r1:=Tilt.closed []) R k5 (by simp) λu v H7 _ k7 j7 Ow R=>?_⟩;refine⟨_,rfl,_,rfl,_,rfl,fin H7 _ _ _ k7 (j7.mono (by simp)) (Y5.same j7) R⟩
 |cons wd r=>
  rw[hy2]at R Y5;rw[ag (by simp)]at R;have R:Run a.eX [L.p] H (Tilt.must e "loop" (wd::r)>>=λl2=>Tilt.closed l2>>=λ_=>pure (⟨x.1.w,y.1,true,[]⟩:Show)) (D1 a L e H) Q E:=R;refine⟨_,rfl,m9 ?_⟩;obtain⟨dx,fs,h1,l1,l2,l3,l4,l5,l6,l7,l8,l9,tT,BY⟩:=Y5.kF;refine⟨_,rfl,_,_,_,rfl,h1,l4,L,e,_,_,"loop",rfl,Y5,AI (by decide+kernel),Run.gk (r1:=Tilt.must e "loop" _) R k5 (λ_ h=>h) λx6 v H6 hx6 k6 j6 VH R=>?_⟩;obtain⟨rfl,pl6,Y6⟩:=VH;obtain⟨dx,fs,h1,l1,l2,l3,l4,l5,l6,l7,l8,l9,tT,BY⟩:=Y6.kF;refine⟨_,rfl,_,_,_,rfl,h1,l8,L,e,_,_,rfl,Y6,Run.gk (r1:=Tilt.closed _) R k6 (by simp) λu v H7 _ k7 j7 Ow R=>?_⟩;refine⟨_,rfl,_,rfl,_,rfl,fin H7 _ _ _ k7 (j6.trans (j7.mono (by simp))) (Y6.same j7) R⟩
inductive Kz(a:ij)(L:LA)(e:Nat)(H:Hp)(x:Tilt.Step)(v:V)(H':Hp):Prop
 |mk:∀p dx l c,v=.ref p->H p=none->H l=none->H c=none->H' p=some (.ins a.nv dx (xK x.ticks l c))->H' l=some (.lst (nV x.lit))->H' c=some (.lst (nV (hZ x.lit)))->(∃r pl,fw a.fj H' L e r pl)->Kz a L e H x v H'
inductive Mu(a:ij)(vs:List V)(H:Hp)(Q:VK)(E:XK):Prop
 |mk:∀(A:TA)(m:fX)(L:LA)(e:Nat)(rest:List Word)(pl:Nat)(F:Hp)(sh:Addr)(M:List Addr)(b:Book),vs=[.ref A.p,.ref sh,.ref L.p]->Bk a H A m L e rest pl F sh M b->Run a.eX [L.p] H (HX e pl m.lamps b rest) (Kz a L e H) Q E->Mu a vs H Q E
def GQ(T:Txt K mg a):gj P w K mg bz (PL a) 8 a.mJ ["table","shows","line"] (Mu a):=by
 refine jx T.BF zf ?_;rintro _ _ _ s H _ Q E _ hr ⟨A,m,L,e,rest,pl,F,sh,M,b,rfl,Z,R⟩
 refine⟨_,eW (fS (PW.pt (qd (fm ig (gM T.iA (pv 1)) fA (fv _)) (og (fm ig (gM T.iA (mm (gQ gp (pv 1) (yy tX fA) λ_ _=>rfl) rfl)) (iy T.zo) (fv _)))))
   (ff (Av (fN T) hr rfl (jy (iy T.iK) (gI 2))))
   fB)
  (eW (fP 3 zf (kT (pv 2) T.fg T.iw (gB T) hr (jy fA (iy T.rG))))
  (kY (Gq T.Qa (SI T) hr T.nv (jy (pv 3) (gy (yl T) hr T.iS (Ab (pv 0) (gQ gp (pv 1) (yy tX fA) λ_ _=>rfl) (pv 2))))))),Fg ?_⟩
 intros;obtain⟨_,_,h1,_,_,_,_,l5,_,_,_,_,tT,_⟩:=Z.Y.kF;unfold HX at R;rcases Z.B.ex with⟨q1,q2⟩|⟨gs,s,qs,p,st,q1,q2,q3,q4,q5,q6⟩
 .rw[q1]at R;refine⟨_,rfl,_,_,rfl,.inl (gC.of q2),rfl,_,rfl,m9 (m9 ?_)⟩;exact⟨_,rfl,_,_,_,_,_,rfl,h1,T.fg,T.fK,tT,_,_,rfl,Run.raise R .refl⟩
 rw[q1,List.getLast?_append]at R;have R:Run a.eX [L.p] H (if s.steps.length=16 then .error ⟨3,pl⟩else gU e 1 65535 rest>>=λt=>je e m.lamps s.speaks [] (-1) t.2>>=λp=>pure (⟨t.1.1,p⟩:Tilt.Step)) (Kz a L e H) Q E:=R;obtain⟨Zd,nt,sl,c,sps,g1,g2,g3,g4,g5,g6⟩:=q4
 have e0:decide (V.int (((qs++[p]).map V.ref).length:Int)=V.int 0)=false:=by
  rw[dM];intro z;have:=V.int.inj z;rw[aw,aq,dY]at this;omega
 refine⟨_,rfl,_,_,rfl,.inl (gC.of q2),rfl,_,rfl,?_⟩;rw[e0];have Tb:Oy ((qs++[p]).map V.ref) (-1)=some (V.ref p):=by rw[aL];exact yz _ _
 have e16:decide (V.int ((sps.map V.ref).length:Int)=V.int 16)=decide (s.steps.length=16):=by
  rw[aw,g6.len,a6];exact⟨λz=>by have:=V.int.inj z;omega,λz=>by rw[z];rfl⟩
 refine oh ⟨_,rfl,_,rfl,_,_,_,_,rfl,rfl,gC.of q2,Tb,_,_,_,_,_,rfl,Z.B.same _ _ g1,T.ie,T.iC,rfl,_,_,rfl,.inl (gC.of g5),rfl,_,rfl,?_⟩;rw[e16];refine fH (λz=>?_) (λz=>?_)
 .rw[ak (aj z)]at R;exact⟨_,rfl,_,_,_,_,_,rfl,h1,T.fg,T.fK,tT,_,_,rfl,Run.raise R .refl⟩
 rw[ag (au z)]at R;refine⟨_,rfl,_,_,_,rfl,h1,l5,L,e,pl,1,65535,rest,rfl,Z.Y,Run.gk R .refl (λ_ h=>h) λx v H1 hx k1 j1 mh R=>?_⟩;obtain⟨rfl,Y1⟩:=mh;have Z1:=Z.line j1 Y1 (Ky hx);obtain⟨n,X1⟩:=Z1.X
 have q21:=j1.k _ _ q2 (by
  have:=Z.nL;simp only[eg];exact λz=>this (z▸Z.B.mem))
 refine⟨_,rfl,_,rfl,_,rfl,_,rfl,_,_,_,_,rfl,rfl,gC.of q21,Tb,_,rfl,A,m,n,L,e,_,_,p,Zd,nt,sl,c,st,s.loop,s.speaks,rfl,X1,Z1.Y,Z1.ln,Z1.B.same _ _ g1,Z1.B.same _ _ g3,Run.gk R k1 (λ_ h=>h) λy v H2 hy k2 j2 Hd R=>?_⟩;obtain⟨l,rfl,fl,hl,r2,pl2,Y2⟩:=Hd;intro z dz hz hdz nz;have k8:fb [] H2 (upd (upd H2 dz (.own z)) z (.ins a.nv dz [])):=(fb.new hdz).trans (fb.new (by rw[eY (aW nz)];exact hz));refine⟨z,dz,l,x.1.1,y,rfl,eV,k8.k _ _ hl (by simp),zQ Z1.lt _ _ _ (by simp) hy,λc' H9 fc k9 o9 oc=>⟨rfl,R _ _ ?_ ?_⟩⟩
 .exact k2.trans (((k8.mono (by simp)).trans k9).drop hz |>.mono (by simp))
 have k29:=((k8.mono (by simp)).trans k9).drop hz;have b2:∀{z},H2 z=none->H z=none:=λh=>k2.back Y2.nn h;refine⟨z,dz,l,c',rfl,b2 hz,k1.back Y1.nn fl,b2 (k8.fresh fc),o9,k29.k _ _ hl (by simp),oc,r2,pl2,Y2.same k29⟩
noncomputable def SQ:Option HO->Bool
 |some (.tup _)=>true
 |_=>false
theorem Mv(h:SQ (some o)=true):∃xs,o=.tup xs:=by
 cases o with
 |tup xs=>exact⟨xs,rfl⟩
 |_=>cases h
noncomputable def gr(F:Hp)(M:List Addr)(H H':Hp)(S:List Addr):Hp:=λx=>if x∈S then none else if((F x).isSome||(decide (x∈M)||((H x).isNone||SQ (H' x))))=true then H' x else none
def GR:oj (gr F M H H' S) H':=λx o h=>by
 unfold gr at h;by_cases q:x∈S
 .rw[ak q]at h;cases h
 rw[ag q]at h;by_cases z:((F x).isSome||(decide (x∈M)||((H x).isNone||SQ (H' x))))=true
 .rw[ak z]at h;exact h
 rw[ag z]at h;cases h
def T6(h:x∈S):gr F M H H' S x=none:=by unfold gr;rw[ak h]
def KA(h:x∉S)(e:H' x=some o)(c:F x≠none\/x∈M\/H x=none\/∃xs,o=.tup xs):gr F M H H' S x=some o:=by
 unfold gr;rw[ag h,ak,e];rcases c with c|c|c|⟨xs,c⟩
 .cases q:F x with
  |none=>exact absurd q c
  |some _=>simp
 .simp[c]
 .simp[c]
 rw[e,c];simp[SQ]
def QJ(s:oj F H')(h:gr F M H H' S x=some o):F x=some o\/x∈M\/H x=none\/∃xs,o=.tup xs:=by
 have e:=GR _ _ h;unfold gr at h;by_cases q:x∈S
 .rw[ak q]at h;cases h
 rw[ag q]at h;by_cases z:((F x).isSome||(decide (x∈M)||((H x).isNone||SQ (H' x))))=true
 .rw[eQ,eQ,eQ]at z;rcases z with z|z|z|z
  .cases y:F x with
   |none=>rw[y]at z;cases z
   |some o'=>
    have:=s _ _ y;rw[e]at this;exact .inl this.symm
  .exact .inr (.inl (aj z))
  .exact .inr (.inr (.inl (by simpa using z)))
  rw[e]at z;exact .inr (.inr (.inr (Mv z)))
 rw[ag z]at h;cases h
def Mw(s:oj F H')(h:∀x∈S,F x=none):oj F (gr F M H H' S):=λx o e=>KA (λz=>by rw[h x z]at e;cases e) (s x o e) (.inl (by rw[e];intro z;cases z))
def al2{H:Hp}{x y:Addr}(hx:H x≠none)(hy:H y≠none):∀z∈[x,y],H z≠none:=λz hz=>by
 rcases aA.mp hz with e|e
 .rw[e];exact hx
 have:z=y:=by simpa using e
 rw[this];exact hy
def Oh.close(x:Oh a F H sh M b):∃qs,H sh=some (.lst (qs.map V.ref))/\qs.length=b.length/\∀G,oj F G->(∀z o,z∈M->z≠sh->H z=some o->G z=some o)->ir (oG a G) qs b:=by
 rcases x.ex with⟨h1,h2⟩|⟨fs,s,qs,p,st,h1,h2,h3,h4,h5,h6⟩
 .exact⟨[],h2,by rw[h1];rfl,λG _ _=>by rw[h1];exact .nil⟩
 refine⟨qs++[p],h2,by rw[h1,aq,aq,h3.len];rfl,λG sG hM=>?_⟩;rw[h1];exact(h3.imp λ_ _ z=>z.same sG).snoc ⟨st,h4.same sG λo z=>hM _ _ h5 h6 z⟩
def Vi(a:ij)(A:TA)(m:fX)(L:LA)(e:Nat)(F0 H:Hp)(sh:Addr)(M:List Addr)(b:Book)(v:V)(H':Hp):Prop:=v=.hJ/\(∃r pl,fw a.fj H' L e r pl)/\∃F M',Oh a F H' sh M' b/\(∀x∈M',x∈M\/H x=none)/\∀x o,F x=some o->F0 x=some o\/x∈M\/H x=none\/∃xs,o=.tup xs
inductive Mx(a:ij)(vs:List V)(H:Hp)(Q:VK)(E:XK):Prop
 |mk:∀(A:TA)(m:fX)(L:LA)(e:Nat)(rest:List Word)(pl:Nat)(F:Hp)(sh:Addr)(M:List Addr)(b:Book),vs=[.ref A.p,.ref sh,.ref L.p]->Bk a H A m L e rest pl F sh M b->b.length<=32->(∀s∈b,s.steps.length<=16)->Run a.eX (L.p::M) H (jD e m.lamps b rest) (Vi a A m L e F H sh M) Q E->Mx a vs H Q E
def zR(T:Txt K mg a):gj P w K mg bz (PL a) 9 a.jc ["table","shows","line"] (Mx a):=by
 refine jx T.tL nk ?_;rintro _ _ _ s H _ _ _ _ hr ⟨A,m,L,e,rest,pl,F,sh,M,b,rfl,Z,Ym,aa6,R⟩
 refine⟨_,eW (fP 3 nk (lW (pv 2) T.fg T.AF (nI T) hr))
  (ff (fS (fm (xU hr.units) (pv 3) (gy (oE T) hr T.jE (iF gY)) (fv _))
   (ya (mD aX aI aJ iD (pv 1) (iF (gy (GP T) hr T.mI (Ab (pv 0) (pv 1) (pv 2))))))
   (ff (fS (fm (xU hr.units) (pv 3) (gy (oE T) hr T.jE (iF gY)) (fv _))
    (eW (fP 4 nk (gy (GQ T) hr T.mJ (Ab (pv 0) (pv 1) (pv 2))))
    (ya (mD aX aI aJ iD (mm (gQ gp (pv 1) (yy tX fA) λ_ _=>rfl) rfl) (iF (pv 4)))))
    (ff (Av (fN T) hr rfl (jy (iy T.iK) (gI 2)))))))),?_⟩
 obtain⟨_,_,h1,_,l2,_⟩:=Z.Y.kF;have s1:∀s∈[L.p],s∈L.p::M:=by simp
 refine⟨_,rfl,_,_,_,rfl,h1,l2,L,e,pl,rest,rfl,Z.Y,Run.gk R .refl s1 λx v H1 hx k1 j1 mh R=>?_⟩;obtain⟨⟨t,rfl,ht⟩,hne,Y1⟩:=mh;have Z1:=Z.line j1 Y1 (Cq hx);refine⟨_,rfl,"show",rfl,AI (by decide+kernel),λu H2 k2 hu=>⟨_,_,JD (k2.t _ _ ht),JD hu,jq _,jq _,_,rfl,?_⟩⟩;have Z2:=Z1.line (k2.mono (by simp)) (Y1.same k2) (aH _);have k12:=j1.trans (k2.mono (by simp));rw[Iw];refine fH (λq=>?_) (λq=>?_)
 .rw[ak (aj q)]at R;obtain⟨qs,hq,ql,cl⟩:=Z2.B.close;refine⟨_,rfl,.inl ⟨rfl,_,gC.of hq⟩,_,rfl,_,rfl,_,rfl,A,m,L,e,_,_,F,sh,M,b,rfl,Z2,Ym,Run.gk (r1:=AY e _ m.lamps b _) R (k12.mono s1) s1 λs v H3 hs k3 j3 Aa R=>?_⟩;obtain⟨p,st,rfl,fp,fst,hst,⟨dx,nt,l,c,fl,fc,o1,o2,o3,o4,n1,n2⟩,VM,r3,pl3,Y3⟩:=Aa;have Ze:sh≠L.p:=λz=>Z.nL (z▸Z.B.mem);have Zf:=j3.k _ _ hq (by simpa using Ze);have VN:st≠sh:=λz=>by rw[z,hq]at fst;cases fst
  have psh:p≠sh:=λz=>by rw[z,hq]at fp;cases fp
  have k4:fb (L.p::M) H (upd H3 sh (.lst (qs.map V.ref++[.ref p]))):=k3.trans (.put Zf (by simp[Z.B.mem]) gS);have sF4:=fb.base Z.B.same k4 λx hx=>(aA.mp hx).elim (λy=>by rw[y];exact Z.fL) λy=>Z.B.fr x y
  have fF:F st=none:=by
   cases q:F st with
   |none=>rfl
   |some o=>rw[Z2.B.same _ _ q]at fst;cases fst
  have Up:oj F (gr F M H (upd H3 sh (.lst (qs.map V.ref++[.ref p]))) [sh,st]):=Mw sF4 λx hx=>by
   simp at hx;rcases hx with y|y
   .rw[y];exact Z.B.fr _ Z.B.mem
   rw[y];exact fF
  have up:∀{z o},H3 z=some o->z≠sh->z≠st->(z∈M\/H2 z=none\/∃xs,o=HO.tup xs)->gr F M H (upd H3 sh (.lst (qs.map V.ref++[.ref p]))) [sh,st] z=some o:=λh y1 y2 c=>KA (by simp[y1,y2]) (by rw[eY y1];exact h) (.inr (c.imp id λc=>c.imp (λc=>k12.back Z2.Y.nn c) id));have big:100<sizeLine:=by decide
  refine⟨sh,_,_,rfl,rfl,Zf,by rw[aw];omega,R _ _ k4 ⟨rfl,⟨r3,pl3,?_⟩,_,[sh,st],⟨GR,λx hx=>T6 hx,by simp,al2 (by rw[eV];intro z;cases z) (by rw[eY VN,hst];intro z;cases z),.inr ⟨b,s,qs,p,st,rfl,?_,?_,?_,by simp,VN⟩⟩,?_,λx o h=>QJ sF4 h⟩⟩
  .exact Y3.keep (S:=[sh]) (.put Zf (by simp) gS) (by simpa using Ze.symm) (by simpa using Z.ZZ.1) (by simpa using Z.ZZ.2)
  .rw[eV,aL];rfl
  .exact cl _ Up λz o hz nz e=>up (j3.k _ _ e (by simp only[eg];exact λy=>Z.nL (y▸hz))) nz (λy=>by rw[y,fst]at e;cases e) (.inl hz)
  .refine⟨dx,nt,l,c,[],up o1 psh ?_ (.inr (.inl fp)),up o2 ?_ ?_ (.inr (.inr ⟨_,rfl⟩)),up o3 ?_ n1 (.inr (.inl fl)),up o4 ?_ n2 (.inr (.inl fc)),by rw[eY VN];exact hst,by rw[VM];exact .nil⟩
   .exact gK o1 hst (by intro z;cases z)
   .exact gK o2 Zf (by intro z;cases z)
   .exact gK o2 hst (by intro z;cases z)
   .exact λz=>by rw[z,hq]at fl;cases fl
   exact λz=>by rw[z,hq]at fc;cases fc
  intro x hx;simp at hx;rcases hx with y|y
  .rw[y];exact .inl Z.B.mem
  rw[y];exact .inr (k12.back Z2.Y.nn fst)
 rw[ag (au q)]at R;refine⟨_,rfl,"step",rfl,AI (by decide+kernel),λu3 H3 k3 hu3=>⟨_,_,JD (k3.t _ _ (k2.t _ _ ht)),JD hu3,jq _,jq _,_,rfl,?_⟩⟩;have Z3:=Z2.line (k3.mono (by simp)) (Z2.Y.same k3) (aH _);have k13:=k12.trans (k3.mono (by simp));rw[Iw];refine fH (λq2=>?_) (λq2=>?_)
 .rw[ak (aj q2)]at R;refine⟨_,rfl,_,rfl,_,rfl,A,m,L,e,_,_,F,sh,M,b,rfl,Z3,Run.gk R (k13.mono s1) s1 λs v H4 hs k4 j4 JF R=>?_⟩;obtain⟨p,dx,l,c,rfl,fp,fl,fc,o1,o2,o3,r4,Yk,Y4⟩:=JF;have B4:=Z3.B.keep j4 (λz hz=>by simp at hz;rw[hz];exact⟨Z.fL,Z.nL⟩);rcases Z3.B.ex with⟨g1,g2⟩|⟨gs,s',qs,p',st,g1,g23,g3,g4,g5,g6⟩
  .rw[g1]at hs;cases hs
  obtain⟨Q6,nt,l',c',sps,e1,e2,e3,e4,e53,e6⟩:=g4;have Tb:Oy ((qs++[p']).map V.ref) (-1)=some (V.ref p'):=by rw[aL];exact yz _ _
  have Rg:s'.steps.length<=16:=aa6 s' (by rw[g1];simp);have big:100<sizeLine:=by decide
  have stL:st≠L.p:=λz=>Z.nL (z▸g5);have Ze:sh≠L.p:=λz=>Z.nL (z▸Z.B.mem);have g2:=j4.k _ _ g23 (by simpa using Ze);have e5:=j4.k _ _ e53 (by simpa using stL);have k5:fb (L.p::M) H (upd H4 st (.lst (sps.map V.ref++[.ref p]))):=k4.trans (.put e5 (by simp[g5]) gS);have sF5:oj F (upd H4 st (.lst (sps.map V.ref++[.ref p]))):=fb.base Z.B.same k5 λx hx=>(aA.mp hx).elim (λy=>by rw[y];exact Z.fL) λy=>Z.B.fr x y
  have Up:oj F (gr F M H (upd H4 st (.lst (sps.map V.ref++[.ref p]))) [sh,st]):=Mw sF5 λx hx=>by
   simp at hx;rcases hx with y|y
   .rw[y];exact Z.B.fr _ Z.B.mem
   rw[y];exact Z.B.fr _ g5
  have h3:∀{z},H3 z=none->z≠sh/\z≠st:=λ{z} h=>⟨λy=>(by rw[y,g23]at h;cases h),λy=>(by rw[y,e53]at h;cases h)⟩
  have up:∀{z o},H4 z=some o->H3 z=none->gr F M H (upd H4 st (.lst (sps.map V.ref++[.ref p]))) [sh,st] z=some o:=λh y=>by
   obtain⟨y1,y2⟩:=h3 y;exact KA (by simp[y1,y2]) (by rw[eY y2];exact h) (.inr (.inr (.inl (k13.back Z3.Y.nn y))))
  have eA:wy b s=gs++[{s' with steps:=s'.steps++[s]}]:=by
   unfold wy;rw[g1,List.getLast?_append];show(gs++[s']).dropLast++_=_;rw[List.dropLast_concat];rfl
  refine⟨_,rfl,_,rfl,_,_,_,_,rfl,rfl,gC.of g2,Tb,_,_,_,_,_,rfl,B4.same _ _ e1,T.ie,T.iC,rfl,.inl ⟨rfl,_,gC.of e5⟩,_,rfl,st,_,_,rfl,rfl,e5,by rw[aw,e6.len];omega,R _ _ k5 ⟨rfl,⟨r4,Yk,?_⟩,_,[sh,st],⟨GR,λx hx=>T6 hx,by simp,al2 (by rw[eY g6.symm,g2];intro z;cases z) (by rw[eV];intro z;cases z),.inr ⟨gs,{s' with steps:=s'.steps++[s]},qs,p',st,eA,by rw[eY g6.symm];exact g2,?_,?_,by simp,g6⟩⟩,?_,λx o h=>QJ sF5 h⟩⟩
  .exact Y4.keep (S:=[st]) (.put e5 (by simp) gS) (by simpa using stL.symm) (by simp only[eg];exact λz=>Z.Z0.1 (z▸g5)) (by simp only[eg];exact λz=>Z.Z0.2 (z▸g5))
  .exact g3.imp λ_ _ z=>z.same Up
  .refine⟨Q6,nt,l',c',sps++[p],Up _ _ e1,Up _ _ e2,Up _ _ e3,Up _ _ e4,by rw[eV,aL];rfl,(e6.imp λ_ _ z=>z.same Up).snoc ⟨dx,l,c,up o1 fp,up o2 fl,up o3 fc⟩⟩
  intro x hx;simp at hx;rcases hx with y|y
  .rw[y];exact .inl Z.B.mem
  rw[y];exact .inl g5
 rw[ag (au q2)]at R;obtain⟨_,_,h1,_,_,_,_,_,_,_,_,_,tT,_⟩:=Z3.Y.kF;exact⟨_,rfl,_,_,_,_,_,rfl,h1,T.fg,T.fK,tT,_,_,rfl,Run.raise R (k13.mono s1)⟩
theorem D2:∀(l:Bytes)(p:Nat)(w:Bytes),(Tilt.wordsFrom p w l).length<=l.length+1
 |[],p,w=>by
  rw[Tilt.wordsFrom];by_cases q:w.isEmpty=true
  .rw[ak q];simp
  rw[ag q];simp
 |c::r,p,w=>by
  rw[Tilt.wordsFrom];by_cases q:c=32
  .rw[ak q];have:=D2 r (p+1) [];simp only[aF];omega
  rw[ag q];have:=D2 r (p+1) (w++[c]);simp only[aF];omega
def IV(h:nX p b=.ok x):x.1.words.length<=b.length+1:=by
 rw[IE]at h;obtain⟨y,h1,h2⟩:=ym h;obtain⟨_,_,h3⟩:=ym h2;cases h3;obtain⟨e,_⟩:=Ml h1;have l:=aQ List.length e;rw[aq,aF]at l;have:=D2 y.1 p [];show(Tilt.wordsFrom p [] y.1).length<=_;omega
structure Small(b:Book):Prop where
 n:b.length<=32
 st:∀s∈b,s.steps.length<=16
def B6(S:Small b)(h:jD e lamps b l=.ok b'):Small b':=by
 obtain⟨x,h1,h2⟩:=ym h;by_cases q:x.1.w=Tilt.ascii "show"
 .rw[ak q]at h2;obtain⟨s,h3,h4⟩:=ym h2;cases h4;unfold AY at h3;by_cases z:b.length=32\/awaits b=true
  .rw[ak z]at h3;cases h3
  rw[ag z]at h3;obtain⟨_,_,h3⟩:=ym h3;obtain⟨_,_,h3⟩:=ym h3;obtain⟨_,_,h3⟩:=ym h3;obtain⟨_,_,h3⟩:=ym h3;obtain⟨_,_,h3⟩:=ym h3;cases h3;refine⟨?_,λs hs=>?_⟩
  .have:=S.n;rw[aq];simp;have:¬b.length=32:=λy=>z (.inl y);omega
  rcases aG.mp hs with y|y
  .exact S.st s y
  simp at y;rw[y];simp
 rw[ag q]at h2;by_cases q2:x.1.w=Tilt.ascii "step"
 .rw[ak q2]at h2;obtain⟨s,h3,h4⟩:=ym h2;cases h4;unfold HX at h3;unfold wy;cases hb:b.getLast? with
  |none=>rw[hb]at h3;cases h3
  |some t=>
   rw[hb]at h3;have h3:(if t.steps.length=16 then Except.error (Fault.mk 3 x.1.at_)else gU e 1 65535 x.2>>=λn=>je e lamps t.speaks [] (-1) n.2>>=λp=>pure (⟨n.1.1,p⟩:Tilt.Step))=.ok s:=h3;by_cases z:t.steps.length=16
   .rw[ak z]at h3;cases h3
   have hm:=Dc hb;have Rg:=S.st t hm.1;refine⟨?_,λs' hs=>?_⟩
   .have:=aQ List.length hm.2;rw[aq]at this;have:=S.n;show(b.dropLast++[_]).length<=32;rw[aq];simp only[dY]at*;omega
   rcases aG.mp (show s'∈b.dropLast++[_]from hs)with y|y
   .exact S.st s' (List.dropLast_subset _ y)
   simp at y;rw[y];simp;omega
 rw[ag q2]at h2;cases h2
inductive qU(a:ij)(H:Hp)(p:Addr)(lamps:List Nat)(b:Book):Prop
 |mk:∀dx l sh qs,H p=some (.ins a.pj dx (QF l sh))->H l=some (.lst (nV lamps))->H sh=some (.lst (qs.map V.ref))->ir (oG a H) qs b->qU a H p lamps b
theorem qU.same(x:qU a H p lamps b)(s:oj H G):qU a G p lamps b:=
 let⟨dx,l,sh,qs,h1,h2,h3,h4⟩:=x
 ⟨dx,l,sh,qs,s _ _ h1,s _ _ h2,s _ _ h3,h4.imp λ_ _ z=>z.same s⟩
noncomputable def My(H H':Hp):Hp:=λx=>if((H x).isNone||SQ (H' x))=true then H' x else none
def GS:oj (My H H') H':=λx o h=>by
 unfold My at h;by_cases z:((H x).isNone||SQ (H' x))=true
 .rw[ak z]at h;exact h
 rw[ag z]at h;cases h
def AL(e:H' x=some o)(c:H x=none\/∃xs,o=.tup xs):My H H' x=some o:=by
 unfold My;rw[ak,e];rcases c with c|⟨xs,c⟩
 .simp[c]
 rw[e,c];simp[SQ]
def Mz(h:My H H' x=some o):H' x=some o/\(H x=none\/∃xs,o=.tup xs):=by
 have e:=GS _ _ h;refine⟨e,?_⟩;unfold My at h;by_cases z:((H x).isNone||SQ (H' x))=true
 .rw[eQ]at z;rcases z with z|z
  .exact .inl (by simpa using z)
  rw[e]at z;exact .inr (Mv z)
 rw[ag z]at h;cases h
inductive yn(a:ij)(H:Hp)(lamps:List Nat)(b:Book)(v:V)(H':Hp):Prop
 |mk:∀p,v=.ref p->qU a (My H H') p lamps b->yn a H lamps b v H'
def yn.from(x:yn a H1 lamps b v H')(k:fb [] H H1):yn a H lamps b v H':=by
 obtain⟨p,e,h⟩:=x;refine⟨p,e,h.same λy o q=>?_⟩;obtain⟨h1,h2⟩:=Mz q;exact AL h1 (h2.imp k.fresh id)
inductive MD(K:Frag)(a:ij)(vs:List V)(H:Hp)(Q:VK)(E:XK):Prop
 |mk:∀(A:TA)(m:fX)(n:Nat)(t:Addr)(bs:Bytes),vs=[.ref A.p,.ref t]->fZ a.fk H A m n->(∀x∈m.lamps,x.2<64)->(m.lamps.map (·.2)).Pairwise (·< ·)->qT K H t bs->bs.length<=65536->Run a.eX [] H (AZ m.lamps bs) (yn a H (m.lamps.map (·.2))) Q E->MD K a vs H Q E
def zS(T:Txt K mg a):gj P w K mg bz (PL a) 10 a.mK ["table","text"] (MD K a):=by
 refine jx T.BG nu ?_;rintro _ _ _ s H _ Q E _ hr ⟨A,m,n,t,bs,rfl,X,S8,Yn,XT,hbs,R⟩
 refine⟨_,eW (fP 2 nu (gO m8))
  (eW (fP 3 nu fA)
  (eW (m6 aE (fm pE (pv 3) (gM T.iA (pv 1)) (fv _))
   (eW (fP 4 nu (gy (uC T) hr T.jK (jy (pv 1) (pv 3))))
   (eW (gi (gy (zR T) hr T.jc (Ab (pv 0) (pv 2) (pv 4))))
   (ff (fP 3 nu (g0 kI (gI 4) fA))))))
  (eW (fS (jd (gy (wg T) hr T.js (iF (pv 2))))
   (ff (Av (fN T) hr rfl (jy (iy T.Fm) (gM T.iA (pv 1)))))
   fB)
  (kY (Gq T.Qc (SK T) hr T.pj (jy (Eo (by rfl) T.Ir (gI 0)) (pv 2))))))),Rv ?_⟩
 intros;unfold AZ at R;refine⟨(show 0<=sizeLine by decide),λsh Zg=>?_⟩;generalize hf:(λ(m':Book)=>((if awaits m'=true then .error ⟨9,bs.length⟩else return m'):Except Fault Book))=f at R
 refine⟨λmu σ H'=>∃(F:Hp)(M:List Addr)(b:Book)(st k:Nat)(r:Bytes)(lv:Option V),mu=r.length/\σ=[some (.ref A.p),some (.ref t),some (.ref sh),some (.int (st:Int)),lv]/\fb [] H H'/\Oh a F H' sh M b/\(∀x o,F x=some o->H x=none\/∃xs,o=.tup xs)/\(∀x∈M,H x=none)/\Small b/\bs.drop st=r/\st+r.length=bs.length/\r.length<k/\
  Run a.eX [] H (ke m.lamps k st b r>>=f) (yn a H (m.lamps.map (·.2))) Q E,
  ⟨_,λ_=>none,[sh],[],0,bs.length+1,bs,none,rfl,rfl,.new Zg,⟨λx o e=>(by cases e),λx hx=>rfl,by simp,λx hx=>(by simp at hx;rw[hx,eV];intro z;cases z),.inl ⟨rfl,eV⟩⟩,λx o e=>(by cases e),λx hx=>by simp at hx;rw[hx];exact Zg,⟨by simp,λs hs=>by simp at hs⟩,rfl,by simp,by simp,R⟩,?_⟩
 rintro mu σ H' ⟨F,M,b,st,k,r,lv,rfl,rfl,kH,B,hF,hM,Sm,Ef,hlen,hk,R⟩;have XT':=XT.keep kH (by simp);have X':=X.keep kH (by simp) (by simp);refine⟨_,rfl,_,rfl,_,_,rfl,.inl XT'.sq,_,_,rfl,rfl,_,rfl,fH (λq=>?_) λq=>?_⟩
 .have q':=aj q;rw[aw]at q';have VJ:r≠[]:=λz=>by rw[z]at hlen;simp at hlen;omega
  obtain⟨k',S6⟩:∃k',k=k'+1:=⟨k - 1,by omega⟩;subst S6
  have R':Run a.eX [] H (nX st r>>=λx=>jD x.1.end_ m.lamps b x.1.words>>=λm'=>ke m.lamps k' (x.1.end_+1) m' x.2>>=f) (yn a H (m.lamps.map (·.2))) Q E:=by
   refine Eq.mp (aQ (λu=>Run a.eX [] H u (yn a H (m.lamps.map (·.2))) Q E) ?_) R;show((if r=[]then _ else _)>>=_)=_;rw[ag VJ];cases nX st r with
   |error _=>rfl
   |ok x=>
    show((jD x.1.end_ m.lamps b x.1.words>>=_)>>=_)=(jD x.1.end_ m.lamps b x.1.words>>=_);cases jD x.1.end_ m.lamps b x.1.words<;>rfl
  refine⟨λσ' H''=>∃Jx,Jx<r.length/\∃(F:Hp)(M:List Addr)(b:Book)(st k:Nat)(r:Bytes)(lv:Option V),Jx=r.length/\σ'=[some (.ref A.p),some (.ref t),some (.ref sh),some (.int (st:Int)),lv]/\fb [] H H''/\Oh a F H'' sh M b/\(∀x o,F x=some o->H x=none\/∃xs,o=.tup xs)/\(∀x∈M,H x=none)/\Small b/\bs.drop st=r/\st+r.length=bs.length/\r.length<k/\
   Run a.eX [] H (ke m.lamps k st b r>>=f) (yn a H (m.lamps.map (·.2))) Q E,λσ' H'' z=>z,?_⟩
  refine⟨_,rfl,_,rfl,t,bs,st,rfl,XT',by omega,?_⟩;rw[Ef];refine Run.xK (r1:=nX st r) R' kH (by simp) λx3 v H3 YU k3 j3 Aa R3=>?_;obtain⟨L3,rfl,f1,f2,f3,Y3,l3,Yh,he3⟩:=Aa;have Yi:=aQ List.length Yh;rw[aq,aF]at Yi;have B3:Oh a F H3 sh M b:=B.keep j3 (by simp);have nM:∀{z},H' z=none->z∉M:=λh y=>B.al _ y h
  have fF:∀{z},H' z=none->F z=none:=λ{z} h=>by
   cases e:F z with
   |none=>rfl
   |some o=>rw[B.same _ _ e]at h;cases h
  have wl:=IV YU;have Z3:Bk a H3 A m L3 x3.1.end_ x3.1.words x3.1.end_ F sh M b:=⟨⟨n,X'.keep j3 (by simp) (by simp)⟩,Y3,by omega,S8,B3,fF f1,nM f1,⟨λz=>nM f2 (z▸B.mem),λz=>nM f3 (z▸B.mem)⟩,nM f2,nM f3⟩;refine⟨_,rfl,_,rfl,_,rfl,A,m,L3,_,_,_,F,sh,M,b,rfl,Z3,Sm.n,Sm.st,Run.xK (r1:=jD x3.1.end_ m.lamps b x3.1.words) R3 k3 ?_ λb4 v H4 hb4 k4 j4 JF R4=>?_⟩
  .intro z hz;rcases aA.mp hz with y|y
   .rw[y];exact kH.fresh f1
   exact hM z y
  obtain⟨rfl,⟨r4,Yk,Y4⟩,F4,M4,B4,hM4,hF4⟩:=JF;obtain⟨dx,fs,h1,_,_,_,_,_,_,_,_,_,_,BY⟩:=Y4.kF;refine⟨_,rfl,_,_,_,_,_,rfl,h1,T.fg,T.oD,BY,_,_,rfl,rfl,?_⟩;refine⟨x3.2.length,by omega,F4,M4,b4,x3.1.end_+1,k',x3.2,some (.ref L3.p),rfl,?_,k4,B4,λx o h=>?_,λx hx=>?_,B6 Sm hb4,?_,by omega,by omega,R4⟩
  .show [some (V.ref A.p),some (V.ref t),some (V.ref sh),some (V.int ((x3.1.end_:Int)+1)),some (V.ref L3.p)]=[some (V.ref A.p),some (V.ref t),some (V.ref sh),some (V.int ((x3.1.end_+1:Nat):Int)),some (V.ref L3.p)];rw[show((x3.1.end_+1:Nat):Int)=(x3.1.end_:Int)+1 from by omega]
  .rcases hF4 x o h with y|y|y|y
   .exact hF x o y
   .exact .inl (hM x y)
   .exact .inl (k3.fresh y)
   exact .inr y
  .rcases hM4 x hx with y|y
   .exact hM x y
   exact k3.fresh y
  rw[he3,show st+l3.length+1=st+(l3.length+1)from by omega,<-eM,Ef,Yh,<-eM,drop_left];rfl
 have q':=au q;rw[aw]at q';have VJ:r=[]:=dO.mp (by omega)
 have e1:ke m.lamps k st b r=.ok b:=by
  rw[VJ];cases k with
  |zero=>rfl
  |succ k=>show(if _ then _ else _)=_;rw[ak rfl]
 rw[e1]at R;have R5:Run a.eX [] H (f b) (yn a H (m.lamps.map (·.2))) Q E:=R;rw[<-hf]at R5;refine⟨_,rfl,F,sh,M,b,rfl,B,_,rfl,fH (λz=>?_) λz=>?_⟩
 .have R6:Run a.eX [] H (if awaits b=true then Except.error ⟨9,bs.length⟩else Except.ok b) (yn a H (m.lamps.map (·.2))) Q E:=R5;rw[ak z]at R6;refine⟨_,rfl,_,_,rfl,.inl XT'.sq,_,_,rfl,Run.GC R6 kH rfl ?_⟩;show(((bs.map bV).length:Nat):Int)=_;rw[aw]
 have R6:Run a.eX [] H (if awaits b=true then Except.error ⟨9,bs.length⟩else Except.ok b) (yn a H (m.lamps.map (·.2))) Q E:=R5;rw[ag (by rw[z];simp)]at R6;obtain⟨dT,hT⟩:=X'.ob;refine⟨_,rfl,_,_,_,_,_,rfl,hT,T.fJ,T.jv,rfl,A.d 1,dN m.lamps,m.lamps.map λx=>(x.2:Int),rfl,X'.dt 1,?_,λns' l Yo Yp hl=>?_⟩
 .unfold dN;rw[cG,cG];rfl
 have ens:ns'=m.lamps.map λx=>(x.2:Int):=by
  refine List.Perm.eq_of_pairwise (le:=λ(x y:Int)=>x<=y) (λx y _ _ h1 h2=>by omega) Yp ?_ Yo;have:=Yn;rw[List.pairwise_map]at this⊢;exact this.imp λh=>by omega
 subst ens;have el:(m.lamps.map λx=>(x.2:Int)).map V.int=nV (m.lamps.map (·.2)):=by unfold nV;rw[cG,cG];rfl
 rw[el];refine⟨_,rfl,λp dx hp VB RA=>⟨p,dx,l,sh,rfl,eV,rfl,?_⟩⟩;rw[gn];have kG:fb [] (upd H' l (.lst (nV (m.lamps.map (·.2))))) (upd (upd (upd H' l (.lst (nV (m.lamps.map (·.2))))) dx (.own p)) p (.ins a.pj dx (QF l sh))):=(fb.new VB).trans (fb.new (by rw[eY (aW RA)];exact hp));have kl:fb [] H' (upd H' l (.lst (nV (m.lamps.map (·.2))))):=.new hl;obtain⟨qs,g1,g2,g3⟩:=B.close;have kA:fb [] H _:=(kH.trans kl).trans kG;refine R6 _ _ kA ⟨p,rfl,dx,l,sh,qs,AL eV (.inl (kH.fresh (kl.fresh hp))),AL (kG.k _ _ eV (by simp)) (.inl (kH.fresh hl)),AL (kG.k _ _ (kl.k _ _ g1 (by simp)) (by simp)) (.inl (hM _ B.mem)),g3 _ (λx o e=>AL ((kl.trans kG).k _ _ (B.same _ _ e) (by simp)) (hF x o e)) λz o hz _ e=>AL ((kl.trans kG).k _ _ e (by simp)) (.inl (hM z hz))⟩
def SR(b j:Nat):b&&&2^j=if b.testBit j=true then 2^j else 0:=by
 refine Nat.eq_of_testBit_eq λi=>?_;rw[et,Nat.testBit_two_pow];by_cases h:j=i
 .subst h;cases q:b.testBit j<;>simp
 by_cases q:b.testBit j=true
 .rw[ak q,Nat.testBit_two_pow];simp[h]
 rw[ag q];simp[h]
theorem SS(b j:Nat):(!decide (V.int ((b&&&2^j:Nat):Int)=V.int 0))=b.testBit j:=by
 rw[SR];cases b.testBit j with
 |false=>simp
 |true=>
  have:0<2^j:=Nat.two_pow_pos j;rw[ak rfl];simp only[Bool.not_eq_true',dM];intro z;have:=V.int.inj z;omega
noncomputable def D3(cols:List Nat)(c n:Nat):List Nat:=((List.range n).filter λr=>((cols[c]?).getD 0).testBit r).map λr=>c*8+r
noncomputable def GU(cols:List Nat)(n:Nat):List Nat:=(List.range n).flatMap λc=>D3 cols c 8
def FC(cols:List Nat)(c n:Nat):D3 cols c (n+1)=D3 cols c n++(if((cols[c]?).getD 0).testBit n=true then [c*8+n]else []):=by
 unfold D3;rw[range_succ,cT,aL];by_cases h:((cols[c]?).getD 0).testBit n=true
 .rw[ak h];simp[h]
 rw[ag h];simp[h]
def FD(cols:List Nat)(n:Nat):GU cols (n+1)=GU cols n++D3 cols n 8:=by
 unfold GU;rw[range_succ,List.flatMap_append];simp
def IW(cols:List Nat)(c n:Nat):(D3 cols c n).length<=n:=by
 unfold D3;rw[aw];exact a7 (bX _ _) (by simp)
theorem IX(cols:List Nat):∀n,(GU cols n).length<=8*n
 |0=>by simp[GU]
 |n+1=>by
  rw[FD,aq];have:=IX cols n;have:=IW cols n 8;omega
inductive IY(K:Frag)(a:ij)(vs:List V)(H:Hp)(Q:VK)(u1:XK):Prop
 |mk:∀(t:Addr)(cols:List Nat),vs=[.ref t]->gC K H t (nV cols)->cols.length=8->(∀p H',H p=none->fb [] H H'->H' p=some (.lst (nV (placesOf cols)))->Q (.ref p) H')->IY K a vs H Q u1
def zT(T:Txt K mg a):gj P w K mg bz (PL a) 1 a.lq ["columns"] (IY K a):=by
 refine jx T.Bx lF ?_;rintro _ _ _ _ H _ _ _ _ _ ⟨t,cols,rfl,ht,hl,k⟩
 refine⟨_,eW (fP 1 lF (gO m8))
  (eW (jN aE rfl (Ln rfl T.rE (iF (pv 0))) (JI rfl (sI (ib (i:=2) lF.nd rfl (Or.inl rfl)) (sI (ib (i:=3) lF.nd rfl (Or.inl rfl)) FR)))
   (ff (jN aE rfl (Pz rfl T.rE (iF (iy T.uo))) (JI rfl (sI (ib (i:=4) lF.nd rfl (Or.inl rfl)) (sI (ib (i:=5) lF.nd rfl (Or.inl rfl)) FR)))
    (ff (fS (fm La (g0 JO (pv 3) (pv 5)) fA (fv _))
     (ya (mD aX aI aJ iD (pv 1) (iF (g0 kI (g0 JM (pv 2) (gM T.iA (iy T.uo))) (pv 4)))))
     fB)))))
  (kY (pv 1))),Fg ?_⟩
 intros;refine⟨(show 0<=sizeLine by decide),λD hD=>?_⟩;have sq:∀{H'},fb [D] H H'->gC K H' t (nV cols):=λkk=>p8 ht kk (by intro z hz;simp at hz;rw[hz];exact hD);have big:200<sizeLine:=by decide
 refine⟨_,rfl,t,_,rfl,sq (.new hD),GA (n:=8) (λi σ H'=>fb [D] H H'/\(∃v2 v3 v4 v5,σ=[some (.ref t),some (.ref D),v2,v3,v4,v5])/\H' D=some (.lst (nV (GU cols i)))) ⟨.new hD,⟨_,_,_,_,rfl⟩,eV⟩ (λσ H' p=>⟨_,sq p.1,by rw[ia,hl];exact aH _⟩) ?_ ?_⟩
 .rintro i σ H1 hi ⟨k1,⟨v2,v3,v4,v5,rfl⟩,Zh⟩;obtain⟨b,hb⟩:∃b,cols[i]? =some b:=⟨_,az (by omega)⟩;refine⟨⟨_,.int (b:Int),sq k1,by rw[wb,hb];rfl⟩,?_⟩;rintro x H2 ⟨Tp,y,rfl,Zi,rfl,hy⟩;have ey:=hy _ (sq k1);rw[wb,hb]at ey;have ey:=ao ey;subst ey;have TD:D≠Tp:=ft Zh Zi;have k2:fb [D] H (upd H1 Tp (.tup [.int (i:Nat),.int (b:Int)])):=k1.trans (.new Zi);refine⟨Tp,_,rfl,m5.of eV,rfl,_,_,rfl,_,_,rfl,rfl,?_⟩;refine⟨_,_,rfl,T.pC _,GA (n:=8) (λj σ H'=>fb [D] H H'/\(∃v4 v5,σ=[some (.ref t),some (.ref D),some (.int (i:Nat)),some (.int (b:Int)),v4,v5])/\H' D=some (.lst (nV (GU cols i++D3 cols i j)))) ⟨k2,⟨_,_,rfl⟩,by rw[eY TD,Zh];simp[D3]⟩ (λσ H' p=>⟨_,T.pC _,by decide⟩) ?_ ?_⟩
  .rintro j σ H3 hj ⟨k3,⟨v4,v5,rfl⟩,Uq⟩;refine⟨⟨_,_,T.pC _,Cp hj⟩,?_⟩;rintro x H4 ⟨Tq,y,rfl,hTq,rfl,hy⟩;have ey:T1[j]? =some y:=hy _ (T.pC _);rw[Cp hj]at ey;have ey:=ao ey;subst ey;have TD2:D≠Tq:=ft Uq hTq;have k4:fb [D] H (upd H3 Tq (.tup [.int (j:Nat),.int ((2^j:Nat):Int)])):=k3.trans (.new hTq);have Zj:(upd H3 Tq (.tup [.int (j:Nat),.int ((2^j:Nat):Int)])) D=some (.lst (nV (GU cols i++D3 cols i j))):=by rw[eY TD2];exact Uq
   refine⟨Tq,_,rfl,m5.of eV,rfl,_,_,rfl,_,_,rfl,rfl,?_⟩;refine⟨_,rfl,_,rfl,_,_,rfl,rfl,rfl,_,rfl,?_⟩;have eb:(!decide (V.int (Builtin.bitAnd (b:Int) ((2^j:Nat):Int))=V.int 0))=b.testBit j:=by rw[zP,SS]
   have ec:(cols[i]?).getD 0=b:=by rw[hb];rfl
   refine fH (λq=>?_) (λq=>?_)
   .have q:b.testBit j=true:=eb.symm.trans q;have lb:=IX cols i;have lc:=IW cols i j;refine⟨_,rfl,.inl ⟨rfl,_,gC.of Zj⟩,_,rfl,_,_,rfl,.inr (T.pC _),_,_,rfl,rfl,.inr ⟨by decide,by decide⟩,_,rfl,_,_,rfl,rfl,D,_,_,rfl,rfl,Zj,by rw[ia,aq];omega,k4.trans (.put Zj (by simp) gS),⟨_,_,rfl⟩,?_⟩;rw[eV,FC,ec,ak q,<-a0,nP (GU cols i++D3 cols i j)];show _=some (HO.lst (_++[V.int ((i*8+j:Nat):Int)]));rw[show((i*8+j:Nat):Int)=(i:Int)*8+(j:Int)from by omega];rfl
   have q:b.testBit j=false:=eb.symm.trans q;refine⟨k4,⟨_,_,rfl⟩,?_⟩;rw[Zj,FC,ec,ag (by rw[q];simp),bK]
  rintro σ H3 ⟨k3,⟨v4,v5,rfl⟩,Uq⟩;exact⟨k3,⟨_,_,_,_,rfl⟩,by rw[Uq,FD]⟩
 rintro σ H1 ⟨k1,⟨v2,v3,v4,v5,rfl⟩,Zh⟩;exact⟨_,rfl,k D H1 hD (k1.drop hD) Zh⟩
open MT (mq gv)
open Tilt (Book Show)
noncomputable def QK(m:mq)(sp xP:Addr):List (Str×V):=[("number",.int (m.number:Int)),("show",.ref sp),("begun",.int (m.begun:Int)),("at",.int (m.at_:Int)),("step",.ref xP),("step_over",.int (m.over:Int))]
noncomputable def iZ(bk:Addr)(t:Nat)(lv sw:Addr):List (Str×V):=[("book",.ref bk),("tick",.int (t:Int)),("levels",.ref lv),("switched",.ref sw)]
def D4(a:ij)(F H:Hp)(r:Addr)(m:mq)(s:Show):Prop:=∃dx sp xP x,H r=some (.ins a.mG dx (QK m sp xP))/\oG a F sp s/\sC a F xP x/\s.steps[m.at_]? =some x
def oG.ex(h:oG a F sp s):∃(dx nt l c st:Addr)(sps:List Addr),F sp=some (.ins a.jg dx (BX nt l c s.loop st))/\F nt=some (nU s.name)/\F l=some (.lst (nV s.speaks))/\F c=some (.lst (nV (hZ s.speaks)))/\
  F st=some (.lst (sps.map V.ref))/\sps.length=s.steps.length/\∀(i:Nat) x,s.steps[i]? =some x->∃p,sps[i]? =some p/\sC a F p x:=by
 obtain⟨st,dx,nt,l,c,sps,h1,h2,h3,h4,h5,h6⟩:=h;exact⟨dx,nt,l,c,st,sps,h1,h2,h3,h4,h5,h6.len,λi x hx=>h6.GN hx⟩
def T7:(List.replicate (Int.toNat 16) [V.hJ]).flatten=List.replicate 16 V.hJ:=rfl
def T8{s:Show}{x:Tilt.Step}(h:s.steps[0]? =some x):MT.pre s.steps 1=x.ticks:=by
 rw[vz h,Df];omega
inductive T9(a:ij)(vs:List V)(H:Hp)(Q:VK)(u1:XK):Prop
 |mk:∀(F:Hp)(p dx sp:Addr)(n t:Nat)(s:Show),vs=[.ref p,.int (n:Int),.ref sp,.int (t:Int)]->H p=some (.ins a.mG dx [])->oG a F sp s->oj F H->F p=none->s.steps≠[]->(∀xP x,sC a F xP x->s.steps[0]? =some x->Q .hJ (upd H p (.ins a.mG dx (QK ⟨n,t,0,t+x.ticks⟩ sp xP))))->T9 a vs H Q u1
def Vj(T:Txt K mg a):gj P w K mg bz (PL a) 1 a.qz ["self","number","show","tick"] (T9 a):=by
 refine jx T.vP B0 ?_;rintro _ _ _ _ _ _ _ _ _ _ ⟨F,p,dx,sp,n,t,s,rfl,hp,hs,sF,fp,hne,k⟩
 refine⟨_,eW (fT (pv 0) (pv 1) rfl)
  (eW (fT (pv 0) (pv 2) rfl)
  (eW (fT (pv 0) (pv 3) rfl)
  (eW (fT (pv 0) fA rfl)
  (eW (fT (pv 0) (gQ gp (gI 2) fA λ_ _=>rfl) rfl)
  (ff (fT (pv 0) (g0 kI (pv 3) (mm (gI 0) rfl)) rfl)))))),ZU ?_⟩
 intros;obtain⟨x,hx⟩:∃x,s.steps[0]? =some x:=⟨_,az (List.length_pos_iff.mpr hne)⟩;obtain⟨_,_,_,_,st,_,g1,_,_,_,g5,_,g7⟩:=hs.ex;obtain⟨xP,Ri,hst⟩:=g7 0 x hx;have Vu:=hst;obtain⟨_,_,_,t1,_⟩:=hst;have n1:sp≠p:=λz=>by rw[z,fp]at g1;cases g1
 have n2:st≠p:=λz=>by rw[z,fp]at g5;cases g5
 have n3:xP≠p:=λz=>by rw[z,fp]at t1;cases t1
 refine⟨_,rfl,_,rfl,p,_,dx,_,rfl,hp,T.iB,T.uz,(show 0<1000 by decide),?_⟩;refine⟨_,rfl,_,rfl,p,_,dx,_,rfl,eV,T.iB,T.mC,(show 1<1000 by decide),?_⟩;refine⟨_,rfl,_,rfl,p,_,dx,_,rfl,eV,T.iB,T.rM,(show 2<1000 by decide),?_⟩;refine⟨_,rfl,p,_,dx,_,rfl,eV,T.iB,T.qF,(show 3<1000 by decide),?_⟩;rw[gn,gn,gn];refine⟨_,rfl,_,_,_,_,_,rfl,(eY n1).trans (sF _ _ g1),T.ie,T.iC,rfl,_,_,_,_,rfl,rfl,gC.of ((eY n2).trans (sF _ _ g5)),at_of rfl (by rw[aK,Ri];rfl),_,rfl,p,_,dx,_,rfl,eV,T.iB,T.lB,(show 4<1000 by decide),?_⟩;refine⟨_,rfl,_,rfl,_,_,_,_,_,rfl,eV,T.iB,T.lB,rfl,_,_,_,_,_,rfl,(eY n3).trans ((eY n3).trans (sF _ _ t1)),T.ny,T.lS,rfl,_,_,rfl,rfl,_,rfl,p,_,dx,_,rfl,eV,T.iB,T.jY,(show 5<1000 by decide),?_⟩
 .rw[gn,gn];exact k xP x Vu hx
inductive ME(a:ij)(vs:List V)(H:Hp)(Q:VK)(u1:XK):Prop
 |mk:∀(p dx bk:Addr),vs=[.ref p,.ref bk]->H p=some (.ins a.gz dx [])->(∀lv sw H',H lv=none->H sw=none->lv≠sw->fb [p] H H'->H' p=some (.ins a.gz dx (iZ bk 0 lv sw))->H' lv=some (.lst (List.replicate 16 .hJ))->H' sw=some (.lst (nV (List.replicate 8 0)))->Q .hJ H')->ME a vs H Q u1
def QL(T:Txt K mg a):gj P w K mg bz (PL a) 2 a.oo ["self","book"] (ME a):=by
 refine jx T.tH y9 ?_;rintro _ _ _ _ H _ _ _ _ hr ⟨p,dx,bk,rfl,hp,k⟩
 refine⟨_,eW (fT (pv 0) (pv 1) rfl)
  (eW (fT (pv 0) fA rfl)
  (eW (fT (pv 0) (g0 JV (gO (iF qb)) (iy T.qB)) rfl)
  (ff (fT (pv 0) (P2 (wc T) hr T.ll) rfl)))),Kj ?_⟩
 intros;refine⟨_,rfl,_,rfl,p,_,dx,_,rfl,hp,T.gG,T.pV,(show 0<1000 by decide),?_⟩;refine⟨_,rfl,p,_,dx,_,rfl,eV,T.gG,T.iL,(show 1<1000 by decide),?_⟩;rw[gn];refine⟨by decide,λl hl=>⟨l,16,_,rfl,rfl,eV,by decide,by decide,by decide,λlv Ng=>?_⟩⟩;rw[T7];generalize hF1:gw "tick" (V.int 0) (gw "book" (V.ref bk) [])=F1 at hl Ng;have pl:p≠l:=ft eV hl;have Rk:p≠lv:=λz=>by rw[<-z,eY pl,eV]at Ng;cases Ng
 have llv:lv≠l:=λz=>by rw[z,eV]at Ng;cases Ng
 have hp3:(upd (upd (upd H p (.ins a.gz dx F1)) l (.lst [.hJ])) lv (.lst (List.replicate 16 V.hJ))) p=some (.ins a.gz dx F1):=by rw[eY Rk,eY pl,eV]
 have h0l:H l=none:=by rw[eY pl.symm]at hl;exact hl
 have aa9:H lv=none:=by rw[eY llv,eY Rk.symm]at Ng;exact Ng
 have k3:fb [p] H (upd (upd (upd H p (.ins a.gz dx F1)) l (.lst [.hJ])) lv (.lst (List.replicate 16 V.hJ))):=((fb.put hp (by simp) lC).trans (.new hl)).trans (.new Ng);refine⟨_,rfl,p,_,dx,_,rfl,hp3,T.gG,T.iM,?_,?_⟩
 .rw[<-hF1];exact(show 2<1000 by decide)
 refine⟨rfl,λsw H5 Wh k5 h5=>?_⟩;have hp4:=k5.k _ _ eV (by simp);have VO:sw≠p:=λz=>by rw[z,eV]at Wh;cases Wh
 have aba:lv≠sw:=λz=>by rw[<-z,eY Rk.symm,eV]at Wh;cases Wh
 have abb:H5 lv=some (.lst (List.replicate 16 V.hJ)):=k5.k _ _ (by rw[eY Rk.symm,eV]) (by simp);refine⟨_,rfl,p,_,dx,_,rfl,hp4,T.gG,T.iJ,?_,?_⟩
 .rw[<-hF1];exact(show 3<1000 by decide)
 refine k lv sw _ aa9 ?_ aba ?_ ?_ (by rw[eY Rk.symm];exact abb) (by rw[eY VO];exact h5)
 .cases q:H sw with
  |none=>rfl
  |some o=>
   have:=k3.k sw o q (by simpa using VO);rw[eY VO,this]at Wh;cases Wh
 .exact((k3.trans (.put hp3 (by simp) lC)).trans (k5.mono (by simp))).trans (.put hp4 (by simp) lC)
 rw[eV,<-hF1];rfl
theorem ir.set(i:Nat)(h:ir R xs ys)(hr:R x y):ir R (xs.set i x) (ys.set i y):=by
 induction h generalizing i with
 |nil=>exact .nil
 |cons a b ih=>
  cases i with
  |zero=>exact .cons hr b
  |succ i=>exact .cons a (ih i)
def D4.same(x:D4 a F H r m s)(h:∀o,H r=some o->H' r=some o):D4 a F H' r m s:=
 let⟨dx,sp,xP,y,h1,h2⟩:=x
 ⟨dx,sp,xP,y,h _ h1,h2⟩
def KC(a:ij)(F H:Hp)(O:List Addr)(b:Book)(v:V):Option mq->Prop
 |none=>v=.hJ
 |some m=>∃r s,v=.ref r/\r∈O/\b[m.number]? =some s/\D4 a F H r m s
structure iN(a:ij)(F H:Hp)(p:Addr)(O:List Addr)(m:gv)(lamps:List Nat)(b:Book):Prop where
 same:oj F H
 fr:∀x∈O,F x=none
 al:∀x∈O,H x≠none
 ex:∃dx bk lv sw rs,H p=some (.ins a.gz dx (iZ bk m.tick lv sw))/\qU a F bk lamps b/\H lv=some (.lst rs)/\H sw=some (.lst (nV m.cols))/\lv≠sw/\p∈O/\lv∈O/\sw∈O/\ir (KC a F H O b) rs m.levels/\∀(i j:Nat) r,rs[i]? =some (V.ref r)->rs[j]? =some (V.ref r)->i=j
section
variable{a:ij}{F H H':Hp}{p:Addr}{O O' S:List Addr}{m:gv}{lamps:List Nat}{b:Book}
theorem SU(k:fb S H H')(n:∀z∈S,z∉O)(al:∀x∈O,H x≠none):∀x∈O,H' x≠none:=λx hx=>by
 cases e:H x with
 |none=>exact absurd e (al x hx)
 |some o=>rw[k.k x o e λy=>n x y hx];intro z;cases z
theorem KC.keep(x:KC a F H O b v o)(sub:∀z∈O,z∈O')(k:∀r u,v=.ref r->H r=some u->H' r=some u):KC a F H' O' b v o:=by
 cases o with
 |none=>exact x
 |some m=>
  obtain⟨r,s,h1,h2,h3,h4⟩:=x;exact⟨r,s,h1,sub r h2,h3,h4.same λo e=>k r o h1 e⟩
theorem iN.keep(x:iN a F H p O m lamps b)(k:fb S H H')(n:∀z∈S,F z=none/\z∉O):iN a F H' p O m lamps b:=by
 obtain⟨dx,bk,lv,sw,rs,h1,h2,h3,h4,h5,h6,h7,h8,h9,h10⟩:=x.ex;have q:∀z o,z∈O->H z=some o->H' z=some o:=λz o hz e=>k.k z o e λy=>(n z y).2 hz;refine⟨fb.base x.same k λz hz=>(n z hz).1,x.fr,SU k (λz hz=>(n z hz).2) x.al,dx,bk,lv,sw,rs,q _ _ h6 h1,h2,q _ _ h7 h3,q _ _ h8 h4,h5,h6,h7,h8,h9.imp λv o z=>?_,h10⟩;cases o with
 |none=>exact z
 |some m=>
  obtain⟨r,s,g1,g2,g3,g4⟩:=z;exact⟨r,s,g1,g2,g3,g4.same λo e=>q _ _ g2 e⟩
def SV(a:ij)(F H:Hp)(p:Addr)(O:List Addr)(m:gv)(lamps:List Nat)(b:Book)(Q:Hp->Prop):Prop:=∀H' O',fb O H H'->(∀x∈O',x∈O\/H x=none)->iN a F H' p O' m lamps b->Q H'
def nQ{m:mq}(h1:H r=some (.ins a.mG dx (QK m sp xP)))(h2:H p=some (.ins a.gz Q6 (iZ bk t lv sw))):r≠p:=gK h1 h2 λz=>by
 injection z with _ _ z3;have:=(List.cons.inj z3).1;have:=aQ Prod.snd this;cases this
def iN.QM(x:iN a F H p O m lamps b)(h1:H p=some (.ins a.gz dx (iZ bk m.tick lv sw)))(h2:H lv=some (.lst rs))(hv:KC a F H O b v o)(hn:∀r,v=.ref r->∀j:Nat,rs[j]? ≠some (V.ref r)):
  iN a F (upd H lv (.lst (rs.set i v))) p O {m with levels:=m.levels.set i o} lamps b:=by
 obtain⟨_,OB,lv',sw',_,g1,g2,g3,g4,g5,g6,g7,g8,g9,g10⟩:=x.ex;rw[h1]at g1;injection g1 with g1;injection g1 with g11 g12 VP
 obtain⟨rfl,rfl,rfl⟩:bk=OB/\lv=lv'/\sw=sw':=by
  unfold iZ at VP;simp only[bG,cV,true_and,V.ref.injEq,and_true]at VP;exact VP
 rw[h2]at g3;injection g3 with g3;injection g3 with g3;subst g3;have Rk:=gK h1 h2 (by intro z;cases z)
 have lvk':∀v' o,KC a F H O b v' o->KC a F (upd H lv (.lst (rs.set i v))) O b v' o:=λv' o z=>by
  cases o with
  |none=>exact z
  |some m=>
   obtain⟨r,s,h1,h2',h3,dx,sp,xP,y,q1,q2⟩:=z;exact⟨r,s,h1,h2',h3,dx,sp,xP,y,by rw[eY (gK q1 h2 (by intro z;cases z))];exact q1,q2⟩
 refine⟨λz u e=>?_,x.fr,λz hz=>?_,dx,bk,lv,sw,rs.set i v,by rw[eY Rk];exact h1,g2,eV,by rw[eY (aW g5)];exact g4,g5,g6,g7,g8,(g9.imp lvk').set i (lvk' _ _ hv),λj k r q1 q2=>?_⟩
 .rw[eY λy=>by rw[y,x.fr _ g7]at e;cases e];exact x.same _ _ e
 .by_cases y:z=lv
  .rw[y,eV];intro y;cases y
  rw[eY y];exact x.al z hz
 by_cases e1:i=j
 .by_cases e2:i=k
  .rw[<-e1,<-e2]
  rw[bj e2]at q2;subst e1;rw[List.getElem?_set]at q1;split at q1
  .split at q1
   .exact absurd q2 (hn r (ao q1) k)
   cases q1
  exact absurd rfl ‹¬_›
 rw[bj e1]at q1;by_cases e2:i=k
 .subst e2;rw[List.getElem?_set]at q2;split at q2
  .split at q2
   .exact absurd q1 (hn r (ao q2) j)
   cases q2
  exact absurd rfl ‹¬_›
 rw[bj e2]at q2;exact g10 j k r q1 q2
def iN.Vk(x:iN a F H p O m lamps b)(h1:H p=some (.ins a.gz dx (iZ bk m.tick lv sw)))(h2:H lv=some (.lst rs))(h3:rs[i]? =some (.ref r))(h4:m.levels[i]? =some (some m0))
  (k:fb [r] H H') (hr:D4 a F H' r m1 s) (hb:b[m1.number]? =some s):iN a F H' p O {m with levels:=m.levels.set i (some m1)} lamps b:=by
 obtain⟨_,OB,lv',sw',_,g1,g2,g3,g4,g5,g6,g7,g8,g9,g10⟩:=x.ex;rw[h1]at g1;injection g1 with g1;injection g1 with g11 g12 VP
 obtain⟨rfl,rfl,rfl⟩:bk=OB/\lv=lv'/\sw=sw':=by
  unfold iZ at VP;simp only[bG,cV,true_and,V.ref.injEq,and_true]at VP;exact VP
 rw[h2]at g3;injection g3 with g3;injection g3 with g3;subst g3;obtain⟨_,_,e1,e2,_,_,_,_,_,e4,_⟩:=g9.get h3 h4;cases e1;have pr:=(nQ e4 h1).symm;have lr:=gK h2 e4 (by intro z;cases z);have sr:=gK g4 e4 (by intro z;cases z);have q:∀z o,z≠r->H z=some o->H' z=some o:=λz o n e=>k.k z o e (by simpa using n);refine⟨fb.base x.same k λz hz=>by simp at hz;rw[hz];exact x.fr _ e2,x.fr,λz hz=>?_,dx,bk,lv,sw,rs,q _ _ pr h1,g2,q _ _ lr h2,q _ _ sr g4,g5,g6,g7,g8,ir.of (by rw[dG];exact g9.len) λj v o q1 q2=>?_,g10⟩
 .by_cases y:z=r
  .rw[y];obtain⟨_,_,_,_,z1,_⟩:=hr;rw[z1];intro y;cases y
  cases e:H z with
  |none=>exact absurd e (x.al z hz)
  |some o=>rw[q z o y e];intro y;cases y
 by_cases e:i=j
 .subst e;rw[h3]at q1;have ev:=ao q1;subst ev;rw[bD (ay.mp h4).1]at q2;have eo:=ao q2;subst eo;exact⟨r,s,rfl,e2,hb,hr⟩
 rw[bj e]at q2;exact(g9.get q1 q2).keep (λ_ z=>z) λr' u ev eu=>q r' u (λy=>e (g10 i j r h3 (by rw[q1,ev,y]))) eu
def zU{s:Show}{m:mq}(h:m.over=t):kN s t m=if m.at_+1=s.steps.length then(if s.loop=true then some {m with at_:=0,begun:=t,over:=t+MT.pre s.steps 1}else none)else some {m with at_:=m.at_+1,over:=t+((s.steps[m.at_+1]?).map (·.ticks)).getD 0}:=by
 unfold kN;rw[ak h]
end
inductive QN(a:ij)(vs:List V)(H:Hp)(Q:VK)(u1:XK):Prop
 |mk:∀(F:Hp)(r:Addr)(m:mq)(s:Show),vs=[.ref r,.int (m.over:Int)]->D4 a F H r m s->oj F H->F r=none->(∀v H',fb [r] H H'->H' r≠none->(match kN s m.over m with|none=>v=.bl false|some m'=>v=.bl true/\D4 a F H' r m' s)->Q v H')->QN a vs H Q u1
def yo(T:Txt K mg a):gj P w K mg bz (PL a) 1 a.iQ ["run","tick"] (QN a):=by
 refine jx T.rO yb ?_;rintro _ _ _ _ H _ _ _ _ _ ⟨F,r,m,s,rfl,X,sF,fr,k⟩
 refine⟨_,eW (sM (pv 0) fA CH)
  (eW (fS (fm ig (gI 0) (gM T.iA (mm (gI 0) rfl)) (fv _))
   (eW (fS (qe (jd (mm (gI 0) rfl)))
    (kY wV)
    fB)
   (eW (fT (pv 0) fA rfl)
   (ff (fT (pv 0) (pv 1) rfl))))
   fB)
  (eW (fT (pv 0) (gQ gp (mm (gI 0) rfl) (gI 0) λ_ _=>rfl) rfl)
  (eW (fT (pv 0) (g0 kI (pv 1) (mm (gI 0) rfl)) rfl)
  (kY wV)))),Rv ?_⟩
 intros;obtain⟨dx,sp,xP,x,h1,h2,h3,h4⟩:=X;obtain⟨Zd,nt,l,c,st,sps,g1,g2,g3,g4,g5,g6,g7⟩:=h2.ex;have n1:sp≠r:=λz=>by rw[z,fr]at g1;cases g1
 have n2:st≠r:=λz=>by rw[z,fr]at g5;cases g5
 have up:∀{z o u},F z=some o->z≠r->upd H r u z=some o:=λh n=>by rw[eY n];exact sF _ _ h
 rw[zU rfl]at k;have hl:m.at_<s.steps.length:=(ay.mp h4).1;refine⟨_,rfl,_,_,_,_,_,rfl,h1,T.iB,T.qF,rfl,_,_,rfl,rfl,_,_,h1,(show 6<1000 by decide),?_⟩;refine⟨_,rfl,_,_,_,_,_,rfl,eV,T.iB,T.qF,rfl,_,rfl,_,_,_,_,_,rfl,eV,T.iB,T.mC,rfl,_,_,_,_,_,rfl,up g1 n1,T.ie,T.iC,rfl,_,_,rfl,.inl (gC.of (up g5 n2)),rfl,_,rfl,?_⟩
 have e1:decide (V.int ((m.at_:Int)+1)=V.int ((sps.map V.ref).length:Int))=decide (m.at_+1=s.steps.length):=by
  rw[aw,g6,a6];exact⟨λz=>by have:=V.int.inj z;omega,λz=>by rw[<-z];rfl⟩
 refine fH (λq=>?_) (λq=>?_)
 .have q':m.at_+1=s.steps.length:=aj (e1.symm.trans q);rw[ak q']at k;refine⟨_,rfl,_,_,_,_,_,rfl,eV,T.iB,T.mC,rfl,_,_,_,_,_,rfl,up g1 n1,T.ie,T.pX,rfl,_,rfl,fH (λq2=>?_) λq2=>?_⟩
  .have q3:s.loop=false:=by simpa using q2
   rw[q3,ag (by simp)]at k;exact k _ _ (.put h1 (by simp) lC) (by rw[eV];intro z;cases z) rfl
  have q3:s.loop=true:=by simpa using q2
  rw[q3,ak rfl]at k;refine⟨_,rfl,r,_,dx,_,rfl,eV,T.iB,T.qF,(show 6<1000 by decide),?_⟩;refine⟨_,rfl,_,rfl,r,_,dx,_,rfl,eV,T.iB,T.rM,(show 6<1000 by decide),?_⟩;rw[gn,gn];obtain⟨x',Ha⟩:∃x',s.steps[0]? =some x':=⟨_,az (by omega)⟩;obtain⟨KY,Ri,T2⟩:=g7 _ x' Ha;obtain⟨dxt,tl,tc,t1,t2,t3⟩:=T2;have n3:KY≠r:=λz=>by rw[z,fr]at t1;cases t1
  refine⟨_,rfl,_,_,_,_,_,rfl,eV,T.iB,T.mC,rfl,_,_,_,_,_,rfl,up g1 n1,T.ie,T.iC,rfl,_,rfl,_,_,_,_,_,rfl,eV,T.iB,T.qF,rfl,_,_,_,_,rfl,rfl,gC.of (up g5 n2),at_of (j:=0) (v:=.ref KY) rfl (by rw[aK,Ri];rfl),_,rfl,r,_,dx,_,rfl,eV,T.iB,T.lB,(show 6<1000 by decide),?_⟩;rw[gn];refine⟨_,rfl,_,rfl,_,_,_,_,_,rfl,eV,T.iB,T.lB,rfl,_,_,_,_,_,rfl,up t1 n3,T.ny,T.lS,rfl,_,_,rfl,rfl,_,rfl,r,_,dx,_,rfl,eV,T.iB,T.jY,(show 6<1000 by decide),?_⟩;rw[gn];rw[T8 Ha]at k;exact k _ _ (.put h1 (by simp) lC) (by rw[eV];intro z;cases z) ⟨rfl,dx,sp,KY,x',by rw[eV];rfl,h2,⟨dxt,tl,tc,t1,t2,t3⟩,Ha⟩
 have q':¬m.at_+1=s.steps.length:=au (e1.symm.trans q);rw[ag q']at k;obtain⟨x',Ha⟩:∃x',s.steps[m.at_+1]? =some x':=⟨_,az (by omega)⟩;obtain⟨KY,Ri,T2⟩:=g7 _ x' Ha;obtain⟨dxt,tl,tc,t1,t2,t3⟩:=T2;have n3:KY≠r:=λz=>by rw[z,fr]at t1;cases t1
 refine⟨_,rfl,_,_,_,_,_,rfl,eV,T.iB,T.mC,rfl,_,_,_,_,_,rfl,up g1 n1,T.ie,T.iC,rfl,_,rfl,_,_,_,_,_,rfl,eV,T.iB,T.qF,rfl,_,_,_,_,rfl,rfl,gC.of (up g5 n2),at_of (j:=m.at_+1) (v:=.ref KY) rfl (by rw[aK,Ri];rfl),_,rfl,r,_,dx,_,rfl,eV,T.iB,T.lB,(show 6<1000 by decide),?_⟩;rw[gn];refine⟨_,rfl,_,rfl,_,_,_,_,_,rfl,eV,T.iB,T.lB,rfl,_,_,_,_,_,rfl,up t1 n3,T.ny,T.lS,rfl,_,_,rfl,rfl,_,rfl,r,_,dx,_,rfl,eV,T.iB,T.jY,(show 6<1000 by decide),?_⟩;rw[gn];rw[Ha]at k;exact k _ _ (.put h1 (by simp) lC) (by rw[eV];intro z;cases z) ⟨rfl,dx,sp,KY,x',by rw[eV];rfl,h2,⟨dxt,tl,tc,t1,t2,t3⟩,Ha⟩
structure yp(b:Book):Prop where
 sp:∀s∈b,∀p∈s.speaks,p<64
 st:∀s∈b,s.steps≠[]
section
variable{a:ij}{F H H':Hp}{p:Addr}{O O' S:List Addr}{m:gv}{lamps:List Nat}{b:Book}
def iN.Xu(x:iN a F H p O m lamps b)(h1:H p=some (.ins a.gz dx (iZ bk m.tick lv sw)))(k:fb [p] H H')(fl:H lv'=none)(g1:H' p=some (.ins a.gz dx (iZ bk m.tick lv' sw)))(g2:H' lv'=some (.lst (List.replicate 16 .hJ))):
  iN a F H' p (lv'::O) {m with levels:=List.replicate 16 none} lamps b:=by
 obtain⟨_,OB,VQ,sw',_,e1,e2,_,e4,_,e6,_,e8,_⟩:=x.ex;rw[h1]at e1;injection e1 with e1;injection e1 with e11 e12 KZ
 obtain⟨rfl,rfl,rfl⟩:bk=OB/\lv=VQ/\sw=sw':=by
  unfold iZ at KZ;simp only[bG,cV,true_and,V.ref.injEq,and_true]at KZ;exact KZ
 have fF:F lv'=none:=by
  cases q:F lv' with
  |none=>rfl
  |some o=>rw[x.same _ _ q]at fl;cases fl
 have swp:=gK e4 h1 (by intro z;cases z);have lsw:lv'≠sw:=λz=>by rw[z,e4]at fl;cases fl
 refine⟨fb.base x.same k λz hz=>by simp at hz;rw[hz];exact x.fr _ e6,λz hz=>?_,λz hz=>?_,dx,bk,lv',sw,_,g1,e2,g2,k.k _ _ e4 (by simpa using swp),lsw,aC _ e6,aM ..,aC _ e8,?_,λi j r q1 q2=>?_⟩
 .rcases aA.mp hz with y|y
  .rw[y];exact fF
  exact x.fr z y
 .rcases aA.mp hz with y|y
  .rw[y,g2];intro y;cases y
  by_cases e:z=p
  .rw[e,g1];intro y;cases y
  cases q:H z with
  |none=>exact absurd q (x.al z y)
  |some o=>rw[k.k z o q (by simpa using e)];intro y;cases y
 .refine ir.of rfl λi v o q1 q2=>?_;rw[bc]at q1 q2;split at q1
  .rw[ak ‹_›]at q2;cases q1;cases q2;exact rfl
  cases q1
 rw[bc]at q1;split at q1
 .cases q1
 cases q1
def iN.Xv(x:iN a F H p O m lamps b)(h1:H p=some (.ins a.gz dx (iZ bk m.tick lv sw)))(k:fb [p] H H')(fl:H sw'=none)(g1:H' p=some (.ins a.gz dx (iZ bk m.tick lv sw')))(g2:H' sw'=some (.lst (nV cols))):
  iN a F H' p (sw'::O) {m with cols:=cols} lamps b:=by
 obtain⟨_,OB,VQ,Yq,_,e1,e2,e3,_,_,e6,e7,_,e9,e10⟩:=x.ex;have hp:=h1;rw[h1]at e1;injection e1 with e1;injection e1 with e11 e12 KZ
 obtain⟨rfl,rfl,rfl⟩:bk=OB/\lv=VQ/\sw=Yq:=by
  unfold iZ at KZ;simp only[bG,cV,true_and,V.ref.injEq,and_true]at KZ;exact KZ
 have fF:F sw'=none:=by
  cases q:F sw' with
  |none=>rfl
  |some o=>rw[x.same _ _ q]at fl;cases fl
 have lvp:=gK e3 hp (by intro z;cases z);have lsw:lv≠sw':=λz=>by rw[<-z,e3]at fl;cases fl
 refine⟨fb.base x.same k λz hz=>by simp at hz;rw[hz];exact x.fr _ e6,λz hz=>?_,λz hz=>?_,dx,bk,lv,sw',_,g1,e2,k.k _ _ e3 (by simpa using lvp),g2,lsw,aC _ e6,aC _ e7,aM ..,e9.imp λv o z=>?_,e10⟩
 .rcases aA.mp hz with y|y
  .rw[y];exact fF
  exact x.fr z y
 .rcases aA.mp hz with y|y
  .rw[y,g2];intro y;cases y
  by_cases e:z=p
  .rw[e,g1];intro y;cases y
  cases q:H z with
  |none=>exact absurd q (x.al z y)
  |some o=>rw[k.k z o q (by simpa using e)];intro y;cases y
 cases o with
 |none=>exact z
 |some mr=>
  obtain⟨r,s,z1,z2,z3,d,sp,xP,y,z4,z5⟩:=z;exact⟨r,s,z1,aC _ z2,z3,d,sp,xP,y,k.k _ _ z4 (by simpa using nQ z4 hp),z5⟩
def iN.Ua(x:iN a F H p O m lamps b)(h1:H p=some (.ins a.gz dx (iZ bk m.tick lv sw))):iN a F (upd H sw (.lst (nV cols))) p O {m with cols:=cols} lamps b:=by
 obtain⟨_,OB,VQ,Yq,_,e1,e2,e3,e4,e5,e6,e7,e8,e9,e10⟩:=x.ex;have hp:=h1;rw[h1]at e1;injection e1 with e1;injection e1 with e11 e12 KZ
 obtain⟨rfl,rfl,rfl⟩:bk=OB/\lv=VQ/\sw=Yq:=by
  unfold iZ at KZ;simp only[bG,cV,true_and,V.ref.injEq,and_true]at KZ;exact KZ
 have VO:=gK hp e4 (by intro z;cases z);refine⟨λz o e=>by rw[eY λy=>by rw[y,x.fr _ e8]at e;cases e];exact x.same _ _ e,x.fr,λz hz=>?_,dx,bk,lv,sw,_,by rw[eY VO];exact hp,e2,by rw[eY e5];exact e3,eV,e5,e6,e7,e8,e9.imp λv o z=>?_,e10⟩
 .by_cases e:z=sw
  .rw[e,eV];intro y;cases y
  rw[eY e];exact x.al z hz
 cases o with
 |none=>exact z
 |some mr=>
  obtain⟨r,s,z1,z2,z3,d,sp,xP,y,z4,z5⟩:=z;exact⟨r,s,z1,z2,z3,d,sp,xP,y,by rw[eY (gK z4 e4 (by intro z;cases z))];exact z4,z5⟩
def iN.more(x:iN a F H p O m lamps b)(hr:H r≠none)(hF:F r=none):iN a F H p (r::O) m lamps b:=by
 obtain⟨dx,bk,lv,sw,rs,e1,e2,e3,e4,e5,e6,e7,e8,e9,e10⟩:=x.ex;refine⟨x.same,λz hz=>?_,λz hz=>?_,dx,bk,lv,sw,rs,e1,e2,e3,e4,e5,aC _ e6,aC _ e7,aC _ e8,e9.imp λv o z=>z.keep (λ_ h=>aC _ h) λ_ _ _ e=>e,e10⟩
 .rcases aA.mp hz with y|y
  .rw[y];exact hF
  exact x.fr z y
 rcases aA.mp hz with y|y
 .rw[y];exact hr
 exact x.al z y
end
inductive QO(a:ij)(vs:List V)(H:Hp)(Q:VK)(u1:XK):Prop
 |mk:∀(p dx bk lv sw:Addr)(rs:List V)(t l:Nat),vs=[.ref p,.int (l:Int)]->H p=some (.ins a.gz dx (iZ bk t lv sw))->H lv=some (.lst rs)->l<rs.length->Q .hJ (upd H lv (.lst (rs.set l .hJ)))->QO a vs H Q u1
def xO(T:Txt K mg a):gj P w K mg bz (PL a) 1 a.jS ["board","level"] (QO a):=by
 refine jx T.zB Es ?_;rintro _ _ _ _ _ _ _ _ _ _ ⟨_,_,_,lv,_,_,_,l,rfl,e1,e3,hl,k⟩;refine⟨_,ff (OM qb (OK (gI 0) (pv 1) set_list)),?_⟩;exact⟨_,rfl,_,_,_,_,_,rfl,e1,T.gG,T.iM,rfl,_,rfl,lv,_,_,l,rfl,rfl,e3,Co hl,k⟩
inductive FE(a:ij)(vs:List V)(H:Hp)(Q:VK)(u1:XK):Prop
 |mk:∀(F:Hp)(p:Addr)(O:List Addr)(m:gv)(lamps:List Nat)(b:Book),vs=[.ref p]->iN a F H p O m lamps b->SV a F H p O {m with levels:=List.replicate 16 none} lamps b (Q .hJ)->FE a vs H Q u1
def IZ(T:Txt K mg a):gj P w K mg bz (PL a) 1 a.oq ["board"] (FE a):=by
 refine jx T.DG Im ?_;rintro _ _ _ _ H _ _ _ _ _ ⟨F,p,O,m,lamps,b,rfl,X,k⟩;refine⟨_,ff (fT (pv 0) (g0 JV (gO (iF qb)) (iy T.qB)) rfl),?_⟩;obtain⟨dx,bk,lv,sw,rs,e1,e2,e3,e4,e5,e6,e7,e8,e9,e10⟩:=X.ex;refine⟨by decide,λl hl=>⟨l,16,_,rfl,rfl,eV,by decide,by decide,by decide,λlv' Ng=>?_⟩⟩;rw[T7];have llv:lv'≠l:=λz=>by rw[z,eV]at Ng;cases Ng
 have f0:H lv'=none:=by rw[eY llv]at Ng;exact Ng
 have k2:fb [] H (upd (upd H l (.lst [.hJ])) lv' (.lst (List.replicate 16 .hJ))):=(fb.new hl).trans (.new Ng);have RC:=k2.k _ _ e1 (by simp);have pl:lv'≠p:=λz=>by rw[z,e1]at f0;cases f0
 have k3:fb [p] H (upd (upd (upd H l (.lst [.hJ])) lv' (.lst (List.replicate 16 .hJ))) p (.ins a.gz dx (iZ bk m.tick lv' sw))):=(k2.mono (by simp)).trans (.put RC (by simp) lC);refine⟨_,rfl,p,_,dx,_,rfl,RC,T.gG,T.iM,(show 4<1000 by decide),k _ (lv'::O) (k3.mono (by simp;exact e6)) (λx hx=>(aA.mp hx).elim (λy=>by rw[y];exact .inr f0) .inl) ?_⟩;exact X.Xu e1 k3 f0 eV (by rw[eY pl,eV])
inductive Ub(a:ij)(vs:List V)(H:Hp)(Q:VK)(u1:XK):Prop
 |mk:∀(F:Hp)(p:Addr)(O:List Addr)(m:gv)(lamps:List Nat)(b:Book),vs=[.ref p]->iN a F H p O m lamps b->SV a F H p O {m with cols:=List.replicate 8 0} lamps b (Q .hJ)->Ub a vs H Q u1
def zV(T:Txt K mg a):gj P w K mg bz (PL a) 2 a.jb ["board"] (Ub a):=by
 refine jx T.tI za ?_;rintro _ _ _ _ H _ _ _ _ hr ⟨F,p,O,m,lamps,b,rfl,X,k⟩;refine⟨_,ff (fT (pv 0) (P2 (wc T) hr T.ll) rfl),?_⟩;obtain⟨dx,bk,lv,sw,rs,e1,e2,e3,e4,e5,e6,e7,e8,e9,e10⟩:=X.ex;refine⟨rfl,λsw' H1 f0 k1 h1=>?_⟩;have RC:=k1.k _ _ e1 (by simp);have pl:sw'≠p:=λz=>by rw[z,e1]at f0;cases f0
 have k3:fb [p] H (upd H1 p (.ins a.gz dx (iZ bk m.tick lv sw'))):=(k1.mono (by simp)).trans (.put RC (by simp) lC);refine⟨_,rfl,p,_,dx,_,rfl,RC,T.gG,T.iJ,(show 4<1000 by decide),k _ (sw'::O) (k3.mono (by simp;exact e6)) (λx hx=>(aA.mp hx).elim (λy=>by rw[y];exact .inr f0) .inl) ?_⟩;exact X.Xv e1 k3 f0 eV (by rw[eY pl];exact h1)
inductive MF(a:ij)(vs:List V)(H:Hp)(Q:VK)(u1:XK):Prop
 |mk:∀(F:Hp)(p:Addr)(O:List Addr)(m:gv)(lamps:List Nat)(b:Book)(l n:Nat),vs=[.ref p,.int (l:Int),.int (n:Int)]->iN a F H p O m lamps b->l<m.levels.length->n<b.length->yp b->SV a F H p O {m with levels:=m.levels.set l (some (xY b n m.tick))} lamps b (Q .hJ)->MF a vs H Q u1
theorem EA(T:Txt K mg a):gj P w K mg bz (PL a) 3 a.lH ["board","level","number"] (MF a):=by
 refine jx T.zA Er ?_;rintro _ _ _ s H _ _ _ _ hr ⟨F,p,O,m,lamps,b,l,n,rfl,X,hl,hn,G,k⟩;refine⟨_,ff (OM (Gq T.TQ (Vj T) hr T.mG (Ab (pv 2) (gQ gp (mm (gI 0) rfl) (pv 2) λ_ _=>rfl) (gI 0))) (OK (gI 0) (pv 1) set_list)),?_⟩;obtain⟨dx,bk,lv,sw,rs,e1,e2,e3,e4,e5,e6,e7,e8,e9,e10⟩:=X.ex;obtain⟨dxb,bl,sh,qs,b1,b2,b3,b4⟩:=e2;obtain⟨s,hs⟩:∃s,b[n]? =some s:=⟨_,az hn⟩;obtain⟨sp,hsp,hS⟩:=b4.GN hs;refine⟨_,rfl,_,rfl,_,_,_,_,_,rfl,e1,T.gG,T.pV,rfl,_,_,_,_,_,rfl,X.same _ _ b1,T.pY,T.jW,rfl,_,rfl,_,_,_,_,rfl,rfl,gC.of (X.same _ _ b3),at_of (j:=n) (v:=.ref sp) rfl (by rw[aK,hsp];rfl),_,rfl,_,_,_,_,_,rfl,e1,T.gG,T.iL,rfl,λr dr Nf Ef ndr=>?_⟩;have kr:fb [] H (upd (upd H dr (.own r)) r (.ins a.mG dr [])):=(fb.new Ef).trans (.new (by rw[eY (aW ndr)];exact Nf));have sH:oj F (upd (upd H dr (.own r)) r (.ins a.mG dr [])):=λx o e=>kr.k _ _ (X.same _ _ e) (by simp)
 have fF:F r=none:=by
  cases q:F r with
  |none=>rfl
  |some o=>rw[X.same _ _ q]at Nf;cases Nf
 refine⟨F,r,dr,sp,n,m.tick,s,rfl,eV,hS,sH,fF,G.st s (aR hs),λxP x hst hx=>⟨rfl,?_⟩⟩;rw[gn];have kr2:fb [] H (upd (upd H dr (.own r)) r (.ins a.mG dr (QK ⟨n,m.tick,0,m.tick+x.ticks⟩ sp xP))):=(fb.new Ef).trans (.new (by rw[eY (aW ndr)];exact Nf));have X2:=(X.keep kr2 (by simp)).more (r:=r) (by rw[eV];intro z;cases z) fF;have RC:=kr2.k _ _ e1 (by simp);have Wi:=kr2.k _ _ e3 (by simp)
 have eN:xY b n m.tick=⟨n,m.tick,0,m.tick+x.ticks⟩:=by
  unfold xY;rw[hs];show mq.mk n m.tick 0 (m.tick+MT.pre s.steps 1)=_;rw[T8 hx]
 have rl:r≠lv:=λz=>by rw[z,e3]at Nf;cases Nf
 refine⟨_,rfl,_,_,_,_,_,rfl,RC,T.gG,T.iM,rfl,_,rfl,lv,_,_,l,rfl,rfl,Wi,Co (by rw[e9.len];exact hl),k _ (r::O) ((kr2.mono (by simp)).trans (.put Wi e7 gS)) (λz hz=>(aA.mp hz).elim (λy=>by rw[y];exact .inr Nf) .inl) ?_⟩;rw[eN];refine X2.QM RC Wi ⟨r,s,rfl,aM ..,hs,dr,sp,xP,x,eV,hS,hst,hx⟩ λr' z j q=>?_;cases z;obtain⟨o,ho,hL⟩:=e9.getL q;cases o with
 |none=>cases hL
 |some mr=>
  obtain⟨r0,s0,z1,z2,_⟩:=hL;cases z1;exact X.al _ z2 Nf
def KD(l:List Nat):(hZ l).length=8:=by unfold hZ;rw[D0];rfl
def FF(l:List Nat)(hc:c<8):(hZ l)[c]? =some (((hZ l)[c]?).getD 0):=by
 have:c<(hZ l).length:=by rw[KD];exact hc
 rw[az this];rfl
def Ja(h:∀p∈l,p<64)(hc:c<8):((hZ l)[c]?).getD 0<256:=by
 obtain⟨x,h1,h2,_⟩:=(Gk h).get hc;show((l.foldl jz (List.replicate 8 0))[c]?).getD 0<256;rw[h1];exact h2
inductive Uc(a:ij)(vs:List V)(H:Hp)(Q:VK)(u1:XK):Prop
 |mk:∀(F:Hp)(p:Addr)(O:List Addr)(m:gv)(lamps:List Nat)(b:Book)(c:Nat),vs=[.ref p,.int (c:Int)]->iN a F H p O m lamps b->yp b->c<8->m.cols.length=8->Q (.int (ud b m c:Int)) H->Uc a vs H Q u1
def tR(T:Txt K mg a):gj P w K mg bz (PL a) 1 a.iW ["board","column"] (Uc a):=by
 refine jx T.uS ja ?_;rintro _ _ _ s H _ Q _ _ _ ⟨_,p,_,m,_,b,c,rfl,X,G,hc,_,k⟩
 refine⟨_,eW (fP 2 ja fA)
  (eW (fP 3 ja (iy T.Gy))
  (eW (jN aE rfl (HC rfl T.DB (iF (gI 0))) (ib (i:=4) ja.nd rfl (Or.inl rfl))
   (ff (fS (fm Lb (pv 4) qb (fv _))
    (eW (xQ (i:=2) ja.nd rfl (Or.inl rfl) (g0 JO (pv 3) (gQ gp (mm (gI 4) rfl) (pv 1) λ_ _=>rfl)) TM)
    (ff (xQ (i:=3) ja.nd rfl (Or.inl rfl) (g0 FT (iy T.Gy) (gQ gp (mm (gI 4) rfl) (pv 1) λ_ _=>rfl)) P4)))
    fB)))
  (kY (g0 WH (pv 2) (g0 JO (pv 3) (gQ gp (gI 0) (pv 1) λ_ _=>rfl)))))),Kj ?_⟩
 intros;obtain⟨_,_,lv,_,rs,e1,_,e3,e4,_,_,_,_,e9,_⟩:=X.ex;have rl:=e9.len
 let z:Nat->Nat×Nat:=λi=>((m.levels.reverse.take i).map (kP b c)).foldl kM (0,255)
 refine⟨_,rfl,_,_,_,_,_,rfl,e1,T.gG,T.iM,rfl,lv,rs,rfl,gC.of e3,GA (λi σ H'=>H'=H/\∃v,σ=[some (.ref p),some (.int (c:Int)),some (.int ((z i).1:Int)),some (.int ((z i).2:Int)),v]) ⟨rfl,none,rfl⟩ (λσ H' p=>aH _) ?_ ?_⟩
 .rintro i σ H1 hi ⟨rfl,v,rfl⟩;obtain⟨o,ho⟩:∃o,m.levels[rs.length - 1 - i]? =some o:=⟨_,az (by omega)⟩;obtain⟨x,hx,hL⟩:=e9.GN ho;refine⟨⟨hi,rs,x,gC.of e3,hx⟩,?_⟩;rintro y H2 ⟨rfl,hy⟩;have ey:=hy _ (gC.of e3);rw[hx]at ey;have ey:=ao ey;subst ey
  have abh:m.levels.reverse[i]? =some o:=by
   rw[List.getElem?_reverse (by omega),<-rl];exact ho
  have zs:z (i+1)=kM (z i) (kP b c o):=by
   show((m.levels.reverse.take (i+1)).map (kP b c)).foldl kM (0,255)=_;rw[take_snoc abh,aL,eD];rfl
  cases o with
  |none=>
   have hL:=hL;subst hL;refine⟨_,rfl,rfl,_,rfl,oh ⟨rfl,some .hJ,?_⟩⟩;rw[zs];rfl
  |some mr=>
   obtain⟨r,s,rfl,_,hs,_,_,_,st,r1,r2,r3,r4⟩:=hL;obtain⟨_,_,_,_,_,_,g1,_,_,g4,_⟩:=r2.ex;obtain⟨_,_,_,t1,_,t3⟩:=r3;have hb:=Ja (G.sp s (aR hs)) hc
   have eb:kP b c (some mr)=some (((hZ st.lit)[c]?).getD 0,((hZ s.speaks)[c]?).getD 0):=by
    unfold kP;rw[Option.map_some,hs];show some (((hZ (((s.steps[mr.at_]?).map (·.lit)).getD []))[c]?).getD 0,_)=_;rw[r4];rfl
   rw[eb]at zs;have c1:(nV (hZ st.lit))[c]? =some (.int (((hZ st.lit)[c]?).getD 0:Nat)):=by rw[wb,FF st.lit hc];rfl
   have c2:(nV (hZ s.speaks))[c]? =some (.int (((hZ s.speaks)[c]?).getD 0:Nat)):=by rw[wb,FF s.speaks hc];rfl
   generalize ((hZ st.lit)[c]?).getD 0=X1 at zs c1;generalize ((hZ s.speaks)[c]?).getD 0=X2 at zs c2 hb;refine⟨_,rfl,rfl,_,rfl,m9 ?_⟩;refine⟨_,rfl,_,rfl,_,rfl,_,_,_,_,_,rfl,r1,T.iB,T.lB,rfl,_,_,_,_,_,rfl,X.same _ _ t1,T.ny,T.qH,rfl,_,rfl,_,_,_,_,rfl,rfl,gC.of (X.same _ _ t3),at_of rfl c1,_,_,rfl,rfl,_,_,rfl,rfl,?_⟩;refine⟨_,rfl,_,rfl,_,_,_,_,_,rfl,r1,T.iB,T.mC,rfl,_,_,_,_,_,rfl,X.same _ _ g1,T.ie,T.qI,rfl,_,rfl,_,_,_,_,rfl,rfl,gC.of (X.same _ _ g4),at_of rfl c2,_,_,rfl,rfl,_,_,rfl,rfl,rfl,some (.ref r),?_⟩;rw[zs];rw[show(255:Int) - (X2:Int)=((255 - X2:Nat):Int)from by omega,zP,zP,Kw];rfl
 rintro σ H1 ⟨rfl,v,rfl⟩;obtain⟨y,hy⟩:∃y,m.cols[c]? =some y:=⟨_,az (by omega)⟩;refine⟨_,rfl,_,rfl,_,rfl,_,_,_,_,_,rfl,e1,T.gG,T.iJ,rfl,_,rfl,_,_,_,_,rfl,rfl,gC.of e4,at_of rfl (by rw[wb,hy];rfl),_,_,rfl,rfl,_,_,rfl,rfl,?_⟩;rw[zP,Kw]
 have ez:z rs.length=(m.levels.reverse.map (kP b c)).foldl kM (0,255):=by
  show((m.levels.reverse.take rs.length).map (kP b c)).foldl kM (0,255)=_;rw[cN (by rw[List.length_reverse];omega)]
 rw[ez];unfold ud at k;rw[hy]at k;exact k
section
variable{a:ij}{F H H':Hp}{p:Addr}{O O' S:List Addr}{m:gv}{lamps:List Nat}{b:Book}
theorem iN.fresh(x:iN a F H p O m lamps b)(h:H z=none):F z=none/\z∉O:=by
 refine⟨?_,λy=>x.al z y h⟩;cases e:F z with
 |none=>rfl
 |some o=>rw[x.same _ _ e]at h;cases h
def iN.SW(x:iN a F H p O m lamps b)(h1:H p=some (.ins a.gz dx (iZ bk m.tick lv sw))):iN a F (upd H p (.ins a.gz dx (iZ bk t lv sw))) p O {m with tick:=t} lamps b:=by
 obtain⟨_,OB,VQ,Yq,_,e1,e2,e3,e4,e5,e6,e7,e8,e9,e10⟩:=x.ex;have hp:=h1;rw[h1]at e1;injection e1 with e1;injection e1 with e11 e12 KZ
 obtain⟨rfl,rfl,rfl⟩:bk=OB/\lv=VQ/\sw=Yq:=by
  unfold iZ at KZ;simp only[bG,cV,true_and,V.ref.injEq,and_true]at KZ;exact KZ
 have VO:=gK e4 hp (by intro z;cases z);have Rk:=gK e3 hp (by intro z;cases z);refine⟨λz o e=>by rw[eY λy=>by rw[y,x.fr _ e6]at e;cases e];exact x.same _ _ e,x.fr,λz hz=>?_,dx,bk,lv,sw,_,eV,e2,by rw[eY Rk];exact e3,by rw[eY VO];exact e4,e5,e6,e7,e8,e9.imp λv o z=>?_,e10⟩
 .by_cases e:z=p
  .rw[e,eV];intro y;cases y
  rw[eY e];exact x.al z hz
 cases o with
 |none=>exact z
 |some mr=>
  obtain⟨r,s,z1,z2,z3,d,sp,xP,y,z4,z5⟩:=z;exact⟨r,s,z1,z2,z3,d,sp,xP,y,by rw[eY (nQ z4 hp)];exact z4,z5⟩
def iN.SX(x:iN a F H p O m lamps b)(k:fb [r] H H')(hr:H' r≠none)(hO:r∈O)(h1:H r=some (.ins a.mG d (QK mr sp xP)))
  (nr:∀dx bk lv sw rs,H p=some (.ins a.gz dx (iZ bk m.tick lv sw))->H lv=some (.lst rs)->∀j:Nat,rs[j]? ≠some (V.ref r)):iN a F H' p O m lamps b:=by
 obtain⟨dx,bk,lv,sw,rs,e1,e2,e3,e4,e5,e6,e7,e8,e9,e10⟩:=x.ex;have q:∀z o,z≠r->H z=some o->H' z=some o:=λz o n e=>k.k z o e (by simpa using n);have no:=nr dx bk lv sw rs e1 e3;refine⟨fb.base x.same k λz hz=>by simp at hz;rw[hz];exact x.fr _ hO,x.fr,λz hz=>?_,dx,bk,lv,sw,rs,q _ _ (nQ h1 e1).symm e1,e2,q _ _ (gK e3 h1 (by intro z;cases z)) e3,q _ _ (gK e4 h1 (by intro z;cases z)) e4,e5,e6,e7,e8,ir.of e9.len λi v o q1 q2=>?_,e10⟩
 .by_cases y:z=r
  .rw[y];exact hr
  cases e:H z with
  |none=>exact absurd e (x.al z hz)
  |some o=>rw[q z o y e];intro y;cases y
 exact(e9.get q1 q2).keep (λ_ z=>z) λr' u ev eu=>q r' u (λy=>no i (by rw[q1,ev,y])) eu
end
noncomputable def KG(b:Book)(t:Nat)(ls:List (Option mq))(i:Nat):List (Option mq):=(ls.take i).map (λo=>(gN b t o).1)++ls.drop i
def MG(b:Book)(t:Nat)(ls:List (Option mq))(i:Nat):(KG b t ls i).length=ls.length:=by
 unfold KG;rw[aq,aw,bh,bC];omega
def KH(h:ls[i]? =some o):(KG b t ls i)[i]? =some o:=by
 have hi:=(ay.mp h).1;unfold KG;rw[bO (by rw[aw,bh];omega),aw,bh,Nat.min_eq_left (by omega),sub_self,List.getElem?_drop];exact h
def D5(h:ls[i]? =some o):KG b t ls (i+1)=(KG b t ls i).set i (gN b t o).1:=by
 have hi:=(ay.mp h).1;unfold KG
 have hd:ls.drop i=o::ls.drop (i+1):=by
  rw[bY hi];have:=(ay.mp h).2;rw[this]
 have l1:((ls.take i).map λo=>(gN b t o).1).length=i:=by rw[aw,bh];omega
 rw[take_snoc h,aL,hd,List.set_append,l1,ag (by omega),sub_self,a0];rfl
def QP(h:ls[i]? =some o)(e:(gN b t o).1=o):KG b t ls (i+1)=KG b t ls i:=by
 rw[D5 h,e];refine List.ext_getElem? λj=>?_;by_cases q:i=j
 .subst q;rw[bD (by rw[MG];exact(ay.mp h).1),KH h]
 rw[bj q]
noncomputable def Jb(b:Book)(t:Nat)(ls:List (Option mq))(i:Nat):List Nat:=(List.range i).filter λi=>((ls[i]?).map λo=>(gN b t o).2).getD false
def Oi(h:ls[i]? =some o):Jb b t ls (i+1)=Jb b t ls i++(if(gN b t o).2=true then [i]else []):=by
 unfold Jb;rw[range_succ,cT,dh,h];rfl
def QQ(b:Book)(t:Nat)(ls:List (Option mq))(i:Nat):(Jb b t ls i).length<=i:=a7 (bX _ _) (by simp)
inductive QR(a:ij)(vs:List V)(H:Hp)(Q:VK)(u1:XK):Prop
 |mk:∀(F:Hp)(p:Addr)(O:List Addr)(m:gv)(lamps:List Nat)(b:Book),vs=[.ref p]->iN a F H p O m lamps b->yp b->m.cols.length=8->(∀q H',H q=none->fb [] H H'->H' q=some (.lst (nV (placesOf ((List.range 8).map λc=>ud b m c))))->Q (.ref q) H')->QR a vs H Q u1
def EB(T:Txt K mg a):gj P w K mg bz (PL a) 2 a.lI ["board"] (QR a):=by
 refine jx T.zC rX ?_;rintro _ _ _ _ H _ _ _ _ hr ⟨F,p,O,m,lamps,b,rfl,X,G,h8,k⟩;refine⟨_,(kY (gy (zT T) hr T.lq (iF (O8 (own:=[("column",1)]) rfl rX.nd (Ag rfl T.rD (iF (iy T.wz))) (CQ (N:=["board","column"]) (sc:=eZ uf) (by decide+kernel)) (λ_ _ _ _ _=>ib (i:=1) rX.nd rfl (Or.inl rfl)) (λ_ _ _ _ _=>F7) λ_ _ _ _ _=>(gy (tR T) (hx:=Gp) hr T.iW (jy (pv 0) (pv 1))))))),?_⟩;refine⟨8,rfl,by decide,by decide,λD hD=>O9 (lo:=0) (n:=8) (λi H'=>fb [D] H H'/\H' D=some (.lst (nV ((List.range i).map λc=>ud b m c)))) ⟨.new hD,eV⟩ ?_ ?_⟩
 .rintro i H1 hi ⟨k1,h1⟩;have X1:=X.keep k1 (by intro z hz;simp at hz;rw[hz];exact X.fresh hD);refine⟨rfl,_,rfl,_,rfl,F,p,O,m,lamps,b,i,?_,X1,G,hi,h8,_,h1,?_,k1.trans (.put h1 (by simp) gS),?_⟩
  .rw[Int.zero_add];rfl
  .rw[ia,aw,List.length_range];have:100<sizeLine:=by decide
   omega
  rw[eV,range_succ,aL,nP];rfl
 rintro H1 ⟨k1,h1⟩;refine⟨D,_,rfl,gC.of h1,by simp,λq H2 hq k2 h2=>k q H2 ?_ ((k1.drop hD).trans k2) h2⟩;exact(k1.drop hD).fresh hq
inductive QS(a:ij)(vs:List V)(H:Hp)(Q:VK)(u1:XK):Prop
 |mk:∀(F:Hp)(p:Addr)(O:List Addr)(m:gv)(lamps:List Nat)(b:Book),vs=[.ref p]->iN a F H p O m lamps b->m.levels.length=16->(∀e H',H e=none->fb O H H'->iN a F H' p O (jf b m).1 lamps b->H' e=some (.lst (nV (jf b m).2))->Q (.ref e) H')->QS a vs H Q u1
def GW(T:Txt K mg a):gj P w K mg bz (PL a) 2 a.mH ["board"] (QS a):=by
 refine jx T.By pU ?_;rintro _ _ _ s H _ _ _ _ hr ⟨F,p,O,m,lamps,b,rfl,X,Rg,k⟩
 refine⟨_,eW (sM (pv 0) fA CH)
  (eW (fP 1 pU (gO m8))
  (eW (jN aE rfl (Ag rfl T.rD (iF (iy T.qB))) (ib (i:=2) pU.nd rfl (Or.inl rfl))
   (eW (fP 3 pU (gQ gp (gI 0) (pv 2) λ_ _=>rfl))
   (ff (fS (PW.pt (qc (fm Lb (pv 3) qb (fv _)) (qc (fm ig (gI 3) (gI 0) (fv _)) (qX (qe (jd (gy (yo T) hr T.iQ (jy (pv 3) (gI 0)))))))))
    (eW (gi (gy (xO T) hr T.jS (jy (pv 0) (pv 2))))
    (ya (mD aX aI aJ iD (pv 1) (iF (pv 2)))))
    fB))))
  (kY (pv 1)))),Kj ?_⟩
 intros;obtain⟨dx,bk,lv,sw,rs,e1,e2,e3,e4,e5,e6,e7,e8,e9,e10⟩:=X.ex;refine⟨_,rfl,_,_,_,_,_,rfl,e1,T.gG,T.iL,rfl,_,_,rfl,rfl,_,_,e1,(show 4<1000 by decide),(show 0<=sizeLine by decide),λe he=>?_⟩;have X0:iN a F (upd H p (.ins a.gz dx (iZ bk (m.tick+1) lv sw))) p O {m with tick:=m.tick+1} lamps b:=X.SW e1;have he:(upd H p (.ins a.gz dx (iZ bk (m.tick+1) lv sw))) e=none:=he;have fe:=X0.fresh he;have he0:H e=none:=by rw[eY λz=>fe.2 (by rw[z];exact e6)]at he;exact he
 have big:100<sizeLine:=by decide
 refine⟨16,rfl,by decide,by decide,sJ (lo:=0) (n:=16) (λi σ H'=>(∃v2 v3,σ=[some (.ref p),some (.ref e),v2,v3])/\fb (e::O) H H'/\iN a F H' p O ⟨m.tick+1,KG b (m.tick+1) m.levels i,m.cols⟩ lamps b/\H' e=some (.lst (nV (Jb b (m.tick+1) m.levels i)))) ⟨⟨_,_,rfl⟩,?_,?_,eV⟩ ?_ ?_⟩
 .exact(fb.put e1 (by simp[e6]) lC).trans (.new he)
 .exact X0.keep (S:=[e]) (.new he) (by intro z hz;simp at hz;rw[hz];exact fe)
 .rintro i σ H1 hi ⟨⟨v2,v3,rfl⟩,k1,X1,h1⟩;obtain⟨o,ho⟩:∃o,m.levels[i]? =some o:=⟨_,az (by omega)⟩;obtain⟨dx,bk,lv,sw,rs,e1,e2,e3,e4,e5,e6,e7,e8,e9,e10⟩:=X1.ex;obtain⟨x,hx,hL⟩:=e9.GN (KH ho);have rl:=e9.len;have rl:rs.length=16:=by rw[rl];show(KG _ _ _ _).length=_;rw[MG,Rg]
  have es:=Oi (b:=b) (t:=m.tick+1) ho;have same:(gN b (m.tick+1) o).1=o->(gN b (m.tick+1) o).2=false->∃v2 v3:Option V,True->(fb (e::O) H H1/\iN a F H1 p O ⟨m.tick+1,KG b (m.tick+1) m.levels (i+1),m.cols⟩ lamps b/\H1 e=some (.lst (nV (Jb b (m.tick+1) m.levels (i+1))))):=λq1 q2=>⟨none,none,λ_=>⟨k1,by rw[QP ho q1];exact X1,by rw[es,q2];simpa using h1⟩⟩;have ei:(0:Int)+(i:Int)=(i:Int):=by omega
  rw[ei];refine⟨_,rfl,_,_,_,_,_,rfl,e1,T.gG,T.iM,rfl,_,rfl,_,_,_,_,rfl,rfl,gC.of e3,at_of (j:=i) rfl hx,?_⟩;cases o with
  |none=>
   have hL:x=.hJ:=hL;subst hL;obtain⟨_,_,q⟩:=same rfl rfl;exact⟨_,rfl,rfl,_,rfl,oh (oh ⟨⟨_,_,rfl⟩,q trivial⟩)⟩
  |some mr=>
   obtain⟨r,s,rfl,Zk,hs,hR⟩:=hL;have hR':=hR;obtain⟨dr,sp,xP,st,r1,r2,r3,r4⟩:=hR
   have po:gN b (m.tick+1) (some mr)=match kN s (m.tick+1) mr with|none=>(none,true)|some r'=>(some r',false):=by
    show(match b[mr.number]? with|none=>_|some s=>_)=_;rw[hs]<;>rfl
   refine⟨_,rfl,rfl,_,rfl,m9 ⟨_,rfl,_,_,_,_,_,rfl,r1,T.iB,T.jY,rfl,_,rfl,_,_,_,_,_,rfl,e1,T.gG,T.iL,rfl,rfl,_,rfl,fH (λq=>?_) λq=>?_⟩⟩
   .have q':mr.over=m.tick+1:=by
     have:=V.int.inj (aj q);have:(mr.over:Int)=((m.tick+1:Nat):Int):=this;omega
    rw[<-q']at po;refine⟨_,rfl,_,rfl,_,_,_,_,_,rfl,e1,T.gG,T.iL,rfl,F,r,mr,s,by rw[q'];rfl,hR',X1.same,X1.fr _ Zk,λv H2 k2 Y0 hv=>?_⟩;have er:e≠r:=λz=>fe.2 (by rw[z];exact Zk);have h2:H2 e=some (.lst (nV (Jb b (m.tick+1) m.levels i))):=k2.k _ _ h1 (by simpa using er);have k12:fb (e::O) H H2:=k1.trans (k2.mono (by simp[Zk]));cases hp:kN s mr.over mr with
    |some m'=>
     rw[hp]at hv po;obtain⟨rfl,Jy⟩:=hv
     have hm:b[m'.number]? =some s:=by
      have:m'.number=mr.number:=by
       rw[zU rfl]at hp;split at hp
       .split at hp
        .cases hp;rfl
        cases hp
       cases hp;rfl
      rw[this];exact hs
     refine⟨_,rfl,oh ⟨⟨_,_,rfl⟩,k12,?_,?_⟩⟩
     .rw[D5 ho,<-q',po];have:=X1.Vk e1 e3 hx (KH ho) k2 Jy hm;rw[<-q']at this;exact this
     rw[es,<-q',po];simpa[q']using h2
    |none=>
     rw[hp]at hv po;subst hv;have pr:=(nQ r1 e1).symm;have lr:lv≠r:=gK e3 r1 (by intro z;cases z);have RC:=k2.k _ _ e1 (by simpa using pr);have Wi:=k2.k _ _ e3 (by simpa using lr);have le:lv≠e:=λz=>fe.2 (by rw[<-z];exact e7);refine⟨_,rfl,m9 ⟨_,rfl,_,rfl,p,dx,bk,lv,sw,rs,m.tick+1,i,rfl,RC,Wi,by omega,?_⟩⟩;have h3:(upd H2 lv (.lst (rs.set i .hJ))) e=some (.lst (nV (Jb b (m.tick+1) m.levels i))):=by rw[eY le.symm];exact h2
     have el:=QQ b (m.tick+1) m.levels i;have k3:fb (e::O) H (upd H2 lv (.lst (rs.set i .hJ))):=k12.trans (.put Wi (by simp[e7]) gS)
     have X3:iN a F (upd H2 lv (.lst (rs.set i .hJ))) p O ⟨m.tick+1,(KG b (m.tick+1) m.levels i).set i none,m.cols⟩ lamps b:=by
      have Y:=X1.QM (i:=i) (v:=.hJ) (o:=none) e1 e3 rfl λr z=>by cases z
      refine Y.SX (r:=r) ⟨λz u ez nz=>?_,λz xs ez=>?_⟩ (by rw[eY lr.symm];exact Y0) Zk (by rw[eY lr.symm];exact r1) λQ6 OB lv' sw' rs' z1 z2 j z3=>?_
      .by_cases y:z=lv
       .rw[y,eV]at ez⊢;exact ez
       rw[eY y]at ez⊢;exact k2.k _ _ ez nz
      .by_cases y:z=lv
       .rw[y,eV]at ez⊢;exact ez
       rw[eY y]at ez⊢;exact k2.t _ _ ez
      have Rk:p≠lv:=gK e1 e3 (by intro z;cases z);rw[eY Rk,e1]at z1;injection z1 with z1;injection z1 with _ _ z13
      have elv:lv=lv':=by
       unfold iZ at z13;simp only[bG,cV,true_and,V.ref.injEq,and_true]at z13;exact z13.2.1
      subst elv;rw[eV]at z2;injection z2 with z2;injection z2 with z2;subst z2;by_cases y:i=j
      .subst y;rw[bD (by omega)]at z3;cases z3
      rw[bj y]at z3;exact y (e10 i j r hx z3)
     refine⟨_,rfl,.inl ⟨rfl,_,gC.of h3⟩,_,rfl,e,_,_,rfl,rfl,h3,by rw[ia];omega,⟨_,_,rfl⟩,k3.trans (.put h3 (by simp) gS),?_,?_⟩
     .rw[D5 ho,<-q',po,q'];exact X3.keep (S:=[e]) (.put h3 (by simp) gS) (by intro z hz;simp at hz;rw[hz];exact fe)
     rw[eV,es,<-q',po,nP,q'];rfl
   have q':¬mr.over=m.tick+1:=λz=>au q (by rw[z]);have pn:kN s (m.tick+1) mr=some mr:=by unfold kN;rw[ag q']
   rw[pn]at po;obtain⟨_,_,q⟩:=same (by rw[po]) (by rw[po]);exact oh ⟨⟨_,_,rfl⟩,q trivial⟩
 rintro σ H1 ⟨⟨v2,v3,rfl⟩,k1,X1,h1⟩;refine⟨_,rfl,k e H1 he0 (k1.drop he0) ?_ h1⟩
 have:KG b (m.tick+1) m.levels 16=m.levels.map λo=>(gN b (m.tick+1) o).1:=by
  unfold KG;rw[cN (by omega),bE (by omega),bK]
 rw[this]at X1;exact X1
open Tilt (Book Show Glow)
noncomputable def KI(o:Glow):List (Str×V):=[("tick",.int (o.at_:Int)),("kind",.int (o.kind:Int)),("level",.int (o.level:Int)),("what",.int (o.what:Int))]
inductive rT(a:ij)(H:Hp)(q:Addr)(o:Glow):Prop
 |mk:∀dx,H q=some (.ins a.kS dx (KI o))->rT a H q o
noncomputable def mY(os:List Glow):List Nat:=os.flatMap λo=>[o.at_,o.kind,o.level,o.what]
noncomputable def qV(lamps:List Nat)(b:Book)(o:Glow):Bool:=match o.kind with
 |0=>decide (o.level<16)&&decide (o.what<b.length)
 |1=>decide (o.level<16)&&decide (o.what=0)
 |2=>decide (o.level=0)&&decide (o.what∈lamps)
 |3=>decide (o.level=0)&&decide (o.what∈lamps)
 |4=>decide (o.level=0)&&decide (o.what=0)
 |5=>decide (o.level=0)&&decide (o.what=0)
 |_=>false
noncomputable def yq(lamps:List Nat)(b:Book)(n:Nat):Nat->List Glow->Bool
 |_,[]=>true
 |bef,o::r=>decide (bef<=o.at_)&&((decide (o.at_<n)&&qV lamps b o)&&yq lamps b n o.at_ r)
theorem wF:∀os:List Glow,(mY os).length=4*os.length
 |[]=>rfl
 |o::os=>by
  show([o.at_,o.kind,o.level,o.what]++mY os).length=_;rw[aq,wF os];simp;omega
theorem Jc:∀{os:List Glow}{i:Nat}{o:Glow},os[i]? =some o->(mY os)[4*i]? =some o.at_/\(mY os)[4*i+1]? =some o.kind/\(mY os)[4*i+2]? =some o.level/\(mY os)[4*i+3]? =some o.what
 |[],i,o,h=>by simp at h
 |p::os,0,o,h=>by
  have:=ao h;subst this;exact⟨rfl,rfl,rfl,rfl⟩
 |p::os,i+1,o,h=>by
  have q:=Jc (by simpa using h)
  have e:∀k,(mY (p::os))[4*(i+1)+k]? =(mY os)[4*i+k]? :=λk=>by
   show([p.at_,p.kind,p.level,p.what]++mY os)[4*(i+1)+k]? =_;rw[bO (by simp;omega)];congr 1;simp;omega
  exact⟨(e 0).trans q.1,(e 1).trans q.2.1,(e 2).trans q.2.2.1,(e 3).trans q.2.2.2⟩
def mf{n k:Nat}:decide (V.int (n:Int)=V.int (k:Int))=decide (n=k):=by
 rw[a6];exact⟨λz=>by have:=V.int.inj z;omega,λz=>by rw[z]⟩
def dec_lt{n k:Nat}:decide ((n:Int)<(k:Int))=decide (n<k):=by rw[a6];omega
def Ud(n:Nat):Builtin.Range.rangeSize 0 ((4*n:Nat):Int) 4=n:=by
 unfold Builtin.Range.rangeSize;rw[ak (by decide)];by_cases q:n=0
 .subst q;rfl
 rw[ak (by omega)];omega
def Jd(h1: -1000<=i)(h2:i<=10000000):Builtin.Range.rangeFitsLong i=true:=by
 unfold Builtin.Range.rangeFitsLong;rw[aO,bq,bq];omega
def Z5{n:Nat}(h:n<=1000000):RgC 0 ((4*n:Nat):Int) 4 n:=by
 refine⟨by decide,by decide,?_,Ud n⟩;unfold Builtin.Range.small;rw[Ud,Jd (by decide) (by decide),Jd (by omega) (by omega),Jd (by decide) (by decide),Jd (by omega) (by omega),Jd (by omega) (by omega)];simp
inductive MH(a:ij)(vs:List V)(H:Hp)(Q:VK)(u1:XK):Prop
 |mk:∀(p dx:Addr)(o:Glow),vs=[.ref p,.int (o.at_:Int),.int (o.kind:Int),.int (o.level:Int),.int (o.what:Int)]->H p=some (.ins a.kS dx [])->Q .hJ (upd H p (.ins a.kS dx (KI o)))->MH a vs H Q u1
def QT(T:Txt K mg a):gj P w K mg bz (PL a) 1 a.oy ["self","tick","kind","level","what"] (MH a):=by
 refine jx T.tM zg ?_;rintro _ _ _ _ _ _ _ _ _ _ ⟨p,dx,o,rfl,hp,k⟩
 refine⟨_,eW (fT (pv 0) (pv 1) rfl)
  (eW (fT (pv 0) (pv 2) rfl)
  (eW (fT (pv 0) (pv 3) rfl)
  (ff (fT (pv 0) (pv 4) rfl)))),Kj ?_⟩
 intros;refine⟨_,rfl,_,rfl,p,_,dx,_,rfl,hp,T.gf,T.lU,(show 0<1000 by decide),?_⟩;refine⟨_,rfl,_,rfl,p,_,dx,_,rfl,eV,T.gf,T.gX,(show 1<1000 by decide),?_⟩;refine⟨_,rfl,_,rfl,p,_,dx,_,rfl,eV,T.gf,T.i8,(show 2<1000 by decide),?_⟩;refine⟨_,rfl,_,rfl,p,_,dx,_,rfl,eV,T.gf,T.i6,(show 3<1000 by decide),?_⟩;rw[gn,gn,gn];exact k
inductive Je(K:Frag)(a:ij)(vs:List V)(H:Hp)(Q:VK)(u1:XK):Prop
 |mk:∀(t:Addr)(os:List Glow),vs=[.ref t]->gC K H t (nV (mY os))->os.length<=5000->(∀l qs H',H l=none->fb [] H H'->H' l=some (.lst (qs.map V.ref))->ir (rT a H') qs os->(∀q∈qs,H q=none)->Q (.ref l) H')->Je K a vs H Q u1
def D6(T:Txt K mg a):gj P w K mg bz (PL a) 3 a.kx ["numbers"] (Je K a):=by
 refine jx T.xB qu ?_;rintro _ _ _ _ H _ _ _ _ hr ⟨t,os,rfl,ht,hl,k⟩
 refine⟨_,eW (fP 1 qu (gO m8))
  (eW (jN aE rfl (Nz rfl T.rD (Ab fA (gM T.iA (pv 0)) (iy T.qC))) (ib (i:=2) qu.nd rfl (Or.inl rfl))
   (ya (mD aX aI aJ iD (pv 1) (iF (Gq T.Mb (QT T) hr T.kS (Cb (gQ gp (pv 0) (pv 2) λ_ _=>rfl) (Ab (gQ gp (pv 0) (g0 kI (pv 2) fA) λ_ _=>rfl) (gQ gp (pv 0) (g0 kI (pv 2) fA) λ_ _=>rfl) (gQ gp (pv 0) (g0 kI (pv 2) fA) λ_ _=>rfl))))))))
  (kY (pv 1))),Fg ?_⟩
 intros;refine⟨(show 0<=sizeLine by decide),λD hD=>?_⟩;have sq:∀{H'},fb [D] H H'->gC K H' t (nV (mY os)):=λkk=>p8 ht kk (by intro z hz;simp at hz;rw[hz];exact hD);have big:10000<sizeLine:=by decide
 have el:(((nV (mY os)).length:Nat):Int)=((4*os.length:Nat):Int):=by rw[ia,wF]
 refine⟨_,rfl,t,_,rfl,.inl (sq (.new hD)),0,_,4,os.length,rfl,by rw[el];exact Z5 (by omega),JX (n:=os.length) (λi σ H'=>(∃v,σ=[some (.ref t),some (.ref D),v])/\fb [D] H H'/\∃qs:List Addr,H' D=some (.lst (qs.map V.ref))/\ir (rT a H') qs (os.take i)/\(∀q∈qs,H q=none/\q≠D)) ⟨⟨_,rfl⟩,.new hD,[],eV,.nil,by simp⟩ ?_ ?_⟩
 .rintro i σ H1 hi ⟨⟨v,rfl⟩,k1,qs,h1,all,fr⟩;obtain⟨o,ho⟩:∃o,os[i]? =some o:=⟨_,az hi⟩;obtain⟨a1,a2,a3,a4⟩:=Jc ho;have qa:∀{j x:Nat},(mY os)[j]? =some x->(nV (mY os))[j]? =some (.int (x:Int)):=λh=>by rw[wb,h];rfl
  have e0:(0:Int)+(i:Int)*4=((4*i:Nat):Int):=by omega
  rw[e0];refine⟨_,rfl,.inl ⟨rfl,_,gC.of h1⟩,?_⟩;refine⟨_,rfl,_,rfl,_,_,_,_,rfl,rfl,sq k1,at_of (j:=4*i) rfl (qa a1),?_⟩;refine⟨_,rfl,_,rfl,_,_,rfl,rfl,_,_,_,_,rfl,rfl,sq k1,at_of (j:=4*i+1) rfl (qa a2),?_⟩;refine⟨_,rfl,_,rfl,_,_,rfl,rfl,_,_,_,_,rfl,rfl,sq k1,at_of (j:=4*i+2) rfl (qa a3),?_⟩;refine⟨_,rfl,_,rfl,_,_,rfl,rfl,_,_,_,_,rfl,rfl,sq k1,at_of (j:=4*i+3) rfl (qa a4),λq dq hq hdq nq=>⟨q,dq,o,rfl,eV,rfl,?_⟩⟩;rw[gn];have kq:fb [] H1 (upd (upd H1 dq (.own q)) q (.ins a.kS dq (KI o))):=(fb.new hdq).trans (.new (by rw[eY (aW nq)];exact hq));have h2:=kq.k _ _ h1 (by simp);have qD:q≠D:=λz=>by rw[z,h1]at hq;cases hq
  have ql:=all.len;rw[bh]at ql;refine⟨D,_,_,rfl,rfl,h2,by rw[aw];omega,⟨_,rfl⟩,(k1.trans (kq.mono (by simp))).trans (.put h2 (by simp) gS),qs++[q],by rw[eV,aL];rfl,?_,?_⟩
  .rw[take_snoc ho];refine ir.snoc ?_ ⟨dq,by rw[eY qD,eV]⟩;refine ir.of all.len λj x y q1 q2=>?_;obtain⟨d,hd⟩:=all.get q1 q2;have xD:=(fr x (aR q1)).2;exact⟨d,by rw[eY xD];exact kq.k _ _ hd (by simp)⟩
  intro x hx;rcases aG.mp hx with y|y
  .exact fr x y
  simp at y;rw[y];exact⟨k1.back (by intro z hz;simp at hz;rw[hz,h1];intro y;cases y) hq,qD⟩
 rintro σ H1 ⟨⟨v,rfl⟩,k1,qs,h1,all,fr⟩;rw[bN]at all;exact⟨_,rfl,k D qs H1 hD (k1.drop hD) h1 all λq hq=>(fr q hq).1⟩
def D7(T:Txt K mg a):X0 K mg a.gh "NotRight":=⟨let⟨N,c,_⟩:=T.vU;⟨N,c,T.BR⟩,T.gh⟩
def FG(T:Txt K mg a):X0 K mg a.gL "TooMuch":=⟨let⟨N,c,_⟩:=T.ye;⟨N,c,T.DK⟩,T.gL⟩
def GX(T:Txt K mg a):X0 K mg a.fY "NoSuchShow":=⟨let⟨N,c,_⟩:=T.sx;⟨N,c,T.xI⟩,T.fY⟩
def KJ(T:Txt K mg a):X0 K mg a.gR "NotBegun":=⟨let⟨N,c,_⟩:=T.vW;⟨N,c,T.BU⟩,T.gR⟩
inductive MI(a:ij)(vs:List V)(H:Hp)(Q:VK)(u1:XK):Prop
 |mk:∀(bk q:Addr)(lamps:List Nat)(b:Book)(o:Glow),vs=[.ref bk,.ref q]->qU a H bk lamps b->rT a H q o->Q (.bl (qV lamps b o)) H->MI a vs H Q u1
def Jf(T:Txt K mg a):gj P w K mg bz (PL a) 1 a.oz ["book","order"] (MI a):=by
 refine jx T.DJ Ip ?_;rintro _ _ _ _ H _ Q _ _ _ ⟨bk,q,lamps,b,o,rfl,⟨dxb,bl,sh,qs,b1,b2,b3,b4⟩,⟨dq,hq⟩,k⟩
 refine⟨_,eW (fS (fm ig (gI 1) (iy T.uv) (fv _))
   (kY (Af (ma pE (gI 1) (iy T.qB) (fv _)) (Ae (ma pE (gI 1) (gM T.iA (gI 0)) (fv _)))))
   fB)
  (eW (fS (fm ig (gI 1) (iy T.uw) (fv _))
   (kY (Af (ma pE (gI 1) (iy T.qB) (fv _)) (Ae (ma ig (gI 1) fA (fv _)))))
   fB)
  (eW (fS (PW.pt (qd (fm ig (gI 1) (iy T.vM) (fv _)) (og (fm ig (gI 1) (iy T.ux) (fv _)))))
   (kY (Af (ma ig (gI 1) fA (fv _)) (Ae (ma Ai (gI 1) (gI 0) rfl))))
   fB)
  (eW (fS (PW.pt (qd (fm ig (gI 1) (iy T.oC) (fv _)) (og (fm ig (gI 1) (iy T.DC) (fv _)))))
   (kY (Af (ma ig (gI 1) fA (fv _)) (Ae (ma ig (gI 1) fA (fv _)))))
   fB)
  (kY wV)))),Rv ?_⟩
 intros;have kd:∀{n:Nat},decide (V.int (o.kind:Int)=V.int (n:Int))=true->o.kind=n:=λh=>aj (mf.symm.trans h);have kn:∀{n:Nat},decide (V.int (o.kind:Int)=V.int (n:Int))=false->o.kind≠n:=λh=>au (mf.symm.trans h);obtain⟨oa,ok,ol,ow⟩:=o;refine⟨_,rfl,_,_,_,_,_,rfl,hq,T.gf,T.gX,rfl,rfl,_,rfl,fH (λz=>?_) λz=>?_⟩
 .have z':ok=0:=kd (n:=0) z;subst z';refine⟨_,rfl,_,_,_,_,_,rfl,hq,T.gf,T.i8,rfl,_,_,rfl,rfl,_,rfl,fH (λy=>?_) λy=>?_⟩
  .have y':decide (ol<16)=true:=(dec_lt (k:=16)).symm.trans y;refine⟨_,rfl,_,_,_,_,_,rfl,hq,T.gf,T.i6,rfl,_,rfl,_,_,_,_,_,rfl,b1,T.pY,T.jW,rfl,_,_,rfl,.inl (gC.of b3),_,_,rfl,rfl,?_⟩;have e:decide ((ow:Int)<((qs.map V.ref).length:Int))=decide (ow<b.length):=by rw[aw,b4.len];exact dec_lt
   have k:Q (.bl (decide (ol<16)&&decide (ow<b.length))) H:=k;rw[y',cj,<-e]at k;exact k
  have y':decide (ol<16)=false:=(dec_lt (k:=16)).symm.trans y;have k:Q (.bl (decide (ol<16)&&decide (ow<b.length))) H:=k;rw[y',dP]at k;exact k
 have z0:ok≠0:=kn (n:=0) z;refine⟨_,rfl,_,_,_,_,_,rfl,hq,T.gf,T.gX,rfl,rfl,_,rfl,fH (λz=>?_) λz=>?_⟩
 .have z':ok=1:=kd (n:=1) z;subst z';refine⟨_,rfl,_,_,_,_,_,rfl,hq,T.gf,T.i8,rfl,_,_,rfl,rfl,_,rfl,fH (λy=>?_) λy=>?_⟩
  .have y':decide (ol<16)=true:=(dec_lt (k:=16)).symm.trans y;refine⟨_,rfl,_,_,_,_,_,rfl,hq,T.gf,T.i6,rfl,rfl,?_⟩;have k:Q (.bl (decide (ol<16)&&decide (ow=0))) H:=k;rw[y',cj,<-mf (n:=ow) (k:=0)]at k;exact k
  have y':decide (ol<16)=false:=(dec_lt (k:=16)).symm.trans y;have k:Q (.bl (decide (ol<16)&&decide (ow=0))) H:=k;rw[y',dP]at k;exact k
 have z1:ok≠1:=kn (n:=1) z;have abi:(ok=2\/ok=3)->qV lamps b ⟨oa,ok,ol,ow⟩=(decide (ol=0)&&decide (ow∈lamps)):=λh=>by rcases h with rfl|rfl<;>rfl
 have abj:(ok=4\/ok=5)->qV lamps b ⟨oa,ok,ol,ow⟩=(decide (ol=0)&&decide (ow=0)):=λh=>by rcases h with rfl|rfl<;>rfl
 have go23:(ok=2\/ok=3)->OH (K5 WJ (wK K (jk 1) "level") (tC (.int 0))) (K5 (WS K false) (wK K (jk 1) "what") (wK K (jk 0) "lamps")) (L2.start ["book","order"] [.ref bk,.ref q]) H Q:=λh=>by
  rw[abi h]at k;refine⟨_,rfl,_,_,_,_,_,rfl,hq,T.gf,T.i8,rfl,rfl,_,rfl,fH (λy=>?_) λy=>?_⟩
  .have y':decide (ol=0)=true:=(mf (k:=0)).symm.trans y;refine⟨_,rfl,_,_,_,_,_,rfl,hq,T.gf,T.i6,rfl,_,rfl,_,_,_,_,_,rfl,b1,T.pY,T.uA,rfl,bl,_,rfl,.inl (gC.of b2),rfl,GL _,?_⟩;rw[y',cj,<-GK]at k;exact k
  have y':decide (ol=0)=false:=(mf (k:=0)).symm.trans y;rw[y',dP]at k;exact k
 have go45:(ok=4\/ok=5)->OH (K5 WJ (wK K (jk 1) "level") (tC (.int 0))) (K5 WJ (wK K (jk 1) "what") (tC (.int 0))) (L2.start ["book","order"] [.ref bk,.ref q]) H Q:=λh=>by
  rw[abj h]at k;refine⟨_,rfl,_,_,_,_,_,rfl,hq,T.gf,T.i8,rfl,rfl,_,rfl,fH (λy=>?_) λy=>?_⟩
  .have y':decide (ol=0)=true:=(mf (k:=0)).symm.trans y;refine⟨_,rfl,_,_,_,_,_,rfl,hq,T.gf,T.i6,rfl,rfl,?_⟩;rw[y',cj,<-mf (n:=ow) (k:=0)]at k;exact k
  have y':decide (ol=0)=false:=(mf (k:=0)).symm.trans y;rw[y',dP]at k;exact k
 refine⟨_,rfl,_,_,_,_,_,rfl,hq,T.gf,T.gX,rfl,rfl,_,rfl,fH (λz=>m9 (go23 (.inl (kd (n:=2) z)))) λz=>?_⟩;have z2:ok≠2:=kn (n:=2) z;refine⟨_,rfl,_,_,_,_,_,rfl,hq,T.gf,T.gX,rfl,rfl,_,rfl,fH (λz=>go23 (.inr (kd (n:=3) z))) λz=>?_⟩;have z3:ok≠3:=kn (n:=3) z;refine⟨_,rfl,_,_,_,_,_,rfl,hq,T.gf,T.gX,rfl,rfl,_,rfl,fH (λz=>m9 (go45 (.inl (kd (n:=4) z)))) λz=>?_⟩;have z4:ok≠4:=kn (n:=4) z;refine⟨_,rfl,_,_,_,_,_,rfl,hq,T.gf,T.gX,rfl,rfl,_,rfl,fH (λz=>go45 (.inr (kd (n:=5) z))) λz=>?_⟩;have z5:ok≠5:=kn (n:=5) z
 have e:qV lamps b ⟨oa,ok,ol,ow⟩=false:=by
  obtain⟨n,rfl⟩:∃n,ok=n+6:=⟨ok - 6,by omega⟩;rfl
 rw[e]at k;exact k
inductive MJ(a:ij)(vs:List V)(H:Hp)(Q:VK)(E:XK):Prop
 |mk:∀(bk l:Addr)(qs:List Addr)(lamps:List Nat)(b:Book)(n:Nat)(os:List Glow),vs=[.ref bk,.int (n:Int),.ref l]->qU a H bk lamps b->H l=some (.lst (qs.map V.ref))->ir (rT a H) qs os->(if yq lamps b n 0 os=true then Q .hJ H else E (.ref a.gh) none H)->MJ a vs H Q E
def Oj{n:Nat}{i:Nat}{os:List Glow}{o:Glow}(bef:Nat)(h:os[i]? =some o):yq lamps b n bef (os.drop i)=(decide (bef<=o.at_)&&((decide (o.at_<n)&&qV lamps b o)&&yq lamps b n o.at_ (os.drop (i+1)))):=by
 obtain⟨h1,h2⟩:=ay.mp h;rw[bY h1,h2];rfl
def B7(T:Txt K mg a):gj P w K mg bz (PL a) 2 a.jF ["book","count","orders"] (MJ a):=by
 refine jx T.vQ md ?_;rintro _ _ _ _ H _ _ E _ hr ⟨bk,l,qs,lamps,b,n,os,rfl,hb,hl,all,k⟩
 refine⟨_,eW (fP 3 md fA)
  (ff (jN aE rfl (qY (pv 2)) (ib (i:=4) md.nd rfl (Or.inl rfl))
   (eW (fS (PW.pt (qd (fm pE (gI 4) (pv 3) (fv _)) (qd (fm Tn (gI 4) (pv 1) (fv _)) (og (qe (jd (gy (Jf T) hr T.oz (jy (pv 0) (pv 4)))))))))
    (ff (V4 (D7 T) rfl))
    fB)
   (ff (fP 3 md (gI 4)))))),?_⟩
 refine⟨_,rfl,l,rfl,⟨_,gC.of hl⟩,oQ (λi σ H'=>H'=H/\∃(bef:Nat)(v:Option V),σ=[some (.ref bk),some (.int (n:Int)),some (.ref l),some (.int (bef:Int)),v]/\yq lamps b n 0 os=yq lamps b n bef (os.drop i)) ⟨rfl,0,none,rfl,rfl⟩ (λi σ H' _ p=>by rw[p.1];exact gC.of hl) ?_ ?_⟩
 .rintro i x σ H' hi ⟨rfl,bef,v,rfl,hc⟩;rw[aK]at hi;cases Cs:qs[i]? with
  |none=>rw[Cs]at hi;cases hi
  |some q=>
   rw[Cs]at hi;have Ha:=ao hi;subst Ha;obtain⟨o,ho,dq,hq⟩:=all.getL Cs;rw[Oj bef ho]at hc;have bad:yq lamps b n 0 os=false->E (.ref a.gh) none H':=λz=>by rw[ag (by rw[z];simp)]at k;exact k
   refine⟨_,rfl,_,_,_,_,_,rfl,hq,T.gf,T.lU,rfl,_,rfl,_,_,rfl,rfl,_,rfl,fH (λz=>m9 ?_) λz=>?_⟩
   .have z':¬bef<=o.at_:=by have:=aj (dec_lt.symm.trans z);omega
    exact bad (by rw[hc,aV z'];rfl)
   have z':bef<=o.at_:=by have:=au (dec_lt.symm.trans z);omega
   rw[cH z',cj]at hc;refine⟨_,rfl,_,_,_,_,_,rfl,hq,T.gf,T.lU,rfl,_,rfl,_,_,rfl,rfl,_,rfl,fH (λy=>m9 ?_) λy=>?_⟩
   .have y':¬o.at_<n:=by
     have:(n:Int)<=(o.at_:Int):=aj y;omega
    exact bad (by rw[hc,aV y'];rfl)
   have y':o.at_<n:=by
    have:¬(n:Int)<=(o.at_:Int):=au y;omega
   rw[cH y',cj]at hc;refine⟨_,rfl,_,rfl,bk,q,lamps,b,o,rfl,hb,⟨dq,hq⟩,_,rfl,fH (λx=>?_) λx=>?_⟩
   .have x':qV lamps b o=false:=by simpa using x
    exact bad (by rw[hc,x'];rfl)
   have x':qV lamps b o=true:=by simpa using x
   rw[x',cj]at hc;exact⟨_,rfl,_,_,_,_,_,rfl,hq,T.gf,T.lU,rfl,rfl,o.at_,some (.ref q),rfl,hc⟩
 rintro σ H' ⟨rfl,_,_,rfl,hc⟩;rw[aw,all.len,drop_length]at hc;have hc:yq lamps b n 0 os=true:=hc;rw[ak hc]at k;exact k
inductive MK(a:ij)(vs:List V)(H:Hp)(Q:VK)(u1:XK):Prop
 |mk:∀(F:Hp)(p q:Addr)(O:List Addr)(m:gv)(lamps:List Nat)(b:Book)(o:Glow),vs=[.ref p,.ref q]->iN a F H p O m lamps b->rT a H q o->q∉O->qV lamps b o=true->yp b->m.levels.length=16->m.cols.length=8->(∀x∈lamps,x<64)->SV a F H p O (fQ b m o) lamps b (Q .hJ)->MK a vs H Q u1
def GY(T:Txt K mg a):gj P w K mg bz (PL a) 4 a.mL ["board","order"] (MK a):=by
 refine jx T.BH Gu ?_;rintro _ _ _ _ _ _ _ _ _ hr ⟨F,p,q,O,m,lamps,b,o,rfl,X,⟨dq,hq⟩,nq,rt,G,Rg,h8,Wj,k⟩
 refine⟨_,ff (fS (fm ig (gI 1) (iy T.uv) (fv _))
   (ya (gy (EA T) hr T.lH (Ab (pv 0) (gI 1) (gI 1))))
   (ff (fS (fm ig (gI 1) (iy T.uw) (fv _))
    (ya (gy (xO T) hr T.jS (jy (pv 0) (gI 1))))
    (ff (fS (fm ig (gI 1) (iy T.vM) (fv _))
     (ya (gy (BW T) hr T.mw (jy (gI 0) (gI 1))))
     (ff (fS (fm ig (gI 1) (iy T.ux) (fv _))
      (ya (gy (DZ T) hr T.kg (jy (gI 0) (gI 1))))
      (ff (fS (fm ig (gI 1) (iy T.oC) (fv _))
       (ya (gy (zV T) hr T.jb (iF (pv 0))))
       (ya (gy (IZ T) hr T.oq (iF (pv 0))))))))))))),?_⟩
 have kd:∀{n:Nat},decide (V.int (o.kind:Int)=V.int (n:Int))=true->o.kind=n:=λh=>aj (mf.symm.trans h);have kn:∀{n:Nat},decide (V.int (o.kind:Int)=V.int (n:Int))=false->o.kind≠n:=λh=>au (mf.symm.trans h);obtain⟨oa,ok,ol,ow⟩:=o;obtain⟨dx,bk,lv,sw,rs,e1,e2,e3,e4,e5,e6,e7,e8,e9,e10⟩:=X.ex;refine⟨_,rfl,_,_,_,_,_,rfl,hq,T.gf,T.gX,rfl,rfl,_,rfl,fH (λz=>?_) λz=>?_⟩
 .have z':ok=0:=kd (n:=0) z;subst z';have rt:(decide (ol<16)&&decide (ow<b.length))=true:=rt;rw[aO]at rt;exact⟨_,rfl,_,rfl,_,_,_,_,_,rfl,hq,T.gf,T.i8,rfl,_,rfl,_,_,_,_,_,rfl,hq,T.gf,T.i6,rfl,F,p,O,m,lamps,b,ol,ow,rfl,X,by rw[Rg];exact aj rt.1,aj rt.2,G,k⟩
 have z0:ok≠0:=kn (n:=0) z;refine⟨_,rfl,_,_,_,_,_,rfl,hq,T.gf,T.gX,rfl,rfl,_,rfl,fH (λz=>?_) λz=>?_⟩
 .have z':ok=1:=kd (n:=1) z;subst z';have rt:(decide (ol<16)&&decide (ow=0))=true:=rt;rw[aO]at rt;refine⟨_,rfl,_,rfl,_,_,_,_,_,rfl,hq,T.gf,T.i8,rfl,p,dx,bk,lv,sw,rs,m.tick,ol,rfl,e1,e3,?_,?_⟩
  .rw[e9.len,Rg];exact aj rt.1
  exact k _ O (.put e3 e7 gS) (λ_ h=>.inl h) (X.QM (o:=none) e1 e3 rfl λr z=>by cases z)
 have z1:ok≠1:=kn (n:=1) z;refine⟨_,rfl,_,_,_,_,_,rfl,hq,T.gf,T.gX,rfl,rfl,_,rfl,fH (λz=>?_) λz=>?_⟩
 .have z':ok=2:=kd (n:=2) z;subst z';have rt:(decide (ol=0)&&decide (ow∈lamps))=true:=rt;rw[aO]at rt;exact⟨_,rfl,_,_,_,_,_,rfl,e1,T.gG,T.iJ,rfl,_,rfl,_,_,_,_,_,rfl,hq,T.gf,T.i6,rfl,sw,m.cols,ow,rfl,e4,h8,Wj _ (aj rt.2),k _ O (.put e4 e8 gS) (λ_ h=>.inl h) (X.Ua e1)⟩
 have z2:ok≠2:=kn (n:=2) z;refine⟨_,rfl,_,_,_,_,_,rfl,hq,T.gf,T.gX,rfl,rfl,_,rfl,fH (λz=>?_) λz=>?_⟩
 .have z':ok=3:=kd (n:=3) z;subst z';have rt:(decide (ol=0)&&decide (ow∈lamps))=true:=rt;rw[aO]at rt;exact⟨_,rfl,_,_,_,_,_,rfl,e1,T.gG,T.iJ,rfl,_,rfl,_,_,_,_,_,rfl,hq,T.gf,T.i6,rfl,sw,m.cols,ow,rfl,e4,h8,Wj _ (aj rt.2),k _ O (.put e4 e8 gS) (λ_ h=>.inl h) (X.Ua e1)⟩
 have z3:ok≠3:=kn (n:=3) z;refine⟨_,rfl,_,_,_,_,_,rfl,hq,T.gf,T.gX,rfl,rfl,_,rfl,fH (λz=>?_) λz=>?_⟩
 .have z':ok=4:=kd (n:=4) z;subst z';exact⟨_,rfl,F,p,O,m,lamps,b,rfl,X,k⟩
 have z4:ok≠4:=kn (n:=4) z;obtain⟨n,rfl⟩:∃n,ok=n+5:=⟨ok - 5,by omega⟩;exact⟨_,rfl,F,p,O,m,lamps,b,rfl,X,k⟩
noncomputable def nw(S:List Addr)(H H':Hp):Hp:=λx=>match H x with
 |none=>if x∈S then none else H' x
 |some _=>none
section
variable{S S':List Addr}{H H1 H2:Hp}
def ML(h:H x=none)(n:x∉S)(e:H1 x=some o):nw S H H1 x=some o:=by unfold nw;rw[h];show(if x∈S then _ else _)=_;rw[ag n];exact e
theorem GZ(h:nw S H H1 x=some o):H x=none/\x∉S/\H1 x=some o:=by
 unfold nw at h;cases q:H x with
 |some _=>rw[q]at h;cases h
 |none=>
  rw[q]at h;have h:=h;by_cases z:x∈S
  .rw[ak z]at h;cases h
  rw[ag z]at h;exact⟨rfl,z,h⟩
def Vl(sub:∀x∈S,x∈S'):oj (nw S' H H1) (nw S H H1):=λx o e=>by
 obtain⟨h1,h2,h3⟩:=GZ e;exact ML h1 (λz=>h2 (sub x z)) h3
def Xw:oj (nw S H H1) H1:=λx o e=>(GZ e).2.2
end
noncomputable def iV(l:List Int):List V:=l.map V.int
noncomputable def i9:Nat->Str
 |1=>"judge"
 |2=>"shows"
 |3=>"find"
 |4=>"begin"
 |5=>"lit"
 |6=>"ticks"
 |7=>"level"
 |8=>"base"
 |_=>"tick"
noncomputable def G0:Nat->Nat×Nat
 |1=>(0,2)
 |2=>(0,2)
 |3=>(0,3)
 |4=>(0,2)
 |5=>(0,0)
 |6=>(1,1)
 |7=>(1,0)
 |8=>(0,0)
 |_=>(0,0)
def Ol{p:Int}{n k:Nat}(h:shape p=some (n,k)):∃q:Nat,p=(q:Int)/\1<=q/\q<=9/\G0 q=(n,k):=by
 unfold shape at h;by_cases h1:p=1
 .rw[ak h1]at h;exact⟨1,h1,by decide,by decide,ao h⟩
 rw[ag h1]at h;by_cases h2:p=2
 .rw[ak h2]at h;exact⟨2,h2,by decide,by decide,ao h⟩
 rw[ag h2]at h;by_cases h3:p=3
 .rw[ak h3]at h;exact⟨3,h3,by decide,by decide,ao h⟩
 rw[ag h3]at h;by_cases h4:p=4
 .rw[ak h4]at h;exact⟨4,h4,by decide,by decide,ao h⟩
 rw[ag h4]at h;by_cases h5:p=5
 .rw[ak h5]at h;exact⟨5,h5,by decide,by decide,ao h⟩
 rw[ag h5]at h;by_cases h6:p=6
 .rw[ak h6]at h;exact⟨6,h6,by decide,by decide,ao h⟩
 rw[ag h6]at h;by_cases h7:p=7
 .rw[ak h7]at h;exact⟨7,h7,by decide,by decide,ao h⟩
 rw[ag h7]at h;by_cases h8:p=8
 .rw[ak h8]at h;exact⟨8,h8,by decide,by decide,ao h⟩
 rw[ag h8]at h;by_cases h9:p=9
 .rw[ak h9]at h;exact⟨9,h9,by decide,by decide,ao h⟩
 rw[ag h9]at h;cases h
theorem MM{q:Nat}{K:Frag}(T:Txt K mg a)(h1:1<=q)(h9:q<=9)(H:Hp):m5 K H (Iq a q) [.str (i9 q),.int ((G0 q).1:Int),.int ((G0 q).2:Int)]:=by
 match q,h1,h9 with
 |1,_,_=>exact T.LY H
 |2,_,_=>exact T.LZ H
 |3,_,_=>exact T.L0 H
 |4,_,_=>exact T.L1 H
 |5,_,_=>exact T.L4 H
 |6,_,_=>exact T.L5 H
 |7,_,_=>exact T.L6 H
 |8,_,_=>exact T.L7 H
 |9,_,_=>exact T.L8 H
noncomputable def zW(n:Str)(wl rl:Addr):List (Str×V):=[("name",.str n),("wholes",.ref wl),("rows",.ref rl)]
inductive sD(a:ij)(G:Hp)(p:Addr)(c:List (List Int)):Prop
 |mk:∀(q:Nat)(ws:List Int)(rows:List (List Int))(dx wl rl:Addr)(rls:List Addr),c=((q:Int)::ws)::rows->1<=q->q<=9->G0 q=(ws.length,rows.length)->G p=some (.ins a.jQ dx (zW (i9 q) wl rl))->G wl=some (.lst (iV ws))->G rl=some (.lst (rls.map V.ref))->ir (λr x=>G r=some (.lst (iV x))) rls rows->sD a G p c
def sD.same(x:sD a F p c)(s:oj F G):sD a G p c:=by
 obtain⟨q,ws,rows,dx,wl,rl,rls,h1,h2,h3,h4,h5,h6,h7,h8⟩:=x;exact⟨q,ws,rows,dx,wl,rl,rls,h1,h2,h3,h4,s _ _ h5,s _ _ h6,s _ _ h7,h8.imp λ_ _ z=>s _ _ z⟩
def Xx{at_:Nat}(h:l.drop at_=x++r)(ha:at_<=l.length):FY (iV l) (some (at_:Int)) (some ((at_+x.length:Nat):Int))=iV x:=by
 have hl:=aQ List.length h;rw[bC,aq]at hl;rw[Mi (by unfold iV;rw[aw];omega) (by omega)];unfold iV;rw[<-List.map_take,<-List.map_drop,drop_take,show at_+x.length - at_=x.length from by omega,h,List.take_left]
def wG{at_:Nat}{l x r:List Int}(h:l.drop at_=x++r):l.drop (at_+x.length)=r:=by rw[<-eM,h,drop_left]
def MN(h:l.drop at_=z::r):(iV l)[at_]? =some (.int z):=by
 have:l[at_]? =some z:=by
  have:=aQ (λl=>l[0]?) h;simpa using this
 unfold iV;rw[aK,this];rfl
inductive QU(a:ij)(vs:List V)(H:Hp)(Q:VK)(u1:XK):Prop
 |mk:∀(p dx wl rl:Addr)(n:Str),vs=[.ref p,.str n,.ref wl,.ref rl]->H p=some (.ins a.jQ dx [])->Q .hJ (upd H p (.ins a.jQ dx (zW n wl rl)))->QU a vs H Q u1
def SY(T:Txt K mg a):gj P w K mg bz (PL a) 1 a.pB ["self","name","wholes","rows"] (QU a):=by
 refine jx T.uY AD ?_;rintro _ _ _ _ _ _ _ _ _ _ ⟨p,dx,_,_,_,rfl,hp,k⟩
 refine⟨_,eW (fT (pv 0) (pv 1) rfl)
  (eW (fT (pv 0) (pv 2) rfl)
  (ff (fT (pv 0) (pv 3) rfl))),Fg ?_⟩
 intros;refine⟨_,rfl,_,rfl,p,_,dx,_,rfl,hp,T.gW,T.gq,(show 0<1000 by decide),?_⟩;refine⟨_,rfl,_,rfl,p,_,dx,_,rfl,eV,T.gW,T.oO,(show 1<1000 by decide),?_⟩;refine⟨_,rfl,_,rfl,p,_,dx,_,rfl,eV,T.gW,T.oW,(show 2<1000 by decide),?_⟩;rw[gn,gn];exact k
inductive MO(K:Frag)(a:ij)(vs:List V)(H:Hp)(Q:VK)(u1:XK):Prop
 |mk:∀(t:Addr)(cs:List (List (List Int))),vs=[.ref t]->gC K H t (iV (PyFlat.put cs))->(∀c∈cs,okCall shape c)->cs.length<=300->(∀l qs H',fb [] H H'->nw [] H H' l=some (.lst (qs.map V.ref))->ir (sD a (nw [] H H')) qs cs->Q (.ref l) H')->MO K a vs H Q u1
def EC(T:Txt K mg a):gj P w K mg bz (PL a) 3 a.lJ ["numbers"] (MO K a):=by
 refine jx T.zD iu ?_;rintro _ _ _ _ H _ _ _ _ hr ⟨t,cs,rfl,ht,gZ,Yr,k⟩
 refine⟨_,eW (fP 1 iu (gO m8))
  (eW (fP 2 iu fA)
  (eW (m6 aE (fm pE (pv 2) (gM T.iA (pv 0)) (fv _))
   (eW (fP 3 iu (Sd (iy T.LW) (gQ gp (pv 0) (pv 2) λ_ _=>rfl)))
   (eW (xQ (i:=2) iu.nd rfl (Or.inl rfl) fA Cw)
   (eW (fP 4 iu (CN F3 (pv 0) (wq (pv 2)) (wq (g0 kI (pv 2) (gQ rV (pv 3) fA λ_ _=>rfl)))))
   (eW (xQ (i:=2) iu.nd rfl (Or.inl rfl) (gQ rV (pv 3) fA λ_ _=>rfl) Cw)
   (eW (fP 5 iu (gO m8))
   (eW (m6 aE (fm pE (gM T.iA (pv 5)) (gQ rV (pv 3) fA λ_ _=>rfl) (fv _))
    (eW (fP 6 iu (g0 kI (g0 kI (pv 2) fA) (gQ gp (pv 0) (pv 2) λ_ _=>rfl)))
    (eW (gi (mD aX aI aJ iD (pv 5) (iF (CN F3 (pv 0) (wq (g0 kI (pv 2) fA)) (wq (pv 6))))))
    (ff (fP 2 iu (pv 6))))))
   (ya (mD aX aI aJ iD (pv 1) (iF (Gq T.Qe (SY T) hr T.jQ (Ab (gQ rV (pv 3) fA λ_ _=>rfl) (pv 4) (pv 5)))))))))))))
  (kY (pv 1)))),Kj ?_⟩
 intros;refine⟨(show 0<=sizeLine by decide),λD hD=>?_⟩;have big:1000<sizeLine:=by decide
 generalize hl:PyFlat.put cs=l at ht;have sq:∀{H' S},fb S H H'->(∀z∈S,H z=none)->gC K H' t (iV l):=λkk hz=>p8 ht kk hz
 refine⟨λmu σ H'=>∃(at_:Nat)(cs1 OC:List (List (List Int)))(qs:List Addr)(v3 v4 v5 v6:Option V),mu=OC.length/\cs=cs1++OC/\σ=[some (.ref t),some (.ref D),some (.int (at_:Int)),v3,v4,v5,v6]/\fb [D] H H'/\H' D=some (.lst (qs.map V.ref))/\ir (sD a (nw [D] H H')) qs cs1/\l.drop at_=PyFlat.put OC/\at_<=l.length,
  ⟨_,0,[],cs,[],none,none,none,none,rfl,rfl,rfl,.new hD,eV,.nil,hl.symm,bu _⟩,?_⟩
 rintro mu σ H' ⟨at_,cs1,OC,qs,v3,v4,v5,v6,rfl,ec,rfl,kH,Wk,all,Ef,hat⟩;have fD:∀z∈[D],H z=none:=λz hz=>by simp at hz;rw[hz];exact hD
 refine⟨_,rfl,_,rfl,_,_,rfl,.inl (sq kH fD),_,_,rfl,rfl,_,rfl,fH (λq=>?_) λq=>?_⟩
 .have q':=aj q
  obtain⟨c,r,e2⟩:∃c r,OC=c::r:=by
   cases OC with
   |nil=>
    exfalso;have:=aQ List.length Ef;rw[bC]at this;unfold iV at q';rw[aw]at q';simp[PyFlat.put]at this;omega
   |cons c r=>exact⟨c,r,rfl⟩
  subst e2;obtain⟨p,ws,rows,rfl,Zg⟩:=gZ c (by rw[ec];simp);obtain⟨n,rfl,n1,n9,hs⟩:=Ol Zg;have hs1:(G0 n).1=ws.length:=by rw[hs]
  have hs2:(G0 n).2=rows.length:=by rw[hs]
  have VR:l.drop at_=(n:Int)::(ws++(putRows rows++PyFlat.put r)):=by
   rw[Ef];show((n:Int)::ws++putRows rows)++PyFlat.put r=_;rw[a0];rfl
  have VS:l.drop (at_+1)=ws++(putRows rows++PyFlat.put r):=wG (x:=[(n:Int)]) VR;have abk:=wG VS
  have Um:at_+1+ws.length<=l.length:=by
   have:=aQ List.length VS;rw[bC,aq]at this;have:=aQ List.length VR;rw[bC,aF]at this;omega
  have csl:cs1.length+r.length+1<=300:=by
   have:=aQ List.length ec;rw[aq,aF]at this;omega
  refine⟨λσ' H''=>∃Jx,Jx<((((n:Int)::ws)::rows)::r).length/\∃(at_:Nat)(cs1 OC:List (List (List Int)))(qs:List Addr)(v3 v4 v5 v6:Option V),Jx=OC.length/\cs=cs1++OC/\σ'=[some (.ref t),some (.ref D),some (.int (at_:Int)),v3,v4,v5,v6]/\fb [D] H H''/\H'' D=some (.lst (qs.map V.ref))/\ir (sD a (nw [D] H H'')) qs cs1/\l.drop at_=PyFlat.put OC/\at_<=l.length,λσ' H'' z=>z,?_⟩;refine⟨_,rfl,_,rfl,_,_,_,_,rfl,rfl,sq kH fD,at_of (j:=at_) rfl (MN VR),a.Gw,Iq a n,(n:Int),rfl,rfl,λh hK=>?_,?_⟩
  .obtain⟨f,m,hf⟩:=T.L9 P w h hK;exact⟨f,m,hf n n1 n9⟩
  refine⟨_,rfl,_,_,rfl,rfl,?_⟩;refine⟨_,rfl,_,rfl,_,rfl,_,rfl,_,rfl,_,_,_,_,rfl,rfl,MM T n1 n9 _,at_of (j:=1) rfl rfl,_,_,rfl,rfl,_,rfl,_,_,rfl,sq kH fD,λW hW=>?_⟩
  have cW:FY (iV l) (some ((at_:Int)+1)) (some ((at_:Int)+1+((G0 n).1:Int)))=iV ws:=by
   rw[hs1];exact Xx (at_:=at_+1) VS (show at_+1<=l.length by omega)
  rw[cW];have WD:W≠D:=λz=>by rw[z,Wk]at hW;cases hW
  have bk:∀{z},H' z=none->H z=none:=λh=>kH.back (by intro z hz;simp at hz;rw[hz,Wk];intro y;cases y) h;have kW:fb [] H' (upd H' W (.lst (iV ws))):=.new hW;refine⟨_,rfl,_,rfl,_,_,_,_,rfl,rfl,MM T n1 n9 _,at_of (j:=1) rfl rfl,_,_,rfl,rfl,?_⟩;refine⟨(show 0<=sizeLine by decide),λR hR=>?_⟩;have RW:R≠W:=λz=>by rw[z,eV]at hR;cases hR
  have Wl:H' R=none:=by rw[eY RW]at hR;exact hR
  have RD:R≠D:=λz=>by rw[z,Wk]at Wl;cases Wl
  have kR:fb [] H' (upd (upd H' W (.lst (iV ws))) R (.lst [])):=kW.trans (.new hR)
  refine⟨λmu σ H2=>∃(at2:Nat)(rs1 OD:List (List Int))(rls:List Addr)(v6:Option V),mu=OD.length/\rows=rs1++OD/\σ=[some (.ref t),some (.ref D),some (.int (at2:Int)),some (.ref (Iq a n)),some (.ref W),some (.ref R),v6]/\fb [R] H' H2/\H2 W=some (.lst (iV ws))/\H2 R=some (.lst (rls.map V.ref))/\ir (λr x=>H2 r=some (.lst (iV x))/\H' r=none/\r≠R/\r≠W) rls rs1/\l.drop at2=putRows OD++PyFlat.put r/\at2<=l.length,
   ⟨_,at_+1+ws.length,[],rows,[],v6,rfl,rfl,?_,kR.mono (by simp),by rw[eY RW.symm,eV],eV,.nil,abk,Um⟩,?_⟩
  .show _=[some (V.ref t),some (V.ref D),some (V.int ((at_+1+ws.length:Nat):Int)),_,_,_,_];rw[<-hs1];rfl
  rintro mu σ H2 ⟨at2,rs1,OD,rls,v6,rfl,er,rfl,k2,hW2,Jy,allR,hd2,Ul⟩;have Wm:fb [D,R] H H2:=(kH.mono (by simp)).trans (k2.mono (by simp))
  have fDR:∀z∈[D,R],H z=none:=λz hz=>by
   simp at hz;rcases hz with y|y
   .rw[y];exact hD
   rw[y];exact bk Wl
  have rl:=allR.len;refine⟨_,rfl,_,_,rfl,.inl (gC.of Jy),_,rfl,_,_,_,_,rfl,rfl,MM T n1 n9 _,at_of (j:=2) rfl rfl,_,_,rfl,rfl,_,rfl,fH (λz=>?_) λz=>?_⟩
  .have z':=aj z;rw[aw,hs2]at z'
   obtain⟨x,Rl,e3⟩:∃x Rl,OD=x::Rl:=by
    cases OD with
    |nil=>exfalso;rw[er]at z';simp at z';omega
    |cons x Rl=>exact⟨x,Rl,rfl⟩
   subst e3
   have hd3:l.drop at2=(x.length:Int)::(x++(putRows Rl++PyFlat.put r)):=by
    rw[hd2];show((x.length:Int)::x++putRows Rl)++PyFlat.put r=_;rw[a0];rfl
   have hd4:l.drop (at2+1)=x++(putRows Rl++PyFlat.put r):=wG (x:=[(x.length:Int)]) hd3
   have Ys:at2+1+x.length<=l.length:=by
    have:=aQ List.length hd4;rw[bC,aq]at this;have:=aQ List.length hd3;rw[bC,aF]at this;omega
   refine⟨λσ' H''=>∃Jx,Jx<(x::Rl).length/\∃(at2:Nat)(rs1 OD:List (List Int))(rls:List Addr)(v6:Option V),Jx=OD.length/\rows=rs1++OD/\σ'=[some (.ref t),some (.ref D),some (.int (at2:Int)),some (.ref (Iq a n)),some (.ref W),some (.ref R),v6]/\fb [R] H' H''/\H'' W=some (.lst (iV ws))/\H'' R=some (.lst (rls.map V.ref))/\ir (λr x=>H'' r=some (.lst (iV x))/\H' r=none/\r≠R/\r≠W) rls rs1/\l.drop at2=putRows OD++PyFlat.put r/\at2<=l.length,λσ' H'' z=>z,?_⟩;refine⟨_,rfl,_,_,rfl,rfl,_,rfl,_,rfl,_,_,_,_,rfl,rfl,sq Wm fDR,at_of (j:=at2) rfl (MN hd3),_,_,rfl,rfl,?_⟩;refine⟨_,rfl,.inl ⟨rfl,_,gC.of Jy⟩,_,rfl,_,rfl,_,_,rfl,rfl,_,rfl,_,rfl,_,rfl,_,_,rfl,sq Wm fDR,λU hU=>?_⟩;have cU:FY (iV l) (some ((at2:Int)+1)) (some ((at2:Int)+1+(x.length:Int)))=iV x:=Xx (at_:=at2+1) hd4 (show at2+1<=l.length by omega);rw[cU];have UR:U≠R:=λz=>by rw[z,Jy]at hU;cases hU
   have UW:U≠W:=λz=>by rw[z,hW2]at hU;cases hU
   have Zl:(upd H2 U (.lst (iV x))) R=some (.lst (rls.map V.ref)):=by rw[eY UR.symm];exact Jy
   have rl3:rs1.length<=rows.length:=by rw[er,aq];omega
   have r3:rows.length<=3:=by
    have:(G0 n).2<=3:=by
     match n,n1,n9 with
     |1,_,_=>decide
     |2,_,_=>decide
     |3,_,_=>decide
     |4,_,_=>decide
     |5,_,_=>decide
     |6,_,_=>decide
     |7,_,_=>decide
     |8,_,_=>decide
     |9,_,_=>decide
    omega
   have U0:H' U=none:=by
    cases q:H' U with
    |none=>rfl
    |some o=>rw[k2.k U o q (by simpa using UR)]at hU;cases hU
   refine⟨R,_,_,rfl,rfl,Zl,by rw[aw];omega,_,rfl,Rl.length,by simp,at2+1+x.length,rs1++[x],Rl,rls++[U],_,rfl,by rw[er,a0];rfl,rfl,(k2.trans (.new hU)).trans (.put Zl (by simp) gS),by rw[eY RW.symm,eY UW.symm];exact hW2,by rw[eV,aL];rfl,?_,wG hd4,Ys⟩;refine ir.snoc (allR.imp λr y⟨g1,g2,g3,g4⟩=>⟨?_,g2,g3,g4⟩) ⟨by rw[eY UR,eV],U0,UR,UW⟩;rw[eY g3,eY (ft g1 hU)];exact g1
  have z':=au z;rw[aw,hs2]at z'
  have e3:OD=[]:=by
   cases OD with
   |nil=>rfl
   |cons x Rl=>exfalso;rw[er]at z';simp at z';omega
  subst e3;rw[bK]at er;subst er;have hD2:H2 D=some (.lst (qs.map V.ref)):=k2.k _ _ Wk (by simpa using RD.symm);refine⟨_,rfl,.inl ⟨rfl,_,gC.of hD2⟩,_,rfl,_,_,_,_,rfl,rfl,MM T n1 n9 _,at_of (j:=0) rfl rfl,_,rfl,_,rfl,λc dc hc hdc ndc=>⟨c,dc,W,R,i9 n,rfl,eV,rfl,?_⟩⟩;rw[gn];have kc:fb [] H2 (upd (upd H2 dc (.own c)) c (.ins a.jQ dc (zW (i9 n) W R))):=(fb.new hdc).trans (.new (by rw[eY (aW ndc)];exact hc));have Uq:=kc.k _ _ hD2 (by simp);have ql:=all.len;have cD:c≠D:=λz=>by rw[z,hD2]at hc;cases hc
  have cR:c≠R:=λz=>by rw[z,Jy]at hc;cases hc
  have c0:H' c=none:=by
   cases q:H' c with
   |none=>rfl
   |some o=>rw[k2.k c o q (by simpa using cR)]at hc;cases hc
  have kH4:fb [D] H (upd (upd (upd H2 dc (.own c)) c (.ins a.jQ dc (zW (i9 n) W R))) D (.lst (qs.map V.ref++[.ref c]))):=by
   refine fb.trans (H1:=H2) ?_ ((kc.mono (by simp)).trans (.put Uq (by simp) gS))
   exact⟨λx o e nx=>Wm.k x o e (by
    intro z;simp at z;rcases z with y|y
    .exact nx (by rw[y];simp)
    rw[y,bk Wl]at e;cases e),Wm.t⟩
  have k24:fb [D] H2 (upd (upd (upd H2 dc (.own c)) c (.ins a.jQ dc (zW (i9 n) W R))) D (.lst (qs.map V.ref++[.ref c]))):=(kc.mono (by simp)).trans (.put Uq (by simp) gS);have up:∀{x o},H2 x=some o->H x=none->x≠D->nw [D] H (upd (upd (upd H2 dc (.own c)) c (.ins a.jQ dc (zW (i9 n) W R))) D (.lst (qs.map V.ref++[.ref c]))) x=some o:=λe h n=>ML h (by simpa using n) (k24.k _ _ e (by simpa using n));refine⟨D,_,_,rfl,rfl,Uq,by rw[aw,ql];omega,r.length,by simp,at2,cs1++[((n:Int)::ws)::rows],r,qs++[c],_,_,_,_,rfl,by rw[ec,a0];rfl,rfl,kH4,by rw[eV,aL];rfl,?_,hd2,Ul⟩;refine ir.snoc (all.imp λx y z=>z.same ?_) ⟨n,ws,rows,dc,W,R,rls,rfl,n1,n9,hs,ML (bk c0) (by simpa using cD) (by rw[eY cD,eV]),up hW2 (bk hW) WD,up Jy (bk Wl) RD,allR.imp λx y⟨g1,g2,g3,g4⟩=>up g1 (bk g2) λz=>by rw[z,Wk]at g2;cases g2⟩;intro x o e;obtain⟨h1,h2,h3⟩:=GZ e;have xR:x≠R:=λz=>by rw[z,Wl]at h3;cases h3
  exact up (k2.k x o h3 (by simpa using xR)) h1 (by simpa using h2)
 have q':=au q
 have e2:OC=[]:=by
  cases OC with
  |nil=>rfl
  |cons c r=>
   exfalso;obtain⟨p,ws,rows,rfl,_⟩:=gZ c (by rw[ec];simp);have:=aQ List.length Ef;rw[bC]at this;have e3:(PyFlat.put (((p::ws)::rows)::r)).length=(ws++putRows rows++PyFlat.put r).length+1:=rfl;rw[e3]at this;unfold iV at q';rw[aw]at q';omega
 subst e2;rw[bK]at ec;subst ec;exact⟨_,rfl,k D qs H' (kH.drop hD) (ML hD (by simp) Wk) (all.imp λ_ _ z=>z.same (Vl (by simp)))⟩
open TiltLampCalls (stepNums showNums)
structure zX(b:Book):Prop where
 n:b.length<=32
 sp:∀s∈b,s.speaks.length<=64
 nm:∀s∈b,s.name.length<=12
 st:∀s∈b,s.steps.length<=16
 lit:∀s∈b,∀x∈s.steps,x.lit.length<=64
def S2(n:Nat)(l:List Nat):nV (n::l)=.int (n:Int)::nV l:=rfl
theorem zY{α:Type}{f:α->List Nat}{m:Nat}:∀(l:List α),(∀x∈l,(f x).length<=m)->(l.flatMap f).length<=l.length*m
 |[],_=>by simp
 |x::l,h=>by
  rw[List.flatMap_cons,aq,aF];have h1:=h x (aM ..);have h2:=zY l λy hy=>h y (aC _ hy);rw[succ_mul];omega
def wj{b:Book}(S:zX b){s:Show}(h:s∈b):(showNums s).length<=1200:=by
 unfold showNums Tilt.nameNums;have h1:=S.sp s h;have h2:=S.nm s h;have h3:=S.st s h
 have h4:=zY (f:=stepNums) (m:=66) s.steps λx hx=>by
  have:=S.lit s h x hx;unfold stepNums;simp only[aF];omega
 have h5:(nat8 s.name).length=s.name.length:=aw ..;have h6:s.steps.length*66<=16*66:=bW _ h3;simp only[aq,aF,da];omega
def AM{α:Type}{f:α->List Nat}{l:List α}{i:Nat}{x:α}(h:l[i]? =some x):(l.take (i+1)).flatMap f=(l.take i).flatMap f++f x:=by
 rw[take_snoc h,List.flatMap_append];simp
def uF{α:Type}{f:α->List Nat}{m:Nat}{l:List α}(i:Nat)(h:∀x∈l,(f x).length<=m):((l.take i).flatMap f).length<=l.length*m:=by
 refine a7 (zY _ λx hx=>h x (List.take_subset _ _ hx)) (bW _ ?_);rw[bh];omega
theorem S3{c:Bool}(h:Q (.int (c.toNat:Int)) H):if c=true then tC (.int 1) σ H Q else tC (.int 0) σ H Q:=by
 cases c with
 |true=>rw[ak rfl];exact h
 |false=>rw[ag (by simp)];exact h
def oH(H:Hp)(l:List Nat)(Q:VK):Prop:=∀q H',H q=none->fb [] H H'->H' q=some (.lst (nV l))->Q (.ref q) H'
inductive MP(a:ij)(vs:List V)(H:Hp)(Q:VK)(u1:XK):Prop
 |mk:∀(p:Addr)(x:Tilt.Step),vs=[.ref p]->sC a H p x->x.lit.length<=64->oH H (stepNums x) Q->MP a vs H Q u1
def G1(T:Txt K mg a):gj P w K mg bz (PL a) 1 a.mT ["step"] (MP a):=by
 refine jx T.BN Gv ?_;rintro _ _ _ _ H _ _ _ _ hr ⟨p,x,rfl,⟨_,l,_,h1,h2,_⟩,hl,k⟩;refine⟨_,kY (g0 xT (gO (jy (gI 0) (gM T.iA (gI 0)))) (gI 0)),?_⟩;have big:100000<sizeLine:=by decide
 refine⟨_,rfl,_,_,_,_,_,rfl,h1,T.ny,T.lS,rfl,_,rfl,_,_,_,_,_,rfl,h1,T.ny,T.pW,rfl,_,_,rfl,.inl (gC.of h2),(show 2<=sizeLine by decide),λq hq=>?_⟩;have k1:fb [] H (upd H q (.lst [.int (x.ticks:Int),.int ((nV x.lit).length:Int)])):=.new hq;refine⟨_,rfl,_,_,_,_,_,rfl,k1.k _ _ h1 (by simp),T.ny,T.pW,rfl,q,l,_,_,rfl,rfl,eV,k1.k _ _ h2 (by simp),?_,λr hr=>?_⟩
 .rw[ia];show 2+_<=_;omega
 refine k r _ (k1.fresh hr) (k1.trans (.new hr)) ?_;rw[eV,ia];rfl
inductive MQ(a:ij)(vs:List V)(H:Hp)(Q:VK)(u1:XK):Prop
 |mk:∀(p:Addr)(b:Book)(s:Show),vs=[.ref p]->oG a H p s->zX b->s∈b->oH H (showNums s) Q->MQ a vs H Q u1
def G2(T:Txt K mg a):gj P w K mg bz (PL a) 2 a.mU ["show"] (MQ a):=by
 refine jx T.BO uj ?_;rintro _ _ _ _ H _ _ _ _ hr ⟨p,b,s,rfl,⟨st,dx,nt,l,c,sps,h1,h2,h3,h4,h5,h6⟩,S,hs,k⟩
 refine⟨_,eW (fP 1 uj (g0 xT (gO (jy (OI (jd (gI 0)) fA fA) (gM T.iA (gI 0)))) (gI 0)))
  (eW (gi (mD aX aI aJ iD (pv 1) (iF (gM T.iA (gI 0)))))
  (eW (jN aE rfl (qY (gI 0)) (ib (i:=2) uj.nd rfl (Or.inl rfl))
   (ya (mD aX d7 d8 Aj (pv 1) (iF (gy (G1 T) hr T.mT (iF (pv 2)))))))
  (eW (gi (mD aX aI aJ iD (pv 1) (iF (gM T.iA (gI 0)))))
  (kY (g0 xT (pv 1) (wo yC (by rfl) T.Kk rfl (iF (gI 0)))))))),Rv ?_⟩
 intros;have big:100000<sizeLine:=by decide
 have b1:=S.sp s hs;have b2:=S.nm s hs;have b3:=S.st s hs
 have b4:∀x∈s.steps,(stepNums x).length<=66:=λx hx=>by
  have:=S.lit s hs x hx;unfold stepNums;simp only[aF];omega
 refine⟨_,rfl,_,_,_,_,_,rfl,h1,T.ie,T.pX,rfl,_,rfl,S3 ?_⟩;refine⟨_,rfl,_,_,_,_,_,rfl,h1,T.ie,T.nB,rfl,_,_,rfl,.inl (gC.of h3),(show 2<=sizeLine by decide),λq hq=>?_⟩;rw[ia];have k1:fb [] H (upd H q (.lst [.int (s.loop.toNat:Int),.int (s.speaks.length:Int)])):=.new hq;refine⟨_,rfl,_,_,_,_,_,rfl,k1.k _ _ h1 (by simp),T.ie,T.nB,rfl,q,l,_,_,rfl,rfl,eV,k1.k _ _ h3 (by simp),?_,λr hr=>?_⟩
 .rw[ia];show 2+_<=_;omega
 have k2:=k1.trans (S:=[]) (.new (o:=.lst ([.int (s.loop.toNat:Int),.int (s.speaks.length:Int)]++nV s.speaks)) hr);have r0:H r=none:=k1.fresh hr;have kd:∀{H':Hp},fb [r] H H'->∀{x o},H x=some o->H' x=some o:=λ{_} kk{x o} e=>kk.k x o e (by simpa using ft e r0);have k2':fb [r] H (upd (upd H q (.lst [.int (s.loop.toNat:Int),.int (s.speaks.length:Int)])) r (.lst ([.int (s.loop.toNat:Int),.int (s.speaks.length:Int)]++nV s.speaks))):=k2.mono (by simp);refine⟨_,rfl,.inl ⟨rfl,_,gC.of eV⟩,_,rfl,_,_,_,_,_,rfl,kd k2' h1,T.ie,T.iC,rfl,_,_,rfl,.inl (gC.of (kd k2' h5)),r,_,_,rfl,rfl,eV,?_,?_⟩
 .rw[aq,ia];show 2+_<_;omega
 rw[aw,h6.len,gn];have k3:fb [r] H (upd (upd H q (.lst [.int (s.loop.toNat:Int),.int (s.speaks.length:Int)])) r (.lst ([.int (s.loop.toNat:Int),.int (s.speaks.length:Int)]++nV s.speaks++[.int (s.steps.length:Int)]))):=(k1.mono (by simp)).trans (.new hr)
 let pre:List Nat:=[s.loop.toNat,s.speaks.length]++s.speaks++[s.steps.length]
 have Q9:([.int (s.loop.toNat:Int),.int (s.speaks.length:Int)]++nV s.speaks++[.int (s.steps.length:Int)]:List V)=nV pre:=by
  show _=nV ([s.loop.toNat,s.speaks.length]++s.speaks++[s.steps.length]);rw[nP,nP];rfl
 have abp:pre.length<=67:=by
  show([s.loop.toNat,s.speaks.length]++s.speaks++[s.steps.length]).length<=67;simp only[aq,aF,da];omega
 have Rn:∀i,((s.steps.take i).flatMap stepNums).length<=16*66:=λi=>a7 (uF i b4) (bW _ b3);refine⟨_,rfl,_,_,_,_,_,rfl,kd k3 h1,T.ie,T.iC,rfl,st,rfl,⟨_,gC.of (kd k3 h5)⟩,oQ (K:=K) (a:=st) (xs:=sps.map V.ref) (λi σ H'=>fb [r] H H'/\(∃v,σ=[some (.ref p),some (.ref r),v])/\H' r=some (.lst (nV (pre++(s.steps.take i).flatMap stepNums)))) ⟨k3,⟨none,rfl⟩,by rw[eV,Q9];simp⟩ (λi σ H' _ z=>gC.of (kd z.1 h5)) ?_ ?_⟩
 .rintro i x σ H' hi ⟨kk,⟨v,rfl⟩,hh⟩;rw[aK]at hi;cases Cs:sps[i]? with
  |none=>rw[Cs]at hi;cases hi
  |some y=>
   rw[Cs]at hi;have Ha:=ao hi;subst Ha;obtain⟨xP,hst,hS⟩:=h6.getL Cs
   have Wd:sC a H' y xP:=by
    obtain⟨d,l',c',z1,z2,z3⟩:=hS;exact⟨d,l',c',kd kk z1,kd kk z2,kd kk z3⟩
   refine⟨_,rfl,.inl ⟨rfl,_,gC.of hh⟩,_,rfl,y,xP,rfl,Wd,S.lit s hs xP (aR hst),λu H2 hu k2 h2=>?_⟩;have Vw:=k2.k _ _ hh (by simp);have:=Rn i;refine⟨r,u,_,_,rfl,rfl,Vw,h2,?_,(kk.trans (k2.mono (by simp))).trans (.put Vw (by simp) gS),⟨_,rfl⟩,?_⟩
   .have:=b4 xP (aR hst);rw[ia,ia,aq];omega
   rw[eV,AM hst,<-a0,nP (pre++_)]
 rintro σ H' ⟨kk,⟨v,rfl⟩,hh⟩;rw[aw,h6.len,bN]at hh;have:=Rn s.steps.length;rw[bN]at this;refine⟨_,rfl,.inl ⟨rfl,_,gC.of hh⟩,_,rfl,_,_,_,_,_,rfl,kd kk h1,T.ie,T.mX,rfl,_,_,rfl,.inr (m5.of (kd kk h2)),r,_,_,rfl,rfl,hh,?_,?_⟩
 .rw[ia,aq];omega
 rw[aw];have kk2:fb [r] H (upd H' r (.lst (nV (pre++s.steps.flatMap stepNums)++[.int (s.name.length:Int)]))):=kk.trans (.put hh (by simp) gS);refine⟨_,rfl,_,rfl,_,_,_,_,_,rfl,kd kk2 h1,T.ie,T.mX,rfl,nt,_,rfl,.inr (m5.of (kd kk2 h2)),λu hu=>?_⟩;have ur:r≠u:=ft eV hu;refine⟨r,u,_,_,rfl,rfl,(eY ur).trans eV,eV,?_,λz hz=>?_⟩
 .rw[aq,aw,ia,aq];simp only[aF,da];omega
 have kf:=(kk2.trans (.new hu)).trans (.new (o:=.lst (nV (pre++s.steps.flatMap stepNums)++[.int (s.name.length:Int)]++s.name.map bV)) hz);refine k z _ ?_ (kf.drop r0) ?_
 .have zr:z≠r:=λy=>by rw[y,eY ur,eV]at hz;cases hz
  have:=(kk2.trans (.new (o:=.lst (s.name.map bV)) hu));cases q:H z with
  |none=>rfl
  |some o=>rw[this.k z o q (by simpa using zr)]at hz;cases hz
 rw[eV];congr 2;have e:nV (nat8 s.name)=s.name.map bV:=by unfold nV nat8;rw[cG];rfl
 rw[<-e];simp[nV,pre,showNums,Tilt.nameNums]
def G3(S:zX b):(b.flatMap showNums).length<=32*1200:=a7 (zY _ λs hs=>wj S hs) (bW _ S.n)
noncomputable def pQ(b:Book)(n:Bytes):Option Nat:=b.findIdx? λs=>s.name==n
inductive Jg(a:ij)(vs:List V)(H:Hp)(Q:VK)(u1:XK):Prop
 |mk:∀(p:Addr)(lamps:List Nat)(b:Book),vs=[.ref p]->qU a H p lamps b->zX b->oH H (0::b.length::b.flatMap showNums) Q->Jg a vs H Q u1
def ED(T:Txt K mg a):gj P w K mg bz (PL a) 3 a.lO ["book"] (Jg a):=by
 refine jx T.zI rY ?_;rintro _ _ _ s H _ _ _ _ hr ⟨p,lamps,b,rfl,⟨dx,l,sh,qs,h1,h2,h3,h4⟩,S,k⟩
 refine⟨_,eW (fP 1 rY (gO (jy (iy T.sj) (gM T.iA (gI 0)))))
  (eW (jN aE rfl (qY (gI 0)) (ib (i:=2) rY.nd rfl (Or.inl rfl))
   (ya (mD aX d7 d8 Aj (pv 1) (iF (gy (G2 T) hr T.mU (iF (pv 2)))))))
  (kY (pv 1))),Fg ?_⟩
 intros;have big:100000<sizeLine:=by decide
 refine⟨_,rfl,_,_,_,_,_,rfl,h1,T.pY,T.jW,rfl,_,_,rfl,.inl (gC.of h3),(show 2<=sizeLine by decide),λr hr=>?_⟩;rw[aw,h4.len];have kd:∀{H':Hp},fb [r] H H'->∀{x o},H x=some o->H' x=some o:=λ{_} kk{x o} e=>kk.k x o e (by simpa using ft e hr);have k1:fb [r] H (upd H r (.lst [.int 0,.int (b.length:Int)])):=.new hr;have le:∀i,((b.take i).flatMap showNums).length<=32*1200:=λi=>a7 (uF i λs hs=>wj S hs) (bW _ S.n);refine⟨_,rfl,_,_,_,_,_,rfl,kd k1 h1,T.pY,T.jW,rfl,sh,rfl,⟨_,gC.of (kd k1 h3)⟩,oQ (K:=K) (a:=sh) (xs:=qs.map V.ref) (λi σ H'=>fb [r] H H'/\(∃v,σ=[some (.ref p),some (.ref r),v])/\H' r=some (.lst (nV (0::b.length::(b.take i).flatMap showNums)))) ⟨k1,⟨none,rfl⟩,eV⟩ (λi σ H' _ z=>gC.of (kd z.1 h3)) ?_ ?_⟩
 .rintro i x σ H' hi ⟨kk,⟨v,rfl⟩,hh⟩;rw[aK]at hi;cases Cs:qs[i]? with
  |none=>rw[Cs]at hi;cases hi
  |some y=>
   rw[Cs]at hi;have Ha:=ao hi;subst Ha;obtain⟨s,hs,hS⟩:=h4.getL Cs;have sm:s∈b:=aR hs;have Wd:oG a H' y s:=hS.same λz o e=>kd kk e;refine⟨_,rfl,.inl ⟨rfl,_,gC.of hh⟩,_,rfl,y,b,s,rfl,Wd,S,sm,λu H2 hu k2 h2=>?_⟩;have Vw:=k2.k _ _ hh (by simp);have:=le i;refine⟨r,u,_,_,rfl,rfl,Vw,h2,?_,(kk.trans (k2.mono (by simp))).trans (.put Vw (by simp) gS),⟨_,rfl⟩,?_⟩
   .have:=wj S sm;rw[ia,ia];simp only[aF];omega
   rw[eV,AM hs,<-nP];rfl
 rintro σ H' ⟨kk,⟨v,rfl⟩,hh⟩;rw[aw,h4.len,bN]at hh;exact⟨_,rfl,k r H' hr (kk.drop hr) hh⟩
inductive QV(K:Frag)(a:ij)(vs:List V)(H:Hp)(Q:VK)(E:XK):Prop
 |mk:∀(p t:Addr)(lamps:List Nat)(b:Book)(n:Bytes),vs=[.ref p,.ref t]->qU a H p lamps b->H t=some (.lst (n.map bV))->(match pQ b n with|some i=>oH H [0,i] Q|none=>∀H',fb [] H H'->E (.ref a.fY) none H')->QV K a vs H Q E
noncomputable def MR(w:Bytes):PyData:=.list (w.map λc=>.int (c.toNat:Int))
def dpL{w:Bytes}(h:H t=some (.lst (w.map bV))):Dp K H (.ref t) (MR w):=.lst (gC.of h) (Qg K H w)
def MS(w:Bytes):SeqAt.shaped (MR w)=true:=by
 show(PyData.canLayAll0 _&&decide (PyData.depthAll _+1<=64))=true;rw[N9,lay_ints,yh];rfl
def Z6(v w:Bytes):PyData.eqv (MR v) (MR w)=decide (v=w):=by
 show PyData.eqvAll _ _=_;rw[N9,N9,DN];by_cases h:v=w
 .rw[h];simp
 rw[aV h,aV λz=>h (DO z)]
def find_none(h:∀(j:Nat) s,b[j]? =some s->s.name≠n):pQ b n=none:=by
 unfold pQ;rw[cv];intro s hs;obtain⟨j,hj⟩:=List.getElem?_of_mem hs;have:=h j s hj;simpa using this
def find_some(h:∀(j:Nat) s,j<i->b[j]? =some s->s.name≠n)(hi:b[i]? =some s)(e:s.name=n):pQ b n=some i:=by
 unfold pQ;rw[bZ];obtain⟨h1,h2⟩:=ay.mp hi;refine⟨h1,by rw[h2,e];simp,λj hj=>?_⟩;have:=h j _ hj (az (by omega));simpa using this
def G4(T:Txt K mg a):gj P w K mg bz (PL a) 1 a.mV ["book","name"] (QV K a):=by
 refine jx T.BP uk ?_;rintro _ _ _ s H _ _ _ _ hr ⟨p,t,lamps,b,n,rfl,⟨_,_,sh,qs,h1,_,h3,h4⟩,ht,k⟩
 refine⟨_,eW (jN aE rfl (Ln rfl T.rE (iF (gI 0))) (JI rfl (sI (ib (i:=2) uk.nd rfl (Or.inl rfl)) (sI (ib (i:=3) uk.nd rfl (Or.inl rfl)) FR)))
   (ff (fS (fm (xU hr.units) (wo yC (by rfl) T.Kk rfl (iF (gI 3))) (pv 1) (fv _))
    (kY (gO (jy (iy T.sj) (pv 2))))
    fB)))
  (ff (V4 (GX T) rfl)),?_⟩
 refine⟨_,rfl,_,_,_,_,_,rfl,h1,T.pY,T.jW,rfl,sh,_,rfl,gC.of h3,GA (n:=b.length) (λi σ H'=>fb [] H H'/\(∃v2 v3,σ=[some (.ref p),some (.ref t),v2,v3])/\∀(j:Nat) s,j<i->b[j]? =some s->s.name≠n) ⟨.refl,⟨_,_,rfl⟩,λj s h=>by omega⟩ (λσ H' z=>⟨_,gC.of (z.1.k _ _ h3 (by simp)),by rw[aw,h4.len];exact aH _⟩) ?_ ?_⟩
 .rintro i σ H1 hi ⟨k1,⟨v2,v3,rfl⟩,hn⟩;obtain⟨s,hs⟩:∃s,b[i]? =some s:=⟨_,az hi⟩;obtain⟨y,hy,hS⟩:=h4.GN hs;have hx:(qs.map V.ref)[i]? =some (.ref y):=by rw[aK,hy];rfl
  refine⟨⟨_,_,gC.of (k1.k _ _ h3 (by simp)),hx⟩,?_⟩;rintro x H2 ⟨Tp,z,rfl,Zi,rfl,hz⟩;have ez:=hz _ (gC.of (k1.k _ _ h3 (by simp)));rw[hx]at ez;have ez:=ao ez;subst ez;have k2:fb [] H (upd H1 Tp (.tup [.int (i:Nat),.ref y])):=k1.trans (.new Zi);obtain⟨Zd,nt,l',c',st,sps,g1,g2,_⟩:=(hS.same λz o e=>k2.k z o e (by simp)).ex;refine⟨Tp,_,rfl,m5.of eV,rfl,_,_,rfl,_,_,rfl,rfl,?_⟩;refine⟨_,rfl,_,_,_,_,_,rfl,g1,T.ie,T.mX,rfl,nt,_,rfl,.inr (m5.of g2),λu hu=>?_⟩;have k3:fb [] H (upd (upd H1 Tp (.tup [.int (i:Nat),.ref y])) u (.lst (s.name.map bV))):=k2.trans (.new hu);refine⟨_,rfl,_,_,dpL eV,dpL (k3.k _ _ ht (by simp)),MS _,MS _,_,rfl,?_⟩;rw[Z6];refine fH (λq=>?_) (λq=>?_)
  .have q':=aj q;rw[find_some hn hs q']at k;refine⟨_,rfl,(show 2<=sizeLine by decide),λr hr=>k r _ (k3.fresh hr) (k3.trans (.new hr)) eV⟩
  have q':=au q;refine⟨k3,⟨_,_,rfl⟩,λj s' hj yt=>?_⟩;by_cases e:j=i
  .subst e;rw[hs]at yt;cases yt;exact q'
  exact hn j s' (by omega) yt
 rintro σ H1 ⟨k1,⟨_,_,rfl⟩,hn⟩;rw[find_none λj s hj=>hn j s (ay.mp hj).1 hj]at k;exact k H1 k1
noncomputable def tS(ends:List (Nat×Nat)):List Nat:=ends.flatMap λz=>[z.1,z.2]
inductive Jh(K:Frag)(a:ij)(vs:List V)(H:Hp)(Q:VK)(u1:XK):Prop
 |mk:∀(rl el:Addr)(es:List Addr)(rows:List Nat)(ends:List (Nat×Nat)),vs=[.ref rl,.ref el]->H rl=some (.lst (nV rows))->H el=some (.lst (es.map V.ref))->ir (λe(z:Nat×Nat)=>H e=some (.tup (nV [z.1,z.2]))) es ends->rows.length<=5000->ends.length<=5000->oH H (0::ticksNums rows ends) Q->Jh K a vs H Q u1
def EE(T:Txt K mg a):gj P w K mg bz (PL a) 1 a.lP ["rows","ends"] (Jh K a):=by
 refine jx T.zJ rZ ?_;rintro _ _ _ _ H _ _ _ _ hr ⟨rl,el,es,rows,ends,rfl,h1,h2,h3,b1,b2,k⟩
 refine⟨_,eW (fP 2 rZ (g0 xT (g0 xT (gO (iF (iy T.sj))) (pv 0)) (gO (iF (gM T.iA (pv 1))))))
  (eW (jN aE rfl (qY (pv 1)) (ib (i:=3) rZ.nd rfl (Or.inl rfl))
   (ya (mD aX d7 d8 Kb (pv 2) (iF (pv 3)))))
  (kY (pv 2))),Fg ?_⟩
 intros;have big:100000<sizeLine:=by decide
 refine⟨(show 1<=sizeLine by decide),λq hq=>?_⟩;have k1:fb [] H (upd H q (.lst [.int 0])):=.new hq;refine⟨_,rfl,q,rl,_,_,rfl,rfl,eV,k1.k _ _ h1 (by simp),?_,λu hu=>?_⟩
 .rw[ia];show 1+_<=_;omega
 have k2:fb [] H (upd (upd H q (.lst [.int 0])) u (.lst ([.int 0]++nV rows))):=k1.trans (.new hu);refine⟨_,rfl,_,_,rfl,.inl (gC.of (k2.k _ _ h2 (by simp))),(show 1<=sizeLine by decide),λx hx=>?_⟩;rw[aw,h3.len];have xu:u≠x:=ft eV hx;have k3:fb [] H (upd (upd (upd H q (.lst [.int 0])) u (.lst ([.int 0]++nV rows))) x (.lst [.int (ends.length:Int)])):=k2.trans (.new hx);refine⟨u,x,_,_,rfl,rfl,(eY xu).trans eV,eV,?_,λr hr=>?_⟩
 .rw[aq,ia];show 1+_+1<=_;omega
 have r0:H r=none:=k3.fresh hr;have kd:∀{H':Hp},fb [r] H H'->∀{x o},H x=some o->H' x=some o:=λ{_} kk{x o} e=>kk.k x o e (by simpa using ft e r0);have k4:fb [r] H (upd (upd (upd (upd H q (.lst [.int 0])) u (.lst ([.int 0]++nV rows))) x (.lst [.int (ends.length:Int)])) r (.lst ([.int 0]++nV rows++[.int (ends.length:Int)]))):=(k3.mono (by simp)).trans (.new hr)
 let pre:List Nat:=0::(rows++[ends.length])
 have Q9:([.int 0]++nV rows++[.int (ends.length:Int)]:List V)=nV pre:=by
  show _=nV (0::(rows++[ends.length]));rw[S2,nP];rfl
 have abp:pre.length<=5002:=by
  show(0::(rows++[ends.length])).length<=5002;simp only[aq,aF,da];omega
 have le:∀i,(tS (ends.take i)).length<=5000*2:=λi=>a7 (uF (m:=2) i λz _=>by simp) (bW _ b2);refine⟨_,rfl,el,rfl,⟨_,gC.of (kd k4 h2)⟩,oQ (K:=K) (a:=el) (xs:=es.map V.ref) (λi σ H'=>fb [r] H H'/\(∃v,σ=[some (.ref rl),some (.ref el),some (.ref r),v])/\H' r=some (.lst (nV (pre++tS (ends.take i))))) ⟨k4,⟨none,rfl⟩,by rw[eV,Q9];simp[tS]⟩ (λi σ H' _ z=>gC.of (kd z.1 h2)) ?_ ?_⟩
 .rintro i x σ H' hi ⟨kk,⟨v,rfl⟩,hh⟩;rw[aK]at hi;cases Cs:es[i]? with
  |none=>rw[Cs]at hi;cases hi
  |some y=>
   rw[Cs]at hi;have Ha:=ao hi;subst Ha;obtain⟨z,hz,hT⟩:=h3.getL Cs;have:=le i;refine⟨_,rfl,.inl ⟨rfl,_,gC.of hh⟩,_,rfl,r,y,_,_,rfl,rfl,hh,m5.of (kd kk hT),?_,kk.trans (.put hh (by simp) gS),⟨_,rfl⟩,?_⟩
   .rw[ia,ia,aq];simp only[aF,da];omega
   unfold tS;rw[eV,AM hz,<-a0,nP (pre++_)]
 rintro σ H' ⟨kk,⟨v,rfl⟩,hh⟩;rw[aw,h3.len,bN]at hh;refine⟨_,rfl,k r H' r0 (kk.drop r0) ?_⟩;rw[hh];show some (HO.lst (nV (0::(rows++[ends.length])++tS ends)))=some (HO.lst (nV (0::ticksNums rows ends)));unfold ticksNums tS;rw[cons_append,a0];rfl
inductive Ji(a:ij)(vs:List V)(H:Hp)(Q:VK)(E:XK):Prop
 |mk:∀(F:Hp)(p:Addr)(O:List Addr)(m:gv)(lamps:List Nat)(b:Book)(l:Nat),vs=[.ref p,.int (l:Int)]->iN a F H p O m lamps b->m.levels.length=16->(∀r,some r∈m.levels->r.begun<=m.tick)->(if 16<=l then E (.ref a.gh) none H else match(m.levels[l]?).getD none with|none=>oH H [0,0,0] Q|some r=>oH H [0,r.number+1,m.tick - r.begun] Q)->Ji a vs H Q E
def EF(T:Txt K mg a):gj P w K mg bz (PL a) 1 a.lQ ["board","level"] (Ji a):=by
 refine jx T.zK xm ?_;rintro _ _ _ s _ _ _ _ _ hr ⟨_,_,_,m,_,_,l,rfl,X,_,hbg,k⟩
 refine⟨_,eW (fS (fm Tn (pv 1) (iy T.qB) (fv _))
   (ff (V4 (D7 T) rfl))
   fB)
  (eW (fP 2 xm (gQ gp (gI 0) (pv 1) λ_ _=>rfl))
  (eW (fS (fm JP (pv 2) qb (fv _))
   (kY (gO (Ab (iy T.sj) fA fA)))
   fB)
  (kY (gO (Ab (iy T.sj) (g0 kI (gI 2) fA) (g0 FT (gI 0) (gI 2))))))),Kj ?_⟩
 intros;obtain⟨_,_,_,_,_,e1,_,e3,_,_,_,_,_,e9,_⟩:=X.ex;refine⟨_,rfl,_,_,rfl,rfl,_,rfl,fH (λq=>?_) λq=>?_⟩
 .have q':16<=l:=by
   have:(16:Int)<=(l:Int):=aj q;omega
  rw[ak q']at k;exact k
 have q':¬16<=l:=by
  have:¬(16:Int)<=(l:Int):=au q;omega
 rw[ag q']at k;obtain⟨o,ho⟩:∃o,m.levels[l]? =some o:=⟨_,az (by omega)⟩;obtain⟨x,hx,hL⟩:=e9.GN ho;rw[ho]at k;refine⟨_,rfl,_,_,_,_,_,rfl,e1,T.gG,T.iM,rfl,_,rfl,_,_,_,_,rfl,rfl,gC.of e3,at_of rfl hx,?_⟩;cases o with
 |none=>
  have hL:=hL;subst hL;exact⟨_,rfl,rfl,_,rfl,m9 ⟨(show 3<=sizeLine by decide),λr hr=>k r _ hr (.new hr) eV⟩⟩
 |some mr=>
  obtain⟨r,_,rfl,_,_,_,_,_,_,r1,_⟩:=hL;refine⟨_,rfl,rfl,_,rfl,oh ⟨_,rfl,_,_,_,_,_,rfl,r1,T.iB,T.uz,rfl,_,_,rfl,rfl,_,rfl,_,_,_,_,_,rfl,e1,T.gG,T.iL,rfl,_,rfl,_,_,_,_,_,rfl,r1,T.iB,T.rM,rfl,_,_,rfl,rfl,(show 3<=sizeLine by decide),λr hr=>k r _ hr (.new hr) ?_⟩⟩;have:=hbg mr (aR ho);rw[eV];show some (HO.lst [V.int 0,V.int ((mr.number:Int)+1),V.int ((m.tick:Int) - (mr.begun:Int))])=some (HO.lst [V.int 0,V.int ((mr.number+1:Nat):Int),V.int ((m.tick - mr.begun:Nat):Int)]);rw[show((m.tick - mr.begun:Nat):Int)=(m.tick:Int) - (mr.begun:Int)from by omega];rfl
structure Xy(lamps:List Nat)(b:Book)(n:Nat)(os:List Glow):Prop where
 pw:os.Pairwise λx y=>x.at_<=y.at_
 rt:∀o∈os,qV lamps b o=true
 lt:∀o∈os,o.at_<n
theorem MU:∀{os:List Glow}{bef:Nat},yq lamps b n bef os=true->Xy lamps b n os/\∀o∈os,bef<=o.at_
 |[],bef,_=>⟨⟨.nil,λ_ h=>by simp at h,λ_ h=>by simp at h⟩,λ_ h=>by simp at h⟩
 |o::os,bef,h=>by
  rw[yq,aO,aO,aO]at h;obtain⟨h1,⟨h2,h3⟩,h4⟩:=h;obtain⟨ok,le⟩:=MU h4;have h1:=aj h1;refine⟨⟨.cons (λx hx=>le x hx) ok.pw,λx hx=>?_,λx hx=>?_⟩,λx hx=>?_⟩
  .rcases aA.mp hx with e|e
   .rw[e];exact h3
   exact ok.rt x e
  .rcases aA.mp hx with e|e
   .rw[e];exact aj h2
   exact ok.lt x e
  rcases aA.mp hx with e|e
  .rw[e];exact h1
  exact a7 h1 (le x e)
def fb.wk(k1:fb O H H1)(k2:fb S H1 H2)(h:∀x∈S,x∈O\/H x=none):fb O H H2:=
 ⟨λx o e n=>k2.k x o (k1.k x o e n) λz=>(h x z).elim n λy=>(by rw[y]at e;cases e),λx xs e=>k2.t x xs (k1.t x xs e)⟩
inductive Jj(a:ij)(vs:List V)(H:Hp)(Q:VK)(u1:XK):Prop
 |mk:∀(F:Hp)(p l:Addr)(O qs:List Addr)(m:gv)(lamps:List Nat)(b:Book)(n:Nat)(os:List Glow),vs=[.ref p,.int (n:Int),.ref l]->iN a F H p O m lamps b->H l=some (.lst (qs.map V.ref))->ir (rT a H) qs os->l∉O->(∀q∈qs,q∉O)->Xy lamps b n os->yp b->m.levels.length=16->m.cols.length=8->(∀x∈lamps,x<64)->n<=4096->os.length<=4096->(∀q H' O',(q∈O\/H q=none)->fb O H H'->(∀x∈O',x∈O\/H x=none)->iN a F H' p O' (fU b os 0 n m).1 lamps b->q∉O'->F q=none->H' q=some (.lst (nV (0::ticksNums (fU b os 0 n m).2.1 (fU b os 0 n m).2.2)))->Q (.ref q) H')->Jj a vs H Q u1
def G5(T:Txt K mg a):gj P w K mg bz (PL a) 5 a.mW ["board","count","orders"] (Jj a):=by
 refine jx T.BQ jP ?_;rintro _ _ _ _ H _ _ _ _ hr ⟨F,p,l,O,qs,m,lamps,b,n,os,rfl,X,hl,all,nl,nq,ok,G,Rg,h8,Wj,hn,hos,k⟩
 refine⟨_,eW (fP 3 jP (gO m8))
  (eW (fP 4 jP (gO m8))
  (eW (fP 5 jP fA)
  (eW (jN aE rfl (Ag rfl T.rD (iF (pv 1))) (ib (i:=6) jP.nd rfl (Or.inl rfl))
   (eW (m6 aE (PW.pt (qc (fm pE (pv 5) (gM T.iA (pv 2)) (fv _)) (qX (fm ig (mm (gQ gp (pv 2) (pv 5) λ_ _=>rfl) rfl) (pv 6) (fv _)))))
    (eW (gi (gy (GY T) hr T.mL (jy (pv 0) (gQ gp (pv 2) (pv 5) λ_ _=>rfl))))
    (ff (xQ (i:=5) jP.nd rfl (Or.inl rfl) fA Cw))))
   (eW (gi (mD aX aI aJ iD (pv 3) (iF (gy (tR T) (hx:=Gp) hr T.iW (jy (pv 0) (g0 JN (gI 0) (iy T.wz)))))))
   (ff (jN aE rfl (qY (gy (GW T) hr T.mH (iF (pv 0)))) (ib (i:=7) jP.nd rfl (Or.inl rfl))
    (ya (mD aX aI aJ iD (pv 4) (iF (UI (jy (pv 6) (pv 7)))))))))))
  (kY (gy (EE T) hr T.lP (jy (pv 3) (pv 4))))))),Rv ?_⟩
 intros;have big:100000<sizeLine:=by decide
 refine⟨(show 0<=sizeLine by decide),λR hR=>⟨(show 0<=sizeLine by decide),λEn hE=>?_⟩⟩;have RE:R≠En:=ft eV hE;have hE0:H En=none:=by rw[eY RE.symm]at hE;exact hE
 have fR:=X.fresh hR;have fE:=X.fresh hE0;have k0:fb [] H (upd (upd H R (.lst [])) En (.lst [])):=(fb.new hR).trans (.new hE);have al:=all.len
 let Iv:Nat->Hp->List Addr->Nat->Prop:=λi H' O' d=>fb O H H'/\(∀x∈O',x∈O\/H x=none)/\R∉O'/\En∉O'/\iN a F H' p O' (fU b os 0 i m).1 lamps b/\H' R=some (.lst (nV (fU b os 0 i m).2.1))/\
  (∃es:List Addr,H' En=some (.lst (es.map V.ref))/\ir (λe(z:Nat×Nat)=>H' e=some (.tup (nV [z.1,z.2]))) es (fU b os 0 i m).2.2)/\∃os1 Wn,os=os1++Wn/\d=os1.length/\(∀o∈os1,o.at_<i)/\∀o∈Wn,i<=o.at_
 have keepL:∀{H'},fb O H H'->H' l=some (.lst (qs.map V.ref)):=λkk=>kk.k _ _ hl nl
 have keepQ:∀{H'},fb O H H'->ir (rT a H') qs os:=λ{H'} kk=>ir.of al λi q o h1 h2=>by
  obtain⟨dx,hd⟩:=all.get h1 h2;exact⟨dx,kk.k _ _ hd (nq q (aR h1))⟩
 have VT:∀i,(fU b os 0 i m).2.2.length<=4112:=λi=>by
  have h1:=x8 b os i 0 m;have h2:=Cj m.levels;have h3:(os.filter λo=>decide (0<=o.at_)).length<=os.length:=bX _ _;omega
 refine⟨_,rfl,(n:Int),rfl,by omega,by omega,sJ (lo:=0) (n:=n) (λi σ H'=>∃(O':List Addr)(d:Nat)(v6 v7:Option V),σ=[some (.ref p),some (.int (n:Int)),some (.ref l),some (.ref R),some (.ref En),some (.int (d:Int)),v6,v7]/\Iv i H' O' d) ⟨O,0,none,none,rfl,k0.mono (by simp),λ_ h=>.inl h,fR.2,fE.2,X.keep k0 (by simp),(eY RE).trans eV,⟨[],eV,.nil⟩,[],os,rfl,rfl,λ_ h=>by simp at h,λo _=>bu _⟩ ?_ ?_⟩
 .rintro i σ H1 hi ⟨O1,d,v6,v7,rfl,k1,sO1,nR1,nE1,X1,hR1,⟨es,hE1,VU⟩,os1,Wn,Ur,rfl,h1,h2⟩;have ei:(0:Int)+(i:Int)=(i:Int):=by omega
  rw[ei];obtain⟨g16,g8⟩:=Dl b os i 0 m Rg h8;generalize hmi:(fU b os 0 i m).1=mi at X1 g16 g8
  refine⟨λmu σ H'=>∃(O':List Addr)(osd os3:List Glow)(v7:Option V),mu=os3.length/\σ=[some (.ref p),some (.int (n:Int)),some (.ref l),some (.ref R),some (.ref En),some (.int ((os1.length+osd.length:Nat):Int)),some (.int (i:Int)),v7]/\Wn=osd++os3/\(∀o∈osd,o.at_=i)/\fb O H H'/\(∀x∈O',x∈O\/H x=none)/\R∉O'/\En∉O'/\iN a F H' p O' (osd.foldl (fQ b) mi) lamps b/\H' R=some (.lst (nV (fU b os 0 i m).2.1))/\H' En=some (.lst (es.map V.ref))/\ir (λe(z:Nat×Nat)=>H' e=some (.tup (nV [z.1,z.2]))) es (fU b os 0 i m).2.2,
   ⟨_,O1,[],Wn,v7,rfl,rfl,rfl,λ_ h=>by simp at h,k1,sO1,nR1,nE1,X1,hR1,hE1,VU⟩,?_⟩
  rintro mu σ H2 ⟨O2,osd,os3,v7,rfl,rfl,e2,hd,k2,sO2,Us,Ut,X2,Jy,Zm,Ro⟩;obtain⟨VV,g8'⟩:=vA b osd mi g16 g8;refine⟨_,rfl,_,rfl,_,_,rfl,.inl (gC.of (keepL k2)),_,_,rfl,rfl,_,rfl,?_⟩
  have el:decide (((os1.length+osd.length:Nat):Int)<((qs.map V.ref).length:Int))=decide (os3≠[]):=by
   rw[aw,al,Ur,e2,aq,aq,a6];constructor
   .intro z y;rw[y]at z;simp at z
   intro z;have:=List.length_pos_iff.mpr z;omega
  cases h3:os3 with
  |nil=>
   subst h3;rw[show decide (([]:List Glow)≠[])=false from rfl]at el;have Yt:∀o∈([]:List Glow),i<o.at_:=λ_ h=>by simp at h
   rw[el];refine oh (oh ?_)
   have ef:(os.filter λ(o:Glow)=>o.at_==i)=osd:=by
    rw[Ur,e2];exact Dg h1 hd Yt
   obtain⟨dxb,bkb,lvb,swb,rsb,f1,f2,f3,f4,f5,f6,f7,f8,f9,f10⟩:=X2.ex;have tk:(osd.foldl (fQ b) mi).tick=mi.tick:=ue b osd mi;have rl:=qi b os i 0 m;refine⟨_,rfl,.inl ⟨rfl,_,gC.of Jy⟩,_,rfl,_,rfl,_,_,_,_,_,rfl,f1,T.gG,T.iL,rfl,_,_,rfl,rfl,(show(0:Int)<8 by decide),F,p,O2,_,lamps,b,(osd.foldl (fQ b) mi).tick % 8,rfl,X2,G,mod_lt _ (by decide),g8',R,_,_,rfl,rfl,Jy,by rw[ia];omega,?_⟩;have k3:fb [R] H2 (upd H2 R (.lst (nV (fU b os 0 i m).2.1++[.int ((ud b (osd.foldl (fQ b) mi) ((osd.foldl (fQ b) mi).tick % 8):Nat):Int)]))):=.put Jy (by simp) gS;have X3:=X2.keep k3 (by intro z hz;simp at hz;rw[hz];exact⟨fR.1,Us⟩);have VW:=k3.k _ _ Zm (by simpa using RE.symm)
   have eT:fU b os 0 (i+1) m=((jf b (osd.foldl (fQ b) mi)).1,(fU b os 0 i m).2.1++[ud b (osd.foldl (fQ b) mi) ((osd.foldl (fQ b) mi).tick % 8)],(fU b os 0 i m).2.2++(jf b (osd.foldl (fQ b) mi)).2.map λ(x:Nat)=>(i,x)):=by
    rw[x9,Nat.zero_add,ef,hmi,tk];rfl
   refine⟨_,rfl,F,p,O2,_,lamps,b,rfl,X3,VV,λe H4 he k4 X4 h4=>?_⟩;have hR4:=k4.k _ _ eV Us;have hE4:=k4.k _ _ VW Ut;have eE:e≠En:=λz=>by rw[z,VW]at he;cases he
   have eR:e≠R:=λz=>by rw[z,eV]at he;cases he
   have fe:F e=none/\e∉O2:=X3.fresh he;have kO:fb O H H4:=(k2.wk k3 λx hx=>by simp at hx;rw[hx];exact .inr hR).wk k4 sO2;have pl:=xZ b (osd.foldl (fQ b) mi);have bl:=Cj (osd.foldl (fQ b) mi).levels;have eL:=VT i;have aE4:ir (λe(z:Nat×Nat)=>H4 e=some (.tup (nV [z.1,z.2]))) es (fU b os 0 i m).2.2:=Ro.imp λx z h=>k4.t _ _ (k3.t _ _ h);refine⟨e,rfl,⟨_,gC.of h4⟩,oQ (K:=K) (a:=e) (xs:=nV (jf b (osd.foldl (fQ b) mi)).2) (λj σ H'=>∃(v7:Option V)(es':List Addr),σ=[some (.ref p),some (.int (n:Int)),some (.ref l),some (.ref R),some (.ref En),some (.int ((os1.length+osd.length:Nat):Int)),some (.int (i:Int)),v7]/\fb O H H'/\iN a F H' p O2 (jf b (osd.foldl (fQ b) mi)).1 lamps b/\H' e=some (.lst (nV (jf b (osd.foldl (fQ b) mi)).2))/\H' R=some (.lst (nV (fU b os 0 i m).2.1++[.int ((ud b (osd.foldl (fQ b) mi) ((osd.foldl (fQ b) mi).tick % 8):Nat):Int)]))/\H' En=some (.lst ((es++es').map V.ref))/\ir (λe(z:Nat×Nat)=>H' e=some (.tup (nV [z.1,z.2]))) (es++es') ((fU b os 0 i m).2.2++((jf b (osd.foldl (fQ b) mi)).2.take j).map λ(x:Nat)=>(i,x))) ⟨_,[],rfl,kO,X4,h4,hR4,by rw[bK];exact hE4,by simpa using aE4⟩ (λj σ H' _ z=>?_) ?_ ?_⟩
   .obtain⟨_,_,_,_,_,z,_⟩:=z;exact gC.of z
   .rintro j x σ H5 hj ⟨v7,es',rfl,k5,X5,h5,VX,Rp,aE5⟩;rw[wb]at hj;cases Eb:(jf b (osd.foldl (fQ b) mi)).2[j]? with
    |none=>rw[Eb]at hj;cases hj
    |some lvl=>
     rw[Eb]at hj;have hx:=ao hj;subst hx;have jl:=(ay.mp Eb).1;have a5:=aE5.len;rw[aq,aq,aw,bh]at a5;refine⟨_,rfl,.inl ⟨rfl,_,gC.of Rp⟩,_,rfl,_,rfl,(show 2<=sizeLine by decide),λu hu=>?_⟩;have ku:fb [] H5 (upd H5 u (.tup [.int (i:Int),.int (lvl:Int)])):=.new hu;have Yu:=ku.k _ _ Rp (by simp);have uE:u≠En:=λz=>by rw[z,Rp]at hu;cases hu
     have kE:fb [En] H5 (upd (upd H5 u (.tup [.int (i:Int),.int (lvl:Int)])) En (.lst ((es++es').map V.ref++[.ref u]))):=(ku.mono (by simp)).trans (.put Yu (by simp) gS);refine⟨En,_,_,rfl,rfl,Yu,by rw[aw,aq];omega,_,es'++[u],rfl,k5.wk kE (λx hx=>by simp at hx;rw[hx];exact .inr hE0),X5.keep kE (by intro z hz;simp at hz;rw[hz];exact⟨fE.1,Ut⟩),kE.k _ _ h5 (by simpa using eE),kE.k _ _ VX (by simpa using RE),by rw[eV];simp,?_⟩;rw[take_snoc Eb,show(((jf b (osd.foldl (fQ b) mi)).2.take j)++[lvl]).map (λ(x:Nat)=>(i,x))=((jf b (osd.foldl (fQ b) mi)).2.take j).map (λ(x:Nat)=>(i,x))++[(i,lvl)]from by rw[aL];rfl,<-a0,<-a0];exact(aE5.imp λx z h=>kE.t _ _ h).snoc (by rw[eY uE,eV];rfl)
   rintro σ H5 ⟨v7,es',rfl,k5,X5,h5,VX,Rp,aE5⟩;rw[ia,bN]at aE5;refine⟨O2,os1.length+osd.length,_,_,rfl,k5,sO2,Us,Ut,?_,?_,⟨es++es',Rp,?_⟩,os1++osd,_,by rw[Ur,e2,a0],by rw[aq],λo ho=>?_,λo ho=>Yt o ho⟩
   .rw[eT];exact X5
   .rw[eT,VX];show _=some (HO.lst (nV ((fU b os 0 i m).2.1++[_])));rw[nP];rfl
   .rw[eT];exact aE5
   rcases aG.mp ho with y|y
   .have:=h1 o y;omega
   rw[hd o y];exact cK _
  |cons o Wo=>
   subst h3;rw[show decide (o::Wo≠[])=true from by simp]at el;rw[el]
   have ho:os[os1.length+osd.length]? =some o:=by
    rw[Ur,e2,<-a0,bO (by rw[aq];exact aH _),aq,sub_self];rfl
   obtain⟨qo,hqo,dq,OA⟩:=(keepQ k2).GN ho;have le2:∀x∈o::Wo,i<=x.at_:=λx hx=>h2 x (by rw[e2];exact bR _ hx)
   have Yn:(o::Wo).Pairwise λx y=>x.at_<=y.at_:=by
    have:=ok.pw;rw[Ur,e2,<-a0]at this;exact(List.pairwise_append.mp this).2.1
   have qx:(qs.map V.ref)[os1.length+osd.length]? =some (.ref qo):=by rw[aK,hqo];rfl
   refine m9 ⟨_,rfl,_,rfl,_,_,_,_,rfl,rfl,gC.of (keepL k2),at_of (j:=os1.length+osd.length) rfl qx,_,_,_,_,_,rfl,OA,T.gf,T.lU,rfl,_,rfl,rfl,_,rfl,fH (λz=>?_) λz=>?_⟩
   .have z':o.at_=i:=aj (mf.symm.trans z);have abA:o∈os:=aR ho
    have qO:qo∉O2:=λy=>(sO2 _ y).elim (λy=>nq _ (aR hqo) y) λy=>by
     obtain⟨_,w1⟩:=all.get hqo ho;rw[y]at w1;cases w1
    refine⟨_,λσ' H'' z=>z,_,rfl,_,rfl,_,rfl,_,_,_,_,rfl,rfl,gC.of (keepL k2),at_of (j:=os1.length+osd.length) rfl qx,F,p,qo,O2,_,lamps,b,o,rfl,X2,⟨dq,OA⟩,qO,ok.rt o abA,G,VV,g8',Wj,λH3 O3 k3 sO3 X3=>?_⟩;have kO:fb O H H3:=k2.wk k3 sO2;have Zl:=k3.k _ _ Jy Us;have VW:=k3.k _ _ Zm Ut;have nn:∀{x:Addr},H2 x≠none->x∉O2->x∉O3:=λh1 h2 y=>(sO3 _ y).elim h2 h1;refine⟨_,rfl,_,_,rfl,rfl,Wo.length,by simp,O3,osd++[o],Wo,v7,rfl,?_,by rw[a0];exact e2,λx hx=>?_,kO,λx hx=>?_,nn (by rw[Jy];intro y;cases y) Us,nn (by rw[Zm];intro y;cases y) Ut,?_,Zl,VW,Ro.imp λx z h=>k3.t _ _ h⟩
    .show [some (V.ref p),some (V.int (n:Int)),some (V.ref l),some (V.ref R),some (V.ref En),some (V.int (((os1.length+osd.length:Nat):Int)+1)),some (V.int (i:Int)),v7]=_;rw[aq];show _=[some (V.ref p),some (V.int (n:Int)),some (V.ref l),some (V.ref R),some (V.ref En),some (V.int ((os1.length+(osd.length+1):Nat):Int)),some (V.int (i:Int)),v7];rw[show((os1.length+(osd.length+1):Nat):Int)=((os1.length+osd.length:Nat):Int)+1 from by omega]
    .rcases aG.mp hx with y|y
     .exact hd x y
     simp at y;rw[y];exact z'
    .rcases sO3 x hx with y|y
     .exact sO2 x y
     cases w1:H x with
     |none=>exact .inr rfl
     |some o'=>
      by_cases w2:x∈O
      .exact .inl w2
      rw[k2.k x o' w1 w2]at y;cases y
    rw[eD];exact X3
   have z':o.at_≠i:=au (mf.symm.trans z)
   have Yt:∀x∈o::Wo,i<x.at_:=λx hx=>by
    have h0:i<o.at_:=Nat.lt_of_le_of_ne (le2 o (aM ..)) (aW z');rcases aA.mp hx with y|y
    .rw[y];exact h0
    exact aS h0 ((List.pairwise_cons.mp Yn).1 x y)
   have ef:(os.filter λ(o:Glow)=>o.at_==i)=osd:=by
    rw[Ur,e2];exact Dg h1 hd Yt
   obtain⟨dxb,bkb,lvb,swb,rsb,f1,f2,f3,f4,f5,f6,f7,f8,f9,f10⟩:=X2.ex;have tk:(osd.foldl (fQ b) mi).tick=mi.tick:=ue b osd mi;have rl:=qi b os i 0 m;refine⟨_,rfl,.inl ⟨rfl,_,gC.of Jy⟩,_,rfl,_,rfl,_,_,_,_,_,rfl,f1,T.gG,T.iL,rfl,_,_,rfl,rfl,(show(0:Int)<8 by decide),F,p,O2,_,lamps,b,(osd.foldl (fQ b) mi).tick % 8,rfl,X2,G,mod_lt _ (by decide),g8',R,_,_,rfl,rfl,Jy,by rw[ia];omega,?_⟩;have k3:fb [R] H2 (upd H2 R (.lst (nV (fU b os 0 i m).2.1++[.int ((ud b (osd.foldl (fQ b) mi) ((osd.foldl (fQ b) mi).tick % 8):Nat):Int)]))):=.put Jy (by simp) gS;have X3:=X2.keep k3 (by intro z hz;simp at hz;rw[hz];exact⟨fR.1,Us⟩);have VW:=k3.k _ _ Zm (by simpa using RE.symm)
   have eT:fU b os 0 (i+1) m=((jf b (osd.foldl (fQ b) mi)).1,(fU b os 0 i m).2.1++[ud b (osd.foldl (fQ b) mi) ((osd.foldl (fQ b) mi).tick % 8)],(fU b os 0 i m).2.2++(jf b (osd.foldl (fQ b) mi)).2.map λ(x:Nat)=>(i,x)):=by
    rw[x9,Nat.zero_add,ef,hmi,tk];rfl
   refine⟨_,rfl,F,p,O2,_,lamps,b,rfl,X3,VV,λe H4 he k4 X4 h4=>?_⟩;have hR4:=k4.k _ _ eV Us;have hE4:=k4.k _ _ VW Ut;have eE:e≠En:=λz=>by rw[z,VW]at he;cases he
   have eR:e≠R:=λz=>by rw[z,eV]at he;cases he
   have fe:F e=none/\e∉O2:=X3.fresh he;have kO:fb O H H4:=(k2.wk k3 λx hx=>by simp at hx;rw[hx];exact .inr hR).wk k4 sO2;have pl:=xZ b (osd.foldl (fQ b) mi);have bl:=Cj (osd.foldl (fQ b) mi).levels;have eL:=VT i;have aE4:ir (λe(z:Nat×Nat)=>H4 e=some (.tup (nV [z.1,z.2]))) es (fU b os 0 i m).2.2:=Ro.imp λx z h=>k4.t _ _ (k3.t _ _ h);refine⟨e,rfl,⟨_,gC.of h4⟩,oQ (K:=K) (a:=e) (xs:=nV (jf b (osd.foldl (fQ b) mi)).2) (λj σ H'=>∃(v7:Option V)(es':List Addr),σ=[some (.ref p),some (.int (n:Int)),some (.ref l),some (.ref R),some (.ref En),some (.int ((os1.length+osd.length:Nat):Int)),some (.int (i:Int)),v7]/\fb O H H'/\iN a F H' p O2 (jf b (osd.foldl (fQ b) mi)).1 lamps b/\H' e=some (.lst (nV (jf b (osd.foldl (fQ b) mi)).2))/\H' R=some (.lst (nV (fU b os 0 i m).2.1++[.int ((ud b (osd.foldl (fQ b) mi) ((osd.foldl (fQ b) mi).tick % 8):Nat):Int)]))/\H' En=some (.lst ((es++es').map V.ref))/\ir (λe(z:Nat×Nat)=>H' e=some (.tup (nV [z.1,z.2]))) (es++es') ((fU b os 0 i m).2.2++((jf b (osd.foldl (fQ b) mi)).2.take j).map λ(x:Nat)=>(i,x))) ⟨_,[],rfl,kO,X4,h4,hR4,by rw[bK];exact hE4,by simpa using aE4⟩ (λj σ H' _ z=>?_) ?_ ?_⟩
   .obtain⟨_,_,_,_,_,z,_⟩:=z;exact gC.of z
   .rintro j x σ H5 hj ⟨v7,es',rfl,k5,X5,h5,VX,Rp,aE5⟩;rw[wb]at hj;cases Eb:(jf b (osd.foldl (fQ b) mi)).2[j]? with
    |none=>rw[Eb]at hj;cases hj
    |some lvl=>
     rw[Eb]at hj;have hx:=ao hj;subst hx;have jl:=(ay.mp Eb).1;have a5:=aE5.len;rw[aq,aq,aw,bh]at a5;refine⟨_,rfl,.inl ⟨rfl,_,gC.of Rp⟩,_,rfl,_,rfl,(show 2<=sizeLine by decide),λu hu=>?_⟩;have ku:fb [] H5 (upd H5 u (.tup [.int (i:Int),.int (lvl:Int)])):=.new hu;have Yu:=ku.k _ _ Rp (by simp);have uE:u≠En:=λz=>by rw[z,Rp]at hu;cases hu
     have kE:fb [En] H5 (upd (upd H5 u (.tup [.int (i:Int),.int (lvl:Int)])) En (.lst ((es++es').map V.ref++[.ref u]))):=(ku.mono (by simp)).trans (.put Yu (by simp) gS);refine⟨En,_,_,rfl,rfl,Yu,by rw[aw,aq];omega,_,es'++[u],rfl,k5.wk kE (λx hx=>by simp at hx;rw[hx];exact .inr hE0),X5.keep kE (by intro z hz;simp at hz;rw[hz];exact⟨fE.1,Ut⟩),kE.k _ _ h5 (by simpa using eE),kE.k _ _ VX (by simpa using RE),by rw[eV];simp,?_⟩;rw[take_snoc Eb,show(((jf b (osd.foldl (fQ b) mi)).2.take j)++[lvl]).map (λ(x:Nat)=>(i,x))=((jf b (osd.foldl (fQ b) mi)).2.take j).map (λ(x:Nat)=>(i,x))++[(i,lvl)]from by rw[aL];rfl,<-a0,<-a0];exact(aE5.imp λx z h=>kE.t _ _ h).snoc (by rw[eY uE,eV];rfl)
   rintro σ H5 ⟨v7,es',rfl,k5,X5,h5,VX,Rp,aE5⟩;rw[ia,bN]at aE5;refine⟨O2,os1.length+osd.length,_,_,rfl,k5,sO2,Us,Ut,?_,?_,⟨es++es',Rp,?_⟩,os1++osd,_,by rw[Ur,e2,a0],by rw[aq],λo ho=>?_,λo ho=>Yt o ho⟩
   .rw[eT];exact X5
   .rw[eT,VX];show _=some (HO.lst (nV ((fU b os 0 i m).2.1++[_])));rw[nP];rfl
   .rw[eT];exact aE5
   rcases aG.mp ho with y|y
   .have:=h1 o y;omega
   rw[hd o y];exact cK _
 rintro σ H1 ⟨O1,d,v6,v7,rfl,k1,sO1,nR1,nE1,X1,hR1,⟨es,hE1,VU⟩,os1,Wn,Ur,hd,h1,h2⟩;have rl:=qi b os n 0 m;refine⟨_,rfl,_,rfl,R,En,es,_,_,rfl,hR1,hE1,VU,by omega,by have:=VT n;omega,λq H2 hq k2 h3=>?_⟩;have fq:=X1.fresh hq;refine k q H2 O1 ?_ (k1.trans (k2.mono (by simp))) sO1 (X1.keep k2 (by simp)) fq.2 fq.1 h3;cases z:H q with
 |none=>exact .inr rfl
 |some o=>
  by_cases y:q∈O
  .exact .inl y
  rw[k1.k q o z y]at hq;cases hq
def Ue{c:Prop}[i:Decidable c]{A B:Prop}(h:c)(x:A):if c then A else B:=by rw[ak h];exact x
def KL{c:Prop}[i:Decidable c]{A B:Prop}(h:¬c)(x:B):if c then A else B:=by rw[ag h];exact x
def Om(a:ij)(F H:Hp)(p:Addr)(O:List Addr)(m:gv)(lamps:List Nat)(b:Book)(n:Nat)(os:List Glow)(Q:VK):Prop:=∀q H' O',(q∈O\/H q=none)->fb O H H'->(∀x∈O',x∈O\/H x=none)->iN a F H' p O' (fU b os 0 n m).1 lamps b->q∉O'->F q=none->
 H' q=some (.lst (nV (0::ticksNums (fU b os 0 n m).2.1 (fU b os 0 n m).2.2)))->Q (.ref q) H'
inductive Jk(K:Frag)(a:ij)(vs:List V)(H:Hp)(Q:VK)(E:XK):Prop
 |mk:∀(F:Hp)(p t:Addr)(O:List Addr)(m:gv)(lamps:List Nat)(b:Book)(n:Nat)(os:List Glow),vs=[.ref p,.int (n:Int),.ref t]->iN a F H p O m lamps b->gC K H t (nV (mY os))->yp b->m.levels.length=16->m.cols.length=8->(∀x∈lamps,x<64)->(if 4096<n\/4096<os.length then E (.ref a.gL) none H else if yq lamps b n 0 os=true then Om a F H p O m lamps b n os Q else∀H',fb [] H H'->E (.ref a.gh) none H')->Jk K a vs H Q E
def B8(T:Txt K mg a):gj P w K mg bz (PL a) 6 a.jH ["board","count","numbers"] (Jk K a):=by
 refine jx T.vS uR ?_;rintro _ _ _ _ _ _ _ _ _ hr ⟨F,p,t,O,m,lamps,b,n,os,rfl,X,ht,G,Rg,h8,Wj,k⟩
 refine⟨_,eW (fS (PW.pt (qd (fm ve (pv 1) (iy T.zt) (fv _)) (og (fm ve (gM T.iA (pv 2)) (g0 JM (iy T.xp) (iy T.qC)) (fv _)))))
   (ff (V4 (FG T) rfl))
   fB)
  (eW (fP 3 uR (gy (D6 T) hr T.kx (iF (pv 2))))
  (eW (gi (gy (B7 T) hr T.jF (Ab (gI 0) (pv 1) (pv 3))))
  (kY (gy (G5 T) hr T.mW (Ab (pv 0) (pv 1) (pv 3)))))),Kj ?_⟩
 intros;refine⟨_,rfl,_,_,rfl,rfl,_,rfl,fH (λq=>m9 ?_) λq=>?_⟩
 .have q':4096<n:=by have:(n:Int)>4096:=aj q;omega
  rw[ak (.inl q')]at k;exact k
 have q':¬4096<n:=by have:¬(n:Int)>4096:=au q;omega
 refine⟨_,rfl,_,_,rfl,.inl ht,_,_,rfl,rfl,.inl ⟨by decide,by decide⟩,_,_,rfl,rfl,_,rfl,fH (λz=>?_) λz=>?_⟩
 .have z1:(((nV (mY os)).length:Nat):Int)>4096*4:=aj z;rw[ia,wF]at z1;rw[ak (.inr (by omega))]at k;exact k
 have z1:¬(((nV (mY os)).length:Nat):Int)>4096*4:=au z;rw[ia,wF]at z1;have z2:os.length<=4096:=by omega
 rw[ag (by omega)]at k;refine⟨_,rfl,t,os,rfl,ht,by omega,λl qs H1 fl k1 hl1 all fq=>?_⟩;have X1:=X.keep k1 (by simp);obtain⟨dx,bk,lv,sw,rs,e1,e2,e3,e4,e5,e6,e7,e8,e9,e10⟩:=X1.ex;refine⟨_,rfl,_,_,_,_,_,rfl,e1,T.gG,T.pV,rfl,_,rfl,_,rfl,bk,l,qs,lamps,b,n,os,rfl,e2.same X1.same,hl1,all,?_⟩;by_cases c:yq lamps b n 0 os=true
 .rw[ak c]at k⊢;refine⟨_,rfl,_,rfl,_,rfl,F,p,l,O,qs,m,lamps,b,n,os,rfl,X1,hl1,all,λy=>X.al _ y fl,λq hq y=>X.al _ y (fq q hq),(MU c).1,G,Rg,h8,Wj,by omega,z2,λq H' O' hq k2 sO X2 nq fF h2=>k q H' O' (hq.imp id k1.fresh) ((k1.mono (by simp)).trans k2) (λx hx=>(sO x hx).imp id k1.fresh) X2 nq fF h2⟩
 rw[ag c]at k⊢;exact k H1 k1
inductive FH(a:ij)(vs:List V)(H:Hp)(Q:VK)(u1:XK):Prop
 |mk:∀(p dx:Addr),vs=[.ref p]->H p=some (.ins a.gV dx [])->Q .hJ (upd H p (.ins a.gV dx [("board",.hJ)]))->FH a vs H Q u1
def KN(T:Txt K mg a):gj P w K mg bz (PL a) 1 a.mB ["self"] (FH a):=by
 refine jx T.qM wM ?_;rintro _ _ _ _ _ _ _ _ _ _ ⟨p,dx,rfl,hp,k⟩;refine⟨_,ff (fT (pv 0) qb rfl),?_⟩;exact⟨_,rfl,p,_,dx,_,rfl,hp,T.jw,T.gT,(show 0<1000 by decide),k⟩
def G6(T:Txt K mg a):¬PL a (.ref a.gE):=λh=>T.n8 (Value.ref.inj h)
def Jl(T:Txt K mg a):¬PL a (.ref a.gJ):=λh=>T.oZ (Value.ref.inj h)
inductive QW(K:Frag)(a:ij)(vs:List V)(H:Hp)(Q:VK)(E:XK):Prop
 |mk:∀(t:Addr)(bs:Bytes),vs=[.ref t]->qT K H t bs->bs.length<=16384->(match xX bs with|.ok m=>∀v H',fb [] H H'->wa a H m v H'->Q v H'|.error _=>∀H',fb [] H H'->E (.ref a.gE) none H')->QW K a vs H Q E
theorem wQ(T:Txt K mg a):gj P w K mg bz (PL a) 10 a.ik ["text"] (QW K a):=by
 refine jx T.qN pI ?_;rintro cdv A outer s H vs _ E _ hr ⟨t,bs,rfl,X,hl,k⟩;obtain⟨fd,Fk,Yv⟩:=(xM (P:=P) (w:=w) (bz:=bz) T).ex;obtain⟨NF,cF,_⟩:=T.pZ;obtain⟨NB,cB,_⟩:=T.vV;have rz:Rz (PL a) (nS (vd P w (PL a)) P w K mg bz ["text","fault"] "read_right_table" (eZ mv) a.ik cdv A outer s H E) E:=Ao
 refine⟨_,ff (J5 λpins D=>ff (tW (C3 (pl:=PL a) (J4 ⟨rfl,rfl⟩ (Pp (tb:=λx _=>Pu a.gE 1 x E) (x:="TextFault") (i:=1) (n:="fault") cF rfl T.eX pI.nd rfl rfl
  (λx oe vs g1 g2 g3=>ff (Pw (x:="BadTable") (E:=E) (i:=1) (n:="fault") (TJ ⟨rfl,rfl⟩ (λ_=>hr.hd) rfl rz) (G6 T) cB cF T.BS rfl T.gE g1 g2 (g3 rfl) rfl (Or.inl rfl))) (J3 (E:=E) rz) λ_=>hr.hd))
  Fk (hr.mono (by decide)) rfl T.lM (xM (P:=P) (w:=w) (bz:=bz) T).kp Yv (iF (pv 0))))),?_⟩
 refine⟨_,rfl,t,bs,rfl,X,hl,?_⟩;cases hm:xX bs with
 |ok m=>
  rw[hm]at k;exact λv H' kk z=>k v H' kk z
 |error f=>
  rw[hm]at k;refine λdx H' kk z=>⟨a.eX,NF,rfl,cF,?_⟩;exact Ue rfl λx hx=>⟨rfl,k H' kk⟩
inductive Ug(K:Frag)(a:ij)(vs:List V)(H:Hp)(Q:VK)(E:XK):Prop
 |mk:∀(A:TA)(m:MT.fX)(n:Nat)(t:Addr)(bs:Bytes),vs=[.ref A.p,.ref t]->fZ a.fk H A m n->(∀x∈m.lamps,x.2<64)->(m.lamps.map (·.2)).Pairwise (·< ·)->qT K H t bs->bs.length<=65536->(match AZ m.lamps bs with|.ok b=>∀v H',fb [] H H'->yn a H (m.lamps.map (·.2)) b v H'->Q v H'|.error f=>∀dx H',fb [] H H'->H' dx=some (xF f dx)->E (.ref a.gJ) (some dx) H')->Ug K a vs H Q E
theorem yr(T:Txt K mg a):gj P w K mg bz (PL a) 11 a.iz ["table","text"] (Ug K a):=by
 refine jx T.rR qw ?_;rintro cdv A outer s H vs _ E _ hr ⟨A',m,n,t,bs,rfl,X,S8,Yn,XT,hl,k⟩;obtain⟨fd,Fk,Yv⟩:=(zS (P:=P) (w:=w) (bz:=bz) T).ex;obtain⟨NF,cF,m1,m2,m3,m4⟩:=T.pZ;obtain⟨NB,cB,n1,n2,n3,n4⟩:=T.yf;obtain⟨fdB,FB,abB⟩:=T.qJ.ex;have FU:C1 P w K mg bz (vd P w (PL a)) 1 a.jT fdB ["self","kind","place"] (HJ a.gJ "kind" "place"):=TF FB wL cB n1 n2 (by rfl) (by rfl) rfl (by decide) (by decide) (by decide) (by decide);have rz:Rz (PL a) (nS (vd P w (PL a)) P w K mg bz ["table","text","fault"] "read_right_book" (eZ ni) a.iz cdv A outer s H E) E:=Ao
 refine⟨_,ff (J5 λpins D=>ff (tW (C3 (pl:=PL a) (J4 ⟨rfl,rfl⟩ (Pp (tb:=λx od=>Pr a.gJ 2 x "kind" "place" E (kL (HK x od (jk 2) "kind") (kL (HK x od (jk 2) "place") o8))) (x:="TextFault") (i:=2) (n:="fault") cF rfl T.eX qw.nd rfl rfl
  (λx oe vs g1 g2 g3=>ff (Pt (x:="BadBook") (E:=E) (i:=2) (n:="fault") (TJ ⟨rfl,rfl⟩ (λ_=>hr.hd) rfl rz) (Jl T) cB cF T.yg.1 T.yg.2 FU (TC (hr.mono (by decide))) rfl T.gJ abB
   (jy (Cf cF m3 m4 m1 (by rfl) g1 g2 (pv 2) rfl) (Cf cF m3 m4 m2 (by rfl) g1 g2 (pv 2) rfl)) g1 g2 (g3 rfl) rfl (Or.inl rfl))) (J3 (E:=E) rz) λ_=>hr.hd))
  Fk (hr.mono (by decide)) rfl T.mK (zS (P:=P) (w:=w) (bz:=bz) T).kp Yv (jy (pv 0) (pv 1))))),?_⟩
 refine⟨_,rfl,_,rfl,A',m,n,t,bs,rfl,X,S8,Yn,XT,hl,?_⟩;cases hm:AZ m.lamps bs with
 |ok m=>
  rw[hm]at k;exact λv H' kk z=>k v H' kk z
 |error f=>
  rw[hm]at k;refine λdx H' kk z=>⟨a.eX,NF,rfl,cF,Ue rfl λx hx=>⟨rfl,?_⟩⟩;exact⟨_,rfl,rfl,dx,_,_,rfl,z,rfl,_,rfl,rfl,dx,_,_,rfl,z,rfl,_,_,rfl,λdy H2 e s=>k dy H2 (kk.trans (.of_same s)) e⟩
open Tilt (Book Show Glow Word Fault Table)
theorem D8:∀{l:List Nat}(k:Nat),l.Pairwise (·< ·)->(∀p∈l,k<=p/\p<n)->l.length<=n - k
 |[],k,_,_=>bu _
 |x::l,k,h,hl=>by
  obtain⟨h1,h2⟩:=List.pairwise_cons.mp h;have hx:=hl x (aM ..);have:=D8 (x+1) h2 λp hp=>⟨h1 p hp,(hl p (aC _ hp)).2⟩;rw[aF];omega
def Jm(hT:∀l∈T.lamps,l.place<64)(g:Good T l):l.length<=64:=D8 0 g.pw λp hp=>⟨bu _,As hT (g.has p hp)⟩
def Vm{w:Bytes}(h:Tilt.isName w=true):w.length<=12:=by
 unfold Tilt.isName NAME at h;simp only[aO,bq]at h;omega
def Oo(h:vv e ns l=.ok x):x.1.w.length<=12:=by
 obtain⟨y,h1,h2⟩:=ym (show(nW e l>>=λx=>if x.1.w∈ns then .error ⟨5,x.1.at_⟩else pure x)=.ok x from h);by_cases q:y.1.w∈ns
 .rw[ak q]at h2;cases h2
 rw[ag q]at h2;cases h2;obtain⟨z,h3,h4⟩:=ym (show(Tilt.next e l>>=λx=>if Tilt.isName x.1.w=false then .error ⟨4,x.1.at_⟩else pure x)=.ok x from h1);by_cases q2:Tilt.isName z.1.w=false
 .rw[ak q2]at h4;cases h4
 rw[ag q2]at h4;cases h4;exact Vm (by simpa using q2)
def B9(S:∀s∈b,s.name.length<=12)(h:jD e lamps b l=.ok b'):∀s∈b',s.name.length<=12:=by
 obtain⟨x,h1,h2⟩:=ym h;by_cases q:x.1.w=Tilt.ascii "show"
 .rw[ak q]at h2;obtain⟨s,h3,h4⟩:=ym h2;cases h4;unfold AY at h3;by_cases z:b.length=32\/awaits b=true
  .rw[ak z]at h3;cases h3
  rw[ag z]at h3;obtain⟨n,hn,h3⟩:=ym h3;obtain⟨_,_,h3⟩:=ym h3;obtain⟨_,_,h3⟩:=ym h3;obtain⟨_,_,h3⟩:=ym h3;obtain⟨_,_,h3⟩:=ym h3;cases h3;intro s hs;rcases aG.mp hs with y|y
  .exact S s y
  simp at y;rw[y];exact Oo hn
 rw[ag q]at h2;by_cases q2:x.1.w=Tilt.ascii "step"
 .rw[ak q2]at h2;obtain⟨s,h3,h4⟩:=ym h2;cases h4;unfold wy;cases hb:b.getLast? with
  |none=>exact S
  |some t=>
   intro s' hs;have hm:=Dc hb;rcases aG.mp (show s'∈b.dropLast++[_]from hs)with y|y
   .exact S s' (List.dropLast_subset _ y)
   simp at y;rw[y];exact S t hm.1
 rw[ag q2]at h2;cases h2
theorem u6:∀(k p:Nat)(b:Book)(bs:Bytes){b':Book},(∀s∈b,s.name.length<=12)->ke lamps k p b bs=.ok b'->∀s∈b',s.name.length<=12
 |0,p,b,bs,b',S,h=>by cases h;exact S
 |k+1,p,b,bs,b',S,h=>by
  have h':(if bs=[]then Except.ok b else nX p bs>>=λx=>jD x.1.end_ lamps b x.1.words>>=λm'=>ke lamps k (x.1.end_+1) m' x.2)=.ok b':=h;by_cases q:bs=[]
  .rw[ak q]at h';cases h';exact S
  rw[ag q]at h';obtain⟨x,h1,h2⟩:=ym h';obtain⟨m',h3,h4⟩:=ym h2;exact u6 k _ _ _ (B9 S h3) h4
def Jn(h:AZ lamps bs=.ok b):∀s∈b,s.name.length<=12:=by
 obtain⟨m,h1,h2⟩:=ym h;have h2:=h2;by_cases q:awaits m=true
 .rw[ak q]at h2;cases h2
 rw[ag q]at h2;cases h2;exact u6 _ _ _ _ (λ_ h=>by simp at h) h1
structure Jo(T:Table)(b:Book):Prop where
 lt:∀l∈T.lamps,l.place<64
 ok:ph T b
 nm:∀s∈b,s.name.length<=12
def Jo.good(x:Jo T b):yp b:=⟨λs hs p hp=>As x.lt ((x.ok.sh s hs).1.sp.has p hp),λs hs=>(x.ok.sh s hs).2⟩
def Jo.small(x:Jo T b):zX b:=⟨x.ok.V3,λs hs=>Jm x.lt (x.ok.sh s hs).1.sp,x.nm,λs hs=>(x.ok.sh s hs).1.n16,λs hs y hy=>Jm x.lt ((x.ok.sh s hs).1.st y hy).1⟩
noncomputable def kK(T:Table):List Nat:=T.lamps.map (·.place)
def Oq(h:∀l∈T.lamps,l.place<64):∀x∈kK T,x<64:=λx hx=>by
 obtain⟨l,hl,e⟩:=dE.mp hx;rw[<-e];exact h l hl
def G7(a:ij)(H:Hp)(T:Table)(r:Except Fault Book)(Q:VK)(E:XK):Prop:=match r with
 |.error f=>∀dx H',fb [] H H'->H' dx=some (xF f dx)->E (.ref a.gJ) (some dx) H'
 |.ok B=>∀v H',fb [] H H'->Jo T B->yn a H (kK T) B v H'->Q v H'
def AN(a:ij)(H:Hp)(bT bB:Bytes)(Q:VK)(E:XK):Prop:=if 16384<bT.length\/65536<bB.length then E (.ref a.gL) none H else match Tilt.readTable bT with
 |.error _=>∀H',fb [] H H'->E (.ref a.gE) none H'
 |.ok T=>G7 a H T (T.readBook bB) Q E
inductive MV(K:Frag)(a:ij)(vs:List V)(H:Hp)(Q:VK)(E:XK):Prop
 |mk:∀(rl t1 t2:Addr)(rls:List Addr)(bT bB:Bytes),vs=[.ref rl]->H rl=some (.lst (rls.map V.ref))->rls[0]? =some t1->rls[1]? =some t2->gC K H t1 (bT.map bV)->gC K H t2 (bB.map bV)->AN a H bT bB Q E->MV K a vs H Q E
def EG(T:Txt K mg a):gj P w K mg bz (PL a) 12 a.lN ["rows"] (MV K a):=by
 refine jx T.zH Eu ?_;rintro _ _ _ _ H _ Q E _ hr ⟨rl,t1,t2,rls,bT,bB,rfl,Cr,r1,r2,h1,h2,k⟩
 refine⟨_,eW (fS (PW.pt (qd (fm ve (gM T.iA (gQ gp (pv 0) fA λ_ _=>rfl)) (iy T.qE) (fv _)) (og (fm ve (gM T.iA (gQ gp (pv 0) fA λ_ _=>rfl)) (iy T.rL) (fv _)))))
   (ff (V4 (FG T) rfl))
   fB)
  (kY (gy (yr T) hr T.iz (jy (gy (wQ T) hr T.ik (iF (gQ gp (pv 0) fA λ_ _=>rfl))) (gQ gp (pv 0) fA λ_ _=>rfl)))),?_⟩
 have i1:(rls.map V.ref)[0]? =some (.ref t1):=by rw[aK,r1];rfl
 have i2:(rls.map V.ref)[1]? =some (.ref t2):=by rw[aK,r2];rfl
 unfold AN at k;refine⟨_,rfl,_,_,_,_,rfl,rfl,gC.of Cr,at_of (j:=0) rfl i1,_,_,rfl,.inl h1,_,_,rfl,rfl,_,rfl,fH (λq=>m9 ?_) λq=>?_⟩
 .have q':(((bT.map bV).length:Nat):Int)>16384:=aj q;rw[aw]at q';rw[ak (.inl (by omega))]at k;exact k
 have q':¬(((bT.map bV).length:Nat):Int)>16384:=au q;rw[aw]at q';refine⟨_,rfl,_,_,_,_,rfl,rfl,gC.of Cr,at_of (j:=1) rfl i2,_,_,rfl,.inl h2,_,_,rfl,rfl,_,rfl,fH (λz=>?_) λz=>?_⟩
 .have z':(((bB.map bV).length:Nat):Int)>65536:=aj z;rw[aw]at z';rw[ak (.inr (by omega))]at k;exact k
 have z':¬(((bB.map bV).length:Nat):Int)>65536:=au z;rw[aw]at z';rw[ag (by omega)]at k;refine⟨_,rfl,_,_,_,_,rfl,rfl,gC.of Cr,at_of rfl i1,t1,bT,rfl,⟨h1,by omega⟩,by omega,?_⟩;have tr:=NV bT;generalize hm:xX bT=u at tr;generalize hT:Tilt.readTable bT=v at tr k;cases tr with
 |err f=>exact k
 |ok Nf=>
  rename_i m TT;obtain⟨sT,R⟩:=Nf;have L:=Ke R;refine λv H1 k1 mh=>?_;obtain⟨A',n,rfl,_,_,X⟩:=mh;have el:m.lamps.map (·.2)=kK TT:=by rw[R.la];unfold kK;rw[cG];rfl
  have VY:=k1.k _ _ Cr (by simp);refine⟨_,rfl,_,_,_,_,rfl,rfl,gC.of VY,at_of rfl i2,A',m,n,t2,bB,rfl,X,λx hx=>?_,by rw[el];exact R.YH,⟨DR h2 k1 (by simp),by omega⟩,by omega,?_⟩
  .rw[R.la]at hx;obtain⟨z,hz,e⟩:=dE.mp hx;rw[<-e];exact R.Xd z hz
  have br:=PQ L bB;generalize hb:AZ m.lamps bB=u at br;have k:G7 a H TT (TT.readBook bB) Q E:=k;generalize hB:TT.readBook bB=v at br k;cases br with
  |err f=>exact λdx H' kk e=>k dx H' (k1.trans kk) e
  |ok h=>
   obtain⟨rfl,bo⟩:=h;rw[el];exact λv H' kk z=>k v H' (k1.trans kk) ⟨R.Xd,bo,Jn hb⟩ (yn.from z k1)
open TiltLampCalls (State At showNums)
structure wR(a:ij)(H:Hp)(mp:Addr)(S0 O:List Addr)(st:State):Prop where
 sm:mp∈S0
 nt:∀x∈S0,∃o,H x=some o/\∀xs,o≠.tup xs
 nO:∀x∈S0,x∉O
 ob:∃dx v,H mp=some (.ins a.gV dx [("board",v)])/\(match st with
  |none=>v=.hJ/\O=[]
  |some z=>∃p F m,v=.ref p/\iN a F H p O m (kK z.T) z.B/\qh z.T z.B m z.x/\Jo z.T z.B/\∀x∈S0,F x=none)
theorem wR.keep{a:ij}{H H':Hp}{mp:Addr}{S0 O:List Addr}{st:State}(x:wR a H mp S0 O st)(k:fb [] H H'):wR a H' mp S0 O st:=by
 obtain⟨dx,v,h1,h2⟩:=x.ob;refine⟨x.sm,λz hz=>let⟨o,e,n⟩:=x.nt z hz;⟨o,k.k _ _ e (by simp),n⟩,x.nO,dx,v,k.k _ _ h1 (by simp),?_⟩;cases st with
 |none=>exact h2
 |some z=>
  obtain⟨p,F,m,g1,g2,g3,g4,g5⟩:=h2;exact⟨p,F,m,g1,g2.keep k (by simp),g3,g4,g5⟩
theorem MW:∀{x:List Int},x.all (λz=>natural z 8)=true->iV x=(LampNeutral.text x).map bV
 |[],_=>rfl
 |z::x,h=>by
  rw[eP,aO]at h;obtain⟨h1,h2⟩:=h;unfold natural at h1;rw[aO,bq,bq]at h1;show V.int z::iV x=bV (UInt8.ofNat z.toNat)::(LampNeutral.text x).map bV;rw[MW h2];congr 1;unfold bV;rw[cO,eJ (by have:=h1.2;omega)];congr 1;omega
def wH{z:Int}(h:whole32 z=true):z=(z.toNat:Int):=by
 unfold whole32 at h;rw[aO,bq,bq]at h;omega
theorem Jp:∀{x:List Int},x.all whole32=true->x.length % 4=0->iV x=nV (mY (LampNeutral.ordersOf x))
 |[],_,_=>rfl
 |[_],_,h=>by simp at h
 |[_,_],_,h=>by simp at h
 |[_,_,_],_,h=>by simp at h
 |p::q::r::s::x,h,hl=>by
  rw[eP,eP,eP,eP,aO,aO,aO,aO]at h;obtain⟨h1,h2,h3,h4,h5⟩:=h;have ih:=Jp h5 (by simp only[aF]at hl;omega);show V.int p::V.int q::V.int r::V.int s::iV x=V.int (p.toNat:Int)::V.int (q.toNat:Int)::V.int (r.toNat:Int)::V.int (s.toNat:Int)::nV (mY (LampNeutral.ordersOf x));rw[<-wH h1,<-wH h2,<-wH h3,<-wH h4,ih]
def MX(a:ij)(H:Hp)(mp:Addr)(S0:List Addr)(T:Table)(B:Book)(Q:VK):Prop:=∀r H' O',H r=none->fb [mp] H H'->(∀x∈O',H x=none)->wR a H' mp S0 O' (some ⟨T,B,Tilt.lightBegun⟩)->H' r=some (.lst (nV [0]))->Q (.ref r) H'
def Jq(a:ij)(n:Nat)(nm:Bytes)(H:Hp)(mp:Addr)(S0:List Addr)(T:Table)(B:Book)(Q:VK)(E:XK):Prop:=match n with
 |1=>oH H [0] Q
 |2=>oH H (0::B.length::B.flatMap showNums) Q
 |3=>(match pQ B nm with|some i=>oH H [0,i] Q|none=>∀H',fb [] H H'->E (.ref a.fY) none H')
 |_=>MX a H mp S0 T B Q
def lZ(a:ij)(n:Nat)(bT bB nm:Bytes)(H:Hp)(mp:Addr)(S0:List Addr)(Q:VK)(E:XK):Prop:=if 16384<bT.length\/65536<bB.length then E (.ref a.gL) none H else match Tilt.readTable bT with
 |.error _=>∀H',fb [] H H'->E (.ref a.gE) none H'
 |.ok T=>match T.readBook bB with
  |.error f=>∀dx H',fb [] H H'->H' dx=some (xF f dx)->E (.ref a.gJ) (some dx) H'
  |.ok B=>Jo T B->Jq a n nm H mp S0 T B Q E
inductive QX(K:Frag)(a:ij)(vs:List V)(H:Hp)(Q:VK)(E:XK):Prop
 |mk:∀(mp q dx dm wl rl t1 t2:Addr)(rls:List Addr)(S0:List Addr)(n:Nat)(bT bB nm:Bytes)(v0:V),vs=[.ref mp,.ref q]->H mp=some (.ins a.gV dm [("board",v0)])->mp∈S0->(∀x∈S0,∃o,H x=some o/\∀xs,o≠.tup xs)->H q=some (.ins a.jQ dx (zW (i9 n) wl rl))->1<=n->n<=4->H rl=some (.lst (rls.map V.ref))->rls[0]? =some t1->rls[1]? =some t2->gC K H t1 (bT.map bV)->gC K H t2 (bB.map bV)->(n=3->∃t3,rls[2]? =some t3/\H t3=some (.lst (nm.map bV)))->lZ a n bT bB nm H mp S0 Q E->QX K a vs H Q E
theorem wm(T:Txt K mg a):gj P w K mg bz (PL a) 13 a.iE ["machine","call"] (QX K a):=by
 refine jx T.pJ oV ?_;rintro _ A _ _ H _ Q E _ hr ⟨mp,q,dx,dm,wl,rl,t1,t2,rls,S0,n,bT,bB,nm,v0,rfl,Yw,mS,hS0,hq,n1,n4,Cr,r1,r2,h1,h2,h3,k⟩
 refine⟨_,eW (fP 2 oV (gy (EG T) hr T.lN (iF (gI 1))))
  (eW (fS (fm ig (gI 1) gY (fv _))
   (kY (gy (ED T) hr T.lO (iF (pv 2))))
   fB)
  (eW (fS (fm ig (gI 1) gY (fv _))
   (kY (gy (G4 T) hr T.mV (jy (pv 2) (gQ gp (gI 1) fA λ_ _=>rfl))))
   fB)
  (eW (fS (fm ig (gI 1) gY (fv _))
   (ff (fT (pv 0) (Gq T.Ma (QL T) hr T.gz (iF (pv 2))) rfl))
   fB)
  (kY (gO (iF (iy T.sj))))))),Rv ?_⟩
 intros;refine⟨_,rfl,_,_,_,_,_,rfl,hq,T.gW,T.oW,rfl,rl,t1,t2,rls,bT,bB,rfl,Cr,r1,r2,h1,h2,?_⟩;unfold lZ at k;unfold AN;by_cases c:16384<bT.length\/65536<bB.length
 .rw[ak c]at k⊢;exact k
 rw[ag c]at k⊢;cases hT:Tilt.readTable bT with
 |error f=>rw[hT]at k;exact k
 |ok TT=>
  rw[hT]at k;show G7 _ _ _ _ _ _;unfold G7;have k:match TT.readBook bB with|.error f=>∀dx H',fb [] H H'->H' dx=some (xF f dx)->E (.ref a.gJ) (some dx) H'|.ok B=>Jo TT B->Jq a n nm H mp S0 TT B Q E:=k
  cases hB:TT.readBook bB with
  |error f=>rw[hB]at k;exact k
  |ok B=>
   rw[hB]at k;intro v H1 k1 tb mh;have k:=k tb;obtain⟨p,rfl,bA⟩:=mh;have VZ:=k1.k _ _ hq (by simp);have abD:=k1.k _ _ Yw (by simp);have nl:∀{l:List Nat}{Q':VK},oH H l Q'->oH H1 l Q':=λh q H2 hq kk e=>h q H2 (k1.fresh hq) (k1.trans kk) e;have bA1:qU a H1 p (kK TT) B:=bA.same GS;have yes:∀{x:Str}{A B:Prop},i9 n=x->A->if decide (V.str (i9 n)=V.str x)=true then A else B:=λe h=>by rw[e,ak (by simp)];exact h
   have no:∀{x:Str}{A B:Prop},i9 n≠x->B->if decide (V.str (i9 n)=V.str x)=true then A else B:=λe h=>by
    rw[ag λz=>e (V.str.inj (aj z))];exact h
   have VY:=k1.k _ _ Cr (by simp);have hn:n=1\/n=2\/n=3\/n=4:=by omega
   refine⟨_,rfl,_,_,_,_,_,rfl,VZ,T.gW,T.gq,rfl,rfl,_,rfl,?_⟩;rcases hn with e|e|e|e
   .have en:i9 n="judge":=by rw[e];rfl
    have k:oH H [0] Q:=by rw[e]at k;exact k
    refine no (by rw[en];decide+kernel) ⟨_,rfl,_,_,_,_,_,rfl,VZ,T.gW,T.gq,rfl,rfl,_,rfl,no (by rw[en];decide+kernel) ⟨_,rfl,_,_,_,_,_,rfl,VZ,T.gW,T.gq,rfl,rfl,_,rfl,no (by rw[en];decide+kernel) ?_⟩⟩;exact⟨(show 1<=sizeLine by decide),λr hr=>nl k r _ hr (.new hr) eV⟩
   .have en:i9 n="shows":=by rw[e];rfl
    have k:oH H (0::B.length::B.flatMap showNums) Q:=by rw[e]at k;exact k
    exact yes en ⟨_,rfl,p,kK TT,B,rfl,bA1,tb.small,nl k⟩
   .have en:i9 n="find":=by rw[e];rfl
    have k:match pQ B nm with|some i=>oH H [0,i] Q|none=>∀H',fb [] H H'->E (.ref a.fY) none H':=by rw[e]at k;exact k
    obtain⟨t3,r3,h3⟩:=h3 e;have i3:(rls.map V.ref)[2]? =some (.ref t3):=by rw[aK,r3];rfl
    refine no (by rw[en];decide+kernel) ⟨_,rfl,_,_,_,_,_,rfl,VZ,T.gW,T.gq,rfl,rfl,_,rfl,yes en ⟨_,rfl,_,rfl,_,_,_,_,_,rfl,VZ,T.gW,T.oW,rfl,_,_,_,_,rfl,rfl,gC.of VY,at_of rfl i3,p,t3,kK TT,B,nm,rfl,bA1,k1.k _ _ h3 (by simp),?_⟩⟩;cases hf:pQ B nm with
    |some i=>rw[hf]at k;exact nl k
    |none=>rw[hf]at k;exact λH' kk=>k H' (k1.trans kk)
   have en:i9 n="begin":=by rw[e];rfl
   have k:MX a H mp S0 TT B Q:=by rw[e]at k;exact k
   refine no (by rw[en];decide+kernel) ⟨_,rfl,_,_,_,_,_,rfl,VZ,T.gW,T.gq,rfl,rfl,_,rfl,no (by rw[en];decide+kernel) ⟨_,rfl,_,_,_,_,_,rfl,VZ,T.gW,T.gq,rfl,rfl,_,rfl,yes en ?_⟩⟩;refine⟨_,rfl,λpb db V0 hdb ndb=>⟨pb,db,p,rfl,eV,λlv sw H3 flv fsw nls k3 g1 g2 g3=>⟨rfl,?_⟩⟩⟩;have kn:fb [] H1 (upd (upd H1 db (.own pb)) pb (.ins a.gz db [])):=(fb.new hdb).trans (.new (by rw[eY (aW ndb)];exact V0));have k13:=((kn.mono (by simp)).trans k3).drop V0;have k03:=k1.trans k13;have Yx:=k03.k _ _ Yw (by simp)
   have fF:∀{z},H1 z=none->My H H1 z=none:=λ{z} h=>by
    cases y:My H H1 z with
    |none=>rfl
    |some o=>rw[GS _ _ y]at h;cases h
   have Yy:=kn.fresh flv;have Yz:=kn.fresh fsw
   have mF:∀x∈S0,My H H1 x=none:=λx hx=>by
    cases y:My H H1 x with
    |none=>rfl
    |some o=>
     obtain⟨o',e1,n1⟩:=hS0 x hx;obtain⟨z1,z2⟩:=Mz y;rcases z2 with z2|⟨xs,z2⟩
     .rw[z2]at e1;cases e1
     rw[k1.k _ _ e1 (by simp)]at z1;cases z1;exact absurd z2 (n1 xs)
   refine⟨_,rfl,mp,_,dm,_,rfl,Yx,T.jw,T.gT,(show 1<1000 by decide),?_⟩;have sF:oj (My H H1) H3:=λx o e=>k13.k _ _ (GS _ _ e) (by simp);have n_mp:∀{z:Addr},H1 z=none->z≠mp:=λh y=>by rw[y,abD]at h;cases h
   have kf:fb [mp] H (upd H3 mp (.ins a.gV dm [("board",.ref pb)])):=(k03.mono (by simp)).trans (.put Yx (by simp) lC)
   have bd:iN a (My H H1) (upd H3 mp (.ins a.gV dm [("board",.ref pb)])) pb [pb,lv,sw] Kf (kK TT) B:=by
    refine⟨λx o e=>?_,λx hx=>?_,λx hx=>?_,db,p,lv,sw,_,by rw[eY (n_mp V0)];exact g1,bA,by rw[eY (n_mp Yy)];exact g2,by rw[eY (n_mp Yz)];exact g3,nls,by simp,by simp,by simp,?_,λi j r z1 z2=>?_⟩
    .rw[eY λy=>by rw[y,mF mp mS]at e;cases e];exact sF _ _ e
    .simp at hx;rcases hx with y|y|y
     .rw[y];exact fF V0
     .rw[y];exact fF Yy
     rw[y];exact fF Yz
    .simp at hx;rcases hx with y|y|y
     .rw[y,eY (n_mp V0),g1];intro z;cases z
     .rw[y,eY (n_mp Yy),g2];intro z;cases z
     rw[y,eY (n_mp Yz),g3];intro z;cases z
    .refine ir.of rfl λi v o z1 z2=>?_;have z2:(List.replicate 16 (none:Option mq))[i]? =some o:=z2;rw[bc]at z1 z2;split at z1
     .rw[ak ‹_›]at z2;cases z1;cases z2;exact rfl
     cases z1
    rw[bc]at z1;split at z1
    .cases z1
    cases z1
   refine⟨(show 1<=sizeLine by decide),λr hr=>?_⟩
   have hr3:H3 r=none:=by
    rw[eY λy=>by rw[y,eV]at hr;cases hr]at hr;exact hr
   refine k r _ [pb,lv,sw] (k03.fresh hr3) (kf.trans (.new hr)) (λx hx=>?_) ?_ eV
   .simp at hx;rcases hx with y|y|y
    .rw[y];exact k1.fresh V0
    .rw[y];exact k1.fresh Yy
    rw[y];exact k1.fresh Yz
   refine wR.keep ⟨mS,λx hx=>?_,λx hx y=>?_,dm,.ref pb,eV,pb,My H H1,Kf,rfl,bd,NZ TT B,tb,mF⟩ (.new hr)
   .obtain⟨o,e1,n1⟩:=hS0 x hx;by_cases y:x=mp
    .rw[y];exact⟨_,eV,lC⟩
    exact⟨o,by rw[eY y];exact k03.k _ _ e1 (by simp),n1⟩
   obtain⟨o,e1,n1⟩:=hS0 x hx;have e1:=k1.k _ _ e1 (by simp);simp at y;rcases y with y|y|y
   .rw[y,V0]at e1;cases e1
   .rw[y,Yy]at e1;cases e1
   rw[y,Yz]at e1;cases e1
def MY(T:Table)(p:Nat):decide (p∈kK T)=T.hasLamp p:=by
 unfold kK Table.hasLamp;rw[cx,bq,any_eq_true,dE];exact⟨λ⟨l,h1,h2⟩=>⟨l,h1,by simpa using h2⟩,λ⟨l,h1,h2⟩=>⟨l,h1,by simpa using h2⟩⟩
theorem KO(T:Table)(b:Book)(n:Nat)(o:Glow):(decide (o.at_<n)&&qV (kK T) b o)=Tilt.glowRight T b n o:=by
 congr 1;obtain⟨oa,ok,ol,ow⟩:=o;have e0:∀k:Nat,decide (k=0)=(k==0):=λk=>by cases k<;>rfl
 match ok with
 |0=>rfl
 |1=>show(decide (ol<16)&&decide (ow=0))=(decide (ol<16)&&ow==0);rw[e0]
 |2=>show(decide (ol=0)&&decide (ow∈kK T))=(ol==0&&T.hasLamp ow);rw[e0,MY]
 |3=>show(decide (ol=0)&&decide (ow∈kK T))=(ol==0&&T.hasLamp ow);rw[e0,MY]
 |4=>show(decide (ol=0)&&decide (ow=0))=(ol==0&&ow==0);rw[e0,e0]
 |5=>show(decide (ol=0)&&decide (ow=0))=(ol==0&&ow==0);rw[e0,e0]
 |k+6=>rfl
theorem MZ(T:Table)(b:Book)(n:Nat):∀(os:List Glow)(bef:Nat),yq (kK T) b n bef os=Vd T b n bef os
 |[],_=>rfl
 |o::os,bef=>by
  rw[yq,Vd,MZ T b n os,KO]
def Ot(T:Table)(b:Book)(n:Nat)(os:List Glow):yq (kK T) b n 0 os=Tilt.glowsRight T b n os:=by rw[MZ,NY]
noncomputable def wI(z:At)(l:Nat):List Nat:=match z.x.level l with
 |none=>[0,0,0]
 |some r=>[0,r.show_+1,r.at_]
theorem KP(R:qh T b m x):∀r,some r∈m.levels->r.begun<=m.tick:=λr hr=>by
 obtain⟨i,hi⟩:=List.getElem?_of_mem hr
 have hl:i<16:=by
  have:=(ay.mp hi).1;have:=R.ml;omega
 obtain⟨_,q,h1,_,h3⟩:=R.lv i hl;rw[hi]at h1;cases h1;cases q with
 |none=>exact h3.elim
 |some q=>
  obtain⟨s,h4⟩:=h3;have:=h4.at_;rw[R.tick];omega
def p9(a:ij)(n:Nat)(x0:Nat)(os:List Glow)(H:Hp)(mp:Addr)(S0 O:List Addr)(st:State)(Q:VK)(E:XK):Prop:=match st with
 |none=>E (.ref a.gR) none H
 |some z=>match n with
  |5=>oH H (0::TiltLampCalls.litNow z) Q
  |6=>if 4096<x0\/4096<os.length then E (.ref a.gL) none H else if Tilt.glowsRight z.T z.B x0 os=true then
    (∀r H' O',(r∈O\/H r=none)->fb O H H'->(∀x∈O',x∈O\/H x=none)->wR a H' mp S0 O' (some {z with x:=(z.T.glows z.B os 0 x0 z.x).1})->
     H' r=some (.lst (nV (0::ticksNums (z.T.glows z.B os 0 x0 z.x).2.1 (z.T.glows z.B os 0 x0 z.x).2.2)))->(ticksNums (z.T.glows z.B os 0 x0 z.x).2.1 (z.T.glows z.B os 0 x0 z.x).2.2).length<=20000->Q (.ref r) H')else∀H',fb [] H H'->E (.ref a.gh) none H'
  |7=>if 16<=x0 then E (.ref a.gh) none H else oH H (wI z x0) Q
  |8=>oH H (0::z.x.base) Q
  |_=>oH H [0,z.x.tick] Q
inductive M0(K:Frag)(a:ij)(vs:List V)(H:Hp)(Q:VK)(E:XK):Prop
 |mk:∀(mp q dx wl rl:Addr)(rls:List Addr)(S0 O:List Addr)(st:State)(n x0:Nat)(os:List Glow),vs=[.ref mp,.ref q]->wR a H mp S0 O st->H q=some (.ins a.jQ dx (zW (i9 n) wl rl))->5<=n->n<=9->H rl=some (.lst (rls.map V.ref))->((n=6\/n=7)->H wl=some (.lst [.int (x0:Int)]))->(n=6->∃t,rls[0]? =some t/\gC K H t (nV (mY os)))->p9 a n x0 os H mp S0 O st Q E->M0 K a vs H Q E
theorem Ca(T:Txt K mg a):gj P w K mg bz (PL a) 7 a.jI ["machine","call"] (M0 K a):=by
 refine jx T.vT B1 ?_;rintro _ A _ _ H _ Q E _ hr ⟨mp,_,_,_,_,rls,S0,O,st,n,x0,os,rfl,X,hq,_,_,Cr,hw,abE,k⟩
 refine⟨_,eW (fS (fm JP (gI 0) qb (fv _))
   (ff (V4 (KJ T) rfl))
   fB)
  (eW (fS (fm ig (gI 1) gY (fv _))
   (kY (g0 xT (gO (iF (iy T.sj))) (gy (EB T) hr T.lI (iF (gI 0)))))
   fB)
  (eW (fS (fm ig (gI 1) gY (fv _))
   (kY (gy (B8 T) hr T.jH (Ab (gI 0) (gQ gp (gI 1) fA λ_ _=>rfl) (gQ gp (gI 1) fA λ_ _=>rfl))))
   fB)
  (eW (fS (fm ig (gI 1) gY (fv _))
   (kY (gy (EF T) hr T.lQ (jy (gI 0) (gQ gp (gI 1) fA λ_ _=>rfl))))
   fB)
  (eW (fS (fm ig (gI 1) gY (fv _))
   (kY (g0 xT (gO (iF (iy T.sj))) (gy (zT T) hr T.lq (iF (mm (gI 0) rfl)))))
   fB)
  (kY (gO (jy (iy T.sj) (mm (gI 0) rfl)))))))),ZU ?_⟩
 intros;obtain⟨dm,v,hm,hst⟩:=X.ob;have big:100000<sizeLine:=by decide
 cases st with
 |none=>
  obtain⟨rfl,_⟩:=hst;exact⟨_,rfl,_,_,_,_,_,rfl,hm,T.jw,T.gT,rfl,rfl,_,rfl,m9 k⟩
 |some z=>
  obtain⟨p,F,m,rfl,bd,rel,tb,hF⟩:=hst;have yes:∀{x:Str}{A B:Prop},i9 n=x->A->if decide (V.str (i9 n)=V.str x)=true then A else B:=λe h=>by rw[e,ak (by simp)];exact h
  have no:∀{x:Str}{A B:Prop},i9 n≠x->B->if decide (V.str (i9 n)=V.str x)=true then A else B:=λe h=>by
   rw[ag λz=>e (V.str.inj (aj z))];exact h
  obtain⟨db,bk,lv,sw,rs,e1,e2,e3,e4,e5,e6,e7,e8,e9,e10⟩:=bd.ex;have c8:m.cols.length=8:=rel.cols.len
  have cat:∀{l:List Nat},l.length<=1000->oH H (0::l) Q->∀(q0:Addr),H q0=none->∀u H',upd H q0 (.lst [.int 0]) u=none->fb [] (upd H q0 (.lst [.int 0])) H'->H' u=some (.lst (nV l))->UO (.ref q0) (.ref u) H' Q:=λ{l} hl kk q0 h0 u H' fu ku hu=>by
   have k1:fb [] H H':=(fb.new h0).trans ku;refine⟨q0,u,_,_,rfl,rfl,ku.k _ _ eV (by simp),hu,?_,λr hr=>kk r _ (k1.fresh hr) (k1.trans (.new hr)) eV⟩;rw[ia];show 1+_<=_;omega
  refine⟨_,rfl,_,_,_,_,_,rfl,hm,T.jw,T.gT,rfl,rfl,_,rfl,oh ?_⟩;have hn:n=5\/n=6\/n=7\/n=8\/n=9:=by omega
  refine⟨_,rfl,_,_,_,_,_,rfl,hq,T.gW,T.gq,rfl,rfl,_,rfl,?_⟩;rcases hn with e|e|e|e|e
  .have en:i9 n="lit":=by rw[e];rfl
   have k:oH H (0::TiltLampCalls.litNow z) Q:=by rw[e]at k;exact k
   refine yes en ⟨(show 1<=sizeLine by decide),λq0 h0=>?_⟩;have kq:fb [] H (upd H q0 (.lst [.int 0])):=.new h0;refine⟨_,rfl,_,_,_,_,_,rfl,kq.k _ _ hm (by simp),T.jw,T.gT,rfl,F,p,O,m,_,_,rfl,bd.keep kq (by simp),tb.good,c8,λu H' fu ku hu=>cat ?_ k q0 h0 u H' fu ku ?_⟩
   .show((List.range 64).filter _).length<=1000;exact a7 (bX _ _) (by simp)
   rw[hu,P0 tb.lt tb.ok rel]
  .have en:i9 n="ticks":=by rw[e];rfl
   have hw6:=hw (.inl e);obtain⟨t,r0,ht⟩:=abE e;have i0:(rls.map V.ref)[0]? =some (.ref t):=by rw[aK,r0];rfl
   refine no (by rw[en];decide+kernel) ⟨_,rfl,_,_,_,_,_,rfl,hq,T.gW,T.gq,rfl,rfl,_,rfl,yes en ⟨_,rfl,_,_,_,_,_,rfl,hm,T.jw,T.gT,rfl,_,rfl,_,_,_,_,_,rfl,hq,T.gW,T.oO,rfl,_,_,_,_,rfl,rfl,gC.of hw6,at_of rfl rfl,_,rfl,_,_,_,_,_,rfl,hq,T.gW,T.oW,rfl,_,_,_,_,rfl,rfl,gC.of Cr,at_of rfl i0,F,p,t,O,m,kK z.T,z.B,x0,os,rfl,bd,ht,tb.good,rel.ml,c8,Oq tb.lt,?_⟩⟩;rw[e]at k
   have k:if 4096<x0\/4096<os.length then E (.ref a.gL) none H else if Tilt.glowsRight z.T z.B x0 os=true then
    (∀r H' O',(r∈O\/H r=none)->fb O H H'->(∀x∈O',x∈O\/H x=none)->wR a H' mp S0 O' (some {z with x:=(z.T.glows z.B os 0 x0 z.x).1})->
     H' r=some (.lst (nV (0::ticksNums (z.T.glows z.B os 0 x0 z.x).2.1 (z.T.glows z.B os 0 x0 z.x).2.2)))->(ticksNums (z.T.glows z.B os 0 x0 z.x).2.1 (z.T.glows z.B os 0 x0 z.x).2.2).length<=20000->Q (.ref r) H')else∀H',fb [] H H'->E (.ref a.gh) none H':=k
   by_cases c:4096<x0\/4096<os.length
   .rw[ak c]at k⊢;exact k
   rw[ag c]at k⊢;rw[Ot];by_cases g:Tilt.glowsRight z.T z.B x0 os=true
   .rw[ak g]at k⊢;intro r H' O' hr kO sO X' nr fr h'
    have ho:∀o∈os,Tilt.glowRight z.T z.B x0 o=true:=by
     unfold Tilt.glowsRight at g;rw[aO,b6]at g;exact g.1
    obtain⟨abF,eq'⟩:=Ff tb.lt tb.ok ho x0 0 rel;rw[<-eq']at k;have l1:=qi z.B os x0 0 m;have l2:=x8 z.B os x0 0 m;have l3:=Cj m.levels;have l4:(os.filter λo=>decide (0<=o.at_)).length<=os.length:=bX _ _;have l5:=rel.ml;refine k r H' O' hr kO sO ⟨X.sm,λx hx=>?_,λx hx y=>?_,dm,.ref p,kO.k _ _ hm (X.nO mp X.sm),p,F,_,rfl,X',abF,tb,hF⟩ h' ?_
    .obtain⟨o,w1,w2⟩:=X.nt x hx;exact⟨o,kO.k _ _ w1 (X.nO x hx),w2⟩
    .rcases sO x y with w1|w1
     .exact X.nO x hx w1
     obtain⟨o,w2,_⟩:=X.nt x hx;rw[w1]at w2;cases w2
    unfold ticksNums;rw[aq,aF];have l6:=zY (f:=λ(z:Nat×Nat)=>[z.1,z.2]) (m:=2) (fU z.B os 0 x0 m).2.2 λx _=>by simp
    have l7:(fU z.B os 0 x0 m).2.2.length<=4112:=by omega
    omega
   rw[ag g]at k⊢;exact k
  .have en:i9 n="level":=by rw[e];rfl
   have hw7:=hw (.inr e);rw[e]at k;have k:if 16<=x0 then E (.ref a.gh) none H else oH H (wI z x0) Q:=k
   refine no (by rw[en];decide+kernel) ⟨_,rfl,_,_,_,_,_,rfl,hq,T.gW,T.gq,rfl,rfl,_,rfl,no (by rw[en];decide+kernel) ⟨_,rfl,_,_,_,_,_,rfl,hq,T.gW,T.gq,rfl,rfl,_,rfl,yes en ⟨_,rfl,_,_,_,_,_,rfl,hm,T.jw,T.gT,rfl,_,rfl,_,_,_,_,_,rfl,hq,T.gW,T.oO,rfl,_,_,_,_,rfl,rfl,gC.of hw7,at_of (j:=0) rfl rfl,F,p,O,m,kK z.T,z.B,x0,rfl,bd,rel.ml,KP rel,?_⟩⟩⟩;by_cases c:16<=x0
   .rw[ak c]at k⊢;exact k
   rw[ag c]at k⊢;obtain⟨r,q',w1,w2,w3⟩:=rel.lv x0 (by omega);rw[w1];have w4:=LI w2;unfold wI at k;rw[w4]at k;cases r with
   |none=>
    cases q' with
    |none=>exact k
    |some _=>exact w3.elim
   |some r=>
    cases q' with
    |none=>exact w3.elim
    |some q'=>
     obtain⟨s',w5⟩:=w3;have w6:=w5.at_;have w7:=w5.num;show oH H [0,r.number+1,m.tick - r.begun] Q;rw[w7,rel.tick,show z.x.tick - r.begun=q'.at_ from by omega];exact k
  .have en:i9 n="base":=by rw[e];rfl
   have k:oH H (0::z.x.base) Q:=by rw[e]at k;exact k
   refine no (by rw[en];decide+kernel) ⟨_,rfl,_,_,_,_,_,rfl,hq,T.gW,T.gq,rfl,rfl,_,rfl,no (by rw[en];decide+kernel) ⟨_,rfl,_,_,_,_,_,rfl,hq,T.gW,T.gq,rfl,rfl,_,rfl,no (by rw[en];decide+kernel) ⟨_,rfl,_,_,_,_,_,rfl,hq,T.gW,T.gq,rfl,rfl,_,rfl,yes en ⟨(show 1<=sizeLine by decide),λq0 h0=>?_⟩⟩⟩⟩;have kq:fb [] H (upd H q0 (.lst [.int 0])):=.new h0;refine⟨_,rfl,_,_,_,_,_,rfl,kq.k _ _ hm (by simp),T.jw,T.gT,rfl,_,_,_,_,_,rfl,kq.k _ _ e1 (by simp),T.gG,T.iJ,rfl,sw,m.cols,rfl,gC.of (kq.k _ _ e4 (by simp)),c8,λu H' fu ku hu=>cat ?_ k q0 h0 u H' fu ku ?_⟩
   .rw[rel.bs];exact a7 (bX _ _) (by simp)
   rw[hu,N7 rel]
  have en:i9 n="tick":=by rw[e];rfl
  have k:oH H [0,z.x.tick] Q:=by rw[e]at k;exact k
  refine no (by rw[en];decide+kernel) ⟨_,rfl,_,_,_,_,_,rfl,hq,T.gW,T.gq,rfl,rfl,_,rfl,no (by rw[en];decide+kernel) ⟨_,rfl,_,_,_,_,_,rfl,hq,T.gW,T.gq,rfl,rfl,_,rfl,no (by rw[en];decide+kernel) ⟨_,rfl,_,_,_,_,_,rfl,hq,T.gW,T.gq,rfl,rfl,_,rfl,no (by rw[en];decide+kernel) ?_⟩⟩⟩;refine⟨_,rfl,_,_,_,_,_,rfl,hm,T.jw,T.gT,rfl,_,_,_,_,_,rfl,e1,T.gG,T.iL,rfl,(show 2<=sizeLine by decide),λr hr=>k r _ hr (.new hr) ?_⟩;rw[eV,<-rel.tick];rfl
open LampNeutral (text ordersOf)
def M1(a:ij)(H:Hp)(mp:Addr)(S0 O:List Addr)(st:State)(Q:VK)(E:XK)(c:List (List Int)):Prop:=
 (∀t b,c=[[1],t,b]->lZ a 1 (text t) (text b) [] H mp S0 Q E)/\(∀t b,c=[[2],t,b]->lZ a 2 (text t) (text b) [] H mp S0 Q E)/\
 (∀t b n,c=[[3],t,b,n]->lZ a 3 (text t) (text b) (text n) H mp S0 Q E)/\(∀t b,c=[[4],t,b]->lZ a 4 (text t) (text b) [] H mp S0 Q E)/\
 (c=[[5]]->p9 a 5 0 [] H mp S0 O st Q E)/\(∀n o,c=[[6,n],o]->p9 a 6 n.toNat (ordersOf o) H mp S0 O st Q E)/\
 (∀l,c=[[7,l]]->p9 a 7 l.toNat [] H mp S0 O st Q E)/\(c=[[8]]->p9 a 8 0 [] H mp S0 O st Q E)/\(c=[[9]]->p9 a 9 0 [] H mp S0 O st Q E)
def D9{q:Addr}(h:sD a G q c):∃(n:Nat)(dx wl rl:Addr)(rls:List Addr)(ws:List Int)(rows:List (List Int)),c=((n:Int)::ws)::rows/\1<=n/\n<=9/\G0 n=(ws.length,rows.length)/\G q=some (.ins a.jQ dx (zW (i9 n) wl rl))/\G wl=some (.lst (iV ws))/\G rl=some (.lst (rls.map V.ref))/\ir (λr x=>G r=some (.lst (iV x))) rls rows:=by
 obtain⟨n,ws,rows,dx,wl,rl,rls,h1,h2,h3,h4,h5,h6,h7,h8⟩:=h;exact⟨n,dx,wl,rl,rls,ws,rows,h1,h2,h3,h4,h5,h6,h7,h8⟩
inductive QY(K:Frag)(a:ij)(vs:List V)(H:Hp)(Q:VK)(E:XK):Prop
 |mk:∀(mp q:Addr)(S0 O:List Addr)(st:State)(c:List (List Int)),vs=[.ref mp,.ref q]->wR a H mp S0 O st->sD a H q c->asked1 c=true->M1 a H mp S0 O st Q E c->QY K a vs H Q E
def len0(h:l.length=0):l=[]:=dO.mp h
def QZ(h:l.length=1):∃x,l=[x]:=List.length_eq_one_iff.mp h
theorem S4:∀{l:List α},l.length=2->∃x y,l=[x,y]
 |[x,y],_=>⟨x,y,rfl⟩
theorem Xz:∀{l:List α},l.length=3->∃x y z,l=[x,y,z]
 |[x,y,z],_=>⟨x,y,z,rfl⟩
theorem pR(T:Txt K mg a):gj P w K mg bz (PL a) 14 a.iI ["machine","call"] (QY K a):=by
 refine jx T.qP wN ?_;rintro _ A _ _ H _ _ _ _ hr ⟨mp,q,S0,O,st,c,rfl,X,hc,ha,k⟩
 refine⟨_,eW (fS (fm Ai (gI 1) (iy T.zu) rfl)
   (kY (gy (wm T) hr T.iE (jy (pv 0) (pv 1))))
   fB)
  (kY (gy (Ca T) hr T.jI (jy (pv 0) (pv 1)))),?_⟩
 obtain⟨n,dx,wl,rl,rls,ws,rows,rfl,n1,n9,hs,hq,hw,Cr,all⟩:=D9 hc;obtain⟨dm,v0,hm,_⟩:=X.ob
 have txt:∀{i:Nat}{x:List Int},rows[i]? =some x->x.all (λz=>natural z 8)=true->∃t,rls[i]? =some t/\H t=some (.lst ((text x).map bV)):=λ{i x} hx hn=>by
  obtain⟨t,ht,h⟩:=all.GN hx;exact⟨t,ht,by rw[h,MW hn]⟩
 have Zn:∀{A B:Prop},Ru (.str (i9 n)) [.str "judge",.str "shows",.str "find",.str "begin"]=true->A->if Ru (.str (i9 n)) [.str "judge",.str "shows",.str "find",.str "begin"]=true then A else B:=λe h=>by rw[ak e];exact h
 have YA:∀{A B:Prop},Ru (.str (i9 n)) [.str "judge",.str "shows",.str "find",.str "begin"]=false->B->if Ru (.str (i9 n)) [.str "judge",.str "shows",.str "find",.str "begin"]=true then A else B:=λe h=>by rw[ag (by rw[e];simp)];exact h
 refine⟨_,rfl,_,_,_,_,_,rfl,hq,T.gW,T.gq,rfl,a.um,_,rfl,.inr (T.zw _),rfl,rfl,_,rfl,?_⟩
 match n,n1,n9 with
 |1,_,_=>
  have hs:=hs;obtain⟨h1,h2⟩:=cA hs;have:=len0 h1.symm;subst this;obtain⟨t,b,rfl⟩:=S4 h2.symm;have ha:(t.all (λ(z:Int)=>natural z 8)&&b.all λ(z:Int)=>natural z 8)=true:=ha;rw[aO]at ha;obtain⟨t1,r1,g1⟩:=txt (i:=0) rfl ha.1;obtain⟨t2,r2,g2⟩:=txt (i:=1) rfl ha.2;refine Zn (by decide+kernel) ⟨_,rfl,_,rfl,mp,q,dx,dm,wl,rl,t1,t2,rls,S0,1,_,_,[],v0,rfl,hm,X.sm,X.nt,hq,by decide,by decide,Cr,r1,r2,gC.of g1,gC.of g2,λz=>absurd z (by decide),k.1 _ _ rfl⟩
 |2,_,_=>
  have hs:=hs;obtain⟨h1,h2⟩:=cA hs;have:=len0 h1.symm;subst this;obtain⟨t,b,rfl⟩:=S4 h2.symm;have ha:(t.all (λ(z:Int)=>natural z 8)&&b.all λ(z:Int)=>natural z 8)=true:=ha;rw[aO]at ha;obtain⟨t1,r1,g1⟩:=txt (i:=0) rfl ha.1;obtain⟨t2,r2,g2⟩:=txt (i:=1) rfl ha.2;refine Zn (by decide+kernel) ⟨_,rfl,_,rfl,mp,q,dx,dm,wl,rl,t1,t2,rls,S0,2,_,_,[],v0,rfl,hm,X.sm,X.nt,hq,by decide,by decide,Cr,r1,r2,gC.of g1,gC.of g2,λz=>absurd z (by decide),k.2.1 _ _ rfl⟩
 |3,_,_=>
  have hs:=hs;obtain⟨h1,h2⟩:=cA hs;have:=len0 h1.symm;subst this;obtain⟨t,b,m,rfl⟩:=Xz h2.symm;have ha:(t.all (λ(z:Int)=>natural z 8)&&(b.all (λ(z:Int)=>natural z 8)&&m.all λ(z:Int)=>natural z 8))=true:=ha;rw[aO,aO]at ha;obtain⟨t1,r1,g1⟩:=txt (i:=0) rfl ha.1;obtain⟨t2,r2,g2⟩:=txt (i:=1) rfl ha.2.1;refine Zn (by decide+kernel) ⟨_,rfl,_,rfl,mp,q,dx,dm,wl,rl,t1,t2,rls,S0,3,_,_,text m,v0,rfl,hm,X.sm,X.nt,hq,by decide,by decide,Cr,r1,r2,gC.of g1,gC.of g2,λ_=>txt rfl ha.2.2,k.2.2.1 _ _ _ rfl⟩
 |4,_,_=>
  have hs:=hs;obtain⟨h1,h2⟩:=cA hs;have:=len0 h1.symm;subst this;obtain⟨t,b,rfl⟩:=S4 h2.symm;have ha:(t.all (λ(z:Int)=>natural z 8)&&b.all λ(z:Int)=>natural z 8)=true:=ha;rw[aO]at ha;obtain⟨t1,r1,g1⟩:=txt (i:=0) rfl ha.1;obtain⟨t2,r2,g2⟩:=txt (i:=1) rfl ha.2;refine Zn (by decide+kernel) ⟨_,rfl,_,rfl,mp,q,dx,dm,wl,rl,t1,t2,rls,S0,4,_,_,[],v0,rfl,hm,X.sm,X.nt,hq,by decide,by decide,Cr,r1,r2,gC.of g1,gC.of g2,λz=>absurd z (by decide),k.2.2.2.1 _ _ rfl⟩
 |5,_,_=>
  have hs:=hs;obtain⟨h1,h2⟩:=cA hs;have:=len0 h1.symm;subst this;have:=len0 h2.symm;subst this;exact YA (by decide+kernel) ⟨_,rfl,_,rfl,mp,q,dx,wl,rl,rls,S0,O,st,5,0,[],rfl,X,hq,by decide,by decide,Cr,λz=>absurd z (by decide),λz=>absurd z (by decide),k.2.2.2.2.1 rfl⟩
 |6,_,_=>
  have hs:=hs;obtain⟨h1,h2⟩:=cA hs;obtain⟨x,rfl⟩:=QZ h1.symm;obtain⟨o,rfl⟩:=QZ h2.symm;have ha:(whole32 x&&(o.all whole32&&o.length % 4==0))=true:=ha;rw[aO,aO]at ha;have e1:=wH ha.1;refine YA (by decide+kernel) ⟨_,rfl,_,rfl,mp,q,dx,wl,rl,rls,S0,O,st,6,x.toNat,ordersOf o,rfl,X,hq,by decide,by decide,Cr,λ_=>?_,λ_=>?_,k.2.2.2.2.2.1 _ _ rfl⟩
  .rw[hw,<-e1];rfl
  obtain⟨t,ht,h⟩:=all.GN (i:=0) rfl;refine⟨t,ht,gC.of ?_⟩;rw[h,Jp ha.2.1 (by simpa using ha.2.2)]
 |7,_,_=>
  have hs:=hs;obtain⟨h1,h2⟩:=cA hs;obtain⟨x,rfl⟩:=QZ h1.symm;have:=len0 h2.symm;subst this;have ha:=ha;have e1:=wH ha;refine YA (by decide+kernel) ⟨_,rfl,_,rfl,mp,q,dx,wl,rl,rls,S0,O,st,7,x.toNat,[],rfl,X,hq,by decide,by decide,Cr,λ_=>?_,λz=>absurd z (by decide),k.2.2.2.2.2.2.1 _ rfl⟩;rw[hw,<-e1];rfl
 |8,_,_=>
  have hs:=hs;obtain⟨h1,h2⟩:=cA hs;have:=len0 h1.symm;subst this;have:=len0 h2.symm;subst this;exact YA (by decide+kernel) ⟨_,rfl,_,rfl,mp,q,dx,wl,rl,rls,S0,O,st,8,0,[],rfl,X,hq,by decide,by decide,Cr,λz=>absurd z (by decide),λz=>absurd z (by decide),k.2.2.2.2.2.2.2.1 rfl⟩
 |9,_,_=>
  have hs:=hs;obtain⟨h1,h2⟩:=cA hs;have:=len0 h1.symm;subst this;have:=len0 h2.symm;subst this;exact YA (by decide+kernel) ⟨_,rfl,_,rfl,mp,q,dx,wl,rl,rls,S0,O,st,9,0,[],rfl,X,hq,by decide,by decide,Cr,λz=>absurd z (by decide),λz=>absurd z (by decide),k.2.2.2.2.2.2.2.2 rfl⟩
def wJ(a:ij)(H:Hp)(mp:Addr)(S0 O:List Addr)(st:State)(c:List (List Int))(Q:VK):Prop:=∀r H' O',(r∈O\/H r=none)->H' r=some (.lst (iV (LampNeutral.step st c).2))->fb (mp::O) H H'->(∀x∈O',x∈O\/H x=none)->wR a H' mp S0 O' (LampNeutral.step st c).1->(LampNeutral.step st c).2.length<=40000->Q (.ref r) H'
inductive Uh(K:Frag)(a:ij)(vs:List V)(H:Hp)(Q:VK)(E:XK):Prop
 |mk:∀(mp q:Addr)(S0 O:List Addr)(st:State)(c:List (List Int)),vs=[.ref mp,.ref q]->wR a H mp S0 O st->sD a H q c->q∉mp::O->asked1 c=true->wJ a H mp S0 O st c Q->Uh K a vs H Q E
def KQ(Q:VK)(H':Hp)(l:List Int):Prop:=∀r,H' r=none->Q (.ref r) (upd H' r (.lst (iV l)))
def Q0(l:List Nat):iV (l.map λ(n:Nat)=>(n:Int))=nV l:=by unfold iV nV;rw[cG];rfl
noncomputable def Q2(c:List (List Int)):Bool:=match c with
 |(n::_)::_=>decide (n=1)||decide (n=4)
 |_=>false
def S5{H:Hp}{mp:Addr}{S0 O:List Addr}{st:State}{c:List (List Int)}{Q:VK}{E':XK}(X:wR a H mp S0 O st)(k:wJ a H mp S0 O st c Q)
  (e1:∀H',KQ Q H' [-1]->E' (.ref a.gh) none H') (e2:∀H',KQ Q H' [-2]->E' (.ref a.gL) none H') (e3:∀H',KQ Q H' [-4]->E' (.ref a.fY) none H')
  (e4:∀dx H' f,fb [] H H'->H' dx=some (xF f dx)->KQ Q H' (if Q2 c=true then [-6,(f.kind:Int),(f.place:Int)]else [-6])->E' (.ref a.gJ) (some dx) H')
  (e5:∀H',KQ Q H' [-8]->E' (.ref a.gE) none H') (e6:∀H',KQ Q H' [-10]->E' (.ref a.gR) none H'):M1 a H mp S0 O st Q E' c:=by
 have same:∀{l:List Int}{H'},LampNeutral.step st c=(st,l)->l.length<=40000->fb [] H H'->KQ Q H' l:=λ{l H'} es hl kk r hr=>by
  unfold wJ at k;rw[es]at k;exact k r _ O (.inr (kk.fresh hr)) eV ((kk.mono (by simp)).trans (.new hr)) (λ_ h=>.inl h) (X.keep (kk.trans (.new hr))) hl
 have Jz:∀{l:List Nat},LampNeutral.step st c=(st,l.map λ(n:Nat)=>(n:Int))->l.length<=40000->oH H l Q:=λ{l} es hl r H' hr kk e=>by
  unfold wJ at k;rw[es]at k;exact k r H' O (.inr hr) (by rw[e,Q0]) (kk.mono (by simp)) (λ_ h=>.inl h) (X.keep kk) (by rw[aw];exact hl)
 have l1:∀z:Int,([z]:List Int).length<=40000:=λz=>by show 1<=40000;decide
 refine⟨?_,?_,?_,?_,?_,?_,?_,?_,?_⟩
 .rintro t b rfl;have es:LampNeutral.step st [[1],t,b]=(st,(ofBook (text t) (text b) (says (-8)) (λ_ _=>says 0) faulty).code::(ofBook (text t) (text b) (says (-8)) (λ_ _=>says 0) faulty).nums):=rfl;unfold ofBook at es;unfold lZ;by_cases c:16384<(text t).length\/65536<(text b).length
  .rw[ak (show TEXT<_\/BOOKTEXT<_ from c)]at es;rw[ak c];exact e2 H (same es (l1 _) .refl)
  rw[ag (show¬(TEXT<_\/BOOKTEXT<_)from c)]at es;rw[ag c];cases hT:Tilt.readTable (text t)with
  |error f=>rw[hT]at es;exact λH' kk=>e5 H' (same es (l1 _) kk)
  |ok TT=>
   rw[hT]at es;show match TT.readBook (text b)with|.error f=>_|.ok B=>_
   have es:LampNeutral.step st [[1],t,b]=(st,(match TT.readBook (text b)with|.error e=>faulty e|.ok B=>says 0).code::(match TT.readBook (text b)with|.error e=>faulty e|.ok B=>says 0).nums):=es;cases hB:TT.readBook (text b)with
   |error f=>rw[hB]at es;exact λdx H' kk e=>e4 dx H' f kk e (same es (by show 3<=40000;decide) kk)
   |ok B=>rw[hB]at es;exact λtb=>Jz (l:=[0]) es (by decide)
 .rintro t b rfl;have es:LampNeutral.step st [[2],t,b]=(st,(ofBook (text t) (text b) (says (-8)) (λ_ B=>tells (B.length::B.flatMap showNums)) λ_=>says (-6)).code::(ofBook (text t) (text b) (says (-8)) (λ_ B=>tells (B.length::B.flatMap showNums)) λ_=>says (-6)).nums):=rfl;unfold ofBook at es;unfold lZ;by_cases c:16384<(text t).length\/65536<(text b).length
  .rw[ak (show TEXT<_\/BOOKTEXT<_ from c)]at es;rw[ak c];exact e2 H (same es (l1 _) .refl)
  rw[ag (show¬(TEXT<_\/BOOKTEXT<_)from c)]at es;rw[ag c];cases hT:Tilt.readTable (text t)with
  |error f=>rw[hT]at es;exact λH' kk=>e5 H' (same es (l1 _) kk)
  |ok TT=>
   rw[hT]at es;show match TT.readBook (text b)with|.error f=>_|.ok B=>_
   have es:LampNeutral.step st [[2],t,b]=(st,(match TT.readBook (text b)with|.error e=>says (-6)|.ok B=>tells (B.length::B.flatMap showNums)).code::(match TT.readBook (text b)with|.error e=>says (-6)|.ok B=>tells (B.length::B.flatMap showNums)).nums):=es;cases hB:TT.readBook (text b)with
   |error f=>rw[hB]at es;exact λdx H' kk e=>e4 dx H' f kk e (same es (l1 _) kk)
   |ok B=>
    rw[hB]at es;exact λtb=>Jz (l:=0::B.length::B.flatMap showNums) es (by have:=G3 tb.small;simp only[aF];omega)
 .rintro t b n rfl;have es:LampNeutral.step st [[3],t,b,n]=(st,(ofBook (text t) (text b) (says (-8)) (λ_ B=>match pQ B (text n)with|some i=>tells [i]|none=>says (-4)) λ_=>says (-6)).code::(ofBook (text t) (text b) (says (-8)) (λ_ B=>match pQ B (text n)with|some i=>tells [i]|none=>says (-4)) λ_=>says (-6)).nums):=rfl;unfold ofBook at es;unfold lZ;by_cases c:16384<(text t).length\/65536<(text b).length
  .rw[ak (show TEXT<_\/BOOKTEXT<_ from c)]at es;rw[ak c];exact e2 H (same es (l1 _) .refl)
  rw[ag (show¬(TEXT<_\/BOOKTEXT<_)from c)]at es;rw[ag c];cases hT:Tilt.readTable (text t)with
  |error f=>rw[hT]at es;exact λH' kk=>e5 H' (same es (l1 _) kk)
  |ok TT=>
   rw[hT]at es;show match TT.readBook (text b)with|.error f=>_|.ok B=>_
   have es:LampNeutral.step st [[3],t,b,n]=(st,(match TT.readBook (text b)with|.error e=>says (-6)|.ok B=>match pQ B (text n)with|some i=>tells [i]|none=>says (-4)).code::(match TT.readBook (text b)with|.error e=>says (-6)|.ok B=>match pQ B (text n)with|some i=>tells [i]|none=>says (-4)).nums):=es;cases hB:TT.readBook (text b)with
   |error f=>rw[hB]at es;exact λdx H' kk e=>e4 dx H' f kk e (same es (l1 _) kk)
   |ok B=>
    rw[hB]at es;intro tb;have es:LampNeutral.step st [[3],t,b,n]=(st,(match pQ B (text n)with|some i=>tells [i]|none=>says (-4)).code::(match pQ B (text n)with|some i=>tells [i]|none=>says (-4)).nums):=es;show match pQ B (text n)with|some i=>oH H [0,i] Q|none=>∀H',fb [] H H'->E' (.ref a.fY) none H'
    cases hf:pQ B (text n)with
    |some i=>rw[hf]at es;exact Jz (l:=[0,i]) es (by show 2<=40000;decide)
    |none=>rw[hf]at es;exact λH' kk=>e3 H' (same es (l1 _) kk)
 .rintro t b rfl;have es:LampNeutral.step st [[4],t,b]=((TiltLampCalls.step st (.begin_ (text t) (text b))).1,(TiltLampCalls.step st (.begin_ (text t) (text b))).2.code::(TiltLampCalls.step st (.begin_ (text t) (text b))).2.nums):=rfl
  have eb:TiltLampCalls.step st (.begin_ (text t) (text b))=if TEXT<(text t).length\/BOOKTEXT<(text b).length then(st,says (-2))else(match Tilt.readTable (text t)with
   |.error _=>(st,says (-8))
   |.ok T=>match T.readBook (text b)with
    |.error e=>(st,faulty e)
    |.ok B=>(some ⟨T,B,Tilt.lightBegun⟩,says 0)):=rfl
  unfold lZ;by_cases c:16384<(text t).length\/65536<(text b).length
  .rw[ak (show TEXT<_\/BOOKTEXT<_ from c)]at eb;rw[eb]at es;rw[ak c];exact e2 H (same es (l1 _) .refl)
  rw[ag (show¬(TEXT<_\/BOOKTEXT<_)from c)]at eb;rw[ag c];cases hT:Tilt.readTable (text t)with
  |error f=>rw[hT]at eb;rw[eb]at es;exact λH' kk=>e5 H' (same es (l1 _) kk)
  |ok TT=>
   rw[hT]at eb;show match TT.readBook (text b)with|.error f=>_|.ok B=>_
   have eb:TiltLampCalls.step st (.begin_ (text t) (text b))=match TT.readBook (text b)with|.error e=>(st,faulty e)|.ok B=>(some ⟨TT,B,Tilt.lightBegun⟩,says 0):=eb
   cases hB:TT.readBook (text b)with
   |error f=>rw[hB]at eb;rw[eb]at es;exact λdx H' kk e=>e4 dx H' f kk e (same es (by show 3<=40000;decide) kk)
   |ok B=>
    rw[hB]at eb;rw[eb]at es;intro tb r H' O' hr kk fO mx e;unfold wJ at k;rw[es]at k;exact k r H' O' (.inr hr) e (kk.mono (by simp)) (λx hx=>.inr (fO x hx)) mx (l1 _)
 .rintro rfl;cases st with
  |none=>exact e6 H (same rfl (l1 _) .refl)
  |some z=>
   refine Jz (l:=0::TiltLampCalls.litNow z) rfl ?_;rw[aF];have:(TiltLampCalls.litNow z).length<=64:=a7 (bX _ _) (by simp[Tilt.PLACES]);omega
 .rintro n o rfl;cases st with
  |none=>exact e6 H (same rfl (l1 _) .refl)
  |some z=>
   have es:LampNeutral.step (some z) [[6,n],o]=((TiltLampCalls.step (some z) (.ticks n.toNat (ordersOf o))).1,(TiltLampCalls.step (some z) (.ticks n.toNat (ordersOf o))).2.code::(TiltLampCalls.step (some z) (.ticks n.toNat (ordersOf o))).2.nums):=rfl
   have eb:TiltLampCalls.step (some z) (.ticks n.toNat (ordersOf o))=if LOOKED<n.toNat\/LOOKED<(ordersOf o).length then(some z,says (-2))else if Tilt.glowsRight z.T z.B n.toNat (ordersOf o)=false then(some z,says (-1))else
    (some {z with x:=(z.T.glows z.B (ordersOf o) 0 n.toNat z.x).1},tells (ticksNums (z.T.glows z.B (ordersOf o) 0 n.toNat z.x).2.1 (z.T.glows z.B (ordersOf o) 0 n.toNat z.x).2.2)):=rfl
   show if 4096<n.toNat\/4096<(ordersOf o).length then _ else _
   by_cases c:4096<n.toNat\/4096<(ordersOf o).length
   .rw[ak (show LOOKED<_\/LOOKED<_ from c)]at eb;rw[eb]at es;rw[ak c];exact e2 H (same es (l1 _) .refl)
   rw[ag (show¬(LOOKED<_\/LOOKED<_)from c)]at eb;rw[ag c];by_cases g:Tilt.glowsRight z.T z.B n.toNat (ordersOf o)=true
   .rw[ag (by rw[g];simp)]at eb;rw[eb]at es;rw[ak g];intro r H' O' hr kk sO mx e hl;unfold wJ at k;rw[es]at k;refine k r H' O' hr ?_ (kk.mono λx hx=>aC _ hx) sO mx ?_
    .rw[e];show some (HO.lst (nV (0::ticksNums (z.T.glows z.B (ordersOf o) 0 n.toNat z.x).2.1 (z.T.glows z.B (ordersOf o) 0 n.toNat z.x).2.2)))=some (HO.lst (iV ((0::ticksNums (z.T.glows z.B (ordersOf o) 0 n.toNat z.x).2.1 (z.T.glows z.B (ordersOf o) 0 n.toNat z.x).2.2).map λ(n:Nat)=>(n:Int))));rw[Q0]
    show((ticksNums (z.T.glows z.B (ordersOf o) 0 n.toNat z.x).2.1 (z.T.glows z.B (ordersOf o) 0 n.toNat z.x).2.2).map λ(n:Nat)=>(n:Int)).length+1<=40000;rw[aw];omega
   rw[ak (by simpa using g)]at eb;rw[eb]at es;rw[ag g];exact λH' kk=>e1 H' (same es (l1 _) kk)
 .rintro n rfl;cases st with
  |none=>exact e6 H (same rfl (l1 _) .refl)
  |some z=>
   have es:LampNeutral.step (some z) [[7,n]]=(some z,(if LEVELS<=n.toNat then says (-1)else match z.x.level n.toNat with|none=>tells [0,0]|some r=>tells [r.show_+1,r.at_]).code::(if LEVELS<=n.toNat then says (-1)else match z.x.level n.toNat with|none=>tells [0,0]|some r=>tells [r.show_+1,r.at_]).nums):=rfl;show if 16<=n.toNat then _ else _
   by_cases c:16<=n.toNat
   .rw[ak (show LEVELS<=_ from c)]at es;rw[ak c];exact e1 H (same es (l1 _) .refl)
   rw[ag (show¬LEVELS<=_ from c)]at es;rw[ag c];unfold wI;cases hl:z.x.level n.toNat with
   |none=>rw[hl]at es;exact Jz (l:=[0,0,0]) es (by show 3<=40000;decide)
   |some r=>rw[hl]at es;exact Jz (l:=[0,r.show_+1,r.at_]) es (by show 3<=40000;decide)
 .rintro rfl;cases st with
  |none=>exact e6 H (same rfl (l1 _) .refl)
  |some z=>
   obtain⟨dx,v,h1,p,F,m,h2,h3,rel,h4⟩:=X.ob;refine Jz (l:=0::z.x.base) rfl ?_;rw[aF]
   have:z.x.base.length<=64:=by
    rw[rel.bs];exact a7 (bX _ _) (by simp)
   omega
 rintro rfl;cases st with
 |none=>exact e6 H (same rfl (l1 _) .refl)
 |some z=>exact Jz (l:=[0,z.x.tick]) rfl (by show 2<=40000;decide)
def Ou(T:Txt K mg a):gj P w K mg bz (PL a) 15 a.qA ["machine","call"] (Uh K a):=by
 refine jx T.Iu Fj ?_;rintro cdv A outer s H vs _ E _ hr ⟨mp,q,S0,O,st,c,rfl,X,hc,nq,ha,k⟩;obtain⟨fd,Fk,Yv⟩:=(pR (P:=P) (w:=w) (bz:=bz) T).ex;obtain⟨N1,c1,_⟩:=T.vU;obtain⟨N2,c2,_⟩:=T.ye;obtain⟨N3,c3,_⟩:=T.sx;obtain⟨N4,c4,m1,m2,m3,m4⟩:=T.yf;obtain⟨N5,c5,_⟩:=T.vV;obtain⟨N6,c6,_⟩:=T.vW;have rz:Rz (PL a) (nS (vd P w (PL a)) P w K mg bz ["machine","call","fault"] "answer" (eZ Du) a.qA cdv A outer s H E) E:=Ao
 refine⟨_,ff (J5 λpins D=>ff (tW (C3 (pl:=PL a) (J4 ⟨rfl,rfl⟩
  (yM (tb:=λ_=>BZ (Hm (kL (tC (.int (-1))) o8))) (x:="NotRight") c1 rfl T.gh (λ_ _=>ff (tW (gO (iF (iy T.Bu)))))
  (yM (tb:=λ_=>BZ (Hm (kL (tC (.int (-2))) o8))) (x:="TooMuch") c2 rfl T.gL (λ_ _=>ff (tW (gO (iF (iy T.DD)))))
  (yM (tb:=λ_=>BZ (Hm (kL (tC (.int (-4))) o8))) (x:="NoSuchShow") c3 rfl T.fY (λ_ _=>ff (tW (gO (iF (iy T.vO)))))
  (Pp (tb:=λx od=>gP (OJ (Lc (K5 (WS K false) (wK K (jk 1) "name") (tC (.ref a.lR)))) (BZ (Hm (kL (tC (.int (-6))) (kL (HK x od (jk 2) "kind") (kL (HK x od (jk 2) "place") o8))))) Hh) (BZ (Hm (kL (tC (.int (-6))) o8)))) (x:="BadBook") (i:=2) (n:="fault") c4 rfl T.gJ Fj.nd rfl rfl
   (λx oe vs g1 g2 g3=>eW (fS (fm Ai (gI 1) (iy T.tF) rfl) (kY (gO (Ab (iy T.yd) (Cf c4 m3 m4 m1 (by rfl) g1 g2 (pv 2) rfl) (Cf c4 m3 m4 m2 (by rfl) g1 g2 (pv 2) rfl)))) fB) (kY (gO (iF (iy T.yd)))))
  (yM (tb:=λ_=>BZ (Hm (kL (tC (.int (-8))) o8))) (x:="BadTable") c5 rfl T.gE (λ_ _=>ff (tW (gO (iF (iy T.Bv)))))
  (yM (tb:=λ_=>BZ (Hm (kL (tC (.int (-10))) o8))) (x:="NotBegun") c6 rfl T.gR (λ_ _=>ff (tW (gO (iF (iy T.Bw)))))
  (J3 (E:=E) rz) λ_=>hr.hd) λ_=>hr.hd) λ_=>hr.hd) λ_=>hr.hd) λ_=>hr.hd) λ_=>hr.hd))
  Fk (hr.mono (by decide)) rfl T.iI (pR (P:=P) (w:=w) (bz:=bz) T).kp Yv (jy (pv 0) (pv 1))))),?_⟩
 refine⟨_,rfl,_,rfl,mp,q,S0,O,st,c,rfl,X,hc,ha,?_⟩;have s1:1<=sizeLine:=by decide
 refine S5 X k (λH' h=>⟨a.gh,N1,rfl,c1,Ue rfl ⟨s1,h⟩⟩) (λH' h=>⟨a.gL,N2,rfl,c2,KL T.pK (Ue rfl ⟨s1,h⟩)⟩) (λH' h=>⟨a.fY,N3,rfl,c3,KL T.nF (KL T.nZ (Ue rfl ⟨s1,h⟩))⟩)
  (λdx H' f kk e h=>⟨a.gJ,N4,rfl,c4,KL T.pL (KL T.qQ (KL T.n6 (Ue rfl λx hx=>?_)))⟩)
  (λH' h=>⟨a.gE,N5,rfl,c5,KL T.o5 (KL T.pM (KL T.nG (KL T.pN (Ue rfl ⟨s1,h⟩))))⟩) (λH' h=>⟨a.gR,N6,rfl,c6,KL T.o6 (KL T.pO (KL T.nH (KL T.pP (KL T.o7 (Ue rfl ⟨s1,h⟩)))))⟩)
 obtain⟨n,dxq,wl,rl,rls,ws,rows,rfl,n1,n9,hs,hq,hw,Cr,all⟩:=D9 hc;have Ju:=kk.k _ _ hq (by simp)
 have tl:Q2 (((n:Int)::ws)::rows)=(decide (n=1)||decide (n=4)):=by
  show(decide ((n:Int)=1)||decide ((n:Int)=4))=_;congr 1
  .rw[a6];omega
  rw[a6];omega
 rw[tl]at h
 have ein:Ru (.str (i9 n)) [.str "judge",.str "begin"]=(decide (n=1)||decide (n=4)):=by
  match n,n1,n9 with
  |1,_,_=>decide+kernel
  |2,_,_=>decide+kernel
  |3,_,_=>decide+kernel
  |4,_,_=>decide+kernel
  |5,_,_=>decide+kernel
  |6,_,_=>decide+kernel
  |7,_,_=>decide+kernel
  |8,_,_=>decide+kernel
  |9,_,_=>decide+kernel
 refine⟨_,rfl,_,_,_,_,_,rfl,Ju,T.gW,T.gq,rfl,a.lR,_,rfl,.inr (T.tG _),rfl,rfl,_,rfl,?_⟩;rw[ein];refine fH (λz=>?_) (λz=>?_)
 .have z:(decide (n=1)||decide (n=4))=true:=z;rw[ak z]at h;exact⟨_,rfl,rfl,dx,_,_,rfl,e,rfl,_,rfl,rfl,dx,_,_,rfl,e,rfl,(show 3<=sizeLine by decide),h⟩
 have z:(decide (n=1)||decide (n=4))=false:=z;rw[ag (by rw[z];simp)]at h;exact⟨s1,h⟩
theorem wR.put{a:ij}{H:Hp}{mp x:Addr}{S0 O:List Addr}{st:State}{o:HO}(X:wR a H mp S0 O st)(hx:x∈S0)(ne:x≠mp)(nt:∀xs,o≠.tup xs):wR a (upd H x o) mp S0 O st:=by
 obtain⟨dx,v,h1,h2⟩:=X.ob;obtain⟨o0,e0,n0⟩:=X.nt x hx;have k:fb [x] H (upd H x o):=.put e0 (by simp) n0;refine⟨X.sm,λz hz=>?_,X.nO,dx,v,by rw[eY (aW ne)];exact h1,?_⟩
 .by_cases y:z=x
  .rw[y];exact⟨o,eV,nt⟩
  obtain⟨o',e',n'⟩:=X.nt z hz;exact⟨o',by rw[eY y];exact e',n'⟩
 cases st with
 |none=>exact h2
 |some z=>
  obtain⟨p,F,m,g1,g2,g3,g4,g5⟩:=h2;exact⟨p,F,m,g1,g2.keep k (by intro y hy;simp at hy;rw[hy];exact⟨g5 x hx,X.nO x hx⟩),g3,g4,g5⟩
def Vn(l m:List Int):iV (l++m)=iV l++iV m:=aL ..
def G8(l:List Int):(iV l).length=l.length:=aw ..
inductive AO(K:Frag)(vs:List V)(H:Hp)(Q:VK)(u1:XK):Prop
 |mk:∀(t:Addr)(cs:List (List (List Int))),vs=[.ref t]->gC K H t (iV (PyFlat.put cs))->(∀c∈cs,okCall shape c)->cs.length<=300->(∀c∈cs,asked1 c=true)->(∀r H',fb [] H H'->H' r=some (.lst (iV (told (played LampNeutral.step LampNeutral.start cs))))->Q (.ref r) H')->AO K vs H Q u1
def KR(T:Txt K mg a):gj P w K mg bz (PL a) 16 a.p7 ["calls"] (AO K):=by
 refine jx T.Ft qy ?_;rintro _ _ _ _ H _ _ _ _ hr ⟨t,cs,rfl,ht,gZ,Yr,V1,k⟩
 refine⟨_,eW (fP 1 qy (Xk T.Fp (KN T) hr T.gV))
  (eW (fP 2 qy (gO m8))
  (eW (jN aE rfl (qY (gy (EC T) hr T.lJ (iF (pv 0)))) (ib (i:=3) qy.nd rfl (Or.inl rfl))
   (eW (fP 4 qy (gy (Ou T) hr T.qA (jy (pv 1) (pv 3))))
   (eW (gi (mD aX aI aJ iD (pv 2) (iF (gM T.iA (pv 4)))))
   (ya (mD aX d7 d8 Aj (pv 2) (iF (pv 4)))))))
  (kY (pv 2)))),Kj ?_⟩
 intros;refine λmp dm Yw hdm ndm=>⟨mp,dm,rfl,eV,rfl,?_⟩;rw[gn];have k0:fb [] H (upd (upd H dm (.own mp)) mp (.ins a.gV dm [("board",.hJ)])):=(fb.new hdm).trans (.new (by rw[eY (aW ndm)];exact Yw));refine⟨(show 0<=sizeLine by decide),λan Zo=>?_⟩;have nam:an≠mp:=λz=>by rw[z,eV]at Zo;cases Zo
 have ha0:H an=none:=k0.fresh Zo;have k1:fb [] H (upd (upd (upd H dm (.own mp)) mp (.ins a.gV dm [("board",.hJ)])) an (.lst [])):=k0.trans (.new Zo);have Zb:(upd (upd (upd H dm (.own mp)) mp (.ins a.gV dm [("board",.hJ)])) an (.lst [])) mp=some (.ins a.gV dm [("board",.hJ)]):=by rw[eY nam.symm,eV]
 have ha1:(upd (upd (upd H dm (.own mp)) mp (.ins a.gV dm [("board",.hJ)])) an (.lst [])) an=some (.lst []):=eV;generalize (upd (upd (upd H dm (.own mp)) mp (.ins a.gV dm [("board",.hJ)])) an (.lst []))=H1 at k1 Zb ha1;refine⟨_,rfl,t,cs,rfl,DR ht k1 (by simp),gZ,Yr,λl qs H2 k2 XI all=>?_⟩;generalize hG:nw [] H1 H2=G at XI all;have sG:oj G H2:=by rw[<-hG];exact Xw
 have fG:∀{x},H1 x≠none->G x=none:=λ{x} h=>by
  cases q:G x with
  |none=>rfl
  |some o=>rw[<-hG]at q;exact absurd (GZ q).1 h
 have gm:G mp=none:=fG (by rw[Zb];intro z;cases z);have ga:G an=none:=fG (by rw[ha1];intro z;cases z);have al:=all.len;have big:300*40001+10<sizeLine:=by decide
 have Wm:fb [] H H2:=k1.trans k2;have hm2:=k2.k _ _ Zb (by simp);have Ul:=k2.k _ _ ha1 (by simp)
 refine⟨l,rfl,⟨_,gC.of (sG _ _ XI)⟩,oQ (K:=K) (a:=l) (xs:=qs.map V.ref) (λi σ H'=>∃(O:List Addr)(st:State)(acc:List Int)(v3 v4:Option V),σ=[some (.ref t),some (.ref mp),some (.ref an),v3,v4]/\fb [] H H'/\oj G H'/\wR a H' mp [mp,an] O st/\(∀x∈O,G x=none/\H x=none)/\H' an=some (.lst (iV acc))/\acc.length<=i*40001/\acc++told (played LampNeutral.step st (cs.drop i))=told (played LampNeutral.step LampNeutral.start cs))
  ⟨[],none,[],none,none,rfl,Wm,sG,⟨by simp,λx hx=>?_,λx hx=>by simp,dm,.hJ,hm2,rfl,rfl⟩,λx hx=>by simp at hx,Ul,bu _,rfl⟩ (λi σ H' _ z=>?_) ?_ ?_⟩
 .simp at hx;rcases hx with y|y
  .rw[y];exact⟨_,hm2,lC⟩
  rw[y];exact⟨_,Ul,gS⟩
 .obtain⟨_,_,_,_,_,_,_,z,_⟩:=z;exact gC.of (z _ _ XI)
 .rintro i x σ H3 hi ⟨O,st,acc,v3,v4,rfl,k3,s3,X3,fO,Um,hlen,heq⟩;rw[aK]at hi;cases Cs:qs[i]? with
  |none=>rw[Cs]at hi;cases hi
  |some q=>
   rw[Cs]at hi;have Ha:=ao hi;subst Ha;obtain⟨c,hc,hC⟩:=all.getL Cs;have il:=(ay.mp hc).1
   have Ef:cs.drop i=c::cs.drop (i+1):=by
    rw[bY il];have:=(ay.mp hc).2;rw[this]
   have qG:G q≠none:=by
    obtain⟨n,ws,rows,dx,wl,rl,rls,_,_,_,_,w5,_⟩:=hC;rw[w5];intro z;cases z
   have qn:q∉mp::O:=λz=>by
    rcases aA.mp z with y|y
    .rw[y]at qG;exact qG gm
    exact qG (fO q y).1
   have anO:an∉O:=X3.nO an (by simp);refine⟨_,rfl,_,rfl,mp,q,[mp,an],O,st,c,rfl,X3,hC.same s3,qn,V1 c (aR hc),λr H4 O4 hr h4 k4 sO X4 Yi=>?_⟩;rw[Ef]at heq;have heq:acc++(((LampNeutral.step st c).2.length:Int)::(LampNeutral.step st c).2++told (played LampNeutral.step (LampNeutral.step st c).1 (cs.drop (i+1))))=told (played LampNeutral.step LampNeutral.start cs):=heq;generalize (LampNeutral.step st c).2=ans at h4 Yi heq;generalize (LampNeutral.step st c).1=YR at X4 heq
   have ra:r≠an:=λz=>by
    rcases hr with y|y
    .exact anO (z▸y)
    rw[z,Um]at y;cases y
   have Ys:H4 an=some (.lst (iV acc)):=k4.k _ _ Um (by
    intro z;rcases aA.mp z with y|y
    .exact nam y
    exact anO y)
   have il2:i+1<=300:=by omega
   have hi4:i*40001<=299*40001:=bW _ (by omega);refine⟨_,rfl,.inl ⟨rfl,_,gC.of Ys⟩,_,rfl,_,_,rfl,.inl (gC.of h4),an,_,_,rfl,rfl,Ys,by rw[G8];omega,?_⟩;have h5:(upd H4 an (.lst (iV acc++[.int ((iV ans).length:Int)]))) r=some (.lst (iV ans)):=by rw[eY ra];exact h4
   refine⟨_,rfl,.inl ⟨rfl,_,gC.of eV⟩,_,rfl,an,r,_,_,rfl,rfl,eV,h5,?_,?_⟩
   .rw[aq,G8,G8];simp only[aF,da];omega
   rw[gn]
   have k34:fb [] H H4:=⟨λx o e _=>k4.k x o (k3.k x o e (by simp)) λz=>(by
    rcases aA.mp z with y|y
    .rw[y,Yw]at e;cases e
    rw[(fO x y).2]at e;cases e),λx xs e=>k4.t _ _ (k3.t _ _ e)⟩
   have kA:∀o,fb [an] H4 (upd H4 an o):=λo=>.put Ys (by simp) gS;refine⟨O4,YR,acc++((ans.length:Int)::ans),some (.ref q),some (.ref r),rfl,?_,?_,X4.put (by simp) nam gS,λx hx=>?_,?_,?_,?_⟩
   .exact(k34.wk (kA _) λx hx=>by simp at hx;rw[hx];exact .inr ha0)
   .intro x o e;rw[eY λz=>by rw[z,ga]at e;cases e]
    exact k4.k x o (s3 _ _ e) λz=>by
     rcases aA.mp z with y|y
     .rw[y,gm]at e;cases e
     rw[(fO x y).1]at e;cases e
   .rcases sO x hx with y|y
    .exact fO x y
    refine⟨?_,?_⟩
    .cases w1:G x with
     |none=>rfl
     |some o=>rw[s3 _ _ w1]at y;cases y
    exact k3.fresh y
   .rw[eV,Vn,G8];show some (HO.lst (iV acc++[V.int (ans.length:Int)]++iV ans))=some (HO.lst (iV acc++(V.int (ans.length:Int)::iV ans)));rw[a0];rfl
   .rw[aq,aF,succ_mul];omega
   rw[a0];exact heq
 rintro σ H3 ⟨O,st,acc,v3,v4,rfl,k3,s3,X3,fO,Um,hlen,heq⟩;rw[aw,al,drop_length]at heq;have heq:acc++[]=told (played LampNeutral.step LampNeutral.start cs):=heq;rw[bK]at heq;exact⟨_,rfl,k an H3 k3 (by rw[Um,heq])⟩
noncomputable def adr:ij:=⟨67,88,163,176,189,202,222,235,248,364,413,434,455,540,568,618,753,22,29,36,43,50,64,85,99,106,113,120,127,132,139,146,160,219,256,263,270,277,284,298,305,312,319,326,333,340,347,354,361,375,382,389,396,410,431,452,466,473,480,487,492,499,506,513,537,551,565,579,586,593,600,615,629,636,643,650,657,664,671,678,685,692,699,706,713,720,727,734,750,764,771,778,785,792,799,806,813,820,827,834,841,848,855,862,869,15,514,601,735,736,515,516,517,518,519,520,521,522,523⟩
def Q3{c:List (List Int)}(h:okCall shape c):PyWqaqcb.whole c=c:=by
 obtain⟨p,a,xs,rfl,e⟩:=h;unfold shape at e
 repeat' split at e
 all_goals (try cases e)
 all_goals
  subst p;obtain⟨h1,h2⟩:=cA (ao e)
  first|(obtain rfl:=len0 h1.symm)|(obtain⟨_,rfl⟩:=QZ h1.symm)
  first|(obtain rfl:=len0 h2.symm)|(obtain⟨_,rfl⟩:=QZ h2.symm)|(obtain⟨_,_,rfl⟩:=S4 h2.symm)|(obtain⟨_,_,_,rfl⟩:=Xz h2.symm)
  rfl
def tail{K:Params->Frag}{as:List Addr}{e:∀Q,as=(K Q).map (·.1)}{q:Program}{loose:List Str}{XP:(Str->Option Value)->Heap->Prop}{d:DefRec}
  (hT:∀{Q:Params}{h:Heap}{mg:Str->Option Value},(K Q).In h->h.Ns mainGlobals mg->Txt (K Q) mg adr) (hwell:LH.rwF.wellSaid=true) (hd:d.params.defaults=[]) (hn:d.name="answers"):
  PySem.W.WalkOS q loose XP (PySem.W.kHook K as e).says LH.rwF d [] (λf vs=>PySem.call f vs):=by
 refine L2.NH (r:=LH.rwF) (k:=16) (K:=K) (CX:=λw=>vd LH.rwF.prog w (PL adr)) (ps:=["calls"]) (sp:=λw=>AO (K w.params)) hwell hd rfl ⟨rfl,by decide,by decide⟩ (λw h Y=>PySem.W.kIn_of Y) ?F ?S (λw H s e s' z=>An z)
 case F=>
  intro w mg fa h Y KX G YS base hb gb;have T:=hT hb gb;rw[hn]at YS;have e:=YS.symm.trans T.p7;cases e;exact(KR T).ex
 case S=>
  intro w H xs a hO XQ V1 hx;cases hx with
  |cons h1 h2=>
   cases h2;cases h1 with
   |lst hs ha=>
    have e:=L2.Lp a.1 _ ha;subst e;have ask:answers_asked a.1=true:=V1;have got:(answers a.1)=PySem.W.Codec.app LH.rwF.args LH.rwF.f a:=rfl;unfold answers_asked at ask;unfold answers at got;unfold PyWqaqcb.calls at ask got;cases c:PyFlat.calls shape a.1.length a.1 with
    |none=>rw[c]at ask;cases ask
    |some cs=>
     rw[c]at ask got;dsimp only at ask got;obtain⟨e1,e2⟩:=PyFlat.put_calls _ _ _ c;have id:cs.map PyWqaqcb.whole=cs:=(List.map_congr_left (g:=id) λx hx=>Q3 (e2 x hx)).trans (List.map_id cs);rw[id]at ask got;obtain⟨a1,a2⟩:=cP.mp ask;refine⟨_,cs,rfl,?_,e2,aj a1,λx hx=>b6.mp (cP.mp a2).2 x hx,λr H' _ hr=>?_⟩
     .rw[<-e1];exact hs
     rw[<-got];exact .lst (L2.gC.of hr) (L2.Lo _)
section
variable{K:Frag}{h:Heap}{mg:Str->Option Value}
noncomputable def isInt(K:Frag)(x:Str)(i:Int):Bool:=match nsIn K mainGlobals x with
 |some (some (.int j _))=>decide (j=i)
 |_=>false
def fV{x:Str}{i:Int}(X:K.In h)(G:h.Ns mainGlobals mg)(e:isInt K x i=true:=by kernel_rfl):GV mg x (.int i):=by
 unfold isInt at e;split at e
 .rename_i j t q;have z:=aj e;subst z;exact⟨_,mg_of X G q,_,rfl⟩
 cases e
def Ea{x:Str}{d:Addr}(X:K.In h)(G:h.Ns mainGlobals mg)(e:nsIn K mainGlobals x=some (some (.ref d)):=by kernel_rfl):GV mg x (.ref d):=⟨_,mg_of X G e,rfl⟩
noncomputable def Vo:V->Value->Bool
 |.int i,.int j _=>decide (i=j)
 |.str x,.str y _=>decide (x=y)
 |_,_=>false
noncomputable def M5:List V->List Value->Bool
 |[],[]=>true
 |v::vs,u::us=>Vo v u&&M5 vs us
 |_,_=>false
theorem Jr:∀{vs:List V}{us:List Value},M5 vs us=true->Vals vs us
 |[],[],_=>.nil
 |v::vs,u::us,e=>by
  obtain⟨e1,e2⟩:=cP.mp (show(Vo v u&&M5 vs us)=true from e);refine .cons ?_ (Jr e2);unfold Vo at e1;split at e1
  .exact⟨_,by rw[aj e1]⟩
  .exact⟨_,by rw[aj e1]⟩
  cases e1
 |[],_::_,e=>by cases e
 |_::_,[],e=>by cases e
noncomputable def XA(K:Frag)(d:Addr)(xs:List V):Bool:=match K.lookup d with
 |some ⟨.type "tuple",_,.seq its _,_⟩=>Nat.ble its.size 100&&M5 xs its.toList
 |_=>false
def oI{d:Addr}{xs:List V}(H:Hp)(e:XA K d xs=true:=by kernel_rfl):m5 K H d xs:=by
 unfold XA at e;split at e
 .rename_i od its n sl q;obtain⟨e1,e2⟩:=cP.mp e;exact .inr ⟨_,its,n,q,rfl,rfl,a7 (Nat.le_of_ble_eq_true e1) (by decide),Jr e2⟩
 cases e
theorem u0{P:List Value->Prop}(h:P []):∀us:List Value,us.length=0->P us
 |[],_=>h
theorem u1{P:List Value->Prop}(h:∀a,P [a]):∀us:List Value,us.length=1->P us
 |[a],_=>h a
theorem u2{P:List Value->Prop}(h:∀a b,P [a,b]):∀us:List Value,us.length=2->P us
 |[a,b],_=>h a b
theorem u3{P:List Value->Prop}(h:∀a b c,P [a,b,c]):∀us:List Value,us.length=3->P us
 |[a,b,c],_=>h a b c
theorem u4{P:List Value->Prop}(h:∀a b c d,P [a,b,c,d]):∀us:List Value,us.length=4->P us
 |[a,b,c,d],_=>h a b c d
theorem u5{P:List Value->Prop}(h:∀a b c d e,P [a,b,c,d,e]):∀us:List Value,us.length=5->P us
 |[a,b,c,d,e],_=>h a b c d e
noncomputable def XB(K:Frag)(f:Addr):Value:=match K.lookup f with
 |some ⟨_,_,.func fd,_⟩=>fd.pyModule
 |_=>.none
def fz{x qual:Str}{st:Stmt}{ps:List Str}{f:Addr}
  (b:∀us:List Value,us.length=ps.length->bindArgs (fnOf x qual (yI st) (pT st) (eZ st) .none .none .none (XB K f) none (.ref (f - 1)) .none) ⟨us,[]⟩=pure (ps.zip us))
  (l:K.lookup f=some ⟨.type "function",none,.func (fnOf x qual (yI st) (pT st) (eZ st) .none .none .none (XB K f) none (.ref (f - 1)) .none),#[]⟩:=by kernel_rfl)
  (c:codeIn K (.ref (f - 1)) qual=true:=by kernel_rfl):Def K x qual st ps f:=
 ⟨_,UZ l c (by simp only[keepIn];rw[l]),λs us _ hl=>by rw[bK]at hl⊢;exact .of_eq (b us hl)⟩
def Ui{x:Str}(X:K.In h)(G:h.Ns mainGlobals mg)(e:nsIn K mainGlobals x=some none:=by kernel_rfl):mg x=none:=mg_none_of X G e
def jA{x:Str}{v:Value}(X:K.In h)(G:h.Ns mainGlobals mg)(e:nsIn K mainGlobals x=some (some v):=by kernel_rfl):mg x=some v:=mg_of X G e
def Rw{C:Addr}(h1:plainGet K C Str.empty=true:=by kernel_rfl)(h2:hasDictIn K C=true:=by kernel_rfl)(h3:plainOver K C=true:=by kernel_rfl)(h4:findIn K (.ref C) "__setattr__"=some (some (.builtin "object.__setattr__")):=by kernel_rfl):CC K C:=⟨h1,h2,h3,h4⟩
def Rx{C f:Addr}(h1:makesIn K C=true:=by kernel_rfl)(h2:findIn K (.ref C) "__init__"=some (some (.ref f)):=by kernel_rfl)(h3:isFn K (.ref f)=true:=by kernel_rfl)(h4:keepIn K (.ref C)=true:=by kernel_rfl):Mk K C f:=⟨h1,h2,h3,h4⟩
def mem{C f:Addr}{m:Str}(h1:findIn K (.ref C) m=some (some (.ref f)):=by kernel_rfl)(h2:isFn K (.ref f)=true:=by kernel_rfl)(h3:keepIn K (.ref f)=true:=by kernel_rfl):Meth K C m f:=⟨h1,h2,h3⟩
def na{C:Addr}{f:Str}(e:findIn K (.ref C) f=some none:=by kernel_rfl):fW K C f:=e
noncomputable def KS(K:Frag)(C:Addr):ClassData:=match K.lookup C with
 |some ⟨_,_,.cls c,_⟩=>c
 |_=>default
noncomputable def Q4(K:Frag)(C i:Nat):Option Value:=match K.lookup C with
 |some ⟨_,_,_,sl⟩=>sl.toList.getD i none
 |_=>none
def uG{C N:Addr}(e:K.lookup C=some (excClassObj (KS K C).name (KS K C).qualname C N (KS K C).bases JY true (KS K C).slotNames (KS K C).subclasses (KS K C).abstract (KS K C).collection none (Q4 K C 0) (Q4 K C 1) (Q4 K C 2) (Q4 K C 3) (Q4 K C 5) "Exception.__new__"):=by kernel_rfl)
  (h2:nsOkIn K N=true:=by kernel_rfl) (h3:nsIn K N "__setattr__"=some none:=by kernel_rfl) (h4:keepIn K (.ref C)=true:=by kernel_rfl):mZ K C N:=⟨⟨_,_,_,_,_,_,_,_,_,_,_,_,_,e⟩,h2,h3,h4⟩
noncomputable def Na:Array DictEntry:= #[⟨1,.int 1 956,.ref 515⟩,⟨2,.int 2 960,.ref 516⟩,⟨3,.int 3 964,.ref 517⟩,⟨4,.int 4 968,.ref 518⟩,⟨5,.int 5 972,.ref 519⟩,⟨6,.int 6 976,.ref 520⟩,⟨7,.int 7 980,.ref 521⟩,⟨8,.int 8 984,.ref 522⟩,⟨9,.int 9 988,.ref 523⟩]
def Q5(e:K.lookup 514=some ⟨.type "dict",none,.dict Na 9,#[]⟩):P6 K adr:=by
 intro P w h X;refine⟨_,⟨_,Na,9,X _ _ e,⟨rfl,rfl,rfl⟩,rfl,?_,λ_=>rfl⟩,λn h1 h2=>?_⟩
 .intro e he;have he:e∈Na.toList:=Array.mem_def.mp he;simp only[Na,mem_cons,not_mem_nil,or_false]at he;rcases he with rfl|rfl|rfl|rfl|rfl|rfl|rfl|rfl|rfl
  .exact⟨.inl 1,rfl,by kernel_rfl⟩
  .exact⟨.inl 2,rfl,by kernel_rfl⟩
  .exact⟨.inl 3,rfl,by kernel_rfl⟩
  .exact⟨.inl 4,rfl,by kernel_rfl⟩
  .exact⟨.inl 5,rfl,by kernel_rfl⟩
  .exact⟨.inl 6,rfl,by kernel_rfl⟩
  .exact⟨.inl 7,rfl,by kernel_rfl⟩
  .exact⟨.inl 8,rfl,by kernel_rfl⟩
  exact⟨.inl 9,rfl,by kernel_rfl⟩
 have:n=1\/n=2\/n=3\/n=4\/n=5\/n=6\/n=7\/n=8\/n=9:=by omega
 rcases this with rfl|rfl|rfl|rfl|rfl|rfl|rfl|rfl|rfl<;>kernel_rfl
end
def abI{Q:Params}{h:Heap}{mg:Str->Option Value}(X:(LH.hd.heap_1 Q).In h)(G:h.Ns mainGlobals mg):Tx0 (LH.hd.heap_1 Q) mg adr where
 iA:=Ui X G
 TN:=Ui X G
 Gx:=Ui X G
 Kk:=Ui X G
 rD:=Ui X G
 DB:=Ui X G
 rE:=Ui X G
 Ir:=Ui X G
 wz:=fV X G
 Gy:=fV X G
 uo:=Ea X G
 pC:=(oI ·)
 qB:=fV X G
 Fl:=fV X G
 uq:=fV X G
 iK:=fV X G
 oN:=fV X G
 wB:=fV X G
 vL:=fV X G
 oB:=fV X G
 zl:=fV X G
 Fm:=fV X G
 AE:=fV X G
 wC:=fV X G
 Bp:=fV X G
 Gz:=fV X G
 P7:=fV X G
 Bq:=fV X G
 Fn:=fV X G
 Fo:=fV X G
 rF:=fV X G
 xn:=fV X G
 zm:=fV X G
 zo:=fV X G
 rG:=fV X G
 LW:=Ea X G
 LY:=(oI ·)
 LZ:=(oI ·)
 L0:=(oI ·)
 L1:=(oI ·)
 L4:=(oI ·)
 L5:=(oI ·)
 L6:=(oI ·)
 L7:=(oI ·)
 L8:=(oI ·)
 uv:=fV X G
 uw:=fV X G
 vM:=fV X G
 ux:=fV X G
 oC:=fV X G
 DC:=fV X G
 qC:=fV X G
 Ck:=Ea X G
 Cm:=(oI ·)
 zp:=fV X G
 uy:=fV X G
 rH:=fV X G
 lX:=fV X G
 rJ:=fV X G
 Br:=fV X G
 Bs:=fV X G
 vN:=fV X G
 Bt:=fV X G
 zq:=fV X G
 rK:=fV X G
 sj:=fV X G
 Bu:=fV X G
 DD:=fV X G
 vO:=fV X G
 yd:=fV X G
 Bv:=fV X G
 Bw:=fV X G
 qE:=fV X G
 rL:=fV X G
 zt:=fV X G
 xp:=fV X G
 zu:=Ea X G
 zw:=(oI ·)
 tF:=Ea X G
 tG:=(oI ·)
 L9:=Q5 (by kernel_rfl)
 mG:=jA X G
 iB:=Rw
 TQ:=Rx
 uz:=na
 mC:=na
 rM:=na
 qF:=na
 lB:=na
 jY:=na
 gz:=jA X G
 gG:=Rw
 Ma:=Rx
 pV:=na
 iL:=na
 iM:=na
 iJ:=na
 eX:=jA X G
 gh:=jA X G
 gL:=jA X G
 fY:=jA X G
 gJ:=jA X G
 gE:=jA X G
 gR:=jA X G
 fj:=jA X G
def abJ{Q:Params}{h:Heap}{mg:Str->Option Value}(X:(LH.hd.heap_1 Q).In h)(G:h.Ns mainGlobals mg):Tx1 (LH.hd.heap_1 Q) mg adr where
 fg:=Rw
 P8:=Rx
 jV:=na
 kC:=na
 oD:=na
 jo:=na
 fK:=na
 iY:=mem
 Kl:=mem
 AF:=mem
 gH:=mem
 rN:=mem
 jZ:=mem
 iT:=mem
 iw:=mem
 zx:=mem
 nv:=jA X G
 ny:=Rw
 Qa:=Rx
 lS:=na
 pW:=na
 qH:=na
 jg:=jA X G
 ie:=Rw
 Qb:=Rx
 mX:=na
 nB:=na
 qI:=na
 pX:=na
 iC:=na
 pj:=jA X G
 pY:=Rw
 Qc:=Rx
 uA:=na
 jW:=na
 jQ:=jA X G
 gW:=Rw
 Qe:=Rx
 gq:=na
 oO:=na
 oW:=na
 kS:=jA X G
 gf:=Rw
 Mb:=Rx
 lU:=na
 gX:=na
 i8:=na
 i6:=na
 fk:=jA X G
 fJ:=Rw
 Mc:=Rx
 sk:=na
 ip:=na
 jv:=na
 kD:=na
 j9:=na
 oP:=na
 nD:=na
 ka:=na
 me:=na
 lV:=na
 jh:=na
 gV:=jA X G
 jw:=Rw
 Fp:=Rx
 gT:=na
 ll:=jA X G
 DE:=fz (u0 rfl)
 mw:=jA X G
 DF:=fz (u2 λ_ _=>rfl)
 kg:=jA X G
 xq:=fz (u2 λ_ _=>rfl)
 jR:=jA X G
 zy:=fz (u1 λ_=>rfl)
 lq:=jA X G
 Bx:=fz (u1 λ_=>rfl)
 vP:=fz (u4 λ_ _ _ _=>rfl)
def abK{Q:Params}{h:Heap}{mg:Str->Option Value}(X:(LH.hd.heap_1 Q).In h)(G:h.Ns mainGlobals mg):Tx2 (LH.hd.heap_1 Q) mg adr where
 tH:=fz (u2 λ_ _=>rfl)
 lH:=jA X G
 zA:=fz (u3 λ_ _ _=>rfl)
 jS:=jA X G
 zB:=fz (u2 λ_ _=>rfl)
 oq:=jA X G
 DG:=fz (u1 λ_=>rfl)
 jb:=jA X G
 tI:=fz (u1 λ_=>rfl)
 iW:=jA X G
 uS:=fz (u2 λ_ _=>rfl)
 lI:=jA X G
 zC:=fz (u1 λ_=>rfl)
 iQ:=jA X G
 rO:=fz (u2 λ_ _=>rfl)
 mH:=jA X G
 By:=fz (u1 λ_=>rfl)
 oX:=fz (u3 λ_ _ _=>rfl)
 qJ:=fz (u3 λ_ _ _=>rfl)
 jE:=jA X G
 Fq:=fz (u1 λ_=>rfl)
 lz:=jA X G
 Bz:=fz (u1 λ_=>rfl)
 my:=jA X G
 DH:=fz (u1 λ_=>rfl)
 p6:=jA X G
 Fs:=fz (u1 λ_=>rfl)
def abL{Q:Params}{h:Heap}{mg:Str->Option Value}(X:(LH.hd.heap_1 Q).In h)(G:h.Ns mainGlobals mg):Tx3 (LH.hd.heap_1 Q) mg adr where
 kh:=jA X G
 xr:=fz (u1 λ_=>rfl)
 uT:=fz (u2 λ_ _=>rfl)
 uU:=fz (u1 λ_=>rfl)
 BA:=fz (u2 λ_ _=>rfl)
 BB:=fz (u1 λ_=>rfl)
 tJ:=fz (u2 λ_ _=>rfl)
 tK:=fz (u1 λ_=>rfl)
 oY:=fz (u2 λ_ _=>rfl)
 nE:=fz (u2 λ_ _=>rfl)
 qK:=fz (u3 λ_ _ _=>rfl)
 xt:=fz (u1 λ_=>rfl)
 ox:=jA X G
 DI:=fz (u2 λ_ _=>rfl)
 km:=jA X G
 xw:=fz (u3 λ_ _ _=>rfl)
 ko:=jA X G
 xx:=fz (u3 λ_ _ _=>rfl)
 jK:=jA X G
 BC:=fz (u2 λ_ _=>rfl)
 uV:=fz (u3 λ_ _ _=>rfl)
 uW:=fz (u4 λ_ _ _ _=>rfl)
def abM{Q:Params}{h:Heap}{mg:Str->Option Value}(X:(LH.hd.heap_1 Q).In h)(G:h.Ns mainGlobals mg):Tx4 (LH.hd.heap_1 Q) mg adr where
 uX:=fz (u3 λ_ _ _=>rfl)
 js:=jA X G
 xy:=fz (u1 λ_=>rfl)
 jL:=jA X G
 BD:=fz (u3 λ_ _ _=>rfl)
 iR:=jA X G
 rP:=fz (u2 λ_ _=>rfl)
 iS:=jA X G
 rQ:=fz (u3 λ_ _ _=>rfl)
 mI:=jA X G
 BE:=fz (u3 λ_ _ _=>rfl)
 mJ:=jA X G
 BF:=fz (u3 λ_ _ _=>rfl)
 jc:=jA X G
 tL:=fz (u3 λ_ _ _=>rfl)
 mK:=jA X G
 BG:=fz (u2 λ_ _=>rfl)
 uY:=fz (u4 λ_ _ _ _=>rfl)
 lJ:=jA X G
 zD:=fz (u1 λ_=>rfl)
 tM:=fz (u5 λ_ _ _ _ _=>rfl)
 kx:=jA X G
 xB:=fz (u1 λ_=>rfl)
 oz:=jA X G
 DJ:=fz (u2 λ_ _=>rfl)
 jF:=jA X G
 vQ:=fz (u3 λ_ _ _=>rfl)
def abN{Q:Params}{h:Heap}{mg:Str->Option Value}(X:(LH.hd.heap_1 Q).In h)(G:h.Ns mainGlobals mg):Tx5 (LH.hd.heap_1 Q) mg adr where
 mL:=jA X G
 BH:=fz (u2 λ_ _=>rfl)
 tN:=fz (u2 λ_ _=>rfl)
 jt:=jA X G
 xC:=fz (u3 λ_ _ _=>rfl)
 iX:=jA X G
 uZ:=fz (u3 λ_ _ _=>rfl)
 jn:=jA X G
 zE:=fz (u3 λ_ _ _=>rfl)
 iG:=jA X G
 tO:=fz (u2 λ_ _=>rfl)
 mM:=jA X G
 BI:=fz (u1 λ_=>rfl)
 ky:=jA X G
 xE:=fz (u2 λ_ _=>rfl)
 mO:=jA X G
 BJ:=fz (u2 λ_ _=>rfl)
 mP:=jA X G
 BK:=fz (u2 λ_ _=>rfl)
 ju:=jA X G
 xG:=fz (u2 λ_ _=>rfl)
 kz:=jA X G
 xH:=fz (u2 λ_ _=>rfl)
 iH:=jA X G
 qL:=fz (u2 λ_ _=>rfl)
 mQ:=jA X G
 BL:=fz (u2 λ_ _=>rfl)
 mR:=jA X G
 BM:=fz (u2 λ_ _=>rfl)
def abO{Q:Params}{h:Heap}{mg:Str->Option Value}(X:(LH.hd.heap_1 Q).In h)(G:h.Ns mainGlobals mg):Tx6 (LH.hd.heap_1 Q) mg adr where
 lK:=jA X G
 zF:=fz (u2 λ_ _=>rfl)
 jG:=jA X G
 vR:=fz (u2 λ_ _=>rfl)
 lM:=jA X G
 zG:=fz (u1 λ_=>rfl)
 qM:=fz (u1 λ_=>rfl)
 ik:=jA X G
 qN:=fz (u1 λ_=>rfl)
 iz:=jA X G
 rR:=fz (u2 λ_ _=>rfl)
 lN:=jA X G
 zH:=fz (u1 λ_=>rfl)
 mT:=jA X G
 BN:=fz (u1 λ_=>rfl)
 mU:=jA X G
 BO:=fz (u1 λ_=>rfl)
 lO:=jA X G
 zI:=fz (u1 λ_=>rfl)
 mV:=jA X G
 BP:=fz (u2 λ_ _=>rfl)
 iE:=jA X G
 pJ:=fz (u2 λ_ _=>rfl)
 lP:=jA X G
 zJ:=fz (u2 λ_ _=>rfl)
 mW:=jA X G
 BQ:=fz (u3 λ_ _ _=>rfl)
 jH:=jA X G
 vS:=fz (u3 λ_ _ _=>rfl)
 lQ:=jA X G
def abP{Q:Params}{h:Heap}{mg:Str->Option Value}(X:(LH.hd.heap_1 Q).In h)(G:h.Ns mainGlobals mg):Tx7 (LH.hd.heap_1 Q) mg adr where
 zK:=fz (u2 λ_ _=>rfl)
 jI:=jA X G
 vT:=fz (u2 λ_ _=>rfl)
 iI:=jA X G
 qP:=fz (u2 λ_ _=>rfl)
 qA:=jA X G
 Iu:=fz (u2 λ_ _=>rfl)
 p7:=jA X G
 Ft:=fz (u1 λ_=>rfl)
 pZ:=⟨162,uG,by kernel_rfl,by kernel_rfl,by kernel_rfl,by kernel_rfl⟩
 uB:=⟨by kernel_rfl,by kernel_rfl⟩
 vU:=⟨175,uG,trivial⟩
 BR:=by kernel_rfl
 ye:=⟨188,uG,trivial⟩
 DK:=by kernel_rfl
 sx:=⟨201,uG,trivial⟩
 xI:=by kernel_rfl
 yf:=⟨221,uG,by kernel_rfl,by kernel_rfl,by kernel_rfl,by kernel_rfl⟩
 yg:=⟨by kernel_rfl,by kernel_rfl⟩
 vV:=⟨234,uG,trivial⟩
 BS:=by kernel_rfl
 vW:=⟨247,uG,trivial⟩
 BU:=by kernel_rfl
 vb:=by decide
 vX:=by decide
 pK:=by decide
 tP:=by decide
 nF:=by decide
 nZ:=by decide
 oZ:=by decide
 pL:=by decide
 qQ:=by decide
 n6:=by decide
 n8:=by decide
 o5:=by decide
 pM:=by decide
 nG:=by decide
 pN:=by decide
 vc:=by decide
 o6:=by decide
 pO:=by decide
 nH:=by decide
 pP:=by decide
 o7:=by decide
def txt{Q:Params}{h:Heap}{mg:Str->Option Value}(X:(LH.hd.heap_1 Q).In h)(G:h.Ns mainGlobals mg):Txt (LH.hd.heap_1 Q) mg adr:=⟨abI X G,abJ X G,abK X G,abL X G,abM X G,abN X G,abO X G,abP X G⟩
end LP
theorem PySem.Challenge.cw_lampshows_s01_answers_holds : PySem.Challenge.rw_lampshows_s01_answers.Holds := by
 rw[LH.rw_eq];exact LH.hd (LP.tail LP.txt (by decide+kernel) rfl rfl)
