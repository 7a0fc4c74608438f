import PyProof.Rows.All
import Wide.All
import OpenK.KLine
import Wide.FinOn
import PyProof.EqAt
import PyProof.EqKinds
import PyProof.TupleCall
import KE.BitLaws
import Open.SpecLaws
import KE.OsHead
import KE.KItem
import KE.KRevIter
import KE.KRevSl
import KE.KMinBuiltin
import KE.KDictSum
import KE.KSortedAny
import PySem.Challenge.RW_signsearch_s06_all_of
set_option Elab.async false
set_option linter.all false
set_option maxRecDepth 100000
namespace PySem.W.Fast
def tw9443083296221388056:=0
def tw14021555245538209631:=0
def tw1102300366335396586:=0
def tw18139859657269234052:=0
def tw8073616214360285867:=0
def tw5011579352280772311:=0
def tw17417592617654205767:=0
def tw3222715587244070996:=0
def tw8140025247931057460:=0
def tw6918478019902977709:=0
def tw3343108426785766684:=0
def tw11736577984059381665:=0
def tw16667804746243761618:=0
def tw17615113311154718830:=0
def tw1694247468531384594:=0
def tw4370073527041721211:=0
def tw11760321709815250562:=0
def tw6643959010543413609:=0
def tw11112799167875622610:=0
def tw2359705211474991983:=0
def tw3121703742309981788:=0
def tw9674976679344866570:=0
def tw9737152841642003772:=0
def tw3314083221323993635:=0
def tw645406656651458495:=0
def tw701842758130226419:=0
def tw12373706559210387872:=0
def tw9281116270273152713:=0
def tw15098305181973423083:=0
def tw17130565930387043074:=0
def tw12948684453782719229:=0
def tw565855605004414511:=0
def tw12165411087642362626:=0
def tw13405544941666138626:=0
def tw9951037017467806880:=0
def tw17528149036481653421:=0
def tw5865512983286130791:=0
def tw18005203134716923165:=0
def tw1594966457539296248:=0
def tw18272699651204608980:=0
def tw3460273868396077013:=0
def tw1207171777045841012:=0
def tw2328030748354442831:=0
def tw15299536187754211418:=0
def tw16337119148155196118:=0
def tw3889290773405084492:=0
def tw15740485594565434067:=0
def tw12005819482082930749:=0
def tw6507533081858133896:=0
def tw12012535018574985213:=0
def tw5704523563459732804:=0
def tw10119867364313108072:=0
def tw5081786152418255001:=0
def tw10817913930125437980:=0
def tw10188503189761223261:=0
def tw15986712542343359663:=0
def tw8288695403200945925:=0
def tw1048099760179381509:=0
def tw4625205168557145588:=0
def tw16523292262187928179:=0
def tw16509306114525882407:=0
def tw164337886076628295:=0
def tw15941948325149222749:=0
def tw12472164973732699487:=0
def tw11651826282631842063:=0
def tw15757157300772543368:=0
def tw5713282700010831906:=0
def tw7419263564161848988:=0
def tw17002353668782666128:=0
def tw7716287414169903398:=0
def tw14985872777008866006:=0
def tw9404654172795803932:=0
def tw5647231887624513515:=0
def tw8394428630927097742:=0
def tw15506001250947724746:=0
def tw7142655205185505653:=0
def tw2888584736726898563:=0
def tw15415160236829243112:=0
def tw325123037584736344:=0
def tw15264398122845886762:=0
def tw15601930311071664007:=0
def tw5655517930974831771:=0
def tw7758456616529434020:=0
def tw14038209086787144962:=0
def tw15059563406414799851:=0
def tw15561609918231776611:=0
def tw18278778018317741986:=0
def tw1007396239175041972:=0
def tw8706036928797873622:=0
def tw17275772624472059517:=0
def tw17592701809407056029:=0
def tw15388745698599331552:=0
def tw17337695910958810421:=0
def tw7372278154919879763:=0
def tw7819621920265727461:=0
def tw9334153792895221484:=0
def tw7443858040445404451:=0
def tw15853613659182120456:=0
def tw18196647684019581758:=0
def tw6632848867525466758:=0
def tw8237140752406863786:=0
def tw12050002848618209150:=0
def tw12044573466324175329:=0
def tw4737264523101346428:=0
def tw11447359116602070476:=0
def tw15317643012779497799:=0
def tw16718948371585653599:=0
def tw5077653550548545182:=0
def tw10614283977302036895:=0
def tw3961447774976969966:=0
def tw583560075951333988:=0
def tw8629343719848051063:=0
def tw5127124484128164242:=0
def tw13582591616096624101:=0
def tw16850493751945915984:=0
def tw14785241277551691984:=0
def tw2674018083182662243:=0
def tw17624823183950854244:=0
def tw802273183209446237:=0
def tw6090154142577855694:=0
def tw496674020065194166:=0
def tw5036864274690103814:=0
def tw5356164604861589711:=0
def tw4173521675991829350:=0
def tw2830142003169962640:=0
def tw17638010047276517142:=0
def tw10570990844125544209:=0
def tw17003704811147632308:=0
def tw11031763650105706933:=0
def tw4412763308611421404:=0
def tw14584812720003693061:=0
def tw17733519561870489738:=0
def tw5198656594374039719:=0
def tw12817434528498862024:=0
def tw15671650556510069677:=0
def tw12401046202230645345:=0
def tw3954709748372392263:=0
def tw3372453954070366786:=0
def tw5289978353879278164:=0
def tw17862190623877471138:=0
def tw3266453224890742900:=0
def tw3973296138657413825:=0
def tw8404313098469019293:=0
def tw13751349679555455580:=0
def tw9828763114294209396:=0
def tw15615096735674568115:=0
def tw17731190793431282726:=0
def tw12073619075391414835:=0
def tw5923110739832875889:=0
def tw15108097267352400194:=0
def tw9199942773438568520:=0
def tw12150249470635271563:=0
def tw7025160038443213892:=0
def tw6428208919392254155:=0
def tw10901260646540317065:=0
def tw16390966490126133233:=0
def tw2060310230481170534:=0
def tw7962174036900096269:=0
def tw2531971871406757698:=0
def tw18417166587443010988:=0
def tw10752592061881986141:=0
def tw14073358018804496877:=0
def tw4368532945309509995:=0
def tw16629784235527541148:=0
def tw7314369708972547503:=0
def tw1185803448752348766:=0
def tw16588517941077998090:=0
def tw15337817709697536862:=0
def tw762082604038892812:=0
def tw14874214545885580152:=0
def tw2417516828056337997:=0
def tw7700257282335480570:=0
def tw15929112238299473381:=0
def tw3793471350872046248:=0
def tw10915573966551061185:=0
def tw5811900886452467162:=0
def tw7036512935764038220:=0
def tw14896951632621051255:=0
def tw414328705256168281:=0
def tw16219422378339606867:=0
def tw12754399216670667748:=0
def tw4904260303636930167:=0
def tw5852573885627730501:=0
def tw11016877384593244505:=0
def tw570787444560463118:=0
def tw1819140169847225463:=0
def tw3809365532861814363:=0
def tw18263221459640603376:=0
def tw9327743247241445524:=0
def tw1119026276577084580:=0
def tw14650462186915468309:=0
def tw6638349813967665082:=0
def tw669231233707361250:=0
def tw8235177417827217618:=0
def tw9800422995609147564:=0
def tw13147396355262489107:=0
def tw9745022293413340864:=0
def tw14335817403548928526:=0
def tw2004908718826769436:=0
def tw934346738831385895:=0
def tw10941792750324013389:=0
def tw4572779118927490601:=0
def tw10720821681981685569:=0
def tw12161265552498679815:=0
def tw11723918129524330223:=0
def tw6319289192189675097:=0
def tw5427642093965508183:=0
def tw6610195403503682124:=0
def tw4128577455832857623:=0
def tw12066971286604162577:=0
def tw10488467883870572762:=0
def tw4505913377751924754:=0
def tw9715987803314666345:=0
def tw943207984870594494:=0
def tw460829710479064049:=0
def tw17136895676895633077:=0
def tw1250061962763005707:=0
def tw5001558634858831304:=0
def tw8909069952971242598:=0
def tw3552624243655777562:=0
def tw128219379854939941:=0
def tw17071932746145967260:=0
def tw17428565515164473656:=0
def tw1441416928540020284:=0
def tw12348579677430141530:=0
def tw8722801745023918503:=0
def tw4956284872807842603:=0
def tw1155484671505113003:=0
def tw11719109337002327245:=0
def tw6896433835196179501:=0
def tw3283425682216931242:=0
def tw3487361564003256839:=0
def tw5816933540044092597:=0
def tw581483355838983741:=0
def tw17089695169817823856:=0
def tw6074382270945411119:=0
def tw2810017624654500904:=0
def tw7517151646296077519:=0
def tw3936741186218357399:=0
def tw16685804157276999098:=0
def tw17074338620204654692:=0
def tw16599891787970053486:=0
def tw11518087916432196292:=0
def tw7562890051901603366:=0
def tw2758442663209080732:=0
def tw8659266955790440356:=0
def tw8344298381916999356:=0
def tw6694401194882018810:=0
def tw5266748941239073089:=0
def tw10661541089466900113:=0
def tw3158647080961062092:=0
def tw3392259122281048538:=0
def tw2249814035887810032:=0
def tw17639741900488640853:=0
def tw17956085827067638325:=0
def tw157632153295774707:=0
def tw5257455974548123545:=0
def tw5657553472068774768:=0
def tw9518712002504386388:=0
def tw18275681832677567400:=0
def tw11786042804625478122:=0
def tw9991438173493665995:=0
def tw7615229966663874405:=0
def tw14534565412195481546:=0
def tw7376399935307071409:=0
def tw3101773150391021975:=0
def tw11687521453203658930:=0
def tw15185881497390636327:=0
def tw10289525190053675492:=0
def tw6660751227870552124:=0
def tw17868080639866549428:=0
def tw6115741893829303037:=0
def tw1283024788139342926:=0
def tw1133030876466822961:=0
def tw17332779066777770592:=0
def tw14482637641364384783:=0
def tw6231523712473886243:=0
def tw15215850981266280463:=0
def tw6745900330305299608:=0
def tw4671982497463045992:=0
def tw300735527200792476:=0
def tw5467005043194094531:=0
def tw8159854310061117814:=0
def tw6128431864580156279:=0
def tw2253718515886459660:=0
def tw2544374939335948643:=0
def tw13239119530164508777:=0
def tw6094274936634491115:=0
def tw60521634053565210:=0
def tw17570564115953721837:=0
def tw986772529367285713:=0
def tw1368578325617196134:=0
def tw12935020565270750834:=0
def tw14347148048194951232:=0
def tw8596238124197345672:=0
def tw16452019195881962114:=0
def tw9997016807701951127:=0
def tw9814763023956425213:=0
def tw4726730540591049058:=0
def tw2099204801769030149:=0
def tw198899712117119006:=0
def tw6564228760849486048:=0
def tw13242789647858085444:=0
def tw15837767286130407601:=0
def tw18278688962534938065:=0
def tw12172548106712404551:=0
def tw2381632952054138318:=0
def tw11790999558805197973:=0
def tw12410440384784990661:=0
def tw12004133233356002193:=0
def tw5295499718543566251:=0
def tw98070323828607026:=0
def tw2741195261140068643:=0
def tw7460391420685016946:=0
def tw7016205980270667198:=0
def tw178544142258735266:=0
def tw6981384306439868056:=0
def tw16338344857961246030:=0
def tw10969055143037148672:=0
def tw2355332365744830858:=0
def tw228166349202926831:=0
def tw14328381759176759067:=0
def tw17663954936090003554:=0
def tw12709825600472766616:=0
def tw15706185573454808425:=0
def tw13851671844739498528:=0
def tw7649965365557700942:=0
def tw2516694951776978890:=0
def tw17445171344011706870:=0
def tw6894216244093126203:=0
def tw13902097712252389409:=0
def tw18357857715720225239:=0
def tw14560776280548340543:=0
def tw1765214389570494338:=0
def tw1775712610345083459:=0
def tw1534510474635871192:=0
def tw7658091664070304611:=0
def tw7778581587935233045:=0
def tw15099709030023264058:=0
def tw9995895760752294119:=0
def tw7873034993152828003:=0
def tw2878339093828971014:=0
def tw15337403415584581587:=0
def tw2582260353624290876:=0
def tw15103039225731715754:=0
def tw15869672924647126959:=0
def tw4475541881480748494:=0
def tw8963458897605542523:=0
def tw17524658052428251001:=0
def tw1228844824393041641:=0
def tw7730545760592753723:=0
def tw9357656482830123462:=0
def tw4552083588311918543:=0
def tw5080839503280209765:=0
def tw12388190881089833224:=0
def tw16245587400683725424:=0
def tw17303545096357730083:=0
def tw9542113877243293100:=0
def tw13413011901125147625:=0
def tw1394676613853108713:=0
def tw2409217493136282825:=0
def tw12616221777614638101:=0
def tw14546390311911367548:=0
def tw7594234879103892782:=0
def tw3813874545303284152:=0
def tw80964394203943879:=0
def tw15752840304920735118:=0
def tw7125542907939084418:=0
def tw3726114051296211981:=0
def tw14304314078479287245:=0
def tw87712549780648884:=0
def tw4091577940497158017:=0
def tw10105183645292199336:=0
def tw5321342369059848625:=0
def tw170345993157013599:=0
def tw15494423553397739953:=0
def tw14473606290478283277:=0
def tw2543156471858843168:=0
def tw4174856259850906207:=0
def tw1721840055551126573:=0
def tw16635987098103254763:=0
def tw1161991857605644113:=0
def tw18070597371670284188:=0
def tw4729014955012157220:=0
def tw5807390528551157715:=0
def tw7350310881697168474:=0
def tw9122476971477095322:=0
def tw4592397239964794527:=0
def tw2477914641373270731:=0
def tw4179923755156942177:=0
def tw5603584577624844939:=0
def tw4092447181954231444:=0
def tw7691362182259471390:=0
def tw16114112781782271037:=0
def tw355133336182727097:=0
def tw6122869256682883893:=0
def tw9309713802137135882:=0
def tw16884464850282242591:=0
def tw4519823061828022070:=0
def tw15976855492820563954:=0
def tw14908076690888519618:=0
def tw15705856651785399619:=0
def tw17534171174040436934:=0
def tw6496794104857193646:=0
def tw1280771878407780380:=0
def tw1170606865107503810:=0
def tw6240934469538646931:=0
def tw9428137932079938633:=0
def tw7937522391214384256:=0
def tw6179333325823618549:=0
def tw1065095043539320213:=0
def tw9496929889381391646:=0
def tw8162485334552850011:=0
def tw11302810110076943879:=0
def tw12835208720933176414:=0
def tw15235741727014187884:=0
def tw7046842799360251075:=0
def tw14914413897624470675:=0
def tw14068792053700901021:=0
def tw17557207287631506145:=0
def tw2074568685791472622:=0
def tw174618779449160517:=0
def tw577809838552406827:=0
def tw17827375305881883976:=0
def tw8452325947794864402:=0
def tw13523482475622207663:=0
def tw9210604917336196108:=0
def tw16924416083438492115:=0
def tw9133572841536986182:=0
def tw11948276596055390128:=0
def tw16593093894319310324:=0
def tw4831238840029904897:=0
def tw15382572514939234482:=0
def tw8596170270785227162:=0
def tw6679781450142466993:=0
def tw12565094593000141810:=0
def tw4365588829387333449:=0
def tw11224152142461534748:=0
def tw2488953080643848227:=0
def tw1360428460203095137:=0
def tw844294685223373962:=0
def tw2833153059861287414:=0
def tw3569029544168949225:=0
def tw11012542090520660423:=0
def tw2680389971967632098:=0
def tw16567940390663927219:=0
def tw16769569750640614165:=0
def tw10683209460745106006:=0
def tw13237644911357527137:=0
def tw6492189120779647770:=0
def tw2815935745839805869:=0
def tw15579303909938202725:=0
def tw14969395309254737547:=0
def tw8821297630960612831:=0
def tw12196663517709968321:=0
def tw15361394846466438541:=0
def tw18321498801696307636:=0
def tw18229187475700276179:=0
def tw7609405378725978467:=0
def tw13881546768426388817:=0
def tw6543766188117001869:=0
def tw5491915383435969414:=0
def tw10315195573804683569:=0
def tw9877884174162269219:=0
def tw6944775216774912055:=0
def tw4226752440653857178:=0
def tw12238622012554284082:=0
def tw9507132642138306440:=0
def tw13930427025223887770:=0
def tw2412629667744057931:=0
def tw14035663175492144611:=0
def tw2244201040781467292:=0
def tw14664214598289215893:=0
def tw10676080079631656293:=0
def tw11816134380998113808:=0
def tw18000375507952695660:=0
def tw3405613704756692759:=0
def tw14747819453075175408:=0
def tw10115576698148503312:=0
def tw11814439754536172092:=0
def tw16952687061617364485:=0
def tw3745307981530314237:=0
def tw10430437161476870233:=0
def tw6537275003048024894:=0
def tw5027630104543490806:=0
def tw2549978572183834698:=0
def tw5503837907464672035:=0
def tw12365210879357301671:=0
def tw17263778167463518623:=0
def tw10508080557067690084:=0
def tw9634826887455873107:=0
def tw1191700825271660116:=0
def tw15906701262885493554:=0
def tw5765865186600659347:=0
def tw6218731596724583425:=0
def tw15830421314506909714:=0
def tw10004018032696155680:=0
def tw4871615223684292584:=0
def tw11264465029805087728:=0
def tw9701782753388224113:=0
def tw14216721908561460140:=0
def tw5910118831839311764:=0
def tw6644533990459285655:=0
def tw9912361321488457392:=0
def tw14283602440408706334:=0
def tw4420116696519231212:=0
def tw12914345445957554684:=0
def tw4201315301215514648:=0
def tw3762083927707616118:=0
def tw600289586839737341:=0
def tw16779569857347320002:=0
def tw11871146331231069460:=0
def tw4978200168394685741:=0
def tw15443358644979242493:=0
def tw8461345842600706979:=0
def tw13627683442292096776:=0
def tw1253041980698678540:=0
def tw3419219012123252604:=0
def tw14553161374807995460:=0
def tw2663231860692387645:=0
def tw18325241465757422138:=0
def tw17423178077744290342:=0
def tw16625793890729567498:=0
def tw10563960575959307565:=0
def tw12507101298450088893:=0
def tw8608699907257767271:=0
def tw1481580578046370756:=0
def tw3949083502490238333:=0
def tw6681845443621285529:=0
def tw834580080079858726:=0
def tw6563239582408939427:=0
def tw9882615955558946822:=0
def tw10725091796403941835:=0
end PySem.W.Fast
section
@[reducible] def Sg.row0 : PySem.W.OpenRow := { prog := PySem.Challenge.rw_signsearch_s06_all_of.prog, name := PySem.Challenge.rw_signsearch_s06_all_of.name, records := [], args := [], returns := .int, pre := .lit (.bool false), post := .lit (.bool true), raises := [], mutates := [], within := [], unshared := false, same := none, under := { arg := true, old := true, new := true }, after := { arg := true, old := true, new := true }, apart := false, loose := [], pinned := true, writes := false }
theorem Sg.no_row0 (h : Sg.row0.Holds) : False := by
  obtain ⟨_, ⟨args, h, _⟩, _⟩ := h
  have h2 : false = true := (Bool.and_eq_true_iff.mp h).2
  cases h2
theorem Sg.enter0 {P : Prop} (h : ¬ P → Sg.row0.Holds) : P := Classical.byContradiction fun n => Sg.no_row0 (h n)
local macro_rules
  | `(tactic| o_law) => `(tactic| refine Sg.enter0 fun h => ?_)
local macro_rules
  | `(tactic| w_witness2) => `(tactic| exact ⟨[.int 0, .list [], .list [], .list []], by decide +kernel, by decide +kernel⟩)
local macro_rules
  | `(tactic| refine $f:ident $a*) => do
    unless f.getId.eraseMacroScopes == `PySem.W.holds_open do Lean.Macro.throwUnsupported
    `(tactic| refine absurd (PySem.W.holds_os (r := PySem.Challenge.rw_signsearch_s06_all_of) $(⟨a[0]!⟩) $(⟨a[1]!⟩) $(⟨a[2]!⟩) $(⟨a[3]!⟩) $(⟨a[4]!⟩) $(⟨a[5]!⟩) $(⟨a[6]!⟩) $(⟨a[7]!⟩) $(⟨a[8]!⟩) $(⟨a[9]!⟩) $(⟨a[10]!⟩) $(⟨a[11]!⟩) $(⟨a[12]!⟩) $(⟨a[13]!⟩) $(⟨a[14]!⟩) $(⟨a[15]!⟩) $(⟨a[16]!⟩) PySem.W.os_shapes $(⟨a[18]!⟩) $(⟨a[19]!⟩) $(⟨a[20]!⟩) $(⟨a[21]!⟩) $(⟨a[22]!⟩)) (by assumption))
open PySem PySem.W PyProof.Rows
set_option maxHeartbeats 0 in
open_top Sg.hd for PySem.Challenge.rw_signsearch_s06_all_of
end
set_option Elab.async false
set_option linter.all false
set_option maxRecDepth 100000
def Z{α:Sort u}{a:α}:a=a:=rfl
def aA:=@if_neg
def aB:=@if_pos
def aJ:=@PySem.wpAny_bind
def aK:=@Nat.le_refl
def aO:=@List.length_map
def aW:=@PySem.wpAny_pure
def aZ:=@Nat.le_trans
def bF:=@List.length_append
def bH:=@Nat.zero_le
def bN:=@decide_eq_false
def bP:=@decide_eq_true
def bS:=@congrArg
def al_12:=@Bool.eq_false_iff
def bU:=@List.append_nil
def bX:=@Bool.false_ne_true
def cA:=@List.mem_cons_of_mem
def cB:=@Bool.and_eq_true
def cF:=@List.mem_cons_self
def al_18:=@List.mem_cons
def al_19:=@List.getElem?_eq_some_iff
def cG:=@List.length_cons
def cM:=@List.getElem?_eq_getElem
def cO:=@Array.length_toList
def cP:=@PySem.Heap.lt_size
def cV:=@Option.some.inj
def dB:=@List.length_singleton
def dG:=@Nat.lt_of_le_of_lt
def dJ:=@Ne.symm
def dL:=@List.size_toArray
def dM:=@List.all_cons
def dN:=@List.map_append
def fE:=@List.map_cons
def dQ:=@List.append_assoc
def dR:=@PySem.PassesOwn.never
def dZ:=@PySem.Heap.get?_push_of_some
def al_35:=@beq_eq_false_iff_ne
def fI:=@Nat.ne_of_lt
def fJ:=@PySem.F.plainAttrs_list
def fL:=@List.getElem?_map
def fM:=@List.mem_of_getElem?
def gB:=@PySem.Heap.get?_push_size
def al_41:=@beq_iff_eq
def gC:=@PySem.boot_len
def al_43:=@decide_eq_decide
def gJ:=@Nat.lt_of_lt_of_le
def gK:=@decide_eq_true_eq
def gN:=@List.take_length
def gO:=@PySem.F.slot_list_append
def gP:=@PySem.F.type_list_append
def hU:=@Nat.lt_succ_self
def al_50:=@List.mem_range
def al_51:=@List.mem_append
def iH:=@List.length_take
def al_53:=@List.all_eq_true
def iT:=@List.getElem?_append_right
def iU:=@List.length_range
def al_56:=@List.mem_singleton
def jB:=@List.getElem?_eq_none
def jC:=@List.getD_eq_getElem?_getD
def jD:=@Bool.or_false
def jW:=@Bool.eq_iff_iff
def jX:=@PySem.Heap.size_push
def jY:=@PySem.mem_of_lookup
def jZ:=@List.getElem?_append_left
def al_64:=@UInt8.toNat_inj
def kP:=@PySem.wpAny_mono
def kQ:=@Array.getElem?_toList
def al_67:=@List.mem_map
def kR:=@Nat.succ_le_succ
def kS:=@Nat.zero_add
def kT:=@PySem.wpAny_ite_split
def lH:=@List.filterMap_cons
def lI:=@List.any_cons
def lJ:=@List.nil_append
def lK:=@Nat.le_of_succ_le
def lL:=@List.find?_cons
def al_76:=@List.contains_iff_mem
def lM:=@List.eq_nil_of_length_eq_zero
def mF:=@Nat.lt_irrefl
def mG:=@List.mem_append_right
def mH:=@Bool.or_eq_true
def mI:=@Bool.true_and
def mJ:=@List.length_reverse
def al_83:=@List.nodup_cons
def nJ:=@Bool.and_false
def nL:=@List.lookup_cons
def nM:=@Bool.and_true
def nN:=@Nat.sub_self
def nO:=@List.getElem?_of_mem
def nP:=@PySem.wpAny_setState_of
def oJ:=@if_false
def oK:=@Bool.false_or
def oM:=@Nat.le_of_not_lt
def oN:=@List.all_append
def oO:=@List.reverse_cons
def qU:=@List.cons_append
def oP:=@Nat.zero_testBit
def oQ:=@Nat.testBit_and
def oR:=@PySem.wpAny_of_eq
def pL:=@Nat.le_of_lt
def pM:=@PySem.wpAny_newObj_type
def pN:=@Nat.pow_succ
def pO:=@List.map_map
def pP:=@PySem.fits_of_scanBound
def pQ:=@PySem.wpAny_askSetting
def pR:=@Int.ofNat.inj
def qV:=@Bool.false_and
def qW:=@PySem.Heap.get?_update_self
def qX:=@Nat.lt_succ_of_lt
def qY:=@beq_self_eq_true
def al_110:=@bne_iff_ne
def qZ:=@List.contains_cons
def rB:=@Classical.byContradiction
def rC:=@List.cons_ne_nil
def rD:=@PySem.Heap.SameBut.update
def al_115:=@PySem.F.called_set
def sK:=@PySem.wpAny_passesOwn
def sL:=@PySem.codeAny_mono
def sM:=@Int.toNat_natCast
def sN:=@PySem.wpAny_holding
def sO:=@PySem.wpAny_call_entry
def sP:=@LawfulBEq.eq_of_beq
def uN:=@List.map_nil
def sQ:=@List.replicate_succ
def sR:=@List.foldl_cons
def sS:=@Bool.false_eq_true
def sT:=@Bool.not_eq_true'
def sU:=@List.filter_cons
def al_128:=@List.isEmpty_iff
def sV:=@Nat.mod_lt
def uO:=@Nat.le_of_eq
def uP:=@PySem.wpAny_Call_Name_kw
def uQ:=@List.flatten_cons
def uR:=@List.length_nil
def uS:=@List.foldl_append
def uT:=@List.getElem_map
def uU:=@Nat.testBit_two_pow
def uV:=@List.flatMap_cons
def uW:=@Nat.not_lt_zero
def uX:=@Nat.testBit_xor
def uY:=@PySem.codeAny_builtin
def aEM:=@Option.bind_some
def al_142:=@List.mem_filter
def wS:=@PySem.wpAny_truthy_bool
def wT:=@Nat.ne_of_gt
def al_145:=@List.mem_filterMap
def wU:=@Bool.true_or
def wV:=@List.drop_drop
def wW:=@List.all_nil
def wX:=@List.getElem_range
def wY:=@List.range_eq_range'
def wZ:=@Nat.eq_of_testBit_eq
def xB:=@List.all_flatMap
def xC:=@List.map_reverse
def xD:=@List.getElem?_range
def xE:=@Nat.lt_or_ge
def xF:=@Array.getD_eq_getD_getElem?
def xG:=@PySem.wpAny_storeSet_of
def xH:=@PySem.Around.under_plainId
def xI:=@PySem.W.mg_of
def zY:=@List.getElem?_set_self
def zZ:=@List.getElem?_set_ne
def AA:=@PySem.wpAny_execs_nil
def AB:=@PyProof.Rows.callWith_type1
def AC:=@PySem.W.callWith_K
def AD:=@List.getElem?_take_of_lt
def NN:=@PySem.wpAny_loadPart'
def AE:=@List.length_drop
def AF:=@PySem.Heap.get?_update_other
def AG:=@PySem.pushCells_keeps
def AH:=@Nat.add_le_add_right
def AI:=@decide_eq_false_iff_not
def AJ:=@Nat.mod_eq_of_lt
def AK:=@List.ext_getElem
def al_174:=@List.pairwise_cons
def AL:=@List.Pairwise.nil
def AM:=@List.filterMap_append
def al_177:=@List.pairwise_iff_getElem
def AN:=@Option.getD_some
def AO:=@List.length_filter_le
def AQ:=@PySem.wpAny_isInstance
def AR:=@Nat.le_succ_of_le
def AS:=@List.take_of_length_le
def AT:=@List.length_filterMap_le
def FR:=@PySem.wpAny_callSpecial?_slot
def al_185:=@PyProof.Rows.slot_tuple_getitem
def FT:=@Nat.mod_two_eq_zero_or_one
def FU:=@List.concat_eq_append
def FV:=@List.getLast?_eq_getElem?
def FW:=@List.getElem?_cons_zero
def FX:=@List.getElem?_cons_succ
def FY:=@List.perm_append_singleton
def FZ:=@PyProof.Rows.F.plain_set_update_loop
def GA:=@List.getElem?_reverse
def GB:=@List.drop_eq_getElem_cons
def GC:=@PySem.F.slot_list_extend
def GD:=@PySem.F.type_list_extend
namespace L2
open PySem PySem.Spec PyProof.Rows
abbrev cC:=Sum Int Str
def uZ:cC->Value->Bool
 | .inl k,v=>Value.isInt k v
 | .inr x,v=>Value.isStrOf x v
def Cz(w:World):cC->Int
 | .inl k=>hashInt k
 | .inr x=>hashStr w x
def pS:∀{k:cC} {v:Value},uZ k v=true->(∃i t,k=Sum.inl i/\v=Value.int i t)\/(∃x t,k=Sum.inr x/\v=Value.str x t)
 | .inl i,v,h=>by obtain⟨t,e⟩:=Value.isInt_shape (k:=i) (v:=v) h;exact .inl ⟨i,t,Z,e⟩
 | .inr x,v,h=>by obtain⟨t,e⟩:=Value.isStrOf_shape (x:=x) (v:=v) h;exact .inr ⟨x,t,Z,e⟩
def Da(i:Int)(t:Tok):uZ (.inl i) (.int i t)=true:=by simp [uZ,Value.isInt]
def Db(x:Str)(t:Tok):uZ (.inr x) (.str x t)=true:=by simp [uZ,Value.isStrOf]
def Dc(a b:Int):decide ((Sum.inl a:cC)=Sum.inl b)=(a==b):=by
 by_cases e:a=b;·subst e;simp
 have h:¬(Sum.inl a:cC)=Sum.inl b:=λq=>e (Sum.inl.inj q);rw[bN h];exact(al_35.mpr e).symm
def Dd(a b:Str):decide ((Sum.inr a:cC)=Sum.inr b)=decide (a=b):=by
 by_cases e:a=b;·subst e;simp
 have h:¬(Sum.inr a:cC)=Sum.inr b:=λq=>e (Sum.inr.inj q);rw[bN h,bN e]
def De(a:Int)(b:Str):decide ((Sum.inl a:cC)=Sum.inr b)=false:=bN (λq=>nomatch q)
def Df(a:Str)(b:Int):decide ((Sum.inr a:cC)=Sum.inl b)=false:=bN (λq=>nomatch q)
def lN(prog:Program)(w:World):PySem.KeyKind prog w cC where
 is:=uZ
 hash:=Cz w
 inj:=λv a b ha hb=>by
  rcases pS ha with⟨i,t,rfl,rfl⟩|⟨x,t,rfl,rfl⟩
  ·rcases pS hb with⟨j,u,rfl,e⟩|⟨y,u,rfl,e⟩;·injection e with e1 _;rw[e1]
   exact nomatch e
  rcases pS hb with⟨j,u,rfl,e⟩|⟨y,u,rfl,e⟩;·exact nomatch e
  injection e with e1 _;rw[e1]
 byValue:=λk v h=>by rcases pS h with⟨i,t,rfl,rfl⟩|⟨x,t,rfl,rfl⟩<;>rfl
 pyHash:=λhv h=>by
  rcases pS hv with⟨i,t,rfl,rfl⟩|⟨x,t,rfl,rfl⟩;·exact wpAny_pyHash_int h
  exact wpAny_pyHash_str h
 eqBool:=λhu hv h=>by
  rcases pS hu with⟨i,t,rfl,rfl⟩|⟨x,t,rfl,rfl⟩
  ·rcases pS hv with⟨j,u,rfl,rfl⟩|⟨y,u,rfl,rfl⟩;·rw[Dc]at h;exact wpAny_eqBool_int h
   rw[De]at h;exact SeqAt.EqAt.int_str i t y u _ _ _ _ h
  rcases pS hv with⟨j,u,rfl,rfl⟩|⟨y,u,rfl,rfl⟩;·rw[Df]at h;exact SeqAt.EqAt.str_int x t j u _ _ _ _ h
  rw[Dd]at h;exact wpAny_eqBool_str h
 «strs»:=λk x t v h=>by
  rcases pS h with⟨i,u,rfl,e⟩|⟨y,u,rfl,e⟩;·exact nomatch e
  injection e with e1 _;subst e1;cases v<;>rfl
def Dg(prog:Program)(w:World)(i:Int)(t:Tok):(lN prog w).is (.inl i) (.int i t)=true:=Da i t
def Dh(prog:Program)(w:World)(x:Str)(t:Tok):(lN prog w).is (.inr x) (.str x t)=true:=Db x t
inductive V where
 |non|bl (b:Bool)|int (i:Int)|str (x:Str)|byt (b:Array UInt8)|flt (b:UInt64)|ref (a:Addr)|ty (n:String)
 deriving DecidableEq
def RelV:V->Value->Prop
 | .non,u=>u=Value.none
 | .bl b,u=>u=Value.bool b
 | .int i,u=>∃t,u=Value.int i t
 | .str x,u=>∃t,u=Value.str x t
 | .byt b,u=>∃t,u=Value.bytes b t
 | .flt b,u=>∃t,u=Value.float b t
 | .ref a,u=>u=Value.ref a
 | .ty n,u=>u=Value.type n
abbrev Vals:List V->List Value->Prop:=Paired RelV
def Vals.length(r:Vals xs us):xs.length=us.length:=Paired.length r
def Vals.get:∀{xs:List V} {us:List Value} {i:Nat} {x:V},Vals xs us->xs[i]? =some x->∃u,us[i]? =some u/\RelV x u
 |_,_,_,_,.nil,e=>by simp at e
 |_,_,0,_,.cons r _,e=>by simp at e;subst e;exact⟨_,Z,r⟩
 |_,_,i+1,x,.cons _ t,e=>by obtain⟨u,a,b⟩:=Vals.get (i:=i) (x:=x) t (by simpa using e);exact⟨u,by simpa using a,b⟩
def Vals.set(r:RelV x u):∀{xs:List V} {us:List Value} (i:Nat),Vals xs us->Vals (xs.set i x) (us.set i u)
 |_,_,_,.nil=> .nil
 |_,_,0,.cons _ t=> .cons r t
 |_,_,i+1,.cons q t=> .cons q (Vals.set r i t)
def Vals.append:∀{xs ys:List V} {us a:List Value},Vals xs us->Vals ys a->Vals (xs++ys) (us++a)
 |_,_,_,_,.nil,s=>s
 |_,_,_,_,.cons r t,s=> .cons r (Vals.append t s)
def Vals.take:∀{xs:List V} {us:List Value} (n:Nat),Vals xs us->Vals (xs.take n) (us.take n)
 |_,_,0,_=> .nil
 |_,_,_+1,.nil=> .nil
 |_,_,n+1,.cons r t=> .cons r (Vals.take n t)
def Vals.drop:∀{xs:List V} {us:List Value} (n:Nat),Vals xs us->Vals (xs.drop n) (us.drop n)
 |_,_,0,r=>r
 |_,_,_+1,.nil=> .nil
 |_,_,n+1,.cons _ t=>Vals.drop n t
def RelO:Option V->Option Value->Prop
 |some v,some u=>RelV v u
 |none,none=>True
 |_,_=>False
def KV:List (κ×V)->List (κ×Value)->Prop:=Paired λ(p:κ×V) (q:κ×Value)=>p.1=q.1/\RelV p.2 q.2
def kV:cC->V
 | .inl i=> .int i
 | .inr x=> .str x
inductive HO where
 |lst (xs:List V)
 |tup (xs:List V)
 |dK (kvs:List (cC×V))|dT (kvs:List (List cC×V))
 |set (S:Int->Bool) (n:Nat)
 |ins (C dx:Addr) (fs:List (Str×V))
 |own (x:Addr)
 |xd (fs:List (Str×V))
 |met (f x:Addr)
 |rng (lo hi:Int)
 |frz (o:Obj) (u:HO)
 |tbl (ps:Array Value)
 |ext (φ:Heap->Prop)
abbrev Hp:=Addr->Option HO
def aE(H:Hp)(a:Addr)(o:HO):Hp:=λb=>if b=a then some o else H b
def aH:aE H a o a=some o:=by unfold aE;rw[aB rfl]
def bB(h:b≠a):aE H a o b=H b:=by unfold aE;rw[aA h]
def bM{H:Hp}(h:H a=some o)(h':H b=some u)(d:o≠u):a≠b:=by intro e;subst e;rw[h]at h';exact d (cV h')
def cH{H:Hp}(h:H a=some o)(h':H b=none):a≠b:=by intro e;subst e;rw[h]at h';cases h'
section
variable(P:Program)(w:World)
def ObjOk(H:Hp)(h:Heap)(a:Addr):HO->Prop
 | .lst xs=>xs.length<=sizeLine/\∃(b:List Value) (n:Nat),Vals xs b/\h.get? a=some {cls:= .type "list",data:= .seq b.toArray n}
 | .tup xs=>xs.length<=sizeLine/\∃b:List Value,Vals xs b/\IsTup h a b.toArray
 | .dK kvs=>kvs.length<=sizeLine/\(a==sysModules)=false/\∃vs,KV kvs vs/\h.DictOf (lN P w) a vs
 | .dT kvs=>kvs.length<=sizeLine/\(a==sysModules)=false/\∃xs:List (List cC×Addr×Value),
   Paired (λ(p:List cC×V) (q:List cC×Addr×Value)=>p.1=q.1/\H q.2.1=some (.tup (p.1.map kV))/\RelV p.2 q.2.2) kvs xs/\
   ∃o d j,h.get? a=some o/\o.ExactDict/\o.data= .dict d j/\d.toList=xs.map (entryOfKey (tupleKind (lN P w)))/\(xs.map (·.1)).Nodup
 | .set S n=>h.SetOf (intKind P w) a S n
 | .ins C dx fs=>H dx=some (.own a)/\fs.length<=1000/\dx≠a/\h.get? a=some (PySem.W.instObj C dx)/\
   ∃c,h.Ns1 dx c/\(∀f,RelO (fs.lookup f) (c f))/\PySem.Within c (fs.map (·.1))
 | .own _=>∃o,h.get? a=some o
 | .xd fs=>∃c,h.Ns1 a c/\∀f,RelO (fs.lookup f) (c f)
 | .rng lo hi=>∃t u v,h.get? a=some {cls:= .type "range",data:= .fields #[.int lo t,.int hi u,.int 1 v]}
 | .frz o u=>h.get? a=some o/\ObjOk H h a u
 | .tbl ps=>h.get? a=some {cls:= .none,data:= .fields ps}
 | .met f x=>h.get? a=some (PySem.W.methodObj (.ref f) (.ref x))
 | .ext φ=>φ h/\(∃o,h.get? a=some o)/\∀e i:Heap,φ e->(∀o,e.get? a=some o->i.get? a=some o)->φ i
def HOk(H:Hp)(h:Heap):Prop:=∀a o,H a=some o->ObjOk P w H h a o
end
section
def ObjOk.lt(x:ObjOk P w H h a o):a<h.objs.size:=by
 cases o with
 |lst xs=>obtain⟨_,_,_,_,e⟩:=x;exact cP e
 |tup xs=>obtain⟨_,_,_,p⟩:=x;exact p.lt
 |dK kvs=>obtain⟨_,_,_,_,o,_,_,e,_⟩:=x;exact cP e
 |dT kvs=>obtain⟨_,_,_,_,o,_,_,e,_⟩:=x;exact cP e
 |set S n=>obtain⟨o,_,_,_,e,_⟩:=x;exact cP e
 |ins C dx fs=>obtain⟨_,_,_,e,_⟩:=x;exact cP e
 |own y=>obtain⟨_,e⟩:=x;exact cP e
 |xd fs=>obtain⟨_,⟨_,_,_,e,_⟩,_⟩:=x;exact cP e
 |rng lo hi=>obtain⟨_,_,_,e⟩:=x;exact cP e
 |frz ob u=>obtain⟨e,_⟩:=x;exact cP e
 |tbl ps=>exact cP (show h.get? a=some _ from x)
 |met f y=>exact cP (show h.get? a=some _ from x)
 |ext φ=>obtain⟨_,⟨_,e⟩,_⟩:=x;exact cP e
def Paired.mapP:∀{c:List α} {d:List β},Paired F c d->(∀a b,F a b->G a b)->Paired G c d
 |_,_,.nil,_=> .nil
 |_,_,.cons r t,f=> .cons (f _ _ r) (Paired.mapP t f)
def ObjOk.stay(x:ObjOk P w H h a o)(k:∀b u,(b=a\/H b=some (.own a))->h.get? b=some u->h'.get? b=some u)
  (D:∀b,H b=some (.own a)->H' b=some (.own a)) (E:∀b xs,H b=some (.tup xs)->H' b=some (.tup xs)):ObjOk P w H' h' a o:=by
 induction o with
 |lst xs=>obtain⟨z,m,n,r,e⟩:=x;exact⟨z,m,n,r,k _ _ (.inl Z) e⟩
 |tup xs=>obtain⟨z,m,r,i,e,c⟩:=x;exact⟨z,m,r,i,k _ _ (.inl Z) e,c⟩
 |dK kvs=>obtain⟨z,y,vs,r,i,l,j,e,c⟩:=x;exact⟨z,y,vs,r,i,l,j,k _ _ (.inl Z) e,c⟩
 |dT kvs=>
  obtain⟨z,y,xs,r,i,l,j,e,c⟩:=x;exact⟨z,y,xs,Paired.mapP r λp q z=>⟨z.1,E _ _ z.2.1,z.2.2⟩,i,l,j,k _ _ (.inl Z) e,c⟩
 |set S n=>obtain⟨i,l,j,t,e,c⟩:=x;exact⟨i,l,j,t,k _ _ (.inl Z) e,c⟩
 |ins C dx fs=>
  obtain⟨d,z,ne,e,s,⟨A,l,j,B,c⟩,r⟩:=x;exact⟨D _ d,z,ne,k _ _ (.inl Z) e,s,⟨A,l,j,k _ _ (.inr d) B,c⟩,r⟩
 |own y=>obtain⟨i,e⟩:=x;exact⟨i,k _ _ (.inl Z) e⟩
 |xd fs=>obtain⟨s,⟨A,l,j,e,c⟩,r⟩:=x;exact⟨s,⟨A,l,j,k _ _ (.inl Z) e,c⟩,r⟩
 |rng lo hi=>obtain⟨t,u,v,e⟩:=x;exact⟨t,u,v,k _ _ (.inl Z) e⟩
 |frz i u ih=>obtain⟨e,q⟩:=x;exact⟨k _ _ (.inl Z) e,ih q⟩
 |tbl ps=>
  have e:h.get? a=some {cls:= .none,data:= .fields ps}:=x;show h'.get? a=some {cls:= .none,data:= .fields ps};exact k a _ (.inl Z) e
 |met f y=>
  have e:h.get? a=some (PySem.W.methodObj (.ref f) (.ref y)):=x;show h'.get? a=some (PySem.W.methodObj (.ref f) (.ref y));exact k a _ (.inl Z) e
 |ext φ=>obtain⟨p,⟨o,e⟩,st⟩:=x;exact⟨st _ _ p λo q=>k _ _ (.inl Z) q,⟨o,k _ _ (.inl Z) e⟩,st⟩
def HOk.lt(x:HOk P w H h)(e:H a=some o):a<h.objs.size:=(x a o e).lt
def HOk.fresh(x:HOk P w H h)(e:h.objs.size<=a):H a=none:=by cases q:H a with|none=>rfl|some u=>exact absurd (gJ (x.lt q) e) (mF _)
def HOk.kept(x:HOk P w H h)(k:∀b u,h.get? b=some u->h'.get? b=some u):HOk P w H h':=λa o e=>
 (x a o e).stay (λb u _ q=>k b u q) (λ_ q=>q) λ_ _ q=>q
def HOk.laid(x:HOk P w H h)(k:∀b u,h.get? b=some u->h'.get? b=some u)(i:h.objs.size<=a)(new:ObjOk P w (aE H a o) h' a o):HOk P w (aE H a o) h':=λb u e=>by
 have f:=x.fresh i;by_cases d:b=a;·subst d;rw[aH]at e;cases e;exact new
 rw[bB d]at e;exact(x b u e).stay (λc v _ q=>k c v q) (λc q=>by rw[bB (cH q f)];exact q) λc xs q=>by rw[bB (cH q f)];exact q
end
def Rd(H:Hp)(a:Addr)(u:HO):Prop:=H a=some u\/∃o,H a=some (.frz o u)
def Rd.ok(r:Rd H a u)(x:HOk P w H h):ObjOk P w H h a u:=by
 rcases r with r|⟨o,r⟩;·exact x a u r
 obtain⟨_,q⟩:=x a _ r;exact q
def xJ:Option HO->Prop
 |some (.lst _)=>True
 |some (.dK _)=>True
 |some (.dT _)=>True
 |some (.set _ _)=>True
 |some (.ins _ _ _)=>True
 |some (.ext _)=>True
 |_=>False
section
def HOk.write(ok:HOk P w H h)(l:xJ (H x))(n:e=x\/H e=some (.own x))(k:∀b u,b≠e->h.get? b=some u->h'.get? b=some u)(m:∃u,h'.get? e=some u)
  (new:ObjOk P w (aE H x o') h' x o'):HOk P w (aE H x o') h':=λb u q=>by
 have d:∀c y,H c=some (.own y)->c≠x:=λc y r z=>by subst z;rw[r]at l;exact l
 have f:∀c xs,H c=some (.tup xs)->c≠x:=λc xs r z=>by subst z;rw[r]at l;exact l
 by_cases i:b=x;·subst i;rw[aH]at q;cases q;exact new
 rw[bB i]at q;by_cases a:b=e
 ·have o:H b=some (.own x):=by
   rcases n with z|z;·exact absurd (a.trans z) i
   rw[a];exact z
  rw[q]at o;cases o;obtain⟨v,p⟩:=m;exact⟨v,by rw[a];exact p⟩
 refine(ok b u q).stay (λc v j r=>k c v ?_ r) (λc r=>by rw[bB (d c b r)];exact r) λc xs r=>by rw[bB (f c xs r)];exact r
 rcases j with rfl|j;·exact a
 rintro rfl;rcases n with z|z
 ·exact d c b j z
 rw[j]at z;cases z;exact i rfl
end
structure Un(fs ex:List Addr)(H H':Hp)(h h':Heap):Prop where
 keep:∀b o,h.get? b=some o->H b=none->b∉fs->b∉ex->h'.get? b=some o
 slot:∀b o,h.get? b=some o->H b=none->b∈fs->b∉ex->∃sl,h'.get? b=some {o with slots:=sl}
 free:∀b o,h.get? b=some o->H b=none->b∉ex->H' b=none
 there:∀b o,h.get? b=some o->b∉ex->∃o',h'.get? b=some o'
 tups:∀b xs,H b=some (.tup xs)->H' b=some (.tup xs)
 frzs:∀b o u,H b=some (.frz o u)->H' b=some (.frz o u)
 tbls:∀b ps,H b=some (.tbl ps)->∃more,H' b=some (.tbl (ps++more))
section
def Un.any(u:Un fs ex H H1 h h1)(q:h.get? b=some a)(n:H b=none)(d:b∉ex):∃e,h1.get? b=some {a with slots:=e}:=by
 by_cases c:b∈fs;·exact u.slot b a q n c d
 exact⟨a.slots,u.keep b a q n c d⟩
def Un.kept(k:∀b u,h.get? b=some u->h'.get? b=some u):Un fs ex H H h h':=
 ⟨λb a q _ _ _=>k b a q,λb a q _ _ _=>⟨a.slots,k b a q⟩,λ_ _ _ n _=>n,λb a q _=>⟨a,k b a q⟩,λ_ _ q=>q,λ_ _ _ q=>q,λ_ ps q=>⟨#[],by rw[q];simp⟩⟩
def Un.refl:Un fs ex H H h h:=Un.kept λ_ _ q=>q
def Un.laid(k:∀b u,h.get? b=some u->h'.get? b=some u)(hp:h.objs.size<=a)(hn:H a=none):Un fs ex H (aE H a o) h h' where
 keep:=λb u q _ _ _=>k b u q
 slot:=λb u q _ _ _=>⟨u.slots,k b u q⟩
 free:=λb u q n _=>by rw[bB (fI (gJ (cP q) hp))];exact n
 there:=λb u q _=>⟨u,k b u q⟩
 tups:=λb xs q=>by rw[bB (cH q hn)];exact q
 frzs:=λb u xs q=>by rw[bB (cH q hn)];exact q
 tbls:=λb ps q=>⟨#[],by rw[bB (cH q hn),q];simp⟩
def Un.write(c:xJ (H x))(l:e=x\/H e=some (.own x))(k:∀b u,b≠e->h.get? b=some u->h'.get? b=some u)(d:∃u,h'.get? e=some u):Un fs ex H (aE H x o) h h':=by
 have j:∀b,H b=none->b≠x:=λb n z=>by subst z;rw[n]at c;exact c
 have i:∀b,H b=none->b≠e:=λb n z=>by
  subst z;rcases l with r|r
  ·exact j b n r
  rw[n]at r;cases r
 have f:∀b u,H b=some u->¬xJ (some u)->b≠x:=λb u q m z=>by subst z;rw[q]at c;exact m c
 refine⟨λb u q n _ _=>k b u (i b n) q,λb u q n _ _=>⟨u.slots,k b u (i b n) q⟩,λb u q n _=>by rw[bB (j b n)];exact n,λb u q _=> ?_,
  λb xs q=>by rw[bB (f b _ q λz=>z)];exact q,λb u xs q=>by rw[bB (f b _ q λz=>z)];exact q,λb ps q=>⟨#[],by rw[bB (f b _ q λz=>z),q];simp⟩⟩
 by_cases a:b=e;·subst a;exact d
 exact⟨u,k b u a q⟩
end
def AV(h:Heap)(H:Hp):List Addr:=(List.range h.objs.size).filter λa=>(H a).isSome
def pT(h:Heap)(H:Hp):Heap:=PySem.W.hideAll h (AV h H)
def Di(h:Heap)(H:Hp):(pT h H).objs.size=h.objs.size:=PySem.W.hideAll_size _ _
def Dj(e:h.get? b=some o)(n:H b=none):(pT h H).get? b=some o:=
 PySem.W.hideAll_get _ e λa=>by have q:(H b).isSome=true:=(al_142.mp a).2;rw[n]at q;simp at q
def Dk(e:(pT h H).get? b=some o):h.get? b=some o/\H b=none:=by
 have a:h.get? b=some o:=PySem.W.of_hideAll (AV h H) e;refine⟨a,?_⟩;cases q:H b with
 |none=>rfl
 |some x=>
  have c:b∈AV h H:=al_142.mpr ⟨al_50.mpr (cP a),by simp [q]⟩;have z:(pT h H).get? b=none:=PySem.W.hideAll_none (AV h H) c;rw[z]at e;cases e
structure AW(K:PySem.W.Frag)(mg:Str->Option Value)(base:Heap):Prop where
 kin:K.In base
 glob:base.Ns mainGlobals mg
 blt:∃mb,base.Ns builtinsNs mb/\∀x:Str,x≠"__name__"->mb x=bootBuiltins x
 nolimit:base.NoLimit
structure Cx where
 prog:Program
 w:World
 K:PySem.W.Frag
 mg:Str->Option Value
 base:Heap
 A:Around
 N:List Str
 s_0:Shared
 H_0:Hp
 env:Env
 outer:List Env
 stack:List Env
 ex:List Addr
 fn:Str->Bool
 calm:Bool
 pn:List (Addr×Obj)
 xe:Value->Shared->Prop
def nQ(l:List Env):List Addr:=l.filterMap (·.frame)
abbrev Cx.fs(X:Cx):List Addr:=nQ X.outer
def vA(sc:Scope)(x:Str):Prop:=sc.names.lookup x=some .local\/sc.names.lookup x=some .cell\/sc.names.lookup x=some .free
def xK(sc:Scope)(x:Str):Prop:=sc.names.lookup x=some .local\/sc.names.lookup x=some .cell
def Dl(a:Env)(h:Heap)(m:Str->Option Value)(x:Str)(u:Value):Prop:=
 (a.kindOf x=some .local/\m x=some u)\/((a.kindOf x=some .cell\/a.kindOf x=some .free)/\∃c,a.cells.lookup x=some c/\h.IsCell c (some u))
structure Cx.Ok(X:Cx):Prop where
 mod:AW X.K X.mg X.base
 kind:X.env.scope.kind= .function
 glob:X.env.globals=mainGlobals
 blt:X.env.builtins=builtinsNs
 above:X.s_0.heap.objs.size<=X.env.locals
 inj:∀x y c,X.env.cells.lookup x=some c->X.env.cells.lookup y=some c->x=y
 has:∀x,(X.env.kindOf x=some .cell\/X.env.kindOf x=some .free)->∃c,X.env.cells.lookup x=some c
 cab:∀x c,X.fn x=true->X.env.cells.lookup x=some c->X.s_0.heap.objs.size<=c
 hd:X.calm=true->X.A.handled=none
 frames:X.A.frames=some X.stack
 stk:X.stack=X.outer\/(X.stack=X.env::X.outer/\X.env.frame=some X.env.locals)
 exf:∀b∈X.ex,b≠X.env.locals/\∀x c,X.env.cells.lookup x=some c->c≠b
 bs:∀b o,X.base.get? b=some o->X.s_0.heap.get? b=some o/\X.H_0 b=none
 bsz:X.base.objs.size<=X.s_0.heap.objs.size
 noex:∀b o,X.base.get? b=some o->b∉X.ex
 exfs:∀b∈X.ex,b∉X.fs
 funs:X.s_0.heap.FunFrames X.base X.outer
 frf:∀b∈X.fs,X.H_0 b=none
structure Inv(X:Cx)(pins:List (Addr×Obj))(σ:List (Option V))(H:Hp)(s:Shared):Prop where
 ok:X.Ok
 os:s.os=X.s_0.os
 bare:AllBare s.gens
 base:Un X.fs X.ex X.H_0 H X.s_0.heap s.heap
 loc:∃m,s.heap.Ns X.env.locals m/\∀(i:Nat) (x:Str) (v:V),X.N[i]? =some x->σ[i]? =some (some v)->vA X.env.scope x->∃u,RelV v u/\Dl X.env s.heap m x u
 cell:∀x c,X.env.cells.lookup x=some c->∃v,s.heap.IsCell c v
 free:H X.env.locals=none
 freeC:∀x c,X.env.cells.lookup x=some c->H c=none
 pin:∀p∈X.pn++pins,s.heap.get? p.1=some p.2/\H p.1=none/\p.1≠X.env.locals/\p.1∉X.fs/\∀v,p.2.data≠ .cell v
 hok:HOk X.prog X.w H s.heap
 len:σ.length=X.N.length
section
variable{X:Cx}{pins:List (Addr×Obj)}{σ:List (Option V)}{H H':Hp}{s:Shared}{h':Heap}
def Cx.Ok.nofr(ok:X.Ok)(e:X.base.get? b=some o):b∉X.fs:=λa=>by have:=(ok.funs.mem a).1;rw[e]at this;cases this
def Inv.bs(I:Inv X pins σ H s):∀b o,X.base.get? b=some o->s.heap.get? b=some o/\H b=none:=λb o e=>
 ⟨I.base.keep b o (I.ok.bs b o e).1 (I.ok.bs b o e).2 (I.ok.nofr e) (I.ok.noex b o e),I.base.free b o (I.ok.bs b o e).1 (I.ok.bs b o e).2 (I.ok.noex b o e)⟩
def Inv.bk(I:Inv X pins σ H s):∀b o,X.base.get? b=some o->s.heap.get? b=some o:=λb o e=>(I.bs b o e).1
def Inv.mod(I:Inv X pins σ H s):AW X.K X.mg X.base:=I.ok.mod
def Inv.kIn(I:Inv X pins σ H s):X.K.In s.heap:=I.ok.mod.kin.keeps I.bk
def Inv.lt(I:Inv X pins σ H s):X.env.locals<s.heap.objs.size:=let⟨_,hn,_⟩:=I.loc;hn.lt
def Inv.sz(I:Inv X pins σ H s):X.s_0.heap.objs.size<=s.heap.objs.size:=aZ I.ok.above (pL I.lt)
def Inv.nofs(I:Inv X pins σ H s)(h:s.heap.objs.size<=a):a∉X.fs:=λb=>by obtain⟨_,o,c,_⟩:=I.ok.funs.mem b;exact absurd (gJ (cP c) (aZ I.sz h)) (mF _)
def Inv.cne(I:Inv X pins σ H s):∀x c,X.env.cells.lookup x=some c->c≠X.env.locals:=λx c e z=>by obtain⟨v,o,f,d⟩:=I.cell x c e;obtain⟨m,⟨j,i,h,b,a,_⟩,_⟩:=I.loc;rw[z,b]at f;cases f;rw[a]at d;cases d
def Inv.funs(I:Inv X pins σ H s):s.heap.FunFrames X.base X.outer:=by
 have all:∀(l:List Env),(∀b∈nQ l,b∈X.fs)->X.s_0.heap.FunFrames X.base l->s.heap.FunFrames X.base l:=by
  intro l;induction l with
  |nil=>intro _ _;trivial
  |cons env r ih=>
   intro f j;obtain⟨i,⟨L,o,d,k,m,h⟩,n⟩:=j;have a:L∈X.fs:=f L (by unfold nQ;rw[lH,d];exact cF);obtain⟨p,e⟩:=I.base.slot L o m (I.ok.frf L a) a λz=>I.ok.exfs L z a;exact⟨i,⟨L,_,d,k,e,h⟩,ih (λb c=>f b (by unfold nQ;rw[lH,d];exact cA _ c)) n⟩
 exact all X.outer (λ_ c=>c) I.ok.funs
def Inv.stack(I:Inv X pins σ H s):s.heap.FunFrames X.base X.stack:=by
 rcases I.ok.stk with e|⟨e,hf⟩;·rw[e];exact I.funs
 rw[e];obtain⟨m,a,_⟩:=I.loc;refine .cons (by rw[I.ok.kind];decide) hf a ?_ I.funs;exact Heap.get?_none_of_le (aZ I.ok.bsz I.ok.above)
def Inv.stkSub(I:Inv X pins σ H s):∀b∈nQ X.stack,b∈X.env.locals::X.fs:=λb a=>by
 rcases I.ok.stk with e|⟨e,hf⟩;·rw[e]at a;exact cA _ a
 rw[e]at a;unfold nQ at a;rw[lH,hf]at a;exact a
def Inv.stkFree(I:Inv X pins σ H s):∀b∈nQ X.stack,H b=none:=λb a=>by
 rcases al_18.mp (I.stkSub b a)with e|a;·rw[e];exact I.free
 obtain⟨_,o,c,_⟩:=I.ok.funs.mem a;exact I.base.free b o c (I.ok.frf b a) λz=>I.ok.exfs b z a
def Inv.step{g':Array GenState}{t':Nat}{d':Drawn}{ch:List Addr}(I:Inv X pins σ H s)
  (h:∀b∈ch,(b∈X.ex\/X.s_0.heap.objs.size<=b)/\b≠X.env.locals/\(∀x c,X.env.cells.lookup x=some c->c≠b)/\∀p∈X.pn++pins,p.1≠b)
  (keep:∀b o,b≠X.env.locals->b∉X.fs->b∉ch->s.heap.get? b=some o->H b=none->h'.get? b=some o)
  (slot:∀b o,b≠X.env.locals->b∈X.fs->b∉ch->s.heap.get? b=some o->H b=none->∃L,h'.get? b=some {o with slots:=L}) (free:∀b o,b∉ch->s.heap.get? b=some o->H b=none->H' b=none)
  (there:∀b o,b∉ch->s.heap.get? b=some o->∃G,h'.get? b=some G)
  (tups:∀b xs,H b=some (.tup xs)->H' b=some (.tup xs)) (frzs:∀b o u,H b=some (.frz o u)->H' b=some (.frz o u)) (tbls:∀b ps,H b=some (.tbl ps)->∃E,H' b=some (.tbl (ps++E)))
  (ns:∀m,s.heap.Ns X.env.locals m->h'.Ns X.env.locals m) (K:HOk X.prog X.w H' h') (T:AllBare g'):
  Inv X pins σ H' {s with heap:=h',gens:=g',drawn:=d',toks:=t'}:=by
 have F:∀b o,X.s_0.heap.get? b=some o->b≠X.env.locals:=λb o e=>fI (gJ (cP e) I.ok.above);have A:∀b o,X.s_0.heap.get? b=some o->b∉X.ex->b∉ch:=λb o e a B=>by
  rcases(h b B).1 with z|z;·exact a z
  exact absurd (gJ (cP e) z) (mF _)
 have f:∀x c,X.env.cells.lookup x=some c->∀v,s.heap.IsCell c v->h'.IsCell c v:=λx c e v ⟨o,C,J⟩=>by
  have j:c∉ch:=λz=>(h c z).2.2.1 x c e rfl
  by_cases N:c∈X.fs;·obtain⟨L,q⟩:=slot c o (I.cne x c e) N j C (I.freeC x c e);exact⟨_,q,J⟩
  exact⟨o,keep c o (I.cne x c e) N j C (I.freeC x c e),J⟩
 refine⟨I.ok,I.os,T,⟨λb o e n B a=> ?_,λb o e n B a=> ?_,λb o e n a=> ?_,λb o e a=> ?_,λb xs e=>tups b xs (I.base.tups b xs e),λb o xs e=>frzs b o xs (I.base.frzs b o xs e),λb ps e=> ?_⟩,?_,λx c e=> ?_,?_,λx c e=> ?_,λp O=> ?_,K,I.len⟩;·exact keep b o (F b o e) B (A b o e a) (I.base.keep b o e n B a) (I.base.free b o e n a)
 ·obtain⟨L,y⟩:=I.base.slot b o e n B a;obtain⟨M,D⟩:=slot b _ (F b o e) B (A b o e a) y (I.base.free b o e n a);exact⟨M,D⟩
 ·obtain⟨G,y⟩:=I.base.there b o e a;exact free b G (A b o e a) y (I.base.free b o e n a)
 ·obtain⟨G,y⟩:=I.base.there b o e a;exact there b G (A b o e a) y
 ·obtain⟨Y,y⟩:=I.base.tbls b ps e;obtain⟨m2,D⟩:=tbls b _ y;exact⟨Y++m2,by rw[D,Array.append_assoc]⟩
 ·obtain⟨m,W,U⟩:=I.loc;refine⟨m,ns m W,λi x v y D Q=> ?_⟩;obtain⟨u,r,l⟩:=U i x v y D Q;refine⟨u,r,?_⟩;rcases l with l|⟨k,c,e,z⟩
  ·exact .inl l
  exact .inr ⟨k,c,e,f x c e _ z⟩
 ·obtain⟨v,z⟩:=I.cell x c e;exact⟨v,f x c e v z⟩
 ·obtain⟨m,⟨o,_,_,C,_⟩,_⟩:=I.loc;exact free _ o (λz=>(h _ z).2.1 Z) C I.free
 ·obtain⟨v,o,C,J⟩:=I.cell x c e;exact free c o (λz=>(h c z).2.2.1 x c e Z) C (I.freeC x c e)
 obtain⟨e,n,ne,P,d⟩:=I.pin p O;have j:p.1∉ch:=λz=>(h p.1 z).2.2.2 p O rfl;exact⟨keep p.1 p.2 ne P j e n,free p.1 p.2 j e n,ne,P,d⟩
def Inv.un{t':Nat}(I:Inv X pins σ H s)(u:Un X.fs [] H H' s.heap h')(f:HOk X.prog X.w H' h'):Inv X pins σ H' {s with heap:=h',toks:=t'}:=by
 obtain⟨m,⟨o,p,l,h,r⟩,_⟩:=id I.loc;obtain⟨x,i⟩:=u.any h I.free (by simp);exact I.step (g':=s.gens) (d':=s.drawn) (ch:=[]) (λ_ z=>nomatch z) (λb o _ d _ e n=>u.keep b o e n d (by simp)) (λb o _ d _ e n=>u.slot b o e n d (by simp)) (λb o _ e n=>u.free b o e n (by simp)) (λb o _ e=>u.there b o e (by simp)) u.tups u.frzs u.tbls (λq j=>by
  obtain⟨v,es',c,a,k⟩:=j;rw[h]at a;cases a;exact⟨_,es',c,i,k⟩) f I.bare
def Inv.call{g':Array GenState}{t':Nat}{d':Drawn}{ch:List Addr}(I:Inv X pins σ H s)(u:Un (nQ X.stack) ch H H' s.heap h')(j:HOk X.prog X.w H' h')(q:AllBare g')
  (d:∀b∈ch,(b∈X.ex\/X.s_0.heap.objs.size<=b)/\b≠X.env.locals/\(∀x c,X.env.cells.lookup x=some c->c≠b)/\∀p∈X.pn++pins,p.1≠b):
  Inv X pins σ H' {s with heap:=h',gens:=g',drawn:=d',toks:=t'}:=by
 obtain⟨m,⟨o,B,A,k,r⟩,_⟩:=id I.loc;obtain⟨E,i⟩:=u.any k I.free λz=>(d _ z).2.1 rfl;exact I.step (ch:=ch) d (λb o i l a e n=>u.keep b o e n (λz=>(al_18.mp (I.stkSub b z)).elim i l) a) (λb o _ _ a e n=>u.any e n a) (λb o a e n=>u.free b o e n a) (λb o a e=>u.there b o e a) u.tups u.frzs u.tbls (λC v=>by
  obtain⟨D,es',h,f,y⟩:=v;rw[k]at f;cases f;exact⟨_,es',h,i,y⟩) j q
def Inv.turned{t':Nat}{a:Addr}(I:Inv X pins σ H s)(k:∀b o,b≠a->s.heap.get? b=some o->h'.get? b=some o)(C:H a=none)(h:a≠X.env.locals)
  (l:a∈X.ex\/X.s_0.heap.objs.size<=a) (w:∀x c,X.env.cells.lookup x=some c->c≠a) (y:∀p∈X.pn++pins,p.1≠a):Inv X pins σ H {s with heap:=h',toks:=t'}:=by
 have f:∀b u,H b=some u->b≠a:=λb u e z=>by rw[z,C]at e;cases e
 refine I.step (g':=s.gens) (d':=s.drawn) (ch:=[a]) (λb A=> ?_) (λb o _ _ d e _=>k b o (λz=>d (by simp [z])) e) (λb o _ _ d e _=>⟨o.slots,k b o (λz=>d (by simp [z])) e⟩) (λ_ _ _ _ n=>n)
  (λb o d e=>⟨o,k b o (λz=>d (by simp [z])) e⟩) (λ_ _ e=>e) (λ_ _ _ e=>e) (λb ps e=>⟨#[],by rw[e];simp⟩) (λm B=> ?_) (λb u e=> ?_) I.bare
 ·have e:b=a:=by simpa using A
  subst e;exact⟨l,h,w,y⟩
 ·obtain⟨o,j,i,D,r⟩:=B;exact⟨o,j,i,k _ o (dJ h) D,r⟩
 refine(I.hok b u e).stay (λc v d q=>k c v ?_ q) (λ_ q=>q) λ_ _ q=>q;rcases d with z|z
 ·rw[z];exact f b u e
 exact f c _ z
def Inv.tok(I:Inv X pins σ H s)(t:Nat):Inv X pins σ H {s with toks:=t}:=I.un (h':=s.heap) (t':=t) Un.refl I.hok
def Inv.kept(I:Inv X pins σ H s)(k:∀b u,s.heap.get? b=some u->h'.get? b=some u):Inv X pins σ H {s with heap:=h',toks:=t'}:=I.un (Un.kept k) (I.hok.kept k)
def Inv.laid(I:Inv X pins σ H s)(k:∀b u,s.heap.get? b=some u->h'.get? b=some u)(c:s.heap.objs.size<=a)(new:ObjOk X.prog X.w (aE H a o) h' a o):
  Inv X pins σ (aE H a o) {s with heap:=h',toks:=t'}:=I.un (Un.laid k c (I.hok.fresh c)) (I.hok.laid k c new)
def Inv.write(I:Inv X pins σ H s)(d:xJ (H x))(c:e=x\/H e=some (.own x))(k:∀b u,b≠e->s.heap.get? b=some u->h'.get? b=some u)(a:∃u,h'.get? e=some u)
  (new:ObjOk X.prog X.w (aE H x o) h' x o):Inv X pins σ (aE H x o) {s with heap:=h',toks:=t'}:=I.un (Un.write d c k a) (I.hok.write d c k a new)
def Inv.weak(I:Inv X pins σ H s)(e:a.length=σ.length)(w:∀(i:Nat) v,a[i]? =some (some v)->σ[i]? =some (some v)):Inv X pins a H s:=
 ⟨I.ok,I.os,I.bare,I.base,let⟨m,hn,hl'⟩:=I.loc;⟨m,hn,λi x v b c d=>hl' i x v b (w i v c) d⟩,I.cell,I.free,I.freeC,I.pin,I.hok,e.trans I.len⟩
def Inv.pins_of(I:Inv X pins σ H s)(h:∀p∈a,s.heap.get? p.1=some p.2/\H p.1=none/\p.1≠X.env.locals/\p.1∉X.fs/\∀v,p.2.data≠ .cell v):Inv X a σ H s:=
 ⟨I.ok,I.os,I.bare,I.base,I.loc,I.cell,I.free,I.freeC,λp b=>(al_51.mp b).elim (λz=>I.pin p (List.mem_append_left _ z)) (h p),I.hok,I.len⟩
def GE{N:List Str}(e:N.Nodup){i j:Nat}{x:Str}(a:N[i]? =some x)(b:N[j]? =some x):i=j:=by obtain⟨f,c⟩:=al_19.mp a;obtain⟨h,d⟩:=al_19.mp b;exact(List.getElem_inj e).mp (c.trans d.symm)
def NO(I:Inv X pins σ H s)(hN:X.N.Nodup)(hi:X.N[i]? =some x)(D:xK X.env.scope x)(r:RelV v u)
  (h:∀s',Inv X pins (σ.set i (some v)) H s'->(∃a,Heap.SameBut a s.heap s'.heap/\(a=X.env.locals\/X.env.cells.lookup x=some a))->Q () s') (hf:X.fn x=true\/X.env.scope.names.lookup x=some .local:=by first|exact .inl rfl|exact .inr rfl|assumption):wpAny M A (storeName X.env x u) Q E s:=by
 obtain⟨m,hn,hl⟩:=id I.loc;have U:(X.env.scope.kind== .class||(X.env.scope.kind== .module&&X.env.locals !=X.env.globals))=false:=by rw[I.ok.kind];rfl
 have J:i<σ.length:=by rw[I.len];exact(al_19.mp hi).1
 have cne:=I.cne;have B:∀{a:Addr} {h':Heap},(∃o,s.heap.get? a=some o/\H a=none)->Heap.SameBut a s.heap h'->HOk X.prog X.w H h':=λ{a h'} ha f b ob e=>by
  obtain⟨_,_,F⟩:=ha;refine(I.hok b ob e).stay (λc w' C q=>(f.2 c ?_).trans q) (λ_ q=>q) λ_ _ q=>q;rintro rfl;rcases C with rfl|C
  ·rw[F]at e;cases e
  rw[F]at C;cases C
 rcases D with hk|hk
 ·refine wpAny_storeName_local hk hn (λh' h0 f=> ?_) U;obtain⟨oL,_,_,h1,_⟩:=id hn;refine h _ ⟨I.ok,I.os,I.bare,⟨λb o e n K D=> ?_,λb o e n K D=> ?_,I.base.free,λb o e D=> ?_,I.base.tups,I.base.frzs,I.base.tbls⟩,⟨_,h0,λj y v' l G e3=> ?_⟩,λy c e=> ?_,I.free,I.freeC,λp hp=> ?_,B ⟨oL,h1,I.free⟩ f,by simpa using I.len⟩ ⟨_,f,.inl Z⟩;·exact(f.2 b (fI (gJ (cP e) I.ok.above))).trans (I.base.keep b o e n K D)
  ·obtain⟨sl,l⟩:=I.base.slot b o e n K D;exact⟨sl,(f.2 b (fI (gJ (cP e) I.ok.above))).trans l⟩
  ·obtain⟨o',l⟩:=I.base.there b o e D;exact⟨o',(f.2 b (fI (gJ (cP e) I.ok.above))).trans l⟩
  ·by_cases O:j=i;·subst O;rw[hi]at l;cases l;rw[zY J]at G;cases G;exact⟨u,r,.inl ⟨hk,by simp⟩⟩
   rw[zZ (dJ O)]at G;obtain⟨u',r',q⟩:=hl j y v' l G e3;refine⟨u',r',?_⟩;rcases q with⟨k,e⟩|⟨k,c,e,z⟩
   ·refine .inl ⟨k,?_⟩;have:y≠x:=λe=>O (GE hN l (e▸hi));simp [this,e]
   exact .inr ⟨k,c,e,z.sameBut f (cne y c e)⟩
  ·obtain⟨w',z⟩:=I.cell y c e;exact⟨w',z.sameBut f (cne y c e)⟩
  obtain⟨e,n,ne,nf,d⟩:=I.pin p hp;exact⟨(f.2 p.1 ne).trans e,n,ne,nf,d⟩
 have L:X.fn x=true:=by
  rcases hf with z|z;·exact z
  rw[z]at hk;cases hk
 obtain⟨c,C⟩:=I.ok.has x (.inl hk);obtain⟨w',z⟩:=I.cell x c C;refine wpAny_storeName_cell I.ok.kind hk C z (λh' P f=> ?_);obtain⟨oc,W,Y⟩:=id z;refine h {s with heap:=h'} ⟨I.ok,I.os,I.bare,⟨λb o e n K D=> ?_,λb o e n K D=> ?_,I.base.free,λb o e D=> ?_,I.base.tups,I.base.frzs,I.base.tbls⟩,⟨m,hn.sameBut f (dJ (cne x c C)),λj y v' l G e3=> ?_⟩,λy c' e=> ?_,I.free,I.freeC,λp hp=> ?_,B ⟨oc,W,I.freeC x c C⟩ f,by simpa using I.len⟩ ⟨c,f,.inr C⟩;·exact(f.2 b (fI (gJ (cP e) (I.ok.cab x c L C)))).trans (I.base.keep b o e n K D)
 ·obtain⟨sl,l⟩:=I.base.slot b o e n K D;exact⟨sl,(f.2 b (fI (gJ (cP e) (I.ok.cab x c L C)))).trans l⟩
 ·obtain⟨o',l⟩:=I.base.there b o e D;exact⟨o',(f.2 b (fI (gJ (cP e) (I.ok.cab x c L C)))).trans l⟩
 ·by_cases O:j=i;·subst O;rw[hi]at l;cases l;rw[zY J]at G;cases G;exact⟨u,r,.inr ⟨.inl hk,c,C,P⟩⟩
  rw[zZ (dJ O)]at G;obtain⟨u',r',q⟩:=hl j y v' l G e3;refine⟨u',r',?_⟩;rcases q with q|⟨k,c',e,z'⟩
  ·exact .inl q
  refine .inr ⟨k,c',e,z'.sameBut f ?_⟩;rintro rfl;exact O (GE hN l (I.ok.inj _ _ _ e C▸hi))
 ·by_cases T:c'=c;·subst T;exact⟨_,P⟩
  obtain⟨w2,z2⟩:=I.cell y c' e;exact⟨w2,z2.sameBut f T⟩
 obtain⟨e,n,ne,nf,d⟩:=I.pin p hp;refine⟨(f.2 p.1 ?_).trans e,n,ne,nf,d⟩;intro q;rw[q,W]at e;have q':oc=p.2:=cV e;exact d w' (by rw[<- q'];exact Y)
def GF(I:Inv X pins σ H s)(c:X.N.Nodup)(hi:X.N[i]? =some x)(e:xK X.env.scope x)(r:RelV v u)
  (h:∀a,Inv X pins (σ.set i (some v)) H a->Q () a) (d:X.fn x=true\/X.env.scope.names.lookup x=some .local:=by first|exact .inl rfl|exact .inr rfl|assumption):wpAny M A (storeName X.env x u) Q E s:=
 NO I c hi e r (λa b _=>h a b) d
def Inv.call'(I:Inv X pins σ H s)(i:a.os=s.os)(u:Un (nQ X.stack) ch H H' s.heap a.heap)(f:HOk X.prog X.w H' a.heap)(h:AllBare a.gens)
  (d:∀b∈ch,(b∈X.ex\/X.s_0.heap.objs.size<=b)/\b≠X.env.locals/\(∀x c,X.env.cells.lookup x=some c->c≠b)/\∀p∈X.pn++pins,p.1≠b):Inv X pins σ H' a:=by
 obtain⟨h',g',d',t',j⟩:=a;have e:j=s.os:=i;subst e;exact I.call (g':=g') (t':=t') (d':=d') u f h d
end
abbrev XK:=Value->Option Addr->Hp->Prop
abbrev St:=List (Option V)
abbrev VK:=V->Hp->Prop
abbrev TE:=St->Hp->VK->Prop
abbrev TT:=St->Hp->(Bool->Hp->Prop)->Prop
abbrev TA:=St->Hp->(List V->Hp->Prop)->Prop
structure Dm where
 rt:VK
 bk:St->Hp->Prop:=λ_ _=>False
 ct:St->Hp->Prop:=λ_ _=>False
structure Ends extends Dm where
 nx:St->Hp->Prop
def Ends.thn(D:Ends)(n:St->Hp->Prop):Ends:={D with nx:=n}
def Ends.lp(D:Ends)(n:St->Hp->Prop):Ends:={D with nx:=n,ct:=n,bk:=D.nx}
def Ends.fn(Q:VK):Ends:={nx:=λ_ H'=>Q .non H',rt:=Q}
abbrev TS:=Ends->St->Hp->Prop
inductive EP(X:Cx)(pins:List (Addr×Obj))(σ:St)(Q:VK)(u:Value)(s':Shared):Prop
 |mk (v:V) (H':Hp) (_:Inv X pins σ H' s') (_:RelV v u) (_:Q v H')
def TP(X:Cx)(pins:List (Addr×Obj))(σ:St)(Q:Bool->Hp->Prop)(b:Bool)(a:Shared):Prop:=∃H',Inv X pins σ H' a/\Q b H'
inductive AP(X:Cx)(pins:List (Addr×Obj))(σ:St)(Q:List V->Hp->Prop)(us:List Value)(s':Shared):Prop
 |mk (vs:List V) (H':Hp) (_:Inv X pins σ H' s') (_:Vals vs us) (_:Q vs H')
def SP(X:Cx)(pins:List (Addr×Obj))(D:Ends)(f:Flow)(b:Shared):Prop:=
 match f with| .next=>∃a H',Inv X pins a H' b/\D.nx a H'| .brk=>∃a H',Inv X pins a H' b/\D.bk a H'| .cont=>∃a H',Inv X pins a H' b/\D.ct a H'| .ret u=>∃v a H',Inv X pins a H' b/\RelV v u/\D.rt v H'
def PE(X:Cx)(e:Expr)(t:TE):Prop:=
 ∀(pins:List (Addr×Obj)) (s:Shared) (σ:St) (H:Hp) (Q:VK),Inv X pins σ H s->t σ H Q->wpAny (model X.prog X.w) X.A (eval e X.env) (EP X pins σ Q) X.xe s
def PT(X:Cx)(e:Expr)(t:TT):Prop:=
 ∀(pins:List (Addr×Obj)) (s:Shared) (σ:St) (H:Hp) (Q:Bool->Hp->Prop),Inv X pins σ H s->t σ H Q->wpAny (model X.prog X.w) X.A (isTrue e X.env (eval e X.env)) (TP X pins σ Q) X.xe s
def PW(X:Cx)(e:Expr)(t:TT):Prop:=
 ∀(a:Sem Value) (pins:List (Addr×Obj)) (s:Shared) (σ:St) (H:Hp) (Q:Bool->Hp->Prop),Inv X pins σ H s->t σ H Q->wpAny (model X.prog X.w) X.A (isTrue e X.env a) (TP X pins σ Q) X.xe s
def PW.pt(h:PW X e t):PT X e t:=h _
def PA(X:Cx)(b:List Expr)(t:TA):Prop:=
 ∀(a:Pos) (pins:List (Addr×Obj)) (s:Shared) (σ:St) (H:Hp) (Q:List V->Hp->Prop),Inv X pins σ H s->t σ H Q->wpAny (model X.prog X.w) X.A (spliced (backTo a (starEach b X.env))) (AP X pins σ Q) X.xe s
def PS(X:Cx)(st:Stmt)(t:TS):Prop:=
 ∀(pins:List (Addr×Obj)) (s:Shared) (σ:St) (H:Hp) (D:Ends),Inv X pins σ H s->t D σ H->wpAny (model X.prog X.w) X.A (exec st X.env) (SP X pins D) X.xe s
def PSs(X:Cx)(st:List Stmt)(t:TS):Prop:=
 ∀(pins:List (Addr×Obj)) (s:Shared) (σ:St) (H:Hp) (D:Ends),Inv X pins σ H s->t D σ H->wpAny (model X.prog X.w) X.A (execs st X.env) (SP X pins D) X.xe s
def thn(h:wpAny M A t Q E s)(c:∀a s,Q a s->b a s):wpAny M A t b E s:=kP h c λ_ _ x=>x
section
inductive Dn(i:Nat)(σ:St)(H:Hp)(Q:VK):Prop
 |mk (v:V) (_:σ[i]? =some (some v)) (_:Q v H)
def rE(i:Nat):TE:=Dn i
inductive QB(H:Hp)(Q:Bool->Hp->Prop)(x:V):Prop
 |mk (c:Bool) (_:x= .bl c) (_:Q c H)
def tC(v:V):TE:=λ_ H Q=>Q v H
def Do(j:X.N[i]? =some x)(o:vA X.env.scope x)(d:(x==("__debug__":Str))=false:=by decide) (b:(x==("__classdict__":Str))=false:=by decide):PE X (.Name x f) (rE i):=by
 intro pins s σ H Q I h;obtain⟨v,e,h⟩:=h;obtain⟨m,n,k⟩:=I.loc;obtain⟨u,r,l⟩:=k i x v j e o;have a:EP X pins σ Q u s:=⟨v,H,I,r,h⟩;rcases l with⟨hk,hm⟩|⟨hk,c,hc,hcell⟩
 ·exact wpAny_Name (wpAny_loadName_local I.ok.kind hk n hm a) d
 rcases hk with hk|hk;·exact wpAny_Name (wpAny_loadName_cell I.ok.kind hk hc hcell a) d
 exact wpAny_Name (wpAny_loadName_free I.ok.kind hk hc hcell a b) d
def bQ:PE X (.Constant (.int i) j pos) (tC (.int i)):=λ_ _ _ H _ I h=>wpAny_Constant_int ⟨.int i,H,I.tok _,⟨_,Z⟩,h⟩
def eJ:PE X (.Constant (.bool b) j pos) (tC (.bl b)):=λ_ _ _ H _ I h=>Constant_bool ⟨.bl b,H,I,Z,h⟩
def dC:PE X (.Constant .none j pos) (tC .non):=λ_ _ _ H _ I h=>Constant_none ⟨.non,H,I,Z,h⟩
def Gl(X:Cx)(x:Str):Prop:=X.env.kindOf x=some .globalImplicit
def AX(I:Inv X pins σ H s)(c:Gl X x)(d:X.mg x=some u)(h:Q u s)
  (b:(x==("__debug__":Str))=false:=by decide):wpAny (model X.prog X.w) X.A (eval (.Name x a) X.env) Q E s:=
 Calls.Name_function_global I.ok.kind c (Calls.loadGlobal_global (by rw[I.ok.glob];exact I.mod.glob.keeps I.bk) d h) b
def xL(I:Inv X pins σ H s)(e:Gl X x)(f:X.mg x=none)(j:bootBuiltins x=some u)(h:Q u s)
  (i:x≠"__name__":=by decide) (d:(x==("__debug__":Str))=false:=by decide):wpAny (model X.prog X.w) X.A (eval (.Name x a) X.env) Q E s:=by
 obtain⟨k,b,c⟩:=I.mod.blt;exact Calls.Name_function_global I.ok.kind e (Calls.loadGlobal_builtin (by rw[I.ok.glob];exact I.mod.glob.keeps I.bk) f (by rw[I.ok.blt];exact b.keeps I.bk) ((c x i).trans j) h) d
def sW(c:Gl X x)(d:X.mg x=some u)(r:RelV v u)(b:(x==("__debug__":Str))=false:=by decide):PE X (.Name x a) (tC v):=
 λ_ _ _ H _ I h=>AX I c d ⟨v,H,I,r,h⟩ b
def PC(X:Cx)(op:CmpOp)(a b:Expr)(t:TE):Prop:=
 ∀(pins:List (Addr×Obj)) (s:Shared) (σ:St) (H:Hp) (Q:VK),Inv X pins σ H s->t σ H Q->
  wpAny (model X.prog X.w) X.A (eval a X.env) (λv c=>wpAny (model X.prog X.w) X.A (eval b X.env) (λu d=>wpAny (model X.prog X.w) X.A (compareOp op v u) (EP X pins σ Q) X.xe d) X.xe c) X.xe s
def Dq(b:Expr)(h:op≠ .In)(d:op≠ .NotIn):behindInMarks op b=false:=by
 have a:(op==CmpOp.In)=false:=by cases op<;>first|rfl|exact absurd rfl h
 have c:(op==CmpOp.NotIn)=false:=by cases op<;>first|rfl|exact absurd rfl d
 cases b<;>simp [behindInMarks,a,c]
def Ds(b:TE):TE:=λσ H Q=>b σ H λx a=>Q (.bl (decide (x= .non))) a
def Dt(b:TE):TE:=λσ H Q=>b σ H λx a=>Q (.bl (!decide (x= .non))) a
def RelV.none_iff(r:RelV x v):(v==Value.none)=decide (x= .non):=by
 cases x with
 |non=>cases r;rfl
 |bl _=>cases r;rfl
 |int _=>obtain⟨t,rfl⟩:=r;rfl
 |str _=>obtain⟨t,rfl⟩:=r;rfl
 |byt _=>obtain⟨t,rfl⟩:=r;rfl
 |flt _=>obtain⟨t,rfl⟩:=r;rfl
 |ref _=>cases r;rfl
 |ty _=>cases r;rfl
def fT(d:PE X a ta):PC X .Is a (.Constant .none j pos') (Ds ta):=by intro pins s σ H Q I h;refine thn (d pins s σ H _ I h) λv i ⟨x,b,c,f,e⟩=> ?_;exact Constant_none (is_none_gen ⟨.bl _,b,c,by rw[f.none_iff];rfl,e⟩)
def Du(d:PE X a ta):PC X .IsNot a (.Constant .none j pos') (Dt ta):=by intro pins s σ H Q I h;refine thn (d pins s σ H _ I h) λv i ⟨x,b,c,f,e⟩=> ?_;exact Constant_none (isnot_none_gen ⟨.bl _,b,c,by rw[f.none_iff];rfl,e⟩)
def tB(t:TE):TT:=λσ H Q=>t σ H λx a=>QB a Q x
def fK(h:PC X op a b t)(e:behindInMarks op b=false:=by first|exact Dq _ (by decide) (by decide)|rfl):PT X (.Compare a [op] [b] pos) (tB t):=by intro pins s σ H Q I k;refine wpAny_isTrue_Compare1 (thn (h pins s σ H _ I k) λv n e=>thn e λu o j=>thn j λc p ⟨x,f,i,m,l⟩=> ?_) e;obtain⟨d,rfl,q⟩:=l;cases m;exact wS ⟨f,i,q⟩
def bY(h:PE X e t)(f:∀a,isTrue e X.env a=(do let v<-a;standAt e.pos;holding [v] (truthy v)):=by intro _;rfl):PT X e (tB t):=by intro pins s σ H Q I i;refine isTrue_plain (thn (h pins s σ H _ I i) λv l ⟨x,b,c,k,j⟩=> ?_) (f _);obtain⟨d,rfl,q⟩:=j;cases k;exact wS ⟨b,c,q⟩
def Dv(t u:TT):TT:=λσ H Q=>t σ H λc a=>if c=true then u σ a Q else Q false a
def Dx(t u:TT):TT:=λσ H Q=>t σ H λc a=>if c=true then Q true a else u σ a Q
def Dy(t:TT):TT:=λσ H Q=>t σ H λc a=>Q (!c) a
def oS(b:PT X a tA):PW X (.BoolOp .And [a] pos) tA:=by intro f pins s σ H Q I h;refine isTrue_and (thn (b pins s σ H Q I h) λc d e=> ?_);cases c with|true=>exact isTrue_and_nil e|false=>exact e
def kU(b:PT X a tA):PW X (.BoolOp .Or [a] pos) tA:=by intro f pins s σ H Q I h;refine isTrue_or (thn (b pins s σ H Q I h) λc d e=> ?_);cases c with|false=>exact isTrue_or_nil e|true=>exact e
def nR(i:PT X a tA)(j:PW X (.BoolOp .And (b::rest) pos) tB'):PW X (.BoolOp .And (a::b::rest) pos) (Dv tA tB'):=by intro l pins s σ H Q I h;refine isTrue_and (thn (i pins s σ H _ I h) λc k ⟨d,e,f⟩=> ?_);cases c with|true=>exact j l pins k σ d Q e f|false=>exact⟨d,e,f⟩
def jE(i:PT X a tA)(j:PW X (.BoolOp .Or (b::rest) pos) tB'):PW X (.BoolOp .Or (a::b::rest) pos) (Dx tA tB'):=by intro l pins s σ H Q I h;refine isTrue_or (thn (i pins s σ H _ I h) λc k ⟨d,e,f⟩=> ?_);cases c with|true=>exact⟨d,e,f⟩|false=>exact j l pins k σ d Q e f
def iI(d:PT X a tA):PT X (.UnaryOp .Not a pos) (Dy tA):=by intro pins s σ H Q I h;exact isTrue_not (d pins s σ H (λc b=>Q (!c) b) I h)
def Dz(b d:TE):TE:=λσ H Q=>b σ H λx a=>QB a (λc a=>if c=true then d σ a Q else Q (.bl false) a) x
def Ea(b d:TE):TE:=λσ H Q=>b σ H λx a=>QB a (λc a=>if c=true then Q (.bl true) a else d σ a Q) x
def lO(h:PE X a t):PE X (.BoolOp op [a] pos) t:=λpins s σ H Q I b=>BoolOp_one (h pins s σ H Q I b)
def oT(i:PE X a ta)(j:PE X (.BoolOp .And (b::rest) pos) tb):PE X (.BoolOp .And (a::b::rest) pos) (Dz ta tb):=by intro pins s σ H Q I h;refine BoolOp_and (thn (i pins s σ H _ I h) λv l ⟨x,e,f,k,d⟩=> ?_);obtain⟨c,rfl,d⟩:=d;cases k;refine wS ?_;cases c with|true=>exact j pins l σ e Q f d|false=>exact⟨.bl false,e,f,Z,d⟩
def sX(i:PE X a ta)(j:PE X (.BoolOp .Or (b::rest) pos) tb):PE X (.BoolOp .Or (a::b::rest) pos) (Ea ta tb):=by intro pins s σ H Q I h;refine BoolOp_or (thn (i pins s σ H _ I h) λv l ⟨x,e,f,k,d⟩=> ?_);obtain⟨c,rfl,d⟩:=d;cases k;refine wS ?_;cases c with|false=>exact j pins l σ e Q f d|true=>exact⟨.bl true,e,f,Z,d⟩
def Eb(t:TT)(b d:TE):TE:=λσ H Q=>t σ H λc a=>if c=true then b σ a Q else d σ a Q
def mK(m:PT X c tA)(k:PE X a ta)(l:PE X b tb):PE X (.IfExp c a b pos) (Eb tA ta tb):=by intro pins s σ H Q I h;refine wpAny_IfExp (thn (m pins s σ H _ I h) λd j ⟨e,f,i⟩=> ?_);cases d with|true=>exact k pins j σ e Q f i|false=>exact l pins j σ e Q f i
end
def SqL(K:PySem.W.Frag)(H:Hp)(a:Addr)(xs:List V):Prop:=
 Rd H a (.lst xs)\/
  ∃(o:Obj) (b:Array Value) (n:Nat),K.lookup a=some o/\o.cls= .type "list"/\o.dict=none/\o.data= .seq b n/\b.size<=sizeLine/\Vals xs b.toList
def SqT(K:PySem.W.Frag)(H:Hp)(a:Addr)(xs:List V):Prop:=
 Rd H a (.tup xs)\/
  ∃(o:Obj) (b:Array Value) (n:Nat),K.lookup a=some o/\o.cls= .type "tuple"/\o.data= .seq b n/\b.size<=sizeLine/\Vals xs b.toList
def Ec:Value->Option V
 | .none=>some .non
 | .bool b=>some (.bl b)
 | .int i _=>some (.int i)
 | .str x _=>some (.str x)
 | .bytes b _=>some (.byt b)
 | .float b _=>some (.flt b)
 | .ref a=>some (.ref a)
 | .type n=>some (.ty n)
 |_=>none
def RelV.abs(r:RelV x u):Ec u=some x:=by
 cases x with
 |non=>cases r;rfl
 |bl _=>cases r;rfl
 |int _=>obtain⟨t,rfl⟩:=r;rfl
 |str _=>obtain⟨t,rfl⟩:=r;rfl
 |byt _=>obtain⟨t,rfl⟩:=r;rfl
 |flt _=>obtain⟨t,rfl⟩:=r;rfl
 |ref _=>cases r;rfl
 |ty _=>cases r;rfl
def RelV.inj(r:RelV x u)(q:RelV y u):x=y:=cV (r.abs.symm.trans q.abs)
def Vals.inj:∀{xs ys:List V} {us:List Value},Vals xs us->Vals ys us->xs=ys
 |_,_,_,.nil,.nil=>rfl
 |_,_,_,.cons r t,.cons r' t'=>by rw[r.inj r',Vals.inj t t']
section
variable{X:Cx}{pins:List (Addr×Obj)}{σ:St}{H:Hp}{s:Shared}{a:Addr}{xs ys:List V}
def SqL.of{K:PySem.W.Frag}(h:H a=some (.lst xs)):SqL K H a xs:= .inl (.inl h)
def SqT.of{K:PySem.W.Frag}(h:H a=some (.tup xs)):SqT K H a xs:= .inl (.inl h)
def Inv.list(I:Inv X pins σ H s)(h:SqL X.K H a xs):∃b:List Value,Vals xs b/\PlainL s.heap a b.toArray/\xs.length<=sizeLine:=by
 rcases h with h|⟨o,b,n,hk,hc,hd,hs,hz,r⟩;·obtain⟨z,b,n,r,e⟩:=h.ok I.hok;exact⟨b,r,⟨_,n,e,Z,Z,Z⟩,z⟩
 refine⟨b.toList,r,⟨o,n,I.kIn a o hk,hc,hd,by simpa using hs⟩,?_⟩;have e:=r.length;simp only [cO]at e;lia
def Inv.tuple(I:Inv X pins σ H s)(h:SqT X.K H a xs):∃b:List Value,Vals xs b/\IsTup s.heap a b.toArray/\xs.length<=sizeLine:=by
 rcases h with h|⟨o,b,n,hk,hc,hs,hz,r⟩;·obtain⟨z,b,r,p⟩:=h.ok I.hok;exact⟨b,r,p,z⟩
 refine⟨b.toList,r,⟨o,I.kIn a o hk,hc,n,by simpa using hs⟩,?_⟩;have e:=r.length;simp only [cO]at e;lia
def Inv.list_inj(I:Inv X pins σ H s)(h:SqL X.K H a xs)(h':SqL X.K H a ys):xs=ys:=by
 obtain⟨b,r,⟨o,n,e,_,_,d⟩,_⟩:=I.list h;obtain⟨its',i,⟨k,j,c,_,_,d'⟩,_⟩:=I.list h';rw[e]at c;cases c;rw[d]at d';injection d' with f _
 have:b=its':=by simpa using bS Array.toList f
 subst this;exact r.inj i
def Inv.tuple_inj(I:Inv X pins σ H s)(h:SqT X.K H a xs)(h':SqT X.K H a ys):xs=ys:=by
 obtain⟨b,r,⟨o,e,_,n,d⟩,_⟩:=I.tuple h;obtain⟨its',i,⟨k,c,_,j,d'⟩,_⟩:=I.tuple h';rw[e]at c;cases c;rw[d]at d';injection d' with f _
 have:b=its':=by simpa using bS Array.toList f
 subst this;exact r.inj i
end
abbrev Cx.wish(X:Cx)(E:Value->Shared->Prop):Cx:={X with xe:=E}
abbrev Cx.nox(X:Cx):Cx:=X.wish λ_ _=>False
def Cx.Ok.wish{X:Cx}(ok:X.Ok)(E:Value->Shared->Prop):(X.wish E).Ok:=
 ⟨ok.mod,ok.kind,ok.glob,ok.blt,ok.above,ok.inj,ok.has,ok.cab,ok.hd,ok.frames,ok.stk,ok.exf,ok.bs,ok.bsz,ok.noex,ok.exfs,ok.funs,ok.frf⟩
def Cx.Ok.unwish{X:Cx}{E:Value->Shared->Prop}(ok:(X.wish E).Ok):X.Ok:=
 ⟨ok.mod,ok.kind,ok.glob,ok.blt,ok.above,ok.inj,ok.has,ok.cab,ok.hd,ok.frames,ok.stk,ok.exf,ok.bs,ok.bsz,ok.noex,ok.exfs,ok.funs,ok.frf⟩
section
variable{X:Cx}{pins:List (Addr×Obj)}{σ:St}{H:Hp}{s:Shared}{E:Value->Shared->Prop}
def Inv.wish(I:Inv X pins σ H s)(E:Value->Shared->Prop):Inv (X.wish E) pins σ H s:=⟨I.ok.wish E,I.os,I.bare,I.base,I.loc,I.cell,I.free,I.freeC,I.pin,I.hok,I.len⟩
def Inv.unwish(I:Inv (X.wish E) pins σ H s):Inv X pins σ H s:=⟨I.ok.unwish,I.os,I.bare,I.base,I.loc,I.cell,I.free,I.freeC,I.pin,I.hok,I.len⟩
def SP.unwish(h:SP (X.wish E) pins D f b):SP X pins D f b:=by
 cases f with
 |next=>obtain⟨a,H',I,q⟩:=h;exact⟨a,H',I.unwish,q⟩
 |brk=>obtain⟨a,H',I,q⟩:=h;exact⟨a,H',I.unwish,q⟩
 |cont=>obtain⟨a,H',I,q⟩:=h;exact⟨a,H',I.unwish,q⟩
 |ret u=>obtain⟨v,a,H',I,r,q⟩:=h;exact⟨v,a,H',I.unwish,r,q⟩
def PSs.nox{st:List Stmt}{t:TS}(h:PSs X.nox st t):PSs X st t:=λpins s σ H D I a=>
 kP (h pins s σ H D (I.wish _) a) (λ_ _ q=>q.unwish) λ_ _ z=>False.elim z
end
section
variable{X:Cx}{st:Stmt}{rest:List Stmt}{t u:TS}{e:Expr}{te:TE}{pos:Pos}
def Ed:TS:=λD σ H=>D.nx σ H
def pU(t u:TS):TS:=λD σ H=>t (D.thn (u D)) σ H
def bD:PSs X [] Ed:=λ_ _ σ H _ I h=>AA ⟨σ,H,I,h⟩
def aF(c:PS X st t)(d:PSs X rest u):PSs X (st::rest) (pU t u):=by
 intro pins s σ H D I h;refine wpAny_execs_cons (thn (c pins s σ H (D.thn (u D)) I h) λf e q=> ?_);cases f with
 |next=>
  obtain⟨a,H',b,q⟩:=q;exact d pins e a H' D b q
 |ret v=>exact q
 |brk=>exact q
 |cont=>exact q
def aG(a:PS X st t):PSs X [st] t:=by intro pins s σ H D I h;refine wpAny_execs_cons (thn (a pins s σ H D I h) λf b q=> ?_);cases f with|next=>exact AA q|ret v=>exact q|brk=>exact q|cont=>exact q
def Ee:TS:=λD σ H=>D.bk σ H
def Ef:PS X (.Break pos) Ee:=λ_ _ σ H _ I h=>wpAny_Break ⟨σ,H,I,h⟩
def Inv.quiet(I:Inv X pins σ H s):interactive X.env=false:=by simp [interactive,I.ok.kind]
def Eg(b:TE):TS:=λD σ H=>b σ H λ_ a=>D.nx σ a
def eY(c:PE X e te)(d:swapsWith e none pos.line X.env=pure false:=by rfl):PS X (.Expr e pos) (Eg te):=by intro pins s σ H D I h;exact wpAny_Expr_any (thn (c pins s σ H _ I h) λv j ⟨x,a,b,i,f⟩=>⟨σ,a,b,f⟩) I.quiet d
def Eh(a:TE):TS:=λD σ H=>a σ H D.rt
def aI(c:PE X e te):PS X (.Return (some e) pos) (Eh te):=by intro pins s σ H D I h;exact wpAny_Return_some (thn (c pins s σ H _ I h) λv i ⟨x,a,b,f,d⟩=>⟨x,σ,a,b,f,d⟩)
def GH(c:TT)(t u:TS):TS:=λD σ H=>c σ H λb a=>if b=true then t D σ a else u D σ a
def aY(n:PT X c k)(l:PSs X a t)(m:PSs X b u):PS X (.If c a b pos) (GH k t u):=by intro pins s σ H D I h;refine wpAny_If (thn (n pins s σ H _ I h) λd j ⟨e,f,i⟩=> ?_);cases d with|true=>exact l pins j σ e D f i|false=>exact m pins j σ e D f i
end
abbrev TG:=V->St->Hp->(St->Hp->Prop)->Prop
abbrev rF:=List V->St->Hp->(St->Hp->Prop)->Prop
def PG(X:Cx)(a:Expr)(t:TG):Prop:=
 ∀(pins:List (Addr×Obj)) (s:Shared) (σ:St) (H:Hp) (v:V) (u:Value) (Q:St->Hp->Prop),Inv X pins σ H s->RelV v u->t v σ H Q->
  wpAny (model X.prog X.w) X.A (assign a X.env u) (λ_ c=>∃b H',Inv X pins b H' c/\Q b H') X.xe s
def xM(X:Cx)(c:List Expr)(t:rF):Prop:=
 ∀(pins:List (Addr×Obj)) (s:Shared) (σ:St) (H:Hp) (vs:List V) (us:List Value) (Q:St->Hp->Prop),Inv X pins σ H s->Vals vs us->t vs σ H Q->
  wpAny (model X.prog X.w) X.A (assignInOrder ((assignEach c X.env).map (·.2)) us) (λ_ b=>∃a H',Inv X pins a H' b/\Q a H') X.xe s
abbrev GI:=V->V->V->Hp->(Hp->Prop)->Prop
def NP(X:Cx)(t:GI):Prop:=
 ∀(pins:List (Addr×Obj)) (s:Shared) (σ:St) (H:Hp) (o i v:V) (b a u:Value) (Q:Hp->Prop),Inv X pins σ H s->RelV o b->RelV i a->RelV v u->t o i v H Q->
  wpAny (model X.prog X.w) X.A (setItem b a u) (λ_ c=>∃H',Inv X pins σ H' c/\Q H') X.xe s
abbrev sY:=V->V->Hp->VK->Prop
def xN(X:Cx)(op:Operator)(t:sY):Prop:=
 ∀(pins:List (Addr×Obj)) (s:Shared) (σ:St) (H:Hp) (x y:V) (v u:Value) (Q:VK),Inv X pins σ H s->RelV x v->RelV y u->t x y H Q->
  wpAny (model X.prog X.w) X.A (inplaceOp op v u) (EP X pins σ Q) X.xe s
section
def vB(i:Nat):TG:=λv σ H Q=>Q (σ.set i (some v)) H
def NQ(b:X.N.Nodup)(hi:X.N[i]? =some x)(d:xK X.env.scope x)(c:X.fn x=true\/X.env.scope.names.lookup x=some .local:=by first|exact .inl rfl|exact .inr rfl|assumption):PG X (.Name x pos) (vB i):=by intro pins s σ H v u Q I r h;exact wpAny_assign_Name (GF I b hi d r (λe a=>⟨_,H,a,h⟩) c)
def Ei:rF:=λvs σ H Q=>vs=[]/\Q σ H
def Ej(t:TG)(u:rF):rF:=λvs σ H Q=>∃v r,vs=v::r/\t v σ H λa H'=>u r a H' Q
def vC:xM X [] Ei:=by intro pins s σ H vs us Q I r h;obtain⟨e,h⟩:=h;subst e;cases r;exact assignInOrder_nil ⟨σ,H,I,h⟩
def mL(i:PG X e t)(j:xM X a u)
  (k:(assignEach (e::a) X.env).map (·.2)=assign e X.env::(assignEach a X.env).map (·.2):=by rfl):xM X (e::a) (Ej t u):=by
 intro pins s σ H vs us Q I r h;obtain⟨v,n,f,h⟩:=h;subst f;cases r with
 |cons r rr=>
  rw[k];refine assignInOrder_cons (thn (i pins s σ H _ _ _ I r h) λ_ m ⟨b,c,d,l⟩=> ?_);exact j pins m b c _ _ Q d rr l
def NR(K:PySem.W.Frag)(n:Nat)(t:rF):TG:=λv σ H Q=>∃a xs,v= .ref a/\SqT K H a xs/\xs.length=n/\t xs σ H Q
def GJ(m:X.calm=true)(h:xM X c t)
  (q:(assignEach c X.env).length=n:=by rfl) (d:(assignEach c X.env).findIdx? (·.1)=none:=by rfl):PG X (.Tuple c k pos) (NR X.K n t):=by
 intro pins s σ H v u Q I r f;obtain⟨a,xs,l,w,p,f⟩:=f;subst l;cases r;obtain⟨z,i,x,hz⟩:=I.tuple w;refine assign_Tuple_tuple (I.ok.hd m) x (by simp [q,<- p,i.length]) d λh' y=> ?_;have j:Inv X pins σ H {s with heap:=h'}:=I.kept (t':=s.toks) λb o e=>y b o (fI (cP e)) e;exact h pins _ σ H xs _ Q j (by simpa using i) f
def xO(b:TE)(g:TG):TS:=λD σ H=>b σ H λx a=>g x σ a D.nx
def NS(j:X.N.Nodup)(hi:X.N[i]? =some x)(n:xK X.env.scope x)(k:PE X e b)(m:swapsWith e (some (.Name x a)) pos.line X.env=pure false:=by rfl) (l:X.fn x=true\/X.env.scope.names.lookup x=some .local:=by first|exact .inl rfl|exact .inr rfl|assumption):
  PS X (.Assign [.Name x a] e pos) (xO b (vB i)):=by
 intro pins s σ H D I h;refine wpAny_Assign_Name (thn (k pins s σ H _ I h) λv q ⟨y,c,d,p,o⟩=> ?_) m;exact GF d j hi n p (λr f=>⟨_,c,f,o⟩) l
def NT(i:Nat)(c:TE)(d:sY):TS:=λD σ H=>∃x,σ[i]? =some (some x)/\c σ H λy a=>d x y a λz b=>D.nx (σ.set i (some z)) b
def Ek(J:X.N.Nodup)(hi:X.N[i]? =some x)(f:xK X.env.scope x)(K:PE X e o)(P:xN X op p)(L:X.fn x=true\/X.env.scope.names.lookup x=some .local:=by first|exact .inl rfl|exact .inr rfl|assumption):
  PS X (.AugAssign (.Name x a) op e pos) (NT i o p):=by
 intro pins s σ H D I h;obtain⟨v,G,h⟩:=h;obtain⟨m,O,M⟩:=I.loc;have j:vA X.env.scope x:=by rcases f with k|k;exact .inl k;exact .inr (.inl k)
 obtain⟨u,r,l⟩:=M i x v hi G j;refine wpAny_AugAssign_Name ?_;have n:wpAny (model X.prog X.w) X.A (eval e X.env) (λw b=>wpAny (model X.prog X.w) X.A (inplaceOp op u w) (λr d=>wpAny (model X.prog X.w) X.A (storeName X.env x r) (λ_=>SP X pins D .next) X.xe d) X.xe b) X.xe s:=by refine thn (K pins s σ H _ I h) λw Y ⟨y,q,C,U,Q⟩=> ?_;refine thn (P pins Y σ q v y u w _ C r U Q) λz s2 ⟨zv,B,E,W,T⟩=> ?_;exact GF E J hi f W (λs3 F=>⟨_,B,F,T⟩) L
 rcases l with⟨hk,hm⟩|⟨hk,c,hc,hcell⟩;·exact wpAny_loadName_local I.ok.kind hk O hm n
 rcases hk with hk|hk;·exact wpAny_loadName_cell I.ok.kind hk hc hcell n
 rcases f with k|k;·have:X.env.scope.names.lookup x=some .free:=hk;rw[k]at this;cases this
 have:X.env.scope.names.lookup x=some .free:=hk;rw[k]at this;cases this
def El(n m l:TE)(a:V->V->Hp->VK->Prop)(c:sY)(b:GI):TS:=λD σ H=>n σ H λo d=>m σ d λi e=>a o i e λx f=>l σ f λy h=>c x y h λz j=>b o i z j λk=>D.nx σ k
def NU(X:Cx)(t:V->V->Hp->VK->Prop):Prop:=
 ∀(pins:List (Addr×Obj)) (s:Shared) (σ:St) (H:Hp) (o i:V) (b a:Value) (Q:VK),Inv X pins σ H s->RelV o b->RelV i a->t o i H Q->
  wpAny (model X.prog X.w) X.A (getItem b a) (EP X pins σ Q) X.xe s
def Em(O:PE X o q)(hi:PE X i p)(N:NU X a)(M:PE X e n)(P:xN X op f)(Q:NP X b)
  (L:∀d c new,augStore i d c new=(do holding [new,d,c] (setItem d c new);release [new,d,c] [];pure .next):=by intros;rfl):PS X (.AugAssign (.Subscript o i j) op e pos) (El q p n a f b):=by
 intro pins s σ H D I h;refine wpAny_AugAssign_SubscriptAny (thn (O pins s σ H _ I h) λd s1 ⟨r,w,C,l,T⟩=> ?_) L;refine thn (hi pins s1 σ w _ C T) λc s2 ⟨u,x,E,m,U⟩=> ?_;refine thn (N pins s2 σ x r u d c _ E l m U) λk s3 ⟨x3,y,F,r3,W⟩=> ?_;refine thn (M pins s3 σ y _ F W) λv s4 ⟨x4,z,G,r4,Y⟩=> ?_;refine thn (P pins s4 σ z x3 x4 k v _ G r3 r4 Y) λnew s5 ⟨x5,A,J,r5,q5⟩=> ?_;exact thn (Q pins s5 σ A r u x5 d c new _ J l m r5 q5) λ_ s6 ⟨B,K,q6⟩=>⟨σ,B,K,q6⟩
def En(f:Int->Int->Int):sY:=λx y H Q=>∃i j,x= .int i/\y= .int j/\Q (.int (f i j)) H
def GK:xN X .Add (En λi j=>i+j):=by intro pins s σ H x y v u Q I c d h;obtain⟨i,j,a,b,q⟩:=h;subst a;subst b;obtain⟨t,rfl⟩:=c;obtain⟨t',rfl⟩:=d;exact iadd_int ⟨.int _,H,I.tok _,⟨_,Z⟩,q⟩
end
section
def Eo(c:TT)(f:TS):TS:=λD σ H=>∃W:Nat->St->Hp->Prop,(∃m,W m σ H)/\∀m σ H,W m σ H->
 c σ H λb d=>if b=true then∃N:St->Hp->Prop,(∀a H',N a H'->∃e,e<m/\W e a H')/\f (D.lp N) σ d else D.nx σ d
def lP(B:PassesOwn (model X.prog X.w) X.A X.env X.xe)(J:PT X c E)(G:PSs X e C):PS X (.While c e [] pos) (Eo E C):=by
 intro pins s σ H D I h;obtain⟨W,⟨K,P⟩,turn⟩:=h;refine wpAny_While (codeAny_whileLoop (λn L=>∃j H',Inv X pins j H' L/\W n j H') ?_ K ⟨σ,H,I,P⟩);rintro n M ⟨d,u,F,Q⟩;refine sK B (thn (J pins M d u _ F (turn n d u Q)) λb O ⟨x,y,k⟩=> ?_);cases b with
 |true=>
  obtain⟨N,z,k⟩:=k;rw[aB rfl];refine sK B (thn (G pins O d x _ y k) λf T l=> ?_);cases f with
  |next=>
   obtain⟨a,i,m,q⟩:=l;obtain⟨p,o,r⟩:=z a i q;exact⟨p,o,a,i,m,r⟩
  |cont=>
   obtain⟨a,i,m,q⟩:=l;obtain⟨p,o,r⟩:=z a i q;exact⟨p,o,a,i,m,r⟩
  |brk=>exact l
  |ret v=>exact l
 |false=>
  rw[aA bX];exact AA ⟨d,x,y,k⟩
end
structure It where
 go:Nat->Hp->Prop
 yld:Nat->Hp->V->Hp->Prop
 stop:Nat->Hp->Prop
def nS(X:Cx)(pins:List (Addr×Obj))(H:Hp)(b:Addr):Prop:=
 H b=none/\b≠X.env.locals/\b∉X.fs/\(b∈X.ex\/X.s_0.heap.objs.size<=b)/\(∀x c,X.env.cells.lookup x=some c->c≠b)/\∀p∈X.pn++pins,p.1≠b
def Inv.fpOk(I:Inv X pins σ H s)(a:s.heap.objs.size<=b)(d:H' b=none):nS X pins H' b:=by
 refine⟨d,wT (gJ I.lt a),I.nofs a,.inr (aZ I.sz a),λx c e z=> ?_,λp f z=> ?_⟩;·obtain⟨v,q⟩:=I.cell x c e;exact absurd (gJ q.lt (by rw[z];exact a)) (mF _)
 exact absurd (gJ (cP (I.pin p f).1) (by rw[z];exact a)) (mF _)
structure sZ(P:Program)(w:World)(K:PySem.W.Frag)(tg:Expr)(J:It)(fp:List Addr)(it:Addr)(tn:Nat->Heap->Prop):Prop where
 mem:it∈fp
 obj:∀i h,tn i h->∀b∈fp,∃o,h.get? b=some o/\∀v,o.data≠ .cell v
 keep:∀i h h',tn i h->(∀b∈fp,∀o,h.get? b=some o->h'.get? b=some o)->tn i h'
 item:∀(X:Cx),X.prog=P->X.w=w->X.K=K->X.calm=true->∀(i:Nat) (pins:List (Addr×Obj)) (s:Shared) (σ:St) (H:Hp) (E:Value->Shared->Prop),Inv X pins σ H s->(∀b∈fp,nS X pins H b)->tn i s.heap->J.go i H->
  wpAny (model P w) X.A (pyNext (.ref it)) (λr s1=>∃ u,r=some u /\
   wpAny (model P w) X.A (letOwnedTupleGo tg (.ref it) u) (λ_ s2=>∃x H',Inv X pins σ H' s2/\RelV x u/\J.yld i H x H'/\tn (i+1) s2.heap/\∀b∈fp,H' b=none) E s1) E s
 done:∀(X:Cx),X.prog=P->X.w=w->X.K=K->X.calm=true->∀(i:Nat) (pins:List (Addr×Obj)) (s:Shared) (σ:St) (H:Hp) (E:Value->Shared->Prop),Inv X pins σ H s->(∀b∈fp,nS X pins H b)->tn i s.heap->J.stop i H->
  wpAny (model P w) X.A (pyNext (.ref it)) (λr s1=>r=none/\Inv X pins σ H s1) E s
 self:∀(A:Around) (i:Nat) (s:Shared) (Q:Value->Shared->Prop) (E:Value->Shared->Prop),tn i s.heap->Q (.ref it) s->wpAny (model P w) A (pyIter (.ref it)) Q E s
abbrev TI:=St->Hp->(It->Hp->Prop)->Prop
def GL(X:Cx)(pins:List (Addr×Obj))(σ:St)(h:Expr)(R:It->Hp->Prop)(a:Value)(e:Shared):Prop:=
 ∃(d:Addr) (c:List Addr) (f:Nat->Heap->Prop) (J:It) (H':Hp),a= .ref d/\Inv X pins σ H' e/\sZ X.prog X.w X.K h J c d f/\f 0 e.heap/\(∀b∈c,nS X pins H' b)/\R J H'
def PI(X:Cx)(c a:Expr)(d:TI):Prop:=
 ∀(pins:List (Addr×Obj)) (s:Shared) (σ:St) (H:Hp) (R:It->Hp->Prop),Inv X pins σ H s->d σ H R->
  wpAny (model X.prog X.w) X.A (eval a X.env) (λv b=>wpAny (model X.prog X.w) X.A (pyIter v) (GL X pins σ c R) X.xe b) X.xe s
def AY(i:s.heap.get? b=some o)(d:o.cls= .type n)(e:o.data= .fields vs)
  (f:["enumerate","zip","dict_itemiterator","dict_reverseitemiterator","odict_iterator","itertools.zip_longest","itertools.pairwise"].contains n=false) (a:Q () s):wpAny M A (letOwnedTupleGo c (.ref b) u) Q E s:=by
 unfold letOwnedTupleGo;cases c<;>first
  |exact aW a
  | (cases u <;> first
    |exact aW a
    | (refine aJ (wpAny_load i ?_)
       rw[d,e];show wpAny M A (if(["enumerate","zip","dict_itemiterator","dict_reverseitemiterator","odict_iterator","itertools.zip_longest","itertools.pairwise"].contains n&&vs[0]? ==some (rawInt _))=true then _ else _) Q E s;rw[aA (by intro h;rw[f,qV]at h;cases h)];exact aW a))
def rG(K:PySem.W.Frag)(a:Addr):It:=
 ⟨λi H=>∃xs x,SqL K H a xs/\xs[i]? =some x,λi H x H'=>H'=H/\∀xs,SqL K H a xs->xs[i]? =some x,λi H=>∃xs,SqL K H a xs/\xs.length<=i⟩
def xP(K:PySem.W.Frag)(a:Addr):It:=
 ⟨λi H=>∃xs x,SqT K H a xs/\xs[i]? =some x,λi H x H'=>H'=H/\∀xs,SqT K H a xs->xs[i]? =some x,λi H=>∃xs,SqT K H a xs/\xs.length<=i⟩
def vD(lo:Int)(n:Nat):It:=⟨λi _=>i<n,λi H x H'=>H'=H/\x= .int (lo+i),λi _=>n<=i⟩
def Ep{P:Program}{w:World}{K:PySem.W.Frag}{tg:Expr}(a it:Addr):sZ P w K tg (rG K a) [it] it (λi h=>h.IsListIter it a i) where
 mem:=by simp
 obj:=λi h st b hb=>by
  have e:b=it:=by simpa using hb
  subst e;obtain⟨o,e,c,d⟩:=st;exact⟨o,e,λv z=>by rw[d]at z;cases z⟩
 keep:=λi h h' st k=>st.at λo e=>k it (by simp) o e
 item:=by intro X hP hw hK hc i pins s σ H E I hf st hg;subst hP hw hK;obtain⟨xs,x,hq,hx⟩:=hg;obtain⟨its,rv,p,hz⟩:=I.list hq;obtain⟨u,hu,ru⟩:=rv.get hx;obtain⟨f0,f1,f2,f3,f4,f5⟩:=hf it (by simp);refine wpAny_pyNext_list_item st p.isList (x:=u) (by simpa using hu) λh' st' sb=> ?_;have I1:Inv X pins σ H {s with heap:=h'}:=I.turned (t':=s.toks) (λb o hb e=>(sb.2 b hb).trans e) f0 f1 f3 f4 f5;obtain⟨o,e,c,d⟩:=id st';exact⟨u,Z,AY (s:={s with heap:=h'}) e c d (by decide) ⟨x,H,I1,ru,⟨Z,λys hy=>by rw[I.list_inj hy hq];exact hx⟩,st',λb hb=>(hf b hb).1⟩⟩
 done:=by intro X hP hw hK hc i pins s σ H E I hf st hg;subst hP hw hK;obtain⟨xs,hq,hx⟩:=hg;obtain⟨its,rv,p,hz⟩:=I.list hq;obtain⟨f0,f1,f2,f3,f4,f5⟩:=hf it (by simp);have hl:=rv.length;exact wpAny_pyNext_list_end (I.ok.hd hc) st p.isList (by simp;lia) λh' eb=>⟨Z,I.turned (t':=s.toks) (λb o hb e=>eb b o hb e) f0 f1 f3 f4 f5⟩
 self:=λ_ _ _ _ _ st h=>wpAny_pyIter_listiter st h
def Er{P:Program}{w:World}{K:PySem.W.Frag}{tg:Expr}(a it:Addr):sZ P w K tg (xP K a) [it] it (λi h=>h.IsTupleIter it a i) where
 mem:=by simp
 obj:=λi h st b hb=>by
  have e:b=it:=by simpa using hb
  subst e;obtain⟨o,e,c,d⟩:=st;exact⟨o,e,λv z=>by rw[d]at z;cases z⟩
 keep:=λi h h' st k=>st.at λo e=>k it (by simp) o e
 item:=by intro X hP hw hK hc i pins s σ H E I hf st hg;subst hP hw hK;obtain⟨xs,x,hq,hx⟩:=hg;obtain⟨its,rv,p,hz⟩:=I.tuple hq;obtain⟨u,hu,ru⟩:=rv.get hx;obtain⟨f0,f1,f2,f3,f4,f5⟩:=hf it (by simp);refine wpAny_pyNext_tuple_item st (show s.heap.IsTuple a its.toArray from p) (x:=u) (by simpa using hu) λh' st' sb=> ?_;have I1:Inv X pins σ H {s with heap:=h'}:=I.turned (t':=s.toks) (λb o hb e=>(sb.2 b hb).trans e) f0 f1 f3 f4 f5;obtain⟨o,e,c,d⟩:=id st';exact⟨u,Z,AY (s:={s with heap:=h'}) e c d (by decide) ⟨x,H,I1,ru,⟨Z,λys hy=>by rw[I.tuple_inj hy hq];exact hx⟩,st',λb hb=>(hf b hb).1⟩⟩
 done:=by intro X hP hw hK hc i pins s σ H E I hf st hg;subst hP hw hK;obtain⟨xs,hq,hx⟩:=hg;obtain⟨its,rv,p,hz⟩:=I.tuple hq;obtain⟨f0,f1,f2,f3,f4,f5⟩:=hf it (by simp);have hl:=rv.length;exact wpAny_pyNext_tuple_end (I.ok.hd hc) st (show s.heap.IsTuple a its.toArray from p) (by simp;lia) λh' eb=>⟨Z,I.turned (t':=s.toks) (λb o hb e=>eb b o hb e) f0 f1 f3 f4 f5⟩
 self:=λ_ _ _ _ _ st h=>wpAny_pyIter_tupleiter st h
def Es{P:Program}{w:World}{K:PySem.W.Frag}{tg:Expr}(it:Addr)(lo:Int)(n:Nat):sZ P w K tg (vD lo n) [it] it (λi h=>IsRangeIter h it (lo+(i:Nat)*1) ((n:Int)-(i:Nat)) 1) where
 mem:=by simp
 obj:=λi h st b hb=>by
  have e:b=it:=by simpa using hb
  subst e;exact⟨_,st,λv z=>by have z':Data.fields _=Data.cell v:=z;cases z'⟩
 keep:=λi h h' st k=>k it (by simp) _ st
 item:=by intro X hP hw hK hc i pins s σ H E I hf st hg;subst hP hw hK;obtain⟨f0,f1,f2,f3,f4,f5⟩:=hf it (by simp);have W:=Walks.range (prog:=X.prog) (w:=X.w) (I.ok.hd hc) it lo 1 n;refine W.item i s _ _ hg st λv h' tk hv st' kk=> ?_;obtain⟨t,rfl⟩:=hv;have I1:Inv X pins σ H {s with heap:=h',toks:=tk}:=I.turned (λb o hb e=>kk b o (by simpa using hb) e) f0 f1 f3 f4 f5;refine⟨_,Z,AY (s:={s with heap:=h',toks:=tk}) (n:="range_iterator") st' Z Z (by decide) ⟨.int (lo+i),H,I1,⟨t,?_⟩,⟨Z,Z⟩,st',λb hb=>(hf b hb).1⟩⟩;rw[Int.mul_one]
 done:=by intro X hP hw hK hc i pins s σ H E I hf st hg;subst hP hw hK;obtain⟨f0,f1,f2,f3,f4,f5⟩:=hf it (by simp);exact wpAny_pyNext_range_end (I.ok.hd hc) st (by have:n<=i:=hg;lia) λh' eb=>⟨Z,I.turned (t':=s.toks) (λb o hb e=>eb b o hb e) f0 f1 f3 f4 f5⟩
 self:=λ_ _ _ _ _ st h=>wpAny_pyIter_rangeiter st h
section
variable{X:Cx}{tg:Expr}
def Et(K:PySem.W.Frag)(c:TE):TI:=λσ H R=>c σ H λx b=>∃a,x= .ref a/\(∃xs,SqL K b a xs)/\R (rG K a) b
def Eu(K:PySem.W.Frag)(c:TE):TI:=λσ H R=>c σ H λx b=>∃a,x= .ref a/\(∃xs,SqT K b a xs)/\R (xP K a) b
def jK{l:Expr}{f:TE}(k:PE X l f):PI X tg l (Et X.K f):=by
 intro pins s σ H R I h;refine thn (k pins s σ H _ I h) λv d ⟨x,i,c,u,r⟩=> ?_;obtain⟨a,e,⟨xs,m⟩,q⟩:=r;subst e;cases u;obtain⟨n,w,p,hz⟩:=c.list m;refine wpAny_pyIter_list p.isList ?_;refine⟨d.heap.objs.size,[d.heap.objs.size],_,_,i,Z,c.kept (t':=d.toks) λb o e=>dZ _ e,Ep a _,⟨_,gB _ Z,Z,Z⟩,λb j=> ?_,q⟩;have e:b=d.heap.objs.size:=by simpa using j
 subst e;exact c.fpOk (aK _) (c.hok.fresh (aK _))
def NV{l:Expr}{i:TE}(m:PE X l i):PI X tg l (Eu X.K i):=by
 intro pins s σ H R I h;refine thn (m pins s σ H _ I h) λv c ⟨x,j,d,u,r⟩=> ?_;obtain⟨a,e,⟨xs,n⟩,q⟩:=r;subst e;cases u;obtain⟨f,w,p,hz⟩:=d.tuple n;refine wpAny_pyIter_tuple (show c.heap.IsTuple a f.toArray from p) ?_;refine⟨c.heap.objs.size,[c.heap.objs.size],_,_,j,Z,d.kept (t':=c.toks) λb o e=>dZ _ e,Er a _,⟨_,gB _ Z,Z,Z⟩,λb k=> ?_,q⟩;have e:b=c.heap.objs.size:=by simpa using k
 subst e;exact d.fpOk (aK _) (d.hok.fresh (aK _))
def Ev{pins:List (Addr×Obj)}{σ:St}{H:Hp}{s:Shared}{R:It->Hp->Prop}{E:Value->Shared->Prop}{lo hi:Int}{t u v:Tok}{tk:Nat}(I:Inv X pins σ H s)(f: -(2^62)<=lo)(h:lo<2^62)(i: -(2^62)<=hi)(j:hi<2^62)
  (q:R (vD lo (hi-lo).toNat) H):wpAny (model X.prog X.w) X.A (pyIter (.ref s.heap.objs.size)) (GL X pins σ tg R) E {s with heap:=s.heap.push {cls:= .type "range",data:= .fields #[.int lo t,.int hi u,.int 1 v]},toks:=tk}:=by
 refine wpAny_pyIter_range (IsRange.new ..) (small_one f h i j) ?_;have a:Inv X pins σ H {s with heap:=s.heap.push {cls:= .type "range",data:= .fields #[.int lo t,.int hi u,.int 1 v]},toks:=tk}:=I.kept λb o e=>dZ _ e;refine⟨(s.heap.push {cls:= .type "range",data:= .fields #[.int lo t,.int hi u,.int 1 v]}).objs.size,[(s.heap.push {cls:= .type "range",data:= .fields #[.int lo t,.int hi u,.int 1 v]}).objs.size],_,_,H,Z,
  a.kept (t':=tk) λb o e=>dZ _ e,Es _ lo (hi-lo).toNat,?_,λb k=> ?_,q⟩
 ·have c:lo+((0:Nat):Int)*1=lo:=by simp
  have d:(((hi-lo).toNat:Nat):Int)-((0:Nat):Int)=Builtin.Range.rangeSize lo hi 1:=by rw[rangeSize_one];split<;>lia
  show IsRangeIter _ _ (lo+((0:Nat):Int)*1) ((((hi-lo).toNat:Nat):Int)-((0:Nat):Int)) 1;rw[c,d];exact gB _ rfl
 have e:b=(s.heap.push {cls:= .type "range",data:= .fields #[.int lo t,.int hi u,.int 1 v]}).objs.size:=by simpa using k
 subst e;exact a.fpOk (aK _) (a.hok.fresh (aK _))
def Ew(b:TA):TI:=λσ H R=>b σ H λvs a=>∃j:Int,vs=[.int j]/\ -(2^62)<=j/\j<2^62/\R (vD 0 j.toNat) a
def vE{a:Expr}{d:TA}{p b:Pos}(k:Gl X "range")(l:X.mg "range"=none)(i:PA X [a] d)(m:starEach [a] X.env=[(false,eval a X.env)]:=by rfl):PI X tg (.Call (.Name "range" p) [a] [] b) (Ew d):=by
 intro pins s σ H R I h;refine Call_ (xL I k l boot_range (AB (thn (i b pins s σ H _ I h) λus v ⟨vs,u,f,o,c⟩=> ?_) m Z));obtain⟨j,e,c,n,q⟩:=c;subst e;cases o with
 |cons r rr=>
  cases rr;obtain⟨t,rfl⟩:=r;exact call_range_1 (Ev f (by lia) (by lia) c n (by simpa using q))
def Ex(h:TI)(g:TG)(f:TS):TS:=λD σ H=>h σ H λJ d=>∃W:Nat->Nat->St->Hp->Prop,(∃m,W 0 m σ d)/\∀i m σ H,W i m σ H->
 (J.stop i H/\D.nx σ H)\/(J.go i H/\∃N:St->Hp->Prop,(∀a H',N a H'->∃c,c<m/\W (i+1) c a H')/\∀x H',J.yld i H x H'->g x σ H' λb e=>f (D.lp N) b e)
def xQ(a:List Addr)(h:Heap):List (Addr×Obj):=a.filterMap λb=>(h.get? b).map λo=>(b,o)
def GM(c:b∈a)(e:h.get? b=some o):(b,o)∈xQ a h:=al_145.mpr ⟨b,c,by rw[e];rfl⟩
def Ey(f:p∈xQ a h):p.1∈a/\h.get? p.1=some p.2:=by
 obtain⟨b,d,e⟩:=al_145.mp f;cases q:h.get? b with
 |none=>rw[q]at e;cases e
 |some o=>
  rw[q]at e;have c:(b,o)=p:=cV e;subst c;exact⟨d,q⟩
def Inv.pinned(I:Inv X pins σ H s)(k:∀b∈a,nS X pins H b)(l:∀b∈a,∃o,s.heap.get? b=some o/\∀v,o.data≠ .cell v):Inv X (pins++xQ a s.heap) σ H s:=
 I.pins_of λp m=>(al_51.mp m).elim (λz=>I.pin p (mG _ z)) λz=>by obtain⟨f,e⟩:=Ey z;obtain⟨h,i,j,_⟩:=k p.1 f;obtain⟨o,c,d⟩:=l p.1 f;rw[e]at c;cases c;exact⟨e,h,i,j,d⟩
def Inv.unpinned(I:Inv X (pins++pl) σ H s):Inv X pins σ H s:=I.pins_of λp a=>I.pin p (mG _ (List.mem_append_left _ a))
def gQ(K:PassesOwn (model X.prog X.w) X.A X.env X.xe)(hc:X.calm=true)(hi:PI X tg p wi)(hg:PG X tg g)(l:PSs X B tb)
  (hs:∀x,foldedSetIterable p X.env x=pure x:=by intro _;rfl):PS X (.For tg p B [] Y) (Ex wi g tb):=by
 intro pins s σ H D I h;refine wpAny_For (thn (hi pins s σ H _ I h) λv s1 h1=>thn h1 λh5 s2 h2=> ?_) hs;obtain⟨it,F,tn,J,H2,e,I2,T,h0,f2,W,⟨m0,w0⟩,turn⟩:=h2;subst e;have q:∀{H':Hp},(∀b∈F,H' b=none)->∀b∈F,nS X pins H' b:=λhn b l=>⟨hn b l,(f2 b l).2⟩;refine codeAny_forLoop_any (λn s'=>∃i y H',Inv X pins y H' s'/\tn i s'.heap/\(∀b∈F,H' b=none)/\W i n y H') ?_ m0 ⟨0,σ,H2,I2,h0,λb l=>(f2 b l).1,w0⟩;rintro n s3 ⟨i,z,O,I3,M,G,w3⟩;rcases turn i n z O w3 with⟨stop,qn⟩|⟨go,N,hN,step⟩
 ·refine sK K (thn (T.done X Z Z Z hc i pins s3 z O X.xe I3 (q G) M stop) λr s4 ⟨U,I4⟩=> ?_);subst U;exact AA ⟨z,O,I4,qn⟩
 refine sK K (thn (T.item X Z Z Z hc i pins s3 z O X.xe I3 (q G) M go) λr s4 ⟨u,U,h4⟩=> ?_);subst U;refine sK K (thn h4 λ_ s5 ⟨x,H5,I5,r5,y5,E,Q⟩=> ?_);have P:=I5.pinned (q Q) (T.obj _ _ E);refine sK K (thn (hg _ s5 z H5 x u _ P r5 (step x H5 y5)) λ_ s6 ⟨h3,H6,I6,q6⟩=> ?_);refine sK K (thn (l _ s6 h3 H6 _ I6 q6) λf s7 C=> ?_);have k:∀{a:St} {c:Hp},Inv X (pins++xQ F s5.heap) a c s7->N a c->∃m,m<n/\∃i y H',Inv X pins y H' s7/\tn i s7.heap/\(∀b∈F,H' b=none)/\W i m y H':=λ{a c} j L=>by obtain⟨m',hm,w7⟩:=hN a c L;refine⟨m',hm,i+1,a,c,j.unpinned,T.keep _ _ _ E λb l o e=>(j.pin (b,o) (mG _ (mG _ (GM l e)))).1,λb l=> ?_,w7⟩;obtain⟨o,e,d⟩:=T.obj _ _ E b l;exact(j.pin (b,o) (mG _ (mG _ (GM l e)))).2.1
 cases f with
 |next=>obtain⟨a,c,j,L⟩:=C;exact k j L
 |cont=>obtain⟨a,c,j,L⟩:=C;exact k j L
 |brk=>obtain⟨a,c,j,C⟩:=C;exact⟨a,c,j.unpinned,C⟩
 |ret v=>obtain⟨x7,a,c,j,r7,C⟩:=C;exact⟨x7,a,c,j.unpinned,r7,C⟩
end
def mM{K:PySem.W.Frag}{a:Addr}{xs:List V}{g:TG}{k:TS}{D:Ends}{σ:St}{H:Hp}(b:Nat->St->Hp->Prop)(l:b 0 σ H)(o:∀i σ H,i<=xs.length->b i σ H->SqL K H a xs)
  (r:∀i x σ H,xs[i]? =some x->b i σ H->g x σ H λd h=>k (D.lp (b (i+1))) d h) (n:∀σ H,b xs.length σ H->D.nx σ H):
  ∃W:Nat->Nat->St->Hp->Prop,(∃m,W 0 m σ H)/\∀i m σ H,W i m σ H->
   ((rG K a).stop i H/\D.nx σ H)\/((rG K a).go i H/\∃N:St->Hp->Prop,(∀c H',N c H'->∃j,j<m/\W (i+1) j c H')/\∀x H',(rG K a).yld i H x H'->g x σ H' λd h=>k (D.lp N) d h):=by
 refine⟨λi m σ H=>m=xs.length-i/\i<=xs.length/\b i σ H,⟨xs.length,by simp,bH _,l⟩,?_⟩;rintro i m σ H ⟨rfl,hi,p⟩;have q:=o i σ H hi p;by_cases f:i<xs.length;·refine .inr ⟨⟨xs,xs[i],q,by simp [f]⟩,b (i+1),λc H' s=>⟨xs.length-(i+1),by lia,Z,f,s⟩,λx H' y=> ?_⟩;obtain⟨e,y⟩:=y;subst e;exact r i x σ _ (y xs q) p
 have e:i=xs.length:=by lia
 subst e;exact .inl ⟨⟨xs,q,aK _⟩,n σ H p⟩
def NW{K:PySem.W.Frag}{a:Addr}{xs:List V}{g:TG}{k:TS}{D:Ends}{σ:St}{H:Hp}(b:Nat->St->Hp->Prop)(l:b 0 σ H)(o:∀i σ H,i<=xs.length->b i σ H->SqT K H a xs)
  (r:∀i x σ H,xs[i]? =some x->b i σ H->g x σ H λd h=>k (D.lp (b (i+1))) d h) (n:∀σ H,b xs.length σ H->D.nx σ H):
  ∃W:Nat->Nat->St->Hp->Prop,(∃m,W 0 m σ H)/\∀i m σ H,W i m σ H->
   ((xP K a).stop i H/\D.nx σ H)\/((xP K a).go i H/\∃N:St->Hp->Prop,(∀c H',N c H'->∃j,j<m/\W (i+1) j c H')/\∀x H',(xP K a).yld i H x H'->g x σ H' λd h=>k (D.lp N) d h):=by
 refine⟨λi m σ H=>m=xs.length-i/\i<=xs.length/\b i σ H,⟨xs.length,by simp,bH _,l⟩,?_⟩;rintro i m σ H ⟨rfl,hi,p⟩;have q:=o i σ H hi p;by_cases f:i<xs.length;·refine .inr ⟨⟨xs,xs[i],q,by simp [f]⟩,b (i+1),λc H' s=>⟨xs.length-(i+1),by lia,Z,f,s⟩,λx H' y=> ?_⟩;obtain⟨e,y⟩:=y;subst e;exact r i x σ _ (y xs q) p
 have e:i=xs.length:=by lia
 subst e;exact .inl ⟨⟨xs,q,aK _⟩,n σ H p⟩
def vF{lo:Int}{n:Nat}{g:TG}{j:TS}{D:Ends}{σ:St}{H:Hp}(d:Nat->St->Hp->Prop)(k:d 0 σ H)
  (o:∀i σ H,i<n->d i σ H->g (.int (lo+i)) σ H λc f=>j (D.lp (d (i+1))) c f) (l:∀σ H,d n σ H->D.nx σ H):
  ∃W:Nat->Nat->St->Hp->Prop,(∃m,W 0 m σ H)/\∀i m σ H,W i m σ H->
   ((vD lo n).stop i H/\D.nx σ H)\/((vD lo n).go i H/\∃N:St->Hp->Prop,(∀b H',N b H'->∃h,h<m/\W (i+1) h b H')/\∀x H',(vD lo n).yld i H x H'->g x σ H' λc f=>j (D.lp N) c f):=by
 refine⟨λi m σ H=>m=n-i/\i<=n/\d i σ H,⟨n,by simp,bH _,k⟩,?_⟩;rintro i m σ H ⟨rfl,hi,p⟩;by_cases a:i<n;·refine .inr ⟨a,d (i+1),λb H' q=>⟨n-(i+1),by lia,Z,a,q⟩,λx H' y=> ?_⟩;obtain⟨e,y⟩:=y;subst e y;exact o i σ _ a p
 have e:i=n:=by lia
 subst e;exact .inl ⟨aK _,l σ H p⟩
abbrev R2:=V->V->Hp->VK->Prop
def eZ(X:Cx)(f:Value->Value->Sem Value)(r:R2):Prop:=
 ∀(pins:List (Addr×Obj)) (s:Shared) (σ:St) (H:Hp) (x y:V) (v u:Value) (Q:VK),Inv X pins σ H s->RelV x v->RelV y u->r x y H Q->
  wpAny (model X.prog X.w) X.A (f v u) (EP X pins σ Q) X.xe s
def GN(X:Cx)(f:Value->Sem Value)(r:V->Hp->VK->Prop):Prop:=
 ∀(pins:List (Addr×Obj)) (s:Shared) (σ:St) (H:Hp) (x:V) (v:Value) (Q:VK),Inv X pins σ H s->RelV x v->r x H Q->
  wpAny (model X.prog X.w) X.A (f v) (EP X pins σ Q) X.xe s
def tD(X:Cx)(f:Value)(r:List V->Hp->VK->Prop):Prop:=
 ∀(pins:List (Addr×Obj)) (s:Shared) (σ:St) (H:Hp) (xs:List V) (us:List Value) (Q:VK),Inv X pins σ H s->Vals xs us->r xs H Q->
  wpAny (model X.prog X.w) X.A (call f us) (EP X pins σ Q) X.xe s
def vG(r:R2)(c d:TE):TE:=λσ H Q=>c σ H λx a=>d σ a λy b=>r x y b Q
def NX(r:V->Hp->VK->Prop)(b:TE):TE:=λσ H Q=>b σ H λx a=>r x a Q
inductive rI(C:Int->Int->Prop)(g:Int->Int->V)(x y:V)(H:Hp)(Q:VK):Prop
 |mk (i j:Int) (_:x= .int i) (_:y= .int j) (_:C i j) (_:Q (g i j) H)
inductive oU(g:Int->Int->V)(x y:V)(H:Hp)(Q:VK):Prop
 |mk (i j:Int) (_:x= .int i) (_:y= .int j) (_:Q (g i j) H)
def rU(g:Int->V):V->Hp->VK->Prop:=λx H Q=>∃i,x= .int i/\Q (g i) H
section
variable{X:Cx}{a b c:Expr}{ta tb tc:TE}{pos:Pos}
def GO(m:PE X a ta)(n:PE X b tb){R:V->V->Hp->Prop}(I:Inv X pins σ H s)
  (h:ta σ H λx j=>tb σ j λy c=>R x y c) {Q:Value->Shared->Prop} {f:Value->Value->Sem Value}
  (o:∀v u i x y c,Inv X pins σ c i->RelV x v->RelV y u->R x y c->wpAny (model X.prog X.w) X.A (f v u) Q X.xe i):
  wpAny (model X.prog X.w) X.A (eval a X.env) (λv d=>wpAny (model X.prog X.w) X.A (eval b X.env) (λu e=>wpAny (model X.prog X.w) X.A (f v u) Q X.xe e) X.xe d) X.xe s:=by
 refine thn (m pins s σ H _ I h) λv B ⟨x,j,k,r,p⟩=> ?_;refine thn (n pins B σ j _ k p) λu i ⟨y,c,l,z,q⟩=> ?_;exact o v u i x y c l r z q
def dO(i:eZ X (binaryOp op) r)(e:PE X a ta)(f:PE X b tb):PE X (.BinOp a op b pos) (vG r ta tb):=by intro pins s σ H Q I h;exact wpAny_BinOp (GO e f I h λv u l x y c d j k q=>i pins l σ c x y v u Q d j k q)
def pV(e:GN X (unaryOp op) r)(d:PE X a ta):PE X (.UnaryOp op a pos) (NX r ta):=by intro pins s σ H Q I h;exact UnaryOp_ (thn (d pins s σ H _ I h) λv j ⟨x,b,c,i,f⟩=>e pins j σ b x v Q c i f)
def GP{f:Value->Value->Sem Value}{C:Int->Int->Prop}{g:Int->Int->Int}
  (a:∀(i j:Int) (t u:Tok) (s:Shared) (Q:Value->Shared->Prop) (E:Value->Shared->Prop),C i j->Q (.int (g i j) s.toks) {s with toks:=s.toks+1}->wpAny (model X.prog X.w) X.A (f (.int i t) (.int j u)) Q E s):
  eZ X f (rI C λi j=> .int (g i j)):=by
 intro pins s σ H x y v u Q I c d h;obtain⟨i,j,rfl,rfl,b,q⟩:=h;obtain⟨t,rfl⟩:=c;obtain⟨t',rfl⟩:=d;exact a i j t t' s _ _ b ⟨.int (g i j),H,I.tok _,⟨_,Z⟩,q⟩
def xR{f:Value->Value->Sem Value}{g:Int->Int->Int}
  (a:∀(i j:Int) (t u:Tok) (s:Shared) (Q:Value->Shared->Prop) (E:Value->Shared->Prop),Q (.int (g i j) s.toks) {s with toks:=s.toks+1}->wpAny (model X.prog X.w) X.A (f (.int i t) (.int j u)) Q E s):
  eZ X f (oU λi j=> .int (g i j)):=by
 intro pins s σ H x y v u Q I b c h;obtain⟨i,j,rfl,rfl,q⟩:=h;obtain⟨t,rfl⟩:=b;obtain⟨t',rfl⟩:=c;exact a i j t t' s _ _ ⟨.int (g i j),H,I.tok _,⟨_,Z⟩,q⟩
def GQ{f:Value->Value->Sem Value}{g:Int->Int->Bool}
  (a:∀(i j:Int) (t u:Tok) (s:Shared) (Q:Value->Shared->Prop) (E:Value->Shared->Prop),Q (.bool (g i j)) s->wpAny (model X.prog X.w) X.A (f (.int i t) (.int j u)) Q E s):
  eZ X f (oU λi j=> .bl (g i j)):=by
 intro pins s σ H x y v u Q I b c h;obtain⟨i,j,rfl,rfl,q⟩:=h;obtain⟨t,rfl⟩:=b;obtain⟨t',rfl⟩:=c;exact a i j t t' s _ _ ⟨.bl (g i j),H,I,Z,q⟩
def Ez(i j:Int):Prop:=0<j/\j<1073741824
def NY(i j:Int):Prop:=0<=j/\j<=1000000/\i.natAbs<2^64
def CMul(i j:Int):Prop:=(-(2^64)<i/\i<2^64)\/(-(2^64)<j/\j<2^64)
def CMul.ok(h:CMul i j):IntMulOk i j:=by
 rcases h with⟨h1,h2⟩|⟨h1,h2⟩;·exact .of_left (intBits_le_64 h1 h2)
 exact .of_right (intBits_le_64 h1 h2)
def vH:eZ X (binaryOp .Add) (oU λi j=> .int (i+j)):=xR λ_ _ _ _ _ _ _ q=>add_int q
def GR:eZ X (binaryOp .Sub) (oU λi j=> .int (i-j)):=xR λ_ _ _ _ _ _ _ q=>sub_int q
def AZ:eZ X (binaryOp .Mult) (rI CMul λi j=> .int (i*j)):=GP λ_ _ _ _ _ _ _ a q=>mul_int q a.ok
def NZ:eZ X (binaryOp .FloorDiv) (rI Ez λi j=> .int (i/j)):=GP λi j _ _ _ _ _ a q=>by have b:(0:Int)<j:=a.1;have c:j<1073741824:=a.2;exact floordiv_int (by lia) (by rw[Int.fdiv_eq_ediv_of_nonneg i (by lia)];exact q) (.inl (PyProof.noPylong_small (by lia)))
def xS:eZ X (binaryOp .LShift) (rI NY λi j=> .int (i*2^j.toNat)):=GP λ_ _ _ _ _ _ _ a q=>lshift_int_small a.1 a.2.1 a.2.2 q
def tE:eZ X (binaryOp .BitAnd) (oU λi j=> .int (Builtin.bitAnd i j)):=xR λ_ _ _ _ _ _ _ q=>and_int q
def BA:eZ X (binaryOp .BitOr) (oU λi j=> .int (Builtin.bitOr i j)):=xR λ_ _ _ _ _ _ _ q=>or_int q
def Fa:eZ X (binaryOp .BitXor) (oU λi j=> .int (Builtin.bitXor i j)):=xR λ_ _ _ _ _ _ _ q=>xor_int q
def Fb{f:Value->Sem Value}{g:Int->Int}
  (a:∀(i:Int) (t:Tok) (s:Shared) (Q:Value->Shared->Prop) (E:Value->Shared->Prop),Q (.int (g i) s.toks) {s with toks:=s.toks+1}->wpAny (model X.prog X.w) X.A (f (.int i t)) Q E s):
  GN X f (rU λi=> .int (g i)):=by
 intro pins s σ H x v Q I b h;obtain⟨i,rfl,q⟩:=h;obtain⟨t,rfl⟩:=b;exact a i t s _ _ ⟨.int (g i),H,I.tok _,⟨_,Z⟩,q⟩
def pW:GN X (unaryOp .USub) (rU λi=> .int (-i)):=Fb λ_ _ _ _ _ q=>neg_int q
end
def OA:V->V->Bool
 | .non,.non=>true| .non,.int _=>true| .int _,.non=>true| .non,.bl _=>true| .bl _,.non=>true| .non,.str _=>true| .str _,.non=>true
 | .int _,.int _=>true| .bl _,.bl _=>true| .str _,.str _=>true| .byt _,.byt _=>true
 | .int _,.str _=>true| .str _,.int _=>true| .bl _,.str _=>true| .str _,.bl _=>true
 |_,_=>false
def Fc:R2:=λx y H Q=>OA x y=true/\Q (.bl (decide (x=y))) H
def Fd:R2:=λx y H Q=>OA x y=true/\Q (.bl (!decide (x=y))) H
def OB:decide (V.int i=V.int j)=(i==j):=by rw[jW];simp
def OC:decide (V.bl i=V.bl j)=(i==j):=by rw[jW];simp
def OD:decide (V.str i=V.str j)=(i==j):=by rw[jW];simp
def OE:decide (V.byt i=V.byt j)=(i.toList==j.toList):=by rw[jW];cases i;cases j;simp
section
variable{X:Cx}{a b c:Expr}{ta tb tc:TE}{pos:Pos}
def fB{pins:List (Addr×Obj)}{σ:St}{H:Hp}{s:Shared}{Q:VK}{k a:Bool}(I:Inv X pins σ H s)(q:Q (.bl k) H)(e:k=a):EP X pins σ Q (.bool a) s:=by subst e;exact⟨.bl k,H,I,Z,q⟩
def dS:eZ X (compareOp .Eq) Fc:=by
 intro pins s σ H x y v u Q I c a h;obtain⟨b,q⟩:=h;cases x with
 |non=>
  cases c;cases y with
  |non=>cases a;exact PySem.EqNone.eq_none_none (fB I q (by simp))
  |bl j=>cases a;exact PySem.EqNone.eq_none_bool (fB I q (by simp))
  |int j=>obtain⟨t',rfl⟩:=a;exact PySem.EqNone.eq_none_int (fB I q (by simp))
  |str j=>obtain⟨t',rfl⟩:=a;exact PySem.EqNone.eq_none_str (fB I q (by simp))
  |_=>exact absurd (show false=true from b) bX
 |bl i=>
  cases c;cases y with
  |non=>cases a;exact PySem.EqNone.eq_bool_none (fB I q (by simp))
  |bl j=>cases a;exact eq_bool (fB I q OC)
  |str j=>obtain⟨t',rfl⟩:=a;exact PySem.EqMixed.eq_bool_str (fB I q (by simp))
  |_=>exact absurd (show false=true from b) bX
 |int i=>
  obtain⟨t,rfl⟩:=c;cases y with
  |non=>cases a;exact PySem.EqNone.eq_int_none (fB I q (by simp))
  |int j=>obtain⟨t',rfl⟩:=a;exact eq_int (fB I q OB)
  |str j=>obtain⟨t',rfl⟩:=a;exact PySem.EqMixed.eq_int_str (fB I q (by simp))
  |_=>exact absurd (show false=true from b) bX
 |str i=>
  obtain⟨t,rfl⟩:=c;cases y with
  |non=>cases a;exact PySem.EqNone.eq_str_none (fB I q (by simp))
  |bl j=>cases a;exact PySem.EqMixed.eq_str_bool (fB I q (by simp))
  |int j=>obtain⟨t',rfl⟩:=a;exact PySem.EqMixed.eq_str_int (fB I q (by simp))
  |str j=>obtain⟨t',rfl⟩:=a;exact eq_str (fB I q OD)
  |_=>exact absurd (show false=true from b) bX
 |byt i=>
  obtain⟨t,rfl⟩:=c;cases y with
  |byt j=>obtain⟨t',rfl⟩:=a;exact PySem.W.eq_bytes (fB I q OE)
  |_=>exact absurd (show false=true from b) bX
 |_=>cases y<;>exact absurd (show false=true from b) bX
def kW:eZ X (compareOp .NotEq) Fd:=by
 intro pins s σ H x y v u Q I c a h;obtain⟨b,q⟩:=h;cases x with
 |non=>
  cases c;cases y with
  |non=>cases a;exact PySem.EqNone.ne_none_none (fB I q (by simp))
  |bl j=>cases a;exact PySem.EqNone.ne_none_bool (fB I q (by simp))
  |int j=>obtain⟨t',rfl⟩:=a;exact PySem.EqNone.ne_none_int (fB I q (by simp))
  |str j=>obtain⟨t',rfl⟩:=a;exact PySem.EqNone.ne_none_str (fB I q (by simp))
  |_=>exact absurd (show false=true from b) bX
 |bl i=>
  cases c;cases y with
  |non=>cases a;exact PySem.EqNone.ne_bool_none (fB I q (by simp))
  |bl j=>cases a;exact ne_bool (fB I q (bS not OC))
  |str j=>obtain⟨t',rfl⟩:=a;exact PySem.EqMixed.ne_bool_str (fB I q (by simp))
  |_=>exact absurd (show false=true from b) bX
 |int i=>
  obtain⟨t,rfl⟩:=c;cases y with
  |non=>cases a;exact PySem.EqNone.ne_int_none (fB I q (by simp))
  |int j=>obtain⟨t',rfl⟩:=a;exact ne_int (fB I q (bS not OB))
  |str j=>obtain⟨t',rfl⟩:=a;exact PySem.EqMixed.ne_int_str (fB I q (by simp))
  |_=>exact absurd (show false=true from b) bX
 |str i=>
  obtain⟨t,rfl⟩:=c;cases y with
  |non=>cases a;exact PySem.EqNone.ne_str_none (fB I q (by simp))
  |bl j=>cases a;exact PySem.EqMixed.ne_str_bool (fB I q (by simp))
  |int j=>obtain⟨t',rfl⟩:=a;exact PySem.EqMixed.ne_str_int (fB I q (by simp))
  |str j=>obtain⟨t',rfl⟩:=a;exact ne_str (fB I q (bS not OD))
  |_=>exact absurd (show false=true from b) bX
 |byt i=>
  obtain⟨t,rfl⟩:=c;cases y with
  |byt j=>obtain⟨t',rfl⟩:=a;exact PySem.W.ne_bytes (fB I q (bS not OE))
  |_=>exact absurd (show false=true from b) bX
 |_=>cases y<;>exact absurd (show false=true from b) bX
def tF:eZ X (compareOp .Lt) (oU λi j=> .bl (decide (i<j))):=GQ λ_ _ _ _ _ _ _ q=>lt_int q
def OF:eZ X (compareOp .LtE) (oU λi j=> .bl (decide (i<=j))):=GQ λ_ _ _ _ _ _ _ q=>le_int q
def vI:eZ X (compareOp .Gt) (oU λi j=> .bl (decide (j<i))):=GQ λ_ _ _ _ _ _ _ q=>gt_int q
def GS(b:Expr)(h:op≠ .In:=by decide) (d:op≠ .NotIn:=by decide):behindInMarks op b=false:=by
 have a:(op==CmpOp.In)=false:=by cases op<;>first|rfl|exact absurd rfl h
 have c:(op==CmpOp.NotIn)=false:=by cases op<;>first|rfl|exact absurd rfl d
 cases b<;>simp [behindInMarks,a,c]
def tG(j:eZ X (compareOp op) r)(e:PE X a ta)(f:PE X b tb)(i:behindInMarks op b=false):PE X (.Compare a [op] [b] pos) (vG r ta tb):=by intro pins s σ H Q I h;exact wpAny_Compare1 (GO e f I h λv u m x y c d k l q=>j pins m σ c x y v u Q d k l q) i
def OG(t:TE):TT:=λσ H Q=>t σ H λx H'=>QB H' Q x
def vJ(q:eZ X (compareOp op) r)(n:PE X a ta)(o:PE X b tb)(p:behindInMarks op b=false):PT X (.Compare a [op] [b] pos) (OG (vG r ta tb)):=by
 intro pins s σ H Q I h;refine wpAny_isTrue_Compare1 (thn (n pins s σ H _ I h) λv F ⟨x,d,j,C,w⟩=>thn (o pins F σ d _ j w) λu G ⟨y,f,l,D,A⟩ =>
  thn (q pins G σ f x y v u _ l C D A) λc J ⟨z,i,m,E,k,e,B⟩=> ?_) p
 subst e;cases E;exact wS ⟨i,m,B⟩
def BB:(sizeLine:Nat)<2^63:=by rw[sizeLine_eq];decide
def GT(r:Vals [x] us):∃u,us=[u]/\RelV x u:=by cases r with|cons r1 r2=>cases r2;exact⟨_,Z,r1⟩
end
structure ObjM(h:Heap)(x dx C:Addr)(mA:Str->Option Value):Prop where
 obj:h.get? x=some (PySem.W.instObj C dx)
 ns:h.Ns1 dx mA
 ne:dx≠x
def Fe{h:Heap}{f:Str->Option Value}(n:h.Ns1 c f):∃i,h.get? c=some i/\∀name,PySem.W.lookIn name i=some (f name):=by
 obtain⟨o,d,s,p,k,l,_,m⟩:=n;refine⟨o,p,λname=> ?_⟩;have e:=m name;unfold nsFind findBy at e;rw[<- Array.find?_toList]at e;unfold PySem.W.lookIn;rw[k];dsimp only;split;·rename_i y q;rw[q]at e;exact bS some e
 rename_i q;rw[q]at e;have a:d.toList.any (·.refKey)=false:=by rw[List.any_eq_false];intro y r;obtain⟨z,t,b⟩:=l y (Array.mem_toList_iff.mp r);simp [DictEntry.refKey,b]
 have j:¬d.toList.any (·.refKey)=true:=by rw[a];exact bX
 rw[aA j];exact bS some e
def ObjM.look(I:ObjM h x b C c):∃a,PySem.W.InstAt h x (PySem.W.instObj C b) C (some a)/\∀name,PySem.W.lookIn name a=some (c name):=
 let⟨a,ho,hl⟩:=Fe I.ns
 ⟨a,⟨I.obj,Z,Z,ho⟩,hl⟩
section
variable{prog:Program}{w:World}{A:Around}{E:Value->Shared->Prop}{s:Shared}{K:PySem.W.Frag}{x dx C f:Addr}{mA:Str->Option Value}{name:Str}{v:Value}
def Ff(X:K.In s.heap)(I:ObjM s.heap x dx C mA)(d:PySem.W.plainGet K C name=true)(e:PySem.W.hasDictIn K C=true)
  (c:PySem.W.findIn K (.ref C) name=some none) (i:mA name=some v) (b:PySem.W.handedIn v=true) (h:Q v {s with toks:=s.toks+1}):
  wpAny (model prog w) A (getAttr (.ref x) name a) Q E s:=by
 obtain⟨j,J,f⟩:=I.look;exact PySem.W.get_value X J (PySem.W.plainGet_of d).1 (PySem.W.findObj_own e c Z (by rw[f,i])) b h
def Fg{Q:Value×List Value->Shared->Prop}(X:K.In s.heap)(I:ObjM s.heap x dx C mA)(a:PySem.W.plainGet K C name=true)
  (b:PySem.W.findIn K (.ref C) name=some (some (.ref f))) (d:PySem.W.isFn K (.ref f)=true) (e:mA name=none) (h:Q (.ref f,[.ref x]) s):
  wpAny (model prog w) A (getMethod (.ref x) name pl) Q E s:=by
 obtain⟨i,J,c⟩:=I.look;exact PySem.W.method_fn X J (PySem.W.plainGet_of a).1 (PySem.W.plainGet_of a).2 b (al_41.mp d) (by show(PySem.W.lookIn name i).map (·.isSome)=some false;rw[c,e];rfl) h
def Fh{ns:List Str}{Q:Unit->Shared->Prop}(X:K.In s.heap)(I:ObjM s.heap x dx C mA)
  (p:PySem.W.findIn K (.ref C) "__setattr__"=some (some (.builtin "object.__setattr__"))) (o:PySem.W.plainOver K C=true) (q:PySem.W.takerIn K C name=some none) (n:PySem.W.hasDictIn K C=true)
  (u:PySem.Within mA ns) (hsz:ns.length<=sizeLine)
  (h:∀h',ObjM h' x dx C (λy=>if y=name then some v else mA y)->Heap.SameBut dx s.heap h'->Q () {s with heap:=h',toks:=s.toks+2}):
  wpAny (model prog w) A (setAttr (.ref x) name v) Q E s:=by
 obtain⟨G,J,D⟩:=I.look;refine PySem.W.set_plain X J p (PySem.W.osa_open (s:={s with toks:=s.toks+1}) (r:=none) X J o q λb=> ?_);obtain⟨B,m,f⟩:=PySem.W.any_some n;have z:s.heap.get? x=some ⟨.ref C,some dx,.plain,#[]⟩:=I.obj;refine aJ (aW (aJ (aJ (wpAny_loadPart z (aJ (PySem.W.Looks.here (s:={s with toks:=s.toks+1}) (PySem.W.looks_clsIn X m) ?_))))));rw[f];refine aW (a:=some dx) (aJ (aW (aJ ?_)));refine wpAny_nsSet1 (s:={s with toks:=s.toks+1}) I.ns λh' c d=> ?_;obtain⟨F,l,k,j,i,e⟩:=c.count (PySem.Within.cons name v u);refine aJ (wpAny_lookBehind j (by rw[i];exact pastItsLine_dict (aZ e (by rw[cG];lia))) ?_);exact aW (h _ ⟨(d.2 _ (dJ I.ne)).trans I.obj,c,I.ne⟩ d)
def Fi{R:Result->Shared->Prop}(X:K.In s.heap)(e:PySem.W.makesIn K C=true)
  (hi:PySem.W.findIn K (.ref C) "__init__"=some (some (.ref f))) (c:PySem.W.typeIn K (.ref f)=some (.type "function"))
  (h:codeAny (model prog w) (A.under (.builtin "type.__call__" ⟨.ref C::vs,b⟩)) (.call (.ref f) ⟨.ref (s.heap.objs.size+1)::vs,b⟩) (PySem.W.InitBack (s.heap.objs.size+1) R)
   {s with heap:=(s.heap.push PySem.W.emptyDict).push (PySem.W.instObj C s.heap.objs.size)}):
  codeAny (model prog w) A (.call (.ref C) ⟨vs,b⟩) R s:=by
 obtain⟨i,g,d,t,j⟩:=s;exact PySem.W.make_core (PySem.W.makes_of X e) (PySem.W.looks_findIn X hi) (λa=>PySem.W.bind_fn X a c) (.inl Z) h
end
def aL(f:Str)(v:V):List (Str×V)->List (Str×V)
 | []=>[(f,v)]
 |(g,x)::r=>if g=f then(g,v)::r else(g,x)::aL f v r
def bV(f g:Str)(v:V):∀fs:List (Str×V),(aL f v fs).lookup g=if g=f then some v else fs.lookup g
 | []=>by
  show List.lookup g [(f,v)]=_;by_cases h:g=f;·have a:(g==f)=true:=al_41.mpr h;simp only [List.lookup,a,aB h]
  have a:(g==f)=false:=al_35.mpr h;simp only [List.lookup,a,aA h]
 |(k,x)::r=>by
  have c:=bV f g v r;rw[show aL f v ((k,x)::r)=(if k=f then(k,v)::r else(k,x)::aL f v r)from rfl];by_cases b:k=f
  ·rw[aB b];by_cases h:g=k;·have a:(g==k)=true:=al_41.mpr h;simp only [List.lookup,a,aB (h.trans b)]
   have a:(g==k)=false:=al_35.mpr h;simp only [List.lookup,a,aA (λe:g=f=>h (e.trans b.symm))]
  rw[aA b];by_cases h:g=k;·have a:(g==k)=true:=al_41.mpr h;simp only [List.lookup,a,aA (λe:g=f=>b (h.symm.trans e))]
  have a:(g==k)=false:=al_35.mpr h;simp only [List.lookup,a];exact c
def GU(f:Str)(v:V):∀fs:List (Str×V),f∈(aL f v fs).map (·.1)/\∀g,g∈fs.map (·.1)->g∈(aL f v fs).map (·.1)
 | []=>⟨by simp [aL],λg h=>by simp at h⟩
 |(k,x)::r=>by
  obtain⟨b,c⟩:=GU f v r;rw[show aL f v ((k,x)::r)=(if k=f then(k,v)::r else(k,x)::aL f v r)from rfl];by_cases a:k=f;·rw[aB a];subst a;exact⟨by simp,λg h=>by simpa using h⟩
  rw[aA a];refine⟨?_,λg h=> ?_⟩;·rw[fE];exact cA _ b
  rw[fE]at h ⊢;rcases al_18.mp h with e|e
  ·exact al_18.mpr (.inl e)
  exact cA _ (c g e)
def kC(f:Str)(v:V):∀fs:List (Str×V),(aL f v fs).length<=fs.length+1
 | []=>by simp [aL]
 |(k,x)::r=>by
  have b:=kC f v r;rw[show aL f v ((k,x)::r)=(if k=f then(k,v)::r else(k,x)::aL f v r)from rfl];by_cases a:k=f;·rw[aB a,cG,cG];lia
  rw[aA a,cG,cG];lia
def RelO.some_of(r:RelO (some v) o):∃u,o=some u/\RelV v u:=by cases o with|none=>exact(show False from r).elim|some u=>exact⟨u,Z,r⟩
def RelO.none_of(r:RelO none o):o=none:=by cases o with|none=>rfl|some u=>exact(show False from r).elim
def Fj(r:RelV v u):PySem.W.handedIn u=true:=by
 cases v with
 |non=>cases(show u=Value.none from r);rfl
 |bl b=>cases(show u=Value.bool b from r);rfl
 |int i=>obtain⟨t,e⟩:=(show∃t,u=Value.int i t from r);cases e;rfl
 |str x=>obtain⟨t,e⟩:=(show∃t,u=Value.str x t from r);cases e;rfl
 |byt b=>obtain⟨t,e⟩:=(show∃t,u=Value.bytes b t from r);cases e;rfl
 |flt b=>obtain⟨t,e⟩:=(show∃t,u=Value.float b t from r);cases e;rfl
 |ref a=>cases(show u=Value.ref a from r);rfl
 |ty n=>cases(show u=Value.type n from r);rfl
section
def GV(c:HOk P w H h)(e:H a=some (.ins C dx fs)):∃b,ObjM h a dx C b/\(∀f,RelO (fs.lookup f) (b f))/\PySem.Within b (fs.map (·.1))/\fs.length<=1000/\H dx=some (.own a):=by obtain⟨d,z,ne,i,b,n,r,q⟩:=(show ObjOk P w H h a (.ins C dx fs)from c a _ e);exact⟨b,⟨i,n,ne⟩,r,q,z,d⟩
end
structure Cls(K:PySem.W.Frag)(C:Addr):Prop where
 pg:PySem.W.plainGet K C Str.empty=true
 hd:PySem.W.hasDictIn K C=true
 po:PySem.W.plainOver K C=true
 sa:PySem.W.findIn K (.ref C) "__setattr__"=some (some (.builtin "object.__setattr__"))
def Cls.get{K:PySem.W.Frag}{C:Addr}(c:Cls K C)(f:Str):PySem.W.plainGet K C f=true:=c.pg
def NoAttr(K:PySem.W.Frag)(C:Addr)(f:Str):Prop:=PySem.W.findIn K (.ref C) f=some none
def NoAttr.taker{K:PySem.W.Frag}{C:Addr}{f:Str}(n:NoAttr K C f):PySem.W.takerIn K C f=some none:=by
 unfold PySem.W.takerIn;rw[show PySem.W.findIn K (.ref C) f=some none from n];rfl
structure BC(K:PySem.W.Frag)(C:Addr)(m:Str)(f:Addr):Prop where
 at_:PySem.W.findIn K (.ref C) m=some (some (.ref f))
 fn:PySem.W.isFn K (.ref f)=true
 kp:PySem.W.keepIn K (.ref f)=true
section
def OH(I:Inv X pins σ H s)(e:H a=some (.ins C dx fs))(c:Cls X.K C)(n:NoAttr X.K C f)(l:fs.lookup f=some v)
  (h:∀u i,Inv X pins σ H i->RelV v u->Q u i):wpAny (model X.prog X.w) A (getAttr (.ref a) f b) Q E s:=by
 obtain⟨k,O,r,_,_,_⟩:=GV I.hok e;obtain⟨u,j,d⟩:=RelO.some_of (v:=v) (o:=k f) (by rw[<- l];exact r f);exact Ff I.kIn O (c.get f) c.hd n j (Fj d) (h u _ (I.tok _) d)
def OI(I:Inv X pins σ H s)(e:H a=some (.ins C dx fs))(c:Cls X.K C)(k:BC X.K C m g)(l:fs.lookup m=none)
  (h:Q (.ref g,[.ref a]) s):wpAny (model X.prog X.w) A (getMethod (.ref a) m pl) Q E s:=by
 obtain⟨d,O,r,_,_,_⟩:=GV I.hok e;have b:d m=none:=RelO.none_of (by rw[<- l];exact r m);exact Fg I.kIn O (c.get m) k.at_ k.fn b h
def OJ(I:Inv X pins σ H s)(e:H a=some (.ins C dx fs))(c:Cls X.K C)(n:NoAttr X.K C f)(D:fs.length<1000)(v:RelV y u)
  (h:∀k,Inv X pins σ (aE H a (.ins C dx (aL f y fs))) k->Q () k):wpAny (model X.prog X.w) A (setAttr (.ref a) f u) Q E s:=by
 obtain⟨j,O,r,l,_,i⟩:=GV I.hok e;have hz:(fs.map (·.1)).length<=sizeLine:=by rw[aO,sizeLine_eq];lia
 refine Fh I.kIn O c.sa c.po n.taker c.hd l hz λh' d B=>h _ ?_;have hd:∃o,h'.get? dx=some o:=let⟨o,_,_,e',_⟩:=d.ns;⟨o,e'⟩;refine I.write (x:=a) (e:=dx) (by rw[e];exact True.intro) (.inr i) (λb q m z=>(B.2 b m).trans z) hd ?_;refine⟨by rw[bB O.ne];exact i,?_,O.ne,d.obj,_,d.ns,λg=> ?_,λg p=> ?_⟩
 ·have:=kC f y fs;lia
 ·show RelO ((aL f y fs).lookup g) (if g=f then some u else j g);rw[bV];by_cases q:g=f;·rw[aB q,aB q];exact v
  rw[aA q,aA q];exact r g
 by_cases q:g=f;·rw[q];exact(GU f y fs).1
 refine(GU f y fs).2 g (l g λz=>p ?_);show(if g=f then some u else j g)=none;rw[aA q];exact z
def Inv.made(I:Inv X pins σ H s):Inv X pins σ (aE (aE H s.heap.objs.size (.own (s.heap.objs.size+1))) (s.heap.objs.size+1) (.ins C s.heap.objs.size []))
  {s with heap:=(s.heap.push PySem.W.emptyDict).push (PySem.W.instObj C s.heap.objs.size)}:=by
 have c:(s.heap.push PySem.W.emptyDict).get? s.heap.objs.size=some PySem.W.emptyDict:=gB s.heap rfl;have f:((s.heap.push PySem.W.emptyDict).push (PySem.W.instObj C s.heap.objs.size)).get? (s.heap.objs.size+1)=some (PySem.W.instObj C s.heap.objs.size):=by
  have:=gB (s.heap.push PySem.W.emptyDict) (o:=PySem.W.instObj C s.heap.objs.size) rfl
  rwa [jX]at this
 have h:(s.heap.push PySem.W.emptyDict).Ns s.heap.objs.size (λ_=>none):=⟨PySem.W.emptyDict,#[],_,c,Z,(λe i=>absurd i (by simp)),λ_=>rfl⟩;have d:=I.laid (a:=s.heap.objs.size) (o:= .own (s.heap.objs.size+1)) (h':=s.heap.push PySem.W.emptyDict) (t':=s.toks) (λb u q=>dZ _ q) (aK _) ⟨_,c⟩;refine d.laid (a:=s.heap.objs.size+1) (o:= .ins C s.heap.objs.size []) (t':=s.toks) (λb u q=>dZ _ q) (uO (jX _ _)) ?_;have ne:s.heap.objs.size≠s.heap.objs.size+1:=fI (hU _);refine⟨by rw[bB ne,aH],bH _,ne,f,λ_=>none,(Heap.Ns1.of_empty h).at λo q=>dZ _ q,λ_=>True.intro,λy j=>absurd rfl j⟩
def Fk(d:attributeBase e f a (eval e a)=eval e a)
  (h:wpAny (model prog w) A (eval e a) (λo b=>wpAny (model prog w) A (getAttr o f true) Q E b) E s):wpAny (model prog w) A (eval (.Attribute e f c) a) Q E s:=
 Attribute_any_ h (by rw[arm_eval_Attribute,d])
end
inductive Fl(f:Str)(K:PySem.W.Frag)(H:Hp)(Q:V->Prop)(x:V):Prop
 |mk (a C dx:Addr) (fs:List (Str×V)) (v:V) (_:x= .ref a) (_:H a=some (.ins C dx fs)) (_:Cls K C) (_:NoAttr K C f) (_:fs.lookup f=some v) (_:Q v)
def OL(K:PySem.W.Frag)(b:TE)(f:Str):TE:=λσ H Q=>b σ H λx a=>Fl f K a (λv=>Q v a) x
inductive Fm(f:Str)(K:PySem.W.Frag)(H:Hp)(Q:Hp->Prop)(y x:V):Prop
 |mk (a C dx:Addr) (fs:List (Str×V)) (_:x= .ref a) (_:H a=some (.ins C dx fs)) (_:Cls K C) (_:NoAttr K C f) (_:fs.length<1000) (_:Q (aE H a (.ins C dx (aL f y fs))))
def Fn(K:PySem.W.Frag)(c d:TE)(f:Str):TS:=λD σ H=>d σ H λy a=>c σ a λx b=>Fm f K b (D.nx σ) y x
def GW(X:Cx)(op:Operator)(a:V->V->Hp->VK->Prop):Prop:=
 ∀(pins:List (Addr×Obj)) (s:Shared) (σ:St) (H:Hp) (x y:V) (u v:Value) (Q:VK),Inv X pins σ H s->RelV x u->RelV y v->a x y H Q->wpAny (model X.prog X.w) X.A (inplaceOp op u v) (EP X pins σ Q) X.xe s
def Fo(K:PySem.W.Frag)(k l:TE)(j:V->V->Hp->VK->Prop)(f:Str):TS:=λD σ H=>k σ H λx d=>∃a C i fs v,x= .ref a/\d a=some (.ins C i fs)/\Cls K C/\NoAttr K C f/\fs.lookup f=some v/\
 l σ d λy h=>j v y h λz e=>∃c b,e a=some (.ins C c b)/\b.length<1000/\D.nx σ (aE e a (.ins C c (aL f z b)))
section
def bJ(m:PE X e ta)(k:attributeBase e f X.env (eval e X.env)=eval e X.env):PE X (.Attribute e f pos) (OL X.K ta f):=by intro pins s σ H Q I h;refine Fk k (thn (m pins s σ H _ I h) λu w ⟨x,b,d,p,a,C,r,fs,v,ex,j,c,n,l,q⟩=> ?_);subst ex;obtain rfl:u=Value.ref a:=p;exact OH d j c n l λz y i o=>⟨v,b,i,o,q⟩
def dA(k:PE X o ta)(p:PE X value tv)(m:swapsWith value (some (.Attribute o f pos')) pos.line X.env=pure false):PS X (.Assign [.Attribute o f pos'] value pos) (Fn X.K ta tv f):=by intro pins s σ H D I h;refine plainObj_wpAny_Assign_Attribute (thn (p pins s σ H _ I h) λu A ⟨y,b,d,z,q⟩=>thn (k pins A σ b _ d q) λr F ⟨x,B,e,w,a,C,E,fs,ex,j,c,n,l,v⟩=> ?_) m;subst ex;obtain rfl:r=Value.ref a:=w;exact OJ e j c n l z λG i=>⟨σ,_,i,v⟩
def BD(F:PE X o ta)(G:PE X value tv)(d:GW X op e):PS X (.AugAssign (.Attribute o f tpos) op value pos) (Fo X.K ta tv e f):=by intro pins s σ H D I h;refine wpAny_AugAssign_AttributeAny (thn (F pins s σ H _ I h) λL s1 ⟨x,i,k,P,a,C,dx,fs,v,ex,B,c,n,l,q⟩=> ?_);subst ex;obtain rfl:L=Value.ref a:=P;refine OH k B c n l λu U m O=>thn (G pins U σ i _ m q) λY W ⟨y,j,p,Q,M⟩=>thn (d pins W σ j v y u Y _ p O Q M) λw4 s4 ⟨z,H3,r,T,A,E,b,J,N⟩=> ?_;exact OJ r b c n J T λs5 w=>⟨σ,_,w,N⟩
def Fp:V->V->Hp->VK->Prop:=λx y H Q=>∃i j,x= .int i/\y= .int j/\Q (.int (i+j)) H
def OM:GW X .Add Fp:=by rintro pins s σ H x y u v Q I a b ⟨i,j,rfl,rfl,q⟩;obtain⟨t,rfl⟩:=(show∃t,u=Value.int i t from a);obtain⟨t',rfl⟩:=(show∃t',v=Value.int j t' from b);exact PyProof.Rows.iadd_int ⟨.int (i+j),H,I.tok _,⟨_,Z⟩,q⟩
end
section
end
structure Room(k:Nat)(A:Around):Prop where
 hd:A.handled=none
 dp:A.depth+3*k+5<recursionLimit
 un:A.units+16*k+200<cLine
def Room.mono(r:Room k A)(h:j<=k):Room j A:=⟨r.hd,by have:=r.dp;lia,by have:=r.un;lia⟩
def Room.deeper(r:Room (k+1) A)(a:Env):Room k (A.deeper a):=
 ⟨r.hd,by have:=r.dp;show A.depth+1+3*k+5<_;lia,by have:=r.un;show A.units+3+16*k+200<_;lia⟩
def Fq{A:Around}:(A.under (.builtin "type.__call__" ⟨.ref C::us,a⟩)).depth=A.depth+1:=by first|rfl|simp [Around.under,Code.weight,Code.isCreation,Code.isGuard,Code.isCaller,Code.frames,Code.isFrame,guardIds]
def Fr{A:Around}:(A.under (.builtin "type.__call__" ⟨.ref C::us,a⟩)).units=A.units+1:=by first|rfl|simp [Around.under,Code.cUnits,Code.frames,Code.isFrame]
def Room.make(r:Room (k+1) A)(C:Addr)(us:List Value)(a:List (Str×Value)):Room k (A.under (.builtin "type.__call__" ⟨.ref C::us,a⟩)):=
 ⟨r.hd,by have:=r.dp;rw[Fq];lia,by have:=r.un;rw[Fr];lia⟩
def Room.depth(r:Room k A):A.depth<recursionLimit:=by have:=r.dp;lia
def Room.units(r:Room k A):A.units+64<cLine:=by have:=r.un;lia
def Room.units0(r:Room k A):A.units<cLine:=by have:=r.un;lia
def BE:TA:=λ_ H Q=>Q [] H
def Fs(c:TE)(d:TA):TA:=λσ H Q=>c σ H λx a=>d σ a λxs b=>Q (x::xs) b
section
def aD:PA X [] BE:=λ_ _ _ _ H Q I h=>Calls.spliced_nil ⟨[],H,I,.nil,h⟩
def aC(i:PE X e te)(j:PA X es t)(k:starEach (e::es) X.env=(false,eval e X.env)::starEach es X.env:=by rfl):PA X (e::es) (Fs te t):=by
 intro a pins s σ H Q I h;rw[k];show wpAny _ _ (spliced ((false,eval e X.env)::backTo a (starEach es X.env))) _ _ s;refine Calls.spliced_cons (thn (i pins s σ H _ I h) λu p ⟨x,b,d,n,l⟩=> ?_);exact thn (j a pins p σ b _ d l) λus q ⟨xs,c,f,o,m⟩=>⟨x::xs,c,f,.cons n o,m⟩
def Ft(t:TA):TE:=λσ H Q=>t σ H λxs a=>xs.length<=sizeLine/\∀p,a p=none->Q (.ref p) (aE a p (.tup xs))
def Fu(t:TA):TE:=λσ H Q=>t σ H λxs a=>xs.length<=sizeLine/\∀p,a p=none->Q (.ref p) (aE a p (.lst xs))
def xT(h:PA X es t):PE X (.Tuple es x1 pos) (Ft t):=by intro pins s σ H Q I i;refine wpAny_Tuple_spliced (thn (h pos pins s σ H _ I i) λus a ⟨xs,c,d,r,z,q⟩=>⟨by rw[<- r.length];exact z,?_⟩);have f:c a.heap.objs.size=none:=d.hok.fresh (aK _);refine⟨.ref a.heap.objs.size,aE c a.heap.objs.size (.tup xs),d.laid (t':=a.toks) (λb u e=>dZ _ e) (aK _) ?_,Z,q _ f⟩;exact⟨z,us,r,⟨_,gB _ Z,Z,_,Z⟩⟩
def cE(h:PA X es t):PE X (.List es pos) (Fu t):=by intro pins s σ H Q I i;refine wpAny_List_spliced (thn (h pos pins s σ H _ I i) λus a ⟨xs,c,d,r,z,q⟩=>⟨by rw[<- r.length];exact z,?_⟩);have f:c a.heap.objs.size=none:=d.hok.fresh (aK _);refine⟨.ref a.heap.objs.size,aE c a.heap.objs.size (.lst xs),d.laid (t':=a.toks) (λb u e=>dZ _ e) (aK _) ?_,Z,q _ f⟩;exact⟨z,us,0,r,gB _ Z⟩
end
abbrev Sp:=List V->Hp->VK->XK->Prop
abbrev lQ:=List Env->Hp->Shared->XK->Value->Shared->Prop
structure Env0(P:Program)(w:World)(K:PySem.W.Frag)(mg:Str->Option Value)(base:Heap)(A:Around)(outer:List Env)(s:Shared)(H:Hp):Prop where
 frames:A.frames=some outer
 mod:AW K mg base
 bs:∀b o,base.get? b=some o->s.heap.get? b=some o/\H b=none
 bsz:base.objs.size<=s.heap.objs.size
 funs:s.heap.FunFrames base outer
 frf:∀b∈nQ outer,H b=none
 hok:HOk P w H s.heap
 bare:AllBare s.gens
def CE(a:List Env)(P:Program)(w:World)(H:Hp)(s:Shared)(Q:VK)(u:Value)(b:Shared):Prop:=
 ∃v H',b.os=s.os/\AllBare b.gens/\Un (nQ a) [] H H' s.heap b.heap/\HOk P w H' b.heap/\RelV v u/\Q v H'
def CR(CX:lQ)(a:List Env)(P:Program)(w:World)(H:Hp)(s:Shared)(Q:VK)(E:XK)(r:Result)(b:Shared):Prop:=
 match r with| .ok (.ret u)=>CE a P w H s Q u b| .ok _=>False| .error e=>CX a H s E e b
structure kX(P:Program)(w:World)(K:PySem.W.Frag)(mg:Str->Option Value)(base:Heap)(CX:lQ)(k:Nat)(f:Addr)(fd:FuncData)(ps:List Str)(sp:Sp):Prop where
 len:∀vs H Q E,sp vs H Q E->vs.length=ps.length
 run:∀(A:Around) (outer:List Env) (s:Shared) (H:Hp) (args:Args) (us:List Value) (vs:List V) (Q:VK) (E:XK),Room k A->Env0 P w K mg base A outer s H->BindsTo s fd args (ps.zip us)->Vals vs us->sp vs H Q E->
  codeAny (model P w) A (.call (.ref f) args) (CR CX outer P w H s Q E) s
def Env0.make{P:Program}{w:World}{K:PySem.W.Frag}{b:Str->Option Value}{base:Heap}{A:Around}{a:List Env}{s:Shared}{H:Hp}(e:Env0 P w K b base A a s H)(C:Addr)(us:List Value)(c:List (Str×Value)):
  Env0 P w K b base (A.under (.builtin "type.__call__" ⟨.ref C::us,c⟩)) a s H:=⟨by first|exact e.frames|(simpa [Around.under,Code.envs,Code.isFrame,pushEnvs]using e.frames),e.mod,e.bs,e.bsz,e.funs,e.frf,e.hok,e.bare⟩
section
def Inv.env0(I:Inv X pins σ H s):Env0 X.prog X.w X.K X.mg X.base X.A X.stack s H:=
 ⟨I.ok.frames,I.ok.mod,I.bs,aZ I.ok.bsz I.sz,I.stack,I.stkFree,I.hok,I.bare⟩
def Inv.after(I:Inv X pins σ H s)(h:CE X.stack X.prog X.w H s Q u s'):EP X pins σ Q u s':=by obtain⟨v,H',os,a,un,c,r,q⟩:=h;obtain⟨f,g,d,t,e⟩:=s';obtain rfl:e=s.os:=os;exact⟨v,H',I.call (h':=f) (g':=g) (d':=d) (t':=t) (ch:=[]) un c a (λb z=>absurd z (by simp)),r,q⟩
end
def GX(sp:Sp)(a:List V)(E:XK)(t:TA):TE:=λσ H Q=>t σ H λvs b=>sp (vs++a) b Q E
inductive Fv(m:Str)(C:Addr)(H:Hp)(R:Prop)(x:V):Prop
 |mk (a dx:Addr) (fs:List (Str×V)) (_:x= .ref a) (_:H a=some (.ins C dx fs)) (_:fs.lookup m=none) (_:R)
def BF(C:Addr)(m:Str)(sp:Sp)(a:List V)(E:XK)(d:TE)(t:TA):TE:=λσ H Q=>d σ H λx b=>Fv m C b (t σ b λvs c=>sp (x::(vs++a)) c Q E) x
def ON(C:Addr)(sp:Sp)(c:List V)(E:XK)(t:TA):TE:=λσ H Q=>t σ H λvs b=>∀x a,b x=none->b a=none->a≠x->
 sp (.ref x::(vs++c)) (aE (aE b a (.own x)) x (.ins C a [])) (λv d=>v= .non/\Q (.ref x) d) E
def Binds(K:PySem.W.Frag)(a:FuncData)(ps:List Str)(ds:List Value):Prop:=
 ∀(s:Shared) (us:List Value),K.In s.heap->(us++ds).length=ps.length->BindsTo s a ⟨us,[]⟩ (ps.zip (us++ds))
def Binds.all{K:PySem.W.Frag}{a:FuncData}{ps:List Str}(h:∀us:List Value,us.length=ps.length->bindArgs a ⟨us,[]⟩=pure (ps.zip us)):Binds K a ps []:=λs us _ b=>by rw[bU]at b ⊢;exact .of_eq (h us b)
def pX(CX:lQ)(X:Cx)(E:XK):Prop:=∀(pins:List (Addr×Obj)) (σ:St) (H:Hp) (s:Shared) (e:Value) (a:Shared),Inv X pins σ H s->CX X.stack H s E e a->X.xe e a
section
def xU(F:kX X.prog X.w X.K X.mg X.base CX k f fd ps sp)(j:Room k X.A)(c:Binds X.K fd ps ds)(d:Vals dvs ds)(l:pX CX X E)
  (I:Inv X pins σ H s) (r:Vals vs us) (h:sp (vs++dvs) H Q E):wpAny (model X.prog X.w) X.A (call (.ref f) us) (EP X pins σ Q) X.xe s:=by
 have b:Vals (vs++dvs) (us++ds):=r.append d;have i:(us++ds).length=ps.length:=by rw[<- b.length];exact F.len _ _ _ _ h
 refine wpAny_call (sL (F.run X.A X.stack s H ⟨us,[]⟩ (us++ds) (vs++dvs) Q E j I.env0 (c s us I.kIn i) b h) λr m a=> ?_);cases r with
 |error e=>exact l pins σ H s e m I a
 |ok fl=>
  cases fl with|ret u=>exact I.after a|next=>exact False.elim a|brk=>exact False.elim a|cont=>exact False.elim a
def Fw(F:kX X.prog X.w X.K X.mg X.base CX k f fd ps sp)(u:Room k X.A)(m:Gl X x)(o:X.mg x=some (.ref f))(n:PySem.W.keepIn X.K (.ref f)=true)(i:Binds X.K fd ps ds)(j:Vals dvs ds)(v:pX CX X E)
  (d:PA X (e::es) t) (a:(x==("__debug__":Str))=false:=by decide) (l:starEach (e::es) X.env=(false,eval e X.env)::starEach es X.env:=by rfl) (b:(backTo pos (starEach es X.env)).any (·.1)=false:=by rfl):
  PE X (.Call (.Name x p) (e::es) [] pos) (GX sp dvs E t):=by
 intro pins s σ H Q I h;refine uP (AX I m o ?_ a);refine AC (h₀:=X.base) I.ok.mod.kin n (thn (d pos pins s σ H _ I h) λus z ⟨vs,y,c,r,q⟩=>⟨c.kIn,?_⟩) l b;exact xU F u i j v c r q
def Fx(F:kX X.prog X.w X.K X.mg X.base CX k f fd ps sp)(j:Room k X.A)(d:Gl X x)(i:X.mg x=some (.ref f))(e:PySem.W.keepIn X.K (.ref f)=true)(b:Binds X.K fd ps ds)(c:Vals dvs ds)(l:pX CX X E)
  (a:(x==("__debug__":Str))=false:=by decide):PE X (.Call (.Name x p) [] [] pos) (GX sp dvs E BE):=by
 intro pins s σ H Q I h;refine uP (AX I d i ?_ a);exact PySem.W.callWith_K0 I.kIn e (xU (us:=[]) F j b c l I .nil h)
def Fy(D:PE X o ta)(c:Cls X.K C)(n:BC X.K C m f)(F:kX X.prog X.w X.K X.mg X.base CX k f fd ps sp)(G:Room k X.A)(z:Binds X.K fd ps ds)(B:Vals dvs ds)(L:pX CX X E)(y:PA X (e::es) t)
  (d:starEach (e::es) X.env=(false,eval e X.env)::starEach es X.env:=by rfl) (b:(backTo pos (starEach es X.env)).any (·.1)=false:=by rfl)
  (J:eval (.Call (.Attribute o m apos) (e::es) [] pos) X.env=(do
   let ov<-eval o X.env
   standAt apos.atName
   let(f,first)<-holding [ov] (getMethod ov m pl)
   callWith pos f first (backTo pos (starEach (e::es) X.env)) (backToKw pos (keywordEach [] X.env))):=by rfl):
  PE X (.Call (.Attribute o m apos) (e::es) [] pos) (BF C m sp dvs E ta t):=by
 intro pins s σ H Q I h;refine PySem.W.methodCall_KW (pl:=pl) (thn (D pins s σ H _ I h) λu O ⟨x,p,i,N,a,T,fs,ex,v,l,q⟩=> ?_) J;subst ex;obtain rfl:u=Value.ref a:=N;refine OI i v c n l ?_;refine AC (first:=[.ref a]) (h₀:=X.base) I.ok.mod.kin n.kp (thn (y pos pins O σ p _ i q) λus U ⟨vs,P,j,r,M⟩=>⟨j.kIn,?_⟩) d b;exact xU (us:= .ref a::us) (vs:= .ref a::vs) F G z B L j (.cons Z r) M
def Fz(n:PE X o ta)(c:Cls X.K C)(d:BC X.K C m f)(F:kX X.prog X.w X.K X.mg X.base CX k f fd ps sp)(p:Room k X.A)(i:Binds X.K fd ps ds)(j:Vals dvs ds)(v:pX CX X E)
  (r:eval (.Call (.Attribute o m apos) [] [] pos) X.env=(do
   let ov<-eval o X.env
   standAt apos.atName
   let(f,first)<-holding [ov] (getMethod ov m pl)
   callWith pos f first (backTo pos (starEach [] X.env)) (backToKw pos (keywordEach [] X.env))):=by rfl):
  PE X (.Call (.Attribute o m apos) [] [] pos) (BF C m sp dvs E ta BE):=by
 intro pins s σ H Q I h;refine PySem.W.methodCall_KW (pl:=pl) (thn (n pins s σ H _ I h) λu D ⟨x,z,b,y,a,B,fs,ex,e,l,q⟩=> ?_) r;subst ex;obtain rfl:u=Value.ref a:=y;refine OI b e c d l ?_;exact PySem.W.callWith_K0 (first:=[.ref a]) b.kIn d.kp (xU (us:=[.ref a]) (vs:=[.ref a]) F p i j v b (.cons Z .nil) q)
structure Mk(K:PySem.W.Frag)(C f:Addr):Prop where
 makes:PySem.W.makesIn K C=true
 init:PySem.W.findIn K (.ref C) "__init__"=some (some (.ref f))
 fn:PySem.W.isFn K (.ref f)=true
 kp:PySem.W.keepIn K (.ref C)=true
def Ga(M:Mk X.K C f)(F:kX X.prog X.w X.K X.mg X.base CX k f fd ps sp)(q:Room (k+1) X.A)(n:Binds X.K fd ps ds)(o:Vals dvs ds)
  (y:pX CX X E) (I:Inv X pins σ H s) (r:Vals vs us)
  (h:∀x c,H x=none->H c=none->c≠x->sp (.ref x::(vs++dvs)) (aE (aE H c (.own x)) x (.ins C c [])) (λv j=>v= .non/\Q (.ref x) j) E):
  wpAny (model X.prog X.w) X.A (call (.ref C) us) (EP X pins σ Q) X.xe s:=by
 have d:=h (s.heap.objs.size+1) s.heap.objs.size (I.hok.fresh (Nat.le_succ _)) (I.hok.fresh (aK _)) (fI (hU _));have b:=Inv.made (C:=C) I;have i:Vals (V.ref (s.heap.objs.size+1)::(vs++dvs)) (Value.ref (s.heap.objs.size+1)::(us++ds)):= .cons rfl (r.append o);have p:(Value.ref (s.heap.objs.size+1)::us++ds).length=ps.length:=by have e:=i.length;rw[F.len _ _ _ _ d]at e;exact e.symm
 refine wpAny_call (Fi (f:=f) I.kIn M.makes M.init (al_41.mp M.fn) (sL (F.run _ X.stack _ _ ⟨Value.ref (s.heap.objs.size+1)::us,[]⟩ (Value.ref (s.heap.objs.size+1)::(us++ds)) _ _ E (q.make C us [])
  (b.env0.make C us []) (n _ (Value.ref (s.heap.objs.size+1)::us) b.kIn p) i d) λr D a=> ?_))
 cases r with
 |error e=>exact y pins σ _ _ e D b a
 |ok fl=>
  cases fl with
  |ret u=>
   obtain⟨v,H',l,B,m,z⟩:=b.after a;subst m;exact⟨B,⟨V.ref (s.heap.objs.size+1),H',l,Z,z⟩⟩
  |next=>exact False.elim a
  |brk=>exact False.elim a
  |cont=>exact False.elim a
def Gb(M:Mk X.K C f)(F:kX X.prog X.w X.K X.mg X.base CX k f fd ps sp)(o:Room (k+1) X.A)(m:Gl X x)(n:X.mg x=some (.ref C))(i:Binds X.K fd ps ds)(j:Vals dvs ds)(u:pX CX X E)
  (d:PA X (e::es) t) (a:(x==("__debug__":Str))=false:=by decide) (l:starEach (e::es) X.env=(false,eval e X.env)::starEach es X.env:=by rfl) (b:(backTo pos (starEach es X.env)).any (·.1)=false:=by rfl):
  PE X (.Call (.Name x p) (e::es) [] pos) (ON C sp dvs E t):=by
 intro pins s σ H Q I h;refine uP (AX I m n ?_ a);refine AC (h₀:=X.base) I.ok.mod.kin M.kp (thn (d pos pins s σ H _ I h) λus y ⟨vs,v,c,r,q⟩=>⟨c.kIn,?_⟩) l b;exact Ga M F o i j u c r q
end
section
end
structure BG(N P:List Str)(sc:Scope):Prop where
 kind:sc.kind= .function
 co:sc.isCoroutine=false
 gen:sc.isGenerator=false
 nd:N.Nodup
 pre:N.take P.length=P
 par:∀x∈P,sc.names.lookup x=some .local\/sc.names.lookup x=some .cell
 nofree:∀y∈sc.names,y.2≠ .free
def OO{kindOf:Str->Option NameKind}:∀{binds:List (Str×Value)} {m:Str->Option Value},(∀v,(x,v)∉binds)->bindL kindOf binds m x=m x
 | [],_,_=>rfl
 |(n,v)::r,m,h=>by
  unfold bindL;rw[OO λw a=>h w (cA _ a)];split
  ·have:x≠n:=by rintro rfl;exact h v cF
   simp [this]
  rfl
def OP{kindOf:Str->Option NameKind}:∀{binds:List (Str×Value)} {m:Str->Option Value},(∀v,(x,v)∉binds)->bindC kindOf binds m x=m x
 | [],_,_=>rfl
 |(n,v)::r,m,h=>by
  unfold bindC;rw[OP λw a=>h w (cA _ a)];split;·rfl
  have:x≠n:=by rintro rfl;exact h v cF
  simp [this]
def OQ{kindOf:Str->Option NameKind}:∀{P:List Str} {vs:List Value} {i:Nat} {m:Str->Option Value},P.Nodup->P[i]? =some x->vs[i]? =some v->kindOf x=some .local->
  bindL kindOf (P.zip vs) m x=some v
 | [],_,_,_,_,h,_,_=>by simp at h
 |_::_,[],_,_,_,_,h,_=>by simp at h
 |p::P,w::vs,0,m,nd,h1,h2,hk=>by
  simp at h1 h2;subst h1;subst h2;show bindL kindOf ((p,w)::P.zip vs) m p=_;unfold bindL;rw[OO λv a=>(al_83.mp nd).1 (List.of_mem_zip a).1,aB hk];simp
 |p::P,w::vs,i+1,m,nd,h1,h2,hk=>by
  show bindL kindOf ((p,w)::P.zip vs) m x=_;unfold bindL;exact OQ (i:=i) (al_83.mp nd).2 (by simpa using h1) (by simpa using h2) hk
def OR{kindOf:Str->Option NameKind}:∀{P:List Str} {vs:List Value} {i:Nat} {m:Str->Option Value},P.Nodup->P[i]? =some x->vs[i]? =some v->kindOf x≠some .local->
  bindC kindOf (P.zip vs) m x=some v
 | [],_,_,_,_,h,_,_=>by simp at h
 |_::_,[],_,_,_,_,h,_=>by simp at h
 |p::P,w::vs,0,m,nd,h1,h2,hk=>by
  simp at h1 h2;subst h1;subst h2;show bindC kindOf ((p,w)::P.zip vs) m p=_;unfold bindC;rw[OP λv a=>(al_83.mp nd).1 (List.of_mem_zip a).1,aA hk];simp
 |p::P,w::vs,i+1,m,nd,h1,h2,hk=>by
  show bindC kindOf ((p,w)::P.zip vs) m x=_;unfold bindC;exact OR (i:=i) (al_83.mp nd).2 (by simpa using h1) (by simpa using h2) hk
def pY(N:List Str)(vs:List V):St:=vs.map some++List.replicate (N.length-vs.length) none
def aR(CX:lQ)(P:Program)(w:World)(K:PySem.W.Frag)(mg:Str->Option Value)(base:Heap)(N:List Str)(qual:Str)(scope:Scope)(f:Addr)(cd:Value)(A:Around)(outer:List Env)(s:Shared)(H:Hp)(E:XK):Cx where
 prog:=P
 w:=w
 K:=K
 mg:=mg
 base:=base
 A:=A.deeper (envOfC qual scope s.heap.objs.size f cd)
 N:=N
 s_0:=s
 H_0:=H
 env:=envOfC qual scope s.heap.objs.size f cd
 outer:=outer
 stack:=envOfC qual scope s.heap.objs.size f cd::outer
 ex:=[]
 calm:=true
 fn:=λ_=>true
 pn:=[]
 xe:=λe s'=>wpAny (model P w) (A.deeper (envOfC qual scope s.heap.objs.size f cd)) (leaving (envOfC qual scope s.heap.objs.size f cd) e) (λ_ s''=>CX outer H s E e s'') (λe' s''=>CX outer H s E e' s'') s'
def OS{sc:Scope}(h:sc.names.lookup x=some .cell):∃c,(cellsFrom n sc.names []).lookup x=some c:=by have q:=PySem.W.cellsFrom_some sc.names n [] (.inl h);exact Option.isSome_iff_exists.mp q
def Gc{CX:lQ}{P:Program}{w:World}{K:PySem.W.Frag}{J:Str->Option Value}{base:Heap}{N ps:List Str}{l:Str}{d:Scope}{f:Addr}{G:Value}{A:Around}{j:List Env}{s O:Shared}{H:Hp}{E:XK}{us:List Value}{vs:List V}
  (S:BG N ps d) (T:A.handled=none) (o:Env0 P w K J base A j s H) (hl:vs.length=ps.length) (r:Vals vs us)
  (x:InCallC s s.heap.objs.size (bindL (envOfC l d s.heap.objs.size f G).kindOf (ps.zip us) λ_=>none) (cellsFrom (s.heap.objs.size+1) d.names []) (bindC (envOfC l d s.heap.objs.size f G).kindOf (ps.zip us) λ_=>none) O):
  Inv (aR CX P w K J base N l d f G A j s H E) [] (pY N vs) H O:=by
 have U:ps.length<=N.length:=by have:=bS List.length S.pre;rw[iH]at this;lia
 obtain⟨I,tk,rfl,L⟩:=x.done;have C:∀b:Addr,b∉(aR CX P w K J base N l d f G A j s H E).ex:=λb z=>absurd (show b∈([]:List Addr)from z) (by simp);refine⟨⟨o.mod,S.kind,Z,Z,aK _,λy z c I m=> ?_,λy B=> ?_,λy c _ h=> ?_,λ_=>T,Around.frames_deeper o.frames,.inr ⟨Z,Z⟩,λb z=>absurd z (C b),o.bs,o.bsz,λb _ _=>C b,λb z=>absurd z (C b),o.funs,o.frf⟩,
  Z,o.bare,Un.kept L,⟨_,x.toInCall.ns,λi y v I m Y=> ?_⟩,λy c h=>⟨_,x.cell y c h⟩,o.hok.fresh (aK _),λy c h=> ?_,λp D=>absurd (show p∈([]:List (Addr×Obj))from D) (by simp),o.hok.kept L,?_⟩
 ·exact name_of_addr x.apart (jY I) (jY m)
 ·have B:d.names.lookup y=some .cell\/d.names.lookup y=some .free:=B;rcases B with B|B
  ·exact OS B
  exact absurd rfl (S.nofree _ (jY B))
 ·exact pL (x.above y c (jY h))
 ·have hi:i<vs.length:=by
   unfold pY at m;by_cases hi:i<vs.length;·exact hi
   rw[iT (by simpa using hi)]at m;rw[List.getElem?_replicate]at m;split at m<;>cases m
  have Q:vs[i]? =some v:=by unfold pY at m;rw[jZ (by simpa using hi),fL]at m;cases e:vs[i]? with|none=>rw[e]at m;cases m|some a=>rw[e]at m;cases m;rfl
  obtain⟨u,M,X⟩:=r.get Q;have D:ps[i]? =some y:=by rw[<- S.pre,AD (by lia)];exact I
  have F:ps.Nodup:=by rw[<- S.pre];exact S.nd.sublist (List.take_sublist _ _)
  refine⟨u,X,?_⟩;rcases S.par y (fM D)with k|k
  ·exact .inl ⟨k,OQ F D M k⟩
  obtain⟨c,e⟩:=OS (n:=s.heap.objs.size+1) k;refine .inr ⟨.inl k,c,e,?_⟩;have q:=x.cell y c e;rw[OR F D M (by show d.names.lookup y≠_;rw[k];decide)]at q;exact q
 ·exact o.hok.fresh (pL (x.above y c (jY h)))
 unfold pY;show _=N.length;rw[bF,aO,List.length_replicate];lia
def Gd{CX:lQ}{P:Program}{w:World}{K:PySem.W.Frag}{mg:Str->Option Value}{base:Heap}{k:Nat}{f:Addr}{name qual:Str}{params:Arguments}{body:List Stmt}{scope:Scope}{dV kV doc pm cdv ct oc:Value}{an od:Option Addr}
  {osl:Array (Option Value)} {N ps:List Str} {sp:Sp} (lk:K.lookup f=some ⟨oc,od,.func (PySem.W.fnOf name qual params body scope dV kV doc pm an cdv ct),osl⟩) (hcd:PySem.W.codeIn K cdv qual=true) (S:BG N ps scope)
  (len:∀vs H Q E,sp vs H Q E->vs.length=ps.length)
  (hbody:∀ (A:Around) (outer:List Env) (s:Shared) (H:Hp) (vs:List V) (Q:VK) (E:XK),Room k (A.deeper (envOfC qual scope s.heap.objs.size f cdv))->sp vs H Q E ->
   ∃t,PSs (aR CX P w K mg base N qual scope f cdv A outer s H E) body t/\t (Ends.fn Q) (pY N vs) H):
  kX P w K mg base CX (k+1) f (PySem.W.fnOf name qual params body scope dV kV doc pm an cdv ct) ps sp:=by
 refine⟨len,λA outer s H args us vs Q E hr e0 hb r hsp=> ?_⟩;have hl:=len _ _ _ _ hsp;have KX:K.In s.heap:=e0.mod.kin.keeps λb o e=>(e0.bs b o e).1;have lim:s.heap.NoLimit:=e0.mod.nolimit.keeps λb o e=>(e0.bs b o e).1;have hkind:∀y∈ps.zip us,scope.names.lookup y.1=some .local\/(scope.names.lookup y.1=some .cell/\((cellsFrom (s.heap.objs.size+1) scope.names []).lookup y.1).isSome=true):=λ⟨n,v⟩ hy=>by
  rcases S.par n (List.of_mem_zip hy).1 with q|q;·exact .inl q
  exact .inr ⟨q,PySem.W.cellsFrom_some _ _ _ (.inl q)⟩
 refine codeAny_call_function hr.depth (KX _ _ lk) rfl S.co S.gen rfl (PySem.W.codeRec_of KX hcd) (hb _ _ _ _ ?_);refine wpAny_newFunctionEnv_cells S.kind hkind λenv he s1 x=> ?_;subst he;refine⟨lim.keeps x.toInCall.keep,codeAny_func ?_⟩;obtain⟨t,ht,hq⟩:=hbody A outer s H vs Q E (hr.deeper _) hsp;have I:Inv (aR CX P w K mg base N qual scope f cdv A outer s H E) [] (pY N vs) H s1:=Gc S hr.hd e0 hl r x;refine kP (ht [] s1 (pY N vs) H _ I hq) (λfl s' hs=> ?_) λe s' hs=>hs;have fin:∀{σ':St} {H':Hp} {v:V} {u:Value},Inv (aR CX P w K mg base N qual scope f cdv A outer s H E) [] σ' H' s'->RelV v u->Q v H'->CE outer P w H s Q u s':=
  λ{σ' H' v u} J rv q=>⟨v,H',J.os,J.bare,J.base,J.hok,rv,q⟩
 cases fl with
 |ret u=>
  obtain⟨v,σ',H',J,rv,q⟩:=hs;exact fin J rv q
 |next=>
  obtain⟨σ',H',J,q⟩:=hs;exact fin (v:=V.non) (u:=Value.none) J rfl q
 |brk=>
  obtain⟨_,_,_,q⟩:=hs;exact False.elim q
 |cont=>
  obtain⟨_,_,_,q⟩:=hs;exact False.elim q
section
variable{X:Cx}{x:Str}{p pos:Pos}{e:Expr}{es:List Expr}{t:TA}{id T:String}{r:List V->Hp->VK->Prop}
def OT(r:List V->Hp->VK->Prop)(t:TA):TE:=λσ H Q=>t σ H λvs a=>r vs a Q
def fU(i:tD X (.builtin id) r)(k:Gl X x)(l:X.mg x=none)(n:bootBuiltins x=some (.builtin id))(f:PA X (e::es) t)(m:x≠"__name__":=by decide) (a:(x==("__debug__":Str))=false:=by decide)
  (j:starEach (e::es) X.env=(false,eval e X.env)::starEach es X.env:=by rfl) (b:(backTo pos (starEach es X.env)).any (·.1)=false:=by rfl):PE X (.Call (.Name x p) (e::es) [] pos) (OT r t):=by
 intro pins s σ H Q I h;refine uP (xL I k l n ?_ m a);exact PyProof.Rows.callWith_builtin1 (thn (f pos pins s σ H _ I h) λus u ⟨vs,c,d,q,o⟩=>i pins u σ c vs us Q d q o) j b
def BH(i:tD X (.type T) r)(k:Gl X x)(l:X.mg x=none)(n:bootBuiltins x=some (.type T))(f:PA X (e::es) t)(m:x≠"__name__":=by decide) (a:(x==("__debug__":Str))=false:=by decide)
  (j:starEach (e::es) X.env=(false,eval e X.env)::starEach es X.env:=by rfl) (b:(backTo pos (starEach es X.env)).any (·.1)=false:=by rfl):PE X (.Call (.Name x p) (e::es) [] pos) (OT r t):=by
 intro pins s σ H Q I h;refine uP (xL I k l n ?_ m a);exact AB (thn (f pos pins s σ H _ I h) λus u ⟨vs,c,d,q,o⟩=>i pins u σ c vs us Q d q o) j b
end
end L2
namespace HT
open PySem PyProof.Rows
def eqAt_int(A:Around)(s:Shared)(a:Int)(t:Tok)(c:Int)(u:Tok):∃e,SeqAt.EqAt A s (.int a t) (.int c u) e/\(e=true↔a=c):=
 ⟨(a==c),SeqAt.EqAt.int_int a t c u,by simp⟩
section
open PySem.SeqAt
open PySem.AutoSeq1 (wpAny_loadPart')
open PySem.MeetsSeq PySem.MeetsSeq2 PySem.MeetsSeq3
end
section
variable{prog:Program}{w:World}{A:Around}{E:Value->Shared->Prop}{s:Shared}
def cat_tup(B:IsTup s.heap t vs.toArray)(z:IsTup s.heap b a.toArray)(r:vs≠[])
  (x:a=[]->Q (.ref t) s) (y:a≠[]->Q (.ref s.heap.objs.size) {s with heap:=s.heap.push {cls:= .type "tuple",data:= .seq (vs++a).toArray}})
  (hsz:vs.length+a.length<=sizeLine):wpAny (model prog w) A (binaryOp .Add (.ref t) (.ref b)) Q E s:=by
 obtain⟨⟨cls,o,data,v⟩,j,p,n,q⟩:=id B;obtain⟨⟨m,d,l,i⟩,c,f,u,h⟩:=id z;simp only at p q f h;subst p q f h;have e:vs.toArray++a.toArray=(vs++a).toArray:=by simp
 by_cases k:a=[]
 ·exact concat_meets ⟨_,j,Z⟩ ⟨_,c,Z⟩ noFill_tuple_add seq_tuple_add PySem.F.slot_tuple_add PySem.F.entry_tuple_add (PySem.F.args_tuple_add_2 _ _)
   (tuple_addW1 t b vs.toArray a.toArray n u o d v i (by simpa using r) (by simp [k])) ⟨j,c,x k⟩
 refine concat_meets ⟨_,j,Z⟩ ⟨_,c,Z⟩ noFill_tuple_add seq_tuple_add PySem.F.slot_tuple_add PySem.F.entry_tuple_add (PySem.F.args_tuple_add_2 _ _)
  (tuple_addW2 t b vs.toArray a.toArray n u o d v i (by simpa using r) (by simpa using k) (by rw[dL,dL];exact hsz)) ⟨j,c,?_⟩
 rw[e];exact y k
def sIx(n d:Nat):Option Int->Nat
 |none=>d
 |some v=>if v<0 then(v+(n:Int)).toNat else min v.toNat n
def sIx_none(n d:Nat):sIx n d none=d:=rfl
def sIx_nat(n d k:Nat):sIx n d (some (k:Int))=min k n:=by
 show(if(k:Int)<0 then((k:Int)+(n:Int)).toNat else min (k:Int).toNat n)=min k n;rw[aA (by lia),sM]
def Ge(n d:Nat)(b:d<=n)(o:Option Int):sIx n d o<=n:=by
 cases o with
 |none=>exact b
 |some v=>
  show(if v<0 then(v+(n:Int)).toNat else min v.toNat n)<=n;by_cases a:v<0;·rw[aB a];lia
  rw[aA a];exact Nat.min_le_right _ _
def OU(v:Int)(n d:Nat):(if v<0 then max (v+(n:Int)) 0 else min v (n:Int))=((sIx n d (some v):Nat):Int):=by
 show(if v<0 then max (v+(n:Int)) 0 else min v (n:Int))=(((if v<0 then(v+(n:Int)).toNat else min v.toNat n):Nat):Int);by_cases a:v<0;·simp only [aB a];lia
 simp only [aA a];lia
def Gf(lo hi:Option Int)(n:Nat):Builtin.Slice.sliceAdjust lo hi 1 (n:Int)=(((sIx n 0 lo:Nat):Int),((sIx n n hi:Nat):Int)):=by
 have a:¬((1:Int)<0):=by lia
 unfold Builtin.Slice.sliceAdjust;simp only [a,oJ];refine Prod.ext ?_ ?_;·cases lo with|none=>rfl|some v=>exact OU v n 0
 cases hi with|none=>rfl|some v=>exact OU v n n
def Gg(i j:Nat):Builtin.Slice.slicePlaces (i:Int) (j:Int) 1=j-i:=by
 unfold Builtin.Slice.slicePlaces;have a:(1:Int)>0:=by lia
 simp only [a,if_true,Int.ediv_one];split<;>lia
def OV(p:IsPart v o)(h:Q o s):wpAny (model prog w) A (Builtin.Slice.slicePartIndex v) Q E s:=by cases p with|none=>exact slicePart_none h|int i t=>exact slicePart_int h
def Gi{e:Addr}{c d:Value}{lo hi:Option Int}{n:Nat}{Q:Int×Int×Nat->Shared->Prop}(i:s.heap.IsSliceOf e c d .none)(pl:IsPart c lo)(j:IsPart d hi)
  (h:Q (((sIx n 0 lo:Nat):Int),1,sIx n n hi-sIx n 0 lo) s):wpAny (model prog w) A (Builtin.Slice.sliceApplied (.ref e) (pure (n:Int))) Q E s:=by
 obtain⟨k,b,f,a⟩:=id i;unfold Builtin.Slice.sliceApplied Builtin.Slice.sliceFields;refine aJ (aJ (wpAny_field b a (x:=c) Z (aJ (wpAny_field b a (x:=d) Z (aJ (wpAny_field b a (x:= .none) Z (aW ?_)))))));refine aJ (slicePart_none ?_);show wpAny _ _ (if((1:Int)==0)=true then _ else _) _ _ s;rw[aA (by decide)];refine aJ (OV pl (aJ (OV j (aJ (aW ?_)))));show wpAny _ _ (match Builtin.Slice.sliceAdjust lo hi 1 (n:Int)with|(lo,hi)=>pure (lo,(1:Int),Builtin.Slice.slicePlaces lo hi 1)) _ _ s;rw[Gf lo hi n];show wpAny _ _ (pure (((sIx n 0 lo:Nat):Int),(1:Int),Builtin.Slice.slicePlaces ((sIx n 0 lo:Nat):Int) ((sIx n n hi:Nat):Int) 1)) _ _ s;rw[Gg];exact aW h
def Gj(xs:Array Value)(i k:Nat):((List.range k).filterMap λ(m:Nat)=>xs[((i:Int)+(m:Int)*1).toNat]?).toArray=((xs.toList.drop i).take k).toArray:=by
 have e:(λ(m:Nat)=>xs[((i:Int)+(m:Int)*1).toNat]?)=λm=>xs[i+m]?:=by
  funext m;have:((i:Int)+(m:Int)*1).toNat=i+m:=by lia
  rw[this]
 rw[e];have:=pick_run xs i k;rw[List.filterMap_map]at this;have a:((λx=>xs[x]?)∘λx=>i+x)=λm=>xs[i+m]?:=rfl;rw[a]at this;rw[this]
def getItem_tuple_cut{t j:Addr}{a:Array Value}{l n:Value}{lo hi:Option Int}{Q:Value->Shared->Prop}(c:IsTup s.heap t a)(k:s.heap.IsSliceOf j l n .none)(pl:IsPart l lo)(u:IsPart n hi)
  (p:¬(sIx a.size 0 lo=0/\sIx a.size a.size hi=a.size))
  (h:Q (.ref s.heap.objs.size) {s with heap:=s.heap.push {cls:= .type "tuple",data:= .seq ((a.toList.drop (sIx a.size 0 lo)).take (sIx a.size a.size hi-sIx a.size 0 lo)).toArray}})
  (hsz:a.size<=sizeLine):wpAny (model prog w) A (getItem (.ref t) (.ref j)) Q E s:=by
 have b:sizeOk (.seq ((a.toList.drop (sIx a.size 0 lo)).take (sIx a.size a.size hi-sIx a.size 0 lo)).toArray):=by
  show((a.toList.drop (sIx a.size 0 lo)).take (sIx a.size a.size hi-sIx a.size 0 lo)).toArray.size<=sizeLine;rw[dL,iH,AE,cO];lia
 have v:sIx a.size a.size hi<=a.size:=Ge _ _ (aK _) hi;obtain⟨r,i,e,o⟩:=id k;have d:s.TypeIs (.ref j) "slice":=⟨r,i,e⟩;unfold getItem
 try with_reducible refine sN ?_
 first|refine aJ (aW ?_)|skip
 refine aJ (wpAny_sequenceKey c.typeIs (by decide) ?_);refine aJ (FR (name:=Str.ofString "__getitem__") c.typeIs al_185
  (sO al_185 c.typeIs entry_tuple_getitem ?_ (args_tuple_getitem _ _)))
 show wpAny _ _ (Builtin.Tuple.tupleItemsOf (.ref t) >>= _) _ _ s;refine aJ (tupleItemsOf_ c ?_);refine aJ (wpAny_typeOf d ?_);rw[aB (by decide)];refine aJ (Gi k pl u ?_);have f:¬((((sIx a.size 0 lo:Nat):Int)==0&&(1:Int)==1&&(sIx a.size a.size hi-sIx a.size 0 lo)==a.size)=true):=by intro q;rw[cB,cB]at q;have x:((sIx a.size 0 lo:Nat):Int)=0:=sP q.1.1;have y:sIx a.size a.size hi-sIx a.size 0 lo=a.size:=sP q.2;exact p ⟨by lia,by lia⟩
 show wpAny _ _ (if(((sIx a.size 0 lo:Nat):Int)==0&&(1:Int)==1&&(sIx a.size a.size hi-sIx a.size 0 lo)==a.size)=true then _ else _) _ _ s;rw[aA f,Gj]
 first
  |exact aJ (m:=Builtin.Tuple.tupleExact _) (pM (aW ⟨_,rfl,aW h⟩) b)
  |exact aJ (m:=Builtin.Tuple.tupleExact _) (pM (aJ (aW (aW ⟨_,rfl,aW h⟩))) b)
  |exact aJ (aJ (m:=Builtin.Tuple.tupleExact _) (pM (aW (aW ⟨_,rfl,aW h⟩)) b))
  |exact aJ (aJ (m:=Builtin.Tuple.tupleExact _) (pM (aW ⟨_,rfl,aW h⟩) b))
end
end HT
namespace L2
open PySem PySem.Spec PyProof.Rows
abbrev TO:=St->Hp->(Option Int->Hp->Prop)->Prop
def PO(X:Cx)(e:Option Expr)(t:TO):Prop:=
 ∀(pins:List (Addr×Obj)) (s:Shared) (σ:St) (H:Hp) (Q:Option Int->Hp->Prop),Inv X pins σ H s->t σ H Q->
  wpAny (model X.prog X.w) X.A (evalPart e X.env) (λu a=>∃o H',Inv X pins σ H' a/\IsPart u o/\Q o H') X.xe s
def Gk:TO:=λ_ H Q=>Q none H
def Gm(t:TE):TO:=λσ H Q=>t σ H λx a=>∃i,x= .int i/\Q (some i) a
def OW:∀{us:List Value},Vals (ns.map V.int) us->IntsAre us ns:=by
 induction ns with
 |nil=>intro us r;rw[uN]at r;cases r;exact .nil
 |cons n ns ih=>
  intro us r;rw[fE]at r;cases r with
  |cons r1 r2=>
   obtain⟨t,e⟩:=r1;subst e;exact .cons n t (ih r2)
section
variable{X:Cx}{e:Expr}{te:TE}{lo hi:Option Expr}{tl th:TO}{pos p2:Pos}
def OX:PO X none Gk:=by intro pins s σ H Q I h;rw[evalPart_none];exact aW ⟨none,H,I,.none,h⟩
def OY(h:PE X e te):PO X (some e) (Gm te):=by intro pins s σ H Q I c;rw[evalPart_some];refine thn (h pins s σ H _ I c) λu j ⟨x,a,b,f,d⟩=> ?_;obtain⟨i,rfl,q⟩:=d;obtain⟨t,rfl⟩:=f;exact⟨some i,a,b,.int i t,q⟩
def GY(X:Cx)(r:V->Option Int->Option Int->Hp->VK->Prop):Prop:=
 ∀(pins:List (Addr×Obj)) (s:Shared) (σ:St) (H:Hp) (x:V) (v b c:Value) (lo hi:Option Int) (a:Addr) (Q:VK),Inv X pins σ H s->RelV x v->s.heap.IsSliceOf a b c .none->IsPart b lo->IsPart c hi->r x lo hi H Q->
  ∃T id,typeLookup (.type T) "__getitem__"=pure (some (.builtin id))/\s.TypeIs v T/\wpAny (model X.prog X.w) X.A (getItem v (.ref a)) (EP X pins σ Q) X.xe s
def Gn(r:V->Option Int->Option Int->Hp->VK->Prop)(d:TE)(f e:TO):TE:=λσ H Q=>d σ H λx a=>f σ a λl b=>e σ b λu c=>r x l u c Q
def OZ(C:GY X r)(y:PE X e te)(B:PO X lo tl)(E:PO X hi th):PE X (.Subscript e (.Slice lo hi none p2) pos) (Gn r te tl th):=by
 intro pins s σ H Q I h;refine Subscript_ (thn (y pins s σ H _ I h) λv M ⟨x,i,k,L,G⟩=> ?_);refine wpAny_Slice (thn (B pins M σ i _ k G) λc N ⟨l,j,m,pl,J⟩=>thn (E pins N σ j _ m J) λd a ⟨u,f,n,F,K⟩=> ?_);rw[evalPart_none];refine aW ?_;have o:Inv X pins σ f {a with heap:=a.heap.push {cls:= .type "slice",data:= .fields #[c,d,.none]}}:=n.kept (t':=a.toks) λb O q=>dZ _ q;obtain⟨T,id,p,D,z⟩:=C pins {a with heap:=a.heap.push {cls:= .type "slice",data:= .fields #[c,d,.none]}} σ f x v c d l u a.heap.objs.size Q o L (Heap.IsSliceOf.new ..) pl F K
 show wpAny (model X.prog X.w) X.A (subscriptTail e (.Slice lo hi none p2) v (.ref a.heap.objs.size)) (EP X pins σ Q) X.xe {a with heap:=a.heap.push {cls:= .type "slice",data:= .fields #[c,d,.none]}};exact tail_any (ops:=[.ref a.heap.objs.size,v]) D p z (by with_unfolding_all rfl)
def rH(xs:List V)(lo hi:Option Int):List V:=(xs.drop (HT.sIx xs.length 0 lo)).take (HT.sIx xs.length xs.length hi-HT.sIx xs.length 0 lo)
def PB(xs:List V)(lo hi:Option Int):(rH xs lo hi).length<=xs.length:=by
 unfold rH;rw[iH,AE];lia
def Go(K:PySem.W.Frag):V->Option Int->Option Int->Hp->VK->Prop:=λx lo hi H Q=>∃a xs,x= .ref a/\SqT K H a xs/\
 ¬(HT.sIx xs.length 0 lo=0/\HT.sIx xs.length xs.length hi=xs.length)/\∀p,H p=none->Q (.ref p) (aE H p (.tup (rH xs lo hi)))
def Gp:GY X (Go X.K):=by
 intro pins s σ H x v p u lo hi n Q I l f pl k h;obtain⟨a,xs,rfl,j,i,q⟩:=h;cases l;obtain⟨d,r,e,hz⟩:=I.tuple j;have c:d.toArray.size=xs.length:=by rw[dL];exact r.length.symm
 refine⟨"tuple",_,al_185.lookup,e.typeIs,?_⟩;refine HT.getItem_tuple_cut e f pl k (by rw[c];exact i) ?_ (by rw[c];exact hz);rw[c];refine⟨.ref s.heap.objs.size,_,I.laid (t':=s.toks) (o:= .tup (rH xs lo hi)) (λb m q=>dZ _ q) (aK _) ?_,Z,q _ (I.hok.fresh (aK _))⟩;exact⟨aZ (PB xs lo hi) hz,_,(r.drop (HT.sIx xs.length 0 lo)).take (HT.sIx xs.length xs.length hi-HT.sIx xs.length 0 lo),IsTup.new _ _⟩
def Gq(K:PySem.W.Frag):R2:=λx y H Q=>∃a b xs ys,x= .ref a/\y= .ref b/\SqT K H a xs/\SqT K H b ys/\xs≠[]/\xs.length+ys.length<=sizeLine/\
 (ys=[]->Q (.ref a) H)/\(ys≠[]->∀p,H p=none->Q (.ref p) (aE H p (.tup (xs++ys))))
def Vals.nil_iff(r:Vals xs us):us=[]↔xs=[]:=by cases r with|nil=>simp|cons _ _=>simp
def Gr:eZ X (binaryOp .Add) (Gq X.K):=by intro pins s σ H x y v u Q I r A h;obtain⟨a,b,xs,ys,rfl,rfl,f,i,j,hz,n,p⟩:=h;cases r;cases A;obtain⟨k,d,l,_⟩:=I.tuple f;obtain⟨e,c,m,_⟩:=I.tuple i;refine HT.cat_tup l m (λz=>j (d.nil_iff.mp z)) (λz=>⟨.ref a,H,I,Z,n (c.nil_iff.mp z)⟩) (λz=> ?_) (by rw[<- d.length,<- c.length];exact hz);refine⟨.ref s.heap.objs.size,_,I.laid (t':=s.toks) (o:= .tup (xs++ys)) (λb B q=>dZ _ q) (aK _) ?_,Z,p (λw=>z (c.nil_iff.mpr w)) _ (I.hok.fresh (aK _))⟩;exact⟨by rw[bF];exact hz,_,d.append c,IsTup.new _ _⟩
end
def lR(n:Nat)(i:Int):Option Nat:=if 0<=i then(if i<n then some i.toNat else none)else if-(n:Int)<=i then some (i+n).toNat else none
def hX(xs:List α)(i:Int):Option α:=(lR xs.length i).bind λj=>xs[j]?
def PD(h:lR n i=some j):seqIndex? i n=some j/\j<n/\ -(n:Int)<=i/\i<n:=by
 unfold lR at h;by_cases b:0<=i
 ·rw[aB b]at h;by_cases a:i<n;·rw[aB a]at h;have e:i.toNat=j:=cV h;exact⟨by rw[seqIndex_of b a,e],by lia,by lia,a⟩
  rw[aA a]at h;cases h
 rw[aA b]at h;by_cases a: -(n:Int)<=i;·rw[aB a]at h;have e:(i+n).toNat=j:=cV h;exact⟨by rw[seqIndex_neg (by lia) a,e],by lia,a,by lia⟩
 rw[aA a]at h;cases h
def PF(h:hX xs i=some v):∃j,seqIndex? i xs.length=some j/\xs[j]? =some v/\j<xs.length/\ -(xs.length:Int)<=i/\i<xs.length:=by
 unfold hX at h;cases e:lR xs.length i with
 |none=>rw[e]at h;cases h
 |some j=>
  rw[e]at h;obtain⟨a,b,c,d⟩:=PD e;exact⟨j,a,h,b,c,d⟩
def GZ{α:Type}{xs:List α}{j:Nat}{v:α}(h:xs[j]? =some v):hX xs (j:Int)=some v:=by
 have a:j<xs.length:=(al_19.mp h).1;have e:lR xs.length (j:Int)=some j:=by unfold lR;rw[aB (by lia),aB (by lia)];simp
 unfold hX;rw[e];exact h
def Gs(b:Expr):Prop:=∀o i,subscripted b false o i=operate [o,i] (getItem o i)
def PH(X:Cx)(r:R2):Prop:=
 ∀(b a:Expr) (pins:List (Addr×Obj)) (s:Shared) (σ:St) (H:Hp) (x y:V) (v u:Value) (Q:VK),Inv X pins σ H s->RelV x v->RelV y u->r x y H Q->
  subscripted a false v u=operate [v,u] (getItem v u)->wpAny (model X.prog X.w) X.A (subscriptTail b a v u) (EP X pins σ Q) X.xe s
def PJ(X:Cx)(id:String)(r:V->List V->Hp->VK->Prop):Prop:=
 ∀(pins:List (Addr×Obj)) (s:Shared) (σ:St) (H:Hp) (x:V) (xs:List V) (v:Value) (us:List Value) (Q:VK),Inv X pins σ H s->RelV x v->Vals xs us->r x xs H Q->
  wpAny (model X.prog X.w) X.A (call (.builtin id) (v::us)) (EP X pins σ Q) X.xe s
section
variable{X:Cx}{a b:Expr}{ta tb:TE}{pos:Pos}
def iJ(i:PH X r)(e:PE X a ta)(f:PE X b tb)(j:Gs b):PE X (.Subscript a b pos) (vG r ta tb):=by intro pins s σ H Q I h;exact Subscript_ (GO e f I h λv u m x y c d k l q=>i a b pins m σ c x y v u Q d k l q (j _ _))
inductive pZ(K:PySem.W.Frag)(x y:V)(H:Hp)(Q:VK):Prop
 |mk (p:Addr) (xs:List V) (i:Int) (v:V) (_:x= .ref p) (_:y= .int i) (_:SqL K H p xs) (_:hX xs i=some v) (_:Q v H)
def iK:PH X (pZ X.K):=by
 intro k f pins s σ H x y v u Q I F G h n;obtain⟨p,xs,i,z,rfl,rfl,E,C,q⟩:=h;cases F;obtain⟨t,rfl⟩:=G;obtain⟨d,r,pl,hz⟩:=I.list E;obtain⟨j,b,o,L,A,B⟩:=PF C;obtain⟨w,l,e⟩:=r.get o;have D:=r.length;have M:=BB;have a:EP X pins σ Q w s:=⟨z,H,I,e,q⟩;by_cases m:0<=i
 ·have c:i.toNat=j:=by
   rw[seqIndex_of m B]at b;exact cV b
  exact item_listR pl.isList m (by lia) (by rw[c];simpa using l) a n
 have c:(i+(d.toArray.size:Int)).toNat=j:=by rw[seqIndex_neg (by lia) A]at b;rw[dL,<- D];exact cV b
 exact subscriptTail_builtinR (x:=w) pl.isList.typeIs slot_list_getitem.lookup
  (wpAny_getItem_list_neg (Q:=λr J=>r=w/\EP X pins σ Q r J) pl.isList (by lia) (by rw[dL]<;>lia) (by lia) (by rw[c];simpa using l) ⟨Z,a⟩) n
def Gu(a:List Value)(n j:Nat)(u:Value):Obj.mapSeq (·.setIfInBounds j u) {cls:= .type "list",data:= .seq a.toArray n}={cls:= .type "list",data:= .seq (a.set j u).toArray n}:=by simp [Obj.mapSeq]
def Inv.lst(I:Inv X pins σ H s)(h:H p=some (.lst xs)):
  ∃(a:List Value) (n:Nat),Vals xs a/\s.heap.get? p=some {cls:= .type "list",data:= .seq a.toArray n}/\xs.length<=sizeLine:=by
 obtain⟨z,a,n,r,e⟩:=I.hok p _ h;exact⟨a,n,r,e,z⟩
def Inv.lstUpd{H:Hp}{s:Shared}{xs ys:List V}{a its':List Value}{f:Obj->Obj}(I:Inv X pins σ H s)(h:H p=some (.lst xs))
  (j:s.heap.get? p=some {cls:= .type "list",data:= .seq a.toArray n}) (d:f {cls:= .type "list",data:= .seq a.toArray n}={cls:= .type "list",data:= .seq its'.toArray c}) (r:Vals ys its') (hz:ys.length<=sizeLine) (t:Nat):
  Inv X pins σ (aE H p (.lst ys)) {s with heap:=s.heap.update p f,toks:=t}:=by
 have e:(s.heap.update p f).get? p=some {cls:= .type "list",data:= .seq its'.toArray c}:=by rw[qW f j (by rw[d]<;>rfl),d]
 refine I.write (x:=p) (e:=p) (by rw[h];trivial) (.inl Z) (λb u i q=>(AF _ _ (dJ i)).trans q) ⟨_,e⟩ ?_;exact⟨hz,its',c,r,e⟩
def Gv:V->V->V->Hp->(Hp->Prop)->Prop:=λo i v H Q=>∃p xs k j,o= .ref p/\i= .int k/\H p=some (.lst xs)/\lR xs.length k=some j/\Q (aE H p (.lst (xs.set j v)))
def Gw:NP X Gv:=by
 intro pins s σ H o i v F E u Q I A z B h;obtain⟨p,xs,k,j,rfl,rfl,x,y,q⟩:=h;cases A;obtain⟨t,rfl⟩:=z;obtain⟨a,n,r,e,hz⟩:=I.lst x;obtain⟨b,C,m,w⟩:=PD y;have d:=r.length;have D:=BB;have f:Inv X pins σ (aE H p (.lst (xs.set j v))) {s with heap:=s.heap.update p (Obj.mapSeq (·.setIfInBounds j u))}:=
  I.lstUpd x e (Gu a n j u) (r.set B j) (by rw[List.length_set];exact hz) s.toks
 by_cases l:0<=k
 ·have c:k.toNat=j:=by
   rw[seqIndex_of l w]at b;exact cV b
  exact PySem.W.ki_setAt e l (by lia) (by rw[dL,<- d];exact w) (by rw[c];exact⟨_,f,q⟩)
 have c:(k+(a.toArray.size:Int)).toNat=j:=by rw[seqIndex_neg (by lia) m]at b;rw[dL,<- d];exact cV b
 exact PySem.W.ki_setBack e (by lia) (by rw[dL,<- d];exact m) (by lia) (by rw[c];exact⟨_,f,q⟩)
def Gx(lo hi:Option Int)(n:Nat):(sliceBounds lo hi none n).1=((HT.sIx n 0 lo:Nat):Int)/\(sliceBounds lo hi none n).2.1=((HT.sIx n n hi:Nat):Int)/\(sliceBounds lo hi none n).2.2=1:=by
 refine⟨?_,?_,Z⟩
 ·cases lo with
  |none=>simp [sliceBounds,HT.sIx]
  |some i=>
   simp only [sliceBounds,HT.sIx,Option.getD_none,show(1:Int)>0 by decide,if_true];by_cases h:i<0;·simp only [h,if_true]<;>lia
   simp only [h,oJ]<;>lia
 cases hi with
 |none=>simp [sliceBounds,HT.sIx]
 |some i=>
  simp only [sliceBounds,HT.sIx,Option.getD_none,show(1:Int)>0 by decide,if_true];by_cases h:i<0;·simp only [h,if_true]<;>lia
  simp only [h,oJ]<;>lia
def Gy(a:List Value)(lo hi:Option Int):slicePick a.toArray lo hi none=((a.drop (HT.sIx a.length 0 lo)).take (HT.sIx a.length a.length hi-HT.sIx a.length 0 lo)).toArray:=by obtain⟨b,c,d⟩:=Gx lo hi a.toArray.size;unfold slicePick;rw[b,c,d];simp only [sliceRange_one,pick_run,dL]<;>rfl
def PK(K:PySem.W.Frag):V->Option Int->Option Int->Hp->VK->Prop:=λx lo hi H Q=>∃a xs,x= .ref a/\SqL K H a xs/\∀p,H p=none->Q (.ref p) (aE H p (.lst (rH xs lo hi)))
def Gz:GY X (PK X.K):=by intro pins s σ H x v n p lo hi m Q I k e pl j h;obtain⟨a,xs,rfl,f,q⟩:=h;cases k;obtain⟨i,r,d,hz⟩:=I.list f;have c:=r.length;refine⟨"list",_,slot_list_getitem.lookup,d.isList.typeIs,?_⟩;refine wpAny_getItem_list_slice d.isList e pl j .none (by simp) ?_ (by rw[dL]<;>lia);rw[Gy,<- c];refine⟨.ref s.heap.objs.size,_,I.laid (t':=s.toks) (o:= .lst (rH xs lo hi)) (λb l q=>dZ _ q) (aK _) ?_,Z,q _ (I.hok.fresh (aK _))⟩;exact⟨aZ (PB xs lo hi) hz,_,0,(r.drop (HT.sIx xs.length 0 lo)).take (HT.sIx xs.length xs.length hi-HT.sIx xs.length 0 lo),gB _ Z⟩
def oV:V->Bool
 | .non=>true
 | .bl _=>true
 | .int _=>true
 | .str _=>true
 |_=>false
def qA:V->V->Bool
 | .non,.non=>true
 | .bl a,.bl b=>a==b
 | .bl a,.int b=>(if a then 1 else 0)==b
 | .int a,.bl b=>a==(if b then 1 else 0)
 | .int a,.int b=>a==b
 | .str a,.str b=>a==b
 |_,_=>false
def Ha(e:RelV y u)(c:RelV x v)(f:oV y=true)(d:oV x=true):SeqAt.EqAt A s u v (qA y x):=by
 cases y with
 |non=>
  cases e;cases x with
  |non=>cases c;exact SeqAt.EqAt.same _
  |bl b=>cases c;exact SeqAt.EqAt.none_bool b
  |int b=>obtain⟨t,rfl⟩:=c;exact SeqAt.EqAt.none_int b t
  |str b=>obtain⟨t,rfl⟩:=c;exact SeqAt.EqAt.none_str b t
  |_=>exact absurd (show false=true from d) bX
 |bl a=>
  cases e;cases x with
  |non=>cases c;exact SeqAt.EqAt.bool_none a
  |bl b=>cases c;exact SeqAt.EqAt.bool_bool a b
  |int b=>obtain⟨t,rfl⟩:=c;exact SeqAt.EqAt.bool_int a b t
  |str b=>obtain⟨t,rfl⟩:=c;exact SeqAt.EqAt.bool_str a b t
  |_=>exact absurd (show false=true from d) bX
 |int a=>
  obtain⟨t',rfl⟩:=e;cases x with
  |non=>cases c;exact SeqAt.EqAt.int_none a t'
  |bl b=>cases c;exact SeqAt.EqAt.int_bool a t' b
  |int b=>obtain⟨t,rfl⟩:=c;exact SeqAt.EqAt.int_int a t' b t
  |str b=>obtain⟨t,rfl⟩:=c;exact SeqAt.EqAt.int_str a t' b t
  |_=>exact absurd (show false=true from d) bX
 |str a=>
  obtain⟨t',rfl⟩:=e;cases x with
  |non=>cases c;exact SeqAt.EqAt.str_none a t'
  |bl b=>cases c;exact SeqAt.EqAt.str_bool a t' b
  |int b=>obtain⟨t,rfl⟩:=c;exact SeqAt.EqAt.str_int a t' b t
  |str b=>obtain⟨t,rfl⟩:=c;exact SeqAt.EqAt.str_str a t' b t
  |_=>exact absurd (show false=true from d) bX
 |_=>exact absurd (show false=true from f) bX
def qB(x:V)(u:Value):Bool:=match u with| .none=>qA .non x| .bool b=>qA (.bl b) x| .int i _=>qA (.int i) x| .str z _=>qA (.str z) x|_=>false
def PL(r:RelV y u)(f:oV y=true):qB x u=qA y x:=by
 cases y with
 |non=>cases r;rfl
 |bl b=>cases r;rfl
 |int i=>obtain⟨t,rfl⟩:=r;rfl
 |str z=>obtain⟨t,rfl⟩:=r;rfl
 |_=>exact absurd (show false=true from f) bX
def HB:∀{xs:List V} {us:List Value},Vals xs us->xs.all oV=true->us.any (qB x)=xs.any λy=>qA y x
 |_,_,.nil,_=>rfl
 |y::xs,u::us,.cons r t,f=>by rw[dM,cB]at f;rw[lI,lI,PL r f.1,HB t f.2]
def HC(c:RelV x v)(b:oV x=true):∀{xs:List V} {us:List Value},Vals xs us->xs.all oV=true->∀u∈us,SeqAt.EqAt A s u v (qB x u)
 |_,_,.nil,_=>λu a=>by cases a
 |y::xs,u::us,.cons r t,f=>λd a=>by
  rw[dM,cB]at f;rcases al_18.mp a with rfl|a
  ·rw[PL r f.1];exact Ha r c f.1 b
  exact HC c b t f.2 d a
def lS(x:V)(xs:List V):Bool:=xs.any λy=>qA y x
def Hb(K:PySem.W.Frag)(a:Bool):R2:=λx y H Q=>∃p xs,y= .ref p/\(SqL K H p xs\/SqT K H p xs)/\oV x=true/\xs.all oV=true/\Q (.bl (if a then !lS x xs else lS x xs)) H
def tH:eZ X (compareOp .In) (Hb X.K false):=by
 intro pins s σ H x y v u Q I e f h;obtain⟨p,xs,rfl,b,d,fs,q⟩:=h;cases f;rcases b with b|b
 ·obtain⟨a,r,pl,hz⟩:=I.list b;refine SeqAt.in_listAt (qB x) pl.isList (λw c=>HC e d r fs w (by simpa using c)) ⟨.bl _,H,I,Z,?_⟩;rw[show a.toArray.any (qB x)=a.any (qB x) by simp,HB r fs];exact q
 obtain⟨a,r,pl,hz⟩:=I.tuple b;refine SeqAt.in_tupleAt (qB x) pl (λw c=>HC e d r fs w (by simpa using c)) ⟨.bl _,H,I,Z,?_⟩;rw[show a.toArray.any (qB x)=a.any (qB x) by simp,HB r fs];exact q
def gD:tD X (.builtin "len") (λxs H Q=>∃p ys,xs=[.ref p]/\(SqL X.K H p ys\/SqT X.K H p ys)/\Q (.int ys.length) H):=by
 intro pins s σ H xs us Q I r h;obtain⟨p,ys,rfl,b,q⟩:=h;obtain⟨u,rfl,e⟩:=GT r;cases e;have f:=BB;rcases b with b|b
 ·obtain⟨c,d,pl,hz⟩:=I.list b;have a:=d.length;exact Calls.call_len_list pl.isList (by simp only [dL]<;>lia) ⟨.int ys.length,H,I.tok _,⟨s.toks+1,by rw[dL,a]⟩,q⟩
 obtain⟨c,d,pl,hz⟩:=I.tuple b;have a:=d.length;exact len_tuple pl (by simp only [dL]<;>lia) ⟨.int ys.length,H,I.tok _,⟨s.toks+1,by rw[dL,a]⟩,q⟩
def HD(K:PySem.W.Frag)(T:String)(x:V)(H:Hp):Prop:=match x with
 | .str _=>T="str"
 | .int _=>T="int"
 | .ref p=>(T="list"/\∃xs,SqL K H p xs)\/(T="tuple"/\∃o,K.lookup p=some o/\o.cls= .type "tuple"/\o.dict=none)\/
   (T="dict"/\((∃a,H p=some (.dK a))\/∃a,H p=some (.dT a)))\/(T="set"/\∃S n,H p=some (.set S n))
 |_=>False
def PM(I:Inv X pins σ H s)(r:RelV x v)(b:HD X.K T x H):
  s.TypeIs v T/\∀a,v= .ref a->∃h,s.heap.get? a=some h/\h.dict=none:=by
 cases x with
 |str z=>
  obtain⟨t,rfl⟩:=r;cases(show T="str"from b);exact⟨typeIs_str s z t,λ_ e=>nomatch e⟩
 |int i=>
  obtain⟨t,rfl⟩:=r;cases(show T="int"from b);exact⟨typeIs_int s i t,λ_ e=>nomatch e⟩
 |ref p=>
  cases r;rcases b with⟨rfl,xs,hq⟩|⟨rfl,o,hk,hc,f⟩|⟨rfl,hk⟩|⟨rfl,S,n,hk⟩
  ·obtain⟨j,_,pl,_⟩:=I.list hq;refine⟨pl.isList.typeIs,λa e=> ?_⟩;cases e;obtain⟨o,n,e,c,f,_⟩:=pl;exact⟨o,e,f⟩
  ·refine⟨⟨o,I.kIn p o hk,hc⟩,λa e=> ?_⟩;cases e;exact⟨o,I.kIn _ o hk,f⟩
  ·have z:∃o,s.heap.get? p=some o/\o.ExactDict:=by
    rcases hk with⟨kvs,hk⟩|⟨kvs,hk⟩;·obtain⟨_,_,_,_,o,_,_,e,ex,_⟩:=I.hok p _ hk;exact⟨o,e,ex⟩
    obtain⟨_,_,_,_,o,_,_,e,ex,_⟩:=I.hok p _ hk;exact⟨o,e,ex⟩
   obtain⟨o,e,ex⟩:=z;refine⟨⟨o,e,ex.1⟩,λa d=> ?_⟩;cases d;exact⟨o,e,ex.2.1⟩
  obtain⟨o,_,_,_,e,ex,_⟩:=I.hok p _ hk;refine⟨⟨o,e,ex.1⟩,λa d=> ?_⟩;cases d;exact⟨o,e,ex.2.1⟩
 |_=>exact False.elim b
def Hc(K:PySem.W.Frag)(T:String)(r:V->List V->Hp->VK->Prop)(b:TE):TE:=λσ H Q=>b σ H λx a=>HD K T x a/\r x [] a Q
def Hd(K:PySem.W.Frag)(T:String)(r:V->List V->Hp->VK->Prop)(c:TE)(t:TA):TE:=λσ H Q=>c σ H λx a=>HD K T x a/\t σ a λxs b=>r x xs b Q
variable{o e:Expr}{es:List Expr}{to:TE}{t:TA}{name:Str}{apos cpos:Pos}{T id:String}{r:V->List V->Hp->VK->Prop}
def PN(n:PlainAttrs T)(c:Slot T name id)(d:typeOf (.builtin id)=pure (.type "method_descriptor"))(l:PJ X id r)(m:PE X o to)
  (a:attributeBase o name X.env (eval o X.env)=eval o X.env:=by rfl) (b:(apos.endLine==cpos.line)=true:=by rfl):PE X (.Call (.Attribute o name apos) [] [] cpos) (Hc X.K T r to):=by
 intro pins s σ H Q I h;refine wpAny_Call_method0_late a b (thn (m pins s σ H _ I h) λv q ⟨x,i,e,f,u,p⟩=> ?_);obtain⟨j,k⟩:=PM e f u;exact⟨T,id,n,c,d,j,k,Calls.callWith_builtin Z (PySem.evalArgs_none (l pins q σ i x [] v [] Q e f .nil p))⟩
def fV(B:PlainAttrs T)(f:Slot T name id)(i:typeOf (.builtin id)=pure (.type "method_descriptor"))(y:PJ X id r)(z:PE X o to)(w:PA X (e::es) t)
  (b:attributeBase o name X.env (eval o X.env)=eval o X.env:=by rfl)
  (d:((backTo cpos (starEach (e::es) X.env)).all (λx => !x.1) && (backToKw cpos (keywordEach [] X.env)).all (λx=>x.1.isSome)
   &&decide ((e::es).length+([]:List Keyword).length+(if([]:List Keyword).isEmpty then 0 else 1)<30))=true:=by rfl)
  (c:(apos.endLine==cpos.line)=true:=by rfl) (A:starEach (e::es) X.env=(false,eval e X.env)::starEach es X.env:=by rfl) (a:(backTo cpos (starEach es X.env)).any (·.1)=false:=by rfl):
  PE X (.Call (.Attribute o name apos) (e::es) [] cpos) (Hd X.K T r to t):=by
 intro pins s σ H Q I h;refine wpAny_Call_method_late b d c rfl (thn (z pins s σ H _ I h) λv F ⟨x,m,j,l,J,C⟩=> ?_);obtain⟨q,u⟩:=PM j l J;refine⟨T,id,B,f,i,q,u,?_⟩;have k:=w cpos pins F σ m _ j C;rw[A]at k ⊢;refine Calls.callWith_builtin (by show(false||(backTo cpos (starEach es X.env)).any (·.1))=false;rw[a]<;>rfl) (Calls.evalArgs_plain ?_);exact thn k λus G ⟨vs,n,p,E,D⟩=>y pins G σ n x vs v us Q p l E D
end
def BJ(X:Cx)(id:String)(r:V->List V->Hp->VK->Prop):Prop:=
 ∀(pins:List (Addr×Obj)) (s:Shared) (σ:St) (H:Hp) (x:V) (xs:List V) (v:Value) (us:List Value) (Q:VK),Inv X pins σ H s->RelV x v->Vals xs us->r x xs H Q->
  wpAny (model X.prog X.w) X.A (call (.builtin id) (v::us)) (EP X pins σ Q) X.xe s
def Vals.one:∀{x:V} {us:List Value},Vals [x] us->∃u,us=[u]/\RelV x u
 |_,_,.cons r .nil=>⟨_,Z,r⟩
def Vals.zero:∀{us:List Value},Vals [] us->us=[]
 |_,.nil=>rfl
def Vals.dropLast(h:Vals xs us):Vals xs.dropLast us.dropLast:=by
 induction h with
 |nil=>exact .nil
 |cons r t ih=>
  cases t with|nil=>exact .nil|cons q t'=>exact .cons r ih
def Vals.rep(h:Vals xs us):∀k:Nat,Vals (List.replicate k xs).flatten (List.replicate k us).flatten
 |0=> .nil
 |k+1=>by rw[sQ,sQ,uQ,uQ];exact Vals.append h (Vals.rep h k)
def He(l:List α):l.eraseIdx (l.length-1)=l.dropLast:=by
 induction l with
 |nil=>rfl
 |cons a r ih=>
  cases r with
  |nil=>rfl
  |cons b r=>
   have e:(a::b::r).length-1=((b::r).length-1)+1:=by
    have c:(a::b::r).length=r.length+2:=rfl;have d:(b::r).length=r.length+1:=rfl;lia
   rw[e,List.eraseIdx_cons_succ,ih]
   all_goals rfl
def PP(a:List Value):∀(k:Nat) (acc:List Value),
  List.foldl (λc d=>c++d) acc.toArray (List.replicate k a.toArray)=(acc++(List.replicate k a).flatten).toArray
 |0,acc=>by simp
 |k+1,acc=>by
  have e:acc.toArray++a.toArray=(acc++a).toArray:=by simp
  have b:(acc++a)++(List.replicate k a).flatten=acc++(List.replicate (k+1) a).flatten:=by rw[sQ,uQ,dQ]
  rw[<- b,<- PP a k (acc++a),<- e,sQ,sR]
section
variable{X:Cx}{pins:List (Addr×Obj)}{σ:St}{H:Hp}{s:Shared}{l b:Addr}{xs ys zs:List V}
def Inv.lset{a its':List Value}{f:Array Value->Array Value}(I:Inv X pins σ H s)(b:H l=some (.lst xs))
  (e:s.heap.get? l=some {cls:= .type "list",data:= .seq a.toArray n}) (d:f a.toArray=its'.toArray) (i:Vals ys its') (hz:ys.length<=sizeLine):
  Inv X pins σ (aE H l (.lst ys)) {s with heap:=s.heap.update l (Obj.mapSeq f),toks:=t'}:=by
 have q:=PySem.IsL.update e f;rw[d]at q;refine I.write (x:=l) (e:=l) (by rw[b];exact trivial) (.inl Z) (λj u c h=>(AF s.heap (Obj.mapSeq f) (dJ c)).trans h) ⟨_,q⟩ ?_;exact⟨hz,its',_,i,q⟩
def Inv.lnew(I:Inv X pins σ H s)(b:Vals ys a)(hz:ys.length<=sizeLine):
  Inv X pins σ (aE H s.heap.objs.size (.lst ys)) {s with heap:=s.heap.push {cls:= .type "list",data:= .seq a.toArray},toks:=t'}:=
 I.laid (λ_ _ q=>dZ _ q) (aK _) ⟨hz,a,0,b,gB _ Z⟩
def Inv.fresh(I:Inv X pins σ H s):H s.heap.objs.size=none:=I.hok.fresh (aK _)
def Inv.lstM(I:Inv X pins σ H s)(b:H l=some (.lst xs)):xs.length<=sizeLine/\∃(a:List Value) (n:Nat),Vals xs a/\xs.length=a.length/\s.heap.get? l=some {cls:= .type "list",data:= .seq a.toArray n}:=by obtain⟨z,a,n,r,e⟩:=I.hok l _ b;exact⟨z,a,n,r,r.length,e⟩
def HE(h:n<=sizeLine):Builtin.List.listTooLong n=false:=by unfold Builtin.List.listTooLong;exact bN (by lia)
end
section
variable{X:Cx}
def Hf:V->List V->Hp->VK->Prop:=λx vs H Q=>∃l xs y,x= .ref l/\vs=[y]/\H l=some (.lst xs)/\xs.length<sizeLine/\Q .non (aE H l (.lst (xs++[y])))
def gR:BJ X "list.append" Hf:=by
 intro pins s σ H x vs v us Q I f d h;obtain⟨l,xs,y,rfl,rfl,b,hz,q⟩:=h;cases f;obtain⟨u,rfl,c⟩:=d.one;obtain⟨z,a,n,r,i,e⟩:=I.lstM b;refine call_meets F.slot_list_append ⟨_,e,Z⟩ F.entry_list_append (F.args_list_append_2 _ _) (PySem.list_append l a.toArray n u (by rw[dL];lia)) ⟨e,?_⟩;refine⟨.non,_,I.lset (its':=a++[u]) b e (by simp) (r.append (.cons c .nil)) ?_,Z,q⟩;rw[bF,dB];lia
def Hg:V->List V->Hp->VK->Prop:=λx vs H Q=>∃l b xs a,x= .ref l/\vs=[.ref b]/\H l=some (.lst xs)/\H b=some (.lst a)/\xs.length+a.length<=sizeLine/\Q .non (aE H l (.lst (xs++a)))
def PQ:BJ X "list.extend" Hg:=by
 intro pins s σ H x vs v us Q I y w h;obtain⟨l,b,xs,C,rfl,rfl,f,j,hz,q⟩:=h;cases y;obtain⟨u,rfl,p⟩:=w.one;cases p;obtain⟨z,c,n,r,A,e⟩:=I.lstM f;obtain⟨B,a,m,o,k,i⟩:=I.lstM j;have hsz:c.toArray.size+a.toArray.size<=sizeLine:=by rw[dL,dL];lia
 have d:¬(!c.toArray.isEmpty&&Builtin.List.listTooLong (c.toArray.size+a.toArray.size))=true:=by rw[HE hsz,nJ];exact bX
 refine call_meets F.slot_list_extend ⟨_,e,Z⟩ F.entry_list_extend (F.args_list_extend_2 _ _)
  (AutoSeq1.list_extend_list_list_0 l c.toArray n b a.toArray m d (by rw[dL];lia) (by lia)) ⟨e,i,?_⟩
 refine⟨.non,_,I.lset (its':=c++a) f e (by simp) (r.append o) ?_,Z,q⟩;rw[bF];lia
def Hh:V->List V->Hp->VK->Prop:=λx vs H Q=>∃l xs y,x= .ref l/\vs=[]/\H l=some (.lst xs)/\xs[xs.length-1]? =some y/\Q y (aE H l (.lst xs.dropLast))
def PR:BJ X "list.pop" Hh:=by
 intro pins s σ H x vs v us Q I o m h;obtain⟨l,xs,y,rfl,rfl,d,j,q⟩:=h;cases o;have b:=m.zero;subst b;obtain⟨z,a,n,r,f,e⟩:=I.lstM d;obtain⟨u,i,k⟩:=r.get j;have c:a.toArray[a.toArray.size-1]? =some u:=by
  show a.toArray[a.length-1]? =some u;rw[<- kQ,<- f];exact i
 refine call_meets F.slot_list_pop ⟨_,e,Z⟩ F.entry_list_pop (F.args_list_pop_1 _) (MeetsSeq.list_pop_last l a.toArray n u c (by rw[dL];lia)) ⟨e,?_⟩;refine⟨y,_,I.lset (its':=a.dropLast) d e ?_ r.dropLast ?_,k,q⟩
 ·show a.toArray.eraseIdxIfInBounds (a.toArray.size-1)=a.dropLast.toArray;rw[dL,List.eraseIdxIfInBounds_toArray,He]
 rw[List.length_dropLast];lia
def Hi:R2:=λx y H Q=>∃l b xs a,x= .ref l/\y= .ref b/\H l=some (.lst xs)/\H b=some (.lst a)/\xs.length+a.length<=sizeLine/\∀p,H p=none->Q (.ref p) (aE H p (.lst (xs++a)))
def Hj:eZ X (binaryOp .Add) Hi:=by
 intro pins s σ H x y v u Q I o p h;obtain⟨l,b,xs,C,rfl,rfl,j,i,hz,q⟩:=h;cases o;cases p;obtain⟨z,c,n,r,w,e⟩:=I.lstM j;obtain⟨B,a,A,m,k,d⟩:=I.lstM i;refine PySem.P.add_list e d ?_ (by rw[dL,dL];lia);have f:c.toArray++a.toArray=(c++a).toArray:=by simp
 rw[f];exact⟨.ref _,_,I.lnew (t':=s.toks) (r.append m) (by rw[bF];lia),Z,q _ I.fresh⟩
def Hk:R2:=λx y H Q=>∃l k xs,x= .ref l/\y= .int k/\H l=some (.lst xs)/\ -(2^63)<=k/\k<2^63/\xs.length*k.toNat<=sizeLine/\
 ∀p,H p=none->Q (.ref p) (aE H p (.lst (List.replicate k.toNat xs).flatten))
def Hl(xs:List α)(k:Nat):(List.replicate k xs).flatten.length=k*xs.length:=by induction k with|zero=>simp|succ k ih=>rw[sQ,uQ,bF,ih,Nat.succ_mul,Nat.add_comm]
def Hm:eZ X (binaryOp .Mult) Hk:=by
 intro pins s σ H x y v u Q I rx ry h;obtain⟨l,k,xs,rfl,rfl,hH,h1,h2,hz,q⟩:=h;cases rx;obtain⟨t,rfl⟩:=ry;obtain⟨z,its,n,r,hl,e⟩:=I.lstM hH;have hlen:its.toArray.size*k.toNat<=sizeLine:=by rw[dL,<- hl];exact hz
 have hcap:¬its.toArray.size*k.toNat>(2^63-1)/8:=by
  have:(sizeLine:Nat)<=(2^63-1)/8:=by decide
  lia
 have hfit:¬(!Builtin.List.listFitsIndex k)=true:=by rw[fitsIndex_both h1 h2];exact bX
 have hlong:¬Builtin.List.listTooLong (its.toArray.size*k.toNat)=true:=by rw[HE hlen];exact bX
 have hnew:List.foldl (λx1 x2=>x1++x2) #[] (List.replicate (if its.toArray.isEmpty=true then 0 else k.toNat) its.toArray)=(List.replicate k.toNat its).flatten.toArray:=by
  have f0:∀m:Nat,List.foldl (λx1 x2=>x1++x2) #[] (List.replicate m its.toArray)=(List.replicate m its).flatten.toArray:=λm=>by have:=PP its m [];rw[lJ]at this;exact this
  rw[f0];cases its with|nil=>simp|cons a r'=>rw[aA (by simp)]
 refine wpAny_binaryOp_repeat_ref (T:="list") (U:="int") (by decide) ⟨_,e,Z⟩ (λs'=>typeIs_int s' k t) noFill_list_mul F.fills_int_mul F.slot_int_rmul repeat_list F.slot_int_index.lookup
  (call_meets F.slot_int_rmul (typeIs_int s k t) F.entry_int_rmul (F.args_int_rmul_2 _ _) (int___rmul___int_list k t l its.toArray n)
   ⟨e,Z,⟨_,e,Z⟩,call_meets F.slot_list_mul ⟨_,e,Z⟩ F.entry_list_mul (F.args_list_mul_2 _ _) (AutoListH.list___mul___list_int_3 l its.toArray n k t hfit hcap hlong) ⟨e,?_⟩⟩)
 rw[hnew];exact⟨.ref _,_,I.lnew (t':=s.toks) (r.rep k.toNat) (by rw[Hl,Nat.mul_comm];exact hz),Z,q _ I.fresh⟩
end
section
end
section
end
def Vals.ints:∀{ns:List Int} {us:List Value},Vals (ns.map V.int) us->IntsAre us ns
 | [],us,h=>by rw[uN]at h;cases h;exact IntsAre.nil
 |n::ns,us,h=>by
  rw[fE]at h;cases h with
  |cons r t=>
   obtain⟨k,rfl⟩:=r;exact IntsAre.cons n k (Vals.ints t)
def PU:∀{us:List Value} {ns:List Int},IntsAre us ns->Vals (ns.map V.int) us
 |_,_,.nil=>by rw[uN];exact Paired.nil
 |_,_,.cons n t h=>by rw[fE];exact Paired.cons (show RelV (V.int n) (Value.int n t)from⟨t,Z⟩) (PU h)
def Vals.ref1(r:Vals [V.ref a] us):us=[Value.ref a]:=by
 cases r with
 |cons r t=>
  cases t;cases r;rfl
section
end
section
end
section
end
section
end
section
end
mutual
inductive Dp(K:PySem.W.Frag)(H:Hp):V->PyData->Prop
 |non:Dp K H .non .none
 |bl (b:Bool):Dp K H (.bl b) (.bool b)
 |int (i:Int):Dp K H (.int i) (.int i)
 |str (x:Str):Dp K H (.str x) (.str x)
 |lst {a:Addr} {xs:List V} {ds:List PyData}:SqL K H a xs->rJ K H xs ds->Dp K H (.ref a) (.list ds)
 |tup {a:Addr} {xs:List V} {ds:List PyData}:SqT K H a xs->rJ K H xs ds->Dp K H (.ref a) (.tuple ds)
inductive rJ(K:PySem.W.Frag)(H:Hp):List V->List PyData->Prop
 |nil:rJ K H [] []
 |cons {v:V} {vs:List V} {d:PyData} {ds:List PyData}:Dp K H v d->rJ K H vs ds->rJ K H (v::vs) (d::ds)
end
section
mutual
def Dp.reads(I:Inv X pins σ H s):∀(d:PyData) (v:V) (u:Value),Dp X.K H v d->RelV v u->∃as,Reads s.heap u d as
 | .none,_,_,h,r=>by cases h;cases r;exact⟨_,Reads.none⟩
 | .bool b,_,_,h,r=>by cases h;cases r;exact⟨_,Reads.bool b⟩
 | .int i,_,_,h,r=>by cases h;obtain⟨t,rfl⟩:=r;exact⟨_,Reads.int i t⟩
 | .str x,_,_,h,r=>by cases h;obtain⟨t,rfl⟩:=r;exact⟨_,Reads.str x t⟩
 | .list ds,_,_,h,r=>by
  cases h with
  |lst hs ha=>
   cases r;obtain⟨a,k,⟨o,n,f,c,_,e⟩,_⟩:=I.list hs;obtain⟨as,j⟩:=Dp.readsAll I ds _ a ha k;exact⟨_,Reads.list f c e j⟩
 | .tuple ds,_,_,h,r=>by
  cases h with
  |tup hs ha=>
   cases r;obtain⟨a,k,⟨o,f,c,n,e⟩,_⟩:=I.tuple hs;obtain⟨as,j⟩:=Dp.readsAll I ds _ a ha k;exact⟨_,Reads.tuple f c e j⟩
 | .dict _,_,_,h,_=>by cases h
def Dp.readsAll(I:Inv X pins σ H s):∀(ds:List PyData) (vs:List V) (us:List Value),rJ X.K H vs ds->Vals vs us->∃as,ReadsAll s.heap us ds as
 | [],_,_,h,r=>by cases h;cases r;exact⟨_,ReadsAll.nil⟩
 |d::ds,_,_,h,r=>by
  cases h with
  |cons h1 h2=>
   cases r with
   |cons r1 r2=>
    obtain⟨as,a⟩:=Dp.reads I d _ _ h1 r1;obtain⟨bs,b⟩:=Dp.readsAll I ds _ _ h2 r2;exact⟨_,ReadsAll.cons a b⟩
end
end
section
def PV(K:PySem.W.Frag):R2:=λx y H Q=>∃d e,Dp K H x d/\Dp K H y e/\SeqAt.shaped d=true/\SeqAt.shaped e=true/\Q (.bl (PyData.eqv d e)) H
def HF(c:X.A.units+64<cLine):eZ X (compareOp .Eq) (PV X.K):=by intro pins s σ H x y v u Q I j k h;obtain⟨d,e,a,b,l,m,q⟩:=h;obtain⟨as,f⟩:=Dp.reads I d x v a j;obtain⟨bs,i⟩:=Dp.reads I e y u b k;exact SeqAt.compareEq_shaped f i l m c ⟨.bl _,H,I,Z,q⟩
end
abbrev PX(h:Heap)(c:Addr)(v:Option Value):Prop:=h.IsCell c v
def Hn(a sc:Scope):Scope:=
 {a with names:=a.names.map λ(n,k)=>if(k== .free&&sc.kind== .function&&sc.names.lookup n==some .cell)then(n,.cell)else(n,k)}
def gW(cells:List (Str×Addr)):List (Str×NameKind)->List (Str×Addr)->List (Str×Addr)
 | [],acc=>acc
 |(n,k)::r,acc=>if k== .free then gW cells r ((n,(cells.lookup n).getD 0)::acc)else gW cells r acc
def PY(b:Env)(f:Str×NameKind->List (Str×Addr)->Sem (ForInStep (List (Str×Addr))))
  (j:∀n k c,f (n,k) c=if k== .free then(do let a<-cellOf b n;pure (.yield ((n,a)::c)))else pure (.yield c)):
  ∀(names:List (Str×NameKind)) (acc:List (Str×Addr)),(∀y∈names,y.2= .free->∃c,b.cells.lookup y.1=some c)->forIn names acc f=pure (gW b.cells names acc)
 | [],acc,_=>by rw[List.forIn_nil];rfl
 |(n,k)::r,acc,h=>by
  rw[List.forIn_cons,j];have l:=λacc=>PY b f j r acc λy o=>h y (cA _ o);unfold gW
  by_cases d:(k==NameKind.free)=true
  ·rw[aB d,aB d];obtain⟨c,i⟩:=h (n,k) cF (by simpa using d);have e:cellOf b n=pure c:=by unfold cellOf;rw[i]
   rw[e];have m:(b.cells.lookup n).getD 0=c:=by rw[i];rfl
   rw[m];exact l _
  rw[aA d,aA d];exact l _
def Ho(h:∀y∈a.names,y.2= .free->∃c,b.cells.lookup y.1=some c):closureFor a b=pure (gW b.cells a.names []):=by
 simp only [closureFor];rw[PY b _ (λn k c=>rfl) a.names [] h];rfl
def HG:∀{l:List (Str×α)} {n:Str} {c:α},(n,c)∈l->∃a,l.lookup n=some a
 |(k,v)::r,n,c,h=>by
  rw[nL];cases b:n==k with
  |true=>exact⟨_,Z⟩
  |false=>
   rcases al_18.mp h with e|h;·cases e;simp at b
   exact HG h
def BK:∀{names:List (Str×NameKind)} {acc:List (Str×Addr)} {n:Str} {c:Addr},(n,c)∈gW cells names acc->(n,c)∈acc\/((n,.free)∈names/\c=(cells.lookup n).getD 0)
 | [],_,_,_,h=> .inl h
 |(m,k)::r,acc,n,c,h=>by
  unfold gW at h;split at h
  ·rename_i a;have a:k= .free:=by simpa using a
   rcases BK h with h|⟨h1,h2⟩
   ·rcases al_18.mp h with e|h;·cases e;exact .inr ⟨a▸cF,Z⟩
    exact .inl h
   exact .inr ⟨cA _ h1,h2⟩
  rcases BK h with h|⟨h1,h2⟩;·exact .inl h
  exact .inr ⟨cA _ h1,h2⟩
def HH:∀{names:List (Str×NameKind)} {acc:List (Str×Addr)} {p:Str×Addr},p∈acc->p∈gW cells names acc
 | [],_,_,h=>h
 |(m,k)::r,acc,p,h=>by
  unfold gW;split;·exact HH (cA _ h)
  exact HH h
def HI:∀{names:List (Str×NameKind)} {acc:List (Str×Addr)} {n:Str},(n,.free)∈names->(n,(cells.lookup n).getD 0)∈gW cells names acc
 |(m,k)::r,acc,n,h=>by
  unfold gW;rcases al_18.mp h with e|h
  ·cases e;exact HH cF
  split;·exact HI h
  exact HI h
def xV:∀{names:List (Str×NameKind)} {h:Heap} {acc:List (Str×Addr)} {x:Str} {c:Addr},(x,c)∈cellsFrom h.objs.size names acc->
  (x,c)∈acc\/((x,.cell)∈names/\h.objs.size<=c/\PX (pushCells h names) c none)
 | [],_,_,_,_,h=> .inl h
 |(n,k)::r,h,acc,x,c,hm=>by
  unfold cellsFrom at hm;unfold pushCells;split at hm
  ·rename_i a;rw[aB a];have a:k= .cell:=by simpa using a
   rw[<- jX h {cls:= .type "cell",data:= .cell none}]at hm;rcases xV hm with hm|⟨h1,h2,h3⟩
   ·rcases al_18.mp hm with e|hm;·cases e;exact .inr ⟨a▸cF,aK _,_,AG r _ _ _ (gB _ Z),Z⟩
    exact .inl hm
   rw[jX]at h2;exact .inr ⟨cA _ h1,lK h2,h3⟩
  rename_i a;rw[aA a];rcases xV hm with hm|⟨h1,h2,h3⟩
  ·exact .inl hm
  exact .inr ⟨cA _ h1,h2,h3⟩
def BL:∀{names:List (Str×NameKind)} {n:Nat} {acc:List (Str×Addr)} {p:Str×Addr},p∈acc->p∈cellsFrom n names acc
 | [],_,_,_,h=>h
 |(m,k)::r,n,acc,p,h=>by
  unfold cellsFrom;split;·exact BL (cA _ h)
  exact BL h
def HJ:∀{names:List (Str×NameKind)} {n:Nat} {acc:List (Str×Addr)} {x:Str},(x,.cell)∈names->∃c,(x,c)∈cellsFrom n names acc
 |(m,k)::r,n,acc,x,h=>by
  unfold cellsFrom;rcases al_18.mp h with e|h
  ·cases e;exact⟨n,BL cF⟩
  split;·exact HJ h
  exact HJ h
def HK:∀{names:List (Str×NameKind)} {h:Heap} {acc:List (Str×Addr)} {x y:Str} {c:Addr},(∀p∈acc,p.2<h.objs.size)->(∀x y c,(x,c)∈acc->(y,c)∈acc->x=y)->
  (x,c)∈cellsFrom h.objs.size names acc->(y,c)∈cellsFrom h.objs.size names acc->x=y
 | [],_,_,_,_,_,_,hi,h1,h2=>hi _ _ _ h1 h2
 |(n,k)::r,h,acc,x,y,c,hl,hi,h1,h2=>by
  unfold cellsFrom at h1 h2;split at h1
  ·rename_i d;rw[aB d]at h2;rw[<- jX h {cls:= .type "cell",data:= .cell none}]at h1 h2;refine HK (h:=h.push _) (λp f=> ?_) (λx y c a b=> ?_) h1 h2
   ·rw[jX];rcases al_18.mp f with rfl|f
    ·exact hU _
    exact qX (hl p f)
   rcases al_18.mp a with e|a<;>rcases al_18.mp b with e'|b
   ·cases e;cases e';rfl
   ·cases e;exact absurd (hl _ b) (mF _)
   ·cases e';exact absurd (hl _ a) (mF _)
   exact hi _ _ _ a b
  rename_i d;rw[aA d]at h2;exact HK hl hi h1 h2
def Hq{M:Model}{A:Around}{E:Value->Shared->Prop}{s:Shared}{scope:Scope}{globals:Addr}{closure:List (Str×Addr)}{qual:Str}{func:Option Addr}{code:Value}{around:Env}{builtins:Addr}{Q:Env->Shared->Prop}
  (h:Q (newEnv scope s.heap.objs.size globals (cellsFrom (s.heap.objs.size+1) scope.names closure) qual func code (some around) builtins)
   {s with heap:=pushCells (s.heap.push {cls:= .type "dict",data:= .dict #[]}) scope.names}):
  wpAny M A (newFunctionEnv scope globals closure [] qual func code (some around) builtins) Q E s:=by
 simp only [newFunctionEnv,Option.isSome_some,if_true];refine aJ (wpAny_alloc ?_);refine aJ (wpAny_layCells _ (λn k c=>rfl) scope.names closure _ _ ?_);rw[show({s with heap:=s.heap.push {cls:= .type "dict",data:= .dict #[]}}:Shared).heap.objs.size=s.heap.objs.size+1 from jX ..];rw[List.forIn_nil];exact aJ (aW (aW h))
def HL{sc:Scope}:∀{names:List (Str×NameKind)} {x:Str} {k:NameKind},
  (names.map λ(n,k)=>if(k==NameKind.free&&sc.kind== .function&&sc.names.lookup n==some .cell)then(n,NameKind.cell)else(n,k)).lookup x=some k->
  ∃k',names.lookup x=some k'/\(k=k'\/(k'= .free/\k= .cell))
 | [],_,_,h=>by simp at h
 |(n,k₀)::r,x,k,h=>by
  have ih:=@HL sc r x k;have h':List.lookup x ((if(k₀==NameKind.free&&sc.kind== .function&&sc.names.lookup n==some .cell)=true then(n,NameKind.cell)else(n,k₀))::(r.map _))=some k:=h;cases hx:x==n with
  |true=>
   simp only [nL,hx];by_cases hc:(k₀==NameKind.free&&sc.kind== .function&&sc.names.lookup n==some .cell)=true;·rw[aB hc]at h';simp only [nL,hx]at h';cases h';simp only [cB,al_41]at hc;exact⟨k₀,Z,.inr ⟨hc.1.1,Z⟩⟩
   rw[aA hc]at h';simp only [nL,hx]at h';cases h';exact⟨_,Z,.inl Z⟩
  |false=>
   simp only [nL,hx];by_cases hc:(k₀==NameKind.free&&sc.kind== .function&&sc.names.lookup n==some .cell)=true;·rw[aB hc]at h';simp only [nL,hx]at h';exact ih h'
   rw[aA hc]at h';simp only [nL,hx]at h';exact ih h'
structure xW(N:List Str)(sc scope:Scope)(own:List (Str×Nat)):Prop where
 kind:scope.kind= .function
 uniq:∀y∈scope.names,scope.names.lookup y.1=some y.2
 ix:∀p∈own,N[p.2]? =some p.1
 free:∀y∈scope.names,y.2= .free->sc.names.lookup y.1=some .cell\/sc.names.lookup y.1=some .free
 own:∀y∈scope.names,y.2= .local\/y.2= .cell->y.1∈own.map (·.1)\/y.1∉N
def fA(σ:St):List Nat->St
 | []=>σ
 |v::vs=>(fA σ vs).set v none
def HM(σ:St):∀vs:List Nat,(fA σ vs).length=σ.length
 | []=>rfl
 |v::vs=>by unfold fA;rw[List.length_set,HM σ vs]
def HN:∀{vs:List Nat},(fA σ vs)[i]? =some (some x)->σ[i]? =some (some x)/\i∉vs
 | [],h=>⟨h,by simp⟩
 |v::vs,h=>by
  unfold fA at h;by_cases hi:v=i
  ·subst hi;by_cases a:v<(fA σ vs).length;·rw[zY a]at h;cases h
   rw[jB (by simpa using a)]at h;cases h
  rw[zZ hi]at h;obtain⟨b,c⟩:=HN h;exact⟨b,by simp only [al_18,not_or];exact⟨λe=>hi e.symm,c⟩⟩
abbrev Cx.blk(X:Cx)(s:Shared)(H:Hp)(scope:Scope)(cenv:Env)(fp:List Addr):Cx:={X with s_0:=s,H_0:=H,env:=cenv,outer:=X.stack,ex:=fp,fn:=λx=>scope.names.lookup x==some .cell,pn:=[],xe:=λ_ _=>False}
section
def Hr(I:Inv X pins σ H s)(ok:xW X.N X.env.scope scope own)(hN:X.N.Nodup)(l:∀b∈fp,nS X pins H b/\b<s.heap.objs.size):
  Inv (X.blk s H scope (compEnvC scope (cellsFrom (s.heap.objs.size+1) scope.names (gW X.env.cells scope.names [])) s.heap.objs.size X.env) fp) [] (fA σ (own.map (·.2))) H {s with heap:=pushCells (s.heap.push {cls:= .type "dict",data:= .dict #[]}) scope.names}:=by
 have J:∀y∈scope.names,y.2= .free->∃c,X.env.cells.lookup y.1=some c:=λy C e=>by
  rcases ok.free y C e with k|k;·exact I.ok.has _ (.inl k)
  exact I.ok.has _ (.inr k)
 generalize d:compEnvC scope (cellsFrom (s.heap.objs.size+1) scope.names (gW X.env.cells scope.names [])) s.heap.objs.size X.env=cenv;have kp:∀b o,s.heap.get? b=some o->(pushCells (s.heap.push {cls:= .type "dict",data:= .dict #[]}) scope.names).get? b=some o:=λb o e=>AG _ _ _ _ (dZ _ e);have Y:cenv.locals=s.heap.objs.size:=by rw[<- d];rfl
 have h:cenv.cells=cellsFrom (s.heap.objs.size+1) scope.names (gW X.env.cells scope.names []):=by rw[<- d];rfl
 have M:cenv.scope=Hn scope X.env.scope:=by rw[<- d];rfl
 rw[<- jX s.heap {cls:= .type "dict",data:= .dict #[]}]at h;have Q:∀{y c},(y,c)∈gW X.env.cells scope.names []->X.env.cells.lookup y=some c/\c<s.heap.objs.size:=λ{y c} u=>by
  rcases BK u with u|⟨f,rfl⟩;·cases u
  obtain⟨c,hc⟩:=J _ f rfl;rw[hc];obtain⟨w,z⟩:=I.cell _ _ hc;exact⟨Z,z.lt⟩
 have O:∀{y c},cenv.cells.lookup y=some c->(X.env.cells.lookup y=some c/\c<s.heap.objs.size)\/(s.heap.objs.size+1<=c/\PX (pushCells (s.heap.push {cls:= .type "dict",data:= .dict #[]}) scope.names) c none):=λ{y c} e=>by
  rw[h]at e;rcases xV (jY e)with u|⟨_,A,h3⟩
  ·exact .inl (Q u)
  rw[jX]at A;exact .inr ⟨A,h3⟩
 have look:∀{y},scope.names.lookup y=some .free->∃c,cenv.cells.lookup y=some c/\X.env.cells.lookup y=some c:=λ{y} hl=>by
  have C:(y,NameKind.free)∈scope.names:=jY hl;obtain⟨W,j⟩:=HG (BL (names:=scope.names) (n:=(s.heap.push {cls:= .type "dict",data:= .dict #[]}).objs.size) (HI (cells:=X.env.cells) (acc:=[]) C));rw[<- h]at j;refine⟨W,j,?_⟩;rw[h]at j;rcases xV (jY j)with u|⟨f,_,_⟩
  ·exact(Q u).1
  have:=ok.uniq _ f;rw[hl]at this;cases this
 have h5:(X.blk s H scope cenv fp).Ok:=by
  refine⟨I.ok.mod,by show cenv.scope.kind=_;rw[M];exact ok.kind,by show cenv.globals=_;rw[<- d];exact I.ok.glob,by show cenv.builtins=_;rw[<- d];exact I.ok.blt,by show s.heap.objs.size<=cenv.locals;rw[Y];exact aK _,
   λy z c D E=> ?_,λy C=> ?_,λy c z e=> ?_,I.ok.hd,I.ok.frames,.inl rfl,λb F=>⟨?_,λy c e z=> ?_⟩,I.bs,aZ I.ok.bsz I.sz,λb o e F=> ?_,λb F z=> ?_,I.stack,I.stkFree⟩
  ·have D:cenv.cells.lookup y=some c:=D;have E:cenv.cells.lookup z=some c:=E;rw[h]at D E;refine HK (λp P=> ?_) (λy z c a b=>I.ok.inj y z c (Q a).1 (Q b).1) (jY D) (jY E);rw[jX];exact qX (Q (y:=p.1) (c:=p.2) P).2
  ·show∃c,cenv.cells.lookup y=some c;have v:∀k,cenv.kindOf y=some k->(k= .cell\/k= .free)->∃c,cenv.cells.lookup y=some c:=λk K L=>by
    unfold Env.kindOf at K;rw[M]at K;obtain⟨G,e,r⟩:=HL K;have:G= .cell\/G= .free:=by
     rcases r with rfl|⟨rfl,_⟩;·exact L
     exact .inr rfl
    rcases this with rfl|rfl;·obtain⟨c,u⟩:=HJ (n:=(s.heap.push {cls:= .type "dict",data:= .dict #[]}).objs.size) (acc:=gW X.env.cells scope.names []) (jY e);obtain⟨W,j⟩:=HG u;exact⟨W,by rw[h];exact j⟩
    obtain⟨c,f,_⟩:=look e;exact⟨c,f⟩
   rcases C with C|C;·exact v _ C (.inl Z)
   exact v _ C (.inr Z)
  ·have z:(scope.names.lookup y==some NameKind.cell)=true:=z;have z:scope.names.lookup y=some .cell:=by simpa using z
   have e:cenv.cells.lookup y=some c:=e;rw[h]at e;rcases xV (jY e)with u|⟨_,A,_⟩
   ·rcases BK u with u|⟨f,_⟩;·cases u
    have q:=ok.uniq _ f;rw[z]at q;cases q
   rw[jX]at A;exact lK A
  ·show b≠cenv.locals;rw[Y];exact fI (l b F).2
  ·have e:cenv.cells.lookup y=some c:=e;rcases O e with⟨f,_⟩|⟨f,_⟩
   ·exact(l b F).1.2.2.2.2.1 y c f z
   have A:s.heap.objs.size+1<=b:=by rw[<- z];exact f
   exact absurd (gJ (l b F).2 (lK A)) (mF _)
  ·rcases(l b F).1.2.2.2.1 with z|z;·exact I.ok.noex b o e z
   exact absurd (gJ (cP e) (aZ I.ok.bsz z)) (mF _)
  rcases al_18.mp (I.stkSub b z)with z|z;·exact(l b F).1.2.1 z
  exact(l b F).1.2.2.1 z
 refine⟨h5,Z,I.bare,Un.kept kp,⟨λ_=>none,?_,λi y av D E x=> ?_⟩,λy c e=> ?_,?_,λy c e=> ?_,λp P=> ?_,I.hok.kept kp,by rw[HM];exact I.len⟩
 ·show Heap.Ns _ cenv.locals _;rw[Y];exact Heap.Ns.keeps (Heap.Ns.new ..) λb o e=>AG _ _ _ _ e
 ·obtain⟨E,h0⟩:=HN E;have B:scope.names.lookup y=some .free/\(cenv.kindOf y=some .cell\/cenv.kindOf y=some .free):=by
   have v:∀k,cenv.scope.names.lookup y=some k->k= .local\/k= .cell\/k= .free->scope.names.lookup y=some .free/\(cenv.kindOf y=some .cell\/cenv.kindOf y=some .free):=λk K L=>by
    have T:=K;rw[M]at K;obtain⟨G,e,r⟩:=HL K;have no:¬(G= .local\/G= .cell):=λhh=>by
     rcases ok.own _ (jY e) hh with j|j;·obtain⟨p,P,h4⟩:=al_67.mp j;have x:=ok.ix p P;have:p.1=y:=h4;rw[this]at x;exact h0 (al_67.mpr ⟨p,P,GE hN x D⟩)
     exact j (fM D)
    rcases r with rfl|⟨rfl,rfl⟩
    ·rcases L with rfl|rfl|rfl;·exact absurd (.inl Z) no
     ·exact absurd (.inr Z) no
     exact⟨e,.inr T⟩
    exact⟨e,.inl T⟩
   have x:vA cenv.scope y:=x;rcases x with x|x|x
   ·exact v _ x (.inl Z)
   ·exact v _ x (.inr (.inl Z))
   exact v _ x (.inr (.inr Z))
  obtain⟨m,hn,hl⟩:=I.loc;have U:vA X.env.scope y:=(ok.free _ (jY B.1) Z).elim (λk=> .inr (.inl k)) (λk=> .inr (.inr k));obtain⟨w,r,q⟩:=hl i y av D E U;refine⟨w,r,.inr ⟨B.2,?_⟩⟩;obtain⟨c,f,A⟩:=look B.1;rcases q with⟨k,_⟩|⟨_,W,j,z⟩
  ·have k:X.env.scope.names.lookup y=some .local:=k;rcases ok.free _ (jY B.1) rfl with G|G<;>rw[show X.env.scope.names.lookup y=_ from G]at k<;>cases k
  rw[A]at j;cases j;exact⟨c,f,z.keeps kp⟩
 ·have e:cenv.cells.lookup y=some c:=e;rcases O e with⟨f,_⟩|⟨_,z⟩
  ·obtain⟨w,z⟩:=I.cell y c f;exact⟨w,z.keeps kp⟩
  exact⟨_,z⟩
 ·show H cenv.locals=none;rw[Y];exact I.hok.fresh (aK _)
 ·have e:cenv.cells.lookup y=some c:=e;rcases O e with⟨f,_⟩|⟨f,_⟩
  ·exact I.freeC y c f
  exact I.hok.fresh (lK f)
 exact absurd (show p∈([]:List (Addr×Obj))++[]from P) (by simp)
def Hs(I:Inv X pins σ H s)(d:H D=some (.lst xs))(hz:xs.length<sizeLine)(r:RelV y v)
  (h:∀i,Inv X pins σ (aE H D (.lst (xs++[y]))) i->Q .none i):wpAny (model X.prog X.w) X.A (call (.builtin "list.append") [.ref D,v]) Q E s:=by
 obtain⟨k,c,n,f,e⟩:=I.hok D _ d;have m:=f.length;refine append_at (hsz:=by rw[dL];lia) e λh' l a=> ?_;refine h {s with heap:=h'} (I.write (t':=s.toks) (by rw[d];trivial) (.inl Z) (λb u j q=>(l.2 b j).trans q) ⟨_,a⟩ ⟨by rw[bF];exact hz,c++[v],n+1,f.append (.cons r .nil),?_⟩);rw[a];simp
def xX(X:Cx)(a:List Expr)(t:TT):Prop:=
 ∀(pins:List (Addr×Obj)) (s:Shared) (σ:St) (H:Hp) (Q:Bool->Hp->Prop),Inv X pins σ H s->t σ H Q->
  wpAny (model X.prog X.w) X.A (forIn a true λc r=>if r=true then do let ok<-isTrue c X.env (eval c X.env);pure (ForInStep.yield ok)else pure (ForInStep.yield r)) (TP X pins σ Q) X.xe s
def PZ:TT:=λ_ H Q=>Q true H
def BM:xX X [] PZ:=λ_ _ _ H _ I h=>wpAny_tests_nil ⟨H,I,h⟩
def xY(h:PT X c t):xX X [c] t:=λpins s σ H Q I a=>wpAny_tests_one (h pins s σ H Q I a)
end
def vK(h:wpAny M A t Q (λ_ _=>False) s)(c:∀a s,Q a s->b a s):wpAny M A t b E s:=kP h c λ_ _ z=>False.elim z
def Ht(I:Nat->Shared->Prop)
  (turn:∀ n s,I n s->wpAny (model prog w) A (pyNext G) (λr i=>match r with
   |none=>R (.ok .next) i
   | some v=>wpAny (model prog w) A (letOwnedTupleGo b G v) (λ_ j=>wpAny (model prog w) A (assign b a v) (λ_ p =>
     wpAny (model prog w) A (forIn B true λc r=>if r=true then do let ok <- isTrue c a (eval c a); pure (ForInStep.yield ok) else pure (ForInStep.yield r)) (λok k =>
      if ok=true then wpAny (model prog w) A (eval y a) (λx q =>
       wpAny (model prog w) A (call (.builtin "list.append") [acc,x]) (λ_ u=>∃m,m<n/\I m u) (notedBy (model prog w) A a λe d=>R (.error e) d) q) (notedBy (model prog w) A a λe d=>R (.error e) d) k
      else∃m,m<n/\I m k) (notedBy (model prog w) A a λe d=>R (.error e) d) p) (notedBy (model prog w) A a λe d=>R (.error e) d) j) (notedBy (model prog w) A a λe d=>R (.error e) d) i) (notedBy (model prog w) A a λe d=>R (.error e) d) s)
  (n:Nat) (h:I n s):
  codeAny (model prog w) A (.compLoop (.ListComp y [⟨b,o,B,0⟩] f F) 0 G acc a) R s:=by
 refine codeAny_loop rfl I (λn s H=> ?_) n h;show wpAny _ A ((compTurn (.ListComp y [⟨b,o,B,0⟩] f F) 0 G acc a).onRaise (λx=>do noteFrame x a;theTreesLotGoes x)) _ _ s;refine wpAny_noted ?_;rw[compTurn_list];refine aJ (wpAny_standAt (aJ (kP (turn n s H) (λr i h₁=> ?_) λ_ _ h'=>h')));cases r with
 |none=>exact aW h₁
 |some v=>
  refine aJ (kP h₁ (λ_ j z=> ?_) λ_ _ h'=>h');refine aJ (kP z (λ_ p C=>aJ (kP C (λok k l=> ?_) λ_ _ h'=>h')) λ_ _ h'=>h');cases ok with
  |false=>exact aW ⟨Z,l⟩
  |true=>
   exact aJ (aJ (kP l (λx q D=>aJ (kP D (λ_ u E=>aW (aW ⟨Z,E⟩)) λ_ _ h'=>h')) λ_ _ h'=>h'))
section
variable{X:Cx}
def BN(n:TI)(g:TG)(l:TT)(k:TE)(vs:List Nat):TE:=λσ H Q=>n σ H λJ d=>∀D,d D=none->∃W:Nat->Nat->Hp->Prop,(∃m,W 0 m (aE d D (.lst [])))/\∀i m H,W i m H->
 (J.stop i H/\Q (.ref D) H)\/(J.go i H/\∃ c:Hp->Prop,(∀ H',c H'->∃ h,h < m/\W (i+1) h H')/\∀ x H',J.yld i H x H'->g x (fA σ vs) H' λa j=>fA a vs=fA σ vs/\l a j λb e =>
  if b=true then k a e λy f=>∃acc,f D=some (.lst acc)/\acc.length<sizeLine/\c (aE f D (.lst (acc++[y])))else c e)
def QA{Q:VK}{own:List (Str×Nat)}{use:Option (Value->Sem Unit)}{Qf:Value->Shared->Prop}
  (hc:X.calm=true) (hN:X.N.Nodup) (I:Inv X pins σ H s) (hi:PI X tg f wi) (ok:xW X.N X.env.scope scope own)
  (hg:∀(s:Shared) (H:Hp) (C:Addr) (cl:List (Str×Addr)) (a:List Addr),PG (X.blk s H scope (compEnvC scope cl C X.env) a) tg g) (ht:∀(s:Shared) (H:Hp) (C:Addr) (cl:List (Str×Addr)) (a:List Addr),xX (X.blk s H scope (compEnvC scope cl C X.env) a) F tt)
  (he:∀(s:Shared) (H:Hp) (C:Addr) (cl:List (Str×Addr)) (a:List Addr),PE (X.blk s H scope (compEnvC scope cl C X.env) a) E te) (hs:∀x,foldedSetIterable f X.env x=pure x)
  (h:BN wi g tt te (own.map (·.2)) σ H Q)
  (x0:∀D C l m H',Inv X pins σ H' l->Q (.ref D) H'->l.heap.Ns C m->nS X pins H' C->compPost (model X.prog X.w) X.A X.xe use Qf (.ref D) C (.ok .next) l):
  wpAny (model X.prog X.w) X.A (comprehension (.ListComp E [⟨tg,f,F,0⟩] scope Y) scope X.env e1 (newList []) false (eval f X.env) use) Qf X.xe s:=by
 have U:∀y∈scope.names,y.2= .free->∃c,X.env.cells.lookup y.1=some c:=λy hy e=>by
  rcases ok.free y hy e with k|k;·exact I.ok.has _ (.inl k)
  exact I.ok.has _ (.inr k)
 refine wpAny_comprehension_free (use:=use) rfl hs (Ho U) ok.kind (λy hy e=>by rw[ok.uniq y hy,e])
  (thn (hi pins s σ H _ I h) λxv s1 hx=>thn hx λx7 s2 h2=> ?_)
 obtain⟨it,a,tn,J,K,e,I2,T,e2,f2,q⟩:=h2;subst e;refine pM (Hq ?_) (by show 0<=sizeLine;decide);generalize hD:s2.heap.objs.size=D;have e9:K D=none:=I2.hok.fresh (uO hD);obtain⟨W,⟨m0,w0⟩,turn⟩:=q D e9;generalize h7:({s2 with heap:=s2.heap.push {cls:= .type "list",data:= .seq ([]:List Value).toArray}}:Shared)=s3;have I3:Inv X pins σ (aE K D (.lst [])) s3:=by rw[<- h7];refine I2.laid (t':=s2.toks) (λb o e=>dZ _ e) (uO hD) ⟨bH _,[],0,.nil,?_⟩;rw[<- hD];exact gB _ rfl
 have h3:s3.heap=s2.heap.push {cls:= .type "list",data:= .seq ([]:List Value).toArray}:=by rw[<- h7]
 have sz:∀b∈a,b<s2.heap.objs.size:=λb d=>by obtain⟨o,e,_⟩:=T.obj _ _ e2 b d;exact cP e
 have P:∀b∈a,nS X pins (aE K D (.lst [])) b/\b<s3.heap.objs.size:=λb d=>by have h5:=sz b d;refine⟨⟨?_,(f2 b d).2⟩,by rw[h3,jX];exact qX h5⟩;rw[bB (by rw[<- hD];exact fI h5)];exact(f2 b d).1
 have x4:tn 0 s3.heap:=T.keep _ _ _ e2 λb _ o e=>by rw[h3];exact dZ _ e
 have I4:=Hr I3 ok hN P;have pg:=hg s3 (aE K D (.lst [])) s3.heap.objs.size (cellsFrom (s3.heap.objs.size+1) scope.names (gW X.env.cells scope.names [])) a;have pt:=ht s3 (aE K D (.lst [])) s3.heap.objs.size (cellsFrom (s3.heap.objs.size+1) scope.names (gW X.env.cells scope.names [])) a;have pe:=he s3 (aE K D (.lst [])) s3.heap.objs.size (cellsFrom (s3.heap.objs.size+1) scope.names (gW X.env.cells scope.names [])) a;show codeAny _ _ (.compStart (.ListComp E [⟨tg,f,F,0⟩] scope Y) 0 (.ref it) (.ref D) (compEnvC scope (cellsFrom (s3.heap.objs.size+1) scope.names (gW X.env.cells scope.names [])) s3.heap.objs.size X.env)) (compPost (model X.prog X.w) X.A X.xe use Qf (.ref D) s3.heap.objs.size) {s3 with heap:=pushCells (s3.heap.push {cls:= .type "dict",data:= .dict #[]}) scope.names};have e0:∀b∈a,(aE K D (.lst [])) b=none:=λb d=>(P b d).1.1;generalize x1:compEnvC scope (cellsFrom (s3.heap.objs.size+1) scope.names (gW X.env.cells scope.names [])) s3.heap.objs.size X.env=ce at I4 pg pt pe ⊢;have cL:ce.locals=s3.heap.objs.size:=by subst x1;rfl
 generalize x6:aE K D (.lst [])=H3 at I3 I4 pg pt pe w0 e0 P;generalize x2:({s3 with heap:=pushCells (s3.heap.push {cls:= .type "dict",data:= .dict #[]}) scope.names}:Shared)=s4 at I4 ⊢;have e3:tn 0 s4.heap:=T.keep _ _ _ x4 λb _ o e=>by rw[<- x2];exact AG _ _ _ _ (dZ _ e)
 have B:∀{e5:St} {H':Hp} {l:Shared},Inv (X.blk s3 H3 scope ce a) [] e5 H' l->(∀b∈a,H' b=none)->∀b∈a,nS (X.blk s3 H3 scope ce a) [] H' b:=λ{e5 H' l} I' hn b d=>
  ⟨hn b d,(I'.ok.exf b d).1,I'.ok.exfs b d,.inl d,λx c e=>(I'.ok.exf b d).2 x c e,λp hp=>absurd (show p∈([]:List (Addr×Obj))++[]from hp) (by simp)⟩
 have L:codeAny (model X.prog X.w) X.A (.compLoop (.ListComp E [⟨tg,f,F,0⟩] scope Y) 0 (.ref it) (.ref D) ce) (compPost (model X.prog X.w) X.A X.xe use Qf (.ref D) s3.heap.objs.size) s4:=by
  refine Ht (λn l=>∃i H',Inv (X.blk s3 H3 scope ce a) [] (fA σ (own.map (·.2))) H' l/\tn i l.heap/\(∀b∈a,H' b=none)/\W i n H') ?_ m0 ⟨0,H3,I4,e3,e0,w0⟩;rintro n s5 ⟨i,O,I5,e4,n5,w5⟩;rcases turn i n O w5 with⟨stop,qq⟩|⟨go,Nx,hNx,step⟩
  ·have td:=T.done (X.blk s3 H3 scope ce a) rfl rfl rfl hc i [] s5 _ O (λ_ _=>False) I5 (B I5 n5) e4 stop;refine vK td λr s6 ⟨hr,I6⟩=> ?_;subst hr;have I7:Inv X pins σ O s6:=I3.call' (ch:=a) I6.os I6.base I6.hok I6.bare λb d=>⟨(P b d).1.2.2.2.1,(P b d).1.2.1,(P b d).1.2.2.2.2.1,(P b d).1.2.2.2.2.2⟩;have nC:O s3.heap.objs.size=none:=by
    have z:O ce.locals=none:=I6.free;rw[cL]at z;exact z
   obtain⟨m,hn,_⟩:=I6.loc;have hn:s6.heap.Ns ce.locals m:=hn;rw[cL]at hn;exact x0 D s3.heap.objs.size s6 m O I7 qq hn (I3.fpOk (aK _) nC)
  have ti:=T.item (X.blk s3 H3 scope ce a) rfl rfl rfl hc i [] s5 _ O (λ_ _=>False) I5 (B I5 n5) e4 go;refine vK ti λr s6 ⟨u,hr,h6⟩=> ?_;subst hr;refine vK h6 λ_ s7 ⟨x,H7,I7,r7,y7,h0,n7⟩=> ?_;have e8:=I7.pinned (B I7 n7) (T.obj _ _ h0);refine vK (pg _ s7 _ H7 x u _ e8 r7 (step x H7 y7)) λ_ s8 ⟨G,H8,I8,h8,q8⟩=> ?_;refine vK (pt _ s8 G H8 _ I8 q8) λb s9 ⟨H9,I9,q9⟩=> ?_;have h1:∀{l:Shared} {H':Hp},Inv (X.blk s3 H3 scope ce a) ([]++xQ a s7.heap) G H' l->Nx H'->∃m,m<n/\∃i H',Inv (X.blk s3 H3 scope ce a) [] (fA σ (own.map (·.2))) H' l/\tn i l.heap/\(∀b∈a,H' b=none)/\W i m H':=λ{l H'} I' nx=>by
   obtain⟨m',hm,w'⟩:=hNx H' nx;have M:∀b∈a,∀o,s7.heap.get? b=some o->l.heap.get? b=some o/\H' b=none:=λb d o e=>
    let z:=I'.pin (b,o) (mG _ (mG _ (GM d e)))
    ⟨z.1,z.2.1⟩
   have hl:(fA σ (own.map (·.2))).length=G.length:=by rw[<- h8,HM]
   refine⟨m',hm,i+1,H',(I'.unpinned (pins:=[])).weak hl (λj v e=> ?_),T.keep _ _ _ h0 λb d o e=>(M b d o e).1,λb d=> ?_,w'⟩;·rw[<- h8]at e;exact(HN e).1
   obtain⟨o,e,_⟩:=T.obj _ _ h0 b d;exact(M b d o e).2
  cases b with
  |false=>
   simp only [sS,oJ]at q9 ⊢;exact h1 I9 q9
  |true=>
   simp only [if_true]at q9 ⊢;refine vK (pe _ s9 G H9 _ I9 q9) λz x8 ⟨yv,x5,e6,x3,acc,h4,h9,nx⟩=> ?_;exact Hs (X:=X.blk s3 H3 scope ce a) e6 h4 h9 x3 λx9 e7=>h1 e7 nx
 exact codeAny_compStart_list L (T.self X.A 0 _ _ _ e3 L)
def tI(F:X.calm=true)(B:X.N.Nodup)(hi:PI X k a p)(ok:xW X.N X.env.scope scope own)
  (J:∀(s:Shared) (H:Hp) (C:Addr) (cl:List (Str×Addr)) (d:List Addr),PG (X.blk s H scope (compEnvC scope cl C X.env) d) k g) (M:∀(s:Shared) (H:Hp) (C:Addr) (cl:List (Str×Addr)) (d:List Addr),xX (X.blk s H scope (compEnvC scope cl C X.env) d) i n)
  (G:∀(s:Shared) (H:Hp) (C:Addr) (cl:List (Str×Addr)) (d:List Addr),PE (X.blk s H scope (compEnvC scope cl C X.env) d) c l) (L:∀x,foldedSetIterable a X.env x=pure x:=by intro _;rfl):
  PE X (.ListComp c [⟨k,a,i,0⟩] scope j) (BN p g n l (own.map (·.2))):=by
 intro pins s σ H Q I h;rw[eval_ListComp];refine QA F B I hi ok J M G L h λD C O m H' r q K f=>⟨m,K,λA P=> ?_⟩;obtain⟨u,v,T,w,y,z⟩:=f;exact⟨.ref D,H',r.turned (t':=O.toks) (λb o E e=>(P.2 b E).trans e) u v w y z,Z,q⟩
def QC{i:Nat}{y:Str}{u:Pos}{j n c:Expr}{d:List Expr}{scope:Scope}{own:List (Str×Nat)}{k l:Pos}{K:TI}{g:TG}{J:TT}{G:TE}(hc:X.calm=true)(P:X.N.Nodup)(hy:X.N[i]? =some y)(r:X.env.scope.names.lookup y=some .local)
  (B:swapsWith (.ListComp j [⟨n,c,d,0⟩] scope k) (some (.Name y u)) l.line X.env=pure true) (hi:PI X n c K) (ok:xW X.N X.env.scope scope own)
  (hg:∀(s:Shared) (H:Hp) (C:Addr) (cl:List (Str×Addr)) (p:List Addr),PG (X.blk s H scope (compEnvC scope cl C X.env) p) n g) (ht:∀(s:Shared) (H:Hp) (C:Addr) (cl:List (Str×Addr)) (p:List Addr),xX (X.blk s H scope (compEnvC scope cl C X.env) p) d J)
  (he:∀(s:Shared) (H:Hp) (C:Addr) (cl:List (Str×Addr)) (p:List Addr),PE (X.blk s H scope (compEnvC scope cl C X.env) p) j G) (hs:∀x,foldedSetIterable c X.env x=pure x:=by intro _;rfl):
  PS X (.Assign [.Name y u] (.ListComp j [⟨n,c,d,0⟩] scope k) l) (xO (BN K g J G (own.map (·.2))) (vB i)):=by
 intro pins s σ H D I h;rw[exec_Assign_Name_used _ _ _ _ B];refine aJ (wpAny_standAt (aJ ?_));show wpAny _ X.A (do let _<-comprehension (.ListComp j [⟨n,c,d,0⟩] scope k) scope X.env (firstIterPos [⟨n,c,d,0⟩] k) (newList []) false (eval c X.env) (some (assign (.Name y u) X.env))) _ _ s;have h:BN K g J G (own.map (·.2)) σ H (λx Q=>vB i x σ Q D.nx):=h;refine aJ (thn (QA (Qf:=λ_ E=>SP X pins D .next E) hc P I hi ok hg ht he hs h λL C E m H' T q hn f=> ?_) λ_ E hq=>aW (aW hq))
 show wpAny _ _ (assign (.Name y u) X.env (.ref L)) _ _ _;refine wpAny_assign_Name (NO (v:=V.ref L) T P hy (.inl r) Z (λs2 U ⟨a,sb,ha⟩=> ?_) (.inr r));obtain⟨W,M,f2,Y,O,f5⟩:=f;have w:C≠a:=by
  rcases ha with z|z;·rw[z];exact M
  exact λe=>O y a z e.symm
 refine⟨m,hn.sameBut sb w,λh3 F=> ?_⟩;exact⟨_,H',U.turned (t':=s2.toks) (λb o hb e=>(F.2 b hb).trans e) W M Y O f5,q⟩
end
def BO{K:PySem.W.Frag}{a:Addr}{xs:List V}{g:TG}{u:TT}{s:TE}{vs:List Nat}{σ:St}{n:Hp}{D:Addr}{o:Hp->Prop}(d:Nat->Hp->Prop)(v:d 0 (aE n D (.lst [])))(z:∀i H,i<=xs.length->d i H->SqL K H a xs)
  (A:∀ i x H,xs[i]? = some x->d i H->g x (fA σ vs) H λc k=>fA c vs=fA σ vs/\u c k λb f =>
   if b=true then s c f λy h=>∃acc,h D=some (.lst acc)/\acc.length<sizeLine/\d (i+1) (aE h D (.lst (acc++[y])))else d (i+1) f) (w:∀H,d xs.length H->o H):
  ∃W:Nat->Nat->Hp->Prop,(∃m,W 0 m (aE n D (.lst [])))/\∀i m H,W i m H->
   ((rG K a).stop i H/\o H)\/((rG K a).go i H/\∃ l:Hp->Prop,(∀ H',l H'->∃ r,r < m/\W (i+1) r H')/\∀ x H',(rG K a).yld i H x H'->g x (fA σ vs) H' λc k=>fA c vs=fA σ vs/\u c k λb f =>
    if b=true then s c f λy h=>∃acc,h D=some (.lst acc)/\acc.length<sizeLine/\l (aE h D (.lst (acc++[y])))else l f):=by
 refine⟨λi m H=>m=xs.length-i/\i<=xs.length/\d i H,⟨xs.length,by simp,bH _,v⟩,?_⟩;rintro i m H ⟨rfl,hi,p⟩;have q:=z i H hi p;by_cases j:i<xs.length;·refine .inr ⟨⟨xs,xs[i],q,by simp [j]⟩,d (i+1),λH' B=>⟨xs.length-(i+1),by lia,Z,j,B⟩,λx H' y=> ?_⟩;obtain⟨e,y⟩:=y;subst e;exact A i x _ (y xs q) p
 have e:i=xs.length:=by lia
 subst e;exact .inl ⟨⟨xs,q,aK _⟩,w H p⟩
def QD(N:List Str)(sc a:Scope)(own:List (Str×Nat)):Bool:=
 (match a.kind with| .function=>true|_=>false)&&(a.names.all λy=>decide (a.names.lookup y.1=some y.2))&&(own.all λp=>decide (N[p.2]? =some p.1))&&
  (a.names.all λy=>match y.2 with
   | .free=>(match sc.names.lookup y.1 with|some .cell=>true|some .free=>true|_=>false)
   | .local=>decide (y.1∈own.map (·.1))||decide (y.1∉N)
   | .cell=>decide (y.1∈own.map (·.1))||decide (y.1∉N)
   |_=>true)
def qC(h:QD N sc a own=true):xW N sc a own:=by
 unfold QD at h;simp only [cB,al_53,gK]at h;obtain⟨⟨⟨c,f⟩,i⟩,d⟩:=h;refine⟨?_,f,i,λy b e=> ?_,λy b e=> ?_⟩
 ·split at c;·assumption
  cases c
 ·have q:=d y b;simp only [e]at q;split at q<;>first|exact .inl (by assumption)|exact .inr (by assumption)|cases q
 have q:=d y b;rcases e with e|e<;>(simp only [e,mH,gK]at q;exact q)
section
end
section
end
section
variable{κ:Type}[DecidableEq κ]
def kY(a:List (κ×V))(k:κ):Option V:=(a.find? λb=>decide (b.1=k)).map (·.2)
def mN(a:List (κ×V))(k:κ)(v:V):List (κ×V):=
 if(a.any λb=>decide (b.1=k))=true then a.map (λb=>if b.1=k then(b.1,v)else b)else a++[(k,v)]
def HP{p:κ×V}{r:List (κ×V)}{k:κ}(e:p.1=k):kY (p::r) k=some p.2:=by simp [kY,lL,e]
def HQ{p:κ×V}{r:List (κ×V)}{k:κ}(e:¬p.1=k):kY (p::r) k=kY r k:=by simp [kY,lL,e]
def QE(k:κ):∀a:List (κ×V),(a.any λb=>decide (b.1=k))=(kY a k).isSome
 | []=>rfl
 |p::r=>by
  rw[lI];by_cases e:p.1=k;·simp only [HP e,bP e,wU,Option.isSome_some]
  rw[HQ e,bN e,oK];exact QE k r
def QF(a:List (κ×V))(k:κ)(v:V):(mN a k v).length<=a.length+1:=by
 unfold mN;split;·rw[aO];lia
 rw[bF,cG,uR];lia
def RelO.isSome_eq(r:RelO o u):o.isSome=u.isSome:=by
 cases o with
 |none=>cases u with|none=>rfl|some _=>exact(show False from r).elim
 |some _=>cases u with|none=>exact(show False from r).elim|some _=>rfl
def KV.val(r:KV a vs)(k:κ):RelO (kY a k) (valueAt vs k):=by
 unfold KV at r;induction r with
 |nil=>exact True.intro
 |@cons p q ps qs h t ih=>
  obtain⟨d,f⟩:=h;by_cases e:p.1=k
  ·have c:q.1=k:=d.symm.trans e;have b:valueAt (q::qs) k=some q.2:=by simp [valueAt,lL,c]
   rw[HP e,b];exact f
  have c:¬q.1=k:=λz=>e (d.trans z);have b:valueAt (q::qs) k=valueAt qs k:=by simp [valueAt,lL,c]
  rw[HQ e,b];exact ih
def KV.any(r:KV a vs)(k:κ):(a.any λb=>decide (b.1=k))=vs.any λb=>decide (b.1=k):=by
 unfold KV at r;induction r with|nil=>rfl|cons h t ih=>rw[lI,lI,ih,h.1]
def KV.repl(r:KV b vs)(k:κ)(f:RelV y u):
  KV (b.map λa=>if a.1=k then(a.1,y)else a) (vs.map λa=>if a.1=k then(a.1,u)else a):=by
 unfold KV at r ⊢;induction r with
 |nil=>exact .nil
 |@cons p q ps qs h t ih=>
  rw[fE,fE];refine .cons ?_ ih;obtain⟨c,d⟩:=h;by_cases e:p.1=k;·rw[aB e,aB (c.symm.trans e)];exact⟨c,f⟩
  rw[aA e,aA (λz=>e (c.trans z))];exact⟨c,d⟩
def KV.put(r:KV a vs)(k:κ)(b:RelV y u):KV (mN a k y) (stored vs k u):=by
 unfold mN stored;rw[r.any k];by_cases e:(vs.any λc=>decide (c.1=k))=true;·rw[aB e,aB e];exact r.repl k b
 rw[aA e,aA e];exact Paired.snoc r ⟨Z,b⟩
def KV.length(r:KV a vs):a.length=vs.length:=Paired.length r
end
def BP(r:RelV (kV k) u):(lN P w).is k u=true:=by
 cases k with
 |inl i=>obtain⟨t,e⟩:=(show∃t,u=Value.int i t from r);subst e;exact Dg P w i t
 |inr x=>obtain⟨t,e⟩:=(show∃t,u=Value.str x t from r);subst e;exact Dh P w x t
def QG:∀{a:List cC} {us:List Value},Vals (a.map kV) us->ItemsAre (lN P w) a us
 | [],_,r=>by rw[uN]at r;cases r;exact .nil
 |k::a,_,r=>by rw[fE]at r;cases r with|cons h t=>exact .cons (BP h) (QG t)
abbrev KT(H:Hp):List (List cC×V)->List (List cC×Addr×Value)->Prop:=Paired λp q=>p.1=q.1/\H q.2.1=some (.tup (p.1.map kV))/\RelV p.2 q.2.2
def KT.val(r:KT H a xs)(k:List cC):RelO (kY a k) ((atKey xs k).map (·.2)):=by
 induction r with
 |nil=>exact True.intro
 |@cons p q ps qs h t ih=>
  obtain⟨d,_,f⟩:=h;by_cases e:p.1=k
  ·have c:q.1=k:=d.symm.trans e;have b:atKey (q::qs) k=some q.2:=by simp [atKey,lL,c]
   rw[HP e,b];exact f
  have c:¬q.1=k:=λz=>e (d.trans z);have b:atKey (q::qs) k=atKey qs k:=by simp [atKey,lL,c]
  rw[HQ e,b];exact ih
def KT.repl(r:KT H a xs)(k:List cC)(i:RelV y u):
  KT H (a.map λc=>if c.1=k then(c.1,y)else c) (xs.map (putAt k u)):=by
 induction r with
 |nil=>exact .nil
 |@cons p q ps qs h t ih=>
  rw[fE,fE];refine .cons ?_ ih;obtain⟨b,d,f⟩:=h;unfold putAt;by_cases e:p.1=k;·rw[aB e,aB (b.symm.trans e)];exact⟨b,d,i⟩
  rw[aA e,aA (λz=>e (b.trans z))];exact⟨b,d,f⟩
def KT.put(r:KT H a xs)(k:List cC)(d:H b=some (.tup (k.map kV)))(c:RelV y u):
  KT H (mN a k y) (storedH xs k b u):=by
 have e:(a.any λf=>decide (f.1=k))=(atKey xs k).isSome:=by rw[QE,(r.val k).isSome_eq,Option.isSome_map]
 unfold mN storedH;rw[e];by_cases q:(atKey xs k).isSome=true;·rw[aB q,aB q];exact r.repl k c
 rw[aA q,aA q];exact Paired.snoc r ⟨Z,d,c⟩
def KT.keeps(r:KT H a xs)(c:∀b ys,H b=some (.tup ys)->H' b=some (.tup ys)):KT H' a xs:=
 Paired.mapP r λ_ _ z=>⟨z.1,c _ _ z.2.1,z.2.2⟩
section
def QH(ok:HOk P w H h)(e:Rd H a u):ObjOk P w H h a u:=e.ok ok
def BQ(ok:HOk P w H h)(e:Rd H a (.dK b)):b.length<=sizeLine/\(a==sysModules)=false/\∃vs,KV b vs/\h.DictOf (lN P w) a vs:=
 show ObjOk P w H h a (.dK b)from QH ok e
def Hu(ok:HOk P w H h)(e:H a=some (.dK b)):b.length<=sizeLine/\(a==sysModules)=false/\∃vs,KV b vs/\h.DictOf (lN P w) a vs:=BQ ok (.inl e)
def BR(ok:HOk P w H h)(e:H a=some (.tup (c.map kV))):(tupleKind (lN P w)).is h c a:=by obtain⟨_,b,r,o,d,f,n,i⟩:=(show ObjOk P w H h a (.tup (c.map kV))from ok a _ e);exact⟨o,b.toArray,n,d,f,i,by simpa using QG r⟩
def BS(ok:HOk P w H h)(e:Rd H a (.dT b)):b.length<=sizeLine/\(a==sysModules)=false/\
  ∃xs,KT H b xs/\h.DictOfH (tupleKind (lN P w)) a xs:=by
 obtain⟨z,y,xs,r,o,f,d,i,j,k,n,s⟩:=(show ObjOk P w H h a (.dT b)from QH ok e);refine⟨z,y,xs,r,o,f,d,i,j,k,n,λx c=> ?_,s⟩;have all:∀{l:List (List cC×V)} {m:List (List cC×Addr×Value)},KT H l m->∀x∈m,(tupleKind (lN P w)).is h x.1 x.2.1:=by
  intro l m q;induction q with
  |nil=>intro x c;exact nomatch c
  |@cons p q ps qs hq t ih=>
   intro x c;rcases al_18.mp c with e|c
   ·subst e;exact BR ok (by rw[<- hq.1];exact hq.2.1)
   exact ih x c
 exact all r x c
def Hv(ok:HOk P w H h)(e:H a=some (.dT b)):b.length<=sizeLine/\(a==sysModules)=false/\
  ∃xs,KT H b xs/\h.DictOfH (tupleKind (lN P w)) a xs:=BS ok (.inl e)
end
def DGet(H:Hp)(a:Addr)(y:V)(r:Option V):Prop:=
 (∃c k,Rd H a (.dK c)/\y=kV k/\r=kY c k)\/∃c k b,Rd H a (.dT c)/\y= .ref b/\H b=some (.tup (k.map kV))/\r=kY c k
def DPut(H:Hp)(a:Addr)(y v:V)(H':Hp):Prop:=
 (∃c k,H a=some (.dK c)/\y=kV k/\c.length<sizeLine/\H'=aE H a (.dK (mN c k v)))\/
 ∃c k b,H a=some (.dT c)/\y= .ref b/\H b=some (.tup (k.map kV))/\c.length<sizeLine/\H'=aE H a (.dT (mN c k v))
def DGet.t(e:H a=some (.dT c))(d:H b=some (.tup (k.map kV))):DGet H a (.ref b) (kY c k):= .inr ⟨c,k,b,.inl e,Z,d,Z⟩
def DPut.t(e:H a=some (.dT c))(d:H b=some (.tup (k.map kV)))(f:c.length<sizeLine):
  DPut H a (.ref b) v (aE H a (.dT (mN c k v))):= .inr ⟨c,k,b,e,Z,d,f,Z⟩
section
def Inv.big(I:Inv X pins σ H s):sysModules<s.heap.objs.size:=by have h:mainGlobals<s.heap.objs.size:=(I.mod.glob.keeps I.bk).lt;exact Nat.lt_trans (by decide) h
def Hw(B:A.units+1<cLine)(I:Inv X pins σ H s)(g:DGet H a y (some v))(n:RelV y u)(h:∀f q,Inv X pins σ H q->RelV v f->Q f q):
  wpAny (model X.prog X.w) A (getItem (.ref a) u) Q E s:=by
 rcases g with⟨kvs,k,e,ey,l⟩|⟨kvs,k,b,e,ey,eb,l⟩;·subst ey;obtain⟨z,r,vs,c,i⟩:=BQ I.hok e;obtain⟨f,m,d⟩:=RelO.some_of (v:=v) (o:=valueAt vs k) (by rw[l];exact c.val k);exact wpAny_getItem_of (BP n) i.mapOf m (h f _ (I.tok _) d)
 subst ey;cases(show u=Value.ref b from n);obtain⟨z,r,xs,c,i⟩:=BS I.hok e;obtain⟨f,m,d⟩:=RelO.some_of (v:=v) (o:=(atKey xs k).map (·.2)) (by rw[l];exact c.val k);obtain⟨p,x,j⟩:=Option.map_eq_some_iff.mp m;refine wpAny_getItem_heap (tupleKind_room_in1 B) (BR I.hok eb) i x ?_;rw[j];exact h f _ (I.tok _) d
def Hx(m:A.units+1<cLine)(I:Inv X pins σ H s)(g:DGet H a y o)(i:RelV y u)(h:∀j,Inv X pins σ H j->Q (.bool (!o.isSome)) j):
  wpAny (model X.prog X.w) A (compareOp .NotIn u (.ref a)) Q E s:=by
 rcases g with⟨kvs,k,e,ey,l⟩|⟨kvs,k,b,e,ey,eb,l⟩;·subst ey;obtain⟨z,f,vs,c,d⟩:=BQ I.hok e;refine wpAny_notIn_of (BP i) f d.mapOf ?_;rw[<- (c.val k).isSome_eq,<- l];exact h _ (I.tok _)
 subst ey;cases(show u=Value.ref b from i);obtain⟨z,f,xs,c,d⟩:=BS I.hok e;refine wpAny_notIn_heap (tupleKind_room_in1 m) (BR I.hok eb) f d ?_;have q:=(c.val k).isSome_eq;rw[Option.isSome_map]at q;rw[<- q,<- l];exact h _ (I.tok _)
def QI(I:Inv X pins σ H s)(i:xJ (H a))(h:Heap.SameBut a s.heap h')(f:∃q,h'.get? a=some q)(new:ObjOk X.prog X.w (aE H a c) h' a c):
  Inv X pins σ (aE H a c) {s with heap:=h',toks:=t'}:=
 I.write (x:=a) (e:=a) i (.inl Z) (λb q d z=>(h.2 b d).trans z) f new
def Hy(z:b.length<=sizeLine)(e:(a==sysModules)=false)(c:KV b vs)(d:h'.DictOf (lN P w) a vs):
  ObjOk P w H' h' a (.dK b):=⟨z,e,vs,c,d⟩
def Hz(N:A.units+1<cLine)(I:Inv X pins σ H s)(g:DPut H a y v H')(B:RelV y u)(x:RelV v r)(h:∀C,Inv X pins σ H' C->Q () C):
  wpAny (model X.prog X.w) A (setItem (.ref a) u r) Q E s:=by
 rcases g with⟨kvs,k,e,ey,l,eH⟩|⟨kvs,k,b,e,ey,eb,l,eH⟩
 ·subst ey eH;obtain⟨z,m,vs,d,j⟩:=Hu I.hok e;have hz:vs.length<=sizeLine:=by rw[<- d.length];exact z
  have n:(mN kvs k v).length<=sizeLine:=by have:=QF kvs k v;lia
  refine wpAny_setItem_pairs (hsz:=hz) (BP B) j λh' f o=>h _ ?_;have M:∃q,h'.get? a=some q:=let⟨q,_,_,i,_⟩:=f;⟨q,i⟩;exact QI I (by rw[e];exact True.intro) o M (Hy n m (d.put k x) f)
 subst ey eH;cases(show u=Value.ref b from B);obtain⟨z,m,xs,d,j⟩:=Hv I.hok e;have hz:xs.length<=sizeLine:=by rw[<- Paired.length d];exact z
 have n:(mN kvs k v).length<=sizeLine:=by have:=QF kvs k v;lia
 refine wpAny_setItem_heap (hsz:=hz) (tupleKind_room_in1 N) (BR I.hok eb) j λh' f o=>h _ ?_;obtain⟨q,F,D,i,G,J,K,_,L⟩:=f;refine QI I (by rw[e];exact True.intro) o ⟨q,i⟩ ⟨n,m,_,(d.put k eb x).keeps λc ys p=> ?_,q,F,D,i,G,J,K,L⟩;rw[bB (bM p e (λz=>nomatch z))];exact p
end
section
end
def QJ(i:Expr):Prop:=∀b a,subscripted i false b a=operate [b,a] (getItem b a)
def Ia{prog:Program}{w:World}{A:Around}{E:Value->Shared->Prop}{s:Shared}{j:Env}{b a:Expr}{m:Pos}{T id:String}{Q:Value->Shared->Prop}
  (p:typeLookup (.type T) "__getitem__"=pure (some (.builtin id))) (q:QJ a)
  (h:wpAny (model prog w) A (eval b j) (λo e=>wpAny (model prog w) A (eval a j) (λi c=>c.TypeIs o T/\wpAny (model prog w) A (getItem o i) Q E c) E e) E s):
  wpAny (model prog w) A (eval (.Subscript b a m) j) Q E s:=by
 refine Subscript_ (kP h (λo e h₁=>kP h₁ (λi c d=> ?_) λ_ _ x=>x) λ_ _ x=>x);obtain⟨n,d⟩:=d;unfold subscriptTail;refine aJ ?_;rw[getitemInPython_of_ne n.not_modules];refine aJ (wpAny_specialOf n p ?_);have k:wpAny (model prog w) A (subscripted a false o i) (λr f=>wpAny (model prog w) A (letTemporaryGo b o r >>= λ_=>pure r) Q E f) E c:=by rw[q o i];exact wpAny_operating (kP d (λr f l=>aJ (wpAny_letTemporaryGo (aW l))) λ_ _ x=>x)
 first
  |exact aW (aJ k)
  |exact aJ (aW (aJ k))
  |exact aJ k
def Ib(I:Inv X pins σ H s)(g:DGet H a y o):s.TypeIs (.ref a) "dict":=by
 rcases g with⟨kvs,k,e,_,_⟩|⟨kvs,k,b,e,_,_,_⟩;·obtain⟨_,_,vs,_,c⟩:=BQ I.hok e;exact c.typeIs
 obtain⟨_,_,xs,_,c⟩:=BS I.hok e;exact c.typeIs
def Ic(d e:TE):TE:=λσ H Q=>d σ H λx c=>e σ c λy b=>∃a v,x= .ref a/\DGet b a y (some v)/\Q v b
def Id(e d:TE):TE:=λσ H Q=>e σ H λy c=>d σ c λx b=>∃a o,x= .ref a/\DGet b a y o/\Q (.bl (!o.isSome)) b
def Ie(f i h:TE):TS:=λD σ H=>h σ H λv c=>f σ c λx d=>i σ d λy e=>∃a b,x= .ref a/\DPut e a y v b/\D.nx σ b
section
def Ig(m:X.A.units+1<cLine)(k:PE X o td)(hi:PE X i ty)(l:QJ i):PE X (.Subscript o i pos) (Ic td ty):=by intro pins s σ H Q I h;refine Ia PySem.F.slot_dict_getitem.lookup l (thn (k pins s σ H _ I h) λu w ⟨x,d,f,q,n⟩=>thn (hi pins w σ d _ f n) λz B ⟨y,e,c,r,a,v,ex,g,p⟩=> ?_);subst ex;obtain rfl:u=Value.ref a:=q;exact⟨Ib c g,Hw m c g r λD C j b=>⟨v,e,j,b,p⟩⟩
def Ih(k:X.A.units+1<cLine)(hi:PE X i ty)(j:PE X o td):PC X .NotIn i o (Id ty td):=by intro pins s σ H Q I h;refine thn (hi pins s σ H _ I h) λv r ⟨y,b,d,q,m⟩=>thn (j pins r σ b _ d m) λu w ⟨x,c,e,p,a,l,ex,g,n⟩=> ?_;subst ex;obtain rfl:u=Value.ref a:=p;exact Hx k e g q λz f=>⟨.bl (!l.isSome),c,f,Z,n⟩
def Ii(n:X.A.units+1<cLine)(l:PE X o td)(hi:PE X i ty)(p:PE X value tv)(m:swapsWith value (some (.Subscript o i pos')) pos.line X.env=pure false):
  PS X (.Assign [.Subscript o i pos'] value pos) (Ie td ty tv):=by
 intro pins s σ H D I h;refine wpAny_Assign_Subscript (thn (p pins s σ H _ I h) λr F ⟨v,b,e,B,q⟩=>thn (l pins F σ b _ e q) λu G ⟨x,c,f,C,w⟩=>thn (hi pins G σ c _ f w) λK L ⟨y,J,j,E,a,d,ex,g,z⟩=> ?_) m;subst ex;obtain rfl:u=Value.ref a:=C;exact Hz n j g E B λM k=>⟨σ,d,k,z⟩
end
def Ij(h:Heap)(a:sysModules<h.objs.size):ObjOk P w H (h.push {cls:= .type "dict",data:= .dict #[]}) h.objs.size (.dT []):=
 ⟨bH _,al_35.mpr (dJ (fI a)),[],.nil,_,#[],0,gB _ Z,⟨Z,Z,Z⟩,Z,Z,List.nodup_nil⟩
def Ik:TE:=λ_ H Q=>∀p,H p=none->Q (.ref p) (aE H p (.dT []))
section
def Il:PE X (.Dict [] [] pos) Ik:=λpins s σ H Q I h=>
 wpAny_Dict_empty ⟨.ref s.heap.objs.size,_,I.laid (a:=s.heap.objs.size) (o:= .dT []) (t':=s.toks) (λ_ _ q=>dZ _ q) (aK _) (Ij s.heap I.big),Z,h _ (I.hok.fresh (aK _))⟩
end
section
end
section
end
section
end
section
end
section
end
section
end
def Im:bootBuiltins "reversed"=some (.type "reversed"):=by decide +kernel
section
variable{X:Cx}{pins:List (Addr×Obj)}{σ:St}{H:Hp}{s:Shared}{h':Heap}
def Inv.turnedNew{t':Nat}{ch:List Addr}{T:Addr}{j:HO}(I:Inv X pins σ H s)(k:∀b o,b∉ch->s.heap.get? b=some o->h'.get? b=some o)(f:∀b∈ch,nS X pins H b)(l:s.heap.objs.size<=T)
  (new:ObjOk X.prog X.w (aE H T j) h' T j):Inv X pins σ (aE H T j) {s with heap:=h',toks:=t'}:=by
 have h:H T=none:=I.hok.fresh l;have i:∀b u,H b=some u->b∉ch:=λb u e z=>by have q:=(f b z).1;rw[q]at e;cases e
 refine I.step (g':=s.gens) (d':=s.drawn) (ch:=ch) (λb a=>⟨(f b a).2.2.2.1,(f b a).2.1,(f b a).2.2.2.2.1,(f b a).2.2.2.2.2⟩) (λb o _ _ d e _=>k b o d e) (λb o _ _ d e _=>⟨o.slots,k b o d e⟩)
  (λb o _ e n=> ?_) (λb o d e=>⟨o,k b o d e⟩) (λb xs e=> ?_) (λb o u e=> ?_) (λb ps e=>⟨#[],?_⟩) (λm y=> ?_) (λb u e=> ?_) I.bare
 ·rw[bB (fI (gJ (cP e) l))];exact n
 ·rw[bB (cH e h)];exact e
 ·rw[bB (cH e h)];exact e
 ·rw[bB (cH e h),e];simp
 ·obtain⟨o,x,p,A,r⟩:=y;exact⟨o,x,p,k _ o (λz=>(f _ z).2.1 Z) A,r⟩
 by_cases a:b=T;·subst a;rw[aH]at e;cases e;exact new
 rw[bB a]at e;refine(I.hok b u e).stay (λc v d q=>k c v ?_ q) (λc q=>by rw[bB (cH q h)];exact q) λc xs q=>by rw[bB (cH q h)];exact q
 rcases d with z|z;·rw[z];exact i b u e
 exact i c _ z
end
section
def Io(I:Inv X pins σ H s)(o:Obj)
  (T:sZ X.prog X.w X.K c J [s.heap.objs.size] s.heap.objs.size a) (st:a 0 (s.heap.push o)) (q:R J H):GL X pins σ c R (.ref s.heap.objs.size) {s with heap:=s.heap.push o,toks:=tk}:=by
 refine⟨s.heap.objs.size,[s.heap.objs.size],a,J,H,Z,I.kept λb f e=>dZ _ e,T,st,λb d=> ?_,q⟩;have e:b=s.heap.objs.size:=by simpa using d
 subst e;exact I.fpOk (aK _) (I.hok.fresh (aK _))
end
section
end
def xZ(K:PySem.W.Frag)(a:Addr)(n:Nat):It:=
 ⟨λi H=>i<n/\∃(xs:List V) (x:V),SqL K H a xs/\xs[n-1-i]? =some x,λi H x H'=>H'=H/\∀xs,SqL K H a xs->xs[n-1-i]? =some x,λi _=>n<=i⟩
def Ip{P:Program}{w:World}{K:PySem.W.Frag}{tg:Expr}(a it:Addr)(n:Nat):sZ P w K tg (xZ K a n) [it] it (λi h=>i<=n/\h.IsRevIter it a ((n:Int)-1-(i:Nat))) where
 mem:=by simp
 obj:=λi h st b hb=>by
  have e:b=it:=by simpa using hb
  subst e;obtain⟨_,o,e,c,d⟩:=st;exact⟨o,e,λv z=>by rw[d]at z;cases z⟩
 keep:=λi h h' st k=>⟨st.1,st.2.at λo e=>k it (by simp) o e⟩
 item:=by
  intro X hP hw hK hc i pins s σ H E I hf st hg;subst hP hw hK;obtain⟨hin,xs,x,hq,hx⟩:=hg;obtain⟨its,rv,p,hz⟩:=I.list hq;obtain⟨u,hu,ru⟩:=rv.get hx;obtain⟨f0,f1,f2,f3,f4,f5⟩:=hf it (by simp);obtain⟨_,hit⟩:=st;have e1:(n:Int)-1-((i:Nat):Int)=((n-1-i:Nat):Int):=by lia
  rw[e1]at hit;refine wpAny_pyNext_rev_item hit p.isList (x:=u) (by simpa using hu) λh' st' sb=> ?_;have e2:((n-1-i:Nat):Int)-1=(n:Int)-1-((i+1:Nat):Int):=by lia
  rw[e2]at st';have I1:Inv X pins σ H {s with heap:=h'}:=I.turned (t':=s.toks) (λb o hb e=>(sb.2 b hb).trans e) f0 f1 f3 f4 f5;obtain⟨o,e,c,d⟩:=id st';exact⟨u,Z,AY (s:={s with heap:=h'}) e c d (by decide) ⟨x,H,I1,ru,⟨Z,λys hy=>by rw[I.list_inj hy hq];exact hx⟩,⟨hin,st'⟩,λb hb=>(hf b hb).1⟩⟩
 done:=by
  intro X hP hw hK hc i pins s σ H E I hf st hg;subst hP hw hK;obtain⟨f0,f1,f2,f3,f4,f5⟩:=hf it (by simp);obtain⟨hin,hit⟩:=st;have hge:n<=i:=hg;have e1:(n:Int)-1-((i:Nat):Int)= -1:=by lia
  rw[e1]at hit;exact wpAny_pyNext_rev_end (I.ok.hd hc) hit λh' eb=>⟨Z,I.turned (t':=s.toks) (λb o hb e=>eb b o hb e) f0 f1 f3 f4 f5⟩
 self:=λA i s Q E st h=>wpAny_pyIter_revIter st.2 h
def Iq(K:PySem.W.Frag)(c:TA):TI:=λσ H R=>c σ H λvs b=>∃(a:Addr) (xs:List V),vs=[.ref a]/\SqL K b a xs/\R (xZ K a xs.length) b
section
variable{X:Cx}{tg:Expr}
def Ir{e:Expr}{f:TA}{p c:Pos}(m:Gl X "reversed")(n:X.mg "reversed"=none)(k:PA X [e] f)(u:starEach [e] X.env=[(false,eval e X.env)]:=by rfl):PI X tg (.Call (.Name "reversed" p) [e] [] c) (Iq X.K f):=by
 intro pins s σ H R I h;refine Call_ (xL I m n Im (AB (thn (k c pins s σ H _ I h) λus z ⟨vs,A,d,x,w⟩=> ?_) u Z));obtain⟨a,xs,e,o,q⟩:=w;subst e;cases x with
 |cons r rr=>
  cases rr;cases r;obtain⟨b,y,v,hz⟩:=d.list o;have B:=y.length;have j:((b.toArray.size:Nat):Int)-1=(xs.length:Int)-1-((0:Nat):Int):=by simp only [dL];lia
  refine call_reversed_list v.isList (wpAny_pyIter_revIter (l:=a) (i:=((b.toArray.size:Nat):Int)-1) ⟨_,gB _ Z,Z,Z⟩ ?_);refine Io (tk:=z.toks) d _ (Ip a _ xs.length) ⟨bH _,?_⟩ q;rw[<- j];exact⟨_,gB _ Z,Z,Z⟩
end
section
end
section
end
section
end
section
end
def rK(K:PySem.W.Frag)(a:Addr):It:=
 ⟨λi H=>∃(xs:List V) (x:V),SqL K H a xs/\xs[i]? =some x,λi H v H'=>∃T x,v= .ref T/\H T=none/\H'=aE H T (.tup [.int (i:Nat),x])/\∀xs,SqL K H a xs->xs[i]? =some x,λi H=>∃xs:List V,SqL K H a xs/\xs.length<=i⟩
def Iu{P:Program}{w:World}{K:PySem.W.Frag}{elts:List Expr}{kk:Nat}{tpos:Pos}(a e it:Addr):
  sZ P w K (.Tuple elts kk tpos) (rK K a) [e,it] e (λi h=>(∃old,IsEnum h e it ((i:Nat):Int) old)/\h.IsListIter it a i/\e≠it) where
 mem:=by simp
 obj:=λi h st b hb=>by
  obtain⟨⟨old,he⟩,⟨o,ho,hc,hd⟩,_⟩:=st;have e':b=e\/b=it:=by simpa using hb
  rcases e' with z|z;·rw[z];exact⟨_,he,λv q=>nomatch q⟩
  rw[z];exact⟨o,ho,λv q=>by rw[hd]at q;cases q⟩
 keep:=λi h h' st k=>let⟨⟨old,he⟩,hi,hne⟩:=st;⟨⟨old,k e (by simp) _ he⟩,hi.at λo q=>k it (by simp) o q,hne⟩
 item:=by
  intro X hP hw hK hc i pins s σ H E I hf st hg;subst hP hw hK;obtain⟨⟨old,he⟩,hit,hne⟩:=st;obtain⟨xs,x,hq,hx⟩:=hg;obtain⟨its,rv,p,hz⟩:=I.list hq;obtain⟨u,hu,ru⟩:=rv.get hx;have hel:e<s.heap.objs.size:=cP he;have hil:it<s.heap.objs.size:=by obtain⟨_,q,_⟩:=hit;exact cP q
  refine wpAny_pyNext_enum_item he hit p.isList (x:=u) (by simpa using hu) hne λh' ho hit' hT hsz hk=> ?_;refine⟨_,Z,wpAny_letOwnedTupleGo_enum (s:={s with heap:=h',toks:=s.toks+1}) ho λh'' he' sb=> ?_⟩;have hT2:h''.get? s.heap.objs.size=some {cls:= .type "tuple",data:= .seq #[.int i s.toks,u]}:=(sb.2 _ (wT hel)).trans hT;have new:ObjOk X.prog X.w (aE H s.heap.objs.size (.tup [.int (i:Nat),x])) h'' s.heap.objs.size (.tup [.int (i:Nat),x]):=
   ⟨by show 2<=sizeLine;decide,[.int i s.toks,u],.cons ⟨_,Z⟩ (.cons ru .nil),⟨_,hT2,Z,_,Z⟩⟩
  have I1:Inv X pins σ (aE H s.heap.objs.size (.tup [.int (i:Nat),x])) {s with heap:=h'',toks:=s.toks+1}:=
   I.turnedNew (ch:=[e,it]) (λb ob hb q=>(sb.2 b (λz=>hb (by simp [z]))).trans (hk b ob (λz=>hb (by simp [z])) (λz=>hb (by simp [z])) q)) hf (aK _) new
  refine⟨.ref s.heap.objs.size,_,I1,Z,⟨_,x,Z,I.hok.fresh (aK _),Z,λys hy=>by rw[I.list_inj hy hq];exact hx⟩,⟨⟨u,?_⟩,hit'.at λo q=>(sb.2 it (dJ hne)).trans q,hne⟩,λb hb=> ?_⟩
  ·have e1:((i+1:Nat):Int)=(i:Int)+1:=by lia
   rw[e1];exact he'
  have hb':b<s.heap.objs.size:=by
   have e':b=e\/b=it:=by simpa using hb
   rcases e' with z|z;·rw[z];exact hel
   rw[z];exact hil
  rw[bB (fI hb')];exact(hf b hb).1
 done:=by intro X hP hw hK hc i pins s σ H E I hf st hg;subst hP hw hK;obtain⟨⟨old,he⟩,hit,hne⟩:=st;obtain⟨xs,hq,hx⟩:=hg;obtain⟨its,rv,p,hz⟩:=I.list hq;obtain⟨f0,f1,f2,f3,f4,f5⟩:=hf it (by simp);have hl:=rv.length;exact wpAny_pyNext_enum_end (I.ok.hd hc) he hit p.isList (by simp;lia) λh' eb=>⟨Z,I.turned (t':=s.toks) (λb o hb q=>eb b o hb q) f0 f1 f3 f4 f5⟩
 self:=λA i s Q E st h=>let⟨⟨_,he⟩,_⟩:=st;wpAny_pyIter_enum he h
def Iv(K:PySem.W.Frag)(c:TA):TI:=λσ H R=>c σ H λvs b=>∃a xs,vs=[.ref a]/\SqL K b a xs/\R (rK K a) b
def vL{X:Cx}{e:Expr}{o:TA}{p i j:Pos}{d:List Expr}{F:Nat}(y:Gl X "enumerate")(B:X.mg "enumerate"=none)(w:PA X [e] o)(D:starEach [e] X.env=[(false,eval e X.env)]:=by rfl):
  PI X (.Tuple d F j) (.Call (.Name "enumerate" p) [e] [] i) (Iv X.K o):=by
 intro pins s σ H R I h;refine Call_ (xL I y B boot_enumerate (AB (thn (w i pins s σ H _ I h) λus c ⟨vs,m,k,L,J⟩=> ?_) D Z));obtain⟨a,xs,ex,C,q⟩:=J;subst ex;cases L with
 |cons r rr=>
  cases rr;cases r;obtain⟨E,M,G,hz⟩:=k.list C;refine call_enumerate_list G.isList λh' n l hsz A=>wpAny_pyIter_enum n ?_;have u:Inv X pins σ m {c with heap:=h'}:=k.kept (t':=c.toks) A;refine⟨c.heap.objs.size+1,[c.heap.objs.size+1,c.heap.objs.size],_,_,m,Z,u,Iu a (c.heap.objs.size+1) c.heap.objs.size,⟨⟨.none,n⟩,l,Nat.succ_ne_self _⟩,λb x=> ?_,q⟩;have v:b=c.heap.objs.size+1\/b=c.heap.objs.size:=by simpa using x
  have f:c.heap.objs.size<=b:=by
   rcases v with z|z;·rw[z];exact Nat.le_add_right _ _
   rw[z];exact aK _
  exact k.fpOk f (k.hok.fresh f)
end L2
section
namespace Bits
open PySem PyProof.Rows
end Bits
end
section
namespace TL
open PySem PySem.Builtin PySem.Builtin.Str PySem.StrLaws
end TL
end
namespace L2
open PySem PySem.Spec PyProof.Rows
section
end
section
end
section
end
section
end
end L2
namespace Att
open PySem PySem.W PySem.Calls PyProof.Rows
section
end
end Att
namespace L2
open PySem PySem.Spec PyProof.Rows
abbrev QK{K:PySem.W.Frag}{h:Heap}(_:K.In h):PySem.W.Frag:=K
def eB(s:Stmt)(j:Nat):Stmt:=match s with| .ClassDef _ _ _ body _ _ _ _ _ _ _=>body.getD j (.Pass ⟨0,0,0,0⟩)|_=> .Pass ⟨0,0,0,0⟩
def qD(s:Stmt):Arguments:=match s with| .FunctionDef _ a _ _ _ _ _ _ _ _=>a|_=>{posonlyargs:=[],args:=[],vararg:=none,kwonlyargs:=[],kw_defaults:=[],kwarg:=none,defaults:=[]}
def nT(s:Stmt):List Stmt:=match s with| .FunctionDef _ _ b _ _ _ _ _ _ _=>b|_=>[]
def gE(s:Stmt):Scope:=match s with| .FunctionDef _ _ _ _ _ _ sc _ _ _=>sc|_=>{kind:= .function,names:=[],isGenerator:=false,isCoroutine:=false}
abbrev vM:lQ:=λ_ _ _ _ _ _=>False
abbrev E0:XK:=λ_ _ _=>False
def vN:pX vM X E0:=λ_ _ _ _ _ _ _ h=>h.elim
structure Fun(K:PySem.W.Frag)(x qual:Str)(st:Stmt)(f:Addr)(fd:FuncData):Prop where
 ex:∃(oc:Value) (od:Option Addr) (kV doc pm:Value) (an:Option Addr) (cdv ct:Value) (osl:Array (Option Value)),
  fd=PySem.W.fnOf x qual (qD st) (nT st) (gE st) .none kV doc pm an cdv ct/\K.lookup f=some ⟨oc,od,.func fd,osl⟩/\PySem.W.codeIn K cdv qual=true
 kp:PySem.W.keepIn K (.ref f)=true
section
variable{P:Program}{w:World}{K:PySem.W.Frag}{mg:Str->Option Value}{base:Heap}
def Fun.ok{x b:Str}{st:Stmt}{f:Addr}{l:FuncData}{N ps:List Str}{k:Nat}{sp:Sp}(F:Fun K x b st f l)(S:BG N ps (gE st))(j:∀vs H Q E,sp vs H Q E->vs.length=ps.length)
  (d:∀ (c:Value) (A:Around) (a:List Env) (s:Shared) (H:Hp) (vs:List V) (Q:VK) (E:XK),Room k (A.deeper (envOfC b (gE st) s.heap.objs.size f c))->sp vs H Q E ->
   ∃t,PSs (aR vM P w K mg base N b (gE st) f c A a s H E).nox (nT st) t/\t (Ends.fn Q) (pY N vs) H):kX P w K mg base vM (k+1) f l ps sp:=by
 obtain⟨v,y,kV,m,z,r,c,u,p,rfl,o,e⟩:=F.ex;refine Gd o e S j λA a s H vs Q E n i=> ?_;obtain⟨t,h,q⟩:=d c A a s H vs Q E n i;exact⟨t,h.nox,q⟩
def Fun.binds{x a:Str}{st:Stmt}{f:Addr}{j:FuncData}{ps:List Str}(F:Fun K x a st f j)
  (h:∀(kV c i:Value) (d:Option Addr) (b e:Value) (us:List Value),us.length=ps.length->bindArgs (PySem.W.fnOf x a (qD st) (nT st) (gE st) .none kV c i d b e) ⟨us,[]⟩=pure (ps.zip us)):Binds K j ps []:=by
 obtain⟨n,o,kV,c,i,d,b,e,l,rfl,m,k⟩:=F.ex;exact .all (h kV c i d b e)
def HR{x a:Str}{st:Stmt}{f:Addr}{m:Value}{n h:Option Addr}{e:Array (Option Value)}{kV d j b i:Value}(l:K.lookup f=some ⟨m,n,.func (PySem.W.fnOf x a (qD st) (nT st) (gE st) .none kV d j h b i),e⟩)
  (c:PySem.W.codeIn K b a=true) (k:PySem.W.keepIn K (.ref f)=true):Fun K x a st f (PySem.W.fnOf x a (qD st) (nT st) (gE st) .none kV d j h b i):=⟨⟨m,n,kV,d,j,h,b,i,e,Z,l,c⟩,k⟩
end
section
def QL(sc:Scope)(x:Str):Bool := !(x == ("__debug__" : Str)) && (!(x == ("__classdict__" : Str)) && match sc.names.lookup x with
 |some .local=>true
 |some .cell=>true
 |some .free=>true
 |_=>false)
def pv(i:Nat)(c:X.N[i]? =some x:=by rfl) (a:QL X.env.scope x=true:=by rfl):PE X (.Name x b) (rE i):=by
 unfold QL at a;rw[cB,cB,sT,sT]at a;obtain⟨f,d,a⟩:=a;refine Do c ?_ f d;unfold vA;split at a;·rename_i e;exact .inl e
 ·rename_i e;exact .inr (.inl e)
 ·rename_i e;exact .inr (.inr e)
 cases a
end
def aQ(h:B):if false=true then A else B:=by rw[aA bX];exact h
def aN(h:A):if true=true then A else B:=by rw[aB rfl];exact h
def Same(H H':Hp):Prop:=∀b o,H b=some o->H' b=some o
def Same.refl(H:Hp):Same H H:=λ_ _ h=>h
def Same.trans(a:Same H d)(b:Same d e):Same H e:=λc o h=>b c o (a c o h)
def Same.free(e:Same H H')(h:H' l=Option.none):H l=Option.none:=by
 cases q:H l with
 |none=>rfl
 |some o=>
  rw[e l o q]at h;cases h
def Same.seq{K:PySem.W.Frag}{H H':Hp}{a:Addr}{xs:List V}(e:Same H H')(h:SqL K H a xs):SqL K H' a xs:=by
 rcases h with(h|⟨o,h⟩)|h;·exact .inl (.inl (e _ _ h))
 ·exact .inl (.inr ⟨o,e _ _ h⟩)
 exact .inr h
section
variable{κ:Type}[DecidableEq κ]
end
def oW{xs:List V}{z:Int}{j:Nat}{v:V}(e:z=(j:Int))(h:xs[j]? =some v):hX xs z=some v:=by rw[e];exact GZ h
def Same.made(d:H x=Option.none)(f:H a=Option.none)(k:∀b o,(aE (aE H a (.own x)) x (.ins C a [])) b=some o->b≠x->c b=some o):Same H c:=λb o e=>
 k b o (by rw[bB (cH e d),bB (cH e f)];exact e) (cH e d)
end L2
section
set_option maxHeartbeats 2000000
namespace L2
open PySem PySem.Spec PyProof.Rows
open PySem.W (WData Codec OpenSpec Well WellAll ReadsW ReadsAllW)
mutual
inductive Dw(K:PySem.W.Frag)(H:Hp):V->WData->Prop
 |non:Dw K H .non .none
 |bl (b:Bool):Dw K H (.bl b) (.bool b)
 |int (i:Int):Dw K H (.int i) (.int i)
 |str (x:Str):Dw K H (.str x) (.str x)
 |byt (b:Array UInt8):Dw K H (.byt b) (.bytes b.toList)
 |lst {a:Addr} {xs:List V} {ds:List WData}:SqL K H a xs->mO K H xs ds->Dw K H (.ref a) (.list ds)
 |tup {a:Addr} {xs:List V} {ds:List WData}:SqT K H a xs->mO K H xs ds->Dw K H (.ref a) (.tuple ds)
inductive mO(K:PySem.W.Frag)(H:Hp):List V->List WData->Prop
 |nil:mO K H [] []
 |cons {v:V} {vs:List V} {d:WData} {ds:List WData}:Dw K H v d->mO K H vs ds->mO K H (v::vs) (d::ds)
end
def QM{K:PySem.W.Frag}{H:Hp}:∀ns:List Int,mO K H (ns.map V.int) (ns.map WData.int)
 | []=> .nil
 |n::r=> .cons (.int n) (QM r)
def BT{K:PySem.W.Frag}{H:Hp}:∀(ns:List Int) (xs:List V),mO K H xs (ns.map WData.int)->xs=ns.map V.int
 | [],xs,h=>by
  cases h;rfl
 |n::r,xs,h=>by
  cases h with
  |cons h1 h2=>
   cases h1;rw[BT r _ h2]<;>rfl
section
variable{P:Program}{w:World}{K:PySem.W.Frag}{H:Hp}{h:Heap}{R:PySem.W.WRecords}{cl:Str->Option Addr}
def Iw(c:HOk P w H h)(f:K.In h)(q:SqL K H a xs):∃(b:List Value) (o:Obj) (n:Nat),Vals xs b/\h.get? a=some o/\o.cls= .type "list"/\o.data= .seq b.toArray n:=by
 rcases q with q|⟨o,b,n,e,hc,_,hd,_,d⟩;·obtain⟨_,b,n,d,e⟩:=(show ObjOk P w H h a (.lst xs)from q.ok c);exact⟨b,_,n,d,e,Z,Z⟩
 exact⟨b.toList,o,n,d,f _ _ e,hc,by simp [hd]⟩
def Ix(f:HOk P w H h)(j:K.In h)(q:SqT K H a xs):∃(b:List Value) (o:Obj) (n:Nat),Vals xs b/\h.get? a=some o/\o.cls= .type "tuple"/\o.data= .seq b.toArray n:=by
 rcases q with q|⟨o,b,n,e,c,d,_,i⟩;·obtain⟨_,b,i,o,e,c,n,d⟩:=(show ObjOk P w H h a (.tup xs)from q.ok f);exact⟨b,o,n,i,e,c,d⟩
 exact⟨b.toList,o,n,i,j _ _ e,c,by simp [d]⟩
mutual
def Dw.reads(a:HOk P w H h)(e:K.In h):∀(d:WData) (v:V) (u:Value),Dw K H v d->RelV v u->∃as,ReadsW R cl h u d as
 | .none,_,_,x,r=>by cases x;cases r;exact⟨_,ReadsW.none⟩
 | .bool b,_,_,x,r=>by cases x;cases r;exact⟨_,ReadsW.bool b⟩
 | .int i,_,_,x,r=>by cases x;obtain⟨t,rfl⟩:=r;exact⟨_,ReadsW.int i t⟩
 | .str s,_,_,x,r=>by cases x;obtain⟨t,rfl⟩:=r;exact⟨_,ReadsW.str s t⟩
 | .bytes b,_,_,x,r=>by cases x;obtain⟨t,rfl⟩:=r;exact⟨_,ReadsW.bytes _ t⟩
 | .list ds,_,_,x,r=>by
  cases x with
  |lst hs ha=>
   cases r;obtain⟨c,o,n,m,k,f,j⟩:=Iw a e hs;obtain⟨as,l⟩:=Dw.readsAll a e ds _ c ha m;exact⟨_,ReadsW.list k f j l⟩
 | .tuple ds,_,_,x,r=>by
  cases x with
  |tup hs ha=>
   cases r;obtain⟨c,o,n,m,k,f,j⟩:=Ix a e hs;obtain⟨as,l⟩:=Dw.readsAll a e ds _ c ha m;exact⟨_,ReadsW.tuple k f j l⟩
 | .float _,_,_,x,_=>by cases x
 | .dict _,_,_,x,_=>by cases x
 | .bytearray _,_,_,x,_=>by cases x
 | .set _,_,_,x,_=>by cases x
 | .frozenset _,_,_,x,_=>by cases x
 | .obj _ _,_,_,x,_=>by cases x
def Dw.readsAll(a:HOk P w H h)(b:K.In h):∀(ds:List WData) (vs:List V) (us:List Value),mO K H vs ds->Vals vs us->∃as,ReadsAllW R cl h us ds as
 | [],_,_,x,r=>by cases x;cases r;exact⟨_,ReadsAllW.nil⟩
 |d::ds,_,_,x,r=>by
  cases x with
  |cons h1 h2=>
   cases r with
   |cons r1 r2=>
    obtain⟨as,c⟩:=Dw.reads a b d _ _ h1 r1;obtain⟨bs,e⟩:=Dw.readsAll a b ds _ _ h2 r2;exact⟨_,ReadsAllW.cons c e⟩
end
end
mutual
def kZ:WData->Bool
 | .none=>true
 | .bool _=>true
 | .int _=>true
 | .str _=>true
 | .bytes _=>true
 | .list xs=>mP xs
 | .tuple xs=>mP xs
 |_=>false
def mP:List WData->Bool
 | []=>true
 |x::r=>kZ x&&mP r
end
def QN{f:α->WData}(h:∀a,kZ (f a)=true):∀l:List α,mP (l.map f)=true
 | []=>rfl
 |x::r=>by
  show(kZ (f x)&&mP (r.map f))=true;rw[h x,QN h r]<;>rfl
def rL:∀(c:Codec) (a:c.denote),kZ (c.enc a)=true
 | .unit,_=>rfl
 | .bool,_=>rfl
 | .int _ _,_=>rfl
 | .nat _ _,_=>rfl
 | .u8,_=>rfl
 | .bytes _ _,_=>rfl
 | .text _ _ _ _,_=>rfl
 | .list _ _ c,a=>QN (λx=>rL c x) a
 | .pair c d,a=>by
  show(kZ (c.enc a.1)&&(kZ (d.enc a.2)&&true))=true;rw[rL c a.1,rL d a.2]<;>rfl
 | .triple c d e,a=>by
  show(kZ (c.enc a.1)&&(kZ (d.enc a.2.1)&&(kZ (e.enc a.2.2)&&true)))=true;rw[rL c a.1,rL d a.2.1,rL e a.2.2]<;>rfl
 | .option c,none=>rfl
 | .option c,some x=>rL c x
def QO:∀(b:List Codec) (a:Codec.denoteAll b),mP (Codec.encAll b a)=true
 | [],_=>rfl
 |c::b,a=>by
  show(kZ (c.enc a.1)&&mP (Codec.encAll b a.2))=true;rw[rL c a.1,QO b a.2]<;>rfl
def HS:∀{xs:List WData} {d:WData},d∈xs->d.weight<=WData.weightAll xs
 | [],d,h=>absurd h (by simp)
 |x::r,d,h=>by
  show d.weight<=x.weight+1+WData.weightAll r;rcases al_18.mp h with e|m
  ·rw[e];lia
  have z:=HS m;lia
def jF:Value->V
 | .none=> .non
 | .bool b=> .bl b
 | .int i _=> .int i
 | .str x _=> .str x
 | .bytes b _=> .byt b
 | .ref a=> .ref a
 |_=> .non
def OkU(A:List Addr):Value->Prop
 | .none=>True
 | .bool _=>True
 | .int _ _=>True
 | .str _ _=>True
 | .bytes _ _=>True
 | .ref a=>a∈A
 |_=>False
def OkU.mono(h:∀a∈A,a∈B):∀{u:Value},OkU A u->OkU B u:=λ{u} x=>by cases u with|ref a=>exact h a x|none=>trivial|bool b=>trivial|int i t=>trivial|str s t=>trivial|bytes b t=>trivial|_=>exact False.elim x
def Iy(x:OkU A u):RelV (jF u) u:=by cases u with|ref a=>rfl|none=>rfl|bool b=>rfl|int i t=>exact⟨t,Z⟩|str s t=>exact⟨t,Z⟩|bytes b t=>exact⟨t,Z⟩|_=>exact False.elim x
def vO:∀{vs:List Value},(∀u∈vs,OkU A u)->Vals (vs.map jF) vs
 | [],_=> .nil
 |u::r,h=> .cons (Iy (h u (cF ..))) (vO λx a=>h x (cA _ a))
def ArgOb(h:Heap)(A:List Addr)(a:Addr):Prop:=∃vs:List Value,vs.length<=sizeLine/\(∀u∈vs,OkU A u)/\
 (h.get? a=some {cls:= .type "list",data:= .seq vs.toArray}\/h.get? a=some {cls:= .type "tuple",data:= .seq vs.toArray})
def ArgOb.mono(k:∀a∈A,a∈B)(x:ArgOb h A a):ArgOb h B a:=by obtain⟨vs,b,c,d⟩:=x;exact⟨vs,b,λu e=>(c u e).mono k,d⟩
def BU:∀{vs:List Value} {ds:List WData},WellAll P h vs ds->vs.length=ds.length
 |_,_,.nil=>rfl
 |_,_,.cons _ b=>by
  show _+1=_+1;rw[BU b]
def QP(x:Well P h v (.list ds)):∃(a:Addr) (vs:List Value),v= .ref a/\h.get? a=some {cls:= .type "list",data:= .seq vs.toArray}/\WellAll P h vs ds:=by cases x with|list ho hall=>exact⟨_,_,Z,ho,hall⟩
def QQ(x:Well P h v (.tuple ds)):∃(a:Addr) (vs:List Value),v= .ref a/\h.get? a=some {cls:= .type "tuple",data:= .seq vs.toArray}/\WellAll P h vs ds:=by cases x with|tuple ho hall=>exact⟨_,_,Z,ho,hall⟩
def QR(x:WellAll P h us (d::ds)):∃(v:Value) (vs:List Value),us=v::vs/\Well P h v d/\WellAll P h vs ds:=by cases x with|cons a b=>exact⟨_,_,Z,a,b⟩
def QS(h:n<=1048576):n<=sizeLine:=aZ h (by decide)
section
mutual
def Iz:∀(d:WData) (v:Value),Well P h v d->kZ d=true->d.weight<=1048576->∃A:List Addr,OkU A v/\∀a∈A,ArgOb h A a
 | .none,_,x,_,_=>by cases x;exact⟨[],trivial,λa m=>absurd m (by simp)⟩
 | .bool b,_,x,_,_=>by cases x;exact⟨[],trivial,λa m=>absurd m (by simp)⟩
 | .int i,_,x,_,_=>by cases x;exact⟨[],trivial,λa m=>absurd m (by simp)⟩
 | .str s,_,x,_,_=>by cases x;exact⟨[],trivial,λa m=>absurd m (by simp)⟩
 | .bytes b,_,x,_,_=>by cases x;exact⟨[],trivial,λa m=>absurd m (by simp)⟩
 | .list ds,_,x,p,z=>by
  obtain⟨a,vs,rfl,q,c⟩:=QP x;have j:WData.weightAll ds<=1048576:=z;obtain⟨A,l,n⟩:=BV ds _ c p λd o=>aZ (HS o) j;have k:∀b∈A,b∈a::A:=λb f=>cA _ f;refine⟨a::A,cF ..,λb f=> ?_⟩;rcases al_18.mp f with e|m
  ·rw[e];exact⟨vs,QS (by rw[BU c];exact aZ (PySem.W.length_le_weightAllW ds) j),λu r=>(l u r).mono k,.inl q⟩
  exact(n b m).mono k
 | .tuple ds,_,x,p,z=>by
  obtain⟨a,vs,rfl,q,c⟩:=QQ x;have j:WData.weightAll ds<=1048576:=z;obtain⟨A,l,n⟩:=BV ds _ c p λd o=>aZ (HS o) j;have k:∀b∈A,b∈a::A:=λb f=>cA _ f;refine⟨a::A,cF ..,λb f=> ?_⟩;rcases al_18.mp f with e|m
  ·rw[e];exact⟨vs,QS (by rw[BU c];exact aZ (PySem.W.length_le_weightAllW ds) j),λu r=>(l u r).mono k,.inr q⟩
  exact(n b m).mono k
 | .float _,_,_,p,_=>Bool.noConfusion (show false=true from p)
 | .dict _,_,_,p,_=>Bool.noConfusion (show false=true from p)
 | .bytearray _,_,_,p,_=>Bool.noConfusion (show false=true from p)
 | .set _,_,_,p,_=>Bool.noConfusion (show false=true from p)
 | .frozenset _,_,_,p,_=>Bool.noConfusion (show false=true from p)
 | .obj _ _,_,_,p,_=>Bool.noConfusion (show false=true from p)
def BV:∀(ds:List WData) (vs:List Value),WellAll P h vs ds->mP ds=true->(∀d∈ds,d.weight<=1048576)->∃A:List Addr,(∀u∈vs,OkU A u)/\∀a∈A,ArgOb h A a
 | [],_,x,_,_=>by cases x;exact⟨[],λu m=>absurd m (by simp),λa m=>absurd m (by simp)⟩
 |d::ds,_,x,p,z=>by
  obtain⟨v,vs,rfl,s,w⟩:=QR x;have q:kZ d=true/\mP ds=true:=Bool.and_eq_true_iff.mp p;obtain⟨A,j,k⟩:=Iz d v s q.1 (z d (cF ..));obtain⟨B,l,n⟩:=BV ds vs w q.2 λe o=>z e (cA _ o);have f:∀b∈A,b∈A++B:=λb c=>al_51.mpr (.inl c);have i:∀b∈B,b∈A++B:=λb c=>al_51.mpr (.inr c);refine⟨A++B,λu r=> ?_,λb c=> ?_⟩
  ·rcases al_18.mp r with e|m;·rw[e];exact j.mono f
   exact(l u m).mono i
  rcases al_51.mp c with m|m;·exact(k b m).mono f
  exact(n b m).mono i
end
end
def BW(o:Obj):Option HO:=match o.data with| .seq vs _=>if(o.cls==Value.type "list")=true then some (.frz o (.lst (vs.toList.map jF)))else some (.frz o (.tup (vs.toList.map jF)))|_=>none
def iL(K:PySem.W.Frag)(h:Heap)(A:List Addr):Hp:=λb=>if b∈A then(if(K.lookup b).isNone=true then(h.get? b).bind BW else none)else none
def yA(H:Hp):Prop:=∀b,H b=none\/∃o u,H b=some (.frz o u)
def QT(vs:List Value):BW {cls:= .type "list",data:= .seq vs.toArray}=some (.frz {cls:= .type "list",data:= .seq vs.toArray} (.lst (vs.map jF))):=by
 show(if(Value.type "list"==Value.type "list")=true then some (HO.frz {cls:= .type "list",data:= .seq vs.toArray} (.lst (vs.toArray.toList.map jF)))else some (HO.frz {cls:= .type "list",data:= .seq vs.toArray} (.tup (vs.toArray.toList.map jF))))=_;rw[aB (qY _)]
def QU(vs:List Value):BW {cls:= .type "tuple",data:= .seq vs.toArray}=some (.frz {cls:= .type "tuple",data:= .seq vs.toArray} (.tup (vs.map jF))):=by
 show(if(Value.type "tuple"==Value.type "list")=true then some (HO.frz {cls:= .type "tuple",data:= .seq vs.toArray} (.lst (vs.toArray.toList.map jF)))else some (HO.frz {cls:= .type "tuple",data:= .seq vs.toArray} (.tup (vs.toArray.toList.map jF))))=_;rw[aA (by decide)]
section
variable{P:Program}{w:World}{K:PySem.W.Frag}{h:Heap}{A:List Addr}
def BX(a:b∈A)(c:K.lookup b=none)(e:h.get? b=some o):iL K h A b=BW o:=by unfold iL;rw[aB a,c,aB (show(none:Option Obj).isNone=true from rfl),e]<;>rfl
def Ja(q:iL K h A b=some u):b∈A/\K.lookup b=none:=by
 unfold iL at q;by_cases a:b∈A
 ·rw[aB a]at q;cases c:K.lookup b with
  |none=>exact⟨a,Z⟩
  |some o=>
   rw[c,aA (by simp)]at q;cases q
 rw[aA a]at q;cases q
def BY(f:∀a∈A,ArgOb h A a)(q:iL K h A b=some u):K.lookup b=none/\∃vs:List Value,vs.length<=sizeLine/\(∀u∈vs,OkU A u)/\
  ((h.get? b=some { cls := .type "list",data := .seq vs.toArray }/\u = .frz { cls := .type "list",data := .seq vs.toArray } (.lst (vs.map jF))) \/
   (h.get? b=some {cls:= .type "tuple",data:= .seq vs.toArray}/\u= .frz {cls:= .type "tuple",data:= .seq vs.toArray} (.tup (vs.map jF)))):=by
 obtain⟨c,d⟩:=Ja q;obtain⟨vs,i,j,k⟩:=f b c;refine⟨d,vs,i,j,?_⟩;rcases k with e|e
 ·rw[BX c d e,QT]at q;exact .inl ⟨e,(cV q).symm⟩
 rw[BX c d e,QU]at q;exact .inr ⟨e,(cV q).symm⟩
def Jb(c:∀a∈A,ArgOb h A a):yA (iL K h A):=λb=>by
 cases q:iL K h A b with
 |none=>exact .inl rfl
 |some u=>
  obtain⟨_,vs,_,_,⟨_,e⟩|⟨_,e⟩⟩:=BY c q
  ·exact .inr ⟨_,_,by rw[e]⟩
  exact .inr ⟨_,_,by rw[e]⟩
def Jc(f:∀a∈A,ArgOb h A a):HOk P w (iL K h A) h:=λb u q=>by
 obtain⟨_,vs,c,d,⟨e,rfl⟩|⟨e,rfl⟩⟩:=BY f q
 ·exact⟨e,by rw[aO];exact c,vs,_,vO d,e⟩
 exact⟨e,by rw[aO];exact c,vs,vO d,_,e,Z,_,Z⟩
def BZ{vs us:List Value}(e:(some {cls:=c,data:= .seq vs.toArray}:Option Obj)=some {cls:=a,data:= .seq us.toArray}):c=a/\vs=us:=by
 have b:=cV e;have d:c=a:=bS Obj.cls b;have f:Data.seq vs.toArray=Data.seq us.toArray:=bS Obj.data b;injection f with h
 refine⟨d,?_⟩;have i:=bS Array.toList h
 simpa using i
def Jd(i:K.In h)(j:∀a∈A,ArgOb h A a){vs:List Value}(f:a∈A)(e:h.get? a=some {cls:= .type "list",data:= .seq vs.toArray}):(∀u∈vs,OkU A u)/\SqL K (iL K h A) a (vs.map jF):=by
 obtain⟨us,k,d,l⟩:=j a f;have m:us=vs:=by
  rcases l with q|q;·rw[e]at q;exact(BZ q).2.symm
  rw[e]at q;exact absurd (Value.type.inj (BZ q).1) (by decide)
 subst m;refine⟨d,?_⟩;cases b:K.lookup a with
 |none=>exact .inl (.inr ⟨_,by rw[BX f b e,QT]⟩)
 |some o=>
  have c:=i a o b;rw[e]at c;obtain rfl:=cV c;exact .inr ⟨_,us.toArray,_,b,Z,Z,Z,by rw[dL];exact k,by simpa using vO d⟩
def Je(i:K.In h)(j:∀a∈A,ArgOb h A a){vs:List Value}(f:a∈A)(e:h.get? a=some {cls:= .type "tuple",data:= .seq vs.toArray}):(∀u∈vs,OkU A u)/\SqT K (iL K h A) a (vs.map jF):=by
 obtain⟨us,k,d,l⟩:=j a f;have m:us=vs:=by
  rcases l with q|q;·rw[e]at q;exact absurd (Value.type.inj (BZ q).1) (by decide)
  rw[e]at q;exact(BZ q).2.symm
 subst m;refine⟨d,?_⟩;cases b:K.lookup a with
 |none=>exact .inl (.inr ⟨_,by rw[BX f b e,QU]⟩)
 |some o=>
  have c:=i a o b;rw[e]at c;obtain rfl:=cV c;exact .inr ⟨_,us.toArray,_,b,Z,Z,by rw[dL];exact k,by simpa using vO d⟩
mutual
def Jf(e:K.In h)(f:∀a∈A,ArgOb h A a):∀(d:WData) (v:Value),Well m h v d->kZ d=true->OkU A v->Dw K (iL K h A) (jF v) d
 | .none,_,x,_,_=>by cases x;exact .non
 | .bool b,_,x,_,_=>by cases x;exact .bl b
 | .int i,_,x,_,_=>by cases x;exact .int i
 | .str s,_,x,_,_=>by cases x;exact .str s
 | .bytes b,_,x,_,_=>by cases x;have z:=Dw.byt (K:=K) (H:=iL K h A) b.toArray;exact z
 | .list ds,_,x,p,hu=>by obtain⟨a,vs,rfl,k,c⟩:=QP x;obtain⟨j,l⟩:=Jd e f hu k;exact .lst l (CB e f ds _ c p j)
 | .tuple ds,_,x,p,hu=>by obtain⟨a,vs,rfl,k,c⟩:=QQ x;obtain⟨j,l⟩:=Je e f hu k;exact .tup l (CB e f ds _ c p j)
 | .float _,_,_,p,_=>Bool.noConfusion (show false=true from p)
 | .dict _,_,_,p,_=>Bool.noConfusion (show false=true from p)
 | .bytearray _,_,_,p,_=>Bool.noConfusion (show false=true from p)
 | .set _,_,_,p,_=>Bool.noConfusion (show false=true from p)
 | .frozenset _,_,_,p,_=>Bool.noConfusion (show false=true from p)
 | .obj _ _,_,_,p,_=>Bool.noConfusion (show false=true from p)
def CB(b:K.In h)(c:∀a∈A,ArgOb h A a):∀(ds:List WData) (vs:List Value),WellAll e h vs ds->mP ds=true->(∀u∈vs,OkU A u)->mO K (iL K h A) (vs.map jF) ds
 | [],_,x,_,_=>by cases x;exact .nil
 |d::ds,_,x,p,hu=>by obtain⟨v,vs,rfl,f,i⟩:=QR x;have q:kZ d=true/\mP ds=true:=Bool.and_eq_true_iff.mp p;exact .cons (Jf b c d v f q.1 (hu _ (cF ..))) (CB b c ds vs i q.2 λu m=>hu u (cA _ m))
end
end
def Jg{P:Program}{w:World}{K:PySem.W.Frag}{O mb:Str->Option Value}{CX:lQ}{k:Nat}{fa:Addr}{fd:FuncData}{ps:List Str}{sp:Sp}{a:Shared}{c:List Value}{ds:List WData}{R:PySem.W.WRecords}{cl:Str->Option Addr}{d0:WData}
  (T:K.In a.heap) (M:a.heap.Ns mainGlobals O) (hb:a.heap.Ns builtinsNs mb) (h0:∀x:Str,x≠"__name__"->mb x=bootBuiltins x) (L:a.heap.NoLimit) (hg:a.gens= #[])
  (y:WellAll w.params a.heap c ds) (N:mP ds=true) (h5:∀d∈ds,d.weight<=1048576) (hr:Room k callerA)
  (F:∀base:Heap,K.In base->base.Ns mainGlobals O->kX P w K O base CX k fa fd ps sp) (l:∀(s:Shared) (us:List Value),us.length=ps.length->BindsTo s fd ⟨us,[]⟩ (ps.zip us)) (J:ds.length=ps.length)
  (h4:∀(H:Hp) (xs:List V),yA H->mO K H xs ds->sp xs H (λv H'=>Dw K H' v d0) λ_ _ _=>False)
  (X:∀H e h,CX [] H a (λ_ _ _=>False) e h->False):
  codeAny (model P w) callerA (.call (.ref fa) ⟨c,[]⟩) (λr h=>∃u as,r= .ok (.ret u)/\ReadsW R cl h.heap u d0 as/\OldK a.heap h.heap/\h.os=a.os/\AllBare h.gens) a:=by
 obtain⟨A,ho,D⟩:=BV ds c y N h5;have Y:yA (iL K a.heap A):=Jb D;have p:HOk P w (iL K a.heap A) a.heap:=Jc D;have hS:=CB T D ds c y N ho;have hV:=vO ho;have hK:∀b u,iL K a.heap A b=some u->K.lookup b=none:=λb u q=>(BY D q).1;have Q:∀{b:Addr} {o:Obj} {C:Array DictEntry} {B:Nat},a.heap.get? b=some o->o.data= .dict C B->iL K a.heap A b=none:=λ{b o C B} e d=>by
  cases q:iL K a.heap A b with
  |none=>rfl
  |some u=>
   obtain⟨_,vs,_,_,⟨G,_⟩|⟨G,_⟩⟩:=BY D q
   ·rw[G]at e;cases e;have d':Data.seq vs.toArray _=Data.dict C B:=d;cases d'
   rw[G]at e;cases e;have d':Data.seq vs.toArray _=Data.dict C B:=d;cases d'
 generalize iL K a.heap A=H at Y p hS hK Q;have f:∀{b:Addr} {o:Obj},a.heap.get? b=some o->H b=none->(pT a.heap H).get? b=some o:=λe n=>Dj e n;have i:∀{b:Addr} {m:Str->Option Value},a.heap.Ns b m->(pT a.heap H).Ns b m:=λ{b m} ⟨o,C,B,e,d,r⟩=>⟨o,C,B,f e (Q e d),d,r⟩;have nK:∀b o,K.lookup b=some o->H b=none:=λb o e=>by
  cases q:H b with
  |none=>rfl
  |some u=>
   rw[hK b u q]at e;cases e
 have I:K.In (pT a.heap H):=λb o e=>f (T b o e) (nK b o e);have hM:AW K O (pT a.heap H):=⟨I,i M,⟨mb,i hb,h0⟩,let⟨mc,h1,h2⟩:=L;⟨mc,i h1,h2⟩⟩;have e0:Env0 P w K O (pT a.heap H) callerA [] a H:=⟨Z,hM,λb o e=>Dk e,uO (Di _ _),trivial,λb hb=>absurd (show b∈([]:List Addr)from hb) (by simp),p,.of_eq hg⟩;have hl:c.length=ps.length:=by rw[BU y];exact J
 refine sL ((F _ I (i M)).run callerA [] a H ⟨c,[]⟩ c (c.map jF) _ _ hr e0 (l a c hl) hV (h4 H _ Y hS)) λr h x=> ?_;cases r with
 |error e=>exact(X H e h x).elim
 |ok fl=>
  cases fl with
  |next=>exact False.elim x
  |brk=>exact False.elim x
  |cont=>exact False.elim x
  |ret u=>
   obtain⟨v,H',os,E,un,j,r',q⟩:=x;have kept:∀b o,a.heap.get? b=some o->h.heap.get? b=some o:=λb o e=>by
    cases q2:H b with
    |none=>exact un.keep b o e q2 (by intro z;exact absurd (show b∈([]:List Addr)from z) (by simp)) (by simp)
    |some u2=>
     rcases Y b with z|⟨ob,u3,z⟩;·rw[q2]at z;cases z
     have z2:=un.frzs b ob _ z;obtain⟨e1,_⟩:=p b _ z;obtain⟨G,_⟩:=j b _ z2;rw[e]at e1;cases e1;exact G
   have U:K.In h.heap:=λb o e=>kept b o (T b o e);obtain⟨as,h3⟩:=Dw.reads (R:=R) (cl:=cl) j U d0 v u q r';exact⟨u,as,Z,h3,OldK.of_keep kept,os,E⟩
def Jh(h:WData.layableAll ds=true):∀d∈ds,d.weight<=1048576:=λd a=>
 (PySem.W.layableW_iff.mp (al_53.mp h d a)).2.2
def QV:∀(b:List Codec) (a:Codec.denoteAll b),(Codec.encAll b a).length=b.length
 | [],_=>rfl
 |c::b,a=>by
  show(Codec.encAll b a.2).length+1=b.length+1;rw[QV b a.2]
def Ji{r:OpenSpec}{P:(Str->Option Value)->Heap->Prop}{B:World->Heap->Prop}{d:DefRec}{K:Params->PySem.W.Frag}{CX:World->lQ}{ps:List Str}{sp:World->Sp}
  (c:r.wellSaid=true) (h5:d.params.defaults=[]) (m:r.args.length=ps.length) (hr:Room k callerA)
  (hY:∀(w:World) (h:Heap),B w h->(K w.params).In h)
  (F:∀ (w:World) (j:Str->Option Value) (y:Addr) (h:Heap),B w h->(K w.params).In h->h.Ns mainGlobals j->j d.name=some (.ref y) ->
   ∃D:FuncData,(∀(s:Shared) (us:List Value),us.length=ps.length->BindsTo s D ⟨us,[]⟩ (ps.zip us))/\
    ∀base:Heap,(K w.params).In base->base.Ns mainGlobals j->kX r.prog w (K w.params) j base (CX w) k y D ps (sp w))
  (J:∀ (w:World) (H:Hp) (xs:List V) (a:Codec.denoteAll r.args),yA H->Codec.withinAll r.args a=true->Codec.app r.args r.asked a=true->mO (K w.params) H xs (Codec.encAll r.args a) ->
   sp w xs H (λv H'=>Dw (K w.params) H' v (r.ret.enc (Codec.app r.args r.f a))) λ_ _ _=>False)
  (E:∀(w:World) (H:Hp) (s:Shared) (e:Value) (A:Shared),CX w [] H s (λ_ _ _=>False) e A->False):
  PySem.W.WalkOS q i P B r d [] (λf vs=>PySem.call f vs):=by
 intro w M x j mb G Y y o pm cd Q dV kV ho hd h0 hD I hg args O as n l h7 L h6;obtain⟨a,U,X⟩:=PySem.W.os_pre_some n;obtain⟨e3,p⟩:=Codec.encAll_of_decAll r.args args a U;subst e3;have N:=hY w _ Y;obtain⟨D,hb,hF⟩:=F w j y _ Y N G.T.g I;refine PySem.W.enter_call (sL (Jg (R:=[]) (cl:=classAt M.heap) (d0:=r.ret.enc (Codec.app r.args r.f a)) N G.T.g G.T.b G.T.builtins G.T.nolimit hg L (QO _ _) (Jh l) hr hF hb (by rw[QV]; exact m)
  (λH xs hO hS=>J w H xs a hO p X hS) λH e A=>E w H x e A) λr' A hq=> ?_)
 obtain⟨u,C,rfl,h1,h2,h3,h4⟩:=hq;exact⟨.inl ⟨u,_,C,Z,λ_=>rfl,h1,(OpenSpec.post_iff c p _ _).mpr Z,λz=>Bool.noConfusion (show false=true from z)⟩,h2,h3,h4⟩
def Jj{r:OpenSpec}{y:(Str->Option Value)->Heap->Prop}{l:World->Heap->Prop}{d:DefRec}{K:Params->PySem.W.Frag}{ps:List Str}{sp:PySem.W.Frag->Sp}
  (b:r.wellSaid=true) (n:d.params.defaults=[]) (i:r.args.length=ps.length) (E:Room k callerA)
  (D:∀(w:World) (h:Heap),l w h->(K w.params).In h)
  (F:∀ (w:World) (j:Str->Option Value) (u:Addr) (h:Heap),l w h->(K w.params).In h->h.Ns mainGlobals j->j d.name=some (.ref u) ->
   ∃x:FuncData,(∀(s:Shared) (us:List Value),us.length=ps.length->BindsTo s x ⟨us,[]⟩ (ps.zip us))/\
    ∀base:Heap,(K w.params).In base->base.Ns mainGlobals j->kX r.prog w (K w.params) j base CX k u x ps (sp (K w.params)))
  (o:∀ (K:PySem.W.Frag) (H:Hp) (xs:List V) (a:Codec.denoteAll r.args),yA H->Codec.withinAll r.args a=true->Codec.app r.args r.asked a=true->mO K H xs (Codec.encAll r.args a) ->
   sp K xs H (λv H'=>Dw K H' v (r.ret.enc (Codec.app r.args r.f a))) λ_ _ _=>False)
  (m:∀(H:Hp) (s:Shared) (e:Value) (p:Shared),CX [] H s (λ_ _ _=>False) e p->False):
  PySem.W.WalkOS q c y l r d [] (λf vs=>PySem.call f vs):=
 Ji (K:=K) (CX:=λ_=>CX) (sp:=λw=>sp (K w.params)) b n i E D F (λw H xs a z A B C=>o (K w.params) H xs a z A B C) λ_ H s e p=>m H s e p
end L2
end
set_option maxHeartbeats 4000000
namespace Sg
open PySem PySem.Spec PyProof.Rows L2
open PySem.W (Codec)
def bK{c:Bool}{A B:Prop}(e:c=true)(h:A):if c=true then A else B:=by rw[aB e];exact h
def bG{c:Bool}{A B:Prop}(e:c=false)(h:B):if c=true then A else B:=by rw[aA (al_12.mp e)];exact h
structure bO(x:Str)(st:Stmt)(K:PySem.W.Frag)(mg:Str->Option Value) where
 f:Addr
 fd:FuncData
 F:Fun K x x st f fd
 g:mg x=some (.ref f)
structure fN(m qual:Str)(st:Stmt)(K:PySem.W.Frag)(C:Addr) where
 f:Addr
 fd:FuncData
 F:Fun K m qual st f fd
 mt:BC K C m f
structure nU(x qual:Str)(st:Stmt)(K:PySem.W.Frag)(mg:Str->Option Value) where
 C:Addr
 f:Addr
 fd:FuncData
 F:Fun K "__init__" qual st f fd
 M:Mk K C f
 cl:Cls K C
 g:mg x=some (.ref C)
def Jk(c:Gl X x)(d:∃t,X.mg x=some (.int i t))(b:(x==("__debug__":Str))=false:=by decide):PE X (.Name x a) (tC (.int i)):=by obtain⟨t,h⟩:=d;exact sW c h ⟨t,Z⟩ b
def Jl(c:Gl X x)(d:∃t,X.mg x=some (.str i t))(b:(x==("__debug__":Str))=false:=by decide):PE X (.Name x a) (tC (.str i)):=by obtain⟨t,h⟩:=d;exact sW c h ⟨t,Z⟩ b
def Keep(c:Addr)(H H':Hp):Prop:=∀b o,H b=some o->b≠c->H' b=some o
def Keep.refl(c:Addr)(H:Hp):Keep c H H:=λ_ _ h _=>h
def Keep.trans(a:Keep c H d)(b:Keep c d e):Keep c H e:=λx o h n=>b x o (a x o h n) n
def Keep.of(s:Same H H'):Keep c H H':=λx o h _=>s x o h
def Same.new(h:H p=none):Same H (aE H p o):=λb u e=>by rw[bB (cH e h)];exact e
def Keep.new(a:Keep c H b)(h:b p=none):Keep c H (aE b p o):=a.trans (.of (Same.new h))
def Keep.put(a:Keep c H d)(h:l=c\/H l=none):Keep c H (aE d l o):=λb u e n=>by
 rcases h with h|h;·rw[bB (by rw[h];exact n)];exact a b u e n
 rw[bB (cH e h)];exact a b u e n
def bv(bs:Gh.Bytes):List V:=bs.map λc=>V.int ((c.toNat:Nat):Int)
def CC(bs:Gh.Bytes):(bv bs).length=bs.length:=aO _
def Jm{bs:Gh.Bytes}{i:Nat}{c:UInt8}(h:bs[i]? =some c):(bv bs)[i]? =some (V.int ((c.toNat:Nat):Int)):=by unfold bv;rw[fL,h];rfl
def cf(a:Addr)(i:Nat):List (Str×V):=aL "at" (.int (i:Int)) (aL "data" (.ref a) [])
def Jn:¬("data":Str)="at":=by decide +kernel
def HU:¬("kind":Str)="at":=by decide +kernel
def HV:¬("kind":Str)="data":=by decide +kernel
def CD(a:Addr)(i:Nat):(cf a i).lookup ("at":Str)=some (.int (i:Int)):=by unfold cf;rw[bV,aB rfl]
def QW(a:Addr)(i:Nat):(cf a i).lookup ("data":Str)=some (.ref a):=by unfold cf;rw[bV,aA Jn,bV,aB rfl]
def bW(a:Addr)(i:Nat){m:Str}(b:¬m="at")(c:¬m="data"):(cf a i).lookup m=none:=by unfold cf;rw[bV,aA b,bV,aA c];rfl
def QX(f:Str)(v u:V):∀l:List (Str×V),aL f v (aL f u l)=aL f v l
 | []=>by show(if f=f then [(f,v)]else _)=[(f,v)];rw[aB rfl]
 |(g,x)::r=>by
  by_cases e:g=f;·have a:aL f u ((g,x)::r)=(g,u)::r:=aB e;have b:aL f v ((g,u)::r)=(g,v)::r:=aB e;have c:aL f v ((g,x)::r)=(g,v)::r:=aB e;rw[a,b,c]
  have a:aL f u ((g,x)::r)=(g,x)::aL f u r:=aA e;have b:aL f v ((g,x)::aL f u r)=(g,x)::aL f v (aL f u r):=aA e;have c:aL f v ((g,x)::r)=(g,x)::aL f v r:=aA e;rw[a,b,c,QX f v u r]
def QY(a:Addr)(i j:Nat):aL "at" (.int (j:Int)) (cf a i)=cf a j:=QX _ _ _ _
def QZ(a:Addr)(i:Nat):(cf a i).length<1000:=by
 refine dG (kC _ _ _) ?_;refine dG (AH (kC _ _ _) 1) ?_;decide
inductive Jo(C c a:Addr)(bs:Gh.Bytes)(H:Hp)(r:Gh.Bytes):Prop
 |mk (dx:Addr) (i:Nat) (_:H c=some (.ins C dx (cf a i))) (_:i<=bs.length) (_:bs.drop i=r)
structure Cur(K:PySem.W.Frag)(C c a:Addr)(bs:Gh.Bytes)(H:Hp)(r:Gh.Bytes):Prop where
 seq:SqL K H a (bv bs)
 ex:Jo C c a bs H r
def Cur.is{K:PySem.W.Frag}{C c a:Addr}{bs:Gh.Bytes}{H:Hp}{r:Gh.Bytes}(x:Cur K C c a bs H r):∃b i,H c=some (.ins C b (cf a i)):=let⟨b,i,h,_,_⟩:=x.ex;⟨b,i,h⟩
def Cur.has{K:PySem.W.Frag}{C c a:Addr}{bs:Gh.Bytes}{H:Hp}{r:Gh.Bytes}(x:Cur K C c a bs H r):∃o,H c=some o:=let⟨_,_,h,_,_⟩:=x.ex;⟨_,h⟩
def SqL.keep{K:PySem.W.Frag}{c a:Addr}{xs:List V}{H H':Hp}{C d:Addr}{fs:List (Str×V)}(k:Keep c H H')(b:H c=some (.ins C d fs))(h:SqL K H a xs):SqL K H' a xs:=by
 rcases h with(h|⟨o,h⟩)|h;·exact .inl (.inl (k _ _ h (bM h b (by intro z;cases z))))
 ·exact .inl (.inr ⟨o,k _ _ h (bM h b (by intro z;cases z))⟩)
 exact .inr h
def Cur.same{K:PySem.W.Frag}{C c a:Addr}{bs:Gh.Bytes}{H H':Hp}{r:Gh.Bytes}(x:Cur K C c a bs H r)(s:Same H H'):Cur K C c a bs H' r:=by obtain⟨b,i,h,d,e⟩:=x.ex;exact⟨s.seq x.seq,b,i,s _ _ h,d,e⟩
def HW{l v:List α}(h:l.drop i=c::v):l[i]? =some c/\i+1<=l.length/\l.drop (i+1)=v:=by
 have a:l[i]? =some c:=by rw[<- List.head?_drop,h];rfl
 have b:l.drop (i+1)=v:=by rw[<- wV,h];rfl
 exact⟨a,(al_19.mp a).1,b⟩
def Jp{l:List α}(h:l.drop i=[])(hi:i<=l.length):i=l.length:=by
 have:=bS List.length h;rw[AE]at this;simp at this;lia
def Cur.step{K:PySem.W.Frag}{C c a b:Addr}{bs:Gh.Bytes}{H:Hp}{i:Nat}{x:UInt8}{v:Gh.Bytes}(h:H c=some (.ins C b (cf a i)))(s:SqL K H a (bv bs))(e:bs.drop i=x::v):Cur K C c a bs (aE H c (.ins C b (cf a (i+1)))) v:=by obtain⟨j,d,f⟩:=HW e;refine⟨SqL.keep (Keep.put (Keep.refl c H) (.inl Z)) h s,b,i+1,aH,d,f⟩
def tJ(a:Hp->Addr->α->Prop)(H:Hp)(v:V):Option α->Prop
 |none=>v= .non
 |some x=>∃p,v= .ref p/\a H p x
def PairAt(H:Hp)(p:Addr)(x:UInt8×UInt8):Prop:=H p=some (.tup [.int ((x.1.toNat:Nat):Int),.int ((x.2.toNat:Nat):Int)])
def NameAt(H:Hp)(p:Addr)(n:Gh.Name):Prop:=H p=some (.tup [.int ((n.big.toNat:Nat):Int),.int ((n.small.toNat:Nat):Int),.int ((n.number:Nat):Int),.int ((n.kind.toNat:Nat):Int)])
structure All2{α:Type}(rel:Addr->α->Prop)(ps:List Addr)(xs:List α):Prop where
 len:ps.length=xs.length
 at_:∀(i:Nat) (p:Addr) (x:α),ps[i]? =some p->xs[i]? =some x->rel p x
def All2.nil:All2 a [] []:=⟨Z,λi p x h _=>by simp at h⟩
def All2.mono(h:All2 c ps xs)(m:∀p x,c p x->rel' p x):All2 rel' ps xs:=⟨h.len,λi p x a b=>m p x (h.at_ i p x a b)⟩
def All2.snoc(h:All2 c ps xs)(r:c p x):All2 c (ps++[p]) (xs++[x]):=by
 refine⟨by rw[bF,bF,h.len];rfl,λi q y a b=> ?_⟩;by_cases hi:i<ps.length;·rw[jZ hi]at a;rw[jZ (h.len▸hi)]at b;exact h.at_ i q y a b
 rw[iT (oM hi)]at a;rw[iT (by rw[<- h.len];exact oM hi)]at b;rw[h.len]at a
 match d:i-xs.length with|0=>rw[d]at a b;simp at a b;subst a b;exact r|k+1=>rw[d]at a;simp at a
inductive ListAt{α:Type}(rel:Hp->Addr->α->Prop)(H:Hp)(l:Addr)(xs:List α):Prop
 |mk (ps:List Addr) (_:H l=some (.lst (ps.map V.ref))) (_:All2 (rel H) ps xs)
def af(k:Str)(v:V)(d:Bool):List (Str×V):=aL "denied" (.bl d) (aL "what" v (aL "kind" (.str k) []))
def RA:¬("kind":Str)="what":=by decide +kernel
def Jq:¬("kind":Str)="denied":=by decide +kernel
def Jr:¬("what":Str)="denied":=by decide +kernel
def gX(k:Str)(v:V)(d:Bool):(af k v d).lookup ("kind":Str)=some (.str k):=by unfold af;rw[bV,aA Jq,bV,aA RA,bV,aB rfl]
def CH(k:Str)(v:V)(d:Bool):(af k v d).lookup ("what":Str)=some v:=by unfold af;rw[bV,aA Jr,bV,aB rfl]
def Js(k:Str)(v:V)(d:Bool):(af k v d).lookup ("denied":Str)=some (.bl d):=by unfold af;rw[bV,aB rfl]
def Jt:HO.ins c f (af k v d)≠HO.ins C b (cf a i):=by
 intro z;injection z with _ _ h
 have e:=gX k v d;rw[h,bW a i HU HV]at e;cases e
def AtomAs(a:Addr)(H:Hp)(p:Addr)(k:Str)(v:V)(d:Bool):Prop:=∃b,H p=some (.ins a b (af k v d))
def AtomAt(a:Addr)(B:Addr->Prop)(H:Hp)(p:Addr):Gh.Atom->Prop
 | .run=>AtomAs a H p "run" .non false
 | .one d .any=>AtomAs a H p "any" .non d
 | .one d (.alike n)=>∃t,AtomAs a H p "alike" (.ref t) d/\NameAt H t n
 | .one d (.class_ x y)=>∃t,AtomAs a H p "class" (.ref t) d/\PairAt H t (x,y)
 | .one d (.name n)=>∃t,AtomAs a H p "names" (.ref t) d/\B t/\ListAt NameAt H t [n]
 | .one d (.among l)=>∃t,AtomAs a H p "names" (.ref t) d/\B t/\ListAt NameAt H t l
section
def PairAt.keep(k:Keep c H H')(b:H c=some (.ins C dx (cf a i)))(h:PairAt H p x):PairAt H' p x:=k _ _ h (bM h b (by intro z;cases z))
def NameAt.keep(k:Keep c H H')(b:H c=some (.ins C dx (cf a i)))(h:NameAt H p n):NameAt H' p n:=k _ _ h (bM h b (by intro z;cases z))
def ListAt.keep(m:∀p x,b H p x->b H' p x)(k:Keep c H H')(f:H c=some (.ins C dx (cf a i)))(h:ListAt b H l xs):ListAt b H' l xs:=by obtain⟨ps,d,e⟩:=h;exact⟨ps,k _ _ d (bM d f (by intro z;cases z)),e.mono m⟩
def AtomAs.keep(k:Keep c H H')(e:H c=some (.ins C dx (cf a i)))(h:AtomAs b H p s v d):AtomAs b H' p s v d:=by obtain⟨y,h⟩:=h;exact⟨y,k _ _ h (bM h e Jt)⟩
def AtomAt.keep(k:Keep c H H')(d:H c=some (.ins C dx (cf a i))):∀{x:Gh.Atom},AtomAt e B H p x->AtomAt e B H' p x
 | .run,h=>AtomAs.keep k d h
 | .one _ .any,h=>AtomAs.keep k d h
 | .one _ (.alike _),⟨t,h1,h2⟩=>⟨t,h1.keep k d,h2.keep k d⟩
 | .one _ (.class_ _ _),⟨t,h1,h2⟩=>⟨t,h1.keep k d,h2.keep k d⟩
 | .one _ (.name _),⟨t,h1,b,h2⟩=>⟨t,h1.keep k d,b,h2.keep (λ_ _=>NameAt.keep k d) k d⟩
 | .one _ (.among _),⟨t,h1,b,h2⟩=>⟨t,h1.keep k d,b,h2.keep (λ_ _=>NameAt.keep k d) k d⟩
def Keep.free(k:Keep c H H')(a:∃o,H' c=some o)(h:H' l=none):H l=none:=by
 cases e:H l with
 |none=>rfl
 |some o=>
  by_cases n:l=c;·obtain⟨u,b⟩:=a;rw[n,b]at h;cases h
  rw[k l o e n]at h;cases h
end
section
def ListAt.same(m:∀p x,a H p x->a H' p x)(s:Same H H')(h:ListAt a H l xs):ListAt a H' l xs:=by obtain⟨ps,b,c⟩:=h;exact⟨ps,s _ _ b,c.mono m⟩
def AtomAt.same(s:Same H H'):∀{x:Gh.Atom},AtomAt a B H p x->AtomAt a B H' p x
 | .run,⟨y,h⟩=>⟨y,s _ _ h⟩
 | .one _ .any,⟨y,h⟩=>⟨y,s _ _ h⟩
 | .one _ (.alike _),⟨t,⟨y,h1⟩,h2⟩=>⟨t,⟨y,s _ _ h1⟩,s _ _ h2⟩
 | .one _ (.class_ _ _),⟨t,⟨y,h1⟩,h2⟩=>⟨t,⟨y,s _ _ h1⟩,s _ _ h2⟩
 | .one _ (.name _),⟨t,⟨y,h1⟩,b,h2⟩=>⟨t,⟨y,s _ _ h1⟩,b,h2.same (λ_ _ e=>s _ _ e) s⟩
 | .one _ (.among _),⟨t,⟨y,h1⟩,b,h2⟩=>⟨t,⟨y,s _ _ h1⟩,b,h2.same (λ_ _ e=>s _ _ e) s⟩
def AtomAt.imp(m:∀t,B t->a t):∀{x:Gh.Atom},AtomAt c B H p x->AtomAt c a H p x
 | .run,h=>h
 | .one _ .any,h=>h
 | .one _ (.alike _),h=>h
 | .one _ (.class_ _ _),h=>h
 | .one _ (.name _),⟨t,h1,b,h2⟩=>⟨t,h1,m t b,h2⟩
 | .one _ (.among _),⟨t,h1,b,h2⟩=>⟨t,h1,m t b,h2⟩
def AtomAt.put(i:H l=some (.lst xs)):∀{x:Gh.Atom},AtomAt d (λt=>t≠l) H p x->AtomAt d (λt=>t≠l) (aE H l (.lst ys)) p x:=by
 have nl:∀(b:Addr) (o:HO),H b=some o->(∀xs,o≠ .lst xs)->aE H l (.lst ys) b=some o:=λb o e z=>by rw[bB (bM e i (z _))];exact e
 have f:∀(t:Addr) (ns:List Gh.Name),t≠l->ListAt NameAt H t ns->ListAt NameAt (aE H l (.lst ys)) t ns:=λt ns n h=>by obtain⟨ps,a,c⟩:=h;exact⟨ps,by rw[bB n];exact a,c.mono λb y e=>nl b _ e (by intro xs z;cases z)⟩
 intro x h
 match x,h with
 | .run,⟨y,h⟩=>exact⟨y,nl _ _ h (by intro xs z;cases z)⟩
 | .one _ .any,⟨y,h⟩=>exact⟨y,nl _ _ h (by intro xs z;cases z)⟩
 | .one _ (.alike _),⟨t,⟨y,a⟩,c⟩=>exact⟨t,⟨y,nl _ _ a (by intro xs z;cases z)⟩,nl _ _ c (by intro xs z;cases z)⟩
 | .one _ (.class_ _ _),⟨t,⟨y,a⟩,c⟩=>exact⟨t,⟨y,nl _ _ a (by intro xs z;cases z)⟩,nl _ _ c (by intro xs z;cases z)⟩
 | .one _ (.name _),⟨t,⟨y,a⟩,b,c⟩=>exact⟨t,⟨y,nl _ _ a (by intro xs z;cases z)⟩,b,f _ _ b c⟩
 | .one _ (.among _),⟨t,⟨y,a⟩,b,c⟩=>exact⟨t,⟨y,nl _ _ a (by intro xs z;cases z)⟩,b,f _ _ b c⟩
end
def top(i:Nat):Stmt:=PySem.Challenge.pw_signsearch_s06_all_of.main.body.getD i (.Pass ⟨0,0,0,0⟩)
abbrev Ju:Stmt:=eB (top 3) 0
abbrev Jv:Stmt:=eB (top 3) 1
abbrev Jw:Stmt:=eB (top 3) 2
abbrev Jx:Stmt:=eB (top 3) 3
abbrev Jy:Stmt:=eB (top 3) 4
abbrev Jz:Stmt:=eB (top 55) 0
abbrev Ka:Stmt:=eB (top 68) 0
abbrev Kb:Stmt:=eB (top 68) 1
abbrev RB:Stmt:=eB (top 99) 0
abbrev Kc:Stmt:=eB (top 99) 1
abbrev aEN:Stmt:=eB (top 99) 2
abbrev Kd:Stmt:=eB (top 99) 3
abbrev aEO:Stmt:=eB (top 99) 4
abbrev aEP:Stmt:=eB (top 99) 5
abbrev Ke:Stmt:=eB (top 106) 0
abbrev Kg:Stmt:=eB (top 124) 0
abbrev Kh:Stmt:=eB (top 124) 1
abbrev Ki:Stmt:=eB (top 124) 2
abbrev Kj:Stmt:=eB (top 124) 3
abbrev Kk:Stmt:=eB (top 124) 4
abbrev Kl:Stmt:=eB (top 124) 5
abbrev Km:Stmt:=eB (top 124) 6
abbrev Kn:Stmt:=eB (top 124) 7
abbrev Ko:Stmt:=eB (top 124) 8
abbrev Kp:Stmt:=eB (top 150) 0
abbrev Kq:Stmt:=eB (top 160) 0
abbrev Kr:Stmt:=eB (top 160) 1
abbrev Ks:Stmt:=eB (top 160) 2
abbrev Kt:Stmt:=eB (top 160) 3
abbrev Ku:Stmt:=eB (top 160) 4
abbrev Kv:Stmt:=eB (top 160) 5
abbrev Kw:Stmt:=eB (top 160) 6
abbrev Kx:Stmt:=eB (top 160) 7
abbrev Ky:Stmt:=top 41
abbrev Kz:Stmt:=top 42
abbrev La:Stmt:=top 43
abbrev Lb:Stmt:=top 44
abbrev Lc:Stmt:=top 45
abbrev Ld:Stmt:=top 46
abbrev Le:Stmt:=top 56
abbrev Lf:Stmt:=top 57
abbrev Lg:Stmt:=top 58
abbrev Lh:Stmt:=top 59
abbrev Li:Stmt:=top 60
abbrev Lj:Stmt:=top 61
abbrev Lk:Stmt:=top 69
abbrev Ll:Stmt:=top 70
abbrev Lm:Stmt:=top 71
abbrev Ln:Stmt:=top 72
abbrev Lo:Stmt:=top 73
abbrev RC:Stmt:=top 75
abbrev RD:Stmt:=top 76
abbrev Lp:Stmt:=top 77
abbrev Lq:Stmt:=top 78
abbrev Lr:Stmt:=top 79
abbrev Ls:Stmt:=top 80
abbrev Lu:Stmt:=top 81
abbrev Lv:Stmt:=top 82
abbrev Lw:Stmt:=top 83
abbrev Lx:Stmt:=top 85
abbrev Ly:Stmt:=top 86
abbrev Lz:Stmt:=top 87
abbrev Ma:Stmt:=top 88
abbrev Mb:Stmt:=top 89
abbrev RE:Stmt:=top 90
abbrev RF:Stmt:=top 91
abbrev RG:Stmt:=top 92
abbrev Mc:Stmt:=top 93
abbrev Md:Stmt:=top 94
abbrev Me:Stmt:=top 98
abbrev Mf:Stmt:=top 107
abbrev Mg:Stmt:=top 108
abbrev Mh:Stmt:=top 109
abbrev Mi:Stmt:=top 110
abbrev Mj:Stmt:=top 111
abbrev CJ:Stmt:=top 112
abbrev Ml:Stmt:=top 113
abbrev Mm:Stmt:=top 114
abbrev Mn:Stmt:=top 115
abbrev Mo:Stmt:=top 125
abbrev Mp:Stmt:=top 126
abbrev Mq:Stmt:=top 127
abbrev Mr:Stmt:=top 128
abbrev Ms:Stmt:=top 129
abbrev Mt:Stmt:=top 130
abbrev Mu:Stmt:=top 135
abbrev Mw:Stmt:=top 136
abbrev Mx:Stmt:=top 137
abbrev My:Stmt:=top 138
abbrev Mz:Stmt:=top 151
abbrev Na:Stmt:=top 152
abbrev Nb:Stmt:=top 153
abbrev Nc:Stmt:=top 155
abbrev Nd:Stmt:=top 156
abbrev Nf:Stmt:=top 157
abbrev Ng:Stmt:=top 159
abbrev Nh:Stmt:=top 162
abbrev Ni:Stmt:=top 163
abbrev Nj:Stmt:=top 164
set_option genInjectivity false
set_option genSizeOf false
structure Txt(K:PySem.W.Frag)(mg:Str->Option Value) where
 l:nU "Cursor" "Cursor.__init__" Ju K mg
 an:fN "at_end" "Cursor.at_end" Jv K l.C
 ao:fN "peek" "Cursor.peek" Jw K l.C
 ap:fN "take" "Cursor.take" Jx K l.C
 aq:fN "take_between" "Cursor.take_between" Jy K l.C
 aa:NoAttr K l.C "data"
 B:NoAttr K l.C "at"
 c:nU "Atom" "Atom.__init__" Jz K mg
 j:NoAttr K c.C "kind"
 A:NoAttr K c.C "what"
 am:NoAttr K c.C "denied"
 d:nU "Item" "Item.__init__" Ka K mg
 aH:fN "is_place" "Item.is_place" Kb K d.C
 r:NoAttr K d.C "kind"
 U:NoAttr K d.C "what"
 x:NoAttr K d.C "quarters"
 aI:NoAttr K d.C "mirrored"
 S:NoAttr K d.C "uncertain"
 k:nU "Search" "Search.__init__" RB K mg
 aK:fN "least_end" "Search.least_end" Kc K k.C
 aJ:fN "all_finds" "Search.all_finds" Kd K k.C
 cs:NoAttr K k.C "row"
 ad:NoAttr K k.C "places"
 aL:NoAttr K k.C "along"
 y:NoAttr K k.C "fitter"
 e:nU "Sign" "Sign.__init__" Ke K mg
 p:NoAttr K e.C "name"
 q:NoAttr K e.C "shape"
 ae:NoAttr K e.C "ink"
 b:nU "Group" "Group.__init__" Kg K mg
 aA:fN "begin_part" "Group.begin_part" Kh K b.C
 aG:fN "may_end_seat" "Group.may_end_seat" Ki K b.C
 aF:fN "may_end_cell" "Group.may_end_cell" Kj K b.C
 aD:fN "go_on_with_pile" "Group.go_on_with_pile" Kk K b.C
 aE:fN "go_on_with_row" "Group.go_on_with_row" Kl K b.C
 aB:fN "go_on_with_column" "Group.go_on_with_column" Km K b.C
 aC:fN "go_on_with_nest" "Group.go_on_with_nest" Kn K b.C
 az:fN "as_unit" "Group.as_unit" Ko K b.C
 D:NoAttr K b.C "kind"
 G:NoAttr K b.C "unit"
 ac:NoAttr K b.C "columned"
 E:NoAttr K b.C "rowed"
 w:NoAttr K b.C "piled"
 m:nU "Asked" "Asked.__init__" Kp K mg
 O:NoAttr K m.C "refusal"
 Z:NoAttr K m.C "signs"
 al:NoAttr K m.C "text"
 ak:NoAttr K m.C "atoms"
 h:nU "Fitter" "Fitter.__init__" Kq K mg
 ar:fN "add_atom" "Fitter.add_atom" Kr K h.C
 ay:fN "past_runs" "Fitter.past_runs" Ks K h.C
 au:fN "first_states" "Fitter.first_states" Kt K h.C
 ax:fN "over_sign" "Fitter.over_sign" Ku K h.C
 aw:fN "over_break" "Fitter.over_break" Kv K h.C
 av:fN "is_through" "Fitter.is_through" Kw K h.C
 as:fN "atoms_of_some" "Fitter.atoms_of_some" Kx K h.C
 Q:NoAttr K h.C "runs"
 P:NoAttr K h.C "fillable"
 ab:NoAttr K h.C "atoms_of"
 R:NoAttr K h.C "through"
 cm:bO "take_small_letter" Ky K mg
 bJ:bO "read_letters" Kz K mg
 bR:bO "read_number" La K mg
 bN:bO "read_name_behind" Lb K mg
 bM:bO "read_name" Lc K mg
 aS:bO "class_of" Ld K mg
 aO:bO "atom_of" Le K mg
 bG:bO "read_dots" Lf K mg
 bQ:bO "read_names" Lg K mg
 bP:bO "read_name_or_class" Lh K mg
 bF:bO "read_atom" Li K mg
 bS:bO "read_pattern" Lj K mg
 Y:bO "lost_item" Lk K mg
 bU:bO "read_quarters" Ll K mg
 bH:bO "read_gap" Lm K mg
 bY:bO "read_sign_without_nests" Ln K mg
 bT:bO "read_piece" Lo K mg
 bu:bO "mirrored" RC K mg
 co:bO "turned" RD K mg
 cq:bO "with_its_turns" Lp K mg
 aM:bO "all_alike" Lq K mg
 cp:bO "width_of" Lr K mg
 bo:bO "height_of" Ls K mg
 bp:bO "ink_cells" Lu K mg
 bD:bO "quarter_of" Lv K mg
 aR:bO "cells_outside" Lw K mg
 bw:bO "numbers_by_name" Lx K mg
 bv:bO "names_are_known" Ly K mg
 bn:bO "has_size_of" Lz K mg
 bs:bO "is_within" Ma K mg
 bt:bO "looks_like" Mb K mg
 cj:bO "signs_of_gap" RE K mg
 ch:bO "signs_by_damage" RF K mg
 cg:bO "signs_by_class" RG K mg
 ck:bO "signs_of_sign" Mc K mg
 cd:bO "row_of" Md K mg
 aP:bO "atoms_along" Me K mg
 bZ:bO "read_sound" Mf K mg
 bB:bO "pass_sounds" Mg K mg
 bC:bO "pass_word" Mh K mg
 bI:bO "read_heading" Mi K mg
 bV:bO "read_row" Mj K mg
 br:bO "is_shape" CJ K mg
 bW:bO "read_shape" Ml K mg
 bX:bO "read_sign" Mm K mg
 bK:bO "read_list" Mn K mg
 bA:bO "pass_nest_place" Mo K mg
 aU:bO "end_parens" Mp K mg
 aT:bO "end_group" Mq K mg
 bz:bO "pass_joint" Mr K mg
 bx:bO "pass_behind_piece" Ms K mg
 L:bO "read_block" Mt K mg
 cb:bO "read_with_blanks" Mu K mg
 bL:bO "read_lost" Mw K mg
 N:bO "read_element" Mx K mg
 ca:bO "read_text" My K mg
 cc:bO "refused" Mz K mg
 bE:bO "read_asked" Na K mg
 aN:bO "ask_search" Nb K mg
 cf:bO "shapes_alike" Nc K mg
 bq:bO "is_of" Nd K mg
 ci:bO "signs_of" Nf K mg
 cr:bO "without_needless_runs" Ng K mg
 ce:bO "search_of" Nh K mg
 cn:bO "told" Ni K mg
 H:bO "all_of" Nj K mg
 cY:∃t,mg "NO_BYTE"=some (.int (-1) t)
 ai:∃t,mg "LINE_END"=some (.int (10) t)
 ag:∃t,mg "BLANK"=some (.int (32) t)
 cx:∃t,mg "BANG"=some (.int (33) t)
 v:∃t,mg "INK"=some (.int (35) t)
 de:∃t,mg "PERCENT"=some (.int (37) t)
 cw:∃t,mg "AMPERSAND"=some (.int (38) t)
 dd:∃t,mg "PAREN"=some (.int (40) t)
 cH:∃t,mg "END_PAREN"=some (.int (41) t)
 bk:∃t,mg "STAR"=some (.int (42) t)
 cD:∃t,mg "COMMA"=some (.int (44) t)
 s:∃t,mg "DOT"=some (.int (46) t)
 ah:∃t,mg "DIGIT_0"=some (.int (48) t)
 cE:∃t,mg "DIGIT_1"=some (.int (49) t)
 aZ:∃t,mg "DIGIT_9"=some (.int (57) t)
 cC:∃t,mg "COLON"=some (.int (58) t)
 dh:∃t,mg "SEMICOLON"=some (.int (59) t)
 dg:∃t,mg "RING"=some (.int (60) t)
 cJ:∃t,mg "EQUALS"=some (.int (61) t)
 cI:∃t,mg "END_RING"=some (.int (62) t)
 df:∃t,mg "QUERY"=some (.int (63) t)
 cA:∃t,mg "CAPITAL_A"=some (.int (65) t)
 cB:∃t,mg "CAPITAL_Z"=some (.int (90) t)
 cz:∃t,mg "BRACKET"=some (.int (91) t)
 cG:∃t,mg "END_BRACKET"=some (.int (93) t)
 dr:∃t,mg "UNDERLINE"=some (.int (95) t)
 dj:∃t,mg "SMALL_A"=some (.int (97) t)
 dk:∃t,mg "SMALL_C"=some (.int (99) t)
 bi:∃t,mg "SMALL_E"=some (.int (101) t)
 dl:∃t,mg "SMALL_N"=some (.int (110) t)
 dm:∃t,mg "SMALL_S"=some (.int (115) t)
 bj:∃t,mg "SMALL_W"=some (.int (119) t)
 dn:∃t,mg "SMALL_Z"=some (.int (122) t)
 cy:∃t,mg "BRACE"=some (.int (123) t)
 cF:∃t,mg "END_BRACE"=some (.int (125) t)
 dp:∃t,mg "TILDE"=some (.int (126) t)
 cL:∃t,mg "MOST_DIGITS"=some (.int (3) t)
 cK:∃t,mg "MOST_ATOMS"=some (.int (64) t)
 cR:∃t,mg "MOST_NAMES"=some (.int (16) t)
 I:∃t,mg "RUN"=some (.str "run" t)
 aW:∃t,mg "ANY"=some (.str "any" t)
 af:∃t,mg "ALIKE"=some (.str "alike" t)
 aX:∃t,mg "CLASS"=some (.str "class" t)
 bf:∃t,mg "NAMES"=some (.str "names" t)
 J:∃t,mg "SIGN"=some (.str "sign" t)
 ba:∃t,mg "GAP"=some (.str "gap" t)
 bd:∃t,mg "LOST"=some (.str "lost" t)
 aV:∃a,mg "ALL_QUARTERS"=some (.ref a)/\∃(o:Obj) (its:Array Value) (n:Nat),K.lookup a=some o/\o.cls= .type "tuple"/\o.data= .seq its n/\its.size<=sizeLine/\Vals ([1,2,3,4].map V.int) its.toList
 cM:∃t,mg "MOST_GAP_CELLS"=some (.int (32) t)
 bl:∃t,mg "SURELY"=some (.int (1) t)
 aj:∃t,mg "NO_END"=some (.int (-1) t)
 di:∃a,mg "SIGN_AND_BLANK"=some (.ref a)/\∃(o:Obj) (its:Array Value) (n:Nat),K.lookup a=some o/\o.cls= .type "tuple"/\o.data= .seq its n/\its.size<=sizeLine/\Vals ([115,105,103,110,32].map V.int) its.toList
 cV:∃t,mg "MOST_SIGNS"=some (.int (512) t)
 cW:∃t,mg "MOST_SOUNDS"=some (.int (8) t)
 cN:∃t,mg "MOST_LETTERS"=some (.int (8) t)
 be:∃t,mg "MOST_CELLS"=some (.int (32) t)
 cT:∃t,mg "MOST_PIECES"=some (.int (64) t)
 bm:∃t,mg "WHOLE_BLOCK"=some (.str "whole block" t)
 bc:∃t,mg "IN_PARENS"=some (.str "in parentheses" t)
 bb:∃t,mg "IN_NEST"=some (.str "in a nest" t)
 aY:∃t,mg "COLUMN"=some (.str "column" t)
 bh:∃t,mg "ROW"=some (.str "row" t)
 X:∃t,mg "BARE"=some (.str "bare" t)
 cO:∃t,mg "MOST_LINES"=some (.int (512) t)
 cP:∃t,mg "MOST_LINE_PARTS"=some (.int (64) t)
 cU:∃t,mg "MOST_RING_PARTS"=some (.int (16) t)
 cQ:∃t,mg "MOST_LIST_BYTES"=some (.int (1048576) t)
 cX:∃t,mg "MOST_TEXT_BYTES"=some (.int (2048) t)
 cS:∃t,mg "MOST_PATTERN_BYTES"=some (.int (4096) t)
 bg:∃t,mg "NO_REFUSAL"=some (.int (0) t)
 db:∃t,mg "NO_SUCH_HOW"=some (.int (-1) t)
 dq:∃t,mg "TOO_LONG"=some (.int (-2) t)
 cZ:∃t,mg "NO_LIST"=some (.int (-3) t)
 dc:∃t,mg "NO_TEXT"=some (.int (-6) t)
 ds:∃t,mg "UNKNOWN_SIGN"=some (.int (-9) t)
 da:∃t,mg "NO_PATTERN"=some (.int (-10) t)
 i:mg "len"=none
 u:mg "range"=none
 z:mg "enumerate"=none
 cu:mg "reversed"=none
 ct:mg "list"=none
 cv:mg "sorted"=none
 aQ:mg "set"=none
section
variable{K:PySem.W.Frag}{mg:Str->Option Value}(T:Txt K mg)
abbrev bI:Addr:=T.l.C
abbrev cI:Addr:=T.d.C
abbrev cQ:Addr:=T.b.C
abbrev eO:Addr:=T.h.C
abbrev eQ:Addr:=T.e.C
abbrev gF:Addr:=T.c.C
abbrev lA:Addr:=T.k.C
abbrev yB:Addr:=T.m.C
end
def Cur.write{K:PySem.W.Frag}{C c a l:Addr}{bs s r:Gh.Bytes}{H b:Hp}{xs:List V}{o:HO}(d:Cur K C c a bs H s)(x:Cur K C c a bs b r)(k:Keep c H b)(q:H l=none)(p:b l=some (.lst xs)):
  Cur K C c a bs (aE b l o) r:=by
 obtain⟨h,u,j,_,_⟩:=d.ex;obtain⟨f,i,e,m,n⟩:=x.ex;exact⟨SqL.keep (k.put (.inr q)) j d.seq,f,i,by rw[bB (bM e p (by intro z;cases z))];exact e,m,n⟩
section
variable{P:Program}{w:World}{K:PySem.W.Frag}{mg:Str->Option Value}{base:Heap}{x m q:Str}{st:Stmt}{k:Nat}{ps:List Str}{sp:Sp}{C f:Addr}{fd:FuncData}
def yC(P:Program)(w:World)(K:PySem.W.Frag)(b:Str->Option Value)(base:Heap)(k:Nat)(f:Addr)(a:FuncData)(ps:List Str)(sp:Sp):Prop:=kX P w K b base vM k f a ps sp/\Binds K a ps []
abbrev bR(P:Program)(w:World)(base:Heap)(k:Nat)(D:bO x st K mg)(ps:List Str)(sp:Sp):Prop:=yC P w K mg base k D.f D.fd ps sp
abbrev qE(P:Program)(w:World)(base:Heap)(k:Nat)(D:nU x q st K mg)(ps:List Str)(sp:Sp):Prop:=yC P w K mg base k D.f D.fd ps sp
def gG(P:Program)(w:World)(a:Str->Option Value)(base:Heap)(k:Nat)(M:fN m q st K C)(ps:List Str)(sp:Sp):Prop:=yC P w K a base k M.f M.fd ps sp/\Cls K C
abbrev aT(N:List Str)(q:Str)(st:Stmt)(P:Program)(w:World)(K:PySem.W.Frag)(mg:Str->Option Value)(base:Heap)(f:Addr)(cdv:Value)(A:Around)(outer:List Env)(s:Shared)(H:Hp)(E:XK):Cx:=(aR vM P w K mg base N q (gE st) f cdv A outer s H E).nox
def AllL:Nat->(List Value->Prop)->Prop
 |0,p=>p []
 |n+1,p=>∀v,AllL n λr=>p (v::r)
def AllL.all:∀{n:Nat} {p:List Value->Prop},AllL n p->∀us:List Value,us.length=n->p us
 |0,_,h,[],_=>h
 |_+1,_,h,v::r,e=>AllL.all (h v) r (Nat.succ.inj e)
def aV(F:Fun K x q st f fd)(N:List Str)
  (h:∀ (a:Value) (A:Around) (c:List Env) (s:Shared) (H:Hp) (vs:List V) (Q:VK) (E:XK),N.Nodup->Room k (A.deeper (envOfC q (gE st) s.heap.objs.size f a))->sp vs H Q E ->
   ∃t,PSs (aT N q st P w K mg base f a A c s H E) (nT st) t/\t (Ends.fn Q) (pY N vs) H)
  (S:BG N ps (gE st):=by exact⟨Z,Z,Z,by decide +kernel,Z,by decide +kernel,by decide +kernel⟩)
  (l:∀vs H Q E,sp vs H Q E->vs.length=ps.length:=by intro _ _ _ _ h;first|(cases h;exact bS List.length (by assumption))|repeat first|(obtain⟨rfl,_⟩:=h;rfl)|obtain⟨_,h⟩:=h)
  (b:∀(kV d j:Value) (e:Option Addr) (a i:Value),AllL ps.length λus=>bindArgs (PySem.W.fnOf x q (qD st) (nT st) (gE st) .none kV d j e a i) ⟨us,[]⟩=pure (ps.zip us):=by(repeat intro _);exact rfl):
  yC P w K mg base (k+1) f fd ps sp:=
 ⟨F.ok S l λa A c s H vs Q E=>h a A c s H vs Q E S.nd,F.binds λkV d j e a i=>(b kV d j e a i).all⟩
end
section
variable{X:Cx}{x m q:Str}{st:Stmt}{C:Addr}{k n:Nat}{ps:List Str}{sp:Sp}{p pos pos' apos:Pos}{e e1 e2 e3 o:Expr}{es:List Expr}{te ta t1 t2 t3:TE}{t:TA}{op:Operator}{ti:sY}
def aX{D:bO x st X.K X.mg}(F:bR X.prog X.w X.base k D ps sp)(i:Room n X.A)(c:PA X (e::es) t)(h:k<=n:=by decide) (f:Gl X x:=by rfl) (a:(x==("__debug__":Str))=false:=by decide)
  (d:starEach (e::es) X.env=(false,eval e X.env)::starEach es X.env:=by rfl) (b:(backTo pos (starEach es X.env)).any (·.1)=false:=by rfl):PE X (.Call (.Name x p) (e::es) [] pos) (GX sp [] E0 t):=
 Fw F.1 (i.mono h) f D.g D.F.kp F.2 .nil vN c a d b
def iM{D:nU x q st X.K X.mg}(F:qE X.prog X.w X.base k D ps sp)(i:Room n X.A)(c:PA X (e::es) t)(h:k+1<=n:=by decide) (f:Gl X x:=by rfl) (a:(x==("__debug__":Str))=false:=by decide)
  (d:starEach (e::es) X.env=(false,eval e X.env)::starEach es X.env:=by rfl) (b:(backTo pos (starEach es X.env)).any (·.1)=false:=by rfl):PE X (.Call (.Name x p) (e::es) [] pos) (ON D.C sp [] E0 t):=
 Gb D.M F.1 (i.mono h) f D.g F.2 .nil vN c a d b
def bZ{pl:Sem Bool}{M:fN m q st X.K C}(d:PE X o ta)(F:gG X.prog X.w X.mg X.base k M ps sp)(i:Room n X.A)(c:PA X (e::es) t)(h:k<=n:=by decide)
  (b:starEach (e::es) X.env=(false,eval e X.env)::starEach es X.env:=by rfl) (a:(backTo pos (starEach es X.env)).any (·.1)=false:=by rfl)
  (j:eval (.Call (.Attribute o m apos) (e::es) [] pos) X.env=(do
   let ov<-eval o X.env
   standAt apos.atName
   let(f,first)<-holding [ov] (getMethod ov m pl)
   callWith pos f first (backTo pos (starEach (e::es) X.env)) (backToKw pos (keywordEach [] X.env))):=by rfl):
  PE X (.Call (.Attribute o m apos) (e::es) [] pos) (BF C m sp [] E0 ta t):=Fy d F.2 M.mt F.1.1 (i.mono h) F.1.2 .nil vN c b a j
def fW{pl:Sem Bool}{M:fN m q st X.K C}(a:PE X o ta)(F:gG X.prog X.w X.mg X.base k M ps sp)(c:Room n X.A)(b:k<=n:=by decide)
  (d:eval (.Call (.Attribute o m apos) [] [] pos) X.env=(do
   let ov<-eval o X.env
   standAt apos.atName
   let(f,first)<-holding [ov] (getMethod ov m pl)
   callWith pos f first (backTo pos (starEach [] X.env)) (backToKw pos (keywordEach [] X.env))):=by rfl):
  PE X (.Call (.Attribute o m apos) [] [] pos) (BF C m sp [] E0 ta BE):=Fz a F.2 M.mt F.1.1 (c.mono b) F.1.2 .nil vN d
def bA(i:Nat)(c:PE X e te)(b:X.N.Nodup:=by assumption) (hi:X.N[i]? =some x:=by rfl) (a:X.env.scope.names.lookup x=some .local:=by rfl) (d:swapsWith e (some (.Name x pos')) pos.line X.env=pure false:=by rfl):PS X (.Assign [.Name x pos'] e pos) (xO te (vB i)):=NS b hi (.inl a) c d (.inr a)
def dP(i:Nat)(b:X.N.Nodup:=by assumption) (hi:X.N[i]? =some x:=by rfl) (a:X.env.scope.names.lookup x=some .local:=by rfl):L2.PG X (.Name x pos) (vB i):=NQ b hi (.inl a) (.inr a)
def CL(i:Nat)(c:PE X e te)(d:xN X op ti)(b:X.N.Nodup:=by assumption) (hi:X.N[i]? =some x:=by rfl) (a:X.env.scope.names.lookup x=some .local:=by rfl):PS X (.AugAssign (.Name x pos') op e pos) (NT i te ti):=Ek b hi (.inl a) c d (.inr a)
def bT{op:CmpOp}{r:R2}{a b:Expr}{c d:TE}(j:eZ X (compareOp op) r)(h:PE X a c)(i:PE X b d)(e:op≠ .In:=by decide) (f:op≠ .NotIn:=by decide):PT X (.Compare a [op] [b] pos) (OG (vG r c d)):=vJ j h i (GS _ e f)
def kD{op:CmpOp}{r:R2}{a b:Expr}{c d:TE}(j:eZ X (compareOp op) r)(h:PE X a c)(i:PE X b d)(e:op≠ .In:=by decide) (f:op≠ .NotIn:=by decide):PE X (.Compare a [op] [b] pos) (vG r c d):=tG j h i (GS _ e f)
def bC(c:∃t,X.mg x=some (.int i t))(b:Gl X x:=by rfl) (a:(x==("__debug__":Str))=false:=by decide):PE X (.Name x pos) (tC (.int i)):=Jk b c a
def dH(c:∃t,X.mg x=some (.str i t))(b:Gl X x:=by rfl) (a:(x==("__debug__":Str))=false:=by decide):PE X (.Name x pos) (tC (.str i)):=Jl b c a
end
end Sg
namespace Sg
open Gh
def tk(k:UInt8):Bytes->Bool×Bytes
 | []=>(false,[])
 |c::r=>if c=k then(true,r)else(false,c::r)
def tp(p:UInt8->Bool):Bytes->UInt8×Bytes
 | []=>(0,[])
 |c::r=>if p c=true then(c,r)else(0,c::r)
def jL(c:UInt8):Bool:=decide (49<=c.toNat)&&decide (c.toNat<=57)
def iA(r:Bytes):Option (UInt8×UInt8)×Bytes:=
 if(tp isBig r).1=0 then(none,(tp isBig r).2)else(some ((tp isBig r).1,(tp isSmall (tp isBig r).2).1),(tp isSmall (tp isBig r).2).2)
def lT:Nat->Nat->UInt8->Bytes->Nat×Bytes
 |0,n,_,r=>(n,r)
 |f+1,n,d,r=>if d=0 then(n,r)else
  lT f (n*10+(d.toNat-48)) (if f=0 then(0,r)else tp isDigit r).1 (if f=0 then(0,r)else tp isDigit r).2
def number(r:Bytes):Nat×Bytes:=lT 3 0 (tp jL r).1 (tp jL r).2
def cN(c s:UInt8)(r:Bytes):Option Name×Bytes:=
 if(number r).1=0 then(none,(number r).2)else(some ⟨c,s,(number r).1,(tp isSmall (number r).2).1⟩,(tp isSmall (number r).2).2)
def cJ(r:Bytes):Option Name×Bytes:=match iA r with|(none,q)=>(none,q)|(some x,q)=>cN x.1 x.2 q
def jM:Nat->List Name->Bytes->Option (List Name)×Bytes
 |0,_,r=>(none,r)
 |f+1,had,r=>match cJ r with
  |(none,q)=>(none,q)
  |(some n,q)=>if(tk 125 q).1=true then(some (had++[n]),(tk 125 q).2)
   else if f=0 then(none,q)
   else if(tk 44 q).1=true then jM f (had++[n]) (tk 44 q).2 else(none,q)
def nV(d:Bool)(r:Bytes):Option Atom×Bytes:=match iA r with
 |(none,q)=>(none,q)
 |(some x,q)=>if(tk 42 q).1=true then(some (.one d (.class_ x.1 x.2)),(tk 42 q).2)else match cN x.1 x.2 q with|(none,u)=>(none,u)|(some n,u)=>(some (.one d (.name n)),u)
def dots(d:Bool)(r:Bytes):Atom×Bytes:=if d=false/\(tk 46 r).1=true then(.run,(tk 46 r).2)else(.one d .any,r)
def vP(d:Bool)(r:Bytes):Option Atom×Bytes:=
 if(tk 46 r).1=true then(some (dots d (tk 46 r).2).1,(dots d (tk 46 r).2).2)
 else if(tk 61 r).1=true then((cJ (tk 61 r).2).1.map λn=> .one d (.alike n),(cJ (tk 61 r).2).2)
 else if(tk 123 r).1=true then((jM 16 [] (tk 123 r).2).1.map λl=> .one d (.among l),(jM 16 [] (tk 123 r).2).2)
 else nV d r
def oX(r:Bytes):Option Atom×Bytes:=vP (tk 33 r).1 (tk 33 r).2
def iV:Nat->List Atom->Bytes->Option (List Atom)×Bytes
 |0,_,r=>(none,r)
 |f+1,A,r=>match oX r with
  |(none,q)=>(none,q)
  |(some a,q)=>if q=[]then(some (A++[a]),q)
   else if f=0 then(none,q)
   else if(tk 32 q).1=true then iV f (A++[a]) (tk 32 q).2 else(none,q)
def HX(h:isDigit c=true):isSmall c=false:=by unfold isDigit at h;unfold isSmall;simp only [cB,gK]at h;simp only [Bool.and_eq_false_iff,AI];lia
def yD(h:isSmall c=true):isDigit c=false:=by cases e:isDigit c with|false=>rfl|true=>rw[HX e]at h;cases h
def kE(h:isSmall c=true):c≠0:=by rintro rfl;exact absurd h (by decide)
def RH(h:isBig c=true):c≠0:=by rintro rfl;exact absurd h (by decide)
def RI(h:isDigit c=true):c≠0:=by rintro rfl;exact absurd h (by decide)
def RJ(h:jL c=true):isDigit c=true/\c≠48:=by unfold jL at h;unfold isDigit;simp only [cB,gK]at h ⊢;refine⟨by lia,?_⟩;rintro rfl;exact absurd h.1 (by decide)
def RK(h:isDigit c=true)(n:c≠48):jL c=true:=by
 unfold isDigit at h;unfold jL;simp only [cB,gK]at h ⊢;have:c.toNat≠48:=λe=>n (al_64.mp e)
 lia
def aP(s:UInt8):Bytes:=if s=0 then []else [s]
def iB(s:UInt8):Prop:=s=0\/isSmall s=true
def cW(p:UInt8->Bool)(r:Bytes):Prop:=∀c v,r=c::v->p c=false
def HY:∀{ds t:Bytes},ds.all p=true->cW p t->(ds++t).takeWhile p=ds
 | [],[],_,_=>rfl
 | [],c::v,_,n=>by
  show List.takeWhile p (c::v)=[];rw[List.takeWhile_cons,n c v rfl];rfl
 |d::ds,t,h,n=>by
  rw[dM,cB]at h;show List.takeWhile p (d::(ds++t))=d::ds;rw[List.takeWhile_cons,h.1,HY h.2 n];rfl
def lU(r:Bytes):Bytes:=match r with|x::v=>if isSmall x=true then v else r| []=>r
def RL(x:UInt8)(v:Bytes):lU (x::v)=if isSmall x=true then v else x::v:=rfl
def mQ(r:Bytes):UInt8:=match r with|x::_=>if isSmall x=true then x else 0| []=>0
def Nk(c:UInt8)(r:Bytes):nameGoes (c::r)=(isBig c && (decide (((lU r).takeWhile isDigit).length<=3) && (((lU r).takeWhile isDigit).head? != some (48:UInt8) &&
  (((lU r).drop ((lU r).takeWhile isDigit).length).isEmpty||(!((lU r).takeWhile isDigit).isEmpty&&(decide (((lU r).drop ((lU r).takeWhile isDigit).length).length=1)&&((lU r).drop ((lU r).takeWhile isDigit).length).all isSmall)))))):=by
 cases r<;>rfl
def Nl(a:iB s)(n:s=0->cW isSmall t):lU (aP s++t)=t:=by
 rcases a with rfl|a
 ·show lU t=t;cases t with|nil=>rfl|cons c v=>rw[RL,n rfl c v rfl];rfl
 rw[show aP s=[s]from aA (kE a)];show lU (s::t)=t;rw[RL,aB a]
def RM(a:iB s)(n:s=0->cW isSmall t):mQ (aP s++t)=s:=by
 rcases a with rfl|a
 ·show mQ t=0;cases t with
  |nil=>rfl
  |cons c v=>
   show(if isSmall c=true then c else 0)=0;rw[n rfl c v rfl];rfl
 rw[show aP s=[s]from aA (kE a)];show(if isSmall s=true then s else 0)=s;rw[aB a]
def HZ{s:UInt8}{ds t:Bytes}(a:ds.all isDigit=true)(m:s=0->ds=[]->cW isSmall t):s=0->cW isSmall (ds++t):=λe x v q=>by
 cases ds with
 |nil=>exact m e rfl x v q
 |cons d ds=>
  rw[dM,cB]at a;cases q;exact HX a.1
def mR{c s:UInt8}{ds t:Bytes}(b:isBig c=true)(d:iB s)(a:ds.all isDigit=true)(n:cW isDigit t)(m:s=0->ds=[]->cW isSmall t):
  nameGoes (c::(aP s++(ds++t)))=(decide (ds.length<=3)&&(ds.head? !=some (48:UInt8)&&(t.isEmpty||(!ds.isEmpty&&(decide (t.length=1)&&t.all isSmall))))):=by
 rw[Nk,Nl d (HZ a m),HY a n,List.drop_left,b,mI]
def CM(c:UInt8)(r:Bytes):nameOf (c::r) =
  (let r':=if mQ r=0 then r else r.drop 1
   let d:=r'.takeWhile isDigit
   let k:=r'.drop d.length
   let n:Name:=⟨c,mQ r,numberOf d,k.headD 0⟩
   if d≠[]/\d.length<=3/\d.head?≠some 48/\k.length<=1/\n.right=true/\n.text=c::r then some n else none):=by
 cases r<;>rfl
def RN:(if s=0 then aP s++t else(aP s++t).drop 1)=t:=by
 by_cases e:s=0;·rw[aB e,show aP s=[]from aB e];rfl
 rw[aA e,show aP s=[s]from aA e];rfl
def vQ(h:isDigit c=true):∃d:Nat,d<10/\c.toNat=48+d/\c=UInt8.ofNat (48+d):=by unfold isDigit at h;simp only [cB,gK]at h;refine⟨c.toNat-48,by lia,by lia,?_⟩;rw[show 48+(c.toNat-48)=c.toNat by lia,UInt8.ofNat_toNat]
def IA(h:d<10):decimalFrom (f+1) d=[UInt8.ofNat (48+d)]:=by
 show(if d<10 then []else _)++[UInt8.ofNat (48+d%10)]=_;rw[aB h,AJ h];rfl
def IB(h:d<10)(a:1<=n):decimalFrom (f+1) (10*n+d)=decimalFrom f n++[UInt8.ofNat (48+d)]:=by
 show(if 10*n+d<10 then []else decimalFrom f ((10*n+d)/10))++[UInt8.ofNat (48+(10*n+d)%10)]=_;rw[aA (by lia),show(10*n+d)/10=n by lia,show(10*n+d)%10=d by lia]
def tK:∀{ds:Bytes},ds.all isDigit=true->ds≠[]->ds.length<=3->ds.head?≠some 48->decimal (numberOf ds)=ds/\1<=numberOf ds/\numberOf ds<=999
 | [],_,h,_,_=>absurd rfl h
 | [a],h,_,_,z=>by
  simp only [dM,wW,nM]at h;obtain⟨d,l,p,f⟩:=vQ h;have hz:a≠48:=λe=>z (by rw[e];rfl);have e:numberOf [a]=d:=by show 10*0+(a.toNat-48)=d;lia
  have d0:d≠0:=λq=>hz (by rw[f,q];rfl);rw[e];exact⟨by unfold decimal;rw[IA l,f],by lia,by lia⟩
 | [a,b],h,_,_,z=>by
  simp only [dM,wW,nM,cB]at h;obtain⟨d,l,p,f⟩:=vQ h.1;obtain⟨d',j,o,k⟩:=vQ h.2;have hz:a≠48:=λe=>z (by rw[e];rfl);have e:numberOf [a,b]=10*d+d':=by show 10*(10*0+(a.toNat-48))+(b.toNat-48)=_;lia
  have d0:d≠0:=λq=>hz (by rw[f,q];rfl);rw[e];refine⟨?_,by lia,by lia⟩;unfold decimal;rw[IB j (by lia),show 10*d+d'=(10*d+d'-1)+1 by lia,IA l,f,k];rfl
 | [a,b,c],h,_,_,z=>by
  simp only [dM,wW,nM,cB]at h;obtain⟨d,l,p,f⟩:=vQ h.1;obtain⟨d',j,o,k⟩:=vQ h.2.1;obtain⟨i,m,r,n⟩:=vQ h.2.2;have hz:a≠48:=λe=>z (by rw[e];rfl);have e:numberOf [a,b,c]=10*(10*d+d')+i:=by show 10*(10*(10*0+(a.toNat-48))+(b.toNat-48))+(c.toNat-48)=_;lia
  have d0:d≠0:=λq=>hz (by rw[f,q];rfl);rw[e];refine⟨?_,by lia,by lia⟩;unfold decimal;rw[IB m (by lia),show 10*(10*d+d')+i=(10*(10*d+d')+i-2)+1+1 by lia,IB j (by lia),IA l,f,k,n];rfl
 |_::_::_::_::_,_,_,h,_=>absurd h (by simp only [cG];lia)
def Nm(s:UInt8):(aP s).length<=1:=by unfold aP;split<;>simp
def Nn(s:UInt8):(aP s).headD 0=s:=by
 unfold aP;split;·rename_i h;rw[h];rfl
 rfl
def No(a:iB s):cW isDigit (aP s):=λc v q=>by
 rcases a with rfl|a;·cases q
 rw[show aP s=[s]from aA (kE a)]at q;cases q;exact yD a
def IC{c s k:UInt8}{ds:Bytes}(r:isBig c=true)(j:iB s)(i:iB k)(b:ds.all isDigit=true)(a:ds≠[])(f:ds.length<=3)(d:ds.head?≠some 48):
  nameOf (c::(aP s++(ds++aP k)))=some ⟨c,s,numberOf ds,k⟩:=by
 have m:s=0->cW isSmall (ds++aP k):=HZ b λ_ e=>absurd e a;obtain⟨o,p,q⟩:=tK b a f d;rw[CM,RM j m];dsimp only;rw[RN,HY b (No i),List.drop_left,Nn];refine aB ⟨a,f,d,Nm k,?_,?_⟩
 ·have l:(s==0||isSmall s)=true:=by rcases j with rfl|h<;>simp [*]
  have n:(k==0||isSmall k)=true:=by rcases i with rfl|h<;>simp [*]
  show(isBig c&&((s==0||isSmall s)&&(decide (1<=numberOf ds)&&(decide (numberOf ds<=999)&&(k==0||isSmall k)))))=true;rw[r,l,n,bP p,bP q];rfl
 show c::(aP s++(decimal (numberOf ds)++aP k))=_;rw[o]
def Np(a:iB s):nameOf (c::(aP s++[]))=none:=by
 have m:s=0->cW isSmall []:=λ_ _ _ q=>by cases q
 rw[CM,RM a m];dsimp only;rw[RN];exact aA λh=>h.1 rfl
def Nq(b:isBig c=true)(a:iB s):classOf (c::(aP s++[]))=some (.class_ c s):=by
 rcases a with rfl|a
 ·show(if isBig c=true then some (One.class_ c 0)else none)=_;rw[aB b]
 rw[show aP s=[s]from aA (kE a)];show(if isBig c=true/\isSmall s=true then some (One.class_ c s)else none)=_;rw[aB ⟨b,a⟩]
def Nr(a:iB s)(b:ds.all isDigit=true)(e:ds≠[]):classOf (c::(aP s++(ds++t)))=none:=by
 cases ds with
 |nil=>exact absurd rfl e
 |cons d ds=>
  rw[dM,cB]at b;rcases a with rfl|a
  ·show classOf (c::d::(ds++t))=none;cases f:ds++t with
   |nil=>
    show(if isBig c=true/\isSmall d=true then some (One.class_ c d)else none)=none;rw[aA λh=>by rw[HX b.1]at h;cases h.2]
   |cons=>rfl
  rw[show aP s=[s]from aA (kE a)];rfl
def cR(k c:UInt8)(r:Bytes):tk k (c::r)=if c=k then(true,r)else(false,c::r):=rfl
def nW(p:UInt8->Bool)(c:UInt8)(r:Bytes):tp p (c::r)=if p c=true then(c,r)else(0,c::r):=rfl
def cS(k:UInt8)(r:Bytes):(tk k r).2.length<=r.length:=by
 cases r with
 |nil=>exact aK _
 |cons c v=>
  rw[cR];split;·exact Nat.le_succ _
  exact aK _
def fO(h:¬(tk k r).1=true):(tk k r).2=r:=by
 cases r with
 |nil=>rfl
 |cons c v=>
  by_cases e:c=k;·exact absurd (by rw[cR,aB e]) h
  rw[cR,aA e]
def nX(p:UInt8->Bool)(r:Bytes):(tp p r).2.length<=r.length:=by
 cases r with
 |nil=>exact aK _
 |cons c v=>
  rw[nW];split;·exact Nat.le_succ _
  exact aK _
def RO:∀(f n:Nat) (d:UInt8) (r:Bytes),(lT f n d r).2.length<=r.length
 |0,_,_,_=>aK _
 |f+1,n,d,r=>by
  unfold lT;split;·exact aK _
  refine aZ (RO f _ _ _) ?_;split;·exact aK _
  exact nX _ _
def RP(r:Bytes):(number r).2.length<=r.length:=aZ (RO _ _ _ _) (nX _ _)
def yE(c s:UInt8)(r:Bytes):(cN c s r).2.length<=r.length:=by
 unfold cN;split;·exact RP r
 exact aZ (nX _ _) (RP r)
def RQ(r:Bytes):(iA r).2.length<=r.length:=by
 unfold iA;split;·exact nX _ _
 exact aZ (nX _ _) (nX _ _)
def CN(r:Bytes):(cJ r).2.length<=r.length:=by
 have h:=RQ r;unfold cJ;split;·rename_i q e;rw[e]at h;exact h
 rename_i x q e;rw[e]at h;exact aZ (yE _ _ _) h
def RR:∀(f:Nat) (a:List Name) (r:Bytes),(jM f a r).2.length<=r.length
 |0,_,_=>aK _
 |f+1,a,r=>by
  have h:=CN r;unfold jM;split;·rename_i q e;rw[e]at h;exact h
  rename_i n q e;rw[e]at h;split;·exact aZ (cS _ _) h
  split;·exact h
  split;·exact aZ (RR f _ _) (aZ (cS _ _) h)
  exact h
def Nt(d:Bool)(r:Bytes):(nV d r).2.length<=r.length:=by
 have h:=RQ r;unfold nV;split;·rename_i q e;rw[e]at h;exact h
 rename_i x q e;rw[e]at h;split;·exact aZ (cS _ _) h
 have a:=yE x.1 x.2 q;split;·rename_i u b;rw[b]at a;exact aZ a h
 rename_i n u b;rw[b]at a;exact aZ a h
def Nu(d:Bool)(r:Bytes):(dots d r).2.length<=r.length:=by
 unfold dots;split;·exact cS _ _
 exact aK _
def Nv(d:Bool)(r:Bytes):(vP d r).2.length<=r.length:=by
 unfold vP;split;·exact aZ (Nu _ _) (cS _ _)
 split;·exact aZ (CN _) (cS _ _)
 split;·exact aZ (RR _ _ _) (cS _ _)
 exact Nt _ _
def Nw(r:Bytes):(oX r).2.length<=r.length:=aZ (Nv _ _) (cS _ _)
def Ny(ds:Bytes)(d:UInt8):numberOf (ds++[d])=10*numberOf ds+(d.toNat-48):=by unfold numberOf;rw[uS];rfl
def jN(p:UInt8->Bool)(r:Bytes):((tp p r).1=0/\(tp p r).2=r/\cW p r)\/(∃c,p c=true/\r=c::(tp p r).2/\(tp p r).1=c):=by
 cases r with
 |nil=>exact .inl ⟨Z,Z,λ_ _ q=>by cases q⟩
 |cons c v=>
  by_cases e:p c=true;·refine .inr ⟨c,e,?_,?_⟩<;>(rw[nW,aB e])
  refine .inl ⟨?_,?_,λx u q=>by cases q;exact al_12.mpr e⟩<;>(rw[nW,aA e])
def RS(h:ds.all p=true)(e:p d=true):(ds++[d]).all p=true:=by rw[oN,h,mI,dM,e];rfl
def Nz{ds:Bytes}{d:UInt8}(h:ds.head?≠some 48)(e:ds=[]->d≠48):(ds++[d]).head?≠some 48:=by
 cases ds with
 |nil=>intro z;exact e rfl (cV z)
 |cons a ds=>exact h
def CO:∀(f:Nat) (ds:Bytes) (d:UInt8) (r:Bytes),ds.all isDigit=true->ds.head?≠some 48->ds.length+f=3->(d=0\/(isDigit d=true/\(ds=[]->d≠48)))->(d≠0->f≠0)->
  ∃a q,lT f (numberOf ds) d r=(numberOf (ds++a),q)/\(ds++a).all isDigit=true/\(ds++a).length<=3/\(ds++a).head?≠some 48/\(d=0->a=[]/\q=r)/\(d≠0->(∃es',a=d::es'/\r=es'++q)/\((ds++a).length<3->cW isDigit q))
 |0,ds,d,r,ha,hh,hf,hd,hz=>by
  have d0:d=0:=by
   rcases hd with h|h;·exact h
   by_cases e:d=0;·exact e
   exact absurd rfl (hz e)
  refine⟨[],r,by rw[bU];rfl,by rw[bU];exact ha,by rw[bU];lia,by rw[bU];exact hh,λ_=>⟨Z,Z⟩,λh=>absurd d0 h⟩
 |f+1,ds,d,r,ha,hh,hf,hd,hz=>by
  by_cases d0:d=0;·refine⟨[],r,by unfold lT;rw[aB d0,bU],by rw[bU];exact ha,by rw[bU];lia,by rw[bU];exact hh,λ_=>⟨Z,Z⟩,λh=>absurd d0 h⟩
  obtain⟨u,s⟩:isDigit d=true/\(ds=[]->d≠48):=by
   rcases hd with h|h;·exact absurd h d0
   exact h
  have y:numberOf ds*10+(d.toNat-48)=numberOf (ds++[d]):=by rw[Ny];lia
  have v:(ds++[d]).length+f=3:=by rw[bF];simp only [cG,uR];lia
  have l:=RS ha u;have m:=Nz hh s;have A:ds++[d]≠[]:=by simp
  unfold lT;rw[aA d0,y];by_cases p:f=0
  ·rw[aB p];obtain⟨a,q,b,i,j,k,n,o⟩:=CO f (ds++[d]) 0 r l m v (.inl Z) (λz=>absurd Z z);obtain⟨rfl,rfl⟩:=n rfl;rw[dQ]at b i j k;refine⟨[d]++[],q,b,i,j,k,λh=>absurd h d0,λ_=>⟨⟨[],Z,Z⟩,λz=> ?_⟩⟩;rw[bU]at z;lia
  rw[aA p];rcases jN isDigit r with⟨h1,h2,h3⟩|⟨c,hc,hr,h1⟩
  ·rw[h1,h2];obtain⟨a,q,b,i,j,k,n,o⟩:=CO f (ds++[d]) 0 r l m v (.inl Z) (λz=>absurd Z z);obtain⟨rfl,rfl⟩:=n rfl;rw[dQ]at b i j k;exact⟨[d]++[],q,b,i,j,k,λh=>absurd h d0,λ_=>⟨⟨[],Z,Z⟩,λ_=>h3⟩⟩
  rw[h1];obtain⟨a,q,b,i,j,k,n,o⟩:=CO f (ds++[d]) c (tp isDigit r).2 l m v (.inr ⟨hc,λz=>absurd z A⟩) (λ_=>p);obtain⟨⟨es',rfl,x⟩,w⟩:=o (RI hc);rw[dQ]at b i j k w;refine⟨[d]++c::es',q,b,i,j,k,λh=>absurd h d0,λ_=>⟨⟨c::es',Z,?_⟩,w⟩⟩;rw[hr,x];rfl
def rM(r:Bytes):∃a q,number r=(numberOf a,q)/\a.all isDigit=true/\a.length<=3/\a.head?≠some 48/\r=a++q/\(a=[]->cW jL q)/\(a≠[]->a.length<3->cW isDigit q):=by
 unfold number;rcases jN jL r with⟨h1,h2,h3⟩|⟨c,hc,hr,h1⟩
 ·rw[h1,h2];exact⟨[],r,Z,Z,by decide,(by intro z;cases z),Z,λ_=>h3,λz=>absurd rfl z⟩
 rw[h1];have b:=RJ hc;obtain⟨a,q,d,e,f,h,l,i⟩:=CO 3 [] c (tp jL r).2 rfl (by intro z;cases z) rfl (.inr ⟨b.1,λ_=>b.2⟩) (λ_=>by decide);obtain⟨⟨es',rfl,j⟩,k⟩:=i (RI b.1);refine⟨c::es',q,d,e,f,h,?_,(λz=>by cases z),λ_=>k⟩;rw[hr,j];rfl
def R(T:Nat)(z:Sought)(r:Bytes):Except Nat Pattern:=match seek z (T-r.length) r with
 | .error p=> .error p
 | .ok y=>match y.last with|some a=> .ok (y.atoms++[a])|none=> .error T
def ID(T:Nat)(z:Sought):R T z []=match z.last with|some a=> .ok (z.atoms++[a])|none=> .error T:=rfl
def oY(e:z.step c=none):R T z (c::r)= .error (T-(r.length+1)):=by
 unfold R;show (match (match z.step c with
  |none=>Except.error (T-(r.length+1))
  |some y=>seek y (T-(r.length+1)+1) r)with
  | .error p=>Except.error p
  | .ok y=>_)=_
 rw[e]
def kF(e:z.step c=some y)(h:r.length+1<=T):R T z (c::r)=R T y r:=by
 unfold R;show (match (match z.step c with
  |none=>Except.error (T-(r.length+1))
  |some y=>seek y (T-(r.length+1)+1) r)with
  | .error p=>Except.error p
  | .ok y=>_)=_
 rw[e,show T-r.length=T-(r.length+1)+1 by lia]
def after(T:Nat)(A:Pattern)(a:Atom)(q:Bytes):Except Nat Pattern:=match q with| []=> .ok (A++[a])|c::r=>if c=32/\A.length+1<ATOMS then R T ⟨A++[a],.atom⟩ r else .error (T-(r.length+1))
def vR(T:Nat)(A:Pattern)(x:Option Atom×Bytes):Except Nat Pattern:=match x.1 with|none=> .error (T-x.2.length)|some a=>after T A a x.2
def CP(e:(⟨A,b⟩:Sought).step c=Sought.behind ⟨A,b⟩ a c)(h:r.length+1<=T):R T ⟨A,b⟩ (c::r)=after T A a (c::r):=by
 unfold Sought.behind at e;by_cases q:c=32/\A.length+1<ATOMS
 ·rw[aB q]at e;rw[kF e h];show _=if c=32/\A.length+1<ATOMS then R T ⟨A++[a],.atom⟩ r else .error (T-(r.length+1))
  rw[aB q]
 rw[aA q]at e;rw[oY e];show _=if c=32/\A.length+1<ATOMS then R T ⟨A++[a],.atom⟩ r else .error (T-(r.length+1))
 rw[aA q]
def CQ(h:r.length<=T):R T ⟨A,.done a⟩ r=after T A a r:=by cases r with|nil=>rfl|cons c v=>exact CP rfl h
def Oa(h:r.length<=T):R T ⟨A,.dot⟩ r=after T A (dots false r).1 (dots false r).2:=by
 cases r with
 |nil=>rfl
 |cons c v=>
  by_cases e:c=46;·subst e;rw[kF (y:=⟨A,.done .run⟩) rfl h,CQ (lK h)];rfl
  have a:tk 46 (c::v)=(false,c::v):=by rw[cR,aA e]
  have b:dots false (c::v)=(.one false .any,c::v):=by unfold dots;rw[a];rfl
  rw[b];refine CP ?_ h;show(if c=46 then _ else _)=_;rw[aA e]
structure NM(A:Pattern)(mk:Bytes->Reads):Prop where
 go:∀w c,nameGoes (w++[c])=true->(⟨A,mk w⟩:Sought).step c=some ⟨A,mk (w++[c])⟩
def IE(A:Pattern)(n:Bool):NM A (.word n):=⟨λw c h=>by
 show(if nameGoes (w++[c])=true then _ else _)=_;rw[aB h]⟩
def RT(A:Pattern)(n:Bool):NM A (.eqWord n):=⟨λw c h=>by
 show(if nameGoes (w++[c])=true then _ else _)=_;rw[aB h]⟩
def RU(A:Pattern)(n:Bool)(a:List Name):NM A (.braceWord n a):=⟨λw c h=>by
 show(if nameGoes (w++[c])=true then _ else _)=_;rw[aB h]⟩
section
def mS:cW p []:=λ_ _ q=>by cases q
def rN(r:Bytes):iB (tp isSmall r).1/\((tp isSmall r).1=0->cW isSmall (tp isSmall r).2)/\r=aP (tp isSmall r).1++(tp isSmall r).2:=by
 rcases jN isSmall r with⟨h1,h2,h3⟩|⟨x,hx,hr,h1⟩;·rw[h1,h2];exact⟨.inl Z,λ_=>h3,Z⟩
 rw[h1];refine⟨.inr hx,λe=>absurd e (kE hx),?_⟩;rw[show aP x=[x]from aA (kE hx)];exact hr
def IF(M:NM A mk)(b:isBig c=true)(d:r.length<=T):R T ⟨A,mk [c]⟩ r=R T ⟨A,mk (c::(aP (tp isSmall r).1++[]))⟩ (tp isSmall r).2:=by
 rcases jN isSmall r with⟨h1,h2,h3⟩|⟨x,hx,hr,h1⟩;·rw[h1,h2];rfl
 have e:aP x=[x]:=aA (kE hx);rw[h1,e];have g:nameGoes ([c]++[x])=true:=by have:=mR (c:=c) (s:=x) (ds:=[]) (t:=[]) b (.inr hx) rfl mS (λ_ _=>mS);rw[e]at this;exact this
 have a:(tp isSmall r).2.length+1<=T:=by
  have:=bS List.length hr;rw[cG]at this;lia
 have q:=kF (T:=T) (M.go [c] x g) a;rw[<- hr]at q;exact q
def RV(M:NM A mk)(d:isBig c=true)(f:iB s):∀(a ds:Bytes),(ds++a).all isDigit=true->(ds++a).length<=3->(ds++a).head?≠some 48->(a++q).length<=T->
  R T ⟨A,mk (c::(aP s++ds))⟩ (a++q)=R T ⟨A,mk (c::(aP s++(ds++a)))⟩ q
 | [],ds,_,_,_,_=>by rw[bU];rfl
 |e::a,ds,ha,h3,h0,hl=>by
  have h:ds++e::a=(ds++[e])++a:=by simp
  rw[h]at ha h3 h0 ⊢;have i:(ds++[e]).all isDigit=true:=by rw[oN,cB]at ha;exact ha.1
  have j:(ds++[e]).length<=3:=by rw[bF]at h3;lia
  have k:(ds++[e]).head?≠some 48:=by cases ds with|nil=>exact h0|cons=>exact h0
  have g:nameGoes (c::(aP s++ds)++[e])=true:=by
   have:=mR (c:=c) (s:=s) (ds:=ds++[e]) (t:=[]) d f i mS (λ_ _=>mS);rw[bU]at this;rw[show c::(aP s++ds)++[e]=c::(aP s++(ds++[e])) by simp,this,bP j];have l:((ds++[e]).head? !=some (48:UInt8))=true:=by rw[al_110];exact k
   rw[l];rfl
  have b:(a++q).length+1<=T:=hl;rw[show e::a++q=e::(a++q)from rfl,kF (M.go _ e g) b,show c::(aP s++ds)++[e]=c::(aP s++(ds++[e])) by simp];exact RV M d f a (ds++[e]) ha h3 h0 (by lia)
def Ob(M:NM A mk)(h:isBig c=true)(j:iB s)(i:ds.all isDigit=true)(b:ds≠[])(f:ds.length<=3)(d:ds.head?≠some 48)(m:r.length<=T):
  R T ⟨A,mk (c::(aP s++ds))⟩ r=R T ⟨A,mk (c::(aP s++(ds++aP (tp isSmall r).1)))⟩ (tp isSmall r).2:=by
 rcases jN isSmall r with⟨e1,e2,e3⟩|⟨x,hx,hr,e1⟩;·rw[e1,e2,show aP 0=[]from rfl,bU]
 have e:aP x=[x]:=aA (kE hx);rw[e1,e];have g:nameGoes (c::(aP s++ds)++[x])=true:=by
  have:=mR (c:=c) (s:=s) (ds:=ds) (t:=[x]) h j i (λ_ _ q=>by cases q;exact yD hx) (λ_ z=>absurd z b);rw[show c::(aP s++ds)++[x]=c::(aP s++(ds++[x])) by simp,this,bP f];have k:(ds.head? !=some (48:UInt8))=true:=by rw[al_110];exact d
  have l:ds.isEmpty=false:=by cases ds with|nil=>exact absurd rfl b|cons=>rfl
  rw[k,l,dM,hx];rfl
 have a:(tp isSmall r).2.length+1<=T:=by
  have:=bS List.length hr;rw[cG]at this;lia
 have q:=kF (T:=T) (M.go _ x g) a;rw[<- hr,show c::(aP s++ds)++[x]=c::(aP s++(ds++[x])) by simp]at q;exact q
def RW(u q:Bytes):Prop:=∀x v,q=x::v->nameGoes (u++[x])=false
def RX(h:c=false):(a&&(b&&c))=false:=by rw[h];cases a<;>cases b<;>rfl
def CT(M:NM A mk)(f:isBig c=true)(b:iB s)(N:s=0->cW isSmall r)(I:r.length<=T):
  ∃u,R T ⟨A,mk (c::(aP s++[]))⟩ r=R T ⟨A,mk u⟩ (cN c s r).2/\nameOf u=(cN c s r).1/\RW u (cN c s r).2/\
   ((cN c s r).1≠none->classOf u=none)/\((cN c s r).1=none->u=c::(aP s++[])/\(cN c s r).2=r):=by
 obtain⟨a,q,B,d,k,l,m,E,F⟩:=rM r;by_cases e:a=[]
 ·subst e;have n:cN c s r=(none,q):=by
   unfold cN;rw[B];rfl
  have H:r=q:=m;rw[n];subst H;refine⟨_,Z,Np b,?_,λz=>absurd Z z,λ_=>⟨Z,Z⟩⟩;intro x v i;by_cases h:isDigit x=true
  ·have p:x=48:=by
    by_cases z:x=48;·exact z
    have:=E rfl x v i;rw[RK h z]at this;cases this
   have:=mR (c:=c) (s:=s) (ds:=[x]) (t:=[]) f b (by rw[dM,h];rfl) mS (λ_ _=>mS);rw[show c::(aP s++[])++[x]=c::(aP s++([x]++[])) by simp,this,p];rfl
  have:=mR (c:=c) (s:=s) (ds:=[]) (t:=[x]) f b rfl (λ_ _ z=>by cases z;exact al_12.mpr h) (λz _ _ _ y=>by cases y;exact N z x v i);rw[show c::(aP s++[])++[x]=c::(aP s++([]++[x])) by simp,this];rfl
 obtain⟨Q,U,W⟩:=tK d e k l;have n:cN c s r=(some ⟨c,s,numberOf a,(tp isSmall q).1⟩,(tp isSmall q).2):=by unfold cN;rw[B];dsimp only;rw[aA (by lia)]
 rw[n];obtain⟨C,J,D⟩:=rN q;have o:q.length<=T:=by
  have:=bS List.length m;rw[bF]at this;lia
 refine⟨c::(aP s++(a++aP (tp isSmall q).1)),?_,IC f b C d e k l,?_,λ_=>Nr b d e,λz=>by cases z⟩;·have w:=RV (T:=T) M f b (q:=q) a [] d k l (by rw[<- m];exact I);rw[<- m]at w;exact w.trans (Ob M f b d e k l o)
 intro x v i;dsimp only at i;by_cases j:(tp isSmall q).1=0
 ·have P:q=(tp isSmall q).2:=by rw[j]at D;exact D
  have O:=J j x v i;rw[j,show aP 0=[]from rfl,bU];by_cases h:isDigit x=true
  ·have L:a.length=3:=by
    by_cases z:a.length<3;·have:=F e z x v (P.trans i);rw[h]at this;cases this
    lia
   have:=mR (c:=c) (s:=s) (ds:=a++[x]) (t:=[]) f b (RS d h) mS (λ_ _=>mS);rw[show c::(aP s++a)++[x]=c::(aP s++(a++[x]++[])) by simp,this,show decide ((a++[x]).length<=3)=false from bN (by rw[bF,L,dB];decide)];rfl
  have:=mR (c:=c) (s:=s) (ds:=a) (t:=[x]) f b d (λ_ _ z=>by cases z;exact al_12.mpr h) (λ_ z=>absurd z e);rw[show c::(aP s++a)++[x]=c::(aP s++(a++[x])) by simp,this,dM,O];refine RX ?_;simp
 have K:isSmall (tp isSmall q).1=true:=by
  rcases C with z|z;·exact absurd z j
  exact z
 have G:aP (tp isSmall q).1=[(tp isSmall q).1]:=aA j;have:=mR (c:=c) (s:=s) (ds:=a) (t:=[(tp isSmall q).1,x]) f b d (λ_ _ z=>by cases z;exact yD K) (λ_ z=>absurd z e);rw[G,show c::(aP s++(a++[(tp isSmall q).1]))++[x]=c::(aP s++(a++[(tp isSmall q).1,x])) by simp,this];refine RX ?_;simp
end
def CU(h:cW isBig r):iA r=(none,r):=by
 rcases jN isBig r with⟨h1,h2,_⟩|⟨c,hc,hr,h1⟩;·unfold iA;rw[h1,h2];rfl
 have:=h c _ hr;rw[hc]at this;cases this
def yF(a:isBig c=true):iA (c::v)=(some (c,(tp isSmall v).1),(tp isSmall v).2):=by
 have e:tp isBig (c::v)=(c,v):=by rw[nW,aB a]
 unfold iA;rw[e];exact aA (RH a)
def yG(h:¬p c=true):cW p (c::v):=λx u q=>by cases q;exact al_12.mpr h
def Oc(l:r.length<=T):R T ⟨A,.eq d⟩ r=vR T A ((cJ r).1.map λn=> .one d (.alike n),(cJ r).2):=by
 cases r with
 |nil=>rfl
 |cons c v=>
  by_cases b:isBig c=true
  ·have h:(⟨A,.eq d⟩:Sought).step c=some ⟨A,.eqWord d [c]⟩:=by
    show(if isBig c=true then _ else _)=_;rw[aB b]
   have s:v.length<=T:=lK l;obtain⟨z,B,E⟩:=rN v;have p:(tp isSmall v).2.length<=T:=aZ (nX _ _) s;obtain⟨u,y,e,f,C,D⟩:=CT (T:=T) (RT A d) b z B p;have j:cJ (c::v)=cN c (tp isSmall v).1 (tp isSmall v).2:=by unfold cJ;rw[yF b]
   have k:(cN c (tp isSmall v).1 (tp isSmall v).2).2.length<=T:=aZ (yE _ _ _) p;rw[kF h l,IF (RT A d) b s,y,j];generalize cN c (tp isSmall v).1 (tp isSmall v).2=nb at e f k ⊢;obtain⟨o,q⟩:=nb;dsimp only at e f k ⊢;cases q with
   |nil=>
    rw[ID];show (match ((nameOf u).map λm=>Atom.one d (.alike m)) with
     |some a=>Except.ok (A++[a])
     |none=> .error T)=_
    rw[e];cases o<;>rfl
   |cons x w=>
    have g:=f x w rfl;have i:(⟨A,.eqWord d u⟩:Sought).step x=(nameOf u).bind λm=>Sought.behind ⟨A,.eqWord d u⟩ (.one d (.alike m)) x:=by
     show(if nameGoes (u++[x])=true then _ else _)=_;rw[g];rfl
    rw[e]at i;cases o with|none=>exact oY i|some m=>exact CP i k
  have h:(⟨A,.eq d⟩:Sought).step c=none:=by
   show(if isBig c=true then _ else _)=_;rw[aA b]
  have j:cJ (c::v)=(none,c::v):=by unfold cJ;rw[CU (yG b)]
  rw[oY h,j];rfl
def RY:∀(f:Nat) (a:List Name) (r:Bytes),a.length+(f+1)=NAMES->r.length<=T->
  R T ⟨A,.brace d a⟩ r=vR T A ((jM (f+1) a r).1.map λl=> .one d (.among l),(jM (f+1) a r).2)
 |f,a,[],_,_=>rfl
 |f,a,c::v,hf,hl=>by
  by_cases j:isBig c=true
  ·have s:(⟨A,.brace d a⟩:Sought).step c=some ⟨A,.braceWord d a [c]⟩:=by
    show(if isBig c=true then _ else _)=_;rw[aB j]
   have C:v.length<=T:=lK hl;obtain⟨E,F,I⟩:=rN v;have B:(tp isSmall v).2.length<=T:=aZ (nX _ _) C;obtain⟨u,D,n,p,G,H⟩:=CT (T:=T) (RU A d a) j E F B;have y:cJ (c::v)=cN c (tp isSmall v).1 (tp isSmall v).2:=by unfold cJ;rw[yF j]
   have k:(cN c (tp isSmall v).1 (tp isSmall v).2).2.length<=T:=aZ (yE _ _ _) B;rw[kF s hl,IF (RU A d a) j C,D];unfold jM;rw[y];generalize cN c (tp isSmall v).1 (tp isSmall v).2=nb at n p k ⊢;obtain⟨o,q⟩:=nb;dsimp only at n p k ⊢;cases q with
   |nil=>
    rw[ID];show Except.error T=_;cases o with
    |none=>rfl
    |some m=>
     dsimp only;by_cases i:f=0;·rw[aB i];rfl
     rw[aA i];rfl
   |cons x w=>
    have g:=p x w rfl;have e:(⟨A,.braceWord d a u⟩:Sought).step x=(nameOf u).bind λm=>if x=44/\a.length+1<NAMES then some ⟨A,.brace d (a++[m])⟩else if x=125 then some ⟨A,.done (.one d (.among (a++[m])))⟩else none:=by
     show(if nameGoes (u++[x])=true then _ else _)=_;rw[g];rfl
    rw[n]at e;cases o with
    |none=>exact oY e
    |some m=>
     dsimp only at e ⊢;change _=(if x=44/\a.length+1<NAMES then some (⟨A,.brace d (a++[m])⟩:Sought)else if x=125 then some ⟨A,.done (.one d (.among (a++[m])))⟩else none)at e;rw[cR,cR];by_cases b:x=125;·rw[aA (by rintro⟨z,_⟩;rw[z]at b;exact absurd b (by decide)),aB b]at e;rw[aB b,kF e k,CQ (lK k)];rfl
     rw[aA b];by_cases i:f=0;·rw[aA (by rintro⟨_,z⟩;rw[i]at hf;lia),aA b]at e;rw[aB i,oY e];rfl
     by_cases h:x=44;·rw[aB ⟨h,by lia⟩]at e;obtain⟨g',rfl⟩:∃g',f=g'+1:=⟨f-1,by lia⟩;rw[aA i,aB h,kF e k];exact RY g' (a++[m]) w (by rw[bF,dB];lia) (lK k)
     rw[aA (by rintro⟨z,_⟩;exact h z),aA b]at e;rw[aA i,aA h,oY e];rfl
  have s:(⟨A,.brace d a⟩:Sought).step c=none:=by
   show(if isBig c=true then _ else _)=_;rw[aA j]
  have y:cJ (c::v)=(none,c::v):=by unfold cJ;rw[CU (yG j)]
  rw[oY s];unfold jM;rw[y];rfl
def Od(i:isBig c=true)(C:v.length<=T):R T ⟨A,.word d [c]⟩ v=vR T A (nV d (c::v)):=by
 obtain⟨r,F,G⟩:=rN v;have j:(tp isSmall v).2.length<=T:=aZ (nX _ _) C;rw[IF (IE A d) i C];unfold nV;rw[yF i];dsimp only;by_cases b:(tk 42 (tp isSmall v).2).1=true
 ·rw[aB b];cases p:(tp isSmall v).2 with
  |nil=>rw[p]at b;cases b
  |cons x w=>
   rw[p,cR]at b;have e:x=42:=by
    by_cases z:x=42;·exact z
    rw[aA z]at b;cases b
   subst e;have g:nameGoes (c::(aP (tp isSmall v).1++[])++[42])=false:=by have:=mR (c:=c) (s:=(tp isSmall v).1) (ds:=[]) (t:=[42]) i r rfl (λ_ _ z=>by cases z;rfl) (λ_ _ _ _ y=>by cases y;rfl);rw[show c::(aP (tp isSmall v).1++[])++[42]=c::(aP (tp isSmall v).1++([]++[42])) by simp,this];rfl
   have h:(⟨A,.word d (c::(aP (tp isSmall v).1++[]))⟩:Sought).step 42=some ⟨A,.done (.one d (.class_ c (tp isSmall v).1))⟩:=by
    show(if nameGoes (c::(aP (tp isSmall v).1++[])++[42])=true then _ else if(42:UInt8)=42 then(classOf (c::(aP (tp isSmall v).1++[]))).map _ else _)=_;rw[g,Nq i r];rfl
   rw[p]at j;rw[kF h j,CQ (lK j)];rfl
 rw[aA b];obtain⟨u,D,k,l,n,E⟩:=CT (T:=T) (IE A d) i r F j;have B:(cN c (tp isSmall v).1 (tp isSmall v).2).2.length<=T:=aZ (yE _ _ _) j;have f:(cN c (tp isSmall v).1 (tp isSmall v).2).1=none->¬(tk 42 (cN c (tp isSmall v).1 (tp isSmall v).2).2).1=true:=λz=>by rw[(E z).2];exact b
 rw[D];generalize cN c (tp isSmall v).1 (tp isSmall v).2=nb at k l n B f ⊢;obtain⟨o,q⟩:=nb;dsimp only at k l n B f ⊢;cases q with
 |nil=>
  rw[ID];show (match ((nameOf u).map λm=>Atom.one d (.name m)) with
   |some a=>Except.ok (A++[a])
   |none=> .error T)=_
  rw[k];cases o<;>rfl
 |cons x w=>
  have g:=l x w rfl;have h:(⟨A,.word d u⟩:Sought).step x=if x=42 then(classOf u).map λo=>⟨A,.done (.one d o)⟩else(nameOf u).bind λm=>Sought.behind ⟨A,.word d u⟩ (.one d (.name m)) x:=by
   show(if nameGoes (u++[x])=true then _ else _)=_;rw[g];rfl
  rw[k]at h;cases o with
  |none=>
   have e:¬x=42:=λz=>f rfl (by rw[cR,aB z]);rw[aA e]at h;exact oY h
  |some m=>
   by_cases e:x=42
   ·rw[aB e,n (by intro z;cases z)]at h;rw[oY h];show _=if x=32/\A.length+1<ATOMS then R T ⟨A++[.one d (.name m)],.atom⟩ w else .error (T-(w.length+1))
    rw[aA (by rintro⟨z,_⟩;rw[z]at e;exact absurd e (by decide))]
   rw[aA e]at h;exact CP h B
def st(d:Bool):Reads:=if d=true then .bang else .atom
def Oe(A:Pattern)(d:Bool)(c:UInt8):(⟨A,st d⟩:Sought).step c=Sought.first ⟨A,st d⟩ d c:=by cases d<;>rfl
def RZ(k:d=false->¬(tk 33 r).1=true)(h:r.length<=T):R T ⟨A,st d⟩ r=vR T A (vP d r):=by
 cases r with
 |nil=>cases d<;>rfl
 |cons c v=>
  have i:v.length<=T:=lK h;have b:=Oe A d c;unfold Sought.first at b
  unfold vP;rw[cR,cR,cR];by_cases f:c=46;·subst f;have l:(⟨A,st d⟩:Sought).step 46=some ⟨A,if d=true then .done (.one true .any)else .dot⟩:=b;rw[kF l h];cases d with|true=>exact CQ i|false=>exact Oa i
  rw[aA f];by_cases e:c=61;·rw[aB e]at b;rw[aB e,kF b h];exact Oc i
  rw[aA e]at b;rw[aA e];by_cases a:c=123;·rw[aB a]at b;rw[aB a,kF b h];exact RY 15 [] v rfl i
  rw[aA a]at b;rw[aA a];show _=vR T A (nV d (c::v));by_cases j:isBig c=true;·rw[aB j]at b;rw[kF b h];exact Od j i
  rw[aA j,aA f]at b;have m:¬(c=33/\d=false):=by rintro⟨z,y⟩;exact k y (by rw[cR,aB z])
  rw[aA m]at b;rw[oY b];unfold nV;rw[CU (yG j)];rfl
def Of(b:r.length<=T):R T ⟨A,.atom⟩ r=vR T A (oX r):=by
 unfold oX;by_cases h:(tk 33 r).1=true
 ·cases r with
  |nil=>cases h
  |cons c v=>
   have a:c=33:=by
    by_cases z:c=33;·exact z
    rw[cR,aA z]at h;cases h
   subst a;rw[kF (y:=⟨A,.bang⟩) rfl b];exact RZ (d:=true) (λz=>by cases z) (lK b)
 rw[fO h,al_12.mpr h];exact RZ (d:=false) (λ_=>h) b
def SA:∀(f:Nat) (A:Pattern) (r:Bytes),A.length+(f+1)=ATOMS->r.length<=T->R T ⟨A,.atom⟩ r=match iV (f+1) A r with
  |(some P,_)=> .ok P
  |(none,q)=> .error (T-q.length):=λf A r i h=>by
 rw[Of h];have e:=aZ (Nw r) h;unfold iV;generalize oX r=x at e ⊢;obtain⟨o,q⟩:=x;cases o with
 |none=>rfl
 |some a=>
  dsimp only at e ⊢;show after T A a q=_;cases q with
  |nil=>rfl
  |cons c v=>
   show(if c=32/\A.length+1<ATOMS then R T ⟨A++[a],.atom⟩ v else .error (T-(v.length+1)))=_;rw[aA (show¬c::v=[] by intro z;cases z),cR];by_cases d:f=0;·rw[aB d,aA (by rintro⟨_,z⟩;rw[d]at i;lia)];rfl
   rw[aA d];by_cases b:c=32;·rw[aB ⟨b,by lia⟩,aB b];obtain⟨g,rfl⟩:∃g,f=g+1:=⟨f-1,by lia⟩;exact SA g (A++[a]) v (by rw[bF,dB];lia) (lK e)
   rw[aA (by rintro⟨z,_⟩;exact b z),aA b];rfl
def Og(b:Bytes):readPattern b=match iV 64 [] b with
  |(some P,_)=> .ok P
  |(none,q)=> .error (b.length-q.length):=by
 rw[<- SA (T:=b.length) 63 [] b rfl (aK _)];unfold R readPattern;rw[nN];rfl
def SB:∀(f:Nat) (A:List Atom) (r:Bytes) (P:List Atom),(iV f A r).1=some P->A.length+f<=64->P.length<=64
 |0,_,_,_,h,_=>by cases h
 |f+1,A,r,P,h,hf=>by
  unfold iV at h;split at h;·cases h
  rename_i a q e;split at h;·cases h;rw[bF,dB];lia
  split at h;·cases h
  split at h;·exact SB f _ _ P h (by rw[bF,dB];lia)
  cases h
def eD(c:UInt8):Bytes->List Bytes
 | []=>[[]]
 |x::r=>if x=c then []::eD c r else match eD c r with| []=>[[x]]|h::t=>(x::h)::t
def rO(c x:UInt8)(r:Bytes):eD c (x::r)=if x=c then []::eD c r else match eD c r with| []=>[[x]]|h::t=>(x::h)::t:=rfl
def qF(c:UInt8):∀r:Bytes,eD c r≠[]
 | []=>by intro h;cases h
 |x::r=>by
  rw[rO];split;·intro h;cases h
  split;·intro h;cases h
  intro h;cases h
def IG(c:UInt8):∀(b:Bytes) (p n:Nat) (w:Bytes),(cutBy c p n w b).map (·.2)=match eD c b with| []=>[]|h::t=>(w.reverse++h)::t
 | [],p,n,w=>by
  show [w.reverse]=[w.reverse++[]];rw[bU]
 |x::r,p,n,w=>by
  rw[rO];by_cases e:x=c
  ·rw[aB e];show(if x=c then(p,w.reverse)::cutBy c (p+n+1) 0 [] r else cutBy c p (n+1) (x::w) r).map (·.2)=_
   rw[aB e,fE,IG c r];have:=qF c r;cases a:eD c r with|nil=>exact absurd a this|cons h t=>dsimp only;rw[bU];rfl
  rw[aA e];show(if x=c then(p,w.reverse)::cutBy c (p+n+1) 0 [] r else cutBy c p (n+1) (x::w) r).map (·.2)=_
  rw[aA e,IG c r];have:=qF c r;cases a:eD c r with|nil=>exact absurd a this|cons h t=>dsimp only;rw[oO,dQ];rfl
def SC(c:UInt8)(p:Nat)(b:Bytes):(cut c p [] b).map (·.2)=eD c b:=by unfold cut;rw[IG];cases a:eD c b with|nil=>exact absurd a (qF c b)|cons h t=>rfl
def Free(c:UInt8)(l:Bytes):Prop:=∀x∈l,x≠c
def Free.tail(h:Free c (x::l)):Free c l:=λy a=>h y (cA _ a)
def Free.head(h:Free c (x::l)):x≠c:=h x (cF ..)
def SD:∀{l:Bytes},Free c l->eD c l=[l]
 | [],_=>rfl
 |x::l,h=>by rw[rO,aA h.head,SD h.tail]
def SF(t:Bytes):∀{l:Bytes},Free c l->eD c (l++c::t)=l::eD c t
 | [],_=>by
  show eD c (c::t)=[]::eD c t;rw[rO,aB rfl]
 |x::l,h=>by
  show eD c (x::(l++c::t))=_;rw[rO,aA h.head,SF t h.tail]
def CV(c:UInt8):∀t:Bytes,Free c t\/∃l r,t=l++c::r/\Free c l
 | []=> .inl λ_ h=>by cases h
 |x::t=>by
  by_cases e:x=c;·exact .inr ⟨[],t,by rw[e];rfl,λ_ h=>by cases h⟩
  rcases CV c t with h|⟨l,r,h1,h2⟩
  ·refine .inl λy a=> ?_;rcases al_18.mp a with rfl|a
   ·exact e
   exact h y a
  refine .inr ⟨x::l,r,by rw[h1];rfl,λy a=> ?_⟩;rcases al_18.mp a with rfl|a
  ·exact e
  exact h2 y a
structure Dr where
 name:Name
 sounds:List Bytes
 rows:List (List Bool)
def Dr.sign(d:Dr):Sign:=⟨d.name,⟨(d.rows.headD []).length,d.rows.length,d.rows⟩,d.sounds⟩
structure Rd where
 done:Signs
 now:Option Dr
def Oh(d:Draft):Dr:=⟨d.name,d.sounds,d.rows⟩
def erase(z:Reading):Rd:=⟨z.done,z.now.map Oh⟩
def fP:Except ε α->Option α
 | .ok x=>some x
 | .error _=>none
def lV(z:Rd):Option Signs:=match z.now with|none=>some z.done|some d=>if d.rows=[]then none else if d.sign.shape.tight=false then none else some (z.done++[d.sign])
def mT:List Bytes->List Bytes->Option (List Bytes)
 |had,[]=>some had
 |had,x::r=>if isSound x=false then none else if had.contains x=true then none else if SOUNDS<=had.length then none else mT (had++[x]) r
def iC:Bytes->Option (List Bool)
 | []=>some []
 |c::r=>if c=35\/c=46 then(iC r).map λl=>(c==35)::l else none
def jG(a:Signs)(n:Name):Bool:=match a.getLast? with|some s=>s.name.before n|none=>true
def rP(b:List (List Bool))(c:List Bool):Bool:=match b with| []=>decide (SIDE<c.length)|a::_=>c.length !=a.length
def tL(z:Rd)(l:Bytes):Option Rd:=match z.now with|none=>none|some d=>if l=[]then none else(iC l).bind λc=>if rP d.rows c=true then none else if SIDE<=d.rows.length then none else some ⟨z.done,some ⟨d.name,d.sounds,d.rows++[c]⟩⟩
def CW(z:Rd)(u:List Bytes):Option Rd:=(lV z).bind λa=>match u with| []=>none|w::u=>(nameOf w).bind λn=>if jG a n=false then none else(mT [] u).bind λs=>if SIGNS<=a.length then none else some ⟨a,some ⟨n,s,[]⟩⟩
def rQ(z:Rd)(l:Bytes):Option Rd:=match eD 32 l with| []=>none|f::u=>if f=SIGN then CW z u else tL z l
def SE:Rd->List Bytes->Option Signs
 |z,[]=>(lV z).bind λl=>if l=[]then none else some l
 |z,[x]=>if x=[]then(lV z).bind λl=>if l=[]then none else some l else none
 |z,x::r=>(rQ z x).bind λy=>SE y r
def IH(z:Reading)(p:Nat):fP (z.closed p)=lV (erase z):=by
 obtain⟨done,a⟩:=z;cases a with
 |none=>rfl
 |some d=>
  show fP (if d.rows=[]then fault 1 p else if d.sign.shape.tight=false then fault 4 d.place else .ok (done++[d.sign]))=if d.rows=[]then none else if d.sign.shape.tight=false then none else some (done++[d.sign])
  split;·rfl
  split<;>rfl
def SG:∀(l:List (Nat×Bytes)) (a:List Bytes),fP (soundsAt a l)=mT a (l.map (·.2))
 | [],a=>rfl
 |x::r,a=>by
  show fP (if isSound x.2=false then fault 1 x.1 else if a.contains x.2=true then fault 2 x.1 else if SOUNDS<=a.length then fault 3 x.1 else soundsAt (a++[x.2]) r)=if isSound x.2=false then none else if a.contains x.2=true then none else if SOUNDS<=a.length then none else mT (a++[x.2]) (r.map (·.2))
  split;·rfl
  split;·rfl
  split;·rfl
  exact SG r _
def tM(x:Except ε α)(f:α->Except ε β):fP (x >>= f)=(fP x).bind λa=>fP (f a):=by cases x<;>rfl
def SH:∀(l:Bytes) (p:Nat),fP (cellsAt p l)=iC l
 | [],p=>rfl
 |c::r,p=>by
  show fP (if c=35\/c=46 then(do let l<-cellsAt (p+1) r;return(c==35)::l)else fault 1 p)=if c=35\/c=46 then(iC r).map λl=>(c==35)::l else none
  split;·rw[tM,SH r (p+1)];cases iC r<;>rfl
  rfl
def Oi(z:Reading)(p e:Nat)(l:Bytes):(fP (lineAt z p e l)).map erase=rQ (erase z) l:=by
 unfold lineAt rQ;rw[<- SC 32 p l];cases j:cut 32 p [] l with
 |nil=>rfl
 |cons f r=>
  show _=if f.2=SIGN then CW (erase z) (r.map (·.2))else tL (erase z) l
  dsimp only;by_cases a:f.2=SIGN
  ·rw[aB a,aB a,tM,IH];unfold CW;cases lV (erase z)with
   |none=>rfl
   |some had=>
    cases r with
    |nil=>rfl
    |cons w u=>
     show Option.map erase (fP (match nameOf w.2 with
      |none=>fault 1 w.1
      |some n=>if jG had n=false then fault 2 w.1 else do
       let s<-soundsAt [] u
       if SIGNS<=had.length then fault 3 p else return⟨had,some ⟨p,n,s,[]⟩⟩))=(nameOf w.2).bind λn=>if jG had n=false then none else(mT [] (u.map (·.2))).bind λs=>if SIGNS<=had.length then none else some ⟨had,some ⟨n,s,[]⟩⟩
     cases nameOf w.2 with
     |none=>rfl
     |some n=>
      dsimp only [Option.bind];by_cases o:jG had n=false;·rw[aB o,aB o];rfl
      rw[aA o,aA o,tM,SG];cases mT [] (u.map (·.2))with
      |none=>rfl
      |some s=>
       dsimp only [Option.bind];by_cases q:SIGNS<=had.length;·rw[aB q,aB q];rfl
       rw[aA q,aA q];rfl
  rw[aA a,aA a];unfold tL;obtain⟨done,i⟩:=z;cases i with
  |none=>rfl
  |some d=>
   show Option.map erase (fP (if l=[] then fault 1 p else do
    let c<-cellsAt p l
    if rP d.rows c=true then fault 5 p else if SIDE<=d.rows.length then fault 3 p else return⟨done,some {d with rows:=d.rows++[c]}⟩))=if l=[]then none else(iC l).bind λc=>if rP d.rows c=true then none else if SIDE<=d.rows.length then none else some ⟨done,some ⟨d.name,d.sounds,d.rows++[c]⟩⟩
   by_cases h:l=[];·rw[aB h,aB h];rfl
   rw[aA h,aA h,tM,SH];cases iC l with
   |none=>rfl
   |some c=>
    dsimp only [Option.bind];by_cases b:rP d.rows c=true;·rw[aB b,aB b];rfl
    rw[aA b,aA b];by_cases q:SIDE<=d.rows.length;·rw[aB q,aB q];rfl
    rw[aA q,aA q];rfl
def SJ(T:Nat):∀(L:List (Nat×Bytes)) (z:Reading),(fP (linesAt z L)).bind (λy=>(fP (y.closed T)).bind λl=>if l=[]then none else some l)=SE (erase z) (L.map (·.2))
 | [],z=>by
  show(fP (z.closed T)).bind _=_;rw[IH];rfl
 | [x],z=>by
  show (fP (if x.2=[] then .ok z else match lineAt z x.1 (x.1+x.2.length) x.2 with
   | .error e=> .error e
   | .ok _=>fault 1 (x.1+x.2.length))).bind _=if x.2=[]then _ else none
  by_cases e:x.2=[]
  ·rw[aB e,aB e];show(fP (z.closed T)).bind _=_;rw[IH]
  rw[aA e,aA e];cases lineAt z x.1 (x.1+x.2.length) x.2<;>rfl
 |x::y::r,z=>by
  show(fP (lineAt z x.1 (x.1+x.2.length) x.2 >>= λu=>linesAt u (y::r))).bind _=(rQ (erase z) x.2).bind λu=>SE u ((y::r).map (·.2))
  rw[tM,<- Oi z x.1 (x.1+x.2.length) x.2];cases fP (lineAt z x.1 (x.1+x.2.length) x.2)with
  |none=>rfl
  |some u=>exact SJ T (y::r) u
def Oj(t:Bytes):fP (readList t)=SE ⟨[],none⟩ (eD 10 t):=by
 have h:=SJ t.length (cut LF 0 [] t) ⟨[],none⟩;rw[SC]at h;rw[show SE ⟨[],none⟩ (eD 10 t)=SE (erase ⟨[],none⟩) (eD LF t)from rfl,<- h];unfold readList;rw[tM];cases fP (linesAt ⟨[],none⟩ (cut LF 0 [] t))with
 |none=>rfl
 |some z=>
  dsimp only [Option.bind];rw[tM];cases fP (z.closed t.length)with
  |none=>rfl
  |some l=>
   dsimp only [Option.bind];split<;>rfl
def S(z:Rd)(t:Bytes):Option Signs:=SE z (eD 10 t)
def Ol(z:Rd):S z []=(lV z).bind λl=>if l=[]then none else some l:=rfl
def II(h:Free 10 l):S z (l++10::t)=(rQ z l).bind λy=>S y t:=by unfold S;rw[SF t h];cases a:eD 10 t with|nil=>exact absurd a (qF 10 t)|cons=>rfl
def IJ(h:Free 10 l)(n:l≠[]):S z l=none:=by
 unfold S;rw[SD h];show(if l=[]then _ else none)=none;rw[aA n]
def dI:Nat->Bytes->Bytes×Bytes
 |0,r=>([],r)
 |f+1,r=>if(tp isSmall r).1=0 then([],r)else((tp isSmall r).1::(dI f (tp isSmall r).2).1,(dI f (tp isSmall r).2).2)
def fC:Nat->List Bytes->Bytes->Option (List Bytes×Bytes)
 |0,had,r=>if(tk 32 r).1=true then none else some (had,r)
 |f+1,had,r=>if(tk 32 r).1=true then
   (if(dI 8 (tk 32 r).2).1=[]\/had.contains (dI 8 (tk 32 r).2).1=true then none else fC f (had++[(dI 8 (tk 32 r).2).1]) (dI 8 (tk 32 r).2).2)
  else some (had,r)
def kG:Bytes->Bytes->Option Bytes
 | [],r=>some r
 |k::ks,r=>if(tk k r).1=true then kG ks (tk k r).2 else none
def mU(r:Bytes):Option ((Name×List Bytes)×Bytes):=(kG [115,105,103,110,32] r).bind λa=>match cJ a with|(none,_)=>none|(some n,r2)=>(fC 8 [] r2).bind λx=>if(tk 10 x.2).1=true then some ((n,x.1),(tk 10 x.2).2)else none
def cD(c:UInt8):Bool:=c==35||c==46
def gH:Nat->Bytes->List Bool×Bytes
 |0,r=>([],r)
 |f+1,r=>if(tp cD r).1=0 then([],r)else(((tp cD r).1==35)::(gH f (tp cD r).2).1,(gH f (tp cD r).2).2)
def jO(r:Bytes):Option (List Bool×Bytes):=if(tk 10 (gH 32 r).2).1=true then some ((gH 32 r).1,(tk 10 (gH 32 r).2).2)else none
def fF:Nat->List (List Bool)->Bytes->Option (List (List Bool)×Bytes)
 |0,rows,r=>some (rows,r)
 |f+1,rows,r=>if(tp cD r).1=0 then some (rows,r)else(jO r).bind λx=>fF f (rows++[x.1]) x.2
def CY(a:List (List Bool)):Bool:=a.all λr=>r.length==(a.headD []).length
def rR(a:List (List Bool)):Bool:=(a.headD []).any id&&((a.getLastD []).any id&&(a.any (λr=>r.headD false)&&a.any λr=>r.getLastD false))
def fQ(a:List (List Bool)):Bool:= !a.isEmpty&&(CY a&&rR a)
def tP(n:Name)(s:List Bytes)(a:List (List Bool)):Sign:=⟨n,⟨(a.headD []).length,a.length,a⟩,s⟩
def kH(r:Bytes):Option (Sign×Bytes):=(mU r).bind λx=>(fF 32 [] x.2).bind λy=>if fQ y.1=true then some (tP x.1.1 x.1.2 y.1,y.2)else none
def dD:Nat->Signs->Bytes->Option Signs
 |0,had,r=>if r=[]then(if had=[]then none else some had)else none
 |f+1,had,r=>if r=[]then(if had=[]then none else some had)else(kH r).bind λx=>if had.length=512\/jG had x.1.name=false then none else dD f (had++[x.1]) x.2
def qG(c:UInt8):Prop:=c=32\/c=10
def NoSep(l:Bytes):Prop:=∀c∈l,¬qG c
def tQ(l:Bytes):Prop:=∃c v,l=c::v/\qG c
def NoSep.tail(h:NoSep (x::l)):NoSep l:=λy a=>h y (cA _ a)
def NoSep.head(h:NoSep (x::l)):¬qG x:=h x (cF ..)
def DA:∀{h g y z:Bytes},NoSep h->NoSep g->tQ y->tQ z->h++y=g++z->h=g/\y=z
 | [],[],_,_,_,_,_,_,e=>⟨Z,e⟩
 | [],x::g,y,z,_,n,⟨c,v,d,s⟩,_,e=>by rw[d]at e;cases e;exact absurd s n.head
 |x::h,[],y,z,n,_,_,⟨c,v,d,s⟩,e=>by rw[d]at e;cases e;exact absurd s n.head
 |x::h,w::g,y,z,n,m,a,b,e=>by
  injection e with d f;obtain⟨i,j⟩:=DA n.tail m.tail a b f;exact⟨by rw[d,i],j⟩
def IK(h:isSmall c=true):¬qG c:=by rintro(rfl|rfl)<;>exact absurd h (by decide)
def SK(h:isDigit c=true):¬qG c:=by rintro(rfl|rfl)<;>exact absurd h (by decide)
def Om(h:isBig c=true):¬qG c:=by rintro(rfl|rfl)<;>exact absurd h (by decide)
def SL(h:tQ l):cW isSmall l:=λc v e=>by obtain⟨d,u,a,s⟩:=h;rw[e]at a;cases a;cases q:isSmall c with|false=>rfl|true=>exact absurd s (IK q)
def On(h:tQ l):cW isDigit l:=λc v e=>by obtain⟨d,u,a,s⟩:=h;rw[e]at a;cases a;cases q:isDigit c with|false=>rfl|true=>exact absurd s (SK q)
def SM(h:iB s):NoSep (aP s):=λc a=>by
 rcases h with rfl|h;·cases a
 rw[show aP s=[s]from aA (kE h)]at a;rcases al_18.mp a with rfl|a
 ·exact IK h
 cases a
def NoSep.app(h:NoSep a)(g:NoSep b):NoSep (a++b):=λc d=>by
 rcases al_51.mp d with q|q;·exact h c q
 exact g c q
def Oo(h:ds.all isDigit=true):NoSep ds:=λc a=>SK (al_53.mp h c a)
def SN(h:ds.all isSmall=true):NoSep ds:=λc a=>IK (al_53.mp h c a)
def SO(a:iB s)(n:s=0->cW isSmall t):tp isSmall (aP s++t)=(s,t):=by
 rcases a with rfl|a
 ·show tp isSmall t=(0,t);cases t with|nil=>rfl|cons c v=>rw[nW,n rfl c v rfl];rfl
 rw[show aP s=[s]from aA (kE a)];show tp isSmall (s::t)=_;rw[nW,aB a]
def rS:∀{a b x y:Bytes},a++x=b++y->a.all p=true->b.all p=true->a.length<=b.length->(a.length<b.length->cW p x)->a=b/\x=y
 | [],[],_,_,e,_,_,_,_=>⟨Z,e⟩
 | [],d::b,x,y,e,_,hb,_,n=>by rw[dM,cB]at hb;have:=n (Nat.succ_pos _) d (b++y) e;rw[hb.1]at this;cases this
 |d::a,[],_,_,_,_,_,h,_=>absurd h (Nat.not_succ_le_zero _)
 |d::a,c::b,x,y,e,ha,hb,hl,n=>by
  injection e with f i;rw[dM,cB]at ha hb;obtain⟨j,k⟩:=rS i ha.2 hb.2 (Nat.le_of_succ_le_succ hl) (λz=>n (Nat.succ_lt_succ z));exact⟨by rw[f,j],k⟩
def Op(b:ds.all isDigit=true)(m:ds≠[])(v:ds.length<=3)(l:ds.head?≠some 48)(n:cW isDigit t):number (ds++t)=(numberOf ds,t):=by
 obtain⟨f,q,i,h,s,u,c,j,k⟩:=rM (ds++t);have a:f=ds/\q=t:=by
  by_cases z:f=[]
  ·subst z;have e:ds++t=q:=c;cases ds with
   |nil=>exact absurd rfl m
   |cons d ds=>
    rw[dM,cB]at b;have:=j rfl d (ds++t) e.symm;rw[RK b.1 (λw=>l (by rw[w];rfl))]at this;cases this
  by_cases o:f.length<=ds.length;·exact rS c.symm h b o (λw=>k z (by lia))
  obtain⟨p,r⟩:=rS c b h (by lia) (λ_=>n);exact⟨p.symm,r.symm⟩
 rw[i,a.1,a.2]
def SQ(p:UInt8->Bool):∀l:Bytes,(l.takeWhile p).all p=true
 | []=>rfl
 |y::v=>by
  rw[List.takeWhile_cons];split;·rename_i e;rw[dM,e,SQ p v];rfl
  rfl
def Oq(h:nameOf w=some n):∃c s k ds,w=c::(aP s++(ds++aP k))/\n=⟨c,s,numberOf ds,k⟩/\isBig c=true/\iB s/\iB k/\ds.all isDigit=true/\ds≠[]/\ds.length<=3/\ds.head?≠some 48:=by
 cases w with
 |nil=>cases h
 |cons c r=>
  rw[CM]at h;dsimp only at h;generalize (if mQ r=0 then r else r.drop 1)=r' at h;split at h
  ·rename_i o;obtain⟨e,f,d,_,l,m⟩:=o;have j:=cV h;have i:(List.takeWhile isDigit r').all isDigit=true:=SQ _ _;clear h;generalize List.takeWhile isDigit r'=ds at e f d l m i j;generalize (List.drop ds.length r').headD 0=k at l m j;have a:(isBig c&&((mQ r==0||isSmall (mQ r))&&(decide (1<=numberOf ds)&&(decide (numberOf ds<=999)&&(k==0||isSmall k)))))=true:=l;simp only [cB,mH,al_41]at a;have b:c::(aP (mQ r)++(decimal (numberOf ds)++aP k))=c::r:=m;rw[(tK i e f d).1]at b;exact⟨c,mQ r,k,ds,b.symm,j.symm,a.1,a.2.1,a.2.2.2.2,i,e,f,d⟩
  cases h
def Os(h:nameOf w=some n)(i:tQ x):cJ (w++x)=(some n,x):=by
 obtain⟨c,s,k,ds,rfl,rfl,l,m,a,d,b,f,e⟩:=Oq h;have j:c::(aP s++(ds++aP k))++x=c::(aP s++(ds++(aP k++x))):=by simp
 have p:cW isDigit (aP k++x):=by
  rcases a with rfl|a;·exact On i
  rw[show aP k=[k]from aA (kE a)];exact λ_ _ z=>by cases z;exact yD a
 have o:s=0->cW isSmall (ds++(aP k++x)):=HZ d λ_ z=>absurd z b;obtain⟨q,r,u⟩:=tK d b f e;unfold cJ;rw[j,yF l,SO m o];dsimp only;unfold cN;rw[Op d b f e p];dsimp only;rw[aA (by lia),SO a λ_=>SL i]
def SR(h:cJ r=(some n,q)):∃u,r=u++q/\nameOf u=some n/\NoSep u:=by
 unfold cJ at h;rcases jN isBig r with⟨_,_,h3⟩|⟨c,hc,hr,_⟩
 ·rw[CU h3]at h;cases h
 generalize (tp isBig r).2=v at hr;subst hr;rw[yF hc]at h;dsimp only at h;obtain⟨f,w,i⟩:=rN v;generalize (tp isSmall v).1=s at h f w i;generalize (tp isSmall v).2=v2 at h w i;obtain⟨o,j,x,a,l,m,A,E,F⟩:=rM v2;unfold cN at h;rw[x]at h;dsimp only at h;by_cases z:o=[];·rw[z]at h;cases h
 obtain⟨B,C,D⟩:=tK a z l m;rw[aA (by lia)]at h;obtain⟨d,p,e⟩:=rN j;generalize (tp isSmall j).1=k at h d p e;generalize (tp isSmall j).2=q3 at h p e;cases h;refine⟨c::(aP s++(o++aP k)),?_,IC hc f d a z l m,?_⟩;·rw[i,A,e];simp
 intro y b;rcases al_18.mp b with rfl|b
 ·exact Om hc
 exact((SM f).app ((Oo a).app (SM d))) y b
def Ot(i:NoSep w)(b:tQ x):(∃n,nameOf w=some n/\cJ (w++x)=(some n,x))\/(nameOf w=none/\∀n q,cJ (w++x)=(some n,q)->∃c v,q=c::v/\¬qG c):=by
 cases h:nameOf w with
 |some n=>exact .inl ⟨n,Z,Os h b⟩
 |none=>
  refine .inr ⟨Z,λn q e=> ?_⟩;obtain⟨u,a,f,d⟩:=SR e;cases q with
  |nil=>
   obtain⟨c,v,ex,s⟩:=b;rw[ex,bU]at a;exact absurd s (d c (by rw[<- a];simp))
  |cons c v=>
   refine⟨c,v,Z,λs=> ?_⟩;obtain⟨j,_⟩:=DA i d b ⟨c,v,Z,s⟩ a;rw[j,f]at h;cases h
def yH:∀(f:Nat) (r:Bytes),r=(dI f r).1++(dI f r).2/\(dI f r).1.all isSmall=true/\(dI f r).1.length<=f/\((dI f r).1.length<f->cW isSmall (dI f r).2)
 |0,r=>⟨Z,Z,aK _,λh=>absurd h (mF _)⟩
 |f+1,r=>by
  unfold dI;rcases jN isSmall r with⟨h1,h2,h3⟩|⟨c,hc,hr,h1⟩
  ·rw[aB h1];exact⟨Z,Z,bH _,λ_=>h3⟩
  rw[aA (by rw[h1];exact kE hc),h1];obtain⟨a,b,d,e⟩:=yH f (tp isSmall r).2;refine⟨?_,by rw[dM,hc,b];rfl,kR d,λz=>e (Nat.lt_of_succ_lt_succ z)⟩;dsimp only [List.cons_append];rw[<- a];exact hr
def Ou(j:s.all isSmall=true)(l:s.length<=f)(k:cW isSmall y):dI f (s++y)=(s,y):=by
 obtain⟨a,b,i,c⟩:=yH f (s++y);generalize dI f (s++y)=x at a b i c;obtain⟨u,q⟩:=x;dsimp only at a b i c;by_cases h:u.length<=s.length;·obtain⟨d,e⟩:=rS a.symm b j h (λz=>c (by lia));rw[d,e]
 obtain⟨d,e⟩:=rS a j b (by lia) (λ_=>k);rw[d,e]
def iN:List Bytes->Bytes->Bytes
 | [],q=>10::q
 |s::us,q=>32::(s++iN us q)
def yI:∀(us:List Bytes) (q:Bytes),tQ (iN us q)
 | [],q=>⟨10,q,Z,.inr Z⟩
 |s::us,q=>⟨32,s++iN us q,Z,.inl Z⟩
def SS(q:Bytes):∀l:Bytes,l++10::q=(eD 32 l).headD []++iN (eD 32 l).tail q
 | []=>rfl
 |x::l=>by
  have a:=SS q l;rw[rO];cases b:eD 32 l with
  |nil=>exact absurd b (qF 32 l)
  |cons h t=>
   rw[b]at a;dsimp only [List.headD,List.head?,Option.getD,List.tail]at a ⊢;by_cases e:x=32
   ·rw[aB e,e];show 32::(l++10::q)=[]++iN (h::t) q;rw[a];rfl
   rw[aA e];show x::(l++10::q)=x::h++iN t q;rw[a];rfl
def ST:∀{l:Bytes},Free 10 l->∀s∈eD 32 l,NoSep s
 | [],_,s,hs=>by
  rcases al_18.mp hs with rfl|hs;·exact λ_ h=>by cases h
  cases hs
 |x::l,hl,s,hs=>by
  have a:=ST hl.tail;rw[rO]at hs;by_cases e:x=32
  ·rw[aB e]at hs;rcases al_18.mp hs with rfl|hs
   ·exact λ_ h=>by cases h
   exact a s hs
  rw[aA e]at hs;cases c:eD 32 l with
  |nil=>exact absurd c (qF 32 l)
  |cons h t=>
   rw[c]at hs a;rcases al_18.mp hs with rfl|hs
   ·intro y b;rcases al_18.mp b with rfl|b
    ·rintro(z|z)
     ·exact e z
     exact hl.head z
    exact a h (cF ..) y b
   exact a s (cA _ hs)
def tR(x:Option (List Bytes×Bytes)):Option (List Bytes×Bytes):=x.bind λx=>if(tk 10 x.2).1=true then some (x.1,(tk 10 x.2).2)else none
def SU(h:¬qG c):tR (fC f a (c::v))=none:=by
 have b:¬(tk 32 (c::v)).1=true:=by rw[cR,aA λz=>h (.inl z)];exact bX
 have d:fC f a (c::v)=some (a,c::v):=by cases f with|zero=>unfold fC;rw[aA b]|succ f=>unfold fC;rw[aA b]
 rw[d];show(if(tk 10 (c::v)).1=true then _ else none)=none;rw[cR,aA λz=>h (.inr z)];rfl
def SV:∀(us:List Bytes) (f:Nat) (a:List Bytes) (q:Bytes),a.length+f=8->(∀s∈us,NoSep s)->tR (fC f a (iN us q))=(mT a us).map λs=>(s,q)
 | [],f,a,q,_,_=>by
  have e:fC f a (10::q)=some (a,10::q):=by cases f<;>rfl
  show tR (fC f a (10::q))=_;rw[e];rfl
 |s::us,f,a,q,hf,hn=>by
  have A:=hn s (cF ..);have n:∀s∈us,NoSep s:=λx C=>hn x (cA _ C)
  show tR (fC f a (32::(s++iN us q)))=(if isSound s=false then none else if a.contains s=true then none else if SOUNDS<=a.length then none else mT (a++[s]) us).map _;cases f with
  |zero=>
   show none=_;have l:SOUNDS<=a.length:=by show 8<=a.length;lia
   split;·rfl
   split;·rfl
   first|rfl|(rw[aB l];rfl)
  |succ f=>
   have l:¬SOUNDS<=a.length:=by show¬8<=a.length;lia
   have w:fC (f+1) a (32::(s++iN us q))=if(dI 8 (s++iN us q)).1=[]\/a.contains (dI 8 (s++iN us q)).1=true then none else fC f (a++[(dI 8 (s++iN us q)).1]) (dI 8 (s++iN us q)).2:=rfl
   rw[w];by_cases b:s.all isSmall=true/\s.length<=8
   ·rw[Ou b.1 b.2 (SL (yI us q))];dsimp only;by_cases j:s=[];·rw[aB (.inl j),j];rfl
    have m:isSound s=true:=by
     have:1<=s.length:=by cases s with|nil=>exact absurd rfl j|cons=>exact kR (bH _)
     show(decide (1<=s.length)&&(decide (s.length<=8)&&s.all isSmall))=true;rw[bP this,bP b.2,b.1];rfl
    rw[aA (show¬isSound s=false by rw[m];intro z;cases z),aA l];by_cases d:a.contains s=true;·rw[aB (show s=[]\/a.contains s=true from .inr d),aB d];rfl
    rw[aA (show¬(s=[]\/a.contains s=true) by rintro(z|z);exact j z;exact d z),aA d];exact SV us f (a++[s]) q (by rw[bF,dB];lia) n
   have m:isSound s=false:=by
    cases z:isSound s with
    |false=>rfl
    |true=>
     have o:(decide (1<=s.length)&&(decide (s.length<=8)&&s.all isSmall))=true:=z;simp only [cB,gK]at o;exact absurd ⟨o.2.2,o.2.1⟩ b
   rw[aB m];obtain⟨h,i,k,p⟩:=yH 8 (s++iN us q);generalize dI 8 (s++iN us q)=x at h i k p;obtain⟨u,v⟩:=x;dsimp only at h i k p ⊢;split;·rfl
   have B:∃c y,v=c::y/\¬qG c:=by
    cases v with
    |nil=>
     obtain⟨c,y,ex,sp⟩:=yI us q;rw[ex,bU]at h;exact absurd sp (SN i c (by rw[<- h];simp))
    |cons c y=>
     refine⟨c,y,Z,λsp=> ?_⟩;obtain⟨r,_⟩:=DA A (SN i) (yI us q) ⟨c,y,Z,sp⟩ h;exact b ⟨by rw[r];exact i,by rw[r];exact k⟩
   obtain⟨c,y,rfl,d⟩:=B;exact SU d
def hE(l:Bytes):Option (Name×List Bytes):=match eD 32 l with|f::w::u=>if f=SIGN then(nameOf w).bind λn=>(mT [] u).map λs=>(n,s)else none|_=>none
def DB:∀(b r:Bytes),(∃a,r=b++a/\kG b r=some a)\/(kG b r=none/\∀a,r≠b++a)
 | [],r=> .inl ⟨r,Z,Z⟩
 |k::b,[]=> .inr ⟨Z,λa z=>by cases z⟩
 |k::b,x::r=>by
  unfold kG;rw[cR];by_cases e:x=k
  ·rw[aB e,aB rfl];rcases DB b r with⟨a,h1,h2⟩|⟨h1,h2⟩
   ·exact .inl ⟨a,by rw[e,h1];rfl,h2⟩
   exact .inr ⟨h1,λa z=>h2 a (by injection z)⟩
  rw[aA e,aA bX];exact .inr ⟨Z,λa z=>e (by injection z)⟩
def Ov:NoSep SIGN:=by
 intro c a;have e:SIGN=[115,105,103,110]:=by decide
 rw[e]at a;simp only [al_18,List.not_mem_nil,or_false]at a;rcases a with rfl|rfl|rfl|rfl<;>(rintro(z|z)<;>exact absurd z (by decide))
def IL(r:Bytes):mU r=(kG [115,105,103,110,32] r).bind λr1=>match cJ r1 with
  |(none,_)=>none
  |(some n,r2)=>(tR (fC 8 [] r2)).map λx=>((n,x.1),x.2):=by
 unfold mU;congr 1;funext r1;cases cJ r1 with
 |mk o r2=>
  cases o with
  |none=>rfl
  |some n=>
   dsimp only;unfold tR;cases fC 8 [] r2 with
   |none=>rfl
   |some x=>
    dsimp only [Option.bind];split<;>rfl
def Ow(m:Free 10 l):mU (l++10::q)=(hE l).map λx=>(x,q):=by
 have a:=ST m;rw[SS q l,IL];unfold hE;cases e:eD 32 l with
 |nil=>exact absurd e (qF 32 l)
 |cons h t=>
  rw[e]at a;dsimp only [List.headD,List.head?,Option.getD,List.tail];have r:=a h (cF ..);have d:SIGN=[115,105,103,110]:=by decide
  rcases DB [115,105,103,110,32] (h++iN t q)with⟨r1,e1,e2⟩|⟨e1,e2⟩
  ·have j:h++iN t q=SIGN++(32::r1):=by rw[e1,d];rfl
   obtain⟨f,b⟩:=DA r Ov (yI t q) ⟨32,r1,Z,.inl Z⟩ j;cases t with
   |nil=>cases b
   |cons w u=>
    injection b with _ i;rw[e2];dsimp only [Option.bind];rw[aB f,<- i];have A:=a w (cA _ (cF ..));have y:∀s∈u,NoSep s:=λs z=>a s (cA _ (cA _ z));rcases Ot A (yI u q)with⟨n,b1,b2⟩|⟨b1,b2⟩
    ·rw[b1,b2];dsimp only [Option.bind];rw[SV u 8 [] q rfl y];cases mT [] u<;>rfl
    rw[b1];dsimp only [Option.bind];cases p:cJ (w++iN u q)with
    |mk o r2=>
     cases o with
     |none=>rfl
     |some n=>
      obtain⟨c,v,rfl,k⟩:=b2 n r2 p;dsimp only;rw[SU k];rfl
  rw[e1];cases t with
  |nil=>rfl
  |cons w u=>
   dsimp only;rw[aA λz=>e2 (w++iN u q) (by rw[z,d];rfl)];rfl
def Ox(b:Free 10 r):mU r=none:=by
 rw[IL];rcases DB [115,105,103,110,32] r with⟨r1,e1,e2⟩|⟨e1,_⟩
 ·rw[e2];dsimp only [Option.bind];have k:Free 10 r1:=λx d=>b x (by rw[e1];exact mG _ d);cases m:cJ r1 with
  |mk o r2=>
   cases o with
   |none=>rfl
   |some n=>
    dsimp only;obtain⟨u,j,_,_⟩:=SR m;have l:Free 10 r2:=λx d=>k x (by rw[j];exact mG _ d);have h:∀(f:Nat) (a:List Bytes) (r:Bytes),Free 10 r->tR (fC f a r)=none:=by
     intro f;induction f with
     |zero=>
      intro a r b;unfold fC;split;·rfl
      show(if(tk 10 r).1=true then _ else none)=none;cases r with|nil=>rfl|cons c v=>rw[cR,aA b.head];rfl
     |succ f ih=>
      intro a r b;unfold fC;split
      ·split;·rfl
       refine ih _ _ λx d=> ?_;obtain⟨i,_⟩:=yH 8 (tk 32 r).2;have e:x∈(tk 32 r).2:=by rw[i];exact mG _ d
       cases r with
       |nil=>cases e
       |cons c v=>
        rw[cR]at e;split at e;·exact b x (cA _ e)
        exact b x e
      show(if(tk 10 r).1=true then _ else none)=none;cases r with|nil=>rfl|cons c v=>rw[cR,aA b.head];rfl
    rw[h 8 [] r2 l];rfl
 rw[e1];rfl
def SW(h:c≠115):mU (c::v)=none:=by
 rw[IL];rcases DB [115,105,103,110,32] (c::v)with⟨r1,e1,_⟩|⟨e1,_⟩
 ·injection e1 with a _;exact absurd a h
 rw[e1];rfl
def yJ:∀(f:Nat) (r:Bytes),∃u,r=u++(gH f r).2/\u.all cD=true/\u.length<=f/\(u.length<f->cW cD (gH f r).2)/\(gH f r).1=u.map (· ==35)
 |0,r=>⟨[],Z,Z,aK _,λh=>absurd h (mF _),Z⟩
 |f+1,r=>by
  unfold gH;rcases jN cD r with⟨h1,h2,h3⟩|⟨c,hc,hr,h1⟩
  ·rw[aB h1];exact⟨[],Z,Z,bH _,λ_=>h3,Z⟩
  have j:c≠0:=by rintro rfl;exact absurd hc (by decide)
  rw[aA (by rw[h1];exact j),h1];obtain⟨u,a,b,d,e,i⟩:=yJ f (tp cD r).2;refine⟨c::u,?_,by rw[dM,hc,b];rfl,kR d,λz=>e (Nat.lt_of_succ_lt_succ z),?_⟩;·dsimp only [List.cons_append];rw[<- a];exact hr
  dsimp only [List.map_cons];rw[i];rfl
def IM(h:cD c=true):c≠10:=by rintro rfl;exact absurd h (by decide)
def SX:cW cD []:=λ_ _ z=>by cases z
def SY(q:Bytes):cW cD (10::q):=λ_ _ z=>by cases z;rfl
def DC:∀{l:Bytes} {c:List Bool},iC l=some c->l.all cD=true/\c=l.map (· ==35)
 | [],c,h=>by cases h;exact⟨Z,Z⟩
 |x::l,c,h=>by
  have h':(if x=35\/x=46 then(iC l).map λy=>(x==35)::y else none)=some c:=h;split at h'
  ·rename_i e;cases a:iC l with
   |none=>rw[a]at h';cases h'
   |some d=>
    rw[a]at h';cases h';obtain⟨b,f⟩:=DC a;have i:cD x=true:=by rcases e with rfl|rfl<;>rfl
    exact⟨by rw[dM,i,b];rfl,by rw[f];rfl⟩
  cases h'
def SZ:∀{l:Bytes},l.all cD=true->iC l=some (l.map (· ==35))
 | [],_=>rfl
 |x::l,h=>by
  rw[dM,cB]at h;have a:x=35\/x=46:=by have:=h.1;unfold cD at this;rw[mH,al_41,al_41]at this;exact this
  show(if x=35\/x=46 then(iC l).map λy=>(x==35)::y else none)=_;rw[aB a,SZ h.2];rfl
def Oy(r:Free 10 l):jO (l++10::q)=if l.length<=32 then(iC l).map λc=>(c,q)else none:=by
 unfold jO;obtain⟨u,b,a,m,n,p⟩:=yJ 32 (l++10::q);rw[p];generalize (gH 32 (l++10::q)).2=v at b n;clear p;by_cases i:l.all cD=true
 ·rw[SZ i];by_cases f:l.length<=32
  ·have k:u=l/\v=10::q:=by
    by_cases h:u.length<=l.length;·exact rS b.symm a i h (λz=>n (by lia))
    obtain⟨o,B⟩:=rS b i a (by lia) (λ_=>SY q);exact⟨o.symm,B.symm⟩
   rw[k.1,k.2,aB f];rfl
  rw[aA f];cases v with
  |nil=>rfl
  |cons c w=>
   have d:c≠10:=by rintro rfl;obtain⟨o,_⟩:=rS b.symm a i (by lia) (λ_=>SY w);rw[o]at m;exact f m
   rw[cR,aA d];rfl
 have e:iC l=none:=by cases z:iC l with|none=>rfl|some c=>exact absurd (DC z).1 i
 rw[e];have:(if l.length<=32 then Option.map (λc=>(c,q)) (none:Option (List Bool))else none)=none:=by split<;>rfl
 rw[this];cases v with
 |nil=>rfl
 |cons c w=>
  have d:c≠10:=by
   rintro rfl;have A:u=l:=by
    clear n m this e i;induction l generalizing u with
    |nil=>
     cases u with
     |nil=>rfl
     |cons y u=>
      injection b with j _;rw[dM,cB]at a;exact absurd j.symm (IM a.1)
    |cons x l ih=>
     cases u with
     |nil=>
      injection b with j _;exact absurd j r.head
     |cons y u=>
      injection b with j s;rw[dM,cB]at a;rw[j,ih r.tail _ a.2 s]
   rw[A]at a;exact i a
  rw[cR,aA d];rfl
def Oz(b:Free 10 r):jO r=none:=by
 unfold jO;obtain⟨u,a,_⟩:=yJ 32 r;generalize (gH 32 r).2=v at a ⊢;cases v with
 |nil=>rfl
 |cons c w=>
  rw[cR,aA (b c (by rw[a];simp))];rfl
def DD(d:α)(p:α->Bool):∀l:List α,(List.range l.length).any (λi=>p (l.getD i d))=l.any p
 | []=>rfl
 |x::l=>by rw[cG,List.range_succ_eq_map,lI,List.any_map,lI];have:=DD d p l;rw[<- this];rfl
def oZ(d:α):∀l:List α,l.getD (l.length-1) d=l.getLastD d
 | []=>rfl
 | [x]=>rfl
 |x::y::l=>by
  have:=oZ d (y::l);rw[show(x::y::l).length-1=(y::l).length-1+1 by simp];show(y::l).getD ((y::l).length-1) d=_;rw[this];rfl
def IN(d:α)(l:List α):l.getD 0 d=l.headD d:=by cases l<;>rfl
def IO:∀{l:List α},(∀x∈l,p x=q x)->l.any p=l.any q
 | [],_=>rfl
 |x::l,h=>by rw[lI,lI,h x (cF ..),IO λy a=>h y (cA _ a)]
def qH(a:List (List Bool)):Prop:=∀r∈a,r.length=(a.headD []).length
def even_iff:CY a=true↔qH a:=by unfold CY;rw[al_53];exact⟨λh r b=>by have:=h r b;rwa [al_41]at this,λh r b=>by rw[al_41];exact h r b⟩
def TB(d:α):∀l:List α,l≠[]->l.getLastD d∈l
 | [],h=>absurd rfl h
 | [x],_=>cF ..
 |x::y::l,_=>by have:=TB d (y::l) (by intro z;cases z);exact cA _ this
def Pa(d:a≠[])(c:qH a):(⟨(a.headD []).length,a.length,a⟩:Shape).tight=rR a:=by
 have b:∀y,(List.range (a.headD []).length).any (λx=>(a.getD y []).getD x false)=(if(a.getD y []).length=(a.headD []).length then(a.getD y []).any id else(List.range (a.headD []).length).any (λx=>(a.getD y []).getD x false)):=by
  intro y;split;·rename_i e;rw[<- e];exact DD false id _
  rfl
 have h:(a.getD 0 []).length=(a.headD []).length:=by rw[IN]
 have i:(a.getD (a.length-1) []).length=(a.headD []).length:=by rw[oZ];exact c _ (TB [] a d)
 show ((List.range (a.headD []).length).any (λx=>(a.getD 0 []).getD x false) && ((List.range (a.headD []).length).any (λx=>(a.getD (a.length - 1) []).getD x false) &&
  ((List.range a.length).any (λy=>(a.getD y []).getD 0 false)&&(List.range a.length).any (λy=>(a.getD y []).getD ((a.headD []).length-1) false))))=_
 rw[b 0,aB h,b (a.length-1),aB i,DD [] (λr=>r.getD 0 false) a,DD [] (λr=>r.getD ((a.headD []).length-1) false) a,IN,oZ];unfold rR;congr 2;congr 1
 ·exact IO λr _=>IN _ _
 exact IO λr f=>by rw[<- c r f];exact oZ _ _
def TC(c:qH a):lV ⟨done,some ⟨n,s,a⟩⟩=if fQ a=true then some (done++[tP n s a])else none:=by
 show(if a=[]then none else if(⟨(a.headD []).length,a.length,a⟩:Shape).tight=false then none else some (done++[tP n s a]))=_;by_cases b:a=[];·rw[aB b,b];rfl
 rw[aA b,Pa b c];have e:fQ a=rR a:=by unfold fQ;rw[even_iff.mpr c];cases a with|nil=>exact absurd rfl b|cons=>rfl
 rw[e];cases rR a<;>rfl
def TD:∀(f:Nat) (a:List (List Bool)) (r:Bytes) (y:List (List Bool)×Bytes),fF f a r=some y->∃b,y.1=a++b
 |0,a,r,y,h=>by cases h;exact⟨[],(bU _).symm⟩
 |f+1,a,r,y,h=>by
  unfold fF at h;split at h;·cases h;exact⟨[],(bU _).symm⟩
  cases c:jO r with
  |none=>rw[c]at h;cases h
  |some x=>
   rw[c]at h;obtain⟨m,e⟩:=TD f (a++[x.1]) x.2 y h;exact⟨x.1::m,by rw[e,dQ];rfl⟩
def Pb(c:a≠[])(h:¬qH a):fQ (a++b)=false:=by
 cases e:fQ (a++b)with
 |false=>rfl
 |true=>
  unfold fQ at e;rw[cB,cB]at e;have:=even_iff.mp e.2.1;refine absurd (λr f=> ?_) h;have d:(a++b).headD []=a.headD []:=by cases a with|nil=>exact absurd rfl c|cons=>rfl
  rw[<- d];exact this r (List.mem_append_left _ f)
def Pc(f:qH b)(h:rP b c=false):qH (b++[c]):=by
 cases b with
 |nil=>
  intro r d;rcases al_18.mp d with rfl|d
  ·rfl
  cases d
 |cons a b=>
  have h':(c.length !=a.length)=false:=h;have e:c.length=a.length:=by
   cases z:decide (c.length=a.length)with
   |true=>exact of_decide_eq_true z
   |false=>
    rw[bne_eq_false_iff_eq]at h';exact h'
  intro r d;rcases al_51.mp d with q|q
  ·exact f r q
  rcases al_18.mp q with rfl|q;·exact e
  cases q
def Pd(d:b≠[])(h:rP b c=true):¬qH (b++[c]):=by
 cases b with
 |nil=>exact absurd rfl d
 |cons a b=>
  intro z;have h':(c.length !=a.length)=true:=h;rw[al_110]at h';exact h' (z c (by simp))
def tp_cell0:(tp cD r).1=0↔cW cD r:=by
 rcases jN cD r with⟨h1,_,h3⟩|⟨c,hc,hr,h1⟩;·exact⟨λ_=>h3,λ_=>h1⟩
 refine⟨λz=> ?_,λz=> ?_⟩;·rw[h1]at z;rw[z]at hc;exact absurd hc (by decide)
 have:=z c _ hr;rw[hc]at this;cases this
def Pe(h:cW cD r):fF f a r=some (a,r):=by cases f with|zero=>rfl|succ f=>unfold fF;rw[aB (tp_cell0.mpr h)]
def TF(f:Nat)(a:Signs):dD f a []=if a=[]then none else some a:=by cases f<;>rfl
def yK:dD (f+1) a (c::v)=(kH (c::v)).bind λx=>if a.length=512\/jG a x.1.name=false then none else dD f (a++[x.1]) x.2:=by
 show(if c::v=[]then _ else _)=_;rw[aA (by intro z;cases z)]
def IP(h:cD c=true):c≠115:=by rintro rfl;exact absurd h (by decide)
def Pf(h:cD c=false):iC (c::v)=none:=by
 cases z:iC (c::v)with
 |none=>rfl
 |some d=>
  have:=(DC z).1;rw[dM,h]at this;cases this
def Pg(h:c≠d):∃f u,eD d (c::l)=(c::f)::u:=by rw[rO,aA h];cases a:eD d l with|nil=>exact absurd a (qF d l)|cons f u=>exact⟨f,u,Z⟩
def Ph:SIGN=[115,105,103,110]:=by decide
def TH(h:cD c=true):rQ z (c::l)=tL z (c::l):=by
 have a:c≠32:=by rintro rfl;exact absurd h (by decide)
 obtain⟨f,u,e⟩:=Pg (l:=l) a;unfold rQ;rw[e];dsimp only;rw[aA λz=>by rw[Ph]at z;injection z with z _;exact IP h z]
def Pi(h:cW cD l):tL z l=none:=by
 unfold tL;cases z.now with
 |none=>rfl
 |some d=>
  dsimp only;cases l with
  |nil=>rfl
  |cons c v=>rw[aA (by intro y;cases y),Pf (h c v Z)];rfl
def vS(t:Bytes):Prop:=∀(f:Nat) (done:Signs) (n:Name) (s:List Bytes) (a:List (List Bool)),t.length<=f->done.length<512->qH a->a.length<=32->(a.headD []).length<=32->
 S ⟨done,some ⟨n,s,a⟩⟩ t=(fF (32-a.length) a t).bind λy=>if fQ y.1=true then dD f (done++[tP n s y.1]) y.2 else none
def IQ(t:Bytes):Prop:=∀(f:Nat) (z:Rd),t.length<=f->(∀a,lV z=some a->a.length<=512)->cW cD t->S z t=(lV z).bind λa=>dD f a t
def Pj:qH []:=λ_ h=>by cases h
def DE(F:∀q:Bytes,q.length<t.length->vS q):IQ t:=by
 intro f z o hz D;cases t with
 |nil=>
  rw[Ol];congr 1;funext a;rw[TF]
 |cons c v=>
  obtain⟨f,rfl⟩:∃g,f=g+1:=⟨f-1,by simp only [cG]at o;lia⟩;rcases CV 10 (c::v)with hF|⟨l,q,e,hl⟩
  ·rw[IJ hF (by intro z;cases z)];cases lV z with
   |none=>rfl
   |some a=>
    show none=dD (f+1) a (c::v);rw[yK];unfold kH;rw[Ox hF];rfl
  have p:q.length<(c::v).length:=by rw[e,bF,cG];lia
  have C:∀a,dD (f+1) a (c::v)=(hE l).bind λx=>(fF 32 [] q).bind λy=>if fQ y.1=true then(if a.length=512\/jG a x.1=false then none else dD f (a++[tP x.1 x.2 y.1]) y.2)else none:=by
   intro a;rw[yK,e];unfold kH;rw[Ow hl];cases hE l with
   |none=>rfl
   |some x=>
    dsimp only [Option.map,Option.bind];cases fF 32 [] q with
    |none=>rfl
    |some y=>
     dsimp only;by_cases b:fQ y.1=true;·rw[aB b,aB b];rfl
     rw[aA b,aA b]
  have k:cW cD l:=λx u r=>by
   rw[r]at e;injection e with A _
   rw[<- A];exact D c v rfl
  rw[show S z (c::v)=S z (l++10::q) by rw[e],II hl];simp only [C];unfold rQ hE;cases E:eD 32 l with
  |nil=>exact absurd E (qF 32 l)
  |cons g u=>
   dsimp only;by_cases h:g=SIGN
   ·rw[aB h];unfold CW;cases j:lV z with
    |none=>rfl
    |some a=>
     have m:=hz a j;dsimp only [Option.bind];cases u with
     |nil=>rfl
     |cons w u=>
      dsimp only;rw[aB h];cases nameOf w with
      |none=>rfl
      |some n=>
       dsimp only [Option.bind];by_cases i:jG a n=false
       ·rw[aB i];cases mT [] u with
        |none=>rfl
        |some s=>
         dsimp only [Option.map];cases fF 32 [] q with
         |none=>rfl
         |some y=>
          dsimp only;rw[aB (show a.length=512\/jG a n=false from .inr i)];split<;>rfl
       rw[aA i];cases mT [] u with
       |none=>rfl
       |some s=>
        dsimp only [Option.map];by_cases d:SIGNS<=a.length
        ·rw[aB d];have B:a.length=512:=by
          have:512<=a.length:=d;lia
         cases fF 32 [] q with
         |none=>rfl
         |some y=>
          dsimp only;rw[aB (show a.length=512\/jG a n=false from .inl B)];split<;>rfl
        rw[aA d];dsimp only;rw[F q p f a n s [] (by simp only [cG]at o p;lia) (Nat.lt_of_not_le d) Pj (by decide) (by decide)];show(fF 32 [] q).bind _=_;cases fF 32 [] q with
        |none=>rfl
        |some y=>
         dsimp only [Option.bind];rw[aA (show¬(a.length=512\/jG a n=false) by rintro(z|z);exact d (by show 512<=a.length;lia);exact i z)]
   rw[aA h,Pi k];cases u with
   |nil=>cases lV z<;>rfl
   |cons w u=>
    dsimp only;rw[aA h];cases lV z<;>rfl
def Pk(h:(a.headD []).length<=32)(b:c.length<=32):((a++[c]).headD []).length<=32:=by cases a with|nil=>exact b|cons=>exact h
def TJ(Q:∀q:Bytes,q.length<t.length->vS q)(M:IQ t):vS t:=by
 intro f done n s h E N D L I;by_cases u:cW cD t
 ·rw[Pe u,M f _ E (λo e=> ?_) u,TC D]
  ·dsimp only [Option.bind];by_cases b:fQ h=true;·rw[aB b,aB b]
   rw[aA b,aA b]
  rw[TC D]at e;by_cases b:fQ h=true;·rw[aB b]at e;cases e;rw[bF,dB];lia
  rw[aA b]at e;cases e
 obtain⟨c,v,rfl,B⟩:∃c v,t=c::v/\cD c=true:=by
  cases t with
  |nil=>exact absurd SX u
  |cons c v=>
   refine⟨c,v,Z,?_⟩;cases z:cD c with|true=>rfl|false=>exact absurd (yG (by rw[z];exact bX)) u
 have J:¬(tp cD (c::v)).1=0:=λz=>u (tp_cell0.mp z);have k:∀o,dD f o (c::v)=none:=by intro o;obtain⟨g,rfl⟩:∃g,f=g+1:=⟨f-1,by simp only [cG]at E;lia⟩;rw[yK];unfold kH;rw[SW (IP B)];rfl
 rcases CV 10 (c::v)with hF|⟨l,q,e,hl⟩
 ·rw[IJ hF (by intro z;cases z)];by_cases p:h.length=32
  ·rw[p];show none=if fQ h=true then dD f _ (c::v)else none
   rw[k];split<;>rfl
  obtain⟨g,F⟩:∃g,32-h.length=g+1:=⟨31-h.length,by lia⟩;rw[F];unfold fF;rw[aA J,Oz hF];rfl
 have H:q.length<(c::v).length:=by rw[e,bF,cG];lia
 obtain⟨j,rfl⟩:∃j,l=c::j:=by
  cases l with
  |nil=>
   injection e with w _;exact absurd w (IM B)
  |cons x j=>
   injection e with w _;exact⟨j,by rw[w]⟩
 rw[show S ⟨done,some ⟨n,s,h⟩⟩ (c::v)=S ⟨done,some ⟨n,s,h⟩⟩ (c::j++10::q) by rw[e],II hl,TH B];unfold tL;dsimp only;rw[aA (show¬c::j=[] by intro z;cases z)];by_cases p:h.length=32
 ·rw[p];have T:(iC (c::j)).bind (λc=>if rP h c=true then none else if SIDE<=32 then none else some (⟨done,some ⟨n,s,h++[c]⟩⟩:Rd))=none:=by
   cases iC (c::j)with
   |none=>rfl
   |some d=>
    dsimp only [Option.bind];split;·rfl
    rfl
  rw[T];show none=if fQ h=true then dD f _ (c::v)else none
  rw[k];split<;>rfl
 obtain⟨g,F⟩:∃g,32-h.length=g+1:=⟨31-h.length,by lia⟩;have P:¬SIDE<=h.length:=by show¬32<=h.length;lia
 rw[F];unfold fF;rw[aA J,e,Oy hl];cases C:iC (c::j)with
 |none=>
  dsimp only [Option.map,Option.bind];by_cases i:(c::j).length<=32;·rw[aB i]
  rw[aA i]
 |some d=>
  have r:d.length=(c::j).length:=by rw[(DC C).2,aO]
  dsimp only [Option.map,Option.bind];by_cases b:rP h d=true
  ·rw[aB b];by_cases i:(c::j).length<=32
   ·rw[aB i];have U:h≠[]:=by
     rintro rfl;have:decide (32<d.length)=true:=b;have:=of_decide_eq_true this;lia
    dsimp only;cases O:fF g (h++[d]) q with
    |none=>rfl
    |some y=>
     dsimp only;obtain⟨m,K⟩:=TD g _ q y O;rw[K,Pb (by simp) (Pd U b)];rfl
   rw[aA i]
  rw[aA b,aA P];have i:(c::j).length<=32:=by
   rw[<- r];have G:=al_12.mpr b;cases h with
   |nil=>
    have:decide (32<d.length)=false:=G;have:=of_decide_eq_false this;lia
   |cons a h=>
    have:(d.length !=a.length)=false:=G;rw[bne_eq_false_iff_eq]at this;rw[this];exact I
  rw[aB i];dsimp only;rw[Q q H f done n s (h++[d]) (by simp only [cG]at E H;lia) N (Pc D (al_12.mpr b)) (by rw[bF,dB];lia) (Pk I (by lia))];have A:32-(h++[d]).length=g:=by rw[bF,dB];lia
  rw[A];rfl
def TK:∀(m:Nat) (t:Bytes),t.length<=m->vS t/\IQ t
 |0,t,h=>by have a:∀q:Bytes,q.length<t.length->vS q:=λq b=>absurd b (by lia);exact⟨TJ a (DE a),DE a⟩
 |m+1,t,h=>by have a:∀q:Bytes,q.length<t.length->vS q:=λq b=>(TK m q (by lia)).1;exact⟨TJ a (DE a),DE a⟩
def TM(t:Bytes):fP (readList t)=dD t.length [] t:=by
 rw[Oj];show S ⟨[],none⟩ t=_;by_cases h:cW cD t;·rw[(TK t.length t (aK _)).2 t.length ⟨[],none⟩ (aK _) (λi e=>by cases e;decide) h];rfl
 obtain⟨c,v,rfl,f⟩:∃c v,t=c::v/\cD c=true:=by
  cases t with
  |nil=>exact absurd SX h
  |cons c v=>
   refine⟨c,v,Z,?_⟩;cases z:cD c with|true=>rfl|false=>exact absurd (yG (by rw[z];exact bX)) h
 have a:dD (c::v).length [] (c::v)=none:=by rw[cG,yK];unfold kH;rw[SW (IP f)];rfl
 rw[a];rcases CV 10 (c::v)with hF|⟨l,q,e,hl⟩
 ·exact IJ hF (by intro z;cases z)
 obtain⟨b,rfl⟩:∃b,l=c::b:=by
  cases l with
  |nil=>
   injection e with d _;exact absurd d (IM f)
  |cons x b=>
   injection e with d _;exact⟨b,by rw[d]⟩
 rw[e,II hl,TH f];rfl
def mV(a:List (List Bool)):List (List Bool):=a.map List.reverse
def kI(a:List (List Bool)):List (List Bool):=(List.range (a.headD []).length).map λx=>a.reverse.map λb=>b.getD x false
def tT(a:List (List Bool)):List (List (List Bool)):=[a,kI a,kI (kI a),kI (kI (kI a))]
def rT(a:List (List Bool)):List (List (List Bool)):=tT a++tT (mV a)
structure WF(s:Shape):Prop where
 wide:s.wide=(s.rows.headD []).length
 high:s.high=s.rows.length
 even:∀r∈s.rows,r.length=s.wide
 h1:1<=s.high
 w1:1<=s.wide
def Pl(d:α)(g:α->β)(l:List α):(List.range l.length).map (λy=>g (l.getD y d))=l.map g:=by
 apply AK;·rw[aO,iU,aO]
 intro i b a;rw[aO]at a;rw[uT,uT,wX,jC,cM a];rfl
def TN(d:α)(g:α->β)(l:List α):(List.range l.length).map (λx=>g (l.getD (l.length-1-x) d))=l.reverse.map g:=by
 apply AK;·rw[aO,iU,aO,mJ]
 intro i a c;rw[aO,iU]at a;have b:l.length-1-i<l.length:=by lia
 rw[uT,uT,wX,List.getElem_reverse,jC,cM b];rfl
def WF.ext(a:WF s)(b:WF t)(h:s.rows=t.rows):s=t:=by obtain⟨w,i,r⟩:=s;obtain⟨k,h',j⟩:=t;have c:=a.wide;have d:=a.high;have e:=b.wide;have f:=b.high;dsimp only at h c d e f;subst h;rw[c,d,e,f]
def DF(d:α){l:List α}(h:1<=l.length):l.headD d∈l:=by cases l with|nil=>exact absurd h (by simp)|cons=>exact cF ..
def TQ(b:1<=h)(e:1<=w):WF (Shape.by_ w h f):=by
 have a:∀r∈(Shape.by_ w h f).rows,r.length=w:=by intro r d;obtain⟨y,_,rfl⟩:=al_67.mp d;rw[aO,iU]
 have c:(Shape.by_ w h f).rows.length=h:=by
  show((List.range h).map _).length=h;rw[aO,iU]
 exact⟨(a _ (DF [] (by rw[c];exact b))).symm,c.symm,a,b,e⟩
def vT(h:WF s):s.turned.rows=kI s.rows:=by
 show(List.range s.wide).map (λy=>(List.range s.high).map λx=>(s.rows.getD (s.high-1-x) []).getD y false)=(List.range (s.rows.headD []).length).map λx=>s.rows.reverse.map λa=>a.getD x false
 rw[h.wide,h.high];congr 1;funext y;exact TN [] (λa=>a.getD y false) s.rows
def Pn(h:WF s):s.mirrored.rows=mV s.rows:=by
 show(List.range s.high).map (λy=>(List.range s.wide).map λx=>(s.rows.getD y []).getD (s.wide-1-x) false)=s.rows.map List.reverse;rw[h.high,Pl [] (λa=>(List.range s.wide).map λx=>a.getD (s.wide-1-x) false) s.rows];apply List.map_congr_left;intro r b;rw[<- h.even r b];have:=TN false id r;rw[List.map_id]at this;exact this
def WF.turned(h:WF s):WF s.turned:=TQ h.w1 h.h1
def WF.mirrored(h:WF s):WF s.mirrored:=TQ h.h1 h.w1
def TR(p:α->Bool):∀l:List α,(l.find? p).isSome=l.any p
 | []=>rfl
 |x::l=>by rw[lL,lI];cases h:p x with|true=>rfl|false=>exact TR p l
def rV(a:WF s)(b:WF t):(s==t)=(t.rows==s.rows):=by
 by_cases e:s=t;·rw[e];simp
 have n:t.rows≠s.rows:=λz=>e (a.ext b z.symm);rw[al_35.mpr e,al_35.mpr n]
def Po(a:WF s)(b:WF t):(motionTo s t).isSome=(rT s.rows).contains t.rows:=by
 have m:=a.mirrored;unfold motionTo;rw[TR];show((s==t)||((s.turned==t)||((s.turned.turned==t)||((s.turned.turned.turned==t)||((s.mirrored==t)||((s.mirrored.turned==t)||((s.mirrored.turned.turned==t)||((s.mirrored.turned.turned.turned==t)||false))))))))=_;rw[rV a b,rV a.turned b,rV a.turned.turned b,rV a.turned.turned.turned b,rV m b,rV m.turned b,rV m.turned.turned b,rV m.turned.turned.turned b,
  vT a.turned.turned,vT a.turned,vT a,vT m.turned.turned,vT m.turned,vT m,Pn a]
 unfold rT tT;simp only [qU,lJ,qZ,List.contains_nil]
def bL(f:Sign->Bool):Nat->Signs->List Nat
 |_,[]=>[]
 |i,x::l=>if f x=true then i::bL f (i+1) l else bL f (i+1) l
def IR(f:Sign->Bool):∀(l:Signs) (i:Nat),((l.zipIdx i).filter λx=>f x.1).map (·.2)=bL f i l
 | [],_=>rfl
 |x::l,i=>by
  rw[List.zipIdx_cons,sU];unfold bL;dsimp only;by_cases e:f x=true;·rw[aB e,aB e,fE,IR f l (i+1)]
  rw[aA e,aA e];exact IR f l (i+1)
def yL(l:Signs)(f:Sign->Bool):numbers l f=bL f 0 l:=IR f l 0
def pA(f:Sign->Bool):∀(l:Signs) (i k:Nat),k∈bL f i l↔∃x,i<=k/\l[k-i]? =some x/\f x=true
 | [],i,k=>by refine⟨λh=>(by cases h),?_⟩;rintro⟨x,_,h,_⟩;simp at h
 |y::l,i,k=>by
  have j:=pA f l (i+1) k;unfold bL;have d:k∈bL f (i+1) l↔∃x,i<k/\(y::l)[k-i]? =some x/\f x=true:=by
   rw[j];constructor;·rintro⟨x,c,a,b⟩;refine⟨x,c,?_,b⟩;rw[show k-i=(k-(i+1))+1 by lia];exact a
   rintro⟨x,c,a,b⟩;refine⟨x,c,?_,b⟩;rw[show k-i=(k-(i+1))+1 by lia]at a;exact a
  split
  ·rename_i e;rw[al_18,d];constructor
   ·rintro(rfl|⟨x,c,a,b⟩)
    ·exact⟨y,aK _,by rw[nN];rfl,e⟩
    exact⟨x,pL c,a,b⟩
   rintro⟨x,c,a,b⟩;by_cases q:k=i;·exact .inl q
   exact .inr ⟨x,by lia,a,b⟩
  rename_i e;rw[d];constructor;·rintro⟨x,c,a,b⟩;exact⟨x,pL c,a,b⟩
  rintro⟨x,c,a,b⟩;refine⟨x,?_,a,b⟩;by_cases q:k=i;·rw[q,nN]at a;have:y=x:=cV a;rw[this]at e;exact absurd b e
  lia
def TU(f:Sign->Bool)(L:List Nat):∀(l:Signs) (i:Nat),(∀k x,l[k]? =some x->L.contains (i+k)=f x)->((List.range' i l.length).filter λk=> !L.contains k)=bL (λx=> !f x) i l
 | [],_,_=>rfl
 |y::l,i,h=>by
  rw[cG,List.range'_succ,sU];have a:L.contains i=f y:=h 0 y rfl;have b:=TU f L l (i+1) λk x e=>by have:=h (k+1) x e;rw[show i+1+k=i+(k+1) by lia];exact this
  unfold bL;rw[a,b]
def TV:∀(l:Signs) (i:Nat),bL (λ_=>true) i l=List.range' i l.length
 | [],_=>rfl
 |y::l,i=>by rw[cG,List.range'_succ];unfold bL;rw[aB rfl,TV l (i+1)]
def gL(l:Signs):One->Sign->Bool
 | .name n,x=>x.name==n
 | .alike n,x=>match(findName l n).bind λk=>l[k]? with|some s=>(rT s.shape.rows).contains x.shape.rows|none=>false
 | .class_ a b,x=>x.name.big==a&&x.name.small==b
 | .any,_=>true
 | .among q,x=>q.contains x.name
def yM:∀{l:Signs} {i:Nat},(∀x∈l,f x=g x)->bL f i l=bL g i l
 | [],_,_=>rfl
 |y::l,i,h=>by unfold bL;rw[h y (cF ..),yM λx a=>h x (cA _ a)]
def DG:∀(l:Signs) (i:Nat),bL (λ_=>false) i l=[]
 | [],_=>rfl
 |y::l,i=>by unfold bL;rw[aA bX,DG l (i+1)]
def TW{l:Signs}(hw:∀x∈l,WF x.shape)(o:One):o.signs l=bL (gL l o) 0 l:=by
 cases o with
 |name n=>exact yL l (gL l (.name n))
 |alike n=>
  show (match (findName l n).bind λk=>l[k]? with
   |some s=>numbers l λx=>(motionTo s.shape x.shape).isSome
   |none=>[])=_
  cases e:(findName l n).bind λk=>l[k]? with
  |none=>
   have:gL l (.alike n)=λ_=>false:=by
    funext x;show (match (findName l n).bind λk=>l[k]? with
     |some s=>(rT s.shape.rows).contains x.shape.rows
     |none=>false)=false
    rw[e]
   rw[this,DG]
  |some s=>
   dsimp only;rw[yL];refine yM λx hx=> ?_;have hs:s∈l:=by
    cases hf:findName l n with
    |none=>rw[hf]at e;cases e
    |some k=>
     rw[hf]at e;exact fM e
   show (motionTo s.shape x.shape).isSome=(match (findName l n).bind λk=>l[k]? with
     |some s=>(rT s.shape.rows).contains x.shape.rows
     |none=>false)
   rw[e,Po (hw s hs) (hw x hx)]
 |class_ a b=>exact yL l (gL l (.class_ a b))
 |any=>
  show List.range l.length=bL (λ_=>true) 0 l;rw[TV,wY]
 |among q=>exact yL l (gL l (.among q))
def TX(c:∀x∈l,WF x.shape)(d:Bool)(o:One):(Atom.one d o).signs l=some (bL (λx=>gL l o x !=d) 0 l):=by
 show some (if d=true then(List.range l.length).filter λk=> !(o.signs l).contains k else o.signs l)=_;cases d with
 |false=>
  rw[aA bX,TW c];congr 1;exact yM λx _=>by cases gL l o x<;>rfl
 |true=>
  rw[aB rfl,wY,TU (gL l o) (o.signs l) l 0]
  ·congr 1;exact yM λx _=>by cases gL l o x<;>rfl
  intro k x e;rw[kS,TW c];cases h:gL l o x with
  |true=>exact al_76.mpr ((pA _ l 0 k).mpr ⟨x,bH _,e,h⟩)
  |false=>
   cases q:(bL (gL l o) 0 l).contains k with
   |false=>rfl
   |true=>
    obtain⟨y,_,f,b⟩:=(pA _ l 0 k).mp (al_76.mp q);have a:l[k]? =some y:=f;rw[e]at a;cases a;rw[h]at b;cases b
def Pp(h:fQ a=true)(c:∀r∈a,1<=r.length):WF (tP n s a).shape:=by
 unfold fQ at h;rw[cB,cB]at h;have b:1<=a.length:=by cases a with|nil=>cases h.1|cons=>exact kR (bH _)
 exact⟨Z,Z,even_iff.mp h.2.1,b,c _ (DF [] b)⟩
def kJ(h:o.bind f=some y):∃x,o=some x/\f x=some y:=by cases o with|none=>cases h|some x=>exact⟨x,Z,h⟩
def Pq(f:Nat)(r:Bytes):(dI f r).2.length<=r.length:=by
 have h:=(yH f r).1;have:=bS List.length h;rw[bF]at this;lia
def TY:∀(f:Nat) (a:List Bytes) (r:Bytes) (y:List Bytes×Bytes),fC f a r=some y->y.2.length<=r.length
 |0,a,r,y,h=>by
  unfold fC at h;split at h;·cases h
  cases h;exact aK _
 |f+1,a,r,y,h=>by
  unfold fC at h;split at h
  ·split at h;·cases h
   exact aZ (TY f _ _ y h) (aZ (Pq _ _) (cS _ _))
  cases h;exact aK _
def Pr(h:(tk k r).1=true):(tk k r).2.length<r.length:=by
 cases r with
 |nil=>cases h
 |cons c v=>
  rw[cR]at h ⊢;split;·exact hU _
  rename_i n;rw[aA n]at h;cases h
def TZ:∀(b r a:Bytes),kG b r=some a->a.length<=r.length
 | [],r,a,h=>by cases h;exact aK _
 |k::b,r,a,h=>by
  unfold kG at h;split at h;·exact aZ (TZ b _ _ h) (cS _ _)
  cases h
def Ps(h:mU r=some x):x.2.length<r.length:=by
 unfold mU at h;obtain⟨b,a,h⟩:=kJ h;have e:b.length<r.length:=by
  unfold kG at a;split at a;·rename_i t;exact dG (TZ _ _ _ a) (Pr t)
  cases a
 have c:=CN b;generalize cJ b=L at h c;obtain⟨o,i⟩:=L;cases o with
 |none=>cases h
 |some n=>
  dsimp only at h c;obtain⟨y,d,h⟩:=kJ h;have f:=TY _ _ _ _ d;split at h
  ·cases h;have:=cS 10 y.2;show(tk 10 y.2).2.length<r.length;lia
  cases h
def Pt(f:Nat)(r:Bytes):(gH f r).2.length<=r.length:=by
 obtain⟨u,h,_⟩:=yJ f r;have:=bS List.length h;rw[bF]at this;lia
def Pu(h:jO r=some x):x.2.length<=r.length:=by
 unfold jO at h;split at h;·cases h;exact aZ (cS _ _) (Pt _ _)
 cases h
def UA(n:(tp cD r).1≠0)(h:jO r=some x):1<=x.1.length:=by
 unfold jO at h;split at h
 ·cases h;show 1<=(gH (31+1) r).1.length;unfold gH;rw[aA n];exact kR (bH _)
 cases h
def UB:∀(f:Nat) (a:List (List Bool)) (r:Bytes) (y:List (List Bool)×Bytes),fF f a r=some y->y.2.length<=r.length
 |0,a,r,y,h=>by cases h;exact aK _
 |f+1,a,r,y,h=>by
  unfold fF at h;split at h;·cases h;exact aK _
  obtain⟨x,b,h⟩:=kJ h;exact aZ (UB f _ _ _ h) (Pu b)
def UC:∀(f:Nat) (a:List (List Bool)) (r:Bytes) (y:List (List Bool)×Bytes),fF f a r=some y->(∀x∈a,1<=x.length)->∀x∈y.1,1<=x.length
 |0,a,r,y,h,hr=>by cases h;exact hr
 |f+1,a,r,y,h,hr=>by
  unfold fF at h;split at h;·cases h;exact hr
  rename_i n;obtain⟨x,b,h⟩:=kJ h;refine UC f _ _ _ h λz hz=> ?_;rcases al_51.mp hz with hz|hz
  ·exact hr z hz
  rw[al_56.mp hz];exact UA n b
def rW(r:Bytes):Option (List (List Bool)×Bytes):=(fF 32 [] r).bind λy=>if fQ y.1=true then some y else none
def IS(r:Bytes):kH r=(mU r).bind λx=>(rW x.2).map λy=>(tP x.1.1 x.1.2 y.1,y.2):=by
 unfold kH rW;congr 1;funext x;cases fF 32 [] x.2 with
 |none=>rfl
 |some y=>
  show(if fQ y.1=true then _ else _)=Option.map _ (if fQ y.1=true then _ else _);split<;>rfl
def Pw(h:rW r=some y):y.2.length<=r.length:=by
 obtain⟨x,b,a⟩:=kJ h;split at a;·cases a;exact UB _ _ _ _ b
 cases a
def Px(h:kH r=some x):x.2.length<r.length:=by
 rw[IS]at h;obtain⟨y,a,h⟩:=kJ h;have b:=Ps a;cases e:rW y.2 with
 |none=>rw[e]at h;cases h
 |some z=>
  rw[e]at h;cases h;have:=Pw e;show z.2.length<r.length;lia
def UD(h:kH r=some x):WF x.1.shape:=by
 unfold kH at h;obtain⟨y,c,h⟩:=kJ h;obtain⟨z,a,h⟩:=kJ h;split at h;·rename_i e;cases h;exact Pp e (UC _ _ _ _ a λ_ b=>by cases b)
 cases h
def UE:∀(f:Nat) (a:Signs) (r:Bytes) (l:Signs),dD f a r=some l->(∀x∈a,WF x.shape)->∀x∈l,WF x.shape
 |0,a,r,l,h,hh=>by
  unfold dD at h;split at h
  ·split at h;·cases h
   cases h;exact hh
  cases h
 |f+1,a,r,l,h,hh=>by
  unfold dD at h;split at h
  ·split at h;·cases h
   cases h;exact hh
  obtain⟨x,b,h⟩:=kJ h;split at h;·cases h
  refine UE f _ _ _ h λz hz=> ?_;rcases al_51.mp hz with hz|hz
  ·exact hh z hz
  rw[al_56.mp hz];exact UD b
def IT:∀(f:Nat) (a:Signs) (r:Bytes) (l:Signs),dD f a r=some l->a.length<=512->l.length<=512
 |0,a,r,l,h,hh=>by
  unfold dD at h;split at h
  ·split at h;·cases h
   cases h;exact hh
  cases h
 |f+1,a,r,l,h,hh=>by
  unfold dD at h;split at h
  ·split at h;·cases h
   cases h;exact hh
  obtain⟨x,b,h⟩:=kJ h;split at h;·cases h
  rename_i n;refine IT f _ _ _ h ?_;have:a.length≠512:=λz=>n (.inl z);rw[bF,dB]
  lia
structure Sm(rows:List (List Bool)):Prop where
 h1:1<=rows.length
 h64:rows.length<=64
 even:∀r∈rows,r.length=(rows.headD []).length
 w1:1<=(rows.headD []).length
 w64:(rows.headD []).length<=64
def Py(f:α->β)(d:α)(e:β){l:List α}(h:1<=l.length):(l.map f).headD e=f (l.headD d):=by cases l with|nil=>exact absurd h (by simp)|cons=>rfl
def Sm.mir(h:Sm a):Sm (mV a):=by
 have e:((mV a).headD []).length=(a.headD []).length:=by unfold mV;rw[Py List.reverse [] [] h.h1,mJ]
 have l:(mV a).length=a.length:=by unfold mV;rw[aO]
 refine⟨by rw[l];exact h.h1,by rw[l];exact h.h64,λr b=> ?_,by rw[e];exact h.w1,by rw[e];exact h.w64⟩;obtain⟨y,c,rfl⟩:=al_67.mp b;rw[mJ,e];exact h.even y c
def Sm.turn(h:Sm a):Sm (kI a):=by
 have l:(kI a).length=(a.headD []).length:=by unfold kI;rw[aO,iU]
 have b:∀r∈kI a,r.length=a.length:=λr c=>by obtain⟨y,d,rfl⟩:=al_67.mp c;rw[aO,mJ]
 have e:((kI a).headD []).length=a.length:=b _ (DF [] (by rw[l];exact h.w1));exact⟨by rw[l];exact h.w1,by rw[l];exact h.w64,λr c=>by rw[e];exact b r c,by rw[e];exact h.h1,by rw[e];exact h.h64⟩
def Pz(f:Nat)(r:Bytes):(gH f r).1.length<=f:=by obtain⟨u,_,_,h,_,e⟩:=yJ f r;rw[e,aO];exact h
def Qa(h:jO r=some x):x.1.length<=32:=by
 unfold jO at h;split at h;·cases h;exact Pz 32 r
 cases h
def UF:∀(f:Nat) (a:List (List Bool)) (r:Bytes) (y:List (List Bool)×Bytes),fF f a r=some y->a.length+f<=32->(∀x∈a,x.length<=32)->y.1.length<=32/\∀x∈y.1,x.length<=32
 |0,a,r,y,h,hl,hr=>by cases h;exact⟨hl,hr⟩
 |f+1,a,r,y,h,hl,hr=>by
  unfold fF at h;split at h;·cases h;exact⟨aZ (Nat.le_add_right a.length (f+1)) hl,hr⟩
  obtain⟨x,b,h⟩:=kJ h;refine UF f _ _ _ h (by rw[bF,dB];lia) λz hz=> ?_;rcases al_51.mp hz with hz|hz
  ·exact hr z hz
  rw[al_56.mp hz];exact Qa b
def Qb(h:kH r=some x):Sm x.1.shape.rows:=by
 have a:=UD h;unfold kH at h;obtain⟨y,h1,h⟩:=kJ h;obtain⟨z,e,h⟩:=kJ h;split at h
 ·cases h;obtain⟨i,j⟩:=UF _ _ _ _ e (by decide) λ_ f=>by cases f
  have b:=a.h1;have d:=a.w1;have c:=a.even;rw[a.high]at b;rw[a.wide]at d c;exact⟨b,aZ i (by decide),c,d,aZ (j _ (DF [] b)) (by decide)⟩
 cases h
def UG:∀(f:Nat) (a:Signs) (r:Bytes) (l:Signs),dD f a r=some l->(∀x∈a,Sm x.shape.rows)->∀x∈l,Sm x.shape.rows
 |0,a,r,l,h,hh=>by
  unfold dD at h;split at h
  ·split at h;·cases h
   cases h;exact hh
  cases h
 |f+1,a,r,l,h,hh=>by
  unfold dD at h;split at h
  ·split at h;·cases h
   cases h;exact hh
  obtain⟨x,b,h⟩:=kJ h;split at h;·cases h
  refine UG f _ _ _ h λz hz=> ?_;rcases al_51.mp hz with hz|hz
  ·exact hh z hz
  rw[al_56.mp hz];exact Qb b
def tU(l:Signs)(n:Name):List (List (List Bool)):=match l.find? λs=>s.name==n with|some s=>rT s.shape.rows|none=>[]
def UH(p:α->Bool):∀l:List α,((l.findIdx? p).bind λk=>l[k]?)=l.find? p
 | []=>rfl
 |x::l=>by
  rw[List.findIdx?_cons,lL];cases h:p x with
  |true=>rfl
  |false=>
   rw[<- UH p l];show(Option.map (· +1) (l.findIdx? p)).bind (λk=>(x::l)[k]?)=_
   cases l.findIdx? p<;>rfl
def Qc(l:Signs)(n:Name)(x:Sign):gL l (.alike n) x=(tU l n).contains x.shape.rows:=by
 show (match (findName l n).bind λk=>l[k]? with
  |some s=>(rT s.shape.rows).contains x.shape.rows
  |none=>false)=_
 unfold findName tU;rw[UH];cases l.find? λs=>s.name==n<;>rfl
def UI:∀{l:List α} {i:Nat} {x:α},(l.take i).find? p=none->l[i]? =some x->p x=true->l.find? p=some x
 | [],i,x,_,h,_=>by simp at h
 |a::l,0,x,_,h,e=>by have z:a=x:=cV h;subst z;rw[lL,e]
 |a::l,i+1,x,h0,h,e=>by
  rw[List.take_succ_cons,lL]at h0;rw[lL];cases q:p a with
  |true=>rw[q]at h0;cases h0
  |false=>
   rw[q]at h0;exact UI (l:=l) (i:=i) h0 h e
def Qe(h:l.find? p=none)(e:p x=false):(l++[x]).find? p=none:=by
 rw[List.find?_append,h];show([x].find? p)=none;rw[lL,e];rfl
def IU(f:Sign->Bool)(x:Sign):∀(l:Signs) (i:Nat),bL f i (l++[x])=bL f i l++(if f x=true then [i+l.length]else [])
 | [],i=>by
  show bL f i [x]=[]++_;unfold bL;by_cases e:f x=true;·rw[aB e,aB e];rfl
  rw[aA e,aA e];rfl
 |y::l,i=>by
  rw[qU];unfold bL;rw[IU f x l (i+1),cG,show i+1+l.length=i+(l.length+1) by lia];split<;>rfl
def yN(f:Sign->Bool):∀(l:Signs) (i:Nat),(bL f i l).length<=l.length
 | [],_=>aK _
 |y::l,i=>by
  unfold bL;have:=yN f l (i+1);split;·rw[cG,cG];lia
  rw[cG];lia
def nz(l:List Nat):List Int:=l.map λ(n:Nat)=>(n:Int)
def Qg(h:dD b.length [] b=some l):readList b= .ok l:=by have e:=TM b;rw[h]at e;cases q:readList b with|error x=>rw[q]at e;cases e|ok y=>rw[q]at e;cases e;rfl
def Qh(h:dD b.length [] b=none):∃x,readList b= .error x:=by have e:=TM b;rw[h]at e;cases q:readList b with|error x=>exact⟨x,Z⟩|ok y=>rw[q]at e;cases e
def UJ(i:Nat):∀(q:List Nat) (a:Nat),(q.foldl (λ(n k:Nat)=>n||| 2^k) a).testBit i=(a.testBit i||q.contains i)
 | [],a=>by simp
 |k::q,a=>by
  rw[sR,UJ i q,Nat.testBit_or,uU,qZ,Bool.or_assoc];congr 2;by_cases e:k=i;·subst e;simp
  rw[bN e];exact(al_35.mpr λz=>e z.symm).symm
def tV(q:List Nat)(i:Nat):(bitsOf q).testBit i=q.contains i:=by unfold bitsOf;rw[UJ,oP,oK]
def Qi(h:x≠0):∃i,x.testBit i=true:=by refine rB λn=>h (wZ λi=> ?_);rw[oP];cases z:x.testBit i with|false=>rfl|true=>exact absurd ⟨i,z⟩ n
def IV(q:List Nat):bitsOf q=0↔q=[]:=by
 constructor
 ·intro h;cases q with
  |nil=>rfl
  |cons k q=>
   have:=tV (k::q) k;rw[h,oP]at this;simp at this
 intro h;rw[h];rfl
def Qj(q s:List Nat):(bitsOf q&&& bitsOf s)≠0↔∃k,k∈q/\k∈s:=by
 constructor;·intro h;obtain⟨i,hi⟩:=Qi h;rw[oQ,tV,tV,cB]at hi;exact⟨i,al_76.mp hi.1,al_76.mp hi.2⟩
 rintro⟨k,a,b⟩ z;have:(bitsOf q&&& bitsOf s).testBit k=true:=by rw[oQ,tV,tV,al_76.mpr a,al_76.mpr b];rfl
 rw[z,oP]at this;cases this
def UK:∀(n x:Nat),x<=n->x≠0->x&&& (x-1)=0->∃k,x=2^k
 |0,x,h,h0,_=>absurd (Nat.le_zero.mp h) h0
 |n+1,x,h,h0,ha=>by
  rcases FT x with e|e
  ·have l:x=2*(x/2):=by lia
   have f:x/2≠0:=by lia
   have i:x/2&&& (x/2-1)=0:=by
    have c:=Nat.and_div_two (a:=x) (b:=x-1);rw[ha]at c;have d:(x-1)/2=x/2-1:=by lia
    rw[d]at c;rw[<- c]
   obtain⟨k,j⟩:=UK n (x/2) (by lia) f i;exact⟨k+1,by rw[l,j,pN,Nat.mul_comm]⟩
  have c:=Nat.and_div_two (a:=x) (b:=x-1);rw[ha]at c;have d:(x-1)/2=x/2:=by lia
  rw[d,Nat.and_self]at c;refine⟨0,?_⟩;show x=1;lia
def Qk(k:Nat):2^k&&& (2^k-1)=0:=by
 apply wZ;intro i;rw[oQ,uU,Nat.testBit_two_pow_sub_one,oP];by_cases e:k=i;·subst e;simp
 simp [e]
def Ql(q:List Nat):single (bitsOf q)=true↔∃k,∀i,i∈q↔i=k:=by
 unfold single;rw[cB,al_110,al_41];constructor;·rintro⟨b,c⟩;obtain⟨k,a⟩:=UK _ _ (aK _) b c;refine⟨k,λi=> ?_⟩;rw[<- al_76,<- tV,a,uU,gK];exact eq_comm
 rintro⟨k,a⟩;have e:bitsOf q=2^k:=by apply wZ;intro i;rw[tV,uU,jW,al_76,a i,gK];exact eq_comm
 rw[e];exact⟨Nat.pos_iff_ne_zero.mp (Nat.two_pow_pos k),Qk k⟩
def tW(q:List Nat):Prop:=q.Pairwise (· < ·)
def Qm(h:tW q):single (bitsOf q)=decide (q.length=1):=by
 rw[jW,Ql,gK];constructor
 ·rintro⟨k,a⟩
  match q,h,a with
  | [],_,a=>exact absurd ((a k).mpr Z) (by simp)
  | [x],_,_=>rfl
  |x::y::q,h,a=>
   have b:=(a x).mp (by simp);have c:=(a y).mp (by simp);have:=(al_174.mp h).1 y (by simp);lia
 intro e
 match q,e with| [x],_=>exact⟨x,λi=>by simp⟩
def IW(f:Sign->Bool):∀(l:Signs) (i:Nat),∀k∈bL f i l,i<=k
 | [],i,k,h=>by cases h
 |y::l,i,k,h=>by
  unfold bL at h;split at h
  ·rcases al_18.mp h with h|h;·lia
   have:=IW f l (i+1) k h;lia
  have:=IW f l (i+1) k h;lia
def tX(f:Sign->Bool):∀(l:Signs) (i:Nat),tW (bL f i l)
 | [],_=>AL
 |y::l,i=>by
  unfold bL;split
  ·refine List.Pairwise.cons (λk a=> ?_) (tX f l (i+1));have:=IW f l (i+1) k a;lia
  exact tX f l (i+1)
def DH(P:List Mask)(a:Bool)(k:Nat):Bool:=match P[k]? with|some none=>true|some (some s)=>a&&s !=0|none=>false
def rb(P:List Mask)(a:Bool)(z:List Nat):Nat->Bool
 |0=>z.contains 0
 |k+1=>z.contains (k+1)||(rb P a z k&&DH P a k)
def UL(h:k<n):((List.range n).filter p).contains k=p k:=by rw[jW,al_76,al_142,al_50];exact⟨λx=>x.2,λx=>⟨h,x⟩⟩
def Qn(P:List Mask)(a:Bool)(z:List Nat):spreadBy P a z=(List.range (P.length+1)).filter (rb P a z):=by
 unfold spreadBy;generalize P.length+1=n;induction n with
 |zero=>rfl
 |succ n ih=>
  rw[List.range_succ,uS,ih,sR,List.foldl_nil,List.filter_append];have b:(z.contains n=true\/(0 < n/\((List.range n).filter (rb P a z)).contains (n - 1)=true/\(match P[n - 1]? with
    |some none=>true
    |some (some s)=>a&&s !=0
    |none=>false)=true))↔rb P a z n=true:=by
   cases n with
   |zero=>
    show _↔z.contains 0=true;constructor
    ·rintro(h|⟨h,_⟩)
     ·exact h
     exact absurd h (by lia)
    exact .inl
   |succ m=>
    show _↔(z.contains (m+1)||(rb P a z m&&DH P a m))=true;rw[mH,cB];rw[Nat.add_sub_cancel,UL (hU m)];constructor
    ·rintro(h|⟨_,c,d⟩)
     ·exact .inl h
     exact .inr ⟨c,d⟩
    rintro(h|⟨c,d⟩)
    ·exact .inl h
    exact .inr ⟨Nat.succ_pos _,c,d⟩
  by_cases e:rb P a z n=true;·refine(aB (b.mpr e)).trans ?_;rw[sU,aB e];rfl
  refine(aA (λh=>e (b.mp h))).trans ?_;rw[sU,aA e];exact(bU _).symm
inductive Wk where
 |block
 |paren
 |nest
 deriving DecidableEq
structure AU where
 kind:Wk
 cells:Bool
 seats:Bool
 sheets:Bool
 deriving DecidableEq
def AU.mayStar(u:AU)(t:Tag):Bool:=u.sheets||t != .row
def AU.mayEnd(u:AU)(t:Tag):Bool:=u.sheets||(t== .one||(t== .column&&u.seats))
def AU.tag(u:AU):Tag:=if u.cells=true then .column else if u.seats=true then .row else .one
def eU(k:Wk):AU:=⟨k,false,false,false⟩
def DI:Within->Wk
 | .block=> .block
 | .paren=> .paren
 | .nest _ _ _=> .nest
def aU(c:Under):AU:=⟨DI c.within,!c.cells.isEmpty,!c.seats.isEmpty,!c.sheets.isEmpty⟩
def DJ(l:Nat×(Nat×Nat))(k:Wk)(v:Tag):List Nat:=match k with
 | .block=>[0]
 | .paren=>(match v with
  | .one=>[]
  | .column=>[l.2.1]
  | .row=>[l.2.2])
 | .nest=>[l.1]
def nY(l:Nat×(Nat×Nat))(u:AU)(t:Tag)(a s k:Bool):List Nat:=
 if(u.sheets||(t== .one||(a||(t== .column&&(u.seats||s)))))=false then []else
  (DJ l u.kind (if(u.cells||k)=true then .column else if(u.seats||s)=true then .row else .one)).map ((num01 a+(num01 s+num01 k))+ ·)
def eG(l:Nat×(Nat×Nat))(u:AU)(t:Tag):Nat:=([false,true].flatMap λa=>[false,true].flatMap λs=>[false,true].flatMap λk=>nY l u t a s k).foldl min 1000
def UM:∀(xs:List Nat) (n c:Nat),xs.foldl min n<=c↔n<=c\/∃x∈xs,x<=c
 | [],n,c=>by simp
 |x::xs,n,c=>by rw[sR,UM xs,show min n x<=c↔n<=c\/x<=c by lia];simp [or_assoc]
def acost_iff:eG l u t<=c↔1000<=c\/∃a s k,∃x∈nY l u t a s k,x<=c:=by
 unfold eG;rw[UM];simp only [List.mem_flatMap];constructor
 ·rintro(h|⟨x,⟨a,_,s,_,k,_,h⟩,e⟩)
  ·exact .inl h
  exact .inr ⟨a,s,k,x,h,e⟩
 rintro(h|⟨a,s,k,x,h,e⟩)
 ·exact .inl h
 exact .inr ⟨x,⟨a,by cases a<;>simp,s,by cases s<;>simp,k,by cases k<;>simp,h⟩,e⟩
def DK(c:Nat)(h:∀a s k,∀x∈nY l b t' a s k,∃a s k,∃y∈nY l u t a s k,y<=c+x):eG l u t<=c+eG l b t':=by
 rcases acost_iff.mp (aK (eG l b t'))with e|⟨a,s,k,x,hx,e⟩;·exact acost_iff.mpr (.inl (by lia))
 obtain⟨a,s,k,y,f,d⟩:=h a s k x hx;exact acost_iff.mpr (.inr ⟨a,s,k,y,f,aZ d (Nat.add_le_add_left e c)⟩)
def gS:List AU->Nat×(Nat×Nat)
 | []=>(0,(0,0))
 |c::r=>(eG (gS r) c .one,(eG (gS r) c .column,eG (gS r) c .row))
def dX(l:List AU)(t:Tag):Nat:=match t with| .one=>(gS l).1| .column=>(gS l).2.1| .row=>(gS l).2.2
def IX(e:Nat×(Nat×Nat))(c:Under)(t:Tag):costAt e c t=eG e (aU c) t:=by
 obtain⟨w,a,b,d⟩:=c;unfold costAt eG aU nY;dsimp only;congr 2;funext x;congr 1;funext y;congr 1;funext z;split;·rfl
 generalize (if(!a.isEmpty||z)=true then Tag.column else if(!b.isEmpty||y)=true then .row else .one)=v;cases w<;>cases v<;>rfl
def UN:∀l:List Under,costsOf l=gS (l.map aU)
 | []=>rfl
 |c::r=>by
  show(costAt (costsOf r) c .one,(costAt (costsOf r) c .column,costAt (costsOf r) c .row))=_;rw[IX,IX,IX,UN r];rfl
def IY(l:List Under)(t:Tag):cost l t=dX (l.map aU) t:=by unfold cost dX;rw[UN];cases t<;>rfl
def DL(b:x∈nY l d t' h f e)(j:u.kind=d.kind)(i:(u.sheets||(t== .one||(a||(t== .column&&(u.seats||s)))))=true)
  (n:(if(u.cells||k)=true then Tag.column else if(u.seats||s)=true then .row else .one)=if(d.cells||e)=true then .column else if(d.seats||f)=true then .row else .one) (c:Nat) (m:num01 a+(num01 s+num01 k)<=c+(num01 h+(num01 f+num01 e))):
  ∃a s k,∃y∈nY l u t a s k,y<=c+x:=by
 unfold nY at b;split at b;·cases b
 obtain⟨y,o,rfl⟩:=al_67.mp b;refine⟨a,s,k,_,?_,aZ (AH m y) (uO (Nat.add_assoc _ _ _))⟩;unfold nY;rw[i,aA (by decide),n,j];exact List.mem_map_of_mem o
def Qo(l:Nat×(Nat×Nat))(u:AU)(t:Tag):eG l u t<=1+eG l {u with sheets:=true} .one:=
 DK 1 λa s k x b=>DL (u:=u) (t:=t) (a:=true) (s:=s) (k:=k) b rfl (by simp) rfl 1 (by have:num01 true=1:=rfl;lia)
def Qp(l:Nat×(Nat×Nat))(u:AU)(t:Tag)(h:u.mayStar t=true):eG l u t<=1+eG l {u with seats:=true,sheets:=false} .one:=
 DK 1 λa s k x b=>DL (u:=u) (t:=t) (a:=a) (s:=true) (k:=k) b rfl (by cases t<;>simp_all [AU.mayStar]) (by simp) 1 (by have:num01 true=1:=rfl;lia)
def Qq(l:Nat×(Nat×Nat))(u:AU)(t:Tag)(h:u.mayEnd t=true):eG l u t<=1+eG l {u with cells:=true,seats:=false,sheets:=false} .one:=
 DK 1 λa s k x b=>DL (u:=u) (t:=t) (a:=a) (s:=s) (k:=true) b rfl (by cases t<;>simp_all [AU.mayEnd];rcases h with h|h<;>simp [h]) (by simp) 1 (by have:num01 true=1:=rfl;lia)
def IZ(l:Nat×(Nat×Nat)):Tag->Nat
 | .one=>l.1
 | .column=>l.2.1
 | .row=>l.2.2
def Qr(l:List AU)(t:Tag):dX l t=IZ (gS l) t:=by cases t<;>rfl
def pB(u:AU)(r:List AU)(t:Tag):dX (u::r) t=eG (gS r) u t:=by cases t<;>rfl
def JA(h:u.mayEnd t=true)(a:c∈DJ l u.kind u.tag):eG l u t<=c:=by refine acost_iff.mpr (.inr ⟨false,false,false,c,?_,aK c⟩);unfold nY;rw[aA (by unfold AU.mayEnd at h;rw[oK,jD,h];decide),jD,jD];exact al_67.mpr ⟨c,a,kS c⟩
def Qs(l:Nat×(Nat×Nat))(u:AU)(t:Tag)(h:u.mayEnd t=true)(a:u.kind= .paren)(b:u.tag≠ .one):eG l u t<=IZ l u.tag:=
 JA h (by rw[a];revert b;cases u.tag<;>simp [DJ,IZ])
def UO(b:c<=1000)(h:∀v,∀x∈DJ l u.kind v,c<=x):c<=eG l u t:=by
 rcases acost_iff.mp (aK (eG l u t))with e|⟨a,s,k,x,hx,e⟩;·exact aZ b e
 unfold nY at hx;split at hx;·cases hx
 obtain⟨y,d,rfl⟩:=al_67.mp hx;exact aZ (h _ _ d) (aZ (Nat.le_add_left _ _) e)
def UP(l:Nat×(Nat×Nat))(u:AU)(t:Tag):eG l u t<=1000:=acost_iff.mpr (.inl (aK _))
def JB(l:Nat×(Nat×Nat))(u:AU)(t:Tag)(h:u.mayEnd t=true)(a:u.kind= .nest):eG l u t=min 1000 l.1:=
 Nat.le_antisymm (Nat.le_min.mpr ⟨UP l u t,JA h (by rw[a];exact .head _)⟩) (UO (Nat.min_le_left _ _) (by rw[a];rintro v x (_|⟨_,⟨⟩⟩);exact Nat.min_le_right _ _))
def JC(l:Nat×(Nat×Nat))(u:AU)(t:Tag)(h:u.mayEnd t=true)(a:u.kind= .block):eG l u t=0:=Nat.le_zero.mp (JA h (by rw[a];exact .head _))
def UQ(l:Nat×(Nat×Nat)):eG l (eU .nest) .one=min 1000 l.1:=JB l (eU .nest) .one rfl rfl
def JD(l:Nat×(Nat×Nat)):eG l (eU .block) .one=0:=JC l (eU .block) .one rfl rfl
def Qt(l:Nat×(Nat×Nat))(u:AU)(t:Tag):eG l u .one<=eG l u t:=
 aZ (DK 0 λa s k x b=>DL (u:=u) (t:= .one) (a:=a) (s:=s) (k:=k) b Z (by simp) Z 0 (by lia)) (uO (kS _))
def Qu(l:Nat × (Nat × Nat))(a:l.1<=1000)(b:l.1<=l.2.1)(c:l.1<=l.2.2):l.1<=eG l (eU .paren) .one:=UO a (by
 rintro v x h;cases v<;>rcases h with _|⟨_,⟨⟩⟩<;>assumption)
def UR:∀(l:List AU) (t:Tag),dX l t<=1000
 | [],t=>by cases t<;>exact bH _
 |u::r,t=>by rw[pB];exact UP _ u t
def US:∀(l:List AU) (t:Tag),dX l .one<=dX l t
 | [],t=>by cases t<;>exact aK _
 |u::r,t=>by rw[pB,pB];exact Qt _ u t
def Qv(l:List AU):dX l .one<=dX (eU .paren::l) .one:=by rw[pB];exact Qu (gS l) (UR l .one) (US l .column) (US l .row)
def Qw(l:List AU):dX (eU .nest::l) .one=dX l .one:=by rw[pB,UQ];exact Nat.min_eq_right (UR l .one)
inductive Item where
 |brk
 |sgn (s:Stand)
 |gap (k:Nat) (q:List Nat)
 deriving DecidableEq
def JE:Part->Item
 | .sign s _=> .sgn s
 | .gap k q=> .gap k q
 |_=> .brk
def fD(p:Part):List Item:=p.hosts.map JE
def eV(l:List Part):List Item:=(hostsOf l).map JE
def yO:Element->List Item
 | .lost=>[.brk]
 | .block p=>fD p
 | .ring l=>eV l
def jH(l:Line):List Item:=l.flatMap yO
def gY(t:Text):List Item:=t.flatMap jH
def yP:eV []=[]:=rfl
def tY(p:Part)(l:List Part):eV (p::l)=fD p++eV l:=by unfold eV fD;rw[hostsOf,dN]
def UT:∀(a b:List Part),eV (a++b)=eV a++eV b
 | [],b=>rfl
 |p::a,b=>by rw[qU,tY,tY,UT a b,dQ]
def pC(a:List Part)(p:Part):eV (a++[p])=eV a++fD p:=by rw[UT,tY,yP,bU]
def JF(s:Stand)(l:List Part):fD (.sign s l)= .sgn s::eV l:=by unfold fD eV;rw[Part.hosts,fE];rfl
def JG(k:Nat)(q:List Nat):fD (.gap k q)=[.gap k q]:=by unfold fD;rw[Part.hosts];rfl
def DM(h:How)(l:List Part):fD (.group h l)=eV l:=by unfold fD eV;rw[Part.hosts]
def JH(k:Nat)(p:Part):fD (.nest k p)=fD p:=by unfold fD;rw[Part.hosts]
def JI(h:l.isEmpty=true):eV l=[]:=by rw[al_128.mp h];rfl
def nZ:Within->List Item
 | .block=>[]
 | .paren=>[]
 | .nest s had _=> .sgn s::eV had
def lB(c:Under):List Item:=nZ c.within++(eV c.cells++(eV c.seats++eV c.sheets))
def iO:List Under->List Item
 | []=>[]
 |c::r=>iO r++lB c
def JJ(c:Under)(p:Part):fD (c.seat p)=eV c.sheets++fD p:=by
 unfold Under.seat;split;·rename_i h;rw[JI h];rfl
 rw[DM,pC]
def JK(c:Under)(p:Part):fD (c.cell p)=eV c.seats++(eV c.sheets++fD p):=by
 unfold Under.cell;split;·rename_i h;rw[JI h,JJ];rfl
 rw[DM,pC,JJ]
def tZ(c:Under)(p:Part):fD (c.whole p)=eV c.cells++(eV c.seats++(eV c.sheets++fD p)):=by
 unfold Under.whole;split;·rename_i h;rw[JI h,JK];rfl
 rw[DM,pC,JK]
inductive FM where
 |fresh
 |want
 |name (w:Bytes)
 |mark (s:Stand) (stage:Nat)
 |gap (w:Bytes)
 |gapMark (k:Nat) (q:List Nat)
 |place (w:Bytes)
 |whole (t:Tag)
 |dots (n:Nat)
 |ended
structure FS where
 items:List Item
 lines:Nat
 line:Nat
 ring:Option Nat
 pieces:Nat
 stack:List AU
 mode:FM
def FS.begins(y:FS)(c:UInt8):Option FS:=
 if isBig c=true then some {y with pieces:=y.pieces+1,mode:= .name [c]}
 else if c=95 then some {y with pieces:=y.pieces+1,mode:= .gap []}
 else if c=40 then some {y with stack:=eU .paren::y.stack,mode:= .want}
 else none
def FS.behind(y:FS)(t:Tag)(c:UInt8):Option FS:=match y.stack with
 | []=>none
 |u::r=>
  if c=38 then some {y with stack:={u with sheets:=true}::r,mode:= .want}
  else if c=42 then(if u.mayStar t=true then some {y with stack:={u with seats:=true,sheets:=false}::r,mode:= .want}else none)
  else if u.mayEnd t=false then none
  else if c=58 then some {y with stack:={u with cells:=true,seats:=false,sheets:=false}::r,mode:= .want}
  else match u.kind with
   | .paren=>if c=41/\u.tag≠ .one then some {y with stack:=r,mode:= .whole u.tag}else none
   | .nest=>if c=59 then some {y with stack:=eU .nest::r,mode:= .place []}else if c=93 then some {y with stack:=r,mode:= .whole .one}else none
   | .block=>if 64<y.pieces then none else match y.ring with
    |none=>if c=32 then(if y.line+1<64 then some {y with line:=y.line+1,pieces:=0,stack:=[],mode:= .fresh}else none)else if c=10 then some {y with lines:=y.lines+1,line:=0,pieces:=0,stack:=[],mode:= .fresh}else none
    |some n=>if c=32 then(if n+1<16 then some {y with ring:=some (n+1),pieces:=0,stack:=[eU .block],mode:= .want}else none)else if c=62 then some {y with ring:=none,line:=y.line+1,pieces:=0,stack:=[],mode:= .ended}else none
def FS.emit(y:FS)(i:Item):FS:={y with items:=y.items++[i]}
def FS.marked(y:FS)(s:Stand)(a:Nat)(c:UInt8):Option FS:=
 if c=126/\a=0 then some {y with mode:= .mark {s with mirrored:=true} 1}
 else if c=37/\a<=1 then some {y with mode:= .mark s 2}
 else if(a=2\/a=3)/\49<=c.toNat/\c.toNat<=52/\s.quarters.all (λ(k:Nat)=>decide (k<c.toNat-48))=true then some {y with mode:= .mark {s with quarters:=s.quarters++[c.toNat-48]} 3}
 else if a=2 then none
 else if c=63/\a≠4 then some {y with mode:= .mark {s with unsure:=true} 4}
 else if c=91 then some {y.emit (.sgn s)with stack:=eU .nest::y.stack,mode:= .place []}
 else(y.emit (.sgn s)).behind .one c
def qI:List AU->Bool
 |u::_=>u.kind== .nest
 | []=>false
def FS.step(y:FS)(c:UInt8):Option FS:=match y.mode with
 | .fresh=>if y.lines=512/\y.line=0 then none else if c=60 then some {y with ring:=some 0,pieces:=0,stack:=[eU .block],mode:= .want}else if c=46 then some {y with mode:= .dots 1}else FS.begins {y with pieces:=0,stack:=[eU .block]} c
 | .want=>y.begins c
 | .name w=>if nameGoes (w++[c])=true then some { y with mode := .name (w++[c]) } else (match nameOf w with
  |some n=>y.marked ⟨n,false,[],false⟩ 0 c
  |none=>none)
 | .mark s k=>y.marked s k c
 | .gap w=>if isDigit c=true then(if(w.isEmpty=false\/c≠48)/\numberOf (w++[c])<=GAP then some {y with mode:= .gap (w++[c])}else none)else if w.isEmpty=true then none else if c=37 then some {y with mode:= .gapMark (numberOf w) []}else(y.emit (.gap (numberOf w) [])).behind .one c
 | .gapMark k q=>if 49<=c.toNat/\c.toNat<=52/\q.all (λ(i:Nat)=>decide (i<c.toNat-48))=true then some {y with mode:= .gapMark k (q++[c.toNat-48])}else if q.isEmpty=true then none else(y.emit (.gap k q)).behind .one c
 | .place w=>if PLACES.any (λ(x:Bytes)=>(w++[c]).isPrefixOf x)=true then some {y with mode:= .place (w++[c])}else if(PLACES.findIdx? (λ(x:Bytes)=>x==w)).isSome=true/\qI y.stack=true then y.begins c else none
 | .whole t=>y.behind t c
 | .dots n=>if c≠46 then none else if n=1 then some {y with mode:= .dots 2}else some {y.emit .brk with line:=y.line+1,mode:= .ended}
 | .ended=>if c=32 then(if y.line<64 then some {y with mode:= .fresh}else none)else if c=10 then some {y with lines:=y.lines+1,line:=0,mode:= .fresh}else none
def aM:Mode->FM
 | .fresh=> .fresh
 | .want=> .want
 | .name w=> .name w
 | .mark s k=> .mark s k
 | .gap w=> .gap w
 | .gapMark k q=> .gapMark k q
 | .place w=> .place w
 | .whole _ t=> .whole t
 | .dots n=> .dots n
 | .ended=> .ended
def pD:Mode->List Item
 | .whole p _=>fD p
 |_=>[]
def fG:Mode->Bool
 | .fresh=>false
 | .dots _=>false
 | .ended=>false
 |_=>true
def lC:FM->Bool
 | .fresh=>false
 | .dots _=>false
 | .ended=>false
 |_=>true
def JL(m:Mode):lC (aM m)=fG m:=by cases m<;>rfl
def uA:Option (List Part)->List Item
 |none=>[]
 |some l=>eV l
def before(z:Scan):List Item:=gY z.lines++(jH z.line++uA z.ring)
def gI(z:Scan)(a:List Item)(m:FM):FS:=⟨before z++(iO z.stack++a),z.lines.length,z.line.length,z.ring.map List.length,z.pieces,z.stack.map aU,m⟩
def pE(z:Scan)(m:FM):FS:=⟨gY z.lines++jH z.line,z.lines.length,z.line.length,none,0,[],m⟩
def aS(z:Scan):FS:=if fG z.mode=true then gI z (pD z.mode) (aM z.mode)else pE z (aM z.mode)
def phi(y:FS):Nat:=match y.mode with| .want=>y.pieces+1+dX y.stack .one| .place _=>y.pieces+1+dX y.stack .one| .whole t=>y.pieces+dX y.stack t|_=>y.pieces+dX y.stack .one
def cX(y:FS):Bool:= !lC y.mode||decide (phi y<=64)
def Bot:List Under->Prop
 | []=>True
 |c::r=>(DI c.within= .block↔r=[])/\Bot r
def lD(h:fG z.mode=true):aS z=gI z (pD z.mode) (aM z.mode):=aB h
def rX(h:fG z.mode=false):aS z=pE z (aM z.mode):=aA (by rw[h];exact bX)
def oA(z:Scan):Prop:=(fG z.mode=false->z.ring=none)/\(fG z.mode=true->Bot z.stack/\z.stack≠[])
def fX(h:cX y=true):(some y).filter cX=some y:=by show(if cX y=true then some y else none)=_;rw[aB h]
def yQ(h:cX y=false):(some y).filter cX=none:=by show(if cX y=true then some y else none)=_;rw[h];rfl
def mW(h:lC y.mode=false):cX y=true:=by unfold cX;rw[h];rfl
def iD(h:phi y<=64):cX y=true:=by unfold cX;rw[bP h,Bool.or_true]
def gZ(h:cX y=true)(hi:lC y.mode=true):phi y<=64:=by unfold cX at h;rw[hi]at h;exact of_decide_eq_true h
def vU(z:Scan)(m:Mode)(a:m= .want\/∃w,m= .place w):(Scan.wants z m).map aS=(some (aS {z with mode:=m})).filter cX:=by
 have hi:fG m=true:=by rcases a with rfl|⟨w,rfl⟩<;>rfl
 have b:phi (aS {z with mode:=m})=z.pieces+1+cost z.stack .one:=by rw[lD (z:={z with mode:=m}) hi,IY];rcases a with rfl|⟨w,rfl⟩<;>rfl
 unfold Scan.wants;by_cases e:z.pieces+1+cost z.stack .one<=PIECES;·rw[aB e,fX (iD (by rw[b];exact e))];rfl
 rw[aA e];refine(yQ ?_).symm;unfold cX;rw[show lC (aS {z with mode:=m}).mode=true by rw[lD (z:={z with mode:=m}) hi];exact(JL m).trans hi,b,bN (show¬z.pieces+1+cost z.stack .one<=64 from e)];rfl
def JM(z:Scan)(c:UInt8)(m:FM)(k:z.pieces+1+dX (z.stack.map aU) .one<=64)(j:Bot z.stack)(a:z.stack≠[]):
  (Scan.begins z c).map aS=(FS.begins (gI z [] m) c).filter cX/\∀b,Scan.begins z c=some b->oA b:=by
 unfold Scan.begins FS.begins;by_cases d:isBig c=true
 ·rw[aB d,aB d];refine⟨(fX (iD ?_)).symm,λb e=> ?_⟩;·exact k
  cases e;exact⟨λh=>(by cases h),λ_=>⟨j,a⟩⟩
 rw[aA d,aA d];by_cases f:c=95
 ·rw[aB f,aB f];refine⟨(fX (iD ?_)).symm,λb e=> ?_⟩;·exact k
  cases e;exact⟨λh=>(by cases h),λ_=>⟨j,a⟩⟩
 rw[aA f,aA f];by_cases i:c=40
 ·rw[aB i,aB i,vU _ _ (.inl Z)];refine⟨?_,λb e=> ?_⟩
  ·congr 2;rw[lD (show fG Mode.want=true from rfl)];unfold gI;congr 1;show before z++((iO z.stack++[])++[])=before z++(iO z.stack++[]);rw[bU]
  unfold Scan.wants at e;split at e;·cases e;exact⟨λh=>(by cases h),λ_=>⟨⟨⟨λh=>(by cases h),λh=>absurd h a⟩,j⟩,rC _ _⟩⟩
  cases e
 rw[aA i,aA i];exact⟨Z,λb e=>by cases e⟩
def JN(l:List α)(p:α):(l++[p]).isEmpty=false:=by cases l<;>rfl
def Qx(u:Under)(p:Part):aU {u with sheets:=u.sheets++[p]}={aU u with sheets:=true}:=by unfold aU;dsimp only;rw[JN];rfl
def Qy(u:Under)(p:Part):aU {u with seats:=u.seats++[p],sheets:=[]}={aU u with seats:=true,sheets:=false}:=by unfold aU;dsimp only;rw[JN];rfl
def Qz(u:Under)(p:Part):aU {u with cells:=u.cells++[p],seats:=[],sheets:=[]}={aU u with cells:=true,seats:=false,sheets:=false}:=by unfold aU;dsimp only;rw[JN];rfl
def Ra(u:Under):(aU u).tag=u.tag:=by obtain⟨w,a,b,d⟩:=u;unfold AU.tag Under.tag aU;dsimp only;cases a.isEmpty<;>cases b.isEmpty<;>rfl
def Rb(u:Under)(t:Tag):(aU u).mayStar t=u.mayStar t:=rfl
def UU(u:Under)(t:Tag):(aU u).mayEnd t=u.mayEnd t:=rfl
def DN(l:Line)(e:Element):jH (l++[e])=jH l++yO e:=by unfold jH;rw[List.flatMap_append,uV,List.flatMap_nil,bU]
def UV(l:Text)(e:Line):gY (l++[e])=gY l++jH e:=by unfold gY;rw[List.flatMap_append,uV,List.flatMap_nil,bU]
def Bot.top(h:Bot (u::r))(e:DI v.within=DI u.within):Bot (v::r):=⟨by rw[e];exact h.1,h.2⟩
def yR(e:Scan.wants z m=some a):a={z with mode:=m}:=by
 unfold Scan.wants at e;split at e;·cases e;rfl
 cases e
def DO(z:Scan)(p:Part)(t:Tag)(c:UInt8)(m:FM)(v:z.pieces+dX (z.stack.map aU) t<=64)(j:Bot z.stack):
  (z.behind p t c).map aS=(FS.behind (gI z (fD p) m) t c).filter cX/\∀f,z.behind p t c=some f->oA f:=by
 obtain⟨lines,line,ring,pieces,stack,mode⟩:=z;dsimp only at v j;unfold Scan.behind FS.behind gI;dsimp only;cases stack with
 |nil=>exact⟨Z,λf e=>by cases e⟩
 |cons u r=>
  rw[fE]at v ⊢;rw[pB]at v;dsimp only;by_cases x:c=38
  ·rw[aB x,aB x,vU _ _ (.inl Z)];refine⟨?_,λf e=> ?_⟩
   ·congr 2;rw[lD (show fG Mode.want=true from rfl)];unfold gI;dsimp only [pD,aM,before,iO,lB,List.map_cons];rw[fE,Qx,pC];congr 1;simp only [dQ,bU]
   rw[yR e];exact⟨λh=>(by cases h),λ_=>⟨j.top Z,rC _ _⟩⟩
  rw[aA x,aA x];by_cases y:c=42
  ·rw[aB y,aB y,Rb];by_cases B:u.mayStar t=true
   ·rw[aB B,aB B,vU _ _ (.inl Z)];refine⟨?_,λf e=> ?_⟩
    ·congr 2;rw[lD (show fG Mode.want=true from rfl)];unfold gI;dsimp only [pD,aM,before,iO,lB,List.map_cons];rw[fE,Qy,pC,JJ];congr 1;simp only [dQ,bU,yP]
    rw[yR e];exact⟨λh=>(by cases h),λ_=>⟨j.top Z,rC _ _⟩⟩
   rw[aA B,aA B];exact⟨Z,λf e=>by cases e⟩
  rw[aA y,aA y,UU];by_cases o:u.mayEnd t=false;·rw[aB o,aB o];exact⟨Z,λf e=>by cases e⟩
  rw[aA o,aA o];have q:(aU u).mayEnd t=true:=by rw[UU];exact eq_true_of_ne_false o
  by_cases A:c=58
  ·rw[aB A,aB A,vU _ _ (.inl Z)];refine⟨?_,λf e=> ?_⟩
   ·congr 2;rw[lD (show fG Mode.want=true from rfl)];unfold gI;dsimp only [pD,aM,before,iO,lB,List.map_cons];rw[fE,Qz,pC,JK];congr 1;simp only [dQ,bU,yP]
   rw[yR e];exact⟨λh=>(by cases h),λ_=>⟨j.top Z,rC _ _⟩⟩
  rw[aA A,aA A];obtain⟨w,cells,b,a⟩:=u;cases w with
  |paren=>
   have n:(aU ⟨.paren,cells,b,a⟩).kind= .paren:=rfl;dsimp only;rw[n];dsimp only;rw[Ra];by_cases i:c=41/\Under.tag ⟨.paren,cells,b,a⟩≠ .one
   ·rw[aB i];have E:∀(P:Part),aS ⟨lines,line,ring,pieces,r,.whole P (Under.tag ⟨.paren,cells,b,a⟩)⟩=gI ⟨lines,line,ring,pieces,r,.whole P (Under.tag ⟨.paren,cells,b,a⟩)⟩ (fD P) (.whole (Under.tag ⟨.paren,cells,b,a⟩)):=λP=>lD rfl;have D:gI ⟨lines,line,ring,pieces,r,.whole (Under.whole ⟨.paren,cells,b,a⟩ p) (Under.tag ⟨.paren,cells,b,a⟩)⟩ (fD (Under.whole ⟨.paren,cells,b,a⟩ p)) (.whole (Under.tag ⟨.paren,cells,b,a⟩)) =
      {items:=before ⟨lines,line,ring,pieces,⟨.paren,cells,b,a⟩::r,mode⟩++(iO (⟨.paren,cells,b,a⟩::r)++fD p),lines:=lines.length,line:=line.length,ring:=ring.map List.length,pieces:=pieces,stack:=r.map aU,mode:= .whole (Under.tag ⟨.paren,cells,b,a⟩)}:=by
     unfold gI;dsimp only [before,iO,lB,nZ];rw[tZ];congr 1;simp only [dQ,lJ]
    by_cases d:pieces+cost r (Under.tag ⟨.paren,cells,b,a⟩)<=PIECES
    ·rw[aB ⟨i.1,i.2,d⟩];refine⟨?_,λf e=> ?_⟩
     ·rw[fX]
      ·show some (aS _)=_;rw[E,D]
      refine iD ?_;show pieces+dX (r.map aU) _<=64;rw[<- IY];exact d
     cases e;exact⟨λh=>(by cases h),λ_=>⟨j.2,λh=>(by have:=j.1.mpr h;cases this)⟩⟩
    rw[aA (λh=>d h.2.2)];refine⟨?_,λf e=>by cases e⟩;refine(yQ ?_).symm;unfold cX;show(false||decide (pieces+dX (r.map aU) _<=64))=false;rw[<- IY,bN (show¬pieces+cost r _<=64 from d)];rfl
   rw[aA i,aA (λh=>i ⟨h.1,h.2.1⟩)];exact⟨Z,λf e=>by cases e⟩
  |nest s had k=>
   have n:(aU ⟨.nest s had k,cells,b,a⟩).kind= .nest:=rfl;dsimp only;rw[n];dsimp only;have C:r≠[]:=λh=>by have:=j.1.mpr h;cases this
   by_cases i:c=59
   ·rw[aB i,aB i,vU _ _ (.inr ⟨[],Z⟩)];refine⟨?_,λf e=> ?_⟩
    ·congr 2;rw[lD (show fG (Mode.place [])=true from rfl)];unfold gI;dsimp only [pD,aM,before,iO,lB,nZ,opened,List.map_cons];rw[pC,JH,tZ];congr 1;simp only [dQ,bU,yP,qU,lJ]
    rw[yR e];exact⟨λh=>(by cases h),λ_=>⟨⟨⟨λh=>(by cases h),λh=>absurd h C⟩,j.2⟩,rC _ _⟩⟩
   rw[aA i,aA i];by_cases d:c=93
   ·rw[aB d,aB d];refine⟨?_,λf e=> ?_⟩
    ·rw[fX]
     ·show some (aS _)=_;rw[lD (show fG (Mode.whole _ _)=true from rfl)];unfold gI;dsimp only [pD,aM,before,iO,lB,nZ];rw[JF,pC,JH,tZ];congr 2;simp only [dQ,qU,lJ]
     refine iD ?_;show pieces+dX (r.map aU) .one<=64;rw[JB _ _ _ q n]at v;show pieces+(gS (r.map aU)).1<=64;lia
    cases e;exact⟨λh=>(by cases h),λ_=>⟨j.2,λh=>(by have:=j.1.mpr h;cases this)⟩⟩
   rw[aA d,aA d];exact⟨Z,λf e=>by cases e⟩
  |block=>
   have n:(aU ⟨.block,cells,b,a⟩).kind= .block:=rfl;dsimp only;rw[n];dsimp only;have C:r=[]:=j.1.mp rfl;subst C;rw[JC _ _ _ q n]at v;rw[aA (show¬64<pieces by lia)];cases ring with
   |none=>
    dsimp only [Option.map_none];by_cases i:c=32
    ·rw[aB i,aB i];by_cases d:line.length+1<64
     ·rw[aB d,aB (show line.length+1<ELEMENTS from d)];refine⟨?_,λf e=>(by cases e;exact⟨λ_=>rfl,λh=>(by cases h)⟩)⟩;rw[fX (mW Z)];show some (aS _)=_;rw[rX (show fG Mode.fresh=false from rfl)];unfold pE;dsimp only [before,iO,lB,nZ,uA,aM];rw[DN,bF,dB];show some (FS.mk (gY lines++(jH line++fD _)) _ _ _ _ _ _)=_;rw[tZ];congr 2;simp only [dQ,lJ,bU]
     rw[aA d,aA (show¬line.length+1<ELEMENTS from d)];exact⟨Z,λf e=>by cases e⟩
    rw[aA i,aA i];by_cases d:c=10
    ·rw[aB d,aB (show c=LF from d)];refine⟨?_,λf e=>(by cases e;exact⟨λ_=>rfl,λh=>(by cases h)⟩)⟩;rw[fX (mW Z)];show some (aS (lineEnd _ _))=_;unfold lineEnd;rw[rX (show fG Mode.fresh=false from rfl)];unfold pE;dsimp only [before,iO,lB,nZ,uA,aM];rw[UV,DN,bF,dB];show some (FS.mk ((gY lines++(jH line++fD _))++jH []) _ _ _ _ _ _)=_;rw[tZ];congr 2;show _++[]=_;simp only [dQ,lJ,bU]
    rw[aA d,aA (show¬c=LF from d)];exact⟨Z,λf e=>by cases e⟩
   |some l=>
    dsimp only [Option.map_some];by_cases i:c=32
    ·rw[aB i,aB i];by_cases d:l.length+1<16
     ·rw[aB d,aB (show l.length+1<RING from d)];refine⟨?_,λf e=>(by cases e;exact⟨λh=>(by cases h),λ_=>⟨⟨⟨λ_=>rfl,λ_=>rfl⟩,trivial⟩,rC _ _⟩⟩)⟩;rw[fX]
      ·show some (aS _)=_;rw[lD (show fG Mode.want=true from rfl)];unfold gI;dsimp only [before,iO,lB,nZ,uA,aM,pD,opened,List.map_cons,List.map_nil,Option.map_some];rw[pC,tZ,bF,dB];congr 2;simp only [dQ,lJ,bU,yP]
      refine iD ?_;show 0+1+dX [eU .block] .one<=64;rw[pB,JD];decide
     rw[aA d,aA (show¬l.length+1<RING from d)];exact⟨Z,λf e=>by cases e⟩
    rw[aA i,aA i];by_cases d:c=62
    ·rw[aB d,aB d];refine⟨?_,λf e=>(by cases e;exact⟨λ_=>rfl,λh=>(by cases h)⟩)⟩;rw[fX (mW Z)];show some (aS _)=_;rw[rX (show fG Mode.ended=false from rfl)];unfold pE;dsimp only [before,iO,lB,nZ,uA,aM];rw[DN,bF,dB];show some (FS.mk (gY lines++(jH line++eV (l++[_]))) _ _ _ _ _ _)=_;rw[pC,tZ];congr 2;simp only [dQ,lJ,bU]
    rw[aA d,aA d];exact⟨Z,λf e=>by cases e⟩
def DP(z:Scan)(m:FM)(i:Item):(gI z [] m).emit i=gI z [i] m:=by
 unfold gI FS.emit;congr 1;simp only [dQ,bU]
def UW(z:Scan)(s:Stand)(k:Nat)(c:UInt8)(m:FM)(u:z.pieces+dX (z.stack.map aU) .one<=64)(r:Bot z.stack)(b:z.stack≠[]):
  (z.marked s k c).map aS=(FS.marked (gI z [] m) s k c).filter cX/\∀a,z.marked s k c=some a->oA a:=by
 have d:∀(q:Stand) (p:Nat),Option.map aS (some {z with mode:=Mode.mark q p})=(some {gI z [] m with mode:=FM.mark q p}).filter cX/\∀a,some {z with mode:=Mode.mark q p}=some a->oA a:=λq p=>by
  refine⟨?_,λa e=> ?_⟩
  ·rw[fX]
   ·rfl
   exact iD u
  cases e;exact⟨λh=>(by cases h),λ_=>⟨r,b⟩⟩
 unfold Scan.marked FS.marked;by_cases f:c=126/\k=0;·rw[aB f,aB f];exact d _ _
 rw[aA f,aA f];by_cases i:c=37/\k<=1;·rw[aB i,aB i];exact d _ _
 rw[aA i,aA i];by_cases j:(k=2\/k=3)/\49<=c.toNat/\c.toNat<=52/\s.quarters.all (λ(k:Nat)=>decide (k<c.toNat-48))=true;·rw[aB j,aB j];exact d _ _
 rw[aA j,aA j];by_cases l:k=2;·rw[aB l,aB l];exact⟨Z,λa e=>by cases e⟩
 rw[aA l,aA l];by_cases n:c=63/\k≠4;·rw[aB n,aB n];exact d _ _
 rw[aA n,aA n];by_cases o:c=91
 ·rw[aB o,aB o,vU _ _ (.inr ⟨[],Z⟩)];refine⟨?_,λa e=> ?_⟩
  ·congr 2;rw[lD (show fG (Mode.place [])=true from rfl),DP];unfold gI;dsimp only [pD,aM,before,iO,lB,nZ,opened];rw[fE];congr 1;show _++(iO z.stack++([Item.sgn s]++([]++([]++[])))++[])=_;simp only [dQ,bU]
  rw[yR e];exact⟨λh=>(by cases h),λ_=>⟨⟨⟨λh=>(by cases h),λh=>absurd h b⟩,r⟩,rC _ _⟩⟩
 rw[aA o,aA o,DP];have e:fD (.sign s [])=[.sgn s]:=by rw[JF];rfl
 have:=DO z (.sign s []) .one c m u r;rw[e]at this;exact this
structure SI(z:Scan):Prop where
 ring:fG z.mode=false->z.ring=none
 bot:fG z.mode=true->Bot z.stack
 phi:fG z.mode=true->phi (aS z)<=64
 some_:fG z.mode=true->z.stack≠[]
def DQ(z:Scan)(w:Bytes)(c:UInt8):Option Scan:=match PLACES.findIdx? (λ(x:Bytes)=>x==w),z.stack with
 |some k,⟨.nest s had _,a,b,d⟩::r=>Scan.begins {z with stack:=⟨.nest s had k,a,b,d⟩::r} c
 |_,_=>none
def Rc(h:¬((PLACES.findIdx? (λ(x:Bytes)=>x==w)).isSome=true/\qI (z.stack.map aU)=true)):DQ z w c=none:=by
 unfold DQ;cases e:PLACES.findIdx? (λ(x:Bytes)=>x==w)with
 |none=>rfl
 |some k=>
  cases f:z.stack with
  |nil=>rfl
  |cons u r=>
   obtain⟨i,a,b,d⟩:=u;cases i with|nest s had j=>exact absurd ⟨by rw[e];rfl,by rw[f,fE];rfl⟩ h|block=>rfl|paren=>rfl
def UX(z:Scan)(h:SI z)(c:UInt8):(z.step c).map aS=(FS.step (aS z) c).filter cX/\∀z',z.step c=some z'->oA z':=by
 obtain⟨lines,line,ring,pieces,stack,mode⟩:=z;have hr:=h.ring;have hb:=h.bot;have hp:=h.phi;have hs:=h.some_;cases mode with
 |fresh=>
  have hr:ring=none:=hr rfl;subst hr;rw[rX (show fG Mode.fresh=false from rfl)];show Option.map aS (if lines.length=LINES/\line.isEmpty=true then none else if c=60 then _ else if c=46 then _ else Scan.begins _ c)=Option.filter cX (if lines.length=512/\line.length=0 then none else if c=60 then _ else if c=46 then _ else FS.begins _ c)/\∀z',(if lines.length=LINES/\line.isEmpty=true then none else if c=60 then _ else if c=46 then _ else Scan.begins _ c)=some z'->oA z';have el:(line.isEmpty=true)↔line.length=0:=by cases line<;>simp
  by_cases h0:lines.length=512/\line.length=0;·rw[aB h0,aB (show lines.length=LINES/\line.isEmpty=true from⟨h0.1,el.mpr h0.2⟩)];exact⟨Z,λz' e=>by cases e⟩
  rw[aA h0,aA (show¬(lines.length=LINES/\line.isEmpty=true)from λx=>h0 ⟨x.1,el.mp x.2⟩)];by_cases h1:c=60
  ·rw[aB h1,aB h1];refine⟨?_,λz' e=>(by cases e;exact⟨λh=>(by cases h),λ_=>⟨⟨⟨λ_=>rfl,λ_=>rfl⟩,trivial⟩,rC _ _⟩⟩)⟩;rw[fX]
   ·show some (aS _)=_;rw[lD (show fG Mode.want=true from rfl)];unfold gI pE;dsimp only [pD,aM,before,iO,uA,lB,nZ,opened];congr 2;show gY lines++(jH line++[])++(([]++([]++([]++([]++[]))))++[])=_;simp only [dQ,bU]
   refine iD ?_;show 0+1+dX [eU .block] .one<=64;rw[pB,JD];decide
  rw[aA h1,aA h1];by_cases h2:c=46;·rw[aB h2,aB h2];refine⟨?_,λz' e=>(by cases e;exact⟨λ_=>rfl,λh=>(by cases h)⟩)⟩;rw[fX (mW Z)];rfl
  rw[aA h2,aA h2];have key:=JM ⟨lines,line,none,0,[opened .block],.fresh⟩ c .fresh (by show 0+1+dX [eU .block] .one<=64;rw[pB,JD];decide) ⟨⟨λ_=>rfl,λ_=>rfl⟩,trivial⟩ (by intro z;cases z);have e:gI ⟨lines,line,none,0,[opened .block],.fresh⟩ [] .fresh={pE ⟨lines,line,none,pieces,stack,.fresh⟩ (aM .fresh)with pieces:=0,stack:=[eU .block]}:=by
   unfold gI pE;dsimp only [before,iO,uA,lB,nZ,opened,aM];congr 1;show gY lines++(jH line++[])++(([]++([]++([]++([]++[]))))++[])=_;simp only [dQ,bU]
  rw[e]at key;exact key
 |want=>
  have key:=JM ⟨lines,line,ring,pieces,stack,.want⟩ c .want (hp Z) (hb Z) (hs Z);exact key
 |name w=>
  show Option.map aS (if nameGoes (w++[c])=true then _ else (match nameOf w with
   |some n=>_
   |none=>none))=Option.filter cX (if nameGoes (w++[c])=true then _ else(match nameOf w with
   |some n=>_
   |none=>none))/\∀z',(if nameGoes (w++[c])=true then _ else(match nameOf w with
   |some n=>_
   |none=>none))=some z'->oA z'
  by_cases h1:nameGoes (w++[c])=true
  ·rw[aB h1,aB h1];refine⟨?_,λz' e=>(by cases e;exact⟨λh=>(by cases h),λ_=>⟨hb Z,hs Z⟩⟩)⟩;rw[fX]
   ·rfl
   exact iD (hp Z)
  rw[aA h1,aA h1];cases nameOf w with|none=>exact⟨Z,λz' e=>by cases e⟩|some n=>exact UW ⟨lines,line,ring,pieces,stack,.name w⟩ ⟨n,false,[],false⟩ 0 c (.name w) (hp Z) (hb Z) (hs Z)
 |mark s k=>exact UW ⟨lines,line,ring,pieces,stack,.mark s k⟩ s k c (.mark s k) (hp Z) (hb Z) (hs Z)
 |gap w=>
  show Option.map aS (if isDigit c=true then(if(w.isEmpty=false\/c≠48)/\numberOf (w++[c])<=GAP then _ else none)else if w.isEmpty=true then none else if c=37 then _ else _) =
   Option.filter cX (if isDigit c=true then(if(w.isEmpty=false\/c≠48)/\numberOf (w++[c])<=GAP then _ else none)else if w.isEmpty=true then none else if c=37 then _ else _)/\
   ∀z',(if isDigit c=true then(if(w.isEmpty=false\/c≠48)/\numberOf (w++[c])<=GAP then _ else none)else if w.isEmpty=true then none else if c=37 then _ else _)=some z'->oA z'
  by_cases h1:isDigit c=true
  ·rw[aB h1,aB h1];by_cases h2:(w.isEmpty=false\/c≠48)/\numberOf (w++[c])<=GAP
   ·rw[aB h2,aB h2];refine⟨?_,λz' e=>(by cases e;exact⟨λh=>(by cases h),λ_=>⟨hb Z,hs Z⟩⟩)⟩;rw[fX]
    ·rfl
    exact iD (hp Z)
   rw[aA h2,aA h2];exact⟨Z,λz' e=>by cases e⟩
  rw[aA h1,aA h1];by_cases h2:w.isEmpty=true;·rw[aB h2,aB h2];exact⟨Z,λz' e=>by cases e⟩
  rw[aA h2,aA h2];by_cases h3:c=37
  ·rw[aB h3,aB h3];refine⟨?_,λz' e=>(by cases e;exact⟨λh=>(by cases h),λ_=>⟨hb Z,hs Z⟩⟩)⟩;rw[fX]
   ·rfl
   exact iD (hp Z)
  rw[aA h3,aA h3];have key:=DO ⟨lines,line,ring,pieces,stack,.gap w⟩ (.gap (numberOf w) []) .one c (.gap w) (hp Z) (hb Z);rw[JG,<- DP]at key;exact key
 |gapMark k q=>
  show Option.map aS (if 49<=c.toNat/\c.toNat<=52/\q.all (λ(i:Nat)=>decide (i<c.toNat-48))=true then _ else if q.isEmpty=true then none else _) =
   Option.filter cX (if 49<=c.toNat/\c.toNat<=52/\q.all (λ(i:Nat)=>decide (i<c.toNat-48))=true then _ else if q.isEmpty=true then none else _)/\
   ∀z',(if 49<=c.toNat/\c.toNat<=52/\q.all (λ(i:Nat)=>decide (i<c.toNat-48))=true then _ else if q.isEmpty=true then none else _)=some z'->oA z'
  by_cases h1:49<=c.toNat/\c.toNat<=52/\q.all (λ(i:Nat)=>decide (i<c.toNat-48))=true
  ·rw[aB h1,aB h1];refine⟨?_,λz' e=>(by cases e;exact⟨λh=>(by cases h),λ_=>⟨hb Z,hs Z⟩⟩)⟩;rw[fX]
   ·rfl
   exact iD (hp Z)
  rw[aA h1,aA h1];by_cases h2:q.isEmpty=true;·rw[aB h2,aB h2];exact⟨Z,λz' e=>by cases e⟩
  rw[aA h2,aA h2];have key:=DO ⟨lines,line,ring,pieces,stack,.gapMark k q⟩ (.gap k q) .one c (.gapMark k q) (hp Z) (hb Z);rw[JG,<- DP]at key;exact key
 |place w=>
  have e1:Scan.step ⟨lines,line,ring,pieces,stack,.place w⟩ c=if PLACES.any (λ(x:Bytes)=>(w++[c]).isPrefixOf x)=true then some ⟨lines,line,ring,pieces,stack,.place (w++[c])⟩else DQ ⟨lines,line,ring,pieces,stack,.place w⟩ w c:=rfl
  have e2:FS.step (aS ⟨lines,line,ring,pieces,stack,.place w⟩) c=if PLACES.any (λ(x:Bytes)=>(w++[c]).isPrefixOf x)=true then some (aS ⟨lines,line,ring,pieces,stack,.place (w++[c])⟩)else if(PLACES.findIdx? (λ(x:Bytes)=>x==w)).isSome=true/\qI (stack.map aU)=true then FS.begins (aS ⟨lines,line,ring,pieces,stack,.place w⟩) c else none:=rfl
  rw[e1,e2];by_cases h1:PLACES.any (λ(x:Bytes)=>(w++[c]).isPrefixOf x)=true
  ·rw[aB h1,aB h1];refine⟨?_,λz' e=>(by cases e;exact⟨λh=>(by cases h),λ_=>⟨hb Z,hs Z⟩⟩)⟩;rw[fX]
   ·rfl
   exact iD (hp Z)
  rw[aA h1,aA h1];by_cases h2:(PLACES.findIdx? (λ(x:Bytes)=>x==w)).isSome=true/\qI (stack.map aU)=true
  ·rw[aB h2];unfold DQ;cases e:PLACES.findIdx? (λ(x:Bytes)=>x==w)with
   |none=>rw[e]at h2;cases h2.1
   |some k=>
    cases stack with
    |nil=>cases h2.2
    |cons u r=>
     obtain⟨wi,a,b,d⟩:=u;cases wi with
     |block=>cases h2.2
     |paren=>cases h2.2
     |nest s had j=>
      have hb':Bot (⟨.nest s had j,a,b,d⟩::r):=hb rfl;have key:=JM ⟨lines,line,ring,pieces,⟨.nest s had k,a,b,d⟩::r,.place w⟩ c (.place w) (hp Z) (hb'.top Z) (by intro z;cases z);exact key
  rw[aA h2,Rc h2];exact⟨Z,λz' e=>by cases e⟩
 |whole p t=>exact DO ⟨lines,line,ring,pieces,stack,.whole p t⟩ p t c (.whole t) (hp Z) (hb Z)
 |dots n=>
  have hr:ring=none:=hr rfl;subst hr;rw[rX (show fG (Mode.dots n)=false from rfl)];show Option.map aS (if c≠46 then none else if n=1 then _ else _)=Option.filter cX (if c≠46 then none else if n=1 then _ else _)/\∀z',(if c≠46 then none else if n=1 then _ else _)=some z'->oA z';by_cases h1:c≠46;·rw[aB h1,aB h1];exact⟨Z,λz' e=>by cases e⟩
  rw[aA h1,aA h1];by_cases h2:n=1;·rw[aB h2,aB h2];refine⟨?_,λz' e=>(by cases e;exact⟨λ_=>rfl,λh=>(by cases h)⟩)⟩;rw[fX (mW Z)];rfl
  rw[aA h2,aA h2];refine⟨?_,λz' e=>(by cases e;exact⟨λ_=>rfl,λh=>(by cases h)⟩)⟩;rw[fX (mW Z)];show some (aS _)=_;rw[rX (show fG Mode.ended=false from rfl)];unfold pE FS.emit;dsimp only [aM];rw[DN,bF,dB,<- dQ];rfl
 |ended=>
  have hr:ring=none:=hr rfl;subst hr;rw[rX (show fG Mode.ended=false from rfl)];show Option.map aS (if c=32 then(if line.length<ELEMENTS then _ else none)else if c=LF then _ else none)=Option.filter cX (if c=32 then(if line.length<64 then _ else none)else if c=10 then _ else none)/\∀z',(if c=32 then(if line.length<ELEMENTS then _ else none)else if c=LF then _ else none)=some z'->oA z';by_cases h1:c=32
  ·rw[aB h1,aB h1];by_cases h2:line.length<64;·rw[aB h2,aB (show line.length<ELEMENTS from h2)];refine⟨?_,λz' e=>(by cases e;exact⟨λ_=>rfl,λh=>(by cases h)⟩)⟩;rw[fX (mW Z)];rfl
   rw[aA h2,aA (show¬line.length<ELEMENTS from h2)];exact⟨Z,λz' e=>by cases e⟩
  rw[aA h1,aA h1];by_cases h2:c=10
  ·rw[aB h2,aB (show c=LF from h2)];refine⟨?_,λz' e=>(by cases e;exact⟨λ_=>rfl,λh=>(by cases h)⟩)⟩;rw[fX (mW Z)];show some (aS (lineEnd _ _))=_;unfold lineEnd;rw[rX (show fG Mode.fresh=false from rfl)];unfold pE;dsimp only [aM];rw[UV,bF,dB];show some (FS.mk ((gY lines++jH line)++[]) _ _ _ _ _ _)=_;rw[bU];rfl
  rw[aA h2,aA (show¬c=LF from h2)];exact⟨Z,λz' e=>by cases e⟩
def qJ:FS->Bytes->Option FS
 |y,[]=>some y
 |y,c::r=>(y.step c).bind λy'=>qJ y' r
def qK:FS->Bytes->Option FS
 |y,[]=>some y
 |y,c::r=>((y.step c).filter cX).bind λy'=>qK y' r
def UY:∀(b:Bytes) (z:Scan) (p:Nat),SI z->(fP (scan z p b)).map aS=qK (aS z) b
 | [],z,p,_=>rfl
 |c::r,z,p,h=>by
  obtain⟨a,i⟩:=UX z h c;unfold scan qK;rw[<- a];cases e:z.step c with
  |none=>rfl
  |some z'=>
   have f:=i z' e;have j:cX (aS z')=true:=by
    rw[e]at a;have a:some (aS z')=(FS.step (aS z) c).filter cX:=a;cases q:FS.step (aS z) c with
    |none=>rw[q]at a;cases a
    |some y=>
     rw[q]at a;by_cases d:cX y=true;·rw[fX d]at a;cases a;exact d
     rw[yQ (al_12.mpr d)]at a;cases a
   refine UY r z' (p+1) ⟨f.1,λhi=>(f.2 hi).1,λhi=> ?_,λhi=>(f.2 hi).2⟩;refine gZ j ?_;rw[lD hi];exact(JL _).trans hi
def UZ:∀(b:Bytes) (y e:FS),qK y b=some e->qJ y b=some e
 | [],y,e,h=>h
 |c::r,y,e,h=>by
  unfold qK at h;unfold qJ;cases q:y.step c with
  |none=>rw[q]at h;cases h
  |some y'=>
   rw[q]at h;by_cases a:cX y'=true;·rw[fX a]at h;exact UZ r y' e h
   rw[yQ (al_12.mpr a)]at h;cases h
def DR{y y':FS}(h:y.behind t c=some y')(f:cX y'=true):y.pieces+dX y.stack t<=64:=by
 unfold FS.behind at h;cases e:y.stack with
 |nil=>rw[e]at h;cases h
 |cons u r=>
  rw[e]at h;dsimp only at h;rw[pB];by_cases l:c=38
  ·rw[aB l]at h;cases h;have:=gZ f rfl;have d:y.pieces+1+eG (gS r) {u with sheets:=true} .one<=64:=this;have:=Qo (gS r) u t;lia
  rw[aA l]at h;by_cases m:c=42
  ·rw[aB m]at h;by_cases k:u.mayStar t=true
   ·rw[aB k]at h;cases h;have:=gZ f rfl;have d:y.pieces+1+eG (gS r) {u with seats:=true,sheets:=false} .one<=64:=this;have:=Qp (gS r) u t k;lia
   rw[aA k]at h;cases h
  rw[aA m]at h;by_cases j:u.mayEnd t=false;·rw[aB j]at h;cases h
  rw[aA j]at h;have a:u.mayEnd t=true:=eq_true_of_ne_false j;by_cases n:c=58
  ·rw[aB n]at h;cases h;have:=gZ f rfl;have d:y.pieces+1+eG (gS r) {u with cells:=true,seats:=false,sheets:=false} .one<=64:=this;have:=Qq (gS r) u t a;lia
  rw[aA n]at h;cases i:u.kind with
  |paren=>
   rw[i]at h;dsimp only at h;by_cases b:c=41/\u.tag≠ .one
   ·rw[aB b]at h;cases h;have:=gZ f rfl;have d:y.pieces+dX r u.tag<=64:=this;rw[Qr]at d;have:=Qs (gS r) u t a i b.2;lia
   rw[aA b]at h;cases h
  |nest=>
   rw[i]at h;dsimp only at h;have p:=JB (gS r) u t a i;by_cases b:c=59
   ·rw[aB b]at h;cases h;have:=gZ f rfl;have d:y.pieces+1+eG (gS r) (eU .nest) .one<=64:=this;rw[UQ]at d;lia
   rw[aA b]at h;by_cases o:c=93
   ·rw[aB o]at h;cases h;have:=gZ f rfl;have d:y.pieces+(gS r).1<=64:=this;lia
   rw[aA o]at h;cases h
  |block=>
   rw[i]at h;dsimp only at h;by_cases b:64<y.pieces;·rw[aB b]at h;cases h
   rw[JC (gS r) u t a i];lia
def VA{y y':FS}(h:y.begins c=some y')(a:cX y'=true):y.pieces+1+dX y.stack .one<=64:=by
 unfold FS.begins at h;split at h;·cases h;exact gZ a rfl
 split at h;·cases h;exact gZ a rfl
 split at h
 ·cases h;have:=gZ a rfl;have b:y.pieces+1+dX (eU .paren::y.stack) .one<=64:=this;have:=Qv y.stack;lia
 cases h
def VB{y y':FS}(h:y.marked s k c=some y')(a:cX y'=true):y.pieces+dX y.stack .one<=64:=by
 unfold FS.marked at h;split at h;·cases h;exact gZ a rfl
 split at h;·cases h;exact gZ a rfl
 split at h;·cases h;exact gZ a rfl
 split at h;·cases h
 split at h;·cases h;exact gZ a rfl
 split at h
 ·cases h;have:=gZ a rfl;have b:y.pieces+1+dX (eU .nest::y.stack) .one<=64:=this;rw[Qw]at b;lia
 have:=DR h a;exact this
def Re(h:y.step c=some y')(b:cX y'=true):cX y=true:=by
 obtain⟨f,i,j,l,a,stack,d⟩:=y;unfold FS.step at h;cases d with
 |fresh=>exact mW rfl
 |dots n=>exact mW rfl
 |ended=>exact mW rfl
 |want=>exact iD (VA h b)
 |name w=>
  dsimp only at h;refine iD ?_;show a+dX stack .one<=64;split at h;·cases h;exact gZ b rfl
  cases e:nameOf w with|none=>rw[e]at h;cases h|some n=>rw[e]at h;exact VB h b
 |mark s k=>exact iD (VB h b)
 |gap w=>
  dsimp only at h;refine iD ?_;show a+dX stack .one<=64;split at h
  ·split at h;·cases h;exact gZ b rfl
   cases h
  split at h;·cases h
  split at h;·cases h;exact gZ b rfl
  have:=DR h b;exact this
 |gapMark k q=>
  dsimp only at h;refine iD ?_;show a+dX stack .one<=64;split at h;·cases h;exact gZ b rfl
  split at h;·cases h
  have:=DR h b;exact this
 |place w=>
  dsimp only at h;refine iD ?_;show a+1+dX stack .one<=64;split at h;·cases h;exact gZ b rfl
  split at h;·exact VA h b
  cases h
 |whole t=>exact iD (DR h b)
def VC:∀(b:Bytes) (y e:FS),qJ y b=some e->lC e.mode=false->cX y=true/\qK y b=some e
 | [],y,e,h,hi=>by cases h;exact⟨mW hi,Z⟩
 |c::r,y,e,h,hi=>by
  unfold qJ at h;unfold qK;cases q:y.step c with
  |none=>rw[q]at h;cases h
  |some y'=>
   rw[q]at h;obtain⟨a,d⟩:=VC r y' e h hi;refine⟨Re q a,?_⟩;rw[fX a];exact d
def uB:FS:=⟨[],0,0,none,0,[],.fresh⟩
def lE(y:FS):Bool:=match y.mode with| .fresh=>y.line==0&&y.lines !=0|_=>false
def uC(b:Bytes):Option (List Item):=(qJ uB b).bind λy=>if lE y=true then some y.items else none
def Rf(z:Scan)(h:SI z):lE (aS z)=z.whole?:=by
 obtain⟨a,b,e,d,stack,c⟩:=z;cases c<;>try rfl
 show(b.length==0&&a.length !=0)=(b.isEmpty&& !a.isEmpty);cases b<;>cases a<;>rfl
def VD:SI ⟨[],[],none,0,[],.fresh⟩:=⟨λ_=>rfl,λh=>(by cases h),λh=>(by cases h),λh=>(by cases h)⟩
def VE:∀(b:Bytes) (z:Scan) (p:Nat) (e:Scan),SI z->scan z p b= .ok e->SI e
 | [],z,p,e,h,q=>by cases q;exact h
 |c::r,z,p,e,h,q=>by
  obtain⟨a,j⟩:=UX z h c;unfold scan at q;cases s:z.step c with
  |none=>rw[s]at q;cases q
  |some z'=>
   rw[s]at q a;have f:=j z' s;have a:some (aS z')=(FS.step (aS z) c).filter cX:=a;have k:cX (aS z')=true:=by
    cases i:FS.step (aS z) c with
    |none=>rw[i]at a;cases a
    |some y=>
     rw[i]at a;by_cases d:cX y=true;·rw[fX d]at a;cases a;exact d
     rw[yQ (al_12.mpr d)]at a;cases a
   refine VE r z' (p+1) e ⟨f.1,λhi=>(f.2 hi).1,λhi=> ?_,λhi=>(f.2 hi).2⟩ q;refine gZ k ?_;rw[lD hi];exact(JL _).trans hi
def VF(b:Bytes):(fP (readText b)).map gY=uC b:=by
 unfold readText uC;have h:=UY b ⟨[],[],none,0,[],.fresh⟩ 0 VD;have f:aS ⟨[],[],none,0,[],.fresh⟩=uB:=rfl;rw[f]at h;cases s:scan ⟨[],[],none,0,[],.fresh⟩ 0 b with
 |error p=>
  rw[s]at h;have h:none=qK uB b:=h;show none=_;cases q:qJ uB b with
  |none=>rfl
  |some e=>
   show none=if lE e=true then some e.items else none
   by_cases w:lE e=true
   ·have hi:lC e.mode=false:=by
     unfold lE at w;cases j:e.mode with|fresh=>rfl|_=>rw[j]at w;cases w
    rw[(VC b uB e q hi).2]at h;cases h
   rw[aA w]
 |ok z=>
  rw[s]at h;have h:some (aS z)=qK uB b:=h;rw[UZ b uB (aS z) h.symm];show(fP (if z.whole? =true then Except.ok z.lines else Except.error b.length)).map gY=if lE (aS z)=true then some (aS z).items else none
  rw[Rf z (VE b _ 0 z VD s)];by_cases w:z.whole? =true
  ·rw[aB w,aB w];obtain⟨lines,a,d,c,stack,mode⟩:=z;unfold Scan.whole? at w;cases mode with
   |fresh=>
    dsimp only at w;rw[cB]at w;have i:a=[]:=al_128.mp w.1;subst i;show some (gY lines)=some (gY lines++[]);rw[bU]
   |_=>cases w
  rw[aA w,aA w];rfl
def ig(g:Stand->Bool):Item->Bool
 | .sgn s=>g s
 |_=>true
def pg(g:Stand->Bool)(y:Piece):Bool:=match y.stand with|some s=>g s|none=>true
mutual
def yS(g:Stand->Bool):∀(x:Part) (p d:Nat),(x.told p d).all (pg g)=(fD x).all (ig g)
 | .sign s l,p,d=>by rw[Part.told,dM,VH g l,JF,dM];rfl
 | .gap k q,p,d=>by rw[Part.told,JG];rfl
 | .group h l,p,d=>by rw[Part.told,VG g h l,DM]
 | .nest k x,p,d=>by rw[Part.told,yS g x,JH]
def VG(g:Stand->Bool)(h:How):∀(l:List Part) (p d:Nat),(partsTold h p d l).all (pg g)=(eV l).all (ig g)
 | [],p,d=>by rw[partsTold];rfl
 |x::r,p,d=>by rw[partsTold,oN,yS g x,VG g h r,tY,oN]
def VH(g:Stand->Bool):∀(l:List Part) (p d:Nat),(nestsTold p d l).all (pg g)=(eV l).all (ig g)
 | [],p,d=>by rw[nestsTold];rfl
 |x::r,p,d=>by rw[nestsTold,oN,yS g x,VH g r,tY,oN]
end
def JO(a:α->Bytes)(f:Nat->Nat->α->Bool)(g:α->Bool)(b:∀n p x,f n p x=g x):∀(l:List α) (n p:Nat),(placed a n p l).all (λy=>f y.1 y.2.1 y.2.2)=l.all g
 | [],_,_=>rfl
 |x::l,n,p=>by rw[placed,dM,dM,JO a f g b l,b]
def VI(f:Nat->Nat->Line->Bool)(g:Line->Bool)(a:∀n p x,f n p x=g x):∀(l:Text) (n p:Nat),(textLinesFrom n p l).all (λy=>f y.1 y.2.1 y.2.2)=l.all g
 | [],_,_=>rfl
 |x::l,n,p=>by rw[textLinesFrom,dM,dM,VI f g a l,a]
def VJ(f:Item->Bool):∀l:List Part,(eV l).all f=l.all λp=>(fD p).all f
 | []=>rfl
 |p::l=>by rw[tY,oN,dM,VJ f l]
def Rg(g:Stand->Bool)(e:Element)(p:Nat):(e.told p).all (λy=>pg g y.2)=(yO e).all (ig g):=by
 cases e with
 |block x=>
  show((x.told p 0).map λy=>((0:Nat),y)).all _=_;rw[List.all_map];exact yS g x p 0
 |ring l=>
  show((placed Part.text 0 (p+1) l).flatMap λx=>(x.2.2.told x.2.1 0).map λy=>(x.1,y)).all _=(eV l).all (ig g);rw[xB,VJ];refine JO Part.text (λn q x=>((x.told q 0).map λy=>(n,y)).all λy=>pg g y.2) (λx=>(fD x).all (ig g)) (λn q x=> ?_) l 0 (p+1);rw[List.all_map];exact yS g x q 0
 |lost=>rfl
def Rh(g:Stand->Bool)(t:Text):t.told.all (λw=>pg g w.piece)=(gY t).all (ig g):=by unfold Text.told gY;rw[xB,xB];refine VI (λn q l=>((placed Element.text 0 q l).flatMap λy=>(y.2.2.told y.2.1).map λz=>(⟨n,y.1,z.1,z.2⟩:Where)).all λw=>pg g w.piece) (λl=>(jH l).all (ig g)) (λn q l=> ?_) t 0 0;unfold jH;rw[xB,xB];refine JO Element.text (λm q e=>((e.told q).map λz=>(⟨n,m,z.1,z.2⟩:Where)).all λw=>pg g w.piece) (λe=>(yO e).all (ig g)) (λm q e=> ?_) l 0 q;rw[List.all_map];exact Rg g e q
def iW(l:Signs)(a:List Item):Bool:=a.all (ig λs=>(findName l s.name).isSome)
def JP(p q:α->Bool):∀l:List α,(l.filter p).all q=l.all λx=> !p x||q x
 | []=>rfl
 |x::l=>by rw[sU,dM];cases h:p x with|true=>rw[aB rfl,dM,JP p q l];rfl|false=>rw[aA bX,JP p q l];rfl
def Ri(l:Signs)(t:Text):t.hasAll l=iW l (gY t):=by
 unfold Text.hasAll Text.signs iW;rw[JP,<- Rh];congr 1;funext w;unfold pg;cases w.piece.stand with|none=>rfl|some s=>rfl
def rY(l:Signs):Item->Option May
 | .brk=>some none
 | .sgn s=>some (some (s.may l))
 | .gap k q=>(gapMay l k q).map some
mutual
def DS:∀(x:Part),∀h∈x.hosts,(∃s q,h= .sign s q)\/∃k q,h= .gap k q
 | .sign s q,h,hm=>by
  rw[Part.hosts]at hm;rcases al_18.mp hm with e|hm
  ·exact .inl ⟨s,q,e⟩
  exact JQ q h hm
 | .gap k u,h,hm=>by rw[Part.hosts]at hm;exact .inr ⟨k,u,al_56.mp hm⟩
 | .group _ q,h,hm=>by rw[Part.hosts]at hm;exact JQ q h hm
 | .nest _ p,h,hm=>by rw[Part.hosts]at hm;exact DS p h hm
def JQ:∀(l:List Part),∀h∈hostsOf l,(∃s q,h= .sign s q)\/∃k q,h= .gap k q
 | [],h,hm=>by rw[hostsOf]at hm;cases hm
 |p::r,h,hm=>by
  rw[hostsOf]at hm;rcases al_51.mp hm with hm|hm
  ·exact DS p h hm
  exact JQ r h hm
end
def VL:∀{l:List α},(∀x∈l,f x=g x)->l.filterMap f=l.filterMap g
 | [],_=>rfl
 |x::l,h=>by rw[lH,lH,h x (cF ..),VL λy a=>h y (cA _ a)]
def VM(l:Signs)(a:List Part)(h:∀x∈a,(∃s q,x= .sign s q)\/∃k q,x= .gap k q):a.filterMap (λx=>(x.may l).map some)=(a.map JE).filterMap (rY l):=by
 rw[List.filterMap_map];refine VL λx b=> ?_;rcases h x b with⟨s,q,rfl⟩|⟨k,q,rfl⟩
 ·rfl
 rfl
def Rj(l:Signs)(e:Element):e.may l=(yO e).filterMap (rY l):=by
 cases e with
 |lost=>rfl
 |block p=>
  show([p].flatMap λp=>p.hosts.filterMap λx=>(x.may l).map some)=_;rw[uV,List.flatMap_nil,bU];exact VM l p.hosts (DS p)
 |ring ps=>
  show(ps.flatMap λp=>p.hosts.filterMap λx=>(x.may l).map some)=(eV ps).filterMap (rY l);induction ps with
  |nil=>rfl
  |cons p ps ih=>
   rw[uV,ih,tY,AM];congr 1;exact VM l p.hosts (DS p)
def JS(f:β->Option γ)(g:α->List β):∀l:List α,(l.flatMap g).filterMap f=l.flatMap λx=>(g x).filterMap f
 | []=>rfl
 |x::l=>by rw[uV,AM,JS f g l,uV]
def Rk(l:Signs)(t:Text):t.may l=(gY t).filterMap (rY l):=by
 unfold Text.may gY;rw[JS];congr 1;funext x;unfold jH;rw[JS];congr 1;funext e;exact Rj l e
def VN:Item->Bool
 | .brk=>false
 |_=>true
def DT:Item->Bool
 | .brk=>false
 | .sgn _=>true
 | .gap _ q=>decide (q=[1,2,3,4])
def Rl(h:uC t=some a):∃T,readText t= .ok T/\gY T=a:=by have e:=VF t;rw[h]at e;cases q:readText t with|error x=>rw[q]at e;cases e|ok T=>rw[q]at e;exact⟨T,Z,cV e⟩
def Rm(h:uC t=none):∃x,readText t= .error x:=by have e:=VF t;rw[h]at e;cases q:readText t with|error x=>exact⟨x,Z⟩|ok T=>rw[q]at e;cases e
def yT(a:Nat)(b t p:Bytes)(f:Signs->Pattern->List Item->List Int):List Int:=
 if 1048576<b.length\/2048<t.length\/4096<p.length then [-2]else if 1<a then [-1]else match dD b.length [] b with
  |none=>[-3]
  |some l=>match uC t with
   |none=>[-6]
   |some its=>match(iV 64 [] p).1 with|none=>[-10]|some P=>if iW l its=false then [-9]else f l P its
def Ro(c:Nat)(b t p:Bytes)(f:Signs->Pattern->List May->GlyphH.Answer)(g:Signs->Pattern->List Item->List Int)(h:∀l P a,GlyphHNeutral.shown (f l P (a.filterMap (rY l)))=g l P a):
  GlyphHNeutral.shown (GlyphH.ofAll b t p c f)=yT c b t p g:=by
 unfold GlyphH.ofAll yT;by_cases e:1048576<b.length\/2048<t.length\/4096<p.length;·rw[aB (show GlyphH.LIST<b.length\/GlyphH.COPY<t.length\/SOUGHT<p.length from e),aB e];rfl
 rw[aA (show¬(GlyphH.LIST<b.length\/GlyphH.COPY<t.length\/SOUGHT<p.length)from e),aA e];by_cases d:1<c;·rw[aB d,aB d];rfl
 rw[aA d,aA d];cases m:dD b.length [] b with
 |none=>
  obtain⟨x,j⟩:=Qh m;rw[j];rfl
 |some l=>
  rw[Qg m];dsimp only;cases n:uC t with
  |none=>
   obtain⟨x,j⟩:=Rm n;rw[j];rfl
  |some a=>
   obtain⟨T,r,k⟩:=Rl n;rw[r,Og];dsimp only;generalize iV 64 [] p=X;obtain⟨o,q⟩:=X;cases o with
   |none=>rfl
   |some P=>
    dsimp only;rw[Ri,k];by_cases i:iW l a=false;·rw[aB i,aB i];rfl
    rw[aA i,aA i,Rk,k];exact h l P a
def jP(l:Signs)(a:List Item):List May:=a.filterMap (rY l)
def pF(z:List (Nat×Nat)):List Int:=z.flatMap λx=>[(x.1:Int),(x.2:Int)]
def JT(how:Nat)(b t p:Bytes):List Int:=yT how b t p λl P its=>((allFinds l P (jP l its) how).length:Int)::pF (allFinds l P (jP l its) how)
def Rp(z:List (Nat×Nat)):(z.flatMap λx=>[x.1,x.2]).map (λ(n:Nat)=>(n:Int))=pF z:=by
 unfold pF;rw[List.map_flatMap];rfl
def Rq(z:Int)(l:List Nat):GlyphHNeutral.shown (GlyphH.told z l)=z::l.map λ(n:Nat)=>(n:Int):=by unfold GlyphHNeutral.shown GlyphH.told;rw[uN,bU]
def Rr(how:Int)(b t p:List Int):PyWqbbca.all_of how b t p=JT how.toNat (GlyphHNeutral.text b) (GlyphHNeutral.text t) (GlyphHNeutral.text p):=by
 show GlyphHNeutral.shown (GlyphH.answer (.all _ _ _ _))=_;refine Ro _ _ _ _ _ _ λl P its=> ?_
 show GlyphHNeutral.shown (GlyphH.told _ _)=_;rw[Rq,Rp];rfl
def DU(q s:List Nat):Bool:=q.any λk=>s.contains k
def dY(P:List May)(a:Bool)(k:Nat):Bool:=match P[k]? with|some none=>true|some (some s)=>a&& !s.isEmpty|none=>false
def dE(P:List May)(a:Bool)(S:Nat->Bool):Nat->Bool
 |0=>S 0
 |k+1=>S (k+1)||(dE P a S k&&dY P a k)
def bE(P:List May)(k:Nat):Bool:=match P[k]? with|some none=>true|_=>false
def cY(P:List May)(q:List Nat)(k:Nat):Bool:=match P[k]? with|some (some s)=>DU q s|_=>false
def uD(P:List May)(q:List Nat)(S:Nat->Bool):Nat->Bool
 |0=>S 0&&bE P 0
 |k+1=>(S (k+1)&&bE P (k+1))||(S k&&cY P q k)
def iX(P:List May)(q:List Nat)(S:Nat->Bool):Nat->Bool:=if q=[]then λ_=>false else dE P false (uD P q S)
def pG(n:Nat)(S:Nat->Bool):Bool:=(List.range (n+1)).all λk=> !S k
def iY(a:Nat)(P:List May):List May->Nat->(Nat->Bool)->Option Nat
 | [],_,_=>none
 |none::m,j,S=>if a=0 then iY a P m j (dE P true S)else none
 |some q::m,j,S=>if a≠0/\q.length≠1 then none else if iX P q S P.length=true then some j else if pG P.length (iX P q S)=true then none else iY a P m (j+1) (iX P q S)
def mX(P:List May):Nat->Bool:=dE P false λk=>k==0
def kK(a:Nat)(P:List May):List May->Nat->List (Nat×Nat)
 | [],_=>[]
 |none::m,i=>kK a P m i
 | some q::m,i=>(match iY a P (some q::m) i (mX P) with
  |some j=>[(i,j)]
  |none=>[])++kK a P m (i+1)
def VO(P:List May)(k:Nat):(masks P)[k]? =(P[k]?).map λx=>x.map bitsOf:=by unfold masks;rw[fL]
def VP(P:List May):(masks P).length=P.length:=aO _
def Rs(s:List Nat):(bitsOf s !=0)= !s.isEmpty:=by
 cases s with
 |nil=>rfl
 |cons k s=>
  have:bitsOf (k::s)≠0:=λz=>by have:=(IV _).mp z;cases this
  rw[al_110.mpr this];rfl
def Rt(P:List May)(a:Bool)(k:Nat):DH (masks P) a k=dY P a k:=by
 unfold DH dY;rw[VO];cases P[k]? with
 |none=>rfl
 |some x=>
  cases x with
  |none=>rfl
  |some s=>
   show(a&&bitsOf s !=0)=(a&& !s.isEmpty);rw[Rs]
def VQ(P:List May)(a:Bool)(z:List Nat)(S:Nat->Bool)(n:Nat)(h:∀k,k<=n->z.contains k=S k):∀k,k<=n->rb (masks P) a z k=dE P a S k
 |0,_=>h 0 (bH _)
 |k+1,hk=>by unfold rb dE;rw[h (k+1) hk,VQ P a z S n h k (by lia),Rt]
def VR:∀{l:List Nat},(∀x∈l,p x=q x)->l.filter p=l.filter q
 | [],_=>rfl
 |x::l,h=>by rw[sU,sU,h x (cF ..),VR λy a=>h y (cA _ a)]
def kL(n:Nat)(S:Nat->Bool):List Nat:=(List.range (n+1)).filter S
def VS{S:Nat->Bool}(h:k<=n):(kL n S).contains k=S k:=UL (Nat.lt_succ_of_le h)
def JU(P:List May)(a:Bool)(z:List Nat)(S:Nat->Bool)(h:∀k,k<=P.length->z.contains k=S k):spreadBy (masks P) a z=kL P.length (dE P a S):=by rw[Qn,VP];exact VR λk b=>VQ P a z S P.length h k (Nat.le_of_lt_succ (al_50.mp b))
def VT(q s:List Nat):((bitsOf q&&& bitsOf s)≠0)↔DU q s=true:=by
 rw[Qj];unfold DU;rw[List.any_eq_true];constructor;·rintro⟨k,a,b⟩;exact⟨k,a,al_76.mpr b⟩
 rintro⟨k,a,b⟩;exact⟨k,a,al_76.mp b⟩
def Ru(P:List May)(q:List Nat)(S:Nat->Bool):eat (masks P) (bitsOf q) (kL P.length S)=kL P.length (iX P q S):=by
 unfold eat iX;by_cases e:q=[];·rw[aB ((IV q).mpr e),aB e];unfold kL;exact(List.filter_eq_nil_iff.mpr λ_ _=>bX).symm
 rw[aA (λz=>e ((IV q).mp z)),aA e];refine JU P false _ _ λk d=> ?_;rw[jW,al_76,al_145];have b:∀j,j∈kL P.length S↔j<=P.length/\S j=true:=λj=>by unfold kL;rw[al_142,al_50];exact⟨λh=>⟨by lia,h.2⟩,λh=>⟨by lia,h.2⟩⟩
 have a:∀ j,((match (masks P)[j]? with
   |some none=>some j
   |some (some s)=>if(bitsOf q&&& s)≠0 then some (j+1)else none
   |none=>none)=some k)↔((j=k/\bE P j=true)\/(j+1=k/\cY P q j=true)):=λj=>by
  rw[VO];unfold bE cY;cases P[j]? with
  |none=>simp
  |some x=>
   cases x with
   |none=>simp
   |some s=>
    show((if(bitsOf q&&& bitsOf s)≠0 then some (j+1)else none)=some k)↔_;by_cases h:(bitsOf q&&& bitsOf s)≠0;·rw[aB h];have:=(VT q s).mp h;simp [this]
    rw[aA h];have:¬DU q s=true:=λz=>h ((VT q s).mpr z);simp [this]
 constructor
 ·rintro⟨j,f,i⟩;obtain⟨l,c⟩:=(b j).mp f;rcases(a j).mp i with⟨rfl,h3⟩|⟨rfl,h3⟩
  ·cases j with
   |zero=>
    show(S 0&&bE P 0)=true;rw[c,h3];rfl
   |succ j=>
    show((S (j+1)&&bE P (j+1))||_)=true;rw[c,h3];rfl
  show((S (j+1)&&bE P (j+1))||(S j&&cY P q j))=true;rw[c,h3,Bool.and_self,Bool.or_true]
 intro h;cases k with
 |zero=>
  have h:(S 0&&bE P 0)=true:=h;rw[cB]at h;exact⟨0,(b 0).mpr ⟨d,h.1⟩,(a 0).mpr (.inl ⟨Z,h.2⟩)⟩
 |succ k=>
  have h:((S (k+1)&&bE P (k+1))||(S k&&cY P q k))=true:=h;rw[mH,cB,cB]at h;rcases h with h|h
  ·exact⟨k+1,(b _).mpr ⟨d,h.1⟩,(a _).mpr (.inl ⟨Z,h.2⟩)⟩
  exact⟨k,(b _).mpr ⟨by lia,h.1⟩,(a _).mpr (.inr ⟨Z,h.2⟩)⟩
def Rv(n:Nat)(S:Nat->Bool):(kL n S).isEmpty=pG n S:=by
 unfold kL pG;rw[jW,al_128,List.filter_eq_nil_iff,al_53];constructor;·intro h k a;rw[sT];exact al_12.mpr (h k a)
 intro h k a;have:=h k a;rw[sT]at this;rw[this];exact bX
def JV(a:Nat)(P:List May):∀(m:List May) (j:Nat) (S:Nat->Bool),(∀q,some q∈m->tW q)->endFrom a (masks P) (masks m) j (kL P.length S)=iY a P m j S
 | [],_,_,_=>rfl
 |none::m,j,S,h=>by
  show(if a=0 then endFrom a (masks P) (masks m) j (spreadBy (masks P) true (kL P.length S))else none)=_;unfold iY;rw[JU P true _ S λk d=>VS d,JV a P m j _ λq b=>h q (cA _ b)]
 |some q::m,j,S,h=>by
  show (if a≠0/\single (bitsOf q)=false then none else
   if(eat (masks P) (bitsOf q) (kL P.length S)).contains (masks P).length=true then some j else if(eat (masks P) (bitsOf q) (kL P.length S)).isEmpty=true then none else endFrom a (masks P) (masks m) (j+1) (eat (masks P) (bitsOf q) (kL P.length S)))=_
  unfold iY;rw[Ru,VP,VS (aK _),Rv,JV a P m (j+1) _ λq b=>h q (cA _ b),Qm (h q (cF ..))];have e:(a≠0/\decide (q.length=1)=false)↔(a≠0/\q.length≠1):=by rw[AI]
  by_cases c:a≠0/\q.length≠1;·rw[aB c,aB (e.mpr c)]
  rw[aA c,aA (λz=>c (e.mp z))]
def Rw(P:List May):spreadBy (masks P) false [0]=kL P.length (mX P):=JU P false [0] (λk=>k==0) λk _=>by
 rw[qZ];show((k==0)||false)=_;rw[jD]
def JW(a:Nat)(P:List May):∀(m:List May) (i:Nat),(∀q,some q∈m->tW q)->findsFrom a (masks P) (masks m) i=kK a P m i
 | [],_,_=>rfl
 |none::m,i,h=>by
  show findsFrom a (masks P) (masks m) i=kK a P m i;exact JW a P m i λq b=>h q (cA _ b)
 |some q::m,i,h=>by
  have c:findsFrom a (masks P) (masks (some q::m)) i=(match endFrom a (masks P) (masks (some q::m)) i (spreadBy (masks P) false [0]) with
   |some j=>[(i,j)]
   |none=>[])++findsFrom a (masks P) (masks m) (i+1):=rfl
  rw[c,Rw,JV a P (some q::m) i (mX P) h,JW a P m (i+1) λq b=>h q (cA _ b)];rfl
def JX(f:Sign->Bool):∀(l:Signs) (i:Nat),((l.zipIdx i).filterMap λx=>if f x.1=true then some x.2 else none)=bL f i l
 | [],_=>rfl
 |x::l,i=>by
  rw[List.zipIdx_cons,lH];unfold bL;dsimp only;by_cases e:f x=true;·rw[aB e,aB e,JX f l (i+1)]
  rw[aA e,aA e,JX f l (i+1)]
def vV(l:Signs)(s:Stand)(x:Sign):Bool:=(!s.quarters.isEmpty && (match seen l s with
   |some z=>leftAlike s.quarters z (mirroredIf s.mirrored x.shape)
   |none=>false))||((s.unsure&&(x.name.big==s.name.big&&x.name.small==s.name.small))||(s.quarters.isEmpty&&(!s.unsure&&x.name==s.name)))
def DV(l:Signs)(s:Stand):s.may l=bL (vV l s) 0 l:=JX (vV l s) l 0
def JY(l:Signs)(k:Nat)(q:List Nat):gapMay l k q=if q=[1,2,3,4]then some (bL (λx=>decide (x.shape.wide<=k)&&decide (x.shape.high<=k)) 0 l)else none:=by unfold gapMay;rw[yL]
def Rx(l:Signs)(b:List Item):∀q,some q∈jP l b->tW q:=by
 intro q c;unfold jP at c;obtain⟨x,_,a⟩:=al_145.mp c;cases x with
 |brk=>cases a
 |sgn s=>
  have e:s.may l=q:=cV (cV a);rw[<- e,DV];exact tX _ _ _
 |gap k g=>
  have a:(gapMay l k g).map some=some (some q):=a;rw[JY]at a;split at a;·cases a;exact tX _ _ _
  cases a
def Ry(l:Signs)(P:Pattern)(b:List Item)(a:Nat):allFinds l P (jP l b) a=kK a (P.map (Atom.signs l)) (jP l b) 0:=JW a _ _ 0 (Rx l b)
def Is(n:Nat)(f:Nat->Bool):Prop:=∀j,n.testBit j=f j
def Is.or(h:Is n f)(a:Is m g):Is (n||| m) λj=>f j||g j:=λj=>by rw[Nat.testBit_or,h j,a j]
def Is.and(h:Is n f)(a:Is m g):Is (n&&& m) λj=>f j&&g j:=λj=>by rw[oQ,h j,a j]
def jI(f:Nat->Bool):Nat->Bool
 |0=>false
 |k+1=>f k
def Is.up(h:Is n f):Is (n*2) (jI f):=λj=>by
 have e:n*2=n <<< 1:=by rw[Nat.shiftLeft_eq]
 rw[e,Nat.testBit_shiftLeft];cases j with
 |zero=>rfl
 |succ k=>
  show(decide (1<=k+1)&&n.testBit (k+1-1))=f k;rw[bP (by lia),Nat.add_sub_cancel,h k,mI]
def Is.congr(h:Is n f)(e:∀j,f j=g j):Is n g:=λj=>by rw[h j,e j]
def Is.zero_iff(h:Is n f):n=0↔∀j,f j=false:=by
 constructor;·intro z j;rw[<- h j,z,oP]
 intro z;exact wZ λj=>by rw[h j,z j,oP]
def Is.zero:Is 0 λ_=>false:=λj=>oP j
def Is.one:Is 1 λk=>k==0:=λj=>by rw[show(1:Nat)=2^0 from rfl,uU];cases j with|zero=>rfl|succ k=>rfl
def Is.pow(k:Nat):Is (2^k) λj=>decide (k=j):=λj=>uU
def Is.lt(h:Is n f)(z:∀j,k<=j->f j=false):n<2^k:=Nat.lt_pow_two_of_testBit n λj a=>by rw[h j,z j a]
def uE(M:List May):Prop:=∀k,bE M k=true->bE M (k+1)=false
def vW(M:List May)(S:Nat->Bool):Nat->Bool:=λk=>S k||jI (λj=>S j&&bE M j) k
def Rz(M:List May)(k:Nat):dY M false k=bE M k:=by unfold dY bE;cases M[k]? with|none=>rfl|some x=>cases x<;>rfl
def JZ(h:uE M)(S:Nat->Bool):∀k,dE M false S k=vW M S k
 |0=>by
  show S 0=(S 0||false);rw[jD]
 |k+1=>by
  show(S (k+1)||(dE M false S k&&dY M false k))=(S (k+1)||(S k&&bE M k));rw[Rz,JZ h S k];congr 1;cases k with
  |zero=>
   show((S 0||false)&&_)=_;rw[jD]
  |succ k=>
   show((S (k+1)||(S k&&bE M k))&&bE M (k+1))=_;cases e:bE M (k+1)with
   |false=>simp
   |true=>
    have:bE M k=false:=by cases a:bE M k with|false=>rfl|true=>rw[h k a]at e;cases e
    rw[this];simp
def uF(M:List May)(n k:Nat):Bool:=match M[k]? with|some none=>true|some (some s)=>s.contains n|none=>false
def iP(M:List May)(q:List Nat)(k:Nat):Bool:=q.any λn=>uF M n k
def Sa(M:List May)(q:List Nat)(h:q≠[])(k:Nat):iP M q k=(bE M k||cY M q k):=by
 unfold iP uF bE cY;cases M[k]? with
 |none=>show(q.any λ_=>false)=false;simp
 |some x=>
  cases x with
  |none=>
   cases q with|nil=>exact absurd rfl h|cons a q=>rfl
  |some s=>rfl
def vX(M:List May)(f S:Nat->Bool):Nat->Bool:=vW M λk=>jI (λj=>S j&&f j) k||(S k&&f k&&bE M k)
def Sb(h:uE M)(q:List Nat)(S:Nat->Bool):∀k,vX M (iP M q) S k=iX M q S k:=by
 intro k;unfold iX;by_cases e:q=[]
 ·rw[aB e,e];have z:∀j,iP M [] j=false:=λ_=>rfl;unfold vX vW;cases k with
  |zero=>simp [jI,z]
  |succ k=>
   cases k with|zero=>simp [jI,z]|succ k=>simp [jI,z]
 rw[aA e,JZ h];have f:∀j,iP M q j=(bE M j||cY M q j):=Sa M q e;have l:∀j,bE M j=true->cY M q j=false:=λj a=>by
  unfold bE at a;unfold cY;split at a<;>simp_all
 have c:∀j,bE M (j+1)=true->bE M j=false:=λj a=>by cases b:bE M j with|false=>rfl|true=>rw[h j b]at a;cases a
 unfold vX vW;cases k with
 |zero=>
  show((false||(S 0&&iP M q 0&&bE M 0))||false)=((S 0&&bE M 0)||false);rw[f];cases bE M 0<;>simp
 |succ k=>
  show(((S k&&iP M q k)||(S (k+1)&&iP M q (k+1)&&bE M (k+1)))||((jI (λj=>S j&&iP M q j) k||(S k&&iP M q k&&bE M k))&&bE M k)) =
   (((S (k+1)&&bE M (k+1))||(S k&&cY M q k))||(uD M q S k&&bE M k))
  rw[f,f];have d:(uD M q S k&&bE M k)=((S k&&bE M k)||(jI (λj=>S j&&cY M q j) k&&bE M k)):=by
   cases k with
   |zero=>show((S 0&&bE M 0)&&bE M 0)=_;cases S 0<;>cases bE M 0<;>rfl
   |succ k=>
    show(((S (k+1)&&bE M (k+1))||(S k&&cY M q k))&&bE M (k+1))=((S (k+1)&&bE M (k+1))||((S k&&cY M q k)&&bE M (k+1)));cases S (k+1)<;>cases bE M (k+1)<;>cases S k<;>cases cY M q k<;>rfl
  have b:(jI (λj=>S j&&iP M q j) k&&bE M k)=(jI (λj=>S j&&cY M q j) k&&bE M k):=by
   cases k with
   |zero=>rfl
   |succ k=>
    show((S k&&iP M q k)&&bE M (k+1))=((S k&&cY M q k)&&bE M (k+1));rw[f];cases i:bE M (k+1)with
    |false=>simp
    |true=>rw[c k i];simp
  rw[d,Bool.and_or_distrib_right,b];cases S k<;>cases S (k+1)<;>cases bE M k<;>cases bE M (k+1)<;>cases cY M q k<;>cases cY M q (k+1)<;>cases(jI (λj=>S j&&cY M q j) k)<;>rfl
def vY(M:List May)(S:Nat->Bool):Nat->Bool:=λk=>S k||jI (λj=>S j&&dY M true j) k
def VU{S:Nat->Bool}(h:∀k,vY M S k=S k):∀k,dE M true S k=S k
 |0=>rfl
 |k+1=>by
  show(S (k+1)||(dE M true S k&&dY M true k))=S (k+1);rw[VU h k];exact h (k+1)
def VV(M:List May)(S:Nat->Bool):∀k,dE M true (vY M S) k=dE M true S k
 |0=>by show(S 0||false)=S 0;rw[jD]
 |k+1=>by
  show((S (k+1)||(S k&&dY M true k))||(dE M true (vY M S) k&&dY M true k))=(S (k+1)||(dE M true S k&&dY M true k));rw[VV M S k];have:S k=true->dE M true S k=true:=λz=>by
   cases k with
   |zero=>exact z
   |succ k=>show(S (k+1)||_)=true;rw[z];rfl
  cases e:S k with|false=>simp|true=>rw[this e];cases dY M true k<;>cases S (k+1)<;>rfl
def lW(M:List May)(S:Nat->Bool):Prop:=∀k,M.length<k->S k=false
def VW(h:M.length<=k):bE M k=false:=by unfold bE;rw[jB h]
def KA(h:M.length<=k):dY M w k=false:=by unfold dY;rw[jB h]
def Sc(h:M.length<=k):cY M q k=false:=by unfold cY;rw[jB h]
def KB{S:Nat->Bool}(h:lW M S):lW M (dE M w S)
 |0,z=>by lia
 |k+1,z=>by
  show(S (k+1)||(dE M w S k&&dY M w k))=false;rw[h _ z,KA (by lia)];simp
def Sd{S:Nat->Bool}:lW M (uD M q S)
 |0,z=>by lia
 |k+1,z=>by
  show((S (k+1)&&bE M (k+1))||(S k&&cY M q k))=false;rw[VW (by lia),Sc (by lia)];simp
def KC{S:Nat->Bool}:lW M (iX M q S):=by
 unfold iX;split;·exact λ_ _=>rfl
 exact KB Sd
def Se(M:List May):lW M (mX M):=KB λk z=>by cases k with|zero=>lia|succ k=>rfl
def VX{M:List May}{S:Nat->Bool}(h:lW M S):pG M.length S=true↔∀k,S k=false:=by
 unfold pG;rw[al_53];constructor
 ·intro a k;by_cases e:k<=M.length
  ·have:=a k (al_50.mpr (by lia))
   rwa [sT]at this
  exact h k (by lia)
 intro a k _;rw[a k];rfl
structure oB(a:Nat)(S S':Nat->Bool):Prop where
 lo:∀k,k<=a->S' k=S k
 mid:S (a+1)=true->S a=true
 hi:∀k,S' (a+1+k)=S (a+2+k)
section
variable{A B:List May}
def VY(h:k<A.length):(A++C)[k]? =A[k]?:=jZ h
def yU{C:List May}(k:Nat):(A++C)[A.length+k]? =C[k]?:=by rw[iT (by lia),Nat.add_sub_cancel_left]
abbrev cK(A B:List May):List May:=A++none::none::B
abbrev one(A B:List May):List May:=A++none::B
def KD(h:k<A.length):(cK A B)[k]? =(one A B)[k]?:=by rw[VY h,VY h]
def DW:(cK A B)[A.length]? =some none:=yU (A:=A) (C:=none::none::B) 0
def VZ:(cK A B)[A.length+1]? =some none:=yU (A:=A) (C:=none::none::B) 1
def KF:(one A B)[A.length]? =some none:=yU (A:=A) (C:=none::B) 0
def DX(k:Nat):(cK A B)[A.length+2+k]? =(one A B)[A.length+1+k]?:=by have a:=yU (A:=A) (C:=none::none::B) (k+2);have b:=yU (A:=A) (C:=none::B) (k+1);rw[show A.length+2+k=A.length+(k+2) by lia,show A.length+1+k=A.length+(k+1) by lia];exact a.trans (Eq.trans Z b.symm)
def WA{S:Nat->Bool}(h:S k=true):dE M w S k=true:=by
 cases k with
 |zero=>exact h
 |succ k=>show(S (k+1)||_)=true;rw[h];rfl
def KH(w:Bool){S a:Nat->Bool}(r:oB A.length S a):oB A.length (dE (cK A B) w S) (dE (one A B) w a):=by
 have lo:∀k,k<=A.length->dE (one A B) w a k=dE (cK A B) w S k:=by
  intro k;induction k with
  |zero=>intro h;exact r.lo 0 h
  |succ k ih=>
   intro h;show(a (k+1)||(dE (one A B) w a k&&dY (one A B) w k))=(S (k+1)||(dE (cK A B) w S k&&dY (cK A B) w k));rw[r.lo _ h,ih (by lia)];congr 2;unfold dY;rw[KD (by lia)]
 have mid:dE (cK A B) w S (A.length+1)=true->dE (cK A B) w S A.length=true:=by
  intro h;have h:(S (A.length+1)||(dE (cK A B) w S A.length&&dY (cK A B) w A.length))=true:=h;rw[mH,cB]at h;rcases h with h|h
  ·exact WA (r.mid h)
  exact h.1
 have b:∀C:List May,C[A.length]? =some none->dY C w A.length=true:=λC h=>by unfold dY;rw[h]
 have c:dY (cK A B) w (A.length+1)=true:=by unfold dY;rw[VZ]
 refine⟨lo,mid,λk=> ?_⟩;induction k with
 |zero=>
  show(a (A.length+1)||(dE (one A B) w a A.length&&dY (one A B) w A.length))=(S (A.length+2)||((S (A.length+1)||(dE (cK A B) w S A.length&&dY (cK A B) w A.length))&&dY (cK A B) w (A.length+1)));rw[b _ KF,b _ DW,c,lo _ (aK _),show a (A.length+1)=S (A.length+2)from r.hi 0];cases e:S (A.length+1)with
  |false=>simp
  |true=>rw[WA (r.mid e)];simp
 |succ k ih=>
  show(a (A.length+1+(k+1))||(dE (one A B) w a (A.length+1+k)&&dY (one A B) w (A.length+1+k)))=(S (A.length+2+(k+1))||(dE (cK A B) w S (A.length+2+k)&&dY (cK A B) w (A.length+2+k)));rw[ih,r.hi];congr 2;unfold dY;rw[DX]
def Sf(q:List Nat){S b:Nat->Bool}(r:oB A.length S b):oB A.length (uD (cK A B) q S) (uD (one A B) q b):=by
 have c:∀k,k<=A.length->bE (one A B) k=bE (cK A B) k:=λk h=>by
  unfold bE;by_cases e:k=A.length;·rw[e,KF,DW]
  rw[KD (by lia)]
 have f:∀k,k<A.length->cY (one A B) q k=cY (cK A B) q k:=λk h=>by unfold cY;rw[KD h]
 have l:bE (cK A B) A.length=true:=by unfold bE;rw[DW]
 have m:cY (cK A B) q A.length=false:=by unfold cY;rw[DW]
 have d:cY (one A B) q A.length=false:=by unfold cY;rw[KF]
 have n:cY (cK A B) q (A.length+1)=false:=by unfold cY;rw[VZ]
 refine⟨λk h=> ?_,λh=> ?_,λk=> ?_⟩
 ·cases k with
  |zero=>
   show(b 0&&bE (one A B) 0)=(S 0&&bE (cK A B) 0);rw[r.lo 0 h,c 0 h]
  |succ k=>
   show((b (k+1)&&bE (one A B) (k+1))||(b k&&cY (one A B) q k))=((S (k+1)&&bE (cK A B) (k+1))||(S k&&cY (cK A B) q k));rw[r.lo _ h,c _ h,r.lo k (by lia),f k (by lia)]
 ·have h:((S (A.length+1)&&bE (cK A B) (A.length+1))||(S A.length&&cY (cK A B) q A.length))=true:=h;rw[m,nJ,jD,cB]at h;have:=r.mid h.1;have e:∀a,a=A.length->S a=true->uD (cK A B) q S a=true:=by
   intro a i j;cases a with
   |zero=>show(S 0&&_)=true;rw[j,i,l];rfl
   |succ a=>show((S (a+1)&&bE (cK A B) (a+1))||_)=true;rw[j,i,l];rfl
  exact e _ rfl this
 cases k with
 |zero=>
  show((b (A.length+1)&&bE (one A B) (A.length+1))||(b A.length&&cY (one A B) q A.length))=((S (A.length+2)&&bE (cK A B) (A.length+2))||(S (A.length+1)&&cY (cK A B) q (A.length+1)));rw[d,n,show b (A.length+1)=S (A.length+2)from r.hi 0];have:bE (one A B) (A.length+1)=bE (cK A B) (A.length+2):=by unfold bE;rw[show A.length+2=A.length+2+0 from rfl,DX]
  rw[this];simp
 |succ k=>
  show((b (A.length+1+(k+1))&&bE (one A B) (A.length+1+(k+1)))||(b (A.length+1+k)&&cY (one A B) q (A.length+1+k)))=((S (A.length+2+(k+1))&&bE (cK A B) (A.length+2+(k+1)))||(S (A.length+2+k)&&cY (cK A B) q (A.length+2+k)));rw[r.hi,r.hi];unfold bE cY;rw[DX,DX]
def Sh:oB a (λ_=>false) (λ_=>false):=⟨λ_ _=>rfl,λh=>h,λ_=>rfl⟩
def Si(q:List Nat){S a:Nat->Bool}(r:oB A.length S a):oB A.length (iX (cK A B) q S) (iX (one A B) q a):=by
 unfold iX;by_cases e:q=[];·rw[aB e,aB e];exact Sh
 rw[aA e,aA e];exact KH false (Sf q r)
def Sj:oB A.length (mX (cK A B)) (mX (one A B)):=by
 refine KH false ⟨λ_ _=>rfl,λh=> ?_,λk=> ?_⟩;·exact absurd (al_41.mp h) (by lia)
 show((A.length+1+k)==0)=((A.length+2+k)==0);rw[al_35.mpr (by lia),al_35.mpr (by lia)]
def WB:(cK A B).length=A.length+2+B.length:=by simp;lia
def WC:(one A B).length=A.length+1+B.length:=by simp;lia
def Sk{S a:Nat->Bool}(r:oB A.length S a):a (one A B).length=S (cK A B).length:=by rw[WB,WC];exact r.hi _
def Sl{S b:Nat->Bool}(r:oB A.length S b):pG (cK A B).length S=pG (one A B).length b:=by
 unfold pG;rw[jW,al_53,al_53,WB,WC];constructor
 ·intro h k a;have a:=al_50.mp a;by_cases e:k<=A.length;·rw[r.lo k e];exact h k (al_50.mpr (by lia))
  obtain⟨j,rfl⟩:∃j,k=A.length+1+j:=⟨k-(A.length+1),by lia⟩;rw[r.hi];exact h _ (al_50.mpr (by lia))
 intro h k a;have a:=al_50.mp a;by_cases e:k<=A.length;·rw[<- r.lo k e];exact h k (al_50.mpr (by lia))
 by_cases c:k=A.length+1
 ·rw[c];have:=h A.length (al_50.mpr (by lia));rw[r.lo _ (aK _),sT]at this;cases d:S (A.length+1)with
  |false=>rfl
  |true=>rw[r.mid d]at this;cases this
 obtain⟨j,rfl⟩:∃j,k=A.length+2+j:=⟨k-(A.length+2),by lia⟩;rw[<- r.hi];exact h _ (al_50.mpr (by lia))
def KI(a:Nat):∀(m:List May) (j:Nat) (S b:Nat->Bool),oB A.length S b->iY a (cK A B) m j S=iY a (one A B) m j b
 | [],_,_,_,_=>rfl
 |none::m,j,S,b,r=>by unfold iY;rw[KI a m j _ _ (KH true r)]
 |some q::m,j,S,b,r=>by unfold iY;have c:=Si (B:=B) q r;rw[Sk c,Sl c,KI a m (j+1) _ _ c]
def KJ(a:Nat):∀(m:List May) (i:Nat),kK a (cK A B) m i=kK a (one A B) m i
 | [],_=>rfl
 |none::m,i=>KJ a m i
 |some q::m,i=>by unfold kK;rw[KJ a m (i+1),KI a (some q::m) i _ _ Sj]
end
def mY:Atom->Bool
 | .run=>true
 |_=>false
def mZ(acc:List Atom):Bool:=match acc.getLast? with|some a=>mY a|none=>false
def gT:List Atom->List Atom->List Atom
 |acc,[]=>acc
 |acc,a::r=>if acc=[]\/mY a=false\/mZ acc=false then gT (acc++[a]) r else gT acc r
def Sn(h:mZ acc=true):∃A,acc=A++[.run]:=by
 unfold mZ at h;rcases List.eq_nil_or_concat acc with rfl|⟨A,a,rfl⟩
 ·cases h
 rw[FU,List.getLast?_append]at h;simp at h;cases a with|run=>exact⟨A,FU ..⟩|one _ _=>cases h
def So(h:¬mY a=false):a= .run:=by cases a with|run=>rfl|one _ _=>exact absurd rfl h
def KK(l:Signs)(F:List May->α)(b:∀A B,F (cK A B)=F (one A B)):∀(r acc:List Atom),F ((gT acc r).map (Atom.signs l))=F ((acc++r).map (Atom.signs l))
 | [],acc=>by rw[bU];rfl
 |a::r,acc=>by
  unfold gT;split;·rw[KK l F b r (acc++[a]),dQ];rfl
  rename_i h;have c:¬mY a=false:=λz=>h (.inr (.inl z));have d:mZ acc=true:=by cases e:mZ acc with|true=>rfl|false=>exact absurd (.inr (.inr e)) h
  obtain⟨A,rfl⟩:=Sn d;rw[So c,KK l F b r (A++[Atom.run])];simp only [dN,dQ,fE,uN,qU,lJ];exact(b (A.map (Atom.signs l)) (r.map (Atom.signs l))).symm
def yV(P:List Atom):Prop:=∀k,P[k]? =some .run->P[k+1]?≠some .run
def Sq(h:yV P)(j:P=[]\/mY a=false\/mZ P=false):yV (P++[a]):=by
 intro k d c;obtain⟨l,_⟩:=al_19.mp c;rw[bF,dB]at l;have b:k<P.length:=by lia
 rw[jZ b]at d;by_cases e:k+1<P.length;·rw[jZ e]at c;exact h k d c
 have i:k+1=P.length:=by lia
 rw[iT (by lia),i,nN]at c;have f:a= .run:=cV c;rcases j with z|z|z
 ·rw[z]at b;exact absurd b (uW _)
 ·rw[f]at z;cases z
 unfold mZ at z;rw[FV,show P.length-1=k by lia,d]at z;cases z
def KL:∀(r acc:List Atom),yV acc->yV (gT acc r)
 | [],acc,h=>h
 |a::r,acc,h=>by
  unfold gT;split;·rename_i z;exact KL r _ (Sq h z)
  exact KL r _ h
def WD(l:Signs)(P:List Atom)(k:Nat):bE (P.map (Atom.signs l)) k=true↔P[k]? =some .run:=by unfold bE;rw[fL];cases P[k]? with|none=>simp|some a=>cases a<;>simp [Atom.signs]
def Sr(l:Signs)(h:yV P):uE (P.map (Atom.signs l)):=λk a=>by
 cases e:bE (P.map (Atom.signs l)) (k+1)with
 |false=>rfl
 |true=>exact absurd ((WD l P (k+1)).mp e) (h k ((WD l P k).mp a))
def DY:∀(r acc:List Atom),(gT acc r).length<=acc.length+r.length
 | [],acc=>aK _
 |a::r,acc=>by
  unfold gT;split;·have:=DY r (acc++[a]);rw[bF,dB]at this;rw[cG];lia
  have:=DY r acc;rw[cG];lia
def Ss(l:Signs)(P:List Atom)(a:Nat)(m:List May)(i:Nat):kK a (P.map (Atom.signs l)) m i=kK a ((gT [] P).map (Atom.signs l)) m i:=by rw[KK l (λM=>kK a M m i) (λA B=>KJ a m i) P [],lJ]
def WE(h:nameOf w=some n):n.text=w:=by
 cases w with
 |nil=>cases h
 |cons c r=>
  rw[CM]at h;dsimp only at h;generalize (if mQ r=0 then r else List.drop 1 r)=v at h;by_cases z:(List.takeWhile isDigit v≠[]/\(List.takeWhile isDigit v).length<=3/\(List.takeWhile isDigit v).head?≠some 48/\(List.drop (List.takeWhile isDigit v).length v).length<=1/\(⟨c,mQ r,numberOf (List.takeWhile isDigit v),(List.drop (List.takeWhile isDigit v).length v).headD 0⟩:Name).right=true/\(⟨c,mQ r,numberOf (List.takeWhile isDigit v),(List.drop (List.takeWhile isDigit v).length v).headD 0⟩:Name).text=c::r);·rw[aB z]at h;rw[<- cV h];exact z.2.2.2.2.2
  rw[aA z]at h;cases h
section
abbrev yW(Rn:Bytes->Bytes->α):Prop:=∀w c r,nameGoes (w++[c])=true->Rn w (c::r)=Rn (w++[c]) r
def Su(M:yW Rn)(a:isBig c=true)(r:Bytes):Rn [c] r=Rn (c::(aP (tp isSmall r).1++[])) (tp isSmall r).2:=by
 rcases jN isSmall r with⟨h1,h2,h3⟩|⟨x,hx,hr,h1⟩;·rw[h1,h2];rfl
 have e:aP x=[x]:=aA (kE hx);rw[h1,e];have g:nameGoes ([c]++[x])=true:=by have:=mR (c:=c) (s:=x) (ds:=[]) (t:=[]) a (.inr hx) rfl mS (λ_ _=>mS);rw[e]at this;exact this
 have q:=M [c] x (tp isSmall r).2 g;rw[<- hr]at q;exact q
def WG(M:yW Rn)(b:isBig c=true)(d:iB s):∀(a ds:Bytes),(ds++a).all isDigit=true->(ds++a).length<=3->(ds++a).head?≠some 48->
  Rn (c::(aP s++ds)) (a++q)=Rn (c::(aP s++(ds++a))) q
 | [],ds,_,_,_=>by rw[bU];rfl
 |e::a,ds,ha,h3,h0=>by
  have f:ds++e::a=(ds++[e])++a:=by simp
  rw[f]at ha h3 h0 ⊢;have h:(ds++[e]).all isDigit=true:=by rw[oN,cB]at ha;exact ha.1
  have i:(ds++[e]).length<=3:=by rw[bF]at h3;lia
  have j:(ds++[e]).head?≠some 48:=by cases ds with|nil=>exact h0|cons=>exact h0
  have g:nameGoes (c::(aP s++ds)++[e])=true:=by
   have:=mR (c:=c) (s:=s) (ds:=ds++[e]) (t:=[]) b d h mS (λ_ _=>mS);rw[bU]at this;rw[show c::(aP s++ds)++[e]=c::(aP s++(ds++[e])) by simp,this,bP i];have k:((ds++[e]).head? !=some (48:UInt8))=true:=by rw[al_110];exact j
   rw[k];rfl
  rw[show e::a++q=e::(a++q)from rfl,M _ e (a++q) g,show c::(aP s++ds)++[e]=c::(aP s++(ds++[e])) by simp];exact WG M b d a (ds++[e]) ha h3 h0
def Sv(M:yW Rn)(f:isBig c=true)(i:iB s)(h:ds.all isDigit=true)(a:ds≠[])(d:ds.length<=3)(b:ds.head?≠some 48):
  Rn (c::(aP s++ds)) r=Rn (c::(aP s++(ds++aP (tp isSmall r).1))) (tp isSmall r).2:=by
 rcases jN isSmall r with⟨e1,e2,e3⟩|⟨x,hx,hr,e1⟩;·rw[e1,e2,show aP 0=[]from rfl,bU]
 have e:aP x=[x]:=aA (kE hx);rw[e1,e];have g:nameGoes (c::(aP s++ds)++[x])=true:=by
  have:=mR (c:=c) (s:=s) (ds:=ds) (t:=[x]) f i h (λ_ _ q=>by cases q;exact yD hx) (λ_ z=>absurd z a);rw[show c::(aP s++ds)++[x]=c::(aP s++(ds++[x])) by simp,this,bP d];have j:(ds.head? !=some (48:UInt8))=true:=by rw[al_110];exact b
  have k:ds.isEmpty=false:=by cases ds with|nil=>exact absurd rfl a|cons=>rfl
  rw[j,k,dM,hx];rfl
 have q:=M _ x (tp isSmall r).2 g;rw[<- hr,show c::(aP s++ds)++[x]=c::(aP s++(ds++[x])) by simp]at q;exact q
def Sw(M:yW Rn)(i:isBig c=true)(j:iB s)(A:s=0->cW isSmall r):
  ∃u,Rn (c::(aP s++[])) r=Rn u (cN c s r).2/\nameOf u=(cN c s r).1/\RW u (cN c s r).2:=by
 obtain⟨f,q,o,a,b,d,w,H,I⟩:=rM r;have B:NM [] (Reads.word false):=IE _ _;obtain⟨m,_,l,v,_,z⟩:=CT (T:=r.length) B i j A (aK _);by_cases h:f=[]
 ·subst h;have e:cN c s r=(none,q):=by
   unfold cN;rw[o];rfl
  have p:=z (by rw[e]);refine⟨m,?_,l,v⟩;rw[p.1,p.2]
 obtain⟨E,F,G⟩:=tK a h b d;have e:cN c s r=(some ⟨c,s,numberOf f,(tp isSmall q).1⟩,(tp isSmall q).2):=by unfold cN;rw[o];dsimp only;rw[aA (by lia)]
 have x:m=c::(aP s++(f++aP (tp isSmall q).1)):=by have y:=IC (k:=(tp isSmall q).1) i j (rN q).1 a h b d;rw[e]at l;have C:=WE l;have D:=WE y;rw[<- C,<- D]
 refine⟨m,?_,l,v⟩;rw[e,x];have n:=WG M i j (q:=q) f [] a b d;rw[<- w]at n;exact n.trans (Sv M i j a h b d)
end
def dU:List Nat->Bytes->List Nat×Bytes
 | [],r=>([],r)
 |k::ks,r=>if(tk (UInt8.ofNat (48+k)) r).1=true then(k::(dU ks (tk (UInt8.ofNat (48+k)) r).2).1,(dU ks (tk (UInt8.ofNat (48+k)) r).2).2)else dU ks r
def iZ(r:Bytes):Option (List Nat×Bytes):=if(tk 37 r).1=true then(if(dU [1,2,3,4] (tk 37 r).2).1=[]then none else some (dU [1,2,3,4] (tk 37 r).2))else some ([],r)
def rZ(r:Bytes):Option (Item×Bytes):=if(number r).1=0\/32<(number r).1 then none else(iZ (number r).2).map λx=>(.gap (number r).1 x.1,x.2)
def lX(r:Bytes):Option (Stand×Bytes):=match cJ r with|(none,_)=>none|(some n,q)=>(iZ (tk 126 q).2).map λx=>(⟨n,(tk 126 q).1,x.1,(tk 63 x.2).1⟩,(tk 63 x.2).2)
def gU(r:Bytes):Option (Item×Bytes):=if(tk 95 r).1=true then rZ (tk 95 r).2 else(lX r).map λx=>(.sgn x.1,x.2)
structure PG where
 au:AU
 unit:Tag
 deriving DecidableEq
def iQ(k:Wk):PG:=⟨eU k,.one⟩
def uG(r:Bytes):Bytes:=if(tk 119 r).1=true then(tk 119 r).2 else(tk 101 r).2
def jQ(r:Bytes):Option Bytes:=if(tk 110 r).1=true then some (uG (tk 110 r).2)else if(tk 115 r).1=true then some (uG (tk 115 r).2)
 else if(tk 119 r).1=true then some (tk 119 r).2 else if(tk 99 r).1=true then some (tk 99 r).2 else if(tk 101 r).1=true then some (tk 101 r).2 else none
def jR(g:PG):List PG->Bytes->Option (List PG×Bytes)
 |gs,r=>
  if(tk 38 r).1=true then some (⟨{g.au with sheets:=true},g.unit⟩::gs,(tk 38 r).2)
  else if(tk 42 r).1=true then(if g.au.mayStar g.unit=true then some (⟨{g.au with seats:=true,sheets:=false},g.unit⟩::gs,(tk 42 r).2)else none)
  else if(tk 58 r).1=true then(if g.au.mayEnd g.unit=true then some (⟨{g.au with cells:=true,seats:=false,sheets:=false},g.unit⟩::gs,(tk 58 r).2)else none)
  else if g.au.kind= .nest/\(tk 59 r).1=true then(if g.au.mayEnd g.unit=true then(jQ (tk 59 r).2).map λa=>(iQ .nest::gs,a)else none)
  else if g.au.mayEnd g.unit=false then none
  else match g.au.kind,gs with| .paren,[]=>none| .paren,h::hs=>if g.au.tag≠ .one/\(tk 41 r).1=true then jR ⟨h.au,g.au.tag⟩ hs (tk 41 r).2 else none| .nest,[]=>if(tk 93 r).1=true then some ([],(tk 93 r).2)else none| .nest,h::hs=>if(tk 93 r).1=true then jR h hs (tk 93 r).2 else none| .block,[]=>some ([],r)| .block,h::hs=>jR h hs r
def sA:Item->Bool
 | .sgn _=>true
 |_=>false
def jJ(b:Item)(g:PG)(a:List PG)(r:Bytes):Option (List PG×Bytes):=
 if sA b=true/\(tk 91 r).1=true then(jQ (tk 91 r).2).map λc=>(iQ .nest::⟨g.au,.one⟩::a,c)else jR ⟨g.au,.one⟩ a r
def dW:List PG->Bytes->List PG×Bytes
 |gs,[]=>(gs,[])
 |gs,c::r=>if c=40 then dW (iQ .paren::gs) r else(gs,c::r)
def iE:Nat->List Item->List PG->Bytes->Option (List Item×Bytes)
 |n,its,gs,r=>match gU (dW gs r).2,(dW gs r).1 with
  |some (it,r2),g::gs1=>match n with
   |0=>none
   |n+1=>match jJ it g gs1 r2 with|none=>none|some ([],r3)=>some (its++[it],r3)|some (a::gs2,r3)=>iE n (its++[it]) (a::gs2) r3
  |_,_=>none
def lY(r:Bytes):Option (List Item×Bytes):=iE 64 [] [iQ .block] r
def jS(f:Bytes->Option (List Item×Bytes))(e:UInt8):Nat->List Item->Bytes->Option (List Item×Bytes)
 |0,_,_=>none
 |n+1,its,r=>match f r with|none=>none|some (x,r1)=>if(tk e r1).1=true then some (its++x,(tk e r1).2)else if(tk 32 r1).1=true then jS f e n (its++x) (tk 32 r1).2 else none
def qL(r:Bytes):Option (List Item×Bytes):=if(tk 46 r).1=true then(if(tk 46 (tk 46 r).2).1=true then(if(tk 46 (tk 46 (tk 46 r).2).2).1=true then some ([.brk],(tk 46 (tk 46 (tk 46 r).2).2).2)else none)else none)else none
def oC(r:Bytes):Option (List Item×Bytes):=if(tk 60 r).1=true then jS lY 62 16 [] (tk 60 r).2 else if(tk 46 r).1=true then qL r else lY r
def oE(r:Bytes):Option (List Item×Bytes):=jS oC 10 64 [] r
def kM:Nat->List Item->Bytes->Option (List Item)
 |n,its,r=>match oE r with
  |none=>none
  |some (x,r1)=>match n with|0=>none|n+1=>if r1=[]then some (its++x)else kM n (its++x) r1
def lZ(b:Bytes):Option (List Item):=kM 512 [] b
def GG(y:FS)(r:Bytes):Option (List Item):=(qJ y r).bind λy=>if lE y=true then some y.items else none
def iR(y:FS)(c:UInt8)(r:Bytes):GG y (c::r)=match y.step c with
  |none=>none
  |some y'=>GG y' r:=by
 unfold GG;show((y.step c).bind λy'=>qJ y' r).bind _=_;cases y.step c<;>rfl
def fH(r:Bytes)(h:y.step c=some y'):GG y (c::r)=GG y' r:=by rw[iR,h]
def jA(r:Bytes)(h:y.step c=none):GG y (c::r)=none:=by rw[iR,h]
def fY(h:lC y.mode=true):GG y []=none:=by
 show(if lE y=true then some y.items else none)=none;have:lE y=false:=by unfold lE;cases e:y.mode<;>first|rfl|(rw[e]at h;cases h)
 rw[this];rfl
def WH{y y':FS}(h:y.begins c=some y')(p:64<y.pieces):lC y'.mode=true/\64<y'.pieces:=by
 unfold FS.begins at h;split at h;·cases h;exact⟨Z,qX p⟩
 split at h;·cases h;exact⟨Z,qX p⟩
 split at h;·cases h;exact⟨Z,p⟩
 cases h
def DZ{y y':FS}(h:y.behind t c=some y')(p:64<y.pieces):lC y'.mode=true/\64<y'.pieces:=by
 unfold FS.behind at h;split at h;·cases h
 split at h;·cases h;exact⟨Z,p⟩
 split at h
 ·split at h;·cases h;exact⟨Z,p⟩
  cases h
 split at h;·cases h
 split at h;·cases h;exact⟨Z,p⟩
 split at h
 ·split at h;·cases h;exact⟨Z,p⟩
  cases h
 ·split at h;·cases h;exact⟨Z,p⟩
  split at h;·cases h;exact⟨Z,p⟩
  cases h
 cases h
def WI{y y':FS}(h:y.marked s k c=some y')(p:64<y.pieces):lC y'.mode=true/\64<y'.pieces:=by
 unfold FS.marked at h;split at h;·cases h;exact⟨Z,p⟩
 split at h;·cases h;exact⟨Z,p⟩
 split at h;·cases h;exact⟨Z,p⟩
 split at h;·cases h
 split at h;·cases h;exact⟨Z,p⟩
 split at h;·cases h;exact⟨Z,p⟩
 exact DZ h p
def WJ{y y':FS}(h:y.step c=some y')(hi:lC y.mode=true)(p:64<y.pieces):lC y'.mode=true/\64<y'.pieces:=by
 unfold FS.step at h;split at h;·rename_i e;rw[e]at hi;cases hi
 ·exact WH h p
 ·split at h;·cases h;exact⟨Z,p⟩
  split at h;·exact WI h p
  cases h
 ·exact WI h p
 ·split at h
  ·split at h;·cases h;exact⟨Z,p⟩
   cases h
  split at h;·cases h
  split at h;·cases h;exact⟨Z,p⟩
  exact DZ h p
 ·split at h;·cases h;exact⟨Z,p⟩
  split at h;·cases h
  exact DZ h p
 ·split at h;·cases h;exact⟨Z,p⟩
  split at h;·exact WH h p
  cases h
 ·exact DZ h p
 ·rename_i e;rw[e]at hi;cases hi
 rename_i e;rw[e]at hi;cases hi
def KM:∀(r:Bytes) (y:FS),lC y.mode=true->64<y.pieces->GG y r=none
 | [],y,hi,_=>fY hi
 |c::r,y,hi,p=>by rw[iR];cases e:y.step c with|none=>rfl|some y'=>exact KM r y' (WJ e hi p).1 (WJ e hi p).2
def KN(b:List Item)(L l:Nat)(a:Option Nat)(f:Nat):∀(r:Bytes) (d:List PG),GG ⟨b,L,l,a,f,d.map (·.au),.want⟩ r=GG ⟨b,L,l,a,f,(dW d r).1.map (·.au),.want⟩ (dW d r).2
 | [],d=>rfl
 |c::r,d=>by
  unfold dW;by_cases e:c=40
  ·rw[aB e,<- KN b L l a f r (iQ .paren::d)];refine fH r ?_;show FS.begins _ c=_;unfold FS.begins;rw[aA (by rw[e];decide),aA (by rw[e];decide),aB e];rfl
  rw[aA e]
def KO:∀(r:Bytes) (a:List PG),∀v,(dW a r).2≠40::v
 | [],a,v=>by intro z;cases z
 |c::r,a,v=>by
  unfold dW;by_cases e:c=40;·rw[aB e];exact KO r _ v
  rw[aA e];intro z;cases z;exact e rfl
def KP:∀(r:Bytes) (a:List PG),a≠[]->(dW a r).1≠[]
 | [],a,h=>h
 |c::r,a,h=>by
  unfold dW;by_cases e:c=40;·rw[aB e];exact KP r _ (by intro z;cases z)
  rw[aA e];exact h
def oF:Nat->List Nat
 |0=>[]
 |f+1=>(4-f)::oF f
def sB(q:List Nat)(c:UInt8):Prop:=49<=c.toNat/\c.toNat<=52/\q.all (λ(k:Nat)=>decide (k<c.toNat-48))=true
section
variable{α:Type}{Rn:List Nat->Bytes->α}
def yX(h:k<=4):(UInt8.ofNat (48+k)).toNat=48+k:=by rw[UInt8.toNat_ofNat'];lia
def EA(d:∀q c r,sB q c->Rn q (c::r)=Rn (q++[c.toNat-48]) r):∀(f:Nat) (q:List Nat) (r:Bytes),f<=4->(∀x∈q,x<=4-f)->(∀k,1<=k->k<=4-f->(∃x∈q,k<=x)\/∀v,r≠UInt8.ofNat (48+k)::v)->
  Rn q r=Rn (q++(dU (oF f) r).1) (dU (oF f) r).2/\∀c v,(dU (oF f) r).2=c::v->¬sB (q++(dU (oF f) r).1) c
 |0,q,r,_,_,h=>by
  refine⟨by show Rn q r=Rn (q++[]) r;rw[bU],λc v e b=> ?_⟩;have e:r=c::v:=e;have b:sB (q++[]) c:=b;rw[bU]at b;obtain⟨l,u,o⟩:=b;rcases h (c.toNat-48) (by lia) (by lia)with⟨x,a,i⟩|hn
  ·have:=al_53.mp o x a;rw[gK]at this;lia
  refine hn v ?_;rw[e];congr 1;exact al_64.mp (by rw[yX (by lia)];lia)
 |f+1,q,r,hf,hq,h=>by
  show Rn q r=Rn (q++(dU ((4-f)::oF f) r).1) (dU ((4-f)::oF f) r).2/\∀c v,(dU ((4-f)::oF f) r).2=c::v->¬sB (q++(dU ((4-f)::oF f) r).1) c;unfold dU;cases r with
  |nil=>
   rw[aA (by show¬(false=true);simp)];exact EA d f q [] (by lia) (λx a=>by have:=hq x a;lia) (λk _ _=> .inr λv z=>by cases z)
  |cons c v=>
   rw[cR];by_cases e:c=UInt8.ofNat (48+(4-f))
   ·rw[aB e];dsimp only;rw[aB rfl];have j:c.toNat-48=4-f:=by rw[e,yX (by lia)];lia
    have b:sB q c:=by refine⟨by rw[e,yX (by lia)];lia,by rw[e,yX (by lia)];lia,al_53.mpr λx a=> ?_⟩;have:=hq x a;rw[gK,j];lia
    rw[d q c v b,j];obtain⟨p,s⟩:=EA d f (q++[4 - f]) v (by lia) (λx a=>by
     rcases al_51.mp a with a|a;·have:=hq x a;lia
     rw[al_56.mp a];exact aK _) (λk _ i=> .inl ⟨4-f,mG _ (al_56.mpr Z),i⟩)
    rw[show q++(4-f)::(dU (oF f) v).1=q++[4-f]++(dU (oF f) v).1 by simp];exact⟨p,s⟩
   rw[aA e];dsimp only;rw[aA (by simp)];exact EA d f q (c::v) (by lia) (λx a=>by have:=hq x a; lia) (λk l i=>by
    by_cases n:k=4-f
    ·right;intro w z;injection z with m y
     rw[n]at m;exact e m
    exact h k l (by lia))
def WK(a:∀q c r,sB q c->Rn q (c::r)=Rn (q++[c.toNat-48]) r)(r:Bytes):
  Rn [] r=Rn (dU [1,2,3,4] r).1 (dU [1,2,3,4] r).2/\∀c v,(dU [1,2,3,4] r).2=c::v->¬sB (dU [1,2,3,4] r).1 c:=
 EA a 4 [] r (aK _) (λ_ h=>by cases h) (λk b d=>by lia)
end
section
variable(its:List Item)(L l:Nat)(ring:Option Nat)(pc:Nat)(st:List AU)
def iS(a:Item)(r:Bytes):Option (List Item):=if sA a=true/\(tk 91 r).1=true then GG ⟨its++[a],L,l,ring,pc,eU .nest::st,.place []⟩ (tk 91 r).2 else GG ⟨its++[a],L,l,ring,pc,st,.whole .one⟩ r
def WL(s:Stand)(c:UInt8)(v:Bytes)(y:FS)(a:y.step c=if c=91 then some ⟨its++[.sgn s],L,l,ring,pc,eU .nest::st,.place []⟩else FS.behind ⟨its++[.sgn s],L,l,ring,pc,st,.whole .one⟩ .one c):
  GG y (c::v)=iS its L l ring pc st (.sgn s) (c::v):=by
 unfold iS;rw[cR];by_cases e:c=91;·rw[aB e]at a;rw[aB e,aB ⟨Z,Z⟩];exact fH v a
 rw[aA e]at a;rw[aA e,aA (by simp)];rw[iR,iR,a];rfl
def Sx(s:Stand):∀r,GG ⟨its,L,l,ring,pc,st,.mark s 4⟩ r=iS its L l ring pc st (.sgn s) r
 | []=>by rw[fY rfl];unfold iS;rw[aA (by rintro⟨_,z⟩;cases z),fY rfl]
 |c::v=>by
  refine WL its L l ring pc st s c v _ ?_;show FS.marked _ s 4 c=_;unfold FS.marked;rw[aA (by lia),aA (by lia),aA (by lia),aA (by lia),aA (by lia)];rfl
def WM(s:Stand)(k:Nat)(a:k=1\/k=3)(r:Bytes)(m:k=1->∀v,r≠37::v)(n:k=3->∀c v,r=c::v->¬sB s.quarters c):
  GG ⟨its,L,l,ring,pc,st,.mark s k⟩ r=iS its L l ring pc st (.sgn ⟨s.name,s.mirrored,s.quarters,s.unsure||(tk 63 r).1⟩) (tk 63 r).2:=by
 cases r with
 |nil=>
  rw[fY rfl];unfold iS;rw[aA (by rintro⟨_,z⟩;cases z),show(tk 63 []).2=[]from rfl,fY rfl]
 |cons c v=>
  have b:¬(c=126/\k=0):=by lia
  have d:¬(c=37/\k<=1):=by
   rintro⟨i,j⟩;rcases a with a|a
   ·exact m a v (by rw[i])
   lia
  have f:¬((k=2\/k=3)/\49<=c.toNat/\c.toNat<=52/\s.quarters.all (λ(k:Nat)=>decide (k<c.toNat-48))=true):=by rintro⟨i,j⟩;exact n (by lia) c v rfl j
  have h:¬k=2:=by lia
  rw[cR];by_cases e:c=63
  ·rw[aB e];dsimp only;rw[Bool.or_true,<- Sx];refine fH v ?_;show FS.marked _ s k c=_;unfold FS.marked;rw[aA b,aA d,aA f,aA h,aB ⟨e,by lia⟩]
  rw[aA e];dsimp only;rw[jD];refine WL its L l ring pc st s c v _ ?_;show FS.marked _ s k c=_;unfold FS.marked;rw[aA b,aA d,aA f,aA h,aA (λz=>e z.1)];rfl
def Sy(n:Name)(m:Bool)(r:Bytes):GG ⟨its,L,l,ring,pc,st,.mark ⟨n,m,[],false⟩ 1⟩ r=match iZ r with
  |none=>none
  |some x=>iS its L l ring pc st (.sgn ⟨n,m,x.1,(tk 63 x.2).1⟩) (tk 63 x.2).2:=by
 unfold iZ;by_cases e:(tk 37 r).1=true
 ·rw[aB e];cases r with
  |nil=>cases e
  |cons c v=>
   rw[cR]at e ⊢;by_cases b:c=37
   ·rw[aB b];dsimp only;have p:GG ⟨its,L,l,ring,pc,st,.mark ⟨n,m,[],false⟩ 1⟩ (c::v)=GG ⟨its,L,l,ring,pc,st,.mark ⟨n,m,[],false⟩ 2⟩ v:=by
     refine fH v ?_;show FS.marked _ _ 1 c=_;unfold FS.marked;rw[aA (by lia),aB ⟨b,by lia⟩]
    rw[p];obtain⟨f,h⟩:=WK (Rn:=λq r=>GG ⟨its,L,l,ring,pc,st,.mark ⟨n,m,q,false⟩ (if q=[] then 2 else 3)⟩ r) (λq c r o=>by
     refine fH r ?_;show FS.marked _ _ (if q=[]then 2 else 3) c=_;unfold FS.marked;have i:(if q=[]then 2 else 3)=2\/(if q=[]then 2 else 3)=3:=by split<;>simp
     have j:¬(q++[c.toNat-48]=[]):=by simp
     rw[aA (by lia),aA (by lia),aB ⟨i,o⟩,aA j]) v
    have f:GG ⟨its,L,l,ring,pc,st,.mark ⟨n,m,[],false⟩ 2⟩ v=_:=f;rw[f];by_cases a:(dU [1,2,3,4] v).1=[]
    ·rw[aB a,aB a];rw[a]at h ⊢;cases k:(dU [1,2,3,4] v).2 with
     |nil=>exact fY rfl
     |cons d w=>
      refine jA w ?_;show FS.marked _ _ 2 d=none;unfold FS.marked;rw[aA (by lia),aA (by lia),aA (λz=>h d w k z.2),aB rfl]
    rw[aA a,aA a];dsimp only;rw[WM its L l ring pc st ⟨n,m,(dU [1,2,3,4] v).1,false⟩ 3 (.inr Z) _ (λz=>by lia) (λ_=>h)];simp only [oK]
   rw[aA b]at e;cases e
 rw[aA e];dsimp only;rw[WM its L l ring pc st ⟨n,m,[],false⟩ 1 (.inl Z) r (λ_ v z=>by rw[z]at e;exact e rfl) (λz=>by lia)];simp only [oK]
def Ta(n:Name)(r:Bytes):GG ⟨its,L,l,ring,pc,st,.mark ⟨n,false,[],false⟩ 0⟩ r=GG ⟨its,L,l,ring,pc,st,.mark ⟨n,(tk 126 r).1,[],false⟩ 1⟩ (tk 126 r).2:=by
 cases r with
 |nil=>rw[fY rfl];exact(fY Z).symm
 |cons c v=>
  rw[cR];by_cases e:c=126
  ·rw[aB e];refine fH v ?_;show FS.marked _ _ 0 c=_;unfold FS.marked;rw[aB ⟨e,Z⟩]
  rw[aA e,iR,iR];have:FS.step ⟨its,L,l,ring,pc,st,.mark ⟨n,false,[],false⟩ 0⟩ c=FS.step ⟨its,L,l,ring,pc,st,.mark ⟨n,false,[],false⟩ 1⟩ c:=by
   have M:∀k:Nat,k<=1->FS.step ⟨its,L,l,ring,pc,st,.mark ⟨n,false,[],false⟩ k⟩ c=if c=37 then some ⟨its,L,l,ring,pc,st,.mark ⟨n,false,[],false⟩ 2⟩else if c=63 then some ⟨its,L,l,ring,pc,st,.mark ⟨n,false,[],true⟩ 4⟩else if c=91 then some ⟨its++[.sgn ⟨n,false,[],false⟩],L,l,ring,pc,eU .nest::st,.place []⟩else FS.behind ⟨its++[.sgn ⟨n,false,[],false⟩],L,l,ring,pc,st,.want⟩ .one c:=λk d=>by
    show FS.marked _ _ k c=_;unfold FS.marked;rw[aA (λz=>e z.1)];by_cases a:c=37;·rw[aB ⟨a,d⟩,aB a]
    rw[aA (λz=>a z.1),aA a,aA (by lia),aA (by lia)];by_cases b:c=63;·rw[aB ⟨b,by lia⟩,aB b]
    rw[aA (λz=>b z.1),aA b];rfl
   rw[M 0 (by lia),M 1 (by lia)]
  rw[this]
def Tb(c:UInt8)(v:Bytes)(a:isBig c=true):GG ⟨its,L,l,ring,pc,st,.want⟩ (c::v)=match lX (c::v)with
  |none=>none
  |some x=>iS its L l ring (pc+1) st (.sgn x.1) x.2:=by
 have m:GG ⟨its,L,l,ring,pc,st,.want⟩ (c::v)=GG ⟨its,L,l,ring,pc+1,st,.name [c]⟩ v:=by
  refine fH v ?_;show FS.begins _ c=_;unfold FS.begins;rw[aB a]
 rw[m];have f:yW λw r=>GG ⟨its,L,l,ring,pc+1,st,.name w⟩ r:=λw x r h=>by
  refine fH r ?_;show(if nameGoes (w++[x])=true then _ else _)=_;rw[aB h]
 have p:=Su f a v;obtain⟨i,j,A⟩:=rN v;obtain⟨u,z,b,e⟩:=Sw f a i (r:=(tp isSmall v).2) j;have s:=p.trans z;rw[s];have lt:iA (c::v)=(some (c,(tp isSmall v).1),(tp isSmall v).2):=by unfold iA;rw[nW,aB a];dsimp only;rw[aA (RH a)]
 have k:cJ (c::v)=cN c (tp isSmall v).1 (tp isSmall v).2:=by unfold cJ;rw[lt]
 unfold lX;rw[k];generalize cN c (tp isSmall v).1 (tp isSmall v).2=X at b e;obtain⟨o,q⟩:=X;dsimp only at b e;cases o with
 |none=>
  cases q with
  |nil=>exact fY rfl
  |cons d w=>
   refine jA w ?_;show(if nameGoes (u++[d])=true then _ else _)=_;rw[aA (by rw[e d w rfl];simp),b]
 |some n=>
  dsimp only;have y:GG ⟨its,L,l,ring,pc+1,st,.name u⟩ q=GG ⟨its,L,l,ring,pc+1,st,.mark ⟨n,false,[],false⟩ 0⟩ q:=by
   cases q with
   |nil=>rw[fY rfl];exact(fY Z).symm
   |cons d w=>
    rw[iR,iR];have:FS.step ⟨its,L,l,ring,pc+1,st,.name u⟩ d=FS.step ⟨its,L,l,ring,pc+1,st,.mark ⟨n,false,[],false⟩ 0⟩ d:=by
     show(if nameGoes (u++[d])=true then _ else _)=_;rw[aA (by rw[e d w rfl];simp),b];show FS.marked _ _ 0 d=FS.marked _ _ 0 d;unfold FS.marked FS.emit;rfl
    rw[this]
  rw[y,Ta,Sy];cases iZ (tk 126 q).2<;>rfl
def Tc(a:Bytes):∀(b:Bytes),numberOf a<=numberOf (a++b):=by
 intro b;unfold numberOf;rw[uS];generalize a.foldl (λ(n:Nat) (c:UInt8)=>10*n+(c.toNat-48)) 0=n;induction b generalizing n with
 |nil=>exact aK _
 |cons x b ih=>
  rw[sR];exact aZ (by lia) (ih _)
def WN(q:Bytes):∀(a ds:Bytes),a.all isDigit=true->(ds++a).head?≠some 48->numberOf ds<=32->
  GG ⟨its,L,l,ring,pc,st,.gap ds⟩ (a++q)=if numberOf (ds++a)<=32 then GG ⟨its,L,l,ring,pc,st,.gap (ds++a)⟩ q else none
 | [],ds,_,_,h=>by rw[bU,aB h];rfl
 |e::a,ds,ha,h0,h=>by
  rw[dM,cB]at ha;have c:ds.isEmpty=false\/e≠48:=by
   cases ds with
   |nil=>right;intro z;rw[z]at h0;exact h0 rfl
   |cons=>exact .inl rfl
  rw[show e::a++q=e::(a++q)from rfl,show ds++e::a=ds++[e]++a by simp];by_cases b:numberOf (ds++[e])<=32
  ·rw[fH (a++q) (y':=⟨its,L,l,ring,pc,st,.gap (ds++[e])⟩) (by
    show(if isDigit e=true then(if(ds.isEmpty=false\/e≠48)/\numberOf (ds++[e])<=GAP then _ else _)else _)=_;rw[aB ha.1,aB ⟨c,b⟩])]
   exact WN q a (ds++[e]) ha.2 (by rw[show ds++[e]++a=ds++e::a by simp];exact h0) b
  rw[aA (λz=>b (aZ (Tc (ds++[e]) a) z))];refine jA _ ?_;show(if isDigit e=true then(if(ds.isEmpty=false\/e≠48)/\numberOf (ds++[e])<=GAP then _ else _)else _)=_;rw[aB ha.1,aA (λz=>b z.2)]
def Td:∀{ds:Bytes},ds.length=3->ds.all isDigit=true->ds.head?≠some 48->32<numberOf ds
 | [a,b,c],_,h,z=>by
  simp only [dM,wW,nM,cB]at h;have d:=h.1;unfold isDigit at d;rw[cB,gK,gK]at d;have f:a.toNat≠48:=λe=>z (by show some a=some 48;rw[al_64.mp (show a.toNat=(48:UInt8).toNat from e)])
  show 32<10*(10*(10*0+(a.toNat-48))+(b.toNat-48))+(c.toNat-48);lia
def KQ(k:Nat)(q:List Nat)(r:Bytes):iS its L l ring pc st (.gap k q) r=GG ⟨its++[.gap k q],L,l,ring,pc,st,.whole .one⟩ r:=aA (by rintro⟨z,_⟩;cases z)
def Te(h:jL c=false)(a:isDigit c=true):c=48:=by unfold jL at h;unfold isDigit at a;rw[Bool.and_eq_false_iff,AI,AI]at h;rw[cB,gK,gK]at a;exact al_64.mp (show c.toNat=48 by lia)
def Tf(r:Bytes):GG ⟨its,L,l,ring,pc,st,.gap []⟩ r=match rZ r with
  |none=>none
  |some x=>iS its L l ring pc st x.1 x.2:=by
 obtain⟨a,q,B,b,C,o,D,E,F⟩:=rM r;unfold rZ;rw[B];dsimp only;have h:=WN its L l ring pc st q a [] b o (by decide);rw[<- D,lJ]at h;rw[h];by_cases k:a=[]
 ·subst k;rw[aB (by decide),aB (.inl Z)];have s:=E rfl;cases q with
  |nil=>exact fY rfl
  |cons c v=>
   refine jA v ?_;show(if isDigit c=true then(if(([]:Bytes).isEmpty=false\/c≠48)/\_ then _ else _)else if([]:Bytes).isEmpty=true then none else _)=none;by_cases p:isDigit c=true
   ·rw[aB p,aA];rintro⟨z|z,_⟩
    ·cases z
    exact z (Te (s c v Z) p)
   rw[aA p];rfl
 obtain⟨_,H,_⟩:=tK b k C o;by_cases y:numberOf a<=32
 ·rw[aB y,aA (by lia)];have s:cW isDigit q:=F k (by
   by_cases z:a.length=3;·have:=Td z b o;lia
   lia)
  have e:a.isEmpty=false:=by cases a with|nil=>exact absurd rfl k|cons=>rfl
  unfold iZ;cases q with
  |nil=>
   show GG _ []=iS its L l ring pc st (.gap (numberOf a) []) [];rw[fY rfl,KQ,fY rfl]
  |cons c v=>
   have A:¬isDigit c=true:=by rw[s c v rfl];simp
   rw[cR];by_cases j:c=37
   ·rw[aB j];dsimp only;rw[aB rfl];rw[fH v (y':=⟨its,L,l,ring,pc,st,.gapMark (numberOf a) []⟩) (by
     show(if isDigit c=true then _ else if a.isEmpty=true then _ else if c=37 then _ else _)=_;rw[aA A,aA (by rw[e];simp),aB j])]
    obtain⟨u,m⟩:=WK (Rn:=λq r=>GG ⟨its,L,l,ring,pc,st,.gapMark (numberOf a) q⟩ r) (λq c r G=>by
     refine fH r ?_;show(if 49<=c.toNat/\c.toNat<=52/\q.all (λ(i:Nat)=>decide (i<c.toNat-48))=true then _ else _)=_;exact aB G) v
    have u:GG ⟨its,L,l,ring,pc,st,.gapMark (numberOf a) []⟩ v=_:=u;rw[u];by_cases f:(dU [1,2,3,4] v).1=[]
    ·rw[aB f];rw[f]at m ⊢;cases b:(dU [1,2,3,4] v).2 with
     |nil=>exact fY rfl
     |cons d w=>
      refine jA w ?_;show(if 49<=d.toNat/\d.toNat<=52/\([]:List Nat).all (λ(i:Nat)=>decide (i<d.toNat-48))=true then _ else if([]:List Nat).isEmpty=true then _ else _)=none;exact(aA (λz=>m d w b z)).trans rfl
    rw[aA f];show _=iS its L l ring pc st (.gap (numberOf a) _) _;rw[KQ];generalize dU [1,2,3,4] v=Y at m f;obtain⟨n,w⟩:=Y;cases w with
    |nil=>rw[fY rfl];exact(fY Z).symm
    |cons d w=>
     rw[iR,iR];have:FS.step ⟨its,L,l,ring,pc,st,.gapMark (numberOf a) n⟩ d=FS.step ⟨its++[.gap (numberOf a) n],L,l,ring,pc,st,.whole .one⟩ d:=by
      show(if 49<=d.toNat/\d.toNat<=52/\n.all (λ(i:Nat)=>decide (i<d.toNat-48))=true then _ else if n.isEmpty=true then _ else _)=_;exact(aA (λz=>m d w Z z)).trans (aA (λz=>f (al_128.mp z)))
     rw[this]
   rw[aA j];dsimp only;rw[aA (by simp)];show _=iS its L l ring pc st (.gap (numberOf a) []) (c::v);rw[KQ,iR,iR];have:FS.step ⟨its,L,l,ring,pc,st,.gap a⟩ c=FS.step ⟨its++[.gap (numberOf a) []],L,l,ring,pc,st,.whole .one⟩ c:=by
    show(if isDigit c=true then _ else if a.isEmpty=true then _ else if c=37 then _ else _)=_;rw[aA A,aA (by rw[e];simp),aA j];rfl
   rw[this]
 rw[aA y,aB (.inr (by lia))]
def WO(r:Bytes)(a:∀v,r≠40::v):GG ⟨its,L,l,ring,pc,st,.want⟩ r=match gU r with
  |none=>none
  |some x=>iS its L l ring (pc+1) st x.1 x.2:=by
 unfold gU;cases r with
 |nil=>exact fY rfl
 |cons c v=>
  rw[cR];by_cases e:c=95
  ·rw[aB e];dsimp only;rw[aB rfl,<- Tf];refine fH v ?_;show FS.begins _ c=_;unfold FS.begins;rw[aA (by rw[e];decide),aB e]
  rw[aA e];dsimp only;rw[aA (by simp)];by_cases b:isBig c=true;·rw[Tb its L l ring pc st c v b];cases lX (c::v)<;>rfl
  have:cJ (c::v)=(none,c::v):=by
   unfold cJ iA;rw[nW,aA b];rfl
  have d:lX (c::v)=none:=by unfold lX;rw[this]
  rw[d];refine jA v ?_;show FS.begins _ c=_;unfold FS.begins;rw[aA b,aA e,aA (λz=>a v (by rw[z]))]
end
def fZ(e:c=k):tk k (c::v)=(true,v):=by rw[cR,aB e]
def gM(e:¬c=k):tk k (c::v)=(false,c::v):=by rw[cR,aA e]
def KR:PLACES=[[110,119],[110],[110,101],[119],[99],[101],[115,119],[115],[115,101]]:=by decide
section
variable(its:List Item)(L l:Nat)(ring:Option Nat)(pc:Nat)(st:List AU)
def vZ(v:Bytes)(h:PLACES.any (λ(x:Bytes)=>(w++[c]).isPrefixOf x)=true):GG ⟨its,L,l,ring,pc,st,.place w⟩ (c::v)=GG ⟨its,L,l,ring,pc,st,.place (w++[c])⟩ v:=by
 refine fH v ?_;show(if PLACES.any (λ(x:Bytes)=>(w++[c]).isPrefixOf x)=true then _ else _)=_;rw[aB h]
def KS(r:Bytes)(h:∀c v,r=c::v->PLACES.any (λ(x:Bytes)=>(w++[c]).isPrefixOf x)=false)(b:(PLACES.findIdx? (λ(x:Bytes)=>x==w)).isSome=true)(a:qI st=true):
  GG ⟨its,L,l,ring,pc,st,.place w⟩ r=GG ⟨its,L,l,ring,pc,st,.want⟩ r:=by
 cases r with
 |nil=>rw[fY rfl];exact(fY Z).symm
 |cons c v=>
  rw[iR,iR];have:FS.step ⟨its,L,l,ring,pc,st,.place w⟩ c=FS.step ⟨its,L,l,ring,pc,st,.want⟩ c:=by
   show(if PLACES.any (λ(x:Bytes)=>(w++[c]).isPrefixOf x)=true then _ else if(PLACES.findIdx? (λ(x:Bytes)=>x==w)).isSome=true/\qI st=true then _ else _)=_;rw[aA (by rw[h c v rfl];simp),aB ⟨b,a⟩];rfl
  rw[this]
def KU(a c:UInt8):PLACES.any (λ(x:Bytes)=>([a]++[c]).isPrefixOf x)=((a==110||a==115)&&(c==119||c==101)):=by
 rw[KR,jW];simp [List.isPrefixOf];constructor;·rintro(⟨b,d⟩|⟨b,d⟩|⟨b,d⟩|⟨b,d⟩)<;>simp [<- b,<- d]
 rintro⟨b|b,d|d⟩<;>simp [b,d]
def Tg(a b c:UInt8):PLACES.any (λ(x:Bytes)=>([a,b]++[c]).isPrefixOf x)=false:=by rw[KR];simp [List.isPrefixOf]
def wA(c:UInt8):PLACES.any (λ(x:Bytes)=>([]++[c]).isPrefixOf x)=(c==110||(c==115||(c==119||(c==99||c==101)))):=by rw[KR];simp only [lI,List.any_nil,lJ,List.isPrefixOf,nM,jD];cases(c==110)<;>cases(c==115)<;>cases(c==119)<;>cases(c==99)<;>cases(c==101)<;>rfl
def WP(a:UInt8)(i:a=110\/a=115)(m:qI st=true)(r:Bytes):GG ⟨its,L,l,ring,pc,st,.place [a]⟩ r=GG ⟨its,L,l,ring,pc,st,.want⟩ (uG r):=by
 have j:(a==110||a==115)=true:=by rcases i with h|h<;>rw[h]<;>rfl
 have b:∀c v,(c=119\/c=101)->GG ⟨its,L,l,ring,pc,st,.place [a]⟩ (c::v)=GG ⟨its,L,l,ring,pc,st,.want⟩ v:=λc v k=>by rw[vZ its L l ring pc st v (by rw[KU,j];rcases k with h|h<;>rw[h]<;>rfl)];refine KS its L l ring pc st v (λd w _=>Tg a c d) ?_ m;rcases i with h|h<;>rcases k with h2|h2<;>rw[h,h2]<;>decide
 unfold uG;cases r with
 |nil=>
  show _=GG _ [];rw[fY rfl];exact(fY Z).symm
 |cons c v=>
  rw[cR,cR];by_cases e:c=119;·rw[aB e];exact b c v (.inl e)
  rw[aA e,aA (by simp)];by_cases f:c=101;·rw[aB f];exact b c v (.inr f)
  rw[aA f];refine KS its L l ring pc st (c::v) (λd w z=> ?_) ?_ m
  ·injection z with n o;rw[KU,<- n,al_35.mpr e,al_35.mpr f];simp
  rcases i with h|h<;>rw[h]<;>decide
def WQ(m:qI st=true)(r:Bytes):GG ⟨its,L,l,ring,pc,st,.place []⟩ r=match jQ r with
  |none=>none
  |some r'=>GG ⟨its,L,l,ring,pc,st,.want⟩ r':=by
 unfold jQ;cases r with
 |nil=>exact fY rfl
 |cons c v=>
  have b:∀a:UInt8,(a=119\/a=99\/a=101)->GG ⟨its,L,l,ring,pc,st,.place [a]⟩ v=GG ⟨its,L,l,ring,pc,st,.want⟩ v:=λa n=>by
   refine KS its L l ring pc st v (λd w z=> ?_) ?_ m;·rw[KU];rcases n with h|h|h<;>rw[h]<;>rfl
   rcases n with h|h|h<;>rw[h]<;>decide
  by_cases e:c=110;·rw[fZ e,aB rfl,vZ its L l ring pc st v (by rw[wA,e];rfl)];exact WP its L l ring pc st c (.inl e) m v
  rw[gM e,aA (by simp)];by_cases f:c=115;·rw[fZ f,aB rfl,vZ its L l ring pc st v (by rw[wA,f];rfl)];exact WP its L l ring pc st c (.inr f) m v
  rw[gM f,aA (by simp)];by_cases i:c=119;·rw[fZ i,aB rfl,vZ its L l ring pc st v (by rw[wA,i];rfl)];exact b c (.inl i)
  rw[gM i,aA (by simp)];by_cases j:c=99;·rw[fZ j,aB rfl,vZ its L l ring pc st v (by rw[wA,j];rfl)];exact b c (.inr (.inl j))
  rw[gM j,aA (by simp)];by_cases k:c=101;·rw[fZ k,aB rfl,vZ its L l ring pc st v (by rw[wA,k];rfl)];exact b c (.inr (.inr k))
  rw[gM k,aA (by simp)];refine jA v ?_;show(if PLACES.any (λ(x:Bytes)=>([]++[c]).isPrefixOf x)=true then _ else if(PLACES.findIdx? (λ(x:Bytes)=>x== [])).isSome=true/\qI st=true then _ else _)=_;rw[wA,al_35.mpr e,al_35.mpr f,al_35.mpr i,al_35.mpr j,al_35.mpr k,aA (by simp),aA (by rintro⟨z,_⟩;exact absurd z (by decide))]
end
def Bt:List PG->Prop
 | []=>True
 |g::gs=>(g.au.kind= .block↔gs=[])/\(g.au.kind= .nest->∀h a,gs=h::a->h.unit= .one)/\Bt gs
section
variable(its:List Item)(L l:Nat)(ring:Option Nat)
def sC(r:Bytes):Option (List Item):=match ring with|none=>GG ⟨its,L,l+1,none,0,[],.ended⟩ r|some n=>if(tk 62 r).1=true then GG ⟨its,L,l+1,none,0,[],.ended⟩ (tk 62 r).2 else if(tk 32 r).1=true then(if n+1<16 then GG ⟨its,L,l,some (n+1),0,[eU .block],.want⟩ (tk 32 r).2 else none)else none
variable(pc:Nat)
def JR(x:Option (List PG×Bytes)):Option (List Item):=match x with|none=>none|some ([],r')=>sC its L l ring r'|some (a::gs2,r')=>GG ⟨its,L,l,ring,pc,(a::gs2).map (·.au),.want⟩ r'
def jT(st:List AU)(t:Tag)(c:UInt8):FS.step ⟨its,L,l,ring,pc,st,.whole t⟩ c=FS.behind ⟨its,L,l,ring,pc,st,.whole t⟩ t c:=rfl
def Th(D:pc<=64):∀(u:List PG) (g:PG) (r:Bytes),Bt (g::u)->GG ⟨its,L,l,ring,pc,(g::u).map (·.au),.whole g.unit⟩ r=JR its L l ring pc (jR g u r):=by
 intro u;induction u with
 |nil=>
  intro g r o;unfold jR;have s:g.au.kind= .block:=o.1.mpr rfl;cases r with
  |nil=>
   rw[fY rfl];simp only [tk,sS,oJ,and_false];split;·rfl
   rw[s];show none=sC its L l ring [];unfold sC;cases ring with|none=>rfl|some n=>rfl
  |cons c v=>
   by_cases b:c=38;·rw[fZ b,aB rfl];refine fH v ?_;rw[jT];unfold FS.behind;dsimp only [List.map];rw[aB b]
   rw[gM b,aA (by simp)];by_cases d:c=42
   ·rw[fZ d,aB rfl];by_cases f:g.au.mayStar g.unit=true;·rw[aB f];refine fH v ?_;rw[jT];unfold FS.behind;dsimp only [List.map];rw[aA b,aB d,aB f]
    rw[aA f];refine jA v ?_;rw[jT];unfold FS.behind;dsimp only [List.map];rw[aA b,aB d,aA f]
   rw[gM d,aA (by simp)];by_cases k:g.au.mayEnd g.unit=true
   ·have a:¬g.au.mayEnd g.unit=false:=by rw[k];simp
    by_cases i:c=58;·rw[fZ i,aB rfl,aB k];refine fH v ?_;rw[jT];unfold FS.behind;dsimp only [List.map];rw[aA b,aA d,aA a,aB i]
    rw[gM i,aA (by simp),aA (by rw[s];rintro⟨z,_⟩;cases z),aA a,s];show _=sC its L l ring (c::v);rw[iR];have st:FS.step ⟨its,L,l,ring,pc,[g].map (·.au),.whole g.unit⟩ c=match ring with
     |none=>if c=32 then(if l+1<64 then some ⟨its,L,l+1,ring,0,[],.fresh⟩else none)else if c=10 then some ⟨its,L+1,0,ring,0,[],.fresh⟩else none
     |some n=>if c=32 then(if n+1<16 then some ⟨its,L,l,some (n+1),0,[eU .block],.want⟩else none)else if c=62 then some ⟨its,L,l+1,none,0,[],.ended⟩else none:=by
     rw[jT];unfold FS.behind;dsimp only [List.map];rw[aA b,aA d,aA a,aA i,s];dsimp only;rw[aA (by lia)]
     all_goals (cases ring<;>rfl)
    rw[st];unfold sC;cases ring with
    |none=>
     dsimp only;rw[iR];have A:FS.step ⟨its,L,l+1,none,0,[],.ended⟩ c=if c=32 then(if l+1<64 then some ⟨its,L,l+1,none,0,[],.fresh⟩else none)else if c=10 then some ⟨its,L+1,0,none,0,[],.fresh⟩else none:=rfl
     rw[A]
    |some n=>
     dsimp only;by_cases j:c=32
     ·rw[aB j,gM (show¬c=62 by rw[j];decide),fZ j];by_cases x:n+1<16;·rw[aB x,aA (by exact bX),aB rfl,aB x]
      rw[aA x,aA (by exact bX),aB rfl,aA x]
     rw[aA j];by_cases m:c=62;·rw[aB m,fZ m];rfl
     rw[aA m,gM m,aA (by simp),gM j];rfl
   have a:g.au.mayEnd g.unit=false:=al_12.mpr k;have y:GG ⟨its,L,l,ring,pc,[g].map (·.au),.whole g.unit⟩ (c::v)=none:=by refine jA v ?_;rw[jT];unfold FS.behind;dsimp only [List.map];rw[aA b,aA d,aB a]
   rw[y,aA k,aA k,aB a];split;·rfl
   split<;>rfl
 |cons h f ih=>
  intro g r o;unfold jR;have s:¬g.au.kind= .block:=λz=>by have:=o.1.mp z;cases this
  cases r with
  |nil=>
   rw[fY rfl];simp only [tk,sS,oJ,and_false];split;·rfl
   cases e:g.au.kind with|block=>exact absurd e s|paren=>rfl|nest=>rfl
  |cons c v=>
   by_cases b:c=38;·rw[fZ b,aB rfl];refine fH v ?_;rw[jT];unfold FS.behind;dsimp only [List.map];rw[aB b]
   rw[gM b,aA (by simp)];by_cases d:c=42
   ·rw[fZ d,aB rfl];by_cases f:g.au.mayStar g.unit=true;·rw[aB f];refine fH v ?_;rw[jT];unfold FS.behind;dsimp only [List.map];rw[aA b,aB d,aB f]
    rw[aA f];refine jA v ?_;rw[jT];unfold FS.behind;dsimp only [List.map];rw[aA b,aB d,aA f]
   rw[gM d,aA (by simp)];by_cases k:g.au.mayEnd g.unit=true
   ·have a:¬g.au.mayEnd g.unit=false:=by rw[k];simp
    by_cases i:c=58;·rw[fZ i,aB rfl,aB k];refine fH v ?_;rw[jT];unfold FS.behind;dsimp only [List.map];rw[aA b,aA d,aA a,aB i]
    rw[gM i,aA (by simp)];cases p:g.au.kind with
    |block=>exact absurd p s
    |paren=>
     rw[aA (by rintro⟨z,_⟩;cases z),aA a];dsimp only;by_cases j:c=41/\g.au.tag≠ .one;·rw[aB ⟨j.2,by rw[fZ j.1]⟩,fZ j.1,<- ih ⟨h.au,g.au.tag⟩ v ⟨o.2.2.1,o.2.2.2.1,o.2.2.2.2⟩];refine fH v ?_;rw[jT];unfold FS.behind;dsimp only [List.map];rw[aA b,aA d,aA a,aA i,p];dsimp only;rw[aB j]
     have B:¬(g.au.tag≠ .one/\(tk 41 (c::v)).1=true):=λz=>by
      by_cases q:c=41;·exact j ⟨q,z.1⟩
      rw[gM q]at z;exact absurd z.2 bX
     rw[aA B];refine jA v ?_;rw[jT];unfold FS.behind;dsimp only [List.map];rw[aA b,aA d,aA a,aA i,p];dsimp only;rw[aA j]
    |nest=>
     by_cases m:c=59
     ·rw[aB ⟨Z,by rw[fZ m]⟩,aB k,fZ m];dsimp only;have C:GG ⟨its,L,l,ring,pc,(g::h::f).map (·.au),.whole g.unit⟩ (c::v)=GG ⟨its,L,l,ring,pc,eU .nest::(h::f).map (·.au),.place []⟩ v:=by
       refine fH v ?_;rw[jT];unfold FS.behind;dsimp only [List.map];rw[aA b,aA d,aA a,aA i,p];dsimp only;rw[aB m]
      rw[C,WQ its L l ring pc _ rfl];cases jQ v<;>rfl
     rw[aA (by rw[gM m];rintro⟨_,z⟩;cases z),aA a];dsimp only;by_cases w:c=93;·rw[fZ w,aB rfl,<- ih h v o.2.2,o.2.1 p h f rfl];refine fH v ?_;rw[jT];unfold FS.behind;dsimp only [List.map];rw[aA b,aA d,aA a,aA i,p];dsimp only;rw[aA m,aB w]
     rw[gM w,aA (by simp)];refine jA v ?_;rw[jT];unfold FS.behind;dsimp only [List.map];rw[aA b,aA d,aA a,aA i,p];dsimp only;rw[aA m,aA w]
   have a:g.au.mayEnd g.unit=false:=al_12.mpr k;have y:GG ⟨its,L,l,ring,pc,(g::h::f).map (·.au),.whole g.unit⟩ (c::v)=none:=by refine jA v ?_;rw[jT];unfold FS.behind;dsimp only [List.map];rw[aA b,aA d,aB a]
   rw[y,aA k,aA k,aB a];split;·rfl
   split<;>rfl
end
def Ti:∀(b:List PG) (g:PG) (r:Bytes) (x:List PG×Bytes),Bt (g::b)->jR g b r=some x->Bt x.1:=by
 intro b;induction b with
 |nil=>
  intro g r x a h;unfold jR at h;have d:g.au.kind= .block:=a.1.mpr rfl;rw[d]at h;split at h;·cases h;exact⟨a.1,a.2.1,a.2.2⟩
  split at h
  ·split at h;·cases h;exact⟨a.1,a.2.1,a.2.2⟩
   cases h
  split at h
  ·split at h;·cases h;exact⟨a.1,a.2.1,a.2.2⟩
   cases h
  rw[aA (by rintro⟨z,_⟩;cases z)]at h;split at h;·cases h
  cases h;trivial
 |cons g2 hs ih=>
  intro g r x a h;unfold jR at h;have d:¬g.au.kind= .block:=λz=>by have:=a.1.mp z;cases this
  split at h;·cases h;exact⟨a.1,a.2.1,a.2.2⟩
  split at h
  ·split at h;·cases h;exact⟨a.1,a.2.1,a.2.2⟩
   cases h
  split at h
  ·split at h;·cases h;exact⟨a.1,a.2.1,a.2.2⟩
   cases h
  split at h
  ·rename_i f;split at h
   ·cases e:jQ (tk 59 r).2 with
    |none=>rw[e]at h;cases h
    |some r'=>
     rw[e]at h;cases h;exact⟨⟨λz=>(by cases z),λz=>(by cases z)⟩,λ_=>a.2.1 f.1,a.2.2⟩
   cases h
  split at h;·cases h
  cases c:g.au.kind with
  |block=>exact absurd c d
  |paren=>
   rw[c]at h;dsimp only at h;split at h;·exact ih ⟨g2.au,g.au.tag⟩ _ x ⟨a.2.2.1,a.2.2.2.1,a.2.2.2.2⟩ h
   cases h
  |nest=>
   rw[c]at h;dsimp only at h;split at h;·exact ih g2 _ x a.2.2 h
   cases h
def WR:∀(r:Bytes) (a:List PG),a≠[]->Bt a->Bt (dW a r).1
 | [],a,_,h=>h
 |c::r,a,hn,h=>by
  unfold dW;by_cases e:c=40;·rw[aB e];exact WR r _ (by intro z;cases z) ⟨⟨λz=>(by cases z),λz=>absurd z hn⟩,λz=>(by cases z),h⟩
  rw[aA e];exact h
def Bt.unit(t:Tag)(h:Bt (g::a)):Bt (⟨g.au,t⟩::a):=h
def WS(b:Bt (g::a))(h:jJ c g a r=some x):Bt x.1:=by
 unfold jJ at h;split at h
 ·cases e:jQ (tk 91 r).2 with
  |none=>rw[e]at h;cases h
  |some r'=>
   rw[e]at h;cases h;exact⟨⟨λz=>(by cases z),λz=>(by cases z)⟩,λ_ h d z=>(by cases z;rfl),b.unit .one⟩
 exact Ti _ _ _ _ (b.unit .one) h
section
variable(L l:Nat)(ring:Option Nat)
def Tj(a:List Item)(d:Nat)(h:d<=64)(b:Item)(g:PG)(c:List PG)(r:Bytes)(f:Bt (g::c)):
  iS a L l ring d ((g::c).map (·.au)) b r=JR (a++[b]) L l ring d (jJ b g c r):=by
 unfold iS jJ;by_cases e:sA b=true/\(tk 91 r).1=true;·rw[aB e,aB e,WQ _ _ _ _ _ _ rfl];cases jQ (tk 91 r).2<;>rfl
 rw[aA e,aA e];exact Th (a++[b]) L l ring d h c ⟨g.au,.one⟩ r (f.unit .one)
def Tk:∀(n:Nat) (c:Nat) (a:List Item) (b:List PG) (r:Bytes),c+n=64->b≠[]->Bt b->∀acc,a=acc->
  GG ⟨a,L,l,ring,c,b.map (·.au),.want⟩ r=match iE n acc b r with
  |none=>none
  |some x=>sC x.1 L l ring x.2:=by
 intro n;induction n with
 |zero=>
  intro c a b r p d q acc k;subst k;rw[KN,WO _ _ _ _ _ _ _ (KO r b)];unfold iE;cases e:gU (dW b r).2 with
  |none=>rfl
  |some x=>
   obtain⟨h,i⟩:=x;have j:=KP r b d;cases s:(dW b r).1 with
   |nil=>exact absurd s j
   |cons g gs1=>
    show iS a L l ring (c+1) _ h i=none;unfold iS;split;·exact KM _ _ rfl (by show 64<c+1;lia)
    exact KM _ _ rfl (by show 64<c+1;lia)
 |succ n ih=>
  intro c a b r p d q acc k;subst k;rw[KN,WO _ _ _ _ _ _ _ (KO r b)];unfold iE;have j:=KP r b d;have f:=WR r b d q;cases e:gU (dW b r).2 with
  |none=>rfl
  |some x=>
   obtain⟨h,i⟩:=x;generalize (dW b r).1=gs2 at j f;cases gs2 with
   |nil=>exact absurd rfl j
   |cons g gs1=>
    show iS a L l ring (c+1) _ h i=_;rw[Tj L l ring a (c+1) (by lia) h g gs1 i f];dsimp only;cases u:jJ h g gs1 i with
    |none=>rfl
    |some y=>
     obtain⟨m,w⟩:=y;have o:=WS f u;cases m with
     |nil=>rfl
     |cons v gs2=>exact ih (c+1) (a++[h]) (v::gs2) w (by lia) (by intro z;cases z) o _ rfl
def Tl:∀(n:Nat) (acc:List Item) (a:List PG) (r:Bytes),iE n acc a r=(iE n [] a r).map λx=>(acc++x.1,x.2):=by
 intro n;induction n with
 |zero=>
  intro acc a r;unfold iE;cases gU (dW a r).2 with|none=>rfl|some x=>cases(dW a r).1<;>rfl
 |succ n ih=>
  intro acc a r;unfold iE;cases gU (dW a r).2 with
  |none=>rfl
  |some x=>
   cases(dW a r).1 with
   |nil=>rfl
   |cons g gs1=>
    dsimp only;cases jJ x.1 g gs1 x.2 with
    |none=>rfl
    |some y=>
     obtain⟨b,c⟩:=y;cases b with
     |nil=>rfl
     |cons g2 gs2=>
      dsimp only;rw[ih (acc++[x.1]),ih ([]++[x.1]),Option.map_map];congr 1;funext z;simp
def WT(a:List Item)(r:Bytes):GG ⟨a,L,l,ring,0,[eU .block],.want⟩ r=match lY r with
  |none=>none
  |some x=>sC (a++x.1) L l ring x.2:=by
 have h:=Tk L l ring 64 0 a [iQ .block] r rfl (by intro z;cases z) ⟨⟨λ_=>rfl,λ_=>rfl⟩,λz=>(by cases z),trivial⟩ a rfl;rw[Tl]at h;unfold lY;refine Eq.trans h ?_;cases iE 64 [] [iQ .block] r<;>rfl
end
section
variable(L l:Nat)
def Tm:∀(n k:Nat) (a acc:List Item) (r:Bytes),k+n=16->0<n->GG ⟨a++acc,L,l,some k,0,[eU .block],.want⟩ r=match jS lY 62 n acc r with
  |none=>none
  |some x=>GG ⟨a++x.1,L,l+1,none,0,[],.ended⟩ x.2:=by
 intro n;induction n with
 |zero=>intro k a acc r _ h;lia
 |succ n ih=>
  intro k a acc r f _;rw[WT];unfold jS;cases lY r with
  |none=>rfl
  |some x=>
   obtain⟨x,c⟩:=x;dsimp only;unfold sC;dsimp only;by_cases e:(tk 62 c).1=true;·rw[aB e,aB e,dQ]
   rw[aA e,aA e];by_cases b:(tk 32 c).1=true
   ·rw[aB b,aB b];by_cases d:k+1<16;·rw[aB d,dQ];exact ih (k+1) a (acc++x) (tk 32 c).2 (by lia) (by lia)
    rw[aA d];have:n=0:=by lia
    subst this;rfl
   rw[aA b,aA b]
def Tn(a:List Item)(r:Bytes)(c:UInt8)(v:Bytes)(j:r=c::v)(h:c=46)(i:¬(L=512/\l=0)):GG ⟨a,L,l,none,0,[],.fresh⟩ r=match qL r with
  |none=>none
  |some x=>GG ⟨a++x.1,L,l+1,none,0,[],.ended⟩ x.2:=by
 subst j;have k:GG ⟨a,L,l,none,0,[],.fresh⟩ (c::v)=GG ⟨a,L,l,none,0,[],.dots 1⟩ v:=by
  refine fH v ?_;show(if L=512/\l=0 then none else if c=60 then _ else if c=46 then _ else _)=_;rw[aA i,aA (by rw[h];decide),aB h]
 rw[k];unfold qL;rw[fZ h,aB rfl];dsimp only;cases v with
 |nil=>rfl
 |cons d w=>
  by_cases e:d=46
  ·rw[fZ e,aB rfl];dsimp only;rw[fH w (y':=⟨a,L,l,none,0,[],.dots 2⟩) (by
    show(if d≠46 then none else if 1=1 then _ else _)=_;rw[aA (λz=>z e),aB rfl])]
   cases w with
   |nil=>rfl
   |cons f u=>
    by_cases b:f=46
    ·rw[fZ b,aB rfl];refine fH u ?_;show(if f≠46 then none else if 2=1 then _ else _)=_;rw[aA (λz=>z b),aA (by lia)];rfl
    rw[gM b,aA (by exact bX)];refine jA u ?_;show(if f≠46 then none else if 2=1 then _ else _)=_;rw[aB b]
  rw[gM e,aA (by exact bX)];refine jA w ?_;show(if d≠46 then none else if 1=1 then _ else _)=_;rw[aB e]
def To(a:List Item)(r:Bytes)(d:¬(L=512/\l=0))(f:lE ⟨a,L,l,none,0,[],.fresh⟩=false\/r≠[]):GG ⟨a,L,l,none,0,[],.fresh⟩ r=match oC r with
  |none=>none
  |some x=>GG ⟨a++x.1,L,l+1,none,0,[],.ended⟩ x.2:=by
 cases r with
 |nil=>
  have f:lE ⟨a,L,l,none,0,[],.fresh⟩=false:=f.resolve_right λz=>z rfl
  show(if lE _=true then _ else none)=_;rw[f];rfl
 |cons c v=>
  unfold oC;by_cases e:c=60
  ·rw[fZ e,aB rfl];have h:GG ⟨a,L,l,none,0,[],.fresh⟩ (c::v)=GG ⟨a,L,l,some 0,0,[eU .block],.want⟩ v:=by
    refine fH v ?_;show(if L=512/\l=0 then none else if c=60 then _ else _)=_;rw[aA d,aB e]
   have:=Tm L l 16 0 a [] v rfl (by decide);rw[bU]at this;rw[h,this]
  rw[gM e,aA (by exact bX)];by_cases b:c=46;·rw[fZ b,aB rfl];exact Tn L l a (c::v) c v rfl b d
  rw[gM b,aA (by exact bX)];have h:GG ⟨a,L,l,none,0,[],.fresh⟩ (c::v)=GG ⟨a,L,l,none,0,[eU .block],.want⟩ (c::v):=by
   rw[iR,iR];have:FS.step ⟨a,L,l,none,0,[],.fresh⟩ c=FS.step ⟨a,L,l,none,0,[eU .block],.want⟩ c:=by
    show(if L=512/\l=0 then none else if c=60 then _ else if c=46 then _ else _)=FS.begins _ c;rw[aA d,aA e,aA b];rfl
   rw[this]
  rw[h,WT];cases lY (c::v)<;>rfl
end
def Tp(L:Nat):∀(n l:Nat) (a acc:List Item) (r:Bytes),l+n=64->0<n->¬(L=512/\l=0)->(l=0->L=0\/r≠[])->GG ⟨a++acc,L,l,none,0,[],.fresh⟩ r=match jS oC 10 n acc r with
  |none=>none
  |some x=>GG ⟨a++x.1,L+1,0,none,0,[],.fresh⟩ x.2:=by
 intro n;induction n with
 |zero=>intro l a acc r _ h;lia
 |succ n ih=>
  intro l a acc r k _ f i;rw[To L l (a++acc) r f (by
   by_cases e:l=0
   ·rcases i e with h|h
    ·left;show(l==0&&L !=0)=false;rw[h];simp
    exact .inr h
   left;show(l==0&&L !=0)=false;rw[al_35.mpr e];rfl)]
  unfold jS;cases oC r with
  |none=>rfl
  |some x=>
   obtain⟨x,j⟩:=x;dsimp only;cases j with
   |nil=>rfl
   |cons c v=>
    by_cases e:c=10
    ·rw[fZ e,aB rfl];dsimp only;rw[dQ];refine fH v ?_;show(if c=32 then _ else if c=10 then _ else none)=_;rw[aA (by rw[e];decide),aB e]
    rw[gM e,aA (by exact bX)];by_cases b:c=32
    ·rw[fZ b,aB rfl];dsimp only;by_cases d:l+1<64
     ·rw[dQ,<- ih (l+1) a (acc++x) v (by lia) (by lia) (by lia) (by lia)];refine fH v ?_;show(if c=32 then(if l+1<64 then _ else none)else _)=_;rw[aB b,aB d]
     have:n=0:=by lia
     subst this;refine jA v ?_;show(if c=32 then(if l+1<64 then _ else none)else _)=_;rw[aB b,aA d]
    rw[gM b,aA (by exact bX)];refine jA v ?_;show(if c=32 then _ else if c=10 then _ else none)=_;rw[aA b,aA e]
def Tq:∀(n L:Nat) (a:List Item) (r:Bytes),L+n=512->(L=0\/r≠[])->GG ⟨a,L,0,none,0,[],.fresh⟩ r=kM n a r:=by
 intro n;induction n with
 |zero=>
  intro L a r f b;unfold kM;have h:r≠[]:=b.resolve_left (by lia);have i:GG ⟨a,L,0,none,0,[],.fresh⟩ r=none:=by
   cases r with
   |nil=>exact absurd rfl h
   |cons c v=>
    refine jA v ?_;show(if L=512/\0=0 then none else _)=none;rw[aB ⟨by lia,Z⟩]
  rw[i];cases oE r<;>rfl
 |succ n ih=>
  intro L a r f b;have:=Tp L 64 0 a [] r rfl (by decide) (by lia) (λ_=>b);rw[bU]at this;rw[this];unfold kM;show (match oE r with
   |none=>none
   |some x=>GG ⟨a++x.1,L+1,0,none,0,[],.fresh⟩ x.2)=_
  cases oE r with
  |none=>rfl
  |some x=>
   obtain⟨x,d⟩:=x;dsimp only;by_cases e:d=[]
   ·rw[aB e,e];show(if lE ⟨a++x,L+1,0,none,0,[],.fresh⟩=true then some (a++x)else none)=_;rw[aB (by show(0==0&&L+1 !=0)=true;simp)]
   rw[aA e];exact ih (L+1) (a++x) d (by lia) (.inr e)
def Tr(b:Bytes):uC b=lZ b:=Tq 512 0 [] b rfl (.inl Z)
def kN(n:Nat)(a:List Bool):Nat:=a.foldl (λn b=>n*2+(if b=true then 1 else 0)) n
def eW(a:List (List Bool)):Nat:=a.foldl kN 0
def WU(n:Nat)(a:List Bool)(b:Bool):kN n (a++[b])=kN n a*2+(if b=true then 1 else 0):=by unfold kN;rw[uS];rfl
def WV(a:List (List Bool))(b:List Bool):eW (a++[b])=kN (eW a) b:=by unfold eW;rw[uS];rfl
def Ts(n:Name):n.before n=false:=by unfold Name.before;simp [UInt8.lt_irrefl]
def Tt{a b c:Name}(d:a.before b=true)(e:b.before c=true):a.before c=true:=by
 unfold Name.before at d e ⊢;simp only [mH,cB,gK,al_41,UInt8.lt_iff_toNat_lt,<- al_64]at d e ⊢;lia
def Distinct(l:Signs):Prop:=l.Pairwise λx y=>x.name.before y.name=true
def Tu(h:Distinct l)(e:jG l x.name=true):Distinct (l++[x]):=by
 refine List.pairwise_append.mpr ⟨h,List.pairwise_singleton _ _,λa c b d=> ?_⟩;rw[al_56.mp d];unfold jG at e;rcases List.eq_nil_or_concat l with rfl|⟨l',y,rfl⟩
 ·cases c
 rw[FU]at h e c;rw[List.getLast?_append]at e;have e:y.name.before x.name=true:=by simpa using e
 rcases al_51.mp c with c|c;·exact Tt ((List.pairwise_append.mp h).2.2 a c y (al_56.mpr Z)) e
 rw[al_56.mp c];exact e
def KW:∀(f:Nat) (a:Signs) (r:Bytes) (l:Signs),dD f a r=some l->Distinct a->Distinct l/\l≠[]
 |0,a,r,l,h,hh=>by
  unfold dD at h;split at h
  ·split at h;·cases h
   rename_i z;cases h;exact⟨hh,z⟩
  cases h
 |f+1,a,r,l,h,hh=>by
  unfold dD at h;split at h
  ·split at h;·cases h
   rename_i z;cases h;exact⟨hh,z⟩
  obtain⟨x,b,h⟩:=kJ h;split at h;·cases h
  rename_i z;refine KW f _ _ _ h (Tu hh ?_);cases e:jG a x.1.name with|true=>rfl|false=>exact absurd (.inr e) z
def Distinct.ne{l:Signs}(h:Distinct l){i j:Nat}{x y:Sign}(hi:l[i]? =some x)(c:l[j]? =some y)(e:x.name=y.name):i=j:=by
 have b:∀(i j:Nat) (x y:Sign),i<j->l[i]? =some x->l[j]? =some y->x.name≠y.name:=λi j x y d hi c e=>by obtain⟨a,f⟩:=al_19.mp hi;obtain⟨m,k⟩:=al_19.mp c;have:=al_177.mp h i j a m d;rw[f,k,e,Ts]at this;cases this
 rcases Nat.lt_trichotomy i j with a|a|a;·exact absurd e (b i j x y a hi c)
 ·exact a
 exact absurd e.symm (b j i y x a c hi)
def nl:List Bool->Nat
 | []=>0
 |b::r=>nl r*2+(if b=true then 1 else 0)
def wB(n:Nat)(b:Bool):(n*2+(if b=true then 1 else 0)).testBit 0=b:=by rw[Nat.testBit_zero];cases b with|true=>rw[aB rfl,bP (by lia)]|false=>rw[aA (by simp),bN (by lia)]
def wC(n:Nat)(b:Bool)(k:Nat):(n*2+(if b=true then 1 else 0)).testBit (k+1)=n.testBit k:=by
 rw[Nat.testBit_succ];congr 1;cases b with|true=>rw[aB rfl];lia|false=>rw[aA (by simp)];lia
def Tv(a b w:Nat)(x y z:Bool):((a*2+(if x=true then 1 else 0)) ^^^ (b*2+(if y=true then 1 else 0)))&&& (w*2+(if z=true then 1 else 0))=0↔((a ^^^ b)&&& w=0)/\(z=true->x=y):=by
 have ext:∀n:Nat,n=0↔∀j,n.testBit j=false:=λn=>⟨λh j=>by rw[h,oP],λh=>wZ λj=>by rw[h j,oP]⟩;rw[ext,ext ((a ^^^ b)&&& w)]
 constructor
 ·intro h;refine⟨λj=> ?_,λhz=> ?_⟩;·have:=h (j+1);rw[oQ,uX,wC,wC,wC]at this;rw[oQ,uX];exact this
  have:=h 0;rw[oQ,uX,wB,wB,wB,hz,nM]at this;cases x<;>cases y<;>first|rfl|cases this
 rintro⟨c,d⟩ j;cases j with
 |zero=>
  rw[oQ,uX,wB,wB,wB];cases z with|false=>rw[nJ]|true=>rw[d rfl];cases y<;>rfl
 |succ j=>
  have:=c j;rw[oQ,uX]at this;rw[oQ,uX,wC,wC,wC];exact this
def WW(a b w:α->Bool):∀G:List α,(nl (G.map a) ^^^ nl (G.map b))&&& nl (G.map w)=0↔∀c∈G,w c=true->a c=b c
 | []=>by
  constructor;·intro _ c h;cases h
  intro _;show(0 ^^^ 0)&&& 0=0;decide
 |g::G=>by
  show((nl (G.map a)*2+_) ^^^ (nl (G.map b)*2+_))&&& (nl (G.map w)*2+_)=0↔_;rw[Tv,WW a b w G];constructor
  ·rintro⟨e,f⟩ c d;rcases al_18.mp d with rfl|d
   ·exact f
   exact e c d
  intro h;exact⟨λc d=>h c (cA _ d),h g (cF ..)⟩
def Tw(a:List Bool):∀acc:List Bool,kN (nl acc) a=nl (a.reverse++acc):=by
 induction a with
 |nil=>intro acc;rfl
 |cons b a ih=>
  intro acc;rw[oO,dQ];exact ih (b::acc)
def KY(a:List (List Bool)):eW a=nl a.flatten.reverse:=by
 have h:∀(a:List (List Bool)) (acc:List Bool),a.foldl kN (nl acc)=nl (a.flatten.reverse++acc):=by
  intro a;induction a with
  |nil=>intro acc;rfl
  |cons r a ih=>
   intro acc;rw[sR,Tw,ih,uQ,List.reverse_append,dQ]
 have:=h a [];rw[bU]at this;exact this
def oG(q:List Nat)(m:Bool)(w h:Nat):List (List Bool):=(List.range h).map λy=>(List.range w).map λx=> !q.contains (quarterOf w h (if m=true then w-1-x else x) y)
def WX(h:WF s):s.rows=(List.range s.high).map λy=>(List.range s.wide).map λx=>s.ink x y:=by
 apply AK;·rw[aO,iU,h.high]
 intro y a d;rw[uT,wX];have c:s.rows[y].length=s.wide:=h.even _ (List.getElem_mem a);apply AK;·rw[aO,iU,c]
 intro x b e;rw[uT,wX];unfold Shape.ink;rw[jC,jC,cM a,AN,cM b,AN]
def KZ(w h:Nat)(f:Nat->Nat->Bool):((List.range h).map λy=>(List.range w).map λx=>f x y).flatten=(grid w h).map λc=>f c.1 c.2:=by
 unfold grid;rw[List.map_flatMap,List.flatMap_def];congr 2;funext y;rw[pO];rfl
def mem_grid:c∈grid w h↔c.1<w/\c.2<h:=by
 unfold grid;rw[List.mem_flatMap];constructor;·rintro⟨y,f,d⟩;obtain⟨x,e,rfl⟩:=al_67.mp d;exact⟨al_50.mp e,al_50.mp f⟩
 rintro⟨a,b⟩;exact⟨c.2,al_50.mpr b,al_67.mpr ⟨c.1,al_50.mpr a,Z⟩⟩
def Tx(q:List Nat)(m:Bool)(e:WF s)(f:WF t)(i:t.wide=s.wide)(d:t.high=s.high):
  (eW t.rows ^^^ eW s.rows)&&& eW (oG q m s.wide s.high)=0↔∀c∈grid s.wide s.high,q.contains (quarterOf s.wide s.high (if m=true then s.wide-1-c.1 else c.1) c.2)=false->t.ink c.1 c.2=s.ink c.1 c.2:=by
 rw[KY,KY,KY,WX e,WX f,i,d];unfold oG;rw[KZ s.wide s.high (λx y=>t.ink x y),KZ s.wide s.high (λx y=>s.ink x y),KZ s.wide s.high (λx y=> !q.contains (quarterOf s.wide s.high (if m=true then s.wide-1-x else x) y)),<- xC,<- xC,<- xC,WW];constructor;·intro h c a b;exact h c (List.mem_reverse.mpr a) (by rw[b];rfl)
 intro h c a b;refine h c (List.mem_reverse.mp a) ?_
 rwa [sT]at b
def EB{s:Shape}(a:x<s.wide)(b:y<s.high):s.mirrored.ink x y=s.ink (s.wide-1-x) y:=by
 show(((List.range s.high).map λ(y:Nat)=>(List.range s.wide).map λ(x:Nat)=>_).getD y []).getD x false=_;rw[jC,jC,fL,xD b];simp only [Option.map_some,AN];rw[fL,xD a];rfl
def Ty(q:List Nat)(m:Bool)(o:WF s)(p:WF t):
  (decide (t.wide=s.wide)&&(decide (t.high=s.high)&&decide ((eW t.rows ^^^ eW s.rows)&&& eW (oG q m s.wide s.high)=0)))=leftAlike q (mirroredIf m s) (mirroredIf m t):=by
 have n:∀u:Shape,(mirroredIf m u).wide=u.wide:=λu=>by unfold mirroredIf;split<;>rfl
 have l:∀u:Shape,(mirroredIf m u).high=u.high:=λu=>by unfold mirroredIf;split<;>rfl
 unfold leftAlike;rw[n,n,l,l];by_cases a:t.wide=s.wide
 ·by_cases f:t.high=s.high
  ·rw[bP a,bP f,a,f,qY,qY,mI,mI,mI,mI,jW,gK,Tx q m o p a f,al_53];cases m with
   |false=>
    constructor
    ·intro h c b;have:=h c b;rw[mH];cases e:q.contains (quarterOf s.wide s.high c.1 c.2)with
     |true=>exact .inl rfl
     |false=>exact .inr (by rw[al_41];exact(this e).symm)
    intro h c b i;have:=h c b;rw[mH]at this;rcases this with z|z
    ·rw[show q.contains (quarterOf s.wide s.high c.1 c.2)=false from i]at z;cases z
    exact(al_41.mp z).symm
   |true=>
    constructor
    ·intro h c b;obtain⟨k,d⟩:=mem_grid.mp b;have:=h (s.wide-1-c.1,c.2) (mem_grid.mpr ⟨by show s.wide-1-c.1<s.wide;lia,d⟩);have j:s.wide-1-(s.wide-1-c.1)=c.1:=by lia
     rw[aB rfl]at this;dsimp only at this;rw[j]at this;rw[mH];cases e:q.contains (quarterOf s.wide s.high c.1 c.2)with
     |true=>exact .inl rfl
     |false=>
      right;rw[al_41];show s.mirrored.ink c.1 c.2=t.mirrored.ink c.1 c.2;rw[EB k d,EB (by lia) (by lia),a];exact(this e).symm
    intro h c b i;obtain⟨k,d⟩:=mem_grid.mp b;have:=h (s.wide-1-c.1,c.2) (mem_grid.mpr ⟨by show s.wide-1-c.1<s.wide;lia,d⟩);have j:s.wide-1-(s.wide-1-c.1)=c.1:=by lia
    rw[aB rfl]at i;rw[mH]at this;dsimp only at this;rw[i]at this;rcases this with z|z
    ·cases z
    have z:s.mirrored.ink (s.wide-1-c.1) c.2=t.mirrored.ink (s.wide-1-c.1) c.2:=al_41.mp z;rw[EB (by lia) d,EB (by lia) (by lia),a,j]at z;exact z.symm
  rw[bP a,bN f,a,qY,al_35.mpr (dJ f)];rfl
 rw[bN a,al_35.mpr (dJ a)];rfl
def LA(h:findName l n=some k):∃x,l[k]? =some x/\x.name=n:=by unfold findName at h;obtain⟨a,b,_⟩:=List.findIdx?_eq_some_iff_getElem.mp h;exact⟨_,cM a,al_41.mp b⟩
def Tz(h:findName l s.name=some k)(a:l[k]? =some x):seen l s=some (mirroredIf s.mirrored x.shape):=by
 unfold seen signNo mirroredIf;rw[h];show(l[k]?).map _=_;rw[a];rfl
def WY(f:Sign->Bool):∀(l:Signs) (i:Nat),(∀x∈l,f x=false)->bL f i l=[]
 | [],_,_=>rfl
 |x::l,i,h=>by unfold bL;rw[aA (by rw[h x (cF ..)];simp)];exact WY f l (i+1) λy a=>h y (cA _ a)
def WZ(f:Sign->Bool):∀(l:Signs) (i k:Nat) (x:Sign),l[k]? =some x->f x=true->(∀j y,l[j]? =some y->f y=true->j=k)->bL f i l=[i+k]
 | [],_,_,_,h,_,_=>by simp at h
 |a::l,i,0,x,h,hx,hu=>by
  have:a=x:=cV h;subst this;unfold bL;rw[aB hx,WY f l (i+1)]
  ·rfl
  intro y c;obtain⟨j,b⟩:=nO c;cases e:f y with|false=>rfl|true=>have:=hu (j+1) y b e;lia
 |a::l,i,k+1,x,h,hx,hu=>by
  unfold bL;have d:¬f a=true:=λz=>by have:=hu 0 a rfl z;lia
  rw[aA d,WZ f l (i+1) k x h hx (λj y b c=>by have:=hu (j+1) y b c;lia)];congr 1;lia
def mB(s:Stand)(o x:Sign):Bool:=decide (x.shape.wide=o.shape.wide)&&(decide (x.shape.high=o.shape.high)&&decide ((eW x.shape.rows ^^^ eW o.shape.rows)&&& eW (oG s.quarters s.mirrored o.shape.wide o.shape.high)=0))
def cls(o x:Sign):Bool:=x.name.big==o.name.big&&x.name.small==o.name.small
def Ua{l:Signs}(f:Distinct l){s:Stand}{k:Nat}(h:findName l s.name=some k)(c:s.quarters=[])(d:s.unsure=false):s.may l=[k]:=by
 obtain⟨x,e,b⟩:=LA h;rw[DV,WZ (vV l s) l 0 k x e,kS]
 ·unfold vV;rw[c,d,b];simp
 intro j y i a;unfold vV at a;rw[c,d]at a;have:y.name=s.name:=by simpa using a
 exact f.ne i e (this.trans b.symm)
def Ub(d:∀x∈l,WF x.shape)(h:findName l s.name=some k)(b:l[k]? =some o)(a:s.quarters≠[]\/s.unsure=true):
  s.may l=bL (λx=>(!s.quarters.isEmpty&&mB s o x)||(s.unsure&&cls o x)) 0 l:=by
 rw[DV];refine yM λx i=> ?_;unfold vV;rw[Tz h b];dsimp only;have c:o.name=s.name:=by obtain⟨y,e,f⟩:=LA h;rw[b]at e;rw[cV e];exact f
 rw[<- Ty s.quarters s.mirrored (d o (fM b)) (d x i)];have z:(s.quarters.isEmpty&&(!s.unsure&&x.name==s.name))=false:=by
  rcases a with a|a;·rw[show s.quarters.isEmpty=false from al_12.mpr λz=>a (al_128.mp z)];rfl
  rw[a];simp
 rw[z,jD];unfold mB cls;rw[c]
def fR:List May->Nat->List Nat
 | [],_=>[]
 |none::m,d=>fR m (d+1)
 |some _::m,d=>d::fR m (d+1)
def yY:∀(m:List May) (d:Nat),(fR m d).length=(m.filter Option.isSome).length
 | [],_=>rfl
 |none::m,d=>yY m (d+1)
 |some _::m,d=>bS (· +1) (yY m (d+1))
def LB:∀(m:List May) (d:Nat),∀p∈fR m d,d<=p/\p<d+m.length
 | [],_,p,h=>by cases h
 |none::m,d,p,h=>by have:=LB m (d+1) p h;rw[cG];lia
 |some _::m,d,p,h=>by
  rcases al_18.mp h with e|h;·rw[cG];lia
  have:=LB m (d+1) p h;rw[cG];lia
def LC(x:May):∀(m:List May) (d:Nat),fR (m++[x]) d=fR m d++(if x.isSome=true then [d+m.length]else [])
 | [],d=>by cases x<;>rfl
 |none::m,d=>by
  show fR (m++[x]) (d+1)=_;rw[LC x m (d+1),cG,show d+1+m.length=d+(m.length+1) by lia];rfl
 |some q::m,d=>by
  show d::fR (m++[x]) (d+1)=_;rw[LC x m (d+1),cG,show d+1+m.length=d+(m.length+1) by lia];rfl
def mC(a:Nat)(M m:List May)(k:Nat):Option Nat:=iY a M (m.drop ((fR m 0).getD k 0)) k (mX M)
def LD(a:Nat)(M b:List May):∀(m:List May) (d i:Nat),b.drop d=m->kK a M m i=((fR m d).zipIdx i).filterMap λp=>(iY a M (b.drop p.1) p.2 (mX M)).map λj=>(p.2,j)
 | [],_,_,_=>rfl
 |none::m,d,i,h=>by
  have c:b.drop (d+1)=m:=by rw[<- wV,h];rfl
  exact LD a M b m (d+1) i c
 |some q::m,d,i,h=>by
  have c:b.drop (d+1)=m:=by rw[<- wV,h];rfl
  show (match iY a M (some q::m) i (mX M) with
   |some j=>[(i,j)]
   |none=>[])++kK a M m (i+1)=((d::fR m (d+1)).zipIdx i).filterMap _
  rw[LD a M b m (d+1) (i+1) c,List.zipIdx_cons,lH,h];cases iY a M (some q::m) i (mX M)<;>rfl
def XA(a:Nat)(M m:List May):kK a M m 0=(List.range (fR m 0).length).filterMap λk=>(mC a M m k).map λj=>(k,j):=by
 rw[LD a M m m 0 0 rfl];have e:(fR m 0).zipIdx 0=(List.range (fR m 0).length).map λk=>((fR m 0).getD k 0,k):=by
  refine List.ext_getElem? λk=> ?_;rw[List.getElem?_zipIdx,fL];rcases xE k (fR m 0).length with h|h
  ·rw[cM h,cM (by rw[iU];exact h),wX];show some ((fR m 0)[k],0+k)=some ((fR m 0).getD k 0,k);rw[kS,jC,cM h];rfl
  rw[jB h,jB (by rw[iU];exact h)];rfl
 rw[e,List.filterMap_map];rfl
end Sg
namespace Sg
open PySem
def lc:Nat->Nat->Nat
 |0,x=>x
 |n+1,x=>lc n (5*x+1)
def XB:∀n x,4*lc n x+1=5^n*(4*x+1)
 |0,x=>by simp [lc]
 |n+1,x=>by
  rw[lc,XB n (5*x+1),pN,Nat.mul_assoc];congr 1;lia
def XC:∀m n x,lc (m+n) x=lc n (lc m x)
 |0,n,x=>by rw[kS];rfl
 |m+1,n,x=>by rw[Nat.succ_add];exact XC m n _
def XD:∀k,∃c,5^(2^k)=1+4*2^k*(2*c+1)
 |0=>⟨0,by decide⟩
 |k+1=>by
  obtain⟨c,h⟩:=XD k;refine⟨c+2^k*((2*c+1)*(2*c+1)),?_⟩;rw[pN 2 k,Nat.pow_mul,h];generalize 2^k=a
  grind
def Uc(k x:Nat):∃q,lc (2^k) x=x+2^k+2*2^k*q:=by
 obtain⟨c,h⟩:=XD k;have e:=XB (2^k) x;rw[h]at e;refine⟨c*(4*x+1)+2*x,?_⟩;generalize 2^k=a at *
 grind
def XE:∀k i j,∃n u v,n<2^k/\lc n i+2^k*u=j+2^k*v
 |0,i,j=>⟨0,j,i,by decide,by simp [lc];lia⟩
 |k+1,i,j=>by
  obtain⟨n,u,v,l,h⟩:=XE k i j;obtain⟨q,f⟩:=Uc k (lc n i);have e:2^(k+1)=2*2^k:=by rw[pN];lia
  rw[e];rw[<- XC]at f;generalize 2^k=M at *;obtain⟨c,d|d⟩:∃c,u=2*c\/u=2*c+1:=⟨u/2,by lia⟩
  ·obtain⟨a,b|b⟩:∃a,v=2*a\/v=2*a+1:=⟨v/2,by lia⟩
   ·exact⟨n,c,a,by lia,by subst d b;grind⟩
   exact⟨n+M,c,a+1+q,by lia,by subst d b;grind⟩
  obtain⟨a,b|b⟩:∃a,v=2*a\/v=2*a+1:=⟨v/2,by lia⟩
  ·exact⟨n+M,c,a+q,by lia,by subst d b;grind⟩
  exact⟨n,c,a,by lia,by subst d b;grind⟩
def XF(k i j:Nat)(a:j<2^k):∃n,n<2^k/\lc n i%2^k=j:=by obtain⟨n,u,v,b,h⟩:=XE k i j;refine⟨n,b,?_⟩;have e:=bS (· %2^k) h;simp only [Nat.add_mul_mod_self_left]at e;rw[e,AJ a]
def EC(k:Nat):∀n i,lc n (i%2^k)%2^k=lc n i%2^k
 |0,i=>by simp [lc]
 |n+1,i=>by
  show lc n (5*(i%2^k)+1)%2^k=lc n (5*i+1)%2^k;rw[<- EC k n (5*(i%2^k)+1),<- EC k n (5*i+1)];have:(5*(i%2^k)+1)%2^k=(5*i+1)%2^k:=by simp [Nat.add_mod,Nat.mul_mod]
  rw[this]
abbrev oH(mask:Nat):=SetTable.layClean.free mask
def XG(h:oH a owner (fuel+1) i p=none):
  (owner.getD i (some 0)).isNone=false/\oH a owner fuel ((i*5+1+p/32)%(a+1)) (p/32)=none:=by
 unfold oH SetTable.layClean.free at h;split at h;·cases h
 rename_i b;refine⟨?_,h⟩;have:=List.find?_eq_none.mp b 0 (by
  rw[al_50];unfold SetTable.runEnd;split<;>lia)
 simpa only [Nat.add_zero,Bool.not_eq_true]using this
def XH(c:a+1=2^k):∀(fuel i:Nat),i<2^k->oH a owner fuel i 0=none->∀n,n<fuel->(owner.getD (lc n i%2^k) (some 0)).isNone=false
 |0,_,_,_,n,hn=>by lia
 |fuel+1,i,hi,h,n,hn=>by
  obtain⟨d,e⟩:=XG h;cases n with
  |zero=>rw[show lc 0 i=i from rfl,AJ hi];exact d
  |succ n=>
   have b:oH a owner fuel ((5*i+1)%2^k) 0=none:=by rw[<- c,show 5*i+1=i*5+1+0/32 from by lia];exact e
   have:=XH c fuel ((5*i+1)%2^k) (sV _ (by rw[<- c];lia)) b n (by lia);rw[EC]at this;exact this
def XI(b:a+1=2^k):∀(d i p:Nat),p<32^d->i<2^k->oH a owner (fuel+d) i p=none->∃c,c<2^k/\oH a owner fuel c 0=none
 |0,i,p,hp,hi,h=>⟨i,hi,by
  have:p=0:=by simpa using hp
  subst this;exact h⟩
 |d+1,i,p,hp,hi,h=>by obtain⟨_,e⟩:=XG h;exact XI b d _ (p/32) (by rw[pN]at hp;lia) (by rw[<- b];exact sV _ (by lia)) e
def Ud(d:a+1=2^k)(o:e<=a)(l:(owner.getD e (some 0)).isNone=true)(i p:Nat)(q:p<2^64)(hi:i<a+1):
  ∃j,oH a owner (SetTable.turns a) i p=some j:=by
 cases h:oH a owner (SetTable.turns a) i p with
 |some j=>exact⟨j,Z⟩
 |none=>
  exfalso;obtain⟨f,b,h'⟩:=XI (fuel:=a+2) d 13 i p (by lia) (by lia) h;obtain⟨n,m,c⟩:=XF k f e (by lia);have:=XH d (a+2) f b h' n (by lia);rw[c,l]at this;cases this
def XJ:∀{fuel i p j:Nat},oH a owner fuel i p=some j->owner[j]? =some none
 |0,_,_,_,h=>by cases h
 |fuel+1,i,p,j,h=>by
  unfold oH SetTable.layClean.free at h;split at h
  ·rename_i k c;cases h;have:=List.find?_some c;rw[xF]at this;cases b:owner[i+k]? with
   |none=>rw[b]at this;cases this
   |some v=>
    rw[b]at this;cases v with|none=>rfl|some x=>cases this
  exact XJ h
def sD(owner:Array (Option Nat)):List Nat:=owner.toList.filterMap id
def Ue{l:List (Option Nat)}:∀{j:Nat},l[j]? =some none->List.Perm ((l.set j (some x)).filterMap id) (x::l.filterMap id):=by
 induction l with
 |nil=>intro j h;simp at h
 |cons a l ih=>
  intro j h;cases j with
  |zero=>
   simp only [FW,Option.some.injEq]at h;subst h;simp
  |succ j=>
   simp only [FX]at h;have:=ih h;cases a with
   |none=>simpa using this
   |some y=>
    simp only [List.set_cons_succ,lH,id];exact(this.cons y).trans (List.Perm.swap x y _)
def XL:∀(l:List (Option Nat)),(∀v∈l,v≠none)->(l.filterMap id).length=l.length
 | [],_=>rfl
 |none::l,h=>absurd rfl (h none (cF))
 |some y::l,h=>by simp only [lH,id,cG];rw[XL l λv a=>h v (cA _ a)]
def Uf(j:owner.size=a+1)(d:(sD owner).Perm (List.range n))(i:n<=a):∃e,e<=a/\(owner.getD e (some 0)).isNone=true:=by
 refine rB λc=> ?_;have h:∀v∈owner.toList,v≠none:=by
  rintro v f rfl;obtain⟨e,b⟩:=nO f;have:e<owner.size:=by rw[<- cO];exact(al_19.mp b).1
  refine c ⟨e,by lia,?_⟩;rw[xF,<- kQ,b];rfl
 have:=XL _ h;have e:=d.length_eq;unfold sD at e;rw[this,iU,cO]at e;lia
def XM(h:Int):SetTable.bits h<2^64:=by
 unfold SetTable.bits;lia
def XN(m:a+1=2^k):∀(l:List Int) (owner:Array (Option Nat)) (n:Nat),owner.size=a+1->(sD owner).Perm (List.range n)->n+l.length<=a+1->
  ∃ b,l.foldl (λacc h=>do
   let(owner,k)<-acc
   let j<-SetTable.layClean.free a owner (SetTable.turns a) (SetTable.bits h%(a+1)) (SetTable.bits h)
   pure (owner.setIfInBounds j (some k),k+1)) (some (owner,n))=some (b,n+l.length)/\b.size=a+1/\(sD b).Perm (List.range (n+l.length))
 | [],owner,n,hs,hp,_=>⟨owner,Z,hs,hp⟩
 |h::l,owner,n,hs,hp,hn=>by
  simp only [cG]at hn;obtain⟨e,r,c⟩:=Uf hs hp (by lia);obtain⟨j,i⟩:=Ud m r c (SetTable.bits h%(a+1)) (SetTable.bits h) (XM h) (sV _ (by lia));have d:=XJ i;have f:(sD (owner.setIfInBounds j (some n))).Perm (List.range (n+1)):=by unfold sD;rw[Array.toList_setIfInBounds];refine(Ue (by rw[kQ];exact d)).trans ?_;rw[List.range_succ];exact(hp.cons n).trans (FY n _).symm
  obtain⟨b,o,p,q⟩:=XN m l (owner.setIfInBounds j (some n)) (n+1) (by rw[Array.size_setIfInBounds];exact hs) f (by lia);refine⟨b,?_,p,?_⟩
  ·rw[sR];have:(do
     let(owner,k)<-some (owner,n)
     let j<-SetTable.layClean.free a owner (SetTable.turns a) (SetTable.bits h%(a+1)) (SetTable.bits h)
     pure (owner.setIfInBounds j (some k),k+1):Option (Array (Option Nat)×Nat))=some (owner.setIfInBounds j (some n),n+1):=by
    show(SetTable.layClean.free a owner (SetTable.turns a) (SetTable.bits h%(a+1)) (SetTable.bits h)).bind _=_;rw[show SetTable.layClean.free a owner (SetTable.turns a) (SetTable.bits h%(a+1)) (SetTable.bits h)=some j from i];rfl
   rw[this,o,cG];congr 2;lia
  rw[cG];rw[show n+(l.length+1)=n+1+l.length from by lia];exact q
def Ug(i:b+1=2^k)(c:Array Int)(j:c.size<=b+1):∃o,SetTable.layClean b c=some o/\o.size=b+1/\(sD o).Perm (List.range c.size):=by
 obtain⟨l,f,h,d⟩:=XN i c.toList (Array.replicate (b+1) none) 0 (by simp) (by
  unfold sD;rw[Array.toList_replicate];rw[List.filterMap_eq_nil_iff.mpr]
  ·exact .nil
  intro a e;rw[List.mem_replicate]at e;rw[e.2];rfl) (by rw[kS,cO];exact j)
 rw[kS,cO]at d;refine⟨l,?_,h,d⟩;unfold SetTable.layClean;rw[<- Array.foldl_toList,f];rfl
def XO:∀{l:List α},(∀x∈l,f x=g x)->l.filterMap f=l.filterMap g
 | [],_=>rfl
 |a::l,h=>by rw[lH,lH,h a (cF),XO λx b=>h x (cA _ b)]
def LE:∀(l:List (Option Nat)) (d:Nat),((List.range' d l.length).filterMap λj=>((l[j-d]?).getD none).map (j,·)).map (·.2)=l.filterMap id
 | [],_=>rfl
 |a::l,d=>by
  rw[cG,List.range'_succ,lH];have b:=LE l (d+1);have e:(List.range' (d+1) l.length).filterMap (λj=>(((a::l)[j-d]?).getD none).map (j,·))=(List.range' (d+1) l.length).filterMap λj=>((l[j-(d+1)]?).getD none).map (j,·):=by refine XO λj c=> ?_;rw[List.mem_range'_1]at c;rw[show j-d=(j-(d+1))+1 from by lia,FX]
  rw[e];simp only [nN,FW,AN];cases a with|none=>simpa using b|some y=>simpa using b
def Uh{mask k:Nat}(hm:mask+1=2^k)(finger moves:Nat)(led plain:Bool)(hs:Array Int)(hn:hs.size<=mask+1):
  ∃pl ord,SetTable.laid mask finger moves led plain hs=some ({mask,place:=pl,dummies:= #[],finger,led,moves,plain},ord)/\ord.toList.Perm (List.range hs.size)/\pl.toList.Pairwise (· < ·)/\pl.size=hs.size:=by
 obtain⟨o,h1,h2,h3⟩:=Ug hm hs hn;refine⟨_,_,by unfold SetTable.laid;rw[h1];rfl,?_,?_,?_⟩;·have:=LE o.toList 0;rw[cO,h2,<- wY]at this;simp only [Nat.sub_zero,kQ]at this;simp only [xF];rw[this];exact h3
 ·simp only [];rw[List.pairwise_map];refine List.Pairwise.filterMap _ ?_ (List.pairwise_lt_range);intro a a' hlt b hb b' hb';cases ho:o.getD a none with
  |none=>rw[ho]at hb;cases hb
  |some x=>
   cases ho':o.getD a' none with
   |none=>rw[ho']at hb';cases hb'
   |some x'=>
    rw[ho]at hb;rw[ho']at hb';cases hb;cases hb';exact hlt
 simp only [dL,aO];have:=LE o.toList 0;rw[cO,h2,<- wY]at this;simp only [Nat.sub_zero,kQ]at this;have l:=bS List.length this;rw[aO]at l;simp only [xF];rw[l];have:=h3.length_eq;rw[iU]at this;exact this
def XQ(n:Nat):∀fuel k,∃a,SetTable.sizeAbove.go n fuel (2^k)=2^a/\(n<2^k*2^fuel->n<2^a)
 |0,k=>⟨k,Z,by simp⟩
 |fuel+1,k=>by
  unfold SetTable.sizeAbove.go;split;·obtain⟨a,b,c⟩:=XQ n fuel (k+1);refine⟨a,by rw[<- pN];exact b,λh=>c ?_⟩;rw[pN]at h;rw[pN,Nat.mul_assoc,Nat.mul_comm 2];exact h
  exact⟨k,Z,λ_=>by lia⟩
def XR(n:Nat)(c:n<2^60):∃k,SetTable.sizeAbove n=2^k/\n<SetTable.sizeAbove n:=by obtain⟨k,a,b⟩:=XQ n 64 3;refine⟨k,a,?_⟩;rw[show SetTable.sizeAbove n=2^k from a];exact b (by lia)
def XS(n:Nat):∀fuel s,s<=SetTable.sizeAbove.go n fuel s
 |0,s=>aK s
 |fuel+1,s=>by
  unfold SetTable.sizeAbove.go;split;·exact aZ (by lia) (XS n fuel (s*2))
  exact aK s
def Ui(n:Nat):8<=SetTable.sizeAbove n:=XS n 64 8
def XT{l:List Nat}(h:l.Pairwise (· < ·)){i j a b:Nat}(hi:l[i]? =some a)(c:l[j]? =some b)(f:i<=j):a<=b:=by
 rcases xE i j with hlt|hge;·obtain⟨d,rfl⟩:=al_19.mp hi;obtain⟨e,rfl⟩:=al_19.mp c;exact pL (al_177.mp h i j d e hlt)
 have:i=j:=by lia
 subst this;rw[hi]at c;cases c;exact aK _
def XU(xs:Array Nat)(j fuel lo hi:Nat):SetTable.below.go xs j (fuel+1) lo hi=if lo<hi then(if xs.getD ((lo+hi)/2) j<j then SetTable.below.go xs j fuel ((lo+hi)/2+1) hi else SetTable.below.go xs j fuel lo ((lo+hi)/2))else lo:=rfl
def LG(h:xs.toList.Pairwise (· < ·))(j:Nat):∀fuel lo hi,lo<=hi->hi<=xs.size->hi-lo<=fuel->(∀i a,i<lo->xs.toList[i]? =some a->a<j)->(∀i a,hi<=i->xs.toList[i]? =some a->j<=a)->
  (∀i a,i<SetTable.below.go xs j fuel lo hi->xs.toList[i]? =some a->a<j)/\(∀i a,SetTable.below.go xs j fuel lo hi<=i->xs.toList[i]? =some a->j<=a)
 |0,lo,hi,h1,_,h3,h4,h5=>by
  have:lo=hi:=by lia
  subst this;exact⟨h4,h5⟩
 |fuel+1,lo,hi,h1,h2,h3,h4,h5=>by
  rw[XU];by_cases c:lo<hi
  ·rw[aB c];have k:(lo+hi)/2<xs.size:=by lia
   have f:xs.toList[(lo+hi)/2]? =some (xs.getD ((lo+hi)/2) j):=by
    rw[kQ,xF,Array.getElem?_eq_getElem k];rfl
   by_cases d:xs.getD ((lo+hi)/2) j<j;·rw[aB d];refine LG h j fuel ((lo+hi)/2+1) hi (by lia) h2 (by clear h4 h5;lia) (λi a b e=> ?_) h5;exact dG (XT h e f (by lia)) d
   rw[aA d];refine LG h j fuel lo ((lo+hi)/2) (by lia) (by lia) (by clear h4 h5;lia) h4 λi a b e=> ?_;exact aZ (Nat.not_lt.mp d) (XT h f e b)
  rw[aA c];have:lo=hi:=by lia
  subst this;exact⟨h4,h5⟩
def ED(h:xs.toList.Pairwise (· < ·))(j:Nat):(∀i a,i<SetTable.below xs j->xs.toList[i]? =some a->a<j)/\(∀i a,SetTable.below xs j<=i->xs.toList[i]? =some a->j<=a):=
 LG h j xs.size 0 xs.size (bH _) (aK _) (by lia) (λi a hi _=>absurd hi (uW _)) λi a hi b=>by
  have:=(al_19.mp b).1;rw[cO]at this;lia
def LH(j:Nat):∀fuel lo hi,lo<=hi->SetTable.below.go xs j fuel lo hi<=hi
 |0,_,_,h=>h
 |fuel+1,lo,hi,h=>by
  rw[XU];by_cases a:lo<hi
  ·rw[aB a];by_cases b:xs.getD ((lo+hi)/2) j<j;·rw[aB b];exact LH j fuel _ _ (by lia)
   rw[aA b];exact aZ (LH j fuel _ _ (by lia)) (by lia)
  rw[aA a];exact h
def XV(xs:Array Nat)(j:Nat):SetTable.below xs j<=xs.size:=LH j _ _ _ (bH _)
def Uj(h:xs.toList.Pairwise (· < ·))(hi:xs.toList[i]? =some j):SetTable.below xs j=i:=by
 obtain⟨c,d⟩:=ED h j;rcases Nat.lt_trichotomy i (SetTable.below xs j)with hlt|he|hgt
 ·exact absurd (c i j hlt hi) (mF _)
 ·exact he.symm
 obtain⟨a,_⟩:=al_19.mp hi;have b:SetTable.below xs j<xs.toList.length:=Nat.lt_trans hgt a;have:=d _ _ (aK _) (cM b);have e:=al_177.mp h _ _ b a hgt;have f:xs.toList[i]=j:=by have:=cM a;rw[hi]at this;exact(cV this).symm
 lia
def Uk(h:xs.toList.Pairwise (· < ·))(hi:xs.toList[i]? =some j):SetTable.below xs (j+1)=i+1:=by
 obtain⟨a,b⟩:=ED h (j+1);rcases Nat.lt_trichotomy (i+1) (SetTable.below xs (j+1))with hlt|he|hgt
 ·obtain⟨c,e⟩:=al_19.mp hi;rcases xE (i+1) xs.toList.length with hk|hk
  ·have:=a _ _ hlt (cM hk);have d:=al_177.mp h _ _ c hk (hU _);lia
  exfalso;have f:SetTable.below xs (j+1)<=xs.size:=XV _ _;rw[cO]at hk;lia
 ·exact he.symm
 have:=b i j (by lia) hi;lia
def Ul(h:xs.toList.Pairwise (· < ·))(o:j∉xs.toList):(SetTable.insertAt xs (SetTable.below xs j) j).toList.Pairwise (· < ·):=by
 rw[SetTable.toList_insertAt];obtain⟨l,m⟩:=ED h j;have e:=List.take_append_drop (SetTable.below xs j) xs.toList;rw[<- e]at h;rw[List.pairwise_append]at h ⊢;obtain⟨a,b,c⟩:=h;have r:∀x∈xs.toList.take (SetTable.below xs j),x<j:=by
  intro x d;obtain⟨i,hi⟩:=nO d;have f:i<SetTable.below xs j:=by
   have:=(al_19.mp hi).1;rw[iH]at this;lia
  rw[AD f]at hi;exact l i x f hi
 have n:∀x∈xs.toList.drop (SetTable.below xs j),j<x:=by
  intro x d;obtain⟨i,hi⟩:=nO d;rw[List.getElem?_drop]at hi;have p:=m _ x (Nat.le_add_right _ _) hi;have:x≠j:=λq=>o (q▸fM hi)
  lia
 refine⟨a,al_174.mpr ⟨n,b⟩,λx d y k=> ?_⟩;rcases al_18.mp k with rfl|k
 ·exact r x d
 exact c x d y k
def Um{t:SetTable}(h:t.place.toList.Pairwise (· < ·))(a:j∈t.place.toList):∃i,t.slot j= .live i:=by
 obtain⟨i,hi⟩:=nO a;refine⟨i,?_⟩;unfold SetTable.slot;rw[Uj h hi];have:(t.place[i]? ==some j)=true:=by rw[<- kQ,hi];simp
 simp only [this,if_true]
def LI(h:t.place.toList.Pairwise (· < ·)):∀(fuel:Nat) (p:SetTable.Probe),(∀d,p.dummy=some d->d∉t.place.toList)->∀{j:Nat} {l:Option Nat},SetTable.probe.go t f m fuel p=some (.empty j l)->j∉t.place.toList/\∀d,l=some d->d∉t.place.toList
 |0,_,_,_,_,e=>by cases e
 |fuel+1,p,hd,j,l,e=>by
  have live:∀{k:Nat},(∀i,t.slot k≠ .live i)->k∉t.place.toList:=λn o=>by obtain⟨i,hi⟩:=Um h o;exact n i hi
  have a:∀q:SetTable.Probe,(t.advance q).dummy=q.dummy:=by
   intro q;unfold SetTable.advance;split<;>rfl
  unfold SetTable.probe.go at e;cases c:t.slot p.j with
  |empty=>
   rw[c]at e;cases e;exact⟨live λi hi=>(by rw[c]at hi;cases hi),hd⟩
  |dummy=>
   rw[c]at e;refine LI h fuel _ (λd b=> ?_) e;rw[a]at b;cases b;exact live λi hi=>by rw[c]at hi;cases hi
  |live i=>
   rw[c]at e;dsimp only at e;split at e;·cases e
   exact LI h fuel _ (λd b=>hd d (by rw[a]at b;exact b)) e
def Uo{t:SetTable}(h:t.place.toList.Pairwise (· < ·))(e:t.freeSlot k=some (s,b)):s∉t.place.toList:=by
 unfold SetTable.freeSlot at e;split at e;·rename_i j a l;cases e;obtain⟨c,f⟩:=LI h _ _ (λd i=>by cases i) l;cases a with|none=>exact c|some d=>exact f d rfl
 cases e
def LJ{b:Array (Int×Value)}{a:Array Nat}(h:a.toList.Perm (List.range b.size)):(a.filterMap (b[·]?)).toList.Perm b.toList:=by rw[Array.toList_filterMap];exact(h.filterMap _).trans (by rw[filterMap_getElem?_range])
section
abbrev mD(t:SetTable)(f:Nat->Int)(hh:Int):=SetTable.probe.go t f hh
def LK(b:∀i,(f i==hh)=false)(e:mD t f hh (fuel+1) p=none):t.slot p.j≠ .empty/\∃q:SetTable.Probe,mD t f hh fuel (t.advance q)=none/\q.j=p.j/\q.more=p.more/\q.i=p.i/\q.perturb=p.perturb:=by
 unfold mD SetTable.probe.go at e;cases a:t.slot p.j with
 |empty=>rw[a]at e;cases e
 |dummy=>rw[a]at e;exact⟨(nomatch ·),_,e,Z,Z,Z,Z⟩
 |live i=>
  rw[a]at e;simp only [b,sS,oJ]at e;exact⟨(nomatch ·),_,e,Z,Z,Z,Z⟩
def LL:∀(fuel k:Nat) (p:SetTable.Probe),mD t f hh (fuel+k) p=none->mD t f hh fuel p=none
 |0,_,_,_=>rfl
 |fuel+1,k,p,e=>by
  rw[Nat.succ_add]at e;unfold mD SetTable.probe.go at e ⊢;split at e;·cases e
  ·exact LL fuel k _ e
  split at e;·cases e
  rename_i a;rw[aA a];exact LL fuel k _ e
def XW(c:∀i,(f i==hh)=false):∀(m:Nat) (p:SetTable.Probe),p.more=m->mD t f hh (fuel+(m+1)) p=none->
  ∃q:SetTable.Probe,mD t f hh fuel q=none/\q.j=q.i/\q.more=SetTable.runEnd t.mask q.i-q.i/\q.i=(p.i*5+1+p.perturb/32)%(t.mask+1)/\q.perturb=p.perturb/32
 |0,p,hm,e=>by obtain⟨_,q,e,o,s,b,a⟩:=LK c e;refine⟨_,e,?_⟩;unfold SetTable.advance;rw[aA (by lia)];unfold SetTable.leap;rw[b,a];exact⟨Z,Z,Z,Z⟩
 |m+1,p,hm,e=>by
  obtain⟨_,q,e,o,s,b,a⟩:=LK c e;have u:t.advance q={q with j:=q.j+1,more:=q.more-1}:=by unfold SetTable.advance;rw[aB (by lia)]
  rw[u]at e;obtain⟨r,d,h,k,l,n⟩:=XW c m _ (by show q.more-1=m;lia) e;refine⟨r,d,h,k,?_,?_⟩;·rw[l];show(q.i*5+1+q.perturb/32)%(t.mask+1)=_;rw[b,a]
  rw[n];show q.perturb/32=_;rw[a]
def XX(a i:Nat):SetTable.runEnd a i-i<=9:=by
 unfold SetTable.runEnd;split<;>lia
def XY(k:∀i,(f i==hh)=false)(p:SetTable.Probe)(l:p.more<=9)(e:mD t f hh (fuel+10) p=none):
  ∃q:SetTable.Probe,mD t f hh fuel q=none/\q.j=q.i/\q.more<=9/\q.i=(p.i*5+1+p.perturb/32)%(t.mask+1)/\q.perturb=p.perturb/32:=by
 obtain⟨q,a,b,c,d,h⟩:=XW (fuel:=fuel) k p.more p rfl (LL _ (9-p.more) p (by rw[show fuel+(p.more+1)+(9-p.more)=fuel+10 from by lia];exact e));exact⟨q,a,b,by rw[c];exact XX _ _,d,h⟩
def XZ(b:t.mask+1=2^k)(a:∀i,(f i==hh)=false):∀(d:Nat) (p:SetTable.Probe),p.perturb<32^d->p.i<2^k->p.j=p.i->p.more<=9->mD t f hh (fuel+10*d) p=none->
  ∃q:SetTable.Probe,mD t f hh fuel q=none/\q.j=q.i/\q.more<=9/\q.i<2^k/\q.perturb=0
 |0,p,hp,hi,hj,h9,e=>⟨p,e,hj,h9,hi,by simpa using hp⟩
 |d+1,p,hp,hi,hj,h9,e=>by
  obtain⟨q,c,h,l,m,n⟩:=XY (fuel:=fuel+10*d) a p h9 e;refine XZ b a d q ?_ ?_ h l c;·rw[n];rw[pN]at hp;lia
  rw[m,<- b];exact sV _ (by lia)
def YA(c:t.mask+1=2^k)(b:∀i,(f i==hh)=false):∀(F:Nat) (p:SetTable.Probe),p.perturb=0->p.i<2^k->p.j=p.i->p.more<=9->mD t f hh (10*F) p=none->
  ∀n,n<F->t.slot (lc n p.i%2^k)≠ .empty
 |0,_,_,_,_,_,_,n,hn=>by lia
 |F+1,p,hp,hi,hj,h9,e,n,hn=>by
  cases n with
  |zero=>
   rw[show lc 0 p.i=p.i from rfl,AJ hi,<- hj];exact(LK b (fuel:=10*F+9) e).1
  |succ n=>
   obtain⟨q,d,h,l,m,o⟩:=XY (fuel:=10*F) b p h9 e;have a:q.i=(5*p.i+1)%2^k:=by
    rw[m,hp,<- c];congr 1;lia
   have:=YA c b F q (by rw[o,hp]) (by rw[a];exact sV _ (by lia)) h l d n (by lia);rw[a,EC]at this;exact this
end
def YB:∀(m:Nat) (l:List Nat),(∀j,j<m->j∈l)->m<=l.length
 |0,_,_=>bH _
 |m+1,l,h=>by
  have b:=YB m (l.filter (· !=m)) λj e=>by rw[al_142];exact⟨h j (by lia),by simp;lia⟩
  have c:(l.filter (· !=m)).length<l.length:=by refine rB λd=> ?_;have a:(l.filter (· !=m)).length=l.length:=Nat.le_antisymm (AO _ l) (by lia);have:=List.length_filter_eq_length_iff.mp a m (h m (by lia));simp at this
  lia
def LM(a:∀i,(f i==b)=false):∀(fuel:Nat) (p:SetTable.Probe) {j i:Nat} {c:SetTable.Probe},SetTable.probe.go t f b fuel p=some (.candidate j i c)->False
 |0,_,_,_,_,e=>by cases e
 |fuel+1,p,j,i,c,e=>by
  unfold SetTable.probe.go at e;split at e;·cases e
  ·exact LM a fuel _ e
  simp only [a,sS,oJ]at e;exact LM a fuel _ e
def YC(c:t.dummies= #[]):∀(fuel:Nat) (p:SetTable.Probe),(p.dummy=none)->∀{j d:Nat},SetTable.probe.go t f k fuel p=some (.empty j (some d))->False
 |0,_,_,_,_,e=>by cases e
 |fuel+1,p,hp,j,d,e=>by
  have b:∀q:SetTable.Probe,(t.advance q).dummy=q.dummy:=by
   intro q;unfold SetTable.advance;split<;>rfl
  unfold SetTable.probe.go at e;cases a:t.slot p.j with
  |empty=>
   rw[a]at e;simp only [Option.some.injEq,SetTable.Met.empty.injEq]at e;rw[hp]at e;cases e.2
  |dummy=>
   exfalso;unfold SetTable.slot at a;have h:SetTable.has t.dummies p.j=false:=by rw[c];rfl
   simp only [h,sS,oJ]at a;split at a<;>cases a
  |live i=>
   rw[a]at e;dsimp only at e;split at e;·cases e
   exact YC c fuel _ (by rw[b];exact hp) e
structure TabOk(b:Bool)(t:SetTable)(n:Nat):Prop where
 pow:∃k,t.mask+1=2^k
 dum:t.dummies= #[]
 rise:t.place.toList.Pairwise (· < ·)
 size:t.place.size=n
 room:n*5<t.mask*3
 plain:t.plain=true
 led:t.led= !b
section
variable{b:Bool}{t:SetTable}{n:Nat}
def TabOk.fill(h:TabOk b t n):t.fill=n:=by
 unfold SetTable.fill;rw[h.size,h.dum];rfl
def TabOk.fits(h:TabOk b t n):t.fits n=true:=by
 unfold SetTable.fits;rw[h.fill,h.size];have:=h.room;simp;lia
def Up(d:t.dummies= #[])(e:j∉t.place.toList):t.slot j= .empty:=by
 unfold SetTable.slot;have a:(t.place[SetTable.below t.place j]? ==some j)=false:=by refine al_12.mpr λc=>e ?_;have:=sP c;rw[<- kQ]at this;exact fM this
 have b:SetTable.has t.dummies j=false:=by rw[d];rfl
 simp [a,b]
def TabOk.free(h:TabOk b t n)(a:Int):∃s,t.freeSlot a=some (s,false):=by
 obtain⟨k,o⟩:=h.pow;obtain⟨e,C,r⟩:∃e,e<t.mask+1/\e∉t.place.toList:=by
  refine rB λc=> ?_;have:=YB (t.mask+1) t.place.toList λj A=>rB λr=>c ⟨j,A,r⟩;rw[cO,h.size]at this;have:=h.room
  lia
 have u:=Up h.dum r;have f:∀i:Nat,(((λ_=>a+1):Nat->Int) i==a)=false:=λi=>by
  refine al_12.mpr λc=> ?_;have:=sP c;simp at this
  lia
 unfold SetTable.freeSlot SetTable.probe;cases l:SetTable.probe.go t (λ_=>a+1) a (10*SetTable.turns t.mask) (t.probeStart a)with
 |none=>
  exfalso;obtain⟨q,v,w,x,y,z⟩:=XZ (fuel:=10 * (t.mask+2)) o f 13 (t.probeStart a) (by
   show SetTable.bits a<32^13;have:=XM a;lia) (by rw[<- o];exact sV _ (by lia)) rfl (XX _ _) (by
   rw[show 10*(t.mask+2)+10*13=10*SetTable.turns t.mask from by unfold SetTable.turns;lia];exact l)
  obtain⟨m,B,p⟩:=XF k q.i e (by lia);have:=YA o f (t.mask+2) q z y w x v m (by lia);rw[p]at this;exact this u
 |some met=>
  cases met with
  |empty j dm=>
   cases dm with
   |none=>exact⟨j,Z⟩
   |some d=>
    exfalso;exact YC h.dum _ _ rfl l
  |candidate j i nx=>
   exfalso;exact LM f _ _ l
end
section
variable{b:Bool}{t:SetTable}
def Uq(b:Bool):TabOk b (.fresh 0 0 (!b)) 0:=⟨⟨3,Z⟩,Z,AL,Z,by show 0*5<7*3;decide,Z,Z⟩
def YD(e:a+1=2^k)(d:Array Int)(l:d.size=n)(m:n*5<a*3):
  ∃t c,SetTable.laid a finger moves (!b) true d=some (t,c)/\c.toList.Perm (List.range n)/\TabOk b t n:=by
 subst l;obtain⟨pl,c,f,h,i,j⟩:=Uh e finger moves (!b) true d (by lia);exact⟨_,_,f,h,⟨k,e⟩,Z,i,j,m,Z,Z⟩
def YE(e:t.plain=true)(f:t.led= !b)(c:Array Int)(j:c.size=n)(d:n*5<wanted*3\/n=0)(h:wanted<2^60):
  ∃t' a,t.relaid c wanted=some (t',a)/\a.toList.Perm (List.range n)/\TabOk b t' n:=by
 obtain⟨k,l,i⟩:=XR wanted h;unfold SetTable.relaid;rw[e,f];refine YD (k:=k) (by lia) c j ?_;rcases d with d|rfl
 ·lia
 have:8<=SetTable.sizeAbove wanted:=Ui wanted;lia
def Ur(j:t.plain=true)(k:t.led= !b)(o:a.size*5<wanted*3)(l:wanted<2^60):
  ∃c i,relayAll t a wanted=(c,i,false)/\c.toList.Perm a.toList/\TabOk b i c.size:=by
 obtain⟨t',f,e,h,ok⟩:=YE (b:=b) j k (n:=a.size) (a.map (·.1)) (by simp) (.inl o) l;have d:=LJ h;have hsz:(f.filterMap (a[·]?)).size=a.size:=by rw[<- cO,d.length_eq,cO]
 have m:coversAll f a.size=true:=List.isPerm_iff.mpr h;refine⟨_,t',?_,d,by rw[hsz];exact ok⟩;unfold relayAll;rw[e];dsimp only;rw[m,hsz,ok.fits];rfl
def Us(h:TabOk b t c.size)(y:c.size<=10000)(l:Int)(x:Value):
  ∃a k,layNew t c l x=(a,k,false,false)/\a.toList.Perm (c.toList++[(l,x)])/\k.plain=true/\k.fits a.size=true/\
   (k.tooFull=false->TabOk b k a.size)/\(k.tooFull=true->∃f r,relayAll k a (SetTable.grown a.size)=(f,r,false)/\f.toList.Perm a.toList/\TabOk b r f.size):=by
 obtain⟨s,q⟩:=h.free l;have w:=Ul h.rise (Uo h.rise q);have u:SetTable.has t.dummies s=false:=by rw[h.dum];rfl
 have i:=SetTable.insertAt_perm c (SetTable.below t.place s) (l,x);have m:=SetTable.insertAt_perm t.place (SetTable.below t.place s) s;rw[Array.toList_push]at i m;have hz:(SetTable.insertAt c (SetTable.below t.place s) (l,x)).size=c.size+1:=by rw[<- cO,i.length_eq,bF,cO];rfl
 have j:(SetTable.insertAt t.place (SetTable.below t.place s) s).size=c.size+1:=by rw[<- cO,m.length_eq,bF,cO,h.size];rfl
 have n:t.put s=({t with place:=SetTable.insertAt t.place (SetTable.below t.place s) s},SetTable.below t.place s):=by
  unfold SetTable.put;rw[u];rfl
 have p:=h.room;have d:({t with place:=SetTable.insertAt t.place (SetTable.below t.place s) s}:SetTable).fill=c.size+1:=by
  unfold SetTable.fill;rw[j,h.dum];rfl
 have e:({t with place:=SetTable.insertAt t.place (SetTable.below t.place s) s}:SetTable).fits (c.size+1)=true:=by
  unfold SetTable.fits;rw[d,j];simp;lia
 refine⟨_,{t with place:=SetTable.insertAt t.place (SetTable.below t.place s) s},?_,i,h.plain,by rw[hz];exact e,λo=> ?_,λo=> ?_⟩
 ·unfold layNew;rw[q];dsimp only;rw[n];dsimp only;rw[hz];unfold SetTable.orStandIn;rw[e];rfl
 ·refine⟨h.pow,h.dum,w,by rw[hz];exact j,?_,h.plain,h.led⟩;unfold SetTable.tooFull at o;rw[d]at o;rw[hz]
  simpa using o
 have v:SetTable.grown (SetTable.insertAt c (SetTable.below t.place s) (l,x)).size=(c.size+1)*4:=by rw[hz];unfold SetTable.grown;rw[aA (by lia)]
 rw[v];exact Ur (b:=b) h.plain h.led (by rw[hz];lia) (by lia)
end
end Sg
namespace Sg
open PySem PyProof.Rows
def dF(w:World):Bool:=w.params.followText "set-order"
def sE:Value->Int
 | .int i _=>i
 |_=>0
def EsOk(a:List (Int×Value)):Prop:=∀e∈a,∃i t,e=(hashInt i,Value.int i t)
def fS(b:Array (Int×Value))(a:Nat)(t:SetTable):Obj:={cls:= .type "set",dict:=none,data:= .set b a t,slots:= #[]}
def SetG(w:World)(h:Heap)(a:Addr)(ns:List Int):Prop:=ns.Nodup/\∃b c t,h.get? a=some (fS b c t)/\EsOk b.toList/\(b.toList.map λe=>sE e.2).Perm ns/\TabOk (dF w) t b.size
def EsOk.elems(h:EsOk a):ElemsOf (intKind prog w) a:=λe b=>by obtain⟨i,t,rfl⟩:=h e b;exact⟨⟨i,intKind_is _ _ _ _,Z⟩,Z⟩
def EsOk.perm(h:EsOk a)(p:es'.Perm a):EsOk es':=λe b=>h e (p.mem_iff.mp b)
def EsOk.push(h:EsOk b)(i:Int)(t:Tok):EsOk (b++[(hashInt i,.int i t)]):=λe a=>by
 rcases al_51.mp a with a|a;·exact h e a
 exact⟨i,t,al_56.mp a⟩
def EsOk.idx(h:EsOk b)(i:Int):b.findIdx? (λe=>(intKind prog w).is i e.2)=none↔i∉b.map λe=>sE e.2:=by
 rw[List.findIdx?_eq_none_iff];constructor;·intro c f;obtain⟨e,a,hi⟩:=al_67.mp f;obtain⟨j,t,rfl⟩:=h e a;cases(show j=i from hi);have:=c _ a;rw[intKind_is]at this;cases this
 intro c e a;obtain⟨j,t,rfl⟩:=h e a;refine al_12.mpr λd=>c ?_;have:i=j:=(intKind prog w).inj _ _ _ d (intKind_is _ _ _ _);subst this;exact al_67.mpr ⟨_,a,Z⟩
section
variable{prog:Program}{w:World}{A:Around}{E:Value->Shared->Prop}{s:Shared}
def SetG.lt(x:SetG w h a ns):a<h.objs.size:=by obtain⟨_,c,b,t,e,_⟩:=x;exact cP e
def SetG.at(x:SetG w h a ns)(k:∀o,h.get? a=some o->h'.get? a=some o):SetG w h' a ns:=by obtain⟨d,c,b,t,e,r⟩:=x;exact⟨d,c,b,t,k _ e,r⟩
def YF{a:Addr}{ns:List Int}{i:Int}{tk:Tok}{Q:Bool->Shared->Prop}(U:SetG w s.heap a ns)(hb:ns.length<=4000)
  (h:∀(b:Bool) (h':Heap),Heap.SameBut a s.heap h'->SetG w h' a (if i∈ns then ns else i::ns)->Q b {s with heap:=h'}):
  wpAny (model prog w) A (setAddHashed a (.int i tk) (hashInt i)) Q E s:=by
 obtain⟨u,r,B,t,v,f,l,ok⟩:=U;have hsz:r.size=ns.length:=by rw[<- l.length_eq,aO,cO]
 have C:r.size<scanBound:=by rw[hsz];unfold scanBound;lia
 unfold setAddHashed setAddHashedIn;refine sN (aJ (nP v Z ok.fits ?_));dsimp only;rw[byScan_of (x:= .int i tk) rfl C (f.elems (prog:=prog) (w:=w))];simp only [↓reduceIte];unfold setAddByScan;refine aJ ?_;refine aJ (wpAny_rule ?_);refine aJ (wpAny_setScan_of (knd:=intKind prog w) (k:=i) (intKind_is _ _ _ _) v Z ok.fits f.elems ?_);cases O:List.findIdx? (λe=>(intKind prog w).is i e.2) r.toList with
 |some j=>
  dsimp only;have d:i∈ns:=by refine rB λW=> ?_;have:=(f.idx (prog:=prog) (w:=w) i).mpr λD=>W (l.mem_iff.mp D);rw[O]at this;cases this
  refine aW (aW ?_);have:=h false s.heap (Heap.SameBut.refl a s.heap) (by rw[aB d];exact⟨u,r,B,t,v,f,l,ok⟩);exact this
 |none=>
  dsimp only;have d:i∉ns:=λD=>(f.idx (prog:=prog) (w:=w) i).mp O (l.mem_iff.mpr D);rw[aA d]at h;obtain⟨c,z,P,J,L,Y,I,q⟩:=Us ok (by lia) (hashInt i) (.int i tk);have H:c.size=r.size+1:=by rw[<- cO,J.length_eq,bF,cO];rfl
  have n:EsOk c.toList:=(f.push i tk).perm J;have p:(c.toList.map λe=>sE e.2).Perm (i::ns):=by refine(J.map _).trans ?_;rw[dN];exact(FY _ _).trans (l.cons i)
  have o:(i::ns).Nodup:=al_83.mpr ⟨d,u⟩;rw[P];dsimp only;refine aJ (aW ?_);rw[L];simp only [↓reduceIte];rw[hashByValue_scannable 8 (x:= .int i tk) rfl];refine aJ (aW ?_);simp only [plainKind,↓reduceIte];have F:=qW (Obj.putSet c z) v rfl;refine aJ (xG (es':=c) (t':=z) v Z ?_ (pP (by unfold scanBound;lia)));have y:=rD s.heap a (Obj.putSet c z);cases N:z.tooFull with
  |false=>
   simp only [Bool.not_false,nJ,sS,↓reduceIte];exact aW (aW (h true _ y ⟨o,c,B+1,z,F,n,p,I N⟩))
  |true=>
   simp only [Bool.not_false,nM,↓reduceIte];obtain⟨m,M,T,K,q⟩:=q N;rw[T];dsimp only;refine aJ (aW ?_);have X:m.size=r.size+1:=by rw[<- cO,K.length_eq,cO,H]
   have G:=qW (Obj.putSet m M) F rfl;refine aJ (xG (es':=m) (t':=M) F Z ?_ (pP (by unfold scanBound;lia)));exact aW (aW (h true _ (y.trans (rD _ a _)) ⟨o,m,B+1+1,M,G,n.perm K,(K.map _).trans p,q⟩))
def SetG.perm(x:SetG w h a ns)(p:ns.Perm b):SetG w h a b:=by obtain⟨f,d,c,t,e,i,j,k⟩:=x;exact⟨p.nodup_iff.mp f,d,c,t,e,i,j.trans p,k⟩
def YG{h:Heap}{a:Addr}(e:h.get? a=some (fS #[] 0 (.fresh 0 0 (!dF w)))):SetG w h a []:=
 ⟨List.nodup_nil,#[],0,_,e,(λe b=>by cases b),List.Perm.nil,Uq _⟩
def Ut{R:Result->Shared->Prop}{I:Addr}{U E:List Addr}{G:Array GenState->Array GenState->Prop}{n:Nat}{P:Nat->Value->Prop}{St:Nat->Shared->Prop}
  (W:WalksS prog w A.in1 I U E G n P St) (S:Addr) (r:S∉U) {ns:List Int} (hn:ns.length=n) (Q:ns.Nodup) (D:∀i v,P i v->∃z t,v= .int z t/\ns[i]? =some z) (l:n<=3000):
  ∀(k i:Nat) (s:Shared),n-i=k->i<=n->St i s->SetG w s.heap S (ns.take i)->
   (∀a,Moved (S::E) G s a->SetG w a.heap S ns->R (.ok (.ret .none)) a)->
   codeAny (model prog w) A (.builtin "set.update.loop" ⟨[.ref S,.ref I],[]⟩) R s:=by
 have u:S∉E:=λh=>r (W.sub _ h);have c:∀b∈E,b∈S::E:=λb l=>cA _ l;intro k
 induction k with
 |zero=>
  intro i s hk hi f H J;cases (show i=n by lia);refine uY F.entry_set_update_loop (by
   rw[xH FZ _];refine aJ (m:=pyNext (.ref I)) (W.done s _ _ f λa d=>aW (J a (d.mono c) ?_));rw[<- hn,gN]at H;exact H.at λo e=>d.heap S _ u e)
 |succ k ih=>
  intro i s hk hi f H J;have x:i<n:=by lia
  refine uY F.entry_set_update_loop (by
   rw[xH FZ _];refine aJ (m:=pyNext (.ref I)) (W.item i s _ _ x f λv a hP C d=> ?_);obtain⟨z,t,rfl,hz⟩:=D i v hP;have K:SetG w a.heap S (ns.take i):=H.at λo e=>d.heap S _ u e;refine aJ (m:=holding [Value.int z t] (setAdd S (.int z t))) (sN ?_);unfold setAdd;refine sN (aJ ((intKind prog w).pyHash (k:=z) (intKind_is _ _ _ _) ?_));refine YF (s:={a with toks:=a.toks+1}) K (by rw[iH];lia) λ_ h' B q=> ?_;have M:z∉ns.take i:=λd=>by
    obtain⟨j,N⟩:=nO d;have O:j<i:=by
     have:=(al_19.mp N).1;rw[iH]at this;lia
    rw[AD O]at N;obtain⟨h1,X⟩:=al_19.mp N;obtain⟨h2,Y⟩:=al_19.mp hz;have:=List.getElem_inj (h₀:=h1) (h₁:=h2) Q|>.mp (X.trans Y.symm);lia
   rw[aA M] at q;have L:SetG w h' S (ns.take (i+1)):=q.perm (by
    rw[List.take_add_one,hz];exact(FY z _).symm)
   refine aW ⟨plainId_quiet FZ _,ih (i+1) _ (by lia) x (W.frame _ a _ _ C (Nat.le_succ _) λb l o e=> ?_) L λT y p=> ?_⟩;·exact(B.2 b (λh=>r (h▸l))).trans e
   exact J T (Moved.trans W.gtrans ((d.mono c).then_heap (Nat.le_succ _) λb o l e=>(B.2 b (λh=>l (h▸cF))).trans e) y) p)
def Uu(a:Value)(h:Q₁ (.ref s.heap.objs.size) {s with heap:=s.heap.push (fS #[] 0 (.fresh 0 0 (!dF w)))}):
  codeAny (model prog w) A (.call (.builtin "set.__new__") ⟨[.type "set",a],[]⟩) (wants Q₁ E) s:=by
 refine codeAny_of_tree (aJ (m:=checkBuiltinCall "set.__new__" ⟨[.type "set",a],[]⟩) (oR (F.newCall_set_1 a) (aW ⟨plainId_quiet F.plain_set_new _,uY F.entry_set_new ?_⟩)));rw[xH F.plain_set_new _];unfold Builtin.«set.__new__» Builtin.Frozenset.newClass;have b:=sub_set_self;obtain⟨c,g,d,tk,e⟩:=s;dsimp only at h ⊢
 wp_walk
 refine pQ (aW ?_);dsimp only [newObj];exact aJ (wpAny_alloc (aW (aW h)))
set_option maxHeartbeats 4000000 in
def Uv{a:Array Value}{ns:List Int}{Q:Value->Shared->Prop}(hh:A.handled=none)(hl:s.heap.IsList l a)(hi:IntsAre a.toList ns)(O:ns.Nodup)(J:a.size<=3000)
  (h:∀(h':Heap) (tk:Nat),SetG w h' s.heap.objs.size ns->(∀b o,s.heap.get? b=some o->h'.get? b=some o)->Q (.ref s.heap.objs.size) {s with heap:=h',toks:=tk}):
  wpAny (model prog w) A (call (.type "set") [.ref l]) Q E s:=by
 obtain⟨c,tl,Y⟩:=al_115.mro;have N:=al_115.made;have h4:=al_115.sub;refine wpAny_call (codeAny_of_tree (aW ⟨Code.quiet_builtin _ (by decide +kernel),uY F.entry_type_call ?_⟩));rw[Around.under_plain (weight_type_call_type "set" [.ref l] []) rfl];have h1:=al_115.notType;have h2:=al_115.canCreate;have h7:=F.typeCall_set_1 (.ref l)
 repeat (any_goals (first|assumption|wp_step))
 refine sL (Uu (.ref l) (E:=E) (Q₁:=λH k=>H= .ref s.heap.objs.size/\k={s with heap:=s.heap.push (fS #[] 0 (.fresh 0 0 (!dF w)))}) ⟨Z,Z⟩) λr k P=> ?_;cases r with
 |error e=>exact P
 |ok fl=>
  cases fl with
  |ret H=>
   obtain⟨rfl,rfl⟩:=P;have X:(s.heap.push (fS #[] 0 (.fresh 0 0 (!dF w)))).get? s.heap.objs.size=some (fS #[] 0 (.fresh 0 0 (!dF w))):=gB _ rfl;have hT:Shared.TypeIs {s with heap:=s.heap.push (fS #[] 0 (.fresh 0 0 (!dF w)))} (.ref s.heap.objs.size) "set":=⟨_,X,Z⟩;have h8:=al_115.init.lookup;have h6:=al_115.init.bind (.ref s.heap.objs.size)
   repeat (any_goals (first|assumption|wp_step))
   refine sL (codeAny_call_builtin (R:=wants (λr m=>r= .none/\∃h' tk,m={s with heap:=h',toks:=tk}/\SetG w h' s.heap.objs.size ns/\(∀b o,s.heap.get? b=some o->h'.get? b=some o)) E) al_115.init.plain F.entry_set_init (check_set_init_1 hT ?_)) λI m d=> ?_
   ·obtain⟨ol,D,u,nl,x⟩:=hl;obtain⟨h5,p,T,j⟩:=ol;simp only at u x;subst u;subst x;have G:(s.heap.push (fS #[] 0 (.fresh 0 0 (!dF w)))).get? l=some {cls:= .type "list",dict:=p,data:= .seq a nl,slots:=j}:=dZ _ D;have h3:=F.sub_list_set;have h0:=F.sub_list_frozenset;have h9:(Value.type "list"==Value.type "dict")=false:=by decide
    have y:(s.heap.push (fS #[] 0 (.fresh 0 0 (!dF w)))).IsList l a:=⟨_,G,Z,nl,Z⟩;unfold Builtin.«set.__init__» noKeywords Builtin.Frozenset.updateFrom;generalize K:pyIter=PI;unfold fS at *
    wp_walk
    subst K;refine wpAny_pyIter_list y (aJ (wpAny_runValue ?_));have B:l<s.heap.objs.size:=cP D;have C:l≠(s.heap.push (fS #[] 0 (.fresh 0 0 (!dF w)))).objs.size:=by rw[jX];exact fI (qX B)
    have L:s.heap.objs.size∉ [(s.heap.push (fS #[] 0 (.fresh 0 0 (!dF w)))).objs.size,l]:=by
     rw[jX];intro f;rcases al_18.mp f with e|f
     ·exact fI (hU _) e
     exact wT B (al_56.mp f)
    refine Ut ((Walks.list (by simp [hh]) _ l C a).toS) s.heap.objs.size L (ns:=ns) (by rw[<- hi.length,cO]) O
     (λi v hv=>by obtain⟨z,t,e1,e2⟩:=hi.at i v (by rw[kQ];exact hv);exact⟨z,t,e1,e2⟩) J (a.size-0) 0 _ (by lia) (bH _)
     ⟨⟨_,gB _ Z,Z,Z⟩,(y.push _)⟩ (YG (dZ _ X)) λs' f n=> ?_
    obtain⟨h',g',d',W,U⟩:=s';have eg:g'=s.gens:=f.gens;have ed:d'=s.drawn:=f.drawn;have eo:U=s.os:=f.os;subst eg;subst ed;subst eo;refine aW (aW ⟨Z,h',W,Z,n,λb o e=> ?_⟩);have J:=cP e;refine f.heap b o (λf=> ?_) (dZ _ (dZ _ e));rcases al_18.mp f with e|f
    ·exact fI J e
    have q:=al_56.mp f;rw[jX]at q;exact fI (qX J) q
   cases I with
   |error e=>exact d
   |ok fl₂=>
    cases fl₂ with
    |ret r=>
     obtain⟨rfl,h',tk,rfl,n,M⟩:=d
     repeat (any_goals (first|assumption|wp_step))
     exact h _ _ n M
    |_=>exact d.elim
  |_=>exact P.elim
end
def YH:∀{l:List α} {i:Nat} {x:α},l[i]? =some x->(x::l.eraseIdx i).Perm l
 |a::l,0,x,h=>by simp only [FW,Option.some.injEq]at h;subst h;exact .rfl
 |a::l,i+1,x,h=>by simp only [FX]at h;rw[List.eraseIdx_cons_succ];exact(List.Perm.swap _ _ _).trans ((YH h).cons a)
 | [],i,x,h=>by simp at h
def YI(a:Nat->Nat):∀(n k:Nat) (left:List α) (out:Array α),left.length=n->(pickOrder.go a n k left out).toList.Perm (out.toList++left)
 |0,k,left,out,h=>by cases lM h;simp [pickOrder.go]
 |n+1,k,left,out,h=>by unfold pickOrder.go;have b:a k%left.length<left.length:=sV _ (by lia);rw[cM b];have c:=YH (cM b);refine(YI a n (k+1) _ _ (by rw[List.length_eraseIdx_of_lt b];lia)).trans ?_;rw[Array.toList_push,dQ];exact c.append_left _
def YJ(a:Nat->Nat)(xs:Array α):(pickOrder a xs).toList.Perm xs.toList:=YI a xs.size 0 xs.toList #[] (by simp)
def YK(n:Nat):∀fuel s,SetTable.sizeAbove.go n fuel s<=max s (2*n)
 |0,s=>Nat.le_max_left _ _
 |fuel+1,s=>by
  unfold SetTable.sizeAbove.go;split;·exact aZ (YK n fuel (s*2)) (by lia)
  exact Nat.le_max_left _ _
def Uw(n:Nat):SetTable.sizeAbove n<=max 8 (2*n):=YK n 64 8
def Ux{t t':SetTable}(h:t.relaid c wanted=some (t',a)):t'.mask=SetTable.sizeAbove wanted-1:=by
 unfold SetTable.relaid SetTable.laid at h;cases b:SetTable.layClean (SetTable.sizeAbove wanted-1) c with
 |none=>rw[b]at h;cases h
 |some o=>
  rw[b]at h;cases h;rfl
def SetM(w:World)(h:Heap)(a:Addr)(ns:List Int)(k:Nat):Prop:=ns.Nodup/\∃b c t,h.get? a=some (fS b c t)/\EsOk b.toList/\(b.toList.map λe=>sE e.2).Perm ns/\TabOk (dF w) t b.size/\k<t.mask*3
section
variable{prog:Program}{w:World}{A:Around}{E:Value->Shared->Prop}{s:Shared}
def EE{a:Array (Int×Value)}{ns:List Int}(h:(a.toList.map λe=>sE e.2).Perm ns):a.size=ns.length:=by rw[<- h.length_eq,aO,cO]
def SetM.g(x:SetM w h a ns k):SetG w h a ns:=by obtain⟨d,c,b,t,e,f,i,j,_⟩:=x;exact⟨d,c,b,t,e,f,i,j⟩
def Uy(x:SetG w s.heap a ns)(D:ns.length+m<=4000)
  (h:∀h',Heap.SameBut a s.heap h'->SetM w h' a ns ((ns.length+m)*5)->Q () {s with heap:=h'}):wpAny (model prog w) A (setRoomFor a m) Q E s:=by
 obtain⟨l,c,u,t,o,j,i,ok⟩:=x;have hsz:=EE i;unfold setRoomFor;refine aJ (nP o Z ok.fits ?_);dsimp only;unfold SetTable.roomFor;rw[ok.fill,ok.size];by_cases v:(c.size+m)*5>=t.mask*3
 ·rw[aB v];dsimp only;unfold setRelay;refine aJ (nP o Z ok.fits ?_);dsimp only;have y:=Uw ((c.size+m)*2);rw[aA (by rw[sizeLine_eq];lia)];obtain⟨t',d,e,B,r⟩:=YE (t:=t) (b:=dF w) ok.plain ok.led (n:=c.size) (wanted:=(c.size+m)*2) (c.map (·.1)) (by simp) (by lia) (by lia);have f:=LJ B;have p:(d.filterMap (c[·]?)).size=c.size:=by rw[<- cO,f.length_eq,cO]
  have q:(c.size+m)*2<=t'.mask:=by
   obtain⟨k,F,z⟩:=XR ((c.size+m)*2) (by lia);have:=Ux e;lia
  rw[e];refine aJ (oR (show _=pure (d.filterMap (c[·]?),t')from ?_) ?_)
  ·show(if((d.filterMap (c[·]?)).size !=c.size)=true then _ else _)=_
   rw[aA (by rw[p];simp)]
  dsimp only;have C:=qW (Obj.putSet (d.filterMap (c[·]?)) t') o rfl;refine xG (es':=d.filterMap (c[·]?)) (t':=t') o rfl (h _ (rD _ _ _) ⟨l,_,u+1,t',C,j.perm f,(f.map _).trans i,by rw[p];exact r,?_⟩) (pP (by unfold scanBound;lia));have:=ok.room
  lia
 rw[aA v];exact aW (h s.heap (Heap.SameBut.refl _ _) ⟨l,c,u,t,o,j,i,ok,by lia⟩)
def Uz(i:s.heap.get? a=some (fS b e t))(ok:TabOk (dF w) t b.size)
  (h:∀W:Array (Int×Value),W.toList.Perm b.toList->Q W s):wpAny (model prog w) A (setWalk a) Q E s:=by
 unfold setWalk setsByText;refine aJ (nP i Z ok.fits (aJ (aJ (pQ (aW ?_)))));have d:=ok.led;have j:=ok.plain;unfold dF at d;refine kT (λ_=>aJ (pQ (aW (h _ (YJ _ _))))) λc=> ?_;have c:w.params.followText "set-order"=false:=al_12.mpr c;rw[c]at d;refine kT (λf=> ?_) λ_=> ?_
 ·exfalso;have:(!t.plain&&decide (b.size>1))=true:=f;rw[j]at this;cases this
 refine aJ (oR (show _=pure ()from ?_) (aW (h b .rfl)));show(if(!t.led&&decide (b.size>1))=true then _ else _)=_;rw[d];rfl
def Va(d:s.heap.get? a=some (fS b e t))(ok:TabOk (dF w) t b.size)
  (h:∀W:Array (Int×Value),W.toList.Perm b.toList->Q W s):wpAny (model prog w) A (setWalkUnseen a k f) Q E s:=by
 unfold setWalkUnseen setsByText;refine aJ (nP d Z ok.fits (aJ (aJ (pQ (aW ?_)))));have c:=ok.led;have j:=ok.plain;unfold dF at c;refine kT (λ_=>Uz d ok h) λi=>absurd ?_ i
 show(w.params.followText "set-order"||t.led&&t.plain||decide (b.size<=1))=true;rw[c,j];cases w.params.followText "set-order"<;>rfl
def YL{ns ms:List Int}{Q:Unit->Shared->Prop}(v:o≠r)(hR:SetG w s.heap r ns)(hO:SetG w s.heap o ms)(hb:ns.length+ms.length<=2000)
  (H:∀(C:Shared) (Q':Unit->Shared->Prop),C.heap.get? o=s.heap.get? o->Q' () C->wpAny (model prog w) A D Q' E C)
  (h:∀(h':Heap) (L:List Int),Heap.SameBut r s.heap h'->SetG w h' r L->(∀z,z∈L↔z∈ns\/z∈ms)->Q () {s with heap:=h'}):wpAny (model prog w) A (setMerge r o D) Q E s:=by
 obtain⟨h3,d,K,u,y,l,f,c⟩:=id hO;have X:=EE f;unfold setMerge;rw[aA (by intro hc;exact v (sP hc).symm)];refine aJ (nP y Z c.fits ?_);dsimp only;refine kT (λhc=> ?_) λhc=> ?_
 ·have M:ms=[]:=by
   have:d.size=0:=by simpa using hc
   exact lM (by lia)
  exact aW (h s.heap ns (Heap.SameBut.refl _ _) hR λz=>by rw[M];simp)
 refine aJ (Uy hR (by lia) λJ j hM=> ?_);have h5:J.get? o=some (fS d K u):=(j.2 o v).trans y;obtain⟨e3,es,ep,t,T,e2,h7,ok,h8⟩:=id hM;have hsz:=EE h7;refine aJ (nP (s:={s with heap:=J}) T Z ok.fits ?_);dsimp only;by_cases M:es.size=0
 ·have P:ns=[]:=lM (by lia);have U:(t.plain&&u.plain)=true:=by rw[ok.plain,c.plain];rfl
  have O:(t.led&&u.led)= !dF w:=by rw[ok.led,c.led];cases dF w<;>rfl
  by_cases hm:t.mask=u.mask;·rw[show t.road u= .slotForSlot from by unfold SetTable.road;rw[ok.fill,c.dum];simp [M,hm]];dsimp only;have hu:=qW (Obj.putSet d {u with finger:=t.finger,led:=t.led&&u.led,moves:=t.moves,plain:=t.plain&&u.plain}) T rfl;refine xG (s:={s with heap:=J}) (es':=d) T rfl (h _ ms (j.trans (rD _ _ _)) ⟨h3,d,ep+1,_,hu,l,f,c.pow,c.dum,c.rise,c.size,c.room,U,O⟩ λz=>by rw[P];simp) (pP (by unfold scanBound;lia))
  rw[show t.road u= .clean from by unfold SetTable.road;rw[ok.fill,c.dum];simp [M,hm]];dsimp only;rw[U,O];obtain⟨k,hk⟩:=ok.pow;obtain⟨t',p,e,hp,h9⟩:=YD (b:=dF w) (n:=d.size) (finger:=t.finger) (moves:=t.moves) hk (d.map (·.1)) (by simp) (by lia);have I:=LJ hp;have Y:(p.filterMap (d[·]?)).size=d.size:=by rw[<- cO,I.length_eq,cO]
  rw[e];refine aJ (oR (show _=pure (p.filterMap (d[·]?),t')from ?_) ?_)
  ·show(if((p.filterMap (d[·]?)).size !=d.size)=true then _ else _)=_
   rw[aA (by rw[Y];simp)]
  have hu:=qW (Obj.putSet (p.filterMap (d[·]?)) t') T rfl;refine xG (s:={s with heap:=J}) (es':=p.filterMap (d[·]?)) (t':=t') T rfl (h _ ms (j.trans (rD _ _ _)) ⟨h3,_,ep+1,t',hu,l.perm I,(I.map _).trans f,by rw[Y];exact h9⟩ λz=>by rw[P];simp) (pP (by unfold scanBound;lia))
 rw[show t.road u = .oneByOne from by unfold SetTable.road; rw[ok.fill]; simp [M]];dsimp only;refine aJ (Va (s:={ s with heap:=J }) h5 c λW hW => ?_);refine aJ (PySem.MeetsSeq2.wpAny_forIn_array _ (λG _ C=>∃ (h':Heap) (L:List Int) (done:List (Int × Value)),C={ s with heap:=h' }/\Heap.SameBut r s.heap h'/\SetG w h' r L/\W.toList=done++G/\(∀ z,z ∈ L↔z ∈ ns\/z ∈ done.map λe=>sE e.2)/\L.length<=ns.length+done.length)
  (λ_ C=>wpAny (model prog w) A (pure PUnit.unit) Q E C) ?_ ?_ W _ ⟨J,ns,[],Z,j,hM.g,Z,λz=>by simp,aK _⟩)
 ·rintro⟨hh,x⟩ G _ C ⟨h',L,done,rfl,B,hG,a,m,e0⟩;obtain⟨i,tk,e⟩:=(l.perm hW) (hh,x) (by rw[a];simp);cases e;have h6:W.toList.length=ms.length:=by rw[hW.length_eq,cO,X]
  have e1:done.length<=ms.length:=by rw[<- h6,a,bF];lia
  refine aJ (sN (YF (s:={s with heap:=h'}) hG (by lia) λ_ h2 F h4=> ?_));have N:h2.get? o=some (fS d K u):=(F.2 o v).trans ((B.2 o v).trans y);refine aJ (H {s with heap:=h2} _ (N.trans y.symm) ?_);refine aJ (nP (s:={s with heap:=h2}) N Z c.fits ?_);dsimp only;rw[aA (by simp)];refine aW ⟨h2,_,done++[(hashInt i,.int i tk)],Z,B.trans F,h4,by rw[a,dQ];rfl,λz=> ?_,?_⟩
  ·rw[dN,al_51,<- or_assoc,<- m z];show _↔_\/z∈ [i];split;·rename_i hi;exact⟨.inl,λq=>q.elim id λq=>by cases al_56.mp q;exact hi⟩
   rw[al_18,al_56,or_comm]
  rw[bF];split;·simp;lia
  simp;lia
 rintro _ C ⟨h',L,done,rfl,B,hG,a,m,_⟩;refine aW (h h' L B hG λz=> ?_);rw[m z];rw[bU]at a;rw[<- a];exact or_congr_right ((hW.map _).trans f).mem_iff
end
def Vb:entryFor table "set.__or__"=some Builtin.«frozenset.__or__»:=entryFor_alias (id':="frozenset.__or__") (by kernel_rfl) rfl (by decide +kernel) (by kernel_rfl)
section
variable{prog:Program}{w:World}{A:Around}{E:Value->Shared->Prop}{s:Shared}
def SetG.typeIs(x:SetG w s.heap a ns):s.TypeIs (.ref a) "set":=by obtain⟨_,c,b,t,e,_⟩:=x;exact⟨_,e,Z⟩
def LN(b:s.TypeIs (.ref a) "set")(h:Q true s):wpAny (model prog w) A (Builtin.Frozenset.isAnySet (.ref a)) Q E s:=
 aJ (m:=isInstance (.ref a) (.type "set")) (AQ b sub_set_self (aW h))
def YM(d:s.heap.get? a=some (fS c b t))(ok:TabOk (dF w) t c.size)(h:Q b s):wpAny (model prog w) A (setEpoch a) Q E s:=
 wpAny_setEpoch_of d rfl ok.fits h
def Vc(h:Q (.ref s.heap.objs.size) {s with heap:=s.heap.push (fS #[] 0 (.fresh 0 0 (!dF w)))}):wpAny (model prog w) A (newSet (.type "set")) Q E s:=by unfold newSet setsByText;exact aJ (aJ (pQ (aW (aJ (wpAny_alloc (aW h))))))
def Vd(b:SetG w s.heap a ns)(k:ns.length<=2000)
  (h:∀(h':Heap) (L:List Int),(∀c o,s.heap.get? c=some o->h'.get? c=some o)->SetG w h' s.heap.objs.size L->(∀z,z∈L↔z∈ns)->Q (.ref s.heap.objs.size) {s with heap:=h'}):
  wpAny (model prog w) A (Builtin.Frozenset.copyOf a) Q E s:=by
 have f:=b.lt;unfold Builtin.Frozenset.copyOf Builtin.Frozenset.baseOf;refine aJ (aJ (AQ b.typeIs sub_set_self (aW (aJ (Vc (aJ (m:=Builtin.Frozenset.addrOf _) (aW ?_)))))));have d:SetG w (s.heap.push (fS #[] 0 (.fresh 0 0 (!dF w)))) a ns:=b.at λo e=>dZ _ e;refine aJ (YL (s:={s with heap:=s.heap.push (fS #[] 0 (.fresh 0 0 (!dF w)))}) (fI f) (YG (gB _ Z)) d (by simpa using k) (λ_ _ _ q=>aW q) λh' L i j l=> ?_);exact aW (h h' L (λc o e=>(i.2 c (fI (cP e))).trans (dZ _ e)) j λz=>by simpa using l z)
def LO:∀(L M:List Int),L.Nodup->(∀z∈L,z∈M)->L.length<=M.length
 | [],_,_,_=>bH _
 |a::L,M,hn,h=>by
  obtain⟨d,f⟩:=al_83.mp hn;have c:=h a (cF);have:=LO L (M.erase a) f λz hz=>(List.mem_erase_of_ne (a:=z) (b:=a) λe=>d (by rw[<- e];exact hz)).mpr (h z (cA _ hz));rw[List.length_erase_of_mem c]at this;have:0<M.length:=List.length_pos_of_mem c;rw[cG]
  lia
def Ve{L ns ms:List Int}(a:L.Nodup)(h:∀z,z∈L↔z∈ns\/z∈ms):L.length<=ns.length+ms.length:=by rw[<- bF];exact LO L _ a λz hz=>al_51.mpr ((h z).mp hz)
def Vf(v:b≠a)(p:SetG w s.heap a ns)(r:SetG w s.heap b ms)(N:ns.length+ms.length<=2000)
  (h:∀(h':Heap) (L:List Int),(∀c o,s.heap.get? c=some o->h'.get? c=some o)->SetG w h' s.heap.objs.size L->(∀z,z∈L↔z∈ns\/z∈ms)->Q (.ref s.heap.objs.size) {s with heap:=h'}):
  wpAny (model prog w) A (binaryOp .BitOr (.ref a) (.ref b)) Q E s:=by
 refine wpAny_binaryOp_same (T:="set") (id:="set.__or__") p.typeIs r.typeIs F.fills_set_or F.slot_set_or (sO F.slot_set_or p.typeIs Vb ?_ (F.args_set_or_2 _ _));refine aJ (m:=Builtin.Frozenset.slot1 "__or__" ⟨[.ref a,.ref b],[]⟩) (oR (show _=pure (Value.ref a,Value.ref b)from rfl) ?_);refine aJ (m:=(Builtin.Frozenset.isAnySet (.ref a) <&&> Builtin.Frozenset.isAnySet (.ref b))) (aJ (m:=Builtin.Frozenset.isAnySet (.ref a)) (LN p.typeIs (LN r.typeIs ?_)));refine aJ (m:=Builtin.Frozenset.addrOf (.ref a)) (aW ?_);refine aJ (aJ (m:=Builtin.Frozenset.copyOf a) (Vd p (by lia) λn C B f i=> ?_));have j:(Value.ref b !=Value.ref a)=true:=by rw[al_110];intro e;cases e;exact v rfl
 have d:SetG w n b ms:=r.at λo e=>B b o e;have u:=r.lt;refine kT (λ_=> ?_) λH=>absurd j H;refine aJ (m:=Builtin.Frozenset.addrOf (.ref s.heap.objs.size)) (aW (aJ (sN ?_)));refine aJ (m:=Builtin.Frozenset.isAnySet (.ref b)) (LN (s:={s with heap:=n}) d.typeIs ?_);refine aJ (m:=Builtin.Frozenset.addrOf (.ref b)) (aW ?_);obtain⟨_,M,D,O,k,_,_,l⟩:=id d;unfold Builtin.Frozenset.merge;refine aJ (YM (s:={s with heap:=n}) k l ?_);have y:C.length<=ns.length:=LO _ _ f.1 λz hz=>(i z).mp hz;refine YL (s:={s with heap:=n}) (fI u) f d (by lia) (λJ K e q=> ?_) λh' L x G I=> ?_
 ·unfold Builtin.Frozenset.unchanged;refine aJ (YM (s:=J) (e.trans k) l ?_);rw[aA (by simp)];exact aW q
 refine aW (aW ⟨_,Z,(nomatch ·),h h' L (λc o e=>(x.2 c (fI (cP e))).trans (B c o e)) G λz=> ?_⟩);rw[I z,i z]
end
def si_next:Slot "set_iterator" "__next__" "set_iterator.__next__":= .of (owner:="set_iterator") (n:="__next__") (by rw[typeLookup_type,builtinLookup_eq_fast];kernel_rfl) (by decide +kernel) (by decide +kernel) (by decide +kernel) (by first|exact .inl (by decide +kernel)|exact .inr (by decide +kernel)) (by rw[isSubtype_type];kernel_rfl)
def YN:Slot "set_iterator" "__iter__" "set_iterator.__iter__":= .of (owner:="set_iterator") (n:="__iter__") (by rw[typeLookup_type,builtinLookup_eq_fast];kernel_rfl) (by decide +kernel) (by decide +kernel) (by decide +kernel) (by first|exact .inl (by decide +kernel)|exact .inr (by decide +kernel)) (by rw[isSubtype_type];kernel_rfl)
def YO:entryFor table "set_iterator.__next__"=some Builtin.«set_iterator.__next__»:=entryFor_of_tree (by kernel_rfl)
def Vg:entryFor table "set_iterator.__iter__"=some Builtin.«dict_keyiterator.__iter__»:=entryFor_alias (id':="dict_keyiterator.__iter__") (by kernel_rfl) rfl (by decide +kernel) (by kernel_rfl)
def Vh:entryFor table "set.__iter__"=some Builtin.«frozenset.__iter__»:=entryFor_alias (id':="frozenset.__iter__") (by kernel_rfl) rfl (by decide +kernel) (by kernel_rfl)
def YQ:Manifest.owners.lookup (String.ofList ['r','o','t','a','r','e','t','i','_','t','e','s'].reverse)=some Manifest.sig_set_iterator:=by kernel_rfl
def YR(a:Value):argsOk "set_iterator.__next__" ⟨[a],[]⟩:=by
 unfold argsOk;rw[signature?_of (id:="set_iterator.__next__") (n:=['_','_','t','x','e','n','_','_']) (o:=['r','o','t','a','r','e','t','i','_','t','e','s']) (by kernel_rfl) YQ]
 kernel_rfl
def Vi(a:Value):argsOk "set_iterator.__iter__" ⟨[a],[]⟩:=by
 unfold argsOk;rw[signature?_of (id:="set_iterator.__iter__") (n:=['_','_','r','e','t','i','_','_']) (o:=['r','o','t','a','r','e','t','i','_','t','e','s']) (by kernel_rfl) YQ]
 kernel_rfl
def YS(f i:Nat)(a:Addr)(n b:Nat):Obj:={cls:= .type "set_iterator",data:= .fields #[.int f 0,.int i 0,.ref a,.int n 0,.int b 0]}
def jU(w:World)(a:Addr)(c:Nat)(b:Array (Int×Value)):Array (Int×Value):=if dF w then pickOrder (w.params.setOrder a c) b else b
def yZ(w:World)(a:Addr)(c:Nat)(b:Array (Int×Value)):(jU w a c b).toList.Perm b.toList:=by
 unfold jU;split;·exact YJ _ _
 exact .rfl
section
def Vj(f:s.heap.get? a=some (fS b c t))(ok:TabOk (dF w) t b.size)(d:dF w=true)
  (h:Q (jU w a c b) s):wpAny (model prog w) A (setWalk a) Q E s:=by
 unfold setWalk setsByText;refine aJ (nP f Z ok.fits (aJ (aJ (pQ (aW ?_)))));refine kT (λ_=>aJ (pQ (aW ?_))) λe=>absurd d e;unfold jU at h;rw[aB d]at h;exact h
def YT(q:s.heap.get? a=some (fS b h t))(ok:TabOk (dF w) t b.size)(u:dF w=false->SetTable.below t.place f=i)
  (j:∀e m,(jU w a h b).toList[i]? =some e->(dF w=false->SetTable.below t.place m=i+1)->Q (some (e.2,m)) s) (k:(jU w a h b).toList[i]? =none->Q none s):
  wpAny (model prog w) A (setNext a f i h) Q E s:=by
 unfold setNext setsByText;refine aJ (nP q Z ok.fits (aJ (aJ (pQ (aW ?_)))));refine kT (λc=> ?_) λc=> ?_
 ·have c:dF w=true:=c;refine kT (λd=> ?_) λ_=> ?_
  ·simp at d
  refine aJ (Vj q ok c (aW ?_));rw[<- kQ];cases r:(jU w a h b).toList[i]? with|none=>exact k r|some e=>exact j e f r λd=>by rw[c]at d;cases d
 have c:dF w=false:=al_12.mpr c;have p:=ok.led;rw[c]at p;have l:jU w a h b=b:=by unfold jU;rw[c];rfl
 rw[l]at j k;refine kT (λd=> ?_) λ_=> ?_
 ·exfalso;have d:(!t.plain&&decide (b.size>1))=true:=d;rw[ok.plain]at d;cases d
 refine aJ (oR (show _=pure ()from ?_) ?_)
 ·show(if(!t.led&& !b.isEmpty)=true then _ else _)=_;rw[p];rfl
 dsimp only;rw[u c,<- kQ,<- kQ (xs:=t.place)];refine aW ?_;rcases xE i b.size with hlt|hge
 ·have n:i<b.toList.length:=by rw[cO];exact hlt
  have o:i<t.place.toList.length:=by rw[cO,ok.size];exact hlt
  rw[cM n,cM o];exact j _ _ (cM n) λ_=>Uk ok.rise (cM o)
 rw[jB (by rw[cO];exact hge)];exact k (jB (by rw[cO];exact hge))
end
end Sg
namespace Sg
open PySem PyProof.Rows PySem.W
section
variable{prog:Program}{w:World}{A:Around}{E:Value->Shared->Prop}{s:Shared}
def EF(w:World)(I a:Addr)(c:Array (Int×Value))(b:Nat)(t:SetTable)(i:Nat)(h:Heap):Prop:=
 ∃f,h.get? I=some (YS f i a c.size b)/\(dF w=false->SetTable.below t.place f=i)/\h.get? a=some (fS c b t)
def Vk(c:a≠I)(ok:TabOk (dF w) t h.size)(n:EF w I a h d t i s.heap)(r:(jU w a d h).toList[i]? =some e)
  (x:∀h',Heap.SameBut I s.heap h'->EF w I a h d t (i+1) h'->Q (some e.2) {s with heap:=h'}):wpAny (model prog w) A (pyNext (.ref I)) Q E s:=by
 obtain⟨f,j,z,k⟩:=n;have q:s.TypeIs (.ref I) "set_iterator":=⟨_,j,Z⟩;unfold pyNext;refine aJ (wpAny_attempt (FR (name:=Str.ofString "__next__") q si_next (sO si_next q YO ?_ (YR _))));unfold Builtin.«set_iterator.__next__»;refine aJ (m:=slotArgs "__next__" 0 ⟨[.ref I],[]⟩) (oR (show _=pure (Value.ref I,[])from rfl) (aJ (wpAny_fieldsOf j Z ?_)));dsimp only;refine aJ (wpAny_setEntries_of k Z ok.fits ?_);refine kT (λy=> ?_) λ_=> ?_
 ·simp at y
 refine aJ (m:=setNext a f i d) (YT k ok z (λB p b l=> ?_) λu=> ?_)
 ·rw[r]at b;cases b;dsimp only;have v:=qW (Obj.mapFields (·.setIfInBounds 0 (rawInt (p:Int)))) j rfl;have o:=qW (Obj.mapFields (·.setIfInBounds 1 (rawInt ((i:Int)+1)))) v rfl;refine aJ (wpAny_setField j Z (by simp) (aJ (wpAny_setField v Z (by simp) (aW ⟨_,Z,aW ?_⟩))));refine x _ ((rD _ _ _).trans (rD _ _ _)) ⟨p,o,l,?_⟩;exact(AF _ _ (dJ c)).trans ((AF _ _ (dJ c)).trans k)
 rw[r]at u;cases u
def Vl(u:A.handled=none)(ok:TabOk (dF w) t e.size)(j:EF w I a e d t i s.heap)(p:(jU w a d e).toList[i]? =none)
  (n:∀h',Heap.ExtBut I s.heap h'->Q none {s with heap:=h'}):wpAny (model prog w) A (pyNext (.ref I)) Q E s:=by
 obtain⟨f,h,q,l⟩:=j;have k:s.TypeIs (.ref I) "set_iterator":=⟨_,h,Z⟩;unfold pyNext;refine aJ (wpAny_attempt (FR (name:=Str.ofString "__next__") k si_next (sO si_next k YO ?_ (YR _))));unfold Builtin.«set_iterator.__next__»;refine aJ (m:=slotArgs "__next__" 0 ⟨[.ref I],[]⟩) (oR (show _=pure (Value.ref I,[])from rfl) (aJ (wpAny_fieldsOf h Z ?_)));dsimp only;refine aJ (wpAny_setEntries_of l Z ok.fits ?_);refine kT (λo=> ?_) λ_=> ?_
 ·simp at o
 refine aJ (m:=setNext a f i d) (YT l ok q (λv x c r=> ?_) λy=> ?_);·rw[p]at c;cases c
 dsimp only;refine aJ (wpAny_setField h Z (by simp) (aJ ?_));simp only [newExc,newTuple];refine aJ (pM ?_ (by size_fits));refine aJ (m:=firstArgMember _ _) (oR (a:=Value.none) (by first|rfl|(simp only [firstArgMember];rfl)) ?_);refine pM ?_ (by size_fits);simp only [raiseNew];refine aJ (wpAny_handled ?_);rw[show A.in1.handled=none from u];refine aJ (aW (wpAny_throw ?_));refine aJ (AQ (T:="StopIteration") (b:=true) ⟨_,gB _ Z,Z⟩ isSubtype_stop ?_);exact aW (n _ (((rD ..).extBut.push _).push _))
def Vm(b:s.heap.get? I=some o)(c:o.cls= .type "set_iterator")(h:Q (.ref I) s):wpAny (model prog w) A (pyIter (.ref I)) Q E s:=by have a:s.TypeIs (.ref I) "set_iterator":=⟨_,b,c⟩;refine wpAny_pyIter_slot a YN (sO YN a Vg ?_ (Vi _));exact aW ⟨_,Z,"set_iterator",_,a,si_next.lookup,h⟩
def Vn(c:s.heap.get? a=some (fS b e t))(ok:TabOk (dF w) t b.size)
  (h:Q (.ref s.heap.objs.size) {s with heap:=s.heap.push (YS 0 0 a b.size e)}):wpAny (model prog w) A (pyIter (.ref a)) Q E s:=by
 have f:s.TypeIs (.ref a) "set":=⟨_,c,Z⟩;refine wpAny_pyIter_slot f F.slot_set_iter (sO F.slot_set_iter f Vh ?_ (F.args_set_iter_1 _));unfold Builtin.«frozenset.__iter__»;refine aJ (m:=Builtin.Frozenset.slot0 "__iter__" ⟨[.ref a],[]⟩) (oR (show _=pure a from rfl) ?_);unfold Builtin.Frozenset.sizeOf;refine aJ (aJ (wpAny_setEntries_of c Z ok.fits (aW ?_)));unfold setDrawn setsByText;refine aJ (aJ (nP c Z ok.fits (aJ (aJ (pQ (aW (aW ?_)))))));refine kT (λd=> ?_) λ_=> ?_
 ·exfalso;have d:(!(w.params.followText "set-order")&&(!t.plain&&decide (b.size>1)))=true:=d;rw[ok.plain]at d;simp at d
 refine aJ (aW (aJ (wpAny_setEpoch_of c Z ok.fits (aJ (pM (aW ⟨_,Z,"set_iterator",_,⟨_,gB _ Z,Z⟩,si_next.lookup,?_⟩))))));exact h
def Vo{t:SetTable}(h:t.place.toList.Pairwise (· < ·)):SetTable.below t.place 0=0:=by
 obtain⟨a,_⟩:=ED h 0;rcases Nat.eq_zero_or_pos (SetTable.below t.place 0)with e|hp
 ·exact e
 have c:=XV t.place 0;have b:0<t.place.toList.length:=by rw[cO];lia
 exact absurd (a 0 _ hp (cM b)) (uW _)
def Vp(hh:A.handled=none)(I a:Addr)(hne:a≠I)(ok:TabOk (dF w) t es.size):
  Walks prog w A I [I,a] [I] es.size (λi v=>∃e,(jU w a ep es).toList[i]? =some e/\v=e.2) (EF w I a es ep t) where
 sub:=λb hb=>by simp at hb;simp [hb]
 frame:=λ_ _ _ ⟨f,h1,h2,h3⟩ hk=>⟨f,hk I (by simp) _ h1,h2,hk a (by simp) _ h3⟩
 item:=λi s Q E hi st hQ=>by
  have hl:i<(jU w a ep es).toList.length:=by rw[(yZ w a ep es).length_eq,cO];exact hi
  exact Vk hne ok st (cM hl) λh' hsb st'=>hQ _ h' s.toks ⟨_,cM hl,Z⟩ st' λb o hb e=>hsb.extBut b o (λh=>hb (by simp [h])) e
 done:=λs Q E st hQ=>Vl hh ok st (jB (by rw[(yZ w a ep es).length_eq,cO];exact aK _)) λh' he'=>hQ h' s.toks λb o hb e=>he' b o (λh=>hb (by simp [h])) e
 self:=λ_ _ _ _ st hQ=>let⟨_,h1,_⟩:=st;Vm h1 rfl hQ
def Vq(d:s.TypeIs (.ref r) "set")(h:Q false s):wpAny (model prog w) A (Builtin.List.listLengthHint (.ref r)) Q E s:=by
 unfold Builtin.List.listLengthHint;refine aJ (wpAny_specialOf d F.slot_set_len.lookup ?_);generalize c:("set.__len__":String)=id0
 wp_delta
 rw[show splitId id0=some ("set","__len__")from by subst c;decide +kernel];subst c;refine aJ (AQ (T:="set") (b:=true) d sub_set_self ?_);refine kT (λa=>absurd a (by decide)) (λ_=>kT (λ_=> ?_) (λa=>absurd (by decide +kernel) a));exact aJ (wpAny_typeOf d (aW h))
def Vr(ok:TabOk (dF w) t es.size):
  KdlSrc prog w "set" a a es.size (λi v=>∃e,(jU w a ep es).toList[i]? =some e/\v=e.2) (λh=>h.get? a=some (fS es ep t)) where
 type:=λ_ hm=>⟨_,hm,Z⟩
 there:=λ_ hm=>⟨cP hm,cP hm⟩
 keep:=λ_ _ hm hk=>hk a (.inl Z) _ hm
 notList:=by decide
 notTuple:=by decide
 hint:=λ_ _ _ _ hm hq=>Vq ⟨_,hm,Z⟩ hq
 iter:=λ_ _ hh hm=>⟨_,_,(λ_ _ hq=>Vn hm ok hq),Vp hh _ a (fI (cP hm)) ok,⟨0,gB _ Z,λ_=>Vo ok.rise,dZ _ hm⟩⟩
def Vs{P:Nat->Value->Prop}{D:Heap->Prop}{R:List Value->Shared->Prop}(K:KdlSrc prog w T r d n P D)(I:A.handled=none)(p:D s.heap)(J:n<=sizeLine)
  (h:∀(h':Heap) (tk:Nat) (acc:Array Value),(∀b o,s.heap.get? b=some o->h'.get? b=some o)->s.heap.objs.size<h'.objs.size->ItemsOf P acc n->R acc.toList {s with heap:=h',toks:=tk}):
  wpAny (model prog w) A (collect (.ref r)) R E s:=by
 obtain⟨L,M⟩:=K.there _ p;unfold collect;refine aJ (wpAny_runValue (uY entry_proto_collect' (by
  rw[xH PySem.F.plain_proto_collect _];refine aJ (m:=newList []) (pM (aW ⟨plainId_quiet PySem.F.plain_list_iadd _,uY entry_list_iadd' ?_⟩));rw[xH PySem.F.plain_list_iadd _];have H:(s.heap.push { cls := .type "list",data := .seq ([]:List Value).toArray }).get? s.heap.objs.size=some { cls := .type "list",data := .seq #[] }:=gB _ rfl;refine kP (kdl_extend (A:=A) (s:={ s with heap:=s.heap.push { cls := .type "list",data := .seq ([]:List Value).toArray } })
   (R:=λ(q:Result) (C:Shared)=>∃ (h':Heap) (tk:Nat) (acc:Array Value) (c:Nat),q = .ok (.ret (.ref s.heap.objs.size))/\C={ s with heap:=h',toks:=tk } /\
    (∀b o,s.heap.get? b=some o->h'.get? b=some o)/\h'.get? s.heap.objs.size=some {cls:= .type "list",dict:=none,data:= .seq acc c,slots:= #[]}/\ItemsOf P acc n)
   K I (K.keep _ _ p λb _ o e=>dZ _ e) s.heap.objs.size (wT L) (wT M) (.ref s.heap.objs.size) 0 H
   (λh' tk acc c B k j=>⟨h',tk,acc,c,Z,Z,λb o e=>B b o (fI (cP e)) (dZ _ e),k,j⟩) J) (λz C x=> ?_) λe C x=> ?_
  ·have l:∀ {q:Result} {i : Shared},(∃ (h':Heap) (tk:Nat) (acc:Array Value) (c:Nat),q = .ok (.ret (.ref s.heap.objs.size))/\i = { s with heap:=h',toks:=tk } /\
     (∀b o,s.heap.get? b=some o->h'.get? b=some o)/\h'.get? s.heap.objs.size=some {cls:= .type "list",dict:=none,data:= .seq acc c,slots:= #[]}/\ItemsOf P acc n)->wants (λv u=>wpAny (model prog w) A (match v with| .ref a=>(do match(<- load a).data with| .seq xs _=>pure xs.toList|_=>unsupported "internal:collect")|_=>unsupported "internal:collect") R E u) E q i:=by
    rintro q i ⟨h',tk,acc,c,rfl,rfl,B,k,j⟩;exact aJ (m:=load s.heap.objs.size) (wpAny_load k (aW (h h' tk acc B (cP k) j)))
   cases z with|done f=>exact l x|again c₁=>exact⟨x.1,sL x.2 λq i y=>l y⟩
  obtain⟨_,_,_,_,G,_⟩:=x;cases G)))
def Vt(h:EsOk a):IntsAre (a.map (·.2)) (a.map λe=>sE e.2):=by
 induction a with
 |nil=>exact .nil
 |cons e a ih=>
  obtain⟨i,t,rfl⟩:=h e (cF);exact .cons i t (ih λx b=>h x (cA _ b))
def Vu(I:A.handled=none)(G:SetG w s.heap a ns)(M:ns.length<=3000)
  (h:∀(h':Heap) (tk:Nat) (D:Addr) (out:Array Value) (d:List Int) (e:Nat),(∀c o,s.heap.get? c=some o->h'.get? c=some o)->s.heap.objs.size<=D->h'.get? D=some (seqObj "list" out e)->IntsAre out.toList d->d.Perm ns->d.Pairwise (· <= ·)->Q (.ref D) {s with heap:=h',toks:=tk}):
  wpAny (model prog w) A (call (.builtin "sorted") [.ref a]) Q E s:=by
 obtain⟨J,j,n,t,K,v,q,ok⟩:=G;have hsz:=EE q;refine Calls.call_function_entry kind_sorted plain_sorted entry_sorted (args_sorted1 _) ?_;unfold Builtin.«sorted»;refine aJ (m:=checkCount "sorted" 1 1 _) (aW (aJ (Vs (A:=A.in1) (Vr ok) I K (pP (by unfold scanBound;lia)) λr tk acc y p b=> ?_)));have k:acc.toList=(jU w a n j).toList.map (·.2):=by
  refine List.ext_getElem? λi=> ?_;rw[fL];rcases xE i j.size with f|hge
  ·have z:i<acc.toList.length:=by rw[cO,b.1];exact f
   obtain⟨e,u,L⟩:=b.2 i _ (by rw[<- kQ];exact cM z);rw[u,cM z,L];rfl
  rw[jB (by rw[cO,b.1];exact hge),jB (by rw[(yZ w a n j).length_eq,cO];exact hge)];rfl
 have H:IntsAre acc.toList ((jU w a n j).toList.map λe=>sE e.2):=by rw[k];exact Vt (v.perm (yZ w a n j))
 have hz:acc.toList.length=j.size:=by rw[cO,b.1]
 refine aJ (wpAny_newList ?_ (by rw[hz];exact pP (by unfold scanBound;lia)));have l:(r.push (seqObj "list" acc.toList.toArray 0)).get? r.objs.size=some (seqObj "list" acc.toList.toArray 0):=gB _ rfl;refine aJ (sN (sO slot_list_sort ⟨_,l,Z⟩ entry_list_sort (list_sort_treeAny l H (by rw[hz];exact pP (by unfold scanBound;lia)) λout d B C F=>⟨_,Z,?_⟩) (args_list_sort _)));obtain⟨e,u⟩:=sortedHeap_at (out:=out) l;refine aW ⟨_,Z,h _ tk r.objs.size out d e (λc o x=> ?_) (pL p) u B (C.trans (((yZ w a n j).map _).trans q)) F⟩;have f:=cP (y c o x);rw[sortedHeap_old (fI f) (by rw[size_push'];exact qX f)];exact dZ _ (y c o x)
end
end Sg
namespace Sg
open PySem PySem.Spec PyProof.Rows L2
open PySem.W (Codec)
section
variable{P:Program}{w:World}{K:PySem.W.Frag}{mg:Str->Option Value}{base:Heap}(T:Txt K mg)
def pk:Gh.Bytes->Int
 | []=> -1
 |c::_=>((c.toNat:Nat):Int)
inductive Vv(C:Addr)(vs:List V)(H:Hp)(Q:VK)(E:XK):Prop
 |mk (c a dx:Addr) (_:vs=[.ref c,.ref a]) (_:H c=some (.ins C dx [])) (_:∀H':Hp,H' c=some (.ins C dx (cf a 0))->Keep c H H'->Q .non H')
inductive Vw(K:PySem.W.Frag)(C:Addr)(vs:List V)(H:Hp)(Q:VK)(E:XK):Prop
 |mk (c a:Addr) (bs r:Gh.Bytes) (_:vs=[.ref c]) (_:Cur K C c a bs H r) (_:Q (.bl r.isEmpty) H)
inductive Vx(K:PySem.W.Frag)(C:Addr)(vs:List V)(H:Hp)(Q:VK)(E:XK):Prop
 |mk (c a:Addr) (bs r:Gh.Bytes) (_:vs=[.ref c]) (_:Cur K C c a bs H r) (_:Q (.int (pk r)) H)
inductive Vy(K:PySem.W.Frag)(C:Addr)(vs:List V)(H:Hp)(Q:VK)(E:XK):Prop
 |mk (c a:Addr) (bs r:Gh.Bytes) (k:UInt8) (_:vs=[.ref c,.int ((k.toNat:Nat):Int)]) (_:Cur K C c a bs H r) (_:∀H':Hp,Cur K C c a bs H' (tk k r).2->Keep c H H'->Q (.bl (tk k r).1) H')
inductive Vz(K:PySem.W.Frag)(C:Addr)(vs:List V)(H:Hp)(Q:VK)(E:XK):Prop
 |mk (c a:Addr) (bs r:Gh.Bytes) (p:UInt8->Bool) (lo hi:Int) (_:vs=[.ref c,.int lo,.int hi]) (_:0<lo) (_:(∀x:UInt8,p x=(decide (lo<=((x.toNat:Nat):Int))&&decide (((x.toNat:Nat):Int)<=hi)))) (_:Cur K C c a bs H r) (_:∀H':Hp,Cur K C c a bs H' (tp p r).2->Keep c H H'->Q (.int (((tp p r).1.toNat:Nat):Int)) H')
def LP:qE P w base 1 T.l ["self","data"] (Vv (bI T)):=by
 refine aV T.l.F ["self","data"] λe A b s H vs Q E j i h=> ?_;obtain⟨c,a,d,rfl,f,k⟩:=h;refine⟨_,aF (dA (pv 0) (pv 1) Z) (aG (dA (pv 0) bQ Z)),?_⟩
 try dsimp only [aT,aR,Cx.nox]
 refine⟨_,Z,_,Z,c,_,d,[],Z,f,T.l.cl,T.aa,(by show 0<1000;decide),?_⟩;refine⟨_,Z,c,_,d,_,Z,aH,T.l.cl,T.B,(by show 1<1000;decide),?_⟩;exact k _ aH (((Keep.refl c H).put (.inl Z)).put (.inl Z))
def EG:gG P w mg base 1 T.an ["self"] (Vw K (bI T)):=by
 refine⟨aV T.an.F ["self"] λm A b s H vs Q E p o h=> ?_,T.l.cl⟩;obtain⟨c,a,bs,r,rfl,x,k⟩:=h;obtain⟨d,i,f,hi,j⟩:=x.ex;refine⟨_,aG (aI (kD dS (bJ (pv 0) Z) (fU gD (by rfl) T.i gC (aC (bJ (pv 0) Z) aD)))),?_⟩
 try dsimp only [aT,aR,Cx.nox]
 refine⟨_,Z,c,_,d,_,_,Z,f,T.l.cl,T.B,CD a i,_,Z,c,_,d,_,_,Z,f,T.l.cl,T.aa,QW a i,a,_,Z,.inl x.seq,Z,?_⟩;have e:decide (V.int (i:Int)=V.int ((bv bs).length:Int))=r.isEmpty:=by
  rw[CC];cases r with
  |nil=>rw[Jp j hi];exact bP rfl
  |cons y v=>
   obtain⟨_,n,_⟩:=HW j;refine bN λz=> ?_;injection z with z
   lia
 rw[e];exact k
def EH:¬("at_end":Str)="at":=by decide +kernel
def EI:¬("at_end":Str)="data":=by decide +kernel
def wD:¬("peek":Str)="at":=by decide +kernel
def wE:¬("peek":Str)="data":=by decide +kernel
def cT:¬("take":Str)="at":=by decide +kernel
def cU:¬("take":Str)="data":=by decide +kernel
def EJ:¬("take_between":Str)="at":=by decide +kernel
def EK:¬("take_between":Str)="data":=by decide +kernel
def wF:gG P w mg base 2 T.ao ["self"] (Vx K (bI T)):=by
 refine⟨aV T.ao.F ["self"] λf A e s H vs Q E o n h=> ?_,T.l.cl⟩;obtain⟨c,a,bs,r,rfl,x,k⟩:=h;obtain⟨b,i,d,hi,m⟩:=x.ex;refine⟨_,aF (aY (bY (fW (pv 0) (EG T) n)) (aG (aI (bC T.cY))) bD) (aG (aI (iJ iK (bJ (pv 0) Z) (bJ (pv 0) Z) (λ_ _=>rfl)))),?_⟩
 try dsimp only [aT,aR,Cx.nox]
 refine⟨_,Z,c,b,_,Z,d,bW a i EH EI,c,a,bs,r,Z,x,_,Z,?_⟩;cases r with
 |nil=>exact aN k
 |cons y v=>
  obtain⟨j,_,_⟩:=HW m;refine aQ ?_;exact⟨_,Z,c,_,b,_,_,Z,d,T.l.cl,T.aa,QW a i,_,Z,c,_,b,_,_,Z,d,T.l.cl,T.B,CD a i,a,_,_,_,Z,Z,x.seq,GZ (Jm j),k⟩
def YU:decide (V.int (pk r)=V.int ((k.toNat:Nat):Int))=(tk k r).1:=by
 cases r with
 |nil=>
  refine bN λz=> ?_;injection z with z
  have:(0:Int)<=((k.toNat:Nat):Int):=Int.natCast_nonneg _;have a:(-1:Int)=((k.toNat:Nat):Int):=z;lia
 |cons y v=>
  rw[cR];by_cases e:y=k;·rw[aB e,e];exact bP rfl
  rw[aA e];refine bN λz=> ?_;injection z with z
  exact e (al_64.mp (pR z))
def cZ:gG P w mg base 3 T.ap ["self","byte"] (Vy K (bI T)):=by
 refine⟨aV T.ap.F ["self","byte"] λj A f s H vs Q E o n h=> ?_,T.l.cl⟩;obtain⟨c,a,bs,r,k,rfl,x,q⟩:=h;obtain⟨d,i,b,hi,m⟩:=x.ex;refine⟨_,aF (aY (bT kW (fW (pv 0) (wF T) n) (pv 1)) (aG (aI eJ)) bD) (aF (BD (pv 0) bQ OM) (aG (aI eJ))),?_⟩
 try dsimp only [aT,aR,Cx.nox]
 refine⟨_,Z,c,d,_,Z,b,bW a i wD wE,c,a,bs,r,Z,x,_,Z,Z,_,Z,?_⟩;rw[YU];cases r with
 |nil=>exact aN (q H x (Keep.refl c H))
 |cons y v=>
  rw[cR]at q ⊢;by_cases e:y=k;·rw[aB e]at q ⊢;refine aQ ?_;refine⟨_,Z,c,_,d,_,_,Z,b,T.l.cl,T.B,CD a i,_,_,Z,Z,d,_,b,QZ a i,?_⟩;rw[show aL "at" (V.int ((i:Int)+1)) (cf a i)=cf a (i+1)from QY a i (i+1)];exact q _ (Cur.step b x.seq m) ((Keep.refl c H).put (.inl Z))
  rw[aA e]at q ⊢;exact aN (q H x (Keep.refl c H))
def EL:gG P w mg base 3 T.aq ["self","low","high"] (Vz K (bI T)):=by
 refine⟨aV T.aq.F ["self","low","high","byte"] λo A k s H vs Q E I D h=> ?_,T.l.cl⟩;obtain⟨c,a,bs,r,p,lo,b,rfl,C,j,x,q⟩:=h;obtain⟨f,i,d,hi,z⟩:=x.ex;refine⟨_,aF (bA 3 (fW (pv 0) (wF T) D))
  (aF (aY (jE (bT tF (pv 3) (pv 1)) (kU (bT vI (pv 3) (pv 2)))).pt (aG (aI bQ)) bD) (aF (BD (pv 0) bQ OM) (aG (aI (pv 3))))),?_⟩
 try dsimp only [aT,aR,Cx.nox]
 refine⟨_,Z,c,f,_,Z,d,bW a i wD wE,c,a,bs,r,Z,x,?_⟩;refine⟨_,Z,_,Z,_,_,Z,Z,_,Z,?_⟩;cases r with
 |nil=>
  have u:decide (pk []<lo)=true:=bP (by show(-1:Int)<lo;lia);exact bK u (aN (q H x (Keep.refl c H)))
 |cons y v=>
  rw[nW]at q;have G:pk (y::v)=((y.toNat:Nat):Int):=rfl;rw[G];by_cases m:((y.toNat:Nat):Int)<lo
  ·have e:¬p y=true:=by rw[j,bN (by lia)];simp
   rw[aA e]at q;exact bK (bP m) (aN (q H x (Keep.refl c H)))
  refine bG (bN m) ?_;refine⟨_,Z,_,Z,_,_,Z,Z,_,Z,?_⟩;by_cases n:b<((y.toNat:Nat):Int)
  ·have e:¬p y=true:=by rw[j,bN (p:=((y.toNat:Nat):Int)<=b) (by lia)];simp
   rw[aA e]at q;exact bK (bP n) (q H x (Keep.refl c H))
  have e:p y=true:=by rw[j,bP (p:=lo<=((y.toNat:Nat):Int)) (by lia),bP (p:=((y.toNat:Nat):Int)<=b) (by lia)];rfl
  rw[aB e]at q;refine bG (bN n) ?_;refine⟨_,Z,c,_,f,_,_,Z,d,T.l.cl,T.B,CD a i,_,_,Z,Z,f,_,d,QZ a i,?_⟩;rw[show aL "at" (V.int ((i:Int)+1)) (cf a i)=cf a (i+1)from QY a i (i+1)];exact⟨_,Z,q _ (Cur.step d x.seq z) ((Keep.refl c H).put (.inl Z))⟩
def rng{lo hi n:Nat}:(decide (lo<=n)&&decide (n<=hi))=(decide ((lo:Int)<=(n:Int))&&decide ((n:Int)<=(hi:Int))):=by have a:decide (lo<=n)=decide ((lo:Int)<=(n:Int)):=al_43.mpr (by lia);have b:decide (n<=hi)=decide ((n:Int)<=(hi:Int)):=al_43.mpr (by lia);rw[a,b]
def Wa(x:UInt8):Gh.isSmall x=(decide ((97:Int)<=((x.toNat:Nat):Int))&&decide (((x.toNat:Nat):Int)<=122)):=rng (lo:=97) (hi:=122)
def Wb(x:UInt8):Gh.isBig x=(decide ((65:Int)<=((x.toNat:Nat):Int))&&decide (((x.toNat:Nat):Int)<=90)):=rng (lo:=65) (hi:=90)
def Wc(x:UInt8):Gh.isDigit x=(decide ((48:Int)<=((x.toNat:Nat):Int))&&decide (((x.toNat:Nat):Int)<=57)):=rng (lo:=48) (hi:=57)
def Wd(x:UInt8):jL x=(decide ((49:Int)<=((x.toNat:Nat):Int))&&decide (((x.toNat:Nat):Int)<=57)):=rng (lo:=49) (hi:=57)
def LQ{x:UInt8}:decide (V.int ((x.toNat:Nat):Int)=V.int 0)=decide (x=0):=by
 refine al_43.mpr ⟨λz=> ?_,λz=>by rw[z];rfl⟩;injection z with z
 have:x.toNat=0:=by lia
 exact al_64.mp this
def We:decide (V.int ((n:Nat):Int)=V.int 0)=decide (n=0):=by
 refine al_43.mpr ⟨λz=> ?_,λz=>by rw[z];rfl⟩;injection z with z
 lia
inductive Wf(K:PySem.W.Frag)(C:Addr)(vs:List V)(H:Hp)(Q:VK)(E:XK):Prop
 |mk (c a:Addr) (bs r:Gh.Bytes) (_:vs=[.ref c]) (_:Cur K C c a bs H r) (_:∀H':Hp,Cur K C c a bs H' (tp Gh.isSmall r).2->Keep c H H'->Q (.int (((tp Gh.isSmall r).1.toNat:Nat):Int)) H')
inductive Wg(K:PySem.W.Frag)(C:Addr)(vs:List V)(H:Hp)(Q:VK)(E:XK):Prop
 |mk (c a:Addr) (bs r:Gh.Bytes) (_:vs=[.ref c]) (_:Cur K C c a bs H r) (_:∀(H':Hp) (v:V),Cur K C c a bs H' (iA r).2->Keep c H H'->tJ PairAt H' v (iA r).1->Q v H')
inductive Wh(K:PySem.W.Frag)(C:Addr)(vs:List V)(H:Hp)(Q:VK)(E:XK):Prop
 |mk (c a:Addr) (bs r:Gh.Bytes) (_:vs=[.ref c]) (_:Cur K C c a bs H r) (_:∀H':Hp,Cur K C c a bs H' (number r).2->Keep c H H'->Q (.int (((number r).1:Nat):Int)) H')
inductive Wi(K:PySem.W.Frag)(C:Addr)(vs:List V)(H:Hp)(Q:VK)(E:XK):Prop
 |mk (c a p:Addr) (x:UInt8×UInt8) (bs r:Gh.Bytes) (_:vs=[.ref p,.ref c]) (_:PairAt H p x) (_:Cur K C c a bs H r) (_:∀(H':Hp) (v:V),Cur K C c a bs H' (cN x.1 x.2 r).2->Keep c H H'->tJ NameAt H' v (cN x.1 x.2 r).1->Q v H')
inductive Wj(K:PySem.W.Frag)(C:Addr)(vs:List V)(H:Hp)(Q:VK)(E:XK):Prop
 |mk (c a:Addr) (bs r:Gh.Bytes) (_:vs=[.ref c]) (_:Cur K C c a bs H r) (_:∀(H':Hp) (v:V),Cur K C c a bs H' (cJ r).2->Keep c H H'->tJ NameAt H' v (cJ r).1->Q v H')
def LR:bR P w base 4 T.cm ["cursor"] (Wf K (bI T)):=by
 refine aV T.cm.F ["cursor"] λd A b s H vs Q E l j h=> ?_;obtain⟨c,a,bs,r,rfl,x,q⟩:=h;obtain⟨e,i,f,hi,k⟩:=x.ex;refine⟨_,aG (aI (bZ (pv 0) (EL T) j (aC (bC T.dj) (aC (bC T.dn) aD)))),?_⟩
 try dsimp only [aT,aR,Cx.nox]
 exact⟨_,Z,c,e,_,Z,f,bW a i EJ EK,c,a,bs,r,Gh.isSmall,97,122,Z,by decide,Wa,x,q⟩
def YV:bR P w base 5 T.bJ ["cursor"] (Wg K (bI T)):=by
 refine aV T.bJ.F ["cursor","first"] λn A d s H vs Q E C j h=> ?_;obtain⟨c,a,bs,r,rfl,x,q⟩:=h;obtain⟨o,i,u,hi,B⟩:=x.ex;refine⟨_,aF (bA 1 (bZ (pv 0) (EL T) j (aC (bC T.cA) (aC (bC T.cB) aD))))
  (aF (aY (bT dS (pv 1) bQ) (aG (aI dC)) bD)
   (aG (aI (xT (aC (pv 1) (aC (aX (LR T) j (aC (pv 0) aD)) aD)))))),?_⟩
 try dsimp only [aT,aR,Cx.nox]
 refine⟨_,Z,c,o,_,Z,u,bW a i EJ EK,c,a,bs,r,Gh.isBig,65,90,Z,by decide,Wb,x,λm l k=> ?_⟩;refine⟨_,Z,Z,_,Z,?_⟩;rw[LQ];by_cases e:(tp Gh.isBig r).1=0
 ·have b:iA r=(none,(tp Gh.isBig r).2):=by unfold iA;rw[aB e]
  rw[b]at q;exact bK (bP e) (q m .non l k Z)
 have b:iA r=(some ((tp Gh.isBig r).1,(tp Gh.isSmall (tp Gh.isBig r).2).1),(tp Gh.isSmall (tp Gh.isBig r).2).2):=by unfold iA;rw[aA e]
 rw[b]at q;refine bG (bN e) ?_;refine⟨_,Z,_,Z,c,a,bs,_,Z,l,λz y v=>⟨by show 2<=sizeLine;decide,λp f=> ?_⟩⟩;exact q _ _ (y.same (Same.new f)) ((k.trans v).new f) ⟨p,Z,aH⟩
def YW:bR P w base 4 T.bR ["cursor"] (Wh K (bI T)):=by
 refine aV T.bR.F ["cursor","number","digits","digit"] λL A C s H vs Q E nd I h => ?_;obtain⟨c,a,bs,r,rfl,x,q⟩:=h;obtain⟨M,i,U,hi,hd⟩:=x.ex;refine⟨_,aF (bA 1 bQ) (aF (bA 2 bQ)
  (aF (bA 3 (bZ (pv 0) (EL T) I (aC (bC T.cE) (aC (bC T.aZ) aD))))
  (aF (lP dR (bT kW (pv 3) bQ)
   (aF (bA 1 (dO GR (dO vH (dO AZ (pv 1) bQ) (pv 3)) (bC T.ah)))
   (aF (CL 2 bQ GK)
   (aG (bA 3 (mK (bT tF (pv 2) (bC T.cL)) (bZ (pv 0) (EL T) I (aC (bC T.ah) (aC (bC T.aZ) aD))) bQ))))))
  (aG (aI (pv 1)))))),?_⟩
 try dsimp only [aT,aR,Cx.nox]
 refine⟨_,Z,c,M,_,Z,U,bW a i EJ EK,c,a,bs,r,jL,49,57,Z,by decide,Wd,x,λH1 x1 X=> ?_⟩;refine⟨λm σ H'=>∃(n:Nat) (d:UInt8) (b:Gh.Bytes),σ= [some (.ref c),some (.int (n:Int)),some (.int ((3:Int)-(m:Int))),some (.int ((d.toNat:Nat):Int))]/\m<=3/\Cur K (bI T) c a bs H' b/\Keep c H H'/\lT m n d b=number r/\(d≠0->m≠0/\48<=d.toNat),
  ⟨3,0,(tp jL r).1,(tp jL r).2,Z,aK _,x1,X,Z,λe=>⟨by decide,?_⟩⟩,?_⟩
 ·rcases jN jL r with⟨h1,_,_⟩|⟨y,hy,_,h1⟩;·exact absurd h1 e
  rw[h1];have:=(RJ hy).1;unfold Gh.isDigit at this;simp only [cB,gK]at this;exact this.1
 rintro m σ J ⟨n,d,b,rfl,hm,o,B,G,v⟩;obtain⟨p,W,u,_,_⟩:=o.ex;refine⟨_,Z,Z,_,Z,?_⟩;rw[LQ];by_cases e:d=0
 ·have N:lT m n d b=(n,b):=by
   cases m with|zero=>rfl|succ m=>unfold lT;rw[aB e]
  refine bG (bS not (bP e)) ⟨_,Z,?_⟩;rw[<- G,N]at q;exact q J o B
 obtain⟨m0,O⟩:=v e;obtain⟨f,rfl⟩:∃f,m=f+1:=⟨m-1,by lia⟩;refine bK (bS not (bN e)) ⟨λk H'=>∃(n:Nat) (d:UInt8) (b:Gh.Bytes),k=[some (.ref c),some (.int (n:Int)),some (.int ((3:Int)-(f:Int))),some (.int ((d.toNat:Nat):Int))]/\f<=3/\Cur K (bI T) c a bs H' b/\Keep c H H'/\lT f n d b=number r/\(d≠0->f≠0/\48<=d.toNat),
  λk H' h=>⟨f,hU f,h⟩,?_⟩
 have j:lT f (n*10+(d.toNat-48)) (if f=0 then(0,b)else tp Gh.isDigit b).1 (if f=0 then(0,b)else tp Gh.isDigit b).2=number r:=by
  rw[<- G];conv=>rhs;unfold lT
  rw[aA e]
 have D:((n:Int)*10+((d.toNat:Nat):Int)-48)=((n*10+(d.toNat-48):Nat):Int):=by lia
 refine⟨_,Z,_,_,Z,Z,.inr ⟨by decide,by decide⟩,_,Z,_,_,Z,Z,_,_,Z,Z,?_⟩;refine⟨_,Z,_,_,Z,Z,?_⟩;refine⟨_,Z,_,_,Z,Z,_,Z,?_⟩;by_cases l:f=0
 ·refine bG (bN (by rw[l];decide)) ?_;rw[aB l]at j;refine⟨_,0,b,?_,by lia,o,B,j,λz=>absurd rfl z⟩;show [_,some (V.int ((n:Int)*10+((d.toNat:Nat):Int)-48)),some (V.int (3-((f+1:Nat):Int)+1)),_]=_;rw[D,show(3-((f+1:Nat):Int)+1:Int)=3-(f:Int) by lia];rfl
 refine bK (bP (by show(3-((f+1:Nat):Int)+1:Int)<3;lia)) ?_;rw[aA l]at j;refine⟨_,Z,c,p,_,Z,u,bW a W EJ EK,c,a,bs,b,Gh.isDigit,48,57,Z,by decide,Wc,o,λH3 x3 Y=> ?_⟩;refine⟨_,(tp Gh.isDigit b).1,(tp Gh.isDigit b).2,?_,by lia,x3,B.trans Y,j,λz=>⟨l,?_⟩⟩
 ·show [_,some (V.int ((n:Int)*10+((d.toNat:Nat):Int)-48)),some (V.int (3-((f+1:Nat):Int)+1)),_]=_;rw[D,show(3-((f+1:Nat):Int)+1:Int)=3-(f:Int) by lia]
 rcases jN Gh.isDigit b with⟨h1,_,_⟩|⟨y,hy,_,h1⟩;·exact absurd h1 z
 rw[h1];unfold Gh.isDigit at hy;simp only [cB,gK]at hy;exact hy.1
def YX:bR P w base 5 T.bN ["letters","cursor"] (Wi K (bI T)):=by
 refine aV T.bN.F ["letters","cursor","number"] λC A k s H vs Q E M l h=> ?_;obtain⟨c,a,p,y,bs,r,rfl,G,x,q⟩:=h;obtain⟨J,i,D,hi,L⟩:=x.ex;refine⟨_,aF (bA 2 (aX (YW T) l (aC (pv 1) aD)))
  (aF (aY (bT dS (pv 2) bQ) (aG (aI dC)) bD)
   (aG (aI (dO Gr (pv 0) (xT (aC (pv 2) (aC (aX (LR T) l (aC (pv 1) aD)) aD))))))),?_⟩
 try dsimp only [aT,aR,Cx.nox]
 refine⟨_,Z,c,a,bs,r,Z,x,λv o j=> ?_⟩;refine⟨_,Z,Z,_,Z,?_⟩;rw[We];by_cases e:(number r).1=0
 ·have b:cN y.1 y.2 r=(none,(number r).2):=by unfold cN;rw[aB e]
  rw[b]at q;exact bK (bP e) (q v .non o j Z)
 have b:cN y.1 y.2 r=(some ⟨y.1,y.2,(number r).1,(tp Gh.isSmall (number r).2).1⟩,(tp Gh.isSmall (number r).2).2):=by unfold cN;rw[aA e]
 rw[b]at q;refine bG (bN e) ?_;refine⟨_,Z,_,Z,_,Z,c,a,bs,_,Z,o,λB I n=>⟨by show 2<=sizeLine;decide,λt f=> ?_⟩⟩;have d:PairAt B p y:=G.keep (j.trans n) D;refine⟨p,t,_,_,Z,Z,SqT.of (Same.new f _ _ d),SqT.of aH,(by intro z;cases z),by show 4<=sizeLine;decide,(λz=>by cases z),λ_ u m=> ?_⟩;exact q _ _ ((I.same (Same.new f)).same (Same.new m)) (((j.trans n).new f).new m) ⟨u,Z,aH⟩
def EM:bR P w base 6 T.bM ["cursor"] (Wj K (bI T)):=by
 refine aV T.bM.F ["cursor","letters"] λm A d s H vs Q E G i h=> ?_;obtain⟨c,a,bs,r,rfl,x,q⟩:=h;refine⟨_,aF (bA 1 (aX (YV T) i (aC (pv 0) aD)))
  (aF (aY (fK (fT (pv 1))) (aG (aI dC)) bD)
   (aG (aI (aX (YX T) i (aC (pv 1) (aC (pv 0) aD)))))),?_⟩
 try dsimp only [aT,aR,Cx.nox]
 refine⟨_,Z,c,a,bs,r,Z,x,λk v f j b=> ?_⟩;refine⟨_,Z,_,Z,?_⟩;unfold cJ at q;generalize iA r=L at f b q;obtain⟨o,B⟩:=L;cases o with
 |none=>
  have e:v= .non:=b;subst e;exact aN (q k .non f j Z)
 |some y=>
  obtain⟨p,rfl,n⟩:=b;refine aQ ?_;exact⟨_,Z,_,Z,c,a,p,y,bs,B,Z,n,f,λl C D u z=>q l C D (j.trans u) z⟩
end
section
def lF(h:n<=64):n<sizeLine:=dG h (by decide)
def qM:decide (V.int ((n:Nat):Int)=V.int ((k:Nat):Int))=decide (n=k):=by
 refine al_43.mpr ⟨λz=> ?_,λz=>by rw[z]⟩;injection z with z
 lia
def isEmpty_iff:r.isEmpty=true↔r=[]:=al_128
end
section
variable{P:Program}{w:World}{K:PySem.W.Frag}{mg:Str->Option Value}{base:Heap}(T:Txt K mg)
def Wl(f:Nat)(a:List Gh.Name)(r:Gh.Bytes):jM (f+1) a r=match cJ r with
  |(none,q)=>(none,q)
  |(some n,q)=>if(tk 125 q).1=true then(some (a++[n]),(tk 125 q).2)
   else if f=0 then(none,q)
   else if(tk 44 q).1=true then jM f (a++[n]) (tk 44 q).2 else(none,q):=rfl
def Wm(f:Nat)(A:List Gh.Atom)(r:Gh.Bytes):iV (f+1) A r=match oX r with
  |(none,q)=>(none,q)
  |(some a,q)=>if q=[]then(some (A++[a]),q)
   else if f=0 then(none,q)
   else if(tk 32 q).1=true then iV f (A++[a]) (tk 32 q).2 else(none,q):=rfl
inductive Wn(CA:Addr)(vs:List V)(H:Hp)(Q:VK)(E:XK):Prop
 |mk (x dx:Addr) (k:Str) (v:V) (d:Bool) (_:vs=[.ref x,.str k,v,.bl d]) (_:H x=some (.ins CA dx [])) (_:∀H':Hp,H' x=some (.ins CA dx (af k v d))->Keep x H H'->Q .non H')
inductive Wo(CA:Addr)(vs:List V)(H:Hp)(Q:VK)(E:XK):Prop
 |mk (k:Str) (v:V) (d:Bool) (_:vs=[.str k,v,.bl d]) (_:(v= .non->Q .non H)) (_:(v≠ .non->∀(H':Hp) (p:Addr),AtomAs CA H' p k v d->Same H H'->Q (.ref p) H'))
inductive Wp(K:PySem.W.Frag)(C CA:Addr)(vs:List V)(H:Hp)(Q:VK)(E:XK):Prop
 |mk (c a:Addr) (bs r:Gh.Bytes) (d:Bool) (_:vs=[.ref c,.bl d]) (_:Cur K C c a bs H r) (_:∀(H':Hp) (p:Addr),Cur K C c a bs H' (dots d r).2->Keep c H H'->AtomAt CA (λt=>H t=none) H' p (dots d r).1->Q (.ref p) H')
inductive Wq(K:PySem.W.Frag)(C:Addr)(vs:List V)(H:Hp)(Q:VK)(E:XK):Prop
 |mk (c a:Addr) (bs r:Gh.Bytes) (_:vs=[.ref c]) (_:Cur K C c a bs H r) (_:∀(H':Hp) (v:V),Cur K C c a bs H' (jM 16 [] r).2->Keep c H H'->tJ (λH' p xs=>H p=none/\ListAt NameAt H' p xs) H' v (jM 16 [] r).1->Q v H')
inductive Wr(K:PySem.W.Frag)(C CA:Addr)(vs:List V)(H:Hp)(Q:VK)(E:XK):Prop
 |mk (c a:Addr) (bs r:Gh.Bytes) (d:Bool) (_:vs=[.ref c,.bl d]) (_:Cur K C c a bs H r) (_:∀(H':Hp) (v:V),Cur K C c a bs H' (nV d r).2->Keep c H H'->tJ (AtomAt CA λt=>H t=none) H' v (nV d r).1->Q v H')
inductive Ws(K:PySem.W.Frag)(C CA:Addr)(vs:List V)(H:Hp)(Q:VK)(E:XK):Prop
 |mk (c a:Addr) (bs r:Gh.Bytes) (_:vs=[.ref c]) (_:Cur K C c a bs H r) (_:∀(H':Hp) (v:V),Cur K C c a bs H' (oX r).2->Keep c H H'->tJ (AtomAt CA λt=>H t=none) H' v (oX r).1->Q v H')
inductive Wt(K:PySem.W.Frag)(C CA:Addr)(vs:List V)(H:Hp)(Q:VK)(E:XK):Prop
 |mk (c a:Addr) (bs r:Gh.Bytes) (_:vs=[.ref c]) (_:Cur K C c a bs H r) (_:∀(H':Hp) (v:V),Cur K C c a bs H' (iV 64 [] r).2->Keep c H H'->tJ (ListAt (AtomAt CA λ_=>True)) H' v (iV 64 [] r).1->Q v H')
def zA:qE P w base 1 T.c ["self","kind","what","denied"] (Wn (gF T)):=by
 refine aV T.c.F ["self","kind","what","denied"] λe A b s H vs Q E l i h=> ?_;obtain⟨x,a,k,v,d,rfl,f,q⟩:=h;refine⟨_,aF (dA (pv 0) (pv 1) Z) (aF (dA (pv 0) (pv 2) Z) (aG (dA (pv 0) (pv 3) Z))),?_⟩
 try dsimp only [aT,aR,Cx.nox]
 refine⟨_,Z,_,Z,x,_,a,[],Z,f,T.c.cl,T.j,(by show 0<1000;decide),?_⟩;refine⟨_,Z,_,Z,x,_,a,_,Z,aH,T.c.cl,T.A,(dG (kC _ _ _) (by decide)),?_⟩;refine⟨_,Z,_,Z,x,_,a,_,Z,aH,T.c.cl,T.am,(dG (aZ (kC _ _ _) (AH (kC _ _ _) 1)) (by decide)),?_⟩;exact q _ aH ((((Keep.refl x H).put (.inl Z)).put (.inl Z)).put (.inl Z))
def YY:bR P w base 3 T.aO ["kind","what","denied"] (Wo (gF T)):=by
 refine aV T.aO.F ["kind","what","denied"] λi A a s H vs Q E c l h=> ?_;obtain⟨k,v,d,rfl,o,p⟩:=h;refine⟨_,aF (aY (fK (fT (pv 1))) (aG (aI dC)) bD)
  (aG (aI (iM (zA T) l (aC (pv 0) (aC (pv 1) (aC (pv 2) aD)))))),?_⟩
 try dsimp only [aT,aR,Cx.nox]
 refine⟨_,Z,_,Z,?_⟩;by_cases e:v= .non;·exact bK (bP e) (o e)
 refine bG (bN e) ?_;refine⟨_,Z,_,Z,_,Z,?_⟩;intro x b n c ne;exact⟨x,b,k,v,d,Z,aH,λf j m=>⟨Z,p e f x ⟨b,j⟩ (Same.made n c m)⟩⟩
def Wu:bR P w base 4 T.bG ["cursor","denied"] (Wp K (bI T) (gF T)):=by
 refine aV T.bG.F ["cursor","denied"] λC A u s H vs Q E l p h => ?_;obtain⟨c,a,bs,r,d,rfl,x,q⟩:=h;obtain⟨D,i,G,hi,J⟩:=x.ex;refine⟨_,aF (aY (PW.pt (nR (iI (bY (pv 1))) (oS (bY (bZ (pv 0) (cZ T) p (aC (bC T.s) aD))))))
   (aG (aI (iM (zA T) p (aC (dH T.I) (aC dC (aC eJ aD)))))) bD)
  (aG (aI (iM (zA T) p (aC (dH T.aW) (aC dC (aC (pv 1) aD)))))),?_⟩
 try dsimp only [aT,aR,Cx.nox]
 refine⟨_,Z,d,Z,?_⟩;cases d with
 |true=>
  refine aQ (aQ ⟨_,Z,?_⟩);intro k b o l ne;have e:dots true r=(.one true .any,r):=by unfold dots;rw[aA (by rintro⟨z,_⟩;cases z)]
  rw[e]at q;refine⟨k,b,_,_,_,Z,aH,λf m n=>⟨Z,?_⟩⟩;have j:Same H f:=Same.made o l n;exact q f k (x.same j) (.of j) ⟨b,m⟩
 |false=>
  refine aN ?_;refine⟨_,Z,c,D,_,Z,G,bW a i cT cU,c,a,bs,r,46,Z,x,λy v B=>⟨_,Z,?_⟩⟩;by_cases t:(tk 46 r).1=true
  ·refine bK t ?_;intro k b o l ne;have e:dots false r=(.run,(tk 46 r).2):=by unfold dots;rw[aB ⟨Z,t⟩]
   rw[e]at q;refine⟨k,b,_,_,_,Z,aH,λf m n=>⟨Z,?_⟩⟩;have j:Same y f:=Same.made o l n;exact q f k (v.same j) (B.trans (.of j)) ⟨b,m⟩
  refine bG (al_12.mpr t) ⟨_,Z,?_⟩;intro k b o l ne;have e:dots false r=(.one false .any,r):=by unfold dots;rw[aA (by rintro⟨_,z⟩;exact t z)]
  rw[e]at q;rw[fO t]at v;refine⟨k,b,_,_,_,Z,aH,λf m n=>⟨Z,?_⟩⟩;have j:Same y f:=Same.made o l n;exact q f k (v.same j) (B.trans (.of j)) ⟨b,m⟩
inductive YZ(K:PySem.W.Frag)(C c a l:Addr)(bs r:Gh.Bytes)(H:Hp)(m:Nat)(σ:L2.St)(H':Hp):Prop
 |mk (had:List Gh.Name) (ps:List Addr) (r':Gh.Bytes) (vn:Option V) (_:σ= [some (.ref c),some (.ref l),vn]) (_:had.length+m=16) (_:1<=m) (_:H' l=some (.lst (ps.map V.ref))) (_:All2 (NameAt H') ps had) (_:Cur K C c a bs H' r') (_:Keep c H H') (_:jM m had r'=jM 16 [] r)
def Wv:bR P w base 7 T.bQ ["cursor"] (Wq K (bI T)):=by
 refine aV T.bQ.F ["cursor","names","name"] λh5 A h4 s H vs Q E nd hr h=> ?_;obtain⟨c,a,bs,r,rfl,x,q⟩:=h;obtain⟨dx,i,hc,hi,hd⟩:=x.ex;refine⟨_,aF (bA 1 (cE aD))
  (aG (lP dR (bY eJ)
   (aF (bA 2 (aX (EM T) hr (aC (pv 0) aD)))
   (aF (aY (fK (fT (pv 2))) (aG (aI dC)) bD)
   (aF (eY (fV fJ gO gP gR (pv 1) (aC (pv 2) aD)))
   (aF (aY (bY (bZ (pv 0) (cZ T) hr (aC (bC T.cF) aD))) (aG (aI (pv 1))) bD)
   (aG (aY (PW.pt (jE (bT dS (fU gD (by rfl) T.i gC (aC (pv 1) aD)) (bC T.cR)) (kU (iI (bY (bZ (pv 0) (cZ T) hr (aC (bC T.cD) aD))))))) (aG (aI dC)) bD)))))))),?_⟩
 try dsimp only [aT,aR,Cx.nox]
 refine⟨bH _,λl W=> ?_⟩;refine⟨YZ K (bI T) c a l bs r H,⟨16,[],[],r,none,Z,Z,by decide,aH,.nil,x.same (Same.new W),(Keep.refl c H).new W,Z⟩,?_⟩;rintro m σ H1 ⟨j,ps,r1,vn,rfl,hm,h7,hL,hA,x1,k1,d⟩;obtain⟨h6,i1,U,_,_⟩:=x1.ex;obtain⟨f,rfl⟩:∃f,m=f+1:=⟨m-1,by lia⟩;refine⟨true,Z,aN ⟨YZ K (bI T) c a l bs r H f,λh8 H' h=>⟨f,hU f,h⟩,?_⟩⟩;refine⟨_,Z,c,a,bs,r1,Z,x1,λB v x2 k2 o2=> ?_⟩;refine⟨_,Z,_,Z,?_⟩;rw[Wl f j r1]at d;generalize cJ r1=L at x2 o2 d;obtain⟨o,r2⟩:=L;have C:B l=some (.lst (ps.map V.ref)):=k2 _ _ hL (bM hL U (by intro z;cases z));have h3:All2 (NameAt B) ps j:=hA.mono λ_ _=>NameAt.keep k2 U;have N:=k1.trans k2;cases o with
 |none=>
  have e:v= .non:=o2;subst e;rw[<- d]at q;exact aN (q B .non x2 N Z)
 |some n=>
  obtain⟨p,rfl,hp⟩:=o2;dsimp only at d x2;refine aQ ?_;have X:(ps.map V.ref).length<sizeLine:=lF (by rw[aO,hA.len];lia);refine⟨_,Z,.inl ⟨Z,_,SqL.of C⟩,_,Z,l,_,_,Z,Z,C,X,?_⟩;have eM:ps.map V.ref++[V.ref p]=(ps++[p]).map V.ref:=by rw[dN];rfl
  rw[eM];have nl:∀(b:Addr) (o:HO),B b=some o->(∀xs,o≠ .lst xs)->aE B l (.lst ((ps++[p]).map V.ref)) b=some o:=λb o e z=>by rw[bB (bM e C (z _))];exact e
  have O:All2 (NameAt (aE B l (.lst ((ps++[p]).map V.ref)))) (ps++[p]) (j++[n]):=(h3.snoc hp).mono λb y e=>nl b _ e (by intro xs z;cases z);have x3:Cur K (bI T) c a bs (aE B l (.lst ((ps++[p]).map V.ref))) r2:=x.write x2 N W C;have k3:Keep c H (aE B l (.lst ((ps++[p]).map V.ref))):=N.put (.inr W);have I:aE B l (.lst ((ps++[p]).map V.ref)) l=some (.lst ((ps++[p]).map V.ref)):=aH;generalize aE B l (.lst ((ps++[p]).map V.ref))=H3 at O x3 k3 I;obtain⟨h1,i3,J,_,_⟩:=x3.ex;refine⟨_,Z,c,h1,_,Z,J,bW a i3 cT cU,c,a,bs,r2,125,Z,x3,λH4 x4 Y=>⟨_,Z,?_⟩⟩;have D:H4 l=some (.lst ((ps++[p]).map V.ref)):=Y _ _ I (bM I J (by intro z;cases z));have G:All2 (NameAt H4) (ps++[p]) (j++[n]):=O.mono λ_ _=>NameAt.keep Y J
  by_cases t:(tk 125 r2).1=true;·rw[aB t]at d;rw[<- d]at q;exact bK t ⟨_,Z,q H4 (.ref l) x4 (k3.trans Y) ⟨l,Z,W,ps++[p],D,G⟩⟩
  rw[aA t]at d;rw[fO t]at x4;refine bG (al_12.mpr t) ?_;refine⟨_,Z,l,_,Z,.inl (SqL.of D),Z,_,Z,?_⟩;have eN:decide (V.int (((ps++[p]).map V.ref).length:Int)=V.int 16)=decide (f=0):=by rw[aO,G.len,bF,dB];refine(qM (k:=16)).trans (al_43.mpr (by lia))
  rw[eN];by_cases f0:f=0;·rw[aB f0]at d;rw[<- d]at q;exact bK (bP f0) (aN (q H4 .non x4 (k3.trans Y) Z))
  rw[aA f0]at d;refine bG (bN f0) ?_;obtain⟨h2,i4,M,_,_⟩:=x4.ex;refine⟨_,Z,c,h2,_,Z,M,bW a i4 cT cU,c,a,bs,r2,44,Z,x4,λH5 x5 k5=>⟨_,Z,?_⟩⟩;have h0:=(k3.trans Y).trans k5;by_cases u:(tk 44 r2).1=true;·rw[aB u]at d;refine bG (bS not u) ?_;exact⟨j++[n],ps++[p],_,_,Z,by rw[bF,dB];lia,by lia,k5 _ _ D (bM D M (by intro z;cases z)),G.mono λ_ _=>NameAt.keep k5 M,x5,h0,d⟩
  rw[aA u]at d;rw[fO u]at x5;rw[<- d]at q;exact bK (bS not (al_12.mpr u)) (q H5 .non x5 h0 Z)
def Ww:bR P w base 6 T.bP ["cursor","denied"] (Wr K (bI T) (gF T)):=by
 refine aV T.bP.F ["cursor","denied","letters","name"] λh1 A h0 s H vs Q E D B h=> ?_;obtain⟨c,a,bs,r,d,rfl,x,q⟩:=h;refine⟨_,aF (bA 2 (aX (YV T) B (aC (pv 0) aD)))
  (aF (aY (fK (fT (pv 2))) (aG (aI dC)) bD)
  (aF (aY (bY (bZ (pv 0) (cZ T) B (aC (bC T.bk) aD)))
   (aG (aI (iM (zA T) B (aC (dH T.aX) (aC (pv 2) (aC (pv 1) aD)))))) bD)
  (aF (bA 3 (aX (YX T) B (aC (pv 2) (aC (pv 0) aD))))
  (aF (aY (fK (fT (pv 3))) (aG (aI dC)) bD)
  (aG (aI (iM (zA T) B (aC (dH T.bf) (aC (cE (aC (pv 3) aD)) (aC (pv 1) aD)))))))))),?_⟩
 try dsimp only [aT,aR,Cx.nox]
 refine⟨_,Z,c,a,bs,r,Z,x,λH1 v C N X=> ?_⟩;refine⟨_,Z,_,Z,?_⟩;unfold nV at q;generalize iA r=L at C X q;obtain⟨o,G⟩:=L;cases o with
 |none=>
  have e:v= .non:=X;subst e;exact aN (q H1 .non C N Z)
 |some y=>
  obtain⟨p,rfl,hp⟩:=X;dsimp only at q C;refine aQ ?_;obtain⟨I,i1,u,_,_⟩:=C.ex;refine⟨_,Z,c,I,_,Z,u,bW a i1 cT cU,c,a,bs,G,42,Z,C,λH2 x2 O=>⟨_,Z,?_⟩⟩;have z:=hp.keep O u;by_cases t:(tk 42 G).1=true;·rw[aB t]at q;refine bK t ⟨_,Z,_,Z,?_⟩;intro b k W D ne;refine⟨b,k,_,_,_,Z,aH,λf h3 U=>⟨Z,?_⟩⟩;have s3:Same H2 f:=Same.made W D U;exact q f _ (x2.same s3) ((N.trans O).trans (.of s3)) ⟨b,Z,p,⟨k,h3⟩,s3 _ _ z⟩
  rw[aA t]at q;rw[fO t]at x2;refine bG (al_12.mpr t) ?_;refine⟨_,Z,_,Z,c,a,p,y,bs,G,Z,z,x2,λf v3 b U Y=> ?_⟩;refine⟨_,Z,_,Z,?_⟩;generalize cN y.1 y.2 G=M at b Y q;obtain⟨o,r3⟩:=M;have i:=(N.trans O).trans U;cases o with
  |none=>
   have e:v3= .non:=Y;subst e;exact aN (q f .non b i Z)
  |some n=>
   obtain⟨p3,rfl,J⟩:=Y;dsimp only at q b;refine aQ ?_;refine⟨_,Z,by show 1<=sizeLine;decide,λl hl=>⟨_,Z,?_⟩⟩;intro x4 m W D ne;refine⟨x4,m,_,_,_,Z,aH,λH4 h4 k4=>⟨Z,?_⟩⟩;have s0:Same f (aE f l (.lst [.ref p3])):=Same.new hl;have s4:Same (aE f l (.lst [.ref p3])) H4:=Same.made W D k4;have j:=s0.trans s4;refine q H4 _ (b.same j) (i.trans (.of j)) ⟨x4,Z,l,⟨m,h4⟩,i.free (let⟨_,_,e⟩:=b.is;⟨_,e⟩) hl,[p3],s4 _ _ aH,?_⟩;exact All2.snoc (ps:=[]) (xs:=[]) .nil (j _ _ J)
def Wx:bR P w base 8 T.bF ["cursor"] (Ws K (bI T) (gF T)):=by
 refine aV T.bF.F ["cursor","denied"] λh7 A h6 s H vs Q E nd f h=> ?_;obtain⟨c,a,bs,r,rfl,x,q⟩:=h;obtain⟨dx,i,hc,_,_⟩:=x.ex;refine⟨_,aF (bA 1 (bZ (pv 0) (cZ T) f (aC (bC T.cx) aD)))
  (aF (aY (bY (bZ (pv 0) (cZ T) f (aC (bC T.s) aD)))
   (aG (aI (aX (Wu T) f (aC (pv 0) (aC (pv 1) aD))))) bD)
  (aF (aY (bY (bZ (pv 0) (cZ T) f (aC (bC T.cJ) aD)))
   (aG (aI (aX (YY T) f (aC (dH T.af) (aC (aX (EM T) f (aC (pv 0) aD)) (aC (pv 1) aD)))))) bD)
  (aF (aY (bY (bZ (pv 0) (cZ T) f (aC (bC T.cy) aD)))
   (aG (aI (aX (YY T) f (aC (dH T.bf) (aC (aX (Wv T) f (aC (pv 0) aD)) (aC (pv 1) aD)))))) bD)
  (aG (aI (aX (Ww T) f (aC (pv 0) (aC (pv 1) aD)))))))),?_⟩
 try dsimp only [aT,aR,Cx.nox]
 refine⟨_,Z,c,dx,_,Z,hc,bW a i cT cU,c,a,bs,r,33,Z,x,λH1 x1 k1=> ?_⟩;unfold oX vP at q;generalize (tk 33 r).1=d at q;generalize (tk 33 r).2=r1 at x1 q;obtain⟨W,i1,h0,_,_⟩:=x1.ex;refine⟨_,Z,c,W,_,Z,h0,bW a i1 cT cU,c,a,bs,r1,46,Z,x1,λH2 I k2=>⟨_,Z,?_⟩⟩;have l:=k1.trans k2;by_cases C:(tk 46 r1).1=true;·rw[aB C]at q;refine bK C ⟨_,Z,_,Z,c,a,bs,_,d,Z,I,λH3 p u k3 h3=> ?_⟩;exact q H3 _ u (l.trans k3) ⟨p,Z,h3.imp λt z=>l.free (let⟨_,_,e⟩:=I.is;⟨_,e⟩) z⟩
 rw[aA C]at q;rw[fO C]at I;refine bG (al_12.mpr C) ?_;obtain⟨X,i2,h1,_,_⟩:=I.ex;refine⟨_,Z,c,X,_,Z,h1,bW a i2 cT cU,c,a,bs,r1,61,Z,I,λH3 u k3=>⟨_,Z,?_⟩⟩;have m:=l.trans k3;by_cases D:(tk 61 r1).1=true
 ·rw[aB D]at q;refine bK D ⟨_,Z,c,a,bs,_,Z,u,λH4 v j M O=>⟨_,Z,?_⟩⟩;generalize cJ (tk 61 r1).2=L at j O q;obtain⟨o,r4⟩:=L;refine⟨_,v,d,Z,λe=> ?_,λe B p hp s5=> ?_⟩
  ·cases o with
   |none=>exact q H4 .non j (m.trans M) rfl
   |some n=>
    obtain⟨p,rfl,_⟩:=O;cases e
  cases o with
  |none=>exact absurd O e
  |some n=>
   obtain⟨p4,rfl,h4⟩:=O;exact q B _ (j.same s5) ((m.trans M).trans (.of s5)) ⟨p,Z,p4,hp,s5 _ _ h4⟩
 rw[aA D]at q;rw[fO D]at u;refine bG (al_12.mpr D) ?_;obtain⟨Y,i3,h2,_,_⟩:=u.ex;refine⟨_,Z,c,Y,_,Z,h2,bW a i3 cT cU,c,a,bs,r1,123,Z,u,λH4 j M=>⟨_,Z,?_⟩⟩;have b:=m.trans M;by_cases G:(tk 123 r1).1=true
 ·rw[aB G]at q;refine bK G ⟨_,Z,c,a,bs,_,Z,j,λB v J N k=>⟨_,Z,?_⟩⟩;generalize jM 16 [] (tk 123 r1).2=L at J k q;obtain⟨o,r5⟩:=L;refine⟨_,v,d,Z,λe=> ?_,λe H6 p hp U=> ?_⟩
  ·cases o with
   |none=>exact q B .non J (b.trans N) rfl
   |some n=>
    obtain⟨p,rfl,_⟩:=k;cases e
  cases o with
  |none=>exact absurd k e
  |some n=>
   obtain⟨p5,rfl,h5⟩:=k;exact q H6 _ (J.same U) ((b.trans N).trans (.of U)) ⟨p,Z,p5,hp,b.free (let⟨_,_,e⟩:=j.is;⟨_,e⟩) h5.1,h5.2.same (λ_ _ e=>U _ _ e) U⟩
 rw[aA G]at q;rw[fO G]at j;refine bG (al_12.mpr G) ?_;refine⟨_,Z,_,Z,c,a,bs,r1,d,Z,j,λB v J N k=>q B v J (b.trans N) ?_⟩;generalize (nV d r1).1=o at k;cases o with
 |none=>exact k
 |some y=>
  obtain⟨p,e,h⟩:=k;exact⟨p,e,h.imp λt z=>b.free (let⟨_,_,e⟩:=j.is;⟨_,e⟩) z⟩
inductive ZA(K:PySem.W.Frag)(C CA c a l:Addr)(bs r:Gh.Bytes)(H:Hp)(m:Nat)(σ:L2.St)(H':Hp):Prop
 |mk (had:List Gh.Atom) (ps:List Addr) (r':Gh.Bytes) (vn:Option V) (_:σ= [some (.ref c),some (.ref l),vn]) (_:had.length+m=64) (_:1<=m) (_:H' l=some (.lst (ps.map V.ref))) (_:All2 (AtomAt CA (λt=>t≠l) H') ps had) (_:Cur K C c a bs H' r') (_:Keep c H H') (_:iV m had r'=iV 64 [] r)
def Wy:bR P w base 9 T.bS ["cursor"] (Wt K (bI T) (gF T)):=by
 refine aV T.bS.F ["cursor","atoms","atom"] λh3 A h2 s H vs Q E nd hr h=> ?_;obtain⟨c,a,bs,r,rfl,x,q⟩:=h;refine⟨_,aF (bA 1 (cE aD))
  (aG (lP dR (bY eJ)
   (aF (bA 2 (aX (Wx T) hr (aC (pv 0) aD)))
   (aF (aY (fK (fT (pv 2))) (aG (aI dC)) bD)
   (aF (eY (fV fJ gO gP gR (pv 1) (aC (pv 2) aD)))
   (aF (aY (bY (fW (pv 0) (EG T) hr)) (aG (aI (pv 1))) bD)
   (aG (aY (PW.pt (jE (bT dS (fU gD (by rfl) T.i gC (aC (pv 1) aD)) (bC T.cK)) (kU (iI (bY (bZ (pv 0) (cZ T) hr (aC (bC T.ag) aD))))))) (aG (aI dC)) bD)))))))),?_⟩
 try dsimp only [aT,aR,Cx.nox]
 refine⟨bH _,λl hl=> ?_⟩;refine⟨ZA K (bI T) (gF T) c a l bs r H,⟨64,[],[],r,none,Z,Z,by decide,aH,.nil,x.same (Same.new hl),(Keep.refl c H).new hl,Z⟩,?_⟩;rintro m σ H1 ⟨G,ps,r1,vn,rfl,hm,h5,hL,hA,x1,k1,d⟩;obtain⟨h4,i1,O,_,_⟩:=x1.ex;obtain⟨f,rfl⟩:∃f,m=f+1:=⟨m-1,by lia⟩;refine⟨true,Z,aN ⟨ZA K (bI T) (gF T) c a l bs r H f,λh6 H' h=>⟨f,hU f,h⟩,?_⟩⟩;refine⟨_,Z,c,a,bs,r1,Z,x1,λB v x2 k2 o2=> ?_⟩;refine⟨_,Z,_,Z,?_⟩;rw[Wm f G r1]at d;generalize oX r1=L at x2 o2 d;obtain⟨o,X⟩:=L;have D:B l=some (.lst (ps.map V.ref)):=k2 _ _ hL (bM hL O (by intro z;cases z));have h0:All2 (AtomAt (gF T) (λt=>t≠l) B) ps G:=hA.mono λ_ _=>AtomAt.keep k2 O;have J:=k1.trans k2;cases o with
 |none=>
  have e:v= .non:=o2;subst e;rw[<- d]at q;exact aN (q B .non x2 J Z)
 |some n=>
  obtain⟨p,rfl,hp⟩:=o2;dsimp only at d x2;refine aQ ?_;have h1:AtomAt (gF T) (λt=>t≠l) B p n:=hp.imp λt z=>dJ (cH hL z);have U:(ps.map V.ref).length<sizeLine:=lF (by rw[aO,hA.len];lia);refine⟨_,Z,.inl ⟨Z,_,SqL.of D⟩,_,Z,l,_,_,Z,Z,D,U,?_⟩;have eM:ps.map V.ref++[V.ref p]=(ps++[p]).map V.ref:=by rw[dN];rfl
  rw[eM];have C:All2 (AtomAt (gF T) (λt=>t≠l) (aE B l (.lst ((ps++[p]).map V.ref)))) (ps++[p]) (G++[n]):=(h0.snoc h1).mono λb y e=>e.put D;have M:Cur K (bI T) c a bs (aE B l (.lst ((ps++[p]).map V.ref))) X:=x.write x2 J hl D;have W:Keep c H (aE B l (.lst ((ps++[p]).map V.ref))):=J.put (.inr hl);have j:aE B l (.lst ((ps++[p]).map V.ref)) l=some (.lst ((ps++[p]).map V.ref)):=aH;generalize aE B l (.lst ((ps++[p]).map V.ref))=H3 at C M W j;obtain⟨N,i3,I,_,_⟩:=M.ex;refine⟨_,Z,c,N,_,Z,I,bW a i3 EH EI,c,a,bs,X,Z,M,_,Z,?_⟩
  by_cases t:X=[];·rw[aB t]at d;rw[<- d]at q;exact bK (isEmpty_iff.mpr t) ⟨_,Z,q H3 (.ref l) M W ⟨l,Z,ps++[p],j,C.mono λ_ _ e=>e.imp λ_ _=>trivial⟩⟩
  rw[aA t]at d;refine bG (al_12.mpr λz=>t (isEmpty_iff.mp z)) ?_;refine⟨_,Z,l,_,Z,.inl (SqL.of j),Z,_,Z,?_⟩;have eN:decide (V.int (((ps++[p]).map V.ref).length:Int)=V.int 64)=decide (f=0):=by rw[aO,C.len,bF,dB];refine(qM (k:=64)).trans (al_43.mpr (by lia))
  rw[eN];by_cases Y:f=0;·rw[aB Y]at d;rw[<- d]at q;exact bK (bP Y) (aN (q H3 .non M W Z))
  rw[aA Y]at d;refine bG (bN Y) ?_;refine⟨_,Z,c,N,_,Z,I,bW a i3 cT cU,c,a,bs,X,32,Z,M,λH5 x5 k5=>⟨_,Z,?_⟩⟩;by_cases u:(tk 32 X).1=true;·rw[aB u]at d;refine bG (bS not u) ?_;exact⟨G++[n],ps++[p],_,_,Z,by rw[bF,dB];lia,by lia,k5 _ _ j (bM j I (by intro z;cases z)),C.mono λ_ _=>AtomAt.keep k5 I,x5,W.trans k5,d⟩
  rw[aA u]at d;rw[fO u]at x5;rw[<- d]at q;exact bK (bS not (al_12.mpr u)) (q H5 .non x5 (W.trans k5) Z)
end
section
variable{K:PySem.W.Frag}
def Wz{x a:Str}{st:Stmt}{f:Addr}{j:FuncData}{ps:List Str}(F:Fun K x a st f j)
  (h:∀(kV c i:Value) (d:Option Addr) (b e:Value) (us:List Value),us.length=ps.length->bindArgs (PySem.W.fnOf x a (qD st) (nT st) (gE st) .none kV c i d b e) ⟨us,[]⟩=pure (ps.zip us)):
  ∀(s:Shared) (us:List Value),us.length=ps.length->BindsTo s j ⟨us,[]⟩ (ps.zip us):=by
 obtain⟨o,p,kV,c,i,d,b,e,m,rfl,n,k⟩:=F.ex;exact λs us l=> .of_eq (h kV c i d b e us l)
end
def EN:∀{ns:List Int},(∀z∈ns,0<=z/\z<=255)->ns.map V.int=bv (GlyphHNeutral.text ns)
 | [],_=>rfl
 |z::ns,h=>by
  have hz:=h z (cF ..);have e:(((UInt8.ofNat z.toNat).toNat:Nat):Int)=z:=by
   rw[UInt8.toNat_ofNat'];lia
  show V.int z::ns.map V.int=V.int (((UInt8.ofNat z.toNat).toNat:Nat):Int)::bv (GlyphHNeutral.text ns);rw[e,EN λy a=>h y (cA _ a)]
section
variable{X:Cx}
def Xa(K:PySem.W.Frag):R2:=λx y H Q=>∃a b xs,x= .ref a/\y= .ref b/\SqL K H a xs/\SqL K H b []/\Q (.bl xs.isEmpty) H
def Xb(K:PySem.W.Frag):R2:=λx y H Q=>∃a b xs,x= .ref a/\y= .ref b/\SqL K H a xs/\SqL K H b []/\Q (.bl (!xs.isEmpty)) H
def wG(d:X.A.units<cLine):eZ X (compareOp .Eq) (Xa X.K):=by intro pins s σ H x y v u Q I n o h;obtain⟨a,b,xs,rfl,rfl,c,k,q⟩:=h;cases n;cases o;obtain⟨l,r,p,_⟩:=I.list c;obtain⟨f,m,i,_⟩:=I.list k;cases m;cases r with|nil=>exact SeqAt.eq_listAt (e:=λ_=>true) p.isList i.isList rfl d (λj c=>absurd c (uW j)) ⟨.bl true,H,I,Z,q⟩|cons _ _=>exact SeqAt.eq_list_lengthsAt p.isList i.isList (by simp) d ⟨.bl false,H,I,Z,q⟩
def wH(d:X.A.units<cLine):eZ X (compareOp .NotEq) (Xb X.K):=by intro pins s σ H x y v u Q I n o h;obtain⟨a,b,xs,rfl,rfl,c,k,q⟩:=h;cases n;cases o;obtain⟨l,r,p,_⟩:=I.list c;obtain⟨f,m,i,_⟩:=I.list k;cases m;cases r with|nil=>exact SeqAt.RcNeAt.lists (e:=λ_=>true) p.isList i.isList rfl d (λj c=>absurd c (uW j)) X.prog X.w X.xe _ ⟨.bl false,H,I,Z,q⟩|cons _ _=>exact SeqAt.RcNeAt.lists_lengths p.isList i.isList (by simp) d X.prog X.w X.xe _ ⟨.bl true,H,I,Z,q⟩
def Xc(K:PySem.W.Frag):R2:=λx y H Q=>∃d ds,Dp K H x d/\Dp K H y (.list ds)/\SeqAt.shaped d=true/\PyData.canLayAll0 ds=true/\Q (.bl (ds.any λz=>PyData.eqv z d)) H
def LS(e:X.A.units+65<cLine):eZ X (compareOp .In) (Xc X.K):=by intro pins s σ H x y v u Q I j k h;obtain⟨d,ds,b,c,a,l,q⟩:=h;obtain⟨as,f⟩:=Dp.reads I d x v b j;obtain⟨bs,i⟩:=Dp.reads I (.list ds) y u c k;exact SeqAt.in_list_reads i f l (SeqAt.canLay_of_shaped a) (room_in_shaped a e) ⟨.bl _,H,I,Z,q⟩
def ZB:∀{xs:List V} {us:List Value},Vals xs us->Vals xs.reverse us.reverse
 |_,_,.nil=> .nil
 |_,_,.cons r t=>by rw[oO,oO];exact(ZB t).append (.cons r .nil)
def ZC(K:PySem.W.Frag)(d e:TE):TE:=λσ H Q=>d σ H λx c=>e σ c λz b=>z= .int (-1)/\∃a xs,x= .ref a/\SqL K b a xs/\∀p,b p=none->Q (.ref p) (aE b p (.lst xs.reverse))
def Xd{e st:Expr}{m n:TE}{l i:Pos}(E:PE X e m)(F:PE X st n):PE X (.Subscript e (.Slice none none (some st) l) i) (ZC X.K m n):=by
 intro pins s σ H Q I h;refine Subscript_ (thn (E pins s σ H _ I h) λv P ⟨x,p,B,N,L⟩=> ?_);refine wpAny_Slice ?_;rw[evalPart_none];refine aW ?_;refine aW ?_;rw[evalPart_some];refine thn (F pins P σ p _ B L) λu c ⟨z,y,C,O,D,a,xs,ex,G,M⟩=> ?_;subst D ex;obtain⟨t,rfl⟩:=O;cases N;have d:Inv X pins σ y {c with heap:=c.heap.push {cls:= .type "slice",data:= .fields #[.none,.none,.int (-1) t]}}:=C.kept (t':=c.toks) λb J q=>dZ _ q;obtain⟨f,r,k,hz⟩:=d.list G;have j:=r.length
 show wpAny (model X.prog X.w) X.A (subscriptTail e (.Slice none none (some st) l) (.ref a) (.ref c.heap.objs.size)) (EP X pins σ Q) X.xe {c with heap:=c.heap.push {cls:= .type "slice",data:= .fields #[.none,.none,.int (-1) t]}};refine tail_any (ops:=[.ref a,.ref c.heap.objs.size]) k.isList.typeIs slot_list_getitem.lookup ?_ (by with_unfolding_all rfl);refine wpAny_getItem_list_slice k.isList (Heap.IsSliceOf.new ..) .none .none (.int (-1) t) (by intro z;cases z) ?_ (by rw[dL];lia);rw[PySem.W.krv_pick];refine⟨.ref _,_,d.laid (t':=c.toks) (o:= .lst xs.reverse) (λb J q=>dZ _ q) (aK _) ?_,Z,M _ (d.hok.fresh (aK _))⟩;exact⟨by rw[mJ];exact hz,f.reverse,0,ZB r,gB _ rfl⟩
end
def nA:List Int->List Int->Bool
 | [],_=>true
 |_::_,[]=>false
 |x::xs,y::ys=>if x=y then nA xs ys else decide (x<=y)
def zB(x y:Int)(xs ys:List Int):nA (x::xs) (y::ys)=if x=y then nA xs ys else decide (x<=y):=rfl
def Xe(A:Around)(s:Shared)(a:Int)(t:Tok)(c:Int)(u:Tok)(prog:Program)(w:World)(E:Value->Shared->Prop)(Q:Value->Shared->Prop)(h:Q (.bool (decide (a<=c))) s):
  wpAny (model prog w) A (richCompare .LtE (.int a t) (.int c u)) Q E s:=
 (PyProof.Rows.le_int h:wpAny (model prog w) A (compareOp .LtE (.int a t) (.int c u)) Q E s)
section
open PySem.SeqAt
open PySem.AutoSeq1 (wpAny_loadPart')
open PySem.MeetsSeq PySem.MeetsSeq2 PySem.MeetsSeq3
def Xf(l b:Addr)(i f:Array Value)(n W:Nat)(N G:Option Addr)(X K:Array (Option Value))(ns ms:List Int)(hi:IntsAre i.toList ns)(L:IntsAre f.toList ms):
  Meets (Builtin.«tuple.__le__» ⟨[.ref l,.ref b],[]⟩)
   (λ_ R s=>s.heap.get? l=some { cls := .type "tuple",dict:=N,data := .seq i n,slots:=X }/\s.heap.get? b=some { cls := .type "tuple",dict:=G,data := .seq f W,slots:=K } /\
    R (.ok (.ret (.bool (nA ns ms)))) s):=
 .of_wp λprog w A R s h=>by
  obtain⟨D,g,d,tk,E⟩:=s;obtain⟨Q,O,h⟩:=h;have f2:=AutoSeq1.sub_tuple_tuple;have z1:i.size=ns.length:=by rw[<- hi.length];simp
  have z2:f.size=ms.length:=by rw[<- L.length];simp
  wp_walk using NN Q,NN O,wpAny_forIn_list _ (λr b J=>b.1=none/\J=⟨D,g,d,tk,E⟩/\∃ (vs F:List Value) (m k:List Int),r=vs.zip F /\
   IntsAre vs m/\IntsAre F k/\m.length+f.size=k.length+i.size/\R (.ok (.ret (.bool (nA m k)))) ⟨D,g,d,tk,E⟩) _
  case turn=>
   rintro⟨y,x⟩ r b J ⟨v,rfl,vs,F,m,k,hz,B,C,j,o⟩;cases B with
   |nil=>rw[List.zip_nil_left]at hz;cases hz
   |cons a t hvi'=>
    cases C with
    |nil=>rw[List.zip_nil_right]at hz;cases hz
    |cons c u hwi'=>
     rw[List.zip_cons_cons]at hz;injection hz with I z
     injection I with U T;subst U T;rw[zB]at o;simp only [cG]at j;obtain⟨e,P,p⟩:=HT.eqAt_int A.in1 ⟨D,g,d,tk,E⟩ a t c u;refine aJ (P prog w _ _ ?_);cases e with
     |true=>
      rw[aB (p.mp Z)]at o
      wp_walk
      exact⟨Z,Z,_,_,_,_,z,hvi',hwi',by lia,o⟩
     |false=>
      rw[aA (λq=>absurd (p.mpr q) bX)]at o;have H:=Xe A.in1 ⟨D,g,d,tk,E⟩ a t c u prog w
      wp_walk using H
      exact⟨_,Z,by simpa using o⟩
  case fin=>
   rintro⟨Y,b2⟩ J ⟨v,rfl,vs,F,m,k,hz,B,C,j,o⟩;simp only at v;subst v;have M:nA m k=decide (i.size<=f.size):=by
    cases B with
    |nil=>
     simp only [uR]at j;exact(bP (by lia)).symm
    |cons a t M=>
     cases C with
     |nil=>
      simp only [uR,cG]at j;exact(bN (by lia)).symm
     |cons c u hw=>
      rw[List.zip_cons_cons]at hz;cases hz
   rw[M]at o
   wp_walk
   exact⟨_,Z,by simpa [Builtin.Tuple.tupleCompareSizes]using o⟩
  case h=>
   exact⟨Z,Z,i.toList,f.toList,ns,ms,Z,hi,L,by lia,h⟩
end
section
def Xg(z:IsTup s.heap l c)(v:IsTup s.heap b a)(hi:IntsAre c.toList ns)(y:IntsAre a.toList ms)
  (B:A.units<cLine) (h:Q (.bool (nA ns ms)) s):wpAny (model prog w) A (compareOp .LtE (.ref l) (.ref b)) Q E s:=by
 obtain⟨⟨cls,u,o,D⟩,r,p,n,q⟩:=id z;obtain⟨⟨m,j,i,k⟩,f,d,C,e⟩:=id v;simp only at p q d e;subst p q d e;exact richCompare_meets_room (op:= .LtE) ⟨_,r,Z⟩ ⟨_,f,Z⟩ PySem.F.slot_tuple_le PySem.F.entry_tuple_le (PySem.F.args_tuple_le_2 _ _) (Xf l b c a n C u j D k ns ms hi y)
  ⟨r,f,show Value.bool (nA ns ms)≠Value.notImplemented/\Q (.bool (nA ns ms)) s from⟨(λx=>nomatch x),h⟩⟩ B
end
section
def Xh(K:PySem.W.Frag):R2:=λx y H Q=>∃a b ns ms,x= .ref a/\y= .ref b/\SqT K H a (ns.map V.int)/\SqT K H b (ms.map V.int)/\Q (.bl (nA ns ms)) H
def Xi(f:X.A.units<cLine):eZ X (compareOp .LtE) (Xh X.K):=by intro pins s σ H x y v u Q I l m h;obtain⟨a,b,ns,ms,rfl,rfl,d,e,q⟩:=h;cases l;cases m;obtain⟨i,r,p,_⟩:=I.tuple d;obtain⟨c,k,j,_⟩:=I.tuple e;exact Xg p j (by simpa using OW r) (by simpa using OW k) f ⟨.bl _,H,I,Z,q⟩
end
def cv(a:List Bool):List V:=a.map λb=>V.int (if b=true then 35 else 46)
def mE(a:List Bool):(cv a).length=a.length:=aO _
def CellsAt(B:Addr->Prop)(H:Hp)(p:Addr)(a:List Bool):Prop:=B p/\H p=some (.lst (cv a))
def ShapeAt(B:Addr->Prop)(H:Hp)(p:Addr)(a:List (List Bool)):Prop:=B p/\ListAt (CellsAt B) H p a
def gf(t s k:V):List (Str×V):=aL "ink" k (aL "shape" s (aL "name" t []))
def Xj:¬("name":Str)="ink":=by decide +kernel
def Xk:¬("shape":Str)="ink":=by decide +kernel
def Xl:¬("name":Str)="shape":=by decide +kernel
def Xm:¬("name":Str)="at":=by decide +kernel
def Xn:¬("name":Str)="data":=by decide +kernel
def oI(t s k:V):(gf t s k).lookup ("name":Str)=some t:=by unfold gf;rw[bV,aA Xj,bV,aA Xl,bV,aB rfl]
def qN(t s k:V):(gf t s k).lookup ("shape":Str)=some s:=by unfold gf;rw[bV,aA Xk,bV,aB rfl]
def ZD(t s k:V):(gf t s k).lookup ("ink":Str)=some k:=by unfold gf;rw[bV,aB rfl]
def Xo:HO.ins c d (gf t s k)≠HO.ins C b (cf a i):=by
 intro z;injection z with _ _ f
 have e:=oI t s k;rw[f,bW a i Xm Xn]at e;cases e
inductive SignAt(CS:Addr)(B:Addr->Prop)(H:Hp)(p:Addr)(x:Gh.Sign):Prop
 |mk (dx t s:Addr) (_:H p=some (.ins CS dx (gf (.ref t) (.ref s) (.int ((eW x.shape.rows:Nat):Int))))) (_:NameAt H t x.name) (_:ShapeAt B H s x.shape.rows)
def Mv(B:Addr->Prop)(H H':Hp):Prop:=∀b o,H b=some o->(∀xs,o= .lst xs->B b)->(∀C c a i,o≠ .ins C c (cf a i))->H' b=some o
section
def Mv.same(s:Same H H'):Mv B H H':=λb o h _ _=>s b o h
def Mv.keep(k:Keep c H H')(e:H c=some (.ins C d (cf a i))):Mv B H H':=λb o h _ n=>k b o h (bM h e (n C d a i))
def Mv.put(c:H l=some (.lst xs)):Mv (λt=>t≠l) H (aE H l (.lst ys)):=λb o h e _=>by
 have d:b≠l:=λz=>by
  have a:=h;rw[z,c]at a;injection a with a
  exact e xs a.symm z
 rw[bB d];exact h
def CellsAt.move(m:Mv B H H')(h:CellsAt B H p a):CellsAt B H' p a:=⟨h.1,m _ _ h.2 (λ_ _=>h.1) (λ_ _ _ _ z=>by cases z)⟩
def ShapeAt.move(m:Mv B H H')(h:ShapeAt B H p a):ShapeAt B H' p a:=by obtain⟨b,ps,c,d⟩:=h;exact⟨b,ps,m _ _ c (λ_ _=>b) (λ_ _ _ _ z=>by cases z),d.mono λ_ _=>CellsAt.move m⟩
def NameAt.move(m:Mv B H H')(h:NameAt H p n):NameAt H' p n:=m _ _ h (λ_ z=>by cases z) (λ_ _ _ _ z=>by cases z)
def SignAt.move(m:Mv B H H')(h:SignAt a B H p x):SignAt a B H' p x:=by obtain⟨b,t,s,c,d,e⟩:=h;exact⟨b,t,s,m _ _ c (λ_ z=>by cases z) (λ_ _ _ _=>Xo),d.move m,e.move m⟩
def CellsAt.imp(f:∀t,B t->B' t)(h:CellsAt B H p a):CellsAt B' H p a:=⟨f _ h.1,h.2⟩
def ShapeAt.imp(f:∀t,B t->B' t)(h:ShapeAt B H p a):ShapeAt B' H p a:=by obtain⟨d,ps,b,c⟩:=h;exact⟨f _ d,ps,b,c.mono λ_ _=>CellsAt.imp f⟩
def SignAt.imp(f:∀t,B t->B' t)(h:SignAt a B H p x):SignAt a B' H p x:=by obtain⟨b,t,s,c,d,e⟩:=h;exact⟨b,t,s,c,d,e.imp f⟩
end
section
variable{K:PySem.W.Frag}{H:Hp}
def All2.cons_inv(h:All2 c (p::ps) (x::xs)):c p x/\All2 c ps xs:=
 ⟨h.at_ 0 p x Z Z,⟨Nat.succ.inj h.len,λi q y a b=>h.at_ (i+1) q y a b⟩⟩
def zC:∀{ps:List Addr} {xs:List α},All2 (λp x=>Dp K H (.ref p) (f x)) ps xs->rJ K H (ps.map V.ref) (xs.map f)
 | [],[],_=> .nil
 | [],_::_,h=>by have:=h.len;simp at this
 |_::_,[],h=>by have:=h.len;simp at this
 |_::_,_::_,h=> .cons h.cons_inv.1 (zC h.cons_inv.2)
def zD:∀(ns:List Int),rJ K H (ns.map V.int) (ns.map PyData.int)
 | []=> .nil
 |n::ns=> .cons (.int n) (zD ns)
def zE:∀(ns ms:List Int),PyData.eqvAll (ns.map PyData.int) (ms.map PyData.int)=decide (ns=ms)
 | [],[]=>by simp [PyData.eqvAll]
 | [],_::_=>by simp [PyData.eqvAll]
 |_::_,[]=>by simp [PyData.eqvAll]
 |n::ns,m::ms=>by
  rw[fE,fE];show(PyData.eqv (.int n) (.int m)&&PyData.eqvAll (ns.map PyData.int) (ms.map PyData.int))=_;rw[zE ns ms];show((n==m)&&decide (ns=ms))=_;by_cases a:n=m<;>by_cases b:ns=ms<;>simp [a,b]
def zF:∀(ns:List Int),PyData.canLayAll0 (ns.map PyData.int)=true
 | []=>by simp [PyData.canLayAll0]
 |n::ns=>by rw[fE];simp [PyData.canLayAll0,PyData.canLay0,zF ns]
def zG:∀(ns:List Int),PyData.depthAll (ns.map PyData.int)=0
 | []=>by simp [PyData.depthAll]
 |n::ns=>by rw[fE];simp [PyData.depthAll,PyData.depth,zG ns]
def wI{f:α->PyData}(h:∀x,(f x).canLay0=true):∀xs:List α,PyData.canLayAll0 (xs.map f)=true
 | []=>by simp [PyData.canLayAll0]
 |x::xs=>by rw[fE];simp [PyData.canLayAll0,h x,wI h xs]
def ZE{f:α->PyData}(h:∀x,(f x).depth<=d):∀xs:List α,PyData.depthAll (xs.map f)<=d
 | []=>by simp [PyData.depthAll]
 |x::xs=>by
  rw[fE];show max (f x).depth (PyData.depthAll (xs.map f))<=d;exact Nat.max_le.mpr ⟨h x,ZE h xs⟩
def ZF[DecidableEq α](h:∀x y,PyData.eqv (f x) (f y)=decide (x=y)):∀(xs ys:List α),PyData.eqvAll (xs.map f) (ys.map f)=decide (xs=ys)
 | [],[]=>by simp [PyData.eqvAll]
 | [],_::_=>by simp [PyData.eqvAll]
 |_::_,[]=>by simp [PyData.eqvAll]
 |n::ns,m::ms=>by
  rw[fE,fE];show(PyData.eqv (f n) (f m)&&PyData.eqvAll (ns.map f) (ms.map f))=_;rw[ZF h ns ms,h];by_cases a:n=m<;>by_cases b:ns=ms<;>simp [a,b]
def any_map[BEq α][LawfulBEq α][DecidableEq α](h:∀x y,PyData.eqv (f x) (f y)=decide (x=y))(y:α):∀xs:List α,((xs.map f).any λz=>PyData.eqv z (f y))=xs.contains y
 | []=>rfl
 |x::xs=>by
  rw[fE,lI,any_map h y xs,h,qZ];congr 1;by_cases e:x=y;·rw[e];simp
  rw[bN e];exact(al_35.mpr λz=>e z.symm).symm
def bi(u:Gh.Bytes):List Int:=u.map λc=>((c.toNat:Nat):Int)
def Xp(u:Gh.Bytes):bv u=(bi u).map V.int:=by unfold bv bi;rw[pO];rfl
def ZG:∀{u v:Gh.Bytes},bi u=bi v->u=v
 | [],[],_=>rfl
 | [],_::_,h=>by cases h
 |_::_,[],h=>by cases h
 |x::u,y::v,h=>by have a:((x.toNat:Nat):Int)=((y.toNat:Nat):Int):=(List.cons.inj h).1;have b:bi u=bi v:=(List.cons.inj h).2;rw[al_64.mp (pR a),ZG b]
def qO(u:Gh.Bytes):PyData:= .list ((bi u).map PyData.int)
def Xq(u v:Gh.Bytes):PyData.eqv (qO u) (qO v)=decide (u=v):=by
 show PyData.eqvAll _ _=_;rw[zE];exact al_43.mpr ⟨ZG,λe=>by rw[e]⟩
def ZH(u:Gh.Bytes):(qO u).canLay0=true:=by
 show PyData.canLayAll0 _=true;exact zF _
def Xr(u:Gh.Bytes):(qO u).depth<=1:=by
 show PyData.depthAll _+1<=1;rw[zG];exact aK _
def uH(h:d.canLay0=true)(a:d.depth<=k)(b:k<=64):SeqAt.shaped d=true:=by unfold SeqAt.shaped;rw[h,bP (aZ a b)];rfl
def ZI(h:SqL K H a (bv u)):Dp K H (.ref a) (qO u):=by rw[Xp]at h;exact .lst h (zD _)
def ni(n:Gh.Name):List Int:=[((n.big.toNat:Nat):Int),((n.small.toNat:Nat):Int),((n.number:Nat):Int),((n.kind.toNat:Nat):Int)]
def ZJ(h:ni n=ni m):n=m:=by obtain⟨a,b,c,d⟩:=n;obtain⟨k,l,o,d'⟩:=m;unfold ni at h;simp only [List.cons.injEq,and_true]at h;obtain⟨e,f,i,j⟩:=h;rw[al_64.mp (pR e),al_64.mp (pR f),pR i,al_64.mp (pR j)]
def nB(n:Gh.Name):PyData:= .tuple ((ni n).map PyData.int)
def LT(u v:Gh.Name):PyData.eqv (nB u) (nB v)=decide (u=v):=by
 show PyData.eqvAll _ _=_;rw[zE];exact al_43.mpr ⟨ZJ,λe=>by rw[e]⟩
def wJ(u:Gh.Name):(nB u).canLay0=true:=by
 show PyData.canLayAll0 _=true;exact zF _
def EO(u:Gh.Name):(nB u).depth<=1:=by
 show PyData.depthAll _+1<=1;rw[zG];exact aK _
def zH(h:NameAt H a n):Dp K H (.ref a) (nB n):= .tup (SqT.of h) (zD (ni n))
def ci(a:List Bool):List Int:=a.map λb=>if b=true then 35 else 46
def ZK:∀{u v:List Bool},ci u=ci v->u=v
 | [],[],_=>rfl
 | [],_::_,h=>by cases h
 |_::_,[],h=>by cases h
 |x::u,y::v,h=>by have a:(if x=true then(35:Int)else 46)=(if y=true then 35 else 46):=(List.cons.inj h).1;have b:ci u=ci v:=(List.cons.inj h).2;rw[ZK b];cases x<;>cases y<;>first|rfl|(exact absurd a (by decide))
def Xs(a:List Bool):cv a=(ci a).map V.int:=by unfold cv ci;rw[pO];rfl
def wK(a:List Bool):PyData:= .list ((ci a).map PyData.int)
def Xt(u v:List Bool):PyData.eqv (wK u) (wK v)=decide (u=v):=by
 show PyData.eqvAll _ _=_;rw[zE];exact al_43.mpr ⟨ZK,λe=>by rw[e]⟩
def Xu(u:List Bool):(wK u).canLay0=true:=by
 show PyData.canLayAll0 _=true;exact zF _
def Xv(u:List Bool):(wK u).depth<=1:=by
 show PyData.depthAll _+1<=1;rw[zG];exact aK _
def Xw{B:Addr->Prop}(h:CellsAt B H a b):Dp K H (.ref a) (wK b):=by have c:=h.2;rw[Xs]at c;exact .lst (SqL.of c) (zD _)
def sF(a:List (List Bool)):PyData:= .list (a.map wK)
def Xx(u v:List (List Bool)):PyData.eqv (sF u) (sF v)=decide (u=v):=by
 show PyData.eqvAll _ _=_;exact ZF Xt u v
def ZL(u:List (List Bool)):(sF u).canLay0=true:=by
 show PyData.canLayAll0 _=true;exact wI Xu u
def Xy(u:List (List Bool)):(sF u).depth<=2:=by
 show PyData.depthAll _+1<=2;exact kR (ZE Xv u)
def ZM{B:Addr->Prop}(h:ShapeAt B H a b):Dp K H (.ref a) (sF b):=by obtain⟨_,ps,c,d⟩:=h;exact .lst (SqL.of c) (zC (d.mono λ_ _=>Xw))
end
section
variable{P:Program}{w:World}{K:PySem.W.Frag}{mg:Str->Option Value}{base:Heap}(T:Txt K mg)
def ZN(a:Room k A):A.units+65<cLine:=by have:=a.un;lia
def Xz(a:p 0=false)(h:(tp p r).1=0):(tp p r).2=r:=by
 rcases jN p r with⟨_,h2,_⟩|⟨c,hc,_,h1⟩;·exact h2
 rw[h]at h1;rw[<- h1,a]at hc;cases hc
def Ya:Gh.isSmall 0=false:=by decide
def Yb(u:Gh.Bytes)(c:UInt8):bv u++[V.int ((c.toNat:Nat):Int)]=bv (u++[c]):=by unfold bv;rw[dN];rfl
inductive Yc(CS:Addr)(vs:List V)(H:Hp)(Q:VK)(E:XK):Prop
 |mk (x dx sa:Addr) (t:V) (B:Addr->Prop) (rows:List (List Bool)) (_:vs=[.ref x,t,.ref sa]) (_:H x=some (.ins CS dx [])) (_:ShapeAt B H sa rows) (_:∀H':Hp,H' x=some (.ins CS dx (gf t (.ref sa) (.int ((eW rows:Nat):Int))))->Keep x H H'->Q .non H')
inductive Yd(K:PySem.W.Frag)(C:Addr)(vs:List V)(H:Hp)(Q:VK)(E:XK):Prop
 |mk (c a:Addr) (bs r:Gh.Bytes) (_:vs=[.ref c]) (_:Cur K C c a bs H r) (_:∀(H':Hp) (l:Addr),Cur K C c a bs H' (dI 8 r).2->Keep c H H'->H l=none->H' l=some (.lst (bv (dI 8 r).1))->Q (.ref l) H')
inductive Ye(K:PySem.W.Frag)(C:Addr)(vs:List V)(H:Hp)(Q:VK)(E:XK):Prop
 |mk (c a:Addr) (bs r:Gh.Bytes) (_:vs=[.ref c]) (_:Cur K C c a bs H r) (_:(fC 8 [] r=none->∀H':Hp,Keep c H H'->Q (.bl false) H')) (_:∀s r',fC 8 [] r=some (s,r')->∀H':Hp,Cur K C c a bs H' r'->Keep c H H'->Q (.bl true) H')
inductive Yf(K:PySem.W.Frag)(C:Addr)(vs:List V)(H:Hp)(Q:VK)(E:XK):Prop
 |mk (c a:Addr) (bs r:Gh.Bytes) (_:vs=[.ref c]) (_:Cur K C c a bs H r) (_:(kG [115,105,103,110,32] r=none->∀H':Hp,Keep c H H'->Q (.bl false) H')) (_:∀r',kG [115,105,103,110,32] r=some r'->∀H':Hp,Cur K C c a bs H' r'->Keep c H H'->Q (.bl true) H')
inductive Yg(K:PySem.W.Frag)(C:Addr)(vs:List V)(H:Hp)(Q:VK)(E:XK):Prop
 |mk (c a:Addr) (bs r:Gh.Bytes) (_:vs=[.ref c]) (_:Cur K C c a bs H r) (_:(mU r=none->∀H':Hp,Keep c H H'->Q .non H')) (_:∀n s r',mU r=some ((n,s),r')->∀(H':Hp) (p:Addr),Cur K C c a bs H' r'->Keep c H H'->NameAt H' p n->Q (.ref p) H')
inductive Yh(K:PySem.W.Frag)(C:Addr)(vs:List V)(H:Hp)(Q:VK)(E:XK):Prop
 |mk (c a:Addr) (bs r:Gh.Bytes) (_:vs=[.ref c]) (_:Cur K C c a bs H r) (_:(jO r=none->∀H':Hp,Keep c H H'->Q .non H')) (_:∀row r',jO r=some (row,r')->∀(H':Hp) (p:Addr),Cur K C c a bs H' r'->Keep c H H'->CellsAt (λt=>H t=none) H' p row->Q (.ref p) H')
inductive Yi(vs:List V)(H:Hp)(Q:VK)(E:XK):Prop
 |mk (p:Addr) (B:Addr->Prop) (rows:List (List Bool)) (_:vs=[.ref p]) (_:ShapeAt B H p rows) (_:Q (.int ((eW rows:Nat):Int)) H)
def Yj{a:List Bool}{i:Nat}{y:V}(h:(cv a)[i]? =some y):∃b,a[i]? =some b/\y=V.int (if b=true then 35 else 46):=by unfold cv at h;rw[fL]at h;cases e:a[i]? with|none=>rw[e]at h;cases h|some b=>rw[e]at h;exact⟨b,Z,(cV h).symm⟩
inductive Yk(ps:List Addr)(i:Nat)(y:V):Prop
 |mk (p:Addr) (_:ps[i]? =some p) (_:y=V.ref p)
def pH{ps:List Addr}{i:Nat}{y:V}(h:(ps.map V.ref)[i]? =some y):Yk ps i y:=by rw[fL]at h;cases e:ps[i]? with|none=>rw[e]at h;cases h|some b=>rw[e]at h;exact⟨b,e,(cV h).symm⟩
inductive Yl{α:Type}(rel:Addr->α->Prop)(xs:List α)(i:Nat)(p:Addr):Prop
 |mk (x:α) (_:xs[i]? =some x) (_:rel p x)
def All2.sm{α:Type}{a:Addr->α->Prop}{ps:List Addr}{xs:List α}{i:Nat}{p:Addr}(h:All2 a ps xs)(e:ps[i]? =some p):Yl a xs i p:=by
 have hi:i<xs.length:=by rw[<- h.len];exact(al_19.mp e).1
 exact⟨xs[i],cM hi,h.at_ i p _ e (cM hi)⟩
def lG{l:List α}(h:l[i]? =some x):l.take (i+1)=l.take i++[x]:=by rw[List.take_add_one,h];rfl
def Ym:bR P w base 1 T.bp ["shape"] Yi:=by
 refine aV T.bp.F ["shape","cells","row","cell"] λI A r s H vs Q E O N h=> ?_;obtain⟨p,B,c,rfl,⟨_,ps,D,z⟩,q⟩:=h;refine⟨_,aF (bA 1 bQ)
  (aF (gQ dR Z (jK (pv 0)) (dP 2)
   (aG (gQ dR Z (jK (pv 2)) (dP 3)
    (aG (bA 1 (dO vH (dO AZ (pv 1) bQ) (mK (bT dS (pv 3) (bC T.v)) bQ bQ)))))))
  (aG (aI (pv 1)))),?_⟩
 try dsimp only [aT,aR,Cx.nox]
 refine⟨_,Z,p,Z,⟨_,SqL.of D⟩,mM (K:=K) (a:=p) (xs:=ps.map V.ref) (λi σ H'=>H'=H/\∃u f:Option V,σ= [some (.ref p),some (.int ((eW (c.take i):Nat):Int)),u,f])
  ⟨Z,none,none,Z⟩ (by rintro i σ H' _ ⟨e,_⟩;rw[e];exact SqL.of D) ?_ ?_⟩
 ·rintro i y σ x hi ⟨rfl,u,f,rfl⟩;obtain⟨l,o,rfl⟩:=pH hi;obtain⟨d,n,C⟩:=z.sm o;refine⟨_,Z,l,Z,⟨_,SqL.of C.2⟩,mM (K:=K) (a:=l) (xs:=cv d) (λj σ H'=>H'=x/\∃f:Option V,σ= [some (.ref p),some (.int ((kN (eW (c.take i)) (d.take j):Nat):Int)),some (.ref l),f])
   ⟨Z,f,Z⟩ (by rintro j σ H' _ ⟨e,_⟩;rw[e];exact SqL.of C.2) ?_ ?_⟩
  ·rintro j y σ G L ⟨rfl,f,rfl⟩;obtain⟨b,J,rfl⟩:=Yj L;refine⟨_,Z,_,_,Z,Z,.inr ⟨by decide,by decide⟩,_,Z,Z,_,Z,?_⟩;have m:∀k:Int,k=(if b=true then 1 else 0)->([some (V.ref p),some (V.int (((kN (eW (c.take i)) (d.take j):Nat):Int)*2+k)),some (V.ref l),some (V.int (if b=true then 35 else 46))]:L2.St)=[some (.ref p),some (.int ((kN (eW (c.take i)) (d.take (j+1)):Nat):Int)),some (.ref l),some (V.int (if b=true then 35 else 46))]:=λk M=>by
    have e:((kN (eW (c.take i)) (d.take (j+1)):Nat):Int)=((kN (eW (c.take i)) (d.take j):Nat):Int)*2+k:=by rw[lG J,WU,M];cases b<;>simp
    rw[e]
   cases b with
   |true=>
    have e:decide (V.int (if true=true then 35 else 46)=V.int 35)=true:=by decide
    exact bK e ⟨_,_,Z,Z,Z,_,m 1 Z⟩
   |false=>
    have e:decide (V.int (if false=true then 35 else 46)=V.int 35)=false:=by decide
    exact bG e ⟨_,_,Z,Z,Z,_,m 0 Z⟩
  rintro σ G ⟨rfl,f,rfl⟩;refine⟨Z,some (.ref l),f,?_⟩;rw[mE,gN,lG n,WV]
 rintro σ x ⟨rfl,u,f,rfl⟩;refine⟨_,Z,?_⟩;rw[aO,z.len,gN];exact q
def ShapeAt.keepI(k:Keep x H H')(c:H x=some (.ins C d fs))(h:ShapeAt B H p a):ShapeAt B H' p a:=by obtain⟨f,ps,b,e⟩:=h;exact⟨f,ps,k _ _ b (bM b c (by intro z;cases z)),e.mono λ_ _ h=>⟨h.1,k _ _ h.2 (bM h.2 c (by intro z;cases z))⟩⟩
def Yn:qE P w base 2 T.e ["self","name","shape"] (Yc (eQ T)):=by
 refine aV T.e.F ["self","name","shape"] λf A c s H vs Q E l j h=> ?_;obtain⟨x,b,k,t,B,a,rfl,d,i,q⟩:=h;refine⟨_,aF (dA (pv 0) (pv 1) Z) (aF (dA (pv 0) (pv 2) Z) (aG (dA (pv 0) (aX (Ym T) j (aC (pv 2) aD)) Z))),?_⟩
 try dsimp only [aT,aR,Cx.nox]
 refine⟨_,Z,_,Z,x,_,b,[],Z,d,T.e.cl,T.p,(by show 0<1000;decide),?_⟩;refine⟨_,Z,_,Z,x,_,b,_,Z,aH,T.e.cl,T.q,(dG (kC _ _ _) (by decide)),?_⟩;refine⟨_,Z,k,B,a,Z,i.keepI (((Keep.refl x H).put (.inl Z)).put (.inl Z)) d,?_⟩;refine⟨_,Z,x,_,b,_,Z,aH,T.e.cl,T.ae,(dG (kC _ _ _) (dG (AH (kC _ _ _) 1) (by decide))),?_⟩;exact q _ aH ((((Keep.refl x H).put (.inl Z)).put (.inl Z)).put (.inl Z))
inductive ZO(K:PySem.W.Frag)(C c a l:Addr)(bs r:Gh.Bytes)(H:Hp)(m:Nat)(σ:L2.St)(H':Hp):Prop
 |mk (u r':Gh.Bytes) (vn:Option V) (_:σ= [some (.ref c),some (.ref l),vn]) (_:u.length+m=8) (_:H' l=some (.lst (bv u))) (_:Cur K C c a bs H' r') (_:Keep c H H') (_:dI 8 r=(u++(dI m r').1,(dI m r').2))
def Yo(f:Nat)(r:Gh.Bytes):dI (f+1) r=if(tp Gh.isSmall r).1=0 then([],r)else((tp Gh.isSmall r).1::(dI f (tp Gh.isSmall r).2).1,(dI f (tp Gh.isSmall r).2).2):=rfl
def Yp:bR P w base 5 T.bZ ["cursor"] (Yd K (bI T)):=by
 refine aV T.bZ.F ["cursor","letters","letter"] λN A B s H vs Q E nd W h=> ?_;obtain⟨c,a,bs,r,rfl,x,q⟩:=h;refine⟨_,aF (bA 1 (cE aD))
  (aF (lP dR (bT tF (fU gD (by rfl) T.i gC (aC (pv 1) aD)) (bC T.cN))
   (aF (bA 2 (aX (LR T) W (aC (pv 0) aD)))
   (aF (aY (bT dS (pv 2) bQ) (aG Ef) bD)
   (aG (eY (fV fJ gO gP gR (pv 1) (aC (pv 2) aD)))))))
  (aG (aI (pv 1)))),?_⟩
 try dsimp only [aT,aR,Cx.nox]
 refine⟨bH _,λl n=> ?_⟩;refine⟨ZO K (bI T) c a l bs r H,⟨8,[],r,none,Z,Z,aH,x.same (Same.new n),(Keep.refl c H).new n,Z⟩,?_⟩;rintro m σ M ⟨u,d,vn,rfl,Y,p,C,I,k⟩;obtain⟨O,i1,y,_,_⟩:=C.ex;refine⟨_,Z,l,_,Z,.inl (SqL.of p),_,_,Z,Z,_,Z,?_⟩;have U:decide (((bv u).length:Int)<8)=decide (m≠0):=by rw[CC];exact al_43.mpr (by lia)
 rw[U];by_cases L:m=0;·subst L;refine bG (bN (by lia)) ⟨_,Z,?_⟩;have v:dI 8 r=(u,d):=k.trans (by show(u++[],d)=_;rw[bU]);rw[v]at q;exact q M l C I n p
 obtain⟨f,rfl⟩:∃f,m=f+1:=⟨m-1,by lia⟩;refine bK (bP L) ⟨ZO K (bI T) c a l bs r H f,λX H' h=>⟨f,hU f,h⟩,?_⟩;refine⟨_,Z,c,a,bs,d,Z,C,λG D J=> ?_⟩;refine⟨_,Z,Z,_,Z,?_⟩;rw[LQ];rw[Yo f d]at k;have b:G l=some (.lst (bv u)):=J _ _ p (bM p y (by intro z;cases z));have j:=I.trans J;by_cases e:(tp Gh.isSmall d).1=0;·rw[aB e]at k;rw[Xz Ya e]at D;have v:dI 8 r=(u,d):=k.trans (by show(u++[],d)=_;rw[bU]);rw[v]at q;exact bK (bP e) ⟨_,Z,q G l D j n b⟩
 rw[aA e]at k;have o:(bv u).length<sizeLine:=lF (by rw[CC];lia);refine bG (bN e) ⟨_,Z,.inl ⟨Z,_,SqL.of b⟩,_,Z,l,_,_,Z,Z,b,o,?_⟩;rw[Yb];refine⟨u++[(tp Gh.isSmall d).1],(tp Gh.isSmall d).2,_,Z,by rw[bF,dB];lia,aH,x.write D j n b,j.put (.inr n),?_⟩;rw[k,dQ];rfl
inductive ZP(K:PySem.W.Frag)(C c a l:Addr)(bs r:Gh.Bytes)(H:Hp)(m:Nat)(σ:L2.St)(H':Hp):Prop
 |mk (had:List Gh.Bytes) (ps:List Addr) (r':Gh.Bytes) (vn:Option V) (_:σ= [some (.ref c),some (.ref l),vn]) (_:had.length+m=8) (_:H' l=some (.lst (ps.map V.ref))) (_:All2 (λp u=>p≠l/\H' p=some (.lst (bv u))) ps had) (_:Cur K C c a bs H' r') (_:Keep c H H') (_:fC m had r'=fC 8 [] r)
def ZQ(a:List Gh.Bytes)(r:Gh.Bytes):fC 0 a r=if(tk 32 r).1=true then none else some (a,r):=rfl
def LU(f:Nat)(a:List Gh.Bytes)(r:Gh.Bytes):fC (f+1) a r=if(tk 32 r).1=true then
   (if(dI 8 (tk 32 r).2).1=[]\/a.contains (dI 8 (tk 32 r).2).1=true then none else fC f (a++[(dI 8 (tk 32 r).2).1]) (dI 8 (tk 32 r).2).2)
  else some (a,r):=rfl
def Yq:bR P w base 6 T.bB ["cursor"] (Ye K (bI T)):=by
 refine aV T.bB.F ["cursor","sounds","sound"] λh8 A h7 s H vs Q E nd Y h=> ?_;obtain⟨c,a,bs,r,rfl,x,q0,q1⟩:=h;refine⟨_,aF (bA 1 (cE aD))
  (aF (lP dR (bY (bZ (pv 0) (cZ T) Y (aC (bC T.ag) aD)))
   (aF (bA 2 (aX (Yp T) Y (aC (pv 0) aD)))
   (aF (aY (PW.pt (jE (bT (wG Y.units0) (pv 2) (cE aD)) (jE (vJ (LS (ZN Y)) (pv 2) (pv 1) Z) (kU (bT dS (fU gD (by rfl) T.i gC (aC (pv 1) aD)) (bC T.cW)))))) (aG (aI eJ)) bD)
   (aG (eY (fV fJ gO gP gR (pv 1) (aC (pv 2) aD)))))))
  (aG (aI eJ))),?_⟩
 try dsimp only [aT,aR,Cx.nox]
 refine⟨bH _,λl X=> ?_⟩;refine⟨ZP K (bI T) c a l bs r H,⟨8,[],[],r,none,Z,Z,aH,.nil,x.same (Same.new X),(Keep.refl c H).new X,Z⟩,?_⟩;rintro m σ H1 ⟨b,ps,L,vn,rfl,hm,W,hA,x1,k1,hR⟩;obtain⟨h1,i1,v,_,_⟩:=x1.ex;refine⟨_,Z,c,h1,_,Z,v,bW a i1 cT cU,c,a,bs,L,32,Z,x1,λH2 x2 k2=>⟨_,Z,?_⟩⟩;have I:=k1.trans k2;by_cases t:(tk 32 L).1=true
 ·refine bK t ⟨λN H'=>∃f,m=f+1/\ZP K (bI T) c a l bs r H f N H',(by rintro N H' ⟨f,e,h⟩;exact⟨f,by lia,h⟩),?_⟩;obtain⟨h9,i2,e0,_,_⟩:=x2.ex;refine⟨_,Z,c,a,bs,_,Z,x2,λB z x3 k3 hz h4=> ?_⟩;have h5:=I.trans k3;have J:=k2.trans k3;have h3:B l=some (.lst (ps.map V.ref)):=J _ _ W (bM W v (by intro z;cases z));have h6:z≠l:=dJ (cH (k2 _ _ W (bM W v (by intro z;cases z))) hz);have h2:All2 (λp u=>p≠l/\B p=some (.lst (bv u))) ps b:=hA.mono λp u h=>⟨h.1,J _ _ h.2 (bM h.2 v (by intro z;cases z))⟩;refine⟨_,Z,bH _,λn hn=> ?_⟩;have M:Same B (aE B n (.lst [])):=Same.new hn;have x4:Cur K (bI T) c a bs (aE B n (.lst [])) (dI 8 (tk 32 L).2).2:=x3.same M;have y:=h5.trans (.of M);have j:=M _ _ h3;have o:=M _ _ h4;have q:All2 (λp u=>p≠l/\aE B n (.lst []) p=some (.lst (bv u))) ps b:=h2.mono λp u h=>⟨h.1,M _ _ h.2⟩;have G:aE B n (HO.lst []) n=some (.lst []):=aH;generalize aE B n (HO.lst [])=H4 at x4 y j o q G;refine⟨z,n,_,Z,Z,SqL.of o,SqL.of G,_,Z,?_⟩;have h0:∀u:Gh.Bytes,(bv u).isEmpty=decide (u=[]):=λu=>by cases u<;>rfl
  rw[h0];generalize hS:dI 8 (tk 32 L).2=S at x4 o;obtain⟨d,r4⟩:=S;dsimp only at x4 o ⊢;have dz:Dp K H4 (.ref z) (qO d):=ZI (SqL.of o);have dl:Dp K H4 (.ref l) (.list (b.map qO)):= .lst (SqL.of j) (zC (q.mono λp u h=>ZI (SqL.of h.2)));have no:∀(e:fC 8 [] r=none),Q (.bl false) H4:=λe=>q0 e H4 y;have C:(d=[]\/b.contains d=true\/m=0)->fC 8 [] r=none:=λh=>by
   rw[<- hR];cases m with
   |zero=>rw[ZQ,aB t]
   |succ f=>
    rw[LU,aB t,hS];dsimp only;rw[aB (by rcases h with h|h|h;exact .inl h;exact .inr h;exact absurd h (by lia))]
  by_cases O:d=[];·exact bK (bP O) (aN (no (C (.inl O))))
  refine bG (bN O) ?_;refine⟨_,Z,_,Z,qO d,b.map qO,dz,dl,uH (ZH d) (Xr d) (by decide),wI ZH b,_,Z,?_⟩;rw[any_map Xq];by_cases U:b.contains d=true;·exact bK U (aN (no (C (.inr (.inl U)))))
  refine bG (al_12.mpr U) ?_;refine⟨_,Z,l,_,Z,.inl (SqL.of j),Z,_,Z,?_⟩;have eN:decide (V.int ((ps.map V.ref).length:Int)=V.int 8)=decide (m=0):=by rw[aO,q.len];exact(qM (k:=8)).trans (al_43.mpr (by lia))
  rw[eN];by_cases m0:m=0;·exact bK (bP m0) (no (C (.inr (.inr m0))))
  obtain⟨f,rfl⟩:∃f,m=f+1:=⟨m-1,by lia⟩;refine bG (bN m0) ?_;have D:(ps.map V.ref).length<sizeLine:=lF (by rw[aO,q.len];lia);refine⟨_,Z,.inl ⟨Z,_,SqL.of j⟩,_,Z,l,_,_,Z,Z,j,D,?_⟩;have eM:ps.map V.ref++[V.ref z]=(ps++[z]).map V.ref:=by rw[dN];rfl
  rw[eM];refine⟨f,Z,b++[d],ps++[z],r4,_,Z,by rw[bF,dB];lia,aH,?_,x.write x4 y X j,y.put (.inr X),?_⟩;·exact(q.snoc ⟨h6,o⟩).mono λp u h=>⟨h.1,by rw[bB h.1];exact h.2⟩
  rw[<- hR,LU,aB t,hS];dsimp only;rw[aA (by rintro(h|h);exact O h;exact U h)]
 rw[fO t]at x2;have e:fC 8 [] r=some (b,L):=by rw[<- hR];cases m with|zero=>rw[ZQ,aA t]|succ f=>rw[LU,aA t]
 exact bG (al_12.mpr t) (q1 _ _ e H2 x2 I)
def Yr{bs:Gh.Bytes}{i:Nat}{y:V}(h:(bv bs)[i]? =some y):∃k,bs[i]? =some k/\y=V.int ((k.toNat:Nat):Int):=by
 unfold bv at h;rw[fL]at h;cases e:bs[i]? with
 |none=>rw[e]at h;cases h
 |some k=>
  rw[e]at h;exact⟨k,Z,(cV h).symm⟩
def ZR:∀{l:List α} {i:Nat} {x:α},l[i]? =some x->l.drop i=x::l.drop (i+1)
 | [],i,x,h=>by simp at h
 |a::l,0,x,h=>by have e:a=x:=cV h;subst e;rfl
 |a::l,i+1,x,h=>ZR (l:=l) (i:=i) h
inductive Ys(K:W.Frag)(mg:Str->Option Value)(T:Txt K mg)(H:Hp)(c a:Addr)(bs r:Gh.Bytes)(i:Nat)(σ:L2.St)(H':Hp):Prop
 |mk (v:Option V) (r':Gh.Bytes) (_:σ= [some (.ref c),v]) (_:Cur K (bI T) c a bs H' r') (_:Keep c H H') (_:kG ([115,105,103,110,32].drop i) r'=kG [115,105,103,110,32] r)
def Yt:bR P w base 4 T.bC ["cursor"] (Yf K (bI T)):=by
 refine aV T.bC.F ["cursor","byte"] λB A o s H vs Q E O I h => ?_;obtain⟨c,a,bs,r,rfl,x,L,M⟩:=h;obtain⟨d,D,C⟩:=T.di;have q:∀ H:Hp,SqT K H d (bv [115,105,103,110,32]):=λH => .inr C;refine⟨_,aF (gQ dR Z (NV (sW Z D (v := .ref d) Z)) (dP 1)
   (aG (aY (iI (bY (bZ (pv 0) (cZ T) I (aC (pv 1) aD)))) (aG (aI eJ)) bD)))
  (aG (aI eJ)),?_⟩
 try dsimp only [aT,aR,Cx.nox]
 refine⟨d,Z,⟨_,q H⟩,NW (K:=K) (a:=d) (xs:=bv [115,105,103,110,32]) (Ys K mg T H c a bs r)
  ⟨none,r,Z,x,Keep.refl c H,Z⟩ (λi σ H' _ _=>q H') ?_ ?_⟩
 ·rintro i y σ p hi ⟨v,e,rfl,l,j,f⟩;obtain⟨k,G,rfl⟩:=Yr hi;obtain⟨m,J,n,_,_⟩:=l.ex;rw[ZR G]at f;refine⟨_,Z,c,m,_,Z,n,bW a J cT cU,_,Z,c,a,bs,e,k,Z,l,λz N u=>⟨_,Z,?_⟩⟩;have b:(if(tk k e).1=true then kG ([115,105,103,110,32].drop (i+1)) (tk k e).2 else none)=kG [115,105,103,110,32] r:=f;by_cases t:(tk k e).1=true;·rw[aB t]at b;exact bG (bS not t) ⟨_,_,Z,N,j.trans u,b⟩
  rw[aA t]at b;exact bK (bS not (al_12.mpr t)) (L b.symm z (j.trans u))
 rintro σ p ⟨v,e,rfl,l,j,f⟩;exact M e (f.symm.trans Z) p l j
def Yu:bR P w base 7 T.bI ["cursor"] (Yg K (bI T)):=by
 refine aV T.bI.F ["cursor","name"] λX A G s H vs Q E nd k h=> ?_;obtain⟨c,a,bs,r,rfl,x,b,d⟩:=h;refine⟨_,aF (aY (iI (bY (aX (Yt T) k (aC (pv 0) aD)))) (aG (aI dC)) bD)
  (aF (bA 1 (aX (EM T) k (aC (pv 0) aD)))
  (aF (aY (fK (fT (pv 1))) (aG (aI dC)) bD)
  (aF (aY (PW.pt (jE (iI (bY (aX (Yq T) k (aC (pv 0) aD)))) (kU (iI (bY (bZ (pv 0) (cZ T) k (aC (bC T.ai) aD))))))) (aG (aI dC)) bD)
  (aG (aI (pv 1)))))),?_⟩
 try dsimp only [aT,aR,Cx.nox]
 unfold mU at b d;refine⟨_,Z,c,a,bs,r,Z,x,λe I C=>⟨_,Z,?_⟩,λN e I x1 C=>⟨_,Z,?_⟩⟩;·rw[e]at b;exact aN (b Z I C)
 rw[e]at b d;refine aQ ?_;refine⟨_,Z,c,a,bs,N,Z,x1,λW v m k2 D=> ?_⟩;refine⟨_,Z,_,Z,?_⟩;dsimp only [Option.bind_some]at b d;generalize cJ N=L at m D b d;obtain⟨o,r2⟩:=L;have f:=C.trans k2;cases o with
 |none=>
  have e:v= .non:=D;subst e;exact aN (b Z W f)
 |some n=>
  obtain⟨p,rfl,hp⟩:=D;dsimp only at m b d;obtain⟨Y,i2,z,_,_⟩:=m.ex;refine aQ ?_;refine⟨_,Z,c,a,bs,r2,Z,m,λy J l=>⟨_,Z,?_⟩,λs O y J U l=>⟨_,Z,?_⟩⟩;·rw[y]at b;exact aN (aN (b Z J (f.trans l)))
  rw[y]at b d;dsimp only [Option.bind_some]at b d;refine aQ ?_;obtain⟨u,i3,i,_,_⟩:=U.ex;refine⟨_,Z,c,u,_,Z,i,bW a i3 cT cU,c,a,bs,O,10,Z,U,λq x4 M=>⟨_,Z,?_⟩⟩;have j:=(f.trans l).trans M;have B:NameAt q p n:=(hp.keep l z).keep M i;by_cases t:(tk 10 O).1=true;·rw[aB t]at d;exact bG (bS not t) ⟨_,Z,d n s _ Z q p x4 j B⟩
  rw[aA t]at b;exact bK (bS not (al_12.mpr t)) (b Z q j)
def ZS(r:Gh.Bytes):lS (V.int (pk r)) [V.int 35,V.int 46]=decide ((tp cD r).1≠0):=by
 cases r with
 |nil=>rfl
 |cons y v=>
  rw[nW];show((35:Int)==((y.toNat:Nat):Int)||((46:Int)==((y.toNat:Nat):Int)||false))=_;by_cases a:y=35;·subst a;rfl
  by_cases b:y=46;·subst b;rfl
  have d:¬(35:Int)=((y.toNat:Nat):Int):=λz=>a (al_64.mp (by show y.toNat=35;lia));have e:¬(46:Int)=((y.toNat:Nat):Int):=λz=>b (al_64.mp (by show y.toNat=46;lia));have c:¬cD y=true:=by unfold cD;simp [a,b]
  rw[aA c,al_35.mpr d,al_35.mpr e];rfl
def Yv(u:List Bool)(h:cD y=true):cv u++[V.int ((y.toNat:Nat):Int)]=cv (u++[y==35]):=by
 unfold cv;rw[dN];congr 1;unfold cD at h;rw[mH]at h;rcases h with h|h
 ·have e:y=35:=sP h;subst e;rfl
 have e:y=46:=sP h;subst e;rfl
inductive ZT(K:PySem.W.Frag)(C c a l:Addr)(bs r:Gh.Bytes)(H:Hp)(m:Nat)(σ:L2.St)(H':Hp):Prop
 |mk (u:List Bool) (r':Gh.Bytes) (vn:Option V) (_:σ= [some (.ref c),some (.ref l),vn]) (_:u.length+m=32) (_:H' l=some (.lst (cv u))) (_:Cur K C c a bs H' r') (_:Keep c H H') (_:gH 32 r=(u++(gH m r').1,(gH m r').2))
def Yw(f:Nat)(r:Gh.Bytes):gH (f+1) r=if(tp cD r).1=0 then([],r)else(((tp cD r).1==35)::(gH f (tp cD r).2).1,(gH f (tp cD r).2).2):=rfl
def Yx:bR P w base 4 T.bV ["cursor"] (Yh K (bI T)):=by
 refine aV T.bV.F ["cursor","cells","cell"] λh2 A h0 s H vs Q E nd Y h=> ?_;obtain⟨c,a,bs,r,rfl,x,U,W⟩:=h;refine⟨_,aF (bA 1 (cE aD))
  (aF (lP dR (PW.pt (nR (bT tF (fU gD (by rfl) T.i gC (aC (pv 1) aD)) (bC T.be))
    (oS (vJ tH (fW (pv 0) (wF T) Y) (xT (aC (bC T.v) (aC (bC T.s) aD))) Z))))
   (aF (bA 2 (fW (pv 0) (wF T) Y))
   (aF (eY (bZ (pv 0) (cZ T) Y (aC (pv 2) aD)))
   (aG (eY (fV fJ gO gP gR (pv 1) (aC (pv 2) aD)))))))
  (aF (aY (iI (bY (bZ (pv 0) (cZ T) Y (aC (bC T.ai) aD)))) (aG (aI dC)) bD)
  (aG (aI (pv 1))))),?_⟩
 try dsimp only [aT,aR,Cx.nox]
 refine⟨bH _,λl L=> ?_⟩;have last:∀(u:List Bool) (b:Gh.Bytes) (X:Option V) (j:Hp),j l=some (.lst (cv u))->Cur K (bI T) c a bs j b->Keep c H j->gH 32 r=(u,b)->
   ∀d:Hp,Cur K (bI T) c a bs d (tk 10 b).2->Keep c j d->(if(!(tk 10 b).1)=true then Q .non d else rE 1 [some (V.ref c),some (V.ref l),X] d Q):=by
  intro u b X j J I N k d n B;obtain⟨C,i1,p,_,_⟩:=I.ex;unfold jO at U W;rw[k]at U W;dsimp only at U W;by_cases t:(tk 10 b).1=true;·rw[aB t]at W;exact bG (bS not t) ⟨_,Z,W _ _ Z d l n (N.trans B) ⟨L,B _ _ J (bM J p (by intro z;cases z))⟩⟩
  rw[aA t]at U;exact bK (bS not (al_12.mpr t)) (U Z d (N.trans B))
 refine⟨ZT K (bI T) c a l bs r H,⟨32,[],r,none,Z,Z,aH,x.same (Same.new L),(Keep.refl c H).new L,Z⟩,?_⟩;rintro m σ j ⟨u,b,X,rfl,hm,J,I,N,k⟩;obtain⟨C,i1,p,_,_⟩:=I.ex;refine⟨_,Z,l,_,Z,.inl (SqL.of J),_,_,Z,Z,_,Z,?_⟩;have e0:decide (((cv u).length:Int)<32)=decide (m≠0):=by rw[mE];exact al_43.mpr (by lia)
 rw[e0];by_cases m0:m=0;·subst m0;refine bG (bN (by lia)) (aQ ?_);have eR:gH 32 r=(u,b):=k.trans (by show(u++[],b)=_;rw[bU]);exact⟨_,Z,c,C,_,Z,p,bW a i1 cT cU,c,a,bs,b,10,Z,I,λd n B=>⟨_,Z,last u b X j J I N eR d n B⟩⟩
 obtain⟨f,rfl⟩:∃f,m=f+1:=⟨m-1,by lia⟩;refine bK (bP m0) ?_;refine⟨_,Z,c,C,_,Z,p,bW a i1 wD wE,c,a,bs,b,Z,I,by show 2<=sizeLine;decide,λt ht=> ?_⟩;refine⟨t,[.int 35,.int 46],Z,.inr (SqT.of aH),Z,Z,_,Z,?_⟩;have s2:Same j (aE j t (.tup [.int 35,.int 46])):=Same.new ht;have n:=I.same s2;have B:Keep c H _:=N.trans (.of s2);have o:=s2 _ _ J;generalize aE j t (HO.tup [.int 35,.int 46])=d at n B o;rw[Yw f b]at k;show if lS (V.int (pk b)) [V.int 35,V.int 46]=true then _ else _
 rw[ZS];obtain⟨D,i2,q,_,_⟩:=n.ex;by_cases e:(tp cD b).1=0;·refine bG (bN (λz=>z e)) ?_;rw[aB e]at k;have eR:gH 32 r=(u,b):=k.trans (by show(u++[],b)=_;rw[bU]);exact⟨_,Z,c,D,_,Z,q,bW a i2 cT cU,c,a,bs,b,10,Z,n,λH3 x3 k3=>⟨_,Z,last u b X d o n B eR H3 x3 k3⟩⟩
 rw[aA e]at k;refine bK (bP e) ⟨ZT K (bI T) c a l bs r H f,λh3 H' h=>⟨f,hU f,h⟩,?_⟩;rcases jN cD b with⟨z,_,_⟩|⟨y,hy,ey,h1⟩
 ·exact absurd z e
 generalize (tp cD b).2=v at ey k;rw[h1]at k;subst ey;refine⟨_,Z,c,D,_,Z,q,bW a i2 wD wE,c,a,bs,y::v,Z,n,?_⟩;refine⟨_,Z,c,D,_,Z,q,bW a i2 cT cU,_,Z,c,a,bs,y::v,y,Z,n,λH3 x3 k3=> ?_⟩;have et:(tk y (y::v)).2=v:=by rw[cR,aB rfl]
 rw[et]at x3;have G:H3 l=some (.lst (cv u)):=k3 _ _ o (bM o q (by intro z;cases z));have M:(cv u).length<sizeLine:=lF (by rw[mE];lia);refine⟨_,Z,.inl ⟨Z,_,SqL.of G⟩,_,Z,l,_,_,Z,Z,G,M,?_⟩;have O:=B.trans k3;have eC:cv u++[V.int (pk (y::v))]=cv (u++[y==35]):=Yv u hy;rw[eC];refine⟨u++[y==35],v,_,Z,by rw[bF,dB];lia,aH,x.write x3 O L G,O.put (.inr L),?_⟩;rw[k,dQ];rfl
inductive Yy{α:Type}(rel:Addr->α->Prop)(ps:List Addr)(xs:List α)(i:Nat)(y:V):Prop
 |mk (p:Addr) (x:α) (_:y= .ref p) (_:ps[i]? =some p) (_:xs[i]? =some x) (_:rel p x)
def All2.get{α:Type}{a:Addr->α->Prop}{ps:List Addr}{xs:List α}(h:All2 a ps xs){i:Nat}{y:V}(hi:(ps.map V.ref)[i]? =some y):Yy a ps xs i y:=by
 rw[fL]at hi;cases e:ps[i]? with
 |none=>rw[e]at hi;cases hi
 |some p=>
  rw[e]at hi;have b:i<xs.length:=by rw[<- h.len];exact(al_19.mp e).1
  exact⟨p,xs[i],(cV hi).symm,e,cM b,h.at_ i p _ e (cM b)⟩
def pI:∀{l:List α} {i:Nat} {x:α},l[i]? =some x->l.take (i+1)=l.take i++[x]
 | [],i,x,h=>by simp at h
 |a::l,0,x,h=>by
  have e:a=x:=cV h;subst e;rfl
 |a::l,i+1,x,h=>by
  have b:=pI (l:=l) (i:=i) (x:=x) h;show a::l.take (i+1)=a::l.take i++[x];rw[b];rfl
def cb(b:Bool):V:=V.int (if b=true then 35 else 46)
def Yz{a:List Bool}{i:Nat}{b:Bool}(h:a[i]? =some b):(cv a)[i]? =some (cb b):=by unfold cv;rw[fL,h];rfl
def Za(h:1<=a.length):(cv a)[0]? =some (cb (a.headD false)):=by cases a with|nil=>exact absurd h (by simp)|cons=>rfl
def LV(h:1<=l.length):hX l (-1)=some (l.getLastD d):=by
 have e:lR l.length (-1)=some (l.length-1):=by
  unfold lR;rw[aA (by decide),aB (by lia)];congr 1;lia
 unfold hX;rw[e];show l[l.length-1]? =_;rw[<- oZ,jC,cM (by lia)];rfl
def Zb{α β:Type}(f:α->β)(d:α)(l:List α):(l.map f).getLastD (f d)=f (l.getLastD d):=by rw[<- oZ,<- oZ,aO,jC,jC,fL];cases l[l.length-1]? <;>rfl
def Zc(h:1<=a.length):hX (cv a) (-1)=some (cb (a.getLastD false)):=by rw[<- Zb cb false a];exact LV (by show 1<=(cv a).length;rw[mE];exact h)
def EQ(a:List Bool):lS (V.int 35) (cv a)=a.any id:=by
 unfold lS cv;rw[List.any_map];congr 1;funext b;cases b<;>rfl
def ER(a:List Bool):(cv a).all oV=true:=by unfold cv;rw[List.all_map,al_53];intro b _;rfl
def LW(b:Bool)(a:List Bool):cv a++[cb b]=cv (a++[b]):=by unfold cv cb;rw[dN];rfl
inductive ZU(vs:List V)(H:Hp)(Q:VK)(E:XK):Prop
 |mk (p:Addr) (B:Addr->Prop) (rows:List (List Bool)) (_:vs=[.ref p]) (_:ShapeAt B H p rows) (_:(∀r∈rows,1<=r.length)) (_:rows.length<=64) (_:∀H':Hp,Same H H'->Q (.bl (fQ rows)) H')
def Same.put(s:Same H a)(h:H l=none):Same H (aE a l o):=λb u e=>by rw[bB (cH e h)];exact s b u e
def ES(h:Q true H):PZ σ H Q:=h
def sG(K:PySem.W.Frag):List V->Hp->VK->Prop:=λxs H Q=>∃p ys,xs=[.ref p]/\(SqL K H p ys\/SqT K H p ys)/\Q (.int ys.length) H
def Zd:bR P w base 1 T.br ["rows"] ZU:=by
 refine aV T.br.F ["rows","left","right","row"] λe5 A h8 s H vs Q E nd hr h=> ?_;obtain⟨p,B,G,rfl,⟨_,ps,J,I⟩,h1,h64,q⟩:=h;have hu:=hr.units0;refine⟨_,aF (aY (bT (wG hu) (pv 0) (cE aD)) (aG (aI eJ)) bD)
  (aF (aY (bT (wH hu) (tI (own:=[("row",3)]) Z nd (jK (pv 0)) (qC (N:=["rows","left","right","row"]) (sc:=gE CJ) (by decide +kernel)) (λ_ _ _ _ _=>dP 3)
    (λ_ _ _ _ _=>xY (bT kW (fU (r:=sG K) gD (by rfl) T.i gC (aC (pv 3) aD)) (fU (r:=sG K) gD (by rfl) T.i gC (aC (iJ (r:=pZ K) iK (pv 0) bQ (λ_ _=>rfl)) aD))))
    (λ_ _ _ _ _=>pv 3)) (cE aD)) (aG (aI eJ)) bD)
  (aF (QC (i:=1) (own:=[("row",3)]) Z nd Z Z Z (jK (pv 0)) (qC (N:=["rows","left","right","row"]) (sc:=gE CJ) (by decide +kernel)) (λ_ _ _ _ _=>dP 3) (λ_ _ _ _ _=>BM) (λ_ _ _ _ _=>iJ (r:=pZ K) iK (pv 3) bQ (λ_ _=>rfl)))
  (aF (QC (i:=2) (own:=[("row",3)]) Z nd Z Z Z (jK (pv 0)) (qC (N:=["rows","left","right","row"]) (sc:=gE CJ) (by decide +kernel)) (λ_ _ _ _ _=>dP 3) (λ_ _ _ _ _=>BM) (λ_ _ _ _ _=>iJ (r:=pZ K) iK (pv 3) (pV pW bQ) (λ_ _=>rfl)))
  (aG (aI (oT (tG tH (bC T.v) (iJ iK (pv 0) bQ (λ_ _=>rfl)) Z) (oT (tG tH (bC T.v) (iJ iK (pv 0) (pV pW bQ) (λ_ _=>rfl)) Z)
   (oT (tG tH (bC T.v) (pv 1) Z) (lO (tG tH (bC T.v) (pv 2) Z)))))))))),?_⟩
 try dsimp only [aT,aR,Cx.nox]
 refine⟨_,Z,bH _,λn hn=>⟨p,n,_,Z,Z,SqL.of (Same.new hn _ _ J),SqL.of aH,_,Z,?_⟩⟩;have s1:Same H (aE H n (.lst [])):=Same.new hn;generalize aE H n (HO.lst [])=H1 at s1;by_cases r0:G=[]
 ·have p0:ps=[]:=lM (by rw[I.len,r0];rfl);rw[p0];have e:fQ G=false:=by rw[r0];rfl
  rw[e]at q;exact aN (q H1 s1)
 have p0:ps≠[]:=λz=>r0 (lM (by rw[<- I.len,z];rfl));have e0:(ps.map V.ref).isEmpty=false:=by cases ps with|nil=>exact absurd rfl p0|cons=>rfl
 refine bG e0 ?_;obtain⟨u,f,rfl⟩:∃u f,ps=u::f:=by cases ps with|nil=>exact absurd rfl p0|cons u f=>exact⟨u,f,Z⟩
 obtain⟨b,c,rfl⟩:∃b c,G=b::c:=by cases G with|nil=>exact absurd rfl r0|cons u f=>exact⟨u,f,Z⟩
 have c0:CellsAt B H u b:=I.cons_inv.1;have h9:1<=b.length:=h1 b (cF ..);refine⟨_,Z,p,Z,⟨_,SqL.of (s1 _ _ J)⟩,λD hD=>BO (K:=K) (a:=p) (xs:=(u::f).map V.ref)
  (λi H'=>Same H1 H'/\∃acc:List V,H' D=some (.lst acc)/\acc.length<=i/\acc.isEmpty=((b::c).take i).all λr=>r.length==b.length)
  ⟨Same.new hD,[],aH,aK _,Z⟩ (λi H' _ h=>SqL.of (h.1 _ _ (s1 _ _ J))) ?_ ?_⟩
 ·rintro i y H2 hi ⟨s2,acc,C,h3,L⟩;obtain⟨pi,l,rfl,h4,d,U⟩:=I.get hi;have O:i<64:=gJ (al_19.mp d).1 h64;have Y:=s1.trans s2;refine⟨Z,_,Z,pi,_,Z,.inl (SqL.of (Y _ _ U.2)),_,Z,p,_,_,_,Z,Z,SqL.of (Y _ _ J),oW (j:=0) Z Z,u,_,Z,.inl (SqL.of (Y _ _ c0.2)),Z,_,Z,?_⟩;have eL:decide (V.int ((cv l).length:Int)=V.int ((cv b).length:Int))=(l.length==b.length):=by
   rw[mE,mE,qM];rw[jW,gK,al_41]
  rw[eL];have eT:(((b::c).take (i+1)).all λr=>r.length==b.length)=(acc.isEmpty&&(l.length==b.length)):=by rw[pI d,oN,L];simp
  cases e:(l.length==b.length)with
  |true=>
   refine aQ ⟨s2,acc,C,AR h3,?_⟩;rw[eT,e,nM]
  |false=>
   refine aN ⟨_,Z,acc,C,lF (by lia),?_⟩;refine⟨Same.put s2 hD,_,aH,?_,?_⟩;·rw[bF,dB];lia
   rw[eT,e,nJ];cases acc<;>rfl
 rintro H2 ⟨s2,acc,C,h3,L⟩;rw[aO,I.len,gN]at L;refine⟨bH _,λn hn=>⟨D,n,_,Z,Z,SqL.of (Same.new hn _ _ C),SqL.of aH,_,Z,?_⟩⟩;have s3:Same H (aE H2 n (.lst [])):=(s1.trans s2).trans (Same.new hn);generalize aE H2 n (HO.lst [])=H3 at s3;rw[L];have eE:CY (b::c)=(b::c).all λr=>r.length==b.length:=rfl
 by_cases ev:¬((b::c).all λr=>r.length==b.length)=true
 ·have e:fQ (b::c)=false:=by
   unfold fQ;rw[eE,al_12.mpr ev];rfl
  rw[e]at q;exact bK (bS not (al_12.mpr ev)) (q H3 s3)
 have ev:=Decidable.not_not.mp ev;refine bG (bS not ev) ?_;have eS:fQ (b::c)=rR (b::c):=by unfold fQ;rw[eE,ev];rfl
 rw[eS]at q;refine⟨_,Z,p,Z,⟨_,SqL.of (s3 _ _ J)⟩,λD1 h0=>BO (K:=K) (a:=p) (xs:=(u::f).map V.ref)
  (λi H'=>Same H3 H'/\H' D1=some (.lst (cv (((b::c).take i).map λr=>r.headD false))))
  ⟨Same.new h0,aH⟩ (λi H' _ h=>SqL.of (h.1 _ _ (s3 _ _ J))) ?_ ?_⟩
 ·rintro i y H4 hi ⟨s4,m⟩;obtain⟨pi,l,rfl,h4,d,U⟩:=I.get hi;have O:i<64:=gJ (al_19.mp d).1 h64;have W:1<=l.length:=h1 l (fM d);refine⟨Z,ES ?_⟩;refine aN ?_;refine⟨_,Z,pi,_,_,_,Z,Z,SqL.of ((s3.trans s4) _ _ U.2),oW (j:=0) Z (Za W),_,m,?_,Same.put s4 h0,?_⟩;·refine lF ?_;rw[mE,aO,iH];lia
  rw[LW,pI d,dN];exact aH
 rintro H4 ⟨s4,m⟩;rw[aO,I.len,gN]at m;have M:=s3.trans s4;refine⟨_,Z,p,Z,⟨_,SqL.of (M _ _ J)⟩,λD2 h2=>BO (K:=K) (a:=p) (xs:=(u::f).map V.ref)
  (λi H'=>Same H4 H'/\H' D2=some (.lst (cv (((b::c).take i).map λr=>r.getLastD false))))
  ⟨Same.new h2,aH⟩ (λi H' _ h=>SqL.of (h.1 _ _ (M _ _ J))) ?_ ?_⟩
 ·rintro i y H5 hi ⟨s5,o⟩;obtain⟨pi,l,rfl,h4,d,U⟩:=I.get hi;have O:i<64:=gJ (al_19.mp d).1 h64;have W:1<=l.length:=h1 l (fM d);refine⟨Z,ES ?_⟩;refine aN ?_;refine⟨_,Z,1,Z,pi,_,_,_,Z,Z,SqL.of ((M.trans s5) _ _ U.2),Zc W,_,o,?_,Same.put s5 h2,?_⟩;·refine lF ?_;rw[mE,aO,iH];lia
  rw[LW,pI d,dN];exact aH
 rintro H5 ⟨s5,o⟩;rw[aO,I.len,gN]at o;have x:=M.trans s5;have X:∃pl k,hX ((u::f).map V.ref) (-1)=some (V.ref pl)/\(b::c).getLastD []=k/\CellsAt B H pl k:=by
  have e1:hX ((u::f).map V.ref) (-1)=some (((u::f).map V.ref).getLastD (V.ref 0)):=LV (by simp);have e2:((u::f).map V.ref)[(u::f).length-1]? =some (((u::f).map V.ref).getLastD (V.ref 0)):=by rw[<- oZ,jC,aO];rw[cM (by rw[aO];simp)];rfl
  obtain⟨pl,k,e3,_,e4,U⟩:=I.get e2;refine⟨pl,k,by rw[e1,e3],?_,U⟩;rw[<- oZ,jC,<- I.len,e4];rfl
 obtain⟨pl,k,h5,h7,h6⟩:=X;have eI:rR (b::c)=(b.any id&&(k.any id&&(((b::c).map λr=>r.headD false).any id&&((b::c).map λr=>r.getLastD false).any id))):=by unfold rR;rw[h7,List.any_map,List.any_map];rfl
 rw[eI]at q;refine⟨_,Z,p,_,_,_,Z,Z,SqL.of (x _ _ J),oW (j:=0) Z Z,u,_,Z,.inl (SqL.of (x _ _ c0.2)),Z,ER _,b.any id,bS V.bl (EQ b),?_⟩;cases b1:b.any id with
 |false=>rw[b1]at q;exact aQ (q H5 x)
 |true=>
  rw[b1]at q;refine aN ⟨_,Z,1,Z,p,_,_,_,Z,Z,SqL.of (x _ _ J),h5,pl,_,Z,.inl (SqL.of (x _ _ h6.2)),Z,ER _,k.any id,bS V.bl (EQ k),?_⟩;cases b2:k.any id with
  |false=>rw[b2]at q;exact aQ (q H5 x)
  |true=>
   rw[b2]at q;refine aN ⟨_,Z,D1,_,Z,.inl (SqL.of (s5 _ _ m)),Z,ER _,_,bS V.bl (EQ _),?_⟩;cases b3:((b::c).map λr=>r.headD false).any id with
   |false=>rw[b3]at q;exact aQ (q H5 x)
   |true=>
    rw[b3]at q;refine aN ⟨_,Z,D2,_,Z,.inl (SqL.of o),Z,ER _,?_⟩;have q2:=q H5 x;rw[<- EQ]at q2;exact q2
inductive Ze(K:PySem.W.Frag)(C:Addr)(vs:List V)(H:Hp)(Q:VK)(E:XK):Prop
 |mk (c a:Addr) (bs r:Gh.Bytes) (_:vs=[.ref c]) (_:Cur K C c a bs H r) (_:(rW r=none->∀H':Hp,Keep c H H'->Q .non H')) (_:∀rows r',rW r=some (rows,r')->∀(H':Hp) (p:Addr),Cur K C c a bs H' r'->Keep c H H'->ShapeAt (λt=>H t=none) H' p rows->Q (.ref p) H')
inductive Zf(K:PySem.W.Frag)(C CS:Addr)(vs:List V)(H:Hp)(Q:VK)(E:XK):Prop
 |mk (c a:Addr) (bs r:Gh.Bytes) (_:vs=[.ref c]) (_:Cur K C c a bs H r) (_:(kH r=none->∀H':Hp,Keep c H H'->Q .non H')) (_:∀x r',kH r=some (x,r')->∀(H':Hp) (p:Addr),Cur K C c a bs H' r'->Keep c H H'->SignAt CS (λt=>H t=none) H' p x->Q (.ref p) H')
inductive Zg(K:PySem.W.Frag)(C CS:Addr)(vs:List V)(H:Hp)(Q:VK)(E:XK):Prop
 |mk (c a:Addr) (bs r:Gh.Bytes) (_:vs=[.ref c]) (_:Cur K C c a bs H r) (_:(dD r.length [] r=none->∀H':Hp,Keep c H H'->Q .non H')) (_:∀l,dD r.length [] r=some l->∀(H':Hp) (p:Addr),Keep c H H'->H p=none->ListAt (SignAt CS λt=>t≠p/\H t=none) H' p l->Q (.ref p) H')
inductive ZV(K:PySem.W.Frag)(C c a l:Addr)(bs r:Gh.Bytes)(H:Hp)(m:Nat)(σ:L2.St)(H':Hp):Prop
 |mk (had:List (List Bool)) (ps:List Addr) (r':Gh.Bytes) (vn:Option V) (_:σ= [some (.ref c),some (.ref l),vn]) (_:had.length+m=32) (_:H' l=some (.lst (ps.map V.ref))) (_:All2 (CellsAt (λt=>t≠l/\H t=none) H') ps had) (_:(∀x∈had,1<=x.length)) (_:Cur K C c a bs H' r') (_:Keep c H H') (_:fF m had r'=fF 32 [] r)
def Zh(f:Nat)(a:List (List Bool))(r:Gh.Bytes):fF (f+1) a r=if(tp cD r).1=0 then some (a,r)else(jO r).bind λx=>fF f (a++[x.1]) x.2:=rfl
def Zi:bR P w base 5 T.bW ["cursor"] (Ze K (bI T)):=by
 refine aV T.bW.F ["cursor","rows","row"] λh7 A h5 s H vs Q E nd hr h=> ?_;obtain⟨c,a,bs,r,rfl,x,J,q1⟩:=h;refine⟨_,aF (bA 1 (cE aD))
  (aF (lP dR (PW.pt (nR (bT tF (fU gD (by rfl) T.i gC (aC (pv 1) aD)) (bC T.be))
    (oS (vJ tH (fW (pv 0) (wF T) hr) (xT (aC (bC T.v) (aC (bC T.s) aD))) Z))))
   (aF (bA 2 (aX (Yx T) hr (aC (pv 0) aD)))
   (aF (aY (fK (fT (pv 2))) (aG (aI dC)) bD)
   (aG (eY (fV fJ gO gP gR (pv 1) (aC (pv 2) aD)))))))
  (aF (aY (iI (bY (aX (Zd T) hr (aC (pv 1) aD)))) (aG (aI dC)) bD)
  (aG (aI (pv 1))))),?_⟩
 try dsimp only [aT,aR,Cx.nox]
 refine⟨bH _,λl O=> ?_⟩;have last:∀(u:List (List Bool)) (ps:List Addr) (o:Gh.Bytes) (L:Option V) (d:Hp),d l=some (.lst (ps.map V.ref))->All2 (CellsAt (λt=>t≠l/\H t=none) d) ps u->(∀x∈u,1<=x.length)->u.length<=32->Cur K (bI T) c a bs d o->Keep c H d->fF 32 [] r=some (u,o)->
   rE 1 [some (V.ref c),some (V.ref l),L] d (λv d=>ZU [v] d (λv H'=>QB H' (λb H'=>if(!b)=true then Q .non H' else rE 1 [some (V.ref c),some (V.ref l),L] H' Q) v) E0):=by
  intro u ps o L d I G n h6 M X k;refine⟨_,Z,l,λt=>True,u,Z,⟨trivial,ps,I,G.mono λ_ _ h=>h.imp λ_ _=>trivial⟩,n,by lia,λH2 q=>⟨_,Z,?_⟩⟩;unfold rW at J q1;rw[k]at J q1;dsimp only [Option.bind_some]at J q1;by_cases t:fQ u=true;·rw[aB t]at q1;exact bG (bS not t) ⟨_,Z,q1 _ _ Z H2 l (M.same q) (X.trans (.of q)) ⟨O,ps,q _ _ I,G.mono λ_ _ h=>(h.imp λ_ h=>h.2).move (.same q)⟩⟩
  rw[aA t]at J;exact bK (bS not (al_12.mpr t)) (J Z H2 (X.trans (.of q)))
 refine⟨ZV K (bI T) c a l bs r H,⟨32,[],[],r,none,Z,Z,aH,.nil,(λ_ h=>by cases h),x.same (Same.new O),(Keep.refl c H).new O,Z⟩,?_⟩;rintro m σ d ⟨u,ps,o,L,rfl,hm,I,G,n,M,X,k⟩;obtain⟨h1,i1,h3,_,_⟩:=M.ex;refine⟨_,Z,l,_,Z,.inl (SqL.of I),_,_,Z,Z,_,Z,?_⟩;have e0:decide (((ps.map V.ref).length:Int)<32)=decide (m≠0):=by rw[aO,G.len];exact al_43.mpr (by lia)
 rw[e0];by_cases m0:m=0;·subst m0;exact bG (bN (by lia)) (aQ (last u ps o L d I G n (by lia) M X k.symm))
 obtain⟨f,rfl⟩:∃f,m=f+1:=⟨m-1,by lia⟩;refine bK (bP m0) ?_;refine⟨_,Z,c,h1,_,Z,h3,bW a i1 wD wE,c,a,bs,o,Z,M,by show 2<=sizeLine;decide,λt ht=> ?_⟩;refine⟨t,[.int 35,.int 46],Z,.inr (SqT.of aH),Z,Z,_,Z,?_⟩;have q:Same d (aE d t (.tup [.int 35,.int 46])):=Same.new ht;have x2:=M.same q;have k2:Keep c H _:=X.trans (.of q);have j:=q _ _ I;have B:All2 (CellsAt (λt=>t≠l/\H t=none) _) ps u:=G.mono λ_ _ h=>h.move (.same q);generalize aE d t (HO.tup [.int 35,.int 46])=H2 at x2 k2 j B;rw[Zh f u o]at k
 show if lS (V.int (pk o)) [V.int 35,V.int 46]=true then _ else _
 rw[ZS];obtain⟨h8,i2,D,_,_⟩:=x2.ex;by_cases e:(tp cD o).1=0;·rw[aB e]at k;exact bG (bN (λz=>z e)) (last u ps o L H2 j B n (by lia) x2 k2 k.symm)
 rw[aA e]at k;refine bK (bP e) ⟨ZV K (bI T) c a l bs r H f,λh9 H' h=>⟨f,hU f,h⟩,?_⟩;refine⟨_,Z,c,a,bs,o,Z,x2,λeN N k3=> ?_,λh0 r3 eS N z x3 k3 hz=> ?_⟩;·refine⟨_,Z,_,Z,aN (J ?_ N (k2.trans k3))⟩;unfold rW;rw[<- k,eN];rfl
 refine⟨_,Z,_,Z,aQ ?_⟩;rw[eS]at k;dsimp only [Option.bind_some]at k;have Y:=k2.trans k3;have C:N l=some (.lst (ps.map V.ref)):=k3 _ _ j (bM j D (by intro z;cases z));have U:(ps.map V.ref).length<sizeLine:=lF (by rw[aO,B.len];lia);refine⟨_,Z,.inl ⟨Z,_,SqL.of C⟩,_,Z,l,_,_,Z,Z,C,U,?_⟩;have eM:ps.map V.ref++[V.ref z]=(ps++[z]).map V.ref:=by rw[dN];rfl
 rw[eM];have h4:CellsAt (λt=>t≠l/\H t=none) N z h0:=hz.imp λt h=>⟨dJ (cH j h),k2.free ⟨_,D⟩ h⟩;have h2:All2 (CellsAt (λt=>t≠l/\H t=none) N) ps u:=B.mono λ_ _ h=>h.move (.keep k3 D);refine⟨u++[h0],ps++[z],r3,_,Z,by rw[bF,dB];lia,aH,?_,λy W=> ?_,x.write x3 Y O C,Y.put (.inr O),k⟩
 ·exact(h2.snoc h4).mono λp u h=>⟨h.1,by rw[bB h.1.1];exact h.2⟩
 rcases al_51.mp W with W|W;·exact n y W
 rw[al_56.mp W];exact UA e eS
def Zj:bR P w base 8 T.bX ["cursor"] (Zf K (bI T) (eQ T)):=by
 refine aV T.bX.F ["cursor","name","shape"] λL A B s H vs Q E nd u h=> ?_;obtain⟨c,a,bs,r,rfl,x,d,k⟩:=h;obtain⟨M,i0,U,_,_⟩:=x.ex;refine⟨_,aF (bA 1 (aX (Yu T) u (aC (pv 0) aD)))
  (aF (aY (fK (fT (pv 1))) (aG (aI dC)) bD)
  (aF (bA 2 (aX (Zi T) u (aC (pv 0) aD)))
  (aF (aY (fK (fT (pv 2))) (aG (aI dC)) bD)
  (aG (aI (iM (Yn T) u (aC (pv 1) (aC (pv 2) aD)))))))),?_⟩
 try dsimp only [aT,aR,Cx.nox]
 rw[IS]at d;simp only [IS]at k;refine⟨_,Z,c,a,bs,r,Z,x,λe C i=> ?_,λn so r1 e C p J i W=> ?_⟩;·rw[e]at d;exact⟨_,Z,_,Z,aN (d Z C i)⟩
 rw[e]at d k;dsimp only [Option.bind_some]at d k;refine⟨_,Z,_,Z,aQ ?_⟩;obtain⟨N,i1,f,_,_⟩:=J.ex;refine⟨_,Z,c,a,bs,r1,Z,J,λq l m=> ?_,λb r2 q l z x2 m hz=> ?_⟩;·rw[q]at d;exact⟨_,Z,_,Z,aN (d Z l (i.trans m))⟩
 rw[q]at k;refine⟨_,Z,_,Z,aQ ⟨_,Z,_,Z,?_⟩⟩;intro y G I j Y;refine⟨y,G,z,_,_,b,Z,aH,hz.move (.same (Same.made I j λ_ _ e _=>e)),λD O X=>⟨Z,?_⟩⟩;have o:Same l D:=Same.made I j X;have v:ShapeAt (λt=>H t=none) l z b:=hz.imp λt h=>i.free ⟨_,f⟩ h;exact k _ _ rfl D y (x2.same o) ((i.trans m).trans (.of o)) ⟨G,p,z,O,o _ _ (W.keep m f),v.move (.same o)⟩
def Zk(a b:Gh.Name):nA (ni a) (ni b)= !(b.before a):=by
 obtain⟨k,l,d,m⟩:=a;obtain⟨n,o,f,r⟩:=b;unfold ni Gh.Name.before;dsimp only;have c:∀(x y:UInt8) (p q:Bool),(p= !q)->(if((x.toNat:Nat):Int)=((y.toNat:Nat):Int)then p else decide (((x.toNat:Nat):Int)<=((y.toNat:Nat):Int)))= !(decide (y<x)||(y==x&&q)):=by
  intro x y p q h;by_cases e:x=y;·subst e;rw[aB rfl,h];simp
  have i:¬((x.toNat:Nat):Int)=((y.toNat:Nat):Int):=λz=>e (al_64.mp (pR z));rw[aA i,al_35.mpr (λz=>e z.symm)];have j:decide (y<x)= !decide (((x.toNat:Nat):Int)<=((y.toNat:Nat):Int)):=by rw[<- decide_not];exact al_43.mpr (by rw[UInt8.lt_iff_toNat_lt];lia)
  rw[j];simp
 rw[zB];refine c k n _ _ ?_;rw[zB];refine c l o _ _ ?_;rw[zB];by_cases e:d=f;·subst e;rw[aB rfl,zB];have h:=c m r (nA [] []) false rfl;rw[h];simp
 have i:¬(d:Int)=(f:Int):=λz=>e (pR z);rw[aA i,al_35.mpr (λz=>e z.symm)];have j:decide (f<d)= !decide ((d:Int)<=(f:Int)):=by rw[<- decide_not];exact al_43.mpr (by lia)
 rw[j];simp
inductive LX(K:PySem.W.Frag)(C CS c a l:Addr)(bs r:Gh.Bytes)(H:Hp)(m:Nat)(σ:L2.St)(H':Hp):Prop
 |mk (had:Gh.Signs) (ps:List Addr) (r':Gh.Bytes) (vn:Option V) (_:σ= [some (.ref c),some (.ref l),vn]) (_:had.length<=512) (_:r'.length<=m) (_:H' l=some (.lst (ps.map V.ref))) (_:All2 (SignAt CS (λt=>t≠l/\H t=none) H') ps had) (_:Cur K C c a bs H' r') (_:Keep c H H') (_:dD m had r'=dD r.length [] r)
def ZW(h:a.getLast? =some s):jG a n=s.name.before n:=by unfold jG;rw[h]
def wL(h:n<=1000):n<sizeLine:=dG h (by decide)
def Zl:bR P w base 9 T.bK ["cursor"] (Zg K (bI T) (eQ T)):=by
 refine aV T.bK.F ["cursor","signs","sign"] λh9 A h7 s H vs Q E nd hr h=> ?_;obtain⟨c,a,bs,r,rfl,x,q0,q1⟩:=h;have hu:=hr.units0;refine⟨_,aF (bA 1 (cE aD))
  (aF (lP dR (iI (bY (fW (pv 0) (EG T) hr)))
   (aF (bA 2 (aX (Zj T) hr (aC (pv 0) aD)))
   (aF (aY (PW.pt (jE (fK (fT (pv 2))) (kU (bT dS (fU gD (by rfl) T.i gC (aC (pv 1) aD)) (bC T.cV))))) (aG (aI dC)) bD)
   (aF (aY (PW.pt (nR (bT (wH hu) (pv 1) (cE aD)) (oS (bT (Xi hu) (bJ (pv 2) Z) (bJ (iJ iK (pv 1) (pV pW bQ) (λ_ _=>rfl)) Z))))) (aG (aI dC)) bD)
   (aG (eY (fV fJ gO gP gR (pv 1) (aC (pv 2) aD))))))))
  (aF (aY (bT (wG hu) (pv 1) (cE aD)) (aG (aI dC)) bD)
  (aG (aI (pv 1))))),?_⟩
 try dsimp only [aT,aR,Cx.nox]
 refine⟨bH _,λl X=> ?_⟩;refine⟨LX K (bI T) (eQ T) c a l bs r H,⟨r.length,[],[],r,none,Z,by decide,aK _,aH,.nil,x.same (Same.new X),(Keep.refl c H).new X,Z⟩,?_⟩;rintro m σ H1 ⟨d,ps,r1,vn,rfl,h8,hm,W,J,x1,k1,G⟩;obtain⟨h3,i1,C,_,_⟩:=x1.ex;refine⟨_,Z,c,h3,_,Z,C,bW a i1 EH EI,c,a,bs,r1,Z,x1,_,Z,?_⟩;by_cases r0:r1=[]
 ·refine bG (bS not (isEmpty_iff.mpr r0)) ?_;refine⟨_,Z,bH _,λn Y=>⟨l,n,_,Z,Z,SqL.of (Same.new Y _ _ W),SqL.of aH,_,Z,?_⟩⟩;have s2:Same H1 (aE H1 n (.lst [])):=Same.new Y;generalize aE H1 n (HO.lst [])=q at s2;have eL:dD r.length [] r=if d=[]then none else some d:=by
   rw[<- G,r0,TF]
  by_cases D:d=[];·have p0:ps=[]:=lM (by rw[J.len,D];rfl);rw[aB D]at eL;rw[p0];exact aN (q0 eL q (k1.trans (.of s2)))
  have N:(ps.map V.ref).isEmpty=false:=by cases ps with|nil=>exact absurd (lM (by rw[<- J.len];rfl)) D|cons=>rfl
  rw[aA D]at eL;exact bG N ⟨_,Z,q1 d eL q l (k1.trans (.of s2)) X ⟨ps,s2 _ _ W,J.mono λ_ _ h=>h.move (.same s2)⟩⟩
 obtain⟨O,v1,rfl⟩:∃O v1,r1=O::v1:=by cases r1 with|nil=>exact absurd rfl r0|cons O v1=>exact⟨O,v1,Z⟩
 obtain⟨f,rfl⟩:∃f,m=f+1:=⟨m-1,by rw[cG]at hm;lia⟩;rw[yK]at G;refine bK (bS not (al_12.mpr λz=>r0 (isEmpty_iff.mp z))) ⟨LX K (bI T) (eQ T) c a l bs r H f,λe6 H' h=>⟨f,hU f,h⟩,?_⟩;refine⟨_,Z,c,a,bs,O::v1,Z,x1,λeN q k2=> ?_,λy r2 eS q z x2 k2 hz=> ?_⟩;·refine⟨_,Z,_,Z,aN (aN (q0 ?_ q (k1.trans k2)))⟩;rw[<- G,eN];rfl
 refine⟨_,Z,_,Z,aQ ?_⟩;rw[eS]at G;dsimp only [Option.bind_some]at G;have h1:=k1.trans k2;have L:q l=some (.lst (ps.map V.ref)):=k2 _ _ W (bM W C (by intro z;cases z));have U:All2 (SignAt (eQ T) (λt=>t≠l/\H t=none) q) ps d:=J.mono λ_ _ h=>h.move (.keep k2 C);refine⟨_,Z,l,_,Z,.inl (SqL.of L),Z,_,Z,?_⟩;have eN:decide (V.int ((ps.map V.ref).length:Int)=V.int 512)=decide (d.length=512):=by rw[aO,U.len];exact qM (k:=512)
 rw[eN];by_cases f0:d.length=512;·refine bK (bP f0) (q0 ?_ q h1);rw[<- G,aB (.inl f0)]
 refine bG (bN f0) ?_;refine⟨_,Z,bH _,λn Y=>⟨l,n,_,Z,Z,SqL.of (Same.new Y _ _ L),SqL.of aH,_,Z,?_⟩⟩;have s3:Same q (aE q n (.lst [])):=Same.new Y;have x3:=x2.same s3;have k3:Keep c H _:=h1.trans (.of s3);have j:=s3 _ _ L;have h6:SignAt (eQ T) (λt=>t≠l/\H t=none) q z y:=hz.imp λt h=>⟨dJ (cH W h),k1.free ⟨_,C⟩ h⟩;have M:=h6.move (.same s3);have B:All2 (SignAt (eQ T) (λt=>t≠l/\H t=none) _) ps d:=U.mono λ_ _ h=>h.move (.same s3);generalize aE q n (HO.lst [])=H3 at x3 k3 j M B;have app:jG d y.name=true->LX K (bI T) (eQ T) c a l bs r H f [some (V.ref c),some (V.ref l),some (V.ref z)] (aE H3 l (.lst (ps.map V.ref++[V.ref z]))):=λho=>by
  have eM:ps.map V.ref++[V.ref z]=(ps++[z]).map V.ref:=by rw[dN];rfl
  rw[eM];refine⟨d++[y],ps++[z],r2,_,Z,by rw[bF,dB];lia,?_,aH,?_,x.write x3 k3 X j,k3.put (.inr X),?_⟩
  ·have:=Px eS;dsimp only at this;lia
  ·refine(B.snoc M).mono λb u h=> ?_;have h2:SignAt (eQ T) (λt=>t≠l) H3 b u:=h.imp λ_ h=>h.1;obtain⟨dx,t,sh,e1,e2,e3⟩:=h;have m:Mv (λt=>t≠l/\H t=none) H3 (aE H3 l (.lst ((ps++[z]).map V.ref))):=λb o hb e n=>Mv.put j b o hb (λxs z=>(e xs z).1) n;exact SignAt.move m ⟨dx,t,sh,e1,e2,e3⟩
  rw[<- G,aA (by rintro(h|h);exact f0 h;rw[ho]at h;cases h)]
 have I:(ps.map V.ref).length<sizeLine:=wL (by rw[aO,J.len];lia);by_cases D:d=[]
 ·have p0:ps=[]:=lM (by rw[J.len,D];rfl);have N:(ps.map V.ref).isEmpty=true:=by rw[p0];rfl
  refine bG (bS not N) (aQ ⟨_,Z,.inl ⟨Z,_,SqL.of j⟩,_,Z,l,_,_,Z,Z,j,I,?_⟩);exact app (by rw[D];rfl)
 have N:(ps.map V.ref).isEmpty=false:=by cases ps with|nil=>exact absurd (lM (by rw[<- J.len];rfl)) D|cons=>rfl
 refine bK (bS not N) ?_;have h4:1<=ps.length:=by cases ps with|nil=>cases N|cons=>exact kR (bH _)
 have e1:hX (ps.map V.ref) (-1)=some ((ps.map V.ref).getLastD (V.ref 0)):=LV (by rw[aO];exact h4);have e2:(ps.map V.ref)[ps.length-1]? =some ((ps.map V.ref).getLastD (V.ref 0)):=by rw[<- oZ,jC,aO];rw[cM (by rw[aO];lia)];rfl
 obtain⟨pl,sl,e3,_,e4,h5⟩:=B.get e2;have v:d.getLast? =some sl:=by rw[FV,<- B.len];exact e4
 obtain⟨dz,tz,sz,z1,z2,z3⟩:=id M;obtain⟨dl,tl,e5,l1,l2,l3⟩:=id h5;refine⟨_,Z,z,_,dz,_,_,Z,z1,T.e.cl,T.p,oI _ _ _,_,Z,1,Z,l,_,_,_,Z,Z,SqL.of j,e1.trans (by rw[e3]),pl,_,dl,_,_,Z,l1,T.e.cl,T.p,oI _ _ _,?_⟩;refine⟨tz,tl,ni y.name,ni sl.name,Z,Z,SqT.of z2,SqT.of l2,_,Z,?_⟩;rw[Zk];cases ho:sl.name.before y.name with
 |true=>
  refine aQ ⟨_,Z,.inl ⟨Z,_,SqL.of j⟩,_,Z,l,_,_,Z,Z,j,I,?_⟩;exact app (by rw[ZW v];exact ho)
 |false=>
  refine aN (q0 ?_ H3 k3);rw[<- G,aB (.inr (by rw[ZW v];exact ho))]
end
section
variable{P:Program}{w:World}{K:PySem.W.Frag}{mg:Str->Option Value}{base:Heap}
def ZX{K:PySem.W.Frag}{a:Addr}{xs:List V}{g:TG}{k:TS}{D:Ends}{σ:L2.St}{H:Hp}(b:Nat->L2.St->Hp->Prop)(l:b 0 σ H)(o:∀i σ H,i<=xs.length->b i σ H->SqL K H a xs)
  (r:∀(i:Nat) (x:V) (t:Addr) (σ:L2.St) (H:Hp),xs[i]? =some x->H t=none->b i σ H->g (.ref t) σ (aE H t (.tup [.int ((i:Nat):Int),x])) λd h=>k (D.lp (b (i+1))) d h) (n:∀σ H,b xs.length σ H->D.nx σ H):
  ∃W:Nat->Nat->L2.St->Hp->Prop,(∃m,W 0 m σ H)/\∀i m σ H,W i m σ H->
   ((rK K a).stop i H/\D.nx σ H)\/((rK K a).go i H/\∃N:L2.St->Hp->Prop,(∀c H',N c H'->∃j,j<m/\W (i+1) j c H')/\∀x H',(rK K a).yld i H x H'->g x σ H' λd h=>k (D.lp N) d h):=by
 refine⟨λi m σ H=>m=xs.length-i/\i<=xs.length/\b i σ H,⟨xs.length,by simp,bH _,l⟩,?_⟩;rintro i m σ H ⟨rfl,hi,p⟩;have q:=o i σ H hi p;by_cases f:i<xs.length;·refine .inr ⟨⟨xs,xs[i],q,by simp [f]⟩,b (i+1),λc H' u=>⟨xs.length-(i+1),by lia,Z,f,u⟩,λx H' y=> ?_⟩;obtain⟨t,z,rfl,s,rfl,y⟩:=y;exact r i z t σ _ (y xs q) s p
 have e:i=xs.length:=by lia
 subst e;exact .inl ⟨⟨xs,q,aK _⟩,n σ H p⟩
def ListAt.imp(m:∀p x,a H p x->rel' H p x)(h:ListAt a H l xs):ListAt rel' H l xs:=by obtain⟨ps,b,c⟩:=h;exact⟨ps,b,c.mono m⟩
def ET(L:List Nat)(i:Nat):(nz L).map V.int++[V.int ((i:Nat):Int)]=(nz (L++[i])).map V.int:=by unfold nz;rw[dN,dN];rfl
def kO(L:List Nat):(nz L).length=L.length:=aO _
end
section
variable{P:Program}{w:World}{K:PySem.W.Frag}{mg:Str->Option Value}{base:Heap}(T:Txt K mg)
def Zm{K:PySem.W.Frag}{a:Addr}{xs:List V}{g:TG}{v:TT}{u:TE}{vs:List Nat}{σ:L2.St}{o:Hp}{D:Addr}{r:Hp->Prop}(d:Nat->Hp->Prop)(w:d 0 (aE o D (.lst [])))(A:∀i H,i<=xs.length->d i H->SqL K H a xs)
  (B:∀ i x H,xs.reverse[i]? = some x->d i H->g x (fA σ vs) H λc l=>fA c vs=fA σ vs/\v c l λb h =>
   if b=true then u c h λy j=>∃acc,j D=some (.lst acc)/\acc.length<sizeLine/\d (i+1) (aE j D (.lst (acc++[y])))else d (i+1) h) (z:∀H,d xs.length H->r H):
  ∃W:Nat->Nat->Hp->Prop,(∃m,W 0 m (aE o D (.lst [])))/\∀i m H,W i m H->
   ((xZ K a xs.length).stop i H/\r H)\/((xZ K a xs.length).go i H/\∃ n:Hp->Prop,(∀ H',n H'->∃ s,s < m/\W (i+1) s H')/\∀ x H',(xZ K a xs.length).yld i H x H'->g x (fA σ vs) H' λc l=>fA c vs=fA σ vs/\v c l λb h =>
    if b=true then u c h λy j=>∃acc,j D=some (.lst acc)/\acc.length<sizeLine/\n (aE j D (.lst (acc++[y])))else n h):=by
 refine⟨λi m H=>m=xs.length-i/\i<=xs.length/\d i H,⟨xs.length,by simp,bH _,w⟩,?_⟩;rintro i m H ⟨rfl,hi,p⟩;have q:=A i H hi p;by_cases f:i<xs.length
 ·have k:xs.length-1-i<xs.length:=by lia
  refine .inr ⟨⟨f,xs,xs[xs.length-1-i],q,cM k⟩,d (i+1),λH' C=>⟨xs.length-(i+1),by lia,Z,f,C⟩,λx H' y=> ?_⟩;obtain⟨e,y⟩:=y;subst e;refine B i x _ ?_ p;rw[GA f];exact y xs q
 have e:i=xs.length:=by lia
 subst e;exact .inl ⟨aK _,z H p⟩
def ShapeAt.ne(h:ShapeAt B H p a)(c:H l=none):ShapeAt (λt=>t≠l) H p a:=by obtain⟨_,ps,b,d⟩:=h;exact⟨cH b c,ps,b,d.mono λ_ _ h=>⟨cH h.2 c,h.2⟩⟩
def ShapeAt.any(h:ShapeAt B H p a):ShapeAt (λ_=>True) H p a:=h.imp λ_ _=>trivial
inductive Zn(vs:List V)(H:Hp)(Q:VK)(E:XK):Prop
 |mk (p:Addr) (B:Addr->Prop) (rows:List (List Bool)) (_:vs=[.ref p]) (_:ShapeAt B H p rows) (_:Sm rows) (_:∀(H':Hp) (z:Addr),Same H H'->ShapeAt (λ_=>True) H' z (mV rows)->Q (.ref z) H')
inductive Zo(vs:List V)(H:Hp)(Q:VK)(E:XK):Prop
 |mk (p:Addr) (B:Addr->Prop) (rows:List (List Bool)) (_:vs=[.ref p]) (_:ShapeAt B H p rows) (_:Sm rows) (_:∀(H':Hp) (z:Addr),Same H H'->ShapeAt (λt=>H t=none) H' z (kI rows)->Q (.ref z) H')
inductive Zp(vs:List V)(H:Hp)(Q:VK)(E:XK):Prop
 |mk (p:Addr) (B:Addr->Prop) (rows:List (List Bool)) (_:vs=[.ref p]) (_:ShapeAt B H p rows) (_:Sm rows) (_:∀(H':Hp) (z:Addr),Same H H'->ListAt (ShapeAt λ_=>True) H' z (tT rows)->Q (.ref z) H')
inductive Zq(vs:List V)(H:Hp)(Q:VK)(E:XK):Prop
 |mk (p:Addr) (B:Addr->Prop) (rows:List (List Bool)) (_:vs=[.ref p]) (_:ShapeAt B H p rows) (_:Sm rows) (_:∀(H':Hp) (z:Addr),Same H H'->ListAt (ShapeAt λ_=>True) H' z (rT rows)->Q (.ref z) H')
def Zr:bR P w base 1 T.bu ["shape"] Zn:=by
 refine aV T.bu.F ["shape","row"] λG A m s H vs Q E M U h=> ?_;obtain⟨p,B,f,rfl,⟨_,ps,x,o⟩,I,q⟩:=h;refine⟨_,aG (aI (tI (own:=[("row",1)]) Z M (jK (pv 0)) (qC (N:=["shape","row"]) (sc:=gE RC) (by decide +kernel)) (λ_ _ _ _ _=>dP 1) (λ_ _ _ _ _=>BM) (λ_ _ _ _ _=>show PE _ _ (ZC K (rE 1) (NX (rU λi=> .int (-i)) (tC (.int 1))))from Xd (pv 1) (pV pW bQ)))),?_⟩
 try dsimp only [aT,aR,Cx.nox]
 refine⟨_,Z,p,Z,⟨_,SqL.of x⟩,λD r=>BO (K:=K) (a:=p) (xs:=ps.map V.ref)
  (λi H'=>Same H H'/\∃d:List Addr,H' D=some (.lst (d.map V.ref))/\All2 (CellsAt (λt=>t≠D) H') d (mV (f.take i)))
  ⟨Same.new r,[],aH,.nil⟩ (λi H' _ h=>SqL.of (h.1 _ _ x)) ?_ ?_⟩
 ·rintro i y j hi ⟨l,d,k,e⟩;obtain⟨O,n,rfl,L,c,J⟩:=o.get hi;have v:i<64:=gJ (al_19.mp c).1 I.h64;refine⟨Z,ES ?_⟩;refine aN ?_;refine⟨_,Z,1,Z,Z,O,_,Z,SqL.of (l _ _ J.2),λz hz=>⟨_,Same.new hz _ _ k,?_,?_⟩⟩;·refine lF ?_;rw[aO,e.len];unfold mV;rw[aO,iH];lia
  have nz:z≠D:=dJ (cH k hz);have C:Same j (aE j z (.lst (cv n).reverse)):=Same.new hz;refine⟨Same.put (l.trans C) r,d++[z],by rw[aH,dN];rfl,?_⟩;rw[pI c];unfold mV;rw[dN];refine All2.snoc (e.mono λb u h=>⟨h.1,by rw[bB h.1];exact C _ _ h.2⟩) ⟨nz,?_⟩;rw[bB nz,aH];unfold cv;rw[xC]
 rintro j ⟨l,d,k,e⟩;rw[aO,o.len,gN]at e;exact q j D l ⟨trivial,d,k,e.mono λ_ _ h=>h.imp λ_ _=>trivial⟩
def Zs:bR P w base 1 T.co ["shape"] Zo:=by
 refine aV T.co.F ["shape","rows","x","row"] λe0 A h8 s H vs Q E nd hr h=> ?_;obtain⟨p,B,C,rfl,⟨_,ps,hp,G⟩,U,q⟩:=h;refine⟨_,aF (bA 1 (cE aD))
  (aF (gQ dR Z (vE (by rfl) T.u (aC (fU gD (by rfl) T.i gC (aC (iJ iK (pv 0) bQ (λ_ _=>rfl)) aD)) aD)) (NQ (i:=2) nd Z (Or.inr Z))
   (aG (eY (fV fJ gO gP gR (pv 1)
    (aC (tI (own:=[("row",3)]) Z nd (Ir (by rfl) T.cu (aC (pv 0) aD)) (qC (N:=["shape","rows","x","row"]) (sc:=gE RD) (by decide +kernel)) (λ_ _ _ _ _=>dP 3) (λ_ _ _ _ _=>BM) (λ_ _ _ _ _=>iJ (r:=pZ K) iK (pv 3) (pv 2) (λ_ _=>rfl))) aD)))))
  (aG (aI (pv 1)))),?_⟩
 try dsimp only [aT,aR,Cx.nox]
 refine⟨bH _,λl hl=> ?_⟩;have s1:Same H (aE H l (.lst [])):=Same.new hl;have M:aE H l (HO.lst []) l=some (.lst []):=aH;generalize aE H l (HO.lst [])=H1 at s1 M;obtain⟨o,e,rfl⟩:∃o e,ps=o::e:=by cases ps with|nil=>exact absurd U.h1 (by rw[<- G.len];simp)|cons o e=>exact⟨o,e,Z⟩
 obtain⟨c,d,rfl⟩:∃c d,C=c::d:=by cases C with|nil=>exact absurd U.h1 (by simp)|cons o e=>exact⟨o,e,Z⟩
 have c0:CellsAt B H o c:=G.cons_inv.1;have w64:c.length<=64:=U.w64;have h5:(cv c).length<=64:=by rw[mE];exact w64
 refine⟨_,Z,p,_,_,_,Z,Z,SqL.of (s1 _ _ hp),oW (j:=0) Z Z,o,_,Z,.inl (SqL.of (s1 _ _ c0.2)),_,Z,by lia,by lia,?_⟩;refine vF (lo:=0) (n:=(cv c).length) (λi σ H'=>∃ v:Option V,σ = [some (.ref p),some (.ref l),v,none]/\Same H H'/\∃ J:List Addr,H' l=some (.lst (J.map V.ref)) /\
  All2 (CellsAt (λt=>t≠l/\H t=none) H') J (((List.range c.length).take i).map λx=>(c::d).reverse.map λf=>f.getD x false)) ⟨none,Z,s1,[],M,.nil⟩ ?_ ?_
 ·rintro i σ H2 hi ⟨v,rfl,I,J,X,O⟩;rw[mE]at hi;refine⟨_,Z,.inl ⟨Z,_,SqL.of X⟩,_,Z,p,_,Z,SqL.of (I _ _ hp),λD Y=>Zm (K:=K) (a:=p) (xs:=(o::e).map V.ref)
   (λj H'=>Same H2 H'/\H' D=some (.lst (cv (((c::d).reverse.take j).map λf=>f.getD i false)))) ⟨Same.new Y,aH⟩ (λj H' _ h=>SqL.of (h.1 _ _ (I _ _ hp))) ?_ ?_⟩
  ·rintro j y H3 hj ⟨L,m⟩;have h4:(((o::e).reverse).map V.ref)[j]? =some y:=by rw[xC];exact hj
   have h0:All2 (CellsAt B H) (o::e).reverse (c::d).reverse:=by
    refine⟨by rw[mJ,mJ];exact G.len,λk b x hb hx=> ?_⟩;have k1:k<(o::e).length:=by
     have:=(al_19.mp hb).1
     rwa [mJ]at this
    rw[GA k1]at hb;rw[GA (by rw[<- G.len];exact k1),<- G.len]at hx;exact G.at_ _ b x hb hx
   obtain⟨pi,f,rfl,e1,z,hc⟩:=h0.get h4;have W:f∈c::d:=List.mem_reverse.mp (fM z);have h9:j<64:=by have:=(al_19.mp z).1;rw[mJ]at this;exact gJ this U.h64
   have h3:i<f.length:=by rw[U.even f W];exact hi
   have h2:(cv f)[i]? =some (cb (f.getD i false)):=by refine Yz ?_;rw[jC,cM h3];rfl
   refine⟨Z,ES ?_⟩;refine aN ?_;refine⟨_,Z,_,Z,pi,_,_,_,Z,Z,SqL.of (L _ _ (I _ _ hc.2)),oW (j:=i) (by lia) h2,_,m,?_,Same.put L Y,?_⟩;·refine lF ?_;rw[mE,aO,iH];lia
   rw[LW,pI z,dN];exact aH
  rintro H3 ⟨L,m⟩;rw[aO,G.len,<- mJ,gN]at m;have nD:D≠l:=dJ (cH X Y);have h6:=L _ _ X;refine⟨l,_,_,Z,Z,h6,?_,?_⟩;·refine lF ?_;rw[aO,O.len,aO,iH,iU];lia
  refine⟨_,Z,Same.put (I.trans L) hl,J++[D],by rw[aH,dN];rfl,?_⟩;have h7:(List.range c.length)[i]? =some i:=xD hi;rw[pI h7,dN];refine All2.snoc (O.mono λb u h=>⟨h.1,by rw[bB h.1.1];exact L _ _ h.2⟩) ⟨⟨nD,I.free Y⟩,?_⟩;rw[bB nD];exact m
 rintro σ H2 ⟨v,rfl,I,J,X,O⟩;refine⟨_,Z,q H2 l I ⟨hl,J,X,?_⟩⟩;rw[mE,AS (by rw[iU];exact aK _)]at O;exact O.mono λ_ _ h=>h.imp λ_ h=>h.2
def Zt(b:Sm a):∀i,i<3->∃x,(tT a)[i]? =some x/\(tT a)[i+1]? =some (kI x)/\Sm x
 |0,_=>⟨_,Z,Z,b⟩
 |1,_=>⟨_,Z,Z,b.turn⟩
 |2,_=>⟨_,Z,Z,b.turn.turn⟩
 |i+3,h=>absurd h (by lia)
def Zu{l:List α}(h:i<k):(l.take k)[i]? =l[i]?:=by rw[List.getElem?_take,aB h]
def ZY:bR P w base 2 T.cq ["shape"] Zp:=by
 refine aV T.cq.F ["shape","shapes","step"] λX A J s H vs Q E nd hr h=> ?_;obtain⟨p,B,c,rfl,o,Y,q⟩:=h;refine⟨_,aF (bA 1 (cE (aC (pv 0) aD)))
  (aF (gQ dR Z (vE (by rfl) T.u (aC bQ aD)) (dP 2)
   (aG (eY (fV fJ gO gP gR (pv 1)
    (aC (aX (Zs T) hr (aC (iJ iK (pv 1) (pv 2) (λ_ _=>rfl)) aD)) aD)))))
  (aG (aI (pv 1)))),?_⟩
 try dsimp only [aT,aR,Cx.nox]
 refine⟨_,Z,by show 1<=sizeLine;decide,λl y=> ?_⟩;have L:Same H (aE H l (.lst [.ref p])):=Same.new y;have e:aE H l (HO.lst [.ref p]) l=some (.lst ([p].map V.ref)):=aH;have k:ShapeAt (λt=>t≠l) (aE H l (.lst [.ref p])) p c:=(o.ne y).move (.same L);generalize aE H l (HO.lst [.ref p])=H1 at L e k;refine⟨3,Z,by decide,by decide,?_⟩;refine vF (lo:=0) (n:=3) (λi σ H'=>∃v:Option V,σ= [some (.ref p),some (.ref l),v]/\Same H H'/\∃a:List Addr,H' l=some (.lst (a.map V.ref))/\All2 (ShapeAt (λt=>t≠l) H') a ((tT c).take (i+1)))
  ⟨none,Z,L,[p],e,All2.snoc (ps:=[]) (xs:=[]) .nil k⟩ ?_ ?_
 ·rintro i σ O hi ⟨v,rfl,M,a,d,f⟩;obtain⟨x,hx,D,G⟩:=Zt Y i hi;have C:a.length=i+1:=by rw[f.len,iH];show min (i+1) 4=i+1;lia
  obtain⟨b,U⟩:∃b,a[i]? =some b:=⟨_,cM (by lia)⟩;have r:=f.at_ i b x U (by rw[Zu (hU i)];exact hx);refine⟨_,Z,.inl ⟨Z,_,SqL.of d⟩,_,Z,_,Z,l,_,_,_,Z,Z,SqL.of d,oW (j:=i) (v:=V.ref b) (by lia) (by rw[fL,U];rfl),b,_,x,Z,r,G,λW z N hz=> ?_⟩;have m:=N _ _ d;refine⟨l,_,_,Z,Z,m,lF (by rw[aO,C];lia),?_⟩;refine⟨_,Z,Same.put (M.trans N) y,a++[z],by rw[aH,dN];rfl,?_⟩;rw[pI D];have I:ShapeAt (λt=>t≠l) W z (kI x):=hz.imp λt h=>dJ (cH d h);exact(All2.snoc (f.mono λ_ _ h=>h.move (.same N)) I).mono λ_ _ h=>h.move (Mv.put m)
 rintro σ O ⟨v,rfl,M,a,d,f⟩;exact⟨_,Z,q O l M ⟨a,d,f.mono λ_ _ h=>h.any⟩⟩
def All2.append(h:All2 c ps xs)(g:All2 c d ys):All2 c (ps++d) (xs++ys):=by
 refine⟨by rw[bF,bF,h.len,g.len],λi p x a b=> ?_⟩;by_cases hi:i<ps.length;·rw[jZ hi]at a;rw[jZ (h.len▸hi)]at b;exact h.at_ i p x a b
 rw[iT (oM hi)]at a;rw[iT (by rw[<- h.len];exact oM hi),<- h.len]at b;exact g.at_ _ p x a b
def Zv:bR P w base 3 T.aM ["shape"] Zq:=by
 refine aV T.aM.F ["shape"] λv A j s H vs Q E N i h => ?_;obtain⟨p,B,a,rfl,b,f,q⟩:=h;refine⟨_,aG (aI (dO Hj (aX (ZY T) i (aC (pv 0) aD))
  (aX (ZY T) i (aC (aX (Zr T) i (aC (pv 0) aD)) aD)))),?_⟩
 try dsimp only [aT,aR,Cx.nox]
 refine⟨_,Z,p,B,a,Z,b,f,λL G n ⟨c,x,k⟩=> ?_⟩;refine⟨_,Z,p,B,a,Z,b.move (.same n),f,λM I o C=> ?_⟩;refine⟨I,_,mV a,Z,C,f.mir,λm J r ⟨d,z,l⟩=> ?_⟩;have e:=o.trans r;refine⟨G,J,_,_,Z,Z,e _ _ x,z,?_,λy D=> ?_⟩;·rw[aO,aO,k.len,l.len];show 4+4<=sizeLine;decide
 have u:Same m (aE m y (.lst (c.map V.ref++d.map V.ref))):=Same.new D;refine q _ y (((n.trans o).trans r).trans u) ⟨c++d,by rw[aH,dN],?_⟩;exact(All2.append (k.mono λ_ _ h=>h.move (.same e)) l).mono λ_ _ h=>h.move (.same u)
end
def Zw{c:TT}{t t' u:TS}{D:Ends}{σ:L2.St}{H:Hp}(h:∀R:L2.St->Hp->Prop,(∀σ H,u D σ H->R σ H)->GH c t t' (D.thn R) σ H):pU (GH c t t') u D σ H:=h _ λ_ _ h=>h
def ZZ{e:TE}{g:TG}{u:TS}{D:Ends}{σ:L2.St}{H:Hp}(h:∀R:L2.St->Hp->Prop,(∀σ H,u D σ H->R σ H)->xO e g (D.thn R) σ H):pU (xO e g) u D σ H:=h _ λ_ _ h=>h
def Aa{t u x v:TS}{D:Ends}{σ:L2.St}{H:Hp}(h:∀R:L2.St->Hp->Prop,(∀σ H,v D σ H->R σ H)->pU t (pU u (pU x λ_=>R)) D σ H):pU t (pU u (pU x v)) D σ H:=h _ λ_ _ h=>h
def Zx(X:Prop){Y G:Prop}(h:(X->Y)->G)(b:X->Y):G:=h b
section
variable{P:Program}{w:World}{K:PySem.W.Frag}{mg:Str->Option Value}{base:Heap}(T:Txt K mg)
inductive Zy(vs:List V)(H:Hp)(Q:VK)(E:XK):Prop
 |mk (p:Addr) (n:Gh.Name) (_:vs=[.ref p]) (_:NameAt H p n) (_:∀(H':Hp) (z:Addr),Same H H'->PairAt H' z (n.big,n.small)->Q (.ref z) H')
def LY:bR P w base 1 T.aS ["name"] Zy:=by
 refine aV T.aS.F ["name"] λb A a s H vs Q E e d h=> ?_;obtain⟨p,n,rfl,c,q⟩:=h;refine⟨_,aG (aI (OZ Gp (pv 0) OX (OY bQ))),?_⟩
 try dsimp only [aT,aR,Cx.nox]
 refine⟨_,Z,2,Z,p,_,Z,SqT.of c,(λ⟨_,z⟩=>absurd (show HT.sIx 4 4 (some 2)=4 from z) (by decide)),λz hz=> ?_⟩;exact q _ z (Same.new hz) aH
inductive Zz(CS:Addr)(vs:List V)(H:Hp)(Q:VK)(E:XK):Prop
 |mk (t ls:Addr) (B:Addr->Prop) (n:Gh.Name) (l:Gh.Signs) (_:vs=[.ref t,.ref ls]) (_:NameAt H t n) (_:ListAt (SignAt CS B) H ls l) (_:(∀x∈l,Sm x.shape.rows)) (_:∀(H':Hp) (z:Addr),Same H H'->ListAt (ShapeAt λ_=>True) H' z (tU l n)->Q (.ref z) H')
def aAa:bR P w base 4 T.cf ["name","signs"] (Zz (eQ T)):=by
 refine aV T.cf.F ["name","signs","sign"] λJ A k s H vs Q E nd C h => ?_;obtain⟨t,j,B,n,l,rfl,U,⟨ps,u,r⟩,N,q⟩:=h;refine⟨_,aF (gQ dR Z (jK (pv 1)) (dP 2)
   (aG (aY (bT (HF C.units) (bJ (pv 2) Z) (pv 0)) (aG (aI (aX (Zv T) C (aC (bJ (pv 2) Z) aD)))) bD)))
  (aG (aI (cE aD))),?_⟩
 try dsimp only [aT,aR,Cx.nox]
 refine⟨_,Z,j,Z,⟨_,SqL.of u⟩,mM (K:=K) (a:=j) (xs:=ps.map V.ref) (λi σ H'=>∃v:Option V,σ= [some (.ref t),some (.ref j),v]/\Same H H'/\(l.take i).find? (λs=>s.name==n)=none)
  ⟨none,Z,λ_ _ e=>e,Z⟩ (by rintro i σ H' _ ⟨_,_,b,_⟩;exact SqL.of (b _ _ u)) ?_ ?_⟩
 ·rintro i y σ G hi ⟨v,rfl,b,c⟩;obtain⟨D,x,rfl,W,f,O⟩:=r.get hi;have d:=O.move (B:=B) (.same b);obtain⟨m,tn,Y,o,L,M⟩:=id d;refine⟨_,Z,D,_,m,_,_,Z,o,T.e.cl,T.p,oI _ _ _,_,Z,nB x.name,nB n,zH L,zH (b _ _ U),uH (wJ _) (EO _) (by decide),uH (wJ _) (EO _) (by decide),_,Z,?_⟩;rw[LT];by_cases e:x.name=n;·refine bK (bP e) ⟨_,Z,D,_,m,_,_,Z,o,T.e.cl,T.q,qN _ _ _,Y,B,x.shape.rows,Z,M,N x (fM f),λI z X hz=>q I z (b.trans X) ?_⟩;unfold tU;rw[UI c f (by rw[e];exact qY n)];exact hz
  refine bG (bN e) ⟨_,Z,b,?_⟩;rw[pI f];exact Qe c (al_35.mpr e)
 rintro σ G ⟨v,rfl,b,c⟩;rw[aO,r.len,gN]at c;refine⟨bH _,λz hz=>q _ z (b.trans (Same.new hz)) ⟨[],aH,?_⟩⟩;unfold tU;rw[c];exact .nil
def Ab:decide (V.str "names"=V.str "any")=false:=by decide +kernel
def EU:decide (V.str "names"=V.str "alike")=false:=by decide +kernel
def Ac:decide (V.str "names"=V.str "class")=false:=by decide +kernel
def Ad:decide (V.str "names"=V.str "run")=false:=by decide +kernel
def aAb:decide (V.str "class"=V.str "any")=false:=by decide +kernel
def Ae:decide (V.str "class"=V.str "alike")=false:=by decide +kernel
def aAc:decide (V.str "class"=V.str "class")=true:=by decide +kernel
def aAd:decide (V.str "class"=V.str "run")=false:=by decide +kernel
def aAe:decide (V.str "alike"=V.str "any")=false:=by decide +kernel
def Af:decide (V.str "alike"=V.str "alike")=true:=by decide +kernel
def aAf:decide (V.str "alike"=V.str "run")=false:=by decide +kernel
def aAg:decide (V.str "any"=V.str "any")=true:=by decide +kernel
def aAh:decide (V.str "any"=V.str "alike")=false:=by decide +kernel
def aAi:decide (V.str "any"=V.str "run")=false:=by decide +kernel
def aAj:decide (V.str "run"=V.str "run")=true:=by decide +kernel
inductive aAk(CS CA:Addr)(vs:List V)(H:Hp)(Q:VK)(E:XK):Prop
 |mk (p a z:Addr) (B B2:Addr->Prop) (l:Gh.Signs) (x:Gh.Sign) (d:Bool) (o:Gh.One) (sh:List (List (List Bool))) (_:vs=[.ref p,.ref a,.ref z]) (_:SignAt CS B H p x) (_:AtomAt CA B2 H a (.one d o)) (_:ListAt (ShapeAt λ_=>True) H z sh) (_:(∀n,o= .alike n->sh=tU l n)) (_:∀H':Hp,Same H H'->Q (.bl (gL l o x)) H')
def Ag(h:ListAt NameAt H t ns):Dp K H (.ref t) (.list (ns.map nB)):=by obtain⟨ps,a,b⟩:=h;exact .lst (SqL.of a) (zC (b.mono λ_ _=>zH))
def aAl(h:ListAt (ShapeAt B) H t ns):Dp K H (.ref t) (.list (ns.map sF)):=by obtain⟨ps,a,b⟩:=h;exact .lst (SqL.of a) (zC (b.mono λ_ _=>ZM))
def zI(x:UInt8×UInt8):List Int:=[((x.1.toNat:Nat):Int),((x.2.toNat:Nat):Int)]
def EV(h:PairAt H t x):Dp K H (.ref t) (.tuple ((zI x).map PyData.int)):= .tup (SqT.of h) (zD (zI x))
def EW(ns:List Int):SeqAt.shaped (.tuple (ns.map PyData.int))=true:=uH (k:=1) (by show PyData.canLayAll0 _=true;exact zF _) (by show PyData.depthAll _+1<=1;rw[zG];exact aK _) (by decide)
def Ah(x y:UInt8×UInt8):PyData.eqv (.tuple ((zI x).map PyData.int)) (.tuple ((zI y).map PyData.int))=(x.1==y.1&&x.2==y.2):=by
 show PyData.eqvAll _ _=_;rw[zE];unfold zI;have h:∀a b:UInt8,(((a.toNat:Nat):Int)=((b.toNat:Nat):Int))↔a=b:=λa b=>⟨λz=>al_64.mp (pR z),λz=>by rw[z]⟩;rw[jW,gK,cB,al_41,al_41];simp only [List.cons.injEq,and_true];rw[h,h]
def aAm:bR P w base 2 T.bq ["sign","atom","shapes"] (aAk (eQ T) (gF T)):=by
 refine aV T.bq.F ["sign","atom","shapes"] λM A D s H vs Q E nd v h=> ?_;obtain⟨p,a,z,B,Y,l,x,d,o,J,rfl,O,k,hz,C,q⟩:=h;have N:=v.units;have m:=ZN v;refine⟨_,aF (aY (bT dS (bJ (pv 1) Z) (dH T.aW)) (aG (aI eJ)) bD)
  (aF (aY (bT dS (bJ (pv 1) Z) (dH T.af)) (aG (aI (tG (LS m) (bJ (pv 0) Z) (pv 2) Z))) bD)
  (aF (aY (bT dS (bJ (pv 1) Z) (dH T.aX)) (aG (aI (kD (HF N) (aX (LY T) v (aC (bJ (pv 0) Z) aD)) (bJ (pv 1) Z)))) bD)
  (aG (aI (tG (LS m) (bJ (pv 0) Z) (bJ (pv 1) Z) Z))))),?_⟩
 try dsimp only [aT,aR,Cx.nox]
 obtain⟨r,W,sx,u,I,X⟩:=id O;cases o with
 |any=>
  obtain⟨b,f⟩:=k;refine⟨_,Z,a,_,b,_,_,Z,f,T.c.cl,T.j,gX _ _ _,Z,_,Z,?_⟩;exact bK aAg (q H λ_ _ e=>e)
 |alike n=>
  obtain⟨t,⟨b,f⟩,i⟩:=k;refine⟨_,Z,a,_,b,_,_,Z,f,T.c.cl,T.j,gX _ _ _,Z,_,Z,?_⟩;refine bG aAe ⟨_,Z,a,_,b,_,_,Z,f,T.c.cl,T.j,gX _ _ _,Z,_,Z,?_⟩;refine bK Af ⟨_,Z,p,_,r,_,_,Z,u,T.e.cl,T.q,qN _ _ _,_,Z,sF x.shape.rows,J.map sF,ZM X,aAl hz,uH (ZL _) (Xy _) (by decide),wI ZL J,?_⟩;rw[any_map Xx,C n rfl,<- Qc];exact q H λ_ _ e=>e
 |class_ b1 b2=>
  obtain⟨t,⟨b,f⟩,i⟩:=k;refine⟨_,Z,a,_,b,_,_,Z,f,T.c.cl,T.j,gX _ _ _,Z,_,Z,?_⟩;refine bG aAb ⟨_,Z,a,_,b,_,_,Z,f,T.c.cl,T.j,gX _ _ _,Z,_,Z,?_⟩;refine bG Ae ⟨_,Z,a,_,b,_,_,Z,f,T.c.cl,T.j,gX _ _ _,Z,_,Z,?_⟩;refine bK aAc ⟨_,Z,p,_,r,_,_,Z,u,T.e.cl,T.p,oI _ _ _,W,x.name,Z,I,λL y G U=> ?_⟩;refine⟨_,Z,a,_,b,_,_,Z,G _ _ f,T.c.cl,T.A,CH _ _ _,_,_,EV U,EV (G _ _ i),EW _,EW _,?_⟩;rw[Ah];exact q L G
 |name n=>
  obtain⟨t,⟨b,f⟩,_,i⟩:=k;refine⟨_,Z,a,_,b,_,_,Z,f,T.c.cl,T.j,gX _ _ _,Z,_,Z,?_⟩;refine bG Ab ⟨_,Z,a,_,b,_,_,Z,f,T.c.cl,T.j,gX _ _ _,Z,_,Z,?_⟩;refine bG EU ⟨_,Z,a,_,b,_,_,Z,f,T.c.cl,T.j,gX _ _ _,Z,_,Z,?_⟩;refine bG Ac ⟨_,Z,p,_,r,_,_,Z,u,T.e.cl,T.p,oI _ _ _,_,Z,a,_,b,_,_,Z,f,T.c.cl,T.A,CH _ _ _,nB x.name,[n].map nB,zH I,Ag i,uH (wJ _) (EO _) (by decide),wI wJ _,?_⟩;rw[any_map LT];have e:[n].contains x.name=gL l (.name n) x:=by
   rw[qZ];show((x.name==n)||false)=_;rw[jD];rfl
  rw[e];exact q H λ_ _ e=>e
 |among ns=>
  obtain⟨t,⟨b,f⟩,_,i⟩:=k;refine⟨_,Z,a,_,b,_,_,Z,f,T.c.cl,T.j,gX _ _ _,Z,_,Z,?_⟩;refine bG Ab ⟨_,Z,a,_,b,_,_,Z,f,T.c.cl,T.j,gX _ _ _,Z,_,Z,?_⟩;refine bG EU ⟨_,Z,a,_,b,_,_,Z,f,T.c.cl,T.j,gX _ _ _,Z,_,Z,?_⟩;refine bG Ac ⟨_,Z,p,_,r,_,_,Z,u,T.e.cl,T.p,oI _ _ _,_,Z,a,_,b,_,_,Z,f,T.c.cl,T.A,CH _ _ _,nB x.name,ns.map nB,zH I,Ag i,uH (wJ _) (EO _) (by decide),wI wJ _,?_⟩;rw[any_map LT];exact q H λ_ _ e=>e
def kindOf:Gh.One->Str
 | .any=>"any"
 | .alike _=>"alike"
 | .class_ _ _=>"class"
 | .name _=>"names"
 | .among _=>"names"
def AtomAt.as:∀{o:Gh.One},AtomAt b B H a (.one d o)->∃v,AtomAs b H a (kindOf o) v d
 | .any,h=>⟨_,h⟩
 | .alike _,⟨_,h,_⟩=>⟨_,h⟩
 | .class_ _ _,⟨_,h,_⟩=>⟨_,h⟩
 | .name _,⟨_,h,_⟩=>⟨_,h⟩
 | .among _,⟨_,h,_⟩=>⟨_,h⟩
inductive aAn(CS CA:Addr)(vs:List V)(H:Hp)(Q:VK)(E:XK):Prop
 |mk (a ls:Addr) (B B2:Addr->Prop) (l:Gh.Signs) (d:Bool) (o:Gh.One) (_:vs=[.ref a,.ref ls]) (_:AtomAt CA B2 H a (.one d o)) (_:ListAt (SignAt CS B) H ls l) (_:(∀x∈l,Sm x.shape.rows)) (_:l.length<=512) (_:∀(H':Hp) (z:Addr),Same H H'->H z=none->H' z=some (.lst ((nz (bL (λx=>gL l o x !=d) 0 l)).map V.int))->Q (.ref z) H')
def aAo(a b:Bool):(!decide (V.bl a=V.bl b))=(a !=b):=by cases a<;>cases b<;>rfl
inductive aAp(a ls zs nl:Addr)(H:Hp)(sh:List (List (List Bool)))(l:Gh.Signs)(f:Gh.Sign->Bool)(i:Nat)(σ:L2.St)(H':Hp):Prop
 |mk (v4 v5:Option V) (_:σ= [some (V.ref a),some (V.ref ls),some (V.ref zs),some (V.ref nl),v4,v5]) (_:Same H H') (_:ListAt (ShapeAt λt=>t≠nl) H' zs sh) (_:H' nl=some (.lst ((nz (bL f 0 (l.take i))).map V.int)))
def aAq:bR P w base 5 T.ci ["atom","signs"] (aAn (eQ T) (gF T)):=by
 refine aV T.ci.F ["atom","signs","shapes","numbers","number","sign"] λe2 A h8 s H vs Q E nd hr h=> ?_;obtain⟨a,Y,B,B2,l,d,o,rfl,ha,N,hS,e1,q⟩:=h;refine⟨_,aF (bA 2 (mK (bT dS (bJ (pv 0) Z) (dH T.af)) (aX (aAa T) hr (aC (bJ (pv 0) Z) (aC (pv 1) aD))) (cE aD)))
  (aF (bA 3 (cE aD))
  (aF (gQ dR Z (vL (by rfl) T.z (aC (pv 1) aD)) (GJ Z (mL (dP 4) (mL (dP 5) vC)))
   (aG (aY (bT kW (aX (aAm T) hr (aC (pv 5) (aC (pv 0) (aC (pv 2) aD)))) (bJ (pv 0) Z))
    (aG (eY (fV fJ gO gP gR (pv 3) (aC (pv 4) aD)))) bD)))
  (aG (aI (pv 3))))),?_⟩
 try dsimp only [aT,aR,Cx.nox]
 obtain⟨va,dy,h1⟩:=ha.as;refine ZZ λR rx=> ?_;have tail:∀(b:Addr) (v:Hp) (sh:List (List (List Bool))),Same H v->ListAt (ShapeAt λ_=>True) v b sh->(∀m,o= .alike m->sh=tU l m)->R [some (V.ref a),some (V.ref Y),some (V.ref b),none,none,none] v:=λb v sh D hz h4=>by
  refine rx _ _ ?_;refine⟨bH _,λnl p=> ?_⟩;obtain⟨ps,hp,hA⟩:=id N;obtain⟨e0,r,h6⟩:=id hz;have s2:Same v (aE v nl (.lst [])):=Same.new p;have h7:b≠nl:=cH r p;have O:H nl=none:=D.free p;refine⟨_,Z,Y,_,Z,SqL.of (s2 _ _ (D _ _ hp)),ZX (K:=K) (a:=Y) (xs:=ps.map V.ref) (aAp a Y b nl H sh l λx=>gL l o x !=d)
   ⟨none,none,Z,D.trans s2,⟨e0,s2 _ _ r,h6.mono λ_ _ h=>(h.ne p).move (.same s2)⟩,aH⟩ (by rintro i σ H' _ ⟨_,_,_,s3,_⟩;exact SqL.of (s3 _ _ hp)) ?_ ?_⟩
  ·rintro i y t σ I hi ht ⟨v4,v5,rfl,s3,W,f⟩;obtain⟨pi,x,rfl,e4,hx,hc⟩:=hA.get hi;have e3:i<l.length:=(al_19.mp hx).1;have L:(l.take i).length=i:=by rw[iH];lia
   have s4:Same I (aE I t (.tup [.int ((i:Nat):Int),.ref pi])):=Same.new ht;refine⟨t,_,Z,SqT.of aH,Z,_,_,Z,_,_,Z,Z,?_⟩;have C:=W.same (λ_ _ h=>h.move (.same s4)) s4;have U:=s4 _ _ f;have u:=s3.trans s4;generalize aE I t (HO.tup [.int ((i:Nat):Int),.ref pi])=H4 at s4 C U u;refine⟨_,Z,_,Z,_,Z,pi,a,b,B,B2,l,x,d,o,sh,Z,hc.move (.same u),ha.same u,ListAt.imp (λ_ _ h=>ShapeAt.any h) C,h4,λH5 s5=> ?_⟩;have G:=u.trans s5;have X:=C.same (λ_ _ h=>h.move (.same s5)) s5;have k:=s5 _ _ U;refine⟨_,Z,a,_,dy,_,_,Z,G _ _ h1,T.c.cl,T.am,Js _ _ _,Z,_,Z,?_⟩;rw[aAo];have eF:bL (λx=>gL l o x !=d) 0 (l.take (i+1))=bL (λx=>gL l o x !=d) 0 (l.take i)++(if(gL l o x !=d)=true then [i]else []):=by rw[pI hx,IU,L,kS]
   cases e:(gL l o x !=d)with
   |false=>
    rw[e,aA bX,bU]at eF;refine aQ ⟨_,_,Z,G,X,?_⟩;rw[eF];exact k
   |true=>
    rw[e,aB rfl] at eF;have M:((nz (bL (λx=>gL l o x != d) 0 (l.take i))).map V.int).length < sizeLine:=wL (by
     rw[aO,kO];have:=yN (λx=>gL l o x !=d) (l.take i) 0;lia)
    refine aN ⟨_,Z,.inl ⟨Z,_,SqL.of k⟩,_,Z,nl,_,_,Z,Z,k,M,?_⟩;refine⟨_,_,Z,Same.put G O,?_,?_⟩;·obtain⟨h9,z1,z2⟩:=X;exact⟨h9,by rw[bB h7];exact z1,z2.mono λ_ _ h=>h.move (Mv.put k)⟩
    rw[aH,eF,ET]
  rintro σ I ⟨v4,v5,rfl,s3,W,f⟩;rw[aO,hA.len,gN]at f;exact⟨_,Z,q I nl s3 O f⟩
 refine⟨_,Z,a,_,dy,_,_,Z,h1,T.c.cl,T.j,gX _ _ _,Z,_,Z,?_⟩;by_cases al:∃n,o= .alike n
 ·obtain⟨n,e⟩:=al;have J:=ha;rw[e]at J;obtain⟨t,⟨h0,h3⟩,h2⟩:=J;have hk:decide (V.str (kindOf o)=V.str "alike")=true:=by rw[e];exact Af
  refine bK hk ⟨_,Z,a,_,h0,_,_,Z,h3,T.c.cl,T.A,CH _ _ _,_,Z,t,Y,B,n,l,Z,h2,N,hS,λv b D h5=> ?_⟩;exact tail b v _ D h5 λm em=>by rw[e]at em;cases em;rfl
 have hk:decide (V.str (kindOf o)=V.str "alike")=false:=by cases o with|any=>exact aAh|alike n=>exact absurd ⟨n,Z⟩ al|class_ _ _=>exact Ae|name _=>exact EU|among _=>exact EU
 refine bG hk ⟨bH _,λb r=> ?_⟩;have D:Same H (aE H b (.lst [])):=Same.new r;exact tail b _ [] D ⟨[],aH,.nil⟩ λm em=>absurd ⟨m,em⟩ al
def LZ(a:Room k A):A.units+1<cLine:=by have:=a.un;lia
def wM(a:Room k A):A.units<cLine:=by have:=a.un;lia
def iF(k:Str)(v q:V)(m u:Bool):List (Str×V):=aL "uncertain" (.bl u) (aL "mirrored" (.bl m) (aL "quarters" q (aL "what" v (aL "kind" (.str k) []))))
def aAr:¬("kind":Str)="quarters":=by decide +kernel
def aAs:¬("kind":Str)="mirrored":=by decide +kernel
def aAt:¬("kind":Str)="uncertain":=by decide +kernel
def aAu:¬("what":Str)="quarters":=by decide +kernel
def aAv:¬("what":Str)="mirrored":=by decide +kernel
def aAw:¬("what":Str)="uncertain":=by decide +kernel
def aAx:¬("quarters":Str)="mirrored":=by decide +kernel
def aAy:¬("quarters":Str)="uncertain":=by decide +kernel
def aAz:¬("mirrored":Str)="uncertain":=by decide +kernel
def qP(k:Str)(v q:V)(m u:Bool):(iF k v q m u).lookup ("kind":Str)=some (.str k):=by unfold iF;rw[bV,aA aAt,bV,aA aAs,bV,aA aAr,bV,aA RA,bV,aB rfl]
def EX(k:Str)(v q:V)(m u:Bool):(iF k v q m u).lookup ("what":Str)=some v:=by unfold iF;rw[bV,aA aAw,bV,aA aAv,bV,aA aAu,bV,aB rfl]
def zJ(k:Str)(v q:V)(m u:Bool):(iF k v q m u).lookup ("quarters":Str)=some q:=by unfold iF;rw[bV,aA aAy,bV,aA aAx,bV,aB rfl]
def aAA(k:Str)(v q:V)(m u:Bool):(iF k v q m u).lookup ("mirrored":Str)=some (.bl m):=by unfold iF;rw[bV,aA aAz,bV,aB rfl]
def MA(k:Str)(v q:V)(m u:Bool):(iF k v q m u).lookup ("uncertain":Str)=some (.bl u):=by unfold iF;rw[bV,aB rfl]
def wN:HO.ins c d (iF k v q m u)≠HO.ins C b (cf a i):=by
 intro z;injection z with _ _ f
 have e:=qP k v q m u;rw[f,bW a i HU HV]at e;cases e
def NatsAt(B:Addr->Prop)(H:Hp)(p:Addr)(q:List Nat):Prop:=B p/\H p=some (.lst ((nz q).map V.int))
def ItemAt(c:Addr)(B:Addr->Prop)(H:Hp)(p:Addr):Item->Prop
 | .brk=>∃b a,H p=some (.ins c b (iF "lost" .non (.ref a) false false))/\NatsAt B H a []
 | .sgn s=>∃b t a,H p=some (.ins c b (iF "sign" (.ref t) (.ref a) s.mirrored s.unsure))/\NameAt H t s.name/\NatsAt B H a s.quarters
 | .gap k q=>∃b a,H p=some (.ins c b (iF "gap" (.int ((k:Nat):Int)) (.ref a) false false))/\NatsAt B H a q
def uI:Item->Str
 | .brk=>"lost"
 | .sgn _=>"sign"
 | .gap _ _=>"gap"
section
def NatsAt.move(m:Mv B H H')(h:NatsAt B H p q):NatsAt B H' p q:=⟨h.1,m _ _ h.2 (λ_ _=>h.1) (λ_ _ _ _ z=>by cases z)⟩
def NatsAt.imp(f:∀t,B t->B' t)(h:NatsAt B H p q):NatsAt B' H p q:=⟨f _ h.1,h.2⟩
def ItemAt.move(m:Mv B H H'):∀{x:Item},ItemAt a B H p x->ItemAt a B H' p x
 | .brk,⟨dx,qa,h1,h2⟩=>⟨dx,qa,m _ _ h1 (λ_ z=>by cases z) (λ_ _ _ _=>wN),h2.move m⟩
 | .sgn _,⟨dx,t,qa,h1,h2,h3⟩=>⟨dx,t,qa,m _ _ h1 (λ_ z=>by cases z) (λ_ _ _ _=>wN),h2.move m,h3.move m⟩
 | .gap _ _,⟨dx,qa,h1,h2⟩=>⟨dx,qa,m _ _ h1 (λ_ z=>by cases z) (λ_ _ _ _=>wN),h2.move m⟩
def ItemAt.imp(f:∀t,B t->B' t):∀{x:Item},ItemAt a B H p x->ItemAt a B' H p x
 | .brk,⟨dx,qa,h1,h2⟩=>⟨dx,qa,h1,h2.imp f⟩
 | .sgn _,⟨dx,t,qa,h1,h2,h3⟩=>⟨dx,t,qa,h1,h2,h3.imp f⟩
 | .gap _ _,⟨dx,qa,h1,h2⟩=>⟨dx,qa,h1,h2.imp f⟩
def ItemAt.as:∀{x:Item},ItemAt c B H p x->∃a v b m u,H p=some (.ins c a (iF (uI x) v (.ref b) m u))
 | .brk,⟨a,b,h1,_⟩=>⟨a,_,b,_,_,h1⟩
 | .sgn _,⟨a,_,b,h1,_⟩=>⟨a,_,b,_,_,h1⟩
 | .gap _ _,⟨a,b,h1,_⟩=>⟨a,_,b,_,_,h1⟩
end
def nk(n:Gh.Name):List cC:=(ni n).map Sum.inl
def Ai(n:Gh.Name):(nk n).map kV=(ni n).map V.int:=by unfold nk;rw[pO];rfl
def Aj(h:nk n=nk m):n=m:=ZJ (List.map_inj_right (λ_ _ e=>Sum.inl.inj e)|>.mp h)
def nE(i:Nat):Gh.Signs->List (List cC×V)
 | []=>[]
 |x::l=>(nk x.name,.int ((i:Nat):Int))::nE (i+1) l
def Ak(x:Gh.Sign):∀(l:Gh.Signs) (i:Nat),nE i (l++[x])=nE i l++[(nk x.name,.int ((i+l.length:Nat):Int))]
 | [],i=>rfl
 |y::l,i=>by
  rw[qU];show(nk y.name,V.int ((i:Nat):Int))::nE (i+1) (l++[x])=_;rw[Ak x l (i+1),cG,show i+1+l.length=i+(l.length+1) by lia];rfl
def Al:∀(l:Gh.Signs) (i:Nat),(nE i l).length=l.length
 | [],_=>rfl
 |x::l,i=>by show(nE (i+1) l).length+1=l.length+1;rw[Al l (i+1)]
def Am(n:Gh.Name):∀(l:Gh.Signs) (i:Nat),(∀x∈l,x.name≠n)->((nE i l).any λb=>decide (b.1=nk n))=false
 | [],_,_=>rfl
 |x::l,i,h=>by
  show(decide (nk x.name=nk n)||(nE (i+1) l).any _)=false;rw[bN (λz=>h x (cF ..) (Aj z)),Am n l (i+1) λy a=>h y (cA _ a)];rfl
def An(n:Gh.Name):∀(l:Gh.Signs) (i:Nat),kY (nE i l) (nk n)=(Gh.findName l n).map λk=>V.int ((i+k:Nat):Int)
 | [],_=>rfl
 |x::l,i=>by
  unfold kY Gh.findName;show(List.find? _ ((nk x.name,V.int ((i:Nat):Int))::nE (i+1) l)).map _=_;rw[lL,List.findIdx?_cons];by_cases e:x.name=n;·rw[bP (show nk x.name=nk n by rw[e]),al_41.mpr e];rfl
  rw[bN (λz=>e (Aj z)),al_35.mpr e];have a:=An n l (i+1);unfold kY Gh.findName at a;dsimp only;rw[a,aA bX,Option.map_map];congr 1;funext k;show V.int ((i+1+k:Nat):Int)=V.int ((i+(k+1):Nat):Int);rw[show i+1+k=i+(k+1) by lia]
def DictAt(H:Hp)(d:Addr)(l:Gh.Signs):Prop:=H d=some (.dT (nE 0 l))
def DictAt.get(h:DictAt H d l)(a:NameAt H t n):DGet H d (.ref t) ((Gh.findName l n).map λk=>V.int ((k:Nat):Int)):=by
 have e:=DGet.t (k:=nk n) h (by rw[Ai];exact a);rw[An]at e
 simpa using e
inductive aAB(CS:Addr)(vs:List V)(H:Hp)(Q:VK)(E:XK):Prop
 |mk (ls:Addr) (B:Addr->Prop) (l:Gh.Signs) (_:vs=[.ref ls]) (_:ListAt (SignAt CS B) H ls l) (_:Distinct l) (_:l.length<=512) (_:∀(H':Hp) (d:Addr),Same H H'->H d=none->DictAt H' d l->Q (.ref d) H')
inductive aAC(H:Hp)(ls:Addr)(l:Gh.Signs)(d:Addr)(i:Nat)(σ:L2.St)(H':Hp):Prop
 |mk (v2 v3:Option V) (_:σ= [some (V.ref ls),some (V.ref d),v2,v3]) (_:Same H H') (_:H' d=some (.dT (nE 0 (l.take i))))
def Ao:bR P w base 1 T.bw ["signs"] (aAB (eQ T)):=by
 refine aV T.bw.F ["signs","numbers","number","sign"] λW A I s H vs Q E nd hr h=> ?_;obtain⟨G,B,l,rfl,⟨ps,N,M⟩,hd,L,q⟩:=h;refine⟨_,aF (bA 1 Il)
  (aF (gQ dR Z (vL (by rfl) T.z (aC (pv 0) aD)) (GJ Z (mL (dP 2) (mL (dP 3) vC)))
   (aG (Ii (LZ hr) (pv 1) (bJ (pv 3) Z) (pv 2) Z)))
  (aG (aI (pv 1)))),?_⟩
 try dsimp only [aT,aR,Cx.nox]
 intro d c;have O:Same H (aE H d (.dT [])):=Same.new c;refine⟨_,Z,G,_,Z,SqL.of (O _ _ N),ZX (K:=K) (a:=G) (xs:=ps.map V.ref) (aAC H G l d)
  ⟨none,none,Z,O,aH⟩ (by rintro i σ H' _ ⟨_,_,_,o,_⟩;exact SqL.of (o _ _ N)) ?_ ?_⟩
 ·rintro i y t σ m hi ht ⟨v2,v3,rfl,o,r⟩;obtain⟨J,C,rfl⟩:=pH hi;obtain⟨x,D,hc⟩:=M.sm C;have U:Same m (aE m t (.tup [.int ((i:Nat):Int),.ref J])):=Same.new ht;have n:=U _ _ r;have f:=o.trans U;refine⟨t,_,Z,SqT.of aH,Z,_,_,Z,_,_,Z,Z,?_⟩;generalize aE m t (HO.tup [.int ((i:Nat):Int),.ref J])=H3 at n f;obtain⟨X,tn,sh,Y,e2,e3⟩:=hc.move (B:=B) (.same f);have h0:i<l.length:=(al_19.mp D).1;have b:(l.take i).length=i:=by rw[iH];lia
  refine⟨_,Z,_,Z,_,Z,J,_,X,_,_,Z,Y,T.e.cl,T.p,oI _ _ _,d,_,Z,DPut.t (k:=nk x.name) n (by rw[Ai];exact e2) (wL (by rw[Al,b];lia)),?_⟩;refine⟨_,_,Z,Same.put f c,?_⟩;rw[aH,lG D,Ak,b,kS];unfold mN;rw[Am x.name (l.take i) 0 (λz hz e=> ?_),aA bX];obtain⟨j,u⟩:=nO hz;have v:j<i:=by have:=(al_19.mp u).1;lia
  rw[AD v]at u;have:=hd.ne u D e;lia
 rintro σ m ⟨v2,v3,rfl,o,r⟩;rw[aO,M.len,gN]at r;exact⟨_,Z,q m d o c r⟩
def aAD:decide (V.str "sign"=V.str "sign")=true:=by decide +kernel
def aAE:decide (V.str "lost"=V.str "sign")=false:=by decide +kernel
def aAF:decide (V.str "gap"=V.str "sign")=false:=by decide +kernel
def zK(x:Item):decide (V.str (uI x)=V.str "sign")=sA x:=by cases x with|brk=>exact aAE|sgn _=>exact aAD|gap _ _=>exact aAF
inductive aAG(CS CI:Addr)(vs:List V)(H:Hp)(Q:VK)(E:XK):Prop
 |mk (li ls:Addr) (B B2:Addr->Prop) (its:List Item) (l:Gh.Signs) (_:vs=[.ref li,.ref ls]) (_:ListAt (ItemAt CI B2) H li its) (_:ListAt (SignAt CS B) H ls l) (_:Distinct l) (_:l.length<=512) (_:∀(H':Hp),Same H H'->Q (.bl (iW l its)) H')
def aAH:bR P w base 2 T.bv ["items","signs"] (aAG (eQ T) (cI T)):=by
 refine aV T.bv.F ["items","signs","numbers","item"] λh0 A M s H vs Q E nd X h=> ?_;obtain⟨L,ls,B,B2,b,l,rfl,⟨ps,W,O⟩,G,hd,f,q⟩:=h;refine⟨_,aF (bA 2 (aX (Ao T) X (aC (pv 1) aD)))
  (aF (gQ dR Z (jK (pv 0)) (dP 3)
   (aG (aY (PW.pt (nR (bT dS (bJ (pv 3) Z) (dH T.J)) (oS (fK (Ih (LZ X) (bJ (pv 3) Z) (pv 2))))))
    (aG (aI eJ)) bD)))
  (aG (aI eJ))),?_⟩
 try dsimp only [aT,aR,Cx.nox]
 refine⟨_,Z,ls,B,l,Z,G,hd,f,λH1 d o h1 hD=> ?_⟩;refine⟨_,Z,L,Z,⟨_,SqL.of (o _ _ W)⟩,mM (K:=K) (a:=L) (xs:=ps.map V.ref) (λi σ H'=>H'=H1/\(∃N:Option V,σ= [some (.ref L),some (.ref ls),some (.ref d),N])/\iW l (b.take i)=true)
  ⟨Z,⟨none,Z⟩,Z⟩ (by rintro i σ H' _ ⟨e,_⟩;rw[e];exact SqL.of (o _ _ W)) ?_ ?_⟩
 ·rintro i y σ z hi ⟨rfl,⟨N,rfl⟩,j⟩;obtain⟨pi,I,rfl⟩:=pH hi;obtain⟨x,Y,hc⟩:=O.sm I;have n:=hc.move (B:=B2) (.same o);have c:iW l (b.take (i+1))=ig (λs=>(Gh.findName l s.name).isSome) x:=by
   unfold iW at j ⊢;rw[lG Y,oN,j,mI,dM,wW,nM]
  obtain⟨dx,v,qa,m,u,e1⟩:=n.as;refine⟨_,Z,pi,_,dx,_,_,Z,e1,T.d.cl,T.r,qP _ _ _ _ _,Z,_,Z,?_⟩;rw[zK];cases x with
  |brk=>
   exact aQ (aQ ⟨Z,⟨_,Z⟩,c⟩)
  |gap k g=>
   exact aQ (aQ ⟨Z,⟨_,Z⟩,c⟩)
  |sgn st=>
   obtain⟨C,t,h2,D,p,e3⟩:=n;refine aN ⟨_,Z,pi,_,C,_,_,Z,D,T.d.cl,T.U,EX _ _ _ _ _,_,Z,d,_,Z,hD.get p,_,Z,?_⟩;have c:iW l (b.take (i+1))=(Gh.findName l st.name).isSome:=c;rw[Option.isSome_map];cases e:(Gh.findName l st.name).isSome with
   |true=>
    rw[e]at c;exact aQ ⟨Z,⟨_,Z⟩,c⟩
   |false=>
    refine aN ?_;have:iW l b=false:=by
     cases p:iW l b with
     |false=>rfl
     |true=>
      unfold iW at p;have:=al_53.mp p (.sgn st) (fM Y);rw[show ig (λs=>(Gh.findName l s.name).isSome) (.sgn st)=(Gh.findName l st.name).isSome from rfl,e]at this;cases this
    rw[this]at q;exact q z o
 rintro σ z ⟨rfl,⟨N,rfl⟩,j⟩;rw[aO,O.len,gN]at j;rw[j]at q;exact q z o
def kf(r s t a:V):List (Str×V):=aL "atoms" a (aL "text" t (aL "signs" s (aL "refusal" r [])))
def aAI:¬("refusal":Str)="signs":=by decide +kernel
def aAJ:¬("refusal":Str)="text":=by decide +kernel
def aAK:¬("refusal":Str)="atoms":=by decide +kernel
def aAL:¬("signs":Str)="text":=by decide +kernel
def aAM:¬("signs":Str)="atoms":=by decide +kernel
def aAN:¬("text":Str)="atoms":=by decide +kernel
def MB(r s t a:V):(kf r s t a).lookup ("refusal":Str)=some r:=by unfold kf;rw[bV,aA aAK,bV,aA aAJ,bV,aA aAI,bV,aB rfl]
def Ap(r s t a:V):(kf r s t a).lookup ("signs":Str)=some s:=by unfold kf;rw[bV,aA aAM,bV,aA aAL,bV,aB rfl]
def aAO(r s t a:V):(kf r s t a).lookup ("text":Str)=some t:=by unfold kf;rw[bV,aA aAN,bV,aB rfl]
def aAP(r s t a:V):(kf r s t a).lookup ("atoms":Str)=some a:=by unfold kf;rw[bV,aB rfl]
inductive aAQ(CK:Addr)(vs:List V)(H:Hp)(Q:VK)(E:XK):Prop
 |mk (x dx:Addr) (r s t a:V) (_:vs=[.ref x,r,s,t,a]) (_:H x=some (.ins CK dx [])) (_:∀H':Hp,H' x=some (.ins CK dx (kf r s t a))->Keep x H H'->Q .non H')
def Aq:qE P w base 1 T.m ["self","refusal","signs","text","atoms"] (aAQ (yB T)):=by
 refine aV T.m.F ["self","refusal","signs","text","atoms"] λe A d s H vs Q E k j h=> ?_;obtain⟨x,c,r,s,t,a,rfl,i,q⟩:=h;refine⟨_,aF (dA (pv 0) (pv 1) Z) (aF (dA (pv 0) (pv 2) Z) (aF (dA (pv 0) (pv 3) Z) (aG (dA (pv 0) (pv 4) Z)))),?_⟩
 try dsimp only [aT,aR,Cx.nox]
 have b:∀(f:Str) (v:V) (fs:List (Str×V)) (n:Nat),fs.length<=n->(aL f v fs).length<=n+1:=λf v fs n h=>aZ (kC _ _ _) (kR h);refine⟨_,Z,_,Z,x,_,c,[],Z,i,T.m.cl,T.O,(by show 0<1000;decide),?_⟩;refine⟨_,Z,_,Z,x,_,c,_,Z,aH,T.m.cl,T.Z,dG (b _ _ _ 0 (bH _)) (by decide),?_⟩;refine⟨_,Z,_,Z,x,_,c,_,Z,aH,T.m.cl,T.al,dG (b _ _ _ 1 (b _ _ _ 0 (bH _))) (by decide),?_⟩;refine⟨_,Z,_,Z,x,_,c,_,Z,aH,T.m.cl,T.ak,dG (b _ _ _ 2 (b _ _ _ 1 (b _ _ _ 0 (bH _)))) (by decide),?_⟩;exact q _ aH (((((Keep.refl x H).put (.inl Z)).put (.inl Z)).put (.inl Z)).put (.inl Z))
abbrev MC:=Except Int (Gh.Signs×List Item×List Gh.Atom)
def MD(c f e d:Addr)(H:Hp)(p:Addr):MC->Prop
 | .error z=>z≠0/\∃b s t a,H p=some (.ins c b (kf (.int z) s t a))
 | .ok x=>∃b s t a,H p=some (.ins c b (kf (.int 0) (.ref s) (.ref t) (.ref a)))/\ListAt (SignAt f λ_=>True) H s x.1/\ListAt (ItemAt e λ_=>True) H t x.2.1/\ListAt (AtomAt d λ_=>True) H a x.2.2
inductive aAR(CK:Addr)(vs:List V)(H:Hp)(Q:VK)(E:XK):Prop
 |mk (z:Int) (_:vs=[.int z]) (_:∀(H':Hp) (p:Addr),Same H H'->(∃dx s t a,H' p=some (.ins CK dx (kf (.int z) s t a)))->Q (.ref p) H')
def wO:bR P w base 3 T.cc ["refusal"] (aAR (yB T)):=by
 refine aV T.cc.F ["refusal"] λe A b s H vs Q E y l h=> ?_;obtain⟨z,rfl,q⟩:=h;refine⟨_,aG (aI (iM (Aq T) l (aC (pv 0) (aC (cE aD) (aC (cE aD) (aC (cE aD) aD)))))),?_⟩
 try dsimp only [aT,aR,Cx.nox]
 refine⟨_,Z,bH _,λr i=>⟨bH _,λu j=>⟨bH _,λv k=> ?_⟩⟩⟩;intro x c n a ne;have p:Same H _:=((Same.new (o:= .lst []) i).trans (Same.new (o:= .lst []) j)).trans (Same.new (o:= .lst []) k);exact⟨x,c,_,_,_,_,Z,aH,λd f m=>⟨Z,q d x (p.trans (Same.made n a m)) ⟨c,_,_,_,f⟩⟩⟩
def Same.keepC(s:Same H a)(f:H c=none)(k:Keep c a d):Same H d:=λb o e=>k b o (s b o e) (cH e f)
def zL(b:Gh.Bytes)(t p:Option Gh.Bytes):MC:=match dD b.length [] b with
 |none=> .error (-3)
 |some l=>match(match t with|none=>some []|some t=>lZ t)with
  |none=> .error (-6)
  |some its=>match(match p with|none=>some []|some p=>(iV 64 [] p).1)with
   |none=> .error (-10)
   |some L=>if iW l its=false then .error (-9)else .ok (l,its,L)
end
section
def qQ(a b:Nat):Builtin.bitAnd (a:Int) (b:Int)=((a&&& b:Nat):Int):=by rw[PyProof.Rows.bitAnd_pp (by lia) (by lia),sM,sM]
def qR(a b:Nat):Builtin.bitOr (a:Int) (b:Int)=((a||| b:Nat):Int):=by
 unfold Builtin.bitOr;rw[PyProof.Rows.bitAnd_nn (by unfold Builtin.bitNot;lia) (by unfold Builtin.bitNot;lia)];have e:∀n:Nat,(Builtin.bitNot (Builtin.bitNot (n:Int))).toNat=n:=λn=>by unfold Builtin.bitNot;lia
 rw[e,e];unfold Builtin.bitNot;lia
def Ar:V->V->Hp->VK->Prop:=λx y H Q=>∃i j,x= .int i/\y= .int j/\Q (.int (Builtin.bitOr i j)) H
def ME:GW X .BitOr Ar:=by rintro pins s σ H x y u v Q I b c ⟨i,j,rfl,rfl,q⟩;obtain⟨t,rfl⟩:=(show∃t,u=Value.int i t from b);obtain⟨a,rfl⟩:=(show∃a,v=Value.int j a from c);exact PyProof.Rows.ior_int ⟨.int (Builtin.bitOr i j),H,I.tok _,⟨_,Z⟩,q⟩
def As:xN X .BitOr Ar:=λpins s σ H x y u v Q I a b h=>ME pins s σ H x y u v Q I a b h
def aAS:NU X (pZ X.K):=by
 intro pins s σ H o i F E Q I B A h;obtain⟨p,xs,k,z,rfl,rfl,y,v,q⟩:=h;cases B;obtain⟨t,rfl⟩:=A;obtain⟨d,r,pl,hz⟩:=I.list y;obtain⟨j,b,m,C,n,u⟩:=PF v;obtain⟨w,f,e⟩:=r.get m;have x:=r.length;have D:=BB;have a:EP X pins σ Q w s:=⟨z,H,I,e,q⟩;by_cases l:0<=k
 ·have c:k.toNat=j:=by
   rw[seqIndex_of l u]at b;exact cV b
  exact wpAny_getItem_list pl.isList l (by lia) (by rw[c];simpa using f) a
 have c:(k+(d.toArray.size:Int)).toNat=j:=by rw[seqIndex_neg (by lia) n]at b;rw[dL,<- x];exact cV b
 exact wpAny_getItem_list_neg pl.isList (by lia) (by rw[dL]<;>lia) (by lia) (by rw[c];simpa using f) a
def aAT:tD X (.type "range") (λxs H Q=>∃n:Int,xs=[.int n]/\∀p,H p=none->Q (.ref p) (aE H p (.rng 0 n))):=by intro pins s σ H xs us Q I r h;obtain⟨n,rfl,q⟩:=h;obtain⟨u,rfl,t,rfl⟩:=GT r;refine call_range_1 ⟨.ref s.heap.objs.size,_,I.laid (λb a e=>dZ _ e) (aK _) ?_,Z,q _ (I.hok.fresh (aK _))⟩;exact⟨_,_,_,gB _ Z⟩
def aAU:∀{acc:Array Value},ItemsOf (λi v=>∃t,v=Value.int (0+(i:Int)*1) t) acc n->Vals ((nz (List.range n)).map V.int) acc.toList:=by
 intro acc h;obtain⟨d,f⟩:=h;have b:∀(l:List Value) (k:Nat),(∀j v,l[j]? =some v->∃t,v=Value.int (((k+j:Nat):Nat):Int) t)->Vals ((nz (List.range' k l.length)).map V.int) l:=by
  intro l;induction l with
  |nil=>intro k _;exact Paired.nil
  |cons v l ih=>
   intro k c;refine Paired.cons ?_ (ih (k+1) λj m a=> ?_);·obtain⟨t,e⟩:=c 0 v rfl;exact⟨t,e⟩
   obtain⟨t,e⟩:=c (j+1) m a;exact⟨t,by rw[e,show k+(j+1)=k+1+j by lia]⟩
 have:=b acc.toList 0 (λj v a=>by
  obtain⟨t,e⟩:=f j v (by rw[<- kQ];exact a);exact⟨t,by rw[e];congr 1;lia⟩)
 rw[cO,d,<- wY]at this;exact this
def aAV(f:X.calm=true):tD X (.type "list") (λxs H Q=>∃(p:Addr) (n:Nat),xs=[.ref p]/\H p=some (.rng 0 (n:Int))/\n<=100000/\∀l,H l=none->Q (.ref l) (aE H l (.lst ((nz (List.range n)).map V.int)))):=by
 intro pins s σ H xs us Q I r h;obtain⟨p,n,rfl,j,i,q⟩:=h;obtain⟨u,rfl,o⟩:=GT r;cases o;obtain⟨t,u,v,e⟩:=I.hok _ _ j;have sz:Builtin.Range.rangeSize 0 (n:Int) 1=n:=by rw[rangeSize_one];split<;>lia
 refine call_list_range (I.ok.hd f) e ?_ sz (by lia) λb tk acc c k d a=> ?_
 ·unfold Builtin.Range.small;rw[sz];unfold Builtin.Range.rangeFitsLong;simp;lia
 have m:=aAU a;refine⟨.ref s.heap.objs.size,_,I.laid k (aK _) (show ObjOk X.prog X.w _ b _ (.lst _)from⟨?_,acc.toList,c,m,d⟩),Z,q _ (I.hok.fresh (aK _))⟩;rw[aO,kO,iU];exact pL (dG i (by decide))
end
section
variable{P:Program}{w:World}{K:PySem.W.Frag}{mg:Str->Option Value}{base:Heap}(T:Txt K mg)
def At:Gh.Atom->Str
 | .run=>"run"
 | .one _ o=>kindOf o
def AtomAt.asK:∀{x:Gh.Atom},AtomAt b B H a x->∃v d,AtomAs b H a (At x) v d
 | .run,h=>⟨_,_,h⟩
 | .one _ _,h=>let⟨v,h⟩:=h.as;⟨v,_,h⟩
def zM(x:Gh.Atom):decide (V.str (At x)=V.str "run")=mY x:=by
 cases x with
 |run=>exact aAj
 |one d o=>
  cases o with|any=>exact aAi|alike n=>exact aAf|class_ _ _=>exact aAd|name _=>exact Ad|among _=>exact Ad
def ListAt.sameA(s:Same H H')(h:ListAt (AtomAt a B) H l xs):ListAt (AtomAt a B) H' l xs:=h.same (λ_ _ h=>h.same s) s
def aAW(h:ps≠[]):∃p,ps[ps.length-1]? =some p/\hX (ps.map V.ref) (-1)=some (V.ref p):=by
 have a:0<ps.length:=List.length_pos_iff.mpr h;refine⟨ps[ps.length-1],cM (by lia),?_⟩;unfold hX lR;rw[aA (by decide),aO,aB (by lia)];show(ps.map V.ref)[((-1:Int)+ps.length).toNat]? =_;rw[show((-1:Int)+ps.length).toNat=ps.length-1 by lia,fL,cM (by lia)];rfl
inductive aAX(CA:Addr)(vs:List V)(H:Hp)(Q:VK)(E:XK):Prop
 |mk (la:Addr) (L:List Gh.Atom) (B:Addr->Prop) (_:vs=[.ref la]) (_:L.length<=64) (_:ListAt (AtomAt CA B) H la L) (_:∀(H':Hp) (z:Addr),Same H H'->H z=none->ListAt (AtomAt CA B) H' z (gT [] L)->Q (.ref z) H')
def aAY{L:List Gh.Atom}(h:L[i]? =some x)(acc:List Gh.Atom):gT acc (L.drop i)=if acc=[]\/mY x=false\/mZ acc=false then gT (acc++[x]) (L.drop (i+1))else gT acc (L.drop (i+1)):=by obtain⟨hi,e⟩:=al_19.mp h;rw[GB hi,e,gT]
inductive Au(K:W.Frag)(mg:Str->Option Value)(T:Txt K mg)(H:Hp)(la:Addr)(L:List Gh.Atom)(B:Addr->Prop)(nl:Addr)(i:Nat)(σ:L2.St)(H':Hp):Prop
 |mk (v2:Option V) (qs:List Addr) (acc:List Gh.Atom) (_:σ= [some (.ref la),some (.ref nl),v2]) (_:Same H H') (_:H' nl=some (.lst (qs.map V.ref))) (_:All2 (AtomAt (gF T) B H) qs acc) (_:acc.length<=i) (_:gT acc (L.drop i)=gT [] L)
def aAZ:bR P w base 1 T.cr ["atoms"] (aAX (gF T)):=by
 refine aV T.cr.F ["atoms","needed","atom"] λh3 A h1 s H vs Q E nd hr h=> ?_;obtain⟨D,L,B,rfl,h64,⟨ps,hp,hA⟩,q⟩:=h;refine⟨_,aF (bA 1 (cE aD))
  (aF (gQ dR Z (jK (pv 0)) (dP 2)
   (aG (aY (PW.pt (jE (bT (wG (wM hr)) (pv 1) (cE aD)) (jE (bT kW (bJ (pv 2) Z) (dH T.I)) (kU (bT kW (bJ (iJ iK (pv 1) (pV pW bQ) (λ_ _=>rfl)) Z) (dH T.I))))))
    (aG (eY (fV fJ gO gP gR (pv 1) (aC (pv 2) aD)))) bD)))
  (aG (aI (pv 1)))),?_⟩
 try dsimp only [aT,aR,Cx.nox]
 refine⟨bH _,λnl p=> ?_⟩;have s0:Same H (aE H nl (.lst [])):=Same.new p;refine⟨_,Z,D,Z,⟨_,SqL.of (s0 _ _ hp)⟩,mM (K:=K) (a:=D) (xs:=ps.map V.ref) (Au K mg T H D L B nl)
  ⟨none,[],[],Z,s0,aH,.nil,aK _,Z⟩ (by rintro i σ H' _ ⟨_,_,_,_,r,_⟩;exact SqL.of (r _ _ hp)) ?_ ?_⟩
 ·rintro i y σ u hi ⟨v2,f,acc,rfl,r,hq,m,h2,l⟩;obtain⟨J,X,rfl⟩:=pH hi;obtain⟨x,hx,hc⟩:=hA.sm X;rw[aAY hx]at l;have h4:i<L.length:=(al_19.mp hx).1;refine⟨_,Z,bH _,λN W=> ?_⟩;have s2:Same u (aE u N (.lst [])):=Same.new W;have k:=r.trans s2;have b:=s2 _ _ hq;refine⟨nl,N,_,Z,Z,SqL.of b,SqL.of aH,_,Z,?_⟩;generalize aE u N (HO.lst [])=H2 at s2 k b;obtain⟨v,d,dx,e1⟩:=(hc.same k).asK;have e:(f.map V.ref).length<sizeLine:=wL (by rw[aO,m.len];lia);have n:(acc=[]\/mY x=false\/mZ acc=false)->Au K mg T H D L B nl (i+1) [some (V.ref D),some (V.ref nl),some (V.ref J)] (aE H2 nl (.lst (f.map V.ref++[V.ref J]))):=λU=>by
   rw[aB U]at l;exact⟨_,f++[J],acc++[x],Z,Same.put k p,by rw[aH,dN];rfl,m.snoc hc,by rw[bF,dB];lia,l⟩
  by_cases G:acc=[]
  ·have M:(f.map V.ref).isEmpty=true:=by
    have:f=[]:=lM (by rw[m.len,G];rfl);rw[this];rfl
   exact bK M (aN ⟨_,Z,.inl ⟨Z,_,SqL.of b⟩,_,Z,nl,_,_,Z,Z,b,e,n (.inl G)⟩)
  have C:f≠[]:=λz=>G (lM (by rw[<- m.len,z];rfl));have M:(f.map V.ref).isEmpty=false:=by cases f with|nil=>exact absurd rfl C|cons=>rfl
  refine bG M ⟨_,Z,J,_,dx,_,_,Z,e1,T.c.cl,T.j,gX _ _ _,Z,_,Z,?_⟩;rw[zM];cases c2:mY x with
  |false=>exact aN (aN ⟨_,Z,.inl ⟨Z,_,SqL.of b⟩,_,Z,nl,_,_,Z,Z,b,e,n (.inr (.inl c2))⟩)
  |true=>
   obtain⟨pz,Y,O⟩:=aAW C;obtain⟨z,hz,h0⟩:=m.sm Y;obtain⟨vz,d2,dz,z1⟩:=(h0.same k).asK;have o:mZ acc=mY z:=by unfold mZ;rw[FV,<- m.len,hz]
   refine aQ ⟨_,Z,1,Z,nl,_,_,_,Z,Z,SqL.of b,O,pz,_,dz,_,_,Z,z1,T.c.cl,T.j,gX _ _ _,Z,_,Z,?_⟩;rw[zM,<- o];cases c3:mZ acc with
   |false=>exact aN ⟨_,Z,.inl ⟨Z,_,SqL.of b⟩,_,Z,nl,_,_,Z,Z,b,e,n (.inr (.inr c3))⟩
   |true=>
    rw[aA (by rintro(h|h|h);exact G h;(rw[c2]at h;cases h);(rw[c3]at h;cases h))]at l;exact aQ ⟨_,f,acc,Z,k,b,m,by lia,l⟩
 rintro σ u ⟨v2,f,acc,rfl,r,hq,m,_,l⟩;rw[aO,hA.len,List.drop_length]at l;have l:acc=gT [] L:=l;rw[<- l]at q;exact⟨_,Z,q u nl r p ⟨f,hq,m.mono λ_ _ h=>h.same r⟩⟩
def gA(r f o t:V):List (Str×V):=[(("runs":Str),r),(("fillable":Str),f),(("atoms_of":Str),o),(("through":Str),t)]
def MF:¬("runs":Str)="fillable":=by decide +kernel
def Av:¬("runs":Str)="atoms_of":=by decide +kernel
def MG:¬("runs":Str)="through":=by decide +kernel
def Aw:¬("fillable":Str)="atoms_of":=by decide +kernel
def MH:¬("fillable":Str)="through":=by decide +kernel
def MI:¬("atoms_of":Str)="through":=by decide +kernel
def MJ:aL g v ((g,x)::r)=(g,v)::r:=aB rfl
def pJ(h:¬g=f):aL f v ((g,x)::r)=(g,x)::aL f v r:=aA h
def EY{g:Str}{x:V}{r:List (Str×V)}:List.lookup g ((g,x)::r)=some x:=by rw[nL,qY]
def pK{f g:Str}{x:V}{r:List (Str×V)}(h:¬f=g):List.lookup f ((g,x)::r)=List.lookup f r:=by rw[nL,al_35.mpr h]
def MK(r f o t:V):(gA r f o t).lookup ("runs":Str)=some r:=EY
def ML(r f o t:V):(gA r f o t).lookup ("fillable":Str)=some f:=(pK λz=>MF z.symm).trans EY
def Ax(r f o t:V):(gA r f o t).lookup ("atoms_of":Str)=some o:=(pK λz=>Av z.symm).trans ((pK λz=>Aw z.symm).trans EY)
def Ay(r f o t:V):(gA r f o t).lookup ("through":Str)=some t:=(pK λz=>MG z.symm).trans ((pK λz=>MH z.symm).trans ((pK λz=>MI z.symm).trans EY))
def wP(r f o t:V){m:Str}(a:¬m="runs")(b:¬m="fillable")(c:¬m="atoms_of")(d:¬m="through"):(gA r f o t).lookup m=none:=(pK a).trans ((pK b).trans ((pK c).trans (pK d)))
def aBa(r f o t v:V):aL "runs" v (gA r f o t)=gA v f o t:=MJ
def aBb(r f o t v:V):aL "fillable" v (gA r f o t)=gA r v o t:=by unfold gA;rw[pJ MF,MJ]
def aBc(r f o t v:V):aL "through" v (gA r f o t)=gA r f o v:=by unfold gA;rw[pJ MG,pJ MH,pJ MI,MJ]
def aBd(r f o t:V):aL "through" t (aL "atoms_of" o (aL "fillable" f (aL "runs" r [])))=gA r f o t:=by rw[show aL ("runs":Str) r []=[(("runs":Str),r)]from rfl,pJ MF,show aL ("fillable":Str) f []=[(("fillable":Str),f)]from rfl,pJ Av,pJ Aw,show aL ("atoms_of":Str) o []=[(("atoms_of":Str),o)]from rfl,pJ MG,pJ MH,pJ MI];rfl
structure FitN(n:Nat)(M:List Gh.May)(r f:Nat)(ofs:List Nat):Prop where
 runs:Is r (bE M)
 fill:Is f (dY M true)
 len:ofs.length=n
 ofs:∀(k m:Nat),ofs[k]? =some m->Is m (uF M k)
inductive FitAt(CF:Addr)(n:Nat)(H:Hp)(p:Addr)(M:List Gh.May):Prop
 |mk (dx:Addr) (oa:Addr) (r:Nat) (f:Nat) (ofs:List Nat) (_:H p=some (.ins CF dx (gA (.int ((r:Nat):Int)) (.int ((f:Nat):Int)) (.ref oa) (.int ((2^M.length:Nat):Int))))) (_:H oa=some (.lst ((nz ofs).map V.int))) (_:FitN n M r f ofs)
def FitAt.ex(h:FitAt a n H p M):FitAt a n H p M:=h
def FitAt.same(h:FitAt b n H p M)(s:Same H H'):FitAt b n H' p M:=by obtain⟨c,j,r,f,a,d,e,i⟩:=h.ex;exact⟨c,j,r,f,a,s _ _ d,s _ _ e,i⟩
def MM(M:List Gh.May)(x:Gh.May)(k:Nat):(M++[x])[k]? =if k=M.length then some x else M[k]?:=by
 by_cases h:k=M.length;·rw[aB h,h,iT (aK _),nN];rfl
 rw[aA h];by_cases a:k<M.length;·exact jZ a
 rw[jB (by rw[bF,dB];lia),jB (by lia)]
def MN(h:Is n f):Is (n||| 2^k) λj=>f j||decide (k=j):=h.or (Is.pow k)
def Az(M:List Gh.May)(x:Gh.May)(j:Nat):bE (M++[x]) j=(bE M j||(decide (M.length=j)&&x.isNone)):=by
 unfold bE;rw[MM];by_cases h:j=M.length;·rw[aB h,h,bP rfl,jB (aK _)];cases x<;>rfl
 rw[aA h,bN (dJ h),qV,jD]
def Ba(M:List Gh.May)(x:Gh.May)(j:Nat):dY (M++[x]) true j=(dY M true j||(decide (M.length=j)&&(match x with|none=>true|some q=> !q.isEmpty))):=by
 unfold dY;rw[MM];by_cases h:j=M.length;·rw[aB h,h,bP rfl,jB (aK _)];cases x<;>rfl
 rw[aA h,bN (dJ h),qV,jD]
def Bb(n:Nat):Gh.May->Bool
 |none=>true
 |some q=>q.contains n
def Bc(M:List Gh.May)(x:Gh.May)(n j:Nat):uF (M++[x]) n j=(uF M n j||(decide (M.length=j)&&Bb n x)):=by
 unfold uF;rw[MM];by_cases h:j=M.length;·rw[aB h,h,bP rfl,jB (aK _)];cases x<;>rfl
 rw[aA h,bN (dJ h),qV,jD]
def qS(n:Nat):Gh.May->List Nat
 |none=>List.range n
 |some q=>q
def nF(c:List Nat)(b:Nat)(a:List Nat):List Nat:=a.foldl (λo k=>o.set k (o.getD k 0||| b)) c
def aBe(c:List Nat)(b:Nat)(a:List Nat)(k:Nat):nF c b (a++[k])=(nF c b a).set k ((nF c b a).getD k 0||| b):=by unfold nF;rw[uS];rfl
def EZ(b:Nat):∀(a c:List Nat),(nF c b a).length=c.length
 | [],_=>rfl
 |k::a,c=>by
  show(nF (c.set k (c.getD k 0||| b)) b a).length=_;rw[EZ b a,List.length_set]
def aBf(m b:Nat):m||| b||| b=m||| b:=by rw[Nat.or_assoc,Nat.or_self]
def MO(b:Nat):∀(c d:List Nat) (k m:Nat),d[k]? =some m->(nF d b c)[k]? =some (if c.contains k=true then m||| b else m)
 | [],d,k,m,h=>by rw[aA (by simp)];exact h
 |a::c,d,k,m,h=>by
  show(nF (d.set a (d.getD a 0||| b)) b c)[k]? =_;have f:k<d.length:=(al_19.mp h).1;by_cases e:a=k
  ·subst e;rw[MO b c _ a (m||| b) (by rw[zY f,jC,h];rfl),aBf,qZ,qY,wU,aB rfl];split<;>rfl
  rw[MO b c _ k m (by rw[zZ e];exact h),qZ,al_35.mpr (dJ e),oK]
def FitN.snoc{n r f:Nat}{M:List Gh.May}{ofs:List Nat}(h:FitN n M r f ofs)(x:Gh.May)(l:0<n):
  FitN n (M++[x]) (if x.isNone=true then r||| 2^M.length else r) (if qS n x=[]then f else f||| 2^M.length) (nF ofs (2^M.length) (qS n x)):=by
 refine⟨?_,?_,?_,?_⟩;·cases x with|none=>exact(MN h.runs).congr λj=>by rw[Az];simp|some q=>exact h.runs.congr λj=>by rw[Az];simp
 ·by_cases e:qS n x=[]
  ·rw[aB e];refine h.fill.congr λj=> ?_;rw[Ba];cases x with
   |none=>exact absurd e (by intro z;have:=bS List.length z;simp [qS]at this;lia)
   |some q=>have:q=[]:=e;subst this;simp
  rw[aA e];refine(MN h.fill).congr λj=> ?_;rw[Ba];cases x with
  |none=>simp
  |some q=>
   have:q.isEmpty=false:=by cases q with|nil=>exact absurd rfl e|cons=>rfl
   simp [this]
 ·rw[EZ,h.len]
 intro k m a;have d:k<ofs.length:=by have:=(al_19.mp a).1;rwa [EZ]at this
 have i:=cM d;rw[MO _ _ _ _ _ i]at a;have a:=cV a;rw[<- a];have c:=h.ofs k _ i;have b:(qS n x).contains k=Bb k x:=by cases x with|none=>exact al_76.mpr (al_50.mpr (by rw[<- h.len];exact d))|some q=>rfl
 cases e:(qS n x).contains k with
 |true=>
  rw[aB rfl];refine(MN c).congr λj=> ?_;rw[Bc,<- b,e,nM]
 |false=>
  rw[aA bX];refine c.congr λj=> ?_;rw[Bc,<- b,e,nJ,jD]
def aBg(h:n<64):(2:Nat)^n<2^64:=Nat.pow_lt_pow_right (by decide) h
def zN(h:n<2^64):NY ((n:Nat):Int) 1:=⟨by decide,by decide,by rw[Int.natAbs_natCast];exact h⟩
def zO(n:Nat):((n:Nat):Int)*2^(1:Int).toNat=((n*2:Nat):Int):=by show((n:Nat):Int)*2^1=_;rw[Int.pow_one]<;>simp
inductive aBh(CF:Addr)(vs:List V)(H:Hp)(Q:VK)(E:XK):Prop
 |mk (p:Addr) (n:Nat) (M:List Gh.May) (s:Nat) (S:Nat->Bool) (_:vs=[.ref p,.int ((s:Nat):Int)]) (_:FitAt CF n H p M) (_:M.length<=64) (_:Is s S) (_:∀s':Nat,Is s' (vW M S)->Q (.int ((s':Nat):Int)) H)
def aBi{M:List Gh.May}{S:Nat->Bool}(h:Is a λj=>S j&&bE M j)(h64:M.length<=64):a<2^64:=h.lt λj b=>by rw[VW (by lia),nJ]
def Bd:gG P w mg base 1 T.ay ["self","states"] (aBh (eO T)):=by
 refine⟨aV T.ay.F ["self","states"] λd A a s H vs Q E u o h=> ?_,T.h.cl⟩;obtain⟨p,n,M,s,S,rfl,k,h64,b,q⟩:=h;obtain⟨e,v,r,f,l,i,m,j⟩:=k.ex;refine⟨_,aG (aI (dO BA (pv 1) (dO xS (dO tE (pv 1) (bJ (pv 0) Z)) bQ))),?_⟩
 try dsimp only [aT,aR,Cx.nox]
 have c:=b.and j.runs;refine⟨_,Z,_,Z,_,Z,p,_,e,_,_,Z,i,T.h.cl,T.Q,MK _ _ _ _,_,_,Z,Z,_,_,Z,Z,?_,_,_,Z,Z,?_⟩;·rw[qQ];exact zN (aBi c h64)
 rw[qQ,zO,qR];exact q _ (b.or c.up)
inductive aBj(CF:Addr)(vs:List V)(H:Hp)(Q:VK)(E:XK):Prop
 |mk (p:Addr) (n:Nat) (M:List Gh.May) (_:vs=[.ref p]) (_:FitAt CF n H p M) (_:M.length<=64) (_:uE M) (_:∀s':Nat,Is s' (mX M)->Q (.int ((s':Nat):Int)) H)
def Be:¬("past_runs":Str)="runs":=by decide +kernel
def Bf:¬("past_runs":Str)="fillable":=by decide +kernel
def Bg:¬("past_runs":Str)="atoms_of":=by decide +kernel
def Bh:¬("past_runs":Str)="through":=by decide +kernel
def aBk:gG P w mg base 2 T.au ["self"] (aBj (eO T)):=by
 refine⟨aV T.au.F ["self"] λc A a s H vs Q E x k h=> ?_,T.h.cl⟩;obtain⟨p,n,M,rfl,b,h64,i,q⟩:=h;obtain⟨d,y,r,f,m,e,u,v⟩:=b.ex;refine⟨_,aG (aI (bZ (pv 0) (Bd T) k (aC bQ aD))),?_⟩
 try dsimp only [aT,aR,Cx.nox]
 refine⟨_,Z,p,d,_,Z,e,wP _ _ _ _ Be Bf Bg Bh,p,n,M,1,_,Z,b,h64,Is.one,λo l=>q o (l.congr λj=>(JZ i _ j).symm)⟩
inductive aBl(CF:Addr)(vs:List V)(H:Hp)(Q:VK)(E:XK):Prop
 |mk (p:Addr) (n:Nat) (M:List Gh.May) (s g:Nat) (S F:Nat->Bool) (_:vs=[.ref p,.int ((s:Nat):Int),.int ((g:Nat):Int)]) (_:FitAt CF n H p M) (_:M.length<=64) (_:Is s S) (_:Is g F) (_:(∀k,M.length<=k->F k=false)) (_:∀s':Nat,Is s' (vX M F S)->Q (.int ((s':Nat):Int)) H)
def aBm:gG P w mg base 2 T.ax ["self","states","fitting"] (aBl (eO T)):=by
 refine⟨aV T.ax.F ["self","states","fitting","taken"] λl A d s H vs Q E C v h=> ?_,T.h.cl⟩;obtain⟨p,n,M,s,g,S,F,rfl,k,h64,u,o,a,q⟩:=h;obtain⟨e,D,r,f,y,i,z,m⟩:=k.ex;refine⟨_,aF (bA 3 (dO tE (pv 1) (pv 2)))
  (aG (aI (bZ (pv 0) (Bd T) v (aC (dO BA (dO xS (pv 3) bQ) (dO tE (pv 3) (bJ (pv 0) Z))) aD)))),?_⟩
 try dsimp only [aT,aR,Cx.nox]
 have c:=u.and o;have b:s&&& g<2^64:=c.lt λj B=>by rw[a j (by lia),nJ]
 have x:=c.up.or (c.and m.runs);refine⟨_,Z,_,Z,_,_,Z,Z,?_⟩;rw[qQ];refine⟨_,Z,p,e,_,Z,i,wP _ _ _ _ Be Bf Bg Bh,_,Z,_,_,Z,Z,zN b,_,Z,_,Z,p,_,e,_,_,Z,i,T.h.cl,T.Q,MK _ _ _ _,_,_,Z,Z,_,_,Z,Z,?_⟩;dsimp only;rw[qQ,zO,qR];exact⟨p,n,M,_,_,Z,k,h64,x,q⟩
inductive aBn(CF:Addr)(vs:List V)(H:Hp)(Q:VK)(E:XK):Prop
 |mk (p:Addr) (n:Nat) (M:List Gh.May) (s:Nat) (S:Nat->Bool) (_:vs=[.ref p,.int ((s:Nat):Int)]) (_:FitAt CF n H p M) (_:Is s S) (_:Q (.bl (S M.length)) H)
def aBo{S:Nat->Bool}(h:Is s S):(!decide (V.int ((s&&& 2^k:Nat):Int)=V.int 0))=S k:=by
 have c:=h.and (Is.pow k);have e:(s&&& 2^k=0)↔S k=false:=by
  rw[c.zero_iff];constructor;·intro z;have:=z k;rw[bP rfl,nM]at this;exact this
  intro z j;by_cases b:k=j;·rw[<- b,z];rfl
  rw[bN b,nJ]
 cases a:S k with
 |false=>rw[bP (by rw[e.mpr a];rfl)];rfl
 |true=>
  rw[bN (λz=>by
   injection z with z;have:s&&& 2^k=0:=by lia
   rw[e.mp this]at a;cases a)];rfl
def aBp:gG P w mg base 1 T.av ["self","states"] (aBn (eO T)):=by
 refine⟨aV T.av.F ["self","states"] λb A a s H vs Q E o m h=> ?_,T.h.cl⟩;obtain⟨p,n,M,s,S,rfl,e,i,q⟩:=h;obtain⟨c,u,r,f,j,d,k,l⟩:=e.ex;refine⟨_,aG (aI (kD kW (dO tE (pv 1) (bJ (pv 0) Z)) bQ)),?_⟩
 try dsimp only [aT,aR,Cx.nox]
 refine⟨_,Z,_,Z,p,_,c,_,_,Z,d,T.h.cl,T.R,Ay _ _ _ _,_,_,Z,Z,Z,?_⟩;show Q (V.bl (!decide (V.int (Builtin.bitAnd ((s:Nat):Int) ((2^M.length:Nat):Int))=V.int 0))) H;rw[qQ,aBo i];exact q
end
section
variable{P:Program}{w:World}{K:PySem.W.Frag}{mg:Str->Option Value}{base:Heap}
def Kf(p a:Addr)(H H':Hp):Prop:=∀b o,H b=some o->b≠p->b≠a->H' b=some o
def Kf.refl(p a:Addr)(H:Hp):Kf p a H H:=λ_ _ h _ _=>h
def Kf.trans(a:Kf p c H d)(b:Kf p c d e):Kf p c H e:=λx o h n m=>b x o (a x o h n m) n m
def Kf.of(s:Same H H'):Kf p a H H':=λx o h _ _=>s x o h
def Kf.putP(a:Kf p d H c):Kf p d H (aE c p o):=λb u e n m=>by rw[bB n];exact a b u e n m
def Kf.putO(a:Kf p c H d):Kf p c H (aE d c o):=λb u e n m=>by rw[bB m];exact a b u e n m
def Kf.keep(a:Keep p H c)(h:H f=none)(b:Kf p f c d):Keep p H d:=λx o e n=>b x o (a x o e n) n (cH e h)
inductive FitA(CF:Addr)(n:Nat)(H:Hp)(p oa:Addr)(M:List Gh.May):Prop
 |mk (dx:Addr) (r:Nat) (f:Nat) (ofs:List Nat) (_:H p=some (.ins CF dx (gA (.int ((r:Nat):Int)) (.int ((f:Nat):Int)) (.ref oa) (.int ((2^M.length:Nat):Int))))) (_:H oa=some (.lst ((nz ofs).map V.int))) (_:FitN n M r f ofs)
def FitA.ex(h:FitA a n H p b M):FitA a n H p b M:=h
def FitA.at_(h:FitA b n H p c M):FitAt b n H p M:=by obtain⟨d,r,f,a,e,i,j⟩:=h.ex;exact⟨d,c,r,f,a,e,i,j⟩
def MP(r f o t:V):(gA r f o t).length<1000:=by show 4<1000;decide
def FA(f:Gh.Sign->Bool):∀(l:Gh.Signs) (i:Nat),∀k∈bL f i l,k<i+l.length
 | [],_,k,h=>by cases h
 |x::l,i,k,h=>by
  unfold bL at h;rw[cG];split at h
  ·rcases al_18.mp h with rfl|h;·lia
   have:=FA f l (i+1) k h;lia
  have:=FA f l (i+1) k h;lia
def aBq{q:List Nat}{i:Nat}{y:V}(h:((nz q).map V.int)[i]? =some y):∃k,q[i]? =some k/\y=V.int ((k:Nat):Int):=by unfold nz at h;rw[pO,fL]at h;cases e:q[i]? with|none=>rw[e]at h;cases h|some k=>rw[e]at h;exact⟨k,Z,(cV h).symm⟩
def aBr(h:q[k]? =some m):hX ((nz q).map V.int) ((k:Nat):Int)=some (V.int ((m:Nat):Int)):=GZ (by unfold nz;rw[pO,fL,h];rfl)
def aBs(q:List Nat)(k m:Nat):((nz q).map V.int).set k (V.int ((m:Nat):Int))=(nz (q.set k m)).map V.int:=by unfold nz;rw[pO,pO,List.map_set];rfl
def aBt(h:k<n):lR n ((k:Nat):Int)=some k:=by unfold lR;rw[aB (by lia),aB (by lia)];rfl
structure wQ(l:Gh.Signs):Prop where
 sm:∀x∈l,Sm x.shape.rows
 wf:∀x∈l,WF x.shape
 len:l.length<=512
 pos:0<l.length
end
section
variable{P:Program}{w:World}{K:PySem.W.Frag}{mg:Str->Option Value}{base:Heap}(T:Txt K mg)
inductive aBu(CF CA CS:Addr)(vs:List V)(H:Hp)(Q:VK)(E:XK):Prop
 |mk (p oa a ls:Addr) (B:Addr->Prop) (l:Gh.Signs) (M:List Gh.May) (x:Gh.Atom) (_:vs=[.ref p,.ref a,.ref ls]) (_:FitA CF l.length H p oa M) (_:M.length<64) (_:AtomAt CA (λ_=>True) H a x) (_:ListAt (SignAt CS B) H ls l) (_:wQ l) (_:∀H':Hp,Kf p oa H H'->FitA CF l.length H' p oa (M++[x.signs l])->Q .non H')
def aBv(h:wQ l)(x:Gh.Atom):∀k∈qS l.length (x.signs l),k<l.length:=by
 intro k a;cases x with
 |run=>exact al_50.mp a
 |one d o=>
  rw[TX h.wf]at a;have:=FA _ _ _ k a;lia
def aBw(l:Gh.Signs)(x:Gh.Atom):(x.signs l).isNone=mY x:=by cases x<;>rfl
inductive aBx(CF dx p oa a ls z:Addr)(r3 f5 b:Nat)(nums ofs:List Nat)(H:Hp)(i:Nat)(σ:L2.St)(H':Hp):Prop
 |mk (v5:Option V) (_:σ= [some (.ref p),some (.ref a),some (.ref ls),some (.int ((b:Nat):Int)),some (.ref z),v5]) (_:Kf p oa H H') (_:H' p=some (.ins CF dx (gA (.int ((r3:Nat):Int)) (.int ((f5:Nat):Int)) (.ref oa) (.int ((b:Nat):Int))))) (_:H' z=some (.lst ((nz nums).map V.int))) (_:H' oa=some (.lst ((nz (nF ofs b (nums.take i))).map V.int)))
def aBy:gG P w mg base 6 T.ar ["self","atom","signs"] (aBu (eO T) (gF T) (eQ T)):=by
 refine⟨aV T.ar.F ["self","atom","signs","bit","numbers","number"] λe5 A e4 s H vs Q E nd hr h=> ?_,T.h.cl⟩;obtain⟨p,C,a,ls,B,l,M,x,rfl,hF,h64,ha,h4,W,q⟩:=h;obtain⟨v,r,f,D,L,h2,h3⟩:=hF.ex;refine⟨_,aF (bA 3 (bJ (pv 0) Z))
  (aF (bA 4 (mK (bT dS (bJ (pv 1) Z) (dH T.I))
   (BH (aAV Z) (by rfl) T.ct boot_list (aC (BH aAT (by rfl) T.u boot_range (aC (fU gD (by rfl) T.i gC (aC (pv 2) aD)) aD)) aD))
   (aX (aAq T) hr (aC (pv 1) (aC (pv 2) aD)))))
  (aF (aY (bT dS (bJ (pv 1) Z) (dH T.I)) (aG (BD (pv 0) (pv 3) ME)) bD)
  (aF (aY (bT (wH (wM hr)) (pv 4) (cE aD)) (aG (BD (pv 0) (pv 3) ME)) bD)
  (aF (gQ dR Z (jK (pv 4)) (dP 5) (aG (Em (bJ (pv 0) Z) (pv 5) aAS (pv 3) As Gw)))
  (aG (dA (pv 0) (dO xS (pv 3) bQ) Z)))))),?_⟩
 try dsimp only [aT,aR,Cx.nox]
 refine Aa λR rx=> ?_;refine⟨_,Z,p,_,v,_,_,Z,L,T.h.cl,T.R,Ay _ _ _ _,?_⟩;obtain⟨va,da,dy,a1⟩:=ha.asK;have h5:=aBv W x;have hN:=h3.snoc (x.signs l) W.pos;rw[aBw]at hN;generalize J:qS l.length (x.signs l)=nums at h5 hN;generalize U:(if mY x=true then r||| 2^M.length else r)=X at hN;have tail:∀(z:Addr) (n:Hp),H z=none->Kf p C H n->n p=some (.ins (eO T) v (gA (.int ((X:Nat):Int)) (.int ((f:Nat):Int)) (.ref C) (.int ((2^M.length:Nat):Int))))->n z=some (.lst ((nz nums).map V.int))->n C=some (.lst ((nz D).map V.int))->R [some (.ref p),some (.ref a),some (.ref ls),some (.int ((2^M.length:Nat):Int)),some (.ref z),none] n:=λz n b k3 p3 z3 o3=>by
  refine rx _ _ (Zw λR4 r4=> ?_);have e3:z≠p:=dJ (cH L b);have e2:z≠C:=dJ (cH h2 b);have N:C≠p:=bM h2 L (by intro z;cases z);have tail:∀(f5:Nat) (O:Hp),(if nums=[]then f else f||| 2^M.length)=f5->Kf p C H O->O p=some (.ins (eO T) v (gA (.int ((X:Nat):Int)) (.int ((f5:Nat):Int)) (.ref C) (.int ((2^M.length:Nat):Int))))->O z=some (.lst ((nz nums).map V.int))->O C=some (.lst ((nz D).map V.int))->R4 [some (.ref p),some (.ref a),some (.ref ls),some (.int ((2^M.length:Nat):Int)),some (.ref z),none] O:=λf5 O ef k5 p5 z5 o5=>by
   rw[ef]at hN;refine r4 _ _ ?_;refine⟨_,Z,z,Z,⟨_,SqL.of z5⟩,mM (K:=K) (a:=z) (xs:=(nz nums).map V.int) (aBx (eO T) v p C a ls z X f5 (2^M.length) nums D H)
    ⟨none,Z,k5,p5,z5,o5⟩ (by rintro i σ H' _ ⟨_,_,_,_,h9,_⟩;exact SqL.of h9) ?_ ?_⟩
   ·rintro i y σ H6 hi ⟨v5,rfl,k6,p6,z6,o6⟩;obtain⟨k,hk,rfl⟩:=aBq hi;have h0:k<l.length:=h5 k (fM hk);have h6:(nF D (2^M.length) (nums.take i)).length=l.length:=by rw[EZ,h3.len]
    obtain⟨m,hm⟩:∃m,(nF D (2^M.length) (nums.take i))[k]? =some m:=⟨_,cM (by rw[h6];exact h0)⟩;refine⟨_,Z,p,_,v,_,_,Z,p6,T.h.cl,T.ab,Ax _ _ _ _,_,Z,C,_,_,_,Z,Z,SqL.of o6,aBr hm,_,Z,_,_,Z,Z,C,_,_,k,Z,Z,o6,aBt (by rw[aO,kO,h6];exact h0),?_⟩;refine⟨_,Z,k6.putO,by rw[bB (dJ N)];exact p6,by rw[bB e2];exact z6,?_⟩;rw[aH,qR,aBs,lG hk,aBe,jC,hm];rfl
   rintro σ H6 ⟨v5,rfl,k6,p6,z6,o6⟩;rw[aO,kO,gN]at o6;refine⟨_,Z,_,_,Z,Z,zN (aBg h64),_,Z,p,_,v,_,Z,p6,T.h.cl,T.R,MP _ _ _ _,?_⟩;rw[aBc];rw[zO,show 2^M.length*2=2^(M.length+1)from rfl];refine q _ k6.putP ⟨v,X,f5,_,?_,?_,hN⟩;·rw[aH,bF,dB]
   rw[bB N];exact o6
  refine⟨_,Z,bH _,λel h7=> ?_⟩;have Y:Same n (aE n el (.lst [])):=Same.new h7;refine⟨z,el,_,Z,Z,SqL.of (Y _ _ z3),SqL.of aH,_,Z,?_⟩;have k4:=k3.trans (Kf.of Y);have p4:=Y _ _ p3;have z4:=Y _ _ z3;have o4:=Y _ _ o3;generalize aE n el (HO.lst [])=H4 at Y k4 p4 z4 o4;by_cases e0:nums=[]
  ·have e1:((nz nums).map V.int).isEmpty=true:=by rw[e0];rfl
   exact bG (bS not e1) (tail f H4 (aB e0) k4 p4 z4 o4)
  have e1:((nz nums).map V.int).isEmpty=false:=by cases nums with|nil=>exact absurd rfl e0|cons=>rfl
  refine bK (bS not e1) ⟨_,Z,p,_,v,_,_,Z,p4,T.h.cl,T.P,ML _ _ _ _,_,Z,_,_,Z,Z,v,_,p4,MP _ _ _ _,?_⟩;rw[aBb,qR];exact tail _ _ (aA e0) k4.putP aH ((bB e3).trans z4) ((bB N).trans o4)
 refine⟨_,Z,a,_,dy,_,_,Z,a1,T.c.cl,T.j,gX _ _ _,Z,_,Z,?_⟩;rw[zM];cases x with
 |run=>
  have J:List.range l.length=nums:=J;have U:r||| 2^M.length=X:=U;obtain⟨ps,hp,hA⟩:=id h4;refine aN ⟨_,Z,ls,_,Z,.inl (SqL.of hp),_,Z,λrp h8=>⟨rp,l.length,Z,(by rw[aH,aO,hA.len]),(by have:=W.len;lia),λz hz=> ?_⟩⟩;have s1:Same H (aE H rp (.rng 0 ((ps.map V.ref).length:Int))):=Same.new h8;have G:=s1.trans (Same.new (o:= .lst ((nz (List.range l.length)).map V.int)) hz);have e:(aE (aE H rp (.rng 0 ((ps.map V.ref).length:Int))) z (.lst ((nz (List.range l.length)).map V.int))) z=_:=aH;have b:H z=none:=s1.free hz;generalize aE (aE H rp (.rng 0 ((ps.map V.ref).length:Int))) z (.lst ((nz (List.range l.length)).map V.int))=H2 at G e;rw[J]at e;refine⟨_,Z,a,_,dy,_,_,Z,G _ _ a1,T.c.cl,T.j,gX _ _ _,Z,_,Z,?_⟩;rw[zM];refine aN ⟨_,Z,p,_,v,_,_,Z,G _ _ L,T.h.cl,T.Q,MK _ _ _ _,_,Z,_,_,Z,Z,v,_,G _ _ L,MP _ _ _ _,?_⟩;rw[aBa,qR,U];exact tail z _ b (Kf.of G).putP aH ((bB (dJ (cH L b))).trans e) ((bB (bM h2 L (by intro z;cases z))).trans (G _ _ h2))
 |one d o=>
  have J:qS l.length ((Gh.Atom.one d o).signs l)=nums:=J;have U:r=X:=U;rw[TX W.wf]at J;have J:bL (λx=>gL l o x !=d) 0 l=nums:=J;refine aQ ⟨_,Z,_,Z,a,ls,_,_,l,d,o,Z,ha,h4,W.sm,W.len,λn z G b e=> ?_⟩;rw[J]at e;refine⟨_,Z,a,_,dy,_,_,Z,G _ _ a1,T.c.cl,T.j,gX _ _ _,Z,_,Z,?_⟩;rw[zM];have p3:=G _ _ L;rw[U]at p3;exact aQ (tail z n b (Kf.of G) p3 e (G _ _ h2))
def aBz:gA r f o t≠af k v d:=λz=>by have e:=gX k v d;rw[<- z,wP _ _ _ _ (by decide +kernel) (by decide +kernel) (by decide +kernel) (by decide +kernel)]at e;cases e
def AtomAt.neN(b:H c=none):∀{y:Gh.Atom},AtomAt a B H p y->AtomAt a (λt=>t≠c) H p y
 | .run,h=>h
 | .one _ .any,h=>h
 | .one _ (.alike _),h=>h
 | .one _ (.class_ _ _),h=>h
 | .one _ (.name _),⟨t,h1,_,h2⟩=>⟨t,h1,let⟨_,e,_⟩:=h2;cH e b,h2⟩
 | .one _ (.among _),⟨t,h1,_,h2⟩=>⟨t,h1,let⟨_,e,_⟩:=h2;cH e b,h2⟩
def aBA(w:FitA u n H x j M)(h:AtomAt i (λt=>t≠j) H p y)(k:Kf x j H H'):AtomAt i (λ_=>True) H' p y:=by
 obtain⟨E,r,f,B,l,o,D⟩:=w.ex;have ins:∀(b m:Addr) (s:Str) (v:V) (d:Bool),H b=some (.ins i m (af s v d))->H' b=some (.ins i m (af s v d)):=λb m s v d h=>k _ _ h (bM h l (by intro z;injection z with _ _ C;exact aBz C.symm)) (bM h o (by intro z;cases z));have tup:∀(b:Addr) (xs:List V),H b=some (.tup xs)->H' b=some (.tup xs):=λb xs h=>k _ _ h (bM h l (by intro z;cases z)) (bM h o (by intro z;cases z));have q:∀(t:Addr) (ns:List Gh.Name),t≠j->ListAt NameAt H t ns->ListAt NameAt H' t ns:=λt ns A h=>by obtain⟨ps,a,c⟩:=h;exact⟨ps,k _ _ a (bM a l (by intro z;cases z)) A,c.mono λb n e=>tup _ _ e⟩
 match y,h with| .run,⟨y,h⟩=>exact⟨y,ins _ _ _ _ _ h⟩| .one _ .any,⟨y,h⟩=>exact⟨y,ins _ _ _ _ _ h⟩| .one _ (.alike _),⟨t,⟨y,a⟩,c⟩=>exact⟨t,⟨y,ins _ _ _ _ _ a⟩,tup _ _ c⟩| .one _ (.class_ _ _),⟨t,⟨y,a⟩,c⟩=>exact⟨t,⟨y,ins _ _ _ _ _ a⟩,tup _ _ c⟩| .one _ (.name _),⟨t,⟨y,a⟩,b,c⟩=>exact⟨t,⟨y,ins _ _ _ _ _ a⟩,trivial,q _ _ b c⟩| .one _ (.among _),⟨t,⟨y,a⟩,b,c⟩=>exact⟨t,⟨y,ins _ _ _ _ _ a⟩,trivial,q _ _ b c⟩
inductive aBB(CF CA CS:Addr)(vs:List V)(H:Hp)(Q:VK)(E:XK):Prop
 |mk (x dx la ls:Addr) (B:Addr->Prop) (l:Gh.Signs) (L:List Gh.Atom) (_:vs=[.ref x,.ref la,.ref ls]) (_:H x=some (.ins CF dx [])) (_:ListAt (AtomAt CA λ_=>True) H la L) (_:L.length<=64) (_:ListAt (SignAt CS B) H ls l) (_:wQ l) (_:∀H':Hp,Keep x H H'->FitAt CF l.length H' x ((gT [] L).map (Gh.Atom.signs l))->Q .non H')
def aBC(n:Nat):(List.replicate n [V.int 0]).flatten=(nz (List.replicate n 0)).map V.int:=by induction n with|zero=>rfl|succ n ih=>rw[sQ,uQ,ih,sQ];rfl
def aBD(n:Nat):FitN n [] 0 0 (List.replicate n 0):=by refine⟨Is.zero.congr λj=>rfl,Is.zero.congr λj=>rfl,List.length_replicate,λk m h=> ?_⟩;have:m=0:=(List.mem_replicate.mp (fM h)).2;subst this;exact Is.zero.congr λj=>rfl
def aBE:¬("add_atom":Str)="runs":=by decide +kernel
def aBF:¬("add_atom":Str)="fillable":=by decide +kernel
def aBG:¬("add_atom":Str)="atoms_of":=by decide +kernel
def aBH:¬("add_atom":Str)="through":=by decide +kernel
def AtomAt.keepI(k:Keep x H H')(i:H x=some (.ins C o fs))(q:∀k v d,fs≠af k v d):∀{y:Gh.Atom},AtomAt f B H p y->AtomAt f B H' p y:=by
 have ins:∀(b j:Addr) (s:Str) (v:V) (d:Bool),H b=some (.ins f j (af s v d))->H' b=some (.ins f j (af s v d)):=λb j s v d h=>k _ _ h (bM h i (by intro z;injection z with _ _ r;exact q _ _ _ r.symm));have m:∀(t:Addr) (n:Gh.Name),NameAt H t n->NameAt H' t n:=λt n h=>k _ _ h (bM h i (by intro z;cases z));have l:∀(t:Addr) (ns:List Gh.Name),ListAt NameAt H t ns->ListAt NameAt H' t ns:=λt ns h=>by obtain⟨ps,a,c⟩:=h;exact⟨ps,k _ _ a (bM a i (by intro z;cases z)),c.mono λb n e=>m b n e⟩
 intro y h
 match y,h with
 | .run,⟨y,h⟩=>exact⟨y,ins _ _ _ _ _ h⟩
 | .one _ .any,⟨y,h⟩=>exact⟨y,ins _ _ _ _ _ h⟩
 | .one _ (.alike _),⟨t,⟨y,a⟩,c⟩=>exact⟨t,⟨y,ins _ _ _ _ _ a⟩,m _ _ c⟩
 | .one _ (.class_ _ _),⟨t,⟨y,a⟩,c⟩=>exact⟨t,⟨y,ins _ _ _ _ _ a⟩,k _ _ c (bM c i (by intro z;cases z))⟩
 | .one _ (.name _),⟨t,⟨y,a⟩,b,c⟩=>exact⟨t,⟨y,ins _ _ _ _ _ a⟩,b,l _ _ c⟩
 | .one _ (.among _),⟨t,⟨y,a⟩,b,c⟩=>exact⟨t,⟨y,ins _ _ _ _ _ a⟩,b,l _ _ c⟩
def SignAt.keepI(k:Keep x H H')(a:H x=some (.ins C e fs))(j:∀t s k,fs≠gf t s k)(h:SignAt b B H p y):SignAt b B H' p y:=by obtain⟨f,t,s,c,d,i⟩:=h;exact⟨f,t,s,k _ _ c (bM c a (by intro z;injection z with _ _ l;exact j _ _ _ l.symm)),k _ _ d (bM d a (by intro z;cases z)),i.keepI k a⟩
def ListAt.keepI(m:∀p y,a H p y->a H' p y)(k:Keep x H H')(e:H x=some (.ins C c fs))(h:ListAt a H l xs):ListAt a H' l xs:=by obtain⟨ps,b,d⟩:=h;exact⟨ps,k _ _ b (bM b e (by intro z;cases z)),d.mono m⟩
def aBI(k:Str)(v:V)(d:Bool):([]:List (Str×V))≠af k v d:=λz=>by have e:=gX k v d;rw[<- z]at e;cases e
def aBJ(t s k:V):([]:List (Str×V))≠gf t s k:=λz=>by have e:=oI t s k;rw[<- z]at e;cases e
def aBK:qE P w base 7 T.h ["self","atoms","signs"] (aBB (eO T) (gF T) (eQ T)):=by
 refine aV T.h.F ["self","atoms","signs","atom"] λe0 A h8 s H vs Q E nd hr h => ?_;obtain⟨x,d,la,ls,B,l,L,rfl,C,hL,h64,W,hl,q⟩:=h;refine⟨_,aF (dA (pv 0) bQ Z) (aF (dA (pv 0) bQ Z)
  (aF (dA (pv 0) (dO Hm (cE (aC bQ aD)) (fU gD (by rfl) T.i gC (aC (pv 2) aD))) Z) (aF (dA (pv 0) bQ Z)
  (aG (gQ dR Z (jK (aX (aAZ T) hr (aC (pv 1) aD))) (dP 3)
   (aG (eY (bZ (pv 0) (aBy T) hr (aC (pv 3) (aC (pv 2) aD)))))))))),?_⟩
 try dsimp only [aT,aR,Cx.nox]
 have I:∀(f:Str) (v:V) (fs:List (Str×V)) (n:Nat),fs.length<=n->(aL f v fs).length<=n+1:=λf v fs n h=>aZ (kC _ _ _) (kR h);refine⟨_,Z,x,_,d,[],Z,C,T.h.cl,T.Q,(by show 0<1000;decide),?_⟩;refine⟨_,Z,x,_,d,_,Z,aH,T.h.cl,T.P,dG (I _ _ _ 0 (bH _)) (by decide),?_⟩;have k2:Keep x H _:=((Keep.refl x H).put (o:= .ins (eO T) d (aL "runs" (.int 0) [])) (.inl Z)).put (o:= .ins (eO T) d (aL "fillable" (.int 0) (aL "runs" (.int 0) []))) (.inl Z);refine⟨by show 1<=sizeLine;decide,λtl h0=> ?_⟩;obtain⟨h1,X,k⟩:=id W;have e1:(aE (aE H x (.ins (eO T) d (aL "runs" (.int 0) []))) x (.ins (eO T) d (aL "fillable" (.int 0) (aL "runs" (.int 0) [])))) x=_:=aH;generalize aE (aE H x (.ins (eO T) d (aL "runs" (.int 0) []))) x (.ins (eO T) d (aL "fillable" (.int 0) (aL "runs" (.int 0) [])))=H1 at k2 e1 h0 ⊢;have Y:=k2 _ _ X (bM X C (by intro z;cases z));have s3:Same H1 (aE H1 tl (.lst [V.int 0])):=Same.new h0;refine⟨_,Z,ls,_,Z,.inl (SqL.of (s3 _ _ Y)),tl,_,_,Z,Z,aH,?_,?_,?_,λb j=> ?_⟩
 ·rw[aO,k.len];have:=hl.len;lia
 ·rw[aO,k.len];have:=hl.len;lia
 ·rw[aO,k.len];show 1*((l.length:Nat):Int).toNat<=sizeLine;rw[Nat.one_mul,sM];exact pL (wL (by have:=hl.len;lia))
 have s4:=s3.trans (Same.new (o:= .lst (List.replicate (((h1.map V.ref).length:Int).toNat) [V.int 0]).flatten) j);have u:(aE (aE H1 tl (.lst [V.int 0])) b (.lst (List.replicate (((h1.map V.ref).length:Int).toNat) [V.int 0]).flatten)) b=_:=aH;rw[aBC,aO,k.len,sM]at u s4 ⊢;have c:H b=none:=by
  cases e:H b with
  |none=>rfl
  |some o=>
   by_cases z:b=x;·rw[z]at j;rw[s3 _ _ e1]at j;cases j
   rw[s3 _ _ (k2 _ _ e z)]at j;cases j
 generalize aE (aE H1 tl (.lst [V.int 0])) b (.lst ((nz (List.replicate l.length 0)).map V.int))=H2 at s4 u;refine⟨_,Z,x,_,d,_,Z,s4 _ _ e1,T.h.cl,T.ab,dG (I _ _ _ 1 (I _ _ _ 0 (bH _))) (by decide),?_⟩;refine⟨_,Z,x,_,d,_,Z,aH,T.h.cl,T.R,dG (I _ _ _ 2 (I _ _ _ 1 (I _ _ _ 0 (bH _)))) (by decide),?_⟩;rw[aBd];have nox:b≠x:=λz=>by rw[z]at c;rw[C]at c;cases c
 have k5:Keep x H (aE (aE H2 x (.ins (eO T) d (aL "atoms_of" (.ref b) (aL "fillable" (.int 0) (aL "runs" (.int 0) []))))) x (.ins (eO T) d (gA (.int 0) (.int 0) (.ref b) (.int 1)))):=((k2.trans (.of s4)).put (.inl Z)).put (.inl Z);have f5:FitA (eO T) l.length (aE (aE H2 x (.ins (eO T) d (aL "atoms_of" (.ref b) (aL "fillable" (.int 0) (aL "runs" (.int 0) []))))) x (.ins (eO T) d (gA (.int 0) (.int 0) (.ref b) (.int 1)))) x b []:=
  ⟨d,0,0,List.replicate l.length 0,aH,by rw[bB nox,bB nox];exact u,aBD _⟩
 generalize aE (aE H2 x (.ins (eO T) d (aL "atoms_of" (.ref b) (aL "fillable" (.int 0) (aL "runs" (.int 0) []))))) x (.ins (eO T) d (gA (.int 0) (.int 0) (.ref b) (.int 1)))=H5 at k5 f5;have h3:ListAt (AtomAt (gF T) λt=>t≠b) H la L:=ListAt.imp (rel':=AtomAt (gF T) λt=>t≠b) (λ_ _ h=>h.neN c) hL;refine⟨_,Z,la,L,_,Z,h64,h3.keepI (λ_ _ h=>h.keepI k5 C aBI) k5 C,λH6 z s6 m hz=> ?_⟩;obtain⟨ps,hp,hA⟩:=hz;have U:Keep x H H6:=k5.trans (.of s6);have f6:FitA (eO T) l.length H6 x b []:=by obtain⟨p,r,f,D,G,J,a3⟩:=f5.ex;exact⟨p,r,f,D,s6 _ _ G,s6 _ _ J,a3⟩
 have e3:(gT [] L).length<=64:=aZ (DY L []) (by rw[uR,kS];exact h64);have h7:z≠x:=λe=>by obtain⟨p,r,f,D,G,J,a3⟩:=f5.ex;rw[e,G]at m;cases m
 have h6:z≠b:=λe=>by obtain⟨p,r,f,D,G,J,a3⟩:=f5.ex;rw[e,J]at m;cases m
 refine⟨z,Z,⟨_,SqL.of hp⟩,mM (K:=K) (a:=z) (xs:=ps.map V.ref) (λi σ H'=>(∃v3:Option V,σ= [some (.ref x),some (.ref la),some (.ref ls),v3])/\Kf x b H6 H'/\FitA (eO T) l.length H' x b (((gT [] L).take i).map (Gh.Atom.signs l)))
  ⟨⟨none,Z⟩,Kf.refl _ _ _,f6⟩ (by rintro i σ H' _ ⟨_,k',_⟩;exact SqL.of (k' _ _ hp h7 h6)) ?_ ?_⟩
 ·rintro i y σ H7 hi ⟨⟨v3,rfl⟩,k7,N⟩;obtain⟨pi,h5,rfl⟩:=pH hi;obtain⟨M,O,hc⟩:=hA.sm h5;obtain⟨h2,r7,g7,h9,G,J,a3⟩:=N.ex;have e2:i<(gT [] L).length:=(al_19.mp O).1;have kx:Keep x H H7:=Kf.keep U c k7;have h4:AtomAt (gF T) (λ_=>True) H7 pi M:=aBA f6 hc k7;refine⟨_,Z,x,h2,_,Z,G,wP _ _ _ _ aBE aBF aBG aBH,_,Z,_,Z,x,b,pi,ls,B,l,_,M,Z,N,?_,h4,W.keepI (λ_ _ h=>h.keepI kx C aBJ) kx C,hl,λH8 k8 f8=> ?_⟩;·rw[aO,iH];lia
  refine⟨⟨_,Z⟩,k7.trans k8,?_⟩;rw[lG O,dN];exact f8
 rintro σ H7 ⟨⟨v3,rfl⟩,k7,N⟩;rw[aO,hA.len,gN]at N;exact q H7 (Kf.keep U c k7) N.at_
inductive aBL(CI:Addr)(vs:List V)(H:Hp)(Q:VK)(E:XK):Prop
 |mk (x dx:Addr) (k:Str) (v q:V) (m u:Bool) (_:vs=[.ref x,.str k,v,q,.bl m,.bl u]) (_:H x=some (.ins CI dx [])) (_:∀H':Hp,H' x=some (.ins CI dx (iF k v q m u))->Keep x H H'->Q .non H')
def MQ:qE P w base 1 T.d ["self","kind","what","quarters","mirrored","uncertain"] (aBL (cI T)):=by
 refine aV T.d.F ["self","kind","what","quarters","mirrored","uncertain"] λe A c s H vs Q E l j h=> ?_;obtain⟨x,b,k,v,o,m,u,rfl,i,q⟩:=h;refine⟨_,aF (dA (pv 0) (pv 1) Z) (aF (dA (pv 0) (pv 2) Z) (aF (dA (pv 0) (pv 3) Z) (aF (dA (pv 0) (pv 4) Z) (aG (dA (pv 0) (pv 5) Z))))),?_⟩
 try dsimp only [aT,aR,Cx.nox]
 have a:∀(f:Str) (v:V) (fs:List (Str×V)) (n:Nat),fs.length<=n->(aL f v fs).length<=n+1:=λf v fs n h=>aZ (kC _ _ _) (kR h);refine⟨_,Z,_,Z,x,_,b,[],Z,i,T.d.cl,T.r,(by show 0<1000;decide),?_⟩;refine⟨_,Z,_,Z,x,_,b,_,Z,aH,T.d.cl,T.U,dG (a _ _ _ 0 (bH _)) (by decide),?_⟩;refine⟨_,Z,_,Z,x,_,b,_,Z,aH,T.d.cl,T.x,dG (a _ _ _ 1 (a _ _ _ 0 (bH _))) (by decide),?_⟩;refine⟨_,Z,_,Z,x,_,b,_,Z,aH,T.d.cl,T.aI,dG (a _ _ _ 2 (a _ _ _ 1 (a _ _ _ 0 (bH _)))) (by decide),?_⟩;refine⟨_,Z,_,Z,x,_,b,_,Z,aH,T.d.cl,T.S,dG (a _ _ _ 3 (a _ _ _ 2 (a _ _ _ 1 (a _ _ _ 0 (bH _))))) (by decide),?_⟩;exact q _ aH ((((((Keep.refl x H).put (.inl Z)).put (.inl Z)).put (.inl Z)).put (.inl Z)).put (.inl Z))
def aBM(a:Addr):Sp:=λvs H Q _=>vs=[]/\∀(H':Hp) (p:Addr),Same H H'->ItemAt a (λt=>H t=none) H' p .brk->Q (.ref p) H'
def Bi:bR P w base 3 T.Y [] (aBM (cI T)):=by
 refine aV T.Y.F [] λi A a s H vs Q E e k h=> ?_;obtain⟨rfl,q⟩:=h;refine⟨_,aG (aI (iM (MQ T) k (aC (dH T.bd) (aC dC (aC (cE aD) (aC eJ (aC eJ aD))))))),?_⟩
 try dsimp only [aT,aR,Cx.nox]
 refine⟨bH _,λl d=> ?_⟩;intro x c n e ne;have o:Same H (aE H l (.lst [])):=Same.new d;refine⟨x,c,_,_,_,_,_,Z,aH,λb j m=>⟨Z,?_⟩⟩;have f:Same _ b:=Same.made n e m;exact q b x (o.trans f) ⟨c,l,j,d,f _ _ aH⟩
inductive aBN(K:PySem.W.Frag)(C:Addr)(vs:List V)(H:Hp)(Q:VK)(E:XK):Prop
 |mk (c a:Addr) (bs r:Gh.Bytes) (_:vs=[.ref c]) (_:Cur K C c a bs H r) (_:(iZ r=none->∀H':Hp,Keep c H H'->Q .non H')) (_:∀q r',iZ r=some (q,r')->∀(H':Hp) (z:Addr),Cur K C c a bs H' r'->Keep c H H'->H z=none->H' z=some (.lst ((nz q).map V.int))->Q (.ref z) H')
def Bj{q:List Nat}{i:Nat}{y:V}(h:((nz q).map V.int)[i]? =some y):∃k,q[i]? =some k/\y=V.int ((k:Nat):Int):=by unfold nz at h;rw[pO,fL]at h;cases e:q[i]? with|none=>rw[e]at h;cases h|some k=>rw[e]at h;exact⟨k,Z,(cV h).symm⟩
def aBO{l:List Nat}(h:l[i]? =some k):l.drop i=k::l.drop (i+1):=by obtain⟨hi,e⟩:=al_19.mp h;rw[GB hi,e]
inductive aBP(K:W.Frag)(mg:Str->Option Value)(T:Txt K mg)(H:Hp)(c a:Addr)(bs:Gh.Bytes)(l:Addr)(r0:Gh.Bytes)(i:Nat)(σ:L2.St)(H':Hp):Prop
 |mk (v:Option V) (acc:List Nat) (r':Gh.Bytes) (_:σ= [some (.ref c),some (.ref l),v]) (_:H' l=some (.lst ((nz acc).map V.int))) (_:acc.length<=i) (_:Cur K (bI T) c a bs H' r') (_:Keep c H H') (_:(acc++(dU ([1,2,3,4].drop i) r').1,(dU ([1,2,3,4].drop i) r').2)=dU [1,2,3,4] r0)
def Bk:bR P w base 4 T.bU ["cursor"] (aBN K (bI T)):=by
 refine aV T.bU.F ["cursor","quarters","quarter"] λh6 A h5 s H vs Q E nd hr h=> ?_;obtain⟨c,a,bs,r,rfl,x,n,f⟩:=h;obtain⟨d,hg,hd⟩:=T.aV;have hS:∀H:Hp,SqT K H d ((nz [1,2,3,4]).map V.int):=λH=> .inr hd;obtain⟨h0,i0,h2,_,_⟩:=x.ex;refine⟨_,aF (aY (iI (bY (bZ (pv 0) (cZ T) hr (aC (bC T.de) aD)))) (aG (aI (cE aD))) bD)
  (aF (bA 1 (cE aD))
  (aF (gQ dR Z (NV (sW Z hg (v := .ref d) Z)) (dP 2)
   (aG (aY (bY (bZ (pv 0) (cZ T) hr (aC (dO vH (bC T.ah) (pv 2)) aD)))
    (aG (eY (fV fJ gO gP gR (pv 1) (aC (pv 2) aD)))) bD)))
  (aF (aY (bT (wG (wM hr)) (pv 1) (cE aD)) (aG (aI dC)) bD)
  (aG (aI (pv 1)))))),?_⟩
 try dsimp only [aT,aR,Cx.nox]
 refine⟨_,Z,c,h0,_,Z,h2,bW a i0 cT cU,c,a,bs,r,37,Z,x,λM p O=>⟨_,Z,?_⟩⟩;unfold iZ at n f;by_cases t:(tk 37 r).1=true
 ·rw[aB t]at n;simp only [aB t]at f;refine bG (bS not t) ⟨bH _,λl D=> ?_⟩;have J:Same M (aE M l (.lst [])):=Same.new D;have j:H l=none:=O.free p.has D;obtain⟨I,h4⟩:∃I,(tk 37 r).2=I:=⟨_,Z⟩;rw[h4]at p n f;refine⟨d,Z,⟨_,hS _⟩,NW (K:=K) (a:=d) (xs:=(nz [1,2,3,4]).map V.int) (aBP K mg T H c a bs l I)
   ⟨none,[],I,Z,aH,aK _,p.same J,O.trans (.of J),Z⟩ (λi σ H' _ _=>hS H') ?_ ?_⟩
  ·rintro i y σ Y hi ⟨v,acc,o,rfl,q,u,X,U,e⟩;obtain⟨k,hk,rfl⟩:=Bj hi;obtain⟨h1,i2,B,_,_⟩:=X.ex;have h3:k<=4:=by
    have:=fM hk;simp at this;lia
   have h7:i<4:=(al_19.mp hk).1;have eb:(48:Int)+((k:Nat):Int)=(((UInt8.ofNat (48+k)).toNat:Nat):Int):=by rw[yX h3];lia
   rw[aBO hk,dU]at e;refine⟨_,Z,c,h1,_,Z,B,bW a i2 cT cU,_,Z,_,_,Z,Z,c,a,bs,o,UInt8.ofNat (48+k),?_,X,λH3 x3 k3=>⟨_,Z,?_⟩⟩
   ·show [V.ref c,V.int ((48:Int)+((k:Nat):Int))]=_;rw[eb]
   have m:=U.trans k3;have b:H3 l=_:=k3 _ _ q (bM q B (by intro z;cases z));by_cases L:(tk (UInt8.ofNat (48+k)) o).1=true;·rw[aB L]at e;have G:((nz acc).map V.int).length<sizeLine:=wL (by rw[aO,kO];lia);refine bK L ⟨_,Z,.inl ⟨Z,_,SqL.of b⟩,_,Z,l,_,_,Z,Z,b,G,?_⟩;rw[ET];refine⟨_,acc++[k],_,Z,aH,by rw[bF,dB];lia,x.write x3 m j b,m.put (.inr j),?_⟩;rw[<- e,dQ];rfl
   rw[aA L]at e;rw[fO L]at x3;exact bG (al_12.mpr L) ⟨_,acc,o,Z,b,by lia,x3,m,e⟩
  rintro σ Y ⟨v,acc,o,rfl,q,u,X,U,e⟩;have e:(acc,o)=dU [1,2,3,4] I:=by rw[<- e];show _=(acc++[],o);rw[bU]
  rw[<- e]at n f;dsimp only at n f;refine⟨_,Z,bH _,λel C=>⟨l,el,_,Z,Z,SqL.of (Same.new C _ _ q),SqL.of aH,_,Z,?_⟩⟩;have W:Same Y (aE Y el (.lst [])):=Same.new C;by_cases N:acc=[]
  ·have e1:((nz acc).map V.int).isEmpty=true:=by rw[N];rfl
   exact bK e1 (n (by rw[aB N]) _ (U.trans (.of W)))
  have e1:((nz acc).map V.int).isEmpty=false:=by cases acc with|nil=>exact absurd rfl N|cons=>rfl
  refine bG e1 ⟨_,Z,f acc o (by rw[aA N]) _ l (X.same W) (U.trans (.of W)) j (W _ _ q)⟩
 rw[aA t]at n;simp only [aA t]at f;rw[fO t]at p;refine bK (bS not (al_12.mpr t)) ⟨bH _,λl D=> ?_⟩;have J:Same M (aE M l (.lst [])):=Same.new D;exact f [] r rfl _ l (p.same J) (O.trans (.of J)) (O.free p.has D) aH
inductive MR(K:PySem.W.Frag)(C CI:Addr)(f:Gh.Bytes->Option (Item×Gh.Bytes))(vs:List V)(H:Hp)(Q:VK)(E:XK):Prop
 |mk (c a:Addr) (bs r:Gh.Bytes) (_:vs=[.ref c]) (_:Cur K C c a bs H r) (_:(f r=none->∀H':Hp,Keep c H H'->Q .non H')) (_:∀it r',f r=some (it,r')->∀(H':Hp) (p:Addr),Cur K C c a bs H' r'->Keep c H H'->ItemAt CI (λt=>H t=none) H' p it->Q (.ref p) H')
def MS(n:Nat):decide (V.int ((n:Nat):Int)=V.int 0)=decide (n=0):=by
 refine al_43.mpr ⟨λz=> ?_,λz=>by rw[z];rfl⟩;injection z with z
 lia
def aBQ:bR P w base 5 T.bH ["cursor"] (MR K (bI T) (cI T) rZ):=by
 refine aV T.bH.F ["cursor","size","quarters"] λG A n s H vs Q E C k h=> ?_;obtain⟨c,a,bs,r,rfl,x,b,o⟩:=h;refine⟨_,aF (bA 1 (aX (YW T) k (aC (pv 0) aD)))
  (aF (aY (PW.pt (jE (bT dS (pv 1) bQ) (kU (bT vI (pv 1) (bC T.cM))))) (aG (aI dC)) bD)
  (aF (bA 2 (aX (Bk T) k (aC (pv 0) aD)))
  (aF (aY (fK (fT (pv 2))) (aG (aI dC)) bD)
  (aG (aI (iM (MQ T) k (aC (dH T.ba) (aC (pv 1) (aC (pv 2) (aC eJ (aC eJ aD))))))))))),?_⟩
 try dsimp only [aT,aR,Cx.nox]
 unfold rZ at b o;refine⟨_,Z,c,a,bs,r,Z,x,λq D d=> ?_⟩;obtain⟨I,i1,j,_,_⟩:=D.ex;refine⟨_,Z,Z,_,Z,?_⟩;rw[MS];by_cases e:(number r).1=0;·exact bK (bP e) (aN (b (by rw[aB (.inl e)]) q d))
 refine bG (bN e) ⟨_,Z,_,_,Z,Z,_,Z,?_⟩;have J:decide ((32:Int)<(((number r).1:Nat):Int))=decide (32<(number r).1):=al_43.mpr (by lia);rw[J];by_cases f:32<(number r).1;·exact bK (bP f) (b (by rw[aB (.inr f)]) q d)
 have B:¬((number r).1=0\/32<(number r).1):=by rintro(z|z);exact e z;exact f z
 rw[aA B]at b;simp only [aA B]at o;refine bG (bN f) ⟨_,Z,c,a,bs,_,Z,D,λL i m=> ?_,λW X M i z Y m l hz=> ?_⟩;·rw[L]at b;exact⟨_,Z,_,Z,aN (b Z i (d.trans m))⟩
 refine⟨_,Z,_,Z,aQ ⟨_,Z,_,Z,?_⟩⟩;intro y v U C ne;refine⟨y,v,_,_,_,_,_,Z,aH,λu N O=>⟨Z,?_⟩⟩;have p:Same i u:=Same.made U C O;exact o (.gap (number r).1 W) X (by rw[M];rfl) u y (Y.same p) ((d.trans m).trans (.of p)) ⟨v,z,N,d.free ⟨_,j⟩ l,p _ _ hz⟩
def Bl(r:Gh.Bytes):Option (Item×Gh.Bytes):=(lX r).map λx=>(.sgn x.1,x.2)
def aBR:bR P w base 7 T.bY ["cursor"] (MR K (bI T) (cI T) Bl):=by
 refine aV T.bY.F ["cursor","name","mirrored","quarters","uncertain"] λh0 A O s H vs Q E nd i h=> ?_;obtain⟨c,a,bs,r,rfl,x,d,l⟩:=h;refine⟨_,aF (bA 1 (aX (EM T) i (aC (pv 0) aD)))
  (aF (aY (fK (fT (pv 1))) (aG (aI dC)) bD)
  (aF (bA 2 (bZ (pv 0) (cZ T) i (aC (bC T.dp) aD)))
  (aF (bA 3 (aX (Bk T) i (aC (pv 0) aD)))
  (aF (aY (fK (fT (pv 3))) (aG (aI dC)) bD)
  (aF (bA 4 (bZ (pv 0) (cZ T) i (aC (bC T.df) aD)))
  (aG (aI (iM (MQ T) i (aC (dH T.J) (aC (pv 1) (aC (pv 3) (aC (pv 2) (aC (pv 4) aD))))))))))))),?_⟩
 try dsimp only [aT,aR,Cx.nox]
 unfold Bl lX at d l;refine⟨_,Z,c,a,bs,r,Z,x,λH1 v p I N=> ?_⟩;generalize cJ r=X at p N d l;obtain⟨o,r1⟩:=X;refine⟨_,Z,_,Z,?_⟩;cases o with
 |none=>
  have ev:v= .non:=N;subst ev;exact aN (d Z H1 I)
 |some n=>
  obtain⟨tn,rfl,hn⟩:=N;dsimp only at d l p;obtain⟨u,i1,e,_,_⟩:=p.ex;refine aQ ⟨_,Z,c,u,_,Z,e,bW a i1 cT cU,c,a,bs,r1,126,Z,p,λH2 x2 L=> ?_⟩;obtain⟨h1,i2,f,_,_⟩:=x2.ex;refine⟨_,Z,c,a,bs,_,Z,x2,λeN U k=> ?_,λqq r3 eS U z x3 k G hz=> ?_⟩;·rw[eN]at d;exact⟨_,Z,_,Z,aN (d Z U ((I.trans L).trans k))⟩
  obtain⟨B,i3,b,_,_⟩:=x3.ex;refine⟨_,Z,_,Z,aQ ⟨_,Z,c,B,_,Z,b,bW a i3 cT cU,c,a,bs,r3,63,Z,x3,λq x4 M=> ?_⟩⟩;refine⟨_,Z,_,Z,_,Z,_,Z,?_⟩;intro y Y ny nd ne;refine⟨y,Y,_,_,_,_,_,Z,aH,λW h5 k5=>⟨Z,?_⟩⟩;have m:Same q W:=Same.made ny nd k5;have j:=I.trans L;have D:q z=_:=M _ _ hz (bM hz b (by intro z;cases z));have C:NameAt q tn n:=((hn.keep L e).keep k f).keep M b;exact l (.sgn ⟨n,(tk 126 r1).1,qq,(tk 63 r3).1⟩) _ (by rw[eS];rfl) W y (x4.same m) (((j.trans k).trans M).trans (.of m)) ⟨Y,tn,z,h5,m _ _ C,j.free ⟨_,f⟩ G,m _ _ D⟩
def ItemAt.back(k:Keep c H a)(f:∃o,a c=some o)(h:ItemAt b (λt=>a t=none) d p e):ItemAt b (λt=>H t=none) d p e:=h.imp λt z=>k.free f z
def aBS:bR P w base 8 T.bT ["cursor"] (MR K (bI T) (cI T) gU):=by
 refine aV T.bT.F ["cursor"] λB A u s H vs Q E J p h=> ?_;obtain⟨c,a,bs,r,rfl,x,i,j⟩:=h;obtain⟨l,D,o,_,_⟩:=x.ex;refine⟨_,aF (aY (bY (bZ (pv 0) (cZ T) p (aC (bC T.dr) aD))) (aG (aI (aX (aBQ T) p (aC (pv 0) aD)))) bD)
  (aG (aI (aX (aBR T) p (aC (pv 0) aD)))),?_⟩
 try dsimp only [aT,aR,Cx.nox]
 unfold gU at i j;refine⟨_,Z,c,l,_,Z,o,bW a D cT cU,c,a,bs,r,95,Z,x,λG k e=>⟨_,Z,?_⟩⟩;obtain⟨C,I,f,_,_⟩:=k.ex;by_cases t:(tk 95 r).1=true;·rw[aB t]at i;simp only [aB t]at j;exact bK t ⟨_,Z,c,a,bs,_,Z,k,λm b d=>i m b (e.trans d),λq v n b z y d hz=>j q v n b z y (e.trans d) (hz.back e ⟨_,f⟩)⟩
 rw[aA t]at i;simp only [aA t]at j;rw[fO t]at k;exact bG (al_12.mpr t) ⟨_,Z,c,a,bs,_,Z,k,λm b d=>i m b (e.trans d),λq v n b z y d hz=>j q v n b z y (e.trans d) (hz.back e ⟨_,f⟩)⟩
def sH:Wk->Str
 | .block=>"whole block"
 | .paren=>"in parentheses"
 | .nest=>"in a nest"
def qT:Gh.Tag->Str
 | .column=>"column"
 | .row=>"row"
 | .one=>"bare"
def gg(g:PG):List (Str×V):=[(("kind":Str),.str (sH g.au.kind)),(("unit":Str),.str (qT g.unit)),(("columned":Str),.bl g.au.cells),(("rowed":Str),.bl g.au.seats),(("piled":Str),.bl g.au.sheets)]
def FB:aL g v ((g,x)::r)=(g,v)::r:=aB rfl
def iG(h:¬g=f):aL f v ((g,x)::r)=(g,x)::aL f v r:=aA h
def zP{g:Str}{x:V}{r:List (Str×V)}:List.lookup g ((g,x)::r)=some x:=by rw[nL,qY]
def jV{f g:Str}{x:V}{r:List (Str×V)}(h:¬f=g):List.lookup f ((g,x)::r)=List.lookup f r:=by rw[nL,al_35.mpr h]
def zQ(g:PG):(gg g).lookup ("kind":Str)=some (.str (sH g.au.kind)):=zP
def Bm(g:PG):(gg g).lookup ("unit":Str)=some (.str (qT g.unit)):=(jV (by decide +kernel)).trans zP
def aBT(g:PG):(gg g).lookup ("columned":Str)=some (.bl g.au.cells):=(jV (by decide +kernel)).trans ((jV (by decide +kernel)).trans zP)
def Bn(g:PG):(gg g).lookup ("rowed":Str)=some (.bl g.au.seats):=(jV (by decide +kernel)).trans ((jV (by decide +kernel)).trans ((jV (by decide +kernel)).trans zP))
def Bo(g:PG):(gg g).lookup ("piled":Str)=some (.bl g.au.sheets):=(jV (by decide +kernel)).trans ((jV (by decide +kernel)).trans ((jV (by decide +kernel)).trans ((jV (by decide +kernel)).trans zP)))
def nG(g:PG){m:Str}(h:¬m="kind"/\¬m="unit"/\¬m="columned"/\¬m="rowed"/\¬m="piled"):(gg g).lookup m=none:=(jV h.1).trans ((jV h.2.1).trans ((jV h.2.2.1).trans ((jV h.2.2.2.1).trans (jV h.2.2.2.2))))
def sI(g:PG):(gg g).length<1000:=by show 5<1000;decide
def MT(g:PG)(t:Gh.Tag):aL "unit" (.str (qT t)) (gg g)=gg ⟨g.au,t⟩:=by unfold gg;rw[iG (by decide +kernel),FB]
def Bp(g:PG)(b:Bool):aL "columned" (.bl b) (gg g)=gg ⟨{g.au with cells:=b},g.unit⟩:=by unfold gg;rw[iG (by decide +kernel),iG (by decide +kernel),FB]
def MU(g:PG)(b:Bool):aL "rowed" (.bl b) (gg g)=gg ⟨{g.au with seats:=b},g.unit⟩:=by unfold gg;rw[iG (by decide +kernel),iG (by decide +kernel),iG (by decide +kernel),FB]
def FC(g:PG)(b:Bool):aL "piled" (.bl b) (gg g)=gg ⟨{g.au with sheets:=b},g.unit⟩:=by unfold gg;rw[iG (by decide +kernel),iG (by decide +kernel),iG (by decide +kernel),iG (by decide +kernel),FB]
def aBU(k:Wk):aL "piled" (.bl false) (aL "rowed" (.bl false) (aL "columned" (.bl false) (aL "unit" (.str (qT .one)) [(("kind":Str),.str (sH k))])))=gg (iQ k):=by
 have b:∀a u:V,aL "unit" u [(("kind":Str),a)]=[(("kind":Str),a),(("unit":Str),u)]:=λa u=>by rw[iG (by decide +kernel)];rfl
 have c:∀a u v:V,aL "columned" v [(("kind":Str),a),(("unit":Str),u)]=[(("kind":Str),a),(("unit":Str),u),(("columned":Str),v)]:=λa u v=>by rw[iG (by decide +kernel),iG (by decide +kernel)];rfl
 have d:∀a u v x:V,aL "rowed" x [(("kind":Str),a),(("unit":Str),u),(("columned":Str),v)]=[(("kind":Str),a),(("unit":Str),u),(("columned":Str),v),(("rowed":Str),x)]:=λa u v x=>by rw[iG (by decide +kernel),iG (by decide +kernel),iG (by decide +kernel)];rfl
 rw[b,c,d,iG (by decide +kernel),iG (by decide +kernel),iG (by decide +kernel),iG (by decide +kernel)];rfl
def Bq(a:Addr)(H:Hp)(p:Addr)(g:PG):Prop:=∃b,H p=some (.ins a b (gg g))
def uJ:HO.ins c d (gg g)≠HO.ins C b (cf a i):=by
 intro z;injection z with _ _ f
 have e:=zQ g;rw[f,bW a i HU HV]at e;cases e
def aBV(t:Gh.Tag):decide (V.str (qT t)=V.str "row")=decide (t= .row):=by cases t<;>decide +kernel
def aBW(t:Gh.Tag):decide (V.str (qT t)=V.str "column")=decide (t= .column):=by cases t<;>decide +kernel
def aBX(t:Gh.Tag):decide (V.str (qT t)=V.str "bare")=decide (t= .one):=by cases t<;>decide +kernel
def aBY(k:Wk):decide (V.str (sH k)=V.str "in parentheses")=decide (k= .paren):=by cases k<;>decide +kernel
def aBZ(k:Wk):decide (V.str (sH k)=V.str "in a nest")=decide (k= .nest):=by cases k<;>decide +kernel
def Br(k:Wk):decide (V.str (sH k)=V.str "whole block")=decide (k= .block):=by cases k<;>decide +kernel
inductive MV(CG:Addr)(post:PG->V->PG->Prop)(vs:List V)(H:Hp)(Q:VK)(E:XK):Prop
 |mk (p dx:Addr) (g:PG) (_:vs=[.ref p]) (_:H p=some (.ins CG dx (gg g))) (_:∀(v:V) (g':PG),post g v g'->Q v (aE H p (.ins CG dx (gg g'))))
inductive MW(CG:Addr)(f:PG->V)(vs:List V)(H:Hp)(Q:VK)(E:XK):Prop
 |mk (p dx:Addr) (g:PG) (_:vs=[.ref p]) (_:H p=some (.ins CG dx (gg g))) (_:Q (f g) H)
def Bs:gG P w mg base 1 T.aG ["self"] (MW (cQ T) λg=> .bl (g.au.mayStar g.unit)):=by
 refine⟨aV T.aG.F ["self"] λf A a s H vs Q E j i h=> ?_,T.b.cl⟩;obtain⟨p,c,g,rfl,d,q⟩:=h;refine⟨_,aG (aI (sX (bJ (pv 0) Z) (lO (kD kW (bJ (pv 0) Z) (dH T.bh))))),?_⟩
 try dsimp only [aT,aR,Cx.nox]
 refine⟨_,Z,p,_,c,_,_,Z,d,T.b.cl,T.w,Bo g,_,Z,?_⟩;unfold AU.mayStar at q;cases e:g.au.sheets with
 |true=>
  rw[e,wU]at q;exact aN q
 |false=>
  rw[e,oK]at q;refine aQ ⟨_,Z,p,_,c,_,_,Z,d,T.b.cl,T.G,Bm g,Z,?_⟩;rw[aBV];have:(!decide (g.unit= .row))=(g.unit != .row):=by cases g.unit<;>rfl
  rw[this];exact q
def aCa(g:PG):g.au.mayEnd g.unit=(g.au.mayStar g.unit&&(g.au.sheets||(g.au.seats||(g.unit != .column)))):=by obtain⟨⟨k,a,b,c⟩,t⟩:=g;cases a<;>cases b<;>cases c<;>cases t<;>rfl
def MX:gG P w mg base 2 T.aF ["self"] (MW (cQ T) λg=> .bl (g.au.mayEnd g.unit)):=by
 refine⟨aV T.aF.F ["self"] λj A d s H vs Q E l k h=> ?_,T.b.cl⟩;obtain⟨p,a,g,rfl,c,q⟩:=h;refine⟨_,aG (aI (oT (fW (pv 0) (Bs T) k) (lO (sX (bJ (pv 0) Z) (sX (bJ (pv 0) Z) (lO (kD kW (bJ (pv 0) Z) (dH T.aY)))))))),?_⟩
 try dsimp only [aT,aR,Cx.nox]
 rw[aCa]at q;refine⟨_,Z,p,a,_,Z,c,nG g (by decide +kernel),p,a,g,Z,c,_,Z,?_⟩;cases e:g.au.mayStar g.unit with
 |false=>
  rw[e,qV]at q;exact aQ q
 |true=>
  rw[e,mI]at q;refine aN ⟨_,Z,p,_,a,_,_,Z,c,T.b.cl,T.w,Bo g,_,Z,?_⟩;cases f:g.au.sheets with
  |true=>
   rw[f,wU]at q;exact aN q
  |false=>
   rw[f,oK]at q;refine aQ ⟨_,Z,p,_,a,_,_,Z,c,T.b.cl,T.E,Bn g,_,Z,?_⟩;cases i:g.au.seats with
   |true=>
    rw[i,wU]at q;exact aN q
   |false=>
    rw[i,oK]at q;refine aQ ⟨_,Z,p,_,a,_,_,Z,c,T.b.cl,T.G,Bm g,Z,?_⟩;rw[aBW];have:(!decide (g.unit= .column))=(g.unit != .column):=by cases g.unit<;>rfl
    rw[this];exact q
def MY:aE (aE H p o) p a=aE H p a:=by
 funext b;by_cases e:b=p;·rw[e,aH,aH]
 rw[bB e,bB e,bB e]
def aCb:gG P w mg base 1 T.aD ["self"] (MV (cQ T) λg v g'=>v= .bl true/\g'=⟨{g.au with sheets:=true},g.unit⟩):=by
 refine⟨aV T.aD.F ["self"] λc A a s H vs Q E i f h=> ?_,T.b.cl⟩;obtain⟨p,d,g,rfl,e,q⟩:=h;refine⟨_,aF (dA (pv 0) eJ Z) (aG (aI eJ)),?_⟩
 try dsimp only [aT,aR,Cx.nox]
 refine⟨_,Z,p,_,d,_,Z,e,T.b.cl,T.w,sI g,?_⟩;rw[FC];exact q _ _ ⟨Z,Z⟩
def aCc:gG P w mg base 2 T.aE ["self"] (MV (cQ T) λg v g'=>v= .bl (g.au.mayStar g.unit)/\g'=⟨{g.au with seats:=true,sheets:=false},g.unit⟩):=by
 refine⟨aV T.aE.F ["self","right"] λe A d s H vs Q E i f h=> ?_,T.b.cl⟩;obtain⟨p,a,g,rfl,c,q⟩:=h;refine⟨_,aF (bA 1 (fW (pv 0) (Bs T) f)) (aF (dA (pv 0) eJ Z) (aF (dA (pv 0) eJ Z) (aG (aI (pv 1))))),?_⟩
 try dsimp only [aT,aR,Cx.nox]
 refine⟨_,Z,p,a,_,Z,c,nG g (by decide +kernel),p,a,g,Z,c,?_⟩;refine⟨_,Z,p,_,a,_,Z,c,T.b.cl,T.E,sI g,?_⟩;rw[MU];refine⟨_,Z,p,_,a,_,Z,aH,T.b.cl,T.w,sI _,?_⟩;rw[FC,MY];exact⟨_,Z,q _ _ ⟨Z,Z⟩⟩
def aCd:gG P w mg base 3 T.aB ["self"] (MV (cQ T) λg v g'=>v= .bl (g.au.mayEnd g.unit)/\g'=⟨{g.au with cells:=true,seats:=false,sheets:=false},g.unit⟩):=by
 refine⟨aV T.aB.F ["self","right"] λe A d s H vs Q E i f h=> ?_,T.b.cl⟩;obtain⟨p,a,g,rfl,c,q⟩:=h;refine⟨_,aF (bA 1 (fW (pv 0) (MX T) f)) (aF (dA (pv 0) eJ Z) (aF (dA (pv 0) eJ Z) (aF (dA (pv 0) eJ Z) (aG (aI (pv 1)))))),?_⟩
 try dsimp only [aT,aR,Cx.nox]
 refine⟨_,Z,p,a,_,Z,c,nG g (by decide +kernel),p,a,g,Z,c,?_⟩;refine⟨_,Z,p,_,a,_,Z,c,T.b.cl,T.ac,sI g,?_⟩;rw[Bp];refine⟨_,Z,p,_,a,_,Z,aH,T.b.cl,T.E,sI _,?_⟩;rw[MU,MY];refine⟨_,Z,p,_,a,_,Z,aH,T.b.cl,T.w,sI _,?_⟩;rw[FC,MY];exact⟨_,Z,q _ _ ⟨Z,Z⟩⟩
inductive aCe(CG:Addr)(vs:List V)(H:Hp)(Q:VK)(E:XK):Prop
 |mk (p dx:Addr) (fs:List (Str×V)) (k:Wk) (_:vs=[.ref p]) (_:H p=some (.ins CG dx fs)) (_:(fs=[(("kind":Str),.str (sH k))]\/∃g:PG,g.au.kind=k/\fs=gg g)) (_:∀H':Hp,H' p=some (.ins CG dx (gg (iQ k)))->Keep p H H'->Q .non H')
def aCf(g:PG):aL "piled" (.bl false) (aL "rowed" (.bl false) (aL "columned" (.bl false) (aL "unit" (.str (qT .one)) (gg g))))=gg (iQ g.au.kind):=by rw[MT,Bp,MU,FC];rfl
def Bu:gG P w mg base 1 T.aA ["self"] (aCe (cQ T)):=by
 refine⟨aV T.aA.F ["self"] λl A i s H vs Q E r o h=> ?_,T.b.cl⟩;obtain⟨p,c,fs,k,rfl,m,j,q⟩:=h;refine⟨_,aF (dA (pv 0) (dH T.X) Z) (aF (dA (pv 0) eJ Z) (aF (dA (pv 0) eJ Z) (aG (dA (pv 0) eJ Z)))),?_⟩
 try dsimp only [aT,aR,Cx.nox]
 have a:∀(f:Str) (v:V) (fs:List (Str×V)) (n:Nat),fs.length<=n->(aL f v fs).length<=n+1:=λf v fs n h=>aZ (kC _ _ _) (kR h);have d:fs.length<=5:=by
  rcases j with rfl|⟨g,_,rfl⟩;·show 1<=5;decide
  exact aK _
 have e:aL "piled" (.bl false) (aL "rowed" (.bl false) (aL "columned" (.bl false) (aL "unit" (.str "bare") fs)))=gg (iQ k):=by
  rcases j with rfl|⟨g,rfl,rfl⟩;·exact aBU k
  exact aCf g
 refine⟨_,Z,p,_,c,_,Z,m,T.b.cl,T.G,dG d (by decide),?_⟩;refine⟨_,Z,p,_,c,_,Z,aH,T.b.cl,T.ac,dG (a _ _ _ 5 d) (by decide),?_⟩;refine⟨_,Z,p,_,c,_,Z,aH,T.b.cl,T.E,dG (a _ _ _ 6 (a _ _ _ 5 d)) (by decide),?_⟩;refine⟨_,Z,p,_,c,_,Z,aH,T.b.cl,T.w,dG (a _ _ _ 7 (a _ _ _ 6 (a _ _ _ 5 d))) (by decide),?_⟩;rw[e];exact q _ aH (((((Keep.refl p H).put (.inl Z)).put (.inl Z)).put (.inl Z)).put (.inl Z))
inductive aCg(CG:Addr)(vs:List V)(H:Hp)(Q:VK)(E:XK):Prop
 |mk (p dx:Addr) (k:Wk) (_:vs=[.ref p,.str (sH k)]) (_:H p=some (.ins CG dx [])) (_:∀H':Hp,H' p=some (.ins CG dx (gg (iQ k)))->Keep p H H'->Q .non H')
def MZ:qE P w base 2 T.b ["self","kind"] (aCg (cQ T)):=by
 refine aV T.b.F ["self","kind"] λe A c s H vs Q E m j h=> ?_;obtain⟨p,a,k,rfl,i,q⟩:=h;refine⟨_,aF (dA (pv 0) (pv 1) Z) (aG (eY (fW (pv 0) (Bu T) j))),?_⟩
 try dsimp only [aT,aR,Cx.nox]
 refine⟨_,Z,_,Z,p,_,a,[],Z,i,T.b.cl,T.D,(by show 0<1000;decide),?_⟩;refine⟨_,Z,p,a,_,Z,aH,jV (by decide +kernel),p,a,_,k,Z,aH,.inl Z,λd f l=> ?_⟩;exact q d f (((Keep.refl p H).put (.inl Z)).trans l)
inductive aCh(CG:Addr)(vs:List V)(H:Hp)(Q:VK)(E:XK):Prop
 |mk (p dx:Addr) (g:PG) (_:vs=[.ref p]) (_:H p=some (.ins CG dx (gg g))) (_:∀H':Hp,H' p=some (.ins CG dx (gg (iQ g.au.kind)))->Keep p H H'->Q (.bl (g.au.mayEnd g.unit)) H')
def aCi:gG P w mg base 3 T.aC ["self"] (aCh (cQ T)):=by
 refine⟨aV T.aC.F ["self","right"] λi A d s H vs Q E l e h=> ?_,T.b.cl⟩;obtain⟨p,a,g,rfl,c,q⟩:=h;refine⟨_,aF (bA 1 (fW (pv 0) (MX T) e)) (aF (eY (fW (pv 0) (Bu T) e)) (aG (aI (pv 1)))),?_⟩
 try dsimp only [aT,aR,Cx.nox]
 refine⟨_,Z,p,a,_,Z,c,nG g (by decide +kernel),p,a,g,Z,c,?_⟩;refine⟨_,Z,p,a,_,Z,c,nG g (by decide +kernel),p,a,_,g.au.kind,Z,c,.inr ⟨g,Z,Z⟩,λf j k=> ?_⟩;exact⟨_,Z,q f j k⟩
def aCj:gG P w mg base 1 T.az ["self"] (MW (cQ T) λg=> .str (qT g.au.tag)):=by
 refine⟨aV T.az.F ["self"] λi A a s H vs Q E k j h=> ?_,T.b.cl⟩;obtain⟨p,c,g,rfl,f,q⟩:=h;refine⟨_,aF (aY (bY (bJ (pv 0) Z)) (aG (aI (dH T.aY))) bD) (aF (aY (bY (bJ (pv 0) Z)) (aG (aI (dH T.bh))) bD) (aG (aI (dH T.X)))),?_⟩
 try dsimp only [aT,aR,Cx.nox]
 unfold AU.tag at q;refine⟨_,Z,p,_,c,_,_,Z,f,T.b.cl,T.ac,aBT g,_,Z,?_⟩;cases d:g.au.cells with
 |true=>
  rw[d,aB rfl]at q;exact aN q
 |false=>
  rw[d,aA bX]at q;refine aQ ⟨_,Z,p,_,c,_,_,Z,f,T.b.cl,T.E,Bn g,_,Z,?_⟩;cases e:g.au.seats with
  |true=>
   rw[e,aB rfl]at q;exact aN q
  |false=>
   rw[e,aA bX]at q;exact aQ q
structure GsI(CG:Addr)(H:Hp)(gl:Addr)(rs:List Addr)(gs:List PG):Prop where
 lst:H gl=some (.lst (rs.reverse.map V.ref))
 all:All2 (Bq CG H) rs gs
 nd:rs.Nodup
def KG(c a:Addr)(d:List Addr)(H H':Hp):Prop:=∀b o,H b=some o->b≠c->b≠a->b∉d->H' b=some o
def KG.refl(c a:Addr)(b:List Addr)(H:Hp):KG c a b H H:=λ_ _ h _ _ _=>h
def KG.trans(a:KG c d e H f)(b:KG c d e f i):KG c d e H i:=λx o h n m k=>b x o (a x o h n m k) n m k
def KG.of(s:Same H H'):KG c a b H H':=λx o h _ _ _=>s x o h
def KG.keep(s:Keep c H H'):KG c a b H H':=λx o h n _ _=>s x o h n
def KG.putL(a:KG c d h H f):KG c d h H (aE f d o):=λb u e n m k=>by rw[bB m];exact a b u e n m k
def KG.putG(a:KG c h d H f)(i:p∈d):KG c h d H (aE f p o):=λb u e n m k=>by rw[bB (λz=>k (by rw[z];exact i))];exact a b u e n m k
def KG.sub(a:KG c f d H H')(h:∀q∈d,q∈i):KG c f i H H':=λb o e n m k=>a b o e n m λz=>k (h b z)
def ND(K:PySem.W.Frag)(a b:Addr)(xs:List V):Prop:=b≠a\/∀H:Hp,SqL K H a xs
def ND.of(h:SqL K H a xs)(n:H b=none):ND K a b xs:=by
 rcases h with(h|⟨o,h⟩)|h;·exact .inl (dJ (cH h n))
 ·exact .inl (dJ (cH h n))
 exact .inr λ_=> .inr h
def SqL.putL(h:SqL K H a xs)(n:ND K a b xs):SqL K (aE H b o) a xs:=by
 rcases n with n|n
 ·rcases h with(h|⟨o,h⟩)|h;·exact .inl (.inl (by rw[bB (dJ n)];exact h))
  ·exact .inl (.inr ⟨o,by rw[bB (dJ n)];exact h⟩)
  exact .inr h
 exact n _
def Cur.putL(x:Cur K C c a bs H r)(n:ND K a b (bv bs))(h:H b=some (.lst xs)):Cur K C c a bs (aE H b (.lst ys)) r:=by obtain⟨d,i,e,f,j⟩:=x.ex;exact⟨SqL.putL x.seq n,d,i,by rw[bB (bM e h (by intro z;cases z))];exact e,f,j⟩
def Cur.putG(x:Cur K C c a bs H r)(h:H p=some (.ins b dp (gg g))):Cur K C c a bs (aE H p o) r:=by
 obtain⟨d,i,e,f,j⟩:=x.ex;refine⟨?_,d,i,by rw[bB (bM e h (λz=>uJ z.symm))];exact e,f,j⟩;rcases x.seq with(q|⟨u,q⟩)|q
 ·exact .inl (.inl (by rw[bB (bM q h (by intro z;cases z))];exact q))
 ·exact .inl (.inr ⟨u,by rw[bB (bM q h (by intro z;cases z))];exact q⟩)
 exact .inr q
def All2.cons{α:Type}{c:Addr->α->Prop}{p:Addr}{ps:List Addr}{x:α}{xs:List α}(r:c p x)(h:All2 c ps xs):All2 c (p::ps) (x::xs):=by refine⟨by rw[cG,cG,h.len],λi q y a b=> ?_⟩;cases i with|zero=>cases a;cases b;exact r|succ i=>exact h.at_ i q y a b
section
def GsI.top(h:GsI CG H gl (p::rs) (g::gs)):Bq CG H p g:=h.all.cons_inv.1
def GsI.split(h:GsI CG H gl rs (g::gs)):∃p a,rs=p::a:=by cases rs with|nil=>have:=h.all.len;simp at this|cons p rs=>exact⟨p,rs,Z⟩
def GsI.last(h:GsI CG H gl (p::rs) gs):hX ((p::rs).reverse.map V.ref) (-1)=some (V.ref p):=by
 have e:((p::rs).reverse.map V.ref)=rs.reverse.map V.ref++[V.ref p]:=by rw[oO,dN];rfl
 rw[e];unfold hX lR;rw[aA (by decide),bF,dB,aB (by lia)];show(rs.reverse.map V.ref++[V.ref p])[((-1:Int)+((rs.reverse.map V.ref).length+1:Nat)).toNat]? =_;rw[show((-1:Int)+((rs.reverse.map V.ref).length+1:Nat)).toNat=(rs.reverse.map V.ref).length by lia,iT (aK _),nN];rfl
def GsI.ne(h:GsI CG H gl rs gs)(a:q∈rs):q≠gl:=by obtain⟨i,hi⟩:=nO a;obtain⟨x,_,b,e⟩:=h.all.sm hi;exact bM e h.lst (by intro z;cases z)
def GsI.put(h:GsI CG H gl (p::rs) (g::gs)):GsI CG (aE H p (.ins CG dp (gg g'))) gl (p::rs) (g'::gs):=by refine⟨by rw[bB (dJ (h.ne (cF ..)))];exact h.lst,.cons ⟨dp,aH⟩ ⟨h.all.cons_inv.2.len,λi q y a b=> ?_⟩,h.nd⟩;obtain⟨c,e⟩:=h.all.cons_inv.2.at_ i q y a b;exact⟨c,by rw[bB (λz=>(al_83.mp h.nd).1 (by rw[<- z];exact fM a))];exact e⟩
def GsI.pop(h:GsI CG H gl (p::rs) (g::gs)):GsI CG (aE H gl (.lst (rs.reverse.map V.ref))) gl rs gs:=by refine⟨aH,⟨h.all.cons_inv.2.len,λi q y a b=> ?_⟩,(al_83.mp h.nd).2⟩;obtain⟨c,e⟩:=h.all.cons_inv.2.at_ i q y a b;exact⟨c,by rw[bB (h.ne (cA _ (fM a)))];exact e⟩
def GsI.push(h:GsI CG H gl rs gs)(d:H q=some (.ins CG c (gg x)))(j:q∉rs):GsI CG (aE H gl (.lst (rs.reverse.map V.ref++[V.ref q]))) gl (q::rs) (x::gs):=by refine⟨by rw[aH,oO,dN];rfl,.cons ⟨c,by rw[bB (bM d h.lst (by intro z;cases z))];exact d⟩ ⟨h.all.len,λi b y a e=> ?_⟩,al_83.mpr ⟨j,h.nd⟩⟩;obtain⟨f,e⟩:=h.all.at_ i b y a e;exact⟨f,by rw[bB (h.ne (fM a))];exact e⟩
def GsI.same(h:GsI CG H gl rs gs)(s:Same H H'):GsI CG H' gl rs gs:=⟨s _ _ h.lst,h.all.mono λ_ _ ⟨a,e⟩=>⟨a,s _ _ e⟩,h.nd⟩
def GsI.keep(h:GsI CG H gl rs gs)(k:Keep c H H')(b:H c=some (.ins C d (cf a i))):GsI CG H' gl rs gs:=
 ⟨k _ _ h.lst (bM h.lst b (by intro z;cases z)),h.all.mono λ_ _ ⟨f,e⟩=>⟨f,k _ _ e (bM e b uJ)⟩,h.nd⟩
def NA(p:Addr)(a:List Addr):((p::a).reverse.map V.ref).dropLast=a.reverse.map V.ref:=by rw[oO,dN];simp
def NB(p:Addr)(a:List Addr):((p::a).reverse.map V.ref)[((p::a).reverse.map V.ref).length-1]? =some (V.ref p):=by
 rw[oO,dN,bF];show(a.reverse.map V.ref++[V.ref p])[(a.reverse.map V.ref).length+1-1]? =_;rw[Nat.add_sub_cancel,iT (aK _),nN];rfl
end
inductive aCk(K:PySem.W.Frag)(C:Addr)(vs:List V)(H:Hp)(Q:VK)(E:XK):Prop
 |mk (c a:Addr) (bs r:Gh.Bytes) (_:vs=[.ref c]) (_:Cur K C c a bs H r) (_:(jQ r=none->∀H':Hp,Keep c H H'->Q (.bl false) H')) (_:∀r',jQ r=some r'->∀H':Hp,Cur K C c a bs H' r'->Keep c H H'->Q (.bl true) H')
def Bv:bR P w base 4 T.bA ["cursor"] (aCk K (bI T)):=by
 refine aV T.bA.F ["cursor"] λh3 A h1 s H vs Q E nd o h => ?_;obtain⟨c,a,bs,r,rfl,x,q,b⟩:=h;refine⟨_,aF (aY (PW.pt (jE (bY (bZ (pv 0) (cZ T) o (aC (bC T.dl) aD))) (kU (bY (bZ (pv 0) (cZ T) o (aC (bC T.dm) aD))))))
   (aF (aY (iI (bY (bZ (pv 0) (cZ T) o (aC (bC T.bj) aD)))) (aG (eY (bZ (pv 0) (cZ T) o (aC (bC T.bi) aD)))) bD) (aG (aI eJ))) bD)
  (aG (aI (sX (bZ (pv 0) (cZ T) o (aC (bC T.bj) aD)) (sX (bZ (pv 0) (cZ T) o (aC (bC T.dk) aD)) (lO (bZ (pv 0) (cZ T) o (aC (bC T.bi) aD))))))),?_⟩
 try dsimp only [aT,aR,Cx.nox]
 unfold jQ at q b;obtain⟨dx,i,hc,_,_⟩:=x.ex;refine⟨_,Z,c,dx,_,Z,hc,bW a i cT cU,c,a,bs,r,110,Z,x,λH1 u C=>⟨_,Z,?_⟩⟩;by_cases v:(tk 110 r).1=true
 case' pos=>
  simp only [aB v]at b;obtain⟨j,O⟩:∃j,(tk 110 r).2=j:=⟨_,Z⟩;rw[O]at u b;refine bK v (aN ?_)
 case' neg=>
  rw[aA v]at q;simp only [aA v]at b;rw[fO v]at u;obtain⟨k,X,m,_,_⟩:=u.ex;refine bG (al_12.mpr v) ⟨_,Z,c,k,_,Z,m,bW a X cT cU,c,a,bs,r,115,Z,u,λh2 e h0=>⟨_,Z,?_⟩⟩;have C:=C.trans h0;by_cases y:(tk 115 r).1=true
  case' pos=>
   simp only [aB y]at b;obtain⟨j,O⟩:∃j,(tk 115 r).2=j:=⟨_,Z⟩;rw[O]at e b;have u:=e;refine bK y ?_
  case' neg=>
   rw[aA y]at q;simp only [aA y]at b;rw[fO y]at e;obtain⟨M,i2,U,_,_⟩:=e.ex;refine bG (al_12.mpr y) ⟨_,Z,c,M,_,Z,U,bW a i2 cT cU,c,a,bs,r,119,Z,e,λJ f G=>⟨_,Z,?_⟩⟩;have D:=C.trans G;by_cases d:(tk 119 r).1=true;·simp only [aB d]at b;exact bK d (b _ Z J f D)
   rw[aA d]at q;simp only [aA d]at b;rw[fO d]at f;obtain⟨l,Y,n,_,_⟩:=f.ex;refine bG (al_12.mpr d) ⟨_,Z,c,l,_,Z,n,bW a Y cT cU,c,a,bs,r,99,Z,f,λL B k3=>⟨_,Z,?_⟩⟩;have p:=D.trans k3;by_cases z:(tk 99 r).1=true;·simp only [aB z]at b;exact bK z (b _ Z L B p)
   rw[aA z]at q;simp only [aA z]at b;rw[fO z]at B;obtain⟨N,i4,W,_,_⟩:=B.ex;refine bG (al_12.mpr z) ⟨_,Z,c,N,_,Z,W,bW a i4 cT cU,c,a,bs,r,101,Z,B,λH4 x4 k4=> ?_⟩;by_cases I:(tk 101 r).1=true;·rw[I];simp only [aB I]at b;exact b _ rfl H4 x4 (p.trans k4)
   rw[al_12.mpr I];rw[aA I]at q;exact q rfl H4 (p.trans k4)
 all_goals
  unfold uG at b;obtain⟨k,X,m,_,_⟩:=u.ex;refine⟨_,Z,c,k,_,Z,m,bW a X cT cU,c,a,bs,j,119,Z,u,λJ f G=>⟨_,Z,?_⟩⟩;by_cases d:(tk 119 j).1=true;·simp only [aB d]at b;exact bG (bS not d) (b _ Z J f (C.trans G))
  simp only [aA d]at b;rw[fO d]at f;obtain⟨l,Y,n,_,_⟩:=f.ex;exact bK (bS not (al_12.mpr d)) ⟨_,Z,c,l,_,Z,n,bW a Y cT cU,c,a,bs,j,101,Z,f,λL B k3=>b _ Z L B ((C.trans G).trans k3)⟩
def nH(g:PG)(a:List PG)(r:Gh.Bytes):Option (List PG×Gh.Bytes):=if g.au.mayEnd g.unit=false then none else match g.au.kind,a with| .paren,[]=>none| .paren,h::hs=>if g.au.tag≠ .one/\(tk 41 r).1=true then some (⟨h.au,g.au.tag⟩::hs,(tk 41 r).2)else none| .nest,a=>if(tk 93 r).1=true then some (a,(tk 93 r).2)else none| .block,a=>some (a,r)
def uK:List PG->Gh.Bytes->Option (List PG×Gh.Bytes)
 | [],r=>some ([],r)
 |g::gs,r=>jR g gs r
def Bw(g:PG)(a:List PG)(r:Gh.Bytes):jR g a r =
  if(tk 38 r).1=true then some (⟨{g.au with sheets:=true},g.unit⟩::a,(tk 38 r).2)
  else if(tk 42 r).1=true then(if g.au.mayStar g.unit=true then some (⟨{g.au with seats:=true,sheets:=false},g.unit⟩::a,(tk 42 r).2)else none)
  else if(tk 58 r).1=true then(if g.au.mayEnd g.unit=true then some (⟨{g.au with cells:=true,seats:=false,sheets:=false},g.unit⟩::a,(tk 58 r).2)else none)
  else if g.au.kind= .nest/\(tk 59 r).1=true then(if g.au.mayEnd g.unit=true then(jQ (tk 59 r).2).map λb=>(iQ .nest::a,b)else none)
  else(nH g a r).bind λx=>uK x.1 x.2:=by
 cases a with
 |nil=>
  unfold jR nH;by_cases e:g.au.mayEnd g.unit=false;·rw[aB e,aB e];rfl
  rw[aA e,aA e];cases g.au.kind with
  |paren=>rfl
  |nest=>
   dsimp only;split<;>(try rfl)<;>(split<;>(try rfl)<;>(split<;>(try rfl)<;>(split<;>(try rfl)<;>(split<;>rfl))))
  |block=>rfl
 |cons h hs=>
  unfold jR nH;by_cases e:g.au.mayEnd g.unit=false;·rw[aB e,aB e];rfl
  rw[aA e,aA e];cases g.au.kind with
  |paren=>
   dsimp only;split<;>(try rfl)<;>(split<;>(try rfl)<;>(split<;>(try rfl)<;>(split<;>(try rfl)<;>(split<;>rfl))))
  |nest=>
   dsimp only;split<;>(try rfl)<;>(split<;>(try rfl)<;>(split<;>(try rfl)<;>(split<;>(try rfl)<;>(split<;>rfl))))
  |block=>rfl
inductive aCl(K:PySem.W.Frag)(C CG:Addr)(vs:List V)(H:Hp)(Q:VK)(E:XK):Prop
 |mk (c a gl p p2:Addr) (rs:List Addr) (bs r:Gh.Bytes) (g h:PG) (gs:List PG) (_:vs=[.ref c,.ref gl]) (_:Cur K C c a bs H r) (_:ND K a gl (bv bs)) (_:GsI CG H gl (p::p2::rs) (g::h::gs)) (_:(¬(g.au.tag≠ .one/\(tk 41 r).1=true)->∀H':Hp,KG c gl (p::p2::rs) H H'->Q (.bl false) H')) (_:((g.au.tag≠ .one/\(tk 41 r).1=true)->∀H':Hp,Cur K C c a bs H' (tk 41 r).2->KG c gl (p::p2::rs) H H'->GsI CG H' gl (p2::rs) (⟨h.au,g.au.tag⟩::gs)->Q (.bl true) H'))
def aCm:bR P w base 4 T.aU ["cursor","groups"] (aCl K (bI T) (cQ T)):=by
 refine aV T.aU.F ["cursor","groups","unit"] λW A B s H vs Q E N L h=> ?_;obtain⟨c,a,j,p,f,l,bs,r,g,h,gs,rfl,x,N,m,O,q1⟩:=h;refine⟨_,aF (bA 2 (fW (PN fJ PySem.F.slot_list_pop PySem.F.type_list_pop PR (pv 1)) (aCj T) L))
  (aF (dA (iJ iK (pv 1) (pV pW bQ) (λ_ _=>rfl)) (pv 2) Z)
  (aG (aI (oT (kD kW (pv 2) (dH T.X)) (lO (bZ (pv 0) (cZ T) L (aC (bC T.cH) aD))))))),?_⟩
 try dsimp only [aT,aR,Cx.nox]
 obtain⟨dp,hp⟩:=m.top;have y:p≠j:=m.ne (cF ..);refine⟨_,Z,.inl ⟨Z,_,SqL.of m.lst⟩,j,_,_,Z,Z,m.lst,NB p (f::l),?_⟩;rw[NA];have d:=m.pop;have U:=x.putL (ys:=(f::l).reverse.map V.ref) N m.lst;have M:KG c j (p::f::l) H (aE H j (.lst ((f::l).reverse.map V.ref))):=(KG.refl _ _ _ _).putL;have k:(aE H j (.lst ((f::l).reverse.map V.ref))) p=some (.ins (cQ T) dp (gg g)):=by rw[bB y];exact hp
 generalize aE H j (.lst ((f::l).reverse.map V.ref))=H1 at d U M k;refine⟨p,dp,_,Z,k,nG g (by decide +kernel),p,dp,g,Z,k,?_⟩;obtain⟨n,J⟩:=d.top;refine⟨_,Z,_,Z,1,Z,j,_,_,_,Z,Z,SqL.of d.lst,d.last,f,_,n,_,Z,J,T.b.cl,T.G,sI h,?_⟩;rw[MT];have q:=d.put (dp:=n) (g':=⟨h.au,g.au.tag⟩);have C:=U.putG (o:= .ins (cQ T) n (gg ⟨h.au,g.au.tag⟩)) J;have u:KG c j (p::f::l) H (aE H1 f (.ins (cQ T) n (gg ⟨h.au,g.au.tag⟩))):=M.putG (cA _ (cF ..));generalize aE H1 f (.ins (cQ T) n (gg ⟨h.au,g.au.tag⟩))=H2 at q C u;refine⟨_,Z,Z,_,Z,?_⟩;rw[aBX];by_cases e:g.au.tag= .one;·rw[bP e];exact aQ (O (λz=>z.1 e) H2 u)
 rw[bN e];obtain⟨Y,i,I,_,_⟩:=C.ex;refine aN ⟨_,Z,c,Y,_,Z,I,bW a i cT cU,c,a,bs,r,41,Z,C,λD x3 v=> ?_⟩;by_cases t:(tk 41 r).1=true;·rw[t];exact q1 ⟨e,t⟩ D x3 (u.trans (.keep v)) (q.keep v I)
 rw[al_12.mpr t];exact O (λz=>t z.2) D (u.trans (.keep v))
inductive aCn(K:PySem.W.Frag)(C CG:Addr)(f:List PG->Gh.Bytes->Option (List PG×Gh.Bytes))(vs:List V)(H:Hp)(Q:VK)(E:XK):Prop
 |mk (c a gl:Addr) (rs:List Addr) (bs r:Gh.Bytes) (gs:List PG) (_:vs=[.ref c,.ref gl]) (_:Cur K C c a bs H r) (_:ND K a gl (bv bs)) (_:GsI CG H gl rs gs) (_:Bt gs) (_:(f gs r=none->∀H':Hp,KG c gl rs H H'->Q (.bl false) H')) (_:∀gs' r',f gs r=some (gs',r')->∀(H':Hp) (rs':List Addr),Cur K C c a bs H' r'->KG c gl rs H H'->(∀q∈rs',q∈rs)->GsI CG H' gl rs' gs'->Q (.bl true) H')
inductive aCo(K:PySem.W.Frag)(C CG:Addr)(vs:List V)(H:Hp)(Q:VK)(E:XK):Prop
 |mk (g:PG) (gs:List PG) (c a gl:Addr) (rs:List Addr) (bs r:Gh.Bytes) (_:vs=[.ref c,.ref gl]) (_:Cur K C c a bs H r) (_:ND K a gl (bv bs)) (_:GsI CG H gl rs (g::gs)) (_:Bt (g::gs)) (_:nH g gs r=none->∀H':Hp,KG c gl rs H H'->Q (.bl false) H') (_:∀gs' r',nH g gs r=some (gs',r')->∀(H':Hp) (rs':List Addr),Cur K C c a bs H' r'->KG c gl rs H H'->(∀q∈rs',q∈rs)->GsI CG H' gl rs' gs'->Q (.bl true) H')
def aCp:bR P w base 5 T.aT ["cursor","groups"] (aCo K (bI T) (cQ T)):=by
 refine aV T.aT.F ["cursor","groups","group"] λY A N s H vs Q E J L h=> ?_;obtain⟨g,W,c,a,k,d,bs,r,rfl,x,J,f,hb,l,n⟩:=h;obtain⟨p,d,rfl⟩:=f.split;refine⟨_,aF (bA 2 (iJ iK (pv 1) (pV pW bQ) (λ_ _=>rfl)))
  (aF (aY (iI (bY (fW (pv 2) (MX T) L))) (aG (aI eJ)) bD)
  (aF (aY (bT dS (bJ (pv 2) Z) (dH T.bc)) (aG (aI (aX (aCm T) L (aC (pv 0) (aC (pv 1) aD))))) bD)
  (aF (eY (PN fJ PySem.F.slot_list_pop PySem.F.type_list_pop PR (pv 1)))
  (aG (aI (sX (kD dS (bJ (pv 2) Z) (dH T.bm)) (lO (bZ (pv 0) (cZ T) L (aC (bC T.cG) aD))))))))),?_⟩
 try dsimp only [aT,aR,Cx.nox]
 obtain⟨dp,C⟩:=f.top;have I:p≠k:=f.ne (cF ..);unfold nH at l n;refine⟨_,Z,1,Z,k,_,_,_,Z,Z,SqL.of f.lst,f.last,?_⟩;refine⟨_,Z,p,dp,_,Z,C,nG g (by decide +kernel),p,dp,g,Z,C,_,Z,?_⟩;cases e:g.au.mayEnd g.unit with
 |false=>
  rw[aB e]at l;exact aN (l Z H (KG.refl _ _ _ _))
 |true=>
  rw[aA (by rw[e];simp)]at l;simp only [e,Bool.true_eq_false,oJ]at n;refine aQ ⟨_,Z,p,_,dp,_,_,Z,C,T.b.cl,T.D,zQ g,Z,_,Z,?_⟩;rw[aBY];cases u:g.au.kind with
  |paren=>
   rw[u]at l;simp only [u]at n;cases W with
   |nil=>exact absurd (hb.1.mpr Z) (by rw[u];intro z;cases z)
   |cons h hs=>
    dsimp only at l n;obtain⟨B,d,rfl⟩:∃B O,d=B::O:=by cases d with|nil=>have:=f.all.len;simp at this|cons B d=>exact⟨B,d,Z⟩
    refine aN ⟨_,Z,_,Z,c,a,k,p,B,d,bs,r,g,h,hs,Z,x,J,f,λhn y o=> ?_,λhy y v o j=> ?_⟩;·exact l (aA hn) y o
    exact n _ _ (aB hy) y (B::d) v o (λq G=>cA _ G) j
  |nest=>
   rw[u]at l;simp only [u]at n;dsimp only at l n;refine aQ ⟨_,Z,.inl ⟨Z,_,SqL.of f.lst⟩,k,_,_,Z,Z,f.lst,NB p d,?_⟩;rw[NA];have j:=f.pop;have v:=x.putL (ys:=d.reverse.map V.ref) J f.lst;have o:KG c k (p::d) H (aE H k (.lst (d.reverse.map V.ref))):=(KG.refl _ _ _ _).putL;have m:(aE H k (.lst (d.reverse.map V.ref))) p=some (.ins (cQ T) dp (gg g)):=by rw[bB I];exact C
   generalize aE H k (.lst (d.reverse.map V.ref))=y at j v o m;refine⟨_,Z,p,_,dp,_,_,Z,m,T.b.cl,T.D,zQ g,Z,_,Z,?_⟩;rw[Br,u];obtain⟨dx,i,X,_,_⟩:=v.ex;refine aQ ⟨_,Z,c,dx,_,Z,X,bW a i cT cU,c,a,bs,r,93,Z,v,λU x2 M=> ?_⟩;by_cases t:(tk 93 r).1=true;·rw[t];exact n _ _ (aB t) U d x2 (o.trans (.keep M)) (λq G=>cA _ G) (j.keep M X)
   rw[al_12.mpr t];exact l (aA t) U (o.trans (.keep M))
  |block=>
   rw[u]at l;simp only [u]at n;dsimp only at l n;refine aQ ⟨_,Z,.inl ⟨Z,_,SqL.of f.lst⟩,k,_,_,Z,Z,f.lst,NB p d,?_⟩;rw[NA];have j:=f.pop;have v:=x.putL (ys:=d.reverse.map V.ref) J f.lst;have o:KG c k (p::d) H (aE H k (.lst (d.reverse.map V.ref))):=(KG.refl _ _ _ _).putL;have m:(aE H k (.lst (d.reverse.map V.ref))) p=some (.ins (cQ T) dp (gg g)):=by rw[bB I];exact C
   generalize aE H k (.lst (d.reverse.map V.ref))=y at j v o m;refine⟨_,Z,p,_,dp,_,_,Z,m,T.b.cl,T.D,zQ g,Z,_,Z,?_⟩;rw[Br,u];exact aN (n W r Z y d v o (λq G=>cA _ G) j)
def aCq(a:Bt (g::b))(h:nH g b r=some x):Bt x.1/\x.1.length<=b.length:=by
 unfold nH at h;split at h;·cases h
 cases c:g.au.kind with
 |paren=>
  rw[c]at h;cases b with
  |nil=>cases h
  |cons h2 hs=>
   dsimp only at h;split at h;·cases h;exact⟨⟨a.2.2.1,a.2.2.2.1,a.2.2.2.2⟩,aK _⟩
   cases h
 |nest=>
  rw[c]at h;dsimp only at h;split at h;·cases h;exact⟨a.2.2,aK _⟩
  cases h
 |block=>
  rw[c]at h;cases h;exact⟨a.2.2,aK _⟩
inductive NC(K:PySem.W.Frag)(C CG c a gl:Addr)(bs:Gh.Bytes)(H:Hp)(rs0:List Addr)(y:Option (List PG×Gh.Bytes))(m:Nat)(σ:L2.St)(H':Hp):Prop
 |mk (rs:List Addr) (gs:List PG) (r:Gh.Bytes) (v:Option V) (_:σ= [some (.ref c),some (.ref gl),v]) (_:gs.length<=m) (_:Cur K C c a bs H' r) (_:GsI CG H' gl rs gs) (_:Bt gs) (_:KG c gl rs0 H H') (_:∀q∈rs,q∈rs0) (_:uK gs r=y)
def aCr:bR P w base 6 T.bz ["cursor","groups"] (aCn K (bI T) (cQ T) uK):=by
 refine aV T.bz.F ["cursor","groups","group"] λy6 A y5 s H vs Q E nd hr h => ?_;obtain⟨c,a,J,G,bs,r0,W,rfl,x0,nd,y4,y2,q0,q1⟩:=h;refine⟨_,aF (lP dR (bT (wH (wM hr)) (pv 1) (cE aD))
   (aF (bA 2 (iJ iK (pv 1) (pV pW bQ) (λ_ _=>rfl)))
   (aF (aY (bY (bZ (pv 0) (cZ T) hr (aC (bC T.cw) aD))) (aG (aI (fW (pv 2) (aCb T) hr))) bD)
   (aF (aY (bY (bZ (pv 0) (cZ T) hr (aC (bC T.bk) aD))) (aG (aI (fW (pv 2) (aCc T) hr))) bD)
   (aF (aY (bY (bZ (pv 0) (cZ T) hr (aC (bC T.cC) aD))) (aG (aI (fW (pv 2) (aCd T) hr))) bD)
   (aF (aY (PW.pt (nR (bT dS (bJ (pv 2) Z) (dH T.bb)) (oS (bY (bZ (pv 0) (cZ T) hr (aC (bC T.dh) aD))))))
    (aG (aI (oT (fW (pv 2) (aCi T) hr) (lO (aX (Bv T) hr (aC (pv 0) aD)))))) bD)
   (aG (aY (iI (bY (aX (aCp T) hr (aC (pv 0) (aC (pv 1) aD))))) (aG (aI eJ)) bD))))))))
  (aG (aI eJ)),?_⟩
 try dsimp only [aT,aR,Cx.nox]
 refine⟨NC K (bI T) (cQ T) c a J bs H G (uK W r0),
  ⟨W.length,G,W,r0,none,Z,aK _,x0,y4,y2,KG.refl _ _ _ _,λ_ h=>h,Z⟩,?_⟩
 rintro m σ H1 ⟨O,U,r,v,rfl,hm,x,hg,hb,k1,f,d⟩;refine⟨_,Z,bH _,λel e6=>⟨J,el,_,Z,Z,SqL.of (Same.new e6 _ _ hg.lst),SqL.of aH,_,Z,?_⟩⟩;have s2:Same H1 (aE H1 el (.lst [])):=Same.new e6;have x2:=x.same s2;have B:=hg.same s2;have k2:=k1.trans (KG.of s2);generalize aE H1 el (HO.lst [])=H2 at s2 x2 B k2;cases U with
 |nil=>
  have e0:O=[]:=lM B.all.len;subst e0;refine aQ ?_;exact q1 [] r d.symm H2 [] x2 k2 (λq hq=>by cases hq) B
 |cons g U=>
  obtain⟨p,O,rfl⟩:=B.split;have e0:((p::O).reverse.map V.ref).isEmpty=false:=by rw[oO,dN];cases(O.reverse.map V.ref)<;>rfl
  rw[e0];obtain⟨dp,hp⟩:=B.top;have d:jR g U r=uK W r0:=d;rw[Bw]at d;have h0:p∈G:=f p (cF ..);refine aN ⟨NC K (bI T) (cQ T) c a J bs H G (uK W r0) U.length,
   λy8 H' h=>⟨U.length,(by have:(g::U).length=U.length+1:=rfl;lia),h⟩,?_⟩
  refine⟨_,Z,1,Z,J,_,_,_,Z,Z,SqL.of B.lst,B.last,?_⟩;obtain⟨dx,i,hc,_,_⟩:=x2.ex;refine⟨_,Z,c,dx,_,Z,hc,bW a i cT cU,c,a,bs,r,38,Z,x2,λH3 x3 k3=>⟨_,Z,?_⟩⟩;have h1:H3 p=some (.ins (cQ T) dp (gg g)):=k3 _ _ hp (bM hp hc uJ);have e7:=B.keep k3 hc;have e9:=k2.trans (KG.keep k3);by_cases t1:(tk 38 r).1=true;·rw[t1];rw[aB t1]at d;refine aN ⟨_,Z,p,dp,_,Z,h1,nG g (by decide +kernel),p,dp,g,Z,h1,?_⟩;rintro _ _ ⟨rfl,rfl⟩;exact q1 _ _ d.symm _ (p::O) (x3.putG h1) (e9.putG h0) f e7.put
  rw[al_12.mpr t1];rw[aA t1]at d;rw[fO t1]at x3;obtain⟨x1,i3,h5,_,_⟩:=x3.ex;refine aQ ⟨_,Z,c,x1,_,Z,h5,bW a i3 cT cU,c,a,bs,r,42,Z,x3,λH4 x4 k4=>⟨_,Z,?_⟩⟩;have h2:H4 p=some (.ins (cQ T) dp (gg g)):=k4 _ _ h1 (bM h1 h5 uJ);have e8:=e7.keep k4 h5;have e4:=e9.trans (KG.keep k4);by_cases t2:(tk 42 r).1=true
  ·rw[t2];rw[aB t2]at d;refine aN ⟨_,Z,p,dp,_,Z,h2,nG g (by decide +kernel),p,dp,g,Z,h2,?_⟩;rintro _ _ ⟨rfl,rfl⟩;cases em:g.au.mayStar g.unit with
   |true=>
    rw[em,aB rfl]at d;exact q1 _ _ d.symm _ (p::O) (x4.putG h2) (e4.putG h0) f e8.put
   |false=>
    rw[em,aA bX]at d;exact q0 d.symm _ (e4.putG h0)
  rw[al_12.mpr t2];rw[aA t2]at d;rw[fO t2]at x4;obtain⟨x9,i4,h6,_,_⟩:=x4.ex;refine aQ ⟨_,Z,c,x9,_,Z,h6,bW a i4 cT cU,c,a,bs,r,58,Z,x4,λH5 x5 k5=>⟨_,Z,?_⟩⟩;have Y:H5 p=some (.ins (cQ T) dp (gg g)):=k5 _ _ h2 (bM h2 h6 uJ);have h9:=e8.keep k5 h6;have h4:=e4.trans (KG.keep k5);by_cases t3:(tk 58 r).1=true
  ·rw[t3];rw[aB t3]at d;refine aN ⟨_,Z,p,dp,_,Z,Y,nG g (by decide +kernel),p,dp,g,Z,Y,?_⟩;rintro _ _ ⟨rfl,rfl⟩;cases em:g.au.mayEnd g.unit with
   |true=>
    rw[em,aB rfl]at d;exact q1 _ _ d.symm _ (p::O) (x5.putG Y) (h4.putG h0) f h9.put
   |false=>
    rw[em,aA bX]at d;exact q0 d.symm _ (h4.putG h0)
  rw[al_12.mpr t3];rw[aA t3]at d;rw[fO t3]at x5;obtain⟨y0,i5,h8,_,_⟩:=x5.ex;have tN:∀H6:Hp,KG c J G H H6->¬(g.au.kind= .nest/\(tk 59 r).1=true)->nH g U r=none->∀k:Hp,KG c J (p::O) H6 k->Q (.bl false) k:=λH6 N hn eN k k7=>by rw[aA hn,eN]at d;exact q0 d.symm k (N.trans (k7.sub f))
  have tS:∀H6:Hp,KG c J G H H6->¬(g.au.kind= .nest/\(tk 59 r).1=true)->∀l r',nH g U r=some (l,r')->∀(k:Hp) (C:List Addr),Cur K (bI T) c a bs k r'->KG c J (p::O) H6 k->(∀q∈C,q∈p::O)->GsI (cQ T) k J C l->NC K (bI T) (cQ T) c a J bs H G (uK W r0) U.length [some (.ref c),some (.ref J),some (.ref p)] k:=λH6 N hn l r' eS k C x7 k7 I M=>by rw[aA hn,eS]at d;obtain⟨b1,b2⟩:=aCq hb eS;exact⟨C,l,r',_,Z,b2,x7,M,b1,N.trans (k7.sub f),λq hq=>f q (I q hq),d⟩
  refine aQ ⟨_,Z,p,_,dp,_,_,Z,Y,T.b.cl,T.D,zQ g,Z,_,Z,?_⟩;rw[aBZ];by_cases ek:g.au.kind= .nest
  ·rw[bP ek];refine aN ⟨_,Z,c,y0,_,Z,h8,bW a i5 cT cU,c,a,bs,r,59,Z,x5,λH6 x6 k6=>⟨_,Z,?_⟩⟩;have h3:H6 p=some (.ins (cQ T) dp (gg g)):=k6 _ _ Y (bM Y h8 uJ);have L:=h9.keep k6 h8;have N:=h4.trans (KG.keep k6);by_cases t4:(tk 59 r).1=true
   ·rw[t4];rw[aB ⟨ek,t4⟩]at d;refine aN ⟨_,Z,p,dp,_,Z,h3,nG g (by decide +kernel),p,dp,g,Z,h3,λk h7 k7=>⟨_,Z,?_⟩⟩;have X:∀b o,H6 b=some o->b≠p->k b=some o:=λb o e n=>k7 b o e n;have x7:Cur K (bI T) c a bs k (tk 59 r).2:=by
     obtain⟨y1,ii,e1,e2,e3⟩:=x6.ex;refine⟨?_,y1,ii,X _ _ e1 (bM e1 h3 (λz=>uJ z.symm)),e2,e3⟩;rcases x6.seq with(y|⟨u,y⟩)|y
     ·exact .inl (.inl (X _ _ y (bM y h3 (by intro z;cases z))))
     ·exact .inl (.inr ⟨u,X _ _ y (bM y h3 (by intro z;cases z))⟩)
     exact .inr y
    have M:GsI (cQ T) k J (p::O) (iQ .nest::U):=by refine⟨X _ _ L.lst (dJ (L.ne (cF ..))),.cons ⟨dp,by rw[ek]at h7;exact h7⟩ ⟨L.all.cons_inv.2.len,λj q y aq bq=> ?_⟩,L.nd⟩;obtain⟨dq,e⟩:=L.all.cons_inv.2.at_ j q y aq bq;exact⟨dq,X _ _ e (λz=>(al_83.mp L.nd).1 (by rw[<- z];exact fM aq))⟩
    have e5:KG c J G H k:=λb o e n1 n2 n3=>X b o (N b o e n1 n2 n3) (λz=>n3 (by rw[z];exact h0));cases em:g.au.mayEnd g.unit with
    |false=>
     rw[em,aA bX]at d;exact aQ (q0 d.symm k e5)
    |true=>
     rw[em,aB rfl]at d;obtain⟨y7,i7,y3,_,_⟩:=x7.ex;refine aN ⟨_,Z,c,a,bs,_,Z,x7,λeN H8 k8=> ?_,λr8 eS H8 x8 k8=> ?_⟩;·rw[eN]at d;exact q0 d.symm H8 (e5.trans (KG.keep k8))
     rw[eS]at d;exact q1 _ _ d.symm H8 (p::O) x8 (e5.trans (KG.keep k8)) f (M.keep k8 y3)
   rw[al_12.mpr t4];rw[fO t4]at x6;exact aQ ⟨_,Z,_,Z,g,U,c,a,J,p::O,bs,r,Z,x6,nd,L,hb,λeN k k7=>⟨_,Z,aN (tN H6 N (λz=>t4 z.2) eN k k7)⟩,λl r' eS k C x7 k7 I M=>⟨_,Z,aQ (tS H6 N (λz=>t4 z.2) l r' eS k C x7 k7 I M)⟩⟩
  rw[bN ek];exact aQ (aQ ⟨_,Z,_,Z,g,U,c,a,J,p::O,bs,r,Z,x5,nd,h9,hb,λeN k k7=>⟨_,Z,aN (tN H5 h4 (λz=>ek z.1) eN k k7)⟩,λl r' eS k C x7 k7 I M=>⟨_,Z,aQ (tS H5 h4 (λz=>ek z.1) l r' eS k C x7 k7 I M)⟩⟩)
def MvG(B:Addr->Prop)(H H':Hp):Prop:=∀b o,H b=some o->(∀xs,o= .lst xs->B b)->(∀C c a i,o≠ .ins C c (cf a i))->(∀C c g,o≠ .ins C c (gg g))->H' b=some o
def MvG.imp(f:∀t,B t->a t)(m:MvG a H H'):MvG B H H':=λb o h e n c=>m b o h (λxs z=>f _ (e xs z)) n c
def KG.mv(k:KG c d p H H')(u:H c=some (.ins C r (cf a i)))(m:GsI q H d p s):MvG (λt=>t≠d) H H':=λb o h e n w=>by
 refine k b o h (bM h u (n _ _ _ _)) (λz=> ?_) (λz=> ?_);·have l:=h;rw[z,m.lst]at l;exact e _ (cV l).symm z
 obtain⟨j,v⟩:=nO z;obtain⟨y,_,x,f⟩:=m.all.sm v;rw[h]at f;exact w _ _ _ (cV f)
def FD:HO.ins b c (iF k v q m u)≠HO.ins C a (gg g):=by
 intro z;injection z with _ _ d
 have e:=EX k v q m u;rw[d,nG g (by decide +kernel)]at e;cases e
section
def NatsAt.moveG(m:MvG B H H')(h:NatsAt B H p q):NatsAt B H' p q:=⟨h.1,m _ _ h.2 (λ_ _=>h.1) (λ_ _ _ _ z=>by cases z) (λ_ _ _ z=>by cases z)⟩
def NameAt.moveG(m:MvG B H H')(h:NameAt H p n):NameAt H' p n:=m _ _ h (λ_ z=>by cases z) (λ_ _ _ _ z=>by cases z) (λ_ _ _ z=>by cases z)
def ItemAt.moveG(m:MvG B H H'):∀{x:Item},ItemAt a B H p x->ItemAt a B H' p x
 | .brk,⟨dx,qa,h1,h2⟩=>⟨dx,qa,m _ _ h1 (λ_ z=>by cases z) (λ_ _ _ _=>wN) (λ_ _ _=>FD),h2.moveG m⟩
 | .sgn _,⟨dx,t,qa,h1,h2,h3⟩=>⟨dx,t,qa,m _ _ h1 (λ_ z=>by cases z) (λ_ _ _ _=>wN) (λ_ _ _=>FD),h2.moveG m,h3.moveG m⟩
 | .gap _ _,⟨dx,qa,h1,h2⟩=>⟨dx,qa,m _ _ h1 (λ_ z=>by cases z) (λ_ _ _ _=>wN) (λ_ _ _=>FD),h2.moveG m⟩
end
inductive aCs(K:PySem.W.Frag)(C CG CI:Addr)(vs:List V)(H:Hp)(Q:VK)(E:XK):Prop
 |mk (pp c a gl:Addr) (rs:List Addr) (bs r:Gh.Bytes) (B:Addr->Prop) (it:Item) (g:PG) (gs:List PG) (_:vs=[.ref pp,.ref c,.ref gl]) (_:ItemAt CI B H pp it) (_:Cur K C c a bs H r) (_:ND K a gl (bv bs)) (_:GsI CG H gl rs (g::gs)) (_:rs.length<=100000) (_:Bt (g::gs)) (_:(jJ it g gs r=none->∀H':Hp,KG c gl rs H H'->Q (.bl false) H')) (_:∀gs' r',jJ it g gs r=some (gs',r')->∀(H':Hp) (rs':List Addr),Cur K C c a bs H' r'->KG c gl rs H H'->(∀q∈rs',q∈rs\/H q=none)->GsI CG H' gl rs' gs'->Q (.bl true) H')
def aCt:bR P w base 7 T.bx ["piece","cursor","groups"] (aCs K (bI T) (cQ T) (cI T)):=by
 refine aV T.bx.F ["piece","cursor","groups"] λh9 A h8 s H vs Q E nd hr h=> ?_;obtain⟨pp,c,a,u,l,bs,r,B,it,g,gs,rfl,hi,x,nd,hg,hl,hb,v,C⟩:=h;obtain⟨p,l,rfl⟩:=hg.split;refine⟨_,aF (dA (iJ iK (pv 2) (pV pW bQ) (λ_ _=>rfl)) (dH T.X) Z)
  (aF (aY (PW.pt (nR (bT dS (bJ (pv 0) Z) (dH T.J)) (oS (bY (bZ (pv 1) (cZ T) hr (aC (bC T.cz) aD))))))
   (aF (eY (fV fJ gO gP gR (pv 2) (aC (iM (MZ T) hr (aC (dH T.bb) aD)) aD)))
    (aG (aI (aX (Bv T) hr (aC (pv 1) aD))))) bD)
  (aG (aI (aX (aCr T) hr (aC (pv 1) (aC (pv 2) aD)))))),?_⟩
 try dsimp only [aT,aR,Cx.nox]
 obtain⟨dp,hp⟩:=hg.top;unfold jJ at v C;refine⟨_,Z,1,Z,u,_,_,_,Z,Z,SqL.of hg.lst,hg.last,p,_,dp,_,Z,hp,T.b.cl,T.G,sI g,?_⟩;have D:aL "unit" (V.str "bare") (gg g)=gg ⟨g.au,.one⟩:=MT g .one;rw[D];have L:=hg.put (dp:=dp) (g':=⟨g.au,.one⟩);have x1:=x.putG (o:= .ins (cQ T) dp (gg ⟨g.au,.one⟩)) hp;have k1:KG c u (p::l) H (aE H p (.ins (cQ T) dp (gg ⟨g.au,.one⟩))):=(KG.refl _ _ _ _).putG (cF ..);obtain⟨U,vi,qi,mi,ui,ei⟩:=hi.as;have h0:(aE H p (.ins (cQ T) dp (gg ⟨g.au,.one⟩))) pp=some (.ins (cI T) U (iF (uI it) vi (.ref qi) mi ui)):=by rw[bB (bM ei hp FD)];exact ei
 have h1:∀q,(aE H p (.ins (cQ T) dp (gg ⟨g.au,.one⟩))) q=none->H q=none:=λq f=>by
  by_cases z:q=p;·rw[z,aH]at f;cases f
  rw[bB z]at f;exact f
 generalize aE H p (.ins (cQ T) dp (gg ⟨g.au,.one⟩))=H1 at L x1 k1 h0 h1;refine⟨_,Z,pp,_,U,_,_,Z,h0,T.d.cl,T.r,qP _ _ _ _ _,Z,_,Z,?_⟩;rw[zK];cases es:sA it with
 |true=>
  obtain⟨dx,i,hc,_,_⟩:=x1.ex;refine aN ⟨_,Z,c,dx,_,Z,hc,bW a i cT cU,c,a,bs,r,91,Z,x1,λH2 x2 k2=>⟨_,Z,?_⟩⟩;have m:=L.keep k2 hc;have M:=k1.trans (KG.keep k2);have h4:∀q,H2 q=none->H q=none:=λq f=>h1 q (k2.free x2.has f)
  by_cases t:(tk 91 r).1=true
  ·rw[aB ⟨es,t⟩]at v;simp only [aB (⟨es,t⟩:sA it=true/\(tk 91 r).1=true)]at C;refine bK t ⟨_,Z,.inl ⟨Z,_,SqL.of m.lst⟩,?_⟩;intro y dy ny h7 ne;refine⟨y,dy,.nest,Z,aH,λk h3 n=>⟨Z,?_⟩⟩;have s3:Same H2 k:=Same.made ny h7 n;have e:=m.same s3;have x3:=x2.same s3;have h6:y∉p::l:=λz=>by
    obtain⟨j,hj⟩:=nO z;obtain⟨w0,_,dw,ew⟩:=m.all.sm hj;rw[ny]at ew;cases ew
   refine⟨u,_,_,Z,Z,e.lst,?_,?_⟩;·rw[aO,mJ];exact dG hl (by decide)
   have h2:=e.push h3 h6;have x4:=x3.putL (ys:=(p::l).reverse.map V.ref++[V.ref y]) nd e.lst;have N:KG c u (p::l) H (aE k u (.lst ((p::l).reverse.map V.ref++[V.ref y]))):=(M.trans (KG.of s3)).putL;generalize aE k u (.lst ((p::l).reverse.map V.ref++[V.ref y]))=H4 at h2 x4 N;obtain⟨e0,i4,h5,_,_⟩:=x4.ex;refine⟨_,Z,c,a,bs,_,Z,x4,λW H5 k5=> ?_,λr5 Y H5 x5 k5=> ?_⟩;·rw[W]at v;exact v rfl H5 (N.trans (KG.keep k5))
   rw[Y]at C;refine C _ _ rfl H5 (y::p::l) x5 (N.trans (KG.keep k5)) (λq f=> ?_) (h2.keep k5 h5);rcases al_18.mp f with rfl|f
   ·exact .inr (h4 _ ny)
   exact .inl f
  have en:¬(sA it=true/\(tk 91 r).1=true):=λz=>t z.2;rw[aA en]at v;simp only [aA en]at C;rw[fO t]at x2;exact bG (al_12.mpr t) ⟨_,Z,_,Z,c,a,u,p::l,bs,r,_,Z,x2,nd,m,hb.unit .one,λW k n=>v W k (M.trans n),λI r' Y k O x3 n sub e=>C I r' Y k O x3 (M.trans n) (λq f=> .inl (sub q f)) e⟩
 |false=>
  have en:¬(sA it=true/\(tk 91 r).1=true):=λz=>by rw[es]at z;cases z.1
  rw[aA en]at v;simp only [aA en]at C;exact aQ (aQ ⟨_,Z,_,Z,c,a,u,p::l,bs,r,_,Z,x1,nd,L,hb.unit .one,λW k n=>v W k (k1.trans n),λI r' Y k O x3 n sub e=>C I r' Y k O x3 (k1.trans n) (λq f=> .inl (sub q f)) e⟩)
def FE(h:(tk k r).1=true):(tk k r).2.length+1=r.length:=by
 cases r with
 |nil=>cases h
 |cons c v=>
  rw[cR]at h ⊢;by_cases e:c=k;·rw[aB e];rfl
  rw[aA e]at h;cases h
def Bx(r:Gh.Bytes):(uG r).length<=r.length:=by
 unfold uG;split;·exact cS _ _
 exact cS _ _
def NE(h:jQ r=some a):a.length<=r.length:=by
 unfold jQ at h;split at h;·cases h;exact aZ (Bx _) (cS _ _)
 split at h;·cases h;exact aZ (Bx _) (cS _ _)
 split at h;·cases h;exact cS _ _
 split at h;·cases h;exact cS _ _
 split at h;·cases h;exact cS _ _
 cases h
def aCu{g:PG}{a:List PG}{r:Gh.Bytes}{x:List PG×Gh.Bytes}(h:nH g a r=some x):x.1.length<=a.length/\x.2.length<=r.length:=by
 unfold nH at h;split at h;·cases h
 split at h;·cases h
 ·split at h;·cases h;exact⟨aK _,cS _ _⟩
  cases h
 ·split at h;·cases h;exact⟨aK _,cS _ _⟩
  cases h
 cases h;exact⟨aK _,aK _⟩
def By:∀(n:Nat) (c:List PG) (g:PG) (r:Gh.Bytes) (x:List PG×Gh.Bytes),c.length<n->jR g c r=some x->x.1.length<=c.length+1/\x.2.length<=r.length:=by
 intro n;induction n with
 |zero=>intro _ _ _ _ h;exact absurd h (uW _)
 |succ n ih=>
  intro c g r x d h;rw[Bw]at h;split at h;·cases h;exact⟨aK _,cS _ _⟩
  split at h
  ·split at h;·cases h;exact⟨aK _,cS _ _⟩
   cases h
  split at h
  ·split at h;·cases h;exact⟨aK _,cS _ _⟩
   cases h
  split at h
  ·split at h;·obtain⟨f,e,rfl⟩:=Option.map_eq_some_iff.mp h;exact⟨aK _,aZ (NE e) (cS _ _)⟩
   cases h
  obtain⟨⟨l,s⟩,e,h⟩:=Option.bind_eq_some_iff.mp h;obtain⟨a,b⟩:=aCu e;cases l with
  |nil=>cases h;exact⟨bH _,b⟩
  |cons g' gs'=>
   obtain⟨u,v⟩:=ih gs' g' s x (gJ a (Nat.le_of_lt_succ d)) h;exact⟨aZ u (AR a),aZ v b⟩
def aCv(h:jJ c g b r=some x):x.1.length+x.2.length<=b.length+1+r.length:=by
 unfold jJ at h;split at h
 ·rename_i e;cases a:jQ (tk 91 r).2 with
  |none=>rw[a]at h;cases h
  |some r'=>
   rw[a]at h;cases h;have:=NE a;have:=FE e.2;simp;lia
 exact(By _ _ _ _ _ (hU _) h).elim Nat.add_le_add
def NF:∀(a:List Nat) (r:Gh.Bytes),(dU a r).2.length<=r.length
 | [],r=>aK _
 |k::a,r=>by
  unfold dU;split;·exact aZ (NF a _) (cS _ _)
  exact NF a r
def FF(h:iZ r=some x):x.2.length<=r.length:=by
 unfold iZ at h;split at h
 ·split at h;·cases h
  cases h;exact aZ (NF _ _) (cS _ _)
 cases h;exact aK _
def aCw(h:gU r=some x):x.2.length<=r.length:=by
 unfold gU at h;split at h
 ·unfold rZ at h;split at h;·cases h
  cases e:iZ (number (tk 95 r).2).2 with
  |none=>rw[e]at h;cases h
  |some y=>
   rw[e]at h;cases h;have b:=FF e;have j:=cS 95 r;obtain⟨k,q,f,_,_,_,i,_⟩:=rM (tk 95 r).2;rw[f]at b;have c:=bS List.length i;rw[bF]at c;show y.2.length<=_;dsimp only at b;lia
 cases e:lX r with
 |none=>rw[e]at h;cases h
 |some y=>
  rw[e]at h;cases h;unfold lX at e;have d:=CN r;generalize cJ r=X at e d;obtain⟨o,q⟩:=X;cases o with
  |none=>cases e
  |some n=>
   dsimp only at e d;cases a:iZ (tk 126 q).2 with
   |none=>rw[a]at e;cases e
   |some z=>
    rw[a]at e;cases e;have b:=FF a;have j:=cS 126 q;have c:=cS 63 z.2;show(tk 63 z.2).2.length<=_;lia
def KG.toKeep(a:Keep c H d)(b:KG c h i d f)(j:H h=none)(k:∀q∈i,H q=none):Keep c H f:=λx o e n=>b x o (a x o e n) n (cH e j) (λz=>by rw[k x z]at e;cases e)
inductive FG(K:PySem.W.Frag)(C CI:Addr)(f:Gh.Bytes->Option (List Item×Gh.Bytes))(vs:List V)(H:Hp)(Q:VK)(E:XK):Prop
 |mk (c a:Addr) (bs r:Gh.Bytes) (_:vs=[.ref c]) (_:Cur K C c a bs H r) (_:r.length<=70000) (_:(f r=none->∀H':Hp,Keep c H H'->Q .non H')) (_:∀its r',f r=some (its,r')->∀(H':Hp) (z:Addr),Cur K C c a bs H' r'->Keep c H H'->H z=none->ListAt (ItemAt CI (λt=>t≠z/\H t=none)) H' z its->Q (.ref z) H')
def FH(b:List Item)(a:List PG)(r:Gh.Bytes):iE 0 b a r=none:=by unfold iE;cases gU (dW a r).2 with|none=>rfl|some x=>cases(dW a r).1<;>rfl
def FI(n:Nat)(a:List Item)(e:List PG)(r:Gh.Bytes)(d:PG)(b:List PG)(c:Gh.Bytes)(h:dW e r=(d::b,c)):iE (n+1) a e r=match gU c with
  |none=>none
  |some (it,r2)=>match jJ it d b r2 with
   |none=>none
   |some ([],r3)=>some (a++[it],r3)
   |some (f::gs2,r3)=>iE n (a++[it]) (f::gs2) r3:=by
 conv=>lhs;unfold iE
 rw[h];cases gU c<;>rfl
structure BI(K:PySem.W.Frag)(C CG CI c a pl gl:Addr)(bs r0:Gh.Bytes)(H0 H:Hp)(ps rs:List Addr)(its:List Item)(gs:List PG)(r:Gh.Bytes):Prop where
 cur:Cur K C c a bs H r
 nd:ND K a gl (bv bs)
 pcs:H pl=some (.lst (ps.map V.ref))
 npg:pl≠gl
 all:All2 (ItemAt CI (λt=>t≠pl/\t≠gl/\H0 t=none) H) ps its
 grp:GsI CG H gl rs gs
 bt:Bt gs
 kp:Keep c H0 H
 hl:H0 gl=none
 hp:H0 pl=none
 hr:∀q∈rs,H0 q=none
 len:gs.length+r.length<=r0.length+1
inductive Bz(K:PySem.W.Frag)(C CG CI c a pl gl:Addr)(bs r0:Gh.Bytes)(H:Hp)(m:Nat)(σ:L2.St)(H':Hp):Prop
 |mk (ps rs:List Addr) (its:List Item) (gs:List PG) (r:Gh.Bytes) (v:Option V) (n:Nat) (_:σ= [some (.ref c),some (.ref pl),some (.ref gl),v]) (_:its.length+n=64) (_:(if gs=[]then 0 else n+1)<=m) (_:BI K C CG CI c a pl gl bs r0 H H' ps rs its gs r) (_:if gs=[]then lY r0=some (its,r)else iE n its gs r=lY r0)
inductive Ca(K:PySem.W.Frag)(C CG CI c a pl gl:Addr)(bs r0:Gh.Bytes)(H:Hp)(ps:List Addr)(its:List Item)(y:List PG×Gh.Bytes)(v:Option V)(m:Nat)(σ:L2.St)(H':Hp):Prop
 |mk (rs:List Addr) (gs:List PG) (r:Gh.Bytes) (_:σ= [some (.ref c),some (.ref pl),some (.ref gl),v]) (_:r.length<=m) (_:gs≠[]) (_:BI K C CG CI c a pl gl bs r0 H H' ps rs its gs r) (_:dW gs r=y)
def Cb:bR P w base 9 T.L ["cursor"] (FG K (bI T) (cI T) lY):=by
 refine aV T.L.F ["cursor","pieces","groups","piece"] λu0 A z7 s H vs Q E nd hr h=> ?_;obtain⟨c,a,bs,W,rfl,x0,u3,q0,q1⟩:=h;refine⟨_,aF (bA 1 (cE aD))
  (aF (bA 2 (cE (aC (iM (MZ T) hr (aC (dH T.bm) aD)) aD)))
  (aF (lP dR (bT (wH (wM hr)) (pv 2) (cE aD))
   (aF (lP dR (bY (bZ (pv 0) (cZ T) hr (aC (bC T.dd) aD)))
    (aG (eY (fV fJ gO gP gR (pv 2) (aC (iM (MZ T) hr (aC (dH T.bc) aD)) aD)))))
   (aF (bA 3 (aX (aBS T) hr (aC (pv 0) aD)))
   (aF (aY (PW.pt (jE (fK (fT (pv 3))) (kU (bT dS (fU gD (by rfl) T.i gC (aC (pv 1) aD)) (bC T.cT))))) (aG (aI dC)) bD)
   (aF (eY (fV fJ gO gP gR (pv 1) (aC (pv 3) aD)))
   (aG (aY (iI (bY (aX (aCt T) hr (aC (pv 3) (aC (pv 0) (aC (pv 2) aD)))))) (aG (aI dC)) bD)))))))
  (aG (aI (pv 1))))),?_⟩
 try dsimp only [aT,aR,Cx.nox]
 refine⟨bH _,λpl y0=> ?_⟩;have s1:Same H (aE H pl (.lst [])):=Same.new y0;intro y dy ny z5 ne;refine⟨y,dy,.block,Z,aH,λH1 h1 k1=>⟨Z,?_⟩⟩;have s2:Same (aE H pl (.lst [])) H1:=Same.made ny z5 k1;refine⟨by show 1<=sizeLine;decide,λu e4=> ?_⟩;have s3:Same H1 (aE H1 u (.lst [V.ref y])):=Same.new e4;have y1:=s1.trans s2;have y2:=y1.trans s3;have h7:H1 pl=some (.lst []):=s2 _ _ aH;have h5:H u=none:=y1.free e4;have B0:BI K (bI T) (cQ T) (cI T) c a pl u bs W H (aE H1 u (.lst [V.ref y])) [] [y] [] [iQ .block] W:=
  ⟨x0.same y2,ND.of x0.seq h5,s3 _ _ h7,cH h7 e4,.nil,⟨aH,.cons ⟨dy,s3 _ _ h1⟩ .nil,al_83.mpr ⟨by simp,List.nodup_nil⟩⟩,⟨⟨λ_=>rfl,λ_=>rfl⟩,λz=>(by cases z),trivial⟩,.of y2,h5,y0,λq hq=>by rw[al_56.mp hq];exact s1.free ny,by show 1+_<=_;lia⟩
 generalize aE H1 u (.lst [V.ref y])=H3 at B0;refine⟨Bz K (bI T) (cQ T) (cI T) c a pl u bs W H,
  ⟨65,[],[y],[],[iQ .block],W,none,64,Z,Z,aK _,B0,Z⟩,?_⟩
 rintro m σ H4 ⟨ps,rs,l,gs,r,v,n,rfl,hn,hm,B,hE⟩;refine⟨_,Z,bH _,λel x3=>⟨u,el,_,Z,Z,SqL.of (Same.new x3 _ _ B.grp.lst),SqL.of aH,_,Z,?_⟩⟩;have s4:Same H4 (aE H4 el (.lst [])):=Same.new x3;have X:BI K (bI T) (cQ T) (cI T) c a pl u bs W H (aE H4 el (.lst [])) ps rs l gs r:=⟨B.cur.same s4,B.nd,s4 _ _ B.pcs,B.npg,B.all.mono λ_ _ h=>h.move (.same s4),B.grp.same s4,B.bt,B.kp.trans (.of s4),B.hl,B.hp,B.hr,B.len⟩;generalize aE H4 el (HO.lst [])=H5 at X;cases gs with
 |nil=>
  have e0:rs=[]:=lM X.grp.all.len;subst e0;rw[aB rfl]at hE;refine aQ ⟨_,Z,?_⟩;exact q1 l r hE H5 pl X.cur X.kp X.hp ⟨ps,X.pcs,X.all.mono λ_ _ h=>h.imp λt z=>⟨z.1,z.2.2⟩⟩
 |cons g gs=>
  rw[aA (by intro z;cases z)]at hE hm;obtain⟨p,rs,rfl⟩:=X.grp.split;have e0:((p::rs).reverse.map V.ref).isEmpty=false:=by rw[oO,dN];cases(rs.reverse.map V.ref)<;>rfl
  refine bK (bS not e0) ⟨Bz K (bI T) (cQ T) (cI T) c a pl u bs W H n,λz9 H' h=>⟨n,hm,h⟩,?_⟩;refine⟨Ca K (bI T) (cQ T) (cI T) c a pl u bs W H ps l (dW (g::gs) r) v,
   ⟨r.length,p::rs,g::gs,r,Z,aK _,(by intro z;cases z),X,Z⟩,?_⟩
  rintro m2 σ H6 ⟨G,f,O,rfl,u6,h6,I,hP⟩;obtain⟨y4,i6,Y,_,_⟩:=I.cur.ex;refine⟨_,Z,c,y4,_,Z,Y,bW a i6 cT cU,c,a,bs,O,40,Z,I.cur,λH7 x7 k7=>⟨_,Z,?_⟩⟩;have d:BI K (bI T) (cQ T) (cI T) c a pl u bs W H H7 ps G l f (tk 40 O).2:=⟨x7,I.nd,k7 _ _ I.pcs (bM I.pcs Y (by intro z;cases z)),I.npg,I.all.mono λ_ _ h=>h.move (.keep k7 Y),I.grp.keep k7 Y,I.bt,I.kp.trans k7,I.hl,I.hp,I.hr,aZ (Nat.add_le_add_left (cS _ _) _) I.len⟩;by_cases t:(tk 40 O).1=true
  ·have u5:=FE t;refine bK t ⟨Ca K (bI T) (cQ T) (cI T) c a pl u bs W H ps l (dW (g::gs) r) v (tk 40 O).2.length,λz9 H' h=>⟨_,by lia,h⟩,?_⟩;refine⟨_,Z,.inl ⟨Z,_,SqL.of d.grp.lst⟩,?_⟩;intro z dz nz z6 u7;refine⟨z,dz,.paren,Z,aH,λx h8 k8=>⟨Z,?_⟩⟩;have s8:Same H7 x:=Same.made nz z6 k8;have z3:z∉G:=λy=>by
    obtain⟨j,hj⟩:=nO y;obtain⟨w0,_,dw,ew⟩:=d.grp.all.sm hj;rw[nz]at ew;cases ew
   have D:=d.grp.same s8;have z2:G.length=f.length:=D.all.len;have x6:=I.len;refine⟨u,_,_,Z,Z,D.lst,?_,?_⟩;·rw[aO,mJ];exact dG (show G.length<=100000 by lia) (by decide)
   refine⟨z::G,iQ .paren::f,(tk 40 O).2,Z,aK _,(by intro y;cases y),?_,?_⟩
   ·have y8:=d.kp.free x7.has nz;refine⟨(x7.same s8).putL d.nd D.lst,d.nd,by rw[bB d.npg];exact s8 _ _ d.pcs,d.npg,d.all.mono λ_ _ h=> ?_,D.push h8 z3,⟨⟨λy=>(by cases y),λy=>absurd y h6⟩,λy=>(by cases y),d.bt⟩,(d.kp.trans (.of s8)).put (.inr d.hl),d.hl,d.hp,λq hq=> ?_,?_⟩;·have h2:=h.move (H':=x) (.same s8);have m8:Mv (λt=>t≠u) x (aE x u (.lst (G.reverse.map V.ref++[V.ref z]))):=Mv.put D.lst;exact h2.move (λb o e1 e2 e3=>m8 b o e1 (λxs ex=>(e2 xs ex).2.1) e3)
    ·rcases al_18.mp hq with rfl|hq;·exact y8
     exact d.hr q hq
    show f.length+1+_<=_;lia
   rw[<- hP];cases O with
   |nil=>cases t
   |cons c0 v0=>
    rw[cR]at t ⊢;by_cases e:c0=40
    ·rw[aB e];show dW (iQ .paren::f) v0=dW f (c0::v0)
     conv=>rhs;unfold dW
     rw[aB e]
    rw[aA e]at t;cases t
  rw[fO t]at d x7;have e9:dW (g::gs) r=(f,O):=by
   rw[<- hP];cases O with
   |nil=>rfl
   |cons c0 v0=>
    unfold dW;rw[aA];intro e;rw[cR,aB e]at t;exact t rfl
  refine bG (al_12.mpr t) ?_;obtain⟨u1,i7,h0,_,_⟩:=x7.ex;obtain⟨U,f,rfl⟩:∃U e7,f=U::e7:=by cases f with|nil=>exact absurd rfl h6|cons U f=>exact⟨U,f,Z⟩
  refine⟨_,Z,c,a,bs,O,Z,x7,λeN x k8=> ?_,λit r8 eS x M x8 k8 z0=> ?_⟩
  ·have y6:lY W=none:=by
    rw[<- hE];cases n with|zero=>exact FH _ _ _|succ n=>rw[FI n l _ r U f O e9,eN]
   exact⟨_,Z,_,Z,aN (aN (q0 y6 x (d.kp.trans k8)))⟩
  refine⟨_,Z,_,Z,aQ ?_⟩;have C:x pl=some (.lst (ps.map V.ref)):=k8 _ _ d.pcs (bM d.pcs h0 (by intro z;cases z));have D:=d.grp.keep k8 h0;have e6:=d.kp.trans k8;have J:All2 (ItemAt (cI T) (λt=>t≠pl/\t≠u/\H t=none) x) ps l:=d.all.mono λ_ _ h=>h.move (.keep k8 h0);have x4:ItemAt (cI T) (λt=>t≠pl/\t≠u/\H t=none) x M it:=z0.imp λt ht=>⟨λz=>(by rw[z,d.pcs]at ht;cases ht),λz=>(by rw[z,d.grp.lst]at ht;cases ht),d.kp.free ⟨_,h0⟩ ht⟩;refine⟨_,Z,pl,_,Z,.inl (SqL.of C),Z,_,Z,?_⟩;have y5:decide (V.int (((ps.map V.ref).length:Nat):Int)=V.int 64)=decide (l.length=64):=by rw[aO,J.len];exact qM (k:=64)
  rw[y5];by_cases h64:l.length=64
  ·rw[bP h64];have:n=0:=by lia
   subst this;exact aN (q0 (hE.symm.trans (FH _ _ _)) x e6)
  obtain⟨n',rfl⟩:∃n',n=n'+1:=⟨n-1,by lia⟩;rw[FI n' l _ r U f O e9,eS]at hE;dsimp only at hE;have e5:(ps.map V.ref).length<sizeLine:=lF (by rw[aO,J.len];lia);refine bG (bN h64) ⟨_,Z,.inl ⟨Z,_,SqL.of C⟩,_,Z,pl,_,_,Z,Z,C,e5,?_⟩;have m9:Mv (λt=>t≠pl) x (aE x pl (.lst (ps.map V.ref++[V.ref M]))):=Mv.put C;have z4:Mv (λt=>t≠pl/\t≠u/\H t=none) x (aE x pl (.lst (ps.map V.ref++[V.ref M]))):=λb o e1 e2 e3=>m9 b o e1 (λxs ex=>(e2 xs ex).1) e3;have N:All2 (ItemAt (cI T) (λt=>t≠pl/\t≠u/\H t=none) (aE x pl (.lst (ps.map V.ref++[V.ref M])))) (ps++[M]) (l++[it]):=(J.snoc x4).mono λ_ _ h=>h.move z4;have h3:GsI (cQ T) (aE x pl (.lst (ps.map V.ref++[V.ref M]))) u G (U::f):=⟨by rw[bB (dJ d.npg)];exact D.lst,D.all.mono λ_ _ ⟨dq,e⟩=>⟨dq,by rw[bB (bM e C (by intro z;cases z))];exact e⟩,D.nd⟩;have x9:=x0.write x8 e6 d.hp C (o:= .lst (ps.map V.ref++[V.ref M]));have h4:Keep c H (aE x pl (.lst (ps.map V.ref++[V.ref M]))):=e6.put (.inr d.hp);have h9:(aE x pl (.lst (ps.map V.ref++[V.ref M]))) pl=some (.lst ((ps++[M]).map V.ref)):=by rw[aH,dN];rfl
  have x5:=N.at_ ps.length M it (by rw[iT (aK _),nN];rfl) (by rw[J.len,iT (aK _),nN];rfl);generalize aE x pl (.lst (ps.map V.ref++[V.ref M]))=H9 at N h3 x9 h4 h9 x5;have z1:=aCw eS;dsimp only at z1;have x6:=I.len;have z2:G.length=(U::f).length:=h3.all.len;obtain⟨u2,i9,x2,_,_⟩:=x9.ex;refine⟨_,Z,_,Z,_,Z,M,c,a,u,G,bs,r8,_,it,U,f,Z,x5,x9,d.nd,h3,by lia,d.bt,λeN HA kA=>⟨_,Z,?_⟩,λe8 rA eA HA z8 xA kA y3 y9=>⟨_,Z,?_⟩⟩;·rw[eN]at hE;exact aN (q0 hE.symm HA (KG.toKeep h4 kA d.hl d.hr))
  rw[eA]at hE;have mA:MvG (λt=>t≠u) H9 HA:=kA.mv x2 h3;have y7:=aCv eA;have x1:=WS d.bt eA;dsimp only at y7 x1;have u4:(U::f).length=f.length+1:=rfl;refine aQ ⟨ps++[M],z8,l++[it],e8,rA,_,n',Z,by rw[bF,dB];lia,by split<;>lia,⟨xA,d.nd,?_,d.npg,?_,y9,x1,KG.toKeep h4 kA d.hl d.hr,d.hl,d.hp,λq hq=> ?_,by lia⟩,?_⟩;·exact mA _ _ h9 (λ_ _=>d.npg) (λ_ _ _ _ z=>by cases z) (λ_ _ _ z=>by cases z)
  ·exact N.mono λ_ _ h=>h.moveG (mA.imp λt ht=>ht.2.1)
  ·rcases y3 q hq with h|h;·exact d.hr q h
   exact h4.free ⟨_,x2⟩ h
  cases e8 with
  |nil=>
   rw[aB rfl];exact hE.symm
  |cons g2 gs2=>
   rw[aA (by intro z;cases z)];exact hE
end
section
def aCx(i:Nat)(f:Addr)(sp:Sp)(a:List V)(E:XK)(t:TA):TE:=λσ H Q=>rE i σ H λv b=>v= .ref f/\t σ b λvs c=>sp (vs++a) c Q E
def aCy(F:kX X.prog X.w X.K X.mg X.base CX k f fd ps sp)(z:Room k X.A)(B:PE X (.Name x p) (rE i))(v:PySem.W.keepIn X.K (.ref f)=true)(m:Binds X.K fd ps ds)(n:Vals dvs ds)(C:pX CX X E)
  (l:PA X (e::es) t) (o:starEach (e::es) X.env=(false,eval e X.env)::starEach es X.env:=by rfl) (a:(backTo pos (starEach es X.env)).any (·.1)=false:=by rfl):
  PE X (.Call (.Name x p) (e::es) [] pos) (aCx i f sp dvs E t):=by
 intro pins s σ H Q I h;refine uP (thn (B pins s σ H _ I h) λu J ⟨y,d,b,G,j,D⟩=> ?_);subst j;cases G;refine AC (h₀:=X.base) b.ok.mod.kin v (thn (l pos pins J σ d _ b D) λus M ⟨vs,L,c,r,q⟩=>⟨c.kIn,?_⟩) o a;exact xU F z m n C c r q
end
section
variable{P:Program}{w:World}{K:PySem.W.Frag}{mg:Str->Option Value}{base:Heap}(T:Txt K mg)
def wR(f:Gh.Bytes->Option (List Item×Gh.Bytes)):Prop:=∀r a b,f r=some (a,b)->a.length+b.length<=r.length
def aCz(h:(tp q r).1≠0):(tp q r).2.length+1=r.length:=by
 cases r with
 |nil=>exact absurd rfl h
 |cons c v=>
  rw[nW]at h ⊢;by_cases e:q c=true;·rw[aB e];rfl
  rw[aA e]at h;exact absurd rfl h
def aCA(h:cJ r=(some n,q)):q.length+1<=r.length:=by
 unfold cJ iA at h;by_cases e:(tp Gh.isBig r).1=0;·rw[aB e]at h;cases h
 rw[aA e]at h;dsimp only at h;unfold cN at h;have f:=aCz e;have i:=nX Gh.isSmall (tp Gh.isBig r).2;obtain⟨d,u,a,_,_,_,b,_⟩:=rM (tp Gh.isSmall (tp Gh.isBig r).2).2;rw[a]at h;have c:=bS List.length b;rw[bF]at c;dsimp only at h;split at h;·cases h
 cases h;have j:=nX Gh.isSmall u;lia
def aCB(h:gU r=some (j,q)):q.length+1<=r.length:=by
 unfold gU at h;by_cases t:(tk 95 r).1=true
 ·rw[aB t]at h;have l:=FE t;unfold rZ at h;split at h;·cases h
  cases e:iZ (number (tk 95 r).2).2 with
  |none=>rw[e]at h;cases h
  |some y=>
   rw[e]at h;cases h;have b:=FF e;obtain⟨k,u,f,_,_,_,i,_⟩:=rM (tk 95 r).2;rw[f]at b;have d:=bS List.length i;rw[bF]at d;dsimp only at b ⊢;lia
 rw[aA t]at h;cases e:lX r with
 |none=>rw[e]at h;cases h
 |some y=>
  rw[e]at h;cases h;unfold lX at e;cases c:cJ r with
  |mk o u=>
   rw[c]at e;cases o with
   |none=>cases e
   |some n=>
    have p:=aCA c;dsimp only at e;cases a:iZ (tk 126 u).2 with
    |none=>rw[a]at e;cases e
    |some z=>
     rw[a]at e;cases e;have b:=FF a;have m:=cS 126 u;have d:=cS 63 z.2;dsimp only;lia
def aCC(h:jJ c g b r=some x):x.2.length<=r.length:=by
 unfold jJ at h;split at h;·cases a:jQ (tk 91 r).2 with|none=>rw[a]at h;cases h|some r'=>rw[a]at h;cases h;exact aZ (NE a) (cS _ _)
 exact(By _ _ _ _ _ (hU _) h).2
def aCD(r:Gh.Bytes):∀(a:List PG),(dW a r).2.length<=r.length:=by
 induction r with
 |nil=>intro a;exact aK _
 |cons c r ih=>
  intro a;unfold dW;by_cases e:c=40;·rw[aB e];exact AR (ih _)
  rw[aA e];exact aK _
def aCE:∀(n:Nat) (acc:List Item) (b:List PG) (r:Gh.Bytes) (a:List Item) (c:Gh.Bytes),iE n acc b r=some (a,c)->a.length+c.length<=acc.length+r.length:=by
 intro n;induction n with
 |zero=>intro acc b r a c h;rw[FH]at h;cases h
 |succ n ih=>
  intro acc b r a c h;have j:=aCD r b;cases f:dW b r with
  |mk gs1 r1=>
   rw[f]at j;dsimp only at j;cases gs1 with
   |nil=>
    unfold iE at h;rw[f]at h;cases e:gU r1 with|none=>rw[e]at h;cases h|some x=>rw[e]at h;cases h
   |cons g1 gs1=>
    rw[FI n acc b r g1 gs1 r1 f]at h;cases e:gU r1 with
    |none=>rw[e]at h;cases h
    |some x=>
     obtain⟨m,o⟩:=x;have p:=aCB e;rw[e]at h;dsimp only at h;cases d:jJ m g1 gs1 o with
     |none=>rw[d]at h;cases h
     |some y=>
      obtain⟨i,q⟩:=y;have k:=aCC d;dsimp only at k;rw[d]at h;cases i with
      |nil=>cases h;rw[bF,dB];lia
      |cons g2 gs2=>
       have l:=ih _ _ _ _ _ h;rw[bF,dB]at l;lia
def NG:wR lY:=λr a b h=>by have:=aCE _ _ _ _ _ _ h;simpa using this
def Cc(j:wR f)(e:UInt8):∀(n:Nat) (acc:List Item) (r:Gh.Bytes) (a:List Item) (b:Gh.Bytes),jS f e n acc r=some (a,b)->a.length+b.length<=acc.length+r.length:=by
 intro n;induction n with
 |zero=>intro acc r a b h;cases h
 |succ n ih=>
  intro acc r a b h;unfold jS at h;cases c:f r with
  |none=>rw[c]at h;cases h
  |some x=>
   obtain⟨x,d⟩:=x;have k:=j _ _ _ c;rw[c]at h;dsimp only at h;split at h;·cases h;have:=cS e d;rw[bF];lia
   split at h
   ·have i:=ih _ _ _ _ h;have:=cS 32 d;rw[bF]at i;lia
   cases h
def aCF:wR qL:=λr a d h=>by
 unfold qL at h;split at h
 ·rename_i t;have:=FE t;split at h
  ·split at h
   ·cases h;have b:=cS 46 (tk 46 r).2;have c:=cS 46 (tk 46 (tk 46 r).2).2;show 1+_<=_;lia
   cases h
  cases h
 cases h
def Cd:wR oC:=λr a b h=>by
 unfold oC at h;split at h
 ·have:=Cc NG 62 16 [] _ _ _ h;have:=cS 60 r;simp at *;lia
 split at h;·exact aCF _ _ _ h
 exact NG _ _ _ h
def Ce:wR oE:=λr a b h=>by have:=Cc Cd 10 64 [] _ _ _ h;simpa using this
def aCG:∀(n:Nat) (acc:List Item) (r:Gh.Bytes) (a:List Item),kM n acc r=some a->a.length<=acc.length+r.length:=by
 intro n;induction n with
 |zero=>
  intro acc r a h;unfold kM at h;cases e:oE r with|none=>rw[e]at h;cases h|some x=>rw[e]at h;cases h
 |succ n ih=>
  intro acc r a h;unfold kM at h;cases e:oE r with
  |none=>rw[e]at h;cases h
  |some x=>
   have b:=Ce _ _ _ e;rw[e]at h;dsimp only at h;split at h;·cases h;rw[bF];lia
   have:=ih _ _ _ h;rw[bF]at this;lia
def aCH(h:lZ b=some a):a.length<=b.length:=by have:=aCG _ _ _ _ h;simpa using this
inductive aCI(K:PySem.W.Frag)(C CI fa:Addr)(f:Gh.Bytes->Option (List Item×Gh.Bytes))(vs:List V)(H:Hp)(Q:VK)(E:XK):Prop
 |mk (c a:Addr) (bs r:Gh.Bytes) (n:Nat) (e:UInt8) (_:vs=[.ref fa,.int ((n:Nat):Int),.int ((e.toNat:Nat):Int),.ref c]) (_:n<=64) (_:Cur K C c a bs H r) (_:r.length<=70000) (_:(jS f e n [] r=none->∀H':Hp,Keep c H H'->Q .non H')) (_:∀its r',jS f e n [] r=some (its,r')->∀(H':Hp) (z:Addr),Cur K C c a bs H' r'->Keep c H H'->H z=none->ListAt (ItemAt CI (λt=>t≠z/\H t=none)) H' z its->Q (.ref z) H')
def All2.app(h:All2 c ps xs)(d:All2 c e ys):All2 c (ps++e) (xs++ys):=by
 refine⟨by rw[bF,bF,h.len,d.len],λi q y a b=> ?_⟩;by_cases hi:i<ps.length;·rw[jZ hi]at a;rw[jZ (h.len▸hi)]at b;exact h.at_ i q y a b
 rw[iT (oM hi)]at a;rw[iT (by rw[<- h.len];exact oM hi)]at b;rw[h.len]at a;exact d.at_ _ q y a b
def Cf(k:Keep c H n)(A:∃o,n c=some o)(p:n a=some (.lst (ps.map V.ref)))(j:d a=some (.lst (ps.map V.ref)))(C:H a=none)
  (y:All2 (ItemAt l (λt=>t≠a/\H t=none) d) ps acc) (hz:ListAt (ItemAt l (λt=>t≠z/\n t=none)) d z f):
  ∃i:List Addr,d z=some (.lst (i.map V.ref))/\i.length=f.length/\All2 (ItemAt l (λt=>t≠a/\H t=none) (aE d a (.lst (ps.map V.ref++i.map V.ref)))) (ps++i) (acc++f):=by
 obtain⟨i,w,r⟩:=hz;refine⟨i,w,r.len,?_⟩;have m:Mv (λt=>t≠a) d (aE d a (.lst (ps.map V.ref++i.map V.ref))):=Mv.put j;have B:Mv (λt=>t≠a/\H t=none) d (aE d a (.lst (ps.map V.ref++i.map V.ref))):=λb o s u v=>m b o s (λxs ex=>(u xs ex).1) v;have x:All2 (ItemAt l (λt=>t≠a/\H t=none) d) i f:=r.mono λ_ _ h=>h.imp λt q=>⟨λe=>(by rw[e,p]at q;cases q.2),k.free A q.2⟩;exact(y.app x).mono λ_ _ h=>h.move B
inductive aCJ(K:W.Frag)(mg:Str->Option Value)(T:Txt K mg)(fa:Addr)(f:Gh.Bytes->Option (List Item×Gh.Bytes))(H:Hp)(c a:Addr)(bs r0:Gh.Bytes)(n:Nat)(e:UInt8)(il:Addr)(i:Nat)(σ:L2.St)(H':Hp):Prop
 |mk (v5 v6:Option V) (ps:List Addr) (acc:List Item) (r:Gh.Bytes) (_:σ= [some (.ref fa),some (.int ((n:Nat):Int)),some (.int ((e.toNat:Nat):Int)),some (.ref c),some (.ref il),v5,v6]) (_:H' il=some (.lst (ps.map V.ref))) (_:All2 (ItemAt (cI T) (λt=>t≠il/\H t=none) H') ps acc) (_:Cur K (bI T) c a bs H' r) (_:Keep c H H') (_:acc.length+r.length<=r0.length) (_:jS f e (n-i) acc r=jS f e n [] r0)
def Cg(F:yC P w K mg base k fa h2 ["cursor"] (FG K (bI T) (cI T) f))(h4:PySem.W.keepIn K (.ref fa)=true)(h3:3<=k)(hf:wR f):
  bR P w base (k+1) T.cb ["read_one","most","end_mark","cursor"] (aCI K (bI T) (cI T) fa f):=by
 refine aV T.cb.F ["read_one","most","end_mark","cursor","items","step","more"] λh9 A h8 s H vs Q E nd hr h=> ?_;obtain⟨c,a,bs,r0,n,e,rfl,hn,x0,e1,q0,q1⟩:=h;have X:Room 3 _:=hr.mono h3;refine⟨_,aF (bA 4 (cE aD))
  (aF (gQ dR Z (vE Z T.u (aC (pv 1) aD)) (dP 5)
   (aF (bA 6 (aCy F.1 hr (pv 0) h4 F.2 .nil vN (aC (pv 3) aD)))
   (aF (aY (fK (fT (pv 6))) (aG (aI dC)) bD)
   (aF (eY (fV fJ GC GD PQ (pv 4) (aC (pv 6) aD)))
   (aF (aY (bY (bZ (pv 3) (cZ T) X (aC (pv 2) aD))) (aG (aI (pv 4))) bD)
   (aG (aY (iI (bY (bZ (pv 3) (cZ T) X (aC (bC T.ag) aD)))) (aG (aI dC)) bD)))))))
  (aG (aI dC))),?_⟩
 try dsimp only [aT,aR,Cx.nox]
 refine⟨bH _,λm p=> ?_⟩;have s1:Same H (aE H m (.lst [])):=Same.new p;refine⟨_,Z,((n:Nat):Int),Z,by lia,by lia,?_⟩;rw[sM];refine vF (lo:=0) (n:=n) (aCJ K mg T fa f H c a bs r0 n e m)
  ⟨none,none,[],[],r0,Z,aH,.nil,x0.same s1,.of s1,by simp,Z⟩ ?_ ?_
 ·rintro i σ H1 hi ⟨v5,v6,ps,acc,r,rfl,j,hA,x1,I,hl,b⟩;obtain⟨e0,i1,B,_,_⟩:=x1.ex;obtain⟨d,hd⟩:∃d,n-i=d+1:=⟨n-i-1,by lia⟩;rw[hd,jS]at b;refine⟨_,Z,Z,_,Z,c,a,bs,r,Z,x1,by lia,λeN y J=> ?_,λG L eS y z x2 J e2 hz=> ?_⟩;·rw[eN]at b;exact⟨_,Z,_,Z,aN (q0 b.symm y (I.trans J))⟩
  rw[eS]at b;dsimp only at b;have h5:=hf _ _ _ eS;have l:y m=some (.lst (ps.map V.ref)):=J _ _ j (bM j B (by intro z;cases z));have M:All2 (ItemAt (cI T) (λt=>t≠m/\H t=none) y) ps acc:=hA.mono λ_ _ h=>h.move (.keep J B);obtain⟨x,h7,h6,N⟩:=Cf I ⟨_,B⟩ j l p M hz;refine⟨_,Z,_,Z,aQ ⟨_,Z,.inl ⟨Z,_,SqL.of l⟩,_,Z,m,z,_,_,Z,Z,l,h7,?_,?_⟩⟩
  ·rw[aO,aO,M.len,h6];exact aZ (show acc.length+G.length<=70000 by lia) (by decide)
  have x3:=x0.write x2 (I.trans J) p l (o:= .lst (ps.map V.ref++x.map V.ref));have k3:Keep c H (aE y m (.lst (ps.map V.ref++x.map V.ref))):=(I.trans J).put (.inr p);have q:(aE y m (.lst (ps.map V.ref++x.map V.ref))) m=some (.lst ((ps++x).map V.ref)):=by rw[aH,dN]
  generalize aE y m (.lst (ps.map V.ref++x.map V.ref))=H3 at N x3 k3 q;obtain⟨h0,i3,C,_,_⟩:=x3.ex;refine⟨_,Z,c,h0,_,Z,C,bW a i3 cT cU,_,Z,c,a,bs,L,e,Z,x3,λH4 x4 Y=>⟨_,Z,?_⟩⟩;have v:H4 m=some (.lst ((ps++x).map V.ref)):=Y _ _ q (bM q C (by intro z;cases z));have O:All2 (ItemAt (cI T) (λt=>t≠m/\H t=none) H4) (ps++x) (acc++G):=N.mono λ_ _ h=>h.move (.keep Y C)
  by_cases t1:(tk e L).1=true;·rw[aB t1]at b;exact bK t1 ⟨_,Z,q1 _ _ b.symm H4 m x4 (k3.trans Y) p ⟨_,v,O⟩⟩
  rw[aA t1]at b;rw[fO t1]at x4;obtain⟨h1,i4,D,_,_⟩:=x4.ex;refine bG (al_12.mpr t1) ⟨_,Z,c,h1,_,Z,D,bW a i4 cT cU,c,a,bs,L,32,Z,x4,λH5 x5 k5=>⟨_,Z,?_⟩⟩;have U:H5 m=some (.lst ((ps++x).map V.ref)):=k5 _ _ v (bM v D (by intro z;cases z));by_cases t2:(tk 32 L).1=true;·rw[aB t2]at b;have:=cS 32 L;refine bG (bS not t2) ⟨_,_,ps++x,acc++G,(tk 32 L).2,Z,U,O.mono λ_ _ h=>h.move (.keep k5 D),x5,(k3.trans Y).trans k5,by rw[bF];lia,?_⟩;rw[show n-(i+1)=d by lia];exact b
  rw[aA t2]at b;exact bK (bS not (al_12.mpr t2)) (q0 b.symm H5 ((k3.trans Y).trans k5))
 rintro σ H1 ⟨v5,v6,ps,acc,r,rfl,j,hA,x1,I,hl,b⟩;rw[nN]at b;exact q0 (b.symm.trans Z) H1 I
def ItemAt.neZ(hz:H z=none):∀{b:Item},ItemAt a B H p b->ItemAt a (λt=>t≠z/\B t) H p b
 | .brk,⟨dx,qa,h1,h2⟩=>⟨dx,qa,h1,⟨cH h2.2 hz,h2.1⟩,h2.2⟩
 | .sgn _,⟨dx,t,qa,h1,h2,h3⟩=>⟨dx,t,qa,h1,h2,⟨cH h3.2 hz,h3.1⟩,h3.2⟩
 | .gap _ _,⟨dx,qa,h1,h2⟩=>⟨dx,qa,h1,⟨cH h2.2 hz,h2.1⟩,h2.2⟩
def aCK:bR P w base 4 T.bL ["cursor"] (FG K (bI T) (cI T) qL):=by
 refine aV T.bL.F ["cursor"] λX A C s H vs Q E nd l h => ?_;obtain⟨c,a,bs,r,rfl,x,h1,d,f⟩:=h;refine⟨_,aF (aY (PW.pt (nR (bY (bZ (pv 0) (cZ T) l (aC (bC T.s) aD))) (nR (bY (bZ (pv 0) (cZ T) l (aC (bC T.s) aD))) (oS (bY (bZ (pv 0) (cZ T) l (aC (bC T.s) aD)))))))
   (aG (aI (cE (aC (Fx (Bi T).1 (l.mono (by decide)) Z T.Y.g T.Y.F.kp (Bi (P:=P) (w:=w) (base:=base) T).2 .nil vN) aD)))) bD)
  (aG (aI dC)),?_⟩
 try dsimp only [aT,aR,Cx.nox]
 unfold qL at d f;obtain⟨dx,i,hc,_,_⟩:=x.ex;refine⟨_,Z,c,dx,_,Z,hc,bW a i cT cU,c,a,bs,r,46,Z,x,λO L B=>⟨_,Z,?_⟩⟩;by_cases j:(tk 46 r).1=true
 ·rw[aB j]at d;simp only [aB j]at f;obtain⟨o,i1,u,_,_⟩:=L.ex;refine bK j ⟨_,Z,c,o,_,Z,u,bW a i1 cT cU,c,a,bs,_,46,Z,L,λU M J=>⟨_,Z,?_⟩⟩;by_cases k:(tk 46 (tk 46 r).2).1=true
  ·rw[aB k]at d;simp only [aB k]at f;obtain⟨q,i2,v,_,_⟩:=M.ex;refine bK k ⟨_,Z,c,q,_,Z,v,bW a i2 cT cU,c,a,bs,_,46,Z,M,λW N k3=>⟨_,Z,?_⟩⟩;have b:=(B.trans J).trans k3;by_cases m:(tk 46 (tk 46 (tk 46 r).2).2).1=true;·simp only [aB m]at f;refine bK m ⟨Z,λn p D h4=>⟨by show 1<=sizeLine;decide,λz hz=> ?_⟩⟩;obtain⟨h0,i3,e,_,_⟩:=N.ex;have G:Same n (aE n z (.lst [V.ref p])):=Same.new hz;have y:H z=none:=b.free ⟨_,e⟩ (D.free hz);refine f _ _ rfl _ z ((N.same D).same G) ((b.trans (.of D)).trans (.of G)) y ⟨[p],aH,All2.nil.snoc ?_⟩;have h5:ItemAt (cI T) (λt=>t≠z/\H t=none) n p .brk:=(h4.neZ hz).imp λt I=>⟨I.1,b.free ⟨_,e⟩ I.2⟩;exact h5.move (.same G)
   rw[aA m]at d;exact bG (al_12.mpr m) (d Z W b)
  rw[aA k]at d;exact bG (al_12.mpr k) (aQ (d Z U (B.trans J)))
 rw[aA j]at d;exact bG (al_12.mpr j) (aQ (d Z O B))
def aCL:bR P w base 11 T.N ["cursor"] (FG K (bI T) (cI T) oC):=by
 refine aV T.N.F ["cursor"] λW A M s H vs Q E nd D h => ?_;obtain⟨c,a,bs,r,rfl,x,C,m,n⟩:=h;refine⟨_,aF (aY (bY (bZ (pv 0) (cZ T) D (aC (bC T.dg) aD)))
   (aG (aI (aX (Cg T (Cb T) T.L.F.kp (by decide) NG) D (aC (sW Z T.L.g (v:= .ref T.L.f) Z) (aC (bC T.cU) (aC (bC T.cI) (aC (pv 0) aD))))))) bD)
  (aF (aY (bT dS (fW (pv 0) (wF T) D) (bC T.s)) (aG (aI (aX (aCK T) D (aC (pv 0) aD)))) bD)
  (aG (aI (aX (Cb T) D (aC (pv 0) aD))))),?_⟩
 try dsimp only [aT,aR,Cx.nox]
 unfold oC at m n;obtain⟨X,i,hc,_,_⟩:=x.ex;refine⟨_,Z,c,X,_,Z,hc,bW a i cT cU,c,a,bs,r,60,Z,x,λO u l=>⟨_,Z,?_⟩⟩;obtain⟨J,i1,o,_,_⟩:=u.ex;have back:∀(d:Hp) (z:Addr) (b:List Item),O z=none->ListAt (ItemAt (cI T) (λt=>t≠z/\O t=none)) d z b->H z=none/\ListAt (ItemAt (cI T) (λt=>t≠z/\H t=none)) d z b:=λd z b hz h=>⟨l.free ⟨_,o⟩ hz,ListAt.imp (rel':=ItemAt (cI T) (λt=>t≠z/\H t=none)) (λ_ _ h=>h.imp λt U=>⟨U.1,l.free ⟨_,o⟩ U.2⟩) h⟩
 by_cases p:(tk 60 r).1=true;·rw[aB p]at m;simp only [aB p]at n;have:=cS 60 r;exact bK p ⟨_,Z,c,a,bs,_,16,62,Z,by decide,u,by lia,λy d j=>m y d (l.trans j),λb G B d z I j e hz=>n b G B d z I (l.trans j) (back d z b e hz).1 (back d z b e hz).2⟩
 rw[aA p]at m;simp only [aA p]at n;rw[fO p]at u;refine bG (al_12.mpr p) ⟨_,Z,c,J,_,Z,o,bW a i1 wD wE,c,a,bs,r,Z,u,Z,_,Z,?_⟩;have Y:decide (V.int (pk r)=V.int 46)=(tk 46 r).1:=YU (k:=46);rw[Y];by_cases q:(tk 46 r).1=true;·rw[aB q]at m;simp only [aB q]at n;exact bK q ⟨_,Z,c,a,bs,r,Z,u,C,λy d j=>m y d (l.trans j),λb G B d z I j e hz=>n b G B d z I (l.trans j) (back d z b e hz).1 (back d z b e hz).2⟩
 rw[aA q]at m;simp only [aA q]at n;exact bG (al_12.mpr q) ⟨_,Z,c,a,bs,r,Z,u,C,λy d j=>m y d (l.trans j),λb G B d z I j e hz=>n b G B d z I (l.trans j) (back d z b e hz).1 (back d z b e hz).2⟩
inductive aCM(K:PySem.W.Frag)(C CI:Addr)(vs:List V)(H:Hp)(Q:VK)(E:XK):Prop
 |mk (c a:Addr) (bs r:Gh.Bytes) (_:vs=[.ref c]) (_:Cur K C c a bs H r) (_:r.length<=70000) (_:(lZ r=none->∀H':Hp,Keep c H H'->Q .non H')) (_:∀its,lZ r=some its->∀(H':Hp) (z:Addr),Keep c H H'->H z=none->ListAt (ItemAt CI (λt=>t≠z/\H t=none)) H' z its->Q (.ref z) H')
inductive Ch(K:PySem.W.Frag)(C CI c a il:Addr)(bs r0:Gh.Bytes)(H:Hp)(k:Nat)(σ:L2.St)(H':Hp):Prop
 |mk (v3:Option V) (ps:List Addr) (acc:List Item) (r:Gh.Bytes) (n:Nat) (_:n<k) (_:σ= [some (.ref c),some (.ref il),some (.int (((512-n:Nat):Nat):Int)),v3]) (_:n<=512) (_:H' il=some (.lst (ps.map V.ref))) (_:All2 (ItemAt CI (λt=>t≠il/\H t=none) H') ps acc) (_:Cur K C c a bs H' r) (_:Keep c H H') (_:acc.length+r.length<=r0.length) (_:if n<512/\r=[]then lZ r0=some acc else kM n acc r=lZ r0)
def aCN:bR P w base 13 T.ca ["cursor"] (aCM K (bI T) (cI T)):=by
 refine aV T.ca.F ["cursor","items","lines","line"] λe4 A e3 s H vs Q E nd hr h=> ?_;obtain⟨c,a,bs,D,rfl,x0,e6,q0,q1⟩:=h;refine⟨_,aF (bA 1 (cE aD))
  (aF (bA 2 bQ)
  (aF (lP dR (PW.pt (jE (bT dS (pv 2) bQ) (kU (iI (bY (fW (pv 0) (EG T) hr))))))
   (aF (bA 3 (aX (Cg T (aCL T) T.N.F.kp (by decide) Cd) hr (aC (sW Z T.N.g (v := .ref T.N.f) Z) (aC (bC T.cP) (aC (bC T.ai) (aC (pv 0) aD))))))
   (aF (aY (PW.pt (jE (fK (fT (pv 3))) (kU (bT dS (pv 2) (bC T.cO))))) (aG (aI dC)) bD)
   (aF (eY (fV fJ GC GD PQ (pv 1) (aC (pv 3) aD)))
   (aG (CL 2 bQ GK))))))
  (aG (aI (pv 1))))),?_⟩
 try dsimp only [aT,aR,Cx.nox]
 refine⟨bH _,λj i=> ?_⟩;have s1:Same H (aE H j (.lst [])):=Same.new i;refine⟨λm=>Ch K (bI T) (cI T) c a j bs D H (m+1),
  ⟨512,none,[],[],D,512,hU _,Z,aK _,aH,.nil,x0.same s1,.of s1,by simp,by rw[aA (by lia)];rfl⟩,?_⟩
 rintro m1 σ H1 ⟨v3,ps,acc,r,m,e7,rfl,hn,b,hA,x1,C,hl,hE⟩;obtain⟨M,i1,l,_,_⟩:=x1.ex;have done:m<512/\r=[]->lZ D=some acc:=λz=>by rw[aB z]at hE;exact hE
 have go:¬(m<512/\r=[])->kM m acc r=lZ D:=λz=>by rw[aA z]at hE;exact hE
 apply Zx (kM m acc r=lZ D)
 ·intro u;refine⟨_,Z,Z,_,Z,?_⟩;rw[MS];by_cases hz:512-m=0;·exact bK (bP hz) (aN (u (go (by lia))))
  refine bG (bN hz) ⟨_,Z,c,M,_,Z,l,bW a i1 EH EI,c,a,bs,r,Z,x1,_,Z,?_⟩;by_cases p:r=[]
  ·have O:r.isEmpty=true:=by rw[p];rfl
   exact bG (bS not O) ⟨_,Z,q1 acc (done ⟨by lia,p⟩) H1 j C i ⟨ps,b,hA⟩⟩
  have O:r.isEmpty=false:=by cases r with|nil=>exact absurd rfl p|cons=>rfl
  exact bK (bS not O) (u (go (λz=>p z.2)))
 intro e;refine⟨Ch K (bI T) (cI T) c a j bs D H m,λe9 H' ⟨v3,ps,acc,r,n,h1,h2,h3,h4,h5,h6,h7,h8,h9⟩=>⟨n,by lia,v3,ps,acc,r,n,hU n,h2,h3,h4,h5,h6,h7,h8,h9⟩,?_⟩;unfold kM at e;refine⟨_,Z,c,a,bs,r,64,10,Z,by decide,x1,by lia,λU x B=> ?_,λy r2 L x z x2 B e8 e1=> ?_⟩;·have U:oE r=none:=U;rw[U]at e;exact⟨_,Z,_,Z,aN (aN (q0 e.symm x (C.trans B)))⟩
 have L:oE r=some (y,r2):=L;rw[L]at e;dsimp only at e;have X:=Ce _ _ _ L;refine⟨_,Z,_,Z,aQ ⟨_,Z,Z,_,Z,?_⟩⟩;have e5:decide (V.int (((512-m:Nat):Nat):Int)=V.int 512)=decide (512-m=512):=qM (k:=512);rw[e5];by_cases Y:m=0;·rw[bP (by lia)];subst Y;exact aN (q0 e.symm x (C.trans B))
 obtain⟨n,rfl⟩:∃n,m=n+1:=⟨m-1,by lia⟩;dsimp only at e;have d:x j=some (.lst (ps.map V.ref)):=B _ _ b (bM b l (by intro z;cases z));have G:All2 (ItemAt (cI T) (λt=>t≠j/\H t=none) x) ps acc:=hA.mono λ_ _ h=>h.move (.keep B l);obtain⟨J,e2,h0,W⟩:=Cf C ⟨_,l⟩ b d i G e1;refine bG (bN (by lia)) ⟨_,Z,.inl ⟨Z,_,SqL.of d⟩,_,Z,j,z,_,_,Z,Z,d,e2,?_,?_⟩
 ·rw[aO,aO,G.len,h0];exact aZ (show acc.length+y.length<=70000 by lia) (by decide)
 have x3:=x0.write x2 (C.trans B) i d (o:= .lst (ps.map V.ref++J.map V.ref));have k3:Keep c H (aE x j (.lst (ps.map V.ref++J.map V.ref))):=(C.trans B).put (.inr i);have I:(aE x j (.lst (ps.map V.ref++J.map V.ref))) j=some (.lst ((ps++J).map V.ref)):=by rw[aH,dN]
 refine⟨_,Z,_,_,Z,Z,some (.ref z),ps++J,acc++y,r2,n,hU n,?_,by lia,I,W,x3,k3,by rw[bF];lia,?_⟩
 ·show [_,_,some (V.int ((((512-(n+1):Nat):Nat):Int)+1)),_]=_;rw[show(((512-(n+1):Nat):Nat):Int)+1=(((512-n:Nat):Nat):Int) by lia]
 by_cases q:r2=[];·rw[aB ⟨by lia,q⟩];rw[aB q]at e;exact e.symm
 rw[aA (λz=>q z.2)];rw[aA q]at e;exact e
structure Sz(s:Gh.Shape):Prop where
 wf:WF s
 sm:Sm s.rows
def Sz.w64(h:Sz s):s.wide<=64:=by rw[h.wf.wide];exact h.sm.w64
def Sz.h64(h:Sz s):s.high<=64:=by rw[h.wf.high];exact h.sm.h64
inductive aCO(vs:List V)(H:Hp)(Q:VK)(E:XK):Prop
 |mk (p:Addr) (B:Addr->Prop) (s:Gh.Shape) (_:vs=[.ref p]) (_:ShapeAt B H p s.rows) (_:Sz s) (_:Q (.int ((s.wide:Nat):Int)) H)
inductive aCP(vs:List V)(H:Hp)(Q:VK)(E:XK):Prop
 |mk (p:Addr) (B:Addr->Prop) (s:Gh.Shape) (_:vs=[.ref p]) (_:ShapeAt B H p s.rows) (_:Sz s) (_:Q (.int ((s.high:Nat):Int)) H)
def zR:bR P w base 1 T.cp ["shape"] aCO:=by
 refine aV T.cp.F ["shape"] λm A k s H vs Q E r o h=> ?_;obtain⟨p,B,x,rfl,⟨_,ps,n,f⟩,hz,q⟩:=h;refine⟨_,aG (aI (fU gD (by rfl) T.i gC (aC (iJ iK (pv 0) bQ (λ_ _=>rfl)) aD))),?_⟩
 try dsimp only [aT,aR,Cx.nox]
 have e:=hz.wf.wide;have h1:=hz.sm.h1;generalize x.rows=rows at f e h1;obtain⟨d,a,rfl⟩:∃d a,ps=d::a:=by cases ps with|nil=>exact absurd h1 (by rw[<- f.len];simp)|cons d a=>exact⟨d,a,Z⟩
 obtain⟨c,b,rfl⟩:∃c b,rows=c::b:=by cases rows with|nil=>exact absurd h1 (by simp)|cons d a=>exact⟨d,a,Z⟩
 have l:=f.cons_inv.1;refine⟨_,Z,p,_,_,_,Z,Z,SqL.of n,oW (j:=0) Z Z,d,_,Z,.inl (SqL.of l.2),?_⟩;rw[mE];rw[e]at q;exact q
def zS:bR P w base 1 T.bo ["shape"] aCP:=by
 refine aV T.bo.F ["shape"] λb A a s H vs Q E f e h=> ?_;obtain⟨p,B,x,rfl,⟨_,ps,d,c⟩,hz,q⟩:=h;refine⟨_,aG (aI (fU gD (by rfl) T.i gC (aC (pv 0) aD))),?_⟩
 try dsimp only [aT,aR,Cx.nox]
 refine⟨_,Z,p,_,Z,.inl (SqL.of d),?_⟩;rw[aO,c.len,<- hz.wf.high];exact q
inductive aCQ(vs:List V)(H:Hp)(Q:VK)(E:XK):Prop
 |mk (x y:Nat) (p:Addr) (B:Addr->Prop) (s:Gh.Shape) (_:vs=[.int ((x:Nat):Int),.int ((y:Nat):Int),.ref p]) (_:ShapeAt B H p s.rows) (_:Sz s) (_:Q (.int ((Gh.quarterOf s.wide s.high x y:Nat):Int)) H)
def aCR:bR P w base 2 T.bD ["x","y","shape"] aCQ:=by
 refine aV T.bD.F ["x","y","shape","right","lower"] λi A d s H vs Q E k f h=> ?_;obtain⟨x,y,p,B,z,rfl,c,hz,q⟩:=h;refine⟨_,aF (bA 3 (mK (bT tF (pv 0) (dO NZ (aX (zR T) f (aC (pv 2) aD)) bQ)) bQ bQ))
  (aF (bA 4 (mK (bT tF (pv 1) (dO NZ (aX (zS T) f (aC (pv 2) aD)) bQ)) bQ bQ))
  (aG (aI (dO vH (dO vH bQ (pv 3)) (dO AZ bQ (pv 4)))))),?_⟩
 try dsimp only [aT,aR,Cx.nox]
 refine⟨_,Z,_,Z,p,B,z,Z,c,hz,_,_,Z,Z,⟨by decide,by decide⟩,_,_,Z,Z,_,Z,?_⟩;have j:decide (((x:Nat):Int)<((z.wide:Nat):Int)/2)=decide (x<z.wide/2):=al_43.mpr (by lia);have e:decide (((y:Nat):Int)<((z.high:Nat):Int)/2)=decide (y<z.high/2):=al_43.mpr (by lia);rw[j];unfold Gh.quarterOf at q;by_cases b:x<z.wide/2
 ·rw[aB b]at q;refine bK (bP b) ⟨_,Z,_,Z,p,B,z,Z,c,hz,_,_,Z,Z,⟨by decide,by decide⟩,_,_,Z,Z,_,Z,?_⟩;rw[e];by_cases a:y<z.high/2;·rw[aB a]at q;exact bK (bP a) ⟨_,Z,_,_,Z,Z,_,Z,_,_,Z,Z,.inr ⟨by decide,by decide⟩,_,_,Z,Z,q⟩
  rw[aA a]at q;exact bG (bN a) ⟨_,Z,_,_,Z,Z,_,Z,_,_,Z,Z,.inr ⟨by decide,by decide⟩,_,_,Z,Z,q⟩
 rw[aA b]at q;refine bG (bN b) ⟨_,Z,_,Z,p,B,z,Z,c,hz,_,_,Z,Z,⟨by decide,by decide⟩,_,_,Z,Z,_,Z,?_⟩;rw[e];by_cases a:y<z.high/2;·rw[aB a]at q;exact bK (bP a) ⟨_,Z,_,_,Z,Z,_,Z,_,_,Z,Z,.inr ⟨by decide,by decide⟩,_,_,Z,Z,q⟩
 rw[aA a]at q;exact bG (bN a) ⟨_,Z,_,_,Z,Z,_,Z,_,_,Z,Z,.inr ⟨by decide,by decide⟩,_,_,Z,Z,q⟩
def Ci(n:Nat)(g:List Nat):lS (V.int ((n:Nat):Int)) ((nz g).map V.int)=g.contains n:=by
 induction g with
 |nil=>rfl
 |cons a g ih=>
  show(qA (V.int ((a:Nat):Int)) (V.int ((n:Nat):Int))||lS (V.int ((n:Nat):Int)) ((nz g).map V.int))=_;rw[ih,qZ];congr 1;show decide _=_;rw[jW,gK,al_41];lia
def Cj(g:List Nat):((nz g).map V.int).all oV=true:=by
 rw[al_53];intro x a;obtain⟨y,_,rfl⟩:=al_67.mp a;rfl
inductive aCS(K:PySem.W.Frag)(vs:List V)(H:Hp)(Q:VK)(E:XK):Prop
 |mk (qa:Addr) (g:List Nat) (m:Bool) (p:Addr) (B:Addr->Prop) (s:Gh.Shape) (_:vs=[.ref qa,.bl m,.ref p]) (_:SqL K H qa ((nz g).map V.int)) (_:ShapeAt B H p s.rows) (_:Sz s) (_:Q (.int ((eW (oG g m s.wide s.high):Nat):Int)) H)
def aCT:bR P w base 3 T.aR ["quarters","mirror","shape"] (aCS K):=by
 refine aV T.aR.F ["quarters","mirror","shape","width","cells","y","x","seen_x"] λM A D s H vs Q E Y C h=> ?_;obtain⟨o,g,m,p,B,z,rfl,J,l,hz,q⟩:=h;refine⟨_,aF (bA 3 (aX (zR T) C (aC (pv 2) aD)))
  (aF (bA 4 bQ)
  (aF (gQ dR Z (vE (by rfl) T.u (aC (aX (zS T) C (aC (pv 2) aD)) aD)) (dP 5)
   (aG (gQ dR Z (vE (by rfl) T.u (aC (pv 3) aD)) (dP 6)
    (aF (bA 7 (mK (bY (pv 1)) (dO GR (dO GR (pv 3) bQ) (pv 6)) (pv 6)))
    (aG (bA 4 (dO vH (dO AZ (pv 4) bQ) (mK (vJ tH (aX (aCR T) C (aC (pv 7) (aC (pv 5) (aC (pv 2) aD)))) (pv 0) Z) bQ bQ))))))))
  (aG (aI (pv 4))))),?_⟩
 try dsimp only [aT,aR,Cx.nox]
 have w64:=hz.w64;have h64:=hz.h64;refine⟨_,Z,p,B,z,Z,l,hz,_,Z,p,B,z,Z,l,hz,_,Z,by lia,by lia,?_⟩;refine vF (lo:=0) (n:=z.high) (λi σ H'=>H'=H/\∃G a b:Option V,σ= [some (.ref o),some (.bl m),some (.ref p),some (.int ((z.wide:Nat):Int)),some (.int ((eW ((oG g m z.wide z.high).take i):Nat):Int)),G,a,b])
  ⟨Z,none,none,none,Z⟩ ?_ ?_
 ·rintro i σ I hi ⟨rfl,G,a,b,rfl⟩
  let f:Nat->Bool:=λx=> !g.contains (Gh.quarterOf z.wide z.high (if m=true then z.wide-1-x else x) i)
  have e:(oG g m z.wide z.high)[i]? =some ((List.range z.wide).map f):=by unfold oG;rw[fL,xD hi];rfl
  refine⟨_,Z,_,Z,by lia,by lia,?_⟩;refine vF (lo:=0) (n:=z.wide) (λj σ H'=>H'=I/\∃a b:Option V,σ= [some (.ref o),some (.bl m),some (.ref p),some (.int ((z.wide:Nat):Int)),some (.int ((kN (eW ((oG g m z.wide z.high).take i)) (((List.range z.wide).map f).take j):Nat):Int)),some (.int ((i:Nat):Int)),a,b])
   ⟨Z,a,b,by rw[Int.zero_add];rfl⟩ ?_ ?_
  ·rintro j σ L O ⟨rfl,a,b,rfl⟩;have N:((List.range z.wide).map f)[j]? =some (f j):=by rw[fL,xD O];rfl
   generalize X:eW ((oG g m z.wide z.high).take i)=n0;have step:∀(r:Nat),r=(if m=true then z.wide-1-j else j)->∀k:Int,k=(if g.contains (Gh.quarterOf z.wide z.high r i)=true then 0 else 1)->
     ((kN n0 (((List.range z.wide).map f).take (j+1)):Nat):Int)=((kN n0 (((List.range z.wide).map f).take j):Nat):Int)*2+k:=by
    intro r c k U;rw[lG N,WU,U];show(((_*2+(if(!g.contains (Gh.quarterOf z.wide z.high (if m=true then z.wide-1-j else j) i))=true then 1 else 0):Nat)):Int)=_;rw[<- c];cases g.contains (Gh.quarterOf z.wide z.high r i)<;>simp
   cases m with
   |true=>
    have c:(z.wide-1-j:Nat)=(if true=true then z.wide-1-j else j):=rfl;have y:(((z.wide:Nat):Int)-1-(0+(j:Int)):Int)=((z.wide-1-j:Nat):Int):=by lia
    refine⟨_,Z,_,Z,aN ⟨_,Z,_,_,Z,Z,_,Z,_,_,Z,Z,?_⟩⟩;refine⟨_,Z,_,_,Z,Z,.inr ⟨by decide,by decide⟩,_,Z,_,Z,_,Z,z.wide-1-j,i,p,B,z,(by show [V.int (((z.wide:Nat):Int)-1-(0+(j:Int))),V.int ((i:Nat):Int),V.ref p]=_;rw[y]),l,hz,_,Z,o,_,Z,.inl J,Z,Cj g,_,Z,?_⟩;have v:(if false=true then !lS (V.int ((Gh.quarterOf z.wide z.high (z.wide-1-j) i:Nat):Int)) ((nz g).map V.int)else lS (V.int ((Gh.quarterOf z.wide z.high (z.wide-1-j) i:Nat):Int)) ((nz g).map V.int))=g.contains (Gh.quarterOf z.wide z.high (z.wide-1-j) i):=Ci _ _;rw[v];cases d:g.contains (Gh.quarterOf z.wide z.high (z.wide-1-j) i)with
    |true=>exact aN ⟨_,_,Z,Z,Z,_,_,by rw[step _ c 0 (by rw[d,aB rfl])];rfl⟩
    |false=>exact aQ ⟨_,_,Z,Z,Z,_,_,by rw[step _ c 1 (by rw[d,aA bX])];rfl⟩
   |false=>
    have c:(j:Nat)=(if false=true then z.wide-1-j else j):=rfl;have y:((0+(j:Int)):Int)=((j:Nat):Int):=by lia
    refine⟨_,Z,_,Z,aQ ⟨_,Z,?_⟩⟩;refine⟨_,Z,_,_,Z,Z,.inr ⟨by decide,by decide⟩,_,Z,_,Z,_,Z,j,i,p,B,z,(by show [V.int ((0+(j:Int))),V.int ((i:Nat):Int),V.ref p]=_;rw[y]),l,hz,_,Z,o,_,Z,.inl J,Z,Cj g,_,Z,?_⟩;have v:(if false=true then !lS (V.int ((Gh.quarterOf z.wide z.high (j) i:Nat):Int)) ((nz g).map V.int)else lS (V.int ((Gh.quarterOf z.wide z.high (j) i:Nat):Int)) ((nz g).map V.int))=g.contains (Gh.quarterOf z.wide z.high (j) i):=Ci _ _;rw[v];cases d:g.contains (Gh.quarterOf z.wide z.high (j) i)with
    |true=>exact aN ⟨_,_,Z,Z,Z,_,_,by rw[step _ c 0 (by rw[d,aB rfl])];rfl⟩
    |false=>exact aQ ⟨_,_,Z,Z,Z,_,_,by rw[step _ c 1 (by rw[d,aA bX])];rfl⟩
  rintro σ L ⟨rfl,a,b,rfl⟩;refine⟨Z,some (.int ((i:Nat):Int)),a,b,?_⟩;have W:((List.range z.wide).map f).take z.wide=(List.range z.wide).map f:=AS (by rw[aO,iU];exact aK _);rw[W,lG e,WV]
 rintro σ I ⟨rfl,G,a,b,rfl⟩;refine⟨_,Z,?_⟩;rw[AS (by unfold oG;rw[aO,iU];exact aK _)];exact q
def zT:Item->Prop
 | .gap _ q=>q.length=4->q=[1,2,3,4]
 |_=>True
def NH:∀(a:List Nat) (r:Gh.Bytes),(dU a r).1.Sublist a
 | [],r=>List.Sublist.slnil
 |k::a,r=>by
  unfold dU;split;·exact(NH a _).cons₂ k
  exact(NH a r).cons k
def aCU(h:iZ r=some x)(k:Nat):zT (.gap k x.1):=by
 unfold iZ at h;intro a;split at h
 ·split at h;·cases h
  cases h;exact(NH [1,2,3,4] _).eq_of_length a
 cases h;cases a
def aCV(h:gU r=some x):zT x.1:=by
 unfold gU at h;split at h
 ·unfold rZ at h;split at h;·cases h
  cases e:iZ (number (tk 95 r).2).2 with|none=>rw[e]at h;cases h|some y=>rw[e]at h;cases h;exact aCU e _
 cases e:lX r with|none=>rw[e]at h;cases h|some y=>rw[e]at h;cases h;trivial
def Goods(a:List Item):Prop:=∀x∈a,zT x
def Goods.app(h:Goods a)(d:Goods b):Goods (a++b):=λx c=>by
 rcases al_51.mp c with c|c;·exact h x c
 exact d x c
def Goods.one(h:zT x):Goods [x]:=λy a=>by rw[al_56.mp a];exact h
def aCW:∀(n:Nat) (acc:List Item) (a:List PG) (r:Gh.Bytes) (y:List Item×Gh.Bytes),iE n acc a r=some y->Goods acc->Goods y.1:=by
 intro n;induction n with
 |zero=>intro acc a r y h;rw[FH]at h;cases h
 |succ n ih=>
  intro acc a r y h f;cases d:dW a r with
  |mk gs1 r1=>
   cases gs1 with
   |nil=>
    unfold iE at h;rw[d]at h;cases e:gU r1 with|none=>rw[e]at h;cases h|some x=>rw[e]at h;cases h
   |cons g1 gs1=>
    rw[FI n acc a r g1 gs1 r1 d]at h;cases e:gU r1 with
    |none=>rw[e]at h;cases h
    |some x=>
     obtain⟨i,j⟩:=x;have hi:=aCV e;rw[e]at h;dsimp only at h;cases c:jJ i g1 gs1 j with
     |none=>rw[c]at h;cases h
     |some z=>
      obtain⟨b,k⟩:=z;rw[c]at h;cases b with|nil=>cases h;exact f.app (.one hi)|cons g2 gs2=>exact ih _ _ _ _ h (f.app (.one hi))
def FJ(f:Gh.Bytes->Option (List Item×Gh.Bytes)):Prop:=∀r y,f r=some y->Goods y.1
def Ck:FJ lY:=λr y h=>aCW _ _ _ _ _ h (λ_ a=>by cases a)
def Cl(d:FJ f)(e:UInt8):∀(n:Nat) (acc:List Item) (r:Gh.Bytes) (y:List Item×Gh.Bytes),jS f e n acc r=some y->Goods acc->Goods y.1:=by
 intro n;induction n with
 |zero=>intro acc r y h;cases h
 |succ n ih=>
  intro acc r y h c;unfold jS at h;cases a:f r with
  |none=>rw[a]at h;cases h
  |some x=>
   have b:=d _ _ a;rw[a]at h;dsimp only at h;split at h;·cases h;exact c.app b
   split at h;·exact ih _ _ _ h (c.app b)
   cases h
def aCX:FJ qL:=λr y h=>by
 unfold qL at h;by_cases a:(tk 46 r).1=true
 ·rw[aB a]at h;by_cases b:(tk 46 (tk 46 r).2).1=true
  ·rw[aB b]at h;by_cases c:(tk 46 (tk 46 (tk 46 r).2).2).1=true;·rw[aB c]at h;cases h;exact .one trivial
   rw[aA c]at h;cases h
  rw[aA b]at h;cases h
 rw[aA a]at h;cases h
def aCY:FJ oC:=λr y h=>by
 unfold oC at h;split at h;·exact Cl Ck 62 16 [] _ _ h (λ_ a=>by cases a)
 split at h;·exact aCX _ _ h
 exact Ck _ _ h
def aCZ:∀(n:Nat) (acc:List Item) (r:Gh.Bytes) (a:List Item),kM n acc r=some a->Goods acc->Goods a:=by
 intro n;induction n with
 |zero=>
  intro acc r a h;unfold kM at h;cases e:oE r with|none=>rw[e]at h;cases h|some x=>rw[e]at h;cases h
 |succ n ih=>
  intro acc r a h c;unfold kM at h;cases e:oE r with
  |none=>rw[e]at h;cases h
  |some x=>
   have b:Goods x.1:=Cl aCY 10 64 [] _ _ e (λ_ d=>by cases d);rw[e]at h;dsimp only at h;split at h;·cases h;exact c.app b
   exact ih _ _ _ h (c.app b)
def aDa(h:lZ b=some a):Goods a:=aCZ _ _ _ _ h (λ_ c=>by cases c)
def aDb:decide (V.str "gap"=V.str "gap")=true:=by decide +kernel
def aDc:decide (V.str "lost"=V.str "gap")=false:=by decide +kernel
def aDd:decide (V.str "lost"=V.str "lost")=true:=by decide +kernel
def aDe:decide (V.str "sign"=V.str "lost")=false:=by decide +kernel
def aDf:decide (V.str "gap"=V.str "lost")=false:=by decide +kernel
def aDg(x:Item):(!decide (V.str (uI x)=V.str "lost"))=VN x:=by cases x with|brk=>exact bS (!·) aDd|sgn _=>exact bS (!·) aDe|gap _ _=>exact bS (!·) aDf
inductive aDh(CI:Addr)(vs:List V)(H:Hp)(Q:VK)(E:XK):Prop
 |mk (p:Addr) (B:Addr->Prop) (it:Item) (_:vs=[.ref p]) (_:ItemAt CI B H p it) (_:zT it) (_:Q (.bl (DT it)) H)
def aDi:gG P w mg base 1 T.aH ["self"] (aDh (cI T)):=by
 refine⟨aV T.aH.F ["self"] λy A n s H vs Q E O N h=> ?_,T.d.cl⟩;obtain⟨p,B,L,rfl,hi,I,q⟩:=h;obtain⟨d,l,G⟩:=T.aV;have D:∀H:Hp,SqT K H d ((nz [1,2,3,4]).map V.int):=λH=> .inr G;refine⟨_,aG (aI (sX (kD dS (bJ (pv 0) Z) (dH T.J)) (lO (oT (kD dS (bJ (pv 0) Z) (dH T.ba)) (lO (kD dS (fU gD (by rfl) T.i gC (aC (bJ (pv 0) Z) aD)) (fU gD (by rfl) T.i gC (aC (sW Z l (v:= .ref d) Z) aD)))))))),?_⟩
 try dsimp only [aT,aR,Cx.nox]
 obtain⟨a,v,U,m,u,c⟩:=hi.as;refine⟨_,Z,p,_,a,_,_,Z,c,T.d.cl,T.r,qP _ _ _ _ _,Z,_,Z,?_⟩;rw[zK];cases L with
 |sgn s=>exact aN q
 |brk=>
  refine aQ ⟨_,Z,p,_,a,_,_,Z,c,T.d.cl,T.r,qP _ _ _ _ _,Z,_,Z,?_⟩;have j:decide (V.str (uI .brk)=V.str "gap")=false:=aDc;exact bG j q
 |gap k g=>
  obtain⟨b,o,f,M,z⟩:=hi;refine aQ ⟨_,Z,p,_,a,_,_,Z,c,T.d.cl,T.r,qP _ _ _ _ _,Z,_,Z,?_⟩;have j:decide (V.str (uI (.gap k g))=V.str "gap")=true:=aDb;refine bK j ⟨_,Z,p,_,b,_,_,Z,f,T.d.cl,T.x,zJ _ _ _ _ _,o,_,Z,.inl (SqL.of z),d,_,Z,.inr (D H),Z,?_⟩;have C:decide (V.int (((nz g).map V.int).length:Int)=V.int (((nz [1,2,3,4]).map V.int).length:Int))=DT (.gap k g):=by
   rw[aO,kO,aO,kO,qM];show decide (g.length=4)=decide (g=[1,2,3,4]);exact al_43.mpr ⟨I,λe=>by rw[e];rfl⟩
  rw[C];exact q
def NI(c:X.K=K)(h:PE X e b)(d:attributeBase e f X.env (eval e X.env)=eval e X.env):PE X (.Attribute e f a) (OL K b f):=c▸bJ h d
def FK(d:X.K=K)(e:X.calm=true)(h:xM X a t)(f:(assignEach a X.env).length=n:=by rfl) (b:(assignEach a X.env).findIdx? (·.1)=none:=by rfl):L2.PG X (.Tuple a k c) (NR K n t):=d▸GJ e h f b
def FL{K:PySem.W.Frag}{a:Addr}{xs:List V}{g:TG}{u:TT}{s:TE}{vs:List Nat}{σ:L2.St}{n:Hp}{D:Addr}{o:Hp->Prop}(d:Nat->Hp->Prop)(v:d 0 (aE n D (.lst [])))(A:∀i H,i<=xs.length->d i H->SqL K H a xs)
  (B:∀ i x t H,xs[i]? = some x->H t=none->d i H->g (.ref t) (fA σ vs) (aE H t (.tup [.int ((i:Nat):Int),x])) λc k=>fA c vs=fA σ vs/\u c k λb f =>
   if b=true then s c f λy h=>∃acc,h D=some (.lst acc)/\acc.length<sizeLine/\d (i+1) (aE h D (.lst (acc++[y])))else d (i+1) f) (w:∀H,d xs.length H->o H):
  ∃W:Nat->Nat->Hp->Prop,(∃m,W 0 m (aE n D (.lst [])))/\∀i m H,W i m H->
   ((rK K a).stop i H/\o H)\/((rK K a).go i H/\∃ l:Hp->Prop,(∀ H',l H'->∃ r,r < m/\W (i+1) r H')/\∀ x H',(rK K a).yld i H x H'->g x (fA σ vs) H' λc k=>fA c vs=fA σ vs/\u c k λb f =>
    if b=true then s c f λy h=>∃acc,h D=some (.lst acc)/\acc.length<sizeLine/\l (aE h D (.lst (acc++[y])))else l f):=by
 refine⟨λi m H=>m=xs.length-i/\i<=xs.length/\d i H,⟨xs.length,by simp,bH _,v⟩,?_⟩;rintro i m H ⟨rfl,hi,p⟩;have q:=A i H hi p;by_cases j:i<xs.length;·refine .inr ⟨⟨xs,xs[i],q,by simp [j]⟩,d (i+1),λH' E=>⟨xs.length-(i+1),by lia,Z,j,E⟩,λx H' y=> ?_⟩;obtain⟨t,z,rfl,C,rfl,y⟩:=y;exact B i z t _ (y xs q) C p
 have e:i=xs.length:=by lia
 subst e;exact .inl ⟨⟨xs,q,aK _⟩,w H p⟩
def uL(a:c=true->α)(b:c=false->β):if c=true then α else β:=by cases c with|true=>exact a rfl|false=>exact b rfl
def zU(a b:Nat):decide (V.int ((a:Nat):Int)=V.int ((b:Nat):Int))=decide (a=b):=by rw[qM]
inductive aDj(CS:Addr)(vs:List V)(H:Hp)(Q:VK)(E:XK):Prop
 |mk (p o:Addr) (B B2:Addr->Prop) (x y:Gh.Sign) (_:vs=[.ref p,.ref o]) (_:SignAt CS B H p x) (_:SignAt CS B2 H o y) (_:Sz x.shape) (_:Sz y.shape) (_:Q (.bl (decide (x.shape.wide=y.shape.wide)&&decide (x.shape.high=y.shape.high))) H)
def aDk:bR P w base 2 T.bn ["sign","other"] (aDj (eQ T)):=by
 refine aV T.bn.F ["sign","other"] λz A b s H vs Q E C a h => ?_;obtain⟨p,o,B,d,x,y,rfl,⟨f,D,n,j,_,l⟩,⟨i,G,r,k,_,m⟩,u,v,q⟩:=h;refine⟨_,aG (aI (oT (kD dS (aX (zR T) a (aC (bJ (pv 0) Z) aD)) (aX (zR T) a (aC (bJ (pv 1) Z) aD)))
  (lO (kD dS (aX (zS T) a (aC (bJ (pv 0) Z) aD)) (aX (zS T) a (aC (bJ (pv 1) Z) aD)))))),?_⟩
 try dsimp only [aT,aR,Cx.nox]
 refine⟨_,Z,p,_,f,_,_,Z,j,T.e.cl,T.q,qN _ _ _,n,B,x.shape,Z,l,u,_,Z,o,_,i,_,_,Z,k,T.e.cl,T.q,qN _ _ _,r,d,y.shape,Z,m,v,Z,_,Z,?_⟩;rw[zU];refine uL (λc=>⟨_,Z,p,_,f,_,_,Z,j,T.e.cl,T.q,qN _ _ _,n,B,x.shape,Z,l,u,_,Z,o,_,i,_,_,Z,k,T.e.cl,T.q,qN _ _ _,r,d,y.shape,Z,m,v,Z,?_⟩) λc=> ?_
 ·rw[zU];rw[c,mI]at q;exact q
 rw[c,qV]at q;exact q
inductive aDl(CS:Addr)(vs:List V)(H:Hp)(Q:VK)(E:XK):Prop
 |mk (p:Addr) (B:Addr->Prop) (x:Gh.Sign) (k:Nat) (_:vs=[.ref p,.int ((k:Nat):Int)]) (_:SignAt CS B H p x) (_:Sz x.shape) (_:Q (.bl (decide (x.shape.wide<=k)&&decide (x.shape.high<=k))) H)
def aDm:bR P w base 2 T.bs ["sign","size"] (aDl (eQ T)):=by
 refine aV T.bs.F ["sign","size"] λo A b s H vs Q E r j h => ?_;obtain⟨p,B,x,k,rfl,⟨d,u,l,f,_,i⟩,m,q⟩:=h;refine⟨_,aG (aI (oT (kD OF (aX (zR T) j (aC (bJ (pv 0) Z) aD)) (pv 1))
  (lO (kD OF (aX (zS T) j (aC (bJ (pv 0) Z) aD)) (pv 1))))),?_⟩
 try dsimp only [aT,aR,Cx.nox]
 have a:∀n:Nat,decide (((n:Nat):Int)<=((k:Nat):Int))=decide (n<=k):=λn=>al_43.mpr (by lia);refine⟨_,Z,p,_,d,_,_,Z,f,T.e.cl,T.q,qN _ _ _,l,B,x.shape,Z,i,m,_,Z,_,_,Z,Z,_,Z,?_⟩;rw[a];refine uL (λc=>⟨_,Z,p,_,d,_,_,Z,f,T.e.cl,T.q,qN _ _ _,l,B,x.shape,Z,i,m,_,Z,_,_,Z,Z,?_⟩) λc=> ?_
 ·rw[c,mI]at q;show Q (.bl (decide (((x.shape.high:Nat):Int)<=((k:Nat):Int)))) H;rw[a];exact q
 rw[c,qV]at q;exact q
def aDn(a b:Nat):(a ^^^ b)+(a&&& b)=a||| b:=by
 induction a using Nat.strongRecOn generalizing b with
 |ind a ih=>
  by_cases h:a=0;·subst h;simp
  have k:=ih (a/2) (by lia) (b/2);have f:(a ^^^ b)/2=a/2 ^^^ b/2:=Nat.xor_div_two;have i:(a&&& b)/2=a/2&&& b/2:=Nat.and_div_two;have j:(a||| b)/2=a/2||| b/2:=Nat.or_div_two;have c:(a ^^^ b)%2=(a%2) ^^^ (b%2):=Nat.xor_mod_two_pow (n:=1);have d:(a&&& b)%2=(a%2)&&& (b%2):=Nat.and_mod_two_pow (n:=1);have e:(a||| b)%2=(a%2)||| (b%2):=Nat.or_mod_two_pow (n:=1);rcases FT a with ha|ha<;>rcases FT b with hb|hb<;>rw[ha,hb]at c d e
  ·replace c:(a ^^^ b)%2=0:=c;replace d:(a&&& b)%2=0:=d;replace e:(a||| b)%2=0:=e;lia
  ·replace c:(a ^^^ b)%2=1:=c;replace d:(a&&& b)%2=0:=d;replace e:(a||| b)%2=1:=e;lia
  ·replace c:(a ^^^ b)%2=1:=c;replace d:(a&&& b)%2=0:=d;replace e:(a||| b)%2=1:=e;lia
  replace c:(a ^^^ b)%2=0:=c;replace d:(a&&& b)%2=1:=d;replace e:(a||| b)%2=1:=e;lia
def aDo(a b:Nat):Builtin.bitXor (a:Int) (b:Int)=((a ^^^ b:Nat):Int):=by
 show Builtin.bitOr (a:Int) (b:Int)-Builtin.bitAnd (a:Int) (b:Int)=_;rw[qR,qQ,<- aDn a b];lia
inductive aDp(CS:Addr)(vs:List V)(H:Hp)(Q:VK)(E:XK):Prop
 |mk (p o:Addr) (B B2:Addr->Prop) (x y:Gh.Sign) (n:Nat) (_:vs=[.ref p,.ref o,.int ((n:Nat):Int)]) (_:SignAt CS B H p x) (_:SignAt CS B2 H o y) (_:Sz x.shape) (_:Sz y.shape) (_:Q (.bl (decide (x.shape.wide=y.shape.wide)&&(decide (x.shape.high=y.shape.high)&&decide ((eW x.shape.rows ^^^ eW y.shape.rows)&&& n=0)))) H)
def aDq:bR P w base 3 T.bt ["sign","other","whole"] (aDp (eQ T)):=by
 refine aV T.bt.F ["sign","other","whole"] λi A a s H vs Q E G u h => ?_;obtain⟨p,o,B,f,x,y,n,rfl,b,d,v,z,q⟩:=h;obtain⟨j,L,I,l,_,C⟩:=id b;obtain⟨k,M,J,m,_,D⟩:=id d;refine⟨_,aG (aI (oT (aX (aDk T) u (aC (pv 0) (aC (pv 1) aD)))
  (lO (kD dS (dO tE (dO Fa (bJ (pv 0) Z) (bJ (pv 1) Z)) (pv 2)) bQ)))),?_⟩
 try dsimp only [aT,aR,Cx.nox]
 refine⟨_,Z,_,Z,p,o,B,f,x,y,Z,b,d,v,z,_,Z,?_⟩;rw[<- Bool.and_assoc]at q;refine uL (λc=> ?_) λc=> ?_
 ·rw[c,mI]at q;refine⟨_,Z,p,_,j,_,_,Z,l,T.e.cl,T.ae,ZD _ _ _,_,Z,o,_,k,_,_,Z,m,T.e.cl,T.ae,ZD _ _ _,_,_,Z,Z,_,Z,_,_,Z,Z,Z,?_⟩;have r:decide (V.int (Builtin.bitAnd (Builtin.bitXor ((eW x.shape.rows:Nat):Int) ((eW y.shape.rows:Nat):Int)) ((n:Nat):Int))=V.int 0)=decide ((eW x.shape.rows ^^^ eW y.shape.rows)&&& n=0):=by
   rw[aDo,qQ,<- zU];rfl
  rw[r];exact q
 rw[c,qV]at q;exact q
def FN{H a:Hp}{l:Gh.Signs}{f:Gh.Sign->Bool}(j:l[i]? =some x)(d:l.length<=512)(k:H D=none)(s:Same H a)(h:a D=some (.lst ((nz (bL f 0 (l.take i))).map V.int))):
  if f x=true then∃acc,a D=some (.lst acc)/\acc.length<sizeLine/\(Same H (aE a D (.lst (acc++[V.int ((i:Nat):Int)])))/\aE a D (.lst (acc++[V.int ((i:Nat):Int)])) D=some (.lst ((nz (bL f 0 (l.take (i+1)))).map V.int)))
  else Same H a/\a D=some (.lst ((nz (bL f 0 (l.take (i+1)))).map V.int)):=by
 have m:i<l.length:=(al_19.mp j).1;have b:(l.take i).length=i:=by rw[iH];lia
 have e:=IU f x (l.take i) 0;rw[b,kS]at e;rw[lG j,e];refine uL (λc=> ?_) λc=> ?_
 ·rw[aB c,<- ET];refine⟨_,h,dG (show _<=512 by rw[aO,kO];have:=yN f (l.take i) 0;lia) (by decide),Same.put s k,?_⟩;rw[aH]
 rw[aA (by rw[c];simp),bU];exact⟨s,h⟩
inductive aDr(CS CI:Addr)(vs:List V)(H:Hp)(Q:VK)(E:XK):Prop
 |mk (pg ls:Addr) (B B2:Addr->Prop) (k:Nat) (g:List Nat) (l:Gh.Signs) (_:vs=[.ref pg,.ref ls]) (_:ItemAt CI B2 H pg (.gap k g)) (_:ListAt (SignAt CS B) H ls l) (_:(∀x∈l,Sz x.shape)) (_:l.length<=512) (_:∀(H':Hp) (z:Addr),Same H H'->H z=none->H' z=some (.lst ((nz (bL (λx=>decide (x.shape.wide<=k)&&decide (x.shape.high<=k)) 0 l)).map V.int))->Q (.ref z) H')
def aDs:bR P w base 3 T.cj ["gap","signs"] (aDr (eQ T) (cI T)):=by
 refine aV T.cj.F ["gap","signs","number","sign"] λW A C s H vs Q E nd hr h => ?_;obtain⟨pg,O,B,B2,k,g,l,rfl,⟨X,qa,hg,_⟩,⟨ps,M,L⟩,hz,e,q⟩:=h;refine⟨_,aG (aI (tI (own:=[("number",2),("sign",3)]) Z nd (vL (by rfl) T.z (aC (pv 1) aD)) (qC (N:=["gap","signs","number","sign"]) (sc:=gE RE) (by decide +kernel))
  (λ_ _ _ _ _=>FK (K:=K) (n:=2) Z Z (mL (dP 2) (mL (dP 3) vC)))
  (λ_ _ _ _ _=>xY (bY (aX (aDm T) hr (aC (pv 3) (aC (NI (K:=K) Z (pv 0) Z) aD))))) (λ_ _ _ _ _=>pv 2))),?_⟩
 try dsimp only [aT,aR,Cx.nox]
 refine⟨_,Z,O,_,Z,SqL.of M,λD o=>FL (K:=K) (a:=O) (xs:=ps.map V.ref)
  (λi H'=>Same H H'/\H' D=some (.lst ((nz (bL (λx=>decide (x.shape.wide<=k)&&decide (x.shape.high<=k)) 0 (l.take i))).map V.int)))
  ⟨Same.new o,aH⟩ (λi H' _ h=>SqL.of (h.1 _ _ M)) ?_ ?_⟩
 ·rintro i y t m hi ht ⟨I,p⟩;obtain⟨G,r,rfl⟩:=pH hi;obtain⟨x,v,Y⟩:=L.sm r;have J:Same m (aE m t (.tup [.int ((i:Nat):Int),.ref G])):=Same.new ht;have b:=I.trans J;refine⟨t,_,Z,SqT.of aH,Z,_,_,Z,_,_,Z,Z,Z,?_⟩;have j:=J _ _ p;generalize aE m t (HO.tup [.int ((i:Nat):Int),.ref G])=H3 at J b j;refine⟨_,Z,_,Z,pg,_,X,_,_,Z,b _ _ hg,T.d.cl,T.U,EX _ _ _ _ _,G,B,x,k,Z,Y.move (B:=B) (.same b),hz x (fM v),_,Z,?_⟩;refine uL (λc=> ?_) λc=> ?_
  ·have u:=FN (f:=λx=>decide (x.shape.wide<=k)&&decide (x.shape.high<=k)) v e o b j;rw[aB c]at u;exact⟨_,Z,u⟩
  have u:=FN (f:=λx=>decide (x.shape.wide<=k)&&decide (x.shape.high<=k)) v e o b j;rw[aA (by rw[c];simp)]at u;exact u
 rintro m ⟨I,p⟩;rw[aO,L.len,gN]at p;exact q m D I o p
inductive aDt(CS CI:Addr)(vs:List V)(H:Hp)(Q:VK)(E:XK):Prop
 |mk (pp po ls:Addr) (B B2 B3:Addr->Prop) (st:Gh.Stand) (o:Gh.Sign) (l:Gh.Signs) (_:vs=[.ref pp,.ref po,.ref ls]) (_:ItemAt CI B2 H pp (.sgn st)) (_:SignAt CS B3 H po o) (_:Sz o.shape) (_:ListAt (SignAt CS B) H ls l) (_:(∀x∈l,Sz x.shape)) (_:l.length<=512) (_:∀(H':Hp) (z:Addr),Same H H'->H z=none->H' z=some (.lst ((nz (bL (mB st o) 0 l)).map V.int))->Q (.ref z) H')
def aDu:bR P w base 4 T.ch ["piece","own","signs"] (aDt (eQ T) (cI T)):=by
 refine aV T.ch.F ["piece","own","signs","whole","number","sign"] λh0 A L s H vs Q E nd hr h=> ?_;obtain⟨pp,po,ls,B,B2,r,st,o,l,rfl,⟨X,tg,qa,hg,_,hN⟩,ho,zo,⟨ps,hp,Y⟩,hz,k,q⟩:=h;obtain⟨v,h1,W,G,_,I⟩:=id ho;refine⟨_,aF (NS (i:=3) nd Z (Or.inr Z) (aX (aCT T) hr (aC (bJ (pv 0) Z) (aC (bJ (pv 0) Z) (aC (bJ (pv 1) Z) aD)))))
  (aG (aI (tI (own:=[("number",4),("sign",5)]) Z nd (vL (by rfl) T.z (aC (pv 2) aD)) (qC (N:=["piece","own","signs","whole","number","sign"]) (sc:=gE RF) (by decide +kernel))
  (λ_ _ _ _ _=>FK (K:=K) (n:=2) Z Z (mL (dP 4) (mL (dP 5) vC)))
  (λ_ _ _ _ _=>xY (bY (aX (aDq T) hr (aC (pv 5) (aC (pv 1) (aC (pv 3) aD)))))) (λ_ _ _ _ _=>pv 4)))),?_⟩
 try dsimp only [aT,aR,Cx.nox]
 refine⟨_,Z,pp,_,X,_,_,Z,hg,T.d.cl,T.x,zJ _ _ _ _ _,_,Z,pp,_,X,_,_,Z,hg,T.d.cl,T.aI,aAA _ _ _ _ _,_,Z,po,_,v,_,_,Z,G,T.e.cl,T.q,qN _ _ _,qa,st.quarters,st.mirrored,W,r,o.shape,Z,SqL.of hN.2,I,zo,?_⟩;refine⟨_,Z,ls,_,Z,SqL.of hp,λD C=>FL (K:=K) (a:=ls) (xs:=ps.map V.ref)
  (λi H'=>Same H H'/\H' D=some (.lst ((nz (bL (mB st o) 0 (l.take i))).map V.int)))
  ⟨Same.new C,aH⟩ (λi H' _ h=>SqL.of (h.1 _ _ hp)) ?_ ?_⟩
 ·rintro i y t j hi ht ⟨O,p⟩;obtain⟨M,J,rfl⟩:=pH hi;obtain⟨x,hx,hc⟩:=Y.sm J;have U:Same j (aE j t (.tup [.int ((i:Nat):Int),.ref M])):=Same.new ht;have b:=O.trans U;refine⟨t,_,Z,SqT.of aH,Z,_,_,Z,_,_,Z,Z,Z,?_⟩;have m:=U _ _ p;generalize aE j t (HO.tup [.int ((i:Nat):Int),.ref M])=H3 at U b m;refine⟨_,Z,_,Z,_,Z,M,po,B,r,x,o,_,Z,hc.move (B:=B) (.same b),ho.move (B:=r) (.same b),hz x (fM hx),zo,_,Z,?_⟩;have u:=FN (f:=mB st o) hx k C b m;refine uL (λc=> ?_) λc=> ?_
  ·rw[aB (show mB st o x=true from c)]at u;exact⟨_,Z,u⟩
  rw[aA (by rw[show mB st o x=false from c];simp)]at u;exact u
 rintro j ⟨O,p⟩;rw[aO,Y.len,gN]at p;exact q j D O C p
inductive aDv(CS:Addr)(vs:List V)(H:Hp)(Q:VK)(E:XK):Prop
 |mk (po ls:Addr) (B B3:Addr->Prop) (o:Gh.Sign) (l:Gh.Signs) (_:vs=[.ref po,.ref ls]) (_:SignAt CS B3 H po o) (_:ListAt (SignAt CS B) H ls l) (_:l.length<=512) (_:∀(H':Hp) (z:Addr),Same H H'->H z=none->H' z=some (.lst ((nz (bL (cls o) 0 l)).map V.int))->Q (.ref z) H')
def aDw:bR P w base 2 T.cg ["own","signs"] (aDv (eQ T)):=by
 refine aV T.cg.F ["own","signs","number","sign"] λh1 A W s H vs Q E nd M h => ?_;obtain⟨po,ls,B,B3,o,l,rfl,⟨C,h0,h3,I,J,h2⟩,⟨ps,hp,hA⟩,j,q⟩:=h;have hu:=M.units;refine⟨_,aG (aI (tI (own:=[("number",2),("sign",3)]) Z nd (vL (by rfl) T.z (aC (pv 1) aD)) (qC (N:=["own","signs","number","sign"]) (sc:=gE RG) (by decide +kernel))
  (λ_ _ _ _ _=>FK (K:=K) (n:=2) Z Z (mL (dP 2) (mL (dP 3) vC)))
  (λ_ _ _ _ _=>xY (vJ (r:=PV K) (HF hu) (aX (LY T) M (aC (NI (K:=K) Z (pv 3) Z) aD)) (aX (LY T) M (aC (NI (K:=K) Z (pv 0) Z) aD)) (GS _))) (λ_ _ _ _ _=>pv 2))),?_⟩
 try dsimp only [aT,aR,Cx.nox]
 refine⟨_,Z,ls,_,Z,SqL.of hp,λD G=>FL (K:=K) (a:=ls) (xs:=ps.map V.ref)
  (λi H'=>Same H H'/\H' D=some (.lst ((nz (bL (cls o) 0 (l.take i))).map V.int)))
  ⟨Same.new G,aH⟩ (λi H' _ h=>SqL.of (h.1 _ _ hp)) ?_ ?_⟩
 ·rintro i y t d hi ht ⟨Y,m⟩;obtain⟨X,L,rfl⟩:=pH hi;obtain⟨x,hx,hc⟩:=hA.sm L;have s3:Same d (aE d t (.tup [.int ((i:Nat):Int),.ref X])):=Same.new ht;have b:=Y.trans s3;refine⟨t,_,Z,SqT.of aH,Z,_,_,Z,_,_,Z,Z,Z,?_⟩;have k:=s3 _ _ m;generalize aE d t (HO.tup [.int ((i:Nat):Int),.ref X])=H3 at s3 b k;obtain⟨dx,tn,sx,x1,x2,_⟩:=hc.move (B:=B) (.same b);refine⟨_,Z,X,_,dx,_,_,Z,x1,T.e.cl,T.p,oI _ _ _,tn,x.name,Z,x2,λH4 y4 v O=> ?_⟩;refine⟨_,Z,po,_,C,_,_,Z,(b.trans v) _ _ I,T.e.cl,T.p,oI _ _ _,h0,o.name,Z,(b.trans v) _ _ J,λH5 y5 s5 U=> ?_⟩;refine⟨_,_,EV (s5 _ _ O),EV U,EW _,EW _,_,Z,?_⟩;rw[Ah];have u:=FN (f:=cls o) hx j G ((b.trans v).trans s5) (s5 _ _ (v _ _ k));refine uL (λc=> ?_) λc=> ?_
  ·rw[aB (show cls o x=true from c)]at u;exact⟨_,Z,u⟩
  rw[aA (by rw[show cls o x=false from c];simp)]at u;exact u
 rintro d ⟨Y,m⟩;rw[aO,hA.len,gN]at m;exact q d D Y G m
end
section
def sJ(w:World)(a:Addr)(ns:List Int):HO:= .ext λh=>SetG w h a ns
def Cm(x:SetG w h a ns):ObjOk P w H h a (sJ w a ns):=
 ⟨x,let⟨_,_,_,_,e,_⟩:=x;⟨_,e⟩,λ_ _ y k=>y.at k⟩
def NJ(x:HOk P w H h)(e:H a=some (sJ w a ns)):SetG w h a ns:=(x a _ e).1
def Cn(d:X.calm=true):tD X (.type "set") (λxs H Q=>∃(p:Addr) (ns:List Int),xs=[.ref p]/\SqL X.K H p (ns.map V.int)/\ns.Nodup/\ns.length<=3000/\∀l,H l=none->Q (.ref l) (aE H l (sJ X.w l ns))):=by intro pins s σ H vs us Q I r h;obtain⟨p,ns,rfl,i,a,c,q⟩:=h;obtain⟨j,k,f,hz⟩:=I.list i;rw[Vals.ref1 r];have hi:=k.ints;refine Uv (I.ok.hd d) f.isList (by simpa using hi) a (by rw[dL,hi.length];exact c) λh' tk b e=> ?_;exact⟨.ref _,_,I.laid (t':=tk) e (aK _) (Cm b),Z,q _ (I.hok.fresh (aK _))⟩
def aDx(w:World):R2:=λx y H Q=>∃(a b:Addr) (ns ms:List Int),x= .ref a/\y= .ref b/\b≠a/\H a=some (sJ w a ns)/\H b=some (sJ w b ms)/\ns.length+ms.length<=2000/\
 ∀(l:Addr) (L:List Int),H l=none->L.Nodup->(∀z,z∈L↔z∈ns\/z∈ms)->Q (.ref l) (aE H l (sJ w l L))
def aDy:eZ X (binaryOp .BitOr) (aDx X.w):=by intro pins s σ H x y v u Q I l m h;obtain⟨a,b,ns,ms,rfl,rfl,c,e,f,j,q⟩:=h;cases l;cases m;refine Vf c (NJ I.hok e) (NJ I.hok f) j λh' L i d k=> ?_;exact⟨.ref _,_,I.laid (t':=s.toks) i (aK _) (Cm d),Z,q _ L (I.hok.fresh (aK _)) d.1 k⟩
def Co(w:World):List V->Hp->VK->Prop:=λvs H Q=>∃(a:Addr) (ns:List Int),vs=[V.ref a]/\H a=some (sJ w a ns)/\ns.length<=3000/\
 ∀(b:List Int) (p:Addr),b.Perm ns->b.Pairwise (· <= ·)->H p=none->Q (.ref p) (aE H p (.lst (b.map V.int)))
def aDz(m:X.calm=true):tD X (.builtin "sorted") (Co X.w):=by
 intro pins s σ H vs us Q I r h;obtain⟨a,ns,rfl,k,l,q⟩:=h;rw[Vals.ref1 r];refine Vu (I.ok.hd m) (NJ I.hok k) l λh' tk D out b e o f n i d j=> ?_;have c:(b.map V.int).length<=sizeLine:=by rw[aO,d.length_eq];exact pP (by unfold scanBound;lia)
 exact⟨.ref _,aE H D (.lst (b.map V.int)),I.laid (t':=tk) o f ⟨c,out.toList,e,PU i,n⟩,Z,q b _ d j (I.hok.fresh f)⟩
end
section
variable{P:Program}{w:World}{K:PySem.W.Frag}{mg:Str->Option Value}{base:Heap}(T:Txt K mg)
def Cp:∀(a b:List Int),a.Pairwise (· < ·)->b.Pairwise (· < ·)->(∀z,z∈a↔z∈b)->a=b
 | [],[],_,_,_=>rfl
 | [],y::b,_,_,h=>absurd ((h y).mpr (cF)) (by simp)
 |x::a,[],_,_,h=>absurd ((h x).mp (cF)) (by simp)
 |x::a,y::b,ha,hb,h=>by
  obtain⟨c,f⟩:=al_174.mp ha;obtain⟨d,i⟩:=al_174.mp hb;have e:x=y:=by
   rcases al_18.mp ((h x).mp (cF))with e|m1;·exact e
   rcases al_18.mp ((h y).mpr (cF))with e|m2;·exact e.symm
   have:=d _ m1;have:=c _ m2;lia
  subst e;rw[Cp a b f i λz=> ?_];constructor
  ·intro hz;rcases al_18.mp ((h z).mp (cA _ hz))with e|m
   ·have:=c _ hz;lia
   exact m
  intro hz;rcases al_18.mp ((h z).mpr (cA _ hz))with e|m
  ·have:=d _ hz;lia
  exact m
def aDA{a:List Int}(h:a.Pairwise (· <= ·))(n:a.Nodup):a.Pairwise (· < ·):=by have:=h.and n;exact this.imp λ⟨b,c⟩=>by lia
def Cq(h:tW q):(nz q).Pairwise (· < ·):=List.pairwise_map.mpr (List.Pairwise.imp (λh=>by lia) h)
def NK:z∈nz q↔∃k∈q,z=((k:Nat):Int):=by unfold nz;rw[al_67];exact⟨λ⟨k,h,e⟩=>⟨k,h,e.symm⟩,λ⟨k,h,e⟩=>⟨k,h,e.symm⟩⟩
def Cr(h:tW q):(nz q).Nodup:=(Cq h).imp λh=>by lia
def aDB(i:L.Nodup)(j:∀z,z∈L↔z∈nz (bL f 0 l)\/z∈nz (bL g 0 l))(d:ns.Perm L)(m:ns.Pairwise (· <= ·)):ns=nz (bL (λx=>f x||g x) 0 l):=by
 refine Cp _ _ (aDA m (d.nodup_iff.mpr i)) (Cq (tX _ _ _)) λz=> ?_;rw[d.mem_iff,j z,NK,NK,NK]
 constructor
 ·rintro(⟨k,h,e⟩|⟨k,h,e⟩)
  ·obtain⟨x,b,c,a⟩:=(pA _ _ _ _).mp h;exact⟨k,(pA _ _ _ _).mpr ⟨x,b,c,by rw[a];rfl⟩,e⟩
  obtain⟨x,b,c,a⟩:=(pA _ _ _ _).mp h;exact⟨k,(pA _ _ _ _).mpr ⟨x,b,c,by rw[a,Bool.or_true]⟩,e⟩
 rintro⟨k,h,e⟩;obtain⟨x,b,c,a⟩:=(pA _ _ _ _).mp h;rcases Bool.or_eq_true_iff.mp a with a|a
 ·exact .inl ⟨k,(pA _ _ _ _).mpr ⟨x,b,c,a⟩,e⟩
 exact .inr ⟨k,(pA _ _ _ _).mpr ⟨x,b,c,a⟩,e⟩
def All2.ms{α:Type}{a:Addr->α->Prop}{ps:List Addr}{xs:List α}{i:Nat}{x:α}(h:All2 a ps xs)(e:xs[i]? =some x):∃p,ps[i]? =some p/\a p x:=by
 have hi:i<ps.length:=by rw[h.len];exact(al_19.mp e).1
 exact⟨ps[i],cM hi,h.at_ i _ x (cM hi) e⟩
inductive aDC(CS CI:Addr)(vs:List V)(H:Hp)(Q:VK)(E:XK):Prop
 |mk (pp ls:Addr) (B B2:Addr->Prop) (st:Gh.Stand) (k:Nat) (l:Gh.Signs) (_:vs=[.ref pp,.int ((k:Nat):Int),.ref ls]) (_:ItemAt CI B2 H pp (.sgn st)) (_:ListAt (SignAt CS B) H ls l) (_:(∀x∈l,Sz x.shape)) (_:wQ l) (_:Distinct l) (_:Gh.findName l st.name=some k) (_:∀(H':Hp) (z:Addr),Same H H'->H z=none->H' z=some (.lst ((nz (st.may l)).map V.int))->Q (.ref z) H')
def aDD:bR P w base 5 T.ck ["piece","number","signs"] (aDC (eQ T) (cI T)):=by
 refine aV T.ck.F ["piece","number","signs","own","by_damage","by_class"] λx4 A x1 s H vs Q E nd hr h=> ?_;obtain⟨C,ls,B,B2,st,k,l,rfl,hI,J,hz,hl,h6,a,q⟩:=h;obtain⟨U,tg,qa,Y,x5,hN⟩:=id hI;obtain⟨o,ho,x6⟩:=LA a;have hu:=wM hr;refine⟨_,aF (aY (PW.pt (nR (bT (wG hu) (bJ (pv 0) Z) (cE aD)) (oS (iI (bY (bJ (pv 0) Z)))))) (aG (aI (cE (aC (pv 1) aD)))) bD)
  (aF (bA 3 (iJ (r:=pZ K) iK (pv 2) (pv 1) (λ_ _=>rfl)))
  (aF (bA 4 (mK (bT (wH hu) (bJ (pv 0) Z) (cE aD)) (aX (aDu T) hr (aC (pv 0) (aC (pv 3) (aC (pv 2) aD)))) (cE aD)))
  (aF (bA 5 (mK (bY (bJ (pv 0) Z)) (aX (aDw T) hr (aC (pv 3) (aC (pv 2) aD))) (cE aD)))
  (aG (aI (fU (r:=Co w) (aDz Z) (by rfl) T.cv boot_sorted (aC (dO aDy (BH (Cn Z) (by rfl) T.aQ boot_set (aC (pv 4) aD)) (BH (Cn Z) (by rfl) T.aQ boot_set (aC (pv 5) aD))) aD))))))),?_⟩
 try dsimp only [aT,aR,Cx.nox]
 refine Aa λR rx=> ?_;refine⟨_,Z,C,_,U,_,_,Z,Y,T.d.cl,T.x,zJ _ _ _ _ _,bH _,λn0 h8=>⟨qa,n0,_,Z,Z,SqL.of (Same.new h8 _ _ hN.2),SqL.of aH,_,Z,?_⟩⟩;have b:Same H (aE H n0 (.lst [])):=Same.new h8;generalize aE H n0 (HO.lst [])=H0 at b;have h0:((nz st.quarters).map V.int).isEmpty=st.quarters.isEmpty:=by unfold nz;cases st.quarters<;>rfl
 by_cases hc:st.quarters=[]/\st.unsure=false
 ·obtain⟨W,h2⟩:=hc;have hm:=Ua h6 a W h2;rw[W];refine aN ⟨_,Z,C,_,U,_,_,Z,b _ _ Y,T.d.cl,T.S,MA _ _ _ _ _,_,Z,?_⟩;refine bK (bS not h2) ⟨_,Z,(show 1<=sizeLine by decide),λz hz=> ?_⟩;refine q _ z (b.trans (Same.new hz)) (b.free hz) ?_;rw[aH,hm];rfl
 have h9:st.quarters≠[]\/st.unsure=true:=by
  rcases Classical.em (st.quarters=[])with W|W;·refine .inr (rB λh2=>hc ⟨W,al_12.mpr h2⟩)
  exact .inl W
 have hm:=Ub hl.wf a ho h9;obtain⟨ps,hp,hA⟩:=id J;obtain⟨O,e8,e0⟩:=hA.ms ho;have h7:hX (ps.map V.ref) ((k:Nat):Int)=some (V.ref O):=oW (j:=k) rfl (by rw[fL,e8];rfl);have tail:∀(c:Addr) (D:Hp),Same H D->D c=some (.lst ((nz (bL (λx=> !st.quarters.isEmpty&&mB st o x) 0 l)).map V.int))->R [some (.ref C),some (.int ((k:Nat):Int)),some (.ref ls),some (.ref O),some (.ref c),none] D:=λc D u I=>by
  refine rx _ _ (ZZ λR5 r5=> ?_);have tail:∀(v:Addr) (G:Hp),Same H G->G c=some (.lst ((nz (bL (λx=> !st.quarters.isEmpty&&mB st o x) 0 l)).map V.int))->G v=some (.lst ((nz (bL (λx=>st.unsure&&cls o x) 0 l)).map V.int))->R5 [some (.ref C),some (.int ((k:Nat):Int)),some (.ref ls),some (.ref O),some (.ref c),some (.ref v)] G:=λv G s3 f X=>by
   refine r5 _ _ ?_;have b1:(nz (bL (λx=> !st.quarters.isEmpty&&mB st o x) 0 l)).length<=512:=by rw[kO];exact aZ (yN _ _ _) hl.len
   have b2:(nz (bL (λx=>st.unsure&&cls o x) 0 l)).length<=512:=by rw[kO];exact aZ (yN _ _ _) hl.len
   refine⟨_,Z,c,_,Z,SqL.of f,Cr (tX _ _ _),aZ b1 (by decide),λa1 h5=> ?_⟩;refine⟨_,Z,v,_,Z,SqL.of (Same.new h5 _ _ X),Cr (tX _ _ _),aZ b2 (by decide),λa2 i=> ?_⟩;refine⟨a1,a2,_,_,Z,Z,?_,(bB ?_).trans aH,aH,by lia,λa3 L e5 h4 h3=> ?_⟩;·intro e;subst e;rw[aH]at i;cases i
   ·intro e;subst e;rw[aH]at i;cases i
   have x3:=Ve h4 h3;refine⟨a3,L,Z,aH,by lia,λx7 z e7 e1 e3=> ?_⟩;have e6:=aDB h4 h3 e7 e1;have s6:=((s3.trans (Same.new h5)).trans (Same.new i)).trans (Same.new (o:=sJ w a3 L) e5);refine q _ z (s6.trans (Same.new e3)) (s6.free e3) ?_;rw[aH,e6,hm]
  refine⟨_,Z,C,_,U,_,_,Z,u _ _ Y,T.d.cl,T.S,MA _ _ _ _ _,_,Z,?_⟩;cases e2:st.unsure with
  |false=>
   refine aQ ⟨bH _,λv N=> ?_⟩;have s3:=u.trans (Same.new (o:= .lst []) N);have f:=Same.new (o:= .lst []) N _ _ I;have X:(aE D v (.lst [])) v=some (.lst ((nz (bL (λx=>st.unsure&&cls o x) 0 l)).map V.int)):=by
    rw[aH,e2];show _=some (HO.lst ((nz (bL (λ_=>false) 0 l)).map V.int));rw[DG];rfl
   exact tail v _ s3 f X
  |true=>
   refine aN ⟨_,Z,_,Z,O,ls,B,B,o,l,Z,e0.move (B:=B) (.same u),J.same (λp x h=>h.move (B:=B) (.same u)) u,hl.len,λG v e4 N X=> ?_⟩;have s3:=u.trans e4;have f:=e4 _ _ I;have e:(λx=>st.unsure&&cls o x)=cls o:=by rw[e2];rfl
   rw[<- e]at X;exact tail v G s3 f X
 cases hq:st.quarters.isEmpty with
 |true=>
  have M:st.quarters=[]:=al_128.mp hq;have e9:st.unsure=true:=h9.resolve_left λh=>h M;rw[M];refine aN ⟨_,Z,C,_,U,_,_,Z,b _ _ Y,T.d.cl,T.S,MA _ _ _ _ _,_,Z,?_⟩;refine bG (bS not e9) ?_;refine⟨_,Z,_,Z,ls,_,_,V.ref O,Z,Z,SqL.of (b _ _ hp),h7,?_⟩;refine⟨_,Z,C,_,U,_,_,Z,b _ _ Y,T.d.cl,T.x,zJ _ _ _ _ _,bH _,λn1 m=>⟨qa,n1,_,Z,Z,SqL.of (Same.new m _ _ (b _ _ hN.2)),SqL.of aH,_,Z,?_⟩⟩;have n:=b.trans (Same.new (o:= .lst []) m);generalize aE H0 n1 (HO.lst [])=H1 at n;rw[M];refine aQ ⟨bH _,λc y=> ?_⟩;have u:=n.trans (Same.new (o:= .lst []) y);have x0:=n.free y;have I:(aE H1 c (.lst [])) c=some (.lst ((nz (bL (λx=> !st.quarters.isEmpty&&mB st o x) 0 l)).map V.int)):=by
   rw[aH,hq];show _=some (HO.lst ((nz (bL (λ_=>false) 0 l)).map V.int));rw[DG];rfl
  exact tail c _ u I
 |false=>
  rw[h0,hq];refine aQ (aQ ?_);refine⟨_,Z,_,Z,ls,_,_,V.ref O,Z,Z,SqL.of (b _ _ hp),h7,?_⟩;refine⟨_,Z,C,_,U,_,_,Z,b _ _ Y,T.d.cl,T.x,zJ _ _ _ _ _,bH _,λn1 m=>⟨qa,n1,_,Z,Z,SqL.of (Same.new m _ _ (b _ _ hN.2)),SqL.of aH,_,Z,?_⟩⟩;have n:=b.trans (Same.new (o:= .lst []) m);generalize aE H0 n1 (HO.lst [])=H1 at n;rw[h0,hq];refine aN ⟨_,Z,_,Z,_,Z,C,O,ls,B,B2,B,st,o,l,Z,hI.move (B:=B2) (.same n),e0.move (B:=B) (.same n),hz o (fM ho),J.same (λp x h=>h.move (B:=B) (.same n)) n,hz,hl.len,λD c x2 y I=> ?_⟩;have u:=n.trans x2;have x0:=n.free y;have e:(λx=> !st.quarters.isEmpty&&mB st o x)=mB st o:=by rw[hq];rfl
  rw[<- e]at I;exact tail c D u I
def MayV(B:Addr->Prop)(H:Hp)(v:V):Gh.May->Prop
 |none=>v= .non
 |some q=>∃z,v= .ref z/\B z/\H z=some (.lst ((nz q).map V.int))
structure RowV(B:Addr->Prop)(H:Hp)(vs:List V)(m:List Gh.May):Prop where
 len:vs.length=m.length
 at_:∀(i:Nat) (v:V) (x:Gh.May),vs[i]? =some v->m[i]? =some x->MayV B H v x
def MayV.mono(h:MayV B H v x)(m:∀z q,B z->H z=some (.lst ((nz q).map V.int))->a z/\H' z=some (.lst ((nz q).map V.int))):MayV a H' v x:=by
 cases x with
 |none=>exact h
 |some q=>obtain⟨z,d,b,c⟩:=h;exact⟨z,d,(m z q b c).1,(m z q b c).2⟩
def RowV.mono(h:RowV B H vs m)(f:∀z q,B z->H z=some (.lst ((nz q).map V.int))->c z/\H' z=some (.lst ((nz q).map V.int))):RowV c H' vs m:=⟨h.len,λi v x a b=>(h.at_ i v x a b).mono f⟩
def RowV.same(h:RowV B H vs m)(s:Same H H'):RowV B H' vs m:=h.mono λz q a b=>⟨a,s _ _ b⟩
def RowV.snoc(h:RowV B H vs m)(r:MayV B H v x):RowV B H (vs++[v]) (m++[x]):=by
 refine⟨by rw[bF,bF,h.len];rfl,λi u y a b=> ?_⟩;by_cases hi:i<vs.length;·rw[jZ hi]at a;rw[jZ (h.len▸hi)]at b;exact h.at_ i u y a b
 rw[iT (oM hi)]at a;rw[iT (by rw[<- h.len];exact oM hi)]at b;rw[h.len]at a
 match c:i-m.length with|0=>rw[c]at a b;simp at a b;subst a b;exact r|k+1=>rw[c]at a;simp at a
inductive RowAt(H:Hp)(p:Addr)(m:List Gh.May):Prop
 |mk (vs:List V) (_:H p=some (.lst vs)) (_:RowV (λ_=>True) H vs m)
def RowAt.same(h:RowAt H p m)(s:Same H H'):RowAt H' p m:=by obtain⟨vs,a,b⟩:=h;exact⟨vs,s _ _ a,b.same s⟩
def aDE(x:Item):decide (V.str (uI x)=V.str "lost")= !VN x:=by rw[<- aDg,Bool.not_not]
def aDF:(iF k v q m u).lookup ("is_place":Str)=none:=by unfold iF;rw[bV,aA (by decide +kernel),bV,aA (by decide +kernel),bV,aA (by decide +kernel),bV,aA (by decide +kernel),bV,aA (by decide +kernel)];rfl
inductive aDG(CS CI:Addr)(vs:List V)(H:Hp)(Q:VK)(E:XK):Prop
 |mk (li ls:Addr) (B B2:Addr->Prop) (its:List Item) (l:Gh.Signs) (_:vs=[.ref li,.ref ls]) (_:ListAt (ItemAt CI B2) H li its) (_:ListAt (SignAt CS B) H ls l) (_:(∀x∈l,Sz x.shape)) (_:wQ l) (_:Distinct l) (_:Goods its) (_:its.length<=70000) (_:iW l its=true) (_:∀(H':Hp) (z:Addr),Same H H'->RowAt H' z (jP l its)->Q (.ref z) H')
inductive aDH(li ls:Addr)(its:List Item)(l:Gh.Signs)(H1:Hp)(d D:Addr)(i:Nat)(σ:L2.St)(H':Hp):Prop
 |mk (v4:Option V) (vs:List V) (_:σ= [some (.ref li),some (.ref ls),some (.ref d),some (.ref D),v4]) (_:Same H1 H') (_:H' D=some (.lst vs)) (_:vs.length<=i) (_:RowV (λz=>z≠D) H' vs (jP l (its.take i)))
def aDI:bR P w base 6 T.cd ["items","signs"] (aDG (eQ T) (cI T)):=by
 refine aV T.cd.F ["items","signs","numbers","row","item"] λh8 A h6 s H vs Q E nd hr h=> ?_;obtain⟨li,ls,B,B2,j,l,rfl,⟨ps,hp,hA⟩,Y,hz,hl,M,hG,h9,hF,q⟩:=h;have hu:=LZ hr;refine⟨_,aF (bA 2 (aX (Ao T) hr (aC (pv 1) aD)))
  (aF (bA 3 (cE aD))
  (aF (gQ dR Z (jK (pv 0)) (dP 4)
   (aG (aY (bT dS (bJ (pv 4) Z) (dH T.bd)) (aG (eY (fV fJ gO gP gR (pv 3) (aC dC aD))))
    (aG (aY (bT dS (bJ (pv 4) Z) (dH T.J))
     (aG (eY (fV fJ gO gP gR (pv 3) (aC (aX (aDD T) hr (aC (pv 4) (aC (Ig hu (pv 2) (bJ (pv 4) Z) (λ_ _=>rfl)) (aC (pv 1) aD)))) aD))))
     (aG (aY (bY (fW (pv 4) (aDi T) hr))
      (aG (eY (fV fJ gO gP gR (pv 3) (aC (aX (aDs T) hr (aC (pv 4) (aC (pv 1) aD))) aD))))
      bD)))))))
  (aG (aI (pv 3))))),?_⟩
 try dsimp only [aT,aR,Cx.nox]
 refine⟨_,Z,ls,B,l,Z,Y,M,hl.len,λH1 d s1 e4 hD=>⟨bH _,λD I=> ?_⟩⟩;have s2:=s1.trans (Same.new (o:= .lst []) I);have e0:=s1.free I;refine⟨_,Z,li,Z,⟨_,SqL.of (s2 _ _ hp)⟩,mM (K:=K) (a:=li) (xs:=ps.map V.ref) (aDH li ls j l H1 d D)
  ⟨none,[],Z,Same.new I,aH,aK _,⟨Z,λi v x h _=>by simp at h⟩⟩ (by rintro i σ H' _ ⟨_,_,_,s,_⟩;exact SqL.of ((s1.trans s) _ _ hp)) ?_ ?_⟩
 ·rintro i y σ H2 hi ⟨v4,vs,rfl,n,b,C,hR⟩;obtain⟨N,h5,rfl⟩:=pH hi;obtain⟨x,hx,hc⟩:=hA.sm h5;have e5:i<j.length:=(al_19.mp hx).1;have G:=s1.trans n;have f:=hc.move (B:=B2) (.same G);have hsz:vs.length<sizeLine:=dG (show vs.length<=70000 by lia) (by decide);have eR:jP l (j.take (i+1))=jP l (j.take i)++(rY l x).toList:=by
   unfold jP;rw[lG hx,AM];congr 1
  have put:∀{v:V} {m:Gh.May} {L:Hp},Same H2 L->MayV (λz=>z≠D) L v m->Same H1 (aE L D (.lst (vs++[v])))/\aE L D (.lst (vs++[v])) D=some (.lst (vs++[v]))/\(vs++[v]).length<=i+1/\RowV (λz=>z≠D) (aE L D (.lst (vs++[v]))) (vs++[v]) (jP l (j.take i)++[m]):=by intro v m L c hm;refine⟨Same.put (n.trans c) I,aH,by rw[bF];exact kR C,((hR.same c).snoc hm).mono λz q h1 h2=>⟨h1,by rw[bB h1];exact h2⟩⟩
  obtain⟨dx,v,qa,m,u,e1⟩:=f.as;refine⟨_,Z,N,_,dx,_,_,Z,e1,T.d.cl,T.r,qP _ _ _ _ _,Z,_,Z,?_⟩;rw[aDE];cases x with
  |brk=>
   refine aN ⟨_,Z,.inl ⟨Z,_,SqL.of b⟩,D,_,_,Z,Z,b,hsz,?_⟩;have:=put (v:= .non) (m:=none) (Same.refl H2) rfl;exact⟨_,_,Z,this.1,this.2.1,this.2.2.1,by rw[eR];exact this.2.2.2⟩
  |sgn st=>
   refine aQ ⟨_,Z,N,_,dx,_,_,Z,e1,T.d.cl,T.r,qP _ _ _ _ _,Z,_,Z,?_⟩;rw[zK];obtain⟨O,t,h7,W,e2,e3⟩:=id f;have h4:(Gh.findName l st.name).isSome=true:=by have:=al_53.mp hF (.sgn st) (fM hx);exact this
   obtain⟨k,hk⟩:=Option.isSome_iff_exists.mp h4;have X:=DictAt.get (n _ _ hD) e2;rw[hk]at X;refine aN ⟨_,Z,.inl ⟨Z,_,SqL.of b⟩,_,Z,_,Z,_,Z,N,_,O,_,_,Z,W,T.d.cl,T.U,EX _ _ _ _ _,d,_,Z,X,_,Z,N,ls,B,B2,st,k,l,Z,f,Y.same (λp x h=>h.move (B:=B) (.same G)) G,hz,hl,M,hk,λL z c h3 h0=> ?_⟩;refine⟨D,_,_,Z,Z,c _ _ b,hsz,?_⟩;have:=put (v:= .ref z) (m:=some (st.may l)) c ⟨z,Z,(cH b h3).symm,h0⟩;exact⟨_,_,Z,this.1,this.2.1,this.2.2.1,by rw[eR];exact this.2.2.2⟩
  |gap k g=>
   refine aQ ⟨_,Z,N,_,dx,_,_,Z,e1,T.d.cl,T.r,qP _ _ _ _ _,Z,_,Z,?_⟩;rw[zK];obtain⟨O,h7,W,e3⟩:=id f;refine aQ ⟨_,Z,N,O,_,Z,W,aDF,N,B2,.gap k g,Z,f,hG _ (fM hx),_,Z,?_⟩;have eM:rY l (.gap k g)=if g=[1,2,3,4]then some (some (bL (λx=>decide (x.shape.wide<=k)&&decide (x.shape.high<=k)) 0 l))else none:=by
    show(Gh.gapMay l k g).map some=_;rw[JY];split<;>rfl
   by_cases X:g=[1,2,3,4];·have e:DT (.gap k g)=true:=bP X;rw[aB X]at eM;refine bK e ⟨_,Z,.inl ⟨Z,_,SqL.of b⟩,_,Z,_,Z,N,ls,B,B2,k,g,l,Z,f,Y.same (λp x h=>h.move (B:=B) (.same G)) G,hz,hl.len,λL z c h3 h0=> ?_⟩;refine⟨D,_,_,Z,Z,c _ _ b,hsz,?_⟩;have:=put (v:= .ref z) (m:=some _) c ⟨z,Z,(cH b h3).symm,h0⟩;exact⟨_,_,Z,this.1,this.2.1,this.2.2.1,by rw[eR,eM];exact this.2.2.2⟩
   have e:DT (.gap k g)=false:=bN X;rw[aA X]at eM;refine bG e ?_;refine⟨_,vs,Z,n,b,AR C,?_⟩;rw[eR,eM];show RowV _ H2 vs (jP l (j.take i)++[]);rw[bU];exact hR
 rintro σ H2 ⟨v4,vs,rfl,n,b,C,hR⟩;rw[aO,hA.len,gN]at hR;exact⟨_,Z,q H2 D (s1.trans n) ⟨vs,b,hR.mono λz q _ h=>⟨trivial,h⟩⟩⟩
def aDJ{S:Nat->Bool}(h:lW M S):lW M (vY M S):=λk a=>by
 unfold vY;rw[h k a,oK];cases k with
 |zero=>rfl
 |succ k=>
  show(S k&&dY M true k)=false;rw[KA (by lia),nJ]
def aDK{M:List Gh.May}{S:Nat->Bool}(h64:M.length<=64)(h:lW M S)(a:Is s S):s<2^65:=a.lt λj b=>h j (by lia)
def aDL(a b:Nat):a<=a||| b:=Nat.left_le_or
inductive aDM(CF:Addr)(vs:List V)(H:Hp)(Q:VK)(E:XK):Prop
 |mk (p:Addr) (n:Nat) (M:List Gh.May) (s:Nat) (S:Nat->Bool) (_:vs=[.ref p,.int ((s:Nat):Int)]) (_:FitAt CF n H p M) (_:M.length<=64) (_:Is s S) (_:lW M S) (_:∀s':Nat,Is s' (dE M true S)->Q (.int ((s':Nat):Int)) H)
def aDN:gG P w mg base 1 T.aw ["self","states"] (aDM (eO T)):=by
 refine⟨aV T.aw.F ["self","states","wider"] λU A B s H vs Q E nd hr h=> ?_,T.h.cl⟩;obtain⟨p,n,M,s,S,rfl,W,h64,X,x,q⟩:=h;obtain⟨C,oa,r,f,Y,D,h2,G⟩:=W.ex;refine⟨_,aF (bA 2 (dO BA (pv 1) (dO xS (dO tE (pv 1) (bJ (pv 0) Z)) bQ)))
  (aF (lP dR (bT kW (pv 2) (pv 1))
   (aF (bA 1 (pv 2))
   (aG (bA 2 (dO BA (pv 1) (dO xS (dO tE (pv 1) (bJ (pv 0) Z)) bQ))))))
  (aG (aI (pv 1)))),?_⟩
 try dsimp only [aT,aR,Cx.nox]
 have c:∀a:Nat,a&&& f<2^64:=λa=>dG Nat.and_le_right (G.fill.lt λj hj=>KA (by lia));have J:∀{a:Nat} {A:Nat->Bool},Is a A->Is (a||| ((a&&& f)*2)) (vY M A):=λI=>I.or (I.and G.fill).up;refine⟨_,Z,_,Z,_,Z,p,_,C,_,_,Z,D,T.h.cl,T.P,ML _ _ _ _,_,_,Z,Z,?_⟩;rw[qQ];refine⟨_,_,Z,Z,zN (c s),_,_,Z,Z,?_⟩;rw[zO,qR];refine⟨λm σ H'=>∃(a:Nat) (A:Nat->Bool),σ= [some (.ref p),some (.int ((a:Nat):Int)),some (.int ((a||| ((a&&& f)*2):Nat):Int))]/\H'=H/\Is a A/\lW M A/\(∀k,dE M true A k=dE M true S k)/\m=2^65-a,
  ⟨_,s,S,Z,Z,X,x,λ_=>rfl,Z⟩,?_⟩
 rintro m σ N ⟨a,A,rfl,rfl,o,u,d,rfl⟩;refine⟨_,Z,_,Z,Z,_,Z,?_⟩;rw[zU];by_cases e:a||| ((a&&& f)*2)=a;·rw[bP e];refine aQ ⟨_,Z,q a (o.congr λk=> ?_)⟩;rw[<- d k];exact(VU (λj=>by rw[<- (J o) j,e,o j]) k).symm
 rw[bN e];have v:=J o;have i:=aDJ u;have z:=aDK h64 i v;have y:a<a||| ((a&&& f)*2):=Nat.lt_of_le_of_ne (aDL _ _) (dJ e);generalize a||| ((a&&& f)*2)=b at v y z;refine aN ⟨λl H'=>∃(a:Nat) (A:Nat->Bool),l=[some (.ref p),some (.int ((a:Nat):Int)),some (.int ((a||| ((a&&& f)*2):Nat):Int))]/\H'=N/\Is a A/\lW M A/\(∀k,dE M true A k=dE M true S k)/\a=b,
  (by rintro l H' ⟨O,L,x1,x2,x3,x4,x5,x6⟩;exact⟨_,(show 2^65-b<2^65-a by lia),O,L,x1,x2,x3,x4,x5,by rw[x6]⟩),?_⟩
 refine⟨_,Z,_,Z,_,Z,_,Z,p,_,C,_,_,Z,D,T.h.cl,T.P,ML _ _ _ _,_,_,Z,Z,?_⟩;rw[qQ];refine⟨_,_,Z,Z,zN (c b),_,_,Z,Z,?_⟩;rw[zO,qR];exact⟨b,_,Z,Z,v,i,λk=>(VV M A k).trans (d k),Z⟩
inductive aDO(K:PySem.W.Frag)(CF:Addr)(vs:List V)(H:Hp)(Q:VK)(E:XK):Prop
 |mk (p ln:Addr) (n:Nat) (M:List Gh.May) (ns:List Nat) (_:vs=[.ref p,.ref ln]) (_:FitAt CF n H p M) (_:H ln=some (.lst ((nz ns).map V.int))) (_:(∀k∈ns,k<n)) (_:∀g:Nat,Is g (iP M ns)->Q (.int ((g:Nat):Int)) H)
inductive aDP(H:Hp)(p ln:Addr)(M:List Gh.May)(ns:List Nat)(i:Nat)(σ:L2.St)(H':Hp):Prop
 |mk (v3:Option V) (g:Nat) (_:σ= [some (.ref p),some (.ref ln),some (.int ((g:Nat):Int)),v3]) (_:H'=H) (_:Is g (iP M (ns.take i)))
def aDQ:gG P w mg base 1 T.as ["self","numbers"] (aDO K (eO T)):=by
 refine⟨aV T.as.F ["self","numbers","fitting","number"] λD A u s H vs Q E W U h=> ?_,T.h.cl⟩;obtain⟨p,o,n,M,ns,rfl,L,B,l,q⟩:=h;obtain⟨G,N,r,f,ofs,I,J,v⟩:=L.ex;refine⟨_,aF (bA 2 bQ)
  (aF (gQ dR Z (jK (pv 1)) (dP 3)
   (aG (CL 2 (iJ (r:=pZ K) iK (bJ (pv 0) Z) (pv 3) (λ_ _=>rfl)) As)))
  (aG (aI (pv 2)))),?_⟩
 try dsimp only [aT,aR,Cx.nox]
 refine⟨_,Z,o,Z,⟨_,SqL.of B⟩,mM (K:=K) (a:=o) (xs:=(nz ns).map V.int) (aDP H p o M ns)
  ⟨none,0,Z,Z,Is.zero⟩ (by rintro i σ H' _ ⟨_,_,_,e,_⟩;rw[e];exact SqL.of B) ?_ ?_⟩
 ·rintro i y σ C hi ⟨O,g,rfl,rfl,b⟩;obtain⟨k,x,rfl⟩:=Bj hi;have d:=l k (fM x);obtain⟨m,z⟩:∃m,ofs[k]? =some m:=⟨ofs[k]'(by rw[v.len];exact d),cM _⟩;have c:hX ((nz ofs).map V.int) ((k:Nat):Int)=some (V.int ((m:Nat):Int)):=oW (j:=k) rfl (by unfold nz;rw[fL,fL,z];rfl);refine⟨_,Z,_,Z,p,_,G,_,_,Z,I,T.h.cl,T.ab,Ax _ _ _ _,_,Z,N,_,_,_,Z,Z,SqL.of J,c,_,_,Z,Z,?_⟩;dsimp only;rw[qR];refine⟨_,_,Z,Z,(b.or (v.ofs k m z)).congr λj=> ?_⟩;unfold iP;rw[lG x,List.any_append,lI,List.any_nil,jD]
 rintro σ C ⟨O,g,rfl,rfl,b⟩;rw[aO,kO,gN]at b;exact⟨_,Z,q g b⟩
structure P2(R:V->Gh.May->Prop)(vs:List V)(m:List Gh.May):Prop where
 len:vs.length=m.length
 at_:∀(i:Nat) (v:V) (x:Gh.May),vs[i]? =some v->m[i]? =some x->R v x
def P2.snoc{R:V->Gh.May->Prop}(h:P2 R vs m)(r:R v x):P2 R (vs++[v]) (m++[x]):=by
 refine⟨by rw[bF,bF,h.len];rfl,λi u y a b=> ?_⟩;by_cases hi:i<vs.length;·rw[jZ hi]at a;rw[jZ (h.len▸hi)]at b;exact h.at_ i u y a b
 rw[iT (oM hi)]at a;rw[iT (by rw[<- h.len];exact oM hi)]at b;rw[h.len]at a
 match c:i-m.length with|0=>rw[c]at a b;simp at a b;subst a b;exact r|k+1=>rw[c]at a;simp at a
def RowV.ms{B:Addr->Prop}{H:Hp}{vs:List V}{m:List Gh.May}{i:Nat}{v:V}(h:RowV B H vs m)(e:vs[i]? =some v):∃x,m[i]? =some x/\MayV B H v x:=by
 have hi:i<m.length:=by rw[<- h.len];exact(al_19.mp e).1
 exact⟨m[i],cM hi,h.at_ i v _ e (cM hi)⟩
def FO(M:List Gh.May)(a:Nat)(v:V):Gh.May->Prop
 |none=>v=if a=0 then .non else .int 0
 |some q=>if a≠0/\q.length≠1 then v= .int 0 else∃g:Nat,v= .int ((g:Nat):Int)/\Is g (iP M q)
inductive aDR(CF:Addr)(vs:List V)(H:Hp)(Q:VK)(E:XK):Prop
 |mk (how:Nat) (pr fp:Addr) (n:Nat) (M m:List Gh.May) (_:vs=[.int ((how:Nat):Int),.ref pr,.ref fp]) (_:how<=1) (_:RowAt H pr m) (_:FitAt CF n H fp M) (_:(∀q,some q∈m->∀k∈q,k<n)) (_:m.length<=70000) (_:∀(H':Hp) (z:Addr) (ws:List V),Same H H'->H z=none->H' z=some (.lst ws)->P2 (FO M how) ws m->Q (.ref z) H')
def how1(a:Nat):decide (V.int ((a:Nat):Int)=V.int 1)=decide (a=1):=by have:=zU a 1;exact this
def aDS:¬("atoms_of_some":Str)="runs":=by decide +kernel
def aDT:¬("atoms_of_some":Str)="fillable":=by decide +kernel
def aDU:¬("atoms_of_some":Str)="atoms_of":=by decide +kernel
def aDV:¬("atoms_of_some":Str)="through":=by decide +kernel
inductive Cs(H:Hp)(how:Nat)(pr fp:Addr)(M m:List Gh.May)(D:Addr)(i:Nat)(σ:L2.St)(H':Hp):Prop
 |mk (v4:Option V) (ws:List V) (_:σ= [some (.int ((how:Nat):Int)),some (.ref pr),some (.ref fp),some (.ref D),v4]) (_:Same H H') (_:H' D=some (.lst ws)) (_:P2 (FO M how) ws (m.take i))
def aDW:bR P w base 2 T.aP ["how","row","fitter"] (aDR (eO T)):=by
 refine aV T.aP.F ["how","row","fitter","along","numbers"] λcdv A outer s H vs Q E nd hr h=> ?_;obtain⟨how,pr,fp,n,M,m,rfl,h1,⟨vs,hvs,hR⟩,hF,hlt,h70,q⟩:=h;refine⟨_,aF (bA 3 (cE aD))
  (aF (gQ dR Z (jK (pv 1)) (dP 4)
   (aG (aY (PW.pt (nR (bT dS (pv 0) (bC T.bl)) (oS (PW.pt (jE (fK (fT (pv 4))) (kU (bT kW (fU (r:=sG K) gD (by rfl) T.i gC (aC (pv 4) aD)) bQ)))))))
     (aG (eY (fV fJ gO gP gR (pv 3) (aC bQ aD))))
    (aG (aY (fK (fT (pv 4))) (aG (eY (fV fJ gO gP gR (pv 3) (aC dC aD))))
     (aG (eY (fV fJ gO gP gR (pv 3) (aC (bZ (pv 2) (aDQ T) hr (aC (pv 4) aD)) aD)))))))))
  (aG (aI (pv 3)))),?_⟩
 try dsimp only [aT,aR,Cx.nox]
 refine⟨bH _,λD hD=> ?_⟩;refine⟨_,Z,pr,Z,⟨_,SqL.of (Same.new hD _ _ hvs)⟩,mM (K:=K) (a:=pr) (xs:=vs) (Cs H how pr fp M m D)
  ⟨none,[],Z,Same.new hD,aH,⟨Z,λi v x h _=>by simp at h⟩⟩ (by rintro i σ H' _ ⟨_,_,_,s,_⟩;exact SqL.of (s _ _ hvs)) ?_ ?_⟩
 ·rintro i v σ H2 hi ⟨v4,ws,rfl,s2,hws,hP⟩;obtain⟨x,hx,hm⟩:=hR.ms hi;have hil:i<m.length:=(al_19.mp hx).1;have hsz:ws.length<sizeLine:=dG (show ws.length<=70000 by rw[hP.len,iH];lia) (by decide);have put:∀{u:V} {v4:Option V},FO M how u x->Cs H how pr fp M m D (i+1) [some (.int ((how:Nat):Int)),some (.ref pr),some (.ref fp),some (.ref D),v4] (aE H2 D (.lst (ws++[u]))):=by
   intro u v4 hu;refine⟨_,_,Z,Same.put s2 hD,aH,?_⟩;rw[lG hx];exact hP.snoc hu
  refine⟨_,Z,Z,_,Z,?_⟩;rw[how1];cases x with
  |none=>
   have hm:v= .non:=hm;subst hm;by_cases e:how=1
   ·rw[bP e];refine aN ⟨_,Z,_,Z,aN (aN ⟨_,Z,.inl ⟨Z,_,SqL.of hws⟩,D,_,_,Z,Z,hws,hsz,put ?_⟩)⟩;show V.int 0=if how=0 then V.non else V.int 0
    rw[aA (by lia)]
   rw[bN e];refine aQ (aQ ⟨_,Z,_,Z,aN ⟨_,Z,.inl ⟨Z,_,SqL.of hws⟩,D,_,_,Z,Z,hws,hsz,put ?_⟩⟩);show V.non=if how=0 then V.non else V.int 0
   rw[aB (by lia)]
  |some q=>
   obtain⟨z,rfl,_,hz⟩:=hm;have hz2:=s2 _ _ hz;have hlk:=hlt q (fM hx);obtain⟨dx,oa,r,f,ofs,f1,f2,f3⟩:=(hF.same s2).ex;by_cases e:how≠0/\q.length≠1
   ·rw[bP (show how=1 by lia)];refine aN ⟨_,Z,_,Z,aQ ⟨_,Z,z,_,Z,.inl (SqL.of hz2),Z,_,Z,?_⟩⟩;rw[aO,kO,show(!decide (V.int ((q.length:Nat):Int)=V.int 1))=true by rw[how1,bN e.2];rfl];refine aN ⟨_,Z,.inl ⟨Z,_,SqL.of hws⟩,D,_,_,Z,Z,hws,hsz,put ?_⟩;show if how≠0/\q.length≠1 then V.int 0=V.int 0 else _
    rw[aB e]
   by_cases e1:how=1
   case' pos=>
    have e2:q.length=1:=rB λh=>e ⟨by lia,h⟩;rw[bP e1];refine aN ⟨_,Z,_,Z,aQ ⟨_,Z,z,_,Z,.inl (SqL.of hz2),Z,_,Z,?_⟩⟩;rw[aO,kO,show(!decide (V.int ((q.length:Nat):Int)=V.int 1))=false by rw[how1,bP e2];rfl]
   case' neg=>
    rw[bN e1];refine aQ ?_
   all_goals
    refine aQ ⟨_,Z,_,Z,aQ ⟨_,Z,.inl ⟨Z,_,SqL.of hws⟩,_,Z,fp,dx,_,Z,f1,wP _ _ _ _ aDS aDT aDU aDV,_,Z,fp,z,n,M,q,Z,hF.same s2,hz2,hlk,λg hg=> ?_⟩⟩;refine⟨D,_,_,Z,Z,hws,hsz,put ?_⟩;show if how≠0/\q.length≠1 then _ else _
    rw[aA e];exact⟨g,Z,hg⟩
 rintro σ H2 ⟨v4,ws,rfl,s2,hws,hP⟩;rw[hR.len,gN]at hP;exact⟨_,Z,q H2 D ws s2 hD hws hP⟩
def nI(r p a f:V):List (Str×V):=aL "fitter" f (aL "along" a (aL "places" p (aL "row" r [])))
def Ct(r p a f:V):(nI r p a f).lookup ("places":Str)=some p:=by unfold nI;rw[bV,aA (by decide +kernel),bV,aA (by decide +kernel),bV,aB rfl]
def aDX(r p a f:V):(nI r p a f).lookup ("along":Str)=some a:=by unfold nI;rw[bV,aA (by decide +kernel),bV,aB rfl]
def zV(r p a f:V):(nI r p a f).lookup ("fitter":Str)=some f:=by unfold nI;rw[bV,aB rfl]
def Cu(r p a f:V){m:Str}(b:¬m="fitter")(c:¬m="along")(d:¬m="places")(e:¬m="row"):(nI r p a f).lookup m=none:=by unfold nI;rw[bV,aA b,bV,aA c,bV,aA d,bV,aA e];rfl
inductive SrAt(CZ CF:Addr)(how n:Nat)(H:Hp)(p:Addr)(M m:List Gh.May):Prop
 |mk (dx:Addr) (pr:Addr) (pl:Addr) (al:Addr) (fp:Addr) (ws:List V) (_:H p=some (.ins CZ dx (nI (.ref pr) (.ref pl) (.ref al) (.ref fp)))) (_:H pl=some (.lst ((nz (fR m 0)).map V.int))) (_:H al=some (.lst ws)) (_:P2 (FO M how) ws m) (_:FitAt CF n H fp M)
def SrAt.ex(h:SrAt c b a n H p M m):SrAt c b a n H p M m:=h
def SrAt.same(h:SrAt c b a n H p M m)(s:Same H H'):SrAt c b a n H' p M m:=by obtain⟨e,q,pl,d,f,r,i,j,k,l,o⟩:=h.ex;exact⟨e,q,pl,d,f,r,s _ _ i,s _ _ j,s _ _ k,l,o.same s⟩
def FitAt.keepI(k:Keep x H H')(e:H x=some (.ins C i []))(h:FitAt b n H p M):FitAt b n H' p M:=by obtain⟨j,m,r,f,a,c,d,l⟩:=h.ex;exact⟨j,m,r,f,a,k _ _ c (bM c e (by intro z;injection z with _ _ z;cases z)),k _ _ d (bM d e (by intro z;cases z)),l⟩
def RowAt.keepI(k:Keep x H H')(b:H x=some (.ins C c fs))(h:RowAt H p m):RowAt H' p m:=by obtain⟨vs,a,d⟩:=h;exact⟨vs,k _ _ a (bM a b (by intro z;cases z)),d.mono λz q _ e=>⟨trivial,k _ _ e (bM e b (by intro z;cases z))⟩⟩
inductive aDY(CZ CF:Addr)(vs:List V)(H:Hp)(Q:VK)(E:XK):Prop
 |mk (x dx:Addr) (how:Nat) (pr fp:Addr) (n:Nat) (M m:List Gh.May) (_:vs=[.ref x,.int ((how:Nat):Int),.ref pr,.ref fp]) (_:H x=some (.ins CZ dx [])) (_:how<=1) (_:RowAt H pr m) (_:FitAt CF n H fp M) (_:(∀q,some q∈m->∀k∈q,k<n)) (_:m.length<=70000) (_:∀H':Hp,Keep x H H'->SrAt CZ CF how n H' x M m->Q .non H')
def aDZ:qE P w base 3 T.k ["self","how","row","fitter"] (aDY (lA T) (eO T)):=by
 refine aV T.k.F ["self","how","row","fitter","at","numbers"] λh5 A h4 s H vs Q E nd hr h=> ?_;obtain⟨x,b,h2,c,X,n,M,m,rfl,I,h1,d,hF,h0,Y,q⟩:=h;refine⟨_,aF (dA (pv 0) (pv 2) Z)
  (aF (dA (pv 0) (tI (own:=[("at",4),("numbers",5)]) Z nd (vL (by rfl) T.z (aC (pv 2) aD)) (qC (N:=["self","how","row","fitter","at","numbers"]) (sc:=gE RB) (by decide +kernel))
   (λ_ _ _ _ _=>FK (K:=K) (n:=2) Z Z (mL (dP 4) (mL (dP 5) vC)))
   (λ_ _ _ _ _=>xY (fK (Du (pv 5)))) (λ_ _ _ _ _=>pv 4)) Z)
  (aF (dA (pv 0) (aX (aDW T) hr (aC (pv 1) (aC (pv 2) (aC (pv 3) aD)))) Z)
  (aG (dA (pv 0) (pv 3) Z)))),?_⟩
 try dsimp only [aT,aR,Cx.nox]
 have B:∀(f:Str) (v:V) (fs:List (Str×V)) (n:Nat),fs.length<=n->(aL f v fs).length<=n+1:=λf v fs n h=>aZ (kC _ _ _) (kR h);refine⟨_,Z,_,Z,x,_,b,[],Z,I,T.k.cl,T.cs,(by show 0<1000;decide),?_⟩;have k1:Keep x H _:=(Keep.refl x H).put (o:= .ins (lA T) b (aL "row" (.ref c) [])) (.inl Z);have x1:aE H x (.ins (lA T) b (aL "row" (.ref c) [])) x=_:=aH;generalize aE H x (.ins (lA T) b (aL "row" (.ref c) []))=H1 at k1 x1;obtain⟨vs,G,hR⟩:=d.keepI k1 I;refine⟨_,Z,c,_,Z,SqL.of G,λD hD=>FL (K:=K) (a:=c) (xs:=vs)
  (λi H'=>Same H1 H'/\H' D=some (.lst ((nz (fR (m.take i) 0)).map V.int)))
  ⟨Same.new hD,aH⟩ (λi H' _ h=>SqL.of (h.1 _ _ G)) ?_ ?_⟩
 ·rintro i v t j hi ht ⟨W,O⟩;obtain⟨y,hy,L⟩:=hR.ms hi;have h6:i<m.length:=(al_19.mp hy).1;have C:(m.take i).length=i:=by rw[iH];lia
  have e:=LC y (m.take i) 0;rw[C,kS,<- lG hy]at e;have s3:Same j (aE j t (.tup [.int ((i:Nat):Int),v])):=Same.new ht;have r:=W.trans s3;have p:=s3 _ _ O;refine⟨t,_,Z,SqT.of aH,Z,_,_,Z,_,_,Z,Z,Z,?_⟩;generalize aE j t (HO.tup [.int ((i:Nat):Int),v])=H3 at s3 r p;rw[e];cases y with
  |none=>
   have L:v= .non:=L;subst L;refine⟨_,Z,_,Z,aQ ⟨r,?_⟩⟩;show H3 D=some (.lst ((nz (fR (m.take i) 0++[])).map V.int));rw[bU];exact p
  |some z=>
   obtain⟨z,rfl,_⟩:=L;refine⟨_,Z,_,Z,aN ⟨_,Z,_,p,?_,Same.put r hD,?_⟩⟩;·refine dG (show _<=70000 from ?_) (show 70000<sizeLine by decide);rw[aO,kO,yY];exact aZ (AO _ _) (by lia)
   rw[aH,ET];rfl
 rintro j ⟨W,O⟩;rw[hR.len,gN]at O;have x2:=W _ _ x1;refine⟨_,Z,x,_,b,_,Z,x2,T.k.cl,T.ad,dG (B _ _ _ 0 (bH _)) (by decide),?_⟩;have l:D≠x:=(cH x1 hD).symm;have U:Keep x H _:=(k1.trans (.of W)).put (o:= .ins (lA T) b (aL "places" (.ref D) (aL "row" (.ref c) []))) (.inl Z);have x3:aE j x (.ins (lA T) b (aL "places" (.ref D) (aL "row" (.ref c) []))) x=_:=aH;have q3:aE j x (.ins (lA T) b (aL "places" (.ref D) (aL "row" (.ref c) []))) D=_:=(bB l).trans O;generalize aE j x (.ins (lA T) b (aL "places" (.ref D) (aL "row" (.ref c) [])))=H3 at U x3 q3;refine⟨_,Z,_,Z,_,Z,h2,c,X,n,M,m,Z,h1,d.keepI U I,hF.keepI U I,h0,Y,λH4 z ws u hz h3 hP=> ?_⟩;have J:z≠x:=(cH x3 hz).symm;refine⟨_,Z,x,_,b,_,Z,u _ _ x3,T.k.cl,T.aL,dG (B _ _ _ 1 (B _ _ _ 0 (bH _))) (by decide),?_⟩;refine⟨_,Z,_,Z,x,_,b,_,Z,aH,T.k.cl,T.y,dG (B _ _ _ 2 (B _ _ _ 1 (B _ _ _ 0 (bH _)))) (by decide),?_⟩;have k5:=((U.trans (.of u)).put (o:= .ins (lA T) b (aL "along" (.ref z) (aL "places" (.ref D) (aL "row" (.ref c) [])))) (.inl Z)).put (o:= .ins (lA T) b (nI (.ref c) (.ref D) (.ref z) (.ref X))) (.inl Z);exact q _ k5 ⟨b,c,D,z,X,ws,aH,(bB l).trans ((bB l).trans (u _ _ q3)),(bB J).trans ((bB J).trans h3),hP,hF.keepI k5 I⟩
def aEa(xs:List V)(p:Nat)(h:p<=xs.length):rH xs (some ((p:Nat):Int)) none=xs.drop p:=by unfold rH;rw[HT.sIx_nat,HT.sIx_none,Nat.min_eq_left h];exact AS (by rw[AE];lia)
def aEb(h:M.length<=k):iP M q k=false:=by unfold iP;rw[List.any_eq_false];intro n _;unfold uF;rw[jB h];simp
def aEc(M:List Gh.May)(S:Nat->Bool)(k:Nat):vX M (λ_=>false) S k=false:=by
 have e:(λk=>jI (λj=>S j&&false) k||(S k&&false&&bE M k))=λ_=>false:=by
  funext k;cases k with|zero=>simp [jI]|succ k=>simp [jI]
 unfold vX;rw[e];unfold vW;cases k with|zero=>simp [jI]|succ k=>simp [jI]
def NL:Option Nat->Int
 |none=> -1
 |some j=>((j:Nat):Int)
def FP:∀m∈([("first_states":Str),"over_sign","is_through","over_break"]:List Str),¬m="runs"/\¬m="fillable"/\¬m="atoms_of"/\¬m="through":=by decide +kernel
def zW(r f o t:V)(h:m∈([("first_states":Str),"over_sign","is_through","over_break"]:List Str)):(gA r f o t).lookup m=none:=wP _ _ _ _ (FP m h).1 (FP m h).2.1 (FP m h).2.2.1 (FP m h).2.2.2
inductive aEd(CZ CF:Addr)(vs:List V)(H:Hp)(Q:VK)(E:XK):Prop
 |mk (p:Addr) (k how n:Nat) (M m:List Gh.May) (_:vs=[.ref p,.int ((k:Nat):Int)]) (_:SrAt CZ CF how n H p M m) (_:k<(fR m 0).length) (_:M.length<=64) (_:uE M) (_:∀H':Hp,Same H H'->Q (.int (NL (mC how M m k))) H')
inductive aEe(p:Addr)(k how:Nat)(M m:List Gh.May)(p0:Nat)(H1:Hp)(i:Nat)(σ:L2.St)(H':Hp):Prop
 |mk (v4:Option V) (a e:Nat) (S:Nat->Bool) (_:σ= [some (.ref p),some (.int ((k:Nat):Int)),some (.int ((a:Nat):Int)),some (.int ((e:Nat):Int)),v4]) (_:H'=H1) (_:Is a S) (_:lW M S) (_:iY how M ((m.drop p0).drop i) e S=mC how M m k)
def aEf:gG P w mg base 3 T.aK ["self","start"] (aEd (lA T) (eO T)):=by
 refine⟨aV T.aK.F ["self","start","states","end","fitting"] λh9 A h7 s H vs Q E nd hr h=> ?_,T.k.cl⟩;obtain⟨p,k,b,n,M,m,rfl,hZ,hk,h64,h3,q⟩:=h;obtain⟨O,pr,pl,al,B,Y,z1,z2,z3,hP,hF⟩:=hZ.ex;refine⟨_,aF (bA 2 (fW (bJ (pv 0) Z) (aBk T) hr))
  (aF (bA 3 (pv 1))
  (aF (gQ dR Z (jK (OZ (r:=PK K) Gz (bJ (pv 0) Z) (OY (iJ (r:=pZ K) iK (bJ (pv 0) Z) (pv 1) (λ_ _=>rfl))) OX)) (dP 4)
   (aG (aY (fK (fT (pv 4)))
    (aG (bA 2 (bZ (bJ (pv 0) Z) (aDN T) hr (aC (pv 2) aD))))
    (aF (bA 2 (bZ (bJ (pv 0) Z) (aBm T) hr (aC (pv 2) (aC (pv 4) aD))))
    (aF (aY (bT dS (pv 2) bQ) (aG (aI (bC T.aj))) bD)
    (aF (aY (bY (bZ (bJ (pv 0) Z) (aBp T) hr (aC (pv 2) aD))) (aG (aI (pv 3))) bD)
    (aG (CL 3 bQ GK))))))))
  (aG (aI (bC T.aj))))),?_⟩
 try dsimp only [aT,aR,Cx.nox]
 obtain⟨d0,oa,r,f,e2,f1,f2,f3⟩:=hF.ex;obtain⟨d,X⟩:∃d,(fR m 0)[k]? =some d:=⟨_,cM hk⟩;have h8:d<m.length:=by have:=LB m 0 d (fM X);lia
 have eK:mC b M m k=iY b M (m.drop d) k (mX M):=by unfold mC;rw[jC,X];rfl
 have h4:hX ((nz (fR m 0)).map V.int) ((k:Nat):Int)=some (V.int ((d:Nat):Int)):=oW (j:=k) rfl (by unfold nz;rw[fL,fL,X];rfl);refine⟨_,Z,p,_,O,_,_,Z,z1,T.k.cl,T.y,zV _ _ _ _,B,d0,_,Z,f1,zW _ _ _ _ (by simp),B,n,M,Z,hF,h64,h3,λs0 h6=> ?_⟩;refine⟨_,Z,_,Z,p,_,O,_,_,Z,z1,T.k.cl,T.aL,aDX _ _ _ _,_,Z,p,_,O,_,_,Z,z1,T.k.cl,T.ad,Ct _ _ _ _,_,Z,pl,_,_,_,Z,Z,SqL.of z2,h4,_,Z,al,Y,Z,SqL.of z3,λD hD=> ?_⟩;rw[aEa Y d (by rw[hP.len];lia)];have s1:Same H (aE H D (.lst (Y.drop d))):=Same.new hD;have U:aE H D (.lst (Y.drop d)) D=some (.lst (Y.drop d)):=aH;generalize aE H D (HO.lst (Y.drop d))=H1 at s1 U;have J:=s1 _ _ z1;have C:=s1 _ _ f1;have G:=hF.same s1;refine⟨D,Z,⟨_,SqL.of U⟩,mM (K:=K) (a:=D) (xs:=Y.drop d) (aEe p k b M m d H1)
  ⟨none,s0,k,_,Z,Z,h6,Se M,by rw[List.drop_zero,eK]⟩ (by rintro i σ H' _ ⟨_,_,_,_,_,e,_⟩;rw[e];exact SqL.of U) ?_ ?_⟩
 ·rintro i v σ H2 hi ⟨v4,a,e,S,rfl,rfl,ha,W,hE⟩;rw[List.getElem?_drop]at hi;obtain⟨x,hx⟩:∃x,m[d+i]? =some x:=by
   have:=(al_19.mp hi).1;rw[hP.len]at this;exact⟨_,cM this⟩
  have o:=hP.at_ _ _ _ hi hx;have hd:(m.drop d).drop i=x::(m.drop d).drop (i+1):=by rw[wV,wV];obtain⟨h1,h2⟩:=al_19.mp hx;rw[GB h1,h2,Nat.add_assoc]
  rw[hd]at hE;have hz:∀z:Option Nat,mC b M m k=z->Q (.int (NL z)) H2:=λz h=>by rw[<- h];exact q H2 s1
  by_cases l:v= .int 0/\mC b M m k=none;·obtain⟨rfl,hn⟩:=l;refine⟨_,Z,_,Z,aQ ⟨_,Z,p,_,O,_,_,Z,J,T.k.cl,T.y,zV _ _ _ _,B,d0,_,Z,C,zW _ _ _ _ (by simp),_,Z,_,Z,B,n,M,a,0,S,(λ_=>false),Z,G,h64,ha,Is.zero,λ_ _=>rfl,λN u=> ?_⟩⟩;have e0:N=0:=(u.zero_iff).mpr λj=>aEc M S j;subst e0;exact⟨_,Z,Z,_,Z,aN (hz none hn)⟩
  cases x with
  |none=>
   have o:v=if b=0 then .non else .int 0:=o
   have c:(if b=0 then iY b M ((m.drop d).drop (i+1)) e (dE M true S)else none)=mC b M m k:=hE;by_cases e1:b=0;·rw[aB e1]at o c;subst o;refine⟨_,Z,_,Z,aN ⟨_,Z,p,_,O,_,_,Z,J,T.k.cl,T.y,zV _ _ _ _,B,d0,_,Z,C,zW _ _ _ _ (by simp),_,Z,B,n,M,a,S,Z,G,h64,ha,W,λN u=> ?_⟩⟩;exact⟨_,N,e,_,Z,Z,u,KB W,c⟩
   rw[aA e1]at o c;exact absurd ⟨o,c.symm⟩ l
  |some g=>
   have o:if b≠0/\g.length≠1 then v= .int 0 else∃y:Nat,v= .int ((y:Nat):Int)/\Is y (iP M g):=o
   have c:(if b≠0/\g.length≠1 then none else if iX M g S M.length=true then some e else if pG M.length (iX M g S)=true then none else iY b M ((m.drop d).drop (i+1)) (e+1) (iX M g S))=mC b M m k:=hE;by_cases e1:b≠0/\g.length≠1;·rw[aB e1]at o c;exact absurd ⟨o,c.symm⟩ l
   rw[aA e1]at o c;obtain⟨y,rfl,hy⟩:=o;refine⟨_,Z,_,Z,aQ ⟨_,Z,p,_,O,_,_,Z,J,T.k.cl,T.y,zV _ _ _ _,B,d0,_,Z,C,zW _ _ _ _ (by simp),_,Z,_,Z,B,n,M,a,y,S,_,Z,G,h64,ha,hy,λ_ h=>aEb h,λN u=> ?_⟩⟩;have I:Is N (iX M g S):=u.congr (Sb h3 g S);refine⟨_,Z,Z,_,Z,?_⟩;rw[MS];by_cases h0:N=0;·have L:=I.zero_iff.mp h0;rw[bP h0];rw[aA (by rw[L];simp),aB ((VX KC).mpr L)]at c;exact aN (hz none c.symm)
   rw[bN h0];have h5:¬pG M.length (iX M g S)=true:=λh=>h0 (I.zero_iff.mpr ((VX KC).mp h));refine aQ ⟨_,Z,p,_,O,_,_,Z,J,T.k.cl,T.y,zV _ _ _ _,B,d0,_,Z,C,zW _ _ _ _ (by simp),_,Z,B,n,M,N,_,Z,G,I,_,Z,?_⟩;cases ht:iX M g S M.length with
   |true=>
    rw[aB ht]at c;exact aN ⟨_,Z,hz (some e) c.symm⟩
   |false=>
    rw[aA (by rw[ht];simp),aA h5]at c;exact aQ ⟨_,Z,_,_,Z,Z,_,N,e+1,_,Z,Z,I,KC,c⟩
 rintro σ H2 ⟨v4,a,e,S,rfl,rfl,ha,W,hE⟩;rw[List.drop_eq_nil_of_le (by simp [hP.len])]at hE;have hE:none=mC b M m k:=hE;rw[<- hE]at q;exact q H2 s1
end
section
def aEg(r p a f:V):(nI r p a f).lookup ("least_end":Str)=none:=Cu _ _ _ _ (by decide +kernel) (by decide +kernel) (by decide +kernel) (by decide +kernel)
def aEh(z:Option Nat):(!decide (V.int (NL z)=V.int (-1)))=z.isSome:=by
 cases z with
 |none=>rfl
 |some j=>
  rw[bN]
  ·rfl
  intro h;have h:((j:Nat):Int)= -1:=V.int.inj h;lia
end
section
variable{P:Program}{w:World}{K:PySem.W.Frag}{mg:Str->Option Value}{base:Heap}(T:Txt K mg)
def FQ(H:Hp)(p:Addr)(x:Nat×Nat):Prop:=H p=some (.tup [.int ((x.1:Nat):Int),.int ((x.2:Nat):Int)])
inductive aEi(CZ CF:Addr)(vs:List V)(H:Hp)(Q:VK)(E:XK):Prop
 |mk (p:Addr) (how n:Nat) (M m:List Gh.May) (_:vs=[.ref p]) (_:SrAt CZ CF how n H p M m) (_:m.length<=70000) (_:M.length<=64) (_:uE M) (_:∀(H':Hp) (z:Addr),Same H H'->H z=none->ListAt FQ H' z (kK how M m 0)->Q (.ref z) H')
def aEj:gG P w mg base 4 T.aJ ["self"] (aEi (lA T) (eO T)):=by
 refine⟨aV T.aJ.F ["self","finds","start","end"] λcdv A outer s H vs Q E nd hr h=> ?_,T.k.cl⟩;obtain⟨p,how,n,M,m,rfl,hZ,h70,h64,hno,q⟩:=h;obtain⟨dx,pr,pl,al,fp,ws,z1,z2,z3,hP,hF⟩:=hZ.ex;refine⟨_,aF (bA 1 (cE aD))
  (aF (gQ dR Z (vE (by rfl) T.u (aC (fU (r:=sG K) gD (by rfl) T.i gC (aC (bJ (pv 0) Z) aD)) aD)) (dP 2)
   (aF (bA 3 (bZ (pv 0) (aEf T) hr (aC (pv 2) aD)))
   (aG (aY (bT kW (pv 3) (bC T.aj)) (aG (eY (fV fJ gO gP gR (pv 1) (aC (xT (aC (pv 2) (aC (pv 3) aD))) aD)))) bD))))
  (aG (aI (pv 1)))),?_⟩
 try dsimp only [aT,aR,Cx.nox]
 have hL:(fR m 0).length<=70000:=by rw[yY];exact aZ (AO _ _) h70
 refine⟨bH _,λD hD=> ?_⟩;have z1':=Same.new (o:= .lst []) hD _ _ z1;have z2':=Same.new (o:= .lst []) hD _ _ z2;refine⟨_,Z,p,_,dx,_,_,Z,z1',T.k.cl,T.ad,Ct _ _ _ _,pl,_,Z,.inl (SqL.of z2'),_,Z,?_⟩;rw[aO,kO];refine⟨by lia,by lia,?_⟩;rw[sM];refine vF (lo:=0) (n:=(fR m 0).length) (λi σ H'=>∃(v2 v3:Option V) (qs:List Addr),σ= [some (.ref p),some (.ref D),v2,v3]/\Same H H'/\H' D=some (.lst (qs.map V.ref))/\qs.length<=i/\All2 (λb x=>b≠D/\FQ H' b x) qs ((List.range i).filterMap λk=>(mC how M m k).map λj=>(k,j)))
  ⟨none,none,[],Z,Same.new hD,aH,aK _,.nil⟩ ?_ ?_
 ·rintro i σ H2 hi ⟨v2,v3,qs,rfl,s2,hq,hlen,hA⟩;have ek:(0:Int)+((i:Nat):Int)=((i:Nat):Int):=by lia
  rw[ek];refine⟨_,Z,p,dx,_,Z,s2 _ _ z1,aEg _ _ _ _,_,Z,p,i,how,n,M,m,Z,hZ.same s2,hi,h64,hno,λH3 s3=> ?_⟩;refine⟨_,Z,Z,_,Z,?_⟩;rw[aEh];have hq3:=s3 _ _ hq;have hA3:All2 (λb x=>b≠D/\FQ H3 b x) qs ((List.range i).filterMap λk=>(mC how M m k).map λj=>(k,j)):=hA.mono λb x h=>⟨h.1,s3 _ _ h.2⟩;rw[List.range_succ,AM,lH];cases e:mC how M m i with
  |none=>
   refine aQ ⟨_,_,qs,Z,s2.trans s3,hq3,by lia,?_⟩;show All2 _ qs (_++[]);rw[bU];exact hA3
  |some j=>
   refine aN ⟨_,Z,.inl ⟨Z,_,SqL.of hq3⟩,_,Z,_,Z,(show 2<=sizeLine by decide),λt ht=> ?_⟩;have htD:t≠D:=(cH hq3 ht).symm;refine⟨D,_,_,Z,Z,Same.new ht _ _ hq3,dG (show(qs.map V.ref).length<=70000 by rw[aO];lia) (by decide),?_⟩;refine⟨_,_,qs++[t],Z,Same.put ((s2.trans s3).trans (Same.new ht)) hD,by rw[aH,dN];rfl,by rw[bF];exact kR hlen,?_⟩;refine All2.snoc (hA3.mono λb x h=>⟨h.1,?_⟩) ⟨htD,?_⟩;·exact(bB h.1).trans (Same.new ht _ _ h.2)
   exact(bB htD).trans aH
 rintro σ H2 ⟨v2,v3,qs,rfl,s2,hq,hlen,hA⟩;refine⟨_,Z,q H2 D s2 hD ⟨qs,hq,?_⟩⟩;rw[XA];exact hA.mono λb x h=>h.2
def aEk(r p a f:V):(nI r p a f).lookup ("all_finds":Str)=none:=Cu _ _ _ _ (by decide +kernel) (by decide +kernel) (by decide +kernel) (by decide +kernel)
def uM(a:Nat)(b t p:Gh.Bytes):MC:=if 1048576<b.length\/2048<t.length\/4096<p.length then .error (-2)else if 1<a then .error (-1)else zL b (some t) (some p)
def aEl(a:Nat)(b t p:Gh.Bytes)(g:Gh.Signs->Gh.Pattern->List Item->List Int):yT a b t p g=match uM a b t p with
  | .error z=>[z]
  | .ok x=>g x.1 x.2.2 x.2.1:=by
 unfold yT uM zL;by_cases h:1048576<b.length\/2048<t.length\/4096<p.length;·rw[aB h,aB h]
 rw[aA h,aA h];by_cases c:1<a;·rw[aB c,aB c]
 rw[aA c,aA c];cases dD b.length [] b with
 |none=>rfl
 |some l=>
  dsimp only;rw[Tr];cases lZ t with
  |none=>rfl
  |some its=>
   dsimp only;cases(iV 64 [] p).1 with
   |none=>rfl
   |some L=>
    dsimp only;by_cases e:iW l its=false;·rw[aB e,aB e]
    rw[aA e,aA e]
inductive aEm(K:PySem.W.Frag)(CK CS CI CA:Addr)(vs:List V)(H:Hp)(Q:VK)(E:XK):Prop
 |mk (ab at' ap:Addr) (b t p:Gh.Bytes) (_:vs=[.ref ab,.ref at',.ref ap]) (_:SqL K H ab (bv b)) (_:SqL K H at' (bv t)) (_:SqL K H ap (bv p)) (_:t.length<=70000) (_:∀(H':Hp) (z:Addr),Same H H'->MD CK CS CI CA H' z (zL b (some t) (some p))->Q (.ref z) H')
def aEn:bR P w base 14 T.bE ["b","t","p"] (aEm K (yB T) (eQ T) (cI T) (gF T)):=by
 refine aV T.bE.F ["b","t","p","signs","text","atoms"] λe7 A e6 s H vs Q E nd a h=> ?_;obtain⟨Y,e,ap,b,t,p,rfl,hB,hT,h5,h0,q⟩:=h;refine⟨_,aF (bA 3 (aX (Zl T) a (aC (iM (LP T) a (aC (pv 0) aD)) aD)))
  (aF (aY (fK (fT (pv 3))) (aG (aI (aX (wO T) a (aC (bC T.cZ) aD)))) bD)
  (aF (bA 4 (mK (fK (fT (pv 1))) (cE aD) (aX (aCN T) a (aC (iM (LP T) a (aC (pv 1) aD)) aD))))
  (aF (aY (fK (fT (pv 4))) (aG (aI (aX (wO T) a (aC (bC T.dc) aD)))) bD)
  (aF (bA 5 (mK (fK (fT (pv 2))) (cE aD) (aX (Wy T) a (aC (iM (LP T) a (aC (pv 2) aD)) aD))))
  (aF (aY (fK (fT (pv 5))) (aG (aI (aX (wO T) a (aC (bC T.da) aD)))) bD)
  (aF (aY (iI (bY (aX (aAH T) a (aC (pv 4) (aC (pv 3) aD))))) (aG (aI (aX (wO T) a (aC (bC T.ds) aD)))) bD)
  (aG (aI (iM (Aq T) a (aC (bC T.bg) (aC (pv 3) (aC (pv 4) (aC (pv 5) aD))))))))))))),?_⟩
 try dsimp only [aT,aR,Cx.nox]
 unfold zL at q;refine⟨_,Z,?_⟩;intro c dx nc nd ne;refine⟨c,Y,dx,Z,aH,λH1 h1 k1=>⟨Z,?_⟩⟩;have s1:Same H H1:=Same.made nc nd k1;have x1:Cur K (bI T) c Y b H1 b:=⟨s1.seq hB,dx,0,h1,bH _,Z⟩;refine⟨c,Y,b,b,Z,x1,λeN m k2=> ?_,λl eL m W k2 e8 hl=> ?_⟩;·rw[eN]at q;exact⟨_,Z,_,Z,aN ⟨-3,Z,λH3 z s3 h3=>q H3 z ((Same.keepC s1 nc k2).trans s3) ⟨by decide,h3⟩⟩⟩
 rw[eL]at q;dsimp only at q;have s2:Same H m:=Same.keepC s1 nc k2;have h7:ListAt (SignAt (eQ T) λ_=>True) m W l:=ListAt.imp (rel':=SignAt (eQ T) λ_=>True) (λ_ _ h=>h.imp λ_ _=>trivial) hl;refine⟨_,Z,_,Z,aQ ⟨_,Z,_,Z,aQ ⟨_,Z,?_⟩⟩⟩;intro c2 n i e3 x0;refine⟨c2,e,n,Z,aH,λH4 h4 k4=>⟨Z,?_⟩⟩;have s4:Same m H4:=Same.made i e3 k4;have x4:Cur K (bI T) c2 e t H4 t:=⟨s4.seq (s2.seq hT),n,0,h4,bH _,Z⟩;refine⟨c2,e,t,t,Z,x4,h0,λeN k k5=> ?_,λf eS k zt k5 e9 ht=> ?_⟩;·rw[eN]at q;exact⟨_,Z,_,Z,aN ⟨-6,Z,λM z O h6=>q M z ((s2.trans (Same.keepC s4 i k5)).trans O) ⟨by decide,h6⟩⟩⟩
 rw[eS]at q;dsimp only at q;have s5:Same m k:=Same.keepC s4 i k5;have e0:ListAt (SignAt (eQ T) λ_=>True) k W l:=h7.same (λ_ _ h=>h.move (.same s5)) s5;have e1:ListAt (ItemAt (cI T) λ_=>True) k zt f:=ListAt.imp (rel':=ItemAt (cI T) λ_=>True) (λ_ _ h=>h.imp λ_ _=>trivial) ht;refine⟨_,Z,_,Z,aQ ⟨_,Z,_,Z,aQ ⟨_,Z,?_⟩⟩⟩;intro c3 r G e4 x2;refine⟨c3,ap,r,Z,aH,λM h6 k6=>⟨Z,?_⟩⟩;have O:Same k M:=Same.made G e4 k6;have I:=s2.trans s5;have x6:Cur K (bI T) c3 ap p M p:=⟨O.seq (I.seq h5),r,0,h6,bH _,Z⟩;refine⟨c3,ap,p,p,Z,x6,λH7 v x7 k7 o7=> ?_⟩;have J:Same k H7:=Same.keepC O G k7;have C:=e0.same (λ_ _ h=>h.move (.same J)) J;have D:=e1.same (λ_ _ h=>h.move (.same J)) J;have j:=I.trans J;refine⟨_,Z,_,Z,?_⟩;generalize iV 64 [] p=X at x7 o7 q;obtain⟨o,r7⟩:=X;cases o with
 |none=>
  have ev:v= .non:=o7;subst ev;exact aN ⟨-10,Z,λH8 z U h8=>q H8 z (j.trans U) ⟨by decide,h8⟩⟩
 |some L=>
  obtain⟨za,rfl,hA⟩:=o7;dsimp only at q;have y:l.length<=512:=IT _ _ _ _ eL (by decide);have B:=(KW _ _ _ _ eL AL).1;refine aQ ⟨_,Z,_,Z,zt,W,_,_,f,l,Z,D,C,B,y,λH8 U=>⟨_,Z,?_⟩⟩;cases eh:iW l f with
  |false=>
   rw[aB eh]at q;exact aN ⟨-9,Z,λN z d h9=>q N z ((j.trans U).trans d) ⟨by decide,h9⟩⟩
  |true=>
   rw[aA (by rw[eh];simp)]at q;refine aQ ⟨_,Z,_,Z,_,Z,?_⟩;intro x u nx e5 x3;refine⟨x,u,_,_,_,_,Z,aH,λN h9 k9=>⟨Z,?_⟩⟩;have d:Same H7 N:=U.trans (Same.made nx e5 k9);refine q N x (j.trans d) ⟨u,W,zt,za,h9,C.same (λ_ _ h=>h.move (.same d)) d,D.same (λ_ _ h=>h.move (.same d)) d,?_⟩;obtain⟨ps,e2,h2⟩:=hA;exact⟨ps,d _ _ e2,h2.mono λ_ _ h=>(h.imp λ_ _=>trivial).same d⟩
inductive aEo(K:PySem.W.Frag)(CK CS CI CA:Addr)(vs:List V)(H:Hp)(Q:VK)(E:XK):Prop
 |mk (how:Nat) (ab at' ap:Addr) (b t p:Gh.Bytes) (_:vs=[.int ((how:Nat):Int),.ref ab,.ref at',.ref ap]) (_:SqL K H ab (bv b)) (_:SqL K H at' (bv t)) (_:SqL K H ap (bv p)) (_:∀(H':Hp) (z:Addr),Same H H'->MD CK CS CI CA H' z (uM how b t p)->Q (.ref z) H')
def aEp:bR P w base 15 T.aN ["how","b","t","p"] (aEo K (yB T) (eQ T) (cI T) (gF T)):=by
 refine aV T.aN.F ["how","b","t","p"] λI A y s H vs Q E L v h=> ?_;obtain⟨e,B,j,C,b,t,p,rfl,u,G,D,q⟩:=h;have J:=u;refine⟨_,aF (aY (PW.pt (jE (bT vI (fU (r:=sG K) gD (by rfl) T.i gC (aC (pv 1) aD)) (bC T.cQ)) (jE (bT vI (fU (r:=sG K) gD (by rfl) T.i gC (aC (pv 2) aD)) (bC T.cX)) (kU (bT vI (fU (r:=sG K) gD (by rfl) T.i gC (aC (pv 3) aD)) (bC T.cS)))))) (aG (aI (aX (wO T) v (aC (bC T.dq) aD)))) bD)
  (aF (aY (bT vI (pv 0) (bC T.bl)) (aG (aI (aX (wO T) v (aC (bC T.db) aD)))) bD)
  (aG (aI (aX (aEn T) v (aC (pv 1) (aC (pv 2) (aC (pv 3) aD))))))),?_⟩
 try dsimp only [aT,aR,Cx.nox]
 unfold uM at q;have a:∀(k:Nat) (x:Gh.Bytes),decide (((k:Nat):Int)<(((bv x).length:Nat):Int))=decide (k<x.length):=λk x=>by rw[CC];exact al_43.mpr (by lia)
 refine⟨_,Z,B,_,Z,.inl u,_,_,Z,Z,_,Z,?_⟩;rw[show decide ((1048576:Int)<((bv b).length:Int))=decide (1048576<b.length)from a 1048576 b];by_cases l:1048576<b.length;·rw[bP l];rw[aB (.inl l)]at q;exact aN (aN ⟨-2,Z,λc z f d=>q c z f ⟨by decide,d⟩⟩)
 rw[bN l];refine aQ ⟨_,Z,j,_,Z,.inl G,_,_,Z,Z,_,Z,?_⟩;rw[show decide ((2048:Int)<((bv t).length:Int))=decide (2048<t.length)from a 2048 t];by_cases m:2048<t.length;·rw[bP m];rw[aB (.inr (.inl m))]at q;exact aN (aN ⟨-2,Z,λc z f d=>q c z f ⟨by decide,d⟩⟩)
 rw[bN m];refine aQ ⟨_,Z,C,_,Z,.inl D,_,_,Z,Z,_,Z,?_⟩;rw[show decide ((4096:Int)<((bv p).length:Int))=decide (4096<p.length)from a 4096 p];by_cases n:4096<p.length;·rw[bP n];rw[aB (.inr (.inr n))]at q;exact aN ⟨-2,Z,λc z f d=>q c z f ⟨by decide,d⟩⟩
 rw[bN n];rw[aA (by rintro(z|z|z);exact l z;exact m z;exact n z)]at q;refine aQ ⟨_,Z,_,_,Z,Z,_,Z,?_⟩;rw[show decide ((1:Int)<((e:Nat):Int))=decide (1<e)from al_43.mpr (by lia)];by_cases o:1<e;·rw[bP o];rw[aB o]at q;exact aN ⟨-1,Z,λc z f d=>q c z f ⟨by decide,d⟩⟩
 rw[bN o];rw[aA o]at q;exact aQ ⟨_,Z,_,Z,_,Z,B,j,C,b,t,p,Z,u,G,D,by lia,q⟩
structure Cv(how:Nat)(x:Gh.Signs×List Item×List Gh.Atom):Prop where
 how1:how<=1
 sg:wQ x.1
 dis:Distinct x.1
 good:Goods x.2.1
 len:x.2.1.length<=70000
 has:iW x.1 x.2.1=true
 l64:x.2.2.length<=64
def aEq(h:uM d b t p= .ok x):Cv d x:=by
 unfold uM at h;split at h;·cases h
 rename_i n;split at h;·cases h
 rename_i m;unfold zL at h;cases a:dD b.length [] b with
 |none=>rw[a]at h;cases h
 |some l=>
  rw[a]at h;dsimp only at h;cases e:lZ t with
  |none=>rw[e]at h;cases h
  |some its=>
   rw[e]at h;dsimp only at h;have j:=aCH e;cases f:(iV 64 [] p).1 with
   |none=>rw[f]at h;cases h
   |some L=>
    rw[f]at h;dsimp only at h;split at h;·cases h
    rename_i k;cases h;have c:=KW _ _ _ _ a AL;exact⟨by lia,⟨UG _ _ _ _ a (λ_ i=>by cases i),UE _ _ _ _ a (λ_ i=>by cases i),IT _ _ _ _ a (by decide),List.length_pos_iff.mpr c.2⟩,c.1,aDa e,by show its.length<=70000;lia,by show iW l its=true;simpa using k,SB 64 [] p L f (aK _)⟩
def aEr(l:Gh.Signs)(c:List Item):∀q,some q∈jP l c->∀k∈q,k<l.length:=by
 intro q d k b;obtain⟨x,_,a⟩:=al_145.mp d;have up:∀f:Gh.Sign->Bool,k∈bL f 0 l->k<l.length:=λf h=>by have:=FA f l 0 k h;lia
 cases x with
 |brk=>cases a
 |sgn s=>
  have e:s.may l=q:=by cases a;rfl
  rw[<- e,DV]at b;exact up _ b
 |gap n g=>
  have a:(Gh.gapMay l n g).map some=some (some q):=a;rw[JY]at a;split at a
  ·have e:bL (λx=>decide (x.shape.wide<=n)&&decide (x.shape.high<=n)) 0 l=q:=by cases a;rfl
   rw[<- e]at b;exact up _ b
  cases a
def zX(l:Gh.Signs)(L:List Gh.Atom):List Gh.May:=(gT [] L).map (Gh.Atom.signs l)
def aEs(h:L.length<=64):(zX l L).length<=64:=by unfold zX;rw[aO];exact aZ (DY L []) (by rw[uR,kS];exact h)
def aEt(l:Gh.Signs)(L:List Gh.Atom):uE (zX l L):=Sr l (KL L [] (λ_ h=>by simp at h))
inductive aEu(CZ CF CK CS CI CA:Addr)(vs:List V)(H:Hp)(Q:VK)(E:XK):Prop
 |mk (how:Nat) (p:Addr) (x:Gh.Signs×List Item×List Gh.Atom) (_:vs=[.int ((how:Nat):Int),.ref p]) (_:MD CK CS CI CA H p (.ok x)) (_:Cv how x) (_:∀(H':Hp) (z:Addr),Same H H'->SrAt CZ CF how x.1.length H' z (zX x.1 x.2.2) (jP x.1 x.2.1)->Q (.ref z) H')
def aEv:bR P w base 9 T.ce ["how","asked"] (aEu (lA T) (eO T) (yB T) (eQ T) (cI T) (gF T)):=by
 refine aV T.ce.F ["how","asked"] λh0 A M s H vs Q E J G h => ?_;obtain⟨D,p,⟨l,a,L⟩,rfl,⟨n,O,zt,za,z,o,I,B⟩,ok,q⟩:=h;have o:ListAt (SignAt (eQ T) λ_=>True) H O l:=o;have I:ListAt (ItemAt (cI T) λ_=>True) H zt a:=I;have B:ListAt (AtomAt (gF T) λ_=>True) H za L:=B;refine⟨_,aG (aI (iM (aDZ T) G (aC (pv 0) (aC (aX (aDI T) G (aC (bJ (pv 1) Z) (aC (bJ (pv 1) Z) aD)))
  (aC (iM (aBK T) G (aC (bJ (pv 1) Z) (aC (bJ (pv 1) Z) aD))) aD))))),?_⟩
 try dsimp only [aT,aR,Cx.nox]
 refine⟨_,Z,_,Z,p,_,n,_,_,Z,z,T.m.cl,T.al,aAO _ _ _ _,_,Z,p,_,n,_,_,Z,z,T.m.cl,T.Z,Ap _ _ _ _,zt,O,_,_,a,l,Z,I,o,λx U=>⟨ok.sg.wf x U,ok.sg.sm x U⟩,ok.sg,ok.dis,ok.good,ok.len,ok.has,λv zr k f=> ?_⟩;have C:=o.same (λ_ _ h=>h.move (.same k)) k;have d:=k _ _ z;refine⟨_,Z,p,_,n,_,_,Z,d,T.m.cl,T.ak,aAP _ _ _ _,_,Z,p,_,n,_,_,Z,d,T.m.cl,T.Z,Ap _ _ _ _,?_⟩;intro r b W J ne;have N:Same v (aE (aE v b (.own r)) r (.ins (eO T) b [])):=Same.made W J λ_ _ e _=>e;refine⟨r,b,za,O,_,l,L,Z,aH,B.sameA (k.trans N),ok.l64,C.same (λ_ _ h=>h.move (.same N)) N,ok.sg,λy k3 f3=>⟨Z,?_⟩⟩;have X:Same v y:=Same.made W J k3;intro u c j i h2;have Y:Same y (aE (aE y c (.own u)) u (.ins (lA T) c [])):=Same.made j i λ_ _ e _=>e;refine⟨u,c,D,zr,r,l.length,zX l L,jP l a,Z,aH,ok.how1,(f.same X).same Y,FitAt.same f3 Y,aEr l a,aZ (AT _ _) ok.len,λH5 k5 z5=>⟨Z,?_⟩⟩;exact q H5 u ((k.trans X).trans (Same.made j i k5)) z5
def aEw(h:z≠0):(!decide (V.int z=V.int 0))=true:=by rw[bN (λe=>h (by injection e))];rfl
end
section
def aEx(l:Addr)(items:Array Value)(n:Nat)(b:Addr)(items2:Array Value)(n2:Nat)(od:Option Addr)(osl:Array (Option Value))(hs0:¬(!items.isEmpty&&Builtin.List.listTooLong (items.size+items2.size))=true)(hs1:items.size<=sizeLine)(hs2:items.size+items2.size<=sizeLine+1):
  Meets (Builtin.«list.extend» ⟨[.ref l,.ref b],[]⟩) (λ_ R s=>s.heap.get? l=some {cls:= .type "list",dict:=none,data:= .seq items n,slots:= #[]}/\s.heap.get? b=some {cls:= .type "tuple",dict:=od,data:= .seq items2 n2,slots:=osl}/\R (.ok (.ret Value.none)) {s with heap:=s.heap.update l (Obj.mapSeq λx=>x++items2),toks:=s.toks}):=
 .of_wp λprog w A R s h=>by
  obtain⟨hp,g,d,tk,os⟩:=s;obtain⟨hl,hb,h⟩:=h;have f1:=AutoSeq1.idx_int;have f2:=AutoSeq1.sub_tuple_tuple;have f3:=AutoSeq1.sub_list_list;have f4:=AutoSeq1.sub_tuple_list;have f5:=AutoSeq1.sub_list_tuple;have hz':(items++items2).size<=sizeLine+1:=by rw[Array.size_append];exact hs2
  wp_walk using(wpAny_updateSeq hl Z (hz:=hs1) (_hz':=hz')),AutoSeq1.wpAny_loadPart' hl,AutoSeq1.wpAny_loadPart' hb
  exact⟨_,Z,h⟩
def aEy(K:PySem.W.Frag):V->List V->Hp->VK->Prop:=λx vs H Q=>∃l b xs zs,x= .ref l/\vs=[.ref b]/\H l=some (.lst xs)/\SqT K H b zs/\xs.length+zs.length<=sizeLine/\Q .non (aE H l (.lst (xs++zs)))
def aEz:BJ X "list.extend" (aEy X.K):=by
 intro pins s σ H x vs v us Q I rx rv h;obtain⟨l,b,xs,zs,rfl,rfl,hH,hB,hz,q⟩:=h;cases rx;obtain⟨u,rfl,ru⟩:=rv.one;cases ru;obtain⟨z,its,n,r,hl,e⟩:=I.lstM hH;obtain⟨its2,r2,⟨⟨oc,od,odat,osl⟩,e2,hc,n2,hd⟩,hl2⟩:=I.tuple hB;dsimp only at hc hd;subst hc hd;have len2:=r2.length;have hsz:its.toArray.size+its2.toArray.size<=sizeLine:=by rw[dL,dL];lia
 have hlong:¬(!its.toArray.isEmpty&&Builtin.List.listTooLong (its.toArray.size+its2.toArray.size))=true:=by rw[HE hsz,nJ];exact bX
 refine call_meets F.slot_list_extend ⟨_,e,Z⟩ F.entry_list_extend (F.args_list_extend_2 _ _) (aEx l its.toArray n b its2.toArray n2 od osl hlong (by rw[dL];lia) (by lia)) ⟨e,e2,?_⟩;refine⟨.non,_,I.lset (its':=its++its2) hH e (by simp) (r.append r2) ?_,Z,q⟩;rw[bF];lia
end
section
variable{P:Program}{w:World}{K:PySem.W.Frag}{mg:Str->Option Value}{base:Heap}(T:Txt K mg)
def aEA(L:List (Nat×Nat))(x:Nat×Nat):pF (L++[x])=pF L++[(x.1:Int),(x.2:Int)]:=by
 unfold pF;rw[List.flatMap_append];rfl
def aEB(L:List (Nat×Nat)):(pF L).length=2*L.length:=by
 induction L with
 |nil=>rfl
 |cons a L ih=>
  show(pF L).length+1+1=2*(L.length+1);lia
inductive aEC(K:PySem.W.Frag)(vs:List V)(H:Hp)(Q:VK)(E:XK):Prop
 |mk (z:Addr) (L:List (Nat×Nat)) (_:vs=[.ref z]) (_:ListAt FQ H z L) (_:L.length<=70000) (_:∀(H':Hp) (y:Addr),Same H H'->H' y=some (.lst ((((L.length:Nat):Int)::pF L).map V.int))->Q (.ref y) H')
def aED:bR P w base 1 T.cn ["finds"] (aEC K):=by
 refine aV T.cn.F ["finds","answer","find"] λcdv A outer s H vs Q E nd hr h=> ?_;obtain⟨z,L,rfl,⟨ps,hp,hA⟩,h70,q⟩:=h;refine⟨_,aF (bA 1 (cE (aC (fU (r:=sG K) gD (by rfl) T.i gC (aC (pv 0) aD)) aD)))
  (aF (gQ dR Z (jK (pv 0)) (dP 2)
   (aG (eY (fV fJ GC GD aEz (pv 1) (aC (pv 2) aD)))))
  (aG (aI (pv 1)))),?_⟩
 try dsimp only [aT,aR,Cx.nox]
 refine⟨_,Z,z,_,Z,.inl (SqL.of hp),(show 1<=sizeLine by decide),λD hD=> ?_⟩;have s1:=Same.new (o:= .lst [V.int (((ps.map V.ref).length:Nat):Int)]) hD;refine⟨_,Z,z,Z,⟨_,SqL.of (s1 _ _ hp)⟩,mM (K:=K) (a:=z) (xs:=ps.map V.ref) (λi σ H'=>∃v2:Option V,σ= [some (.ref z),some (.ref D),v2]/\Same H H'/\H' D=some (.lst ((((L.length:Nat):Int)::pF (L.take i)).map V.int)))
  ⟨none,Z,s1,by rw[aH,aO,hA.len];rfl⟩ (by rintro i σ H' _ ⟨_,_,s,_⟩;exact SqL.of (s _ _ hp)) ?_ ?_⟩
 ·rintro i y σ H2 hi ⟨v2,rfl,s2,hq⟩;obtain⟨pi,hpi,rfl⟩:=pH hi;obtain⟨x,hx,hc⟩:=hA.sm hpi;have hil:i<L.length:=(al_19.mp hx).1;refine⟨_,Z,.inl ⟨Z,_,SqL.of hq⟩,_,Z,D,pi,_,_,Z,Z,hq,SqT.of (s2 _ _ hc),?_,?_⟩
  ·refine aZ (show _<=200000 from ?_) (show 200000<=sizeLine by decide);rw[aO,cG,aEB,iH];show _+2<=_;lia
  refine⟨_,Z,Same.put s2 hD,?_⟩;rw[aH,lG hx,aEA,<- qU,dN];rfl
 rintro σ H2 ⟨v2,rfl,s2,hq⟩;rw[aO,hA.len,gN]at hq;exact⟨_,Z,q H2 D s2 hq⟩
inductive Cw(K:PySem.W.Frag)(vs:List V)(H:Hp)(Q:VK)(E:XK):Prop
 |mk (how:Nat) (ab at' ap:Addr) (b t p:Gh.Bytes) (_:vs=[.int ((how:Nat):Int),.ref ab,.ref at',.ref ap]) (_:SqL K H ab (bv b)) (_:SqL K H at' (bv t)) (_:SqL K H ap (bv p)) (_:∀(H':Hp) (z:Addr),H' z=some (.lst ((JT how b t p).map V.int))->Q (.ref z) H')
def aEE:bR P w base 16 T.H ["how","b","t","p"] (Cw K):=by
 refine aV T.H.F ["how","b","t","p","asked"] λcdv A outer s H vs Q E nd hr h=> ?_;obtain⟨how,ab,at',ap,b,t,p,rfl,hB,hT,hP,q⟩:=h;refine⟨_,aF (bA 4 (aX (aEp T) hr (aC (pv 0) (aC (pv 1) (aC (pv 2) (aC (pv 3) aD))))))
  (aF (aY (bT kW (bJ (pv 4) Z) (bC T.bg)) (aG (aI (cE (aC (bJ (pv 4) Z) aD)))) bD)
  (aG (aI (aX (aED T) hr (aC (fW (aX (aEv T) hr (aC (pv 0) (aC (pv 4) aD))) (aEj T) hr) aD))))),?_⟩
 try dsimp only [aT,aR,Cx.nox]
 have one:∀(z:Int) (l:List Int) (H1:Hp),l=[z]->(∀(H':Hp) (y:Addr),H' y=some (.lst (l.map V.int))->Q (.ref y) H')->([V.int z].length<=sizeLine/\∀y,H1 y=none->Q (.ref y) (aE H1 y (.lst [V.int z]))):=λz l H1 e q=>by subst e;exact⟨by show 1<=sizeLine;decide,λy _=>q _ y aH⟩
 unfold JT at q;rw[aEl]at q;refine⟨_,Z,_,Z,_,Z,_,Z,how,ab,at',ap,b,t,p,Z,hB,hT,hP,λH1 z s1 hz=> ?_⟩;cases eA:uM how b t p with
 |error zz=>
  rw[eA]at hz q;obtain⟨hn,dx,s,u,a,h1⟩:=hz;refine⟨_,Z,z,_,dx,_,_,Z,h1,T.m.cl,T.O,MB _ _ _ _,Z,_,Z,?_⟩;rw[aEw hn];exact aN ⟨_,Z,z,_,dx,_,_,Z,h1,T.m.cl,T.O,MB _ _ _ _,one _ _ _ Z q⟩
 |ok x=>
  have ok:=aEq eA;rw[eA]at hz q;obtain⟨dx,zl,zt,za,h1,_⟩:=id hz;refine⟨_,Z,z,_,dx,_,_,Z,h1,T.m.cl,T.O,MB _ _ _ _,Z,_,Z,aQ ?_⟩;refine⟨_,Z,_,Z,how,z,x,Z,hz,ok,λH2 zs s2 hZ=> ?_⟩;dsimp only at q;rw[Ry,Ss]at q;obtain⟨dz,pr,pl,al,fp,ws,z1,_⟩:=hZ.ex;refine⟨zs,dz,_,Z,z1,aEk _ _ _ _,zs,how,_,_,_,Z,hZ,aZ (AT _ _) ok.len,aEs (l:=x.1) ok.l64,aEt x.1 x.2.2,λH3 y s3 hy hL=> ?_⟩;refine⟨y,_,Z,hL,?_,λH4 u s4 hu=>q H4 u hu⟩;rw[XA];refine aZ (AT _ _) ?_;rw[iU,yY];exact aZ (AO _ _) (aZ (AT _ _) ok.len)
def aEF:∀(s:Shared) (us:List Value),us.length=(["how","b","t","p"]:List Str).length->BindsTo s T.H.fd ⟨us,[]⟩ (((["how","b","t","p"]:List Str)).zip us):=Wz T.H.F λ_ _ _ _ _ _=>AllL.all λ_ _ _ _=>rfl
end
end Sg

namespace Sg
open PySem PySem.Spec PyProof.Rows L2
open PySem.W (Codec)
section
variable{K:PySem.W.Frag}{h:Heap}{mg:Str->Option Value}{f C:Addr}{x m qual:Str}{st:Stmt}{od an:Option Addr}{sl:Array (Option Value)}{oc kV dc pm cd ct:Value}
def aEG(X:K.In h)(G:h.Ns mainGlobals mg)(a:PySem.W.nsIn K mainGlobals x=some (some (.ref f)))(l:K.lookup f=some ⟨oc,od,.func (PySem.W.fnOf x x (qD st) (nT st) (gE st) .none kV dc pm an cd ct),sl⟩)(c:PySem.W.codeIn K cd x=true)(k:PySem.W.keepIn K (.ref f)=true):bO x st K mg:=
 ⟨f,_,HR (st:=st) l c k,xI X G a⟩
def aEH(a:PySem.W.findIn K (.ref C) m=some (some (.ref f)))(i:PySem.W.isFn K (.ref f)=true)(l:K.lookup f=some ⟨oc,od,.func (PySem.W.fnOf m qual (qD st) (nT st) (gE st) .none kV dc pm an cd ct),sl⟩)(c:PySem.W.codeIn K cd qual=true)(k:PySem.W.keepIn K (.ref f)=true):fN m qual st K C:=
 ⟨f,_,HR (st:=st) l c k,⟨a,i,k⟩⟩
def Cy(X:K.In h)(G:h.Ns mainGlobals mg)(a:PySem.W.nsIn K mainGlobals x=some (some (.ref C)))(b:PySem.W.findIn K (.ref C) "__init__"=some (some (.ref f)))(i:PySem.W.isFn K (.ref f)=true)(l:K.lookup f=some ⟨oc,od,.func (PySem.W.fnOf "__init__" qual (qD st) (nT st) (gE st) .none kV dc pm an cd ct),sl⟩)(c:PySem.W.codeIn K cd qual=true)(k:PySem.W.keepIn K (.ref f)=true)
  (pg:PySem.W.plainGet K C Str.empty=true) (hd:PySem.W.hasDictIn K C=true) (po:PySem.W.plainOver K C=true) (sa:PySem.W.findIn K (.ref C) "__setattr__"=some (some (.builtin "object.__setattr__"))) (mk:PySem.W.makesIn K C=true) (kc:PySem.W.keepIn K (.ref C)=true):nU x qual st K mg:=
 ⟨C,f,_,HR (st:=st) l c k,⟨mk,b,i,kc⟩,⟨pg,hd,po,sa⟩,xI X G a⟩
def aEI{g:Tok->Value}{t:Tok}(X:K.In h)(G:h.Ns mainGlobals mg)(a:PySem.W.nsIn K mainGlobals x=some (some (g t))):∃t,mg x=some (g t):=⟨t,xI X G a⟩
def aEJ(z:Int)(h:0<=z/\z<=4294967295):z=((z.toNat:Nat):Int)/\z.toNat<2^62:=by omega
def aEK{d:Addr}{i1 i2 i3 i4:Int}{t1 t2 t3 t4:Tok}{nn:Nat}(X:K.In h)(G:h.Ns mainGlobals mg)(a:PySem.W.nsIn K mainGlobals x=some (some (.ref d)))(l:K.lookup d=some ⟨.type "tuple",od,.seq #[.int i1 t1,.int i2 t2,.int i3 t3,.int i4 t4] nn,sl⟩):
  ∃a,mg x=some (.ref a)/\∃(o:Obj) (its:Array Value) (n:Nat),K.lookup a=some o/\o.cls= .type "tuple"/\o.data= .seq its n/\its.size<=sizeLine/\Vals ([i1,i2,i3,i4].map V.int) its.toList:=
 ⟨d,xI X G a,_,_,_,l,rfl,rfl,by show 4<=sizeLine;decide,.cons ⟨_,rfl⟩ (.cons ⟨_,rfl⟩ (.cons ⟨_,rfl⟩ (.cons ⟨_,rfl⟩ .nil)))⟩
def aEL{d:Addr}{i1 i2 i3 i4 i5:Int}{t1 t2 t3 t4 t5:Tok}{nn:Nat}(X:K.In h)(G:h.Ns mainGlobals mg)(a:PySem.W.nsIn K mainGlobals x=some (some (.ref d)))(l:K.lookup d=some ⟨.type "tuple",od,.seq #[.int i1 t1,.int i2 t2,.int i3 t3,.int i4 t4,.int i5 t5] nn,sl⟩):
  ∃a,mg x=some (.ref a)/\∃(o:Obj) (its:Array Value) (n:Nat),K.lookup a=some o/\o.cls= .type "tuple"/\o.data= .seq its n/\its.size<=sizeLine/\Vals ([i1,i2,i3,i4,i5].map V.int) its.toList:=
 ⟨d,xI X G a,_,_,_,l,rfl,rfl,by show 5<=sizeLine;decide,.cons ⟨_,rfl⟩ (.cons ⟨_,rfl⟩ (.cons ⟨_,rfl⟩ (.cons ⟨_,rfl⟩ (.cons ⟨_,rfl⟩ .nil))))⟩
end
end Sg
open PySem PySem.W PyProof.Rows
set_option maxRecDepth 100000 in
set_option maxHeartbeats 0 in
theorem PySem.Challenge.cw_signsearch_s06_all_of_holds : PySem.Challenge.rw_signsearch_s06_all_of.Holds := by
 refine Sg.hd ?_;refine L2.Jj (r:=PySem.Challenge.rw_signsearch_s06_all_of) (k:=16) (CX:=L2.vM) (ps:=["how","b","t","p"]) (sp:=Sg.Cw) (by decide +kernel) rfl rfl ⟨rfl,by decide,by decide⟩ (fun w h Y=>PySem.W.kIn_of Y) ?F ?S (fun _ _ _ _ z=>z)
 case F=>
  intro w mg fa h Y KX G hmg;have T:Sg.Txt (L2.QK KX) mg:=by
   dsimp only [L2.QK];refine' Sg.Txt.mk ?_ ?_ ?_ ?_ ?_ ?_ ?_ ?_ ?_ ?_ ?_ ?_ ?_ ?_ ?_ ?_ ?_ ?_ ?_ ?_ ?_ ?_ ?_ ?_ ?_ ?_ ?_ ?_ ?_ ?_ ?_ ?_ ?_ ?_ ?_ ?_ ?_ ?_ ?_ ?_ ?_ ?_ ?_ ?_ ?_ ?_ ?_ ?_ ?_ ?_ ?_ ?_ ?_ ?_ ?_ ?_ ?_ ?_ ?_ ?_ ?_ ?_ ?_ ?_ ?_ ?_ ?_ ?_ ?_ ?_ ?_ ?_ ?_ ?_ ?_ ?_ ?_ ?_ ?_ ?_ ?_ ?_ ?_ ?_ ?_ ?_ ?_ ?_ ?_ ?_ ?_ ?_ ?_ ?_ ?_ ?_ ?_ ?_ ?_ ?_ ?_ ?_ ?_ ?_ ?_ ?_ ?_ ?_ ?_ ?_ ?_ ?_ ?_ ?_ ?_ ?_ ?_ ?_ ?_ ?_ ?_ ?_ ?_ ?_ ?_ ?_ ?_ ?_ ?_ ?_ ?_ ?_ ?_ ?_ ?_ ?_ ?_ ?_ ?_ ?_ ?_ ?_ ?_ ?_ ?_ ?_ ?_ ?_ ?_ ?_ ?_ ?_ ?_ ?_ ?_ ?_ ?_ ?_ ?_ ?_ ?_ ?_ ?_ ?_ ?_ ?_ ?_ ?_ ?_ ?_ ?_ ?_ ?_ ?_ ?_ ?_ ?_ ?_ ?_ ?_ ?_ ?_ ?_ ?_ ?_ ?_ ?_ ?_ ?_ ?_ ?_ ?_ ?_ ?_ ?_ ?_ ?_ ?_ ?_ ?_ ?_ ?_ ?_ ?_ ?_ ?_ ?_ ?_ ?_
   all_goals
    (try dsimp only [Sg.Cy]);first
    |(refine' Sg.aEG KX G ?a ?l ?c ?k;(case a=>k_is);(case l=>k_is);(case c=>k_is);(case k=>k_is))
    |(refine' Sg.aEH ?a ?i ?l ?c ?k;(case a=>k_is);(case i=>k_is);(case l=>k_is);(case c=>k_is);(case k=>k_is))
    |(refine' Sg.Cy KX G ?a ?b ?i ?l ?c ?k ?pg ?hd ?po ?sa ?mk ?kc;(case a=>k_is);(case b=>k_is);(case i=>k_is);(case l=>k_is);(case c=>k_is);(case k=>k_is);(case pg=>k_is);(case hd=>k_is);(case po=>k_is);(case sa=>k_is);(case mk=>k_is);(case kc=>k_is))
    |(refine' Sg.aEI KX G ?a;(case a=>k_is))
    |(refine' PySem.W.mg_none_of KX G ?a;(case a=>k_is))
    |(show PySem.W.findIn _ _ _=some none;k_is)
    |(refine' Sg.aEK KX G ?a ?l;(case a=>k_is);(case l=>k_is))
    |(refine' Sg.aEL KX G ?a ?l;(case a=>k_is);(case l=>k_is))
  have e0:=hmg.symm.trans T.H.g;cases e0;exact⟨_,Sg.aEF T,fun base _ _=>(Sg.aEE T).1⟩
 case S=>
  intro K H xs a hO hwi hask hx;cases hx with
  |cons h1 h2=>
   cases h2 with
   |cons h2 h3=>
    cases h3 with
    |cons h3 h4=>
     cases h4 with
     |cons h4 h5=>
      cases h5;cases h1;cases h2 with
      |lst hs3 ha3=>
       cases h3 with
       |lst hs4 ha4=>
        cases h4 with
        |lst hs5 ha5=>
         have e3:=L2.BT a.2.1 _ ha3;have e4:=L2.BT a.2.2.1 _ ha4;have e5:=L2.BT a.2.2.2.1 _ ha5;subst e3 e4 e5;have q:(Codec.inInt 0 4294967295 a.1&&((Codec.inLen 0 100000 a.2.1&&a.2.1.all (Codec.inInt 0 255))&&((Codec.inLen 0 2100 a.2.2.1&&a.2.2.1.all (Codec.inInt 0 255))&&((Codec.inLen 0 4200 a.2.2.2.1&&a.2.2.2.1.all (Codec.inInt 0 255))&&true))))=true:=hwi;simp only [cB]at q;obtain⟨qh,⟨_,qb⟩,⟨_,qt⟩,⟨_,qp⟩,_⟩:=q;have hh:=Codec.inInt_iff.mp qh;have hb:∀z∈a.2.1,0<=z/\z<=255:=fun z hz=>Codec.inInt_iff.mp (al_53.mp qb z hz)
         have ht:∀z∈a.2.2.1,0<=z/\z<=255:=fun z hz=>Codec.inInt_iff.mp (al_53.mp qt z hz)
         have hp:∀z∈a.2.2.2.1,0<=z/\z<=255:=fun z hz=>Codec.inInt_iff.mp (al_53.mp qp z hz)
         rw[Sg.EN hb]at hs3;rw[Sg.EN ht]at hs4;rw[Sg.EN hp]at hs5;have eh:=(Sg.aEJ a.1 hh).1;refine⟨a.1.toNat,_,_,_,_,_,_,by rw[<- eh],hs3,hs4,hs5,fun H' z hz=> .lst (L2.SqL.of (xs:=(PyWqbbca.all_of a.1 a.2.1 a.2.2.1 a.2.2.2.1).map L2.V.int) ?_) (L2.QM _)⟩;rw[Sg.Rr a.1 a.2.1 a.2.2.1 a.2.2.2.1];exact hz
